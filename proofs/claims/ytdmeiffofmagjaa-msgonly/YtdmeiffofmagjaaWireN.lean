/-
  The contract of package wire's U32. Conditions: lengths far below 2^47.
-/
import Derived.Test.YtdmeiffofmagjaaWireNum
namespace Go.Proofs.Ytdmeiffofmagjaa
open Go.RowKit
set_option linter.unusedVariables false

set_option maxHeartbeats 400000 in
theorem u32_any (A : Option Addr) (n c : Nat) (xs : List UInt8) (x : Int) (w : World) (hx : R8 w A xs) (hn : n ≤ 1000000) (hl : Hid (xs.length = n)) (hx0 : 0 ≤ x) (hx1 : x < 4294967296) :
    Calls Try.prog 39 #[.slice A n c, .int .u32 x] w (Wrote w (n + 4) (xs ++ be x.toNat 4)) := by
  go_enter Try.func39, Try.ntmps39
  go_wp2_with fail
  refine (number_lit _ _ _ xs _ _ 4 _ rfl hx hn hl (by omega) hx0 (by omega)).mono ?_
  rintro e w1 ⟨g, d, rfl, hg, hrow, hk⟩
  go_wp2
  go_ret
  exact ⟨g, d, rfl, hg, hrow, hk⟩
end Go.Proofs.Ytdmeiffofmagjaa
