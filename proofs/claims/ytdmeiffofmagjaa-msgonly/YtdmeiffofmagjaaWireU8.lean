/-
  The contract of package wire's U8. Conditions: lengths far below 2^47.
-/
import Derived.Test.YtdmeiffofmagjaaWireNum
namespace Go.Proofs.Ytdmeiffofmagjaa
open Go.RowKit
set_option linter.unusedVariables false

theorem be_one (x : Int) : be (IntKind.u64.wrap x).toNat 1 = [UInt8.ofNat (x % 256).toNat] := by
  have h : UInt8.ofNat (IntKind.u64.wrap x).toNat = UInt8.ofNat (x % 256).toNat := by
    apply UInt8.toNat.inj
    simp only [UInt8.toNat_ofNat', IntKind.wrap, IntKind.signed, IntKind.bits]
    simp
    omega
  simp [be, h]

set_option maxHeartbeats 400000 in
theorem u8_any (A : Option Addr) (n c : Nat) (xs : List UInt8) (x : Int) (w : World) (hx : R8 w A xs) (hn : n ≤ 1000000) (hl : Hid (xs.length = n)) :
    Calls Try.prog 38 #[.slice A n c, .int .i64 x] w (Wrote w (n + 1) (xs ++ [UInt8.ofNat (x % 256).toNat])) := by
  have hb : 0 ≤ IntKind.u64.wrap x ∧ IntKind.u64.wrap x < 18446744073709551616 := by
    simp only [IntKind.wrap, IntKind.signed, IntKind.bits]
    simp
    omega
  have HB := Lib.hid hb
  clear hb
  go_enter Try.func38, Try.ntmps38
  go_wp2_with fail
  refine (number_lit _ _ _ xs _ _ 1 _ rfl hx hn hl (by omega) HB.out.1 HB.out.2).mono ?_
  rintro e w1 ⟨g, d, rfl, hg, hrow, hk⟩
  rw [be_one] at hrow
  go_wp2
  go_ret
  exact ⟨g, d, rfl, hg, hrow, hk⟩

end Go.Proofs.Ytdmeiffofmagjaa
