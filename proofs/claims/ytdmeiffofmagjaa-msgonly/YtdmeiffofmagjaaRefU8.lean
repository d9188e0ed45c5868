/-
  The contract of the document's own U8, package jobberref1. Conditions: lengths far below 2^47.
-/
import Derived.Test.YtdmeiffofmagjaaBeM
namespace Go.Proofs.Ytdmeiffofmagjaa
open Go.RowKit
set_option linter.unusedVariables false

set_option maxHeartbeats 400000 in
theorem fu8_any (A : Option Addr) (n c : Nat) (xs : List UInt8) (x : Int) (w : World) (hx : R8 w A xs) (hA : A = none → c = 0) (hn : n ≤ 1000000) (hl : Hid (xs.length = n)) :
    Calls Try.prog 31 #[.slice A n c, .int .i64 x] w (Wrote w (n + 1) (xs ++ [UInt8.ofNat (x % 256).toNat])) := by
  have R0 := Lib.hid (row8_new w [] (by simp))
  have k0 : Kept w (w.alloc (.cells (cells8 []).toArray 5)) := (Keep.refl _ w).alloc _
  go_enter Try.func31, Try.ntmps31
  go_wp2_with (at_builtin; refine wpl_append8 _ rfl (.tmp 5) (.tmp 6) rfl w.heap.size w.heap.size 0 0 [] rfl rfl R0.out (Nat.le_refl _) A n c xs rfl hl.out (hx.kept k0) hA (by omega) ?_)
  intro w1 g1 c1 hrow1 hb1 hk1
  have hkw : Kept w w1 := Kept.trans' k0 hk1 (by omega)
  have R1 := Lib.hid (hrow1.kept ((Keep.refl _ w1).alloc (.cells #[.int .u8 (x % 256)] 5)))
  have S1 := Lib.hid (r8_newc w1 #[.int .u8 (x % 256)] [UInt8.ofNat (x % 256).toNat] 5 (congrArg (fun y => #[Value.int .u8 y]) (byte0 x)))
  have k2 : Kept w (w1.alloc (.cells #[.int .u8 (x % 256)] 5)) := Keep.alloc hkw _
  clear hrow1 hk1 k0 R0
  go_wp2_with (at_builtin; refine wpl_append8 _ rfl (.tmp 7) (.tmp 10) rfl w.heap.size g1 c1 n xs rfl hl.out R1.out hb1 (some ⟨w1.heap.size, 0, none⟩) 1 1 [UInt8.ofNat (x % 256).toNat] rfl rfl S1.out (by simp) (by omega) ?_)
  intro w2 g2 c2 hrow2 hb2 hk2
  have hkw2 : Kept w w2 := Kept.trans' k2 hk2 (by omega)
  go_wp2
  go_ret
  exact ⟨g2, c2, rfl, hb2, hrow2, hkw2⟩
end Go.Proofs.Ytdmeiffofmagjaa
