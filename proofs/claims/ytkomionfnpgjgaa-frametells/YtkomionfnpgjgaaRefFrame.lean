/-
  The document's own Frame (jobberref1): the frame of a body. Conditions: lengths far below 2^47.
-/
import Derived.Test.YtkomionfnpgjgaaFrmDf
namespace Go.Proofs.Ytkomionfnpgjgaa
open Go.RowKit
set_option linter.unusedVariables false

set_option maxHeartbeats 800000 in
theorem refFrame_any (A : Option Addr) (n c : Nat) (xs : List UInt8) (w : World) (hx : R8 w A xs) (hl : Hid (xs.length = n)) (hA : A = none → c = 0) (hn : n ≤ 1000000) :
    Calls Try.prog 19 #[.slice A n c] w fun e w' => ∃ v, e = .returned v ∧ PutIn w w' v (putOf xs) ∧ Kept w w' := by
  by_cases hv : 1 ≤ n ∧ n ≤ 256
  · obtain ⟨h1, h2⟩ := hv
    have HP := Lib.hid (putOf_ok (b := xs) (by rw [hl.out]; exact h1) (by rw [hl.out]; exact h2))
    have hE1 : Hid ((n : Int) / 256 = ((UInt8.ofNat (n / 256)).toNat : Int)) := by show _ = _; simp only [UInt8.toNat_ofNat']; omega
    have hE2 : Hid ((n : Int) % 256 = ((UInt8.ofNat (n % 256)).toNat : Int)) := by show _ = _; simp only [UInt8.toNat_ofNat']; omega
    have RH := row8_new w [UInt8.ofNat (n / 256), UInt8.ofNat (n % 256)] (by unfold maxLen; simp)
    rw [show (cells8 [UInt8.ofNat (n / 256), UInt8.ofNat (n % 256)]).toArray = #[.int .u8 ((n : Int) / 256), .int .u8 ((n : Int) % 256)] by rw [hE1.out, hE2.out]; rfl] at RH
    have ka : Kept w (w.alloc (.cells #[.int .u8 ((n : Int) / 256), .int .u8 ((n : Int) % 256)] 5)) := (Keep.refl _ w).alloc _
    have HRH := Lib.hid RH
    have HX := Lib.hid (hx.kept ka)
    have HAn := Lib.hid hA
    have hd1 : decide ((n : Int) < 1) = false := by simp; omega
    have hd2 : decide ((256 : Int) < (n : Int)) = false := by simp; omega
    clear hx hA RH hE1 hE2
    go_enter Try.func19, Try.ntmps19
    go_wp2_with (at_builtin; refine wpl_append8 _ rfl (.tmp 18) (.tmp 19) rfl w.heap.size w.heap.size 2 2 _ rfl rfl HRH.out (Nat.le_refl _) A n c xs rfl hl.out HX.out HAn.out (by omega) ?_)
    intro w3 g3 c3 R3 hg3 k3
    have k13 : Kept w w3 := Kept.trans' ka k3 (by omega)
    have HL : Hid ((putOf xs).length = 2 + n) := by show _ = _; rw [HP.out, ← hl.out]; simp; omega
    have R4 : Hid (Row8 w3 g3 c3 (putOf xs)) := by
      show Row8 _ _ _ _
      rw [HP.out, hl.out]
      exact R3
    clear R3 HRH HX
    go_wp2
    go_ret
    refine ⟨_, rfl, ⟨some ⟨g3, 0, none⟩, c3, ?_, .inr ⟨g3, rfl, hg3, rfl, R4.out⟩⟩, k13⟩
    rw [HL.out]
    rfl
  · have HP := Lib.hid (putOf_no (b := xs) (by rw [hl.out]; omega))
    clear hx hA
    by_cases hz : n < 1
    · have hd1 : decide ((n : Int) < 1) = true := by simp; omega
      go_enter Try.func19, Try.ntmps19
      go_wp2
      go_ret
      rw [HP.out]
      exact ⟨_, rfl, ⟨none, 0, rfl, Own8.nil _ _⟩, Kept.refl _⟩
    · have hd1 : decide ((n : Int) < 1) = false := by simp; omega
      have hd2 : decide ((256 : Int) < (n : Int)) = true := by simp; omega
      go_enter Try.func19, Try.ntmps19
      go_wp2
      go_ret
      rw [HP.out]
      exact ⟨_, rfl, ⟨none, 0, rfl, Own8.nil _ _⟩, Kept.refl _⟩
end Go.Proofs.Ytkomionfnpgjgaa
