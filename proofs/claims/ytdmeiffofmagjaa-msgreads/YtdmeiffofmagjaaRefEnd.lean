/-
  The contract of the document's own reader's End, package jobberref1. No condition.
-/
import Derived.Test.YtdmeiffofmagjaaRefRd
namespace Go.Proofs.Ytdmeiffofmagjaa
open Go.RowKit
set_option linter.unusedVariables false

set_option maxHeartbeats 400000 in
theorem gend_any (g L c : Nat) (A : Option Addr) (s : RS) (w : World) (hr : FRd w g A L c s) :
    Calls Try.prog 37 #[.pointer (some ⟨g, 0, none⟩)] w fun e w' => e = .returned (.bool s.fin) ∧ ∃ k, w' = w.drewN k := by
  obtain ⟨c0, c1, c2, f1, f2⟩ := hr.cells
  have hF : s.fin = (!s.bad && s.pos == L) := by unfold RS.fin; rw [hr.1.out]
  rw [hF]
  clear hF
  obtain ⟨hbad⟩ : Nonempty (s.bad = true ∨ s.bad = false) := ⟨by cases s.bad <;> simp⟩
  rcases hbad with hbad | hbad
  · rw [hbad] at c2 ⊢
    clear hbad hr
    go_enter Try.func37, Try.ntmps37
    go_wp2
    go_quiet (fail)
    go_wp2
    go_ret
    exact ⟨ret_bool (by simp), _, rfl⟩
  · rw [hbad] at c2 ⊢
    clear hbad hr
    by_cases he : s.pos = L
    · have hd : ((s.pos : Int) == (L : Int)) = true := by simp [he]
      have HE := Lib.hid he
      clear he
      go_enter Try.func37, Try.ntmps37
      go_wp2
      go_quiet (fail)
      go_wp2
      go_ret
      exact ⟨ret_bool (by simp [HE.out]), _, rfl⟩
    · have hd : ((s.pos : Int) == (L : Int)) = false := by simp; omega
      have HE := Lib.hid he
      clear he
      go_enter Try.func37, Try.ntmps37
      go_wp2
      go_quiet (fail)
      go_wp2
      go_ret
      exact ⟨ret_bool (by simp [HE.out]), _, rfl⟩
end Go.Proofs.Ytdmeiffofmagjaa
