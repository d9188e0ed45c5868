/-
 How many trades outcomes have; what stays quiet. No condition.
-/
import Derived.Test.YtklohceombpleaaQA05
set_option linter.unusedVariables false
namespace Go.Proofs.Ytklohceombpleaa
open Go.RowKit
set_option maxRecDepth 100000
theorem enter_fills {B : Bok} {o : Ord} (h : Inv B) : (B.enter o).1.f.length ≤ 1000000 + 48576 := by
 show (B.add o.free).1.f.length ≤ _
 by_cases he : B.err o.free = 0
 ·have ha := add_is h he
  have h1 := ha.few
  have h2 := right_qty ha.rt
  rw [ha.oc]
  simp only
  omega
 ·rw [add_err he]
  simp
theorem cas_fills : ∀ (n : Nat) (M : Mkt), M.w.length ≤ n → InvK M → ∀ x ∈ M.cas.1, x.c.f.length ≤ 2000000
 | 0, M, hn, h => by
  rw [cas_none (List.getElem?_eq_none (by omega))]
  intro x hx
  cases hx
 | n + 1, M, hn, h => by
  cases e : M.w[M.trig]? with
  | none => rw [cas_none e]; intro x hx; cases hx
  | some o =>
   rw [cas_some e]
   have hl := (List.getElem?_eq_some_iff.1 e).1
   have hle : (M.next o).w.length = M.w.length - 1 := by unfold Mkt.next; simp only; rw [List.length_eraseIdx, if_pos hl]
   intro x hx
   rcases List.mem_cons.1 hx with rfl | hx
   ·have := enter_fills (o := o) h.inv
    simp only
    omega
   ·exact cas_fills n (M.next o) (by omega) (h.next e) x hx
theorem add_fills {M : Mkt} (h : InvK M) (o : Ord) : (∀ x ∈ (M.add o).1, x.c.f.length ≤ 2000000) ∧ (M.add o).1.length ≤ 1000000 := by
 have ha : (M.arrive o).1.c.f.length ≤ 2000000 := by
  unfold Mkt.arrive
  split
  ·simp
  ·split
   ·simp
   ·have := enter_fills (o := o) h.inv
    simp only
    omega
 have hI := h.arrive o
 have hf := hI.few
 unfold Mkt.add
 split
 ·exact ⟨fun x hx => by simp at hx; rw [hx]; exact ha, by simp⟩
 ·refine ⟨fun x hx => ?_, ?_⟩
  ·rcases List.mem_cons.1 hx with rfl | hx
   ·exact ha
   ·exact cas_fills _ _ (Nat.le_refl _) hI x hx
  ·have := cas_len _ (M.arrive o).2 (Nat.le_refl _)
   simp only [List.length_cons]
   omega
end Go.Proofs.Ytklohceombpleaa
