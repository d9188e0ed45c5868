/-
  What an order's outcome says of quantities, of both sides, of prices: as mathematics. No condition.
-/
import Derived.Test.YtfpfpmhkkgfdbaaQ05
set_option linter.unusedVariables false
namespace Go.Proofs.Ytfpfpmhkkgfdbaa
open Go.RowKit
set_option maxRecDepth 100000
structure CountIs (B : Bok) (o : Ord) (x : Oc) (B' : Bok) : Prop where
  each : ∀ (i : Nat) (f : Fl), x.f[i]? = some f → 1 ≤ f.qty ∧ f.mk_.firm ≠ o.firm ∧ f.mk_.side = 3 - o.side ∧ f.no = B.no + i + 1 ∧ f.price = f.mk_.price ∧ f.tk.qty = o.qty - sumF (x.f.take i)
  low : ∀ i : Nat, 0 ≤ sumF (x.f.take i) ∧ sumF (x.f.take i) ≤ o.qty
  len : (x.f.length : Int) ≤ o.qty
  bad : x.err ≠ 0 → x.f = [] ∧ x.left = o.qty ∧ x.rests = false ∧ B' = B
  ok : x.err = 0 → sumF x.f + x.left = o.qty ∧ wholeL (B'.sd (3 - o.side)) = wholeL (B.sd (3 - o.side)) - sumF x.f ∧ wholeL (B'.sd o.side) = wholeL (B.sd o.side) + (if x.rests = true then x.left else 0) ∧ B'.no = B.no + x.f.length
  left : 0 ≤ x.left ∧ x.left ≤ o.qty
theorem sumF_pos {F : List Fl} (h : ∀ f ∈ F, 1 ≤ f.qty) : (F.length : Int) ≤ sumF F := by
  induction F with
  | nil => simp [sumF, sumI]
  | cons f F ih =>
    have h1 := ih (fun x hx => h x (by simp [hx]))
    have h2 := h f (by simp)
    rw [sumF_cons]
    simp only [List.length_cons]
    omega
theorem counts_is {B : Bok} {o : Ord} (h : Inv B) (hq : 1 ≤ o.qty) : CountIs B o (B.add o).1 (B.add o).2 := by
  by_cases he : B.err o = 0
  · have ha := add_is h he
    have hm := ha.m
    have hpos : ∀ f ∈ (B.matched o).f, 1 ≤ f.qty := fun f hf => (hm.ok f hf).pos
    have hl0 := hm.left0
    have hsum := hm.sum
    rw [ha.oc]
    refine ⟨fun i f hf => ?_, fun i => ?_, ?_, fun hx => absurd rfl hx, fun _ => ⟨?_, ?_, ?_, ?_⟩, ⟨hl0, ?_⟩⟩
    · have hk := hm.ok f (List.mem_of_getElem? hf)
      obtain ⟨t1, t2⟩ := told_at hm.told hf
      exact ⟨hk.pos, hk.firm, hk.side, t1, hk.price, by rw [t2]; rfl⟩
    · have e1 : sumF (B.matched o).f = sumF ((B.matched o).f.take i) + sumF ((B.matched o).f.drop i) := by rw [← sumF_append, List.take_append_drop]
      have e2 := sumF_pos (F := (B.matched o).f.take i) (fun f hf => hpos f (List.mem_of_mem_take hf))
      have e3 := sumF_pos (F := (B.matched o).f.drop i) (fun f hf => hpos f (List.mem_of_mem_drop hf))
      simp only
      omega
    · have := sumF_pos hpos
      simp only
      omega
    · simp only
      omega
    · rw [ha.theirs]
      exact hm.whole
    · rw [ha.mine]
      simp only
      by_cases hst : B.stays o = true
      · rw [if_pos hst, if_pos hst]
        exact (ha.rests hst).whole
      · rw [if_neg hst, if_neg hst]
        omega
    · exact ha.no
    · have := sumF_pos hpos
      simp only
      omega
  · rw [add_err he]
    refine ⟨fun i f hf => by simp at hf, fun i => by simp [sumF, sumI]; omega, by simp; omega, fun _ => ⟨rfl, rfl, rfl, rfl⟩, fun hx => absurd hx he, ⟨by simp only; omega, Int.le_refl _⟩⟩
structure BestIs (B : Bok) (o : Ord) (x : Oc) (B' : Bok) : Prop where
  cross : ∀ (i : Nat) (f : Fl), x.f[i]? = some f → o.crosses f.price = true ∧ f.mk_.side = 3 - o.side
  row : ∀ (i : Nat) (f g : Fl), x.f[i]? = some f → x.f[i + 1]? = some g → bet (3 - o.side) g.price f.price = false
  best : ∀ f, x.f[x.f.length - 1]? = some f → (∀ r ∈ ordsL (B'.sd (3 - o.side)), r.side = 3 - o.side ∧ bet (3 - o.side) r.price f.price = false) ∧ B'.last = f.price
theorem best_is {B : Bok} {o : Ord} (h : Inv B) : BestIs B o (B.add o).1 (B.add o).2 := by
  by_cases he : B.err o = 0
  · have ha := add_is h he
    have hm := ha.m
    rw [ha.oc]
    refine ⟨fun i f hf => ⟨(hm.ok f (List.mem_of_getElem? hf)).cross, (hm.ok f (List.mem_of_getElem? hf)).side⟩, fun i f g hf hg => row_at hm.row hf hg, fun f hf => ⟨fun r hr => ?_, ?_⟩⟩
    · rw [ha.theirs] at hr
      obtain ⟨h1, ⟨l, hl, h2⟩, _⟩ := ordsL_mem hm.sid hr
      refine ⟨h1, ?_⟩
      rw [← h2]
      exact hm.best f (List.mem_of_getElem? hf) l hl
    · rw [ha.last]
      exact last_get _ _ _ hf
  · rw [add_err he]
    exact ⟨fun i f hf => by simp at hf, fun i f g hf _ => by simp at hf, fun f hf => by simp at hf⟩
end Go.Proofs.Ytfpfpmhkkgfdbaa
