/-
 Quantities in a market: what came, what was traded, what went, what is there. No condition.
-/
import Derived.Test.YtklohceombpleaaQA05
set_option linter.unusedVariables false
namespace Go.Proofs.Ytklohceombpleaa
open Go.RowKit
set_option maxRecDepth 100000
def Bok.wh (B : Bok) : Int := wholeL B.buys + wholeL B.sells
theorem wh_side (B : Bok) {s : Int} (hs : s = 1 ∨ s = 2) : B.wh = wholeL (B.sd s) + wholeL (B.sd (3 - s)) := by
 unfold Bok.wh
 rcases hs with rfl | rfl
 ·rfl
 ·show _ = wholeL B.sells + wholeL B.buys
  omega
structure OcOk (x : Oc) : Prop where
 pos : ∀ f ∈ x.f, 1 ≤ f.qty
 sum : sumF x.f + x.left = x.o.qty
 left : 0 ≤ x.left
 few : x.o.qty ≤ 1048576
theorem enter_ok {B : Bok} {o : Ord} (hI : Inv B) (hr : o.right = true) : OcOk (B.enter o).1 ∧ (B.enter o).2.wh + 2 * sumF (B.enter o).1.f + (if (B.enter o).1.rests = true then 0 else (B.enter o).1.left) = B.wh + o.qty := by
 have hq := right_qty hr
 unfold Bok.enter
 by_cases he : B.err o.free = 0
 ·have A := add_is hI he
  have hm := A.m
  have hoc := A.oc
  have h1 : sumF (B.matched o.free).f = o.qty - (B.matched o.free).left := hm.sum
  have h2 := hm.left0
  rw [hoc]
  refine ⟨⟨fun f hf => (hm.ok f hf).pos, by show sumF (B.matched o.free).f + (B.matched o.free).left = o.qty; omega, h2, hq.2⟩, ?_⟩
  have hw := hm.whole
  rw [wh_side (B.add o.free).2 A.sd, wh_side B A.sd, A.theirs, A.mine, hw]
  by_cases hst : B.stays o.free = true
  ·have hR := (A.rests hst).whole
   simp only [if_pos hst]
   rw [hR]
   show _ + (B.matched o.free).left + _ + _ + _ = _
   omega
  ·simp only [if_neg hst]
   omega
 ·rw [add_err he]
  refine ⟨⟨fun f hf => (by cases hf), by show sumF [] + o.qty = o.qty; rw [sumF_nil]; omega, by show 0 ≤ o.qty; omega, hq.2⟩, ?_⟩
  show B.wh + 2 * sumF [] + o.qty = _
  rw [sumF_nil]
  omega
def whM (M : Mkt) : Int := sumI (M.all.map (·.qty))
theorem whM_is (M : Mkt) : whM M = M.b.wh + sumI (M.w.map (·.qty)) := by
 unfold whM Mkt.all Bok.wh
 rw [List.map_append, List.map_append, sumI_append, sumI_append, ordsL_whole, ordsL_whole]
def gX (k : Nat) (x : Ot) : Int := 2 * sumF x.c.f + (if ((!x.c.rests && !x.wt) && (decide ((0 : Int) < (k : Int)) || decide (x.c.err = 0))) = true then x.c.left else 0)
def cX (k : Nat) (x : Ot) : Int := if (decide ((k : Int) = 0) && decide (x.c.err = 0)) = true then x.c.o.qty else 0
def sG : Nat → List Ot → Int
 | _, [] => 0
 | k, x :: L => gX k x + sG (k + 1) L
def sC : Nat → List Ot → Int
 | _, [] => 0
 | k, x :: L => cX k x + sC (k + 1) L
theorem sC_later : ∀ (L : List Ot) (k : Nat), 0 < k → sC k L = 0
 | [], k, _ => rfl
 | y :: L, k, hk => by
  rw [sC, sC_later L (k + 1) (by omega)]
  unfold cX
  rw [decide_eq_false (by omega : ¬ (k : Int) = 0)]
  rfl
theorem sum_erase : ∀ {W : List Ord} {i : Nat} {o : Ord}, W[i]? = some o → sumI (W.map (·.qty)) = sumI ((W.eraseIdx i).map (·.qty)) + o.qty
 | [], i, o, h => by simp at h
 | x :: W, 0, o, h => by
  simp at h
  subst h
  show x.qty + sumI (W.map (·.qty)) = sumI (W.map (·.qty)) + x.qty
  omega
 | x :: W, i + 1, o, h => by
  have := sum_erase (W := W) (i := i) (o := o) (by simpa using h)
  show x.qty + sumI (W.map (·.qty)) = x.qty + sumI ((W.eraseIdx i).map (·.qty)) + o.qty
  omega
theorem cas_sum : ∀ (n : Nat) (M : Mkt), M.w.length ≤ n → InvK M → (∀ k, 0 < k → sG k M.cas.1 + whM M.cas.2 = whM M) ∧ ∀ x ∈ M.cas.1, OcOk x.c
 | 0, M, hn, h => by
  rw [cas_none (List.getElem?_eq_none (by omega))]
  exact ⟨fun k _ => by show 0 + whM M = whM M; omega, by simp⟩
 | n + 1, M, hn, h => by
  cases e : M.w[M.trig]? with
  | none =>
   rw [cas_none e]
   exact ⟨fun k _ => by show 0 + whM M = whM M; omega, by simp⟩
  | some o =>
   have hl := (List.getElem?_eq_some_iff.1 e).1
   have hr := (h.good o (List.mem_of_getElem? e)).1
   obtain ⟨h1, h2⟩ := enter_ok (B := M.b) (o := o) h.inv hr
   obtain ⟨i1, i2⟩ := cas_sum n (M.next o) (by unfold Mkt.next; simp only; rw [List.length_eraseIdx, if_pos hl]; omega) (h.next e)
   rw [cas_some e]
   refine ⟨fun k hk => ?_, fun x hx => ?_⟩
   ·have h3 := i1 (k + 1) (by omega)
    have h4 := sum_erase e
    have h5 : whM (M.next o) = (M.b.enter o).2.wh + sumI ((M.w.eraseIdx M.trig).map (·.qty)) := whM_is _
    rw [whM_is M]
    show gX k ⟨(M.b.enter o).1, false⟩ + sG (k + 1) (M.next o).cas.1 + whM (M.next o).cas.2 = _
    unfold gX
    simp only
    rw [decide_eq_true (by omega : (0 : Int) < (k : Int))]
    cases hb : (M.b.enter o).1.rests with
    | true => rw [hb] at h2; simp at h2 ⊢; omega
    | false => rw [hb] at h2; simp at h2 ⊢; omega
   ·rcases List.mem_cons.1 hx with rfl | hx
    ·exact h1
    ·exact i2 x hx
theorem add_sum {M : Mkt} (h : InvK M) {o : Ord} (hr : o.right = true) : sG 0 (M.add o).1 + whM (M.add o).2 = whM M + sC 0 (M.add o).1 ∧ ∀ x ∈ (M.add o).1, OcOk x.c := by
 have hq := right_qty hr
 have hfirst : OcOk (M.arrive o).1.c ∧ gX 0 (M.arrive o).1 + whM (M.arrive o).2 = whM M + cX 0 (M.arrive o).1 := by
  unfold Mkt.arrive
  have hself : ∀ e, OcOk ⟨o, [], o.qty, false, false, e⟩ := fun e => ⟨fun f hf => (by cases hf), by show sumF [] + o.qty = o.qty; rw [sumF_nil]; omega, by show 0 ≤ o.qty; omega, hq.2⟩
  by_cases he : M.err o ≠ 0
  ·rw [if_pos he]
   refine ⟨hself _, ?_⟩
   unfold gX cX
   simp only
   rw [decide_eq_false he, sumF_nil]
   simp
  ·rw [if_neg he]
   by_cases hw : M.waits o = true
   ·rw [if_pos hw]
    refine ⟨hself _, ?_⟩
    rw [whM_is M, whM_is]
    unfold gX cX
    simp only [sumF_nil, List.map_append, sumI_append]
    simp [sumI]
    omega
   ·rw [if_neg hw]
    obtain ⟨h1, h2⟩ := enter_ok (B := M.b) (o := o) h.inv hr
    refine ⟨h1, ?_⟩
    rw [whM_is M, whM_is]
    have ho : (M.b.enter o).1.o = o := rfl
    unfold gX cX
    simp only [ho]
    have herr : (M.b.enter o).1.err ≠ 0 → (M.b.enter o).1.f = [] ∧ (M.b.enter o).1.rests = false ∧ (M.b.enter o).1.left = o.qty := by
     intro h'
     unfold Bok.enter at h' ⊢
     by_cases hb : M.b.err o.free = 0
     ·rw [(add_is h.inv hb).oc] at h'
      exact absurd rfl h'
     ·rw [add_err hb]
      exact ⟨rfl, rfl, rfl⟩
    by_cases hz : (M.b.enter o).1.err = 0
    ·rw [decide_eq_true hz]
     cases hb : (M.b.enter o).1.rests with
     | true => rw [hb] at h2; simp at h2 ⊢; omega
     | false => rw [hb] at h2; simp at h2 ⊢; omega
    ·obtain ⟨f1, f2, f3⟩ := herr hz
     rw [f1, f2, f3, sumF_nil] at h2
     rw [decide_eq_false hz, f1, f2, sumF_nil]
     simp at h2 ⊢
     omega
 unfold Mkt.add
 by_cases he : (M.arrive o).1.c.err ≠ 0
 ·rw [if_pos he]
  refine ⟨?_, fun x hx => ?_⟩
  ·show gX 0 (M.arrive o).1 + 0 + _ = _ + (cX 0 (M.arrive o).1 + 0)
   have := hfirst.2
   simp only
   omega
  ·simp at hx
   rw [hx]
   exact hfirst.1
 ·rw [if_neg he]
  obtain ⟨c1, c2⟩ := cas_sum _ _ (Nat.le_refl _) (h.arrive o)
  refine ⟨?_, fun x hx => ?_⟩
  ·have h1 := c1 1 (by omega)
   have h2 := hfirst.2
   have h3 := sC_later (M.arrive o).2.cas.1 1 (by omega)
   show gX 0 (M.arrive o).1 + sG 1 (M.arrive o).2.cas.1 + _ = _ + (cX 0 (M.arrive o).1 + sC 1 (M.arrive o).2.cas.1)
   simp only
   omega
  ·rcases List.mem_cons.1 hx with rfl | hx
   ·exact hfirst.1
   ·exact c2 x hx
theorem sumF_nn {F : List Fl} (h : ∀ f ∈ F, 1 ≤ f.qty) : 0 ≤ sumF F := by
 induction F with
 | nil => simp [sumF, sumI]
 | cons f F ih =>
  have h1 := ih (fun x hx => h x (by simp [hx]))
  have h2 := h f (by simp)
  rw [sumF_cons]
  omega
theorem gX_in {k : Nat} {x : Ot} (h : OcOk x.c) : 0 ≤ gX k x ∧ gX k x ≤ 3145728 := by
 have h1 := sumF_nn h.pos
 have h2 := h.sum
 have h3 := h.left
 have h4 := h.few
 unfold gX
 split <;> omega
theorem sG_in : ∀ (L : List Ot) (k : Nat), (∀ x ∈ L, OcOk x.c) → 0 ≤ sG k L ∧ sG k L ≤ 3145728 * (L.length : Int)
 | [], k, _ => by simp [sG]
 | y :: L, k, h => by
  have h1 := sG_in L (k + 1) (fun x hx => h x (by simp [hx]))
  have h2 := gX_in (k := k) (h y (by simp))
  rw [sG, List.length_cons]
  omega
end Go.Proofs.Ytklohceombpleaa
