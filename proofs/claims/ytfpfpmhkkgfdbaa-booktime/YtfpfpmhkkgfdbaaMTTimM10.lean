/-
  Plain orders at one price, and an immediate one that takes of them: as mathematics. No condition.
-/
import Derived.Test.YtfpfpmhkkgfdbaaQT05
import Derived.Test.YtfpfpmhkkgfdbaaMTRuns10
set_option linter.unusedVariables false
namespace Go.Proofs.Ytfpfpmhkkgfdbaa
open Go.RowKit
set_option maxRecDepth 100000
def tO (j : Nat) (n : Int) : Ord := mkO ((j : Int) % 5) j 2 1 100 n
def tE (W : List Int) : List Ent := W.zipIdx.map fun p => ⟨tO p.2 p.1, p.1⟩
def tB (W : List Int) : Bok := ⟨[], if W = [] then [] else [(100, tE W)], 0, 0⟩
theorem tE_snoc (W : List Int) (n : Int) : tE (W ++ [n]) = tE W ++ [⟨tO W.length n, n⟩] := by
  unfold tE
  rw [List.zipIdx_append, List.map_append]
  simp
theorem tE_len (W : List Int) : (tE W).length = W.length := by simp [tE]
theorem tE_get {W : List Int} {i : Nat} {e : Ent} (h : (tE W)[i]? = some e) : ∃ n, W[i]? = some n ∧ e = ⟨tO i n, n⟩ := by
  unfold tE at h
  rw [List.getElem?_map, List.getElem?_zipIdx] at h
  cases hw : W[i]? with
  | none => rw [hw] at h; simp at h
  | some n => rw [hw] at h; simp at h; exact ⟨n, rfl, h.symm⟩
theorem tB_all (W : List Int) : (tB W).all = tE W := by
  unfold tB Bok.all
  by_cases h : W = []
  · subst h; rfl
  · simp [h, entL]
theorem tE_mem {W : List Int} {e : Ent} (h : e ∈ tE W) : ∃ j n, j < W.length ∧ W[j]? = some n ∧ e = ⟨tO j n, n⟩ := by
  obtain ⟨j, hj, rfl⟩ := List.getElem_of_mem h
  obtain ⟨n, h1, h2⟩ := tE_get (List.getElem?_eq_getElem hj)
  exact ⟨j, n, by rw [tE_len] at hj; exact hj, h1, h2⟩
theorem tO_right {j : Nat} {n : Int} (hj : j < 1000) (h1 : 1 ≤ n) (h2 : n ≤ 1000) : (tO j n).right = true := by
  refine (right_iff _).2 ?_
  simp [tO, mkO]
  omega
theorem tB_has {W : List Int} {t i : Int} (h : ∀ j : Nat, j < W.length → ¬ ((j : Int) % 5 = t ∧ (j : Int) = i)) : ¬ (tB W).has t i = true := by
  have : (tB W).has t i = false := (has_iff _ _ _).2 (cnt_zero.2 fun e he => by
    rw [tB_all] at he
    obtain ⟨j, n, h1, _, rfl⟩ := tE_mem he
    have h2 := h j h1
    simp only [Ent.is, tO, mkO, Bool.and_eq_false_iff]
    by_cases h3 : (j : Int) % 5 = t
    · exact .inr (decide_eq_false (fun h4 => h2 ⟨h3, h4⟩))
    · exact .inl (decide_eq_false h3))
  rw [this]
  simp
theorem tB_len (W : List Int) : (tB W).len = W.length := by unfold Bok.len; rw [tB_all, tE_len]
theorem time_add {W : List Int} {n : Int} (hW : W.length < 20) (h1 : 1 ≤ n) (h2 : n ≤ 1000) : (tB W).add (tO W.length n) = (⟨tO W.length n, [], n, true, false, 0⟩, tB (W ++ [n])) := by
  have he : (tB W).err (tO W.length n) = 0 := by
    unfold Bok.err
    rw [if_neg (fun h => h ⟨tO_right (by omega) h1 h2, rfl⟩), if_neg (tB_has (fun j hj h => by have h3 : (j : Int) = (W.length : Int) := h.2; omega)), if_neg (fun h => by have := h.2; rw [tB_len] at this; omega), if_neg (fun h => by have := h.1; simp [tO, mkO] at this), if_neg (fun h => by have := h.1; simp [tO, mkO] at this)]
  have hm : (tB W).matched (tO W.length n) = ⟨[], n, false, []⟩ := rfl
  rw [add_go he hm]
  have hd : (decide (0 < n) && !false && (decide ((tO W.length n).k = 1) || decide ((tO W.length n).k = 5))) = true := by simp [tO, mkO]; omega
  simp only [hd, if_true]
  refine Prod.ext rfl ?_
  have hc : (tO W.length n).cut n = tO W.length n := by unfold Ord.cut mn tO mkO; simp; omega
  simp only [hc]
  have hof : Ent.of (tO W.length n) = ⟨tO W.length n, n⟩ := by simp [Ent.of, Ord.tip, tO, mkO]
  unfold tB Bok.put Bok.sd
  by_cases hw : W = []
  · subst hw
    simp [tO, mkO, restM, tE, lastOf, Ent.of, Ord.tip]
  · have hs : (tO W.length n).side = 2 := rfl
    have hp : (tO W.length n).price = 100 := rfl
    simp only [hw, if_false, hs]
    simp [lastOf, tE_snoc]
    rw [restM, hs, hp, if_neg (by simp [bet]), if_pos rfl, hof]
structure Plain (firm : Int) (X : List Ent) : Prop where
  ok : ∀ e ∈ X, e.n = e.o.qty ∧ 1 ≤ e.n ∧ e.o.firm ≠ firm
def plainM : Int → List Ent → List Ent
  | _, [] => []
  | q, e :: R => if 0 < q then ⟨e.o, mn q e.n⟩ :: plainM (q - mn q e.n) R else []
theorem plain_zero {q : Int} (h : q ≤ 0) : ∀ (X : List Ent), plainM q X = []
  | [] => rfl
  | e :: R => by rw [plainM, if_neg (by omega)]
theorem take_plain {f : Int} : ∀ (X : List Ent) (q : Int), Plain f X → (takeM f q X).1 = plainM q X ∧ (takeM f q X).2.1 = false
  | [], q, _ => by rw [takeM_nil]; exact ⟨rfl, rfl⟩
  | e :: R, q, hX => by
    by_cases hq : 0 < q
    · obtain ⟨h1, h2, h3⟩ := hX.ok e (by simp)
      rw [takeM_go f q e R hq (by omega) h3, plainM, if_pos hq]
      by_cases hle : e.n ≤ q
      · have hmn : mn q e.n = e.n := by unfold mn; split <;> omega
        have hnx : nextM e (mn q e.n) R = R := by unfold nextM; rw [if_pos (by omega)]
        have ih := take_plain R (q - mn q e.n) ⟨fun x hx => hX.ok x (by simp [hx])⟩
        rw [hnx]
        exact ⟨by simp only; rw [ih.1], ih.2⟩
      · have hmn : mn q e.n = q := by unfold mn; split <;> omega
        rw [hmn, Int.sub_self, takeM_zero f 0 _ (Int.le_refl _), plain_zero (Int.le_refl _)]
        exact ⟨rfl, rfl⟩
    · rw [takeM_zero f q _ (by omega), plain_zero (by omega)]
      exact ⟨rfl, rfl⟩
theorem plain_get : ∀ (X : List Ent) (q : Int) (i : Nat) (h : Ent), (plainM q X)[i]? = some h → ∃ e, X[i]? = some e ∧ h.o = e.o ∧ h.n = mn (q - seenM ((plainM q X).take i)) e.n
  | [], q, i, h, hh => by simp [plainM] at hh
  | e :: R, q, i, h, hh => by
    rw [plainM] at hh ⊢
    by_cases hq : 0 < q
    · rw [if_pos hq] at hh ⊢
      cases i with
      | zero => simp at hh; subst hh; exact ⟨e, rfl, rfl, by simp [seenM, sumI]⟩
      | succ i =>
        obtain ⟨e', h1, h2, h3⟩ := plain_get R (q - mn q e.n) i h (by simpa using hh)
        refine ⟨e', by simpa using h1, h2, ?_⟩
        rw [List.take_succ_cons, seenM_cons, h3]
        congr 1
        simp only
        omega
    · rw [if_neg hq] at hh
      simp at hh
theorem plain_end : ∀ (X : List Ent) (q : Int), 0 ≤ q → (∀ e ∈ X, 1 ≤ e.n) → (∀ h ∈ plainM q X, 1 ≤ h.n) ∧ seenM (plainM q X) ≤ q ∧ (plainM q X).length ≤ X.length ∧ (seenM (plainM q X) = q ∨ (plainM q X).length = X.length)
  | [], q, hq, _ => by simp [plainM, seenM, sumI]; omega
  | e :: R, q, hq, hX => by
    rw [plainM]
    by_cases h0 : 0 < q
    · rw [if_pos h0]
      have he := hX e (by simp)
      have hm1 : 1 ≤ mn q e.n := by unfold mn; split <;> omega
      have hm2 : mn q e.n ≤ q := by unfold mn; split <;> omega
      obtain ⟨i1, i2, i3, i4⟩ := plain_end R (q - mn q e.n) (by omega) (fun x hx => hX x (by simp [hx]))
      refine ⟨fun h hh => ?_, ?_, ?_, ?_⟩
      · rcases List.mem_cons.1 hh with rfl | hh
        · exact hm1
        · exact i1 h hh
      · rw [seenM_cons]; simp only; omega
      · simp only [List.length_cons]; omega
      · rw [seenM_cons]
        simp only [List.length_cons]
        omega
    · rw [if_neg h0]
      simp [seenM, sumI]
      omega
theorem fills_get {o : Ord} {pr : Int} : ∀ (H : List Ent) (no q : Int) (i : Nat) (f : Fl), (fillsOf o pr no q H)[i]? = some f → ∃ h, H[i]? = some h ∧ f.mk_ = h.o ∧ f.qty = h.n
  | [], no, q, i, f, hf => by simp [fillsOf] at hf
  | h :: H, no, q, 0, f, hf => by simp [fillsOf] at hf; subst hf; exact ⟨h, rfl, rfl, rfl⟩
  | h :: H, no, q, i + 1, f, hf => by
    obtain ⟨h', h1, h2, h3⟩ := fills_get H (no + 1) (q - h.n) i f (by simpa [fillsOf] using hf)
    exact ⟨h', by simpa using h1, h2, h3⟩
theorem fills_take {o : Ord} {pr : Int} : ∀ (H : List Ent) (no q : Int) (i : Nat), (fillsOf o pr no q H).take i = fillsOf o pr no q (H.take i)
  | [], no, q, i => by simp [fillsOf]
  | h :: H, no, q, 0 => rfl
  | h :: H, no, q, i + 1 => by rw [fillsOf, List.take_succ_cons, List.take_succ_cons, fillsOf, fills_take H]
theorem fills_sum {o : Ord} {pr : Int} : ∀ (H : List Ent) (no q : Int), sumF (fillsOf o pr no q H) = seenM H
  | [], no, q => rfl
  | h :: H, no, q => by rw [fillsOf, sumF_cons, seenM_cons, fills_sum H]
def tQ (q : Int) : Ord := mkO 7 1 1 3 100 q
structure TimeIs (W : List Int) (q : Int) (x : Oc) : Prop where
  err : x.err = 0
  each : ∀ (i : Nat) (f : Fl), x.f[i]? = some f → ∃ n, W[i]? = some n ∧ f.mk_.id = (i : Int) ∧ f.qty = mn (q - sumF (x.f.take i)) n ∧ 1 ≤ f.qty
  left : x.left = q - sumF x.f
  low : 0 ≤ q - sumF x.f ∧ 0 ≤ sumF x.f
  part : ∀ i : Nat, 0 ≤ sumF (x.f.take i) ∧ sumF (x.f.take i) ≤ q
  done : x.left = 0 ∨ x.f.length = W.length
  len : x.f.length ≤ W.length
theorem time_is {W : List Int} {q : Int} (hW : W.length ≤ 20) (hn : ∀ n ∈ W, 1 ≤ n) (h1 : 1 ≤ q) (h2 : q ≤ 1000) : TimeIs W q ((tB W).add (tQ q)).1 := by
  have hp : ∀ e ∈ tE W, e.n = e.o.qty ∧ 1 ≤ e.n ∧ e.o.firm ≠ 7 := fun e he => by
    obtain ⟨j, n, h3, h4, rfl⟩ := tE_mem he
    refine ⟨rfl, hn n (List.mem_of_getElem? h4), ?_⟩
    simp only [tO, mkO]
    omega
  obtain ⟨t1, t2⟩ := take_plain (f := 7) (tE W) q ⟨hp⟩
  obtain ⟨p1, p2, p3, p4⟩ := plain_end (tE W) q (by omega) (fun e he => (hp e he).2.1)
  have he : (tB W).err (tQ q) = 0 := by
    unfold Bok.err
    rw [if_neg (fun h => h ⟨(right_iff _).2 (by simp [tQ, mkO]; omega), rfl⟩), if_neg (tB_has (fun j hj h => by simp only [tQ, mkO] at h; omega)), if_neg (fun h => by have := h.1; simp [tQ, mkO] at this), if_neg (fun h => by have := h.1; simp [tQ, mkO] at this), if_neg (fun h => by have := h.1; simp [tQ, mkO] at this)]
  have hm : ∃ L, (tB W).matched (tQ q) = ⟨fillsOf (tQ q) 100 0 q (plainM q (tE W)), q - seenM (plainM q (tE W)), false, L⟩ := by
    have e1 : (tB W).matched (tQ q) = matchM (tQ q) 0 q (if W = [] then [] else [(100, tE W)]) := rfl
    rw [e1]
    by_cases hw : W = []
    · subst hw
      refine ⟨[], ?_⟩
      simp [matchM, tE, plainM, fillsOf, seenM, sumI]
    · rw [if_neg hw, matchM]
      have hc : (tQ q).crosses 100 = true := by simp [Ord.crosses, tQ, mkO, bet]
      have hf : (tQ q).firm = 7 := rfl
      simp only [hf]
      rw [if_pos ⟨by omega, hc⟩, t1]
      split
      · exact ⟨_, by simp [matchM]; rfl⟩
      · exact ⟨_, by rw [t2]⟩
  obtain ⟨L, hm⟩ := hm
  rw [add_go he hm]
  generalize hH : plainM q (tE W) = H at *
  have hsum : sumF (fillsOf (tQ q) 100 0 q H) = seenM H := fills_sum H 0 q
  have hpart : ∀ i : Nat, 0 ≤ seenM (H.take i) ∧ seenM (H.take i) ≤ seenM H := fun i => by
    have hnn : ∀ Y : List Ent, (∀ y ∈ Y, 1 ≤ y.n) → 0 ≤ seenM Y := fun Y => by
      induction Y with
      | nil => intro _; simp [seenM, sumI]
      | cons y Y ih => intro hy; rw [seenM_cons]; have := ih (fun z hz => hy z (by simp [hz])); have := hy y (by simp); omega
    have e1 := hnn (H.take i) (fun y hy => p1 y (List.mem_of_mem_take hy))
    have e2 := hnn (H.drop i) (fun y hy => p1 y (List.mem_of_mem_drop hy))
    have e3 : seenM H = seenM (H.take i) + seenM (H.drop i) := by rw [← seenM_append, List.take_append_drop]
    omega
  have h0 := hpart H.length
  rw [List.take_length] at h0
  refine ⟨rfl, fun i f hf => ?_, by simp only; rw [hsum], by simp only; rw [hsum]; omega, fun i => by simp only; rw [fills_take, fills_sum]; have := hpart i; omega, ?_, ?_⟩
  · obtain ⟨h, h3, h4, h5⟩ := fills_get H 0 q i f hf
    obtain ⟨e, h6, h7, h8⟩ := plain_get (tE W) q i h (by rw [hH]; exact h3)
    obtain ⟨n, h9, rfl⟩ := tE_get h6
    refine ⟨n, h9, by rw [h4, h7]; rfl, ?_, by rw [h5]; exact p1 h (List.mem_of_getElem? h3)⟩
    simp only
    rw [h5, h8, fills_take, fills_sum, hH]
  · simp only
    rw [fillsOf_len]
    rw [tE_len] at p4
    rcases p4 with h | h
    · exact .inl (by omega)
    · exact .inr h
  · simp only
    rw [fillsOf_len]
    rw [tE_len] at p3
    exact p3
theorem tB_inv : ∀ (W : List Int), W.length ≤ 20 → (∀ n ∈ W, 1 ≤ n ∧ n ≤ 1000) → Inv (tB W) := by
  intro W
  induction h : W.length generalizing W with
  | zero => intro _ _; rw [List.eq_nil_of_length_eq_zero h]; exact Inv.zero
  | succ k ih =>
    intro hk hW
    have hne : W ≠ [] := fun e => by rw [e] at h; simp at h
    obtain ⟨V, n, rfl⟩ : ∃ V n, W = V ++ [n] := ⟨W.dropLast, W.getLast hne, (List.dropLast_concat_getLast hne).symm⟩
    have hl : V.length = k := by simp at h; exact h
    have hI := ih V hl (by omega) (fun m hm => hW m (by simp [hm]))
    have hn := hW n (by simp)
    have h1 := (inv_add (o := tO V.length n) hI).1
    rw [time_add (by omega) hn.1 hn.2] at h1
    exact h1
end Go.Proofs.Ytfpfpmhkkgfdbaa
