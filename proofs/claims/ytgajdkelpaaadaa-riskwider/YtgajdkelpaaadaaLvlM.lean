/-
  A level as mathematics: entries in their order; what is taken, removed, made less; what holds of it. No condition.
-/
import Derived.Test.YtgajdkelpaaadaaSegEx
namespace Go.Proofs.Ytgajdkelpaaadaa
open Go.RowKit
set_option linter.unusedVariables false
set_option maxRecDepth 100000

/-- the smaller one -/
def mn (p q : Int) : Int := if q < p then q else p
theorem mn_le (p q : Int) : mn p q ≤ p ∧ mn p q ≤ q := by unfold mn; split <;> omega
theorem mn_pos (p q : Int) (h1 : 0 < p) (h2 : 0 < q) : 0 < mn p q := by unfold mn; split <;> omega
theorem mn_eq (p q : Int) : mn p q = p ∨ mn p q = q := by unfold mn; split <;> simp
/-- what is seen of an order of which nothing was taken -/
def Ord.tip (o : Ord) : Int := if 0 < o.shw then mn o.shw o.qty else o.qty
def Ent.of (o : Ord) : Ent := ⟨o, o.tip⟩
/-- with another quantity -/
def Ord.q (o : Ord) (n : Int) : Ord := { o with qty := n }
/-- less a part of it -/
def Ent.sub (e : Ent) (n : Int) : Ent := ⟨e.o.q (e.o.qty - n), e.n - n⟩
/-- what follows when n of the first one was taken -/
def nextM (e : Ent) (n : Int) (R : List Ent) : List Ent :=
  if e.o.qty - n = 0 then R else if e.n - n = 0 then R ++ [Ent.of (e.sub n).o] else e.sub n :: R

def takeM (firm q : Int) (X : List Ent) : List Ent × Bool × List Ent :=
  match X with
  | [] => ([], false, [])
  | e :: R =>
    if h : 0 < q ∧ 0 < e.n then
      if e.o.firm = firm then ([], true, e :: R)
      else
        let r := takeM firm (q - mn q e.n) (nextM e (mn q e.n) R)
        (⟨e.o, mn q e.n⟩ :: r.1, r.2.1, r.2.2)
    else ([], false, e :: R)
termination_by q.toNat
decreasing_by
  have := mn_pos q e.n h.1 h.2
  have := (mn_le q e.n).1
  omega

theorem takeM_nil (firm q : Int) : takeM firm q [] = ([], false, []) := by rw [takeM]
theorem takeM_zero (firm q : Int) (X : List Ent) (h : q ≤ 0) : takeM firm q X = ([], false, X) := by
  cases X with
  | nil => exact takeM_nil _ _
  | cons e R => rw [takeM, dif_neg (by omega)]
theorem takeM_own (firm q : Int) (e : Ent) (R : List Ent) (h : 0 < q) (hn : 0 < e.n) (hf : e.o.firm = firm) : takeM firm q (e :: R) = ([], true, e :: R) := by rw [takeM, dif_pos ⟨h, hn⟩, if_pos hf]
theorem takeM_go (firm q : Int) (e : Ent) (R : List Ent) (h : 0 < q) (hn : 0 < e.n) (hf : e.o.firm ≠ firm) : takeM firm q (e :: R) =
    (⟨e.o, mn q e.n⟩ :: (takeM firm (q - mn q e.n) (nextM e (mn q e.n) R)).1, (takeM firm (q - mn q e.n) (nextM e (mn q e.n) R)).2.1, (takeM firm (q - mn q e.n) (nextM e (mn q e.n) R)).2.2) := by rw [takeM, dif_pos ⟨h, hn⟩, if_neg hf]

def sumI (l : List Int) : Int := l.foldr (· + ·) 0
theorem sumI_nil : sumI [] = 0 := rfl
theorem sumI_cons (x : Int) (l : List Int) : sumI (x :: l) = x + sumI l := rfl
theorem sumI_append (a b : List Int) : sumI (a ++ b) = sumI a + sumI b := by
  induction a with
  | nil => simp [sumI_nil]
  | cons x a ih => rw [List.cons_append, sumI_cons, sumI_cons, ih]; omega
def wholeM (X : List Ent) : Int := sumI (X.map fun e => e.o.qty)
def seenM (X : List Ent) : Int := sumI (X.map fun e => e.n)
theorem wholeM_cons (e : Ent) (X : List Ent) : wholeM (e :: X) = e.o.qty + wholeM X := rfl
theorem seenM_cons (e : Ent) (X : List Ent) : seenM (e :: X) = e.n + seenM X := rfl
theorem wholeM_append (X Y : List Ent) : wholeM (X ++ Y) = wholeM X + wholeM Y := by simp [wholeM, sumI_append]
theorem seenM_append (X Y : List Ent) : seenM (X ++ Y) = seenM X + seenM Y := by simp [seenM, sumI_append]

/-- an entry as it may be -/
def Ent.ok (e : Ent) : Prop := 1 ≤ e.n ∧ e.n ≤ e.o.qty
/-- a level as it may be -/
structure Good (X : List Ent) : Prop where
  ok : ∀ e ∈ X, e.ok
  few : wholeM X ≤ 100000000
theorem whole_ge {X : List Ent} (h : ∀ e ∈ X, e.ok) : (X.length : Int) ≤ seenM X ∧ seenM X ≤ wholeM X := by
  induction X with
  | nil => exact ⟨by simp [seenM, sumI], by simp [seenM, wholeM, sumI]⟩
  | cons e X ih =>
    have h1 := ih (fun x hx => h x (by simp [hx]))
    have h2 := h e (by simp)
    unfold Ent.ok at h2
    rw [wholeM_cons, seenM_cons]
    simp only [List.length_cons]
    omega
theorem Good.len {X : List Ent} (h : Good X) : X.length ≤ 100000000 := by
  have := whole_ge h.ok
  have := h.few
  omega
theorem Good.bound {X : List Ent} (h : Good X) {e : Ent} (he : e ∈ X) : 1 ≤ e.n ∧ e.n ≤ e.o.qty ∧ e.o.qty ≤ 100000000 := by
  have h1 := h.ok e he
  unfold Ent.ok at h1
  refine ⟨h1.1, h1.2, ?_⟩
  obtain ⟨s, t, rfl⟩ := List.append_of_mem he
  have h2 := h.few
  rw [wholeM_append, wholeM_cons] at h2
  have h3 := whole_ge (X := s) (fun x hx => h.ok x (by simp [hx]))
  have h4 := whole_ge (X := t) (fun x hx => h.ok x (by simp [hx]))
  omega
theorem tip_ok (o : Ord) (h : 1 ≤ o.qty) : (Ent.of o).ok := by
  unfold Ent.ok Ent.of Ord.tip
  simp only
  by_cases h1 : 0 < o.shw
  · rw [if_pos h1]
    have := mn_le o.shw o.qty
    have := mn_pos o.shw o.qty h1 (by omega)
    omega
  · rw [if_neg h1]
    omega
theorem next_whole (e : Ent) (n : Int) (R : List Ent) : wholeM (nextM e n R) = e.o.qty - n + wholeM R := by
  unfold nextM
  split
  · rename_i h; rw [h]; omega
  · split
    · rw [wholeM_append, wholeM_cons]
      simp [Ent.of, Ent.sub, Ord.q, wholeM, sumI]
      omega
    · rw [wholeM_cons]
      simp [Ent.sub, Ord.q]
theorem next_good {e : Ent} {n : Int} {R : List Ent} (h : Good (e :: R)) (h1 : 1 ≤ n) (h2 : n ≤ e.n) : Good (nextM e n R) := by
  have hb := h.bound (e := e) (by simp)
  refine ⟨?_, ?_⟩
  · intro x hx
    unfold nextM at hx
    split at hx
    · exact h.ok x (by simp [hx])
    · split at hx
      · rcases List.mem_append.1 hx with hx | hx
        · exact h.ok x (by simp [hx])
        · simp at hx
          subst hx
          refine tip_ok _ ?_
          simp [Ent.sub, Ord.q]
          omega
      · rcases List.mem_cons.1 hx with rfl | hx
        · unfold Ent.ok
          simp only [Ent.sub, Ord.q]
          omega
        · exact h.ok x (by simp [hx])
  · rw [next_whole]
    have := h.few
    rw [wholeM_cons] at this
    omega

/-- what holds of a take -/
theorem takeM_facts (firm : Int) : ∀ (k : Nat) (q : Int) (X : List Ent), q.toNat ≤ k → Good X →
    Good (takeM firm q X).2.2 ∧ wholeM (takeM firm q X).2.2 = wholeM X - seenM (takeM firm q X).1 ∧ (∀ h ∈ (takeM firm q X).1, 1 ≤ h.n ∧ h.n ≤ h.o.qty ∧ h.o.firm ≠ firm ∧ h.o.qty ≤ 100000000)
    ∧ ((takeM firm q X).1.length : Int) ≤ seenM (takeM firm q X).1 ∧ (0 ≤ q → seenM (takeM firm q X).1 ≤ q) := by
  intro k
  induction k with
  | zero =>
    intro q X hk hX
    rw [takeM_zero firm q X (by omega)]
    exact ⟨hX, by simp [seenM, sumI], by simp, by simp [seenM, sumI], by simp [seenM, sumI]⟩
  | succ k ih =>
    intro q X hk hX
    by_cases hq : q ≤ 0
    · rw [takeM_zero firm q X hq]
      exact ⟨hX, by simp [seenM, sumI], by simp, by simp [seenM, sumI], by simp [seenM, sumI]⟩
    · cases X with
      | nil => rw [takeM_nil]; exact ⟨hX, by simp [seenM, sumI], by simp, by simp [seenM, sumI], (by intro h; simp [seenM, sumI]; try omega)⟩
      | cons e R =>
        have hb := hX.bound (e := e) (by simp)
        by_cases hf : e.o.firm = firm
        · rw [takeM_own firm q e R (by omega) (by omega) hf]
          exact ⟨hX, by simp [seenM, sumI], by simp, by simp [seenM, sumI], (by intro h; simp [seenM, sumI]; try omega)⟩
        · rw [takeM_go firm q e R (by omega) (by omega) hf]
          have h1 := mn_le q e.n
          have h2 := mn_pos q e.n (by omega) (by omega)
          obtain ⟨i1, i2, i3, i4, i5⟩ := ih (q - mn q e.n) (nextM e (mn q e.n) R) (by omega) (next_good hX (by omega) h1.2)
          refine ⟨i1, ?_, ?_, ?_, fun _ => ?_⟩
          · simp only
            rw [i2, next_whole, seenM_cons, wholeM_cons]
            simp only
            omega
          · intro h hh
            rcases List.mem_cons.1 hh with rfl | hh
            · exact ⟨by simp only; omega, by simp only; omega, hf, hb.2.2⟩
            · exact i3 h hh
          · simp only [List.length_cons, seenM_cons]
            omega
          · simp only [seenM_cons]
            have := i5 (by omega)
            omega
end Go.Proofs.Ytgajdkelpaaadaa
