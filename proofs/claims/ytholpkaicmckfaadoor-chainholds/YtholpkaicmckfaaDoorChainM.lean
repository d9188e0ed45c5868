/-
  Links of records as plain mathematics over shaOf; where two rows of records clash; the chain's consequence. No condition; nothing is assumed of the hash.
-/
import Derived.Test.YtholpkaicmckfaaDoorShaSum
namespace Go.Proofs.YtholpkaicmckfaaDoor
set_option linter.unusedVariables false

def zsum : List UInt8 := List.replicate 32 0
/-- a link: the sum of the link ahead, the record's length, the record -/
def linkOf (p b : List UInt8) : List UInt8 := shaOf (p ++ (be b.length 4 ++ b))
theorem linkOf_length (p b : List UInt8) : (linkOf p b).length = 32 := shaOf_length _
/-- the link behind all records of l, that behind none being p -/
def lastFrom (p : List UInt8) : List (List UInt8) → List UInt8
  | [] => p
  | b :: l => lastFrom (linkOf p b) l
def linksFrom (p : List UInt8) : List (List UInt8) → List (List UInt8)
  | [] => []
  | b :: l => linkOf p b :: linksFrom (linkOf p b) l
def linksOf (l : List (List UInt8)) : List (List UInt8) := linksFrom zsum l
/-- the link ahead of record i -/
def aheadOf (l : List (List UInt8)) (i : Nat) : List UInt8 := lastFrom zsum (l.take i)

theorem lastFrom_append (p : List UInt8) (l m : List (List UInt8)) : lastFrom p (l ++ m) = lastFrom (lastFrom p l) m := by
  induction l generalizing p with
  | nil => rfl
  | cons b l ih => exact ih _
theorem linksFrom_append (p : List UInt8) (l m : List (List UInt8)) : linksFrom p (l ++ m) = linksFrom p l ++ linksFrom (lastFrom p l) m := by
  induction l generalizing p with
  | nil => rfl
  | cons b l ih => simp [linksFrom, lastFrom, ih]
theorem linksFrom_length (p : List UInt8) (l : List (List UInt8)) : (linksFrom p l).length = l.length := by
  induction l generalizing p with
  | nil => rfl
  | cons b l ih => simp [linksFrom, ih]
theorem linksOf_length (l : List (List UInt8)) : (linksOf l).length = l.length := linksFrom_length _ _
theorem linksFrom_at (p : List UInt8) (l : List (List UInt8)) (i : Nat) (b : List UInt8) (h : l[i]? = some b) : (linksFrom p l)[i]? = some (linkOf (lastFrom p (l.take i)) b) := by
  induction l generalizing p i with
  | nil => simp at h
  | cons c l ih =>
    cases i with
    | zero =>
      simp at h
      subst h
      rfl
    | succ i =>
      simp at h
      simpa [linksFrom, lastFrom] using ih (linkOf p c) i h
theorem linksOf_at (l : List (List UInt8)) (i : Nat) (b : List UInt8) (h : l[i]? = some b) : (linksOf l)[i]? = some (linkOf (aheadOf l i) b) := linksFrom_at _ _ _ _ h
theorem aheadOf_zero (l : List (List UInt8)) : aheadOf l 0 = zsum := rfl
theorem aheadOf_succ (l : List (List UInt8)) (i : Nat) (b : List UInt8) (h : l[i]? = some b) : aheadOf l (i + 1) = linkOf (aheadOf l i) b := by
  unfold aheadOf
  rw [List.take_add_one, h, lastFrom_append]
  rfl
theorem linksOf_ahead (l : List (List UInt8)) (i : Nat) (h : i < l.length) : (linksOf l)[i]? = some (aheadOf l (i + 1)) := by
  have hb : l[i]? = some l[i] := List.getElem?_eq_getElem h
  rw [linksOf_at l i _ hb, aheadOf_succ l i _ hb]
theorem aheadOf_length (l : List (List UInt8)) (i : Nat) (h : i ≤ l.length) : (aheadOf l i).length = 32 := by
  cases i with
  | zero => simp [aheadOf_zero, zsum]
  | succ i => rw [aheadOf_succ l i _ (List.getElem?_eq_getElem (by omega)), linkOf_length]
theorem linksOf_each (l : List (List UInt8)) (x : List UInt8) (h : x ∈ linksOf l) : x.length = 32 := by
  obtain ⟨i, hi, rfl⟩ := List.getElem_of_mem h
  rw [linksOf_length] at hi
  have h1 := linksOf_ahead l i hi
  rw [List.getElem?_eq_getElem (by rw [linksOf_length]; exact hi)] at h1
  injection h1 with h1
  rw [h1]
  exact aheadOf_length l (i + 1) (by omega)

/-- do two rows come to one link at i by unlike things? -/
def clashAt (a b : List (List UInt8)) (i : Nat) : Prop := i < a.length ∧ i < b.length ∧ aheadOf a (i + 1) = aheadOf b (i + 1) ∧ (aheadOf a i ≠ aheadOf b i ∨ a[i]? ≠ b[i]?)
instance (a b : List (List UInt8)) (i : Nat) : Decidable (clashAt a b i) := by unfold clashAt; infer_instance
/-- the first of them, from i on, n places; none: -1 -/
def clashFrom (a b : List (List UInt8)) (i : Nat) : Nat → Int
  | 0 => -1
  | n + 1 => if clashAt a b i then (i : Int) else clashFrom a b (i + 1) n
def clashOf (a b : List (List UInt8)) : Int := clashFrom a b 0 (min a.length b.length)

theorem clashFrom_none (a b : List (List UInt8)) (n : Nat) : ∀ i, clashFrom a b i n = -1 → ∀ j, i ≤ j → j < i + n → ¬ clashAt a b j := by
  induction n with
  | zero => intro i _ j h1 h2; omega
  | succ n ih =>
    intro i h j h1 h2
    unfold clashFrom at h
    split at h
    · omega
    · rename_i hc
      by_cases e : j = i
      · subst e; exact hc
      · exact ih (i + 1) h j (by omega) (by omega)
theorem clashFrom_some (a b : List (List UInt8)) (n : Nat) : ∀ i, clashFrom a b i n ≠ -1 → ∃ j : Nat, clashFrom a b i n = (j : Int) ∧ i ≤ j ∧ j < i + n ∧ clashAt a b j := by
  induction n with
  | zero => intro i h; exact (h rfl).elim
  | succ n ih =>
    intro i h
    unfold clashFrom at h ⊢
    split
    · rename_i hc
      exact ⟨i, rfl, by omega, by omega, hc⟩
    · rename_i hc
      rw [if_neg hc] at h
      obtain ⟨j, h1, h2, h3, h4⟩ := ih (i + 1) h
      exact ⟨j, h1, by omega, by omega, h4⟩
theorem clashOf_self (a : List (List UInt8)) : clashOf a a = -1 := by
  by_cases h : clashOf a a = -1
  · exact h
  · obtain ⟨j, _, _, _, _, _, _, h4⟩ := clashFrom_some a a _ 0 h
    simp at h4

/-- THE CHAIN: no clash at any place, and one link behind n records: they are the same -/
theorem chain_back (a b : List (List UInt8)) (n : Nat) (ha : n ≤ a.length) (hb : n ≤ b.length) (hc : ∀ j, j < n → ¬ clashAt a b j) (h : aheadOf a n = aheadOf b n) : a.take n = b.take n := by
  induction n with
  | zero => simp
  | succ n ih =>
    have h1 := hc n (by omega)
    unfold clashAt at h1
    have h2 : aheadOf a n = aheadOf b n ∧ a[n]? = b[n]? := by
      by_cases e1 : aheadOf a n = aheadOf b n
      · by_cases e2 : a[n]? = b[n]?
        · exact ⟨e1, e2⟩
        · exact (h1 ⟨by omega, by omega, h, .inr e2⟩).elim
      · exact (h1 ⟨by omega, by omega, h, .inl e1⟩).elim
    rw [List.take_add_one, List.take_add_one, ih (by omega) (by omega) (fun j hj => hc j (by omega)) h2.1, h2.2]
/-- P4.4 -/
theorem chain_last (a b : List (List UInt8)) (hl : a.length = b.length) (h : aheadOf a a.length = aheadOf b b.length) : a = b ∨ ∃ j : Nat, clashOf a b = (j : Int) ∧ clashAt a b j := by
  by_cases hc : clashOf a b = -1
  · left
    have := chain_back a b a.length (Nat.le_refl _) (by omega) (fun j hj => clashFrom_none a b _ 0 hc j (by omega) (by omega)) (by rw [h, hl])
    rwa [List.take_of_length_le (Nat.le_refl _), List.take_of_length_le (by omega)] at this
  · right
    obtain ⟨j, h1, _, _, h4⟩ := clashFrom_some a b _ 0 hc
    exact ⟨j, h1, h4⟩

/-- the first place at which two rows of links differ, from i on -/
def diffFrom (x y : List (List UInt8)) (i : Nat) : Nat → Int
  | 0 => if x.length = y.length then -1 else (i : Int)
  | n + 1 => if x[i]? = y[i]? then diffFrom x y (i + 1) n else (i : Int)
def diffOf (x y : List (List UInt8)) : Int := diffFrom x y 0 (min x.length y.length)
theorem diffFrom_same (x : List (List UInt8)) (n : Nat) : ∀ i, diffFrom x x i n = -1 := by
  induction n with
  | zero => intro i; simp [diffFrom]
  | succ n ih => intro i; simp [diffFrom, ih]
theorem diffFrom_range (x y : List (List UInt8)) (n : Nat) : ∀ i, diffFrom x y i n = -1 ∨ ((i : Int) ≤ diffFrom x y i n ∧ diffFrom x y i n ≤ ((i + n : Nat) : Int)) := by
  induction n with
  | zero => intro i; unfold diffFrom; split <;> omega
  | succ n ih =>
    intro i
    unfold diffFrom
    split
    · rcases ih (i + 1) with h | h <;> omega
    · right; omega
theorem diffFrom_none (x y : List (List UInt8)) (n : Nat) : ∀ i, diffFrom x y i n = -1 → (∀ j, i ≤ j → j < i + n → x[j]? = y[j]?) ∧ x.length = y.length := by
  induction n with
  | zero =>
    intro i h
    unfold diffFrom at h
    split at h
    · rename_i he
      exact ⟨fun j h1 h2 => by omega, he⟩
    · omega
  | succ n ih =>
    intro i h
    unfold diffFrom at h
    split at h
    · rename_i he
      obtain ⟨h1, h2⟩ := ih (i + 1) h
      refine ⟨fun j h3 h4 => ?_, h2⟩
      by_cases e : j = i
      · subst e; exact he
      · exact h1 j (by omega) (by omega)
    · omega
theorem diffOf_none (x y : List (List UInt8)) (h : diffOf x y = -1) : x = y := by
  obtain ⟨h1, h2⟩ := diffFrom_none x y _ 0 h
  apply List.ext_getElem?
  intro i
  by_cases hi : i < min x.length y.length
  · exact h1 i (by omega) (by omega)
  · rw [List.getElem?_eq_none (by omega), List.getElem?_eq_none (by omega)]
end Go.Proofs.YtholpkaicmckfaaDoor
