/-
  Slices of structs, wherever they lie in their block: reading, storing, parts, append. No condition.
-/
import Derived.Test.YtliepgmnlhfaiaaOrd
import Derived.Test.YtliepgmnlhfaiaaOwnG
import Derived.Test.YtliepgmnlhfaiaaNum
import Derived.ArgAppend
import Derived.Lib.SliceRun
namespace Go.Proofs.Ytliepgmnlhfaiaa
open Go.RowKit
set_option linter.unusedVariables false
set_option maxRecDepth 100000

theorem Blk.setCells {g : Nat} {T : TypeId} : ∀ (cs : List Value) (k : Nat) (u : World) (xs : List Value), Blk u g T xs → k + cs.length ≤ xs.length →
    Blk (u.setCells g k cs) g T (xs.take k ++ cs ++ xs.drop (k + cs.length)) ∧ Keep (· = g) u (u.setCells g k cs) ∧ (u.setCells g k cs).heap.size = u.heap.size := by
  intro cs
  induction cs with
  | nil =>
    intro k u xs hx hk
    refine ⟨?_, Keep.refl _ _, rfl⟩
    simpa [World.setCells] using hx
  | cons c cs ih =>
    intro k u xs hx hk
    simp only [List.length_cons] at hk
    have h1 := hx.set_ k c
    obtain ⟨h2, k2, s2⟩ := ih (k + 1) _ _ h1 (by simp; omega)
    have e : (xs.set k c).take (k + 1) ++ cs ++ (xs.set k c).drop (k + 1 + cs.length) = xs.take k ++ (c :: cs) ++ xs.drop (k + (c :: cs).length) := by
      rw [List.drop_set_of_lt (by omega), List.take_succ_eq_append_getElem (by simp; omega)]
      simp [List.take_set_of_le, Nat.add_assoc, Nat.add_comm 1]
    rw [e] at h2
    refine ⟨?_, ?_, ?_⟩
    · simpa [World.setCells] using h2
    · have k1 : Keep (· = g) u (u.setCell ⟨g, k, none⟩ c) := Keep.setCell (Keep.refl (· = g) u) (fun _ => rfl) _
      have := k1.trans k2 (fun _ _ h => h)
      simpa [World.setCells] using this
    · have : (u.setCell ⟨g, k, none⟩ c).heap.size = u.heap.size := by simp [World.setCell]
      rw [← this, ← s2]
      simp [World.setCells]

/-- a slice of n elements of k cells each, wherever it lies -/
def Sl (w : World) (T : TypeId) (k : Nat) (v : Value) (n : Nat) (cs : List Value) : Prop :=
  cs.length = n * k ∧ ∃ A c, v = .slice A n c ∧ n ≤ c ∧ c ≤ maxLen ∧ (A = none → c = 0) ∧ ∀ ad, A = some ad → ∃ g off cur, ad = ⟨g, off, none⟩ ∧ Blk w g T cur ∧ off + c * k ≤ cur.length ∧ (cur.drop off).take (n * k) = cs

theorem Sl.nil (w : World) (T : TypeId) (k : Nat) : Sl w T k (.slice none 0 0) 0 [] := ⟨by simp, none, 0, rfl, Nat.le_refl _, Nat.zero_le _, fun _ => rfl, fun ad h => by cases h⟩
theorem Sl.len {w : World} {T : TypeId} {k n : Nat} {v : Value} {cs : List Value} (h : Sl w T k v n cs) : cs.length = n * k := h.1
theorem Sl.lt {w : World} {T : TypeId} {k n : Nat} {v : Value} {cs : List Value} (h : Sl w T k v n cs) {b : Nat} (hb : v.ownBlock = some b) : b < w.heap.size := by
  obtain ⟨_, A, c, rfl, _, _, _, h⟩ := h
  cases A with
  | none => simp [Value.ownBlock] at hb
  | some ad =>
    obtain ⟨g, off, cur, rfl, hB, _⟩ := h _ rfl
    simp [Value.ownBlock] at hb
    subst hb
    exact hB.lt
theorem Sl.keep {S : Nat → Prop} {w w' : World} {T : TypeId} {k n : Nat} {v : Value} {cs : List Value} (h : Sl w T k v n cs) (hk : Keep S w w') (hn : ∀ b, v.ownBlock = some b → ¬ S b) : Sl w' T k v n cs := by
  obtain ⟨h0, A, c, rfl, h1, h2, h3, h4⟩ := h
  refine ⟨h0, A, c, rfl, h1, h2, h3, fun ad had => ?_⟩
  obtain ⟨g, off, cur, rfl, hB, h5⟩ := h4 ad had
  subst had
  exact ⟨g, off, cur, rfl, hB.keep hk (hn g rfl), h5⟩
theorem Sl.kept {w w' : World} {T : TypeId} {k n : Nat} {v : Value} {cs : List Value} (h : Sl w T k v n cs) (hk : Kept w w') : Sl w' T k v n cs := h.keep hk (fun _ _ h => h)
theorem Sl.of_own {w : World} {base k n : Nat} {T : TypeId} {v : Value} {cs : List Value} (h : w.ownsRow base T k v n cs) : Sl w T k v n cs := by
  refine ⟨h.1, ?_⟩
  rcases h.2 with ⟨rfl, rfl⟩ | ⟨g, cap, cur, rfl, _, hh, h1, h2, h3, h4⟩
  · exact ⟨none, 0, rfl, Nat.le_refl _, Nat.zero_le _, fun _ => rfl, fun ad h => by cases h⟩
  · refine ⟨_, cap, rfl, h1, h2, fun h => (by cases h), fun ad had => ?_⟩
    injection had with had
    subst had
    exact ⟨g, 0, cur.toList, rfl, by unfold Blk; rw [hh], by simp [h3], by simpa using h4⟩
theorem own_of {w : World} {base k n : Nat} {T : TypeId} {v : Value} {cs : List Value} (h : w.ownsRow base T k v n cs) {b : Nat} (hb : v.ownBlock = some b) : base ≤ b := by
  rcases h.2 with ⟨rfl, _⟩ | ⟨g, cap, cur, rfl, h1, _⟩
  · simp [Value.ownBlock] at hb
  · simp [Value.ownBlock] at hb
    omega
/-- where it has elements, it lies somewhere -/
theorem Sl.at_ {w : World} {T : TypeId} {k n : Nat} {v : Value} {cs : List Value} (h : Sl w T k v n cs) (hn : 0 < n) : ∃ g off c cur, v = .slice (some ⟨g, off, none⟩) n c ∧ Blk w g T cur ∧ n ≤ c ∧ c ≤ maxLen ∧ off + c * k ≤ cur.length ∧ (cur.drop off).take (n * k) = cs := by
  obtain ⟨_, A, c, rfl, h1, h2, h3, h4⟩ := h
  cases A with
  | none => have := h3 rfl; omega
  | some ad =>
    obtain ⟨g, off, cur, rfl, hB, h5, h6⟩ := h4 _ rfl
    exact ⟨g, off, c, cur, rfl, hB, h1, h2, h5, h6⟩
theorem seg_cell {w : World} {g off m : Nat} {T : TypeId} {cur cs : List Value} (hB : Blk w g T cur) (h : (cur.drop off).take m = cs) : w.rangeAt g off cs := by
  intro j v hv
  rw [hB.cell, ← hv, ← h, List.getElem?_take]
  split
  · rw [List.getElem?_drop]
  · rename_i hj
    rw [← h, List.getElem?_take, if_neg hj] at hv
    cases hv
theorem range_drop {w : World} {g off : Nat} {cs : List Value} (h : w.rangeAt g off cs) (i : Nat) : w.rangeAt g (off + i) (cs.drop i) := by
  intro j v hv
  rw [List.getElem?_drop] at hv
  have := h (i + j) v hv
  rw [Nat.add_assoc]
  exact this
theorem range_take {w : World} {g off : Nat} {cs : List Value} (h : w.rangeAt g off cs) (i : Nat) : w.rangeAt g off (cs.take i) := by
  intro j v hv
  rw [List.getElem?_take] at hv
  split at hv
  · exact h j v hv
  · cases hv
theorem range_kept {w w' : World} {g off : Nat} {cs : List Value} (h : w.rangeAt g off cs) (hk : Kept w w') : w'.rangeAt g off cs := fun j v hv => hk.cell (h j v hv)
theorem range_keep {S : Nat → Prop} {w w' : World} {g off : Nat} {cs : List Value} (h : w.rangeAt g off cs) (hk : Keep S w w') (hn : ¬ S g) : w'.rangeAt g off cs := fun j v hv => hk.cell (h j v hv) hn
theorem range_int {w : World} {g off : Nat} {l : List Int} (h : w.rangeAt g off (stc l [])) (i : Nat) (x : Int) (hx : l[i]? = some x) : w.cell? ⟨g, off + i, none⟩ = some (.int .i64 x) := h i _ (stc_int l [] i x hx)
theorem blk_range {w : World} {g : Nat} {T : TypeId} {cs : List Value} (h : Blk w g T cs) : w.rangeAt g 0 cs := fun j v hv => by rw [Nat.zero_add, h.cell]; exact hv

/-! rows of like elements -/
section
variable {α : Type} (f : α → List Value) (k : Nat) (hk : ∀ x, (f x).length = k)
include hk
theorem flat_len (X : List α) : (X.flatMap f).length = X.length * k := by
  induction X with
  | nil => simp
  | cons x X ih => rw [List.flatMap_cons, List.length_append, ih, hk, List.length_cons, Nat.add_mul, Nat.one_mul, Nat.add_comm]
theorem flat_drop (X : List α) (i : Nat) : (X.flatMap f).drop (i * k) = (X.drop i).flatMap f := by
  induction X generalizing i with
  | nil => simp
  | cons x X ih =>
    cases i with
    | zero => simp
    | succ i =>
      rw [List.flatMap_cons, Nat.add_mul, Nat.one_mul, List.drop_append, List.drop_of_length_le (by rw [hk]; omega), hk, Nat.add_sub_cancel, ih]
      rfl
theorem flat_take (X : List α) (i : Nat) : (X.flatMap f).take (i * k) = (X.take i).flatMap f := by
  induction X generalizing i with
  | nil => simp
  | cons x X ih =>
    cases i with
    | zero => simp
    | succ i =>
      rw [List.flatMap_cons, Nat.add_mul, Nat.one_mul, List.take_append, List.take_of_length_le (by rw [hk]; omega), hk, Nat.add_sub_cancel, ih]
      rfl
theorem flat_at (X : List α) (i : Nat) (x : α) (hx : X[i]? = some x) : ((X.flatMap f).drop (i * k)).take k = f x := by
  rw [flat_drop f k hk]
  obtain ⟨hi, rfl⟩ := List.getElem?_eq_some_iff.1 hx
  rw [List.drop_eq_getElem_cons hi, List.flatMap_cons, List.take_append_of_le_length (by rw [hk]; omega), List.take_of_length_le (by rw [hk]; omega)]
/-- one element is another one -/
theorem flat_set (X : List α) (i : Nat) (y : α) (hi : i < X.length) : (X.flatMap f).take (i * k) ++ f y ++ (X.flatMap f).drop (i * k + k) = (X.set i y).flatMap f := by
  rw [flat_take f k hk, show i * k + k = (i + 1) * k by rw [Nat.add_mul, Nat.one_mul], flat_drop f k hk, List.set_eq_take_append_cons_drop, if_pos hi, List.flatMap_append, List.flatMap_cons, List.append_assoc]
/-- one cell of one element is another one -/
theorem flat_setCell (X : List α) (i j : Nat) (u : Value) (x y : α) (hx : X[i]? = some x) (hj : j < k) (hy : f y = (f x).set j u) : (X.flatMap f).set (i * k + j) u = (X.set i y).flatMap f := by
  obtain ⟨hi, rfl⟩ := List.getElem?_eq_some_iff.1 hx
  rw [← flat_set f k hk X i y hi, hy]
  have h1 := flat_at f k hk X i X[i] (List.getElem?_eq_getElem hi)
  have hl := flat_len f k hk X
  have h2 : (i + 1) * k ≤ X.length * k := Nat.mul_le_mul_right k hi
  rw [Nat.add_mul, Nat.one_mul] at h2
  apply List.ext_getElem?
  intro m
  have e1 : ((X.flatMap f).take (i * k)).length = i * k := by rw [List.length_take]; omega
  have e2 : ((f X[i]).set j u).length = k := by rw [List.length_set, hk]
  rw [List.append_assoc, List.getElem?_append, e1, List.getElem?_append, e2]
  by_cases c1 : m < i * k
  · rw [if_pos c1, List.getElem?_set_ne (by omega), List.getElem?_take, if_pos c1]
  · rw [if_neg c1]
    by_cases c2 : m - i * k < k
    · rw [if_pos c2]
      have h3 : (f X[i])[m - i * k]? = (X.flatMap f)[m]? := by
        rw [← h1, List.getElem?_take, if_pos c2, List.getElem?_drop, show i * k + (m - i * k) = m by omega]
      by_cases c3 : m = i * k + j
      · subst c3
        rw [List.getElem?_set_self (by omega), show i * k + j - i * k = j by omega, List.getElem?_set_self (by rw [hk]; exact hj)]
      · rw [List.getElem?_set_ne (by omega), List.getElem?_set_ne (by omega), h3]
    · rw [if_neg c2, List.getElem?_set_ne (by omega), List.getElem?_drop, show i * k + k + (m - i * k - k) = m by omega]
end
end Go.Proofs.Ytliepgmnlhfaiaa
