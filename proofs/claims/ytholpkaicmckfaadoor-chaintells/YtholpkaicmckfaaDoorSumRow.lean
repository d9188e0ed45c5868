/-
  Rows of sums: made, and one of them stored. No condition.
-/
import Derived.Test.YtholpkaicmckfaaDoorRecs
import Derived.Test.YtholpkaicmckfaaDoorChainM
namespace Go.Proofs.YtholpkaicmckfaaDoor
open Go.RowKit
set_option linter.unusedVariables false

theorem splice_at {α : Type} (L : List α) (off : Nat) (cs : List α) (h : off + cs.length ≤ L.length) (j : Nat) : (splice L off cs)[j]? = if j < off then L[j]? else if j < off + cs.length then cs[j - off]? else L[j]? := by
  unfold splice
  have hl : (L.take off).length = off := by rw [List.length_take]; omega
  by_cases h1 : j < off
  · rw [if_pos h1, List.getElem?_append_left (by omega), List.getElem?_take, if_pos h1]
  · rw [if_neg h1, List.getElem?_append_right (by omega), hl]
    by_cases h2 : j < off + cs.length
    · rw [if_pos h2, List.getElem?_append_left (by omega)]
    · rw [if_neg h2, List.getElem?_append_right (by omega), List.getElem?_drop]
      congr 1
      omega
theorem splice_cons (old : List Value) (o : Nat) (v : Value) (r : List Value) (h : o + (r.length + 1) ≤ old.length) : splice old o (v :: r) = splice (old.set o v) (o + 1) r := by
  apply List.ext_getElem?
  intro j
  rw [splice_at _ _ _ (by simpa using h), splice_at _ _ _ (by rw [List.length_set]; omega)]
  by_cases h1 : j < o
  · rw [if_pos h1, if_pos (by omega), List.getElem?_set_ne (by omega)]
  · rw [if_neg h1]
    by_cases h2 : j = o
    · subst h2
      rw [if_pos (by simp), if_pos (by omega), List.getElem?_set_self (by omega)]
      simp
    · rw [if_neg (show ¬ j < o + 1 by omega)]
      by_cases h3 : j < o + 1 + r.length
      · rw [if_pos (by simp; omega), if_pos h3, show j - o = (j - (o + 1)) + 1 by omega]
        simp
      · rw [if_neg (by simp; omega), if_neg h3, List.getElem?_set_ne (by omega)]
theorem blk_setCells {w : World} {g : Nat} {t : TypeId} (vs : List Value) : ∀ (o : Nat) (w : World) (old : List Value), Blk w g t old → o + vs.length ≤ old.length → Blk (w.setCells g o vs) g t (splice old o vs) ∧ Keep (· = g) w (w.setCells g o vs) ∧ (w.setCells g o vs).heap.size = w.heap.size := by
  induction vs with
  | nil =>
    intro o w old hb h
    refine ⟨?_, Keep.refl _ _, rfl⟩
    show Blk w g t (splice old o [])
    rw [show splice old o [] = old by simp [splice]]
    exact hb
  | cons v r ih =>
    intro o w old hb h
    simp only [List.length_cons] at h
    obtain ⟨h1, h2, h3⟩ := ih (o + 1) (w.setCell ⟨g, o, none⟩ v) (old.set o v) (hb.set_ o v) (by rw [List.length_set]; omega)
    rw [splice_cons old o v r (by omega)]
    refine ⟨h1, ?_, ?_⟩
    · exact (Keep.setCell (S := (· = g)) (Keep.refl _ w) (p := ⟨g, o, none⟩) (fun _ => rfl) v).trans h2 (fun _ _ h => h)
    · rw [World.setCells, h3]
      simp [World.setCell]
theorem blk_there {w : World} {g : Nat} {t : TypeId} {old : List Value} (hb : Blk w g t old) (o n : Nat) (h : o + n ≤ old.length) : w.there g o n := fun j hj => by
  refine ⟨?_, hb.frozen _⟩
  rw [hb.cell, List.getElem?_eq_getElem (by omega)]
  rfl
/-- an array stored into the midst of a block that is known whole -/
theorem wpl_store_mid {ops : Array Oper} {rest : List Oper} {o : Oper} {a : Act} {Q : Exit → Act → World → Prop} (w : World) (hg : o.guard = none) (ty : TypeId) (x y : Operand) (hop : o.op = .store ty x y)
    (g off : Nat) (cells : List Value) (hx : a.eval x = .pointer (some ⟨g, off, none⟩)) (hy : a.eval y = .agg cells.toArray)
    (t : TypeId) (old : List Value) (hb : Blk w g t old) (hi : (Tryd.prog.info? ty).map (·.size) = some cells.length) (hfit : off + cells.length ≤ old.length) (h1 : ∀ u ∈ cells, u.oneCell' = true)
    (h : ∀ w', Blk w' g t (splice old off cells) → Keep (· = g) w w' → w'.heap.size = w.heap.size → wpList Tryd.prog ops Q rest (a.put o.dst undef) w') : wpList Tryd.prog ops Q (o :: rest) a w := by
  obtain ⟨h2, h3, h4⟩ := blk_setCells (w := w) (g := g) (t := t) cells off w old hb hfit
  exact wpList_store_mid hg ty x y hop g off cells.toArray hx hy (by simpa using blk_there hb off cells.length hfit) (by simpa using hi) (all_oneCell_toArray h1) (h _ h2 h3 h4)

theorem zsum_cells : cells8 zsum = z32 := rfl
theorem zsum_length : zsum.length = 32 := rfl
theorem splice_sums (X : List (List UInt8)) (hX : ∀ x ∈ X, x.length = 32) (i : Nat) (hi : i < X.length) (x : List UInt8) (hx : x.length = 32) : splice (sumCells X) (i * 32) (cells8 x) = sumCells (X.set i x) := by
  have hX' : ∀ y ∈ X.set i x, y.length = 32 := fun y hy => by
    rcases List.mem_or_eq_of_mem_set hy with h | h
    · exact hX y h
    · rw [h]; exact hx
  have hl := sumCells_length X hX
  have hl' := sumCells_length _ hX'
  rw [List.length_set] at hl'
  apply List.ext_getElem?
  intro j
  by_cases hj : j < X.length * 32
  · obtain ⟨q, r, rfl, hr⟩ : ∃ q r, j = q * 32 + r ∧ r < 32 := ⟨j / 32, j % 32, by omega, by omega⟩
    have hq : q < X.length := by omega
    have hsl : (sumCells X).length = X.length * 32 := hl
    rw [splice_at _ _ _ (by rw [len8]; omega), len8, hx]
    by_cases e : q = i
    · subst e
      rw [sumCells_at _ hX' q r hr x (by rw [List.getElem?_set_self hi]), if_neg (by omega), if_pos (by omega), show q * 32 + r - q * 32 = r by omega]
    · rw [sumCells_at _ hX' q r hr X[q] (by rw [List.getElem?_set_ne (by omega), List.getElem?_eq_getElem hq]), ← sumCells_at X hX q r hr X[q] (List.getElem?_eq_getElem hq)]
      by_cases hlt : q < i
      · rw [if_pos (by omega)]
      · rw [if_neg (by omega), if_neg (by omega)]
  · rw [List.getElem?_eq_none (by rw [length_splice _ _ _ (by rw [len8]; omega)]; omega), List.getElem?_eq_none (by omega)]

theorem made_sums (n : Nat) : (madeCells z32.toArray (n * 32)).toList = sumCells (List.replicate n zsum) := by
  have hX : ∀ x ∈ List.replicate n zsum, x.length = 32 := fun x hx => by rw [List.eq_of_mem_replicate hx]; rfl
  have hl := sumCells_length _ hX
  rw [List.length_replicate] at hl
  apply List.ext_getElem?
  intro j
  by_cases hj : j < n * 32
  · obtain ⟨q, r, rfl, hr⟩ : ∃ q r, j = q * 32 + r ∧ r < 32 := ⟨j / 32, j % 32, by omega, by omega⟩
    rw [sumCells_at _ hX q r hr zsum (by rw [List.getElem?_replicate, if_pos (by omega)]), zsum_cells]
    have e : (q * 32 + r) % 32 = r := by omega
    simp [madeCells, hj, z32, e, hr]
  · rw [List.getElem?_eq_none (by simp [size_madeCells]; omega), List.getElem?_eq_none (by omega)]
theorem infoS : (Tryd.prog.info? 30).map (fun i => (i.zero, i.size, i.bytes)) = some (some (.agg z32.toArray), 32, 32) := by kernel_rfl
theorem run_makeS (n : Nat) (hn : n ≤ 1000000) (u : World) : (Instr.makeSlice 24 (.int .i64 (n : Int)) (.int .i64 (n : Int))).run Tryd.prog u =
      .ok (.slice (some ⟨u.heap.size, 0, none⟩) n n) (u.alloc (.cells (sumCells (List.replicate n zsum)).toArray 30)) := by
  obtain ⟨i0, hi, hz0, hz1, hz2⟩ := info_parts infoS
  have h := run_make (P := Tryd.prog) (w := u) 24 30 i0 (.agg z32.toArray) Tryd.underlying24 hi hz0 .i64 .i64 (n : Int) (n : Int) (by omega) (by omega) (by rw [hz2]; omega) (by omega)
  rw [h, hz1, ← made_sums]
  simp [Value.cells]
end Go.Proofs.YtholpkaicmckfaaDoor
