/-
  Slices of slices of bytes, slices of sums: what they read as; the operations that a walk meets at them. No condition.
-/
import Derived.Test.YtholpkaicmckfaaDoorOwnG
import Derived.Test.YtholpkaicmckfaaDoorClassT
import Derived.Deep.MidRow
namespace Go.Proofs.YtholpkaicmckfaaDoor
open Go.RowKit
set_option linter.unusedVariables false

/-- a slice whose elements are slices of bytes that read as these -/
def Recs (w : World) (A : Option Addr) (L : List (List UInt8)) : Prop := ∀ (i : Nat) (xs : List UInt8), L[i]? = some xs → ∃ b o u, A = some ⟨b, o, none⟩ ∧ w.cell? ⟨b, o + i, none⟩ = some u ∧ Bytes w u xs
theorem Recs.nil (w : World) (A : Option Addr) : Recs w A [] := fun i xs h => by simp at h
theorem Recs.kept {w w' : World} {A : Option Addr} {L : List (List UInt8)} (h : Recs w A L) (hk : Kept w w') : Recs w' A L := fun i xs hx => by
  obtain ⟨b, o, u, e, hc, hb⟩ := h i xs hx
  exact ⟨b, o, u, e, hk.cell hc, hb.kept hk⟩
theorem Recs.take {w : World} {A : Option Addr} {L : List (List UInt8)} (h : Recs w A L) (n : Nat) : Recs w A (L.take n) := fun i xs hx => by
  rw [List.getElem?_take] at hx
  split at hx
  · exact h i xs hx
  · cases hx
/-- such a slice, as a value -/
def RecV (w : World) (v : Value) (L : List (List UInt8)) : Prop := ∃ A n c, v = .slice A n c ∧ Hid (L.length = n) ∧ Recs w A L ∧ n ≤ c ∧ c ≤ maxLen
theorem RecV.kept {w w' : World} {v : Value} {L : List (List UInt8)} (h : RecV w v L) (hk : Kept w w') : RecV w' v L := by
  obtain ⟨A, n, c, e, hl, hr, h1, h2⟩ := h
  exact ⟨A, n, c, e, hl, hr.kept hk, h1, h2⟩
theorem recv_of_elems {w : World} {v : Value} {L : List (List UInt8)} (h : Elems w v 1 (Piece w) L) : RecV w v L := by
  obtain ⟨A, n, c, e, hl, hr, h1, h2⟩ := h
  refine ⟨A, n, c, e, hl, fun i xs hx => ?_, h1, h2⟩
  obtain ⟨b, o, cs, e1, ⟨u, rfl, hb⟩, _, hc⟩ := hr i xs hx
  refine ⟨b, o, u, e1, ?_, hb⟩
  have := hc 0 u rfl
  simpa using this

/-- a slice whose elements are these sums -/
def Sums (w : World) (A : Option Addr) (X : List (List UInt8)) : Prop := ∀ (i : Nat) (x : List UInt8), X[i]? = some x → x.length = 32 ∧ ∃ g, A = some ⟨g, 0, none⟩ ∧ w.rangeAt g (i * 32) (cells8 x)
theorem Sums.keep {S : Nat → Prop} {w w' : World} {A : Option Addr} {X : List (List UInt8)} (h : Sums w A X) (hk : Keep S w w') (hn : ∀ ad, A = some ad → ¬ S ad.block) : Sums w' A X := fun i x hx => by
  obtain ⟨hl, g, e, hc⟩ := h i x hx
  exact ⟨hl, g, e, fun j v hv => hk.cell (hc j v hv) (hn ⟨g, 0, none⟩ e)⟩
theorem Sums.kept {w w' : World} {A : Option Addr} {X : List (List UInt8)} (h : Sums w A X) (hk : Kept w w') : Sums w' A X := h.keep hk (fun _ _ h => h)
theorem Sums.take {w : World} {A : Option Addr} {X : List (List UInt8)} (h : Sums w A X) (n : Nat) : Sums w A (X.take n) := fun i x hx => by
  rw [List.getElem?_take] at hx
  split at hx
  · exact h i x hx
  · cases hx
theorem sums_of_blk {w : World} {g : Nat} {t : TypeId} {X : List (List UInt8)} (h : Blk w g t (sumCells X)) (hX : ∀ x ∈ X, x.length = 32) : Sums w (some ⟨g, 0, none⟩) X := fun i x hx => by
  refine ⟨hX x (List.mem_of_getElem? hx), g, rfl, fun j v hv => ?_⟩
  have hj : j < 32 := by
    have := (List.getElem?_eq_some_iff.1 hv).1
    rwa [len8, hX x (List.mem_of_getElem? hx)] at this
  rw [h.cell, sumCells_at X hX i j hj x hx, hv]
theorem sums_of_own {w : World} {base n c : Nat} {A : Option Addr} {X : List (List UInt8)} (h : OwnG w base 30 32 A n c (sumCells X)) (hX : ∀ x ∈ X, x.length = 32) : Sums w A X := fun i x hx => by
  have hn : X.length = n := by have := h.len; rw [sumCells_length X hX] at this; omega
  have hi := (List.getElem?_eq_some_iff.1 hx).1
  obtain ⟨g, rfl, _, _⟩ := h.some_ (by omega)
  refine ⟨hX x (List.mem_of_getElem? hx), g, rfl, fun j v hv => ?_⟩
  have hj : j < 32 := by
    have := (List.getElem?_eq_some_iff.1 hv).1
    rwa [len8, hX x (List.mem_of_getElem? hx)] at this
  rw [h.cell _ (by omega), sumCells_at X hX i j hj x hx, hv]

theorem size_arr (xs : List UInt8) (h : xs.length = 32) : Hid ((Tryd.prog.info? 30).map (·.size) = some (cells8 xs).length) := by show _ = _; rw [len8, h]; exact sum_size
theorem zlen_arr (xs : List UInt8) (h : xs.length = 32) : Hid (z32.length = (cells8 xs).length) := by show _ = _; rw [len8, h]; rfl

/-! operations in any world of a class -/
theorem exec_assign {a : Act} {o : Oper} {u : World} (x : Operand) (v : Value) (hop : o.op = .assign x) (hx : a.eval x = v) : (execOp a.eval o).run Tryd.prog u = .ok (.value v) u := by
  subst hx
  unfold execOp
  simp [hop]
theorem exec_index {a : Act} {o : Oper} {u : World} (t e : TypeId) (k : Nat) (x y : Operand) (b of n c i : Nat) (hop : o.op = .indexAddr t x y) (ht : Tryd.prog.underlying t = some (.slice e)) (hk : (Tryd.prog.info? e).map (·.size) = some k)
    (hx : a.eval x = .slice (some ⟨b, of, none⟩) n c) (hy : a.eval y = .int .i64 (i : Int)) (hi : i < n) : (execOp a.eval o).run Tryd.prog u = .ok (.value (.pointer (some ⟨b, of + i * k, none⟩))) u := by
  have hin : (0 : Int) ≤ (i : Int) ∧ (i : Int) < (n : Int) := by omega
  cases hq : Tryd.prog.info? e with
  | none => simp [hq] at hk
  | some t0 =>
    have hs : t0.size = k := by simpa [hq] using hk
    unfold execOp
    simp only [hop, hx, hy]
    simp [Instr.indexAt, asIntOf, run_underlying ht, Sem.run_bind, hin, sizeOf, typeInfo, hq, hs, Addr.add_mid, hi]
theorem exec_load_mid {a : Act} {o : Oper} {u : World} (x : Operand) (g off : Nat) (xs : List UInt8) (hop : o.op = .load 30 x) (hx : a.eval x = .pointer (some ⟨g, off, none⟩)) (hc : u.rangeAt g off (cells8 xs)) (hl : xs.length = 32) :
    (execOp a.eval o).run Tryd.prog u = .ok (.value (.agg (cells8 xs).toArray)) u := by
  unfold execOp
  simp only [hop, hx, Instr.loadAt, Instr.sureAddr, Sem.run_bind, Sem.run_pure, Result.andThen_ok, run_loadVar_mid u g off 30 (cells8 xs) _ hc Tryd.underlying30 rfl (size_arr xs hl).out]
theorem exec_load_sl {a : Act} {o : Oper} {u : World} (x : Operand) (ad : Addr) (v : Value) (hop : o.op = .load 22 x) (hx : a.eval x = .pointer (some ad)) (hc : u.cell? ad = some v) :
    (execOp a.eval o).run Tryd.prog u = .ok (.value v) u := by
  unfold execOp
  simp only [hop, hx, Instr.loadAt, Instr.sureAddr, Sem.run_bind, Sem.run_pure, Result.andThen_ok]
  have hu : Tryd.prog.underlying 22 = some (.slice 5) := Tryd.underlying22
  simp [loadVar, isAgg, run_underlying hu, Sem.run_bind, hc, go_sem]
/-- '!=' of two arrays of 32 bytes -/
theorem exec_neq8 {a : Act} {o : Oper} {u : World} (x y : Operand) (t' : TypeId) (xs ys : List UInt8) (hop : o.op = .binOp .neq 30 x y t') (hx : a.eval x = .agg (cells8 xs).toArray) (hy : a.eval y = .agg (cells8 ys).toArray) (h1 : xs.length = 32) (h2 : ys.length = 32) :
    (execOp a.eval o).run Tryd.prog u = .ok (.value (.bool (!decide (xs = ys)))) u := by
  have h := run_arr8 30 32 Tryd.underlying30 xs ys h1 h2 u
  have hm : Tryd.prog.eqGuardType Tryd.prog.depth 30 = false := by kernel_rfl
  have hg := run_eqGuard_agg (P := Tryd.prog) (w := u) .neq 30 x y (cells8 xs).toArray (cells8 ys).toArray hm
  unfold execOp
  simp only [hop, hx, hy, Sem.run_bind, hg, Result.andThen_ok, binOp]
  simp [Op.equal, Op.maxDepth, h]
end Go.Proofs.YtholpkaicmckfaaDoor
