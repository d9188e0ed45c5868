/-
  Slices of slices of bytes, slices of sums: what they read as; the operations that a walk meets at them. No condition.
-/
import Derived.Test.YtliepgmnlhfaiaaOwnG
import Derived.Test.YtliepgmnlhfaiaaClass0
import Derived.Deep.MidRow
namespace Go.Proofs.Ytliepgmnlhfaiaa
open Go.RowKit
set_option linter.unusedVariables false
set_option maxRecDepth 100000

/-- a slice whose elements are slices of bytes that read as these -/
def Recs (w : World) (A : Option Addr) (L : List (List UInt8)) : Prop := ∀ (i : Nat) (xs : List UInt8), L[i]? = some xs → ∃ b o u, A = some ⟨b, o, none⟩ ∧ w.cell? ⟨b, o + i, none⟩ = some u ∧ Bytes w u xs
theorem Recs.nil (w : World) (A : Option Addr) : Recs w A [] := fun i xs h => by simp at h
theorem Recs.kept {w w' : World} {A : Option Addr} {L : List (List UInt8)} (h : Recs w A L) (hk : Kept w w') : Recs w' A L := fun i xs hx => by
  obtain ⟨b, o, u, e, hc, hb⟩ := h i xs hx
  exact ⟨b, o, u, e, hk.cell hc, hb.kept hk⟩
theorem Recs.take {w : World} {A : Option Addr} {L : List (List UInt8)} (h : Recs w A L) (n : Nat) : Recs w A (L.take n) := fun i xs hx => by
  rw [List.getElem?_take] at hx
  split at hx
  · exact h i xs hx
  · cases hx
/-- such a slice, as a value -/
def RecV (w : World) (v : Value) (L : List (List UInt8)) : Prop := ∃ A n c, v = .slice A n c ∧ Hid (L.length = n) ∧ Recs w A L ∧ n ≤ c ∧ c ≤ maxLen
theorem RecV.kept {w w' : World} {v : Value} {L : List (List UInt8)} (h : RecV w v L) (hk : Kept w w') : RecV w' v L := by
  obtain ⟨A, n, c, e, hl, hr, h1, h2⟩ := h
  exact ⟨A, n, c, e, hl, hr.kept hk, h1, h2⟩
theorem recv_of_elems {w : World} {v : Value} {L : List (List UInt8)} (h : Elems w v 1 (Piece w) L) : RecV w v L := by
  obtain ⟨A, n, c, e, hl, hr, h1, h2⟩ := h
  refine ⟨A, n, c, e, hl, fun i xs hx => ?_, h1, h2⟩
  obtain ⟨b, o, cs, e1, ⟨u, rfl, hb⟩, _, hc⟩ := hr i xs hx
  refine ⟨b, o, u, e1, ?_, hb⟩
  have := hc 0 u rfl
  simpa using this

/-! operations in any world of a class -/
theorem exec_assign {a : Act} {o : Oper} {u : World} (x : Operand) (v : Value) (hop : o.op = .assign x) (hx : a.eval x = v) : (execOp a.eval o).run Try.prog u = .ok (.value v) u := by
  subst hx
  unfold execOp
  simp [hop]
theorem exec_index {a : Act} {o : Oper} {u : World} (t e : TypeId) (k : Nat) (x y : Operand) (b of n c i : Nat) (hop : o.op = .indexAddr t x y) (ht : Try.prog.underlying t = some (.slice e)) (hk : (Try.prog.info? e).map (·.size) = some k)
    (hx : a.eval x = .slice (some ⟨b, of, none⟩) n c) (hy : a.eval y = .int .i64 (i : Int)) (hi : i < n) : (execOp a.eval o).run Try.prog u = .ok (.value (.pointer (some ⟨b, of + i * k, none⟩))) u := by
  have hin : (0 : Int) ≤ (i : Int) ∧ (i : Int) < (n : Int) := by omega
  cases hq : Try.prog.info? e with
  | none => simp [hq] at hk
  | some t0 =>
    have hs : t0.size = k := by simpa [hq] using hk
    unfold execOp
    simp only [hop, hx, hy]
    simp [Instr.indexAt, asIntOf, run_underlying ht, Sem.run_bind, hin, sizeOf, typeInfo, hq, hs, Addr.add_mid, hi]
end Go.Proofs.Ytliepgmnlhfaiaa
