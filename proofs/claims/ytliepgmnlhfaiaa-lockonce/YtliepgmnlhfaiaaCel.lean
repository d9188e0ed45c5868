/-
  One cell of a block: an element of an array where it lies, by its address; stored into; the negative of a number. No condition.
-/
import Derived.Test.YtliepgmnlhfaiaaSegEx
import Derived.Test.YtliepgmnlhfaiaaPrim
namespace Go.Proofs.Ytliepgmnlhfaiaa
open Go.RowKit
set_option linter.unusedVariables false
set_option maxRecDepth 100000

section
variable {a : Act} {o : Oper} {u : World}
/-- an element of one cell of an array where it lies -/
theorem exec_ixC (t e : TypeId) (n : Nat) (x y : Operand) (g off off' i : Nat) (I : Int) (hop : o.op = .indexAddr t x y) (ht : Try.prog.underlying t = some (.array n e)) (hs : (Try.prog.info? e).map (·.size) = some 1) (hx : a.eval x = .pointer (some ⟨g, off, none⟩)) (hy : a.eval y = .int .i64 I) (hI : I = (i : Int)) (hi : i < n) (he : off + i = off') : (execOp a.eval o).run Try.prog u = .ok (.value (.pointer (some ⟨g, off', none⟩))) u := by
  subst hI he
  cases hq : Try.prog.info? e with
  | none => simp [hq] at hs
  | some inf =>
    have h2 : inf.size = 1 := by simpa [hq] using hs
    have hin : (0 : Int) ≤ (i : Int) ∧ (i : Int) < (n : Int) := by omega
    unfold execOp
    simp only [hop, hx, hy]
    simp [Instr.indexAt, asIntOf, run_underlying ht, Sem.run_bind, sizeOf, typeInfo, hq, h2, Addr.add_mid, hi, Instr.sureAddr]
/-- an element of k cells of an array where it lies -/
theorem exec_ixK (k : Nat) (t e : TypeId) (n : Nat) (x y : Operand) (g off off' i : Nat) (I : Int) (hop : o.op = .indexAddr t x y) (ht : Try.prog.underlying t = some (.array n e)) (hs : (Try.prog.info? e).map (·.size) = some k) (hx : a.eval x = .pointer (some ⟨g, off, none⟩)) (hy : a.eval y = .int .i64 I) (hI : I = (i : Int)) (hi : i < n) (he : off + i * k = off') : (execOp a.eval o).run Try.prog u = .ok (.value (.pointer (some ⟨g, off', none⟩))) u := by
  subst hI he
  cases hq : Try.prog.info? e with
  | none => simp [hq] at hs
  | some inf =>
    have h2 : inf.size = k := by simpa [hq] using hs
    have hin : (0 : Int) ≤ (i : Int) ∧ (i : Int) < (n : Int) := by omega
    unfold execOp
    simp only [hop, hx, hy]
    simp [Instr.indexAt, asIntOf, run_underlying ht, Sem.run_bind, sizeOf, typeInfo, hq, h2, Addr.add_mid, hi, Instr.sureAddr]
theorem exec_neg1 {t : TypeId} {x : Operand} (p : Int) (hop : o.op = .unOp .neg t x) (hx : a.eval x = .int .i64 p) (h0 : -9223372036854775807 ≤ p) (h1 : p ≤ 9223372036854775807) : (execOp a.eval o).run Try.prog u = .ok (.value (.int .i64 (-p))) u := by
  unfold execOp
  simp only [hop, hx]
  have hw : IntKind.i64.wrap (-p) = -p := by rw [IntKind.wrap_i64]; omega
  simp [go_sem, hw]
end

/-- a cell of a phase, of a trader's numbers, stored -/
theorem l_putB {ops : Array Oper} {Q : Exit → Act → World → Prop} {a : Act} {w : World} {o : Oper} {rest : List Oper} (g off : Nat) (T : TypeId) (cs cs' : List Value) (b : Bool) (x z : Operand) (hw : Region.wanted o (yielded ops a.tmps) = true) (hop : o.op = .store 4 x z) (hx : a.eval x = .pointer (some ⟨g, off, none⟩)) (hz : a.eval z = .bool b) (hb : Blk w g T cs) (hl : off < cs.length) (hc : cs.set off (.bool b) = cs')
    (hK : ∀ w', Blk w' g T cs' → Keep (· = g) w w' → w'.heap.size = w.heap.size → wpList Try.prog ops Q rest (a.put o.dst undef) w') : wpList Try.prog ops Q (o :: rest) a w := by
  have hB2 := hb.set_ off (.bool b)
  rw [hc] at hB2
  exact l_store (w.setCell ⟨g, off, none⟩ (.bool b)) hw (exec_store1 4 x z g off (.bool b) hop (by kernel_rfl) hx hz rfl rfl (hb.there off 1 (by omega))) (hK _ hB2 (Keep.setCell (Keep.refl (· = g) w) (fun _ => rfl) _) (by simp [World.setCell]))
theorem l_putN {ops : Array Oper} {Q : Exit → Act → World → Prop} {a : Act} {w : World} {o : Oper} {rest : List Oper} (g off : Nat) (T : TypeId) (cs cs' : List Value) (n : Int) (x z : Operand) (hw : Region.wanted o (yielded ops a.tmps) = true) (hop : o.op = .store 3 x z) (hx : a.eval x = .pointer (some ⟨g, off, none⟩)) (hz : a.eval z = .int .i64 n) (hb : Blk w g T cs) (hl : off < cs.length) (hc : cs.set off (.int .i64 n) = cs')
    (hK : ∀ w', Blk w' g T cs' → Keep (· = g) w w' → w'.heap.size = w.heap.size → wpList Try.prog ops Q rest (a.put o.dst undef) w') : wpList Try.prog ops Q (o :: rest) a w := by
  have hB2 := hb.set_ off (.int .i64 n)
  rw [hc] at hB2
  exact l_store (w.setCell ⟨g, off, none⟩ (.int .i64 n)) hw (exec_store1 3 x z g off (.int .i64 n) hop (by kernel_rfl) hx hz rfl rfl (hb.there off 1 (by omega))) (hK _ hB2 (Keep.setCell (Keep.refl (· = g) w) (fun _ => rfl) _) (by simp [World.setCell]))
end Go.Proofs.Ytliepgmnlhfaiaa
