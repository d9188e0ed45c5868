/-
  What operations on ints yield: comparisons at any type of ints, sums, differences, products, quotients, remainders. Conditions: results are an int's.
-/
import Derived.Test.YtliepgmnlhfaiaaExec
namespace Go.Proofs.Ytliepgmnlhfaiaa
open Go.RowKit
set_option linter.unusedVariables false
set_option maxRecDepth 100000

section
variable {a : Act} {o : Oper} {u : World} {t t' : TypeId} {x y : Operand} {p q : Int}
theorem exec_eqn (hop : o.op = .binOp .eql t x y t') (hx : a.eval x = .int .i64 p) (hy : a.eval y = .int .i64 q) : (execOp a.eval o).run Try.prog u = .ok (.value (.bool (decide (p = q)))) u := by
  unfold execOp
  simp only [hop, hx, hy]
  simp [go_sem]
  rw [Bool.eq_iff_iff]; simp
theorem exec_nen (hop : o.op = .binOp .neq t x y t') (hx : a.eval x = .int .i64 p) (hy : a.eval y = .int .i64 q) : (execOp a.eval o).run Try.prog u = .ok (.value (.bool (decide (p ≠ q)))) u := by
  unfold execOp
  simp only [hop, hx, hy]
  simp [go_sem]
  rw [Bool.eq_iff_iff]; simp
theorem exec_ltn (hop : o.op = .binOp .lss t x y t') (hx : a.eval x = .int .i64 p) (hy : a.eval y = .int .i64 q) : (execOp a.eval o).run Try.prog u = .ok (.value (.bool (decide (p < q)))) u := by
  unfold execOp
  simp only [hop, hx, hy]
  simp [go_sem]
theorem exec_len_ (hop : o.op = .binOp .leq t x y t') (hx : a.eval x = .int .i64 p) (hy : a.eval y = .int .i64 q) : (execOp a.eval o).run Try.prog u = .ok (.value (.bool (decide (p ≤ q)))) u := by
  unfold execOp
  simp only [hop, hx, hy]
  simp [go_sem]
theorem exec_gtn (hop : o.op = .binOp .gtr t x y t') (hx : a.eval x = .int .i64 p) (hy : a.eval y = .int .i64 q) : (execOp a.eval o).run Try.prog u = .ok (.value (.bool (decide (q < p)))) u := by
  unfold execOp
  simp only [hop, hx, hy]
  simp [go_sem]
theorem exec_gen (hop : o.op = .binOp .geq t x y t') (hx : a.eval x = .int .i64 p) (hy : a.eval y = .int .i64 q) : (execOp a.eval o).run Try.prog u = .ok (.value (.bool (decide (q ≤ p)))) u := by
  unfold execOp
  simp only [hop, hx, hy]
  simp [go_sem]
theorem exec_cmpn (b : Bool) {op : BinOp} (hop : o.op = .binOp op t x y t') (hx : a.eval x = .int .i64 p) (hy : a.eval y = .int .i64 q)
    (hb : (op = .lss ∧ decide (p < q) = b) ∨ (op = .leq ∧ decide (p ≤ q) = b) ∨ (op = .gtr ∧ decide (q < p) = b) ∨ (op = .geq ∧ decide (q ≤ p) = b) ∨ (op = .eql ∧ decide (p = q) = b) ∨ (op = .neq ∧ decide (p ≠ q) = b)) : (execOp a.eval o).run Try.prog u = .ok (.value (.bool b)) u := by
  rcases hb with ⟨rfl, rfl⟩ | ⟨rfl, rfl⟩ | ⟨rfl, rfl⟩ | ⟨rfl, rfl⟩ | ⟨rfl, rfl⟩ | ⟨rfl, rfl⟩
  · exact exec_ltn hop hx hy
  · exact exec_len_ hop hx hy
  · exact exec_gtn hop hx hy
  · exact exec_gen hop hx hy
  · exact exec_eqn hop hx hy
  · exact exec_nen hop hx hy
theorem exec_addn (r : Int) (hop : o.op = .binOp .add t x y t') (hx : a.eval x = .int .i64 p) (hy : a.eval y = .int .i64 q) (hr : p + q = r) (h0 : -9223372036854775808 ≤ r) (h1 : r ≤ 9223372036854775807) : (execOp a.eval o).run Try.prog u = .ok (.value (.int .i64 r)) u := by
  subst hr
  unfold execOp
  simp only [hop, hx, hy]
  have hw : IntKind.i64.wrap (p + q) = p + q := by rw [IntKind.wrap_i64]; omega
  simp [go_sem, hw]
theorem exec_addw (r : Int) (hop : o.op = .binOp .add t x y t') (hx : a.eval x = .int .i64 p) (hy : a.eval y = .int .i64 q) (hr : IntKind.i64.wrap (p + q) = r) : (execOp a.eval o).run Try.prog u = .ok (.value (.int .i64 r)) u := by
  subst hr
  unfold execOp
  simp only [hop, hx, hy]
  simp [go_sem]
theorem exec_mulw (r : Int) (hop : o.op = .binOp .mul t x y t') (hx : a.eval x = .int .i64 p) (hy : a.eval y = .int .i64 q) (hr : IntKind.i64.wrap (p * q) = r) : (execOp a.eval o).run Try.prog u = .ok (.value (.int .i64 r)) u := by
  subst hr
  unfold execOp
  simp only [hop, hx, hy]
  simp [go_sem]
theorem exec_subn (r : Int) (hop : o.op = .binOp .sub t x y t') (hx : a.eval x = .int .i64 p) (hy : a.eval y = .int .i64 q) (hr : p - q = r) (h0 : -9223372036854775808 ≤ r) (h1 : r ≤ 9223372036854775807) : (execOp a.eval o).run Try.prog u = .ok (.value (.int .i64 r)) u := by
  subst hr
  unfold execOp
  simp only [hop, hx, hy]
  have hw : IntKind.i64.wrap (p - q) = p - q := by rw [IntKind.wrap_i64]; omega
  simp [go_sem, hw]
theorem exec_muln (r : Int) (hop : o.op = .binOp .mul t x y t') (hx : a.eval x = .int .i64 p) (hy : a.eval y = .int .i64 q) (hr : p * q = r) (h0 : -9223372036854775808 ≤ r) (h1 : r ≤ 9223372036854775807) : (execOp a.eval o).run Try.prog u = .ok (.value (.int .i64 r)) u := by
  subst hr
  unfold execOp
  simp only [hop, hx, hy]
  have hw : IntKind.i64.wrap (p * q) = p * q := by rw [IntKind.wrap_i64]; omega
  simp [go_sem, hw]
theorem exec_quon (r : Int) (hop : o.op = .binOp .quo t x y t') (hx : a.eval x = .int .i64 p) (hy : a.eval y = .int .i64 q) (hq : q ≠ 0) (hr : p.tdiv q = r) (h0 : -9223372036854775808 ≤ r) (h1 : r ≤ 9223372036854775807) : (execOp a.eval o).run Try.prog u = .ok (.value (.int .i64 r)) u := by
  subst hr
  unfold execOp
  simp only [hop, hx, hy]
  have hw : IntKind.i64.wrap (p.tdiv q) = p.tdiv q := by rw [IntKind.wrap_i64]; omega
  simp [go_sem, hw, hq]
theorem exec_remn (r : Int) (hop : o.op = .binOp .rem t x y t') (hx : a.eval x = .int .i64 p) (hy : a.eval y = .int .i64 q) (hq : q ≠ 0) (hr : p.tmod q = r) : (execOp a.eval o).run Try.prog u = .ok (.value (.int .i64 r)) u := by
  subst hr
  unfold execOp
  simp only [hop, hx, hy]
  simp [go_sem, hq]
end
end Go.Proofs.Ytliepgmnlhfaiaa
