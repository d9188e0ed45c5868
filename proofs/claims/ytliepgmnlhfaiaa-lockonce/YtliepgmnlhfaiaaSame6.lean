/-
  Constants of bytes; jobberbook.Same over values; a slice's length. No condition but lengths.
-/
import Derived.Test.YtliepgmnlhfaiaaStc
import Derived.Test.YtliepgmnlhfaiaaSame
namespace Go.Proofs.Ytliepgmnlhfaiaa
open Go.RowKit
set_option linter.unusedVariables false
set_option maxRecDepth 100000

section
variable {a : Act} {o : Oper} {u : World}
theorem bytes_lit (u : World) (l : List UInt8) (n : Nat) (hn : l.length = n) (h : n ≤ 100) : Bytes (u.alloc (.cells (cells8 l).toArray 5)) (.slice (some ⟨u.heap.size, 0, none⟩) n n) l :=
  ⟨_, n, n, rfl, hn, r8_new u l _, Nat.le_refl _, by unfold maxLen; omega, fun h => by cases h⟩
theorem exec_cmpi (op : BinOp) (x y : Operand) (t' : TypeId) (p q : Int) (b : Bool) (hop : o.op = .binOp op 3 x y t') (hx : a.eval x = .int .i64 p) (hy : a.eval y = .int .i64 q)
    (hb : (op = .lss ∧ decide (p < q) = b) ∨ (op = .leq ∧ decide (p ≤ q) = b) ∨ (op = .gtr ∧ decide (q < p) = b) ∨ (op = .geq ∧ decide (q ≤ p) = b) ∨ (op = .eql ∧ decide (p = q) = b) ∨ (op = .neq ∧ decide (p ≠ q) = b)) : (execOp a.eval o).run Try.prog u = .ok (.value (.bool b)) u := by
  unfold execOp
  rcases hb with ⟨rfl, rfl⟩ | ⟨rfl, rfl⟩ | ⟨rfl, rfl⟩ | ⟨rfl, rfl⟩ | ⟨rfl, rfl⟩ | ⟨rfl, rfl⟩
  all_goals simp only [hop, hx, hy]
  all_goals simp [go_sem]
  all_goals first | rfl | (rw [Bool.eq_iff_iff]; simp)
theorem exec_eqb (x y : Operand) (t' : TypeId) (p q b : Bool) (hop : o.op = .binOp .eql 4 x y t') (hx : a.eval x = .bool p) (hy : a.eval y = .bool q) (hb : (p == q) = b) : (execOp a.eval o).run Try.prog u = .ok (.value (.bool b)) u := by
  subst hb
  exact exec_eqlb x y t' p q hop hx hy
theorem exec_neb (x y : Operand) (t' : TypeId) (p q b : Bool) (hop : o.op = .binOp .neq 4 x y t') (hx : a.eval x = .bool p) (hy : a.eval y = .bool q) (hb : (p != q) = b) : (execOp a.eval o).run Try.prog u = .ok (.value (.bool b)) u := by
  subst hb
  unfold execOp
  simp only [hop, hx, hy]
  simp [go_sem]
  cases p <;> cases q <;> rfl
end
end Go.Proofs.Ytliepgmnlhfaiaa
