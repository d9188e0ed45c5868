/-
  Constants of bytes; jobberbook.Same over values; a slice's length. No condition but lengths.
-/
import Derived.Test.YtdmeiffofmagjaaStc
import Derived.Test.YtdmeiffofmagjaaSame
namespace Go.Proofs.Ytdmeiffofmagjaa
open Go.RowKit
set_option linter.unusedVariables false

section
variable {a : Act} {o : Oper} {u : World}
/-- []byte{..} -/
theorem exec_bytesL (n : Nat) (parts : List (Nat × Operand)) (l : List UInt8) (hop : o.op = .buildSlice 23 n parts.toArray) (hn : l.length = n) (h0 : 0 < n) (h1 : n ≤ 100)
    (hp : (parts.map fun (i, x) => (i, a.eval x)) = ((cells8 l).zipIdx 0).map fun x => (x.2, x.1)) : (execOp a.eval o).run Try.prog u = .ok (.value (.slice (some ⟨u.heap.size, 0, none⟩) n n)) (u.alloc (.cells (cells8 l).toArray 5)) := by
  obtain ⟨ie, hq, hz0, hz1, hz2⟩ := info_parts info8
  have hr := run_buildSlice (P := Try.prog) u 23 5 n (parts.toArray.map fun (i, x) => (i, a.eval x)) (cells8 l).toArray ie (.int .u8 0) Try.underlying23 hq hz0 (by rw [hz1]; omega) (by rw [hz1]; omega) (by
    rw [Array.toList_map, hp, hz1]
    exact Great.fill_flat _ _ (fun v hv => by simp only [cells8, List.mem_map] at hv; obtain ⟨m, _, rfl⟩ := hv; rfl) (by simp [len8, hn]))
  unfold execOp
  simp only [hop, Sem.run_bind, hr, Result.andThen_ok]
  rfl
theorem bytes_lit (u : World) (l : List UInt8) (n : Nat) (hn : l.length = n) (h : n ≤ 100) : Bytes (u.alloc (.cells (cells8 l).toArray 5)) (.slice (some ⟨u.heap.size, 0, none⟩) n n) l :=
  ⟨_, n, n, rfl, hn, r8_new u l _, Nat.le_refl _, by unfold maxLen; omega, fun h => by cases h⟩
theorem exec_lenB (x : Operand) (xs : List UInt8) (n : Nat) (hop : o.op = .call { callee := .builtin .len, args := #[x], argTypes := #[23] }) (hx : Bytes u (a.eval x) xs) (hn : xs.length = n) : (execOp a.eval o).run Try.prog u = .ok (.value (.int .i64 (n : Int))) u := by
  obtain ⟨A, m, c, e, hl, _⟩ := hx
  have := hl.out
  rw [← hn, this]
  exact exec_len x _ _ Try.underlying23 A m c hop e
theorem exec_cmpi (op : BinOp) (x y : Operand) (t' : TypeId) (p q : Int) (b : Bool) (hop : o.op = .binOp op 3 x y t') (hx : a.eval x = .int .i64 p) (hy : a.eval y = .int .i64 q)
    (hb : (op = .lss ∧ decide (p < q) = b) ∨ (op = .leq ∧ decide (p ≤ q) = b) ∨ (op = .gtr ∧ decide (q < p) = b) ∨ (op = .geq ∧ decide (q ≤ p) = b) ∨ (op = .eql ∧ decide (p = q) = b) ∨ (op = .neq ∧ decide (p ≠ q) = b)) : (execOp a.eval o).run Try.prog u = .ok (.value (.bool b)) u := by
  unfold execOp
  rcases hb with ⟨rfl, rfl⟩ | ⟨rfl, rfl⟩ | ⟨rfl, rfl⟩ | ⟨rfl, rfl⟩ | ⟨rfl, rfl⟩ | ⟨rfl, rfl⟩
  all_goals simp only [hop, hx, hy]
  all_goals simp [go_sem]
  all_goals first | rfl | (rw [Bool.eq_iff_iff]; simp)
theorem exec_eqb (x y : Operand) (t' : TypeId) (p q b : Bool) (hop : o.op = .binOp .eql 4 x y t') (hx : a.eval x = .bool p) (hy : a.eval y = .bool q) (hb : (p == q) = b) : (execOp a.eval o).run Try.prog u = .ok (.value (.bool b)) u := by
  subst hb
  exact exec_eqlb x y t' p q hop hx hy
theorem exec_neb (x y : Operand) (t' : TypeId) (p q b : Bool) (hop : o.op = .binOp .neq 4 x y t') (hx : a.eval x = .bool p) (hy : a.eval y = .bool q) (hb : (p != q) = b) : (execOp a.eval o).run Try.prog u = .ok (.value (.bool b)) u := by
  subst hb
  unfold execOp
  simp only [hop, hx, hy]
  simp [go_sem]
  cases p <;> cases q <;> rfl
end
theorem same_v (v1 v2 : Value) (xs ys : List UInt8) (b : Bool) (w : World) (h1 : Bytes w v1 xs) (h2 : Bytes w v2 ys) (hb : decide (xs = ys) = b) : Gives 10 #[v1, v2] w (.eq (.bool b)) := by
  obtain ⟨A, n, c, rfl, hl, hx, hn, hc, _⟩ := h1
  obtain ⟨B, m, d, rfl, hm, hy, _⟩ := h2
  exact (same_is A B n m c d xs ys b w hb hx hy (by omega) hl hm).mono fun e w' ⟨he, k, hw⟩ => ⟨_, he, rfl, by rw [hw]; exact kept_drewN w k⟩
end Go.Proofs.Ytdmeiffofmagjaa
