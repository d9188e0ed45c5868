/-
  What operations on numbers yield, in whatever world: a byte as an int, shifted, joined. No condition.
-/
import Derived.Test.YtkomionfnpgjgaaExec
import Derived.Test.YtkomionfnpgjgaaFrameM
namespace Go.Proofs.Ytkomionfnpgjgaa
open Go.RowKit
set_option linter.unusedVariables false

theorem i64_or_nat (a b : Nat) (ha : a < 65536) (hb : b < 256) (h : a % 256 = 0) : bits .or .i64 (a : Int) (b : Int) = ((a + b : Nat) : Int) := by
  have e1 : ((a : Int) % ((2 ^ 64 : Nat) : Int)).toNat = a := by omega
  have e2 : ((b : Int) % ((2 ^ 64 : Nat) : Int)).toNat = b := by omega
  have key : (BitVec.ofInt 64 (a : Int) ||| BitVec.ofInt 64 (b : Int)).toNat = a + b := by
    rw [BitVec.toNat_or, BitVec.toNat_ofInt, BitVec.toNat_ofInt, e1, e2, nat_join 8 a b h hb]
  show IntKind.i64.wrap ((BitVec.ofInt 64 (a : Int) ||| BitVec.ofInt 64 (b : Int)).toNat : Nat) = _
  rw [key, IntKind.wrap_i64]
  omega

section
variable {a : Act} {o : Oper} {u : World}
theorem exec_conv8 (x : Operand) (v : UInt8) (hop : o.op = .convert 5 3 x) (hx : a.eval x = .int .u8 (v.toNat : Int)) : (execOp a.eval o).run Try.prog u = .ok (.value (.int .i64 (v.toNat : Int))) u := by
  have h := v.toNat_lt
  have hw : IntKind.i64.wrap (v.toNat : Int) = (v.toNat : Int) := by rw [IntKind.wrap_i64]; omega
  unfold execOp
  simp only [hop, hx]
  simp [convert, run_underlying Try.underlying5, run_underlying Try.underlying3, go_sem, hw]
theorem exec_shl8 (x : Operand) (t' : TypeId) (v : UInt8) (hop : o.op = .binOp .shl 3 x (.const (.int .u64 8)) t') (hx : a.eval x = .int .i64 (v.toNat : Int)) : (execOp a.eval o).run Try.prog u = .ok (.value (.int .i64 (v.toNat * 256 : Nat))) u := by
  have h := v.toNat_lt
  have he : a.eval (.const (.int .u64 8)) = .int .u64 8 := rfl
  have hw : IntKind.i64.wrap ((v.toNat : Int) * 256) = (v.toNat : Int) * 256 := by rw [IntKind.wrap_i64]; omega
  unfold execOp
  simp only [hop, hx, he]
  simp [go_sem, hw]
theorem exec_or8 (x y : Operand) (t' : TypeId) (p q : UInt8) (hop : o.op = .binOp .or 3 x y t') (hx : a.eval x = .int .i64 (p.toNat * 256 : Nat)) (hy : a.eval y = .int .i64 (q.toNat : Int)) : (execOp a.eval o).run Try.prog u = .ok (.value (.int .i64 (p.toNat * 256 + q.toNat : Nat))) u := by
  have h1 := p.toNat_lt
  have h2 := q.toNat_lt
  have hj := i64_or_nat (p.toNat * 256) q.toNat (by omega) (by omega) (by omega)
  unfold execOp
  simp only [hop, hx, hy]
  simp [go_sem]
  simpa using hj
end
end Go.Proofs.Ytkomionfnpgjgaa
