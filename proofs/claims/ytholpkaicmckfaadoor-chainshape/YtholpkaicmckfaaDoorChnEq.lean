/-
  string(bytes), and bytes.Equal: whether two rows of bytes are the same. No condition.
-/
import Derived.Test.YtholpkaicmckfaaDoorExec
import Derived.Laws.IdiomStrings
import Derived.Lib.BufferRead
namespace Go.Proofs.YtholpkaicmckfaaDoor
open Go.RowKit
set_option linter.unusedVariables false

theorem conv_bytes {u : World} {v : Value} {xs : List UInt8} (h : Bytes u v xs) : (convert 22 9 v).run Tryd.prog u = .ok (.string ⟨xs.toArray⟩) u := by
  obtain ⟨A, n, c, rfl, hl, hR, _⟩ := h
  have hn := hl.out
  subst hn
  cases A with
  | none =>
    have hy : xs = [] := by
      cases xs with
      | nil => rfl
      | cons y ys =>
        obtain ⟨ad, h1, _⟩ := hR 0 y rfl
        cases h1
    subst hy
    exact Lib.run_convert_nil_bytes u 22 9 5 c Tryd.underlying22 Tryd.underlying5 Tryd.underlying9
  | some ad =>
    refine run_convert_bytes_back u 22 9 5 ad c xs Tryd.underlying22 Tryd.underlying5 Tryd.underlying9 (fun j hj => ?_)
    obtain ⟨ad', e, hc⟩ := hR.at_ hj
    injection e with e
    subst e
    exact hc
theorem bytes_list (xs : List UInt8) : (⟨xs.toArray⟩ : ByteArray).toList = xs := by
  simp
theorem exec_conv {a : Act} {o : Oper} {u : World} (x : Operand) (v : Value) (xs : List UInt8) (hop : o.op = .convert 22 9 x) (hx : a.eval x = v) (h : Bytes u v xs) : (execOp a.eval o).run Tryd.prog u = .ok (.value (.string ⟨xs.toArray⟩)) u := by
  unfold execOp
  simp only [hop, hx, Sem.run_bind, conv_bytes h, Result.andThen_ok, Sem.run_pure]
theorem exec_neqs {a : Act} {o : Oper} {u : World} (x y : Operand) (t' : TypeId) (xs ys : List UInt8) (hop : o.op = .binOp .neq 9 x y t') (hx : a.eval x = .string ⟨xs.toArray⟩) (hy : a.eval y = .string ⟨ys.toArray⟩) (b : Bool) (hb : (!decide (xs = ys)) = b) :
    (execOp a.eval o).run Tryd.prog u = .ok (.value (.bool b)) u := by
  subst hb
  unfold execOp
  simp only [hop, hx, hy]
  have e3 : (xs == ys) = decide (xs = ys) := by rw [Bool.eq_iff_iff]; simp
  simp [go_sem, e3]

set_option maxHeartbeats 400000 in
theorem equalb_any (v1 v2 : Value) (xs ys : List UInt8) (w : World) (h1 : Bytes w v1 xs) (h2 : Bytes w v2 ys) :
    Calls Tryd.prog 30 #[v1, v2] w fun e w' => e = .returned (.bool (decide (xs = ys))) ∧ w = w' := by
  have c1 := conv_bytes h1
  have c2 := conv_bytes h2
  have e1 := bytes_list xs
  have e2 := bytes_list ys
  have e3 : (xs == ys) = decide (xs = ys) := by rw [Bool.eq_iff_iff]; simp
  go_enter Tryd.func30, Tryd.ntmps30
  go_wp2
  go_ret
  exact ⟨rfl, rfl⟩
end Go.Proofs.YtholpkaicmckfaaDoor
