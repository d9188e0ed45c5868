/-
  Bools loaded and spelt otherwise, pointers held against nil, structs as results. No condition.
-/
import Derived.Test.YtliepgmnlhfaiaaStc
import Derived.Deep.DeepCutAuto
namespace Go.Proofs.Ytliepgmnlhfaiaa
open Go.RowKit
set_option linter.unusedVariables false
set_option maxRecDepth 100000
section
variable {a : Act} {o : Oper} {u : World}
/-- a bool, spelt otherwise -/
theorem exec_as {b c : Bool} (h : b = c) (hx : (execOp a.eval o).run Try.prog u = .ok (.value (.bool b)) u) : (execOp a.eval o).run Try.prog u = .ok (.value (.bool c)) u := by rw [← h]; exact hx
/-- a bool loaded -/
theorem exec_ldb (t : TypeId) (hu : Try.prog.underlying t = some .bool) (x : Operand) (ad : Addr) (v : Value) (hop : o.op = .load t x) (hx : a.eval x = .pointer (some ad)) (hc : u.cell? ad = some v) :
    (execOp a.eval o).run Try.prog u = .ok (.value v) u := by
  unfold execOp
  simp only [hop, hx, Instr.loadAt, Instr.sureAddr, Sem.run_bind, Sem.run_pure, Result.andThen_ok]
  simp [loadVar, isAgg, run_underlying hu, Sem.run_bind, hc, go_sem]
/-- a call of a closure -/
theorem exec_callv (f : Nat) (fn : Func) (x : Operand) (xs : List Operand) (ts : Array TypeId) (args caps : List Value) (hf : Try.prog.funcs[f]? = some fn) (hn : (fn.name == "runtime.NumGoroutine") = false) (hb : fn.body.isNone = false) (hop : o.op = .call { callee := .value x, args := xs.toArray, argTypes := ts }) (hv : a.eval x = .func (.func f) #[] caps.toArray) (hx : xs.map a.eval = args) :
    (execOp a.eval o).run Try.prog u = .ok (.enter f (args ++ caps).toArray) u := by
  have hc : (callFunc f (args ++ caps).toArray).run Try.prog u = .ok (.enter f (args ++ caps).toArray) u := by
    have hn' : ¬ fn.name = "runtime.NumGoroutine" := by simpa using hn
    have hb' : ¬ fn.body = none := by
      intro h
      rw [h] at hb
      cases hb
    simp [callFunc, hf, hn', hb']
  unfold execOp
  simp only [hop, resolve, invoke, hv, List.map_toArray, hx, Sem.run_bind]
  simp [Deferred.ofValue, hc]
theorem exec_eqP (x : Operand) (t t' : TypeId) (ad : Addr) (hu : Try.prog.underlying t = some (.pointer (Try.prog.pointee t))) (hop : o.op = .binOp .eql t x (.const (.pointer none)) t') (hx : a.eval x = .pointer (some ad)) : (execOp a.eval o).run Try.prog u = .ok (.value (.bool false)) u := by
  have hc : a.eval (.const (.pointer none)) = .pointer none := rfl
  unfold execOp
  simp only [hop, hx, hc, Sem.run_bind]
  rw [show (eqGuard .eql t x (.const (.pointer none)) (.pointer (some ad)) (.pointer none)).run Try.prog u = .ok () u by simp [eqGuard]]
  simp only [Result.andThen_ok]
  rw [show (binOp .eql t (.pointer (some ad)) (.pointer none)).run Try.prog u = .ok (.bool false) u by simpa using run_eql_pointer_nil (P := Try.prog) (w := u) t (some ad) hu]
  rfl
theorem exec_neP (x : Operand) (t t' : TypeId) (ad : Addr) (hu : Try.prog.underlying t = some (.pointer (Try.prog.pointee t))) (hop : o.op = .binOp .neq t x (.const (.pointer none)) t') (hx : a.eval x = .pointer (some ad)) : (execOp a.eval o).run Try.prog u = .ok (.value (.bool true)) u := by
  have hc : a.eval (.const (.pointer none)) = .pointer none := rfl
  unfold execOp
  simp only [hop, hx, hc, Sem.run_bind]
  rw [show (eqGuard .neq t x (.const (.pointer none)) (.pointer (some ad)) (.pointer none)).run Try.prog u = .ok () u by simp [eqGuard]]
  simp only [Result.andThen_ok]
  rw [show (binOp .neq t (.pointer (some ad)) (.pointer none)).run Try.prog u = .ok (.bool true) u by simpa using run_neq_pointer_nil (P := Try.prog) (w := u) t (some ad) hu]
  rfl
theorem exec_eqPn (x : Operand) (t t' : TypeId) (hu : Try.prog.underlying t = some (.pointer (Try.prog.pointee t))) (hop : o.op = .binOp .eql t x (.const (.pointer none)) t') (hx : a.eval x = .pointer none) : (execOp a.eval o).run Try.prog u = .ok (.value (.bool true)) u := by
  have hc : a.eval (.const (.pointer none)) = .pointer none := rfl
  unfold execOp
  simp only [hop, hx, hc, Sem.run_bind]
  rw [show (eqGuard .eql t x (.const (.pointer none)) (.pointer none) (.pointer none)).run Try.prog u = .ok () u by simp [eqGuard]]
  simp only [Result.andThen_ok]
  rw [show (binOp .eql t (.pointer none) (.pointer none)).run Try.prog u = .ok (.bool true) u by simpa using run_eql_pointer_nil (P := Try.prog) (w := u) t none hu]
  rfl
theorem exec_nePn (x : Operand) (t t' : TypeId) (hu : Try.prog.underlying t = some (.pointer (Try.prog.pointee t))) (hop : o.op = .binOp .neq t x (.const (.pointer none)) t') (hx : a.eval x = .pointer none) : (execOp a.eval o).run Try.prog u = .ok (.value (.bool false)) u := by
  have hc : a.eval (.const (.pointer none)) = .pointer none := rfl
  unfold execOp
  simp only [hop, hx, hc, Sem.run_bind]
  rw [show (eqGuard .neq t x (.const (.pointer none)) (.pointer none) (.pointer none)).run Try.prog u = .ok () u by simp [eqGuard]]
  simp only [Result.andThen_ok]
  rw [show (binOp .neq t (.pointer none) (.pointer none)).run Try.prog u = .ok (.bool false) u by simpa using run_neq_pointer_nil (P := Try.prog) (w := u) t none hu]
  rfl
end
theorem results_cell {fn : Func} {p : Tmp} {ty : TypeId} {fs : Array Field} (h : fn.results = #[.cell p ty]) (tmps : Array Value) (w : World) (g : Nat) (T : TypeId) (cs : List Value) (hp : tmps.getD p undef = .pointer (some ⟨g, 0, none⟩)) (hg : Blk w g T cs) (hu : Try.prog.underlying ty = some (.struct fs)) (hl : (Try.prog.info? ty).map (·.size) = some cs.length) :
    (results fn tmps).run Try.prog w = .ok (.agg cs.toArray) w := by
  have hp' : tmps[p]?.getD undef = .pointer (some ⟨g, 0, none⟩) := by simpa using hp
  have hr := run_loadVar_row (P := Try.prog) w g T ty cs.toArray (0, 0) _ hg hu rfl (by simpa using hl)
  simp [results, h, hp', asAddr, hr]
theorem results_cell2 {fn : Func} {p q : Tmp} {ty : TypeId} {fs : Array Field} (h : fn.results = #[.cell p ty, .tmp q]) (tmps : Array Value) (w : World) (g : Nat) (T : TypeId) (cs : List Value) (b : Bool) (hp : tmps.getD p undef = .pointer (some ⟨g, 0, none⟩)) (hq : tmps.getD q undef = .bool b) (hg : Blk w g T cs) (hu : Try.prog.underlying ty = some (.struct fs)) (hl : (Try.prog.info? ty).map (·.size) = some cs.length) :
    (results fn tmps).run Try.prog w = .ok (.tuple #[.agg cs.toArray, .bool b]) w := by
  have hp' : tmps[p]?.getD undef = .pointer (some ⟨g, 0, none⟩) := by simpa using hp
  have hq' : tmps[q]?.getD undef = .bool b := by simpa using hq
  have hr := run_loadVar_row (P := Try.prog) w g T ty cs.toArray (0, 0) _ hg hu rfl (by simpa using hl)
  simp [results, h, hp', hq', asAddr, hr]
end Go.Proofs.Ytliepgmnlhfaiaa
