/-
  Regions that draw their order beside calls that make memory: each operation yields one value in every world of a class; a forced tail follows. No condition.
-/
import Derived.Test.YtliepgmnlhfaiaaTail
import Derived.Test.YtliepgmnlhfaiaaCmp0
import Derived.BigQuiet
namespace Go.Proofs.Ytliepgmnlhfaiaa
open Go.RowKit
set_option linter.unusedVariables false
set_option maxRecDepth 100000

/-- n operations ahead, each with one value in every world of the class; the rest in its order, in whatever world of the class is left -/
theorem wp_class_tail {P : Program} {C : World → Prop} {id : Nat} {Q : Exit → Act → World → Prop} {a : Act} {w : World} {l : List Oper} (n : Nat) (hm : P.follows .mixedOrders = true) (hB : Region.lexTailB .any l.toArray n = true) (hC : C w.drew)
    (h : wpQuiet P l.toArray C (fun a' => ∀ w', C w' → wpList P l.toArray Q (l.drop n) a' w') (l.take n) a) : (Code.region id l.toArray true).wp P Q a w := by
  simp only [Region.lexTailB, Bool.and_eq_true, decide_eq_true_eq] at hB
  obtain ⟨⟨⟨⟨hsel, hn⟩, hs⟩, hc⟩, hlex⟩ := hB
  have hn' : n < l.length := by simpa using hn
  have htl : (l.take n).length = n := by rw [List.length_take]; omega
  have hdl : (l.drop n).length = l.toArray.size - n := by simp
  have inv0 : HeadInv .any l.toArray n (Array.replicate l.toArray.size false) :=
    ⟨by simp, fun j oj _ hl => (by rw [getD_replicate_false] at hl; cases hl), fun t _ ht => getD_in (by simpa using ht) (getD_replicate_false _ _)⟩
  have hh := headQ_lex (P := P) (C := C) (g := l.toArray.size - n) hsel hs hc hn (l.take n) 0 (Array.replicate l.toArray.size false) a
    (fun j hj => by rw [htl] at hj; simp [hj]) (by rw [htl, Nat.zero_add]) inv0 (by rw [htl]; exact hlex) h
  rw [htl] at hh
  have ha := any_of_headQ (Q := Q) (g := l.toArray.size - n) (fun ls a' w' hw' hL => ?_) n _ a w.drew hC hh
  · refine wp_region_any hm ?_
    have e : n + (l.toArray.size - n) = l.toArray.size := by omega
    rw [e] at ha
    exact ha
  · have := wpAny_of_seq (P := P) (md := .any) (ops := l.toArray) (Q' := Q) (l.drop n) n ls a' w' (fun j => by simp) (by rw [hdl]; exact hL.1) (hL.2 w' hw')
    rw [hdl] at this
    exact this

section
variable {ops : Array Oper} {C : World → Prop} {Q : Act → Prop} {a : Act} {o : Oper} {rest : List Oper}

/-- a value, in the world that it got -/
theorem q_val (v : Value) (hw : Region.wanted o (yielded ops a.tmps) = true) (h : ∀ u, C u → (execOp a.eval o).run Try.prog u = .ok (.value v) u) (hK : wpQuiet Try.prog ops C Q rest (a.put o.dst v)) : wpQuiet Try.prog ops C Q (o :: rest) a :=
  BigFrame.wpQuiet_want hw fun K hK' => ⟨v, fun u hu => by
    unfold Oper.quietAt
    rw [h u hu]
    exact ⟨rfl, rfl⟩, hK' _ hK⟩
theorem q_move (x : Operand) (v : Value) (hw : Region.wanted o (yielded ops a.tmps) = true) (hop : o.op = .move x) (hx : a.eval x = v) (hK : wpQuiet Try.prog ops C Q rest (a.put o.dst v)) : wpQuiet Try.prog ops C Q (o :: rest) a := by
  subst hx
  exact BigFrame.wpQuiet_want hw fun K hK' => BigFrame.quiet_move x hop (hK' _ hK)
/-- a call that hands back this value and leaves a world of the class -/
theorem q_call (v : Value) (f : Nat) (args : Array Value) (hw : Region.wanted o (yielded ops a.tmps) = true) (h : ∀ u, (execOp a.eval o).run Try.prog u = .ok (.enter f args) u) (hc : ∀ u, C u → Calls Try.prog f args u fun e w' => e = .returned v ∧ C w') (hK : wpQuiet Try.prog ops C Q rest (a.put o.dst v)) : wpQuiet Try.prog ops C Q (o :: rest) a :=
  BigFrame.wpQuiet_want hw fun K hK' => ⟨v, fun u hu => by
    unfold Oper.quietAt
    rw [h u]
    exact ⟨rfl, hc u hu⟩, hK' _ hK⟩
end

theorem exec_load_row {a : Act} {o : Oper} {u : World} (ty : TypeId) (x : Operand) (g n : Nat) (t e : TypeId) (cs : List Value) (hop : o.op = .load ty x) (hx : a.eval x = .pointer (some ⟨g, 0, none⟩)) (hb : Blk u g t cs)
    (hu : Try.prog.underlying ty = some (.array n e)) (hi : (Try.prog.info? ty).map (·.size) = some cs.length) : (execOp a.eval o).run Try.prog u = .ok (.value (.agg cs.toArray)) u := by
  unfold execOp
  simp only [hop, hx, Instr.loadAt, Instr.sureAddr, Sem.run_bind, Sem.run_pure, Result.andThen_ok, run_loadVar_row u g t ty cs.toArray (0, 0) _ hb hu rfl (by simpa using hi)]
theorem exec_eqlb {a : Act} {o : Oper} {u : World} (x y : Operand) (t' : TypeId) (p q : Bool) (hop : o.op = .binOp .eql 4 x y t') (hx : a.eval x = .bool p) (hy : a.eval y = .bool q) :
    (execOp a.eval o).run Try.prog u = .ok (.value (.bool (p == q))) u := by
  unfold execOp
  simp only [hop, hx, hy]
  simp [go_sem]
theorem exec_eqlu8 {a : Act} {o : Oper} {u : World} (x y : Operand) (t' : TypeId) (p q : Int) (hop : o.op = .binOp .eql 5 x y t') (hx : a.eval x = .int .u8 p) (hy : a.eval y = .int .u8 q) :
    (execOp a.eval o).run Try.prog u = .ok (.value (.bool (p == q))) u := by
  unfold execOp
  simp only [hop, hx, hy]
  simp [go_sem]
theorem exec_move {a : Act} {o : Oper} {u : World} (x : Operand) (v : Value) (hop : o.op = .move x) (hx : a.eval x = v) : (execOp a.eval o).run Try.prog u = .ok (.value v) u := by
  subst hx
  unfold execOp
  simp [hop]
theorem exec_pick {a : Act} {o : Oper} {u : World} (c x y : Operand) (v : Value) (hop : o.op = .pick c x y) (hc : a.eval c = .bool true) (hx : a.eval x = v) :
    (execOp a.eval o).run Try.prog u = .ok (.value v) u := by
  unfold execOp
  simp only [hop, hc, hx]
  simp [go_sem]
theorem exec_call {a : Act} {o : Oper} (f : Nat) (fn : Func) (xs : List Operand) (ts : Array TypeId) (args : List Value) (hf : Try.prog.funcs[f]? = some fn) (hn : (fn.name == "runtime.NumGoroutine") = false) (hb : fn.body.isNone = false) (hop : o.op = .call { callee := .value (.func f), args := xs.toArray, argTypes := ts }) (hx : xs.map a.eval = args) :
    ∀ u, (execOp a.eval o).run Try.prog u = .ok (.enter f args.toArray) u := fun u => by
  have e : a.eval (.func f) = .func (.func f) #[] #[] := rfl
  have hc : (callFunc f args.toArray).run Try.prog u = .ok (.enter f args.toArray) u := by
    have hn' : ¬ fn.name = "runtime.NumGoroutine" := by simpa using hn
    have hb' : ¬ fn.body = none := by
      intro h
      rw [h] at hb
      cases hb
    simp [callFunc, hf, hn', hb']
  unfold execOp
  simp only [hop, resolve, invoke, e, List.map_toArray, hx, Sem.run_bind]
  simp [Deferred.ofValue, hc]
end Go.Proofs.Ytliepgmnlhfaiaa
