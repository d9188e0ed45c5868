/-
  Regions in the text's order, one law an operation; stores into structs. No condition.
-/
import Derived.Test.YtliepgmnlhfaiaaCmd
namespace Go.Proofs.Ytliepgmnlhfaiaa
open Go.RowKit
set_option linter.unusedVariables false
set_option maxRecDepth 100000
section
variable {ops : Array Oper} {Q : Exit → Act → World → Prop} {a : Act} {w : World} {o : Oper} {rest : List Oper}
theorem l_val (v : Value) (hw : Region.wanted o (yielded ops a.tmps) = true) (h : (execOp a.eval o).run Try.prog w = .ok (.value v) w) (hK : wpList Try.prog ops Q rest (a.put o.dst v) w) : wpList Try.prog ops Q (o :: rest) a w :=
  wpList_wanted hw fun K hK' => by
    unfold Oper.wp
    rw [h]
    exact hK' _ _ hK
theorem l_new (v : Value) (w' : World) (hw : Region.wanted o (yielded ops a.tmps) = true) (h : (execOp a.eval o).run Try.prog w = .ok (.value v) w') (hK : wpList Try.prog ops Q rest (a.put o.dst v) w') : wpList Try.prog ops Q (o :: rest) a w :=
  wpList_wanted hw fun K hK' => by
    unfold Oper.wp
    rw [h]
    exact hK' _ _ hK
theorem l_store (w' : World) (hw : Region.wanted o (yielded ops a.tmps) = true) (h : (execOp a.eval o).run Try.prog w = .ok .skip w') (hK : wpList Try.prog ops Q rest (a.put o.dst undef) w') : wpList Try.prog ops Q (o :: rest) a w :=
  wpList_wanted hw fun K hK' => by
    unfold Oper.wp
    rw [h]
    exact hK' _ _ hK
theorem l_call (f : Nat) (args : Array Value) (hw : Region.wanted o (yielded ops a.tmps) = true) (h : (execOp a.eval o).run Try.prog w = .ok (.enter f args) w)
    (hK : Calls Try.prog f args w fun e w' => ∃ v, e = .returned v ∧ wpList Try.prog ops Q rest (a.put o.dst v) w') : wpList Try.prog ops Q (o :: rest) a w :=
  wpList_wanted hw fun K hK' => by
    unfold Oper.wp
    rw [h, Oper.upon_enter]
    refine hK.mono ?_
    rintro e w' ⟨v, rfl, h2⟩
    exact hK' _ _ h2
/-- one field stored -/
theorem l_setf (g i : Nat) (T : TypeId) (l : List Int) (t : List UInt8) (v : Int) (x y : Operand) (hw : Region.wanted o (yielded ops a.tmps) = true) (hop : o.op = .store 3 x y) (hx : a.eval x = .pointer (some ⟨g, i, none⟩)) (hy : a.eval y = .int .i64 v) (hb : Blk w g T (stc l t)) (hi : i < l.length)
    (hK : ∀ w', Blk w' g T (stc (l.set i v) t) → Keep (· = g) w w' → w'.heap.size = w.heap.size → wpList Try.prog ops Q rest (a.put o.dst undef) w') : wpList Try.prog ops Q (o :: rest) a w := by
  have hlen : i + 1 ≤ (stc l t).length := by rw [stc_len]; omega
  refine l_store (w.setCell ⟨g, i, none⟩ (.int .i64 v)) hw (exec_store1 3 x y g i (.int .i64 v) hop (by kernel_rfl) hx hy rfl rfl (hb.there i 1 hlen)) (hK _ (hb.setFld i v hi) (Keep.setCell (Keep.refl (· = g) w) (fun _ => rfl) _) (by simp [World.setCell]))
/-- a struct stored whole into a block of its own -/
theorem l_setS (ty : TypeId) (g : Nat) (T : TypeId) (old cells : List Value) (x y : Operand) (hw : Region.wanted o (yielded ops a.tmps) = true) (hop : o.op = .store ty x y) (hx : a.eval x = .pointer (some ⟨g, 0, none⟩)) (hy : a.eval y = .agg cells.toArray) (hb : Blk w g T old) (hi : (Try.prog.info? ty).map (·.size) = some cells.length) (hold : old.length = cells.length) (h1 : ∀ u ∈ cells, u.oneCell' = true)
    (hK : ∀ w', Blk w' g T cells → Keep (· = g) w w' → w'.heap.size = w.heap.size → wpList Try.prog ops Q rest (a.put o.dst undef) w') : wpList Try.prog ops Q (o :: rest) a w :=
  wpList_wanted hw fun K hK' => op_store_row w ty x y hop g cells hx hy T old hb hi hold h1 (fun w' h2 h3 h4 => hK' _ _ (hK w' h2 h3 h4))
/-- a new struct -/
theorem l_alloc (t : TypeId) (z : List Value) (hw : Region.wanted o (yielded ops a.tmps) = true) (hop : o.op = .alloc t) (hz : (Try.prog.info? t).map (·.zero) = some (some (.agg z.toArray)))
    (hK : ∀ w', Blk w' w.heap.size t z → w'.heap.size = w.heap.size + 1 → Kept w w' → wpList Try.prog ops Q rest (a.put o.dst (.pointer (some ⟨w.heap.size, 0, none⟩))) w') : wpList Try.prog ops Q (o :: rest) a w := by
  refine wpList_wanted hw fun K hK' => ?_
  cases hq : Try.prog.info? t with
  | none => simp [hq] at hz
  | some i =>
    have hzz : i.zero = some (.agg z.toArray) := by simpa [hq] using hz
    unfold Oper.wp execOp
    simp only [hop]
    simp [Instr.alloc, zeroValue, typeInfo, hq, hzz, newVar, Value.cells, go_sem]
    exact hK' _ _ (hK _ (Blk.new w t z) (by simp) ((Keep.refl _ w).alloc _))
end
end Go.Proofs.Ytliepgmnlhfaiaa
