/-
  The contract of jobberlaw8.OrderTells: any order, any prices: it answers true. Condition: the order's numbers are an int's.
-/
import Derived.Test.YtgepgpclgpidaaaRuns8
import Derived.Test.YtgepgpclgpidaaaOrdR
import Derived.Test.YtgepgpclgpidaaaSame6
namespace Go.Proofs.Ytgepgpclgpidaaa
open Go.RowKit
set_option linter.unusedVariables false

theorem Ord.in64 {c : Ord} (h : c.wf) : In64 c.tr ∧ In64 c.id ∧ In64 c.firm ∧ In64 c.side ∧ In64 c.k ∧ In64 c.price ∧ In64 c.qty ∧ In64 c.shw ∧ In64 c.stop := by
  have g : ∀ y ∈ c.l, In64 y := fun y hy => in64_of_wf (h y hy)
  unfold Ord.l at g
  exact ⟨g _ (by simp), g _ (by simp), g _ (by simp), g _ (by simp), g _ (by simp), g _ (by simp), g _ (by simp), g _ (by simp), g _ (by simp)⟩
theorem orderRuns_gives (u : World) : Gives 3 #[] u (.eq (.bool true)) := gives_eq (orderRuns_any u)

set_option maxRecDepth 100000 in
set_option maxHeartbeats 1600000 in
theorem orderTells_any (c : Ord) (s x y : Int) (w : World) (HW : Hid c.wf) : Calls Try.prog 4 #[c.v, .int .i64 s, .int .i64 x, .int .i64 y] w fun e w' => e = .returned (.bool true) ∧ Kept w w' := by
  obtain ⟨-, -, -, -, -, hp, hq, -, -⟩ := Ord.in64 HW.out
  have V1 : Hid (∀ u, Gives 12 #[c.v] u (.eq (two (timesM c.price c.qty)))) := fun u => value_any c hp hq u
  have V2 : Hid (∀ u, Gives 13 #[c.v] u (.eq (two (timesM c.price c.qty)))) := fun u => refValue_any c hp hq u
  generalize timesM c.price c.qty = P at V1 V2
  obtain ⟨p1, p2⟩ := P
  unfold two at V1 V2
  unfold Ord.v
  have HT : Hid True := trivial
  have HB0 : Hid (Blk (w.alloc (.cells c.cells.toArray 23)) w.heap.size 23 c.cells) := Blk.new w _ _
  have kw0 : Kept w (w.alloc (.cells c.cells.toArray 23)) := (Keep.refl _ w).alloc _
  go_enter Try.func4, Try.ntmps4
  go_upto_region 1 with fail
  generalize w.alloc (.cells c.cells.toArray 23) = w0 at HB0 kw0 ⊢
  generalize w.heap.size = g at HB0 ⊢
  refine wp_text 7 [.eq (c.v), .eq (.tuple #[.int .i64 p1, .int .i64 p2]), .eq (.tuple #[.int .i64 p1, .int .i64 p2]), .eq (.int .i64 p1), .eq (.int .i64 p2), .eq (.int .i64 p1), .eq (.int .i64 p2)] rfl (by kernel_rfl) ?_ ?_
  · refine fsteps_cons 1 rfl (fun a u hE hD hk => f_val (o := ⟨some 14, _, _, _, _, _⟩) (c.v) rfl (wanted_none rfl _) (exec_loadS 23 (.tmp 4) (g) _ c.cells _ rfl (hE 4 (.pointer (some ⟨g, 0, none⟩)) (by kernel_rfl) (by kernel_rfl)) (HB0.out.kept hk) Try.underlying23 (by rw [Ord.cells_len _ HT.out]; exact ord_size)) rfl) ?_
    refine fsteps_cons 2 rfl (fun a u hE hD hk => f_call (o := ⟨some 15, _, _, _, _, _⟩) 12 #[c.v] rfl (wanted_none rfl _) (exec_call 12 _ [.tmp 14] _ [c.v] Try.func12 (by kernel_rfl) (by kernel_rfl) rfl (show [a.eval (.tmp 14)] = [c.v] from (by rw [show a.eval (.tmp 14) = c.v from (hD 0 14 (by kernel_rfl))] <;> rfl)) u) (V1.out u)) ?_
    refine fsteps_cons 3 rfl (fun a u hE hD hk => f_val (o := ⟨some 13, _, _, _, _, _⟩) (.tuple #[.int .i64 p1, .int .i64 p2]) rfl (wanted_none rfl _) (exec_move (.tmp 15) (.tuple #[.int .i64 p1, .int .i64 p2]) rfl (hD 1 15 (by kernel_rfl))) rfl) ?_
    refine fsteps_cons 4 rfl (fun a u hE hD hk => f_val (o := ⟨some 16, _, _, _, _, _⟩) (.int .i64 p1) rfl (wanted_none rfl _) (exec_extract (.tmp 13) [.int .i64 p1, .int .i64 p2] 0 _ rfl (hD 2 13 (by kernel_rfl)) rfl) rfl) ?_
    refine fsteps_cons 5 rfl (fun a u hE hD hk => f_val (o := ⟨some 17, _, _, _, _, _⟩) (.int .i64 p2) rfl (wanted_none rfl _) (exec_extract (.tmp 13) [.int .i64 p1, .int .i64 p2] 1 _ rfl (hD 2 13 (by kernel_rfl)) rfl) rfl) ?_
    refine fsteps_cons 6 rfl (fun a u hE hD hk => f_val (o := ⟨some 9, _, _, _, _, _⟩) (.int .i64 p1) rfl (wanted_none rfl _) (exec_assign (.tmp 16) (.int .i64 p1) rfl (hD 3 16 (by kernel_rfl))) rfl) ?_
    refine fsteps_cons 7 rfl (fun a u hE hD hk => f_val (o := ⟨some 10, _, _, _, _, _⟩) (.int .i64 p2) rfl (wanted_none rfl _) (exec_assign (.tmp 17) (.int .i64 p2) rfl (hD 4 17 (by kernel_rfl))) rfl) ?_
    exact fsteps_nil
  intro gv w1 hV k1
  rw [show dstsOf _ 7 = [14, 15, 13, 16, 17, 9, 10] by kernel_rfl]
  simp only [List.foldl_cons, List.foldl_nil, List.setIfInBounds_toArray, List.set_cons_succ, List.set_cons_zero, List.drop_succ_cons, List.drop_zero]
  rw [show gv 9 = .int .i64 p1 from hV 5 9 (by kernel_rfl)]
  rw [show gv 10 = .int .i64 p2 from hV 6 10 (by kernel_rfl)]
  clear hV
  refine wpList_nil ?_
  have HB1 := Lib.hid (HB0.out.kept k1)
  have kw1 := kw0.trans k1
  go_upto_region 2 with fail
  refine wp_text 7 [.eq (c.v), .eq (.tuple #[.int .i64 p1, .int .i64 p2]), .eq (.tuple #[.int .i64 p1, .int .i64 p2]), .eq (.int .i64 p1), .eq (.int .i64 p2), .eq (.int .i64 p1), .eq (.int .i64 p2)] rfl (by kernel_rfl) ?_ ?_
  · refine fsteps_cons 1 rfl (fun a u hE hD hk => f_val (o := ⟨some 19, _, _, _, _, _⟩) (c.v) rfl (wanted_none rfl _) (exec_loadS 23 (.tmp 4) (g) _ c.cells _ rfl (hE 4 (.pointer (some ⟨g, 0, none⟩)) (by kernel_rfl) (by kernel_rfl)) (HB1.out.kept hk) Try.underlying23 (by rw [Ord.cells_len _ HT.out]; exact ord_size)) rfl) ?_
    refine fsteps_cons 2 rfl (fun a u hE hD hk => f_call (o := ⟨some 20, _, _, _, _, _⟩) 13 #[c.v] rfl (wanted_none rfl _) (exec_call 13 _ [.tmp 19] _ [c.v] Try.func13 (by kernel_rfl) (by kernel_rfl) rfl (show [a.eval (.tmp 19)] = [c.v] from (by rw [show a.eval (.tmp 19) = c.v from (hD 0 19 (by kernel_rfl))] <;> rfl)) u) (V2.out u)) ?_
    refine fsteps_cons 3 rfl (fun a u hE hD hk => f_val (o := ⟨some 18, _, _, _, _, _⟩) (.tuple #[.int .i64 p1, .int .i64 p2]) rfl (wanted_none rfl _) (exec_move (.tmp 20) (.tuple #[.int .i64 p1, .int .i64 p2]) rfl (hD 1 20 (by kernel_rfl))) rfl) ?_
    refine fsteps_cons 4 rfl (fun a u hE hD hk => f_val (o := ⟨some 21, _, _, _, _, _⟩) (.int .i64 p1) rfl (wanted_none rfl _) (exec_extract (.tmp 18) [.int .i64 p1, .int .i64 p2] 0 _ rfl (hD 2 18 (by kernel_rfl)) rfl) rfl) ?_
    refine fsteps_cons 5 rfl (fun a u hE hD hk => f_val (o := ⟨some 22, _, _, _, _, _⟩) (.int .i64 p2) rfl (wanted_none rfl _) (exec_extract (.tmp 18) [.int .i64 p1, .int .i64 p2] 1 _ rfl (hD 2 18 (by kernel_rfl)) rfl) rfl) ?_
    refine fsteps_cons 6 rfl (fun a u hE hD hk => f_val (o := ⟨some 11, _, _, _, _, _⟩) (.int .i64 p1) rfl (wanted_none rfl _) (exec_assign (.tmp 21) (.int .i64 p1) rfl (hD 3 21 (by kernel_rfl))) rfl) ?_
    refine fsteps_cons 7 rfl (fun a u hE hD hk => f_val (o := ⟨some 12, _, _, _, _, _⟩) (.int .i64 p2) rfl (wanted_none rfl _) (exec_assign (.tmp 22) (.int .i64 p2) rfl (hD 4 22 (by kernel_rfl))) rfl) ?_
    exact fsteps_nil
  intro gv w2 hV k2
  rw [show dstsOf _ 7 = [19, 20, 18, 21, 22, 11, 12] by kernel_rfl]
  simp only [List.foldl_cons, List.foldl_nil, List.setIfInBounds_toArray, List.set_cons_succ, List.set_cons_zero, List.drop_succ_cons, List.drop_zero]
  rw [show gv 11 = .int .i64 p1 from hV 5 11 (by kernel_rfl)]
  rw [show gv 12 = .int .i64 p2 from hV 6 12 (by kernel_rfl)]
  clear hV
  refine wpList_nil ?_
  have HB2 := Lib.hid (HB1.out.kept k2)
  have kw2 := kw1.trans k2
  go_upto_region 3 with fail
  refine wp_free 47 [.eq (c.v), .eq (.int .i64 c.err), .eq (c.v), .eq (.int .i64 c.err), .eq (.bool true), .eq (.bool true), .eq (c.v), .eq (.int .i64 x), .eq (.bool (c.crosses x)), .eq (c.v), .eq (.int .i64 x), .eq (.bool (c.crosses x)), .eq (.bool true), .eq (.bool true), .eq (.bool true), .eq (c.v), .eq (.int .i64 x), .eq (.bool (c.hit x)), .eq (c.v), .eq (.int .i64 x), .eq (.bool (c.hit x)), .eq (.bool true), .eq (.bool true), .eq (.bool true), .eq (.int .i64 s), .eq (.int .i64 x), .eq (.int .i64 y), .eq (.bool (bet s x y)), .eq (.int .i64 s), .eq (.int .i64 x), .eq (.int .i64 y), .eq (.bool (bet s x y)), .eq (.bool true), .eq (.bool true), .eq (.bool true), .eq (.int .i64 p1), .eq (.int .i64 p1), .eq (.bool true), .eq (.bool true), .eq (.bool true), .eq (.int .i64 p2), .eq (.int .i64 p2), .eq (.bool true), .eq (.bool true), .eq (.bool true), .eq (.bool true), .eq (.bool true)] (by kernel_rfl) rfl (by kernel_rfl) ?_ ?_
  · refine fsteps_cons 1 rfl (fun a u hE hD hk => f_val (o := ⟨some 23, _, _, _, _, _⟩) (c.v) rfl (wanted_none rfl _) (exec_loadS 23 (.tmp 4) (g) _ c.cells _ rfl (hE 4 (.pointer (some ⟨g, 0, none⟩)) (by kernel_rfl) (by kernel_rfl)) (HB2.out.kept hk) Try.underlying23 (by rw [Ord.cells_len _ HT.out]; exact ord_size)) rfl) ?_
    refine fsteps_cons 2 rfl (fun a u hE hD hk => f_call (o := ⟨some 24, _, _, _, _, _⟩) 11 #[c.v] rfl (wanted_none rfl _) (exec_call 11 _ [.tmp 23] _ [c.v] Try.func11 (by kernel_rfl) (by kernel_rfl) rfl (show [a.eval (.tmp 23)] = [c.v] from (by rw [show a.eval (.tmp 23) = c.v from (hD 0 23 (by kernel_rfl))] <;> rfl)) u) (ordRight_any c u)) ?_
    refine fsteps_cons 3 rfl (fun a u hE hD hk => f_val (o := ⟨some 25, _, _, _, _, _⟩) (c.v) rfl (wanted_none rfl _) (exec_loadS 23 (.tmp 4) (g) _ c.cells _ rfl (hE 4 (.pointer (some ⟨g, 0, none⟩)) (by kernel_rfl) (by kernel_rfl)) (HB2.out.kept hk) Try.underlying23 (by rw [Ord.cells_len _ HT.out]; exact ord_size)) rfl) ?_
    refine fsteps_cons 4 rfl (fun a u hE hD hk => f_call (o := ⟨some 26, _, _, _, _, _⟩) 14 #[c.v] rfl (wanted_none rfl _) (exec_call 14 _ [.tmp 25] _ [c.v] Try.func14 (by kernel_rfl) (by kernel_rfl) rfl (show [a.eval (.tmp 25)] = [c.v] from (by rw [show a.eval (.tmp 25) = c.v from (hD 2 25 (by kernel_rfl))] <;> rfl)) u) (refRight_any c u)) ?_
    refine fsteps_cons 5 rfl (fun a u hE hD hk => f_as (show ((decide ((c.err : Int) = (c.err : Int))) : Bool) = true from decide_eq_true rfl) (f_val (o := ⟨some 27, _, _, _, _, _⟩) (.bool (decide ((c.err : Int) = (c.err : Int)))) rfl (wanted_none rfl _) (exec_eqn (p := c.err) (q := c.err) rfl (hD 1 24 (by kernel_rfl)) (hD 3 26 (by kernel_rfl))) rfl)) ?_
    refine fsteps_cons 6 rfl (fun a u hE hD hk => f_val (o := ⟨some 28, _, _, _, _, _⟩) (.bool true) rfl (wanted_none rfl _) (exec_move (.tmp 27) (.bool true) rfl (hD 4 27 (by kernel_rfl))) rfl) ?_
    refine fsteps_cons 7 rfl (fun a u hE hD hk => f_val (o := ⟨some 29, _, _, _, _, _⟩) (c.v) rfl (wanted_at (b := true) true rfl rfl (hD 5 28 (by kernel_rfl))) (exec_loadS 23 (.tmp 4) (g) _ c.cells _ rfl (hE 4 (.pointer (some ⟨g, 0, none⟩)) (by kernel_rfl) (by kernel_rfl)) (HB2.out.kept hk) Try.underlying23 (by rw [Ord.cells_len _ HT.out]; exact ord_size)) rfl) ?_
    refine fsteps_cons 8 rfl (fun a u hE hD hk => f_val (o := ⟨some 30, _, _, _, _, _⟩) (.int .i64 x) rfl (wanted_at (b := true) true rfl rfl (hD 5 28 (by kernel_rfl))) (exec_move (.tmp 2) (.int .i64 x) rfl (hE 2 (.int .i64 x) (by kernel_rfl) (by kernel_rfl))) rfl) ?_
    refine fsteps_cons 9 rfl (fun a u hE hD hk => f_call (o := ⟨some 31, _, _, _, _, _⟩) 8 #[c.v, .int .i64 x] rfl (wanted_at (b := true) true rfl rfl (hD 5 28 (by kernel_rfl))) (exec_call 8 _ [.tmp 29, .tmp 30] _ [c.v, .int .i64 x] Try.func8 (by kernel_rfl) (by kernel_rfl) rfl (show [a.eval (.tmp 29), a.eval (.tmp 30)] = [c.v, .int .i64 x] from (by rw [show a.eval (.tmp 29) = c.v from (hD 6 29 (by kernel_rfl)), show a.eval (.tmp 30) = .int .i64 x from (hD 7 30 (by kernel_rfl))] <;> rfl)) u) (crosses_any c x u)) ?_
    refine fsteps_cons 10 rfl (fun a u hE hD hk => f_val (o := ⟨some 32, _, _, _, _, _⟩) (c.v) rfl (wanted_at (b := true) true rfl rfl (hD 5 28 (by kernel_rfl))) (exec_loadS 23 (.tmp 4) (g) _ c.cells _ rfl (hE 4 (.pointer (some ⟨g, 0, none⟩)) (by kernel_rfl) (by kernel_rfl)) (HB2.out.kept hk) Try.underlying23 (by rw [Ord.cells_len _ HT.out]; exact ord_size)) rfl) ?_
    refine fsteps_cons 11 rfl (fun a u hE hD hk => f_val (o := ⟨some 33, _, _, _, _, _⟩) (.int .i64 x) rfl (wanted_at (b := true) true rfl rfl (hD 5 28 (by kernel_rfl))) (exec_move (.tmp 2) (.int .i64 x) rfl (hE 2 (.int .i64 x) (by kernel_rfl) (by kernel_rfl))) rfl) ?_
    refine fsteps_cons 12 rfl (fun a u hE hD hk => f_call (o := ⟨some 34, _, _, _, _, _⟩) 15 #[c.v, .int .i64 x] rfl (wanted_at (b := true) true rfl rfl (hD 5 28 (by kernel_rfl))) (exec_call 15 _ [.tmp 32, .tmp 33] _ [c.v, .int .i64 x] Try.func15 (by kernel_rfl) (by kernel_rfl) rfl (show [a.eval (.tmp 32), a.eval (.tmp 33)] = [c.v, .int .i64 x] from (by rw [show a.eval (.tmp 32) = c.v from (hD 9 32 (by kernel_rfl)), show a.eval (.tmp 33) = .int .i64 x from (hD 10 33 (by kernel_rfl))] <;> rfl)) u) (refCrosses_any c x u)) ?_
    refine fsteps_cons 13 rfl (fun a u hE hD hk => f_val (o := ⟨some 35, _, _, _, _, _⟩) (.bool true) rfl (wanted_at (b := true) true rfl rfl (hD 5 28 (by kernel_rfl))) (exec_eqb (.tmp 31) (.tmp 34) _ _ _ _ rfl (hD 8 31 (by kernel_rfl)) (hD 11 34 (by kernel_rfl)) (beq_self_eq_true _)) rfl) ?_
    refine fsteps_cons 14 rfl (fun a u hE hD hk => f_val (o := ⟨some 36, _, _, _, _, _⟩) (.bool true) rfl (wanted_none rfl _) (exec_pick (.tmp 28) (.tmp 35) (.const (.bool false)) (.bool true) rfl (hD 5 28 (by kernel_rfl)) (hD 12 35 (by kernel_rfl))) rfl) ?_
    refine fsteps_cons 15 rfl (fun a u hE hD hk => f_val (o := ⟨some 37, _, _, _, _, _⟩) (.bool true) rfl (wanted_none rfl _) (exec_move (.tmp 36) (.bool true) rfl (hD 13 36 (by kernel_rfl))) rfl) ?_
    refine fsteps_cons 16 rfl (fun a u hE hD hk => f_val (o := ⟨some 38, _, _, _, _, _⟩) (c.v) rfl (wanted_at (b := true) true rfl rfl (hD 14 37 (by kernel_rfl))) (exec_loadS 23 (.tmp 4) (g) _ c.cells _ rfl (hE 4 (.pointer (some ⟨g, 0, none⟩)) (by kernel_rfl) (by kernel_rfl)) (HB2.out.kept hk) Try.underlying23 (by rw [Ord.cells_len _ HT.out]; exact ord_size)) rfl) ?_
    refine fsteps_cons 17 rfl (fun a u hE hD hk => f_val (o := ⟨some 39, _, _, _, _, _⟩) (.int .i64 x) rfl (wanted_at (b := true) true rfl rfl (hD 14 37 (by kernel_rfl))) (exec_move (.tmp 2) (.int .i64 x) rfl (hE 2 (.int .i64 x) (by kernel_rfl) (by kernel_rfl))) rfl) ?_
    refine fsteps_cons 18 rfl (fun a u hE hD hk => f_call (o := ⟨some 40, _, _, _, _, _⟩) 9 #[c.v, .int .i64 x] rfl (wanted_at (b := true) true rfl rfl (hD 14 37 (by kernel_rfl))) (exec_call 9 _ [.tmp 38, .tmp 39] _ [c.v, .int .i64 x] Try.func9 (by kernel_rfl) (by kernel_rfl) rfl (show [a.eval (.tmp 38), a.eval (.tmp 39)] = [c.v, .int .i64 x] from (by rw [show a.eval (.tmp 38) = c.v from (hD 15 38 (by kernel_rfl)), show a.eval (.tmp 39) = .int .i64 x from (hD 16 39 (by kernel_rfl))] <;> rfl)) u) (hit_any c x u)) ?_
    refine fsteps_cons 19 rfl (fun a u hE hD hk => f_val (o := ⟨some 41, _, _, _, _, _⟩) (c.v) rfl (wanted_at (b := true) true rfl rfl (hD 14 37 (by kernel_rfl))) (exec_loadS 23 (.tmp 4) (g) _ c.cells _ rfl (hE 4 (.pointer (some ⟨g, 0, none⟩)) (by kernel_rfl) (by kernel_rfl)) (HB2.out.kept hk) Try.underlying23 (by rw [Ord.cells_len _ HT.out]; exact ord_size)) rfl) ?_
    refine fsteps_cons 20 rfl (fun a u hE hD hk => f_val (o := ⟨some 42, _, _, _, _, _⟩) (.int .i64 x) rfl (wanted_at (b := true) true rfl rfl (hD 14 37 (by kernel_rfl))) (exec_move (.tmp 2) (.int .i64 x) rfl (hE 2 (.int .i64 x) (by kernel_rfl) (by kernel_rfl))) rfl) ?_
    refine fsteps_cons 21 rfl (fun a u hE hD hk => f_call (o := ⟨some 43, _, _, _, _, _⟩) 16 #[c.v, .int .i64 x] rfl (wanted_at (b := true) true rfl rfl (hD 14 37 (by kernel_rfl))) (exec_call 16 _ [.tmp 41, .tmp 42] _ [c.v, .int .i64 x] Try.func16 (by kernel_rfl) (by kernel_rfl) rfl (show [a.eval (.tmp 41), a.eval (.tmp 42)] = [c.v, .int .i64 x] from (by rw [show a.eval (.tmp 41) = c.v from (hD 18 41 (by kernel_rfl)), show a.eval (.tmp 42) = .int .i64 x from (hD 19 42 (by kernel_rfl))] <;> rfl)) u) (refHit_any c x u)) ?_
    refine fsteps_cons 22 rfl (fun a u hE hD hk => f_val (o := ⟨some 44, _, _, _, _, _⟩) (.bool true) rfl (wanted_at (b := true) true rfl rfl (hD 14 37 (by kernel_rfl))) (exec_eqb (.tmp 40) (.tmp 43) _ _ _ _ rfl (hD 17 40 (by kernel_rfl)) (hD 20 43 (by kernel_rfl)) (beq_self_eq_true _)) rfl) ?_
    refine fsteps_cons 23 rfl (fun a u hE hD hk => f_val (o := ⟨some 45, _, _, _, _, _⟩) (.bool true) rfl (wanted_none rfl _) (exec_pick (.tmp 37) (.tmp 44) (.const (.bool false)) (.bool true) rfl (hD 14 37 (by kernel_rfl)) (hD 21 44 (by kernel_rfl))) rfl) ?_
    refine fsteps_cons 24 rfl (fun a u hE hD hk => f_val (o := ⟨some 46, _, _, _, _, _⟩) (.bool true) rfl (wanted_none rfl _) (exec_move (.tmp 45) (.bool true) rfl (hD 22 45 (by kernel_rfl))) rfl) ?_
    refine fsteps_cons 25 rfl (fun a u hE hD hk => f_val (o := ⟨some 47, _, _, _, _, _⟩) (.int .i64 s) rfl (wanted_at (b := true) true rfl rfl (hD 23 46 (by kernel_rfl))) (exec_move (.tmp 1) (.int .i64 s) rfl (hE 1 (.int .i64 s) (by kernel_rfl) (by kernel_rfl))) rfl) ?_
    refine fsteps_cons 26 rfl (fun a u hE hD hk => f_val (o := ⟨some 48, _, _, _, _, _⟩) (.int .i64 x) rfl (wanted_at (b := true) true rfl rfl (hD 23 46 (by kernel_rfl))) (exec_move (.tmp 2) (.int .i64 x) rfl (hE 2 (.int .i64 x) (by kernel_rfl) (by kernel_rfl))) rfl) ?_
    refine fsteps_cons 27 rfl (fun a u hE hD hk => f_val (o := ⟨some 49, _, _, _, _, _⟩) (.int .i64 y) rfl (wanted_at (b := true) true rfl rfl (hD 23 46 (by kernel_rfl))) (exec_move (.tmp 3) (.int .i64 y) rfl (hE 3 (.int .i64 y) (by kernel_rfl) (by kernel_rfl))) rfl) ?_
    refine fsteps_cons 28 rfl (fun a u hE hD hk => f_call (o := ⟨some 50, _, _, _, _, _⟩) 10 #[.int .i64 s, .int .i64 x, .int .i64 y] rfl (wanted_at (b := true) true rfl rfl (hD 23 46 (by kernel_rfl))) (exec_call 10 _ [.tmp 47, .tmp 48, .tmp 49] _ [.int .i64 s, .int .i64 x, .int .i64 y] Try.func10 (by kernel_rfl) (by kernel_rfl) rfl (show [a.eval (.tmp 47), a.eval (.tmp 48), a.eval (.tmp 49)] = [.int .i64 s, .int .i64 x, .int .i64 y] from (by rw [show a.eval (.tmp 47) = .int .i64 s from (hD 24 47 (by kernel_rfl)), show a.eval (.tmp 48) = .int .i64 x from (hD 25 48 (by kernel_rfl)), show a.eval (.tmp 49) = .int .i64 y from (hD 26 49 (by kernel_rfl))] <;> rfl)) u) (better_any s x y u)) ?_
    refine fsteps_cons 29 rfl (fun a u hE hD hk => f_val (o := ⟨some 51, _, _, _, _, _⟩) (.int .i64 s) rfl (wanted_at (b := true) true rfl rfl (hD 23 46 (by kernel_rfl))) (exec_move (.tmp 1) (.int .i64 s) rfl (hE 1 (.int .i64 s) (by kernel_rfl) (by kernel_rfl))) rfl) ?_
    refine fsteps_cons 30 rfl (fun a u hE hD hk => f_val (o := ⟨some 52, _, _, _, _, _⟩) (.int .i64 x) rfl (wanted_at (b := true) true rfl rfl (hD 23 46 (by kernel_rfl))) (exec_move (.tmp 2) (.int .i64 x) rfl (hE 2 (.int .i64 x) (by kernel_rfl) (by kernel_rfl))) rfl) ?_
    refine fsteps_cons 31 rfl (fun a u hE hD hk => f_val (o := ⟨some 53, _, _, _, _, _⟩) (.int .i64 y) rfl (wanted_at (b := true) true rfl rfl (hD 23 46 (by kernel_rfl))) (exec_move (.tmp 3) (.int .i64 y) rfl (hE 3 (.int .i64 y) (by kernel_rfl) (by kernel_rfl))) rfl) ?_
    refine fsteps_cons 32 rfl (fun a u hE hD hk => f_call (o := ⟨some 54, _, _, _, _, _⟩) 17 #[.int .i64 s, .int .i64 x, .int .i64 y] rfl (wanted_at (b := true) true rfl rfl (hD 23 46 (by kernel_rfl))) (exec_call 17 _ [.tmp 51, .tmp 52, .tmp 53] _ [.int .i64 s, .int .i64 x, .int .i64 y] Try.func17 (by kernel_rfl) (by kernel_rfl) rfl (show [a.eval (.tmp 51), a.eval (.tmp 52), a.eval (.tmp 53)] = [.int .i64 s, .int .i64 x, .int .i64 y] from (by rw [show a.eval (.tmp 51) = .int .i64 s from (hD 28 51 (by kernel_rfl)), show a.eval (.tmp 52) = .int .i64 x from (hD 29 52 (by kernel_rfl)), show a.eval (.tmp 53) = .int .i64 y from (hD 30 53 (by kernel_rfl))] <;> rfl)) u) (refBetter_any s x y u)) ?_
    refine fsteps_cons 33 rfl (fun a u hE hD hk => f_val (o := ⟨some 55, _, _, _, _, _⟩) (.bool true) rfl (wanted_at (b := true) true rfl rfl (hD 23 46 (by kernel_rfl))) (exec_eqb (.tmp 50) (.tmp 54) _ _ _ _ rfl (hD 27 50 (by kernel_rfl)) (hD 31 54 (by kernel_rfl)) (beq_self_eq_true _)) rfl) ?_
    refine fsteps_cons 34 rfl (fun a u hE hD hk => f_val (o := ⟨some 56, _, _, _, _, _⟩) (.bool true) rfl (wanted_none rfl _) (exec_pick (.tmp 46) (.tmp 55) (.const (.bool false)) (.bool true) rfl (hD 23 46 (by kernel_rfl)) (hD 32 55 (by kernel_rfl))) rfl) ?_
    refine fsteps_cons 35 rfl (fun a u hE hD hk => f_val (o := ⟨some 57, _, _, _, _, _⟩) (.bool true) rfl (wanted_none rfl _) (exec_move (.tmp 56) (.bool true) rfl (hD 33 56 (by kernel_rfl))) rfl) ?_
    refine fsteps_cons 36 rfl (fun a u hE hD hk => f_val (o := ⟨some 58, _, _, _, _, _⟩) (.int .i64 p1) rfl (wanted_at (b := true) true rfl rfl (hD 34 57 (by kernel_rfl))) (exec_move (.tmp 9) (.int .i64 p1) rfl (hE 9 (.int .i64 p1) (by kernel_rfl) (by kernel_rfl))) rfl) ?_
    refine fsteps_cons 37 rfl (fun a u hE hD hk => f_val (o := ⟨some 59, _, _, _, _, _⟩) (.int .i64 p1) rfl (wanted_at (b := true) true rfl rfl (hD 34 57 (by kernel_rfl))) (exec_move (.tmp 11) (.int .i64 p1) rfl (hE 11 (.int .i64 p1) (by kernel_rfl) (by kernel_rfl))) rfl) ?_
    refine fsteps_cons 38 rfl (fun a u hE hD hk => f_as (show ((decide ((p1 : Int) = (p1 : Int))) : Bool) = true from decide_eq_true rfl) (f_val (o := ⟨some 60, _, _, _, _, _⟩) (.bool (decide ((p1 : Int) = (p1 : Int)))) rfl (wanted_at (b := true) true rfl rfl (hD 34 57 (by kernel_rfl))) (exec_eqn (p := p1) (q := p1) rfl (hD 35 58 (by kernel_rfl)) (hD 36 59 (by kernel_rfl))) rfl)) ?_
    refine fsteps_cons 39 rfl (fun a u hE hD hk => f_val (o := ⟨some 61, _, _, _, _, _⟩) (.bool true) rfl (wanted_none rfl _) (exec_pick (.tmp 57) (.tmp 60) (.const (.bool false)) (.bool true) rfl (hD 34 57 (by kernel_rfl)) (hD 37 60 (by kernel_rfl))) rfl) ?_
    refine fsteps_cons 40 rfl (fun a u hE hD hk => f_val (o := ⟨some 62, _, _, _, _, _⟩) (.bool true) rfl (wanted_none rfl _) (exec_move (.tmp 61) (.bool true) rfl (hD 38 61 (by kernel_rfl))) rfl) ?_
    refine fsteps_cons 41 rfl (fun a u hE hD hk => f_val (o := ⟨some 63, _, _, _, _, _⟩) (.int .i64 p2) rfl (wanted_at (b := true) true rfl rfl (hD 39 62 (by kernel_rfl))) (exec_move (.tmp 10) (.int .i64 p2) rfl (hE 10 (.int .i64 p2) (by kernel_rfl) (by kernel_rfl))) rfl) ?_
    refine fsteps_cons 42 rfl (fun a u hE hD hk => f_val (o := ⟨some 64, _, _, _, _, _⟩) (.int .i64 p2) rfl (wanted_at (b := true) true rfl rfl (hD 39 62 (by kernel_rfl))) (exec_move (.tmp 12) (.int .i64 p2) rfl (hE 12 (.int .i64 p2) (by kernel_rfl) (by kernel_rfl))) rfl) ?_
    refine fsteps_cons 43 rfl (fun a u hE hD hk => f_as (show ((decide ((p2 : Int) = (p2 : Int))) : Bool) = true from decide_eq_true rfl) (f_val (o := ⟨some 65, _, _, _, _, _⟩) (.bool (decide ((p2 : Int) = (p2 : Int)))) rfl (wanted_at (b := true) true rfl rfl (hD 39 62 (by kernel_rfl))) (exec_eqn (p := p2) (q := p2) rfl (hD 40 63 (by kernel_rfl)) (hD 41 64 (by kernel_rfl))) rfl)) ?_
    refine fsteps_cons 44 rfl (fun a u hE hD hk => f_val (o := ⟨some 66, _, _, _, _, _⟩) (.bool true) rfl (wanted_none rfl _) (exec_pick (.tmp 62) (.tmp 65) (.const (.bool false)) (.bool true) rfl (hD 39 62 (by kernel_rfl)) (hD 42 65 (by kernel_rfl))) rfl) ?_
    refine fsteps_cons 45 rfl (fun a u hE hD hk => f_val (o := ⟨some 67, _, _, _, _, _⟩) (.bool true) rfl (wanted_none rfl _) (exec_move (.tmp 66) (.bool true) rfl (hD 43 66 (by kernel_rfl))) rfl) ?_
    refine fsteps_cons 46 rfl (fun a u hE hD hk => f_call (o := ⟨some 68, _, _, _, _, _⟩) 3 #[] rfl (wanted_at (b := true) true rfl rfl (hD 44 67 (by kernel_rfl))) (exec_call 3 _ [] _ [] Try.func3 (by kernel_rfl) (by kernel_rfl) rfl rfl u) (orderRuns_gives u)) ?_
    refine fsteps_cons 47 rfl (fun a u hE hD hk => f_val (o := ⟨some 69, _, _, _, _, _⟩) (.bool true) rfl (wanted_none rfl _) (exec_pick (.tmp 67) (.tmp 68) (.const (.bool false)) (.bool true) rfl (hD 44 67 (by kernel_rfl)) (hD 45 68 (by kernel_rfl))) rfl) ?_
    exact fsteps_nil
  intro gv w3 hV k3
  rw [show dstsOf _ 47 = [23, 24, 25, 26, 27, 28, 29, 30, 31, 32, 33, 34, 35, 36, 37, 38, 39, 40, 41, 42, 43, 44, 45, 46, 47, 48, 49, 50, 51, 52, 53, 54, 55, 56, 57, 58, 59, 60, 61, 62, 63, 64, 65, 66, 67, 68, 69] by kernel_rfl]
  simp only [List.foldl_cons, List.foldl_nil, List.setIfInBounds_toArray, List.set_cons_succ, List.set_cons_zero, List.drop_succ_cons, List.drop_zero]
  rw [show gv 69 = .bool true from hV 46 69 (by kernel_rfl)]
  clear hV
  go_wp2
  go_ret
  exact ⟨rfl, kw2.trans k3⟩
end Go.Proofs.Ytgepgpclgpidaaa
