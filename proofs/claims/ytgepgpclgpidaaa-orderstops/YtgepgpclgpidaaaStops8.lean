/-
  The contract of jobberlaw8.OrderStops: any order, any prices: it answers true. No condition.
-/
import Derived.Test.YtgepgpclgpidaaaTells8
namespace Go.Proofs.Ytgepgpclgpidaaa
open Go.RowKit
set_option linter.unusedVariables false

theorem exec_max {a : Act} {o : Oper} {u : World} (x y : Operand) (ts : Array TypeId) (p q : Int) (r : Int) (hop : o.op = .call { callee := .builtin .max, args := #[x, y], argTypes := ts }) (hx : a.eval x = .int .i64 p) (hy : a.eval y = .int .i64 q) (hr : (if p < q then q else p) = r) : (execOp a.eval o).run Try.prog u = .ok (.value (.int .i64 r)) u := by
  subst hr
  unfold execOp
  simp only [hop, resolve, invoke, builtin, Sem.run_bind, Sem.run_pure, Result.andThen_ok, List.map_toArray, List.map_cons, List.map_nil, hx, hy]
  simp [go_sem]
theorem hit_none (c : Ord) (x : Int) : Ord.hit { c with stop := 0 } x = false := by unfold Ord.hit; simp
theorem hit_low (c : Ord) (x : Int) (h : x ≤ 0) : c.hit x = false := by unfold Ord.hit; rw [decide_eq_false (show ¬ 0 < x by omega)]; simp
theorem hit_up (c : Ord) (lo hi : Int) (hs : c.side = 1) (h : lo ≤ hi) : (!c.hit lo || c.hit hi) = true := by
  unfold Ord.hit bet
  rw [if_pos hs, if_pos hs]
  by_cases h1 : 0 < c.stop <;> by_cases h2 : 0 < lo <;> by_cases h3 : lo < c.stop <;> simp [h1, h2, h3]
  omega
theorem hit_down (c : Ord) (lo hi : Int) (hs : ¬ c.side = 1) (h : lo ≤ hi) : ((decide (lo < 1) || !c.hit hi) || c.hit lo) = true := by
  unfold Ord.hit bet
  rw [if_neg hs, if_neg hs]
  by_cases h1 : 0 < c.stop <;> by_cases h2 : 0 < lo <;> by_cases h3 : c.stop < lo <;> simp [h1, h2, h3]
  all_goals omega

set_option maxRecDepth 100000 in
set_option maxHeartbeats 1600000 in
theorem stops_b (c : Ord) (x y : Int) (w : World) (hs : c.side = 1) : Calls Try.prog 7 #[c.v, .int .i64 x, .int .i64 y] w fun e w' => e = .returned (.bool true) ∧ Kept w w' := by
  obtain ⟨lo, hlo⟩ : ∃ lo : Int, (if y < x then y else x) = lo := ⟨_, rfl⟩
  obtain ⟨hi, hhi⟩ : ∃ hi : Int, (if x < y then y else x) = hi := ⟨_, rfl⟩
  have hle : lo ≤ hi := by rw [← hlo, ← hhi]; split <;> split <;> omega
  have HLO := Lib.hid hlo
  have HHI := Lib.hid hhi
  have HX := Lib.hid (hit_up c lo hi hs hle)
  have HS := Lib.hid hs
  clear hlo hhi hle hs
  unfold Ord.v
  have HT : Hid True := trivial
  have HB0 : Hid (Blk (w.alloc (.cells c.cells.toArray 23)) w.heap.size 23 c.cells) := Blk.new w _ _
  have kw0 : Kept w (w.alloc (.cells c.cells.toArray 23)) := (Keep.refl _ w).alloc _
  go_enter Try.func7, Try.ntmps7
  go_upto_region 1 with fail
  generalize hs0 : w.alloc (.cells c.cells.toArray 23) = w0 at HB0 kw0 ⊢
  clear hs0
  generalize w.heap.size = g at HB0 ⊢
  refine wp_text 8 [.eq (.int .i64 x), .eq (.int .i64 y), .eq (.int .i64 lo), .eq (.int .i64 x), .eq (.int .i64 y), .eq (.int .i64 hi), .eq (.int .i64 lo), .eq (.int .i64 hi)] rfl (by kernel_rfl) ?_ ?_
  · refine fsteps_cons 1 rfl (fun a u hE hD hk => f_val (o := ⟨some 10, _, _, _, _, _⟩) (.int .i64 x) rfl (wanted_none rfl _) (exec_move (.tmp 1) (.int .i64 x) rfl (hE 1 (.int .i64 x) (by kernel_rfl) (by kernel_rfl))) rfl) ?_
    refine fsteps_cons 2 rfl (fun a u hE hD hk => f_val (o := ⟨some 11, _, _, _, _, _⟩) (.int .i64 y) rfl (wanted_none rfl _) (exec_move (.tmp 2) (.int .i64 y) rfl (hE 2 (.int .i64 y) (by kernel_rfl) (by kernel_rfl))) rfl) ?_
    refine fsteps_cons 3 rfl (fun a u hE hD hk => f_val (o := ⟨some 12, _, _, _, _, _⟩) (.int .i64 lo) rfl (wanted_none rfl _) (exec_min (.tmp 10) (.tmp 11) _ x y lo rfl (hD 0 10 (by kernel_rfl)) (hD 1 11 (by kernel_rfl)) HLO.out) rfl) ?_
    refine fsteps_cons 4 rfl (fun a u hE hD hk => f_val (o := ⟨some 13, _, _, _, _, _⟩) (.int .i64 x) rfl (wanted_none rfl _) (exec_move (.tmp 1) (.int .i64 x) rfl (hE 1 (.int .i64 x) (by kernel_rfl) (by kernel_rfl))) rfl) ?_
    refine fsteps_cons 5 rfl (fun a u hE hD hk => f_val (o := ⟨some 14, _, _, _, _, _⟩) (.int .i64 y) rfl (wanted_none rfl _) (exec_move (.tmp 2) (.int .i64 y) rfl (hE 2 (.int .i64 y) (by kernel_rfl) (by kernel_rfl))) rfl) ?_
    refine fsteps_cons 6 rfl (fun a u hE hD hk => f_val (o := ⟨some 15, _, _, _, _, _⟩) (.int .i64 hi) rfl (wanted_none rfl _) (exec_max (.tmp 13) (.tmp 14) _ x y hi rfl (hD 3 13 (by kernel_rfl)) (hD 4 14 (by kernel_rfl)) HHI.out) rfl) ?_
    refine fsteps_cons 7 rfl (fun a u hE hD hk => f_val (o := ⟨some 7, _, _, _, _, _⟩) (.int .i64 lo) rfl (wanted_none rfl _) (exec_assign (.tmp 12) (.int .i64 lo) rfl (hD 2 12 (by kernel_rfl))) rfl) ?_
    refine fsteps_cons 8 rfl (fun a u hE hD hk => f_val (o := ⟨some 8, _, _, _, _, _⟩) (.int .i64 hi) rfl (wanted_none rfl _) (exec_assign (.tmp 15) (.int .i64 hi) rfl (hD 5 15 (by kernel_rfl))) rfl) ?_
    exact fsteps_nil
  intro gv w1 hV k1
  rw [show dstsOf _ 8 = [10, 11, 12, 13, 14, 15, 7, 8] by kernel_rfl]
  simp only [List.foldl_cons, List.foldl_nil, List.setIfInBounds_toArray, List.set_cons_succ, List.set_cons_zero, List.drop_succ_cons, List.drop_zero]
  rw [show gv 7 = .int .i64 lo from hV 6 7 (by kernel_rfl)]
  rw [show gv 8 = .int .i64 hi from hV 7 8 (by kernel_rfl)]
  clear hV
  refine wpList_nil ?_
  have HB1 := Lib.hid (HB0.out.kept k1)
  have kw1 := kw0.trans k1
  clear kw0
  go_upto_region 2 with fail
  refine wp_text 6 [.eq (c.v), .eq (.bool false), .eq (.bool false), .eq (c.v), .eq (.bool false), .eq (.bool false)] rfl (by kernel_rfl) ?_ ?_
  · refine fsteps_cons 1 rfl (fun a u hE hD hk => f_val (o := ⟨some 16, _, _, _, _, _⟩) (c.v) rfl (wanted_none rfl _) (exec_loadS 23 (.tmp 3) (g) _ c.cells _ rfl (hE 3 (.pointer (some ⟨g, 0, none⟩)) (by kernel_rfl) (by kernel_rfl)) (HB1.out.kept hk) Try.underlying23 (by rw [Ord.cells_len _ HT.out]; exact ord_size)) rfl) ?_
    refine fsteps_cons 2 rfl (fun a u hE hD hk => f_call (o := ⟨some 17, _, _, _, _, _⟩) 9 #[c.v, .int .i64 0] rfl (wanted_none rfl _) (exec_call 9 _ [.tmp 16, .const (.int .i64 0)] _ [c.v, .int .i64 0] Try.func9 (by kernel_rfl) (by kernel_rfl) rfl (show [a.eval (.tmp 16), a.eval (.const (.int .i64 0))] = [c.v, .int .i64 0] from (by rw [show a.eval (.tmp 16) = c.v from (hD 0 16 (by kernel_rfl))] <;> rfl)) u) (hit_is c 0 false u (hit_low c 0 (by decide)))) ?_
    refine fsteps_cons 3 rfl (fun a u hE hD hk => f_val (o := ⟨some 18, _, _, _, _, _⟩) (.bool false) rfl (wanted_none rfl _) (exec_move (.tmp 17) (.bool false) rfl (hD 1 17 (by kernel_rfl))) rfl) ?_
    refine fsteps_cons 4 rfl (fun a u hE hD hk => f_val (o := ⟨some 19, _, _, _, _, _⟩) (c.v) rfl (wanted_at (b := false) false rfl rfl (hD 2 18 (by kernel_rfl))) (exec_loadS 23 (.tmp 3) (g) _ c.cells _ rfl (hE 3 (.pointer (some ⟨g, 0, none⟩)) (by kernel_rfl) (by kernel_rfl)) (HB1.out.kept hk) Try.underlying23 (by rw [Ord.cells_len _ HT.out]; exact ord_size)) rfl) ?_
    refine fsteps_cons 5 rfl (fun a u hE hD hk => f_call (o := ⟨some 20, _, _, _, _, _⟩) 9 #[c.v, .int .i64 (-1)] rfl (wanted_at (b := false) false rfl rfl (hD 2 18 (by kernel_rfl))) (exec_call 9 _ [.tmp 19, .const (.int .i64 (-1))] _ [c.v, .int .i64 (-1)] Try.func9 (by kernel_rfl) (by kernel_rfl) rfl (show [a.eval (.tmp 19), a.eval (.const (.int .i64 (-1)))] = [c.v, .int .i64 (-1)] from (by rw [show a.eval (.tmp 19) = c.v from (hD 3 19 (by kernel_rfl))] <;> rfl)) u) (hit_is c (-1) false u (hit_low c (-1) (by decide)))) ?_
    refine fsteps_cons 6 rfl (fun a u hE hD hk => f_val (o := ⟨some 21, _, _, _, _, _⟩) (.bool false) rfl (wanted_none rfl _) (exec_pickF (.tmp 18) (.const (.bool true)) (.tmp 20) (.bool false) rfl (hD 2 18 (by kernel_rfl)) (hD 4 20 (by kernel_rfl))) rfl) ?_
    exact fsteps_nil
  intro gv w2 hV k2
  rw [show dstsOf _ 6 = [16, 17, 18, 19, 20, 21] by kernel_rfl]
  simp only [List.foldl_cons, List.foldl_nil, List.setIfInBounds_toArray, List.set_cons_succ, List.set_cons_zero, List.drop_succ_cons, List.drop_zero]
  rw [show gv 21 = .bool false from hV 5 21 (by kernel_rfl)]
  clear hV
  refine wpList_nil ?_
  have HB2 := Lib.hid (HB1.out.kept k2)
  have kw2 := kw1.trans k2
  clear kw1
  have kw2' := kw2
  go_upto_region 4 with fail
  refine wp_region_lit ?_
  refine l_val (o := ⟨some 22, _, _, _, _, _⟩) (c.v) rfl (exec_loadS 23 (.tmp 3) g 23 c.cells _ rfl (by kernel_rfl) HB2.out Try.underlying23 (by rw [Ord.cells_len _ trivial]; exact ord_size)) ?_
  simp only [Act.put, List.setIfInBounds_toArray, List.set_cons_succ, List.set_cons_zero]
  refine l_alloc (o := ⟨some 9, _, _, _, _, _⟩) 23 Ord.zero.cells rfl rfl ord_zero ?_
  intro wa Ba sa ka
  obtain ⟨gn, hgn⟩ : ∃ g, g = w2.heap.size := ⟨_, rfl⟩
  rw [← hgn] at Ba ⊢
  simp only [Act.put, List.setIfInBounds_toArray, List.set_cons_succ, List.set_cons_zero]
  refine l_setS (o := ⟨none, _, _, _, _, _⟩) 23 gn 23 Ord.zero.cells c.cells (.tmp 9) (.tmp 22) rfl rfl (by kernel_rfl) (by kernel_rfl) Ba (by rw [Ord.cells_len _ trivial]; exact ord_size) rfl c.one ?_
  intro wb Bb kb sb
  simp only [Act.put]
  refine wpList_nil ?_
  have zl := HB2.out.lt
  have zs := kw2.size
  have HBb := Lib.hid ((HB2.out.kept ka).keep kb (by omega))
  have kwb : Kept w wb := (kw2.trans ka).trans' kb (by omega)
  have HN : Hid (g < gn ∧ w.heap.size ≤ gn) := ⟨by omega, by omega⟩
  have HDb : Hid (Blk wb gn 23 (stc c.l [])) := Bb
  clear Ba sa ka hgn kb sb zl zs Bb HB2 kw2 kw2'
  go_upto_region 5 with fail
  refine wp_region_lit ?_
  refine l_val (o := ⟨some 23, _, _, _, _, _⟩) (.pointer (some ⟨gn, 8, none⟩)) rfl (exec_fld 23 8 8 (.tmp 9) (gn) rfl (by kernel_rfl) (by kernel_rfl)) ?_
  simp only [Act.put, List.setIfInBounds_toArray, List.set_cons_succ, List.set_cons_zero]
  refine l_setf (o := ⟨none, _, _, _, _, _⟩) gn 8 23 c.l [] 0 (.tmp 23) (.const (.int .i64 0)) rfl rfl (by kernel_rfl) rfl HDb.out (by simp [Ord.l]) ?_
  intro wc Bc kc sc
  simp only [Act.put]
  refine wpList_nil ?_
  have HD3 : Hid (Blk wc gn 23 (Ord.cells { c with stop := 0 })) := Bc
  have HB2 := Lib.hid (HBb.out.keep kc (by have := HN.out; omega))
  have kw2 : Kept w wc := kwb.trans' kc (by have := HN.out; omega)
  obtain ⟨d, hd⟩ : ∃ d : Ord, d = { c with stop := 0 } := ⟨_, rfl⟩
  have HND : Hid (d.hit x = false) := by rw [hd]; exact hit_none c x
  rw [← hd] at HD3
  clear hd Bc kc sc HBb HDb kwb HN
  go_upto_region 6 with fail
  refine wp_text 3 [.eq (d.v), .eq (.int .i64 x), .eq (.bool false)] rfl (by kernel_rfl) ?_ ?_
  · refine fsteps_cons 1 rfl (fun a u hE hD hk => f_val (o := ⟨some 24, _, _, _, _, _⟩) (d.v) rfl (wanted_none rfl _) (exec_loadS 23 (.tmp 9) (gn) _ d.cells _ rfl (hE 9 (.pointer (some ⟨gn, 0, none⟩)) (by kernel_rfl) (by kernel_rfl)) (HD3.out.kept hk) Try.underlying23 (by rw [Ord.cells_len _ HT.out]; exact ord_size)) rfl) ?_
    refine fsteps_cons 2 rfl (fun a u hE hD hk => f_val (o := ⟨some 25, _, _, _, _, _⟩) (.int .i64 x) rfl (wanted_none rfl _) (exec_move (.tmp 1) (.int .i64 x) rfl (hE 1 (.int .i64 x) (by kernel_rfl) (by kernel_rfl))) rfl) ?_
    refine fsteps_cons 3 rfl (fun a u hE hD hk => f_call (o := ⟨some 26, _, _, _, _, _⟩) 9 #[d.v, .int .i64 x] rfl (wanted_none rfl _) (exec_call 9 _ [.tmp 24, .tmp 25] _ [d.v, .int .i64 x] Try.func9 (by kernel_rfl) (by kernel_rfl) rfl (show [a.eval (.tmp 24), a.eval (.tmp 25)] = [d.v, .int .i64 x] from (by rw [show a.eval (.tmp 24) = d.v from (hD 0 24 (by kernel_rfl)), show a.eval (.tmp 25) = .int .i64 x from (hD 1 25 (by kernel_rfl))] <;> rfl)) u) (hit_is d x false u HND.out)) ?_
    exact fsteps_nil
  intro gv w3 hV k3
  rw [show dstsOf _ 3 = [24, 25, 26] by kernel_rfl]
  simp only [List.foldl_cons, List.foldl_nil, List.setIfInBounds_toArray, List.set_cons_succ, List.set_cons_zero, List.drop_succ_cons, List.drop_zero]
  rw [show gv 26 = .bool false from hV 2 26 (by kernel_rfl)]
  clear hV
  refine wpList_nil ?_
  have HB3 := Lib.hid (HB2.out.kept k3)
  have kw3 := kw2.trans k3
  clear kw2
  clear HD3
  go_upto_region 8 with fail
  refine wp_text 3 [.eq (.pointer (some ⟨g, 3, none⟩)), .eq (.int .i64 c.side), .eq (.bool true)] rfl (by kernel_rfl) ?_ ?_
  · refine fsteps_cons 1 rfl (fun a u hE hD hk => f_val (o := ⟨some 27, _, _, _, _, _⟩) (.pointer (some ⟨g, 3, none⟩)) rfl (wanted_none rfl _) (exec_fld 23 3 3 (.tmp 3) (g) rfl (hE 3 (.pointer (some ⟨g, 0, none⟩)) (by kernel_rfl) (by kernel_rfl)) (by kernel_rfl)) rfl) ?_
    refine fsteps_cons 2 rfl (fun a u hE hD hk => f_val (o := ⟨some 28, _, _, _, _, _⟩) (.int .i64 c.side) rfl (wanted_none rfl _) (exec_loadi 3 Try.underlying3 (.tmp 27) ⟨g, 3, none⟩ (.int .i64 c.side) rfl (hD 0 27 (by kernel_rfl)) ((HB3.out.kept hk).fld 3 _ rfl)) rfl) ?_
    refine fsteps_cons 3 rfl (fun a u hE hD hk => f_as (show ((decide ((c.side : Int) = (1 : Int))) : Bool) = true from decide_eq_true HS.out) (f_val (o := ⟨some 29, _, _, _, _, _⟩) (.bool (decide ((c.side : Int) = (1 : Int)))) rfl (wanted_none rfl _) (exec_eqn (p := c.side) (q := 1) rfl (hD 1 28 (by kernel_rfl)) rfl) rfl)) ?_
    exact fsteps_nil
  intro gv w4 hV k4
  rw [show dstsOf _ 3 = [27, 28, 29] by kernel_rfl]
  simp only [List.foldl_cons, List.foldl_nil, List.setIfInBounds_toArray, List.set_cons_succ, List.set_cons_zero, List.drop_succ_cons, List.drop_zero]
  rw [show gv 29 = .bool true from hV 2 29 (by kernel_rfl)]
  clear hV
  refine wpList_nil ?_
  have HB4 := Lib.hid (HB3.out.kept k4)
  have kw4 := kw3.trans k4
  clear kw3
  go_upto_region 9 with fail
  refine wp_text 12 [.eq (c.v), .eq (.int .i64 lo), .eq (.bool (c.hit lo)), .eq (.bool (!(c.hit lo))), .eq (.bool (!(c.hit lo))), .cond (!(!(c.hit lo))) (.eq (c.v)), .cond (!(!(c.hit lo))) (.eq (.int .i64 hi)), .cond (!(!(c.hit lo))) (.eq (.bool (c.hit hi))), .eq (.bool true), .eq (.bool true), .eq (.bool true), .eq (.bool true)] rfl (by kernel_rfl) ?_ ?_
  · refine fsteps_cons 1 rfl (fun a u hE hD hk => f_val (o := ⟨some 30, _, _, _, _, _⟩) (c.v) rfl (wanted_none rfl _) (exec_loadS 23 (.tmp 3) (g) _ c.cells _ rfl (hE 3 (.pointer (some ⟨g, 0, none⟩)) (by kernel_rfl) (by kernel_rfl)) (HB4.out.kept hk) Try.underlying23 (by rw [Ord.cells_len _ HT.out]; exact ord_size)) rfl) ?_
    refine fsteps_cons 2 rfl (fun a u hE hD hk => f_val (o := ⟨some 31, _, _, _, _, _⟩) (.int .i64 lo) rfl (wanted_none rfl _) (exec_move (.tmp 7) (.int .i64 lo) rfl (hE 7 (.int .i64 lo) (by kernel_rfl) (by kernel_rfl))) rfl) ?_
    refine fsteps_cons 3 rfl (fun a u hE hD hk => f_call (o := ⟨some 32, _, _, _, _, _⟩) 9 #[c.v, .int .i64 lo] rfl (wanted_none rfl _) (exec_call 9 _ [.tmp 30, .tmp 31] _ [c.v, .int .i64 lo] Try.func9 (by kernel_rfl) (by kernel_rfl) rfl (show [a.eval (.tmp 30), a.eval (.tmp 31)] = [c.v, .int .i64 lo] from (by rw [show a.eval (.tmp 30) = c.v from (hD 0 30 (by kernel_rfl)), show a.eval (.tmp 31) = .int .i64 lo from (hD 1 31 (by kernel_rfl))] <;> rfl)) u) (hit_any c lo u)) ?_
    refine fsteps_cons 4 rfl (fun a u hE hD hk => f_val (o := ⟨some 33, _, _, _, _, _⟩) (.bool (!(c.hit lo))) rfl (wanted_none rfl _) (exec_not _ (.tmp 32) (c.hit lo) rfl (hD 2 32 (by kernel_rfl))) rfl) ?_
    refine fsteps_cons 5 rfl (fun a u hE hD hk => f_val (o := ⟨some 34, _, _, _, _, _⟩) (.bool (!(c.hit lo))) rfl (wanted_none rfl _) (exec_move (.tmp 33) (.bool (!(c.hit lo))) rfl (hD 3 33 (by kernel_rfl))) rfl) ?_
    refine fsteps_cons 6 rfl (fun a u hE hD hk => f_unless ((!(c.hit lo))) rfl rfl rfl (hD 4 34 (by kernel_rfl)) (fun hb => f_val (o := ⟨some 35, _, _, _, _, _⟩) (c.v) rfl (wanted_b rfl rfl (hD 4 34 (by kernel_rfl)) (eq_false_of hb)) (exec_loadS 23 (.tmp 3) (g) _ c.cells _ rfl (hE 3 (.pointer (some ⟨g, 0, none⟩)) (by kernel_rfl) (by kernel_rfl)) (HB4.out.kept hk) Try.underlying23 (by rw [Ord.cells_len _ HT.out]; exact ord_size)) rfl)) ?_
    refine fsteps_cons 7 rfl (fun a u hE hD hk => f_unless ((!(c.hit lo))) rfl rfl rfl (hD 4 34 (by kernel_rfl)) (fun hb => f_val (o := ⟨some 36, _, _, _, _, _⟩) (.int .i64 hi) rfl (wanted_b rfl rfl (hD 4 34 (by kernel_rfl)) (eq_false_of hb)) (exec_move (.tmp 8) (.int .i64 hi) rfl (hE 8 (.int .i64 hi) (by kernel_rfl) (by kernel_rfl))) rfl)) ?_
    refine fsteps_cons 8 rfl (fun a u hE hD hk => f_unless ((!(c.hit lo))) rfl rfl rfl (hD 4 34 (by kernel_rfl)) (fun hb => f_call (o := ⟨some 37, _, _, _, _, _⟩) 9 #[c.v, .int .i64 hi] rfl (wanted_b rfl rfl (hD 4 34 (by kernel_rfl)) (eq_false_of hb)) (exec_call 9 _ [.tmp 35, .tmp 36] _ [c.v, .int .i64 hi] Try.func9 (by kernel_rfl) (by kernel_rfl) rfl (show [a.eval (.tmp 35), a.eval (.tmp 36)] = [c.v, .int .i64 hi] from (by rw [show a.eval (.tmp 35) = c.v from ((hD 5 35 (by kernel_rfl)).1 hb), show a.eval (.tmp 36) = .int .i64 hi from ((hD 6 36 (by kernel_rfl)).1 hb)] <;> rfl)) u) (hit_any c hi u))) ?_
    refine fsteps_cons 9 rfl (fun a u hE hD hk => f_as (show (((!(c.hit lo)) || (c.hit hi)) : Bool) = true from HX.out) (f_val (o := ⟨some 38, _, _, _, _, _⟩) (.bool ((!(c.hit lo)) || (c.hit hi))) rfl (wanted_none rfl _) (exec_pickor (.tmp 34) (.const (.bool true)) (.tmp 37) ((!(c.hit lo))) ((c.hit hi)) rfl (hD 4 34 (by kernel_rfl)) rfl (fun hb2 => ((hD 7 37 (by kernel_rfl)).1 hb2))) rfl)) ?_
    refine fsteps_cons 10 rfl (fun a u hE hD hk => f_val (o := ⟨some 39, _, _, _, _, _⟩) (.bool true) rfl (wanted_none rfl _) (exec_move (.tmp 38) (.bool true) rfl (hD 8 38 (by kernel_rfl))) rfl) ?_
    refine fsteps_cons 11 rfl (fun a u hE hD hk => f_call (o := ⟨some 40, _, _, _, _, _⟩) 3 #[] rfl (wanted_at (b := true) true rfl rfl (hD 9 39 (by kernel_rfl))) (exec_call 3 _ [] _ [] Try.func3 (by kernel_rfl) (by kernel_rfl) rfl rfl u) (orderRuns_gives u)) ?_
    refine fsteps_cons 12 rfl (fun a u hE hD hk => f_val (o := ⟨some 41, _, _, _, _, _⟩) (.bool true) rfl (wanted_none rfl _) (exec_pick (.tmp 39) (.tmp 40) (.const (.bool false)) (.bool true) rfl (hD 9 39 (by kernel_rfl)) (hD 10 40 (by kernel_rfl))) rfl) ?_
    exact fsteps_nil
  intro gv w5 hV k5
  rw [show dstsOf _ 12 = [30, 31, 32, 33, 34, 35, 36, 37, 38, 39, 40, 41] by kernel_rfl]
  simp only [List.foldl_cons, List.foldl_nil, List.setIfInBounds_toArray, List.set_cons_succ, List.set_cons_zero, List.drop_succ_cons, List.drop_zero]
  rw [show gv 41 = .bool true from hV 11 41 (by kernel_rfl)]
  clear hV
  have HB5 := Lib.hid (HB4.out.kept k5)
  have kw5 := kw4.trans k5
  clear kw4
  go_wp2
  go_ret
  exact ⟨rfl, kw5⟩

set_option maxRecDepth 100000 in
set_option maxHeartbeats 1600000 in
theorem stops_s (c : Ord) (x y : Int) (w : World) (hs : ¬ c.side = 1) : Calls Try.prog 7 #[c.v, .int .i64 x, .int .i64 y] w fun e w' => e = .returned (.bool true) ∧ Kept w w' := by
  obtain ⟨lo, hlo⟩ : ∃ lo : Int, (if y < x then y else x) = lo := ⟨_, rfl⟩
  obtain ⟨hi, hhi⟩ : ∃ hi : Int, (if x < y then y else x) = hi := ⟨_, rfl⟩
  have hle : lo ≤ hi := by rw [← hlo, ← hhi]; split <;> split <;> omega
  have HLO := Lib.hid hlo
  have HHI := Lib.hid hhi
  have HX := Lib.hid (hit_down c lo hi hs hle)
  have HS := Lib.hid hs
  clear hlo hhi hle hs
  unfold Ord.v
  have HT : Hid True := trivial
  have HB0 : Hid (Blk (w.alloc (.cells c.cells.toArray 23)) w.heap.size 23 c.cells) := Blk.new w _ _
  have kw0 : Kept w (w.alloc (.cells c.cells.toArray 23)) := (Keep.refl _ w).alloc _
  go_enter Try.func7, Try.ntmps7
  go_upto_region 1 with fail
  generalize hs0 : w.alloc (.cells c.cells.toArray 23) = w0 at HB0 kw0 ⊢
  clear hs0
  generalize w.heap.size = g at HB0 ⊢
  refine wp_text 8 [.eq (.int .i64 x), .eq (.int .i64 y), .eq (.int .i64 lo), .eq (.int .i64 x), .eq (.int .i64 y), .eq (.int .i64 hi), .eq (.int .i64 lo), .eq (.int .i64 hi)] rfl (by kernel_rfl) ?_ ?_
  · refine fsteps_cons 1 rfl (fun a u hE hD hk => f_val (o := ⟨some 10, _, _, _, _, _⟩) (.int .i64 x) rfl (wanted_none rfl _) (exec_move (.tmp 1) (.int .i64 x) rfl (hE 1 (.int .i64 x) (by kernel_rfl) (by kernel_rfl))) rfl) ?_
    refine fsteps_cons 2 rfl (fun a u hE hD hk => f_val (o := ⟨some 11, _, _, _, _, _⟩) (.int .i64 y) rfl (wanted_none rfl _) (exec_move (.tmp 2) (.int .i64 y) rfl (hE 2 (.int .i64 y) (by kernel_rfl) (by kernel_rfl))) rfl) ?_
    refine fsteps_cons 3 rfl (fun a u hE hD hk => f_val (o := ⟨some 12, _, _, _, _, _⟩) (.int .i64 lo) rfl (wanted_none rfl _) (exec_min (.tmp 10) (.tmp 11) _ x y lo rfl (hD 0 10 (by kernel_rfl)) (hD 1 11 (by kernel_rfl)) HLO.out) rfl) ?_
    refine fsteps_cons 4 rfl (fun a u hE hD hk => f_val (o := ⟨some 13, _, _, _, _, _⟩) (.int .i64 x) rfl (wanted_none rfl _) (exec_move (.tmp 1) (.int .i64 x) rfl (hE 1 (.int .i64 x) (by kernel_rfl) (by kernel_rfl))) rfl) ?_
    refine fsteps_cons 5 rfl (fun a u hE hD hk => f_val (o := ⟨some 14, _, _, _, _, _⟩) (.int .i64 y) rfl (wanted_none rfl _) (exec_move (.tmp 2) (.int .i64 y) rfl (hE 2 (.int .i64 y) (by kernel_rfl) (by kernel_rfl))) rfl) ?_
    refine fsteps_cons 6 rfl (fun a u hE hD hk => f_val (o := ⟨some 15, _, _, _, _, _⟩) (.int .i64 hi) rfl (wanted_none rfl _) (exec_max (.tmp 13) (.tmp 14) _ x y hi rfl (hD 3 13 (by kernel_rfl)) (hD 4 14 (by kernel_rfl)) HHI.out) rfl) ?_
    refine fsteps_cons 7 rfl (fun a u hE hD hk => f_val (o := ⟨some 7, _, _, _, _, _⟩) (.int .i64 lo) rfl (wanted_none rfl _) (exec_assign (.tmp 12) (.int .i64 lo) rfl (hD 2 12 (by kernel_rfl))) rfl) ?_
    refine fsteps_cons 8 rfl (fun a u hE hD hk => f_val (o := ⟨some 8, _, _, _, _, _⟩) (.int .i64 hi) rfl (wanted_none rfl _) (exec_assign (.tmp 15) (.int .i64 hi) rfl (hD 5 15 (by kernel_rfl))) rfl) ?_
    exact fsteps_nil
  intro gv w1 hV k1
  rw [show dstsOf _ 8 = [10, 11, 12, 13, 14, 15, 7, 8] by kernel_rfl]
  simp only [List.foldl_cons, List.foldl_nil, List.setIfInBounds_toArray, List.set_cons_succ, List.set_cons_zero, List.drop_succ_cons, List.drop_zero]
  rw [show gv 7 = .int .i64 lo from hV 6 7 (by kernel_rfl)]
  rw [show gv 8 = .int .i64 hi from hV 7 8 (by kernel_rfl)]
  clear hV
  refine wpList_nil ?_
  have HB1 := Lib.hid (HB0.out.kept k1)
  have kw1 := kw0.trans k1
  clear kw0
  go_upto_region 2 with fail
  refine wp_text 6 [.eq (c.v), .eq (.bool false), .eq (.bool false), .eq (c.v), .eq (.bool false), .eq (.bool false)] rfl (by kernel_rfl) ?_ ?_
  · refine fsteps_cons 1 rfl (fun a u hE hD hk => f_val (o := ⟨some 16, _, _, _, _, _⟩) (c.v) rfl (wanted_none rfl _) (exec_loadS 23 (.tmp 3) (g) _ c.cells _ rfl (hE 3 (.pointer (some ⟨g, 0, none⟩)) (by kernel_rfl) (by kernel_rfl)) (HB1.out.kept hk) Try.underlying23 (by rw [Ord.cells_len _ HT.out]; exact ord_size)) rfl) ?_
    refine fsteps_cons 2 rfl (fun a u hE hD hk => f_call (o := ⟨some 17, _, _, _, _, _⟩) 9 #[c.v, .int .i64 0] rfl (wanted_none rfl _) (exec_call 9 _ [.tmp 16, .const (.int .i64 0)] _ [c.v, .int .i64 0] Try.func9 (by kernel_rfl) (by kernel_rfl) rfl (show [a.eval (.tmp 16), a.eval (.const (.int .i64 0))] = [c.v, .int .i64 0] from (by rw [show a.eval (.tmp 16) = c.v from (hD 0 16 (by kernel_rfl))] <;> rfl)) u) (hit_is c 0 false u (hit_low c 0 (by decide)))) ?_
    refine fsteps_cons 3 rfl (fun a u hE hD hk => f_val (o := ⟨some 18, _, _, _, _, _⟩) (.bool false) rfl (wanted_none rfl _) (exec_move (.tmp 17) (.bool false) rfl (hD 1 17 (by kernel_rfl))) rfl) ?_
    refine fsteps_cons 4 rfl (fun a u hE hD hk => f_val (o := ⟨some 19, _, _, _, _, _⟩) (c.v) rfl (wanted_at (b := false) false rfl rfl (hD 2 18 (by kernel_rfl))) (exec_loadS 23 (.tmp 3) (g) _ c.cells _ rfl (hE 3 (.pointer (some ⟨g, 0, none⟩)) (by kernel_rfl) (by kernel_rfl)) (HB1.out.kept hk) Try.underlying23 (by rw [Ord.cells_len _ HT.out]; exact ord_size)) rfl) ?_
    refine fsteps_cons 5 rfl (fun a u hE hD hk => f_call (o := ⟨some 20, _, _, _, _, _⟩) 9 #[c.v, .int .i64 (-1)] rfl (wanted_at (b := false) false rfl rfl (hD 2 18 (by kernel_rfl))) (exec_call 9 _ [.tmp 19, .const (.int .i64 (-1))] _ [c.v, .int .i64 (-1)] Try.func9 (by kernel_rfl) (by kernel_rfl) rfl (show [a.eval (.tmp 19), a.eval (.const (.int .i64 (-1)))] = [c.v, .int .i64 (-1)] from (by rw [show a.eval (.tmp 19) = c.v from (hD 3 19 (by kernel_rfl))] <;> rfl)) u) (hit_is c (-1) false u (hit_low c (-1) (by decide)))) ?_
    refine fsteps_cons 6 rfl (fun a u hE hD hk => f_val (o := ⟨some 21, _, _, _, _, _⟩) (.bool false) rfl (wanted_none rfl _) (exec_pickF (.tmp 18) (.const (.bool true)) (.tmp 20) (.bool false) rfl (hD 2 18 (by kernel_rfl)) (hD 4 20 (by kernel_rfl))) rfl) ?_
    exact fsteps_nil
  intro gv w2 hV k2
  rw [show dstsOf _ 6 = [16, 17, 18, 19, 20, 21] by kernel_rfl]
  simp only [List.foldl_cons, List.foldl_nil, List.setIfInBounds_toArray, List.set_cons_succ, List.set_cons_zero, List.drop_succ_cons, List.drop_zero]
  rw [show gv 21 = .bool false from hV 5 21 (by kernel_rfl)]
  clear hV
  refine wpList_nil ?_
  have HB2 := Lib.hid (HB1.out.kept k2)
  have kw2 := kw1.trans k2
  clear kw1
  have kw2' := kw2
  go_upto_region 4 with fail
  refine wp_region_lit ?_
  refine l_val (o := ⟨some 22, _, _, _, _, _⟩) (c.v) rfl (exec_loadS 23 (.tmp 3) g 23 c.cells _ rfl (by kernel_rfl) HB2.out Try.underlying23 (by rw [Ord.cells_len _ trivial]; exact ord_size)) ?_
  simp only [Act.put, List.setIfInBounds_toArray, List.set_cons_succ, List.set_cons_zero]
  refine l_alloc (o := ⟨some 9, _, _, _, _, _⟩) 23 Ord.zero.cells rfl rfl ord_zero ?_
  intro wa Ba sa ka
  obtain ⟨gn, hgn⟩ : ∃ g, g = w2.heap.size := ⟨_, rfl⟩
  rw [← hgn] at Ba ⊢
  simp only [Act.put, List.setIfInBounds_toArray, List.set_cons_succ, List.set_cons_zero]
  refine l_setS (o := ⟨none, _, _, _, _, _⟩) 23 gn 23 Ord.zero.cells c.cells (.tmp 9) (.tmp 22) rfl rfl (by kernel_rfl) (by kernel_rfl) Ba (by rw [Ord.cells_len _ trivial]; exact ord_size) rfl c.one ?_
  intro wb Bb kb sb
  simp only [Act.put]
  refine wpList_nil ?_
  have zl := HB2.out.lt
  have zs := kw2.size
  have HBb := Lib.hid ((HB2.out.kept ka).keep kb (by omega))
  have kwb : Kept w wb := (kw2.trans ka).trans' kb (by omega)
  have HN : Hid (g < gn ∧ w.heap.size ≤ gn) := ⟨by omega, by omega⟩
  have HDb : Hid (Blk wb gn 23 (stc c.l [])) := Bb
  clear Ba sa ka hgn kb sb zl zs Bb HB2 kw2 kw2'
  go_upto_region 5 with fail
  refine wp_region_lit ?_
  refine l_val (o := ⟨some 23, _, _, _, _, _⟩) (.pointer (some ⟨gn, 8, none⟩)) rfl (exec_fld 23 8 8 (.tmp 9) (gn) rfl (by kernel_rfl) (by kernel_rfl)) ?_
  simp only [Act.put, List.setIfInBounds_toArray, List.set_cons_succ, List.set_cons_zero]
  refine l_setf (o := ⟨none, _, _, _, _, _⟩) gn 8 23 c.l [] 0 (.tmp 23) (.const (.int .i64 0)) rfl rfl (by kernel_rfl) rfl HDb.out (by simp [Ord.l]) ?_
  intro wc Bc kc sc
  simp only [Act.put]
  refine wpList_nil ?_
  have HD3 : Hid (Blk wc gn 23 (Ord.cells { c with stop := 0 })) := Bc
  have HB2 := Lib.hid (HBb.out.keep kc (by have := HN.out; omega))
  have kw2 : Kept w wc := kwb.trans' kc (by have := HN.out; omega)
  obtain ⟨d, hd⟩ : ∃ d : Ord, d = { c with stop := 0 } := ⟨_, rfl⟩
  have HND : Hid (d.hit x = false) := by rw [hd]; exact hit_none c x
  rw [← hd] at HD3
  clear hd Bc kc sc HBb HDb kwb HN
  go_upto_region 6 with fail
  refine wp_text 3 [.eq (d.v), .eq (.int .i64 x), .eq (.bool false)] rfl (by kernel_rfl) ?_ ?_
  · refine fsteps_cons 1 rfl (fun a u hE hD hk => f_val (o := ⟨some 24, _, _, _, _, _⟩) (d.v) rfl (wanted_none rfl _) (exec_loadS 23 (.tmp 9) (gn) _ d.cells _ rfl (hE 9 (.pointer (some ⟨gn, 0, none⟩)) (by kernel_rfl) (by kernel_rfl)) (HD3.out.kept hk) Try.underlying23 (by rw [Ord.cells_len _ HT.out]; exact ord_size)) rfl) ?_
    refine fsteps_cons 2 rfl (fun a u hE hD hk => f_val (o := ⟨some 25, _, _, _, _, _⟩) (.int .i64 x) rfl (wanted_none rfl _) (exec_move (.tmp 1) (.int .i64 x) rfl (hE 1 (.int .i64 x) (by kernel_rfl) (by kernel_rfl))) rfl) ?_
    refine fsteps_cons 3 rfl (fun a u hE hD hk => f_call (o := ⟨some 26, _, _, _, _, _⟩) 9 #[d.v, .int .i64 x] rfl (wanted_none rfl _) (exec_call 9 _ [.tmp 24, .tmp 25] _ [d.v, .int .i64 x] Try.func9 (by kernel_rfl) (by kernel_rfl) rfl (show [a.eval (.tmp 24), a.eval (.tmp 25)] = [d.v, .int .i64 x] from (by rw [show a.eval (.tmp 24) = d.v from (hD 0 24 (by kernel_rfl)), show a.eval (.tmp 25) = .int .i64 x from (hD 1 25 (by kernel_rfl))] <;> rfl)) u) (hit_is d x false u HND.out)) ?_
    exact fsteps_nil
  intro gv w3 hV k3
  rw [show dstsOf _ 3 = [24, 25, 26] by kernel_rfl]
  simp only [List.foldl_cons, List.foldl_nil, List.setIfInBounds_toArray, List.set_cons_succ, List.set_cons_zero, List.drop_succ_cons, List.drop_zero]
  rw [show gv 26 = .bool false from hV 2 26 (by kernel_rfl)]
  clear hV
  refine wpList_nil ?_
  have HB3 := Lib.hid (HB2.out.kept k3)
  have kw3 := kw2.trans k3
  clear kw2
  clear HD3
  go_upto_region 8 with fail
  refine wp_text 3 [.eq (.pointer (some ⟨g, 3, none⟩)), .eq (.int .i64 c.side), .eq (.bool false)] rfl (by kernel_rfl) ?_ ?_
  · refine fsteps_cons 1 rfl (fun a u hE hD hk => f_val (o := ⟨some 27, _, _, _, _, _⟩) (.pointer (some ⟨g, 3, none⟩)) rfl (wanted_none rfl _) (exec_fld 23 3 3 (.tmp 3) (g) rfl (hE 3 (.pointer (some ⟨g, 0, none⟩)) (by kernel_rfl) (by kernel_rfl)) (by kernel_rfl)) rfl) ?_
    refine fsteps_cons 2 rfl (fun a u hE hD hk => f_val (o := ⟨some 28, _, _, _, _, _⟩) (.int .i64 c.side) rfl (wanted_none rfl _) (exec_loadi 3 Try.underlying3 (.tmp 27) ⟨g, 3, none⟩ (.int .i64 c.side) rfl (hD 0 27 (by kernel_rfl)) ((HB3.out.kept hk).fld 3 _ rfl)) rfl) ?_
    refine fsteps_cons 3 rfl (fun a u hE hD hk => f_as (show ((decide ((c.side : Int) = (1 : Int))) : Bool) = false from decide_eq_false HS.out) (f_val (o := ⟨some 29, _, _, _, _, _⟩) (.bool (decide ((c.side : Int) = (1 : Int)))) rfl (wanted_none rfl _) (exec_eqn (p := c.side) (q := 1) rfl (hD 1 28 (by kernel_rfl)) rfl) rfl)) ?_
    exact fsteps_nil
  intro gv w4 hV k4
  rw [show dstsOf _ 3 = [27, 28, 29] by kernel_rfl]
  simp only [List.foldl_cons, List.foldl_nil, List.setIfInBounds_toArray, List.set_cons_succ, List.set_cons_zero, List.drop_succ_cons, List.drop_zero]
  rw [show gv 29 = .bool false from hV 2 29 (by kernel_rfl)]
  clear hV
  refine wpList_nil ?_
  have HB4 := Lib.hid (HB3.out.kept k4)
  have kw4 := kw3.trans k4
  clear kw3
  go_upto_region 10 with fail
  refine wp_text 16 [.eq (.int .i64 lo), .eq (.bool (decide ((lo : Int) < (1 : Int)))), .eq (.bool (decide ((lo : Int) < (1 : Int)))), .cond (!(decide ((lo : Int) < (1 : Int)))) (.eq (c.v)), .cond (!(decide ((lo : Int) < (1 : Int)))) (.eq (.int .i64 hi)), .cond (!(decide ((lo : Int) < (1 : Int)))) (.eq (.bool (c.hit hi))), .cond (!(decide ((lo : Int) < (1 : Int)))) (.eq (.bool (!(c.hit hi)))), .eq (.bool ((decide ((lo : Int) < (1 : Int))) || (!(c.hit hi)))), .eq (.bool ((decide ((lo : Int) < (1 : Int))) || (!(c.hit hi)))), .cond (!((decide ((lo : Int) < (1 : Int))) || (!(c.hit hi)))) (.eq (c.v)), .cond (!((decide ((lo : Int) < (1 : Int))) || (!(c.hit hi)))) (.eq (.int .i64 lo)), .cond (!((decide ((lo : Int) < (1 : Int))) || (!(c.hit hi)))) (.eq (.bool (c.hit lo))), .eq (.bool true), .eq (.bool true), .eq (.bool true), .eq (.bool true)] rfl (by kernel_rfl) ?_ ?_
  · refine fsteps_cons 1 rfl (fun a u hE hD hk => f_val (o := ⟨some 42, _, _, _, _, _⟩) (.int .i64 lo) rfl (wanted_none rfl _) (exec_move (.tmp 7) (.int .i64 lo) rfl (hE 7 (.int .i64 lo) (by kernel_rfl) (by kernel_rfl))) rfl) ?_
    refine fsteps_cons 2 rfl (fun a u hE hD hk => f_val (o := ⟨some 43, _, _, _, _, _⟩) (.bool (decide ((lo : Int) < (1 : Int)))) rfl (wanted_none rfl _) (exec_ltn (p := lo) (q := 1) rfl (hD 0 42 (by kernel_rfl)) rfl) rfl) ?_
    refine fsteps_cons 3 rfl (fun a u hE hD hk => f_val (o := ⟨some 44, _, _, _, _, _⟩) (.bool (decide ((lo : Int) < (1 : Int)))) rfl (wanted_none rfl _) (exec_move (.tmp 43) (.bool (decide ((lo : Int) < (1 : Int)))) rfl (hD 1 43 (by kernel_rfl))) rfl) ?_
    refine fsteps_cons 4 rfl (fun a u hE hD hk => f_unless ((decide ((lo : Int) < (1 : Int)))) rfl rfl rfl (hD 2 44 (by kernel_rfl)) (fun hb => f_val (o := ⟨some 45, _, _, _, _, _⟩) (c.v) rfl (wanted_b rfl rfl (hD 2 44 (by kernel_rfl)) (eq_false_of hb)) (exec_loadS 23 (.tmp 3) (g) _ c.cells _ rfl (hE 3 (.pointer (some ⟨g, 0, none⟩)) (by kernel_rfl) (by kernel_rfl)) (HB4.out.kept hk) Try.underlying23 (by rw [Ord.cells_len _ HT.out]; exact ord_size)) rfl)) ?_
    refine fsteps_cons 5 rfl (fun a u hE hD hk => f_unless ((decide ((lo : Int) < (1 : Int)))) rfl rfl rfl (hD 2 44 (by kernel_rfl)) (fun hb => f_val (o := ⟨some 46, _, _, _, _, _⟩) (.int .i64 hi) rfl (wanted_b rfl rfl (hD 2 44 (by kernel_rfl)) (eq_false_of hb)) (exec_move (.tmp 8) (.int .i64 hi) rfl (hE 8 (.int .i64 hi) (by kernel_rfl) (by kernel_rfl))) rfl)) ?_
    refine fsteps_cons 6 rfl (fun a u hE hD hk => f_unless ((decide ((lo : Int) < (1 : Int)))) rfl rfl rfl (hD 2 44 (by kernel_rfl)) (fun hb => f_call (o := ⟨some 47, _, _, _, _, _⟩) 9 #[c.v, .int .i64 hi] rfl (wanted_b rfl rfl (hD 2 44 (by kernel_rfl)) (eq_false_of hb)) (exec_call 9 _ [.tmp 45, .tmp 46] _ [c.v, .int .i64 hi] Try.func9 (by kernel_rfl) (by kernel_rfl) rfl (show [a.eval (.tmp 45), a.eval (.tmp 46)] = [c.v, .int .i64 hi] from (by rw [show a.eval (.tmp 45) = c.v from ((hD 3 45 (by kernel_rfl)).1 hb), show a.eval (.tmp 46) = .int .i64 hi from ((hD 4 46 (by kernel_rfl)).1 hb)] <;> rfl)) u) (hit_any c hi u))) ?_
    refine fsteps_cons 7 rfl (fun a u hE hD hk => f_unless ((decide ((lo : Int) < (1 : Int)))) rfl rfl rfl (hD 2 44 (by kernel_rfl)) (fun hb => f_val (o := ⟨some 48, _, _, _, _, _⟩) (.bool (!(c.hit hi))) rfl (wanted_b rfl rfl (hD 2 44 (by kernel_rfl)) (eq_false_of hb)) (exec_not _ (.tmp 47) (c.hit hi) rfl ((hD 5 47 (by kernel_rfl)).1 hb)) rfl)) ?_
    refine fsteps_cons 8 rfl (fun a u hE hD hk => f_val (o := ⟨some 49, _, _, _, _, _⟩) (.bool ((decide ((lo : Int) < (1 : Int))) || (!(c.hit hi)))) rfl (wanted_none rfl _) (exec_pickor (.tmp 44) (.const (.bool true)) (.tmp 48) ((decide ((lo : Int) < (1 : Int)))) ((!(c.hit hi))) rfl (hD 2 44 (by kernel_rfl)) rfl (fun hb2 => ((hD 6 48 (by kernel_rfl)).1 hb2))) rfl) ?_
    refine fsteps_cons 9 rfl (fun a u hE hD hk => f_val (o := ⟨some 50, _, _, _, _, _⟩) (.bool ((decide ((lo : Int) < (1 : Int))) || (!(c.hit hi)))) rfl (wanted_none rfl _) (exec_move (.tmp 49) (.bool ((decide ((lo : Int) < (1 : Int))) || (!(c.hit hi)))) rfl (hD 7 49 (by kernel_rfl))) rfl) ?_
    refine fsteps_cons 10 rfl (fun a u hE hD hk => f_unless (((decide ((lo : Int) < (1 : Int))) || (!(c.hit hi)))) rfl rfl rfl (hD 8 50 (by kernel_rfl)) (fun hb => f_val (o := ⟨some 51, _, _, _, _, _⟩) (c.v) rfl (wanted_b rfl rfl (hD 8 50 (by kernel_rfl)) (eq_false_of hb)) (exec_loadS 23 (.tmp 3) (g) _ c.cells _ rfl (hE 3 (.pointer (some ⟨g, 0, none⟩)) (by kernel_rfl) (by kernel_rfl)) (HB4.out.kept hk) Try.underlying23 (by rw [Ord.cells_len _ HT.out]; exact ord_size)) rfl)) ?_
    refine fsteps_cons 11 rfl (fun a u hE hD hk => f_unless (((decide ((lo : Int) < (1 : Int))) || (!(c.hit hi)))) rfl rfl rfl (hD 8 50 (by kernel_rfl)) (fun hb => f_val (o := ⟨some 52, _, _, _, _, _⟩) (.int .i64 lo) rfl (wanted_b rfl rfl (hD 8 50 (by kernel_rfl)) (eq_false_of hb)) (exec_move (.tmp 7) (.int .i64 lo) rfl (hE 7 (.int .i64 lo) (by kernel_rfl) (by kernel_rfl))) rfl)) ?_
    refine fsteps_cons 12 rfl (fun a u hE hD hk => f_unless (((decide ((lo : Int) < (1 : Int))) || (!(c.hit hi)))) rfl rfl rfl (hD 8 50 (by kernel_rfl)) (fun hb => f_call (o := ⟨some 53, _, _, _, _, _⟩) 9 #[c.v, .int .i64 lo] rfl (wanted_b rfl rfl (hD 8 50 (by kernel_rfl)) (eq_false_of hb)) (exec_call 9 _ [.tmp 51, .tmp 52] _ [c.v, .int .i64 lo] Try.func9 (by kernel_rfl) (by kernel_rfl) rfl (show [a.eval (.tmp 51), a.eval (.tmp 52)] = [c.v, .int .i64 lo] from (by rw [show a.eval (.tmp 51) = c.v from ((hD 9 51 (by kernel_rfl)).1 hb), show a.eval (.tmp 52) = .int .i64 lo from ((hD 10 52 (by kernel_rfl)).1 hb)] <;> rfl)) u) (hit_any c lo u))) ?_
    refine fsteps_cons 13 rfl (fun a u hE hD hk => f_as (show ((((decide ((lo : Int) < (1 : Int))) || (!(c.hit hi))) || (c.hit lo)) : Bool) = true from HX.out) (f_val (o := ⟨some 54, _, _, _, _, _⟩) (.bool (((decide ((lo : Int) < (1 : Int))) || (!(c.hit hi))) || (c.hit lo))) rfl (wanted_none rfl _) (exec_pickor (.tmp 50) (.const (.bool true)) (.tmp 53) (((decide ((lo : Int) < (1 : Int))) || (!(c.hit hi)))) ((c.hit lo)) rfl (hD 8 50 (by kernel_rfl)) rfl (fun hb2 => ((hD 11 53 (by kernel_rfl)).1 hb2))) rfl)) ?_
    refine fsteps_cons 14 rfl (fun a u hE hD hk => f_val (o := ⟨some 55, _, _, _, _, _⟩) (.bool true) rfl (wanted_none rfl _) (exec_move (.tmp 54) (.bool true) rfl (hD 12 54 (by kernel_rfl))) rfl) ?_
    refine fsteps_cons 15 rfl (fun a u hE hD hk => f_call (o := ⟨some 56, _, _, _, _, _⟩) 3 #[] rfl (wanted_at (b := true) true rfl rfl (hD 13 55 (by kernel_rfl))) (exec_call 3 _ [] _ [] Try.func3 (by kernel_rfl) (by kernel_rfl) rfl rfl u) (orderRuns_gives u)) ?_
    refine fsteps_cons 16 rfl (fun a u hE hD hk => f_val (o := ⟨some 57, _, _, _, _, _⟩) (.bool true) rfl (wanted_none rfl _) (exec_pick (.tmp 55) (.tmp 56) (.const (.bool false)) (.bool true) rfl (hD 13 55 (by kernel_rfl)) (hD 14 56 (by kernel_rfl))) rfl) ?_
    exact fsteps_nil
  intro gv w5 hV k5
  rw [show dstsOf _ 16 = [42, 43, 44, 45, 46, 47, 48, 49, 50, 51, 52, 53, 54, 55, 56, 57] by kernel_rfl]
  simp only [List.foldl_cons, List.foldl_nil, List.setIfInBounds_toArray, List.set_cons_succ, List.set_cons_zero, List.drop_succ_cons, List.drop_zero]
  rw [show gv 57 = .bool true from hV 15 57 (by kernel_rfl)]
  clear hV
  have HB5 := Lib.hid (HB4.out.kept k5)
  have kw5 := kw4.trans k5
  clear kw4
  go_wp2
  go_ret
  exact ⟨rfl, kw5⟩

theorem orderStops_any (c : Ord) (x y : Int) (w : World) : Calls Try.prog 7 #[c.v, .int .i64 x, .int .i64 y] w fun e w' => e = .returned (.bool true) ∧ Kept w w' := by
  by_cases hs : c.side = 1
  · exact stops_b c x y w hs
  · exact stops_s c x y w hs
end Go.Proofs.Ytgepgpclgpidaaa
