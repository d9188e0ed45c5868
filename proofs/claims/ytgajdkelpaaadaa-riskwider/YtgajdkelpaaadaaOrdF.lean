/-
  Contracts of package order's functions, and of the document's own of chapter 8: which orders are right, what crosses, what is hit, what goes ahead, what an order is worth. Condition of the last: its numbers are an int's.
-/
import Derived.Test.YtgajdkelpaaadaaOrdM
import Derived.Test.YtgajdkelpaaadaaNum
import Derived.Test.YtgajdkelpaaadaaSumC
namespace Go.Proofs.Ytgajdkelpaaadaa
open Go.RowKit
set_option linter.unusedVariables false
set_option maxRecDepth 100000



set_option maxRecDepth 100000 in
set_option maxHeartbeats 800000 in
theorem owithin_any (n lo hi : Int) (w : World) : Gives 44 #[.int .i64 n, .int .i64 lo, .int .i64 hi] w (.eq (.bool (rng n lo hi))) := by
  refine gives_eq ?_
  unfold rng
  by_cases h : lo ≤ n
  · have h1 : decide (lo ≤ n) = true := by simpa using h
    rw [h1]
    go_enter Try.func44, Try.ntmps44
    go_wp2
    go_ret
    exact ⟨ret_bool (by simp), Kept.refl w⟩
  · have h1 : decide (lo ≤ n) = false := by simpa using h
    rw [h1]
    go_enter Try.func44, Try.ntmps44
    go_wp2
    go_ret
    exact ⟨ret_bool (by simp), Kept.refl w⟩

set_option maxRecDepth 100000 in
set_option maxHeartbeats 800000 in
theorem isOwned_any (c : Ord) (w : World) : Gives 35 #[c.v] w (.eq (.bool c.owned)) := by
  unfold Gives Ord.v
  have HT : Hid True := trivial
  have HB0 : Hid (Blk (w.alloc (.cells c.cells.toArray 29)) w.heap.size 29 c.cells) := Blk.new w _ _
  have kw0 : Kept w (w.alloc (.cells c.cells.toArray 29)) := (Keep.refl _ w).alloc _
  go_enter Try.func35, Try.ntmps35
  go_upto_region 1 with fail
  generalize w.alloc (.cells c.cells.toArray 29) = w0 at HB0 kw0 ⊢
  generalize w.heap.size = g at HB0 ⊢
  refine wp_text 13 [.eq (.pointer (some ⟨g, 0, none⟩)), .eq (.int .i64 c.tr), .eq (.bool (rng c.tr 0 31)), .eq (.bool (rng c.tr 0 31)), .cond (rng c.tr 0 31) (.eq (.pointer (some ⟨g, 2, none⟩))), .cond (rng c.tr 0 31) (.eq (.int .i64 c.firm)), .cond (rng c.tr 0 31) (.eq (.bool (rng c.firm 0 7))), .eq (.bool ((rng c.tr 0 31) && (rng c.firm 0 7))), .eq (.bool ((rng c.tr 0 31) && (rng c.firm 0 7))), .cond ((rng c.tr 0 31) && (rng c.firm 0 7)) (.eq (.pointer (some ⟨g, 1, none⟩))), .cond ((rng c.tr 0 31) && (rng c.firm 0 7)) (.eq (.int .i64 c.id)), .cond ((rng c.tr 0 31) && (rng c.firm 0 7)) (.eq (.bool (rng c.id 0 1073741824))), .eq (.bool (((rng c.tr 0 31) && (rng c.firm 0 7)) && (rng c.id 0 1073741824)))] rfl (by kernel_rfl) ?_ ?_
  · refine fsteps_cons 1 rfl (fun a u hE hD hk => f_val (o := ⟨some 3, _, _, _, _, _⟩) (.pointer (some ⟨g, 0, none⟩)) rfl (wanted_none rfl _) (exec_fld 29 0 0 (.tmp 1) (g) rfl (hE 1 (.pointer (some ⟨g, 0, none⟩)) (by kernel_rfl) (by kernel_rfl)) (by kernel_rfl)) rfl) ?_
    refine fsteps_cons 2 rfl (fun a u hE hD hk => f_val (o := ⟨some 4, _, _, _, _, _⟩) (.int .i64 c.tr) rfl (wanted_none rfl _) (exec_loadi 3 Try.underlying3 (.tmp 3) ⟨g, 0, none⟩ (.int .i64 c.tr) rfl (hD 0 3 (by kernel_rfl)) ((HB0.out.kept hk).fld 0 _ rfl)) rfl) ?_
    refine fsteps_cons 3 rfl (fun a u hE hD hk => f_call (o := ⟨some 5, _, _, _, _, _⟩) 44 #[.int .i64 c.tr, .int .i64 0, .int .i64 31] rfl (wanted_none rfl _) (exec_call 44 _ [.tmp 4, .const (.int .i64 0), .const (.int .i64 31)] _ [.int .i64 c.tr, .int .i64 0, .int .i64 31] Try.func44 (by kernel_rfl) (by kernel_rfl) rfl (show [a.eval (.tmp 4), a.eval (.const (.int .i64 0)), a.eval (.const (.int .i64 31))] = [.int .i64 c.tr, .int .i64 0, .int .i64 31] from (by rw [show a.eval (.tmp 4) = .int .i64 c.tr from (hD 1 4 (by kernel_rfl))] <;> rfl)) u) (owithin_any _ _ _ u)) ?_
    refine fsteps_cons 4 rfl (fun a u hE hD hk => f_val (o := ⟨some 6, _, _, _, _, _⟩) (.bool (rng c.tr 0 31)) rfl (wanted_none rfl _) (exec_move (.tmp 5) (.bool (rng c.tr 0 31)) rfl (hD 2 5 (by kernel_rfl))) rfl) ?_
    refine fsteps_cons 5 rfl (fun a u hE hD hk => f_if ((rng c.tr 0 31)) rfl rfl rfl (hD 3 6 (by kernel_rfl)) (fun hb => f_val (o := ⟨some 7, _, _, _, _, _⟩) (.pointer (some ⟨g, 2, none⟩)) rfl (wanted_b rfl rfl (hD 3 6 (by kernel_rfl)) (eq_true_of hb)) (exec_fld 29 2 2 (.tmp 1) (g) rfl (hE 1 (.pointer (some ⟨g, 0, none⟩)) (by kernel_rfl) (by kernel_rfl)) (by kernel_rfl)) rfl)) ?_
    refine fsteps_cons 6 rfl (fun a u hE hD hk => f_if ((rng c.tr 0 31)) rfl rfl rfl (hD 3 6 (by kernel_rfl)) (fun hb => f_val (o := ⟨some 8, _, _, _, _, _⟩) (.int .i64 c.firm) rfl (wanted_b rfl rfl (hD 3 6 (by kernel_rfl)) (eq_true_of hb)) (exec_loadi 3 Try.underlying3 (.tmp 7) ⟨g, 2, none⟩ (.int .i64 c.firm) rfl ((hD 4 7 (by kernel_rfl)).1 hb) ((HB0.out.kept hk).fld 2 _ rfl)) rfl)) ?_
    refine fsteps_cons 7 rfl (fun a u hE hD hk => f_if ((rng c.tr 0 31)) rfl rfl rfl (hD 3 6 (by kernel_rfl)) (fun hb => f_call (o := ⟨some 9, _, _, _, _, _⟩) 44 #[.int .i64 c.firm, .int .i64 0, .int .i64 7] rfl (wanted_b rfl rfl (hD 3 6 (by kernel_rfl)) (eq_true_of hb)) (exec_call 44 _ [.tmp 8, .const (.int .i64 0), .const (.int .i64 7)] _ [.int .i64 c.firm, .int .i64 0, .int .i64 7] Try.func44 (by kernel_rfl) (by kernel_rfl) rfl (show [a.eval (.tmp 8), a.eval (.const (.int .i64 0)), a.eval (.const (.int .i64 7))] = [.int .i64 c.firm, .int .i64 0, .int .i64 7] from (by rw [show a.eval (.tmp 8) = .int .i64 c.firm from ((hD 5 8 (by kernel_rfl)).1 hb)] <;> rfl)) u) (owithin_any _ _ _ u))) ?_
    refine fsteps_cons 8 rfl (fun a u hE hD hk => f_val (o := ⟨some 10, _, _, _, _, _⟩) (.bool ((rng c.tr 0 31) && (rng c.firm 0 7))) rfl (wanted_none rfl _) (exec_pickand (.tmp 6) (.tmp 9) (.const (.bool false)) ((rng c.tr 0 31)) ((rng c.firm 0 7)) rfl (hD 3 6 (by kernel_rfl)) (fun hb2 => ((hD 6 9 (by kernel_rfl)).1 hb2)) rfl) rfl) ?_
    refine fsteps_cons 9 rfl (fun a u hE hD hk => f_val (o := ⟨some 11, _, _, _, _, _⟩) (.bool ((rng c.tr 0 31) && (rng c.firm 0 7))) rfl (wanted_none rfl _) (exec_move (.tmp 10) (.bool ((rng c.tr 0 31) && (rng c.firm 0 7))) rfl (hD 7 10 (by kernel_rfl))) rfl) ?_
    refine fsteps_cons 10 rfl (fun a u hE hD hk => f_if (((rng c.tr 0 31) && (rng c.firm 0 7))) rfl rfl rfl (hD 8 11 (by kernel_rfl)) (fun hb => f_val (o := ⟨some 12, _, _, _, _, _⟩) (.pointer (some ⟨g, 1, none⟩)) rfl (wanted_b rfl rfl (hD 8 11 (by kernel_rfl)) (eq_true_of hb)) (exec_fld 29 1 1 (.tmp 1) (g) rfl (hE 1 (.pointer (some ⟨g, 0, none⟩)) (by kernel_rfl) (by kernel_rfl)) (by kernel_rfl)) rfl)) ?_
    refine fsteps_cons 11 rfl (fun a u hE hD hk => f_if (((rng c.tr 0 31) && (rng c.firm 0 7))) rfl rfl rfl (hD 8 11 (by kernel_rfl)) (fun hb => f_val (o := ⟨some 13, _, _, _, _, _⟩) (.int .i64 c.id) rfl (wanted_b rfl rfl (hD 8 11 (by kernel_rfl)) (eq_true_of hb)) (exec_loadi 3 Try.underlying3 (.tmp 12) ⟨g, 1, none⟩ (.int .i64 c.id) rfl ((hD 9 12 (by kernel_rfl)).1 hb) ((HB0.out.kept hk).fld 1 _ rfl)) rfl)) ?_
    refine fsteps_cons 12 rfl (fun a u hE hD hk => f_if (((rng c.tr 0 31) && (rng c.firm 0 7))) rfl rfl rfl (hD 8 11 (by kernel_rfl)) (fun hb => f_call (o := ⟨some 14, _, _, _, _, _⟩) 44 #[.int .i64 c.id, .int .i64 0, .int .i64 1073741824] rfl (wanted_b rfl rfl (hD 8 11 (by kernel_rfl)) (eq_true_of hb)) (exec_call 44 _ [.tmp 13, .const (.int .i64 0), .const (.int .i64 1073741824)] _ [.int .i64 c.id, .int .i64 0, .int .i64 1073741824] Try.func44 (by kernel_rfl) (by kernel_rfl) rfl (show [a.eval (.tmp 13), a.eval (.const (.int .i64 0)), a.eval (.const (.int .i64 1073741824))] = [.int .i64 c.id, .int .i64 0, .int .i64 1073741824] from (by rw [show a.eval (.tmp 13) = .int .i64 c.id from ((hD 10 13 (by kernel_rfl)).1 hb)] <;> rfl)) u) (owithin_any _ _ _ u))) ?_
    refine fsteps_cons 13 rfl (fun a u hE hD hk => f_val (o := ⟨some 15, _, _, _, _, _⟩) (.bool (((rng c.tr 0 31) && (rng c.firm 0 7)) && (rng c.id 0 1073741824))) rfl (wanted_none rfl _) (exec_pickand (.tmp 11) (.tmp 14) (.const (.bool false)) (((rng c.tr 0 31) && (rng c.firm 0 7))) ((rng c.id 0 1073741824)) rfl (hD 8 11 (by kernel_rfl)) (fun hb2 => ((hD 11 14 (by kernel_rfl)).1 hb2)) rfl) rfl) ?_
    exact fsteps_nil
  intro gv w1 hV k1
  rw [show dstsOf _ 13 = [3, 4, 5, 6, 7, 8, 9, 10, 11, 12, 13, 14, 15] by kernel_rfl]
  simp only [List.foldl_cons, List.foldl_nil, List.setIfInBounds_toArray, List.set_cons_succ, List.set_cons_zero, List.drop_succ_cons, List.drop_zero]
  rw [show gv 15 = .bool (((rng c.tr 0 31) && (rng c.firm 0 7)) && (rng c.id 0 1073741824)) from hV 12 15 (by kernel_rfl)]
  clear hV
  go_wp2
  go_ret
  exact ⟨_, rfl, rfl, kw0.trans k1⟩

set_option maxRecDepth 100000 in
set_option maxHeartbeats 800000 in
theorem isOfApi_any (c : Ord) (w : World) : Gives 36 #[c.v] w (.eq (.bool c.ofApi)) := by
  unfold Gives Ord.v
  have HT : Hid True := trivial
  have HB0 : Hid (Blk (w.alloc (.cells c.cells.toArray 29)) w.heap.size 29 c.cells) := Blk.new w _ _
  have kw0 : Kept w (w.alloc (.cells c.cells.toArray 29)) := (Keep.refl _ w).alloc _
  go_enter Try.func36, Try.ntmps36
  go_upto_region 1 with fail
  generalize w.alloc (.cells c.cells.toArray 29) = w0 at HB0 kw0 ⊢
  generalize w.heap.size = g at HB0 ⊢
  refine wp_text 8 [.eq (.pointer (some ⟨g, 3, none⟩)), .eq (.int .i64 c.side), .eq (.bool (rng c.side 1 2)), .eq (.bool (rng c.side 1 2)), .cond (rng c.side 1 2) (.eq (.pointer (some ⟨g, 4, none⟩))), .cond (rng c.side 1 2) (.eq (.int .i64 c.k)), .cond (rng c.side 1 2) (.eq (.bool (rng c.k 1 5))), .eq (.bool ((rng c.side 1 2) && (rng c.k 1 5)))] rfl (by kernel_rfl) ?_ ?_
  · refine fsteps_cons 1 rfl (fun a u hE hD hk => f_val (o := ⟨some 3, _, _, _, _, _⟩) (.pointer (some ⟨g, 3, none⟩)) rfl (wanted_none rfl _) (exec_fld 29 3 3 (.tmp 1) (g) rfl (hE 1 (.pointer (some ⟨g, 0, none⟩)) (by kernel_rfl) (by kernel_rfl)) (by kernel_rfl)) rfl) ?_
    refine fsteps_cons 2 rfl (fun a u hE hD hk => f_val (o := ⟨some 4, _, _, _, _, _⟩) (.int .i64 c.side) rfl (wanted_none rfl _) (exec_loadi 3 Try.underlying3 (.tmp 3) ⟨g, 3, none⟩ (.int .i64 c.side) rfl (hD 0 3 (by kernel_rfl)) ((HB0.out.kept hk).fld 3 _ rfl)) rfl) ?_
    refine fsteps_cons 3 rfl (fun a u hE hD hk => f_call (o := ⟨some 5, _, _, _, _, _⟩) 44 #[.int .i64 c.side, .int .i64 1, .int .i64 2] rfl (wanted_none rfl _) (exec_call 44 _ [.tmp 4, .const (.int .i64 1), .const (.int .i64 2)] _ [.int .i64 c.side, .int .i64 1, .int .i64 2] Try.func44 (by kernel_rfl) (by kernel_rfl) rfl (show [a.eval (.tmp 4), a.eval (.const (.int .i64 1)), a.eval (.const (.int .i64 2))] = [.int .i64 c.side, .int .i64 1, .int .i64 2] from (by rw [show a.eval (.tmp 4) = .int .i64 c.side from (hD 1 4 (by kernel_rfl))] <;> rfl)) u) (owithin_any _ _ _ u)) ?_
    refine fsteps_cons 4 rfl (fun a u hE hD hk => f_val (o := ⟨some 6, _, _, _, _, _⟩) (.bool (rng c.side 1 2)) rfl (wanted_none rfl _) (exec_move (.tmp 5) (.bool (rng c.side 1 2)) rfl (hD 2 5 (by kernel_rfl))) rfl) ?_
    refine fsteps_cons 5 rfl (fun a u hE hD hk => f_if ((rng c.side 1 2)) rfl rfl rfl (hD 3 6 (by kernel_rfl)) (fun hb => f_val (o := ⟨some 7, _, _, _, _, _⟩) (.pointer (some ⟨g, 4, none⟩)) rfl (wanted_b rfl rfl (hD 3 6 (by kernel_rfl)) (eq_true_of hb)) (exec_fld 29 4 4 (.tmp 1) (g) rfl (hE 1 (.pointer (some ⟨g, 0, none⟩)) (by kernel_rfl) (by kernel_rfl)) (by kernel_rfl)) rfl)) ?_
    refine fsteps_cons 6 rfl (fun a u hE hD hk => f_if ((rng c.side 1 2)) rfl rfl rfl (hD 3 6 (by kernel_rfl)) (fun hb => f_val (o := ⟨some 8, _, _, _, _, _⟩) (.int .i64 c.k) rfl (wanted_b rfl rfl (hD 3 6 (by kernel_rfl)) (eq_true_of hb)) (exec_loadi 3 Try.underlying3 (.tmp 7) ⟨g, 4, none⟩ (.int .i64 c.k) rfl ((hD 4 7 (by kernel_rfl)).1 hb) ((HB0.out.kept hk).fld 4 _ rfl)) rfl)) ?_
    refine fsteps_cons 7 rfl (fun a u hE hD hk => f_if ((rng c.side 1 2)) rfl rfl rfl (hD 3 6 (by kernel_rfl)) (fun hb => f_call (o := ⟨some 9, _, _, _, _, _⟩) 44 #[.int .i64 c.k, .int .i64 1, .int .i64 5] rfl (wanted_b rfl rfl (hD 3 6 (by kernel_rfl)) (eq_true_of hb)) (exec_call 44 _ [.tmp 8, .const (.int .i64 1), .const (.int .i64 5)] _ [.int .i64 c.k, .int .i64 1, .int .i64 5] Try.func44 (by kernel_rfl) (by kernel_rfl) rfl (show [a.eval (.tmp 8), a.eval (.const (.int .i64 1)), a.eval (.const (.int .i64 5))] = [.int .i64 c.k, .int .i64 1, .int .i64 5] from (by rw [show a.eval (.tmp 8) = .int .i64 c.k from ((hD 5 8 (by kernel_rfl)).1 hb)] <;> rfl)) u) (owithin_any _ _ _ u))) ?_
    refine fsteps_cons 8 rfl (fun a u hE hD hk => f_val (o := ⟨some 10, _, _, _, _, _⟩) (.bool ((rng c.side 1 2) && (rng c.k 1 5))) rfl (wanted_none rfl _) (exec_pickand (.tmp 6) (.tmp 9) (.const (.bool false)) ((rng c.side 1 2)) ((rng c.k 1 5)) rfl (hD 3 6 (by kernel_rfl)) (fun hb2 => ((hD 6 9 (by kernel_rfl)).1 hb2)) rfl) rfl) ?_
    exact fsteps_nil
  intro gv w1 hV k1
  rw [show dstsOf _ 8 = [3, 4, 5, 6, 7, 8, 9, 10] by kernel_rfl]
  simp only [List.foldl_cons, List.foldl_nil, List.setIfInBounds_toArray, List.set_cons_succ, List.set_cons_zero, List.drop_succ_cons, List.drop_zero]
  rw [show gv 10 = .bool ((rng c.side 1 2) && (rng c.k 1 5)) from hV 7 10 (by kernel_rfl)]
  clear hV
  go_wp2
  go_ret
  exact ⟨_, rfl, rfl, kw0.trans k1⟩

set_option maxRecDepth 100000 in
set_option maxHeartbeats 800000 in
theorem mostShown_t (c : Ord) (hb1 : (decide (c.k = 1) || decide (c.k = 5)) = true) (w : World) : Gives 45 #[c.v] w (.eq (.int .i64 c.qty)) := by
  unfold Gives Ord.v
  have HT : Hid True := trivial
  have HB0 : Hid (Blk (w.alloc (.cells c.cells.toArray 29)) w.heap.size 29 c.cells) := Blk.new w _ _
  have kw0 : Kept w (w.alloc (.cells c.cells.toArray 29)) := (Keep.refl _ w).alloc _
  go_enter Try.func45, Try.ntmps45
  go_upto_region 1 with fail
  generalize w.alloc (.cells c.cells.toArray 29) = w0 at HB0 kw0 ⊢
  generalize w.heap.size = g at HB0 ⊢
  refine wp_text 8 [.eq (.pointer (some ⟨g, 4, none⟩)), .eq (.int .i64 c.k), .eq (.bool (decide ((c.k : Int) = (1 : Int)))), .eq (.bool (decide ((c.k : Int) = (1 : Int)))), .cond (!(decide ((c.k : Int) = (1 : Int)))) (.eq (.pointer (some ⟨g, 4, none⟩))), .cond (!(decide ((c.k : Int) = (1 : Int)))) (.eq (.int .i64 c.k)), .cond (!(decide ((c.k : Int) = (1 : Int)))) (.eq (.bool (decide ((c.k : Int) = (5 : Int))))), .eq (.bool true)] rfl (by kernel_rfl) ?_ ?_
  · refine fsteps_cons 1 rfl (fun a u hE hD hk => f_val (o := ⟨some 3, _, _, _, _, _⟩) (.pointer (some ⟨g, 4, none⟩)) rfl (wanted_none rfl _) (exec_fld 29 4 4 (.tmp 1) (g) rfl (hE 1 (.pointer (some ⟨g, 0, none⟩)) (by kernel_rfl) (by kernel_rfl)) (by kernel_rfl)) rfl) ?_
    refine fsteps_cons 2 rfl (fun a u hE hD hk => f_val (o := ⟨some 4, _, _, _, _, _⟩) (.int .i64 c.k) rfl (wanted_none rfl _) (exec_loadi 3 Try.underlying3 (.tmp 3) ⟨g, 4, none⟩ (.int .i64 c.k) rfl (hD 0 3 (by kernel_rfl)) ((HB0.out.kept hk).fld 4 _ rfl)) rfl) ?_
    refine fsteps_cons 3 rfl (fun a u hE hD hk => f_val (o := ⟨some 5, _, _, _, _, _⟩) (.bool (decide ((c.k : Int) = (1 : Int)))) rfl (wanted_none rfl _) (exec_eqn (p := c.k) (q := 1) rfl (hD 1 4 (by kernel_rfl)) rfl) rfl) ?_
    refine fsteps_cons 4 rfl (fun a u hE hD hk => f_val (o := ⟨some 6, _, _, _, _, _⟩) (.bool (decide ((c.k : Int) = (1 : Int)))) rfl (wanted_none rfl _) (exec_move (.tmp 5) (.bool (decide ((c.k : Int) = (1 : Int)))) rfl (hD 2 5 (by kernel_rfl))) rfl) ?_
    refine fsteps_cons 5 rfl (fun a u hE hD hk => f_unless ((decide ((c.k : Int) = (1 : Int)))) rfl rfl rfl (hD 3 6 (by kernel_rfl)) (fun hb => f_val (o := ⟨some 7, _, _, _, _, _⟩) (.pointer (some ⟨g, 4, none⟩)) rfl (wanted_b rfl rfl (hD 3 6 (by kernel_rfl)) (eq_false_of hb)) (exec_fld 29 4 4 (.tmp 1) (g) rfl (hE 1 (.pointer (some ⟨g, 0, none⟩)) (by kernel_rfl) (by kernel_rfl)) (by kernel_rfl)) rfl)) ?_
    refine fsteps_cons 6 rfl (fun a u hE hD hk => f_unless ((decide ((c.k : Int) = (1 : Int)))) rfl rfl rfl (hD 3 6 (by kernel_rfl)) (fun hb => f_val (o := ⟨some 8, _, _, _, _, _⟩) (.int .i64 c.k) rfl (wanted_b rfl rfl (hD 3 6 (by kernel_rfl)) (eq_false_of hb)) (exec_loadi 3 Try.underlying3 (.tmp 7) ⟨g, 4, none⟩ (.int .i64 c.k) rfl ((hD 4 7 (by kernel_rfl)).1 hb) ((HB0.out.kept hk).fld 4 _ rfl)) rfl)) ?_
    refine fsteps_cons 7 rfl (fun a u hE hD hk => f_unless ((decide ((c.k : Int) = (1 : Int)))) rfl rfl rfl (hD 3 6 (by kernel_rfl)) (fun hb => f_val (o := ⟨some 9, _, _, _, _, _⟩) (.bool (decide ((c.k : Int) = (5 : Int)))) rfl (wanted_b rfl rfl (hD 3 6 (by kernel_rfl)) (eq_false_of hb)) (exec_eqn (p := c.k) (q := 5) rfl ((hD 5 8 (by kernel_rfl)).1 hb) rfl) rfl)) ?_
    refine fsteps_cons 8 rfl (fun a u hE hD hk => f_as (show (((decide ((c.k : Int) = (1 : Int))) || (decide ((c.k : Int) = (5 : Int)))) : Bool) = true from hb1) (f_val (o := ⟨some 10, _, _, _, _, _⟩) (.bool ((decide ((c.k : Int) = (1 : Int))) || (decide ((c.k : Int) = (5 : Int))))) rfl (wanted_none rfl _) (exec_pickor (.tmp 6) (.const (.bool true)) (.tmp 9) ((decide ((c.k : Int) = (1 : Int)))) ((decide ((c.k : Int) = (5 : Int)))) rfl (hD 3 6 (by kernel_rfl)) rfl (fun hb2 => ((hD 6 9 (by kernel_rfl)).1 hb2))) rfl)) ?_
    exact fsteps_nil
  intro gv w1 hV k1
  rw [show dstsOf _ 8 = [3, 4, 5, 6, 7, 8, 9, 10] by kernel_rfl]
  simp only [List.foldl_cons, List.foldl_nil, List.setIfInBounds_toArray, List.set_cons_succ, List.set_cons_zero, List.drop_succ_cons, List.drop_zero]
  rw [show gv 10 = .bool true from hV 7 10 (by kernel_rfl)]
  clear hV
  refine wpList_nil ?_
  have HB1 := Lib.hid (HB0.out.kept k1)
  have kw1 := kw0.trans k1
  clear k1 kw0
  go_upto_region 2 with fail
  refine wp_text 2 [.eq (.pointer (some ⟨g, 6, none⟩)), .eq (.int .i64 c.qty)] rfl (by kernel_rfl) ?_ ?_
  · refine fsteps_cons 1 rfl (fun a u hE hD hk => f_val (o := ⟨some 11, _, _, _, _, _⟩) (.pointer (some ⟨g, 6, none⟩)) rfl (wanted_none rfl _) (exec_fld 29 6 6 (.tmp 1) (g) rfl (hE 1 (.pointer (some ⟨g, 0, none⟩)) (by kernel_rfl) (by kernel_rfl)) (by kernel_rfl)) rfl) ?_
    refine fsteps_cons 2 rfl (fun a u hE hD hk => f_val (o := ⟨some 12, _, _, _, _, _⟩) (.int .i64 c.qty) rfl (wanted_none rfl _) (exec_loadi 3 Try.underlying3 (.tmp 11) ⟨g, 6, none⟩ (.int .i64 c.qty) rfl (hD 0 11 (by kernel_rfl)) ((HB1.out.kept hk).fld 6 _ rfl)) rfl) ?_
    exact fsteps_nil
  intro gv w2 hV k2
  rw [show dstsOf _ 2 = [11, 12] by kernel_rfl]
  simp only [List.foldl_cons, List.foldl_nil, List.setIfInBounds_toArray, List.set_cons_succ, List.set_cons_zero, List.drop_succ_cons, List.drop_zero]
  rw [show gv 12 = .int .i64 c.qty from hV 1 12 (by kernel_rfl)]
  clear hV
  have HB2 := Lib.hid (HB1.out.kept k2)
  have kw2 := kw1.trans k2
  clear k2 kw1
  go_wp2
  go_ret
  exact ⟨_, rfl, rfl, kw2⟩

set_option maxRecDepth 100000 in
set_option maxHeartbeats 800000 in
theorem mostShown_f (c : Ord) (hb1 : (decide (c.k = 1) || decide (c.k = 5)) = false) (w : World) : Gives 45 #[c.v] w (.eq (.int .i64 0)) := by
  unfold Gives Ord.v
  have HT : Hid True := trivial
  have HB0 : Hid (Blk (w.alloc (.cells c.cells.toArray 29)) w.heap.size 29 c.cells) := Blk.new w _ _
  have kw0 : Kept w (w.alloc (.cells c.cells.toArray 29)) := (Keep.refl _ w).alloc _
  go_enter Try.func45, Try.ntmps45
  go_upto_region 1 with fail
  generalize w.alloc (.cells c.cells.toArray 29) = w0 at HB0 kw0 ⊢
  generalize w.heap.size = g at HB0 ⊢
  refine wp_text 8 [.eq (.pointer (some ⟨g, 4, none⟩)), .eq (.int .i64 c.k), .eq (.bool (decide ((c.k : Int) = (1 : Int)))), .eq (.bool (decide ((c.k : Int) = (1 : Int)))), .cond (!(decide ((c.k : Int) = (1 : Int)))) (.eq (.pointer (some ⟨g, 4, none⟩))), .cond (!(decide ((c.k : Int) = (1 : Int)))) (.eq (.int .i64 c.k)), .cond (!(decide ((c.k : Int) = (1 : Int)))) (.eq (.bool (decide ((c.k : Int) = (5 : Int))))), .eq (.bool false)] rfl (by kernel_rfl) ?_ ?_
  · refine fsteps_cons 1 rfl (fun a u hE hD hk => f_val (o := ⟨some 3, _, _, _, _, _⟩) (.pointer (some ⟨g, 4, none⟩)) rfl (wanted_none rfl _) (exec_fld 29 4 4 (.tmp 1) (g) rfl (hE 1 (.pointer (some ⟨g, 0, none⟩)) (by kernel_rfl) (by kernel_rfl)) (by kernel_rfl)) rfl) ?_
    refine fsteps_cons 2 rfl (fun a u hE hD hk => f_val (o := ⟨some 4, _, _, _, _, _⟩) (.int .i64 c.k) rfl (wanted_none rfl _) (exec_loadi 3 Try.underlying3 (.tmp 3) ⟨g, 4, none⟩ (.int .i64 c.k) rfl (hD 0 3 (by kernel_rfl)) ((HB0.out.kept hk).fld 4 _ rfl)) rfl) ?_
    refine fsteps_cons 3 rfl (fun a u hE hD hk => f_val (o := ⟨some 5, _, _, _, _, _⟩) (.bool (decide ((c.k : Int) = (1 : Int)))) rfl (wanted_none rfl _) (exec_eqn (p := c.k) (q := 1) rfl (hD 1 4 (by kernel_rfl)) rfl) rfl) ?_
    refine fsteps_cons 4 rfl (fun a u hE hD hk => f_val (o := ⟨some 6, _, _, _, _, _⟩) (.bool (decide ((c.k : Int) = (1 : Int)))) rfl (wanted_none rfl _) (exec_move (.tmp 5) (.bool (decide ((c.k : Int) = (1 : Int)))) rfl (hD 2 5 (by kernel_rfl))) rfl) ?_
    refine fsteps_cons 5 rfl (fun a u hE hD hk => f_unless ((decide ((c.k : Int) = (1 : Int)))) rfl rfl rfl (hD 3 6 (by kernel_rfl)) (fun hb => f_val (o := ⟨some 7, _, _, _, _, _⟩) (.pointer (some ⟨g, 4, none⟩)) rfl (wanted_b rfl rfl (hD 3 6 (by kernel_rfl)) (eq_false_of hb)) (exec_fld 29 4 4 (.tmp 1) (g) rfl (hE 1 (.pointer (some ⟨g, 0, none⟩)) (by kernel_rfl) (by kernel_rfl)) (by kernel_rfl)) rfl)) ?_
    refine fsteps_cons 6 rfl (fun a u hE hD hk => f_unless ((decide ((c.k : Int) = (1 : Int)))) rfl rfl rfl (hD 3 6 (by kernel_rfl)) (fun hb => f_val (o := ⟨some 8, _, _, _, _, _⟩) (.int .i64 c.k) rfl (wanted_b rfl rfl (hD 3 6 (by kernel_rfl)) (eq_false_of hb)) (exec_loadi 3 Try.underlying3 (.tmp 7) ⟨g, 4, none⟩ (.int .i64 c.k) rfl ((hD 4 7 (by kernel_rfl)).1 hb) ((HB0.out.kept hk).fld 4 _ rfl)) rfl)) ?_
    refine fsteps_cons 7 rfl (fun a u hE hD hk => f_unless ((decide ((c.k : Int) = (1 : Int)))) rfl rfl rfl (hD 3 6 (by kernel_rfl)) (fun hb => f_val (o := ⟨some 9, _, _, _, _, _⟩) (.bool (decide ((c.k : Int) = (5 : Int)))) rfl (wanted_b rfl rfl (hD 3 6 (by kernel_rfl)) (eq_false_of hb)) (exec_eqn (p := c.k) (q := 5) rfl ((hD 5 8 (by kernel_rfl)).1 hb) rfl) rfl)) ?_
    refine fsteps_cons 8 rfl (fun a u hE hD hk => f_as (show (((decide ((c.k : Int) = (1 : Int))) || (decide ((c.k : Int) = (5 : Int)))) : Bool) = false from hb1) (f_val (o := ⟨some 10, _, _, _, _, _⟩) (.bool ((decide ((c.k : Int) = (1 : Int))) || (decide ((c.k : Int) = (5 : Int))))) rfl (wanted_none rfl _) (exec_pickor (.tmp 6) (.const (.bool true)) (.tmp 9) ((decide ((c.k : Int) = (1 : Int)))) ((decide ((c.k : Int) = (5 : Int)))) rfl (hD 3 6 (by kernel_rfl)) rfl (fun hb2 => ((hD 6 9 (by kernel_rfl)).1 hb2))) rfl)) ?_
    exact fsteps_nil
  intro gv w1 hV k1
  rw [show dstsOf _ 8 = [3, 4, 5, 6, 7, 8, 9, 10] by kernel_rfl]
  simp only [List.foldl_cons, List.foldl_nil, List.setIfInBounds_toArray, List.set_cons_succ, List.set_cons_zero, List.drop_succ_cons, List.drop_zero]
  rw [show gv 10 = .bool false from hV 7 10 (by kernel_rfl)]
  clear hV
  refine wpList_nil ?_
  have HB1 := Lib.hid (HB0.out.kept k1)
  have kw1 := kw0.trans k1
  clear k1 kw0
  go_wp2
  go_ret
  exact ⟨_, rfl, rfl, kw1⟩

theorem mostShown_any (c : Ord) (w : World) : Gives 45 #[c.v] w (.eq (.int .i64 c.shown)) := by
  unfold Ord.shown
  by_cases h : c.k = 1 ∨ c.k = 5
  · rw [if_pos h]
    exact mostShown_t c (by simpa using h) w
  · rw [if_neg h]
    exact mostShown_f c (by simpa using h) w

set_option maxRecDepth 100000 in
set_option maxHeartbeats 800000 in
theorem hasPrices_s (c : Ord) (hS : rng c.stop 0 1048576 = false) (w : World) : Gives 37 #[c.v] w (.eq (.bool false)) := by
  unfold Gives Ord.v
  have HT : Hid True := trivial
  have HB0 : Hid (Blk (w.alloc (.cells c.cells.toArray 29)) w.heap.size 29 c.cells) := Blk.new w _ _
  have kw0 : Kept w (w.alloc (.cells c.cells.toArray 29)) := (Keep.refl _ w).alloc _
  go_enter Try.func37, Try.ntmps37
  go_upto_region 1 with fail
  generalize w.alloc (.cells c.cells.toArray 29) = w0 at HB0 kw0 ⊢
  generalize w.heap.size = g at HB0 ⊢
  refine wp_text 4 [.eq (.pointer (some ⟨g, 8, none⟩)), .eq (.int .i64 c.stop), .eq (.bool (rng c.stop 0 1048576)), .eq (.bool true)] rfl (by kernel_rfl) ?_ ?_
  · refine fsteps_cons 1 rfl (fun a u hE hD hk => f_val (o := ⟨some 3, _, _, _, _, _⟩) (.pointer (some ⟨g, 8, none⟩)) rfl (wanted_none rfl _) (exec_fld 29 8 8 (.tmp 1) (g) rfl (hE 1 (.pointer (some ⟨g, 0, none⟩)) (by kernel_rfl) (by kernel_rfl)) (by kernel_rfl)) rfl) ?_
    refine fsteps_cons 2 rfl (fun a u hE hD hk => f_val (o := ⟨some 4, _, _, _, _, _⟩) (.int .i64 c.stop) rfl (wanted_none rfl _) (exec_loadi 3 Try.underlying3 (.tmp 3) ⟨g, 8, none⟩ (.int .i64 c.stop) rfl (hD 0 3 (by kernel_rfl)) ((HB0.out.kept hk).fld 8 _ rfl)) rfl) ?_
    refine fsteps_cons 3 rfl (fun a u hE hD hk => f_call (o := ⟨some 5, _, _, _, _, _⟩) 44 #[.int .i64 c.stop, .int .i64 0, .int .i64 1048576] rfl (wanted_none rfl _) (exec_call 44 _ [.tmp 4, .const (.int .i64 0), .const (.int .i64 1048576)] _ [.int .i64 c.stop, .int .i64 0, .int .i64 1048576] Try.func44 (by kernel_rfl) (by kernel_rfl) rfl (show [a.eval (.tmp 4), a.eval (.const (.int .i64 0)), a.eval (.const (.int .i64 1048576))] = [.int .i64 c.stop, .int .i64 0, .int .i64 1048576] from (by rw [show a.eval (.tmp 4) = .int .i64 c.stop from (hD 1 4 (by kernel_rfl))] <;> rfl)) u) (owithin_any _ _ _ u)) ?_
    refine fsteps_cons 4 rfl (fun a u hE hD hk => f_as (show ((!(rng c.stop 0 1048576)) : Bool) = true from (by rw [hS]; rfl)) (f_val (o := ⟨some 6, _, _, _, _, _⟩) (.bool (!(rng c.stop 0 1048576))) rfl (wanted_none rfl _) (exec_not _ (.tmp 5) (rng c.stop 0 1048576) rfl (hD 2 5 (by kernel_rfl))) rfl)) ?_
    exact fsteps_nil
  intro gv w1 hV k1
  rw [show dstsOf _ 4 = [3, 4, 5, 6] by kernel_rfl]
  simp only [List.foldl_cons, List.foldl_nil, List.setIfInBounds_toArray, List.set_cons_succ, List.set_cons_zero, List.drop_succ_cons, List.drop_zero]
  rw [show gv 6 = .bool true from hV 3 6 (by kernel_rfl)]
  clear hV
  refine wpList_nil ?_
  have HB1 := Lib.hid (HB0.out.kept k1)
  have kw1 := kw0.trans k1
  clear k1 kw0
  go_wp2
  go_ret
  exact ⟨_, rfl, rfl, kw1⟩

set_option maxRecDepth 100000 in
set_option maxHeartbeats 800000 in
theorem hasPrices_m (c : Ord) (hS : rng c.stop 0 1048576 = true) (hK : decide (c.k = 2) = true) (w : World) : Gives 37 #[c.v] w (.eq (.bool (decide (c.price = 0)))) := by
  unfold Gives Ord.v
  have HT : Hid True := trivial
  have HB0 : Hid (Blk (w.alloc (.cells c.cells.toArray 29)) w.heap.size 29 c.cells) := Blk.new w _ _
  have kw0 : Kept w (w.alloc (.cells c.cells.toArray 29)) := (Keep.refl _ w).alloc _
  go_enter Try.func37, Try.ntmps37
  go_upto_region 1 with fail
  generalize w.alloc (.cells c.cells.toArray 29) = w0 at HB0 kw0 ⊢
  generalize w.heap.size = g at HB0 ⊢
  refine wp_text 4 [.eq (.pointer (some ⟨g, 8, none⟩)), .eq (.int .i64 c.stop), .eq (.bool (rng c.stop 0 1048576)), .eq (.bool false)] rfl (by kernel_rfl) ?_ ?_
  · refine fsteps_cons 1 rfl (fun a u hE hD hk => f_val (o := ⟨some 3, _, _, _, _, _⟩) (.pointer (some ⟨g, 8, none⟩)) rfl (wanted_none rfl _) (exec_fld 29 8 8 (.tmp 1) (g) rfl (hE 1 (.pointer (some ⟨g, 0, none⟩)) (by kernel_rfl) (by kernel_rfl)) (by kernel_rfl)) rfl) ?_
    refine fsteps_cons 2 rfl (fun a u hE hD hk => f_val (o := ⟨some 4, _, _, _, _, _⟩) (.int .i64 c.stop) rfl (wanted_none rfl _) (exec_loadi 3 Try.underlying3 (.tmp 3) ⟨g, 8, none⟩ (.int .i64 c.stop) rfl (hD 0 3 (by kernel_rfl)) ((HB0.out.kept hk).fld 8 _ rfl)) rfl) ?_
    refine fsteps_cons 3 rfl (fun a u hE hD hk => f_call (o := ⟨some 5, _, _, _, _, _⟩) 44 #[.int .i64 c.stop, .int .i64 0, .int .i64 1048576] rfl (wanted_none rfl _) (exec_call 44 _ [.tmp 4, .const (.int .i64 0), .const (.int .i64 1048576)] _ [.int .i64 c.stop, .int .i64 0, .int .i64 1048576] Try.func44 (by kernel_rfl) (by kernel_rfl) rfl (show [a.eval (.tmp 4), a.eval (.const (.int .i64 0)), a.eval (.const (.int .i64 1048576))] = [.int .i64 c.stop, .int .i64 0, .int .i64 1048576] from (by rw [show a.eval (.tmp 4) = .int .i64 c.stop from (hD 1 4 (by kernel_rfl))] <;> rfl)) u) (owithin_any _ _ _ u)) ?_
    refine fsteps_cons 4 rfl (fun a u hE hD hk => f_as (show ((!(rng c.stop 0 1048576)) : Bool) = false from (by rw [hS]; rfl)) (f_val (o := ⟨some 6, _, _, _, _, _⟩) (.bool (!(rng c.stop 0 1048576))) rfl (wanted_none rfl _) (exec_not _ (.tmp 5) (rng c.stop 0 1048576) rfl (hD 2 5 (by kernel_rfl))) rfl)) ?_
    exact fsteps_nil
  intro gv w1 hV k1
  rw [show dstsOf _ 4 = [3, 4, 5, 6] by kernel_rfl]
  simp only [List.foldl_cons, List.foldl_nil, List.setIfInBounds_toArray, List.set_cons_succ, List.set_cons_zero, List.drop_succ_cons, List.drop_zero]
  rw [show gv 6 = .bool false from hV 3 6 (by kernel_rfl)]
  clear hV
  refine wpList_nil ?_
  have HB1 := Lib.hid (HB0.out.kept k1)
  have kw1 := kw0.trans k1
  clear k1 kw0
  go_upto_region 3 with fail
  refine wp_text 3 [.eq (.pointer (some ⟨g, 4, none⟩)), .eq (.int .i64 c.k), .eq (.bool true)] rfl (by kernel_rfl) ?_ ?_
  · refine fsteps_cons 1 rfl (fun a u hE hD hk => f_val (o := ⟨some 7, _, _, _, _, _⟩) (.pointer (some ⟨g, 4, none⟩)) rfl (wanted_none rfl _) (exec_fld 29 4 4 (.tmp 1) (g) rfl (hE 1 (.pointer (some ⟨g, 0, none⟩)) (by kernel_rfl) (by kernel_rfl)) (by kernel_rfl)) rfl) ?_
    refine fsteps_cons 2 rfl (fun a u hE hD hk => f_val (o := ⟨some 8, _, _, _, _, _⟩) (.int .i64 c.k) rfl (wanted_none rfl _) (exec_loadi 3 Try.underlying3 (.tmp 7) ⟨g, 4, none⟩ (.int .i64 c.k) rfl (hD 0 7 (by kernel_rfl)) ((HB1.out.kept hk).fld 4 _ rfl)) rfl) ?_
    refine fsteps_cons 3 rfl (fun a u hE hD hk => f_as (show ((decide ((c.k : Int) = (2 : Int))) : Bool) = true from hK) (f_val (o := ⟨some 9, _, _, _, _, _⟩) (.bool (decide ((c.k : Int) = (2 : Int)))) rfl (wanted_none rfl _) (exec_eqn (p := c.k) (q := 2) rfl (hD 1 8 (by kernel_rfl)) rfl) rfl)) ?_
    exact fsteps_nil
  intro gv w2 hV k2
  rw [show dstsOf _ 3 = [7, 8, 9] by kernel_rfl]
  simp only [List.foldl_cons, List.foldl_nil, List.setIfInBounds_toArray, List.set_cons_succ, List.set_cons_zero, List.drop_succ_cons, List.drop_zero]
  rw [show gv 9 = .bool true from hV 2 9 (by kernel_rfl)]
  clear hV
  refine wpList_nil ?_
  have HB2 := Lib.hid (HB1.out.kept k2)
  have kw2 := kw1.trans k2
  clear k2 kw1
  go_upto_region 4 with fail
  refine wp_text 3 [.eq (.pointer (some ⟨g, 5, none⟩)), .eq (.int .i64 c.price), .eq (.bool (decide ((c.price : Int) = (0 : Int))))] rfl (by kernel_rfl) ?_ ?_
  · refine fsteps_cons 1 rfl (fun a u hE hD hk => f_val (o := ⟨some 10, _, _, _, _, _⟩) (.pointer (some ⟨g, 5, none⟩)) rfl (wanted_none rfl _) (exec_fld 29 5 5 (.tmp 1) (g) rfl (hE 1 (.pointer (some ⟨g, 0, none⟩)) (by kernel_rfl) (by kernel_rfl)) (by kernel_rfl)) rfl) ?_
    refine fsteps_cons 2 rfl (fun a u hE hD hk => f_val (o := ⟨some 11, _, _, _, _, _⟩) (.int .i64 c.price) rfl (wanted_none rfl _) (exec_loadi 3 Try.underlying3 (.tmp 10) ⟨g, 5, none⟩ (.int .i64 c.price) rfl (hD 0 10 (by kernel_rfl)) ((HB2.out.kept hk).fld 5 _ rfl)) rfl) ?_
    refine fsteps_cons 3 rfl (fun a u hE hD hk => f_val (o := ⟨some 12, _, _, _, _, _⟩) (.bool (decide ((c.price : Int) = (0 : Int)))) rfl (wanted_none rfl _) (exec_eqn (p := c.price) (q := 0) rfl (hD 1 11 (by kernel_rfl)) rfl) rfl) ?_
    exact fsteps_nil
  intro gv w3 hV k3
  rw [show dstsOf _ 3 = [10, 11, 12] by kernel_rfl]
  simp only [List.foldl_cons, List.foldl_nil, List.setIfInBounds_toArray, List.set_cons_succ, List.set_cons_zero, List.drop_succ_cons, List.drop_zero]
  rw [show gv 12 = .bool (decide ((c.price : Int) = (0 : Int))) from hV 2 12 (by kernel_rfl)]
  clear hV
  have HB3 := Lib.hid (HB2.out.kept k3)
  have kw3 := kw2.trans k3
  clear k3 kw2
  go_wp2
  go_ret
  exact ⟨_, rfl, rfl, kw3⟩

set_option maxRecDepth 100000 in
set_option maxHeartbeats 800000 in
theorem hasPrices_o (c : Ord) (hS : rng c.stop 0 1048576 = true) (hK : decide (c.k = 2) = false) (w : World) : Gives 37 #[c.v] w (.eq (.bool (rng c.price 1 1048576))) := by
  unfold Gives Ord.v
  have HT : Hid True := trivial
  have HB0 : Hid (Blk (w.alloc (.cells c.cells.toArray 29)) w.heap.size 29 c.cells) := Blk.new w _ _
  have kw0 : Kept w (w.alloc (.cells c.cells.toArray 29)) := (Keep.refl _ w).alloc _
  go_enter Try.func37, Try.ntmps37
  go_upto_region 1 with fail
  generalize w.alloc (.cells c.cells.toArray 29) = w0 at HB0 kw0 ⊢
  generalize w.heap.size = g at HB0 ⊢
  refine wp_text 4 [.eq (.pointer (some ⟨g, 8, none⟩)), .eq (.int .i64 c.stop), .eq (.bool (rng c.stop 0 1048576)), .eq (.bool false)] rfl (by kernel_rfl) ?_ ?_
  · refine fsteps_cons 1 rfl (fun a u hE hD hk => f_val (o := ⟨some 3, _, _, _, _, _⟩) (.pointer (some ⟨g, 8, none⟩)) rfl (wanted_none rfl _) (exec_fld 29 8 8 (.tmp 1) (g) rfl (hE 1 (.pointer (some ⟨g, 0, none⟩)) (by kernel_rfl) (by kernel_rfl)) (by kernel_rfl)) rfl) ?_
    refine fsteps_cons 2 rfl (fun a u hE hD hk => f_val (o := ⟨some 4, _, _, _, _, _⟩) (.int .i64 c.stop) rfl (wanted_none rfl _) (exec_loadi 3 Try.underlying3 (.tmp 3) ⟨g, 8, none⟩ (.int .i64 c.stop) rfl (hD 0 3 (by kernel_rfl)) ((HB0.out.kept hk).fld 8 _ rfl)) rfl) ?_
    refine fsteps_cons 3 rfl (fun a u hE hD hk => f_call (o := ⟨some 5, _, _, _, _, _⟩) 44 #[.int .i64 c.stop, .int .i64 0, .int .i64 1048576] rfl (wanted_none rfl _) (exec_call 44 _ [.tmp 4, .const (.int .i64 0), .const (.int .i64 1048576)] _ [.int .i64 c.stop, .int .i64 0, .int .i64 1048576] Try.func44 (by kernel_rfl) (by kernel_rfl) rfl (show [a.eval (.tmp 4), a.eval (.const (.int .i64 0)), a.eval (.const (.int .i64 1048576))] = [.int .i64 c.stop, .int .i64 0, .int .i64 1048576] from (by rw [show a.eval (.tmp 4) = .int .i64 c.stop from (hD 1 4 (by kernel_rfl))] <;> rfl)) u) (owithin_any _ _ _ u)) ?_
    refine fsteps_cons 4 rfl (fun a u hE hD hk => f_as (show ((!(rng c.stop 0 1048576)) : Bool) = false from (by rw [hS]; rfl)) (f_val (o := ⟨some 6, _, _, _, _, _⟩) (.bool (!(rng c.stop 0 1048576))) rfl (wanted_none rfl _) (exec_not _ (.tmp 5) (rng c.stop 0 1048576) rfl (hD 2 5 (by kernel_rfl))) rfl)) ?_
    exact fsteps_nil
  intro gv w1 hV k1
  rw [show dstsOf _ 4 = [3, 4, 5, 6] by kernel_rfl]
  simp only [List.foldl_cons, List.foldl_nil, List.setIfInBounds_toArray, List.set_cons_succ, List.set_cons_zero, List.drop_succ_cons, List.drop_zero]
  rw [show gv 6 = .bool false from hV 3 6 (by kernel_rfl)]
  clear hV
  refine wpList_nil ?_
  have HB1 := Lib.hid (HB0.out.kept k1)
  have kw1 := kw0.trans k1
  clear k1 kw0
  go_upto_region 3 with fail
  refine wp_text 3 [.eq (.pointer (some ⟨g, 4, none⟩)), .eq (.int .i64 c.k), .eq (.bool false)] rfl (by kernel_rfl) ?_ ?_
  · refine fsteps_cons 1 rfl (fun a u hE hD hk => f_val (o := ⟨some 7, _, _, _, _, _⟩) (.pointer (some ⟨g, 4, none⟩)) rfl (wanted_none rfl _) (exec_fld 29 4 4 (.tmp 1) (g) rfl (hE 1 (.pointer (some ⟨g, 0, none⟩)) (by kernel_rfl) (by kernel_rfl)) (by kernel_rfl)) rfl) ?_
    refine fsteps_cons 2 rfl (fun a u hE hD hk => f_val (o := ⟨some 8, _, _, _, _, _⟩) (.int .i64 c.k) rfl (wanted_none rfl _) (exec_loadi 3 Try.underlying3 (.tmp 7) ⟨g, 4, none⟩ (.int .i64 c.k) rfl (hD 0 7 (by kernel_rfl)) ((HB1.out.kept hk).fld 4 _ rfl)) rfl) ?_
    refine fsteps_cons 3 rfl (fun a u hE hD hk => f_as (show ((decide ((c.k : Int) = (2 : Int))) : Bool) = false from hK) (f_val (o := ⟨some 9, _, _, _, _, _⟩) (.bool (decide ((c.k : Int) = (2 : Int)))) rfl (wanted_none rfl _) (exec_eqn (p := c.k) (q := 2) rfl (hD 1 8 (by kernel_rfl)) rfl) rfl)) ?_
    exact fsteps_nil
  intro gv w2 hV k2
  rw [show dstsOf _ 3 = [7, 8, 9] by kernel_rfl]
  simp only [List.foldl_cons, List.foldl_nil, List.setIfInBounds_toArray, List.set_cons_succ, List.set_cons_zero, List.drop_succ_cons, List.drop_zero]
  rw [show gv 9 = .bool false from hV 2 9 (by kernel_rfl)]
  clear hV
  refine wpList_nil ?_
  have HB2 := Lib.hid (HB1.out.kept k2)
  have kw2 := kw1.trans k2
  clear k2 kw1
  go_upto_region 5 with fail
  refine wp_text 3 [.eq (.pointer (some ⟨g, 5, none⟩)), .eq (.int .i64 c.price), .eq (.bool (rng c.price 1 1048576))] rfl (by kernel_rfl) ?_ ?_
  · refine fsteps_cons 1 rfl (fun a u hE hD hk => f_val (o := ⟨some 13, _, _, _, _, _⟩) (.pointer (some ⟨g, 5, none⟩)) rfl (wanted_none rfl _) (exec_fld 29 5 5 (.tmp 1) (g) rfl (hE 1 (.pointer (some ⟨g, 0, none⟩)) (by kernel_rfl) (by kernel_rfl)) (by kernel_rfl)) rfl) ?_
    refine fsteps_cons 2 rfl (fun a u hE hD hk => f_val (o := ⟨some 14, _, _, _, _, _⟩) (.int .i64 c.price) rfl (wanted_none rfl _) (exec_loadi 3 Try.underlying3 (.tmp 13) ⟨g, 5, none⟩ (.int .i64 c.price) rfl (hD 0 13 (by kernel_rfl)) ((HB2.out.kept hk).fld 5 _ rfl)) rfl) ?_
    refine fsteps_cons 3 rfl (fun a u hE hD hk => f_call (o := ⟨some 15, _, _, _, _, _⟩) 44 #[.int .i64 c.price, .int .i64 1, .int .i64 1048576] rfl (wanted_none rfl _) (exec_call 44 _ [.tmp 14, .const (.int .i64 1), .const (.int .i64 1048576)] _ [.int .i64 c.price, .int .i64 1, .int .i64 1048576] Try.func44 (by kernel_rfl) (by kernel_rfl) rfl (show [a.eval (.tmp 14), a.eval (.const (.int .i64 1)), a.eval (.const (.int .i64 1048576))] = [.int .i64 c.price, .int .i64 1, .int .i64 1048576] from (by rw [show a.eval (.tmp 14) = .int .i64 c.price from (hD 1 14 (by kernel_rfl))] <;> rfl)) u) (owithin_any _ _ _ u)) ?_
    exact fsteps_nil
  intro gv w3 hV k3
  rw [show dstsOf _ 3 = [13, 14, 15] by kernel_rfl]
  simp only [List.foldl_cons, List.foldl_nil, List.setIfInBounds_toArray, List.set_cons_succ, List.set_cons_zero, List.drop_succ_cons, List.drop_zero]
  rw [show gv 15 = .bool (rng c.price 1 1048576) from hV 2 15 (by kernel_rfl)]
  clear hV
  have HB3 := Lib.hid (HB2.out.kept k3)
  have kw3 := kw2.trans k3
  clear k3 kw2
  go_wp2
  go_ret
  exact ⟨_, rfl, rfl, kw3⟩

theorem hasPrices_any (c : Ord) (w : World) : Gives 37 #[c.v] w (.eq (.bool c.prices)) := by
  unfold Ord.prices
  cases hS : rng c.stop 0 1048576 with
  | false => exact hasPrices_s c hS w
  | true =>
    by_cases hK : c.k = 2
    · rw [if_pos hK]
      exact hasPrices_m c hS (by simpa using hK) w
    · rw [if_neg hK]
      exact hasPrices_o c hS (by simpa using hK) w

set_option maxRecDepth 100000 in
set_option maxHeartbeats 800000 in
theorem hasQuantities_any (c : Ord) (w : World) : Gives 38 #[c.v] w (.eq (.bool c.amounts)) := by
  unfold Gives Ord.v
  have HT : Hid True := trivial
  have HB0 : Hid (Blk (w.alloc (.cells c.cells.toArray 29)) w.heap.size 29 c.cells) := Blk.new w _ _
  have kw0 : Kept w (w.alloc (.cells c.cells.toArray 29)) := (Keep.refl _ w).alloc _
  go_enter Try.func38, Try.ntmps38
  go_upto_region 1 with fail
  generalize w.alloc (.cells c.cells.toArray 29) = w0 at HB0 kw0 ⊢
  generalize w.heap.size = g at HB0 ⊢
  refine wp_free 10 [.eq (.pointer (some ⟨g, 6, none⟩)), .eq (.int .i64 c.qty), .eq (.bool (rng c.qty 1 1048576)), .eq (.bool (rng c.qty 1 1048576)), .cond (rng c.qty 1 1048576) (.eq (.pointer (some ⟨g, 7, none⟩))), .cond (rng c.qty 1 1048576) (.eq (.int .i64 c.shw)), .cond (rng c.qty 1 1048576) (.eq (c.v)), .cond (rng c.qty 1 1048576) (.eq (.int .i64 c.shown)), .cond (rng c.qty 1 1048576) (.eq (.bool (rng c.shw 0 c.shown))), .eq (.bool ((rng c.qty 1 1048576) && (rng c.shw 0 c.shown)))] (by kernel_rfl) rfl (by kernel_rfl) ?_ ?_
  · refine fsteps_cons 1 rfl (fun a u hE hD hk => f_val (o := ⟨some 3, _, _, _, _, _⟩) (.pointer (some ⟨g, 6, none⟩)) rfl (wanted_none rfl _) (exec_fld 29 6 6 (.tmp 1) (g) rfl (hE 1 (.pointer (some ⟨g, 0, none⟩)) (by kernel_rfl) (by kernel_rfl)) (by kernel_rfl)) rfl) ?_
    refine fsteps_cons 2 rfl (fun a u hE hD hk => f_val (o := ⟨some 4, _, _, _, _, _⟩) (.int .i64 c.qty) rfl (wanted_none rfl _) (exec_loadi 3 Try.underlying3 (.tmp 3) ⟨g, 6, none⟩ (.int .i64 c.qty) rfl (hD 0 3 (by kernel_rfl)) ((HB0.out.kept hk).fld 6 _ rfl)) rfl) ?_
    refine fsteps_cons 3 rfl (fun a u hE hD hk => f_call (o := ⟨some 5, _, _, _, _, _⟩) 44 #[.int .i64 c.qty, .int .i64 1, .int .i64 1048576] rfl (wanted_none rfl _) (exec_call 44 _ [.tmp 4, .const (.int .i64 1), .const (.int .i64 1048576)] _ [.int .i64 c.qty, .int .i64 1, .int .i64 1048576] Try.func44 (by kernel_rfl) (by kernel_rfl) rfl (show [a.eval (.tmp 4), a.eval (.const (.int .i64 1)), a.eval (.const (.int .i64 1048576))] = [.int .i64 c.qty, .int .i64 1, .int .i64 1048576] from (by rw [show a.eval (.tmp 4) = .int .i64 c.qty from (hD 1 4 (by kernel_rfl))] <;> rfl)) u) (owithin_any _ _ _ u)) ?_
    refine fsteps_cons 4 rfl (fun a u hE hD hk => f_val (o := ⟨some 6, _, _, _, _, _⟩) (.bool (rng c.qty 1 1048576)) rfl (wanted_none rfl _) (exec_move (.tmp 5) (.bool (rng c.qty 1 1048576)) rfl (hD 2 5 (by kernel_rfl))) rfl) ?_
    refine fsteps_cons 5 rfl (fun a u hE hD hk => f_if ((rng c.qty 1 1048576)) rfl rfl rfl (hD 3 6 (by kernel_rfl)) (fun hb => f_val (o := ⟨some 7, _, _, _, _, _⟩) (.pointer (some ⟨g, 7, none⟩)) rfl (wanted_b rfl rfl (hD 3 6 (by kernel_rfl)) (eq_true_of hb)) (exec_fld 29 7 7 (.tmp 1) (g) rfl (hE 1 (.pointer (some ⟨g, 0, none⟩)) (by kernel_rfl) (by kernel_rfl)) (by kernel_rfl)) rfl)) ?_
    refine fsteps_cons 6 rfl (fun a u hE hD hk => f_if ((rng c.qty 1 1048576)) rfl rfl rfl (hD 3 6 (by kernel_rfl)) (fun hb => f_val (o := ⟨some 8, _, _, _, _, _⟩) (.int .i64 c.shw) rfl (wanted_b rfl rfl (hD 3 6 (by kernel_rfl)) (eq_true_of hb)) (exec_loadi 3 Try.underlying3 (.tmp 7) ⟨g, 7, none⟩ (.int .i64 c.shw) rfl ((hD 4 7 (by kernel_rfl)).1 hb) ((HB0.out.kept hk).fld 7 _ rfl)) rfl)) ?_
    refine fsteps_cons 7 rfl (fun a u hE hD hk => f_if ((rng c.qty 1 1048576)) rfl rfl rfl (hD 3 6 (by kernel_rfl)) (fun hb => f_val (o := ⟨some 9, _, _, _, _, _⟩) (c.v) rfl (wanted_b rfl rfl (hD 3 6 (by kernel_rfl)) (eq_true_of hb)) (exec_loadS 29 (.tmp 1) (g) _ c.cells _ rfl (hE 1 (.pointer (some ⟨g, 0, none⟩)) (by kernel_rfl) (by kernel_rfl)) (HB0.out.kept hk) Try.underlying29 (by rw [Ord.cells_len _ HT.out]; exact ord_size)) rfl)) ?_
    refine fsteps_cons 8 rfl (fun a u hE hD hk => f_if ((rng c.qty 1 1048576)) rfl rfl rfl (hD 3 6 (by kernel_rfl)) (fun hb => f_call (o := ⟨some 10, _, _, _, _, _⟩) 45 #[c.v] rfl (wanted_b rfl rfl (hD 3 6 (by kernel_rfl)) (eq_true_of hb)) (exec_call 45 _ [.tmp 9] _ [c.v] Try.func45 (by kernel_rfl) (by kernel_rfl) rfl (show [a.eval (.tmp 9)] = [c.v] from (by rw [show a.eval (.tmp 9) = c.v from ((hD 6 9 (by kernel_rfl)).1 hb)] <;> rfl)) u) (mostShown_any c u))) ?_
    refine fsteps_cons 9 rfl (fun a u hE hD hk => f_if ((rng c.qty 1 1048576)) rfl rfl rfl (hD 3 6 (by kernel_rfl)) (fun hb => f_call (o := ⟨some 11, _, _, _, _, _⟩) 44 #[.int .i64 c.shw, .int .i64 0, .int .i64 c.shown] rfl (wanted_b rfl rfl (hD 3 6 (by kernel_rfl)) (eq_true_of hb)) (exec_call 44 _ [.tmp 8, .const (.int .i64 0), .tmp 10] _ [.int .i64 c.shw, .int .i64 0, .int .i64 c.shown] Try.func44 (by kernel_rfl) (by kernel_rfl) rfl (show [a.eval (.tmp 8), a.eval (.const (.int .i64 0)), a.eval (.tmp 10)] = [.int .i64 c.shw, .int .i64 0, .int .i64 c.shown] from (by rw [show a.eval (.tmp 8) = .int .i64 c.shw from ((hD 5 8 (by kernel_rfl)).1 hb), show a.eval (.tmp 10) = .int .i64 c.shown from ((hD 7 10 (by kernel_rfl)).1 hb)] <;> rfl)) u) (owithin_any _ _ _ u))) ?_
    refine fsteps_cons 10 rfl (fun a u hE hD hk => f_val (o := ⟨some 12, _, _, _, _, _⟩) (.bool ((rng c.qty 1 1048576) && (rng c.shw 0 c.shown))) rfl (wanted_none rfl _) (exec_pickand (.tmp 6) (.tmp 11) (.const (.bool false)) ((rng c.qty 1 1048576)) ((rng c.shw 0 c.shown)) rfl (hD 3 6 (by kernel_rfl)) (fun hb2 => ((hD 8 11 (by kernel_rfl)).1 hb2)) rfl) rfl) ?_
    exact fsteps_nil
  intro gv w1 hV k1
  rw [show dstsOf _ 10 = [3, 4, 5, 6, 7, 8, 9, 10, 11, 12] by kernel_rfl]
  simp only [List.foldl_cons, List.foldl_nil, List.setIfInBounds_toArray, List.set_cons_succ, List.set_cons_zero, List.drop_succ_cons, List.drop_zero]
  rw [show gv 12 = .bool ((rng c.qty 1 1048576) && (rng c.shw 0 c.shown)) from hV 9 12 (by kernel_rfl)]
  clear hV
  have HB1 := Lib.hid (HB0.out.kept k1)
  have kw1 := kw0.trans k1
  clear k1 kw0
  go_wp2
  go_ret
  exact ⟨_, rfl, rfl, kw1⟩

set_option maxRecDepth 100000 in
set_option maxHeartbeats 800000 in
theorem right_t (c : Ord) (hR : c.right = true) (w : World) : Gives 19 #[c.v] w (.eq (.int .i64 0)) := by
  unfold Gives Ord.v
  have HT : Hid True := trivial
  have HB0 : Hid (Blk (w.alloc (.cells c.cells.toArray 29)) w.heap.size 29 c.cells) := Blk.new w _ _
  have kw0 : Kept w (w.alloc (.cells c.cells.toArray 29)) := (Keep.refl _ w).alloc _
  go_enter Try.func19, Try.ntmps19
  go_upto_region 1 with fail
  generalize w.alloc (.cells c.cells.toArray 29) = w0 at HB0 kw0 ⊢
  generalize w.heap.size = g at HB0 ⊢
  refine wp_text 14 [.eq (c.v), .eq (.bool c.owned), .eq (.bool c.owned), .cond c.owned (.eq (c.v)), .cond c.owned (.eq (.bool c.ofApi)), .eq (.bool (c.owned && c.ofApi)), .eq (.bool (c.owned && c.ofApi)), .cond (c.owned && c.ofApi) (.eq (c.v)), .cond (c.owned && c.ofApi) (.eq (.bool c.prices)), .eq (.bool ((c.owned && c.ofApi) && c.prices)), .eq (.bool ((c.owned && c.ofApi) && c.prices)), .cond ((c.owned && c.ofApi) && c.prices) (.eq (c.v)), .cond ((c.owned && c.ofApi) && c.prices) (.eq (.bool c.amounts)), .eq (.bool true)] rfl (by kernel_rfl) ?_ ?_
  · refine fsteps_cons 1 rfl (fun a u hE hD hk => f_val (o := ⟨some 3, _, _, _, _, _⟩) (c.v) rfl (wanted_none rfl _) (exec_loadS 29 (.tmp 1) (g) _ c.cells _ rfl (hE 1 (.pointer (some ⟨g, 0, none⟩)) (by kernel_rfl) (by kernel_rfl)) (HB0.out.kept hk) Try.underlying29 (by rw [Ord.cells_len _ HT.out]; exact ord_size)) rfl) ?_
    refine fsteps_cons 2 rfl (fun a u hE hD hk => f_call (o := ⟨some 4, _, _, _, _, _⟩) 35 #[c.v] rfl (wanted_none rfl _) (exec_call 35 _ [.tmp 3] _ [c.v] Try.func35 (by kernel_rfl) (by kernel_rfl) rfl (show [a.eval (.tmp 3)] = [c.v] from (by rw [show a.eval (.tmp 3) = c.v from (hD 0 3 (by kernel_rfl))] <;> rfl)) u) (isOwned_any c u)) ?_
    refine fsteps_cons 3 rfl (fun a u hE hD hk => f_val (o := ⟨some 5, _, _, _, _, _⟩) (.bool c.owned) rfl (wanted_none rfl _) (exec_move (.tmp 4) (.bool c.owned) rfl (hD 1 4 (by kernel_rfl))) rfl) ?_
    refine fsteps_cons 4 rfl (fun a u hE hD hk => f_if (c.owned) rfl rfl rfl (hD 2 5 (by kernel_rfl)) (fun hb => f_val (o := ⟨some 6, _, _, _, _, _⟩) (c.v) rfl (wanted_b rfl rfl (hD 2 5 (by kernel_rfl)) (eq_true_of hb)) (exec_loadS 29 (.tmp 1) (g) _ c.cells _ rfl (hE 1 (.pointer (some ⟨g, 0, none⟩)) (by kernel_rfl) (by kernel_rfl)) (HB0.out.kept hk) Try.underlying29 (by rw [Ord.cells_len _ HT.out]; exact ord_size)) rfl)) ?_
    refine fsteps_cons 5 rfl (fun a u hE hD hk => f_if (c.owned) rfl rfl rfl (hD 2 5 (by kernel_rfl)) (fun hb => f_call (o := ⟨some 7, _, _, _, _, _⟩) 36 #[c.v] rfl (wanted_b rfl rfl (hD 2 5 (by kernel_rfl)) (eq_true_of hb)) (exec_call 36 _ [.tmp 6] _ [c.v] Try.func36 (by kernel_rfl) (by kernel_rfl) rfl (show [a.eval (.tmp 6)] = [c.v] from (by rw [show a.eval (.tmp 6) = c.v from ((hD 3 6 (by kernel_rfl)).1 hb)] <;> rfl)) u) (isOfApi_any c u))) ?_
    refine fsteps_cons 6 rfl (fun a u hE hD hk => f_val (o := ⟨some 8, _, _, _, _, _⟩) (.bool (c.owned && c.ofApi)) rfl (wanted_none rfl _) (exec_pickand (.tmp 5) (.tmp 7) (.const (.bool false)) (c.owned) (c.ofApi) rfl (hD 2 5 (by kernel_rfl)) (fun hb2 => ((hD 4 7 (by kernel_rfl)).1 hb2)) rfl) rfl) ?_
    refine fsteps_cons 7 rfl (fun a u hE hD hk => f_val (o := ⟨some 9, _, _, _, _, _⟩) (.bool (c.owned && c.ofApi)) rfl (wanted_none rfl _) (exec_move (.tmp 8) (.bool (c.owned && c.ofApi)) rfl (hD 5 8 (by kernel_rfl))) rfl) ?_
    refine fsteps_cons 8 rfl (fun a u hE hD hk => f_if ((c.owned && c.ofApi)) rfl rfl rfl (hD 6 9 (by kernel_rfl)) (fun hb => f_val (o := ⟨some 10, _, _, _, _, _⟩) (c.v) rfl (wanted_b rfl rfl (hD 6 9 (by kernel_rfl)) (eq_true_of hb)) (exec_loadS 29 (.tmp 1) (g) _ c.cells _ rfl (hE 1 (.pointer (some ⟨g, 0, none⟩)) (by kernel_rfl) (by kernel_rfl)) (HB0.out.kept hk) Try.underlying29 (by rw [Ord.cells_len _ HT.out]; exact ord_size)) rfl)) ?_
    refine fsteps_cons 9 rfl (fun a u hE hD hk => f_if ((c.owned && c.ofApi)) rfl rfl rfl (hD 6 9 (by kernel_rfl)) (fun hb => f_call (o := ⟨some 11, _, _, _, _, _⟩) 37 #[c.v] rfl (wanted_b rfl rfl (hD 6 9 (by kernel_rfl)) (eq_true_of hb)) (exec_call 37 _ [.tmp 10] _ [c.v] Try.func37 (by kernel_rfl) (by kernel_rfl) rfl (show [a.eval (.tmp 10)] = [c.v] from (by rw [show a.eval (.tmp 10) = c.v from ((hD 7 10 (by kernel_rfl)).1 hb)] <;> rfl)) u) (hasPrices_any c u))) ?_
    refine fsteps_cons 10 rfl (fun a u hE hD hk => f_val (o := ⟨some 12, _, _, _, _, _⟩) (.bool ((c.owned && c.ofApi) && c.prices)) rfl (wanted_none rfl _) (exec_pickand (.tmp 9) (.tmp 11) (.const (.bool false)) ((c.owned && c.ofApi)) (c.prices) rfl (hD 6 9 (by kernel_rfl)) (fun hb2 => ((hD 8 11 (by kernel_rfl)).1 hb2)) rfl) rfl) ?_
    refine fsteps_cons 11 rfl (fun a u hE hD hk => f_val (o := ⟨some 13, _, _, _, _, _⟩) (.bool ((c.owned && c.ofApi) && c.prices)) rfl (wanted_none rfl _) (exec_move (.tmp 12) (.bool ((c.owned && c.ofApi) && c.prices)) rfl (hD 9 12 (by kernel_rfl))) rfl) ?_
    refine fsteps_cons 12 rfl (fun a u hE hD hk => f_if (((c.owned && c.ofApi) && c.prices)) rfl rfl rfl (hD 10 13 (by kernel_rfl)) (fun hb => f_val (o := ⟨some 14, _, _, _, _, _⟩) (c.v) rfl (wanted_b rfl rfl (hD 10 13 (by kernel_rfl)) (eq_true_of hb)) (exec_loadS 29 (.tmp 1) (g) _ c.cells _ rfl (hE 1 (.pointer (some ⟨g, 0, none⟩)) (by kernel_rfl) (by kernel_rfl)) (HB0.out.kept hk) Try.underlying29 (by rw [Ord.cells_len _ HT.out]; exact ord_size)) rfl)) ?_
    refine fsteps_cons 13 rfl (fun a u hE hD hk => f_if (((c.owned && c.ofApi) && c.prices)) rfl rfl rfl (hD 10 13 (by kernel_rfl)) (fun hb => f_call (o := ⟨some 15, _, _, _, _, _⟩) 38 #[c.v] rfl (wanted_b rfl rfl (hD 10 13 (by kernel_rfl)) (eq_true_of hb)) (exec_call 38 _ [.tmp 14] _ [c.v] Try.func38 (by kernel_rfl) (by kernel_rfl) rfl (show [a.eval (.tmp 14)] = [c.v] from (by rw [show a.eval (.tmp 14) = c.v from ((hD 11 14 (by kernel_rfl)).1 hb)] <;> rfl)) u) (hasQuantities_any c u))) ?_
    refine fsteps_cons 14 rfl (fun a u hE hD hk => f_as (show ((((c.owned && c.ofApi) && c.prices) && c.amounts) : Bool) = true from hR) (f_val (o := ⟨some 16, _, _, _, _, _⟩) (.bool (((c.owned && c.ofApi) && c.prices) && c.amounts)) rfl (wanted_none rfl _) (exec_pickand (.tmp 13) (.tmp 15) (.const (.bool false)) (((c.owned && c.ofApi) && c.prices)) (c.amounts) rfl (hD 10 13 (by kernel_rfl)) (fun hb2 => ((hD 12 15 (by kernel_rfl)).1 hb2)) rfl) rfl)) ?_
    exact fsteps_nil
  intro gv w1 hV k1
  rw [show dstsOf _ 14 = [3, 4, 5, 6, 7, 8, 9, 10, 11, 12, 13, 14, 15, 16] by kernel_rfl]
  simp only [List.foldl_cons, List.foldl_nil, List.setIfInBounds_toArray, List.set_cons_succ, List.set_cons_zero, List.drop_succ_cons, List.drop_zero]
  rw [show gv 16 = .bool true from hV 13 16 (by kernel_rfl)]
  clear hV
  refine wpList_nil ?_
  have HB1 := Lib.hid (HB0.out.kept k1)
  have kw1 := kw0.trans k1
  clear k1 kw0
  go_wp2
  go_ret
  exact ⟨_, rfl, rfl, kw1⟩

set_option maxRecDepth 100000 in
set_option maxHeartbeats 800000 in
theorem right_f (c : Ord) (hR : c.right = false) (w : World) : Gives 19 #[c.v] w (.eq (.int .i64 1)) := by
  unfold Gives Ord.v
  have HT : Hid True := trivial
  have HB0 : Hid (Blk (w.alloc (.cells c.cells.toArray 29)) w.heap.size 29 c.cells) := Blk.new w _ _
  have kw0 : Kept w (w.alloc (.cells c.cells.toArray 29)) := (Keep.refl _ w).alloc _
  go_enter Try.func19, Try.ntmps19
  go_upto_region 1 with fail
  generalize w.alloc (.cells c.cells.toArray 29) = w0 at HB0 kw0 ⊢
  generalize w.heap.size = g at HB0 ⊢
  refine wp_text 14 [.eq (c.v), .eq (.bool c.owned), .eq (.bool c.owned), .cond c.owned (.eq (c.v)), .cond c.owned (.eq (.bool c.ofApi)), .eq (.bool (c.owned && c.ofApi)), .eq (.bool (c.owned && c.ofApi)), .cond (c.owned && c.ofApi) (.eq (c.v)), .cond (c.owned && c.ofApi) (.eq (.bool c.prices)), .eq (.bool ((c.owned && c.ofApi) && c.prices)), .eq (.bool ((c.owned && c.ofApi) && c.prices)), .cond ((c.owned && c.ofApi) && c.prices) (.eq (c.v)), .cond ((c.owned && c.ofApi) && c.prices) (.eq (.bool c.amounts)), .eq (.bool false)] rfl (by kernel_rfl) ?_ ?_
  · refine fsteps_cons 1 rfl (fun a u hE hD hk => f_val (o := ⟨some 3, _, _, _, _, _⟩) (c.v) rfl (wanted_none rfl _) (exec_loadS 29 (.tmp 1) (g) _ c.cells _ rfl (hE 1 (.pointer (some ⟨g, 0, none⟩)) (by kernel_rfl) (by kernel_rfl)) (HB0.out.kept hk) Try.underlying29 (by rw [Ord.cells_len _ HT.out]; exact ord_size)) rfl) ?_
    refine fsteps_cons 2 rfl (fun a u hE hD hk => f_call (o := ⟨some 4, _, _, _, _, _⟩) 35 #[c.v] rfl (wanted_none rfl _) (exec_call 35 _ [.tmp 3] _ [c.v] Try.func35 (by kernel_rfl) (by kernel_rfl) rfl (show [a.eval (.tmp 3)] = [c.v] from (by rw [show a.eval (.tmp 3) = c.v from (hD 0 3 (by kernel_rfl))] <;> rfl)) u) (isOwned_any c u)) ?_
    refine fsteps_cons 3 rfl (fun a u hE hD hk => f_val (o := ⟨some 5, _, _, _, _, _⟩) (.bool c.owned) rfl (wanted_none rfl _) (exec_move (.tmp 4) (.bool c.owned) rfl (hD 1 4 (by kernel_rfl))) rfl) ?_
    refine fsteps_cons 4 rfl (fun a u hE hD hk => f_if (c.owned) rfl rfl rfl (hD 2 5 (by kernel_rfl)) (fun hb => f_val (o := ⟨some 6, _, _, _, _, _⟩) (c.v) rfl (wanted_b rfl rfl (hD 2 5 (by kernel_rfl)) (eq_true_of hb)) (exec_loadS 29 (.tmp 1) (g) _ c.cells _ rfl (hE 1 (.pointer (some ⟨g, 0, none⟩)) (by kernel_rfl) (by kernel_rfl)) (HB0.out.kept hk) Try.underlying29 (by rw [Ord.cells_len _ HT.out]; exact ord_size)) rfl)) ?_
    refine fsteps_cons 5 rfl (fun a u hE hD hk => f_if (c.owned) rfl rfl rfl (hD 2 5 (by kernel_rfl)) (fun hb => f_call (o := ⟨some 7, _, _, _, _, _⟩) 36 #[c.v] rfl (wanted_b rfl rfl (hD 2 5 (by kernel_rfl)) (eq_true_of hb)) (exec_call 36 _ [.tmp 6] _ [c.v] Try.func36 (by kernel_rfl) (by kernel_rfl) rfl (show [a.eval (.tmp 6)] = [c.v] from (by rw [show a.eval (.tmp 6) = c.v from ((hD 3 6 (by kernel_rfl)).1 hb)] <;> rfl)) u) (isOfApi_any c u))) ?_
    refine fsteps_cons 6 rfl (fun a u hE hD hk => f_val (o := ⟨some 8, _, _, _, _, _⟩) (.bool (c.owned && c.ofApi)) rfl (wanted_none rfl _) (exec_pickand (.tmp 5) (.tmp 7) (.const (.bool false)) (c.owned) (c.ofApi) rfl (hD 2 5 (by kernel_rfl)) (fun hb2 => ((hD 4 7 (by kernel_rfl)).1 hb2)) rfl) rfl) ?_
    refine fsteps_cons 7 rfl (fun a u hE hD hk => f_val (o := ⟨some 9, _, _, _, _, _⟩) (.bool (c.owned && c.ofApi)) rfl (wanted_none rfl _) (exec_move (.tmp 8) (.bool (c.owned && c.ofApi)) rfl (hD 5 8 (by kernel_rfl))) rfl) ?_
    refine fsteps_cons 8 rfl (fun a u hE hD hk => f_if ((c.owned && c.ofApi)) rfl rfl rfl (hD 6 9 (by kernel_rfl)) (fun hb => f_val (o := ⟨some 10, _, _, _, _, _⟩) (c.v) rfl (wanted_b rfl rfl (hD 6 9 (by kernel_rfl)) (eq_true_of hb)) (exec_loadS 29 (.tmp 1) (g) _ c.cells _ rfl (hE 1 (.pointer (some ⟨g, 0, none⟩)) (by kernel_rfl) (by kernel_rfl)) (HB0.out.kept hk) Try.underlying29 (by rw [Ord.cells_len _ HT.out]; exact ord_size)) rfl)) ?_
    refine fsteps_cons 9 rfl (fun a u hE hD hk => f_if ((c.owned && c.ofApi)) rfl rfl rfl (hD 6 9 (by kernel_rfl)) (fun hb => f_call (o := ⟨some 11, _, _, _, _, _⟩) 37 #[c.v] rfl (wanted_b rfl rfl (hD 6 9 (by kernel_rfl)) (eq_true_of hb)) (exec_call 37 _ [.tmp 10] _ [c.v] Try.func37 (by kernel_rfl) (by kernel_rfl) rfl (show [a.eval (.tmp 10)] = [c.v] from (by rw [show a.eval (.tmp 10) = c.v from ((hD 7 10 (by kernel_rfl)).1 hb)] <;> rfl)) u) (hasPrices_any c u))) ?_
    refine fsteps_cons 10 rfl (fun a u hE hD hk => f_val (o := ⟨some 12, _, _, _, _, _⟩) (.bool ((c.owned && c.ofApi) && c.prices)) rfl (wanted_none rfl _) (exec_pickand (.tmp 9) (.tmp 11) (.const (.bool false)) ((c.owned && c.ofApi)) (c.prices) rfl (hD 6 9 (by kernel_rfl)) (fun hb2 => ((hD 8 11 (by kernel_rfl)).1 hb2)) rfl) rfl) ?_
    refine fsteps_cons 11 rfl (fun a u hE hD hk => f_val (o := ⟨some 13, _, _, _, _, _⟩) (.bool ((c.owned && c.ofApi) && c.prices)) rfl (wanted_none rfl _) (exec_move (.tmp 12) (.bool ((c.owned && c.ofApi) && c.prices)) rfl (hD 9 12 (by kernel_rfl))) rfl) ?_
    refine fsteps_cons 12 rfl (fun a u hE hD hk => f_if (((c.owned && c.ofApi) && c.prices)) rfl rfl rfl (hD 10 13 (by kernel_rfl)) (fun hb => f_val (o := ⟨some 14, _, _, _, _, _⟩) (c.v) rfl (wanted_b rfl rfl (hD 10 13 (by kernel_rfl)) (eq_true_of hb)) (exec_loadS 29 (.tmp 1) (g) _ c.cells _ rfl (hE 1 (.pointer (some ⟨g, 0, none⟩)) (by kernel_rfl) (by kernel_rfl)) (HB0.out.kept hk) Try.underlying29 (by rw [Ord.cells_len _ HT.out]; exact ord_size)) rfl)) ?_
    refine fsteps_cons 13 rfl (fun a u hE hD hk => f_if (((c.owned && c.ofApi) && c.prices)) rfl rfl rfl (hD 10 13 (by kernel_rfl)) (fun hb => f_call (o := ⟨some 15, _, _, _, _, _⟩) 38 #[c.v] rfl (wanted_b rfl rfl (hD 10 13 (by kernel_rfl)) (eq_true_of hb)) (exec_call 38 _ [.tmp 14] _ [c.v] Try.func38 (by kernel_rfl) (by kernel_rfl) rfl (show [a.eval (.tmp 14)] = [c.v] from (by rw [show a.eval (.tmp 14) = c.v from ((hD 11 14 (by kernel_rfl)).1 hb)] <;> rfl)) u) (hasQuantities_any c u))) ?_
    refine fsteps_cons 14 rfl (fun a u hE hD hk => f_as (show ((((c.owned && c.ofApi) && c.prices) && c.amounts) : Bool) = false from hR) (f_val (o := ⟨some 16, _, _, _, _, _⟩) (.bool (((c.owned && c.ofApi) && c.prices) && c.amounts)) rfl (wanted_none rfl _) (exec_pickand (.tmp 13) (.tmp 15) (.const (.bool false)) (((c.owned && c.ofApi) && c.prices)) (c.amounts) rfl (hD 10 13 (by kernel_rfl)) (fun hb2 => ((hD 12 15 (by kernel_rfl)).1 hb2)) rfl) rfl)) ?_
    exact fsteps_nil
  intro gv w1 hV k1
  rw [show dstsOf _ 14 = [3, 4, 5, 6, 7, 8, 9, 10, 11, 12, 13, 14, 15, 16] by kernel_rfl]
  simp only [List.foldl_cons, List.foldl_nil, List.setIfInBounds_toArray, List.set_cons_succ, List.set_cons_zero, List.drop_succ_cons, List.drop_zero]
  rw [show gv 16 = .bool false from hV 13 16 (by kernel_rfl)]
  clear hV
  refine wpList_nil ?_
  have HB1 := Lib.hid (HB0.out.kept k1)
  have kw1 := kw0.trans k1
  clear k1 kw0
  go_wp2
  go_ret
  exact ⟨_, rfl, rfl, kw1⟩

theorem ordRight_any (c : Ord) (w : World) : Gives 19 #[c.v] w (.eq (.int .i64 c.err)) := by
  unfold Ord.err
  cases h : c.right with
  | true => exact right_t c h w
  | false => exact right_f c h w

set_option maxRecDepth 100000 in
set_option maxHeartbeats 800000 in
theorem value_any (c : Ord) (hp : In64 c.price) (hq : In64 c.qty) (w : World) : Gives 39 #[c.v] w (.eq (two (timesM c.price c.qty))) := by
  generalize hP : timesM c.price c.qty = P
  obtain ⟨p1, p2⟩ := P
  unfold Gives Ord.v
  have HT : Hid True := trivial
  have HB0 : Hid (Blk (w.alloc (.cells c.cells.toArray 29)) w.heap.size 29 c.cells) := Blk.new w _ _
  have kw0 : Kept w (w.alloc (.cells c.cells.toArray 29)) := (Keep.refl _ w).alloc _
  go_enter Try.func39, Try.ntmps39
  go_upto_region 1 with fail
  generalize w.alloc (.cells c.cells.toArray 29) = w0 at HB0 kw0 ⊢
  generalize w.heap.size = g at HB0 ⊢
  refine wp_text 7 [.eq (.pointer (some ⟨g, 5, none⟩)), .eq (.int .i64 c.price), .eq (.pointer (some ⟨g, 6, none⟩)), .eq (.int .i64 c.qty), .eq (.tuple #[.int .i64 p1, .int .i64 p2]), .eq (.int .i64 p1), .eq (.int .i64 p2)] rfl (by kernel_rfl) ?_ ?_
  · refine fsteps_cons 1 rfl (fun a u hE hD hk => f_val (o := ⟨some 4, _, _, _, _, _⟩) (.pointer (some ⟨g, 5, none⟩)) rfl (wanted_none rfl _) (exec_fld 29 5 5 (.tmp 1) (g) rfl (hE 1 (.pointer (some ⟨g, 0, none⟩)) (by kernel_rfl) (by kernel_rfl)) (by kernel_rfl)) rfl) ?_
    refine fsteps_cons 2 rfl (fun a u hE hD hk => f_val (o := ⟨some 5, _, _, _, _, _⟩) (.int .i64 c.price) rfl (wanted_none rfl _) (exec_loadi 3 Try.underlying3 (.tmp 4) ⟨g, 5, none⟩ (.int .i64 c.price) rfl (hD 0 4 (by kernel_rfl)) ((HB0.out.kept hk).fld 5 _ rfl)) rfl) ?_
    refine fsteps_cons 3 rfl (fun a u hE hD hk => f_val (o := ⟨some 6, _, _, _, _, _⟩) (.pointer (some ⟨g, 6, none⟩)) rfl (wanted_none rfl _) (exec_fld 29 6 6 (.tmp 1) (g) rfl (hE 1 (.pointer (some ⟨g, 0, none⟩)) (by kernel_rfl) (by kernel_rfl)) (by kernel_rfl)) rfl) ?_
    refine fsteps_cons 4 rfl (fun a u hE hD hk => f_val (o := ⟨some 7, _, _, _, _, _⟩) (.int .i64 c.qty) rfl (wanted_none rfl _) (exec_loadi 3 Try.underlying3 (.tmp 6) ⟨g, 6, none⟩ (.int .i64 c.qty) rfl (hD 2 6 (by kernel_rfl)) ((HB0.out.kept hk).fld 6 _ rfl)) rfl) ?_
    refine fsteps_cons 5 rfl (fun a u hE hD hk => f_call (o := ⟨some 8, _, _, _, _, _⟩) 46 #[.int .i64 c.price, .int .i64 c.qty] rfl (wanted_none rfl _) (exec_call 46 _ [.tmp 5, .tmp 7] _ [.int .i64 c.price, .int .i64 c.qty] Try.func46 (by kernel_rfl) (by kernel_rfl) rfl (show [a.eval (.tmp 5), a.eval (.tmp 7)] = [.int .i64 c.price, .int .i64 c.qty] from (by rw [show a.eval (.tmp 5) = .int .i64 c.price from (hD 1 5 (by kernel_rfl)), show a.eval (.tmp 7) = .int .i64 c.qty from (hD 3 7 (by kernel_rfl))] <;> rfl)) u) ((by have h := gives_same (sums_times c.price c.qty u hp hq); rw [hP] at h; exact h))) ?_
    refine fsteps_cons 6 rfl (fun a u hE hD hk => f_val (o := ⟨some 9, _, _, _, _, _⟩) (.int .i64 p1) rfl (wanted_none rfl _) (exec_extract (.tmp 8) [.int .i64 p1, .int .i64 p2] 0 _ rfl (hD 4 8 (by kernel_rfl)) rfl) rfl) ?_
    refine fsteps_cons 7 rfl (fun a u hE hD hk => f_val (o := ⟨some 10, _, _, _, _, _⟩) (.int .i64 p2) rfl (wanted_none rfl _) (exec_extract (.tmp 8) [.int .i64 p1, .int .i64 p2] 1 _ rfl (hD 4 8 (by kernel_rfl)) rfl) rfl) ?_
    exact fsteps_nil
  intro gv w1 hV k1
  rw [show dstsOf _ 7 = [4, 5, 6, 7, 8, 9, 10] by kernel_rfl]
  simp only [List.foldl_cons, List.foldl_nil, List.setIfInBounds_toArray, List.set_cons_succ, List.set_cons_zero, List.drop_succ_cons, List.drop_zero]
  rw [show gv 9 = .int .i64 p1 from hV 5 9 (by kernel_rfl)]
  rw [show gv 10 = .int .i64 p2 from hV 6 10 (by kernel_rfl)]
  clear hV
  go_wp2
  go_ret2
  exact ⟨_, rfl, rfl, kw0.trans k1⟩

set_option maxRecDepth 100000 in
set_option maxHeartbeats 800000 in
theorem refValue_any (c : Ord) (hp : In64 c.price) (hq : In64 c.qty) (w : World) : Gives 28 #[c.v] w (.eq (two (timesM c.price c.qty))) := by
  generalize hP : timesM c.price c.qty = P
  obtain ⟨p1, p2⟩ := P
  unfold Gives Ord.v
  have HT : Hid True := trivial
  have HB0 : Hid (Blk (w.alloc (.cells c.cells.toArray 29)) w.heap.size 29 c.cells) := Blk.new w _ _
  have kw0 : Kept w (w.alloc (.cells c.cells.toArray 29)) := (Keep.refl _ w).alloc _
  go_enter Try.func28, Try.ntmps28
  go_upto_region 1 with fail
  generalize w.alloc (.cells c.cells.toArray 29) = w0 at HB0 kw0 ⊢
  generalize w.heap.size = g at HB0 ⊢
  refine wp_text 7 [.eq (.pointer (some ⟨g, 5, none⟩)), .eq (.int .i64 c.price), .eq (.pointer (some ⟨g, 6, none⟩)), .eq (.int .i64 c.qty), .eq (.tuple #[.int .i64 p1, .int .i64 p2]), .eq (.int .i64 p1), .eq (.int .i64 p2)] rfl (by kernel_rfl) ?_ ?_
  · refine fsteps_cons 1 rfl (fun a u hE hD hk => f_val (o := ⟨some 4, _, _, _, _, _⟩) (.pointer (some ⟨g, 5, none⟩)) rfl (wanted_none rfl _) (exec_fld 29 5 5 (.tmp 1) (g) rfl (hE 1 (.pointer (some ⟨g, 0, none⟩)) (by kernel_rfl) (by kernel_rfl)) (by kernel_rfl)) rfl) ?_
    refine fsteps_cons 2 rfl (fun a u hE hD hk => f_val (o := ⟨some 5, _, _, _, _, _⟩) (.int .i64 c.price) rfl (wanted_none rfl _) (exec_loadi 3 Try.underlying3 (.tmp 4) ⟨g, 5, none⟩ (.int .i64 c.price) rfl (hD 0 4 (by kernel_rfl)) ((HB0.out.kept hk).fld 5 _ rfl)) rfl) ?_
    refine fsteps_cons 3 rfl (fun a u hE hD hk => f_val (o := ⟨some 6, _, _, _, _, _⟩) (.pointer (some ⟨g, 6, none⟩)) rfl (wanted_none rfl _) (exec_fld 29 6 6 (.tmp 1) (g) rfl (hE 1 (.pointer (some ⟨g, 0, none⟩)) (by kernel_rfl) (by kernel_rfl)) (by kernel_rfl)) rfl) ?_
    refine fsteps_cons 4 rfl (fun a u hE hD hk => f_val (o := ⟨some 7, _, _, _, _, _⟩) (.int .i64 c.qty) rfl (wanted_none rfl _) (exec_loadi 3 Try.underlying3 (.tmp 6) ⟨g, 6, none⟩ (.int .i64 c.qty) rfl (hD 2 6 (by kernel_rfl)) ((HB0.out.kept hk).fld 6 _ rfl)) rfl) ?_
    refine fsteps_cons 5 rfl (fun a u hE hD hk => f_call (o := ⟨some 8, _, _, _, _, _⟩) 43 #[.int .i64 c.price, .int .i64 c.qty] rfl (wanted_none rfl _) (exec_call 43 _ [.tmp 5, .tmp 7] _ [.int .i64 c.price, .int .i64 c.qty] Try.func43 (by kernel_rfl) (by kernel_rfl) rfl (show [a.eval (.tmp 5), a.eval (.tmp 7)] = [.int .i64 c.price, .int .i64 c.qty] from (by rw [show a.eval (.tmp 5) = .int .i64 c.price from (hD 1 5 (by kernel_rfl)), show a.eval (.tmp 7) = .int .i64 c.qty from (hD 3 7 (by kernel_rfl))] <;> rfl)) u) ((by have h := gives_same (ref_times c.price c.qty u hp hq); rw [hP] at h; exact h))) ?_
    refine fsteps_cons 6 rfl (fun a u hE hD hk => f_val (o := ⟨some 9, _, _, _, _, _⟩) (.int .i64 p1) rfl (wanted_none rfl _) (exec_extract (.tmp 8) [.int .i64 p1, .int .i64 p2] 0 _ rfl (hD 4 8 (by kernel_rfl)) rfl) rfl) ?_
    refine fsteps_cons 7 rfl (fun a u hE hD hk => f_val (o := ⟨some 10, _, _, _, _, _⟩) (.int .i64 p2) rfl (wanted_none rfl _) (exec_extract (.tmp 8) [.int .i64 p1, .int .i64 p2] 1 _ rfl (hD 4 8 (by kernel_rfl)) rfl) rfl) ?_
    exact fsteps_nil
  intro gv w1 hV k1
  rw [show dstsOf _ 7 = [4, 5, 6, 7, 8, 9, 10] by kernel_rfl]
  simp only [List.foldl_cons, List.foldl_nil, List.setIfInBounds_toArray, List.set_cons_succ, List.set_cons_zero, List.drop_succ_cons, List.drop_zero]
  rw [show gv 9 = .int .i64 p1 from hV 5 9 (by kernel_rfl)]
  rw [show gv 10 = .int .i64 p2 from hV 6 10 (by kernel_rfl)]
  clear hV
  go_wp2
  go_ret2
  exact ⟨_, rfl, rfl, kw0.trans k1⟩

theorem bet_buy (x y : Int) : bet 1 x y = decide (y < x) := by unfold bet; rw [if_pos rfl]
theorem not_bet_buy (s x y : Int) (h : decide (s = 1) = true) : (!bet s x y) = decide (x ≤ y) := by
  unfold bet
  rw [if_pos (by simpa using h)]
  by_cases hx : x ≤ y
  · rw [decide_eq_true hx, decide_eq_false (by omega)]; rfl
  · rw [decide_eq_false hx, decide_eq_true (by omega)]; rfl
theorem not_bet_sell (s x y : Int) (h : decide (s = 1) = false) : (!bet s x y) = decide (y ≤ x) := by
  unfold bet
  rw [if_neg (by simpa using h)]
  by_cases hx : y ≤ x
  · rw [decide_eq_true hx, decide_eq_false (by omega)]; rfl
  · rw [decide_eq_false hx, decide_eq_true (by omega)]; rfl

end Go.Proofs.Ytgajdkelpaaadaa
