/-
  The contracts of package lock. Conditions: a lock in memory, as New makes it and Failed and Clear leave it; times from 0 to MaxTick.
-/
import Derived.Test.YtliepgmnlhfaiaaLokM
namespace Go.Proofs.Ytliepgmnlhfaiaa
open Go.RowKit
set_option linter.unusedVariables false
set_option maxRecDepth 100000

theorem kwithin_i (n lo hi : Int) (w : World) : Gives 19 #[.int .i64 n, .int .i64 lo, .int .i64 hi] w (.eq (.bool (inB n lo hi))) := by
  refine gives_eq ?_
  go_enter Try.func19, Try.ntmps19
  go_upto_region 1 with fail
  refine wp_text 9 [.eq (.int .i64 lo), .eq (.int .i64 n), .eq (.bool (decide ((lo : Int) ≤ (n : Int)))), .eq (.bool (decide ((lo : Int) ≤ (n : Int)))), .cond (decide ((lo : Int) ≤ (n : Int))) (.eq (.int .i64 n)), .cond (decide ((lo : Int) ≤ (n : Int))) (.eq (.int .i64 hi)), .cond (decide ((lo : Int) ≤ (n : Int))) (.eq (.bool (decide ((n : Int) ≤ (hi : Int))))), .eq (.bool ((decide ((lo : Int) ≤ (n : Int))) && (decide ((n : Int) ≤ (hi : Int))))), .eq (.bool ((decide ((lo : Int) ≤ (n : Int))) && (decide ((n : Int) ≤ (hi : Int)))))] rfl (by kernel_rfl) ?_ ?_
  · refine sv 1 rfl rfl rfl (fun a u hE hD hk => exec_move (.tmp 1) _ rfl (hE 1 (.int .i64 lo) (by kernel_rfl) (by kernel_rfl))) ?_
    refine sv 2 rfl rfl rfl (fun a u hE hD hk => exec_move (.tmp 0) _ rfl (hE 0 (.int .i64 n) (by kernel_rfl) (by kernel_rfl))) ?_
    refine sv 3 rfl rfl rfl (fun a u hE hD hk => exec_len_ (p := lo) (q := n) rfl (hD 0 7 (by kernel_rfl)) (hD 1 8 (by kernel_rfl))) ?_
    refine sv 4 rfl rfl rfl (fun a u hE hD hk => exec_move (.tmp 9) _ rfl (hD 2 9 (by kernel_rfl))) ?_
    refine fsteps_cons 5 rfl (fun a u hE hD hk => f_if ((decide ((lo : Int) ≤ (n : Int)))) rfl rfl rfl (hD 3 10 (by kernel_rfl)) (fun hb => f_val (o := ⟨some 11, _, _, _, _, _⟩) (.int .i64 n) rfl (wanted_b rfl rfl (hD 3 10 (by kernel_rfl)) (eq_true_of hb)) (exec_move (.tmp 0) _ rfl (hE 0 (.int .i64 n) (by kernel_rfl) (by kernel_rfl))) rfl)) ?_
    refine fsteps_cons 6 rfl (fun a u hE hD hk => f_if ((decide ((lo : Int) ≤ (n : Int)))) rfl rfl rfl (hD 3 10 (by kernel_rfl)) (fun hb => f_val (o := ⟨some 12, _, _, _, _, _⟩) (.int .i64 hi) rfl (wanted_b rfl rfl (hD 3 10 (by kernel_rfl)) (eq_true_of hb)) (exec_move (.tmp 2) _ rfl (hE 2 (.int .i64 hi) (by kernel_rfl) (by kernel_rfl))) rfl)) ?_
    refine fsteps_cons 7 rfl (fun a u hE hD hk => f_if ((decide ((lo : Int) ≤ (n : Int)))) rfl rfl rfl (hD 3 10 (by kernel_rfl)) (fun hb => f_val (o := ⟨some 13, _, _, _, _, _⟩) (.bool (decide ((n : Int) ≤ (hi : Int)))) rfl (wanted_b rfl rfl (hD 3 10 (by kernel_rfl)) (eq_true_of hb)) (exec_len_ (p := n) (q := hi) rfl ((hD 4 11 (by kernel_rfl)).1 hb) ((hD 5 12 (by kernel_rfl)).1 hb)) rfl)) ?_
    refine sv 8 rfl rfl rfl (fun a u hE hD hk => exec_pickand (.tmp 10) (.tmp 13) (.const (.bool false)) ((decide ((lo : Int) ≤ (n : Int)))) ((decide ((n : Int) ≤ (hi : Int)))) rfl (hD 3 10 (by kernel_rfl)) (fun hb2 => ((hD 6 13 (by kernel_rfl)).1 hb2)) rfl) ?_
    refine sv 9 rfl rfl rfl (fun a u hE hD hk => exec_assign (.tmp 14) _ rfl (hD 7 14 (by kernel_rfl))) ?_
    exact fsteps_nil
  intro gv w0 hV k0
  rw [show dstsOf _ 9 = [7, 8, 9, 10, 11, 12, 13, 14, 6] by kernel_rfl]
  simp only [List.foldl_cons, List.foldl_nil, List.setIfInBounds_toArray, List.set_cons_succ, List.set_cons_zero, List.drop_succ_cons, List.drop_zero]
  rw [show gv 6 = .bool ((decide ((lo : Int) ≤ (n : Int))) && (decide ((n : Int) ≤ (hi : Int)))) from hV 8 6 (by kernel_rfl)]
  clear hV
  refine wpList_nil ?_
  go_wp2
  go_ret
  exact ⟨rfl, k0⟩
theorem lnew_no (n t : Int) (h : newB n t = false) (w : World) : Gives 9 #[.int .i64 n, .int .i64 t] w (.eq (.tuple #[.pointer none, .int .i64 1])) := by
  refine gives_eq ?_
  have H : Hid ((!(inB n 1 1048576) || !(inB t 1 1099511627776)) = true) := by show _ = _; rw [← Bool.not_and]; unfold newB at h; rw [h]; rfl
  clear h
  go_enter Try.func9, Try.ntmps9
  go_upto_region 1 with fail
  refine wp_text 8 [.eq (.int .i64 n), .eq (.bool (inB n 1 1048576)), .eq (.bool (!(inB n 1 1048576))), .eq (.bool (!(inB n 1 1048576))), .cond (!(!(inB n 1 1048576))) (.eq (.int .i64 t)), .cond (!(!(inB n 1 1048576))) (.eq (.bool (inB t 1 1099511627776))), .cond (!(!(inB n 1 1048576))) (.eq (.bool (!(inB t 1 1099511627776)))), .eq (.bool true)] rfl (by kernel_rfl) ?_ ?_
  · refine sv 1 rfl rfl rfl (fun a u hE hD hk => exec_move (.tmp 0) _ rfl (hE 0 (.int .i64 n) (by kernel_rfl) (by kernel_rfl))) ?_
    refine fsteps_cons 2 rfl (fun a u hE hD hk => f_call (o := ⟨some 7, _, _, _, _, _⟩) 19 #[.int .i64 n, .int .i64 1, .int .i64 1048576] rfl (wanted_none rfl _) (exec_call 19 _ [.tmp 6, .const (.int .i64 1), .const (.int .i64 1048576)] _ [.int .i64 n, .int .i64 1, .int .i64 1048576] Try.func19 (by kernel_rfl) (by kernel_rfl) rfl (show [a.eval (.tmp 6), a.eval (.const (.int .i64 1)), a.eval (.const (.int .i64 1048576))] = [.int .i64 n, .int .i64 1, .int .i64 1048576] from (by rw [show a.eval (.tmp 6) = .int .i64 n from (hD 0 6 (by kernel_rfl))] <;> rfl)) u) (kwithin_i _ _ _ u)) ?_
    refine sv 3 rfl rfl rfl (fun a u hE hD hk => exec_not _ (.tmp 7) (inB n 1 1048576) rfl (hD 1 7 (by kernel_rfl))) ?_
    refine sv 4 rfl rfl rfl (fun a u hE hD hk => exec_move (.tmp 8) _ rfl (hD 2 8 (by kernel_rfl))) ?_
    refine fsteps_cons 5 rfl (fun a u hE hD hk => f_unless ((!(inB n 1 1048576))) rfl rfl rfl (hD 3 9 (by kernel_rfl)) (fun hb => f_val (o := ⟨some 10, _, _, _, _, _⟩) (.int .i64 t) rfl (wanted_b rfl rfl (hD 3 9 (by kernel_rfl)) (eq_false_of hb)) (exec_move (.tmp 1) _ rfl (hE 1 (.int .i64 t) (by kernel_rfl) (by kernel_rfl))) rfl)) ?_
    refine fsteps_cons 6 rfl (fun a u hE hD hk => f_unless ((!(inB n 1 1048576))) rfl rfl rfl (hD 3 9 (by kernel_rfl)) (fun hb => f_call (o := ⟨some 11, _, _, _, _, _⟩) 19 #[.int .i64 t, .int .i64 1, .int .i64 1099511627776] rfl (wanted_b rfl rfl (hD 3 9 (by kernel_rfl)) (eq_false_of hb)) (exec_call 19 _ [.tmp 10, .const (.int .i64 1), .const (.int .i64 1099511627776)] _ [.int .i64 t, .int .i64 1, .int .i64 1099511627776] Try.func19 (by kernel_rfl) (by kernel_rfl) rfl (show [a.eval (.tmp 10), a.eval (.const (.int .i64 1)), a.eval (.const (.int .i64 1099511627776))] = [.int .i64 t, .int .i64 1, .int .i64 1099511627776] from (by rw [show a.eval (.tmp 10) = .int .i64 t from ((hD 4 10 (by kernel_rfl)).1 hb)] <;> rfl)) u) (kwithin_i _ _ _ u))) ?_
    refine fsteps_cons 7 rfl (fun a u hE hD hk => f_unless ((!(inB n 1 1048576))) rfl rfl rfl (hD 3 9 (by kernel_rfl)) (fun hb => f_val (o := ⟨some 12, _, _, _, _, _⟩) (.bool (!(inB t 1 1099511627776))) rfl (wanted_b rfl rfl (hD 3 9 (by kernel_rfl)) (eq_false_of hb)) (exec_not _ (.tmp 11) (inB t 1 1099511627776) rfl ((hD 5 11 (by kernel_rfl)).1 hb)) rfl)) ?_
    refine fsteps_cons 8 rfl (fun a u hE hD hk => f_as (show (((!(inB n 1 1048576)) || (!(inB t 1 1099511627776))) : Bool) = true from H.out) (f_val (o := ⟨some 13, _, _, _, _, _⟩) (.bool ((!(inB n 1 1048576)) || (!(inB t 1 1099511627776)))) rfl (wanted_none rfl _) (exec_pickor (.tmp 9) (.const (.bool true)) (.tmp 12) ((!(inB n 1 1048576))) ((!(inB t 1 1099511627776))) rfl (hD 3 9 (by kernel_rfl)) rfl (fun hb2 => ((hD 6 12 (by kernel_rfl)).1 hb2))) rfl)) ?_
    exact fsteps_nil
  intro gv w0 hV k0
  rw [show dstsOf _ 8 = [6, 7, 8, 9, 10, 11, 12, 13] by kernel_rfl]
  simp only [List.foldl_cons, List.foldl_nil, List.setIfInBounds_toArray, List.set_cons_succ, List.set_cons_zero, List.drop_succ_cons, List.drop_zero]
  rw [show gv 13 = .bool true from hV 7 13 (by kernel_rfl)]
  clear hV
  refine wpList_nil ?_
  go_wp2
  go_ret2
  exact ⟨rfl, k0⟩
theorem lnew_yes (n t : Int) (h : newB n t = true) (w : World) : Calls Try.prog 9 #[.int .i64 n, .int .i64 t] w fun e w' => ∃ g, e = .returned (.tuple #[.pointer (some ⟨g, 0, none⟩), .int .i64 0]) ∧ w.heap.size ≤ g ∧ Blk w' g 46 (Lok.none_ n t).cells ∧ Kept w w' := by
  have H : Hid ((!(inB n 1 1048576) || !(inB t 1 1099511627776)) = false) := by show _ = _; rw [← Bool.not_and]; unfold newB at h; rw [h]; rfl
  clear h
  go_enter Try.func9, Try.ntmps9
  go_upto_region 1 with fail
  refine wp_text 8 [.eq (.int .i64 n), .eq (.bool (inB n 1 1048576)), .eq (.bool (!(inB n 1 1048576))), .eq (.bool (!(inB n 1 1048576))), .cond (!(!(inB n 1 1048576))) (.eq (.int .i64 t)), .cond (!(!(inB n 1 1048576))) (.eq (.bool (inB t 1 1099511627776))), .cond (!(!(inB n 1 1048576))) (.eq (.bool (!(inB t 1 1099511627776)))), .eq (.bool false)] rfl (by kernel_rfl) ?_ ?_
  · refine sv 1 rfl rfl rfl (fun a u hE hD hk => exec_move (.tmp 0) _ rfl (hE 0 (.int .i64 n) (by kernel_rfl) (by kernel_rfl))) ?_
    refine fsteps_cons 2 rfl (fun a u hE hD hk => f_call (o := ⟨some 7, _, _, _, _, _⟩) 19 #[.int .i64 n, .int .i64 1, .int .i64 1048576] rfl (wanted_none rfl _) (exec_call 19 _ [.tmp 6, .const (.int .i64 1), .const (.int .i64 1048576)] _ [.int .i64 n, .int .i64 1, .int .i64 1048576] Try.func19 (by kernel_rfl) (by kernel_rfl) rfl (show [a.eval (.tmp 6), a.eval (.const (.int .i64 1)), a.eval (.const (.int .i64 1048576))] = [.int .i64 n, .int .i64 1, .int .i64 1048576] from (by rw [show a.eval (.tmp 6) = .int .i64 n from (hD 0 6 (by kernel_rfl))] <;> rfl)) u) (kwithin_i _ _ _ u)) ?_
    refine sv 3 rfl rfl rfl (fun a u hE hD hk => exec_not _ (.tmp 7) (inB n 1 1048576) rfl (hD 1 7 (by kernel_rfl))) ?_
    refine sv 4 rfl rfl rfl (fun a u hE hD hk => exec_move (.tmp 8) _ rfl (hD 2 8 (by kernel_rfl))) ?_
    refine fsteps_cons 5 rfl (fun a u hE hD hk => f_unless ((!(inB n 1 1048576))) rfl rfl rfl (hD 3 9 (by kernel_rfl)) (fun hb => f_val (o := ⟨some 10, _, _, _, _, _⟩) (.int .i64 t) rfl (wanted_b rfl rfl (hD 3 9 (by kernel_rfl)) (eq_false_of hb)) (exec_move (.tmp 1) _ rfl (hE 1 (.int .i64 t) (by kernel_rfl) (by kernel_rfl))) rfl)) ?_
    refine fsteps_cons 6 rfl (fun a u hE hD hk => f_unless ((!(inB n 1 1048576))) rfl rfl rfl (hD 3 9 (by kernel_rfl)) (fun hb => f_call (o := ⟨some 11, _, _, _, _, _⟩) 19 #[.int .i64 t, .int .i64 1, .int .i64 1099511627776] rfl (wanted_b rfl rfl (hD 3 9 (by kernel_rfl)) (eq_false_of hb)) (exec_call 19 _ [.tmp 10, .const (.int .i64 1), .const (.int .i64 1099511627776)] _ [.int .i64 t, .int .i64 1, .int .i64 1099511627776] Try.func19 (by kernel_rfl) (by kernel_rfl) rfl (show [a.eval (.tmp 10), a.eval (.const (.int .i64 1)), a.eval (.const (.int .i64 1099511627776))] = [.int .i64 t, .int .i64 1, .int .i64 1099511627776] from (by rw [show a.eval (.tmp 10) = .int .i64 t from ((hD 4 10 (by kernel_rfl)).1 hb)] <;> rfl)) u) (kwithin_i _ _ _ u))) ?_
    refine fsteps_cons 7 rfl (fun a u hE hD hk => f_unless ((!(inB n 1 1048576))) rfl rfl rfl (hD 3 9 (by kernel_rfl)) (fun hb => f_val (o := ⟨some 12, _, _, _, _, _⟩) (.bool (!(inB t 1 1099511627776))) rfl (wanted_b rfl rfl (hD 3 9 (by kernel_rfl)) (eq_false_of hb)) (exec_not _ (.tmp 11) (inB t 1 1099511627776) rfl ((hD 5 11 (by kernel_rfl)).1 hb)) rfl)) ?_
    refine fsteps_cons 8 rfl (fun a u hE hD hk => f_as (show (((!(inB n 1 1048576)) || (!(inB t 1 1099511627776))) : Bool) = false from H.out) (f_val (o := ⟨some 13, _, _, _, _, _⟩) (.bool ((!(inB n 1 1048576)) || (!(inB t 1 1099511627776)))) rfl (wanted_none rfl _) (exec_pickor (.tmp 9) (.const (.bool true)) (.tmp 12) ((!(inB n 1 1048576))) ((!(inB t 1 1099511627776))) rfl (hD 3 9 (by kernel_rfl)) rfl (fun hb2 => ((hD 6 12 (by kernel_rfl)).1 hb2))) rfl)) ?_
    exact fsteps_nil
  intro gv w0 hV k0
  rw [show dstsOf _ 8 = [6, 7, 8, 9, 10, 11, 12, 13] by kernel_rfl]
  simp only [List.foldl_cons, List.foldl_nil, List.setIfInBounds_toArray, List.set_cons_succ, List.set_cons_zero, List.drop_succ_cons, List.drop_zero]
  rw [show gv 13 = .bool false from hV 7 13 (by kernel_rfl)]
  clear hV
  refine wpList_nil ?_
  go_upto_region 3 with fail
  refine wp_region_lit ?_
  refine l_val (o := ⟨some 14, _, _, _, _, _⟩) (.int .i64 n) rfl (exec_move (.tmp 0) (.int .i64 n) rfl (by kernel_rfl)) ?_
  simp only [Act.put, List.setIfInBounds_toArray, List.set_cons_succ, List.set_cons_zero]
  refine l_val (o := ⟨some 15, _, _, _, _, _⟩) (.int .i64 t) rfl (exec_move (.tmp 1) (.int .i64 t) rfl (by kernel_rfl)) ?_
  simp only [Act.put, List.setIfInBounds_toArray, List.set_cons_succ, List.set_cons_zero]
  refine l_val (o := ⟨some 16, _, _, _, _, _⟩) (.agg (Lok.none_ n t).cells.toArray) rfl (exec_build 46 [(0, .tmp 14), (1, .tmp 15)] (Lok.none_ n t).cells rfl (by kernel_rfl)) ?_
  simp only [Act.put, List.setIfInBounds_toArray, List.set_cons_succ, List.set_cons_zero]
  refine l_new (o := ⟨some 17, _, _, _, _, _⟩) (.pointer (some ⟨w0.heap.size, 0, none⟩)) (w0.alloc (.cells (Lok.none_ n t).cells.toArray 46)) rfl (exec_box 46 (.tmp 16) (Lok.none_ n t).cells rfl (by kernel_rfl)) ?_
  have hN := Blk.new w0 46 (Lok.none_ n t).cells
  have kn : Kept w0 (w0.alloc (.cells (Lok.none_ n t).cells.toArray 46)) := (Keep.refl _ w0).alloc _
  generalize w0.alloc (.cells (Lok.none_ n t).cells.toArray 46) = w1 at hN kn ⊢
  simp only [Act.put, List.setIfInBounds_toArray, List.set_cons_succ, List.set_cons_zero]
  refine l_val (o := ⟨some 4, _, _, _, _, _⟩) (.pointer (some ⟨w0.heap.size, 0, none⟩)) rfl (exec_assign (.tmp 17) (.pointer (some ⟨w0.heap.size, 0, none⟩)) rfl (by kernel_rfl)) ?_
  simp only [Act.put, List.setIfInBounds_toArray, List.set_cons_succ, List.set_cons_zero]
  refine l_val (o := ⟨some 5, _, _, _, _, _⟩) (.int .i64 0) rfl (exec_assign (.const (.int .i64 0)) (.int .i64 0) rfl (by kernel_rfl)) ?_
  simp only [Act.put, List.setIfInBounds_toArray, List.set_cons_succ, List.set_cons_zero]
  refine wpList_nil ?_
  obtain ⟨g, hg⟩ : ∃ x, w0.heap.size = x := ⟨_, rfl⟩
  have zg := k0.size
  rw [hg] at hN zg ⊢
  have kw := k0.trans kn
  clear kn hg
  go_wp2
  go_ret2
  exact ⟨g, rfl, zg, hN, kw⟩
theorem llocked_at {g : Nat} {L : Lok} {now : Int} {b : Bool} {w : World} (hB : Blk w g 46 L.cells) (h : L.shut now = b) : Gives 11 #[.pointer (some ⟨g, 0, none⟩), .int .i64 now] w (.eq (.bool b)) := by
  refine gives_eq ?_
  have HR := Lib.hid (blk_range hB)
  have HV : Hid ((decide (L.k = L.n) && decide (now < L.u)) = b) := h
  clear hB h
  go_enter Try.func11, Try.ntmps11
  go_upto_region 1 with fail
  refine wp_free 18 [.eq (.pointer (some ⟨g, 0, none⟩)), .eq (.pointer (some ⟨g, 0, none⟩)), .eq (.pointer (some ⟨g, 2, none⟩)), .eq (.int .i64 L.k), .eq (.pointer (some ⟨g, 0, none⟩)), .eq (.pointer (some ⟨g, 0, none⟩)), .eq (.pointer (some ⟨g, 0, none⟩)), .eq (.int .i64 L.n), .eq (.bool (decide ((L.k : Int) = (L.n : Int)))), .eq (.bool (decide ((L.k : Int) = (L.n : Int)))), .cond (decide ((L.k : Int) = (L.n : Int))) (.eq (.int .i64 now)), .cond (decide ((L.k : Int) = (L.n : Int))) (.eq (.pointer (some ⟨g, 0, none⟩))), .cond (decide ((L.k : Int) = (L.n : Int))) (.eq (.pointer (some ⟨g, 0, none⟩))), .cond (decide ((L.k : Int) = (L.n : Int))) (.eq (.pointer (some ⟨g, 3, none⟩))), .cond (decide ((L.k : Int) = (L.n : Int))) (.eq (.int .i64 L.u)), .cond (decide ((L.k : Int) = (L.n : Int))) (.eq (.bool (decide ((now : Int) < (L.u : Int))))), .eq (.bool ((decide ((L.k : Int) = (L.n : Int))) && (decide ((now : Int) < (L.u : Int))))), .eq (.bool ((decide ((L.k : Int) = (L.n : Int))) && (decide ((now : Int) < (L.u : Int)))))] (by kernel_rfl) rfl (by kernel_rfl) ?_ ?_
  · refine sv 1 rfl rfl rfl (fun a u hE hD hk => exec_move (.tmp 0) _ rfl (hE 0 (.pointer (some ⟨g, 0, none⟩)) (by kernel_rfl) (by kernel_rfl))) ?_
    refine sv 2 rfl rfl rfl (fun a u hE hD hk => exec_nilp (.tmp 5) ⟨g, 0, none⟩ rfl (hD 0 5 (by kernel_rfl))) ?_
    refine sv 3 rfl rfl rfl (fun a u hE hD hk => exec_fldo 46 2 2 (.tmp 6) (g) (0) (2) rfl (hD 1 6 (by kernel_rfl)) (by kernel_rfl) rfl) ?_
    refine sv 4 rfl rfl rfl (fun a u hE hD hk => exec_loadi 3 Try.underlying3 (.tmp 7) ⟨g, 2, none⟩ (.int .i64 L.k) rfl (hD 2 7 (by kernel_rfl)) (range_int (range_kept HR.out hk) 2 _ rfl)) ?_
    refine sv 5 rfl rfl rfl (fun a u hE hD hk => exec_move (.tmp 0) _ rfl (hE 0 (.pointer (some ⟨g, 0, none⟩)) (by kernel_rfl) (by kernel_rfl))) ?_
    refine sv 6 rfl rfl rfl (fun a u hE hD hk => exec_nilp (.tmp 9) ⟨g, 0, none⟩ rfl (hD 4 9 (by kernel_rfl))) ?_
    refine sv 7 rfl rfl rfl (fun a u hE hD hk => exec_fldo 46 0 0 (.tmp 10) (g) (0) (0) rfl (hD 5 10 (by kernel_rfl)) (by kernel_rfl) rfl) ?_
    refine sv 8 rfl rfl rfl (fun a u hE hD hk => exec_loadi 3 Try.underlying3 (.tmp 11) ⟨g, 0, none⟩ (.int .i64 L.n) rfl (hD 6 11 (by kernel_rfl)) (range_int (range_kept HR.out hk) 0 _ rfl)) ?_
    refine sv 9 rfl rfl rfl (fun a u hE hD hk => exec_eqn (p := L.k) (q := L.n) rfl (hD 3 8 (by kernel_rfl)) (hD 7 12 (by kernel_rfl))) ?_
    refine sv 10 rfl rfl rfl (fun a u hE hD hk => exec_move (.tmp 13) _ rfl (hD 8 13 (by kernel_rfl))) ?_
    refine fsteps_cons 11 rfl (fun a u hE hD hk => f_if ((decide ((L.k : Int) = (L.n : Int)))) rfl rfl rfl (hD 9 14 (by kernel_rfl)) (fun hb => f_val (o := ⟨some 15, _, _, _, _, _⟩) (.int .i64 now) rfl (wanted_b rfl rfl (hD 9 14 (by kernel_rfl)) (eq_true_of hb)) (exec_move (.tmp 1) _ rfl (hE 1 (.int .i64 now) (by kernel_rfl) (by kernel_rfl))) rfl)) ?_
    refine fsteps_cons 12 rfl (fun a u hE hD hk => f_if ((decide ((L.k : Int) = (L.n : Int)))) rfl rfl rfl (hD 9 14 (by kernel_rfl)) (fun hb => f_val (o := ⟨some 16, _, _, _, _, _⟩) (.pointer (some ⟨g, 0, none⟩)) rfl (wanted_b rfl rfl (hD 9 14 (by kernel_rfl)) (eq_true_of hb)) (exec_move (.tmp 0) _ rfl (hE 0 (.pointer (some ⟨g, 0, none⟩)) (by kernel_rfl) (by kernel_rfl))) rfl)) ?_
    refine fsteps_cons 13 rfl (fun a u hE hD hk => f_if ((decide ((L.k : Int) = (L.n : Int)))) rfl rfl rfl (hD 9 14 (by kernel_rfl)) (fun hb => f_val (o := ⟨some 17, _, _, _, _, _⟩) (.pointer (some ⟨g, 0, none⟩)) rfl (wanted_b rfl rfl (hD 9 14 (by kernel_rfl)) (eq_true_of hb)) (exec_nilp (.tmp 16) ⟨g, 0, none⟩ rfl ((hD 11 16 (by kernel_rfl)).1 hb)) rfl)) ?_
    refine fsteps_cons 14 rfl (fun a u hE hD hk => f_if ((decide ((L.k : Int) = (L.n : Int)))) rfl rfl rfl (hD 9 14 (by kernel_rfl)) (fun hb => f_val (o := ⟨some 18, _, _, _, _, _⟩) (.pointer (some ⟨g, 3, none⟩)) rfl (wanted_b rfl rfl (hD 9 14 (by kernel_rfl)) (eq_true_of hb)) (exec_fldo 46 3 3 (.tmp 17) (g) (0) (3) rfl ((hD 12 17 (by kernel_rfl)).1 hb) (by kernel_rfl) rfl) rfl)) ?_
    refine fsteps_cons 15 rfl (fun a u hE hD hk => f_if ((decide ((L.k : Int) = (L.n : Int)))) rfl rfl rfl (hD 9 14 (by kernel_rfl)) (fun hb => f_val (o := ⟨some 19, _, _, _, _, _⟩) (.int .i64 L.u) rfl (wanted_b rfl rfl (hD 9 14 (by kernel_rfl)) (eq_true_of hb)) (exec_loadi 3 Try.underlying3 (.tmp 18) ⟨g, 3, none⟩ (.int .i64 L.u) rfl ((hD 13 18 (by kernel_rfl)).1 hb) (range_int (range_kept HR.out hk) 3 _ rfl)) rfl)) ?_
    refine fsteps_cons 16 rfl (fun a u hE hD hk => f_if ((decide ((L.k : Int) = (L.n : Int)))) rfl rfl rfl (hD 9 14 (by kernel_rfl)) (fun hb => f_val (o := ⟨some 20, _, _, _, _, _⟩) (.bool (decide ((now : Int) < (L.u : Int)))) rfl (wanted_b rfl rfl (hD 9 14 (by kernel_rfl)) (eq_true_of hb)) (exec_ltn (p := now) (q := L.u) rfl ((hD 10 15 (by kernel_rfl)).1 hb) ((hD 14 19 (by kernel_rfl)).1 hb)) rfl)) ?_
    refine sv 17 rfl rfl rfl (fun a u hE hD hk => exec_pickand (.tmp 14) (.tmp 20) (.const (.bool false)) ((decide ((L.k : Int) = (L.n : Int)))) ((decide ((now : Int) < (L.u : Int)))) rfl (hD 9 14 (by kernel_rfl)) (fun hb2 => ((hD 15 20 (by kernel_rfl)).1 hb2)) rfl) ?_
    refine sv 18 rfl rfl rfl (fun a u hE hD hk => exec_assign (.tmp 21) _ rfl (hD 16 21 (by kernel_rfl))) ?_
    exact fsteps_nil
  intro gv w0 hV k0
  rw [show dstsOf _ 18 = [5, 6, 7, 8, 9, 10, 11, 12, 13, 14, 15, 16, 17, 18, 19, 20, 21, 4] by kernel_rfl]
  simp only [List.foldl_cons, List.foldl_nil, List.setIfInBounds_toArray, List.set_cons_succ, List.set_cons_zero, List.drop_succ_cons, List.drop_zero]
  rw [show gv 4 = .bool ((decide ((L.k : Int) = (L.n : Int))) && (decide ((now : Int) < (L.u : Int)))) from hV 17 4 (by kernel_rfl)]
  clear hV
  refine wpList_nil ?_
  rw [HV.out]
  go_wp2
  go_ret
  exact ⟨rfl, k0⟩
theorem lwrong_any (g : Nat) (L : Lok) (w : World) (hB : Blk w g 46 L.cells) : Gives 12 #[.pointer (some ⟨g, 0, none⟩)] w (.eq (.int .i64 L.k)) := by
  refine gives_eq ?_
  have HR := Lib.hid (blk_range hB)
  clear hB
  go_enter Try.func12, Try.ntmps12
  go_upto_region 1 with fail
  refine wp_text 5 [.eq (.pointer (some ⟨g, 0, none⟩)), .eq (.pointer (some ⟨g, 0, none⟩)), .eq (.pointer (some ⟨g, 2, none⟩)), .eq (.int .i64 L.k), .eq (.int .i64 L.k)] rfl (by kernel_rfl) ?_ ?_
  · refine sv 1 rfl rfl rfl (fun a u hE hD hk => exec_move (.tmp 0) _ rfl (hE 0 (.pointer (some ⟨g, 0, none⟩)) (by kernel_rfl) (by kernel_rfl))) ?_
    refine sv 2 rfl rfl rfl (fun a u hE hD hk => exec_nilp (.tmp 3) ⟨g, 0, none⟩ rfl (hD 0 3 (by kernel_rfl))) ?_
    refine sv 3 rfl rfl rfl (fun a u hE hD hk => exec_fldo 46 2 2 (.tmp 4) (g) (0) (2) rfl (hD 1 4 (by kernel_rfl)) (by kernel_rfl) rfl) ?_
    refine sv 4 rfl rfl rfl (fun a u hE hD hk => exec_loadi 3 Try.underlying3 (.tmp 5) ⟨g, 2, none⟩ (.int .i64 L.k) rfl (hD 2 5 (by kernel_rfl)) (range_int (range_kept HR.out hk) 2 _ rfl)) ?_
    refine sv 5 rfl rfl rfl (fun a u hE hD hk => exec_assign (.tmp 6) _ rfl (hD 3 6 (by kernel_rfl))) ?_
    exact fsteps_nil
  intro gv w0 hV k0
  rw [show dstsOf _ 5 = [3, 4, 5, 6, 2] by kernel_rfl]
  simp only [List.foldl_cons, List.foldl_nil, List.setIfInBounds_toArray, List.set_cons_succ, List.set_cons_zero, List.drop_succ_cons, List.drop_zero]
  rw [show gv 2 = .int .i64 L.k from hV 4 2 (by kernel_rfl)]
  clear hV
  refine wpList_nil ?_
  go_wp2
  go_ret
  exact ⟨rfl, k0⟩
theorem lclear_any (g : Nat) (L : Lok) (w : World) (hB : Blk w g 46 L.cells) : Calls Try.prog 16 #[.pointer (some ⟨g, 0, none⟩)] w fun e w' => e = .returned (.tuple #[]) ∧ Blk w' g 46 L.clrM.cells ∧ Keep (· = g) w w' := by
  go_enter Try.func16, Try.ntmps16
  go_upto_region 0 with fail
  refine wp_text 3 [.eq (.pointer (some ⟨g, 0, none⟩)), .eq (.pointer (some ⟨g, 0, none⟩)), .eq (.pointer (some ⟨g, 2, none⟩))] rfl (by kernel_rfl) ?_ ?_
  · refine sv 1 rfl rfl rfl (fun a u hE hD hk => exec_move (.tmp 0) _ rfl (hE 0 (.pointer (some ⟨g, 0, none⟩)) (by kernel_rfl) (by kernel_rfl))) ?_
    refine sv 2 rfl rfl rfl (fun a u hE hD hk => exec_nilp (.tmp 2) ⟨g, 0, none⟩ rfl (hD 0 2 (by kernel_rfl))) ?_
    refine sv 3 rfl rfl rfl (fun a u hE hD hk => exec_fldo 46 2 2 (.tmp 3) (g) (0) (2) rfl (hD 1 3 (by kernel_rfl)) (by kernel_rfl) rfl) ?_
    exact fsteps_nil
  intro gv w1 hV k1
  rw [show dstsOf _ 3 = [2, 3, 4] by kernel_rfl]
  simp only [List.foldl_cons, List.foldl_nil, List.setIfInBounds_toArray, List.set_cons_succ, List.set_cons_zero, List.drop_succ_cons, List.drop_zero]
  rw [show gv 4 = .pointer (some ⟨g, 2, none⟩) from hV 2 4 (by kernel_rfl)]
  clear hV
  refine l_putN (o := ⟨none, _, _, _, _, _⟩) g 2 46 L.cells L.clrM.cells (0) (.tmp 4) (.const (.int .i64 0)) rfl rfl (by kernel_rfl) (by kernel_rfl) (hB.kept k1) (by rw [Lok.len4k]; omega) rfl ?_
  intro w2 hCw2 hKw2 hSw2
  simp only [Act.put]
  refine wpList_nil ?_
  have kz := (k1.mono (fun _ _ h => h.elim) : Keep (· = g) w w1).trans hKw2 (fun _ _ h => h)
  go_wp2
  go_end0
  exact ⟨rfl, hCw2, kz⟩
set_option maxRecDepth 100000 in
set_option maxHeartbeats 1600000 in
theorem lfailed_any (g : Nat) (L : Lok) (hO : L.Ok) (now : Int) (h0 : 0 ≤ now) (h1 : now ≤ 1099511627776) (w : World) (hB : Blk w g 46 L.cells) : Calls Try.prog 10 #[.pointer (some ⟨g, 0, none⟩), .int .i64 now] w fun e w' => e = .returned (.tuple #[]) ∧ Blk w' g 46 (L.failM now).cells ∧ Keep (· = g) w w' := by
  have HB := Lib.hid hB
  clear hB
  obtain ⟨c0, c1⟩ := hO.base_in
  have HO := Lib.hid hO
  obtain ⟨n0, n1, t0, t1, k0_, k1_, u0, u1⟩ := hO
  cases hs : L.shut now with
  | true =>
    rw [lfail_shut hs]
    have HS := Lib.hid hs
    clear hs c0 c1 n0 n1 t0 t1 k0_ k1_ u0 u1
    go_enter Try.func10, Try.ntmps10
    go_upto_region 0 with fail
    refine wp_text 3 [.eq (.pointer (some ⟨g, 0, none⟩)), .eq (.int .i64 now), .eq (.bool true)] rfl (by kernel_rfl) ?_ ?_
    · refine sv 1 rfl rfl rfl (fun a u hE hD hk => exec_move (.tmp 0) _ rfl (hE 0 (.pointer (some ⟨g, 0, none⟩)) (by kernel_rfl) (by kernel_rfl))) ?_
      refine sv 2 rfl rfl rfl (fun a u hE hD hk => exec_move (.tmp 1) _ rfl (hE 1 (.int .i64 now) (by kernel_rfl) (by kernel_rfl))) ?_
      refine fsteps_cons 3 rfl (fun a u hE hD hk => f_call (o := ⟨some 6, _, _, _, _, _⟩) 11 #[.pointer (some ⟨g, 0, none⟩), .int .i64 now] rfl (wanted_none rfl _) (exec_call 11 _ [.tmp 4, .tmp 5] _ [.pointer (some ⟨g, 0, none⟩), .int .i64 now] Try.func11 (by kernel_rfl) (by kernel_rfl) rfl (show [a.eval (.tmp 4), a.eval (.tmp 5)] = [.pointer (some ⟨g, 0, none⟩), .int .i64 now] from (by rw [show a.eval (.tmp 4) = .pointer (some ⟨g, 0, none⟩) from (hD 0 4 (by kernel_rfl)), show a.eval (.tmp 5) = .int .i64 now from (hD 1 5 (by kernel_rfl))] <;> rfl)) u) (llocked_at (HB.out.kept hk) HS.out)) ?_
      exact fsteps_nil
    intro gv w0 hV k0
    rw [show dstsOf _ 3 = [4, 5, 6] by kernel_rfl]
    simp only [List.foldl_cons, List.foldl_nil, List.setIfInBounds_toArray, List.set_cons_succ, List.set_cons_zero, List.drop_succ_cons, List.drop_zero]
    rw [show gv 6 = .bool true from hV 2 6 (by kernel_rfl)]
    clear hV
    refine wpList_nil ?_
    have HB0 := Lib.hid (HB.out.kept k0)
    clear HB HS HO
    have hB1 := HB0.out
    have kz : Keep (· = g) w w0 := k0.mono (fun _ _ h => h.elim)
    go_wp2
    (first | refine bodyPost_ret (results_none rfl _ _ _) rfl ?_ | (simp only [Exit.inBlock, Exit.then]; refine bodyPost_ret (results_none rfl _ _ _) rfl ?_))
    exact ⟨rfl, hB1, kz⟩
  | false =>
    rw [lfail_open hs]
    have HS := Lib.hid hs
    unfold Lok.one
    clear hs
    obtain ⟨b, hbs⟩ : ∃ b, L.base = b := ⟨_, rfl⟩
    rw [hbs] at c0 c1 ⊢
    obtain ⟨Y, hY⟩ : ∃ Y, Lok.mk L.n L.t (b + 1) (if b + 1 = L.n then now + L.t else L.u) = Y := ⟨_, rfl⟩
    rw [hY]
    have HY := Lib.hid hY
    clear hY
    by_cases hq : L.k = L.n
    · have hb0 : Hid (b = 0) := by show _ = _; rw [← hbs]; exact if_pos hq
      clear hbs
      go_enter Try.func10, Try.ntmps10
      go_upto_region 0 with fail
      refine wp_text 3 [.eq (.pointer (some ⟨g, 0, none⟩)), .eq (.int .i64 now), .eq (.bool false)] rfl (by kernel_rfl) ?_ ?_
      · refine sv 1 rfl rfl rfl (fun a u hE hD hk => exec_move (.tmp 0) _ rfl (hE 0 (.pointer (some ⟨g, 0, none⟩)) (by kernel_rfl) (by kernel_rfl))) ?_
        refine sv 2 rfl rfl rfl (fun a u hE hD hk => exec_move (.tmp 1) _ rfl (hE 1 (.int .i64 now) (by kernel_rfl) (by kernel_rfl))) ?_
        refine fsteps_cons 3 rfl (fun a u hE hD hk => f_call (o := ⟨some 6, _, _, _, _, _⟩) 11 #[.pointer (some ⟨g, 0, none⟩), .int .i64 now] rfl (wanted_none rfl _) (exec_call 11 _ [.tmp 4, .tmp 5] _ [.pointer (some ⟨g, 0, none⟩), .int .i64 now] Try.func11 (by kernel_rfl) (by kernel_rfl) rfl (show [a.eval (.tmp 4), a.eval (.tmp 5)] = [.pointer (some ⟨g, 0, none⟩), .int .i64 now] from (by rw [show a.eval (.tmp 4) = .pointer (some ⟨g, 0, none⟩) from (hD 0 4 (by kernel_rfl)), show a.eval (.tmp 5) = .int .i64 now from (hD 1 5 (by kernel_rfl))] <;> rfl)) u) (llocked_at (HB.out.kept hk) HS.out)) ?_
        exact fsteps_nil
      intro gv w0 hV k0
      rw [show dstsOf _ 3 = [4, 5, 6] by kernel_rfl]
      simp only [List.foldl_cons, List.foldl_nil, List.setIfInBounds_toArray, List.set_cons_succ, List.set_cons_zero, List.drop_succ_cons, List.drop_zero]
      rw [show gv 6 = .bool false from hV 2 6 (by kernel_rfl)]
      clear hV
      refine wpList_nil ?_
      have HB0 := Lib.hid (HB.out.kept k0)
      clear HB HS HO
      go_upto_region 1 with fail
      refine wp_free 9 [.eq (.pointer (some ⟨g, 0, none⟩)), .eq (.pointer (some ⟨g, 0, none⟩)), .eq (.pointer (some ⟨g, 2, none⟩)), .eq (.int .i64 L.k), .eq (.pointer (some ⟨g, 0, none⟩)), .eq (.pointer (some ⟨g, 0, none⟩)), .eq (.pointer (some ⟨g, 0, none⟩)), .eq (.int .i64 L.n), .eq (.bool true)] (by kernel_rfl) rfl (by kernel_rfl) ?_ ?_
      · refine sv 1 rfl rfl rfl (fun a u hE hD hk => exec_move (.tmp 0) _ rfl (hE 0 (.pointer (some ⟨g, 0, none⟩)) (by kernel_rfl) (by kernel_rfl))) ?_
        refine sv 2 rfl rfl rfl (fun a u hE hD hk => exec_nilp (.tmp 7) ⟨g, 0, none⟩ rfl (hD 0 7 (by kernel_rfl))) ?_
        refine sv 3 rfl rfl rfl (fun a u hE hD hk => exec_fldo 46 2 2 (.tmp 8) (g) (0) (2) rfl (hD 1 8 (by kernel_rfl)) (by kernel_rfl) rfl) ?_
        refine sv 4 rfl rfl rfl (fun a u hE hD hk => exec_loadi 3 Try.underlying3 (.tmp 9) ⟨g, 2, none⟩ (.int .i64 L.k) rfl (hD 2 9 (by kernel_rfl)) (range_int (range_kept (blk_range HB0.out) hk) 2 _ rfl)) ?_
        refine sv 5 rfl rfl rfl (fun a u hE hD hk => exec_move (.tmp 0) _ rfl (hE 0 (.pointer (some ⟨g, 0, none⟩)) (by kernel_rfl) (by kernel_rfl))) ?_
        refine sv 6 rfl rfl rfl (fun a u hE hD hk => exec_nilp (.tmp 11) ⟨g, 0, none⟩ rfl (hD 4 11 (by kernel_rfl))) ?_
        refine sv 7 rfl rfl rfl (fun a u hE hD hk => exec_fldo 46 0 0 (.tmp 12) (g) (0) (0) rfl (hD 5 12 (by kernel_rfl)) (by kernel_rfl) rfl) ?_
        refine sv 8 rfl rfl rfl (fun a u hE hD hk => exec_loadi 3 Try.underlying3 (.tmp 13) ⟨g, 0, none⟩ (.int .i64 L.n) rfl (hD 6 13 (by kernel_rfl)) (range_int (range_kept (blk_range HB0.out) hk) 0 _ rfl)) ?_
        refine fsteps_cons 9 rfl (fun a u hE hD hk => f_as (show ((decide ((L.k : Int) = (L.n : Int))) : Bool) = true from decide_eq_true (by omega)) (f_val (o := ⟨some 15, _, _, _, _, _⟩) (.bool (decide ((L.k : Int) = (L.n : Int)))) rfl (wanted_none rfl _) (exec_eqn (p := L.k) (q := L.n) rfl (hD 3 10 (by kernel_rfl)) (hD 7 14 (by kernel_rfl))) rfl)) ?_
        exact fsteps_nil
      intro gv w1 hV k1
      rw [show dstsOf _ 9 = [7, 8, 9, 10, 11, 12, 13, 14, 15] by kernel_rfl]
      simp only [List.foldl_cons, List.foldl_nil, List.setIfInBounds_toArray, List.set_cons_succ, List.set_cons_zero, List.drop_succ_cons, List.drop_zero]
      rw [show gv 15 = .bool true from hV 8 15 (by kernel_rfl)]
      clear hV
      refine wpList_nil ?_
      have HB1 := Lib.hid (HB0.out.kept k1)
      have kw1 := k0.trans k1
      clear HB0 k0 k1
      go_upto_region 2 with fail
      refine wp_text 3 [.eq (.pointer (some ⟨g, 0, none⟩)), .eq (.pointer (some ⟨g, 0, none⟩)), .eq (.pointer (some ⟨g, 2, none⟩))] rfl (by kernel_rfl) ?_ ?_
      · refine sv 1 rfl rfl rfl (fun a u hE hD hk => exec_move (.tmp 0) _ rfl (hE 0 (.pointer (some ⟨g, 0, none⟩)) (by kernel_rfl) (by kernel_rfl))) ?_
        refine sv 2 rfl rfl rfl (fun a u hE hD hk => exec_nilp (.tmp 16) ⟨g, 0, none⟩ rfl (hD 0 16 (by kernel_rfl))) ?_
        refine sv 3 rfl rfl rfl (fun a u hE hD hk => exec_fldo 46 2 2 (.tmp 17) (g) (0) (2) rfl (hD 1 17 (by kernel_rfl)) (by kernel_rfl) rfl) ?_
        exact fsteps_nil
      intro gv wa hV ka
      rw [show dstsOf _ 3 = [16, 17, 18] by kernel_rfl]
      simp only [List.foldl_cons, List.foldl_nil, List.setIfInBounds_toArray, List.set_cons_succ, List.set_cons_zero, List.drop_succ_cons, List.drop_zero]
      rw [show gv 18 = .pointer (some ⟨g, 2, none⟩) from hV 2 18 (by kernel_rfl)]
      clear hV
      refine l_putN (o := ⟨none, _, _, _, _, _⟩) g 2 46 L.cells (Lok.mk L.n L.t 0 L.u).cells (0) (.tmp 18) (.const (.int .i64 0)) rfl rfl (by kernel_rfl) (by kernel_rfl) (HB1.out.kept ka) (by rw [Lok.len4k]; omega) rfl ?_
      intro w2 hCw2 hKw2 hSw2
      simp only [Act.put]
      refine wpList_nil ?_
      have HB2 : Hid (Blk w2 g 46 (Lok.mk L.n L.t b L.u).cells) := by show Blk _ _ _ _; rw [hb0.out]; exact hCw2
      have kw2 : Keep (· = g) w w2 := ((kw1.trans ka).mono (fun _ _ h => h.elim) : Keep (· = g) w wa).trans hKw2 (fun _ _ h => h)
      clear hCw2 hKw2 hSw2 ka kw1 HB1 hb0
      obtain ⟨L1, hL1⟩ : ∃ L1 : Lok, L1 = Lok.mk L.n L.t b L.u := ⟨_, rfl⟩
      have en : L1.n = L.n := by rw [hL1]
      have et : L1.t = L.t := by rw [hL1]
      have ek : L1.k = b := by rw [hL1]
      have eu : L1.u = L.u := by rw [hL1]
      rw [← hL1] at HB2
      clear hL1
      go_upto_region 3 with fail
      refine wp_text 7 [.eq (.pointer (some ⟨g, 0, none⟩)), .eq (.pointer (some ⟨g, 0, none⟩)), .eq (.pointer (some ⟨g, 2, none⟩)), .eq (.int .i64 L1.k), .eq (.int .i64 ((L1.k : Int) + (1 : Int))), .eq (.pointer (some ⟨g, 0, none⟩)), .eq (.pointer (some ⟨g, 2, none⟩))] rfl (by kernel_rfl) ?_ ?_
      · refine sv 1 rfl rfl rfl (fun a u hE hD hk => exec_move (.tmp 0) _ rfl (hE 0 (.pointer (some ⟨g, 0, none⟩)) (by kernel_rfl) (by kernel_rfl))) ?_
        refine sv 2 rfl rfl rfl (fun a u hE hD hk => exec_nilp (.tmp 19) ⟨g, 0, none⟩ rfl (hD 0 19 (by kernel_rfl))) ?_
        refine sv 3 rfl rfl rfl (fun a u hE hD hk => exec_fldo 46 2 2 (.tmp 20) (g) (0) (2) rfl (hD 1 20 (by kernel_rfl)) (by kernel_rfl) rfl) ?_
        refine sv 4 rfl rfl rfl (fun a u hE hD hk => exec_loadi 3 Try.underlying3 (.tmp 21) ⟨g, 2, none⟩ (.int .i64 L1.k) rfl (hD 2 21 (by kernel_rfl)) (range_int (range_kept (blk_range HB2.out) hk) 2 _ rfl)) ?_
        refine sv 5 rfl rfl rfl (fun a u hE hD hk => exec_addn (p := (L1.k)) (q := (1)) ((L1.k : Int) + (1 : Int)) rfl (hD 3 22 (by kernel_rfl)) rfl rfl (by omega) (by omega)) ?_
        refine sv 6 rfl rfl rfl (fun a u hE hD hk => exec_nilp (.tmp 19) ⟨g, 0, none⟩ rfl (hD 0 19 (by kernel_rfl))) ?_
        refine sv 7 rfl rfl rfl (fun a u hE hD hk => exec_fldo 46 2 2 (.tmp 24) (g) (0) (2) rfl (hD 5 24 (by kernel_rfl)) (by kernel_rfl) rfl) ?_
        exact fsteps_nil
      intro gv w3 hV k3
      rw [show dstsOf _ 7 = [19, 20, 21, 22, 23, 24, 25] by kernel_rfl]
      simp only [List.foldl_cons, List.foldl_nil, List.setIfInBounds_toArray, List.set_cons_succ, List.set_cons_zero, List.drop_succ_cons, List.drop_zero]
      rw [show gv 25 = .pointer (some ⟨g, 2, none⟩) from hV 6 25 (by kernel_rfl)]
      rw [show gv 23 = .int .i64 ((L1.k : Int) + (1 : Int)) from hV 4 23 (by kernel_rfl)]
      clear hV
      refine l_putN (o := ⟨none, _, _, _, _, _⟩) g 2 46 L1.cells (Lok.mk L1.n L1.t (L1.k + 1) L1.u).cells (L1.k + 1) (.tmp 25) (.tmp 23) rfl rfl (by kernel_rfl) (by kernel_rfl) (HB2.out.kept k3) (by rw [Lok.len4k]; omega) rfl ?_
      intro w4 hCw4 hKw4 hSw4
      simp only [Act.put]
      refine wpList_nil ?_
      have HB4 := Lib.hid hCw4
      have kw4 := (kw2.kept k3).trans hKw4 (fun _ _ h => h)
      clear hCw4 hKw4 hSw4 k3 kw2 HB2
      obtain ⟨L2, hL2⟩ : ∃ L2 : Lok, L2 = Lok.mk L1.n L1.t (L1.k + 1) L1.u := ⟨_, rfl⟩
      have fn : L2.n = L.n := by rw [hL2]; exact en
      have ft : L2.t = L.t := by rw [hL2]; exact et
      have fk : L2.k = b + 1 := by rw [hL2, ← ek]
      have fu : L2.u = L.u := by rw [hL2]; exact eu
      rw [← hL2] at HB4
      clear hL2 en et ek eu
      by_cases hz : b + 1 = L.n
      · have e : Hid (Lok.mk L2.n L2.t L2.k (now + L2.t) = Y) := by show _ = _; rw [fn, ft, fk, ← HY.out, if_pos hz]
        go_upto_region 4 with fail
        refine wp_free 9 [.eq (.pointer (some ⟨g, 0, none⟩)), .eq (.pointer (some ⟨g, 0, none⟩)), .eq (.pointer (some ⟨g, 2, none⟩)), .eq (.int .i64 L2.k), .eq (.pointer (some ⟨g, 0, none⟩)), .eq (.pointer (some ⟨g, 0, none⟩)), .eq (.pointer (some ⟨g, 0, none⟩)), .eq (.int .i64 L2.n), .eq (.bool true)] (by kernel_rfl) rfl (by kernel_rfl) ?_ ?_
        · refine sv 1 rfl rfl rfl (fun a u hE hD hk => exec_move (.tmp 0) _ rfl (hE 0 (.pointer (some ⟨g, 0, none⟩)) (by kernel_rfl) (by kernel_rfl))) ?_
          refine sv 2 rfl rfl rfl (fun a u hE hD hk => exec_nilp (.tmp 26) ⟨g, 0, none⟩ rfl (hD 0 26 (by kernel_rfl))) ?_
          refine sv 3 rfl rfl rfl (fun a u hE hD hk => exec_fldo 46 2 2 (.tmp 27) (g) (0) (2) rfl (hD 1 27 (by kernel_rfl)) (by kernel_rfl) rfl) ?_
          refine sv 4 rfl rfl rfl (fun a u hE hD hk => exec_loadi 3 Try.underlying3 (.tmp 28) ⟨g, 2, none⟩ (.int .i64 L2.k) rfl (hD 2 28 (by kernel_rfl)) (range_int (range_kept (blk_range HB4.out) hk) 2 _ rfl)) ?_
          refine sv 5 rfl rfl rfl (fun a u hE hD hk => exec_move (.tmp 0) _ rfl (hE 0 (.pointer (some ⟨g, 0, none⟩)) (by kernel_rfl) (by kernel_rfl))) ?_
          refine sv 6 rfl rfl rfl (fun a u hE hD hk => exec_nilp (.tmp 30) ⟨g, 0, none⟩ rfl (hD 4 30 (by kernel_rfl))) ?_
          refine sv 7 rfl rfl rfl (fun a u hE hD hk => exec_fldo 46 0 0 (.tmp 31) (g) (0) (0) rfl (hD 5 31 (by kernel_rfl)) (by kernel_rfl) rfl) ?_
          refine sv 8 rfl rfl rfl (fun a u hE hD hk => exec_loadi 3 Try.underlying3 (.tmp 32) ⟨g, 0, none⟩ (.int .i64 L2.n) rfl (hD 6 32 (by kernel_rfl)) (range_int (range_kept (blk_range HB4.out) hk) 0 _ rfl)) ?_
          refine fsteps_cons 9 rfl (fun a u hE hD hk => f_as (show ((decide ((L2.k : Int) = (L2.n : Int))) : Bool) = true from decide_eq_true (by omega)) (f_val (o := ⟨some 34, _, _, _, _, _⟩) (.bool (decide ((L2.k : Int) = (L2.n : Int)))) rfl (wanted_none rfl _) (exec_eqn (p := L2.k) (q := L2.n) rfl (hD 3 29 (by kernel_rfl)) (hD 7 33 (by kernel_rfl))) rfl)) ?_
          exact fsteps_nil
        intro gv w5 hV k5
        rw [show dstsOf _ 9 = [26, 27, 28, 29, 30, 31, 32, 33, 34] by kernel_rfl]
        simp only [List.foldl_cons, List.foldl_nil, List.setIfInBounds_toArray, List.set_cons_succ, List.set_cons_zero, List.drop_succ_cons, List.drop_zero]
        rw [show gv 34 = .bool true from hV 8 34 (by kernel_rfl)]
        clear hV
        refine wpList_nil ?_
        have HB5 := Lib.hid (HB4.out.kept k5)
        have kw5 := kw4.kept k5
        clear HB4 kw4 k5
        go_upto_region 5 with fail
        refine wp_text 9 [.eq (.pointer (some ⟨g, 0, none⟩)), .eq (.int .i64 now), .eq (.pointer (some ⟨g, 0, none⟩)), .eq (.pointer (some ⟨g, 0, none⟩)), .eq (.pointer (some ⟨g, 1, none⟩)), .eq (.int .i64 L2.t), .eq (.int .i64 ((now : Int) + (L2.t : Int))), .eq (.pointer (some ⟨g, 0, none⟩)), .eq (.pointer (some ⟨g, 3, none⟩))] rfl (by kernel_rfl) ?_ ?_
        · refine sv 1 rfl rfl rfl (fun a u hE hD hk => exec_move (.tmp 0) _ rfl (hE 0 (.pointer (some ⟨g, 0, none⟩)) (by kernel_rfl) (by kernel_rfl))) ?_
          refine sv 2 rfl rfl rfl (fun a u hE hD hk => exec_move (.tmp 1) _ rfl (hE 1 (.int .i64 now) (by kernel_rfl) (by kernel_rfl))) ?_
          refine sv 3 rfl rfl rfl (fun a u hE hD hk => exec_move (.tmp 0) _ rfl (hE 0 (.pointer (some ⟨g, 0, none⟩)) (by kernel_rfl) (by kernel_rfl))) ?_
          refine sv 4 rfl rfl rfl (fun a u hE hD hk => exec_nilp (.tmp 37) ⟨g, 0, none⟩ rfl (hD 2 37 (by kernel_rfl))) ?_
          refine sv 5 rfl rfl rfl (fun a u hE hD hk => exec_fldo 46 1 1 (.tmp 38) (g) (0) (1) rfl (hD 3 38 (by kernel_rfl)) (by kernel_rfl) rfl) ?_
          refine sv 6 rfl rfl rfl (fun a u hE hD hk => exec_loadi 3 Try.underlying3 (.tmp 39) ⟨g, 1, none⟩ (.int .i64 L2.t) rfl (hD 4 39 (by kernel_rfl)) (range_int (range_kept (blk_range HB5.out) hk) 1 _ rfl)) ?_
          refine sv 7 rfl rfl rfl (fun a u hE hD hk => exec_addn (p := (now)) (q := (L2.t)) ((now : Int) + (L2.t : Int)) rfl (hD 1 36 (by kernel_rfl)) (hD 5 40 (by kernel_rfl)) rfl (by omega) (by omega)) ?_
          refine sv 8 rfl rfl rfl (fun a u hE hD hk => exec_nilp (.tmp 35) ⟨g, 0, none⟩ rfl (hD 0 35 (by kernel_rfl))) ?_
          refine sv 9 rfl rfl rfl (fun a u hE hD hk => exec_fldo 46 3 3 (.tmp 42) (g) (0) (3) rfl (hD 7 42 (by kernel_rfl)) (by kernel_rfl) rfl) ?_
          exact fsteps_nil
        intro gv w6 hV k6
        rw [show dstsOf _ 9 = [35, 36, 37, 38, 39, 40, 41, 42, 43] by kernel_rfl]
        simp only [List.foldl_cons, List.foldl_nil, List.setIfInBounds_toArray, List.set_cons_succ, List.set_cons_zero, List.drop_succ_cons, List.drop_zero]
        rw [show gv 43 = .pointer (some ⟨g, 3, none⟩) from hV 8 43 (by kernel_rfl)]
        rw [show gv 41 = .int .i64 ((now : Int) + (L2.t : Int)) from hV 6 41 (by kernel_rfl)]
        clear hV
        refine l_putN (o := ⟨none, _, _, _, _, _⟩) g 3 46 L2.cells (Lok.mk L2.n L2.t L2.k (now + L2.t)).cells (now + L2.t) (.tmp 43) (.tmp 41) rfl rfl (by kernel_rfl) (by kernel_rfl) (HB5.out.kept k6) (by rw [Lok.len4k]; omega) rfl ?_
        intro w7 hCw7 hKw7 hSw7
        simp only [Act.put]
        refine wpList_nil ?_
        have kz := (kw5.kept k6).trans hKw7 (fun _ _ h => h)
        rw [e.out] at hCw7
        go_wp2
        go_end0
        exact ⟨rfl, hCw7, kz⟩
      · have e : Hid (L2 = Y) := by
          show _ = _
          rw [← HY.out, if_neg hz, ← fn, ← ft, ← fk, ← fu]
        go_upto_region 4 with fail
        refine wp_free 9 [.eq (.pointer (some ⟨g, 0, none⟩)), .eq (.pointer (some ⟨g, 0, none⟩)), .eq (.pointer (some ⟨g, 2, none⟩)), .eq (.int .i64 L2.k), .eq (.pointer (some ⟨g, 0, none⟩)), .eq (.pointer (some ⟨g, 0, none⟩)), .eq (.pointer (some ⟨g, 0, none⟩)), .eq (.int .i64 L2.n), .eq (.bool false)] (by kernel_rfl) rfl (by kernel_rfl) ?_ ?_
        · refine sv 1 rfl rfl rfl (fun a u hE hD hk => exec_move (.tmp 0) _ rfl (hE 0 (.pointer (some ⟨g, 0, none⟩)) (by kernel_rfl) (by kernel_rfl))) ?_
          refine sv 2 rfl rfl rfl (fun a u hE hD hk => exec_nilp (.tmp 26) ⟨g, 0, none⟩ rfl (hD 0 26 (by kernel_rfl))) ?_
          refine sv 3 rfl rfl rfl (fun a u hE hD hk => exec_fldo 46 2 2 (.tmp 27) (g) (0) (2) rfl (hD 1 27 (by kernel_rfl)) (by kernel_rfl) rfl) ?_
          refine sv 4 rfl rfl rfl (fun a u hE hD hk => exec_loadi 3 Try.underlying3 (.tmp 28) ⟨g, 2, none⟩ (.int .i64 L2.k) rfl (hD 2 28 (by kernel_rfl)) (range_int (range_kept (blk_range HB4.out) hk) 2 _ rfl)) ?_
          refine sv 5 rfl rfl rfl (fun a u hE hD hk => exec_move (.tmp 0) _ rfl (hE 0 (.pointer (some ⟨g, 0, none⟩)) (by kernel_rfl) (by kernel_rfl))) ?_
          refine sv 6 rfl rfl rfl (fun a u hE hD hk => exec_nilp (.tmp 30) ⟨g, 0, none⟩ rfl (hD 4 30 (by kernel_rfl))) ?_
          refine sv 7 rfl rfl rfl (fun a u hE hD hk => exec_fldo 46 0 0 (.tmp 31) (g) (0) (0) rfl (hD 5 31 (by kernel_rfl)) (by kernel_rfl) rfl) ?_
          refine sv 8 rfl rfl rfl (fun a u hE hD hk => exec_loadi 3 Try.underlying3 (.tmp 32) ⟨g, 0, none⟩ (.int .i64 L2.n) rfl (hD 6 32 (by kernel_rfl)) (range_int (range_kept (blk_range HB4.out) hk) 0 _ rfl)) ?_
          refine fsteps_cons 9 rfl (fun a u hE hD hk => f_as (show ((decide ((L2.k : Int) = (L2.n : Int))) : Bool) = false from decide_eq_false (by omega)) (f_val (o := ⟨some 34, _, _, _, _, _⟩) (.bool (decide ((L2.k : Int) = (L2.n : Int)))) rfl (wanted_none rfl _) (exec_eqn (p := L2.k) (q := L2.n) rfl (hD 3 29 (by kernel_rfl)) (hD 7 33 (by kernel_rfl))) rfl)) ?_
          exact fsteps_nil
        intro gv w5 hV k5
        rw [show dstsOf _ 9 = [26, 27, 28, 29, 30, 31, 32, 33, 34] by kernel_rfl]
        simp only [List.foldl_cons, List.foldl_nil, List.setIfInBounds_toArray, List.set_cons_succ, List.set_cons_zero, List.drop_succ_cons, List.drop_zero]
        rw [show gv 34 = .bool false from hV 8 34 (by kernel_rfl)]
        clear hV
        refine wpList_nil ?_
        have hC5 := HB4.out.kept k5
        have kz := kw4.kept k5
        rw [e.out] at hC5
        go_wp2
        go_end0
        exact ⟨rfl, hC5, kz⟩
    · have hb0 : Hid (L.k = b) := by show _ = _; rw [← hbs]; exact (if_neg hq).symm
      clear hbs
      go_enter Try.func10, Try.ntmps10
      go_upto_region 0 with fail
      refine wp_text 3 [.eq (.pointer (some ⟨g, 0, none⟩)), .eq (.int .i64 now), .eq (.bool false)] rfl (by kernel_rfl) ?_ ?_
      · refine sv 1 rfl rfl rfl (fun a u hE hD hk => exec_move (.tmp 0) _ rfl (hE 0 (.pointer (some ⟨g, 0, none⟩)) (by kernel_rfl) (by kernel_rfl))) ?_
        refine sv 2 rfl rfl rfl (fun a u hE hD hk => exec_move (.tmp 1) _ rfl (hE 1 (.int .i64 now) (by kernel_rfl) (by kernel_rfl))) ?_
        refine fsteps_cons 3 rfl (fun a u hE hD hk => f_call (o := ⟨some 6, _, _, _, _, _⟩) 11 #[.pointer (some ⟨g, 0, none⟩), .int .i64 now] rfl (wanted_none rfl _) (exec_call 11 _ [.tmp 4, .tmp 5] _ [.pointer (some ⟨g, 0, none⟩), .int .i64 now] Try.func11 (by kernel_rfl) (by kernel_rfl) rfl (show [a.eval (.tmp 4), a.eval (.tmp 5)] = [.pointer (some ⟨g, 0, none⟩), .int .i64 now] from (by rw [show a.eval (.tmp 4) = .pointer (some ⟨g, 0, none⟩) from (hD 0 4 (by kernel_rfl)), show a.eval (.tmp 5) = .int .i64 now from (hD 1 5 (by kernel_rfl))] <;> rfl)) u) (llocked_at (HB.out.kept hk) HS.out)) ?_
        exact fsteps_nil
      intro gv w0 hV k0
      rw [show dstsOf _ 3 = [4, 5, 6] by kernel_rfl]
      simp only [List.foldl_cons, List.foldl_nil, List.setIfInBounds_toArray, List.set_cons_succ, List.set_cons_zero, List.drop_succ_cons, List.drop_zero]
      rw [show gv 6 = .bool false from hV 2 6 (by kernel_rfl)]
      clear hV
      refine wpList_nil ?_
      have HB0 := Lib.hid (HB.out.kept k0)
      clear HB HS HO
      go_upto_region 1 with fail
      refine wp_free 9 [.eq (.pointer (some ⟨g, 0, none⟩)), .eq (.pointer (some ⟨g, 0, none⟩)), .eq (.pointer (some ⟨g, 2, none⟩)), .eq (.int .i64 L.k), .eq (.pointer (some ⟨g, 0, none⟩)), .eq (.pointer (some ⟨g, 0, none⟩)), .eq (.pointer (some ⟨g, 0, none⟩)), .eq (.int .i64 L.n), .eq (.bool false)] (by kernel_rfl) rfl (by kernel_rfl) ?_ ?_
      · refine sv 1 rfl rfl rfl (fun a u hE hD hk => exec_move (.tmp 0) _ rfl (hE 0 (.pointer (some ⟨g, 0, none⟩)) (by kernel_rfl) (by kernel_rfl))) ?_
        refine sv 2 rfl rfl rfl (fun a u hE hD hk => exec_nilp (.tmp 7) ⟨g, 0, none⟩ rfl (hD 0 7 (by kernel_rfl))) ?_
        refine sv 3 rfl rfl rfl (fun a u hE hD hk => exec_fldo 46 2 2 (.tmp 8) (g) (0) (2) rfl (hD 1 8 (by kernel_rfl)) (by kernel_rfl) rfl) ?_
        refine sv 4 rfl rfl rfl (fun a u hE hD hk => exec_loadi 3 Try.underlying3 (.tmp 9) ⟨g, 2, none⟩ (.int .i64 L.k) rfl (hD 2 9 (by kernel_rfl)) (range_int (range_kept (blk_range HB0.out) hk) 2 _ rfl)) ?_
        refine sv 5 rfl rfl rfl (fun a u hE hD hk => exec_move (.tmp 0) _ rfl (hE 0 (.pointer (some ⟨g, 0, none⟩)) (by kernel_rfl) (by kernel_rfl))) ?_
        refine sv 6 rfl rfl rfl (fun a u hE hD hk => exec_nilp (.tmp 11) ⟨g, 0, none⟩ rfl (hD 4 11 (by kernel_rfl))) ?_
        refine sv 7 rfl rfl rfl (fun a u hE hD hk => exec_fldo 46 0 0 (.tmp 12) (g) (0) (0) rfl (hD 5 12 (by kernel_rfl)) (by kernel_rfl) rfl) ?_
        refine sv 8 rfl rfl rfl (fun a u hE hD hk => exec_loadi 3 Try.underlying3 (.tmp 13) ⟨g, 0, none⟩ (.int .i64 L.n) rfl (hD 6 13 (by kernel_rfl)) (range_int (range_kept (blk_range HB0.out) hk) 0 _ rfl)) ?_
        refine fsteps_cons 9 rfl (fun a u hE hD hk => f_as (show ((decide ((L.k : Int) = (L.n : Int))) : Bool) = false from decide_eq_false (by omega)) (f_val (o := ⟨some 15, _, _, _, _, _⟩) (.bool (decide ((L.k : Int) = (L.n : Int)))) rfl (wanted_none rfl _) (exec_eqn (p := L.k) (q := L.n) rfl (hD 3 10 (by kernel_rfl)) (hD 7 14 (by kernel_rfl))) rfl)) ?_
        exact fsteps_nil
      intro gv w1 hV k1
      rw [show dstsOf _ 9 = [7, 8, 9, 10, 11, 12, 13, 14, 15] by kernel_rfl]
      simp only [List.foldl_cons, List.foldl_nil, List.setIfInBounds_toArray, List.set_cons_succ, List.set_cons_zero, List.drop_succ_cons, List.drop_zero]
      rw [show gv 15 = .bool false from hV 8 15 (by kernel_rfl)]
      clear hV
      refine wpList_nil ?_
      have HB1 := Lib.hid (HB0.out.kept k1)
      have kw1 := k0.trans k1
      clear HB0 k0 k1
      have HB2 : Hid (Blk w1 g 46 (Lok.mk L.n L.t b L.u).cells) := by show Blk _ _ _ _; rw [← hb0.out]; exact HB1.out
      have kw2 : Keep (· = g) w w1 := kw1.mono (fun _ _ h => h.elim)
      clear kw1 HB1 hb0
      obtain ⟨L1, hL1⟩ : ∃ L1 : Lok, L1 = Lok.mk L.n L.t b L.u := ⟨_, rfl⟩
      have en : L1.n = L.n := by rw [hL1]
      have et : L1.t = L.t := by rw [hL1]
      have ek : L1.k = b := by rw [hL1]
      have eu : L1.u = L.u := by rw [hL1]
      rw [← hL1] at HB2
      clear hL1
      go_upto_region 3 with fail
      refine wp_text 7 [.eq (.pointer (some ⟨g, 0, none⟩)), .eq (.pointer (some ⟨g, 0, none⟩)), .eq (.pointer (some ⟨g, 2, none⟩)), .eq (.int .i64 L1.k), .eq (.int .i64 ((L1.k : Int) + (1 : Int))), .eq (.pointer (some ⟨g, 0, none⟩)), .eq (.pointer (some ⟨g, 2, none⟩))] rfl (by kernel_rfl) ?_ ?_
      · refine sv 1 rfl rfl rfl (fun a u hE hD hk => exec_move (.tmp 0) _ rfl (hE 0 (.pointer (some ⟨g, 0, none⟩)) (by kernel_rfl) (by kernel_rfl))) ?_
        refine sv 2 rfl rfl rfl (fun a u hE hD hk => exec_nilp (.tmp 19) ⟨g, 0, none⟩ rfl (hD 0 19 (by kernel_rfl))) ?_
        refine sv 3 rfl rfl rfl (fun a u hE hD hk => exec_fldo 46 2 2 (.tmp 20) (g) (0) (2) rfl (hD 1 20 (by kernel_rfl)) (by kernel_rfl) rfl) ?_
        refine sv 4 rfl rfl rfl (fun a u hE hD hk => exec_loadi 3 Try.underlying3 (.tmp 21) ⟨g, 2, none⟩ (.int .i64 L1.k) rfl (hD 2 21 (by kernel_rfl)) (range_int (range_kept (blk_range HB2.out) hk) 2 _ rfl)) ?_
        refine sv 5 rfl rfl rfl (fun a u hE hD hk => exec_addn (p := (L1.k)) (q := (1)) ((L1.k : Int) + (1 : Int)) rfl (hD 3 22 (by kernel_rfl)) rfl rfl (by omega) (by omega)) ?_
        refine sv 6 rfl rfl rfl (fun a u hE hD hk => exec_nilp (.tmp 19) ⟨g, 0, none⟩ rfl (hD 0 19 (by kernel_rfl))) ?_
        refine sv 7 rfl rfl rfl (fun a u hE hD hk => exec_fldo 46 2 2 (.tmp 24) (g) (0) (2) rfl (hD 5 24 (by kernel_rfl)) (by kernel_rfl) rfl) ?_
        exact fsteps_nil
      intro gv w3 hV k3
      rw [show dstsOf _ 7 = [19, 20, 21, 22, 23, 24, 25] by kernel_rfl]
      simp only [List.foldl_cons, List.foldl_nil, List.setIfInBounds_toArray, List.set_cons_succ, List.set_cons_zero, List.drop_succ_cons, List.drop_zero]
      rw [show gv 25 = .pointer (some ⟨g, 2, none⟩) from hV 6 25 (by kernel_rfl)]
      rw [show gv 23 = .int .i64 ((L1.k : Int) + (1 : Int)) from hV 4 23 (by kernel_rfl)]
      clear hV
      refine l_putN (o := ⟨none, _, _, _, _, _⟩) g 2 46 L1.cells (Lok.mk L1.n L1.t (L1.k + 1) L1.u).cells (L1.k + 1) (.tmp 25) (.tmp 23) rfl rfl (by kernel_rfl) (by kernel_rfl) (HB2.out.kept k3) (by rw [Lok.len4k]; omega) rfl ?_
      intro w4 hCw4 hKw4 hSw4
      simp only [Act.put]
      refine wpList_nil ?_
      have HB4 := Lib.hid hCw4
      have kw4 := (kw2.kept k3).trans hKw4 (fun _ _ h => h)
      clear hCw4 hKw4 hSw4 k3 kw2 HB2
      obtain ⟨L2, hL2⟩ : ∃ L2 : Lok, L2 = Lok.mk L1.n L1.t (L1.k + 1) L1.u := ⟨_, rfl⟩
      have fn : L2.n = L.n := by rw [hL2]; exact en
      have ft : L2.t = L.t := by rw [hL2]; exact et
      have fk : L2.k = b + 1 := by rw [hL2, ← ek]
      have fu : L2.u = L.u := by rw [hL2]; exact eu
      rw [← hL2] at HB4
      clear hL2 en et ek eu
      by_cases hz : b + 1 = L.n
      · have e : Hid (Lok.mk L2.n L2.t L2.k (now + L2.t) = Y) := by show _ = _; rw [fn, ft, fk, ← HY.out, if_pos hz]
        go_upto_region 4 with fail
        refine wp_free 9 [.eq (.pointer (some ⟨g, 0, none⟩)), .eq (.pointer (some ⟨g, 0, none⟩)), .eq (.pointer (some ⟨g, 2, none⟩)), .eq (.int .i64 L2.k), .eq (.pointer (some ⟨g, 0, none⟩)), .eq (.pointer (some ⟨g, 0, none⟩)), .eq (.pointer (some ⟨g, 0, none⟩)), .eq (.int .i64 L2.n), .eq (.bool true)] (by kernel_rfl) rfl (by kernel_rfl) ?_ ?_
        · refine sv 1 rfl rfl rfl (fun a u hE hD hk => exec_move (.tmp 0) _ rfl (hE 0 (.pointer (some ⟨g, 0, none⟩)) (by kernel_rfl) (by kernel_rfl))) ?_
          refine sv 2 rfl rfl rfl (fun a u hE hD hk => exec_nilp (.tmp 26) ⟨g, 0, none⟩ rfl (hD 0 26 (by kernel_rfl))) ?_
          refine sv 3 rfl rfl rfl (fun a u hE hD hk => exec_fldo 46 2 2 (.tmp 27) (g) (0) (2) rfl (hD 1 27 (by kernel_rfl)) (by kernel_rfl) rfl) ?_
          refine sv 4 rfl rfl rfl (fun a u hE hD hk => exec_loadi 3 Try.underlying3 (.tmp 28) ⟨g, 2, none⟩ (.int .i64 L2.k) rfl (hD 2 28 (by kernel_rfl)) (range_int (range_kept (blk_range HB4.out) hk) 2 _ rfl)) ?_
          refine sv 5 rfl rfl rfl (fun a u hE hD hk => exec_move (.tmp 0) _ rfl (hE 0 (.pointer (some ⟨g, 0, none⟩)) (by kernel_rfl) (by kernel_rfl))) ?_
          refine sv 6 rfl rfl rfl (fun a u hE hD hk => exec_nilp (.tmp 30) ⟨g, 0, none⟩ rfl (hD 4 30 (by kernel_rfl))) ?_
          refine sv 7 rfl rfl rfl (fun a u hE hD hk => exec_fldo 46 0 0 (.tmp 31) (g) (0) (0) rfl (hD 5 31 (by kernel_rfl)) (by kernel_rfl) rfl) ?_
          refine sv 8 rfl rfl rfl (fun a u hE hD hk => exec_loadi 3 Try.underlying3 (.tmp 32) ⟨g, 0, none⟩ (.int .i64 L2.n) rfl (hD 6 32 (by kernel_rfl)) (range_int (range_kept (blk_range HB4.out) hk) 0 _ rfl)) ?_
          refine fsteps_cons 9 rfl (fun a u hE hD hk => f_as (show ((decide ((L2.k : Int) = (L2.n : Int))) : Bool) = true from decide_eq_true (by omega)) (f_val (o := ⟨some 34, _, _, _, _, _⟩) (.bool (decide ((L2.k : Int) = (L2.n : Int)))) rfl (wanted_none rfl _) (exec_eqn (p := L2.k) (q := L2.n) rfl (hD 3 29 (by kernel_rfl)) (hD 7 33 (by kernel_rfl))) rfl)) ?_
          exact fsteps_nil
        intro gv w5 hV k5
        rw [show dstsOf _ 9 = [26, 27, 28, 29, 30, 31, 32, 33, 34] by kernel_rfl]
        simp only [List.foldl_cons, List.foldl_nil, List.setIfInBounds_toArray, List.set_cons_succ, List.set_cons_zero, List.drop_succ_cons, List.drop_zero]
        rw [show gv 34 = .bool true from hV 8 34 (by kernel_rfl)]
        clear hV
        refine wpList_nil ?_
        have HB5 := Lib.hid (HB4.out.kept k5)
        have kw5 := kw4.kept k5
        clear HB4 kw4 k5
        go_upto_region 5 with fail
        refine wp_text 9 [.eq (.pointer (some ⟨g, 0, none⟩)), .eq (.int .i64 now), .eq (.pointer (some ⟨g, 0, none⟩)), .eq (.pointer (some ⟨g, 0, none⟩)), .eq (.pointer (some ⟨g, 1, none⟩)), .eq (.int .i64 L2.t), .eq (.int .i64 ((now : Int) + (L2.t : Int))), .eq (.pointer (some ⟨g, 0, none⟩)), .eq (.pointer (some ⟨g, 3, none⟩))] rfl (by kernel_rfl) ?_ ?_
        · refine sv 1 rfl rfl rfl (fun a u hE hD hk => exec_move (.tmp 0) _ rfl (hE 0 (.pointer (some ⟨g, 0, none⟩)) (by kernel_rfl) (by kernel_rfl))) ?_
          refine sv 2 rfl rfl rfl (fun a u hE hD hk => exec_move (.tmp 1) _ rfl (hE 1 (.int .i64 now) (by kernel_rfl) (by kernel_rfl))) ?_
          refine sv 3 rfl rfl rfl (fun a u hE hD hk => exec_move (.tmp 0) _ rfl (hE 0 (.pointer (some ⟨g, 0, none⟩)) (by kernel_rfl) (by kernel_rfl))) ?_
          refine sv 4 rfl rfl rfl (fun a u hE hD hk => exec_nilp (.tmp 37) ⟨g, 0, none⟩ rfl (hD 2 37 (by kernel_rfl))) ?_
          refine sv 5 rfl rfl rfl (fun a u hE hD hk => exec_fldo 46 1 1 (.tmp 38) (g) (0) (1) rfl (hD 3 38 (by kernel_rfl)) (by kernel_rfl) rfl) ?_
          refine sv 6 rfl rfl rfl (fun a u hE hD hk => exec_loadi 3 Try.underlying3 (.tmp 39) ⟨g, 1, none⟩ (.int .i64 L2.t) rfl (hD 4 39 (by kernel_rfl)) (range_int (range_kept (blk_range HB5.out) hk) 1 _ rfl)) ?_
          refine sv 7 rfl rfl rfl (fun a u hE hD hk => exec_addn (p := (now)) (q := (L2.t)) ((now : Int) + (L2.t : Int)) rfl (hD 1 36 (by kernel_rfl)) (hD 5 40 (by kernel_rfl)) rfl (by omega) (by omega)) ?_
          refine sv 8 rfl rfl rfl (fun a u hE hD hk => exec_nilp (.tmp 35) ⟨g, 0, none⟩ rfl (hD 0 35 (by kernel_rfl))) ?_
          refine sv 9 rfl rfl rfl (fun a u hE hD hk => exec_fldo 46 3 3 (.tmp 42) (g) (0) (3) rfl (hD 7 42 (by kernel_rfl)) (by kernel_rfl) rfl) ?_
          exact fsteps_nil
        intro gv w6 hV k6
        rw [show dstsOf _ 9 = [35, 36, 37, 38, 39, 40, 41, 42, 43] by kernel_rfl]
        simp only [List.foldl_cons, List.foldl_nil, List.setIfInBounds_toArray, List.set_cons_succ, List.set_cons_zero, List.drop_succ_cons, List.drop_zero]
        rw [show gv 43 = .pointer (some ⟨g, 3, none⟩) from hV 8 43 (by kernel_rfl)]
        rw [show gv 41 = .int .i64 ((now : Int) + (L2.t : Int)) from hV 6 41 (by kernel_rfl)]
        clear hV
        refine l_putN (o := ⟨none, _, _, _, _, _⟩) g 3 46 L2.cells (Lok.mk L2.n L2.t L2.k (now + L2.t)).cells (now + L2.t) (.tmp 43) (.tmp 41) rfl rfl (by kernel_rfl) (by kernel_rfl) (HB5.out.kept k6) (by rw [Lok.len4k]; omega) rfl ?_
        intro w7 hCw7 hKw7 hSw7
        simp only [Act.put]
        refine wpList_nil ?_
        have kz := (kw5.kept k6).trans hKw7 (fun _ _ h => h)
        rw [e.out] at hCw7
        go_wp2
        go_end0
        exact ⟨rfl, hCw7, kz⟩
      · have e : Hid (L2 = Y) := by
          show _ = _
          rw [← HY.out, if_neg hz, ← fn, ← ft, ← fk, ← fu]
        go_upto_region 4 with fail
        refine wp_free 9 [.eq (.pointer (some ⟨g, 0, none⟩)), .eq (.pointer (some ⟨g, 0, none⟩)), .eq (.pointer (some ⟨g, 2, none⟩)), .eq (.int .i64 L2.k), .eq (.pointer (some ⟨g, 0, none⟩)), .eq (.pointer (some ⟨g, 0, none⟩)), .eq (.pointer (some ⟨g, 0, none⟩)), .eq (.int .i64 L2.n), .eq (.bool false)] (by kernel_rfl) rfl (by kernel_rfl) ?_ ?_
        · refine sv 1 rfl rfl rfl (fun a u hE hD hk => exec_move (.tmp 0) _ rfl (hE 0 (.pointer (some ⟨g, 0, none⟩)) (by kernel_rfl) (by kernel_rfl))) ?_
          refine sv 2 rfl rfl rfl (fun a u hE hD hk => exec_nilp (.tmp 26) ⟨g, 0, none⟩ rfl (hD 0 26 (by kernel_rfl))) ?_
          refine sv 3 rfl rfl rfl (fun a u hE hD hk => exec_fldo 46 2 2 (.tmp 27) (g) (0) (2) rfl (hD 1 27 (by kernel_rfl)) (by kernel_rfl) rfl) ?_
          refine sv 4 rfl rfl rfl (fun a u hE hD hk => exec_loadi 3 Try.underlying3 (.tmp 28) ⟨g, 2, none⟩ (.int .i64 L2.k) rfl (hD 2 28 (by kernel_rfl)) (range_int (range_kept (blk_range HB4.out) hk) 2 _ rfl)) ?_
          refine sv 5 rfl rfl rfl (fun a u hE hD hk => exec_move (.tmp 0) _ rfl (hE 0 (.pointer (some ⟨g, 0, none⟩)) (by kernel_rfl) (by kernel_rfl))) ?_
          refine sv 6 rfl rfl rfl (fun a u hE hD hk => exec_nilp (.tmp 30) ⟨g, 0, none⟩ rfl (hD 4 30 (by kernel_rfl))) ?_
          refine sv 7 rfl rfl rfl (fun a u hE hD hk => exec_fldo 46 0 0 (.tmp 31) (g) (0) (0) rfl (hD 5 31 (by kernel_rfl)) (by kernel_rfl) rfl) ?_
          refine sv 8 rfl rfl rfl (fun a u hE hD hk => exec_loadi 3 Try.underlying3 (.tmp 32) ⟨g, 0, none⟩ (.int .i64 L2.n) rfl (hD 6 32 (by kernel_rfl)) (range_int (range_kept (blk_range HB4.out) hk) 0 _ rfl)) ?_
          refine fsteps_cons 9 rfl (fun a u hE hD hk => f_as (show ((decide ((L2.k : Int) = (L2.n : Int))) : Bool) = false from decide_eq_false (by omega)) (f_val (o := ⟨some 34, _, _, _, _, _⟩) (.bool (decide ((L2.k : Int) = (L2.n : Int)))) rfl (wanted_none rfl _) (exec_eqn (p := L2.k) (q := L2.n) rfl (hD 3 29 (by kernel_rfl)) (hD 7 33 (by kernel_rfl))) rfl)) ?_
          exact fsteps_nil
        intro gv w5 hV k5
        rw [show dstsOf _ 9 = [26, 27, 28, 29, 30, 31, 32, 33, 34] by kernel_rfl]
        simp only [List.foldl_cons, List.foldl_nil, List.setIfInBounds_toArray, List.set_cons_succ, List.set_cons_zero, List.drop_succ_cons, List.drop_zero]
        rw [show gv 34 = .bool false from hV 8 34 (by kernel_rfl)]
        clear hV
        refine wpList_nil ?_
        have hC5 := HB4.out.kept k5
        have kz := kw4.kept k5
        rw [e.out] at hC5
        go_wp2
        go_end0
        exact ⟨rfl, hC5, kz⟩
theorem lfailed_at {g : Nat} {L L' : Lok} {now : Int} {w : World} (hB : Blk w g 46 L.cells) (hO : L.Ok) (h0 : 0 ≤ now) (h1 : now ≤ 1099511627776) (e : L.failM now = L') : Calls Try.prog 10 #[.pointer (some ⟨g, 0, none⟩), .int .i64 now] w fun e w' => e = .returned (.tuple #[]) ∧ Blk w' g 46 L'.cells ∧ Keep (· = g) w w' := by
  rw [← e]
  exact lfailed_any g L hO now h0 h1 w hB
theorem lwrong_at {g : Nat} {L : Lok} {k : Int} {w : World} (hB : Blk w g 46 L.cells) (h : L.k = k) : Gives 12 #[.pointer (some ⟨g, 0, none⟩)] w (.eq (.int .i64 k)) := by
  rw [← h]
  exact lwrong_any g L w hB
end Go.Proofs.Ytliepgmnlhfaiaa
