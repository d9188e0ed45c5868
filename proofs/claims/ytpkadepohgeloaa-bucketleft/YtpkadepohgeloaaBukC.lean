/-
  The contracts of package bucket. Conditions: a bucket in memory, as New makes it and Take leaves it; times from 0 to MaxTick.
-/
import Derived.Test.YtpkadepohgeloaaBukM
namespace Go.Proofs.Ytpkadepohgeloaa
open Go.RowKit
set_option linter.unusedVariables false
set_option maxRecDepth 100000

theorem bwithin_i (n lo hi : Int) (w : World) : Gives 15 #[.int .i64 n, .int .i64 lo, .int .i64 hi] w (.eq (.bool (inB n lo hi))) := by
  refine gives_eq ?_
  go_enter Try.func15, Try.ntmps15
  go_upto_region 1 with fail
  refine wp_text 9 [.eq (.int .i64 lo), .eq (.int .i64 n), .eq (.bool (decide ((lo : Int) ≤ (n : Int)))), .eq (.bool (decide ((lo : Int) ≤ (n : Int)))), .cond (decide ((lo : Int) ≤ (n : Int))) (.eq (.int .i64 n)), .cond (decide ((lo : Int) ≤ (n : Int))) (.eq (.int .i64 hi)), .cond (decide ((lo : Int) ≤ (n : Int))) (.eq (.bool (decide ((n : Int) ≤ (hi : Int))))), .eq (.bool ((decide ((lo : Int) ≤ (n : Int))) && (decide ((n : Int) ≤ (hi : Int))))), .eq (.bool ((decide ((lo : Int) ≤ (n : Int))) && (decide ((n : Int) ≤ (hi : Int)))))] rfl (by kernel_rfl) ?_ ?_
  · refine sv 1 rfl rfl rfl (fun a u hE hD hk => exec_move (.tmp 1) _ rfl (hE 1 (.int .i64 lo) (by kernel_rfl) (by kernel_rfl))) ?_
    refine sv 2 rfl rfl rfl (fun a u hE hD hk => exec_move (.tmp 0) _ rfl (hE 0 (.int .i64 n) (by kernel_rfl) (by kernel_rfl))) ?_
    refine sv 3 rfl rfl rfl (fun a u hE hD hk => exec_len_ (p := lo) (q := n) rfl (hD 0 7 (by kernel_rfl)) (hD 1 8 (by kernel_rfl))) ?_
    refine sv 4 rfl rfl rfl (fun a u hE hD hk => exec_move (.tmp 9) _ rfl (hD 2 9 (by kernel_rfl))) ?_
    refine fsteps_cons 5 rfl (fun a u hE hD hk => f_if ((decide ((lo : Int) ≤ (n : Int)))) rfl rfl rfl (hD 3 10 (by kernel_rfl)) (fun hb => f_val (o := ⟨some 11, _, _, _, _, _⟩) (.int .i64 n) rfl (wanted_b rfl rfl (hD 3 10 (by kernel_rfl)) (eq_true_of hb)) (exec_move (.tmp 0) _ rfl (hE 0 (.int .i64 n) (by kernel_rfl) (by kernel_rfl))) rfl)) ?_
    refine fsteps_cons 6 rfl (fun a u hE hD hk => f_if ((decide ((lo : Int) ≤ (n : Int)))) rfl rfl rfl (hD 3 10 (by kernel_rfl)) (fun hb => f_val (o := ⟨some 12, _, _, _, _, _⟩) (.int .i64 hi) rfl (wanted_b rfl rfl (hD 3 10 (by kernel_rfl)) (eq_true_of hb)) (exec_move (.tmp 2) _ rfl (hE 2 (.int .i64 hi) (by kernel_rfl) (by kernel_rfl))) rfl)) ?_
    refine fsteps_cons 7 rfl (fun a u hE hD hk => f_if ((decide ((lo : Int) ≤ (n : Int)))) rfl rfl rfl (hD 3 10 (by kernel_rfl)) (fun hb => f_val (o := ⟨some 13, _, _, _, _, _⟩) (.bool (decide ((n : Int) ≤ (hi : Int)))) rfl (wanted_b rfl rfl (hD 3 10 (by kernel_rfl)) (eq_true_of hb)) (exec_len_ (p := n) (q := hi) rfl ((hD 4 11 (by kernel_rfl)).1 hb) ((hD 5 12 (by kernel_rfl)).1 hb)) rfl)) ?_
    refine sv 8 rfl rfl rfl (fun a u hE hD hk => exec_pickand (.tmp 10) (.tmp 13) (.const (.bool false)) ((decide ((lo : Int) ≤ (n : Int)))) ((decide ((n : Int) ≤ (hi : Int)))) rfl (hD 3 10 (by kernel_rfl)) (fun hb2 => ((hD 6 13 (by kernel_rfl)).1 hb2)) rfl) ?_
    refine sv 9 rfl rfl rfl (fun a u hE hD hk => exec_assign (.tmp 14) _ rfl (hD 7 14 (by kernel_rfl))) ?_
    exact fsteps_nil
  intro gv w0 hV k0
  rw [show dstsOf _ 9 = [7, 8, 9, 10, 11, 12, 13, 14, 6] by kernel_rfl]
  simp only [List.foldl_cons, List.foldl_nil, List.setIfInBounds_toArray, List.set_cons_succ, List.set_cons_zero, List.drop_succ_cons, List.drop_zero]
  rw [show gv 6 = .bool ((decide ((lo : Int) ≤ (n : Int))) && (decide ((n : Int) ≤ (hi : Int)))) from hV 8 6 (by kernel_rfl)]
  clear hV
  refine wpList_nil ?_
  go_wp2
  go_ret
  exact ⟨rfl, k0⟩
theorem bnew_no (b r : Int) (h : newB b r = false) (w : World) : Gives 8 #[.int .i64 b, .int .i64 r] w (.eq (.tuple #[.pointer none, .int .i64 1])) := by
  refine gives_eq ?_
  have H : Hid ((!(inB b 1 1048576) || !(inB r 1 1099511627776)) = true) := by show _ = _; rw [← Bool.not_and]; unfold newB at h; rw [h]; rfl
  clear h
  go_enter Try.func8, Try.ntmps8
  go_upto_region 1 with fail
  refine wp_text 8 [.eq (.int .i64 b), .eq (.bool (inB b 1 1048576)), .eq (.bool (!(inB b 1 1048576))), .eq (.bool (!(inB b 1 1048576))), .cond (!(!(inB b 1 1048576))) (.eq (.int .i64 r)), .cond (!(!(inB b 1 1048576))) (.eq (.bool (inB r 1 1099511627776))), .cond (!(!(inB b 1 1048576))) (.eq (.bool (!(inB r 1 1099511627776)))), .eq (.bool true)] rfl (by kernel_rfl) ?_ ?_
  · refine sv 1 rfl rfl rfl (fun a u hE hD hk => exec_move (.tmp 0) _ rfl (hE 0 (.int .i64 b) (by kernel_rfl) (by kernel_rfl))) ?_
    refine fsteps_cons 2 rfl (fun a u hE hD hk => f_call (o := ⟨some 7, _, _, _, _, _⟩) 15 #[.int .i64 b, .int .i64 1, .int .i64 1048576] rfl (wanted_none rfl _) (exec_call 15 _ [.tmp 6, .const (.int .i64 1), .const (.int .i64 1048576)] _ [.int .i64 b, .int .i64 1, .int .i64 1048576] Try.func15 (by kernel_rfl) (by kernel_rfl) rfl (show [a.eval (.tmp 6), a.eval (.const (.int .i64 1)), a.eval (.const (.int .i64 1048576))] = [.int .i64 b, .int .i64 1, .int .i64 1048576] from (by rw [show a.eval (.tmp 6) = .int .i64 b from (hD 0 6 (by kernel_rfl))] <;> rfl)) u) (bwithin_i _ _ _ u)) ?_
    refine sv 3 rfl rfl rfl (fun a u hE hD hk => exec_not _ (.tmp 7) (inB b 1 1048576) rfl (hD 1 7 (by kernel_rfl))) ?_
    refine sv 4 rfl rfl rfl (fun a u hE hD hk => exec_move (.tmp 8) _ rfl (hD 2 8 (by kernel_rfl))) ?_
    refine fsteps_cons 5 rfl (fun a u hE hD hk => f_unless ((!(inB b 1 1048576))) rfl rfl rfl (hD 3 9 (by kernel_rfl)) (fun hb => f_val (o := ⟨some 10, _, _, _, _, _⟩) (.int .i64 r) rfl (wanted_b rfl rfl (hD 3 9 (by kernel_rfl)) (eq_false_of hb)) (exec_move (.tmp 1) _ rfl (hE 1 (.int .i64 r) (by kernel_rfl) (by kernel_rfl))) rfl)) ?_
    refine fsteps_cons 6 rfl (fun a u hE hD hk => f_unless ((!(inB b 1 1048576))) rfl rfl rfl (hD 3 9 (by kernel_rfl)) (fun hb => f_call (o := ⟨some 11, _, _, _, _, _⟩) 15 #[.int .i64 r, .int .i64 1, .int .i64 1099511627776] rfl (wanted_b rfl rfl (hD 3 9 (by kernel_rfl)) (eq_false_of hb)) (exec_call 15 _ [.tmp 10, .const (.int .i64 1), .const (.int .i64 1099511627776)] _ [.int .i64 r, .int .i64 1, .int .i64 1099511627776] Try.func15 (by kernel_rfl) (by kernel_rfl) rfl (show [a.eval (.tmp 10), a.eval (.const (.int .i64 1)), a.eval (.const (.int .i64 1099511627776))] = [.int .i64 r, .int .i64 1, .int .i64 1099511627776] from (by rw [show a.eval (.tmp 10) = .int .i64 r from ((hD 4 10 (by kernel_rfl)).1 hb)] <;> rfl)) u) (bwithin_i _ _ _ u))) ?_
    refine fsteps_cons 7 rfl (fun a u hE hD hk => f_unless ((!(inB b 1 1048576))) rfl rfl rfl (hD 3 9 (by kernel_rfl)) (fun hb => f_val (o := ⟨some 12, _, _, _, _, _⟩) (.bool (!(inB r 1 1099511627776))) rfl (wanted_b rfl rfl (hD 3 9 (by kernel_rfl)) (eq_false_of hb)) (exec_not _ (.tmp 11) (inB r 1 1099511627776) rfl ((hD 5 11 (by kernel_rfl)).1 hb)) rfl)) ?_
    refine fsteps_cons 8 rfl (fun a u hE hD hk => f_as (show (((!(inB b 1 1048576)) || (!(inB r 1 1099511627776))) : Bool) = true from H.out) (f_val (o := ⟨some 13, _, _, _, _, _⟩) (.bool ((!(inB b 1 1048576)) || (!(inB r 1 1099511627776)))) rfl (wanted_none rfl _) (exec_pickor (.tmp 9) (.const (.bool true)) (.tmp 12) ((!(inB b 1 1048576))) ((!(inB r 1 1099511627776))) rfl (hD 3 9 (by kernel_rfl)) rfl (fun hb2 => ((hD 6 12 (by kernel_rfl)).1 hb2))) rfl)) ?_
    exact fsteps_nil
  intro gv w0 hV k0
  rw [show dstsOf _ 8 = [6, 7, 8, 9, 10, 11, 12, 13] by kernel_rfl]
  simp only [List.foldl_cons, List.foldl_nil, List.setIfInBounds_toArray, List.set_cons_succ, List.set_cons_zero, List.drop_succ_cons, List.drop_zero]
  rw [show gv 13 = .bool true from hV 7 13 (by kernel_rfl)]
  clear hV
  refine wpList_nil ?_
  go_wp2
  go_ret2
  exact ⟨rfl, k0⟩
theorem bnew_yes (b r : Int) (h : newB b r = true) (w : World) : Calls Try.prog 8 #[.int .i64 b, .int .i64 r] w fun e w' => ∃ g, e = .returned (.tuple #[.pointer (some ⟨g, 0, none⟩), .int .i64 0]) ∧ w.heap.size ≤ g ∧ Blk w' g 41 (Bkt.full b r).cells ∧ Kept w w' := by
  have H : Hid ((!(inB b 1 1048576) || !(inB r 1 1099511627776)) = false) := by show _ = _; rw [← Bool.not_and]; unfold newB at h; rw [h]; rfl
  clear h
  go_enter Try.func8, Try.ntmps8
  go_upto_region 1 with fail
  refine wp_text 8 [.eq (.int .i64 b), .eq (.bool (inB b 1 1048576)), .eq (.bool (!(inB b 1 1048576))), .eq (.bool (!(inB b 1 1048576))), .cond (!(!(inB b 1 1048576))) (.eq (.int .i64 r)), .cond (!(!(inB b 1 1048576))) (.eq (.bool (inB r 1 1099511627776))), .cond (!(!(inB b 1 1048576))) (.eq (.bool (!(inB r 1 1099511627776)))), .eq (.bool false)] rfl (by kernel_rfl) ?_ ?_
  · refine sv 1 rfl rfl rfl (fun a u hE hD hk => exec_move (.tmp 0) _ rfl (hE 0 (.int .i64 b) (by kernel_rfl) (by kernel_rfl))) ?_
    refine fsteps_cons 2 rfl (fun a u hE hD hk => f_call (o := ⟨some 7, _, _, _, _, _⟩) 15 #[.int .i64 b, .int .i64 1, .int .i64 1048576] rfl (wanted_none rfl _) (exec_call 15 _ [.tmp 6, .const (.int .i64 1), .const (.int .i64 1048576)] _ [.int .i64 b, .int .i64 1, .int .i64 1048576] Try.func15 (by kernel_rfl) (by kernel_rfl) rfl (show [a.eval (.tmp 6), a.eval (.const (.int .i64 1)), a.eval (.const (.int .i64 1048576))] = [.int .i64 b, .int .i64 1, .int .i64 1048576] from (by rw [show a.eval (.tmp 6) = .int .i64 b from (hD 0 6 (by kernel_rfl))] <;> rfl)) u) (bwithin_i _ _ _ u)) ?_
    refine sv 3 rfl rfl rfl (fun a u hE hD hk => exec_not _ (.tmp 7) (inB b 1 1048576) rfl (hD 1 7 (by kernel_rfl))) ?_
    refine sv 4 rfl rfl rfl (fun a u hE hD hk => exec_move (.tmp 8) _ rfl (hD 2 8 (by kernel_rfl))) ?_
    refine fsteps_cons 5 rfl (fun a u hE hD hk => f_unless ((!(inB b 1 1048576))) rfl rfl rfl (hD 3 9 (by kernel_rfl)) (fun hb => f_val (o := ⟨some 10, _, _, _, _, _⟩) (.int .i64 r) rfl (wanted_b rfl rfl (hD 3 9 (by kernel_rfl)) (eq_false_of hb)) (exec_move (.tmp 1) _ rfl (hE 1 (.int .i64 r) (by kernel_rfl) (by kernel_rfl))) rfl)) ?_
    refine fsteps_cons 6 rfl (fun a u hE hD hk => f_unless ((!(inB b 1 1048576))) rfl rfl rfl (hD 3 9 (by kernel_rfl)) (fun hb => f_call (o := ⟨some 11, _, _, _, _, _⟩) 15 #[.int .i64 r, .int .i64 1, .int .i64 1099511627776] rfl (wanted_b rfl rfl (hD 3 9 (by kernel_rfl)) (eq_false_of hb)) (exec_call 15 _ [.tmp 10, .const (.int .i64 1), .const (.int .i64 1099511627776)] _ [.int .i64 r, .int .i64 1, .int .i64 1099511627776] Try.func15 (by kernel_rfl) (by kernel_rfl) rfl (show [a.eval (.tmp 10), a.eval (.const (.int .i64 1)), a.eval (.const (.int .i64 1099511627776))] = [.int .i64 r, .int .i64 1, .int .i64 1099511627776] from (by rw [show a.eval (.tmp 10) = .int .i64 r from ((hD 4 10 (by kernel_rfl)).1 hb)] <;> rfl)) u) (bwithin_i _ _ _ u))) ?_
    refine fsteps_cons 7 rfl (fun a u hE hD hk => f_unless ((!(inB b 1 1048576))) rfl rfl rfl (hD 3 9 (by kernel_rfl)) (fun hb => f_val (o := ⟨some 12, _, _, _, _, _⟩) (.bool (!(inB r 1 1099511627776))) rfl (wanted_b rfl rfl (hD 3 9 (by kernel_rfl)) (eq_false_of hb)) (exec_not _ (.tmp 11) (inB r 1 1099511627776) rfl ((hD 5 11 (by kernel_rfl)).1 hb)) rfl)) ?_
    refine fsteps_cons 8 rfl (fun a u hE hD hk => f_as (show (((!(inB b 1 1048576)) || (!(inB r 1 1099511627776))) : Bool) = false from H.out) (f_val (o := ⟨some 13, _, _, _, _, _⟩) (.bool ((!(inB b 1 1048576)) || (!(inB r 1 1099511627776)))) rfl (wanted_none rfl _) (exec_pickor (.tmp 9) (.const (.bool true)) (.tmp 12) ((!(inB b 1 1048576))) ((!(inB r 1 1099511627776))) rfl (hD 3 9 (by kernel_rfl)) rfl (fun hb2 => ((hD 6 12 (by kernel_rfl)).1 hb2))) rfl)) ?_
    exact fsteps_nil
  intro gv w0 hV k0
  rw [show dstsOf _ 8 = [6, 7, 8, 9, 10, 11, 12, 13] by kernel_rfl]
  simp only [List.foldl_cons, List.foldl_nil, List.setIfInBounds_toArray, List.set_cons_succ, List.set_cons_zero, List.drop_succ_cons, List.drop_zero]
  rw [show gv 13 = .bool false from hV 7 13 (by kernel_rfl)]
  clear hV
  refine wpList_nil ?_
  go_upto_region 3 with fail
  refine wp_region_lit ?_
  refine l_val (o := ⟨some 14, _, _, _, _, _⟩) (.int .i64 b) rfl (exec_move (.tmp 0) (.int .i64 b) rfl (by kernel_rfl)) ?_
  simp only [Act.put, List.setIfInBounds_toArray, List.set_cons_succ, List.set_cons_zero]
  refine l_val (o := ⟨some 15, _, _, _, _, _⟩) (.int .i64 r) rfl (exec_move (.tmp 1) (.int .i64 r) rfl (by kernel_rfl)) ?_
  simp only [Act.put, List.setIfInBounds_toArray, List.set_cons_succ, List.set_cons_zero]
  refine l_val (o := ⟨some 16, _, _, _, _, _⟩) (.int .i64 b) rfl (exec_move (.tmp 0) (.int .i64 b) rfl (by kernel_rfl)) ?_
  simp only [Act.put, List.setIfInBounds_toArray, List.set_cons_succ, List.set_cons_zero]
  refine l_val (o := ⟨some 17, _, _, _, _, _⟩) (.agg (Bkt.full b r).cells.toArray) rfl (exec_build 41 [(0, .tmp 14), (1, .tmp 15), (2, .tmp 16)] (Bkt.full b r).cells rfl (by kernel_rfl)) ?_
  simp only [Act.put, List.setIfInBounds_toArray, List.set_cons_succ, List.set_cons_zero]
  refine l_new (o := ⟨some 18, _, _, _, _, _⟩) (.pointer (some ⟨w0.heap.size, 0, none⟩)) (w0.alloc (.cells (Bkt.full b r).cells.toArray 41)) rfl (exec_box 41 (.tmp 17) (Bkt.full b r).cells rfl (by kernel_rfl)) ?_
  have hN := Blk.new w0 41 (Bkt.full b r).cells
  have kn : Kept w0 (w0.alloc (.cells (Bkt.full b r).cells.toArray 41)) := (Keep.refl _ w0).alloc _
  generalize w0.alloc (.cells (Bkt.full b r).cells.toArray 41) = w1 at hN kn ⊢
  simp only [Act.put, List.setIfInBounds_toArray, List.set_cons_succ, List.set_cons_zero]
  refine l_val (o := ⟨some 4, _, _, _, _, _⟩) (.pointer (some ⟨w0.heap.size, 0, none⟩)) rfl (exec_assign (.tmp 18) (.pointer (some ⟨w0.heap.size, 0, none⟩)) rfl (by kernel_rfl)) ?_
  simp only [Act.put, List.setIfInBounds_toArray, List.set_cons_succ, List.set_cons_zero]
  refine l_val (o := ⟨some 5, _, _, _, _, _⟩) (.int .i64 0) rfl (exec_assign (.const (.int .i64 0)) (.int .i64 0) rfl (by kernel_rfl)) ?_
  simp only [Act.put, List.setIfInBounds_toArray, List.set_cons_succ, List.set_cons_zero]
  refine wpList_nil ?_
  obtain ⟨g, hg⟩ : ∃ x, w0.heap.size = x := ⟨_, rfl⟩
  have zg := k0.size
  rw [hg] at hN zg ⊢
  have kw := k0.trans kn
  clear kn hg
  go_wp2
  go_ret2
  exact ⟨g, rfl, zg, hN, kw⟩
theorem left_any (g : Nat) (B : Bkt) (w : World) (hB : Blk w g 41 B.cells) : Gives 14 #[.pointer (some ⟨g, 0, none⟩)] w (.eq (.int .i64 B.k)) := by
  refine gives_eq ?_
  have HR := Lib.hid (blk_range hB)
  clear hB
  go_enter Try.func14, Try.ntmps14
  go_upto_region 1 with fail
  refine wp_text 5 [.eq (.pointer (some ⟨g, 0, none⟩)), .eq (.pointer (some ⟨g, 0, none⟩)), .eq (.pointer (some ⟨g, 2, none⟩)), .eq (.int .i64 B.k), .eq (.int .i64 B.k)] rfl (by kernel_rfl) ?_ ?_
  · refine sv 1 rfl rfl rfl (fun a u hE hD hk => exec_move (.tmp 0) _ rfl (hE 0 (.pointer (some ⟨g, 0, none⟩)) (by kernel_rfl) (by kernel_rfl))) ?_
    refine sv 2 rfl rfl rfl (fun a u hE hD hk => exec_nilp (.tmp 3) ⟨g, 0, none⟩ rfl (hD 0 3 (by kernel_rfl))) ?_
    refine sv 3 rfl rfl rfl (fun a u hE hD hk => exec_fldo 41 2 2 (.tmp 4) (g) (0) (2) rfl (hD 1 4 (by kernel_rfl)) (by kernel_rfl) rfl) ?_
    refine sv 4 rfl rfl rfl (fun a u hE hD hk => exec_loadi 3 Try.underlying3 (.tmp 5) ⟨g, 2, none⟩ (.int .i64 B.k) rfl (hD 2 5 (by kernel_rfl)) (range_int (range_kept HR.out hk) 2 _ rfl)) ?_
    refine sv 5 rfl rfl rfl (fun a u hE hD hk => exec_assign (.tmp 6) _ rfl (hD 3 6 (by kernel_rfl))) ?_
    exact fsteps_nil
  intro gv w0 hV k0
  rw [show dstsOf _ 5 = [3, 4, 5, 6, 2] by kernel_rfl]
  simp only [List.foldl_cons, List.foldl_nil, List.setIfInBounds_toArray, List.set_cons_succ, List.set_cons_zero, List.drop_succ_cons, List.drop_zero]
  rw [show gv 2 = .int .i64 B.k from hV 4 2 (by kernel_rfl)]
  clear hV
  refine wpList_nil ?_
  go_wp2
  go_ret
  exact ⟨rfl, k0⟩
set_option maxRecDepth 100000 in
set_option maxHeartbeats 1600000 in
theorem bfill_any (g : Nat) (B : Bkt) (hO : B.Ok) (now : Int) (h0 : B.t < now) (h1 : now ≤ 1099511627776) (w : World) (hB : Blk w g 41 B.cells) : Calls Try.prog 16 #[.pointer (some ⟨g, 0, none⟩), .int .i64 now] w fun e w' => e = .returned (.tuple #[]) ∧ Blk w' g 41 (B.fillM now).cells ∧ Keep (· = g) w w' := by
  have HB := Lib.hid hB
  clear hB
  obtain ⟨c0, c1, c2, c3, c4⟩ := Bkt.came_in hO h0
  obtain ⟨b0, b1, r0, r1, k0, k1, t0, t1⟩ := hO
  obtain ⟨C, hC⟩ : ∃ C, B.came now = C := ⟨_, rfl⟩
  unfold Bkt.fillM
  rw [hC] at c0 c1 c2 c3 c4 ⊢
  have HQ : Hid ((now - B.t).tdiv B.r = C) := hC
  clear hC
  by_cases hq : B.b - B.k ≤ C
  · rw [if_pos hq]
    have HD := Lib.hid (decide_eq_true hq)
    clear hq
    go_enter Try.func16, Try.ntmps16
    go_upto_region 0 with fail
    refine wp_free 12 [.eq (.int .i64 now), .eq (.pointer (some ⟨g, 0, none⟩)), .eq (.pointer (some ⟨g, 0, none⟩)), .eq (.pointer (some ⟨g, 3, none⟩)), .eq (.int .i64 B.t), .eq (.int .i64 ((now : Int) - (B.t : Int))), .eq (.pointer (some ⟨g, 0, none⟩)), .eq (.pointer (some ⟨g, 0, none⟩)), .eq (.pointer (some ⟨g, 1, none⟩)), .eq (.int .i64 B.r), .eq (.int .i64 C), .eq (.int .i64 C)] (by kernel_rfl) rfl (by kernel_rfl) ?_ ?_
    · refine sv 1 rfl rfl rfl (fun a u hE hD hk => exec_move (.tmp 1) _ rfl (hE 1 (.int .i64 now) (by kernel_rfl) (by kernel_rfl))) ?_
      refine sv 2 rfl rfl rfl (fun a u hE hD hk => exec_move (.tmp 0) _ rfl (hE 0 (.pointer (some ⟨g, 0, none⟩)) (by kernel_rfl) (by kernel_rfl))) ?_
      refine sv 3 rfl rfl rfl (fun a u hE hD hk => exec_nilp (.tmp 6) ⟨g, 0, none⟩ rfl (hD 1 6 (by kernel_rfl))) ?_
      refine sv 4 rfl rfl rfl (fun a u hE hD hk => exec_fldo 41 3 3 (.tmp 7) (g) (0) (3) rfl (hD 2 7 (by kernel_rfl)) (by kernel_rfl) rfl) ?_
      refine sv 5 rfl rfl rfl (fun a u hE hD hk => exec_loadi 3 Try.underlying3 (.tmp 8) ⟨g, 3, none⟩ (.int .i64 B.t) rfl (hD 3 8 (by kernel_rfl)) (range_int (range_kept (blk_range HB.out) hk) 3 _ rfl)) ?_
      refine sv 6 rfl rfl rfl (fun a u hE hD hk => exec_subn (p := (now)) (q := (B.t)) ((now : Int) - (B.t : Int)) rfl (hD 0 5 (by kernel_rfl)) (hD 4 9 (by kernel_rfl)) rfl (by omega) (by omega)) ?_
      refine sv 7 rfl rfl rfl (fun a u hE hD hk => exec_move (.tmp 0) _ rfl (hE 0 (.pointer (some ⟨g, 0, none⟩)) (by kernel_rfl) (by kernel_rfl))) ?_
      refine sv 8 rfl rfl rfl (fun a u hE hD hk => exec_nilp (.tmp 11) ⟨g, 0, none⟩ rfl (hD 6 11 (by kernel_rfl))) ?_
      refine sv 9 rfl rfl rfl (fun a u hE hD hk => exec_fldo 41 1 1 (.tmp 12) (g) (0) (1) rfl (hD 7 12 (by kernel_rfl)) (by kernel_rfl) rfl) ?_
      refine sv 10 rfl rfl rfl (fun a u hE hD hk => exec_loadi 3 Try.underlying3 (.tmp 13) ⟨g, 1, none⟩ (.int .i64 B.r) rfl (hD 8 13 (by kernel_rfl)) (range_int (range_kept (blk_range HB.out) hk) 1 _ rfl)) ?_
      refine sv 11 rfl rfl rfl (fun a u hE hD hk => exec_quon C rfl (hD 5 10 (by kernel_rfl)) (hD 9 14 (by kernel_rfl)) (by omega) HQ.out (by omega) (by omega)) ?_
      refine sv 12 rfl rfl rfl (fun a u hE hD hk => exec_assign (.tmp 15) _ rfl (hD 10 15 (by kernel_rfl))) ?_
      exact fsteps_nil
    intro gv w0 hV ka
    rw [show dstsOf _ 12 = [5, 6, 7, 8, 9, 10, 11, 12, 13, 14, 15, 4] by kernel_rfl]
    simp only [List.foldl_cons, List.foldl_nil, List.setIfInBounds_toArray, List.set_cons_succ, List.set_cons_zero, List.drop_succ_cons, List.drop_zero]
    rw [show gv 4 = .int .i64 C from hV 11 4 (by kernel_rfl)]
    clear hV
    refine wpList_nil ?_
    have HB0 := Lib.hid (HB.out.kept ka)
    clear HB
    go_upto_region 1 with fail
    refine wp_free 11 [.eq (.int .i64 C), .eq (.pointer (some ⟨g, 0, none⟩)), .eq (.pointer (some ⟨g, 0, none⟩)), .eq (.pointer (some ⟨g, 0, none⟩)), .eq (.int .i64 B.b), .eq (.pointer (some ⟨g, 0, none⟩)), .eq (.pointer (some ⟨g, 0, none⟩)), .eq (.pointer (some ⟨g, 2, none⟩)), .eq (.int .i64 B.k), .eq (.int .i64 ((B.b : Int) - (B.k : Int))), .eq (.bool true)] (by kernel_rfl) rfl (by kernel_rfl) ?_ ?_
    · refine sv 1 rfl rfl rfl (fun a u hE hD hk => exec_move (.tmp 4) _ rfl (hE 4 (.int .i64 C) (by kernel_rfl) (by kernel_rfl))) ?_
      refine sv 2 rfl rfl rfl (fun a u hE hD hk => exec_move (.tmp 0) _ rfl (hE 0 (.pointer (some ⟨g, 0, none⟩)) (by kernel_rfl) (by kernel_rfl))) ?_
      refine sv 3 rfl rfl rfl (fun a u hE hD hk => exec_nilp (.tmp 17) ⟨g, 0, none⟩ rfl (hD 1 17 (by kernel_rfl))) ?_
      refine sv 4 rfl rfl rfl (fun a u hE hD hk => exec_fldo 41 0 0 (.tmp 18) (g) (0) (0) rfl (hD 2 18 (by kernel_rfl)) (by kernel_rfl) rfl) ?_
      refine sv 5 rfl rfl rfl (fun a u hE hD hk => exec_loadi 3 Try.underlying3 (.tmp 19) ⟨g, 0, none⟩ (.int .i64 B.b) rfl (hD 3 19 (by kernel_rfl)) (range_int (range_kept (blk_range HB0.out) hk) 0 _ rfl)) ?_
      refine sv 6 rfl rfl rfl (fun a u hE hD hk => exec_move (.tmp 0) _ rfl (hE 0 (.pointer (some ⟨g, 0, none⟩)) (by kernel_rfl) (by kernel_rfl))) ?_
      refine sv 7 rfl rfl rfl (fun a u hE hD hk => exec_nilp (.tmp 21) ⟨g, 0, none⟩ rfl (hD 5 21 (by kernel_rfl))) ?_
      refine sv 8 rfl rfl rfl (fun a u hE hD hk => exec_fldo 41 2 2 (.tmp 22) (g) (0) (2) rfl (hD 6 22 (by kernel_rfl)) (by kernel_rfl) rfl) ?_
      refine sv 9 rfl rfl rfl (fun a u hE hD hk => exec_loadi 3 Try.underlying3 (.tmp 23) ⟨g, 2, none⟩ (.int .i64 B.k) rfl (hD 7 23 (by kernel_rfl)) (range_int (range_kept (blk_range HB0.out) hk) 2 _ rfl)) ?_
      refine sv 10 rfl rfl rfl (fun a u hE hD hk => exec_subn (p := (B.b)) (q := (B.k)) ((B.b : Int) - (B.k : Int)) rfl (hD 4 20 (by kernel_rfl)) (hD 8 24 (by kernel_rfl)) rfl (by omega) (by omega)) ?_
      refine fsteps_cons 11 rfl (fun a u hE hD hk => f_as (show ((decide ((((B.b : Int) - (B.k : Int)) : Int) ≤ (C : Int))) : Bool) = true from HD.out) (f_val (o := ⟨some 26, _, _, _, _, _⟩) (.bool (decide ((((B.b : Int) - (B.k : Int)) : Int) ≤ (C : Int)))) rfl (wanted_none rfl _) (exec_gen (p := C) (q := ((B.b : Int) - (B.k : Int))) rfl (hD 0 16 (by kernel_rfl)) (hD 9 25 (by kernel_rfl))) rfl)) ?_
      exact fsteps_nil
    intro gv w1 hV kb
    rw [show dstsOf _ 11 = [16, 17, 18, 19, 20, 21, 22, 23, 24, 25, 26] by kernel_rfl]
    simp only [List.foldl_cons, List.foldl_nil, List.setIfInBounds_toArray, List.set_cons_succ, List.set_cons_zero, List.drop_succ_cons, List.drop_zero]
    rw [show gv 26 = .bool true from hV 10 26 (by kernel_rfl)]
    clear hV
    refine wpList_nil ?_
    have HB1 := Lib.hid (HB0.out.kept kb)
    have kw := ka.trans kb
    clear HB0
    go_upto_region 2 with fail
    refine wp_text 9 [.eq (.pointer (some ⟨g, 0, none⟩)), .eq (.pointer (some ⟨g, 0, none⟩)), .eq (.pointer (some ⟨g, 0, none⟩)), .eq (.pointer (some ⟨g, 0, none⟩)), .eq (.pointer (some ⟨g, 0, none⟩)), .eq (.int .i64 B.b), .eq (.int .i64 now), .eq (.pointer (some ⟨g, 0, none⟩)), .eq (.pointer (some ⟨g, 2, none⟩))] rfl (by kernel_rfl) ?_ ?_
    · refine sv 1 rfl rfl rfl (fun a u hE hD hk => exec_move (.tmp 0) _ rfl (hE 0 (.pointer (some ⟨g, 0, none⟩)) (by kernel_rfl) (by kernel_rfl))) ?_
      refine sv 2 rfl rfl rfl (fun a u hE hD hk => exec_move (.tmp 0) _ rfl (hE 0 (.pointer (some ⟨g, 0, none⟩)) (by kernel_rfl) (by kernel_rfl))) ?_
      refine sv 3 rfl rfl rfl (fun a u hE hD hk => exec_move (.tmp 0) _ rfl (hE 0 (.pointer (some ⟨g, 0, none⟩)) (by kernel_rfl) (by kernel_rfl))) ?_
      refine sv 4 rfl rfl rfl (fun a u hE hD hk => exec_nilp (.tmp 29) ⟨g, 0, none⟩ rfl (hD 2 29 (by kernel_rfl))) ?_
      refine sv 5 rfl rfl rfl (fun a u hE hD hk => exec_fldo 41 0 0 (.tmp 30) (g) (0) (0) rfl (hD 3 30 (by kernel_rfl)) (by kernel_rfl) rfl) ?_
      refine sv 6 rfl rfl rfl (fun a u hE hD hk => exec_loadi 3 Try.underlying3 (.tmp 31) ⟨g, 0, none⟩ (.int .i64 B.b) rfl (hD 4 31 (by kernel_rfl)) (range_int (range_kept (blk_range HB1.out) hk) 0 _ rfl)) ?_
      refine sv 7 rfl rfl rfl (fun a u hE hD hk => exec_move (.tmp 1) _ rfl (hE 1 (.int .i64 now) (by kernel_rfl) (by kernel_rfl))) ?_
      refine sv 8 rfl rfl rfl (fun a u hE hD hk => exec_nilp (.tmp 27) ⟨g, 0, none⟩ rfl (hD 0 27 (by kernel_rfl))) ?_
      refine sv 9 rfl rfl rfl (fun a u hE hD hk => exec_fldo 41 2 2 (.tmp 34) (g) (0) (2) rfl (hD 7 34 (by kernel_rfl)) (by kernel_rfl) rfl) ?_
      exact fsteps_nil
    intro gv w2 hV kc
    rw [show dstsOf _ 9 = [27, 28, 29, 30, 31, 32, 33, 34, 35] by kernel_rfl]
    simp only [List.foldl_cons, List.foldl_nil, List.setIfInBounds_toArray, List.set_cons_succ, List.set_cons_zero, List.drop_succ_cons, List.drop_zero]
    rw [show gv 35 = .pointer (some ⟨g, 2, none⟩) from hV 8 35 (by kernel_rfl)]
    rw [show gv 32 = .int .i64 B.b from hV 5 32 (by kernel_rfl)]
    rw [show gv 28 = .pointer (some ⟨g, 0, none⟩) from hV 1 28 (by kernel_rfl)]
    rw [show gv 33 = .int .i64 now from hV 6 33 (by kernel_rfl)]
    clear hV
    refine l_putN (o := ⟨none, _, _, _, _, _⟩) g 2 41 B.cells (Bkt.mk B.b B.r B.b B.t).cells (B.b) (.tmp 35) (.tmp 32) rfl rfl (by kernel_rfl) (by kernel_rfl) (HB1.out.kept kc) (by rw [Bkt.len4b]; omega) rfl ?_
    intro w3 hCw3 hKw3 hSw3
    simp only [Act.put]
    refine l_val (o := ⟨some 36, _, _, _, _, _⟩) (.pointer (some ⟨g, 0, none⟩)) rfl (exec_nilp (.tmp 28) ⟨g, 0, none⟩ rfl (by kernel_rfl)) ?_
    simp only [Act.put, List.setIfInBounds_toArray, List.set_cons_succ, List.set_cons_zero]
    refine l_val (o := ⟨some 37, _, _, _, _, _⟩) (.pointer (some ⟨g, 3, none⟩)) rfl (exec_fldo 41 3 3 (.tmp 36) (g) (0) (3) rfl (by kernel_rfl) (by kernel_rfl) rfl) ?_
    simp only [Act.put, List.setIfInBounds_toArray, List.set_cons_succ, List.set_cons_zero]
    refine l_putN (o := ⟨none, _, _, _, _, _⟩) g 3 41 (Bkt.mk B.b B.r B.b B.t).cells (Bkt.mk B.b B.r B.b now).cells (now) (.tmp 37) (.tmp 33) rfl rfl (by kernel_rfl) (by kernel_rfl) hCw3 (by rw [Bkt.len4b]; omega) rfl ?_
    intro w4 hCw4 hKw4 hSw4
    simp only [Act.put]
    refine wpList_nil ?_
    have kz : Keep (· = g) w w4 := (((kw.trans kc).mono (fun _ _ h => h.elim) : Keep (· = g) w w2).trans hKw3 (fun _ _ h => h)).trans hKw4 (fun _ _ h => h)
    go_wp2
    (first | refine bodyPost_ret (results_none rfl _ _ _) rfl ?_ | (simp only [Exit.inBlock, Exit.then]; refine bodyPost_ret (results_none rfl _ _ _) rfl ?_))
    exact ⟨rfl, hCw4, kz⟩
  · rw [if_neg hq]
    have HD := Lib.hid (decide_eq_false hq)
    go_enter Try.func16, Try.ntmps16
    go_upto_region 0 with fail
    refine wp_free 12 [.eq (.int .i64 now), .eq (.pointer (some ⟨g, 0, none⟩)), .eq (.pointer (some ⟨g, 0, none⟩)), .eq (.pointer (some ⟨g, 3, none⟩)), .eq (.int .i64 B.t), .eq (.int .i64 ((now : Int) - (B.t : Int))), .eq (.pointer (some ⟨g, 0, none⟩)), .eq (.pointer (some ⟨g, 0, none⟩)), .eq (.pointer (some ⟨g, 1, none⟩)), .eq (.int .i64 B.r), .eq (.int .i64 C), .eq (.int .i64 C)] (by kernel_rfl) rfl (by kernel_rfl) ?_ ?_
    · refine sv 1 rfl rfl rfl (fun a u hE hD hk => exec_move (.tmp 1) _ rfl (hE 1 (.int .i64 now) (by kernel_rfl) (by kernel_rfl))) ?_
      refine sv 2 rfl rfl rfl (fun a u hE hD hk => exec_move (.tmp 0) _ rfl (hE 0 (.pointer (some ⟨g, 0, none⟩)) (by kernel_rfl) (by kernel_rfl))) ?_
      refine sv 3 rfl rfl rfl (fun a u hE hD hk => exec_nilp (.tmp 6) ⟨g, 0, none⟩ rfl (hD 1 6 (by kernel_rfl))) ?_
      refine sv 4 rfl rfl rfl (fun a u hE hD hk => exec_fldo 41 3 3 (.tmp 7) (g) (0) (3) rfl (hD 2 7 (by kernel_rfl)) (by kernel_rfl) rfl) ?_
      refine sv 5 rfl rfl rfl (fun a u hE hD hk => exec_loadi 3 Try.underlying3 (.tmp 8) ⟨g, 3, none⟩ (.int .i64 B.t) rfl (hD 3 8 (by kernel_rfl)) (range_int (range_kept (blk_range HB.out) hk) 3 _ rfl)) ?_
      refine sv 6 rfl rfl rfl (fun a u hE hD hk => exec_subn (p := (now)) (q := (B.t)) ((now : Int) - (B.t : Int)) rfl (hD 0 5 (by kernel_rfl)) (hD 4 9 (by kernel_rfl)) rfl (by omega) (by omega)) ?_
      refine sv 7 rfl rfl rfl (fun a u hE hD hk => exec_move (.tmp 0) _ rfl (hE 0 (.pointer (some ⟨g, 0, none⟩)) (by kernel_rfl) (by kernel_rfl))) ?_
      refine sv 8 rfl rfl rfl (fun a u hE hD hk => exec_nilp (.tmp 11) ⟨g, 0, none⟩ rfl (hD 6 11 (by kernel_rfl))) ?_
      refine sv 9 rfl rfl rfl (fun a u hE hD hk => exec_fldo 41 1 1 (.tmp 12) (g) (0) (1) rfl (hD 7 12 (by kernel_rfl)) (by kernel_rfl) rfl) ?_
      refine sv 10 rfl rfl rfl (fun a u hE hD hk => exec_loadi 3 Try.underlying3 (.tmp 13) ⟨g, 1, none⟩ (.int .i64 B.r) rfl (hD 8 13 (by kernel_rfl)) (range_int (range_kept (blk_range HB.out) hk) 1 _ rfl)) ?_
      refine sv 11 rfl rfl rfl (fun a u hE hD hk => exec_quon C rfl (hD 5 10 (by kernel_rfl)) (hD 9 14 (by kernel_rfl)) (by omega) HQ.out (by omega) (by omega)) ?_
      refine sv 12 rfl rfl rfl (fun a u hE hD hk => exec_assign (.tmp 15) _ rfl (hD 10 15 (by kernel_rfl))) ?_
      exact fsteps_nil
    intro gv w0 hV ka
    rw [show dstsOf _ 12 = [5, 6, 7, 8, 9, 10, 11, 12, 13, 14, 15, 4] by kernel_rfl]
    simp only [List.foldl_cons, List.foldl_nil, List.setIfInBounds_toArray, List.set_cons_succ, List.set_cons_zero, List.drop_succ_cons, List.drop_zero]
    rw [show gv 4 = .int .i64 C from hV 11 4 (by kernel_rfl)]
    clear hV
    refine wpList_nil ?_
    have HB0 := Lib.hid (HB.out.kept ka)
    clear HB
    go_upto_region 1 with fail
    refine wp_free 11 [.eq (.int .i64 C), .eq (.pointer (some ⟨g, 0, none⟩)), .eq (.pointer (some ⟨g, 0, none⟩)), .eq (.pointer (some ⟨g, 0, none⟩)), .eq (.int .i64 B.b), .eq (.pointer (some ⟨g, 0, none⟩)), .eq (.pointer (some ⟨g, 0, none⟩)), .eq (.pointer (some ⟨g, 2, none⟩)), .eq (.int .i64 B.k), .eq (.int .i64 ((B.b : Int) - (B.k : Int))), .eq (.bool false)] (by kernel_rfl) rfl (by kernel_rfl) ?_ ?_
    · refine sv 1 rfl rfl rfl (fun a u hE hD hk => exec_move (.tmp 4) _ rfl (hE 4 (.int .i64 C) (by kernel_rfl) (by kernel_rfl))) ?_
      refine sv 2 rfl rfl rfl (fun a u hE hD hk => exec_move (.tmp 0) _ rfl (hE 0 (.pointer (some ⟨g, 0, none⟩)) (by kernel_rfl) (by kernel_rfl))) ?_
      refine sv 3 rfl rfl rfl (fun a u hE hD hk => exec_nilp (.tmp 17) ⟨g, 0, none⟩ rfl (hD 1 17 (by kernel_rfl))) ?_
      refine sv 4 rfl rfl rfl (fun a u hE hD hk => exec_fldo 41 0 0 (.tmp 18) (g) (0) (0) rfl (hD 2 18 (by kernel_rfl)) (by kernel_rfl) rfl) ?_
      refine sv 5 rfl rfl rfl (fun a u hE hD hk => exec_loadi 3 Try.underlying3 (.tmp 19) ⟨g, 0, none⟩ (.int .i64 B.b) rfl (hD 3 19 (by kernel_rfl)) (range_int (range_kept (blk_range HB0.out) hk) 0 _ rfl)) ?_
      refine sv 6 rfl rfl rfl (fun a u hE hD hk => exec_move (.tmp 0) _ rfl (hE 0 (.pointer (some ⟨g, 0, none⟩)) (by kernel_rfl) (by kernel_rfl))) ?_
      refine sv 7 rfl rfl rfl (fun a u hE hD hk => exec_nilp (.tmp 21) ⟨g, 0, none⟩ rfl (hD 5 21 (by kernel_rfl))) ?_
      refine sv 8 rfl rfl rfl (fun a u hE hD hk => exec_fldo 41 2 2 (.tmp 22) (g) (0) (2) rfl (hD 6 22 (by kernel_rfl)) (by kernel_rfl) rfl) ?_
      refine sv 9 rfl rfl rfl (fun a u hE hD hk => exec_loadi 3 Try.underlying3 (.tmp 23) ⟨g, 2, none⟩ (.int .i64 B.k) rfl (hD 7 23 (by kernel_rfl)) (range_int (range_kept (blk_range HB0.out) hk) 2 _ rfl)) ?_
      refine sv 10 rfl rfl rfl (fun a u hE hD hk => exec_subn (p := (B.b)) (q := (B.k)) ((B.b : Int) - (B.k : Int)) rfl (hD 4 20 (by kernel_rfl)) (hD 8 24 (by kernel_rfl)) rfl (by omega) (by omega)) ?_
      refine fsteps_cons 11 rfl (fun a u hE hD hk => f_as (show ((decide ((((B.b : Int) - (B.k : Int)) : Int) ≤ (C : Int))) : Bool) = false from HD.out) (f_val (o := ⟨some 26, _, _, _, _, _⟩) (.bool (decide ((((B.b : Int) - (B.k : Int)) : Int) ≤ (C : Int)))) rfl (wanted_none rfl _) (exec_gen (p := C) (q := ((B.b : Int) - (B.k : Int))) rfl (hD 0 16 (by kernel_rfl)) (hD 9 25 (by kernel_rfl))) rfl)) ?_
      exact fsteps_nil
    intro gv w1 hV kb
    rw [show dstsOf _ 11 = [16, 17, 18, 19, 20, 21, 22, 23, 24, 25, 26] by kernel_rfl]
    simp only [List.foldl_cons, List.foldl_nil, List.setIfInBounds_toArray, List.set_cons_succ, List.set_cons_zero, List.drop_succ_cons, List.drop_zero]
    rw [show gv 26 = .bool false from hV 10 26 (by kernel_rfl)]
    clear hV
    refine wpList_nil ?_
    have HB1 := Lib.hid (HB0.out.kept kb)
    have kw := ka.trans kb
    clear HB0
    go_upto_region 3 with fail
    refine wp_text 8 [.eq (.pointer (some ⟨g, 0, none⟩)), .eq (.pointer (some ⟨g, 0, none⟩)), .eq (.pointer (some ⟨g, 2, none⟩)), .eq (.int .i64 B.k), .eq (.int .i64 C), .eq (.int .i64 ((B.k : Int) + (C : Int))), .eq (.pointer (some ⟨g, 0, none⟩)), .eq (.pointer (some ⟨g, 2, none⟩))] rfl (by kernel_rfl) ?_ ?_
    · refine sv 1 rfl rfl rfl (fun a u hE hD hk => exec_move (.tmp 0) _ rfl (hE 0 (.pointer (some ⟨g, 0, none⟩)) (by kernel_rfl) (by kernel_rfl))) ?_
      refine sv 2 rfl rfl rfl (fun a u hE hD hk => exec_nilp (.tmp 38) ⟨g, 0, none⟩ rfl (hD 0 38 (by kernel_rfl))) ?_
      refine sv 3 rfl rfl rfl (fun a u hE hD hk => exec_fldo 41 2 2 (.tmp 39) (g) (0) (2) rfl (hD 1 39 (by kernel_rfl)) (by kernel_rfl) rfl) ?_
      refine sv 4 rfl rfl rfl (fun a u hE hD hk => exec_loadi 3 Try.underlying3 (.tmp 40) ⟨g, 2, none⟩ (.int .i64 B.k) rfl (hD 2 40 (by kernel_rfl)) (range_int (range_kept (blk_range HB1.out) hk) 2 _ rfl)) ?_
      refine sv 5 rfl rfl rfl (fun a u hE hD hk => exec_move (.tmp 4) _ rfl (hE 4 (.int .i64 C) (by kernel_rfl) (by kernel_rfl))) ?_
      refine sv 6 rfl rfl rfl (fun a u hE hD hk => exec_addn (p := (B.k)) (q := (C)) ((B.k : Int) + (C : Int)) rfl (hD 3 41 (by kernel_rfl)) (hD 4 42 (by kernel_rfl)) rfl (by omega) (by omega)) ?_
      refine sv 7 rfl rfl rfl (fun a u hE hD hk => exec_nilp (.tmp 38) ⟨g, 0, none⟩ rfl (hD 0 38 (by kernel_rfl))) ?_
      refine sv 8 rfl rfl rfl (fun a u hE hD hk => exec_fldo 41 2 2 (.tmp 44) (g) (0) (2) rfl (hD 6 44 (by kernel_rfl)) (by kernel_rfl) rfl) ?_
      exact fsteps_nil
    intro gv w2 hV kc
    rw [show dstsOf _ 8 = [38, 39, 40, 41, 42, 43, 44, 45] by kernel_rfl]
    simp only [List.foldl_cons, List.foldl_nil, List.setIfInBounds_toArray, List.set_cons_succ, List.set_cons_zero, List.drop_succ_cons, List.drop_zero]
    rw [show gv 45 = .pointer (some ⟨g, 2, none⟩) from hV 7 45 (by kernel_rfl)]
    rw [show gv 43 = .int .i64 ((B.k : Int) + (C : Int)) from hV 5 43 (by kernel_rfl)]
    clear hV
    refine l_putN (o := ⟨none, _, _, _, _, _⟩) g 2 41 B.cells (Bkt.mk B.b B.r (B.k + C) B.t).cells (B.k + C) (.tmp 45) (.tmp 43) rfl rfl (by kernel_rfl) (by kernel_rfl) (HB1.out.kept kc) (by rw [Bkt.len4b]; omega) rfl ?_
    intro w3 hCw3 hKw3 hSw3
    simp only [Act.put]
    refine wpList_nil ?_
    have HB3 := Lib.hid hCw3
    have kz3 : Keep (· = g) w w3 := ((kw.trans kc).mono (fun _ _ h => h.elim) : Keep (· = g) w w2).trans hKw3 (fun _ _ h => h)
    clear hCw3 hKw3 hSw3 kc kw HB1
    go_upto_region 4 with fail
    refine wp_free 13 [.eq (.pointer (some ⟨g, 0, none⟩)), .eq (.pointer (some ⟨g, 0, none⟩)), .eq (.pointer (some ⟨g, 3, none⟩)), .eq (.int .i64 (Bkt.mk B.b B.r (B.k + C) B.t).t), .eq (.int .i64 C), .eq (.pointer (some ⟨g, 0, none⟩)), .eq (.pointer (some ⟨g, 0, none⟩)), .eq (.pointer (some ⟨g, 1, none⟩)), .eq (.int .i64 (Bkt.mk B.b B.r (B.k + C) B.t).r), .eq (.int .i64 (C * B.r)), .eq (.int .i64 (B.t + C * B.r)), .eq (.pointer (some ⟨g, 0, none⟩)), .eq (.pointer (some ⟨g, 3, none⟩))] (by kernel_rfl) rfl (by kernel_rfl) ?_ ?_
    · refine sv 1 rfl rfl rfl (fun a u hE hD hk => exec_move (.tmp 0) _ rfl (hE 0 (.pointer (some ⟨g, 0, none⟩)) (by kernel_rfl) (by kernel_rfl))) ?_
      refine sv 2 rfl rfl rfl (fun a u hE hD hk => exec_nilp (.tmp 46) ⟨g, 0, none⟩ rfl (hD 0 46 (by kernel_rfl))) ?_
      refine sv 3 rfl rfl rfl (fun a u hE hD hk => exec_fldo 41 3 3 (.tmp 47) (g) (0) (3) rfl (hD 1 47 (by kernel_rfl)) (by kernel_rfl) rfl) ?_
      refine sv 4 rfl rfl rfl (fun a u hE hD hk => exec_loadi 3 Try.underlying3 (.tmp 48) ⟨g, 3, none⟩ (.int .i64 (Bkt.mk B.b B.r (B.k + C) B.t).t) rfl (hD 2 48 (by kernel_rfl)) (range_int (range_kept (blk_range HB3.out) hk) 3 _ rfl)) ?_
      refine sv 5 rfl rfl rfl (fun a u hE hD hk => exec_move (.tmp 4) _ rfl (hE 4 (.int .i64 C) (by kernel_rfl) (by kernel_rfl))) ?_
      refine sv 6 rfl rfl rfl (fun a u hE hD hk => exec_move (.tmp 0) _ rfl (hE 0 (.pointer (some ⟨g, 0, none⟩)) (by kernel_rfl) (by kernel_rfl))) ?_
      refine sv 7 rfl rfl rfl (fun a u hE hD hk => exec_nilp (.tmp 51) ⟨g, 0, none⟩ rfl (hD 5 51 (by kernel_rfl))) ?_
      refine sv 8 rfl rfl rfl (fun a u hE hD hk => exec_fldo 41 1 1 (.tmp 52) (g) (0) (1) rfl (hD 6 52 (by kernel_rfl)) (by kernel_rfl) rfl) ?_
      refine sv 9 rfl rfl rfl (fun a u hE hD hk => exec_loadi 3 Try.underlying3 (.tmp 53) ⟨g, 1, none⟩ (.int .i64 (Bkt.mk B.b B.r (B.k + C) B.t).r) rfl (hD 7 53 (by kernel_rfl)) (range_int (range_kept (blk_range HB3.out) hk) 1 _ rfl)) ?_
      refine sv 10 rfl rfl rfl (fun a u hE hD hk => exec_muln (C * B.r) rfl (hD 4 50 (by kernel_rfl)) (hD 8 54 (by kernel_rfl)) rfl (by omega) (by omega)) ?_
      refine sv 11 rfl rfl rfl (fun a u hE hD hk => exec_addn (B.t + C * B.r) rfl (hD 3 49 (by kernel_rfl)) (hD 9 55 (by kernel_rfl)) rfl (by omega) (by omega)) ?_
      refine sv 12 rfl rfl rfl (fun a u hE hD hk => exec_nilp (.tmp 46) ⟨g, 0, none⟩ rfl (hD 0 46 (by kernel_rfl))) ?_
      refine sv 13 rfl rfl rfl (fun a u hE hD hk => exec_fldo 41 3 3 (.tmp 57) (g) (0) (3) rfl (hD 11 57 (by kernel_rfl)) (by kernel_rfl) rfl) ?_
      exact fsteps_nil
    intro gv w4 hV kd
    rw [show dstsOf _ 13 = [46, 47, 48, 49, 50, 51, 52, 53, 54, 55, 56, 57, 58] by kernel_rfl]
    simp only [List.foldl_cons, List.foldl_nil, List.setIfInBounds_toArray, List.set_cons_succ, List.set_cons_zero, List.drop_succ_cons, List.drop_zero]
    rw [show gv 58 = .pointer (some ⟨g, 3, none⟩) from hV 12 58 (by kernel_rfl)]
    rw [show gv 56 = .int .i64 (B.t + C * B.r) from hV 10 56 (by kernel_rfl)]
    clear hV
    refine l_putN (o := ⟨none, _, _, _, _, _⟩) g 3 41 (Bkt.mk B.b B.r (B.k + C) B.t).cells (Bkt.mk B.b B.r (B.k + C) (B.t + C * B.r)).cells (B.t + C * B.r) (.tmp 58) (.tmp 56) rfl rfl (by kernel_rfl) (by kernel_rfl) (HB3.out.kept kd) (by rw [Bkt.len4b]; omega) rfl ?_
    intro w5 hCw5 hKw5 hSw5
    simp only [Act.put]
    refine wpList_nil ?_
    have kz : Keep (· = g) w w5 := (kz3.kept kd).trans hKw5 (fun _ _ h => h)
    go_wp2
    go_end0
    exact ⟨rfl, hCw5, kz⟩
set_option maxRecDepth 100000 in
set_option maxHeartbeats 1600000 in
theorem btake_any (g : Nat) (B : Bkt) (hO : B.Ok) (now : Int) (h1 : now ≤ 1099511627776) (w : World) (hB : Blk w g 41 B.cells) : Calls Try.prog 9 #[.pointer (some ⟨g, 0, none⟩), .int .i64 now] w fun e w' => e = .returned (.bool (B.can now)) ∧ Blk w' g 41 (B.took now).cells ∧ Keep (· = g) w w' := by
  have HB := Lib.hid hB
  clear hB
  have hS := hO.seen h1
  obtain ⟨b0, b1, r0, r1, k0, k1, t0, t1⟩ := hS
  unfold Bkt.can Bkt.took
  obtain ⟨S, hS⟩ : ∃ S, B.seenM now = S := ⟨_, rfl⟩
  rw [hS] at k0 k1 b1 ⊢
  clear b0 r0 r1 t0 t1
  have HS := Lib.hid hS
  clear hS
  obtain ⟨V, hV⟩ : ∃ V, (!decide (S.k = 0)) = V := ⟨_, rfl⟩
  obtain ⟨Y, hY⟩ : ∃ Y, (if S.k = 0 then S else S.less) = Y := ⟨_, rfl⟩
  rw [hV, hY]
  have HV := Lib.hid hV
  have HY := Lib.hid hY
  clear hV hY
  by_cases h0 : B.t < now
  · have HSf : Hid (B.fillM now = S) := by show _ = _; have := HS.out; unfold Bkt.seenM at this; rw [if_pos h0] at this; exact this
    clear HS
    have HF := Lib.hid fun w hB => bfill_any g B hO now h0 h1 w hB
    rw [HSf.out] at HF
    clear hO
    go_enter Try.func9, Try.ntmps9
    go_upto_region 1 with fail
    refine wp_text 6 [.eq (.int .i64 now), .eq (.pointer (some ⟨g, 0, none⟩)), .eq (.pointer (some ⟨g, 0, none⟩)), .eq (.pointer (some ⟨g, 3, none⟩)), .eq (.int .i64 B.t), .eq (.bool true)] rfl (by kernel_rfl) ?_ ?_
    · refine sv 1 rfl rfl rfl (fun a u hE hD hk => exec_move (.tmp 1) _ rfl (hE 1 (.int .i64 now) (by kernel_rfl) (by kernel_rfl))) ?_
      refine sv 2 rfl rfl rfl (fun a u hE hD hk => exec_move (.tmp 0) _ rfl (hE 0 (.pointer (some ⟨g, 0, none⟩)) (by kernel_rfl) (by kernel_rfl))) ?_
      refine sv 3 rfl rfl rfl (fun a u hE hD hk => exec_nilp (.tmp 6) ⟨g, 0, none⟩ rfl (hD 1 6 (by kernel_rfl))) ?_
      refine sv 4 rfl rfl rfl (fun a u hE hD hk => exec_fldo 41 3 3 (.tmp 7) (g) (0) (3) rfl (hD 2 7 (by kernel_rfl)) (by kernel_rfl) rfl) ?_
      refine sv 5 rfl rfl rfl (fun a u hE hD hk => exec_loadi 3 Try.underlying3 (.tmp 8) ⟨g, 3, none⟩ (.int .i64 B.t) rfl (hD 3 8 (by kernel_rfl)) (range_int (range_kept (blk_range HB.out) hk) 3 _ rfl)) ?_
      refine fsteps_cons 6 rfl (fun a u hE hD hk => f_as (show ((decide ((B.t : Int) < (now : Int))) : Bool) = true from decide_eq_true h0) (f_val (o := ⟨some 10, _, _, _, _, _⟩) (.bool (decide ((B.t : Int) < (now : Int)))) rfl (wanted_none rfl _) (exec_gtn (p := now) (q := B.t) rfl (hD 0 5 (by kernel_rfl)) (hD 4 9 (by kernel_rfl))) rfl)) ?_
      exact fsteps_nil
    intro gv w0 hV kq
    rw [show dstsOf _ 6 = [5, 6, 7, 8, 9, 10] by kernel_rfl]
    simp only [List.foldl_cons, List.foldl_nil, List.setIfInBounds_toArray, List.set_cons_succ, List.set_cons_zero, List.drop_succ_cons, List.drop_zero]
    rw [show gv 10 = .bool true from hV 5 10 (by kernel_rfl)]
    clear hV
    refine wpList_nil ?_
    have HB0 := Lib.hid (HB.out.kept kq)
    clear HB h0 h1
    go_upto_region 2 with fail
    refine wp_region_lit ?_
    refine l_val (o := ⟨some 11, _, _, _, _, _⟩) (.pointer (some ⟨g, 0, none⟩)) rfl (exec_move (.tmp 0) (.pointer (some ⟨g, 0, none⟩)) rfl (by kernel_rfl)) ?_
    simp only [Act.put, List.setIfInBounds_toArray, List.set_cons_succ, List.set_cons_zero]
    refine l_val (o := ⟨some 12, _, _, _, _, _⟩) (.int .i64 now) rfl (exec_move (.tmp 1) (.int .i64 now) rfl (by kernel_rfl)) ?_
    simp only [Act.put, List.setIfInBounds_toArray, List.set_cons_succ, List.set_cons_zero]
    refine l_call (o := ⟨some 13, _, _, _, _, _⟩) 16 #[.pointer (some ⟨g, 0, none⟩), .int .i64 now] rfl (exec_call 16 _ [.tmp 11, .tmp 12] _ _ Try.func16 (by kernel_rfl) (by kernel_rfl) rfl (by kernel_rfl) _) ?_
    refine (HF.out w0 HB0.out).mono ?_
    rintro e w1 ⟨rfl, hB1, k1_⟩
    refine ⟨_, rfl, ?_⟩
    simp only [Act.put, List.setIfInBounds_toArray, List.set_cons_succ, List.set_cons_zero]
    refine wpList_nil ?_
    have HBs := Lib.hid hB1
    have kw : Keep (· = g) w w1 := (kq.mono (fun _ _ h => h.elim) : Keep (· = g) w w0).trans k1_ (fun _ _ h => h)
    clear hB1 k1_ HB0 HF kq
    by_cases hz : S.k = 0
    · have e1 : Hid (V = false) := by show _ = _; rw [← HV.out, decide_eq_true hz]; rfl
      have e2 : Hid (Y = S) := by show _ = _; rw [← HY.out, if_pos hz]
      go_upto_region 3 with fail
      refine wp_text 5 [.eq (.pointer (some ⟨g, 0, none⟩)), .eq (.pointer (some ⟨g, 0, none⟩)), .eq (.pointer (some ⟨g, 2, none⟩)), .eq (.int .i64 S.k), .eq (.bool true)] rfl (by kernel_rfl) ?_ ?_
      · refine sv 1 rfl rfl rfl (fun a u hE hD hk => exec_move (.tmp 0) _ rfl (hE 0 (.pointer (some ⟨g, 0, none⟩)) (by kernel_rfl) (by kernel_rfl))) ?_
        refine sv 2 rfl rfl rfl (fun a u hE hD hk => exec_nilp (.tmp 14) ⟨g, 0, none⟩ rfl (hD 0 14 (by kernel_rfl))) ?_
        refine sv 3 rfl rfl rfl (fun a u hE hD hk => exec_fldo 41 2 2 (.tmp 15) (g) (0) (2) rfl (hD 1 15 (by kernel_rfl)) (by kernel_rfl) rfl) ?_
        refine sv 4 rfl rfl rfl (fun a u hE hD hk => exec_loadi 3 Try.underlying3 (.tmp 16) ⟨g, 2, none⟩ (.int .i64 S.k) rfl (hD 2 16 (by kernel_rfl)) (range_int (range_kept (blk_range HBs.out) hk) 2 _ rfl)) ?_
        refine fsteps_cons 5 rfl (fun a u hE hD hk => f_as (show ((decide ((S.k : Int) = (0 : Int))) : Bool) = true from decide_eq_true hz) (f_val (o := ⟨some 18, _, _, _, _, _⟩) (.bool (decide ((S.k : Int) = (0 : Int)))) rfl (wanted_none rfl _) (exec_eqn (p := S.k) (q := 0) rfl (hD 3 17 (by kernel_rfl)) rfl) rfl)) ?_
        exact fsteps_nil
      intro gv wa hV ka
      rw [show dstsOf _ 5 = [14, 15, 16, 17, 18] by kernel_rfl]
      simp only [List.foldl_cons, List.foldl_nil, List.setIfInBounds_toArray, List.set_cons_succ, List.set_cons_zero, List.drop_succ_cons, List.drop_zero]
      rw [show gv 18 = .bool true from hV 4 18 (by kernel_rfl)]
      clear hV
      refine wpList_nil ?_
      have HBa := Lib.hid (HBs.out.kept ka)
      have kwa := kw.kept ka
      clear HBs kw ka
      have HB1 := HBa.out
      go_wp2
      go_ret
      exact ⟨by rw [e1.out]; rfl, by rw [e2.out]; exact HB1, kwa⟩
    · have e1 : Hid (V = true) := by show _ = _; rw [← HV.out, decide_eq_false hz]; rfl
      have e2 : Hid (Y = S.less) := by show _ = _; rw [← HY.out, if_neg hz]
      go_upto_region 3 with fail
      refine wp_text 5 [.eq (.pointer (some ⟨g, 0, none⟩)), .eq (.pointer (some ⟨g, 0, none⟩)), .eq (.pointer (some ⟨g, 2, none⟩)), .eq (.int .i64 S.k), .eq (.bool false)] rfl (by kernel_rfl) ?_ ?_
      · refine sv 1 rfl rfl rfl (fun a u hE hD hk => exec_move (.tmp 0) _ rfl (hE 0 (.pointer (some ⟨g, 0, none⟩)) (by kernel_rfl) (by kernel_rfl))) ?_
        refine sv 2 rfl rfl rfl (fun a u hE hD hk => exec_nilp (.tmp 14) ⟨g, 0, none⟩ rfl (hD 0 14 (by kernel_rfl))) ?_
        refine sv 3 rfl rfl rfl (fun a u hE hD hk => exec_fldo 41 2 2 (.tmp 15) (g) (0) (2) rfl (hD 1 15 (by kernel_rfl)) (by kernel_rfl) rfl) ?_
        refine sv 4 rfl rfl rfl (fun a u hE hD hk => exec_loadi 3 Try.underlying3 (.tmp 16) ⟨g, 2, none⟩ (.int .i64 S.k) rfl (hD 2 16 (by kernel_rfl)) (range_int (range_kept (blk_range HBs.out) hk) 2 _ rfl)) ?_
        refine fsteps_cons 5 rfl (fun a u hE hD hk => f_as (show ((decide ((S.k : Int) = (0 : Int))) : Bool) = false from decide_eq_false hz) (f_val (o := ⟨some 18, _, _, _, _, _⟩) (.bool (decide ((S.k : Int) = (0 : Int)))) rfl (wanted_none rfl _) (exec_eqn (p := S.k) (q := 0) rfl (hD 3 17 (by kernel_rfl)) rfl) rfl)) ?_
        exact fsteps_nil
      intro gv wa hV ka
      rw [show dstsOf _ 5 = [14, 15, 16, 17, 18] by kernel_rfl]
      simp only [List.foldl_cons, List.foldl_nil, List.setIfInBounds_toArray, List.set_cons_succ, List.set_cons_zero, List.drop_succ_cons, List.drop_zero]
      rw [show gv 18 = .bool false from hV 4 18 (by kernel_rfl)]
      clear hV
      refine wpList_nil ?_
      have HBa := Lib.hid (HBs.out.kept ka)
      have kwa := kw.kept ka
      clear HBs kw ka
      go_upto_region 5 with fail
      refine wp_text 7 [.eq (.pointer (some ⟨g, 0, none⟩)), .eq (.pointer (some ⟨g, 0, none⟩)), .eq (.pointer (some ⟨g, 2, none⟩)), .eq (.int .i64 S.k), .eq (.int .i64 ((S.k : Int) - (1 : Int))), .eq (.pointer (some ⟨g, 0, none⟩)), .eq (.pointer (some ⟨g, 2, none⟩))] rfl (by kernel_rfl) ?_ ?_
      · refine sv 1 rfl rfl rfl (fun a u hE hD hk => exec_move (.tmp 0) _ rfl (hE 0 (.pointer (some ⟨g, 0, none⟩)) (by kernel_rfl) (by kernel_rfl))) ?_
        refine sv 2 rfl rfl rfl (fun a u hE hD hk => exec_nilp (.tmp 19) ⟨g, 0, none⟩ rfl (hD 0 19 (by kernel_rfl))) ?_
        refine sv 3 rfl rfl rfl (fun a u hE hD hk => exec_fldo 41 2 2 (.tmp 20) (g) (0) (2) rfl (hD 1 20 (by kernel_rfl)) (by kernel_rfl) rfl) ?_
        refine sv 4 rfl rfl rfl (fun a u hE hD hk => exec_loadi 3 Try.underlying3 (.tmp 21) ⟨g, 2, none⟩ (.int .i64 S.k) rfl (hD 2 21 (by kernel_rfl)) (range_int (range_kept (blk_range HBa.out) hk) 2 _ rfl)) ?_
        refine sv 5 rfl rfl rfl (fun a u hE hD hk => exec_subn (p := (S.k)) (q := (1)) ((S.k : Int) - (1 : Int)) rfl (hD 3 22 (by kernel_rfl)) rfl rfl (by omega) (by omega)) ?_
        refine sv 6 rfl rfl rfl (fun a u hE hD hk => exec_nilp (.tmp 19) ⟨g, 0, none⟩ rfl (hD 0 19 (by kernel_rfl))) ?_
        refine sv 7 rfl rfl rfl (fun a u hE hD hk => exec_fldo 41 2 2 (.tmp 24) (g) (0) (2) rfl (hD 5 24 (by kernel_rfl)) (by kernel_rfl) rfl) ?_
        exact fsteps_nil
      intro gv wb hV kb
      rw [show dstsOf _ 7 = [19, 20, 21, 22, 23, 24, 25] by kernel_rfl]
      simp only [List.foldl_cons, List.foldl_nil, List.setIfInBounds_toArray, List.set_cons_succ, List.set_cons_zero, List.drop_succ_cons, List.drop_zero]
      rw [show gv 25 = .pointer (some ⟨g, 2, none⟩) from hV 6 25 (by kernel_rfl)]
      rw [show gv 23 = .int .i64 ((S.k : Int) - (1 : Int)) from hV 4 23 (by kernel_rfl)]
      clear hV
      refine l_putN (o := ⟨none, _, _, _, _, _⟩) g 2 41 S.cells S.less.cells (S.k - 1) (.tmp 25) (.tmp 23) rfl rfl (by kernel_rfl) (by kernel_rfl) (HBa.out.kept kb) (by rw [Bkt.len4b]; omega) rfl ?_
      intro wc hCwc hKwc hSwc
      simp only [Act.put]
      refine wpList_nil ?_
      have kz := (kwa.kept kb).trans hKwc (fun _ _ h => h)
      go_wp2
      go_ret
      exact ⟨by rw [e1.out]; rfl, by rw [e2.out]; exact hCwc, kz⟩
  · have HSf : Hid (B = S) := by show _ = _; have := HS.out; unfold Bkt.seenM at this; rw [if_neg h0] at this; exact this
    clear HS hO
    go_enter Try.func9, Try.ntmps9
    go_upto_region 1 with fail
    refine wp_text 6 [.eq (.int .i64 now), .eq (.pointer (some ⟨g, 0, none⟩)), .eq (.pointer (some ⟨g, 0, none⟩)), .eq (.pointer (some ⟨g, 3, none⟩)), .eq (.int .i64 B.t), .eq (.bool false)] rfl (by kernel_rfl) ?_ ?_
    · refine sv 1 rfl rfl rfl (fun a u hE hD hk => exec_move (.tmp 1) _ rfl (hE 1 (.int .i64 now) (by kernel_rfl) (by kernel_rfl))) ?_
      refine sv 2 rfl rfl rfl (fun a u hE hD hk => exec_move (.tmp 0) _ rfl (hE 0 (.pointer (some ⟨g, 0, none⟩)) (by kernel_rfl) (by kernel_rfl))) ?_
      refine sv 3 rfl rfl rfl (fun a u hE hD hk => exec_nilp (.tmp 6) ⟨g, 0, none⟩ rfl (hD 1 6 (by kernel_rfl))) ?_
      refine sv 4 rfl rfl rfl (fun a u hE hD hk => exec_fldo 41 3 3 (.tmp 7) (g) (0) (3) rfl (hD 2 7 (by kernel_rfl)) (by kernel_rfl) rfl) ?_
      refine sv 5 rfl rfl rfl (fun a u hE hD hk => exec_loadi 3 Try.underlying3 (.tmp 8) ⟨g, 3, none⟩ (.int .i64 B.t) rfl (hD 3 8 (by kernel_rfl)) (range_int (range_kept (blk_range HB.out) hk) 3 _ rfl)) ?_
      refine fsteps_cons 6 rfl (fun a u hE hD hk => f_as (show ((decide ((B.t : Int) < (now : Int))) : Bool) = false from decide_eq_false h0) (f_val (o := ⟨some 10, _, _, _, _, _⟩) (.bool (decide ((B.t : Int) < (now : Int)))) rfl (wanted_none rfl _) (exec_gtn (p := now) (q := B.t) rfl (hD 0 5 (by kernel_rfl)) (hD 4 9 (by kernel_rfl))) rfl)) ?_
      exact fsteps_nil
    intro gv w0 hV kq
    rw [show dstsOf _ 6 = [5, 6, 7, 8, 9, 10] by kernel_rfl]
    simp only [List.foldl_cons, List.foldl_nil, List.setIfInBounds_toArray, List.set_cons_succ, List.set_cons_zero, List.drop_succ_cons, List.drop_zero]
    rw [show gv 10 = .bool false from hV 5 10 (by kernel_rfl)]
    clear hV
    refine wpList_nil ?_
    have HBs := Lib.hid (HB.out.kept kq)
    have kw : Keep (· = g) w w0 := kq.mono (fun _ _ h => h.elim)
    rw [HSf.out] at HBs
    clear HB h0 h1 kq HSf
    by_cases hz : S.k = 0
    · have e1 : Hid (V = false) := by show _ = _; rw [← HV.out, decide_eq_true hz]; rfl
      have e2 : Hid (Y = S) := by show _ = _; rw [← HY.out, if_pos hz]
      go_upto_region 3 with fail
      refine wp_text 5 [.eq (.pointer (some ⟨g, 0, none⟩)), .eq (.pointer (some ⟨g, 0, none⟩)), .eq (.pointer (some ⟨g, 2, none⟩)), .eq (.int .i64 S.k), .eq (.bool true)] rfl (by kernel_rfl) ?_ ?_
      · refine sv 1 rfl rfl rfl (fun a u hE hD hk => exec_move (.tmp 0) _ rfl (hE 0 (.pointer (some ⟨g, 0, none⟩)) (by kernel_rfl) (by kernel_rfl))) ?_
        refine sv 2 rfl rfl rfl (fun a u hE hD hk => exec_nilp (.tmp 14) ⟨g, 0, none⟩ rfl (hD 0 14 (by kernel_rfl))) ?_
        refine sv 3 rfl rfl rfl (fun a u hE hD hk => exec_fldo 41 2 2 (.tmp 15) (g) (0) (2) rfl (hD 1 15 (by kernel_rfl)) (by kernel_rfl) rfl) ?_
        refine sv 4 rfl rfl rfl (fun a u hE hD hk => exec_loadi 3 Try.underlying3 (.tmp 16) ⟨g, 2, none⟩ (.int .i64 S.k) rfl (hD 2 16 (by kernel_rfl)) (range_int (range_kept (blk_range HBs.out) hk) 2 _ rfl)) ?_
        refine fsteps_cons 5 rfl (fun a u hE hD hk => f_as (show ((decide ((S.k : Int) = (0 : Int))) : Bool) = true from decide_eq_true hz) (f_val (o := ⟨some 18, _, _, _, _, _⟩) (.bool (decide ((S.k : Int) = (0 : Int)))) rfl (wanted_none rfl _) (exec_eqn (p := S.k) (q := 0) rfl (hD 3 17 (by kernel_rfl)) rfl) rfl)) ?_
        exact fsteps_nil
      intro gv wa hV ka
      rw [show dstsOf _ 5 = [14, 15, 16, 17, 18] by kernel_rfl]
      simp only [List.foldl_cons, List.foldl_nil, List.setIfInBounds_toArray, List.set_cons_succ, List.set_cons_zero, List.drop_succ_cons, List.drop_zero]
      rw [show gv 18 = .bool true from hV 4 18 (by kernel_rfl)]
      clear hV
      refine wpList_nil ?_
      have HBa := Lib.hid (HBs.out.kept ka)
      have kwa := kw.kept ka
      clear HBs kw ka
      have HB1 := HBa.out
      go_wp2
      go_ret
      exact ⟨by rw [e1.out]; rfl, by rw [e2.out]; exact HB1, kwa⟩
    · have e1 : Hid (V = true) := by show _ = _; rw [← HV.out, decide_eq_false hz]; rfl
      have e2 : Hid (Y = S.less) := by show _ = _; rw [← HY.out, if_neg hz]
      go_upto_region 3 with fail
      refine wp_text 5 [.eq (.pointer (some ⟨g, 0, none⟩)), .eq (.pointer (some ⟨g, 0, none⟩)), .eq (.pointer (some ⟨g, 2, none⟩)), .eq (.int .i64 S.k), .eq (.bool false)] rfl (by kernel_rfl) ?_ ?_
      · refine sv 1 rfl rfl rfl (fun a u hE hD hk => exec_move (.tmp 0) _ rfl (hE 0 (.pointer (some ⟨g, 0, none⟩)) (by kernel_rfl) (by kernel_rfl))) ?_
        refine sv 2 rfl rfl rfl (fun a u hE hD hk => exec_nilp (.tmp 14) ⟨g, 0, none⟩ rfl (hD 0 14 (by kernel_rfl))) ?_
        refine sv 3 rfl rfl rfl (fun a u hE hD hk => exec_fldo 41 2 2 (.tmp 15) (g) (0) (2) rfl (hD 1 15 (by kernel_rfl)) (by kernel_rfl) rfl) ?_
        refine sv 4 rfl rfl rfl (fun a u hE hD hk => exec_loadi 3 Try.underlying3 (.tmp 16) ⟨g, 2, none⟩ (.int .i64 S.k) rfl (hD 2 16 (by kernel_rfl)) (range_int (range_kept (blk_range HBs.out) hk) 2 _ rfl)) ?_
        refine fsteps_cons 5 rfl (fun a u hE hD hk => f_as (show ((decide ((S.k : Int) = (0 : Int))) : Bool) = false from decide_eq_false hz) (f_val (o := ⟨some 18, _, _, _, _, _⟩) (.bool (decide ((S.k : Int) = (0 : Int)))) rfl (wanted_none rfl _) (exec_eqn (p := S.k) (q := 0) rfl (hD 3 17 (by kernel_rfl)) rfl) rfl)) ?_
        exact fsteps_nil
      intro gv wa hV ka
      rw [show dstsOf _ 5 = [14, 15, 16, 17, 18] by kernel_rfl]
      simp only [List.foldl_cons, List.foldl_nil, List.setIfInBounds_toArray, List.set_cons_succ, List.set_cons_zero, List.drop_succ_cons, List.drop_zero]
      rw [show gv 18 = .bool false from hV 4 18 (by kernel_rfl)]
      clear hV
      refine wpList_nil ?_
      have HBa := Lib.hid (HBs.out.kept ka)
      have kwa := kw.kept ka
      clear HBs kw ka
      go_upto_region 5 with fail
      refine wp_text 7 [.eq (.pointer (some ⟨g, 0, none⟩)), .eq (.pointer (some ⟨g, 0, none⟩)), .eq (.pointer (some ⟨g, 2, none⟩)), .eq (.int .i64 S.k), .eq (.int .i64 ((S.k : Int) - (1 : Int))), .eq (.pointer (some ⟨g, 0, none⟩)), .eq (.pointer (some ⟨g, 2, none⟩))] rfl (by kernel_rfl) ?_ ?_
      · refine sv 1 rfl rfl rfl (fun a u hE hD hk => exec_move (.tmp 0) _ rfl (hE 0 (.pointer (some ⟨g, 0, none⟩)) (by kernel_rfl) (by kernel_rfl))) ?_
        refine sv 2 rfl rfl rfl (fun a u hE hD hk => exec_nilp (.tmp 19) ⟨g, 0, none⟩ rfl (hD 0 19 (by kernel_rfl))) ?_
        refine sv 3 rfl rfl rfl (fun a u hE hD hk => exec_fldo 41 2 2 (.tmp 20) (g) (0) (2) rfl (hD 1 20 (by kernel_rfl)) (by kernel_rfl) rfl) ?_
        refine sv 4 rfl rfl rfl (fun a u hE hD hk => exec_loadi 3 Try.underlying3 (.tmp 21) ⟨g, 2, none⟩ (.int .i64 S.k) rfl (hD 2 21 (by kernel_rfl)) (range_int (range_kept (blk_range HBa.out) hk) 2 _ rfl)) ?_
        refine sv 5 rfl rfl rfl (fun a u hE hD hk => exec_subn (p := (S.k)) (q := (1)) ((S.k : Int) - (1 : Int)) rfl (hD 3 22 (by kernel_rfl)) rfl rfl (by omega) (by omega)) ?_
        refine sv 6 rfl rfl rfl (fun a u hE hD hk => exec_nilp (.tmp 19) ⟨g, 0, none⟩ rfl (hD 0 19 (by kernel_rfl))) ?_
        refine sv 7 rfl rfl rfl (fun a u hE hD hk => exec_fldo 41 2 2 (.tmp 24) (g) (0) (2) rfl (hD 5 24 (by kernel_rfl)) (by kernel_rfl) rfl) ?_
        exact fsteps_nil
      intro gv wb hV kb
      rw [show dstsOf _ 7 = [19, 20, 21, 22, 23, 24, 25] by kernel_rfl]
      simp only [List.foldl_cons, List.foldl_nil, List.setIfInBounds_toArray, List.set_cons_succ, List.set_cons_zero, List.drop_succ_cons, List.drop_zero]
      rw [show gv 25 = .pointer (some ⟨g, 2, none⟩) from hV 6 25 (by kernel_rfl)]
      rw [show gv 23 = .int .i64 ((S.k : Int) - (1 : Int)) from hV 4 23 (by kernel_rfl)]
      clear hV
      refine l_putN (o := ⟨none, _, _, _, _, _⟩) g 2 41 S.cells S.less.cells (S.k - 1) (.tmp 25) (.tmp 23) rfl rfl (by kernel_rfl) (by kernel_rfl) (HBa.out.kept kb) (by rw [Bkt.len4b]; omega) rfl ?_
      intro wc hCwc hKwc hSwc
      simp only [Act.put]
      refine wpList_nil ?_
      have kz := (kwa.kept kb).trans hKwc (fun _ _ h => h)
      go_wp2
      go_ret
      exact ⟨by rw [e1.out]; rfl, by rw [e2.out]; exact hCwc, kz⟩
end Go.Proofs.Ytpkadepohgeloaa
