/-
  The contracts of package level: shown, New, Price, Len, dropFirst, Add; of the document's own tip. Condition: a level holds far fewer than 2^40 orders.
-/
import Derived.Test.YtlbkehpdohihlaaLvlX
namespace Go.Proofs.Ytlbkehpdohihlaa
open Go.RowKit
set_option linter.unusedVariables false

set_option maxRecDepth 100000 in
set_option maxHeartbeats 800000 in
theorem shown_any (c : Ord) (w : World) : Gives 31 #[c.v] w (.eq (.int .i64 c.tip)) := by
  refine gives_eq ?_
  go_enter Try.func31, Try.ntmps31
  go_upto_region 0 with fail
  refine wp_text 2 [.fresh w.heap.size 25 (c.cells), .eq (.int .i64 0)] rfl (by kernel_rfl) ?_ ?_
  · refine fsteps_cons 1 rfl (fun a u hE hD hk => f_new (o := ⟨some 1, _, _, _, _, _⟩) (.pointer (some ⟨u.heap.size, 0, none⟩)) _ rfl (wanted_none rfl _) (exec_box 25 (.tmp 0) (c.cells) rfl (hE 0 (c.v) (by kernel_rfl) (by kernel_rfl))) ⟨_, rfl, hk.size, Blk.new u _ _⟩ ((Keep.refl _ u).alloc _)) ?_
    refine fsteps_cons 2 rfl (fun a u hE hD hk => f_val (o := ⟨some 2, _, _, _, _, _⟩) (.int .i64 0) rfl (wanted_none rfl _) (exec_assign (.const (.int .i64 0)) (.int .i64 0) rfl rfl) rfl) ?_
    exact fsteps_nil
  intro gv w1 hV k1
  rw [show dstsOf _ 2 = [1, 2] by kernel_rfl]
  simp only [List.foldl_cons, List.foldl_nil, List.setIfInBounds_toArray, List.set_cons_succ, List.set_cons_zero, List.drop_succ_cons, List.drop_zero]
  have hv1 : (.fresh w.heap.size 25 (c.cells) : Kn).p (gv 1) w1 := hV 0 1 (by kernel_rfl)
  generalize gv 1 = v1 at hv1 ⊢
  rw [show gv 2 = .int .i64 0 from hV 1 2 (by kernel_rfl)]
  clear hV
  obtain ⟨g, rfl, hg, hB⟩ := hv1
  refine wpList_nil ?_
  have HB := Lib.hid (blk_range hB)
  clear hB
  by_cases hs : 0 < c.shw
  · have HT : Hid (c.tip = mn c.shw c.qty) := by show _ = _; unfold Ord.tip; rw [if_pos hs]
    go_upto_region 1 with fail
    refine wp_text 3 [.eq (.pointer (some ⟨g, 7, none⟩)), .eq (.int .i64 c.shw), .eq (.bool true)] rfl (by kernel_rfl) ?_ ?_
    · refine fsteps_cons 1 rfl (fun a u hE hD hk => f_val (o := ⟨some 3, _, _, _, _, _⟩) (.pointer (some ⟨g, 7, none⟩)) rfl (wanted_none rfl _) (exec_fldo 25 7 7 (.tmp 1) (g) (0) (7) rfl (hE 1 (.pointer (some ⟨g, 0, none⟩)) (by kernel_rfl) (by kernel_rfl)) (by kernel_rfl) rfl) rfl) ?_
      refine fsteps_cons 2 rfl (fun a u hE hD hk => f_val (o := ⟨some 4, _, _, _, _, _⟩) (.int .i64 c.shw) rfl (wanted_none rfl _) (exec_loadi 3 Try.underlying3 (.tmp 3) ⟨g, 7, none⟩ (.int .i64 c.shw) rfl (hD 0 3 (by kernel_rfl)) (range_int (range_kept HB.out hk) 7 _ rfl)) rfl) ?_
      refine fsteps_cons 3 rfl (fun a u hE hD hk => f_as (show ((decide ((0 : Int) < (c.shw : Int))) : Bool) = true from decide_eq_true hs) (f_val (o := ⟨some 5, _, _, _, _, _⟩) (.bool (decide ((0 : Int) < (c.shw : Int)))) rfl (wanted_none rfl _) (exec_gtn (p := c.shw) (q := 0) rfl (hD 1 4 (by kernel_rfl)) rfl) rfl)) ?_
      exact fsteps_nil
    intro gv w2 hV k2
    rw [show dstsOf _ 3 = [3, 4, 5] by kernel_rfl]
    simp only [List.foldl_cons, List.foldl_nil, List.setIfInBounds_toArray, List.set_cons_succ, List.set_cons_zero, List.drop_succ_cons, List.drop_zero]
    rw [show gv 5 = .bool true from hV 2 5 (by kernel_rfl)]
    clear hV
    refine wpList_nil ?_
    have HB2 := Lib.hid (range_kept HB.out k2)
    clear HB hs
    go_upto_region 2 with fail
    refine wp_text 6 [.eq (.pointer (some ⟨g, 7, none⟩)), .eq (.int .i64 c.shw), .eq (.pointer (some ⟨g, 6, none⟩)), .eq (.int .i64 c.qty), .eq (.int .i64 (mn (c.shw) (c.qty))), .eq (.int .i64 (mn (c.shw) (c.qty)))] rfl (by kernel_rfl) ?_ ?_
    · refine fsteps_cons 1 rfl (fun a u hE hD hk => f_val (o := ⟨some 6, _, _, _, _, _⟩) (.pointer (some ⟨g, 7, none⟩)) rfl (wanted_none rfl _) (exec_fldo 25 7 7 (.tmp 1) (g) (0) (7) rfl (hE 1 (.pointer (some ⟨g, 0, none⟩)) (by kernel_rfl) (by kernel_rfl)) (by kernel_rfl) rfl) rfl) ?_
      refine fsteps_cons 2 rfl (fun a u hE hD hk => f_val (o := ⟨some 7, _, _, _, _, _⟩) (.int .i64 c.shw) rfl (wanted_none rfl _) (exec_loadi 3 Try.underlying3 (.tmp 6) ⟨g, 7, none⟩ (.int .i64 c.shw) rfl (hD 0 6 (by kernel_rfl)) (range_int (range_kept HB2.out hk) 7 _ rfl)) rfl) ?_
      refine fsteps_cons 3 rfl (fun a u hE hD hk => f_val (o := ⟨some 8, _, _, _, _, _⟩) (.pointer (some ⟨g, 6, none⟩)) rfl (wanted_none rfl _) (exec_fldo 25 6 6 (.tmp 1) (g) (0) (6) rfl (hE 1 (.pointer (some ⟨g, 0, none⟩)) (by kernel_rfl) (by kernel_rfl)) (by kernel_rfl) rfl) rfl) ?_
      refine fsteps_cons 4 rfl (fun a u hE hD hk => f_val (o := ⟨some 9, _, _, _, _, _⟩) (.int .i64 c.qty) rfl (wanted_none rfl _) (exec_loadi 3 Try.underlying3 (.tmp 8) ⟨g, 6, none⟩ (.int .i64 c.qty) rfl (hD 2 8 (by kernel_rfl)) (range_int (range_kept HB2.out hk) 6 _ rfl)) rfl) ?_
      refine fsteps_cons 5 rfl (fun a u hE hD hk => f_val (o := ⟨some 10, _, _, _, _, _⟩) (.int .i64 (mn (c.shw) (c.qty))) rfl (wanted_none rfl _) (exec_min (.tmp 7) (.tmp 9) _ (c.shw) (c.qty) (mn (c.shw) (c.qty)) rfl (hD 1 7 (by kernel_rfl)) (hD 3 9 (by kernel_rfl)) rfl) rfl) ?_
      refine fsteps_cons 6 rfl (fun a u hE hD hk => f_val (o := ⟨some 2, _, _, _, _, _⟩) (.int .i64 (mn (c.shw) (c.qty))) rfl (wanted_none rfl _) (exec_assign (.tmp 10) (.int .i64 (mn (c.shw) (c.qty))) rfl (hD 4 10 (by kernel_rfl))) rfl) ?_
      exact fsteps_nil
    intro gv w3 hV k3
    rw [show dstsOf _ 6 = [6, 7, 8, 9, 10, 2] by kernel_rfl]
    simp only [List.foldl_cons, List.foldl_nil, List.setIfInBounds_toArray, List.set_cons_succ, List.set_cons_zero, List.drop_succ_cons, List.drop_zero]
    rw [show gv 2 = .int .i64 (mn (c.shw) (c.qty)) from hV 5 2 (by kernel_rfl)]
    clear hV
    refine wpList_nil ?_
    go_wp2
    go_ret
    exact ⟨by rw [HT.out]; rfl, (k1.trans k2).trans k3⟩
  · have HT : Hid (c.tip = c.qty) := by show _ = _; unfold Ord.tip; rw [if_neg hs]
    go_upto_region 1 with fail
    refine wp_text 3 [.eq (.pointer (some ⟨g, 7, none⟩)), .eq (.int .i64 c.shw), .eq (.bool false)] rfl (by kernel_rfl) ?_ ?_
    · refine fsteps_cons 1 rfl (fun a u hE hD hk => f_val (o := ⟨some 3, _, _, _, _, _⟩) (.pointer (some ⟨g, 7, none⟩)) rfl (wanted_none rfl _) (exec_fldo 25 7 7 (.tmp 1) (g) (0) (7) rfl (hE 1 (.pointer (some ⟨g, 0, none⟩)) (by kernel_rfl) (by kernel_rfl)) (by kernel_rfl) rfl) rfl) ?_
      refine fsteps_cons 2 rfl (fun a u hE hD hk => f_val (o := ⟨some 4, _, _, _, _, _⟩) (.int .i64 c.shw) rfl (wanted_none rfl _) (exec_loadi 3 Try.underlying3 (.tmp 3) ⟨g, 7, none⟩ (.int .i64 c.shw) rfl (hD 0 3 (by kernel_rfl)) (range_int (range_kept HB.out hk) 7 _ rfl)) rfl) ?_
      refine fsteps_cons 3 rfl (fun a u hE hD hk => f_as (show ((decide ((0 : Int) < (c.shw : Int))) : Bool) = false from decide_eq_false hs) (f_val (o := ⟨some 5, _, _, _, _, _⟩) (.bool (decide ((0 : Int) < (c.shw : Int)))) rfl (wanted_none rfl _) (exec_gtn (p := c.shw) (q := 0) rfl (hD 1 4 (by kernel_rfl)) rfl) rfl)) ?_
      exact fsteps_nil
    intro gv w2 hV k2
    rw [show dstsOf _ 3 = [3, 4, 5] by kernel_rfl]
    simp only [List.foldl_cons, List.foldl_nil, List.setIfInBounds_toArray, List.set_cons_succ, List.set_cons_zero, List.drop_succ_cons, List.drop_zero]
    rw [show gv 5 = .bool false from hV 2 5 (by kernel_rfl)]
    clear hV
    refine wpList_nil ?_
    have HB2 := Lib.hid (range_kept HB.out k2)
    clear HB hs
    go_upto_region 3 with fail
    refine wp_text 3 [.eq (.pointer (some ⟨g, 6, none⟩)), .eq (.int .i64 c.qty), .eq (.int .i64 c.qty)] rfl (by kernel_rfl) ?_ ?_
    · refine fsteps_cons 1 rfl (fun a u hE hD hk => f_val (o := ⟨some 11, _, _, _, _, _⟩) (.pointer (some ⟨g, 6, none⟩)) rfl (wanted_none rfl _) (exec_fldo 25 6 6 (.tmp 1) (g) (0) (6) rfl (hE 1 (.pointer (some ⟨g, 0, none⟩)) (by kernel_rfl) (by kernel_rfl)) (by kernel_rfl) rfl) rfl) ?_
      refine fsteps_cons 2 rfl (fun a u hE hD hk => f_val (o := ⟨some 12, _, _, _, _, _⟩) (.int .i64 c.qty) rfl (wanted_none rfl _) (exec_loadi 3 Try.underlying3 (.tmp 11) ⟨g, 6, none⟩ (.int .i64 c.qty) rfl (hD 0 11 (by kernel_rfl)) (range_int (range_kept HB2.out hk) 6 _ rfl)) rfl) ?_
      refine fsteps_cons 3 rfl (fun a u hE hD hk => f_val (o := ⟨some 2, _, _, _, _, _⟩) (.int .i64 c.qty) rfl (wanted_none rfl _) (exec_assign (.tmp 12) (.int .i64 c.qty) rfl (hD 1 12 (by kernel_rfl))) rfl) ?_
      exact fsteps_nil
    intro gv w3 hV k3
    rw [show dstsOf _ 3 = [11, 12, 2] by kernel_rfl]
    simp only [List.foldl_cons, List.foldl_nil, List.setIfInBounds_toArray, List.set_cons_succ, List.set_cons_zero, List.drop_succ_cons, List.drop_zero]
    rw [show gv 2 = .int .i64 c.qty from hV 2 2 (by kernel_rfl)]
    clear hV
    refine wpList_nil ?_
    go_wp2
    go_ret
    exact ⟨by rw [HT.out]; rfl, (k1.trans k2).trans k3⟩

set_option maxRecDepth 100000 in
set_option maxHeartbeats 800000 in
theorem tip_any (c : Ord) (w : World) : Gives 33 #[c.v] w (.eq (.int .i64 c.tip)) := by
  refine gives_eq ?_
  go_enter Try.func33, Try.ntmps33
  go_upto_region 0 with fail
  refine wp_text 2 [.fresh w.heap.size 25 (c.cells), .eq (.int .i64 0)] rfl (by kernel_rfl) ?_ ?_
  · refine fsteps_cons 1 rfl (fun a u hE hD hk => f_new (o := ⟨some 1, _, _, _, _, _⟩) (.pointer (some ⟨u.heap.size, 0, none⟩)) _ rfl (wanted_none rfl _) (exec_box 25 (.tmp 0) (c.cells) rfl (hE 0 (c.v) (by kernel_rfl) (by kernel_rfl))) ⟨_, rfl, hk.size, Blk.new u _ _⟩ ((Keep.refl _ u).alloc _)) ?_
    refine fsteps_cons 2 rfl (fun a u hE hD hk => f_val (o := ⟨some 2, _, _, _, _, _⟩) (.int .i64 0) rfl (wanted_none rfl _) (exec_assign (.const (.int .i64 0)) (.int .i64 0) rfl rfl) rfl) ?_
    exact fsteps_nil
  intro gv w1 hV k1
  rw [show dstsOf _ 2 = [1, 2] by kernel_rfl]
  simp only [List.foldl_cons, List.foldl_nil, List.setIfInBounds_toArray, List.set_cons_succ, List.set_cons_zero, List.drop_succ_cons, List.drop_zero]
  have hv1 : (.fresh w.heap.size 25 (c.cells) : Kn).p (gv 1) w1 := hV 0 1 (by kernel_rfl)
  generalize gv 1 = v1 at hv1 ⊢
  rw [show gv 2 = .int .i64 0 from hV 1 2 (by kernel_rfl)]
  clear hV
  obtain ⟨g, rfl, hg, hB⟩ := hv1
  refine wpList_nil ?_
  have HB := Lib.hid (blk_range hB)
  clear hB
  by_cases hs : 0 < c.shw
  · have HT : Hid (c.tip = mn c.shw c.qty) := by show _ = _; unfold Ord.tip; rw [if_pos hs]
    go_upto_region 1 with fail
    refine wp_text 3 [.eq (.pointer (some ⟨g, 7, none⟩)), .eq (.int .i64 c.shw), .eq (.bool true)] rfl (by kernel_rfl) ?_ ?_
    · refine fsteps_cons 1 rfl (fun a u hE hD hk => f_val (o := ⟨some 3, _, _, _, _, _⟩) (.pointer (some ⟨g, 7, none⟩)) rfl (wanted_none rfl _) (exec_fldo 25 7 7 (.tmp 1) (g) (0) (7) rfl (hE 1 (.pointer (some ⟨g, 0, none⟩)) (by kernel_rfl) (by kernel_rfl)) (by kernel_rfl) rfl) rfl) ?_
      refine fsteps_cons 2 rfl (fun a u hE hD hk => f_val (o := ⟨some 4, _, _, _, _, _⟩) (.int .i64 c.shw) rfl (wanted_none rfl _) (exec_loadi 3 Try.underlying3 (.tmp 3) ⟨g, 7, none⟩ (.int .i64 c.shw) rfl (hD 0 3 (by kernel_rfl)) (range_int (range_kept HB.out hk) 7 _ rfl)) rfl) ?_
      refine fsteps_cons 3 rfl (fun a u hE hD hk => f_as (show ((decide ((0 : Int) < (c.shw : Int))) : Bool) = true from decide_eq_true hs) (f_val (o := ⟨some 5, _, _, _, _, _⟩) (.bool (decide ((0 : Int) < (c.shw : Int)))) rfl (wanted_none rfl _) (exec_gtn (p := c.shw) (q := 0) rfl (hD 1 4 (by kernel_rfl)) rfl) rfl)) ?_
      exact fsteps_nil
    intro gv w2 hV k2
    rw [show dstsOf _ 3 = [3, 4, 5] by kernel_rfl]
    simp only [List.foldl_cons, List.foldl_nil, List.setIfInBounds_toArray, List.set_cons_succ, List.set_cons_zero, List.drop_succ_cons, List.drop_zero]
    rw [show gv 5 = .bool true from hV 2 5 (by kernel_rfl)]
    clear hV
    refine wpList_nil ?_
    have HB2 := Lib.hid (range_kept HB.out k2)
    clear HB hs
    go_upto_region 2 with fail
    refine wp_text 6 [.eq (.pointer (some ⟨g, 7, none⟩)), .eq (.int .i64 c.shw), .eq (.pointer (some ⟨g, 6, none⟩)), .eq (.int .i64 c.qty), .eq (.int .i64 (mn (c.shw) (c.qty))), .eq (.int .i64 (mn (c.shw) (c.qty)))] rfl (by kernel_rfl) ?_ ?_
    · refine fsteps_cons 1 rfl (fun a u hE hD hk => f_val (o := ⟨some 6, _, _, _, _, _⟩) (.pointer (some ⟨g, 7, none⟩)) rfl (wanted_none rfl _) (exec_fldo 25 7 7 (.tmp 1) (g) (0) (7) rfl (hE 1 (.pointer (some ⟨g, 0, none⟩)) (by kernel_rfl) (by kernel_rfl)) (by kernel_rfl) rfl) rfl) ?_
      refine fsteps_cons 2 rfl (fun a u hE hD hk => f_val (o := ⟨some 7, _, _, _, _, _⟩) (.int .i64 c.shw) rfl (wanted_none rfl _) (exec_loadi 3 Try.underlying3 (.tmp 6) ⟨g, 7, none⟩ (.int .i64 c.shw) rfl (hD 0 6 (by kernel_rfl)) (range_int (range_kept HB2.out hk) 7 _ rfl)) rfl) ?_
      refine fsteps_cons 3 rfl (fun a u hE hD hk => f_val (o := ⟨some 8, _, _, _, _, _⟩) (.pointer (some ⟨g, 6, none⟩)) rfl (wanted_none rfl _) (exec_fldo 25 6 6 (.tmp 1) (g) (0) (6) rfl (hE 1 (.pointer (some ⟨g, 0, none⟩)) (by kernel_rfl) (by kernel_rfl)) (by kernel_rfl) rfl) rfl) ?_
      refine fsteps_cons 4 rfl (fun a u hE hD hk => f_val (o := ⟨some 9, _, _, _, _, _⟩) (.int .i64 c.qty) rfl (wanted_none rfl _) (exec_loadi 3 Try.underlying3 (.tmp 8) ⟨g, 6, none⟩ (.int .i64 c.qty) rfl (hD 2 8 (by kernel_rfl)) (range_int (range_kept HB2.out hk) 6 _ rfl)) rfl) ?_
      refine fsteps_cons 5 rfl (fun a u hE hD hk => f_val (o := ⟨some 10, _, _, _, _, _⟩) (.int .i64 (mn (c.shw) (c.qty))) rfl (wanted_none rfl _) (exec_min (.tmp 7) (.tmp 9) _ (c.shw) (c.qty) (mn (c.shw) (c.qty)) rfl (hD 1 7 (by kernel_rfl)) (hD 3 9 (by kernel_rfl)) rfl) rfl) ?_
      refine fsteps_cons 6 rfl (fun a u hE hD hk => f_val (o := ⟨some 2, _, _, _, _, _⟩) (.int .i64 (mn (c.shw) (c.qty))) rfl (wanted_none rfl _) (exec_assign (.tmp 10) (.int .i64 (mn (c.shw) (c.qty))) rfl (hD 4 10 (by kernel_rfl))) rfl) ?_
      exact fsteps_nil
    intro gv w3 hV k3
    rw [show dstsOf _ 6 = [6, 7, 8, 9, 10, 2] by kernel_rfl]
    simp only [List.foldl_cons, List.foldl_nil, List.setIfInBounds_toArray, List.set_cons_succ, List.set_cons_zero, List.drop_succ_cons, List.drop_zero]
    rw [show gv 2 = .int .i64 (mn (c.shw) (c.qty)) from hV 5 2 (by kernel_rfl)]
    clear hV
    refine wpList_nil ?_
    go_wp2
    go_ret
    exact ⟨by rw [HT.out]; rfl, (k1.trans k2).trans k3⟩
  · have HT : Hid (c.tip = c.qty) := by show _ = _; unfold Ord.tip; rw [if_neg hs]
    go_upto_region 1 with fail
    refine wp_text 3 [.eq (.pointer (some ⟨g, 7, none⟩)), .eq (.int .i64 c.shw), .eq (.bool false)] rfl (by kernel_rfl) ?_ ?_
    · refine fsteps_cons 1 rfl (fun a u hE hD hk => f_val (o := ⟨some 3, _, _, _, _, _⟩) (.pointer (some ⟨g, 7, none⟩)) rfl (wanted_none rfl _) (exec_fldo 25 7 7 (.tmp 1) (g) (0) (7) rfl (hE 1 (.pointer (some ⟨g, 0, none⟩)) (by kernel_rfl) (by kernel_rfl)) (by kernel_rfl) rfl) rfl) ?_
      refine fsteps_cons 2 rfl (fun a u hE hD hk => f_val (o := ⟨some 4, _, _, _, _, _⟩) (.int .i64 c.shw) rfl (wanted_none rfl _) (exec_loadi 3 Try.underlying3 (.tmp 3) ⟨g, 7, none⟩ (.int .i64 c.shw) rfl (hD 0 3 (by kernel_rfl)) (range_int (range_kept HB.out hk) 7 _ rfl)) rfl) ?_
      refine fsteps_cons 3 rfl (fun a u hE hD hk => f_as (show ((decide ((0 : Int) < (c.shw : Int))) : Bool) = false from decide_eq_false hs) (f_val (o := ⟨some 5, _, _, _, _, _⟩) (.bool (decide ((0 : Int) < (c.shw : Int)))) rfl (wanted_none rfl _) (exec_gtn (p := c.shw) (q := 0) rfl (hD 1 4 (by kernel_rfl)) rfl) rfl)) ?_
      exact fsteps_nil
    intro gv w2 hV k2
    rw [show dstsOf _ 3 = [3, 4, 5] by kernel_rfl]
    simp only [List.foldl_cons, List.foldl_nil, List.setIfInBounds_toArray, List.set_cons_succ, List.set_cons_zero, List.drop_succ_cons, List.drop_zero]
    rw [show gv 5 = .bool false from hV 2 5 (by kernel_rfl)]
    clear hV
    refine wpList_nil ?_
    have HB2 := Lib.hid (range_kept HB.out k2)
    clear HB hs
    go_upto_region 3 with fail
    refine wp_text 3 [.eq (.pointer (some ⟨g, 6, none⟩)), .eq (.int .i64 c.qty), .eq (.int .i64 c.qty)] rfl (by kernel_rfl) ?_ ?_
    · refine fsteps_cons 1 rfl (fun a u hE hD hk => f_val (o := ⟨some 11, _, _, _, _, _⟩) (.pointer (some ⟨g, 6, none⟩)) rfl (wanted_none rfl _) (exec_fldo 25 6 6 (.tmp 1) (g) (0) (6) rfl (hE 1 (.pointer (some ⟨g, 0, none⟩)) (by kernel_rfl) (by kernel_rfl)) (by kernel_rfl) rfl) rfl) ?_
      refine fsteps_cons 2 rfl (fun a u hE hD hk => f_val (o := ⟨some 12, _, _, _, _, _⟩) (.int .i64 c.qty) rfl (wanted_none rfl _) (exec_loadi 3 Try.underlying3 (.tmp 11) ⟨g, 6, none⟩ (.int .i64 c.qty) rfl (hD 0 11 (by kernel_rfl)) (range_int (range_kept HB2.out hk) 6 _ rfl)) rfl) ?_
      refine fsteps_cons 3 rfl (fun a u hE hD hk => f_val (o := ⟨some 2, _, _, _, _, _⟩) (.int .i64 c.qty) rfl (wanted_none rfl _) (exec_assign (.tmp 12) (.int .i64 c.qty) rfl (hD 1 12 (by kernel_rfl))) rfl) ?_
      exact fsteps_nil
    intro gv w3 hV k3
    rw [show dstsOf _ 3 = [11, 12, 2] by kernel_rfl]
    simp only [List.foldl_cons, List.foldl_nil, List.setIfInBounds_toArray, List.set_cons_succ, List.set_cons_zero, List.drop_succ_cons, List.drop_zero]
    rw [show gv 2 = .int .i64 c.qty from hV 2 2 (by kernel_rfl)]
    clear hV
    refine wpList_nil ?_
    go_wp2
    go_ret
    exact ⟨by rw [HT.out]; rfl, (k1.trans k2).trans k3⟩

/-- New(7) -/
theorem new_any (w : World) : Calls Try.prog 9 #[.int .i64 7] w fun e w' => ∃ p F, e = .returned (.pointer (some ⟨p, 0, none⟩)) ∧ Lvl 58 61 w' F p [] ∧ Grow w (fun _ => False) F ∧ Kept w w' := by
  go_enter Try.func9, Try.ntmps9
  go_upto_region 1 with fail
  refine wp_text 3 [.eq (.int .i64 7), .eq (.agg lv0.toArray), .fresh w.heap.size 58 lv0] rfl (by kernel_rfl) ?_ ?_
  · refine fsteps_cons 1 rfl (fun a u hE hD hk => f_val (o := ⟨some 3, _, _, _, _, _⟩) (.int .i64 7) rfl (wanted_none rfl _) (exec_move (.tmp 0) (.int .i64 7) rfl (hE 0 (.int .i64 7) (by kernel_rfl) (by kernel_rfl))) rfl) ?_
    refine fsteps_cons 2 rfl (fun a u hE hD hk => f_val (o := ⟨some 4, _, _, _, _, _⟩) (.agg lv0.toArray) rfl (wanted_none rfl _) (exec_blvl (.tmp 3) rfl (hD 0 3 (by kernel_rfl))) rfl) ?_
    refine fsteps_cons 3 rfl (fun a u hE hD hk => f_new (o := ⟨some 5, _, _, _, _, _⟩) (.pointer (some ⟨u.heap.size, 0, none⟩)) _ rfl (wanted_none rfl _) (exec_box 58 (.tmp 4) lv0 rfl (hD 1 4 (by kernel_rfl))) ⟨_, rfl, hk.size, Blk.new u _ _⟩ ((Keep.refl _ u).alloc _)) ?_
    exact fsteps_nil
  intro gv w1 hV k1
  rw [show dstsOf _ 3 = [3, 4, 5] by kernel_rfl]
  simp only [List.foldl_cons, List.foldl_nil, List.setIfInBounds_toArray, List.set_cons_succ, List.set_cons_zero, List.drop_succ_cons, List.drop_zero]
  have hv5 : (.fresh w.heap.size 58 lv0 : Kn).p (gv 5) w1 := hV 2 5 (by kernel_rfl)
  generalize gv 5 = v5 at hv5 ⊢
  clear hV
  obtain ⟨g, rfl, hg, hB⟩ := hv5
  refine l_val (o := ⟨some 2, _, _, _, _, _⟩) (.pointer (some ⟨g, 0, none⟩)) rfl (exec_assign (.tmp 5) (.pointer (some ⟨g, 0, none⟩)) rfl (by kernel_rfl)) ?_
  simp only [Act.put, List.setIfInBounds_toArray, List.set_cons_succ, List.set_cons_zero]
  refine wpList_nil ?_
  go_wp2
  go_ret
  refine ⟨g, (· = g), rfl, ⟨rfl, fun b hb => by subst hb; exact hB.lt, _, hB, Sl.nil _ _ _, fun b hb => by simp [Value.ownBlock] at hb⟩, fun b hb => .inr (by omega), k1⟩

theorem price_any (w : World) (F : Nat → Prop) (p : Nat) (X : List Ent) (h : Lvl 58 61 w F p X) : Gives 23 #[.pointer (some ⟨p, 0, none⟩)] w (.eq (.int .i64 7)) := by
  refine gives_eq ?_
  obtain ⟨h1, h2, v, hB, hS, h5⟩ := h
  have HB := Lib.hid hB
  have HS := Lib.hid hS
  clear hB hS h5
  go_enter Try.func23, Try.ntmps23
  go_upto_region 1 with fail
  refine wp_text 5 [.eq (.pointer (some ⟨p, 0, none⟩)), .eq (.pointer (some ⟨p, 0, none⟩)), .eq (.pointer (some ⟨p, 0, none⟩)), .eq (.int .i64 7), .eq (.int .i64 7)] rfl (by kernel_rfl) ?_ ?_
  · refine fsteps_cons 1 rfl (fun a u hE hD hk => f_val (o := ⟨some 3, _, _, _, _, _⟩) (.pointer (some ⟨p, 0, none⟩)) rfl (wanted_none rfl _) (exec_move (.tmp 0) (.pointer (some ⟨p, 0, none⟩)) rfl (hE 0 (.pointer (some ⟨p, 0, none⟩)) (by kernel_rfl) (by kernel_rfl))) rfl) ?_
    refine fsteps_cons 2 rfl (fun a u hE hD hk => f_val (o := ⟨some 4, _, _, _, _, _⟩) (.pointer (some ⟨p, 0, none⟩)) rfl (wanted_none rfl _) (exec_nilp (.tmp 3) ⟨p, 0, none⟩ rfl (hD 0 3 (by kernel_rfl))) rfl) ?_
    refine fsteps_cons 3 rfl (fun a u hE hD hk => f_val (o := ⟨some 5, _, _, _, _, _⟩) (.pointer (some ⟨p, 0, none⟩)) rfl (wanted_none rfl _) (exec_fldo 58 0 0 (.tmp 4) (p) (0) (0) rfl (hD 1 4 (by kernel_rfl)) (by kernel_rfl) rfl) rfl) ?_
    refine fsteps_cons 4 rfl (fun a u hE hD hk => f_val (o := ⟨some 6, _, _, _, _, _⟩) (.int .i64 7) rfl (wanted_none rfl _) (exec_loadi 3 Try.underlying3 (.tmp 5) ⟨p, 0, none⟩ (.int .i64 7) rfl (hD 2 5 (by kernel_rfl)) (by rw [(HB.out.kept hk).cell]; rfl)) rfl) ?_
    refine fsteps_cons 5 rfl (fun a u hE hD hk => f_val (o := ⟨some 2, _, _, _, _, _⟩) (.int .i64 7) rfl (wanted_none rfl _) (exec_assign (.tmp 6) (.int .i64 7) rfl (hD 3 6 (by kernel_rfl))) rfl) ?_
    exact fsteps_nil
  intro gv w1 hV k1
  rw [show dstsOf _ 5 = [3, 4, 5, 6, 2] by kernel_rfl]
  simp only [List.foldl_cons, List.foldl_nil, List.setIfInBounds_toArray, List.set_cons_succ, List.set_cons_zero, List.drop_succ_cons, List.drop_zero]
  rw [show gv 2 = .int .i64 7 from hV 4 2 (by kernel_rfl)]
  clear hV
  refine wpList_nil ?_
  go_wp2
  go_ret
  exact ⟨rfl, k1⟩

theorem len_any (w : World) (F : Nat → Prop) (p : Nat) (X : List Ent) (h : Lvl 58 61 w F p X) : Gives 27 #[.pointer (some ⟨p, 0, none⟩)] w (.eq (.int .i64 (X.length : Int))) := by
  refine gives_eq ?_
  obtain ⟨h1, h2, v, hB, hS, h5⟩ := h
  have HB := Lib.hid hB
  have HS := Lib.hid hS
  clear hB hS h5
  go_enter Try.func27, Try.ntmps27
  go_upto_region 1 with fail
  refine wp_text 6 [.eq (.pointer (some ⟨p, 0, none⟩)), .eq (.pointer (some ⟨p, 0, none⟩)), .eq (.pointer (some ⟨p, 1, none⟩)), .eq (v), .eq (.int .i64 (X.length : Int)), .eq (.int .i64 (X.length : Int))] rfl (by kernel_rfl) ?_ ?_
  · refine fsteps_cons 1 rfl (fun a u hE hD hk => f_val (o := ⟨some 3, _, _, _, _, _⟩) (.pointer (some ⟨p, 0, none⟩)) rfl (wanted_none rfl _) (exec_move (.tmp 0) (.pointer (some ⟨p, 0, none⟩)) rfl (hE 0 (.pointer (some ⟨p, 0, none⟩)) (by kernel_rfl) (by kernel_rfl))) rfl) ?_
    refine fsteps_cons 2 rfl (fun a u hE hD hk => f_val (o := ⟨some 4, _, _, _, _, _⟩) (.pointer (some ⟨p, 0, none⟩)) rfl (wanted_none rfl _) (exec_nilp (.tmp 3) ⟨p, 0, none⟩ rfl (hD 0 3 (by kernel_rfl))) rfl) ?_
    refine fsteps_cons 3 rfl (fun a u hE hD hk => f_val (o := ⟨some 5, _, _, _, _, _⟩) (.pointer (some ⟨p, 1, none⟩)) rfl (wanted_none rfl _) (exec_fldo 58 1 1 (.tmp 4) (p) (0) (1) rfl (hD 1 4 (by kernel_rfl)) (by kernel_rfl) rfl) rfl) ?_
    refine fsteps_cons 4 rfl (fun a u hE hD hk => f_val (o := ⟨some 6, _, _, _, _, _⟩) (v) rfl (wanted_none rfl _) (exec_ldv 56 _ Try.underlying56 (.tmp 5) ⟨p, 1, none⟩ (v) rfl (hD 2 5 (by kernel_rfl)) (by rw [(HB.out.kept hk).cell]; rfl)) rfl) ?_
    refine fsteps_cons 5 rfl (fun a u hE hD hk => f_val (o := ⟨some 7, _, _, _, _, _⟩) (.int .i64 (X.length : Int)) rfl (wanted_none rfl _) (exec_lenS (.tmp 6) slE (v) (X.length) _ _ rfl (hD 3 6 (by kernel_rfl)) HS.out) rfl) ?_
    refine fsteps_cons 6 rfl (fun a u hE hD hk => f_val (o := ⟨some 2, _, _, _, _, _⟩) (.int .i64 (X.length : Int)) rfl (wanted_none rfl _) (exec_assign (.tmp 7) (.int .i64 (X.length : Int)) rfl (hD 4 7 (by kernel_rfl))) rfl) ?_
    exact fsteps_nil
  intro gv w1 hV k1
  rw [show dstsOf _ 6 = [3, 4, 5, 6, 7, 2] by kernel_rfl]
  simp only [List.foldl_cons, List.foldl_nil, List.setIfInBounds_toArray, List.set_cons_succ, List.set_cons_zero, List.drop_succ_cons, List.drop_zero]
  rw [show gv 2 = .int .i64 (X.length : Int) from hV 5 2 (by kernel_rfl)]
  clear hV
  refine wpList_nil ?_
  go_wp2
  go_ret
  exact ⟨rfl, k1⟩

/-- Add -/
theorem add_any (w : World) (F : Nat → Prop) (p : Nat) (X : List Ent) (c : Ord) (h : Lvl 58 61 w F p X) (hn : X.length ≤ 100000) :
    Calls Try.prog 10 #[.pointer (some ⟨p, 0, none⟩), c.v] w fun e w' => ∃ F', e = .returned (.tuple #[]) ∧ Lvl 58 61 w' F' p (X ++ [Ent.of c]) ∧ Grow w F F' ∧ Keep F w w' := by
  obtain ⟨h1, h2, v, hB, hS, h5⟩ := h
  have HB := Lib.hid hB
  have HS := Lib.hid hS
  have H1 := Lib.hid h1
  have H2 := Lib.hid h2
  have H5 := Lib.hid h5
  clear hB hS h5 h1 h2
  go_enter Try.func10, Try.ntmps10
  go_upto_region 0 with fail
  refine wp_text 1 [.fresh w.heap.size 25 (c.cells)] rfl (by kernel_rfl) ?_ ?_
  · refine fsteps_cons 1 rfl (fun a u hE hD hk => f_new (o := ⟨some 3, _, _, _, _, _⟩) (.pointer (some ⟨u.heap.size, 0, none⟩)) _ rfl (wanted_none rfl _) (exec_box 25 (.tmp 1) (c.cells) rfl (hE 1 (c.v) (by kernel_rfl) (by kernel_rfl))) ⟨_, rfl, hk.size, Blk.new u _ _⟩ ((Keep.refl _ u).alloc _)) ?_
    exact fsteps_nil
  intro gv w0 hV k0
  rw [show dstsOf _ 1 = [3] by kernel_rfl]
  simp only [List.foldl_cons, List.foldl_nil, List.setIfInBounds_toArray, List.set_cons_succ, List.set_cons_zero, List.drop_succ_cons, List.drop_zero]
  have hv3 : (.fresh w.heap.size 25 (c.cells) : Kn).p (gv 3) w0 := hV 0 3 (by kernel_rfl)
  generalize gv 3 = v3 at hv3 ⊢
  clear hV
  obtain ⟨g, rfl, hg, hG⟩ := hv3
  refine wpList_nil ?_
  have HG := Lib.hid (blk_range hG)
  have HB0 := Lib.hid (HB.out.kept k0)
  have HS0 := Lib.hid (HS.out.kept k0)
  clear hG
  go_upto_region 1 with fail
  refine wp_freeT 10 [.eq (.pointer (some ⟨p, 0, none⟩)), .eq (.pointer (some ⟨p, 0, none⟩)), .eq (.pointer (some ⟨p, 0, none⟩)), .eq (.pointer (some ⟨p, 1, none⟩)), .eq (v), .eq (c.v), .eq (c.v), .eq (.int .i64 c.tip), .eq ((Ent.mk c (c.tip)).v), .sl w0.heap.size 61 10 1 (Ent.mk c (c.tip)).cells] (.pointer (some ⟨p, 0, none⟩)) ((fun v' u u' => Sl u' 61 10 v' (X.length + 1) (ents X ++ (Ent.mk c (c.tip)).cells) ∧ Keep (fun b => v.ownBlock = some b) u u' ∧ ∀ b, v'.ownBlock = some b → v.ownBlock = some b ∨ w0.heap.size ≤ b)) (by kernel_rfl) rfl rfl (by kernel_rfl) (by kernel_rfl) (t_zero (d := 4) _ rfl rfl rfl (by kernel_rfl) (by kernel_rfl)) ?_ (fun a u hE hD hk =>  (by obtain ⟨v', u', hr, hs', hk', ho'⟩ := run_append_sl slE _ u v (a.eval (.tmp 13)) X.length 1 (ents X) (Ent.mk c (c.tip)).cells (HS0.out.kept hk) ((hD 9 13 (by kernel_rfl))).1 (Ent.one _) (by unfold maxLen; omega) (by omega); exact t_last (o := ⟨some 14, _, _, _, _, _⟩) (R := (fun v' u u' => Sl u' 61 10 v' (X.length + 1) (ents X ++ (Ent.mk c (c.tip)).cells) ∧ Keep (fun b => v.ownBlock = some b) u u' ∧ ∀ b, v'.ownBlock = some b → v.ownBlock = some b ∨ w0.heap.size ≤ b)) (m := 10) (v := v') (w' := u') rfl (wanted_none rfl _) (exec_appS slE (.tmp 8) (.tmp 13) v _ rfl (hD 4 8 (by kernel_rfl)) rfl v' u' hr) ⟨hs', hk', fun b hb => (ho' b hb).imp id (fun h => Nat.le_trans hk.size h)⟩)) ?_
  · refine fsteps_cons 2 rfl (fun a u hE hD hk => f_val (o := ⟨some 5, _, _, _, _, _⟩) (.pointer (some ⟨p, 0, none⟩)) rfl (wanted_none rfl _) (exec_move (.tmp 0) (.pointer (some ⟨p, 0, none⟩)) rfl (hE 0 (.pointer (some ⟨p, 0, none⟩)) (by kernel_rfl) (by kernel_rfl))) rfl) ?_
    refine fsteps_cons 3 rfl (fun a u hE hD hk => f_val (o := ⟨some 6, _, _, _, _, _⟩) (.pointer (some ⟨p, 0, none⟩)) rfl (wanted_none rfl _) (exec_nilp (.tmp 5) ⟨p, 0, none⟩ rfl (hD 1 5 (by kernel_rfl))) rfl) ?_
    refine fsteps_cons 4 rfl (fun a u hE hD hk => f_val (o := ⟨some 7, _, _, _, _, _⟩) (.pointer (some ⟨p, 1, none⟩)) rfl (wanted_none rfl _) (exec_fldo 58 1 1 (.tmp 6) (p) (0) (1) rfl (hD 2 6 (by kernel_rfl)) (by kernel_rfl) rfl) rfl) ?_
    refine fsteps_cons 5 rfl (fun a u hE hD hk => f_val (o := ⟨some 8, _, _, _, _, _⟩) (v) rfl (wanted_none rfl _) (exec_ldv 56 _ Try.underlying56 (.tmp 7) ⟨p, 1, none⟩ (v) rfl (hD 3 7 (by kernel_rfl)) (by rw [(HB0.out.kept hk).cell]; rfl)) rfl) ?_
    refine fsteps_cons 6 rfl (fun a u hE hD hk => f_val (o := ⟨some 9, _, _, _, _, _⟩) (c.v) rfl (wanted_none rfl _) (exec_ldS 25 _ (.tmp 3) (g) (0) (c.cells) rfl (hE 3 (.pointer (some ⟨g, 0, none⟩)) (by kernel_rfl) (by kernel_rfl)) (range_kept HG.out hk) Try.underlying25 (by rw [c.len9]; exact ord_size)) rfl) ?_
    refine fsteps_cons 7 rfl (fun a u hE hD hk => f_val (o := ⟨some 10, _, _, _, _, _⟩) (c.v) rfl (wanted_none rfl _) (exec_ldS 25 _ (.tmp 3) (g) (0) (c.cells) rfl (hE 3 (.pointer (some ⟨g, 0, none⟩)) (by kernel_rfl) (by kernel_rfl)) (range_kept HG.out hk) Try.underlying25 (by rw [c.len9]; exact ord_size)) rfl) ?_
    refine fsteps_cons 8 rfl (fun a u hE hD hk => f_call (o := ⟨some 11, _, _, _, _, _⟩) 31 #[c.v] rfl (wanted_none rfl _) (exec_call 31 _ [.tmp 10] _ [c.v] Try.func31 (by kernel_rfl) (by kernel_rfl) rfl (show [a.eval (.tmp 10)] = [c.v] from (by rw [show a.eval (.tmp 10) = c.v from (hD 6 10 (by kernel_rfl))] <;> rfl)) u) (shown_any c u)) ?_
    refine fsteps_cons 9 rfl (fun a u hE hD hk => f_val (o := ⟨some 12, _, _, _, _, _⟩) ((Ent.mk c (c.tip)).v) rfl (wanted_none rfl _) (exec_bent 61 builtE (.tmp 9) (.tmp 11) (c) (c.tip) rfl (hD 5 9 (by kernel_rfl)) (hD 7 11 (by kernel_rfl))) rfl) ?_
    refine fsteps_cons 10 rfl (fun a u hE hD hk => f_new (o := ⟨some 13, _, _, _, _, _⟩) (.slice (some ⟨u.heap.size, 0, none⟩) 1 1) _ rfl (wanted_none rfl _) (exec_oneS slE (.tmp 12) (Ent.mk c (c.tip)).cells (by omega) rfl (hD 8 12 (by kernel_rfl)) ((Ent.mk c (c.tip)).len10)) (sl_one u 61 10 _ w0.heap.size ((Ent.mk c (c.tip)).len10) (by omega) hk.size) ((Keep.refl _ u).alloc _)) ?_
    exact fsteps_nil
  intro gv w1 w2 hV h0 hR hk1
  rw [show dstsOf _ 11 = [4, 5, 6, 7, 8, 9, 10, 11, 12, 13, 14] by kernel_rfl]
  simp only [List.foldl_cons, List.foldl_nil, List.setIfInBounds_toArray, List.set_cons_succ, List.set_cons_zero, List.drop_succ_cons, List.drop_zero]
  have hT := hR 14 (by kernel_rfl)
  generalize gv 14 = v14 at hT ⊢
  rw [show gv 4 = .pointer (some ⟨p, 0, none⟩) from h0 4 (by kernel_rfl)]
  clear hV h0 hR
  obtain ⟨hs2, hk2, ho2⟩ := hT
  have hB2 := (HB0.out.kept hk1).keep hk2 (fun hb => (H5.out p hb).2 rfl)
  have hsz := hk2.size
  have hsz1 := hk1.size
  have hsz0 := k0.size
  refine l_val (o := ⟨some 15, _, _, _, _, _⟩) (.pointer (some ⟨p, 0, none⟩)) rfl (exec_nilp (.tmp 4) ⟨p, 0, none⟩ rfl (by kernel_rfl)) ?_
  simp only [Act.put, List.setIfInBounds_toArray, List.set_cons_succ, List.set_cons_zero]
  refine l_val (o := ⟨some 16, _, _, _, _, _⟩) (.pointer (some ⟨p, 1, none⟩)) rfl (exec_fldo 58 1 1 (.tmp 15) (p) (0) (1) rfl (by kernel_rfl) (by kernel_rfl) rfl) ?_
  simp only [Act.put, List.setIfInBounds_toArray, List.set_cons_succ, List.set_cons_zero]
  refine l_st1 (o := ⟨none, _, _, _, _, _⟩) 56 p 1 58 _ v14 (.tmp 16) (.tmp 14) rfl rfl (by kernel_rfl) (by kernel_rfl) (by kernel_rfl) (sl_cells hs2) (sl_onec hs2) hB2 (by simp) ?_
  intro w3 hB3 hk3 hs3
  simp only [Act.put]
  refine wpList_nil ?_
  go_wp2
  go_end0
  have hkF : Keep F w w2 := ((Keep.mono (T := F) (k0.trans hk1) (fun _ _ h => h.elim))).trans hk2 (fun b _ hb => (H5.out b hb).1)
  refine ⟨fun b => F b ∨ v14.ownBlock = some b, rfl, ⟨.inl H1.out, fun b hb => ?_, v14, by simpa using hB3, ?_, fun b hb => ⟨.inr hb, fun e => ?_⟩⟩, fun b hb => ?_, hkF.trans hk3 (fun b _ hb => by subst hb; exact H1.out)⟩
  · rcases hb with hb | hb
    · have := H2.out b hb; omega
    · have := hs2.lt hb; omega
  · rw [List.length_append, ents_snoc]
    refine hs2.keep hk3 (fun b hb e => ?_)
    subst e
    rcases ho2 b hb with h | h
    · exact (H5.out b h).2 rfl
    · have := HB0.out.lt; omega
  · subst e
    rcases ho2 b hb with h | h
    · exact (H5.out b h).2 rfl
    · have := HB0.out.lt; omega
  · rcases hb with hb | hb
    · exact .inl hb
    · rcases ho2 b hb with h | h
      · exact .inl (H5.out b h).1
      · exact .inr (by omega)
end Go.Proofs.Ytlbkehpdohihlaa
