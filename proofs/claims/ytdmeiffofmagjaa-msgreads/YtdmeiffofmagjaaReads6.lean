/-
  The contract of jobberlaw6.MsgReads: any bytes: what Get answers is the document's own; they stay; it answers true. No condition.
-/
import Derived.Test.YtdmeiffofmagjaaRuns6
import Derived.Test.YtdmeiffofmagjaaRefGet
import Derived.Test.YtdmeiffofmagjaaRoomy
namespace Go.Proofs.Ytdmeiffofmagjaa
open Go.RowKit
set_option linter.unusedVariables false

theorem min_120 (n : Nat) : ∃ m : Nat, (if (120 : Int) < (n : Int) then (120 : Int) else (n : Int)) = (m : Int) ∧ m ≤ n ∧ m ≤ 120 := by
  by_cases h : 120 < n
  · exact ⟨120, by rw [if_pos (by omega)]; rfl, by omega, by omega⟩
  · exact ⟨n, by rw [if_neg (by omega)], by omega, by omega⟩

set_option maxRecDepth 100000 in
set_option maxHeartbeats 3200000 in
theorem msgReads_any (v : Value) (b : List UInt8) (w : World) (hv : Bytes w v b) : Calls Try.prog 5 #[v] w fun e w' => e = .returned (.bool true) ∧ Kept w w' := by
  obtain ⟨A, n, c, rfl, hn, hx, hnc, hcm, hAn⟩ := hv
  obtain ⟨m, hmin, hmn, hm⟩ := min_120 n
  have HM := Lib.hid hmin
  obtain ⟨xs, hxs⟩ : ∃ xs, xs = b.take m := ⟨_, rfl⟩
  have hl : Hid (xs.length = m) := by show _ = _; rw [hxs, List.length_take, hn.out]; omega
  have HX : Hid (R8 w A xs) := by rw [hxs]; exact hx.take2 m
  have HN := Lib.hid hAn
  have HL : Hid (xs.length ≤ 1000) := by show _ ≤ _; rw [hl.out]; omega
  obtain ⟨g5, hg5⟩ : ∃ g5 : Cmd × Bool, g5 = getB xs := ⟨_, rfl⟩
  have HG := Lib.hid hg5
  have HTg : Hid (g5.1.tag.length = 32) := by rw [hg5]; exact getB_tag xs
  clear hx hxs hmin hn hAn hg5
  go_enter Try.func5, Try.ntmps5
  go_upto_region 1 with fail
  refine wp_region_lit ?_
  refine l_val (o := ⟨some 8, _, _, _, _, _⟩) (.slice A n c) rfl (exec_move (.tmp 0) (.slice A n c) rfl (by kernel_rfl)) ?_
  simp only [Act.put, List.setIfInBounds_toArray, List.set_cons_succ, List.set_cons_zero]
  refine l_val (o := ⟨some 9, _, _, _, _, _⟩) (.slice A n c) rfl (exec_move (.tmp 0) (.slice A n c) rfl (by kernel_rfl)) ?_
  simp only [Act.put, List.setIfInBounds_toArray, List.set_cons_succ, List.set_cons_zero]
  refine l_val (o := ⟨some 10, _, _, _, _, _⟩) (.int .i64 (n : Int)) rfl (exec_len (.tmp 9) _ _ Try.underlying23 A n c rfl (by kernel_rfl)) ?_
  simp only [Act.put, List.setIfInBounds_toArray, List.set_cons_succ, List.set_cons_zero]
  refine l_val (o := ⟨some 11, _, _, _, _, _⟩) (.int .i64 (m : Int)) rfl (exec_min (.tmp 10) (.const (.int .i64 120)) _ (n : Int) 120 (m : Int) rfl (by kernel_rfl) (by kernel_rfl) HM.out) ?_
  simp only [Act.put, List.setIfInBounds_toArray, List.set_cons_succ, List.set_cons_zero]
  refine l_val (o := ⟨some 12, _, _, _, _, _⟩) (.slice A m c) rfl (exec_upto 23 5 1 (.tmp 8) (.tmp 11) A n c m rfl Try.underlying23 info8s (by kernel_rfl) (by kernel_rfl) (by omega)) ?_
  simp only [Act.put, List.setIfInBounds_toArray, List.set_cons_succ, List.set_cons_zero]
  refine l_val (o := ⟨some 0, _, _, _, _, _⟩) (.slice A m c) rfl (exec_assign (.tmp 12) (.slice A m c) rfl (by kernel_rfl)) ?_
  simp only [Act.put, List.setIfInBounds_toArray, List.set_cons_zero]
  refine wpList_nil ?_
  go_upto_region 2 with fail
  obtain ⟨N, hN⟩ : ∃ N, N = m + 80 := ⟨_, rfl⟩
  have HNN := Lib.hid hN
  have hN1 : m ≤ N := by omega
  have hN2 : N ≤ 1000 := by omega
  clear hN
  refine wp_region_lit ?_
  refine l_val (o := ⟨some 13, _, _, _, _, _⟩) (.slice A m c) rfl (exec_move (.tmp 0) (.slice A m c) rfl (by kernel_rfl)) ?_
  simp only [Act.put, List.setIfInBounds_toArray, List.set_cons_succ, List.set_cons_zero]
  refine l_call (o := ⟨some 14, _, _, _, _, _⟩) 17 #[.slice A m c, .int .u8 7] rfl (exec_call 17 _ [.tmp 13, .const (.int .u8 7)] _ _ Try.func17 (by kernel_rfl) (by kernel_rfl) rfl (by kernel_rfl) _) ?_
  refine (roomy_N A m N c xs 7 7 w rfl HX.out (by omega) hl HNN.out).mono ?_
  rintro e w1 ⟨g1, rfl, hg1, R1, k1⟩
  have F1 : Hid (Bytes w1 (.slice (some ⟨g1, 0, none⟩) m N) xs) := ⟨_, m, N, rfl, hl, R8.pad2 R1, by omega, by unfold maxLen; omega, fun h => by cases h⟩
  have HR1 := Lib.hid R1
  refine ⟨_, rfl, ?_⟩
  clear R1 hg1
  simp only [Act.put, List.setIfInBounds_toArray, List.set_cons_succ, List.set_cons_zero]
  refine l_val (o := ⟨some 3, _, _, _, _, _⟩) (.slice (some ⟨g1, 0, none⟩) N N) rfl (exec_assign (.tmp 14) (.slice (some ⟨g1, 0, none⟩) N N) rfl (by kernel_rfl)) ?_
  simp only [Act.put, List.setIfInBounds_toArray, List.set_cons_succ, List.set_cons_zero]
  refine wpList_nil ?_
  go_upto_region 3 with fail
  refine wp_region_lit ?_
  refine l_val (o := ⟨some 16, _, _, _, _, _⟩) (.slice (some ⟨g1, 0, none⟩) N N) rfl (exec_move (.tmp 3) (.slice (some ⟨g1, 0, none⟩) N N) rfl (by kernel_rfl)) ?_
  simp only [Act.put, List.setIfInBounds_toArray, List.set_cons_succ, List.set_cons_zero]
  refine l_val (o := ⟨some 17, _, _, _, _, _⟩) (.slice A m c) rfl (exec_move (.tmp 0) (.slice A m c) rfl (by kernel_rfl)) ?_
  simp only [Act.put, List.setIfInBounds_toArray, List.set_cons_succ, List.set_cons_zero]
  refine l_val (o := ⟨some 18, _, _, _, _, _⟩) (.int .i64 (m : Int)) rfl (exec_len (.tmp 17) _ _ Try.underlying23 A m c rfl (by kernel_rfl)) ?_
  simp only [Act.put, List.setIfInBounds_toArray, List.set_cons_succ, List.set_cons_zero]
  refine l_val (o := ⟨some 19, _, _, _, _, _⟩) (.slice (some ⟨g1, 0, none⟩) m N) rfl (exec_upto 23 5 1 (.tmp 16) (.tmp 18) (some ⟨g1, 0, none⟩) N N m rfl Try.underlying23 info8s (by kernel_rfl) (by kernel_rfl) (by omega)) ?_
  simp only [Act.put, List.setIfInBounds_toArray, List.set_cons_succ, List.set_cons_zero]
  refine l_call (o := ⟨some 20, _, _, _, _, _⟩) 18 #[.slice (some ⟨g1, 0, none⟩) m N] rfl (exec_call 18 _ [.tmp 19] _ _ Try.func18 (by kernel_rfl) (by kernel_rfl) rfl (by kernel_rfl) _) ?_
  refine (get_any _ xs w1 F1.out HL.out).mono ?_
  rintro e w2 ⟨rfl, k2⟩
  rw [← HG.out]
  refine ⟨_, rfl, ?_⟩
  simp only [Act.put, List.setIfInBounds_toArray, List.set_cons_succ, List.set_cons_zero]
  refine l_val (o := ⟨some 15, _, _, _, _, _⟩) (.tuple #[g5.1.v, .bool g5.2]) rfl (exec_move (.tmp 20) (.tuple #[g5.1.v, .bool g5.2]) rfl (by kernel_rfl)) ?_
  simp only [Act.put, List.setIfInBounds_toArray, List.set_cons_succ, List.set_cons_zero]
  refine l_val (o := ⟨some 21, _, _, _, _, _⟩) (g5.1.v) rfl (exec_extract (.tmp 15) [g5.1.v, .bool g5.2] 0 g5.1.v rfl (by kernel_rfl) rfl) ?_
  simp only [Act.put, List.setIfInBounds_toArray, List.set_cons_succ, List.set_cons_zero]
  refine l_val (o := ⟨some 22, _, _, _, _, _⟩) (.bool g5.2) rfl (exec_extract (.tmp 15) [g5.1.v, .bool g5.2] 1 (.bool g5.2) rfl (by kernel_rfl) rfl) ?_
  simp only [Act.put, List.setIfInBounds_toArray, List.set_cons_succ, List.set_cons_zero]
  refine l_alloc (o := ⟨some 4, _, _, _, _, _⟩) 28 (Cmd.z 0).cells rfl rfl cmd_zero ?_
  intro w3 b3 z3 k3
  obtain ⟨ga, hga⟩ : ∃ ga, ga = w2.heap.size := ⟨_, rfl⟩
  rw [← hga] at b3 ⊢
  simp only [Act.put, List.setIfInBounds_toArray, List.set_cons_succ, List.set_cons_zero]
  refine l_setS (o := ⟨none, _, _, _, _, _⟩) 28 ga 28 (Cmd.z 0).cells g5.1.cells (.tmp 4) (.tmp 21) rfl rfl (by kernel_rfl) (by kernel_rfl) b3 (by rw [Cmd.cells_len _ HTg.out]; exact cmd_size) (by rw [Cmd.cells_len _ HTg.out]; rfl) (stc_one _ _) ?_
  intro w4 b4 k4 z4
  simp only [Act.put]
  refine l_val (o := ⟨some 5, _, _, _, _, _⟩) (.bool g5.2) rfl (exec_assign (.tmp 22) (.bool g5.2) rfl (by kernel_rfl)) ?_
  simp only [Act.put, List.setIfInBounds_toArray, List.set_cons_succ, List.set_cons_zero]
  refine wpList_nil ?_
  have k14 : Kept w1 w4 := Kept.trans' (k2.trans k3) k4 (by have := k2.size; omega)
  have kw4 := k1.trans k14
  have B4 := Lib.hid b4
  have HR4 := Lib.hid (HR1.out.kept k14)
  have XA4 : Hid (Bytes w4 (.slice A m c) xs) := ⟨A, m, c, rfl, hl, HX.out.kept kw4, by omega, hcm, HN.out⟩
  clear k1 k2 k3 k4 b3 b4 z3 z4 hga HR1 F1 k14
  go_upto_region 4 with fail
  refine wp_region_lit ?_
  refine l_val (o := ⟨some 24, _, _, _, _, _⟩) (.slice A m c) rfl (exec_move (.tmp 0) (.slice A m c) rfl (by kernel_rfl)) ?_
  simp only [Act.put, List.setIfInBounds_toArray, List.set_cons_succ, List.set_cons_zero]
  refine l_call (o := ⟨some 25, _, _, _, _, _⟩) 19 #[.slice A m c] rfl (exec_call 19 _ [.tmp 24] _ _ Try.func19 (by kernel_rfl) (by kernel_rfl) rfl (by kernel_rfl) _) ?_
  refine (getc_any _ xs w4 XA4.out HL.out).mono ?_
  rintro e w5 ⟨rfl, k5⟩
  rw [← HG.out]
  refine ⟨_, rfl, ?_⟩
  simp only [Act.put, List.setIfInBounds_toArray, List.set_cons_succ, List.set_cons_zero]
  refine l_val (o := ⟨some 23, _, _, _, _, _⟩) (.tuple #[g5.1.v, .bool g5.2]) rfl (exec_move (.tmp 25) (.tuple #[g5.1.v, .bool g5.2]) rfl (by kernel_rfl)) ?_
  simp only [Act.put, List.setIfInBounds_toArray, List.set_cons_succ, List.set_cons_zero]
  refine l_val (o := ⟨some 26, _, _, _, _, _⟩) (g5.1.v) rfl (exec_extract (.tmp 23) [g5.1.v, .bool g5.2] 0 g5.1.v rfl (by kernel_rfl) rfl) ?_
  simp only [Act.put, List.setIfInBounds_toArray, List.set_cons_succ, List.set_cons_zero]
  refine l_val (o := ⟨some 27, _, _, _, _, _⟩) (.bool g5.2) rfl (exec_extract (.tmp 23) [g5.1.v, .bool g5.2] 1 (.bool g5.2) rfl (by kernel_rfl) rfl) ?_
  simp only [Act.put, List.setIfInBounds_toArray, List.set_cons_succ, List.set_cons_zero]
  refine l_alloc (o := ⟨some 6, _, _, _, _, _⟩) 28 (Cmd.z 0).cells rfl rfl cmd_zero ?_
  intro w6 b6 z6 k6
  obtain ⟨gb, hgb⟩ : ∃ gb, gb = w5.heap.size := ⟨_, rfl⟩
  rw [← hgb] at b6 ⊢
  simp only [Act.put, List.setIfInBounds_toArray, List.set_cons_succ, List.set_cons_zero]
  refine l_setS (o := ⟨none, _, _, _, _, _⟩) 28 gb 28 (Cmd.z 0).cells g5.1.cells (.tmp 6) (.tmp 26) rfl rfl (by kernel_rfl) (by kernel_rfl) b6 (by rw [Cmd.cells_len _ HTg.out]; exact cmd_size) (by rw [Cmd.cells_len _ HTg.out]; rfl) (stc_one _ _) ?_
  intro w7 b7 k7 z7
  simp only [Act.put]
  refine l_val (o := ⟨some 7, _, _, _, _, _⟩) (.bool g5.2) rfl (exec_assign (.tmp 27) (.bool g5.2) rfl (by kernel_rfl)) ?_
  simp only [Act.put, List.setIfInBounds_toArray, List.set_cons_succ, List.set_cons_zero]
  refine wpList_nil ?_
  have k47 : Kept w4 w7 := Kept.trans' (k5.trans k6) k7 (by have := k5.size; omega)
  have kw7 := kw4.trans k47
  have B7 := Lib.hid (B4.out.kept k47)
  have C7 : Hid (Blk w7 gb 28 g5.1.cells) := b7
  have HR7 := Lib.hid (HR4.out.kept k47)
  clear k5 k6 k7 b6 b7 z6 z7 hgb HR4 XA4 k47 kw4 B4
  go_upto_region 5 with fail
  refine wp_text 16 [.eq (g5.1.v), .eq (g5.1.v), .eq (.bool true), .eq (.bool true), .eq (.bool g5.2), .eq (.bool g5.2), .eq (.bool true), .eq (.bool true), .eq (.bool true), .eq (.slice (some ⟨g1, 0, none⟩) N N), .eq (.slice A m c), .eq (.bool true), .eq (.bool true), .eq (.bool true), .eq (.bool true), .eq (.bool true)] rfl (by kernel_rfl) ?_ ?_
  · refine fsteps_cons 1 rfl (fun a u hE hD hk => f_val (o := ⟨some 28, _, _, _, _, _⟩) (g5.1.v) rfl (wanted_none rfl _) (exec_loadS 28 (.tmp 4) (ga) _ g5.1.cells _ rfl (hE 4 (.pointer (some ⟨ga, 0, none⟩)) (by kernel_rfl) (by kernel_rfl)) (B7.out.kept hk) Try.underlying28 (by rw [Cmd.cells_len _ HTg.out]; exact cmd_size)) rfl) ?_
    refine fsteps_cons 2 rfl (fun a u hE hD hk => f_val (o := ⟨some 29, _, _, _, _, _⟩) (g5.1.v) rfl (wanted_none rfl _) (exec_loadS 28 (.tmp 6) (gb) _ g5.1.cells _ rfl (hE 6 (.pointer (some ⟨gb, 0, none⟩)) (by kernel_rfl) (by kernel_rfl)) (C7.out.kept hk) Try.underlying28 (by rw [Cmd.cells_len _ HTg.out]; exact cmd_size)) rfl) ?_
    refine fsteps_cons 3 rfl (fun a u hE hD hk => f_val (o := ⟨some 30, _, _, _, _, _⟩) (.bool true) rfl (wanted_none rfl _) (exec_eqCmd (.tmp 28) (.tmp 29) _ g5.1 g5.1 true rfl (hD 0 28 (by kernel_rfl)) (hD 1 29 (by kernel_rfl)) HTg.out HTg.out (by simp)) rfl) ?_
    refine fsteps_cons 4 rfl (fun a u hE hD hk => f_val (o := ⟨some 31, _, _, _, _, _⟩) (.bool true) rfl (wanted_none rfl _) (exec_move (.tmp 30) (.bool true) rfl (hD 2 30 (by kernel_rfl))) rfl) ?_
    refine fsteps_cons 5 rfl (fun a u hE hD hk => f_val (o := ⟨some 32, _, _, _, _, _⟩) (.bool g5.2) rfl (wanted_at (b := true) true rfl rfl (hD 3 31 (by kernel_rfl))) (exec_move (.tmp 5) (.bool g5.2) rfl (hE 5 (.bool g5.2) (by kernel_rfl) (by kernel_rfl))) rfl) ?_
    refine fsteps_cons 6 rfl (fun a u hE hD hk => f_val (o := ⟨some 33, _, _, _, _, _⟩) (.bool g5.2) rfl (wanted_at (b := true) true rfl rfl (hD 3 31 (by kernel_rfl))) (exec_move (.tmp 7) (.bool g5.2) rfl (hE 7 (.bool g5.2) (by kernel_rfl) (by kernel_rfl))) rfl) ?_
    refine fsteps_cons 7 rfl (fun a u hE hD hk => f_val (o := ⟨some 34, _, _, _, _, _⟩) (.bool true) rfl (wanted_at (b := true) true rfl rfl (hD 3 31 (by kernel_rfl))) (exec_eqb (.tmp 32) (.tmp 33) _ g5.2 g5.2 true rfl (hD 4 32 (by kernel_rfl)) (hD 5 33 (by kernel_rfl)) (by simp)) rfl) ?_
    refine fsteps_cons 8 rfl (fun a u hE hD hk => f_val (o := ⟨some 35, _, _, _, _, _⟩) (.bool true) rfl (wanted_none rfl _) (exec_pick (.tmp 31) (.tmp 34) (.const (.bool false)) (.bool true) rfl (hD 3 31 (by kernel_rfl)) (hD 6 34 (by kernel_rfl))) rfl) ?_
    refine fsteps_cons 9 rfl (fun a u hE hD hk => f_val (o := ⟨some 36, _, _, _, _, _⟩) (.bool true) rfl (wanted_none rfl _) (exec_move (.tmp 35) (.bool true) rfl (hD 7 35 (by kernel_rfl))) rfl) ?_
    refine fsteps_cons 10 rfl (fun a u hE hD hk => f_val (o := ⟨some 37, _, _, _, _, _⟩) (.slice (some ⟨g1, 0, none⟩) N N) rfl (wanted_at (b := true) true rfl rfl (hD 8 36 (by kernel_rfl))) (exec_move (.tmp 3) (.slice (some ⟨g1, 0, none⟩) N N) rfl (hE 3 (.slice (some ⟨g1, 0, none⟩) N N) (by kernel_rfl) (by kernel_rfl))) rfl) ?_
    refine fsteps_cons 11 rfl (fun a u hE hD hk => f_val (o := ⟨some 38, _, _, _, _, _⟩) (.slice A m c) rfl (wanted_at (b := true) true rfl rfl (hD 8 36 (by kernel_rfl))) (exec_move (.tmp 0) (.slice A m c) rfl (hE 0 (.slice A m c) (by kernel_rfl) (by kernel_rfl))) rfl) ?_
    refine fsteps_cons 12 rfl (fun a u hE hD hk => f_call (o := ⟨some 39, _, _, _, _, _⟩) 20 #[.slice (some ⟨g1, 0, none⟩) N N, .slice A m c, .int .u8 7] rfl (wanted_at (b := true) true rfl rfl (hD 8 36 (by kernel_rfl))) (exec_call 20 _ [.tmp 37, .tmp 38, .const (.int .u8 7)] _ [.slice (some ⟨g1, 0, none⟩) N N, .slice A m c, .int .u8 7] Try.func20 (by kernel_rfl) (by kernel_rfl) rfl (show [a.eval (.tmp 37), a.eval (.tmp 38), a.eval (.const (.int .u8 7))] = [.slice (some ⟨g1, 0, none⟩) N N, .slice A m c, .int .u8 7] from (by rw [show a.eval (.tmp 37) = .slice (some ⟨g1, 0, none⟩) N N from (hD 9 37 (by kernel_rfl)), show a.eval (.tmp 38) = .slice A m c from (hD 10 38 (by kernel_rfl))] <;> rfl)) u) (by rw [HNN.out]; exact (intact_any A g1 m c xs 7 7 u rfl (HNN.out ▸ HR7.out.kept hk) (HX.out.kept (kw7.trans hk)) (by omega) hl).mono (fun e w' ⟨h1, k, h2⟩ => ⟨_, h1, rfl, by rw [h2]; exact kept_drewN u k⟩))) ?_
    refine fsteps_cons 13 rfl (fun a u hE hD hk => f_val (o := ⟨some 40, _, _, _, _, _⟩) (.bool true) rfl (wanted_none rfl _) (exec_pick (.tmp 36) (.tmp 39) (.const (.bool false)) (.bool true) rfl (hD 8 36 (by kernel_rfl)) (hD 11 39 (by kernel_rfl))) rfl) ?_
    refine fsteps_cons 14 rfl (fun a u hE hD hk => f_val (o := ⟨some 41, _, _, _, _, _⟩) (.bool true) rfl (wanted_none rfl _) (exec_move (.tmp 40) (.bool true) rfl (hD 12 40 (by kernel_rfl))) rfl) ?_
    refine fsteps_cons 15 rfl (fun a u hE hD hk => f_call (o := ⟨some 42, _, _, _, _, _⟩) 3 #[] rfl (wanted_at (b := true) true rfl rfl (hD 13 41 (by kernel_rfl))) (exec_call 3 _ [] _ [] Try.func3 (by kernel_rfl) (by kernel_rfl) rfl rfl u) (runs_gives u)) ?_
    refine fsteps_cons 16 rfl (fun a u hE hD hk => f_val (o := ⟨some 43, _, _, _, _, _⟩) (.bool true) rfl (wanted_none rfl _) (exec_pick (.tmp 41) (.tmp 42) (.const (.bool false)) (.bool true) rfl (hD 13 41 (by kernel_rfl)) (hD 14 42 (by kernel_rfl))) rfl) ?_
    exact fsteps_nil
  intro gv w8 hV k8
  rw [show dstsOf _ 16 = [28, 29, 30, 31, 32, 33, 34, 35, 36, 37, 38, 39, 40, 41, 42, 43] by kernel_rfl]
  simp only [List.foldl_cons, List.foldl_nil, List.setIfInBounds_toArray, List.set_cons_succ, List.set_cons_zero, List.drop_succ_cons, List.drop_zero]
  rw [show gv 43 = .bool true from hV 15 43 (by kernel_rfl)]
  clear hV
  have kw8 := kw7.trans k8
  go_wp2
  go_ret
  exact ⟨rfl, kw8⟩
end Go.Proofs.Ytdmeiffofmagjaa
