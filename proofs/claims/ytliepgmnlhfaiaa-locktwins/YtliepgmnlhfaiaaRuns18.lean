/-
  LockRuns: chapter 18's runs; it answers true. No condition.
-/
import Derived.Test.YtliepgmnlhfaiaaLokC
import Derived.Test.YtliepgmnlhfaiaaPrim
namespace Go.Proofs.Ytliepgmnlhfaiaa
open Go.RowKit
set_option linter.unusedVariables false
set_option maxRecDepth 100000

def rnL0 : Lok := Lok.none_ 2 10
def rnL1 : Lok := rnL0.failM 0
def rnL2 : Lok := rnL1.failM 3
def rnL3 : Lok := rnL2.failM 13
theorem rnL_1 : rnL2.shut 3 = true := by decide +kernel
theorem rnL_2 : rnL2.shut 12 = true := by decide +kernel
theorem rnL_3 : rnL2.shut 13 = false := by decide +kernel
theorem rnL_4 : rnL3.k = 1 := by decide +kernel
theorem rnL_5 : rnL3.shut 13 = false := by decide +kernel
set_option maxRecDepth 100000 in
set_option maxHeartbeats 1600000 in
theorem lockRuns_is (w : World) : Gives 3 #[] w (.eq (.bool true)) := by
  refine gives_eq ?_
  obtain ⟨L0, e0⟩ : ∃ L, Lok.none_ 2 10 = L := ⟨_, rfl⟩
  obtain ⟨L1, e1⟩ : ∃ L, rnL1 = L := ⟨_, rfl⟩
  obtain ⟨L2, e2⟩ : ∃ L, rnL2 = L := ⟨_, rfl⟩
  obtain ⟨L3, e3⟩ : ∃ L, rnL3 = L := ⟨_, rfl⟩
  have o0 : L0.Ok := by rw [← e0]; exact lok_ok (by decide)
  have F0 : Hid (L0.failM 0 = L1) := by show _ = _; rw [← e0, ← e1]; rfl
  have F1 : Hid (L1.failM 3 = L2) := by show _ = _; rw [← e1, ← e2]; rfl
  have F2 : Hid (L2.failM 13 = L3) := by show _ = _; rw [← e2, ← e3]; rfl
  have o1 : L1.Ok := by rw [← F0.out]; exact o0.fail (by omega) (by omega)
  have o2 : L2.Ok := by rw [← F1.out]; exact o1.fail (by omega) (by omega)
  have S1 : Hid (L2.shut 3 = true) := by show _ = _; rw [← e2]; exact rnL_1
  have S2 : Hid (L2.shut 12 = true) := by show _ = _; rw [← e2]; exact rnL_2
  have S3 : Hid (L2.shut 13 = false) := by show _ = _; rw [← e2]; exact rnL_3
  have S4 : Hid (L3.k = 1) := by show _ = _; rw [← e3]; exact rnL_4
  have S5 : Hid (L3.shut 13 = false) := by show _ = _; rw [← e3]; exact rnL_5
  have O0 := Lib.hid o0
  have O1 := Lib.hid o1
  have O2 := Lib.hid o2
  have E0 := Lib.hid e0
  clear o0 o1 o2 e0 e1 e2 e3
  go_enter Try.func3, Try.ntmps3
  go_upto_region 1 with fail
  refine wp_region_lit ?_
  refine l_call (o := ⟨some 7, _, _, _, _, _⟩) 9 #[.int .i64 2, .int .i64 10] rfl (exec_call 9 _ [.const (.int .i64 2), .const (.int .i64 10)] _ _ Try.func9 (by kernel_rfl) (by kernel_rfl) rfl (by kernel_rfl) _) ?_
  refine (lnew_yes 2 10 (newB_iff.2 (by omega)) w).mono ?_
  rintro e w1 ⟨g, rfl, hg, hB, kw1⟩
  refine ⟨_, rfl, ?_⟩
  simp only [Act.put, List.setIfInBounds_toArray, List.set_cons_succ, List.set_cons_zero]
  refine l_val (o := ⟨some 6, _, _, _, _, _⟩) (.tuple #[.pointer (some ⟨g, 0, none⟩), .int .i64 0]) rfl (exec_move (.tmp 7) (.tuple #[.pointer (some ⟨g, 0, none⟩), .int .i64 0]) rfl (by kernel_rfl)) ?_
  simp only [Act.put, List.setIfInBounds_toArray, List.set_cons_succ, List.set_cons_zero]
  refine l_val (o := ⟨some 8, _, _, _, _, _⟩) (.pointer (some ⟨g, 0, none⟩)) rfl (exec_extract (.tmp 6) [.pointer (some ⟨g, 0, none⟩), .int .i64 0] 0 (.pointer (some ⟨g, 0, none⟩)) rfl (by kernel_rfl) rfl) ?_
  simp only [Act.put, List.setIfInBounds_toArray, List.set_cons_succ, List.set_cons_zero]
  refine l_val (o := ⟨some 9, _, _, _, _, _⟩) (.int .i64 0) rfl (exec_extract (.tmp 6) [.pointer (some ⟨g, 0, none⟩), .int .i64 0] 1 (.int .i64 0) rfl (by kernel_rfl) rfl) ?_
  simp only [Act.put, List.setIfInBounds_toArray, List.set_cons_succ, List.set_cons_zero]
  refine l_val (o := ⟨some 1, _, _, _, _, _⟩) (.pointer (some ⟨g, 0, none⟩)) rfl (exec_assign (.tmp 8) (.pointer (some ⟨g, 0, none⟩)) rfl (by kernel_rfl)) ?_
  simp only [Act.put, List.setIfInBounds_toArray, List.set_cons_succ, List.set_cons_zero]
  refine l_val (o := ⟨some 2, _, _, _, _, _⟩) (.int .i64 0) rfl (exec_assign (.tmp 9) (.int .i64 0) rfl (by kernel_rfl)) ?_
  simp only [Act.put, List.setIfInBounds_toArray, List.set_cons_succ, List.set_cons_zero]
  refine wpList_nil ?_
  have HB := Lib.hid hB
  clear hB
  rw [E0.out] at HB
  go_upto_region 2 with fail
  refine wp_text 6 [.eq (.pointer (some ⟨g, 0, none⟩)), .eq (.bool false), .eq (.bool false), .eq (.int .i64 0), .eq (.bool false), .eq (.bool false)] rfl (by kernel_rfl) ?_ ?_
  · refine sv 1 rfl rfl rfl (fun a u hE hD hk => exec_move (.tmp 1) _ rfl (hE 1 (.pointer (some ⟨g, 0, none⟩)) (by kernel_rfl) (by kernel_rfl))) ?_
    refine sv 2 rfl rfl rfl (fun a u hE hD hk => exec_eqP (.tmp 10) _ _ ⟨g, 0, none⟩ (by kernel_rfl) rfl (hD 0 10 (by kernel_rfl))) ?_
    refine sv 3 rfl rfl rfl (fun a u hE hD hk => exec_move (.tmp 11) _ rfl (hD 1 11 (by kernel_rfl))) ?_
    refine fsteps_cons 4 rfl (fun a u hE hD hk => f_val (o := ⟨some 13, _, _, _, _, _⟩) (.int .i64 0) rfl (wanted_at (b := false) false rfl rfl (hD 2 12 (by kernel_rfl))) (exec_move (.tmp 2) _ rfl (hE 2 (.int .i64 0) (by kernel_rfl) (by kernel_rfl))) rfl) ?_
    refine fsteps_cons 5 rfl (fun a u hE hD hk => f_as (show ((decide ((0 : Int) ≠ (0 : Int))) : Bool) = false from decide_eq_false (by omega)) (f_val (o := ⟨some 14, _, _, _, _, _⟩) (.bool (decide ((0 : Int) ≠ (0 : Int)))) rfl (wanted_at (b := false) false rfl rfl (hD 2 12 (by kernel_rfl))) (exec_nen (p := 0) (q := 0) rfl (hD 3 13 (by kernel_rfl)) rfl) rfl)) ?_
    refine sv 6 rfl rfl rfl (fun a u hE hD hk => exec_pickF (.tmp 12) (.const (.bool true)) (.tmp 14) (.bool false) rfl (hD 2 12 (by kernel_rfl)) (hD 4 14 (by kernel_rfl))) ?_
    exact fsteps_nil
  intro gv w2 hV kw2
  rw [show dstsOf _ 6 = [10, 11, 12, 13, 14, 15] by kernel_rfl]
  simp only [List.foldl_cons, List.foldl_nil, List.setIfInBounds_toArray, List.set_cons_succ, List.set_cons_zero, List.drop_succ_cons, List.drop_zero]
  rw [show gv 15 = .bool false from hV 5 15 (by kernel_rfl)]
  clear hV
  refine wpList_nil ?_
  have HB2 := Lib.hid (HB.out.kept kw2)
  have kz2 := kw1.trans kw2
  clear HB kw1 kw2
  go_upto_region 4 with fail
  refine wp_region_lit ?_
  refine l_val (o := ⟨some 16, _, _, _, _, _⟩) (.pointer (some ⟨g, 0, none⟩)) rfl (exec_move (.tmp 1) (.pointer (some ⟨g, 0, none⟩)) rfl (by kernel_rfl)) ?_
  simp only [Act.put, List.setIfInBounds_toArray, List.set_cons_succ, List.set_cons_zero]
  refine l_call (o := ⟨some 17, _, _, _, _, _⟩) 10 #[.pointer (some ⟨g, 0, none⟩), .int .i64 0] rfl (exec_call 10 _ [.tmp 16, .const (.int .i64 0)] _ _ Try.func10 (by kernel_rfl) (by kernel_rfl) rfl (by kernel_rfl) _) ?_
  refine (lfailed_at HB2.out O0.out (by omega) (by omega) F0.out).mono ?_
  rintro e w3 ⟨rfl, hBw3, fw3⟩
  refine ⟨_, rfl, ?_⟩
  simp only [Act.put, List.setIfInBounds_toArray, List.set_cons_succ, List.set_cons_zero]
  refine wpList_nil ?_
  have HBw3 := Lib.hid hBw3
  clear hBw3
  go_upto_region 5 with fail
  refine wp_region_lit ?_
  refine l_val (o := ⟨some 18, _, _, _, _, _⟩) (.pointer (some ⟨g, 0, none⟩)) rfl (exec_move (.tmp 1) (.pointer (some ⟨g, 0, none⟩)) rfl (by kernel_rfl)) ?_
  simp only [Act.put, List.setIfInBounds_toArray, List.set_cons_succ, List.set_cons_zero]
  refine l_call (o := ⟨some 19, _, _, _, _, _⟩) 10 #[.pointer (some ⟨g, 0, none⟩), .int .i64 3] rfl (exec_call 10 _ [.tmp 18, .const (.int .i64 3)] _ _ Try.func10 (by kernel_rfl) (by kernel_rfl) rfl (by kernel_rfl) _) ?_
  refine (lfailed_at HBw3.out O1.out (by omega) (by omega) F1.out).mono ?_
  rintro e w4 ⟨rfl, hBw4, fw4⟩
  refine ⟨_, rfl, ?_⟩
  simp only [Act.put, List.setIfInBounds_toArray, List.set_cons_succ, List.set_cons_zero]
  refine wpList_nil ?_
  have HBw4 := Lib.hid hBw4
  clear hBw4
  have kz4 : Kept w w4 := (kz2.trans' fw3 (by omega)).trans' fw4 (by omega)
  clear fw3 fw4 HB2 HBw3 kz2
  go_upto_region 6 with fail
  refine wp_text 9 [.eq (.pointer (some ⟨g, 0, none⟩)), .eq (.bool true), .eq (.pointer (some ⟨g, 0, none⟩)), .eq (.bool true), .eq (.pointer (some ⟨g, 0, none⟩)), .eq (.bool false), .eq (.bool true), .eq (.bool true), .eq (.bool false)] rfl (by kernel_rfl) ?_ ?_
  · refine sv 1 rfl rfl rfl (fun a u hE hD hk => exec_move (.tmp 1) _ rfl (hE 1 (.pointer (some ⟨g, 0, none⟩)) (by kernel_rfl) (by kernel_rfl))) ?_
    refine fsteps_cons 2 rfl (fun a u hE hD hk => f_call (o := ⟨some 21, _, _, _, _, _⟩) 11 #[.pointer (some ⟨g, 0, none⟩), .int .i64 3] rfl (wanted_none rfl _) (exec_call 11 _ [.tmp 20, .const (.int .i64 3)] _ [.pointer (some ⟨g, 0, none⟩), .int .i64 3] Try.func11 (by kernel_rfl) (by kernel_rfl) rfl (show [a.eval (.tmp 20), a.eval (.const (.int .i64 3))] = [.pointer (some ⟨g, 0, none⟩), .int .i64 3] from (by rw [show a.eval (.tmp 20) = .pointer (some ⟨g, 0, none⟩) from (hD 0 20 (by kernel_rfl))] <;> rfl)) u) (llocked_at (HBw4.out.kept hk) S1.out)) ?_
    refine sv 3 rfl rfl rfl (fun a u hE hD hk => exec_move (.tmp 1) _ rfl (hE 1 (.pointer (some ⟨g, 0, none⟩)) (by kernel_rfl) (by kernel_rfl))) ?_
    refine fsteps_cons 4 rfl (fun a u hE hD hk => f_call (o := ⟨some 23, _, _, _, _, _⟩) 11 #[.pointer (some ⟨g, 0, none⟩), .int .i64 12] rfl (wanted_none rfl _) (exec_call 11 _ [.tmp 22, .const (.int .i64 12)] _ [.pointer (some ⟨g, 0, none⟩), .int .i64 12] Try.func11 (by kernel_rfl) (by kernel_rfl) rfl (show [a.eval (.tmp 22), a.eval (.const (.int .i64 12))] = [.pointer (some ⟨g, 0, none⟩), .int .i64 12] from (by rw [show a.eval (.tmp 22) = .pointer (some ⟨g, 0, none⟩) from (hD 2 22 (by kernel_rfl))] <;> rfl)) u) (llocked_at (HBw4.out.kept hk) S2.out)) ?_
    refine sv 5 rfl rfl rfl (fun a u hE hD hk => exec_move (.tmp 1) _ rfl (hE 1 (.pointer (some ⟨g, 0, none⟩)) (by kernel_rfl) (by kernel_rfl))) ?_
    refine fsteps_cons 6 rfl (fun a u hE hD hk => f_call (o := ⟨some 25, _, _, _, _, _⟩) 11 #[.pointer (some ⟨g, 0, none⟩), .int .i64 13] rfl (wanted_none rfl _) (exec_call 11 _ [.tmp 24, .const (.int .i64 13)] _ [.pointer (some ⟨g, 0, none⟩), .int .i64 13] Try.func11 (by kernel_rfl) (by kernel_rfl) rfl (show [a.eval (.tmp 24), a.eval (.const (.int .i64 13))] = [.pointer (some ⟨g, 0, none⟩), .int .i64 13] from (by rw [show a.eval (.tmp 24) = .pointer (some ⟨g, 0, none⟩) from (hD 4 24 (by kernel_rfl))] <;> rfl)) u) (llocked_at (HBw4.out.kept hk) S3.out)) ?_
    refine sv 7 rfl rfl rfl (fun a u hE hD hk => exec_assign (.tmp 21) _ rfl (hD 1 21 (by kernel_rfl))) ?_
    refine sv 8 rfl rfl rfl (fun a u hE hD hk => exec_assign (.tmp 23) _ rfl (hD 3 23 (by kernel_rfl))) ?_
    refine sv 9 rfl rfl rfl (fun a u hE hD hk => exec_assign (.tmp 25) _ rfl (hD 5 25 (by kernel_rfl))) ?_
    exact fsteps_nil
  intro gv w5 hV k5
  rw [show dstsOf _ 9 = [20, 21, 22, 23, 24, 25, 3, 4, 5] by kernel_rfl]
  simp only [List.foldl_cons, List.foldl_nil, List.setIfInBounds_toArray, List.set_cons_succ, List.set_cons_zero, List.drop_succ_cons, List.drop_zero]
  rw [show gv 3 = .bool true from hV 6 3 (by kernel_rfl)]
  rw [show gv 4 = .bool true from hV 7 4 (by kernel_rfl)]
  rw [show gv 5 = .bool false from hV 8 5 (by kernel_rfl)]
  clear hV
  refine wpList_nil ?_
  have HB5 := Lib.hid (HBw4.out.kept k5)
  have kz5 := kz4.trans k5
  clear HBw4 k5 kz4
  go_upto_region 7 with fail
  refine wp_region_lit ?_
  refine l_val (o := ⟨some 26, _, _, _, _, _⟩) (.pointer (some ⟨g, 0, none⟩)) rfl (exec_move (.tmp 1) (.pointer (some ⟨g, 0, none⟩)) rfl (by kernel_rfl)) ?_
  simp only [Act.put, List.setIfInBounds_toArray, List.set_cons_succ, List.set_cons_zero]
  refine l_call (o := ⟨some 27, _, _, _, _, _⟩) 10 #[.pointer (some ⟨g, 0, none⟩), .int .i64 13] rfl (exec_call 10 _ [.tmp 26, .const (.int .i64 13)] _ _ Try.func10 (by kernel_rfl) (by kernel_rfl) rfl (by kernel_rfl) _) ?_
  refine (lfailed_at HB5.out O2.out (by omega) (by omega) F2.out).mono ?_
  rintro e w6 ⟨rfl, hBw6, fw6⟩
  refine ⟨_, rfl, ?_⟩
  simp only [Act.put, List.setIfInBounds_toArray, List.set_cons_succ, List.set_cons_zero]
  refine wpList_nil ?_
  have HBw6 := Lib.hid hBw6
  clear hBw6
  have kz6 : Kept w w6 := kz5.trans' fw6 (by omega)
  clear fw6 HB5 kz5
  go_upto_region 8 with fail
  refine wp_text 19 [.eq (.bool true), .eq (.bool true), .eq (.bool true), .eq (.bool true), .eq (.bool true), .eq (.bool false), .eq (.bool true), .eq (.bool true), .eq (.bool true), .eq (.pointer (some ⟨g, 0, none⟩)), .eq (.int .i64 1), .eq (.bool true), .eq (.bool true), .eq (.bool true), .eq (.pointer (some ⟨g, 0, none⟩)), .eq (.bool false), .eq (.bool true), .eq (.bool true), .eq (.bool true)] rfl (by kernel_rfl) ?_ ?_
  · refine sv 1 rfl rfl rfl (fun a u hE hD hk => exec_move (.tmp 3) _ rfl (hE 3 (.bool true) (by kernel_rfl) (by kernel_rfl))) ?_
    refine sv 2 rfl rfl rfl (fun a u hE hD hk => exec_move (.tmp 28) _ rfl (hD 0 28 (by kernel_rfl))) ?_
    refine fsteps_cons 3 rfl (fun a u hE hD hk => f_val (o := ⟨some 30, _, _, _, _, _⟩) (.bool true) rfl (wanted_at (b := true) true rfl rfl (hD 1 29 (by kernel_rfl))) (exec_move (.tmp 4) _ rfl (hE 4 (.bool true) (by kernel_rfl) (by kernel_rfl))) rfl) ?_
    refine sv 4 rfl rfl rfl (fun a u hE hD hk => exec_pick (.tmp 29) (.tmp 30) (.const (.bool false)) (.bool true) rfl (hD 1 29 (by kernel_rfl)) (hD 2 30 (by kernel_rfl))) ?_
    refine sv 5 rfl rfl rfl (fun a u hE hD hk => exec_move (.tmp 31) _ rfl (hD 3 31 (by kernel_rfl))) ?_
    refine fsteps_cons 6 rfl (fun a u hE hD hk => f_val (o := ⟨some 33, _, _, _, _, _⟩) (.bool false) rfl (wanted_at (b := true) true rfl rfl (hD 4 32 (by kernel_rfl))) (exec_move (.tmp 5) _ rfl (hE 5 (.bool false) (by kernel_rfl) (by kernel_rfl))) rfl) ?_
    refine fsteps_cons 7 rfl (fun a u hE hD hk => f_val (o := ⟨some 34, _, _, _, _, _⟩) (.bool true) rfl (wanted_at (b := true) true rfl rfl (hD 4 32 (by kernel_rfl))) (exec_not _ (.tmp 33) false rfl (hD 5 33 (by kernel_rfl))) rfl) ?_
    refine sv 8 rfl rfl rfl (fun a u hE hD hk => exec_pick (.tmp 32) (.tmp 34) (.const (.bool false)) (.bool true) rfl (hD 4 32 (by kernel_rfl)) (hD 6 34 (by kernel_rfl))) ?_
    refine sv 9 rfl rfl rfl (fun a u hE hD hk => exec_move (.tmp 35) _ rfl (hD 7 35 (by kernel_rfl))) ?_
    refine fsteps_cons 10 rfl (fun a u hE hD hk => f_val (o := ⟨some 37, _, _, _, _, _⟩) (.pointer (some ⟨g, 0, none⟩)) rfl (wanted_at (b := true) true rfl rfl (hD 8 36 (by kernel_rfl))) (exec_move (.tmp 1) _ rfl (hE 1 (.pointer (some ⟨g, 0, none⟩)) (by kernel_rfl) (by kernel_rfl))) rfl) ?_
    refine fsteps_cons 11 rfl (fun a u hE hD hk => f_call (o := ⟨some 38, _, _, _, _, _⟩) 12 #[.pointer (some ⟨g, 0, none⟩)] rfl (wanted_at (b := true) true rfl rfl (hD 8 36 (by kernel_rfl))) (exec_call 12 _ [.tmp 37] _ [.pointer (some ⟨g, 0, none⟩)] Try.func12 (by kernel_rfl) (by kernel_rfl) rfl (show [a.eval (.tmp 37)] = [.pointer (some ⟨g, 0, none⟩)] from (by rw [show a.eval (.tmp 37) = .pointer (some ⟨g, 0, none⟩) from (hD 9 37 (by kernel_rfl))] <;> rfl)) u) (lwrong_at (HBw6.out.kept hk) S4.out)) ?_
    refine fsteps_cons 12 rfl (fun a u hE hD hk => f_as (show ((decide ((1 : Int) = (1 : Int))) : Bool) = true from decide_eq_true rfl) (f_val (o := ⟨some 39, _, _, _, _, _⟩) (.bool (decide ((1 : Int) = (1 : Int)))) rfl (wanted_at (b := true) true rfl rfl (hD 8 36 (by kernel_rfl))) (exec_eqn (p := 1) (q := 1) rfl (hD 10 38 (by kernel_rfl)) rfl) rfl)) ?_
    refine sv 13 rfl rfl rfl (fun a u hE hD hk => exec_pick (.tmp 36) (.tmp 39) (.const (.bool false)) (.bool true) rfl (hD 8 36 (by kernel_rfl)) (hD 11 39 (by kernel_rfl))) ?_
    refine sv 14 rfl rfl rfl (fun a u hE hD hk => exec_move (.tmp 40) _ rfl (hD 12 40 (by kernel_rfl))) ?_
    refine fsteps_cons 15 rfl (fun a u hE hD hk => f_val (o := ⟨some 42, _, _, _, _, _⟩) (.pointer (some ⟨g, 0, none⟩)) rfl (wanted_at (b := true) true rfl rfl (hD 13 41 (by kernel_rfl))) (exec_move (.tmp 1) _ rfl (hE 1 (.pointer (some ⟨g, 0, none⟩)) (by kernel_rfl) (by kernel_rfl))) rfl) ?_
    refine fsteps_cons 16 rfl (fun a u hE hD hk => f_call (o := ⟨some 43, _, _, _, _, _⟩) 11 #[.pointer (some ⟨g, 0, none⟩), .int .i64 13] rfl (wanted_at (b := true) true rfl rfl (hD 13 41 (by kernel_rfl))) (exec_call 11 _ [.tmp 42, .const (.int .i64 13)] _ [.pointer (some ⟨g, 0, none⟩), .int .i64 13] Try.func11 (by kernel_rfl) (by kernel_rfl) rfl (show [a.eval (.tmp 42), a.eval (.const (.int .i64 13))] = [.pointer (some ⟨g, 0, none⟩), .int .i64 13] from (by rw [show a.eval (.tmp 42) = .pointer (some ⟨g, 0, none⟩) from (hD 14 42 (by kernel_rfl))] <;> rfl)) u) (llocked_at (HBw6.out.kept hk) S5.out)) ?_
    refine fsteps_cons 17 rfl (fun a u hE hD hk => f_val (o := ⟨some 44, _, _, _, _, _⟩) (.bool true) rfl (wanted_at (b := true) true rfl rfl (hD 13 41 (by kernel_rfl))) (exec_not _ (.tmp 43) false rfl (hD 15 43 (by kernel_rfl))) rfl) ?_
    refine sv 18 rfl rfl rfl (fun a u hE hD hk => exec_pick (.tmp 41) (.tmp 44) (.const (.bool false)) (.bool true) rfl (hD 13 41 (by kernel_rfl)) (hD 16 44 (by kernel_rfl))) ?_
    refine sv 19 rfl rfl rfl (fun a u hE hD hk => exec_assign (.tmp 45) _ rfl (hD 17 45 (by kernel_rfl))) ?_
    exact fsteps_nil
  intro gv w7 hV k7
  rw [show dstsOf _ 19 = [28, 29, 30, 31, 32, 33, 34, 35, 36, 37, 38, 39, 40, 41, 42, 43, 44, 45, 0] by kernel_rfl]
  simp only [List.foldl_cons, List.foldl_nil, List.setIfInBounds_toArray, List.set_cons_succ, List.set_cons_zero, List.drop_succ_cons, List.drop_zero]
  rw [show gv 0 = .bool true from hV 18 0 (by kernel_rfl)]
  clear hV
  refine wpList_nil ?_
  have kz7 := kz6.trans k7
  go_wp2
  go_ret
  exact ⟨rfl, kz7⟩
theorem lockRuns_any (w : World) : Calls Try.prog 3 #[] w fun e w' => e = .returned (.bool true) ∧ Kept w w' := by
  refine (lockRuns_is w).mono ?_
  rintro e w' ⟨v, rfl, hv, hk⟩
  obtain rfl : v = .bool true := hv
  exact ⟨rfl, hk⟩
end Go.Proofs.Ytliepgmnlhfaiaa
