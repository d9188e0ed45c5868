/-
  AcctRuns: chapter 15's runs; it answers true. No condition.
-/
import Derived.Test.YtlkkmpleafpliaaSom15
namespace Go.Proofs.Ytlkkmpleafpliaa
open Go.RowKit
set_option linter.unusedVariables false
set_option maxRecDepth 100000

theorem opens_at {g : Nat} {B B' : Bal} {n i q : Int} {b : Bool} {w : World} (hB : Blk w g 49 B.lc) (hO : B.Ok) (h1 : opB B n i q = b) (h2 : opM B n i q = B') : Calls Try.prog 9 #[.pointer (some ⟨g, 0, none⟩), .int .i64 n, .int .i64 i, .int .i64 q] w fun e w' => e = .returned (.bool b) ∧ Blk w' g 49 B'.lc ∧ Keep (· = g) w w' := by
  rw [← h1, ← h2]
  exact opens_any g B hO n i q w hB
theorem trades_at {g : Nat} {B B' : Bal} {n i s q : Int} {b : Bool} {w : World} (hB : Blk w g 49 B.lc) (hO : B.Ok) (h1 : trB B n i s q = b) (h2 : trM B n i s q = B') : Calls Try.prog 11 #[.pointer (some ⟨g, 0, none⟩), .int .i64 n, .int .i64 i, .int .i64 s, .int .i64 q] w fun e w' => e = .returned (.bool b) ∧ Blk w' g 49 B'.lc ∧ Keep (· = g) w w' := by
  rw [← h1, ← h2]
  exact trades_any g B hO n i s q w hB
theorem all_at {g : Nat} {B : Bal} {n V : Int} {w : World} (hB : Blk w g 49 B.lc) (hO : B.Ok) (h : B.all n = V) : Gives 10 #[.pointer (some ⟨g, 0, none⟩), .int .i64 n] w (.eq (.int .i64 V)) := by
  rw [← h]
  exact openAll_any g B hO n w hB
theorem pos_at {g : Nat} {B : Bal} {n i V : Int} {w : World} (hB : Blk w g 49 B.lc) (h : B.pAt n i = V) : Gives 12 #[.pointer (some ⟨g, 0, none⟩), .int .i64 n, .int .i64 i] w (.eq (.int .i64 V)) := by
  rw [← h]
  exact pos_any g B n i w hB
theorem openAt_at {g : Nat} {B : Bal} {n i V : Int} {w : World} (hB : Blk w g 49 B.lc) (h : B.oAt n i = V) : Gives 17 #[.pointer (some ⟨g, 0, none⟩), .int .i64 n, .int .i64 i] w (.eq (.int .i64 V)) := by
  rw [← h]
  exact openAt_any g B n i w hB
/-- what a call of Opens or of Trades keeps, beside a block of the call's own -/
theorem kept_own {w w1 w2 : World} {g : Nat} (k : Kept w w1) (hg : w.heap.size ≤ g) (h : Keep (· = g) w1 w2) : Kept w w2 := k.trans' h (by omega)
def run1 : Bal := opM zeroB 1 2 5
def run2 : Bal := opM run1 1 3 4
def run3 : Bal := trM run2 1 2 2 3
theorem run_1 : opB zeroB 1 2 5 = true := by decide +kernel
theorem run_2 : opB run1 1 3 4 = true := by decide +kernel
theorem run_3 : opB run2 1 2 (-6) = false := by decide +kernel
theorem run_4 : run2.all 1 = 9 := by decide +kernel
theorem run_5 : trB run2 1 2 2 3 = true := by decide +kernel
theorem run_6 : run3.pAt 1 2 = -3 := by decide +kernel
set_option maxRecDepth 100000 in
set_option maxHeartbeats 1600000 in
theorem acctRuns_is (w : World) : Gives 3 #[] w (.eq (.bool true)) := by
  refine gives_eq ?_
  go_enter Try.func3, Try.ntmps3
  go_upto_region 1 with fail
  refine wp_region_lit ?_
  refine l_call (o := ⟨some 5, _, _, _, _, _⟩) 8 #[] rfl (exec_call 8 _ [] _ _ Try.func8 (by kernel_rfl) (by kernel_rfl) rfl (by kernel_rfl) _) ?_
  refine (new_any w.heap.size w (Nat.le_refl _)).mono ?_
  rintro e w1 ⟨v1, rfl, ⟨g, rfl, hg, hB⟩, k1⟩
  refine ⟨_, rfl, ?_⟩
  simp only [Act.put, List.setIfInBounds_toArray, List.set_cons_succ, List.set_cons_zero]
  refine l_val (o := ⟨some 1, _, _, _, _, _⟩) (.pointer (some ⟨g, 0, none⟩)) rfl (exec_assign (.tmp 5) (.pointer (some ⟨g, 0, none⟩)) rfl (by kernel_rfl)) ?_
  simp only [Act.put, List.setIfInBounds_toArray, List.set_cons_succ, List.set_cons_zero]
  refine wpList_nil ?_
  have HB := Lib.hid hB
  clear hB
  go_upto_region 2 with fail
  refine wp_text 2 [.eq (.pointer (some ⟨g, 0, none⟩)), .eq (.bool false)] rfl (by kernel_rfl) ?_ ?_
  · refine sv 1 rfl rfl rfl (fun a u hE hD hk => exec_move (.tmp 1) _ rfl (hE 1 (.pointer (some ⟨g, 0, none⟩)) (by kernel_rfl) (by kernel_rfl))) ?_
    refine sv 2 rfl rfl rfl (fun a u hE hD hk => exec_eqP (.tmp 6) _ _ ⟨g, 0, none⟩ (by kernel_rfl) rfl (hD 0 6 (by kernel_rfl))) ?_
    exact fsteps_nil
  intro gv w2 hV k2
  rw [show dstsOf _ 2 = [6, 7] by kernel_rfl]
  simp only [List.foldl_cons, List.foldl_nil, List.setIfInBounds_toArray, List.set_cons_succ, List.set_cons_zero, List.drop_succ_cons, List.drop_zero]
  rw [show gv 7 = .bool false from hV 1 7 (by kernel_rfl)]
  clear hV
  refine wpList_nil ?_
  have HB2 := Lib.hid (HB.out.kept k2)
  have kw2 := k1.trans k2
  clear HB k1 k2
  go_upto_region 4 with fail
  refine wp_region_lit ?_
  refine l_val (o := ⟨some 8, _, _, _, _, _⟩) (.pointer (some ⟨g, 0, none⟩)) rfl (exec_move (.tmp 1) (.pointer (some ⟨g, 0, none⟩)) rfl (by kernel_rfl)) ?_
  simp only [Act.put, List.setIfInBounds_toArray, List.set_cons_succ, List.set_cons_zero]
  refine l_call (o := ⟨some 9, _, _, _, _, _⟩) 9 #[.pointer (some ⟨g, 0, none⟩), .int .i64 1, .int .i64 2, .int .i64 5] rfl (exec_call 9 _ [.tmp 8, .const (.int .i64 1), .const (.int .i64 2), .const (.int .i64 5)] _ _ Try.func9 (by kernel_rfl) (by kernel_rfl) rfl (by kernel_rfl) _) ?_
  refine (opens_at HB2.out ok_zero run_1 rfl).mono ?_
  rintro e w3 ⟨rfl, hB3, k3⟩
  refine ⟨_, rfl, ?_⟩
  simp only [Act.put, List.setIfInBounds_toArray, List.set_cons_succ, List.set_cons_zero]
  refine l_val (o := ⟨some 10, _, _, _, _, _⟩) (.pointer (some ⟨g, 0, none⟩)) rfl (exec_move (.tmp 1) (.pointer (some ⟨g, 0, none⟩)) rfl (by kernel_rfl)) ?_
  simp only [Act.put, List.setIfInBounds_toArray, List.set_cons_succ, List.set_cons_zero]
  refine l_call (o := ⟨some 11, _, _, _, _, _⟩) 9 #[.pointer (some ⟨g, 0, none⟩), .int .i64 1, .int .i64 3, .int .i64 4] rfl (exec_call 9 _ [.tmp 10, .const (.int .i64 1), .const (.int .i64 3), .const (.int .i64 4)] _ _ Try.func9 (by kernel_rfl) (by kernel_rfl) rfl (by kernel_rfl) _) ?_
  refine (opens_at hB3 (ok_zero.op 1 2 5) run_2 rfl).mono ?_
  rintro e w4 ⟨rfl, hB4, k4⟩
  refine ⟨_, rfl, ?_⟩
  simp only [Act.put, List.setIfInBounds_toArray, List.set_cons_succ, List.set_cons_zero]
  refine l_val (o := ⟨some 12, _, _, _, _, _⟩) (.pointer (some ⟨g, 0, none⟩)) rfl (exec_move (.tmp 1) (.pointer (some ⟨g, 0, none⟩)) rfl (by kernel_rfl)) ?_
  simp only [Act.put, List.setIfInBounds_toArray, List.set_cons_succ, List.set_cons_zero]
  refine l_call (o := ⟨some 13, _, _, _, _, _⟩) 9 #[.pointer (some ⟨g, 0, none⟩), .int .i64 1, .int .i64 2, .int .i64 (-6)] rfl (exec_call 9 _ [.tmp 12, .const (.int .i64 1), .const (.int .i64 2), .const (.int .i64 (-6))] _ _ Try.func9 (by kernel_rfl) (by kernel_rfl) rfl (by kernel_rfl) _) ?_
  refine (opens_at hB4 ((ok_zero.op 1 2 5).op 1 3 4) run_3 (op_no run_3)).mono ?_
  rintro e w5 ⟨rfl, hB5, k5⟩
  refine ⟨_, rfl, ?_⟩
  simp only [Act.put, List.setIfInBounds_toArray, List.set_cons_succ, List.set_cons_zero]
  refine l_val (o := ⟨some 2, _, _, _, _, _⟩) (.bool true) rfl (exec_assign (.tmp 9) (.bool true) rfl (by kernel_rfl)) ?_
  simp only [Act.put, List.setIfInBounds_toArray, List.set_cons_succ, List.set_cons_zero]
  refine l_val (o := ⟨some 3, _, _, _, _, _⟩) (.bool true) rfl (exec_assign (.tmp 11) (.bool true) rfl (by kernel_rfl)) ?_
  simp only [Act.put, List.setIfInBounds_toArray, List.set_cons_succ, List.set_cons_zero]
  refine l_val (o := ⟨some 4, _, _, _, _, _⟩) (.bool false) rfl (exec_assign (.tmp 13) (.bool false) rfl (by kernel_rfl)) ?_
  simp only [Act.put, List.setIfInBounds_toArray, List.set_cons_succ, List.set_cons_zero]
  refine wpList_nil ?_
  have hO := (ok_zero.op 1 2 5).op 1 3 4
  have HB5 : Hid (Blk w5 g 49 run2.lc) := hB5
  have kw5 := kept_own (kept_own (kept_own kw2 hg k3) hg k4) hg k5
  clear hB3 hB4 hB5 k3 k4 k5 kw2 HB2
  have HO : Hid run2.Ok := hO
  clear hO
  go_upto_region 5 with fail
  refine wp_text 15 [.eq (.bool true), .eq (.bool true), .eq (.bool true), .eq (.bool true), .eq (.bool true), .eq (.bool false), .eq (.bool true), .eq (.bool true), .eq (.bool true), .eq (.pointer (some ⟨g, 0, none⟩)), .eq (.int .i64 9), .eq (.bool true), .eq (.bool true), .eq (.bool true), .eq (.pointer (some ⟨g, 0, none⟩))] rfl (by kernel_rfl) ?_ ?_
  · refine sv 1 rfl rfl rfl (fun a u hE hD hk => exec_move (.tmp 2) _ rfl (hE 2 (.bool true) (by kernel_rfl) (by kernel_rfl))) ?_
    refine sv 2 rfl rfl rfl (fun a u hE hD hk => exec_move (.tmp 14) _ rfl (hD 0 14 (by kernel_rfl))) ?_
    refine fsteps_cons 3 rfl (fun a u hE hD hk => f_val (o := ⟨some 16, _, _, _, _, _⟩) (.bool true) rfl (wanted_at (b := true) true rfl rfl (hD 1 15 (by kernel_rfl))) (exec_move (.tmp 3) _ rfl (hE 3 (.bool true) (by kernel_rfl) (by kernel_rfl))) rfl) ?_
    refine sv 4 rfl rfl rfl (fun a u hE hD hk => exec_pick (.tmp 15) (.tmp 16) (.const (.bool false)) (.bool true) rfl (hD 1 15 (by kernel_rfl)) (hD 2 16 (by kernel_rfl))) ?_
    refine sv 5 rfl rfl rfl (fun a u hE hD hk => exec_move (.tmp 17) _ rfl (hD 3 17 (by kernel_rfl))) ?_
    refine fsteps_cons 6 rfl (fun a u hE hD hk => f_val (o := ⟨some 19, _, _, _, _, _⟩) (.bool false) rfl (wanted_at (b := true) true rfl rfl (hD 4 18 (by kernel_rfl))) (exec_move (.tmp 4) _ rfl (hE 4 (.bool false) (by kernel_rfl) (by kernel_rfl))) rfl) ?_
    refine fsteps_cons 7 rfl (fun a u hE hD hk => f_val (o := ⟨some 20, _, _, _, _, _⟩) (.bool true) rfl (wanted_at (b := true) true rfl rfl (hD 4 18 (by kernel_rfl))) (exec_not _ (.tmp 19) false rfl (hD 5 19 (by kernel_rfl))) rfl) ?_
    refine sv 8 rfl rfl rfl (fun a u hE hD hk => exec_pick (.tmp 18) (.tmp 20) (.const (.bool false)) (.bool true) rfl (hD 4 18 (by kernel_rfl)) (hD 6 20 (by kernel_rfl))) ?_
    refine sv 9 rfl rfl rfl (fun a u hE hD hk => exec_move (.tmp 21) _ rfl (hD 7 21 (by kernel_rfl))) ?_
    refine fsteps_cons 10 rfl (fun a u hE hD hk => f_val (o := ⟨some 23, _, _, _, _, _⟩) (.pointer (some ⟨g, 0, none⟩)) rfl (wanted_at (b := true) true rfl rfl (hD 8 22 (by kernel_rfl))) (exec_move (.tmp 1) _ rfl (hE 1 (.pointer (some ⟨g, 0, none⟩)) (by kernel_rfl) (by kernel_rfl))) rfl) ?_
    refine fsteps_cons 11 rfl (fun a u hE hD hk => f_call (o := ⟨some 24, _, _, _, _, _⟩) 10 #[.pointer (some ⟨g, 0, none⟩), .int .i64 1] rfl (wanted_at (b := true) true rfl rfl (hD 8 22 (by kernel_rfl))) (exec_call 10 _ [.tmp 23, .const (.int .i64 1)] _ [.pointer (some ⟨g, 0, none⟩), .int .i64 1] Try.func10 (by kernel_rfl) (by kernel_rfl) rfl (show [a.eval (.tmp 23), a.eval (.const (.int .i64 1))] = [.pointer (some ⟨g, 0, none⟩), .int .i64 1] from (by rw [show a.eval (.tmp 23) = .pointer (some ⟨g, 0, none⟩) from (hD 9 23 (by kernel_rfl))] <;> rfl)) u) (all_at (HB5.out.kept hk) HO.out run_4)) ?_
    refine fsteps_cons 12 rfl (fun a u hE hD hk => f_as (show ((decide ((9 : Int) = (9 : Int))) : Bool) = true from decide_eq_true rfl) (f_val (o := ⟨some 25, _, _, _, _, _⟩) (.bool (decide ((9 : Int) = (9 : Int)))) rfl (wanted_at (b := true) true rfl rfl (hD 8 22 (by kernel_rfl))) (exec_eqn (p := 9) (q := 9) rfl (hD 10 24 (by kernel_rfl)) rfl) rfl)) ?_
    refine sv 13 rfl rfl rfl (fun a u hE hD hk => exec_pick (.tmp 22) (.tmp 25) (.const (.bool false)) (.bool true) rfl (hD 8 22 (by kernel_rfl)) (hD 11 25 (by kernel_rfl))) ?_
    refine sv 14 rfl rfl rfl (fun a u hE hD hk => exec_move (.tmp 26) _ rfl (hD 12 26 (by kernel_rfl))) ?_
    refine fsteps_cons 15 rfl (fun a u hE hD hk => f_val (o := ⟨some 28, _, _, _, _, _⟩) (.pointer (some ⟨g, 0, none⟩)) rfl (wanted_at (b := true) true rfl rfl (hD 13 27 (by kernel_rfl))) (exec_move (.tmp 1) _ rfl (hE 1 (.pointer (some ⟨g, 0, none⟩)) (by kernel_rfl) (by kernel_rfl))) rfl) ?_
    exact fsteps_nil
  intro gv w6 hV k6
  rw [show dstsOf _ 15 = [14, 15, 16, 17, 18, 19, 20, 21, 22, 23, 24, 25, 26, 27, 28] by kernel_rfl]
  simp only [List.foldl_cons, List.foldl_nil, List.setIfInBounds_toArray, List.set_cons_succ, List.set_cons_zero, List.drop_succ_cons, List.drop_zero]
  rw [show gv 28 = .pointer (some ⟨g, 0, none⟩) from hV 14 28 (by kernel_rfl)]
  rw [show gv 27 = .bool true from hV 13 27 (by kernel_rfl)]
  clear hV
  refine l_call (o := ⟨some 29, _, _, _, _, _⟩) 11 #[.pointer (some ⟨g, 0, none⟩), .int .i64 1, .int .i64 2, .int .i64 2, .int .i64 3] rfl (exec_call 11 _ [.tmp 28, .const (.int .i64 1), .const (.int .i64 2), .const (.int .i64 2), .const (.int .i64 3)] _ _ Try.func11 (by kernel_rfl) (by kernel_rfl) rfl (by kernel_rfl) _) ?_
  refine (trades_at (HB5.out.kept k6) HO.out run_5 rfl).mono ?_
  rintro e w7 ⟨rfl, hB7, k7⟩
  refine ⟨_, rfl, ?_⟩
  simp only [Act.put, List.setIfInBounds_toArray, List.set_cons_succ, List.set_cons_zero]
  refine l_val (o := ⟨some 30, _, _, _, _, _⟩) (.bool true) rfl (exec_pick (.tmp 27) (.tmp 29) (.const (.bool false)) (.bool true) rfl (by kernel_rfl) (by kernel_rfl)) ?_
  simp only [Act.put, List.setIfInBounds_toArray, List.set_cons_succ, List.set_cons_zero]
  refine l_val (o := ⟨some 31, _, _, _, _, _⟩) (.bool true) rfl (exec_move (.tmp 30) (.bool true) rfl (by kernel_rfl)) ?_
  simp only [Act.put, List.setIfInBounds_toArray, List.set_cons_succ, List.set_cons_zero]
  refine l_val (o := ⟨some 32, _, _, _, _, _⟩) (.pointer (some ⟨g, 0, none⟩)) rfl (exec_move (.tmp 1) (.pointer (some ⟨g, 0, none⟩)) rfl (by kernel_rfl)) ?_
  simp only [Act.put, List.setIfInBounds_toArray, List.set_cons_succ, List.set_cons_zero]
  refine l_call (o := ⟨some 33, _, _, _, _, _⟩) 12 #[.pointer (some ⟨g, 0, none⟩), .int .i64 1, .int .i64 2] rfl (exec_call 12 _ [.tmp 32, .const (.int .i64 1), .const (.int .i64 2)] _ _ Try.func12 (by kernel_rfl) (by kernel_rfl) rfl (by kernel_rfl) _) ?_
  refine (pos_at (B := run3) hB7 run_6).mono ?_
  rintro e w8 ⟨v8, rfl, e8, k8⟩
  obtain rfl : v8 = .int .i64 (-3) := e8
  refine ⟨_, rfl, ?_⟩
  simp only [Act.put, List.setIfInBounds_toArray, List.set_cons_succ, List.set_cons_zero]
  refine l_val (o := ⟨some 34, _, _, _, _, _⟩) (.bool true) rfl (exec_eqn (p := -3) (q := -3) rfl (by kernel_rfl) (by kernel_rfl)) ?_
  simp only [Act.put, List.setIfInBounds_toArray, List.set_cons_succ, List.set_cons_zero]
  refine l_val (o := ⟨some 35, _, _, _, _, _⟩) (.bool true) rfl (exec_pick (.tmp 31) (.tmp 34) (.const (.bool false)) (.bool true) rfl (by kernel_rfl) (by kernel_rfl)) ?_
  simp only [Act.put, List.setIfInBounds_toArray, List.set_cons_succ, List.set_cons_zero]
  refine l_val (o := ⟨some 0, _, _, _, _, _⟩) (.bool true) rfl (exec_assign (.tmp 35) (.bool true) rfl (by kernel_rfl)) ?_
  simp only [Act.put, List.setIfInBounds_toArray, List.set_cons_zero]
  refine wpList_nil ?_
  have kw8 := (kept_own (kw5.trans k6) hg k7).trans k8
  go_wp2
  go_ret
  exact ⟨rfl, kw8⟩
theorem acctRuns_any (w : World) : Calls Try.prog 3 #[] w fun e w' => e = .returned (.bool true) ∧ Kept w w' := by
  refine (acctRuns_is w).mono ?_
  rintro e w' ⟨v, rfl, hv, hk⟩
  obtain rfl : v = .bool true := hv
  exact ⟨rfl, hk⟩
end Go.Proofs.Ytlkkmpleafpliaa
