/-
  LockPlays: any tries, any ticks, any calls: each answer is the document's own; it answers true. Condition: the asks as the arguments hold them.
-/
import Derived.Test.YtliepgmnlhfaiaaRuns18
import Derived.Test.YtliepgmnlhfaiaaLokD
import Derived.Test.YtliepgmnlhfaiaaSom18
import Derived.Test.YtliepgmnlhfaiaaSame6
import Derived.Test.YtliepgmnlhfaiaaWi
namespace Go.Proofs.Ytliepgmnlhfaiaa
open Go.RowKit
set_option linter.unusedVariables false
set_option maxRecDepth 100000

set_option maxRecDepth 100000 in
set_option maxHeartbeats 1600000 in
theorem lockPlays_any (tr tk : Int) (v : Value) (l : List Kq2) (w : World) (hl : Kqs2 w v l) : Calls Try.prog 4 #[.int .i64 tr, .int .i64 tk, v] w fun e w' => e = .returned (.bool true) ∧ Kept w w' := by
  have HA := Lib.hid hl
  obtain ⟨A, n, c, rfl, hn, hm⟩ : ∃ A n c, v = .slice A n c ∧ l.length = n ∧ n ≤ maxLen := by
    obtain ⟨A, n, c, h1, h2, _, h3, _⟩ := hl
    exact ⟨A, n, c, h1, h2, h3⟩
  clear hl
  unfold maxLen at hm
  have HN := Lib.hid hn
  clear hn
  cases hN : newB tr tk with
  | false =>
    have HW := Lib.hid hN
    clear hN HA HN
    go_enter Try.func4, Try.ntmps4
    go_upto_region 1 with fail
    refine wp_text 2 [.eq (.int .i64 tr), .eq (.int .i64 tk)] rfl (by kernel_rfl) ?_ ?_
    · refine sv 1 rfl rfl rfl (fun a u hE hD hk => exec_move (.tmp 0) _ rfl (hE 0 (.int .i64 tr) (by kernel_rfl) (by kernel_rfl))) ?_
      refine sv 2 rfl rfl rfl (fun a u hE hD hk => exec_move (.tmp 1) _ rfl (hE 1 (.int .i64 tk) (by kernel_rfl) (by kernel_rfl))) ?_
      exact fsteps_nil
    intro gv w0 hV k0
    rw [show dstsOf _ 2 = [14, 15] by kernel_rfl]
    simp only [List.foldl_cons, List.foldl_nil, List.setIfInBounds_toArray, List.set_cons_succ, List.set_cons_zero, List.drop_succ_cons, List.drop_zero]
    rw [show gv 14 = .int .i64 tr from hV 0 14 (by kernel_rfl)]
    rw [show gv 15 = .int .i64 tk from hV 1 15 (by kernel_rfl)]
    clear hV
    refine l_call (o := ⟨some 16, _, _, _, _, _⟩) 9 #[.int .i64 tr, .int .i64 tk] rfl (exec_call 9 _ [.tmp 14, .tmp 15] _ _ Try.func9 (by kernel_rfl) (by kernel_rfl) rfl (by kernel_rfl) _) ?_
    refine (lnew_no tr tk HW.out w0).mono ?_
    rintro e w1 ⟨v1, rfl, e1, k1⟩
    obtain rfl : v1 = .tuple #[.pointer none, .int .i64 1] := e1
    refine ⟨_, rfl, ?_⟩
    simp only [Act.put, List.setIfInBounds_toArray, List.set_cons_succ, List.set_cons_zero]
    refine l_val (o := ⟨some 13, _, _, _, _, _⟩) (.tuple #[.pointer none, .int .i64 1]) rfl (exec_move (.tmp 16) (.tuple #[.pointer none, .int .i64 1]) rfl (by kernel_rfl)) ?_
    simp only [Act.put, List.setIfInBounds_toArray, List.set_cons_succ, List.set_cons_zero]
    refine l_val (o := ⟨some 17, _, _, _, _, _⟩) (.pointer none) rfl (exec_extract (.tmp 13) [.pointer none, .int .i64 1] 0 (.pointer none) rfl (by kernel_rfl) rfl) ?_
    simp only [Act.put, List.setIfInBounds_toArray, List.set_cons_succ, List.set_cons_zero]
    refine l_val (o := ⟨some 18, _, _, _, _, _⟩) (.int .i64 1) rfl (exec_extract (.tmp 13) [.pointer none, .int .i64 1] 1 (.int .i64 1) rfl (by kernel_rfl) rfl) ?_
    simp only [Act.put, List.setIfInBounds_toArray, List.set_cons_succ, List.set_cons_zero]
    refine l_val (o := ⟨some 7, _, _, _, _, _⟩) (.pointer none) rfl (exec_assign (.tmp 17) (.pointer none) rfl (by kernel_rfl)) ?_
    simp only [Act.put, List.setIfInBounds_toArray, List.set_cons_succ, List.set_cons_zero]
    refine l_val (o := ⟨some 8, _, _, _, _, _⟩) (.int .i64 1) rfl (exec_assign (.tmp 18) (.int .i64 1) rfl (by kernel_rfl)) ?_
    simp only [Act.put, List.setIfInBounds_toArray, List.set_cons_succ, List.set_cons_zero]
    refine wpList_nil ?_
    go_upto_region 2 with fail
    refine wp_text 2 [.eq (.int .i64 tr), .eq (.int .i64 tk)] rfl (by kernel_rfl) ?_ ?_
    · refine sv 1 rfl rfl rfl (fun a u hE hD hk => exec_move (.tmp 0) _ rfl (hE 0 (.int .i64 tr) (by kernel_rfl) (by kernel_rfl))) ?_
      refine sv 2 rfl rfl rfl (fun a u hE hD hk => exec_move (.tmp 1) _ rfl (hE 1 (.int .i64 tk) (by kernel_rfl) (by kernel_rfl))) ?_
      exact fsteps_nil
    intro gv w2 hV k2
    rw [show dstsOf _ 2 = [20, 21] by kernel_rfl]
    simp only [List.foldl_cons, List.foldl_nil, List.setIfInBounds_toArray, List.set_cons_succ, List.set_cons_zero, List.drop_succ_cons, List.drop_zero]
    rw [show gv 20 = .int .i64 tr from hV 0 20 (by kernel_rfl)]
    rw [show gv 21 = .int .i64 tk from hV 1 21 (by kernel_rfl)]
    clear hV
    refine l_call (o := ⟨some 22, _, _, _, _, _⟩) 13 #[.int .i64 tr, .int .i64 tk] rfl (exec_call 13 _ [.tmp 20, .tmp 21] _ _ Try.func13 (by kernel_rfl) (by kernel_rfl) rfl (by kernel_rfl) _) ?_
    refine (rlnew_no tr tk HW.out w2).mono ?_
    rintro e w3 ⟨v3, rfl, e3, k3⟩
    obtain rfl : v3 = .tuple #[.pointer none, .int .i64 1] := e3
    refine ⟨_, rfl, ?_⟩
    simp only [Act.put, List.setIfInBounds_toArray, List.set_cons_succ, List.set_cons_zero]
    refine l_val (o := ⟨some 19, _, _, _, _, _⟩) (.tuple #[.pointer none, .int .i64 1]) rfl (exec_move (.tmp 22) (.tuple #[.pointer none, .int .i64 1]) rfl (by kernel_rfl)) ?_
    simp only [Act.put, List.setIfInBounds_toArray, List.set_cons_succ, List.set_cons_zero]
    refine l_val (o := ⟨some 23, _, _, _, _, _⟩) (.pointer none) rfl (exec_extract (.tmp 19) [.pointer none, .int .i64 1] 0 (.pointer none) rfl (by kernel_rfl) rfl) ?_
    simp only [Act.put, List.setIfInBounds_toArray, List.set_cons_succ, List.set_cons_zero]
    refine l_val (o := ⟨some 24, _, _, _, _, _⟩) (.int .i64 1) rfl (exec_extract (.tmp 19) [.pointer none, .int .i64 1] 1 (.int .i64 1) rfl (by kernel_rfl) rfl) ?_
    simp only [Act.put, List.setIfInBounds_toArray, List.set_cons_succ, List.set_cons_zero]
    refine l_val (o := ⟨some 9, _, _, _, _, _⟩) (.pointer none) rfl (exec_assign (.tmp 23) (.pointer none) rfl (by kernel_rfl)) ?_
    simp only [Act.put, List.setIfInBounds_toArray, List.set_cons_succ, List.set_cons_zero]
    refine l_val (o := ⟨some 10, _, _, _, _, _⟩) (.int .i64 1) rfl (exec_assign (.tmp 24) (.int .i64 1) rfl (by kernel_rfl)) ?_
    simp only [Act.put, List.setIfInBounds_toArray, List.set_cons_succ, List.set_cons_zero]
    refine wpList_nil ?_
    have kw3 := ((k0.trans k1).trans k2).trans k3
    clear k0 k1 k2 k3
    go_upto_region 3 with fail
    refine wp_text 10 [.eq (.pointer none), .eq (.bool true), .eq (.pointer none), .eq (.bool true), .eq (.bool false), .eq (.bool false), .eq (.int .i64 1), .eq (.int .i64 1), .eq (.bool false), .eq (.bool false)] rfl (by kernel_rfl) ?_ ?_
    · refine sv 1 rfl rfl rfl (fun a u hE hD hk => exec_move (.tmp 7) _ rfl (hE 7 (.pointer none) (by kernel_rfl) (by kernel_rfl))) ?_
      refine sv 2 rfl rfl rfl (fun a u hE hD hk => exec_eqPn (.tmp 25) _ _ (by kernel_rfl) rfl (hD 0 25 (by kernel_rfl))) ?_
      refine sv 3 rfl rfl rfl (fun a u hE hD hk => exec_move (.tmp 9) _ rfl (hE 9 (.pointer none) (by kernel_rfl) (by kernel_rfl))) ?_
      refine sv 4 rfl rfl rfl (fun a u hE hD hk => exec_eqPn (.tmp 27) _ _ (by kernel_rfl) rfl (hD 2 27 (by kernel_rfl))) ?_
      refine sv 5 rfl rfl rfl (fun a u hE hD hk => exec_neb (.tmp 26) (.tmp 28) _ true true false rfl (hD 1 26 (by kernel_rfl)) (hD 3 28 (by kernel_rfl)) rfl) ?_
      refine sv 6 rfl rfl rfl (fun a u hE hD hk => exec_move (.tmp 29) _ rfl (hD 4 29 (by kernel_rfl))) ?_
      refine fsteps_cons 7 rfl (fun a u hE hD hk => f_val (o := ⟨some 31, _, _, _, _, _⟩) (.int .i64 1) rfl (wanted_at (b := false) false rfl rfl (hD 5 30 (by kernel_rfl))) (exec_move (.tmp 8) _ rfl (hE 8 (.int .i64 1) (by kernel_rfl) (by kernel_rfl))) rfl) ?_
      refine fsteps_cons 8 rfl (fun a u hE hD hk => f_val (o := ⟨some 32, _, _, _, _, _⟩) (.int .i64 1) rfl (wanted_at (b := false) false rfl rfl (hD 5 30 (by kernel_rfl))) (exec_move (.tmp 10) _ rfl (hE 10 (.int .i64 1) (by kernel_rfl) (by kernel_rfl))) rfl) ?_
      refine fsteps_cons 9 rfl (fun a u hE hD hk => f_as (show ((decide ((1 : Int) ≠ (1 : Int))) : Bool) = false from decide_eq_false (by omega)) (f_val (o := ⟨some 33, _, _, _, _, _⟩) (.bool (decide ((1 : Int) ≠ (1 : Int)))) rfl (wanted_at (b := false) false rfl rfl (hD 5 30 (by kernel_rfl))) (exec_nen (p := 1) (q := 1) rfl (hD 6 31 (by kernel_rfl)) (hD 7 32 (by kernel_rfl))) rfl)) ?_
      refine sv 10 rfl rfl rfl (fun a u hE hD hk => exec_pickF (.tmp 30) (.const (.bool true)) (.tmp 33) (.bool false) rfl (hD 5 30 (by kernel_rfl)) (hD 8 33 (by kernel_rfl))) ?_
      exact fsteps_nil
    intro gv w4 hV k4
    rw [show dstsOf _ 10 = [25, 26, 27, 28, 29, 30, 31, 32, 33, 34] by kernel_rfl]
    simp only [List.foldl_cons, List.foldl_nil, List.setIfInBounds_toArray, List.set_cons_succ, List.set_cons_zero, List.drop_succ_cons, List.drop_zero]
    rw [show gv 34 = .bool false from hV 9 34 (by kernel_rfl)]
    clear hV
    refine wpList_nil ?_
    have kw4 := kw3.trans k4
    clear kw3 k4
    go_wp2_with fail
    go_loopw [11] (fun t wr => t = .int .i64 0 ∧ Kept w wr) (fun t _ => 0)
    case atStart => exact ⟨rfl, kw4⟩
    case round =>
      obtain ⟨rfl, kwr⟩ := hrel
      clear kw4
      go_upto_region 6 with fail
      refine wp_text 12 [.eq (.int .i64 0), .eq (.slice A n c), .eq (.int .i64 (n : Int)), .eq (.bool (decide ((0 : Int) < ((n : Int) : Int)))), .eq (.bool (decide ((0 : Int) < ((n : Int) : Int)))), .cond (decide ((0 : Int) < ((n : Int) : Int))) (.eq (.int .i64 0)), .cond (decide ((0 : Int) < ((n : Int) : Int))) (.eq (.bool (decide ((0 : Int) < (60 : Int))))), .eq (.bool ((decide ((0 : Int) < ((n : Int) : Int))) && (decide ((0 : Int) < (60 : Int))))), .eq (.bool ((decide ((0 : Int) < ((n : Int) : Int))) && (decide ((0 : Int) < (60 : Int))))), .cond ((decide ((0 : Int) < ((n : Int) : Int))) && (decide ((0 : Int) < (60 : Int)))) (.eq (.pointer none)), .cond ((decide ((0 : Int) < ((n : Int) : Int))) && (decide ((0 : Int) < (60 : Int)))) (.eq (.bool false)), .eq (.bool false)] rfl (by kernel_rfl) ?_ ?_
      · refine sv 1 rfl rfl rfl (fun a u hE hD hk => exec_move (.tmp 11) _ rfl (hE 11 (.int .i64 0) (by kernel_rfl) (by kernel_rfl))) ?_
        refine sv 2 rfl rfl rfl (fun a u hE hD hk => exec_move (.tmp 2) _ rfl (hE 2 (.slice A n c) (by kernel_rfl) (by kernel_rfl))) ?_
        refine sv 3 rfl rfl rfl (fun a u hE hD hk => exec_len (.tmp 36) _ _ slKq2.und A n c rfl (hD 1 36 (by kernel_rfl))) ?_
        refine sv 4 rfl rfl rfl (fun a u hE hD hk => exec_ltn (p := 0) (q := (n : Int)) rfl (hD 0 35 (by kernel_rfl)) (hD 2 37 (by kernel_rfl))) ?_
        refine sv 5 rfl rfl rfl (fun a u hE hD hk => exec_move (.tmp 38) _ rfl (hD 3 38 (by kernel_rfl))) ?_
        refine fsteps_cons 6 rfl (fun a u hE hD hk => f_if ((decide ((0 : Int) < ((n : Int) : Int)))) rfl rfl rfl (hD 4 39 (by kernel_rfl)) (fun hb => f_val (o := ⟨some 40, _, _, _, _, _⟩) (.int .i64 0) rfl (wanted_b rfl rfl (hD 4 39 (by kernel_rfl)) (eq_true_of hb)) (exec_move (.tmp 11) _ rfl (hE 11 (.int .i64 0) (by kernel_rfl) (by kernel_rfl))) rfl)) ?_
        refine fsteps_cons 7 rfl (fun a u hE hD hk => f_if ((decide ((0 : Int) < ((n : Int) : Int)))) rfl rfl rfl (hD 4 39 (by kernel_rfl)) (fun hb => f_val (o := ⟨some 41, _, _, _, _, _⟩) (.bool (decide ((0 : Int) < (60 : Int)))) rfl (wanted_b rfl rfl (hD 4 39 (by kernel_rfl)) (eq_true_of hb)) (exec_ltn (p := 0) (q := 60) rfl ((hD 5 40 (by kernel_rfl)).1 hb) rfl) rfl)) ?_
        refine sv 8 rfl rfl rfl (fun a u hE hD hk => exec_pickand (.tmp 39) (.tmp 41) (.const (.bool false)) ((decide ((0 : Int) < ((n : Int) : Int)))) ((decide ((0 : Int) < (60 : Int)))) rfl (hD 4 39 (by kernel_rfl)) (fun hb2 => ((hD 6 41 (by kernel_rfl)).1 hb2)) rfl) ?_
        refine sv 9 rfl rfl rfl (fun a u hE hD hk => exec_move (.tmp 42) _ rfl (hD 7 42 (by kernel_rfl))) ?_
        refine fsteps_cons 10 rfl (fun a u hE hD hk => f_if (((decide ((0 : Int) < ((n : Int) : Int))) && (decide ((0 : Int) < (60 : Int))))) rfl rfl rfl (hD 8 43 (by kernel_rfl)) (fun hb => f_val (o := ⟨some 44, _, _, _, _, _⟩) (.pointer none) rfl (wanted_b rfl rfl (hD 8 43 (by kernel_rfl)) (eq_true_of hb)) (exec_move (.tmp 7) _ rfl (hE 7 (.pointer none) (by kernel_rfl) (by kernel_rfl))) rfl)) ?_
        refine fsteps_cons 11 rfl (fun a u hE hD hk => f_if (((decide ((0 : Int) < ((n : Int) : Int))) && (decide ((0 : Int) < (60 : Int))))) rfl rfl rfl (hD 8 43 (by kernel_rfl)) (fun hb => f_val (o := ⟨some 45, _, _, _, _, _⟩) (.bool false) rfl (wanted_b rfl rfl (hD 8 43 (by kernel_rfl)) (eq_true_of hb)) (exec_nePn (.tmp 44) _ _ (by kernel_rfl) rfl ((hD 9 44 (by kernel_rfl)).1 hb)) rfl)) ?_
        refine fsteps_cons 12 rfl (fun a u hE hD hk => f_as (show ((((decide ((0 : Int) < ((n : Int) : Int))) && (decide ((0 : Int) < (60 : Int)))) && false) : Bool) = false from Bool.and_false _) (f_val (o := ⟨some 46, _, _, _, _, _⟩) (.bool (((decide ((0 : Int) < ((n : Int) : Int))) && (decide ((0 : Int) < (60 : Int)))) && false)) rfl (wanted_none rfl _) (exec_pickand (.tmp 43) (.tmp 45) (.const (.bool false)) (((decide ((0 : Int) < ((n : Int) : Int))) && (decide ((0 : Int) < (60 : Int))))) (false) rfl (hD 8 43 (by kernel_rfl)) (fun hb2 => ((hD 10 45 (by kernel_rfl)).1 hb2)) rfl) rfl)) ?_
        exact fsteps_nil
      intro gv w5 hV k5
      rw [show dstsOf _ 12 = [35, 36, 37, 38, 39, 40, 41, 42, 43, 44, 45, 46] by kernel_rfl]
      simp only [List.foldl_cons, List.foldl_nil, List.setIfInBounds_toArray, List.set_cons_succ, List.set_cons_zero, List.drop_succ_cons, List.drop_zero]
      rw [show gv 46 = .bool false from hV 11 46 (by kernel_rfl)]
      clear hV
      refine wpList_nil ?_
      go_upto_region 18 with fail
      refine wp_text 2 [.eq (.bool true), .eq (.bool true)] rfl (by kernel_rfl) ?_ ?_
      · refine fsteps_cons 1 rfl (fun a u hE hD hk => f_call (o := ⟨some 101, _, _, _, _, _⟩) 3 #[] rfl (wanted_none rfl _) (exec_call 3 _ [] _ [] Try.func3 (by kernel_rfl) (by kernel_rfl) rfl rfl u) (lockRuns_is u)) ?_
        refine sv 2 rfl rfl rfl (fun a u hE hD hk => exec_assign (.tmp 101) _ rfl (hD 0 101 (by kernel_rfl))) ?_
        exact fsteps_nil
      intro gv w6 hV k6
      rw [show dstsOf _ 2 = [101, 6] by kernel_rfl]
      simp only [List.foldl_cons, List.foldl_nil, List.setIfInBounds_toArray, List.set_cons_succ, List.set_cons_zero, List.drop_succ_cons, List.drop_zero]
      rw [show gv 6 = .bool true from hV 1 6 (by kernel_rfl)]
      clear hV
      refine wpList_nil ?_
      have kw6 := (kwr.trans k5).trans k6
      go_wp2
      go_ret
      exact ⟨rfl, kw6⟩
  | true =>
    have HW := Lib.hid hN
    have HF := Lib.hid (lok_ok hN)
    have hF1 := (lok_ok hN).n0
    clear hN
    go_enter Try.func4, Try.ntmps4
    go_upto_region 1 with fail
    refine wp_text 2 [.eq (.int .i64 tr), .eq (.int .i64 tk)] rfl (by kernel_rfl) ?_ ?_
    · refine sv 1 rfl rfl rfl (fun a u hE hD hk => exec_move (.tmp 0) _ rfl (hE 0 (.int .i64 tr) (by kernel_rfl) (by kernel_rfl))) ?_
      refine sv 2 rfl rfl rfl (fun a u hE hD hk => exec_move (.tmp 1) _ rfl (hE 1 (.int .i64 tk) (by kernel_rfl) (by kernel_rfl))) ?_
      exact fsteps_nil
    intro gv w0 hV k0
    rw [show dstsOf _ 2 = [14, 15] by kernel_rfl]
    simp only [List.foldl_cons, List.foldl_nil, List.setIfInBounds_toArray, List.set_cons_succ, List.set_cons_zero, List.drop_succ_cons, List.drop_zero]
    rw [show gv 14 = .int .i64 tr from hV 0 14 (by kernel_rfl)]
    rw [show gv 15 = .int .i64 tk from hV 1 15 (by kernel_rfl)]
    clear hV
    refine l_call (o := ⟨some 16, _, _, _, _, _⟩) 9 #[.int .i64 tr, .int .i64 tk] rfl (exec_call 9 _ [.tmp 14, .tmp 15] _ _ Try.func9 (by kernel_rfl) (by kernel_rfl) rfl (by kernel_rfl) _) ?_
    refine (lnew_yes tr tk HW.out w0).mono ?_
    rintro e w1 ⟨g, rfl, hg, hB1, k1⟩
    refine ⟨_, rfl, ?_⟩
    simp only [Act.put, List.setIfInBounds_toArray, List.set_cons_succ, List.set_cons_zero]
    refine l_val (o := ⟨some 13, _, _, _, _, _⟩) (.tuple #[.pointer (some ⟨g, 0, none⟩), .int .i64 0]) rfl (exec_move (.tmp 16) (.tuple #[.pointer (some ⟨g, 0, none⟩), .int .i64 0]) rfl (by kernel_rfl)) ?_
    simp only [Act.put, List.setIfInBounds_toArray, List.set_cons_succ, List.set_cons_zero]
    refine l_val (o := ⟨some 17, _, _, _, _, _⟩) (.pointer (some ⟨g, 0, none⟩)) rfl (exec_extract (.tmp 13) [.pointer (some ⟨g, 0, none⟩), .int .i64 0] 0 (.pointer (some ⟨g, 0, none⟩)) rfl (by kernel_rfl) rfl) ?_
    simp only [Act.put, List.setIfInBounds_toArray, List.set_cons_succ, List.set_cons_zero]
    refine l_val (o := ⟨some 18, _, _, _, _, _⟩) (.int .i64 0) rfl (exec_extract (.tmp 13) [.pointer (some ⟨g, 0, none⟩), .int .i64 0] 1 (.int .i64 0) rfl (by kernel_rfl) rfl) ?_
    simp only [Act.put, List.setIfInBounds_toArray, List.set_cons_succ, List.set_cons_zero]
    refine l_val (o := ⟨some 7, _, _, _, _, _⟩) (.pointer (some ⟨g, 0, none⟩)) rfl (exec_assign (.tmp 17) (.pointer (some ⟨g, 0, none⟩)) rfl (by kernel_rfl)) ?_
    simp only [Act.put, List.setIfInBounds_toArray, List.set_cons_succ, List.set_cons_zero]
    refine l_val (o := ⟨some 8, _, _, _, _, _⟩) (.int .i64 0) rfl (exec_assign (.tmp 18) (.int .i64 0) rfl (by kernel_rfl)) ?_
    simp only [Act.put, List.setIfInBounds_toArray, List.set_cons_succ, List.set_cons_zero]
    refine wpList_nil ?_
    go_upto_region 2 with fail
    refine wp_text 2 [.eq (.int .i64 tr), .eq (.int .i64 tk)] rfl (by kernel_rfl) ?_ ?_
    · refine sv 1 rfl rfl rfl (fun a u hE hD hk => exec_move (.tmp 0) _ rfl (hE 0 (.int .i64 tr) (by kernel_rfl) (by kernel_rfl))) ?_
      refine sv 2 rfl rfl rfl (fun a u hE hD hk => exec_move (.tmp 1) _ rfl (hE 1 (.int .i64 tk) (by kernel_rfl) (by kernel_rfl))) ?_
      exact fsteps_nil
    intro gv w2 hV k2
    rw [show dstsOf _ 2 = [20, 21] by kernel_rfl]
    simp only [List.foldl_cons, List.foldl_nil, List.setIfInBounds_toArray, List.set_cons_succ, List.set_cons_zero, List.drop_succ_cons, List.drop_zero]
    rw [show gv 20 = .int .i64 tr from hV 0 20 (by kernel_rfl)]
    rw [show gv 21 = .int .i64 tk from hV 1 21 (by kernel_rfl)]
    clear hV
    refine l_call (o := ⟨some 22, _, _, _, _, _⟩) 13 #[.int .i64 tr, .int .i64 tk] rfl (exec_call 13 _ [.tmp 20, .tmp 21] _ _ Try.func13 (by kernel_rfl) (by kernel_rfl) rfl (by kernel_rfl) _) ?_
    refine (rlnew_yes tr tk HW.out w2).mono ?_
    rintro e w3 ⟨r, rfl, hr, hR3, k3⟩
    refine ⟨_, rfl, ?_⟩
    simp only [Act.put, List.setIfInBounds_toArray, List.set_cons_succ, List.set_cons_zero]
    refine l_val (o := ⟨some 19, _, _, _, _, _⟩) (.tuple #[.pointer (some ⟨r, 0, none⟩), .int .i64 0]) rfl (exec_move (.tmp 22) (.tuple #[.pointer (some ⟨r, 0, none⟩), .int .i64 0]) rfl (by kernel_rfl)) ?_
    simp only [Act.put, List.setIfInBounds_toArray, List.set_cons_succ, List.set_cons_zero]
    refine l_val (o := ⟨some 23, _, _, _, _, _⟩) (.pointer (some ⟨r, 0, none⟩)) rfl (exec_extract (.tmp 19) [.pointer (some ⟨r, 0, none⟩), .int .i64 0] 0 (.pointer (some ⟨r, 0, none⟩)) rfl (by kernel_rfl) rfl) ?_
    simp only [Act.put, List.setIfInBounds_toArray, List.set_cons_succ, List.set_cons_zero]
    refine l_val (o := ⟨some 24, _, _, _, _, _⟩) (.int .i64 0) rfl (exec_extract (.tmp 19) [.pointer (some ⟨r, 0, none⟩), .int .i64 0] 1 (.int .i64 0) rfl (by kernel_rfl) rfl) ?_
    simp only [Act.put, List.setIfInBounds_toArray, List.set_cons_succ, List.set_cons_zero]
    refine l_val (o := ⟨some 9, _, _, _, _, _⟩) (.pointer (some ⟨r, 0, none⟩)) rfl (exec_assign (.tmp 23) (.pointer (some ⟨r, 0, none⟩)) rfl (by kernel_rfl)) ?_
    simp only [Act.put, List.setIfInBounds_toArray, List.set_cons_succ, List.set_cons_zero]
    refine l_val (o := ⟨some 10, _, _, _, _, _⟩) (.int .i64 0) rfl (exec_assign (.tmp 24) (.int .i64 0) rfl (by kernel_rfl)) ?_
    simp only [Act.put, List.setIfInBounds_toArray, List.set_cons_succ, List.set_cons_zero]
    refine wpList_nil ?_
    have zg := hB1.lt
    have z0 := k0.size
    have z1 := k1.size
    have z2 := k2.size
    have kw3 := ((k0.trans k1).trans k2).trans k3
    have HB3 := Lib.hid ((hB1.kept k2).kept k3)
    have HR3 := Lib.hid hR3
    have hgr : ¬ g = r := by omega
    have hg1 : w.heap.size ≤ g := by omega
    have hr1 : w.heap.size ≤ r := by omega
    clear hB1 hR3 k0 k1 k2 k3 HW z0 z1 z2 zg hg hr
    go_upto_region 3 with fail
    refine wp_text 10 [.eq (.pointer (some ⟨g, 0, none⟩)), .eq (.bool false), .eq (.pointer (some ⟨r, 0, none⟩)), .eq (.bool false), .eq (.bool false), .eq (.bool false), .eq (.int .i64 0), .eq (.int .i64 0), .eq (.bool false), .eq (.bool false)] rfl (by kernel_rfl) ?_ ?_
    · refine sv 1 rfl rfl rfl (fun a u hE hD hk => exec_move (.tmp 7) _ rfl (hE 7 (.pointer (some ⟨g, 0, none⟩)) (by kernel_rfl) (by kernel_rfl))) ?_
      refine sv 2 rfl rfl rfl (fun a u hE hD hk => exec_eqP (.tmp 25) _ _ ⟨g, 0, none⟩ (by kernel_rfl) rfl (hD 0 25 (by kernel_rfl))) ?_
      refine sv 3 rfl rfl rfl (fun a u hE hD hk => exec_move (.tmp 9) _ rfl (hE 9 (.pointer (some ⟨r, 0, none⟩)) (by kernel_rfl) (by kernel_rfl))) ?_
      refine sv 4 rfl rfl rfl (fun a u hE hD hk => exec_eqP (.tmp 27) _ _ ⟨r, 0, none⟩ (by kernel_rfl) rfl (hD 2 27 (by kernel_rfl))) ?_
      refine sv 5 rfl rfl rfl (fun a u hE hD hk => exec_neb (.tmp 26) (.tmp 28) _ false false false rfl (hD 1 26 (by kernel_rfl)) (hD 3 28 (by kernel_rfl)) rfl) ?_
      refine sv 6 rfl rfl rfl (fun a u hE hD hk => exec_move (.tmp 29) _ rfl (hD 4 29 (by kernel_rfl))) ?_
      refine fsteps_cons 7 rfl (fun a u hE hD hk => f_val (o := ⟨some 31, _, _, _, _, _⟩) (.int .i64 0) rfl (wanted_at (b := false) false rfl rfl (hD 5 30 (by kernel_rfl))) (exec_move (.tmp 8) _ rfl (hE 8 (.int .i64 0) (by kernel_rfl) (by kernel_rfl))) rfl) ?_
      refine fsteps_cons 8 rfl (fun a u hE hD hk => f_val (o := ⟨some 32, _, _, _, _, _⟩) (.int .i64 0) rfl (wanted_at (b := false) false rfl rfl (hD 5 30 (by kernel_rfl))) (exec_move (.tmp 10) _ rfl (hE 10 (.int .i64 0) (by kernel_rfl) (by kernel_rfl))) rfl) ?_
      refine fsteps_cons 9 rfl (fun a u hE hD hk => f_as (show ((decide ((0 : Int) ≠ (0 : Int))) : Bool) = false from decide_eq_false (by omega)) (f_val (o := ⟨some 33, _, _, _, _, _⟩) (.bool (decide ((0 : Int) ≠ (0 : Int)))) rfl (wanted_at (b := false) false rfl rfl (hD 5 30 (by kernel_rfl))) (exec_nen (p := 0) (q := 0) rfl (hD 6 31 (by kernel_rfl)) (hD 7 32 (by kernel_rfl))) rfl)) ?_
      refine sv 10 rfl rfl rfl (fun a u hE hD hk => exec_pickF (.tmp 30) (.const (.bool true)) (.tmp 33) (.bool false) rfl (hD 5 30 (by kernel_rfl)) (hD 8 33 (by kernel_rfl))) ?_
      exact fsteps_nil
    intro gv w4 hV k4
    rw [show dstsOf _ 10 = [25, 26, 27, 28, 29, 30, 31, 32, 33, 34] by kernel_rfl]
    simp only [List.foldl_cons, List.foldl_nil, List.setIfInBounds_toArray, List.set_cons_succ, List.set_cons_zero, List.drop_succ_cons, List.drop_zero]
    rw [show gv 34 = .bool false from hV 9 34 (by kernel_rfl)]
    clear hV
    refine wpList_nil ?_
    have kw4 := kw3.trans k4
    have HB4 := Lib.hid (HB3.out.kept k4)
    have HR4 := Lib.hid (HR3.out.kept k4)
    clear kw3 k4 HB3 HR3
    generalize Lok.none_ tr tk = B0 at HB4 HR4 HF hF1
    have HK4 : Hid (Lok.Like B0 B0) := ⟨rfl, rfl, rfl, fun _ => rfl⟩
    go_wp2_with fail
    go_loopw [11] (fun t wr => ∃ (k : Nat) (B R : Lok), t = .int .i64 (k : Int) ∧ k ≤ 60 ∧ k ≤ n ∧ Hid (Blk wr g 46 B.cells) ∧ Hid (Blk wr r 38 R.cells) ∧ Hid B.Ok ∧ Hid R.Ok ∧ Hid (Lok.Like B R) ∧ Kept w wr) (fun t _ => 60 - (intOf t).toNat)
    case atStart => exact ⟨0, B0, B0, rfl, by omega, by omega, HB4, HR4, HF, HF, HK4, kw4⟩
    case round =>
      obtain ⟨k, B, R, rfl, hk60, hkn, HBr, HRr, HI, HJ, HK, kwr⟩ := hrel
      clear HB4 HR4 HF HK4 kw4 hF1
      by_cases hlt : k < n ∧ k < 60
      · obtain ⟨hin', hk6⟩ := hlt
        have hil : k < l.length := by rw [HN.out]; exact hin'
        obtain ⟨q, hq⟩ : ∃ q, l[k]? = some q := ⟨_, List.getElem?_eq_getElem hil⟩
        obtain ⟨A', n', c', e1, _, _, _, h4⟩ := HA.out
        injection e1 with e1 e2 e3
        subst e1 e2 e3
        obtain ⟨ga, off, rfl, hr⟩ := h4 k q hq
        have HE := Lib.hid (range_kept hr kwr)
        clear h4 hr hq hil
        obtain ⟨m, hm_⟩ : ∃ m, wi q.m 0 1099511627775 = m := ⟨_, rfl⟩
        have hmi := wi_in q.m 0 1099511627775 (by omega)
        rw [hm_] at hmi
        obtain ⟨m0, m1⟩ := hmi
        have HM := Lib.hid hm_
        clear hm_
        go_upto_region 6 with fail
        refine wp_text 12 [.eq (.int .i64 (k : Int)), .eq (.slice (some ⟨ga, off, none⟩) n c), .eq (.int .i64 (n : Int)), .eq (.bool true), .eq (.bool true), .eq (.int .i64 (k : Int)), .eq (.bool true), .eq (.bool true), .eq (.bool true), .eq (.pointer (some ⟨g, 0, none⟩)), .eq (.bool true), .eq (.bool true)] rfl (by kernel_rfl) ?_ ?_
        · refine sv 1 rfl rfl rfl (fun a u hE hD hk => exec_move (.tmp 11) _ rfl (hE 11 (.int .i64 (k : Int)) (by kernel_rfl) (by kernel_rfl))) ?_
          refine sv 2 rfl rfl rfl (fun a u hE hD hk => exec_move (.tmp 2) _ rfl (hE 2 (.slice (some ⟨ga, off, none⟩) n c) (by kernel_rfl) (by kernel_rfl))) ?_
          refine sv 3 rfl rfl rfl (fun a u hE hD hk => exec_len (.tmp 36) _ _ slKq2.und (some ⟨ga, off, none⟩) n c rfl (hD 1 36 (by kernel_rfl))) ?_
          refine fsteps_cons 4 rfl (fun a u hE hD hk => f_as (show ((decide (((k : Int) : Int) < ((n : Int) : Int))) : Bool) = true from decide_eq_true (by omega)) (f_val (o := ⟨some 38, _, _, _, _, _⟩) (.bool (decide (((k : Int) : Int) < ((n : Int) : Int)))) rfl (wanted_none rfl _) (exec_ltn (p := (k : Int)) (q := (n : Int)) rfl (hD 0 35 (by kernel_rfl)) (hD 2 37 (by kernel_rfl))) rfl)) ?_
          refine sv 5 rfl rfl rfl (fun a u hE hD hk => exec_move (.tmp 38) _ rfl (hD 3 38 (by kernel_rfl))) ?_
          refine fsteps_cons 6 rfl (fun a u hE hD hk => f_val (o := ⟨some 40, _, _, _, _, _⟩) (.int .i64 (k : Int)) rfl (wanted_at (b := true) true rfl rfl (hD 4 39 (by kernel_rfl))) (exec_move (.tmp 11) _ rfl (hE 11 (.int .i64 (k : Int)) (by kernel_rfl) (by kernel_rfl))) rfl) ?_
          refine fsteps_cons 7 rfl (fun a u hE hD hk => f_as (show ((decide (((k : Int) : Int) < (60 : Int))) : Bool) = true from decide_eq_true (by omega)) (f_val (o := ⟨some 41, _, _, _, _, _⟩) (.bool (decide (((k : Int) : Int) < (60 : Int)))) rfl (wanted_at (b := true) true rfl rfl (hD 4 39 (by kernel_rfl))) (exec_ltn (p := (k : Int)) (q := 60) rfl (hD 5 40 (by kernel_rfl)) rfl) rfl)) ?_
          refine sv 8 rfl rfl rfl (fun a u hE hD hk => exec_pick (.tmp 39) (.tmp 41) (.const (.bool false)) (.bool true) rfl (hD 4 39 (by kernel_rfl)) (hD 6 41 (by kernel_rfl))) ?_
          refine sv 9 rfl rfl rfl (fun a u hE hD hk => exec_move (.tmp 42) _ rfl (hD 7 42 (by kernel_rfl))) ?_
          refine fsteps_cons 10 rfl (fun a u hE hD hk => f_val (o := ⟨some 44, _, _, _, _, _⟩) (.pointer (some ⟨g, 0, none⟩)) rfl (wanted_at (b := true) true rfl rfl (hD 8 43 (by kernel_rfl))) (exec_move (.tmp 7) _ rfl (hE 7 (.pointer (some ⟨g, 0, none⟩)) (by kernel_rfl) (by kernel_rfl))) rfl) ?_
          refine fsteps_cons 11 rfl (fun a u hE hD hk => f_val (o := ⟨some 45, _, _, _, _, _⟩) (.bool true) rfl (wanted_at (b := true) true rfl rfl (hD 8 43 (by kernel_rfl))) (exec_neP (.tmp 44) _ _ ⟨g, 0, none⟩ (by kernel_rfl) rfl (hD 9 44 (by kernel_rfl))) rfl) ?_
          refine sv 12 rfl rfl rfl (fun a u hE hD hk => exec_pick (.tmp 43) (.tmp 45) (.const (.bool false)) (.bool true) rfl (hD 8 43 (by kernel_rfl)) (hD 10 45 (by kernel_rfl))) ?_
          exact fsteps_nil
        intro gv w5 hV k5
        rw [show dstsOf _ 12 = [35, 36, 37, 38, 39, 40, 41, 42, 43, 44, 45, 46] by kernel_rfl]
        simp only [List.foldl_cons, List.foldl_nil, List.setIfInBounds_toArray, List.set_cons_succ, List.set_cons_zero, List.drop_succ_cons, List.drop_zero]
        rw [show gv 46 = .bool true from hV 11 46 (by kernel_rfl)]
        clear hV
        refine wpList_nil ?_
        have HE5 := Lib.hid (range_kept HE.out k5)
        clear HE
        go_upto_region 8 with fail
        refine wp_text 7 [.eq (.slice (some ⟨ga, off, none⟩) n c), .eq (.int .i64 (k : Int)), .eq (.pointer (some ⟨ga, off + k * 2, none⟩)), .eq (.pointer (some ⟨ga, off + k * 2 + 1, none⟩)), .eq (.int .i64 q.m), .eq (.int .i64 m), .eq (.int .i64 m)] rfl (by kernel_rfl) ?_ ?_
        · refine sv 1 rfl rfl rfl (fun a u hE hD hk => exec_move (.tmp 2) _ rfl (hE 2 (.slice (some ⟨ga, off, none⟩) n c) (by kernel_rfl) (by kernel_rfl))) ?_
          refine sv 2 rfl rfl rfl (fun a u hE hD hk => exec_move (.tmp 11) _ rfl (hE 11 (.int .i64 (k : Int)) (by kernel_rfl) (by kernel_rfl))) ?_
          refine sv 3 rfl rfl rfl (fun a u hE hD hk => exec_ixo slKq2 (.tmp 49) (.tmp 50) (ga) (off) n c k (off + k * 2) ((k : Int)) rfl (hD 0 49 (by kernel_rfl)) (hD 1 50 (by kernel_rfl)) (by first | rfl | omega) (hin') (by first | rfl | omega)) ?_
          refine sv 4 rfl rfl rfl (fun a u hE hD hk => exec_fldo 36 1 1 (.tmp 51) (ga) (off + k * 2) (off + k * 2 + 1) rfl (hD 2 51 (by kernel_rfl)) (by kernel_rfl) rfl) ?_
          refine sv 5 rfl rfl rfl (fun a u hE hD hk => exec_loadi 3 Try.underlying3 (.tmp 52) ⟨ga, off + k * 2 + 1, none⟩ (.int .i64 q.m) rfl (hD 3 52 (by kernel_rfl)) (range_int (range_kept HE5.out hk) 1 _ rfl)) ?_
          refine fsteps_cons 6 rfl (fun a u hE hD hk => f_call (o := ⟨some 54, _, _, _, _, _⟩) 14 #[.int .i64 q.m, .int .i64 0, .int .i64 1099511627775] rfl (wanted_none rfl _) (exec_call 14 _ [.tmp 53, .const (.int .i64 0), .const (.int .i64 1099511627775)] _ [.int .i64 q.m, .int .i64 0, .int .i64 1099511627775] Try.func14 (by kernel_rfl) (by kernel_rfl) rfl (show [a.eval (.tmp 53), a.eval (.const (.int .i64 0)), a.eval (.const (.int .i64 1099511627775))] = [.int .i64 q.m, .int .i64 0, .int .i64 1099511627775] from (by rw [show a.eval (.tmp 53) = .int .i64 q.m from (hD 4 53 (by kernel_rfl))] <;> rfl)) u) (by rw [← HM.out]; exact within_is q.m 0 1099511627775 u (by omega) (by omega) (by omega))) ?_
          refine sv 7 rfl rfl rfl (fun a u hE hD hk => exec_assign (.tmp 54) _ rfl (hD 5 54 (by kernel_rfl))) ?_
          exact fsteps_nil
        intro gv w6 hV k6
        rw [show dstsOf _ 7 = [49, 50, 51, 52, 53, 54, 12] by kernel_rfl]
        simp only [List.foldl_cons, List.foldl_nil, List.setIfInBounds_toArray, List.set_cons_succ, List.set_cons_zero, List.drop_succ_cons, List.drop_zero]
        rw [show gv 12 = .int .i64 m from hV 6 12 (by kernel_rfl)]
        clear hV
        refine wpList_nil ?_
        have HE6 := Lib.hid (range_kept HE5.out k6)
        clear HE5
        go_upto_region 9 with fail
        refine wp_text 5 [.eq (.slice (some ⟨ga, off, none⟩) n c), .eq (.int .i64 (k : Int)), .eq (.pointer (some ⟨ga, off + k * 2, none⟩)), .eq (.pointer (some ⟨ga, off + k * 2, none⟩)), .eq (.int .i64 q.k)] rfl (by kernel_rfl) ?_ ?_
        · refine sv 1 rfl rfl rfl (fun a u hE hD hk => exec_move (.tmp 2) _ rfl (hE 2 (.slice (some ⟨ga, off, none⟩) n c) (by kernel_rfl) (by kernel_rfl))) ?_
          refine sv 2 rfl rfl rfl (fun a u hE hD hk => exec_move (.tmp 11) _ rfl (hE 11 (.int .i64 (k : Int)) (by kernel_rfl) (by kernel_rfl))) ?_
          refine sv 3 rfl rfl rfl (fun a u hE hD hk => exec_ixo slKq2 (.tmp 55) (.tmp 56) (ga) (off) n c k (off + k * 2) ((k : Int)) rfl (hD 0 55 (by kernel_rfl)) (hD 1 56 (by kernel_rfl)) (by first | rfl | omega) (hin') (by first | rfl | omega)) ?_
          refine sv 4 rfl rfl rfl (fun a u hE hD hk => exec_fldo 36 0 0 (.tmp 57) (ga) (off + k * 2) (off + k * 2) rfl (hD 2 57 (by kernel_rfl)) (by kernel_rfl) rfl) ?_
          refine sv 5 rfl rfl rfl (fun a u hE hD hk => exec_loadi 3 Try.underlying3 (.tmp 58) ⟨ga, off + k * 2, none⟩ (.int .i64 q.k) rfl (hD 3 58 (by kernel_rfl)) (range_int (range_kept HE6.out hk) 0 _ rfl)) ?_
          exact fsteps_nil
        intro gv w7 hV k7
        rw [show dstsOf _ 5 = [55, 56, 57, 58, 59] by kernel_rfl]
        simp only [List.foldl_cons, List.foldl_nil, List.setIfInBounds_toArray, List.set_cons_succ, List.set_cons_zero, List.drop_succ_cons, List.drop_zero]
        rw [show gv 59 = .int .i64 q.k from hV 4 59 (by kernel_rfl)]
        clear hV
        refine wpList_nil ?_
        have k47 := (k5.trans k6).trans k7
        have HB7 := Lib.hid (HBr.out.kept k47)
        have HR7 := Lib.hid (HRr.out.kept k47)
        have kw7 := kwr.trans k47
        clear HBr HRr kwr k5 k6 k7 k47 HE6 HM
        by_cases h1 : q.k = 1
        · skip
          go_upto_region 10 with fail
          refine wp_text 2 [.eq (.bool true), .eq (.bool true)] rfl (by kernel_rfl) ?_ ?_
          · refine fsteps_cons 1 rfl (fun a u hE hD hk => f_as (show ((decide ((q.k : Int) = (1 : Int))) : Bool) = true from decide_eq_true h1) (f_val (o := ⟨some 61, _, _, _, _, _⟩) (.bool (decide ((q.k : Int) = (1 : Int)))) rfl (wanted_none rfl _) (exec_eqn (p := q.k) (q := 1) rfl (hE 59 (.int .i64 q.k) (by kernel_rfl) (by kernel_rfl)) rfl) rfl)) ?_
            refine sv 2 rfl rfl rfl (fun a u hE hD hk => exec_assign (.tmp 61) _ rfl (hD 0 61 (by kernel_rfl))) ?_
            exact fsteps_nil
          intro gv w8 hV kk
          rw [show dstsOf _ 2 = [61, 60] by kernel_rfl]
          simp only [List.foldl_cons, List.foldl_nil, List.setIfInBounds_toArray, List.set_cons_succ, List.set_cons_zero, List.drop_succ_cons, List.drop_zero]
          rw [show gv 60 = .bool true from hV 1 60 (by kernel_rfl)]
          clear hV
          refine wpList_nil ?_
          have HB8 := Lib.hid (HB7.out.kept kk)
          have HR8 := Lib.hid (HR7.out.kept kk)
          have kw8 := kw7.trans kk
          clear HB7 HR7 kw7 kk
          obtain ⟨B2, hB2⟩ : ∃ y, B.failM m = y := ⟨_, rfl⟩
          obtain ⟨R2, hR2⟩ : ∃ y, R.failM m = y := ⟨_, rfl⟩
          have HI2 : Hid B2.Ok := by show Lok.Ok _; rw [← hB2]; exact HI.out.fail m0 (by omega)
          have HJ2 : Hid R2.Ok := by show Lok.Ok _; rw [← hR2]; exact HJ.out.fail m0 (by omega)
          have HK2 : Hid (Lok.Like B2 R2) := by show Lok.Like _ _; rw [← hB2, ← hR2]; exact HK.out.fail m
          have FB := Lib.hid hB2
          have FR := Lib.hid hR2
          clear hB2 hR2 h1
          go_upto_region 11 with fail
          refine wp_region_lit ?_
          refine l_val (o := ⟨some 62, _, _, _, _, _⟩) (.pointer (some ⟨g, 0, none⟩)) rfl (exec_move (.tmp 7) (.pointer (some ⟨g, 0, none⟩)) rfl (by kernel_rfl)) ?_
          simp only [Act.put, List.setIfInBounds_toArray, List.set_cons_succ, List.set_cons_zero]
          refine l_val (o := ⟨some 63, _, _, _, _, _⟩) (.int .i64 m) rfl (exec_move (.tmp 12) (.int .i64 m) rfl (by kernel_rfl)) ?_
          simp only [Act.put, List.setIfInBounds_toArray, List.set_cons_succ, List.set_cons_zero]
          refine l_call (o := ⟨some 64, _, _, _, _, _⟩) 10 #[.pointer (some ⟨g, 0, none⟩), .int .i64 m] rfl (exec_call 10 _ [.tmp 62, .tmp 63] _ _ Try.func10 (by kernel_rfl) (by kernel_rfl) rfl (by kernel_rfl) _) ?_
          refine (lfailed_at HB8.out HI.out m0 (by omega) FB.out).mono ?_
          rintro e wp ⟨rfl, hBp, kp⟩
          refine ⟨_, rfl, ?_⟩
          simp only [Act.put, List.setIfInBounds_toArray, List.set_cons_succ, List.set_cons_zero]
          refine wpList_nil ?_
          have hRp := HR8.out.keep kp (fun h => hgr h.symm)
          go_upto_region 12 with fail
          refine wp_region_lit ?_
          refine l_val (o := ⟨some 65, _, _, _, _, _⟩) (.pointer (some ⟨r, 0, none⟩)) rfl (exec_move (.tmp 9) (.pointer (some ⟨r, 0, none⟩)) rfl (by kernel_rfl)) ?_
          simp only [Act.put, List.setIfInBounds_toArray, List.set_cons_succ, List.set_cons_zero]
          refine l_val (o := ⟨some 66, _, _, _, _, _⟩) (.int .i64 m) rfl (exec_move (.tmp 12) (.int .i64 m) rfl (by kernel_rfl)) ?_
          simp only [Act.put, List.setIfInBounds_toArray, List.set_cons_succ, List.set_cons_zero]
          refine l_call (o := ⟨some 67, _, _, _, _, _⟩) 15 #[.pointer (some ⟨r, 0, none⟩), .int .i64 m] rfl (exec_call 15 _ [.tmp 65, .tmp 66] _ _ Try.func15 (by kernel_rfl) (by kernel_rfl) rfl (by kernel_rfl) _) ?_
          refine (rlfailed_at hRp HJ.out m0 (by omega) FR.out).mono ?_
          rintro e wo ⟨rfl, hRo, ko⟩
          refine ⟨_, rfl, ?_⟩
          simp only [Act.put, List.setIfInBounds_toArray, List.set_cons_succ, List.set_cons_zero]
          refine wpList_nil ?_
          have HB9 := Lib.hid (hBp.keep ko hgr)
          have HR9 := Lib.hid hRo
          have kw9 : Kept w wo := (kw8.trans' kp (by omega)).trans' ko (by omega)
          clear hBp hRp hRo kp ko HB8 HR8 kw8
          clear FB FR HI HJ HK
          obtain ⟨x, hx⟩ : ∃ x, B2.shut m = x := ⟨_, rfl⟩
          obtain ⟨y, hy⟩ : ∃ y, B2.shut (m + 1) = y := ⟨_, rfl⟩
          obtain ⟨z, hz⟩ : ∃ z, B2.k = z := ⟨_, rfl⟩
          have X1 := Lib.hid hx
          have Y1 := Lib.hid hy
          have Z1 := Lib.hid hz
          have X2 : Hid (R2.shut m = x) := by show _ = _; rw [← HK2.out.shut]; exact hx
          have Y2 : Hid (R2.shut (m + 1) = y) := by show _ = _; rw [← HK2.out.shut]; exact hy
          have Z2 : Hid (R2.k = z) := by show _ = _; rw [← HK2.out.k]; exact hz
          clear hx hy hz
          go_upto_region 16 with fail
          refine wp_free 27 [.eq (.pointer (some ⟨g, 0, none⟩)), .eq (.int .i64 m), .eq (.bool x), .eq (.pointer (some ⟨r, 0, none⟩)), .eq (.int .i64 m), .eq (.bool x), .eq (.bool false), .eq (.bool false), .eq (.pointer (some ⟨g, 0, none⟩)), .eq (.int .i64 m), .eq (.int .i64 ((m : Int) + (1 : Int))), .eq (.bool y), .eq (.pointer (some ⟨r, 0, none⟩)), .eq (.int .i64 m), .eq (.int .i64 ((m : Int) + (1 : Int))), .eq (.bool y), .eq (.bool false), .eq (.bool false), .eq (.bool false), .eq (.pointer (some ⟨g, 0, none⟩)), .eq (.int .i64 z), .eq (.pointer (some ⟨r, 0, none⟩)), .eq (.pointer (some ⟨r, 0, none⟩)), .eq (.pointer (some ⟨r, 2, none⟩)), .eq (.int .i64 z), .eq (.bool false), .eq (.bool false)] (by kernel_rfl) rfl (by kernel_rfl) ?_ ?_
          · refine sv 1 rfl rfl rfl (fun a u hE hD hk => exec_move (.tmp 7) _ rfl (hE 7 (.pointer (some ⟨g, 0, none⟩)) (by kernel_rfl) (by kernel_rfl))) ?_
            refine sv 2 rfl rfl rfl (fun a u hE hD hk => exec_move (.tmp 12) _ rfl (hE 12 (.int .i64 m) (by kernel_rfl) (by kernel_rfl))) ?_
            refine fsteps_cons 3 rfl (fun a u hE hD hk => f_call (o := ⟨some 76, _, _, _, _, _⟩) 11 #[.pointer (some ⟨g, 0, none⟩), .int .i64 m] rfl (wanted_none rfl _) (exec_call 11 _ [.tmp 74, .tmp 75] _ [.pointer (some ⟨g, 0, none⟩), .int .i64 m] Try.func11 (by kernel_rfl) (by kernel_rfl) rfl (show [a.eval (.tmp 74), a.eval (.tmp 75)] = [.pointer (some ⟨g, 0, none⟩), .int .i64 m] from (by rw [show a.eval (.tmp 74) = .pointer (some ⟨g, 0, none⟩) from (hD 0 74 (by kernel_rfl)), show a.eval (.tmp 75) = .int .i64 m from (hD 1 75 (by kernel_rfl))] <;> rfl)) u) (llocked_at (HB9.out.kept hk) X1.out)) ?_
            refine sv 4 rfl rfl rfl (fun a u hE hD hk => exec_move (.tmp 9) _ rfl (hE 9 (.pointer (some ⟨r, 0, none⟩)) (by kernel_rfl) (by kernel_rfl))) ?_
            refine sv 5 rfl rfl rfl (fun a u hE hD hk => exec_move (.tmp 12) _ rfl (hE 12 (.int .i64 m) (by kernel_rfl) (by kernel_rfl))) ?_
            refine fsteps_cons 6 rfl (fun a u hE hD hk => f_call (o := ⟨some 79, _, _, _, _, _⟩) 18 #[.pointer (some ⟨r, 0, none⟩), .int .i64 m] rfl (wanted_none rfl _) (exec_call 18 _ [.tmp 77, .tmp 78] _ [.pointer (some ⟨r, 0, none⟩), .int .i64 m] Try.func18 (by kernel_rfl) (by kernel_rfl) rfl (show [a.eval (.tmp 77), a.eval (.tmp 78)] = [.pointer (some ⟨r, 0, none⟩), .int .i64 m] from (by rw [show a.eval (.tmp 77) = .pointer (some ⟨r, 0, none⟩) from (hD 3 77 (by kernel_rfl)), show a.eval (.tmp 78) = .int .i64 m from (hD 4 78 (by kernel_rfl))] <;> rfl)) u) (rllocked_at (HR9.out.kept hk) HJ2.out X2.out)) ?_
            refine sv 7 rfl rfl rfl (fun a u hE hD hk => exec_neb (.tmp 76) (.tmp 79) _ x x false rfl (hD 2 76 (by kernel_rfl)) (hD 5 79 (by kernel_rfl)) (by simp)) ?_
            refine sv 8 rfl rfl rfl (fun a u hE hD hk => exec_move (.tmp 80) _ rfl (hD 6 80 (by kernel_rfl))) ?_
            refine fsteps_cons 9 rfl (fun a u hE hD hk => f_val (o := ⟨some 82, _, _, _, _, _⟩) (.pointer (some ⟨g, 0, none⟩)) rfl (wanted_at (b := false) false rfl rfl (hD 7 81 (by kernel_rfl))) (exec_move (.tmp 7) _ rfl (hE 7 (.pointer (some ⟨g, 0, none⟩)) (by kernel_rfl) (by kernel_rfl))) rfl) ?_
            refine fsteps_cons 10 rfl (fun a u hE hD hk => f_val (o := ⟨some 83, _, _, _, _, _⟩) (.int .i64 m) rfl (wanted_at (b := false) false rfl rfl (hD 7 81 (by kernel_rfl))) (exec_move (.tmp 12) _ rfl (hE 12 (.int .i64 m) (by kernel_rfl) (by kernel_rfl))) rfl) ?_
            refine fsteps_cons 11 rfl (fun a u hE hD hk => f_val (o := ⟨some 84, _, _, _, _, _⟩) (.int .i64 ((m : Int) + (1 : Int))) rfl (wanted_at (b := false) false rfl rfl (hD 7 81 (by kernel_rfl))) (exec_addn (p := (m)) (q := (1)) ((m : Int) + (1 : Int)) rfl (hD 9 83 (by kernel_rfl)) rfl rfl (by omega) (by omega)) rfl) ?_
            refine fsteps_cons 12 rfl (fun a u hE hD hk => f_call (o := ⟨some 85, _, _, _, _, _⟩) 11 #[.pointer (some ⟨g, 0, none⟩), .int .i64 ((m : Int) + (1 : Int))] rfl (wanted_at (b := false) false rfl rfl (hD 7 81 (by kernel_rfl))) (exec_call 11 _ [.tmp 82, .tmp 84] _ [.pointer (some ⟨g, 0, none⟩), .int .i64 ((m : Int) + (1 : Int))] Try.func11 (by kernel_rfl) (by kernel_rfl) rfl (show [a.eval (.tmp 82), a.eval (.tmp 84)] = [.pointer (some ⟨g, 0, none⟩), .int .i64 ((m : Int) + (1 : Int))] from (by rw [show a.eval (.tmp 82) = .pointer (some ⟨g, 0, none⟩) from (hD 8 82 (by kernel_rfl)), show a.eval (.tmp 84) = .int .i64 ((m : Int) + (1 : Int)) from (hD 10 84 (by kernel_rfl))] <;> rfl)) u) (llocked_at (HB9.out.kept hk) Y1.out)) ?_
            refine fsteps_cons 13 rfl (fun a u hE hD hk => f_val (o := ⟨some 86, _, _, _, _, _⟩) (.pointer (some ⟨r, 0, none⟩)) rfl (wanted_at (b := false) false rfl rfl (hD 7 81 (by kernel_rfl))) (exec_move (.tmp 9) _ rfl (hE 9 (.pointer (some ⟨r, 0, none⟩)) (by kernel_rfl) (by kernel_rfl))) rfl) ?_
            refine fsteps_cons 14 rfl (fun a u hE hD hk => f_val (o := ⟨some 87, _, _, _, _, _⟩) (.int .i64 m) rfl (wanted_at (b := false) false rfl rfl (hD 7 81 (by kernel_rfl))) (exec_move (.tmp 12) _ rfl (hE 12 (.int .i64 m) (by kernel_rfl) (by kernel_rfl))) rfl) ?_
            refine fsteps_cons 15 rfl (fun a u hE hD hk => f_val (o := ⟨some 88, _, _, _, _, _⟩) (.int .i64 ((m : Int) + (1 : Int))) rfl (wanted_at (b := false) false rfl rfl (hD 7 81 (by kernel_rfl))) (exec_addn (p := (m)) (q := (1)) ((m : Int) + (1 : Int)) rfl (hD 13 87 (by kernel_rfl)) rfl rfl (by omega) (by omega)) rfl) ?_
            refine fsteps_cons 16 rfl (fun a u hE hD hk => f_call (o := ⟨some 89, _, _, _, _, _⟩) 18 #[.pointer (some ⟨r, 0, none⟩), .int .i64 ((m : Int) + (1 : Int))] rfl (wanted_at (b := false) false rfl rfl (hD 7 81 (by kernel_rfl))) (exec_call 18 _ [.tmp 86, .tmp 88] _ [.pointer (some ⟨r, 0, none⟩), .int .i64 ((m : Int) + (1 : Int))] Try.func18 (by kernel_rfl) (by kernel_rfl) rfl (show [a.eval (.tmp 86), a.eval (.tmp 88)] = [.pointer (some ⟨r, 0, none⟩), .int .i64 ((m : Int) + (1 : Int))] from (by rw [show a.eval (.tmp 86) = .pointer (some ⟨r, 0, none⟩) from (hD 12 86 (by kernel_rfl)), show a.eval (.tmp 88) = .int .i64 ((m : Int) + (1 : Int)) from (hD 14 88 (by kernel_rfl))] <;> rfl)) u) (rllocked_at (HR9.out.kept hk) HJ2.out Y2.out)) ?_
            refine fsteps_cons 17 rfl (fun a u hE hD hk => f_val (o := ⟨some 90, _, _, _, _, _⟩) (.bool false) rfl (wanted_at (b := false) false rfl rfl (hD 7 81 (by kernel_rfl))) (exec_neb (.tmp 85) (.tmp 89) _ y y false rfl (hD 11 85 (by kernel_rfl)) (hD 15 89 (by kernel_rfl)) (by simp)) rfl) ?_
            refine sv 18 rfl rfl rfl (fun a u hE hD hk => exec_pickF (.tmp 81) (.const (.bool true)) (.tmp 90) (.bool false) rfl (hD 7 81 (by kernel_rfl)) (hD 16 90 (by kernel_rfl))) ?_
            refine sv 19 rfl rfl rfl (fun a u hE hD hk => exec_move (.tmp 91) _ rfl (hD 17 91 (by kernel_rfl))) ?_
            refine fsteps_cons 20 rfl (fun a u hE hD hk => f_val (o := ⟨some 93, _, _, _, _, _⟩) (.pointer (some ⟨g, 0, none⟩)) rfl (wanted_at (b := false) false rfl rfl (hD 18 92 (by kernel_rfl))) (exec_move (.tmp 7) _ rfl (hE 7 (.pointer (some ⟨g, 0, none⟩)) (by kernel_rfl) (by kernel_rfl))) rfl) ?_
            refine fsteps_cons 21 rfl (fun a u hE hD hk => f_call (o := ⟨some 94, _, _, _, _, _⟩) 12 #[.pointer (some ⟨g, 0, none⟩)] rfl (wanted_at (b := false) false rfl rfl (hD 18 92 (by kernel_rfl))) (exec_call 12 _ [.tmp 93] _ [.pointer (some ⟨g, 0, none⟩)] Try.func12 (by kernel_rfl) (by kernel_rfl) rfl (show [a.eval (.tmp 93)] = [.pointer (some ⟨g, 0, none⟩)] from (by rw [show a.eval (.tmp 93) = .pointer (some ⟨g, 0, none⟩) from (hD 19 93 (by kernel_rfl))] <;> rfl)) u) (lwrong_at (HB9.out.kept hk) Z1.out)) ?_
            refine fsteps_cons 22 rfl (fun a u hE hD hk => f_val (o := ⟨some 95, _, _, _, _, _⟩) (.pointer (some ⟨r, 0, none⟩)) rfl (wanted_at (b := false) false rfl rfl (hD 18 92 (by kernel_rfl))) (exec_move (.tmp 9) _ rfl (hE 9 (.pointer (some ⟨r, 0, none⟩)) (by kernel_rfl) (by kernel_rfl))) rfl) ?_
            refine fsteps_cons 23 rfl (fun a u hE hD hk => f_val (o := ⟨some 96, _, _, _, _, _⟩) (.pointer (some ⟨r, 0, none⟩)) rfl (wanted_at (b := false) false rfl rfl (hD 18 92 (by kernel_rfl))) (exec_nilp (.tmp 95) ⟨r, 0, none⟩ rfl (hD 21 95 (by kernel_rfl))) rfl) ?_
            refine fsteps_cons 24 rfl (fun a u hE hD hk => f_val (o := ⟨some 97, _, _, _, _, _⟩) (.pointer (some ⟨r, 2, none⟩)) rfl (wanted_at (b := false) false rfl rfl (hD 18 92 (by kernel_rfl))) (exec_fldo 38 2 2 (.tmp 96) (r) (0) (2) rfl (hD 22 96 (by kernel_rfl)) (by kernel_rfl) rfl) rfl) ?_
            refine fsteps_cons 25 rfl (fun a u hE hD hk => f_val (o := ⟨some 98, _, _, _, _, _⟩) (.int .i64 z) rfl (wanted_at (b := false) false rfl rfl (hD 18 92 (by kernel_rfl))) (exec_loadi 3 Try.underlying3 (.tmp 97) ⟨r, 2, none⟩ (.int .i64 z) rfl (hD 23 97 (by kernel_rfl)) (by rw [← Z2.out]; exact range_int (blk_range (HR9.out.kept hk)) 2 _ rfl)) rfl) ?_
            refine fsteps_cons 26 rfl (fun a u hE hD hk => f_as (show ((decide ((z : Int) ≠ (z : Int))) : Bool) = false from decide_eq_false (by omega)) (f_val (o := ⟨some 99, _, _, _, _, _⟩) (.bool (decide ((z : Int) ≠ (z : Int)))) rfl (wanted_at (b := false) false rfl rfl (hD 18 92 (by kernel_rfl))) (exec_nen (p := z) (q := z) rfl (hD 20 94 (by kernel_rfl)) (hD 24 98 (by kernel_rfl))) rfl)) ?_
            refine sv 27 rfl rfl rfl (fun a u hE hD hk => exec_pickF (.tmp 92) (.const (.bool true)) (.tmp 99) (.bool false) rfl (hD 18 92 (by kernel_rfl)) (hD 25 99 (by kernel_rfl))) ?_
            exact fsteps_nil
          intro gv wz hV kz
          rw [show dstsOf _ 27 = [74, 75, 76, 77, 78, 79, 80, 81, 82, 83, 84, 85, 86, 87, 88, 89, 90, 91, 92, 93, 94, 95, 96, 97, 98, 99, 100] by kernel_rfl]
          simp only [List.foldl_cons, List.foldl_nil, List.setIfInBounds_toArray, List.set_cons_succ, List.set_cons_zero, List.drop_succ_cons, List.drop_zero]
          rw [show gv 100 = .bool false from hV 26 100 (by kernel_rfl)]
          clear hV
          refine wpList_nil ?_
          have HBz := Lib.hid (HB9.out.kept kz)
          have HRz := Lib.hid (HR9.out.kept kz)
          have kwz := kw9.trans kz
          clear X1 X2 Y1 Y2 Z1 Z2 HB9 HR9
          go_wp2
          exact ⟨⟨k + 1, B2, R2, by simp, by omega, by omega, HBz, HRz, HI2, HJ2, HK2, kwz⟩, by simp [intOf]; omega⟩
        · by_cases h2 : q.k = 2
          · skip
            go_upto_region 10 with fail
            refine wp_text 2 [.eq (.bool false), .eq (.bool false)] rfl (by kernel_rfl) ?_ ?_
            · refine fsteps_cons 1 rfl (fun a u hE hD hk => f_as (show ((decide ((q.k : Int) = (1 : Int))) : Bool) = false from decide_eq_false h1) (f_val (o := ⟨some 61, _, _, _, _, _⟩) (.bool (decide ((q.k : Int) = (1 : Int)))) rfl (wanted_none rfl _) (exec_eqn (p := q.k) (q := 1) rfl (hE 59 (.int .i64 q.k) (by kernel_rfl) (by kernel_rfl)) rfl) rfl)) ?_
              refine sv 2 rfl rfl rfl (fun a u hE hD hk => exec_assign (.tmp 61) _ rfl (hD 0 61 (by kernel_rfl))) ?_
              exact fsteps_nil
            intro gv wq hV kk
            rw [show dstsOf _ 2 = [61, 60] by kernel_rfl]
            simp only [List.foldl_cons, List.foldl_nil, List.setIfInBounds_toArray, List.set_cons_succ, List.set_cons_zero, List.drop_succ_cons, List.drop_zero]
            rw [show gv 60 = .bool false from hV 1 60 (by kernel_rfl)]
            clear hV
            refine wpList_nil ?_
            have HBq := Lib.hid (HB7.out.kept kk)
            have HRq := Lib.hid (HR7.out.kept kk)
            have kwq := kw7.trans kk
            clear HB7 HR7 kw7 kk
            go_upto_region 13 with fail
            refine wp_text 2 [.eq (.bool true), .eq (.bool true)] rfl (by kernel_rfl) ?_ ?_
            · refine fsteps_cons 1 rfl (fun a u hE hD hk => f_as (show ((decide ((q.k : Int) = (2 : Int))) : Bool) = true from decide_eq_true h2) (f_val (o := ⟨some 69, _, _, _, _, _⟩) (.bool (decide ((q.k : Int) = (2 : Int)))) rfl (wanted_none rfl _) (exec_eqn (p := q.k) (q := 2) rfl (hE 59 (.int .i64 q.k) (by kernel_rfl) (by kernel_rfl)) rfl) rfl)) ?_
              refine sv 2 rfl rfl rfl (fun a u hE hD hk => exec_assign (.tmp 69) _ rfl (hD 0 69 (by kernel_rfl))) ?_
              exact fsteps_nil
            intro gv w8 hV kk
            rw [show dstsOf _ 2 = [69, 68] by kernel_rfl]
            simp only [List.foldl_cons, List.foldl_nil, List.setIfInBounds_toArray, List.set_cons_succ, List.set_cons_zero, List.drop_succ_cons, List.drop_zero]
            rw [show gv 68 = .bool true from hV 1 68 (by kernel_rfl)]
            clear hV
            refine wpList_nil ?_
            have HB8 := Lib.hid (HBq.out.kept kk)
            have HR8 := Lib.hid (HRq.out.kept kk)
            have kw8 := kwq.trans kk
            clear HBq HRq kwq kk
            have hn1 := HI.out.n0
            obtain ⟨B2, hB2⟩ : ∃ y, B.clrM = y := ⟨_, rfl⟩
            obtain ⟨R2, hR2⟩ : ∃ y, R.clrR = y := ⟨_, rfl⟩
            have HI2 : Hid B2.Ok := by show Lok.Ok _; rw [← hB2]; exact HI.out.clr
            have HJ2 : Hid R2.Ok := by show Lok.Ok _; rw [← hR2]; exact HJ.out.clr'
            have HK2 : Hid (Lok.Like B2 R2) := by show Lok.Like _ _; rw [← hB2, ← hR2]; exact HK.out.clr hn1
            have FB := Lib.hid hB2
            have FR := Lib.hid hR2
            clear hB2 hR2 h1 h2 hn1
            go_upto_region 14 with fail
            refine wp_region_lit ?_
            refine l_val (o := ⟨some 70, _, _, _, _, _⟩) (.pointer (some ⟨g, 0, none⟩)) rfl (exec_move (.tmp 7) (.pointer (some ⟨g, 0, none⟩)) rfl (by kernel_rfl)) ?_
            simp only [Act.put, List.setIfInBounds_toArray, List.set_cons_succ, List.set_cons_zero]
            refine l_call (o := ⟨some 71, _, _, _, _, _⟩) 16 #[.pointer (some ⟨g, 0, none⟩)] rfl (exec_call 16 _ [.tmp 70] _ _ Try.func16 (by kernel_rfl) (by kernel_rfl) rfl (by kernel_rfl) _) ?_
            refine (lclear_any g B _ HB8.out).mono ?_
            rintro e wp ⟨rfl, hBp, kp⟩
            refine ⟨_, rfl, ?_⟩
            simp only [Act.put, List.setIfInBounds_toArray, List.set_cons_succ, List.set_cons_zero]
            refine wpList_nil ?_
            have hRp := HR8.out.keep kp (fun h => hgr h.symm)
            go_upto_region 15 with fail
            refine wp_region_lit ?_
            refine l_val (o := ⟨some 72, _, _, _, _, _⟩) (.pointer (some ⟨r, 0, none⟩)) rfl (exec_move (.tmp 9) (.pointer (some ⟨r, 0, none⟩)) rfl (by kernel_rfl)) ?_
            simp only [Act.put, List.setIfInBounds_toArray, List.set_cons_succ, List.set_cons_zero]
            refine l_call (o := ⟨some 73, _, _, _, _, _⟩) 17 #[.pointer (some ⟨r, 0, none⟩)] rfl (exec_call 17 _ [.tmp 72] _ _ Try.func17 (by kernel_rfl) (by kernel_rfl) rfl (by kernel_rfl) _) ?_
            refine (rlclear_any r R _ hRp).mono ?_
            rintro e wo ⟨rfl, hRo, ko⟩
            refine ⟨_, rfl, ?_⟩
            simp only [Act.put, List.setIfInBounds_toArray, List.set_cons_succ, List.set_cons_zero]
            refine wpList_nil ?_
            have HB9 := Lib.hid (hBp.keep ko hgr)
            have HR9 := Lib.hid hRo
            have kw9 : Kept w wo := (kw8.trans' kp (by omega)).trans' ko (by omega)
            clear hBp hRp hRo kp ko HB8 HR8 kw8
            rw [FB.out] at HB9
            rw [FR.out] at HR9
            clear FB FR HI HJ HK
            obtain ⟨x, hx⟩ : ∃ x, B2.shut m = x := ⟨_, rfl⟩
            obtain ⟨y, hy⟩ : ∃ y, B2.shut (m + 1) = y := ⟨_, rfl⟩
            obtain ⟨z, hz⟩ : ∃ z, B2.k = z := ⟨_, rfl⟩
            have X1 := Lib.hid hx
            have Y1 := Lib.hid hy
            have Z1 := Lib.hid hz
            have X2 : Hid (R2.shut m = x) := by show _ = _; rw [← HK2.out.shut]; exact hx
            have Y2 : Hid (R2.shut (m + 1) = y) := by show _ = _; rw [← HK2.out.shut]; exact hy
            have Z2 : Hid (R2.k = z) := by show _ = _; rw [← HK2.out.k]; exact hz
            clear hx hy hz
            go_upto_region 16 with fail
            refine wp_free 27 [.eq (.pointer (some ⟨g, 0, none⟩)), .eq (.int .i64 m), .eq (.bool x), .eq (.pointer (some ⟨r, 0, none⟩)), .eq (.int .i64 m), .eq (.bool x), .eq (.bool false), .eq (.bool false), .eq (.pointer (some ⟨g, 0, none⟩)), .eq (.int .i64 m), .eq (.int .i64 ((m : Int) + (1 : Int))), .eq (.bool y), .eq (.pointer (some ⟨r, 0, none⟩)), .eq (.int .i64 m), .eq (.int .i64 ((m : Int) + (1 : Int))), .eq (.bool y), .eq (.bool false), .eq (.bool false), .eq (.bool false), .eq (.pointer (some ⟨g, 0, none⟩)), .eq (.int .i64 z), .eq (.pointer (some ⟨r, 0, none⟩)), .eq (.pointer (some ⟨r, 0, none⟩)), .eq (.pointer (some ⟨r, 2, none⟩)), .eq (.int .i64 z), .eq (.bool false), .eq (.bool false)] (by kernel_rfl) rfl (by kernel_rfl) ?_ ?_
            · refine sv 1 rfl rfl rfl (fun a u hE hD hk => exec_move (.tmp 7) _ rfl (hE 7 (.pointer (some ⟨g, 0, none⟩)) (by kernel_rfl) (by kernel_rfl))) ?_
              refine sv 2 rfl rfl rfl (fun a u hE hD hk => exec_move (.tmp 12) _ rfl (hE 12 (.int .i64 m) (by kernel_rfl) (by kernel_rfl))) ?_
              refine fsteps_cons 3 rfl (fun a u hE hD hk => f_call (o := ⟨some 76, _, _, _, _, _⟩) 11 #[.pointer (some ⟨g, 0, none⟩), .int .i64 m] rfl (wanted_none rfl _) (exec_call 11 _ [.tmp 74, .tmp 75] _ [.pointer (some ⟨g, 0, none⟩), .int .i64 m] Try.func11 (by kernel_rfl) (by kernel_rfl) rfl (show [a.eval (.tmp 74), a.eval (.tmp 75)] = [.pointer (some ⟨g, 0, none⟩), .int .i64 m] from (by rw [show a.eval (.tmp 74) = .pointer (some ⟨g, 0, none⟩) from (hD 0 74 (by kernel_rfl)), show a.eval (.tmp 75) = .int .i64 m from (hD 1 75 (by kernel_rfl))] <;> rfl)) u) (llocked_at (HB9.out.kept hk) X1.out)) ?_
              refine sv 4 rfl rfl rfl (fun a u hE hD hk => exec_move (.tmp 9) _ rfl (hE 9 (.pointer (some ⟨r, 0, none⟩)) (by kernel_rfl) (by kernel_rfl))) ?_
              refine sv 5 rfl rfl rfl (fun a u hE hD hk => exec_move (.tmp 12) _ rfl (hE 12 (.int .i64 m) (by kernel_rfl) (by kernel_rfl))) ?_
              refine fsteps_cons 6 rfl (fun a u hE hD hk => f_call (o := ⟨some 79, _, _, _, _, _⟩) 18 #[.pointer (some ⟨r, 0, none⟩), .int .i64 m] rfl (wanted_none rfl _) (exec_call 18 _ [.tmp 77, .tmp 78] _ [.pointer (some ⟨r, 0, none⟩), .int .i64 m] Try.func18 (by kernel_rfl) (by kernel_rfl) rfl (show [a.eval (.tmp 77), a.eval (.tmp 78)] = [.pointer (some ⟨r, 0, none⟩), .int .i64 m] from (by rw [show a.eval (.tmp 77) = .pointer (some ⟨r, 0, none⟩) from (hD 3 77 (by kernel_rfl)), show a.eval (.tmp 78) = .int .i64 m from (hD 4 78 (by kernel_rfl))] <;> rfl)) u) (rllocked_at (HR9.out.kept hk) HJ2.out X2.out)) ?_
              refine sv 7 rfl rfl rfl (fun a u hE hD hk => exec_neb (.tmp 76) (.tmp 79) _ x x false rfl (hD 2 76 (by kernel_rfl)) (hD 5 79 (by kernel_rfl)) (by simp)) ?_
              refine sv 8 rfl rfl rfl (fun a u hE hD hk => exec_move (.tmp 80) _ rfl (hD 6 80 (by kernel_rfl))) ?_
              refine fsteps_cons 9 rfl (fun a u hE hD hk => f_val (o := ⟨some 82, _, _, _, _, _⟩) (.pointer (some ⟨g, 0, none⟩)) rfl (wanted_at (b := false) false rfl rfl (hD 7 81 (by kernel_rfl))) (exec_move (.tmp 7) _ rfl (hE 7 (.pointer (some ⟨g, 0, none⟩)) (by kernel_rfl) (by kernel_rfl))) rfl) ?_
              refine fsteps_cons 10 rfl (fun a u hE hD hk => f_val (o := ⟨some 83, _, _, _, _, _⟩) (.int .i64 m) rfl (wanted_at (b := false) false rfl rfl (hD 7 81 (by kernel_rfl))) (exec_move (.tmp 12) _ rfl (hE 12 (.int .i64 m) (by kernel_rfl) (by kernel_rfl))) rfl) ?_
              refine fsteps_cons 11 rfl (fun a u hE hD hk => f_val (o := ⟨some 84, _, _, _, _, _⟩) (.int .i64 ((m : Int) + (1 : Int))) rfl (wanted_at (b := false) false rfl rfl (hD 7 81 (by kernel_rfl))) (exec_addn (p := (m)) (q := (1)) ((m : Int) + (1 : Int)) rfl (hD 9 83 (by kernel_rfl)) rfl rfl (by omega) (by omega)) rfl) ?_
              refine fsteps_cons 12 rfl (fun a u hE hD hk => f_call (o := ⟨some 85, _, _, _, _, _⟩) 11 #[.pointer (some ⟨g, 0, none⟩), .int .i64 ((m : Int) + (1 : Int))] rfl (wanted_at (b := false) false rfl rfl (hD 7 81 (by kernel_rfl))) (exec_call 11 _ [.tmp 82, .tmp 84] _ [.pointer (some ⟨g, 0, none⟩), .int .i64 ((m : Int) + (1 : Int))] Try.func11 (by kernel_rfl) (by kernel_rfl) rfl (show [a.eval (.tmp 82), a.eval (.tmp 84)] = [.pointer (some ⟨g, 0, none⟩), .int .i64 ((m : Int) + (1 : Int))] from (by rw [show a.eval (.tmp 82) = .pointer (some ⟨g, 0, none⟩) from (hD 8 82 (by kernel_rfl)), show a.eval (.tmp 84) = .int .i64 ((m : Int) + (1 : Int)) from (hD 10 84 (by kernel_rfl))] <;> rfl)) u) (llocked_at (HB9.out.kept hk) Y1.out)) ?_
              refine fsteps_cons 13 rfl (fun a u hE hD hk => f_val (o := ⟨some 86, _, _, _, _, _⟩) (.pointer (some ⟨r, 0, none⟩)) rfl (wanted_at (b := false) false rfl rfl (hD 7 81 (by kernel_rfl))) (exec_move (.tmp 9) _ rfl (hE 9 (.pointer (some ⟨r, 0, none⟩)) (by kernel_rfl) (by kernel_rfl))) rfl) ?_
              refine fsteps_cons 14 rfl (fun a u hE hD hk => f_val (o := ⟨some 87, _, _, _, _, _⟩) (.int .i64 m) rfl (wanted_at (b := false) false rfl rfl (hD 7 81 (by kernel_rfl))) (exec_move (.tmp 12) _ rfl (hE 12 (.int .i64 m) (by kernel_rfl) (by kernel_rfl))) rfl) ?_
              refine fsteps_cons 15 rfl (fun a u hE hD hk => f_val (o := ⟨some 88, _, _, _, _, _⟩) (.int .i64 ((m : Int) + (1 : Int))) rfl (wanted_at (b := false) false rfl rfl (hD 7 81 (by kernel_rfl))) (exec_addn (p := (m)) (q := (1)) ((m : Int) + (1 : Int)) rfl (hD 13 87 (by kernel_rfl)) rfl rfl (by omega) (by omega)) rfl) ?_
              refine fsteps_cons 16 rfl (fun a u hE hD hk => f_call (o := ⟨some 89, _, _, _, _, _⟩) 18 #[.pointer (some ⟨r, 0, none⟩), .int .i64 ((m : Int) + (1 : Int))] rfl (wanted_at (b := false) false rfl rfl (hD 7 81 (by kernel_rfl))) (exec_call 18 _ [.tmp 86, .tmp 88] _ [.pointer (some ⟨r, 0, none⟩), .int .i64 ((m : Int) + (1 : Int))] Try.func18 (by kernel_rfl) (by kernel_rfl) rfl (show [a.eval (.tmp 86), a.eval (.tmp 88)] = [.pointer (some ⟨r, 0, none⟩), .int .i64 ((m : Int) + (1 : Int))] from (by rw [show a.eval (.tmp 86) = .pointer (some ⟨r, 0, none⟩) from (hD 12 86 (by kernel_rfl)), show a.eval (.tmp 88) = .int .i64 ((m : Int) + (1 : Int)) from (hD 14 88 (by kernel_rfl))] <;> rfl)) u) (rllocked_at (HR9.out.kept hk) HJ2.out Y2.out)) ?_
              refine fsteps_cons 17 rfl (fun a u hE hD hk => f_val (o := ⟨some 90, _, _, _, _, _⟩) (.bool false) rfl (wanted_at (b := false) false rfl rfl (hD 7 81 (by kernel_rfl))) (exec_neb (.tmp 85) (.tmp 89) _ y y false rfl (hD 11 85 (by kernel_rfl)) (hD 15 89 (by kernel_rfl)) (by simp)) rfl) ?_
              refine sv 18 rfl rfl rfl (fun a u hE hD hk => exec_pickF (.tmp 81) (.const (.bool true)) (.tmp 90) (.bool false) rfl (hD 7 81 (by kernel_rfl)) (hD 16 90 (by kernel_rfl))) ?_
              refine sv 19 rfl rfl rfl (fun a u hE hD hk => exec_move (.tmp 91) _ rfl (hD 17 91 (by kernel_rfl))) ?_
              refine fsteps_cons 20 rfl (fun a u hE hD hk => f_val (o := ⟨some 93, _, _, _, _, _⟩) (.pointer (some ⟨g, 0, none⟩)) rfl (wanted_at (b := false) false rfl rfl (hD 18 92 (by kernel_rfl))) (exec_move (.tmp 7) _ rfl (hE 7 (.pointer (some ⟨g, 0, none⟩)) (by kernel_rfl) (by kernel_rfl))) rfl) ?_
              refine fsteps_cons 21 rfl (fun a u hE hD hk => f_call (o := ⟨some 94, _, _, _, _, _⟩) 12 #[.pointer (some ⟨g, 0, none⟩)] rfl (wanted_at (b := false) false rfl rfl (hD 18 92 (by kernel_rfl))) (exec_call 12 _ [.tmp 93] _ [.pointer (some ⟨g, 0, none⟩)] Try.func12 (by kernel_rfl) (by kernel_rfl) rfl (show [a.eval (.tmp 93)] = [.pointer (some ⟨g, 0, none⟩)] from (by rw [show a.eval (.tmp 93) = .pointer (some ⟨g, 0, none⟩) from (hD 19 93 (by kernel_rfl))] <;> rfl)) u) (lwrong_at (HB9.out.kept hk) Z1.out)) ?_
              refine fsteps_cons 22 rfl (fun a u hE hD hk => f_val (o := ⟨some 95, _, _, _, _, _⟩) (.pointer (some ⟨r, 0, none⟩)) rfl (wanted_at (b := false) false rfl rfl (hD 18 92 (by kernel_rfl))) (exec_move (.tmp 9) _ rfl (hE 9 (.pointer (some ⟨r, 0, none⟩)) (by kernel_rfl) (by kernel_rfl))) rfl) ?_
              refine fsteps_cons 23 rfl (fun a u hE hD hk => f_val (o := ⟨some 96, _, _, _, _, _⟩) (.pointer (some ⟨r, 0, none⟩)) rfl (wanted_at (b := false) false rfl rfl (hD 18 92 (by kernel_rfl))) (exec_nilp (.tmp 95) ⟨r, 0, none⟩ rfl (hD 21 95 (by kernel_rfl))) rfl) ?_
              refine fsteps_cons 24 rfl (fun a u hE hD hk => f_val (o := ⟨some 97, _, _, _, _, _⟩) (.pointer (some ⟨r, 2, none⟩)) rfl (wanted_at (b := false) false rfl rfl (hD 18 92 (by kernel_rfl))) (exec_fldo 38 2 2 (.tmp 96) (r) (0) (2) rfl (hD 22 96 (by kernel_rfl)) (by kernel_rfl) rfl) rfl) ?_
              refine fsteps_cons 25 rfl (fun a u hE hD hk => f_val (o := ⟨some 98, _, _, _, _, _⟩) (.int .i64 z) rfl (wanted_at (b := false) false rfl rfl (hD 18 92 (by kernel_rfl))) (exec_loadi 3 Try.underlying3 (.tmp 97) ⟨r, 2, none⟩ (.int .i64 z) rfl (hD 23 97 (by kernel_rfl)) (by rw [← Z2.out]; exact range_int (blk_range (HR9.out.kept hk)) 2 _ rfl)) rfl) ?_
              refine fsteps_cons 26 rfl (fun a u hE hD hk => f_as (show ((decide ((z : Int) ≠ (z : Int))) : Bool) = false from decide_eq_false (by omega)) (f_val (o := ⟨some 99, _, _, _, _, _⟩) (.bool (decide ((z : Int) ≠ (z : Int)))) rfl (wanted_at (b := false) false rfl rfl (hD 18 92 (by kernel_rfl))) (exec_nen (p := z) (q := z) rfl (hD 20 94 (by kernel_rfl)) (hD 24 98 (by kernel_rfl))) rfl)) ?_
              refine sv 27 rfl rfl rfl (fun a u hE hD hk => exec_pickF (.tmp 92) (.const (.bool true)) (.tmp 99) (.bool false) rfl (hD 18 92 (by kernel_rfl)) (hD 25 99 (by kernel_rfl))) ?_
              exact fsteps_nil
            intro gv wz hV kz
            rw [show dstsOf _ 27 = [74, 75, 76, 77, 78, 79, 80, 81, 82, 83, 84, 85, 86, 87, 88, 89, 90, 91, 92, 93, 94, 95, 96, 97, 98, 99, 100] by kernel_rfl]
            simp only [List.foldl_cons, List.foldl_nil, List.setIfInBounds_toArray, List.set_cons_succ, List.set_cons_zero, List.drop_succ_cons, List.drop_zero]
            rw [show gv 100 = .bool false from hV 26 100 (by kernel_rfl)]
            clear hV
            refine wpList_nil ?_
            have HBz := Lib.hid (HB9.out.kept kz)
            have HRz := Lib.hid (HR9.out.kept kz)
            have kwz := kw9.trans kz
            clear X1 X2 Y1 Y2 Z1 Z2 HB9 HR9
            go_wp2
            exact ⟨⟨k + 1, B2, R2, by simp, by omega, by omega, HBz, HRz, HI2, HJ2, HK2, kwz⟩, by simp [intOf]; omega⟩
          · skip
            go_upto_region 10 with fail
            refine wp_text 2 [.eq (.bool false), .eq (.bool false)] rfl (by kernel_rfl) ?_ ?_
            · refine fsteps_cons 1 rfl (fun a u hE hD hk => f_as (show ((decide ((q.k : Int) = (1 : Int))) : Bool) = false from decide_eq_false h1) (f_val (o := ⟨some 61, _, _, _, _, _⟩) (.bool (decide ((q.k : Int) = (1 : Int)))) rfl (wanted_none rfl _) (exec_eqn (p := q.k) (q := 1) rfl (hE 59 (.int .i64 q.k) (by kernel_rfl) (by kernel_rfl)) rfl) rfl)) ?_
              refine sv 2 rfl rfl rfl (fun a u hE hD hk => exec_assign (.tmp 61) _ rfl (hD 0 61 (by kernel_rfl))) ?_
              exact fsteps_nil
            intro gv wq hV kk
            rw [show dstsOf _ 2 = [61, 60] by kernel_rfl]
            simp only [List.foldl_cons, List.foldl_nil, List.setIfInBounds_toArray, List.set_cons_succ, List.set_cons_zero, List.drop_succ_cons, List.drop_zero]
            rw [show gv 60 = .bool false from hV 1 60 (by kernel_rfl)]
            clear hV
            refine wpList_nil ?_
            have HBq := Lib.hid (HB7.out.kept kk)
            have HRq := Lib.hid (HR7.out.kept kk)
            have kwq := kw7.trans kk
            clear HB7 HR7 kw7 kk
            go_upto_region 13 with fail
            refine wp_text 2 [.eq (.bool false), .eq (.bool false)] rfl (by kernel_rfl) ?_ ?_
            · refine fsteps_cons 1 rfl (fun a u hE hD hk => f_as (show ((decide ((q.k : Int) = (2 : Int))) : Bool) = false from decide_eq_false h2) (f_val (o := ⟨some 69, _, _, _, _, _⟩) (.bool (decide ((q.k : Int) = (2 : Int)))) rfl (wanted_none rfl _) (exec_eqn (p := q.k) (q := 2) rfl (hE 59 (.int .i64 q.k) (by kernel_rfl) (by kernel_rfl)) rfl) rfl)) ?_
              refine sv 2 rfl rfl rfl (fun a u hE hD hk => exec_assign (.tmp 69) _ rfl (hD 0 69 (by kernel_rfl))) ?_
              exact fsteps_nil
            intro gv w9 hV kk
            rw [show dstsOf _ 2 = [69, 68] by kernel_rfl]
            simp only [List.foldl_cons, List.foldl_nil, List.setIfInBounds_toArray, List.set_cons_succ, List.set_cons_zero, List.drop_succ_cons, List.drop_zero]
            rw [show gv 68 = .bool false from hV 1 68 (by kernel_rfl)]
            clear hV
            refine wpList_nil ?_
            have HB9 := Lib.hid (HBq.out.kept kk)
            have HR9 := Lib.hid (HRq.out.kept kk)
            have kw9 := kwq.trans kk
            clear HBq HRq kwq kk
            clear h1 h2
            obtain ⟨B2, hB2⟩ : ∃ B2, B = B2 := ⟨_, rfl⟩
            subst hB2
            obtain ⟨R2, hR2⟩ : ∃ R2, R = R2 := ⟨_, rfl⟩
            subst hR2
            have HI2 := HI
            have HJ2 := HJ
            have HK2 := HK
            obtain ⟨x, hx⟩ : ∃ x, B.shut m = x := ⟨_, rfl⟩
            obtain ⟨y, hy⟩ : ∃ y, B.shut (m + 1) = y := ⟨_, rfl⟩
            obtain ⟨z, hz⟩ : ∃ z, B.k = z := ⟨_, rfl⟩
            have X1 := Lib.hid hx
            have Y1 := Lib.hid hy
            have Z1 := Lib.hid hz
            have X2 : Hid (R.shut m = x) := by show _ = _; rw [← HK2.out.shut]; exact hx
            have Y2 : Hid (R.shut (m + 1) = y) := by show _ = _; rw [← HK2.out.shut]; exact hy
            have Z2 : Hid (R.k = z) := by show _ = _; rw [← HK2.out.k]; exact hz
            clear hx hy hz
            go_upto_region 16 with fail
            refine wp_free 27 [.eq (.pointer (some ⟨g, 0, none⟩)), .eq (.int .i64 m), .eq (.bool x), .eq (.pointer (some ⟨r, 0, none⟩)), .eq (.int .i64 m), .eq (.bool x), .eq (.bool false), .eq (.bool false), .eq (.pointer (some ⟨g, 0, none⟩)), .eq (.int .i64 m), .eq (.int .i64 ((m : Int) + (1 : Int))), .eq (.bool y), .eq (.pointer (some ⟨r, 0, none⟩)), .eq (.int .i64 m), .eq (.int .i64 ((m : Int) + (1 : Int))), .eq (.bool y), .eq (.bool false), .eq (.bool false), .eq (.bool false), .eq (.pointer (some ⟨g, 0, none⟩)), .eq (.int .i64 z), .eq (.pointer (some ⟨r, 0, none⟩)), .eq (.pointer (some ⟨r, 0, none⟩)), .eq (.pointer (some ⟨r, 2, none⟩)), .eq (.int .i64 z), .eq (.bool false), .eq (.bool false)] (by kernel_rfl) rfl (by kernel_rfl) ?_ ?_
            · refine sv 1 rfl rfl rfl (fun a u hE hD hk => exec_move (.tmp 7) _ rfl (hE 7 (.pointer (some ⟨g, 0, none⟩)) (by kernel_rfl) (by kernel_rfl))) ?_
              refine sv 2 rfl rfl rfl (fun a u hE hD hk => exec_move (.tmp 12) _ rfl (hE 12 (.int .i64 m) (by kernel_rfl) (by kernel_rfl))) ?_
              refine fsteps_cons 3 rfl (fun a u hE hD hk => f_call (o := ⟨some 76, _, _, _, _, _⟩) 11 #[.pointer (some ⟨g, 0, none⟩), .int .i64 m] rfl (wanted_none rfl _) (exec_call 11 _ [.tmp 74, .tmp 75] _ [.pointer (some ⟨g, 0, none⟩), .int .i64 m] Try.func11 (by kernel_rfl) (by kernel_rfl) rfl (show [a.eval (.tmp 74), a.eval (.tmp 75)] = [.pointer (some ⟨g, 0, none⟩), .int .i64 m] from (by rw [show a.eval (.tmp 74) = .pointer (some ⟨g, 0, none⟩) from (hD 0 74 (by kernel_rfl)), show a.eval (.tmp 75) = .int .i64 m from (hD 1 75 (by kernel_rfl))] <;> rfl)) u) (llocked_at (HB9.out.kept hk) X1.out)) ?_
              refine sv 4 rfl rfl rfl (fun a u hE hD hk => exec_move (.tmp 9) _ rfl (hE 9 (.pointer (some ⟨r, 0, none⟩)) (by kernel_rfl) (by kernel_rfl))) ?_
              refine sv 5 rfl rfl rfl (fun a u hE hD hk => exec_move (.tmp 12) _ rfl (hE 12 (.int .i64 m) (by kernel_rfl) (by kernel_rfl))) ?_
              refine fsteps_cons 6 rfl (fun a u hE hD hk => f_call (o := ⟨some 79, _, _, _, _, _⟩) 18 #[.pointer (some ⟨r, 0, none⟩), .int .i64 m] rfl (wanted_none rfl _) (exec_call 18 _ [.tmp 77, .tmp 78] _ [.pointer (some ⟨r, 0, none⟩), .int .i64 m] Try.func18 (by kernel_rfl) (by kernel_rfl) rfl (show [a.eval (.tmp 77), a.eval (.tmp 78)] = [.pointer (some ⟨r, 0, none⟩), .int .i64 m] from (by rw [show a.eval (.tmp 77) = .pointer (some ⟨r, 0, none⟩) from (hD 3 77 (by kernel_rfl)), show a.eval (.tmp 78) = .int .i64 m from (hD 4 78 (by kernel_rfl))] <;> rfl)) u) (rllocked_at (HR9.out.kept hk) HJ2.out X2.out)) ?_
              refine sv 7 rfl rfl rfl (fun a u hE hD hk => exec_neb (.tmp 76) (.tmp 79) _ x x false rfl (hD 2 76 (by kernel_rfl)) (hD 5 79 (by kernel_rfl)) (by simp)) ?_
              refine sv 8 rfl rfl rfl (fun a u hE hD hk => exec_move (.tmp 80) _ rfl (hD 6 80 (by kernel_rfl))) ?_
              refine fsteps_cons 9 rfl (fun a u hE hD hk => f_val (o := ⟨some 82, _, _, _, _, _⟩) (.pointer (some ⟨g, 0, none⟩)) rfl (wanted_at (b := false) false rfl rfl (hD 7 81 (by kernel_rfl))) (exec_move (.tmp 7) _ rfl (hE 7 (.pointer (some ⟨g, 0, none⟩)) (by kernel_rfl) (by kernel_rfl))) rfl) ?_
              refine fsteps_cons 10 rfl (fun a u hE hD hk => f_val (o := ⟨some 83, _, _, _, _, _⟩) (.int .i64 m) rfl (wanted_at (b := false) false rfl rfl (hD 7 81 (by kernel_rfl))) (exec_move (.tmp 12) _ rfl (hE 12 (.int .i64 m) (by kernel_rfl) (by kernel_rfl))) rfl) ?_
              refine fsteps_cons 11 rfl (fun a u hE hD hk => f_val (o := ⟨some 84, _, _, _, _, _⟩) (.int .i64 ((m : Int) + (1 : Int))) rfl (wanted_at (b := false) false rfl rfl (hD 7 81 (by kernel_rfl))) (exec_addn (p := (m)) (q := (1)) ((m : Int) + (1 : Int)) rfl (hD 9 83 (by kernel_rfl)) rfl rfl (by omega) (by omega)) rfl) ?_
              refine fsteps_cons 12 rfl (fun a u hE hD hk => f_call (o := ⟨some 85, _, _, _, _, _⟩) 11 #[.pointer (some ⟨g, 0, none⟩), .int .i64 ((m : Int) + (1 : Int))] rfl (wanted_at (b := false) false rfl rfl (hD 7 81 (by kernel_rfl))) (exec_call 11 _ [.tmp 82, .tmp 84] _ [.pointer (some ⟨g, 0, none⟩), .int .i64 ((m : Int) + (1 : Int))] Try.func11 (by kernel_rfl) (by kernel_rfl) rfl (show [a.eval (.tmp 82), a.eval (.tmp 84)] = [.pointer (some ⟨g, 0, none⟩), .int .i64 ((m : Int) + (1 : Int))] from (by rw [show a.eval (.tmp 82) = .pointer (some ⟨g, 0, none⟩) from (hD 8 82 (by kernel_rfl)), show a.eval (.tmp 84) = .int .i64 ((m : Int) + (1 : Int)) from (hD 10 84 (by kernel_rfl))] <;> rfl)) u) (llocked_at (HB9.out.kept hk) Y1.out)) ?_
              refine fsteps_cons 13 rfl (fun a u hE hD hk => f_val (o := ⟨some 86, _, _, _, _, _⟩) (.pointer (some ⟨r, 0, none⟩)) rfl (wanted_at (b := false) false rfl rfl (hD 7 81 (by kernel_rfl))) (exec_move (.tmp 9) _ rfl (hE 9 (.pointer (some ⟨r, 0, none⟩)) (by kernel_rfl) (by kernel_rfl))) rfl) ?_
              refine fsteps_cons 14 rfl (fun a u hE hD hk => f_val (o := ⟨some 87, _, _, _, _, _⟩) (.int .i64 m) rfl (wanted_at (b := false) false rfl rfl (hD 7 81 (by kernel_rfl))) (exec_move (.tmp 12) _ rfl (hE 12 (.int .i64 m) (by kernel_rfl) (by kernel_rfl))) rfl) ?_
              refine fsteps_cons 15 rfl (fun a u hE hD hk => f_val (o := ⟨some 88, _, _, _, _, _⟩) (.int .i64 ((m : Int) + (1 : Int))) rfl (wanted_at (b := false) false rfl rfl (hD 7 81 (by kernel_rfl))) (exec_addn (p := (m)) (q := (1)) ((m : Int) + (1 : Int)) rfl (hD 13 87 (by kernel_rfl)) rfl rfl (by omega) (by omega)) rfl) ?_
              refine fsteps_cons 16 rfl (fun a u hE hD hk => f_call (o := ⟨some 89, _, _, _, _, _⟩) 18 #[.pointer (some ⟨r, 0, none⟩), .int .i64 ((m : Int) + (1 : Int))] rfl (wanted_at (b := false) false rfl rfl (hD 7 81 (by kernel_rfl))) (exec_call 18 _ [.tmp 86, .tmp 88] _ [.pointer (some ⟨r, 0, none⟩), .int .i64 ((m : Int) + (1 : Int))] Try.func18 (by kernel_rfl) (by kernel_rfl) rfl (show [a.eval (.tmp 86), a.eval (.tmp 88)] = [.pointer (some ⟨r, 0, none⟩), .int .i64 ((m : Int) + (1 : Int))] from (by rw [show a.eval (.tmp 86) = .pointer (some ⟨r, 0, none⟩) from (hD 12 86 (by kernel_rfl)), show a.eval (.tmp 88) = .int .i64 ((m : Int) + (1 : Int)) from (hD 14 88 (by kernel_rfl))] <;> rfl)) u) (rllocked_at (HR9.out.kept hk) HJ2.out Y2.out)) ?_
              refine fsteps_cons 17 rfl (fun a u hE hD hk => f_val (o := ⟨some 90, _, _, _, _, _⟩) (.bool false) rfl (wanted_at (b := false) false rfl rfl (hD 7 81 (by kernel_rfl))) (exec_neb (.tmp 85) (.tmp 89) _ y y false rfl (hD 11 85 (by kernel_rfl)) (hD 15 89 (by kernel_rfl)) (by simp)) rfl) ?_
              refine sv 18 rfl rfl rfl (fun a u hE hD hk => exec_pickF (.tmp 81) (.const (.bool true)) (.tmp 90) (.bool false) rfl (hD 7 81 (by kernel_rfl)) (hD 16 90 (by kernel_rfl))) ?_
              refine sv 19 rfl rfl rfl (fun a u hE hD hk => exec_move (.tmp 91) _ rfl (hD 17 91 (by kernel_rfl))) ?_
              refine fsteps_cons 20 rfl (fun a u hE hD hk => f_val (o := ⟨some 93, _, _, _, _, _⟩) (.pointer (some ⟨g, 0, none⟩)) rfl (wanted_at (b := false) false rfl rfl (hD 18 92 (by kernel_rfl))) (exec_move (.tmp 7) _ rfl (hE 7 (.pointer (some ⟨g, 0, none⟩)) (by kernel_rfl) (by kernel_rfl))) rfl) ?_
              refine fsteps_cons 21 rfl (fun a u hE hD hk => f_call (o := ⟨some 94, _, _, _, _, _⟩) 12 #[.pointer (some ⟨g, 0, none⟩)] rfl (wanted_at (b := false) false rfl rfl (hD 18 92 (by kernel_rfl))) (exec_call 12 _ [.tmp 93] _ [.pointer (some ⟨g, 0, none⟩)] Try.func12 (by kernel_rfl) (by kernel_rfl) rfl (show [a.eval (.tmp 93)] = [.pointer (some ⟨g, 0, none⟩)] from (by rw [show a.eval (.tmp 93) = .pointer (some ⟨g, 0, none⟩) from (hD 19 93 (by kernel_rfl))] <;> rfl)) u) (lwrong_at (HB9.out.kept hk) Z1.out)) ?_
              refine fsteps_cons 22 rfl (fun a u hE hD hk => f_val (o := ⟨some 95, _, _, _, _, _⟩) (.pointer (some ⟨r, 0, none⟩)) rfl (wanted_at (b := false) false rfl rfl (hD 18 92 (by kernel_rfl))) (exec_move (.tmp 9) _ rfl (hE 9 (.pointer (some ⟨r, 0, none⟩)) (by kernel_rfl) (by kernel_rfl))) rfl) ?_
              refine fsteps_cons 23 rfl (fun a u hE hD hk => f_val (o := ⟨some 96, _, _, _, _, _⟩) (.pointer (some ⟨r, 0, none⟩)) rfl (wanted_at (b := false) false rfl rfl (hD 18 92 (by kernel_rfl))) (exec_nilp (.tmp 95) ⟨r, 0, none⟩ rfl (hD 21 95 (by kernel_rfl))) rfl) ?_
              refine fsteps_cons 24 rfl (fun a u hE hD hk => f_val (o := ⟨some 97, _, _, _, _, _⟩) (.pointer (some ⟨r, 2, none⟩)) rfl (wanted_at (b := false) false rfl rfl (hD 18 92 (by kernel_rfl))) (exec_fldo 38 2 2 (.tmp 96) (r) (0) (2) rfl (hD 22 96 (by kernel_rfl)) (by kernel_rfl) rfl) rfl) ?_
              refine fsteps_cons 25 rfl (fun a u hE hD hk => f_val (o := ⟨some 98, _, _, _, _, _⟩) (.int .i64 z) rfl (wanted_at (b := false) false rfl rfl (hD 18 92 (by kernel_rfl))) (exec_loadi 3 Try.underlying3 (.tmp 97) ⟨r, 2, none⟩ (.int .i64 z) rfl (hD 23 97 (by kernel_rfl)) (by rw [← Z2.out]; exact range_int (blk_range (HR9.out.kept hk)) 2 _ rfl)) rfl) ?_
              refine fsteps_cons 26 rfl (fun a u hE hD hk => f_as (show ((decide ((z : Int) ≠ (z : Int))) : Bool) = false from decide_eq_false (by omega)) (f_val (o := ⟨some 99, _, _, _, _, _⟩) (.bool (decide ((z : Int) ≠ (z : Int)))) rfl (wanted_at (b := false) false rfl rfl (hD 18 92 (by kernel_rfl))) (exec_nen (p := z) (q := z) rfl (hD 20 94 (by kernel_rfl)) (hD 24 98 (by kernel_rfl))) rfl)) ?_
              refine sv 27 rfl rfl rfl (fun a u hE hD hk => exec_pickF (.tmp 92) (.const (.bool true)) (.tmp 99) (.bool false) rfl (hD 18 92 (by kernel_rfl)) (hD 25 99 (by kernel_rfl))) ?_
              exact fsteps_nil
            intro gv wz hV kz
            rw [show dstsOf _ 27 = [74, 75, 76, 77, 78, 79, 80, 81, 82, 83, 84, 85, 86, 87, 88, 89, 90, 91, 92, 93, 94, 95, 96, 97, 98, 99, 100] by kernel_rfl]
            simp only [List.foldl_cons, List.foldl_nil, List.setIfInBounds_toArray, List.set_cons_succ, List.set_cons_zero, List.drop_succ_cons, List.drop_zero]
            rw [show gv 100 = .bool false from hV 26 100 (by kernel_rfl)]
            clear hV
            refine wpList_nil ?_
            have HBz := Lib.hid (HB9.out.kept kz)
            have HRz := Lib.hid (HR9.out.kept kz)
            have kwz := kw9.trans kz
            clear X1 X2 Y1 Y2 Z1 Z2 HB9 HR9
            go_wp2
            exact ⟨⟨k + 1, B, R, by simp, by omega, by omega, HBz, HRz, HI2, HJ2, HK2, kwz⟩, by simp [intOf]; omega⟩
      · have hcond : (decide ((k : Int) < (n : Int)) && decide ((k : Int) < 60)) = false := by
          by_cases h1 : (k : Int) < (n : Int)
          · rw [decide_eq_false (show ¬ (k : Int) < 60 by omega), Bool.and_false]
          · rw [decide_eq_false h1, Bool.false_and]
        go_upto_region 6 with fail
        refine wp_text 12 [.eq (.int .i64 (k : Int)), .eq (.slice A n c), .eq (.int .i64 (n : Int)), .eq (.bool (decide (((k : Int) : Int) < ((n : Int) : Int)))), .eq (.bool (decide (((k : Int) : Int) < ((n : Int) : Int)))), .cond (decide (((k : Int) : Int) < ((n : Int) : Int))) (.eq (.int .i64 (k : Int))), .cond (decide (((k : Int) : Int) < ((n : Int) : Int))) (.eq (.bool (decide (((k : Int) : Int) < (60 : Int))))), .eq (.bool false), .eq (.bool false), .eq undef, .eq undef, .eq (.bool false)] rfl (by kernel_rfl) ?_ ?_
        · refine sv 1 rfl rfl rfl (fun a u hE hD hk => exec_move (.tmp 11) _ rfl (hE 11 (.int .i64 (k : Int)) (by kernel_rfl) (by kernel_rfl))) ?_
          refine sv 2 rfl rfl rfl (fun a u hE hD hk => exec_move (.tmp 2) _ rfl (hE 2 (.slice A n c) (by kernel_rfl) (by kernel_rfl))) ?_
          refine sv 3 rfl rfl rfl (fun a u hE hD hk => exec_len (.tmp 36) _ _ slKq2.und A n c rfl (hD 1 36 (by kernel_rfl))) ?_
          refine sv 4 rfl rfl rfl (fun a u hE hD hk => exec_ltn (p := (k : Int)) (q := (n : Int)) rfl (hD 0 35 (by kernel_rfl)) (hD 2 37 (by kernel_rfl))) ?_
          refine sv 5 rfl rfl rfl (fun a u hE hD hk => exec_move (.tmp 38) _ rfl (hD 3 38 (by kernel_rfl))) ?_
          refine fsteps_cons 6 rfl (fun a u hE hD hk => f_if ((decide (((k : Int) : Int) < ((n : Int) : Int)))) rfl rfl rfl (hD 4 39 (by kernel_rfl)) (fun hb => f_val (o := ⟨some 40, _, _, _, _, _⟩) (.int .i64 (k : Int)) rfl (wanted_b rfl rfl (hD 4 39 (by kernel_rfl)) (eq_true_of hb)) (exec_move (.tmp 11) _ rfl (hE 11 (.int .i64 (k : Int)) (by kernel_rfl) (by kernel_rfl))) rfl)) ?_
          refine fsteps_cons 7 rfl (fun a u hE hD hk => f_if ((decide (((k : Int) : Int) < ((n : Int) : Int)))) rfl rfl rfl (hD 4 39 (by kernel_rfl)) (fun hb => f_val (o := ⟨some 41, _, _, _, _, _⟩) (.bool (decide (((k : Int) : Int) < (60 : Int)))) rfl (wanted_b rfl rfl (hD 4 39 (by kernel_rfl)) (eq_true_of hb)) (exec_ltn (p := (k : Int)) (q := 60) rfl ((hD 5 40 (by kernel_rfl)).1 hb) rfl) rfl)) ?_
          refine fsteps_cons 8 rfl (fun a u hE hD hk => f_as (show (((decide (((k : Int) : Int) < ((n : Int) : Int))) && (decide (((k : Int) : Int) < (60 : Int)))) : Bool) = false from hcond) (f_val (o := ⟨some 42, _, _, _, _, _⟩) (.bool ((decide (((k : Int) : Int) < ((n : Int) : Int))) && (decide (((k : Int) : Int) < (60 : Int))))) rfl (wanted_none rfl _) (exec_pickand (.tmp 39) (.tmp 41) (.const (.bool false)) ((decide (((k : Int) : Int) < ((n : Int) : Int)))) ((decide (((k : Int) : Int) < (60 : Int)))) rfl (hD 4 39 (by kernel_rfl)) (fun hb2 => ((hD 6 41 (by kernel_rfl)).1 hb2)) rfl) rfl)) ?_
          refine sv 9 rfl rfl rfl (fun a u hE hD hk => exec_move (.tmp 42) _ rfl (hD 7 42 (by kernel_rfl))) ?_
          refine fsteps_cons 10 rfl (fun a u hE hD hk => f_skip (o := ⟨some 44, _, _, _, _, _⟩) rfl (wanted_at (b := true) false rfl rfl (hD 8 43 (by kernel_rfl))) rfl) ?_
          refine fsteps_cons 11 rfl (fun a u hE hD hk => f_skip (o := ⟨some 45, _, _, _, _, _⟩) rfl (wanted_at (b := true) false rfl rfl (hD 8 43 (by kernel_rfl))) rfl) ?_
          refine sv 12 rfl rfl rfl (fun a u hE hD hk => exec_pickF (.tmp 43) (.tmp 45) (.const (.bool false)) (.bool false) rfl (hD 8 43 (by kernel_rfl)) rfl) ?_
          exact fsteps_nil
        intro gv w5 hV k5
        rw [show dstsOf _ 12 = [35, 36, 37, 38, 39, 40, 41, 42, 43, 44, 45, 46] by kernel_rfl]
        simp only [List.foldl_cons, List.foldl_nil, List.setIfInBounds_toArray, List.set_cons_succ, List.set_cons_zero, List.drop_succ_cons, List.drop_zero]
        rw [show gv 46 = .bool false from hV 11 46 (by kernel_rfl)]
        clear hV
        refine wpList_nil ?_
        go_upto_region 18 with fail
        refine wp_text 2 [.eq (.bool true), .eq (.bool true)] rfl (by kernel_rfl) ?_ ?_
        · refine fsteps_cons 1 rfl (fun a u hE hD hk => f_call (o := ⟨some 101, _, _, _, _, _⟩) 3 #[] rfl (wanted_none rfl _) (exec_call 3 _ [] _ [] Try.func3 (by kernel_rfl) (by kernel_rfl) rfl rfl u) (lockRuns_is u)) ?_
          refine sv 2 rfl rfl rfl (fun a u hE hD hk => exec_assign (.tmp 101) _ rfl (hD 0 101 (by kernel_rfl))) ?_
          exact fsteps_nil
        intro gv w6 hV k6
        rw [show dstsOf _ 2 = [101, 6] by kernel_rfl]
        simp only [List.foldl_cons, List.foldl_nil, List.setIfInBounds_toArray, List.set_cons_succ, List.set_cons_zero, List.drop_succ_cons, List.drop_zero]
        rw [show gv 6 = .bool true from hV 1 6 (by kernel_rfl)]
        clear hV
        refine wpList_nil ?_
        have kw6 := (kwr.trans k5).trans k6
        go_wp2
        go_ret
        exact ⟨rfl, kw6⟩
end Go.Proofs.Ytliepgmnlhfaiaa
