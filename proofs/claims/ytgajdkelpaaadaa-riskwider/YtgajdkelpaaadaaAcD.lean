/-
  The contracts of the document's own accounts. Conditions: accounts in memory; what is open is from 0 to MaxTick, each position from -MaxTick to MaxTick.
-/
import Derived.Test.YtgajdkelpaaadaaAcM
namespace Go.Proofs.Ytgajdkelpaaadaa
open Go.RowKit
set_option linter.unusedVariables false
set_option maxRecDepth 100000

theorem rplace_any (n i : Int) (w : World) : Gives 27 #[.int .i64 n, .int .i64 i] w (.eq (.bool (thB n i))) := by
  refine gives_eq ?_
  go_enter Try.func27, Try.ntmps27
  go_upto_region 1 with fail
  refine wp_text 15 [.eq (.int .i64 n), .eq (.bool (decide ((0 : Int) ≤ (n : Int)))), .eq (.bool (decide ((0 : Int) ≤ (n : Int)))), .cond (decide ((0 : Int) ≤ (n : Int))) (.eq (.int .i64 n)), .cond (decide ((0 : Int) ≤ (n : Int))) (.eq (.bool (decide ((n : Int) < (32 : Int))))), .eq (.bool ((decide ((0 : Int) ≤ (n : Int))) && (decide ((n : Int) < (32 : Int))))), .eq (.bool ((decide ((0 : Int) ≤ (n : Int))) && (decide ((n : Int) < (32 : Int))))), .cond ((decide ((0 : Int) ≤ (n : Int))) && (decide ((n : Int) < (32 : Int)))) (.eq (.int .i64 i)), .cond ((decide ((0 : Int) ≤ (n : Int))) && (decide ((n : Int) < (32 : Int)))) (.eq (.bool (decide ((0 : Int) ≤ (i : Int))))), .eq (.bool (((decide ((0 : Int) ≤ (n : Int))) && (decide ((n : Int) < (32 : Int)))) && (decide ((0 : Int) ≤ (i : Int))))), .eq (.bool (((decide ((0 : Int) ≤ (n : Int))) && (decide ((n : Int) < (32 : Int)))) && (decide ((0 : Int) ≤ (i : Int))))), .cond (((decide ((0 : Int) ≤ (n : Int))) && (decide ((n : Int) < (32 : Int)))) && (decide ((0 : Int) ≤ (i : Int)))) (.eq (.int .i64 i)), .cond (((decide ((0 : Int) ≤ (n : Int))) && (decide ((n : Int) < (32 : Int)))) && (decide ((0 : Int) ≤ (i : Int)))) (.eq (.bool (decide ((i : Int) < (8 : Int))))), .eq (.bool ((((decide ((0 : Int) ≤ (n : Int))) && (decide ((n : Int) < (32 : Int)))) && (decide ((0 : Int) ≤ (i : Int)))) && (decide ((i : Int) < (8 : Int))))), .eq (.bool ((((decide ((0 : Int) ≤ (n : Int))) && (decide ((n : Int) < (32 : Int)))) && (decide ((0 : Int) ≤ (i : Int)))) && (decide ((i : Int) < (8 : Int)))))] rfl (by kernel_rfl) ?_ ?_
  · refine sv 1 rfl rfl rfl (fun a u hE hD hk => exec_move (.tmp 0) _ rfl (hE 0 (.int .i64 n) (by kernel_rfl) (by kernel_rfl))) ?_
    refine sv 2 rfl rfl rfl (fun a u hE hD hk => exec_gen (p := n) (q := 0) rfl (hD 0 5 (by kernel_rfl)) rfl) ?_
    refine sv 3 rfl rfl rfl (fun a u hE hD hk => exec_move (.tmp 6) _ rfl (hD 1 6 (by kernel_rfl))) ?_
    refine fsteps_cons 4 rfl (fun a u hE hD hk => f_if ((decide ((0 : Int) ≤ (n : Int)))) rfl rfl rfl (hD 2 7 (by kernel_rfl)) (fun hb => f_val (o := ⟨some 8, _, _, _, _, _⟩) (.int .i64 n) rfl (wanted_b rfl rfl (hD 2 7 (by kernel_rfl)) (eq_true_of hb)) (exec_move (.tmp 0) _ rfl (hE 0 (.int .i64 n) (by kernel_rfl) (by kernel_rfl))) rfl)) ?_
    refine fsteps_cons 5 rfl (fun a u hE hD hk => f_if ((decide ((0 : Int) ≤ (n : Int)))) rfl rfl rfl (hD 2 7 (by kernel_rfl)) (fun hb => f_val (o := ⟨some 9, _, _, _, _, _⟩) (.bool (decide ((n : Int) < (32 : Int)))) rfl (wanted_b rfl rfl (hD 2 7 (by kernel_rfl)) (eq_true_of hb)) (exec_ltn (p := n) (q := 32) rfl ((hD 3 8 (by kernel_rfl)).1 hb) rfl) rfl)) ?_
    refine sv 6 rfl rfl rfl (fun a u hE hD hk => exec_pickand (.tmp 7) (.tmp 9) (.const (.bool false)) ((decide ((0 : Int) ≤ (n : Int)))) ((decide ((n : Int) < (32 : Int)))) rfl (hD 2 7 (by kernel_rfl)) (fun hb2 => ((hD 4 9 (by kernel_rfl)).1 hb2)) rfl) ?_
    refine sv 7 rfl rfl rfl (fun a u hE hD hk => exec_move (.tmp 10) _ rfl (hD 5 10 (by kernel_rfl))) ?_
    refine fsteps_cons 8 rfl (fun a u hE hD hk => f_if (((decide ((0 : Int) ≤ (n : Int))) && (decide ((n : Int) < (32 : Int))))) rfl rfl rfl (hD 6 11 (by kernel_rfl)) (fun hb => f_val (o := ⟨some 12, _, _, _, _, _⟩) (.int .i64 i) rfl (wanted_b rfl rfl (hD 6 11 (by kernel_rfl)) (eq_true_of hb)) (exec_move (.tmp 1) _ rfl (hE 1 (.int .i64 i) (by kernel_rfl) (by kernel_rfl))) rfl)) ?_
    refine fsteps_cons 9 rfl (fun a u hE hD hk => f_if (((decide ((0 : Int) ≤ (n : Int))) && (decide ((n : Int) < (32 : Int))))) rfl rfl rfl (hD 6 11 (by kernel_rfl)) (fun hb => f_val (o := ⟨some 13, _, _, _, _, _⟩) (.bool (decide ((0 : Int) ≤ (i : Int)))) rfl (wanted_b rfl rfl (hD 6 11 (by kernel_rfl)) (eq_true_of hb)) (exec_gen (p := i) (q := 0) rfl ((hD 7 12 (by kernel_rfl)).1 hb) rfl) rfl)) ?_
    refine sv 10 rfl rfl rfl (fun a u hE hD hk => exec_pickand (.tmp 11) (.tmp 13) (.const (.bool false)) (((decide ((0 : Int) ≤ (n : Int))) && (decide ((n : Int) < (32 : Int))))) ((decide ((0 : Int) ≤ (i : Int)))) rfl (hD 6 11 (by kernel_rfl)) (fun hb2 => ((hD 8 13 (by kernel_rfl)).1 hb2)) rfl) ?_
    refine sv 11 rfl rfl rfl (fun a u hE hD hk => exec_move (.tmp 14) _ rfl (hD 9 14 (by kernel_rfl))) ?_
    refine fsteps_cons 12 rfl (fun a u hE hD hk => f_if ((((decide ((0 : Int) ≤ (n : Int))) && (decide ((n : Int) < (32 : Int)))) && (decide ((0 : Int) ≤ (i : Int))))) rfl rfl rfl (hD 10 15 (by kernel_rfl)) (fun hb => f_val (o := ⟨some 16, _, _, _, _, _⟩) (.int .i64 i) rfl (wanted_b rfl rfl (hD 10 15 (by kernel_rfl)) (eq_true_of hb)) (exec_move (.tmp 1) _ rfl (hE 1 (.int .i64 i) (by kernel_rfl) (by kernel_rfl))) rfl)) ?_
    refine fsteps_cons 13 rfl (fun a u hE hD hk => f_if ((((decide ((0 : Int) ≤ (n : Int))) && (decide ((n : Int) < (32 : Int)))) && (decide ((0 : Int) ≤ (i : Int))))) rfl rfl rfl (hD 10 15 (by kernel_rfl)) (fun hb => f_val (o := ⟨some 17, _, _, _, _, _⟩) (.bool (decide ((i : Int) < (8 : Int)))) rfl (wanted_b rfl rfl (hD 10 15 (by kernel_rfl)) (eq_true_of hb)) (exec_ltn (p := i) (q := 8) rfl ((hD 11 16 (by kernel_rfl)).1 hb) rfl) rfl)) ?_
    refine sv 14 rfl rfl rfl (fun a u hE hD hk => exec_pickand (.tmp 15) (.tmp 17) (.const (.bool false)) ((((decide ((0 : Int) ≤ (n : Int))) && (decide ((n : Int) < (32 : Int)))) && (decide ((0 : Int) ≤ (i : Int))))) ((decide ((i : Int) < (8 : Int)))) rfl (hD 10 15 (by kernel_rfl)) (fun hb2 => ((hD 12 17 (by kernel_rfl)).1 hb2)) rfl) ?_
    refine sv 15 rfl rfl rfl (fun a u hE hD hk => exec_assign (.tmp 18) _ rfl (hD 13 18 (by kernel_rfl))) ?_
    exact fsteps_nil
  intro gv w0 hV k0
  rw [show dstsOf _ 15 = [5, 6, 7, 8, 9, 10, 11, 12, 13, 14, 15, 16, 17, 18, 4] by kernel_rfl]
  simp only [List.foldl_cons, List.foldl_nil, List.setIfInBounds_toArray, List.set_cons_succ, List.set_cons_zero, List.drop_succ_cons, List.drop_zero]
  rw [show gv 4 = .bool ((((decide ((0 : Int) ≤ (n : Int))) && (decide ((n : Int) < (32 : Int)))) && (decide ((0 : Int) ≤ (i : Int)))) && (decide ((i : Int) < (8 : Int)))) from hV 14 4 (by kernel_rfl)]
  clear hV
  refine wpList_nil ?_
  go_wp2
  go_ret
  exact ⟨(congrArg Value.bool (th_eq n i)).symm ▸ rfl, k0⟩
theorem ropens_any (g : Nat) (B : Bal) (L : Nat → Int) (hO : B.Ok) (n i q : Int) (w : World) (hB : Blk w g 43 (B.rc L)) : Calls Try.prog 24 #[.pointer (some ⟨g, 0, none⟩), .int .i64 n, .int .i64 i, .int .i64 q] w fun e w' => e = .returned (.bool (opB B n i q)) ∧ Blk w' g 43 ((opM B n i q).rc L) ∧ Keep (· = g) w w' := by
  have HB := Lib.hid hB
  clear hB
  cases h1 : thB n i && wiB q (-1048576) 1048576 with
  | false =>
    have e1 : opB B n i q = false := by unfold opB; rw [h1]; rfl
    rw [op_no e1, e1]
    have H1 : Hid ((((!thB n i) || decide (q < -1048576)) || decide (1048576 < q)) = true) := by
      show _ = _
      cases ht : thB n i with
      | false => rfl
      | true =>
        rw [ht, Bool.true_and, wiB_not] at h1
        rw [Bool.or_eq_true, Bool.or_eq_true, decide_eq_true_eq, decide_eq_true_eq]
        omega
    clear h1 e1
    go_enter Try.func24, Try.ntmps24
    go_upto_region 1 with fail
    refine wp_text 40 [.eq (.int .i64 n), .eq (.int .i64 i), .eq (.bool (thB n i)), .eq (.bool (!(thB n i))), .eq (.bool (!(thB n i))), .cond (!(!(thB n i))) (.eq (.int .i64 q)), .cond (!(!(thB n i))) (.eq (.bool (decide ((q : Int) < ((-1048576) : Int))))), .eq (.bool ((!(thB n i)) || (decide ((q : Int) < ((-1048576) : Int))))), .eq (.bool ((!(thB n i)) || (decide ((q : Int) < ((-1048576) : Int))))), .cond (!((!(thB n i)) || (decide ((q : Int) < ((-1048576) : Int))))) (.eq (.int .i64 q)), .cond (!((!(thB n i)) || (decide ((q : Int) < ((-1048576) : Int))))) (.eq (.bool (decide ((1048576 : Int) < (q : Int))))), .eq (.bool true), .eq (.bool true), .eq undef, .eq undef, .eq undef, .eq undef, .eq undef, .eq undef, .eq undef, .eq undef, .eq undef, .eq undef, .eq undef, .eq undef, .eq (.bool true), .eq (.bool true), .eq undef, .eq undef, .eq undef, .eq undef, .eq undef, .eq undef, .eq undef, .eq undef, .eq undef, .eq undef, .eq undef, .eq undef, .eq (.bool true)] rfl (by kernel_rfl) ?_ ?_
    · refine sv 1 rfl rfl rfl (fun a u hE hD hk => exec_move (.tmp 1) _ rfl (hE 1 (.int .i64 n) (by kernel_rfl) (by kernel_rfl))) ?_
      refine sv 2 rfl rfl rfl (fun a u hE hD hk => exec_move (.tmp 2) _ rfl (hE 2 (.int .i64 i) (by kernel_rfl) (by kernel_rfl))) ?_
      refine fsteps_cons 3 rfl (fun a u hE hD hk => f_call (o := ⟨some 11, _, _, _, _, _⟩) 27 #[.int .i64 n, .int .i64 i] rfl (wanted_none rfl _) (exec_call 27 _ [.tmp 9, .tmp 10] _ [.int .i64 n, .int .i64 i] Try.func27 (by kernel_rfl) (by kernel_rfl) rfl (show [a.eval (.tmp 9), a.eval (.tmp 10)] = [.int .i64 n, .int .i64 i] from (by rw [show a.eval (.tmp 9) = .int .i64 n from (hD 0 9 (by kernel_rfl)), show a.eval (.tmp 10) = .int .i64 i from (hD 1 10 (by kernel_rfl))] <;> rfl)) u) (rplace_any n i u)) ?_
      refine sv 4 rfl rfl rfl (fun a u hE hD hk => exec_not _ (.tmp 11) (thB n i) rfl (hD 2 11 (by kernel_rfl))) ?_
      refine sv 5 rfl rfl rfl (fun a u hE hD hk => exec_move (.tmp 12) _ rfl (hD 3 12 (by kernel_rfl))) ?_
      refine fsteps_cons 6 rfl (fun a u hE hD hk => f_unless ((!(thB n i))) rfl rfl rfl (hD 4 13 (by kernel_rfl)) (fun hb => f_val (o := ⟨some 14, _, _, _, _, _⟩) (.int .i64 q) rfl (wanted_b rfl rfl (hD 4 13 (by kernel_rfl)) (eq_false_of hb)) (exec_move (.tmp 3) _ rfl (hE 3 (.int .i64 q) (by kernel_rfl) (by kernel_rfl))) rfl)) ?_
      refine fsteps_cons 7 rfl (fun a u hE hD hk => f_unless ((!(thB n i))) rfl rfl rfl (hD 4 13 (by kernel_rfl)) (fun hb => f_val (o := ⟨some 15, _, _, _, _, _⟩) (.bool (decide ((q : Int) < ((-1048576) : Int)))) rfl (wanted_b rfl rfl (hD 4 13 (by kernel_rfl)) (eq_false_of hb)) (exec_ltn (p := q) (q := (-1048576)) rfl ((hD 5 14 (by kernel_rfl)).1 hb) rfl) rfl)) ?_
      refine sv 8 rfl rfl rfl (fun a u hE hD hk => exec_pickor (.tmp 13) (.const (.bool true)) (.tmp 15) ((!(thB n i))) ((decide ((q : Int) < ((-1048576) : Int)))) rfl (hD 4 13 (by kernel_rfl)) rfl (fun hb2 => ((hD 6 15 (by kernel_rfl)).1 hb2))) ?_
      refine sv 9 rfl rfl rfl (fun a u hE hD hk => exec_move (.tmp 16) _ rfl (hD 7 16 (by kernel_rfl))) ?_
      refine fsteps_cons 10 rfl (fun a u hE hD hk => f_unless (((!(thB n i)) || (decide ((q : Int) < ((-1048576) : Int))))) rfl rfl rfl (hD 8 17 (by kernel_rfl)) (fun hb => f_val (o := ⟨some 18, _, _, _, _, _⟩) (.int .i64 q) rfl (wanted_b rfl rfl (hD 8 17 (by kernel_rfl)) (eq_false_of hb)) (exec_move (.tmp 3) _ rfl (hE 3 (.int .i64 q) (by kernel_rfl) (by kernel_rfl))) rfl)) ?_
      refine fsteps_cons 11 rfl (fun a u hE hD hk => f_unless (((!(thB n i)) || (decide ((q : Int) < ((-1048576) : Int))))) rfl rfl rfl (hD 8 17 (by kernel_rfl)) (fun hb => f_val (o := ⟨some 19, _, _, _, _, _⟩) (.bool (decide ((1048576 : Int) < (q : Int)))) rfl (wanted_b rfl rfl (hD 8 17 (by kernel_rfl)) (eq_false_of hb)) (exec_gtn (p := q) (q := 1048576) rfl ((hD 9 18 (by kernel_rfl)).1 hb) rfl) rfl)) ?_
      refine fsteps_cons 12 rfl (fun a u hE hD hk => f_as (show ((((!(thB n i)) || (decide ((q : Int) < ((-1048576) : Int)))) || (decide ((1048576 : Int) < (q : Int)))) : Bool) = true from H1.out) (f_val (o := ⟨some 20, _, _, _, _, _⟩) (.bool (((!(thB n i)) || (decide ((q : Int) < ((-1048576) : Int)))) || (decide ((1048576 : Int) < (q : Int))))) rfl (wanted_none rfl _) (exec_pickor (.tmp 17) (.const (.bool true)) (.tmp 19) (((!(thB n i)) || (decide ((q : Int) < ((-1048576) : Int))))) ((decide ((1048576 : Int) < (q : Int)))) rfl (hD 8 17 (by kernel_rfl)) rfl (fun hb2 => ((hD 10 19 (by kernel_rfl)).1 hb2))) rfl)) ?_
      refine sv 13 rfl rfl rfl (fun a u hE hD hk => exec_move (.tmp 20) _ rfl (hD 11 20 (by kernel_rfl))) ?_
      refine fsteps_cons 14 rfl (fun a u hE hD hk => f_skip (o := ⟨some 22, _, _, _, _, _⟩) rfl (wanted_at (b := false) true rfl rfl (hD 12 21 (by kernel_rfl))) rfl) ?_
      refine fsteps_cons 15 rfl (fun a u hE hD hk => f_skip (o := ⟨some 23, _, _, _, _, _⟩) rfl (wanted_at (b := false) true rfl rfl (hD 12 21 (by kernel_rfl))) rfl) ?_
      refine fsteps_cons 16 rfl (fun a u hE hD hk => f_skip (o := ⟨some 24, _, _, _, _, _⟩) rfl (wanted_at (b := false) true rfl rfl (hD 12 21 (by kernel_rfl))) rfl) ?_
      refine fsteps_cons 17 rfl (fun a u hE hD hk => f_skip (o := ⟨some 25, _, _, _, _, _⟩) rfl (wanted_at (b := false) true rfl rfl (hD 12 21 (by kernel_rfl))) rfl) ?_
      refine fsteps_cons 18 rfl (fun a u hE hD hk => f_skip (o := ⟨some 26, _, _, _, _, _⟩) rfl (wanted_at (b := false) true rfl rfl (hD 12 21 (by kernel_rfl))) rfl) ?_
      refine fsteps_cons 19 rfl (fun a u hE hD hk => f_skip (o := ⟨some 27, _, _, _, _, _⟩) rfl (wanted_at (b := false) true rfl rfl (hD 12 21 (by kernel_rfl))) rfl) ?_
      refine fsteps_cons 20 rfl (fun a u hE hD hk => f_skip (o := ⟨some 28, _, _, _, _, _⟩) rfl (wanted_at (b := false) true rfl rfl (hD 12 21 (by kernel_rfl))) rfl) ?_
      refine fsteps_cons 21 rfl (fun a u hE hD hk => f_skip (o := ⟨some 29, _, _, _, _, _⟩) rfl (wanted_at (b := false) true rfl rfl (hD 12 21 (by kernel_rfl))) rfl) ?_
      refine fsteps_cons 22 rfl (fun a u hE hD hk => f_skip (o := ⟨some 30, _, _, _, _, _⟩) rfl (wanted_at (b := false) true rfl rfl (hD 12 21 (by kernel_rfl))) rfl) ?_
      refine fsteps_cons 23 rfl (fun a u hE hD hk => f_skip (o := ⟨some 31, _, _, _, _, _⟩) rfl (wanted_at (b := false) true rfl rfl (hD 12 21 (by kernel_rfl))) rfl) ?_
      refine fsteps_cons 24 rfl (fun a u hE hD hk => f_skip (o := ⟨some 32, _, _, _, _, _⟩) rfl (wanted_at (b := false) true rfl rfl (hD 12 21 (by kernel_rfl))) rfl) ?_
      refine fsteps_cons 25 rfl (fun a u hE hD hk => f_skip (o := ⟨some 33, _, _, _, _, _⟩) rfl (wanted_at (b := false) true rfl rfl (hD 12 21 (by kernel_rfl))) rfl) ?_
      refine sv 26 rfl rfl rfl (fun a u hE hD hk => exec_pick (.tmp 21) (.const (.bool true)) (.tmp 33) (.bool true) rfl (hD 12 21 (by kernel_rfl)) rfl) ?_
      refine sv 27 rfl rfl rfl (fun a u hE hD hk => exec_move (.tmp 34) _ rfl (hD 25 34 (by kernel_rfl))) ?_
      refine fsteps_cons 28 rfl (fun a u hE hD hk => f_skip (o := ⟨some 36, _, _, _, _, _⟩) rfl (wanted_at (b := false) true rfl rfl (hD 26 35 (by kernel_rfl))) rfl) ?_
      refine fsteps_cons 29 rfl (fun a u hE hD hk => f_skip (o := ⟨some 37, _, _, _, _, _⟩) rfl (wanted_at (b := false) true rfl rfl (hD 26 35 (by kernel_rfl))) rfl) ?_
      refine fsteps_cons 30 rfl (fun a u hE hD hk => f_skip (o := ⟨some 38, _, _, _, _, _⟩) rfl (wanted_at (b := false) true rfl rfl (hD 26 35 (by kernel_rfl))) rfl) ?_
      refine fsteps_cons 31 rfl (fun a u hE hD hk => f_skip (o := ⟨some 39, _, _, _, _, _⟩) rfl (wanted_at (b := false) true rfl rfl (hD 26 35 (by kernel_rfl))) rfl) ?_
      refine fsteps_cons 32 rfl (fun a u hE hD hk => f_skip (o := ⟨some 40, _, _, _, _, _⟩) rfl (wanted_at (b := false) true rfl rfl (hD 26 35 (by kernel_rfl))) rfl) ?_
      refine fsteps_cons 33 rfl (fun a u hE hD hk => f_skip (o := ⟨some 41, _, _, _, _, _⟩) rfl (wanted_at (b := false) true rfl rfl (hD 26 35 (by kernel_rfl))) rfl) ?_
      refine fsteps_cons 34 rfl (fun a u hE hD hk => f_skip (o := ⟨some 42, _, _, _, _, _⟩) rfl (wanted_at (b := false) true rfl rfl (hD 26 35 (by kernel_rfl))) rfl) ?_
      refine fsteps_cons 35 rfl (fun a u hE hD hk => f_skip (o := ⟨some 43, _, _, _, _, _⟩) rfl (wanted_at (b := false) true rfl rfl (hD 26 35 (by kernel_rfl))) rfl) ?_
      refine fsteps_cons 36 rfl (fun a u hE hD hk => f_skip (o := ⟨some 44, _, _, _, _, _⟩) rfl (wanted_at (b := false) true rfl rfl (hD 26 35 (by kernel_rfl))) rfl) ?_
      refine fsteps_cons 37 rfl (fun a u hE hD hk => f_skip (o := ⟨some 45, _, _, _, _, _⟩) rfl (wanted_at (b := false) true rfl rfl (hD 26 35 (by kernel_rfl))) rfl) ?_
      refine fsteps_cons 38 rfl (fun a u hE hD hk => f_skip (o := ⟨some 46, _, _, _, _, _⟩) rfl (wanted_at (b := false) true rfl rfl (hD 26 35 (by kernel_rfl))) rfl) ?_
      refine fsteps_cons 39 rfl (fun a u hE hD hk => f_skip (o := ⟨some 47, _, _, _, _, _⟩) rfl (wanted_at (b := false) true rfl rfl (hD 26 35 (by kernel_rfl))) rfl) ?_
      refine sv 40 rfl rfl rfl (fun a u hE hD hk => exec_pick (.tmp 35) (.const (.bool true)) (.tmp 47) (.bool true) rfl (hD 26 35 (by kernel_rfl)) rfl) ?_
      exact fsteps_nil
    intro gv w0 hV kw
    rw [show dstsOf _ 40 = [9, 10, 11, 12, 13, 14, 15, 16, 17, 18, 19, 20, 21, 22, 23, 24, 25, 26, 27, 28, 29, 30, 31, 32, 33, 34, 35, 36, 37, 38, 39, 40, 41, 42, 43, 44, 45, 46, 47, 48] by kernel_rfl]
    simp only [List.foldl_cons, List.foldl_nil, List.setIfInBounds_toArray, List.set_cons_succ, List.set_cons_zero, List.drop_succ_cons, List.drop_zero]
    rw [show gv 48 = .bool true from hV 39 48 (by kernel_rfl)]
    clear hV
    refine wpList_nil ?_
    have HB1 := HB.out.kept kw
    have kz : Keep (· = g) w w0 := kw.mono fun _ _ h => h.elim
    go_wp2
    go_ret
    exact ⟨rfl, HB1, kz⟩
  | true =>
    have H1 : Hid ((((!thB n i) || decide (q < -1048576)) || decide (1048576 < q)) = false) := by
      show _ = _
      rw [Bool.and_eq_true, wiB_iff] at h1
      rw [h1.1, decide_eq_false (by omega), decide_eq_false (by omega)]
      rfl
    rw [Bool.and_eq_true] at h1
    obtain ⟨ht, hq⟩ := h1
    obtain ⟨m, j, hm, hj, rfl, rfl⟩ := thB_yes ht
    rw [wiB_iff] at hq
    obtain ⟨hq0, hq1⟩ := hq
    have HX : Hid ((B.rc L)[128 + m * 16 + j]? = some (.int .i64 (B.o m j))) := by show _ = _; unfold Bal.rc; rw [lay_at _ (by omega), rf_o B L hj]
    have hb := hO.o m j
    cases h2 : decide (B.o m j + q < 0) || decide (1099511627776 < B.o m j + q) with
    | true =>
      have e1 : opB B (m : Int) (j : Int) q = false := by
        unfold opB Bal.oAt
        rw [pick2_in _ hm hj]
        rw [Bool.or_eq_true, decide_eq_true_eq, decide_eq_true_eq] at h2
        rw [wiB_not.2 h2, Bool.and_false]
      rw [op_no e1, e1]
      have H2 := Lib.hid h2
      clear e1 h2 ht
      go_enter Try.func24, Try.ntmps24
      go_upto_region 1 with fail
      refine wp_text 40 [.eq (.int .i64 (m : Int)), .eq (.int .i64 (j : Int)), .eq (.bool (thB (m : Int) (j : Int))), .eq (.bool (!(thB (m : Int) (j : Int)))), .eq (.bool (!(thB (m : Int) (j : Int)))), .cond (!(!(thB (m : Int) (j : Int)))) (.eq (.int .i64 q)), .cond (!(!(thB (m : Int) (j : Int)))) (.eq (.bool (decide ((q : Int) < ((-1048576) : Int))))), .eq (.bool ((!(thB (m : Int) (j : Int))) || (decide ((q : Int) < ((-1048576) : Int))))), .eq (.bool ((!(thB (m : Int) (j : Int))) || (decide ((q : Int) < ((-1048576) : Int))))), .cond (!((!(thB (m : Int) (j : Int))) || (decide ((q : Int) < ((-1048576) : Int))))) (.eq (.int .i64 q)), .cond (!((!(thB (m : Int) (j : Int))) || (decide ((q : Int) < ((-1048576) : Int))))) (.eq (.bool (decide ((1048576 : Int) < (q : Int))))), .eq (.bool false), .eq (.bool false), .eq (.pointer (some ⟨g, 0, none⟩)), .eq (.int .i64 (m : Int)), .eq (.int .i64 (j : Int)), .eq (.pointer (some ⟨g, 0, none⟩)), .eq (.pointer (some ⟨g, 128, none⟩)), .eq (.pointer (some ⟨g, 128 + m * 16, none⟩)), .eq (.pointer (some ⟨g, 128 + m * 16, none⟩)), .eq (.pointer (some ⟨g, 128 + m * 16 + j, none⟩)), .eq (.int .i64 (B.o m j)), .eq (.int .i64 q), .eq (.int .i64 (((B.o m j) : Int) + (q : Int))), .eq (.bool (decide (((((B.o m j) : Int) + (q : Int)) : Int) < (0 : Int)))), .eq (.bool (decide (((((B.o m j) : Int) + (q : Int)) : Int) < (0 : Int)))), .eq (.bool (decide (((((B.o m j) : Int) + (q : Int)) : Int) < (0 : Int)))), .cond (!(decide (((((B.o m j) : Int) + (q : Int)) : Int) < (0 : Int)))) (.eq (.pointer (some ⟨g, 0, none⟩))), .cond (!(decide (((((B.o m j) : Int) + (q : Int)) : Int) < (0 : Int)))) (.eq (.int .i64 (m : Int))), .cond (!(decide (((((B.o m j) : Int) + (q : Int)) : Int) < (0 : Int)))) (.eq (.int .i64 (j : Int))), .cond (!(decide (((((B.o m j) : Int) + (q : Int)) : Int) < (0 : Int)))) (.eq (.pointer (some ⟨g, 0, none⟩))), .cond (!(decide (((((B.o m j) : Int) + (q : Int)) : Int) < (0 : Int)))) (.eq (.pointer (some ⟨g, 128, none⟩))), .cond (!(decide (((((B.o m j) : Int) + (q : Int)) : Int) < (0 : Int)))) (.eq (.pointer (some ⟨g, 128 + m * 16, none⟩))), .cond (!(decide (((((B.o m j) : Int) + (q : Int)) : Int) < (0 : Int)))) (.eq (.pointer (some ⟨g, 128 + m * 16, none⟩))), .cond (!(decide (((((B.o m j) : Int) + (q : Int)) : Int) < (0 : Int)))) (.eq (.pointer (some ⟨g, 128 + m * 16 + j, none⟩))), .cond (!(decide (((((B.o m j) : Int) + (q : Int)) : Int) < (0 : Int)))) (.eq (.int .i64 (B.o m j))), .cond (!(decide (((((B.o m j) : Int) + (q : Int)) : Int) < (0 : Int)))) (.eq (.int .i64 q)), .cond (!(decide (((((B.o m j) : Int) + (q : Int)) : Int) < (0 : Int)))) (.eq (.int .i64 (((B.o m j) : Int) + (q : Int)))), .cond (!(decide (((((B.o m j) : Int) + (q : Int)) : Int) < (0 : Int)))) (.eq (.bool (decide ((1099511627776 : Int) < ((((B.o m j) : Int) + (q : Int)) : Int))))), .eq (.bool true)] rfl (by kernel_rfl) ?_ ?_
      · refine sv 1 rfl rfl rfl (fun a u hE hD hk => exec_move (.tmp 1) _ rfl (hE 1 (.int .i64 (m : Int)) (by kernel_rfl) (by kernel_rfl))) ?_
        refine sv 2 rfl rfl rfl (fun a u hE hD hk => exec_move (.tmp 2) _ rfl (hE 2 (.int .i64 (j : Int)) (by kernel_rfl) (by kernel_rfl))) ?_
        refine fsteps_cons 3 rfl (fun a u hE hD hk => f_call (o := ⟨some 11, _, _, _, _, _⟩) 27 #[.int .i64 (m : Int), .int .i64 (j : Int)] rfl (wanted_none rfl _) (exec_call 27 _ [.tmp 9, .tmp 10] _ [.int .i64 (m : Int), .int .i64 (j : Int)] Try.func27 (by kernel_rfl) (by kernel_rfl) rfl (show [a.eval (.tmp 9), a.eval (.tmp 10)] = [.int .i64 (m : Int), .int .i64 (j : Int)] from (by rw [show a.eval (.tmp 9) = .int .i64 (m : Int) from (hD 0 9 (by kernel_rfl)), show a.eval (.tmp 10) = .int .i64 (j : Int) from (hD 1 10 (by kernel_rfl))] <;> rfl)) u) (rplace_any _ _ u)) ?_
        refine sv 4 rfl rfl rfl (fun a u hE hD hk => exec_not _ (.tmp 11) (thB (m : Int) (j : Int)) rfl (hD 2 11 (by kernel_rfl))) ?_
        refine sv 5 rfl rfl rfl (fun a u hE hD hk => exec_move (.tmp 12) _ rfl (hD 3 12 (by kernel_rfl))) ?_
        refine fsteps_cons 6 rfl (fun a u hE hD hk => f_unless ((!(thB (m : Int) (j : Int)))) rfl rfl rfl (hD 4 13 (by kernel_rfl)) (fun hb => f_val (o := ⟨some 14, _, _, _, _, _⟩) (.int .i64 q) rfl (wanted_b rfl rfl (hD 4 13 (by kernel_rfl)) (eq_false_of hb)) (exec_move (.tmp 3) _ rfl (hE 3 (.int .i64 q) (by kernel_rfl) (by kernel_rfl))) rfl)) ?_
        refine fsteps_cons 7 rfl (fun a u hE hD hk => f_unless ((!(thB (m : Int) (j : Int)))) rfl rfl rfl (hD 4 13 (by kernel_rfl)) (fun hb => f_val (o := ⟨some 15, _, _, _, _, _⟩) (.bool (decide ((q : Int) < ((-1048576) : Int)))) rfl (wanted_b rfl rfl (hD 4 13 (by kernel_rfl)) (eq_false_of hb)) (exec_ltn (p := q) (q := (-1048576)) rfl ((hD 5 14 (by kernel_rfl)).1 hb) rfl) rfl)) ?_
        refine sv 8 rfl rfl rfl (fun a u hE hD hk => exec_pickor (.tmp 13) (.const (.bool true)) (.tmp 15) ((!(thB (m : Int) (j : Int)))) ((decide ((q : Int) < ((-1048576) : Int)))) rfl (hD 4 13 (by kernel_rfl)) rfl (fun hb2 => ((hD 6 15 (by kernel_rfl)).1 hb2))) ?_
        refine sv 9 rfl rfl rfl (fun a u hE hD hk => exec_move (.tmp 16) _ rfl (hD 7 16 (by kernel_rfl))) ?_
        refine fsteps_cons 10 rfl (fun a u hE hD hk => f_unless (((!(thB (m : Int) (j : Int))) || (decide ((q : Int) < ((-1048576) : Int))))) rfl rfl rfl (hD 8 17 (by kernel_rfl)) (fun hb => f_val (o := ⟨some 18, _, _, _, _, _⟩) (.int .i64 q) rfl (wanted_b rfl rfl (hD 8 17 (by kernel_rfl)) (eq_false_of hb)) (exec_move (.tmp 3) _ rfl (hE 3 (.int .i64 q) (by kernel_rfl) (by kernel_rfl))) rfl)) ?_
        refine fsteps_cons 11 rfl (fun a u hE hD hk => f_unless (((!(thB (m : Int) (j : Int))) || (decide ((q : Int) < ((-1048576) : Int))))) rfl rfl rfl (hD 8 17 (by kernel_rfl)) (fun hb => f_val (o := ⟨some 19, _, _, _, _, _⟩) (.bool (decide ((1048576 : Int) < (q : Int)))) rfl (wanted_b rfl rfl (hD 8 17 (by kernel_rfl)) (eq_false_of hb)) (exec_gtn (p := q) (q := 1048576) rfl ((hD 9 18 (by kernel_rfl)).1 hb) rfl) rfl)) ?_
        refine fsteps_cons 12 rfl (fun a u hE hD hk => f_as (show ((((!(thB (m : Int) (j : Int))) || (decide ((q : Int) < ((-1048576) : Int)))) || (decide ((1048576 : Int) < (q : Int)))) : Bool) = false from H1.out) (f_val (o := ⟨some 20, _, _, _, _, _⟩) (.bool (((!(thB (m : Int) (j : Int))) || (decide ((q : Int) < ((-1048576) : Int)))) || (decide ((1048576 : Int) < (q : Int))))) rfl (wanted_none rfl _) (exec_pickor (.tmp 17) (.const (.bool true)) (.tmp 19) (((!(thB (m : Int) (j : Int))) || (decide ((q : Int) < ((-1048576) : Int))))) ((decide ((1048576 : Int) < (q : Int)))) rfl (hD 8 17 (by kernel_rfl)) rfl (fun hb2 => ((hD 10 19 (by kernel_rfl)).1 hb2))) rfl)) ?_
        refine sv 13 rfl rfl rfl (fun a u hE hD hk => exec_move (.tmp 20) _ rfl (hD 11 20 (by kernel_rfl))) ?_
        refine fsteps_cons 14 rfl (fun a u hE hD hk => f_val (o := ⟨some 22, _, _, _, _, _⟩) (.pointer (some ⟨g, 0, none⟩)) rfl (wanted_at (b := false) false rfl rfl (hD 12 21 (by kernel_rfl))) (exec_move (.tmp 0) _ rfl (hE 0 (.pointer (some ⟨g, 0, none⟩)) (by kernel_rfl) (by kernel_rfl))) rfl) ?_
        refine fsteps_cons 15 rfl (fun a u hE hD hk => f_val (o := ⟨some 23, _, _, _, _, _⟩) (.int .i64 (m : Int)) rfl (wanted_at (b := false) false rfl rfl (hD 12 21 (by kernel_rfl))) (exec_move (.tmp 1) _ rfl (hE 1 (.int .i64 (m : Int)) (by kernel_rfl) (by kernel_rfl))) rfl) ?_
        refine fsteps_cons 16 rfl (fun a u hE hD hk => f_val (o := ⟨some 24, _, _, _, _, _⟩) (.int .i64 (j : Int)) rfl (wanted_at (b := false) false rfl rfl (hD 12 21 (by kernel_rfl))) (exec_move (.tmp 2) _ rfl (hE 2 (.int .i64 (j : Int)) (by kernel_rfl) (by kernel_rfl))) rfl) ?_
        refine fsteps_cons 17 rfl (fun a u hE hD hk => f_val (o := ⟨some 25, _, _, _, _, _⟩) (.pointer (some ⟨g, 0, none⟩)) rfl (wanted_at (b := false) false rfl rfl (hD 12 21 (by kernel_rfl))) (exec_nilp (.tmp 22) ⟨g, 0, none⟩ rfl (hD 13 22 (by kernel_rfl))) rfl) ?_
        refine fsteps_cons 18 rfl (fun a u hE hD hk => f_val (o := ⟨some 26, _, _, _, _, _⟩) (.pointer (some ⟨g, 128, none⟩)) rfl (wanted_at (b := false) false rfl rfl (hD 12 21 (by kernel_rfl))) (exec_fldo 43 1 128 (.tmp 25) (g) (0) (128) rfl (hD 16 25 (by kernel_rfl)) (by kernel_rfl) rfl) rfl) ?_
        refine fsteps_cons 19 rfl (fun a u hE hD hk => f_val (o := ⟨some 27, _, _, _, _, _⟩) (.pointer (some ⟨g, 128 + m * 16, none⟩)) rfl (wanted_at (b := false) false rfl rfl (hD 12 21 (by kernel_rfl))) (exec_ixK 16 41 40 32 (.tmp 26) (.tmp 23) (g) (128) (128 + m * 16) m ((m : Int)) rfl Try.underlying41 (by kernel_rfl) (hD 17 26 (by kernel_rfl)) (hD 14 23 (by kernel_rfl)) (by first | rfl | omega) (hm) (by first | rfl | omega)) rfl) ?_
        refine fsteps_cons 20 rfl (fun a u hE hD hk => f_val (o := ⟨some 28, _, _, _, _, _⟩) (.pointer (some ⟨g, 128 + m * 16, none⟩)) rfl (wanted_at (b := false) false rfl rfl (hD 12 21 (by kernel_rfl))) (exec_fldo 40 0 0 (.tmp 27) (g) (128 + m * 16) (128 + m * 16) rfl (hD 18 27 (by kernel_rfl)) (by kernel_rfl) rfl) rfl) ?_
        refine fsteps_cons 21 rfl (fun a u hE hD hk => f_val (o := ⟨some 29, _, _, _, _, _⟩) (.pointer (some ⟨g, 128 + m * 16 + j, none⟩)) rfl (wanted_at (b := false) false rfl rfl (hD 12 21 (by kernel_rfl))) (exec_ixK 1 38 3 8 (.tmp 28) (.tmp 24) (g) (128 + m * 16) (128 + m * 16 + j) j ((j : Int)) rfl Try.underlying38 (by kernel_rfl) (hD 19 28 (by kernel_rfl)) (hD 15 24 (by kernel_rfl)) (by first | rfl | omega) (hj) (by first | rfl | omega)) rfl) ?_
        refine fsteps_cons 22 rfl (fun a u hE hD hk => f_val (o := ⟨some 30, _, _, _, _, _⟩) (.int .i64 (B.o m j)) rfl (wanted_at (b := false) false rfl rfl (hD 12 21 (by kernel_rfl))) (exec_loadi 3 Try.underlying3 (.tmp 29) ⟨g, 128 + m * 16 + j, none⟩ (.int .i64 (B.o m j)) rfl (hD 20 29 (by kernel_rfl)) (Kept.cell hk (((HB.out.cell _).trans HX.out)))) rfl) ?_
        refine fsteps_cons 23 rfl (fun a u hE hD hk => f_val (o := ⟨some 31, _, _, _, _, _⟩) (.int .i64 q) rfl (wanted_at (b := false) false rfl rfl (hD 12 21 (by kernel_rfl))) (exec_move (.tmp 3) _ rfl (hE 3 (.int .i64 q) (by kernel_rfl) (by kernel_rfl))) rfl) ?_
        refine fsteps_cons 24 rfl (fun a u hE hD hk => f_val (o := ⟨some 32, _, _, _, _, _⟩) (.int .i64 (((B.o m j) : Int) + (q : Int))) rfl (wanted_at (b := false) false rfl rfl (hD 12 21 (by kernel_rfl))) (exec_addn (p := ((B.o m j))) (q := (q)) (((B.o m j) : Int) + (q : Int)) rfl (hD 21 30 (by kernel_rfl)) (hD 22 31 (by kernel_rfl)) rfl (by omega) (by omega)) rfl) ?_
        refine fsteps_cons 25 rfl (fun a u hE hD hk => f_val (o := ⟨some 33, _, _, _, _, _⟩) (.bool (decide (((((B.o m j) : Int) + (q : Int)) : Int) < (0 : Int)))) rfl (wanted_at (b := false) false rfl rfl (hD 12 21 (by kernel_rfl))) (exec_ltn (p := (((B.o m j) : Int) + (q : Int))) (q := 0) rfl (hD 23 32 (by kernel_rfl)) rfl) rfl) ?_
        refine sv 26 rfl rfl rfl (fun a u hE hD hk => exec_pickF (.tmp 21) (.const (.bool true)) (.tmp 33) (.bool (decide (((((B.o m j) : Int) + (q : Int)) : Int) < (0 : Int)))) rfl (hD 12 21 (by kernel_rfl)) (hD 24 33 (by kernel_rfl))) ?_
        refine sv 27 rfl rfl rfl (fun a u hE hD hk => exec_move (.tmp 34) _ rfl (hD 25 34 (by kernel_rfl))) ?_
        refine fsteps_cons 28 rfl (fun a u hE hD hk => f_unless ((decide (((((B.o m j) : Int) + (q : Int)) : Int) < (0 : Int)))) rfl rfl rfl (hD 26 35 (by kernel_rfl)) (fun hb => f_val (o := ⟨some 36, _, _, _, _, _⟩) (.pointer (some ⟨g, 0, none⟩)) rfl (wanted_b rfl rfl (hD 26 35 (by kernel_rfl)) (eq_false_of hb)) (exec_move (.tmp 0) _ rfl (hE 0 (.pointer (some ⟨g, 0, none⟩)) (by kernel_rfl) (by kernel_rfl))) rfl)) ?_
        refine fsteps_cons 29 rfl (fun a u hE hD hk => f_unless ((decide (((((B.o m j) : Int) + (q : Int)) : Int) < (0 : Int)))) rfl rfl rfl (hD 26 35 (by kernel_rfl)) (fun hb => f_val (o := ⟨some 37, _, _, _, _, _⟩) (.int .i64 (m : Int)) rfl (wanted_b rfl rfl (hD 26 35 (by kernel_rfl)) (eq_false_of hb)) (exec_move (.tmp 1) _ rfl (hE 1 (.int .i64 (m : Int)) (by kernel_rfl) (by kernel_rfl))) rfl)) ?_
        refine fsteps_cons 30 rfl (fun a u hE hD hk => f_unless ((decide (((((B.o m j) : Int) + (q : Int)) : Int) < (0 : Int)))) rfl rfl rfl (hD 26 35 (by kernel_rfl)) (fun hb => f_val (o := ⟨some 38, _, _, _, _, _⟩) (.int .i64 (j : Int)) rfl (wanted_b rfl rfl (hD 26 35 (by kernel_rfl)) (eq_false_of hb)) (exec_move (.tmp 2) _ rfl (hE 2 (.int .i64 (j : Int)) (by kernel_rfl) (by kernel_rfl))) rfl)) ?_
        refine fsteps_cons 31 rfl (fun a u hE hD hk => f_unless ((decide (((((B.o m j) : Int) + (q : Int)) : Int) < (0 : Int)))) rfl rfl rfl (hD 26 35 (by kernel_rfl)) (fun hb => f_val (o := ⟨some 39, _, _, _, _, _⟩) (.pointer (some ⟨g, 0, none⟩)) rfl (wanted_b rfl rfl (hD 26 35 (by kernel_rfl)) (eq_false_of hb)) (exec_nilp (.tmp 36) ⟨g, 0, none⟩ rfl ((hD 27 36 (by kernel_rfl)).1 hb)) rfl)) ?_
        refine fsteps_cons 32 rfl (fun a u hE hD hk => f_unless ((decide (((((B.o m j) : Int) + (q : Int)) : Int) < (0 : Int)))) rfl rfl rfl (hD 26 35 (by kernel_rfl)) (fun hb => f_val (o := ⟨some 40, _, _, _, _, _⟩) (.pointer (some ⟨g, 128, none⟩)) rfl (wanted_b rfl rfl (hD 26 35 (by kernel_rfl)) (eq_false_of hb)) (exec_fldo 43 1 128 (.tmp 39) (g) (0) (128) rfl ((hD 30 39 (by kernel_rfl)).1 hb) (by kernel_rfl) rfl) rfl)) ?_
        refine fsteps_cons 33 rfl (fun a u hE hD hk => f_unless ((decide (((((B.o m j) : Int) + (q : Int)) : Int) < (0 : Int)))) rfl rfl rfl (hD 26 35 (by kernel_rfl)) (fun hb => f_val (o := ⟨some 41, _, _, _, _, _⟩) (.pointer (some ⟨g, 128 + m * 16, none⟩)) rfl (wanted_b rfl rfl (hD 26 35 (by kernel_rfl)) (eq_false_of hb)) (exec_ixK 16 41 40 32 (.tmp 40) (.tmp 37) (g) (128) (128 + m * 16) m ((m : Int)) rfl Try.underlying41 (by kernel_rfl) ((hD 31 40 (by kernel_rfl)).1 hb) ((hD 28 37 (by kernel_rfl)).1 hb) (by first | rfl | omega) (hm) (by first | rfl | omega)) rfl)) ?_
        refine fsteps_cons 34 rfl (fun a u hE hD hk => f_unless ((decide (((((B.o m j) : Int) + (q : Int)) : Int) < (0 : Int)))) rfl rfl rfl (hD 26 35 (by kernel_rfl)) (fun hb => f_val (o := ⟨some 42, _, _, _, _, _⟩) (.pointer (some ⟨g, 128 + m * 16, none⟩)) rfl (wanted_b rfl rfl (hD 26 35 (by kernel_rfl)) (eq_false_of hb)) (exec_fldo 40 0 0 (.tmp 41) (g) (128 + m * 16) (128 + m * 16) rfl ((hD 32 41 (by kernel_rfl)).1 hb) (by kernel_rfl) rfl) rfl)) ?_
        refine fsteps_cons 35 rfl (fun a u hE hD hk => f_unless ((decide (((((B.o m j) : Int) + (q : Int)) : Int) < (0 : Int)))) rfl rfl rfl (hD 26 35 (by kernel_rfl)) (fun hb => f_val (o := ⟨some 43, _, _, _, _, _⟩) (.pointer (some ⟨g, 128 + m * 16 + j, none⟩)) rfl (wanted_b rfl rfl (hD 26 35 (by kernel_rfl)) (eq_false_of hb)) (exec_ixK 1 38 3 8 (.tmp 42) (.tmp 38) (g) (128 + m * 16) (128 + m * 16 + j) j ((j : Int)) rfl Try.underlying38 (by kernel_rfl) ((hD 33 42 (by kernel_rfl)).1 hb) ((hD 29 38 (by kernel_rfl)).1 hb) (by first | rfl | omega) (hj) (by first | rfl | omega)) rfl)) ?_
        refine fsteps_cons 36 rfl (fun a u hE hD hk => f_unless ((decide (((((B.o m j) : Int) + (q : Int)) : Int) < (0 : Int)))) rfl rfl rfl (hD 26 35 (by kernel_rfl)) (fun hb => f_val (o := ⟨some 44, _, _, _, _, _⟩) (.int .i64 (B.o m j)) rfl (wanted_b rfl rfl (hD 26 35 (by kernel_rfl)) (eq_false_of hb)) (exec_loadi 3 Try.underlying3 (.tmp 43) ⟨g, 128 + m * 16 + j, none⟩ (.int .i64 (B.o m j)) rfl ((hD 34 43 (by kernel_rfl)).1 hb) (Kept.cell hk (((HB.out.cell _).trans HX.out)))) rfl)) ?_
        refine fsteps_cons 37 rfl (fun a u hE hD hk => f_unless ((decide (((((B.o m j) : Int) + (q : Int)) : Int) < (0 : Int)))) rfl rfl rfl (hD 26 35 (by kernel_rfl)) (fun hb => f_val (o := ⟨some 45, _, _, _, _, _⟩) (.int .i64 q) rfl (wanted_b rfl rfl (hD 26 35 (by kernel_rfl)) (eq_false_of hb)) (exec_move (.tmp 3) _ rfl (hE 3 (.int .i64 q) (by kernel_rfl) (by kernel_rfl))) rfl)) ?_
        refine fsteps_cons 38 rfl (fun a u hE hD hk => f_unless ((decide (((((B.o m j) : Int) + (q : Int)) : Int) < (0 : Int)))) rfl rfl rfl (hD 26 35 (by kernel_rfl)) (fun hb => f_val (o := ⟨some 46, _, _, _, _, _⟩) (.int .i64 (((B.o m j) : Int) + (q : Int))) rfl (wanted_b rfl rfl (hD 26 35 (by kernel_rfl)) (eq_false_of hb)) (exec_addn (p := ((B.o m j))) (q := (q)) (((B.o m j) : Int) + (q : Int)) rfl ((hD 35 44 (by kernel_rfl)).1 hb) ((hD 36 45 (by kernel_rfl)).1 hb) rfl (by omega) (by omega)) rfl)) ?_
        refine fsteps_cons 39 rfl (fun a u hE hD hk => f_unless ((decide (((((B.o m j) : Int) + (q : Int)) : Int) < (0 : Int)))) rfl rfl rfl (hD 26 35 (by kernel_rfl)) (fun hb => f_val (o := ⟨some 47, _, _, _, _, _⟩) (.bool (decide ((1099511627776 : Int) < ((((B.o m j) : Int) + (q : Int)) : Int)))) rfl (wanted_b rfl rfl (hD 26 35 (by kernel_rfl)) (eq_false_of hb)) (exec_gtn (p := (((B.o m j) : Int) + (q : Int))) (q := 1099511627776) rfl ((hD 37 46 (by kernel_rfl)).1 hb) rfl) rfl)) ?_
        refine fsteps_cons 40 rfl (fun a u hE hD hk => f_as (show (((decide (((((B.o m j) : Int) + (q : Int)) : Int) < (0 : Int))) || (decide ((1099511627776 : Int) < ((((B.o m j) : Int) + (q : Int)) : Int)))) : Bool) = true from H2.out) (f_val (o := ⟨some 48, _, _, _, _, _⟩) (.bool ((decide (((((B.o m j) : Int) + (q : Int)) : Int) < (0 : Int))) || (decide ((1099511627776 : Int) < ((((B.o m j) : Int) + (q : Int)) : Int))))) rfl (wanted_none rfl _) (exec_pickor (.tmp 35) (.const (.bool true)) (.tmp 47) ((decide (((((B.o m j) : Int) + (q : Int)) : Int) < (0 : Int)))) ((decide ((1099511627776 : Int) < ((((B.o m j) : Int) + (q : Int)) : Int)))) rfl (hD 26 35 (by kernel_rfl)) rfl (fun hb2 => ((hD 38 47 (by kernel_rfl)).1 hb2))) rfl)) ?_
        exact fsteps_nil
      intro gv w0 hV kw
      rw [show dstsOf _ 40 = [9, 10, 11, 12, 13, 14, 15, 16, 17, 18, 19, 20, 21, 22, 23, 24, 25, 26, 27, 28, 29, 30, 31, 32, 33, 34, 35, 36, 37, 38, 39, 40, 41, 42, 43, 44, 45, 46, 47, 48] by kernel_rfl]
      simp only [List.foldl_cons, List.foldl_nil, List.setIfInBounds_toArray, List.set_cons_succ, List.set_cons_zero, List.drop_succ_cons, List.drop_zero]
      rw [show gv 48 = .bool true from hV 39 48 (by kernel_rfl)]
      clear hV
      refine wpList_nil ?_
      have HB1 := HB.out.kept kw
      have kz : Keep (· = g) w w0 := kw.mono fun _ _ h => h.elim
      go_wp2
      go_ret
      exact ⟨rfl, HB1, kz⟩
    | false =>
      have h3 := h2
      rw [Bool.or_eq_false_iff, decide_eq_false_iff_not, decide_eq_false_iff_not] at h3
      obtain ⟨e1, e2⟩ := op_in (B := B) hm hj hq0 hq1 (by omega) (by omega)
      rw [e1, e2]
      obtain ⟨cs, hcs⟩ : ∃ cs, (Bal.mk (upd B.o m j (B.o m j + q)) B.p).rc L = cs := ⟨_, rfl⟩
      rw [hcs]
      have HS : Hid ((B.rc L).set (128 + m * 16 + j) (.int .i64 (B.o m j + q)) = cs) := by show _ = _; rw [← hcs]; exact rc_setO B L hm hj _
      have hl : 128 + m * 16 + j < (B.rc L).length := by unfold Bal.rc; rw [lay_len]; omega
      have H2 := Lib.hid h2
      clear e1 e2 hcs h2 ht
      go_enter Try.func24, Try.ntmps24
      go_upto_region 1 with fail
      refine wp_text 40 [.eq (.int .i64 (m : Int)), .eq (.int .i64 (j : Int)), .eq (.bool (thB (m : Int) (j : Int))), .eq (.bool (!(thB (m : Int) (j : Int)))), .eq (.bool (!(thB (m : Int) (j : Int)))), .cond (!(!(thB (m : Int) (j : Int)))) (.eq (.int .i64 q)), .cond (!(!(thB (m : Int) (j : Int)))) (.eq (.bool (decide ((q : Int) < ((-1048576) : Int))))), .eq (.bool ((!(thB (m : Int) (j : Int))) || (decide ((q : Int) < ((-1048576) : Int))))), .eq (.bool ((!(thB (m : Int) (j : Int))) || (decide ((q : Int) < ((-1048576) : Int))))), .cond (!((!(thB (m : Int) (j : Int))) || (decide ((q : Int) < ((-1048576) : Int))))) (.eq (.int .i64 q)), .cond (!((!(thB (m : Int) (j : Int))) || (decide ((q : Int) < ((-1048576) : Int))))) (.eq (.bool (decide ((1048576 : Int) < (q : Int))))), .eq (.bool false), .eq (.bool false), .eq (.pointer (some ⟨g, 0, none⟩)), .eq (.int .i64 (m : Int)), .eq (.int .i64 (j : Int)), .eq (.pointer (some ⟨g, 0, none⟩)), .eq (.pointer (some ⟨g, 128, none⟩)), .eq (.pointer (some ⟨g, 128 + m * 16, none⟩)), .eq (.pointer (some ⟨g, 128 + m * 16, none⟩)), .eq (.pointer (some ⟨g, 128 + m * 16 + j, none⟩)), .eq (.int .i64 (B.o m j)), .eq (.int .i64 q), .eq (.int .i64 (((B.o m j) : Int) + (q : Int))), .eq (.bool (decide (((((B.o m j) : Int) + (q : Int)) : Int) < (0 : Int)))), .eq (.bool (decide (((((B.o m j) : Int) + (q : Int)) : Int) < (0 : Int)))), .eq (.bool (decide (((((B.o m j) : Int) + (q : Int)) : Int) < (0 : Int)))), .cond (!(decide (((((B.o m j) : Int) + (q : Int)) : Int) < (0 : Int)))) (.eq (.pointer (some ⟨g, 0, none⟩))), .cond (!(decide (((((B.o m j) : Int) + (q : Int)) : Int) < (0 : Int)))) (.eq (.int .i64 (m : Int))), .cond (!(decide (((((B.o m j) : Int) + (q : Int)) : Int) < (0 : Int)))) (.eq (.int .i64 (j : Int))), .cond (!(decide (((((B.o m j) : Int) + (q : Int)) : Int) < (0 : Int)))) (.eq (.pointer (some ⟨g, 0, none⟩))), .cond (!(decide (((((B.o m j) : Int) + (q : Int)) : Int) < (0 : Int)))) (.eq (.pointer (some ⟨g, 128, none⟩))), .cond (!(decide (((((B.o m j) : Int) + (q : Int)) : Int) < (0 : Int)))) (.eq (.pointer (some ⟨g, 128 + m * 16, none⟩))), .cond (!(decide (((((B.o m j) : Int) + (q : Int)) : Int) < (0 : Int)))) (.eq (.pointer (some ⟨g, 128 + m * 16, none⟩))), .cond (!(decide (((((B.o m j) : Int) + (q : Int)) : Int) < (0 : Int)))) (.eq (.pointer (some ⟨g, 128 + m * 16 + j, none⟩))), .cond (!(decide (((((B.o m j) : Int) + (q : Int)) : Int) < (0 : Int)))) (.eq (.int .i64 (B.o m j))), .cond (!(decide (((((B.o m j) : Int) + (q : Int)) : Int) < (0 : Int)))) (.eq (.int .i64 q)), .cond (!(decide (((((B.o m j) : Int) + (q : Int)) : Int) < (0 : Int)))) (.eq (.int .i64 (((B.o m j) : Int) + (q : Int)))), .cond (!(decide (((((B.o m j) : Int) + (q : Int)) : Int) < (0 : Int)))) (.eq (.bool (decide ((1099511627776 : Int) < ((((B.o m j) : Int) + (q : Int)) : Int))))), .eq (.bool false)] rfl (by kernel_rfl) ?_ ?_
      · refine sv 1 rfl rfl rfl (fun a u hE hD hk => exec_move (.tmp 1) _ rfl (hE 1 (.int .i64 (m : Int)) (by kernel_rfl) (by kernel_rfl))) ?_
        refine sv 2 rfl rfl rfl (fun a u hE hD hk => exec_move (.tmp 2) _ rfl (hE 2 (.int .i64 (j : Int)) (by kernel_rfl) (by kernel_rfl))) ?_
        refine fsteps_cons 3 rfl (fun a u hE hD hk => f_call (o := ⟨some 11, _, _, _, _, _⟩) 27 #[.int .i64 (m : Int), .int .i64 (j : Int)] rfl (wanted_none rfl _) (exec_call 27 _ [.tmp 9, .tmp 10] _ [.int .i64 (m : Int), .int .i64 (j : Int)] Try.func27 (by kernel_rfl) (by kernel_rfl) rfl (show [a.eval (.tmp 9), a.eval (.tmp 10)] = [.int .i64 (m : Int), .int .i64 (j : Int)] from (by rw [show a.eval (.tmp 9) = .int .i64 (m : Int) from (hD 0 9 (by kernel_rfl)), show a.eval (.tmp 10) = .int .i64 (j : Int) from (hD 1 10 (by kernel_rfl))] <;> rfl)) u) (rplace_any _ _ u)) ?_
        refine sv 4 rfl rfl rfl (fun a u hE hD hk => exec_not _ (.tmp 11) (thB (m : Int) (j : Int)) rfl (hD 2 11 (by kernel_rfl))) ?_
        refine sv 5 rfl rfl rfl (fun a u hE hD hk => exec_move (.tmp 12) _ rfl (hD 3 12 (by kernel_rfl))) ?_
        refine fsteps_cons 6 rfl (fun a u hE hD hk => f_unless ((!(thB (m : Int) (j : Int)))) rfl rfl rfl (hD 4 13 (by kernel_rfl)) (fun hb => f_val (o := ⟨some 14, _, _, _, _, _⟩) (.int .i64 q) rfl (wanted_b rfl rfl (hD 4 13 (by kernel_rfl)) (eq_false_of hb)) (exec_move (.tmp 3) _ rfl (hE 3 (.int .i64 q) (by kernel_rfl) (by kernel_rfl))) rfl)) ?_
        refine fsteps_cons 7 rfl (fun a u hE hD hk => f_unless ((!(thB (m : Int) (j : Int)))) rfl rfl rfl (hD 4 13 (by kernel_rfl)) (fun hb => f_val (o := ⟨some 15, _, _, _, _, _⟩) (.bool (decide ((q : Int) < ((-1048576) : Int)))) rfl (wanted_b rfl rfl (hD 4 13 (by kernel_rfl)) (eq_false_of hb)) (exec_ltn (p := q) (q := (-1048576)) rfl ((hD 5 14 (by kernel_rfl)).1 hb) rfl) rfl)) ?_
        refine sv 8 rfl rfl rfl (fun a u hE hD hk => exec_pickor (.tmp 13) (.const (.bool true)) (.tmp 15) ((!(thB (m : Int) (j : Int)))) ((decide ((q : Int) < ((-1048576) : Int)))) rfl (hD 4 13 (by kernel_rfl)) rfl (fun hb2 => ((hD 6 15 (by kernel_rfl)).1 hb2))) ?_
        refine sv 9 rfl rfl rfl (fun a u hE hD hk => exec_move (.tmp 16) _ rfl (hD 7 16 (by kernel_rfl))) ?_
        refine fsteps_cons 10 rfl (fun a u hE hD hk => f_unless (((!(thB (m : Int) (j : Int))) || (decide ((q : Int) < ((-1048576) : Int))))) rfl rfl rfl (hD 8 17 (by kernel_rfl)) (fun hb => f_val (o := ⟨some 18, _, _, _, _, _⟩) (.int .i64 q) rfl (wanted_b rfl rfl (hD 8 17 (by kernel_rfl)) (eq_false_of hb)) (exec_move (.tmp 3) _ rfl (hE 3 (.int .i64 q) (by kernel_rfl) (by kernel_rfl))) rfl)) ?_
        refine fsteps_cons 11 rfl (fun a u hE hD hk => f_unless (((!(thB (m : Int) (j : Int))) || (decide ((q : Int) < ((-1048576) : Int))))) rfl rfl rfl (hD 8 17 (by kernel_rfl)) (fun hb => f_val (o := ⟨some 19, _, _, _, _, _⟩) (.bool (decide ((1048576 : Int) < (q : Int)))) rfl (wanted_b rfl rfl (hD 8 17 (by kernel_rfl)) (eq_false_of hb)) (exec_gtn (p := q) (q := 1048576) rfl ((hD 9 18 (by kernel_rfl)).1 hb) rfl) rfl)) ?_
        refine fsteps_cons 12 rfl (fun a u hE hD hk => f_as (show ((((!(thB (m : Int) (j : Int))) || (decide ((q : Int) < ((-1048576) : Int)))) || (decide ((1048576 : Int) < (q : Int)))) : Bool) = false from H1.out) (f_val (o := ⟨some 20, _, _, _, _, _⟩) (.bool (((!(thB (m : Int) (j : Int))) || (decide ((q : Int) < ((-1048576) : Int)))) || (decide ((1048576 : Int) < (q : Int))))) rfl (wanted_none rfl _) (exec_pickor (.tmp 17) (.const (.bool true)) (.tmp 19) (((!(thB (m : Int) (j : Int))) || (decide ((q : Int) < ((-1048576) : Int))))) ((decide ((1048576 : Int) < (q : Int)))) rfl (hD 8 17 (by kernel_rfl)) rfl (fun hb2 => ((hD 10 19 (by kernel_rfl)).1 hb2))) rfl)) ?_
        refine sv 13 rfl rfl rfl (fun a u hE hD hk => exec_move (.tmp 20) _ rfl (hD 11 20 (by kernel_rfl))) ?_
        refine fsteps_cons 14 rfl (fun a u hE hD hk => f_val (o := ⟨some 22, _, _, _, _, _⟩) (.pointer (some ⟨g, 0, none⟩)) rfl (wanted_at (b := false) false rfl rfl (hD 12 21 (by kernel_rfl))) (exec_move (.tmp 0) _ rfl (hE 0 (.pointer (some ⟨g, 0, none⟩)) (by kernel_rfl) (by kernel_rfl))) rfl) ?_
        refine fsteps_cons 15 rfl (fun a u hE hD hk => f_val (o := ⟨some 23, _, _, _, _, _⟩) (.int .i64 (m : Int)) rfl (wanted_at (b := false) false rfl rfl (hD 12 21 (by kernel_rfl))) (exec_move (.tmp 1) _ rfl (hE 1 (.int .i64 (m : Int)) (by kernel_rfl) (by kernel_rfl))) rfl) ?_
        refine fsteps_cons 16 rfl (fun a u hE hD hk => f_val (o := ⟨some 24, _, _, _, _, _⟩) (.int .i64 (j : Int)) rfl (wanted_at (b := false) false rfl rfl (hD 12 21 (by kernel_rfl))) (exec_move (.tmp 2) _ rfl (hE 2 (.int .i64 (j : Int)) (by kernel_rfl) (by kernel_rfl))) rfl) ?_
        refine fsteps_cons 17 rfl (fun a u hE hD hk => f_val (o := ⟨some 25, _, _, _, _, _⟩) (.pointer (some ⟨g, 0, none⟩)) rfl (wanted_at (b := false) false rfl rfl (hD 12 21 (by kernel_rfl))) (exec_nilp (.tmp 22) ⟨g, 0, none⟩ rfl (hD 13 22 (by kernel_rfl))) rfl) ?_
        refine fsteps_cons 18 rfl (fun a u hE hD hk => f_val (o := ⟨some 26, _, _, _, _, _⟩) (.pointer (some ⟨g, 128, none⟩)) rfl (wanted_at (b := false) false rfl rfl (hD 12 21 (by kernel_rfl))) (exec_fldo 43 1 128 (.tmp 25) (g) (0) (128) rfl (hD 16 25 (by kernel_rfl)) (by kernel_rfl) rfl) rfl) ?_
        refine fsteps_cons 19 rfl (fun a u hE hD hk => f_val (o := ⟨some 27, _, _, _, _, _⟩) (.pointer (some ⟨g, 128 + m * 16, none⟩)) rfl (wanted_at (b := false) false rfl rfl (hD 12 21 (by kernel_rfl))) (exec_ixK 16 41 40 32 (.tmp 26) (.tmp 23) (g) (128) (128 + m * 16) m ((m : Int)) rfl Try.underlying41 (by kernel_rfl) (hD 17 26 (by kernel_rfl)) (hD 14 23 (by kernel_rfl)) (by first | rfl | omega) (hm) (by first | rfl | omega)) rfl) ?_
        refine fsteps_cons 20 rfl (fun a u hE hD hk => f_val (o := ⟨some 28, _, _, _, _, _⟩) (.pointer (some ⟨g, 128 + m * 16, none⟩)) rfl (wanted_at (b := false) false rfl rfl (hD 12 21 (by kernel_rfl))) (exec_fldo 40 0 0 (.tmp 27) (g) (128 + m * 16) (128 + m * 16) rfl (hD 18 27 (by kernel_rfl)) (by kernel_rfl) rfl) rfl) ?_
        refine fsteps_cons 21 rfl (fun a u hE hD hk => f_val (o := ⟨some 29, _, _, _, _, _⟩) (.pointer (some ⟨g, 128 + m * 16 + j, none⟩)) rfl (wanted_at (b := false) false rfl rfl (hD 12 21 (by kernel_rfl))) (exec_ixK 1 38 3 8 (.tmp 28) (.tmp 24) (g) (128 + m * 16) (128 + m * 16 + j) j ((j : Int)) rfl Try.underlying38 (by kernel_rfl) (hD 19 28 (by kernel_rfl)) (hD 15 24 (by kernel_rfl)) (by first | rfl | omega) (hj) (by first | rfl | omega)) rfl) ?_
        refine fsteps_cons 22 rfl (fun a u hE hD hk => f_val (o := ⟨some 30, _, _, _, _, _⟩) (.int .i64 (B.o m j)) rfl (wanted_at (b := false) false rfl rfl (hD 12 21 (by kernel_rfl))) (exec_loadi 3 Try.underlying3 (.tmp 29) ⟨g, 128 + m * 16 + j, none⟩ (.int .i64 (B.o m j)) rfl (hD 20 29 (by kernel_rfl)) (Kept.cell hk (((HB.out.cell _).trans HX.out)))) rfl) ?_
        refine fsteps_cons 23 rfl (fun a u hE hD hk => f_val (o := ⟨some 31, _, _, _, _, _⟩) (.int .i64 q) rfl (wanted_at (b := false) false rfl rfl (hD 12 21 (by kernel_rfl))) (exec_move (.tmp 3) _ rfl (hE 3 (.int .i64 q) (by kernel_rfl) (by kernel_rfl))) rfl) ?_
        refine fsteps_cons 24 rfl (fun a u hE hD hk => f_val (o := ⟨some 32, _, _, _, _, _⟩) (.int .i64 (((B.o m j) : Int) + (q : Int))) rfl (wanted_at (b := false) false rfl rfl (hD 12 21 (by kernel_rfl))) (exec_addn (p := ((B.o m j))) (q := (q)) (((B.o m j) : Int) + (q : Int)) rfl (hD 21 30 (by kernel_rfl)) (hD 22 31 (by kernel_rfl)) rfl (by omega) (by omega)) rfl) ?_
        refine fsteps_cons 25 rfl (fun a u hE hD hk => f_val (o := ⟨some 33, _, _, _, _, _⟩) (.bool (decide (((((B.o m j) : Int) + (q : Int)) : Int) < (0 : Int)))) rfl (wanted_at (b := false) false rfl rfl (hD 12 21 (by kernel_rfl))) (exec_ltn (p := (((B.o m j) : Int) + (q : Int))) (q := 0) rfl (hD 23 32 (by kernel_rfl)) rfl) rfl) ?_
        refine sv 26 rfl rfl rfl (fun a u hE hD hk => exec_pickF (.tmp 21) (.const (.bool true)) (.tmp 33) (.bool (decide (((((B.o m j) : Int) + (q : Int)) : Int) < (0 : Int)))) rfl (hD 12 21 (by kernel_rfl)) (hD 24 33 (by kernel_rfl))) ?_
        refine sv 27 rfl rfl rfl (fun a u hE hD hk => exec_move (.tmp 34) _ rfl (hD 25 34 (by kernel_rfl))) ?_
        refine fsteps_cons 28 rfl (fun a u hE hD hk => f_unless ((decide (((((B.o m j) : Int) + (q : Int)) : Int) < (0 : Int)))) rfl rfl rfl (hD 26 35 (by kernel_rfl)) (fun hb => f_val (o := ⟨some 36, _, _, _, _, _⟩) (.pointer (some ⟨g, 0, none⟩)) rfl (wanted_b rfl rfl (hD 26 35 (by kernel_rfl)) (eq_false_of hb)) (exec_move (.tmp 0) _ rfl (hE 0 (.pointer (some ⟨g, 0, none⟩)) (by kernel_rfl) (by kernel_rfl))) rfl)) ?_
        refine fsteps_cons 29 rfl (fun a u hE hD hk => f_unless ((decide (((((B.o m j) : Int) + (q : Int)) : Int) < (0 : Int)))) rfl rfl rfl (hD 26 35 (by kernel_rfl)) (fun hb => f_val (o := ⟨some 37, _, _, _, _, _⟩) (.int .i64 (m : Int)) rfl (wanted_b rfl rfl (hD 26 35 (by kernel_rfl)) (eq_false_of hb)) (exec_move (.tmp 1) _ rfl (hE 1 (.int .i64 (m : Int)) (by kernel_rfl) (by kernel_rfl))) rfl)) ?_
        refine fsteps_cons 30 rfl (fun a u hE hD hk => f_unless ((decide (((((B.o m j) : Int) + (q : Int)) : Int) < (0 : Int)))) rfl rfl rfl (hD 26 35 (by kernel_rfl)) (fun hb => f_val (o := ⟨some 38, _, _, _, _, _⟩) (.int .i64 (j : Int)) rfl (wanted_b rfl rfl (hD 26 35 (by kernel_rfl)) (eq_false_of hb)) (exec_move (.tmp 2) _ rfl (hE 2 (.int .i64 (j : Int)) (by kernel_rfl) (by kernel_rfl))) rfl)) ?_
        refine fsteps_cons 31 rfl (fun a u hE hD hk => f_unless ((decide (((((B.o m j) : Int) + (q : Int)) : Int) < (0 : Int)))) rfl rfl rfl (hD 26 35 (by kernel_rfl)) (fun hb => f_val (o := ⟨some 39, _, _, _, _, _⟩) (.pointer (some ⟨g, 0, none⟩)) rfl (wanted_b rfl rfl (hD 26 35 (by kernel_rfl)) (eq_false_of hb)) (exec_nilp (.tmp 36) ⟨g, 0, none⟩ rfl ((hD 27 36 (by kernel_rfl)).1 hb)) rfl)) ?_
        refine fsteps_cons 32 rfl (fun a u hE hD hk => f_unless ((decide (((((B.o m j) : Int) + (q : Int)) : Int) < (0 : Int)))) rfl rfl rfl (hD 26 35 (by kernel_rfl)) (fun hb => f_val (o := ⟨some 40, _, _, _, _, _⟩) (.pointer (some ⟨g, 128, none⟩)) rfl (wanted_b rfl rfl (hD 26 35 (by kernel_rfl)) (eq_false_of hb)) (exec_fldo 43 1 128 (.tmp 39) (g) (0) (128) rfl ((hD 30 39 (by kernel_rfl)).1 hb) (by kernel_rfl) rfl) rfl)) ?_
        refine fsteps_cons 33 rfl (fun a u hE hD hk => f_unless ((decide (((((B.o m j) : Int) + (q : Int)) : Int) < (0 : Int)))) rfl rfl rfl (hD 26 35 (by kernel_rfl)) (fun hb => f_val (o := ⟨some 41, _, _, _, _, _⟩) (.pointer (some ⟨g, 128 + m * 16, none⟩)) rfl (wanted_b rfl rfl (hD 26 35 (by kernel_rfl)) (eq_false_of hb)) (exec_ixK 16 41 40 32 (.tmp 40) (.tmp 37) (g) (128) (128 + m * 16) m ((m : Int)) rfl Try.underlying41 (by kernel_rfl) ((hD 31 40 (by kernel_rfl)).1 hb) ((hD 28 37 (by kernel_rfl)).1 hb) (by first | rfl | omega) (hm) (by first | rfl | omega)) rfl)) ?_
        refine fsteps_cons 34 rfl (fun a u hE hD hk => f_unless ((decide (((((B.o m j) : Int) + (q : Int)) : Int) < (0 : Int)))) rfl rfl rfl (hD 26 35 (by kernel_rfl)) (fun hb => f_val (o := ⟨some 42, _, _, _, _, _⟩) (.pointer (some ⟨g, 128 + m * 16, none⟩)) rfl (wanted_b rfl rfl (hD 26 35 (by kernel_rfl)) (eq_false_of hb)) (exec_fldo 40 0 0 (.tmp 41) (g) (128 + m * 16) (128 + m * 16) rfl ((hD 32 41 (by kernel_rfl)).1 hb) (by kernel_rfl) rfl) rfl)) ?_
        refine fsteps_cons 35 rfl (fun a u hE hD hk => f_unless ((decide (((((B.o m j) : Int) + (q : Int)) : Int) < (0 : Int)))) rfl rfl rfl (hD 26 35 (by kernel_rfl)) (fun hb => f_val (o := ⟨some 43, _, _, _, _, _⟩) (.pointer (some ⟨g, 128 + m * 16 + j, none⟩)) rfl (wanted_b rfl rfl (hD 26 35 (by kernel_rfl)) (eq_false_of hb)) (exec_ixK 1 38 3 8 (.tmp 42) (.tmp 38) (g) (128 + m * 16) (128 + m * 16 + j) j ((j : Int)) rfl Try.underlying38 (by kernel_rfl) ((hD 33 42 (by kernel_rfl)).1 hb) ((hD 29 38 (by kernel_rfl)).1 hb) (by first | rfl | omega) (hj) (by first | rfl | omega)) rfl)) ?_
        refine fsteps_cons 36 rfl (fun a u hE hD hk => f_unless ((decide (((((B.o m j) : Int) + (q : Int)) : Int) < (0 : Int)))) rfl rfl rfl (hD 26 35 (by kernel_rfl)) (fun hb => f_val (o := ⟨some 44, _, _, _, _, _⟩) (.int .i64 (B.o m j)) rfl (wanted_b rfl rfl (hD 26 35 (by kernel_rfl)) (eq_false_of hb)) (exec_loadi 3 Try.underlying3 (.tmp 43) ⟨g, 128 + m * 16 + j, none⟩ (.int .i64 (B.o m j)) rfl ((hD 34 43 (by kernel_rfl)).1 hb) (Kept.cell hk (((HB.out.cell _).trans HX.out)))) rfl)) ?_
        refine fsteps_cons 37 rfl (fun a u hE hD hk => f_unless ((decide (((((B.o m j) : Int) + (q : Int)) : Int) < (0 : Int)))) rfl rfl rfl (hD 26 35 (by kernel_rfl)) (fun hb => f_val (o := ⟨some 45, _, _, _, _, _⟩) (.int .i64 q) rfl (wanted_b rfl rfl (hD 26 35 (by kernel_rfl)) (eq_false_of hb)) (exec_move (.tmp 3) _ rfl (hE 3 (.int .i64 q) (by kernel_rfl) (by kernel_rfl))) rfl)) ?_
        refine fsteps_cons 38 rfl (fun a u hE hD hk => f_unless ((decide (((((B.o m j) : Int) + (q : Int)) : Int) < (0 : Int)))) rfl rfl rfl (hD 26 35 (by kernel_rfl)) (fun hb => f_val (o := ⟨some 46, _, _, _, _, _⟩) (.int .i64 (((B.o m j) : Int) + (q : Int))) rfl (wanted_b rfl rfl (hD 26 35 (by kernel_rfl)) (eq_false_of hb)) (exec_addn (p := ((B.o m j))) (q := (q)) (((B.o m j) : Int) + (q : Int)) rfl ((hD 35 44 (by kernel_rfl)).1 hb) ((hD 36 45 (by kernel_rfl)).1 hb) rfl (by omega) (by omega)) rfl)) ?_
        refine fsteps_cons 39 rfl (fun a u hE hD hk => f_unless ((decide (((((B.o m j) : Int) + (q : Int)) : Int) < (0 : Int)))) rfl rfl rfl (hD 26 35 (by kernel_rfl)) (fun hb => f_val (o := ⟨some 47, _, _, _, _, _⟩) (.bool (decide ((1099511627776 : Int) < ((((B.o m j) : Int) + (q : Int)) : Int)))) rfl (wanted_b rfl rfl (hD 26 35 (by kernel_rfl)) (eq_false_of hb)) (exec_gtn (p := (((B.o m j) : Int) + (q : Int))) (q := 1099511627776) rfl ((hD 37 46 (by kernel_rfl)).1 hb) rfl) rfl)) ?_
        refine fsteps_cons 40 rfl (fun a u hE hD hk => f_as (show (((decide (((((B.o m j) : Int) + (q : Int)) : Int) < (0 : Int))) || (decide ((1099511627776 : Int) < ((((B.o m j) : Int) + (q : Int)) : Int)))) : Bool) = false from H2.out) (f_val (o := ⟨some 48, _, _, _, _, _⟩) (.bool ((decide (((((B.o m j) : Int) + (q : Int)) : Int) < (0 : Int))) || (decide ((1099511627776 : Int) < ((((B.o m j) : Int) + (q : Int)) : Int))))) rfl (wanted_none rfl _) (exec_pickor (.tmp 35) (.const (.bool true)) (.tmp 47) ((decide (((((B.o m j) : Int) + (q : Int)) : Int) < (0 : Int)))) ((decide ((1099511627776 : Int) < ((((B.o m j) : Int) + (q : Int)) : Int)))) rfl (hD 26 35 (by kernel_rfl)) rfl (fun hb2 => ((hD 38 47 (by kernel_rfl)).1 hb2))) rfl)) ?_
        exact fsteps_nil
      intro gv w0 hV k0
      rw [show dstsOf _ 40 = [9, 10, 11, 12, 13, 14, 15, 16, 17, 18, 19, 20, 21, 22, 23, 24, 25, 26, 27, 28, 29, 30, 31, 32, 33, 34, 35, 36, 37, 38, 39, 40, 41, 42, 43, 44, 45, 46, 47, 48] by kernel_rfl]
      simp only [List.foldl_cons, List.foldl_nil, List.setIfInBounds_toArray, List.set_cons_succ, List.set_cons_zero, List.drop_succ_cons, List.drop_zero]
      rw [show gv 48 = .bool false from hV 39 48 (by kernel_rfl)]
      clear hV
      refine wpList_nil ?_
      have HB0 := Lib.hid (HB.out.kept k0)
      clear HB
      go_upto_region 3 with fail
      refine wp_free 19 [.eq (.pointer (some ⟨g, 0, none⟩)), .eq (.int .i64 (m : Int)), .eq (.int .i64 (j : Int)), .eq (.pointer (some ⟨g, 0, none⟩)), .eq (.int .i64 (m : Int)), .eq (.int .i64 (j : Int)), .eq (.pointer (some ⟨g, 0, none⟩)), .eq (.pointer (some ⟨g, 128, none⟩)), .eq (.pointer (some ⟨g, 128 + m * 16, none⟩)), .eq (.pointer (some ⟨g, 128 + m * 16, none⟩)), .eq (.pointer (some ⟨g, 128 + m * 16 + j, none⟩)), .eq (.int .i64 (B.o m j)), .eq (.int .i64 q), .eq (.int .i64 (((B.o m j) : Int) + (q : Int))), .eq (.pointer (some ⟨g, 0, none⟩)), .eq (.pointer (some ⟨g, 128, none⟩)), .eq (.pointer (some ⟨g, 128 + m * 16, none⟩)), .eq (.pointer (some ⟨g, 128 + m * 16, none⟩)), .eq (.pointer (some ⟨g, 128 + m * 16 + j, none⟩))] (by kernel_rfl) rfl (by kernel_rfl) ?_ ?_
      · refine sv 1 rfl rfl rfl (fun a u hE hD hk => exec_move (.tmp 0) _ rfl (hE 0 (.pointer (some ⟨g, 0, none⟩)) (by kernel_rfl) (by kernel_rfl))) ?_
        refine sv 2 rfl rfl rfl (fun a u hE hD hk => exec_move (.tmp 1) _ rfl (hE 1 (.int .i64 (m : Int)) (by kernel_rfl) (by kernel_rfl))) ?_
        refine sv 3 rfl rfl rfl (fun a u hE hD hk => exec_move (.tmp 2) _ rfl (hE 2 (.int .i64 (j : Int)) (by kernel_rfl) (by kernel_rfl))) ?_
        refine sv 4 rfl rfl rfl (fun a u hE hD hk => exec_move (.tmp 0) _ rfl (hE 0 (.pointer (some ⟨g, 0, none⟩)) (by kernel_rfl) (by kernel_rfl))) ?_
        refine sv 5 rfl rfl rfl (fun a u hE hD hk => exec_move (.tmp 1) _ rfl (hE 1 (.int .i64 (m : Int)) (by kernel_rfl) (by kernel_rfl))) ?_
        refine sv 6 rfl rfl rfl (fun a u hE hD hk => exec_move (.tmp 2) _ rfl (hE 2 (.int .i64 (j : Int)) (by kernel_rfl) (by kernel_rfl))) ?_
        refine sv 7 rfl rfl rfl (fun a u hE hD hk => exec_nilp (.tmp 52) ⟨g, 0, none⟩ rfl (hD 3 52 (by kernel_rfl))) ?_
        refine sv 8 rfl rfl rfl (fun a u hE hD hk => exec_fldo 43 1 128 (.tmp 55) (g) (0) (128) rfl (hD 6 55 (by kernel_rfl)) (by kernel_rfl) rfl) ?_
        refine sv 9 rfl rfl rfl (fun a u hE hD hk => exec_ixK 16 41 40 32 (.tmp 56) (.tmp 53) (g) (128) (128 + m * 16) m ((m : Int)) rfl Try.underlying41 (by kernel_rfl) (hD 7 56 (by kernel_rfl)) (hD 4 53 (by kernel_rfl)) (by first | rfl | omega) (hm) (by first | rfl | omega)) ?_
        refine sv 10 rfl rfl rfl (fun a u hE hD hk => exec_fldo 40 0 0 (.tmp 57) (g) (128 + m * 16) (128 + m * 16) rfl (hD 8 57 (by kernel_rfl)) (by kernel_rfl) rfl) ?_
        refine sv 11 rfl rfl rfl (fun a u hE hD hk => exec_ixK 1 38 3 8 (.tmp 58) (.tmp 54) (g) (128 + m * 16) (128 + m * 16 + j) j ((j : Int)) rfl Try.underlying38 (by kernel_rfl) (hD 9 58 (by kernel_rfl)) (hD 5 54 (by kernel_rfl)) (by first | rfl | omega) (hj) (by first | rfl | omega)) ?_
        refine sv 12 rfl rfl rfl (fun a u hE hD hk => exec_loadi 3 Try.underlying3 (.tmp 59) ⟨g, 128 + m * 16 + j, none⟩ (.int .i64 (B.o m j)) rfl (hD 10 59 (by kernel_rfl)) (Kept.cell hk (((HB0.out.cell _).trans HX.out)))) ?_
        refine sv 13 rfl rfl rfl (fun a u hE hD hk => exec_move (.tmp 3) _ rfl (hE 3 (.int .i64 q) (by kernel_rfl) (by kernel_rfl))) ?_
        refine sv 14 rfl rfl rfl (fun a u hE hD hk => exec_addn (p := ((B.o m j))) (q := (q)) (((B.o m j) : Int) + (q : Int)) rfl (hD 11 60 (by kernel_rfl)) (hD 12 61 (by kernel_rfl)) rfl (by omega) (by omega)) ?_
        refine sv 15 rfl rfl rfl (fun a u hE hD hk => exec_nilp (.tmp 49) ⟨g, 0, none⟩ rfl (hD 0 49 (by kernel_rfl))) ?_
        refine sv 16 rfl rfl rfl (fun a u hE hD hk => exec_fldo 43 1 128 (.tmp 63) (g) (0) (128) rfl (hD 14 63 (by kernel_rfl)) (by kernel_rfl) rfl) ?_
        refine sv 17 rfl rfl rfl (fun a u hE hD hk => exec_ixK 16 41 40 32 (.tmp 64) (.tmp 50) (g) (128) (128 + m * 16) m ((m : Int)) rfl Try.underlying41 (by kernel_rfl) (hD 15 64 (by kernel_rfl)) (hD 1 50 (by kernel_rfl)) (by first | rfl | omega) (hm) (by first | rfl | omega)) ?_
        refine sv 18 rfl rfl rfl (fun a u hE hD hk => exec_fldo 40 0 0 (.tmp 65) (g) (128 + m * 16) (128 + m * 16) rfl (hD 16 65 (by kernel_rfl)) (by kernel_rfl) rfl) ?_
        refine sv 19 rfl rfl rfl (fun a u hE hD hk => exec_ixK 1 38 3 8 (.tmp 66) (.tmp 51) (g) (128 + m * 16) (128 + m * 16 + j) j ((j : Int)) rfl Try.underlying38 (by kernel_rfl) (hD 17 66 (by kernel_rfl)) (hD 2 51 (by kernel_rfl)) (by first | rfl | omega) (hj) (by first | rfl | omega)) ?_
        exact fsteps_nil
      intro gv wa hV ka
      rw [show dstsOf _ 19 = [49, 50, 51, 52, 53, 54, 55, 56, 57, 58, 59, 60, 61, 62, 63, 64, 65, 66, 67] by kernel_rfl]
      simp only [List.foldl_cons, List.foldl_nil, List.setIfInBounds_toArray, List.set_cons_succ, List.set_cons_zero, List.drop_succ_cons, List.drop_zero]
      rw [show gv 67 = .pointer (some ⟨g, 128 + m * 16 + j, none⟩) from hV 18 67 (by kernel_rfl)]
      rw [show gv 62 = .int .i64 (((B.o m j) : Int) + (q : Int)) from hV 13 62 (by kernel_rfl)]
      clear hV
      refine l_putN (o := ⟨none, _, _, _, _, _⟩) g (128 + m * 16 + j) 43 (B.rc L) cs (B.o m j + q) (.tmp 67) (.tmp 62) rfl rfl (by kernel_rfl) (by kernel_rfl) (HB0.out.kept ka) hl HS.out ?_
      intro wS hBS hkS hsS
      simp only [Act.put]
      refine wpList_nil ?_
      have kz : Keep (· = g) w wS := ((k0.trans ka).mono fun _ _ h => h.elim).trans hkS (fun _ _ h => h)
      go_wp2
      go_ret
      exact ⟨rfl, hBS, kz⟩
theorem tr_eq (t : Bool) (s q : Int) : ((t && wiB q 1 1048576) && sdB s) = !((((!t) || decide (q < 1)) || decide (1048576 < q)) || (decide (s ≠ 1) && decide (s ≠ 2))) := by
  have e1 : wiB q 1 1048576 = ((!decide (q < 1)) && (!decide (1048576 < q))) := by
    unfold wiB
    rw [Bool.eq_iff_iff]
    simp only [Bool.and_eq_true, Bool.not_eq_true', decide_eq_false_iff_not, decide_eq_true_eq]
    omega
  have e2 : sdB s = ((!decide (s ≠ 1)) || (!decide (s ≠ 2))) := by
    unfold sdB
    rw [Bool.eq_iff_iff]
    simp only [Bool.or_eq_true, Bool.not_eq_true', decide_eq_false_iff_not, decide_eq_true_eq]
    omega
  rw [e1, e2]
  cases t <;> cases decide (q < 1) <;> cases decide (1048576 < q) <;> cases decide (s ≠ 1) <;> cases decide (s ≠ 2) <;> rfl
theorem rtrades_any (g : Nat) (B : Bal) (L : Nat → Int) (hO : B.Ok) (n i s q : Int) (w : World) (hB : Blk w g 43 (B.rc L)) : Calls Try.prog 25 #[.pointer (some ⟨g, 0, none⟩), .int .i64 n, .int .i64 i, .int .i64 s, .int .i64 q] w fun e w' => e = .returned (.bool (trB B n i s q)) ∧ Blk w' g 43 ((trM B n i s q).rc L) ∧ Keep (· = g) w w' := by
  have HB := Lib.hid hB
  clear hB
  have hE := tr_eq (thB n i) s q
  cases h1 : (((!thB n i) || decide (q < 1)) || decide (1048576 < q)) || (decide (s ≠ 1) && decide (s ≠ 2)) with
  | true =>
    rw [h1] at hE
    have e1 : trB B n i s q = false := by unfold trB; rw [hE]; rfl
    rw [tr_no e1, e1]
    have H1 := Lib.hid h1
    clear h1 e1 hE
    go_enter Try.func25, Try.ntmps25
    go_upto_region 1 with fail
    refine wp_text 20 [.eq (.int .i64 n), .eq (.int .i64 i), .eq (.bool (thB n i)), .eq (.bool (!(thB n i))), .eq (.bool (!(thB n i))), .cond (!(!(thB n i))) (.eq (.int .i64 q)), .cond (!(!(thB n i))) (.eq (.bool (decide ((q : Int) < (1 : Int))))), .eq (.bool ((!(thB n i)) || (decide ((q : Int) < (1 : Int))))), .eq (.bool ((!(thB n i)) || (decide ((q : Int) < (1 : Int))))), .cond (!((!(thB n i)) || (decide ((q : Int) < (1 : Int))))) (.eq (.int .i64 q)), .cond (!((!(thB n i)) || (decide ((q : Int) < (1 : Int))))) (.eq (.bool (decide ((1048576 : Int) < (q : Int))))), .eq (.bool (((!(thB n i)) || (decide ((q : Int) < (1 : Int)))) || (decide ((1048576 : Int) < (q : Int))))), .eq (.bool (((!(thB n i)) || (decide ((q : Int) < (1 : Int)))) || (decide ((1048576 : Int) < (q : Int))))), .cond (!(((!(thB n i)) || (decide ((q : Int) < (1 : Int)))) || (decide ((1048576 : Int) < (q : Int))))) (.eq (.int .i64 s)), .cond (!(((!(thB n i)) || (decide ((q : Int) < (1 : Int)))) || (decide ((1048576 : Int) < (q : Int))))) (.eq (.bool (decide ((s : Int) ≠ (1 : Int))))), .cond (!(((!(thB n i)) || (decide ((q : Int) < (1 : Int)))) || (decide ((1048576 : Int) < (q : Int))))) (.eq (.bool (decide ((s : Int) ≠ (1 : Int))))), .cond ((!(((!(thB n i)) || (decide ((q : Int) < (1 : Int)))) || (decide ((1048576 : Int) < (q : Int))))) && (decide ((s : Int) ≠ (1 : Int)))) (.eq (.int .i64 s)), .cond ((!(((!(thB n i)) || (decide ((q : Int) < (1 : Int)))) || (decide ((1048576 : Int) < (q : Int))))) && (decide ((s : Int) ≠ (1 : Int)))) (.eq (.bool (decide ((s : Int) ≠ (2 : Int))))), .cond (!(((!(thB n i)) || (decide ((q : Int) < (1 : Int)))) || (decide ((1048576 : Int) < (q : Int))))) (.eq (.bool ((decide ((s : Int) ≠ (1 : Int))) && (decide ((s : Int) ≠ (2 : Int)))))), .eq (.bool true)] rfl (by kernel_rfl) ?_ ?_
    · refine sv 1 rfl rfl rfl (fun a u hE hD hk => exec_move (.tmp 1) _ rfl (hE 1 (.int .i64 n) (by kernel_rfl) (by kernel_rfl))) ?_
      refine sv 2 rfl rfl rfl (fun a u hE hD hk => exec_move (.tmp 2) _ rfl (hE 2 (.int .i64 i) (by kernel_rfl) (by kernel_rfl))) ?_
      refine fsteps_cons 3 rfl (fun a u hE hD hk => f_call (o := ⟨some 14, _, _, _, _, _⟩) 27 #[.int .i64 n, .int .i64 i] rfl (wanted_none rfl _) (exec_call 27 _ [.tmp 12, .tmp 13] _ [.int .i64 n, .int .i64 i] Try.func27 (by kernel_rfl) (by kernel_rfl) rfl (show [a.eval (.tmp 12), a.eval (.tmp 13)] = [.int .i64 n, .int .i64 i] from (by rw [show a.eval (.tmp 12) = .int .i64 n from (hD 0 12 (by kernel_rfl)), show a.eval (.tmp 13) = .int .i64 i from (hD 1 13 (by kernel_rfl))] <;> rfl)) u) (rplace_any _ _ u)) ?_
      refine sv 4 rfl rfl rfl (fun a u hE hD hk => exec_not _ (.tmp 14) (thB n i) rfl (hD 2 14 (by kernel_rfl))) ?_
      refine sv 5 rfl rfl rfl (fun a u hE hD hk => exec_move (.tmp 15) _ rfl (hD 3 15 (by kernel_rfl))) ?_
      refine fsteps_cons 6 rfl (fun a u hE hD hk => f_unless ((!(thB n i))) rfl rfl rfl (hD 4 16 (by kernel_rfl)) (fun hb => f_val (o := ⟨some 17, _, _, _, _, _⟩) (.int .i64 q) rfl (wanted_b rfl rfl (hD 4 16 (by kernel_rfl)) (eq_false_of hb)) (exec_move (.tmp 4) _ rfl (hE 4 (.int .i64 q) (by kernel_rfl) (by kernel_rfl))) rfl)) ?_
      refine fsteps_cons 7 rfl (fun a u hE hD hk => f_unless ((!(thB n i))) rfl rfl rfl (hD 4 16 (by kernel_rfl)) (fun hb => f_val (o := ⟨some 18, _, _, _, _, _⟩) (.bool (decide ((q : Int) < (1 : Int)))) rfl (wanted_b rfl rfl (hD 4 16 (by kernel_rfl)) (eq_false_of hb)) (exec_ltn (p := q) (q := 1) rfl ((hD 5 17 (by kernel_rfl)).1 hb) rfl) rfl)) ?_
      refine sv 8 rfl rfl rfl (fun a u hE hD hk => exec_pickor (.tmp 16) (.const (.bool true)) (.tmp 18) ((!(thB n i))) ((decide ((q : Int) < (1 : Int)))) rfl (hD 4 16 (by kernel_rfl)) rfl (fun hb2 => ((hD 6 18 (by kernel_rfl)).1 hb2))) ?_
      refine sv 9 rfl rfl rfl (fun a u hE hD hk => exec_move (.tmp 19) _ rfl (hD 7 19 (by kernel_rfl))) ?_
      refine fsteps_cons 10 rfl (fun a u hE hD hk => f_unless (((!(thB n i)) || (decide ((q : Int) < (1 : Int))))) rfl rfl rfl (hD 8 20 (by kernel_rfl)) (fun hb => f_val (o := ⟨some 21, _, _, _, _, _⟩) (.int .i64 q) rfl (wanted_b rfl rfl (hD 8 20 (by kernel_rfl)) (eq_false_of hb)) (exec_move (.tmp 4) _ rfl (hE 4 (.int .i64 q) (by kernel_rfl) (by kernel_rfl))) rfl)) ?_
      refine fsteps_cons 11 rfl (fun a u hE hD hk => f_unless (((!(thB n i)) || (decide ((q : Int) < (1 : Int))))) rfl rfl rfl (hD 8 20 (by kernel_rfl)) (fun hb => f_val (o := ⟨some 22, _, _, _, _, _⟩) (.bool (decide ((1048576 : Int) < (q : Int)))) rfl (wanted_b rfl rfl (hD 8 20 (by kernel_rfl)) (eq_false_of hb)) (exec_gtn (p := q) (q := 1048576) rfl ((hD 9 21 (by kernel_rfl)).1 hb) rfl) rfl)) ?_
      refine sv 12 rfl rfl rfl (fun a u hE hD hk => exec_pickor (.tmp 20) (.const (.bool true)) (.tmp 22) (((!(thB n i)) || (decide ((q : Int) < (1 : Int))))) ((decide ((1048576 : Int) < (q : Int)))) rfl (hD 8 20 (by kernel_rfl)) rfl (fun hb2 => ((hD 10 22 (by kernel_rfl)).1 hb2))) ?_
      refine sv 13 rfl rfl rfl (fun a u hE hD hk => exec_move (.tmp 23) _ rfl (hD 11 23 (by kernel_rfl))) ?_
      refine fsteps_cons 14 rfl (fun a u hE hD hk => f_unless ((((!(thB n i)) || (decide ((q : Int) < (1 : Int)))) || (decide ((1048576 : Int) < (q : Int))))) rfl rfl rfl (hD 12 24 (by kernel_rfl)) (fun hb => f_val (o := ⟨some 25, _, _, _, _, _⟩) (.int .i64 s) rfl (wanted_b rfl rfl (hD 12 24 (by kernel_rfl)) (eq_false_of hb)) (exec_move (.tmp 3) _ rfl (hE 3 (.int .i64 s) (by kernel_rfl) (by kernel_rfl))) rfl)) ?_
      refine fsteps_cons 15 rfl (fun a u hE hD hk => f_unless ((((!(thB n i)) || (decide ((q : Int) < (1 : Int)))) || (decide ((1048576 : Int) < (q : Int))))) rfl rfl rfl (hD 12 24 (by kernel_rfl)) (fun hb => f_val (o := ⟨some 26, _, _, _, _, _⟩) (.bool (decide ((s : Int) ≠ (1 : Int)))) rfl (wanted_b rfl rfl (hD 12 24 (by kernel_rfl)) (eq_false_of hb)) (exec_nen (p := s) (q := 1) rfl ((hD 13 25 (by kernel_rfl)).1 hb) rfl) rfl)) ?_
      refine fsteps_cons 16 rfl (fun a u hE hD hk => f_unless ((((!(thB n i)) || (decide ((q : Int) < (1 : Int)))) || (decide ((1048576 : Int) < (q : Int))))) rfl rfl rfl (hD 12 24 (by kernel_rfl)) (fun hb => f_val (o := ⟨some 27, _, _, _, _, _⟩) (.bool (decide ((s : Int) ≠ (1 : Int)))) rfl (wanted_b rfl rfl (hD 12 24 (by kernel_rfl)) (eq_false_of hb)) (exec_move (.tmp 26) _ rfl ((hD 14 26 (by kernel_rfl)).1 hb)) rfl)) ?_
      refine fsteps_cons 17 rfl (fun a u hE hD hk => f_if2 (!(((!(thB n i)) || (decide ((q : Int) < (1 : Int)))) || (decide ((1048576 : Int) < (q : Int))))) ((decide ((s : Int) ≠ (1 : Int)))) rfl rfl rfl (hD 15 27 (by kernel_rfl)) (fun hb => f_val (o := ⟨some 28, _, _, _, _, _⟩) (.int .i64 s) rfl (wanted_b rfl rfl ((hD 15 27 (by kernel_rfl)).1 (and_l hb)) (eq_true_of (and_r hb))) (exec_move (.tmp 3) _ rfl (hE 3 (.int .i64 s) (by kernel_rfl) (by kernel_rfl))) rfl)) ?_
      refine fsteps_cons 18 rfl (fun a u hE hD hk => f_if2 (!(((!(thB n i)) || (decide ((q : Int) < (1 : Int)))) || (decide ((1048576 : Int) < (q : Int))))) ((decide ((s : Int) ≠ (1 : Int)))) rfl rfl rfl (hD 15 27 (by kernel_rfl)) (fun hb => f_val (o := ⟨some 29, _, _, _, _, _⟩) (.bool (decide ((s : Int) ≠ (2 : Int)))) rfl (wanted_b rfl rfl ((hD 15 27 (by kernel_rfl)).1 (and_l hb)) (eq_true_of (and_r hb))) (exec_nen (p := s) (q := 2) rfl ((hD 16 28 (by kernel_rfl)).1 hb) rfl) rfl)) ?_
      refine fsteps_cons 19 rfl (fun a u hE hD hk => f_unless ((((!(thB n i)) || (decide ((q : Int) < (1 : Int)))) || (decide ((1048576 : Int) < (q : Int))))) rfl rfl rfl (hD 12 24 (by kernel_rfl)) (fun hb => f_val (o := ⟨some 30, _, _, _, _, _⟩) (.bool ((decide ((s : Int) ≠ (1 : Int))) && (decide ((s : Int) ≠ (2 : Int))))) rfl (wanted_b rfl rfl (hD 12 24 (by kernel_rfl)) (eq_false_of hb)) (exec_pickand (.tmp 27) (.tmp 29) (.const (.bool false)) ((decide ((s : Int) ≠ (1 : Int)))) ((decide ((s : Int) ≠ (2 : Int)))) rfl ((hD 15 27 (by kernel_rfl)).1 hb) (fun hb2 => ((hD 17 29 (by kernel_rfl)).1 (and_mk hb hb2))) rfl) rfl)) ?_
      refine fsteps_cons 20 rfl (fun a u hE hD hk => f_as (show (((((!(thB n i)) || (decide ((q : Int) < (1 : Int)))) || (decide ((1048576 : Int) < (q : Int)))) || ((decide ((s : Int) ≠ (1 : Int))) && (decide ((s : Int) ≠ (2 : Int))))) : Bool) = true from H1.out) (f_val (o := ⟨some 31, _, _, _, _, _⟩) (.bool ((((!(thB n i)) || (decide ((q : Int) < (1 : Int)))) || (decide ((1048576 : Int) < (q : Int)))) || ((decide ((s : Int) ≠ (1 : Int))) && (decide ((s : Int) ≠ (2 : Int)))))) rfl (wanted_none rfl _) (exec_pickor (.tmp 24) (.const (.bool true)) (.tmp 30) ((((!(thB n i)) || (decide ((q : Int) < (1 : Int)))) || (decide ((1048576 : Int) < (q : Int))))) (((decide ((s : Int) ≠ (1 : Int))) && (decide ((s : Int) ≠ (2 : Int))))) rfl (hD 12 24 (by kernel_rfl)) rfl (fun hb2 => ((hD 18 30 (by kernel_rfl)).1 hb2))) rfl)) ?_
      exact fsteps_nil
    intro gv w0 hV kw
    rw [show dstsOf _ 20 = [12, 13, 14, 15, 16, 17, 18, 19, 20, 21, 22, 23, 24, 25, 26, 27, 28, 29, 30, 31] by kernel_rfl]
    simp only [List.foldl_cons, List.foldl_nil, List.setIfInBounds_toArray, List.set_cons_succ, List.set_cons_zero, List.drop_succ_cons, List.drop_zero]
    rw [show gv 31 = .bool true from hV 19 31 (by kernel_rfl)]
    clear hV
    refine wpList_nil ?_
    have HB1 := HB.out.kept kw
    have kz : Keep (· = g) w w0 := kw.mono fun _ _ h => h.elim
    go_wp2
    go_ret
    exact ⟨rfl, HB1, kz⟩
  | false =>
    rw [h1] at hE
    have H1 := Lib.hid h1
    rw [Bool.not_false, Bool.and_eq_true, Bool.and_eq_true] at hE
    obtain ⟨⟨ht, hq⟩, hs⟩ := hE
    obtain ⟨m, j, hm, hj, rfl, rfl⟩ := thB_yes ht
    rw [wiB_iff] at hq
    obtain ⟨hq0, hq1⟩ := hq
    have HX : Hid ((B.rc L)[128 + m * 16 + 8 + j]? = some (.int .i64 (B.p m j))) := by show _ = _; unfold Bal.rc; rw [lay_at _ (by omega), rf_p B L hj]
    have hb := hO.p m j
    have hl : 128 + m * 16 + 8 + j < (B.rc L).length := by unfold Bal.rc; rw [lay_len]; omega
    have hs0 : s = 1 ∨ s ≠ 1 := by omega
    rcases hs0 with h4 | h4
    · have HG : Hid (B.p m j + sgn s q = B.p m j + q) := by show _ = _; subst h4; rfl
      have H4 := Lib.hid h4
      clear h4 h1 ht
      cases h2 : decide (B.p m j + q < -1099511627776) || decide (1099511627776 < B.p m j + q) with
      | true =>
        have e1 : trB B (m : Int) (j : Int) s q = false := by
          unfold trB Bal.pAt
          rw [pick2_in _ hm hj, HG.out]
          rw [Bool.or_eq_true, decide_eq_true_eq, decide_eq_true_eq] at h2
          rw [wiB_not.2 h2, Bool.and_false]
        rw [tr_no e1, e1]
        have H2 := Lib.hid h2
        clear e1 h2
        go_enter Try.func25, Try.ntmps25
        go_upto_region 1 with fail
        refine wp_text 20 [.eq (.int .i64 (m : Int)), .eq (.int .i64 (j : Int)), .eq (.bool (thB (m : Int) (j : Int))), .eq (.bool (!(thB (m : Int) (j : Int)))), .eq (.bool (!(thB (m : Int) (j : Int)))), .cond (!(!(thB (m : Int) (j : Int)))) (.eq (.int .i64 q)), .cond (!(!(thB (m : Int) (j : Int)))) (.eq (.bool (decide ((q : Int) < (1 : Int))))), .eq (.bool ((!(thB (m : Int) (j : Int))) || (decide ((q : Int) < (1 : Int))))), .eq (.bool ((!(thB (m : Int) (j : Int))) || (decide ((q : Int) < (1 : Int))))), .cond (!((!(thB (m : Int) (j : Int))) || (decide ((q : Int) < (1 : Int))))) (.eq (.int .i64 q)), .cond (!((!(thB (m : Int) (j : Int))) || (decide ((q : Int) < (1 : Int))))) (.eq (.bool (decide ((1048576 : Int) < (q : Int))))), .eq (.bool (((!(thB (m : Int) (j : Int))) || (decide ((q : Int) < (1 : Int)))) || (decide ((1048576 : Int) < (q : Int))))), .eq (.bool (((!(thB (m : Int) (j : Int))) || (decide ((q : Int) < (1 : Int)))) || (decide ((1048576 : Int) < (q : Int))))), .cond (!(((!(thB (m : Int) (j : Int))) || (decide ((q : Int) < (1 : Int)))) || (decide ((1048576 : Int) < (q : Int))))) (.eq (.int .i64 s)), .cond (!(((!(thB (m : Int) (j : Int))) || (decide ((q : Int) < (1 : Int)))) || (decide ((1048576 : Int) < (q : Int))))) (.eq (.bool (decide ((s : Int) ≠ (1 : Int))))), .cond (!(((!(thB (m : Int) (j : Int))) || (decide ((q : Int) < (1 : Int)))) || (decide ((1048576 : Int) < (q : Int))))) (.eq (.bool (decide ((s : Int) ≠ (1 : Int))))), .cond ((!(((!(thB (m : Int) (j : Int))) || (decide ((q : Int) < (1 : Int)))) || (decide ((1048576 : Int) < (q : Int))))) && (decide ((s : Int) ≠ (1 : Int)))) (.eq (.int .i64 s)), .cond ((!(((!(thB (m : Int) (j : Int))) || (decide ((q : Int) < (1 : Int)))) || (decide ((1048576 : Int) < (q : Int))))) && (decide ((s : Int) ≠ (1 : Int)))) (.eq (.bool (decide ((s : Int) ≠ (2 : Int))))), .cond (!(((!(thB (m : Int) (j : Int))) || (decide ((q : Int) < (1 : Int)))) || (decide ((1048576 : Int) < (q : Int))))) (.eq (.bool ((decide ((s : Int) ≠ (1 : Int))) && (decide ((s : Int) ≠ (2 : Int)))))), .eq (.bool false)] rfl (by kernel_rfl) ?_ ?_
        · refine sv 1 rfl rfl rfl (fun a u hE hD hk => exec_move (.tmp 1) _ rfl (hE 1 (.int .i64 (m : Int)) (by kernel_rfl) (by kernel_rfl))) ?_
          refine sv 2 rfl rfl rfl (fun a u hE hD hk => exec_move (.tmp 2) _ rfl (hE 2 (.int .i64 (j : Int)) (by kernel_rfl) (by kernel_rfl))) ?_
          refine fsteps_cons 3 rfl (fun a u hE hD hk => f_call (o := ⟨some 14, _, _, _, _, _⟩) 27 #[.int .i64 (m : Int), .int .i64 (j : Int)] rfl (wanted_none rfl _) (exec_call 27 _ [.tmp 12, .tmp 13] _ [.int .i64 (m : Int), .int .i64 (j : Int)] Try.func27 (by kernel_rfl) (by kernel_rfl) rfl (show [a.eval (.tmp 12), a.eval (.tmp 13)] = [.int .i64 (m : Int), .int .i64 (j : Int)] from (by rw [show a.eval (.tmp 12) = .int .i64 (m : Int) from (hD 0 12 (by kernel_rfl)), show a.eval (.tmp 13) = .int .i64 (j : Int) from (hD 1 13 (by kernel_rfl))] <;> rfl)) u) (rplace_any _ _ u)) ?_
          refine sv 4 rfl rfl rfl (fun a u hE hD hk => exec_not _ (.tmp 14) (thB (m : Int) (j : Int)) rfl (hD 2 14 (by kernel_rfl))) ?_
          refine sv 5 rfl rfl rfl (fun a u hE hD hk => exec_move (.tmp 15) _ rfl (hD 3 15 (by kernel_rfl))) ?_
          refine fsteps_cons 6 rfl (fun a u hE hD hk => f_unless ((!(thB (m : Int) (j : Int)))) rfl rfl rfl (hD 4 16 (by kernel_rfl)) (fun hb => f_val (o := ⟨some 17, _, _, _, _, _⟩) (.int .i64 q) rfl (wanted_b rfl rfl (hD 4 16 (by kernel_rfl)) (eq_false_of hb)) (exec_move (.tmp 4) _ rfl (hE 4 (.int .i64 q) (by kernel_rfl) (by kernel_rfl))) rfl)) ?_
          refine fsteps_cons 7 rfl (fun a u hE hD hk => f_unless ((!(thB (m : Int) (j : Int)))) rfl rfl rfl (hD 4 16 (by kernel_rfl)) (fun hb => f_val (o := ⟨some 18, _, _, _, _, _⟩) (.bool (decide ((q : Int) < (1 : Int)))) rfl (wanted_b rfl rfl (hD 4 16 (by kernel_rfl)) (eq_false_of hb)) (exec_ltn (p := q) (q := 1) rfl ((hD 5 17 (by kernel_rfl)).1 hb) rfl) rfl)) ?_
          refine sv 8 rfl rfl rfl (fun a u hE hD hk => exec_pickor (.tmp 16) (.const (.bool true)) (.tmp 18) ((!(thB (m : Int) (j : Int)))) ((decide ((q : Int) < (1 : Int)))) rfl (hD 4 16 (by kernel_rfl)) rfl (fun hb2 => ((hD 6 18 (by kernel_rfl)).1 hb2))) ?_
          refine sv 9 rfl rfl rfl (fun a u hE hD hk => exec_move (.tmp 19) _ rfl (hD 7 19 (by kernel_rfl))) ?_
          refine fsteps_cons 10 rfl (fun a u hE hD hk => f_unless (((!(thB (m : Int) (j : Int))) || (decide ((q : Int) < (1 : Int))))) rfl rfl rfl (hD 8 20 (by kernel_rfl)) (fun hb => f_val (o := ⟨some 21, _, _, _, _, _⟩) (.int .i64 q) rfl (wanted_b rfl rfl (hD 8 20 (by kernel_rfl)) (eq_false_of hb)) (exec_move (.tmp 4) _ rfl (hE 4 (.int .i64 q) (by kernel_rfl) (by kernel_rfl))) rfl)) ?_
          refine fsteps_cons 11 rfl (fun a u hE hD hk => f_unless (((!(thB (m : Int) (j : Int))) || (decide ((q : Int) < (1 : Int))))) rfl rfl rfl (hD 8 20 (by kernel_rfl)) (fun hb => f_val (o := ⟨some 22, _, _, _, _, _⟩) (.bool (decide ((1048576 : Int) < (q : Int)))) rfl (wanted_b rfl rfl (hD 8 20 (by kernel_rfl)) (eq_false_of hb)) (exec_gtn (p := q) (q := 1048576) rfl ((hD 9 21 (by kernel_rfl)).1 hb) rfl) rfl)) ?_
          refine sv 12 rfl rfl rfl (fun a u hE hD hk => exec_pickor (.tmp 20) (.const (.bool true)) (.tmp 22) (((!(thB (m : Int) (j : Int))) || (decide ((q : Int) < (1 : Int))))) ((decide ((1048576 : Int) < (q : Int)))) rfl (hD 8 20 (by kernel_rfl)) rfl (fun hb2 => ((hD 10 22 (by kernel_rfl)).1 hb2))) ?_
          refine sv 13 rfl rfl rfl (fun a u hE hD hk => exec_move (.tmp 23) _ rfl (hD 11 23 (by kernel_rfl))) ?_
          refine fsteps_cons 14 rfl (fun a u hE hD hk => f_unless ((((!(thB (m : Int) (j : Int))) || (decide ((q : Int) < (1 : Int)))) || (decide ((1048576 : Int) < (q : Int))))) rfl rfl rfl (hD 12 24 (by kernel_rfl)) (fun hb => f_val (o := ⟨some 25, _, _, _, _, _⟩) (.int .i64 s) rfl (wanted_b rfl rfl (hD 12 24 (by kernel_rfl)) (eq_false_of hb)) (exec_move (.tmp 3) _ rfl (hE 3 (.int .i64 s) (by kernel_rfl) (by kernel_rfl))) rfl)) ?_
          refine fsteps_cons 15 rfl (fun a u hE hD hk => f_unless ((((!(thB (m : Int) (j : Int))) || (decide ((q : Int) < (1 : Int)))) || (decide ((1048576 : Int) < (q : Int))))) rfl rfl rfl (hD 12 24 (by kernel_rfl)) (fun hb => f_val (o := ⟨some 26, _, _, _, _, _⟩) (.bool (decide ((s : Int) ≠ (1 : Int)))) rfl (wanted_b rfl rfl (hD 12 24 (by kernel_rfl)) (eq_false_of hb)) (exec_nen (p := s) (q := 1) rfl ((hD 13 25 (by kernel_rfl)).1 hb) rfl) rfl)) ?_
          refine fsteps_cons 16 rfl (fun a u hE hD hk => f_unless ((((!(thB (m : Int) (j : Int))) || (decide ((q : Int) < (1 : Int)))) || (decide ((1048576 : Int) < (q : Int))))) rfl rfl rfl (hD 12 24 (by kernel_rfl)) (fun hb => f_val (o := ⟨some 27, _, _, _, _, _⟩) (.bool (decide ((s : Int) ≠ (1 : Int)))) rfl (wanted_b rfl rfl (hD 12 24 (by kernel_rfl)) (eq_false_of hb)) (exec_move (.tmp 26) _ rfl ((hD 14 26 (by kernel_rfl)).1 hb)) rfl)) ?_
          refine fsteps_cons 17 rfl (fun a u hE hD hk => f_if2 (!(((!(thB (m : Int) (j : Int))) || (decide ((q : Int) < (1 : Int)))) || (decide ((1048576 : Int) < (q : Int))))) ((decide ((s : Int) ≠ (1 : Int)))) rfl rfl rfl (hD 15 27 (by kernel_rfl)) (fun hb => f_val (o := ⟨some 28, _, _, _, _, _⟩) (.int .i64 s) rfl (wanted_b rfl rfl ((hD 15 27 (by kernel_rfl)).1 (and_l hb)) (eq_true_of (and_r hb))) (exec_move (.tmp 3) _ rfl (hE 3 (.int .i64 s) (by kernel_rfl) (by kernel_rfl))) rfl)) ?_
          refine fsteps_cons 18 rfl (fun a u hE hD hk => f_if2 (!(((!(thB (m : Int) (j : Int))) || (decide ((q : Int) < (1 : Int)))) || (decide ((1048576 : Int) < (q : Int))))) ((decide ((s : Int) ≠ (1 : Int)))) rfl rfl rfl (hD 15 27 (by kernel_rfl)) (fun hb => f_val (o := ⟨some 29, _, _, _, _, _⟩) (.bool (decide ((s : Int) ≠ (2 : Int)))) rfl (wanted_b rfl rfl ((hD 15 27 (by kernel_rfl)).1 (and_l hb)) (eq_true_of (and_r hb))) (exec_nen (p := s) (q := 2) rfl ((hD 16 28 (by kernel_rfl)).1 hb) rfl) rfl)) ?_
          refine fsteps_cons 19 rfl (fun a u hE hD hk => f_unless ((((!(thB (m : Int) (j : Int))) || (decide ((q : Int) < (1 : Int)))) || (decide ((1048576 : Int) < (q : Int))))) rfl rfl rfl (hD 12 24 (by kernel_rfl)) (fun hb => f_val (o := ⟨some 30, _, _, _, _, _⟩) (.bool ((decide ((s : Int) ≠ (1 : Int))) && (decide ((s : Int) ≠ (2 : Int))))) rfl (wanted_b rfl rfl (hD 12 24 (by kernel_rfl)) (eq_false_of hb)) (exec_pickand (.tmp 27) (.tmp 29) (.const (.bool false)) ((decide ((s : Int) ≠ (1 : Int)))) ((decide ((s : Int) ≠ (2 : Int)))) rfl ((hD 15 27 (by kernel_rfl)).1 hb) (fun hb2 => ((hD 17 29 (by kernel_rfl)).1 (and_mk hb hb2))) rfl) rfl)) ?_
          refine fsteps_cons 20 rfl (fun a u hE hD hk => f_as (show (((((!(thB (m : Int) (j : Int))) || (decide ((q : Int) < (1 : Int)))) || (decide ((1048576 : Int) < (q : Int)))) || ((decide ((s : Int) ≠ (1 : Int))) && (decide ((s : Int) ≠ (2 : Int))))) : Bool) = false from H1.out) (f_val (o := ⟨some 31, _, _, _, _, _⟩) (.bool ((((!(thB (m : Int) (j : Int))) || (decide ((q : Int) < (1 : Int)))) || (decide ((1048576 : Int) < (q : Int)))) || ((decide ((s : Int) ≠ (1 : Int))) && (decide ((s : Int) ≠ (2 : Int)))))) rfl (wanted_none rfl _) (exec_pickor (.tmp 24) (.const (.bool true)) (.tmp 30) ((((!(thB (m : Int) (j : Int))) || (decide ((q : Int) < (1 : Int)))) || (decide ((1048576 : Int) < (q : Int))))) (((decide ((s : Int) ≠ (1 : Int))) && (decide ((s : Int) ≠ (2 : Int))))) rfl (hD 12 24 (by kernel_rfl)) rfl (fun hb2 => ((hD 18 30 (by kernel_rfl)).1 hb2))) rfl)) ?_
          exact fsteps_nil
        intro gv w0 hV k0
        rw [show dstsOf _ 20 = [12, 13, 14, 15, 16, 17, 18, 19, 20, 21, 22, 23, 24, 25, 26, 27, 28, 29, 30, 31] by kernel_rfl]
        simp only [List.foldl_cons, List.foldl_nil, List.setIfInBounds_toArray, List.set_cons_succ, List.set_cons_zero, List.drop_succ_cons, List.drop_zero]
        rw [show gv 31 = .bool false from hV 19 31 (by kernel_rfl)]
        clear hV
        refine wpList_nil ?_
        have HB0 := Lib.hid (HB.out.kept k0)
        go_upto_region 3 with fail
        refine wp_text 10 [.eq (.pointer (some ⟨g, 0, none⟩)), .eq (.int .i64 (m : Int)), .eq (.int .i64 (j : Int)), .eq (.pointer (some ⟨g, 0, none⟩)), .eq (.pointer (some ⟨g, 128, none⟩)), .eq (.pointer (some ⟨g, 128 + m * 16, none⟩)), .eq (.pointer (some ⟨g, 128 + m * 16 + 8, none⟩)), .eq (.pointer (some ⟨g, 128 + m * 16 + 8 + j, none⟩)), .eq (.int .i64 (B.p m j)), .eq (.int .i64 (B.p m j))] rfl (by kernel_rfl) ?_ ?_
        · refine sv 1 rfl rfl rfl (fun a u hE hD hk => exec_move (.tmp 0) _ rfl (hE 0 (.pointer (some ⟨g, 0, none⟩)) (by kernel_rfl) (by kernel_rfl))) ?_
          refine sv 2 rfl rfl rfl (fun a u hE hD hk => exec_move (.tmp 1) _ rfl (hE 1 (.int .i64 (m : Int)) (by kernel_rfl) (by kernel_rfl))) ?_
          refine sv 3 rfl rfl rfl (fun a u hE hD hk => exec_move (.tmp 2) _ rfl (hE 2 (.int .i64 (j : Int)) (by kernel_rfl) (by kernel_rfl))) ?_
          refine sv 4 rfl rfl rfl (fun a u hE hD hk => exec_nilp (.tmp 32) ⟨g, 0, none⟩ rfl (hD 0 32 (by kernel_rfl))) ?_
          refine sv 5 rfl rfl rfl (fun a u hE hD hk => exec_fldo 43 1 128 (.tmp 35) (g) (0) (128) rfl (hD 3 35 (by kernel_rfl)) (by kernel_rfl) rfl) ?_
          refine sv 6 rfl rfl rfl (fun a u hE hD hk => exec_ixK 16 41 40 32 (.tmp 36) (.tmp 33) (g) (128) (128 + m * 16) m ((m : Int)) rfl Try.underlying41 (by kernel_rfl) (hD 4 36 (by kernel_rfl)) (hD 1 33 (by kernel_rfl)) (by first | rfl | omega) (hm) (by first | rfl | omega)) ?_
          refine sv 7 rfl rfl rfl (fun a u hE hD hk => exec_fldo 40 1 8 (.tmp 37) (g) (128 + m * 16) (128 + m * 16 + 8) rfl (hD 5 37 (by kernel_rfl)) (by kernel_rfl) rfl) ?_
          refine sv 8 rfl rfl rfl (fun a u hE hD hk => exec_ixK 1 38 3 8 (.tmp 38) (.tmp 34) (g) (128 + m * 16 + 8) (128 + m * 16 + 8 + j) j ((j : Int)) rfl Try.underlying38 (by kernel_rfl) (hD 6 38 (by kernel_rfl)) (hD 2 34 (by kernel_rfl)) (by first | rfl | omega) (hj) (by first | rfl | omega)) ?_
          refine sv 9 rfl rfl rfl (fun a u hE hD hk => exec_loadi 3 Try.underlying3 (.tmp 39) ⟨g, 128 + m * 16 + 8 + j, none⟩ (.int .i64 (B.p m j)) rfl (hD 7 39 (by kernel_rfl)) (Kept.cell hk (((HB0.out.cell _).trans HX.out)))) ?_
          refine sv 10 rfl rfl rfl (fun a u hE hD hk => exec_assign (.tmp 40) _ rfl (hD 8 40 (by kernel_rfl))) ?_
          exact fsteps_nil
        intro gv w1 hV k1
        rw [show dstsOf _ 10 = [32, 33, 34, 35, 36, 37, 38, 39, 40, 11] by kernel_rfl]
        simp only [List.foldl_cons, List.foldl_nil, List.setIfInBounds_toArray, List.set_cons_succ, List.set_cons_zero, List.drop_succ_cons, List.drop_zero]
        rw [show gv 11 = .int .i64 (B.p m j) from hV 9 11 (by kernel_rfl)]
        clear hV
        refine wpList_nil ?_
        go_upto_region 4 with fail
        refine wp_text 2 [.eq (.int .i64 s), .eq (.bool true)] rfl (by kernel_rfl) ?_ ?_
        · refine sv 1 rfl rfl rfl (fun a u hE hD hk => exec_move (.tmp 3) _ rfl (hE 3 (.int .i64 s) (by kernel_rfl) (by kernel_rfl))) ?_
          refine fsteps_cons 2 rfl (fun a u hE hD hk => f_as (show ((decide ((s : Int) = (1 : Int))) : Bool) = true from decide_eq_true H4.out) (f_val (o := ⟨some 42, _, _, _, _, _⟩) (.bool (decide ((s : Int) = (1 : Int)))) rfl (wanted_none rfl _) (exec_eqn (p := s) (q := 1) rfl (hD 0 41 (by kernel_rfl)) rfl) rfl)) ?_
          exact fsteps_nil
        intro gv w2 hV k2
        rw [show dstsOf _ 2 = [41, 42] by kernel_rfl]
        simp only [List.foldl_cons, List.foldl_nil, List.setIfInBounds_toArray, List.set_cons_succ, List.set_cons_zero, List.drop_succ_cons, List.drop_zero]
        rw [show gv 42 = .bool true from hV 1 42 (by kernel_rfl)]
        clear hV
        refine wpList_nil ?_
        go_upto_region 5 with fail
        refine wp_text 3 [.eq (.int .i64 (B.p m j)), .eq (.int .i64 q), .eq (.int .i64 (((B.p m j) : Int) + (q : Int)))] rfl (by kernel_rfl) ?_ ?_
        · refine sv 1 rfl rfl rfl (fun a u hE hD hk => exec_move (.tmp 11) _ rfl (hE 11 (.int .i64 (B.p m j)) (by kernel_rfl) (by kernel_rfl))) ?_
          refine sv 2 rfl rfl rfl (fun a u hE hD hk => exec_move (.tmp 4) _ rfl (hE 4 (.int .i64 q) (by kernel_rfl) (by kernel_rfl))) ?_
          refine sv 3 rfl rfl rfl (fun a u hE hD hk => exec_addn (p := ((B.p m j))) (q := (q)) (((B.p m j) : Int) + (q : Int)) rfl (hD 0 43 (by kernel_rfl)) (hD 1 44 (by kernel_rfl)) rfl (by omega) (by omega)) ?_
          exact fsteps_nil
        intro gv w3 hV k3
        rw [show dstsOf _ 3 = [43, 44, 45] by kernel_rfl]
        simp only [List.foldl_cons, List.foldl_nil, List.setIfInBounds_toArray, List.set_cons_succ, List.set_cons_zero, List.drop_succ_cons, List.drop_zero]
        rw [show gv 45 = .int .i64 (((B.p m j) : Int) + (q : Int)) from hV 2 45 (by kernel_rfl)]
        clear hV
        refine l_val (o := ⟨some 11, _, _, _, _, _⟩) (.int .i64 (((B.p m j) : Int) + (q : Int))) rfl (exec_assign (.tmp 45) (.int .i64 (((B.p m j) : Int) + (q : Int))) rfl (by kernel_rfl)) ?_
        simp only [Act.put, List.setIfInBounds_toArray, List.set_cons_succ, List.set_cons_zero]
        refine wpList_nil ?_
        go_upto_region 7 with fail
        refine wp_text 6 [.eq (.int .i64 (B.p m j + q)), .eq (.bool (decide (((B.p m j + q) : Int) < ((-1099511627776) : Int)))), .eq (.bool (decide (((B.p m j + q) : Int) < ((-1099511627776) : Int)))), .cond (!(decide (((B.p m j + q) : Int) < ((-1099511627776) : Int)))) (.eq (.int .i64 (B.p m j + q))), .cond (!(decide (((B.p m j + q) : Int) < ((-1099511627776) : Int)))) (.eq (.bool (decide ((1099511627776 : Int) < ((B.p m j + q) : Int))))), .eq (.bool true)] rfl (by kernel_rfl) ?_ ?_
        · refine sv 1 rfl rfl rfl (fun a u hE hD hk => exec_move (.tmp 11) _ rfl (hE 11 (.int .i64 (B.p m j + q)) (by kernel_rfl) (by kernel_rfl))) ?_
          refine sv 2 rfl rfl rfl (fun a u hE hD hk => exec_ltn (p := (B.p m j + q)) (q := (-1099511627776)) rfl (hD 0 49 (by kernel_rfl)) rfl) ?_
          refine sv 3 rfl rfl rfl (fun a u hE hD hk => exec_move (.tmp 50) _ rfl (hD 1 50 (by kernel_rfl))) ?_
          refine fsteps_cons 4 rfl (fun a u hE hD hk => f_unless ((decide (((B.p m j + q) : Int) < ((-1099511627776) : Int)))) rfl rfl rfl (hD 2 51 (by kernel_rfl)) (fun hb => f_val (o := ⟨some 52, _, _, _, _, _⟩) (.int .i64 (B.p m j + q)) rfl (wanted_b rfl rfl (hD 2 51 (by kernel_rfl)) (eq_false_of hb)) (exec_move (.tmp 11) _ rfl (hE 11 (.int .i64 (B.p m j + q)) (by kernel_rfl) (by kernel_rfl))) rfl)) ?_
          refine fsteps_cons 5 rfl (fun a u hE hD hk => f_unless ((decide (((B.p m j + q) : Int) < ((-1099511627776) : Int)))) rfl rfl rfl (hD 2 51 (by kernel_rfl)) (fun hb => f_val (o := ⟨some 53, _, _, _, _, _⟩) (.bool (decide ((1099511627776 : Int) < ((B.p m j + q) : Int)))) rfl (wanted_b rfl rfl (hD 2 51 (by kernel_rfl)) (eq_false_of hb)) (exec_gtn (p := (B.p m j + q)) (q := 1099511627776) rfl ((hD 3 52 (by kernel_rfl)).1 hb) rfl) rfl)) ?_
          refine fsteps_cons 6 rfl (fun a u hE hD hk => f_as (show (((decide (((B.p m j + q) : Int) < ((-1099511627776) : Int))) || (decide ((1099511627776 : Int) < ((B.p m j + q) : Int)))) : Bool) = true from H2.out) (f_val (o := ⟨some 54, _, _, _, _, _⟩) (.bool ((decide (((B.p m j + q) : Int) < ((-1099511627776) : Int))) || (decide ((1099511627776 : Int) < ((B.p m j + q) : Int))))) rfl (wanted_none rfl _) (exec_pickor (.tmp 51) (.const (.bool true)) (.tmp 53) ((decide (((B.p m j + q) : Int) < ((-1099511627776) : Int)))) ((decide ((1099511627776 : Int) < ((B.p m j + q) : Int)))) rfl (hD 2 51 (by kernel_rfl)) rfl (fun hb2 => ((hD 4 53 (by kernel_rfl)).1 hb2))) rfl)) ?_
          exact fsteps_nil
        intro gv w4 hV k4
        rw [show dstsOf _ 6 = [49, 50, 51, 52, 53, 54] by kernel_rfl]
        simp only [List.foldl_cons, List.foldl_nil, List.setIfInBounds_toArray, List.set_cons_succ, List.set_cons_zero, List.drop_succ_cons, List.drop_zero]
        rw [show gv 54 = .bool true from hV 5 54 (by kernel_rfl)]
        clear hV
        refine wpList_nil ?_
        have kw := (((k0.trans k1).trans k2).trans k3).trans k4
        clear k0 k1 k2 k3 k4 HB0
        have HB1 := HB.out.kept kw
        have kz : Keep (· = g) w w4 := kw.mono fun _ _ h => h.elim
        go_wp2
        go_ret
        exact ⟨rfl, HB1, kz⟩
      | false =>
        have h3 := h2
        rw [Bool.or_eq_false_iff, decide_eq_false_iff_not, decide_eq_false_iff_not] at h3
        obtain ⟨e1, e2⟩ := tr_in (B := B) hm hj hq0 hq1 hs (by rw [HG.out]; omega) (by rw [HG.out]; omega)
        rw [e1, e2, HG.out]
        obtain ⟨cs, hcs⟩ : ∃ cs, (Bal.mk B.o (upd B.p m j (B.p m j + q))).rc L = cs := ⟨_, rfl⟩
        rw [hcs]
        have HS : Hid ((B.rc L).set (128 + m * 16 + 8 + j) (.int .i64 (B.p m j + q)) = cs) := by show _ = _; rw [← hcs]; exact rc_setP B L hm hj _
        have H2 := Lib.hid h2
        clear e1 e2 hcs h2
        go_enter Try.func25, Try.ntmps25
        go_upto_region 1 with fail
        refine wp_text 20 [.eq (.int .i64 (m : Int)), .eq (.int .i64 (j : Int)), .eq (.bool (thB (m : Int) (j : Int))), .eq (.bool (!(thB (m : Int) (j : Int)))), .eq (.bool (!(thB (m : Int) (j : Int)))), .cond (!(!(thB (m : Int) (j : Int)))) (.eq (.int .i64 q)), .cond (!(!(thB (m : Int) (j : Int)))) (.eq (.bool (decide ((q : Int) < (1 : Int))))), .eq (.bool ((!(thB (m : Int) (j : Int))) || (decide ((q : Int) < (1 : Int))))), .eq (.bool ((!(thB (m : Int) (j : Int))) || (decide ((q : Int) < (1 : Int))))), .cond (!((!(thB (m : Int) (j : Int))) || (decide ((q : Int) < (1 : Int))))) (.eq (.int .i64 q)), .cond (!((!(thB (m : Int) (j : Int))) || (decide ((q : Int) < (1 : Int))))) (.eq (.bool (decide ((1048576 : Int) < (q : Int))))), .eq (.bool (((!(thB (m : Int) (j : Int))) || (decide ((q : Int) < (1 : Int)))) || (decide ((1048576 : Int) < (q : Int))))), .eq (.bool (((!(thB (m : Int) (j : Int))) || (decide ((q : Int) < (1 : Int)))) || (decide ((1048576 : Int) < (q : Int))))), .cond (!(((!(thB (m : Int) (j : Int))) || (decide ((q : Int) < (1 : Int)))) || (decide ((1048576 : Int) < (q : Int))))) (.eq (.int .i64 s)), .cond (!(((!(thB (m : Int) (j : Int))) || (decide ((q : Int) < (1 : Int)))) || (decide ((1048576 : Int) < (q : Int))))) (.eq (.bool (decide ((s : Int) ≠ (1 : Int))))), .cond (!(((!(thB (m : Int) (j : Int))) || (decide ((q : Int) < (1 : Int)))) || (decide ((1048576 : Int) < (q : Int))))) (.eq (.bool (decide ((s : Int) ≠ (1 : Int))))), .cond ((!(((!(thB (m : Int) (j : Int))) || (decide ((q : Int) < (1 : Int)))) || (decide ((1048576 : Int) < (q : Int))))) && (decide ((s : Int) ≠ (1 : Int)))) (.eq (.int .i64 s)), .cond ((!(((!(thB (m : Int) (j : Int))) || (decide ((q : Int) < (1 : Int)))) || (decide ((1048576 : Int) < (q : Int))))) && (decide ((s : Int) ≠ (1 : Int)))) (.eq (.bool (decide ((s : Int) ≠ (2 : Int))))), .cond (!(((!(thB (m : Int) (j : Int))) || (decide ((q : Int) < (1 : Int)))) || (decide ((1048576 : Int) < (q : Int))))) (.eq (.bool ((decide ((s : Int) ≠ (1 : Int))) && (decide ((s : Int) ≠ (2 : Int)))))), .eq (.bool false)] rfl (by kernel_rfl) ?_ ?_
        · refine sv 1 rfl rfl rfl (fun a u hE hD hk => exec_move (.tmp 1) _ rfl (hE 1 (.int .i64 (m : Int)) (by kernel_rfl) (by kernel_rfl))) ?_
          refine sv 2 rfl rfl rfl (fun a u hE hD hk => exec_move (.tmp 2) _ rfl (hE 2 (.int .i64 (j : Int)) (by kernel_rfl) (by kernel_rfl))) ?_
          refine fsteps_cons 3 rfl (fun a u hE hD hk => f_call (o := ⟨some 14, _, _, _, _, _⟩) 27 #[.int .i64 (m : Int), .int .i64 (j : Int)] rfl (wanted_none rfl _) (exec_call 27 _ [.tmp 12, .tmp 13] _ [.int .i64 (m : Int), .int .i64 (j : Int)] Try.func27 (by kernel_rfl) (by kernel_rfl) rfl (show [a.eval (.tmp 12), a.eval (.tmp 13)] = [.int .i64 (m : Int), .int .i64 (j : Int)] from (by rw [show a.eval (.tmp 12) = .int .i64 (m : Int) from (hD 0 12 (by kernel_rfl)), show a.eval (.tmp 13) = .int .i64 (j : Int) from (hD 1 13 (by kernel_rfl))] <;> rfl)) u) (rplace_any _ _ u)) ?_
          refine sv 4 rfl rfl rfl (fun a u hE hD hk => exec_not _ (.tmp 14) (thB (m : Int) (j : Int)) rfl (hD 2 14 (by kernel_rfl))) ?_
          refine sv 5 rfl rfl rfl (fun a u hE hD hk => exec_move (.tmp 15) _ rfl (hD 3 15 (by kernel_rfl))) ?_
          refine fsteps_cons 6 rfl (fun a u hE hD hk => f_unless ((!(thB (m : Int) (j : Int)))) rfl rfl rfl (hD 4 16 (by kernel_rfl)) (fun hb => f_val (o := ⟨some 17, _, _, _, _, _⟩) (.int .i64 q) rfl (wanted_b rfl rfl (hD 4 16 (by kernel_rfl)) (eq_false_of hb)) (exec_move (.tmp 4) _ rfl (hE 4 (.int .i64 q) (by kernel_rfl) (by kernel_rfl))) rfl)) ?_
          refine fsteps_cons 7 rfl (fun a u hE hD hk => f_unless ((!(thB (m : Int) (j : Int)))) rfl rfl rfl (hD 4 16 (by kernel_rfl)) (fun hb => f_val (o := ⟨some 18, _, _, _, _, _⟩) (.bool (decide ((q : Int) < (1 : Int)))) rfl (wanted_b rfl rfl (hD 4 16 (by kernel_rfl)) (eq_false_of hb)) (exec_ltn (p := q) (q := 1) rfl ((hD 5 17 (by kernel_rfl)).1 hb) rfl) rfl)) ?_
          refine sv 8 rfl rfl rfl (fun a u hE hD hk => exec_pickor (.tmp 16) (.const (.bool true)) (.tmp 18) ((!(thB (m : Int) (j : Int)))) ((decide ((q : Int) < (1 : Int)))) rfl (hD 4 16 (by kernel_rfl)) rfl (fun hb2 => ((hD 6 18 (by kernel_rfl)).1 hb2))) ?_
          refine sv 9 rfl rfl rfl (fun a u hE hD hk => exec_move (.tmp 19) _ rfl (hD 7 19 (by kernel_rfl))) ?_
          refine fsteps_cons 10 rfl (fun a u hE hD hk => f_unless (((!(thB (m : Int) (j : Int))) || (decide ((q : Int) < (1 : Int))))) rfl rfl rfl (hD 8 20 (by kernel_rfl)) (fun hb => f_val (o := ⟨some 21, _, _, _, _, _⟩) (.int .i64 q) rfl (wanted_b rfl rfl (hD 8 20 (by kernel_rfl)) (eq_false_of hb)) (exec_move (.tmp 4) _ rfl (hE 4 (.int .i64 q) (by kernel_rfl) (by kernel_rfl))) rfl)) ?_
          refine fsteps_cons 11 rfl (fun a u hE hD hk => f_unless (((!(thB (m : Int) (j : Int))) || (decide ((q : Int) < (1 : Int))))) rfl rfl rfl (hD 8 20 (by kernel_rfl)) (fun hb => f_val (o := ⟨some 22, _, _, _, _, _⟩) (.bool (decide ((1048576 : Int) < (q : Int)))) rfl (wanted_b rfl rfl (hD 8 20 (by kernel_rfl)) (eq_false_of hb)) (exec_gtn (p := q) (q := 1048576) rfl ((hD 9 21 (by kernel_rfl)).1 hb) rfl) rfl)) ?_
          refine sv 12 rfl rfl rfl (fun a u hE hD hk => exec_pickor (.tmp 20) (.const (.bool true)) (.tmp 22) (((!(thB (m : Int) (j : Int))) || (decide ((q : Int) < (1 : Int))))) ((decide ((1048576 : Int) < (q : Int)))) rfl (hD 8 20 (by kernel_rfl)) rfl (fun hb2 => ((hD 10 22 (by kernel_rfl)).1 hb2))) ?_
          refine sv 13 rfl rfl rfl (fun a u hE hD hk => exec_move (.tmp 23) _ rfl (hD 11 23 (by kernel_rfl))) ?_
          refine fsteps_cons 14 rfl (fun a u hE hD hk => f_unless ((((!(thB (m : Int) (j : Int))) || (decide ((q : Int) < (1 : Int)))) || (decide ((1048576 : Int) < (q : Int))))) rfl rfl rfl (hD 12 24 (by kernel_rfl)) (fun hb => f_val (o := ⟨some 25, _, _, _, _, _⟩) (.int .i64 s) rfl (wanted_b rfl rfl (hD 12 24 (by kernel_rfl)) (eq_false_of hb)) (exec_move (.tmp 3) _ rfl (hE 3 (.int .i64 s) (by kernel_rfl) (by kernel_rfl))) rfl)) ?_
          refine fsteps_cons 15 rfl (fun a u hE hD hk => f_unless ((((!(thB (m : Int) (j : Int))) || (decide ((q : Int) < (1 : Int)))) || (decide ((1048576 : Int) < (q : Int))))) rfl rfl rfl (hD 12 24 (by kernel_rfl)) (fun hb => f_val (o := ⟨some 26, _, _, _, _, _⟩) (.bool (decide ((s : Int) ≠ (1 : Int)))) rfl (wanted_b rfl rfl (hD 12 24 (by kernel_rfl)) (eq_false_of hb)) (exec_nen (p := s) (q := 1) rfl ((hD 13 25 (by kernel_rfl)).1 hb) rfl) rfl)) ?_
          refine fsteps_cons 16 rfl (fun a u hE hD hk => f_unless ((((!(thB (m : Int) (j : Int))) || (decide ((q : Int) < (1 : Int)))) || (decide ((1048576 : Int) < (q : Int))))) rfl rfl rfl (hD 12 24 (by kernel_rfl)) (fun hb => f_val (o := ⟨some 27, _, _, _, _, _⟩) (.bool (decide ((s : Int) ≠ (1 : Int)))) rfl (wanted_b rfl rfl (hD 12 24 (by kernel_rfl)) (eq_false_of hb)) (exec_move (.tmp 26) _ rfl ((hD 14 26 (by kernel_rfl)).1 hb)) rfl)) ?_
          refine fsteps_cons 17 rfl (fun a u hE hD hk => f_if2 (!(((!(thB (m : Int) (j : Int))) || (decide ((q : Int) < (1 : Int)))) || (decide ((1048576 : Int) < (q : Int))))) ((decide ((s : Int) ≠ (1 : Int)))) rfl rfl rfl (hD 15 27 (by kernel_rfl)) (fun hb => f_val (o := ⟨some 28, _, _, _, _, _⟩) (.int .i64 s) rfl (wanted_b rfl rfl ((hD 15 27 (by kernel_rfl)).1 (and_l hb)) (eq_true_of (and_r hb))) (exec_move (.tmp 3) _ rfl (hE 3 (.int .i64 s) (by kernel_rfl) (by kernel_rfl))) rfl)) ?_
          refine fsteps_cons 18 rfl (fun a u hE hD hk => f_if2 (!(((!(thB (m : Int) (j : Int))) || (decide ((q : Int) < (1 : Int)))) || (decide ((1048576 : Int) < (q : Int))))) ((decide ((s : Int) ≠ (1 : Int)))) rfl rfl rfl (hD 15 27 (by kernel_rfl)) (fun hb => f_val (o := ⟨some 29, _, _, _, _, _⟩) (.bool (decide ((s : Int) ≠ (2 : Int)))) rfl (wanted_b rfl rfl ((hD 15 27 (by kernel_rfl)).1 (and_l hb)) (eq_true_of (and_r hb))) (exec_nen (p := s) (q := 2) rfl ((hD 16 28 (by kernel_rfl)).1 hb) rfl) rfl)) ?_
          refine fsteps_cons 19 rfl (fun a u hE hD hk => f_unless ((((!(thB (m : Int) (j : Int))) || (decide ((q : Int) < (1 : Int)))) || (decide ((1048576 : Int) < (q : Int))))) rfl rfl rfl (hD 12 24 (by kernel_rfl)) (fun hb => f_val (o := ⟨some 30, _, _, _, _, _⟩) (.bool ((decide ((s : Int) ≠ (1 : Int))) && (decide ((s : Int) ≠ (2 : Int))))) rfl (wanted_b rfl rfl (hD 12 24 (by kernel_rfl)) (eq_false_of hb)) (exec_pickand (.tmp 27) (.tmp 29) (.const (.bool false)) ((decide ((s : Int) ≠ (1 : Int)))) ((decide ((s : Int) ≠ (2 : Int)))) rfl ((hD 15 27 (by kernel_rfl)).1 hb) (fun hb2 => ((hD 17 29 (by kernel_rfl)).1 (and_mk hb hb2))) rfl) rfl)) ?_
          refine fsteps_cons 20 rfl (fun a u hE hD hk => f_as (show (((((!(thB (m : Int) (j : Int))) || (decide ((q : Int) < (1 : Int)))) || (decide ((1048576 : Int) < (q : Int)))) || ((decide ((s : Int) ≠ (1 : Int))) && (decide ((s : Int) ≠ (2 : Int))))) : Bool) = false from H1.out) (f_val (o := ⟨some 31, _, _, _, _, _⟩) (.bool ((((!(thB (m : Int) (j : Int))) || (decide ((q : Int) < (1 : Int)))) || (decide ((1048576 : Int) < (q : Int)))) || ((decide ((s : Int) ≠ (1 : Int))) && (decide ((s : Int) ≠ (2 : Int)))))) rfl (wanted_none rfl _) (exec_pickor (.tmp 24) (.const (.bool true)) (.tmp 30) ((((!(thB (m : Int) (j : Int))) || (decide ((q : Int) < (1 : Int)))) || (decide ((1048576 : Int) < (q : Int))))) (((decide ((s : Int) ≠ (1 : Int))) && (decide ((s : Int) ≠ (2 : Int))))) rfl (hD 12 24 (by kernel_rfl)) rfl (fun hb2 => ((hD 18 30 (by kernel_rfl)).1 hb2))) rfl)) ?_
          exact fsteps_nil
        intro gv w0 hV k0
        rw [show dstsOf _ 20 = [12, 13, 14, 15, 16, 17, 18, 19, 20, 21, 22, 23, 24, 25, 26, 27, 28, 29, 30, 31] by kernel_rfl]
        simp only [List.foldl_cons, List.foldl_nil, List.setIfInBounds_toArray, List.set_cons_succ, List.set_cons_zero, List.drop_succ_cons, List.drop_zero]
        rw [show gv 31 = .bool false from hV 19 31 (by kernel_rfl)]
        clear hV
        refine wpList_nil ?_
        have HB0 := Lib.hid (HB.out.kept k0)
        go_upto_region 3 with fail
        refine wp_text 10 [.eq (.pointer (some ⟨g, 0, none⟩)), .eq (.int .i64 (m : Int)), .eq (.int .i64 (j : Int)), .eq (.pointer (some ⟨g, 0, none⟩)), .eq (.pointer (some ⟨g, 128, none⟩)), .eq (.pointer (some ⟨g, 128 + m * 16, none⟩)), .eq (.pointer (some ⟨g, 128 + m * 16 + 8, none⟩)), .eq (.pointer (some ⟨g, 128 + m * 16 + 8 + j, none⟩)), .eq (.int .i64 (B.p m j)), .eq (.int .i64 (B.p m j))] rfl (by kernel_rfl) ?_ ?_
        · refine sv 1 rfl rfl rfl (fun a u hE hD hk => exec_move (.tmp 0) _ rfl (hE 0 (.pointer (some ⟨g, 0, none⟩)) (by kernel_rfl) (by kernel_rfl))) ?_
          refine sv 2 rfl rfl rfl (fun a u hE hD hk => exec_move (.tmp 1) _ rfl (hE 1 (.int .i64 (m : Int)) (by kernel_rfl) (by kernel_rfl))) ?_
          refine sv 3 rfl rfl rfl (fun a u hE hD hk => exec_move (.tmp 2) _ rfl (hE 2 (.int .i64 (j : Int)) (by kernel_rfl) (by kernel_rfl))) ?_
          refine sv 4 rfl rfl rfl (fun a u hE hD hk => exec_nilp (.tmp 32) ⟨g, 0, none⟩ rfl (hD 0 32 (by kernel_rfl))) ?_
          refine sv 5 rfl rfl rfl (fun a u hE hD hk => exec_fldo 43 1 128 (.tmp 35) (g) (0) (128) rfl (hD 3 35 (by kernel_rfl)) (by kernel_rfl) rfl) ?_
          refine sv 6 rfl rfl rfl (fun a u hE hD hk => exec_ixK 16 41 40 32 (.tmp 36) (.tmp 33) (g) (128) (128 + m * 16) m ((m : Int)) rfl Try.underlying41 (by kernel_rfl) (hD 4 36 (by kernel_rfl)) (hD 1 33 (by kernel_rfl)) (by first | rfl | omega) (hm) (by first | rfl | omega)) ?_
          refine sv 7 rfl rfl rfl (fun a u hE hD hk => exec_fldo 40 1 8 (.tmp 37) (g) (128 + m * 16) (128 + m * 16 + 8) rfl (hD 5 37 (by kernel_rfl)) (by kernel_rfl) rfl) ?_
          refine sv 8 rfl rfl rfl (fun a u hE hD hk => exec_ixK 1 38 3 8 (.tmp 38) (.tmp 34) (g) (128 + m * 16 + 8) (128 + m * 16 + 8 + j) j ((j : Int)) rfl Try.underlying38 (by kernel_rfl) (hD 6 38 (by kernel_rfl)) (hD 2 34 (by kernel_rfl)) (by first | rfl | omega) (hj) (by first | rfl | omega)) ?_
          refine sv 9 rfl rfl rfl (fun a u hE hD hk => exec_loadi 3 Try.underlying3 (.tmp 39) ⟨g, 128 + m * 16 + 8 + j, none⟩ (.int .i64 (B.p m j)) rfl (hD 7 39 (by kernel_rfl)) (Kept.cell hk (((HB0.out.cell _).trans HX.out)))) ?_
          refine sv 10 rfl rfl rfl (fun a u hE hD hk => exec_assign (.tmp 40) _ rfl (hD 8 40 (by kernel_rfl))) ?_
          exact fsteps_nil
        intro gv w1 hV k1
        rw [show dstsOf _ 10 = [32, 33, 34, 35, 36, 37, 38, 39, 40, 11] by kernel_rfl]
        simp only [List.foldl_cons, List.foldl_nil, List.setIfInBounds_toArray, List.set_cons_succ, List.set_cons_zero, List.drop_succ_cons, List.drop_zero]
        rw [show gv 11 = .int .i64 (B.p m j) from hV 9 11 (by kernel_rfl)]
        clear hV
        refine wpList_nil ?_
        go_upto_region 4 with fail
        refine wp_text 2 [.eq (.int .i64 s), .eq (.bool true)] rfl (by kernel_rfl) ?_ ?_
        · refine sv 1 rfl rfl rfl (fun a u hE hD hk => exec_move (.tmp 3) _ rfl (hE 3 (.int .i64 s) (by kernel_rfl) (by kernel_rfl))) ?_
          refine fsteps_cons 2 rfl (fun a u hE hD hk => f_as (show ((decide ((s : Int) = (1 : Int))) : Bool) = true from decide_eq_true H4.out) (f_val (o := ⟨some 42, _, _, _, _, _⟩) (.bool (decide ((s : Int) = (1 : Int)))) rfl (wanted_none rfl _) (exec_eqn (p := s) (q := 1) rfl (hD 0 41 (by kernel_rfl)) rfl) rfl)) ?_
          exact fsteps_nil
        intro gv w2 hV k2
        rw [show dstsOf _ 2 = [41, 42] by kernel_rfl]
        simp only [List.foldl_cons, List.foldl_nil, List.setIfInBounds_toArray, List.set_cons_succ, List.set_cons_zero, List.drop_succ_cons, List.drop_zero]
        rw [show gv 42 = .bool true from hV 1 42 (by kernel_rfl)]
        clear hV
        refine wpList_nil ?_
        go_upto_region 5 with fail
        refine wp_text 3 [.eq (.int .i64 (B.p m j)), .eq (.int .i64 q), .eq (.int .i64 (((B.p m j) : Int) + (q : Int)))] rfl (by kernel_rfl) ?_ ?_
        · refine sv 1 rfl rfl rfl (fun a u hE hD hk => exec_move (.tmp 11) _ rfl (hE 11 (.int .i64 (B.p m j)) (by kernel_rfl) (by kernel_rfl))) ?_
          refine sv 2 rfl rfl rfl (fun a u hE hD hk => exec_move (.tmp 4) _ rfl (hE 4 (.int .i64 q) (by kernel_rfl) (by kernel_rfl))) ?_
          refine sv 3 rfl rfl rfl (fun a u hE hD hk => exec_addn (p := ((B.p m j))) (q := (q)) (((B.p m j) : Int) + (q : Int)) rfl (hD 0 43 (by kernel_rfl)) (hD 1 44 (by kernel_rfl)) rfl (by omega) (by omega)) ?_
          exact fsteps_nil
        intro gv w3 hV k3
        rw [show dstsOf _ 3 = [43, 44, 45] by kernel_rfl]
        simp only [List.foldl_cons, List.foldl_nil, List.setIfInBounds_toArray, List.set_cons_succ, List.set_cons_zero, List.drop_succ_cons, List.drop_zero]
        rw [show gv 45 = .int .i64 (((B.p m j) : Int) + (q : Int)) from hV 2 45 (by kernel_rfl)]
        clear hV
        refine l_val (o := ⟨some 11, _, _, _, _, _⟩) (.int .i64 (((B.p m j) : Int) + (q : Int))) rfl (exec_assign (.tmp 45) (.int .i64 (((B.p m j) : Int) + (q : Int))) rfl (by kernel_rfl)) ?_
        simp only [Act.put, List.setIfInBounds_toArray, List.set_cons_succ, List.set_cons_zero]
        refine wpList_nil ?_
        go_upto_region 7 with fail
        refine wp_text 6 [.eq (.int .i64 (B.p m j + q)), .eq (.bool (decide (((B.p m j + q) : Int) < ((-1099511627776) : Int)))), .eq (.bool (decide (((B.p m j + q) : Int) < ((-1099511627776) : Int)))), .cond (!(decide (((B.p m j + q) : Int) < ((-1099511627776) : Int)))) (.eq (.int .i64 (B.p m j + q))), .cond (!(decide (((B.p m j + q) : Int) < ((-1099511627776) : Int)))) (.eq (.bool (decide ((1099511627776 : Int) < ((B.p m j + q) : Int))))), .eq (.bool false)] rfl (by kernel_rfl) ?_ ?_
        · refine sv 1 rfl rfl rfl (fun a u hE hD hk => exec_move (.tmp 11) _ rfl (hE 11 (.int .i64 (B.p m j + q)) (by kernel_rfl) (by kernel_rfl))) ?_
          refine sv 2 rfl rfl rfl (fun a u hE hD hk => exec_ltn (p := (B.p m j + q)) (q := (-1099511627776)) rfl (hD 0 49 (by kernel_rfl)) rfl) ?_
          refine sv 3 rfl rfl rfl (fun a u hE hD hk => exec_move (.tmp 50) _ rfl (hD 1 50 (by kernel_rfl))) ?_
          refine fsteps_cons 4 rfl (fun a u hE hD hk => f_unless ((decide (((B.p m j + q) : Int) < ((-1099511627776) : Int)))) rfl rfl rfl (hD 2 51 (by kernel_rfl)) (fun hb => f_val (o := ⟨some 52, _, _, _, _, _⟩) (.int .i64 (B.p m j + q)) rfl (wanted_b rfl rfl (hD 2 51 (by kernel_rfl)) (eq_false_of hb)) (exec_move (.tmp 11) _ rfl (hE 11 (.int .i64 (B.p m j + q)) (by kernel_rfl) (by kernel_rfl))) rfl)) ?_
          refine fsteps_cons 5 rfl (fun a u hE hD hk => f_unless ((decide (((B.p m j + q) : Int) < ((-1099511627776) : Int)))) rfl rfl rfl (hD 2 51 (by kernel_rfl)) (fun hb => f_val (o := ⟨some 53, _, _, _, _, _⟩) (.bool (decide ((1099511627776 : Int) < ((B.p m j + q) : Int)))) rfl (wanted_b rfl rfl (hD 2 51 (by kernel_rfl)) (eq_false_of hb)) (exec_gtn (p := (B.p m j + q)) (q := 1099511627776) rfl ((hD 3 52 (by kernel_rfl)).1 hb) rfl) rfl)) ?_
          refine fsteps_cons 6 rfl (fun a u hE hD hk => f_as (show (((decide (((B.p m j + q) : Int) < ((-1099511627776) : Int))) || (decide ((1099511627776 : Int) < ((B.p m j + q) : Int)))) : Bool) = false from H2.out) (f_val (o := ⟨some 54, _, _, _, _, _⟩) (.bool ((decide (((B.p m j + q) : Int) < ((-1099511627776) : Int))) || (decide ((1099511627776 : Int) < ((B.p m j + q) : Int))))) rfl (wanted_none rfl _) (exec_pickor (.tmp 51) (.const (.bool true)) (.tmp 53) ((decide (((B.p m j + q) : Int) < ((-1099511627776) : Int)))) ((decide ((1099511627776 : Int) < ((B.p m j + q) : Int)))) rfl (hD 2 51 (by kernel_rfl)) rfl (fun hb2 => ((hD 4 53 (by kernel_rfl)).1 hb2))) rfl)) ?_
          exact fsteps_nil
        intro gv w4 hV k4
        rw [show dstsOf _ 6 = [49, 50, 51, 52, 53, 54] by kernel_rfl]
        simp only [List.foldl_cons, List.foldl_nil, List.setIfInBounds_toArray, List.set_cons_succ, List.set_cons_zero, List.drop_succ_cons, List.drop_zero]
        rw [show gv 54 = .bool false from hV 5 54 (by kernel_rfl)]
        clear hV
        refine wpList_nil ?_
        have kw := (((k0.trans k1).trans k2).trans k3).trans k4
        clear k0 k1 k2 k3 k4 HB0
        have HB4 := Lib.hid (HB.out.kept kw)
        clear HB
        go_upto_region 9 with fail
        refine wp_text 9 [.eq (.pointer (some ⟨g, 0, none⟩)), .eq (.int .i64 (m : Int)), .eq (.int .i64 (j : Int)), .eq (.int .i64 (B.p m j + q)), .eq (.pointer (some ⟨g, 0, none⟩)), .eq (.pointer (some ⟨g, 128, none⟩)), .eq (.pointer (some ⟨g, 128 + m * 16, none⟩)), .eq (.pointer (some ⟨g, 128 + m * 16 + 8, none⟩)), .eq (.pointer (some ⟨g, 128 + m * 16 + 8 + j, none⟩))] rfl (by kernel_rfl) ?_ ?_
        · refine sv 1 rfl rfl rfl (fun a u hE hD hk => exec_move (.tmp 0) _ rfl (hE 0 (.pointer (some ⟨g, 0, none⟩)) (by kernel_rfl) (by kernel_rfl))) ?_
          refine sv 2 rfl rfl rfl (fun a u hE hD hk => exec_move (.tmp 1) _ rfl (hE 1 (.int .i64 (m : Int)) (by kernel_rfl) (by kernel_rfl))) ?_
          refine sv 3 rfl rfl rfl (fun a u hE hD hk => exec_move (.tmp 2) _ rfl (hE 2 (.int .i64 (j : Int)) (by kernel_rfl) (by kernel_rfl))) ?_
          refine sv 4 rfl rfl rfl (fun a u hE hD hk => exec_move (.tmp 11) _ rfl (hE 11 (.int .i64 (B.p m j + q)) (by kernel_rfl) (by kernel_rfl))) ?_
          refine sv 5 rfl rfl rfl (fun a u hE hD hk => exec_nilp (.tmp 55) ⟨g, 0, none⟩ rfl (hD 0 55 (by kernel_rfl))) ?_
          refine sv 6 rfl rfl rfl (fun a u hE hD hk => exec_fldo 43 1 128 (.tmp 59) (g) (0) (128) rfl (hD 4 59 (by kernel_rfl)) (by kernel_rfl) rfl) ?_
          refine sv 7 rfl rfl rfl (fun a u hE hD hk => exec_ixK 16 41 40 32 (.tmp 60) (.tmp 56) (g) (128) (128 + m * 16) m ((m : Int)) rfl Try.underlying41 (by kernel_rfl) (hD 5 60 (by kernel_rfl)) (hD 1 56 (by kernel_rfl)) (by first | rfl | omega) (hm) (by first | rfl | omega)) ?_
          refine sv 8 rfl rfl rfl (fun a u hE hD hk => exec_fldo 40 1 8 (.tmp 61) (g) (128 + m * 16) (128 + m * 16 + 8) rfl (hD 6 61 (by kernel_rfl)) (by kernel_rfl) rfl) ?_
          refine sv 9 rfl rfl rfl (fun a u hE hD hk => exec_ixK 1 38 3 8 (.tmp 62) (.tmp 57) (g) (128 + m * 16 + 8) (128 + m * 16 + 8 + j) j ((j : Int)) rfl Try.underlying38 (by kernel_rfl) (hD 7 62 (by kernel_rfl)) (hD 2 57 (by kernel_rfl)) (by first | rfl | omega) (hj) (by first | rfl | omega)) ?_
          exact fsteps_nil
        intro gv wa hV ka
        rw [show dstsOf _ 9 = [55, 56, 57, 58, 59, 60, 61, 62, 63] by kernel_rfl]
        simp only [List.foldl_cons, List.foldl_nil, List.setIfInBounds_toArray, List.set_cons_succ, List.set_cons_zero, List.drop_succ_cons, List.drop_zero]
        rw [show gv 63 = .pointer (some ⟨g, 128 + m * 16 + 8 + j, none⟩) from hV 8 63 (by kernel_rfl)]
        rw [show gv 58 = .int .i64 (B.p m j + q) from hV 3 58 (by kernel_rfl)]
        clear hV
        refine l_putN (o := ⟨none, _, _, _, _, _⟩) g (128 + m * 16 + 8 + j) 43 (B.rc L) cs (B.p m j + q) (.tmp 63) (.tmp 58) rfl rfl (by kernel_rfl) (by kernel_rfl) (HB4.out.kept ka) hl HS.out ?_
        intro wS hBS hkS hsS
        simp only [Act.put]
        refine wpList_nil ?_
        have kz : Keep (· = g) w wS := ((kw.trans ka).mono fun _ _ h => h.elim).trans hkS (fun _ _ h => h)
        go_wp2
        go_ret
        exact ⟨rfl, hBS, kz⟩
    · have HG : Hid (B.p m j + sgn s q = B.p m j - q) := by show _ = _; unfold sgn; rw [if_pos (by unfold sdB at hs; rw [Bool.or_eq_true, decide_eq_true_eq, decide_eq_true_eq] at hs; omega)]; omega
      have H4 := Lib.hid h4
      clear h4 h1 ht
      cases h2 : decide (B.p m j - q < -1099511627776) || decide (1099511627776 < B.p m j - q) with
      | true =>
        have e1 : trB B (m : Int) (j : Int) s q = false := by
          unfold trB Bal.pAt
          rw [pick2_in _ hm hj, HG.out]
          rw [Bool.or_eq_true, decide_eq_true_eq, decide_eq_true_eq] at h2
          rw [wiB_not.2 h2, Bool.and_false]
        rw [tr_no e1, e1]
        have H2 := Lib.hid h2
        clear e1 h2
        go_enter Try.func25, Try.ntmps25
        go_upto_region 1 with fail
        refine wp_text 20 [.eq (.int .i64 (m : Int)), .eq (.int .i64 (j : Int)), .eq (.bool (thB (m : Int) (j : Int))), .eq (.bool (!(thB (m : Int) (j : Int)))), .eq (.bool (!(thB (m : Int) (j : Int)))), .cond (!(!(thB (m : Int) (j : Int)))) (.eq (.int .i64 q)), .cond (!(!(thB (m : Int) (j : Int)))) (.eq (.bool (decide ((q : Int) < (1 : Int))))), .eq (.bool ((!(thB (m : Int) (j : Int))) || (decide ((q : Int) < (1 : Int))))), .eq (.bool ((!(thB (m : Int) (j : Int))) || (decide ((q : Int) < (1 : Int))))), .cond (!((!(thB (m : Int) (j : Int))) || (decide ((q : Int) < (1 : Int))))) (.eq (.int .i64 q)), .cond (!((!(thB (m : Int) (j : Int))) || (decide ((q : Int) < (1 : Int))))) (.eq (.bool (decide ((1048576 : Int) < (q : Int))))), .eq (.bool (((!(thB (m : Int) (j : Int))) || (decide ((q : Int) < (1 : Int)))) || (decide ((1048576 : Int) < (q : Int))))), .eq (.bool (((!(thB (m : Int) (j : Int))) || (decide ((q : Int) < (1 : Int)))) || (decide ((1048576 : Int) < (q : Int))))), .cond (!(((!(thB (m : Int) (j : Int))) || (decide ((q : Int) < (1 : Int)))) || (decide ((1048576 : Int) < (q : Int))))) (.eq (.int .i64 s)), .cond (!(((!(thB (m : Int) (j : Int))) || (decide ((q : Int) < (1 : Int)))) || (decide ((1048576 : Int) < (q : Int))))) (.eq (.bool (decide ((s : Int) ≠ (1 : Int))))), .cond (!(((!(thB (m : Int) (j : Int))) || (decide ((q : Int) < (1 : Int)))) || (decide ((1048576 : Int) < (q : Int))))) (.eq (.bool (decide ((s : Int) ≠ (1 : Int))))), .cond ((!(((!(thB (m : Int) (j : Int))) || (decide ((q : Int) < (1 : Int)))) || (decide ((1048576 : Int) < (q : Int))))) && (decide ((s : Int) ≠ (1 : Int)))) (.eq (.int .i64 s)), .cond ((!(((!(thB (m : Int) (j : Int))) || (decide ((q : Int) < (1 : Int)))) || (decide ((1048576 : Int) < (q : Int))))) && (decide ((s : Int) ≠ (1 : Int)))) (.eq (.bool (decide ((s : Int) ≠ (2 : Int))))), .cond (!(((!(thB (m : Int) (j : Int))) || (decide ((q : Int) < (1 : Int)))) || (decide ((1048576 : Int) < (q : Int))))) (.eq (.bool ((decide ((s : Int) ≠ (1 : Int))) && (decide ((s : Int) ≠ (2 : Int)))))), .eq (.bool false)] rfl (by kernel_rfl) ?_ ?_
        · refine sv 1 rfl rfl rfl (fun a u hE hD hk => exec_move (.tmp 1) _ rfl (hE 1 (.int .i64 (m : Int)) (by kernel_rfl) (by kernel_rfl))) ?_
          refine sv 2 rfl rfl rfl (fun a u hE hD hk => exec_move (.tmp 2) _ rfl (hE 2 (.int .i64 (j : Int)) (by kernel_rfl) (by kernel_rfl))) ?_
          refine fsteps_cons 3 rfl (fun a u hE hD hk => f_call (o := ⟨some 14, _, _, _, _, _⟩) 27 #[.int .i64 (m : Int), .int .i64 (j : Int)] rfl (wanted_none rfl _) (exec_call 27 _ [.tmp 12, .tmp 13] _ [.int .i64 (m : Int), .int .i64 (j : Int)] Try.func27 (by kernel_rfl) (by kernel_rfl) rfl (show [a.eval (.tmp 12), a.eval (.tmp 13)] = [.int .i64 (m : Int), .int .i64 (j : Int)] from (by rw [show a.eval (.tmp 12) = .int .i64 (m : Int) from (hD 0 12 (by kernel_rfl)), show a.eval (.tmp 13) = .int .i64 (j : Int) from (hD 1 13 (by kernel_rfl))] <;> rfl)) u) (rplace_any _ _ u)) ?_
          refine sv 4 rfl rfl rfl (fun a u hE hD hk => exec_not _ (.tmp 14) (thB (m : Int) (j : Int)) rfl (hD 2 14 (by kernel_rfl))) ?_
          refine sv 5 rfl rfl rfl (fun a u hE hD hk => exec_move (.tmp 15) _ rfl (hD 3 15 (by kernel_rfl))) ?_
          refine fsteps_cons 6 rfl (fun a u hE hD hk => f_unless ((!(thB (m : Int) (j : Int)))) rfl rfl rfl (hD 4 16 (by kernel_rfl)) (fun hb => f_val (o := ⟨some 17, _, _, _, _, _⟩) (.int .i64 q) rfl (wanted_b rfl rfl (hD 4 16 (by kernel_rfl)) (eq_false_of hb)) (exec_move (.tmp 4) _ rfl (hE 4 (.int .i64 q) (by kernel_rfl) (by kernel_rfl))) rfl)) ?_
          refine fsteps_cons 7 rfl (fun a u hE hD hk => f_unless ((!(thB (m : Int) (j : Int)))) rfl rfl rfl (hD 4 16 (by kernel_rfl)) (fun hb => f_val (o := ⟨some 18, _, _, _, _, _⟩) (.bool (decide ((q : Int) < (1 : Int)))) rfl (wanted_b rfl rfl (hD 4 16 (by kernel_rfl)) (eq_false_of hb)) (exec_ltn (p := q) (q := 1) rfl ((hD 5 17 (by kernel_rfl)).1 hb) rfl) rfl)) ?_
          refine sv 8 rfl rfl rfl (fun a u hE hD hk => exec_pickor (.tmp 16) (.const (.bool true)) (.tmp 18) ((!(thB (m : Int) (j : Int)))) ((decide ((q : Int) < (1 : Int)))) rfl (hD 4 16 (by kernel_rfl)) rfl (fun hb2 => ((hD 6 18 (by kernel_rfl)).1 hb2))) ?_
          refine sv 9 rfl rfl rfl (fun a u hE hD hk => exec_move (.tmp 19) _ rfl (hD 7 19 (by kernel_rfl))) ?_
          refine fsteps_cons 10 rfl (fun a u hE hD hk => f_unless (((!(thB (m : Int) (j : Int))) || (decide ((q : Int) < (1 : Int))))) rfl rfl rfl (hD 8 20 (by kernel_rfl)) (fun hb => f_val (o := ⟨some 21, _, _, _, _, _⟩) (.int .i64 q) rfl (wanted_b rfl rfl (hD 8 20 (by kernel_rfl)) (eq_false_of hb)) (exec_move (.tmp 4) _ rfl (hE 4 (.int .i64 q) (by kernel_rfl) (by kernel_rfl))) rfl)) ?_
          refine fsteps_cons 11 rfl (fun a u hE hD hk => f_unless (((!(thB (m : Int) (j : Int))) || (decide ((q : Int) < (1 : Int))))) rfl rfl rfl (hD 8 20 (by kernel_rfl)) (fun hb => f_val (o := ⟨some 22, _, _, _, _, _⟩) (.bool (decide ((1048576 : Int) < (q : Int)))) rfl (wanted_b rfl rfl (hD 8 20 (by kernel_rfl)) (eq_false_of hb)) (exec_gtn (p := q) (q := 1048576) rfl ((hD 9 21 (by kernel_rfl)).1 hb) rfl) rfl)) ?_
          refine sv 12 rfl rfl rfl (fun a u hE hD hk => exec_pickor (.tmp 20) (.const (.bool true)) (.tmp 22) (((!(thB (m : Int) (j : Int))) || (decide ((q : Int) < (1 : Int))))) ((decide ((1048576 : Int) < (q : Int)))) rfl (hD 8 20 (by kernel_rfl)) rfl (fun hb2 => ((hD 10 22 (by kernel_rfl)).1 hb2))) ?_
          refine sv 13 rfl rfl rfl (fun a u hE hD hk => exec_move (.tmp 23) _ rfl (hD 11 23 (by kernel_rfl))) ?_
          refine fsteps_cons 14 rfl (fun a u hE hD hk => f_unless ((((!(thB (m : Int) (j : Int))) || (decide ((q : Int) < (1 : Int)))) || (decide ((1048576 : Int) < (q : Int))))) rfl rfl rfl (hD 12 24 (by kernel_rfl)) (fun hb => f_val (o := ⟨some 25, _, _, _, _, _⟩) (.int .i64 s) rfl (wanted_b rfl rfl (hD 12 24 (by kernel_rfl)) (eq_false_of hb)) (exec_move (.tmp 3) _ rfl (hE 3 (.int .i64 s) (by kernel_rfl) (by kernel_rfl))) rfl)) ?_
          refine fsteps_cons 15 rfl (fun a u hE hD hk => f_unless ((((!(thB (m : Int) (j : Int))) || (decide ((q : Int) < (1 : Int)))) || (decide ((1048576 : Int) < (q : Int))))) rfl rfl rfl (hD 12 24 (by kernel_rfl)) (fun hb => f_val (o := ⟨some 26, _, _, _, _, _⟩) (.bool (decide ((s : Int) ≠ (1 : Int)))) rfl (wanted_b rfl rfl (hD 12 24 (by kernel_rfl)) (eq_false_of hb)) (exec_nen (p := s) (q := 1) rfl ((hD 13 25 (by kernel_rfl)).1 hb) rfl) rfl)) ?_
          refine fsteps_cons 16 rfl (fun a u hE hD hk => f_unless ((((!(thB (m : Int) (j : Int))) || (decide ((q : Int) < (1 : Int)))) || (decide ((1048576 : Int) < (q : Int))))) rfl rfl rfl (hD 12 24 (by kernel_rfl)) (fun hb => f_val (o := ⟨some 27, _, _, _, _, _⟩) (.bool (decide ((s : Int) ≠ (1 : Int)))) rfl (wanted_b rfl rfl (hD 12 24 (by kernel_rfl)) (eq_false_of hb)) (exec_move (.tmp 26) _ rfl ((hD 14 26 (by kernel_rfl)).1 hb)) rfl)) ?_
          refine fsteps_cons 17 rfl (fun a u hE hD hk => f_if2 (!(((!(thB (m : Int) (j : Int))) || (decide ((q : Int) < (1 : Int)))) || (decide ((1048576 : Int) < (q : Int))))) ((decide ((s : Int) ≠ (1 : Int)))) rfl rfl rfl (hD 15 27 (by kernel_rfl)) (fun hb => f_val (o := ⟨some 28, _, _, _, _, _⟩) (.int .i64 s) rfl (wanted_b rfl rfl ((hD 15 27 (by kernel_rfl)).1 (and_l hb)) (eq_true_of (and_r hb))) (exec_move (.tmp 3) _ rfl (hE 3 (.int .i64 s) (by kernel_rfl) (by kernel_rfl))) rfl)) ?_
          refine fsteps_cons 18 rfl (fun a u hE hD hk => f_if2 (!(((!(thB (m : Int) (j : Int))) || (decide ((q : Int) < (1 : Int)))) || (decide ((1048576 : Int) < (q : Int))))) ((decide ((s : Int) ≠ (1 : Int)))) rfl rfl rfl (hD 15 27 (by kernel_rfl)) (fun hb => f_val (o := ⟨some 29, _, _, _, _, _⟩) (.bool (decide ((s : Int) ≠ (2 : Int)))) rfl (wanted_b rfl rfl ((hD 15 27 (by kernel_rfl)).1 (and_l hb)) (eq_true_of (and_r hb))) (exec_nen (p := s) (q := 2) rfl ((hD 16 28 (by kernel_rfl)).1 hb) rfl) rfl)) ?_
          refine fsteps_cons 19 rfl (fun a u hE hD hk => f_unless ((((!(thB (m : Int) (j : Int))) || (decide ((q : Int) < (1 : Int)))) || (decide ((1048576 : Int) < (q : Int))))) rfl rfl rfl (hD 12 24 (by kernel_rfl)) (fun hb => f_val (o := ⟨some 30, _, _, _, _, _⟩) (.bool ((decide ((s : Int) ≠ (1 : Int))) && (decide ((s : Int) ≠ (2 : Int))))) rfl (wanted_b rfl rfl (hD 12 24 (by kernel_rfl)) (eq_false_of hb)) (exec_pickand (.tmp 27) (.tmp 29) (.const (.bool false)) ((decide ((s : Int) ≠ (1 : Int)))) ((decide ((s : Int) ≠ (2 : Int)))) rfl ((hD 15 27 (by kernel_rfl)).1 hb) (fun hb2 => ((hD 17 29 (by kernel_rfl)).1 (and_mk hb hb2))) rfl) rfl)) ?_
          refine fsteps_cons 20 rfl (fun a u hE hD hk => f_as (show (((((!(thB (m : Int) (j : Int))) || (decide ((q : Int) < (1 : Int)))) || (decide ((1048576 : Int) < (q : Int)))) || ((decide ((s : Int) ≠ (1 : Int))) && (decide ((s : Int) ≠ (2 : Int))))) : Bool) = false from H1.out) (f_val (o := ⟨some 31, _, _, _, _, _⟩) (.bool ((((!(thB (m : Int) (j : Int))) || (decide ((q : Int) < (1 : Int)))) || (decide ((1048576 : Int) < (q : Int)))) || ((decide ((s : Int) ≠ (1 : Int))) && (decide ((s : Int) ≠ (2 : Int)))))) rfl (wanted_none rfl _) (exec_pickor (.tmp 24) (.const (.bool true)) (.tmp 30) ((((!(thB (m : Int) (j : Int))) || (decide ((q : Int) < (1 : Int)))) || (decide ((1048576 : Int) < (q : Int))))) (((decide ((s : Int) ≠ (1 : Int))) && (decide ((s : Int) ≠ (2 : Int))))) rfl (hD 12 24 (by kernel_rfl)) rfl (fun hb2 => ((hD 18 30 (by kernel_rfl)).1 hb2))) rfl)) ?_
          exact fsteps_nil
        intro gv w0 hV k0
        rw [show dstsOf _ 20 = [12, 13, 14, 15, 16, 17, 18, 19, 20, 21, 22, 23, 24, 25, 26, 27, 28, 29, 30, 31] by kernel_rfl]
        simp only [List.foldl_cons, List.foldl_nil, List.setIfInBounds_toArray, List.set_cons_succ, List.set_cons_zero, List.drop_succ_cons, List.drop_zero]
        rw [show gv 31 = .bool false from hV 19 31 (by kernel_rfl)]
        clear hV
        refine wpList_nil ?_
        have HB0 := Lib.hid (HB.out.kept k0)
        go_upto_region 3 with fail
        refine wp_text 10 [.eq (.pointer (some ⟨g, 0, none⟩)), .eq (.int .i64 (m : Int)), .eq (.int .i64 (j : Int)), .eq (.pointer (some ⟨g, 0, none⟩)), .eq (.pointer (some ⟨g, 128, none⟩)), .eq (.pointer (some ⟨g, 128 + m * 16, none⟩)), .eq (.pointer (some ⟨g, 128 + m * 16 + 8, none⟩)), .eq (.pointer (some ⟨g, 128 + m * 16 + 8 + j, none⟩)), .eq (.int .i64 (B.p m j)), .eq (.int .i64 (B.p m j))] rfl (by kernel_rfl) ?_ ?_
        · refine sv 1 rfl rfl rfl (fun a u hE hD hk => exec_move (.tmp 0) _ rfl (hE 0 (.pointer (some ⟨g, 0, none⟩)) (by kernel_rfl) (by kernel_rfl))) ?_
          refine sv 2 rfl rfl rfl (fun a u hE hD hk => exec_move (.tmp 1) _ rfl (hE 1 (.int .i64 (m : Int)) (by kernel_rfl) (by kernel_rfl))) ?_
          refine sv 3 rfl rfl rfl (fun a u hE hD hk => exec_move (.tmp 2) _ rfl (hE 2 (.int .i64 (j : Int)) (by kernel_rfl) (by kernel_rfl))) ?_
          refine sv 4 rfl rfl rfl (fun a u hE hD hk => exec_nilp (.tmp 32) ⟨g, 0, none⟩ rfl (hD 0 32 (by kernel_rfl))) ?_
          refine sv 5 rfl rfl rfl (fun a u hE hD hk => exec_fldo 43 1 128 (.tmp 35) (g) (0) (128) rfl (hD 3 35 (by kernel_rfl)) (by kernel_rfl) rfl) ?_
          refine sv 6 rfl rfl rfl (fun a u hE hD hk => exec_ixK 16 41 40 32 (.tmp 36) (.tmp 33) (g) (128) (128 + m * 16) m ((m : Int)) rfl Try.underlying41 (by kernel_rfl) (hD 4 36 (by kernel_rfl)) (hD 1 33 (by kernel_rfl)) (by first | rfl | omega) (hm) (by first | rfl | omega)) ?_
          refine sv 7 rfl rfl rfl (fun a u hE hD hk => exec_fldo 40 1 8 (.tmp 37) (g) (128 + m * 16) (128 + m * 16 + 8) rfl (hD 5 37 (by kernel_rfl)) (by kernel_rfl) rfl) ?_
          refine sv 8 rfl rfl rfl (fun a u hE hD hk => exec_ixK 1 38 3 8 (.tmp 38) (.tmp 34) (g) (128 + m * 16 + 8) (128 + m * 16 + 8 + j) j ((j : Int)) rfl Try.underlying38 (by kernel_rfl) (hD 6 38 (by kernel_rfl)) (hD 2 34 (by kernel_rfl)) (by first | rfl | omega) (hj) (by first | rfl | omega)) ?_
          refine sv 9 rfl rfl rfl (fun a u hE hD hk => exec_loadi 3 Try.underlying3 (.tmp 39) ⟨g, 128 + m * 16 + 8 + j, none⟩ (.int .i64 (B.p m j)) rfl (hD 7 39 (by kernel_rfl)) (Kept.cell hk (((HB0.out.cell _).trans HX.out)))) ?_
          refine sv 10 rfl rfl rfl (fun a u hE hD hk => exec_assign (.tmp 40) _ rfl (hD 8 40 (by kernel_rfl))) ?_
          exact fsteps_nil
        intro gv w1 hV k1
        rw [show dstsOf _ 10 = [32, 33, 34, 35, 36, 37, 38, 39, 40, 11] by kernel_rfl]
        simp only [List.foldl_cons, List.foldl_nil, List.setIfInBounds_toArray, List.set_cons_succ, List.set_cons_zero, List.drop_succ_cons, List.drop_zero]
        rw [show gv 11 = .int .i64 (B.p m j) from hV 9 11 (by kernel_rfl)]
        clear hV
        refine wpList_nil ?_
        go_upto_region 4 with fail
        refine wp_text 2 [.eq (.int .i64 s), .eq (.bool false)] rfl (by kernel_rfl) ?_ ?_
        · refine sv 1 rfl rfl rfl (fun a u hE hD hk => exec_move (.tmp 3) _ rfl (hE 3 (.int .i64 s) (by kernel_rfl) (by kernel_rfl))) ?_
          refine fsteps_cons 2 rfl (fun a u hE hD hk => f_as (show ((decide ((s : Int) = (1 : Int))) : Bool) = false from decide_eq_false H4.out) (f_val (o := ⟨some 42, _, _, _, _, _⟩) (.bool (decide ((s : Int) = (1 : Int)))) rfl (wanted_none rfl _) (exec_eqn (p := s) (q := 1) rfl (hD 0 41 (by kernel_rfl)) rfl) rfl)) ?_
          exact fsteps_nil
        intro gv w2 hV k2
        rw [show dstsOf _ 2 = [41, 42] by kernel_rfl]
        simp only [List.foldl_cons, List.foldl_nil, List.setIfInBounds_toArray, List.set_cons_succ, List.set_cons_zero, List.drop_succ_cons, List.drop_zero]
        rw [show gv 42 = .bool false from hV 1 42 (by kernel_rfl)]
        clear hV
        refine wpList_nil ?_
        go_upto_region 6 with fail
        refine wp_text 3 [.eq (.int .i64 (B.p m j)), .eq (.int .i64 q), .eq (.int .i64 (((B.p m j) : Int) - (q : Int)))] rfl (by kernel_rfl) ?_ ?_
        · refine sv 1 rfl rfl rfl (fun a u hE hD hk => exec_move (.tmp 11) _ rfl (hE 11 (.int .i64 (B.p m j)) (by kernel_rfl) (by kernel_rfl))) ?_
          refine sv 2 rfl rfl rfl (fun a u hE hD hk => exec_move (.tmp 4) _ rfl (hE 4 (.int .i64 q) (by kernel_rfl) (by kernel_rfl))) ?_
          refine sv 3 rfl rfl rfl (fun a u hE hD hk => exec_subn (p := ((B.p m j))) (q := (q)) (((B.p m j) : Int) - (q : Int)) rfl (hD 0 46 (by kernel_rfl)) (hD 1 47 (by kernel_rfl)) rfl (by omega) (by omega)) ?_
          exact fsteps_nil
        intro gv w3 hV k3
        rw [show dstsOf _ 3 = [46, 47, 48] by kernel_rfl]
        simp only [List.foldl_cons, List.foldl_nil, List.setIfInBounds_toArray, List.set_cons_succ, List.set_cons_zero, List.drop_succ_cons, List.drop_zero]
        rw [show gv 48 = .int .i64 (((B.p m j) : Int) - (q : Int)) from hV 2 48 (by kernel_rfl)]
        clear hV
        refine l_val (o := ⟨some 11, _, _, _, _, _⟩) (.int .i64 (((B.p m j) : Int) - (q : Int))) rfl (exec_assign (.tmp 48) (.int .i64 (((B.p m j) : Int) - (q : Int))) rfl (by kernel_rfl)) ?_
        simp only [Act.put, List.setIfInBounds_toArray, List.set_cons_succ, List.set_cons_zero]
        refine wpList_nil ?_
        go_upto_region 7 with fail
        refine wp_text 6 [.eq (.int .i64 (B.p m j - q)), .eq (.bool (decide (((B.p m j - q) : Int) < ((-1099511627776) : Int)))), .eq (.bool (decide (((B.p m j - q) : Int) < ((-1099511627776) : Int)))), .cond (!(decide (((B.p m j - q) : Int) < ((-1099511627776) : Int)))) (.eq (.int .i64 (B.p m j - q))), .cond (!(decide (((B.p m j - q) : Int) < ((-1099511627776) : Int)))) (.eq (.bool (decide ((1099511627776 : Int) < ((B.p m j - q) : Int))))), .eq (.bool true)] rfl (by kernel_rfl) ?_ ?_
        · refine sv 1 rfl rfl rfl (fun a u hE hD hk => exec_move (.tmp 11) _ rfl (hE 11 (.int .i64 (B.p m j - q)) (by kernel_rfl) (by kernel_rfl))) ?_
          refine sv 2 rfl rfl rfl (fun a u hE hD hk => exec_ltn (p := (B.p m j - q)) (q := (-1099511627776)) rfl (hD 0 49 (by kernel_rfl)) rfl) ?_
          refine sv 3 rfl rfl rfl (fun a u hE hD hk => exec_move (.tmp 50) _ rfl (hD 1 50 (by kernel_rfl))) ?_
          refine fsteps_cons 4 rfl (fun a u hE hD hk => f_unless ((decide (((B.p m j - q) : Int) < ((-1099511627776) : Int)))) rfl rfl rfl (hD 2 51 (by kernel_rfl)) (fun hb => f_val (o := ⟨some 52, _, _, _, _, _⟩) (.int .i64 (B.p m j - q)) rfl (wanted_b rfl rfl (hD 2 51 (by kernel_rfl)) (eq_false_of hb)) (exec_move (.tmp 11) _ rfl (hE 11 (.int .i64 (B.p m j - q)) (by kernel_rfl) (by kernel_rfl))) rfl)) ?_
          refine fsteps_cons 5 rfl (fun a u hE hD hk => f_unless ((decide (((B.p m j - q) : Int) < ((-1099511627776) : Int)))) rfl rfl rfl (hD 2 51 (by kernel_rfl)) (fun hb => f_val (o := ⟨some 53, _, _, _, _, _⟩) (.bool (decide ((1099511627776 : Int) < ((B.p m j - q) : Int)))) rfl (wanted_b rfl rfl (hD 2 51 (by kernel_rfl)) (eq_false_of hb)) (exec_gtn (p := (B.p m j - q)) (q := 1099511627776) rfl ((hD 3 52 (by kernel_rfl)).1 hb) rfl) rfl)) ?_
          refine fsteps_cons 6 rfl (fun a u hE hD hk => f_as (show (((decide (((B.p m j - q) : Int) < ((-1099511627776) : Int))) || (decide ((1099511627776 : Int) < ((B.p m j - q) : Int)))) : Bool) = true from H2.out) (f_val (o := ⟨some 54, _, _, _, _, _⟩) (.bool ((decide (((B.p m j - q) : Int) < ((-1099511627776) : Int))) || (decide ((1099511627776 : Int) < ((B.p m j - q) : Int))))) rfl (wanted_none rfl _) (exec_pickor (.tmp 51) (.const (.bool true)) (.tmp 53) ((decide (((B.p m j - q) : Int) < ((-1099511627776) : Int)))) ((decide ((1099511627776 : Int) < ((B.p m j - q) : Int)))) rfl (hD 2 51 (by kernel_rfl)) rfl (fun hb2 => ((hD 4 53 (by kernel_rfl)).1 hb2))) rfl)) ?_
          exact fsteps_nil
        intro gv w4 hV k4
        rw [show dstsOf _ 6 = [49, 50, 51, 52, 53, 54] by kernel_rfl]
        simp only [List.foldl_cons, List.foldl_nil, List.setIfInBounds_toArray, List.set_cons_succ, List.set_cons_zero, List.drop_succ_cons, List.drop_zero]
        rw [show gv 54 = .bool true from hV 5 54 (by kernel_rfl)]
        clear hV
        refine wpList_nil ?_
        have kw := (((k0.trans k1).trans k2).trans k3).trans k4
        clear k0 k1 k2 k3 k4 HB0
        have HB1 := HB.out.kept kw
        have kz : Keep (· = g) w w4 := kw.mono fun _ _ h => h.elim
        go_wp2
        go_ret
        exact ⟨rfl, HB1, kz⟩
      | false =>
        have h3 := h2
        rw [Bool.or_eq_false_iff, decide_eq_false_iff_not, decide_eq_false_iff_not] at h3
        obtain ⟨e1, e2⟩ := tr_in (B := B) hm hj hq0 hq1 hs (by rw [HG.out]; omega) (by rw [HG.out]; omega)
        rw [e1, e2, HG.out]
        obtain ⟨cs, hcs⟩ : ∃ cs, (Bal.mk B.o (upd B.p m j (B.p m j - q))).rc L = cs := ⟨_, rfl⟩
        rw [hcs]
        have HS : Hid ((B.rc L).set (128 + m * 16 + 8 + j) (.int .i64 (B.p m j - q)) = cs) := by show _ = _; rw [← hcs]; exact rc_setP B L hm hj _
        have H2 := Lib.hid h2
        clear e1 e2 hcs h2
        go_enter Try.func25, Try.ntmps25
        go_upto_region 1 with fail
        refine wp_text 20 [.eq (.int .i64 (m : Int)), .eq (.int .i64 (j : Int)), .eq (.bool (thB (m : Int) (j : Int))), .eq (.bool (!(thB (m : Int) (j : Int)))), .eq (.bool (!(thB (m : Int) (j : Int)))), .cond (!(!(thB (m : Int) (j : Int)))) (.eq (.int .i64 q)), .cond (!(!(thB (m : Int) (j : Int)))) (.eq (.bool (decide ((q : Int) < (1 : Int))))), .eq (.bool ((!(thB (m : Int) (j : Int))) || (decide ((q : Int) < (1 : Int))))), .eq (.bool ((!(thB (m : Int) (j : Int))) || (decide ((q : Int) < (1 : Int))))), .cond (!((!(thB (m : Int) (j : Int))) || (decide ((q : Int) < (1 : Int))))) (.eq (.int .i64 q)), .cond (!((!(thB (m : Int) (j : Int))) || (decide ((q : Int) < (1 : Int))))) (.eq (.bool (decide ((1048576 : Int) < (q : Int))))), .eq (.bool (((!(thB (m : Int) (j : Int))) || (decide ((q : Int) < (1 : Int)))) || (decide ((1048576 : Int) < (q : Int))))), .eq (.bool (((!(thB (m : Int) (j : Int))) || (decide ((q : Int) < (1 : Int)))) || (decide ((1048576 : Int) < (q : Int))))), .cond (!(((!(thB (m : Int) (j : Int))) || (decide ((q : Int) < (1 : Int)))) || (decide ((1048576 : Int) < (q : Int))))) (.eq (.int .i64 s)), .cond (!(((!(thB (m : Int) (j : Int))) || (decide ((q : Int) < (1 : Int)))) || (decide ((1048576 : Int) < (q : Int))))) (.eq (.bool (decide ((s : Int) ≠ (1 : Int))))), .cond (!(((!(thB (m : Int) (j : Int))) || (decide ((q : Int) < (1 : Int)))) || (decide ((1048576 : Int) < (q : Int))))) (.eq (.bool (decide ((s : Int) ≠ (1 : Int))))), .cond ((!(((!(thB (m : Int) (j : Int))) || (decide ((q : Int) < (1 : Int)))) || (decide ((1048576 : Int) < (q : Int))))) && (decide ((s : Int) ≠ (1 : Int)))) (.eq (.int .i64 s)), .cond ((!(((!(thB (m : Int) (j : Int))) || (decide ((q : Int) < (1 : Int)))) || (decide ((1048576 : Int) < (q : Int))))) && (decide ((s : Int) ≠ (1 : Int)))) (.eq (.bool (decide ((s : Int) ≠ (2 : Int))))), .cond (!(((!(thB (m : Int) (j : Int))) || (decide ((q : Int) < (1 : Int)))) || (decide ((1048576 : Int) < (q : Int))))) (.eq (.bool ((decide ((s : Int) ≠ (1 : Int))) && (decide ((s : Int) ≠ (2 : Int)))))), .eq (.bool false)] rfl (by kernel_rfl) ?_ ?_
        · refine sv 1 rfl rfl rfl (fun a u hE hD hk => exec_move (.tmp 1) _ rfl (hE 1 (.int .i64 (m : Int)) (by kernel_rfl) (by kernel_rfl))) ?_
          refine sv 2 rfl rfl rfl (fun a u hE hD hk => exec_move (.tmp 2) _ rfl (hE 2 (.int .i64 (j : Int)) (by kernel_rfl) (by kernel_rfl))) ?_
          refine fsteps_cons 3 rfl (fun a u hE hD hk => f_call (o := ⟨some 14, _, _, _, _, _⟩) 27 #[.int .i64 (m : Int), .int .i64 (j : Int)] rfl (wanted_none rfl _) (exec_call 27 _ [.tmp 12, .tmp 13] _ [.int .i64 (m : Int), .int .i64 (j : Int)] Try.func27 (by kernel_rfl) (by kernel_rfl) rfl (show [a.eval (.tmp 12), a.eval (.tmp 13)] = [.int .i64 (m : Int), .int .i64 (j : Int)] from (by rw [show a.eval (.tmp 12) = .int .i64 (m : Int) from (hD 0 12 (by kernel_rfl)), show a.eval (.tmp 13) = .int .i64 (j : Int) from (hD 1 13 (by kernel_rfl))] <;> rfl)) u) (rplace_any _ _ u)) ?_
          refine sv 4 rfl rfl rfl (fun a u hE hD hk => exec_not _ (.tmp 14) (thB (m : Int) (j : Int)) rfl (hD 2 14 (by kernel_rfl))) ?_
          refine sv 5 rfl rfl rfl (fun a u hE hD hk => exec_move (.tmp 15) _ rfl (hD 3 15 (by kernel_rfl))) ?_
          refine fsteps_cons 6 rfl (fun a u hE hD hk => f_unless ((!(thB (m : Int) (j : Int)))) rfl rfl rfl (hD 4 16 (by kernel_rfl)) (fun hb => f_val (o := ⟨some 17, _, _, _, _, _⟩) (.int .i64 q) rfl (wanted_b rfl rfl (hD 4 16 (by kernel_rfl)) (eq_false_of hb)) (exec_move (.tmp 4) _ rfl (hE 4 (.int .i64 q) (by kernel_rfl) (by kernel_rfl))) rfl)) ?_
          refine fsteps_cons 7 rfl (fun a u hE hD hk => f_unless ((!(thB (m : Int) (j : Int)))) rfl rfl rfl (hD 4 16 (by kernel_rfl)) (fun hb => f_val (o := ⟨some 18, _, _, _, _, _⟩) (.bool (decide ((q : Int) < (1 : Int)))) rfl (wanted_b rfl rfl (hD 4 16 (by kernel_rfl)) (eq_false_of hb)) (exec_ltn (p := q) (q := 1) rfl ((hD 5 17 (by kernel_rfl)).1 hb) rfl) rfl)) ?_
          refine sv 8 rfl rfl rfl (fun a u hE hD hk => exec_pickor (.tmp 16) (.const (.bool true)) (.tmp 18) ((!(thB (m : Int) (j : Int)))) ((decide ((q : Int) < (1 : Int)))) rfl (hD 4 16 (by kernel_rfl)) rfl (fun hb2 => ((hD 6 18 (by kernel_rfl)).1 hb2))) ?_
          refine sv 9 rfl rfl rfl (fun a u hE hD hk => exec_move (.tmp 19) _ rfl (hD 7 19 (by kernel_rfl))) ?_
          refine fsteps_cons 10 rfl (fun a u hE hD hk => f_unless (((!(thB (m : Int) (j : Int))) || (decide ((q : Int) < (1 : Int))))) rfl rfl rfl (hD 8 20 (by kernel_rfl)) (fun hb => f_val (o := ⟨some 21, _, _, _, _, _⟩) (.int .i64 q) rfl (wanted_b rfl rfl (hD 8 20 (by kernel_rfl)) (eq_false_of hb)) (exec_move (.tmp 4) _ rfl (hE 4 (.int .i64 q) (by kernel_rfl) (by kernel_rfl))) rfl)) ?_
          refine fsteps_cons 11 rfl (fun a u hE hD hk => f_unless (((!(thB (m : Int) (j : Int))) || (decide ((q : Int) < (1 : Int))))) rfl rfl rfl (hD 8 20 (by kernel_rfl)) (fun hb => f_val (o := ⟨some 22, _, _, _, _, _⟩) (.bool (decide ((1048576 : Int) < (q : Int)))) rfl (wanted_b rfl rfl (hD 8 20 (by kernel_rfl)) (eq_false_of hb)) (exec_gtn (p := q) (q := 1048576) rfl ((hD 9 21 (by kernel_rfl)).1 hb) rfl) rfl)) ?_
          refine sv 12 rfl rfl rfl (fun a u hE hD hk => exec_pickor (.tmp 20) (.const (.bool true)) (.tmp 22) (((!(thB (m : Int) (j : Int))) || (decide ((q : Int) < (1 : Int))))) ((decide ((1048576 : Int) < (q : Int)))) rfl (hD 8 20 (by kernel_rfl)) rfl (fun hb2 => ((hD 10 22 (by kernel_rfl)).1 hb2))) ?_
          refine sv 13 rfl rfl rfl (fun a u hE hD hk => exec_move (.tmp 23) _ rfl (hD 11 23 (by kernel_rfl))) ?_
          refine fsteps_cons 14 rfl (fun a u hE hD hk => f_unless ((((!(thB (m : Int) (j : Int))) || (decide ((q : Int) < (1 : Int)))) || (decide ((1048576 : Int) < (q : Int))))) rfl rfl rfl (hD 12 24 (by kernel_rfl)) (fun hb => f_val (o := ⟨some 25, _, _, _, _, _⟩) (.int .i64 s) rfl (wanted_b rfl rfl (hD 12 24 (by kernel_rfl)) (eq_false_of hb)) (exec_move (.tmp 3) _ rfl (hE 3 (.int .i64 s) (by kernel_rfl) (by kernel_rfl))) rfl)) ?_
          refine fsteps_cons 15 rfl (fun a u hE hD hk => f_unless ((((!(thB (m : Int) (j : Int))) || (decide ((q : Int) < (1 : Int)))) || (decide ((1048576 : Int) < (q : Int))))) rfl rfl rfl (hD 12 24 (by kernel_rfl)) (fun hb => f_val (o := ⟨some 26, _, _, _, _, _⟩) (.bool (decide ((s : Int) ≠ (1 : Int)))) rfl (wanted_b rfl rfl (hD 12 24 (by kernel_rfl)) (eq_false_of hb)) (exec_nen (p := s) (q := 1) rfl ((hD 13 25 (by kernel_rfl)).1 hb) rfl) rfl)) ?_
          refine fsteps_cons 16 rfl (fun a u hE hD hk => f_unless ((((!(thB (m : Int) (j : Int))) || (decide ((q : Int) < (1 : Int)))) || (decide ((1048576 : Int) < (q : Int))))) rfl rfl rfl (hD 12 24 (by kernel_rfl)) (fun hb => f_val (o := ⟨some 27, _, _, _, _, _⟩) (.bool (decide ((s : Int) ≠ (1 : Int)))) rfl (wanted_b rfl rfl (hD 12 24 (by kernel_rfl)) (eq_false_of hb)) (exec_move (.tmp 26) _ rfl ((hD 14 26 (by kernel_rfl)).1 hb)) rfl)) ?_
          refine fsteps_cons 17 rfl (fun a u hE hD hk => f_if2 (!(((!(thB (m : Int) (j : Int))) || (decide ((q : Int) < (1 : Int)))) || (decide ((1048576 : Int) < (q : Int))))) ((decide ((s : Int) ≠ (1 : Int)))) rfl rfl rfl (hD 15 27 (by kernel_rfl)) (fun hb => f_val (o := ⟨some 28, _, _, _, _, _⟩) (.int .i64 s) rfl (wanted_b rfl rfl ((hD 15 27 (by kernel_rfl)).1 (and_l hb)) (eq_true_of (and_r hb))) (exec_move (.tmp 3) _ rfl (hE 3 (.int .i64 s) (by kernel_rfl) (by kernel_rfl))) rfl)) ?_
          refine fsteps_cons 18 rfl (fun a u hE hD hk => f_if2 (!(((!(thB (m : Int) (j : Int))) || (decide ((q : Int) < (1 : Int)))) || (decide ((1048576 : Int) < (q : Int))))) ((decide ((s : Int) ≠ (1 : Int)))) rfl rfl rfl (hD 15 27 (by kernel_rfl)) (fun hb => f_val (o := ⟨some 29, _, _, _, _, _⟩) (.bool (decide ((s : Int) ≠ (2 : Int)))) rfl (wanted_b rfl rfl ((hD 15 27 (by kernel_rfl)).1 (and_l hb)) (eq_true_of (and_r hb))) (exec_nen (p := s) (q := 2) rfl ((hD 16 28 (by kernel_rfl)).1 hb) rfl) rfl)) ?_
          refine fsteps_cons 19 rfl (fun a u hE hD hk => f_unless ((((!(thB (m : Int) (j : Int))) || (decide ((q : Int) < (1 : Int)))) || (decide ((1048576 : Int) < (q : Int))))) rfl rfl rfl (hD 12 24 (by kernel_rfl)) (fun hb => f_val (o := ⟨some 30, _, _, _, _, _⟩) (.bool ((decide ((s : Int) ≠ (1 : Int))) && (decide ((s : Int) ≠ (2 : Int))))) rfl (wanted_b rfl rfl (hD 12 24 (by kernel_rfl)) (eq_false_of hb)) (exec_pickand (.tmp 27) (.tmp 29) (.const (.bool false)) ((decide ((s : Int) ≠ (1 : Int)))) ((decide ((s : Int) ≠ (2 : Int)))) rfl ((hD 15 27 (by kernel_rfl)).1 hb) (fun hb2 => ((hD 17 29 (by kernel_rfl)).1 (and_mk hb hb2))) rfl) rfl)) ?_
          refine fsteps_cons 20 rfl (fun a u hE hD hk => f_as (show (((((!(thB (m : Int) (j : Int))) || (decide ((q : Int) < (1 : Int)))) || (decide ((1048576 : Int) < (q : Int)))) || ((decide ((s : Int) ≠ (1 : Int))) && (decide ((s : Int) ≠ (2 : Int))))) : Bool) = false from H1.out) (f_val (o := ⟨some 31, _, _, _, _, _⟩) (.bool ((((!(thB (m : Int) (j : Int))) || (decide ((q : Int) < (1 : Int)))) || (decide ((1048576 : Int) < (q : Int)))) || ((decide ((s : Int) ≠ (1 : Int))) && (decide ((s : Int) ≠ (2 : Int)))))) rfl (wanted_none rfl _) (exec_pickor (.tmp 24) (.const (.bool true)) (.tmp 30) ((((!(thB (m : Int) (j : Int))) || (decide ((q : Int) < (1 : Int)))) || (decide ((1048576 : Int) < (q : Int))))) (((decide ((s : Int) ≠ (1 : Int))) && (decide ((s : Int) ≠ (2 : Int))))) rfl (hD 12 24 (by kernel_rfl)) rfl (fun hb2 => ((hD 18 30 (by kernel_rfl)).1 hb2))) rfl)) ?_
          exact fsteps_nil
        intro gv w0 hV k0
        rw [show dstsOf _ 20 = [12, 13, 14, 15, 16, 17, 18, 19, 20, 21, 22, 23, 24, 25, 26, 27, 28, 29, 30, 31] by kernel_rfl]
        simp only [List.foldl_cons, List.foldl_nil, List.setIfInBounds_toArray, List.set_cons_succ, List.set_cons_zero, List.drop_succ_cons, List.drop_zero]
        rw [show gv 31 = .bool false from hV 19 31 (by kernel_rfl)]
        clear hV
        refine wpList_nil ?_
        have HB0 := Lib.hid (HB.out.kept k0)
        go_upto_region 3 with fail
        refine wp_text 10 [.eq (.pointer (some ⟨g, 0, none⟩)), .eq (.int .i64 (m : Int)), .eq (.int .i64 (j : Int)), .eq (.pointer (some ⟨g, 0, none⟩)), .eq (.pointer (some ⟨g, 128, none⟩)), .eq (.pointer (some ⟨g, 128 + m * 16, none⟩)), .eq (.pointer (some ⟨g, 128 + m * 16 + 8, none⟩)), .eq (.pointer (some ⟨g, 128 + m * 16 + 8 + j, none⟩)), .eq (.int .i64 (B.p m j)), .eq (.int .i64 (B.p m j))] rfl (by kernel_rfl) ?_ ?_
        · refine sv 1 rfl rfl rfl (fun a u hE hD hk => exec_move (.tmp 0) _ rfl (hE 0 (.pointer (some ⟨g, 0, none⟩)) (by kernel_rfl) (by kernel_rfl))) ?_
          refine sv 2 rfl rfl rfl (fun a u hE hD hk => exec_move (.tmp 1) _ rfl (hE 1 (.int .i64 (m : Int)) (by kernel_rfl) (by kernel_rfl))) ?_
          refine sv 3 rfl rfl rfl (fun a u hE hD hk => exec_move (.tmp 2) _ rfl (hE 2 (.int .i64 (j : Int)) (by kernel_rfl) (by kernel_rfl))) ?_
          refine sv 4 rfl rfl rfl (fun a u hE hD hk => exec_nilp (.tmp 32) ⟨g, 0, none⟩ rfl (hD 0 32 (by kernel_rfl))) ?_
          refine sv 5 rfl rfl rfl (fun a u hE hD hk => exec_fldo 43 1 128 (.tmp 35) (g) (0) (128) rfl (hD 3 35 (by kernel_rfl)) (by kernel_rfl) rfl) ?_
          refine sv 6 rfl rfl rfl (fun a u hE hD hk => exec_ixK 16 41 40 32 (.tmp 36) (.tmp 33) (g) (128) (128 + m * 16) m ((m : Int)) rfl Try.underlying41 (by kernel_rfl) (hD 4 36 (by kernel_rfl)) (hD 1 33 (by kernel_rfl)) (by first | rfl | omega) (hm) (by first | rfl | omega)) ?_
          refine sv 7 rfl rfl rfl (fun a u hE hD hk => exec_fldo 40 1 8 (.tmp 37) (g) (128 + m * 16) (128 + m * 16 + 8) rfl (hD 5 37 (by kernel_rfl)) (by kernel_rfl) rfl) ?_
          refine sv 8 rfl rfl rfl (fun a u hE hD hk => exec_ixK 1 38 3 8 (.tmp 38) (.tmp 34) (g) (128 + m * 16 + 8) (128 + m * 16 + 8 + j) j ((j : Int)) rfl Try.underlying38 (by kernel_rfl) (hD 6 38 (by kernel_rfl)) (hD 2 34 (by kernel_rfl)) (by first | rfl | omega) (hj) (by first | rfl | omega)) ?_
          refine sv 9 rfl rfl rfl (fun a u hE hD hk => exec_loadi 3 Try.underlying3 (.tmp 39) ⟨g, 128 + m * 16 + 8 + j, none⟩ (.int .i64 (B.p m j)) rfl (hD 7 39 (by kernel_rfl)) (Kept.cell hk (((HB0.out.cell _).trans HX.out)))) ?_
          refine sv 10 rfl rfl rfl (fun a u hE hD hk => exec_assign (.tmp 40) _ rfl (hD 8 40 (by kernel_rfl))) ?_
          exact fsteps_nil
        intro gv w1 hV k1
        rw [show dstsOf _ 10 = [32, 33, 34, 35, 36, 37, 38, 39, 40, 11] by kernel_rfl]
        simp only [List.foldl_cons, List.foldl_nil, List.setIfInBounds_toArray, List.set_cons_succ, List.set_cons_zero, List.drop_succ_cons, List.drop_zero]
        rw [show gv 11 = .int .i64 (B.p m j) from hV 9 11 (by kernel_rfl)]
        clear hV
        refine wpList_nil ?_
        go_upto_region 4 with fail
        refine wp_text 2 [.eq (.int .i64 s), .eq (.bool false)] rfl (by kernel_rfl) ?_ ?_
        · refine sv 1 rfl rfl rfl (fun a u hE hD hk => exec_move (.tmp 3) _ rfl (hE 3 (.int .i64 s) (by kernel_rfl) (by kernel_rfl))) ?_
          refine fsteps_cons 2 rfl (fun a u hE hD hk => f_as (show ((decide ((s : Int) = (1 : Int))) : Bool) = false from decide_eq_false H4.out) (f_val (o := ⟨some 42, _, _, _, _, _⟩) (.bool (decide ((s : Int) = (1 : Int)))) rfl (wanted_none rfl _) (exec_eqn (p := s) (q := 1) rfl (hD 0 41 (by kernel_rfl)) rfl) rfl)) ?_
          exact fsteps_nil
        intro gv w2 hV k2
        rw [show dstsOf _ 2 = [41, 42] by kernel_rfl]
        simp only [List.foldl_cons, List.foldl_nil, List.setIfInBounds_toArray, List.set_cons_succ, List.set_cons_zero, List.drop_succ_cons, List.drop_zero]
        rw [show gv 42 = .bool false from hV 1 42 (by kernel_rfl)]
        clear hV
        refine wpList_nil ?_
        go_upto_region 6 with fail
        refine wp_text 3 [.eq (.int .i64 (B.p m j)), .eq (.int .i64 q), .eq (.int .i64 (((B.p m j) : Int) - (q : Int)))] rfl (by kernel_rfl) ?_ ?_
        · refine sv 1 rfl rfl rfl (fun a u hE hD hk => exec_move (.tmp 11) _ rfl (hE 11 (.int .i64 (B.p m j)) (by kernel_rfl) (by kernel_rfl))) ?_
          refine sv 2 rfl rfl rfl (fun a u hE hD hk => exec_move (.tmp 4) _ rfl (hE 4 (.int .i64 q) (by kernel_rfl) (by kernel_rfl))) ?_
          refine sv 3 rfl rfl rfl (fun a u hE hD hk => exec_subn (p := ((B.p m j))) (q := (q)) (((B.p m j) : Int) - (q : Int)) rfl (hD 0 46 (by kernel_rfl)) (hD 1 47 (by kernel_rfl)) rfl (by omega) (by omega)) ?_
          exact fsteps_nil
        intro gv w3 hV k3
        rw [show dstsOf _ 3 = [46, 47, 48] by kernel_rfl]
        simp only [List.foldl_cons, List.foldl_nil, List.setIfInBounds_toArray, List.set_cons_succ, List.set_cons_zero, List.drop_succ_cons, List.drop_zero]
        rw [show gv 48 = .int .i64 (((B.p m j) : Int) - (q : Int)) from hV 2 48 (by kernel_rfl)]
        clear hV
        refine l_val (o := ⟨some 11, _, _, _, _, _⟩) (.int .i64 (((B.p m j) : Int) - (q : Int))) rfl (exec_assign (.tmp 48) (.int .i64 (((B.p m j) : Int) - (q : Int))) rfl (by kernel_rfl)) ?_
        simp only [Act.put, List.setIfInBounds_toArray, List.set_cons_succ, List.set_cons_zero]
        refine wpList_nil ?_
        go_upto_region 7 with fail
        refine wp_text 6 [.eq (.int .i64 (B.p m j - q)), .eq (.bool (decide (((B.p m j - q) : Int) < ((-1099511627776) : Int)))), .eq (.bool (decide (((B.p m j - q) : Int) < ((-1099511627776) : Int)))), .cond (!(decide (((B.p m j - q) : Int) < ((-1099511627776) : Int)))) (.eq (.int .i64 (B.p m j - q))), .cond (!(decide (((B.p m j - q) : Int) < ((-1099511627776) : Int)))) (.eq (.bool (decide ((1099511627776 : Int) < ((B.p m j - q) : Int))))), .eq (.bool false)] rfl (by kernel_rfl) ?_ ?_
        · refine sv 1 rfl rfl rfl (fun a u hE hD hk => exec_move (.tmp 11) _ rfl (hE 11 (.int .i64 (B.p m j - q)) (by kernel_rfl) (by kernel_rfl))) ?_
          refine sv 2 rfl rfl rfl (fun a u hE hD hk => exec_ltn (p := (B.p m j - q)) (q := (-1099511627776)) rfl (hD 0 49 (by kernel_rfl)) rfl) ?_
          refine sv 3 rfl rfl rfl (fun a u hE hD hk => exec_move (.tmp 50) _ rfl (hD 1 50 (by kernel_rfl))) ?_
          refine fsteps_cons 4 rfl (fun a u hE hD hk => f_unless ((decide (((B.p m j - q) : Int) < ((-1099511627776) : Int)))) rfl rfl rfl (hD 2 51 (by kernel_rfl)) (fun hb => f_val (o := ⟨some 52, _, _, _, _, _⟩) (.int .i64 (B.p m j - q)) rfl (wanted_b rfl rfl (hD 2 51 (by kernel_rfl)) (eq_false_of hb)) (exec_move (.tmp 11) _ rfl (hE 11 (.int .i64 (B.p m j - q)) (by kernel_rfl) (by kernel_rfl))) rfl)) ?_
          refine fsteps_cons 5 rfl (fun a u hE hD hk => f_unless ((decide (((B.p m j - q) : Int) < ((-1099511627776) : Int)))) rfl rfl rfl (hD 2 51 (by kernel_rfl)) (fun hb => f_val (o := ⟨some 53, _, _, _, _, _⟩) (.bool (decide ((1099511627776 : Int) < ((B.p m j - q) : Int)))) rfl (wanted_b rfl rfl (hD 2 51 (by kernel_rfl)) (eq_false_of hb)) (exec_gtn (p := (B.p m j - q)) (q := 1099511627776) rfl ((hD 3 52 (by kernel_rfl)).1 hb) rfl) rfl)) ?_
          refine fsteps_cons 6 rfl (fun a u hE hD hk => f_as (show (((decide (((B.p m j - q) : Int) < ((-1099511627776) : Int))) || (decide ((1099511627776 : Int) < ((B.p m j - q) : Int)))) : Bool) = false from H2.out) (f_val (o := ⟨some 54, _, _, _, _, _⟩) (.bool ((decide (((B.p m j - q) : Int) < ((-1099511627776) : Int))) || (decide ((1099511627776 : Int) < ((B.p m j - q) : Int))))) rfl (wanted_none rfl _) (exec_pickor (.tmp 51) (.const (.bool true)) (.tmp 53) ((decide (((B.p m j - q) : Int) < ((-1099511627776) : Int)))) ((decide ((1099511627776 : Int) < ((B.p m j - q) : Int)))) rfl (hD 2 51 (by kernel_rfl)) rfl (fun hb2 => ((hD 4 53 (by kernel_rfl)).1 hb2))) rfl)) ?_
          exact fsteps_nil
        intro gv w4 hV k4
        rw [show dstsOf _ 6 = [49, 50, 51, 52, 53, 54] by kernel_rfl]
        simp only [List.foldl_cons, List.foldl_nil, List.setIfInBounds_toArray, List.set_cons_succ, List.set_cons_zero, List.drop_succ_cons, List.drop_zero]
        rw [show gv 54 = .bool false from hV 5 54 (by kernel_rfl)]
        clear hV
        refine wpList_nil ?_
        have kw := (((k0.trans k1).trans k2).trans k3).trans k4
        clear k0 k1 k2 k3 k4 HB0
        have HB4 := Lib.hid (HB.out.kept kw)
        clear HB
        go_upto_region 9 with fail
        refine wp_text 9 [.eq (.pointer (some ⟨g, 0, none⟩)), .eq (.int .i64 (m : Int)), .eq (.int .i64 (j : Int)), .eq (.int .i64 (B.p m j - q)), .eq (.pointer (some ⟨g, 0, none⟩)), .eq (.pointer (some ⟨g, 128, none⟩)), .eq (.pointer (some ⟨g, 128 + m * 16, none⟩)), .eq (.pointer (some ⟨g, 128 + m * 16 + 8, none⟩)), .eq (.pointer (some ⟨g, 128 + m * 16 + 8 + j, none⟩))] rfl (by kernel_rfl) ?_ ?_
        · refine sv 1 rfl rfl rfl (fun a u hE hD hk => exec_move (.tmp 0) _ rfl (hE 0 (.pointer (some ⟨g, 0, none⟩)) (by kernel_rfl) (by kernel_rfl))) ?_
          refine sv 2 rfl rfl rfl (fun a u hE hD hk => exec_move (.tmp 1) _ rfl (hE 1 (.int .i64 (m : Int)) (by kernel_rfl) (by kernel_rfl))) ?_
          refine sv 3 rfl rfl rfl (fun a u hE hD hk => exec_move (.tmp 2) _ rfl (hE 2 (.int .i64 (j : Int)) (by kernel_rfl) (by kernel_rfl))) ?_
          refine sv 4 rfl rfl rfl (fun a u hE hD hk => exec_move (.tmp 11) _ rfl (hE 11 (.int .i64 (B.p m j - q)) (by kernel_rfl) (by kernel_rfl))) ?_
          refine sv 5 rfl rfl rfl (fun a u hE hD hk => exec_nilp (.tmp 55) ⟨g, 0, none⟩ rfl (hD 0 55 (by kernel_rfl))) ?_
          refine sv 6 rfl rfl rfl (fun a u hE hD hk => exec_fldo 43 1 128 (.tmp 59) (g) (0) (128) rfl (hD 4 59 (by kernel_rfl)) (by kernel_rfl) rfl) ?_
          refine sv 7 rfl rfl rfl (fun a u hE hD hk => exec_ixK 16 41 40 32 (.tmp 60) (.tmp 56) (g) (128) (128 + m * 16) m ((m : Int)) rfl Try.underlying41 (by kernel_rfl) (hD 5 60 (by kernel_rfl)) (hD 1 56 (by kernel_rfl)) (by first | rfl | omega) (hm) (by first | rfl | omega)) ?_
          refine sv 8 rfl rfl rfl (fun a u hE hD hk => exec_fldo 40 1 8 (.tmp 61) (g) (128 + m * 16) (128 + m * 16 + 8) rfl (hD 6 61 (by kernel_rfl)) (by kernel_rfl) rfl) ?_
          refine sv 9 rfl rfl rfl (fun a u hE hD hk => exec_ixK 1 38 3 8 (.tmp 62) (.tmp 57) (g) (128 + m * 16 + 8) (128 + m * 16 + 8 + j) j ((j : Int)) rfl Try.underlying38 (by kernel_rfl) (hD 7 62 (by kernel_rfl)) (hD 2 57 (by kernel_rfl)) (by first | rfl | omega) (hj) (by first | rfl | omega)) ?_
          exact fsteps_nil
        intro gv wa hV ka
        rw [show dstsOf _ 9 = [55, 56, 57, 58, 59, 60, 61, 62, 63] by kernel_rfl]
        simp only [List.foldl_cons, List.foldl_nil, List.setIfInBounds_toArray, List.set_cons_succ, List.set_cons_zero, List.drop_succ_cons, List.drop_zero]
        rw [show gv 63 = .pointer (some ⟨g, 128 + m * 16 + 8 + j, none⟩) from hV 8 63 (by kernel_rfl)]
        rw [show gv 58 = .int .i64 (B.p m j - q) from hV 3 58 (by kernel_rfl)]
        clear hV
        refine l_putN (o := ⟨none, _, _, _, _, _⟩) g (128 + m * 16 + 8 + j) 43 (B.rc L) cs (B.p m j - q) (.tmp 63) (.tmp 58) rfl rfl (by kernel_rfl) (by kernel_rfl) (HB4.out.kept ka) hl HS.out ?_
        intro wS hBS hkS hsS
        simp only [Act.put]
        refine wpList_nil ?_
        have kz : Keep (· = g) w wS := ((kw.trans ka).mono fun _ _ h => h.elim).trans hkS (fun _ _ h => h)
        go_wp2
        go_ret
        exact ⟨rfl, hBS, kz⟩
set_option maxHeartbeats 1600000 in
theorem ropen_any (g : Nat) (B : Bal) (L : Nat → Int) (hO : B.Ok) (n : Int) (w : World) (hB : Blk w g 43 (B.rc L)) : Gives 29 #[.pointer (some ⟨g, 0, none⟩), .int .i64 n] w (.eq (.int .i64 (B.all n))) := by
  refine gives_eq ?_
  have hN : wiB n 0 31 = (decide (0 ≤ n) && decide (n < 32)) := by
    unfold wiB
    rw [Bool.eq_iff_iff]
    simp only [Bool.and_eq_true, decide_eq_true_eq]
    omega
  obtain ⟨V, hV⟩ : ∃ V, B.all n = V := ⟨_, rfl⟩
  rw [hV]
  cases ht : wiB n 0 31 with
  | false =>
    have HV2 : Hid (V = 0) := by show _ = _; rw [← hV]; exact all_out B ht
    rw [ht] at hN
    have HT := Lib.hid hN.symm
    clear ht hV hN
    go_enter Try.func29, Try.ntmps29
    go_upto_region 2 with fail
    refine wp_text 6 [.eq (.int .i64 n), .eq (.bool (decide ((0 : Int) ≤ (n : Int)))), .eq (.bool (decide ((0 : Int) ≤ (n : Int)))), .cond (decide ((0 : Int) ≤ (n : Int))) (.eq (.int .i64 n)), .cond (decide ((0 : Int) ≤ (n : Int))) (.eq (.bool (decide ((n : Int) < (32 : Int))))), .eq (.bool false)] rfl (by kernel_rfl) ?_ ?_
    · refine sv 1 rfl rfl rfl (fun a u hE hD hk => exec_move (.tmp 1) _ rfl (hE 1 (.int .i64 n) (by kernel_rfl) (by kernel_rfl))) ?_
      refine sv 2 rfl rfl rfl (fun a u hE hD hk => exec_gen (p := n) (q := 0) rfl (hD 0 8 (by kernel_rfl)) rfl) ?_
      refine sv 3 rfl rfl rfl (fun a u hE hD hk => exec_move (.tmp 9) _ rfl (hD 1 9 (by kernel_rfl))) ?_
      refine fsteps_cons 4 rfl (fun a u hE hD hk => f_if ((decide ((0 : Int) ≤ (n : Int)))) rfl rfl rfl (hD 2 10 (by kernel_rfl)) (fun hb => f_val (o := ⟨some 11, _, _, _, _, _⟩) (.int .i64 n) rfl (wanted_b rfl rfl (hD 2 10 (by kernel_rfl)) (eq_true_of hb)) (exec_move (.tmp 1) _ rfl (hE 1 (.int .i64 n) (by kernel_rfl) (by kernel_rfl))) rfl)) ?_
      refine fsteps_cons 5 rfl (fun a u hE hD hk => f_if ((decide ((0 : Int) ≤ (n : Int)))) rfl rfl rfl (hD 2 10 (by kernel_rfl)) (fun hb => f_val (o := ⟨some 12, _, _, _, _, _⟩) (.bool (decide ((n : Int) < (32 : Int)))) rfl (wanted_b rfl rfl (hD 2 10 (by kernel_rfl)) (eq_true_of hb)) (exec_ltn (p := n) (q := 32) rfl ((hD 3 11 (by kernel_rfl)).1 hb) rfl) rfl)) ?_
      refine fsteps_cons 6 rfl (fun a u hE hD hk => f_as (show (((decide ((0 : Int) ≤ (n : Int))) && (decide ((n : Int) < (32 : Int)))) : Bool) = false from HT.out) (f_val (o := ⟨some 13, _, _, _, _, _⟩) (.bool ((decide ((0 : Int) ≤ (n : Int))) && (decide ((n : Int) < (32 : Int))))) rfl (wanted_none rfl _) (exec_pickand (.tmp 10) (.tmp 12) (.const (.bool false)) ((decide ((0 : Int) ≤ (n : Int)))) ((decide ((n : Int) < (32 : Int)))) rfl (hD 2 10 (by kernel_rfl)) (fun hb2 => ((hD 4 12 (by kernel_rfl)).1 hb2)) rfl) rfl)) ?_
      exact fsteps_nil
    intro gv w0 hV k0
    rw [show dstsOf _ 6 = [8, 9, 10, 11, 12, 13] by kernel_rfl]
    simp only [List.foldl_cons, List.foldl_nil, List.setIfInBounds_toArray, List.set_cons_succ, List.set_cons_zero, List.drop_succ_cons, List.drop_zero]
    rw [show gv 13 = .bool false from hV 5 13 (by kernel_rfl)]
    clear hV
    refine wpList_nil ?_
    go_wp2
    go_ret
    exact ⟨by rw [HV2.out]; rfl, k0⟩
  | true =>
    rw [ht] at hN
    have HT := Lib.hid hN.symm
    rw [wiB_iff] at ht
    obtain ⟨m, rfl⟩ : ∃ m : Nat, n = (m : Int) := ⟨n.toNat, by omega⟩
    have hm : m < 32 := by omega
    have HB := Lib.hid hB
    have hS8 : ∀ k : Nat, k ≤ 8 → 0 ≤ sumTo (fun k => B.o m k) k ∧ sumTo (fun k => B.o m k) k ≤ 8796093022208 := fun k hk => by
      have := sumTo_in (f := fun k => B.o m k) (lo := 0) (hi := 1099511627776) (fun j => hO.o m j) k
      omega
    obtain ⟨f, hf⟩ : ∃ f : Nat → Int, (fun k => B.o m k) = f := ⟨_, rfl⟩
    have HS : Hid (∀ k : Nat, k ≤ 8 → 0 ≤ sumTo f k ∧ sumTo f k ≤ 8796093022208) := by show ∀ _, _; rw [← hf]; exact hS8
    have hfb : ∀ k, 0 ≤ f k ∧ f k ≤ 1099511627776 := fun k => by rw [← hf]; exact hO.o m k
    have HV : Hid (sumTo f 8 = V) := by show _ = _; rw [← hV, all_in B hm, hf]
    have HA : Hid (∀ u : World, Kept w u → u.rangeAt g (128 + m * 16) (lay 8 f)) := fun u hu => by
      have h := lay_take (B.rf L) (a := 128 + m * 16) (n := 8) (by omega) (hB.kept hu)
      rwa [lay_ext (g := f) fun j hj => by rw [rf_o B L hj, ← hf]] at h
    clear hV hf hB hS8 hN HB ht
    go_enter Try.func29, Try.ntmps29
    go_upto_region 2 with fail
    refine wp_text 6 [.eq (.int .i64 (m : Int)), .eq (.bool (decide ((0 : Int) ≤ ((m : Int) : Int)))), .eq (.bool (decide ((0 : Int) ≤ ((m : Int) : Int)))), .cond (decide ((0 : Int) ≤ ((m : Int) : Int))) (.eq (.int .i64 (m : Int))), .cond (decide ((0 : Int) ≤ ((m : Int) : Int))) (.eq (.bool (decide (((m : Int) : Int) < (32 : Int))))), .eq (.bool true)] rfl (by kernel_rfl) ?_ ?_
    · refine sv 1 rfl rfl rfl (fun a u hE hD hk => exec_move (.tmp 1) _ rfl (hE 1 (.int .i64 (m : Int)) (by kernel_rfl) (by kernel_rfl))) ?_
      refine sv 2 rfl rfl rfl (fun a u hE hD hk => exec_gen (p := (m : Int)) (q := 0) rfl (hD 0 8 (by kernel_rfl)) rfl) ?_
      refine sv 3 rfl rfl rfl (fun a u hE hD hk => exec_move (.tmp 9) _ rfl (hD 1 9 (by kernel_rfl))) ?_
      refine fsteps_cons 4 rfl (fun a u hE hD hk => f_if ((decide ((0 : Int) ≤ ((m : Int) : Int)))) rfl rfl rfl (hD 2 10 (by kernel_rfl)) (fun hb => f_val (o := ⟨some 11, _, _, _, _, _⟩) (.int .i64 (m : Int)) rfl (wanted_b rfl rfl (hD 2 10 (by kernel_rfl)) (eq_true_of hb)) (exec_move (.tmp 1) _ rfl (hE 1 (.int .i64 (m : Int)) (by kernel_rfl) (by kernel_rfl))) rfl)) ?_
      refine fsteps_cons 5 rfl (fun a u hE hD hk => f_if ((decide ((0 : Int) ≤ ((m : Int) : Int)))) rfl rfl rfl (hD 2 10 (by kernel_rfl)) (fun hb => f_val (o := ⟨some 12, _, _, _, _, _⟩) (.bool (decide (((m : Int) : Int) < (32 : Int)))) rfl (wanted_b rfl rfl (hD 2 10 (by kernel_rfl)) (eq_true_of hb)) (exec_ltn (p := (m : Int)) (q := 32) rfl ((hD 3 11 (by kernel_rfl)).1 hb) rfl) rfl)) ?_
      refine fsteps_cons 6 rfl (fun a u hE hD hk => f_as (show (((decide ((0 : Int) ≤ ((m : Int) : Int))) && (decide (((m : Int) : Int) < (32 : Int)))) : Bool) = true from HT.out) (f_val (o := ⟨some 13, _, _, _, _, _⟩) (.bool ((decide ((0 : Int) ≤ ((m : Int) : Int))) && (decide (((m : Int) : Int) < (32 : Int))))) rfl (wanted_none rfl _) (exec_pickand (.tmp 10) (.tmp 12) (.const (.bool false)) ((decide ((0 : Int) ≤ ((m : Int) : Int)))) ((decide (((m : Int) : Int) < (32 : Int)))) rfl (hD 2 10 (by kernel_rfl)) (fun hb2 => ((hD 4 12 (by kernel_rfl)).1 hb2)) rfl) rfl)) ?_
      exact fsteps_nil
    intro gv w0 hV k0
    rw [show dstsOf _ 6 = [8, 9, 10, 11, 12, 13] by kernel_rfl]
    simp only [List.foldl_cons, List.foldl_nil, List.setIfInBounds_toArray, List.set_cons_succ, List.set_cons_zero, List.drop_succ_cons, List.drop_zero]
    rw [show gv 13 = .bool true from hV 5 13 (by kernel_rfl)]
    clear hV
    refine wpList_nil ?_
    go_upto_region 3 with fail
    refine wp_text 8 [.eq (.pointer (some ⟨g, 0, none⟩)), .eq (.int .i64 (m : Int)), .eq (.pointer (some ⟨g, 0, none⟩)), .eq (.pointer (some ⟨g, 128, none⟩)), .eq (.pointer (some ⟨g, 128 + m * 16, none⟩)), .eq (.pointer (some ⟨g, 128 + m * 16, none⟩)), .eq (.agg (lay 8 f).toArray), .eq (.int .i64 0)] rfl (by kernel_rfl) ?_ ?_
    · refine sv 1 rfl rfl rfl (fun a u hE hD hk => exec_move (.tmp 0) _ rfl (hE 0 (.pointer (some ⟨g, 0, none⟩)) (by kernel_rfl) (by kernel_rfl))) ?_
      refine sv 2 rfl rfl rfl (fun a u hE hD hk => exec_move (.tmp 1) _ rfl (hE 1 (.int .i64 (m : Int)) (by kernel_rfl) (by kernel_rfl))) ?_
      refine sv 3 rfl rfl rfl (fun a u hE hD hk => exec_nilp (.tmp 14) ⟨g, 0, none⟩ rfl (hD 0 14 (by kernel_rfl))) ?_
      refine sv 4 rfl rfl rfl (fun a u hE hD hk => exec_fldo 43 1 128 (.tmp 16) (g) (0) (128) rfl (hD 2 16 (by kernel_rfl)) (by kernel_rfl) rfl) ?_
      refine sv 5 rfl rfl rfl (fun a u hE hD hk => exec_ixK 16 41 40 32 (.tmp 17) (.tmp 15) (g) (128) (128 + m * 16) m ((m : Int)) rfl Try.underlying41 (by kernel_rfl) (hD 3 17 (by kernel_rfl)) (hD 1 15 (by kernel_rfl)) (by first | rfl | omega) (hm) (by first | rfl | omega)) ?_
      refine sv 6 rfl rfl rfl (fun a u hE hD hk => exec_fldo 40 0 0 (.tmp 18) (g) (128 + m * 16) (128 + m * 16) rfl (hD 4 18 (by kernel_rfl)) (by kernel_rfl) rfl) ?_
      refine sv 7 rfl rfl rfl (fun a u hE hD hk => exec_ld8 (.tmp 19) g (128 + m * 16) f rfl (hD 5 19 (by kernel_rfl)) (HA.out u (k0.trans hk))) ?_
      refine sv 8 rfl rfl rfl (fun a u hE hD hk => exec_move (.const (.int .i64 0)) _ rfl rfl) ?_
      exact fsteps_nil
    intro gv w1 hV k1
    rw [show dstsOf _ 8 = [14, 15, 16, 17, 18, 19, 20, 21] by kernel_rfl]
    simp only [List.foldl_cons, List.foldl_nil, List.setIfInBounds_toArray, List.set_cons_succ, List.set_cons_zero, List.drop_succ_cons, List.drop_zero]
    rw [show gv 20 = .agg (lay 8 f).toArray from hV 6 20 (by kernel_rfl)]
    rw [show gv 21 = .int .i64 0 from hV 7 21 (by kernel_rfl)]
    clear hV
    refine wpList_nil ?_
    have kw1 := k0.trans k1
    obtain ⟨cs, hcs⟩ : ∃ cs, (lay 8 f).toArray = cs := ⟨_, rfl⟩
    have HCS := Lib.hid hcs
    rw [hcs]
    clear hcs k0 k1 HA
    go_wp2_with fail
    go_loopw [5, 21] (fun t q wr => ∃ i : Nat, q = .int .i64 (i : Int) ∧ t = .int .i64 (sumTo f i) ∧ i ≤ 8 ∧ Kept w1 wr) (fun _ q _ => 8 - (intOf q).toNat)
    case atStart => exact ⟨0, rfl, rfl, by omega, Kept.refl _⟩
    case round =>
      obtain ⟨i, rfl, rfl, hi8, hkr⟩ := hrel
      obtain ⟨S, hS⟩ : ∃ S, sumTo f i = S := ⟨_, rfl⟩
      have hSb := HS.out i hi8
      rw [hS] at hSb ⊢
      by_cases hi : i < 8
      · have hSn := HS.out (i + 1) (by omega)
        obtain ⟨F, hF⟩ : ∃ F, f i = F := ⟨_, rfl⟩
        have HF := Lib.hid hF
        have HSN : Hid (S + F = sumTo f (i + 1)) := by show _ = _; rw [← hS, ← hF]; rfl
        have hFb := hfb i
        rw [hF] at hFb
        clear hS hF
        go_upto_region 4 with fail
        refine wp_text 1 [.eq (.bool true)] rfl (by kernel_rfl) ?_ ?_
        · refine fsteps_cons 1 rfl (fun a u hE hD hk => f_as (show ((decide (((i : Int) : Int) < (8 : Int))) : Bool) = true from decide_eq_true (by omega)) (f_val (o := ⟨some 22, _, _, _, _, _⟩) (.bool (decide (((i : Int) : Int) < (8 : Int)))) rfl (wanted_none rfl _) (exec_ltn (p := (i : Int)) (q := 8) rfl (hE 21 (.int .i64 (i : Int)) (by kernel_rfl) (by kernel_rfl)) rfl) rfl)) ?_
          exact fsteps_nil
        intro gv w2 hV k2
        rw [show dstsOf _ 1 = [22] by kernel_rfl]
        simp only [List.foldl_cons, List.foldl_nil, List.setIfInBounds_toArray, List.set_cons_succ, List.set_cons_zero, List.drop_succ_cons, List.drop_zero]
        rw [show gv 22 = .bool true from hV 0 22 (by kernel_rfl)]
        clear hV
        refine wpList_nil ?_
        go_upto_region 5 with fail
        refine wp_text 2 [.eq (.int .i64 F), .eq (.int .i64 F)] rfl (by kernel_rfl) ?_ ?_
        · refine sv 1 rfl rfl rfl (fun a u hE hD hk => by rw [← HF.out]; exact exec_ix8 f i (i : Int) (.tmp 20) (.tmp 21) rfl (by rw [HCS.out]; exact (hE 20 (.agg cs) (by kernel_rfl) (by kernel_rfl))) (hE 21 (.int .i64 (i : Int)) (by kernel_rfl) (by kernel_rfl)) rfl hi) ?_
          refine sv 2 rfl rfl rfl (fun a u hE hD hk => exec_assign (.tmp 23) _ rfl (hD 0 23 (by kernel_rfl))) ?_
          exact fsteps_nil
        intro gv w3 hV k3
        rw [show dstsOf _ 2 = [23, 7] by kernel_rfl]
        simp only [List.foldl_cons, List.foldl_nil, List.setIfInBounds_toArray, List.set_cons_succ, List.set_cons_zero, List.drop_succ_cons, List.drop_zero]
        rw [show gv 7 = .int .i64 F from hV 1 7 (by kernel_rfl)]
        clear hV
        refine wpList_nil ?_
        go_upto_region 6 with fail
        refine wp_text 3 [.eq (.int .i64 S), .eq (.int .i64 F), .eq (.int .i64 ((S : Int) + (F : Int)))] rfl (by kernel_rfl) ?_ ?_
        · refine sv 1 rfl rfl rfl (fun a u hE hD hk => exec_move (.tmp 5) _ rfl (hE 5 (.int .i64 S) (by kernel_rfl) (by kernel_rfl))) ?_
          refine sv 2 rfl rfl rfl (fun a u hE hD hk => exec_move (.tmp 7) _ rfl (hE 7 (.int .i64 F) (by kernel_rfl) (by kernel_rfl))) ?_
          refine sv 3 rfl rfl rfl (fun a u hE hD hk => exec_addn (p := (S)) (q := (F)) ((S : Int) + (F : Int)) rfl (hD 0 24 (by kernel_rfl)) (hD 1 25 (by kernel_rfl)) rfl (by omega) (by omega)) ?_
          exact fsteps_nil
        intro gv w4 hV k4
        rw [show dstsOf _ 3 = [24, 25, 26] by kernel_rfl]
        simp only [List.foldl_cons, List.foldl_nil, List.setIfInBounds_toArray, List.set_cons_succ, List.set_cons_zero, List.drop_succ_cons, List.drop_zero]
        rw [show gv 26 = .int .i64 ((S : Int) + (F : Int)) from hV 2 26 (by kernel_rfl)]
        clear hV
        refine l_val (o := ⟨some 5, _, _, _, _, _⟩) (.int .i64 ((S : Int) + (F : Int))) rfl (exec_assign (.tmp 26) (.int .i64 ((S : Int) + (F : Int))) rfl (by kernel_rfl)) ?_
        simp only [Act.put, List.setIfInBounds_toArray, List.set_cons_succ, List.set_cons_zero]
        refine wpList_nil ?_
        have kr := ((hkr.trans k2).trans k3).trans k4
        go_wp2
        exact ⟨⟨i + 1, by simp, by rw [← HSN.out], by omega, kr⟩, by simp [intOf]; omega⟩
      · obtain rfl : i = 8 := by omega
        have HV2 : Hid (S = V) := by show _ = _; rw [← hS]; exact HV.out
        clear hS
        go_upto_region 4 with fail
        refine wp_text 1 [.eq (.bool false)] rfl (by kernel_rfl) ?_ ?_
        · refine fsteps_cons 1 rfl (fun a u hE hD hk => f_as (show ((decide (((8 : Nat) : Int) < (8 : Int))) : Bool) = false from decide_eq_false (by omega)) (f_val (o := ⟨some 22, _, _, _, _, _⟩) (.bool (decide (((8 : Nat) : Int) < (8 : Int)))) rfl (wanted_none rfl _) (exec_ltn (p := (8 : Nat)) (q := 8) rfl (hE 21 (.int .i64 (8 : Nat)) (by kernel_rfl) (by kernel_rfl)) rfl) rfl)) ?_
          exact fsteps_nil
        intro gv w2 hV k2
        rw [show dstsOf _ 1 = [22] by kernel_rfl]
        simp only [List.foldl_cons, List.foldl_nil, List.setIfInBounds_toArray, List.set_cons_succ, List.set_cons_zero, List.drop_succ_cons, List.drop_zero]
        rw [show gv 22 = .bool false from hV 0 22 (by kernel_rfl)]
        clear hV
        refine wpList_nil ?_
        have kw := (kw1.trans hkr).trans k2
        go_wp2
        go_ret
        exact ⟨by rw [HV2.out]; rfl, kw⟩
end Go.Proofs.Ytgajdkelpaaadaa
