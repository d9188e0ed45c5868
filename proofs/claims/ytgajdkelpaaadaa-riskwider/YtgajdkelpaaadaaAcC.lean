/-
  The contracts of package acct. Conditions: accounts in memory; what is open is from 0 to MaxTick, each position from -MaxTick to MaxTick.
-/
import Derived.Test.YtgajdkelpaaadaaAcM
namespace Go.Proofs.Ytgajdkelpaaadaa
open Go.RowKit
set_option linter.unusedVariables false
set_option maxRecDepth 100000

theorem within_i (n lo hi : Int) (w : World) : Gives 31 #[.int .i64 n, .int .i64 lo, .int .i64 hi] w (.eq (.bool (wiB n lo hi))) := by
  refine gives_eq ?_
  go_enter Try.func31, Try.ntmps31
  go_upto_region 1 with fail
  refine wp_text 9 [.eq (.int .i64 lo), .eq (.int .i64 n), .eq (.bool (decide ((lo : Int) ≤ (n : Int)))), .eq (.bool (decide ((lo : Int) ≤ (n : Int)))), .cond (decide ((lo : Int) ≤ (n : Int))) (.eq (.int .i64 n)), .cond (decide ((lo : Int) ≤ (n : Int))) (.eq (.int .i64 hi)), .cond (decide ((lo : Int) ≤ (n : Int))) (.eq (.bool (decide ((n : Int) ≤ (hi : Int))))), .eq (.bool ((decide ((lo : Int) ≤ (n : Int))) && (decide ((n : Int) ≤ (hi : Int))))), .eq (.bool ((decide ((lo : Int) ≤ (n : Int))) && (decide ((n : Int) ≤ (hi : Int)))))] rfl (by kernel_rfl) ?_ ?_
  · refine sv 1 rfl rfl rfl (fun a u hE hD hk => exec_move (.tmp 1) _ rfl (hE 1 (.int .i64 lo) (by kernel_rfl) (by kernel_rfl))) ?_
    refine sv 2 rfl rfl rfl (fun a u hE hD hk => exec_move (.tmp 0) _ rfl (hE 0 (.int .i64 n) (by kernel_rfl) (by kernel_rfl))) ?_
    refine sv 3 rfl rfl rfl (fun a u hE hD hk => exec_len_ (p := lo) (q := n) rfl (hD 0 7 (by kernel_rfl)) (hD 1 8 (by kernel_rfl))) ?_
    refine sv 4 rfl rfl rfl (fun a u hE hD hk => exec_move (.tmp 9) _ rfl (hD 2 9 (by kernel_rfl))) ?_
    refine fsteps_cons 5 rfl (fun a u hE hD hk => f_if ((decide ((lo : Int) ≤ (n : Int)))) rfl rfl rfl (hD 3 10 (by kernel_rfl)) (fun hb => f_val (o := ⟨some 11, _, _, _, _, _⟩) (.int .i64 n) rfl (wanted_b rfl rfl (hD 3 10 (by kernel_rfl)) (eq_true_of hb)) (exec_move (.tmp 0) _ rfl (hE 0 (.int .i64 n) (by kernel_rfl) (by kernel_rfl))) rfl)) ?_
    refine fsteps_cons 6 rfl (fun a u hE hD hk => f_if ((decide ((lo : Int) ≤ (n : Int)))) rfl rfl rfl (hD 3 10 (by kernel_rfl)) (fun hb => f_val (o := ⟨some 12, _, _, _, _, _⟩) (.int .i64 hi) rfl (wanted_b rfl rfl (hD 3 10 (by kernel_rfl)) (eq_true_of hb)) (exec_move (.tmp 2) _ rfl (hE 2 (.int .i64 hi) (by kernel_rfl) (by kernel_rfl))) rfl)) ?_
    refine fsteps_cons 7 rfl (fun a u hE hD hk => f_if ((decide ((lo : Int) ≤ (n : Int)))) rfl rfl rfl (hD 3 10 (by kernel_rfl)) (fun hb => f_val (o := ⟨some 13, _, _, _, _, _⟩) (.bool (decide ((n : Int) ≤ (hi : Int)))) rfl (wanted_b rfl rfl (hD 3 10 (by kernel_rfl)) (eq_true_of hb)) (exec_len_ (p := n) (q := hi) rfl ((hD 4 11 (by kernel_rfl)).1 hb) ((hD 5 12 (by kernel_rfl)).1 hb)) rfl)) ?_
    refine sv 8 rfl rfl rfl (fun a u hE hD hk => exec_pickand (.tmp 10) (.tmp 13) (.const (.bool false)) ((decide ((lo : Int) ≤ (n : Int)))) ((decide ((n : Int) ≤ (hi : Int)))) rfl (hD 3 10 (by kernel_rfl)) (fun hb2 => ((hD 6 13 (by kernel_rfl)).1 hb2)) rfl) ?_
    refine sv 9 rfl rfl rfl (fun a u hE hD hk => exec_assign (.tmp 14) _ rfl (hD 7 14 (by kernel_rfl))) ?_
    exact fsteps_nil
  intro gv w0 hV k0
  rw [show dstsOf _ 9 = [7, 8, 9, 10, 11, 12, 13, 14, 6] by kernel_rfl]
  simp only [List.foldl_cons, List.foldl_nil, List.setIfInBounds_toArray, List.set_cons_succ, List.set_cons_zero, List.drop_succ_cons, List.drop_zero]
  rw [show gv 6 = .bool ((decide ((lo : Int) ≤ (n : Int))) && (decide ((n : Int) ≤ (hi : Int)))) from hV 8 6 (by kernel_rfl)]
  clear hV
  refine wpList_nil ?_
  go_wp2
  go_ret
  exact ⟨rfl, k0⟩
theorem place_any (n i : Int) (w : World) : Gives 30 #[.int .i64 n, .int .i64 i] w (.eq (.bool (thB n i))) := by
  refine gives_eq ?_
  go_enter Try.func30, Try.ntmps30
  go_upto_region 1 with fail
  refine wp_text 7 [.eq (.int .i64 n), .eq (.bool (wiB n 0 31)), .eq (.bool (wiB n 0 31)), .cond (wiB n 0 31) (.eq (.int .i64 i)), .cond (wiB n 0 31) (.eq (.bool (wiB i 0 7))), .eq (.bool ((wiB n 0 31) && (wiB i 0 7))), .eq (.bool ((wiB n 0 31) && (wiB i 0 7)))] rfl (by kernel_rfl) ?_ ?_
  · refine sv 1 rfl rfl rfl (fun a u hE hD hk => exec_move (.tmp 0) _ rfl (hE 0 (.int .i64 n) (by kernel_rfl) (by kernel_rfl))) ?_
    refine fsteps_cons 2 rfl (fun a u hE hD hk => f_call (o := ⟨some 6, _, _, _, _, _⟩) 31 #[.int .i64 n, .int .i64 0, .int .i64 31] rfl (wanted_none rfl _) (exec_call 31 _ [.tmp 5, .const (.int .i64 0), .const (.int .i64 31)] _ [.int .i64 n, .int .i64 0, .int .i64 31] Try.func31 (by kernel_rfl) (by kernel_rfl) rfl (show [a.eval (.tmp 5), a.eval (.const (.int .i64 0)), a.eval (.const (.int .i64 31))] = [.int .i64 n, .int .i64 0, .int .i64 31] from (by rw [show a.eval (.tmp 5) = .int .i64 n from (hD 0 5 (by kernel_rfl))] <;> rfl)) u) (within_i n 0 31 u)) ?_
    refine sv 3 rfl rfl rfl (fun a u hE hD hk => exec_move (.tmp 6) _ rfl (hD 1 6 (by kernel_rfl))) ?_
    refine fsteps_cons 4 rfl (fun a u hE hD hk => f_if ((wiB n 0 31)) rfl rfl rfl (hD 2 7 (by kernel_rfl)) (fun hb => f_val (o := ⟨some 8, _, _, _, _, _⟩) (.int .i64 i) rfl (wanted_b rfl rfl (hD 2 7 (by kernel_rfl)) (eq_true_of hb)) (exec_move (.tmp 1) _ rfl (hE 1 (.int .i64 i) (by kernel_rfl) (by kernel_rfl))) rfl)) ?_
    refine fsteps_cons 5 rfl (fun a u hE hD hk => f_if ((wiB n 0 31)) rfl rfl rfl (hD 2 7 (by kernel_rfl)) (fun hb => f_call (o := ⟨some 9, _, _, _, _, _⟩) 31 #[.int .i64 i, .int .i64 0, .int .i64 7] rfl (wanted_b rfl rfl (hD 2 7 (by kernel_rfl)) (eq_true_of hb)) (exec_call 31 _ [.tmp 8, .const (.int .i64 0), .const (.int .i64 7)] _ [.int .i64 i, .int .i64 0, .int .i64 7] Try.func31 (by kernel_rfl) (by kernel_rfl) rfl (show [a.eval (.tmp 8), a.eval (.const (.int .i64 0)), a.eval (.const (.int .i64 7))] = [.int .i64 i, .int .i64 0, .int .i64 7] from (by rw [show a.eval (.tmp 8) = .int .i64 i from ((hD 3 8 (by kernel_rfl)).1 hb)] <;> rfl)) u) (within_i i 0 7 u))) ?_
    refine sv 6 rfl rfl rfl (fun a u hE hD hk => exec_pickand (.tmp 7) (.tmp 9) (.const (.bool false)) ((wiB n 0 31)) ((wiB i 0 7)) rfl (hD 2 7 (by kernel_rfl)) (fun hb2 => ((hD 4 9 (by kernel_rfl)).1 hb2)) rfl) ?_
    refine sv 7 rfl rfl rfl (fun a u hE hD hk => exec_assign (.tmp 10) _ rfl (hD 5 10 (by kernel_rfl))) ?_
    exact fsteps_nil
  intro gv w0 hV k0
  rw [show dstsOf _ 7 = [5, 6, 7, 8, 9, 10, 4] by kernel_rfl]
  simp only [List.foldl_cons, List.foldl_nil, List.setIfInBounds_toArray, List.set_cons_succ, List.set_cons_zero, List.drop_succ_cons, List.drop_zero]
  rw [show gv 4 = .bool ((wiB n 0 31) && (wiB i 0 7)) from hV 6 4 (by kernel_rfl)]
  clear hV
  refine wpList_nil ?_
  go_wp2
  go_ret
  exact ⟨rfl, k0⟩
theorem side_any (s : Int) (w : World) : Gives 33 #[.int .i64 s] w (.eq (.bool (sdB s))) := by
  refine gives_eq ?_
  go_enter Try.func33, Try.ntmps33
  go_upto_region 1 with fail
  refine wp_text 7 [.eq (.int .i64 s), .eq (.bool (decide ((s : Int) = (1 : Int)))), .eq (.bool (decide ((s : Int) = (1 : Int)))), .cond (!(decide ((s : Int) = (1 : Int)))) (.eq (.int .i64 s)), .cond (!(decide ((s : Int) = (1 : Int)))) (.eq (.bool (decide ((s : Int) = (2 : Int))))), .eq (.bool ((decide ((s : Int) = (1 : Int))) || (decide ((s : Int) = (2 : Int))))), .eq (.bool ((decide ((s : Int) = (1 : Int))) || (decide ((s : Int) = (2 : Int)))))] rfl (by kernel_rfl) ?_ ?_
  · refine sv 1 rfl rfl rfl (fun a u hE hD hk => exec_move (.tmp 0) _ rfl (hE 0 (.int .i64 s) (by kernel_rfl) (by kernel_rfl))) ?_
    refine sv 2 rfl rfl rfl (fun a u hE hD hk => exec_eqn (p := s) (q := 1) rfl (hD 0 3 (by kernel_rfl)) rfl) ?_
    refine sv 3 rfl rfl rfl (fun a u hE hD hk => exec_move (.tmp 4) _ rfl (hD 1 4 (by kernel_rfl))) ?_
    refine fsteps_cons 4 rfl (fun a u hE hD hk => f_unless ((decide ((s : Int) = (1 : Int)))) rfl rfl rfl (hD 2 5 (by kernel_rfl)) (fun hb => f_val (o := ⟨some 6, _, _, _, _, _⟩) (.int .i64 s) rfl (wanted_b rfl rfl (hD 2 5 (by kernel_rfl)) (eq_false_of hb)) (exec_move (.tmp 0) _ rfl (hE 0 (.int .i64 s) (by kernel_rfl) (by kernel_rfl))) rfl)) ?_
    refine fsteps_cons 5 rfl (fun a u hE hD hk => f_unless ((decide ((s : Int) = (1 : Int)))) rfl rfl rfl (hD 2 5 (by kernel_rfl)) (fun hb => f_val (o := ⟨some 7, _, _, _, _, _⟩) (.bool (decide ((s : Int) = (2 : Int)))) rfl (wanted_b rfl rfl (hD 2 5 (by kernel_rfl)) (eq_false_of hb)) (exec_eqn (p := s) (q := 2) rfl ((hD 3 6 (by kernel_rfl)).1 hb) rfl) rfl)) ?_
    refine sv 6 rfl rfl rfl (fun a u hE hD hk => exec_pickor (.tmp 5) (.const (.bool true)) (.tmp 7) ((decide ((s : Int) = (1 : Int)))) ((decide ((s : Int) = (2 : Int)))) rfl (hD 2 5 (by kernel_rfl)) rfl (fun hb2 => ((hD 4 7 (by kernel_rfl)).1 hb2))) ?_
    refine sv 7 rfl rfl rfl (fun a u hE hD hk => exec_assign (.tmp 8) _ rfl (hD 5 8 (by kernel_rfl))) ?_
    exact fsteps_nil
  intro gv w0 hV k0
  rw [show dstsOf _ 7 = [3, 4, 5, 6, 7, 8, 2] by kernel_rfl]
  simp only [List.foldl_cons, List.foldl_nil, List.setIfInBounds_toArray, List.set_cons_succ, List.set_cons_zero, List.drop_succ_cons, List.drop_zero]
  rw [show gv 2 = .bool ((decide ((s : Int) = (1 : Int))) || (decide ((s : Int) = (2 : Int)))) from hV 6 2 (by kernel_rfl)]
  clear hV
  refine wpList_nil ?_
  go_wp2
  go_ret
  exact ⟨rfl, k0⟩
theorem signed_any (s q : Int) (hq : 1 ≤ q ∧ q ≤ 1048576) (w : World) : Gives 34 #[.int .i64 s, .int .i64 q] w (.eq (.int .i64 (sgn s q))) := by
  refine gives_eq ?_
  obtain ⟨V, hV⟩ : ∃ V, sgn s q = V := ⟨_, rfl⟩
  rw [hV]
  have HV := Lib.hid hV
  clear hV
  go_enter Try.func34, Try.ntmps34
  by_cases hs : s = 2
  · have HV2 : Hid (-q = V) := by show _ = _; rw [← HV.out]; unfold sgn; rw [if_pos hs]
    clear HV
    go_upto_region 1 with fail
    refine wp_text 2 [.eq (.int .i64 s), .eq (.bool true)] rfl (by kernel_rfl) ?_ ?_
    · refine sv 1 rfl rfl rfl (fun a u hE hD hk => exec_move (.tmp 0) _ rfl (hE 0 (.int .i64 s) (by kernel_rfl) (by kernel_rfl))) ?_
      refine fsteps_cons 2 rfl (fun a u hE hD hk => f_as (show ((decide ((s : Int) = (2 : Int))) : Bool) = true from decide_eq_true hs) (f_val (o := ⟨some 6, _, _, _, _, _⟩) (.bool (decide ((s : Int) = (2 : Int)))) rfl (wanted_none rfl _) (exec_eqn (p := s) (q := 2) rfl (hD 0 5 (by kernel_rfl)) rfl) rfl)) ?_
      exact fsteps_nil
    intro gv w0 hV k0
    rw [show dstsOf _ 2 = [5, 6] by kernel_rfl]
    simp only [List.foldl_cons, List.foldl_nil, List.setIfInBounds_toArray, List.set_cons_succ, List.set_cons_zero, List.drop_succ_cons, List.drop_zero]
    rw [show gv 6 = .bool true from hV 1 6 (by kernel_rfl)]
    clear hV
    refine wpList_nil ?_
    clear hs
    go_upto_region 2 with fail
    refine wp_text 3 [.eq (.int .i64 q), .eq (.int .i64 V), .eq (.int .i64 V)] rfl (by kernel_rfl) ?_ ?_
    · refine sv 1 rfl rfl rfl (fun a u hE hD hk => exec_move (.tmp 1) _ rfl (hE 1 (.int .i64 q) (by kernel_rfl) (by kernel_rfl))) ?_
      refine sv 2 rfl rfl rfl (fun a u hE hD hk => by rw [← HV2.out]; exact exec_neg1 q rfl (hD 0 7 (by kernel_rfl)) (by omega) (by omega)) ?_
      refine sv 3 rfl rfl rfl (fun a u hE hD hk => exec_assign (.tmp 8) _ rfl (hD 1 8 (by kernel_rfl))) ?_
      exact fsteps_nil
    intro gv w1 hV k1
    rw [show dstsOf _ 3 = [7, 8, 4] by kernel_rfl]
    simp only [List.foldl_cons, List.foldl_nil, List.setIfInBounds_toArray, List.set_cons_succ, List.set_cons_zero, List.drop_succ_cons, List.drop_zero]
    rw [show gv 4 = .int .i64 V from hV 2 4 (by kernel_rfl)]
    clear hV
    refine wpList_nil ?_
    have kw := k0.trans k1
    go_wp2
    go_ret
    exact ⟨rfl, kw⟩
  · have HV2 : Hid (V = q) := by show _ = _; rw [← HV.out]; unfold sgn; rw [if_neg hs]
    clear HV
    go_upto_region 1 with fail
    refine wp_text 2 [.eq (.int .i64 s), .eq (.bool false)] rfl (by kernel_rfl) ?_ ?_
    · refine sv 1 rfl rfl rfl (fun a u hE hD hk => exec_move (.tmp 0) _ rfl (hE 0 (.int .i64 s) (by kernel_rfl) (by kernel_rfl))) ?_
      refine fsteps_cons 2 rfl (fun a u hE hD hk => f_as (show ((decide ((s : Int) = (2 : Int))) : Bool) = false from decide_eq_false hs) (f_val (o := ⟨some 6, _, _, _, _, _⟩) (.bool (decide ((s : Int) = (2 : Int)))) rfl (wanted_none rfl _) (exec_eqn (p := s) (q := 2) rfl (hD 0 5 (by kernel_rfl)) rfl) rfl)) ?_
      exact fsteps_nil
    intro gv w0 hV k0
    rw [show dstsOf _ 2 = [5, 6] by kernel_rfl]
    simp only [List.foldl_cons, List.foldl_nil, List.setIfInBounds_toArray, List.set_cons_succ, List.set_cons_zero, List.drop_succ_cons, List.drop_zero]
    rw [show gv 6 = .bool false from hV 1 6 (by kernel_rfl)]
    clear hV
    refine wpList_nil ?_
    go_wp2
    go_ret
    exact ⟨by rw [HV2.out]; rfl, k0⟩
theorem at_any (g off : Nat) (f : Nat → Nat → Int) (n i : Int) (w : World) (hc : ∀ m j, m < 32 → j < 8 → w.cell? ⟨g, off + m * 8 + j, none⟩ = some (.int .i64 (f m j))) : Gives 47 #[.pointer (some ⟨g, off, none⟩), .int .i64 n, .int .i64 i] w (.eq (.int .i64 (pick2 f n i))) := by
  refine gives_eq ?_
  obtain ⟨V, hV⟩ : ∃ V, pick2 f n i = V := ⟨_, rfl⟩
  rw [hV]
  have HV := Lib.hid hV
  have HC := Lib.hid hc
  clear hV hc
  go_enter Try.func47, Try.ntmps47
  cases ht : thB n i with
  | false =>
    have HV2 : Hid (V = 0) := by show _ = _; rw [← HV.out]; exact pick2_out f ht
    have HT := Lib.hid ht
    clear HV ht
    go_upto_region 1 with fail
    refine wp_text 4 [.eq (.int .i64 n), .eq (.int .i64 i), .eq (.bool false), .eq (.bool true)] rfl (by kernel_rfl) ?_ ?_
    · refine sv 1 rfl rfl rfl (fun a u hE hD hk => exec_move (.tmp 1) _ rfl (hE 1 (.int .i64 n) (by kernel_rfl) (by kernel_rfl))) ?_
      refine sv 2 rfl rfl rfl (fun a u hE hD hk => exec_move (.tmp 2) _ rfl (hE 2 (.int .i64 i) (by kernel_rfl) (by kernel_rfl))) ?_
      refine fsteps_cons 3 rfl (fun a u hE hD hk => f_call (o := ⟨some 9, _, _, _, _, _⟩) 30 #[.int .i64 n, .int .i64 i] rfl (wanted_none rfl _) (exec_call 30 _ [.tmp 7, .tmp 8] _ [.int .i64 n, .int .i64 i] Try.func30 (by kernel_rfl) (by kernel_rfl) rfl (show [a.eval (.tmp 7), a.eval (.tmp 8)] = [.int .i64 n, .int .i64 i] from (by rw [show a.eval (.tmp 7) = .int .i64 n from (hD 0 7 (by kernel_rfl)), show a.eval (.tmp 8) = .int .i64 i from (hD 1 8 (by kernel_rfl))] <;> rfl)) u) (by rw [← HT.out]; exact place_any n i u)) ?_
      refine sv 4 rfl rfl rfl (fun a u hE hD hk => exec_not _ (.tmp 9) false rfl (hD 2 9 (by kernel_rfl))) ?_
      exact fsteps_nil
    intro gv w0 hV k0
    rw [show dstsOf _ 4 = [7, 8, 9, 10] by kernel_rfl]
    simp only [List.foldl_cons, List.foldl_nil, List.setIfInBounds_toArray, List.set_cons_succ, List.set_cons_zero, List.drop_succ_cons, List.drop_zero]
    rw [show gv 10 = .bool true from hV 3 10 (by kernel_rfl)]
    clear hV
    refine wpList_nil ?_
    go_wp2
    go_ret
    exact ⟨by rw [HV2.out]; rfl, k0⟩
  | true =>
    have HT := Lib.hid ht
    obtain ⟨m, j, hm, hj, rfl, rfl⟩ := thB_yes ht
    have hcc := HC.out m j hm hj
    have HV2 : Hid (f m j = V) := by show _ = _; rw [← HV.out]; exact (pick2_in f hm hj).symm
    rw [HV2.out] at hcc
    have HCC := Lib.hid hcc
    clear HV ht hcc HC
    go_upto_region 1 with fail
    refine wp_text 4 [.eq (.int .i64 (m : Int)), .eq (.int .i64 (j : Int)), .eq (.bool true), .eq (.bool false)] rfl (by kernel_rfl) ?_ ?_
    · refine sv 1 rfl rfl rfl (fun a u hE hD hk => exec_move (.tmp 1) _ rfl (hE 1 (.int .i64 (m : Int)) (by kernel_rfl) (by kernel_rfl))) ?_
      refine sv 2 rfl rfl rfl (fun a u hE hD hk => exec_move (.tmp 2) _ rfl (hE 2 (.int .i64 (j : Int)) (by kernel_rfl) (by kernel_rfl))) ?_
      refine fsteps_cons 3 rfl (fun a u hE hD hk => f_call (o := ⟨some 9, _, _, _, _, _⟩) 30 #[.int .i64 (m : Int), .int .i64 (j : Int)] rfl (wanted_none rfl _) (exec_call 30 _ [.tmp 7, .tmp 8] _ [.int .i64 (m : Int), .int .i64 (j : Int)] Try.func30 (by kernel_rfl) (by kernel_rfl) rfl (show [a.eval (.tmp 7), a.eval (.tmp 8)] = [.int .i64 (m : Int), .int .i64 (j : Int)] from (by rw [show a.eval (.tmp 7) = .int .i64 (m : Int) from (hD 0 7 (by kernel_rfl)), show a.eval (.tmp 8) = .int .i64 (j : Int) from (hD 1 8 (by kernel_rfl))] <;> rfl)) u) (by rw [← HT.out]; exact place_any _ _ u)) ?_
      refine sv 4 rfl rfl rfl (fun a u hE hD hk => exec_not _ (.tmp 9) true rfl (hD 2 9 (by kernel_rfl))) ?_
      exact fsteps_nil
    intro gv w0 hV k0
    rw [show dstsOf _ 4 = [7, 8, 9, 10] by kernel_rfl]
    simp only [List.foldl_cons, List.foldl_nil, List.setIfInBounds_toArray, List.set_cons_succ, List.set_cons_zero, List.drop_succ_cons, List.drop_zero]
    rw [show gv 10 = .bool false from hV 3 10 (by kernel_rfl)]
    clear hV
    refine wpList_nil ?_
    have HC0 := Lib.hid (k0.cell HCC.out)
    clear HCC
    go_upto_region 3 with fail
    refine wp_text 8 [.eq (.pointer (some ⟨g, off, none⟩)), .eq (.int .i64 (m : Int)), .eq (.int .i64 (j : Int)), .eq (.pointer (some ⟨g, off, none⟩)), .eq (.pointer (some ⟨g, off + m * 8, none⟩)), .eq (.pointer (some ⟨g, off + m * 8 + j, none⟩)), .eq (.int .i64 V), .eq (.int .i64 V)] rfl (by kernel_rfl) ?_ ?_
    · refine sv 1 rfl rfl rfl (fun a u hE hD hk => exec_move (.tmp 0) _ rfl (hE 0 (.pointer (some ⟨g, off, none⟩)) (by kernel_rfl) (by kernel_rfl))) ?_
      refine sv 2 rfl rfl rfl (fun a u hE hD hk => exec_move (.tmp 1) _ rfl (hE 1 (.int .i64 (m : Int)) (by kernel_rfl) (by kernel_rfl))) ?_
      refine sv 3 rfl rfl rfl (fun a u hE hD hk => exec_move (.tmp 2) _ rfl (hE 2 (.int .i64 (j : Int)) (by kernel_rfl) (by kernel_rfl))) ?_
      refine sv 4 rfl rfl rfl (fun a u hE hD hk => exec_nilp (.tmp 11) ⟨g, off, none⟩ rfl (hD 0 11 (by kernel_rfl))) ?_
      refine sv 5 rfl rfl rfl (fun a u hE hD hk => exec_ixK 8 51 38 32 (.tmp 14) (.tmp 12) (g) (off) (off + m * 8) m ((m : Int)) rfl Try.underlying51 (by kernel_rfl) (hD 3 14 (by kernel_rfl)) (hD 1 12 (by kernel_rfl)) (by first | rfl | omega) (hm) (by first | rfl | omega)) ?_
      refine sv 6 rfl rfl rfl (fun a u hE hD hk => exec_ixK 1 38 3 8 (.tmp 15) (.tmp 13) (g) (off + m * 8) (off + m * 8 + j) j ((j : Int)) rfl Try.underlying38 (by kernel_rfl) (hD 4 15 (by kernel_rfl)) (hD 2 13 (by kernel_rfl)) (by first | rfl | omega) (hj) (by first | rfl | omega)) ?_
      refine sv 7 rfl rfl rfl (fun a u hE hD hk => exec_loadi 3 Try.underlying3 (.tmp 16) ⟨g, off + m * 8 + j, none⟩ (.int .i64 V) rfl (hD 5 16 (by kernel_rfl)) (Kept.cell hk (HC0.out))) ?_
      refine sv 8 rfl rfl rfl (fun a u hE hD hk => exec_assign (.tmp 17) _ rfl (hD 6 17 (by kernel_rfl))) ?_
      exact fsteps_nil
    intro gv w1 hV k1
    rw [show dstsOf _ 8 = [11, 12, 13, 14, 15, 16, 17, 6] by kernel_rfl]
    simp only [List.foldl_cons, List.foldl_nil, List.setIfInBounds_toArray, List.set_cons_succ, List.set_cons_zero, List.drop_succ_cons, List.drop_zero]
    rw [show gv 6 = .int .i64 V from hV 7 6 (by kernel_rfl)]
    clear hV
    refine wpList_nil ?_
    have kw := k0.trans k1
    go_wp2
    go_ret
    exact ⟨rfl, kw⟩
theorem openAt_any (g : Nat) (B : Bal) (n i : Int) (w : World) (hB : Blk w g 53 B.lc) : Gives 40 #[.pointer (some ⟨g, 0, none⟩), .int .i64 n, .int .i64 i] w (.eq (.int .i64 (B.oAt n i))) := by
  refine gives_eq ?_
  have HC : Hid (∀ m j, m < 32 → j < 8 → w.cell? ⟨g, 0 + m * 8 + j, none⟩ = some (.int .i64 (B.o m j))) := fun m j hm hj => by rw [Nat.zero_add]; exact lay_cell hB (by omega) (lf_o B hm hj)
  clear hB
  go_enter Try.func40, Try.ntmps40
  go_upto_region 1 with fail
  refine wp_text 7 [.eq (.pointer (some ⟨g, 0, none⟩)), .eq (.pointer (some ⟨g, 0, none⟩)), .eq (.pointer (some ⟨g, 0, none⟩)), .eq (.int .i64 n), .eq (.int .i64 i), .eq (.int .i64 (B.oAt n i)), .eq (.int .i64 (B.oAt n i))] rfl (by kernel_rfl) ?_ ?_
  · refine sv 1 rfl rfl rfl (fun a u hE hD hk => exec_move (.tmp 0) _ rfl (hE 0 (.pointer (some ⟨g, 0, none⟩)) (by kernel_rfl) (by kernel_rfl))) ?_
    refine sv 2 rfl rfl rfl (fun a u hE hD hk => exec_nilp (.tmp 7) ⟨g, 0, none⟩ rfl (hD 0 7 (by kernel_rfl))) ?_
    refine sv 3 rfl rfl rfl (fun a u hE hD hk => exec_fldo 53 0 0 (.tmp 8) (g) (0) (0) rfl (hD 1 8 (by kernel_rfl)) (by kernel_rfl) rfl) ?_
    refine sv 4 rfl rfl rfl (fun a u hE hD hk => exec_move (.tmp 1) _ rfl (hE 1 (.int .i64 n) (by kernel_rfl) (by kernel_rfl))) ?_
    refine sv 5 rfl rfl rfl (fun a u hE hD hk => exec_move (.tmp 2) _ rfl (hE 2 (.int .i64 i) (by kernel_rfl) (by kernel_rfl))) ?_
    refine fsteps_cons 6 rfl (fun a u hE hD hk => f_call (o := ⟨some 12, _, _, _, _, _⟩) 47 #[.pointer (some ⟨g, 0, none⟩), .int .i64 n, .int .i64 i] rfl (wanted_none rfl _) (exec_call 47 _ [.tmp 9, .tmp 10, .tmp 11] _ [.pointer (some ⟨g, 0, none⟩), .int .i64 n, .int .i64 i] Try.func47 (by kernel_rfl) (by kernel_rfl) rfl (show [a.eval (.tmp 9), a.eval (.tmp 10), a.eval (.tmp 11)] = [.pointer (some ⟨g, 0, none⟩), .int .i64 n, .int .i64 i] from (by rw [show a.eval (.tmp 9) = .pointer (some ⟨g, 0, none⟩) from (hD 2 9 (by kernel_rfl)), show a.eval (.tmp 10) = .int .i64 n from (hD 3 10 (by kernel_rfl)), show a.eval (.tmp 11) = .int .i64 i from (hD 4 11 (by kernel_rfl))] <;> rfl)) u) (at_any g 0 B.o n i u (fun m j hm hj => hk.cell (HC.out m j hm hj)))) ?_
    refine sv 7 rfl rfl rfl (fun a u hE hD hk => exec_assign (.tmp 12) _ rfl (hD 5 12 (by kernel_rfl))) ?_
    exact fsteps_nil
  intro gv w0 hV k0
  rw [show dstsOf _ 7 = [7, 8, 9, 10, 11, 12, 6] by kernel_rfl]
  simp only [List.foldl_cons, List.foldl_nil, List.setIfInBounds_toArray, List.set_cons_succ, List.set_cons_zero, List.drop_succ_cons, List.drop_zero]
  rw [show gv 6 = .int .i64 (B.oAt n i) from hV 6 6 (by kernel_rfl)]
  clear hV
  refine wpList_nil ?_
  go_wp2
  go_ret
  exact ⟨rfl, k0⟩
theorem pos_any (g : Nat) (B : Bal) (n i : Int) (w : World) (hB : Blk w g 53 B.lc) : Gives 41 #[.pointer (some ⟨g, 0, none⟩), .int .i64 n, .int .i64 i] w (.eq (.int .i64 (B.pAt n i))) := by
  refine gives_eq ?_
  have HC : Hid (∀ m j, m < 32 → j < 8 → w.cell? ⟨g, 256 + m * 8 + j, none⟩ = some (.int .i64 (B.p m j))) := fun m j hm hj => lay_cell hB (by omega) (lf_p B hj)
  clear hB
  go_enter Try.func41, Try.ntmps41
  go_upto_region 1 with fail
  refine wp_text 7 [.eq (.pointer (some ⟨g, 0, none⟩)), .eq (.pointer (some ⟨g, 0, none⟩)), .eq (.pointer (some ⟨g, 256, none⟩)), .eq (.int .i64 n), .eq (.int .i64 i), .eq (.int .i64 (B.pAt n i)), .eq (.int .i64 (B.pAt n i))] rfl (by kernel_rfl) ?_ ?_
  · refine sv 1 rfl rfl rfl (fun a u hE hD hk => exec_move (.tmp 0) _ rfl (hE 0 (.pointer (some ⟨g, 0, none⟩)) (by kernel_rfl) (by kernel_rfl))) ?_
    refine sv 2 rfl rfl rfl (fun a u hE hD hk => exec_nilp (.tmp 7) ⟨g, 0, none⟩ rfl (hD 0 7 (by kernel_rfl))) ?_
    refine sv 3 rfl rfl rfl (fun a u hE hD hk => exec_fldo 53 1 256 (.tmp 8) (g) (0) (256) rfl (hD 1 8 (by kernel_rfl)) (by kernel_rfl) rfl) ?_
    refine sv 4 rfl rfl rfl (fun a u hE hD hk => exec_move (.tmp 1) _ rfl (hE 1 (.int .i64 n) (by kernel_rfl) (by kernel_rfl))) ?_
    refine sv 5 rfl rfl rfl (fun a u hE hD hk => exec_move (.tmp 2) _ rfl (hE 2 (.int .i64 i) (by kernel_rfl) (by kernel_rfl))) ?_
    refine fsteps_cons 6 rfl (fun a u hE hD hk => f_call (o := ⟨some 12, _, _, _, _, _⟩) 47 #[.pointer (some ⟨g, 256, none⟩), .int .i64 n, .int .i64 i] rfl (wanted_none rfl _) (exec_call 47 _ [.tmp 9, .tmp 10, .tmp 11] _ [.pointer (some ⟨g, 256, none⟩), .int .i64 n, .int .i64 i] Try.func47 (by kernel_rfl) (by kernel_rfl) rfl (show [a.eval (.tmp 9), a.eval (.tmp 10), a.eval (.tmp 11)] = [.pointer (some ⟨g, 256, none⟩), .int .i64 n, .int .i64 i] from (by rw [show a.eval (.tmp 9) = .pointer (some ⟨g, 256, none⟩) from (hD 2 9 (by kernel_rfl)), show a.eval (.tmp 10) = .int .i64 n from (hD 3 10 (by kernel_rfl)), show a.eval (.tmp 11) = .int .i64 i from (hD 4 11 (by kernel_rfl))] <;> rfl)) u) (at_any g 256 B.p n i u (fun m j hm hj => hk.cell (HC.out m j hm hj)))) ?_
    refine sv 7 rfl rfl rfl (fun a u hE hD hk => exec_assign (.tmp 12) _ rfl (hD 5 12 (by kernel_rfl))) ?_
    exact fsteps_nil
  intro gv w0 hV k0
  rw [show dstsOf _ 7 = [7, 8, 9, 10, 11, 12, 6] by kernel_rfl]
  simp only [List.foldl_cons, List.foldl_nil, List.setIfInBounds_toArray, List.set_cons_succ, List.set_cons_zero, List.drop_succ_cons, List.drop_zero]
  rw [show gv 6 = .int .i64 (B.pAt n i) from hV 6 6 (by kernel_rfl)]
  clear hV
  refine wpList_nil ?_
  go_wp2
  go_ret
  exact ⟨rfl, k0⟩
set_option maxHeartbeats 1600000 in
theorem openAll_any (g : Nat) (B : Bal) (hO : B.Ok) (n : Int) (w : World) (hB : Blk w g 53 B.lc) : Gives 22 #[.pointer (some ⟨g, 0, none⟩), .int .i64 n] w (.eq (.int .i64 (B.all n))) := by
  refine gives_eq ?_
  have HB := Lib.hid hB
  obtain ⟨f, hf⟩ : ∃ f : Nat → Int, (fun k : Nat => B.oAt n (k : Int)) = f := ⟨_, rfl⟩
  have HF : Hid (∀ k : Nat, B.oAt n (k : Int) = f k) := fun k => by rw [← hf]
  have HS : Hid (∀ k : Nat, k ≤ 8 → 0 ≤ sumTo f k ∧ sumTo f k ≤ 8796093022208) := fun k hk => by rw [← hf]; exact hO.all_ n k hk
  obtain ⟨V, hV⟩ : ∃ V, B.all n = V := ⟨_, rfl⟩
  have HV : Hid (sumTo f 8 = V) := by show _ = _; rw [← hV, ← hf]; rfl
  rw [hV]
  clear hV hf hB
  go_enter Try.func22, Try.ntmps22
  go_wp2_with fail
  go_loopw [5, 7] (fun t q wr => ∃ i : Nat, q = .int .i64 (i : Int) ∧ t = .int .i64 (sumTo f i) ∧ i ≤ 8 ∧ Kept w wr) (fun _ q _ => 8 - (intOf q).toNat)
  case atStart => exact ⟨0, rfl, rfl, by omega, Kept.refl _⟩
  case round =>
    obtain ⟨i, rfl, rfl, hi8, hkr⟩ := hrel
    obtain ⟨S, hS⟩ : ∃ S, sumTo f i = S := ⟨_, rfl⟩
    have hSb := HS.out i hi8
    rw [hS] at hSb ⊢
    by_cases hi : i < 8
    · have hSn := HS.out (i + 1) (by omega)
      obtain ⟨F, hF⟩ : ∃ F, f i = F := ⟨_, rfl⟩
      have HSN : Hid (S + F = sumTo f (i + 1)) := by show _ = _; rw [← hS, ← hF]; rfl
      have HFI : Hid (B.oAt n (i : Int) = F) := by show _ = _; rw [← hF]; exact HF.out i
      rw [← HSN.out] at hSn
      clear hS hF
      go_upto_region 3 with fail
      refine wp_text 1 [.eq (.bool true)] rfl (by kernel_rfl) ?_ ?_
      · refine fsteps_cons 1 rfl (fun a u hE hD hk => f_as (show ((decide (((i : Int) : Int) < (8 : Int))) : Bool) = true from decide_eq_true (by omega)) (f_val (o := ⟨some 8, _, _, _, _, _⟩) (.bool (decide (((i : Int) : Int) < (8 : Int)))) rfl (wanted_none rfl _) (exec_ltn (p := (i : Int)) (q := 8) rfl (hE 7 (.int .i64 (i : Int)) (by kernel_rfl) (by kernel_rfl)) rfl) rfl)) ?_
        exact fsteps_nil
      intro gv w1 hV k1
      rw [show dstsOf _ 1 = [8] by kernel_rfl]
      simp only [List.foldl_cons, List.foldl_nil, List.setIfInBounds_toArray, List.set_cons_succ, List.set_cons_zero, List.drop_succ_cons, List.drop_zero]
      rw [show gv 8 = .bool true from hV 0 8 (by kernel_rfl)]
      clear hV
      refine wpList_nil ?_
      go_upto_region 5 with fail
      refine wp_text 6 [.eq (.int .i64 S), .eq (.pointer (some ⟨g, 0, none⟩)), .eq (.int .i64 n), .eq (.int .i64 (i : Int)), .eq (.int .i64 F), .eq (.int .i64 ((S : Int) + (F : Int)))] rfl (by kernel_rfl) ?_ ?_
      · refine sv 1 rfl rfl rfl (fun a u hE hD hk => exec_move (.tmp 5) _ rfl (hE 5 (.int .i64 S) (by kernel_rfl) (by kernel_rfl))) ?_
        refine sv 2 rfl rfl rfl (fun a u hE hD hk => exec_move (.tmp 0) _ rfl (hE 0 (.pointer (some ⟨g, 0, none⟩)) (by kernel_rfl) (by kernel_rfl))) ?_
        refine sv 3 rfl rfl rfl (fun a u hE hD hk => exec_move (.tmp 1) _ rfl (hE 1 (.int .i64 n) (by kernel_rfl) (by kernel_rfl))) ?_
        refine sv 4 rfl rfl rfl (fun a u hE hD hk => exec_move (.tmp 6) _ rfl (hE 6 (.int .i64 (i : Int)) (by kernel_rfl) (by kernel_rfl))) ?_
        refine fsteps_cons 5 rfl (fun a u hE hD hk => f_call (o := ⟨some 14, _, _, _, _, _⟩) 40 #[.pointer (some ⟨g, 0, none⟩), .int .i64 n, .int .i64 (i : Int)] rfl (wanted_none rfl _) (exec_call 40 _ [.tmp 11, .tmp 12, .tmp 13] _ [.pointer (some ⟨g, 0, none⟩), .int .i64 n, .int .i64 (i : Int)] Try.func40 (by kernel_rfl) (by kernel_rfl) rfl (show [a.eval (.tmp 11), a.eval (.tmp 12), a.eval (.tmp 13)] = [.pointer (some ⟨g, 0, none⟩), .int .i64 n, .int .i64 (i : Int)] from (by rw [show a.eval (.tmp 11) = .pointer (some ⟨g, 0, none⟩) from (hD 1 11 (by kernel_rfl)), show a.eval (.tmp 12) = .int .i64 n from (hD 2 12 (by kernel_rfl)), show a.eval (.tmp 13) = .int .i64 (i : Int) from (hD 3 13 (by kernel_rfl))] <;> rfl)) u) (by rw [← HFI.out]; exact openAt_any g B n (i : Int) u (HB.out.kept ((hkr.trans k1).trans hk)))) ?_
        refine sv 6 rfl rfl rfl (fun a u hE hD hk => exec_addn (p := (S)) (q := (F)) ((S : Int) + (F : Int)) rfl (hD 0 10 (by kernel_rfl)) (hD 4 14 (by kernel_rfl)) rfl (by omega) (by omega)) ?_
        exact fsteps_nil
      intro gv w2 hV k2
      rw [show dstsOf _ 6 = [10, 11, 12, 13, 14, 15] by kernel_rfl]
      simp only [List.foldl_cons, List.foldl_nil, List.setIfInBounds_toArray, List.set_cons_succ, List.set_cons_zero, List.drop_succ_cons, List.drop_zero]
      rw [show gv 15 = .int .i64 ((S : Int) + (F : Int)) from hV 5 15 (by kernel_rfl)]
      clear hV
      refine l_val (o := ⟨some 5, _, _, _, _, _⟩) (.int .i64 ((S : Int) + (F : Int))) rfl (exec_assign (.tmp 15) (.int .i64 ((S : Int) + (F : Int))) rfl (by kernel_rfl)) ?_
      simp only [Act.put, List.setIfInBounds_toArray, List.set_cons_succ, List.set_cons_zero]
      refine wpList_nil ?_
      have kr := (hkr.trans k1).trans k2
      go_wp2
      exact ⟨⟨i + 1, by simp, by rw [← HSN.out], by omega, kr⟩, by simp [intOf]; omega⟩
    · obtain rfl : i = 8 := by omega
      have HV2 : Hid (S = V) := by show _ = _; rw [← hS]; exact HV.out
      clear hS
      go_upto_region 3 with fail
      refine wp_text 1 [.eq (.bool false)] rfl (by kernel_rfl) ?_ ?_
      · refine fsteps_cons 1 rfl (fun a u hE hD hk => f_as (show ((decide (((8 : Nat) : Int) < (8 : Int))) : Bool) = false from decide_eq_false (by omega)) (f_val (o := ⟨some 8, _, _, _, _, _⟩) (.bool (decide (((8 : Nat) : Int) < (8 : Int)))) rfl (wanted_none rfl _) (exec_ltn (p := (8 : Nat)) (q := 8) rfl (hE 7 (.int .i64 (8 : Nat)) (by kernel_rfl) (by kernel_rfl)) rfl) rfl)) ?_
        exact fsteps_nil
      intro gv w1 hV k1
      rw [show dstsOf _ 1 = [8] by kernel_rfl]
      simp only [List.foldl_cons, List.foldl_nil, List.setIfInBounds_toArray, List.set_cons_succ, List.set_cons_zero, List.drop_succ_cons, List.drop_zero]
      rw [show gv 8 = .bool false from hV 0 8 (by kernel_rfl)]
      clear hV
      refine wpList_nil ?_
      have kw := hkr.trans k1
      go_wp2
      go_ret
      exact ⟨by rw [HV2.out]; rfl, kw⟩

theorem add_no (g off : Nat) (x q lo hi : Int) (w : World) (hc : w.cell? ⟨g, off, none⟩ = some (.int .i64 x)) (h0 : -9223372036854775808 ≤ x + q) (h1 : x + q ≤ 9223372036854775807) (h : wiB (x + q) lo hi = false) : Calls Try.prog 32 #[.pointer (some ⟨g, off, none⟩), .int .i64 q, .int .i64 lo, .int .i64 hi] w fun e w' => e = .returned (.bool false) ∧ Kept w w' := by
  have HC := Lib.hid hc
  have HW := Lib.hid h
  clear hc h
  go_enter Try.func32, Try.ntmps32
  go_upto_region 1 with fail
  refine wp_text 6 [.eq (.pointer (some ⟨g, off, none⟩)), .eq (.pointer (some ⟨g, off, none⟩)), .eq (.int .i64 x), .eq (.int .i64 q), .eq (.int .i64 ((x : Int) + (q : Int))), .eq (.int .i64 ((x : Int) + (q : Int)))] rfl (by kernel_rfl) ?_ ?_
  · refine sv 1 rfl rfl rfl (fun a u hE hD hk => exec_move (.tmp 0) _ rfl (hE 0 (.pointer (some ⟨g, off, none⟩)) (by kernel_rfl) (by kernel_rfl))) ?_
    refine sv 2 rfl rfl rfl (fun a u hE hD hk => exec_nilp (.tmp 10) ⟨g, off, none⟩ rfl (hD 0 10 (by kernel_rfl))) ?_
    refine sv 3 rfl rfl rfl (fun a u hE hD hk => exec_loadi 3 Try.underlying3 (.tmp 11) ⟨g, off, none⟩ (.int .i64 x) rfl (hD 1 11 (by kernel_rfl)) (Kept.cell hk (HC.out))) ?_
    refine sv 4 rfl rfl rfl (fun a u hE hD hk => exec_move (.tmp 1) _ rfl (hE 1 (.int .i64 q) (by kernel_rfl) (by kernel_rfl))) ?_
    refine sv 5 rfl rfl rfl (fun a u hE hD hk => exec_addn (p := (x)) (q := (q)) ((x : Int) + (q : Int)) rfl (hD 2 12 (by kernel_rfl)) (hD 3 13 (by kernel_rfl)) rfl (by omega) (by omega)) ?_
    refine sv 6 rfl rfl rfl (fun a u hE hD hk => exec_assign (.tmp 14) _ rfl (hD 4 14 (by kernel_rfl))) ?_
    exact fsteps_nil
  intro gv w0 hV k0
  rw [show dstsOf _ 6 = [10, 11, 12, 13, 14, 9] by kernel_rfl]
  simp only [List.foldl_cons, List.foldl_nil, List.setIfInBounds_toArray, List.set_cons_succ, List.set_cons_zero, List.drop_succ_cons, List.drop_zero]
  rw [show gv 9 = .int .i64 ((x : Int) + (q : Int)) from hV 5 9 (by kernel_rfl)]
  clear hV
  refine wpList_nil ?_
  go_upto_region 2 with fail
  refine wp_text 5 [.eq (.int .i64 (x + q)), .eq (.int .i64 lo), .eq (.int .i64 hi), .eq (.bool false), .eq (.bool true)] rfl (by kernel_rfl) ?_ ?_
  · refine sv 1 rfl rfl rfl (fun a u hE hD hk => exec_move (.tmp 9) _ rfl (hE 9 (.int .i64 (x + q)) (by kernel_rfl) (by kernel_rfl))) ?_
    refine sv 2 rfl rfl rfl (fun a u hE hD hk => exec_move (.tmp 2) _ rfl (hE 2 (.int .i64 lo) (by kernel_rfl) (by kernel_rfl))) ?_
    refine sv 3 rfl rfl rfl (fun a u hE hD hk => exec_move (.tmp 3) _ rfl (hE 3 (.int .i64 hi) (by kernel_rfl) (by kernel_rfl))) ?_
    refine fsteps_cons 4 rfl (fun a u hE hD hk => f_call (o := ⟨some 18, _, _, _, _, _⟩) 31 #[.int .i64 (x + q), .int .i64 lo, .int .i64 hi] rfl (wanted_none rfl _) (exec_call 31 _ [.tmp 15, .tmp 16, .tmp 17] _ [.int .i64 (x + q), .int .i64 lo, .int .i64 hi] Try.func31 (by kernel_rfl) (by kernel_rfl) rfl (show [a.eval (.tmp 15), a.eval (.tmp 16), a.eval (.tmp 17)] = [.int .i64 (x + q), .int .i64 lo, .int .i64 hi] from (by rw [show a.eval (.tmp 15) = .int .i64 (x + q) from (hD 0 15 (by kernel_rfl)), show a.eval (.tmp 16) = .int .i64 lo from (hD 1 16 (by kernel_rfl)), show a.eval (.tmp 17) = .int .i64 hi from (hD 2 17 (by kernel_rfl))] <;> rfl)) u) (by rw [← HW.out]; exact within_i _ _ _ u)) ?_
    refine sv 5 rfl rfl rfl (fun a u hE hD hk => exec_not _ (.tmp 18) false rfl (hD 3 18 (by kernel_rfl))) ?_
    exact fsteps_nil
  intro gv w1 hV k1
  rw [show dstsOf _ 5 = [15, 16, 17, 18, 19] by kernel_rfl]
  simp only [List.foldl_cons, List.foldl_nil, List.setIfInBounds_toArray, List.set_cons_succ, List.set_cons_zero, List.drop_succ_cons, List.drop_zero]
  rw [show gv 19 = .bool true from hV 4 19 (by kernel_rfl)]
  clear hV
  refine wpList_nil ?_
  have kw := k0.trans k1
  go_wp2
  go_ret
  exact ⟨rfl, kw⟩
theorem add_yes (g off : Nat) (T : TypeId) (cs cs' : List Value) (x q lo hi : Int) (w : World) (hB : Blk w g T cs) (hx : cs[off]? = some (.int .i64 x)) (hs : cs.set off (.int .i64 (x + q)) = cs') (h0 : -9223372036854775808 ≤ x + q) (h1 : x + q ≤ 9223372036854775807) (h : wiB (x + q) lo hi = true) : Calls Try.prog 32 #[.pointer (some ⟨g, off, none⟩), .int .i64 q, .int .i64 lo, .int .i64 hi] w fun e w' => e = .returned (.bool true) ∧ Blk w' g T cs' ∧ Keep (· = g) w w' := by
  have HC := Lib.hid (show w.cell? ⟨g, off, none⟩ = some (.int .i64 x) by rw [hB.cell]; exact hx)
  have HB := Lib.hid hB
  have HW := Lib.hid h
  have HS := Lib.hid hs
  have hl : off < cs.length := (List.getElem?_eq_some_iff.1 hx).1
  clear hB hx h hs
  go_enter Try.func32, Try.ntmps32
  go_upto_region 1 with fail
  refine wp_text 6 [.eq (.pointer (some ⟨g, off, none⟩)), .eq (.pointer (some ⟨g, off, none⟩)), .eq (.int .i64 x), .eq (.int .i64 q), .eq (.int .i64 ((x : Int) + (q : Int))), .eq (.int .i64 ((x : Int) + (q : Int)))] rfl (by kernel_rfl) ?_ ?_
  · refine sv 1 rfl rfl rfl (fun a u hE hD hk => exec_move (.tmp 0) _ rfl (hE 0 (.pointer (some ⟨g, off, none⟩)) (by kernel_rfl) (by kernel_rfl))) ?_
    refine sv 2 rfl rfl rfl (fun a u hE hD hk => exec_nilp (.tmp 10) ⟨g, off, none⟩ rfl (hD 0 10 (by kernel_rfl))) ?_
    refine sv 3 rfl rfl rfl (fun a u hE hD hk => exec_loadi 3 Try.underlying3 (.tmp 11) ⟨g, off, none⟩ (.int .i64 x) rfl (hD 1 11 (by kernel_rfl)) (Kept.cell hk (HC.out))) ?_
    refine sv 4 rfl rfl rfl (fun a u hE hD hk => exec_move (.tmp 1) _ rfl (hE 1 (.int .i64 q) (by kernel_rfl) (by kernel_rfl))) ?_
    refine sv 5 rfl rfl rfl (fun a u hE hD hk => exec_addn (p := (x)) (q := (q)) ((x : Int) + (q : Int)) rfl (hD 2 12 (by kernel_rfl)) (hD 3 13 (by kernel_rfl)) rfl (by omega) (by omega)) ?_
    refine sv 6 rfl rfl rfl (fun a u hE hD hk => exec_assign (.tmp 14) _ rfl (hD 4 14 (by kernel_rfl))) ?_
    exact fsteps_nil
  intro gv w0 hV k0
  rw [show dstsOf _ 6 = [10, 11, 12, 13, 14, 9] by kernel_rfl]
  simp only [List.foldl_cons, List.foldl_nil, List.setIfInBounds_toArray, List.set_cons_succ, List.set_cons_zero, List.drop_succ_cons, List.drop_zero]
  rw [show gv 9 = .int .i64 ((x : Int) + (q : Int)) from hV 5 9 (by kernel_rfl)]
  clear hV
  refine wpList_nil ?_
  go_upto_region 2 with fail
  refine wp_text 5 [.eq (.int .i64 (x + q)), .eq (.int .i64 lo), .eq (.int .i64 hi), .eq (.bool true), .eq (.bool false)] rfl (by kernel_rfl) ?_ ?_
  · refine sv 1 rfl rfl rfl (fun a u hE hD hk => exec_move (.tmp 9) _ rfl (hE 9 (.int .i64 (x + q)) (by kernel_rfl) (by kernel_rfl))) ?_
    refine sv 2 rfl rfl rfl (fun a u hE hD hk => exec_move (.tmp 2) _ rfl (hE 2 (.int .i64 lo) (by kernel_rfl) (by kernel_rfl))) ?_
    refine sv 3 rfl rfl rfl (fun a u hE hD hk => exec_move (.tmp 3) _ rfl (hE 3 (.int .i64 hi) (by kernel_rfl) (by kernel_rfl))) ?_
    refine fsteps_cons 4 rfl (fun a u hE hD hk => f_call (o := ⟨some 18, _, _, _, _, _⟩) 31 #[.int .i64 (x + q), .int .i64 lo, .int .i64 hi] rfl (wanted_none rfl _) (exec_call 31 _ [.tmp 15, .tmp 16, .tmp 17] _ [.int .i64 (x + q), .int .i64 lo, .int .i64 hi] Try.func31 (by kernel_rfl) (by kernel_rfl) rfl (show [a.eval (.tmp 15), a.eval (.tmp 16), a.eval (.tmp 17)] = [.int .i64 (x + q), .int .i64 lo, .int .i64 hi] from (by rw [show a.eval (.tmp 15) = .int .i64 (x + q) from (hD 0 15 (by kernel_rfl)), show a.eval (.tmp 16) = .int .i64 lo from (hD 1 16 (by kernel_rfl)), show a.eval (.tmp 17) = .int .i64 hi from (hD 2 17 (by kernel_rfl))] <;> rfl)) u) (by rw [← HW.out]; exact within_i _ _ _ u)) ?_
    refine sv 5 rfl rfl rfl (fun a u hE hD hk => exec_not _ (.tmp 18) true rfl (hD 3 18 (by kernel_rfl))) ?_
    exact fsteps_nil
  intro gv w1 hV k1
  rw [show dstsOf _ 5 = [15, 16, 17, 18, 19] by kernel_rfl]
  simp only [List.foldl_cons, List.foldl_nil, List.setIfInBounds_toArray, List.set_cons_succ, List.set_cons_zero, List.drop_succ_cons, List.drop_zero]
  rw [show gv 19 = .bool false from hV 4 19 (by kernel_rfl)]
  clear hV
  refine wpList_nil ?_
  have kw := k0.trans k1
  have HB1 := Lib.hid (HB.out.kept kw)
  clear HB HC k0 k1
  go_upto_region 4 with fail
  refine wp_text 3 [.eq (.pointer (some ⟨g, off, none⟩)), .eq (.int .i64 (x + q)), .eq (.pointer (some ⟨g, off, none⟩))] rfl (by kernel_rfl) ?_ ?_
  · refine sv 1 rfl rfl rfl (fun a u hE hD hk => exec_move (.tmp 0) _ rfl (hE 0 (.pointer (some ⟨g, off, none⟩)) (by kernel_rfl) (by kernel_rfl))) ?_
    refine sv 2 rfl rfl rfl (fun a u hE hD hk => exec_move (.tmp 9) _ rfl (hE 9 (.int .i64 (x + q)) (by kernel_rfl) (by kernel_rfl))) ?_
    refine sv 3 rfl rfl rfl (fun a u hE hD hk => exec_nilp (.tmp 20) ⟨g, off, none⟩ rfl (hD 0 20 (by kernel_rfl))) ?_
    exact fsteps_nil
  intro gv wa hV ka
  rw [show dstsOf _ 3 = [20, 21, 22] by kernel_rfl]
  simp only [List.foldl_cons, List.foldl_nil, List.setIfInBounds_toArray, List.set_cons_succ, List.set_cons_zero, List.drop_succ_cons, List.drop_zero]
  rw [show gv 22 = .pointer (some ⟨g, off, none⟩) from hV 2 22 (by kernel_rfl)]
  rw [show gv 21 = .int .i64 (x + q) from hV 1 21 (by kernel_rfl)]
  clear hV
  refine l_putN (o := ⟨none, _, _, _, _, _⟩) g off T cs cs' (x + q) (.tmp 22) (.tmp 21) rfl rfl (by kernel_rfl) (by kernel_rfl) (HB1.out.kept ka) hl HS.out ?_
  intro wS hBS hkS hsS
  simp only [Act.put]
  refine wpList_nil ?_
  have kz : Keep (· = g) w wS := ((kw.trans ka).mono fun _ _ h => h.elim).trans hkS (fun _ _ h => h)
  go_wp2
  go_ret
  exact ⟨rfl, hBS, kz⟩
theorem opens_any (g : Nat) (B : Bal) (hO : B.Ok) (n i q : Int) (w : World) (hB : Blk w g 53 B.lc) : Calls Try.prog 17 #[.pointer (some ⟨g, 0, none⟩), .int .i64 n, .int .i64 i, .int .i64 q] w fun e w' => e = .returned (.bool (opB B n i q)) ∧ Blk w' g 53 (opM B n i q).lc ∧ Keep (· = g) w w' := by
  have HB := Lib.hid hB
  clear hB
  cases h1 : thB n i && wiB q (-1048576) 1048576 with
  | false =>
    have e1 : opB B n i q = false := by unfold opB; rw [h1]; rfl
    rw [op_no e1, e1]
    have H1 := Lib.hid h1
    clear h1 e1
    go_enter Try.func17, Try.ntmps17
    go_upto_region 1 with fail
    refine wp_text 18 [.eq (.int .i64 n), .eq (.int .i64 i), .eq (.bool (thB n i)), .eq (.bool (thB n i)), .cond (thB n i) (.eq (.int .i64 q)), .cond (thB n i) (.eq (.bool (wiB q (-1048576) 1048576))), .eq (.bool false), .eq (.bool false), .eq undef, .eq undef, .eq undef, .eq undef, .eq undef, .eq undef, .eq undef, .eq undef, .eq undef, .eq (.bool false)] rfl (by kernel_rfl) ?_ ?_
    · refine sv 1 rfl rfl rfl (fun a u hE hD hk => exec_move (.tmp 1) _ rfl (hE 1 (.int .i64 n) (by kernel_rfl) (by kernel_rfl))) ?_
      refine sv 2 rfl rfl rfl (fun a u hE hD hk => exec_move (.tmp 2) _ rfl (hE 2 (.int .i64 i) (by kernel_rfl) (by kernel_rfl))) ?_
      refine fsteps_cons 3 rfl (fun a u hE hD hk => f_call (o := ⟨some 11, _, _, _, _, _⟩) 30 #[.int .i64 n, .int .i64 i] rfl (wanted_none rfl _) (exec_call 30 _ [.tmp 9, .tmp 10] _ [.int .i64 n, .int .i64 i] Try.func30 (by kernel_rfl) (by kernel_rfl) rfl (show [a.eval (.tmp 9), a.eval (.tmp 10)] = [.int .i64 n, .int .i64 i] from (by rw [show a.eval (.tmp 9) = .int .i64 n from (hD 0 9 (by kernel_rfl)), show a.eval (.tmp 10) = .int .i64 i from (hD 1 10 (by kernel_rfl))] <;> rfl)) u) (place_any n i u)) ?_
      refine sv 4 rfl rfl rfl (fun a u hE hD hk => exec_move (.tmp 11) _ rfl (hD 2 11 (by kernel_rfl))) ?_
      refine fsteps_cons 5 rfl (fun a u hE hD hk => f_if ((thB n i)) rfl rfl rfl (hD 3 12 (by kernel_rfl)) (fun hb => f_val (o := ⟨some 13, _, _, _, _, _⟩) (.int .i64 q) rfl (wanted_b rfl rfl (hD 3 12 (by kernel_rfl)) (eq_true_of hb)) (exec_move (.tmp 3) _ rfl (hE 3 (.int .i64 q) (by kernel_rfl) (by kernel_rfl))) rfl)) ?_
      refine fsteps_cons 6 rfl (fun a u hE hD hk => f_if ((thB n i)) rfl rfl rfl (hD 3 12 (by kernel_rfl)) (fun hb => f_call (o := ⟨some 14, _, _, _, _, _⟩) 31 #[.int .i64 q, .int .i64 (-1048576), .int .i64 1048576] rfl (wanted_b rfl rfl (hD 3 12 (by kernel_rfl)) (eq_true_of hb)) (exec_call 31 _ [.tmp 13, .const (.int .i64 (-1048576)), .const (.int .i64 1048576)] _ [.int .i64 q, .int .i64 (-1048576), .int .i64 1048576] Try.func31 (by kernel_rfl) (by kernel_rfl) rfl (show [a.eval (.tmp 13), a.eval (.const (.int .i64 (-1048576))), a.eval (.const (.int .i64 1048576))] = [.int .i64 q, .int .i64 (-1048576), .int .i64 1048576] from (by rw [show a.eval (.tmp 13) = .int .i64 q from ((hD 4 13 (by kernel_rfl)).1 hb)] <;> rfl)) u) (within_i q (-1048576) 1048576 u))) ?_
      refine fsteps_cons 7 rfl (fun a u hE hD hk => f_as (show (((thB n i) && (wiB q (-1048576) 1048576)) : Bool) = false from H1.out) (f_val (o := ⟨some 15, _, _, _, _, _⟩) (.bool ((thB n i) && (wiB q (-1048576) 1048576))) rfl (wanted_none rfl _) (exec_pickand (.tmp 12) (.tmp 14) (.const (.bool false)) ((thB n i)) ((wiB q (-1048576) 1048576)) rfl (hD 3 12 (by kernel_rfl)) (fun hb2 => ((hD 5 14 (by kernel_rfl)).1 hb2)) rfl) rfl)) ?_
      refine sv 8 rfl rfl rfl (fun a u hE hD hk => exec_move (.tmp 15) _ rfl (hD 6 15 (by kernel_rfl))) ?_
      refine fsteps_cons 9 rfl (fun a u hE hD hk => f_skip (o := ⟨some 17, _, _, _, _, _⟩) rfl (wanted_at (b := true) false rfl rfl (hD 7 16 (by kernel_rfl))) rfl) ?_
      refine fsteps_cons 10 rfl (fun a u hE hD hk => f_skip (o := ⟨some 18, _, _, _, _, _⟩) rfl (wanted_at (b := true) false rfl rfl (hD 7 16 (by kernel_rfl))) rfl) ?_
      refine fsteps_cons 11 rfl (fun a u hE hD hk => f_skip (o := ⟨some 19, _, _, _, _, _⟩) rfl (wanted_at (b := true) false rfl rfl (hD 7 16 (by kernel_rfl))) rfl) ?_
      refine fsteps_cons 12 rfl (fun a u hE hD hk => f_skip (o := ⟨some 20, _, _, _, _, _⟩) rfl (wanted_at (b := true) false rfl rfl (hD 7 16 (by kernel_rfl))) rfl) ?_
      refine fsteps_cons 13 rfl (fun a u hE hD hk => f_skip (o := ⟨some 21, _, _, _, _, _⟩) rfl (wanted_at (b := true) false rfl rfl (hD 7 16 (by kernel_rfl))) rfl) ?_
      refine fsteps_cons 14 rfl (fun a u hE hD hk => f_skip (o := ⟨some 22, _, _, _, _, _⟩) rfl (wanted_at (b := true) false rfl rfl (hD 7 16 (by kernel_rfl))) rfl) ?_
      refine fsteps_cons 15 rfl (fun a u hE hD hk => f_skip (o := ⟨some 23, _, _, _, _, _⟩) rfl (wanted_at (b := true) false rfl rfl (hD 7 16 (by kernel_rfl))) rfl) ?_
      refine fsteps_cons 16 rfl (fun a u hE hD hk => f_skip (o := ⟨some 24, _, _, _, _, _⟩) rfl (wanted_at (b := true) false rfl rfl (hD 7 16 (by kernel_rfl))) rfl) ?_
      refine fsteps_cons 17 rfl (fun a u hE hD hk => f_skip (o := ⟨some 25, _, _, _, _, _⟩) rfl (wanted_at (b := true) false rfl rfl (hD 7 16 (by kernel_rfl))) rfl) ?_
      refine sv 18 rfl rfl rfl (fun a u hE hD hk => exec_pickF (.tmp 16) (.tmp 25) (.const (.bool false)) (.bool false) rfl (hD 7 16 (by kernel_rfl)) rfl) ?_
      exact fsteps_nil
    intro gv w0 hV k0
    rw [show dstsOf _ 18 = [9, 10, 11, 12, 13, 14, 15, 16, 17, 18, 19, 20, 21, 22, 23, 24, 25, 26] by kernel_rfl]
    simp only [List.foldl_cons, List.foldl_nil, List.setIfInBounds_toArray, List.set_cons_succ, List.set_cons_zero, List.drop_succ_cons, List.drop_zero]
    rw [show gv 26 = .bool false from hV 17 26 (by kernel_rfl)]
    clear hV
    refine l_val (o := ⟨some 8, _, _, _, _, _⟩) (.bool false) rfl (exec_assign (.tmp 26) (.bool false) rfl (by kernel_rfl)) ?_
    simp only [Act.put, List.setIfInBounds_toArray, List.set_cons_succ, List.set_cons_zero]
    refine wpList_nil ?_
    have HB1 := HB.out.kept k0
    have kz : Keep (· = g) w w0 := k0.mono fun _ _ h => h.elim
    go_wp2
    go_ret
    exact ⟨rfl, HB1, kz⟩
  | true =>
    have H1 := Lib.hid h1
    rw [Bool.and_eq_true] at h1
    obtain ⟨ht, hq⟩ := h1
    obtain ⟨m, j, hm, hj, rfl, rfl⟩ := thB_yes ht
    rw [wiB_iff] at hq
    obtain ⟨hq0, hq1⟩ := hq
    have HX : Hid (B.lc[m * 8 + j]? = some (.int .i64 (B.o m j))) := by show _ = _; unfold Bal.lc; rw [lay_at _ (by omega), lf_o B hm hj]
    have hb := hO.o m j
    clear ht
    cases h2 : wiB (B.o m j + q) 0 1099511627776 with
    | false =>
      have e1 : opB B (m : Int) (j : Int) q = false := by
        unfold opB
        rw [H1.out, Bool.true_and]
        unfold Bal.oAt
        rw [pick2_in _ hm hj]
        exact h2
      rw [op_no e1, e1]
      have H2 := Lib.hid h2
      clear e1 h2
      go_enter Try.func17, Try.ntmps17
      go_upto_region 1 with fail
      refine wp_text 16 [.eq (.int .i64 (m : Int)), .eq (.int .i64 (j : Int)), .eq (.bool (thB (m : Int) (j : Int))), .eq (.bool (thB (m : Int) (j : Int))), .cond (thB (m : Int) (j : Int)) (.eq (.int .i64 q)), .cond (thB (m : Int) (j : Int)) (.eq (.bool (wiB q (-1048576) 1048576))), .eq (.bool true), .eq (.bool true), .eq (.pointer (some ⟨g, 0, none⟩)), .eq (.int .i64 (m : Int)), .eq (.int .i64 (j : Int)), .eq (.pointer (some ⟨g, 0, none⟩)), .eq (.pointer (some ⟨g, 0, none⟩)), .eq (.pointer (some ⟨g, m * 8, none⟩)), .eq (.pointer (some ⟨g, m * 8 + j, none⟩)), .eq (.int .i64 q)] rfl (by kernel_rfl) ?_ ?_
      · refine sv 1 rfl rfl rfl (fun a u hE hD hk => exec_move (.tmp 1) _ rfl (hE 1 (.int .i64 (m : Int)) (by kernel_rfl) (by kernel_rfl))) ?_
        refine sv 2 rfl rfl rfl (fun a u hE hD hk => exec_move (.tmp 2) _ rfl (hE 2 (.int .i64 (j : Int)) (by kernel_rfl) (by kernel_rfl))) ?_
        refine fsteps_cons 3 rfl (fun a u hE hD hk => f_call (o := ⟨some 11, _, _, _, _, _⟩) 30 #[.int .i64 (m : Int), .int .i64 (j : Int)] rfl (wanted_none rfl _) (exec_call 30 _ [.tmp 9, .tmp 10] _ [.int .i64 (m : Int), .int .i64 (j : Int)] Try.func30 (by kernel_rfl) (by kernel_rfl) rfl (show [a.eval (.tmp 9), a.eval (.tmp 10)] = [.int .i64 (m : Int), .int .i64 (j : Int)] from (by rw [show a.eval (.tmp 9) = .int .i64 (m : Int) from (hD 0 9 (by kernel_rfl)), show a.eval (.tmp 10) = .int .i64 (j : Int) from (hD 1 10 (by kernel_rfl))] <;> rfl)) u) (place_any _ _ u)) ?_
        refine sv 4 rfl rfl rfl (fun a u hE hD hk => exec_move (.tmp 11) _ rfl (hD 2 11 (by kernel_rfl))) ?_
        refine fsteps_cons 5 rfl (fun a u hE hD hk => f_if ((thB (m : Int) (j : Int))) rfl rfl rfl (hD 3 12 (by kernel_rfl)) (fun hb => f_val (o := ⟨some 13, _, _, _, _, _⟩) (.int .i64 q) rfl (wanted_b rfl rfl (hD 3 12 (by kernel_rfl)) (eq_true_of hb)) (exec_move (.tmp 3) _ rfl (hE 3 (.int .i64 q) (by kernel_rfl) (by kernel_rfl))) rfl)) ?_
        refine fsteps_cons 6 rfl (fun a u hE hD hk => f_if ((thB (m : Int) (j : Int))) rfl rfl rfl (hD 3 12 (by kernel_rfl)) (fun hb => f_call (o := ⟨some 14, _, _, _, _, _⟩) 31 #[.int .i64 q, .int .i64 (-1048576), .int .i64 1048576] rfl (wanted_b rfl rfl (hD 3 12 (by kernel_rfl)) (eq_true_of hb)) (exec_call 31 _ [.tmp 13, .const (.int .i64 (-1048576)), .const (.int .i64 1048576)] _ [.int .i64 q, .int .i64 (-1048576), .int .i64 1048576] Try.func31 (by kernel_rfl) (by kernel_rfl) rfl (show [a.eval (.tmp 13), a.eval (.const (.int .i64 (-1048576))), a.eval (.const (.int .i64 1048576))] = [.int .i64 q, .int .i64 (-1048576), .int .i64 1048576] from (by rw [show a.eval (.tmp 13) = .int .i64 q from ((hD 4 13 (by kernel_rfl)).1 hb)] <;> rfl)) u) (within_i q (-1048576) 1048576 u))) ?_
        refine fsteps_cons 7 rfl (fun a u hE hD hk => f_as (show (((thB (m : Int) (j : Int)) && (wiB q (-1048576) 1048576)) : Bool) = true from H1.out) (f_val (o := ⟨some 15, _, _, _, _, _⟩) (.bool ((thB (m : Int) (j : Int)) && (wiB q (-1048576) 1048576))) rfl (wanted_none rfl _) (exec_pickand (.tmp 12) (.tmp 14) (.const (.bool false)) ((thB (m : Int) (j : Int))) ((wiB q (-1048576) 1048576)) rfl (hD 3 12 (by kernel_rfl)) (fun hb2 => ((hD 5 14 (by kernel_rfl)).1 hb2)) rfl) rfl)) ?_
        refine sv 8 rfl rfl rfl (fun a u hE hD hk => exec_move (.tmp 15) _ rfl (hD 6 15 (by kernel_rfl))) ?_
        refine fsteps_cons 9 rfl (fun a u hE hD hk => f_val (o := ⟨some 17, _, _, _, _, _⟩) (.pointer (some ⟨g, 0, none⟩)) rfl (wanted_at (b := true) true rfl rfl (hD 7 16 (by kernel_rfl))) (exec_move (.tmp 0) _ rfl (hE 0 (.pointer (some ⟨g, 0, none⟩)) (by kernel_rfl) (by kernel_rfl))) rfl) ?_
        refine fsteps_cons 10 rfl (fun a u hE hD hk => f_val (o := ⟨some 18, _, _, _, _, _⟩) (.int .i64 (m : Int)) rfl (wanted_at (b := true) true rfl rfl (hD 7 16 (by kernel_rfl))) (exec_move (.tmp 1) _ rfl (hE 1 (.int .i64 (m : Int)) (by kernel_rfl) (by kernel_rfl))) rfl) ?_
        refine fsteps_cons 11 rfl (fun a u hE hD hk => f_val (o := ⟨some 19, _, _, _, _, _⟩) (.int .i64 (j : Int)) rfl (wanted_at (b := true) true rfl rfl (hD 7 16 (by kernel_rfl))) (exec_move (.tmp 2) _ rfl (hE 2 (.int .i64 (j : Int)) (by kernel_rfl) (by kernel_rfl))) rfl) ?_
        refine fsteps_cons 12 rfl (fun a u hE hD hk => f_val (o := ⟨some 20, _, _, _, _, _⟩) (.pointer (some ⟨g, 0, none⟩)) rfl (wanted_at (b := true) true rfl rfl (hD 7 16 (by kernel_rfl))) (exec_nilp (.tmp 17) ⟨g, 0, none⟩ rfl (hD 8 17 (by kernel_rfl))) rfl) ?_
        refine fsteps_cons 13 rfl (fun a u hE hD hk => f_val (o := ⟨some 21, _, _, _, _, _⟩) (.pointer (some ⟨g, 0, none⟩)) rfl (wanted_at (b := true) true rfl rfl (hD 7 16 (by kernel_rfl))) (exec_fldo 53 0 0 (.tmp 20) (g) (0) (0) rfl (hD 11 20 (by kernel_rfl)) (by kernel_rfl) rfl) rfl) ?_
        refine fsteps_cons 14 rfl (fun a u hE hD hk => f_val (o := ⟨some 22, _, _, _, _, _⟩) (.pointer (some ⟨g, m * 8, none⟩)) rfl (wanted_at (b := true) true rfl rfl (hD 7 16 (by kernel_rfl))) (exec_ixK 8 51 38 32 (.tmp 21) (.tmp 18) (g) (0) (m * 8) m ((m : Int)) rfl Try.underlying51 (by kernel_rfl) (hD 12 21 (by kernel_rfl)) (hD 9 18 (by kernel_rfl)) (by first | rfl | omega) (hm) (by first | rfl | omega)) rfl) ?_
        refine fsteps_cons 15 rfl (fun a u hE hD hk => f_val (o := ⟨some 23, _, _, _, _, _⟩) (.pointer (some ⟨g, m * 8 + j, none⟩)) rfl (wanted_at (b := true) true rfl rfl (hD 7 16 (by kernel_rfl))) (exec_ixK 1 38 3 8 (.tmp 22) (.tmp 19) (g) (m * 8) (m * 8 + j) j ((j : Int)) rfl Try.underlying38 (by kernel_rfl) (hD 13 22 (by kernel_rfl)) (hD 10 19 (by kernel_rfl)) (by first | rfl | omega) (hj) (by first | rfl | omega)) rfl) ?_
        refine fsteps_cons 16 rfl (fun a u hE hD hk => f_val (o := ⟨some 24, _, _, _, _, _⟩) (.int .i64 q) rfl (wanted_at (b := true) true rfl rfl (hD 7 16 (by kernel_rfl))) (exec_move (.tmp 3) _ rfl (hE 3 (.int .i64 q) (by kernel_rfl) (by kernel_rfl))) rfl) ?_
        exact fsteps_nil
      intro gv wa hV ka
      rw [show dstsOf _ 16 = [9, 10, 11, 12, 13, 14, 15, 16, 17, 18, 19, 20, 21, 22, 23, 24] by kernel_rfl]
      simp only [List.foldl_cons, List.foldl_nil, List.setIfInBounds_toArray, List.set_cons_succ, List.set_cons_zero, List.drop_succ_cons, List.drop_zero]
      rw [show gv 23 = .pointer (some ⟨g, m * 8 + j, none⟩) from hV 14 23 (by kernel_rfl)]
      rw [show gv 24 = .int .i64 q from hV 15 24 (by kernel_rfl)]
      rw [show gv 16 = .bool true from hV 7 16 (by kernel_rfl)]
      clear hV
      refine l_call (o := ⟨some 25, _, _, _, _, _⟩) 32 #[.pointer (some ⟨g, m * 8 + j, none⟩), .int .i64 q, .int .i64 0, .int .i64 1099511627776] rfl (exec_call 32 _ [.tmp 23, .tmp 24, .const (.int .i64 0), .const (.int .i64 1099511627776)] _ _ Try.func32 (by kernel_rfl) (by kernel_rfl) rfl (by kernel_rfl) _) ?_
      refine (add_no g (m * 8 + j) (B.o m j) q 0 1099511627776 wa (((HB.out.kept ka).cell _).trans HX.out) (by omega) (by omega) H2.out).mono ?_
      rintro e w2 ⟨rfl, k2⟩
      refine ⟨_, rfl, ?_⟩
      simp only [Act.put, List.setIfInBounds_toArray, List.set_cons_succ, List.set_cons_zero]
      refine l_val (o := ⟨some 26, _, _, _, _, _⟩) (.bool false) rfl (exec_pick (.tmp 16) (.tmp 25) (.const (.bool false)) (.bool false) rfl (by kernel_rfl) (by kernel_rfl)) ?_
      simp only [Act.put, List.setIfInBounds_toArray, List.set_cons_succ, List.set_cons_zero]
      refine l_val (o := ⟨some 8, _, _, _, _, _⟩) (.bool false) rfl (exec_assign (.tmp 26) (.bool false) rfl (by kernel_rfl)) ?_
      simp only [Act.put, List.setIfInBounds_toArray, List.set_cons_succ, List.set_cons_zero]
      refine wpList_nil ?_
      have kw := ka.trans k2
      have HB2 := HB.out.kept kw
      have kz : Keep (· = g) w w2 := kw.mono fun _ _ h => h.elim
      go_wp2
      go_ret
      exact ⟨rfl, HB2, kz⟩
    | true =>
      rw [wiB_iff] at h2
      obtain ⟨h2a, h2b⟩ := h2
      obtain ⟨e1, e2⟩ := op_in hm hj hq0 hq1 h2a h2b
      rw [e1, e2]
      obtain ⟨cs, hcs⟩ : ∃ cs, (Bal.mk (upd B.o m j (B.o m j + q)) B.p).lc = cs := ⟨_, rfl⟩
      rw [hcs]
      have HS : Hid (B.lc.set (m * 8 + j) (.int .i64 (B.o m j + q)) = cs) := by show _ = _; rw [← hcs]; exact lc_setO B hm hj _
      clear e1 e2 hcs
      go_enter Try.func17, Try.ntmps17
      go_upto_region 1 with fail
      refine wp_text 16 [.eq (.int .i64 (m : Int)), .eq (.int .i64 (j : Int)), .eq (.bool (thB (m : Int) (j : Int))), .eq (.bool (thB (m : Int) (j : Int))), .cond (thB (m : Int) (j : Int)) (.eq (.int .i64 q)), .cond (thB (m : Int) (j : Int)) (.eq (.bool (wiB q (-1048576) 1048576))), .eq (.bool true), .eq (.bool true), .eq (.pointer (some ⟨g, 0, none⟩)), .eq (.int .i64 (m : Int)), .eq (.int .i64 (j : Int)), .eq (.pointer (some ⟨g, 0, none⟩)), .eq (.pointer (some ⟨g, 0, none⟩)), .eq (.pointer (some ⟨g, m * 8, none⟩)), .eq (.pointer (some ⟨g, m * 8 + j, none⟩)), .eq (.int .i64 q)] rfl (by kernel_rfl) ?_ ?_
      · refine sv 1 rfl rfl rfl (fun a u hE hD hk => exec_move (.tmp 1) _ rfl (hE 1 (.int .i64 (m : Int)) (by kernel_rfl) (by kernel_rfl))) ?_
        refine sv 2 rfl rfl rfl (fun a u hE hD hk => exec_move (.tmp 2) _ rfl (hE 2 (.int .i64 (j : Int)) (by kernel_rfl) (by kernel_rfl))) ?_
        refine fsteps_cons 3 rfl (fun a u hE hD hk => f_call (o := ⟨some 11, _, _, _, _, _⟩) 30 #[.int .i64 (m : Int), .int .i64 (j : Int)] rfl (wanted_none rfl _) (exec_call 30 _ [.tmp 9, .tmp 10] _ [.int .i64 (m : Int), .int .i64 (j : Int)] Try.func30 (by kernel_rfl) (by kernel_rfl) rfl (show [a.eval (.tmp 9), a.eval (.tmp 10)] = [.int .i64 (m : Int), .int .i64 (j : Int)] from (by rw [show a.eval (.tmp 9) = .int .i64 (m : Int) from (hD 0 9 (by kernel_rfl)), show a.eval (.tmp 10) = .int .i64 (j : Int) from (hD 1 10 (by kernel_rfl))] <;> rfl)) u) (place_any _ _ u)) ?_
        refine sv 4 rfl rfl rfl (fun a u hE hD hk => exec_move (.tmp 11) _ rfl (hD 2 11 (by kernel_rfl))) ?_
        refine fsteps_cons 5 rfl (fun a u hE hD hk => f_if ((thB (m : Int) (j : Int))) rfl rfl rfl (hD 3 12 (by kernel_rfl)) (fun hb => f_val (o := ⟨some 13, _, _, _, _, _⟩) (.int .i64 q) rfl (wanted_b rfl rfl (hD 3 12 (by kernel_rfl)) (eq_true_of hb)) (exec_move (.tmp 3) _ rfl (hE 3 (.int .i64 q) (by kernel_rfl) (by kernel_rfl))) rfl)) ?_
        refine fsteps_cons 6 rfl (fun a u hE hD hk => f_if ((thB (m : Int) (j : Int))) rfl rfl rfl (hD 3 12 (by kernel_rfl)) (fun hb => f_call (o := ⟨some 14, _, _, _, _, _⟩) 31 #[.int .i64 q, .int .i64 (-1048576), .int .i64 1048576] rfl (wanted_b rfl rfl (hD 3 12 (by kernel_rfl)) (eq_true_of hb)) (exec_call 31 _ [.tmp 13, .const (.int .i64 (-1048576)), .const (.int .i64 1048576)] _ [.int .i64 q, .int .i64 (-1048576), .int .i64 1048576] Try.func31 (by kernel_rfl) (by kernel_rfl) rfl (show [a.eval (.tmp 13), a.eval (.const (.int .i64 (-1048576))), a.eval (.const (.int .i64 1048576))] = [.int .i64 q, .int .i64 (-1048576), .int .i64 1048576] from (by rw [show a.eval (.tmp 13) = .int .i64 q from ((hD 4 13 (by kernel_rfl)).1 hb)] <;> rfl)) u) (within_i q (-1048576) 1048576 u))) ?_
        refine fsteps_cons 7 rfl (fun a u hE hD hk => f_as (show (((thB (m : Int) (j : Int)) && (wiB q (-1048576) 1048576)) : Bool) = true from H1.out) (f_val (o := ⟨some 15, _, _, _, _, _⟩) (.bool ((thB (m : Int) (j : Int)) && (wiB q (-1048576) 1048576))) rfl (wanted_none rfl _) (exec_pickand (.tmp 12) (.tmp 14) (.const (.bool false)) ((thB (m : Int) (j : Int))) ((wiB q (-1048576) 1048576)) rfl (hD 3 12 (by kernel_rfl)) (fun hb2 => ((hD 5 14 (by kernel_rfl)).1 hb2)) rfl) rfl)) ?_
        refine sv 8 rfl rfl rfl (fun a u hE hD hk => exec_move (.tmp 15) _ rfl (hD 6 15 (by kernel_rfl))) ?_
        refine fsteps_cons 9 rfl (fun a u hE hD hk => f_val (o := ⟨some 17, _, _, _, _, _⟩) (.pointer (some ⟨g, 0, none⟩)) rfl (wanted_at (b := true) true rfl rfl (hD 7 16 (by kernel_rfl))) (exec_move (.tmp 0) _ rfl (hE 0 (.pointer (some ⟨g, 0, none⟩)) (by kernel_rfl) (by kernel_rfl))) rfl) ?_
        refine fsteps_cons 10 rfl (fun a u hE hD hk => f_val (o := ⟨some 18, _, _, _, _, _⟩) (.int .i64 (m : Int)) rfl (wanted_at (b := true) true rfl rfl (hD 7 16 (by kernel_rfl))) (exec_move (.tmp 1) _ rfl (hE 1 (.int .i64 (m : Int)) (by kernel_rfl) (by kernel_rfl))) rfl) ?_
        refine fsteps_cons 11 rfl (fun a u hE hD hk => f_val (o := ⟨some 19, _, _, _, _, _⟩) (.int .i64 (j : Int)) rfl (wanted_at (b := true) true rfl rfl (hD 7 16 (by kernel_rfl))) (exec_move (.tmp 2) _ rfl (hE 2 (.int .i64 (j : Int)) (by kernel_rfl) (by kernel_rfl))) rfl) ?_
        refine fsteps_cons 12 rfl (fun a u hE hD hk => f_val (o := ⟨some 20, _, _, _, _, _⟩) (.pointer (some ⟨g, 0, none⟩)) rfl (wanted_at (b := true) true rfl rfl (hD 7 16 (by kernel_rfl))) (exec_nilp (.tmp 17) ⟨g, 0, none⟩ rfl (hD 8 17 (by kernel_rfl))) rfl) ?_
        refine fsteps_cons 13 rfl (fun a u hE hD hk => f_val (o := ⟨some 21, _, _, _, _, _⟩) (.pointer (some ⟨g, 0, none⟩)) rfl (wanted_at (b := true) true rfl rfl (hD 7 16 (by kernel_rfl))) (exec_fldo 53 0 0 (.tmp 20) (g) (0) (0) rfl (hD 11 20 (by kernel_rfl)) (by kernel_rfl) rfl) rfl) ?_
        refine fsteps_cons 14 rfl (fun a u hE hD hk => f_val (o := ⟨some 22, _, _, _, _, _⟩) (.pointer (some ⟨g, m * 8, none⟩)) rfl (wanted_at (b := true) true rfl rfl (hD 7 16 (by kernel_rfl))) (exec_ixK 8 51 38 32 (.tmp 21) (.tmp 18) (g) (0) (m * 8) m ((m : Int)) rfl Try.underlying51 (by kernel_rfl) (hD 12 21 (by kernel_rfl)) (hD 9 18 (by kernel_rfl)) (by first | rfl | omega) (hm) (by first | rfl | omega)) rfl) ?_
        refine fsteps_cons 15 rfl (fun a u hE hD hk => f_val (o := ⟨some 23, _, _, _, _, _⟩) (.pointer (some ⟨g, m * 8 + j, none⟩)) rfl (wanted_at (b := true) true rfl rfl (hD 7 16 (by kernel_rfl))) (exec_ixK 1 38 3 8 (.tmp 22) (.tmp 19) (g) (m * 8) (m * 8 + j) j ((j : Int)) rfl Try.underlying38 (by kernel_rfl) (hD 13 22 (by kernel_rfl)) (hD 10 19 (by kernel_rfl)) (by first | rfl | omega) (hj) (by first | rfl | omega)) rfl) ?_
        refine fsteps_cons 16 rfl (fun a u hE hD hk => f_val (o := ⟨some 24, _, _, _, _, _⟩) (.int .i64 q) rfl (wanted_at (b := true) true rfl rfl (hD 7 16 (by kernel_rfl))) (exec_move (.tmp 3) _ rfl (hE 3 (.int .i64 q) (by kernel_rfl) (by kernel_rfl))) rfl) ?_
        exact fsteps_nil
      intro gv wa hV ka
      rw [show dstsOf _ 16 = [9, 10, 11, 12, 13, 14, 15, 16, 17, 18, 19, 20, 21, 22, 23, 24] by kernel_rfl]
      simp only [List.foldl_cons, List.foldl_nil, List.setIfInBounds_toArray, List.set_cons_succ, List.set_cons_zero, List.drop_succ_cons, List.drop_zero]
      rw [show gv 23 = .pointer (some ⟨g, m * 8 + j, none⟩) from hV 14 23 (by kernel_rfl)]
      rw [show gv 24 = .int .i64 q from hV 15 24 (by kernel_rfl)]
      rw [show gv 16 = .bool true from hV 7 16 (by kernel_rfl)]
      clear hV
      refine l_call (o := ⟨some 25, _, _, _, _, _⟩) 32 #[.pointer (some ⟨g, m * 8 + j, none⟩), .int .i64 q, .int .i64 0, .int .i64 1099511627776] rfl (exec_call 32 _ [.tmp 23, .tmp 24, .const (.int .i64 0), .const (.int .i64 1099511627776)] _ _ Try.func32 (by kernel_rfl) (by kernel_rfl) rfl (by kernel_rfl) _) ?_
      refine (add_yes g (m * 8 + j) _ B.lc cs (B.o m j) q 0 1099511627776 wa (HB.out.kept ka) HX.out HS.out (by omega) (by omega) (wiB_iff.2 ⟨h2a, h2b⟩)).mono ?_
      rintro e w2 ⟨rfl, hB2, k2⟩
      refine ⟨_, rfl, ?_⟩
      simp only [Act.put, List.setIfInBounds_toArray, List.set_cons_succ, List.set_cons_zero]
      refine l_val (o := ⟨some 26, _, _, _, _, _⟩) (.bool true) rfl (exec_pick (.tmp 16) (.tmp 25) (.const (.bool false)) (.bool true) rfl (by kernel_rfl) (by kernel_rfl)) ?_
      simp only [Act.put, List.setIfInBounds_toArray, List.set_cons_succ, List.set_cons_zero]
      refine l_val (o := ⟨some 8, _, _, _, _, _⟩) (.bool true) rfl (exec_assign (.tmp 26) (.bool true) rfl (by kernel_rfl)) ?_
      simp only [Act.put, List.setIfInBounds_toArray, List.set_cons_succ, List.set_cons_zero]
      refine wpList_nil ?_
      have kz : Keep (· = g) w w2 := (ka.mono fun _ _ h => h.elim).trans k2 (fun _ _ h => h)
      go_wp2
      go_ret
      exact ⟨rfl, hB2, kz⟩
theorem trades_any (g : Nat) (B : Bal) (hO : B.Ok) (n i s q : Int) (w : World) (hB : Blk w g 53 B.lc) : Calls Try.prog 18 #[.pointer (some ⟨g, 0, none⟩), .int .i64 n, .int .i64 i, .int .i64 s, .int .i64 q] w fun e w' => e = .returned (.bool (trB B n i s q)) ∧ Blk w' g 53 (trM B n i s q).lc ∧ Keep (· = g) w w' := by
  have HB := Lib.hid hB
  clear hB
  cases h1 : (thB n i && wiB q 1 1048576) && sdB s with
  | false =>
    have e1 : trB B n i s q = false := by unfold trB; rw [h1]; rfl
    rw [tr_no e1, e1]
    have H1 := Lib.hid h1
    clear h1 e1
    go_enter Try.func18, Try.ntmps18
    go_upto_region 1 with fail
    refine wp_free 24 [.eq (.int .i64 n), .eq (.int .i64 i), .eq (.bool (thB n i)), .eq (.bool (thB n i)), .cond (thB n i) (.eq (.int .i64 q)), .cond (thB n i) (.eq (.bool (wiB q 1 1048576))), .eq (.bool ((thB n i) && (wiB q 1 1048576))), .eq (.bool ((thB n i) && (wiB q 1 1048576))), .cond ((thB n i) && (wiB q 1 1048576)) (.eq (.int .i64 s)), .cond ((thB n i) && (wiB q 1 1048576)) (.eq (.bool (sdB s))), .eq (.bool false), .eq (.bool false), .eq undef, .eq undef, .eq undef, .eq undef, .eq undef, .eq undef, .eq undef, .eq undef, .eq undef, .eq undef, .eq undef, .eq (.bool false)] (by kernel_rfl) rfl (by kernel_rfl) ?_ ?_
    · refine sv 1 rfl rfl rfl (fun a u hE hD hk => exec_move (.tmp 1) _ rfl (hE 1 (.int .i64 n) (by kernel_rfl) (by kernel_rfl))) ?_
      refine sv 2 rfl rfl rfl (fun a u hE hD hk => exec_move (.tmp 2) _ rfl (hE 2 (.int .i64 i) (by kernel_rfl) (by kernel_rfl))) ?_
      refine fsteps_cons 3 rfl (fun a u hE hD hk => f_call (o := ⟨some 13, _, _, _, _, _⟩) 30 #[.int .i64 n, .int .i64 i] rfl (wanted_none rfl _) (exec_call 30 _ [.tmp 11, .tmp 12] _ [.int .i64 n, .int .i64 i] Try.func30 (by kernel_rfl) (by kernel_rfl) rfl (show [a.eval (.tmp 11), a.eval (.tmp 12)] = [.int .i64 n, .int .i64 i] from (by rw [show a.eval (.tmp 11) = .int .i64 n from (hD 0 11 (by kernel_rfl)), show a.eval (.tmp 12) = .int .i64 i from (hD 1 12 (by kernel_rfl))] <;> rfl)) u) (place_any n i u)) ?_
      refine sv 4 rfl rfl rfl (fun a u hE hD hk => exec_move (.tmp 13) _ rfl (hD 2 13 (by kernel_rfl))) ?_
      refine fsteps_cons 5 rfl (fun a u hE hD hk => f_if ((thB n i)) rfl rfl rfl (hD 3 14 (by kernel_rfl)) (fun hb => f_val (o := ⟨some 15, _, _, _, _, _⟩) (.int .i64 q) rfl (wanted_b rfl rfl (hD 3 14 (by kernel_rfl)) (eq_true_of hb)) (exec_move (.tmp 4) _ rfl (hE 4 (.int .i64 q) (by kernel_rfl) (by kernel_rfl))) rfl)) ?_
      refine fsteps_cons 6 rfl (fun a u hE hD hk => f_if ((thB n i)) rfl rfl rfl (hD 3 14 (by kernel_rfl)) (fun hb => f_call (o := ⟨some 16, _, _, _, _, _⟩) 31 #[.int .i64 q, .int .i64 1, .int .i64 1048576] rfl (wanted_b rfl rfl (hD 3 14 (by kernel_rfl)) (eq_true_of hb)) (exec_call 31 _ [.tmp 15, .const (.int .i64 1), .const (.int .i64 1048576)] _ [.int .i64 q, .int .i64 1, .int .i64 1048576] Try.func31 (by kernel_rfl) (by kernel_rfl) rfl (show [a.eval (.tmp 15), a.eval (.const (.int .i64 1)), a.eval (.const (.int .i64 1048576))] = [.int .i64 q, .int .i64 1, .int .i64 1048576] from (by rw [show a.eval (.tmp 15) = .int .i64 q from ((hD 4 15 (by kernel_rfl)).1 hb)] <;> rfl)) u) (within_i q 1 1048576 u))) ?_
      refine sv 7 rfl rfl rfl (fun a u hE hD hk => exec_pickand (.tmp 14) (.tmp 16) (.const (.bool false)) ((thB n i)) ((wiB q 1 1048576)) rfl (hD 3 14 (by kernel_rfl)) (fun hb2 => ((hD 5 16 (by kernel_rfl)).1 hb2)) rfl) ?_
      refine sv 8 rfl rfl rfl (fun a u hE hD hk => exec_move (.tmp 17) _ rfl (hD 6 17 (by kernel_rfl))) ?_
      refine fsteps_cons 9 rfl (fun a u hE hD hk => f_if (((thB n i) && (wiB q 1 1048576))) rfl rfl rfl (hD 7 18 (by kernel_rfl)) (fun hb => f_val (o := ⟨some 19, _, _, _, _, _⟩) (.int .i64 s) rfl (wanted_b rfl rfl (hD 7 18 (by kernel_rfl)) (eq_true_of hb)) (exec_move (.tmp 3) _ rfl (hE 3 (.int .i64 s) (by kernel_rfl) (by kernel_rfl))) rfl)) ?_
      refine fsteps_cons 10 rfl (fun a u hE hD hk => f_if (((thB n i) && (wiB q 1 1048576))) rfl rfl rfl (hD 7 18 (by kernel_rfl)) (fun hb => f_call (o := ⟨some 20, _, _, _, _, _⟩) 33 #[.int .i64 s] rfl (wanted_b rfl rfl (hD 7 18 (by kernel_rfl)) (eq_true_of hb)) (exec_call 33 _ [.tmp 19] _ [.int .i64 s] Try.func33 (by kernel_rfl) (by kernel_rfl) rfl (show [a.eval (.tmp 19)] = [.int .i64 s] from (by rw [show a.eval (.tmp 19) = .int .i64 s from ((hD 8 19 (by kernel_rfl)).1 hb)] <;> rfl)) u) (side_any s u))) ?_
      refine fsteps_cons 11 rfl (fun a u hE hD hk => f_as (show ((((thB n i) && (wiB q 1 1048576)) && (sdB s)) : Bool) = false from H1.out) (f_val (o := ⟨some 21, _, _, _, _, _⟩) (.bool (((thB n i) && (wiB q 1 1048576)) && (sdB s))) rfl (wanted_none rfl _) (exec_pickand (.tmp 18) (.tmp 20) (.const (.bool false)) (((thB n i) && (wiB q 1 1048576))) ((sdB s)) rfl (hD 7 18 (by kernel_rfl)) (fun hb2 => ((hD 9 20 (by kernel_rfl)).1 hb2)) rfl) rfl)) ?_
      refine sv 12 rfl rfl rfl (fun a u hE hD hk => exec_move (.tmp 21) _ rfl (hD 10 21 (by kernel_rfl))) ?_
      refine fsteps_cons 13 rfl (fun a u hE hD hk => f_skip (o := ⟨some 23, _, _, _, _, _⟩) rfl (wanted_at (b := true) false rfl rfl (hD 11 22 (by kernel_rfl))) rfl) ?_
      refine fsteps_cons 14 rfl (fun a u hE hD hk => f_skip (o := ⟨some 24, _, _, _, _, _⟩) rfl (wanted_at (b := true) false rfl rfl (hD 11 22 (by kernel_rfl))) rfl) ?_
      refine fsteps_cons 15 rfl (fun a u hE hD hk => f_skip (o := ⟨some 25, _, _, _, _, _⟩) rfl (wanted_at (b := true) false rfl rfl (hD 11 22 (by kernel_rfl))) rfl) ?_
      refine fsteps_cons 16 rfl (fun a u hE hD hk => f_skip (o := ⟨some 26, _, _, _, _, _⟩) rfl (wanted_at (b := true) false rfl rfl (hD 11 22 (by kernel_rfl))) rfl) ?_
      refine fsteps_cons 17 rfl (fun a u hE hD hk => f_skip (o := ⟨some 27, _, _, _, _, _⟩) rfl (wanted_at (b := true) false rfl rfl (hD 11 22 (by kernel_rfl))) rfl) ?_
      refine fsteps_cons 18 rfl (fun a u hE hD hk => f_skip (o := ⟨some 28, _, _, _, _, _⟩) rfl (wanted_at (b := true) false rfl rfl (hD 11 22 (by kernel_rfl))) rfl) ?_
      refine fsteps_cons 19 rfl (fun a u hE hD hk => f_skip (o := ⟨some 29, _, _, _, _, _⟩) rfl (wanted_at (b := true) false rfl rfl (hD 11 22 (by kernel_rfl))) rfl) ?_
      refine fsteps_cons 20 rfl (fun a u hE hD hk => f_skip (o := ⟨some 30, _, _, _, _, _⟩) rfl (wanted_at (b := true) false rfl rfl (hD 11 22 (by kernel_rfl))) rfl) ?_
      refine fsteps_cons 21 rfl (fun a u hE hD hk => f_skip (o := ⟨some 31, _, _, _, _, _⟩) rfl (wanted_at (b := true) false rfl rfl (hD 11 22 (by kernel_rfl))) rfl) ?_
      refine fsteps_cons 22 rfl (fun a u hE hD hk => f_skip (o := ⟨some 32, _, _, _, _, _⟩) rfl (wanted_at (b := true) false rfl rfl (hD 11 22 (by kernel_rfl))) rfl) ?_
      refine fsteps_cons 23 rfl (fun a u hE hD hk => f_skip (o := ⟨some 33, _, _, _, _, _⟩) rfl (wanted_at (b := true) false rfl rfl (hD 11 22 (by kernel_rfl))) rfl) ?_
      refine sv 24 rfl rfl rfl (fun a u hE hD hk => exec_pickF (.tmp 22) (.tmp 33) (.const (.bool false)) (.bool false) rfl (hD 11 22 (by kernel_rfl)) rfl) ?_
      exact fsteps_nil
    intro gv w0 hV k0
    rw [show dstsOf _ 24 = [11, 12, 13, 14, 15, 16, 17, 18, 19, 20, 21, 22, 23, 24, 25, 26, 27, 28, 29, 30, 31, 32, 33, 34] by kernel_rfl]
    simp only [List.foldl_cons, List.foldl_nil, List.setIfInBounds_toArray, List.set_cons_succ, List.set_cons_zero, List.drop_succ_cons, List.drop_zero]
    rw [show gv 34 = .bool false from hV 23 34 (by kernel_rfl)]
    clear hV
    refine l_val (o := ⟨some 10, _, _, _, _, _⟩) (.bool false) rfl (exec_assign (.tmp 34) (.bool false) rfl (by kernel_rfl)) ?_
    simp only [Act.put, List.setIfInBounds_toArray, List.set_cons_succ, List.set_cons_zero]
    refine wpList_nil ?_
    have HB1 := HB.out.kept k0
    have kz : Keep (· = g) w w0 := k0.mono fun _ _ h => h.elim
    go_wp2
    go_ret
    exact ⟨rfl, HB1, kz⟩
  | true =>
    have H1 := Lib.hid h1
    rw [Bool.and_eq_true, Bool.and_eq_true] at h1
    obtain ⟨⟨ht, hq⟩, hs⟩ := h1
    obtain ⟨m, j, hm, hj, rfl, rfl⟩ := thB_yes ht
    rw [wiB_iff] at hq
    have HX : Hid (B.lc[256 + m * 8 + j]? = some (.int .i64 (B.p m j))) := by show _ = _; unfold Bal.lc; rw [lay_at _ (by omega), lf_p B hj]
    have hb := hO.p m j
    have hsg : -1048576 ≤ sgn s q ∧ sgn s q ≤ 1048576 := by unfold sgn; split <;> omega
    clear ht
    cases h2 : wiB (B.p m j + sgn s q) (-1099511627776) 1099511627776 with
    | false =>
      have e1 : trB B (m : Int) (j : Int) s q = false := by
        unfold trB
        rw [H1.out, Bool.true_and]
        unfold Bal.pAt
        rw [pick2_in _ hm hj]
        exact h2
      rw [tr_no e1, e1]
      have H2 := Lib.hid h2
      clear e1 h2
      obtain ⟨V, hV⟩ : ∃ V, sgn s q = V := ⟨_, rfl⟩
      have HV := Lib.hid hV
      rw [hV] at H2 hsg
      clear hV
      go_enter Try.func18, Try.ntmps18
      go_upto_region 1 with fail
      refine wp_free 22 [.eq (.int .i64 (m : Int)), .eq (.int .i64 (j : Int)), .eq (.bool (thB (m : Int) (j : Int))), .eq (.bool (thB (m : Int) (j : Int))), .cond (thB (m : Int) (j : Int)) (.eq (.int .i64 q)), .cond (thB (m : Int) (j : Int)) (.eq (.bool (wiB q 1 1048576))), .eq (.bool ((thB (m : Int) (j : Int)) && (wiB q 1 1048576))), .eq (.bool ((thB (m : Int) (j : Int)) && (wiB q 1 1048576))), .cond ((thB (m : Int) (j : Int)) && (wiB q 1 1048576)) (.eq (.int .i64 s)), .cond ((thB (m : Int) (j : Int)) && (wiB q 1 1048576)) (.eq (.bool (sdB s))), .eq (.bool true), .eq (.bool true), .eq (.pointer (some ⟨g, 0, none⟩)), .eq (.int .i64 (m : Int)), .eq (.int .i64 (j : Int)), .eq (.pointer (some ⟨g, 0, none⟩)), .eq (.pointer (some ⟨g, 256, none⟩)), .eq (.pointer (some ⟨g, 256 + m * 8, none⟩)), .eq (.pointer (some ⟨g, 256 + m * 8 + j, none⟩)), .eq (.int .i64 s), .eq (.int .i64 q), .eq (.int .i64 V)] (by kernel_rfl) rfl (by kernel_rfl) ?_ ?_
      · refine sv 1 rfl rfl rfl (fun a u hE hD hk => exec_move (.tmp 1) _ rfl (hE 1 (.int .i64 (m : Int)) (by kernel_rfl) (by kernel_rfl))) ?_
        refine sv 2 rfl rfl rfl (fun a u hE hD hk => exec_move (.tmp 2) _ rfl (hE 2 (.int .i64 (j : Int)) (by kernel_rfl) (by kernel_rfl))) ?_
        refine fsteps_cons 3 rfl (fun a u hE hD hk => f_call (o := ⟨some 13, _, _, _, _, _⟩) 30 #[.int .i64 (m : Int), .int .i64 (j : Int)] rfl (wanted_none rfl _) (exec_call 30 _ [.tmp 11, .tmp 12] _ [.int .i64 (m : Int), .int .i64 (j : Int)] Try.func30 (by kernel_rfl) (by kernel_rfl) rfl (show [a.eval (.tmp 11), a.eval (.tmp 12)] = [.int .i64 (m : Int), .int .i64 (j : Int)] from (by rw [show a.eval (.tmp 11) = .int .i64 (m : Int) from (hD 0 11 (by kernel_rfl)), show a.eval (.tmp 12) = .int .i64 (j : Int) from (hD 1 12 (by kernel_rfl))] <;> rfl)) u) (place_any _ _ u)) ?_
        refine sv 4 rfl rfl rfl (fun a u hE hD hk => exec_move (.tmp 13) _ rfl (hD 2 13 (by kernel_rfl))) ?_
        refine fsteps_cons 5 rfl (fun a u hE hD hk => f_if ((thB (m : Int) (j : Int))) rfl rfl rfl (hD 3 14 (by kernel_rfl)) (fun hb => f_val (o := ⟨some 15, _, _, _, _, _⟩) (.int .i64 q) rfl (wanted_b rfl rfl (hD 3 14 (by kernel_rfl)) (eq_true_of hb)) (exec_move (.tmp 4) _ rfl (hE 4 (.int .i64 q) (by kernel_rfl) (by kernel_rfl))) rfl)) ?_
        refine fsteps_cons 6 rfl (fun a u hE hD hk => f_if ((thB (m : Int) (j : Int))) rfl rfl rfl (hD 3 14 (by kernel_rfl)) (fun hb => f_call (o := ⟨some 16, _, _, _, _, _⟩) 31 #[.int .i64 q, .int .i64 1, .int .i64 1048576] rfl (wanted_b rfl rfl (hD 3 14 (by kernel_rfl)) (eq_true_of hb)) (exec_call 31 _ [.tmp 15, .const (.int .i64 1), .const (.int .i64 1048576)] _ [.int .i64 q, .int .i64 1, .int .i64 1048576] Try.func31 (by kernel_rfl) (by kernel_rfl) rfl (show [a.eval (.tmp 15), a.eval (.const (.int .i64 1)), a.eval (.const (.int .i64 1048576))] = [.int .i64 q, .int .i64 1, .int .i64 1048576] from (by rw [show a.eval (.tmp 15) = .int .i64 q from ((hD 4 15 (by kernel_rfl)).1 hb)] <;> rfl)) u) (within_i q 1 1048576 u))) ?_
        refine sv 7 rfl rfl rfl (fun a u hE hD hk => exec_pickand (.tmp 14) (.tmp 16) (.const (.bool false)) ((thB (m : Int) (j : Int))) ((wiB q 1 1048576)) rfl (hD 3 14 (by kernel_rfl)) (fun hb2 => ((hD 5 16 (by kernel_rfl)).1 hb2)) rfl) ?_
        refine sv 8 rfl rfl rfl (fun a u hE hD hk => exec_move (.tmp 17) _ rfl (hD 6 17 (by kernel_rfl))) ?_
        refine fsteps_cons 9 rfl (fun a u hE hD hk => f_if (((thB (m : Int) (j : Int)) && (wiB q 1 1048576))) rfl rfl rfl (hD 7 18 (by kernel_rfl)) (fun hb => f_val (o := ⟨some 19, _, _, _, _, _⟩) (.int .i64 s) rfl (wanted_b rfl rfl (hD 7 18 (by kernel_rfl)) (eq_true_of hb)) (exec_move (.tmp 3) _ rfl (hE 3 (.int .i64 s) (by kernel_rfl) (by kernel_rfl))) rfl)) ?_
        refine fsteps_cons 10 rfl (fun a u hE hD hk => f_if (((thB (m : Int) (j : Int)) && (wiB q 1 1048576))) rfl rfl rfl (hD 7 18 (by kernel_rfl)) (fun hb => f_call (o := ⟨some 20, _, _, _, _, _⟩) 33 #[.int .i64 s] rfl (wanted_b rfl rfl (hD 7 18 (by kernel_rfl)) (eq_true_of hb)) (exec_call 33 _ [.tmp 19] _ [.int .i64 s] Try.func33 (by kernel_rfl) (by kernel_rfl) rfl (show [a.eval (.tmp 19)] = [.int .i64 s] from (by rw [show a.eval (.tmp 19) = .int .i64 s from ((hD 8 19 (by kernel_rfl)).1 hb)] <;> rfl)) u) (side_any s u))) ?_
        refine fsteps_cons 11 rfl (fun a u hE hD hk => f_as (show ((((thB (m : Int) (j : Int)) && (wiB q 1 1048576)) && (sdB s)) : Bool) = true from H1.out) (f_val (o := ⟨some 21, _, _, _, _, _⟩) (.bool (((thB (m : Int) (j : Int)) && (wiB q 1 1048576)) && (sdB s))) rfl (wanted_none rfl _) (exec_pickand (.tmp 18) (.tmp 20) (.const (.bool false)) (((thB (m : Int) (j : Int)) && (wiB q 1 1048576))) ((sdB s)) rfl (hD 7 18 (by kernel_rfl)) (fun hb2 => ((hD 9 20 (by kernel_rfl)).1 hb2)) rfl) rfl)) ?_
        refine sv 12 rfl rfl rfl (fun a u hE hD hk => exec_move (.tmp 21) _ rfl (hD 10 21 (by kernel_rfl))) ?_
        refine fsteps_cons 13 rfl (fun a u hE hD hk => f_val (o := ⟨some 23, _, _, _, _, _⟩) (.pointer (some ⟨g, 0, none⟩)) rfl (wanted_at (b := true) true rfl rfl (hD 11 22 (by kernel_rfl))) (exec_move (.tmp 0) _ rfl (hE 0 (.pointer (some ⟨g, 0, none⟩)) (by kernel_rfl) (by kernel_rfl))) rfl) ?_
        refine fsteps_cons 14 rfl (fun a u hE hD hk => f_val (o := ⟨some 24, _, _, _, _, _⟩) (.int .i64 (m : Int)) rfl (wanted_at (b := true) true rfl rfl (hD 11 22 (by kernel_rfl))) (exec_move (.tmp 1) _ rfl (hE 1 (.int .i64 (m : Int)) (by kernel_rfl) (by kernel_rfl))) rfl) ?_
        refine fsteps_cons 15 rfl (fun a u hE hD hk => f_val (o := ⟨some 25, _, _, _, _, _⟩) (.int .i64 (j : Int)) rfl (wanted_at (b := true) true rfl rfl (hD 11 22 (by kernel_rfl))) (exec_move (.tmp 2) _ rfl (hE 2 (.int .i64 (j : Int)) (by kernel_rfl) (by kernel_rfl))) rfl) ?_
        refine fsteps_cons 16 rfl (fun a u hE hD hk => f_val (o := ⟨some 26, _, _, _, _, _⟩) (.pointer (some ⟨g, 0, none⟩)) rfl (wanted_at (b := true) true rfl rfl (hD 11 22 (by kernel_rfl))) (exec_nilp (.tmp 23) ⟨g, 0, none⟩ rfl (hD 12 23 (by kernel_rfl))) rfl) ?_
        refine fsteps_cons 17 rfl (fun a u hE hD hk => f_val (o := ⟨some 27, _, _, _, _, _⟩) (.pointer (some ⟨g, 256, none⟩)) rfl (wanted_at (b := true) true rfl rfl (hD 11 22 (by kernel_rfl))) (exec_fldo 53 1 256 (.tmp 26) (g) (0) (256) rfl (hD 15 26 (by kernel_rfl)) (by kernel_rfl) rfl) rfl) ?_
        refine fsteps_cons 18 rfl (fun a u hE hD hk => f_val (o := ⟨some 28, _, _, _, _, _⟩) (.pointer (some ⟨g, 256 + m * 8, none⟩)) rfl (wanted_at (b := true) true rfl rfl (hD 11 22 (by kernel_rfl))) (exec_ixK 8 51 38 32 (.tmp 27) (.tmp 24) (g) (256) (256 + m * 8) m ((m : Int)) rfl Try.underlying51 (by kernel_rfl) (hD 16 27 (by kernel_rfl)) (hD 13 24 (by kernel_rfl)) (by first | rfl | omega) (hm) (by first | rfl | omega)) rfl) ?_
        refine fsteps_cons 19 rfl (fun a u hE hD hk => f_val (o := ⟨some 29, _, _, _, _, _⟩) (.pointer (some ⟨g, 256 + m * 8 + j, none⟩)) rfl (wanted_at (b := true) true rfl rfl (hD 11 22 (by kernel_rfl))) (exec_ixK 1 38 3 8 (.tmp 28) (.tmp 25) (g) (256 + m * 8) (256 + m * 8 + j) j ((j : Int)) rfl Try.underlying38 (by kernel_rfl) (hD 17 28 (by kernel_rfl)) (hD 14 25 (by kernel_rfl)) (by first | rfl | omega) (hj) (by first | rfl | omega)) rfl) ?_
        refine fsteps_cons 20 rfl (fun a u hE hD hk => f_val (o := ⟨some 30, _, _, _, _, _⟩) (.int .i64 s) rfl (wanted_at (b := true) true rfl rfl (hD 11 22 (by kernel_rfl))) (exec_move (.tmp 3) _ rfl (hE 3 (.int .i64 s) (by kernel_rfl) (by kernel_rfl))) rfl) ?_
        refine fsteps_cons 21 rfl (fun a u hE hD hk => f_val (o := ⟨some 31, _, _, _, _, _⟩) (.int .i64 q) rfl (wanted_at (b := true) true rfl rfl (hD 11 22 (by kernel_rfl))) (exec_move (.tmp 4) _ rfl (hE 4 (.int .i64 q) (by kernel_rfl) (by kernel_rfl))) rfl) ?_
        refine fsteps_cons 22 rfl (fun a u hE hD hk => f_call (o := ⟨some 32, _, _, _, _, _⟩) 34 #[.int .i64 s, .int .i64 q] rfl (wanted_at (b := true) true rfl rfl (hD 11 22 (by kernel_rfl))) (exec_call 34 _ [.tmp 30, .tmp 31] _ [.int .i64 s, .int .i64 q] Try.func34 (by kernel_rfl) (by kernel_rfl) rfl (show [a.eval (.tmp 30), a.eval (.tmp 31)] = [.int .i64 s, .int .i64 q] from (by rw [show a.eval (.tmp 30) = .int .i64 s from (hD 19 30 (by kernel_rfl)), show a.eval (.tmp 31) = .int .i64 q from (hD 20 31 (by kernel_rfl))] <;> rfl)) u) (by rw [← HV.out]; exact signed_any s q hq u)) ?_
        exact fsteps_nil
      intro gv wa hV ka
      rw [show dstsOf _ 22 = [11, 12, 13, 14, 15, 16, 17, 18, 19, 20, 21, 22, 23, 24, 25, 26, 27, 28, 29, 30, 31, 32] by kernel_rfl]
      simp only [List.foldl_cons, List.foldl_nil, List.setIfInBounds_toArray, List.set_cons_succ, List.set_cons_zero, List.drop_succ_cons, List.drop_zero]
      rw [show gv 29 = .pointer (some ⟨g, 256 + m * 8 + j, none⟩) from hV 18 29 (by kernel_rfl)]
      rw [show gv 32 = .int .i64 V from hV 21 32 (by kernel_rfl)]
      rw [show gv 22 = .bool true from hV 11 22 (by kernel_rfl)]
      clear hV
      refine l_call (o := ⟨some 33, _, _, _, _, _⟩) 32 #[.pointer (some ⟨g, 256 + m * 8 + j, none⟩), .int .i64 V, .int .i64 (-1099511627776), .int .i64 1099511627776] rfl (exec_call 32 _ [.tmp 29, .tmp 32, .const (.int .i64 (-1099511627776)), .const (.int .i64 1099511627776)] _ _ Try.func32 (by kernel_rfl) (by kernel_rfl) rfl (by kernel_rfl) _) ?_
      refine (add_no g (256 + m * 8 + j) (B.p m j) V (-1099511627776) 1099511627776 wa (((HB.out.kept ka).cell _).trans HX.out) (by omega) (by omega) H2.out).mono ?_
      rintro e w2 ⟨rfl, k2⟩
      refine ⟨_, rfl, ?_⟩
      simp only [Act.put, List.setIfInBounds_toArray, List.set_cons_succ, List.set_cons_zero]
      refine l_val (o := ⟨some 34, _, _, _, _, _⟩) (.bool false) rfl (exec_pick (.tmp 22) (.tmp 33) (.const (.bool false)) (.bool false) rfl (by kernel_rfl) (by kernel_rfl)) ?_
      simp only [Act.put, List.setIfInBounds_toArray, List.set_cons_succ, List.set_cons_zero]
      refine l_val (o := ⟨some 10, _, _, _, _, _⟩) (.bool false) rfl (exec_assign (.tmp 34) (.bool false) rfl (by kernel_rfl)) ?_
      simp only [Act.put, List.setIfInBounds_toArray, List.set_cons_succ, List.set_cons_zero]
      refine wpList_nil ?_
      have kw := ka.trans k2
      have HB2 := HB.out.kept kw
      have kz : Keep (· = g) w w2 := kw.mono fun _ _ h => h.elim
      go_wp2
      go_ret
      exact ⟨rfl, HB2, kz⟩
    | true =>
      rw [wiB_iff] at h2
      obtain ⟨h2a, h2b⟩ := h2
      obtain ⟨e1, e2⟩ := tr_in hm hj hq.1 hq.2 hs h2a h2b
      rw [e1, e2]
      obtain ⟨cs, hcs⟩ : ∃ cs, (Bal.mk B.o (upd B.p m j (B.p m j + sgn s q))).lc = cs := ⟨_, rfl⟩
      rw [hcs]
      have HS : Hid (B.lc.set (256 + m * 8 + j) (.int .i64 (B.p m j + sgn s q)) = cs) := by show _ = _; rw [← hcs]; exact lc_setP B hm hj _
      clear e1 e2 hcs
      obtain ⟨V, hV⟩ : ∃ V, sgn s q = V := ⟨_, rfl⟩
      have HV := Lib.hid hV
      rw [hV] at h2a h2b HS hsg
      clear hV
      go_enter Try.func18, Try.ntmps18
      go_upto_region 1 with fail
      refine wp_free 22 [.eq (.int .i64 (m : Int)), .eq (.int .i64 (j : Int)), .eq (.bool (thB (m : Int) (j : Int))), .eq (.bool (thB (m : Int) (j : Int))), .cond (thB (m : Int) (j : Int)) (.eq (.int .i64 q)), .cond (thB (m : Int) (j : Int)) (.eq (.bool (wiB q 1 1048576))), .eq (.bool ((thB (m : Int) (j : Int)) && (wiB q 1 1048576))), .eq (.bool ((thB (m : Int) (j : Int)) && (wiB q 1 1048576))), .cond ((thB (m : Int) (j : Int)) && (wiB q 1 1048576)) (.eq (.int .i64 s)), .cond ((thB (m : Int) (j : Int)) && (wiB q 1 1048576)) (.eq (.bool (sdB s))), .eq (.bool true), .eq (.bool true), .eq (.pointer (some ⟨g, 0, none⟩)), .eq (.int .i64 (m : Int)), .eq (.int .i64 (j : Int)), .eq (.pointer (some ⟨g, 0, none⟩)), .eq (.pointer (some ⟨g, 256, none⟩)), .eq (.pointer (some ⟨g, 256 + m * 8, none⟩)), .eq (.pointer (some ⟨g, 256 + m * 8 + j, none⟩)), .eq (.int .i64 s), .eq (.int .i64 q), .eq (.int .i64 V)] (by kernel_rfl) rfl (by kernel_rfl) ?_ ?_
      · refine sv 1 rfl rfl rfl (fun a u hE hD hk => exec_move (.tmp 1) _ rfl (hE 1 (.int .i64 (m : Int)) (by kernel_rfl) (by kernel_rfl))) ?_
        refine sv 2 rfl rfl rfl (fun a u hE hD hk => exec_move (.tmp 2) _ rfl (hE 2 (.int .i64 (j : Int)) (by kernel_rfl) (by kernel_rfl))) ?_
        refine fsteps_cons 3 rfl (fun a u hE hD hk => f_call (o := ⟨some 13, _, _, _, _, _⟩) 30 #[.int .i64 (m : Int), .int .i64 (j : Int)] rfl (wanted_none rfl _) (exec_call 30 _ [.tmp 11, .tmp 12] _ [.int .i64 (m : Int), .int .i64 (j : Int)] Try.func30 (by kernel_rfl) (by kernel_rfl) rfl (show [a.eval (.tmp 11), a.eval (.tmp 12)] = [.int .i64 (m : Int), .int .i64 (j : Int)] from (by rw [show a.eval (.tmp 11) = .int .i64 (m : Int) from (hD 0 11 (by kernel_rfl)), show a.eval (.tmp 12) = .int .i64 (j : Int) from (hD 1 12 (by kernel_rfl))] <;> rfl)) u) (place_any _ _ u)) ?_
        refine sv 4 rfl rfl rfl (fun a u hE hD hk => exec_move (.tmp 13) _ rfl (hD 2 13 (by kernel_rfl))) ?_
        refine fsteps_cons 5 rfl (fun a u hE hD hk => f_if ((thB (m : Int) (j : Int))) rfl rfl rfl (hD 3 14 (by kernel_rfl)) (fun hb => f_val (o := ⟨some 15, _, _, _, _, _⟩) (.int .i64 q) rfl (wanted_b rfl rfl (hD 3 14 (by kernel_rfl)) (eq_true_of hb)) (exec_move (.tmp 4) _ rfl (hE 4 (.int .i64 q) (by kernel_rfl) (by kernel_rfl))) rfl)) ?_
        refine fsteps_cons 6 rfl (fun a u hE hD hk => f_if ((thB (m : Int) (j : Int))) rfl rfl rfl (hD 3 14 (by kernel_rfl)) (fun hb => f_call (o := ⟨some 16, _, _, _, _, _⟩) 31 #[.int .i64 q, .int .i64 1, .int .i64 1048576] rfl (wanted_b rfl rfl (hD 3 14 (by kernel_rfl)) (eq_true_of hb)) (exec_call 31 _ [.tmp 15, .const (.int .i64 1), .const (.int .i64 1048576)] _ [.int .i64 q, .int .i64 1, .int .i64 1048576] Try.func31 (by kernel_rfl) (by kernel_rfl) rfl (show [a.eval (.tmp 15), a.eval (.const (.int .i64 1)), a.eval (.const (.int .i64 1048576))] = [.int .i64 q, .int .i64 1, .int .i64 1048576] from (by rw [show a.eval (.tmp 15) = .int .i64 q from ((hD 4 15 (by kernel_rfl)).1 hb)] <;> rfl)) u) (within_i q 1 1048576 u))) ?_
        refine sv 7 rfl rfl rfl (fun a u hE hD hk => exec_pickand (.tmp 14) (.tmp 16) (.const (.bool false)) ((thB (m : Int) (j : Int))) ((wiB q 1 1048576)) rfl (hD 3 14 (by kernel_rfl)) (fun hb2 => ((hD 5 16 (by kernel_rfl)).1 hb2)) rfl) ?_
        refine sv 8 rfl rfl rfl (fun a u hE hD hk => exec_move (.tmp 17) _ rfl (hD 6 17 (by kernel_rfl))) ?_
        refine fsteps_cons 9 rfl (fun a u hE hD hk => f_if (((thB (m : Int) (j : Int)) && (wiB q 1 1048576))) rfl rfl rfl (hD 7 18 (by kernel_rfl)) (fun hb => f_val (o := ⟨some 19, _, _, _, _, _⟩) (.int .i64 s) rfl (wanted_b rfl rfl (hD 7 18 (by kernel_rfl)) (eq_true_of hb)) (exec_move (.tmp 3) _ rfl (hE 3 (.int .i64 s) (by kernel_rfl) (by kernel_rfl))) rfl)) ?_
        refine fsteps_cons 10 rfl (fun a u hE hD hk => f_if (((thB (m : Int) (j : Int)) && (wiB q 1 1048576))) rfl rfl rfl (hD 7 18 (by kernel_rfl)) (fun hb => f_call (o := ⟨some 20, _, _, _, _, _⟩) 33 #[.int .i64 s] rfl (wanted_b rfl rfl (hD 7 18 (by kernel_rfl)) (eq_true_of hb)) (exec_call 33 _ [.tmp 19] _ [.int .i64 s] Try.func33 (by kernel_rfl) (by kernel_rfl) rfl (show [a.eval (.tmp 19)] = [.int .i64 s] from (by rw [show a.eval (.tmp 19) = .int .i64 s from ((hD 8 19 (by kernel_rfl)).1 hb)] <;> rfl)) u) (side_any s u))) ?_
        refine fsteps_cons 11 rfl (fun a u hE hD hk => f_as (show ((((thB (m : Int) (j : Int)) && (wiB q 1 1048576)) && (sdB s)) : Bool) = true from H1.out) (f_val (o := ⟨some 21, _, _, _, _, _⟩) (.bool (((thB (m : Int) (j : Int)) && (wiB q 1 1048576)) && (sdB s))) rfl (wanted_none rfl _) (exec_pickand (.tmp 18) (.tmp 20) (.const (.bool false)) (((thB (m : Int) (j : Int)) && (wiB q 1 1048576))) ((sdB s)) rfl (hD 7 18 (by kernel_rfl)) (fun hb2 => ((hD 9 20 (by kernel_rfl)).1 hb2)) rfl) rfl)) ?_
        refine sv 12 rfl rfl rfl (fun a u hE hD hk => exec_move (.tmp 21) _ rfl (hD 10 21 (by kernel_rfl))) ?_
        refine fsteps_cons 13 rfl (fun a u hE hD hk => f_val (o := ⟨some 23, _, _, _, _, _⟩) (.pointer (some ⟨g, 0, none⟩)) rfl (wanted_at (b := true) true rfl rfl (hD 11 22 (by kernel_rfl))) (exec_move (.tmp 0) _ rfl (hE 0 (.pointer (some ⟨g, 0, none⟩)) (by kernel_rfl) (by kernel_rfl))) rfl) ?_
        refine fsteps_cons 14 rfl (fun a u hE hD hk => f_val (o := ⟨some 24, _, _, _, _, _⟩) (.int .i64 (m : Int)) rfl (wanted_at (b := true) true rfl rfl (hD 11 22 (by kernel_rfl))) (exec_move (.tmp 1) _ rfl (hE 1 (.int .i64 (m : Int)) (by kernel_rfl) (by kernel_rfl))) rfl) ?_
        refine fsteps_cons 15 rfl (fun a u hE hD hk => f_val (o := ⟨some 25, _, _, _, _, _⟩) (.int .i64 (j : Int)) rfl (wanted_at (b := true) true rfl rfl (hD 11 22 (by kernel_rfl))) (exec_move (.tmp 2) _ rfl (hE 2 (.int .i64 (j : Int)) (by kernel_rfl) (by kernel_rfl))) rfl) ?_
        refine fsteps_cons 16 rfl (fun a u hE hD hk => f_val (o := ⟨some 26, _, _, _, _, _⟩) (.pointer (some ⟨g, 0, none⟩)) rfl (wanted_at (b := true) true rfl rfl (hD 11 22 (by kernel_rfl))) (exec_nilp (.tmp 23) ⟨g, 0, none⟩ rfl (hD 12 23 (by kernel_rfl))) rfl) ?_
        refine fsteps_cons 17 rfl (fun a u hE hD hk => f_val (o := ⟨some 27, _, _, _, _, _⟩) (.pointer (some ⟨g, 256, none⟩)) rfl (wanted_at (b := true) true rfl rfl (hD 11 22 (by kernel_rfl))) (exec_fldo 53 1 256 (.tmp 26) (g) (0) (256) rfl (hD 15 26 (by kernel_rfl)) (by kernel_rfl) rfl) rfl) ?_
        refine fsteps_cons 18 rfl (fun a u hE hD hk => f_val (o := ⟨some 28, _, _, _, _, _⟩) (.pointer (some ⟨g, 256 + m * 8, none⟩)) rfl (wanted_at (b := true) true rfl rfl (hD 11 22 (by kernel_rfl))) (exec_ixK 8 51 38 32 (.tmp 27) (.tmp 24) (g) (256) (256 + m * 8) m ((m : Int)) rfl Try.underlying51 (by kernel_rfl) (hD 16 27 (by kernel_rfl)) (hD 13 24 (by kernel_rfl)) (by first | rfl | omega) (hm) (by first | rfl | omega)) rfl) ?_
        refine fsteps_cons 19 rfl (fun a u hE hD hk => f_val (o := ⟨some 29, _, _, _, _, _⟩) (.pointer (some ⟨g, 256 + m * 8 + j, none⟩)) rfl (wanted_at (b := true) true rfl rfl (hD 11 22 (by kernel_rfl))) (exec_ixK 1 38 3 8 (.tmp 28) (.tmp 25) (g) (256 + m * 8) (256 + m * 8 + j) j ((j : Int)) rfl Try.underlying38 (by kernel_rfl) (hD 17 28 (by kernel_rfl)) (hD 14 25 (by kernel_rfl)) (by first | rfl | omega) (hj) (by first | rfl | omega)) rfl) ?_
        refine fsteps_cons 20 rfl (fun a u hE hD hk => f_val (o := ⟨some 30, _, _, _, _, _⟩) (.int .i64 s) rfl (wanted_at (b := true) true rfl rfl (hD 11 22 (by kernel_rfl))) (exec_move (.tmp 3) _ rfl (hE 3 (.int .i64 s) (by kernel_rfl) (by kernel_rfl))) rfl) ?_
        refine fsteps_cons 21 rfl (fun a u hE hD hk => f_val (o := ⟨some 31, _, _, _, _, _⟩) (.int .i64 q) rfl (wanted_at (b := true) true rfl rfl (hD 11 22 (by kernel_rfl))) (exec_move (.tmp 4) _ rfl (hE 4 (.int .i64 q) (by kernel_rfl) (by kernel_rfl))) rfl) ?_
        refine fsteps_cons 22 rfl (fun a u hE hD hk => f_call (o := ⟨some 32, _, _, _, _, _⟩) 34 #[.int .i64 s, .int .i64 q] rfl (wanted_at (b := true) true rfl rfl (hD 11 22 (by kernel_rfl))) (exec_call 34 _ [.tmp 30, .tmp 31] _ [.int .i64 s, .int .i64 q] Try.func34 (by kernel_rfl) (by kernel_rfl) rfl (show [a.eval (.tmp 30), a.eval (.tmp 31)] = [.int .i64 s, .int .i64 q] from (by rw [show a.eval (.tmp 30) = .int .i64 s from (hD 19 30 (by kernel_rfl)), show a.eval (.tmp 31) = .int .i64 q from (hD 20 31 (by kernel_rfl))] <;> rfl)) u) (by rw [← HV.out]; exact signed_any s q hq u)) ?_
        exact fsteps_nil
      intro gv wa hV ka
      rw [show dstsOf _ 22 = [11, 12, 13, 14, 15, 16, 17, 18, 19, 20, 21, 22, 23, 24, 25, 26, 27, 28, 29, 30, 31, 32] by kernel_rfl]
      simp only [List.foldl_cons, List.foldl_nil, List.setIfInBounds_toArray, List.set_cons_succ, List.set_cons_zero, List.drop_succ_cons, List.drop_zero]
      rw [show gv 29 = .pointer (some ⟨g, 256 + m * 8 + j, none⟩) from hV 18 29 (by kernel_rfl)]
      rw [show gv 32 = .int .i64 V from hV 21 32 (by kernel_rfl)]
      rw [show gv 22 = .bool true from hV 11 22 (by kernel_rfl)]
      clear hV
      refine l_call (o := ⟨some 33, _, _, _, _, _⟩) 32 #[.pointer (some ⟨g, 256 + m * 8 + j, none⟩), .int .i64 V, .int .i64 (-1099511627776), .int .i64 1099511627776] rfl (exec_call 32 _ [.tmp 29, .tmp 32, .const (.int .i64 (-1099511627776)), .const (.int .i64 1099511627776)] _ _ Try.func32 (by kernel_rfl) (by kernel_rfl) rfl (by kernel_rfl) _) ?_
      refine (add_yes g (256 + m * 8 + j) _ B.lc cs (B.p m j) V (-1099511627776) 1099511627776 wa (HB.out.kept ka) HX.out HS.out (by omega) (by omega) (wiB_iff.2 ⟨h2a, h2b⟩)).mono ?_
      rintro e w2 ⟨rfl, hB2, k2⟩
      refine ⟨_, rfl, ?_⟩
      simp only [Act.put, List.setIfInBounds_toArray, List.set_cons_succ, List.set_cons_zero]
      refine l_val (o := ⟨some 34, _, _, _, _, _⟩) (.bool true) rfl (exec_pick (.tmp 22) (.tmp 33) (.const (.bool false)) (.bool true) rfl (by kernel_rfl) (by kernel_rfl)) ?_
      simp only [Act.put, List.setIfInBounds_toArray, List.set_cons_succ, List.set_cons_zero]
      refine l_val (o := ⟨some 10, _, _, _, _, _⟩) (.bool true) rfl (exec_assign (.tmp 34) (.bool true) rfl (by kernel_rfl)) ?_
      simp only [Act.put, List.setIfInBounds_toArray, List.set_cons_succ, List.set_cons_zero]
      refine wpList_nil ?_
      have kz : Keep (· = g) w w2 := (ka.mono fun _ _ h => h.elim).trans k2 (fun _ _ h => h)
      go_wp2
      go_ret
      exact ⟨rfl, hB2, kz⟩
theorem new_any (b : Nat) (w : World) (hb : b ≤ w.heap.size) : Gives 9 #[] w (.fresh b 53 zeroB.lc) := by
  unfold Gives
  obtain ⟨cs, hcs⟩ : ∃ cs, zeroB.lc = cs := ⟨_, rfl⟩
  have HZ := Lib.hid hcs
  rw [hcs]
  clear hcs
  go_enter Try.func9, Try.ntmps9
  go_upto_region 1 with fail
  refine wp_region_lit ?_
  refine l_val (o := ⟨some 1, _, _, _, _, _⟩) (.agg cs.toArray) rfl (by rw [← HZ.out]; exact exec_build 53 [] zeroB.lc rfl (by kernel_rfl)) ?_
  simp only [Act.put, List.setIfInBounds_toArray, List.set_cons_succ, List.set_cons_zero]
  refine l_new (o := ⟨some 2, _, _, _, _, _⟩) (.pointer (some ⟨w.heap.size, 0, none⟩)) (w.alloc (.cells cs.toArray 53)) rfl (exec_box 53 (.tmp 1) cs rfl (by kernel_rfl)) ?_
  have hB0 := Blk.new w 53 cs
  have k0 : Kept w (w.alloc (.cells cs.toArray 53)) := (Keep.refl _ w).alloc _
  generalize w.alloc (.cells cs.toArray 53) = w0 at hB0 k0 ⊢
  simp only [Act.put, List.setIfInBounds_toArray, List.set_cons_succ, List.set_cons_zero]
  refine l_val (o := ⟨some 0, _, _, _, _, _⟩) (.pointer (some ⟨w.heap.size, 0, none⟩)) rfl (exec_assign (.tmp 2) (.pointer (some ⟨w.heap.size, 0, none⟩)) rfl (by kernel_rfl)) ?_
  simp only [Act.put, List.setIfInBounds_toArray, List.set_cons_zero]
  refine wpList_nil ?_
  go_wp2
  go_ret
  exact ⟨_, rfl, ⟨_, rfl, hb, hB0⟩, k0⟩
end Go.Proofs.Ytgajdkelpaaadaa
