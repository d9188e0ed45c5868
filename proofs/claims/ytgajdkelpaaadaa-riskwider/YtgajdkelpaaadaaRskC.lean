/-
  The contracts of package risk. Conditions: accounts in memory; what is open is from 0 to MaxTick, each position from -MaxTick to MaxTick; an order's numbers are ints.
-/
import Derived.Test.YtgajdkelpaaadaaRskM
import Derived.Test.YtgajdkelpaaadaaAcC
import Derived.Test.YtgajdkelpaaadaaOrdF
import Derived.Test.YtgajdkelpaaadaaSegEx
namespace Go.Proofs.Ytgajdkelpaaadaa
open Go.RowKit
set_option linter.unusedVariables false
set_option maxRecDepth 100000

theorem kwithin_i (n lo hi : Int) (w : World) : Gives 20 #[.int .i64 n, .int .i64 lo, .int .i64 hi] w (.eq (.bool (wiB n lo hi))) := by
  refine gives_eq ?_
  go_enter Try.func20, Try.ntmps20
  go_upto_region 1 with fail
  refine wp_text 9 [.eq (.int .i64 lo), .eq (.int .i64 n), .eq (.bool (decide ((lo : Int) ≤ (n : Int)))), .eq (.bool (decide ((lo : Int) ≤ (n : Int)))), .cond (decide ((lo : Int) ≤ (n : Int))) (.eq (.int .i64 n)), .cond (decide ((lo : Int) ≤ (n : Int))) (.eq (.int .i64 hi)), .cond (decide ((lo : Int) ≤ (n : Int))) (.eq (.bool (decide ((n : Int) ≤ (hi : Int))))), .eq (.bool ((decide ((lo : Int) ≤ (n : Int))) && (decide ((n : Int) ≤ (hi : Int))))), .eq (.bool ((decide ((lo : Int) ≤ (n : Int))) && (decide ((n : Int) ≤ (hi : Int)))))] rfl (by kernel_rfl) ?_ ?_
  · refine sv 1 rfl rfl rfl (fun a u hE hD hk => exec_move (.tmp 1) _ rfl (hE 1 (.int .i64 lo) (by kernel_rfl) (by kernel_rfl))) ?_
    refine sv 2 rfl rfl rfl (fun a u hE hD hk => exec_move (.tmp 0) _ rfl (hE 0 (.int .i64 n) (by kernel_rfl) (by kernel_rfl))) ?_
    refine sv 3 rfl rfl rfl (fun a u hE hD hk => exec_len_ (p := lo) (q := n) rfl (hD 0 7 (by kernel_rfl)) (hD 1 8 (by kernel_rfl))) ?_
    refine sv 4 rfl rfl rfl (fun a u hE hD hk => exec_move (.tmp 9) _ rfl (hD 2 9 (by kernel_rfl))) ?_
    refine fsteps_cons 5 rfl (fun a u hE hD hk => f_if ((decide ((lo : Int) ≤ (n : Int)))) rfl rfl rfl (hD 3 10 (by kernel_rfl)) (fun hb => f_val (o := ⟨some 11, _, _, _, _, _⟩) (.int .i64 n) rfl (wanted_b rfl rfl (hD 3 10 (by kernel_rfl)) (eq_true_of hb)) (exec_move (.tmp 0) _ rfl (hE 0 (.int .i64 n) (by kernel_rfl) (by kernel_rfl))) rfl)) ?_
    refine fsteps_cons 6 rfl (fun a u hE hD hk => f_if ((decide ((lo : Int) ≤ (n : Int)))) rfl rfl rfl (hD 3 10 (by kernel_rfl)) (fun hb => f_val (o := ⟨some 12, _, _, _, _, _⟩) (.int .i64 hi) rfl (wanted_b rfl rfl (hD 3 10 (by kernel_rfl)) (eq_true_of hb)) (exec_move (.tmp 2) _ rfl (hE 2 (.int .i64 hi) (by kernel_rfl) (by kernel_rfl))) rfl)) ?_
    refine fsteps_cons 7 rfl (fun a u hE hD hk => f_if ((decide ((lo : Int) ≤ (n : Int)))) rfl rfl rfl (hD 3 10 (by kernel_rfl)) (fun hb => f_val (o := ⟨some 13, _, _, _, _, _⟩) (.bool (decide ((n : Int) ≤ (hi : Int)))) rfl (wanted_b rfl rfl (hD 3 10 (by kernel_rfl)) (eq_true_of hb)) (exec_len_ (p := n) (q := hi) rfl ((hD 4 11 (by kernel_rfl)).1 hb) ((hD 5 12 (by kernel_rfl)).1 hb)) rfl)) ?_
    refine sv 8 rfl rfl rfl (fun a u hE hD hk => exec_pickand (.tmp 10) (.tmp 13) (.const (.bool false)) ((decide ((lo : Int) ≤ (n : Int)))) ((decide ((n : Int) ≤ (hi : Int)))) rfl (hD 3 10 (by kernel_rfl)) (fun hb2 => ((hD 6 13 (by kernel_rfl)).1 hb2)) rfl) ?_
    refine sv 9 rfl rfl rfl (fun a u hE hD hk => exec_assign (.tmp 14) _ rfl (hD 7 14 (by kernel_rfl))) ?_
    exact fsteps_nil
  intro gv w0 hV k0
  rw [show dstsOf _ 9 = [7, 8, 9, 10, 11, 12, 13, 14, 6] by kernel_rfl]
  simp only [List.foldl_cons, List.foldl_nil, List.setIfInBounds_toArray, List.set_cons_succ, List.set_cons_zero, List.drop_succ_cons, List.drop_zero]
  rw [show gv 6 = .bool ((decide ((lo : Int) ≤ (n : Int))) && (decide ((n : Int) ≤ (hi : Int)))) from hV 8 6 (by kernel_rfl)]
  clear hV
  refine wpList_nil ?_
  go_wp2
  go_ret
  exact ⟨rfl, k0⟩
set_option maxRecDepth 100000 in
set_option maxHeartbeats 1600000 in
theorem lright_any (L : Lim) (w : World) : Gives 12 #[L.v] w (.eq (.bool L.right)) := by
  refine gives_eq ?_
  obtain ⟨b0, hb0⟩ : ∃ z, w.alloc (.cells L.cells.toArray 25) = z := ⟨_, rfl⟩
  have q0 : Kept w b0 := by rw [← hb0]; exact (Keep.refl _ _).alloc _
  have r0 : b0.rangeAt w.heap.size 0 L.cells := by rw [← hb0]; exact blk_range (Blk.new w 25 L.cells)
  have HB1 := Lib.hid (r0)
  have k0 := q0
  clear r0
  go_enter Try.func12, Try.ntmps12
  go_upto_region 0 with fail
  refine wp_region_lit ?_
  refine l_new (o := ⟨some 1, _, _, _, _, _⟩) (.pointer (some ⟨w.heap.size, 0, none⟩)) b0 rfl (by rw [← hb0]; exact exec_box 25 (.tmp 0) L.cells rfl (by kernel_rfl)) ?_
  simp only [Act.put, List.setIfInBounds_toArray, List.set_cons_succ, List.set_cons_zero]
  refine l_val (o := ⟨some 2, _, _, _, _, _⟩) (.bool false) rfl (exec_assign (.const (.bool false)) (.bool false) rfl (by kernel_rfl)) ?_
  simp only [Act.put, List.setIfInBounds_toArray, List.set_cons_succ, List.set_cons_zero]
  refine wpList_nil ?_
  obtain ⟨g1, hg1⟩ : ∃ g, w.heap.size = g := ⟨_, rfl⟩
  rw [hg1] at HB1 ⊢
  clear hg1 hb0 q0
  go_upto_region 1 with fail
  refine wp_text 19 [.eq (.pointer (some ⟨g1, 0, none⟩)), .eq (.int .i64 L.q), .eq (.bool (wiB L.q 0 1048576)), .eq (.bool (wiB L.q 0 1048576)), .cond (wiB L.q 0 1048576) (.eq (.pointer (some ⟨g1, 1, none⟩))), .cond (wiB L.q 0 1048576) (.eq (.int .i64 L.m)), .cond (wiB L.q 0 1048576) (.eq (.bool (decide ((0 : Int) ≤ (L.m : Int))))), .eq (.bool ((wiB L.q 0 1048576) && (decide ((0 : Int) ≤ (L.m : Int))))), .eq (.bool ((wiB L.q 0 1048576) && (decide ((0 : Int) ≤ (L.m : Int))))), .cond ((wiB L.q 0 1048576) && (decide ((0 : Int) ≤ (L.m : Int)))) (.eq (.pointer (some ⟨g1, 2, none⟩))), .cond ((wiB L.q 0 1048576) && (decide ((0 : Int) ≤ (L.m : Int)))) (.eq (.int .i64 L.o)), .cond ((wiB L.q 0 1048576) && (decide ((0 : Int) ≤ (L.m : Int)))) (.eq (.bool (wiB L.o 0 1099511627776))), .eq (.bool (((wiB L.q 0 1048576) && (decide ((0 : Int) ≤ (L.m : Int)))) && (wiB L.o 0 1099511627776))), .eq (.bool (((wiB L.q 0 1048576) && (decide ((0 : Int) ≤ (L.m : Int)))) && (wiB L.o 0 1099511627776))), .cond (((wiB L.q 0 1048576) && (decide ((0 : Int) ≤ (L.m : Int)))) && (wiB L.o 0 1099511627776)) (.eq (.pointer (some ⟨g1, 3, none⟩))), .cond (((wiB L.q 0 1048576) && (decide ((0 : Int) ≤ (L.m : Int)))) && (wiB L.o 0 1099511627776)) (.eq (.int .i64 L.p)), .cond (((wiB L.q 0 1048576) && (decide ((0 : Int) ≤ (L.m : Int)))) && (wiB L.o 0 1099511627776)) (.eq (.bool (wiB L.p 0 1099511627776))), .eq (.bool ((((wiB L.q 0 1048576) && (decide ((0 : Int) ≤ (L.m : Int)))) && (wiB L.o 0 1099511627776)) && (wiB L.p 0 1099511627776))), .eq (.bool ((((wiB L.q 0 1048576) && (decide ((0 : Int) ≤ (L.m : Int)))) && (wiB L.o 0 1099511627776)) && (wiB L.p 0 1099511627776)))] rfl (by kernel_rfl) ?_ ?_
  · refine sv 1 rfl rfl rfl (fun a u hE hD hk => exec_fldo 25 0 0 (.tmp 1) (g1) (0) (0) rfl (hE 1 (.pointer (some ⟨g1, 0, none⟩)) (by kernel_rfl) (by kernel_rfl)) (by kernel_rfl) rfl) ?_
    refine sv 2 rfl rfl rfl (fun a u hE hD hk => exec_loadi 3 Try.underlying3 (.tmp 3) ⟨g1, 0, none⟩ (.int .i64 L.q) rfl (hD 0 3 (by kernel_rfl)) (range_int (range_kept HB1.out hk) 0 _ rfl)) ?_
    refine fsteps_cons 3 rfl (fun a u hE hD hk => f_call (o := ⟨some 5, _, _, _, _, _⟩) 20 #[.int .i64 L.q, .int .i64 0, .int .i64 1048576] rfl (wanted_none rfl _) (exec_call 20 _ [.tmp 4, .const (.int .i64 0), .const (.int .i64 1048576)] _ [.int .i64 L.q, .int .i64 0, .int .i64 1048576] Try.func20 (by kernel_rfl) (by kernel_rfl) rfl (show [a.eval (.tmp 4), a.eval (.const (.int .i64 0)), a.eval (.const (.int .i64 1048576))] = [.int .i64 L.q, .int .i64 0, .int .i64 1048576] from (by rw [show a.eval (.tmp 4) = .int .i64 L.q from (hD 1 4 (by kernel_rfl))] <;> rfl)) u) (kwithin_i _ _ _ u)) ?_
    refine sv 4 rfl rfl rfl (fun a u hE hD hk => exec_move (.tmp 5) _ rfl (hD 2 5 (by kernel_rfl))) ?_
    refine fsteps_cons 5 rfl (fun a u hE hD hk => f_if ((wiB L.q 0 1048576)) rfl rfl rfl (hD 3 6 (by kernel_rfl)) (fun hb => f_val (o := ⟨some 7, _, _, _, _, _⟩) (.pointer (some ⟨g1, 1, none⟩)) rfl (wanted_b rfl rfl (hD 3 6 (by kernel_rfl)) (eq_true_of hb)) (exec_fldo 25 1 1 (.tmp 1) (g1) (0) (1) rfl (hE 1 (.pointer (some ⟨g1, 0, none⟩)) (by kernel_rfl) (by kernel_rfl)) (by kernel_rfl) rfl) rfl)) ?_
    refine fsteps_cons 6 rfl (fun a u hE hD hk => f_if ((wiB L.q 0 1048576)) rfl rfl rfl (hD 3 6 (by kernel_rfl)) (fun hb => f_val (o := ⟨some 8, _, _, _, _, _⟩) (.int .i64 L.m) rfl (wanted_b rfl rfl (hD 3 6 (by kernel_rfl)) (eq_true_of hb)) (exec_loadi 3 Try.underlying3 (.tmp 7) ⟨g1, 1, none⟩ (.int .i64 L.m) rfl ((hD 4 7 (by kernel_rfl)).1 hb) (range_int (range_kept HB1.out hk) 1 _ rfl)) rfl)) ?_
    refine fsteps_cons 7 rfl (fun a u hE hD hk => f_if ((wiB L.q 0 1048576)) rfl rfl rfl (hD 3 6 (by kernel_rfl)) (fun hb => f_val (o := ⟨some 9, _, _, _, _, _⟩) (.bool (decide ((0 : Int) ≤ (L.m : Int)))) rfl (wanted_b rfl rfl (hD 3 6 (by kernel_rfl)) (eq_true_of hb)) (exec_gen (p := L.m) (q := 0) rfl ((hD 5 8 (by kernel_rfl)).1 hb) rfl) rfl)) ?_
    refine sv 8 rfl rfl rfl (fun a u hE hD hk => exec_pickand (.tmp 6) (.tmp 9) (.const (.bool false)) ((wiB L.q 0 1048576)) ((decide ((0 : Int) ≤ (L.m : Int)))) rfl (hD 3 6 (by kernel_rfl)) (fun hb2 => ((hD 6 9 (by kernel_rfl)).1 hb2)) rfl) ?_
    refine sv 9 rfl rfl rfl (fun a u hE hD hk => exec_move (.tmp 10) _ rfl (hD 7 10 (by kernel_rfl))) ?_
    refine fsteps_cons 10 rfl (fun a u hE hD hk => f_if (((wiB L.q 0 1048576) && (decide ((0 : Int) ≤ (L.m : Int))))) rfl rfl rfl (hD 8 11 (by kernel_rfl)) (fun hb => f_val (o := ⟨some 12, _, _, _, _, _⟩) (.pointer (some ⟨g1, 2, none⟩)) rfl (wanted_b rfl rfl (hD 8 11 (by kernel_rfl)) (eq_true_of hb)) (exec_fldo 25 2 2 (.tmp 1) (g1) (0) (2) rfl (hE 1 (.pointer (some ⟨g1, 0, none⟩)) (by kernel_rfl) (by kernel_rfl)) (by kernel_rfl) rfl) rfl)) ?_
    refine fsteps_cons 11 rfl (fun a u hE hD hk => f_if (((wiB L.q 0 1048576) && (decide ((0 : Int) ≤ (L.m : Int))))) rfl rfl rfl (hD 8 11 (by kernel_rfl)) (fun hb => f_val (o := ⟨some 13, _, _, _, _, _⟩) (.int .i64 L.o) rfl (wanted_b rfl rfl (hD 8 11 (by kernel_rfl)) (eq_true_of hb)) (exec_loadi 3 Try.underlying3 (.tmp 12) ⟨g1, 2, none⟩ (.int .i64 L.o) rfl ((hD 9 12 (by kernel_rfl)).1 hb) (range_int (range_kept HB1.out hk) 2 _ rfl)) rfl)) ?_
    refine fsteps_cons 12 rfl (fun a u hE hD hk => f_if (((wiB L.q 0 1048576) && (decide ((0 : Int) ≤ (L.m : Int))))) rfl rfl rfl (hD 8 11 (by kernel_rfl)) (fun hb => f_call (o := ⟨some 14, _, _, _, _, _⟩) 20 #[.int .i64 L.o, .int .i64 0, .int .i64 1099511627776] rfl (wanted_b rfl rfl (hD 8 11 (by kernel_rfl)) (eq_true_of hb)) (exec_call 20 _ [.tmp 13, .const (.int .i64 0), .const (.int .i64 1099511627776)] _ [.int .i64 L.o, .int .i64 0, .int .i64 1099511627776] Try.func20 (by kernel_rfl) (by kernel_rfl) rfl (show [a.eval (.tmp 13), a.eval (.const (.int .i64 0)), a.eval (.const (.int .i64 1099511627776))] = [.int .i64 L.o, .int .i64 0, .int .i64 1099511627776] from (by rw [show a.eval (.tmp 13) = .int .i64 L.o from ((hD 10 13 (by kernel_rfl)).1 hb)] <;> rfl)) u) (kwithin_i _ _ _ u))) ?_
    refine sv 13 rfl rfl rfl (fun a u hE hD hk => exec_pickand (.tmp 11) (.tmp 14) (.const (.bool false)) (((wiB L.q 0 1048576) && (decide ((0 : Int) ≤ (L.m : Int))))) ((wiB L.o 0 1099511627776)) rfl (hD 8 11 (by kernel_rfl)) (fun hb2 => ((hD 11 14 (by kernel_rfl)).1 hb2)) rfl) ?_
    refine sv 14 rfl rfl rfl (fun a u hE hD hk => exec_move (.tmp 15) _ rfl (hD 12 15 (by kernel_rfl))) ?_
    refine fsteps_cons 15 rfl (fun a u hE hD hk => f_if ((((wiB L.q 0 1048576) && (decide ((0 : Int) ≤ (L.m : Int)))) && (wiB L.o 0 1099511627776))) rfl rfl rfl (hD 13 16 (by kernel_rfl)) (fun hb => f_val (o := ⟨some 17, _, _, _, _, _⟩) (.pointer (some ⟨g1, 3, none⟩)) rfl (wanted_b rfl rfl (hD 13 16 (by kernel_rfl)) (eq_true_of hb)) (exec_fldo 25 3 3 (.tmp 1) (g1) (0) (3) rfl (hE 1 (.pointer (some ⟨g1, 0, none⟩)) (by kernel_rfl) (by kernel_rfl)) (by kernel_rfl) rfl) rfl)) ?_
    refine fsteps_cons 16 rfl (fun a u hE hD hk => f_if ((((wiB L.q 0 1048576) && (decide ((0 : Int) ≤ (L.m : Int)))) && (wiB L.o 0 1099511627776))) rfl rfl rfl (hD 13 16 (by kernel_rfl)) (fun hb => f_val (o := ⟨some 18, _, _, _, _, _⟩) (.int .i64 L.p) rfl (wanted_b rfl rfl (hD 13 16 (by kernel_rfl)) (eq_true_of hb)) (exec_loadi 3 Try.underlying3 (.tmp 17) ⟨g1, 3, none⟩ (.int .i64 L.p) rfl ((hD 14 17 (by kernel_rfl)).1 hb) (range_int (range_kept HB1.out hk) 3 _ rfl)) rfl)) ?_
    refine fsteps_cons 17 rfl (fun a u hE hD hk => f_if ((((wiB L.q 0 1048576) && (decide ((0 : Int) ≤ (L.m : Int)))) && (wiB L.o 0 1099511627776))) rfl rfl rfl (hD 13 16 (by kernel_rfl)) (fun hb => f_call (o := ⟨some 19, _, _, _, _, _⟩) 20 #[.int .i64 L.p, .int .i64 0, .int .i64 1099511627776] rfl (wanted_b rfl rfl (hD 13 16 (by kernel_rfl)) (eq_true_of hb)) (exec_call 20 _ [.tmp 18, .const (.int .i64 0), .const (.int .i64 1099511627776)] _ [.int .i64 L.p, .int .i64 0, .int .i64 1099511627776] Try.func20 (by kernel_rfl) (by kernel_rfl) rfl (show [a.eval (.tmp 18), a.eval (.const (.int .i64 0)), a.eval (.const (.int .i64 1099511627776))] = [.int .i64 L.p, .int .i64 0, .int .i64 1099511627776] from (by rw [show a.eval (.tmp 18) = .int .i64 L.p from ((hD 15 18 (by kernel_rfl)).1 hb)] <;> rfl)) u) (kwithin_i _ _ _ u))) ?_
    refine sv 18 rfl rfl rfl (fun a u hE hD hk => exec_pickand (.tmp 16) (.tmp 19) (.const (.bool false)) ((((wiB L.q 0 1048576) && (decide ((0 : Int) ≤ (L.m : Int)))) && (wiB L.o 0 1099511627776))) ((wiB L.p 0 1099511627776)) rfl (hD 13 16 (by kernel_rfl)) (fun hb2 => ((hD 16 19 (by kernel_rfl)).1 hb2)) rfl) ?_
    refine sv 19 rfl rfl rfl (fun a u hE hD hk => exec_assign (.tmp 20) _ rfl (hD 17 20 (by kernel_rfl))) ?_
    exact fsteps_nil
  intro gv w1 hV k1
  rw [show dstsOf _ 19 = [3, 4, 5, 6, 7, 8, 9, 10, 11, 12, 13, 14, 15, 16, 17, 18, 19, 20, 2] by kernel_rfl]
  simp only [List.foldl_cons, List.foldl_nil, List.setIfInBounds_toArray, List.set_cons_succ, List.set_cons_zero, List.drop_succ_cons, List.drop_zero]
  rw [show gv 2 = .bool ((((wiB L.q 0 1048576) && (decide ((0 : Int) ≤ (L.m : Int)))) && (wiB L.o 0 1099511627776)) && (wiB L.p 0 1099511627776)) from hV 18 2 (by kernel_rfl)]
  clear hV
  refine wpList_nil ?_
  have kw := k0.trans k1
  go_wp2
  go_ret
  exact ⟨rfl, kw⟩
set_option maxRecDepth 100000 in
set_option maxHeartbeats 1600000 in
theorem worth_any (c : Ord) (m : Int) (hp : In64 c.price) (hq : In64 c.qty) (w : World) : Gives 21 #[c.v, .int .i64 m] w (.eq (.bool (c.worth m))) := by
  refine gives_eq ?_
  have HV := Lib.hid fun u => value_any c hp hq u
  clear hp hq
  unfold Ord.worth
  generalize timesM c.price c.qty = V at HV ⊢
  obtain ⟨x, y⟩ := V
  dsimp only
  obtain ⟨b0, hb0⟩ : ∃ z, w.alloc (.cells c.cells.toArray 29) = z := ⟨_, rfl⟩
  have q0 : Kept w b0 := by rw [← hb0]; exact (Keep.refl _ _).alloc _
  have r0 : b0.rangeAt w.heap.size 0 c.cells := by rw [← hb0]; exact blk_range (Blk.new w 29 c.cells)
  have HB2 := Lib.hid (r0)
  have k0 := q0
  clear r0
  go_enter Try.func21, Try.ntmps21
  go_upto_region 0 with fail
  refine wp_region_lit ?_
  refine l_new (o := ⟨some 2, _, _, _, _, _⟩) (.pointer (some ⟨w.heap.size, 0, none⟩)) b0 rfl (by rw [← hb0]; exact exec_box 29 (.tmp 0) c.cells rfl (by kernel_rfl)) ?_
  simp only [Act.put, List.setIfInBounds_toArray, List.set_cons_succ, List.set_cons_zero]
  refine l_val (o := ⟨some 4, _, _, _, _, _⟩) (.bool false) rfl (exec_assign (.const (.bool false)) (.bool false) rfl (by kernel_rfl)) ?_
  simp only [Act.put, List.setIfInBounds_toArray, List.set_cons_succ, List.set_cons_zero]
  refine wpList_nil ?_
  obtain ⟨g2, hg2⟩ : ∃ g, w.heap.size = g := ⟨_, rfl⟩
  rw [hg2] at HB2 ⊢
  clear hg2 hb0 q0
  go_upto_region 1 with fail
  refine wp_text 7 [.eq (c.v), .eq (.tuple #[.int .i64 x, .int .i64 y]), .eq (.tuple #[.int .i64 x, .int .i64 y]), .eq (.int .i64 x), .eq (.int .i64 y), .eq (.int .i64 x), .eq (.int .i64 y)] rfl (by kernel_rfl) ?_ ?_
  · refine sv 1 rfl rfl rfl (fun a u hE hD hk => exec_ldS 29 _ (.tmp 2) (g2) (0) (c.cells) rfl (hE 2 (.pointer (some ⟨g2, 0, none⟩)) (by kernel_rfl) (by kernel_rfl)) (range_kept HB2.out hk) Try.underlying29 (by rw [c.len9]; exact ord_size)) ?_
    refine fsteps_cons 2 rfl (fun a u hE hD hk => f_call (o := ⟨some 9, _, _, _, _, _⟩) 39 #[c.v] rfl (wanted_none rfl _) (exec_call 39 _ [.tmp 8] _ [c.v] Try.func39 (by kernel_rfl) (by kernel_rfl) rfl (show [a.eval (.tmp 8)] = [c.v] from (by rw [show a.eval (.tmp 8) = c.v from (hD 0 8 (by kernel_rfl))] <;> rfl)) u) (HV.out u)) ?_
    refine sv 3 rfl rfl rfl (fun a u hE hD hk => exec_move (.tmp 9) _ rfl (hD 1 9 (by kernel_rfl))) ?_
    refine sv 4 rfl rfl rfl (fun a u hE hD hk => exec_extract (.tmp 7) [.int .i64 x, .int .i64 y] 0 _ rfl (hD 2 7 (by kernel_rfl)) rfl) ?_
    refine sv 5 rfl rfl rfl (fun a u hE hD hk => exec_extract (.tmp 7) [.int .i64 x, .int .i64 y] 1 _ rfl (hD 2 7 (by kernel_rfl)) rfl) ?_
    refine sv 6 rfl rfl rfl (fun a u hE hD hk => exec_assign (.tmp 10) _ rfl (hD 3 10 (by kernel_rfl))) ?_
    refine sv 7 rfl rfl rfl (fun a u hE hD hk => exec_assign (.tmp 11) _ rfl (hD 4 11 (by kernel_rfl))) ?_
    exact fsteps_nil
  intro gv w1 hV k1
  rw [show dstsOf _ 7 = [8, 9, 7, 10, 11, 5, 6] by kernel_rfl]
  simp only [List.foldl_cons, List.foldl_nil, List.setIfInBounds_toArray, List.set_cons_succ, List.set_cons_zero, List.drop_succ_cons, List.drop_zero]
  rw [show gv 5 = .int .i64 x from hV 5 5 (by kernel_rfl)]
  rw [show gv 6 = .int .i64 y from hV 6 6 (by kernel_rfl)]
  clear hV
  refine wpList_nil ?_
  go_upto_region 2 with fail
  refine wp_text 8 [.eq (.int .i64 y), .eq (.bool (decide ((y : Int) ≠ (0 : Int)))), .eq (.bool (decide ((y : Int) ≠ (0 : Int)))), .cond (!(decide ((y : Int) ≠ (0 : Int)))) (.eq (.int .i64 x)), .cond (!(decide ((y : Int) ≠ (0 : Int)))) (.eq (.int .i64 m)), .cond (!(decide ((y : Int) ≠ (0 : Int)))) (.eq (.bool (decide ((m : Int) < (x : Int))))), .eq (.bool ((decide ((y : Int) ≠ (0 : Int))) || (decide ((m : Int) < (x : Int))))), .eq (.bool ((decide ((y : Int) ≠ (0 : Int))) || (decide ((m : Int) < (x : Int)))))] rfl (by kernel_rfl) ?_ ?_
  · refine sv 1 rfl rfl rfl (fun a u hE hD hk => exec_move (.tmp 6) _ rfl (hE 6 (.int .i64 y) (by kernel_rfl) (by kernel_rfl))) ?_
    refine sv 2 rfl rfl rfl (fun a u hE hD hk => exec_nen (p := y) (q := 0) rfl (hD 0 12 (by kernel_rfl)) rfl) ?_
    refine sv 3 rfl rfl rfl (fun a u hE hD hk => exec_move (.tmp 13) _ rfl (hD 1 13 (by kernel_rfl))) ?_
    refine fsteps_cons 4 rfl (fun a u hE hD hk => f_unless ((decide ((y : Int) ≠ (0 : Int)))) rfl rfl rfl (hD 2 14 (by kernel_rfl)) (fun hb => f_val (o := ⟨some 15, _, _, _, _, _⟩) (.int .i64 x) rfl (wanted_b rfl rfl (hD 2 14 (by kernel_rfl)) (eq_false_of hb)) (exec_move (.tmp 5) _ rfl (hE 5 (.int .i64 x) (by kernel_rfl) (by kernel_rfl))) rfl)) ?_
    refine fsteps_cons 5 rfl (fun a u hE hD hk => f_unless ((decide ((y : Int) ≠ (0 : Int)))) rfl rfl rfl (hD 2 14 (by kernel_rfl)) (fun hb => f_val (o := ⟨some 16, _, _, _, _, _⟩) (.int .i64 m) rfl (wanted_b rfl rfl (hD 2 14 (by kernel_rfl)) (eq_false_of hb)) (exec_move (.tmp 1) _ rfl (hE 1 (.int .i64 m) (by kernel_rfl) (by kernel_rfl))) rfl)) ?_
    refine fsteps_cons 6 rfl (fun a u hE hD hk => f_unless ((decide ((y : Int) ≠ (0 : Int)))) rfl rfl rfl (hD 2 14 (by kernel_rfl)) (fun hb => f_val (o := ⟨some 17, _, _, _, _, _⟩) (.bool (decide ((m : Int) < (x : Int)))) rfl (wanted_b rfl rfl (hD 2 14 (by kernel_rfl)) (eq_false_of hb)) (exec_gtn (p := x) (q := m) rfl ((hD 3 15 (by kernel_rfl)).1 hb) ((hD 4 16 (by kernel_rfl)).1 hb)) rfl)) ?_
    refine sv 7 rfl rfl rfl (fun a u hE hD hk => exec_pickor (.tmp 14) (.const (.bool true)) (.tmp 17) ((decide ((y : Int) ≠ (0 : Int)))) ((decide ((m : Int) < (x : Int)))) rfl (hD 2 14 (by kernel_rfl)) rfl (fun hb2 => ((hD 5 17 (by kernel_rfl)).1 hb2))) ?_
    refine sv 8 rfl rfl rfl (fun a u hE hD hk => exec_assign (.tmp 18) _ rfl (hD 6 18 (by kernel_rfl))) ?_
    exact fsteps_nil
  intro gv w2 hV k2
  rw [show dstsOf _ 8 = [12, 13, 14, 15, 16, 17, 18, 4] by kernel_rfl]
  simp only [List.foldl_cons, List.foldl_nil, List.setIfInBounds_toArray, List.set_cons_succ, List.set_cons_zero, List.drop_succ_cons, List.drop_zero]
  rw [show gv 4 = .bool ((decide ((y : Int) ≠ (0 : Int))) || (decide ((m : Int) < (x : Int)))) from hV 7 4 (by kernel_rfl)]
  clear hV
  refine wpList_nil ?_
  have kw := (k0.trans k1).trans k2
  go_wp2
  go_ret
  exact ⟨rfl, kw⟩
theorem openAt_at' {g : Nat} {B : Bal} {n i V : Int} {w : World} (hB : Blk w g 53 B.lc) (h : B.oAt n i = V) : Gives 40 #[.pointer (some ⟨g, 0, none⟩), .int .i64 n, .int .i64 i] w (.eq (.int .i64 V)) := by
  rw [← h]
  exact openAt_any g B n i w hB
theorem pos_at' {g : Nat} {B : Bal} {n i V : Int} {w : World} (hB : Blk w g 53 B.lc) (h : B.pAt n i = V) : Gives 41 #[.pointer (some ⟨g, 0, none⟩), .int .i64 n, .int .i64 i] w (.eq (.int .i64 V)) := by
  rw [← h]
  exact pos_any g B n i w hB
theorem all_at' {g : Nat} {B : Bal} {n V : Int} {w : World} (hB : Blk w g 53 B.lc) (hO : B.Ok) (h : B.all n = V) : Gives 22 #[.pointer (some ⟨g, 0, none⟩), .int .i64 n] w (.eq (.int .i64 V)) := by
  rw [← h]
  exact openAll_any g B hO n w hB
set_option maxRecDepth 100000 in
set_option maxHeartbeats 1600000 in
theorem reach_any (g : Nat) (B : Bal) (hI : B.Ok) (c : Ord) (h0 : 1 ≤ c.qty) (h1 : c.qty ≤ 1048576) (i : Int) (w : World) (hB : Blk w g 53 B.lc) : Gives 23 #[.pointer (some ⟨g, 0, none⟩), c.v, .int .i64 i] w (.eq (.int .i64 (B.reach c i))) := by
  refine gives_eq ?_
  have hx := hI.pAt_ c.tr i
  have ho := hI.oAt_ c.tr i
  obtain ⟨V, hV⟩ : ∃ V, B.reach c i = V := ⟨_, rfl⟩
  have HV := Lib.hid hV
  rw [hV]
  clear hV
  obtain ⟨X, hX⟩ : ∃ X, B.pAt c.tr i = X := ⟨_, rfl⟩
  obtain ⟨O, hO⟩ : ∃ O, B.oAt c.tr i = O := ⟨_, rfl⟩
  rw [hX] at hx
  rw [hO] at ho
  have HX := Lib.hid hX
  have HO := Lib.hid hO
  have HG := Lib.hid hB
  clear hX hO hB hI
  obtain ⟨b0, hb0⟩ : ∃ z, w.alloc (.cells c.cells.toArray 29) = z := ⟨_, rfl⟩
  have q0 : Kept w b0 := by rw [← hb0]; exact (Keep.refl _ _).alloc _
  have r0 : b0.rangeAt w.heap.size 0 c.cells := by rw [← hb0]; exact blk_range (Blk.new w 29 c.cells)
  have HB4 := Lib.hid (r0)
  have k0 := q0
  clear r0
  go_enter Try.func23, Try.ntmps23
  go_upto_region 0 with fail
  refine wp_region_lit ?_
  refine l_new (o := ⟨some 4, _, _, _, _, _⟩) (.pointer (some ⟨w.heap.size, 0, none⟩)) b0 rfl (by rw [← hb0]; exact exec_box 29 (.tmp 1) c.cells rfl (by kernel_rfl)) ?_
  simp only [Act.put, List.setIfInBounds_toArray, List.set_cons_succ, List.set_cons_zero]
  refine l_val (o := ⟨some 6, _, _, _, _, _⟩) (.int .i64 0) rfl (exec_assign (.const (.int .i64 0)) (.int .i64 0) rfl (by kernel_rfl)) ?_
  simp only [Act.put, List.setIfInBounds_toArray, List.set_cons_succ, List.set_cons_zero]
  refine wpList_nil ?_
  obtain ⟨g4, hg4⟩ : ∃ g, w.heap.size = g := ⟨_, rfl⟩
  rw [hg4] at HB4 ⊢
  clear hg4 hb0 q0
  have HB0 := Lib.hid (HG.out.kept k0)
  clear HG
  go_upto_region 1 with fail
  refine wp_text 6 [.eq (.pointer (some ⟨g, 0, none⟩)), .eq (.pointer (some ⟨g4, 0, none⟩)), .eq (.int .i64 c.tr), .eq (.int .i64 i), .eq (.int .i64 X), .eq (.int .i64 X)] rfl (by kernel_rfl) ?_ ?_
  · refine sv 1 rfl rfl rfl (fun a u hE hD hk => exec_move (.tmp 0) _ rfl (hE 0 (.pointer (some ⟨g, 0, none⟩)) (by kernel_rfl) (by kernel_rfl))) ?_
    refine sv 2 rfl rfl rfl (fun a u hE hD hk => exec_fldo 29 0 0 (.tmp 4) (g4) (0) (0) rfl (hE 4 (.pointer (some ⟨g4, 0, none⟩)) (by kernel_rfl) (by kernel_rfl)) (by kernel_rfl) rfl) ?_
    refine sv 3 rfl rfl rfl (fun a u hE hD hk => exec_loadi 3 Try.underlying3 (.tmp 9) ⟨g4, 0, none⟩ (.int .i64 c.tr) rfl (hD 1 9 (by kernel_rfl)) (range_int (range_kept HB4.out hk) 0 _ rfl)) ?_
    refine sv 4 rfl rfl rfl (fun a u hE hD hk => exec_move (.tmp 2) _ rfl (hE 2 (.int .i64 i) (by kernel_rfl) (by kernel_rfl))) ?_
    refine fsteps_cons 5 rfl (fun a u hE hD hk => f_call (o := ⟨some 12, _, _, _, _, _⟩) 41 #[.pointer (some ⟨g, 0, none⟩), .int .i64 c.tr, .int .i64 i] rfl (wanted_none rfl _) (exec_call 41 _ [.tmp 8, .tmp 10, .tmp 11] _ [.pointer (some ⟨g, 0, none⟩), .int .i64 c.tr, .int .i64 i] Try.func41 (by kernel_rfl) (by kernel_rfl) rfl (show [a.eval (.tmp 8), a.eval (.tmp 10), a.eval (.tmp 11)] = [.pointer (some ⟨g, 0, none⟩), .int .i64 c.tr, .int .i64 i] from (by rw [show a.eval (.tmp 8) = .pointer (some ⟨g, 0, none⟩) from (hD 0 8 (by kernel_rfl)), show a.eval (.tmp 10) = .int .i64 c.tr from (hD 2 10 (by kernel_rfl)), show a.eval (.tmp 11) = .int .i64 i from (hD 3 11 (by kernel_rfl))] <;> rfl)) u) (pos_at' (HB0.out.kept hk) HX.out)) ?_
    refine sv 6 rfl rfl rfl (fun a u hE hD hk => exec_assign (.tmp 12) _ rfl (hD 4 12 (by kernel_rfl))) ?_
    exact fsteps_nil
  intro gv w1 hV k1
  rw [show dstsOf _ 6 = [8, 9, 10, 11, 12, 7] by kernel_rfl]
  simp only [List.foldl_cons, List.foldl_nil, List.setIfInBounds_toArray, List.set_cons_succ, List.set_cons_zero, List.drop_succ_cons, List.drop_zero]
  rw [show gv 7 = .int .i64 X from hV 5 7 (by kernel_rfl)]
  clear hV
  refine wpList_nil ?_
  have HB1 := Lib.hid (HB0.out.kept k1)
  have HC4 := Lib.hid (range_kept HB4.out k1)
  clear HB0 HB4
  by_cases hs : c.side = 2
  · have HS := Lib.hid hs
    have HZ : Hid (-X + O + c.qty = V) := by show _ = _; rw [← HV.out, ← HX.out, ← HO.out]; unfold Bal.reach Bal.side; rw [if_pos hs]
    clear hs
    go_upto_region 2 with fail
    refine wp_text 3 [.eq (.pointer (some ⟨g4, 3, none⟩)), .eq (.int .i64 c.side), .eq (.bool true)] rfl (by kernel_rfl) ?_ ?_
    · refine sv 1 rfl rfl rfl (fun a u hE hD hk => exec_fldo 29 3 3 (.tmp 4) (g4) (0) (3) rfl (hE 4 (.pointer (some ⟨g4, 0, none⟩)) (by kernel_rfl) (by kernel_rfl)) (by kernel_rfl) rfl) ?_
      refine sv 2 rfl rfl rfl (fun a u hE hD hk => exec_loadi 3 Try.underlying3 (.tmp 13) ⟨g4, 3, none⟩ (.int .i64 c.side) rfl (hD 0 13 (by kernel_rfl)) (range_int (range_kept HC4.out hk) 3 _ rfl)) ?_
      refine fsteps_cons 3 rfl (fun a u hE hD hk => f_as (show ((decide ((c.side : Int) = (2 : Int))) : Bool) = true from decide_eq_true HS.out) (f_val (o := ⟨some 15, _, _, _, _, _⟩) (.bool (decide ((c.side : Int) = (2 : Int)))) rfl (wanted_none rfl _) (exec_eqn (p := c.side) (q := 2) rfl (hD 1 14 (by kernel_rfl)) rfl) rfl)) ?_
      exact fsteps_nil
    intro gv w2 hV k2
    rw [show dstsOf _ 3 = [13, 14, 15] by kernel_rfl]
    simp only [List.foldl_cons, List.foldl_nil, List.setIfInBounds_toArray, List.set_cons_succ, List.set_cons_zero, List.drop_succ_cons, List.drop_zero]
    rw [show gv 15 = .bool true from hV 2 15 (by kernel_rfl)]
    clear hV
    refine wpList_nil ?_
    have HD4 := Lib.hid (range_kept HC4.out k2)
    have HB2 := Lib.hid (HB1.out.kept k2)
    go_upto_region 3 with fail
    refine wp_region_lit ?_
    refine l_val (o := ⟨some 16, _, _, _, _, _⟩) (.int .i64 X) rfl (exec_move (.tmp 7) (.int .i64 X) rfl (by kernel_rfl)) ?_
    simp only [Act.put, List.setIfInBounds_toArray, List.set_cons_succ, List.set_cons_zero]
    refine l_val (o := ⟨some 17, _, _, _, _, _⟩) (.int .i64 (-X)) rfl (exec_neg1 (x := .tmp 16) X rfl (by kernel_rfl) (by omega) (by omega)) ?_
    simp only [Act.put, List.setIfInBounds_toArray, List.set_cons_succ, List.set_cons_zero]
    refine l_val (o := ⟨some 7, _, _, _, _, _⟩) (.int .i64 (-X)) rfl (exec_assign (.tmp 17) (.int .i64 (-X)) rfl (by kernel_rfl)) ?_
    simp only [Act.put, List.setIfInBounds_toArray, List.set_cons_succ, List.set_cons_zero]
    refine wpList_nil ?_
    go_upto_region 4 with fail
    refine wp_free 11 [.eq (.int .i64 (-X)), .eq (.pointer (some ⟨g, 0, none⟩)), .eq (.pointer (some ⟨g4, 0, none⟩)), .eq (.int .i64 c.tr), .eq (.int .i64 i), .eq (.int .i64 O), .eq (.int .i64 (((-X) : Int) + (O : Int))), .eq (.pointer (some ⟨g4, 6, none⟩)), .eq (.int .i64 c.qty), .eq (.int .i64 (((((-X) : Int) + (O : Int)) : Int) + (c.qty : Int))), .eq (.int .i64 (((((-X) : Int) + (O : Int)) : Int) + (c.qty : Int)))] (by kernel_rfl) rfl (by kernel_rfl) ?_ ?_
    · refine sv 1 rfl rfl rfl (fun a u hE hD hk => exec_move (.tmp 7) _ rfl (hE 7 (.int .i64 (-X)) (by kernel_rfl) (by kernel_rfl))) ?_
      refine sv 2 rfl rfl rfl (fun a u hE hD hk => exec_move (.tmp 0) _ rfl (hE 0 (.pointer (some ⟨g, 0, none⟩)) (by kernel_rfl) (by kernel_rfl))) ?_
      refine sv 3 rfl rfl rfl (fun a u hE hD hk => exec_fldo 29 0 0 (.tmp 4) (g4) (0) (0) rfl (hE 4 (.pointer (some ⟨g4, 0, none⟩)) (by kernel_rfl) (by kernel_rfl)) (by kernel_rfl) rfl) ?_
      refine sv 4 rfl rfl rfl (fun a u hE hD hk => exec_loadi 3 Try.underlying3 (.tmp 20) ⟨g4, 0, none⟩ (.int .i64 c.tr) rfl (hD 2 20 (by kernel_rfl)) (range_int (range_kept HD4.out hk) 0 _ rfl)) ?_
      refine sv 5 rfl rfl rfl (fun a u hE hD hk => exec_move (.tmp 2) _ rfl (hE 2 (.int .i64 i) (by kernel_rfl) (by kernel_rfl))) ?_
      refine fsteps_cons 6 rfl (fun a u hE hD hk => f_call (o := ⟨some 23, _, _, _, _, _⟩) 40 #[.pointer (some ⟨g, 0, none⟩), .int .i64 c.tr, .int .i64 i] rfl (wanted_none rfl _) (exec_call 40 _ [.tmp 19, .tmp 21, .tmp 22] _ [.pointer (some ⟨g, 0, none⟩), .int .i64 c.tr, .int .i64 i] Try.func40 (by kernel_rfl) (by kernel_rfl) rfl (show [a.eval (.tmp 19), a.eval (.tmp 21), a.eval (.tmp 22)] = [.pointer (some ⟨g, 0, none⟩), .int .i64 c.tr, .int .i64 i] from (by rw [show a.eval (.tmp 19) = .pointer (some ⟨g, 0, none⟩) from (hD 1 19 (by kernel_rfl)), show a.eval (.tmp 21) = .int .i64 c.tr from (hD 3 21 (by kernel_rfl)), show a.eval (.tmp 22) = .int .i64 i from (hD 4 22 (by kernel_rfl))] <;> rfl)) u) (openAt_at' (HB2.out.kept hk) HO.out)) ?_
      refine sv 7 rfl rfl rfl (fun a u hE hD hk => exec_addn (p := ((-X))) (q := (O)) (((-X) : Int) + (O : Int)) rfl (hD 0 18 (by kernel_rfl)) (hD 5 23 (by kernel_rfl)) rfl (by omega) (by omega)) ?_
      refine sv 8 rfl rfl rfl (fun a u hE hD hk => exec_fldo 29 6 6 (.tmp 4) (g4) (0) (6) rfl (hE 4 (.pointer (some ⟨g4, 0, none⟩)) (by kernel_rfl) (by kernel_rfl)) (by kernel_rfl) rfl) ?_
      refine sv 9 rfl rfl rfl (fun a u hE hD hk => exec_loadi 3 Try.underlying3 (.tmp 25) ⟨g4, 6, none⟩ (.int .i64 c.qty) rfl (hD 7 25 (by kernel_rfl)) (range_int (range_kept HD4.out hk) 6 _ rfl)) ?_
      refine sv 10 rfl rfl rfl (fun a u hE hD hk => exec_addn (p := ((((-X) : Int) + (O : Int)))) (q := (c.qty)) (((((-X) : Int) + (O : Int)) : Int) + (c.qty : Int)) rfl (hD 6 24 (by kernel_rfl)) (hD 8 26 (by kernel_rfl)) rfl (by omega) (by omega)) ?_
      refine sv 11 rfl rfl rfl (fun a u hE hD hk => exec_assign (.tmp 27) _ rfl (hD 9 27 (by kernel_rfl))) ?_
      exact fsteps_nil
    intro gv w3 hV k3
    rw [show dstsOf _ 11 = [18, 19, 20, 21, 22, 23, 24, 25, 26, 27, 6] by kernel_rfl]
    simp only [List.foldl_cons, List.foldl_nil, List.setIfInBounds_toArray, List.set_cons_succ, List.set_cons_zero, List.drop_succ_cons, List.drop_zero]
    rw [show gv 6 = .int .i64 (((((-X) : Int) + (O : Int)) : Int) + (c.qty : Int)) from hV 10 6 (by kernel_rfl)]
    clear hV
    refine wpList_nil ?_
    have kw := ((k0.trans k1).trans k2).trans k3
    go_wp2
    go_ret
    exact ⟨by rw [HZ.out]; rfl, kw⟩
  · have HS := Lib.hid hs
    have HZ : Hid (X + O + c.qty = V) := by show _ = _; rw [← HV.out, ← HX.out, ← HO.out]; unfold Bal.reach Bal.side; rw [if_neg hs]
    clear hs
    go_upto_region 2 with fail
    refine wp_text 3 [.eq (.pointer (some ⟨g4, 3, none⟩)), .eq (.int .i64 c.side), .eq (.bool false)] rfl (by kernel_rfl) ?_ ?_
    · refine sv 1 rfl rfl rfl (fun a u hE hD hk => exec_fldo 29 3 3 (.tmp 4) (g4) (0) (3) rfl (hE 4 (.pointer (some ⟨g4, 0, none⟩)) (by kernel_rfl) (by kernel_rfl)) (by kernel_rfl) rfl) ?_
      refine sv 2 rfl rfl rfl (fun a u hE hD hk => exec_loadi 3 Try.underlying3 (.tmp 13) ⟨g4, 3, none⟩ (.int .i64 c.side) rfl (hD 0 13 (by kernel_rfl)) (range_int (range_kept HC4.out hk) 3 _ rfl)) ?_
      refine fsteps_cons 3 rfl (fun a u hE hD hk => f_as (show ((decide ((c.side : Int) = (2 : Int))) : Bool) = false from decide_eq_false HS.out) (f_val (o := ⟨some 15, _, _, _, _, _⟩) (.bool (decide ((c.side : Int) = (2 : Int)))) rfl (wanted_none rfl _) (exec_eqn (p := c.side) (q := 2) rfl (hD 1 14 (by kernel_rfl)) rfl) rfl)) ?_
      exact fsteps_nil
    intro gv w2 hV k2
    rw [show dstsOf _ 3 = [13, 14, 15] by kernel_rfl]
    simp only [List.foldl_cons, List.foldl_nil, List.setIfInBounds_toArray, List.set_cons_succ, List.set_cons_zero, List.drop_succ_cons, List.drop_zero]
    rw [show gv 15 = .bool false from hV 2 15 (by kernel_rfl)]
    clear hV
    refine wpList_nil ?_
    have HD4 := Lib.hid (range_kept HC4.out k2)
    have HB2 := Lib.hid (HB1.out.kept k2)
    go_upto_region 4 with fail
    refine wp_free 11 [.eq (.int .i64 X), .eq (.pointer (some ⟨g, 0, none⟩)), .eq (.pointer (some ⟨g4, 0, none⟩)), .eq (.int .i64 c.tr), .eq (.int .i64 i), .eq (.int .i64 O), .eq (.int .i64 ((X : Int) + (O : Int))), .eq (.pointer (some ⟨g4, 6, none⟩)), .eq (.int .i64 c.qty), .eq (.int .i64 ((((X : Int) + (O : Int)) : Int) + (c.qty : Int))), .eq (.int .i64 ((((X : Int) + (O : Int)) : Int) + (c.qty : Int)))] (by kernel_rfl) rfl (by kernel_rfl) ?_ ?_
    · refine sv 1 rfl rfl rfl (fun a u hE hD hk => exec_move (.tmp 7) _ rfl (hE 7 (.int .i64 X) (by kernel_rfl) (by kernel_rfl))) ?_
      refine sv 2 rfl rfl rfl (fun a u hE hD hk => exec_move (.tmp 0) _ rfl (hE 0 (.pointer (some ⟨g, 0, none⟩)) (by kernel_rfl) (by kernel_rfl))) ?_
      refine sv 3 rfl rfl rfl (fun a u hE hD hk => exec_fldo 29 0 0 (.tmp 4) (g4) (0) (0) rfl (hE 4 (.pointer (some ⟨g4, 0, none⟩)) (by kernel_rfl) (by kernel_rfl)) (by kernel_rfl) rfl) ?_
      refine sv 4 rfl rfl rfl (fun a u hE hD hk => exec_loadi 3 Try.underlying3 (.tmp 20) ⟨g4, 0, none⟩ (.int .i64 c.tr) rfl (hD 2 20 (by kernel_rfl)) (range_int (range_kept HD4.out hk) 0 _ rfl)) ?_
      refine sv 5 rfl rfl rfl (fun a u hE hD hk => exec_move (.tmp 2) _ rfl (hE 2 (.int .i64 i) (by kernel_rfl) (by kernel_rfl))) ?_
      refine fsteps_cons 6 rfl (fun a u hE hD hk => f_call (o := ⟨some 23, _, _, _, _, _⟩) 40 #[.pointer (some ⟨g, 0, none⟩), .int .i64 c.tr, .int .i64 i] rfl (wanted_none rfl _) (exec_call 40 _ [.tmp 19, .tmp 21, .tmp 22] _ [.pointer (some ⟨g, 0, none⟩), .int .i64 c.tr, .int .i64 i] Try.func40 (by kernel_rfl) (by kernel_rfl) rfl (show [a.eval (.tmp 19), a.eval (.tmp 21), a.eval (.tmp 22)] = [.pointer (some ⟨g, 0, none⟩), .int .i64 c.tr, .int .i64 i] from (by rw [show a.eval (.tmp 19) = .pointer (some ⟨g, 0, none⟩) from (hD 1 19 (by kernel_rfl)), show a.eval (.tmp 21) = .int .i64 c.tr from (hD 3 21 (by kernel_rfl)), show a.eval (.tmp 22) = .int .i64 i from (hD 4 22 (by kernel_rfl))] <;> rfl)) u) (openAt_at' (HB2.out.kept hk) HO.out)) ?_
      refine sv 7 rfl rfl rfl (fun a u hE hD hk => exec_addn (p := (X)) (q := (O)) ((X : Int) + (O : Int)) rfl (hD 0 18 (by kernel_rfl)) (hD 5 23 (by kernel_rfl)) rfl (by omega) (by omega)) ?_
      refine sv 8 rfl rfl rfl (fun a u hE hD hk => exec_fldo 29 6 6 (.tmp 4) (g4) (0) (6) rfl (hE 4 (.pointer (some ⟨g4, 0, none⟩)) (by kernel_rfl) (by kernel_rfl)) (by kernel_rfl) rfl) ?_
      refine sv 9 rfl rfl rfl (fun a u hE hD hk => exec_loadi 3 Try.underlying3 (.tmp 25) ⟨g4, 6, none⟩ (.int .i64 c.qty) rfl (hD 7 25 (by kernel_rfl)) (range_int (range_kept HD4.out hk) 6 _ rfl)) ?_
      refine sv 10 rfl rfl rfl (fun a u hE hD hk => exec_addn (p := (((X : Int) + (O : Int)))) (q := (c.qty)) ((((X : Int) + (O : Int)) : Int) + (c.qty : Int)) rfl (hD 6 24 (by kernel_rfl)) (hD 8 26 (by kernel_rfl)) rfl (by omega) (by omega)) ?_
      refine sv 11 rfl rfl rfl (fun a u hE hD hk => exec_assign (.tmp 27) _ rfl (hD 9 27 (by kernel_rfl))) ?_
      exact fsteps_nil
    intro gv w3 hV k3
    rw [show dstsOf _ 11 = [18, 19, 20, 21, 22, 23, 24, 25, 26, 27, 6] by kernel_rfl]
    simp only [List.foldl_cons, List.foldl_nil, List.setIfInBounds_toArray, List.set_cons_succ, List.set_cons_zero, List.drop_succ_cons, List.drop_zero]
    rw [show gv 6 = .int .i64 ((((X : Int) + (O : Int)) : Int) + (c.qty : Int)) from hV 10 6 (by kernel_rfl)]
    clear hV
    refine wpList_nil ?_
    have kw := ((k0.trans k1).trans k2).trans k3
    go_wp2
    go_ret
    exact ⟨by rw [HZ.out]; rfl, kw⟩
set_option maxRecDepth 100000 in
set_option maxHeartbeats 1600000 in
theorem check_any (g : Nat) (B : Bal) (hI : B.Ok) (L : Lim) (c : Ord) (i : Int) (w : World) (hB : Blk w g 53 B.lc) : Gives 10 #[.pointer (some ⟨g, 0, none⟩), L.v, c.v, .int .i64 i] w (.eq (.int .i64 (chk B L c i))) := by
  refine gives_eq ?_
  have HG := Lib.hid hB
  obtain ⟨V, hV⟩ : ∃ V, chk B L c i = V := ⟨_, rfl⟩
  rw [hV]
  clear hB
  obtain ⟨b0, hb0⟩ : ∃ z, w.alloc (.cells L.cells.toArray 25) = z := ⟨_, rfl⟩
  have q0 : Kept w b0 := by rw [← hb0]; exact (Keep.refl _ _).alloc _
  have r0 : b0.rangeAt w.heap.size 0 L.cells := by rw [← hb0]; exact blk_range (Blk.new w 25 L.cells)
  obtain ⟨b1, hb1⟩ : ∃ z, b0.alloc (.cells c.cells.toArray 29) = z := ⟨_, rfl⟩
  have q1 : Kept b0 b1 := by rw [← hb1]; exact (Keep.refl _ _).alloc _
  have r1 : b1.rangeAt b0.heap.size 0 c.cells := by rw [← hb1]; exact blk_range (Blk.new b0 29 c.cells)
  have HB5 := Lib.hid (range_kept (r0) q1)
  have HB6 := Lib.hid (r1)
  have k0 := (q0).trans q1
  clear r0 r1
  go_enter Try.func10, Try.ntmps10
  go_upto_region 0 with fail
  refine wp_region_lit ?_
  refine l_new (o := ⟨some 5, _, _, _, _, _⟩) (.pointer (some ⟨w.heap.size, 0, none⟩)) b0 rfl (by rw [← hb0]; exact exec_box 25 (.tmp 1) L.cells rfl (by kernel_rfl)) ?_
  simp only [Act.put, List.setIfInBounds_toArray, List.set_cons_succ, List.set_cons_zero]
  refine l_new (o := ⟨some 6, _, _, _, _, _⟩) (.pointer (some ⟨b0.heap.size, 0, none⟩)) b1 rfl (by rw [← hb1]; exact exec_box 29 (.tmp 2) c.cells rfl (by kernel_rfl)) ?_
  simp only [Act.put, List.setIfInBounds_toArray, List.set_cons_succ, List.set_cons_zero]
  refine l_val (o := ⟨some 8, _, _, _, _, _⟩) (.int .i64 0) rfl (exec_assign (.const (.int .i64 0)) (.int .i64 0) rfl (by kernel_rfl)) ?_
  simp only [Act.put, List.setIfInBounds_toArray, List.set_cons_succ, List.set_cons_zero]
  refine wpList_nil ?_
  obtain ⟨g5, hg5⟩ : ∃ g, w.heap.size = g := ⟨_, rfl⟩
  rw [hg5] at HB5 ⊢
  obtain ⟨g6, hg6⟩ : ∃ g, b0.heap.size = g := ⟨_, rfl⟩
  rw [hg6] at HB6 ⊢
  clear hg5 hb0 q0 hg6 hb1 q1
  cases hr : c.right with
  | false =>
    obtain rfl : 1 = V := by rw [← hV, chk_out (by rw [hr]; rfl)]
    have HE := Lib.hid (err_wrong hr)
    clear hr
    go_upto_region 1 with fail
    refine wp_text 8 [.eq (c.v), .eq (.int .i64 1), .eq (.bool true), .eq (.bool true), .eq undef, .eq undef, .eq undef, .eq (.bool true)] rfl (by kernel_rfl) ?_ ?_
    · refine sv 1 rfl rfl rfl (fun a u hE hD hk => exec_ldS 29 _ (.tmp 6) (g6) (0) (c.cells) rfl (hE 6 (.pointer (some ⟨g6, 0, none⟩)) (by kernel_rfl) (by kernel_rfl)) (range_kept HB6.out hk) Try.underlying29 (by rw [c.len9]; exact ord_size)) ?_
      refine fsteps_cons 2 rfl (fun a u hE hD hk => f_call (o := ⟨some 10, _, _, _, _, _⟩) 19 #[c.v] rfl (wanted_none rfl _) (exec_call 19 _ [.tmp 9] _ [c.v] Try.func19 (by kernel_rfl) (by kernel_rfl) rfl (show [a.eval (.tmp 9)] = [c.v] from (by rw [show a.eval (.tmp 9) = c.v from (hD 0 9 (by kernel_rfl))] <;> rfl)) u) (by rw [← HE.out]; exact ordRight_any c u)) ?_
      refine fsteps_cons 3 rfl (fun a u hE hD hk => f_as (show ((decide ((1 : Int) ≠ (0 : Int))) : Bool) = true from decide_eq_true (by omega)) (f_val (o := ⟨some 11, _, _, _, _, _⟩) (.bool (decide ((1 : Int) ≠ (0 : Int)))) rfl (wanted_none rfl _) (exec_nen (p := 1) (q := 0) rfl (hD 1 10 (by kernel_rfl)) rfl) rfl)) ?_
      refine sv 4 rfl rfl rfl (fun a u hE hD hk => exec_move (.tmp 11) _ rfl (hD 2 11 (by kernel_rfl))) ?_
      refine fsteps_cons 5 rfl (fun a u hE hD hk => f_skip (o := ⟨some 13, _, _, _, _, _⟩) rfl (wanted_at (b := false) true rfl rfl (hD 3 12 (by kernel_rfl))) rfl) ?_
      refine fsteps_cons 6 rfl (fun a u hE hD hk => f_skip (o := ⟨some 14, _, _, _, _, _⟩) rfl (wanted_at (b := false) true rfl rfl (hD 3 12 (by kernel_rfl))) rfl) ?_
      refine fsteps_cons 7 rfl (fun a u hE hD hk => f_skip (o := ⟨some 15, _, _, _, _, _⟩) rfl (wanted_at (b := false) true rfl rfl (hD 3 12 (by kernel_rfl))) rfl) ?_
      refine sv 8 rfl rfl rfl (fun a u hE hD hk => exec_pick (.tmp 12) (.const (.bool true)) (.tmp 15) (.bool true) rfl (hD 3 12 (by kernel_rfl)) rfl) ?_
      exact fsteps_nil
    intro gv w1 hV k1
    rw [show dstsOf _ 8 = [9, 10, 11, 12, 13, 14, 15, 16] by kernel_rfl]
    simp only [List.foldl_cons, List.foldl_nil, List.setIfInBounds_toArray, List.set_cons_succ, List.set_cons_zero, List.drop_succ_cons, List.drop_zero]
    rw [show gv 16 = .bool true from hV 7 16 (by kernel_rfl)]
    clear hV
    refine wpList_nil ?_
    have kw := k0.trans k1
    go_wp2
    go_ret
    exact ⟨rfl, kw⟩
  | true =>
    have HE := Lib.hid (err_right hr)
    cases hw : wiB i 0 7 with
    | false =>
      obtain rfl : 1 = V := by rw [← hV, chk_out (by rw [hw, Bool.and_false])]
      have HW := Lib.hid hw
      clear hr hw
      go_upto_region 1 with fail
      refine wp_text 8 [.eq (c.v), .eq (.int .i64 0), .eq (.bool false), .eq (.bool false), .eq (.int .i64 i), .eq (.bool false), .eq (.bool true), .eq (.bool true)] rfl (by kernel_rfl) ?_ ?_
      · refine sv 1 rfl rfl rfl (fun a u hE hD hk => exec_ldS 29 _ (.tmp 6) (g6) (0) (c.cells) rfl (hE 6 (.pointer (some ⟨g6, 0, none⟩)) (by kernel_rfl) (by kernel_rfl)) (range_kept HB6.out hk) Try.underlying29 (by rw [c.len9]; exact ord_size)) ?_
        refine fsteps_cons 2 rfl (fun a u hE hD hk => f_call (o := ⟨some 10, _, _, _, _, _⟩) 19 #[c.v] rfl (wanted_none rfl _) (exec_call 19 _ [.tmp 9] _ [c.v] Try.func19 (by kernel_rfl) (by kernel_rfl) rfl (show [a.eval (.tmp 9)] = [c.v] from (by rw [show a.eval (.tmp 9) = c.v from (hD 0 9 (by kernel_rfl))] <;> rfl)) u) (by rw [← HE.out]; exact ordRight_any c u)) ?_
        refine fsteps_cons 3 rfl (fun a u hE hD hk => f_as (show ((decide ((0 : Int) ≠ (0 : Int))) : Bool) = false from decide_eq_false (by omega)) (f_val (o := ⟨some 11, _, _, _, _, _⟩) (.bool (decide ((0 : Int) ≠ (0 : Int)))) rfl (wanted_none rfl _) (exec_nen (p := 0) (q := 0) rfl (hD 1 10 (by kernel_rfl)) rfl) rfl)) ?_
        refine sv 4 rfl rfl rfl (fun a u hE hD hk => exec_move (.tmp 11) _ rfl (hD 2 11 (by kernel_rfl))) ?_
        refine fsteps_cons 5 rfl (fun a u hE hD hk => f_val (o := ⟨some 13, _, _, _, _, _⟩) (.int .i64 i) rfl (wanted_at (b := false) false rfl rfl (hD 3 12 (by kernel_rfl))) (exec_move (.tmp 3) _ rfl (hE 3 (.int .i64 i) (by kernel_rfl) (by kernel_rfl))) rfl) ?_
        refine fsteps_cons 6 rfl (fun a u hE hD hk => f_call (o := ⟨some 14, _, _, _, _, _⟩) 20 #[.int .i64 i, .int .i64 0, .int .i64 7] rfl (wanted_at (b := false) false rfl rfl (hD 3 12 (by kernel_rfl))) (exec_call 20 _ [.tmp 13, .const (.int .i64 0), .const (.int .i64 7)] _ [.int .i64 i, .int .i64 0, .int .i64 7] Try.func20 (by kernel_rfl) (by kernel_rfl) rfl (show [a.eval (.tmp 13), a.eval (.const (.int .i64 0)), a.eval (.const (.int .i64 7))] = [.int .i64 i, .int .i64 0, .int .i64 7] from (by rw [show a.eval (.tmp 13) = .int .i64 i from (hD 4 13 (by kernel_rfl))] <;> rfl)) u) (by rw [← HW.out]; exact kwithin_i i 0 7 u)) ?_
        refine fsteps_cons 7 rfl (fun a u hE hD hk => f_val (o := ⟨some 15, _, _, _, _, _⟩) (.bool true) rfl (wanted_at (b := false) false rfl rfl (hD 3 12 (by kernel_rfl))) (exec_not _ (.tmp 14) false rfl (hD 5 14 (by kernel_rfl))) rfl) ?_
        refine sv 8 rfl rfl rfl (fun a u hE hD hk => exec_pickF (.tmp 12) (.const (.bool true)) (.tmp 15) (.bool true) rfl (hD 3 12 (by kernel_rfl)) (hD 6 15 (by kernel_rfl))) ?_
        exact fsteps_nil
      intro gv w1 hV k1
      rw [show dstsOf _ 8 = [9, 10, 11, 12, 13, 14, 15, 16] by kernel_rfl]
      simp only [List.foldl_cons, List.foldl_nil, List.setIfInBounds_toArray, List.set_cons_succ, List.set_cons_zero, List.drop_succ_cons, List.drop_zero]
      rw [show gv 16 = .bool true from hV 7 16 (by kernel_rfl)]
      clear hV
      refine wpList_nil ?_
      have kw := k0.trans k1
      go_wp2
      go_ret
      exact ⟨rfl, kw⟩
    | true =>
      have hU : (if over B L c i = true then 8 else 0) = V := by rw [← hV, chk_in (by rw [hr, hw]; rfl)]
      clear hV
      have HW := Lib.hid hw
      have hq : 1 ≤ c.qty ∧ c.qty ≤ 1048576 ∧ In64 c.price := by
        have h := (right_iff c).1 hr
        obtain ⟨_, _, _, _, _, _, h7, h8, h9, _⟩ := h
        refine ⟨h9.1, h9.2, ?_⟩
        unfold In64
        by_cases hk : c.k = 2
        · have := h7 hk
          omega
        · have := h8 hk
          omega
      obtain ⟨hq0, hq1, hp⟩ := hq
      have HP := Lib.hid hp
      clear hr hw hp
      go_upto_region 1 with fail
      refine wp_text 8 [.eq (c.v), .eq (.int .i64 0), .eq (.bool false), .eq (.bool false), .eq (.int .i64 i), .eq (.bool true), .eq (.bool false), .eq (.bool false)] rfl (by kernel_rfl) ?_ ?_
      · refine sv 1 rfl rfl rfl (fun a u hE hD hk => exec_ldS 29 _ (.tmp 6) (g6) (0) (c.cells) rfl (hE 6 (.pointer (some ⟨g6, 0, none⟩)) (by kernel_rfl) (by kernel_rfl)) (range_kept HB6.out hk) Try.underlying29 (by rw [c.len9]; exact ord_size)) ?_
        refine fsteps_cons 2 rfl (fun a u hE hD hk => f_call (o := ⟨some 10, _, _, _, _, _⟩) 19 #[c.v] rfl (wanted_none rfl _) (exec_call 19 _ [.tmp 9] _ [c.v] Try.func19 (by kernel_rfl) (by kernel_rfl) rfl (show [a.eval (.tmp 9)] = [c.v] from (by rw [show a.eval (.tmp 9) = c.v from (hD 0 9 (by kernel_rfl))] <;> rfl)) u) (by rw [← HE.out]; exact ordRight_any c u)) ?_
        refine fsteps_cons 3 rfl (fun a u hE hD hk => f_as (show ((decide ((0 : Int) ≠ (0 : Int))) : Bool) = false from decide_eq_false (by omega)) (f_val (o := ⟨some 11, _, _, _, _, _⟩) (.bool (decide ((0 : Int) ≠ (0 : Int)))) rfl (wanted_none rfl _) (exec_nen (p := 0) (q := 0) rfl (hD 1 10 (by kernel_rfl)) rfl) rfl)) ?_
        refine sv 4 rfl rfl rfl (fun a u hE hD hk => exec_move (.tmp 11) _ rfl (hD 2 11 (by kernel_rfl))) ?_
        refine fsteps_cons 5 rfl (fun a u hE hD hk => f_val (o := ⟨some 13, _, _, _, _, _⟩) (.int .i64 i) rfl (wanted_at (b := false) false rfl rfl (hD 3 12 (by kernel_rfl))) (exec_move (.tmp 3) _ rfl (hE 3 (.int .i64 i) (by kernel_rfl) (by kernel_rfl))) rfl) ?_
        refine fsteps_cons 6 rfl (fun a u hE hD hk => f_call (o := ⟨some 14, _, _, _, _, _⟩) 20 #[.int .i64 i, .int .i64 0, .int .i64 7] rfl (wanted_at (b := false) false rfl rfl (hD 3 12 (by kernel_rfl))) (exec_call 20 _ [.tmp 13, .const (.int .i64 0), .const (.int .i64 7)] _ [.int .i64 i, .int .i64 0, .int .i64 7] Try.func20 (by kernel_rfl) (by kernel_rfl) rfl (show [a.eval (.tmp 13), a.eval (.const (.int .i64 0)), a.eval (.const (.int .i64 7))] = [.int .i64 i, .int .i64 0, .int .i64 7] from (by rw [show a.eval (.tmp 13) = .int .i64 i from (hD 4 13 (by kernel_rfl))] <;> rfl)) u) (by rw [← HW.out]; exact kwithin_i i 0 7 u)) ?_
        refine fsteps_cons 7 rfl (fun a u hE hD hk => f_val (o := ⟨some 15, _, _, _, _, _⟩) (.bool false) rfl (wanted_at (b := false) false rfl rfl (hD 3 12 (by kernel_rfl))) (exec_not _ (.tmp 14) true rfl (hD 5 14 (by kernel_rfl))) rfl) ?_
        refine sv 8 rfl rfl rfl (fun a u hE hD hk => exec_pickF (.tmp 12) (.const (.bool true)) (.tmp 15) (.bool false) rfl (hD 3 12 (by kernel_rfl)) (hD 6 15 (by kernel_rfl))) ?_
        exact fsteps_nil
      intro gv w1 hV k1
      rw [show dstsOf _ 8 = [9, 10, 11, 12, 13, 14, 15, 16] by kernel_rfl]
      simp only [List.foldl_cons, List.foldl_nil, List.setIfInBounds_toArray, List.set_cons_succ, List.set_cons_zero, List.drop_succ_cons, List.drop_zero]
      rw [show gv 16 = .bool false from hV 7 16 (by kernel_rfl)]
      clear hV
      refine wpList_nil ?_
      have HB1 := Lib.hid (HG.out.kept (k0.trans k1))
      have HC5 := Lib.hid (range_kept HB5.out k1)
      have HC6 := Lib.hid (range_kept HB6.out k1)
      have ha := hI.all8 c.tr
      have HI := Lib.hid hI
      clear HG HB5 HB6 HE HW hI
      obtain ⟨A, hA⟩ : ∃ A, B.all c.tr = A := ⟨_, rfl⟩
      obtain ⟨R, hR⟩ : ∃ R, B.reach c i = R := ⟨_, rfl⟩
      obtain ⟨b, hb⟩ : ∃ b, over B L c i = b := ⟨_, rfl⟩
      rw [hA] at ha
      rw [hb] at hU
      have HV : Hid ((((decide (L.q < c.qty) || c.worth L.m) || decide (L.o < A + c.qty)) || decide (L.p < R)) = b) := by show _ = _; rw [← hb, ← hA, ← hR]; rfl
      have HA := Lib.hid hA
      have HR := Lib.hid hR
      clear hA hR hb
      go_upto_region 3 with fail
      refine wp_free 32 [.eq (.pointer (some ⟨g6, 6, none⟩)), .eq (.int .i64 c.qty), .eq (.pointer (some ⟨g5, 0, none⟩)), .eq (.int .i64 L.q), .eq (.bool (decide ((L.q : Int) < (c.qty : Int)))), .eq (.bool (decide ((L.q : Int) < (c.qty : Int)))), .cond (!(decide ((L.q : Int) < (c.qty : Int)))) (.eq (c.v)), .cond (!(decide ((L.q : Int) < (c.qty : Int)))) (.eq (.pointer (some ⟨g5, 1, none⟩))), .cond (!(decide ((L.q : Int) < (c.qty : Int)))) (.eq (.int .i64 L.m)), .cond (!(decide ((L.q : Int) < (c.qty : Int)))) (.eq (.bool (c.worth L.m))), .eq (.bool ((decide ((L.q : Int) < (c.qty : Int))) || (c.worth L.m))), .eq (.bool ((decide ((L.q : Int) < (c.qty : Int))) || (c.worth L.m))), .cond (!((decide ((L.q : Int) < (c.qty : Int))) || (c.worth L.m))) (.eq (.pointer (some ⟨g, 0, none⟩))), .cond (!((decide ((L.q : Int) < (c.qty : Int))) || (c.worth L.m))) (.eq (.pointer (some ⟨g6, 0, none⟩))), .cond (!((decide ((L.q : Int) < (c.qty : Int))) || (c.worth L.m))) (.eq (.int .i64 c.tr)), .cond (!((decide ((L.q : Int) < (c.qty : Int))) || (c.worth L.m))) (.eq (.int .i64 A)), .cond (!((decide ((L.q : Int) < (c.qty : Int))) || (c.worth L.m))) (.eq (.pointer (some ⟨g6, 6, none⟩))), .cond (!((decide ((L.q : Int) < (c.qty : Int))) || (c.worth L.m))) (.eq (.int .i64 c.qty)), .cond (!((decide ((L.q : Int) < (c.qty : Int))) || (c.worth L.m))) (.eq (.int .i64 ((A : Int) + (c.qty : Int)))), .cond (!((decide ((L.q : Int) < (c.qty : Int))) || (c.worth L.m))) (.eq (.pointer (some ⟨g5, 2, none⟩))), .cond (!((decide ((L.q : Int) < (c.qty : Int))) || (c.worth L.m))) (.eq (.int .i64 L.o)), .cond (!((decide ((L.q : Int) < (c.qty : Int))) || (c.worth L.m))) (.eq (.bool (decide ((L.o : Int) < (((A : Int) + (c.qty : Int)) : Int))))), .eq (.bool (((decide ((L.q : Int) < (c.qty : Int))) || (c.worth L.m)) || (decide ((L.o : Int) < (((A : Int) + (c.qty : Int)) : Int))))), .eq (.bool (((decide ((L.q : Int) < (c.qty : Int))) || (c.worth L.m)) || (decide ((L.o : Int) < (((A : Int) + (c.qty : Int)) : Int))))), .cond (!(((decide ((L.q : Int) < (c.qty : Int))) || (c.worth L.m)) || (decide ((L.o : Int) < (((A : Int) + (c.qty : Int)) : Int))))) (.eq (.pointer (some ⟨g, 0, none⟩))), .cond (!(((decide ((L.q : Int) < (c.qty : Int))) || (c.worth L.m)) || (decide ((L.o : Int) < (((A : Int) + (c.qty : Int)) : Int))))) (.eq (c.v)), .cond (!(((decide ((L.q : Int) < (c.qty : Int))) || (c.worth L.m)) || (decide ((L.o : Int) < (((A : Int) + (c.qty : Int)) : Int))))) (.eq (.int .i64 i)), .cond (!(((decide ((L.q : Int) < (c.qty : Int))) || (c.worth L.m)) || (decide ((L.o : Int) < (((A : Int) + (c.qty : Int)) : Int))))) (.eq (.int .i64 R)), .cond (!(((decide ((L.q : Int) < (c.qty : Int))) || (c.worth L.m)) || (decide ((L.o : Int) < (((A : Int) + (c.qty : Int)) : Int))))) (.eq (.pointer (some ⟨g5, 3, none⟩))), .cond (!(((decide ((L.q : Int) < (c.qty : Int))) || (c.worth L.m)) || (decide ((L.o : Int) < (((A : Int) + (c.qty : Int)) : Int))))) (.eq (.int .i64 L.p)), .cond (!(((decide ((L.q : Int) < (c.qty : Int))) || (c.worth L.m)) || (decide ((L.o : Int) < (((A : Int) + (c.qty : Int)) : Int))))) (.eq (.bool (decide ((L.p : Int) < (R : Int))))), .eq (.bool b)] (by kernel_rfl) rfl (by kernel_rfl) ?_ ?_
      · refine sv 1 rfl rfl rfl (fun a u hE hD hk => exec_fldo 29 6 6 (.tmp 6) (g6) (0) (6) rfl (hE 6 (.pointer (some ⟨g6, 0, none⟩)) (by kernel_rfl) (by kernel_rfl)) (by kernel_rfl) rfl) ?_
        refine sv 2 rfl rfl rfl (fun a u hE hD hk => exec_loadi 3 Try.underlying3 (.tmp 17) ⟨g6, 6, none⟩ (.int .i64 c.qty) rfl (hD 0 17 (by kernel_rfl)) (range_int (range_kept HC6.out hk) 6 _ rfl)) ?_
        refine sv 3 rfl rfl rfl (fun a u hE hD hk => exec_fldo 25 0 0 (.tmp 5) (g5) (0) (0) rfl (hE 5 (.pointer (some ⟨g5, 0, none⟩)) (by kernel_rfl) (by kernel_rfl)) (by kernel_rfl) rfl) ?_
        refine sv 4 rfl rfl rfl (fun a u hE hD hk => exec_loadi 3 Try.underlying3 (.tmp 19) ⟨g5, 0, none⟩ (.int .i64 L.q) rfl (hD 2 19 (by kernel_rfl)) (range_int (range_kept HC5.out hk) 0 _ rfl)) ?_
        refine sv 5 rfl rfl rfl (fun a u hE hD hk => exec_gtn (p := c.qty) (q := L.q) rfl (hD 1 18 (by kernel_rfl)) (hD 3 20 (by kernel_rfl))) ?_
        refine sv 6 rfl rfl rfl (fun a u hE hD hk => exec_move (.tmp 21) _ rfl (hD 4 21 (by kernel_rfl))) ?_
        refine fsteps_cons 7 rfl (fun a u hE hD hk => f_unless ((decide ((L.q : Int) < (c.qty : Int)))) rfl rfl rfl (hD 5 22 (by kernel_rfl)) (fun hb => f_val (o := ⟨some 23, _, _, _, _, _⟩) (c.v) rfl (wanted_b rfl rfl (hD 5 22 (by kernel_rfl)) (eq_false_of hb)) (exec_ldS 29 _ (.tmp 6) (g6) (0) (c.cells) rfl (hE 6 (.pointer (some ⟨g6, 0, none⟩)) (by kernel_rfl) (by kernel_rfl)) (range_kept HC6.out hk) Try.underlying29 (by rw [c.len9]; exact ord_size)) rfl)) ?_
        refine fsteps_cons 8 rfl (fun a u hE hD hk => f_unless ((decide ((L.q : Int) < (c.qty : Int)))) rfl rfl rfl (hD 5 22 (by kernel_rfl)) (fun hb => f_val (o := ⟨some 24, _, _, _, _, _⟩) (.pointer (some ⟨g5, 1, none⟩)) rfl (wanted_b rfl rfl (hD 5 22 (by kernel_rfl)) (eq_false_of hb)) (exec_fldo 25 1 1 (.tmp 5) (g5) (0) (1) rfl (hE 5 (.pointer (some ⟨g5, 0, none⟩)) (by kernel_rfl) (by kernel_rfl)) (by kernel_rfl) rfl) rfl)) ?_
        refine fsteps_cons 9 rfl (fun a u hE hD hk => f_unless ((decide ((L.q : Int) < (c.qty : Int)))) rfl rfl rfl (hD 5 22 (by kernel_rfl)) (fun hb => f_val (o := ⟨some 25, _, _, _, _, _⟩) (.int .i64 L.m) rfl (wanted_b rfl rfl (hD 5 22 (by kernel_rfl)) (eq_false_of hb)) (exec_loadi 3 Try.underlying3 (.tmp 24) ⟨g5, 1, none⟩ (.int .i64 L.m) rfl ((hD 7 24 (by kernel_rfl)).1 hb) (range_int (range_kept HC5.out hk) 1 _ rfl)) rfl)) ?_
        refine fsteps_cons 10 rfl (fun a u hE hD hk => f_unless ((decide ((L.q : Int) < (c.qty : Int)))) rfl rfl rfl (hD 5 22 (by kernel_rfl)) (fun hb => f_call (o := ⟨some 26, _, _, _, _, _⟩) 21 #[c.v, .int .i64 L.m] rfl (wanted_b rfl rfl (hD 5 22 (by kernel_rfl)) (eq_false_of hb)) (exec_call 21 _ [.tmp 23, .tmp 25] _ [c.v, .int .i64 L.m] Try.func21 (by kernel_rfl) (by kernel_rfl) rfl (show [a.eval (.tmp 23), a.eval (.tmp 25)] = [c.v, .int .i64 L.m] from (by rw [show a.eval (.tmp 23) = c.v from ((hD 6 23 (by kernel_rfl)).1 hb), show a.eval (.tmp 25) = .int .i64 L.m from ((hD 8 25 (by kernel_rfl)).1 hb)] <;> rfl)) u) (worth_any c L.m HP.out (by unfold In64; omega) u))) ?_
        refine sv 11 rfl rfl rfl (fun a u hE hD hk => exec_pickor (.tmp 22) (.const (.bool true)) (.tmp 26) ((decide ((L.q : Int) < (c.qty : Int)))) ((c.worth L.m)) rfl (hD 5 22 (by kernel_rfl)) rfl (fun hb2 => ((hD 9 26 (by kernel_rfl)).1 hb2))) ?_
        refine sv 12 rfl rfl rfl (fun a u hE hD hk => exec_move (.tmp 27) _ rfl (hD 10 27 (by kernel_rfl))) ?_
        refine fsteps_cons 13 rfl (fun a u hE hD hk => f_unless (((decide ((L.q : Int) < (c.qty : Int))) || (c.worth L.m))) rfl rfl rfl (hD 11 28 (by kernel_rfl)) (fun hb => f_val (o := ⟨some 29, _, _, _, _, _⟩) (.pointer (some ⟨g, 0, none⟩)) rfl (wanted_b rfl rfl (hD 11 28 (by kernel_rfl)) (eq_false_of hb)) (exec_move (.tmp 0) _ rfl (hE 0 (.pointer (some ⟨g, 0, none⟩)) (by kernel_rfl) (by kernel_rfl))) rfl)) ?_
        refine fsteps_cons 14 rfl (fun a u hE hD hk => f_unless (((decide ((L.q : Int) < (c.qty : Int))) || (c.worth L.m))) rfl rfl rfl (hD 11 28 (by kernel_rfl)) (fun hb => f_val (o := ⟨some 30, _, _, _, _, _⟩) (.pointer (some ⟨g6, 0, none⟩)) rfl (wanted_b rfl rfl (hD 11 28 (by kernel_rfl)) (eq_false_of hb)) (exec_fldo 29 0 0 (.tmp 6) (g6) (0) (0) rfl (hE 6 (.pointer (some ⟨g6, 0, none⟩)) (by kernel_rfl) (by kernel_rfl)) (by kernel_rfl) rfl) rfl)) ?_
        refine fsteps_cons 15 rfl (fun a u hE hD hk => f_unless (((decide ((L.q : Int) < (c.qty : Int))) || (c.worth L.m))) rfl rfl rfl (hD 11 28 (by kernel_rfl)) (fun hb => f_val (o := ⟨some 31, _, _, _, _, _⟩) (.int .i64 c.tr) rfl (wanted_b rfl rfl (hD 11 28 (by kernel_rfl)) (eq_false_of hb)) (exec_loadi 3 Try.underlying3 (.tmp 30) ⟨g6, 0, none⟩ (.int .i64 c.tr) rfl ((hD 13 30 (by kernel_rfl)).1 hb) (range_int (range_kept HC6.out hk) 0 _ rfl)) rfl)) ?_
        refine fsteps_cons 16 rfl (fun a u hE hD hk => f_unless (((decide ((L.q : Int) < (c.qty : Int))) || (c.worth L.m))) rfl rfl rfl (hD 11 28 (by kernel_rfl)) (fun hb => f_call (o := ⟨some 32, _, _, _, _, _⟩) 22 #[.pointer (some ⟨g, 0, none⟩), .int .i64 c.tr] rfl (wanted_b rfl rfl (hD 11 28 (by kernel_rfl)) (eq_false_of hb)) (exec_call 22 _ [.tmp 29, .tmp 31] _ [.pointer (some ⟨g, 0, none⟩), .int .i64 c.tr] Try.func22 (by kernel_rfl) (by kernel_rfl) rfl (show [a.eval (.tmp 29), a.eval (.tmp 31)] = [.pointer (some ⟨g, 0, none⟩), .int .i64 c.tr] from (by rw [show a.eval (.tmp 29) = .pointer (some ⟨g, 0, none⟩) from ((hD 12 29 (by kernel_rfl)).1 hb), show a.eval (.tmp 31) = .int .i64 c.tr from ((hD 14 31 (by kernel_rfl)).1 hb)] <;> rfl)) u) (all_at' (HB1.out.kept hk) HI.out HA.out))) ?_
        refine fsteps_cons 17 rfl (fun a u hE hD hk => f_unless (((decide ((L.q : Int) < (c.qty : Int))) || (c.worth L.m))) rfl rfl rfl (hD 11 28 (by kernel_rfl)) (fun hb => f_val (o := ⟨some 33, _, _, _, _, _⟩) (.pointer (some ⟨g6, 6, none⟩)) rfl (wanted_b rfl rfl (hD 11 28 (by kernel_rfl)) (eq_false_of hb)) (exec_fldo 29 6 6 (.tmp 6) (g6) (0) (6) rfl (hE 6 (.pointer (some ⟨g6, 0, none⟩)) (by kernel_rfl) (by kernel_rfl)) (by kernel_rfl) rfl) rfl)) ?_
        refine fsteps_cons 18 rfl (fun a u hE hD hk => f_unless (((decide ((L.q : Int) < (c.qty : Int))) || (c.worth L.m))) rfl rfl rfl (hD 11 28 (by kernel_rfl)) (fun hb => f_val (o := ⟨some 34, _, _, _, _, _⟩) (.int .i64 c.qty) rfl (wanted_b rfl rfl (hD 11 28 (by kernel_rfl)) (eq_false_of hb)) (exec_loadi 3 Try.underlying3 (.tmp 33) ⟨g6, 6, none⟩ (.int .i64 c.qty) rfl ((hD 16 33 (by kernel_rfl)).1 hb) (range_int (range_kept HC6.out hk) 6 _ rfl)) rfl)) ?_
        refine fsteps_cons 19 rfl (fun a u hE hD hk => f_unless (((decide ((L.q : Int) < (c.qty : Int))) || (c.worth L.m))) rfl rfl rfl (hD 11 28 (by kernel_rfl)) (fun hb => f_val (o := ⟨some 35, _, _, _, _, _⟩) (.int .i64 ((A : Int) + (c.qty : Int))) rfl (wanted_b rfl rfl (hD 11 28 (by kernel_rfl)) (eq_false_of hb)) (exec_addn (p := (A)) (q := (c.qty)) ((A : Int) + (c.qty : Int)) rfl ((hD 15 32 (by kernel_rfl)).1 hb) ((hD 17 34 (by kernel_rfl)).1 hb) rfl (by omega) (by omega)) rfl)) ?_
        refine fsteps_cons 20 rfl (fun a u hE hD hk => f_unless (((decide ((L.q : Int) < (c.qty : Int))) || (c.worth L.m))) rfl rfl rfl (hD 11 28 (by kernel_rfl)) (fun hb => f_val (o := ⟨some 36, _, _, _, _, _⟩) (.pointer (some ⟨g5, 2, none⟩)) rfl (wanted_b rfl rfl (hD 11 28 (by kernel_rfl)) (eq_false_of hb)) (exec_fldo 25 2 2 (.tmp 5) (g5) (0) (2) rfl (hE 5 (.pointer (some ⟨g5, 0, none⟩)) (by kernel_rfl) (by kernel_rfl)) (by kernel_rfl) rfl) rfl)) ?_
        refine fsteps_cons 21 rfl (fun a u hE hD hk => f_unless (((decide ((L.q : Int) < (c.qty : Int))) || (c.worth L.m))) rfl rfl rfl (hD 11 28 (by kernel_rfl)) (fun hb => f_val (o := ⟨some 37, _, _, _, _, _⟩) (.int .i64 L.o) rfl (wanted_b rfl rfl (hD 11 28 (by kernel_rfl)) (eq_false_of hb)) (exec_loadi 3 Try.underlying3 (.tmp 36) ⟨g5, 2, none⟩ (.int .i64 L.o) rfl ((hD 19 36 (by kernel_rfl)).1 hb) (range_int (range_kept HC5.out hk) 2 _ rfl)) rfl)) ?_
        refine fsteps_cons 22 rfl (fun a u hE hD hk => f_unless (((decide ((L.q : Int) < (c.qty : Int))) || (c.worth L.m))) rfl rfl rfl (hD 11 28 (by kernel_rfl)) (fun hb => f_val (o := ⟨some 38, _, _, _, _, _⟩) (.bool (decide ((L.o : Int) < (((A : Int) + (c.qty : Int)) : Int)))) rfl (wanted_b rfl rfl (hD 11 28 (by kernel_rfl)) (eq_false_of hb)) (exec_gtn (p := ((A : Int) + (c.qty : Int))) (q := L.o) rfl ((hD 18 35 (by kernel_rfl)).1 hb) ((hD 20 37 (by kernel_rfl)).1 hb)) rfl)) ?_
        refine sv 23 rfl rfl rfl (fun a u hE hD hk => exec_pickor (.tmp 28) (.const (.bool true)) (.tmp 38) (((decide ((L.q : Int) < (c.qty : Int))) || (c.worth L.m))) ((decide ((L.o : Int) < (((A : Int) + (c.qty : Int)) : Int)))) rfl (hD 11 28 (by kernel_rfl)) rfl (fun hb2 => ((hD 21 38 (by kernel_rfl)).1 hb2))) ?_
        refine sv 24 rfl rfl rfl (fun a u hE hD hk => exec_move (.tmp 39) _ rfl (hD 22 39 (by kernel_rfl))) ?_
        refine fsteps_cons 25 rfl (fun a u hE hD hk => f_unless ((((decide ((L.q : Int) < (c.qty : Int))) || (c.worth L.m)) || (decide ((L.o : Int) < (((A : Int) + (c.qty : Int)) : Int))))) rfl rfl rfl (hD 23 40 (by kernel_rfl)) (fun hb => f_val (o := ⟨some 41, _, _, _, _, _⟩) (.pointer (some ⟨g, 0, none⟩)) rfl (wanted_b rfl rfl (hD 23 40 (by kernel_rfl)) (eq_false_of hb)) (exec_move (.tmp 0) _ rfl (hE 0 (.pointer (some ⟨g, 0, none⟩)) (by kernel_rfl) (by kernel_rfl))) rfl)) ?_
        refine fsteps_cons 26 rfl (fun a u hE hD hk => f_unless ((((decide ((L.q : Int) < (c.qty : Int))) || (c.worth L.m)) || (decide ((L.o : Int) < (((A : Int) + (c.qty : Int)) : Int))))) rfl rfl rfl (hD 23 40 (by kernel_rfl)) (fun hb => f_val (o := ⟨some 42, _, _, _, _, _⟩) (c.v) rfl (wanted_b rfl rfl (hD 23 40 (by kernel_rfl)) (eq_false_of hb)) (exec_ldS 29 _ (.tmp 6) (g6) (0) (c.cells) rfl (hE 6 (.pointer (some ⟨g6, 0, none⟩)) (by kernel_rfl) (by kernel_rfl)) (range_kept HC6.out hk) Try.underlying29 (by rw [c.len9]; exact ord_size)) rfl)) ?_
        refine fsteps_cons 27 rfl (fun a u hE hD hk => f_unless ((((decide ((L.q : Int) < (c.qty : Int))) || (c.worth L.m)) || (decide ((L.o : Int) < (((A : Int) + (c.qty : Int)) : Int))))) rfl rfl rfl (hD 23 40 (by kernel_rfl)) (fun hb => f_val (o := ⟨some 43, _, _, _, _, _⟩) (.int .i64 i) rfl (wanted_b rfl rfl (hD 23 40 (by kernel_rfl)) (eq_false_of hb)) (exec_move (.tmp 3) _ rfl (hE 3 (.int .i64 i) (by kernel_rfl) (by kernel_rfl))) rfl)) ?_
        refine fsteps_cons 28 rfl (fun a u hE hD hk => f_unless ((((decide ((L.q : Int) < (c.qty : Int))) || (c.worth L.m)) || (decide ((L.o : Int) < (((A : Int) + (c.qty : Int)) : Int))))) rfl rfl rfl (hD 23 40 (by kernel_rfl)) (fun hb => f_call (o := ⟨some 44, _, _, _, _, _⟩) 23 #[.pointer (some ⟨g, 0, none⟩), c.v, .int .i64 i] rfl (wanted_b rfl rfl (hD 23 40 (by kernel_rfl)) (eq_false_of hb)) (exec_call 23 _ [.tmp 41, .tmp 42, .tmp 43] _ [.pointer (some ⟨g, 0, none⟩), c.v, .int .i64 i] Try.func23 (by kernel_rfl) (by kernel_rfl) rfl (show [a.eval (.tmp 41), a.eval (.tmp 42), a.eval (.tmp 43)] = [.pointer (some ⟨g, 0, none⟩), c.v, .int .i64 i] from (by rw [show a.eval (.tmp 41) = .pointer (some ⟨g, 0, none⟩) from ((hD 24 41 (by kernel_rfl)).1 hb), show a.eval (.tmp 42) = c.v from ((hD 25 42 (by kernel_rfl)).1 hb), show a.eval (.tmp 43) = .int .i64 i from ((hD 26 43 (by kernel_rfl)).1 hb)] <;> rfl)) u) (by rw [← HR.out]; exact reach_any g B HI.out c hq0 hq1 i u (HB1.out.kept hk)))) ?_
        refine fsteps_cons 29 rfl (fun a u hE hD hk => f_unless ((((decide ((L.q : Int) < (c.qty : Int))) || (c.worth L.m)) || (decide ((L.o : Int) < (((A : Int) + (c.qty : Int)) : Int))))) rfl rfl rfl (hD 23 40 (by kernel_rfl)) (fun hb => f_val (o := ⟨some 45, _, _, _, _, _⟩) (.pointer (some ⟨g5, 3, none⟩)) rfl (wanted_b rfl rfl (hD 23 40 (by kernel_rfl)) (eq_false_of hb)) (exec_fldo 25 3 3 (.tmp 5) (g5) (0) (3) rfl (hE 5 (.pointer (some ⟨g5, 0, none⟩)) (by kernel_rfl) (by kernel_rfl)) (by kernel_rfl) rfl) rfl)) ?_
        refine fsteps_cons 30 rfl (fun a u hE hD hk => f_unless ((((decide ((L.q : Int) < (c.qty : Int))) || (c.worth L.m)) || (decide ((L.o : Int) < (((A : Int) + (c.qty : Int)) : Int))))) rfl rfl rfl (hD 23 40 (by kernel_rfl)) (fun hb => f_val (o := ⟨some 46, _, _, _, _, _⟩) (.int .i64 L.p) rfl (wanted_b rfl rfl (hD 23 40 (by kernel_rfl)) (eq_false_of hb)) (exec_loadi 3 Try.underlying3 (.tmp 45) ⟨g5, 3, none⟩ (.int .i64 L.p) rfl ((hD 28 45 (by kernel_rfl)).1 hb) (range_int (range_kept HC5.out hk) 3 _ rfl)) rfl)) ?_
        refine fsteps_cons 31 rfl (fun a u hE hD hk => f_unless ((((decide ((L.q : Int) < (c.qty : Int))) || (c.worth L.m)) || (decide ((L.o : Int) < (((A : Int) + (c.qty : Int)) : Int))))) rfl rfl rfl (hD 23 40 (by kernel_rfl)) (fun hb => f_val (o := ⟨some 47, _, _, _, _, _⟩) (.bool (decide ((L.p : Int) < (R : Int)))) rfl (wanted_b rfl rfl (hD 23 40 (by kernel_rfl)) (eq_false_of hb)) (exec_gtn (p := R) (q := L.p) rfl ((hD 27 44 (by kernel_rfl)).1 hb) ((hD 29 46 (by kernel_rfl)).1 hb)) rfl)) ?_
        refine fsteps_cons 32 rfl (fun a u hE hD hk => f_as (show (((((decide ((L.q : Int) < (c.qty : Int))) || (c.worth L.m)) || (decide ((L.o : Int) < (((A : Int) + (c.qty : Int)) : Int)))) || (decide ((L.p : Int) < (R : Int)))) : Bool) = b from HV.out) (f_val (o := ⟨some 48, _, _, _, _, _⟩) (.bool ((((decide ((L.q : Int) < (c.qty : Int))) || (c.worth L.m)) || (decide ((L.o : Int) < (((A : Int) + (c.qty : Int)) : Int)))) || (decide ((L.p : Int) < (R : Int))))) rfl (wanted_none rfl _) (exec_pickor (.tmp 40) (.const (.bool true)) (.tmp 47) ((((decide ((L.q : Int) < (c.qty : Int))) || (c.worth L.m)) || (decide ((L.o : Int) < (((A : Int) + (c.qty : Int)) : Int))))) ((decide ((L.p : Int) < (R : Int)))) rfl (hD 23 40 (by kernel_rfl)) rfl (fun hb2 => ((hD 30 47 (by kernel_rfl)).1 hb2))) rfl)) ?_
        exact fsteps_nil
      intro gv w2 hV k2
      rw [show dstsOf _ 32 = [17, 18, 19, 20, 21, 22, 23, 24, 25, 26, 27, 28, 29, 30, 31, 32, 33, 34, 35, 36, 37, 38, 39, 40, 41, 42, 43, 44, 45, 46, 47, 48] by kernel_rfl]
      simp only [List.foldl_cons, List.foldl_nil, List.setIfInBounds_toArray, List.set_cons_succ, List.set_cons_zero, List.drop_succ_cons, List.drop_zero]
      rw [show gv 48 = .bool b from hV 31 48 (by kernel_rfl)]
      clear hV
      refine wpList_nil ?_
      have kw := (k0.trans k1).trans k2
      cases b with
      | true =>
        obtain rfl : 8 = V := hU
        go_wp2
        go_ret
        exact ⟨rfl, kw⟩
      | false =>
        obtain rfl : 0 = V := hU
        go_wp2
        go_ret
        exact ⟨rfl, kw⟩
end Go.Proofs.Ytgajdkelpaaadaa
