/-
  The contracts of the document's own limits. Conditions: accounts in memory; what is open is from 0 to MaxTick, each position from -MaxTick to MaxTick; the limits lie ahead of them.
-/
import Derived.Test.YtgajdkelpaaadaaRskM
import Derived.Test.YtgajdkelpaaadaaAcD
import Derived.Test.YtgajdkelpaaadaaOrdF
import Derived.Test.YtgajdkelpaaadaaOrdR
import Derived.Test.YtgajdkelpaaadaaSegEx
import Derived.Test.YtgajdkelpaaadaaSchT
namespace Go.Proofs.Ytgajdkelpaaadaa
open Go.RowKit
set_option linter.unusedVariables false
set_option maxRecDepth 100000

theorem zA16 : (Try.prog.info? 40).map (·.zero) = some (some (.agg (lay 16 fun _ => 0).toArray)) := by kernel_rfl
theorem szA16 : (Try.prog.info? 40).map (·.size) = some 16 := by kernel_rfl
theorem lright_eq (L : Lim) : ((((((decide (0 ≤ L.q) && decide (L.q ≤ 1048576)) && decide (0 ≤ L.m)) && decide (0 ≤ L.o)) && decide (L.o ≤ 1099511627776)) && decide (0 ≤ L.p)) && decide (L.p ≤ 1099511627776)) = L.right := by
  unfold Lim.right wiB
  simp only [Bool.and_assoc]
set_option maxRecDepth 100000 in
set_option maxHeartbeats 1600000 in
theorem rlright_any (L : Lim) (w : World) : Gives 14 #[L.v] w (.eq (.bool L.right)) := by
  refine gives_eq ?_
  obtain ⟨b, hb⟩ : ∃ b, L.right = b := ⟨_, rfl⟩
  have HV := Lib.hid ((lright_eq L).trans hb)
  rw [hb]
  clear hb
  obtain ⟨b0, hb0⟩ : ∃ z, w.alloc (.cells L.cells.toArray 25) = z := ⟨_, rfl⟩
  have q0 : Kept w b0 := by rw [← hb0]; exact (Keep.refl _ _).alloc _
  have r0 : b0.rangeAt w.heap.size 0 L.cells := by rw [← hb0]; exact blk_range (Blk.new w 25 L.cells)
  have HB1 := Lib.hid (r0)
  have k0 := q0
  clear r0
  go_enter Try.func14, Try.ntmps14
  go_upto_region 0 with fail
  refine wp_region_lit ?_
  refine l_new (o := ⟨some 1, _, _, _, _, _⟩) (.pointer (some ⟨w.heap.size, 0, none⟩)) b0 rfl (by rw [← hb0]; exact exec_box 25 (.tmp 0) L.cells rfl (by kernel_rfl)) ?_
  simp only [Act.put, List.setIfInBounds_toArray, List.set_cons_succ, List.set_cons_zero]
  refine l_val (o := ⟨some 2, _, _, _, _, _⟩) (.bool false) rfl (exec_assign (.const (.bool false)) (.bool false) rfl (by kernel_rfl)) ?_
  simp only [Act.put, List.setIfInBounds_toArray, List.set_cons_succ, List.set_cons_zero]
  refine wpList_nil ?_
  obtain ⟨g1, hg1⟩ : ∃ g, w.heap.size = g := ⟨_, rfl⟩
  rw [hg1] at HB1 ⊢
  clear hg1 hb0 q0
  go_upto_region 1 with fail
  refine wp_text 34 [.eq (.pointer (some ⟨g1, 0, none⟩)), .eq (.int .i64 L.q), .eq (.bool (decide ((0 : Int) ≤ (L.q : Int)))), .eq (.bool (decide ((0 : Int) ≤ (L.q : Int)))), .cond (decide ((0 : Int) ≤ (L.q : Int))) (.eq (.pointer (some ⟨g1, 0, none⟩))), .cond (decide ((0 : Int) ≤ (L.q : Int))) (.eq (.int .i64 L.q)), .cond (decide ((0 : Int) ≤ (L.q : Int))) (.eq (.bool (decide ((L.q : Int) ≤ (1048576 : Int))))), .eq (.bool ((decide ((0 : Int) ≤ (L.q : Int))) && (decide ((L.q : Int) ≤ (1048576 : Int))))), .eq (.bool ((decide ((0 : Int) ≤ (L.q : Int))) && (decide ((L.q : Int) ≤ (1048576 : Int))))), .cond ((decide ((0 : Int) ≤ (L.q : Int))) && (decide ((L.q : Int) ≤ (1048576 : Int)))) (.eq (.pointer (some ⟨g1, 1, none⟩))), .cond ((decide ((0 : Int) ≤ (L.q : Int))) && (decide ((L.q : Int) ≤ (1048576 : Int)))) (.eq (.int .i64 L.m)), .cond ((decide ((0 : Int) ≤ (L.q : Int))) && (decide ((L.q : Int) ≤ (1048576 : Int)))) (.eq (.bool (decide ((0 : Int) ≤ (L.m : Int))))), .eq (.bool (((decide ((0 : Int) ≤ (L.q : Int))) && (decide ((L.q : Int) ≤ (1048576 : Int)))) && (decide ((0 : Int) ≤ (L.m : Int))))), .eq (.bool (((decide ((0 : Int) ≤ (L.q : Int))) && (decide ((L.q : Int) ≤ (1048576 : Int)))) && (decide ((0 : Int) ≤ (L.m : Int))))), .cond (((decide ((0 : Int) ≤ (L.q : Int))) && (decide ((L.q : Int) ≤ (1048576 : Int)))) && (decide ((0 : Int) ≤ (L.m : Int)))) (.eq (.pointer (some ⟨g1, 2, none⟩))), .cond (((decide ((0 : Int) ≤ (L.q : Int))) && (decide ((L.q : Int) ≤ (1048576 : Int)))) && (decide ((0 : Int) ≤ (L.m : Int)))) (.eq (.int .i64 L.o)), .cond (((decide ((0 : Int) ≤ (L.q : Int))) && (decide ((L.q : Int) ≤ (1048576 : Int)))) && (decide ((0 : Int) ≤ (L.m : Int)))) (.eq (.bool (decide ((0 : Int) ≤ (L.o : Int))))), .eq (.bool ((((decide ((0 : Int) ≤ (L.q : Int))) && (decide ((L.q : Int) ≤ (1048576 : Int)))) && (decide ((0 : Int) ≤ (L.m : Int)))) && (decide ((0 : Int) ≤ (L.o : Int))))), .eq (.bool ((((decide ((0 : Int) ≤ (L.q : Int))) && (decide ((L.q : Int) ≤ (1048576 : Int)))) && (decide ((0 : Int) ≤ (L.m : Int)))) && (decide ((0 : Int) ≤ (L.o : Int))))), .cond ((((decide ((0 : Int) ≤ (L.q : Int))) && (decide ((L.q : Int) ≤ (1048576 : Int)))) && (decide ((0 : Int) ≤ (L.m : Int)))) && (decide ((0 : Int) ≤ (L.o : Int)))) (.eq (.pointer (some ⟨g1, 2, none⟩))), .cond ((((decide ((0 : Int) ≤ (L.q : Int))) && (decide ((L.q : Int) ≤ (1048576 : Int)))) && (decide ((0 : Int) ≤ (L.m : Int)))) && (decide ((0 : Int) ≤ (L.o : Int)))) (.eq (.int .i64 L.o)), .cond ((((decide ((0 : Int) ≤ (L.q : Int))) && (decide ((L.q : Int) ≤ (1048576 : Int)))) && (decide ((0 : Int) ≤ (L.m : Int)))) && (decide ((0 : Int) ≤ (L.o : Int)))) (.eq (.bool (decide ((L.o : Int) ≤ (1099511627776 : Int))))), .eq (.bool (((((decide ((0 : Int) ≤ (L.q : Int))) && (decide ((L.q : Int) ≤ (1048576 : Int)))) && (decide ((0 : Int) ≤ (L.m : Int)))) && (decide ((0 : Int) ≤ (L.o : Int)))) && (decide ((L.o : Int) ≤ (1099511627776 : Int))))), .eq (.bool (((((decide ((0 : Int) ≤ (L.q : Int))) && (decide ((L.q : Int) ≤ (1048576 : Int)))) && (decide ((0 : Int) ≤ (L.m : Int)))) && (decide ((0 : Int) ≤ (L.o : Int)))) && (decide ((L.o : Int) ≤ (1099511627776 : Int))))), .cond (((((decide ((0 : Int) ≤ (L.q : Int))) && (decide ((L.q : Int) ≤ (1048576 : Int)))) && (decide ((0 : Int) ≤ (L.m : Int)))) && (decide ((0 : Int) ≤ (L.o : Int)))) && (decide ((L.o : Int) ≤ (1099511627776 : Int)))) (.eq (.pointer (some ⟨g1, 3, none⟩))), .cond (((((decide ((0 : Int) ≤ (L.q : Int))) && (decide ((L.q : Int) ≤ (1048576 : Int)))) && (decide ((0 : Int) ≤ (L.m : Int)))) && (decide ((0 : Int) ≤ (L.o : Int)))) && (decide ((L.o : Int) ≤ (1099511627776 : Int)))) (.eq (.int .i64 L.p)), .cond (((((decide ((0 : Int) ≤ (L.q : Int))) && (decide ((L.q : Int) ≤ (1048576 : Int)))) && (decide ((0 : Int) ≤ (L.m : Int)))) && (decide ((0 : Int) ≤ (L.o : Int)))) && (decide ((L.o : Int) ≤ (1099511627776 : Int)))) (.eq (.bool (decide ((0 : Int) ≤ (L.p : Int))))), .eq (.bool ((((((decide ((0 : Int) ≤ (L.q : Int))) && (decide ((L.q : Int) ≤ (1048576 : Int)))) && (decide ((0 : Int) ≤ (L.m : Int)))) && (decide ((0 : Int) ≤ (L.o : Int)))) && (decide ((L.o : Int) ≤ (1099511627776 : Int)))) && (decide ((0 : Int) ≤ (L.p : Int))))), .eq (.bool ((((((decide ((0 : Int) ≤ (L.q : Int))) && (decide ((L.q : Int) ≤ (1048576 : Int)))) && (decide ((0 : Int) ≤ (L.m : Int)))) && (decide ((0 : Int) ≤ (L.o : Int)))) && (decide ((L.o : Int) ≤ (1099511627776 : Int)))) && (decide ((0 : Int) ≤ (L.p : Int))))), .cond ((((((decide ((0 : Int) ≤ (L.q : Int))) && (decide ((L.q : Int) ≤ (1048576 : Int)))) && (decide ((0 : Int) ≤ (L.m : Int)))) && (decide ((0 : Int) ≤ (L.o : Int)))) && (decide ((L.o : Int) ≤ (1099511627776 : Int)))) && (decide ((0 : Int) ≤ (L.p : Int)))) (.eq (.pointer (some ⟨g1, 3, none⟩))), .cond ((((((decide ((0 : Int) ≤ (L.q : Int))) && (decide ((L.q : Int) ≤ (1048576 : Int)))) && (decide ((0 : Int) ≤ (L.m : Int)))) && (decide ((0 : Int) ≤ (L.o : Int)))) && (decide ((L.o : Int) ≤ (1099511627776 : Int)))) && (decide ((0 : Int) ≤ (L.p : Int)))) (.eq (.int .i64 L.p)), .cond ((((((decide ((0 : Int) ≤ (L.q : Int))) && (decide ((L.q : Int) ≤ (1048576 : Int)))) && (decide ((0 : Int) ≤ (L.m : Int)))) && (decide ((0 : Int) ≤ (L.o : Int)))) && (decide ((L.o : Int) ≤ (1099511627776 : Int)))) && (decide ((0 : Int) ≤ (L.p : Int)))) (.eq (.bool (decide ((L.p : Int) ≤ (1099511627776 : Int))))), .eq (.bool b), .eq (.bool b)] rfl (by kernel_rfl) ?_ ?_
  · refine sv 1 rfl rfl rfl (fun a u hE hD hk => exec_fldo 25 0 0 (.tmp 1) (g1) (0) (0) rfl (hE 1 (.pointer (some ⟨g1, 0, none⟩)) (by kernel_rfl) (by kernel_rfl)) (by kernel_rfl) rfl) ?_
    refine sv 2 rfl rfl rfl (fun a u hE hD hk => exec_loadi 3 Try.underlying3 (.tmp 3) ⟨g1, 0, none⟩ (.int .i64 L.q) rfl (hD 0 3 (by kernel_rfl)) (range_int (range_kept HB1.out hk) 0 _ rfl)) ?_
    refine sv 3 rfl rfl rfl (fun a u hE hD hk => exec_gen (p := L.q) (q := 0) rfl (hD 1 4 (by kernel_rfl)) rfl) ?_
    refine sv 4 rfl rfl rfl (fun a u hE hD hk => exec_move (.tmp 5) _ rfl (hD 2 5 (by kernel_rfl))) ?_
    refine fsteps_cons 5 rfl (fun a u hE hD hk => f_if ((decide ((0 : Int) ≤ (L.q : Int)))) rfl rfl rfl (hD 3 6 (by kernel_rfl)) (fun hb => f_val (o := ⟨some 7, _, _, _, _, _⟩) (.pointer (some ⟨g1, 0, none⟩)) rfl (wanted_b rfl rfl (hD 3 6 (by kernel_rfl)) (eq_true_of hb)) (exec_fldo 25 0 0 (.tmp 1) (g1) (0) (0) rfl (hE 1 (.pointer (some ⟨g1, 0, none⟩)) (by kernel_rfl) (by kernel_rfl)) (by kernel_rfl) rfl) rfl)) ?_
    refine fsteps_cons 6 rfl (fun a u hE hD hk => f_if ((decide ((0 : Int) ≤ (L.q : Int)))) rfl rfl rfl (hD 3 6 (by kernel_rfl)) (fun hb => f_val (o := ⟨some 8, _, _, _, _, _⟩) (.int .i64 L.q) rfl (wanted_b rfl rfl (hD 3 6 (by kernel_rfl)) (eq_true_of hb)) (exec_loadi 3 Try.underlying3 (.tmp 7) ⟨g1, 0, none⟩ (.int .i64 L.q) rfl ((hD 4 7 (by kernel_rfl)).1 hb) (range_int (range_kept HB1.out hk) 0 _ rfl)) rfl)) ?_
    refine fsteps_cons 7 rfl (fun a u hE hD hk => f_if ((decide ((0 : Int) ≤ (L.q : Int)))) rfl rfl rfl (hD 3 6 (by kernel_rfl)) (fun hb => f_val (o := ⟨some 9, _, _, _, _, _⟩) (.bool (decide ((L.q : Int) ≤ (1048576 : Int)))) rfl (wanted_b rfl rfl (hD 3 6 (by kernel_rfl)) (eq_true_of hb)) (exec_len_ (p := L.q) (q := 1048576) rfl ((hD 5 8 (by kernel_rfl)).1 hb) rfl) rfl)) ?_
    refine sv 8 rfl rfl rfl (fun a u hE hD hk => exec_pickand (.tmp 6) (.tmp 9) (.const (.bool false)) ((decide ((0 : Int) ≤ (L.q : Int)))) ((decide ((L.q : Int) ≤ (1048576 : Int)))) rfl (hD 3 6 (by kernel_rfl)) (fun hb2 => ((hD 6 9 (by kernel_rfl)).1 hb2)) rfl) ?_
    refine sv 9 rfl rfl rfl (fun a u hE hD hk => exec_move (.tmp 10) _ rfl (hD 7 10 (by kernel_rfl))) ?_
    refine fsteps_cons 10 rfl (fun a u hE hD hk => f_if (((decide ((0 : Int) ≤ (L.q : Int))) && (decide ((L.q : Int) ≤ (1048576 : Int))))) rfl rfl rfl (hD 8 11 (by kernel_rfl)) (fun hb => f_val (o := ⟨some 12, _, _, _, _, _⟩) (.pointer (some ⟨g1, 1, none⟩)) rfl (wanted_b rfl rfl (hD 8 11 (by kernel_rfl)) (eq_true_of hb)) (exec_fldo 25 1 1 (.tmp 1) (g1) (0) (1) rfl (hE 1 (.pointer (some ⟨g1, 0, none⟩)) (by kernel_rfl) (by kernel_rfl)) (by kernel_rfl) rfl) rfl)) ?_
    refine fsteps_cons 11 rfl (fun a u hE hD hk => f_if (((decide ((0 : Int) ≤ (L.q : Int))) && (decide ((L.q : Int) ≤ (1048576 : Int))))) rfl rfl rfl (hD 8 11 (by kernel_rfl)) (fun hb => f_val (o := ⟨some 13, _, _, _, _, _⟩) (.int .i64 L.m) rfl (wanted_b rfl rfl (hD 8 11 (by kernel_rfl)) (eq_true_of hb)) (exec_loadi 3 Try.underlying3 (.tmp 12) ⟨g1, 1, none⟩ (.int .i64 L.m) rfl ((hD 9 12 (by kernel_rfl)).1 hb) (range_int (range_kept HB1.out hk) 1 _ rfl)) rfl)) ?_
    refine fsteps_cons 12 rfl (fun a u hE hD hk => f_if (((decide ((0 : Int) ≤ (L.q : Int))) && (decide ((L.q : Int) ≤ (1048576 : Int))))) rfl rfl rfl (hD 8 11 (by kernel_rfl)) (fun hb => f_val (o := ⟨some 14, _, _, _, _, _⟩) (.bool (decide ((0 : Int) ≤ (L.m : Int)))) rfl (wanted_b rfl rfl (hD 8 11 (by kernel_rfl)) (eq_true_of hb)) (exec_gen (p := L.m) (q := 0) rfl ((hD 10 13 (by kernel_rfl)).1 hb) rfl) rfl)) ?_
    refine sv 13 rfl rfl rfl (fun a u hE hD hk => exec_pickand (.tmp 11) (.tmp 14) (.const (.bool false)) (((decide ((0 : Int) ≤ (L.q : Int))) && (decide ((L.q : Int) ≤ (1048576 : Int))))) ((decide ((0 : Int) ≤ (L.m : Int)))) rfl (hD 8 11 (by kernel_rfl)) (fun hb2 => ((hD 11 14 (by kernel_rfl)).1 hb2)) rfl) ?_
    refine sv 14 rfl rfl rfl (fun a u hE hD hk => exec_move (.tmp 15) _ rfl (hD 12 15 (by kernel_rfl))) ?_
    refine fsteps_cons 15 rfl (fun a u hE hD hk => f_if ((((decide ((0 : Int) ≤ (L.q : Int))) && (decide ((L.q : Int) ≤ (1048576 : Int)))) && (decide ((0 : Int) ≤ (L.m : Int))))) rfl rfl rfl (hD 13 16 (by kernel_rfl)) (fun hb => f_val (o := ⟨some 17, _, _, _, _, _⟩) (.pointer (some ⟨g1, 2, none⟩)) rfl (wanted_b rfl rfl (hD 13 16 (by kernel_rfl)) (eq_true_of hb)) (exec_fldo 25 2 2 (.tmp 1) (g1) (0) (2) rfl (hE 1 (.pointer (some ⟨g1, 0, none⟩)) (by kernel_rfl) (by kernel_rfl)) (by kernel_rfl) rfl) rfl)) ?_
    refine fsteps_cons 16 rfl (fun a u hE hD hk => f_if ((((decide ((0 : Int) ≤ (L.q : Int))) && (decide ((L.q : Int) ≤ (1048576 : Int)))) && (decide ((0 : Int) ≤ (L.m : Int))))) rfl rfl rfl (hD 13 16 (by kernel_rfl)) (fun hb => f_val (o := ⟨some 18, _, _, _, _, _⟩) (.int .i64 L.o) rfl (wanted_b rfl rfl (hD 13 16 (by kernel_rfl)) (eq_true_of hb)) (exec_loadi 3 Try.underlying3 (.tmp 17) ⟨g1, 2, none⟩ (.int .i64 L.o) rfl ((hD 14 17 (by kernel_rfl)).1 hb) (range_int (range_kept HB1.out hk) 2 _ rfl)) rfl)) ?_
    refine fsteps_cons 17 rfl (fun a u hE hD hk => f_if ((((decide ((0 : Int) ≤ (L.q : Int))) && (decide ((L.q : Int) ≤ (1048576 : Int)))) && (decide ((0 : Int) ≤ (L.m : Int))))) rfl rfl rfl (hD 13 16 (by kernel_rfl)) (fun hb => f_val (o := ⟨some 19, _, _, _, _, _⟩) (.bool (decide ((0 : Int) ≤ (L.o : Int)))) rfl (wanted_b rfl rfl (hD 13 16 (by kernel_rfl)) (eq_true_of hb)) (exec_gen (p := L.o) (q := 0) rfl ((hD 15 18 (by kernel_rfl)).1 hb) rfl) rfl)) ?_
    refine sv 18 rfl rfl rfl (fun a u hE hD hk => exec_pickand (.tmp 16) (.tmp 19) (.const (.bool false)) ((((decide ((0 : Int) ≤ (L.q : Int))) && (decide ((L.q : Int) ≤ (1048576 : Int)))) && (decide ((0 : Int) ≤ (L.m : Int))))) ((decide ((0 : Int) ≤ (L.o : Int)))) rfl (hD 13 16 (by kernel_rfl)) (fun hb2 => ((hD 16 19 (by kernel_rfl)).1 hb2)) rfl) ?_
    refine sv 19 rfl rfl rfl (fun a u hE hD hk => exec_move (.tmp 20) _ rfl (hD 17 20 (by kernel_rfl))) ?_
    refine fsteps_cons 20 rfl (fun a u hE hD hk => f_if (((((decide ((0 : Int) ≤ (L.q : Int))) && (decide ((L.q : Int) ≤ (1048576 : Int)))) && (decide ((0 : Int) ≤ (L.m : Int)))) && (decide ((0 : Int) ≤ (L.o : Int))))) rfl rfl rfl (hD 18 21 (by kernel_rfl)) (fun hb => f_val (o := ⟨some 22, _, _, _, _, _⟩) (.pointer (some ⟨g1, 2, none⟩)) rfl (wanted_b rfl rfl (hD 18 21 (by kernel_rfl)) (eq_true_of hb)) (exec_fldo 25 2 2 (.tmp 1) (g1) (0) (2) rfl (hE 1 (.pointer (some ⟨g1, 0, none⟩)) (by kernel_rfl) (by kernel_rfl)) (by kernel_rfl) rfl) rfl)) ?_
    refine fsteps_cons 21 rfl (fun a u hE hD hk => f_if (((((decide ((0 : Int) ≤ (L.q : Int))) && (decide ((L.q : Int) ≤ (1048576 : Int)))) && (decide ((0 : Int) ≤ (L.m : Int)))) && (decide ((0 : Int) ≤ (L.o : Int))))) rfl rfl rfl (hD 18 21 (by kernel_rfl)) (fun hb => f_val (o := ⟨some 23, _, _, _, _, _⟩) (.int .i64 L.o) rfl (wanted_b rfl rfl (hD 18 21 (by kernel_rfl)) (eq_true_of hb)) (exec_loadi 3 Try.underlying3 (.tmp 22) ⟨g1, 2, none⟩ (.int .i64 L.o) rfl ((hD 19 22 (by kernel_rfl)).1 hb) (range_int (range_kept HB1.out hk) 2 _ rfl)) rfl)) ?_
    refine fsteps_cons 22 rfl (fun a u hE hD hk => f_if (((((decide ((0 : Int) ≤ (L.q : Int))) && (decide ((L.q : Int) ≤ (1048576 : Int)))) && (decide ((0 : Int) ≤ (L.m : Int)))) && (decide ((0 : Int) ≤ (L.o : Int))))) rfl rfl rfl (hD 18 21 (by kernel_rfl)) (fun hb => f_val (o := ⟨some 24, _, _, _, _, _⟩) (.bool (decide ((L.o : Int) ≤ (1099511627776 : Int)))) rfl (wanted_b rfl rfl (hD 18 21 (by kernel_rfl)) (eq_true_of hb)) (exec_len_ (p := L.o) (q := 1099511627776) rfl ((hD 20 23 (by kernel_rfl)).1 hb) rfl) rfl)) ?_
    refine sv 23 rfl rfl rfl (fun a u hE hD hk => exec_pickand (.tmp 21) (.tmp 24) (.const (.bool false)) (((((decide ((0 : Int) ≤ (L.q : Int))) && (decide ((L.q : Int) ≤ (1048576 : Int)))) && (decide ((0 : Int) ≤ (L.m : Int)))) && (decide ((0 : Int) ≤ (L.o : Int))))) ((decide ((L.o : Int) ≤ (1099511627776 : Int)))) rfl (hD 18 21 (by kernel_rfl)) (fun hb2 => ((hD 21 24 (by kernel_rfl)).1 hb2)) rfl) ?_
    refine sv 24 rfl rfl rfl (fun a u hE hD hk => exec_move (.tmp 25) _ rfl (hD 22 25 (by kernel_rfl))) ?_
    refine fsteps_cons 25 rfl (fun a u hE hD hk => f_if ((((((decide ((0 : Int) ≤ (L.q : Int))) && (decide ((L.q : Int) ≤ (1048576 : Int)))) && (decide ((0 : Int) ≤ (L.m : Int)))) && (decide ((0 : Int) ≤ (L.o : Int)))) && (decide ((L.o : Int) ≤ (1099511627776 : Int))))) rfl rfl rfl (hD 23 26 (by kernel_rfl)) (fun hb => f_val (o := ⟨some 27, _, _, _, _, _⟩) (.pointer (some ⟨g1, 3, none⟩)) rfl (wanted_b rfl rfl (hD 23 26 (by kernel_rfl)) (eq_true_of hb)) (exec_fldo 25 3 3 (.tmp 1) (g1) (0) (3) rfl (hE 1 (.pointer (some ⟨g1, 0, none⟩)) (by kernel_rfl) (by kernel_rfl)) (by kernel_rfl) rfl) rfl)) ?_
    refine fsteps_cons 26 rfl (fun a u hE hD hk => f_if ((((((decide ((0 : Int) ≤ (L.q : Int))) && (decide ((L.q : Int) ≤ (1048576 : Int)))) && (decide ((0 : Int) ≤ (L.m : Int)))) && (decide ((0 : Int) ≤ (L.o : Int)))) && (decide ((L.o : Int) ≤ (1099511627776 : Int))))) rfl rfl rfl (hD 23 26 (by kernel_rfl)) (fun hb => f_val (o := ⟨some 28, _, _, _, _, _⟩) (.int .i64 L.p) rfl (wanted_b rfl rfl (hD 23 26 (by kernel_rfl)) (eq_true_of hb)) (exec_loadi 3 Try.underlying3 (.tmp 27) ⟨g1, 3, none⟩ (.int .i64 L.p) rfl ((hD 24 27 (by kernel_rfl)).1 hb) (range_int (range_kept HB1.out hk) 3 _ rfl)) rfl)) ?_
    refine fsteps_cons 27 rfl (fun a u hE hD hk => f_if ((((((decide ((0 : Int) ≤ (L.q : Int))) && (decide ((L.q : Int) ≤ (1048576 : Int)))) && (decide ((0 : Int) ≤ (L.m : Int)))) && (decide ((0 : Int) ≤ (L.o : Int)))) && (decide ((L.o : Int) ≤ (1099511627776 : Int))))) rfl rfl rfl (hD 23 26 (by kernel_rfl)) (fun hb => f_val (o := ⟨some 29, _, _, _, _, _⟩) (.bool (decide ((0 : Int) ≤ (L.p : Int)))) rfl (wanted_b rfl rfl (hD 23 26 (by kernel_rfl)) (eq_true_of hb)) (exec_gen (p := L.p) (q := 0) rfl ((hD 25 28 (by kernel_rfl)).1 hb) rfl) rfl)) ?_
    refine sv 28 rfl rfl rfl (fun a u hE hD hk => exec_pickand (.tmp 26) (.tmp 29) (.const (.bool false)) ((((((decide ((0 : Int) ≤ (L.q : Int))) && (decide ((L.q : Int) ≤ (1048576 : Int)))) && (decide ((0 : Int) ≤ (L.m : Int)))) && (decide ((0 : Int) ≤ (L.o : Int)))) && (decide ((L.o : Int) ≤ (1099511627776 : Int))))) ((decide ((0 : Int) ≤ (L.p : Int)))) rfl (hD 23 26 (by kernel_rfl)) (fun hb2 => ((hD 26 29 (by kernel_rfl)).1 hb2)) rfl) ?_
    refine sv 29 rfl rfl rfl (fun a u hE hD hk => exec_move (.tmp 30) _ rfl (hD 27 30 (by kernel_rfl))) ?_
    refine fsteps_cons 30 rfl (fun a u hE hD hk => f_if (((((((decide ((0 : Int) ≤ (L.q : Int))) && (decide ((L.q : Int) ≤ (1048576 : Int)))) && (decide ((0 : Int) ≤ (L.m : Int)))) && (decide ((0 : Int) ≤ (L.o : Int)))) && (decide ((L.o : Int) ≤ (1099511627776 : Int)))) && (decide ((0 : Int) ≤ (L.p : Int))))) rfl rfl rfl (hD 28 31 (by kernel_rfl)) (fun hb => f_val (o := ⟨some 32, _, _, _, _, _⟩) (.pointer (some ⟨g1, 3, none⟩)) rfl (wanted_b rfl rfl (hD 28 31 (by kernel_rfl)) (eq_true_of hb)) (exec_fldo 25 3 3 (.tmp 1) (g1) (0) (3) rfl (hE 1 (.pointer (some ⟨g1, 0, none⟩)) (by kernel_rfl) (by kernel_rfl)) (by kernel_rfl) rfl) rfl)) ?_
    refine fsteps_cons 31 rfl (fun a u hE hD hk => f_if (((((((decide ((0 : Int) ≤ (L.q : Int))) && (decide ((L.q : Int) ≤ (1048576 : Int)))) && (decide ((0 : Int) ≤ (L.m : Int)))) && (decide ((0 : Int) ≤ (L.o : Int)))) && (decide ((L.o : Int) ≤ (1099511627776 : Int)))) && (decide ((0 : Int) ≤ (L.p : Int))))) rfl rfl rfl (hD 28 31 (by kernel_rfl)) (fun hb => f_val (o := ⟨some 33, _, _, _, _, _⟩) (.int .i64 L.p) rfl (wanted_b rfl rfl (hD 28 31 (by kernel_rfl)) (eq_true_of hb)) (exec_loadi 3 Try.underlying3 (.tmp 32) ⟨g1, 3, none⟩ (.int .i64 L.p) rfl ((hD 29 32 (by kernel_rfl)).1 hb) (range_int (range_kept HB1.out hk) 3 _ rfl)) rfl)) ?_
    refine fsteps_cons 32 rfl (fun a u hE hD hk => f_if (((((((decide ((0 : Int) ≤ (L.q : Int))) && (decide ((L.q : Int) ≤ (1048576 : Int)))) && (decide ((0 : Int) ≤ (L.m : Int)))) && (decide ((0 : Int) ≤ (L.o : Int)))) && (decide ((L.o : Int) ≤ (1099511627776 : Int)))) && (decide ((0 : Int) ≤ (L.p : Int))))) rfl rfl rfl (hD 28 31 (by kernel_rfl)) (fun hb => f_val (o := ⟨some 34, _, _, _, _, _⟩) (.bool (decide ((L.p : Int) ≤ (1099511627776 : Int)))) rfl (wanted_b rfl rfl (hD 28 31 (by kernel_rfl)) (eq_true_of hb)) (exec_len_ (p := L.p) (q := 1099511627776) rfl ((hD 30 33 (by kernel_rfl)).1 hb) rfl) rfl)) ?_
    refine fsteps_cons 33 rfl (fun a u hE hD hk => f_as (show ((((((((decide ((0 : Int) ≤ (L.q : Int))) && (decide ((L.q : Int) ≤ (1048576 : Int)))) && (decide ((0 : Int) ≤ (L.m : Int)))) && (decide ((0 : Int) ≤ (L.o : Int)))) && (decide ((L.o : Int) ≤ (1099511627776 : Int)))) && (decide ((0 : Int) ≤ (L.p : Int)))) && (decide ((L.p : Int) ≤ (1099511627776 : Int)))) : Bool) = b from HV.out) (f_val (o := ⟨some 35, _, _, _, _, _⟩) (.bool (((((((decide ((0 : Int) ≤ (L.q : Int))) && (decide ((L.q : Int) ≤ (1048576 : Int)))) && (decide ((0 : Int) ≤ (L.m : Int)))) && (decide ((0 : Int) ≤ (L.o : Int)))) && (decide ((L.o : Int) ≤ (1099511627776 : Int)))) && (decide ((0 : Int) ≤ (L.p : Int)))) && (decide ((L.p : Int) ≤ (1099511627776 : Int))))) rfl (wanted_none rfl _) (exec_pickand (.tmp 31) (.tmp 34) (.const (.bool false)) (((((((decide ((0 : Int) ≤ (L.q : Int))) && (decide ((L.q : Int) ≤ (1048576 : Int)))) && (decide ((0 : Int) ≤ (L.m : Int)))) && (decide ((0 : Int) ≤ (L.o : Int)))) && (decide ((L.o : Int) ≤ (1099511627776 : Int)))) && (decide ((0 : Int) ≤ (L.p : Int))))) ((decide ((L.p : Int) ≤ (1099511627776 : Int)))) rfl (hD 28 31 (by kernel_rfl)) (fun hb2 => ((hD 31 34 (by kernel_rfl)).1 hb2)) rfl) rfl)) ?_
    refine sv 34 rfl rfl rfl (fun a u hE hD hk => exec_assign (.tmp 35) _ rfl (hD 32 35 (by kernel_rfl))) ?_
    exact fsteps_nil
  intro gv w1 hV k1
  rw [show dstsOf _ 34 = [3, 4, 5, 6, 7, 8, 9, 10, 11, 12, 13, 14, 15, 16, 17, 18, 19, 20, 21, 22, 23, 24, 25, 26, 27, 28, 29, 30, 31, 32, 33, 34, 35, 2] by kernel_rfl]
  simp only [List.foldl_cons, List.foldl_nil, List.setIfInBounds_toArray, List.set_cons_succ, List.set_cons_zero, List.drop_succ_cons, List.drop_zero]
  rw [show gv 2 = .bool b from hV 33 2 (by kernel_rfl)]
  clear hV
  refine wpList_nil ?_
  have kw := k0.trans k1
  go_wp2
  go_ret
  exact ⟨rfl, kw⟩
set_option maxRecDepth 100000 in
set_option maxHeartbeats 3200000 in
theorem rcheck_any (r : Nat) (B : Bal) (F : Nat → Int) (hI : B.Ok) (L : Lim) (c : Ord) (i : Int) (w : World) (hB : Blk w r 43 (B.rc F)) (hF : ∀ m : Nat, c.tr = (m : Int) → m < 32 → lay 4 (fun k => F (m * 4 + k)) = L.cells) : Gives 15 #[.pointer (some ⟨r, 0, none⟩), c.v, .int .i64 i] w (.eq (.int .i64 (chk B L c i))) := by
  refine gives_eq ?_
  have HG := Lib.hid hB
  obtain ⟨V, hV⟩ : ∃ V, chk B L c i = V := ⟨_, rfl⟩
  rw [hV]
  clear hB
  obtain ⟨b0, hb0⟩ : ∃ z, w.alloc (.cells c.cells.toArray 29) = z := ⟨_, rfl⟩
  have q0 : Kept w b0 := by rw [← hb0]; exact (Keep.refl _ _).alloc _
  have r0 : b0.rangeAt w.heap.size 0 c.cells := by rw [← hb0]; exact blk_range (Blk.new w 29 c.cells)
  have HB4 := Lib.hid (r0)
  have k0 := q0
  clear r0
  go_enter Try.func15, Try.ntmps15
  go_upto_region 0 with fail
  refine wp_region_lit ?_
  refine l_new (o := ⟨some 4, _, _, _, _, _⟩) (.pointer (some ⟨w.heap.size, 0, none⟩)) b0 rfl (by rw [← hb0]; exact exec_box 29 (.tmp 1) c.cells rfl (by kernel_rfl)) ?_
  simp only [Act.put, List.setIfInBounds_toArray, List.set_cons_succ, List.set_cons_zero]
  refine l_val (o := ⟨some 6, _, _, _, _, _⟩) (.int .i64 0) rfl (exec_assign (.const (.int .i64 0)) (.int .i64 0) rfl (by kernel_rfl)) ?_
  simp only [Act.put, List.setIfInBounds_toArray, List.set_cons_succ, List.set_cons_zero]
  refine wpList_nil ?_
  obtain ⟨g4, hg4⟩ : ∃ g, w.heap.size = g := ⟨_, rfl⟩
  rw [hg4] at HB4 ⊢
  clear hg4 hb0 q0
  cases hr : c.right with
  | false =>
    obtain rfl : 1 = V := by rw [← hV, chk_out (by rw [hr]; rfl)]
    have HE := Lib.hid (err_wrong hr)
    clear hr
    go_upto_region 1 with fail
    refine wp_text 10 [.eq (c.v), .eq (.int .i64 1), .eq (.bool true), .eq (.bool true), .eq undef, .eq undef, .eq undef, .eq undef, .eq undef, .eq (.bool true)] rfl (by kernel_rfl) ?_ ?_
    · refine sv 1 rfl rfl rfl (fun a u hE hD hk => exec_ldS 29 _ (.tmp 4) (g4) (0) (c.cells) rfl (hE 4 (.pointer (some ⟨g4, 0, none⟩)) (by kernel_rfl) (by kernel_rfl)) (range_kept HB4.out hk) Try.underlying29 (by rw [c.len9]; exact ord_size)) ?_
      refine fsteps_cons 2 rfl (fun a u hE hD hk => f_call (o := ⟨some 13, _, _, _, _, _⟩) 26 #[c.v] rfl (wanted_none rfl _) (exec_call 26 _ [.tmp 12] _ [c.v] Try.func26 (by kernel_rfl) (by kernel_rfl) rfl (show [a.eval (.tmp 12)] = [c.v] from (by rw [show a.eval (.tmp 12) = c.v from (hD 0 12 (by kernel_rfl))] <;> rfl)) u) (by rw [← HE.out]; exact refRight_any c u)) ?_
      refine fsteps_cons 3 rfl (fun a u hE hD hk => f_as (show ((decide ((1 : Int) ≠ (0 : Int))) : Bool) = true from decide_eq_true (by omega)) (f_val (o := ⟨some 14, _, _, _, _, _⟩) (.bool (decide ((1 : Int) ≠ (0 : Int)))) rfl (wanted_none rfl _) (exec_nen (p := 1) (q := 0) rfl (hD 1 13 (by kernel_rfl)) rfl) rfl)) ?_
      refine sv 4 rfl rfl rfl (fun a u hE hD hk => exec_move (.tmp 14) _ rfl (hD 2 14 (by kernel_rfl))) ?_
      refine fsteps_cons 5 rfl (fun a u hE hD hk => f_skip (o := ⟨some 16, _, _, _, _, _⟩) rfl (wanted_at (b := false) true rfl rfl (hD 3 15 (by kernel_rfl))) rfl) ?_
      refine fsteps_cons 6 rfl (fun a u hE hD hk => f_skip (o := ⟨some 17, _, _, _, _, _⟩) rfl (wanted_at (b := false) true rfl rfl (hD 3 15 (by kernel_rfl))) rfl) ?_
      refine fsteps_cons 7 rfl (fun a u hE hD hk => f_skip (o := ⟨some 18, _, _, _, _, _⟩) rfl (wanted_at (b := false) true rfl rfl (hD 3 15 (by kernel_rfl))) rfl) ?_
      refine fsteps_cons 8 rfl (fun a u hE hD hk => f_skip (o := ⟨some 19, _, _, _, _, _⟩) rfl (wanted_at (b := false) true rfl rfl (hD 3 15 (by kernel_rfl))) rfl) ?_
      refine fsteps_cons 9 rfl (fun a u hE hD hk => f_skip (o := ⟨some 20, _, _, _, _, _⟩) rfl (wanted_at (b := false) true rfl rfl (hD 3 15 (by kernel_rfl))) rfl) ?_
      refine sv 10 rfl rfl rfl (fun a u hE hD hk => exec_pick (.tmp 15) (.const (.bool true)) (.tmp 20) (.bool true) rfl (hD 3 15 (by kernel_rfl)) rfl) ?_
      exact fsteps_nil
    intro gv w1 hV k1
    rw [show dstsOf _ 10 = [12, 13, 14, 15, 16, 17, 18, 19, 20, 21] by kernel_rfl]
    simp only [List.foldl_cons, List.foldl_nil, List.setIfInBounds_toArray, List.set_cons_succ, List.set_cons_zero, List.drop_succ_cons, List.drop_zero]
    rw [show gv 21 = .bool true from hV 9 21 (by kernel_rfl)]
    clear hV
    refine wpList_nil ?_
    have kw := k0.trans k1
    go_wp2
    go_ret
    exact ⟨rfl, kw⟩
  | true =>
    have HE := Lib.hid (err_right hr)
    obtain ⟨ht, h_, _, hs12, _, _, h7, h8, h9, _⟩ := (right_iff c).1 hr
    have hq0 := h9.1
    have hq1 := h9.2
    have hp : In64 c.price := by
      unfold In64
      by_cases hk : c.k = 2
      · have := h7 hk
        omega
      · have := h8 hk
        omega
    have htw : thB c.tr i = wiB i 0 7 := by unfold thB; rw [wiB_iff.2 ht]; rfl
    clear h_ h7 h8 h9
    cases hw : wiB i 0 7 with
    | false =>
      obtain rfl : 1 = V := by rw [← hV, chk_out (by rw [hw, Bool.and_false])]
      have HW := Lib.hid (htw.trans hw)
      clear hr hw htw hp hq0 hq1 hs12 ht
      go_upto_region 1 with fail
      refine wp_text 10 [.eq (c.v), .eq (.int .i64 0), .eq (.bool false), .eq (.bool false), .eq (.pointer (some ⟨g4, 0, none⟩)), .eq (.int .i64 c.tr), .eq (.int .i64 i), .eq (.bool false), .eq (.bool true), .eq (.bool true)] rfl (by kernel_rfl) ?_ ?_
      · refine sv 1 rfl rfl rfl (fun a u hE hD hk => exec_ldS 29 _ (.tmp 4) (g4) (0) (c.cells) rfl (hE 4 (.pointer (some ⟨g4, 0, none⟩)) (by kernel_rfl) (by kernel_rfl)) (range_kept HB4.out hk) Try.underlying29 (by rw [c.len9]; exact ord_size)) ?_
        refine fsteps_cons 2 rfl (fun a u hE hD hk => f_call (o := ⟨some 13, _, _, _, _, _⟩) 26 #[c.v] rfl (wanted_none rfl _) (exec_call 26 _ [.tmp 12] _ [c.v] Try.func26 (by kernel_rfl) (by kernel_rfl) rfl (show [a.eval (.tmp 12)] = [c.v] from (by rw [show a.eval (.tmp 12) = c.v from (hD 0 12 (by kernel_rfl))] <;> rfl)) u) (by rw [← HE.out]; exact refRight_any c u)) ?_
        refine fsteps_cons 3 rfl (fun a u hE hD hk => f_as (show ((decide ((0 : Int) ≠ (0 : Int))) : Bool) = false from decide_eq_false (by omega)) (f_val (o := ⟨some 14, _, _, _, _, _⟩) (.bool (decide ((0 : Int) ≠ (0 : Int)))) rfl (wanted_none rfl _) (exec_nen (p := 0) (q := 0) rfl (hD 1 13 (by kernel_rfl)) rfl) rfl)) ?_
        refine sv 4 rfl rfl rfl (fun a u hE hD hk => exec_move (.tmp 14) _ rfl (hD 2 14 (by kernel_rfl))) ?_
        refine fsteps_cons 5 rfl (fun a u hE hD hk => f_val (o := ⟨some 16, _, _, _, _, _⟩) (.pointer (some ⟨g4, 0, none⟩)) rfl (wanted_at (b := false) false rfl rfl (hD 3 15 (by kernel_rfl))) (exec_fldo 29 0 0 (.tmp 4) (g4) (0) (0) rfl (hE 4 (.pointer (some ⟨g4, 0, none⟩)) (by kernel_rfl) (by kernel_rfl)) (by kernel_rfl) rfl) rfl) ?_
        refine fsteps_cons 6 rfl (fun a u hE hD hk => f_val (o := ⟨some 17, _, _, _, _, _⟩) (.int .i64 c.tr) rfl (wanted_at (b := false) false rfl rfl (hD 3 15 (by kernel_rfl))) (exec_loadi 3 Try.underlying3 (.tmp 16) ⟨g4, 0, none⟩ (.int .i64 c.tr) rfl (hD 4 16 (by kernel_rfl)) (range_int (range_kept HB4.out hk) 0 _ rfl)) rfl) ?_
        refine fsteps_cons 7 rfl (fun a u hE hD hk => f_val (o := ⟨some 18, _, _, _, _, _⟩) (.int .i64 i) rfl (wanted_at (b := false) false rfl rfl (hD 3 15 (by kernel_rfl))) (exec_move (.tmp 2) _ rfl (hE 2 (.int .i64 i) (by kernel_rfl) (by kernel_rfl))) rfl) ?_
        refine fsteps_cons 8 rfl (fun a u hE hD hk => f_call (o := ⟨some 19, _, _, _, _, _⟩) 27 #[.int .i64 c.tr, .int .i64 i] rfl (wanted_at (b := false) false rfl rfl (hD 3 15 (by kernel_rfl))) (exec_call 27 _ [.tmp 17, .tmp 18] _ [.int .i64 c.tr, .int .i64 i] Try.func27 (by kernel_rfl) (by kernel_rfl) rfl (show [a.eval (.tmp 17), a.eval (.tmp 18)] = [.int .i64 c.tr, .int .i64 i] from (by rw [show a.eval (.tmp 17) = .int .i64 c.tr from (hD 5 17 (by kernel_rfl)), show a.eval (.tmp 18) = .int .i64 i from (hD 6 18 (by kernel_rfl))] <;> rfl)) u) (by rw [← HW.out]; exact rplace_any c.tr i u)) ?_
        refine fsteps_cons 9 rfl (fun a u hE hD hk => f_val (o := ⟨some 20, _, _, _, _, _⟩) (.bool true) rfl (wanted_at (b := false) false rfl rfl (hD 3 15 (by kernel_rfl))) (exec_not _ (.tmp 19) false rfl (hD 7 19 (by kernel_rfl))) rfl) ?_
        refine sv 10 rfl rfl rfl (fun a u hE hD hk => exec_pickF (.tmp 15) (.const (.bool true)) (.tmp 20) (.bool true) rfl (hD 3 15 (by kernel_rfl)) (hD 8 20 (by kernel_rfl))) ?_
        exact fsteps_nil
      intro gv w1 hV k1
      rw [show dstsOf _ 10 = [12, 13, 14, 15, 16, 17, 18, 19, 20, 21] by kernel_rfl]
      simp only [List.foldl_cons, List.foldl_nil, List.setIfInBounds_toArray, List.set_cons_succ, List.set_cons_zero, List.drop_succ_cons, List.drop_zero]
      rw [show gv 21 = .bool true from hV 9 21 (by kernel_rfl)]
      clear hV
      refine wpList_nil ?_
      have kw := k0.trans k1
      go_wp2
      go_ret
      exact ⟨rfl, kw⟩
    | true =>
      have hU : (if over B L c i = true then 8 else 0) = V := by rw [← hV, chk_in (by rw [hr, hw]; rfl)]
      clear hV
      have HW := Lib.hid (htw.trans hw)
      obtain ⟨m, j, hm, hj, hcm, rfl⟩ := thB_yes (htw.trans hw)
      have HT := Lib.hid hcm
      have hRl := lay_take (B.rf F) (a := m * 4) (n := 4) (by omega) HG.out
      have hRa := lay_take (B.rf F) (a := 128 + m * 16) (n := 16) (by omega) HG.out
      have hl4 : lay 4 (fun k => B.rf F (m * 4 + k)) = L.cells := by
        rw [← hF m hcm hm]
        refine lay_ext fun k hk => ?_
        unfold Bal.rf
        rw [if_pos (by omega)]
      rw [hl4] at hRl
      obtain ⟨A, hA⟩ : ∃ A : Nat → Int, (fun k => B.rf F (128 + m * 16 + k)) = A := ⟨_, rfl⟩
      rw [hA] at hRa
      obtain ⟨X, hX⟩ : ∃ X, B.pAt c.tr (j : Int) = X := ⟨_, rfl⟩
      obtain ⟨O, hO⟩ : ∃ O, B.oAt c.tr (j : Int) = O := ⟨_, rfl⟩
      have hXc : (lay 16 A)[8 + j]? = some (.int .i64 X) := by rw [lay_at A (by omega), ← hA, ← hX, hcm]; dsimp only; rw [← Nat.add_assoc, rf_p B F hj]; unfold Bal.pAt; rw [pick2_in _ hm hj]
      have hOc : (lay 16 A)[j]? = some (.int .i64 O) := by rw [lay_at A (by omega), ← hA, ← hO, hcm]; dsimp only; rw [rf_o B F hj]; unfold Bal.oAt; rw [pick2_in _ hm hj]
      have hXb := hI.pAt_ c.tr (j : Int)
      have hOb := hI.oAt_ c.tr (j : Int)
      have hAb := hI.all8 c.tr
      rw [hX] at hXb
      rw [hO] at hOb
      obtain ⟨A8, hA8⟩ : ∃ A, B.all c.tr = A := ⟨_, rfl⟩
      rw [hA8] at hAb
      obtain ⟨b, hb⟩ : ∃ b, over B L c (j : Int) = b := ⟨_, rfl⟩
      rw [hb] at hU
      obtain ⟨x, y, hxy⟩ : ∃ x y, timesM c.price c.qty = (x, y) := ⟨_, _, rfl⟩
      have HV : Hid (((((decide (L.q < c.qty) || decide (y ≠ 0)) || decide (L.m < x)) || decide (L.o < A8 + c.qty)) || decide (L.p < B.reach c (j : Int))) = b) := by
        show _ = _
        rw [← hb, ← hA8]
        unfold over Ord.worth
        rw [hxy]
        simp only [Bool.or_assoc]
      have HY : Hid (∀ u, Gives 28 #[c.v] u (.eq (two (x, y)))) := fun u => by
        have h := refValue_any c hp (by unfold In64; omega) u
        rw [hxy] at h
        exact h
      have HX := Lib.hid hX
      have HO := Lib.hid hO
      have HXc := Lib.hid hXc
      have HOc := Lib.hid hOc
      have HA8 := Lib.hid hA8
      have HI := Lib.hid hI
      have HRl0 := Lib.hid (range_kept hRl k0)
      have HRa0 := Lib.hid (range_kept hRa k0)
      have HG0 := Lib.hid (HG.out.kept k0)
      clear hX hO hXc hOc hA hA8 hb hI hl4 hRl hRa hcm htw hw hr hxy hp ht hF HG
      go_upto_region 1 with fail
      refine wp_text 10 [.eq (c.v), .eq (.int .i64 0), .eq (.bool false), .eq (.bool false), .eq (.pointer (some ⟨g4, 0, none⟩)), .eq (.int .i64 c.tr), .eq (.int .i64 (j : Int)), .eq (.bool true), .eq (.bool false), .eq (.bool false)] rfl (by kernel_rfl) ?_ ?_
      · refine sv 1 rfl rfl rfl (fun a u hE hD hk => exec_ldS 29 _ (.tmp 4) (g4) (0) (c.cells) rfl (hE 4 (.pointer (some ⟨g4, 0, none⟩)) (by kernel_rfl) (by kernel_rfl)) (range_kept HB4.out hk) Try.underlying29 (by rw [c.len9]; exact ord_size)) ?_
        refine fsteps_cons 2 rfl (fun a u hE hD hk => f_call (o := ⟨some 13, _, _, _, _, _⟩) 26 #[c.v] rfl (wanted_none rfl _) (exec_call 26 _ [.tmp 12] _ [c.v] Try.func26 (by kernel_rfl) (by kernel_rfl) rfl (show [a.eval (.tmp 12)] = [c.v] from (by rw [show a.eval (.tmp 12) = c.v from (hD 0 12 (by kernel_rfl))] <;> rfl)) u) (by rw [← HE.out]; exact refRight_any c u)) ?_
        refine fsteps_cons 3 rfl (fun a u hE hD hk => f_as (show ((decide ((0 : Int) ≠ (0 : Int))) : Bool) = false from decide_eq_false (by omega)) (f_val (o := ⟨some 14, _, _, _, _, _⟩) (.bool (decide ((0 : Int) ≠ (0 : Int)))) rfl (wanted_none rfl _) (exec_nen (p := 0) (q := 0) rfl (hD 1 13 (by kernel_rfl)) rfl) rfl)) ?_
        refine sv 4 rfl rfl rfl (fun a u hE hD hk => exec_move (.tmp 14) _ rfl (hD 2 14 (by kernel_rfl))) ?_
        refine fsteps_cons 5 rfl (fun a u hE hD hk => f_val (o := ⟨some 16, _, _, _, _, _⟩) (.pointer (some ⟨g4, 0, none⟩)) rfl (wanted_at (b := false) false rfl rfl (hD 3 15 (by kernel_rfl))) (exec_fldo 29 0 0 (.tmp 4) (g4) (0) (0) rfl (hE 4 (.pointer (some ⟨g4, 0, none⟩)) (by kernel_rfl) (by kernel_rfl)) (by kernel_rfl) rfl) rfl) ?_
        refine fsteps_cons 6 rfl (fun a u hE hD hk => f_val (o := ⟨some 17, _, _, _, _, _⟩) (.int .i64 c.tr) rfl (wanted_at (b := false) false rfl rfl (hD 3 15 (by kernel_rfl))) (exec_loadi 3 Try.underlying3 (.tmp 16) ⟨g4, 0, none⟩ (.int .i64 c.tr) rfl (hD 4 16 (by kernel_rfl)) (range_int (range_kept HB4.out hk) 0 _ rfl)) rfl) ?_
        refine fsteps_cons 7 rfl (fun a u hE hD hk => f_val (o := ⟨some 18, _, _, _, _, _⟩) (.int .i64 (j : Int)) rfl (wanted_at (b := false) false rfl rfl (hD 3 15 (by kernel_rfl))) (exec_move (.tmp 2) _ rfl (hE 2 (.int .i64 (j : Int)) (by kernel_rfl) (by kernel_rfl))) rfl) ?_
        refine fsteps_cons 8 rfl (fun a u hE hD hk => f_call (o := ⟨some 19, _, _, _, _, _⟩) 27 #[.int .i64 c.tr, .int .i64 (j : Int)] rfl (wanted_at (b := false) false rfl rfl (hD 3 15 (by kernel_rfl))) (exec_call 27 _ [.tmp 17, .tmp 18] _ [.int .i64 c.tr, .int .i64 (j : Int)] Try.func27 (by kernel_rfl) (by kernel_rfl) rfl (show [a.eval (.tmp 17), a.eval (.tmp 18)] = [.int .i64 c.tr, .int .i64 (j : Int)] from (by rw [show a.eval (.tmp 17) = .int .i64 c.tr from (hD 5 17 (by kernel_rfl)), show a.eval (.tmp 18) = .int .i64 (j : Int) from (hD 6 18 (by kernel_rfl))] <;> rfl)) u) (by rw [← HW.out]; exact rplace_any c.tr (j : Int) u)) ?_
        refine fsteps_cons 9 rfl (fun a u hE hD hk => f_val (o := ⟨some 20, _, _, _, _, _⟩) (.bool false) rfl (wanted_at (b := false) false rfl rfl (hD 3 15 (by kernel_rfl))) (exec_not _ (.tmp 19) true rfl (hD 7 19 (by kernel_rfl))) rfl) ?_
        refine sv 10 rfl rfl rfl (fun a u hE hD hk => exec_pickF (.tmp 15) (.const (.bool true)) (.tmp 20) (.bool false) rfl (hD 3 15 (by kernel_rfl)) (hD 8 20 (by kernel_rfl))) ?_
        exact fsteps_nil
      intro gv w1 hV k1
      rw [show dstsOf _ 10 = [12, 13, 14, 15, 16, 17, 18, 19, 20, 21] by kernel_rfl]
      simp only [List.foldl_cons, List.foldl_nil, List.setIfInBounds_toArray, List.set_cons_succ, List.set_cons_zero, List.drop_succ_cons, List.drop_zero]
      rw [show gv 21 = .bool false from hV 9 21 (by kernel_rfl)]
      clear hV
      refine wpList_nil ?_
      have HRl := Lib.hid (range_kept HRl0.out k1)
      have HRa := Lib.hid (range_kept HRa0.out k1)
      have HC4 := Lib.hid (range_kept HB4.out k1)
      have HG1 := Lib.hid (HG0.out.kept k1)
      have kw1 := k0.trans k1
      clear HRl0 HRa0 HB4 HG0 k0 k1 HE HW
      go_upto_region 3 with fail
      go_cut [22, 23, 24, 25, 26, 27, 28, 29, 30, 31, 32, 33, 34, 35, 7, 8] (fun _ _ _ _ _ _ _ _ _ _ _ _ _ _ rl ra wx => ∃ gl ga, rl = .pointer (some ⟨gl, 0, none⟩) ∧ ra = .pointer (some ⟨ga, 0, none⟩) ∧ w1.heap.size ≤ gl ∧ w1.heap.size ≤ ga ∧ Blk wx gl 25 L.cells ∧ Blk wx ga 40 (lay 16 A) ∧ Kept w1 wx)
      case first =>
        refine wp_tree (fun u => Kept w1 u) (.val 0 (.val 1 (.val 2 (.val 3 (.val 4 (.val 5 (.val 6 (.val 7 (.val 8 (.val 9 (.val 10 (.val 11 (.val 12 (.val 13 (.two 14 15 (.one 15 (.one 16 (.one 17 .done))) (.one 14 (.one 16 (.one 17 .done)))))))))))))))))) rfl (by kernel_rfl) (Keep.drew (Keep.refl _ w1)) ?_
        refine t_val (o := ⟨some 22, _, _, _, _, _⟩) (.pointer (some ⟨r, 0, none⟩)) rfl rfl (fun u hu => exec_move (.tmp 0) (.pointer (some ⟨r, 0, none⟩)) rfl (by kernel_rfl)) ?_
        simp only [Act.put, List.setIfInBounds_toArray, List.set_cons_succ, List.set_cons_zero]
        refine t_val (o := ⟨some 23, _, _, _, _, _⟩) (.pointer (some ⟨g4, 0, none⟩)) rfl rfl (fun u hu => exec_fldo 29 0 0 (.tmp 4) (g4) (0) (0) rfl (by kernel_rfl) (by kernel_rfl) rfl) ?_
        simp only [Act.put, List.setIfInBounds_toArray, List.set_cons_succ, List.set_cons_zero]
        refine t_val (o := ⟨some 24, _, _, _, _, _⟩) (.int .i64 (m : Int)) rfl rfl (fun u hu => by rw [← HT.out]; exact exec_loadi 3 Try.underlying3 (.tmp 23) ⟨g4, 0, none⟩ (.int .i64 c.tr) rfl (by kernel_rfl) (range_int (off := 0) (range_kept HC4.out hu) 0 _ rfl)) ?_
        simp only [Act.put, List.setIfInBounds_toArray, List.set_cons_succ, List.set_cons_zero]
        refine t_val (o := ⟨some 25, _, _, _, _, _⟩) (.pointer (some ⟨r, 0, none⟩)) rfl rfl (fun u hu => exec_nilp (.tmp 22) ⟨r, 0, none⟩ rfl (by kernel_rfl)) ?_
        simp only [Act.put, List.setIfInBounds_toArray, List.set_cons_succ, List.set_cons_zero]
        refine t_val (o := ⟨some 26, _, _, _, _, _⟩) (.pointer (some ⟨r, 0, none⟩)) rfl rfl (fun u hu => exec_fldo 43 0 0 (.tmp 25) (r) (0) (0) rfl (by kernel_rfl) (by kernel_rfl) rfl) ?_
        simp only [Act.put, List.setIfInBounds_toArray, List.set_cons_succ, List.set_cons_zero]
        refine t_val (o := ⟨some 27, _, _, _, _, _⟩) (.pointer (some ⟨r, m * 4, none⟩)) rfl rfl (fun u hu => exec_ixK 4 37 25 32 (.tmp 26) (.tmp 24) (r) (0) (m * 4) m (m : Int) rfl Try.underlying37 (by kernel_rfl) (by kernel_rfl) (by kernel_rfl) rfl hm (by omega)) ?_
        simp only [Act.put, List.setIfInBounds_toArray, List.set_cons_succ, List.set_cons_zero]
        refine t_val (o := ⟨some 28, _, _, _, _, _⟩) (L.v) rfl rfl (fun u hu => exec_ldS 25 _ (.tmp 27) (r) (m * 4) L.cells rfl (by kernel_rfl) (range_kept HRl.out hu) Try.underlying25 (by rw [L.len4l]; exact szLim)) ?_
        simp only [Act.put, List.setIfInBounds_toArray, List.set_cons_succ, List.set_cons_zero]
        refine t_val (o := ⟨some 29, _, _, _, _, _⟩) (.pointer (some ⟨r, 0, none⟩)) rfl rfl (fun u hu => exec_move (.tmp 0) (.pointer (some ⟨r, 0, none⟩)) rfl (by kernel_rfl)) ?_
        simp only [Act.put, List.setIfInBounds_toArray, List.set_cons_succ, List.set_cons_zero]
        refine t_val (o := ⟨some 30, _, _, _, _, _⟩) (.pointer (some ⟨g4, 0, none⟩)) rfl rfl (fun u hu => exec_fldo 29 0 0 (.tmp 4) (g4) (0) (0) rfl (by kernel_rfl) (by kernel_rfl) rfl) ?_
        simp only [Act.put, List.setIfInBounds_toArray, List.set_cons_succ, List.set_cons_zero]
        refine t_val (o := ⟨some 31, _, _, _, _, _⟩) (.int .i64 (m : Int)) rfl rfl (fun u hu => by rw [← HT.out]; exact exec_loadi 3 Try.underlying3 (.tmp 30) ⟨g4, 0, none⟩ (.int .i64 c.tr) rfl (by kernel_rfl) (range_int (off := 0) (range_kept HC4.out hu) 0 _ rfl)) ?_
        simp only [Act.put, List.setIfInBounds_toArray, List.set_cons_succ, List.set_cons_zero]
        refine t_val (o := ⟨some 32, _, _, _, _, _⟩) (.pointer (some ⟨r, 0, none⟩)) rfl rfl (fun u hu => exec_nilp (.tmp 29) ⟨r, 0, none⟩ rfl (by kernel_rfl)) ?_
        simp only [Act.put, List.setIfInBounds_toArray, List.set_cons_succ, List.set_cons_zero]
        refine t_val (o := ⟨some 33, _, _, _, _, _⟩) (.pointer (some ⟨r, 128, none⟩)) rfl rfl (fun u hu => exec_fldo 43 1 128 (.tmp 32) (r) (0) (128) rfl (by kernel_rfl) (by kernel_rfl) rfl) ?_
        simp only [Act.put, List.setIfInBounds_toArray, List.set_cons_succ, List.set_cons_zero]
        refine t_val (o := ⟨some 34, _, _, _, _, _⟩) (.pointer (some ⟨r, 128 + m * 16, none⟩)) rfl rfl (fun u hu => exec_ixK 16 41 40 32 (.tmp 33) (.tmp 31) (r) (128) (128 + m * 16) m (m : Int) rfl Try.underlying41 (by kernel_rfl) (by kernel_rfl) (by kernel_rfl) rfl hm (by omega)) ?_
        simp only [Act.put, List.setIfInBounds_toArray, List.set_cons_succ, List.set_cons_zero]
        refine t_val (o := ⟨some 35, _, _, _, _, _⟩) (.agg (lay 16 A).toArray) rfl rfl (fun u hu => exec_ldS 40 _ (.tmp 34) (r) (128 + m * 16) (lay 16 A) rfl (by kernel_rfl) (range_kept HRa.out hu) Try.underlying40 (by rw [lay_len]; exact szA16)) ?_
        simp only [Act.put, List.setIfInBounds_toArray, List.set_cons_succ, List.set_cons_zero]
        refine ⟨?_, ?_⟩
        · skip
          refine t_new (o := ⟨some 7, _, _, _, _, _⟩) (.pointer (some ⟨w1.drew.heap.size, 0, none⟩)) (w1.drew.alloc (.cells zeroL.cells.toArray 25)) rfl rfl (exec_alc 25 zeroL.cells rfl zLim) ?_ ?_
          · exact ((Keep.drew (Keep.refl _ w1))).alloc _
          have hNwx := Blk.new w1.drew 25 zeroL.cells
          have kwx : Kept w1.drew (w1.drew.alloc (.cells zeroL.cells.toArray 25)) := (Keep.refl _ w1.drew).alloc _
          have zwx : w1.drew.heap.size < (w1.drew.alloc (.cells zeroL.cells.toArray 25)).heap.size := hNwx.lt
          generalize w1.drew.alloc (.cells zeroL.cells.toArray 25) = wx at hNwx kwx zwx ⊢
          simp only [Act.put, List.setIfInBounds_toArray, List.set_cons_succ, List.set_cons_zero]
          have hSd : Kept w1 w1.drew := Keep.drew (Keep.refl _ w1)
          have hSx : Kept w1 wx := Kept.trans hSd kwx
          have hdz : w1.drew.heap.size = w1.heap.size := rfl
          refine t_new (o := ⟨some 8, _, _, _, _, _⟩) (.pointer (some ⟨wx.heap.size, 0, none⟩)) (wx.alloc (.cells (lay 16 fun _ => 0).toArray 40)) rfl rfl (exec_alc 40 (lay 16 fun _ => 0) rfl zA16) ?_ ?_
          · exact (hSx).alloc _
          have hNwy := Blk.new wx 40 (lay 16 fun _ => 0)
          have kwy : Kept wx (wx.alloc (.cells (lay 16 fun _ => 0).toArray 40)) := (Keep.refl _ wx).alloc _
          have zwy : wx.heap.size < (wx.alloc (.cells (lay 16 fun _ => 0).toArray 40)).heap.size := hNwy.lt
          generalize wx.alloc (.cells (lay 16 fun _ => 0).toArray 40) = wy at hNwy kwy zwy ⊢
          simp only [Act.put, List.setIfInBounds_toArray, List.set_cons_succ, List.set_cons_zero]
          have hSy : Kept w1 wy := Kept.trans hSx kwy
          refine t_setS (o := ⟨none, _, _, _, _, _⟩) 25 w1.drew.heap.size 25 zeroL.cells L.cells (.tmp 7) (.tmp 28) rfl rfl rfl (by kernel_rfl) (by kernel_rfl) (hNwx.kept kwy) (by rw [L.len4l]; exact szLim) (by rw [L.len4l]; rfl) L.one ?_
          intro wl hCwl hkwl
          refine ⟨Kept.trans' hSy hkwl (by omega), ?_⟩
          simp only [Act.put]
          have hSl : Kept w1 wl := Kept.trans' hSy hkwl (by omega)
          refine t_setS (o := ⟨none, _, _, _, _, _⟩) 40 wx.heap.size 40 (lay 16 fun _ => 0) (lay 16 A) (.tmp 8) (.tmp 35) rfl rfl rfl (by kernel_rfl) (by kernel_rfl) ((hNwy).keep hkwl (by omega)) (by rw [lay_len]; exact szA16) (by rw [lay_len, lay_len]) (lay_one _ _) ?_
          intro wa hCwa hkwa
          refine ⟨Kept.trans' hSl hkwa (by omega), ?_⟩
          simp only [Act.put]
          refine t_done ?_
          refine wpList_nil ?_
          go_wp2
          go_meet
          case rel => exact ⟨w1.drew.heap.size, wx.heap.size, rfl, rfl, by omega, by omega, hCwl.keep hkwa (by omega), hCwa, Kept.trans' hSl hkwa (by omega)⟩
        · skip
          refine t_new (o := ⟨some 8, _, _, _, _, _⟩) (.pointer (some ⟨w1.drew.heap.size, 0, none⟩)) (w1.drew.alloc (.cells (lay 16 fun _ => 0).toArray 40)) rfl rfl (exec_alc 40 (lay 16 fun _ => 0) rfl zA16) ?_ ?_
          · exact ((Keep.drew (Keep.refl _ w1))).alloc _
          have hNwx := Blk.new w1.drew 40 (lay 16 fun _ => 0)
          have kwx : Kept w1.drew (w1.drew.alloc (.cells (lay 16 fun _ => 0).toArray 40)) := (Keep.refl _ w1.drew).alloc _
          have zwx : w1.drew.heap.size < (w1.drew.alloc (.cells (lay 16 fun _ => 0).toArray 40)).heap.size := hNwx.lt
          generalize w1.drew.alloc (.cells (lay 16 fun _ => 0).toArray 40) = wx at hNwx kwx zwx ⊢
          simp only [Act.put, List.setIfInBounds_toArray, List.set_cons_succ, List.set_cons_zero]
          have hSd : Kept w1 w1.drew := Keep.drew (Keep.refl _ w1)
          have hSx : Kept w1 wx := Kept.trans hSd kwx
          have hdz : w1.drew.heap.size = w1.heap.size := rfl
          refine t_new (o := ⟨some 7, _, _, _, _, _⟩) (.pointer (some ⟨wx.heap.size, 0, none⟩)) (wx.alloc (.cells zeroL.cells.toArray 25)) rfl rfl (exec_alc 25 zeroL.cells rfl zLim) ?_ ?_
          · exact (hSx).alloc _
          have hNwy := Blk.new wx 25 zeroL.cells
          have kwy : Kept wx (wx.alloc (.cells zeroL.cells.toArray 25)) := (Keep.refl _ wx).alloc _
          have zwy : wx.heap.size < (wx.alloc (.cells zeroL.cells.toArray 25)).heap.size := hNwy.lt
          generalize wx.alloc (.cells zeroL.cells.toArray 25) = wy at hNwy kwy zwy ⊢
          simp only [Act.put, List.setIfInBounds_toArray, List.set_cons_succ, List.set_cons_zero]
          have hSy : Kept w1 wy := Kept.trans hSx kwy
          refine t_setS (o := ⟨none, _, _, _, _, _⟩) 25 wx.heap.size 25 zeroL.cells L.cells (.tmp 7) (.tmp 28) rfl rfl rfl (by kernel_rfl) (by kernel_rfl) (hNwy) (by rw [L.len4l]; exact szLim) (by rw [L.len4l]; rfl) L.one ?_
          intro wl hCwl hkwl
          refine ⟨Kept.trans' hSy hkwl (by omega), ?_⟩
          simp only [Act.put]
          have hSl : Kept w1 wl := Kept.trans' hSy hkwl (by omega)
          refine t_setS (o := ⟨none, _, _, _, _, _⟩) 40 w1.drew.heap.size 40 (lay 16 fun _ => 0) (lay 16 A) (.tmp 8) (.tmp 35) rfl rfl rfl (by kernel_rfl) (by kernel_rfl) ((hNwx.kept kwy).keep hkwl (by omega)) (by rw [lay_len]; exact szA16) (by rw [lay_len, lay_len]) (lay_one _ _) ?_
          intro wa hCwa hkwa
          refine ⟨Kept.trans' hSl hkwa (by omega), ?_⟩
          simp only [Act.put]
          refine t_done ?_
          refine wpList_nil ?_
          go_wp2
          go_meet
          case rel => exact ⟨wx.heap.size, w1.drew.heap.size, rfl, rfl, by omega, by omega, hCwl.keep hkwa (by omega), hCwa, Kept.trans' hSl hkwa (by omega)⟩
      obtain ⟨gl, ga, rfl, rfl, hgl, hga, hBl, hBa, kc⟩ := hcut
      have HLc := Lib.hid hBl
      have HAc := Lib.hid hBa
      have HCc := Lib.hid (range_kept HC4.out kc)
      have HGc := Lib.hid (HG1.out.kept kc)
      have kwc := kw1.trans kc
      clear hBl hBa HC4 HG1 kc kw1 HRl HRa
      go_upto_region 4 with fail
      refine wp_text 7 [.eq (c.v), .eq (.tuple #[.int .i64 x, .int .i64 y]), .eq (.tuple #[.int .i64 x, .int .i64 y]), .eq (.int .i64 x), .eq (.int .i64 y), .eq (.int .i64 x), .eq (.int .i64 y)] rfl (by kernel_rfl) ?_ ?_
      · refine sv 1 rfl rfl rfl (fun a u hE hD hk => exec_ldS 29 _ (.tmp 4) (g4) (0) (c.cells) rfl (hE 4 (.pointer (some ⟨g4, 0, none⟩)) (by kernel_rfl) (by kernel_rfl)) (range_kept HCc.out hk) Try.underlying29 (by rw [c.len9]; exact ord_size)) ?_
        refine fsteps_cons 2 rfl (fun a u hE hD hk => f_call (o := ⟨some 38, _, _, _, _, _⟩) 28 #[c.v] rfl (wanted_none rfl _) (exec_call 28 _ [.tmp 37] _ [c.v] Try.func28 (by kernel_rfl) (by kernel_rfl) rfl (show [a.eval (.tmp 37)] = [c.v] from (by rw [show a.eval (.tmp 37) = c.v from (hD 0 37 (by kernel_rfl))] <;> rfl)) u) (HY.out u)) ?_
        refine sv 3 rfl rfl rfl (fun a u hE hD hk => exec_move (.tmp 38) _ rfl (hD 1 38 (by kernel_rfl))) ?_
        refine sv 4 rfl rfl rfl (fun a u hE hD hk => exec_extract (.tmp 36) [.int .i64 x, .int .i64 y] 0 _ rfl (hD 2 36 (by kernel_rfl)) rfl) ?_
        refine sv 5 rfl rfl rfl (fun a u hE hD hk => exec_extract (.tmp 36) [.int .i64 x, .int .i64 y] 1 _ rfl (hD 2 36 (by kernel_rfl)) rfl) ?_
        refine sv 6 rfl rfl rfl (fun a u hE hD hk => exec_assign (.tmp 39) _ rfl (hD 3 39 (by kernel_rfl))) ?_
        refine sv 7 rfl rfl rfl (fun a u hE hD hk => exec_assign (.tmp 40) _ rfl (hD 4 40 (by kernel_rfl))) ?_
        exact fsteps_nil
      intro gv w4 hV k4
      rw [show dstsOf _ 7 = [37, 38, 36, 39, 40, 9, 10] by kernel_rfl]
      simp only [List.foldl_cons, List.foldl_nil, List.setIfInBounds_toArray, List.set_cons_succ, List.set_cons_zero, List.drop_succ_cons, List.drop_zero]
      rw [show gv 9 = .int .i64 x from hV 5 9 (by kernel_rfl)]
      rw [show gv 10 = .int .i64 y from hV 6 10 (by kernel_rfl)]
      clear hV
      refine wpList_nil ?_
      have HA4 := Lib.hid (HAc.out.kept k4)
      go_upto_region 5 with fail
      refine wp_text 5 [.eq (.int .i64 (j : Int)), .eq (.pointer (some ⟨ga, 8, none⟩)), .eq (.pointer (some ⟨ga, 8 + j, none⟩)), .eq (.int .i64 X), .eq (.int .i64 X)] rfl (by kernel_rfl) ?_ ?_
      · refine sv 1 rfl rfl rfl (fun a u hE hD hk => exec_move (.tmp 2) _ rfl (hE 2 (.int .i64 (j : Int)) (by kernel_rfl) (by kernel_rfl))) ?_
        refine sv 2 rfl rfl rfl (fun a u hE hD hk => exec_fldo 40 1 8 (.tmp 8) (ga) (0) (8) rfl (hE 8 (.pointer (some ⟨ga, 0, none⟩)) (by kernel_rfl) (by kernel_rfl)) (by kernel_rfl) rfl) ?_
        refine sv 3 rfl rfl rfl (fun a u hE hD hk => exec_ixK 1 38 3 8 (.tmp 42) (.tmp 41) (ga) (8) (8 + j) j ((j : Int)) rfl Try.underlying38 (by kernel_rfl) (hD 1 42 (by kernel_rfl)) (hD 0 41 (by kernel_rfl)) (by first | rfl | omega) (hj) (by first | rfl | omega)) ?_
        refine sv 4 rfl rfl rfl (fun a u hE hD hk => exec_loadi 3 Try.underlying3 (.tmp 43) ⟨ga, 8 + j, none⟩ (.int .i64 X) rfl (hD 2 43 (by kernel_rfl)) (Kept.cell hk (((HA4.out.cell _).trans HXc.out)))) ?_
        refine sv 5 rfl rfl rfl (fun a u hE hD hk => exec_assign (.tmp 44) _ rfl (hD 3 44 (by kernel_rfl))) ?_
        exact fsteps_nil
      intro gv w5 hV k5
      rw [show dstsOf _ 5 = [41, 42, 43, 44, 11] by kernel_rfl]
      simp only [List.foldl_cons, List.foldl_nil, List.setIfInBounds_toArray, List.set_cons_succ, List.set_cons_zero, List.drop_succ_cons, List.drop_zero]
      rw [show gv 11 = .int .i64 X from hV 4 11 (by kernel_rfl)]
      clear hV
      refine wpList_nil ?_
      have k45 := k4.trans k5
      have HA5 := Lib.hid (HAc.out.kept k45)
      have HL5 := Lib.hid (HLc.out.kept k45)
      have HC5 := Lib.hid (range_kept HCc.out k45)
      have HR5 := Lib.hid (HGc.out.kept k45)
      have kw5 := kwc.trans k45
      clear HAc HLc HCc HGc kwc k4 k5 k45 HA4
      have hs : c.side = 1 ∨ c.side = 2 := by omega
      clear hs12
      rcases hs with hs | hs
      · skip
        have HS := Lib.hid hs
        clear hs
        go_upto_region 6 with fail
        refine wp_text 3 [.eq (.pointer (some ⟨g4, 3, none⟩)), .eq (.int .i64 c.side), .eq (.bool true)] rfl (by kernel_rfl) ?_ ?_
        · refine sv 1 rfl rfl rfl (fun a u hE hD hk => exec_fldo 29 3 3 (.tmp 4) (g4) (0) (3) rfl (hE 4 (.pointer (some ⟨g4, 0, none⟩)) (by kernel_rfl) (by kernel_rfl)) (by kernel_rfl) rfl) ?_
          refine sv 2 rfl rfl rfl (fun a u hE hD hk => exec_loadi 3 Try.underlying3 (.tmp 45) ⟨g4, 3, none⟩ (.int .i64 c.side) rfl (hD 0 45 (by kernel_rfl)) (range_int (range_kept HC5.out hk) 3 _ rfl)) ?_
          refine fsteps_cons 3 rfl (fun a u hE hD hk => f_as (show ((decide ((c.side : Int) = (1 : Int))) : Bool) = true from decide_eq_true (by have := HS.out; omega)) (f_val (o := ⟨some 47, _, _, _, _, _⟩) (.bool (decide ((c.side : Int) = (1 : Int)))) rfl (wanted_none rfl _) (exec_eqn (p := c.side) (q := 1) rfl (hD 1 46 (by kernel_rfl)) rfl) rfl)) ?_
          exact fsteps_nil
        intro gv w6 hV k6
        rw [show dstsOf _ 3 = [45, 46, 47] by kernel_rfl]
        simp only [List.foldl_cons, List.foldl_nil, List.setIfInBounds_toArray, List.set_cons_succ, List.set_cons_zero, List.drop_succ_cons, List.drop_zero]
        rw [show gv 47 = .bool true from hV 2 47 (by kernel_rfl)]
        clear hV
        refine wpList_nil ?_
        have HC6 := Lib.hid (range_kept HC5.out k6)
        have HA6 := Lib.hid (HA5.out.kept k6)
        go_upto_region 7 with fail
        refine wp_free 9 [.eq (.int .i64 X), .eq (.int .i64 (j : Int)), .eq (.pointer (some ⟨ga, 0, none⟩)), .eq (.pointer (some ⟨ga, j, none⟩)), .eq (.int .i64 O), .eq (.int .i64 ((X : Int) + (O : Int))), .eq (.pointer (some ⟨g4, 6, none⟩)), .eq (.int .i64 c.qty), .eq (.int .i64 ((((X : Int) + (O : Int)) : Int) + (c.qty : Int)))] (by kernel_rfl) rfl (by kernel_rfl) ?_ ?_
        · refine sv 1 rfl rfl rfl (fun a u hE hD hk => exec_move (.tmp 11) _ rfl (hE 11 (.int .i64 X) (by kernel_rfl) (by kernel_rfl))) ?_
          refine sv 2 rfl rfl rfl (fun a u hE hD hk => exec_move (.tmp 2) _ rfl (hE 2 (.int .i64 (j : Int)) (by kernel_rfl) (by kernel_rfl))) ?_
          refine sv 3 rfl rfl rfl (fun a u hE hD hk => exec_fldo 40 0 0 (.tmp 8) (ga) (0) (0) rfl (hE 8 (.pointer (some ⟨ga, 0, none⟩)) (by kernel_rfl) (by kernel_rfl)) (by kernel_rfl) rfl) ?_
          refine sv 4 rfl rfl rfl (fun a u hE hD hk => exec_ixK 1 38 3 8 (.tmp 50) (.tmp 49) (ga) (0) (j) j ((j : Int)) rfl Try.underlying38 (by kernel_rfl) (hD 2 50 (by kernel_rfl)) (hD 1 49 (by kernel_rfl)) (by first | rfl | omega) (hj) (by first | rfl | omega)) ?_
          refine sv 5 rfl rfl rfl (fun a u hE hD hk => exec_loadi 3 Try.underlying3 (.tmp 51) ⟨ga, j, none⟩ (.int .i64 O) rfl (hD 3 51 (by kernel_rfl)) (Kept.cell hk (((HA6.out.cell _).trans HOc.out)))) ?_
          refine sv 6 rfl rfl rfl (fun a u hE hD hk => exec_addn (p := (X)) (q := (O)) ((X : Int) + (O : Int)) rfl (hD 0 48 (by kernel_rfl)) (hD 4 52 (by kernel_rfl)) rfl (by omega) (by omega)) ?_
          refine sv 7 rfl rfl rfl (fun a u hE hD hk => exec_fldo 29 6 6 (.tmp 4) (g4) (0) (6) rfl (hE 4 (.pointer (some ⟨g4, 0, none⟩)) (by kernel_rfl) (by kernel_rfl)) (by kernel_rfl) rfl) ?_
          refine sv 8 rfl rfl rfl (fun a u hE hD hk => exec_loadi 3 Try.underlying3 (.tmp 54) ⟨g4, 6, none⟩ (.int .i64 c.qty) rfl (hD 6 54 (by kernel_rfl)) (range_int (range_kept HC6.out hk) 6 _ rfl)) ?_
          refine sv 9 rfl rfl rfl (fun a u hE hD hk => exec_addn (p := (((X : Int) + (O : Int)))) (q := (c.qty)) ((((X : Int) + (O : Int)) : Int) + (c.qty : Int)) rfl (hD 5 53 (by kernel_rfl)) (hD 7 55 (by kernel_rfl)) rfl (by omega) (by omega)) ?_
          exact fsteps_nil
        intro gv w7 hV k7
        rw [show dstsOf _ 9 = [48, 49, 50, 51, 52, 53, 54, 55, 56] by kernel_rfl]
        simp only [List.foldl_cons, List.foldl_nil, List.setIfInBounds_toArray, List.set_cons_succ, List.set_cons_zero, List.drop_succ_cons, List.drop_zero]
        rw [show gv 56 = .int .i64 ((((X : Int) + (O : Int)) : Int) + (c.qty : Int)) from hV 8 56 (by kernel_rfl)]
        clear hV
        refine l_val (o := ⟨some 11, _, _, _, _, _⟩) (.int .i64 ((((X : Int) + (O : Int)) : Int) + (c.qty : Int))) rfl (exec_assign (.tmp 56) (.int .i64 ((((X : Int) + (O : Int)) : Int) + (c.qty : Int))) rfl (by kernel_rfl)) ?_
        simp only [Act.put, List.setIfInBounds_toArray, List.set_cons_succ, List.set_cons_zero]
        refine wpList_nil ?_
        have HC7 := Lib.hid (range_kept HC6.out k7)
        go_upto_region 9 with fail
        refine wp_text 3 [.eq (.pointer (some ⟨g4, 3, none⟩)), .eq (.int .i64 c.side), .eq (.bool false)] rfl (by kernel_rfl) ?_ ?_
        · refine sv 1 rfl rfl rfl (fun a u hE hD hk => exec_fldo 29 3 3 (.tmp 4) (g4) (0) (3) rfl (hE 4 (.pointer (some ⟨g4, 0, none⟩)) (by kernel_rfl) (by kernel_rfl)) (by kernel_rfl) rfl) ?_
          refine sv 2 rfl rfl rfl (fun a u hE hD hk => exec_loadi 3 Try.underlying3 (.tmp 66) ⟨g4, 3, none⟩ (.int .i64 c.side) rfl (hD 0 66 (by kernel_rfl)) (range_int (range_kept HC7.out hk) 3 _ rfl)) ?_
          refine fsteps_cons 3 rfl (fun a u hE hD hk => f_as (show ((decide ((c.side : Int) = (2 : Int))) : Bool) = false from decide_eq_false (by have := HS.out; omega)) (f_val (o := ⟨some 68, _, _, _, _, _⟩) (.bool (decide ((c.side : Int) = (2 : Int)))) rfl (wanted_none rfl _) (exec_eqn (p := c.side) (q := 2) rfl (hD 1 67 (by kernel_rfl)) rfl) rfl)) ?_
          exact fsteps_nil
        intro gv w8 hV k8
        rw [show dstsOf _ 3 = [66, 67, 68] by kernel_rfl]
        simp only [List.foldl_cons, List.foldl_nil, List.setIfInBounds_toArray, List.set_cons_succ, List.set_cons_zero, List.drop_succ_cons, List.drop_zero]
        rw [show gv 68 = .bool false from hV 2 68 (by kernel_rfl)]
        clear hV
        refine wpList_nil ?_
        have k58 := ((k6.trans k7).trans k8)
        have HC8 := Lib.hid (range_kept HC5.out k58)
        have HR8 := Lib.hid (HR5.out.kept k58)
        have HL8 := Lib.hid (blk_range (HL5.out.kept k58))
        have HZ : Hid (((((decide (L.q < c.qty) || decide (y ≠ 0)) || decide (L.m < x)) || decide (L.o < A8 + c.qty)) || decide (L.p < X + O + c.qty)) = b) := by
          show _ = _
          rw [← HV.out , show B.reach c (j : Int) = X + O + c.qty by have h1 := HX.out; have h2 := HO.out; have h3 := HS.out; unfold Bal.reach Bal.side; rw [h1, h2]; rw [if_neg (by omega)]]
        go_upto_region 11 with fail
        refine wp_free 33 [.eq (.pointer (some ⟨g4, 6, none⟩)), .eq (.int .i64 c.qty), .eq (.pointer (some ⟨gl, 0, none⟩)), .eq (.int .i64 L.q), .eq (.bool (decide ((L.q : Int) < (c.qty : Int)))), .eq (.bool (decide ((L.q : Int) < (c.qty : Int)))), .cond (!(decide ((L.q : Int) < (c.qty : Int)))) (.eq (.int .i64 y)), .cond (!(decide ((L.q : Int) < (c.qty : Int)))) (.eq (.bool (decide ((y : Int) ≠ (0 : Int))))), .eq (.bool ((decide ((L.q : Int) < (c.qty : Int))) || (decide ((y : Int) ≠ (0 : Int))))), .eq (.bool ((decide ((L.q : Int) < (c.qty : Int))) || (decide ((y : Int) ≠ (0 : Int))))), .cond (!((decide ((L.q : Int) < (c.qty : Int))) || (decide ((y : Int) ≠ (0 : Int))))) (.eq (.int .i64 x)), .cond (!((decide ((L.q : Int) < (c.qty : Int))) || (decide ((y : Int) ≠ (0 : Int))))) (.eq (.pointer (some ⟨gl, 1, none⟩))), .cond (!((decide ((L.q : Int) < (c.qty : Int))) || (decide ((y : Int) ≠ (0 : Int))))) (.eq (.int .i64 L.m)), .cond (!((decide ((L.q : Int) < (c.qty : Int))) || (decide ((y : Int) ≠ (0 : Int))))) (.eq (.bool (decide ((L.m : Int) < (x : Int))))), .eq (.bool (((decide ((L.q : Int) < (c.qty : Int))) || (decide ((y : Int) ≠ (0 : Int)))) || (decide ((L.m : Int) < (x : Int))))), .eq (.bool (((decide ((L.q : Int) < (c.qty : Int))) || (decide ((y : Int) ≠ (0 : Int)))) || (decide ((L.m : Int) < (x : Int))))), .cond (!(((decide ((L.q : Int) < (c.qty : Int))) || (decide ((y : Int) ≠ (0 : Int)))) || (decide ((L.m : Int) < (x : Int))))) (.eq (.pointer (some ⟨r, 0, none⟩))), .cond (!(((decide ((L.q : Int) < (c.qty : Int))) || (decide ((y : Int) ≠ (0 : Int)))) || (decide ((L.m : Int) < (x : Int))))) (.eq (.pointer (some ⟨g4, 0, none⟩))), .cond (!(((decide ((L.q : Int) < (c.qty : Int))) || (decide ((y : Int) ≠ (0 : Int)))) || (decide ((L.m : Int) < (x : Int))))) (.eq (.int .i64 c.tr)), .cond (!(((decide ((L.q : Int) < (c.qty : Int))) || (decide ((y : Int) ≠ (0 : Int)))) || (decide ((L.m : Int) < (x : Int))))) (.eq (.int .i64 A8)), .cond (!(((decide ((L.q : Int) < (c.qty : Int))) || (decide ((y : Int) ≠ (0 : Int)))) || (decide ((L.m : Int) < (x : Int))))) (.eq (.pointer (some ⟨g4, 6, none⟩))), .cond (!(((decide ((L.q : Int) < (c.qty : Int))) || (decide ((y : Int) ≠ (0 : Int)))) || (decide ((L.m : Int) < (x : Int))))) (.eq (.int .i64 c.qty)), .cond (!(((decide ((L.q : Int) < (c.qty : Int))) || (decide ((y : Int) ≠ (0 : Int)))) || (decide ((L.m : Int) < (x : Int))))) (.eq (.int .i64 ((A8 : Int) + (c.qty : Int)))), .cond (!(((decide ((L.q : Int) < (c.qty : Int))) || (decide ((y : Int) ≠ (0 : Int)))) || (decide ((L.m : Int) < (x : Int))))) (.eq (.pointer (some ⟨gl, 2, none⟩))), .cond (!(((decide ((L.q : Int) < (c.qty : Int))) || (decide ((y : Int) ≠ (0 : Int)))) || (decide ((L.m : Int) < (x : Int))))) (.eq (.int .i64 L.o)), .cond (!(((decide ((L.q : Int) < (c.qty : Int))) || (decide ((y : Int) ≠ (0 : Int)))) || (decide ((L.m : Int) < (x : Int))))) (.eq (.bool (decide ((L.o : Int) < (((A8 : Int) + (c.qty : Int)) : Int))))), .eq (.bool ((((decide ((L.q : Int) < (c.qty : Int))) || (decide ((y : Int) ≠ (0 : Int)))) || (decide ((L.m : Int) < (x : Int)))) || (decide ((L.o : Int) < (((A8 : Int) + (c.qty : Int)) : Int))))), .eq (.bool ((((decide ((L.q : Int) < (c.qty : Int))) || (decide ((y : Int) ≠ (0 : Int)))) || (decide ((L.m : Int) < (x : Int)))) || (decide ((L.o : Int) < (((A8 : Int) + (c.qty : Int)) : Int))))), .cond (!((((decide ((L.q : Int) < (c.qty : Int))) || (decide ((y : Int) ≠ (0 : Int)))) || (decide ((L.m : Int) < (x : Int)))) || (decide ((L.o : Int) < (((A8 : Int) + (c.qty : Int)) : Int))))) (.eq (.int .i64 (X + O + c.qty))), .cond (!((((decide ((L.q : Int) < (c.qty : Int))) || (decide ((y : Int) ≠ (0 : Int)))) || (decide ((L.m : Int) < (x : Int)))) || (decide ((L.o : Int) < (((A8 : Int) + (c.qty : Int)) : Int))))) (.eq (.pointer (some ⟨gl, 3, none⟩))), .cond (!((((decide ((L.q : Int) < (c.qty : Int))) || (decide ((y : Int) ≠ (0 : Int)))) || (decide ((L.m : Int) < (x : Int)))) || (decide ((L.o : Int) < (((A8 : Int) + (c.qty : Int)) : Int))))) (.eq (.int .i64 L.p)), .cond (!((((decide ((L.q : Int) < (c.qty : Int))) || (decide ((y : Int) ≠ (0 : Int)))) || (decide ((L.m : Int) < (x : Int)))) || (decide ((L.o : Int) < (((A8 : Int) + (c.qty : Int)) : Int))))) (.eq (.bool (decide ((L.p : Int) < ((X + O + c.qty) : Int))))), .eq (.bool b)] (by kernel_rfl) rfl (by kernel_rfl) ?_ ?_
        · refine sv 1 rfl rfl rfl (fun a u hE hD hk => exec_fldo 29 6 6 (.tmp 4) (g4) (0) (6) rfl (hE 4 (.pointer (some ⟨g4, 0, none⟩)) (by kernel_rfl) (by kernel_rfl)) (by kernel_rfl) rfl) ?_
          refine sv 2 rfl rfl rfl (fun a u hE hD hk => exec_loadi 3 Try.underlying3 (.tmp 71) ⟨g4, 6, none⟩ (.int .i64 c.qty) rfl (hD 0 71 (by kernel_rfl)) (range_int (range_kept HC8.out hk) 6 _ rfl)) ?_
          refine sv 3 rfl rfl rfl (fun a u hE hD hk => exec_fldo 25 0 0 (.tmp 7) (gl) (0) (0) rfl (hE 7 (.pointer (some ⟨gl, 0, none⟩)) (by kernel_rfl) (by kernel_rfl)) (by kernel_rfl) rfl) ?_
          refine sv 4 rfl rfl rfl (fun a u hE hD hk => exec_loadi 3 Try.underlying3 (.tmp 73) ⟨gl, 0, none⟩ (.int .i64 L.q) rfl (hD 2 73 (by kernel_rfl)) (range_int (range_kept HL8.out hk) 0 _ rfl)) ?_
          refine sv 5 rfl rfl rfl (fun a u hE hD hk => exec_gtn (p := c.qty) (q := L.q) rfl (hD 1 72 (by kernel_rfl)) (hD 3 74 (by kernel_rfl))) ?_
          refine sv 6 rfl rfl rfl (fun a u hE hD hk => exec_move (.tmp 75) _ rfl (hD 4 75 (by kernel_rfl))) ?_
          refine fsteps_cons 7 rfl (fun a u hE hD hk => f_unless ((decide ((L.q : Int) < (c.qty : Int)))) rfl rfl rfl (hD 5 76 (by kernel_rfl)) (fun hb => f_val (o := ⟨some 77, _, _, _, _, _⟩) (.int .i64 y) rfl (wanted_b rfl rfl (hD 5 76 (by kernel_rfl)) (eq_false_of hb)) (exec_move (.tmp 10) _ rfl (hE 10 (.int .i64 y) (by kernel_rfl) (by kernel_rfl))) rfl)) ?_
          refine fsteps_cons 8 rfl (fun a u hE hD hk => f_unless ((decide ((L.q : Int) < (c.qty : Int)))) rfl rfl rfl (hD 5 76 (by kernel_rfl)) (fun hb => f_val (o := ⟨some 78, _, _, _, _, _⟩) (.bool (decide ((y : Int) ≠ (0 : Int)))) rfl (wanted_b rfl rfl (hD 5 76 (by kernel_rfl)) (eq_false_of hb)) (exec_nen (p := y) (q := 0) rfl ((hD 6 77 (by kernel_rfl)).1 hb) rfl) rfl)) ?_
          refine sv 9 rfl rfl rfl (fun a u hE hD hk => exec_pickor (.tmp 76) (.const (.bool true)) (.tmp 78) ((decide ((L.q : Int) < (c.qty : Int)))) ((decide ((y : Int) ≠ (0 : Int)))) rfl (hD 5 76 (by kernel_rfl)) rfl (fun hb2 => ((hD 7 78 (by kernel_rfl)).1 hb2))) ?_
          refine sv 10 rfl rfl rfl (fun a u hE hD hk => exec_move (.tmp 79) _ rfl (hD 8 79 (by kernel_rfl))) ?_
          refine fsteps_cons 11 rfl (fun a u hE hD hk => f_unless (((decide ((L.q : Int) < (c.qty : Int))) || (decide ((y : Int) ≠ (0 : Int))))) rfl rfl rfl (hD 9 80 (by kernel_rfl)) (fun hb => f_val (o := ⟨some 81, _, _, _, _, _⟩) (.int .i64 x) rfl (wanted_b rfl rfl (hD 9 80 (by kernel_rfl)) (eq_false_of hb)) (exec_move (.tmp 9) _ rfl (hE 9 (.int .i64 x) (by kernel_rfl) (by kernel_rfl))) rfl)) ?_
          refine fsteps_cons 12 rfl (fun a u hE hD hk => f_unless (((decide ((L.q : Int) < (c.qty : Int))) || (decide ((y : Int) ≠ (0 : Int))))) rfl rfl rfl (hD 9 80 (by kernel_rfl)) (fun hb => f_val (o := ⟨some 82, _, _, _, _, _⟩) (.pointer (some ⟨gl, 1, none⟩)) rfl (wanted_b rfl rfl (hD 9 80 (by kernel_rfl)) (eq_false_of hb)) (exec_fldo 25 1 1 (.tmp 7) (gl) (0) (1) rfl (hE 7 (.pointer (some ⟨gl, 0, none⟩)) (by kernel_rfl) (by kernel_rfl)) (by kernel_rfl) rfl) rfl)) ?_
          refine fsteps_cons 13 rfl (fun a u hE hD hk => f_unless (((decide ((L.q : Int) < (c.qty : Int))) || (decide ((y : Int) ≠ (0 : Int))))) rfl rfl rfl (hD 9 80 (by kernel_rfl)) (fun hb => f_val (o := ⟨some 83, _, _, _, _, _⟩) (.int .i64 L.m) rfl (wanted_b rfl rfl (hD 9 80 (by kernel_rfl)) (eq_false_of hb)) (exec_loadi 3 Try.underlying3 (.tmp 82) ⟨gl, 1, none⟩ (.int .i64 L.m) rfl ((hD 11 82 (by kernel_rfl)).1 hb) (range_int (range_kept HL8.out hk) 1 _ rfl)) rfl)) ?_
          refine fsteps_cons 14 rfl (fun a u hE hD hk => f_unless (((decide ((L.q : Int) < (c.qty : Int))) || (decide ((y : Int) ≠ (0 : Int))))) rfl rfl rfl (hD 9 80 (by kernel_rfl)) (fun hb => f_val (o := ⟨some 84, _, _, _, _, _⟩) (.bool (decide ((L.m : Int) < (x : Int)))) rfl (wanted_b rfl rfl (hD 9 80 (by kernel_rfl)) (eq_false_of hb)) (exec_gtn (p := x) (q := L.m) rfl ((hD 10 81 (by kernel_rfl)).1 hb) ((hD 12 83 (by kernel_rfl)).1 hb)) rfl)) ?_
          refine sv 15 rfl rfl rfl (fun a u hE hD hk => exec_pickor (.tmp 80) (.const (.bool true)) (.tmp 84) (((decide ((L.q : Int) < (c.qty : Int))) || (decide ((y : Int) ≠ (0 : Int))))) ((decide ((L.m : Int) < (x : Int)))) rfl (hD 9 80 (by kernel_rfl)) rfl (fun hb2 => ((hD 13 84 (by kernel_rfl)).1 hb2))) ?_
          refine sv 16 rfl rfl rfl (fun a u hE hD hk => exec_move (.tmp 85) _ rfl (hD 14 85 (by kernel_rfl))) ?_
          refine fsteps_cons 17 rfl (fun a u hE hD hk => f_unless ((((decide ((L.q : Int) < (c.qty : Int))) || (decide ((y : Int) ≠ (0 : Int)))) || (decide ((L.m : Int) < (x : Int))))) rfl rfl rfl (hD 15 86 (by kernel_rfl)) (fun hb => f_val (o := ⟨some 87, _, _, _, _, _⟩) (.pointer (some ⟨r, 0, none⟩)) rfl (wanted_b rfl rfl (hD 15 86 (by kernel_rfl)) (eq_false_of hb)) (exec_move (.tmp 0) _ rfl (hE 0 (.pointer (some ⟨r, 0, none⟩)) (by kernel_rfl) (by kernel_rfl))) rfl)) ?_
          refine fsteps_cons 18 rfl (fun a u hE hD hk => f_unless ((((decide ((L.q : Int) < (c.qty : Int))) || (decide ((y : Int) ≠ (0 : Int)))) || (decide ((L.m : Int) < (x : Int))))) rfl rfl rfl (hD 15 86 (by kernel_rfl)) (fun hb => f_val (o := ⟨some 88, _, _, _, _, _⟩) (.pointer (some ⟨g4, 0, none⟩)) rfl (wanted_b rfl rfl (hD 15 86 (by kernel_rfl)) (eq_false_of hb)) (exec_fldo 29 0 0 (.tmp 4) (g4) (0) (0) rfl (hE 4 (.pointer (some ⟨g4, 0, none⟩)) (by kernel_rfl) (by kernel_rfl)) (by kernel_rfl) rfl) rfl)) ?_
          refine fsteps_cons 19 rfl (fun a u hE hD hk => f_unless ((((decide ((L.q : Int) < (c.qty : Int))) || (decide ((y : Int) ≠ (0 : Int)))) || (decide ((L.m : Int) < (x : Int))))) rfl rfl rfl (hD 15 86 (by kernel_rfl)) (fun hb => f_val (o := ⟨some 89, _, _, _, _, _⟩) (.int .i64 c.tr) rfl (wanted_b rfl rfl (hD 15 86 (by kernel_rfl)) (eq_false_of hb)) (exec_loadi 3 Try.underlying3 (.tmp 88) ⟨g4, 0, none⟩ (.int .i64 c.tr) rfl ((hD 17 88 (by kernel_rfl)).1 hb) (range_int (range_kept HC8.out hk) 0 _ rfl)) rfl)) ?_
          refine fsteps_cons 20 rfl (fun a u hE hD hk => f_unless ((((decide ((L.q : Int) < (c.qty : Int))) || (decide ((y : Int) ≠ (0 : Int)))) || (decide ((L.m : Int) < (x : Int))))) rfl rfl rfl (hD 15 86 (by kernel_rfl)) (fun hb => f_call (o := ⟨some 90, _, _, _, _, _⟩) 29 #[.pointer (some ⟨r, 0, none⟩), .int .i64 c.tr] rfl (wanted_b rfl rfl (hD 15 86 (by kernel_rfl)) (eq_false_of hb)) (exec_call 29 _ [.tmp 87, .tmp 89] _ [.pointer (some ⟨r, 0, none⟩), .int .i64 c.tr] Try.func29 (by kernel_rfl) (by kernel_rfl) rfl (show [a.eval (.tmp 87), a.eval (.tmp 89)] = [.pointer (some ⟨r, 0, none⟩), .int .i64 c.tr] from (by rw [show a.eval (.tmp 87) = .pointer (some ⟨r, 0, none⟩) from ((hD 16 87 (by kernel_rfl)).1 hb), show a.eval (.tmp 89) = .int .i64 c.tr from ((hD 18 89 (by kernel_rfl)).1 hb)] <;> rfl)) u) (by rw [← HA8.out]; exact ropen_any r B F HI.out c.tr u (HR8.out.kept hk)))) ?_
          refine fsteps_cons 21 rfl (fun a u hE hD hk => f_unless ((((decide ((L.q : Int) < (c.qty : Int))) || (decide ((y : Int) ≠ (0 : Int)))) || (decide ((L.m : Int) < (x : Int))))) rfl rfl rfl (hD 15 86 (by kernel_rfl)) (fun hb => f_val (o := ⟨some 91, _, _, _, _, _⟩) (.pointer (some ⟨g4, 6, none⟩)) rfl (wanted_b rfl rfl (hD 15 86 (by kernel_rfl)) (eq_false_of hb)) (exec_fldo 29 6 6 (.tmp 4) (g4) (0) (6) rfl (hE 4 (.pointer (some ⟨g4, 0, none⟩)) (by kernel_rfl) (by kernel_rfl)) (by kernel_rfl) rfl) rfl)) ?_
          refine fsteps_cons 22 rfl (fun a u hE hD hk => f_unless ((((decide ((L.q : Int) < (c.qty : Int))) || (decide ((y : Int) ≠ (0 : Int)))) || (decide ((L.m : Int) < (x : Int))))) rfl rfl rfl (hD 15 86 (by kernel_rfl)) (fun hb => f_val (o := ⟨some 92, _, _, _, _, _⟩) (.int .i64 c.qty) rfl (wanted_b rfl rfl (hD 15 86 (by kernel_rfl)) (eq_false_of hb)) (exec_loadi 3 Try.underlying3 (.tmp 91) ⟨g4, 6, none⟩ (.int .i64 c.qty) rfl ((hD 20 91 (by kernel_rfl)).1 hb) (range_int (range_kept HC8.out hk) 6 _ rfl)) rfl)) ?_
          refine fsteps_cons 23 rfl (fun a u hE hD hk => f_unless ((((decide ((L.q : Int) < (c.qty : Int))) || (decide ((y : Int) ≠ (0 : Int)))) || (decide ((L.m : Int) < (x : Int))))) rfl rfl rfl (hD 15 86 (by kernel_rfl)) (fun hb => f_val (o := ⟨some 93, _, _, _, _, _⟩) (.int .i64 ((A8 : Int) + (c.qty : Int))) rfl (wanted_b rfl rfl (hD 15 86 (by kernel_rfl)) (eq_false_of hb)) (exec_addn (p := (A8)) (q := (c.qty)) ((A8 : Int) + (c.qty : Int)) rfl ((hD 19 90 (by kernel_rfl)).1 hb) ((hD 21 92 (by kernel_rfl)).1 hb) rfl (by omega) (by omega)) rfl)) ?_
          refine fsteps_cons 24 rfl (fun a u hE hD hk => f_unless ((((decide ((L.q : Int) < (c.qty : Int))) || (decide ((y : Int) ≠ (0 : Int)))) || (decide ((L.m : Int) < (x : Int))))) rfl rfl rfl (hD 15 86 (by kernel_rfl)) (fun hb => f_val (o := ⟨some 94, _, _, _, _, _⟩) (.pointer (some ⟨gl, 2, none⟩)) rfl (wanted_b rfl rfl (hD 15 86 (by kernel_rfl)) (eq_false_of hb)) (exec_fldo 25 2 2 (.tmp 7) (gl) (0) (2) rfl (hE 7 (.pointer (some ⟨gl, 0, none⟩)) (by kernel_rfl) (by kernel_rfl)) (by kernel_rfl) rfl) rfl)) ?_
          refine fsteps_cons 25 rfl (fun a u hE hD hk => f_unless ((((decide ((L.q : Int) < (c.qty : Int))) || (decide ((y : Int) ≠ (0 : Int)))) || (decide ((L.m : Int) < (x : Int))))) rfl rfl rfl (hD 15 86 (by kernel_rfl)) (fun hb => f_val (o := ⟨some 95, _, _, _, _, _⟩) (.int .i64 L.o) rfl (wanted_b rfl rfl (hD 15 86 (by kernel_rfl)) (eq_false_of hb)) (exec_loadi 3 Try.underlying3 (.tmp 94) ⟨gl, 2, none⟩ (.int .i64 L.o) rfl ((hD 23 94 (by kernel_rfl)).1 hb) (range_int (range_kept HL8.out hk) 2 _ rfl)) rfl)) ?_
          refine fsteps_cons 26 rfl (fun a u hE hD hk => f_unless ((((decide ((L.q : Int) < (c.qty : Int))) || (decide ((y : Int) ≠ (0 : Int)))) || (decide ((L.m : Int) < (x : Int))))) rfl rfl rfl (hD 15 86 (by kernel_rfl)) (fun hb => f_val (o := ⟨some 96, _, _, _, _, _⟩) (.bool (decide ((L.o : Int) < (((A8 : Int) + (c.qty : Int)) : Int)))) rfl (wanted_b rfl rfl (hD 15 86 (by kernel_rfl)) (eq_false_of hb)) (exec_gtn (p := ((A8 : Int) + (c.qty : Int))) (q := L.o) rfl ((hD 22 93 (by kernel_rfl)).1 hb) ((hD 24 95 (by kernel_rfl)).1 hb)) rfl)) ?_
          refine sv 27 rfl rfl rfl (fun a u hE hD hk => exec_pickor (.tmp 86) (.const (.bool true)) (.tmp 96) ((((decide ((L.q : Int) < (c.qty : Int))) || (decide ((y : Int) ≠ (0 : Int)))) || (decide ((L.m : Int) < (x : Int))))) ((decide ((L.o : Int) < (((A8 : Int) + (c.qty : Int)) : Int)))) rfl (hD 15 86 (by kernel_rfl)) rfl (fun hb2 => ((hD 25 96 (by kernel_rfl)).1 hb2))) ?_
          refine sv 28 rfl rfl rfl (fun a u hE hD hk => exec_move (.tmp 97) _ rfl (hD 26 97 (by kernel_rfl))) ?_
          refine fsteps_cons 29 rfl (fun a u hE hD hk => f_unless (((((decide ((L.q : Int) < (c.qty : Int))) || (decide ((y : Int) ≠ (0 : Int)))) || (decide ((L.m : Int) < (x : Int)))) || (decide ((L.o : Int) < (((A8 : Int) + (c.qty : Int)) : Int))))) rfl rfl rfl (hD 27 98 (by kernel_rfl)) (fun hb => f_val (o := ⟨some 99, _, _, _, _, _⟩) (.int .i64 (X + O + c.qty)) rfl (wanted_b rfl rfl (hD 27 98 (by kernel_rfl)) (eq_false_of hb)) (exec_move (.tmp 11) _ rfl (hE 11 (.int .i64 (X + O + c.qty)) (by kernel_rfl) (by kernel_rfl))) rfl)) ?_
          refine fsteps_cons 30 rfl (fun a u hE hD hk => f_unless (((((decide ((L.q : Int) < (c.qty : Int))) || (decide ((y : Int) ≠ (0 : Int)))) || (decide ((L.m : Int) < (x : Int)))) || (decide ((L.o : Int) < (((A8 : Int) + (c.qty : Int)) : Int))))) rfl rfl rfl (hD 27 98 (by kernel_rfl)) (fun hb => f_val (o := ⟨some 100, _, _, _, _, _⟩) (.pointer (some ⟨gl, 3, none⟩)) rfl (wanted_b rfl rfl (hD 27 98 (by kernel_rfl)) (eq_false_of hb)) (exec_fldo 25 3 3 (.tmp 7) (gl) (0) (3) rfl (hE 7 (.pointer (some ⟨gl, 0, none⟩)) (by kernel_rfl) (by kernel_rfl)) (by kernel_rfl) rfl) rfl)) ?_
          refine fsteps_cons 31 rfl (fun a u hE hD hk => f_unless (((((decide ((L.q : Int) < (c.qty : Int))) || (decide ((y : Int) ≠ (0 : Int)))) || (decide ((L.m : Int) < (x : Int)))) || (decide ((L.o : Int) < (((A8 : Int) + (c.qty : Int)) : Int))))) rfl rfl rfl (hD 27 98 (by kernel_rfl)) (fun hb => f_val (o := ⟨some 101, _, _, _, _, _⟩) (.int .i64 L.p) rfl (wanted_b rfl rfl (hD 27 98 (by kernel_rfl)) (eq_false_of hb)) (exec_loadi 3 Try.underlying3 (.tmp 100) ⟨gl, 3, none⟩ (.int .i64 L.p) rfl ((hD 29 100 (by kernel_rfl)).1 hb) (range_int (range_kept HL8.out hk) 3 _ rfl)) rfl)) ?_
          refine fsteps_cons 32 rfl (fun a u hE hD hk => f_unless (((((decide ((L.q : Int) < (c.qty : Int))) || (decide ((y : Int) ≠ (0 : Int)))) || (decide ((L.m : Int) < (x : Int)))) || (decide ((L.o : Int) < (((A8 : Int) + (c.qty : Int)) : Int))))) rfl rfl rfl (hD 27 98 (by kernel_rfl)) (fun hb => f_val (o := ⟨some 102, _, _, _, _, _⟩) (.bool (decide ((L.p : Int) < ((X + O + c.qty) : Int)))) rfl (wanted_b rfl rfl (hD 27 98 (by kernel_rfl)) (eq_false_of hb)) (exec_gtn (p := (X + O + c.qty)) (q := L.p) rfl ((hD 28 99 (by kernel_rfl)).1 hb) ((hD 30 101 (by kernel_rfl)).1 hb)) rfl)) ?_
          refine fsteps_cons 33 rfl (fun a u hE hD hk => f_as (show ((((((decide ((L.q : Int) < (c.qty : Int))) || (decide ((y : Int) ≠ (0 : Int)))) || (decide ((L.m : Int) < (x : Int)))) || (decide ((L.o : Int) < (((A8 : Int) + (c.qty : Int)) : Int)))) || (decide ((L.p : Int) < ((X + O + c.qty) : Int)))) : Bool) = b from HZ.out) (f_val (o := ⟨some 103, _, _, _, _, _⟩) (.bool (((((decide ((L.q : Int) < (c.qty : Int))) || (decide ((y : Int) ≠ (0 : Int)))) || (decide ((L.m : Int) < (x : Int)))) || (decide ((L.o : Int) < (((A8 : Int) + (c.qty : Int)) : Int)))) || (decide ((L.p : Int) < ((X + O + c.qty) : Int))))) rfl (wanted_none rfl _) (exec_pickor (.tmp 98) (.const (.bool true)) (.tmp 102) (((((decide ((L.q : Int) < (c.qty : Int))) || (decide ((y : Int) ≠ (0 : Int)))) || (decide ((L.m : Int) < (x : Int)))) || (decide ((L.o : Int) < (((A8 : Int) + (c.qty : Int)) : Int))))) ((decide ((L.p : Int) < ((X + O + c.qty) : Int)))) rfl (hD 27 98 (by kernel_rfl)) rfl (fun hb2 => ((hD 31 102 (by kernel_rfl)).1 hb2))) rfl)) ?_
          exact fsteps_nil
        intro gv w9 hV k9
        rw [show dstsOf _ 33 = [71, 72, 73, 74, 75, 76, 77, 78, 79, 80, 81, 82, 83, 84, 85, 86, 87, 88, 89, 90, 91, 92, 93, 94, 95, 96, 97, 98, 99, 100, 101, 102, 103] by kernel_rfl]
        simp only [List.foldl_cons, List.foldl_nil, List.setIfInBounds_toArray, List.set_cons_succ, List.set_cons_zero, List.drop_succ_cons, List.drop_zero]
        rw [show gv 103 = .bool b from hV 32 103 (by kernel_rfl)]
        clear hV
        refine wpList_nil ?_
        have kw := (kw5.trans k58).trans k9
        cases b with
        | true =>
          obtain rfl : 8 = V := hU
          go_wp2
          go_ret
          exact ⟨rfl, kw⟩
        | false =>
          obtain rfl : 0 = V := hU
          go_wp2
          go_ret
          exact ⟨rfl, kw⟩
      · skip
        have HS := Lib.hid hs
        clear hs
        go_upto_region 6 with fail
        refine wp_text 3 [.eq (.pointer (some ⟨g4, 3, none⟩)), .eq (.int .i64 c.side), .eq (.bool false)] rfl (by kernel_rfl) ?_ ?_
        · refine sv 1 rfl rfl rfl (fun a u hE hD hk => exec_fldo 29 3 3 (.tmp 4) (g4) (0) (3) rfl (hE 4 (.pointer (some ⟨g4, 0, none⟩)) (by kernel_rfl) (by kernel_rfl)) (by kernel_rfl) rfl) ?_
          refine sv 2 rfl rfl rfl (fun a u hE hD hk => exec_loadi 3 Try.underlying3 (.tmp 45) ⟨g4, 3, none⟩ (.int .i64 c.side) rfl (hD 0 45 (by kernel_rfl)) (range_int (range_kept HC5.out hk) 3 _ rfl)) ?_
          refine fsteps_cons 3 rfl (fun a u hE hD hk => f_as (show ((decide ((c.side : Int) = (1 : Int))) : Bool) = false from decide_eq_false (by have := HS.out; omega)) (f_val (o := ⟨some 47, _, _, _, _, _⟩) (.bool (decide ((c.side : Int) = (1 : Int)))) rfl (wanted_none rfl _) (exec_eqn (p := c.side) (q := 1) rfl (hD 1 46 (by kernel_rfl)) rfl) rfl)) ?_
          exact fsteps_nil
        intro gv w6 hV k6
        rw [show dstsOf _ 3 = [45, 46, 47] by kernel_rfl]
        simp only [List.foldl_cons, List.foldl_nil, List.setIfInBounds_toArray, List.set_cons_succ, List.set_cons_zero, List.drop_succ_cons, List.drop_zero]
        rw [show gv 47 = .bool false from hV 2 47 (by kernel_rfl)]
        clear hV
        refine wpList_nil ?_
        have HC6 := Lib.hid (range_kept HC5.out k6)
        have HA6 := Lib.hid (HA5.out.kept k6)
        go_upto_region 8 with fail
        refine wp_free 9 [.eq (.int .i64 X), .eq (.int .i64 (j : Int)), .eq (.pointer (some ⟨ga, 0, none⟩)), .eq (.pointer (some ⟨ga, j, none⟩)), .eq (.int .i64 O), .eq (.int .i64 ((X : Int) - (O : Int))), .eq (.pointer (some ⟨g4, 6, none⟩)), .eq (.int .i64 c.qty), .eq (.int .i64 ((((X : Int) - (O : Int)) : Int) - (c.qty : Int)))] (by kernel_rfl) rfl (by kernel_rfl) ?_ ?_
        · refine sv 1 rfl rfl rfl (fun a u hE hD hk => exec_move (.tmp 11) _ rfl (hE 11 (.int .i64 X) (by kernel_rfl) (by kernel_rfl))) ?_
          refine sv 2 rfl rfl rfl (fun a u hE hD hk => exec_move (.tmp 2) _ rfl (hE 2 (.int .i64 (j : Int)) (by kernel_rfl) (by kernel_rfl))) ?_
          refine sv 3 rfl rfl rfl (fun a u hE hD hk => exec_fldo 40 0 0 (.tmp 8) (ga) (0) (0) rfl (hE 8 (.pointer (some ⟨ga, 0, none⟩)) (by kernel_rfl) (by kernel_rfl)) (by kernel_rfl) rfl) ?_
          refine sv 4 rfl rfl rfl (fun a u hE hD hk => exec_ixK 1 38 3 8 (.tmp 59) (.tmp 58) (ga) (0) (j) j ((j : Int)) rfl Try.underlying38 (by kernel_rfl) (hD 2 59 (by kernel_rfl)) (hD 1 58 (by kernel_rfl)) (by first | rfl | omega) (hj) (by first | rfl | omega)) ?_
          refine sv 5 rfl rfl rfl (fun a u hE hD hk => exec_loadi 3 Try.underlying3 (.tmp 60) ⟨ga, j, none⟩ (.int .i64 O) rfl (hD 3 60 (by kernel_rfl)) (Kept.cell hk (((HA6.out.cell _).trans HOc.out)))) ?_
          refine sv 6 rfl rfl rfl (fun a u hE hD hk => exec_subn (p := (X)) (q := (O)) ((X : Int) - (O : Int)) rfl (hD 0 57 (by kernel_rfl)) (hD 4 61 (by kernel_rfl)) rfl (by omega) (by omega)) ?_
          refine sv 7 rfl rfl rfl (fun a u hE hD hk => exec_fldo 29 6 6 (.tmp 4) (g4) (0) (6) rfl (hE 4 (.pointer (some ⟨g4, 0, none⟩)) (by kernel_rfl) (by kernel_rfl)) (by kernel_rfl) rfl) ?_
          refine sv 8 rfl rfl rfl (fun a u hE hD hk => exec_loadi 3 Try.underlying3 (.tmp 63) ⟨g4, 6, none⟩ (.int .i64 c.qty) rfl (hD 6 63 (by kernel_rfl)) (range_int (range_kept HC6.out hk) 6 _ rfl)) ?_
          refine sv 9 rfl rfl rfl (fun a u hE hD hk => exec_subn (p := (((X : Int) - (O : Int)))) (q := (c.qty)) ((((X : Int) - (O : Int)) : Int) - (c.qty : Int)) rfl (hD 5 62 (by kernel_rfl)) (hD 7 64 (by kernel_rfl)) rfl (by omega) (by omega)) ?_
          exact fsteps_nil
        intro gv w7 hV k7
        rw [show dstsOf _ 9 = [57, 58, 59, 60, 61, 62, 63, 64, 65] by kernel_rfl]
        simp only [List.foldl_cons, List.foldl_nil, List.setIfInBounds_toArray, List.set_cons_succ, List.set_cons_zero, List.drop_succ_cons, List.drop_zero]
        rw [show gv 65 = .int .i64 ((((X : Int) - (O : Int)) : Int) - (c.qty : Int)) from hV 8 65 (by kernel_rfl)]
        clear hV
        refine l_val (o := ⟨some 11, _, _, _, _, _⟩) (.int .i64 ((((X : Int) - (O : Int)) : Int) - (c.qty : Int))) rfl (exec_assign (.tmp 65) (.int .i64 ((((X : Int) - (O : Int)) : Int) - (c.qty : Int))) rfl (by kernel_rfl)) ?_
        simp only [Act.put, List.setIfInBounds_toArray, List.set_cons_succ, List.set_cons_zero]
        refine wpList_nil ?_
        have HC7 := Lib.hid (range_kept HC6.out k7)
        go_upto_region 9 with fail
        refine wp_text 3 [.eq (.pointer (some ⟨g4, 3, none⟩)), .eq (.int .i64 c.side), .eq (.bool true)] rfl (by kernel_rfl) ?_ ?_
        · refine sv 1 rfl rfl rfl (fun a u hE hD hk => exec_fldo 29 3 3 (.tmp 4) (g4) (0) (3) rfl (hE 4 (.pointer (some ⟨g4, 0, none⟩)) (by kernel_rfl) (by kernel_rfl)) (by kernel_rfl) rfl) ?_
          refine sv 2 rfl rfl rfl (fun a u hE hD hk => exec_loadi 3 Try.underlying3 (.tmp 66) ⟨g4, 3, none⟩ (.int .i64 c.side) rfl (hD 0 66 (by kernel_rfl)) (range_int (range_kept HC7.out hk) 3 _ rfl)) ?_
          refine fsteps_cons 3 rfl (fun a u hE hD hk => f_as (show ((decide ((c.side : Int) = (2 : Int))) : Bool) = true from decide_eq_true (by have := HS.out; omega)) (f_val (o := ⟨some 68, _, _, _, _, _⟩) (.bool (decide ((c.side : Int) = (2 : Int)))) rfl (wanted_none rfl _) (exec_eqn (p := c.side) (q := 2) rfl (hD 1 67 (by kernel_rfl)) rfl) rfl)) ?_
          exact fsteps_nil
        intro gv w8 hV k8
        rw [show dstsOf _ 3 = [66, 67, 68] by kernel_rfl]
        simp only [List.foldl_cons, List.foldl_nil, List.setIfInBounds_toArray, List.set_cons_succ, List.set_cons_zero, List.drop_succ_cons, List.drop_zero]
        rw [show gv 68 = .bool true from hV 2 68 (by kernel_rfl)]
        clear hV
        refine wpList_nil ?_
        go_upto_region 10 with fail
        refine wp_region_lit ?_
        refine l_val (o := ⟨some 69, _, _, _, _, _⟩) (.int .i64 (X - O - c.qty)) rfl (exec_move (.tmp 11) (.int .i64 (X - O - c.qty)) rfl (by kernel_rfl)) ?_
        simp only [Act.put, List.setIfInBounds_toArray, List.set_cons_succ, List.set_cons_zero]
        refine l_val (o := ⟨some 70, _, _, _, _, _⟩) (.int .i64 (-(X - O - c.qty))) rfl (exec_neg1 (x := .tmp 69) (X - O - c.qty) rfl (by kernel_rfl) (by omega) (by omega)) ?_
        simp only [Act.put, List.setIfInBounds_toArray, List.set_cons_succ, List.set_cons_zero]
        refine l_val (o := ⟨some 11, _, _, _, _, _⟩) (.int .i64 (-(X - O - c.qty))) rfl (exec_assign (.tmp 70) (.int .i64 (-(X - O - c.qty))) rfl (by kernel_rfl)) ?_
        simp only [Act.put, List.setIfInBounds_toArray, List.set_cons_succ, List.set_cons_zero]
        refine wpList_nil ?_
        have k58 := ((k6.trans k7).trans k8)
        have HC8 := Lib.hid (range_kept HC5.out k58)
        have HR8 := Lib.hid (HR5.out.kept k58)
        have HL8 := Lib.hid (blk_range (HL5.out.kept k58))
        have HZ : Hid (((((decide (L.q < c.qty) || decide (y ≠ 0)) || decide (L.m < x)) || decide (L.o < A8 + c.qty)) || decide (L.p < -(X - O - c.qty))) = b) := by
          show _ = _
          rw [← HV.out , show B.reach c (j : Int) = -(X - O - c.qty) by have h1 := HX.out; have h2 := HO.out; have h3 := HS.out; unfold Bal.reach Bal.side; rw [h1, h2]; rw [if_pos h3]; omega]
        go_upto_region 11 with fail
        refine wp_free 33 [.eq (.pointer (some ⟨g4, 6, none⟩)), .eq (.int .i64 c.qty), .eq (.pointer (some ⟨gl, 0, none⟩)), .eq (.int .i64 L.q), .eq (.bool (decide ((L.q : Int) < (c.qty : Int)))), .eq (.bool (decide ((L.q : Int) < (c.qty : Int)))), .cond (!(decide ((L.q : Int) < (c.qty : Int)))) (.eq (.int .i64 y)), .cond (!(decide ((L.q : Int) < (c.qty : Int)))) (.eq (.bool (decide ((y : Int) ≠ (0 : Int))))), .eq (.bool ((decide ((L.q : Int) < (c.qty : Int))) || (decide ((y : Int) ≠ (0 : Int))))), .eq (.bool ((decide ((L.q : Int) < (c.qty : Int))) || (decide ((y : Int) ≠ (0 : Int))))), .cond (!((decide ((L.q : Int) < (c.qty : Int))) || (decide ((y : Int) ≠ (0 : Int))))) (.eq (.int .i64 x)), .cond (!((decide ((L.q : Int) < (c.qty : Int))) || (decide ((y : Int) ≠ (0 : Int))))) (.eq (.pointer (some ⟨gl, 1, none⟩))), .cond (!((decide ((L.q : Int) < (c.qty : Int))) || (decide ((y : Int) ≠ (0 : Int))))) (.eq (.int .i64 L.m)), .cond (!((decide ((L.q : Int) < (c.qty : Int))) || (decide ((y : Int) ≠ (0 : Int))))) (.eq (.bool (decide ((L.m : Int) < (x : Int))))), .eq (.bool (((decide ((L.q : Int) < (c.qty : Int))) || (decide ((y : Int) ≠ (0 : Int)))) || (decide ((L.m : Int) < (x : Int))))), .eq (.bool (((decide ((L.q : Int) < (c.qty : Int))) || (decide ((y : Int) ≠ (0 : Int)))) || (decide ((L.m : Int) < (x : Int))))), .cond (!(((decide ((L.q : Int) < (c.qty : Int))) || (decide ((y : Int) ≠ (0 : Int)))) || (decide ((L.m : Int) < (x : Int))))) (.eq (.pointer (some ⟨r, 0, none⟩))), .cond (!(((decide ((L.q : Int) < (c.qty : Int))) || (decide ((y : Int) ≠ (0 : Int)))) || (decide ((L.m : Int) < (x : Int))))) (.eq (.pointer (some ⟨g4, 0, none⟩))), .cond (!(((decide ((L.q : Int) < (c.qty : Int))) || (decide ((y : Int) ≠ (0 : Int)))) || (decide ((L.m : Int) < (x : Int))))) (.eq (.int .i64 c.tr)), .cond (!(((decide ((L.q : Int) < (c.qty : Int))) || (decide ((y : Int) ≠ (0 : Int)))) || (decide ((L.m : Int) < (x : Int))))) (.eq (.int .i64 A8)), .cond (!(((decide ((L.q : Int) < (c.qty : Int))) || (decide ((y : Int) ≠ (0 : Int)))) || (decide ((L.m : Int) < (x : Int))))) (.eq (.pointer (some ⟨g4, 6, none⟩))), .cond (!(((decide ((L.q : Int) < (c.qty : Int))) || (decide ((y : Int) ≠ (0 : Int)))) || (decide ((L.m : Int) < (x : Int))))) (.eq (.int .i64 c.qty)), .cond (!(((decide ((L.q : Int) < (c.qty : Int))) || (decide ((y : Int) ≠ (0 : Int)))) || (decide ((L.m : Int) < (x : Int))))) (.eq (.int .i64 ((A8 : Int) + (c.qty : Int)))), .cond (!(((decide ((L.q : Int) < (c.qty : Int))) || (decide ((y : Int) ≠ (0 : Int)))) || (decide ((L.m : Int) < (x : Int))))) (.eq (.pointer (some ⟨gl, 2, none⟩))), .cond (!(((decide ((L.q : Int) < (c.qty : Int))) || (decide ((y : Int) ≠ (0 : Int)))) || (decide ((L.m : Int) < (x : Int))))) (.eq (.int .i64 L.o)), .cond (!(((decide ((L.q : Int) < (c.qty : Int))) || (decide ((y : Int) ≠ (0 : Int)))) || (decide ((L.m : Int) < (x : Int))))) (.eq (.bool (decide ((L.o : Int) < (((A8 : Int) + (c.qty : Int)) : Int))))), .eq (.bool ((((decide ((L.q : Int) < (c.qty : Int))) || (decide ((y : Int) ≠ (0 : Int)))) || (decide ((L.m : Int) < (x : Int)))) || (decide ((L.o : Int) < (((A8 : Int) + (c.qty : Int)) : Int))))), .eq (.bool ((((decide ((L.q : Int) < (c.qty : Int))) || (decide ((y : Int) ≠ (0 : Int)))) || (decide ((L.m : Int) < (x : Int)))) || (decide ((L.o : Int) < (((A8 : Int) + (c.qty : Int)) : Int))))), .cond (!((((decide ((L.q : Int) < (c.qty : Int))) || (decide ((y : Int) ≠ (0 : Int)))) || (decide ((L.m : Int) < (x : Int)))) || (decide ((L.o : Int) < (((A8 : Int) + (c.qty : Int)) : Int))))) (.eq (.int .i64 (-(X - O - c.qty)))), .cond (!((((decide ((L.q : Int) < (c.qty : Int))) || (decide ((y : Int) ≠ (0 : Int)))) || (decide ((L.m : Int) < (x : Int)))) || (decide ((L.o : Int) < (((A8 : Int) + (c.qty : Int)) : Int))))) (.eq (.pointer (some ⟨gl, 3, none⟩))), .cond (!((((decide ((L.q : Int) < (c.qty : Int))) || (decide ((y : Int) ≠ (0 : Int)))) || (decide ((L.m : Int) < (x : Int)))) || (decide ((L.o : Int) < (((A8 : Int) + (c.qty : Int)) : Int))))) (.eq (.int .i64 L.p)), .cond (!((((decide ((L.q : Int) < (c.qty : Int))) || (decide ((y : Int) ≠ (0 : Int)))) || (decide ((L.m : Int) < (x : Int)))) || (decide ((L.o : Int) < (((A8 : Int) + (c.qty : Int)) : Int))))) (.eq (.bool (decide ((L.p : Int) < ((-(X - O - c.qty)) : Int))))), .eq (.bool b)] (by kernel_rfl) rfl (by kernel_rfl) ?_ ?_
        · refine sv 1 rfl rfl rfl (fun a u hE hD hk => exec_fldo 29 6 6 (.tmp 4) (g4) (0) (6) rfl (hE 4 (.pointer (some ⟨g4, 0, none⟩)) (by kernel_rfl) (by kernel_rfl)) (by kernel_rfl) rfl) ?_
          refine sv 2 rfl rfl rfl (fun a u hE hD hk => exec_loadi 3 Try.underlying3 (.tmp 71) ⟨g4, 6, none⟩ (.int .i64 c.qty) rfl (hD 0 71 (by kernel_rfl)) (range_int (range_kept HC8.out hk) 6 _ rfl)) ?_
          refine sv 3 rfl rfl rfl (fun a u hE hD hk => exec_fldo 25 0 0 (.tmp 7) (gl) (0) (0) rfl (hE 7 (.pointer (some ⟨gl, 0, none⟩)) (by kernel_rfl) (by kernel_rfl)) (by kernel_rfl) rfl) ?_
          refine sv 4 rfl rfl rfl (fun a u hE hD hk => exec_loadi 3 Try.underlying3 (.tmp 73) ⟨gl, 0, none⟩ (.int .i64 L.q) rfl (hD 2 73 (by kernel_rfl)) (range_int (range_kept HL8.out hk) 0 _ rfl)) ?_
          refine sv 5 rfl rfl rfl (fun a u hE hD hk => exec_gtn (p := c.qty) (q := L.q) rfl (hD 1 72 (by kernel_rfl)) (hD 3 74 (by kernel_rfl))) ?_
          refine sv 6 rfl rfl rfl (fun a u hE hD hk => exec_move (.tmp 75) _ rfl (hD 4 75 (by kernel_rfl))) ?_
          refine fsteps_cons 7 rfl (fun a u hE hD hk => f_unless ((decide ((L.q : Int) < (c.qty : Int)))) rfl rfl rfl (hD 5 76 (by kernel_rfl)) (fun hb => f_val (o := ⟨some 77, _, _, _, _, _⟩) (.int .i64 y) rfl (wanted_b rfl rfl (hD 5 76 (by kernel_rfl)) (eq_false_of hb)) (exec_move (.tmp 10) _ rfl (hE 10 (.int .i64 y) (by kernel_rfl) (by kernel_rfl))) rfl)) ?_
          refine fsteps_cons 8 rfl (fun a u hE hD hk => f_unless ((decide ((L.q : Int) < (c.qty : Int)))) rfl rfl rfl (hD 5 76 (by kernel_rfl)) (fun hb => f_val (o := ⟨some 78, _, _, _, _, _⟩) (.bool (decide ((y : Int) ≠ (0 : Int)))) rfl (wanted_b rfl rfl (hD 5 76 (by kernel_rfl)) (eq_false_of hb)) (exec_nen (p := y) (q := 0) rfl ((hD 6 77 (by kernel_rfl)).1 hb) rfl) rfl)) ?_
          refine sv 9 rfl rfl rfl (fun a u hE hD hk => exec_pickor (.tmp 76) (.const (.bool true)) (.tmp 78) ((decide ((L.q : Int) < (c.qty : Int)))) ((decide ((y : Int) ≠ (0 : Int)))) rfl (hD 5 76 (by kernel_rfl)) rfl (fun hb2 => ((hD 7 78 (by kernel_rfl)).1 hb2))) ?_
          refine sv 10 rfl rfl rfl (fun a u hE hD hk => exec_move (.tmp 79) _ rfl (hD 8 79 (by kernel_rfl))) ?_
          refine fsteps_cons 11 rfl (fun a u hE hD hk => f_unless (((decide ((L.q : Int) < (c.qty : Int))) || (decide ((y : Int) ≠ (0 : Int))))) rfl rfl rfl (hD 9 80 (by kernel_rfl)) (fun hb => f_val (o := ⟨some 81, _, _, _, _, _⟩) (.int .i64 x) rfl (wanted_b rfl rfl (hD 9 80 (by kernel_rfl)) (eq_false_of hb)) (exec_move (.tmp 9) _ rfl (hE 9 (.int .i64 x) (by kernel_rfl) (by kernel_rfl))) rfl)) ?_
          refine fsteps_cons 12 rfl (fun a u hE hD hk => f_unless (((decide ((L.q : Int) < (c.qty : Int))) || (decide ((y : Int) ≠ (0 : Int))))) rfl rfl rfl (hD 9 80 (by kernel_rfl)) (fun hb => f_val (o := ⟨some 82, _, _, _, _, _⟩) (.pointer (some ⟨gl, 1, none⟩)) rfl (wanted_b rfl rfl (hD 9 80 (by kernel_rfl)) (eq_false_of hb)) (exec_fldo 25 1 1 (.tmp 7) (gl) (0) (1) rfl (hE 7 (.pointer (some ⟨gl, 0, none⟩)) (by kernel_rfl) (by kernel_rfl)) (by kernel_rfl) rfl) rfl)) ?_
          refine fsteps_cons 13 rfl (fun a u hE hD hk => f_unless (((decide ((L.q : Int) < (c.qty : Int))) || (decide ((y : Int) ≠ (0 : Int))))) rfl rfl rfl (hD 9 80 (by kernel_rfl)) (fun hb => f_val (o := ⟨some 83, _, _, _, _, _⟩) (.int .i64 L.m) rfl (wanted_b rfl rfl (hD 9 80 (by kernel_rfl)) (eq_false_of hb)) (exec_loadi 3 Try.underlying3 (.tmp 82) ⟨gl, 1, none⟩ (.int .i64 L.m) rfl ((hD 11 82 (by kernel_rfl)).1 hb) (range_int (range_kept HL8.out hk) 1 _ rfl)) rfl)) ?_
          refine fsteps_cons 14 rfl (fun a u hE hD hk => f_unless (((decide ((L.q : Int) < (c.qty : Int))) || (decide ((y : Int) ≠ (0 : Int))))) rfl rfl rfl (hD 9 80 (by kernel_rfl)) (fun hb => f_val (o := ⟨some 84, _, _, _, _, _⟩) (.bool (decide ((L.m : Int) < (x : Int)))) rfl (wanted_b rfl rfl (hD 9 80 (by kernel_rfl)) (eq_false_of hb)) (exec_gtn (p := x) (q := L.m) rfl ((hD 10 81 (by kernel_rfl)).1 hb) ((hD 12 83 (by kernel_rfl)).1 hb)) rfl)) ?_
          refine sv 15 rfl rfl rfl (fun a u hE hD hk => exec_pickor (.tmp 80) (.const (.bool true)) (.tmp 84) (((decide ((L.q : Int) < (c.qty : Int))) || (decide ((y : Int) ≠ (0 : Int))))) ((decide ((L.m : Int) < (x : Int)))) rfl (hD 9 80 (by kernel_rfl)) rfl (fun hb2 => ((hD 13 84 (by kernel_rfl)).1 hb2))) ?_
          refine sv 16 rfl rfl rfl (fun a u hE hD hk => exec_move (.tmp 85) _ rfl (hD 14 85 (by kernel_rfl))) ?_
          refine fsteps_cons 17 rfl (fun a u hE hD hk => f_unless ((((decide ((L.q : Int) < (c.qty : Int))) || (decide ((y : Int) ≠ (0 : Int)))) || (decide ((L.m : Int) < (x : Int))))) rfl rfl rfl (hD 15 86 (by kernel_rfl)) (fun hb => f_val (o := ⟨some 87, _, _, _, _, _⟩) (.pointer (some ⟨r, 0, none⟩)) rfl (wanted_b rfl rfl (hD 15 86 (by kernel_rfl)) (eq_false_of hb)) (exec_move (.tmp 0) _ rfl (hE 0 (.pointer (some ⟨r, 0, none⟩)) (by kernel_rfl) (by kernel_rfl))) rfl)) ?_
          refine fsteps_cons 18 rfl (fun a u hE hD hk => f_unless ((((decide ((L.q : Int) < (c.qty : Int))) || (decide ((y : Int) ≠ (0 : Int)))) || (decide ((L.m : Int) < (x : Int))))) rfl rfl rfl (hD 15 86 (by kernel_rfl)) (fun hb => f_val (o := ⟨some 88, _, _, _, _, _⟩) (.pointer (some ⟨g4, 0, none⟩)) rfl (wanted_b rfl rfl (hD 15 86 (by kernel_rfl)) (eq_false_of hb)) (exec_fldo 29 0 0 (.tmp 4) (g4) (0) (0) rfl (hE 4 (.pointer (some ⟨g4, 0, none⟩)) (by kernel_rfl) (by kernel_rfl)) (by kernel_rfl) rfl) rfl)) ?_
          refine fsteps_cons 19 rfl (fun a u hE hD hk => f_unless ((((decide ((L.q : Int) < (c.qty : Int))) || (decide ((y : Int) ≠ (0 : Int)))) || (decide ((L.m : Int) < (x : Int))))) rfl rfl rfl (hD 15 86 (by kernel_rfl)) (fun hb => f_val (o := ⟨some 89, _, _, _, _, _⟩) (.int .i64 c.tr) rfl (wanted_b rfl rfl (hD 15 86 (by kernel_rfl)) (eq_false_of hb)) (exec_loadi 3 Try.underlying3 (.tmp 88) ⟨g4, 0, none⟩ (.int .i64 c.tr) rfl ((hD 17 88 (by kernel_rfl)).1 hb) (range_int (range_kept HC8.out hk) 0 _ rfl)) rfl)) ?_
          refine fsteps_cons 20 rfl (fun a u hE hD hk => f_unless ((((decide ((L.q : Int) < (c.qty : Int))) || (decide ((y : Int) ≠ (0 : Int)))) || (decide ((L.m : Int) < (x : Int))))) rfl rfl rfl (hD 15 86 (by kernel_rfl)) (fun hb => f_call (o := ⟨some 90, _, _, _, _, _⟩) 29 #[.pointer (some ⟨r, 0, none⟩), .int .i64 c.tr] rfl (wanted_b rfl rfl (hD 15 86 (by kernel_rfl)) (eq_false_of hb)) (exec_call 29 _ [.tmp 87, .tmp 89] _ [.pointer (some ⟨r, 0, none⟩), .int .i64 c.tr] Try.func29 (by kernel_rfl) (by kernel_rfl) rfl (show [a.eval (.tmp 87), a.eval (.tmp 89)] = [.pointer (some ⟨r, 0, none⟩), .int .i64 c.tr] from (by rw [show a.eval (.tmp 87) = .pointer (some ⟨r, 0, none⟩) from ((hD 16 87 (by kernel_rfl)).1 hb), show a.eval (.tmp 89) = .int .i64 c.tr from ((hD 18 89 (by kernel_rfl)).1 hb)] <;> rfl)) u) (by rw [← HA8.out]; exact ropen_any r B F HI.out c.tr u (HR8.out.kept hk)))) ?_
          refine fsteps_cons 21 rfl (fun a u hE hD hk => f_unless ((((decide ((L.q : Int) < (c.qty : Int))) || (decide ((y : Int) ≠ (0 : Int)))) || (decide ((L.m : Int) < (x : Int))))) rfl rfl rfl (hD 15 86 (by kernel_rfl)) (fun hb => f_val (o := ⟨some 91, _, _, _, _, _⟩) (.pointer (some ⟨g4, 6, none⟩)) rfl (wanted_b rfl rfl (hD 15 86 (by kernel_rfl)) (eq_false_of hb)) (exec_fldo 29 6 6 (.tmp 4) (g4) (0) (6) rfl (hE 4 (.pointer (some ⟨g4, 0, none⟩)) (by kernel_rfl) (by kernel_rfl)) (by kernel_rfl) rfl) rfl)) ?_
          refine fsteps_cons 22 rfl (fun a u hE hD hk => f_unless ((((decide ((L.q : Int) < (c.qty : Int))) || (decide ((y : Int) ≠ (0 : Int)))) || (decide ((L.m : Int) < (x : Int))))) rfl rfl rfl (hD 15 86 (by kernel_rfl)) (fun hb => f_val (o := ⟨some 92, _, _, _, _, _⟩) (.int .i64 c.qty) rfl (wanted_b rfl rfl (hD 15 86 (by kernel_rfl)) (eq_false_of hb)) (exec_loadi 3 Try.underlying3 (.tmp 91) ⟨g4, 6, none⟩ (.int .i64 c.qty) rfl ((hD 20 91 (by kernel_rfl)).1 hb) (range_int (range_kept HC8.out hk) 6 _ rfl)) rfl)) ?_
          refine fsteps_cons 23 rfl (fun a u hE hD hk => f_unless ((((decide ((L.q : Int) < (c.qty : Int))) || (decide ((y : Int) ≠ (0 : Int)))) || (decide ((L.m : Int) < (x : Int))))) rfl rfl rfl (hD 15 86 (by kernel_rfl)) (fun hb => f_val (o := ⟨some 93, _, _, _, _, _⟩) (.int .i64 ((A8 : Int) + (c.qty : Int))) rfl (wanted_b rfl rfl (hD 15 86 (by kernel_rfl)) (eq_false_of hb)) (exec_addn (p := (A8)) (q := (c.qty)) ((A8 : Int) + (c.qty : Int)) rfl ((hD 19 90 (by kernel_rfl)).1 hb) ((hD 21 92 (by kernel_rfl)).1 hb) rfl (by omega) (by omega)) rfl)) ?_
          refine fsteps_cons 24 rfl (fun a u hE hD hk => f_unless ((((decide ((L.q : Int) < (c.qty : Int))) || (decide ((y : Int) ≠ (0 : Int)))) || (decide ((L.m : Int) < (x : Int))))) rfl rfl rfl (hD 15 86 (by kernel_rfl)) (fun hb => f_val (o := ⟨some 94, _, _, _, _, _⟩) (.pointer (some ⟨gl, 2, none⟩)) rfl (wanted_b rfl rfl (hD 15 86 (by kernel_rfl)) (eq_false_of hb)) (exec_fldo 25 2 2 (.tmp 7) (gl) (0) (2) rfl (hE 7 (.pointer (some ⟨gl, 0, none⟩)) (by kernel_rfl) (by kernel_rfl)) (by kernel_rfl) rfl) rfl)) ?_
          refine fsteps_cons 25 rfl (fun a u hE hD hk => f_unless ((((decide ((L.q : Int) < (c.qty : Int))) || (decide ((y : Int) ≠ (0 : Int)))) || (decide ((L.m : Int) < (x : Int))))) rfl rfl rfl (hD 15 86 (by kernel_rfl)) (fun hb => f_val (o := ⟨some 95, _, _, _, _, _⟩) (.int .i64 L.o) rfl (wanted_b rfl rfl (hD 15 86 (by kernel_rfl)) (eq_false_of hb)) (exec_loadi 3 Try.underlying3 (.tmp 94) ⟨gl, 2, none⟩ (.int .i64 L.o) rfl ((hD 23 94 (by kernel_rfl)).1 hb) (range_int (range_kept HL8.out hk) 2 _ rfl)) rfl)) ?_
          refine fsteps_cons 26 rfl (fun a u hE hD hk => f_unless ((((decide ((L.q : Int) < (c.qty : Int))) || (decide ((y : Int) ≠ (0 : Int)))) || (decide ((L.m : Int) < (x : Int))))) rfl rfl rfl (hD 15 86 (by kernel_rfl)) (fun hb => f_val (o := ⟨some 96, _, _, _, _, _⟩) (.bool (decide ((L.o : Int) < (((A8 : Int) + (c.qty : Int)) : Int)))) rfl (wanted_b rfl rfl (hD 15 86 (by kernel_rfl)) (eq_false_of hb)) (exec_gtn (p := ((A8 : Int) + (c.qty : Int))) (q := L.o) rfl ((hD 22 93 (by kernel_rfl)).1 hb) ((hD 24 95 (by kernel_rfl)).1 hb)) rfl)) ?_
          refine sv 27 rfl rfl rfl (fun a u hE hD hk => exec_pickor (.tmp 86) (.const (.bool true)) (.tmp 96) ((((decide ((L.q : Int) < (c.qty : Int))) || (decide ((y : Int) ≠ (0 : Int)))) || (decide ((L.m : Int) < (x : Int))))) ((decide ((L.o : Int) < (((A8 : Int) + (c.qty : Int)) : Int)))) rfl (hD 15 86 (by kernel_rfl)) rfl (fun hb2 => ((hD 25 96 (by kernel_rfl)).1 hb2))) ?_
          refine sv 28 rfl rfl rfl (fun a u hE hD hk => exec_move (.tmp 97) _ rfl (hD 26 97 (by kernel_rfl))) ?_
          refine fsteps_cons 29 rfl (fun a u hE hD hk => f_unless (((((decide ((L.q : Int) < (c.qty : Int))) || (decide ((y : Int) ≠ (0 : Int)))) || (decide ((L.m : Int) < (x : Int)))) || (decide ((L.o : Int) < (((A8 : Int) + (c.qty : Int)) : Int))))) rfl rfl rfl (hD 27 98 (by kernel_rfl)) (fun hb => f_val (o := ⟨some 99, _, _, _, _, _⟩) (.int .i64 (-(X - O - c.qty))) rfl (wanted_b rfl rfl (hD 27 98 (by kernel_rfl)) (eq_false_of hb)) (exec_move (.tmp 11) _ rfl (hE 11 (.int .i64 (-(X - O - c.qty))) (by kernel_rfl) (by kernel_rfl))) rfl)) ?_
          refine fsteps_cons 30 rfl (fun a u hE hD hk => f_unless (((((decide ((L.q : Int) < (c.qty : Int))) || (decide ((y : Int) ≠ (0 : Int)))) || (decide ((L.m : Int) < (x : Int)))) || (decide ((L.o : Int) < (((A8 : Int) + (c.qty : Int)) : Int))))) rfl rfl rfl (hD 27 98 (by kernel_rfl)) (fun hb => f_val (o := ⟨some 100, _, _, _, _, _⟩) (.pointer (some ⟨gl, 3, none⟩)) rfl (wanted_b rfl rfl (hD 27 98 (by kernel_rfl)) (eq_false_of hb)) (exec_fldo 25 3 3 (.tmp 7) (gl) (0) (3) rfl (hE 7 (.pointer (some ⟨gl, 0, none⟩)) (by kernel_rfl) (by kernel_rfl)) (by kernel_rfl) rfl) rfl)) ?_
          refine fsteps_cons 31 rfl (fun a u hE hD hk => f_unless (((((decide ((L.q : Int) < (c.qty : Int))) || (decide ((y : Int) ≠ (0 : Int)))) || (decide ((L.m : Int) < (x : Int)))) || (decide ((L.o : Int) < (((A8 : Int) + (c.qty : Int)) : Int))))) rfl rfl rfl (hD 27 98 (by kernel_rfl)) (fun hb => f_val (o := ⟨some 101, _, _, _, _, _⟩) (.int .i64 L.p) rfl (wanted_b rfl rfl (hD 27 98 (by kernel_rfl)) (eq_false_of hb)) (exec_loadi 3 Try.underlying3 (.tmp 100) ⟨gl, 3, none⟩ (.int .i64 L.p) rfl ((hD 29 100 (by kernel_rfl)).1 hb) (range_int (range_kept HL8.out hk) 3 _ rfl)) rfl)) ?_
          refine fsteps_cons 32 rfl (fun a u hE hD hk => f_unless (((((decide ((L.q : Int) < (c.qty : Int))) || (decide ((y : Int) ≠ (0 : Int)))) || (decide ((L.m : Int) < (x : Int)))) || (decide ((L.o : Int) < (((A8 : Int) + (c.qty : Int)) : Int))))) rfl rfl rfl (hD 27 98 (by kernel_rfl)) (fun hb => f_val (o := ⟨some 102, _, _, _, _, _⟩) (.bool (decide ((L.p : Int) < ((-(X - O - c.qty)) : Int)))) rfl (wanted_b rfl rfl (hD 27 98 (by kernel_rfl)) (eq_false_of hb)) (exec_gtn (p := (-(X - O - c.qty))) (q := L.p) rfl ((hD 28 99 (by kernel_rfl)).1 hb) ((hD 30 101 (by kernel_rfl)).1 hb)) rfl)) ?_
          refine fsteps_cons 33 rfl (fun a u hE hD hk => f_as (show ((((((decide ((L.q : Int) < (c.qty : Int))) || (decide ((y : Int) ≠ (0 : Int)))) || (decide ((L.m : Int) < (x : Int)))) || (decide ((L.o : Int) < (((A8 : Int) + (c.qty : Int)) : Int)))) || (decide ((L.p : Int) < ((-(X - O - c.qty)) : Int)))) : Bool) = b from HZ.out) (f_val (o := ⟨some 103, _, _, _, _, _⟩) (.bool (((((decide ((L.q : Int) < (c.qty : Int))) || (decide ((y : Int) ≠ (0 : Int)))) || (decide ((L.m : Int) < (x : Int)))) || (decide ((L.o : Int) < (((A8 : Int) + (c.qty : Int)) : Int)))) || (decide ((L.p : Int) < ((-(X - O - c.qty)) : Int))))) rfl (wanted_none rfl _) (exec_pickor (.tmp 98) (.const (.bool true)) (.tmp 102) (((((decide ((L.q : Int) < (c.qty : Int))) || (decide ((y : Int) ≠ (0 : Int)))) || (decide ((L.m : Int) < (x : Int)))) || (decide ((L.o : Int) < (((A8 : Int) + (c.qty : Int)) : Int))))) ((decide ((L.p : Int) < ((-(X - O - c.qty)) : Int)))) rfl (hD 27 98 (by kernel_rfl)) rfl (fun hb2 => ((hD 31 102 (by kernel_rfl)).1 hb2))) rfl)) ?_
          exact fsteps_nil
        intro gv w9 hV k9
        rw [show dstsOf _ 33 = [71, 72, 73, 74, 75, 76, 77, 78, 79, 80, 81, 82, 83, 84, 85, 86, 87, 88, 89, 90, 91, 92, 93, 94, 95, 96, 97, 98, 99, 100, 101, 102, 103] by kernel_rfl]
        simp only [List.foldl_cons, List.foldl_nil, List.setIfInBounds_toArray, List.set_cons_succ, List.set_cons_zero, List.drop_succ_cons, List.drop_zero]
        rw [show gv 103 = .bool b from hV 32 103 (by kernel_rfl)]
        clear hV
        refine wpList_nil ?_
        have kw := (kw5.trans k58).trans k9
        cases b with
        | true =>
          obtain rfl : 8 = V := hU
          go_wp2
          go_ret
          exact ⟨rfl, kw⟩
        | false =>
          obtain rfl : 0 = V := hU
          go_wp2
          go_ret
          exact ⟨rfl, kw⟩
end Go.Proofs.Ytgajdkelpaaadaa
