/-
  The contracts of package tree, and of the document's own tree. Conditions: a tree in memory (its block known whole).
-/
import Derived.Test.YtgodehggiddndaaTreM
import Derived.Test.YtgodehggiddndaaPrim
namespace Go.Proofs.Ytgodehggiddndaa
open Go.RowKit
set_option linter.unusedVariables false
set_option maxRecDepth 100000

def upB (n m : Int) : Bool := decide (0 ≤ n) && decide (n ≤ m)
theorem upB_true {n m : Int} (h0 : 0 ≤ n) (h1 : n ≤ m) : upB n m = true := by unfold upB; rw [decide_eq_true h0, decide_eq_true h1]; rfl
theorem upB_false {n m : Int} (h : n < 0 ∨ m < n) : upB n m = false := by
  unfold upB
  rcases h with h | h
  · rw [decide_eq_false (by omega)]; rfl
  · rw [decide_eq_false (show ¬ n ≤ m by omega), Bool.and_false]
theorem upto_any (n m : Int) (w : World) : Gives 26 #[.int .i64 n, .int .i64 m] w (.eq (.bool (upB n m))) := by
  refine gives_eq ?_
  go_enter Try.func26, Try.ntmps26
  go_upto_region 1 with fail
  refine wp_text 8 [.eq (.int .i64 n), .eq (.bool (decide ((0 : Int) ≤ (n : Int)))), .eq (.bool (decide ((0 : Int) ≤ (n : Int)))), .cond (decide ((0 : Int) ≤ (n : Int))) (.eq (.int .i64 n)), .cond (decide ((0 : Int) ≤ (n : Int))) (.eq (.int .i64 m)), .cond (decide ((0 : Int) ≤ (n : Int))) (.eq (.bool (decide ((n : Int) ≤ (m : Int))))), .eq (.bool ((decide ((0 : Int) ≤ (n : Int))) && (decide ((n : Int) ≤ (m : Int))))), .eq (.bool ((decide ((0 : Int) ≤ (n : Int))) && (decide ((n : Int) ≤ (m : Int)))))] rfl (by kernel_rfl) ?_ ?_
  · refine sv 1 rfl rfl rfl (fun a u hE hD hk => exec_move (.tmp 0) _ rfl (hE 0 (.int .i64 n) (by kernel_rfl) (by kernel_rfl))) ?_
    refine sv 2 rfl rfl rfl (fun a u hE hD hk => exec_len_ (p := 0) (q := n) rfl rfl (hD 0 5 (by kernel_rfl))) ?_
    refine sv 3 rfl rfl rfl (fun a u hE hD hk => exec_move (.tmp 6) _ rfl (hD 1 6 (by kernel_rfl))) ?_
    refine fsteps_cons 4 rfl (fun a u hE hD hk => f_if ((decide ((0 : Int) ≤ (n : Int)))) rfl rfl rfl (hD 2 7 (by kernel_rfl)) (fun hb => f_val (o := ⟨some 8, _, _, _, _, _⟩) (.int .i64 n) rfl (wanted_b rfl rfl (hD 2 7 (by kernel_rfl)) (eq_true_of hb)) (exec_move (.tmp 0) _ rfl (hE 0 (.int .i64 n) (by kernel_rfl) (by kernel_rfl))) rfl)) ?_
    refine fsteps_cons 5 rfl (fun a u hE hD hk => f_if ((decide ((0 : Int) ≤ (n : Int)))) rfl rfl rfl (hD 2 7 (by kernel_rfl)) (fun hb => f_val (o := ⟨some 9, _, _, _, _, _⟩) (.int .i64 m) rfl (wanted_b rfl rfl (hD 2 7 (by kernel_rfl)) (eq_true_of hb)) (exec_move (.tmp 1) _ rfl (hE 1 (.int .i64 m) (by kernel_rfl) (by kernel_rfl))) rfl)) ?_
    refine fsteps_cons 6 rfl (fun a u hE hD hk => f_if ((decide ((0 : Int) ≤ (n : Int)))) rfl rfl rfl (hD 2 7 (by kernel_rfl)) (fun hb => f_val (o := ⟨some 10, _, _, _, _, _⟩) (.bool (decide ((n : Int) ≤ (m : Int)))) rfl (wanted_b rfl rfl (hD 2 7 (by kernel_rfl)) (eq_true_of hb)) (exec_len_ (p := n) (q := m) rfl ((hD 3 8 (by kernel_rfl)).1 hb) ((hD 4 9 (by kernel_rfl)).1 hb)) rfl)) ?_
    refine sv 7 rfl rfl rfl (fun a u hE hD hk => exec_pickand (.tmp 7) (.tmp 10) (.const (.bool false)) ((decide ((0 : Int) ≤ (n : Int)))) ((decide ((n : Int) ≤ (m : Int)))) rfl (hD 2 7 (by kernel_rfl)) (fun hb2 => ((hD 5 10 (by kernel_rfl)).1 hb2)) rfl) ?_
    refine sv 8 rfl rfl rfl (fun a u hE hD hk => exec_assign (.tmp 11) _ rfl (hD 6 11 (by kernel_rfl))) ?_
    exact fsteps_nil
  intro gv w0 hV k0
  rw [show dstsOf _ 8 = [5, 6, 7, 8, 9, 10, 11, 4] by kernel_rfl]
  simp only [List.foldl_cons, List.foldl_nil, List.setIfInBounds_toArray, List.set_cons_succ, List.set_cons_zero, List.drop_succ_cons, List.drop_zero]
  rw [show gv 4 = .bool ((decide ((0 : Int) ≤ (n : Int))) && (decide ((n : Int) ≤ (m : Int)))) from hV 7 4 (by kernel_rfl)]
  clear hV
  refine wpList_nil ?_
  go_wp2
  go_ret
  exact ⟨rfl, k0⟩
theorem bit_any (j : Nat) (hj : j ≤ 31) (w : World) : Gives 22 #[.int .i64 (j : Int)] w (.eq (.int .u64 ((2 ^ j : Nat) : Int))) := by
  refine gives_eq ?_
  obtain ⟨z, hz⟩ : ∃ z : Int, ((2 ^ j : Nat) : Int) = z := ⟨_, rfl⟩
  have HZ := Lib.hid hz
  rw [hz]
  clear hz
  go_enter Try.func22, Try.ntmps22
  go_upto_region 1 with fail
  refine wp_text 3 [.eq (.int .i64 (j : Int)), .eq (.int .u64 z), .eq (.int .u64 z)] rfl (by kernel_rfl) ?_ ?_
  · refine sv 1 rfl rfl rfl (fun a u hE hD hk => exec_move (.tmp 0) _ rfl (hE 0 (.int .i64 (j : Int)) (by kernel_rfl) (by kernel_rfl))) ?_
    refine sv 2 rfl rfl rfl (fun a u hE hD hk => (by rw [← HZ.out]; exact exec_shlU (.tmp 3) _ j rfl (hD 0 3 (by kernel_rfl)) hj)) ?_
    refine sv 3 rfl rfl rfl (fun a u hE hD hk => exec_assign (.tmp 4) _ rfl (hD 1 4 (by kernel_rfl))) ?_
    exact fsteps_nil
  intro gv w0 hV k0
  rw [show dstsOf _ 3 = [3, 4, 2] by kernel_rfl]
  simp only [List.foldl_cons, List.foldl_nil, List.setIfInBounds_toArray, List.set_cons_succ, List.set_cons_zero, List.drop_succ_cons, List.drop_zero]
  rw [show gv 2 = .int .u64 z from hV 2 2 (by kernel_rfl)]
  clear hV
  refine wpList_nil ?_
  go_wp2
  go_ret
  exact ⟨rfl, k0⟩
def Trd.right (t : Trd) : Bool := ((upB t.firm 7 && upB t.desk 15) && upB t.roles 15) && upB t.insts 255
def Trd.may (t : Trd) : Bool := t.right && decide (t.roles ≠ 0)
set_option maxRecDepth 100000 in
theorem right_t (t : Trd) (w : World) : Gives 12 #[t.v] w (.eq (.bool t.right)) := by
  unfold Gives Trd.v
  have HB0 : Hid ((w.alloc (.cells t.cells.toArray 25)).rangeAt w.heap.size 0 t.cells) := blk_range (Blk.new w 25 t.cells)
  have kw0 : Kept w (w.alloc (.cells t.cells.toArray 25)) := (Keep.refl _ w).alloc _
  go_enter Try.func12, Try.ntmps12
  go_upto_region 1 with fail
  generalize w.alloc (.cells t.cells.toArray 25) = w0 at HB0 kw0 ⊢
  generalize w.heap.size = g at HB0 ⊢
  refine wp_text 19 [.eq (.pointer (some ⟨g, 0, none⟩)), .eq (.int .i64 t.firm), .eq (.bool (upB t.firm 7)), .eq (.bool (upB t.firm 7)), .cond (upB t.firm 7) (.eq (.pointer (some ⟨g, 1, none⟩))), .cond (upB t.firm 7) (.eq (.int .i64 t.desk)), .cond (upB t.firm 7) (.eq (.bool (upB t.desk 15))), .eq (.bool ((upB t.firm 7) && (upB t.desk 15))), .eq (.bool ((upB t.firm 7) && (upB t.desk 15))), .cond ((upB t.firm 7) && (upB t.desk 15)) (.eq (.pointer (some ⟨g, 2, none⟩))), .cond ((upB t.firm 7) && (upB t.desk 15)) (.eq (.int .i64 t.roles)), .cond ((upB t.firm 7) && (upB t.desk 15)) (.eq (.bool (upB t.roles 15))), .eq (.bool (((upB t.firm 7) && (upB t.desk 15)) && (upB t.roles 15))), .eq (.bool (((upB t.firm 7) && (upB t.desk 15)) && (upB t.roles 15))), .cond (((upB t.firm 7) && (upB t.desk 15)) && (upB t.roles 15)) (.eq (.pointer (some ⟨g, 3, none⟩))), .cond (((upB t.firm 7) && (upB t.desk 15)) && (upB t.roles 15)) (.eq (.int .i64 t.insts)), .cond (((upB t.firm 7) && (upB t.desk 15)) && (upB t.roles 15)) (.eq (.bool (upB t.insts 255))), .eq (.bool ((((upB t.firm 7) && (upB t.desk 15)) && (upB t.roles 15)) && (upB t.insts 255))), .eq (.bool ((((upB t.firm 7) && (upB t.desk 15)) && (upB t.roles 15)) && (upB t.insts 255)))] rfl (by kernel_rfl) ?_ ?_
  · refine sv 1 rfl rfl rfl (fun a u hE hD hk => exec_fldo 25 0 0 (.tmp 1) (g) (0) (0) rfl (hE 1 (.pointer (some ⟨g, 0, none⟩)) (by kernel_rfl) (by kernel_rfl)) (by kernel_rfl) rfl) ?_
    refine sv 2 rfl rfl rfl (fun a u hE hD hk => exec_loadi 3 Try.underlying3 (.tmp 3) ⟨g, 0, none⟩ (.int .i64 t.firm) rfl (hD 0 3 (by kernel_rfl)) ((range_kept (HB0.out) hk) 0 _ rfl)) ?_
    refine fsteps_cons 3 rfl (fun a u hE hD hk => f_call (o := ⟨some 5, _, _, _, _, _⟩) 26 #[.int .i64 t.firm, .int .i64 7] rfl (wanted_none rfl _) (exec_call 26 _ [.tmp 4, .const (.int .i64 7)] _ [.int .i64 t.firm, .int .i64 7] Try.func26 (by kernel_rfl) (by kernel_rfl) rfl (show [a.eval (.tmp 4), a.eval (.const (.int .i64 7))] = [.int .i64 t.firm, .int .i64 7] from (by rw [show a.eval (.tmp 4) = .int .i64 t.firm from (hD 1 4 (by kernel_rfl))] <;> rfl)) u) (upto_any _ _ u)) ?_
    refine sv 4 rfl rfl rfl (fun a u hE hD hk => exec_move (.tmp 5) _ rfl (hD 2 5 (by kernel_rfl))) ?_
    refine fsteps_cons 5 rfl (fun a u hE hD hk => f_if ((upB t.firm 7)) rfl rfl rfl (hD 3 6 (by kernel_rfl)) (fun hb => f_val (o := ⟨some 7, _, _, _, _, _⟩) (.pointer (some ⟨g, 1, none⟩)) rfl (wanted_b rfl rfl (hD 3 6 (by kernel_rfl)) (eq_true_of hb)) (exec_fldo 25 1 1 (.tmp 1) (g) (0) (1) rfl (hE 1 (.pointer (some ⟨g, 0, none⟩)) (by kernel_rfl) (by kernel_rfl)) (by kernel_rfl) rfl) rfl)) ?_
    refine fsteps_cons 6 rfl (fun a u hE hD hk => f_if ((upB t.firm 7)) rfl rfl rfl (hD 3 6 (by kernel_rfl)) (fun hb => f_val (o := ⟨some 8, _, _, _, _, _⟩) (.int .i64 t.desk) rfl (wanted_b rfl rfl (hD 3 6 (by kernel_rfl)) (eq_true_of hb)) (exec_loadi 3 Try.underlying3 (.tmp 7) ⟨g, 1, none⟩ (.int .i64 t.desk) rfl ((hD 4 7 (by kernel_rfl)).1 hb) ((range_kept (HB0.out) hk) 1 _ rfl)) rfl)) ?_
    refine fsteps_cons 7 rfl (fun a u hE hD hk => f_if ((upB t.firm 7)) rfl rfl rfl (hD 3 6 (by kernel_rfl)) (fun hb => f_call (o := ⟨some 9, _, _, _, _, _⟩) 26 #[.int .i64 t.desk, .int .i64 15] rfl (wanted_b rfl rfl (hD 3 6 (by kernel_rfl)) (eq_true_of hb)) (exec_call 26 _ [.tmp 8, .const (.int .i64 15)] _ [.int .i64 t.desk, .int .i64 15] Try.func26 (by kernel_rfl) (by kernel_rfl) rfl (show [a.eval (.tmp 8), a.eval (.const (.int .i64 15))] = [.int .i64 t.desk, .int .i64 15] from (by rw [show a.eval (.tmp 8) = .int .i64 t.desk from ((hD 5 8 (by kernel_rfl)).1 hb)] <;> rfl)) u) (upto_any _ _ u))) ?_
    refine sv 8 rfl rfl rfl (fun a u hE hD hk => exec_pickand (.tmp 6) (.tmp 9) (.const (.bool false)) ((upB t.firm 7)) ((upB t.desk 15)) rfl (hD 3 6 (by kernel_rfl)) (fun hb2 => ((hD 6 9 (by kernel_rfl)).1 hb2)) rfl) ?_
    refine sv 9 rfl rfl rfl (fun a u hE hD hk => exec_move (.tmp 10) _ rfl (hD 7 10 (by kernel_rfl))) ?_
    refine fsteps_cons 10 rfl (fun a u hE hD hk => f_if (((upB t.firm 7) && (upB t.desk 15))) rfl rfl rfl (hD 8 11 (by kernel_rfl)) (fun hb => f_val (o := ⟨some 12, _, _, _, _, _⟩) (.pointer (some ⟨g, 2, none⟩)) rfl (wanted_b rfl rfl (hD 8 11 (by kernel_rfl)) (eq_true_of hb)) (exec_fldo 25 2 2 (.tmp 1) (g) (0) (2) rfl (hE 1 (.pointer (some ⟨g, 0, none⟩)) (by kernel_rfl) (by kernel_rfl)) (by kernel_rfl) rfl) rfl)) ?_
    refine fsteps_cons 11 rfl (fun a u hE hD hk => f_if (((upB t.firm 7) && (upB t.desk 15))) rfl rfl rfl (hD 8 11 (by kernel_rfl)) (fun hb => f_val (o := ⟨some 13, _, _, _, _, _⟩) (.int .i64 t.roles) rfl (wanted_b rfl rfl (hD 8 11 (by kernel_rfl)) (eq_true_of hb)) (exec_loadi 3 Try.underlying3 (.tmp 12) ⟨g, 2, none⟩ (.int .i64 t.roles) rfl ((hD 9 12 (by kernel_rfl)).1 hb) ((range_kept (HB0.out) hk) 2 _ rfl)) rfl)) ?_
    refine fsteps_cons 12 rfl (fun a u hE hD hk => f_if (((upB t.firm 7) && (upB t.desk 15))) rfl rfl rfl (hD 8 11 (by kernel_rfl)) (fun hb => f_call (o := ⟨some 14, _, _, _, _, _⟩) 26 #[.int .i64 t.roles, .int .i64 15] rfl (wanted_b rfl rfl (hD 8 11 (by kernel_rfl)) (eq_true_of hb)) (exec_call 26 _ [.tmp 13, .const (.int .i64 15)] _ [.int .i64 t.roles, .int .i64 15] Try.func26 (by kernel_rfl) (by kernel_rfl) rfl (show [a.eval (.tmp 13), a.eval (.const (.int .i64 15))] = [.int .i64 t.roles, .int .i64 15] from (by rw [show a.eval (.tmp 13) = .int .i64 t.roles from ((hD 10 13 (by kernel_rfl)).1 hb)] <;> rfl)) u) (upto_any _ _ u))) ?_
    refine sv 13 rfl rfl rfl (fun a u hE hD hk => exec_pickand (.tmp 11) (.tmp 14) (.const (.bool false)) (((upB t.firm 7) && (upB t.desk 15))) ((upB t.roles 15)) rfl (hD 8 11 (by kernel_rfl)) (fun hb2 => ((hD 11 14 (by kernel_rfl)).1 hb2)) rfl) ?_
    refine sv 14 rfl rfl rfl (fun a u hE hD hk => exec_move (.tmp 15) _ rfl (hD 12 15 (by kernel_rfl))) ?_
    refine fsteps_cons 15 rfl (fun a u hE hD hk => f_if ((((upB t.firm 7) && (upB t.desk 15)) && (upB t.roles 15))) rfl rfl rfl (hD 13 16 (by kernel_rfl)) (fun hb => f_val (o := ⟨some 17, _, _, _, _, _⟩) (.pointer (some ⟨g, 3, none⟩)) rfl (wanted_b rfl rfl (hD 13 16 (by kernel_rfl)) (eq_true_of hb)) (exec_fldo 25 3 3 (.tmp 1) (g) (0) (3) rfl (hE 1 (.pointer (some ⟨g, 0, none⟩)) (by kernel_rfl) (by kernel_rfl)) (by kernel_rfl) rfl) rfl)) ?_
    refine fsteps_cons 16 rfl (fun a u hE hD hk => f_if ((((upB t.firm 7) && (upB t.desk 15)) && (upB t.roles 15))) rfl rfl rfl (hD 13 16 (by kernel_rfl)) (fun hb => f_val (o := ⟨some 18, _, _, _, _, _⟩) (.int .i64 t.insts) rfl (wanted_b rfl rfl (hD 13 16 (by kernel_rfl)) (eq_true_of hb)) (exec_loadi 3 Try.underlying3 (.tmp 17) ⟨g, 3, none⟩ (.int .i64 t.insts) rfl ((hD 14 17 (by kernel_rfl)).1 hb) ((range_kept (HB0.out) hk) 3 _ rfl)) rfl)) ?_
    refine fsteps_cons 17 rfl (fun a u hE hD hk => f_if ((((upB t.firm 7) && (upB t.desk 15)) && (upB t.roles 15))) rfl rfl rfl (hD 13 16 (by kernel_rfl)) (fun hb => f_call (o := ⟨some 19, _, _, _, _, _⟩) 26 #[.int .i64 t.insts, .int .i64 255] rfl (wanted_b rfl rfl (hD 13 16 (by kernel_rfl)) (eq_true_of hb)) (exec_call 26 _ [.tmp 18, .const (.int .i64 255)] _ [.int .i64 t.insts, .int .i64 255] Try.func26 (by kernel_rfl) (by kernel_rfl) rfl (show [a.eval (.tmp 18), a.eval (.const (.int .i64 255))] = [.int .i64 t.insts, .int .i64 255] from (by rw [show a.eval (.tmp 18) = .int .i64 t.insts from ((hD 15 18 (by kernel_rfl)).1 hb)] <;> rfl)) u) (upto_any _ _ u))) ?_
    refine sv 18 rfl rfl rfl (fun a u hE hD hk => exec_pickand (.tmp 16) (.tmp 19) (.const (.bool false)) ((((upB t.firm 7) && (upB t.desk 15)) && (upB t.roles 15))) ((upB t.insts 255)) rfl (hD 13 16 (by kernel_rfl)) (fun hb2 => ((hD 16 19 (by kernel_rfl)).1 hb2)) rfl) ?_
    refine sv 19 rfl rfl rfl (fun a u hE hD hk => exec_assign (.tmp 20) _ rfl (hD 17 20 (by kernel_rfl))) ?_
    exact fsteps_nil
  intro gv w1 hV k1
  rw [show dstsOf _ 19 = [3, 4, 5, 6, 7, 8, 9, 10, 11, 12, 13, 14, 15, 16, 17, 18, 19, 20, 2] by kernel_rfl]
  simp only [List.foldl_cons, List.foldl_nil, List.setIfInBounds_toArray, List.set_cons_succ, List.set_cons_zero, List.drop_succ_cons, List.drop_zero]
  rw [show gv 2 = .bool ((((upB t.firm 7) && (upB t.desk 15)) && (upB t.roles 15)) && (upB t.insts 255)) from hV 18 2 (by kernel_rfl)]
  clear hV
  refine wpList_nil ?_
  have kw1 := kw0.trans k1
  go_wp2
  go_ret
  exact ⟨_, rfl, rfl, kw1⟩
set_option maxRecDepth 100000 in
theorem may_t (t : Trd) (w : World) : Gives 21 #[t.v] w (.eq (.bool t.may)) := by
  unfold Gives Trd.v
  have HB0 : Hid ((w.alloc (.cells t.cells.toArray 25)).rangeAt w.heap.size 0 t.cells) := blk_range (Blk.new w 25 t.cells)
  have kw0 : Kept w (w.alloc (.cells t.cells.toArray 25)) := (Keep.refl _ w).alloc _
  go_enter Try.func21, Try.ntmps21
  go_upto_region 1 with fail
  generalize w.alloc (.cells t.cells.toArray 25) = w0 at HB0 kw0 ⊢
  generalize w.heap.size = g at HB0 ⊢
  refine wp_text 8 [.eq (t.v), .eq (.bool t.right), .eq (.bool t.right), .cond t.right (.eq (.pointer (some ⟨g, 2, none⟩))), .cond t.right (.eq (.int .i64 t.roles)), .cond t.right (.eq (.bool (decide ((t.roles : Int) ≠ (0 : Int))))), .eq (.bool (t.right && (decide ((t.roles : Int) ≠ (0 : Int))))), .eq (.bool (t.right && (decide ((t.roles : Int) ≠ (0 : Int)))))] rfl (by kernel_rfl) ?_ ?_
  · refine sv 1 rfl rfl rfl (fun a u hE hD hk => exec_ldS 25 _ (.tmp 1) (g) (0) (t.cells) rfl (hE 1 (.pointer (some ⟨g, 0, none⟩)) (by kernel_rfl) (by kernel_rfl)) (range_kept (HB0.out) hk) Try.underlying25 (by rw [Trd.len37]; exact szT)) ?_
    refine fsteps_cons 2 rfl (fun a u hE hD hk => f_call (o := ⟨some 4, _, _, _, _, _⟩) 12 #[t.v] rfl (wanted_none rfl _) (exec_call 12 _ [.tmp 3] _ [t.v] Try.func12 (by kernel_rfl) (by kernel_rfl) rfl (show [a.eval (.tmp 3)] = [t.v] from (by rw [show a.eval (.tmp 3) = t.v from (hD 0 3 (by kernel_rfl))] <;> rfl)) u) (right_t t u)) ?_
    refine sv 3 rfl rfl rfl (fun a u hE hD hk => exec_move (.tmp 4) _ rfl (hD 1 4 (by kernel_rfl))) ?_
    refine fsteps_cons 4 rfl (fun a u hE hD hk => f_if (t.right) rfl rfl rfl (hD 2 5 (by kernel_rfl)) (fun hb => f_val (o := ⟨some 6, _, _, _, _, _⟩) (.pointer (some ⟨g, 2, none⟩)) rfl (wanted_b rfl rfl (hD 2 5 (by kernel_rfl)) (eq_true_of hb)) (exec_fldo 25 2 2 (.tmp 1) (g) (0) (2) rfl (hE 1 (.pointer (some ⟨g, 0, none⟩)) (by kernel_rfl) (by kernel_rfl)) (by kernel_rfl) rfl) rfl)) ?_
    refine fsteps_cons 5 rfl (fun a u hE hD hk => f_if (t.right) rfl rfl rfl (hD 2 5 (by kernel_rfl)) (fun hb => f_val (o := ⟨some 7, _, _, _, _, _⟩) (.int .i64 t.roles) rfl (wanted_b rfl rfl (hD 2 5 (by kernel_rfl)) (eq_true_of hb)) (exec_loadi 3 Try.underlying3 (.tmp 6) ⟨g, 2, none⟩ (.int .i64 t.roles) rfl ((hD 3 6 (by kernel_rfl)).1 hb) ((range_kept (HB0.out) hk) 2 _ rfl)) rfl)) ?_
    refine fsteps_cons 6 rfl (fun a u hE hD hk => f_if (t.right) rfl rfl rfl (hD 2 5 (by kernel_rfl)) (fun hb => f_val (o := ⟨some 8, _, _, _, _, _⟩) (.bool (decide ((t.roles : Int) ≠ (0 : Int)))) rfl (wanted_b rfl rfl (hD 2 5 (by kernel_rfl)) (eq_true_of hb)) (exec_nen (p := t.roles) (q := 0) rfl ((hD 4 7 (by kernel_rfl)).1 hb) rfl) rfl)) ?_
    refine sv 7 rfl rfl rfl (fun a u hE hD hk => exec_pickand (.tmp 5) (.tmp 8) (.const (.bool false)) (t.right) ((decide ((t.roles : Int) ≠ (0 : Int)))) rfl (hD 2 5 (by kernel_rfl)) (fun hb2 => ((hD 5 8 (by kernel_rfl)).1 hb2)) rfl) ?_
    refine sv 8 rfl rfl rfl (fun a u hE hD hk => exec_assign (.tmp 9) _ rfl (hD 6 9 (by kernel_rfl))) ?_
    exact fsteps_nil
  intro gv w1 hV k1
  rw [show dstsOf _ 8 = [3, 4, 5, 6, 7, 8, 9, 2] by kernel_rfl]
  simp only [List.foldl_cons, List.foldl_nil, List.setIfInBounds_toArray, List.set_cons_succ, List.set_cons_zero, List.drop_succ_cons, List.drop_zero]
  rw [show gv 2 = .bool (t.right && (decide ((t.roles : Int) ≠ (0 : Int)))) from hV 7 2 (by kernel_rfl)]
  clear hV
  refine wpList_nil ?_
  have kw1 := kw0.trans k1
  go_wp2
  go_ret
  exact ⟨_, rfl, rfl, kw1⟩
theorem rright_eq (t : Trd) : t.right = (((((((decide (0 ≤ t.firm) && decide (t.firm < 8)) && decide (0 ≤ t.desk)) && decide (t.desk < 16)) && decide (0 ≤ t.roles)) && decide (t.roles < 16)) && decide (0 ≤ t.insts)) && decide (t.insts < 256)) := by
  unfold Trd.right upB
  rw [Bool.eq_iff_iff]
  simp only [Bool.and_eq_true, decide_eq_true_eq]
  omega
set_option maxRecDepth 100000 in
theorem rright_t (t : Trd) (w : World) : Gives 13 #[t.v] w (.eq (.bool t.right)) := by
  unfold Gives Trd.v
  have HB0 : Hid ((w.alloc (.cells t.cells.toArray 25)).rangeAt w.heap.size 0 t.cells) := blk_range (Blk.new w 25 t.cells)
  have kw0 : Kept w (w.alloc (.cells t.cells.toArray 25)) := (Keep.refl _ w).alloc _
  go_enter Try.func13, Try.ntmps13
  go_upto_region 1 with fail
  generalize w.alloc (.cells t.cells.toArray 25) = w0 at HB0 kw0 ⊢
  generalize w.heap.size = g at HB0 ⊢
  refine wp_text 39 [.eq (.pointer (some ⟨g, 0, none⟩)), .eq (.int .i64 t.firm), .eq (.bool (decide ((0 : Int) ≤ (t.firm : Int)))), .eq (.bool (decide ((0 : Int) ≤ (t.firm : Int)))), .cond (decide ((0 : Int) ≤ (t.firm : Int))) (.eq (.pointer (some ⟨g, 0, none⟩))), .cond (decide ((0 : Int) ≤ (t.firm : Int))) (.eq (.int .i64 t.firm)), .cond (decide ((0 : Int) ≤ (t.firm : Int))) (.eq (.bool (decide ((t.firm : Int) < (8 : Int))))), .eq (.bool ((decide ((0 : Int) ≤ (t.firm : Int))) && (decide ((t.firm : Int) < (8 : Int))))), .eq (.bool ((decide ((0 : Int) ≤ (t.firm : Int))) && (decide ((t.firm : Int) < (8 : Int))))), .cond ((decide ((0 : Int) ≤ (t.firm : Int))) && (decide ((t.firm : Int) < (8 : Int)))) (.eq (.pointer (some ⟨g, 1, none⟩))), .cond ((decide ((0 : Int) ≤ (t.firm : Int))) && (decide ((t.firm : Int) < (8 : Int)))) (.eq (.int .i64 t.desk)), .cond ((decide ((0 : Int) ≤ (t.firm : Int))) && (decide ((t.firm : Int) < (8 : Int)))) (.eq (.bool (decide ((0 : Int) ≤ (t.desk : Int))))), .eq (.bool (((decide ((0 : Int) ≤ (t.firm : Int))) && (decide ((t.firm : Int) < (8 : Int)))) && (decide ((0 : Int) ≤ (t.desk : Int))))), .eq (.bool (((decide ((0 : Int) ≤ (t.firm : Int))) && (decide ((t.firm : Int) < (8 : Int)))) && (decide ((0 : Int) ≤ (t.desk : Int))))), .cond (((decide ((0 : Int) ≤ (t.firm : Int))) && (decide ((t.firm : Int) < (8 : Int)))) && (decide ((0 : Int) ≤ (t.desk : Int)))) (.eq (.pointer (some ⟨g, 1, none⟩))), .cond (((decide ((0 : Int) ≤ (t.firm : Int))) && (decide ((t.firm : Int) < (8 : Int)))) && (decide ((0 : Int) ≤ (t.desk : Int)))) (.eq (.int .i64 t.desk)), .cond (((decide ((0 : Int) ≤ (t.firm : Int))) && (decide ((t.firm : Int) < (8 : Int)))) && (decide ((0 : Int) ≤ (t.desk : Int)))) (.eq (.bool (decide ((t.desk : Int) < (16 : Int))))), .eq (.bool ((((decide ((0 : Int) ≤ (t.firm : Int))) && (decide ((t.firm : Int) < (8 : Int)))) && (decide ((0 : Int) ≤ (t.desk : Int)))) && (decide ((t.desk : Int) < (16 : Int))))), .eq (.bool ((((decide ((0 : Int) ≤ (t.firm : Int))) && (decide ((t.firm : Int) < (8 : Int)))) && (decide ((0 : Int) ≤ (t.desk : Int)))) && (decide ((t.desk : Int) < (16 : Int))))), .cond ((((decide ((0 : Int) ≤ (t.firm : Int))) && (decide ((t.firm : Int) < (8 : Int)))) && (decide ((0 : Int) ≤ (t.desk : Int)))) && (decide ((t.desk : Int) < (16 : Int)))) (.eq (.pointer (some ⟨g, 2, none⟩))), .cond ((((decide ((0 : Int) ≤ (t.firm : Int))) && (decide ((t.firm : Int) < (8 : Int)))) && (decide ((0 : Int) ≤ (t.desk : Int)))) && (decide ((t.desk : Int) < (16 : Int)))) (.eq (.int .i64 t.roles)), .cond ((((decide ((0 : Int) ≤ (t.firm : Int))) && (decide ((t.firm : Int) < (8 : Int)))) && (decide ((0 : Int) ≤ (t.desk : Int)))) && (decide ((t.desk : Int) < (16 : Int)))) (.eq (.bool (decide ((0 : Int) ≤ (t.roles : Int))))), .eq (.bool (((((decide ((0 : Int) ≤ (t.firm : Int))) && (decide ((t.firm : Int) < (8 : Int)))) && (decide ((0 : Int) ≤ (t.desk : Int)))) && (decide ((t.desk : Int) < (16 : Int)))) && (decide ((0 : Int) ≤ (t.roles : Int))))), .eq (.bool (((((decide ((0 : Int) ≤ (t.firm : Int))) && (decide ((t.firm : Int) < (8 : Int)))) && (decide ((0 : Int) ≤ (t.desk : Int)))) && (decide ((t.desk : Int) < (16 : Int)))) && (decide ((0 : Int) ≤ (t.roles : Int))))), .cond (((((decide ((0 : Int) ≤ (t.firm : Int))) && (decide ((t.firm : Int) < (8 : Int)))) && (decide ((0 : Int) ≤ (t.desk : Int)))) && (decide ((t.desk : Int) < (16 : Int)))) && (decide ((0 : Int) ≤ (t.roles : Int)))) (.eq (.pointer (some ⟨g, 2, none⟩))), .cond (((((decide ((0 : Int) ≤ (t.firm : Int))) && (decide ((t.firm : Int) < (8 : Int)))) && (decide ((0 : Int) ≤ (t.desk : Int)))) && (decide ((t.desk : Int) < (16 : Int)))) && (decide ((0 : Int) ≤ (t.roles : Int)))) (.eq (.int .i64 t.roles)), .cond (((((decide ((0 : Int) ≤ (t.firm : Int))) && (decide ((t.firm : Int) < (8 : Int)))) && (decide ((0 : Int) ≤ (t.desk : Int)))) && (decide ((t.desk : Int) < (16 : Int)))) && (decide ((0 : Int) ≤ (t.roles : Int)))) (.eq (.bool (decide ((t.roles : Int) < (16 : Int))))), .eq (.bool ((((((decide ((0 : Int) ≤ (t.firm : Int))) && (decide ((t.firm : Int) < (8 : Int)))) && (decide ((0 : Int) ≤ (t.desk : Int)))) && (decide ((t.desk : Int) < (16 : Int)))) && (decide ((0 : Int) ≤ (t.roles : Int)))) && (decide ((t.roles : Int) < (16 : Int))))), .eq (.bool ((((((decide ((0 : Int) ≤ (t.firm : Int))) && (decide ((t.firm : Int) < (8 : Int)))) && (decide ((0 : Int) ≤ (t.desk : Int)))) && (decide ((t.desk : Int) < (16 : Int)))) && (decide ((0 : Int) ≤ (t.roles : Int)))) && (decide ((t.roles : Int) < (16 : Int))))), .cond ((((((decide ((0 : Int) ≤ (t.firm : Int))) && (decide ((t.firm : Int) < (8 : Int)))) && (decide ((0 : Int) ≤ (t.desk : Int)))) && (decide ((t.desk : Int) < (16 : Int)))) && (decide ((0 : Int) ≤ (t.roles : Int)))) && (decide ((t.roles : Int) < (16 : Int)))) (.eq (.pointer (some ⟨g, 3, none⟩))), .cond ((((((decide ((0 : Int) ≤ (t.firm : Int))) && (decide ((t.firm : Int) < (8 : Int)))) && (decide ((0 : Int) ≤ (t.desk : Int)))) && (decide ((t.desk : Int) < (16 : Int)))) && (decide ((0 : Int) ≤ (t.roles : Int)))) && (decide ((t.roles : Int) < (16 : Int)))) (.eq (.int .i64 t.insts)), .cond ((((((decide ((0 : Int) ≤ (t.firm : Int))) && (decide ((t.firm : Int) < (8 : Int)))) && (decide ((0 : Int) ≤ (t.desk : Int)))) && (decide ((t.desk : Int) < (16 : Int)))) && (decide ((0 : Int) ≤ (t.roles : Int)))) && (decide ((t.roles : Int) < (16 : Int)))) (.eq (.bool (decide ((0 : Int) ≤ (t.insts : Int))))), .eq (.bool (((((((decide ((0 : Int) ≤ (t.firm : Int))) && (decide ((t.firm : Int) < (8 : Int)))) && (decide ((0 : Int) ≤ (t.desk : Int)))) && (decide ((t.desk : Int) < (16 : Int)))) && (decide ((0 : Int) ≤ (t.roles : Int)))) && (decide ((t.roles : Int) < (16 : Int)))) && (decide ((0 : Int) ≤ (t.insts : Int))))), .eq (.bool (((((((decide ((0 : Int) ≤ (t.firm : Int))) && (decide ((t.firm : Int) < (8 : Int)))) && (decide ((0 : Int) ≤ (t.desk : Int)))) && (decide ((t.desk : Int) < (16 : Int)))) && (decide ((0 : Int) ≤ (t.roles : Int)))) && (decide ((t.roles : Int) < (16 : Int)))) && (decide ((0 : Int) ≤ (t.insts : Int))))), .cond (((((((decide ((0 : Int) ≤ (t.firm : Int))) && (decide ((t.firm : Int) < (8 : Int)))) && (decide ((0 : Int) ≤ (t.desk : Int)))) && (decide ((t.desk : Int) < (16 : Int)))) && (decide ((0 : Int) ≤ (t.roles : Int)))) && (decide ((t.roles : Int) < (16 : Int)))) && (decide ((0 : Int) ≤ (t.insts : Int)))) (.eq (.pointer (some ⟨g, 3, none⟩))), .cond (((((((decide ((0 : Int) ≤ (t.firm : Int))) && (decide ((t.firm : Int) < (8 : Int)))) && (decide ((0 : Int) ≤ (t.desk : Int)))) && (decide ((t.desk : Int) < (16 : Int)))) && (decide ((0 : Int) ≤ (t.roles : Int)))) && (decide ((t.roles : Int) < (16 : Int)))) && (decide ((0 : Int) ≤ (t.insts : Int)))) (.eq (.int .i64 t.insts)), .cond (((((((decide ((0 : Int) ≤ (t.firm : Int))) && (decide ((t.firm : Int) < (8 : Int)))) && (decide ((0 : Int) ≤ (t.desk : Int)))) && (decide ((t.desk : Int) < (16 : Int)))) && (decide ((0 : Int) ≤ (t.roles : Int)))) && (decide ((t.roles : Int) < (16 : Int)))) && (decide ((0 : Int) ≤ (t.insts : Int)))) (.eq (.bool (decide ((t.insts : Int) < (256 : Int))))), .eq (.bool ((((((((decide ((0 : Int) ≤ (t.firm : Int))) && (decide ((t.firm : Int) < (8 : Int)))) && (decide ((0 : Int) ≤ (t.desk : Int)))) && (decide ((t.desk : Int) < (16 : Int)))) && (decide ((0 : Int) ≤ (t.roles : Int)))) && (decide ((t.roles : Int) < (16 : Int)))) && (decide ((0 : Int) ≤ (t.insts : Int)))) && (decide ((t.insts : Int) < (256 : Int))))), .eq (.bool ((((((((decide ((0 : Int) ≤ (t.firm : Int))) && (decide ((t.firm : Int) < (8 : Int)))) && (decide ((0 : Int) ≤ (t.desk : Int)))) && (decide ((t.desk : Int) < (16 : Int)))) && (decide ((0 : Int) ≤ (t.roles : Int)))) && (decide ((t.roles : Int) < (16 : Int)))) && (decide ((0 : Int) ≤ (t.insts : Int)))) && (decide ((t.insts : Int) < (256 : Int)))))] rfl (by kernel_rfl) ?_ ?_
  · refine sv 1 rfl rfl rfl (fun a u hE hD hk => exec_fldo 25 0 0 (.tmp 1) (g) (0) (0) rfl (hE 1 (.pointer (some ⟨g, 0, none⟩)) (by kernel_rfl) (by kernel_rfl)) (by kernel_rfl) rfl) ?_
    refine sv 2 rfl rfl rfl (fun a u hE hD hk => exec_loadi 3 Try.underlying3 (.tmp 3) ⟨g, 0, none⟩ (.int .i64 t.firm) rfl (hD 0 3 (by kernel_rfl)) ((range_kept (HB0.out) hk) 0 _ rfl)) ?_
    refine sv 3 rfl rfl rfl (fun a u hE hD hk => exec_gen (p := t.firm) (q := 0) rfl (hD 1 4 (by kernel_rfl)) rfl) ?_
    refine sv 4 rfl rfl rfl (fun a u hE hD hk => exec_move (.tmp 5) _ rfl (hD 2 5 (by kernel_rfl))) ?_
    refine fsteps_cons 5 rfl (fun a u hE hD hk => f_if ((decide ((0 : Int) ≤ (t.firm : Int)))) rfl rfl rfl (hD 3 6 (by kernel_rfl)) (fun hb => f_val (o := ⟨some 7, _, _, _, _, _⟩) (.pointer (some ⟨g, 0, none⟩)) rfl (wanted_b rfl rfl (hD 3 6 (by kernel_rfl)) (eq_true_of hb)) (exec_fldo 25 0 0 (.tmp 1) (g) (0) (0) rfl (hE 1 (.pointer (some ⟨g, 0, none⟩)) (by kernel_rfl) (by kernel_rfl)) (by kernel_rfl) rfl) rfl)) ?_
    refine fsteps_cons 6 rfl (fun a u hE hD hk => f_if ((decide ((0 : Int) ≤ (t.firm : Int)))) rfl rfl rfl (hD 3 6 (by kernel_rfl)) (fun hb => f_val (o := ⟨some 8, _, _, _, _, _⟩) (.int .i64 t.firm) rfl (wanted_b rfl rfl (hD 3 6 (by kernel_rfl)) (eq_true_of hb)) (exec_loadi 3 Try.underlying3 (.tmp 7) ⟨g, 0, none⟩ (.int .i64 t.firm) rfl ((hD 4 7 (by kernel_rfl)).1 hb) ((range_kept (HB0.out) hk) 0 _ rfl)) rfl)) ?_
    refine fsteps_cons 7 rfl (fun a u hE hD hk => f_if ((decide ((0 : Int) ≤ (t.firm : Int)))) rfl rfl rfl (hD 3 6 (by kernel_rfl)) (fun hb => f_val (o := ⟨some 9, _, _, _, _, _⟩) (.bool (decide ((t.firm : Int) < (8 : Int)))) rfl (wanted_b rfl rfl (hD 3 6 (by kernel_rfl)) (eq_true_of hb)) (exec_ltn (p := t.firm) (q := 8) rfl ((hD 5 8 (by kernel_rfl)).1 hb) rfl) rfl)) ?_
    refine sv 8 rfl rfl rfl (fun a u hE hD hk => exec_pickand (.tmp 6) (.tmp 9) (.const (.bool false)) ((decide ((0 : Int) ≤ (t.firm : Int)))) ((decide ((t.firm : Int) < (8 : Int)))) rfl (hD 3 6 (by kernel_rfl)) (fun hb2 => ((hD 6 9 (by kernel_rfl)).1 hb2)) rfl) ?_
    refine sv 9 rfl rfl rfl (fun a u hE hD hk => exec_move (.tmp 10) _ rfl (hD 7 10 (by kernel_rfl))) ?_
    refine fsteps_cons 10 rfl (fun a u hE hD hk => f_if (((decide ((0 : Int) ≤ (t.firm : Int))) && (decide ((t.firm : Int) < (8 : Int))))) rfl rfl rfl (hD 8 11 (by kernel_rfl)) (fun hb => f_val (o := ⟨some 12, _, _, _, _, _⟩) (.pointer (some ⟨g, 1, none⟩)) rfl (wanted_b rfl rfl (hD 8 11 (by kernel_rfl)) (eq_true_of hb)) (exec_fldo 25 1 1 (.tmp 1) (g) (0) (1) rfl (hE 1 (.pointer (some ⟨g, 0, none⟩)) (by kernel_rfl) (by kernel_rfl)) (by kernel_rfl) rfl) rfl)) ?_
    refine fsteps_cons 11 rfl (fun a u hE hD hk => f_if (((decide ((0 : Int) ≤ (t.firm : Int))) && (decide ((t.firm : Int) < (8 : Int))))) rfl rfl rfl (hD 8 11 (by kernel_rfl)) (fun hb => f_val (o := ⟨some 13, _, _, _, _, _⟩) (.int .i64 t.desk) rfl (wanted_b rfl rfl (hD 8 11 (by kernel_rfl)) (eq_true_of hb)) (exec_loadi 3 Try.underlying3 (.tmp 12) ⟨g, 1, none⟩ (.int .i64 t.desk) rfl ((hD 9 12 (by kernel_rfl)).1 hb) ((range_kept (HB0.out) hk) 1 _ rfl)) rfl)) ?_
    refine fsteps_cons 12 rfl (fun a u hE hD hk => f_if (((decide ((0 : Int) ≤ (t.firm : Int))) && (decide ((t.firm : Int) < (8 : Int))))) rfl rfl rfl (hD 8 11 (by kernel_rfl)) (fun hb => f_val (o := ⟨some 14, _, _, _, _, _⟩) (.bool (decide ((0 : Int) ≤ (t.desk : Int)))) rfl (wanted_b rfl rfl (hD 8 11 (by kernel_rfl)) (eq_true_of hb)) (exec_gen (p := t.desk) (q := 0) rfl ((hD 10 13 (by kernel_rfl)).1 hb) rfl) rfl)) ?_
    refine sv 13 rfl rfl rfl (fun a u hE hD hk => exec_pickand (.tmp 11) (.tmp 14) (.const (.bool false)) (((decide ((0 : Int) ≤ (t.firm : Int))) && (decide ((t.firm : Int) < (8 : Int))))) ((decide ((0 : Int) ≤ (t.desk : Int)))) rfl (hD 8 11 (by kernel_rfl)) (fun hb2 => ((hD 11 14 (by kernel_rfl)).1 hb2)) rfl) ?_
    refine sv 14 rfl rfl rfl (fun a u hE hD hk => exec_move (.tmp 15) _ rfl (hD 12 15 (by kernel_rfl))) ?_
    refine fsteps_cons 15 rfl (fun a u hE hD hk => f_if ((((decide ((0 : Int) ≤ (t.firm : Int))) && (decide ((t.firm : Int) < (8 : Int)))) && (decide ((0 : Int) ≤ (t.desk : Int))))) rfl rfl rfl (hD 13 16 (by kernel_rfl)) (fun hb => f_val (o := ⟨some 17, _, _, _, _, _⟩) (.pointer (some ⟨g, 1, none⟩)) rfl (wanted_b rfl rfl (hD 13 16 (by kernel_rfl)) (eq_true_of hb)) (exec_fldo 25 1 1 (.tmp 1) (g) (0) (1) rfl (hE 1 (.pointer (some ⟨g, 0, none⟩)) (by kernel_rfl) (by kernel_rfl)) (by kernel_rfl) rfl) rfl)) ?_
    refine fsteps_cons 16 rfl (fun a u hE hD hk => f_if ((((decide ((0 : Int) ≤ (t.firm : Int))) && (decide ((t.firm : Int) < (8 : Int)))) && (decide ((0 : Int) ≤ (t.desk : Int))))) rfl rfl rfl (hD 13 16 (by kernel_rfl)) (fun hb => f_val (o := ⟨some 18, _, _, _, _, _⟩) (.int .i64 t.desk) rfl (wanted_b rfl rfl (hD 13 16 (by kernel_rfl)) (eq_true_of hb)) (exec_loadi 3 Try.underlying3 (.tmp 17) ⟨g, 1, none⟩ (.int .i64 t.desk) rfl ((hD 14 17 (by kernel_rfl)).1 hb) ((range_kept (HB0.out) hk) 1 _ rfl)) rfl)) ?_
    refine fsteps_cons 17 rfl (fun a u hE hD hk => f_if ((((decide ((0 : Int) ≤ (t.firm : Int))) && (decide ((t.firm : Int) < (8 : Int)))) && (decide ((0 : Int) ≤ (t.desk : Int))))) rfl rfl rfl (hD 13 16 (by kernel_rfl)) (fun hb => f_val (o := ⟨some 19, _, _, _, _, _⟩) (.bool (decide ((t.desk : Int) < (16 : Int)))) rfl (wanted_b rfl rfl (hD 13 16 (by kernel_rfl)) (eq_true_of hb)) (exec_ltn (p := t.desk) (q := 16) rfl ((hD 15 18 (by kernel_rfl)).1 hb) rfl) rfl)) ?_
    refine sv 18 rfl rfl rfl (fun a u hE hD hk => exec_pickand (.tmp 16) (.tmp 19) (.const (.bool false)) ((((decide ((0 : Int) ≤ (t.firm : Int))) && (decide ((t.firm : Int) < (8 : Int)))) && (decide ((0 : Int) ≤ (t.desk : Int))))) ((decide ((t.desk : Int) < (16 : Int)))) rfl (hD 13 16 (by kernel_rfl)) (fun hb2 => ((hD 16 19 (by kernel_rfl)).1 hb2)) rfl) ?_
    refine sv 19 rfl rfl rfl (fun a u hE hD hk => exec_move (.tmp 20) _ rfl (hD 17 20 (by kernel_rfl))) ?_
    refine fsteps_cons 20 rfl (fun a u hE hD hk => f_if (((((decide ((0 : Int) ≤ (t.firm : Int))) && (decide ((t.firm : Int) < (8 : Int)))) && (decide ((0 : Int) ≤ (t.desk : Int)))) && (decide ((t.desk : Int) < (16 : Int))))) rfl rfl rfl (hD 18 21 (by kernel_rfl)) (fun hb => f_val (o := ⟨some 22, _, _, _, _, _⟩) (.pointer (some ⟨g, 2, none⟩)) rfl (wanted_b rfl rfl (hD 18 21 (by kernel_rfl)) (eq_true_of hb)) (exec_fldo 25 2 2 (.tmp 1) (g) (0) (2) rfl (hE 1 (.pointer (some ⟨g, 0, none⟩)) (by kernel_rfl) (by kernel_rfl)) (by kernel_rfl) rfl) rfl)) ?_
    refine fsteps_cons 21 rfl (fun a u hE hD hk => f_if (((((decide ((0 : Int) ≤ (t.firm : Int))) && (decide ((t.firm : Int) < (8 : Int)))) && (decide ((0 : Int) ≤ (t.desk : Int)))) && (decide ((t.desk : Int) < (16 : Int))))) rfl rfl rfl (hD 18 21 (by kernel_rfl)) (fun hb => f_val (o := ⟨some 23, _, _, _, _, _⟩) (.int .i64 t.roles) rfl (wanted_b rfl rfl (hD 18 21 (by kernel_rfl)) (eq_true_of hb)) (exec_loadi 3 Try.underlying3 (.tmp 22) ⟨g, 2, none⟩ (.int .i64 t.roles) rfl ((hD 19 22 (by kernel_rfl)).1 hb) ((range_kept (HB0.out) hk) 2 _ rfl)) rfl)) ?_
    refine fsteps_cons 22 rfl (fun a u hE hD hk => f_if (((((decide ((0 : Int) ≤ (t.firm : Int))) && (decide ((t.firm : Int) < (8 : Int)))) && (decide ((0 : Int) ≤ (t.desk : Int)))) && (decide ((t.desk : Int) < (16 : Int))))) rfl rfl rfl (hD 18 21 (by kernel_rfl)) (fun hb => f_val (o := ⟨some 24, _, _, _, _, _⟩) (.bool (decide ((0 : Int) ≤ (t.roles : Int)))) rfl (wanted_b rfl rfl (hD 18 21 (by kernel_rfl)) (eq_true_of hb)) (exec_gen (p := t.roles) (q := 0) rfl ((hD 20 23 (by kernel_rfl)).1 hb) rfl) rfl)) ?_
    refine sv 23 rfl rfl rfl (fun a u hE hD hk => exec_pickand (.tmp 21) (.tmp 24) (.const (.bool false)) (((((decide ((0 : Int) ≤ (t.firm : Int))) && (decide ((t.firm : Int) < (8 : Int)))) && (decide ((0 : Int) ≤ (t.desk : Int)))) && (decide ((t.desk : Int) < (16 : Int))))) ((decide ((0 : Int) ≤ (t.roles : Int)))) rfl (hD 18 21 (by kernel_rfl)) (fun hb2 => ((hD 21 24 (by kernel_rfl)).1 hb2)) rfl) ?_
    refine sv 24 rfl rfl rfl (fun a u hE hD hk => exec_move (.tmp 25) _ rfl (hD 22 25 (by kernel_rfl))) ?_
    refine fsteps_cons 25 rfl (fun a u hE hD hk => f_if ((((((decide ((0 : Int) ≤ (t.firm : Int))) && (decide ((t.firm : Int) < (8 : Int)))) && (decide ((0 : Int) ≤ (t.desk : Int)))) && (decide ((t.desk : Int) < (16 : Int)))) && (decide ((0 : Int) ≤ (t.roles : Int))))) rfl rfl rfl (hD 23 26 (by kernel_rfl)) (fun hb => f_val (o := ⟨some 27, _, _, _, _, _⟩) (.pointer (some ⟨g, 2, none⟩)) rfl (wanted_b rfl rfl (hD 23 26 (by kernel_rfl)) (eq_true_of hb)) (exec_fldo 25 2 2 (.tmp 1) (g) (0) (2) rfl (hE 1 (.pointer (some ⟨g, 0, none⟩)) (by kernel_rfl) (by kernel_rfl)) (by kernel_rfl) rfl) rfl)) ?_
    refine fsteps_cons 26 rfl (fun a u hE hD hk => f_if ((((((decide ((0 : Int) ≤ (t.firm : Int))) && (decide ((t.firm : Int) < (8 : Int)))) && (decide ((0 : Int) ≤ (t.desk : Int)))) && (decide ((t.desk : Int) < (16 : Int)))) && (decide ((0 : Int) ≤ (t.roles : Int))))) rfl rfl rfl (hD 23 26 (by kernel_rfl)) (fun hb => f_val (o := ⟨some 28, _, _, _, _, _⟩) (.int .i64 t.roles) rfl (wanted_b rfl rfl (hD 23 26 (by kernel_rfl)) (eq_true_of hb)) (exec_loadi 3 Try.underlying3 (.tmp 27) ⟨g, 2, none⟩ (.int .i64 t.roles) rfl ((hD 24 27 (by kernel_rfl)).1 hb) ((range_kept (HB0.out) hk) 2 _ rfl)) rfl)) ?_
    refine fsteps_cons 27 rfl (fun a u hE hD hk => f_if ((((((decide ((0 : Int) ≤ (t.firm : Int))) && (decide ((t.firm : Int) < (8 : Int)))) && (decide ((0 : Int) ≤ (t.desk : Int)))) && (decide ((t.desk : Int) < (16 : Int)))) && (decide ((0 : Int) ≤ (t.roles : Int))))) rfl rfl rfl (hD 23 26 (by kernel_rfl)) (fun hb => f_val (o := ⟨some 29, _, _, _, _, _⟩) (.bool (decide ((t.roles : Int) < (16 : Int)))) rfl (wanted_b rfl rfl (hD 23 26 (by kernel_rfl)) (eq_true_of hb)) (exec_ltn (p := t.roles) (q := 16) rfl ((hD 25 28 (by kernel_rfl)).1 hb) rfl) rfl)) ?_
    refine sv 28 rfl rfl rfl (fun a u hE hD hk => exec_pickand (.tmp 26) (.tmp 29) (.const (.bool false)) ((((((decide ((0 : Int) ≤ (t.firm : Int))) && (decide ((t.firm : Int) < (8 : Int)))) && (decide ((0 : Int) ≤ (t.desk : Int)))) && (decide ((t.desk : Int) < (16 : Int)))) && (decide ((0 : Int) ≤ (t.roles : Int))))) ((decide ((t.roles : Int) < (16 : Int)))) rfl (hD 23 26 (by kernel_rfl)) (fun hb2 => ((hD 26 29 (by kernel_rfl)).1 hb2)) rfl) ?_
    refine sv 29 rfl rfl rfl (fun a u hE hD hk => exec_move (.tmp 30) _ rfl (hD 27 30 (by kernel_rfl))) ?_
    refine fsteps_cons 30 rfl (fun a u hE hD hk => f_if (((((((decide ((0 : Int) ≤ (t.firm : Int))) && (decide ((t.firm : Int) < (8 : Int)))) && (decide ((0 : Int) ≤ (t.desk : Int)))) && (decide ((t.desk : Int) < (16 : Int)))) && (decide ((0 : Int) ≤ (t.roles : Int)))) && (decide ((t.roles : Int) < (16 : Int))))) rfl rfl rfl (hD 28 31 (by kernel_rfl)) (fun hb => f_val (o := ⟨some 32, _, _, _, _, _⟩) (.pointer (some ⟨g, 3, none⟩)) rfl (wanted_b rfl rfl (hD 28 31 (by kernel_rfl)) (eq_true_of hb)) (exec_fldo 25 3 3 (.tmp 1) (g) (0) (3) rfl (hE 1 (.pointer (some ⟨g, 0, none⟩)) (by kernel_rfl) (by kernel_rfl)) (by kernel_rfl) rfl) rfl)) ?_
    refine fsteps_cons 31 rfl (fun a u hE hD hk => f_if (((((((decide ((0 : Int) ≤ (t.firm : Int))) && (decide ((t.firm : Int) < (8 : Int)))) && (decide ((0 : Int) ≤ (t.desk : Int)))) && (decide ((t.desk : Int) < (16 : Int)))) && (decide ((0 : Int) ≤ (t.roles : Int)))) && (decide ((t.roles : Int) < (16 : Int))))) rfl rfl rfl (hD 28 31 (by kernel_rfl)) (fun hb => f_val (o := ⟨some 33, _, _, _, _, _⟩) (.int .i64 t.insts) rfl (wanted_b rfl rfl (hD 28 31 (by kernel_rfl)) (eq_true_of hb)) (exec_loadi 3 Try.underlying3 (.tmp 32) ⟨g, 3, none⟩ (.int .i64 t.insts) rfl ((hD 29 32 (by kernel_rfl)).1 hb) ((range_kept (HB0.out) hk) 3 _ rfl)) rfl)) ?_
    refine fsteps_cons 32 rfl (fun a u hE hD hk => f_if (((((((decide ((0 : Int) ≤ (t.firm : Int))) && (decide ((t.firm : Int) < (8 : Int)))) && (decide ((0 : Int) ≤ (t.desk : Int)))) && (decide ((t.desk : Int) < (16 : Int)))) && (decide ((0 : Int) ≤ (t.roles : Int)))) && (decide ((t.roles : Int) < (16 : Int))))) rfl rfl rfl (hD 28 31 (by kernel_rfl)) (fun hb => f_val (o := ⟨some 34, _, _, _, _, _⟩) (.bool (decide ((0 : Int) ≤ (t.insts : Int)))) rfl (wanted_b rfl rfl (hD 28 31 (by kernel_rfl)) (eq_true_of hb)) (exec_gen (p := t.insts) (q := 0) rfl ((hD 30 33 (by kernel_rfl)).1 hb) rfl) rfl)) ?_
    refine sv 33 rfl rfl rfl (fun a u hE hD hk => exec_pickand (.tmp 31) (.tmp 34) (.const (.bool false)) (((((((decide ((0 : Int) ≤ (t.firm : Int))) && (decide ((t.firm : Int) < (8 : Int)))) && (decide ((0 : Int) ≤ (t.desk : Int)))) && (decide ((t.desk : Int) < (16 : Int)))) && (decide ((0 : Int) ≤ (t.roles : Int)))) && (decide ((t.roles : Int) < (16 : Int))))) ((decide ((0 : Int) ≤ (t.insts : Int)))) rfl (hD 28 31 (by kernel_rfl)) (fun hb2 => ((hD 31 34 (by kernel_rfl)).1 hb2)) rfl) ?_
    refine sv 34 rfl rfl rfl (fun a u hE hD hk => exec_move (.tmp 35) _ rfl (hD 32 35 (by kernel_rfl))) ?_
    refine fsteps_cons 35 rfl (fun a u hE hD hk => f_if ((((((((decide ((0 : Int) ≤ (t.firm : Int))) && (decide ((t.firm : Int) < (8 : Int)))) && (decide ((0 : Int) ≤ (t.desk : Int)))) && (decide ((t.desk : Int) < (16 : Int)))) && (decide ((0 : Int) ≤ (t.roles : Int)))) && (decide ((t.roles : Int) < (16 : Int)))) && (decide ((0 : Int) ≤ (t.insts : Int))))) rfl rfl rfl (hD 33 36 (by kernel_rfl)) (fun hb => f_val (o := ⟨some 37, _, _, _, _, _⟩) (.pointer (some ⟨g, 3, none⟩)) rfl (wanted_b rfl rfl (hD 33 36 (by kernel_rfl)) (eq_true_of hb)) (exec_fldo 25 3 3 (.tmp 1) (g) (0) (3) rfl (hE 1 (.pointer (some ⟨g, 0, none⟩)) (by kernel_rfl) (by kernel_rfl)) (by kernel_rfl) rfl) rfl)) ?_
    refine fsteps_cons 36 rfl (fun a u hE hD hk => f_if ((((((((decide ((0 : Int) ≤ (t.firm : Int))) && (decide ((t.firm : Int) < (8 : Int)))) && (decide ((0 : Int) ≤ (t.desk : Int)))) && (decide ((t.desk : Int) < (16 : Int)))) && (decide ((0 : Int) ≤ (t.roles : Int)))) && (decide ((t.roles : Int) < (16 : Int)))) && (decide ((0 : Int) ≤ (t.insts : Int))))) rfl rfl rfl (hD 33 36 (by kernel_rfl)) (fun hb => f_val (o := ⟨some 38, _, _, _, _, _⟩) (.int .i64 t.insts) rfl (wanted_b rfl rfl (hD 33 36 (by kernel_rfl)) (eq_true_of hb)) (exec_loadi 3 Try.underlying3 (.tmp 37) ⟨g, 3, none⟩ (.int .i64 t.insts) rfl ((hD 34 37 (by kernel_rfl)).1 hb) ((range_kept (HB0.out) hk) 3 _ rfl)) rfl)) ?_
    refine fsteps_cons 37 rfl (fun a u hE hD hk => f_if ((((((((decide ((0 : Int) ≤ (t.firm : Int))) && (decide ((t.firm : Int) < (8 : Int)))) && (decide ((0 : Int) ≤ (t.desk : Int)))) && (decide ((t.desk : Int) < (16 : Int)))) && (decide ((0 : Int) ≤ (t.roles : Int)))) && (decide ((t.roles : Int) < (16 : Int)))) && (decide ((0 : Int) ≤ (t.insts : Int))))) rfl rfl rfl (hD 33 36 (by kernel_rfl)) (fun hb => f_val (o := ⟨some 39, _, _, _, _, _⟩) (.bool (decide ((t.insts : Int) < (256 : Int)))) rfl (wanted_b rfl rfl (hD 33 36 (by kernel_rfl)) (eq_true_of hb)) (exec_ltn (p := t.insts) (q := 256) rfl ((hD 35 38 (by kernel_rfl)).1 hb) rfl) rfl)) ?_
    refine sv 38 rfl rfl rfl (fun a u hE hD hk => exec_pickand (.tmp 36) (.tmp 39) (.const (.bool false)) ((((((((decide ((0 : Int) ≤ (t.firm : Int))) && (decide ((t.firm : Int) < (8 : Int)))) && (decide ((0 : Int) ≤ (t.desk : Int)))) && (decide ((t.desk : Int) < (16 : Int)))) && (decide ((0 : Int) ≤ (t.roles : Int)))) && (decide ((t.roles : Int) < (16 : Int)))) && (decide ((0 : Int) ≤ (t.insts : Int))))) ((decide ((t.insts : Int) < (256 : Int)))) rfl (hD 33 36 (by kernel_rfl)) (fun hb2 => ((hD 36 39 (by kernel_rfl)).1 hb2)) rfl) ?_
    refine sv 39 rfl rfl rfl (fun a u hE hD hk => exec_assign (.tmp 40) _ rfl (hD 37 40 (by kernel_rfl))) ?_
    exact fsteps_nil
  intro gv w1 hV k1
  rw [show dstsOf _ 39 = [3, 4, 5, 6, 7, 8, 9, 10, 11, 12, 13, 14, 15, 16, 17, 18, 19, 20, 21, 22, 23, 24, 25, 26, 27, 28, 29, 30, 31, 32, 33, 34, 35, 36, 37, 38, 39, 40, 2] by kernel_rfl]
  simp only [List.foldl_cons, List.foldl_nil, List.setIfInBounds_toArray, List.set_cons_succ, List.set_cons_zero, List.drop_succ_cons, List.drop_zero]
  rw [show gv 2 = .bool ((((((((decide ((0 : Int) ≤ (t.firm : Int))) && (decide ((t.firm : Int) < (8 : Int)))) && (decide ((0 : Int) ≤ (t.desk : Int)))) && (decide ((t.desk : Int) < (16 : Int)))) && (decide ((0 : Int) ≤ (t.roles : Int)))) && (decide ((t.roles : Int) < (16 : Int)))) && (decide ((0 : Int) ≤ (t.insts : Int)))) && (decide ((t.insts : Int) < (256 : Int)))) from hV 38 2 (by kernel_rfl)]
  clear hV
  refine wpList_nil ?_
  have kw1 := kw0.trans k1
  go_wp2
  go_ret
  exact ⟨_, rfl, (congrArg Value.bool (rright_eq t)).symm ▸ rfl, kw1⟩
def Trds.there (X : Trds) (n : Int) : Bool := upB n 31 && decide ((X.at_ n.toNat).roles ≠ 0)
theorem there_in {X : Trds} {i : Nat} (hi : i < 32) : X.there (i : Int) = decide ((X.at_ i).roles ≠ 0) := by
  unfold Trds.there
  rw [upB_true (by omega) (by omega), Int.toNat_natCast, Bool.true_and]
theorem there_out {X : Trds} {n : Int} (h : n < 0 ∨ 31 < n) : X.there n = false := by
  unfold Trds.there
  rw [upB_false h, Bool.false_and]
theorem there_lt {X : Trds} {n : Int} (h : X.there n = true) : ∃ i : Nat, i < 32 ∧ n = (i : Int) := by
  by_cases h0 : n < 0 ∨ 31 < n
  · rw [there_out h0] at h; cases h
  · exact ⟨n.toNat, by omega, by omega⟩
set_option maxRecDepth 100000 in
theorem there_any (w : World) (p : Nat) (X : Trds) (n : Int) (hB : Blk w p 51 X.cells) : Gives 17 #[.pointer (some ⟨p, 0, none⟩), .int .i64 n] w (.eq (.bool (X.there n))) := by
  refine gives_eq ?_
  have HB := Lib.hid hB
  clear hB
  by_cases h0 : n < 0 ∨ 31 < n
  · have HU := Lib.hid (upB_false h0)
    have HT := Lib.hid (there_out (X := X) h0)
    clear h0
    go_enter Try.func17, Try.ntmps17
    go_upto_region 1 with fail
    refine wp_text 13 [.eq (.int .i64 n), .eq (.bool false), .eq (.bool false), .eq undef, .eq undef, .eq undef, .eq undef, .eq undef, .eq undef, .eq undef, .eq undef, .eq (.bool false), .eq (.bool false)] rfl (by kernel_rfl) ?_ ?_
    · refine sv 1 rfl rfl rfl (fun a u hE hD hk => exec_move (.tmp 1) _ rfl (hE 1 (.int .i64 n) (by kernel_rfl) (by kernel_rfl))) ?_
      refine fsteps_cons 2 rfl (fun a u hE hD hk => f_call (o := ⟨some 6, _, _, _, _, _⟩) 26 #[.int .i64 n, .int .i64 31] rfl (wanted_none rfl _) (exec_call 26 _ [.tmp 5, .const (.int .i64 31)] _ [.int .i64 n, .int .i64 31] Try.func26 (by kernel_rfl) (by kernel_rfl) rfl (show [a.eval (.tmp 5), a.eval (.const (.int .i64 31))] = [.int .i64 n, .int .i64 31] from (by rw [show a.eval (.tmp 5) = .int .i64 n from (hD 0 5 (by kernel_rfl))] <;> rfl)) u) (by rw [← HU.out]; exact upto_any n 31 u)) ?_
      refine sv 3 rfl rfl rfl (fun a u hE hD hk => exec_move (.tmp 6) _ rfl (hD 1 6 (by kernel_rfl))) ?_
      refine fsteps_cons 4 rfl (fun a u hE hD hk => f_skip (o := ⟨some 8, _, _, _, _, _⟩) rfl (wanted_at (b := true) false rfl rfl (hD 2 7 (by kernel_rfl))) rfl) ?_
      refine fsteps_cons 5 rfl (fun a u hE hD hk => f_skip (o := ⟨some 9, _, _, _, _, _⟩) rfl (wanted_at (b := true) false rfl rfl (hD 2 7 (by kernel_rfl))) rfl) ?_
      refine fsteps_cons 6 rfl (fun a u hE hD hk => f_skip (o := ⟨some 10, _, _, _, _, _⟩) rfl (wanted_at (b := true) false rfl rfl (hD 2 7 (by kernel_rfl))) rfl) ?_
      refine fsteps_cons 7 rfl (fun a u hE hD hk => f_skip (o := ⟨some 11, _, _, _, _, _⟩) rfl (wanted_at (b := true) false rfl rfl (hD 2 7 (by kernel_rfl))) rfl) ?_
      refine fsteps_cons 8 rfl (fun a u hE hD hk => f_skip (o := ⟨some 12, _, _, _, _, _⟩) rfl (wanted_at (b := true) false rfl rfl (hD 2 7 (by kernel_rfl))) rfl) ?_
      refine fsteps_cons 9 rfl (fun a u hE hD hk => f_skip (o := ⟨some 13, _, _, _, _, _⟩) rfl (wanted_at (b := true) false rfl rfl (hD 2 7 (by kernel_rfl))) rfl) ?_
      refine fsteps_cons 10 rfl (fun a u hE hD hk => f_skip (o := ⟨some 14, _, _, _, _, _⟩) rfl (wanted_at (b := true) false rfl rfl (hD 2 7 (by kernel_rfl))) rfl) ?_
      refine fsteps_cons 11 rfl (fun a u hE hD hk => f_skip (o := ⟨some 15, _, _, _, _, _⟩) rfl (wanted_at (b := true) false rfl rfl (hD 2 7 (by kernel_rfl))) rfl) ?_
      refine sv 12 rfl rfl rfl (fun a u hE hD hk => exec_pickF (.tmp 7) (.tmp 15) (.const (.bool false)) (.bool false) rfl (hD 2 7 (by kernel_rfl)) rfl) ?_
      refine sv 13 rfl rfl rfl (fun a u hE hD hk => exec_assign (.tmp 16) _ rfl (hD 11 16 (by kernel_rfl))) ?_
      exact fsteps_nil
    intro gv w0 hV k0
    rw [show dstsOf _ 13 = [5, 6, 7, 8, 9, 10, 11, 12, 13, 14, 15, 16, 4] by kernel_rfl]
    simp only [List.foldl_cons, List.foldl_nil, List.setIfInBounds_toArray, List.set_cons_succ, List.set_cons_zero, List.drop_succ_cons, List.drop_zero]
    rw [show gv 4 = .bool false from hV 12 4 (by kernel_rfl)]
    clear hV
    refine wpList_nil ?_
    go_wp2
    go_ret
    exact ⟨ret_bool HT.out.symm, k0⟩
  · obtain ⟨i, hi, rfl⟩ : ∃ i : Nat, i < 32 ∧ n = (i : Int) := ⟨n.toNat, by omega, by omega⟩
    have HU := Lib.hid (upB_true (n := (i : Int)) (m := 31) (by omega) (by omega))
    have HT := Lib.hid (there_in (X := X) hi)
    clear h0
    go_enter Try.func17, Try.ntmps17
    go_upto_region 1 with fail
    refine wp_text 13 [.eq (.int .i64 (i : Int)), .eq (.bool true), .eq (.bool true), .eq (.pointer (some ⟨p, 0, none⟩)), .eq (.int .i64 (i : Int)), .eq (.pointer (some ⟨p, 0, none⟩)), .eq (.pointer (some ⟨p, 0, none⟩)), .eq (.pointer (some ⟨p, i * 37, none⟩)), .eq (.pointer (some ⟨p, i * 37 + 2, none⟩)), .eq (.int .i64 (X.at_ i).roles), .eq (.bool (decide (((X.at_ i).roles : Int) ≠ (0 : Int)))), .eq (.bool (decide (((X.at_ i).roles : Int) ≠ (0 : Int)))), .eq (.bool (decide (((X.at_ i).roles : Int) ≠ (0 : Int))))] rfl (by kernel_rfl) ?_ ?_
    · refine sv 1 rfl rfl rfl (fun a u hE hD hk => exec_move (.tmp 1) _ rfl (hE 1 (.int .i64 (i : Int)) (by kernel_rfl) (by kernel_rfl))) ?_
      refine fsteps_cons 2 rfl (fun a u hE hD hk => f_call (o := ⟨some 6, _, _, _, _, _⟩) 26 #[.int .i64 (i : Int), .int .i64 31] rfl (wanted_none rfl _) (exec_call 26 _ [.tmp 5, .const (.int .i64 31)] _ [.int .i64 (i : Int), .int .i64 31] Try.func26 (by kernel_rfl) (by kernel_rfl) rfl (show [a.eval (.tmp 5), a.eval (.const (.int .i64 31))] = [.int .i64 (i : Int), .int .i64 31] from (by rw [show a.eval (.tmp 5) = .int .i64 (i : Int) from (hD 0 5 (by kernel_rfl))] <;> rfl)) u) (by rw [← HU.out]; exact upto_any _ 31 u)) ?_
      refine sv 3 rfl rfl rfl (fun a u hE hD hk => exec_move (.tmp 6) _ rfl (hD 1 6 (by kernel_rfl))) ?_
      refine fsteps_cons 4 rfl (fun a u hE hD hk => f_val (o := ⟨some 8, _, _, _, _, _⟩) (.pointer (some ⟨p, 0, none⟩)) rfl (wanted_at (b := true) true rfl rfl (hD 2 7 (by kernel_rfl))) (exec_move (.tmp 0) _ rfl (hE 0 (.pointer (some ⟨p, 0, none⟩)) (by kernel_rfl) (by kernel_rfl))) rfl) ?_
      refine fsteps_cons 5 rfl (fun a u hE hD hk => f_val (o := ⟨some 9, _, _, _, _, _⟩) (.int .i64 (i : Int)) rfl (wanted_at (b := true) true rfl rfl (hD 2 7 (by kernel_rfl))) (exec_move (.tmp 1) _ rfl (hE 1 (.int .i64 (i : Int)) (by kernel_rfl) (by kernel_rfl))) rfl) ?_
      refine fsteps_cons 6 rfl (fun a u hE hD hk => f_val (o := ⟨some 10, _, _, _, _, _⟩) (.pointer (some ⟨p, 0, none⟩)) rfl (wanted_at (b := true) true rfl rfl (hD 2 7 (by kernel_rfl))) (exec_nilp (.tmp 8) ⟨p, 0, none⟩ rfl (hD 3 8 (by kernel_rfl))) rfl) ?_
      refine fsteps_cons 7 rfl (fun a u hE hD hk => f_val (o := ⟨some 11, _, _, _, _, _⟩) (.pointer (some ⟨p, 0, none⟩)) rfl (wanted_at (b := true) true rfl rfl (hD 2 7 (by kernel_rfl))) (exec_fldo 51 0 0 (.tmp 10) (p) (0) (0) rfl (hD 5 10 (by kernel_rfl)) (by kernel_rfl) rfl) rfl) ?_
      refine fsteps_cons 8 rfl (fun a u hE hD hk => f_val (o := ⟨some 12, _, _, _, _, _⟩) (.pointer (some ⟨p, i * 37, none⟩)) rfl (wanted_at (b := true) true rfl rfl (hD 2 7 (by kernel_rfl))) (exec_ixA (.tmp 11) (.tmp 9) (p) i ((i : Int)) rfl (hD 6 11 (by kernel_rfl)) (hD 4 9 (by kernel_rfl)) (by first | rfl | omega) (hi)) rfl) ?_
      refine fsteps_cons 9 rfl (fun a u hE hD hk => f_val (o := ⟨some 13, _, _, _, _, _⟩) (.pointer (some ⟨p, i * 37 + 2, none⟩)) rfl (wanted_at (b := true) true rfl rfl (hD 2 7 (by kernel_rfl))) (exec_fldo 25 2 2 (.tmp 12) (p) (i * 37) (i * 37 + 2) rfl (hD 7 12 (by kernel_rfl)) (by kernel_rfl) rfl) rfl) ?_
      refine fsteps_cons 10 rfl (fun a u hE hD hk => f_val (o := ⟨some 14, _, _, _, _, _⟩) (.int .i64 (X.at_ i).roles) rfl (wanted_at (b := true) true rfl rfl (hD 2 7 (by kernel_rfl))) (exec_loadi 3 Try.underlying3 (.tmp 13) ⟨p, i * 37 + 2, none⟩ (.int .i64 (X.at_ i).roles) rfl (hD 8 13 (by kernel_rfl)) ((range_kept ((trds_range HB.out hi)) hk) 2 _ rfl)) rfl) ?_
      refine fsteps_cons 11 rfl (fun a u hE hD hk => f_val (o := ⟨some 15, _, _, _, _, _⟩) (.bool (decide (((X.at_ i).roles : Int) ≠ (0 : Int)))) rfl (wanted_at (b := true) true rfl rfl (hD 2 7 (by kernel_rfl))) (exec_nen (p := (X.at_ i).roles) (q := 0) rfl (hD 9 14 (by kernel_rfl)) rfl) rfl) ?_
      refine sv 12 rfl rfl rfl (fun a u hE hD hk => exec_pick (.tmp 7) (.tmp 15) (.const (.bool false)) (.bool (decide (((X.at_ i).roles : Int) ≠ (0 : Int)))) rfl (hD 2 7 (by kernel_rfl)) (hD 10 15 (by kernel_rfl))) ?_
      refine sv 13 rfl rfl rfl (fun a u hE hD hk => exec_assign (.tmp 16) _ rfl (hD 11 16 (by kernel_rfl))) ?_
      exact fsteps_nil
    intro gv w0 hV k0
    rw [show dstsOf _ 13 = [5, 6, 7, 8, 9, 10, 11, 12, 13, 14, 15, 16, 4] by kernel_rfl]
    simp only [List.foldl_cons, List.foldl_nil, List.setIfInBounds_toArray, List.set_cons_succ, List.set_cons_zero, List.drop_succ_cons, List.drop_zero]
    rw [show gv 4 = .bool (decide (((X.at_ i).roles : Int) ≠ (0 : Int))) from hV 12 4 (by kernel_rfl)]
    clear hV
    refine wpList_nil ?_
    go_wp2
    go_ret
    exact ⟨ret_bool HT.out.symm, k0⟩
set_option maxRecDepth 100000 in
theorem rthere_any (w : World) (p : Nat) (X : Trds) (n : Int) (hB : Blk w p 42 X.cells) : Gives 16 #[.pointer (some ⟨p, 0, none⟩), .int .i64 n] w (.eq (.bool (X.there n))) := by
  refine gives_eq ?_
  have HB := Lib.hid hB
  clear hB
  by_cases h0 : n < 0
  · have HT := Lib.hid (there_out (X := X) (.inl h0))
    go_enter Try.func16, Try.ntmps16
    go_upto_region 1 with fail
    refine wp_text 17 [.eq (.int .i64 n), .eq (.bool false), .eq (.bool false), .eq undef, .eq undef, .eq (.bool false), .eq (.bool false), .eq undef, .eq undef, .eq undef, .eq undef, .eq undef, .eq undef, .eq undef, .eq undef, .eq (.bool false), .eq (.bool false)] rfl (by kernel_rfl) ?_ ?_
    · refine sv 1 rfl rfl rfl (fun a u hE hD hk => exec_move (.tmp 1) _ rfl (hE 1 (.int .i64 n) (by kernel_rfl) (by kernel_rfl))) ?_
      refine fsteps_cons 2 rfl (fun a u hE hD hk => f_as (show ((decide ((0 : Int) ≤ (n : Int))) : Bool) = false from decide_eq_false (by omega)) (f_val (o := ⟨some 6, _, _, _, _, _⟩) (.bool (decide ((0 : Int) ≤ (n : Int)))) rfl (wanted_none rfl _) (exec_gen (p := n) (q := 0) rfl (hD 0 5 (by kernel_rfl)) rfl) rfl)) ?_
      refine sv 3 rfl rfl rfl (fun a u hE hD hk => exec_move (.tmp 6) _ rfl (hD 1 6 (by kernel_rfl))) ?_
      refine fsteps_cons 4 rfl (fun a u hE hD hk => f_skip (o := ⟨some 8, _, _, _, _, _⟩) rfl (wanted_at (b := true) false rfl rfl (hD 2 7 (by kernel_rfl))) rfl) ?_
      refine fsteps_cons 5 rfl (fun a u hE hD hk => f_skip (o := ⟨some 9, _, _, _, _, _⟩) rfl (wanted_at (b := true) false rfl rfl (hD 2 7 (by kernel_rfl))) rfl) ?_
      refine sv 6 rfl rfl rfl (fun a u hE hD hk => exec_pickF (.tmp 7) (.tmp 9) (.const (.bool false)) (.bool false) rfl (hD 2 7 (by kernel_rfl)) rfl) ?_
      refine sv 7 rfl rfl rfl (fun a u hE hD hk => exec_move (.tmp 10) _ rfl (hD 5 10 (by kernel_rfl))) ?_
      refine fsteps_cons 8 rfl (fun a u hE hD hk => f_skip (o := ⟨some 12, _, _, _, _, _⟩) rfl (wanted_at (b := true) false rfl rfl (hD 6 11 (by kernel_rfl))) rfl) ?_
      refine fsteps_cons 9 rfl (fun a u hE hD hk => f_skip (o := ⟨some 13, _, _, _, _, _⟩) rfl (wanted_at (b := true) false rfl rfl (hD 6 11 (by kernel_rfl))) rfl) ?_
      refine fsteps_cons 10 rfl (fun a u hE hD hk => f_skip (o := ⟨some 14, _, _, _, _, _⟩) rfl (wanted_at (b := true) false rfl rfl (hD 6 11 (by kernel_rfl))) rfl) ?_
      refine fsteps_cons 11 rfl (fun a u hE hD hk => f_skip (o := ⟨some 15, _, _, _, _, _⟩) rfl (wanted_at (b := true) false rfl rfl (hD 6 11 (by kernel_rfl))) rfl) ?_
      refine fsteps_cons 12 rfl (fun a u hE hD hk => f_skip (o := ⟨some 16, _, _, _, _, _⟩) rfl (wanted_at (b := true) false rfl rfl (hD 6 11 (by kernel_rfl))) rfl) ?_
      refine fsteps_cons 13 rfl (fun a u hE hD hk => f_skip (o := ⟨some 17, _, _, _, _, _⟩) rfl (wanted_at (b := true) false rfl rfl (hD 6 11 (by kernel_rfl))) rfl) ?_
      refine fsteps_cons 14 rfl (fun a u hE hD hk => f_skip (o := ⟨some 18, _, _, _, _, _⟩) rfl (wanted_at (b := true) false rfl rfl (hD 6 11 (by kernel_rfl))) rfl) ?_
      refine fsteps_cons 15 rfl (fun a u hE hD hk => f_skip (o := ⟨some 19, _, _, _, _, _⟩) rfl (wanted_at (b := true) false rfl rfl (hD 6 11 (by kernel_rfl))) rfl) ?_
      refine sv 16 rfl rfl rfl (fun a u hE hD hk => exec_pickF (.tmp 11) (.tmp 19) (.const (.bool false)) (.bool false) rfl (hD 6 11 (by kernel_rfl)) rfl) ?_
      refine sv 17 rfl rfl rfl (fun a u hE hD hk => exec_assign (.tmp 20) _ rfl (hD 15 20 (by kernel_rfl))) ?_
      exact fsteps_nil
    intro gv w0 hV k0
    rw [show dstsOf _ 17 = [5, 6, 7, 8, 9, 10, 11, 12, 13, 14, 15, 16, 17, 18, 19, 20, 4] by kernel_rfl]
    simp only [List.foldl_cons, List.foldl_nil, List.setIfInBounds_toArray, List.set_cons_succ, List.set_cons_zero, List.drop_succ_cons, List.drop_zero]
    rw [show gv 4 = .bool false from hV 16 4 (by kernel_rfl)]
    clear hV
    refine wpList_nil ?_
    go_wp2
    go_ret
    exact ⟨ret_bool HT.out.symm, k0⟩
  · by_cases h1 : 31 < n
    · have HT := Lib.hid (there_out (X := X) (.inr h1))
      go_enter Try.func16, Try.ntmps16
      go_upto_region 1 with fail
      refine wp_text 17 [.eq (.int .i64 n), .eq (.bool true), .eq (.bool true), .eq (.int .i64 n), .eq (.bool false), .eq (.bool false), .eq (.bool false), .eq undef, .eq undef, .eq undef, .eq undef, .eq undef, .eq undef, .eq undef, .eq undef, .eq (.bool false), .eq (.bool false)] rfl (by kernel_rfl) ?_ ?_
      · refine sv 1 rfl rfl rfl (fun a u hE hD hk => exec_move (.tmp 1) _ rfl (hE 1 (.int .i64 n) (by kernel_rfl) (by kernel_rfl))) ?_
        refine fsteps_cons 2 rfl (fun a u hE hD hk => f_as (show ((decide ((0 : Int) ≤ (n : Int))) : Bool) = true from decide_eq_true (by omega)) (f_val (o := ⟨some 6, _, _, _, _, _⟩) (.bool (decide ((0 : Int) ≤ (n : Int)))) rfl (wanted_none rfl _) (exec_gen (p := n) (q := 0) rfl (hD 0 5 (by kernel_rfl)) rfl) rfl)) ?_
        refine sv 3 rfl rfl rfl (fun a u hE hD hk => exec_move (.tmp 6) _ rfl (hD 1 6 (by kernel_rfl))) ?_
        refine fsteps_cons 4 rfl (fun a u hE hD hk => f_val (o := ⟨some 8, _, _, _, _, _⟩) (.int .i64 n) rfl (wanted_at (b := true) true rfl rfl (hD 2 7 (by kernel_rfl))) (exec_move (.tmp 1) _ rfl (hE 1 (.int .i64 n) (by kernel_rfl) (by kernel_rfl))) rfl) ?_
        refine fsteps_cons 5 rfl (fun a u hE hD hk => f_as (show ((decide ((n : Int) < (32 : Int))) : Bool) = false from decide_eq_false (by omega)) (f_val (o := ⟨some 9, _, _, _, _, _⟩) (.bool (decide ((n : Int) < (32 : Int)))) rfl (wanted_at (b := true) true rfl rfl (hD 2 7 (by kernel_rfl))) (exec_ltn (p := n) (q := 32) rfl (hD 3 8 (by kernel_rfl)) rfl) rfl)) ?_
        refine sv 6 rfl rfl rfl (fun a u hE hD hk => exec_pick (.tmp 7) (.tmp 9) (.const (.bool false)) (.bool false) rfl (hD 2 7 (by kernel_rfl)) (hD 4 9 (by kernel_rfl))) ?_
        refine sv 7 rfl rfl rfl (fun a u hE hD hk => exec_move (.tmp 10) _ rfl (hD 5 10 (by kernel_rfl))) ?_
        refine fsteps_cons 8 rfl (fun a u hE hD hk => f_skip (o := ⟨some 12, _, _, _, _, _⟩) rfl (wanted_at (b := true) false rfl rfl (hD 6 11 (by kernel_rfl))) rfl) ?_
        refine fsteps_cons 9 rfl (fun a u hE hD hk => f_skip (o := ⟨some 13, _, _, _, _, _⟩) rfl (wanted_at (b := true) false rfl rfl (hD 6 11 (by kernel_rfl))) rfl) ?_
        refine fsteps_cons 10 rfl (fun a u hE hD hk => f_skip (o := ⟨some 14, _, _, _, _, _⟩) rfl (wanted_at (b := true) false rfl rfl (hD 6 11 (by kernel_rfl))) rfl) ?_
        refine fsteps_cons 11 rfl (fun a u hE hD hk => f_skip (o := ⟨some 15, _, _, _, _, _⟩) rfl (wanted_at (b := true) false rfl rfl (hD 6 11 (by kernel_rfl))) rfl) ?_
        refine fsteps_cons 12 rfl (fun a u hE hD hk => f_skip (o := ⟨some 16, _, _, _, _, _⟩) rfl (wanted_at (b := true) false rfl rfl (hD 6 11 (by kernel_rfl))) rfl) ?_
        refine fsteps_cons 13 rfl (fun a u hE hD hk => f_skip (o := ⟨some 17, _, _, _, _, _⟩) rfl (wanted_at (b := true) false rfl rfl (hD 6 11 (by kernel_rfl))) rfl) ?_
        refine fsteps_cons 14 rfl (fun a u hE hD hk => f_skip (o := ⟨some 18, _, _, _, _, _⟩) rfl (wanted_at (b := true) false rfl rfl (hD 6 11 (by kernel_rfl))) rfl) ?_
        refine fsteps_cons 15 rfl (fun a u hE hD hk => f_skip (o := ⟨some 19, _, _, _, _, _⟩) rfl (wanted_at (b := true) false rfl rfl (hD 6 11 (by kernel_rfl))) rfl) ?_
        refine sv 16 rfl rfl rfl (fun a u hE hD hk => exec_pickF (.tmp 11) (.tmp 19) (.const (.bool false)) (.bool false) rfl (hD 6 11 (by kernel_rfl)) rfl) ?_
        refine sv 17 rfl rfl rfl (fun a u hE hD hk => exec_assign (.tmp 20) _ rfl (hD 15 20 (by kernel_rfl))) ?_
        exact fsteps_nil
      intro gv w0 hV k0
      rw [show dstsOf _ 17 = [5, 6, 7, 8, 9, 10, 11, 12, 13, 14, 15, 16, 17, 18, 19, 20, 4] by kernel_rfl]
      simp only [List.foldl_cons, List.foldl_nil, List.setIfInBounds_toArray, List.set_cons_succ, List.set_cons_zero, List.drop_succ_cons, List.drop_zero]
      rw [show gv 4 = .bool false from hV 16 4 (by kernel_rfl)]
      clear hV
      refine wpList_nil ?_
      go_wp2
      go_ret
      exact ⟨ret_bool HT.out.symm, k0⟩
    · obtain ⟨i, hi, rfl⟩ : ∃ i : Nat, i < 32 ∧ n = (i : Int) := ⟨n.toNat, by omega, by omega⟩
      have HT := Lib.hid (there_in (X := X) hi)
      clear h0 h1
      go_enter Try.func16, Try.ntmps16
      go_upto_region 1 with fail
      refine wp_text 17 [.eq (.int .i64 (i : Int)), .eq (.bool true), .eq (.bool true), .eq (.int .i64 (i : Int)), .eq (.bool true), .eq (.bool true), .eq (.bool true), .eq (.pointer (some ⟨p, 0, none⟩)), .eq (.int .i64 (i : Int)), .eq (.pointer (some ⟨p, 0, none⟩)), .eq (.pointer (some ⟨p, 0, none⟩)), .eq (.pointer (some ⟨p, i * 37, none⟩)), .eq (.pointer (some ⟨p, i * 37 + 2, none⟩)), .eq (.int .i64 (X.at_ i).roles), .eq (.bool (decide (((X.at_ i).roles : Int) ≠ (0 : Int)))), .eq (.bool (decide (((X.at_ i).roles : Int) ≠ (0 : Int)))), .eq (.bool (decide (((X.at_ i).roles : Int) ≠ (0 : Int))))] rfl (by kernel_rfl) ?_ ?_
      · refine sv 1 rfl rfl rfl (fun a u hE hD hk => exec_move (.tmp 1) _ rfl (hE 1 (.int .i64 (i : Int)) (by kernel_rfl) (by kernel_rfl))) ?_
        refine fsteps_cons 2 rfl (fun a u hE hD hk => f_as (show ((decide ((0 : Int) ≤ ((i : Int) : Int))) : Bool) = true from decide_eq_true (by omega)) (f_val (o := ⟨some 6, _, _, _, _, _⟩) (.bool (decide ((0 : Int) ≤ ((i : Int) : Int)))) rfl (wanted_none rfl _) (exec_gen (p := (i : Int)) (q := 0) rfl (hD 0 5 (by kernel_rfl)) rfl) rfl)) ?_
        refine sv 3 rfl rfl rfl (fun a u hE hD hk => exec_move (.tmp 6) _ rfl (hD 1 6 (by kernel_rfl))) ?_
        refine fsteps_cons 4 rfl (fun a u hE hD hk => f_val (o := ⟨some 8, _, _, _, _, _⟩) (.int .i64 (i : Int)) rfl (wanted_at (b := true) true rfl rfl (hD 2 7 (by kernel_rfl))) (exec_move (.tmp 1) _ rfl (hE 1 (.int .i64 (i : Int)) (by kernel_rfl) (by kernel_rfl))) rfl) ?_
        refine fsteps_cons 5 rfl (fun a u hE hD hk => f_as (show ((decide (((i : Int) : Int) < (32 : Int))) : Bool) = true from decide_eq_true (by omega)) (f_val (o := ⟨some 9, _, _, _, _, _⟩) (.bool (decide (((i : Int) : Int) < (32 : Int)))) rfl (wanted_at (b := true) true rfl rfl (hD 2 7 (by kernel_rfl))) (exec_ltn (p := (i : Int)) (q := 32) rfl (hD 3 8 (by kernel_rfl)) rfl) rfl)) ?_
        refine sv 6 rfl rfl rfl (fun a u hE hD hk => exec_pick (.tmp 7) (.tmp 9) (.const (.bool false)) (.bool true) rfl (hD 2 7 (by kernel_rfl)) (hD 4 9 (by kernel_rfl))) ?_
        refine sv 7 rfl rfl rfl (fun a u hE hD hk => exec_move (.tmp 10) _ rfl (hD 5 10 (by kernel_rfl))) ?_
        refine fsteps_cons 8 rfl (fun a u hE hD hk => f_val (o := ⟨some 12, _, _, _, _, _⟩) (.pointer (some ⟨p, 0, none⟩)) rfl (wanted_at (b := true) true rfl rfl (hD 6 11 (by kernel_rfl))) (exec_move (.tmp 0) _ rfl (hE 0 (.pointer (some ⟨p, 0, none⟩)) (by kernel_rfl) (by kernel_rfl))) rfl) ?_
        refine fsteps_cons 9 rfl (fun a u hE hD hk => f_val (o := ⟨some 13, _, _, _, _, _⟩) (.int .i64 (i : Int)) rfl (wanted_at (b := true) true rfl rfl (hD 6 11 (by kernel_rfl))) (exec_move (.tmp 1) _ rfl (hE 1 (.int .i64 (i : Int)) (by kernel_rfl) (by kernel_rfl))) rfl) ?_
        refine fsteps_cons 10 rfl (fun a u hE hD hk => f_val (o := ⟨some 14, _, _, _, _, _⟩) (.pointer (some ⟨p, 0, none⟩)) rfl (wanted_at (b := true) true rfl rfl (hD 6 11 (by kernel_rfl))) (exec_nilp (.tmp 12) ⟨p, 0, none⟩ rfl (hD 7 12 (by kernel_rfl))) rfl) ?_
        refine fsteps_cons 11 rfl (fun a u hE hD hk => f_val (o := ⟨some 15, _, _, _, _, _⟩) (.pointer (some ⟨p, 0, none⟩)) rfl (wanted_at (b := true) true rfl rfl (hD 6 11 (by kernel_rfl))) (exec_fldo 42 0 0 (.tmp 14) (p) (0) (0) rfl (hD 9 14 (by kernel_rfl)) (by kernel_rfl) rfl) rfl) ?_
        refine fsteps_cons 12 rfl (fun a u hE hD hk => f_val (o := ⟨some 16, _, _, _, _, _⟩) (.pointer (some ⟨p, i * 37, none⟩)) rfl (wanted_at (b := true) true rfl rfl (hD 6 11 (by kernel_rfl))) (exec_ixA (.tmp 15) (.tmp 13) (p) i ((i : Int)) rfl (hD 10 15 (by kernel_rfl)) (hD 8 13 (by kernel_rfl)) (by first | rfl | omega) (hi)) rfl) ?_
        refine fsteps_cons 13 rfl (fun a u hE hD hk => f_val (o := ⟨some 17, _, _, _, _, _⟩) (.pointer (some ⟨p, i * 37 + 2, none⟩)) rfl (wanted_at (b := true) true rfl rfl (hD 6 11 (by kernel_rfl))) (exec_fldo 25 2 2 (.tmp 16) (p) (i * 37) (i * 37 + 2) rfl (hD 11 16 (by kernel_rfl)) (by kernel_rfl) rfl) rfl) ?_
        refine fsteps_cons 14 rfl (fun a u hE hD hk => f_val (o := ⟨some 18, _, _, _, _, _⟩) (.int .i64 (X.at_ i).roles) rfl (wanted_at (b := true) true rfl rfl (hD 6 11 (by kernel_rfl))) (exec_loadi 3 Try.underlying3 (.tmp 17) ⟨p, i * 37 + 2, none⟩ (.int .i64 (X.at_ i).roles) rfl (hD 12 17 (by kernel_rfl)) ((range_kept ((trds_range HB.out hi)) hk) 2 _ rfl)) rfl) ?_
        refine fsteps_cons 15 rfl (fun a u hE hD hk => f_val (o := ⟨some 19, _, _, _, _, _⟩) (.bool (decide (((X.at_ i).roles : Int) ≠ (0 : Int)))) rfl (wanted_at (b := true) true rfl rfl (hD 6 11 (by kernel_rfl))) (exec_nen (p := (X.at_ i).roles) (q := 0) rfl (hD 13 18 (by kernel_rfl)) rfl) rfl) ?_
        refine sv 16 rfl rfl rfl (fun a u hE hD hk => exec_pick (.tmp 11) (.tmp 19) (.const (.bool false)) (.bool (decide (((X.at_ i).roles : Int) ≠ (0 : Int)))) rfl (hD 6 11 (by kernel_rfl)) (hD 14 19 (by kernel_rfl))) ?_
        refine sv 17 rfl rfl rfl (fun a u hE hD hk => exec_assign (.tmp 20) _ rfl (hD 15 20 (by kernel_rfl))) ?_
        exact fsteps_nil
      intro gv w0 hV k0
      rw [show dstsOf _ 17 = [5, 6, 7, 8, 9, 10, 11, 12, 13, 14, 15, 16, 17, 18, 19, 20, 4] by kernel_rfl]
      simp only [List.foldl_cons, List.foldl_nil, List.setIfInBounds_toArray, List.set_cons_succ, List.set_cons_zero, List.drop_succ_cons, List.drop_zero]
      rw [show gv 4 = .bool (decide (((X.at_ i).roles : Int) ≠ (0 : Int))) from hV 16 4 (by kernel_rfl)]
      clear hV
      refine wpList_nil ?_
      go_wp2
      go_ret
      exact ⟨ret_bool HT.out.symm, k0⟩
def Trds.get (X : Trds) (n : Int) : Trd := if X.there n = true then X.at_ n.toNat else zeroT
theorem get_in {X : Trds} {i : Nat} (h : X.there (i : Int) = true) : X.get (i : Int) = X.at_ i := by unfold Trds.get; rw [if_pos h, Int.toNat_natCast]
theorem get_out {X : Trds} {n : Int} (h : X.there n = false) : X.get n = zeroT := by unfold Trds.get; rw [if_neg (by rw [h]; simp)]
set_option maxRecDepth 100000 in
theorem trader_any (w : World) (p : Nat) (X : Trds) (n : Int) (hB : Blk w p 51 X.cells) : Gives 18 #[.pointer (some ⟨p, 0, none⟩), .int .i64 n] w (.eq (X.get n).v) := by
  refine gives_eq ?_
  have HB := Lib.hid hB
  have hpl := hB.lt
  clear hB
  have HN0 : Hid (Blk (w.alloc (.cells zeroT.cells.toArray 25)) w.heap.size 25 zeroT.cells) := Blk.new w _ _
  have kw0 : Kept w (w.alloc (.cells zeroT.cells.toArray 25)) := (Keep.refl _ w).alloc _
  go_enter Try.func18, Try.ntmps18
  go_upto_region 0 with fail
  refine wp_region_lit ?_
  refine l_new (o := ⟨some 4, _, _, _, _, _⟩) (.pointer (some ⟨w.heap.size, 0, none⟩)) (w.alloc (.cells zeroT.cells.toArray 25)) rfl (exec_alc 25 zeroT.cells rfl zT) ?_
  simp only [Act.put, List.setIfInBounds_toArray, List.set_cons_succ, List.set_cons_zero]
  refine wpList_nil ?_
  generalize w.alloc (.cells zeroT.cells.toArray 25) = w0 at HN0 kw0 ⊢
  obtain ⟨g, hg⟩ : ∃ g, w.heap.size = g := ⟨_, rfl⟩
  rw [hg] at HN0 ⊢
  have HB0 := Lib.hid (HB.out.kept kw0)
  cases ht : X.there n with
  | false =>
    have HT := Lib.hid ht
    clear ht
    go_upto_region 1 with fail
    refine wp_text 4 [.eq (.pointer (some ⟨p, 0, none⟩)), .eq (.int .i64 n), .eq (.bool false), .eq (.bool true)] rfl (by kernel_rfl) ?_ ?_
    · refine sv 1 rfl rfl rfl (fun a u hE hD hk => exec_move (.tmp 0) _ rfl (hE 0 (.pointer (some ⟨p, 0, none⟩)) (by kernel_rfl) (by kernel_rfl))) ?_
      refine sv 2 rfl rfl rfl (fun a u hE hD hk => exec_move (.tmp 1) _ rfl (hE 1 (.int .i64 n) (by kernel_rfl) (by kernel_rfl))) ?_
      refine fsteps_cons 3 rfl (fun a u hE hD hk => f_call (o := ⟨some 7, _, _, _, _, _⟩) 17 #[.pointer (some ⟨p, 0, none⟩), .int .i64 n] rfl (wanted_none rfl _) (exec_call 17 _ [.tmp 5, .tmp 6] _ [.pointer (some ⟨p, 0, none⟩), .int .i64 n] Try.func17 (by kernel_rfl) (by kernel_rfl) rfl (show [a.eval (.tmp 5), a.eval (.tmp 6)] = [.pointer (some ⟨p, 0, none⟩), .int .i64 n] from (by rw [show a.eval (.tmp 5) = .pointer (some ⟨p, 0, none⟩) from (hD 0 5 (by kernel_rfl)), show a.eval (.tmp 6) = .int .i64 n from (hD 1 6 (by kernel_rfl))] <;> rfl)) u) (by rw [← HT.out]; exact there_any u p X n (HB0.out.kept hk))) ?_
      refine sv 4 rfl rfl rfl (fun a u hE hD hk => exec_not _ (.tmp 7) false rfl (hD 2 7 (by kernel_rfl))) ?_
      exact fsteps_nil
    intro gv w1 hV k1
    rw [show dstsOf _ 4 = [5, 6, 7, 8] by kernel_rfl]
    simp only [List.foldl_cons, List.foldl_nil, List.setIfInBounds_toArray, List.set_cons_succ, List.set_cons_zero, List.drop_succ_cons, List.drop_zero]
    rw [show gv 8 = .bool true from hV 3 8 (by kernel_rfl)]
    clear hV
    refine wpList_nil ?_
    have HN1 := Lib.hid (HN0.out.kept k1)
    clear HN0
    go_upto_region 2 with fail
    refine wp_text 1 [.eq (zeroT.v)] rfl (by kernel_rfl) ?_ ?_
    · refine sv 1 rfl rfl rfl (fun a u hE hD hk => exec_build 25 [] zeroT.cells rfl (by kernel_rfl)) ?_
      exact fsteps_nil
    intro gv w2 hV k2
    rw [show dstsOf _ 1 = [9] by kernel_rfl]
    simp only [List.foldl_cons, List.foldl_nil, List.setIfInBounds_toArray, List.set_cons_succ, List.set_cons_zero, List.drop_succ_cons, List.drop_zero]
    rw [show gv 9 = zeroT.v from hV 0 9 (by kernel_rfl)]
    clear hV
    refine l_setS (o := ⟨none, _, _, _, _, _⟩) 25 g 25 zeroT.cells zeroT.cells (.tmp 4) (.tmp 9) rfl rfl (by kernel_rfl) (by kernel_rfl) (HN1.out.kept k2) (by rw [Trd.len37]; exact szT) (by rw [Trd.len37]) (Trd.one _) ?_
    intro w3 hC3 hk3 hs3
    simp only [Act.put]
    refine wpList_nil ?_
    have kw3 : Kept w w3 := ((kw0.trans k1).trans k2).trans' hk3 (by omega)
    clear HN1 hk3 hs3 k2 k1
    go_wp2
    refine bodyPost_ret (results_cell (p := 4) rfl _ _ g _ zeroT.cells rfl hC3 Try.underlying25 (by rw [Trd.len37]; exact szT)) rfl ?_
    exact ⟨by rw [get_out HT.out]; rfl, kw3⟩
  | true =>
    obtain ⟨i, hi, rfl⟩ := there_lt ht
    have HT := Lib.hid ht
    clear ht
    go_upto_region 1 with fail
    refine wp_text 4 [.eq (.pointer (some ⟨p, 0, none⟩)), .eq (.int .i64 (i : Int)), .eq (.bool true), .eq (.bool false)] rfl (by kernel_rfl) ?_ ?_
    · refine sv 1 rfl rfl rfl (fun a u hE hD hk => exec_move (.tmp 0) _ rfl (hE 0 (.pointer (some ⟨p, 0, none⟩)) (by kernel_rfl) (by kernel_rfl))) ?_
      refine sv 2 rfl rfl rfl (fun a u hE hD hk => exec_move (.tmp 1) _ rfl (hE 1 (.int .i64 (i : Int)) (by kernel_rfl) (by kernel_rfl))) ?_
      refine fsteps_cons 3 rfl (fun a u hE hD hk => f_call (o := ⟨some 7, _, _, _, _, _⟩) 17 #[.pointer (some ⟨p, 0, none⟩), .int .i64 (i : Int)] rfl (wanted_none rfl _) (exec_call 17 _ [.tmp 5, .tmp 6] _ [.pointer (some ⟨p, 0, none⟩), .int .i64 (i : Int)] Try.func17 (by kernel_rfl) (by kernel_rfl) rfl (show [a.eval (.tmp 5), a.eval (.tmp 6)] = [.pointer (some ⟨p, 0, none⟩), .int .i64 (i : Int)] from (by rw [show a.eval (.tmp 5) = .pointer (some ⟨p, 0, none⟩) from (hD 0 5 (by kernel_rfl)), show a.eval (.tmp 6) = .int .i64 (i : Int) from (hD 1 6 (by kernel_rfl))] <;> rfl)) u) (by rw [← HT.out]; exact there_any u p X _ (HB0.out.kept hk))) ?_
      refine sv 4 rfl rfl rfl (fun a u hE hD hk => exec_not _ (.tmp 7) true rfl (hD 2 7 (by kernel_rfl))) ?_
      exact fsteps_nil
    intro gv w1 hV k1
    rw [show dstsOf _ 4 = [5, 6, 7, 8] by kernel_rfl]
    simp only [List.foldl_cons, List.foldl_nil, List.setIfInBounds_toArray, List.set_cons_succ, List.set_cons_zero, List.drop_succ_cons, List.drop_zero]
    rw [show gv 8 = .bool false from hV 3 8 (by kernel_rfl)]
    clear hV
    refine wpList_nil ?_
    have HN1 := Lib.hid (HN0.out.kept k1)
    have HB1 := Lib.hid (HB0.out.kept k1)
    clear HN0 HB0
    go_upto_region 3 with fail
    refine wp_text 6 [.eq (.pointer (some ⟨p, 0, none⟩)), .eq (.int .i64 (i : Int)), .eq (.pointer (some ⟨p, 0, none⟩)), .eq (.pointer (some ⟨p, 0, none⟩)), .eq (.pointer (some ⟨p, i * 37, none⟩)), .eq ((X.at_ i).v)] rfl (by kernel_rfl) ?_ ?_
    · refine sv 1 rfl rfl rfl (fun a u hE hD hk => exec_move (.tmp 0) _ rfl (hE 0 (.pointer (some ⟨p, 0, none⟩)) (by kernel_rfl) (by kernel_rfl))) ?_
      refine sv 2 rfl rfl rfl (fun a u hE hD hk => exec_move (.tmp 1) _ rfl (hE 1 (.int .i64 (i : Int)) (by kernel_rfl) (by kernel_rfl))) ?_
      refine sv 3 rfl rfl rfl (fun a u hE hD hk => exec_nilp (.tmp 10) ⟨p, 0, none⟩ rfl (hD 0 10 (by kernel_rfl))) ?_
      refine sv 4 rfl rfl rfl (fun a u hE hD hk => exec_fldo 51 0 0 (.tmp 12) (p) (0) (0) rfl (hD 2 12 (by kernel_rfl)) (by kernel_rfl) rfl) ?_
      refine sv 5 rfl rfl rfl (fun a u hE hD hk => exec_ixA (.tmp 13) (.tmp 11) (p) i ((i : Int)) rfl (hD 3 13 (by kernel_rfl)) (hD 1 11 (by kernel_rfl)) (by first | rfl | omega) (hi)) ?_
      refine sv 6 rfl rfl rfl (fun a u hE hD hk => exec_ldS 25 _ (.tmp 14) (p) (i * 37) ((X.at_ i).cells) rfl (hD 4 14 (by kernel_rfl)) (range_kept ((trds_range HB1.out hi)) hk) Try.underlying25 (by rw [Trd.len37]; exact szT)) ?_
      exact fsteps_nil
    intro gv w2 hV k2
    rw [show dstsOf _ 6 = [10, 11, 12, 13, 14, 15] by kernel_rfl]
    simp only [List.foldl_cons, List.foldl_nil, List.setIfInBounds_toArray, List.set_cons_succ, List.set_cons_zero, List.drop_succ_cons, List.drop_zero]
    rw [show gv 15 = (X.at_ i).v from hV 5 15 (by kernel_rfl)]
    clear hV
    refine l_setS (o := ⟨none, _, _, _, _, _⟩) 25 g 25 zeroT.cells (X.at_ i).cells (.tmp 4) (.tmp 15) rfl rfl (by kernel_rfl) (by kernel_rfl) (HN1.out.kept k2) (by rw [Trd.len37]; exact szT) (by rw [Trd.len37, Trd.len37]) (Trd.one _) ?_
    intro w3 hC3 hk3 hs3
    simp only [Act.put]
    refine wpList_nil ?_
    have kw3 : Kept w w3 := ((kw0.trans k1).trans k2).trans' hk3 (by omega)
    clear HN1 hk3 hs3 k2 k1
    go_wp2
    refine bodyPost_ret (results_cell (p := 4) rfl _ _ g _ (X.at_ i).cells rfl hC3 Try.underlying25 (by rw [Trd.len37]; exact szT)) rfl ?_
    exact ⟨by rw [get_in HT.out]; rfl, kw3⟩
set_option maxRecDepth 100000 in
theorem same_firm (x y : Trd) (w : World) : Gives 25 #[x.v, y.v] w (.eq (.bool (decide (x.firm = y.firm)))) := by
  unfold Gives Trd.v
  obtain ⟨w0, hw0⟩ : ∃ w0, w.alloc (.cells x.cells.toArray 25) = w0 := ⟨_, rfl⟩
  obtain ⟨w1, hw1⟩ : ∃ w1, w0.alloc (.cells y.cells.toArray 25) = w1 := ⟨_, rfl⟩
  have k0 : Kept w w0 := by rw [← hw0]; exact (Keep.refl _ w).alloc _
  have k1 : Kept w0 w1 := by rw [← hw1]; exact (Keep.refl _ w0).alloc _
  have h0 : w0.rangeAt w.heap.size 0 x.cells := by rw [← hw0]; exact blk_range (Blk.new w 25 x.cells)
  have h1 : w1.rangeAt w0.heap.size 0 y.cells := by rw [← hw1]; exact blk_range (Blk.new w0 25 y.cells)
  have HX := Lib.hid (range_kept h0 k1)
  have HY := Lib.hid h1
  have kw := k0.trans k1
  clear h0 h1 k0 k1
  go_enter Try.func25, Try.ntmps25
  go_upto_region 0 with fail
  refine wp_region_lit ?_
  refine l_new (o := ⟨some 2, _, _, _, _, _⟩) (.pointer (some ⟨w.heap.size, 0, none⟩)) w0 rfl (by rw [← hw0]; exact exec_box 25 (.tmp 0) x.cells rfl (by kernel_rfl)) ?_
  simp only [Act.put, List.setIfInBounds_toArray, List.set_cons_succ, List.set_cons_zero]
  refine l_new (o := ⟨some 3, _, _, _, _, _⟩) (.pointer (some ⟨w0.heap.size, 0, none⟩)) w1 rfl (by rw [← hw1]; exact exec_box 25 (.tmp 1) y.cells rfl (by kernel_rfl)) ?_
  simp only [Act.put, List.setIfInBounds_toArray, List.set_cons_succ, List.set_cons_zero]
  refine l_val (o := ⟨some 4, _, _, _, _, _⟩) (.bool false) rfl (exec_assign (.const (.bool false)) (.bool false) rfl (by kernel_rfl)) ?_
  simp only [Act.put, List.setIfInBounds_toArray, List.set_cons_succ, List.set_cons_zero]
  refine wpList_nil ?_
  clear hw0 hw1
  generalize w.heap.size = g at HX ⊢
  generalize w0.heap.size = g1 at HY ⊢
  go_upto_region 1 with fail
  refine wp_text 6 [.eq (.pointer (some ⟨g, 0, none⟩)), .eq (.int .i64 x.firm), .eq (.pointer (some ⟨g1, 0, none⟩)), .eq (.int .i64 y.firm), .eq (.bool (decide ((x.firm : Int) = (y.firm : Int)))), .eq (.bool (decide ((x.firm : Int) = (y.firm : Int))))] rfl (by kernel_rfl) ?_ ?_
  · refine sv 1 rfl rfl rfl (fun a u hE hD hk => exec_fldo 25 0 0 (.tmp 2) (g) (0) (0) rfl (hE 2 (.pointer (some ⟨g, 0, none⟩)) (by kernel_rfl) (by kernel_rfl)) (by kernel_rfl) rfl) ?_
    refine sv 2 rfl rfl rfl (fun a u hE hD hk => exec_loadi 3 Try.underlying3 (.tmp 5) ⟨g, 0, none⟩ (.int .i64 x.firm) rfl (hD 0 5 (by kernel_rfl)) ((range_kept (HX.out) hk) 0 _ rfl)) ?_
    refine sv 3 rfl rfl rfl (fun a u hE hD hk => exec_fldo 25 0 0 (.tmp 3) (g1) (0) (0) rfl (hE 3 (.pointer (some ⟨g1, 0, none⟩)) (by kernel_rfl) (by kernel_rfl)) (by kernel_rfl) rfl) ?_
    refine sv 4 rfl rfl rfl (fun a u hE hD hk => exec_loadi 3 Try.underlying3 (.tmp 7) ⟨g1, 0, none⟩ (.int .i64 y.firm) rfl (hD 2 7 (by kernel_rfl)) ((range_kept (HY.out) hk) 0 _ rfl)) ?_
    refine sv 5 rfl rfl rfl (fun a u hE hD hk => exec_eqn (p := x.firm) (q := y.firm) rfl (hD 1 6 (by kernel_rfl)) (hD 3 8 (by kernel_rfl))) ?_
    refine sv 6 rfl rfl rfl (fun a u hE hD hk => exec_assign (.tmp 9) _ rfl (hD 4 9 (by kernel_rfl))) ?_
    exact fsteps_nil
  intro gv w2 hV k2
  rw [show dstsOf _ 6 = [5, 6, 7, 8, 9, 4] by kernel_rfl]
  simp only [List.foldl_cons, List.foldl_nil, List.setIfInBounds_toArray, List.set_cons_succ, List.set_cons_zero, List.drop_succ_cons, List.drop_zero]
  rw [show gv 4 = .bool (decide ((x.firm : Int) = (y.firm : Int))) from hV 5 4 (by kernel_rfl)]
  clear hV
  refine wpList_nil ?_
  have kw2 := kw.trans k2
  go_wp2
  go_ret
  exact ⟨_, rfl, rfl, kw2⟩
set_option maxRecDepth 100000 in
theorem same_desk (x y : Trd) (w : World) : Gives 24 #[x.v, y.v] w (.eq (.bool (decide (x.firm = y.firm) && decide (x.desk = y.desk)))) := by
  unfold Gives Trd.v
  obtain ⟨w0, hw0⟩ : ∃ w0, w.alloc (.cells x.cells.toArray 25) = w0 := ⟨_, rfl⟩
  obtain ⟨w1, hw1⟩ : ∃ w1, w0.alloc (.cells y.cells.toArray 25) = w1 := ⟨_, rfl⟩
  have k0 : Kept w w0 := by rw [← hw0]; exact (Keep.refl _ w).alloc _
  have k1 : Kept w0 w1 := by rw [← hw1]; exact (Keep.refl _ w0).alloc _
  have h0 : w0.rangeAt w.heap.size 0 x.cells := by rw [← hw0]; exact blk_range (Blk.new w 25 x.cells)
  have h1 : w1.rangeAt w0.heap.size 0 y.cells := by rw [← hw1]; exact blk_range (Blk.new w0 25 y.cells)
  have HX := Lib.hid (range_kept h0 k1)
  have HY := Lib.hid h1
  have kw := k0.trans k1
  clear h0 h1 k0 k1
  go_enter Try.func24, Try.ntmps24
  go_upto_region 0 with fail
  refine wp_region_lit ?_
  refine l_new (o := ⟨some 2, _, _, _, _, _⟩) (.pointer (some ⟨w.heap.size, 0, none⟩)) w0 rfl (by rw [← hw0]; exact exec_box 25 (.tmp 0) x.cells rfl (by kernel_rfl)) ?_
  simp only [Act.put, List.setIfInBounds_toArray, List.set_cons_succ, List.set_cons_zero]
  refine l_new (o := ⟨some 3, _, _, _, _, _⟩) (.pointer (some ⟨w0.heap.size, 0, none⟩)) w1 rfl (by rw [← hw1]; exact exec_box 25 (.tmp 1) y.cells rfl (by kernel_rfl)) ?_
  simp only [Act.put, List.setIfInBounds_toArray, List.set_cons_succ, List.set_cons_zero]
  refine l_val (o := ⟨some 4, _, _, _, _, _⟩) (.bool false) rfl (exec_assign (.const (.bool false)) (.bool false) rfl (by kernel_rfl)) ?_
  simp only [Act.put, List.setIfInBounds_toArray, List.set_cons_succ, List.set_cons_zero]
  refine wpList_nil ?_
  clear hw0 hw1
  generalize w.heap.size = g at HX ⊢
  generalize w0.heap.size = g1 at HY ⊢
  go_upto_region 1 with fail
  refine wp_text 11 [.eq (x.v), .eq (y.v), .eq (.bool (decide (x.firm = y.firm))), .eq (.bool (decide (x.firm = y.firm))), .cond (decide (x.firm = y.firm)) (.eq (.pointer (some ⟨g, 1, none⟩))), .cond (decide (x.firm = y.firm)) (.eq (.int .i64 x.desk)), .cond (decide (x.firm = y.firm)) (.eq (.pointer (some ⟨g1, 1, none⟩))), .cond (decide (x.firm = y.firm)) (.eq (.int .i64 y.desk)), .cond (decide (x.firm = y.firm)) (.eq (.bool (decide ((x.desk : Int) = (y.desk : Int))))), .eq (.bool ((decide (x.firm = y.firm)) && (decide ((x.desk : Int) = (y.desk : Int))))), .eq (.bool ((decide (x.firm = y.firm)) && (decide ((x.desk : Int) = (y.desk : Int)))))] rfl (by kernel_rfl) ?_ ?_
  · refine sv 1 rfl rfl rfl (fun a u hE hD hk => exec_ldS 25 _ (.tmp 2) (g) (0) (x.cells) rfl (hE 2 (.pointer (some ⟨g, 0, none⟩)) (by kernel_rfl) (by kernel_rfl)) (range_kept (HX.out) hk) Try.underlying25 (by rw [Trd.len37]; exact szT)) ?_
    refine sv 2 rfl rfl rfl (fun a u hE hD hk => exec_ldS 25 _ (.tmp 3) (g1) (0) (y.cells) rfl (hE 3 (.pointer (some ⟨g1, 0, none⟩)) (by kernel_rfl) (by kernel_rfl)) (range_kept (HY.out) hk) Try.underlying25 (by rw [Trd.len37]; exact szT)) ?_
    refine fsteps_cons 3 rfl (fun a u hE hD hk => f_call (o := ⟨some 7, _, _, _, _, _⟩) 25 #[x.v, y.v] rfl (wanted_none rfl _) (exec_call 25 _ [.tmp 5, .tmp 6] _ [x.v, y.v] Try.func25 (by kernel_rfl) (by kernel_rfl) rfl (show [a.eval (.tmp 5), a.eval (.tmp 6)] = [x.v, y.v] from (by rw [show a.eval (.tmp 5) = x.v from (hD 0 5 (by kernel_rfl)), show a.eval (.tmp 6) = y.v from (hD 1 6 (by kernel_rfl))] <;> rfl)) u) (same_firm x y u)) ?_
    refine sv 4 rfl rfl rfl (fun a u hE hD hk => exec_move (.tmp 7) _ rfl (hD 2 7 (by kernel_rfl))) ?_
    refine fsteps_cons 5 rfl (fun a u hE hD hk => f_if ((decide (x.firm = y.firm))) rfl rfl rfl (hD 3 8 (by kernel_rfl)) (fun hb => f_val (o := ⟨some 9, _, _, _, _, _⟩) (.pointer (some ⟨g, 1, none⟩)) rfl (wanted_b rfl rfl (hD 3 8 (by kernel_rfl)) (eq_true_of hb)) (exec_fldo 25 1 1 (.tmp 2) (g) (0) (1) rfl (hE 2 (.pointer (some ⟨g, 0, none⟩)) (by kernel_rfl) (by kernel_rfl)) (by kernel_rfl) rfl) rfl)) ?_
    refine fsteps_cons 6 rfl (fun a u hE hD hk => f_if ((decide (x.firm = y.firm))) rfl rfl rfl (hD 3 8 (by kernel_rfl)) (fun hb => f_val (o := ⟨some 10, _, _, _, _, _⟩) (.int .i64 x.desk) rfl (wanted_b rfl rfl (hD 3 8 (by kernel_rfl)) (eq_true_of hb)) (exec_loadi 3 Try.underlying3 (.tmp 9) ⟨g, 1, none⟩ (.int .i64 x.desk) rfl ((hD 4 9 (by kernel_rfl)).1 hb) ((range_kept (HX.out) hk) 1 _ rfl)) rfl)) ?_
    refine fsteps_cons 7 rfl (fun a u hE hD hk => f_if ((decide (x.firm = y.firm))) rfl rfl rfl (hD 3 8 (by kernel_rfl)) (fun hb => f_val (o := ⟨some 11, _, _, _, _, _⟩) (.pointer (some ⟨g1, 1, none⟩)) rfl (wanted_b rfl rfl (hD 3 8 (by kernel_rfl)) (eq_true_of hb)) (exec_fldo 25 1 1 (.tmp 3) (g1) (0) (1) rfl (hE 3 (.pointer (some ⟨g1, 0, none⟩)) (by kernel_rfl) (by kernel_rfl)) (by kernel_rfl) rfl) rfl)) ?_
    refine fsteps_cons 8 rfl (fun a u hE hD hk => f_if ((decide (x.firm = y.firm))) rfl rfl rfl (hD 3 8 (by kernel_rfl)) (fun hb => f_val (o := ⟨some 12, _, _, _, _, _⟩) (.int .i64 y.desk) rfl (wanted_b rfl rfl (hD 3 8 (by kernel_rfl)) (eq_true_of hb)) (exec_loadi 3 Try.underlying3 (.tmp 11) ⟨g1, 1, none⟩ (.int .i64 y.desk) rfl ((hD 6 11 (by kernel_rfl)).1 hb) ((range_kept (HY.out) hk) 1 _ rfl)) rfl)) ?_
    refine fsteps_cons 9 rfl (fun a u hE hD hk => f_if ((decide (x.firm = y.firm))) rfl rfl rfl (hD 3 8 (by kernel_rfl)) (fun hb => f_val (o := ⟨some 13, _, _, _, _, _⟩) (.bool (decide ((x.desk : Int) = (y.desk : Int)))) rfl (wanted_b rfl rfl (hD 3 8 (by kernel_rfl)) (eq_true_of hb)) (exec_eqn (p := x.desk) (q := y.desk) rfl ((hD 5 10 (by kernel_rfl)).1 hb) ((hD 7 12 (by kernel_rfl)).1 hb)) rfl)) ?_
    refine sv 10 rfl rfl rfl (fun a u hE hD hk => exec_pickand (.tmp 8) (.tmp 13) (.const (.bool false)) ((decide (x.firm = y.firm))) ((decide ((x.desk : Int) = (y.desk : Int)))) rfl (hD 3 8 (by kernel_rfl)) (fun hb2 => ((hD 8 13 (by kernel_rfl)).1 hb2)) rfl) ?_
    refine sv 11 rfl rfl rfl (fun a u hE hD hk => exec_assign (.tmp 14) _ rfl (hD 9 14 (by kernel_rfl))) ?_
    exact fsteps_nil
  intro gv w2 hV k2
  rw [show dstsOf _ 11 = [5, 6, 7, 8, 9, 10, 11, 12, 13, 14, 4] by kernel_rfl]
  simp only [List.foldl_cons, List.foldl_nil, List.setIfInBounds_toArray, List.set_cons_succ, List.set_cons_zero, List.drop_succ_cons, List.drop_zero]
  rw [show gv 4 = .bool ((decide (x.firm = y.firm)) && (decide ((x.desk : Int) = (y.desk : Int)))) from hV 10 4 (by kernel_rfl)]
  clear hV
  refine wpList_nil ?_
  have kw2 := kw.trans k2
  go_wp2
  go_ret
  exact ⟨_, rfl, rfl, kw2⟩
def firmB (x y : Trd) : Bool := decide (x.firm = y.firm)
def deskB (x y : Trd) : Bool := decide (x.firm = y.firm) && decide (x.desk = y.desk)
def setP (X : Trds) (A : Trd → Trd → Bool) (n i : Nat) : Bool := X.there (i : Int) && A (X.at_ i) (X.at_ n)
set_option maxRecDepth 100000 in
set_option maxHeartbeats 1600000 in
theorem setOf_any (w : World) (p : Nat) (X : Trds) (n f : Nat) (fn : Func) (A : Trd → Trd → Bool) (hB : Blk w p 51 X.cells) (hn : n < 32) (h1 : Try.prog.funcs[f]? = some fn) (h2 : (fn.name == "runtime.NumGoroutine") = false) (h3 : fn.body.isNone = false) (hA : ∀ x y u, Gives f #[x.v, y.v] u (.eq (.bool (A x y)))) :
    Gives 23 #[.pointer (some ⟨p, 0, none⟩), .int .i64 (n : Int), .func (.func f) #[] #[]] w (.eq (.int .u64 ((setM (setP X A n) 32 : Nat) : Int))) := by
  refine gives_eq ?_
  have HB := Lib.hid hB
  have HF1 := Lib.hid h1
  have HF2 := Lib.hid h2
  have HF3 := Lib.hid h3
  have HA := Lib.hid hA
  obtain ⟨S, hS⟩ : ∃ S : Nat → Nat, ∀ k, S k = setM (setP X A n) k := ⟨fun k => setM (setP X A n) k, fun _ => rfl⟩
  have HS := Lib.hid hS
  rw [← hS 32]
  clear hB h1 h2 h3 hA hS
  go_enter Try.func23, Try.ntmps23
  go_upto_region 2 with fail
  refine wp_text 5 [.eq (.pointer (some ⟨p, 0, none⟩)), .eq (.pointer (some ⟨p, 0, none⟩)), .eq (.pointer (some ⟨p, 0, none⟩)), .eq (X.v), .eq (.int .i64 0)] rfl (by kernel_rfl) ?_ ?_
  · refine sv 1 rfl rfl rfl (fun a u hE hD hk => exec_move (.tmp 0) _ rfl (hE 0 (.pointer (some ⟨p, 0, none⟩)) (by kernel_rfl) (by kernel_rfl))) ?_
    refine sv 2 rfl rfl rfl (fun a u hE hD hk => exec_nilp (.tmp 10) ⟨p, 0, none⟩ rfl (hD 0 10 (by kernel_rfl))) ?_
    refine sv 3 rfl rfl rfl (fun a u hE hD hk => exec_fldo 51 0 0 (.tmp 11) (p) (0) (0) rfl (hD 1 11 (by kernel_rfl)) (by kernel_rfl) rfl) ?_
    refine sv 4 rfl rfl rfl (fun a u hE hD hk => exec_ldX X (.tmp 12) (p) _ rfl (hD 2 12 (by kernel_rfl)) (HB.out.kept hk)) ?_
    refine sv 5 rfl rfl rfl (fun a u hE hD hk => exec_move (.const (.int .i64 0)) _ rfl rfl) ?_
    exact fsteps_nil
  intro gv w0 hV k0
  rw [show dstsOf _ 5 = [10, 11, 12, 13, 14] by kernel_rfl]
  simp only [List.foldl_cons, List.foldl_nil, List.setIfInBounds_toArray, List.set_cons_succ, List.set_cons_zero, List.drop_succ_cons, List.drop_zero]
  rw [show gv 13 = X.v from hV 3 13 (by kernel_rfl)]
  rw [show gv 14 = .int .i64 0 from hV 4 14 (by kernel_rfl)]
  clear hV
  refine wpList_nil ?_
  go_wp2_with fail
  go_loopw [14, 7] (fun t s wr => ∃ i : Nat, i ≤ 32 ∧ t = .int .i64 (i : Int) ∧ s = .int .u64 ((S i : Nat) : Int) ∧ Kept w wr) (fun t _ _ => 32 - (intOf t).toNat)
  case atStart =>
    refine ⟨0, by omega, rfl, ?_, k0⟩
    rw [HS.out 0]
    rfl
  case round =>
    obtain ⟨i, hi', rfl, rfl, hkr⟩ := hrel
    by_cases hi : i < 32
    · have HBr := Lib.hid (HB.out.kept hkr)
      go_upto_region 4 with fail
      refine wp_text 2 [.eq (.int .i64 (i : Int)), .eq ((X.at_ i).v)] rfl (by kernel_rfl) ?_ ?_
      · refine sv 1 rfl rfl rfl (fun a u hE hD hk => exec_move (.tmp 14) _ rfl (hE 14 (.int .i64 (i : Int)) (by kernel_rfl) (by kernel_rfl))) ?_
        refine sv 2 rfl rfl rfl (fun a u hE hD hk => exec_ixV X i ((i : Int)) (.tmp 13) (.tmp 14) rfl (hE 13 (X.v) (by kernel_rfl) (by kernel_rfl)) (hE 14 (.int .i64 (i : Int)) (by kernel_rfl) (by kernel_rfl)) (by first | rfl | omega) (hi)) ?_
        exact fsteps_nil
      intro gv wa hV ka
      rw [show dstsOf _ 2 = [16, 17] by kernel_rfl]
      simp only [List.foldl_cons, List.foldl_nil, List.setIfInBounds_toArray, List.set_cons_succ, List.set_cons_zero, List.drop_succ_cons, List.drop_zero]
      rw [show gv 16 = .int .i64 (i : Int) from hV 0 16 (by kernel_rfl)]
      rw [show gv 17 = (X.at_ i).v from hV 1 17 (by kernel_rfl)]
      clear hV
      refine l_new (o := ⟨some 9, _, _, _, _, _⟩) (.pointer (some ⟨wa.heap.size, 0, none⟩)) (wa.alloc (.cells zeroT.cells.toArray 25)) rfl (exec_alc 25 zeroT.cells rfl zT) ?_
      have hNa := Blk.new wa 25 zeroT.cells
      have kb : Kept wa (wa.alloc (.cells zeroT.cells.toArray 25)) := (Keep.refl _ wa).alloc _
      generalize wa.alloc (.cells zeroT.cells.toArray 25) = wb at hNa kb ⊢
      simp only [Act.put, List.setIfInBounds_toArray, List.set_cons_succ, List.set_cons_zero]
      refine l_val (o := ⟨some 8, _, _, _, _, _⟩) (.int .i64 (i : Int)) rfl (exec_assign (.tmp 16) (.int .i64 (i : Int)) rfl (by kernel_rfl)) ?_
      simp only [Act.put, List.setIfInBounds_toArray, List.set_cons_succ, List.set_cons_zero]
      refine l_setS (o := ⟨none, _, _, _, _, _⟩) 25 wa.heap.size 25 zeroT.cells (X.at_ i).cells (.tmp 9) (.tmp 17) rfl rfl (by kernel_rfl) (by kernel_rfl) hNa (by rw [Trd.len37]; exact szT) (by rw [Trd.len37, Trd.len37]) (Trd.one _) ?_
      intro wc hCwc hkwc hswc
      simp only [Act.put]
      refine wpList_nil ?_
      obtain ⟨gx, hgx⟩ : ∃ a, wa.heap.size = a := ⟨_, rfl⟩
      rw [hgx] at hNa hCwc hkwc ⊢
      have zka := ka.size
      have kwc : Kept wr wc := (ka.trans kb).trans' hkwc (by omega)
      have HXwc := Lib.hid (blk_range hCwc)
      clear hNa hCwc hkwc hswc kb ka
      have HBc := Lib.hid (HBr.out.kept kwc)
      clear HBr
      have HTi0 := there_in (X := X) hi
      have hSi : S (i + 1) = if setP X A n i = true then S i ||| 2 ^ i else S i := by rw [HS.out, HS.out]; rfl
      have hSl : S i < 18446744073709551616 := by
        rw [HS.out]
        exact Nat.lt_of_lt_of_le (setM_lt _ i) (Nat.le_trans (pow32 (by omega)) (by omega))
      cases ht : X.there (i : Int) with
      | false =>
        have HTi := Lib.hid ht
        have HSi : Hid (S (i + 1) = S i) := by
          show _ = _
          rw [hSi, if_neg (by unfold setP; rw [ht]; simp)]
        clear HTi0 hSi ht hSl
        go_upto_region 5 with fail
        refine wp_free 14 [.eq (.pointer (some ⟨p, 0, none⟩)), .eq (.int .i64 (i : Int)), .eq (.bool false), .eq (.bool false), .eq undef, .eq undef, .eq undef, .eq undef, .eq undef, .eq undef, .eq undef, .eq undef, .eq undef, .eq (.bool false)] (by kernel_rfl) rfl (by kernel_rfl) ?_ ?_
        · refine sv 1 rfl rfl rfl (fun a u hE hD hk => exec_move (.tmp 0) _ rfl (hE 0 (.pointer (some ⟨p, 0, none⟩)) (by kernel_rfl) (by kernel_rfl))) ?_
          refine sv 2 rfl rfl rfl (fun a u hE hD hk => exec_move (.tmp 8) _ rfl (hE 8 (.int .i64 (i : Int)) (by kernel_rfl) (by kernel_rfl))) ?_
          refine fsteps_cons 3 rfl (fun a u hE hD hk => f_call (o := ⟨some 20, _, _, _, _, _⟩) 17 #[.pointer (some ⟨p, 0, none⟩), .int .i64 (i : Int)] rfl (wanted_none rfl _) (exec_call 17 _ [.tmp 18, .tmp 19] _ [.pointer (some ⟨p, 0, none⟩), .int .i64 (i : Int)] Try.func17 (by kernel_rfl) (by kernel_rfl) rfl (show [a.eval (.tmp 18), a.eval (.tmp 19)] = [.pointer (some ⟨p, 0, none⟩), .int .i64 (i : Int)] from (by rw [show a.eval (.tmp 18) = .pointer (some ⟨p, 0, none⟩) from (hD 0 18 (by kernel_rfl)), show a.eval (.tmp 19) = .int .i64 (i : Int) from (hD 1 19 (by kernel_rfl))] <;> rfl)) u) ((by rw [← HTi.out]; exact there_any u p X _ (HBc.out.kept hk)))) ?_
          refine sv 4 rfl rfl rfl (fun a u hE hD hk => exec_move (.tmp 20) _ rfl (hD 2 20 (by kernel_rfl))) ?_
          refine fsteps_cons 5 rfl (fun a u hE hD hk => f_skip (o := ⟨some 22, _, _, _, _, _⟩) rfl (wanted_at (b := true) false rfl rfl (hD 3 21 (by kernel_rfl))) rfl) ?_
          refine fsteps_cons 6 rfl (fun a u hE hD hk => f_skip (o := ⟨some 23, _, _, _, _, _⟩) rfl (wanted_at (b := true) false rfl rfl (hD 3 21 (by kernel_rfl))) rfl) ?_
          refine fsteps_cons 7 rfl (fun a u hE hD hk => f_skip (o := ⟨some 24, _, _, _, _, _⟩) rfl (wanted_at (b := true) false rfl rfl (hD 3 21 (by kernel_rfl))) rfl) ?_
          refine fsteps_cons 8 rfl (fun a u hE hD hk => f_skip (o := ⟨some 25, _, _, _, _, _⟩) rfl (wanted_at (b := true) false rfl rfl (hD 3 21 (by kernel_rfl))) rfl) ?_
          refine fsteps_cons 9 rfl (fun a u hE hD hk => f_skip (o := ⟨some 26, _, _, _, _, _⟩) rfl (wanted_at (b := true) false rfl rfl (hD 3 21 (by kernel_rfl))) rfl) ?_
          refine fsteps_cons 10 rfl (fun a u hE hD hk => f_skip (o := ⟨some 27, _, _, _, _, _⟩) rfl (wanted_at (b := true) false rfl rfl (hD 3 21 (by kernel_rfl))) rfl) ?_
          refine fsteps_cons 11 rfl (fun a u hE hD hk => f_skip (o := ⟨some 28, _, _, _, _, _⟩) rfl (wanted_at (b := true) false rfl rfl (hD 3 21 (by kernel_rfl))) rfl) ?_
          refine fsteps_cons 12 rfl (fun a u hE hD hk => f_skip (o := ⟨some 29, _, _, _, _, _⟩) rfl (wanted_at (b := true) false rfl rfl (hD 3 21 (by kernel_rfl))) rfl) ?_
          refine fsteps_cons 13 rfl (fun a u hE hD hk => f_skip (o := ⟨some 30, _, _, _, _, _⟩) rfl (wanted_at (b := true) false rfl rfl (hD 3 21 (by kernel_rfl))) rfl) ?_
          refine sv 14 rfl rfl rfl (fun a u hE hD hk => exec_pickF (.tmp 21) (.tmp 30) (.const (.bool false)) (.bool false) rfl (hD 3 21 (by kernel_rfl)) rfl) ?_
          exact fsteps_nil
        intro gv wd hV kd
        rw [show dstsOf _ 14 = [18, 19, 20, 21, 22, 23, 24, 25, 26, 27, 28, 29, 30, 31] by kernel_rfl]
        simp only [List.foldl_cons, List.foldl_nil, List.setIfInBounds_toArray, List.set_cons_succ, List.set_cons_zero, List.drop_succ_cons, List.drop_zero]
        rw [show gv 31 = .bool false from hV 13 31 (by kernel_rfl)]
        clear hV
        refine wpList_nil ?_
        have kwd := (hkr.trans kwc).trans kd
        clear HXwc HBc kwc kd
        go_wp2
        refine ⟨⟨i + 1, by omega, by simp, ?_, kwd⟩, by simp [intOf]; omega⟩
        rw [HSi.out]
      | true =>
        have HTi := Lib.hid ht
        cases ha : A (X.at_ i) (X.at_ n) with
        | false =>
          have HAi := Lib.hid ha
          have HSi : Hid (S (i + 1) = S i) := by
            show _ = _
            rw [hSi, if_neg (by unfold setP; rw [ht, ha]; simp)]
          clear HTi0 hSi ht ha hSl
          go_upto_region 5 with fail
          refine wp_free 14 [.eq (.pointer (some ⟨p, 0, none⟩)), .eq (.int .i64 (i : Int)), .eq (.bool true), .eq (.bool true), .eq (.func (.func f) #[] #[]), .eq ((X.at_ i).v), .eq (.pointer (some ⟨p, 0, none⟩)), .eq (.int .i64 (n : Int)), .eq (.pointer (some ⟨p, 0, none⟩)), .eq (.pointer (some ⟨p, 0, none⟩)), .eq (.pointer (some ⟨p, n * 37, none⟩)), .eq ((X.at_ n).v), .eq (.bool false), .eq (.bool false)] (by kernel_rfl) rfl (by kernel_rfl) ?_ ?_
          · refine sv 1 rfl rfl rfl (fun a u hE hD hk => exec_move (.tmp 0) _ rfl (hE 0 (.pointer (some ⟨p, 0, none⟩)) (by kernel_rfl) (by kernel_rfl))) ?_
            refine sv 2 rfl rfl rfl (fun a u hE hD hk => exec_move (.tmp 8) _ rfl (hE 8 (.int .i64 (i : Int)) (by kernel_rfl) (by kernel_rfl))) ?_
            refine fsteps_cons 3 rfl (fun a u hE hD hk => f_call (o := ⟨some 20, _, _, _, _, _⟩) 17 #[.pointer (some ⟨p, 0, none⟩), .int .i64 (i : Int)] rfl (wanted_none rfl _) (exec_call 17 _ [.tmp 18, .tmp 19] _ [.pointer (some ⟨p, 0, none⟩), .int .i64 (i : Int)] Try.func17 (by kernel_rfl) (by kernel_rfl) rfl (show [a.eval (.tmp 18), a.eval (.tmp 19)] = [.pointer (some ⟨p, 0, none⟩), .int .i64 (i : Int)] from (by rw [show a.eval (.tmp 18) = .pointer (some ⟨p, 0, none⟩) from (hD 0 18 (by kernel_rfl)), show a.eval (.tmp 19) = .int .i64 (i : Int) from (hD 1 19 (by kernel_rfl))] <;> rfl)) u) ((by rw [← HTi.out]; exact there_any u p X _ (HBc.out.kept hk)))) ?_
            refine sv 4 rfl rfl rfl (fun a u hE hD hk => exec_move (.tmp 20) _ rfl (hD 2 20 (by kernel_rfl))) ?_
            refine fsteps_cons 5 rfl (fun a u hE hD hk => f_val (o := ⟨some 22, _, _, _, _, _⟩) (.func (.func f) #[] #[]) rfl (wanted_at (b := true) true rfl rfl (hD 3 21 (by kernel_rfl))) (exec_move (.tmp 2) _ rfl (hE 2 (.func (.func f) #[] #[]) (by kernel_rfl) (by kernel_rfl))) rfl) ?_
            refine fsteps_cons 6 rfl (fun a u hE hD hk => f_val (o := ⟨some 23, _, _, _, _, _⟩) ((X.at_ i).v) rfl (wanted_at (b := true) true rfl rfl (hD 3 21 (by kernel_rfl))) (exec_ldS 25 _ (.tmp 9) (gx) (0) ((X.at_ i).cells) rfl (hE 9 (.pointer (some ⟨gx, 0, none⟩)) (by kernel_rfl) (by kernel_rfl)) (range_kept (HXwc.out) hk) Try.underlying25 (by rw [Trd.len37]; exact szT)) rfl) ?_
            refine fsteps_cons 7 rfl (fun a u hE hD hk => f_val (o := ⟨some 24, _, _, _, _, _⟩) (.pointer (some ⟨p, 0, none⟩)) rfl (wanted_at (b := true) true rfl rfl (hD 3 21 (by kernel_rfl))) (exec_move (.tmp 0) _ rfl (hE 0 (.pointer (some ⟨p, 0, none⟩)) (by kernel_rfl) (by kernel_rfl))) rfl) ?_
            refine fsteps_cons 8 rfl (fun a u hE hD hk => f_val (o := ⟨some 25, _, _, _, _, _⟩) (.int .i64 (n : Int)) rfl (wanted_at (b := true) true rfl rfl (hD 3 21 (by kernel_rfl))) (exec_move (.tmp 1) _ rfl (hE 1 (.int .i64 (n : Int)) (by kernel_rfl) (by kernel_rfl))) rfl) ?_
            refine fsteps_cons 9 rfl (fun a u hE hD hk => f_val (o := ⟨some 26, _, _, _, _, _⟩) (.pointer (some ⟨p, 0, none⟩)) rfl (wanted_at (b := true) true rfl rfl (hD 3 21 (by kernel_rfl))) (exec_nilp (.tmp 24) ⟨p, 0, none⟩ rfl (hD 6 24 (by kernel_rfl))) rfl) ?_
            refine fsteps_cons 10 rfl (fun a u hE hD hk => f_val (o := ⟨some 27, _, _, _, _, _⟩) (.pointer (some ⟨p, 0, none⟩)) rfl (wanted_at (b := true) true rfl rfl (hD 3 21 (by kernel_rfl))) (exec_fldo 51 0 0 (.tmp 26) (p) (0) (0) rfl (hD 8 26 (by kernel_rfl)) (by kernel_rfl) rfl) rfl) ?_
            refine fsteps_cons 11 rfl (fun a u hE hD hk => f_val (o := ⟨some 28, _, _, _, _, _⟩) (.pointer (some ⟨p, n * 37, none⟩)) rfl (wanted_at (b := true) true rfl rfl (hD 3 21 (by kernel_rfl))) (exec_ixA (.tmp 27) (.tmp 25) (p) n ((n : Int)) rfl (hD 9 27 (by kernel_rfl)) (hD 7 25 (by kernel_rfl)) (by first | rfl | omega) (hn)) rfl) ?_
            refine fsteps_cons 12 rfl (fun a u hE hD hk => f_val (o := ⟨some 29, _, _, _, _, _⟩) ((X.at_ n).v) rfl (wanted_at (b := true) true rfl rfl (hD 3 21 (by kernel_rfl))) (exec_ldS 25 _ (.tmp 28) (p) (n * 37) ((X.at_ n).cells) rfl (hD 10 28 (by kernel_rfl)) (range_kept ((trds_range HBc.out hn)) hk) Try.underlying25 (by rw [Trd.len37]; exact szT)) rfl) ?_
            refine fsteps_cons 13 rfl (fun a u hE hD hk => f_call (o := ⟨some 30, _, _, _, _, _⟩) f #[(X.at_ i).v, (X.at_ n).v] rfl (wanted_at (b := true) true rfl rfl (hD 3 21 (by kernel_rfl))) (exec_callv f fn (.tmp 22) [.tmp 23, .tmp 29] _ [(X.at_ i).v, (X.at_ n).v] [] HF1.out HF2.out HF3.out rfl (hD 4 22 (by kernel_rfl)) (show [a.eval (.tmp 23), a.eval (.tmp 29)] = [(X.at_ i).v, (X.at_ n).v] by rw [show a.eval (.tmp 23) = (X.at_ i).v from (hD 5 23 (by kernel_rfl)), show a.eval (.tmp 29) = (X.at_ n).v from (hD 11 29 (by kernel_rfl))])) (by rw [← HAi.out]; exact HA.out _ _ u)) ?_
            refine sv 14 rfl rfl rfl (fun a u hE hD hk => exec_pick (.tmp 21) (.tmp 30) (.const (.bool false)) (.bool false) rfl (hD 3 21 (by kernel_rfl)) (hD 12 30 (by kernel_rfl))) ?_
            exact fsteps_nil
          intro gv wd hV kd
          rw [show dstsOf _ 14 = [18, 19, 20, 21, 22, 23, 24, 25, 26, 27, 28, 29, 30, 31] by kernel_rfl]
          simp only [List.foldl_cons, List.foldl_nil, List.setIfInBounds_toArray, List.set_cons_succ, List.set_cons_zero, List.drop_succ_cons, List.drop_zero]
          rw [show gv 31 = .bool false from hV 13 31 (by kernel_rfl)]
          clear hV
          refine wpList_nil ?_
          have kwd := (hkr.trans kwc).trans kd
          clear HXwc HBc kwc kd
          go_wp2
          refine ⟨⟨i + 1, by omega, by simp, ?_, kwd⟩, by simp [intOf]; omega⟩
          rw [HSi.out]
        | true =>
          have HAi := Lib.hid ha
          have HSi : Hid (S (i + 1) = S i ||| 2 ^ i) := by
            show _ = _
            rw [hSi, if_pos (by unfold setP; rw [ht, ha]; rfl)]
          have HSl := Lib.hid hSl
          clear HTi0 hSi ht ha hSl
          go_upto_region 5 with fail
          refine wp_free 14 [.eq (.pointer (some ⟨p, 0, none⟩)), .eq (.int .i64 (i : Int)), .eq (.bool true), .eq (.bool true), .eq (.func (.func f) #[] #[]), .eq ((X.at_ i).v), .eq (.pointer (some ⟨p, 0, none⟩)), .eq (.int .i64 (n : Int)), .eq (.pointer (some ⟨p, 0, none⟩)), .eq (.pointer (some ⟨p, 0, none⟩)), .eq (.pointer (some ⟨p, n * 37, none⟩)), .eq ((X.at_ n).v), .eq (.bool true), .eq (.bool true)] (by kernel_rfl) rfl (by kernel_rfl) ?_ ?_
          · refine sv 1 rfl rfl rfl (fun a u hE hD hk => exec_move (.tmp 0) _ rfl (hE 0 (.pointer (some ⟨p, 0, none⟩)) (by kernel_rfl) (by kernel_rfl))) ?_
            refine sv 2 rfl rfl rfl (fun a u hE hD hk => exec_move (.tmp 8) _ rfl (hE 8 (.int .i64 (i : Int)) (by kernel_rfl) (by kernel_rfl))) ?_
            refine fsteps_cons 3 rfl (fun a u hE hD hk => f_call (o := ⟨some 20, _, _, _, _, _⟩) 17 #[.pointer (some ⟨p, 0, none⟩), .int .i64 (i : Int)] rfl (wanted_none rfl _) (exec_call 17 _ [.tmp 18, .tmp 19] _ [.pointer (some ⟨p, 0, none⟩), .int .i64 (i : Int)] Try.func17 (by kernel_rfl) (by kernel_rfl) rfl (show [a.eval (.tmp 18), a.eval (.tmp 19)] = [.pointer (some ⟨p, 0, none⟩), .int .i64 (i : Int)] from (by rw [show a.eval (.tmp 18) = .pointer (some ⟨p, 0, none⟩) from (hD 0 18 (by kernel_rfl)), show a.eval (.tmp 19) = .int .i64 (i : Int) from (hD 1 19 (by kernel_rfl))] <;> rfl)) u) ((by rw [← HTi.out]; exact there_any u p X _ (HBc.out.kept hk)))) ?_
            refine sv 4 rfl rfl rfl (fun a u hE hD hk => exec_move (.tmp 20) _ rfl (hD 2 20 (by kernel_rfl))) ?_
            refine fsteps_cons 5 rfl (fun a u hE hD hk => f_val (o := ⟨some 22, _, _, _, _, _⟩) (.func (.func f) #[] #[]) rfl (wanted_at (b := true) true rfl rfl (hD 3 21 (by kernel_rfl))) (exec_move (.tmp 2) _ rfl (hE 2 (.func (.func f) #[] #[]) (by kernel_rfl) (by kernel_rfl))) rfl) ?_
            refine fsteps_cons 6 rfl (fun a u hE hD hk => f_val (o := ⟨some 23, _, _, _, _, _⟩) ((X.at_ i).v) rfl (wanted_at (b := true) true rfl rfl (hD 3 21 (by kernel_rfl))) (exec_ldS 25 _ (.tmp 9) (gx) (0) ((X.at_ i).cells) rfl (hE 9 (.pointer (some ⟨gx, 0, none⟩)) (by kernel_rfl) (by kernel_rfl)) (range_kept (HXwc.out) hk) Try.underlying25 (by rw [Trd.len37]; exact szT)) rfl) ?_
            refine fsteps_cons 7 rfl (fun a u hE hD hk => f_val (o := ⟨some 24, _, _, _, _, _⟩) (.pointer (some ⟨p, 0, none⟩)) rfl (wanted_at (b := true) true rfl rfl (hD 3 21 (by kernel_rfl))) (exec_move (.tmp 0) _ rfl (hE 0 (.pointer (some ⟨p, 0, none⟩)) (by kernel_rfl) (by kernel_rfl))) rfl) ?_
            refine fsteps_cons 8 rfl (fun a u hE hD hk => f_val (o := ⟨some 25, _, _, _, _, _⟩) (.int .i64 (n : Int)) rfl (wanted_at (b := true) true rfl rfl (hD 3 21 (by kernel_rfl))) (exec_move (.tmp 1) _ rfl (hE 1 (.int .i64 (n : Int)) (by kernel_rfl) (by kernel_rfl))) rfl) ?_
            refine fsteps_cons 9 rfl (fun a u hE hD hk => f_val (o := ⟨some 26, _, _, _, _, _⟩) (.pointer (some ⟨p, 0, none⟩)) rfl (wanted_at (b := true) true rfl rfl (hD 3 21 (by kernel_rfl))) (exec_nilp (.tmp 24) ⟨p, 0, none⟩ rfl (hD 6 24 (by kernel_rfl))) rfl) ?_
            refine fsteps_cons 10 rfl (fun a u hE hD hk => f_val (o := ⟨some 27, _, _, _, _, _⟩) (.pointer (some ⟨p, 0, none⟩)) rfl (wanted_at (b := true) true rfl rfl (hD 3 21 (by kernel_rfl))) (exec_fldo 51 0 0 (.tmp 26) (p) (0) (0) rfl (hD 8 26 (by kernel_rfl)) (by kernel_rfl) rfl) rfl) ?_
            refine fsteps_cons 11 rfl (fun a u hE hD hk => f_val (o := ⟨some 28, _, _, _, _, _⟩) (.pointer (some ⟨p, n * 37, none⟩)) rfl (wanted_at (b := true) true rfl rfl (hD 3 21 (by kernel_rfl))) (exec_ixA (.tmp 27) (.tmp 25) (p) n ((n : Int)) rfl (hD 9 27 (by kernel_rfl)) (hD 7 25 (by kernel_rfl)) (by first | rfl | omega) (hn)) rfl) ?_
            refine fsteps_cons 12 rfl (fun a u hE hD hk => f_val (o := ⟨some 29, _, _, _, _, _⟩) ((X.at_ n).v) rfl (wanted_at (b := true) true rfl rfl (hD 3 21 (by kernel_rfl))) (exec_ldS 25 _ (.tmp 28) (p) (n * 37) ((X.at_ n).cells) rfl (hD 10 28 (by kernel_rfl)) (range_kept ((trds_range HBc.out hn)) hk) Try.underlying25 (by rw [Trd.len37]; exact szT)) rfl) ?_
            refine fsteps_cons 13 rfl (fun a u hE hD hk => f_call (o := ⟨some 30, _, _, _, _, _⟩) f #[(X.at_ i).v, (X.at_ n).v] rfl (wanted_at (b := true) true rfl rfl (hD 3 21 (by kernel_rfl))) (exec_callv f fn (.tmp 22) [.tmp 23, .tmp 29] _ [(X.at_ i).v, (X.at_ n).v] [] HF1.out HF2.out HF3.out rfl (hD 4 22 (by kernel_rfl)) (show [a.eval (.tmp 23), a.eval (.tmp 29)] = [(X.at_ i).v, (X.at_ n).v] by rw [show a.eval (.tmp 23) = (X.at_ i).v from (hD 5 23 (by kernel_rfl)), show a.eval (.tmp 29) = (X.at_ n).v from (hD 11 29 (by kernel_rfl))])) (by rw [← HAi.out]; exact HA.out _ _ u)) ?_
            refine sv 14 rfl rfl rfl (fun a u hE hD hk => exec_pick (.tmp 21) (.tmp 30) (.const (.bool false)) (.bool true) rfl (hD 3 21 (by kernel_rfl)) (hD 12 30 (by kernel_rfl))) ?_
            exact fsteps_nil
          intro gv wd hV kd
          rw [show dstsOf _ 14 = [18, 19, 20, 21, 22, 23, 24, 25, 26, 27, 28, 29, 30, 31] by kernel_rfl]
          simp only [List.foldl_cons, List.foldl_nil, List.setIfInBounds_toArray, List.set_cons_succ, List.set_cons_zero, List.drop_succ_cons, List.drop_zero]
          rw [show gv 31 = .bool true from hV 13 31 (by kernel_rfl)]
          clear hV
          refine wpList_nil ?_
          have kwd := (hkr.trans kwc).trans kd
          clear HXwc HBc kwc kd
          go_upto_region 6 with fail
          refine wp_text 4 [.eq (.int .u64 ((S i : Nat) : Int)), .eq (.int .i64 (i : Int)), .eq (.int .u64 ((2 ^ i : Nat) : Int)), .eq (.int .u64 ((S i ||| 2 ^ i : Nat) : Int))] rfl (by kernel_rfl) ?_ ?_
          · refine sv 1 rfl rfl rfl (fun a u hE hD hk => exec_move (.tmp 7) _ rfl (hE 7 (.int .u64 ((S i : Nat) : Int)) (by kernel_rfl) (by kernel_rfl))) ?_
            refine sv 2 rfl rfl rfl (fun a u hE hD hk => exec_move (.tmp 8) _ rfl (hE 8 (.int .i64 (i : Int)) (by kernel_rfl) (by kernel_rfl))) ?_
            refine fsteps_cons 3 rfl (fun a u hE hD hk => f_call (o := ⟨some 34, _, _, _, _, _⟩) 22 #[.int .i64 (i : Int)] rfl (wanted_none rfl _) (exec_call 22 _ [.tmp 33] _ [.int .i64 (i : Int)] Try.func22 (by kernel_rfl) (by kernel_rfl) rfl (show [a.eval (.tmp 33)] = [.int .i64 (i : Int)] from (by rw [show a.eval (.tmp 33) = .int .i64 (i : Int) from (hD 1 33 (by kernel_rfl))] <;> rfl)) u) (bit_any i (by omega) u)) ?_
            refine sv 4 rfl rfl rfl (fun a u hE hD hk => exec_orU (.tmp 32) (.tmp 34) _ _ (S i) (2 ^ i) rfl (hD 0 32 (by kernel_rfl)) (hD 2 34 (by kernel_rfl)) HSl.out (Nat.lt_of_le_of_lt (pow32 (by omega)) (by omega))) ?_
            exact fsteps_nil
          intro gv we hV ke
          rw [show dstsOf _ 4 = [32, 33, 34, 35] by kernel_rfl]
          simp only [List.foldl_cons, List.foldl_nil, List.setIfInBounds_toArray, List.set_cons_succ, List.set_cons_zero, List.drop_succ_cons, List.drop_zero]
          rw [show gv 35 = .int .u64 ((S i ||| 2 ^ i : Nat) : Int) from hV 3 35 (by kernel_rfl)]
          clear hV
          refine l_val (o := ⟨some 7, _, _, _, _, _⟩) (.int .u64 ((S i ||| 2 ^ i : Nat) : Int)) rfl (exec_assign (.tmp 35) (.int .u64 ((S i ||| 2 ^ i : Nat) : Int)) rfl (by kernel_rfl)) ?_
          simp only [Act.put, List.setIfInBounds_toArray, List.set_cons_succ, List.set_cons_zero]
          refine wpList_nil ?_
          have kwe := kwd.trans ke
          clear kwd ke
          go_wp2
          refine ⟨⟨i + 1, by omega, by simp, ?_, kwe⟩, by simp [intOf]; omega⟩
          rw [HSi.out]
    · obtain rfl : i = 32 := by omega
      go_wp2
      go_ret
      exact ⟨rfl, hkr⟩
theorem setOf_desk (w : World) (p : Nat) (X : Trds) (n : Nat) (hB : Blk w p 51 X.cells) (hn : n < 32) : Gives 23 #[.pointer (some ⟨p, 0, none⟩), .int .i64 (n : Int), .func (.func 24) #[] #[]] w (.eq (.int .u64 ((setM (setP X deskB n) 32 : Nat) : Int))) :=
  setOf_any w p X n _ _ deskB hB hn Try.func24 (by kernel_rfl) (by kernel_rfl) same_desk
theorem setOf_firm (w : World) (p : Nat) (X : Trds) (n : Nat) (hB : Blk w p 51 X.cells) (hn : n < 32) : Gives 23 #[.pointer (some ⟨p, 0, none⟩), .int .i64 (n : Int), .func (.func 25) #[] #[]] w (.eq (.int .u64 ((setM (setP X firmB n) 32 : Nat) : Int))) :=
  setOf_any w p X n _ _ firmB hB hn Try.func25 (by kernel_rfl) (by kernel_rfl) same_firm
/-- what Set tells -/
def Trds.setB (X : Trds) (n s : Int) : Nat := if X.there n = true then (if s = 1 then 2 ^ n.toNat else if s = 2 then setM (setP X deskB n.toNat) 32 else if s = 3 then setM (setP X firmB n.toNat) 32 else 0) else 0
theorem setB_out {X : Trds} {n s : Int} (h : X.there n = false) : X.setB n s = 0 := by unfold Trds.setB; rw [if_neg (by rw [h]; simp)]
theorem setB_in {X : Trds} {i : Nat} {s : Int} (h : X.there (i : Int) = true) : X.setB (i : Int) s = if s = 1 then 2 ^ i else if s = 2 then setM (setP X deskB i) 32 else if s = 3 then setM (setP X firmB i) 32 else 0 := by unfold Trds.setB; rw [if_pos h, Int.toNat_natCast]
set_option maxRecDepth 100000 in
set_option maxHeartbeats 1600000 in
theorem set_any (w : World) (p : Nat) (X : Trds) (n s : Int) (hB : Blk w p 51 X.cells) : Gives 9 #[.pointer (some ⟨p, 0, none⟩), .int .i64 n, .int .i64 s] w (.eq (.int .u64 ((X.setB n s : Nat) : Int))) := by
  refine gives_eq ?_
  have HB := Lib.hid hB
  clear hB
  obtain ⟨V, hV⟩ : ∃ V : Nat, X.setB n s = V := ⟨_, rfl⟩
  have HVV := Lib.hid hV
  rw [hV]
  clear hV
  cases ht : X.there n with
  | false =>
    have HT := Lib.hid ht
    clear ht
    have HV : Hid (V = 0) := by show _ = _; rw [← HVV.out, setB_out HT.out]
    clear HVV
    go_enter Try.func9, Try.ntmps9
    go_upto_region 1 with fail
    refine wp_text 4 [.eq (.pointer (some ⟨p, 0, none⟩)), .eq (.int .i64 n), .eq (.bool false), .eq (.bool true)] rfl (by kernel_rfl) ?_ ?_
    · refine sv 1 rfl rfl rfl (fun a u hE hD hk => exec_move (.tmp 0) _ rfl (hE 0 (.pointer (some ⟨p, 0, none⟩)) (by kernel_rfl) (by kernel_rfl))) ?_
      refine sv 2 rfl rfl rfl (fun a u hE hD hk => exec_move (.tmp 1) _ rfl (hE 1 (.int .i64 n) (by kernel_rfl) (by kernel_rfl))) ?_
      refine fsteps_cons 3 rfl (fun a u hE hD hk => f_call (o := ⟨some 9, _, _, _, _, _⟩) 17 #[.pointer (some ⟨p, 0, none⟩), .int .i64 n] rfl (wanted_none rfl _) (exec_call 17 _ [.tmp 7, .tmp 8] _ [.pointer (some ⟨p, 0, none⟩), .int .i64 n] Try.func17 (by kernel_rfl) (by kernel_rfl) rfl (show [a.eval (.tmp 7), a.eval (.tmp 8)] = [.pointer (some ⟨p, 0, none⟩), .int .i64 n] from (by rw [show a.eval (.tmp 7) = .pointer (some ⟨p, 0, none⟩) from (hD 0 7 (by kernel_rfl)), show a.eval (.tmp 8) = .int .i64 n from (hD 1 8 (by kernel_rfl))] <;> rfl)) u) (by rw [← HT.out]; exact there_any u p X _ (HB.out.kept hk))) ?_
      refine sv 4 rfl rfl rfl (fun a u hE hD hk => exec_not _ (.tmp 9) false rfl (hD 2 9 (by kernel_rfl))) ?_
      exact fsteps_nil
    intro gv w1 hV k1
    rw [show dstsOf _ 4 = [7, 8, 9, 10] by kernel_rfl]
    simp only [List.foldl_cons, List.foldl_nil, List.setIfInBounds_toArray, List.set_cons_succ, List.set_cons_zero, List.drop_succ_cons, List.drop_zero]
    rw [show gv 10 = .bool true from hV 3 10 (by kernel_rfl)]
    clear hV
    refine wpList_nil ?_
    go_wp2
    go_ret
    rw [HV.out]
    exact ⟨rfl, k1⟩
  | true =>
    obtain ⟨i, hi, rfl⟩ := there_lt ht
    have HT := Lib.hid ht
    clear ht
    go_enter Try.func9, Try.ntmps9
    go_upto_region 1 with fail
    refine wp_text 4 [.eq (.pointer (some ⟨p, 0, none⟩)), .eq (.int .i64 (i : Int)), .eq (.bool true), .eq (.bool false)] rfl (by kernel_rfl) ?_ ?_
    · refine sv 1 rfl rfl rfl (fun a u hE hD hk => exec_move (.tmp 0) _ rfl (hE 0 (.pointer (some ⟨p, 0, none⟩)) (by kernel_rfl) (by kernel_rfl))) ?_
      refine sv 2 rfl rfl rfl (fun a u hE hD hk => exec_move (.tmp 1) _ rfl (hE 1 (.int .i64 (i : Int)) (by kernel_rfl) (by kernel_rfl))) ?_
      refine fsteps_cons 3 rfl (fun a u hE hD hk => f_call (o := ⟨some 9, _, _, _, _, _⟩) 17 #[.pointer (some ⟨p, 0, none⟩), .int .i64 (i : Int)] rfl (wanted_none rfl _) (exec_call 17 _ [.tmp 7, .tmp 8] _ [.pointer (some ⟨p, 0, none⟩), .int .i64 (i : Int)] Try.func17 (by kernel_rfl) (by kernel_rfl) rfl (show [a.eval (.tmp 7), a.eval (.tmp 8)] = [.pointer (some ⟨p, 0, none⟩), .int .i64 (i : Int)] from (by rw [show a.eval (.tmp 7) = .pointer (some ⟨p, 0, none⟩) from (hD 0 7 (by kernel_rfl)), show a.eval (.tmp 8) = .int .i64 (i : Int) from (hD 1 8 (by kernel_rfl))] <;> rfl)) u) (by rw [← HT.out]; exact there_any u p X _ (HB.out.kept hk))) ?_
      refine sv 4 rfl rfl rfl (fun a u hE hD hk => exec_not _ (.tmp 9) true rfl (hD 2 9 (by kernel_rfl))) ?_
      exact fsteps_nil
    intro gv w1 hV k1
    rw [show dstsOf _ 4 = [7, 8, 9, 10] by kernel_rfl]
    simp only [List.foldl_cons, List.foldl_nil, List.setIfInBounds_toArray, List.set_cons_succ, List.set_cons_zero, List.drop_succ_cons, List.drop_zero]
    rw [show gv 10 = .bool false from hV 3 10 (by kernel_rfl)]
    clear hV
    refine wpList_nil ?_
    by_cases h1 : s = 1
    · subst h1
      have HC : Hid (∀ u, Kept w u → Gives 22 #[.int .i64 (i : Int)] u (.eq (.int .u64 ((V : Nat) : Int)))) := fun u hk => by rw [← HVV.out, setB_in HT.out, if_pos rfl]; exact bit_any i (by omega) u
      clear HVV
      go_upto_region 5 with fail
      refine wp_text 2 [.eq (.int .i64 (i : Int)), .eq (.int .u64 ((V : Nat) : Int))] rfl (by kernel_rfl) ?_ ?_
      · refine sv 1 rfl rfl rfl (fun a u hE hD hk => exec_move (.tmp 1) _ rfl (hE 1 (.int .i64 (i : Int)) (by kernel_rfl) (by kernel_rfl))) ?_
        refine fsteps_cons 2 rfl (fun a u hE hD hk => f_call (o := ⟨some 15, _, _, _, _, _⟩) 22 #[.int .i64 (i : Int)] rfl (wanted_none rfl _) (exec_call 22 _ [.tmp 14] _ [.int .i64 (i : Int)] Try.func22 (by kernel_rfl) (by kernel_rfl) rfl (show [a.eval (.tmp 14)] = [.int .i64 (i : Int)] from (by rw [show a.eval (.tmp 14) = .int .i64 (i : Int) from (hD 0 14 (by kernel_rfl))] <;> rfl)) u) (HC.out u (k1.trans hk))) ?_
        exact fsteps_nil
      intro gv w2 hV k2
      rw [show dstsOf _ 2 = [14, 15] by kernel_rfl]
      simp only [List.foldl_cons, List.foldl_nil, List.setIfInBounds_toArray, List.set_cons_succ, List.set_cons_zero, List.drop_succ_cons, List.drop_zero]
      rw [show gv 15 = .int .u64 ((V : Nat) : Int) from hV 1 15 (by kernel_rfl)]
      clear hV
      refine l_val (o := ⟨some 6, _, _, _, _, _⟩) (.int .u64 ((V : Nat) : Int)) rfl (exec_assign (.tmp 15) (.int .u64 ((V : Nat) : Int)) rfl (by kernel_rfl)) ?_
      simp only [Act.put, List.setIfInBounds_toArray, List.set_cons_succ, List.set_cons_zero]
      refine wpList_nil ?_
      have kw := k1.trans k2
      go_wp2
      go_ret
      exact ⟨rfl, kw⟩
    by_cases h2 : s = 2
    · subst h2
      have HC : Hid (∀ u, Kept w u → Gives 23 #[.pointer (some ⟨p, 0, none⟩), .int .i64 (i : Int), .func (.func 24) #[] #[]] u (.eq (.int .u64 ((V : Nat) : Int)))) := fun u hk => by rw [← HVV.out, setB_in HT.out, if_neg (by omega), if_pos rfl]; exact setOf_desk u p X i (HB.out.kept hk) hi
      clear HVV
      go_upto_region 7 with fail
      refine wp_text 3 [.eq (.pointer (some ⟨p, 0, none⟩)), .eq (.int .i64 (i : Int)), .eq (.int .u64 ((V : Nat) : Int))] rfl (by kernel_rfl) ?_ ?_
      · refine sv 1 rfl rfl rfl (fun a u hE hD hk => exec_move (.tmp 0) _ rfl (hE 0 (.pointer (some ⟨p, 0, none⟩)) (by kernel_rfl) (by kernel_rfl))) ?_
        refine sv 2 rfl rfl rfl (fun a u hE hD hk => exec_move (.tmp 1) _ rfl (hE 1 (.int .i64 (i : Int)) (by kernel_rfl) (by kernel_rfl))) ?_
        refine fsteps_cons 3 rfl (fun a u hE hD hk => f_call (o := ⟨some 20, _, _, _, _, _⟩) 23 #[.pointer (some ⟨p, 0, none⟩), .int .i64 (i : Int), .func (.func 24) #[] #[]] rfl (wanted_none rfl _) (exec_call 23 _ [.tmp 18, .tmp 19, .func 24] _ [.pointer (some ⟨p, 0, none⟩), .int .i64 (i : Int), .func (.func 24) #[] #[]] Try.func23 (by kernel_rfl) (by kernel_rfl) rfl (show [a.eval (.tmp 18), a.eval (.tmp 19), a.eval (.func 24)] = [.pointer (some ⟨p, 0, none⟩), .int .i64 (i : Int), .func (.func 24) #[] #[]] from (by rw [show a.eval (.tmp 18) = .pointer (some ⟨p, 0, none⟩) from (hD 0 18 (by kernel_rfl)), show a.eval (.tmp 19) = .int .i64 (i : Int) from (hD 1 19 (by kernel_rfl))] <;> rfl)) u) (HC.out u (k1.trans hk))) ?_
        exact fsteps_nil
      intro gv w2 hV k2
      rw [show dstsOf _ 3 = [18, 19, 20] by kernel_rfl]
      simp only [List.foldl_cons, List.foldl_nil, List.setIfInBounds_toArray, List.set_cons_succ, List.set_cons_zero, List.drop_succ_cons, List.drop_zero]
      rw [show gv 20 = .int .u64 ((V : Nat) : Int) from hV 2 20 (by kernel_rfl)]
      clear hV
      refine l_val (o := ⟨some 6, _, _, _, _, _⟩) (.int .u64 ((V : Nat) : Int)) rfl (exec_assign (.tmp 20) (.int .u64 ((V : Nat) : Int)) rfl (by kernel_rfl)) ?_
      simp only [Act.put, List.setIfInBounds_toArray, List.set_cons_succ, List.set_cons_zero]
      refine wpList_nil ?_
      have kw := k1.trans k2
      go_wp2
      go_ret
      exact ⟨rfl, kw⟩
    by_cases h3 : s = 3
    · subst h3
      have HC : Hid (∀ u, Kept w u → Gives 23 #[.pointer (some ⟨p, 0, none⟩), .int .i64 (i : Int), .func (.func 25) #[] #[]] u (.eq (.int .u64 ((V : Nat) : Int)))) := fun u hk => by rw [← HVV.out, setB_in HT.out, if_neg (by omega), if_neg (by omega), if_pos rfl]; exact setOf_firm u p X i (HB.out.kept hk) hi
      clear HVV
      go_upto_region 9 with fail
      refine wp_text 3 [.eq (.pointer (some ⟨p, 0, none⟩)), .eq (.int .i64 (i : Int)), .eq (.int .u64 ((V : Nat) : Int))] rfl (by kernel_rfl) ?_ ?_
      · refine sv 1 rfl rfl rfl (fun a u hE hD hk => exec_move (.tmp 0) _ rfl (hE 0 (.pointer (some ⟨p, 0, none⟩)) (by kernel_rfl) (by kernel_rfl))) ?_
        refine sv 2 rfl rfl rfl (fun a u hE hD hk => exec_move (.tmp 1) _ rfl (hE 1 (.int .i64 (i : Int)) (by kernel_rfl) (by kernel_rfl))) ?_
        refine fsteps_cons 3 rfl (fun a u hE hD hk => f_call (o := ⟨some 25, _, _, _, _, _⟩) 23 #[.pointer (some ⟨p, 0, none⟩), .int .i64 (i : Int), .func (.func 25) #[] #[]] rfl (wanted_none rfl _) (exec_call 23 _ [.tmp 23, .tmp 24, .func 25] _ [.pointer (some ⟨p, 0, none⟩), .int .i64 (i : Int), .func (.func 25) #[] #[]] Try.func23 (by kernel_rfl) (by kernel_rfl) rfl (show [a.eval (.tmp 23), a.eval (.tmp 24), a.eval (.func 25)] = [.pointer (some ⟨p, 0, none⟩), .int .i64 (i : Int), .func (.func 25) #[] #[]] from (by rw [show a.eval (.tmp 23) = .pointer (some ⟨p, 0, none⟩) from (hD 0 23 (by kernel_rfl)), show a.eval (.tmp 24) = .int .i64 (i : Int) from (hD 1 24 (by kernel_rfl))] <;> rfl)) u) (HC.out u (k1.trans hk))) ?_
        exact fsteps_nil
      intro gv w2 hV k2
      rw [show dstsOf _ 3 = [23, 24, 25] by kernel_rfl]
      simp only [List.foldl_cons, List.foldl_nil, List.setIfInBounds_toArray, List.set_cons_succ, List.set_cons_zero, List.drop_succ_cons, List.drop_zero]
      rw [show gv 25 = .int .u64 ((V : Nat) : Int) from hV 2 25 (by kernel_rfl)]
      clear hV
      refine l_val (o := ⟨some 6, _, _, _, _, _⟩) (.int .u64 ((V : Nat) : Int)) rfl (exec_assign (.tmp 25) (.int .u64 ((V : Nat) : Int)) rfl (by kernel_rfl)) ?_
      simp only [Act.put, List.setIfInBounds_toArray, List.set_cons_succ, List.set_cons_zero]
      refine wpList_nil ?_
      have kw := k1.trans k2
      go_wp2
      go_ret
      exact ⟨rfl, kw⟩
    have HV : Hid (V = 0) := by show _ = _; rw [← HVV.out, setB_in HT.out, if_neg h1, if_neg h2, if_neg h3]
    clear HVV
    go_wp2
    go_ret
    rw [HV.out]
    exact ⟨rfl, k1⟩
def Trds.offM (X : Trds) (n : Int) (b : Bool) : Trds := if X.there n = true then X.put n.toNat { X.at_ n.toNat with off := b } else X
theorem offM_in {X : Trds} {i : Nat} {b : Bool} (h : X.there (i : Int) = true) : X.offM (i : Int) b = X.put i { X.at_ i with off := b } := by unfold Trds.offM; rw [if_pos h, Int.toNat_natCast]
theorem offM_out {X : Trds} {n : Int} {b : Bool} (h : X.there n = false) : X.offM n b = X := by unfold Trds.offM; rw [if_neg (by rw [h]; simp)]
/-- a trader's Off stored -/
theorem l_putOff {ops : Array Oper} {Q : Exit → Act → World → Prop} {a : Act} {w : World} {o : Oper} {rest : List Oper} (g i : Nat) (T : TypeId) (X : Trds) (b : Bool) (x y : Operand) (hw : Region.wanted o (yielded ops a.tmps) = true) (hop : o.op = .store 4 x y) (hx : a.eval x = .pointer (some ⟨g, i * 37 + 4, none⟩)) (hy : a.eval y = .bool b) (hb : Blk w g T X.cells) (hi : i < 32)
    (hK : ∀ w', Blk w' g T (X.put i { X.at_ i with off := b }).cells → Keep (· = g) w w' → w'.heap.size = w.heap.size → wpList Try.prog ops Q rest (a.put o.dst undef) w') : wpList Try.prog ops Q (o :: rest) a w := by
  have hl := X.len
  have hB2 := hb.set_ (i * 37 + 4) (.bool b)
  rw [X.set_cell i 4 (.bool b) { X.at_ i with off := b } hi (by omega) rfl] at hB2
  exact l_store (w.setCell ⟨g, i * 37 + 4, none⟩ (.bool b)) hw (exec_store1 4 x y g (i * 37 + 4) (.bool b) hop (by kernel_rfl) hx hy rfl rfl (hb.there (i * 37 + 4) 1 (by omega))) (hK _ hB2 (Keep.setCell (Keep.refl (· = g) w) (fun _ => rfl) _) (by simp [World.setCell]))
set_option maxRecDepth 100000 in
theorem off_out (w : World) (p : Nat) (X : Trds) (n : Int) (b : Bool) (hB : Blk w p 51 X.cells) (ht : X.there n = false) : Gives 14 #[.pointer (some ⟨p, 0, none⟩), .int .i64 n, .bool b] w (.eq (.bool false)) := by
  refine gives_eq ?_
  have HB := Lib.hid hB
  have HT := Lib.hid ht
  clear hB ht
  go_enter Try.func14, Try.ntmps14
  go_upto_region 1 with fail
  refine wp_text 4 [.eq (.pointer (some ⟨p, 0, none⟩)), .eq (.int .i64 n), .eq (.bool false), .eq (.bool true)] rfl (by kernel_rfl) ?_ ?_
  · refine sv 1 rfl rfl rfl (fun a u hE hD hk => exec_move (.tmp 0) _ rfl (hE 0 (.pointer (some ⟨p, 0, none⟩)) (by kernel_rfl) (by kernel_rfl))) ?_
    refine sv 2 rfl rfl rfl (fun a u hE hD hk => exec_move (.tmp 1) _ rfl (hE 1 (.int .i64 n) (by kernel_rfl) (by kernel_rfl))) ?_
    refine fsteps_cons 3 rfl (fun a u hE hD hk => f_call (o := ⟨some 9, _, _, _, _, _⟩) 17 #[.pointer (some ⟨p, 0, none⟩), .int .i64 n] rfl (wanted_none rfl _) (exec_call 17 _ [.tmp 7, .tmp 8] _ [.pointer (some ⟨p, 0, none⟩), .int .i64 n] Try.func17 (by kernel_rfl) (by kernel_rfl) rfl (show [a.eval (.tmp 7), a.eval (.tmp 8)] = [.pointer (some ⟨p, 0, none⟩), .int .i64 n] from (by rw [show a.eval (.tmp 7) = .pointer (some ⟨p, 0, none⟩) from (hD 0 7 (by kernel_rfl)), show a.eval (.tmp 8) = .int .i64 n from (hD 1 8 (by kernel_rfl))] <;> rfl)) u) (by rw [← HT.out]; exact there_any u p X _ (HB.out.kept hk))) ?_
    refine sv 4 rfl rfl rfl (fun a u hE hD hk => exec_not _ (.tmp 9) false rfl (hD 2 9 (by kernel_rfl))) ?_
    exact fsteps_nil
  intro gv w1 hV k1
  rw [show dstsOf _ 4 = [7, 8, 9, 10] by kernel_rfl]
  simp only [List.foldl_cons, List.foldl_nil, List.setIfInBounds_toArray, List.set_cons_succ, List.set_cons_zero, List.drop_succ_cons, List.drop_zero]
  rw [show gv 10 = .bool true from hV 3 10 (by kernel_rfl)]
  clear hV
  refine wpList_nil ?_
  go_wp2
  go_ret
  exact ⟨rfl, k1⟩
set_option maxRecDepth 100000 in
theorem off_any (w : World) (p : Nat) (X : Trds) (n : Int) (b : Bool) (hB : Blk w p 51 X.cells) : Calls Try.prog 14 #[.pointer (some ⟨p, 0, none⟩), .int .i64 n, .bool b] w fun e w' => e = .returned (.bool (X.there n)) ∧ Blk w' p 51 (X.offM n b).cells ∧ Keep (· = p) w w' := by
  cases ht : X.there n with
  | false =>
    refine (off_out w p X n b hB ht).mono ?_
    rintro e w' ⟨v, rfl, hv, hk⟩
    obtain rfl : v = .bool false := hv
    rw [offM_out ht]
    exact ⟨rfl, hB.kept hk, hk.mono (fun _ _ h => h.elim)⟩
  | true =>
    obtain ⟨i, hi, rfl⟩ := there_lt ht
    have HB := Lib.hid hB
    have HT := Lib.hid ht
    have HV := Lib.hid (offM_in (b := b) ht)
    clear hB ht
    go_enter Try.func14, Try.ntmps14
    go_upto_region 1 with fail
    refine wp_text 4 [.eq (.pointer (some ⟨p, 0, none⟩)), .eq (.int .i64 (i : Int)), .eq (.bool true), .eq (.bool false)] rfl (by kernel_rfl) ?_ ?_
    · refine sv 1 rfl rfl rfl (fun a u hE hD hk => exec_move (.tmp 0) _ rfl (hE 0 (.pointer (some ⟨p, 0, none⟩)) (by kernel_rfl) (by kernel_rfl))) ?_
      refine sv 2 rfl rfl rfl (fun a u hE hD hk => exec_move (.tmp 1) _ rfl (hE 1 (.int .i64 (i : Int)) (by kernel_rfl) (by kernel_rfl))) ?_
      refine fsteps_cons 3 rfl (fun a u hE hD hk => f_call (o := ⟨some 9, _, _, _, _, _⟩) 17 #[.pointer (some ⟨p, 0, none⟩), .int .i64 (i : Int)] rfl (wanted_none rfl _) (exec_call 17 _ [.tmp 7, .tmp 8] _ [.pointer (some ⟨p, 0, none⟩), .int .i64 (i : Int)] Try.func17 (by kernel_rfl) (by kernel_rfl) rfl (show [a.eval (.tmp 7), a.eval (.tmp 8)] = [.pointer (some ⟨p, 0, none⟩), .int .i64 (i : Int)] from (by rw [show a.eval (.tmp 7) = .pointer (some ⟨p, 0, none⟩) from (hD 0 7 (by kernel_rfl)), show a.eval (.tmp 8) = .int .i64 (i : Int) from (hD 1 8 (by kernel_rfl))] <;> rfl)) u) (by rw [← HT.out]; exact there_any u p X _ (HB.out.kept hk))) ?_
      refine sv 4 rfl rfl rfl (fun a u hE hD hk => exec_not _ (.tmp 9) true rfl (hD 2 9 (by kernel_rfl))) ?_
      exact fsteps_nil
    intro gv w1 hV k1
    rw [show dstsOf _ 4 = [7, 8, 9, 10] by kernel_rfl]
    simp only [List.foldl_cons, List.foldl_nil, List.setIfInBounds_toArray, List.set_cons_succ, List.set_cons_zero, List.drop_succ_cons, List.drop_zero]
    rw [show gv 10 = .bool false from hV 3 10 (by kernel_rfl)]
    clear hV
    refine wpList_nil ?_
    have HB1 := Lib.hid (HB.out.kept k1)
    go_upto_region 3 with fail
    refine wp_text 7 [.eq (.pointer (some ⟨p, 0, none⟩)), .eq (.int .i64 (i : Int)), .eq (.bool b), .eq (.pointer (some ⟨p, 0, none⟩)), .eq (.pointer (some ⟨p, 0, none⟩)), .eq (.pointer (some ⟨p, i * 37, none⟩)), .eq (.pointer (some ⟨p, i * 37 + 4, none⟩))] rfl (by kernel_rfl) ?_ ?_
    · refine sv 1 rfl rfl rfl (fun a u hE hD hk => exec_move (.tmp 0) _ rfl (hE 0 (.pointer (some ⟨p, 0, none⟩)) (by kernel_rfl) (by kernel_rfl))) ?_
      refine sv 2 rfl rfl rfl (fun a u hE hD hk => exec_move (.tmp 1) _ rfl (hE 1 (.int .i64 (i : Int)) (by kernel_rfl) (by kernel_rfl))) ?_
      refine sv 3 rfl rfl rfl (fun a u hE hD hk => exec_move (.tmp 2) _ rfl (hE 2 (.bool b) (by kernel_rfl) (by kernel_rfl))) ?_
      refine sv 4 rfl rfl rfl (fun a u hE hD hk => exec_nilp (.tmp 11) ⟨p, 0, none⟩ rfl (hD 0 11 (by kernel_rfl))) ?_
      refine sv 5 rfl rfl rfl (fun a u hE hD hk => exec_fldo 51 0 0 (.tmp 14) (p) (0) (0) rfl (hD 3 14 (by kernel_rfl)) (by kernel_rfl) rfl) ?_
      refine sv 6 rfl rfl rfl (fun a u hE hD hk => exec_ixA (.tmp 15) (.tmp 12) (p) i ((i : Int)) rfl (hD 4 15 (by kernel_rfl)) (hD 1 12 (by kernel_rfl)) (by first | rfl | omega) (hi)) ?_
      refine sv 7 rfl rfl rfl (fun a u hE hD hk => exec_fldo 25 4 4 (.tmp 16) (p) (i * 37) (i * 37 + 4) rfl (hD 5 16 (by kernel_rfl)) (by kernel_rfl) rfl) ?_
      exact fsteps_nil
    intro gv w2 hV k2
    rw [show dstsOf _ 7 = [11, 12, 13, 14, 15, 16, 17] by kernel_rfl]
    simp only [List.foldl_cons, List.foldl_nil, List.setIfInBounds_toArray, List.set_cons_succ, List.set_cons_zero, List.drop_succ_cons, List.drop_zero]
    rw [show gv 17 = .pointer (some ⟨p, i * 37 + 4, none⟩) from hV 6 17 (by kernel_rfl)]
    rw [show gv 13 = .bool b from hV 2 13 (by kernel_rfl)]
    clear hV
    refine l_putOff (o := ⟨none, _, _, _, _, _⟩) p i 51 X b (.tmp 17) (.tmp 13) rfl rfl (by kernel_rfl) (by kernel_rfl) (HB1.out.kept k2) hi ?_
    intro w3 hB3 hk3 hs3
    simp only [Act.put]
    refine wpList_nil ?_
    rw [← HV.out] at hB3
    have HB3 := Lib.hid hB3
    have kw3 : Keep (· = p) w w3 := ((k1.trans k2).mono (fun _ _ h => h.elim)).trans hk3 (fun _ _ h => h)
    clear hB3 hk3 hs3 HB1 k1 k2
    go_wp2
    go_ret
    exact ⟨rfl, HB3.out, kw3⟩
set_option maxRecDepth 100000 in
theorem roff_out (w : World) (p : Nat) (X : Trds) (n : Int) (b : Bool) (hB : Blk w p 42 X.cells) (ht : X.there n = false) : Gives 15 #[.pointer (some ⟨p, 0, none⟩), .int .i64 n, .bool b] w (.eq (.bool false)) := by
  refine gives_eq ?_
  have HB := Lib.hid hB
  have HT := Lib.hid ht
  clear hB ht
  go_enter Try.func15, Try.ntmps15
  go_upto_region 1 with fail
  refine wp_text 4 [.eq (.pointer (some ⟨p, 0, none⟩)), .eq (.int .i64 n), .eq (.bool false), .eq (.bool true)] rfl (by kernel_rfl) ?_ ?_
  · refine sv 1 rfl rfl rfl (fun a u hE hD hk => exec_move (.tmp 0) _ rfl (hE 0 (.pointer (some ⟨p, 0, none⟩)) (by kernel_rfl) (by kernel_rfl))) ?_
    refine sv 2 rfl rfl rfl (fun a u hE hD hk => exec_move (.tmp 1) _ rfl (hE 1 (.int .i64 n) (by kernel_rfl) (by kernel_rfl))) ?_
    refine fsteps_cons 3 rfl (fun a u hE hD hk => f_call (o := ⟨some 9, _, _, _, _, _⟩) 16 #[.pointer (some ⟨p, 0, none⟩), .int .i64 n] rfl (wanted_none rfl _) (exec_call 16 _ [.tmp 7, .tmp 8] _ [.pointer (some ⟨p, 0, none⟩), .int .i64 n] Try.func16 (by kernel_rfl) (by kernel_rfl) rfl (show [a.eval (.tmp 7), a.eval (.tmp 8)] = [.pointer (some ⟨p, 0, none⟩), .int .i64 n] from (by rw [show a.eval (.tmp 7) = .pointer (some ⟨p, 0, none⟩) from (hD 0 7 (by kernel_rfl)), show a.eval (.tmp 8) = .int .i64 n from (hD 1 8 (by kernel_rfl))] <;> rfl)) u) (by rw [← HT.out]; exact rthere_any u p X _ (HB.out.kept hk))) ?_
    refine sv 4 rfl rfl rfl (fun a u hE hD hk => exec_not _ (.tmp 9) false rfl (hD 2 9 (by kernel_rfl))) ?_
    exact fsteps_nil
  intro gv w1 hV k1
  rw [show dstsOf _ 4 = [7, 8, 9, 10] by kernel_rfl]
  simp only [List.foldl_cons, List.foldl_nil, List.setIfInBounds_toArray, List.set_cons_succ, List.set_cons_zero, List.drop_succ_cons, List.drop_zero]
  rw [show gv 10 = .bool true from hV 3 10 (by kernel_rfl)]
  clear hV
  refine wpList_nil ?_
  go_wp2
  go_ret
  exact ⟨rfl, k1⟩
set_option maxRecDepth 100000 in
theorem roff_any (w : World) (p : Nat) (X : Trds) (n : Int) (b : Bool) (hB : Blk w p 42 X.cells) : Calls Try.prog 15 #[.pointer (some ⟨p, 0, none⟩), .int .i64 n, .bool b] w fun e w' => e = .returned (.bool (X.there n)) ∧ Blk w' p 42 (X.offM n b).cells ∧ Keep (· = p) w w' := by
  cases ht : X.there n with
  | false =>
    refine (roff_out w p X n b hB ht).mono ?_
    rintro e w' ⟨v, rfl, hv, hk⟩
    obtain rfl : v = .bool false := hv
    rw [offM_out ht]
    exact ⟨rfl, hB.kept hk, hk.mono (fun _ _ h => h.elim)⟩
  | true =>
    obtain ⟨i, hi, rfl⟩ := there_lt ht
    have HB := Lib.hid hB
    have HT := Lib.hid ht
    have HV := Lib.hid (offM_in (b := b) ht)
    clear hB ht
    go_enter Try.func15, Try.ntmps15
    go_upto_region 1 with fail
    refine wp_text 4 [.eq (.pointer (some ⟨p, 0, none⟩)), .eq (.int .i64 (i : Int)), .eq (.bool true), .eq (.bool false)] rfl (by kernel_rfl) ?_ ?_
    · refine sv 1 rfl rfl rfl (fun a u hE hD hk => exec_move (.tmp 0) _ rfl (hE 0 (.pointer (some ⟨p, 0, none⟩)) (by kernel_rfl) (by kernel_rfl))) ?_
      refine sv 2 rfl rfl rfl (fun a u hE hD hk => exec_move (.tmp 1) _ rfl (hE 1 (.int .i64 (i : Int)) (by kernel_rfl) (by kernel_rfl))) ?_
      refine fsteps_cons 3 rfl (fun a u hE hD hk => f_call (o := ⟨some 9, _, _, _, _, _⟩) 16 #[.pointer (some ⟨p, 0, none⟩), .int .i64 (i : Int)] rfl (wanted_none rfl _) (exec_call 16 _ [.tmp 7, .tmp 8] _ [.pointer (some ⟨p, 0, none⟩), .int .i64 (i : Int)] Try.func16 (by kernel_rfl) (by kernel_rfl) rfl (show [a.eval (.tmp 7), a.eval (.tmp 8)] = [.pointer (some ⟨p, 0, none⟩), .int .i64 (i : Int)] from (by rw [show a.eval (.tmp 7) = .pointer (some ⟨p, 0, none⟩) from (hD 0 7 (by kernel_rfl)), show a.eval (.tmp 8) = .int .i64 (i : Int) from (hD 1 8 (by kernel_rfl))] <;> rfl)) u) (by rw [← HT.out]; exact rthere_any u p X _ (HB.out.kept hk))) ?_
      refine sv 4 rfl rfl rfl (fun a u hE hD hk => exec_not _ (.tmp 9) true rfl (hD 2 9 (by kernel_rfl))) ?_
      exact fsteps_nil
    intro gv w1 hV k1
    rw [show dstsOf _ 4 = [7, 8, 9, 10] by kernel_rfl]
    simp only [List.foldl_cons, List.foldl_nil, List.setIfInBounds_toArray, List.set_cons_succ, List.set_cons_zero, List.drop_succ_cons, List.drop_zero]
    rw [show gv 10 = .bool false from hV 3 10 (by kernel_rfl)]
    clear hV
    refine wpList_nil ?_
    have HB1 := Lib.hid (HB.out.kept k1)
    go_upto_region 3 with fail
    refine wp_text 7 [.eq (.pointer (some ⟨p, 0, none⟩)), .eq (.int .i64 (i : Int)), .eq (.bool b), .eq (.pointer (some ⟨p, 0, none⟩)), .eq (.pointer (some ⟨p, 0, none⟩)), .eq (.pointer (some ⟨p, i * 37, none⟩)), .eq (.pointer (some ⟨p, i * 37 + 4, none⟩))] rfl (by kernel_rfl) ?_ ?_
    · refine sv 1 rfl rfl rfl (fun a u hE hD hk => exec_move (.tmp 0) _ rfl (hE 0 (.pointer (some ⟨p, 0, none⟩)) (by kernel_rfl) (by kernel_rfl))) ?_
      refine sv 2 rfl rfl rfl (fun a u hE hD hk => exec_move (.tmp 1) _ rfl (hE 1 (.int .i64 (i : Int)) (by kernel_rfl) (by kernel_rfl))) ?_
      refine sv 3 rfl rfl rfl (fun a u hE hD hk => exec_move (.tmp 2) _ rfl (hE 2 (.bool b) (by kernel_rfl) (by kernel_rfl))) ?_
      refine sv 4 rfl rfl rfl (fun a u hE hD hk => exec_nilp (.tmp 11) ⟨p, 0, none⟩ rfl (hD 0 11 (by kernel_rfl))) ?_
      refine sv 5 rfl rfl rfl (fun a u hE hD hk => exec_fldo 42 0 0 (.tmp 14) (p) (0) (0) rfl (hD 3 14 (by kernel_rfl)) (by kernel_rfl) rfl) ?_
      refine sv 6 rfl rfl rfl (fun a u hE hD hk => exec_ixA (.tmp 15) (.tmp 12) (p) i ((i : Int)) rfl (hD 4 15 (by kernel_rfl)) (hD 1 12 (by kernel_rfl)) (by first | rfl | omega) (hi)) ?_
      refine sv 7 rfl rfl rfl (fun a u hE hD hk => exec_fldo 25 4 4 (.tmp 16) (p) (i * 37) (i * 37 + 4) rfl (hD 5 16 (by kernel_rfl)) (by kernel_rfl) rfl) ?_
      exact fsteps_nil
    intro gv w2 hV k2
    rw [show dstsOf _ 7 = [11, 12, 13, 14, 15, 16, 17] by kernel_rfl]
    simp only [List.foldl_cons, List.foldl_nil, List.setIfInBounds_toArray, List.set_cons_succ, List.set_cons_zero, List.drop_succ_cons, List.drop_zero]
    rw [show gv 17 = .pointer (some ⟨p, i * 37 + 4, none⟩) from hV 6 17 (by kernel_rfl)]
    rw [show gv 13 = .bool b from hV 2 13 (by kernel_rfl)]
    clear hV
    refine l_putOff (o := ⟨none, _, _, _, _, _⟩) p i 42 X b (.tmp 17) (.tmp 13) rfl rfl (by kernel_rfl) (by kernel_rfl) (HB1.out.kept k2) hi ?_
    intro w3 hB3 hk3 hs3
    simp only [Act.put]
    refine wpList_nil ?_
    rw [← HV.out] at hB3
    have HB3 := Lib.hid hB3
    have kw3 : Keep (· = p) w w3 := ((k1.trans k2).mono (fun _ _ h => h.elim)).trans hk3 (fun _ _ h => h)
    clear hB3 hk3 hs3 HB1 k1 k2
    go_wp2
    go_ret
    exact ⟨rfl, HB3.out, kw3⟩
def rsetP (X : Trds) (s : Int) (n i : Nat) : Bool := decide ((X.at_ i).roles ≠ 0) && ((decide ((i : Int) = (n : Int)) || (decide (s = 3) && decide ((X.at_ i).firm = (X.at_ n).firm))) || ((decide (s = 2) && decide ((X.at_ i).firm = (X.at_ n).firm)) && decide ((X.at_ i).desk = (X.at_ n).desk)))
theorem setM_one (p : Nat → Bool) (n k : Nat) (h : ∀ i, i < k → p i = decide (i = n)) (hn : n < k) : setM p k = 2 ^ n := by
  apply Nat.eq_of_testBit_eq
  intro i
  rw [setM_bit, Nat.testBit_two_pow]
  by_cases hi : i < k
  · rw [h i hi, decide_eq_true hi, Bool.true_and]
    rw [Bool.eq_iff_iff]
    simp only [decide_eq_true_eq]
    exact ⟨fun h => h.symm, fun h => h.symm⟩
  · rw [decide_eq_false hi, Bool.false_and, decide_eq_false (by omega)]
theorem rset_is (X : Trds) (s : Int) (n : Nat) (hn : n < 32) (ht : X.there (n : Int) = true) (hs : s = 1 ∨ s = 2 ∨ s = 3) : setM (rsetP X s n) 32 = X.setB (n : Int) s := by
  rw [setB_in ht]
  have hr : (X.at_ n).roles ≠ 0 := by
    rw [there_in hn] at ht
    simpa using ht
  rcases hs with rfl | rfl | rfl
  · rw [if_pos rfl]
    refine setM_one _ n 32 (fun i hi => ?_) hn
    unfold rsetP
    by_cases h : i = n
    · subst h
      simp [hr]
    · simp [h, show ¬ (i : Int) = (n : Int) by omega]
  · rw [if_neg (by omega), if_pos rfl]
    refine setM_ext fun i hi => ?_
    unfold rsetP setP deskB
    rw [there_in hi]
    by_cases h : i = n
    · subst h
      simp [hr]
    · simp [show ¬ (i : Int) = (n : Int) by omega]
  · rw [if_neg (by omega), if_neg (by omega), if_pos rfl]
    refine setM_ext fun i hi => ?_
    unfold rsetP setP firmB
    rw [there_in hi]
    by_cases h : i = n
    · subst h
      simp [hr]
    · simp [show ¬ (i : Int) = (n : Int) by omega]
theorem setB_bad {X : Trds} {n s : Int} (h : ¬ (s = 1 ∨ s = 2 ∨ s = 3)) : X.setB n s = 0 := by
  unfold Trds.setB
  rw [if_neg (fun e => h (.inl e)), if_neg (fun e => h (.inr (.inl e))), if_neg (fun e => h (.inr (.inr e)))]
  split <;> rfl
set_option maxRecDepth 100000 in
set_option maxHeartbeats 3200000 in
theorem rset_any (w : World) (p : Nat) (X : Trds) (n s : Int) (hB : Blk w p 42 X.cells) : Gives 19 #[.pointer (some ⟨p, 0, none⟩), .int .i64 n, .int .i64 s] w (.eq (.int .u64 ((X.setB n s : Nat) : Int))) := by
  refine gives_eq ?_
  have HB := Lib.hid hB
  clear hB
  cases ht : X.there n with
  | false =>
    have HT := Lib.hid ht
    clear ht
    have HV := Lib.hid (setB_out (s := s) HT.out)
    go_enter Try.func19, Try.ntmps19
    go_upto_region 1 with fail
    refine wp_text 12 [.eq (.pointer (some ⟨p, 0, none⟩)), .eq (.int .i64 n), .eq (.bool false), .eq (.bool true), .eq (.bool true), .eq undef, .eq undef, .eq (.bool true), .eq (.bool true), .eq undef, .eq undef, .eq (.bool true)] rfl (by kernel_rfl) ?_ ?_
    · refine sv 1 rfl rfl rfl (fun a u hE hD hk => exec_move (.tmp 0) _ rfl (hE 0 (.pointer (some ⟨p, 0, none⟩)) (by kernel_rfl) (by kernel_rfl))) ?_
      refine sv 2 rfl rfl rfl (fun a u hE hD hk => exec_move (.tmp 1) _ rfl (hE 1 (.int .i64 n) (by kernel_rfl) (by kernel_rfl))) ?_
      refine fsteps_cons 3 rfl (fun a u hE hD hk => f_call (o := ⟨some 12, _, _, _, _, _⟩) 16 #[.pointer (some ⟨p, 0, none⟩), .int .i64 n] rfl (wanted_none rfl _) (exec_call 16 _ [.tmp 10, .tmp 11] _ [.pointer (some ⟨p, 0, none⟩), .int .i64 n] Try.func16 (by kernel_rfl) (by kernel_rfl) rfl (show [a.eval (.tmp 10), a.eval (.tmp 11)] = [.pointer (some ⟨p, 0, none⟩), .int .i64 n] from (by rw [show a.eval (.tmp 10) = .pointer (some ⟨p, 0, none⟩) from (hD 0 10 (by kernel_rfl)), show a.eval (.tmp 11) = .int .i64 n from (hD 1 11 (by kernel_rfl))] <;> rfl)) u) (by rw [← HT.out]; exact rthere_any u p X _ (HB.out.kept hk))) ?_
      refine sv 4 rfl rfl rfl (fun a u hE hD hk => exec_not _ (.tmp 12) false rfl (hD 2 12 (by kernel_rfl))) ?_
      refine sv 5 rfl rfl rfl (fun a u hE hD hk => exec_move (.tmp 13) _ rfl (hD 3 13 (by kernel_rfl))) ?_
      refine fsteps_cons 6 rfl (fun a u hE hD hk => f_skip (o := ⟨some 15, _, _, _, _, _⟩) rfl (wanted_at (b := false) true rfl rfl (hD 4 14 (by kernel_rfl))) rfl) ?_
      refine fsteps_cons 7 rfl (fun a u hE hD hk => f_skip (o := ⟨some 16, _, _, _, _, _⟩) rfl (wanted_at (b := false) true rfl rfl (hD 4 14 (by kernel_rfl))) rfl) ?_
      refine sv 8 rfl rfl rfl (fun a u hE hD hk => exec_pick (.tmp 14) (.const (.bool true)) (.tmp 16) (.bool true) rfl (hD 4 14 (by kernel_rfl)) rfl) ?_
      refine sv 9 rfl rfl rfl (fun a u hE hD hk => exec_move (.tmp 17) _ rfl (hD 7 17 (by kernel_rfl))) ?_
      refine fsteps_cons 10 rfl (fun a u hE hD hk => f_skip (o := ⟨some 19, _, _, _, _, _⟩) rfl (wanted_at (b := false) true rfl rfl (hD 8 18 (by kernel_rfl))) rfl) ?_
      refine fsteps_cons 11 rfl (fun a u hE hD hk => f_skip (o := ⟨some 20, _, _, _, _, _⟩) rfl (wanted_at (b := false) true rfl rfl (hD 8 18 (by kernel_rfl))) rfl) ?_
      refine sv 12 rfl rfl rfl (fun a u hE hD hk => exec_pick (.tmp 18) (.const (.bool true)) (.tmp 20) (.bool true) rfl (hD 8 18 (by kernel_rfl)) rfl) ?_
      exact fsteps_nil
    intro gv w1 hV k1
    rw [show dstsOf _ 12 = [10, 11, 12, 13, 14, 15, 16, 17, 18, 19, 20, 21] by kernel_rfl]
    simp only [List.foldl_cons, List.foldl_nil, List.setIfInBounds_toArray, List.set_cons_succ, List.set_cons_zero, List.drop_succ_cons, List.drop_zero]
    rw [show gv 21 = .bool true from hV 11 21 (by kernel_rfl)]
    clear hV
    refine wpList_nil ?_
    go_wp2
    go_ret
    rw [HV.out]
    exact ⟨rfl, k1⟩
  | true =>
    by_cases hs : s = 1 ∨ s = 2 ∨ s = 3
    · obtain ⟨n, hn, rfl⟩ := there_lt ht
      have HV := Lib.hid (rset_is X s n hn ht hs)
      have HT := Lib.hid ht
      clear ht
      rw [← HV.out]
      obtain ⟨S, hS⟩ : ∃ S : Nat → Nat, ∀ k, S k = setM (rsetP X s n) k := ⟨fun k => setM (rsetP X s n) k, fun _ => rfl⟩
      have HS := Lib.hid hS
      rw [← hS 32]
      clear hS HV
      have hs1 : 1 ≤ s ∧ s ≤ 3 := by omega
      clear hs
      go_enter Try.func19, Try.ntmps19
      go_upto_region 1 with fail
      refine wp_text 12 [.eq (.pointer (some ⟨p, 0, none⟩)), .eq (.int .i64 (n : Int)), .eq (.bool true), .eq (.bool false), .eq (.bool false), .eq (.int .i64 s), .eq (.bool false), .eq (.bool false), .eq (.bool false), .eq (.int .i64 s), .eq (.bool false), .eq (.bool false)] rfl (by kernel_rfl) ?_ ?_
      · refine sv 1 rfl rfl rfl (fun a u hE hD hk => exec_move (.tmp 0) _ rfl (hE 0 (.pointer (some ⟨p, 0, none⟩)) (by kernel_rfl) (by kernel_rfl))) ?_
        refine sv 2 rfl rfl rfl (fun a u hE hD hk => exec_move (.tmp 1) _ rfl (hE 1 (.int .i64 (n : Int)) (by kernel_rfl) (by kernel_rfl))) ?_
        refine fsteps_cons 3 rfl (fun a u hE hD hk => f_call (o := ⟨some 12, _, _, _, _, _⟩) 16 #[.pointer (some ⟨p, 0, none⟩), .int .i64 (n : Int)] rfl (wanted_none rfl _) (exec_call 16 _ [.tmp 10, .tmp 11] _ [.pointer (some ⟨p, 0, none⟩), .int .i64 (n : Int)] Try.func16 (by kernel_rfl) (by kernel_rfl) rfl (show [a.eval (.tmp 10), a.eval (.tmp 11)] = [.pointer (some ⟨p, 0, none⟩), .int .i64 (n : Int)] from (by rw [show a.eval (.tmp 10) = .pointer (some ⟨p, 0, none⟩) from (hD 0 10 (by kernel_rfl)), show a.eval (.tmp 11) = .int .i64 (n : Int) from (hD 1 11 (by kernel_rfl))] <;> rfl)) u) (by rw [← HT.out]; exact rthere_any u p X _ (HB.out.kept hk))) ?_
        refine sv 4 rfl rfl rfl (fun a u hE hD hk => exec_not _ (.tmp 12) true rfl (hD 2 12 (by kernel_rfl))) ?_
        refine sv 5 rfl rfl rfl (fun a u hE hD hk => exec_move (.tmp 13) _ rfl (hD 3 13 (by kernel_rfl))) ?_
        refine fsteps_cons 6 rfl (fun a u hE hD hk => f_val (o := ⟨some 15, _, _, _, _, _⟩) (.int .i64 s) rfl (wanted_at (b := false) false rfl rfl (hD 4 14 (by kernel_rfl))) (exec_move (.tmp 2) _ rfl (hE 2 (.int .i64 s) (by kernel_rfl) (by kernel_rfl))) rfl) ?_
        refine fsteps_cons 7 rfl (fun a u hE hD hk => f_as (show ((decide ((s : Int) < (1 : Int))) : Bool) = false from decide_eq_false (by omega)) (f_val (o := ⟨some 16, _, _, _, _, _⟩) (.bool (decide ((s : Int) < (1 : Int)))) rfl (wanted_at (b := false) false rfl rfl (hD 4 14 (by kernel_rfl))) (exec_ltn (p := s) (q := 1) rfl (hD 5 15 (by kernel_rfl)) rfl) rfl)) ?_
        refine sv 8 rfl rfl rfl (fun a u hE hD hk => exec_pickF (.tmp 14) (.const (.bool true)) (.tmp 16) (.bool false) rfl (hD 4 14 (by kernel_rfl)) (hD 6 16 (by kernel_rfl))) ?_
        refine sv 9 rfl rfl rfl (fun a u hE hD hk => exec_move (.tmp 17) _ rfl (hD 7 17 (by kernel_rfl))) ?_
        refine fsteps_cons 10 rfl (fun a u hE hD hk => f_val (o := ⟨some 19, _, _, _, _, _⟩) (.int .i64 s) rfl (wanted_at (b := false) false rfl rfl (hD 8 18 (by kernel_rfl))) (exec_move (.tmp 2) _ rfl (hE 2 (.int .i64 s) (by kernel_rfl) (by kernel_rfl))) rfl) ?_
        refine fsteps_cons 11 rfl (fun a u hE hD hk => f_as (show ((decide ((3 : Int) < (s : Int))) : Bool) = false from decide_eq_false (by omega)) (f_val (o := ⟨some 20, _, _, _, _, _⟩) (.bool (decide ((3 : Int) < (s : Int)))) rfl (wanted_at (b := false) false rfl rfl (hD 8 18 (by kernel_rfl))) (exec_gtn (p := s) (q := 3) rfl (hD 9 19 (by kernel_rfl)) rfl) rfl)) ?_
        refine sv 12 rfl rfl rfl (fun a u hE hD hk => exec_pickF (.tmp 18) (.const (.bool true)) (.tmp 20) (.bool false) rfl (hD 8 18 (by kernel_rfl)) (hD 10 20 (by kernel_rfl))) ?_
        exact fsteps_nil
      intro gv w1 hV k1
      rw [show dstsOf _ 12 = [10, 11, 12, 13, 14, 15, 16, 17, 18, 19, 20, 21] by kernel_rfl]
      simp only [List.foldl_cons, List.foldl_nil, List.setIfInBounds_toArray, List.set_cons_succ, List.set_cons_zero, List.drop_succ_cons, List.drop_zero]
      rw [show gv 21 = .bool false from hV 11 21 (by kernel_rfl)]
      clear hV
      refine wpList_nil ?_
      have HB1 := Lib.hid (HB.out.kept k1)
      go_upto_region 4 with fail
      refine wp_text 5 [.eq (.pointer (some ⟨p, 0, none⟩)), .eq (.pointer (some ⟨p, 0, none⟩)), .eq (.pointer (some ⟨p, 0, none⟩)), .eq (X.v), .eq (.int .i64 0)] rfl (by kernel_rfl) ?_ ?_
      · refine sv 1 rfl rfl rfl (fun a u hE hD hk => exec_move (.tmp 0) _ rfl (hE 0 (.pointer (some ⟨p, 0, none⟩)) (by kernel_rfl) (by kernel_rfl))) ?_
        refine sv 2 rfl rfl rfl (fun a u hE hD hk => exec_nilp (.tmp 22) ⟨p, 0, none⟩ rfl (hD 0 22 (by kernel_rfl))) ?_
        refine sv 3 rfl rfl rfl (fun a u hE hD hk => exec_fldo 42 0 0 (.tmp 23) (p) (0) (0) rfl (hD 1 23 (by kernel_rfl)) (by kernel_rfl) rfl) ?_
        refine sv 4 rfl rfl rfl (fun a u hE hD hk => exec_ldX X (.tmp 24) (p) _ rfl (hD 2 24 (by kernel_rfl)) (HB1.out.kept hk)) ?_
        refine sv 5 rfl rfl rfl (fun a u hE hD hk => exec_move (.const (.int .i64 0)) _ rfl rfl) ?_
        exact fsteps_nil
      intro gv w2 hV k2
      rw [show dstsOf _ 5 = [22, 23, 24, 25, 26] by kernel_rfl]
      simp only [List.foldl_cons, List.foldl_nil, List.setIfInBounds_toArray, List.set_cons_succ, List.set_cons_zero, List.drop_succ_cons, List.drop_zero]
      rw [show gv 25 = X.v from hV 3 25 (by kernel_rfl)]
      rw [show gv 26 = .int .i64 0 from hV 4 26 (by kernel_rfl)]
      clear hV
      refine wpList_nil ?_
      have k02 := k1.trans k2
      clear HB1 k1 k2
      go_wp2_with fail
      go_loopw [26, 7] (fun t z wr => ∃ i : Nat, i ≤ 32 ∧ t = .int .i64 (i : Int) ∧ z = .int .u64 ((S i : Nat) : Int) ∧ Kept w wr) (fun t _ _ => 32 - (intOf t).toNat)
      case atStart =>
        refine ⟨0, by omega, rfl, ?_, k02⟩
        rw [HS.out 0]
        rfl
      case round =>
        obtain ⟨i, hi', rfl, rfl, hkr⟩ := hrel
        by_cases hi : i < 32
        · have HBr := Lib.hid (HB.out.kept hkr)
          go_upto_region 6 with fail
          refine wp_text 2 [.eq (.int .i64 (i : Int)), .eq ((X.at_ i).v)] rfl (by kernel_rfl) ?_ ?_
          · refine sv 1 rfl rfl rfl (fun a u hE hD hk => exec_move (.tmp 26) _ rfl (hE 26 (.int .i64 (i : Int)) (by kernel_rfl) (by kernel_rfl))) ?_
            refine sv 2 rfl rfl rfl (fun a u hE hD hk => exec_ixV X i ((i : Int)) (.tmp 25) (.tmp 26) rfl (hE 25 (X.v) (by kernel_rfl) (by kernel_rfl)) (hE 26 (.int .i64 (i : Int)) (by kernel_rfl) (by kernel_rfl)) (by first | rfl | omega) (hi)) ?_
            exact fsteps_nil
          intro gv wa hV ka
          rw [show dstsOf _ 2 = [28, 29] by kernel_rfl]
          simp only [List.foldl_cons, List.foldl_nil, List.setIfInBounds_toArray, List.set_cons_succ, List.set_cons_zero, List.drop_succ_cons, List.drop_zero]
          rw [show gv 28 = .int .i64 (i : Int) from hV 0 28 (by kernel_rfl)]
          rw [show gv 29 = (X.at_ i).v from hV 1 29 (by kernel_rfl)]
          clear hV
          refine l_new (o := ⟨some 9, _, _, _, _, _⟩) (.pointer (some ⟨wa.heap.size, 0, none⟩)) (wa.alloc (.cells zeroT.cells.toArray 25)) rfl (exec_alc 25 zeroT.cells rfl zT) ?_
          have hNa := Blk.new wa 25 zeroT.cells
          have kb : Kept wa (wa.alloc (.cells zeroT.cells.toArray 25)) := (Keep.refl _ wa).alloc _
          generalize wa.alloc (.cells zeroT.cells.toArray 25) = wb at hNa kb ⊢
          simp only [Act.put, List.setIfInBounds_toArray, List.set_cons_succ, List.set_cons_zero]
          refine l_val (o := ⟨some 8, _, _, _, _, _⟩) (.int .i64 (i : Int)) rfl (exec_assign (.tmp 28) (.int .i64 (i : Int)) rfl (by kernel_rfl)) ?_
          simp only [Act.put, List.setIfInBounds_toArray, List.set_cons_succ, List.set_cons_zero]
          refine l_setS (o := ⟨none, _, _, _, _, _⟩) 25 wa.heap.size 25 zeroT.cells (X.at_ i).cells (.tmp 9) (.tmp 29) rfl rfl (by kernel_rfl) (by kernel_rfl) hNa (by rw [Trd.len37]; exact szT) (by rw [Trd.len37, Trd.len37]) (Trd.one _) ?_
          intro wc hCwc hkwc hswc
          simp only [Act.put]
          refine wpList_nil ?_
          obtain ⟨gx, hgx⟩ : ∃ a, wa.heap.size = a := ⟨_, rfl⟩
          rw [hgx] at hNa hCwc hkwc ⊢
          have zka := ka.size
          have kwc : Kept wr wc := (ka.trans kb).trans' hkwc (by omega)
          have HXwc := Lib.hid (blk_range hCwc)
          clear hNa hCwc hkwc hswc kb ka
          have HBc := Lib.hid (HBr.out.kept kwc)
          clear HBr
          have hSi : S (i + 1) = if rsetP X s n i = true then S i ||| 2 ^ i else S i := by rw [HS.out, HS.out]; rfl
          have hSl : S i < 18446744073709551616 := by
            rw [HS.out]
            exact Nat.lt_of_lt_of_le (setM_lt _ i) (Nat.le_trans (pow32 (by omega)) (by omega))
          have HSl := Lib.hid hSl
          by_cases hr : (X.at_ i).roles = 0
          · have HR := Lib.hid hr
            have HSi : Hid (S (i + 1) = S i) := by
              show _ = _
              rw [hSi, if_neg (by unfold rsetP; rw [hr]; simp)]
            clear hSi hr hSl HSl
            go_upto_region 7 with fail
            refine wp_text 3 [.eq (.pointer (some ⟨gx, 2, none⟩)), .eq (.int .i64 (X.at_ i).roles), .eq (.bool true)] rfl (by kernel_rfl) ?_ ?_
            · refine sv 1 rfl rfl rfl (fun a u hE hD hk => exec_fldo 25 2 2 (.tmp 9) (gx) (0) (2) rfl (hE 9 (.pointer (some ⟨gx, 0, none⟩)) (by kernel_rfl) (by kernel_rfl)) (by kernel_rfl) rfl) ?_
              refine sv 2 rfl rfl rfl (fun a u hE hD hk => exec_loadi 3 Try.underlying3 (.tmp 30) ⟨gx, 2, none⟩ (.int .i64 (X.at_ i).roles) rfl (hD 0 30 (by kernel_rfl)) ((range_kept (HXwc.out) hk) 2 _ rfl)) ?_
              refine fsteps_cons 3 rfl (fun a u hE hD hk => f_as (show ((decide (((X.at_ i).roles : Int) = (0 : Int))) : Bool) = true from decide_eq_true HR.out) (f_val (o := ⟨some 32, _, _, _, _, _⟩) (.bool (decide (((X.at_ i).roles : Int) = (0 : Int)))) rfl (wanted_none rfl _) (exec_eqn (p := (X.at_ i).roles) (q := 0) rfl (hD 1 31 (by kernel_rfl)) rfl) rfl)) ?_
              exact fsteps_nil
            intro gv wd hV kd
            rw [show dstsOf _ 3 = [30, 31, 32] by kernel_rfl]
            simp only [List.foldl_cons, List.foldl_nil, List.setIfInBounds_toArray, List.set_cons_succ, List.set_cons_zero, List.drop_succ_cons, List.drop_zero]
            rw [show gv 32 = .bool true from hV 2 32 (by kernel_rfl)]
            clear hV
            refine wpList_nil ?_
            have kwe := (hkr.trans kwc).trans kd
            clear HXwc HBc kwc kd
            go_wp2
            refine ⟨⟨i + 1, by omega, by simp, ?_, kwe⟩, by simp [intOf]; omega⟩
            rw [HSi.out]
          · have HR := Lib.hid hr
            go_upto_region 7 with fail
            refine wp_text 3 [.eq (.pointer (some ⟨gx, 2, none⟩)), .eq (.int .i64 (X.at_ i).roles), .eq (.bool false)] rfl (by kernel_rfl) ?_ ?_
            · refine sv 1 rfl rfl rfl (fun a u hE hD hk => exec_fldo 25 2 2 (.tmp 9) (gx) (0) (2) rfl (hE 9 (.pointer (some ⟨gx, 0, none⟩)) (by kernel_rfl) (by kernel_rfl)) (by kernel_rfl) rfl) ?_
              refine sv 2 rfl rfl rfl (fun a u hE hD hk => exec_loadi 3 Try.underlying3 (.tmp 30) ⟨gx, 2, none⟩ (.int .i64 (X.at_ i).roles) rfl (hD 0 30 (by kernel_rfl)) ((range_kept (HXwc.out) hk) 2 _ rfl)) ?_
              refine fsteps_cons 3 rfl (fun a u hE hD hk => f_as (show ((decide (((X.at_ i).roles : Int) = (0 : Int))) : Bool) = false from decide_eq_false HR.out) (f_val (o := ⟨some 32, _, _, _, _, _⟩) (.bool (decide (((X.at_ i).roles : Int) = (0 : Int)))) rfl (wanted_none rfl _) (exec_eqn (p := (X.at_ i).roles) (q := 0) rfl (hD 1 31 (by kernel_rfl)) rfl) rfl)) ?_
              exact fsteps_nil
            intro gv wd hV kd
            rw [show dstsOf _ 3 = [30, 31, 32] by kernel_rfl]
            simp only [List.foldl_cons, List.foldl_nil, List.setIfInBounds_toArray, List.set_cons_succ, List.set_cons_zero, List.drop_succ_cons, List.drop_zero]
            rw [show gv 32 = .bool false from hV 2 32 (by kernel_rfl)]
            clear hV
            refine wpList_nil ?_
            have HXd := Lib.hid (range_kept HXwc.out kd)
            have HBd := Lib.hid (HBc.out.kept kd)
            obtain ⟨b, hb⟩ : ∃ b : Bool, rsetP X s n i = b := ⟨_, rfl⟩
            have HPb := Lib.hid hb
            rw [hb] at hSi
            have HPe : Hid (((decide ((i : Int) = (n : Int)) || (decide (s = 3) && decide ((X.at_ i).firm = (X.at_ n).firm))) || ((decide (s = 2) && decide ((X.at_ i).firm = (X.at_ n).firm)) && decide ((X.at_ i).desk = (X.at_ n).desk))) = b) := by
              show _ = _
              rw [← hb]
              unfold rsetP
              rw [decide_eq_true hr, Bool.true_and]
            clear hr hb
            go_upto_region 8 with fail
            refine wp_free 47 [.eq (.int .i64 (i : Int)), .eq (.int .i64 (n : Int)), .eq (.bool (decide (((i : Int) : Int) = ((n : Int) : Int)))), .eq (.bool (decide (((i : Int) : Int) = ((n : Int) : Int)))), .cond (!(decide (((i : Int) : Int) = ((n : Int) : Int)))) (.eq (.int .i64 s)), .cond (!(decide (((i : Int) : Int) = ((n : Int) : Int)))) (.eq (.bool (decide ((s : Int) = (3 : Int))))), .cond (!(decide (((i : Int) : Int) = ((n : Int) : Int)))) (.eq (.bool (decide ((s : Int) = (3 : Int))))), .cond ((!(decide (((i : Int) : Int) = ((n : Int) : Int)))) && (decide ((s : Int) = (3 : Int)))) (.eq (.pointer (some ⟨gx, 0, none⟩))), .cond ((!(decide (((i : Int) : Int) = ((n : Int) : Int)))) && (decide ((s : Int) = (3 : Int)))) (.eq (.int .i64 (X.at_ i).firm)), .cond ((!(decide (((i : Int) : Int) = ((n : Int) : Int)))) && (decide ((s : Int) = (3 : Int)))) (.eq (.pointer (some ⟨p, 0, none⟩))), .cond ((!(decide (((i : Int) : Int) = ((n : Int) : Int)))) && (decide ((s : Int) = (3 : Int)))) (.eq (.int .i64 (n : Int))), .cond ((!(decide (((i : Int) : Int) = ((n : Int) : Int)))) && (decide ((s : Int) = (3 : Int)))) (.eq (.pointer (some ⟨p, 0, none⟩))), .cond ((!(decide (((i : Int) : Int) = ((n : Int) : Int)))) && (decide ((s : Int) = (3 : Int)))) (.eq (.pointer (some ⟨p, 0, none⟩))), .cond ((!(decide (((i : Int) : Int) = ((n : Int) : Int)))) && (decide ((s : Int) = (3 : Int)))) (.eq (.pointer (some ⟨p, n * 37, none⟩))), .cond ((!(decide (((i : Int) : Int) = ((n : Int) : Int)))) && (decide ((s : Int) = (3 : Int)))) (.eq (.pointer (some ⟨p, n * 37, none⟩))), .cond ((!(decide (((i : Int) : Int) = ((n : Int) : Int)))) && (decide ((s : Int) = (3 : Int)))) (.eq (.int .i64 (X.at_ n).firm)), .cond ((!(decide (((i : Int) : Int) = ((n : Int) : Int)))) && (decide ((s : Int) = (3 : Int)))) (.eq (.bool (decide (((X.at_ i).firm : Int) = ((X.at_ n).firm : Int))))), .cond (!(decide (((i : Int) : Int) = ((n : Int) : Int)))) (.eq (.bool ((decide ((s : Int) = (3 : Int))) && (decide (((X.at_ i).firm : Int) = ((X.at_ n).firm : Int)))))), .eq (.bool ((decide (((i : Int) : Int) = ((n : Int) : Int))) || ((decide ((s : Int) = (3 : Int))) && (decide (((X.at_ i).firm : Int) = ((X.at_ n).firm : Int)))))), .eq (.bool ((decide (((i : Int) : Int) = ((n : Int) : Int))) || ((decide ((s : Int) = (3 : Int))) && (decide (((X.at_ i).firm : Int) = ((X.at_ n).firm : Int)))))), .cond (!((decide (((i : Int) : Int) = ((n : Int) : Int))) || ((decide ((s : Int) = (3 : Int))) && (decide (((X.at_ i).firm : Int) = ((X.at_ n).firm : Int)))))) (.eq (.int .i64 s)), .cond (!((decide (((i : Int) : Int) = ((n : Int) : Int))) || ((decide ((s : Int) = (3 : Int))) && (decide (((X.at_ i).firm : Int) = ((X.at_ n).firm : Int)))))) (.eq (.bool (decide ((s : Int) = (2 : Int))))), .cond (!((decide (((i : Int) : Int) = ((n : Int) : Int))) || ((decide ((s : Int) = (3 : Int))) && (decide (((X.at_ i).firm : Int) = ((X.at_ n).firm : Int)))))) (.eq (.bool (decide ((s : Int) = (2 : Int))))), .cond ((!((decide (((i : Int) : Int) = ((n : Int) : Int))) || ((decide ((s : Int) = (3 : Int))) && (decide (((X.at_ i).firm : Int) = ((X.at_ n).firm : Int)))))) && (decide ((s : Int) = (2 : Int)))) (.eq (.pointer (some ⟨gx, 0, none⟩))), .cond ((!((decide (((i : Int) : Int) = ((n : Int) : Int))) || ((decide ((s : Int) = (3 : Int))) && (decide (((X.at_ i).firm : Int) = ((X.at_ n).firm : Int)))))) && (decide ((s : Int) = (2 : Int)))) (.eq (.int .i64 (X.at_ i).firm)), .cond ((!((decide (((i : Int) : Int) = ((n : Int) : Int))) || ((decide ((s : Int) = (3 : Int))) && (decide (((X.at_ i).firm : Int) = ((X.at_ n).firm : Int)))))) && (decide ((s : Int) = (2 : Int)))) (.eq (.pointer (some ⟨p, 0, none⟩))), .cond ((!((decide (((i : Int) : Int) = ((n : Int) : Int))) || ((decide ((s : Int) = (3 : Int))) && (decide (((X.at_ i).firm : Int) = ((X.at_ n).firm : Int)))))) && (decide ((s : Int) = (2 : Int)))) (.eq (.int .i64 (n : Int))), .cond ((!((decide (((i : Int) : Int) = ((n : Int) : Int))) || ((decide ((s : Int) = (3 : Int))) && (decide (((X.at_ i).firm : Int) = ((X.at_ n).firm : Int)))))) && (decide ((s : Int) = (2 : Int)))) (.eq (.pointer (some ⟨p, 0, none⟩))), .cond ((!((decide (((i : Int) : Int) = ((n : Int) : Int))) || ((decide ((s : Int) = (3 : Int))) && (decide (((X.at_ i).firm : Int) = ((X.at_ n).firm : Int)))))) && (decide ((s : Int) = (2 : Int)))) (.eq (.pointer (some ⟨p, 0, none⟩))), .cond ((!((decide (((i : Int) : Int) = ((n : Int) : Int))) || ((decide ((s : Int) = (3 : Int))) && (decide (((X.at_ i).firm : Int) = ((X.at_ n).firm : Int)))))) && (decide ((s : Int) = (2 : Int)))) (.eq (.pointer (some ⟨p, n * 37, none⟩))), .cond ((!((decide (((i : Int) : Int) = ((n : Int) : Int))) || ((decide ((s : Int) = (3 : Int))) && (decide (((X.at_ i).firm : Int) = ((X.at_ n).firm : Int)))))) && (decide ((s : Int) = (2 : Int)))) (.eq (.pointer (some ⟨p, n * 37, none⟩))), .cond ((!((decide (((i : Int) : Int) = ((n : Int) : Int))) || ((decide ((s : Int) = (3 : Int))) && (decide (((X.at_ i).firm : Int) = ((X.at_ n).firm : Int)))))) && (decide ((s : Int) = (2 : Int)))) (.eq (.int .i64 (X.at_ n).firm)), .cond ((!((decide (((i : Int) : Int) = ((n : Int) : Int))) || ((decide ((s : Int) = (3 : Int))) && (decide (((X.at_ i).firm : Int) = ((X.at_ n).firm : Int)))))) && (decide ((s : Int) = (2 : Int)))) (.eq (.bool (decide (((X.at_ i).firm : Int) = ((X.at_ n).firm : Int))))), .cond (!((decide (((i : Int) : Int) = ((n : Int) : Int))) || ((decide ((s : Int) = (3 : Int))) && (decide (((X.at_ i).firm : Int) = ((X.at_ n).firm : Int)))))) (.eq (.bool ((decide ((s : Int) = (2 : Int))) && (decide (((X.at_ i).firm : Int) = ((X.at_ n).firm : Int)))))), .cond (!((decide (((i : Int) : Int) = ((n : Int) : Int))) || ((decide ((s : Int) = (3 : Int))) && (decide (((X.at_ i).firm : Int) = ((X.at_ n).firm : Int)))))) (.eq (.bool ((decide ((s : Int) = (2 : Int))) && (decide (((X.at_ i).firm : Int) = ((X.at_ n).firm : Int)))))), .cond ((!((decide (((i : Int) : Int) = ((n : Int) : Int))) || ((decide ((s : Int) = (3 : Int))) && (decide (((X.at_ i).firm : Int) = ((X.at_ n).firm : Int)))))) && ((decide ((s : Int) = (2 : Int))) && (decide (((X.at_ i).firm : Int) = ((X.at_ n).firm : Int))))) (.eq (.pointer (some ⟨gx, 1, none⟩))), .cond ((!((decide (((i : Int) : Int) = ((n : Int) : Int))) || ((decide ((s : Int) = (3 : Int))) && (decide (((X.at_ i).firm : Int) = ((X.at_ n).firm : Int)))))) && ((decide ((s : Int) = (2 : Int))) && (decide (((X.at_ i).firm : Int) = ((X.at_ n).firm : Int))))) (.eq (.int .i64 (X.at_ i).desk)), .cond ((!((decide (((i : Int) : Int) = ((n : Int) : Int))) || ((decide ((s : Int) = (3 : Int))) && (decide (((X.at_ i).firm : Int) = ((X.at_ n).firm : Int)))))) && ((decide ((s : Int) = (2 : Int))) && (decide (((X.at_ i).firm : Int) = ((X.at_ n).firm : Int))))) (.eq (.pointer (some ⟨p, 0, none⟩))), .cond ((!((decide (((i : Int) : Int) = ((n : Int) : Int))) || ((decide ((s : Int) = (3 : Int))) && (decide (((X.at_ i).firm : Int) = ((X.at_ n).firm : Int)))))) && ((decide ((s : Int) = (2 : Int))) && (decide (((X.at_ i).firm : Int) = ((X.at_ n).firm : Int))))) (.eq (.int .i64 (n : Int))), .cond ((!((decide (((i : Int) : Int) = ((n : Int) : Int))) || ((decide ((s : Int) = (3 : Int))) && (decide (((X.at_ i).firm : Int) = ((X.at_ n).firm : Int)))))) && ((decide ((s : Int) = (2 : Int))) && (decide (((X.at_ i).firm : Int) = ((X.at_ n).firm : Int))))) (.eq (.pointer (some ⟨p, 0, none⟩))), .cond ((!((decide (((i : Int) : Int) = ((n : Int) : Int))) || ((decide ((s : Int) = (3 : Int))) && (decide (((X.at_ i).firm : Int) = ((X.at_ n).firm : Int)))))) && ((decide ((s : Int) = (2 : Int))) && (decide (((X.at_ i).firm : Int) = ((X.at_ n).firm : Int))))) (.eq (.pointer (some ⟨p, 0, none⟩))), .cond ((!((decide (((i : Int) : Int) = ((n : Int) : Int))) || ((decide ((s : Int) = (3 : Int))) && (decide (((X.at_ i).firm : Int) = ((X.at_ n).firm : Int)))))) && ((decide ((s : Int) = (2 : Int))) && (decide (((X.at_ i).firm : Int) = ((X.at_ n).firm : Int))))) (.eq (.pointer (some ⟨p, n * 37, none⟩))), .cond ((!((decide (((i : Int) : Int) = ((n : Int) : Int))) || ((decide ((s : Int) = (3 : Int))) && (decide (((X.at_ i).firm : Int) = ((X.at_ n).firm : Int)))))) && ((decide ((s : Int) = (2 : Int))) && (decide (((X.at_ i).firm : Int) = ((X.at_ n).firm : Int))))) (.eq (.pointer (some ⟨p, n * 37 + 1, none⟩))), .cond ((!((decide (((i : Int) : Int) = ((n : Int) : Int))) || ((decide ((s : Int) = (3 : Int))) && (decide (((X.at_ i).firm : Int) = ((X.at_ n).firm : Int)))))) && ((decide ((s : Int) = (2 : Int))) && (decide (((X.at_ i).firm : Int) = ((X.at_ n).firm : Int))))) (.eq (.int .i64 (X.at_ n).desk)), .cond ((!((decide (((i : Int) : Int) = ((n : Int) : Int))) || ((decide ((s : Int) = (3 : Int))) && (decide (((X.at_ i).firm : Int) = ((X.at_ n).firm : Int)))))) && ((decide ((s : Int) = (2 : Int))) && (decide (((X.at_ i).firm : Int) = ((X.at_ n).firm : Int))))) (.eq (.bool (decide (((X.at_ i).desk : Int) = ((X.at_ n).desk : Int))))), .cond (!((decide (((i : Int) : Int) = ((n : Int) : Int))) || ((decide ((s : Int) = (3 : Int))) && (decide (((X.at_ i).firm : Int) = ((X.at_ n).firm : Int)))))) (.eq (.bool (((decide ((s : Int) = (2 : Int))) && (decide (((X.at_ i).firm : Int) = ((X.at_ n).firm : Int)))) && (decide (((X.at_ i).desk : Int) = ((X.at_ n).desk : Int)))))), .eq (.bool (((decide (((i : Int) : Int) = ((n : Int) : Int))) || ((decide ((s : Int) = (3 : Int))) && (decide (((X.at_ i).firm : Int) = ((X.at_ n).firm : Int))))) || (((decide ((s : Int) = (2 : Int))) && (decide (((X.at_ i).firm : Int) = ((X.at_ n).firm : Int)))) && (decide (((X.at_ i).desk : Int) = ((X.at_ n).desk : Int))))))] (by kernel_rfl) rfl (by kernel_rfl) ?_ ?_
            · refine sv 1 rfl rfl rfl (fun a u hE hD hk => exec_move (.tmp 8) _ rfl (hE 8 (.int .i64 (i : Int)) (by kernel_rfl) (by kernel_rfl))) ?_
              refine sv 2 rfl rfl rfl (fun a u hE hD hk => exec_move (.tmp 1) _ rfl (hE 1 (.int .i64 (n : Int)) (by kernel_rfl) (by kernel_rfl))) ?_
              refine sv 3 rfl rfl rfl (fun a u hE hD hk => exec_eqn (p := (i : Int)) (q := (n : Int)) rfl (hD 0 33 (by kernel_rfl)) (hD 1 34 (by kernel_rfl))) ?_
              refine sv 4 rfl rfl rfl (fun a u hE hD hk => exec_move (.tmp 35) _ rfl (hD 2 35 (by kernel_rfl))) ?_
              refine fsteps_cons 5 rfl (fun a u hE hD hk => f_unless ((decide (((i : Int) : Int) = ((n : Int) : Int)))) rfl rfl rfl (hD 3 36 (by kernel_rfl)) (fun hb => f_val (o := ⟨some 37, _, _, _, _, _⟩) (.int .i64 s) rfl (wanted_b rfl rfl (hD 3 36 (by kernel_rfl)) (eq_false_of hb)) (exec_move (.tmp 2) _ rfl (hE 2 (.int .i64 s) (by kernel_rfl) (by kernel_rfl))) rfl)) ?_
              refine fsteps_cons 6 rfl (fun a u hE hD hk => f_unless ((decide (((i : Int) : Int) = ((n : Int) : Int)))) rfl rfl rfl (hD 3 36 (by kernel_rfl)) (fun hb => f_val (o := ⟨some 38, _, _, _, _, _⟩) (.bool (decide ((s : Int) = (3 : Int)))) rfl (wanted_b rfl rfl (hD 3 36 (by kernel_rfl)) (eq_false_of hb)) (exec_eqn (p := s) (q := 3) rfl ((hD 4 37 (by kernel_rfl)).1 hb) rfl) rfl)) ?_
              refine fsteps_cons 7 rfl (fun a u hE hD hk => f_unless ((decide (((i : Int) : Int) = ((n : Int) : Int)))) rfl rfl rfl (hD 3 36 (by kernel_rfl)) (fun hb => f_val (o := ⟨some 39, _, _, _, _, _⟩) (.bool (decide ((s : Int) = (3 : Int)))) rfl (wanted_b rfl rfl (hD 3 36 (by kernel_rfl)) (eq_false_of hb)) (exec_move (.tmp 38) _ rfl ((hD 5 38 (by kernel_rfl)).1 hb)) rfl)) ?_
              refine fsteps_cons 8 rfl (fun a u hE hD hk => f_if2 (!(decide (((i : Int) : Int) = ((n : Int) : Int)))) ((decide ((s : Int) = (3 : Int)))) rfl rfl rfl (hD 6 39 (by kernel_rfl)) (fun hb => f_val (o := ⟨some 40, _, _, _, _, _⟩) (.pointer (some ⟨gx, 0, none⟩)) rfl (wanted_b rfl rfl ((hD 6 39 (by kernel_rfl)).1 (and_l hb)) (eq_true_of (and_r hb))) (exec_fldo 25 0 0 (.tmp 9) (gx) (0) (0) rfl (hE 9 (.pointer (some ⟨gx, 0, none⟩)) (by kernel_rfl) (by kernel_rfl)) (by kernel_rfl) rfl) rfl)) ?_
              refine fsteps_cons 9 rfl (fun a u hE hD hk => f_if2 (!(decide (((i : Int) : Int) = ((n : Int) : Int)))) ((decide ((s : Int) = (3 : Int)))) rfl rfl rfl (hD 6 39 (by kernel_rfl)) (fun hb => f_val (o := ⟨some 41, _, _, _, _, _⟩) (.int .i64 (X.at_ i).firm) rfl (wanted_b rfl rfl ((hD 6 39 (by kernel_rfl)).1 (and_l hb)) (eq_true_of (and_r hb))) (exec_loadi 3 Try.underlying3 (.tmp 40) ⟨gx, 0, none⟩ (.int .i64 (X.at_ i).firm) rfl ((hD 7 40 (by kernel_rfl)).1 hb) ((range_kept (HXd.out) hk) 0 _ rfl)) rfl)) ?_
              refine fsteps_cons 10 rfl (fun a u hE hD hk => f_if2 (!(decide (((i : Int) : Int) = ((n : Int) : Int)))) ((decide ((s : Int) = (3 : Int)))) rfl rfl rfl (hD 6 39 (by kernel_rfl)) (fun hb => f_val (o := ⟨some 42, _, _, _, _, _⟩) (.pointer (some ⟨p, 0, none⟩)) rfl (wanted_b rfl rfl ((hD 6 39 (by kernel_rfl)).1 (and_l hb)) (eq_true_of (and_r hb))) (exec_move (.tmp 0) _ rfl (hE 0 (.pointer (some ⟨p, 0, none⟩)) (by kernel_rfl) (by kernel_rfl))) rfl)) ?_
              refine fsteps_cons 11 rfl (fun a u hE hD hk => f_if2 (!(decide (((i : Int) : Int) = ((n : Int) : Int)))) ((decide ((s : Int) = (3 : Int)))) rfl rfl rfl (hD 6 39 (by kernel_rfl)) (fun hb => f_val (o := ⟨some 43, _, _, _, _, _⟩) (.int .i64 (n : Int)) rfl (wanted_b rfl rfl ((hD 6 39 (by kernel_rfl)).1 (and_l hb)) (eq_true_of (and_r hb))) (exec_move (.tmp 1) _ rfl (hE 1 (.int .i64 (n : Int)) (by kernel_rfl) (by kernel_rfl))) rfl)) ?_
              refine fsteps_cons 12 rfl (fun a u hE hD hk => f_if2 (!(decide (((i : Int) : Int) = ((n : Int) : Int)))) ((decide ((s : Int) = (3 : Int)))) rfl rfl rfl (hD 6 39 (by kernel_rfl)) (fun hb => f_val (o := ⟨some 44, _, _, _, _, _⟩) (.pointer (some ⟨p, 0, none⟩)) rfl (wanted_b rfl rfl ((hD 6 39 (by kernel_rfl)).1 (and_l hb)) (eq_true_of (and_r hb))) (exec_nilp (.tmp 42) ⟨p, 0, none⟩ rfl ((hD 9 42 (by kernel_rfl)).1 hb)) rfl)) ?_
              refine fsteps_cons 13 rfl (fun a u hE hD hk => f_if2 (!(decide (((i : Int) : Int) = ((n : Int) : Int)))) ((decide ((s : Int) = (3 : Int)))) rfl rfl rfl (hD 6 39 (by kernel_rfl)) (fun hb => f_val (o := ⟨some 45, _, _, _, _, _⟩) (.pointer (some ⟨p, 0, none⟩)) rfl (wanted_b rfl rfl ((hD 6 39 (by kernel_rfl)).1 (and_l hb)) (eq_true_of (and_r hb))) (exec_fldo 42 0 0 (.tmp 44) (p) (0) (0) rfl ((hD 11 44 (by kernel_rfl)).1 hb) (by kernel_rfl) rfl) rfl)) ?_
              refine fsteps_cons 14 rfl (fun a u hE hD hk => f_if2 (!(decide (((i : Int) : Int) = ((n : Int) : Int)))) ((decide ((s : Int) = (3 : Int)))) rfl rfl rfl (hD 6 39 (by kernel_rfl)) (fun hb => f_val (o := ⟨some 46, _, _, _, _, _⟩) (.pointer (some ⟨p, n * 37, none⟩)) rfl (wanted_b rfl rfl ((hD 6 39 (by kernel_rfl)).1 (and_l hb)) (eq_true_of (and_r hb))) (exec_ixA (.tmp 45) (.tmp 43) (p) n ((n : Int)) rfl ((hD 12 45 (by kernel_rfl)).1 hb) ((hD 10 43 (by kernel_rfl)).1 hb) (by first | rfl | omega) (hn)) rfl)) ?_
              refine fsteps_cons 15 rfl (fun a u hE hD hk => f_if2 (!(decide (((i : Int) : Int) = ((n : Int) : Int)))) ((decide ((s : Int) = (3 : Int)))) rfl rfl rfl (hD 6 39 (by kernel_rfl)) (fun hb => f_val (o := ⟨some 47, _, _, _, _, _⟩) (.pointer (some ⟨p, n * 37, none⟩)) rfl (wanted_b rfl rfl ((hD 6 39 (by kernel_rfl)).1 (and_l hb)) (eq_true_of (and_r hb))) (exec_fldo 25 0 0 (.tmp 46) (p) (n * 37) (n * 37) rfl ((hD 13 46 (by kernel_rfl)).1 hb) (by kernel_rfl) rfl) rfl)) ?_
              refine fsteps_cons 16 rfl (fun a u hE hD hk => f_if2 (!(decide (((i : Int) : Int) = ((n : Int) : Int)))) ((decide ((s : Int) = (3 : Int)))) rfl rfl rfl (hD 6 39 (by kernel_rfl)) (fun hb => f_val (o := ⟨some 48, _, _, _, _, _⟩) (.int .i64 (X.at_ n).firm) rfl (wanted_b rfl rfl ((hD 6 39 (by kernel_rfl)).1 (and_l hb)) (eq_true_of (and_r hb))) (exec_loadi 3 Try.underlying3 (.tmp 47) ⟨p, n * 37, none⟩ (.int .i64 (X.at_ n).firm) rfl ((hD 14 47 (by kernel_rfl)).1 hb) ((range_kept ((trds_range HBd.out hn)) hk) 0 _ rfl)) rfl)) ?_
              refine fsteps_cons 17 rfl (fun a u hE hD hk => f_if2 (!(decide (((i : Int) : Int) = ((n : Int) : Int)))) ((decide ((s : Int) = (3 : Int)))) rfl rfl rfl (hD 6 39 (by kernel_rfl)) (fun hb => f_val (o := ⟨some 49, _, _, _, _, _⟩) (.bool (decide (((X.at_ i).firm : Int) = ((X.at_ n).firm : Int)))) rfl (wanted_b rfl rfl ((hD 6 39 (by kernel_rfl)).1 (and_l hb)) (eq_true_of (and_r hb))) (exec_eqn (p := (X.at_ i).firm) (q := (X.at_ n).firm) rfl ((hD 8 41 (by kernel_rfl)).1 hb) ((hD 15 48 (by kernel_rfl)).1 hb)) rfl)) ?_
              refine fsteps_cons 18 rfl (fun a u hE hD hk => f_unless ((decide (((i : Int) : Int) = ((n : Int) : Int)))) rfl rfl rfl (hD 3 36 (by kernel_rfl)) (fun hb => f_val (o := ⟨some 50, _, _, _, _, _⟩) (.bool ((decide ((s : Int) = (3 : Int))) && (decide (((X.at_ i).firm : Int) = ((X.at_ n).firm : Int))))) rfl (wanted_b rfl rfl (hD 3 36 (by kernel_rfl)) (eq_false_of hb)) (exec_pickand (.tmp 39) (.tmp 49) (.const (.bool false)) ((decide ((s : Int) = (3 : Int)))) ((decide (((X.at_ i).firm : Int) = ((X.at_ n).firm : Int)))) rfl ((hD 6 39 (by kernel_rfl)).1 hb) (fun hb2 => ((hD 16 49 (by kernel_rfl)).1 (and_mk hb hb2))) rfl) rfl)) ?_
              refine sv 19 rfl rfl rfl (fun a u hE hD hk => exec_pickor (.tmp 36) (.const (.bool true)) (.tmp 50) ((decide (((i : Int) : Int) = ((n : Int) : Int)))) (((decide ((s : Int) = (3 : Int))) && (decide (((X.at_ i).firm : Int) = ((X.at_ n).firm : Int))))) rfl (hD 3 36 (by kernel_rfl)) rfl (fun hb2 => ((hD 17 50 (by kernel_rfl)).1 hb2))) ?_
              refine sv 20 rfl rfl rfl (fun a u hE hD hk => exec_move (.tmp 51) _ rfl (hD 18 51 (by kernel_rfl))) ?_
              refine fsteps_cons 21 rfl (fun a u hE hD hk => f_unless (((decide (((i : Int) : Int) = ((n : Int) : Int))) || ((decide ((s : Int) = (3 : Int))) && (decide (((X.at_ i).firm : Int) = ((X.at_ n).firm : Int)))))) rfl rfl rfl (hD 19 52 (by kernel_rfl)) (fun hb => f_val (o := ⟨some 53, _, _, _, _, _⟩) (.int .i64 s) rfl (wanted_b rfl rfl (hD 19 52 (by kernel_rfl)) (eq_false_of hb)) (exec_move (.tmp 2) _ rfl (hE 2 (.int .i64 s) (by kernel_rfl) (by kernel_rfl))) rfl)) ?_
              refine fsteps_cons 22 rfl (fun a u hE hD hk => f_unless (((decide (((i : Int) : Int) = ((n : Int) : Int))) || ((decide ((s : Int) = (3 : Int))) && (decide (((X.at_ i).firm : Int) = ((X.at_ n).firm : Int)))))) rfl rfl rfl (hD 19 52 (by kernel_rfl)) (fun hb => f_val (o := ⟨some 54, _, _, _, _, _⟩) (.bool (decide ((s : Int) = (2 : Int)))) rfl (wanted_b rfl rfl (hD 19 52 (by kernel_rfl)) (eq_false_of hb)) (exec_eqn (p := s) (q := 2) rfl ((hD 20 53 (by kernel_rfl)).1 hb) rfl) rfl)) ?_
              refine fsteps_cons 23 rfl (fun a u hE hD hk => f_unless (((decide (((i : Int) : Int) = ((n : Int) : Int))) || ((decide ((s : Int) = (3 : Int))) && (decide (((X.at_ i).firm : Int) = ((X.at_ n).firm : Int)))))) rfl rfl rfl (hD 19 52 (by kernel_rfl)) (fun hb => f_val (o := ⟨some 55, _, _, _, _, _⟩) (.bool (decide ((s : Int) = (2 : Int)))) rfl (wanted_b rfl rfl (hD 19 52 (by kernel_rfl)) (eq_false_of hb)) (exec_move (.tmp 54) _ rfl ((hD 21 54 (by kernel_rfl)).1 hb)) rfl)) ?_
              refine fsteps_cons 24 rfl (fun a u hE hD hk => f_if2 (!((decide (((i : Int) : Int) = ((n : Int) : Int))) || ((decide ((s : Int) = (3 : Int))) && (decide (((X.at_ i).firm : Int) = ((X.at_ n).firm : Int)))))) ((decide ((s : Int) = (2 : Int)))) rfl rfl rfl (hD 22 55 (by kernel_rfl)) (fun hb => f_val (o := ⟨some 56, _, _, _, _, _⟩) (.pointer (some ⟨gx, 0, none⟩)) rfl (wanted_b rfl rfl ((hD 22 55 (by kernel_rfl)).1 (and_l hb)) (eq_true_of (and_r hb))) (exec_fldo 25 0 0 (.tmp 9) (gx) (0) (0) rfl (hE 9 (.pointer (some ⟨gx, 0, none⟩)) (by kernel_rfl) (by kernel_rfl)) (by kernel_rfl) rfl) rfl)) ?_
              refine fsteps_cons 25 rfl (fun a u hE hD hk => f_if2 (!((decide (((i : Int) : Int) = ((n : Int) : Int))) || ((decide ((s : Int) = (3 : Int))) && (decide (((X.at_ i).firm : Int) = ((X.at_ n).firm : Int)))))) ((decide ((s : Int) = (2 : Int)))) rfl rfl rfl (hD 22 55 (by kernel_rfl)) (fun hb => f_val (o := ⟨some 57, _, _, _, _, _⟩) (.int .i64 (X.at_ i).firm) rfl (wanted_b rfl rfl ((hD 22 55 (by kernel_rfl)).1 (and_l hb)) (eq_true_of (and_r hb))) (exec_loadi 3 Try.underlying3 (.tmp 56) ⟨gx, 0, none⟩ (.int .i64 (X.at_ i).firm) rfl ((hD 23 56 (by kernel_rfl)).1 hb) ((range_kept (HXd.out) hk) 0 _ rfl)) rfl)) ?_
              refine fsteps_cons 26 rfl (fun a u hE hD hk => f_if2 (!((decide (((i : Int) : Int) = ((n : Int) : Int))) || ((decide ((s : Int) = (3 : Int))) && (decide (((X.at_ i).firm : Int) = ((X.at_ n).firm : Int)))))) ((decide ((s : Int) = (2 : Int)))) rfl rfl rfl (hD 22 55 (by kernel_rfl)) (fun hb => f_val (o := ⟨some 58, _, _, _, _, _⟩) (.pointer (some ⟨p, 0, none⟩)) rfl (wanted_b rfl rfl ((hD 22 55 (by kernel_rfl)).1 (and_l hb)) (eq_true_of (and_r hb))) (exec_move (.tmp 0) _ rfl (hE 0 (.pointer (some ⟨p, 0, none⟩)) (by kernel_rfl) (by kernel_rfl))) rfl)) ?_
              refine fsteps_cons 27 rfl (fun a u hE hD hk => f_if2 (!((decide (((i : Int) : Int) = ((n : Int) : Int))) || ((decide ((s : Int) = (3 : Int))) && (decide (((X.at_ i).firm : Int) = ((X.at_ n).firm : Int)))))) ((decide ((s : Int) = (2 : Int)))) rfl rfl rfl (hD 22 55 (by kernel_rfl)) (fun hb => f_val (o := ⟨some 59, _, _, _, _, _⟩) (.int .i64 (n : Int)) rfl (wanted_b rfl rfl ((hD 22 55 (by kernel_rfl)).1 (and_l hb)) (eq_true_of (and_r hb))) (exec_move (.tmp 1) _ rfl (hE 1 (.int .i64 (n : Int)) (by kernel_rfl) (by kernel_rfl))) rfl)) ?_
              refine fsteps_cons 28 rfl (fun a u hE hD hk => f_if2 (!((decide (((i : Int) : Int) = ((n : Int) : Int))) || ((decide ((s : Int) = (3 : Int))) && (decide (((X.at_ i).firm : Int) = ((X.at_ n).firm : Int)))))) ((decide ((s : Int) = (2 : Int)))) rfl rfl rfl (hD 22 55 (by kernel_rfl)) (fun hb => f_val (o := ⟨some 60, _, _, _, _, _⟩) (.pointer (some ⟨p, 0, none⟩)) rfl (wanted_b rfl rfl ((hD 22 55 (by kernel_rfl)).1 (and_l hb)) (eq_true_of (and_r hb))) (exec_nilp (.tmp 58) ⟨p, 0, none⟩ rfl ((hD 25 58 (by kernel_rfl)).1 hb)) rfl)) ?_
              refine fsteps_cons 29 rfl (fun a u hE hD hk => f_if2 (!((decide (((i : Int) : Int) = ((n : Int) : Int))) || ((decide ((s : Int) = (3 : Int))) && (decide (((X.at_ i).firm : Int) = ((X.at_ n).firm : Int)))))) ((decide ((s : Int) = (2 : Int)))) rfl rfl rfl (hD 22 55 (by kernel_rfl)) (fun hb => f_val (o := ⟨some 61, _, _, _, _, _⟩) (.pointer (some ⟨p, 0, none⟩)) rfl (wanted_b rfl rfl ((hD 22 55 (by kernel_rfl)).1 (and_l hb)) (eq_true_of (and_r hb))) (exec_fldo 42 0 0 (.tmp 60) (p) (0) (0) rfl ((hD 27 60 (by kernel_rfl)).1 hb) (by kernel_rfl) rfl) rfl)) ?_
              refine fsteps_cons 30 rfl (fun a u hE hD hk => f_if2 (!((decide (((i : Int) : Int) = ((n : Int) : Int))) || ((decide ((s : Int) = (3 : Int))) && (decide (((X.at_ i).firm : Int) = ((X.at_ n).firm : Int)))))) ((decide ((s : Int) = (2 : Int)))) rfl rfl rfl (hD 22 55 (by kernel_rfl)) (fun hb => f_val (o := ⟨some 62, _, _, _, _, _⟩) (.pointer (some ⟨p, n * 37, none⟩)) rfl (wanted_b rfl rfl ((hD 22 55 (by kernel_rfl)).1 (and_l hb)) (eq_true_of (and_r hb))) (exec_ixA (.tmp 61) (.tmp 59) (p) n ((n : Int)) rfl ((hD 28 61 (by kernel_rfl)).1 hb) ((hD 26 59 (by kernel_rfl)).1 hb) (by first | rfl | omega) (hn)) rfl)) ?_
              refine fsteps_cons 31 rfl (fun a u hE hD hk => f_if2 (!((decide (((i : Int) : Int) = ((n : Int) : Int))) || ((decide ((s : Int) = (3 : Int))) && (decide (((X.at_ i).firm : Int) = ((X.at_ n).firm : Int)))))) ((decide ((s : Int) = (2 : Int)))) rfl rfl rfl (hD 22 55 (by kernel_rfl)) (fun hb => f_val (o := ⟨some 63, _, _, _, _, _⟩) (.pointer (some ⟨p, n * 37, none⟩)) rfl (wanted_b rfl rfl ((hD 22 55 (by kernel_rfl)).1 (and_l hb)) (eq_true_of (and_r hb))) (exec_fldo 25 0 0 (.tmp 62) (p) (n * 37) (n * 37) rfl ((hD 29 62 (by kernel_rfl)).1 hb) (by kernel_rfl) rfl) rfl)) ?_
              refine fsteps_cons 32 rfl (fun a u hE hD hk => f_if2 (!((decide (((i : Int) : Int) = ((n : Int) : Int))) || ((decide ((s : Int) = (3 : Int))) && (decide (((X.at_ i).firm : Int) = ((X.at_ n).firm : Int)))))) ((decide ((s : Int) = (2 : Int)))) rfl rfl rfl (hD 22 55 (by kernel_rfl)) (fun hb => f_val (o := ⟨some 64, _, _, _, _, _⟩) (.int .i64 (X.at_ n).firm) rfl (wanted_b rfl rfl ((hD 22 55 (by kernel_rfl)).1 (and_l hb)) (eq_true_of (and_r hb))) (exec_loadi 3 Try.underlying3 (.tmp 63) ⟨p, n * 37, none⟩ (.int .i64 (X.at_ n).firm) rfl ((hD 30 63 (by kernel_rfl)).1 hb) ((range_kept ((trds_range HBd.out hn)) hk) 0 _ rfl)) rfl)) ?_
              refine fsteps_cons 33 rfl (fun a u hE hD hk => f_if2 (!((decide (((i : Int) : Int) = ((n : Int) : Int))) || ((decide ((s : Int) = (3 : Int))) && (decide (((X.at_ i).firm : Int) = ((X.at_ n).firm : Int)))))) ((decide ((s : Int) = (2 : Int)))) rfl rfl rfl (hD 22 55 (by kernel_rfl)) (fun hb => f_val (o := ⟨some 65, _, _, _, _, _⟩) (.bool (decide (((X.at_ i).firm : Int) = ((X.at_ n).firm : Int)))) rfl (wanted_b rfl rfl ((hD 22 55 (by kernel_rfl)).1 (and_l hb)) (eq_true_of (and_r hb))) (exec_eqn (p := (X.at_ i).firm) (q := (X.at_ n).firm) rfl ((hD 24 57 (by kernel_rfl)).1 hb) ((hD 31 64 (by kernel_rfl)).1 hb)) rfl)) ?_
              refine fsteps_cons 34 rfl (fun a u hE hD hk => f_unless (((decide (((i : Int) : Int) = ((n : Int) : Int))) || ((decide ((s : Int) = (3 : Int))) && (decide (((X.at_ i).firm : Int) = ((X.at_ n).firm : Int)))))) rfl rfl rfl (hD 19 52 (by kernel_rfl)) (fun hb => f_val (o := ⟨some 66, _, _, _, _, _⟩) (.bool ((decide ((s : Int) = (2 : Int))) && (decide (((X.at_ i).firm : Int) = ((X.at_ n).firm : Int))))) rfl (wanted_b rfl rfl (hD 19 52 (by kernel_rfl)) (eq_false_of hb)) (exec_pickand (.tmp 55) (.tmp 65) (.const (.bool false)) ((decide ((s : Int) = (2 : Int)))) ((decide (((X.at_ i).firm : Int) = ((X.at_ n).firm : Int)))) rfl ((hD 22 55 (by kernel_rfl)).1 hb) (fun hb2 => ((hD 32 65 (by kernel_rfl)).1 (and_mk hb hb2))) rfl) rfl)) ?_
              refine fsteps_cons 35 rfl (fun a u hE hD hk => f_unless (((decide (((i : Int) : Int) = ((n : Int) : Int))) || ((decide ((s : Int) = (3 : Int))) && (decide (((X.at_ i).firm : Int) = ((X.at_ n).firm : Int)))))) rfl rfl rfl (hD 19 52 (by kernel_rfl)) (fun hb => f_val (o := ⟨some 67, _, _, _, _, _⟩) (.bool ((decide ((s : Int) = (2 : Int))) && (decide (((X.at_ i).firm : Int) = ((X.at_ n).firm : Int))))) rfl (wanted_b rfl rfl (hD 19 52 (by kernel_rfl)) (eq_false_of hb)) (exec_move (.tmp 66) _ rfl ((hD 33 66 (by kernel_rfl)).1 hb)) rfl)) ?_
              refine fsteps_cons 36 rfl (fun a u hE hD hk => f_if2 (!((decide (((i : Int) : Int) = ((n : Int) : Int))) || ((decide ((s : Int) = (3 : Int))) && (decide (((X.at_ i).firm : Int) = ((X.at_ n).firm : Int)))))) (((decide ((s : Int) = (2 : Int))) && (decide (((X.at_ i).firm : Int) = ((X.at_ n).firm : Int))))) rfl rfl rfl (hD 34 67 (by kernel_rfl)) (fun hb => f_val (o := ⟨some 68, _, _, _, _, _⟩) (.pointer (some ⟨gx, 1, none⟩)) rfl (wanted_b rfl rfl ((hD 34 67 (by kernel_rfl)).1 (and_l hb)) (eq_true_of (and_r hb))) (exec_fldo 25 1 1 (.tmp 9) (gx) (0) (1) rfl (hE 9 (.pointer (some ⟨gx, 0, none⟩)) (by kernel_rfl) (by kernel_rfl)) (by kernel_rfl) rfl) rfl)) ?_
              refine fsteps_cons 37 rfl (fun a u hE hD hk => f_if2 (!((decide (((i : Int) : Int) = ((n : Int) : Int))) || ((decide ((s : Int) = (3 : Int))) && (decide (((X.at_ i).firm : Int) = ((X.at_ n).firm : Int)))))) (((decide ((s : Int) = (2 : Int))) && (decide (((X.at_ i).firm : Int) = ((X.at_ n).firm : Int))))) rfl rfl rfl (hD 34 67 (by kernel_rfl)) (fun hb => f_val (o := ⟨some 69, _, _, _, _, _⟩) (.int .i64 (X.at_ i).desk) rfl (wanted_b rfl rfl ((hD 34 67 (by kernel_rfl)).1 (and_l hb)) (eq_true_of (and_r hb))) (exec_loadi 3 Try.underlying3 (.tmp 68) ⟨gx, 1, none⟩ (.int .i64 (X.at_ i).desk) rfl ((hD 35 68 (by kernel_rfl)).1 hb) ((range_kept (HXd.out) hk) 1 _ rfl)) rfl)) ?_
              refine fsteps_cons 38 rfl (fun a u hE hD hk => f_if2 (!((decide (((i : Int) : Int) = ((n : Int) : Int))) || ((decide ((s : Int) = (3 : Int))) && (decide (((X.at_ i).firm : Int) = ((X.at_ n).firm : Int)))))) (((decide ((s : Int) = (2 : Int))) && (decide (((X.at_ i).firm : Int) = ((X.at_ n).firm : Int))))) rfl rfl rfl (hD 34 67 (by kernel_rfl)) (fun hb => f_val (o := ⟨some 70, _, _, _, _, _⟩) (.pointer (some ⟨p, 0, none⟩)) rfl (wanted_b rfl rfl ((hD 34 67 (by kernel_rfl)).1 (and_l hb)) (eq_true_of (and_r hb))) (exec_move (.tmp 0) _ rfl (hE 0 (.pointer (some ⟨p, 0, none⟩)) (by kernel_rfl) (by kernel_rfl))) rfl)) ?_
              refine fsteps_cons 39 rfl (fun a u hE hD hk => f_if2 (!((decide (((i : Int) : Int) = ((n : Int) : Int))) || ((decide ((s : Int) = (3 : Int))) && (decide (((X.at_ i).firm : Int) = ((X.at_ n).firm : Int)))))) (((decide ((s : Int) = (2 : Int))) && (decide (((X.at_ i).firm : Int) = ((X.at_ n).firm : Int))))) rfl rfl rfl (hD 34 67 (by kernel_rfl)) (fun hb => f_val (o := ⟨some 71, _, _, _, _, _⟩) (.int .i64 (n : Int)) rfl (wanted_b rfl rfl ((hD 34 67 (by kernel_rfl)).1 (and_l hb)) (eq_true_of (and_r hb))) (exec_move (.tmp 1) _ rfl (hE 1 (.int .i64 (n : Int)) (by kernel_rfl) (by kernel_rfl))) rfl)) ?_
              refine fsteps_cons 40 rfl (fun a u hE hD hk => f_if2 (!((decide (((i : Int) : Int) = ((n : Int) : Int))) || ((decide ((s : Int) = (3 : Int))) && (decide (((X.at_ i).firm : Int) = ((X.at_ n).firm : Int)))))) (((decide ((s : Int) = (2 : Int))) && (decide (((X.at_ i).firm : Int) = ((X.at_ n).firm : Int))))) rfl rfl rfl (hD 34 67 (by kernel_rfl)) (fun hb => f_val (o := ⟨some 72, _, _, _, _, _⟩) (.pointer (some ⟨p, 0, none⟩)) rfl (wanted_b rfl rfl ((hD 34 67 (by kernel_rfl)).1 (and_l hb)) (eq_true_of (and_r hb))) (exec_nilp (.tmp 70) ⟨p, 0, none⟩ rfl ((hD 37 70 (by kernel_rfl)).1 hb)) rfl)) ?_
              refine fsteps_cons 41 rfl (fun a u hE hD hk => f_if2 (!((decide (((i : Int) : Int) = ((n : Int) : Int))) || ((decide ((s : Int) = (3 : Int))) && (decide (((X.at_ i).firm : Int) = ((X.at_ n).firm : Int)))))) (((decide ((s : Int) = (2 : Int))) && (decide (((X.at_ i).firm : Int) = ((X.at_ n).firm : Int))))) rfl rfl rfl (hD 34 67 (by kernel_rfl)) (fun hb => f_val (o := ⟨some 73, _, _, _, _, _⟩) (.pointer (some ⟨p, 0, none⟩)) rfl (wanted_b rfl rfl ((hD 34 67 (by kernel_rfl)).1 (and_l hb)) (eq_true_of (and_r hb))) (exec_fldo 42 0 0 (.tmp 72) (p) (0) (0) rfl ((hD 39 72 (by kernel_rfl)).1 hb) (by kernel_rfl) rfl) rfl)) ?_
              refine fsteps_cons 42 rfl (fun a u hE hD hk => f_if2 (!((decide (((i : Int) : Int) = ((n : Int) : Int))) || ((decide ((s : Int) = (3 : Int))) && (decide (((X.at_ i).firm : Int) = ((X.at_ n).firm : Int)))))) (((decide ((s : Int) = (2 : Int))) && (decide (((X.at_ i).firm : Int) = ((X.at_ n).firm : Int))))) rfl rfl rfl (hD 34 67 (by kernel_rfl)) (fun hb => f_val (o := ⟨some 74, _, _, _, _, _⟩) (.pointer (some ⟨p, n * 37, none⟩)) rfl (wanted_b rfl rfl ((hD 34 67 (by kernel_rfl)).1 (and_l hb)) (eq_true_of (and_r hb))) (exec_ixA (.tmp 73) (.tmp 71) (p) n ((n : Int)) rfl ((hD 40 73 (by kernel_rfl)).1 hb) ((hD 38 71 (by kernel_rfl)).1 hb) (by first | rfl | omega) (hn)) rfl)) ?_
              refine fsteps_cons 43 rfl (fun a u hE hD hk => f_if2 (!((decide (((i : Int) : Int) = ((n : Int) : Int))) || ((decide ((s : Int) = (3 : Int))) && (decide (((X.at_ i).firm : Int) = ((X.at_ n).firm : Int)))))) (((decide ((s : Int) = (2 : Int))) && (decide (((X.at_ i).firm : Int) = ((X.at_ n).firm : Int))))) rfl rfl rfl (hD 34 67 (by kernel_rfl)) (fun hb => f_val (o := ⟨some 75, _, _, _, _, _⟩) (.pointer (some ⟨p, n * 37 + 1, none⟩)) rfl (wanted_b rfl rfl ((hD 34 67 (by kernel_rfl)).1 (and_l hb)) (eq_true_of (and_r hb))) (exec_fldo 25 1 1 (.tmp 74) (p) (n * 37) (n * 37 + 1) rfl ((hD 41 74 (by kernel_rfl)).1 hb) (by kernel_rfl) rfl) rfl)) ?_
              refine fsteps_cons 44 rfl (fun a u hE hD hk => f_if2 (!((decide (((i : Int) : Int) = ((n : Int) : Int))) || ((decide ((s : Int) = (3 : Int))) && (decide (((X.at_ i).firm : Int) = ((X.at_ n).firm : Int)))))) (((decide ((s : Int) = (2 : Int))) && (decide (((X.at_ i).firm : Int) = ((X.at_ n).firm : Int))))) rfl rfl rfl (hD 34 67 (by kernel_rfl)) (fun hb => f_val (o := ⟨some 76, _, _, _, _, _⟩) (.int .i64 (X.at_ n).desk) rfl (wanted_b rfl rfl ((hD 34 67 (by kernel_rfl)).1 (and_l hb)) (eq_true_of (and_r hb))) (exec_loadi 3 Try.underlying3 (.tmp 75) ⟨p, n * 37 + 1, none⟩ (.int .i64 (X.at_ n).desk) rfl ((hD 42 75 (by kernel_rfl)).1 hb) ((range_kept ((trds_range HBd.out hn)) hk) 1 _ rfl)) rfl)) ?_
              refine fsteps_cons 45 rfl (fun a u hE hD hk => f_if2 (!((decide (((i : Int) : Int) = ((n : Int) : Int))) || ((decide ((s : Int) = (3 : Int))) && (decide (((X.at_ i).firm : Int) = ((X.at_ n).firm : Int)))))) (((decide ((s : Int) = (2 : Int))) && (decide (((X.at_ i).firm : Int) = ((X.at_ n).firm : Int))))) rfl rfl rfl (hD 34 67 (by kernel_rfl)) (fun hb => f_val (o := ⟨some 77, _, _, _, _, _⟩) (.bool (decide (((X.at_ i).desk : Int) = ((X.at_ n).desk : Int)))) rfl (wanted_b rfl rfl ((hD 34 67 (by kernel_rfl)).1 (and_l hb)) (eq_true_of (and_r hb))) (exec_eqn (p := (X.at_ i).desk) (q := (X.at_ n).desk) rfl ((hD 36 69 (by kernel_rfl)).1 hb) ((hD 43 76 (by kernel_rfl)).1 hb)) rfl)) ?_
              refine fsteps_cons 46 rfl (fun a u hE hD hk => f_unless (((decide (((i : Int) : Int) = ((n : Int) : Int))) || ((decide ((s : Int) = (3 : Int))) && (decide (((X.at_ i).firm : Int) = ((X.at_ n).firm : Int)))))) rfl rfl rfl (hD 19 52 (by kernel_rfl)) (fun hb => f_val (o := ⟨some 78, _, _, _, _, _⟩) (.bool (((decide ((s : Int) = (2 : Int))) && (decide (((X.at_ i).firm : Int) = ((X.at_ n).firm : Int)))) && (decide (((X.at_ i).desk : Int) = ((X.at_ n).desk : Int))))) rfl (wanted_b rfl rfl (hD 19 52 (by kernel_rfl)) (eq_false_of hb)) (exec_pickand (.tmp 67) (.tmp 77) (.const (.bool false)) (((decide ((s : Int) = (2 : Int))) && (decide (((X.at_ i).firm : Int) = ((X.at_ n).firm : Int))))) ((decide (((X.at_ i).desk : Int) = ((X.at_ n).desk : Int)))) rfl ((hD 34 67 (by kernel_rfl)).1 hb) (fun hb2 => ((hD 44 77 (by kernel_rfl)).1 (and_mk hb hb2))) rfl) rfl)) ?_
              refine sv 47 rfl rfl rfl (fun a u hE hD hk => exec_pickor (.tmp 52) (.const (.bool true)) (.tmp 78) (((decide (((i : Int) : Int) = ((n : Int) : Int))) || ((decide ((s : Int) = (3 : Int))) && (decide (((X.at_ i).firm : Int) = ((X.at_ n).firm : Int)))))) ((((decide ((s : Int) = (2 : Int))) && (decide (((X.at_ i).firm : Int) = ((X.at_ n).firm : Int)))) && (decide (((X.at_ i).desk : Int) = ((X.at_ n).desk : Int))))) rfl (hD 19 52 (by kernel_rfl)) rfl (fun hb2 => ((hD 45 78 (by kernel_rfl)).1 hb2))) ?_
              exact fsteps_nil
            intro gv we hV ke
            rw [show dstsOf _ 47 = [33, 34, 35, 36, 37, 38, 39, 40, 41, 42, 43, 44, 45, 46, 47, 48, 49, 50, 51, 52, 53, 54, 55, 56, 57, 58, 59, 60, 61, 62, 63, 64, 65, 66, 67, 68, 69, 70, 71, 72, 73, 74, 75, 76, 77, 78, 79] by kernel_rfl]
            simp only [List.foldl_cons, List.foldl_nil, List.setIfInBounds_toArray, List.set_cons_succ, List.set_cons_zero, List.drop_succ_cons, List.drop_zero]
            rw [show gv 79 = .bool (((decide (((i : Int) : Int) = ((n : Int) : Int))) || ((decide ((s : Int) = (3 : Int))) && (decide (((X.at_ i).firm : Int) = ((X.at_ n).firm : Int))))) || (((decide ((s : Int) = (2 : Int))) && (decide (((X.at_ i).firm : Int) = ((X.at_ n).firm : Int)))) && (decide (((X.at_ i).desk : Int) = ((X.at_ n).desk : Int))))) from hV 46 79 (by kernel_rfl)]
            clear hV
            refine wpList_nil ?_
            rw [HPe.out]
            have kwe := ((hkr.trans kwc).trans kd).trans ke
            clear HXwc HBc HXd HBd kwc kd ke HPe HPb
            cases b with
            | false =>
              have HSi : Hid (S (i + 1) = S i) := by
                show _ = _
                rw [hSi, if_neg (by simp)]
              clear hSi hSl HSl
              go_wp2
              refine ⟨⟨i + 1, by omega, by simp, ?_, kwe⟩, by simp [intOf]; omega⟩
              rw [HSi.out]
            | true =>
              have HSi : Hid (S (i + 1) = S i ||| 2 ^ i) := by
                show _ = _
                rw [hSi, if_pos rfl]
              clear hSi hSl
              go_upto_region 9 with fail
              refine wp_text 4 [.eq (.int .u64 ((S i : Nat) : Int)), .eq (.int .i64 (i : Int)), .eq (.int .u64 ((2 ^ i : Nat) : Int)), .eq (.int .u64 ((S i ||| 2 ^ i : Nat) : Int))] rfl (by kernel_rfl) ?_ ?_
              · refine sv 1 rfl rfl rfl (fun a u hE hD hk => exec_move (.tmp 7) _ rfl (hE 7 (.int .u64 ((S i : Nat) : Int)) (by kernel_rfl) (by kernel_rfl))) ?_
                refine sv 2 rfl rfl rfl (fun a u hE hD hk => exec_move (.tmp 8) _ rfl (hE 8 (.int .i64 (i : Int)) (by kernel_rfl) (by kernel_rfl))) ?_
                refine sv 3 rfl rfl rfl (fun a u hE hD hk => exec_shlU (.tmp 81) _ i rfl (hD 1 81 (by kernel_rfl)) (by omega)) ?_
                refine sv 4 rfl rfl rfl (fun a u hE hD hk => exec_orU (.tmp 80) (.tmp 82) _ _ (S i) (2 ^ i) rfl (hD 0 80 (by kernel_rfl)) (hD 2 82 (by kernel_rfl)) HSl.out (Nat.lt_of_le_of_lt (pow32 (by omega)) (by omega))) ?_
                exact fsteps_nil
              intro gv wf hV kf
              rw [show dstsOf _ 4 = [80, 81, 82, 83] by kernel_rfl]
              simp only [List.foldl_cons, List.foldl_nil, List.setIfInBounds_toArray, List.set_cons_succ, List.set_cons_zero, List.drop_succ_cons, List.drop_zero]
              rw [show gv 83 = .int .u64 ((S i ||| 2 ^ i : Nat) : Int) from hV 3 83 (by kernel_rfl)]
              clear hV
              refine l_val (o := ⟨some 7, _, _, _, _, _⟩) (.int .u64 ((S i ||| 2 ^ i : Nat) : Int)) rfl (exec_assign (.tmp 83) (.int .u64 ((S i ||| 2 ^ i : Nat) : Int)) rfl (by kernel_rfl)) ?_
              simp only [Act.put, List.setIfInBounds_toArray, List.set_cons_succ, List.set_cons_zero]
              refine wpList_nil ?_
              have kwf := kwe.trans kf
              clear kwe kf
              go_wp2
              refine ⟨⟨i + 1, by omega, by simp, ?_, kwf⟩, by simp [intOf]; omega⟩
              rw [HSi.out]
        · obtain rfl : i = 32 := by omega
          go_wp2
          go_ret
          exact ⟨rfl, hkr⟩
    · have HT := Lib.hid ht
      have HV := Lib.hid (setB_bad (X := X) (n := n) hs)
      clear ht
      by_cases h1 : s < 1
      · clear hs
        go_enter Try.func19, Try.ntmps19
        go_upto_region 1 with fail
        refine wp_text 12 [.eq (.pointer (some ⟨p, 0, none⟩)), .eq (.int .i64 n), .eq (.bool true), .eq (.bool false), .eq (.bool false), .eq (.int .i64 s), .eq (.bool true), .eq (.bool true), .eq (.bool true), .eq undef, .eq undef, .eq (.bool true)] rfl (by kernel_rfl) ?_ ?_
        · refine sv 1 rfl rfl rfl (fun a u hE hD hk => exec_move (.tmp 0) _ rfl (hE 0 (.pointer (some ⟨p, 0, none⟩)) (by kernel_rfl) (by kernel_rfl))) ?_
          refine sv 2 rfl rfl rfl (fun a u hE hD hk => exec_move (.tmp 1) _ rfl (hE 1 (.int .i64 n) (by kernel_rfl) (by kernel_rfl))) ?_
          refine fsteps_cons 3 rfl (fun a u hE hD hk => f_call (o := ⟨some 12, _, _, _, _, _⟩) 16 #[.pointer (some ⟨p, 0, none⟩), .int .i64 n] rfl (wanted_none rfl _) (exec_call 16 _ [.tmp 10, .tmp 11] _ [.pointer (some ⟨p, 0, none⟩), .int .i64 n] Try.func16 (by kernel_rfl) (by kernel_rfl) rfl (show [a.eval (.tmp 10), a.eval (.tmp 11)] = [.pointer (some ⟨p, 0, none⟩), .int .i64 n] from (by rw [show a.eval (.tmp 10) = .pointer (some ⟨p, 0, none⟩) from (hD 0 10 (by kernel_rfl)), show a.eval (.tmp 11) = .int .i64 n from (hD 1 11 (by kernel_rfl))] <;> rfl)) u) (by rw [← HT.out]; exact rthere_any u p X _ (HB.out.kept hk))) ?_
          refine sv 4 rfl rfl rfl (fun a u hE hD hk => exec_not _ (.tmp 12) true rfl (hD 2 12 (by kernel_rfl))) ?_
          refine sv 5 rfl rfl rfl (fun a u hE hD hk => exec_move (.tmp 13) _ rfl (hD 3 13 (by kernel_rfl))) ?_
          refine fsteps_cons 6 rfl (fun a u hE hD hk => f_val (o := ⟨some 15, _, _, _, _, _⟩) (.int .i64 s) rfl (wanted_at (b := false) false rfl rfl (hD 4 14 (by kernel_rfl))) (exec_move (.tmp 2) _ rfl (hE 2 (.int .i64 s) (by kernel_rfl) (by kernel_rfl))) rfl) ?_
          refine fsteps_cons 7 rfl (fun a u hE hD hk => f_as (show ((decide ((s : Int) < (1 : Int))) : Bool) = true from decide_eq_true (by omega)) (f_val (o := ⟨some 16, _, _, _, _, _⟩) (.bool (decide ((s : Int) < (1 : Int)))) rfl (wanted_at (b := false) false rfl rfl (hD 4 14 (by kernel_rfl))) (exec_ltn (p := s) (q := 1) rfl (hD 5 15 (by kernel_rfl)) rfl) rfl)) ?_
          refine sv 8 rfl rfl rfl (fun a u hE hD hk => exec_pickF (.tmp 14) (.const (.bool true)) (.tmp 16) (.bool true) rfl (hD 4 14 (by kernel_rfl)) (hD 6 16 (by kernel_rfl))) ?_
          refine sv 9 rfl rfl rfl (fun a u hE hD hk => exec_move (.tmp 17) _ rfl (hD 7 17 (by kernel_rfl))) ?_
          refine fsteps_cons 10 rfl (fun a u hE hD hk => f_skip (o := ⟨some 19, _, _, _, _, _⟩) rfl (wanted_at (b := false) true rfl rfl (hD 8 18 (by kernel_rfl))) rfl) ?_
          refine fsteps_cons 11 rfl (fun a u hE hD hk => f_skip (o := ⟨some 20, _, _, _, _, _⟩) rfl (wanted_at (b := false) true rfl rfl (hD 8 18 (by kernel_rfl))) rfl) ?_
          refine sv 12 rfl rfl rfl (fun a u hE hD hk => exec_pick (.tmp 18) (.const (.bool true)) (.tmp 20) (.bool true) rfl (hD 8 18 (by kernel_rfl)) rfl) ?_
          exact fsteps_nil
        intro gv w1 hV k1
        rw [show dstsOf _ 12 = [10, 11, 12, 13, 14, 15, 16, 17, 18, 19, 20, 21] by kernel_rfl]
        simp only [List.foldl_cons, List.foldl_nil, List.setIfInBounds_toArray, List.set_cons_succ, List.set_cons_zero, List.drop_succ_cons, List.drop_zero]
        rw [show gv 21 = .bool true from hV 11 21 (by kernel_rfl)]
        clear hV
        refine wpList_nil ?_
        go_wp2
        go_ret
        rw [HV.out]
        exact ⟨rfl, k1⟩
      · have h3 : 3 < s := by omega
        clear hs
        go_enter Try.func19, Try.ntmps19
        go_upto_region 1 with fail
        refine wp_text 12 [.eq (.pointer (some ⟨p, 0, none⟩)), .eq (.int .i64 n), .eq (.bool true), .eq (.bool false), .eq (.bool false), .eq (.int .i64 s), .eq (.bool false), .eq (.bool false), .eq (.bool false), .eq (.int .i64 s), .eq (.bool true), .eq (.bool true)] rfl (by kernel_rfl) ?_ ?_
        · refine sv 1 rfl rfl rfl (fun a u hE hD hk => exec_move (.tmp 0) _ rfl (hE 0 (.pointer (some ⟨p, 0, none⟩)) (by kernel_rfl) (by kernel_rfl))) ?_
          refine sv 2 rfl rfl rfl (fun a u hE hD hk => exec_move (.tmp 1) _ rfl (hE 1 (.int .i64 n) (by kernel_rfl) (by kernel_rfl))) ?_
          refine fsteps_cons 3 rfl (fun a u hE hD hk => f_call (o := ⟨some 12, _, _, _, _, _⟩) 16 #[.pointer (some ⟨p, 0, none⟩), .int .i64 n] rfl (wanted_none rfl _) (exec_call 16 _ [.tmp 10, .tmp 11] _ [.pointer (some ⟨p, 0, none⟩), .int .i64 n] Try.func16 (by kernel_rfl) (by kernel_rfl) rfl (show [a.eval (.tmp 10), a.eval (.tmp 11)] = [.pointer (some ⟨p, 0, none⟩), .int .i64 n] from (by rw [show a.eval (.tmp 10) = .pointer (some ⟨p, 0, none⟩) from (hD 0 10 (by kernel_rfl)), show a.eval (.tmp 11) = .int .i64 n from (hD 1 11 (by kernel_rfl))] <;> rfl)) u) (by rw [← HT.out]; exact rthere_any u p X _ (HB.out.kept hk))) ?_
          refine sv 4 rfl rfl rfl (fun a u hE hD hk => exec_not _ (.tmp 12) true rfl (hD 2 12 (by kernel_rfl))) ?_
          refine sv 5 rfl rfl rfl (fun a u hE hD hk => exec_move (.tmp 13) _ rfl (hD 3 13 (by kernel_rfl))) ?_
          refine fsteps_cons 6 rfl (fun a u hE hD hk => f_val (o := ⟨some 15, _, _, _, _, _⟩) (.int .i64 s) rfl (wanted_at (b := false) false rfl rfl (hD 4 14 (by kernel_rfl))) (exec_move (.tmp 2) _ rfl (hE 2 (.int .i64 s) (by kernel_rfl) (by kernel_rfl))) rfl) ?_
          refine fsteps_cons 7 rfl (fun a u hE hD hk => f_as (show ((decide ((s : Int) < (1 : Int))) : Bool) = false from decide_eq_false (by omega)) (f_val (o := ⟨some 16, _, _, _, _, _⟩) (.bool (decide ((s : Int) < (1 : Int)))) rfl (wanted_at (b := false) false rfl rfl (hD 4 14 (by kernel_rfl))) (exec_ltn (p := s) (q := 1) rfl (hD 5 15 (by kernel_rfl)) rfl) rfl)) ?_
          refine sv 8 rfl rfl rfl (fun a u hE hD hk => exec_pickF (.tmp 14) (.const (.bool true)) (.tmp 16) (.bool false) rfl (hD 4 14 (by kernel_rfl)) (hD 6 16 (by kernel_rfl))) ?_
          refine sv 9 rfl rfl rfl (fun a u hE hD hk => exec_move (.tmp 17) _ rfl (hD 7 17 (by kernel_rfl))) ?_
          refine fsteps_cons 10 rfl (fun a u hE hD hk => f_val (o := ⟨some 19, _, _, _, _, _⟩) (.int .i64 s) rfl (wanted_at (b := false) false rfl rfl (hD 8 18 (by kernel_rfl))) (exec_move (.tmp 2) _ rfl (hE 2 (.int .i64 s) (by kernel_rfl) (by kernel_rfl))) rfl) ?_
          refine fsteps_cons 11 rfl (fun a u hE hD hk => f_as (show ((decide ((3 : Int) < (s : Int))) : Bool) = true from decide_eq_true (by omega)) (f_val (o := ⟨some 20, _, _, _, _, _⟩) (.bool (decide ((3 : Int) < (s : Int)))) rfl (wanted_at (b := false) false rfl rfl (hD 8 18 (by kernel_rfl))) (exec_gtn (p := s) (q := 3) rfl (hD 9 19 (by kernel_rfl)) rfl) rfl)) ?_
          refine sv 12 rfl rfl rfl (fun a u hE hD hk => exec_pickF (.tmp 18) (.const (.bool true)) (.tmp 20) (.bool true) rfl (hD 8 18 (by kernel_rfl)) (hD 10 20 (by kernel_rfl))) ?_
          exact fsteps_nil
        intro gv w1 hV k1
        rw [show dstsOf _ 12 = [10, 11, 12, 13, 14, 15, 16, 17, 18, 19, 20, 21] by kernel_rfl]
        simp only [List.foldl_cons, List.foldl_nil, List.setIfInBounds_toArray, List.set_cons_succ, List.set_cons_zero, List.drop_succ_cons, List.drop_zero]
        rw [show gv 21 = .bool true from hV 11 21 (by kernel_rfl)]
        clear hV
        refine wpList_nil ?_
        go_wp2
        go_ret
        rw [HV.out]
        exact ⟨rfl, k1⟩
end Go.Proofs.Ytgodehggiddndaa
