/-
  The contracts of package tree, and of the document's own tree. Conditions: a tree in memory (its block known whole).
-/
import Derived.Test.YtfoamgljfdnloaaDoorTreM
import Derived.Test.YtfoamgljfdnloaaDoorPrim
namespace Go.Proofs.YtfoamgljfdnloaaDoor
open Go.RowKit
set_option linter.unusedVariables false
set_option maxRecDepth 100000

def upB (n m : Int) : Bool := decide (0 ≤ n) && decide (n ≤ m)
theorem upB_true {n m : Int} (h0 : 0 ≤ n) (h1 : n ≤ m) : upB n m = true := by unfold upB; rw [decide_eq_true h0, decide_eq_true h1]; rfl
theorem upB_false {n m : Int} (h : n < 0 ∨ m < n) : upB n m = false := by
  unfold upB
  rcases h with h | h
  · rw [decide_eq_false (by omega)]; rfl
  · rw [decide_eq_false (show ¬ n ≤ m by omega), Bool.and_false]
theorem upto_any (n m : Int) (w : World) : Gives 25 #[.int .i64 n, .int .i64 m] w (.eq (.bool (upB n m))) := by
  refine gives_eq ?_
  go_enter Tryd.func25, Tryd.ntmps25
  go_upto_region 1 with fail
  refine wp_text 8 [.eq (.int .i64 n), .eq (.bool (decide ((0 : Int) ≤ (n : Int)))), .eq (.bool (decide ((0 : Int) ≤ (n : Int)))), .cond (decide ((0 : Int) ≤ (n : Int))) (.eq (.int .i64 n)), .cond (decide ((0 : Int) ≤ (n : Int))) (.eq (.int .i64 m)), .cond (decide ((0 : Int) ≤ (n : Int))) (.eq (.bool (decide ((n : Int) ≤ (m : Int))))), .eq (.bool ((decide ((0 : Int) ≤ (n : Int))) && (decide ((n : Int) ≤ (m : Int))))), .eq (.bool ((decide ((0 : Int) ≤ (n : Int))) && (decide ((n : Int) ≤ (m : Int)))))] rfl (by kernel_rfl) ?_ ?_
  · refine sv 1 rfl rfl rfl (fun a u hE hD hk => exec_move (.tmp 0) _ rfl (hE 0 (.int .i64 n) (by kernel_rfl) (by kernel_rfl))) ?_
    refine sv 2 rfl rfl rfl (fun a u hE hD hk => exec_len_ (p := 0) (q := n) rfl rfl (hD 0 5 (by kernel_rfl))) ?_
    refine sv 3 rfl rfl rfl (fun a u hE hD hk => exec_move (.tmp 6) _ rfl (hD 1 6 (by kernel_rfl))) ?_
    refine fsteps_cons 4 rfl (fun a u hE hD hk => f_if ((decide ((0 : Int) ≤ (n : Int)))) rfl rfl rfl (hD 2 7 (by kernel_rfl)) (fun hb => f_val (o := ⟨some 8, _, _, _, _, _⟩) (.int .i64 n) rfl (wanted_b rfl rfl (hD 2 7 (by kernel_rfl)) (eq_true_of hb)) (exec_move (.tmp 0) _ rfl (hE 0 (.int .i64 n) (by kernel_rfl) (by kernel_rfl))) rfl)) ?_
    refine fsteps_cons 5 rfl (fun a u hE hD hk => f_if ((decide ((0 : Int) ≤ (n : Int)))) rfl rfl rfl (hD 2 7 (by kernel_rfl)) (fun hb => f_val (o := ⟨some 9, _, _, _, _, _⟩) (.int .i64 m) rfl (wanted_b rfl rfl (hD 2 7 (by kernel_rfl)) (eq_true_of hb)) (exec_move (.tmp 1) _ rfl (hE 1 (.int .i64 m) (by kernel_rfl) (by kernel_rfl))) rfl)) ?_
    refine fsteps_cons 6 rfl (fun a u hE hD hk => f_if ((decide ((0 : Int) ≤ (n : Int)))) rfl rfl rfl (hD 2 7 (by kernel_rfl)) (fun hb => f_val (o := ⟨some 10, _, _, _, _, _⟩) (.bool (decide ((n : Int) ≤ (m : Int)))) rfl (wanted_b rfl rfl (hD 2 7 (by kernel_rfl)) (eq_true_of hb)) (exec_len_ (p := n) (q := m) rfl ((hD 3 8 (by kernel_rfl)).1 hb) ((hD 4 9 (by kernel_rfl)).1 hb)) rfl)) ?_
    refine sv 7 rfl rfl rfl (fun a u hE hD hk => exec_pickand (.tmp 7) (.tmp 10) (.const (.bool false)) ((decide ((0 : Int) ≤ (n : Int)))) ((decide ((n : Int) ≤ (m : Int)))) rfl (hD 2 7 (by kernel_rfl)) (fun hb2 => ((hD 5 10 (by kernel_rfl)).1 hb2)) rfl) ?_
    refine sv 8 rfl rfl rfl (fun a u hE hD hk => exec_assign (.tmp 11) _ rfl (hD 6 11 (by kernel_rfl))) ?_
    exact fsteps_nil
  intro gv w0 hV k0
  rw [show dstsOf _ 8 = [5, 6, 7, 8, 9, 10, 11, 4] by kernel_rfl]
  simp only [List.foldl_cons, List.foldl_nil, List.setIfInBounds_toArray, List.set_cons_succ, List.set_cons_zero, List.drop_succ_cons, List.drop_zero]
  rw [show gv 4 = .bool ((decide ((0 : Int) ≤ (n : Int))) && (decide ((n : Int) ≤ (m : Int)))) from hV 7 4 (by kernel_rfl)]
  clear hV
  refine wpList_nil ?_
  go_wp2
  go_ret
  exact ⟨rfl, k0⟩
def Trd.right (t : Trd) : Bool := ((upB t.firm 7 && upB t.desk 15) && upB t.roles 15) && upB t.insts 255
def Trd.may (t : Trd) : Bool := t.right && decide (t.roles ≠ 0)
set_option maxRecDepth 100000 in
theorem right_t (t : Trd) (w : World) : Gives 30 #[t.v] w (.eq (.bool t.right)) := by
  unfold Gives Trd.v
  have HB0 : Hid ((w.alloc (.cells t.cells.toArray 35)).rangeAt w.heap.size 0 t.cells) := blk_range (Blk.new w 35 t.cells)
  have kw0 : Kept w (w.alloc (.cells t.cells.toArray 35)) := (Keep.refl _ w).alloc _
  go_enter Tryd.func30, Tryd.ntmps30
  go_upto_region 1 with fail
  generalize w.alloc (.cells t.cells.toArray 35) = w0 at HB0 kw0 ⊢
  generalize w.heap.size = g at HB0 ⊢
  refine wp_text 19 [.eq (.pointer (some ⟨g, 0, none⟩)), .eq (.int .i64 t.firm), .eq (.bool (upB t.firm 7)), .eq (.bool (upB t.firm 7)), .cond (upB t.firm 7) (.eq (.pointer (some ⟨g, 1, none⟩))), .cond (upB t.firm 7) (.eq (.int .i64 t.desk)), .cond (upB t.firm 7) (.eq (.bool (upB t.desk 15))), .eq (.bool ((upB t.firm 7) && (upB t.desk 15))), .eq (.bool ((upB t.firm 7) && (upB t.desk 15))), .cond ((upB t.firm 7) && (upB t.desk 15)) (.eq (.pointer (some ⟨g, 2, none⟩))), .cond ((upB t.firm 7) && (upB t.desk 15)) (.eq (.int .i64 t.roles)), .cond ((upB t.firm 7) && (upB t.desk 15)) (.eq (.bool (upB t.roles 15))), .eq (.bool (((upB t.firm 7) && (upB t.desk 15)) && (upB t.roles 15))), .eq (.bool (((upB t.firm 7) && (upB t.desk 15)) && (upB t.roles 15))), .cond (((upB t.firm 7) && (upB t.desk 15)) && (upB t.roles 15)) (.eq (.pointer (some ⟨g, 3, none⟩))), .cond (((upB t.firm 7) && (upB t.desk 15)) && (upB t.roles 15)) (.eq (.int .i64 t.insts)), .cond (((upB t.firm 7) && (upB t.desk 15)) && (upB t.roles 15)) (.eq (.bool (upB t.insts 255))), .eq (.bool ((((upB t.firm 7) && (upB t.desk 15)) && (upB t.roles 15)) && (upB t.insts 255))), .eq (.bool ((((upB t.firm 7) && (upB t.desk 15)) && (upB t.roles 15)) && (upB t.insts 255)))] rfl (by kernel_rfl) ?_ ?_
  · refine sv 1 rfl rfl rfl (fun a u hE hD hk => exec_fldo 35 0 0 (.tmp 1) (g) (0) (0) rfl (hE 1 (.pointer (some ⟨g, 0, none⟩)) (by kernel_rfl) (by kernel_rfl)) (by kernel_rfl) rfl) ?_
    refine sv 2 rfl rfl rfl (fun a u hE hD hk => exec_loadi 3 Tryd.underlying3 (.tmp 3) ⟨g, 0, none⟩ (.int .i64 t.firm) rfl (hD 0 3 (by kernel_rfl)) ((range_kept (HB0.out) hk) 0 _ rfl)) ?_
    refine fsteps_cons 3 rfl (fun a u hE hD hk => f_call (o := ⟨some 5, _, _, _, _, _⟩) 25 #[.int .i64 t.firm, .int .i64 7] rfl (wanted_none rfl _) (exec_call 25 _ [.tmp 4, .const (.int .i64 7)] _ [.int .i64 t.firm, .int .i64 7] Tryd.func25 (by kernel_rfl) (by kernel_rfl) rfl (show [a.eval (.tmp 4), a.eval (.const (.int .i64 7))] = [.int .i64 t.firm, .int .i64 7] from (by rw [show a.eval (.tmp 4) = .int .i64 t.firm from (hD 1 4 (by kernel_rfl))] <;> rfl)) u) (upto_any _ _ u)) ?_
    refine sv 4 rfl rfl rfl (fun a u hE hD hk => exec_move (.tmp 5) _ rfl (hD 2 5 (by kernel_rfl))) ?_
    refine fsteps_cons 5 rfl (fun a u hE hD hk => f_if ((upB t.firm 7)) rfl rfl rfl (hD 3 6 (by kernel_rfl)) (fun hb => f_val (o := ⟨some 7, _, _, _, _, _⟩) (.pointer (some ⟨g, 1, none⟩)) rfl (wanted_b rfl rfl (hD 3 6 (by kernel_rfl)) (eq_true_of hb)) (exec_fldo 35 1 1 (.tmp 1) (g) (0) (1) rfl (hE 1 (.pointer (some ⟨g, 0, none⟩)) (by kernel_rfl) (by kernel_rfl)) (by kernel_rfl) rfl) rfl)) ?_
    refine fsteps_cons 6 rfl (fun a u hE hD hk => f_if ((upB t.firm 7)) rfl rfl rfl (hD 3 6 (by kernel_rfl)) (fun hb => f_val (o := ⟨some 8, _, _, _, _, _⟩) (.int .i64 t.desk) rfl (wanted_b rfl rfl (hD 3 6 (by kernel_rfl)) (eq_true_of hb)) (exec_loadi 3 Tryd.underlying3 (.tmp 7) ⟨g, 1, none⟩ (.int .i64 t.desk) rfl ((hD 4 7 (by kernel_rfl)).1 hb) ((range_kept (HB0.out) hk) 1 _ rfl)) rfl)) ?_
    refine fsteps_cons 7 rfl (fun a u hE hD hk => f_if ((upB t.firm 7)) rfl rfl rfl (hD 3 6 (by kernel_rfl)) (fun hb => f_call (o := ⟨some 9, _, _, _, _, _⟩) 25 #[.int .i64 t.desk, .int .i64 15] rfl (wanted_b rfl rfl (hD 3 6 (by kernel_rfl)) (eq_true_of hb)) (exec_call 25 _ [.tmp 8, .const (.int .i64 15)] _ [.int .i64 t.desk, .int .i64 15] Tryd.func25 (by kernel_rfl) (by kernel_rfl) rfl (show [a.eval (.tmp 8), a.eval (.const (.int .i64 15))] = [.int .i64 t.desk, .int .i64 15] from (by rw [show a.eval (.tmp 8) = .int .i64 t.desk from ((hD 5 8 (by kernel_rfl)).1 hb)] <;> rfl)) u) (upto_any _ _ u))) ?_
    refine sv 8 rfl rfl rfl (fun a u hE hD hk => exec_pickand (.tmp 6) (.tmp 9) (.const (.bool false)) ((upB t.firm 7)) ((upB t.desk 15)) rfl (hD 3 6 (by kernel_rfl)) (fun hb2 => ((hD 6 9 (by kernel_rfl)).1 hb2)) rfl) ?_
    refine sv 9 rfl rfl rfl (fun a u hE hD hk => exec_move (.tmp 10) _ rfl (hD 7 10 (by kernel_rfl))) ?_
    refine fsteps_cons 10 rfl (fun a u hE hD hk => f_if (((upB t.firm 7) && (upB t.desk 15))) rfl rfl rfl (hD 8 11 (by kernel_rfl)) (fun hb => f_val (o := ⟨some 12, _, _, _, _, _⟩) (.pointer (some ⟨g, 2, none⟩)) rfl (wanted_b rfl rfl (hD 8 11 (by kernel_rfl)) (eq_true_of hb)) (exec_fldo 35 2 2 (.tmp 1) (g) (0) (2) rfl (hE 1 (.pointer (some ⟨g, 0, none⟩)) (by kernel_rfl) (by kernel_rfl)) (by kernel_rfl) rfl) rfl)) ?_
    refine fsteps_cons 11 rfl (fun a u hE hD hk => f_if (((upB t.firm 7) && (upB t.desk 15))) rfl rfl rfl (hD 8 11 (by kernel_rfl)) (fun hb => f_val (o := ⟨some 13, _, _, _, _, _⟩) (.int .i64 t.roles) rfl (wanted_b rfl rfl (hD 8 11 (by kernel_rfl)) (eq_true_of hb)) (exec_loadi 3 Tryd.underlying3 (.tmp 12) ⟨g, 2, none⟩ (.int .i64 t.roles) rfl ((hD 9 12 (by kernel_rfl)).1 hb) ((range_kept (HB0.out) hk) 2 _ rfl)) rfl)) ?_
    refine fsteps_cons 12 rfl (fun a u hE hD hk => f_if (((upB t.firm 7) && (upB t.desk 15))) rfl rfl rfl (hD 8 11 (by kernel_rfl)) (fun hb => f_call (o := ⟨some 14, _, _, _, _, _⟩) 25 #[.int .i64 t.roles, .int .i64 15] rfl (wanted_b rfl rfl (hD 8 11 (by kernel_rfl)) (eq_true_of hb)) (exec_call 25 _ [.tmp 13, .const (.int .i64 15)] _ [.int .i64 t.roles, .int .i64 15] Tryd.func25 (by kernel_rfl) (by kernel_rfl) rfl (show [a.eval (.tmp 13), a.eval (.const (.int .i64 15))] = [.int .i64 t.roles, .int .i64 15] from (by rw [show a.eval (.tmp 13) = .int .i64 t.roles from ((hD 10 13 (by kernel_rfl)).1 hb)] <;> rfl)) u) (upto_any _ _ u))) ?_
    refine sv 13 rfl rfl rfl (fun a u hE hD hk => exec_pickand (.tmp 11) (.tmp 14) (.const (.bool false)) (((upB t.firm 7) && (upB t.desk 15))) ((upB t.roles 15)) rfl (hD 8 11 (by kernel_rfl)) (fun hb2 => ((hD 11 14 (by kernel_rfl)).1 hb2)) rfl) ?_
    refine sv 14 rfl rfl rfl (fun a u hE hD hk => exec_move (.tmp 15) _ rfl (hD 12 15 (by kernel_rfl))) ?_
    refine fsteps_cons 15 rfl (fun a u hE hD hk => f_if ((((upB t.firm 7) && (upB t.desk 15)) && (upB t.roles 15))) rfl rfl rfl (hD 13 16 (by kernel_rfl)) (fun hb => f_val (o := ⟨some 17, _, _, _, _, _⟩) (.pointer (some ⟨g, 3, none⟩)) rfl (wanted_b rfl rfl (hD 13 16 (by kernel_rfl)) (eq_true_of hb)) (exec_fldo 35 3 3 (.tmp 1) (g) (0) (3) rfl (hE 1 (.pointer (some ⟨g, 0, none⟩)) (by kernel_rfl) (by kernel_rfl)) (by kernel_rfl) rfl) rfl)) ?_
    refine fsteps_cons 16 rfl (fun a u hE hD hk => f_if ((((upB t.firm 7) && (upB t.desk 15)) && (upB t.roles 15))) rfl rfl rfl (hD 13 16 (by kernel_rfl)) (fun hb => f_val (o := ⟨some 18, _, _, _, _, _⟩) (.int .i64 t.insts) rfl (wanted_b rfl rfl (hD 13 16 (by kernel_rfl)) (eq_true_of hb)) (exec_loadi 3 Tryd.underlying3 (.tmp 17) ⟨g, 3, none⟩ (.int .i64 t.insts) rfl ((hD 14 17 (by kernel_rfl)).1 hb) ((range_kept (HB0.out) hk) 3 _ rfl)) rfl)) ?_
    refine fsteps_cons 17 rfl (fun a u hE hD hk => f_if ((((upB t.firm 7) && (upB t.desk 15)) && (upB t.roles 15))) rfl rfl rfl (hD 13 16 (by kernel_rfl)) (fun hb => f_call (o := ⟨some 19, _, _, _, _, _⟩) 25 #[.int .i64 t.insts, .int .i64 255] rfl (wanted_b rfl rfl (hD 13 16 (by kernel_rfl)) (eq_true_of hb)) (exec_call 25 _ [.tmp 18, .const (.int .i64 255)] _ [.int .i64 t.insts, .int .i64 255] Tryd.func25 (by kernel_rfl) (by kernel_rfl) rfl (show [a.eval (.tmp 18), a.eval (.const (.int .i64 255))] = [.int .i64 t.insts, .int .i64 255] from (by rw [show a.eval (.tmp 18) = .int .i64 t.insts from ((hD 15 18 (by kernel_rfl)).1 hb)] <;> rfl)) u) (upto_any _ _ u))) ?_
    refine sv 18 rfl rfl rfl (fun a u hE hD hk => exec_pickand (.tmp 16) (.tmp 19) (.const (.bool false)) ((((upB t.firm 7) && (upB t.desk 15)) && (upB t.roles 15))) ((upB t.insts 255)) rfl (hD 13 16 (by kernel_rfl)) (fun hb2 => ((hD 16 19 (by kernel_rfl)).1 hb2)) rfl) ?_
    refine sv 19 rfl rfl rfl (fun a u hE hD hk => exec_assign (.tmp 20) _ rfl (hD 17 20 (by kernel_rfl))) ?_
    exact fsteps_nil
  intro gv w1 hV k1
  rw [show dstsOf _ 19 = [3, 4, 5, 6, 7, 8, 9, 10, 11, 12, 13, 14, 15, 16, 17, 18, 19, 20, 2] by kernel_rfl]
  simp only [List.foldl_cons, List.foldl_nil, List.setIfInBounds_toArray, List.set_cons_succ, List.set_cons_zero, List.drop_succ_cons, List.drop_zero]
  rw [show gv 2 = .bool ((((upB t.firm 7) && (upB t.desk 15)) && (upB t.roles 15)) && (upB t.insts 255)) from hV 18 2 (by kernel_rfl)]
  clear hV
  refine wpList_nil ?_
  have kw1 := kw0.trans k1
  go_wp2
  go_ret
  exact ⟨_, rfl, rfl, kw1⟩
set_option maxRecDepth 100000 in
theorem may_t (t : Trd) (w : World) : Gives 22 #[t.v] w (.eq (.bool t.may)) := by
  unfold Gives Trd.v
  have HB0 : Hid ((w.alloc (.cells t.cells.toArray 35)).rangeAt w.heap.size 0 t.cells) := blk_range (Blk.new w 35 t.cells)
  have kw0 : Kept w (w.alloc (.cells t.cells.toArray 35)) := (Keep.refl _ w).alloc _
  go_enter Tryd.func22, Tryd.ntmps22
  go_upto_region 1 with fail
  generalize w.alloc (.cells t.cells.toArray 35) = w0 at HB0 kw0 ⊢
  generalize w.heap.size = g at HB0 ⊢
  refine wp_text 8 [.eq (t.v), .eq (.bool t.right), .eq (.bool t.right), .cond t.right (.eq (.pointer (some ⟨g, 2, none⟩))), .cond t.right (.eq (.int .i64 t.roles)), .cond t.right (.eq (.bool (decide ((t.roles : Int) ≠ (0 : Int))))), .eq (.bool (t.right && (decide ((t.roles : Int) ≠ (0 : Int))))), .eq (.bool (t.right && (decide ((t.roles : Int) ≠ (0 : Int)))))] rfl (by kernel_rfl) ?_ ?_
  · refine sv 1 rfl rfl rfl (fun a u hE hD hk => exec_ldS 35 _ (.tmp 1) (g) (0) (t.cells) rfl (hE 1 (.pointer (some ⟨g, 0, none⟩)) (by kernel_rfl) (by kernel_rfl)) (range_kept (HB0.out) hk) Tryd.underlying35 (by rw [Trd.len37]; exact szT)) ?_
    refine fsteps_cons 2 rfl (fun a u hE hD hk => f_call (o := ⟨some 4, _, _, _, _, _⟩) 30 #[t.v] rfl (wanted_none rfl _) (exec_call 30 _ [.tmp 3] _ [t.v] Tryd.func30 (by kernel_rfl) (by kernel_rfl) rfl (show [a.eval (.tmp 3)] = [t.v] from (by rw [show a.eval (.tmp 3) = t.v from (hD 0 3 (by kernel_rfl))] <;> rfl)) u) (right_t t u)) ?_
    refine sv 3 rfl rfl rfl (fun a u hE hD hk => exec_move (.tmp 4) _ rfl (hD 1 4 (by kernel_rfl))) ?_
    refine fsteps_cons 4 rfl (fun a u hE hD hk => f_if (t.right) rfl rfl rfl (hD 2 5 (by kernel_rfl)) (fun hb => f_val (o := ⟨some 6, _, _, _, _, _⟩) (.pointer (some ⟨g, 2, none⟩)) rfl (wanted_b rfl rfl (hD 2 5 (by kernel_rfl)) (eq_true_of hb)) (exec_fldo 35 2 2 (.tmp 1) (g) (0) (2) rfl (hE 1 (.pointer (some ⟨g, 0, none⟩)) (by kernel_rfl) (by kernel_rfl)) (by kernel_rfl) rfl) rfl)) ?_
    refine fsteps_cons 5 rfl (fun a u hE hD hk => f_if (t.right) rfl rfl rfl (hD 2 5 (by kernel_rfl)) (fun hb => f_val (o := ⟨some 7, _, _, _, _, _⟩) (.int .i64 t.roles) rfl (wanted_b rfl rfl (hD 2 5 (by kernel_rfl)) (eq_true_of hb)) (exec_loadi 3 Tryd.underlying3 (.tmp 6) ⟨g, 2, none⟩ (.int .i64 t.roles) rfl ((hD 3 6 (by kernel_rfl)).1 hb) ((range_kept (HB0.out) hk) 2 _ rfl)) rfl)) ?_
    refine fsteps_cons 6 rfl (fun a u hE hD hk => f_if (t.right) rfl rfl rfl (hD 2 5 (by kernel_rfl)) (fun hb => f_val (o := ⟨some 8, _, _, _, _, _⟩) (.bool (decide ((t.roles : Int) ≠ (0 : Int)))) rfl (wanted_b rfl rfl (hD 2 5 (by kernel_rfl)) (eq_true_of hb)) (exec_nen (p := t.roles) (q := 0) rfl ((hD 4 7 (by kernel_rfl)).1 hb) rfl) rfl)) ?_
    refine sv 7 rfl rfl rfl (fun a u hE hD hk => exec_pickand (.tmp 5) (.tmp 8) (.const (.bool false)) (t.right) ((decide ((t.roles : Int) ≠ (0 : Int)))) rfl (hD 2 5 (by kernel_rfl)) (fun hb2 => ((hD 5 8 (by kernel_rfl)).1 hb2)) rfl) ?_
    refine sv 8 rfl rfl rfl (fun a u hE hD hk => exec_assign (.tmp 9) _ rfl (hD 6 9 (by kernel_rfl))) ?_
    exact fsteps_nil
  intro gv w1 hV k1
  rw [show dstsOf _ 8 = [3, 4, 5, 6, 7, 8, 9, 2] by kernel_rfl]
  simp only [List.foldl_cons, List.foldl_nil, List.setIfInBounds_toArray, List.set_cons_succ, List.set_cons_zero, List.drop_succ_cons, List.drop_zero]
  rw [show gv 2 = .bool (t.right && (decide ((t.roles : Int) ≠ (0 : Int)))) from hV 7 2 (by kernel_rfl)]
  clear hV
  refine wpList_nil ?_
  have kw1 := kw0.trans k1
  go_wp2
  go_ret
  exact ⟨_, rfl, rfl, kw1⟩
theorem rright_eq (t : Trd) : t.right = (((((((decide (0 ≤ t.firm) && decide (t.firm < 8)) && decide (0 ≤ t.desk)) && decide (t.desk < 16)) && decide (0 ≤ t.roles)) && decide (t.roles < 16)) && decide (0 ≤ t.insts)) && decide (t.insts < 256)) := by
  unfold Trd.right upB
  rw [Bool.eq_iff_iff]
  simp only [Bool.and_eq_true, decide_eq_true_eq]
  omega
set_option maxRecDepth 100000 in
theorem rright_t (t : Trd) (w : World) : Gives 23 #[t.v] w (.eq (.bool t.right)) := by
  unfold Gives Trd.v
  have HB0 : Hid ((w.alloc (.cells t.cells.toArray 35)).rangeAt w.heap.size 0 t.cells) := blk_range (Blk.new w 35 t.cells)
  have kw0 : Kept w (w.alloc (.cells t.cells.toArray 35)) := (Keep.refl _ w).alloc _
  go_enter Tryd.func23, Tryd.ntmps23
  go_upto_region 1 with fail
  generalize w.alloc (.cells t.cells.toArray 35) = w0 at HB0 kw0 ⊢
  generalize w.heap.size = g at HB0 ⊢
  refine wp_text 39 [.eq (.pointer (some ⟨g, 0, none⟩)), .eq (.int .i64 t.firm), .eq (.bool (decide ((0 : Int) ≤ (t.firm : Int)))), .eq (.bool (decide ((0 : Int) ≤ (t.firm : Int)))), .cond (decide ((0 : Int) ≤ (t.firm : Int))) (.eq (.pointer (some ⟨g, 0, none⟩))), .cond (decide ((0 : Int) ≤ (t.firm : Int))) (.eq (.int .i64 t.firm)), .cond (decide ((0 : Int) ≤ (t.firm : Int))) (.eq (.bool (decide ((t.firm : Int) < (8 : Int))))), .eq (.bool ((decide ((0 : Int) ≤ (t.firm : Int))) && (decide ((t.firm : Int) < (8 : Int))))), .eq (.bool ((decide ((0 : Int) ≤ (t.firm : Int))) && (decide ((t.firm : Int) < (8 : Int))))), .cond ((decide ((0 : Int) ≤ (t.firm : Int))) && (decide ((t.firm : Int) < (8 : Int)))) (.eq (.pointer (some ⟨g, 1, none⟩))), .cond ((decide ((0 : Int) ≤ (t.firm : Int))) && (decide ((t.firm : Int) < (8 : Int)))) (.eq (.int .i64 t.desk)), .cond ((decide ((0 : Int) ≤ (t.firm : Int))) && (decide ((t.firm : Int) < (8 : Int)))) (.eq (.bool (decide ((0 : Int) ≤ (t.desk : Int))))), .eq (.bool (((decide ((0 : Int) ≤ (t.firm : Int))) && (decide ((t.firm : Int) < (8 : Int)))) && (decide ((0 : Int) ≤ (t.desk : Int))))), .eq (.bool (((decide ((0 : Int) ≤ (t.firm : Int))) && (decide ((t.firm : Int) < (8 : Int)))) && (decide ((0 : Int) ≤ (t.desk : Int))))), .cond (((decide ((0 : Int) ≤ (t.firm : Int))) && (decide ((t.firm : Int) < (8 : Int)))) && (decide ((0 : Int) ≤ (t.desk : Int)))) (.eq (.pointer (some ⟨g, 1, none⟩))), .cond (((decide ((0 : Int) ≤ (t.firm : Int))) && (decide ((t.firm : Int) < (8 : Int)))) && (decide ((0 : Int) ≤ (t.desk : Int)))) (.eq (.int .i64 t.desk)), .cond (((decide ((0 : Int) ≤ (t.firm : Int))) && (decide ((t.firm : Int) < (8 : Int)))) && (decide ((0 : Int) ≤ (t.desk : Int)))) (.eq (.bool (decide ((t.desk : Int) < (16 : Int))))), .eq (.bool ((((decide ((0 : Int) ≤ (t.firm : Int))) && (decide ((t.firm : Int) < (8 : Int)))) && (decide ((0 : Int) ≤ (t.desk : Int)))) && (decide ((t.desk : Int) < (16 : Int))))), .eq (.bool ((((decide ((0 : Int) ≤ (t.firm : Int))) && (decide ((t.firm : Int) < (8 : Int)))) && (decide ((0 : Int) ≤ (t.desk : Int)))) && (decide ((t.desk : Int) < (16 : Int))))), .cond ((((decide ((0 : Int) ≤ (t.firm : Int))) && (decide ((t.firm : Int) < (8 : Int)))) && (decide ((0 : Int) ≤ (t.desk : Int)))) && (decide ((t.desk : Int) < (16 : Int)))) (.eq (.pointer (some ⟨g, 2, none⟩))), .cond ((((decide ((0 : Int) ≤ (t.firm : Int))) && (decide ((t.firm : Int) < (8 : Int)))) && (decide ((0 : Int) ≤ (t.desk : Int)))) && (decide ((t.desk : Int) < (16 : Int)))) (.eq (.int .i64 t.roles)), .cond ((((decide ((0 : Int) ≤ (t.firm : Int))) && (decide ((t.firm : Int) < (8 : Int)))) && (decide ((0 : Int) ≤ (t.desk : Int)))) && (decide ((t.desk : Int) < (16 : Int)))) (.eq (.bool (decide ((0 : Int) ≤ (t.roles : Int))))), .eq (.bool (((((decide ((0 : Int) ≤ (t.firm : Int))) && (decide ((t.firm : Int) < (8 : Int)))) && (decide ((0 : Int) ≤ (t.desk : Int)))) && (decide ((t.desk : Int) < (16 : Int)))) && (decide ((0 : Int) ≤ (t.roles : Int))))), .eq (.bool (((((decide ((0 : Int) ≤ (t.firm : Int))) && (decide ((t.firm : Int) < (8 : Int)))) && (decide ((0 : Int) ≤ (t.desk : Int)))) && (decide ((t.desk : Int) < (16 : Int)))) && (decide ((0 : Int) ≤ (t.roles : Int))))), .cond (((((decide ((0 : Int) ≤ (t.firm : Int))) && (decide ((t.firm : Int) < (8 : Int)))) && (decide ((0 : Int) ≤ (t.desk : Int)))) && (decide ((t.desk : Int) < (16 : Int)))) && (decide ((0 : Int) ≤ (t.roles : Int)))) (.eq (.pointer (some ⟨g, 2, none⟩))), .cond (((((decide ((0 : Int) ≤ (t.firm : Int))) && (decide ((t.firm : Int) < (8 : Int)))) && (decide ((0 : Int) ≤ (t.desk : Int)))) && (decide ((t.desk : Int) < (16 : Int)))) && (decide ((0 : Int) ≤ (t.roles : Int)))) (.eq (.int .i64 t.roles)), .cond (((((decide ((0 : Int) ≤ (t.firm : Int))) && (decide ((t.firm : Int) < (8 : Int)))) && (decide ((0 : Int) ≤ (t.desk : Int)))) && (decide ((t.desk : Int) < (16 : Int)))) && (decide ((0 : Int) ≤ (t.roles : Int)))) (.eq (.bool (decide ((t.roles : Int) < (16 : Int))))), .eq (.bool ((((((decide ((0 : Int) ≤ (t.firm : Int))) && (decide ((t.firm : Int) < (8 : Int)))) && (decide ((0 : Int) ≤ (t.desk : Int)))) && (decide ((t.desk : Int) < (16 : Int)))) && (decide ((0 : Int) ≤ (t.roles : Int)))) && (decide ((t.roles : Int) < (16 : Int))))), .eq (.bool ((((((decide ((0 : Int) ≤ (t.firm : Int))) && (decide ((t.firm : Int) < (8 : Int)))) && (decide ((0 : Int) ≤ (t.desk : Int)))) && (decide ((t.desk : Int) < (16 : Int)))) && (decide ((0 : Int) ≤ (t.roles : Int)))) && (decide ((t.roles : Int) < (16 : Int))))), .cond ((((((decide ((0 : Int) ≤ (t.firm : Int))) && (decide ((t.firm : Int) < (8 : Int)))) && (decide ((0 : Int) ≤ (t.desk : Int)))) && (decide ((t.desk : Int) < (16 : Int)))) && (decide ((0 : Int) ≤ (t.roles : Int)))) && (decide ((t.roles : Int) < (16 : Int)))) (.eq (.pointer (some ⟨g, 3, none⟩))), .cond ((((((decide ((0 : Int) ≤ (t.firm : Int))) && (decide ((t.firm : Int) < (8 : Int)))) && (decide ((0 : Int) ≤ (t.desk : Int)))) && (decide ((t.desk : Int) < (16 : Int)))) && (decide ((0 : Int) ≤ (t.roles : Int)))) && (decide ((t.roles : Int) < (16 : Int)))) (.eq (.int .i64 t.insts)), .cond ((((((decide ((0 : Int) ≤ (t.firm : Int))) && (decide ((t.firm : Int) < (8 : Int)))) && (decide ((0 : Int) ≤ (t.desk : Int)))) && (decide ((t.desk : Int) < (16 : Int)))) && (decide ((0 : Int) ≤ (t.roles : Int)))) && (decide ((t.roles : Int) < (16 : Int)))) (.eq (.bool (decide ((0 : Int) ≤ (t.insts : Int))))), .eq (.bool (((((((decide ((0 : Int) ≤ (t.firm : Int))) && (decide ((t.firm : Int) < (8 : Int)))) && (decide ((0 : Int) ≤ (t.desk : Int)))) && (decide ((t.desk : Int) < (16 : Int)))) && (decide ((0 : Int) ≤ (t.roles : Int)))) && (decide ((t.roles : Int) < (16 : Int)))) && (decide ((0 : Int) ≤ (t.insts : Int))))), .eq (.bool (((((((decide ((0 : Int) ≤ (t.firm : Int))) && (decide ((t.firm : Int) < (8 : Int)))) && (decide ((0 : Int) ≤ (t.desk : Int)))) && (decide ((t.desk : Int) < (16 : Int)))) && (decide ((0 : Int) ≤ (t.roles : Int)))) && (decide ((t.roles : Int) < (16 : Int)))) && (decide ((0 : Int) ≤ (t.insts : Int))))), .cond (((((((decide ((0 : Int) ≤ (t.firm : Int))) && (decide ((t.firm : Int) < (8 : Int)))) && (decide ((0 : Int) ≤ (t.desk : Int)))) && (decide ((t.desk : Int) < (16 : Int)))) && (decide ((0 : Int) ≤ (t.roles : Int)))) && (decide ((t.roles : Int) < (16 : Int)))) && (decide ((0 : Int) ≤ (t.insts : Int)))) (.eq (.pointer (some ⟨g, 3, none⟩))), .cond (((((((decide ((0 : Int) ≤ (t.firm : Int))) && (decide ((t.firm : Int) < (8 : Int)))) && (decide ((0 : Int) ≤ (t.desk : Int)))) && (decide ((t.desk : Int) < (16 : Int)))) && (decide ((0 : Int) ≤ (t.roles : Int)))) && (decide ((t.roles : Int) < (16 : Int)))) && (decide ((0 : Int) ≤ (t.insts : Int)))) (.eq (.int .i64 t.insts)), .cond (((((((decide ((0 : Int) ≤ (t.firm : Int))) && (decide ((t.firm : Int) < (8 : Int)))) && (decide ((0 : Int) ≤ (t.desk : Int)))) && (decide ((t.desk : Int) < (16 : Int)))) && (decide ((0 : Int) ≤ (t.roles : Int)))) && (decide ((t.roles : Int) < (16 : Int)))) && (decide ((0 : Int) ≤ (t.insts : Int)))) (.eq (.bool (decide ((t.insts : Int) < (256 : Int))))), .eq (.bool ((((((((decide ((0 : Int) ≤ (t.firm : Int))) && (decide ((t.firm : Int) < (8 : Int)))) && (decide ((0 : Int) ≤ (t.desk : Int)))) && (decide ((t.desk : Int) < (16 : Int)))) && (decide ((0 : Int) ≤ (t.roles : Int)))) && (decide ((t.roles : Int) < (16 : Int)))) && (decide ((0 : Int) ≤ (t.insts : Int)))) && (decide ((t.insts : Int) < (256 : Int))))), .eq (.bool ((((((((decide ((0 : Int) ≤ (t.firm : Int))) && (decide ((t.firm : Int) < (8 : Int)))) && (decide ((0 : Int) ≤ (t.desk : Int)))) && (decide ((t.desk : Int) < (16 : Int)))) && (decide ((0 : Int) ≤ (t.roles : Int)))) && (decide ((t.roles : Int) < (16 : Int)))) && (decide ((0 : Int) ≤ (t.insts : Int)))) && (decide ((t.insts : Int) < (256 : Int)))))] rfl (by kernel_rfl) ?_ ?_
  · refine sv 1 rfl rfl rfl (fun a u hE hD hk => exec_fldo 35 0 0 (.tmp 1) (g) (0) (0) rfl (hE 1 (.pointer (some ⟨g, 0, none⟩)) (by kernel_rfl) (by kernel_rfl)) (by kernel_rfl) rfl) ?_
    refine sv 2 rfl rfl rfl (fun a u hE hD hk => exec_loadi 3 Tryd.underlying3 (.tmp 3) ⟨g, 0, none⟩ (.int .i64 t.firm) rfl (hD 0 3 (by kernel_rfl)) ((range_kept (HB0.out) hk) 0 _ rfl)) ?_
    refine sv 3 rfl rfl rfl (fun a u hE hD hk => exec_gen (p := t.firm) (q := 0) rfl (hD 1 4 (by kernel_rfl)) rfl) ?_
    refine sv 4 rfl rfl rfl (fun a u hE hD hk => exec_move (.tmp 5) _ rfl (hD 2 5 (by kernel_rfl))) ?_
    refine fsteps_cons 5 rfl (fun a u hE hD hk => f_if ((decide ((0 : Int) ≤ (t.firm : Int)))) rfl rfl rfl (hD 3 6 (by kernel_rfl)) (fun hb => f_val (o := ⟨some 7, _, _, _, _, _⟩) (.pointer (some ⟨g, 0, none⟩)) rfl (wanted_b rfl rfl (hD 3 6 (by kernel_rfl)) (eq_true_of hb)) (exec_fldo 35 0 0 (.tmp 1) (g) (0) (0) rfl (hE 1 (.pointer (some ⟨g, 0, none⟩)) (by kernel_rfl) (by kernel_rfl)) (by kernel_rfl) rfl) rfl)) ?_
    refine fsteps_cons 6 rfl (fun a u hE hD hk => f_if ((decide ((0 : Int) ≤ (t.firm : Int)))) rfl rfl rfl (hD 3 6 (by kernel_rfl)) (fun hb => f_val (o := ⟨some 8, _, _, _, _, _⟩) (.int .i64 t.firm) rfl (wanted_b rfl rfl (hD 3 6 (by kernel_rfl)) (eq_true_of hb)) (exec_loadi 3 Tryd.underlying3 (.tmp 7) ⟨g, 0, none⟩ (.int .i64 t.firm) rfl ((hD 4 7 (by kernel_rfl)).1 hb) ((range_kept (HB0.out) hk) 0 _ rfl)) rfl)) ?_
    refine fsteps_cons 7 rfl (fun a u hE hD hk => f_if ((decide ((0 : Int) ≤ (t.firm : Int)))) rfl rfl rfl (hD 3 6 (by kernel_rfl)) (fun hb => f_val (o := ⟨some 9, _, _, _, _, _⟩) (.bool (decide ((t.firm : Int) < (8 : Int)))) rfl (wanted_b rfl rfl (hD 3 6 (by kernel_rfl)) (eq_true_of hb)) (exec_ltn (p := t.firm) (q := 8) rfl ((hD 5 8 (by kernel_rfl)).1 hb) rfl) rfl)) ?_
    refine sv 8 rfl rfl rfl (fun a u hE hD hk => exec_pickand (.tmp 6) (.tmp 9) (.const (.bool false)) ((decide ((0 : Int) ≤ (t.firm : Int)))) ((decide ((t.firm : Int) < (8 : Int)))) rfl (hD 3 6 (by kernel_rfl)) (fun hb2 => ((hD 6 9 (by kernel_rfl)).1 hb2)) rfl) ?_
    refine sv 9 rfl rfl rfl (fun a u hE hD hk => exec_move (.tmp 10) _ rfl (hD 7 10 (by kernel_rfl))) ?_
    refine fsteps_cons 10 rfl (fun a u hE hD hk => f_if (((decide ((0 : Int) ≤ (t.firm : Int))) && (decide ((t.firm : Int) < (8 : Int))))) rfl rfl rfl (hD 8 11 (by kernel_rfl)) (fun hb => f_val (o := ⟨some 12, _, _, _, _, _⟩) (.pointer (some ⟨g, 1, none⟩)) rfl (wanted_b rfl rfl (hD 8 11 (by kernel_rfl)) (eq_true_of hb)) (exec_fldo 35 1 1 (.tmp 1) (g) (0) (1) rfl (hE 1 (.pointer (some ⟨g, 0, none⟩)) (by kernel_rfl) (by kernel_rfl)) (by kernel_rfl) rfl) rfl)) ?_
    refine fsteps_cons 11 rfl (fun a u hE hD hk => f_if (((decide ((0 : Int) ≤ (t.firm : Int))) && (decide ((t.firm : Int) < (8 : Int))))) rfl rfl rfl (hD 8 11 (by kernel_rfl)) (fun hb => f_val (o := ⟨some 13, _, _, _, _, _⟩) (.int .i64 t.desk) rfl (wanted_b rfl rfl (hD 8 11 (by kernel_rfl)) (eq_true_of hb)) (exec_loadi 3 Tryd.underlying3 (.tmp 12) ⟨g, 1, none⟩ (.int .i64 t.desk) rfl ((hD 9 12 (by kernel_rfl)).1 hb) ((range_kept (HB0.out) hk) 1 _ rfl)) rfl)) ?_
    refine fsteps_cons 12 rfl (fun a u hE hD hk => f_if (((decide ((0 : Int) ≤ (t.firm : Int))) && (decide ((t.firm : Int) < (8 : Int))))) rfl rfl rfl (hD 8 11 (by kernel_rfl)) (fun hb => f_val (o := ⟨some 14, _, _, _, _, _⟩) (.bool (decide ((0 : Int) ≤ (t.desk : Int)))) rfl (wanted_b rfl rfl (hD 8 11 (by kernel_rfl)) (eq_true_of hb)) (exec_gen (p := t.desk) (q := 0) rfl ((hD 10 13 (by kernel_rfl)).1 hb) rfl) rfl)) ?_
    refine sv 13 rfl rfl rfl (fun a u hE hD hk => exec_pickand (.tmp 11) (.tmp 14) (.const (.bool false)) (((decide ((0 : Int) ≤ (t.firm : Int))) && (decide ((t.firm : Int) < (8 : Int))))) ((decide ((0 : Int) ≤ (t.desk : Int)))) rfl (hD 8 11 (by kernel_rfl)) (fun hb2 => ((hD 11 14 (by kernel_rfl)).1 hb2)) rfl) ?_
    refine sv 14 rfl rfl rfl (fun a u hE hD hk => exec_move (.tmp 15) _ rfl (hD 12 15 (by kernel_rfl))) ?_
    refine fsteps_cons 15 rfl (fun a u hE hD hk => f_if ((((decide ((0 : Int) ≤ (t.firm : Int))) && (decide ((t.firm : Int) < (8 : Int)))) && (decide ((0 : Int) ≤ (t.desk : Int))))) rfl rfl rfl (hD 13 16 (by kernel_rfl)) (fun hb => f_val (o := ⟨some 17, _, _, _, _, _⟩) (.pointer (some ⟨g, 1, none⟩)) rfl (wanted_b rfl rfl (hD 13 16 (by kernel_rfl)) (eq_true_of hb)) (exec_fldo 35 1 1 (.tmp 1) (g) (0) (1) rfl (hE 1 (.pointer (some ⟨g, 0, none⟩)) (by kernel_rfl) (by kernel_rfl)) (by kernel_rfl) rfl) rfl)) ?_
    refine fsteps_cons 16 rfl (fun a u hE hD hk => f_if ((((decide ((0 : Int) ≤ (t.firm : Int))) && (decide ((t.firm : Int) < (8 : Int)))) && (decide ((0 : Int) ≤ (t.desk : Int))))) rfl rfl rfl (hD 13 16 (by kernel_rfl)) (fun hb => f_val (o := ⟨some 18, _, _, _, _, _⟩) (.int .i64 t.desk) rfl (wanted_b rfl rfl (hD 13 16 (by kernel_rfl)) (eq_true_of hb)) (exec_loadi 3 Tryd.underlying3 (.tmp 17) ⟨g, 1, none⟩ (.int .i64 t.desk) rfl ((hD 14 17 (by kernel_rfl)).1 hb) ((range_kept (HB0.out) hk) 1 _ rfl)) rfl)) ?_
    refine fsteps_cons 17 rfl (fun a u hE hD hk => f_if ((((decide ((0 : Int) ≤ (t.firm : Int))) && (decide ((t.firm : Int) < (8 : Int)))) && (decide ((0 : Int) ≤ (t.desk : Int))))) rfl rfl rfl (hD 13 16 (by kernel_rfl)) (fun hb => f_val (o := ⟨some 19, _, _, _, _, _⟩) (.bool (decide ((t.desk : Int) < (16 : Int)))) rfl (wanted_b rfl rfl (hD 13 16 (by kernel_rfl)) (eq_true_of hb)) (exec_ltn (p := t.desk) (q := 16) rfl ((hD 15 18 (by kernel_rfl)).1 hb) rfl) rfl)) ?_
    refine sv 18 rfl rfl rfl (fun a u hE hD hk => exec_pickand (.tmp 16) (.tmp 19) (.const (.bool false)) ((((decide ((0 : Int) ≤ (t.firm : Int))) && (decide ((t.firm : Int) < (8 : Int)))) && (decide ((0 : Int) ≤ (t.desk : Int))))) ((decide ((t.desk : Int) < (16 : Int)))) rfl (hD 13 16 (by kernel_rfl)) (fun hb2 => ((hD 16 19 (by kernel_rfl)).1 hb2)) rfl) ?_
    refine sv 19 rfl rfl rfl (fun a u hE hD hk => exec_move (.tmp 20) _ rfl (hD 17 20 (by kernel_rfl))) ?_
    refine fsteps_cons 20 rfl (fun a u hE hD hk => f_if (((((decide ((0 : Int) ≤ (t.firm : Int))) && (decide ((t.firm : Int) < (8 : Int)))) && (decide ((0 : Int) ≤ (t.desk : Int)))) && (decide ((t.desk : Int) < (16 : Int))))) rfl rfl rfl (hD 18 21 (by kernel_rfl)) (fun hb => f_val (o := ⟨some 22, _, _, _, _, _⟩) (.pointer (some ⟨g, 2, none⟩)) rfl (wanted_b rfl rfl (hD 18 21 (by kernel_rfl)) (eq_true_of hb)) (exec_fldo 35 2 2 (.tmp 1) (g) (0) (2) rfl (hE 1 (.pointer (some ⟨g, 0, none⟩)) (by kernel_rfl) (by kernel_rfl)) (by kernel_rfl) rfl) rfl)) ?_
    refine fsteps_cons 21 rfl (fun a u hE hD hk => f_if (((((decide ((0 : Int) ≤ (t.firm : Int))) && (decide ((t.firm : Int) < (8 : Int)))) && (decide ((0 : Int) ≤ (t.desk : Int)))) && (decide ((t.desk : Int) < (16 : Int))))) rfl rfl rfl (hD 18 21 (by kernel_rfl)) (fun hb => f_val (o := ⟨some 23, _, _, _, _, _⟩) (.int .i64 t.roles) rfl (wanted_b rfl rfl (hD 18 21 (by kernel_rfl)) (eq_true_of hb)) (exec_loadi 3 Tryd.underlying3 (.tmp 22) ⟨g, 2, none⟩ (.int .i64 t.roles) rfl ((hD 19 22 (by kernel_rfl)).1 hb) ((range_kept (HB0.out) hk) 2 _ rfl)) rfl)) ?_
    refine fsteps_cons 22 rfl (fun a u hE hD hk => f_if (((((decide ((0 : Int) ≤ (t.firm : Int))) && (decide ((t.firm : Int) < (8 : Int)))) && (decide ((0 : Int) ≤ (t.desk : Int)))) && (decide ((t.desk : Int) < (16 : Int))))) rfl rfl rfl (hD 18 21 (by kernel_rfl)) (fun hb => f_val (o := ⟨some 24, _, _, _, _, _⟩) (.bool (decide ((0 : Int) ≤ (t.roles : Int)))) rfl (wanted_b rfl rfl (hD 18 21 (by kernel_rfl)) (eq_true_of hb)) (exec_gen (p := t.roles) (q := 0) rfl ((hD 20 23 (by kernel_rfl)).1 hb) rfl) rfl)) ?_
    refine sv 23 rfl rfl rfl (fun a u hE hD hk => exec_pickand (.tmp 21) (.tmp 24) (.const (.bool false)) (((((decide ((0 : Int) ≤ (t.firm : Int))) && (decide ((t.firm : Int) < (8 : Int)))) && (decide ((0 : Int) ≤ (t.desk : Int)))) && (decide ((t.desk : Int) < (16 : Int))))) ((decide ((0 : Int) ≤ (t.roles : Int)))) rfl (hD 18 21 (by kernel_rfl)) (fun hb2 => ((hD 21 24 (by kernel_rfl)).1 hb2)) rfl) ?_
    refine sv 24 rfl rfl rfl (fun a u hE hD hk => exec_move (.tmp 25) _ rfl (hD 22 25 (by kernel_rfl))) ?_
    refine fsteps_cons 25 rfl (fun a u hE hD hk => f_if ((((((decide ((0 : Int) ≤ (t.firm : Int))) && (decide ((t.firm : Int) < (8 : Int)))) && (decide ((0 : Int) ≤ (t.desk : Int)))) && (decide ((t.desk : Int) < (16 : Int)))) && (decide ((0 : Int) ≤ (t.roles : Int))))) rfl rfl rfl (hD 23 26 (by kernel_rfl)) (fun hb => f_val (o := ⟨some 27, _, _, _, _, _⟩) (.pointer (some ⟨g, 2, none⟩)) rfl (wanted_b rfl rfl (hD 23 26 (by kernel_rfl)) (eq_true_of hb)) (exec_fldo 35 2 2 (.tmp 1) (g) (0) (2) rfl (hE 1 (.pointer (some ⟨g, 0, none⟩)) (by kernel_rfl) (by kernel_rfl)) (by kernel_rfl) rfl) rfl)) ?_
    refine fsteps_cons 26 rfl (fun a u hE hD hk => f_if ((((((decide ((0 : Int) ≤ (t.firm : Int))) && (decide ((t.firm : Int) < (8 : Int)))) && (decide ((0 : Int) ≤ (t.desk : Int)))) && (decide ((t.desk : Int) < (16 : Int)))) && (decide ((0 : Int) ≤ (t.roles : Int))))) rfl rfl rfl (hD 23 26 (by kernel_rfl)) (fun hb => f_val (o := ⟨some 28, _, _, _, _, _⟩) (.int .i64 t.roles) rfl (wanted_b rfl rfl (hD 23 26 (by kernel_rfl)) (eq_true_of hb)) (exec_loadi 3 Tryd.underlying3 (.tmp 27) ⟨g, 2, none⟩ (.int .i64 t.roles) rfl ((hD 24 27 (by kernel_rfl)).1 hb) ((range_kept (HB0.out) hk) 2 _ rfl)) rfl)) ?_
    refine fsteps_cons 27 rfl (fun a u hE hD hk => f_if ((((((decide ((0 : Int) ≤ (t.firm : Int))) && (decide ((t.firm : Int) < (8 : Int)))) && (decide ((0 : Int) ≤ (t.desk : Int)))) && (decide ((t.desk : Int) < (16 : Int)))) && (decide ((0 : Int) ≤ (t.roles : Int))))) rfl rfl rfl (hD 23 26 (by kernel_rfl)) (fun hb => f_val (o := ⟨some 29, _, _, _, _, _⟩) (.bool (decide ((t.roles : Int) < (16 : Int)))) rfl (wanted_b rfl rfl (hD 23 26 (by kernel_rfl)) (eq_true_of hb)) (exec_ltn (p := t.roles) (q := 16) rfl ((hD 25 28 (by kernel_rfl)).1 hb) rfl) rfl)) ?_
    refine sv 28 rfl rfl rfl (fun a u hE hD hk => exec_pickand (.tmp 26) (.tmp 29) (.const (.bool false)) ((((((decide ((0 : Int) ≤ (t.firm : Int))) && (decide ((t.firm : Int) < (8 : Int)))) && (decide ((0 : Int) ≤ (t.desk : Int)))) && (decide ((t.desk : Int) < (16 : Int)))) && (decide ((0 : Int) ≤ (t.roles : Int))))) ((decide ((t.roles : Int) < (16 : Int)))) rfl (hD 23 26 (by kernel_rfl)) (fun hb2 => ((hD 26 29 (by kernel_rfl)).1 hb2)) rfl) ?_
    refine sv 29 rfl rfl rfl (fun a u hE hD hk => exec_move (.tmp 30) _ rfl (hD 27 30 (by kernel_rfl))) ?_
    refine fsteps_cons 30 rfl (fun a u hE hD hk => f_if (((((((decide ((0 : Int) ≤ (t.firm : Int))) && (decide ((t.firm : Int) < (8 : Int)))) && (decide ((0 : Int) ≤ (t.desk : Int)))) && (decide ((t.desk : Int) < (16 : Int)))) && (decide ((0 : Int) ≤ (t.roles : Int)))) && (decide ((t.roles : Int) < (16 : Int))))) rfl rfl rfl (hD 28 31 (by kernel_rfl)) (fun hb => f_val (o := ⟨some 32, _, _, _, _, _⟩) (.pointer (some ⟨g, 3, none⟩)) rfl (wanted_b rfl rfl (hD 28 31 (by kernel_rfl)) (eq_true_of hb)) (exec_fldo 35 3 3 (.tmp 1) (g) (0) (3) rfl (hE 1 (.pointer (some ⟨g, 0, none⟩)) (by kernel_rfl) (by kernel_rfl)) (by kernel_rfl) rfl) rfl)) ?_
    refine fsteps_cons 31 rfl (fun a u hE hD hk => f_if (((((((decide ((0 : Int) ≤ (t.firm : Int))) && (decide ((t.firm : Int) < (8 : Int)))) && (decide ((0 : Int) ≤ (t.desk : Int)))) && (decide ((t.desk : Int) < (16 : Int)))) && (decide ((0 : Int) ≤ (t.roles : Int)))) && (decide ((t.roles : Int) < (16 : Int))))) rfl rfl rfl (hD 28 31 (by kernel_rfl)) (fun hb => f_val (o := ⟨some 33, _, _, _, _, _⟩) (.int .i64 t.insts) rfl (wanted_b rfl rfl (hD 28 31 (by kernel_rfl)) (eq_true_of hb)) (exec_loadi 3 Tryd.underlying3 (.tmp 32) ⟨g, 3, none⟩ (.int .i64 t.insts) rfl ((hD 29 32 (by kernel_rfl)).1 hb) ((range_kept (HB0.out) hk) 3 _ rfl)) rfl)) ?_
    refine fsteps_cons 32 rfl (fun a u hE hD hk => f_if (((((((decide ((0 : Int) ≤ (t.firm : Int))) && (decide ((t.firm : Int) < (8 : Int)))) && (decide ((0 : Int) ≤ (t.desk : Int)))) && (decide ((t.desk : Int) < (16 : Int)))) && (decide ((0 : Int) ≤ (t.roles : Int)))) && (decide ((t.roles : Int) < (16 : Int))))) rfl rfl rfl (hD 28 31 (by kernel_rfl)) (fun hb => f_val (o := ⟨some 34, _, _, _, _, _⟩) (.bool (decide ((0 : Int) ≤ (t.insts : Int)))) rfl (wanted_b rfl rfl (hD 28 31 (by kernel_rfl)) (eq_true_of hb)) (exec_gen (p := t.insts) (q := 0) rfl ((hD 30 33 (by kernel_rfl)).1 hb) rfl) rfl)) ?_
    refine sv 33 rfl rfl rfl (fun a u hE hD hk => exec_pickand (.tmp 31) (.tmp 34) (.const (.bool false)) (((((((decide ((0 : Int) ≤ (t.firm : Int))) && (decide ((t.firm : Int) < (8 : Int)))) && (decide ((0 : Int) ≤ (t.desk : Int)))) && (decide ((t.desk : Int) < (16 : Int)))) && (decide ((0 : Int) ≤ (t.roles : Int)))) && (decide ((t.roles : Int) < (16 : Int))))) ((decide ((0 : Int) ≤ (t.insts : Int)))) rfl (hD 28 31 (by kernel_rfl)) (fun hb2 => ((hD 31 34 (by kernel_rfl)).1 hb2)) rfl) ?_
    refine sv 34 rfl rfl rfl (fun a u hE hD hk => exec_move (.tmp 35) _ rfl (hD 32 35 (by kernel_rfl))) ?_
    refine fsteps_cons 35 rfl (fun a u hE hD hk => f_if ((((((((decide ((0 : Int) ≤ (t.firm : Int))) && (decide ((t.firm : Int) < (8 : Int)))) && (decide ((0 : Int) ≤ (t.desk : Int)))) && (decide ((t.desk : Int) < (16 : Int)))) && (decide ((0 : Int) ≤ (t.roles : Int)))) && (decide ((t.roles : Int) < (16 : Int)))) && (decide ((0 : Int) ≤ (t.insts : Int))))) rfl rfl rfl (hD 33 36 (by kernel_rfl)) (fun hb => f_val (o := ⟨some 37, _, _, _, _, _⟩) (.pointer (some ⟨g, 3, none⟩)) rfl (wanted_b rfl rfl (hD 33 36 (by kernel_rfl)) (eq_true_of hb)) (exec_fldo 35 3 3 (.tmp 1) (g) (0) (3) rfl (hE 1 (.pointer (some ⟨g, 0, none⟩)) (by kernel_rfl) (by kernel_rfl)) (by kernel_rfl) rfl) rfl)) ?_
    refine fsteps_cons 36 rfl (fun a u hE hD hk => f_if ((((((((decide ((0 : Int) ≤ (t.firm : Int))) && (decide ((t.firm : Int) < (8 : Int)))) && (decide ((0 : Int) ≤ (t.desk : Int)))) && (decide ((t.desk : Int) < (16 : Int)))) && (decide ((0 : Int) ≤ (t.roles : Int)))) && (decide ((t.roles : Int) < (16 : Int)))) && (decide ((0 : Int) ≤ (t.insts : Int))))) rfl rfl rfl (hD 33 36 (by kernel_rfl)) (fun hb => f_val (o := ⟨some 38, _, _, _, _, _⟩) (.int .i64 t.insts) rfl (wanted_b rfl rfl (hD 33 36 (by kernel_rfl)) (eq_true_of hb)) (exec_loadi 3 Tryd.underlying3 (.tmp 37) ⟨g, 3, none⟩ (.int .i64 t.insts) rfl ((hD 34 37 (by kernel_rfl)).1 hb) ((range_kept (HB0.out) hk) 3 _ rfl)) rfl)) ?_
    refine fsteps_cons 37 rfl (fun a u hE hD hk => f_if ((((((((decide ((0 : Int) ≤ (t.firm : Int))) && (decide ((t.firm : Int) < (8 : Int)))) && (decide ((0 : Int) ≤ (t.desk : Int)))) && (decide ((t.desk : Int) < (16 : Int)))) && (decide ((0 : Int) ≤ (t.roles : Int)))) && (decide ((t.roles : Int) < (16 : Int)))) && (decide ((0 : Int) ≤ (t.insts : Int))))) rfl rfl rfl (hD 33 36 (by kernel_rfl)) (fun hb => f_val (o := ⟨some 39, _, _, _, _, _⟩) (.bool (decide ((t.insts : Int) < (256 : Int)))) rfl (wanted_b rfl rfl (hD 33 36 (by kernel_rfl)) (eq_true_of hb)) (exec_ltn (p := t.insts) (q := 256) rfl ((hD 35 38 (by kernel_rfl)).1 hb) rfl) rfl)) ?_
    refine sv 38 rfl rfl rfl (fun a u hE hD hk => exec_pickand (.tmp 36) (.tmp 39) (.const (.bool false)) ((((((((decide ((0 : Int) ≤ (t.firm : Int))) && (decide ((t.firm : Int) < (8 : Int)))) && (decide ((0 : Int) ≤ (t.desk : Int)))) && (decide ((t.desk : Int) < (16 : Int)))) && (decide ((0 : Int) ≤ (t.roles : Int)))) && (decide ((t.roles : Int) < (16 : Int)))) && (decide ((0 : Int) ≤ (t.insts : Int))))) ((decide ((t.insts : Int) < (256 : Int)))) rfl (hD 33 36 (by kernel_rfl)) (fun hb2 => ((hD 36 39 (by kernel_rfl)).1 hb2)) rfl) ?_
    refine sv 39 rfl rfl rfl (fun a u hE hD hk => exec_assign (.tmp 40) _ rfl (hD 37 40 (by kernel_rfl))) ?_
    exact fsteps_nil
  intro gv w1 hV k1
  rw [show dstsOf _ 39 = [3, 4, 5, 6, 7, 8, 9, 10, 11, 12, 13, 14, 15, 16, 17, 18, 19, 20, 21, 22, 23, 24, 25, 26, 27, 28, 29, 30, 31, 32, 33, 34, 35, 36, 37, 38, 39, 40, 2] by kernel_rfl]
  simp only [List.foldl_cons, List.foldl_nil, List.setIfInBounds_toArray, List.set_cons_succ, List.set_cons_zero, List.drop_succ_cons, List.drop_zero]
  rw [show gv 2 = .bool ((((((((decide ((0 : Int) ≤ (t.firm : Int))) && (decide ((t.firm : Int) < (8 : Int)))) && (decide ((0 : Int) ≤ (t.desk : Int)))) && (decide ((t.desk : Int) < (16 : Int)))) && (decide ((0 : Int) ≤ (t.roles : Int)))) && (decide ((t.roles : Int) < (16 : Int)))) && (decide ((0 : Int) ≤ (t.insts : Int)))) && (decide ((t.insts : Int) < (256 : Int)))) from hV 38 2 (by kernel_rfl)]
  clear hV
  refine wpList_nil ?_
  have kw1 := kw0.trans k1
  go_wp2
  go_ret
  exact ⟨_, rfl, (congrArg Value.bool (rright_eq t)).symm ▸ rfl, kw1⟩
def Trds.there (X : Trds) (n : Int) : Bool := upB n 31 && decide ((X.at_ n.toNat).roles ≠ 0)
theorem there_in {X : Trds} {i : Nat} (hi : i < 32) : X.there (i : Int) = decide ((X.at_ i).roles ≠ 0) := by
  unfold Trds.there
  rw [upB_true (by omega) (by omega), Int.toNat_natCast, Bool.true_and]
theorem there_out {X : Trds} {n : Int} (h : n < 0 ∨ 31 < n) : X.there n = false := by
  unfold Trds.there
  rw [upB_false h, Bool.false_and]
theorem there_lt {X : Trds} {n : Int} (h : X.there n = true) : ∃ i : Nat, i < 32 ∧ n = (i : Int) := by
  by_cases h0 : n < 0 ∨ 31 < n
  · rw [there_out h0] at h; cases h
  · exact ⟨n.toNat, by omega, by omega⟩
set_option maxRecDepth 100000 in
theorem there_any (w : World) (p : Nat) (X : Trds) (n : Int) (hB : Blk w p 58 X.cells) : Gives 16 #[.pointer (some ⟨p, 0, none⟩), .int .i64 n] w (.eq (.bool (X.there n))) := by
  refine gives_eq ?_
  have HB := Lib.hid hB
  clear hB
  by_cases h0 : n < 0 ∨ 31 < n
  · have HU := Lib.hid (upB_false h0)
    have HT := Lib.hid (there_out (X := X) h0)
    clear h0
    go_enter Tryd.func16, Tryd.ntmps16
    go_upto_region 1 with fail
    refine wp_text 13 [.eq (.int .i64 n), .eq (.bool false), .eq (.bool false), .eq undef, .eq undef, .eq undef, .eq undef, .eq undef, .eq undef, .eq undef, .eq undef, .eq (.bool false), .eq (.bool false)] rfl (by kernel_rfl) ?_ ?_
    · refine sv 1 rfl rfl rfl (fun a u hE hD hk => exec_move (.tmp 1) _ rfl (hE 1 (.int .i64 n) (by kernel_rfl) (by kernel_rfl))) ?_
      refine fsteps_cons 2 rfl (fun a u hE hD hk => f_call (o := ⟨some 6, _, _, _, _, _⟩) 25 #[.int .i64 n, .int .i64 31] rfl (wanted_none rfl _) (exec_call 25 _ [.tmp 5, .const (.int .i64 31)] _ [.int .i64 n, .int .i64 31] Tryd.func25 (by kernel_rfl) (by kernel_rfl) rfl (show [a.eval (.tmp 5), a.eval (.const (.int .i64 31))] = [.int .i64 n, .int .i64 31] from (by rw [show a.eval (.tmp 5) = .int .i64 n from (hD 0 5 (by kernel_rfl))] <;> rfl)) u) (by rw [← HU.out]; exact upto_any n 31 u)) ?_
      refine sv 3 rfl rfl rfl (fun a u hE hD hk => exec_move (.tmp 6) _ rfl (hD 1 6 (by kernel_rfl))) ?_
      refine fsteps_cons 4 rfl (fun a u hE hD hk => f_skip (o := ⟨some 8, _, _, _, _, _⟩) rfl (wanted_at (b := true) false rfl rfl (hD 2 7 (by kernel_rfl))) rfl) ?_
      refine fsteps_cons 5 rfl (fun a u hE hD hk => f_skip (o := ⟨some 9, _, _, _, _, _⟩) rfl (wanted_at (b := true) false rfl rfl (hD 2 7 (by kernel_rfl))) rfl) ?_
      refine fsteps_cons 6 rfl (fun a u hE hD hk => f_skip (o := ⟨some 10, _, _, _, _, _⟩) rfl (wanted_at (b := true) false rfl rfl (hD 2 7 (by kernel_rfl))) rfl) ?_
      refine fsteps_cons 7 rfl (fun a u hE hD hk => f_skip (o := ⟨some 11, _, _, _, _, _⟩) rfl (wanted_at (b := true) false rfl rfl (hD 2 7 (by kernel_rfl))) rfl) ?_
      refine fsteps_cons 8 rfl (fun a u hE hD hk => f_skip (o := ⟨some 12, _, _, _, _, _⟩) rfl (wanted_at (b := true) false rfl rfl (hD 2 7 (by kernel_rfl))) rfl) ?_
      refine fsteps_cons 9 rfl (fun a u hE hD hk => f_skip (o := ⟨some 13, _, _, _, _, _⟩) rfl (wanted_at (b := true) false rfl rfl (hD 2 7 (by kernel_rfl))) rfl) ?_
      refine fsteps_cons 10 rfl (fun a u hE hD hk => f_skip (o := ⟨some 14, _, _, _, _, _⟩) rfl (wanted_at (b := true) false rfl rfl (hD 2 7 (by kernel_rfl))) rfl) ?_
      refine fsteps_cons 11 rfl (fun a u hE hD hk => f_skip (o := ⟨some 15, _, _, _, _, _⟩) rfl (wanted_at (b := true) false rfl rfl (hD 2 7 (by kernel_rfl))) rfl) ?_
      refine sv 12 rfl rfl rfl (fun a u hE hD hk => exec_pickF (.tmp 7) (.tmp 15) (.const (.bool false)) (.bool false) rfl (hD 2 7 (by kernel_rfl)) rfl) ?_
      refine sv 13 rfl rfl rfl (fun a u hE hD hk => exec_assign (.tmp 16) _ rfl (hD 11 16 (by kernel_rfl))) ?_
      exact fsteps_nil
    intro gv w0 hV k0
    rw [show dstsOf _ 13 = [5, 6, 7, 8, 9, 10, 11, 12, 13, 14, 15, 16, 4] by kernel_rfl]
    simp only [List.foldl_cons, List.foldl_nil, List.setIfInBounds_toArray, List.set_cons_succ, List.set_cons_zero, List.drop_succ_cons, List.drop_zero]
    rw [show gv 4 = .bool false from hV 12 4 (by kernel_rfl)]
    clear hV
    refine wpList_nil ?_
    go_wp2
    go_ret
    exact ⟨ret_bool HT.out.symm, k0⟩
  · obtain ⟨i, hi, rfl⟩ : ∃ i : Nat, i < 32 ∧ n = (i : Int) := ⟨n.toNat, by omega, by omega⟩
    have HU := Lib.hid (upB_true (n := (i : Int)) (m := 31) (by omega) (by omega))
    have HT := Lib.hid (there_in (X := X) hi)
    clear h0
    go_enter Tryd.func16, Tryd.ntmps16
    go_upto_region 1 with fail
    refine wp_text 13 [.eq (.int .i64 (i : Int)), .eq (.bool true), .eq (.bool true), .eq (.pointer (some ⟨p, 0, none⟩)), .eq (.int .i64 (i : Int)), .eq (.pointer (some ⟨p, 0, none⟩)), .eq (.pointer (some ⟨p, 0, none⟩)), .eq (.pointer (some ⟨p, i * 37, none⟩)), .eq (.pointer (some ⟨p, i * 37 + 2, none⟩)), .eq (.int .i64 (X.at_ i).roles), .eq (.bool (decide (((X.at_ i).roles : Int) ≠ (0 : Int)))), .eq (.bool (decide (((X.at_ i).roles : Int) ≠ (0 : Int)))), .eq (.bool (decide (((X.at_ i).roles : Int) ≠ (0 : Int))))] rfl (by kernel_rfl) ?_ ?_
    · refine sv 1 rfl rfl rfl (fun a u hE hD hk => exec_move (.tmp 1) _ rfl (hE 1 (.int .i64 (i : Int)) (by kernel_rfl) (by kernel_rfl))) ?_
      refine fsteps_cons 2 rfl (fun a u hE hD hk => f_call (o := ⟨some 6, _, _, _, _, _⟩) 25 #[.int .i64 (i : Int), .int .i64 31] rfl (wanted_none rfl _) (exec_call 25 _ [.tmp 5, .const (.int .i64 31)] _ [.int .i64 (i : Int), .int .i64 31] Tryd.func25 (by kernel_rfl) (by kernel_rfl) rfl (show [a.eval (.tmp 5), a.eval (.const (.int .i64 31))] = [.int .i64 (i : Int), .int .i64 31] from (by rw [show a.eval (.tmp 5) = .int .i64 (i : Int) from (hD 0 5 (by kernel_rfl))] <;> rfl)) u) (by rw [← HU.out]; exact upto_any _ 31 u)) ?_
      refine sv 3 rfl rfl rfl (fun a u hE hD hk => exec_move (.tmp 6) _ rfl (hD 1 6 (by kernel_rfl))) ?_
      refine fsteps_cons 4 rfl (fun a u hE hD hk => f_val (o := ⟨some 8, _, _, _, _, _⟩) (.pointer (some ⟨p, 0, none⟩)) rfl (wanted_at (b := true) true rfl rfl (hD 2 7 (by kernel_rfl))) (exec_move (.tmp 0) _ rfl (hE 0 (.pointer (some ⟨p, 0, none⟩)) (by kernel_rfl) (by kernel_rfl))) rfl) ?_
      refine fsteps_cons 5 rfl (fun a u hE hD hk => f_val (o := ⟨some 9, _, _, _, _, _⟩) (.int .i64 (i : Int)) rfl (wanted_at (b := true) true rfl rfl (hD 2 7 (by kernel_rfl))) (exec_move (.tmp 1) _ rfl (hE 1 (.int .i64 (i : Int)) (by kernel_rfl) (by kernel_rfl))) rfl) ?_
      refine fsteps_cons 6 rfl (fun a u hE hD hk => f_val (o := ⟨some 10, _, _, _, _, _⟩) (.pointer (some ⟨p, 0, none⟩)) rfl (wanted_at (b := true) true rfl rfl (hD 2 7 (by kernel_rfl))) (exec_nilp (.tmp 8) ⟨p, 0, none⟩ rfl (hD 3 8 (by kernel_rfl))) rfl) ?_
      refine fsteps_cons 7 rfl (fun a u hE hD hk => f_val (o := ⟨some 11, _, _, _, _, _⟩) (.pointer (some ⟨p, 0, none⟩)) rfl (wanted_at (b := true) true rfl rfl (hD 2 7 (by kernel_rfl))) (exec_fldo 58 0 0 (.tmp 10) (p) (0) (0) rfl (hD 5 10 (by kernel_rfl)) (by kernel_rfl) rfl) rfl) ?_
      refine fsteps_cons 8 rfl (fun a u hE hD hk => f_val (o := ⟨some 12, _, _, _, _, _⟩) (.pointer (some ⟨p, i * 37, none⟩)) rfl (wanted_at (b := true) true rfl rfl (hD 2 7 (by kernel_rfl))) (exec_ixA (.tmp 11) (.tmp 9) (p) i ((i : Int)) rfl (hD 6 11 (by kernel_rfl)) (hD 4 9 (by kernel_rfl)) (by first | rfl | omega) (hi)) rfl) ?_
      refine fsteps_cons 9 rfl (fun a u hE hD hk => f_val (o := ⟨some 13, _, _, _, _, _⟩) (.pointer (some ⟨p, i * 37 + 2, none⟩)) rfl (wanted_at (b := true) true rfl rfl (hD 2 7 (by kernel_rfl))) (exec_fldo 35 2 2 (.tmp 12) (p) (i * 37) (i * 37 + 2) rfl (hD 7 12 (by kernel_rfl)) (by kernel_rfl) rfl) rfl) ?_
      refine fsteps_cons 10 rfl (fun a u hE hD hk => f_val (o := ⟨some 14, _, _, _, _, _⟩) (.int .i64 (X.at_ i).roles) rfl (wanted_at (b := true) true rfl rfl (hD 2 7 (by kernel_rfl))) (exec_loadi 3 Tryd.underlying3 (.tmp 13) ⟨p, i * 37 + 2, none⟩ (.int .i64 (X.at_ i).roles) rfl (hD 8 13 (by kernel_rfl)) ((range_kept ((trds_range HB.out hi)) hk) 2 _ rfl)) rfl) ?_
      refine fsteps_cons 11 rfl (fun a u hE hD hk => f_val (o := ⟨some 15, _, _, _, _, _⟩) (.bool (decide (((X.at_ i).roles : Int) ≠ (0 : Int)))) rfl (wanted_at (b := true) true rfl rfl (hD 2 7 (by kernel_rfl))) (exec_nen (p := (X.at_ i).roles) (q := 0) rfl (hD 9 14 (by kernel_rfl)) rfl) rfl) ?_
      refine sv 12 rfl rfl rfl (fun a u hE hD hk => exec_pick (.tmp 7) (.tmp 15) (.const (.bool false)) (.bool (decide (((X.at_ i).roles : Int) ≠ (0 : Int)))) rfl (hD 2 7 (by kernel_rfl)) (hD 10 15 (by kernel_rfl))) ?_
      refine sv 13 rfl rfl rfl (fun a u hE hD hk => exec_assign (.tmp 16) _ rfl (hD 11 16 (by kernel_rfl))) ?_
      exact fsteps_nil
    intro gv w0 hV k0
    rw [show dstsOf _ 13 = [5, 6, 7, 8, 9, 10, 11, 12, 13, 14, 15, 16, 4] by kernel_rfl]
    simp only [List.foldl_cons, List.foldl_nil, List.setIfInBounds_toArray, List.set_cons_succ, List.set_cons_zero, List.drop_succ_cons, List.drop_zero]
    rw [show gv 4 = .bool (decide (((X.at_ i).roles : Int) ≠ (0 : Int))) from hV 12 4 (by kernel_rfl)]
    clear hV
    refine wpList_nil ?_
    go_wp2
    go_ret
    exact ⟨ret_bool HT.out.symm, k0⟩
set_option maxRecDepth 100000 in
theorem rthere_any (w : World) (p : Nat) (X : Trds) (n : Int) (hB : Blk w p 60 X.cells) : Gives 24 #[.pointer (some ⟨p, 0, none⟩), .int .i64 n] w (.eq (.bool (X.there n))) := by
  refine gives_eq ?_
  have HB := Lib.hid hB
  clear hB
  by_cases h0 : n < 0
  · have HT := Lib.hid (there_out (X := X) (.inl h0))
    go_enter Tryd.func24, Tryd.ntmps24
    go_upto_region 1 with fail
    refine wp_text 17 [.eq (.int .i64 n), .eq (.bool false), .eq (.bool false), .eq undef, .eq undef, .eq (.bool false), .eq (.bool false), .eq undef, .eq undef, .eq undef, .eq undef, .eq undef, .eq undef, .eq undef, .eq undef, .eq (.bool false), .eq (.bool false)] rfl (by kernel_rfl) ?_ ?_
    · refine sv 1 rfl rfl rfl (fun a u hE hD hk => exec_move (.tmp 1) _ rfl (hE 1 (.int .i64 n) (by kernel_rfl) (by kernel_rfl))) ?_
      refine fsteps_cons 2 rfl (fun a u hE hD hk => f_as (show ((decide ((0 : Int) ≤ (n : Int))) : Bool) = false from decide_eq_false (by omega)) (f_val (o := ⟨some 6, _, _, _, _, _⟩) (.bool (decide ((0 : Int) ≤ (n : Int)))) rfl (wanted_none rfl _) (exec_gen (p := n) (q := 0) rfl (hD 0 5 (by kernel_rfl)) rfl) rfl)) ?_
      refine sv 3 rfl rfl rfl (fun a u hE hD hk => exec_move (.tmp 6) _ rfl (hD 1 6 (by kernel_rfl))) ?_
      refine fsteps_cons 4 rfl (fun a u hE hD hk => f_skip (o := ⟨some 8, _, _, _, _, _⟩) rfl (wanted_at (b := true) false rfl rfl (hD 2 7 (by kernel_rfl))) rfl) ?_
      refine fsteps_cons 5 rfl (fun a u hE hD hk => f_skip (o := ⟨some 9, _, _, _, _, _⟩) rfl (wanted_at (b := true) false rfl rfl (hD 2 7 (by kernel_rfl))) rfl) ?_
      refine sv 6 rfl rfl rfl (fun a u hE hD hk => exec_pickF (.tmp 7) (.tmp 9) (.const (.bool false)) (.bool false) rfl (hD 2 7 (by kernel_rfl)) rfl) ?_
      refine sv 7 rfl rfl rfl (fun a u hE hD hk => exec_move (.tmp 10) _ rfl (hD 5 10 (by kernel_rfl))) ?_
      refine fsteps_cons 8 rfl (fun a u hE hD hk => f_skip (o := ⟨some 12, _, _, _, _, _⟩) rfl (wanted_at (b := true) false rfl rfl (hD 6 11 (by kernel_rfl))) rfl) ?_
      refine fsteps_cons 9 rfl (fun a u hE hD hk => f_skip (o := ⟨some 13, _, _, _, _, _⟩) rfl (wanted_at (b := true) false rfl rfl (hD 6 11 (by kernel_rfl))) rfl) ?_
      refine fsteps_cons 10 rfl (fun a u hE hD hk => f_skip (o := ⟨some 14, _, _, _, _, _⟩) rfl (wanted_at (b := true) false rfl rfl (hD 6 11 (by kernel_rfl))) rfl) ?_
      refine fsteps_cons 11 rfl (fun a u hE hD hk => f_skip (o := ⟨some 15, _, _, _, _, _⟩) rfl (wanted_at (b := true) false rfl rfl (hD 6 11 (by kernel_rfl))) rfl) ?_
      refine fsteps_cons 12 rfl (fun a u hE hD hk => f_skip (o := ⟨some 16, _, _, _, _, _⟩) rfl (wanted_at (b := true) false rfl rfl (hD 6 11 (by kernel_rfl))) rfl) ?_
      refine fsteps_cons 13 rfl (fun a u hE hD hk => f_skip (o := ⟨some 17, _, _, _, _, _⟩) rfl (wanted_at (b := true) false rfl rfl (hD 6 11 (by kernel_rfl))) rfl) ?_
      refine fsteps_cons 14 rfl (fun a u hE hD hk => f_skip (o := ⟨some 18, _, _, _, _, _⟩) rfl (wanted_at (b := true) false rfl rfl (hD 6 11 (by kernel_rfl))) rfl) ?_
      refine fsteps_cons 15 rfl (fun a u hE hD hk => f_skip (o := ⟨some 19, _, _, _, _, _⟩) rfl (wanted_at (b := true) false rfl rfl (hD 6 11 (by kernel_rfl))) rfl) ?_
      refine sv 16 rfl rfl rfl (fun a u hE hD hk => exec_pickF (.tmp 11) (.tmp 19) (.const (.bool false)) (.bool false) rfl (hD 6 11 (by kernel_rfl)) rfl) ?_
      refine sv 17 rfl rfl rfl (fun a u hE hD hk => exec_assign (.tmp 20) _ rfl (hD 15 20 (by kernel_rfl))) ?_
      exact fsteps_nil
    intro gv w0 hV k0
    rw [show dstsOf _ 17 = [5, 6, 7, 8, 9, 10, 11, 12, 13, 14, 15, 16, 17, 18, 19, 20, 4] by kernel_rfl]
    simp only [List.foldl_cons, List.foldl_nil, List.setIfInBounds_toArray, List.set_cons_succ, List.set_cons_zero, List.drop_succ_cons, List.drop_zero]
    rw [show gv 4 = .bool false from hV 16 4 (by kernel_rfl)]
    clear hV
    refine wpList_nil ?_
    go_wp2
    go_ret
    exact ⟨ret_bool HT.out.symm, k0⟩
  · by_cases h1 : 31 < n
    · have HT := Lib.hid (there_out (X := X) (.inr h1))
      go_enter Tryd.func24, Tryd.ntmps24
      go_upto_region 1 with fail
      refine wp_text 17 [.eq (.int .i64 n), .eq (.bool true), .eq (.bool true), .eq (.int .i64 n), .eq (.bool false), .eq (.bool false), .eq (.bool false), .eq undef, .eq undef, .eq undef, .eq undef, .eq undef, .eq undef, .eq undef, .eq undef, .eq (.bool false), .eq (.bool false)] rfl (by kernel_rfl) ?_ ?_
      · refine sv 1 rfl rfl rfl (fun a u hE hD hk => exec_move (.tmp 1) _ rfl (hE 1 (.int .i64 n) (by kernel_rfl) (by kernel_rfl))) ?_
        refine fsteps_cons 2 rfl (fun a u hE hD hk => f_as (show ((decide ((0 : Int) ≤ (n : Int))) : Bool) = true from decide_eq_true (by omega)) (f_val (o := ⟨some 6, _, _, _, _, _⟩) (.bool (decide ((0 : Int) ≤ (n : Int)))) rfl (wanted_none rfl _) (exec_gen (p := n) (q := 0) rfl (hD 0 5 (by kernel_rfl)) rfl) rfl)) ?_
        refine sv 3 rfl rfl rfl (fun a u hE hD hk => exec_move (.tmp 6) _ rfl (hD 1 6 (by kernel_rfl))) ?_
        refine fsteps_cons 4 rfl (fun a u hE hD hk => f_val (o := ⟨some 8, _, _, _, _, _⟩) (.int .i64 n) rfl (wanted_at (b := true) true rfl rfl (hD 2 7 (by kernel_rfl))) (exec_move (.tmp 1) _ rfl (hE 1 (.int .i64 n) (by kernel_rfl) (by kernel_rfl))) rfl) ?_
        refine fsteps_cons 5 rfl (fun a u hE hD hk => f_as (show ((decide ((n : Int) < (32 : Int))) : Bool) = false from decide_eq_false (by omega)) (f_val (o := ⟨some 9, _, _, _, _, _⟩) (.bool (decide ((n : Int) < (32 : Int)))) rfl (wanted_at (b := true) true rfl rfl (hD 2 7 (by kernel_rfl))) (exec_ltn (p := n) (q := 32) rfl (hD 3 8 (by kernel_rfl)) rfl) rfl)) ?_
        refine sv 6 rfl rfl rfl (fun a u hE hD hk => exec_pick (.tmp 7) (.tmp 9) (.const (.bool false)) (.bool false) rfl (hD 2 7 (by kernel_rfl)) (hD 4 9 (by kernel_rfl))) ?_
        refine sv 7 rfl rfl rfl (fun a u hE hD hk => exec_move (.tmp 10) _ rfl (hD 5 10 (by kernel_rfl))) ?_
        refine fsteps_cons 8 rfl (fun a u hE hD hk => f_skip (o := ⟨some 12, _, _, _, _, _⟩) rfl (wanted_at (b := true) false rfl rfl (hD 6 11 (by kernel_rfl))) rfl) ?_
        refine fsteps_cons 9 rfl (fun a u hE hD hk => f_skip (o := ⟨some 13, _, _, _, _, _⟩) rfl (wanted_at (b := true) false rfl rfl (hD 6 11 (by kernel_rfl))) rfl) ?_
        refine fsteps_cons 10 rfl (fun a u hE hD hk => f_skip (o := ⟨some 14, _, _, _, _, _⟩) rfl (wanted_at (b := true) false rfl rfl (hD 6 11 (by kernel_rfl))) rfl) ?_
        refine fsteps_cons 11 rfl (fun a u hE hD hk => f_skip (o := ⟨some 15, _, _, _, _, _⟩) rfl (wanted_at (b := true) false rfl rfl (hD 6 11 (by kernel_rfl))) rfl) ?_
        refine fsteps_cons 12 rfl (fun a u hE hD hk => f_skip (o := ⟨some 16, _, _, _, _, _⟩) rfl (wanted_at (b := true) false rfl rfl (hD 6 11 (by kernel_rfl))) rfl) ?_
        refine fsteps_cons 13 rfl (fun a u hE hD hk => f_skip (o := ⟨some 17, _, _, _, _, _⟩) rfl (wanted_at (b := true) false rfl rfl (hD 6 11 (by kernel_rfl))) rfl) ?_
        refine fsteps_cons 14 rfl (fun a u hE hD hk => f_skip (o := ⟨some 18, _, _, _, _, _⟩) rfl (wanted_at (b := true) false rfl rfl (hD 6 11 (by kernel_rfl))) rfl) ?_
        refine fsteps_cons 15 rfl (fun a u hE hD hk => f_skip (o := ⟨some 19, _, _, _, _, _⟩) rfl (wanted_at (b := true) false rfl rfl (hD 6 11 (by kernel_rfl))) rfl) ?_
        refine sv 16 rfl rfl rfl (fun a u hE hD hk => exec_pickF (.tmp 11) (.tmp 19) (.const (.bool false)) (.bool false) rfl (hD 6 11 (by kernel_rfl)) rfl) ?_
        refine sv 17 rfl rfl rfl (fun a u hE hD hk => exec_assign (.tmp 20) _ rfl (hD 15 20 (by kernel_rfl))) ?_
        exact fsteps_nil
      intro gv w0 hV k0
      rw [show dstsOf _ 17 = [5, 6, 7, 8, 9, 10, 11, 12, 13, 14, 15, 16, 17, 18, 19, 20, 4] by kernel_rfl]
      simp only [List.foldl_cons, List.foldl_nil, List.setIfInBounds_toArray, List.set_cons_succ, List.set_cons_zero, List.drop_succ_cons, List.drop_zero]
      rw [show gv 4 = .bool false from hV 16 4 (by kernel_rfl)]
      clear hV
      refine wpList_nil ?_
      go_wp2
      go_ret
      exact ⟨ret_bool HT.out.symm, k0⟩
    · obtain ⟨i, hi, rfl⟩ : ∃ i : Nat, i < 32 ∧ n = (i : Int) := ⟨n.toNat, by omega, by omega⟩
      have HT := Lib.hid (there_in (X := X) hi)
      clear h0 h1
      go_enter Tryd.func24, Tryd.ntmps24
      go_upto_region 1 with fail
      refine wp_text 17 [.eq (.int .i64 (i : Int)), .eq (.bool true), .eq (.bool true), .eq (.int .i64 (i : Int)), .eq (.bool true), .eq (.bool true), .eq (.bool true), .eq (.pointer (some ⟨p, 0, none⟩)), .eq (.int .i64 (i : Int)), .eq (.pointer (some ⟨p, 0, none⟩)), .eq (.pointer (some ⟨p, 0, none⟩)), .eq (.pointer (some ⟨p, i * 37, none⟩)), .eq (.pointer (some ⟨p, i * 37 + 2, none⟩)), .eq (.int .i64 (X.at_ i).roles), .eq (.bool (decide (((X.at_ i).roles : Int) ≠ (0 : Int)))), .eq (.bool (decide (((X.at_ i).roles : Int) ≠ (0 : Int)))), .eq (.bool (decide (((X.at_ i).roles : Int) ≠ (0 : Int))))] rfl (by kernel_rfl) ?_ ?_
      · refine sv 1 rfl rfl rfl (fun a u hE hD hk => exec_move (.tmp 1) _ rfl (hE 1 (.int .i64 (i : Int)) (by kernel_rfl) (by kernel_rfl))) ?_
        refine fsteps_cons 2 rfl (fun a u hE hD hk => f_as (show ((decide ((0 : Int) ≤ ((i : Int) : Int))) : Bool) = true from decide_eq_true (by omega)) (f_val (o := ⟨some 6, _, _, _, _, _⟩) (.bool (decide ((0 : Int) ≤ ((i : Int) : Int)))) rfl (wanted_none rfl _) (exec_gen (p := (i : Int)) (q := 0) rfl (hD 0 5 (by kernel_rfl)) rfl) rfl)) ?_
        refine sv 3 rfl rfl rfl (fun a u hE hD hk => exec_move (.tmp 6) _ rfl (hD 1 6 (by kernel_rfl))) ?_
        refine fsteps_cons 4 rfl (fun a u hE hD hk => f_val (o := ⟨some 8, _, _, _, _, _⟩) (.int .i64 (i : Int)) rfl (wanted_at (b := true) true rfl rfl (hD 2 7 (by kernel_rfl))) (exec_move (.tmp 1) _ rfl (hE 1 (.int .i64 (i : Int)) (by kernel_rfl) (by kernel_rfl))) rfl) ?_
        refine fsteps_cons 5 rfl (fun a u hE hD hk => f_as (show ((decide (((i : Int) : Int) < (32 : Int))) : Bool) = true from decide_eq_true (by omega)) (f_val (o := ⟨some 9, _, _, _, _, _⟩) (.bool (decide (((i : Int) : Int) < (32 : Int)))) rfl (wanted_at (b := true) true rfl rfl (hD 2 7 (by kernel_rfl))) (exec_ltn (p := (i : Int)) (q := 32) rfl (hD 3 8 (by kernel_rfl)) rfl) rfl)) ?_
        refine sv 6 rfl rfl rfl (fun a u hE hD hk => exec_pick (.tmp 7) (.tmp 9) (.const (.bool false)) (.bool true) rfl (hD 2 7 (by kernel_rfl)) (hD 4 9 (by kernel_rfl))) ?_
        refine sv 7 rfl rfl rfl (fun a u hE hD hk => exec_move (.tmp 10) _ rfl (hD 5 10 (by kernel_rfl))) ?_
        refine fsteps_cons 8 rfl (fun a u hE hD hk => f_val (o := ⟨some 12, _, _, _, _, _⟩) (.pointer (some ⟨p, 0, none⟩)) rfl (wanted_at (b := true) true rfl rfl (hD 6 11 (by kernel_rfl))) (exec_move (.tmp 0) _ rfl (hE 0 (.pointer (some ⟨p, 0, none⟩)) (by kernel_rfl) (by kernel_rfl))) rfl) ?_
        refine fsteps_cons 9 rfl (fun a u hE hD hk => f_val (o := ⟨some 13, _, _, _, _, _⟩) (.int .i64 (i : Int)) rfl (wanted_at (b := true) true rfl rfl (hD 6 11 (by kernel_rfl))) (exec_move (.tmp 1) _ rfl (hE 1 (.int .i64 (i : Int)) (by kernel_rfl) (by kernel_rfl))) rfl) ?_
        refine fsteps_cons 10 rfl (fun a u hE hD hk => f_val (o := ⟨some 14, _, _, _, _, _⟩) (.pointer (some ⟨p, 0, none⟩)) rfl (wanted_at (b := true) true rfl rfl (hD 6 11 (by kernel_rfl))) (exec_nilp (.tmp 12) ⟨p, 0, none⟩ rfl (hD 7 12 (by kernel_rfl))) rfl) ?_
        refine fsteps_cons 11 rfl (fun a u hE hD hk => f_val (o := ⟨some 15, _, _, _, _, _⟩) (.pointer (some ⟨p, 0, none⟩)) rfl (wanted_at (b := true) true rfl rfl (hD 6 11 (by kernel_rfl))) (exec_fldo 60 0 0 (.tmp 14) (p) (0) (0) rfl (hD 9 14 (by kernel_rfl)) (by kernel_rfl) rfl) rfl) ?_
        refine fsteps_cons 12 rfl (fun a u hE hD hk => f_val (o := ⟨some 16, _, _, _, _, _⟩) (.pointer (some ⟨p, i * 37, none⟩)) rfl (wanted_at (b := true) true rfl rfl (hD 6 11 (by kernel_rfl))) (exec_ixA (.tmp 15) (.tmp 13) (p) i ((i : Int)) rfl (hD 10 15 (by kernel_rfl)) (hD 8 13 (by kernel_rfl)) (by first | rfl | omega) (hi)) rfl) ?_
        refine fsteps_cons 13 rfl (fun a u hE hD hk => f_val (o := ⟨some 17, _, _, _, _, _⟩) (.pointer (some ⟨p, i * 37 + 2, none⟩)) rfl (wanted_at (b := true) true rfl rfl (hD 6 11 (by kernel_rfl))) (exec_fldo 35 2 2 (.tmp 16) (p) (i * 37) (i * 37 + 2) rfl (hD 11 16 (by kernel_rfl)) (by kernel_rfl) rfl) rfl) ?_
        refine fsteps_cons 14 rfl (fun a u hE hD hk => f_val (o := ⟨some 18, _, _, _, _, _⟩) (.int .i64 (X.at_ i).roles) rfl (wanted_at (b := true) true rfl rfl (hD 6 11 (by kernel_rfl))) (exec_loadi 3 Tryd.underlying3 (.tmp 17) ⟨p, i * 37 + 2, none⟩ (.int .i64 (X.at_ i).roles) rfl (hD 12 17 (by kernel_rfl)) ((range_kept ((trds_range HB.out hi)) hk) 2 _ rfl)) rfl) ?_
        refine fsteps_cons 15 rfl (fun a u hE hD hk => f_val (o := ⟨some 19, _, _, _, _, _⟩) (.bool (decide (((X.at_ i).roles : Int) ≠ (0 : Int)))) rfl (wanted_at (b := true) true rfl rfl (hD 6 11 (by kernel_rfl))) (exec_nen (p := (X.at_ i).roles) (q := 0) rfl (hD 13 18 (by kernel_rfl)) rfl) rfl) ?_
        refine sv 16 rfl rfl rfl (fun a u hE hD hk => exec_pick (.tmp 11) (.tmp 19) (.const (.bool false)) (.bool (decide (((X.at_ i).roles : Int) ≠ (0 : Int)))) rfl (hD 6 11 (by kernel_rfl)) (hD 14 19 (by kernel_rfl))) ?_
        refine sv 17 rfl rfl rfl (fun a u hE hD hk => exec_assign (.tmp 20) _ rfl (hD 15 20 (by kernel_rfl))) ?_
        exact fsteps_nil
      intro gv w0 hV k0
      rw [show dstsOf _ 17 = [5, 6, 7, 8, 9, 10, 11, 12, 13, 14, 15, 16, 17, 18, 19, 20, 4] by kernel_rfl]
      simp only [List.foldl_cons, List.foldl_nil, List.setIfInBounds_toArray, List.set_cons_succ, List.set_cons_zero, List.drop_succ_cons, List.drop_zero]
      rw [show gv 4 = .bool (decide (((X.at_ i).roles : Int) ≠ (0 : Int))) from hV 16 4 (by kernel_rfl)]
      clear hV
      refine wpList_nil ?_
      go_wp2
      go_ret
      exact ⟨ret_bool HT.out.symm, k0⟩
def Trds.get (X : Trds) (n : Int) : Trd := if X.there n = true then X.at_ n.toNat else zeroT
theorem get_in {X : Trds} {i : Nat} (h : X.there (i : Int) = true) : X.get (i : Int) = X.at_ i := by unfold Trds.get; rw [if_pos h, Int.toNat_natCast]
theorem get_out {X : Trds} {n : Int} (h : X.there n = false) : X.get n = zeroT := by unfold Trds.get; rw [if_neg (by rw [h]; simp)]
set_option maxRecDepth 100000 in
theorem trader_any (w : World) (p : Nat) (X : Trds) (n : Int) (hB : Blk w p 58 X.cells) : Gives 17 #[.pointer (some ⟨p, 0, none⟩), .int .i64 n] w (.eq (X.get n).v) := by
  refine gives_eq ?_
  have HB := Lib.hid hB
  have hpl := hB.lt
  clear hB
  have HN0 : Hid (Blk (w.alloc (.cells zeroT.cells.toArray 35)) w.heap.size 35 zeroT.cells) := Blk.new w _ _
  have kw0 : Kept w (w.alloc (.cells zeroT.cells.toArray 35)) := (Keep.refl _ w).alloc _
  go_enter Tryd.func17, Tryd.ntmps17
  go_upto_region 0 with fail
  refine wp_region_lit ?_
  refine l_new (o := ⟨some 4, _, _, _, _, _⟩) (.pointer (some ⟨w.heap.size, 0, none⟩)) (w.alloc (.cells zeroT.cells.toArray 35)) rfl (exec_alc 35 zeroT.cells rfl zT) ?_
  simp only [Act.put, List.setIfInBounds_toArray, List.set_cons_succ, List.set_cons_zero]
  refine wpList_nil ?_
  generalize w.alloc (.cells zeroT.cells.toArray 35) = w0 at HN0 kw0 ⊢
  obtain ⟨g, hg⟩ : ∃ g, w.heap.size = g := ⟨_, rfl⟩
  rw [hg] at HN0 ⊢
  have HB0 := Lib.hid (HB.out.kept kw0)
  cases ht : X.there n with
  | false =>
    have HT := Lib.hid ht
    clear ht
    go_upto_region 1 with fail
    refine wp_text 4 [.eq (.pointer (some ⟨p, 0, none⟩)), .eq (.int .i64 n), .eq (.bool false), .eq (.bool true)] rfl (by kernel_rfl) ?_ ?_
    · refine sv 1 rfl rfl rfl (fun a u hE hD hk => exec_move (.tmp 0) _ rfl (hE 0 (.pointer (some ⟨p, 0, none⟩)) (by kernel_rfl) (by kernel_rfl))) ?_
      refine sv 2 rfl rfl rfl (fun a u hE hD hk => exec_move (.tmp 1) _ rfl (hE 1 (.int .i64 n) (by kernel_rfl) (by kernel_rfl))) ?_
      refine fsteps_cons 3 rfl (fun a u hE hD hk => f_call (o := ⟨some 7, _, _, _, _, _⟩) 16 #[.pointer (some ⟨p, 0, none⟩), .int .i64 n] rfl (wanted_none rfl _) (exec_call 16 _ [.tmp 5, .tmp 6] _ [.pointer (some ⟨p, 0, none⟩), .int .i64 n] Tryd.func16 (by kernel_rfl) (by kernel_rfl) rfl (show [a.eval (.tmp 5), a.eval (.tmp 6)] = [.pointer (some ⟨p, 0, none⟩), .int .i64 n] from (by rw [show a.eval (.tmp 5) = .pointer (some ⟨p, 0, none⟩) from (hD 0 5 (by kernel_rfl)), show a.eval (.tmp 6) = .int .i64 n from (hD 1 6 (by kernel_rfl))] <;> rfl)) u) (by rw [← HT.out]; exact there_any u p X n (HB0.out.kept hk))) ?_
      refine sv 4 rfl rfl rfl (fun a u hE hD hk => exec_not _ (.tmp 7) false rfl (hD 2 7 (by kernel_rfl))) ?_
      exact fsteps_nil
    intro gv w1 hV k1
    rw [show dstsOf _ 4 = [5, 6, 7, 8] by kernel_rfl]
    simp only [List.foldl_cons, List.foldl_nil, List.setIfInBounds_toArray, List.set_cons_succ, List.set_cons_zero, List.drop_succ_cons, List.drop_zero]
    rw [show gv 8 = .bool true from hV 3 8 (by kernel_rfl)]
    clear hV
    refine wpList_nil ?_
    have HN1 := Lib.hid (HN0.out.kept k1)
    clear HN0
    go_upto_region 2 with fail
    refine wp_text 1 [.eq (zeroT.v)] rfl (by kernel_rfl) ?_ ?_
    · refine sv 1 rfl rfl rfl (fun a u hE hD hk => exec_build 35 [] zeroT.cells rfl (by kernel_rfl)) ?_
      exact fsteps_nil
    intro gv w2 hV k2
    rw [show dstsOf _ 1 = [9] by kernel_rfl]
    simp only [List.foldl_cons, List.foldl_nil, List.setIfInBounds_toArray, List.set_cons_succ, List.set_cons_zero, List.drop_succ_cons, List.drop_zero]
    rw [show gv 9 = zeroT.v from hV 0 9 (by kernel_rfl)]
    clear hV
    refine l_setS (o := ⟨none, _, _, _, _, _⟩) 35 g 35 zeroT.cells zeroT.cells (.tmp 4) (.tmp 9) rfl rfl (by kernel_rfl) (by kernel_rfl) (HN1.out.kept k2) (by rw [Trd.len37]; exact szT) (by rw [Trd.len37]) (Trd.one _) ?_
    intro w3 hC3 hk3 hs3
    simp only [Act.put]
    refine wpList_nil ?_
    have kw3 : Kept w w3 := ((kw0.trans k1).trans k2).trans' hk3 (by omega)
    clear HN1 hk3 hs3 k2 k1
    go_wp2
    refine bodyPost_ret (results_cell (p := 4) rfl _ _ g _ zeroT.cells rfl hC3 Tryd.underlying35 (by rw [Trd.len37]; exact szT)) rfl ?_
    exact ⟨by rw [get_out HT.out]; rfl, kw3⟩
  | true =>
    obtain ⟨i, hi, rfl⟩ := there_lt ht
    have HT := Lib.hid ht
    clear ht
    go_upto_region 1 with fail
    refine wp_text 4 [.eq (.pointer (some ⟨p, 0, none⟩)), .eq (.int .i64 (i : Int)), .eq (.bool true), .eq (.bool false)] rfl (by kernel_rfl) ?_ ?_
    · refine sv 1 rfl rfl rfl (fun a u hE hD hk => exec_move (.tmp 0) _ rfl (hE 0 (.pointer (some ⟨p, 0, none⟩)) (by kernel_rfl) (by kernel_rfl))) ?_
      refine sv 2 rfl rfl rfl (fun a u hE hD hk => exec_move (.tmp 1) _ rfl (hE 1 (.int .i64 (i : Int)) (by kernel_rfl) (by kernel_rfl))) ?_
      refine fsteps_cons 3 rfl (fun a u hE hD hk => f_call (o := ⟨some 7, _, _, _, _, _⟩) 16 #[.pointer (some ⟨p, 0, none⟩), .int .i64 (i : Int)] rfl (wanted_none rfl _) (exec_call 16 _ [.tmp 5, .tmp 6] _ [.pointer (some ⟨p, 0, none⟩), .int .i64 (i : Int)] Tryd.func16 (by kernel_rfl) (by kernel_rfl) rfl (show [a.eval (.tmp 5), a.eval (.tmp 6)] = [.pointer (some ⟨p, 0, none⟩), .int .i64 (i : Int)] from (by rw [show a.eval (.tmp 5) = .pointer (some ⟨p, 0, none⟩) from (hD 0 5 (by kernel_rfl)), show a.eval (.tmp 6) = .int .i64 (i : Int) from (hD 1 6 (by kernel_rfl))] <;> rfl)) u) (by rw [← HT.out]; exact there_any u p X _ (HB0.out.kept hk))) ?_
      refine sv 4 rfl rfl rfl (fun a u hE hD hk => exec_not _ (.tmp 7) true rfl (hD 2 7 (by kernel_rfl))) ?_
      exact fsteps_nil
    intro gv w1 hV k1
    rw [show dstsOf _ 4 = [5, 6, 7, 8] by kernel_rfl]
    simp only [List.foldl_cons, List.foldl_nil, List.setIfInBounds_toArray, List.set_cons_succ, List.set_cons_zero, List.drop_succ_cons, List.drop_zero]
    rw [show gv 8 = .bool false from hV 3 8 (by kernel_rfl)]
    clear hV
    refine wpList_nil ?_
    have HN1 := Lib.hid (HN0.out.kept k1)
    have HB1 := Lib.hid (HB0.out.kept k1)
    clear HN0 HB0
    go_upto_region 3 with fail
    refine wp_text 6 [.eq (.pointer (some ⟨p, 0, none⟩)), .eq (.int .i64 (i : Int)), .eq (.pointer (some ⟨p, 0, none⟩)), .eq (.pointer (some ⟨p, 0, none⟩)), .eq (.pointer (some ⟨p, i * 37, none⟩)), .eq ((X.at_ i).v)] rfl (by kernel_rfl) ?_ ?_
    · refine sv 1 rfl rfl rfl (fun a u hE hD hk => exec_move (.tmp 0) _ rfl (hE 0 (.pointer (some ⟨p, 0, none⟩)) (by kernel_rfl) (by kernel_rfl))) ?_
      refine sv 2 rfl rfl rfl (fun a u hE hD hk => exec_move (.tmp 1) _ rfl (hE 1 (.int .i64 (i : Int)) (by kernel_rfl) (by kernel_rfl))) ?_
      refine sv 3 rfl rfl rfl (fun a u hE hD hk => exec_nilp (.tmp 10) ⟨p, 0, none⟩ rfl (hD 0 10 (by kernel_rfl))) ?_
      refine sv 4 rfl rfl rfl (fun a u hE hD hk => exec_fldo 58 0 0 (.tmp 12) (p) (0) (0) rfl (hD 2 12 (by kernel_rfl)) (by kernel_rfl) rfl) ?_
      refine sv 5 rfl rfl rfl (fun a u hE hD hk => exec_ixA (.tmp 13) (.tmp 11) (p) i ((i : Int)) rfl (hD 3 13 (by kernel_rfl)) (hD 1 11 (by kernel_rfl)) (by first | rfl | omega) (hi)) ?_
      refine sv 6 rfl rfl rfl (fun a u hE hD hk => exec_ldS 35 _ (.tmp 14) (p) (i * 37) ((X.at_ i).cells) rfl (hD 4 14 (by kernel_rfl)) (range_kept ((trds_range HB1.out hi)) hk) Tryd.underlying35 (by rw [Trd.len37]; exact szT)) ?_
      exact fsteps_nil
    intro gv w2 hV k2
    rw [show dstsOf _ 6 = [10, 11, 12, 13, 14, 15] by kernel_rfl]
    simp only [List.foldl_cons, List.foldl_nil, List.setIfInBounds_toArray, List.set_cons_succ, List.set_cons_zero, List.drop_succ_cons, List.drop_zero]
    rw [show gv 15 = (X.at_ i).v from hV 5 15 (by kernel_rfl)]
    clear hV
    refine l_setS (o := ⟨none, _, _, _, _, _⟩) 35 g 35 zeroT.cells (X.at_ i).cells (.tmp 4) (.tmp 15) rfl rfl (by kernel_rfl) (by kernel_rfl) (HN1.out.kept k2) (by rw [Trd.len37]; exact szT) (by rw [Trd.len37, Trd.len37]) (Trd.one _) ?_
    intro w3 hC3 hk3 hs3
    simp only [Act.put]
    refine wpList_nil ?_
    have kw3 : Kept w w3 := ((kw0.trans k1).trans k2).trans' hk3 (by omega)
    clear HN1 hk3 hs3 k2 k1
    go_wp2
    refine bodyPost_ret (results_cell (p := 4) rfl _ _ g _ (X.at_ i).cells rfl hC3 Tryd.underlying35 (by rw [Trd.len37]; exact szT)) rfl ?_
    exact ⟨by rw [get_in HT.out]; rfl, kw3⟩
def firmB (x y : Trd) : Bool := decide (x.firm = y.firm)
def deskB (x y : Trd) : Bool := decide (x.firm = y.firm) && decide (x.desk = y.desk)
def setP (X : Trds) (A : Trd → Trd → Bool) (n i : Nat) : Bool := X.there (i : Int) && A (X.at_ i) (X.at_ n)
/-- what Set tells -/
def Trds.setB (X : Trds) (n s : Int) : Nat := if X.there n = true then (if s = 1 then 2 ^ n.toNat else if s = 2 then setM (setP X deskB n.toNat) 32 else if s = 3 then setM (setP X firmB n.toNat) 32 else 0) else 0
theorem setB_out {X : Trds} {n s : Int} (h : X.there n = false) : X.setB n s = 0 := by unfold Trds.setB; rw [if_neg (by rw [h]; simp)]
theorem setB_in {X : Trds} {i : Nat} {s : Int} (h : X.there (i : Int) = true) : X.setB (i : Int) s = if s = 1 then 2 ^ i else if s = 2 then setM (setP X deskB i) 32 else if s = 3 then setM (setP X firmB i) 32 else 0 := by unfold Trds.setB; rw [if_pos h, Int.toNat_natCast]
def Trds.offM (X : Trds) (n : Int) (b : Bool) : Trds := if X.there n = true then X.put n.toNat { X.at_ n.toNat with off := b } else X
theorem offM_in {X : Trds} {i : Nat} {b : Bool} (h : X.there (i : Int) = true) : X.offM (i : Int) b = X.put i { X.at_ i with off := b } := by unfold Trds.offM; rw [if_pos h, Int.toNat_natCast]
theorem offM_out {X : Trds} {n : Int} {b : Bool} (h : X.there n = false) : X.offM n b = X := by unfold Trds.offM; rw [if_neg (by rw [h]; simp)]
/-- a trader's Off stored -/
theorem l_putOff {ops : Array Oper} {Q : Exit → Act → World → Prop} {a : Act} {w : World} {o : Oper} {rest : List Oper} (g i : Nat) (T : TypeId) (X : Trds) (b : Bool) (x y : Operand) (hw : Region.wanted o (yielded ops a.tmps) = true) (hop : o.op = .store 4 x y) (hx : a.eval x = .pointer (some ⟨g, i * 37 + 4, none⟩)) (hy : a.eval y = .bool b) (hb : Blk w g T X.cells) (hi : i < 32)
    (hK : ∀ w', Blk w' g T (X.put i { X.at_ i with off := b }).cells → Keep (· = g) w w' → w'.heap.size = w.heap.size → wpList Tryd.prog ops Q rest (a.put o.dst undef) w') : wpList Tryd.prog ops Q (o :: rest) a w := by
  have hl := X.len
  have hB2 := hb.set_ (i * 37 + 4) (.bool b)
  rw [X.set_cell i 4 (.bool b) { X.at_ i with off := b } hi (by omega) rfl] at hB2
  exact l_store (w.setCell ⟨g, i * 37 + 4, none⟩ (.bool b)) hw (exec_store1 4 x y g (i * 37 + 4) (.bool b) hop (by kernel_rfl) hx hy rfl rfl (hb.there (i * 37 + 4) 1 (by omega))) (hK _ hB2 (Keep.setCell (Keep.refl (· = g) w) (fun _ => rfl) _) (by simp [World.setCell]))
def rsetP (X : Trds) (s : Int) (n i : Nat) : Bool := decide ((X.at_ i).roles ≠ 0) && ((decide ((i : Int) = (n : Int)) || (decide (s = 3) && decide ((X.at_ i).firm = (X.at_ n).firm))) || ((decide (s = 2) && decide ((X.at_ i).firm = (X.at_ n).firm)) && decide ((X.at_ i).desk = (X.at_ n).desk)))
theorem setM_one (p : Nat → Bool) (n k : Nat) (h : ∀ i, i < k → p i = decide (i = n)) (hn : n < k) : setM p k = 2 ^ n := by
  apply Nat.eq_of_testBit_eq
  intro i
  rw [setM_bit, Nat.testBit_two_pow]
  by_cases hi : i < k
  · rw [h i hi, decide_eq_true hi, Bool.true_and]
    rw [Bool.eq_iff_iff]
    simp only [decide_eq_true_eq]
    exact ⟨fun h => h.symm, fun h => h.symm⟩
  · rw [decide_eq_false hi, Bool.false_and, decide_eq_false (by omega)]
theorem rset_is (X : Trds) (s : Int) (n : Nat) (hn : n < 32) (ht : X.there (n : Int) = true) (hs : s = 1 ∨ s = 2 ∨ s = 3) : setM (rsetP X s n) 32 = X.setB (n : Int) s := by
  rw [setB_in ht]
  have hr : (X.at_ n).roles ≠ 0 := by
    rw [there_in hn] at ht
    simpa using ht
  rcases hs with rfl | rfl | rfl
  · rw [if_pos rfl]
    refine setM_one _ n 32 (fun i hi => ?_) hn
    unfold rsetP
    by_cases h : i = n
    · subst h
      simp [hr]
    · simp [h, show ¬ (i : Int) = (n : Int) by omega]
  · rw [if_neg (by omega), if_pos rfl]
    refine setM_ext fun i hi => ?_
    unfold rsetP setP deskB
    rw [there_in hi]
    by_cases h : i = n
    · subst h
      simp [hr]
    · simp [show ¬ (i : Int) = (n : Int) by omega]
  · rw [if_neg (by omega), if_neg (by omega), if_pos rfl]
    refine setM_ext fun i hi => ?_
    unfold rsetP setP firmB
    rw [there_in hi]
    by_cases h : i = n
    · subst h
      simp [hr]
    · simp [show ¬ (i : Int) = (n : Int) by omega]
theorem setB_bad {X : Trds} {n s : Int} (h : ¬ (s = 1 ∨ s = 2 ∨ s = 3)) : X.setB n s = 0 := by
  unfold Trds.setB
  rw [if_neg (fun e => h (.inl e)), if_neg (fun e => h (.inr (.inl e))), if_neg (fun e => h (.inr (.inr e)))]
  split <;> rfl
end Go.Proofs.YtfoamgljfdnloaaDoor
