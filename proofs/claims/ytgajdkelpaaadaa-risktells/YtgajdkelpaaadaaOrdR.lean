/-
  The contract of the document's own RightOrder of chapter 8. No condition.
-/
import Derived.Test.YtgajdkelpaaadaaOrdF
namespace Go.Proofs.Ytgajdkelpaaadaa
open Go.RowKit
set_option linter.unusedVariables false
set_option maxRecDepth 100000

set_option maxRecDepth 100000 in
set_option maxHeartbeats 1600000 in
theorem refRight_any (c : Ord) (w : World) : Gives 26 #[c.v] w (.eq (.int .i64 c.err)) := by
  unfold Gives Ord.v
  have HT : Hid True := trivial
  have HB0 : Hid (Blk (w.alloc (.cells c.cells.toArray 29)) w.heap.size 29 c.cells) := Blk.new w _ _
  have kw0 : Kept w (w.alloc (.cells c.cells.toArray 29)) := (Keep.refl _ w).alloc _
  go_enter Try.func26, Try.ntmps26
  go_upto_region 1 with fail
  generalize w.alloc (.cells c.cells.toArray 29) = w0 at HB0 kw0 ⊢
  generalize w.heap.size = g at HB0 ⊢
  obtain ⟨bA, hA⟩ : ∃ b, (((((!rng c.tr 0 31) || (!rng c.firm 0 7)) || (!rng c.id 0 1073741824)) || (!rng c.side 1 2)) || (!rng c.k 1 5)) = b := ⟨_, rfl⟩
  have HA := Lib.hid hA
  clear hA
  refine wp_text 28 [.eq (.pointer (some ⟨g, 0, none⟩)), .eq (.int .i64 c.tr), .eq (.bool (rng c.tr 0 31)), .eq (.bool (!(rng c.tr 0 31))), .eq (.bool (!(rng c.tr 0 31))), .cond (!(!(rng c.tr 0 31))) (.eq (.pointer (some ⟨g, 2, none⟩))), .cond (!(!(rng c.tr 0 31))) (.eq (.int .i64 c.firm)), .cond (!(!(rng c.tr 0 31))) (.eq (.bool (rng c.firm 0 7))), .cond (!(!(rng c.tr 0 31))) (.eq (.bool (!(rng c.firm 0 7)))), .eq (.bool ((!(rng c.tr 0 31)) || (!(rng c.firm 0 7)))), .eq (.bool ((!(rng c.tr 0 31)) || (!(rng c.firm 0 7)))), .cond (!((!(rng c.tr 0 31)) || (!(rng c.firm 0 7)))) (.eq (.pointer (some ⟨g, 1, none⟩))), .cond (!((!(rng c.tr 0 31)) || (!(rng c.firm 0 7)))) (.eq (.int .i64 c.id)), .cond (!((!(rng c.tr 0 31)) || (!(rng c.firm 0 7)))) (.eq (.bool (rng c.id 0 1073741824))), .cond (!((!(rng c.tr 0 31)) || (!(rng c.firm 0 7)))) (.eq (.bool (!(rng c.id 0 1073741824)))), .eq (.bool (((!(rng c.tr 0 31)) || (!(rng c.firm 0 7))) || (!(rng c.id 0 1073741824)))), .eq (.bool (((!(rng c.tr 0 31)) || (!(rng c.firm 0 7))) || (!(rng c.id 0 1073741824)))), .cond (!(((!(rng c.tr 0 31)) || (!(rng c.firm 0 7))) || (!(rng c.id 0 1073741824)))) (.eq (.pointer (some ⟨g, 3, none⟩))), .cond (!(((!(rng c.tr 0 31)) || (!(rng c.firm 0 7))) || (!(rng c.id 0 1073741824)))) (.eq (.int .i64 c.side)), .cond (!(((!(rng c.tr 0 31)) || (!(rng c.firm 0 7))) || (!(rng c.id 0 1073741824)))) (.eq (.bool (rng c.side 1 2))), .cond (!(((!(rng c.tr 0 31)) || (!(rng c.firm 0 7))) || (!(rng c.id 0 1073741824)))) (.eq (.bool (!(rng c.side 1 2)))), .eq (.bool ((((!(rng c.tr 0 31)) || (!(rng c.firm 0 7))) || (!(rng c.id 0 1073741824))) || (!(rng c.side 1 2)))), .eq (.bool ((((!(rng c.tr 0 31)) || (!(rng c.firm 0 7))) || (!(rng c.id 0 1073741824))) || (!(rng c.side 1 2)))), .cond (!((((!(rng c.tr 0 31)) || (!(rng c.firm 0 7))) || (!(rng c.id 0 1073741824))) || (!(rng c.side 1 2)))) (.eq (.pointer (some ⟨g, 4, none⟩))), .cond (!((((!(rng c.tr 0 31)) || (!(rng c.firm 0 7))) || (!(rng c.id 0 1073741824))) || (!(rng c.side 1 2)))) (.eq (.int .i64 c.k)), .cond (!((((!(rng c.tr 0 31)) || (!(rng c.firm 0 7))) || (!(rng c.id 0 1073741824))) || (!(rng c.side 1 2)))) (.eq (.bool (rng c.k 1 5))), .cond (!((((!(rng c.tr 0 31)) || (!(rng c.firm 0 7))) || (!(rng c.id 0 1073741824))) || (!(rng c.side 1 2)))) (.eq (.bool (!(rng c.k 1 5)))), .eq (.bool bA)] rfl (by kernel_rfl) ?_ ?_
  · refine fsteps_cons 1 rfl (fun a u hE hD hk => f_val (o := ⟨some 3, _, _, _, _, _⟩) (.pointer (some ⟨g, 0, none⟩)) rfl (wanted_none rfl _) (exec_fld 29 0 0 (.tmp 1) (g) rfl (hE 1 (.pointer (some ⟨g, 0, none⟩)) (by kernel_rfl) (by kernel_rfl)) (by kernel_rfl)) rfl) ?_
    refine fsteps_cons 2 rfl (fun a u hE hD hk => f_val (o := ⟨some 4, _, _, _, _, _⟩) (.int .i64 c.tr) rfl (wanted_none rfl _) (exec_loadi 3 Try.underlying3 (.tmp 3) ⟨g, 0, none⟩ (.int .i64 c.tr) rfl (hD 0 3 (by kernel_rfl)) ((HB0.out.kept hk).fld 0 _ rfl)) rfl) ?_
    refine fsteps_cons 3 rfl (fun a u hE hD hk => f_call (o := ⟨some 5, _, _, _, _, _⟩) 42 #[.int .i64 c.tr, .int .i64 0, .int .i64 31] rfl (wanted_none rfl _) (exec_call 42 _ [.tmp 4, .const (.int .i64 0), .const (.int .i64 31)] _ [.int .i64 c.tr, .int .i64 0, .int .i64 31] Try.func42 (by kernel_rfl) (by kernel_rfl) rfl (show [a.eval (.tmp 4), a.eval (.const (.int .i64 0)), a.eval (.const (.int .i64 31))] = [.int .i64 c.tr, .int .i64 0, .int .i64 31] from (by rw [show a.eval (.tmp 4) = .int .i64 c.tr from (hD 1 4 (by kernel_rfl))] <;> rfl)) u) (in_any _ _ _ u)) ?_
    refine fsteps_cons 4 rfl (fun a u hE hD hk => f_val (o := ⟨some 6, _, _, _, _, _⟩) (.bool (!(rng c.tr 0 31))) rfl (wanted_none rfl _) (exec_not _ (.tmp 5) (rng c.tr 0 31) rfl (hD 2 5 (by kernel_rfl))) rfl) ?_
    refine fsteps_cons 5 rfl (fun a u hE hD hk => f_val (o := ⟨some 7, _, _, _, _, _⟩) (.bool (!(rng c.tr 0 31))) rfl (wanted_none rfl _) (exec_move (.tmp 6) (.bool (!(rng c.tr 0 31))) rfl (hD 3 6 (by kernel_rfl))) rfl) ?_
    refine fsteps_cons 6 rfl (fun a u hE hD hk => f_unless ((!(rng c.tr 0 31))) rfl rfl rfl (hD 4 7 (by kernel_rfl)) (fun hb => f_val (o := ⟨some 8, _, _, _, _, _⟩) (.pointer (some ⟨g, 2, none⟩)) rfl (wanted_b rfl rfl (hD 4 7 (by kernel_rfl)) (eq_false_of hb)) (exec_fld 29 2 2 (.tmp 1) (g) rfl (hE 1 (.pointer (some ⟨g, 0, none⟩)) (by kernel_rfl) (by kernel_rfl)) (by kernel_rfl)) rfl)) ?_
    refine fsteps_cons 7 rfl (fun a u hE hD hk => f_unless ((!(rng c.tr 0 31))) rfl rfl rfl (hD 4 7 (by kernel_rfl)) (fun hb => f_val (o := ⟨some 9, _, _, _, _, _⟩) (.int .i64 c.firm) rfl (wanted_b rfl rfl (hD 4 7 (by kernel_rfl)) (eq_false_of hb)) (exec_loadi 3 Try.underlying3 (.tmp 8) ⟨g, 2, none⟩ (.int .i64 c.firm) rfl ((hD 5 8 (by kernel_rfl)).1 hb) ((HB0.out.kept hk).fld 2 _ rfl)) rfl)) ?_
    refine fsteps_cons 8 rfl (fun a u hE hD hk => f_unless ((!(rng c.tr 0 31))) rfl rfl rfl (hD 4 7 (by kernel_rfl)) (fun hb => f_call (o := ⟨some 10, _, _, _, _, _⟩) 42 #[.int .i64 c.firm, .int .i64 0, .int .i64 7] rfl (wanted_b rfl rfl (hD 4 7 (by kernel_rfl)) (eq_false_of hb)) (exec_call 42 _ [.tmp 9, .const (.int .i64 0), .const (.int .i64 7)] _ [.int .i64 c.firm, .int .i64 0, .int .i64 7] Try.func42 (by kernel_rfl) (by kernel_rfl) rfl (show [a.eval (.tmp 9), a.eval (.const (.int .i64 0)), a.eval (.const (.int .i64 7))] = [.int .i64 c.firm, .int .i64 0, .int .i64 7] from (by rw [show a.eval (.tmp 9) = .int .i64 c.firm from ((hD 6 9 (by kernel_rfl)).1 hb)] <;> rfl)) u) (in_any _ _ _ u))) ?_
    refine fsteps_cons 9 rfl (fun a u hE hD hk => f_unless ((!(rng c.tr 0 31))) rfl rfl rfl (hD 4 7 (by kernel_rfl)) (fun hb => f_val (o := ⟨some 11, _, _, _, _, _⟩) (.bool (!(rng c.firm 0 7))) rfl (wanted_b rfl rfl (hD 4 7 (by kernel_rfl)) (eq_false_of hb)) (exec_not _ (.tmp 10) (rng c.firm 0 7) rfl ((hD 7 10 (by kernel_rfl)).1 hb)) rfl)) ?_
    refine fsteps_cons 10 rfl (fun a u hE hD hk => f_val (o := ⟨some 12, _, _, _, _, _⟩) (.bool ((!(rng c.tr 0 31)) || (!(rng c.firm 0 7)))) rfl (wanted_none rfl _) (exec_pickor (.tmp 7) (.const (.bool true)) (.tmp 11) ((!(rng c.tr 0 31))) ((!(rng c.firm 0 7))) rfl (hD 4 7 (by kernel_rfl)) rfl (fun hb2 => ((hD 8 11 (by kernel_rfl)).1 hb2))) rfl) ?_
    refine fsteps_cons 11 rfl (fun a u hE hD hk => f_val (o := ⟨some 13, _, _, _, _, _⟩) (.bool ((!(rng c.tr 0 31)) || (!(rng c.firm 0 7)))) rfl (wanted_none rfl _) (exec_move (.tmp 12) (.bool ((!(rng c.tr 0 31)) || (!(rng c.firm 0 7)))) rfl (hD 9 12 (by kernel_rfl))) rfl) ?_
    refine fsteps_cons 12 rfl (fun a u hE hD hk => f_unless (((!(rng c.tr 0 31)) || (!(rng c.firm 0 7)))) rfl rfl rfl (hD 10 13 (by kernel_rfl)) (fun hb => f_val (o := ⟨some 14, _, _, _, _, _⟩) (.pointer (some ⟨g, 1, none⟩)) rfl (wanted_b rfl rfl (hD 10 13 (by kernel_rfl)) (eq_false_of hb)) (exec_fld 29 1 1 (.tmp 1) (g) rfl (hE 1 (.pointer (some ⟨g, 0, none⟩)) (by kernel_rfl) (by kernel_rfl)) (by kernel_rfl)) rfl)) ?_
    refine fsteps_cons 13 rfl (fun a u hE hD hk => f_unless (((!(rng c.tr 0 31)) || (!(rng c.firm 0 7)))) rfl rfl rfl (hD 10 13 (by kernel_rfl)) (fun hb => f_val (o := ⟨some 15, _, _, _, _, _⟩) (.int .i64 c.id) rfl (wanted_b rfl rfl (hD 10 13 (by kernel_rfl)) (eq_false_of hb)) (exec_loadi 3 Try.underlying3 (.tmp 14) ⟨g, 1, none⟩ (.int .i64 c.id) rfl ((hD 11 14 (by kernel_rfl)).1 hb) ((HB0.out.kept hk).fld 1 _ rfl)) rfl)) ?_
    refine fsteps_cons 14 rfl (fun a u hE hD hk => f_unless (((!(rng c.tr 0 31)) || (!(rng c.firm 0 7)))) rfl rfl rfl (hD 10 13 (by kernel_rfl)) (fun hb => f_call (o := ⟨some 16, _, _, _, _, _⟩) 42 #[.int .i64 c.id, .int .i64 0, .int .i64 1073741824] rfl (wanted_b rfl rfl (hD 10 13 (by kernel_rfl)) (eq_false_of hb)) (exec_call 42 _ [.tmp 15, .const (.int .i64 0), .const (.int .i64 1073741824)] _ [.int .i64 c.id, .int .i64 0, .int .i64 1073741824] Try.func42 (by kernel_rfl) (by kernel_rfl) rfl (show [a.eval (.tmp 15), a.eval (.const (.int .i64 0)), a.eval (.const (.int .i64 1073741824))] = [.int .i64 c.id, .int .i64 0, .int .i64 1073741824] from (by rw [show a.eval (.tmp 15) = .int .i64 c.id from ((hD 12 15 (by kernel_rfl)).1 hb)] <;> rfl)) u) (in_any _ _ _ u))) ?_
    refine fsteps_cons 15 rfl (fun a u hE hD hk => f_unless (((!(rng c.tr 0 31)) || (!(rng c.firm 0 7)))) rfl rfl rfl (hD 10 13 (by kernel_rfl)) (fun hb => f_val (o := ⟨some 17, _, _, _, _, _⟩) (.bool (!(rng c.id 0 1073741824))) rfl (wanted_b rfl rfl (hD 10 13 (by kernel_rfl)) (eq_false_of hb)) (exec_not _ (.tmp 16) (rng c.id 0 1073741824) rfl ((hD 13 16 (by kernel_rfl)).1 hb)) rfl)) ?_
    refine fsteps_cons 16 rfl (fun a u hE hD hk => f_val (o := ⟨some 18, _, _, _, _, _⟩) (.bool (((!(rng c.tr 0 31)) || (!(rng c.firm 0 7))) || (!(rng c.id 0 1073741824)))) rfl (wanted_none rfl _) (exec_pickor (.tmp 13) (.const (.bool true)) (.tmp 17) (((!(rng c.tr 0 31)) || (!(rng c.firm 0 7)))) ((!(rng c.id 0 1073741824))) rfl (hD 10 13 (by kernel_rfl)) rfl (fun hb2 => ((hD 14 17 (by kernel_rfl)).1 hb2))) rfl) ?_
    refine fsteps_cons 17 rfl (fun a u hE hD hk => f_val (o := ⟨some 19, _, _, _, _, _⟩) (.bool (((!(rng c.tr 0 31)) || (!(rng c.firm 0 7))) || (!(rng c.id 0 1073741824)))) rfl (wanted_none rfl _) (exec_move (.tmp 18) (.bool (((!(rng c.tr 0 31)) || (!(rng c.firm 0 7))) || (!(rng c.id 0 1073741824)))) rfl (hD 15 18 (by kernel_rfl))) rfl) ?_
    refine fsteps_cons 18 rfl (fun a u hE hD hk => f_unless ((((!(rng c.tr 0 31)) || (!(rng c.firm 0 7))) || (!(rng c.id 0 1073741824)))) rfl rfl rfl (hD 16 19 (by kernel_rfl)) (fun hb => f_val (o := ⟨some 20, _, _, _, _, _⟩) (.pointer (some ⟨g, 3, none⟩)) rfl (wanted_b rfl rfl (hD 16 19 (by kernel_rfl)) (eq_false_of hb)) (exec_fld 29 3 3 (.tmp 1) (g) rfl (hE 1 (.pointer (some ⟨g, 0, none⟩)) (by kernel_rfl) (by kernel_rfl)) (by kernel_rfl)) rfl)) ?_
    refine fsteps_cons 19 rfl (fun a u hE hD hk => f_unless ((((!(rng c.tr 0 31)) || (!(rng c.firm 0 7))) || (!(rng c.id 0 1073741824)))) rfl rfl rfl (hD 16 19 (by kernel_rfl)) (fun hb => f_val (o := ⟨some 21, _, _, _, _, _⟩) (.int .i64 c.side) rfl (wanted_b rfl rfl (hD 16 19 (by kernel_rfl)) (eq_false_of hb)) (exec_loadi 3 Try.underlying3 (.tmp 20) ⟨g, 3, none⟩ (.int .i64 c.side) rfl ((hD 17 20 (by kernel_rfl)).1 hb) ((HB0.out.kept hk).fld 3 _ rfl)) rfl)) ?_
    refine fsteps_cons 20 rfl (fun a u hE hD hk => f_unless ((((!(rng c.tr 0 31)) || (!(rng c.firm 0 7))) || (!(rng c.id 0 1073741824)))) rfl rfl rfl (hD 16 19 (by kernel_rfl)) (fun hb => f_call (o := ⟨some 22, _, _, _, _, _⟩) 42 #[.int .i64 c.side, .int .i64 1, .int .i64 2] rfl (wanted_b rfl rfl (hD 16 19 (by kernel_rfl)) (eq_false_of hb)) (exec_call 42 _ [.tmp 21, .const (.int .i64 1), .const (.int .i64 2)] _ [.int .i64 c.side, .int .i64 1, .int .i64 2] Try.func42 (by kernel_rfl) (by kernel_rfl) rfl (show [a.eval (.tmp 21), a.eval (.const (.int .i64 1)), a.eval (.const (.int .i64 2))] = [.int .i64 c.side, .int .i64 1, .int .i64 2] from (by rw [show a.eval (.tmp 21) = .int .i64 c.side from ((hD 18 21 (by kernel_rfl)).1 hb)] <;> rfl)) u) (in_any _ _ _ u))) ?_
    refine fsteps_cons 21 rfl (fun a u hE hD hk => f_unless ((((!(rng c.tr 0 31)) || (!(rng c.firm 0 7))) || (!(rng c.id 0 1073741824)))) rfl rfl rfl (hD 16 19 (by kernel_rfl)) (fun hb => f_val (o := ⟨some 23, _, _, _, _, _⟩) (.bool (!(rng c.side 1 2))) rfl (wanted_b rfl rfl (hD 16 19 (by kernel_rfl)) (eq_false_of hb)) (exec_not _ (.tmp 22) (rng c.side 1 2) rfl ((hD 19 22 (by kernel_rfl)).1 hb)) rfl)) ?_
    refine fsteps_cons 22 rfl (fun a u hE hD hk => f_val (o := ⟨some 24, _, _, _, _, _⟩) (.bool ((((!(rng c.tr 0 31)) || (!(rng c.firm 0 7))) || (!(rng c.id 0 1073741824))) || (!(rng c.side 1 2)))) rfl (wanted_none rfl _) (exec_pickor (.tmp 19) (.const (.bool true)) (.tmp 23) ((((!(rng c.tr 0 31)) || (!(rng c.firm 0 7))) || (!(rng c.id 0 1073741824)))) ((!(rng c.side 1 2))) rfl (hD 16 19 (by kernel_rfl)) rfl (fun hb2 => ((hD 20 23 (by kernel_rfl)).1 hb2))) rfl) ?_
    refine fsteps_cons 23 rfl (fun a u hE hD hk => f_val (o := ⟨some 25, _, _, _, _, _⟩) (.bool ((((!(rng c.tr 0 31)) || (!(rng c.firm 0 7))) || (!(rng c.id 0 1073741824))) || (!(rng c.side 1 2)))) rfl (wanted_none rfl _) (exec_move (.tmp 24) (.bool ((((!(rng c.tr 0 31)) || (!(rng c.firm 0 7))) || (!(rng c.id 0 1073741824))) || (!(rng c.side 1 2)))) rfl (hD 21 24 (by kernel_rfl))) rfl) ?_
    refine fsteps_cons 24 rfl (fun a u hE hD hk => f_unless (((((!(rng c.tr 0 31)) || (!(rng c.firm 0 7))) || (!(rng c.id 0 1073741824))) || (!(rng c.side 1 2)))) rfl rfl rfl (hD 22 25 (by kernel_rfl)) (fun hb => f_val (o := ⟨some 26, _, _, _, _, _⟩) (.pointer (some ⟨g, 4, none⟩)) rfl (wanted_b rfl rfl (hD 22 25 (by kernel_rfl)) (eq_false_of hb)) (exec_fld 29 4 4 (.tmp 1) (g) rfl (hE 1 (.pointer (some ⟨g, 0, none⟩)) (by kernel_rfl) (by kernel_rfl)) (by kernel_rfl)) rfl)) ?_
    refine fsteps_cons 25 rfl (fun a u hE hD hk => f_unless (((((!(rng c.tr 0 31)) || (!(rng c.firm 0 7))) || (!(rng c.id 0 1073741824))) || (!(rng c.side 1 2)))) rfl rfl rfl (hD 22 25 (by kernel_rfl)) (fun hb => f_val (o := ⟨some 27, _, _, _, _, _⟩) (.int .i64 c.k) rfl (wanted_b rfl rfl (hD 22 25 (by kernel_rfl)) (eq_false_of hb)) (exec_loadi 3 Try.underlying3 (.tmp 26) ⟨g, 4, none⟩ (.int .i64 c.k) rfl ((hD 23 26 (by kernel_rfl)).1 hb) ((HB0.out.kept hk).fld 4 _ rfl)) rfl)) ?_
    refine fsteps_cons 26 rfl (fun a u hE hD hk => f_unless (((((!(rng c.tr 0 31)) || (!(rng c.firm 0 7))) || (!(rng c.id 0 1073741824))) || (!(rng c.side 1 2)))) rfl rfl rfl (hD 22 25 (by kernel_rfl)) (fun hb => f_call (o := ⟨some 28, _, _, _, _, _⟩) 42 #[.int .i64 c.k, .int .i64 1, .int .i64 5] rfl (wanted_b rfl rfl (hD 22 25 (by kernel_rfl)) (eq_false_of hb)) (exec_call 42 _ [.tmp 27, .const (.int .i64 1), .const (.int .i64 5)] _ [.int .i64 c.k, .int .i64 1, .int .i64 5] Try.func42 (by kernel_rfl) (by kernel_rfl) rfl (show [a.eval (.tmp 27), a.eval (.const (.int .i64 1)), a.eval (.const (.int .i64 5))] = [.int .i64 c.k, .int .i64 1, .int .i64 5] from (by rw [show a.eval (.tmp 27) = .int .i64 c.k from ((hD 24 27 (by kernel_rfl)).1 hb)] <;> rfl)) u) (in_any _ _ _ u))) ?_
    refine fsteps_cons 27 rfl (fun a u hE hD hk => f_unless (((((!(rng c.tr 0 31)) || (!(rng c.firm 0 7))) || (!(rng c.id 0 1073741824))) || (!(rng c.side 1 2)))) rfl rfl rfl (hD 22 25 (by kernel_rfl)) (fun hb => f_val (o := ⟨some 29, _, _, _, _, _⟩) (.bool (!(rng c.k 1 5))) rfl (wanted_b rfl rfl (hD 22 25 (by kernel_rfl)) (eq_false_of hb)) (exec_not _ (.tmp 28) (rng c.k 1 5) rfl ((hD 25 28 (by kernel_rfl)).1 hb)) rfl)) ?_
    refine fsteps_cons 28 rfl (fun a u hE hD hk => f_as (show ((((((!(rng c.tr 0 31)) || (!(rng c.firm 0 7))) || (!(rng c.id 0 1073741824))) || (!(rng c.side 1 2))) || (!(rng c.k 1 5))) : Bool) = bA from HA.out) (f_val (o := ⟨some 30, _, _, _, _, _⟩) (.bool (((((!(rng c.tr 0 31)) || (!(rng c.firm 0 7))) || (!(rng c.id 0 1073741824))) || (!(rng c.side 1 2))) || (!(rng c.k 1 5)))) rfl (wanted_none rfl _) (exec_pickor (.tmp 25) (.const (.bool true)) (.tmp 29) (((((!(rng c.tr 0 31)) || (!(rng c.firm 0 7))) || (!(rng c.id 0 1073741824))) || (!(rng c.side 1 2)))) ((!(rng c.k 1 5))) rfl (hD 22 25 (by kernel_rfl)) rfl (fun hb2 => ((hD 26 29 (by kernel_rfl)).1 hb2))) rfl)) ?_
    exact fsteps_nil
  intro gv w1 hV k1
  rw [show dstsOf _ 28 = [3, 4, 5, 6, 7, 8, 9, 10, 11, 12, 13, 14, 15, 16, 17, 18, 19, 20, 21, 22, 23, 24, 25, 26, 27, 28, 29, 30] by kernel_rfl]
  simp only [List.foldl_cons, List.foldl_nil, List.setIfInBounds_toArray, List.set_cons_succ, List.set_cons_zero, List.drop_succ_cons, List.drop_zero]
  rw [show gv 30 = .bool bA from hV 27 30 (by kernel_rfl)]
  clear hV
  refine wpList_nil ?_
  have HB1 := Lib.hid (HB0.out.kept k1)
  have kw1 := kw0.trans k1
  clear k1 kw0 HB0
  cases bA with
  | true =>
    have he : c.err = 1 := by
      unfold Ord.err
      have hA := HA.out
      simp [rng] at hA
      rw [if_neg]
      rw [right_iff]
      omega
    have HE := Lib.hid he
    clear he
    go_wp2
    go_ret
    exact ⟨_, rfl, by rw [HE.out]; rfl, kw1⟩
  | false =>
    obtain ⟨bB, hB⟩ : ∃ b, (((!rng c.qty 1 1048576) || (!rng c.shw 0 c.qty)) || (!rng c.stop 0 1048576)) = b := ⟨_, rfl⟩
    have HB := Lib.hid hB
    clear hB
    go_upto_region 3 with fail
    refine wp_text 18 [.eq (.pointer (some ⟨g, 6, none⟩)), .eq (.int .i64 c.qty), .eq (.bool (rng c.qty 1 1048576)), .eq (.bool (!(rng c.qty 1 1048576))), .eq (.bool (!(rng c.qty 1 1048576))), .cond (!(!(rng c.qty 1 1048576))) (.eq (.pointer (some ⟨g, 7, none⟩))), .cond (!(!(rng c.qty 1 1048576))) (.eq (.int .i64 c.shw)), .cond (!(!(rng c.qty 1 1048576))) (.eq (.pointer (some ⟨g, 6, none⟩))), .cond (!(!(rng c.qty 1 1048576))) (.eq (.int .i64 c.qty)), .cond (!(!(rng c.qty 1 1048576))) (.eq (.bool (rng c.shw 0 c.qty))), .cond (!(!(rng c.qty 1 1048576))) (.eq (.bool (!(rng c.shw 0 c.qty)))), .eq (.bool ((!(rng c.qty 1 1048576)) || (!(rng c.shw 0 c.qty)))), .eq (.bool ((!(rng c.qty 1 1048576)) || (!(rng c.shw 0 c.qty)))), .cond (!((!(rng c.qty 1 1048576)) || (!(rng c.shw 0 c.qty)))) (.eq (.pointer (some ⟨g, 8, none⟩))), .cond (!((!(rng c.qty 1 1048576)) || (!(rng c.shw 0 c.qty)))) (.eq (.int .i64 c.stop)), .cond (!((!(rng c.qty 1 1048576)) || (!(rng c.shw 0 c.qty)))) (.eq (.bool (rng c.stop 0 1048576))), .cond (!((!(rng c.qty 1 1048576)) || (!(rng c.shw 0 c.qty)))) (.eq (.bool (!(rng c.stop 0 1048576)))), .eq (.bool bB)] rfl (by kernel_rfl) ?_ ?_
    · refine fsteps_cons 1 rfl (fun a u hE hD hk => f_val (o := ⟨some 31, _, _, _, _, _⟩) (.pointer (some ⟨g, 6, none⟩)) rfl (wanted_none rfl _) (exec_fld 29 6 6 (.tmp 1) (g) rfl (hE 1 (.pointer (some ⟨g, 0, none⟩)) (by kernel_rfl) (by kernel_rfl)) (by kernel_rfl)) rfl) ?_
      refine fsteps_cons 2 rfl (fun a u hE hD hk => f_val (o := ⟨some 32, _, _, _, _, _⟩) (.int .i64 c.qty) rfl (wanted_none rfl _) (exec_loadi 3 Try.underlying3 (.tmp 31) ⟨g, 6, none⟩ (.int .i64 c.qty) rfl (hD 0 31 (by kernel_rfl)) ((HB1.out.kept hk).fld 6 _ rfl)) rfl) ?_
      refine fsteps_cons 3 rfl (fun a u hE hD hk => f_call (o := ⟨some 33, _, _, _, _, _⟩) 42 #[.int .i64 c.qty, .int .i64 1, .int .i64 1048576] rfl (wanted_none rfl _) (exec_call 42 _ [.tmp 32, .const (.int .i64 1), .const (.int .i64 1048576)] _ [.int .i64 c.qty, .int .i64 1, .int .i64 1048576] Try.func42 (by kernel_rfl) (by kernel_rfl) rfl (show [a.eval (.tmp 32), a.eval (.const (.int .i64 1)), a.eval (.const (.int .i64 1048576))] = [.int .i64 c.qty, .int .i64 1, .int .i64 1048576] from (by rw [show a.eval (.tmp 32) = .int .i64 c.qty from (hD 1 32 (by kernel_rfl))] <;> rfl)) u) (in_any _ _ _ u)) ?_
      refine fsteps_cons 4 rfl (fun a u hE hD hk => f_val (o := ⟨some 34, _, _, _, _, _⟩) (.bool (!(rng c.qty 1 1048576))) rfl (wanted_none rfl _) (exec_not _ (.tmp 33) (rng c.qty 1 1048576) rfl (hD 2 33 (by kernel_rfl))) rfl) ?_
      refine fsteps_cons 5 rfl (fun a u hE hD hk => f_val (o := ⟨some 35, _, _, _, _, _⟩) (.bool (!(rng c.qty 1 1048576))) rfl (wanted_none rfl _) (exec_move (.tmp 34) (.bool (!(rng c.qty 1 1048576))) rfl (hD 3 34 (by kernel_rfl))) rfl) ?_
      refine fsteps_cons 6 rfl (fun a u hE hD hk => f_unless ((!(rng c.qty 1 1048576))) rfl rfl rfl (hD 4 35 (by kernel_rfl)) (fun hb => f_val (o := ⟨some 36, _, _, _, _, _⟩) (.pointer (some ⟨g, 7, none⟩)) rfl (wanted_b rfl rfl (hD 4 35 (by kernel_rfl)) (eq_false_of hb)) (exec_fld 29 7 7 (.tmp 1) (g) rfl (hE 1 (.pointer (some ⟨g, 0, none⟩)) (by kernel_rfl) (by kernel_rfl)) (by kernel_rfl)) rfl)) ?_
      refine fsteps_cons 7 rfl (fun a u hE hD hk => f_unless ((!(rng c.qty 1 1048576))) rfl rfl rfl (hD 4 35 (by kernel_rfl)) (fun hb => f_val (o := ⟨some 37, _, _, _, _, _⟩) (.int .i64 c.shw) rfl (wanted_b rfl rfl (hD 4 35 (by kernel_rfl)) (eq_false_of hb)) (exec_loadi 3 Try.underlying3 (.tmp 36) ⟨g, 7, none⟩ (.int .i64 c.shw) rfl ((hD 5 36 (by kernel_rfl)).1 hb) ((HB1.out.kept hk).fld 7 _ rfl)) rfl)) ?_
      refine fsteps_cons 8 rfl (fun a u hE hD hk => f_unless ((!(rng c.qty 1 1048576))) rfl rfl rfl (hD 4 35 (by kernel_rfl)) (fun hb => f_val (o := ⟨some 38, _, _, _, _, _⟩) (.pointer (some ⟨g, 6, none⟩)) rfl (wanted_b rfl rfl (hD 4 35 (by kernel_rfl)) (eq_false_of hb)) (exec_fld 29 6 6 (.tmp 1) (g) rfl (hE 1 (.pointer (some ⟨g, 0, none⟩)) (by kernel_rfl) (by kernel_rfl)) (by kernel_rfl)) rfl)) ?_
      refine fsteps_cons 9 rfl (fun a u hE hD hk => f_unless ((!(rng c.qty 1 1048576))) rfl rfl rfl (hD 4 35 (by kernel_rfl)) (fun hb => f_val (o := ⟨some 39, _, _, _, _, _⟩) (.int .i64 c.qty) rfl (wanted_b rfl rfl (hD 4 35 (by kernel_rfl)) (eq_false_of hb)) (exec_loadi 3 Try.underlying3 (.tmp 38) ⟨g, 6, none⟩ (.int .i64 c.qty) rfl ((hD 7 38 (by kernel_rfl)).1 hb) ((HB1.out.kept hk).fld 6 _ rfl)) rfl)) ?_
      refine fsteps_cons 10 rfl (fun a u hE hD hk => f_unless ((!(rng c.qty 1 1048576))) rfl rfl rfl (hD 4 35 (by kernel_rfl)) (fun hb => f_call (o := ⟨some 40, _, _, _, _, _⟩) 42 #[.int .i64 c.shw, .int .i64 0, .int .i64 c.qty] rfl (wanted_b rfl rfl (hD 4 35 (by kernel_rfl)) (eq_false_of hb)) (exec_call 42 _ [.tmp 37, .const (.int .i64 0), .tmp 39] _ [.int .i64 c.shw, .int .i64 0, .int .i64 c.qty] Try.func42 (by kernel_rfl) (by kernel_rfl) rfl (show [a.eval (.tmp 37), a.eval (.const (.int .i64 0)), a.eval (.tmp 39)] = [.int .i64 c.shw, .int .i64 0, .int .i64 c.qty] from (by rw [show a.eval (.tmp 37) = .int .i64 c.shw from ((hD 6 37 (by kernel_rfl)).1 hb), show a.eval (.tmp 39) = .int .i64 c.qty from ((hD 8 39 (by kernel_rfl)).1 hb)] <;> rfl)) u) (in_any _ _ _ u))) ?_
      refine fsteps_cons 11 rfl (fun a u hE hD hk => f_unless ((!(rng c.qty 1 1048576))) rfl rfl rfl (hD 4 35 (by kernel_rfl)) (fun hb => f_val (o := ⟨some 41, _, _, _, _, _⟩) (.bool (!(rng c.shw 0 c.qty))) rfl (wanted_b rfl rfl (hD 4 35 (by kernel_rfl)) (eq_false_of hb)) (exec_not _ (.tmp 40) (rng c.shw 0 c.qty) rfl ((hD 9 40 (by kernel_rfl)).1 hb)) rfl)) ?_
      refine fsteps_cons 12 rfl (fun a u hE hD hk => f_val (o := ⟨some 42, _, _, _, _, _⟩) (.bool ((!(rng c.qty 1 1048576)) || (!(rng c.shw 0 c.qty)))) rfl (wanted_none rfl _) (exec_pickor (.tmp 35) (.const (.bool true)) (.tmp 41) ((!(rng c.qty 1 1048576))) ((!(rng c.shw 0 c.qty))) rfl (hD 4 35 (by kernel_rfl)) rfl (fun hb2 => ((hD 10 41 (by kernel_rfl)).1 hb2))) rfl) ?_
      refine fsteps_cons 13 rfl (fun a u hE hD hk => f_val (o := ⟨some 43, _, _, _, _, _⟩) (.bool ((!(rng c.qty 1 1048576)) || (!(rng c.shw 0 c.qty)))) rfl (wanted_none rfl _) (exec_move (.tmp 42) (.bool ((!(rng c.qty 1 1048576)) || (!(rng c.shw 0 c.qty)))) rfl (hD 11 42 (by kernel_rfl))) rfl) ?_
      refine fsteps_cons 14 rfl (fun a u hE hD hk => f_unless (((!(rng c.qty 1 1048576)) || (!(rng c.shw 0 c.qty)))) rfl rfl rfl (hD 12 43 (by kernel_rfl)) (fun hb => f_val (o := ⟨some 44, _, _, _, _, _⟩) (.pointer (some ⟨g, 8, none⟩)) rfl (wanted_b rfl rfl (hD 12 43 (by kernel_rfl)) (eq_false_of hb)) (exec_fld 29 8 8 (.tmp 1) (g) rfl (hE 1 (.pointer (some ⟨g, 0, none⟩)) (by kernel_rfl) (by kernel_rfl)) (by kernel_rfl)) rfl)) ?_
      refine fsteps_cons 15 rfl (fun a u hE hD hk => f_unless (((!(rng c.qty 1 1048576)) || (!(rng c.shw 0 c.qty)))) rfl rfl rfl (hD 12 43 (by kernel_rfl)) (fun hb => f_val (o := ⟨some 45, _, _, _, _, _⟩) (.int .i64 c.stop) rfl (wanted_b rfl rfl (hD 12 43 (by kernel_rfl)) (eq_false_of hb)) (exec_loadi 3 Try.underlying3 (.tmp 44) ⟨g, 8, none⟩ (.int .i64 c.stop) rfl ((hD 13 44 (by kernel_rfl)).1 hb) ((HB1.out.kept hk).fld 8 _ rfl)) rfl)) ?_
      refine fsteps_cons 16 rfl (fun a u hE hD hk => f_unless (((!(rng c.qty 1 1048576)) || (!(rng c.shw 0 c.qty)))) rfl rfl rfl (hD 12 43 (by kernel_rfl)) (fun hb => f_call (o := ⟨some 46, _, _, _, _, _⟩) 42 #[.int .i64 c.stop, .int .i64 0, .int .i64 1048576] rfl (wanted_b rfl rfl (hD 12 43 (by kernel_rfl)) (eq_false_of hb)) (exec_call 42 _ [.tmp 45, .const (.int .i64 0), .const (.int .i64 1048576)] _ [.int .i64 c.stop, .int .i64 0, .int .i64 1048576] Try.func42 (by kernel_rfl) (by kernel_rfl) rfl (show [a.eval (.tmp 45), a.eval (.const (.int .i64 0)), a.eval (.const (.int .i64 1048576))] = [.int .i64 c.stop, .int .i64 0, .int .i64 1048576] from (by rw [show a.eval (.tmp 45) = .int .i64 c.stop from ((hD 14 45 (by kernel_rfl)).1 hb)] <;> rfl)) u) (in_any _ _ _ u))) ?_
      refine fsteps_cons 17 rfl (fun a u hE hD hk => f_unless (((!(rng c.qty 1 1048576)) || (!(rng c.shw 0 c.qty)))) rfl rfl rfl (hD 12 43 (by kernel_rfl)) (fun hb => f_val (o := ⟨some 47, _, _, _, _, _⟩) (.bool (!(rng c.stop 0 1048576))) rfl (wanted_b rfl rfl (hD 12 43 (by kernel_rfl)) (eq_false_of hb)) (exec_not _ (.tmp 46) (rng c.stop 0 1048576) rfl ((hD 15 46 (by kernel_rfl)).1 hb)) rfl)) ?_
      refine fsteps_cons 18 rfl (fun a u hE hD hk => f_as (show ((((!(rng c.qty 1 1048576)) || (!(rng c.shw 0 c.qty))) || (!(rng c.stop 0 1048576))) : Bool) = bB from HB.out) (f_val (o := ⟨some 48, _, _, _, _, _⟩) (.bool (((!(rng c.qty 1 1048576)) || (!(rng c.shw 0 c.qty))) || (!(rng c.stop 0 1048576)))) rfl (wanted_none rfl _) (exec_pickor (.tmp 43) (.const (.bool true)) (.tmp 47) (((!(rng c.qty 1 1048576)) || (!(rng c.shw 0 c.qty)))) ((!(rng c.stop 0 1048576))) rfl (hD 12 43 (by kernel_rfl)) rfl (fun hb2 => ((hD 16 47 (by kernel_rfl)).1 hb2))) rfl)) ?_
      exact fsteps_nil
    intro gv w2 hV k2
    rw [show dstsOf _ 18 = [31, 32, 33, 34, 35, 36, 37, 38, 39, 40, 41, 42, 43, 44, 45, 46, 47, 48] by kernel_rfl]
    simp only [List.foldl_cons, List.foldl_nil, List.setIfInBounds_toArray, List.set_cons_succ, List.set_cons_zero, List.drop_succ_cons, List.drop_zero]
    rw [show gv 48 = .bool bB from hV 17 48 (by kernel_rfl)]
    clear hV
    refine wpList_nil ?_
    have HB2 := Lib.hid (HB1.out.kept k2)
    have kw2 := kw1.trans k2
    clear k2 kw1 HB1
    cases bB with
    | true =>
      have he : c.err = 1 := by
        unfold Ord.err
        have hA := HA.out
        have hB := HB.out
        simp [rng] at hA hB
        rw [if_neg]
        rw [right_iff]
        omega
      have HE := Lib.hid he
      clear he
      go_wp2
      go_ret
      exact ⟨_, rfl, by rw [HE.out]; rfl, kw2⟩
    | false =>
      obtain ⟨bK, hK⟩ : ∃ b, decide (c.k = 2) = b := ⟨_, rfl⟩
      have HK := Lib.hid hK
      clear hK
      go_upto_region 5 with fail
      refine wp_text 3 [.eq (.pointer (some ⟨g, 4, none⟩)), .eq (.int .i64 c.k), .eq (.bool bK)] rfl (by kernel_rfl) ?_ ?_
      · refine fsteps_cons 1 rfl (fun a u hE hD hk => f_val (o := ⟨some 49, _, _, _, _, _⟩) (.pointer (some ⟨g, 4, none⟩)) rfl (wanted_none rfl _) (exec_fld 29 4 4 (.tmp 1) (g) rfl (hE 1 (.pointer (some ⟨g, 0, none⟩)) (by kernel_rfl) (by kernel_rfl)) (by kernel_rfl)) rfl) ?_
        refine fsteps_cons 2 rfl (fun a u hE hD hk => f_val (o := ⟨some 50, _, _, _, _, _⟩) (.int .i64 c.k) rfl (wanted_none rfl _) (exec_loadi 3 Try.underlying3 (.tmp 49) ⟨g, 4, none⟩ (.int .i64 c.k) rfl (hD 0 49 (by kernel_rfl)) ((HB2.out.kept hk).fld 4 _ rfl)) rfl) ?_
        refine fsteps_cons 3 rfl (fun a u hE hD hk => f_as (show ((decide ((c.k : Int) = (2 : Int))) : Bool) = bK from HK.out) (f_val (o := ⟨some 51, _, _, _, _, _⟩) (.bool (decide ((c.k : Int) = (2 : Int)))) rfl (wanted_none rfl _) (exec_eqn (p := c.k) (q := 2) rfl (hD 1 50 (by kernel_rfl)) rfl) rfl)) ?_
        exact fsteps_nil
      intro gv w3 hV k3
      rw [show dstsOf _ 3 = [49, 50, 51] by kernel_rfl]
      simp only [List.foldl_cons, List.foldl_nil, List.setIfInBounds_toArray, List.set_cons_succ, List.set_cons_zero, List.drop_succ_cons, List.drop_zero]
      rw [show gv 51 = .bool bK from hV 2 51 (by kernel_rfl)]
      clear hV
      refine wpList_nil ?_
      have HB3 := Lib.hid (HB2.out.kept k3)
      have kw3 := kw2.trans k3
      clear k3 kw2 HB2
      cases bK with
      | true =>
        obtain ⟨bM, hM⟩ : ∃ b, (decide (c.price ≠ 0) || decide (c.shw ≠ 0)) = b := ⟨_, rfl⟩
        have HM := Lib.hid hM
        clear hM
        go_upto_region 6 with fail
        refine wp_text 8 [.eq (.pointer (some ⟨g, 5, none⟩)), .eq (.int .i64 c.price), .eq (.bool (decide ((c.price : Int) ≠ (0 : Int)))), .eq (.bool (decide ((c.price : Int) ≠ (0 : Int)))), .cond (!(decide ((c.price : Int) ≠ (0 : Int)))) (.eq (.pointer (some ⟨g, 7, none⟩))), .cond (!(decide ((c.price : Int) ≠ (0 : Int)))) (.eq (.int .i64 c.shw)), .cond (!(decide ((c.price : Int) ≠ (0 : Int)))) (.eq (.bool (decide ((c.shw : Int) ≠ (0 : Int))))), .eq (.bool bM)] rfl (by kernel_rfl) ?_ ?_
        · refine fsteps_cons 1 rfl (fun a u hE hD hk => f_val (o := ⟨some 52, _, _, _, _, _⟩) (.pointer (some ⟨g, 5, none⟩)) rfl (wanted_none rfl _) (exec_fld 29 5 5 (.tmp 1) (g) rfl (hE 1 (.pointer (some ⟨g, 0, none⟩)) (by kernel_rfl) (by kernel_rfl)) (by kernel_rfl)) rfl) ?_
          refine fsteps_cons 2 rfl (fun a u hE hD hk => f_val (o := ⟨some 53, _, _, _, _, _⟩) (.int .i64 c.price) rfl (wanted_none rfl _) (exec_loadi 3 Try.underlying3 (.tmp 52) ⟨g, 5, none⟩ (.int .i64 c.price) rfl (hD 0 52 (by kernel_rfl)) ((HB3.out.kept hk).fld 5 _ rfl)) rfl) ?_
          refine fsteps_cons 3 rfl (fun a u hE hD hk => f_val (o := ⟨some 54, _, _, _, _, _⟩) (.bool (decide ((c.price : Int) ≠ (0 : Int)))) rfl (wanted_none rfl _) (exec_nen (p := c.price) (q := 0) rfl (hD 1 53 (by kernel_rfl)) rfl) rfl) ?_
          refine fsteps_cons 4 rfl (fun a u hE hD hk => f_val (o := ⟨some 55, _, _, _, _, _⟩) (.bool (decide ((c.price : Int) ≠ (0 : Int)))) rfl (wanted_none rfl _) (exec_move (.tmp 54) (.bool (decide ((c.price : Int) ≠ (0 : Int)))) rfl (hD 2 54 (by kernel_rfl))) rfl) ?_
          refine fsteps_cons 5 rfl (fun a u hE hD hk => f_unless ((decide ((c.price : Int) ≠ (0 : Int)))) rfl rfl rfl (hD 3 55 (by kernel_rfl)) (fun hb => f_val (o := ⟨some 56, _, _, _, _, _⟩) (.pointer (some ⟨g, 7, none⟩)) rfl (wanted_b rfl rfl (hD 3 55 (by kernel_rfl)) (eq_false_of hb)) (exec_fld 29 7 7 (.tmp 1) (g) rfl (hE 1 (.pointer (some ⟨g, 0, none⟩)) (by kernel_rfl) (by kernel_rfl)) (by kernel_rfl)) rfl)) ?_
          refine fsteps_cons 6 rfl (fun a u hE hD hk => f_unless ((decide ((c.price : Int) ≠ (0 : Int)))) rfl rfl rfl (hD 3 55 (by kernel_rfl)) (fun hb => f_val (o := ⟨some 57, _, _, _, _, _⟩) (.int .i64 c.shw) rfl (wanted_b rfl rfl (hD 3 55 (by kernel_rfl)) (eq_false_of hb)) (exec_loadi 3 Try.underlying3 (.tmp 56) ⟨g, 7, none⟩ (.int .i64 c.shw) rfl ((hD 4 56 (by kernel_rfl)).1 hb) ((HB3.out.kept hk).fld 7 _ rfl)) rfl)) ?_
          refine fsteps_cons 7 rfl (fun a u hE hD hk => f_unless ((decide ((c.price : Int) ≠ (0 : Int)))) rfl rfl rfl (hD 3 55 (by kernel_rfl)) (fun hb => f_val (o := ⟨some 58, _, _, _, _, _⟩) (.bool (decide ((c.shw : Int) ≠ (0 : Int)))) rfl (wanted_b rfl rfl (hD 3 55 (by kernel_rfl)) (eq_false_of hb)) (exec_nen (p := c.shw) (q := 0) rfl ((hD 5 57 (by kernel_rfl)).1 hb) rfl) rfl)) ?_
          refine fsteps_cons 8 rfl (fun a u hE hD hk => f_as (show (((decide ((c.price : Int) ≠ (0 : Int))) || (decide ((c.shw : Int) ≠ (0 : Int)))) : Bool) = bM from HM.out) (f_val (o := ⟨some 59, _, _, _, _, _⟩) (.bool ((decide ((c.price : Int) ≠ (0 : Int))) || (decide ((c.shw : Int) ≠ (0 : Int))))) rfl (wanted_none rfl _) (exec_pickor (.tmp 55) (.const (.bool true)) (.tmp 58) ((decide ((c.price : Int) ≠ (0 : Int)))) ((decide ((c.shw : Int) ≠ (0 : Int)))) rfl (hD 3 55 (by kernel_rfl)) rfl (fun hb2 => ((hD 6 58 (by kernel_rfl)).1 hb2))) rfl)) ?_
          exact fsteps_nil
        intro gv w4 hV k4
        rw [show dstsOf _ 8 = [52, 53, 54, 55, 56, 57, 58, 59] by kernel_rfl]
        simp only [List.foldl_cons, List.foldl_nil, List.setIfInBounds_toArray, List.set_cons_succ, List.set_cons_zero, List.drop_succ_cons, List.drop_zero]
        rw [show gv 59 = .bool bM from hV 7 59 (by kernel_rfl)]
        clear hV
        refine wpList_nil ?_
        have HB4 := Lib.hid (HB3.out.kept k4)
        have kw4 := kw3.trans k4
        clear k4 kw3 HB3
        cases bM with
        | true =>
          have he : c.err = 1 := by
            unfold Ord.err
            have hA := HA.out
            have hB := HB.out
            have hK := HK.out
            have hM := HM.out
            simp [rng] at hA hB hK hM
            rw [if_neg]
            rw [right_iff]
            omega
          have HE := Lib.hid he
          clear he
          go_wp2
          go_ret
          exact ⟨_, rfl, by rw [HE.out]; rfl, kw4⟩
        | false =>
          obtain ⟨bS, hS⟩ : ∃ b, ((decide (c.shw ≠ 0) && decide (c.k ≠ 1)) && decide (c.k ≠ 5)) = b := ⟨_, rfl⟩
          have HS := Lib.hid hS
          clear hS
          go_upto_region 10 with fail
          refine wp_text 13 [.eq (.pointer (some ⟨g, 7, none⟩)), .eq (.int .i64 c.shw), .eq (.bool (decide ((c.shw : Int) ≠ (0 : Int)))), .eq (.bool (decide ((c.shw : Int) ≠ (0 : Int)))), .cond (decide ((c.shw : Int) ≠ (0 : Int))) (.eq (.pointer (some ⟨g, 4, none⟩))), .cond (decide ((c.shw : Int) ≠ (0 : Int))) (.eq (.int .i64 c.k)), .cond (decide ((c.shw : Int) ≠ (0 : Int))) (.eq (.bool (decide ((c.k : Int) ≠ (1 : Int))))), .eq (.bool ((decide ((c.shw : Int) ≠ (0 : Int))) && (decide ((c.k : Int) ≠ (1 : Int))))), .eq (.bool ((decide ((c.shw : Int) ≠ (0 : Int))) && (decide ((c.k : Int) ≠ (1 : Int))))), .cond ((decide ((c.shw : Int) ≠ (0 : Int))) && (decide ((c.k : Int) ≠ (1 : Int)))) (.eq (.pointer (some ⟨g, 4, none⟩))), .cond ((decide ((c.shw : Int) ≠ (0 : Int))) && (decide ((c.k : Int) ≠ (1 : Int)))) (.eq (.int .i64 c.k)), .cond ((decide ((c.shw : Int) ≠ (0 : Int))) && (decide ((c.k : Int) ≠ (1 : Int)))) (.eq (.bool (decide ((c.k : Int) ≠ (5 : Int))))), .eq (.bool bS)] rfl (by kernel_rfl) ?_ ?_
          · refine fsteps_cons 1 rfl (fun a u hE hD hk => f_val (o := ⟨some 64, _, _, _, _, _⟩) (.pointer (some ⟨g, 7, none⟩)) rfl (wanted_none rfl _) (exec_fld 29 7 7 (.tmp 1) (g) rfl (hE 1 (.pointer (some ⟨g, 0, none⟩)) (by kernel_rfl) (by kernel_rfl)) (by kernel_rfl)) rfl) ?_
            refine fsteps_cons 2 rfl (fun a u hE hD hk => f_val (o := ⟨some 65, _, _, _, _, _⟩) (.int .i64 c.shw) rfl (wanted_none rfl _) (exec_loadi 3 Try.underlying3 (.tmp 64) ⟨g, 7, none⟩ (.int .i64 c.shw) rfl (hD 0 64 (by kernel_rfl)) ((HB4.out.kept hk).fld 7 _ rfl)) rfl) ?_
            refine fsteps_cons 3 rfl (fun a u hE hD hk => f_val (o := ⟨some 66, _, _, _, _, _⟩) (.bool (decide ((c.shw : Int) ≠ (0 : Int)))) rfl (wanted_none rfl _) (exec_nen (p := c.shw) (q := 0) rfl (hD 1 65 (by kernel_rfl)) rfl) rfl) ?_
            refine fsteps_cons 4 rfl (fun a u hE hD hk => f_val (o := ⟨some 67, _, _, _, _, _⟩) (.bool (decide ((c.shw : Int) ≠ (0 : Int)))) rfl (wanted_none rfl _) (exec_move (.tmp 66) (.bool (decide ((c.shw : Int) ≠ (0 : Int)))) rfl (hD 2 66 (by kernel_rfl))) rfl) ?_
            refine fsteps_cons 5 rfl (fun a u hE hD hk => f_if ((decide ((c.shw : Int) ≠ (0 : Int)))) rfl rfl rfl (hD 3 67 (by kernel_rfl)) (fun hb => f_val (o := ⟨some 68, _, _, _, _, _⟩) (.pointer (some ⟨g, 4, none⟩)) rfl (wanted_b rfl rfl (hD 3 67 (by kernel_rfl)) (eq_true_of hb)) (exec_fld 29 4 4 (.tmp 1) (g) rfl (hE 1 (.pointer (some ⟨g, 0, none⟩)) (by kernel_rfl) (by kernel_rfl)) (by kernel_rfl)) rfl)) ?_
            refine fsteps_cons 6 rfl (fun a u hE hD hk => f_if ((decide ((c.shw : Int) ≠ (0 : Int)))) rfl rfl rfl (hD 3 67 (by kernel_rfl)) (fun hb => f_val (o := ⟨some 69, _, _, _, _, _⟩) (.int .i64 c.k) rfl (wanted_b rfl rfl (hD 3 67 (by kernel_rfl)) (eq_true_of hb)) (exec_loadi 3 Try.underlying3 (.tmp 68) ⟨g, 4, none⟩ (.int .i64 c.k) rfl ((hD 4 68 (by kernel_rfl)).1 hb) ((HB4.out.kept hk).fld 4 _ rfl)) rfl)) ?_
            refine fsteps_cons 7 rfl (fun a u hE hD hk => f_if ((decide ((c.shw : Int) ≠ (0 : Int)))) rfl rfl rfl (hD 3 67 (by kernel_rfl)) (fun hb => f_val (o := ⟨some 70, _, _, _, _, _⟩) (.bool (decide ((c.k : Int) ≠ (1 : Int)))) rfl (wanted_b rfl rfl (hD 3 67 (by kernel_rfl)) (eq_true_of hb)) (exec_nen (p := c.k) (q := 1) rfl ((hD 5 69 (by kernel_rfl)).1 hb) rfl) rfl)) ?_
            refine fsteps_cons 8 rfl (fun a u hE hD hk => f_val (o := ⟨some 71, _, _, _, _, _⟩) (.bool ((decide ((c.shw : Int) ≠ (0 : Int))) && (decide ((c.k : Int) ≠ (1 : Int))))) rfl (wanted_none rfl _) (exec_pickand (.tmp 67) (.tmp 70) (.const (.bool false)) ((decide ((c.shw : Int) ≠ (0 : Int)))) ((decide ((c.k : Int) ≠ (1 : Int)))) rfl (hD 3 67 (by kernel_rfl)) (fun hb2 => ((hD 6 70 (by kernel_rfl)).1 hb2)) rfl) rfl) ?_
            refine fsteps_cons 9 rfl (fun a u hE hD hk => f_val (o := ⟨some 72, _, _, _, _, _⟩) (.bool ((decide ((c.shw : Int) ≠ (0 : Int))) && (decide ((c.k : Int) ≠ (1 : Int))))) rfl (wanted_none rfl _) (exec_move (.tmp 71) (.bool ((decide ((c.shw : Int) ≠ (0 : Int))) && (decide ((c.k : Int) ≠ (1 : Int))))) rfl (hD 7 71 (by kernel_rfl))) rfl) ?_
            refine fsteps_cons 10 rfl (fun a u hE hD hk => f_if (((decide ((c.shw : Int) ≠ (0 : Int))) && (decide ((c.k : Int) ≠ (1 : Int))))) rfl rfl rfl (hD 8 72 (by kernel_rfl)) (fun hb => f_val (o := ⟨some 73, _, _, _, _, _⟩) (.pointer (some ⟨g, 4, none⟩)) rfl (wanted_b rfl rfl (hD 8 72 (by kernel_rfl)) (eq_true_of hb)) (exec_fld 29 4 4 (.tmp 1) (g) rfl (hE 1 (.pointer (some ⟨g, 0, none⟩)) (by kernel_rfl) (by kernel_rfl)) (by kernel_rfl)) rfl)) ?_
            refine fsteps_cons 11 rfl (fun a u hE hD hk => f_if (((decide ((c.shw : Int) ≠ (0 : Int))) && (decide ((c.k : Int) ≠ (1 : Int))))) rfl rfl rfl (hD 8 72 (by kernel_rfl)) (fun hb => f_val (o := ⟨some 74, _, _, _, _, _⟩) (.int .i64 c.k) rfl (wanted_b rfl rfl (hD 8 72 (by kernel_rfl)) (eq_true_of hb)) (exec_loadi 3 Try.underlying3 (.tmp 73) ⟨g, 4, none⟩ (.int .i64 c.k) rfl ((hD 9 73 (by kernel_rfl)).1 hb) ((HB4.out.kept hk).fld 4 _ rfl)) rfl)) ?_
            refine fsteps_cons 12 rfl (fun a u hE hD hk => f_if (((decide ((c.shw : Int) ≠ (0 : Int))) && (decide ((c.k : Int) ≠ (1 : Int))))) rfl rfl rfl (hD 8 72 (by kernel_rfl)) (fun hb => f_val (o := ⟨some 75, _, _, _, _, _⟩) (.bool (decide ((c.k : Int) ≠ (5 : Int)))) rfl (wanted_b rfl rfl (hD 8 72 (by kernel_rfl)) (eq_true_of hb)) (exec_nen (p := c.k) (q := 5) rfl ((hD 10 74 (by kernel_rfl)).1 hb) rfl) rfl)) ?_
            refine fsteps_cons 13 rfl (fun a u hE hD hk => f_as (show ((((decide ((c.shw : Int) ≠ (0 : Int))) && (decide ((c.k : Int) ≠ (1 : Int)))) && (decide ((c.k : Int) ≠ (5 : Int)))) : Bool) = bS from HS.out) (f_val (o := ⟨some 76, _, _, _, _, _⟩) (.bool (((decide ((c.shw : Int) ≠ (0 : Int))) && (decide ((c.k : Int) ≠ (1 : Int)))) && (decide ((c.k : Int) ≠ (5 : Int))))) rfl (wanted_none rfl _) (exec_pickand (.tmp 72) (.tmp 75) (.const (.bool false)) (((decide ((c.shw : Int) ≠ (0 : Int))) && (decide ((c.k : Int) ≠ (1 : Int))))) ((decide ((c.k : Int) ≠ (5 : Int)))) rfl (hD 8 72 (by kernel_rfl)) (fun hb2 => ((hD 11 75 (by kernel_rfl)).1 hb2)) rfl) rfl)) ?_
            exact fsteps_nil
          intro gv w5 hV k5
          rw [show dstsOf _ 13 = [64, 65, 66, 67, 68, 69, 70, 71, 72, 73, 74, 75, 76] by kernel_rfl]
          simp only [List.foldl_cons, List.foldl_nil, List.setIfInBounds_toArray, List.set_cons_succ, List.set_cons_zero, List.drop_succ_cons, List.drop_zero]
          rw [show gv 76 = .bool bS from hV 12 76 (by kernel_rfl)]
          clear hV
          refine wpList_nil ?_
          have HB5 := Lib.hid (HB4.out.kept k5)
          have kw5 := kw4.trans k5
          clear k5 kw4 HB4
          cases bS with
          | true =>
            have he : c.err = 1 := by
              unfold Ord.err
              have hA := HA.out
              have hB := HB.out
              have hK := HK.out
              have hM := HM.out
              have hS := HS.out
              simp [rng] at hA hB hK hM hS
              rw [if_neg]
              rw [right_iff]
              omega
            have HE := Lib.hid he
            clear he
            go_wp2
            go_ret
            exact ⟨_, rfl, by rw [HE.out]; rfl, kw5⟩
          | false =>
            have he : c.err = 0 := by
              unfold Ord.err
              have hA := HA.out
              have hB := HB.out
              have hK := HK.out
              have hM := HM.out
              have hS := HS.out
              simp [rng] at hA hB hK hM hS
              rw [if_pos]
              rw [right_iff]
              omega
            have HE := Lib.hid he
            clear he
            go_wp2
            go_ret
            exact ⟨_, rfl, by rw [HE.out]; rfl, kw5⟩
      | false =>
        obtain ⟨bP, hP⟩ : ∃ b, (!rng c.price 1 1048576) = b := ⟨_, rfl⟩
        have HP := Lib.hid hP
        clear hP
        go_upto_region 8 with fail
        refine wp_text 4 [.eq (.pointer (some ⟨g, 5, none⟩)), .eq (.int .i64 c.price), .eq (.bool (rng c.price 1 1048576)), .eq (.bool bP)] rfl (by kernel_rfl) ?_ ?_
        · refine fsteps_cons 1 rfl (fun a u hE hD hk => f_val (o := ⟨some 60, _, _, _, _, _⟩) (.pointer (some ⟨g, 5, none⟩)) rfl (wanted_none rfl _) (exec_fld 29 5 5 (.tmp 1) (g) rfl (hE 1 (.pointer (some ⟨g, 0, none⟩)) (by kernel_rfl) (by kernel_rfl)) (by kernel_rfl)) rfl) ?_
          refine fsteps_cons 2 rfl (fun a u hE hD hk => f_val (o := ⟨some 61, _, _, _, _, _⟩) (.int .i64 c.price) rfl (wanted_none rfl _) (exec_loadi 3 Try.underlying3 (.tmp 60) ⟨g, 5, none⟩ (.int .i64 c.price) rfl (hD 0 60 (by kernel_rfl)) ((HB3.out.kept hk).fld 5 _ rfl)) rfl) ?_
          refine fsteps_cons 3 rfl (fun a u hE hD hk => f_call (o := ⟨some 62, _, _, _, _, _⟩) 42 #[.int .i64 c.price, .int .i64 1, .int .i64 1048576] rfl (wanted_none rfl _) (exec_call 42 _ [.tmp 61, .const (.int .i64 1), .const (.int .i64 1048576)] _ [.int .i64 c.price, .int .i64 1, .int .i64 1048576] Try.func42 (by kernel_rfl) (by kernel_rfl) rfl (show [a.eval (.tmp 61), a.eval (.const (.int .i64 1)), a.eval (.const (.int .i64 1048576))] = [.int .i64 c.price, .int .i64 1, .int .i64 1048576] from (by rw [show a.eval (.tmp 61) = .int .i64 c.price from (hD 1 61 (by kernel_rfl))] <;> rfl)) u) (in_any _ _ _ u)) ?_
          refine fsteps_cons 4 rfl (fun a u hE hD hk => f_as (show ((!(rng c.price 1 1048576)) : Bool) = bP from HP.out) (f_val (o := ⟨some 63, _, _, _, _, _⟩) (.bool (!(rng c.price 1 1048576))) rfl (wanted_none rfl _) (exec_not _ (.tmp 62) (rng c.price 1 1048576) rfl (hD 2 62 (by kernel_rfl))) rfl)) ?_
          exact fsteps_nil
        intro gv w4 hV k4
        rw [show dstsOf _ 4 = [60, 61, 62, 63] by kernel_rfl]
        simp only [List.foldl_cons, List.foldl_nil, List.setIfInBounds_toArray, List.set_cons_succ, List.set_cons_zero, List.drop_succ_cons, List.drop_zero]
        rw [show gv 63 = .bool bP from hV 3 63 (by kernel_rfl)]
        clear hV
        refine wpList_nil ?_
        have HB4 := Lib.hid (HB3.out.kept k4)
        have kw4 := kw3.trans k4
        clear k4 kw3 HB3
        cases bP with
        | true =>
          have he : c.err = 1 := by
            unfold Ord.err
            have hA := HA.out
            have hB := HB.out
            have hK := HK.out
            have hP := HP.out
            simp [rng] at hA hB hK hP
            rw [if_neg]
            rw [right_iff]
            omega
          have HE := Lib.hid he
          clear he
          go_wp2
          go_ret
          exact ⟨_, rfl, by rw [HE.out]; rfl, kw4⟩
        | false =>
          obtain ⟨bS, hS⟩ : ∃ b, ((decide (c.shw ≠ 0) && decide (c.k ≠ 1)) && decide (c.k ≠ 5)) = b := ⟨_, rfl⟩
          have HS := Lib.hid hS
          clear hS
          go_upto_region 10 with fail
          refine wp_text 13 [.eq (.pointer (some ⟨g, 7, none⟩)), .eq (.int .i64 c.shw), .eq (.bool (decide ((c.shw : Int) ≠ (0 : Int)))), .eq (.bool (decide ((c.shw : Int) ≠ (0 : Int)))), .cond (decide ((c.shw : Int) ≠ (0 : Int))) (.eq (.pointer (some ⟨g, 4, none⟩))), .cond (decide ((c.shw : Int) ≠ (0 : Int))) (.eq (.int .i64 c.k)), .cond (decide ((c.shw : Int) ≠ (0 : Int))) (.eq (.bool (decide ((c.k : Int) ≠ (1 : Int))))), .eq (.bool ((decide ((c.shw : Int) ≠ (0 : Int))) && (decide ((c.k : Int) ≠ (1 : Int))))), .eq (.bool ((decide ((c.shw : Int) ≠ (0 : Int))) && (decide ((c.k : Int) ≠ (1 : Int))))), .cond ((decide ((c.shw : Int) ≠ (0 : Int))) && (decide ((c.k : Int) ≠ (1 : Int)))) (.eq (.pointer (some ⟨g, 4, none⟩))), .cond ((decide ((c.shw : Int) ≠ (0 : Int))) && (decide ((c.k : Int) ≠ (1 : Int)))) (.eq (.int .i64 c.k)), .cond ((decide ((c.shw : Int) ≠ (0 : Int))) && (decide ((c.k : Int) ≠ (1 : Int)))) (.eq (.bool (decide ((c.k : Int) ≠ (5 : Int))))), .eq (.bool bS)] rfl (by kernel_rfl) ?_ ?_
          · refine fsteps_cons 1 rfl (fun a u hE hD hk => f_val (o := ⟨some 64, _, _, _, _, _⟩) (.pointer (some ⟨g, 7, none⟩)) rfl (wanted_none rfl _) (exec_fld 29 7 7 (.tmp 1) (g) rfl (hE 1 (.pointer (some ⟨g, 0, none⟩)) (by kernel_rfl) (by kernel_rfl)) (by kernel_rfl)) rfl) ?_
            refine fsteps_cons 2 rfl (fun a u hE hD hk => f_val (o := ⟨some 65, _, _, _, _, _⟩) (.int .i64 c.shw) rfl (wanted_none rfl _) (exec_loadi 3 Try.underlying3 (.tmp 64) ⟨g, 7, none⟩ (.int .i64 c.shw) rfl (hD 0 64 (by kernel_rfl)) ((HB4.out.kept hk).fld 7 _ rfl)) rfl) ?_
            refine fsteps_cons 3 rfl (fun a u hE hD hk => f_val (o := ⟨some 66, _, _, _, _, _⟩) (.bool (decide ((c.shw : Int) ≠ (0 : Int)))) rfl (wanted_none rfl _) (exec_nen (p := c.shw) (q := 0) rfl (hD 1 65 (by kernel_rfl)) rfl) rfl) ?_
            refine fsteps_cons 4 rfl (fun a u hE hD hk => f_val (o := ⟨some 67, _, _, _, _, _⟩) (.bool (decide ((c.shw : Int) ≠ (0 : Int)))) rfl (wanted_none rfl _) (exec_move (.tmp 66) (.bool (decide ((c.shw : Int) ≠ (0 : Int)))) rfl (hD 2 66 (by kernel_rfl))) rfl) ?_
            refine fsteps_cons 5 rfl (fun a u hE hD hk => f_if ((decide ((c.shw : Int) ≠ (0 : Int)))) rfl rfl rfl (hD 3 67 (by kernel_rfl)) (fun hb => f_val (o := ⟨some 68, _, _, _, _, _⟩) (.pointer (some ⟨g, 4, none⟩)) rfl (wanted_b rfl rfl (hD 3 67 (by kernel_rfl)) (eq_true_of hb)) (exec_fld 29 4 4 (.tmp 1) (g) rfl (hE 1 (.pointer (some ⟨g, 0, none⟩)) (by kernel_rfl) (by kernel_rfl)) (by kernel_rfl)) rfl)) ?_
            refine fsteps_cons 6 rfl (fun a u hE hD hk => f_if ((decide ((c.shw : Int) ≠ (0 : Int)))) rfl rfl rfl (hD 3 67 (by kernel_rfl)) (fun hb => f_val (o := ⟨some 69, _, _, _, _, _⟩) (.int .i64 c.k) rfl (wanted_b rfl rfl (hD 3 67 (by kernel_rfl)) (eq_true_of hb)) (exec_loadi 3 Try.underlying3 (.tmp 68) ⟨g, 4, none⟩ (.int .i64 c.k) rfl ((hD 4 68 (by kernel_rfl)).1 hb) ((HB4.out.kept hk).fld 4 _ rfl)) rfl)) ?_
            refine fsteps_cons 7 rfl (fun a u hE hD hk => f_if ((decide ((c.shw : Int) ≠ (0 : Int)))) rfl rfl rfl (hD 3 67 (by kernel_rfl)) (fun hb => f_val (o := ⟨some 70, _, _, _, _, _⟩) (.bool (decide ((c.k : Int) ≠ (1 : Int)))) rfl (wanted_b rfl rfl (hD 3 67 (by kernel_rfl)) (eq_true_of hb)) (exec_nen (p := c.k) (q := 1) rfl ((hD 5 69 (by kernel_rfl)).1 hb) rfl) rfl)) ?_
            refine fsteps_cons 8 rfl (fun a u hE hD hk => f_val (o := ⟨some 71, _, _, _, _, _⟩) (.bool ((decide ((c.shw : Int) ≠ (0 : Int))) && (decide ((c.k : Int) ≠ (1 : Int))))) rfl (wanted_none rfl _) (exec_pickand (.tmp 67) (.tmp 70) (.const (.bool false)) ((decide ((c.shw : Int) ≠ (0 : Int)))) ((decide ((c.k : Int) ≠ (1 : Int)))) rfl (hD 3 67 (by kernel_rfl)) (fun hb2 => ((hD 6 70 (by kernel_rfl)).1 hb2)) rfl) rfl) ?_
            refine fsteps_cons 9 rfl (fun a u hE hD hk => f_val (o := ⟨some 72, _, _, _, _, _⟩) (.bool ((decide ((c.shw : Int) ≠ (0 : Int))) && (decide ((c.k : Int) ≠ (1 : Int))))) rfl (wanted_none rfl _) (exec_move (.tmp 71) (.bool ((decide ((c.shw : Int) ≠ (0 : Int))) && (decide ((c.k : Int) ≠ (1 : Int))))) rfl (hD 7 71 (by kernel_rfl))) rfl) ?_
            refine fsteps_cons 10 rfl (fun a u hE hD hk => f_if (((decide ((c.shw : Int) ≠ (0 : Int))) && (decide ((c.k : Int) ≠ (1 : Int))))) rfl rfl rfl (hD 8 72 (by kernel_rfl)) (fun hb => f_val (o := ⟨some 73, _, _, _, _, _⟩) (.pointer (some ⟨g, 4, none⟩)) rfl (wanted_b rfl rfl (hD 8 72 (by kernel_rfl)) (eq_true_of hb)) (exec_fld 29 4 4 (.tmp 1) (g) rfl (hE 1 (.pointer (some ⟨g, 0, none⟩)) (by kernel_rfl) (by kernel_rfl)) (by kernel_rfl)) rfl)) ?_
            refine fsteps_cons 11 rfl (fun a u hE hD hk => f_if (((decide ((c.shw : Int) ≠ (0 : Int))) && (decide ((c.k : Int) ≠ (1 : Int))))) rfl rfl rfl (hD 8 72 (by kernel_rfl)) (fun hb => f_val (o := ⟨some 74, _, _, _, _, _⟩) (.int .i64 c.k) rfl (wanted_b rfl rfl (hD 8 72 (by kernel_rfl)) (eq_true_of hb)) (exec_loadi 3 Try.underlying3 (.tmp 73) ⟨g, 4, none⟩ (.int .i64 c.k) rfl ((hD 9 73 (by kernel_rfl)).1 hb) ((HB4.out.kept hk).fld 4 _ rfl)) rfl)) ?_
            refine fsteps_cons 12 rfl (fun a u hE hD hk => f_if (((decide ((c.shw : Int) ≠ (0 : Int))) && (decide ((c.k : Int) ≠ (1 : Int))))) rfl rfl rfl (hD 8 72 (by kernel_rfl)) (fun hb => f_val (o := ⟨some 75, _, _, _, _, _⟩) (.bool (decide ((c.k : Int) ≠ (5 : Int)))) rfl (wanted_b rfl rfl (hD 8 72 (by kernel_rfl)) (eq_true_of hb)) (exec_nen (p := c.k) (q := 5) rfl ((hD 10 74 (by kernel_rfl)).1 hb) rfl) rfl)) ?_
            refine fsteps_cons 13 rfl (fun a u hE hD hk => f_as (show ((((decide ((c.shw : Int) ≠ (0 : Int))) && (decide ((c.k : Int) ≠ (1 : Int)))) && (decide ((c.k : Int) ≠ (5 : Int)))) : Bool) = bS from HS.out) (f_val (o := ⟨some 76, _, _, _, _, _⟩) (.bool (((decide ((c.shw : Int) ≠ (0 : Int))) && (decide ((c.k : Int) ≠ (1 : Int)))) && (decide ((c.k : Int) ≠ (5 : Int))))) rfl (wanted_none rfl _) (exec_pickand (.tmp 72) (.tmp 75) (.const (.bool false)) (((decide ((c.shw : Int) ≠ (0 : Int))) && (decide ((c.k : Int) ≠ (1 : Int))))) ((decide ((c.k : Int) ≠ (5 : Int)))) rfl (hD 8 72 (by kernel_rfl)) (fun hb2 => ((hD 11 75 (by kernel_rfl)).1 hb2)) rfl) rfl)) ?_
            exact fsteps_nil
          intro gv w5 hV k5
          rw [show dstsOf _ 13 = [64, 65, 66, 67, 68, 69, 70, 71, 72, 73, 74, 75, 76] by kernel_rfl]
          simp only [List.foldl_cons, List.foldl_nil, List.setIfInBounds_toArray, List.set_cons_succ, List.set_cons_zero, List.drop_succ_cons, List.drop_zero]
          rw [show gv 76 = .bool bS from hV 12 76 (by kernel_rfl)]
          clear hV
          refine wpList_nil ?_
          have HB5 := Lib.hid (HB4.out.kept k5)
          have kw5 := kw4.trans k5
          clear k5 kw4 HB4
          cases bS with
          | true =>
            have he : c.err = 1 := by
              unfold Ord.err
              have hA := HA.out
              have hB := HB.out
              have hK := HK.out
              have hP := HP.out
              have hS := HS.out
              simp [rng] at hA hB hK hP hS
              rw [if_neg]
              rw [right_iff]
              omega
            have HE := Lib.hid he
            clear he
            go_wp2
            go_ret
            exact ⟨_, rfl, by rw [HE.out]; rfl, kw5⟩
          | false =>
            have he : c.err = 0 := by
              unfold Ord.err
              have hA := HA.out
              have hB := HB.out
              have hK := HK.out
              have hP := HP.out
              have hS := HS.out
              simp [rng] at hA hB hK hP hS
              rw [if_pos]
              rw [right_iff]
              omega
            have HE := Lib.hid he
            clear he
            go_wp2
            go_ret
            exact ⟨_, rfl, by rw [HE.out]; rfl, kw5⟩
end Go.Proofs.Ytgajdkelpaaadaa
