/-
  The contracts of the document's own bucket. Conditions: a bucket in memory, as NewBucket makes it and Take leaves it; times from 0 to MaxTick.
-/
import Derived.Test.YtpkadepohgeloaaBukM
import Derived.Test.YtpkadepohgeloaaSched
namespace Go.Proofs.Ytpkadepohgeloaa
open Go.RowKit
set_option linter.unusedVariables false
set_option maxRecDepth 100000

theorem exec_maxn {a : Act} {o : Oper} {u : World} (x y : Operand) (ts : Array TypeId) (p q : Int) (r : Int) (hop : o.op = .call { callee := .builtin .max, args := #[x, y], argTypes := ts }) (hx : a.eval x = .int .i64 p) (hy : a.eval y = .int .i64 q) (hr : (if p < q then q else p) = r) : (execOp a.eval o).run Try.prog u = .ok (.value (.int .i64 r)) u := by
  subst hr
  unfold execOp
  simp only [hop, resolve, invoke, builtin, Sem.run_bind, Sem.run_pure, Result.andThen_ok, List.map_toArray, List.map_cons, List.map_nil, hx, hy]
  simp [go_sem]
theorem rnew_no (b r : Int) (h : newB b r = false) (w : World) : Gives 11 #[.int .i64 b, .int .i64 r] w (.eq (.tuple #[.pointer none, .int .i64 1])) := by
  refine gives_eq ?_
  have H : Hid ((((decide (b < 1) || decide (1048576 < b)) || decide (r < 1)) || decide (1099511627776 < r)) = true) := by
    show _ = _
    refine (Bool.eq_false_or_eq_true _).resolve_right fun hf => ?_
    rw [Bool.or_eq_false_iff, Bool.or_eq_false_iff, Bool.or_eq_false_iff, decide_eq_false_iff_not, decide_eq_false_iff_not, decide_eq_false_iff_not, decide_eq_false_iff_not] at hf
    have := (newB_iff (b := b) (r := r)).2 (by omega)
    rw [h] at this
    cases this
  clear h
  go_enter Try.func11, Try.ntmps11
  go_upto_region 1 with fail
  refine wp_text 14 [.eq (.int .i64 b), .eq (.bool (decide ((b : Int) < (1 : Int)))), .eq (.bool (decide ((b : Int) < (1 : Int)))), .cond (!(decide ((b : Int) < (1 : Int)))) (.eq (.int .i64 b)), .cond (!(decide ((b : Int) < (1 : Int)))) (.eq (.bool (decide ((1048576 : Int) < (b : Int))))), .eq (.bool ((decide ((b : Int) < (1 : Int))) || (decide ((1048576 : Int) < (b : Int))))), .eq (.bool ((decide ((b : Int) < (1 : Int))) || (decide ((1048576 : Int) < (b : Int))))), .cond (!((decide ((b : Int) < (1 : Int))) || (decide ((1048576 : Int) < (b : Int))))) (.eq (.int .i64 r)), .cond (!((decide ((b : Int) < (1 : Int))) || (decide ((1048576 : Int) < (b : Int))))) (.eq (.bool (decide ((r : Int) < (1 : Int))))), .eq (.bool (((decide ((b : Int) < (1 : Int))) || (decide ((1048576 : Int) < (b : Int)))) || (decide ((r : Int) < (1 : Int))))), .eq (.bool (((decide ((b : Int) < (1 : Int))) || (decide ((1048576 : Int) < (b : Int)))) || (decide ((r : Int) < (1 : Int))))), .cond (!(((decide ((b : Int) < (1 : Int))) || (decide ((1048576 : Int) < (b : Int)))) || (decide ((r : Int) < (1 : Int))))) (.eq (.int .i64 r)), .cond (!(((decide ((b : Int) < (1 : Int))) || (decide ((1048576 : Int) < (b : Int)))) || (decide ((r : Int) < (1 : Int))))) (.eq (.bool (decide ((1099511627776 : Int) < (r : Int))))), .eq (.bool true)] rfl (by kernel_rfl) ?_ ?_
  · refine sv 1 rfl rfl rfl (fun a u hE hD hk => exec_move (.tmp 0) _ rfl (hE 0 (.int .i64 b) (by kernel_rfl) (by kernel_rfl))) ?_
    refine sv 2 rfl rfl rfl (fun a u hE hD hk => exec_ltn (p := b) (q := 1) rfl (hD 0 6 (by kernel_rfl)) rfl) ?_
    refine sv 3 rfl rfl rfl (fun a u hE hD hk => exec_move (.tmp 7) _ rfl (hD 1 7 (by kernel_rfl))) ?_
    refine fsteps_cons 4 rfl (fun a u hE hD hk => f_unless ((decide ((b : Int) < (1 : Int)))) rfl rfl rfl (hD 2 8 (by kernel_rfl)) (fun hb => f_val (o := ⟨some 9, _, _, _, _, _⟩) (.int .i64 b) rfl (wanted_b rfl rfl (hD 2 8 (by kernel_rfl)) (eq_false_of hb)) (exec_move (.tmp 0) _ rfl (hE 0 (.int .i64 b) (by kernel_rfl) (by kernel_rfl))) rfl)) ?_
    refine fsteps_cons 5 rfl (fun a u hE hD hk => f_unless ((decide ((b : Int) < (1 : Int)))) rfl rfl rfl (hD 2 8 (by kernel_rfl)) (fun hb => f_val (o := ⟨some 10, _, _, _, _, _⟩) (.bool (decide ((1048576 : Int) < (b : Int)))) rfl (wanted_b rfl rfl (hD 2 8 (by kernel_rfl)) (eq_false_of hb)) (exec_gtn (p := b) (q := 1048576) rfl ((hD 3 9 (by kernel_rfl)).1 hb) rfl) rfl)) ?_
    refine sv 6 rfl rfl rfl (fun a u hE hD hk => exec_pickor (.tmp 8) (.const (.bool true)) (.tmp 10) ((decide ((b : Int) < (1 : Int)))) ((decide ((1048576 : Int) < (b : Int)))) rfl (hD 2 8 (by kernel_rfl)) rfl (fun hb2 => ((hD 4 10 (by kernel_rfl)).1 hb2))) ?_
    refine sv 7 rfl rfl rfl (fun a u hE hD hk => exec_move (.tmp 11) _ rfl (hD 5 11 (by kernel_rfl))) ?_
    refine fsteps_cons 8 rfl (fun a u hE hD hk => f_unless (((decide ((b : Int) < (1 : Int))) || (decide ((1048576 : Int) < (b : Int))))) rfl rfl rfl (hD 6 12 (by kernel_rfl)) (fun hb => f_val (o := ⟨some 13, _, _, _, _, _⟩) (.int .i64 r) rfl (wanted_b rfl rfl (hD 6 12 (by kernel_rfl)) (eq_false_of hb)) (exec_move (.tmp 1) _ rfl (hE 1 (.int .i64 r) (by kernel_rfl) (by kernel_rfl))) rfl)) ?_
    refine fsteps_cons 9 rfl (fun a u hE hD hk => f_unless (((decide ((b : Int) < (1 : Int))) || (decide ((1048576 : Int) < (b : Int))))) rfl rfl rfl (hD 6 12 (by kernel_rfl)) (fun hb => f_val (o := ⟨some 14, _, _, _, _, _⟩) (.bool (decide ((r : Int) < (1 : Int)))) rfl (wanted_b rfl rfl (hD 6 12 (by kernel_rfl)) (eq_false_of hb)) (exec_ltn (p := r) (q := 1) rfl ((hD 7 13 (by kernel_rfl)).1 hb) rfl) rfl)) ?_
    refine sv 10 rfl rfl rfl (fun a u hE hD hk => exec_pickor (.tmp 12) (.const (.bool true)) (.tmp 14) (((decide ((b : Int) < (1 : Int))) || (decide ((1048576 : Int) < (b : Int))))) ((decide ((r : Int) < (1 : Int)))) rfl (hD 6 12 (by kernel_rfl)) rfl (fun hb2 => ((hD 8 14 (by kernel_rfl)).1 hb2))) ?_
    refine sv 11 rfl rfl rfl (fun a u hE hD hk => exec_move (.tmp 15) _ rfl (hD 9 15 (by kernel_rfl))) ?_
    refine fsteps_cons 12 rfl (fun a u hE hD hk => f_unless ((((decide ((b : Int) < (1 : Int))) || (decide ((1048576 : Int) < (b : Int)))) || (decide ((r : Int) < (1 : Int))))) rfl rfl rfl (hD 10 16 (by kernel_rfl)) (fun hb => f_val (o := ⟨some 17, _, _, _, _, _⟩) (.int .i64 r) rfl (wanted_b rfl rfl (hD 10 16 (by kernel_rfl)) (eq_false_of hb)) (exec_move (.tmp 1) _ rfl (hE 1 (.int .i64 r) (by kernel_rfl) (by kernel_rfl))) rfl)) ?_
    refine fsteps_cons 13 rfl (fun a u hE hD hk => f_unless ((((decide ((b : Int) < (1 : Int))) || (decide ((1048576 : Int) < (b : Int)))) || (decide ((r : Int) < (1 : Int))))) rfl rfl rfl (hD 10 16 (by kernel_rfl)) (fun hb => f_val (o := ⟨some 18, _, _, _, _, _⟩) (.bool (decide ((1099511627776 : Int) < (r : Int)))) rfl (wanted_b rfl rfl (hD 10 16 (by kernel_rfl)) (eq_false_of hb)) (exec_gtn (p := r) (q := 1099511627776) rfl ((hD 11 17 (by kernel_rfl)).1 hb) rfl) rfl)) ?_
    refine fsteps_cons 14 rfl (fun a u hE hD hk => f_as (show (((((decide ((b : Int) < (1 : Int))) || (decide ((1048576 : Int) < (b : Int)))) || (decide ((r : Int) < (1 : Int)))) || (decide ((1099511627776 : Int) < (r : Int)))) : Bool) = true from H.out) (f_val (o := ⟨some 19, _, _, _, _, _⟩) (.bool ((((decide ((b : Int) < (1 : Int))) || (decide ((1048576 : Int) < (b : Int)))) || (decide ((r : Int) < (1 : Int)))) || (decide ((1099511627776 : Int) < (r : Int))))) rfl (wanted_none rfl _) (exec_pickor (.tmp 16) (.const (.bool true)) (.tmp 18) ((((decide ((b : Int) < (1 : Int))) || (decide ((1048576 : Int) < (b : Int)))) || (decide ((r : Int) < (1 : Int))))) ((decide ((1099511627776 : Int) < (r : Int)))) rfl (hD 10 16 (by kernel_rfl)) rfl (fun hb2 => ((hD 12 18 (by kernel_rfl)).1 hb2))) rfl)) ?_
    exact fsteps_nil
  intro gv w0 hV k0
  rw [show dstsOf _ 14 = [6, 7, 8, 9, 10, 11, 12, 13, 14, 15, 16, 17, 18, 19] by kernel_rfl]
  simp only [List.foldl_cons, List.foldl_nil, List.setIfInBounds_toArray, List.set_cons_succ, List.set_cons_zero, List.drop_succ_cons, List.drop_zero]
  rw [show gv 19 = .bool true from hV 13 19 (by kernel_rfl)]
  clear hV
  refine wpList_nil ?_
  go_wp2
  go_ret2
  exact ⟨rfl, k0⟩
theorem rnew_yes (b r : Int) (h : newB b r = true) (w : World) : Calls Try.prog 11 #[.int .i64 b, .int .i64 r] w fun e w' => ∃ g, e = .returned (.tuple #[.pointer (some ⟨g, 0, none⟩), .int .i64 0]) ∧ w.heap.size ≤ g ∧ Blk w' g 37 (Bkt.full b r).cells ∧ Kept w w' := by
  have H : Hid ((((decide (b < 1) || decide (1048576 < b)) || decide (r < 1)) || decide (1099511627776 < r)) = false) := by
    show _ = _
    have h2 := newB_iff.1 h
    rw [decide_eq_false (by omega), decide_eq_false (by omega), decide_eq_false (by omega), decide_eq_false (by omega)]
    rfl
  clear h
  go_enter Try.func11, Try.ntmps11
  go_upto_region 1 with fail
  refine wp_text 14 [.eq (.int .i64 b), .eq (.bool (decide ((b : Int) < (1 : Int)))), .eq (.bool (decide ((b : Int) < (1 : Int)))), .cond (!(decide ((b : Int) < (1 : Int)))) (.eq (.int .i64 b)), .cond (!(decide ((b : Int) < (1 : Int)))) (.eq (.bool (decide ((1048576 : Int) < (b : Int))))), .eq (.bool ((decide ((b : Int) < (1 : Int))) || (decide ((1048576 : Int) < (b : Int))))), .eq (.bool ((decide ((b : Int) < (1 : Int))) || (decide ((1048576 : Int) < (b : Int))))), .cond (!((decide ((b : Int) < (1 : Int))) || (decide ((1048576 : Int) < (b : Int))))) (.eq (.int .i64 r)), .cond (!((decide ((b : Int) < (1 : Int))) || (decide ((1048576 : Int) < (b : Int))))) (.eq (.bool (decide ((r : Int) < (1 : Int))))), .eq (.bool (((decide ((b : Int) < (1 : Int))) || (decide ((1048576 : Int) < (b : Int)))) || (decide ((r : Int) < (1 : Int))))), .eq (.bool (((decide ((b : Int) < (1 : Int))) || (decide ((1048576 : Int) < (b : Int)))) || (decide ((r : Int) < (1 : Int))))), .cond (!(((decide ((b : Int) < (1 : Int))) || (decide ((1048576 : Int) < (b : Int)))) || (decide ((r : Int) < (1 : Int))))) (.eq (.int .i64 r)), .cond (!(((decide ((b : Int) < (1 : Int))) || (decide ((1048576 : Int) < (b : Int)))) || (decide ((r : Int) < (1 : Int))))) (.eq (.bool (decide ((1099511627776 : Int) < (r : Int))))), .eq (.bool false)] rfl (by kernel_rfl) ?_ ?_
  · refine sv 1 rfl rfl rfl (fun a u hE hD hk => exec_move (.tmp 0) _ rfl (hE 0 (.int .i64 b) (by kernel_rfl) (by kernel_rfl))) ?_
    refine sv 2 rfl rfl rfl (fun a u hE hD hk => exec_ltn (p := b) (q := 1) rfl (hD 0 6 (by kernel_rfl)) rfl) ?_
    refine sv 3 rfl rfl rfl (fun a u hE hD hk => exec_move (.tmp 7) _ rfl (hD 1 7 (by kernel_rfl))) ?_
    refine fsteps_cons 4 rfl (fun a u hE hD hk => f_unless ((decide ((b : Int) < (1 : Int)))) rfl rfl rfl (hD 2 8 (by kernel_rfl)) (fun hb => f_val (o := ⟨some 9, _, _, _, _, _⟩) (.int .i64 b) rfl (wanted_b rfl rfl (hD 2 8 (by kernel_rfl)) (eq_false_of hb)) (exec_move (.tmp 0) _ rfl (hE 0 (.int .i64 b) (by kernel_rfl) (by kernel_rfl))) rfl)) ?_
    refine fsteps_cons 5 rfl (fun a u hE hD hk => f_unless ((decide ((b : Int) < (1 : Int)))) rfl rfl rfl (hD 2 8 (by kernel_rfl)) (fun hb => f_val (o := ⟨some 10, _, _, _, _, _⟩) (.bool (decide ((1048576 : Int) < (b : Int)))) rfl (wanted_b rfl rfl (hD 2 8 (by kernel_rfl)) (eq_false_of hb)) (exec_gtn (p := b) (q := 1048576) rfl ((hD 3 9 (by kernel_rfl)).1 hb) rfl) rfl)) ?_
    refine sv 6 rfl rfl rfl (fun a u hE hD hk => exec_pickor (.tmp 8) (.const (.bool true)) (.tmp 10) ((decide ((b : Int) < (1 : Int)))) ((decide ((1048576 : Int) < (b : Int)))) rfl (hD 2 8 (by kernel_rfl)) rfl (fun hb2 => ((hD 4 10 (by kernel_rfl)).1 hb2))) ?_
    refine sv 7 rfl rfl rfl (fun a u hE hD hk => exec_move (.tmp 11) _ rfl (hD 5 11 (by kernel_rfl))) ?_
    refine fsteps_cons 8 rfl (fun a u hE hD hk => f_unless (((decide ((b : Int) < (1 : Int))) || (decide ((1048576 : Int) < (b : Int))))) rfl rfl rfl (hD 6 12 (by kernel_rfl)) (fun hb => f_val (o := ⟨some 13, _, _, _, _, _⟩) (.int .i64 r) rfl (wanted_b rfl rfl (hD 6 12 (by kernel_rfl)) (eq_false_of hb)) (exec_move (.tmp 1) _ rfl (hE 1 (.int .i64 r) (by kernel_rfl) (by kernel_rfl))) rfl)) ?_
    refine fsteps_cons 9 rfl (fun a u hE hD hk => f_unless (((decide ((b : Int) < (1 : Int))) || (decide ((1048576 : Int) < (b : Int))))) rfl rfl rfl (hD 6 12 (by kernel_rfl)) (fun hb => f_val (o := ⟨some 14, _, _, _, _, _⟩) (.bool (decide ((r : Int) < (1 : Int)))) rfl (wanted_b rfl rfl (hD 6 12 (by kernel_rfl)) (eq_false_of hb)) (exec_ltn (p := r) (q := 1) rfl ((hD 7 13 (by kernel_rfl)).1 hb) rfl) rfl)) ?_
    refine sv 10 rfl rfl rfl (fun a u hE hD hk => exec_pickor (.tmp 12) (.const (.bool true)) (.tmp 14) (((decide ((b : Int) < (1 : Int))) || (decide ((1048576 : Int) < (b : Int))))) ((decide ((r : Int) < (1 : Int)))) rfl (hD 6 12 (by kernel_rfl)) rfl (fun hb2 => ((hD 8 14 (by kernel_rfl)).1 hb2))) ?_
    refine sv 11 rfl rfl rfl (fun a u hE hD hk => exec_move (.tmp 15) _ rfl (hD 9 15 (by kernel_rfl))) ?_
    refine fsteps_cons 12 rfl (fun a u hE hD hk => f_unless ((((decide ((b : Int) < (1 : Int))) || (decide ((1048576 : Int) < (b : Int)))) || (decide ((r : Int) < (1 : Int))))) rfl rfl rfl (hD 10 16 (by kernel_rfl)) (fun hb => f_val (o := ⟨some 17, _, _, _, _, _⟩) (.int .i64 r) rfl (wanted_b rfl rfl (hD 10 16 (by kernel_rfl)) (eq_false_of hb)) (exec_move (.tmp 1) _ rfl (hE 1 (.int .i64 r) (by kernel_rfl) (by kernel_rfl))) rfl)) ?_
    refine fsteps_cons 13 rfl (fun a u hE hD hk => f_unless ((((decide ((b : Int) < (1 : Int))) || (decide ((1048576 : Int) < (b : Int)))) || (decide ((r : Int) < (1 : Int))))) rfl rfl rfl (hD 10 16 (by kernel_rfl)) (fun hb => f_val (o := ⟨some 18, _, _, _, _, _⟩) (.bool (decide ((1099511627776 : Int) < (r : Int)))) rfl (wanted_b rfl rfl (hD 10 16 (by kernel_rfl)) (eq_false_of hb)) (exec_gtn (p := r) (q := 1099511627776) rfl ((hD 11 17 (by kernel_rfl)).1 hb) rfl) rfl)) ?_
    refine fsteps_cons 14 rfl (fun a u hE hD hk => f_as (show (((((decide ((b : Int) < (1 : Int))) || (decide ((1048576 : Int) < (b : Int)))) || (decide ((r : Int) < (1 : Int)))) || (decide ((1099511627776 : Int) < (r : Int)))) : Bool) = false from H.out) (f_val (o := ⟨some 19, _, _, _, _, _⟩) (.bool ((((decide ((b : Int) < (1 : Int))) || (decide ((1048576 : Int) < (b : Int)))) || (decide ((r : Int) < (1 : Int)))) || (decide ((1099511627776 : Int) < (r : Int))))) rfl (wanted_none rfl _) (exec_pickor (.tmp 16) (.const (.bool true)) (.tmp 18) ((((decide ((b : Int) < (1 : Int))) || (decide ((1048576 : Int) < (b : Int)))) || (decide ((r : Int) < (1 : Int))))) ((decide ((1099511627776 : Int) < (r : Int)))) rfl (hD 10 16 (by kernel_rfl)) rfl (fun hb2 => ((hD 12 18 (by kernel_rfl)).1 hb2))) rfl)) ?_
    exact fsteps_nil
  intro gv w0 hV k0
  rw [show dstsOf _ 14 = [6, 7, 8, 9, 10, 11, 12, 13, 14, 15, 16, 17, 18, 19] by kernel_rfl]
  simp only [List.foldl_cons, List.foldl_nil, List.setIfInBounds_toArray, List.set_cons_succ, List.set_cons_zero, List.drop_succ_cons, List.drop_zero]
  rw [show gv 19 = .bool false from hV 13 19 (by kernel_rfl)]
  clear hV
  refine wpList_nil ?_
  go_upto_region 3 with fail
  refine wp_region_lit ?_
  refine l_val (o := ⟨some 20, _, _, _, _, _⟩) (.int .i64 b) rfl (exec_move (.tmp 0) (.int .i64 b) rfl (by kernel_rfl)) ?_
  simp only [Act.put, List.setIfInBounds_toArray, List.set_cons_succ, List.set_cons_zero]
  refine l_val (o := ⟨some 21, _, _, _, _, _⟩) (.int .i64 r) rfl (exec_move (.tmp 1) (.int .i64 r) rfl (by kernel_rfl)) ?_
  simp only [Act.put, List.setIfInBounds_toArray, List.set_cons_succ, List.set_cons_zero]
  refine l_val (o := ⟨some 22, _, _, _, _, _⟩) (.int .i64 b) rfl (exec_move (.tmp 0) (.int .i64 b) rfl (by kernel_rfl)) ?_
  simp only [Act.put, List.setIfInBounds_toArray, List.set_cons_succ, List.set_cons_zero]
  refine l_val (o := ⟨some 23, _, _, _, _, _⟩) (.agg (Bkt.full b r).cells.toArray) rfl (exec_build 37 [(0, .tmp 20), (1, .tmp 21), (2, .tmp 22)] (Bkt.full b r).cells rfl (by kernel_rfl)) ?_
  simp only [Act.put, List.setIfInBounds_toArray, List.set_cons_succ, List.set_cons_zero]
  refine l_new (o := ⟨some 24, _, _, _, _, _⟩) (.pointer (some ⟨w0.heap.size, 0, none⟩)) (w0.alloc (.cells (Bkt.full b r).cells.toArray 37)) rfl (exec_box 37 (.tmp 23) (Bkt.full b r).cells rfl (by kernel_rfl)) ?_
  have hN := Blk.new w0 37 (Bkt.full b r).cells
  have kn : Kept w0 (w0.alloc (.cells (Bkt.full b r).cells.toArray 37)) := (Keep.refl _ w0).alloc _
  generalize w0.alloc (.cells (Bkt.full b r).cells.toArray 37) = w1 at hN kn ⊢
  simp only [Act.put, List.setIfInBounds_toArray, List.set_cons_succ, List.set_cons_zero]
  refine l_val (o := ⟨some 4, _, _, _, _, _⟩) (.pointer (some ⟨w0.heap.size, 0, none⟩)) rfl (exec_assign (.tmp 24) (.pointer (some ⟨w0.heap.size, 0, none⟩)) rfl (by kernel_rfl)) ?_
  simp only [Act.put, List.setIfInBounds_toArray, List.set_cons_succ, List.set_cons_zero]
  refine l_val (o := ⟨some 5, _, _, _, _, _⟩) (.int .i64 0) rfl (exec_assign (.const (.int .i64 0)) (.int .i64 0) rfl (by kernel_rfl)) ?_
  simp only [Act.put, List.setIfInBounds_toArray, List.set_cons_succ, List.set_cons_zero]
  refine wpList_nil ?_
  obtain ⟨g, hg⟩ : ∃ x, w0.heap.size = x := ⟨_, rfl⟩
  have zg := k0.size
  rw [hg] at hN zg ⊢
  have kw := k0.trans kn
  clear kn hg
  go_wp2
  go_ret2
  exact ⟨g, rfl, zg, hN, kw⟩
set_option maxRecDepth 100000 in
set_option maxHeartbeats 1600000 in
theorem rtake_any (g : Nat) (B : Bkt) (hO : B.Ok) (now : Int) (h1 : now ≤ 1099511627776) (w : World) (hB : Blk w g 37 B.cells) : Calls Try.prog 13 #[.pointer (some ⟨g, 0, none⟩), .int .i64 now] w fun e w' => e = .returned (.bool (B.can now)) ∧ Blk w' g 37 (B.took now).cells ∧ Keep (· = g) w w' := by
  have HB := Lib.hid hB
  clear hB
  have hS := hO.seen h1
  have hfull := seen_full hO now
  obtain ⟨b0, b1, r0, r1, k0, k1, t0, t1⟩ := hS
  unfold Bkt.can Bkt.took
  obtain ⟨S, hS⟩ : ∃ S, B.seenM now = S := ⟨_, rfl⟩
  rw [hS] at k0 k1 b1 hfull ⊢
  clear b0 r0 r1 t0 t1
  have HM : Hid (S.k = S.b → ¬ S.t < now) := by
    show _ → _
    intro h
    rcases hfull h with ⟨a, b⟩ | ⟨a, b⟩ <;> omega
  clear hfull
  have HS := Lib.hid hS
  clear hS
  obtain ⟨V, hV⟩ : ∃ V, (!decide (S.k = 0)) = V := ⟨_, rfl⟩
  obtain ⟨Y, hY⟩ : ∃ Y, (if S.k = 0 then S else S.less) = Y := ⟨_, rfl⟩
  rw [hV, hY]
  have HV := Lib.hid hV
  have HY := Lib.hid hY
  clear hV hY
  by_cases h0 : B.t < now
  · have HSf : Hid (B.fillM now = S) := by show _ = _; have := HS.out; unfold Bkt.seenM at this; rw [if_pos h0] at this; exact this
    clear HS
    obtain ⟨c0, c1, c2, c3, c4⟩ := Bkt.came_in hO h0
    obtain ⟨b0, b2, r0, r1, k2, k3, t0, t1⟩ := hO
    obtain ⟨C, hC⟩ : ∃ C, B.came now = C := ⟨_, rfl⟩
    unfold Bkt.fillM at HSf
    rw [hC] at c0 c1 c2 c3 c4 HSf
    have HQ : Hid ((now - B.t).tdiv B.r = C) := hC
    clear hC
    go_enter Try.func13, Try.ntmps13
    go_upto_region 1 with fail
    refine wp_text 6 [.eq (.int .i64 now), .eq (.pointer (some ⟨g, 0, none⟩)), .eq (.pointer (some ⟨g, 0, none⟩)), .eq (.pointer (some ⟨g, 3, none⟩)), .eq (.int .i64 B.t), .eq (.bool true)] rfl (by kernel_rfl) ?_ ?_
    · refine sv 1 rfl rfl rfl (fun a u hE hD hk => exec_move (.tmp 1) _ rfl (hE 1 (.int .i64 now) (by kernel_rfl) (by kernel_rfl))) ?_
      refine sv 2 rfl rfl rfl (fun a u hE hD hk => exec_move (.tmp 0) _ rfl (hE 0 (.pointer (some ⟨g, 0, none⟩)) (by kernel_rfl) (by kernel_rfl))) ?_
      refine sv 3 rfl rfl rfl (fun a u hE hD hk => exec_nilp (.tmp 7) ⟨g, 0, none⟩ rfl (hD 1 7 (by kernel_rfl))) ?_
      refine sv 4 rfl rfl rfl (fun a u hE hD hk => exec_fldo 37 3 3 (.tmp 8) (g) (0) (3) rfl (hD 2 8 (by kernel_rfl)) (by kernel_rfl) rfl) ?_
      refine sv 5 rfl rfl rfl (fun a u hE hD hk => exec_loadi 3 Try.underlying3 (.tmp 9) ⟨g, 3, none⟩ (.int .i64 B.t) rfl (hD 3 9 (by kernel_rfl)) (range_int (range_kept (blk_range HB.out) hk) 3 _ rfl)) ?_
      refine fsteps_cons 6 rfl (fun a u hE hD hk => f_as (show ((decide ((B.t : Int) < (now : Int))) : Bool) = true from decide_eq_true h0) (f_val (o := ⟨some 11, _, _, _, _, _⟩) (.bool (decide ((B.t : Int) < (now : Int)))) rfl (wanted_none rfl _) (exec_gtn (p := now) (q := B.t) rfl (hD 0 6 (by kernel_rfl)) (hD 4 10 (by kernel_rfl))) rfl)) ?_
      exact fsteps_nil
    intro gv w0 hV kq
    rw [show dstsOf _ 6 = [6, 7, 8, 9, 10, 11] by kernel_rfl]
    simp only [List.foldl_cons, List.foldl_nil, List.setIfInBounds_toArray, List.set_cons_succ, List.set_cons_zero, List.drop_succ_cons, List.drop_zero]
    rw [show gv 11 = .bool true from hV 5 11 (by kernel_rfl)]
    clear hV
    refine wpList_nil ?_
    have HB0 := Lib.hid (HB.out.kept kq)
    clear HB
    go_upto_region 2 with fail
    refine wp_free 12 [.eq (.int .i64 now), .eq (.pointer (some ⟨g, 0, none⟩)), .eq (.pointer (some ⟨g, 0, none⟩)), .eq (.pointer (some ⟨g, 3, none⟩)), .eq (.int .i64 B.t), .eq (.int .i64 ((now : Int) - (B.t : Int))), .eq (.pointer (some ⟨g, 0, none⟩)), .eq (.pointer (some ⟨g, 0, none⟩)), .eq (.pointer (some ⟨g, 1, none⟩)), .eq (.int .i64 B.r), .eq (.int .i64 C), .eq (.int .i64 C)] (by kernel_rfl) rfl (by kernel_rfl) ?_ ?_
    · refine sv 1 rfl rfl rfl (fun a u hE hD hk => exec_move (.tmp 1) _ rfl (hE 1 (.int .i64 now) (by kernel_rfl) (by kernel_rfl))) ?_
      refine sv 2 rfl rfl rfl (fun a u hE hD hk => exec_move (.tmp 0) _ rfl (hE 0 (.pointer (some ⟨g, 0, none⟩)) (by kernel_rfl) (by kernel_rfl))) ?_
      refine sv 3 rfl rfl rfl (fun a u hE hD hk => exec_nilp (.tmp 13) ⟨g, 0, none⟩ rfl (hD 1 13 (by kernel_rfl))) ?_
      refine sv 4 rfl rfl rfl (fun a u hE hD hk => exec_fldo 37 3 3 (.tmp 14) (g) (0) (3) rfl (hD 2 14 (by kernel_rfl)) (by kernel_rfl) rfl) ?_
      refine sv 5 rfl rfl rfl (fun a u hE hD hk => exec_loadi 3 Try.underlying3 (.tmp 15) ⟨g, 3, none⟩ (.int .i64 B.t) rfl (hD 3 15 (by kernel_rfl)) (range_int (range_kept (blk_range HB0.out) hk) 3 _ rfl)) ?_
      refine sv 6 rfl rfl rfl (fun a u hE hD hk => exec_subn (p := (now)) (q := (B.t)) ((now : Int) - (B.t : Int)) rfl (hD 0 12 (by kernel_rfl)) (hD 4 16 (by kernel_rfl)) rfl (by omega) (by omega)) ?_
      refine sv 7 rfl rfl rfl (fun a u hE hD hk => exec_move (.tmp 0) _ rfl (hE 0 (.pointer (some ⟨g, 0, none⟩)) (by kernel_rfl) (by kernel_rfl))) ?_
      refine sv 8 rfl rfl rfl (fun a u hE hD hk => exec_nilp (.tmp 18) ⟨g, 0, none⟩ rfl (hD 6 18 (by kernel_rfl))) ?_
      refine sv 9 rfl rfl rfl (fun a u hE hD hk => exec_fldo 37 1 1 (.tmp 19) (g) (0) (1) rfl (hD 7 19 (by kernel_rfl)) (by kernel_rfl) rfl) ?_
      refine sv 10 rfl rfl rfl (fun a u hE hD hk => exec_loadi 3 Try.underlying3 (.tmp 20) ⟨g, 1, none⟩ (.int .i64 B.r) rfl (hD 8 20 (by kernel_rfl)) (range_int (range_kept (blk_range HB0.out) hk) 1 _ rfl)) ?_
      refine sv 11 rfl rfl rfl (fun a u hE hD hk => exec_quon C rfl (hD 5 17 (by kernel_rfl)) (hD 9 21 (by kernel_rfl)) (by omega) HQ.out (by omega) (by omega)) ?_
      refine sv 12 rfl rfl rfl (fun a u hE hD hk => exec_assign (.tmp 22) _ rfl (hD 10 22 (by kernel_rfl))) ?_
      exact fsteps_nil
    intro gv wx hV kx
    rw [show dstsOf _ 12 = [12, 13, 14, 15, 16, 17, 18, 19, 20, 21, 22, 5] by kernel_rfl]
    simp only [List.foldl_cons, List.foldl_nil, List.setIfInBounds_toArray, List.set_cons_succ, List.set_cons_zero, List.drop_succ_cons, List.drop_zero]
    rw [show gv 5 = .int .i64 C from hV 11 5 (by kernel_rfl)]
    clear hV
    refine wpList_nil ?_
    by_cases hq : B.b - B.k ≤ C
    · rw [if_pos hq] at HSf
      have HD := Lib.hid (decide_eq_true hq)
      clear hq
      have HBx := Lib.hid (HB0.out.kept kx)
      clear HB0
      go_upto_region 3 with fail
      refine wp_free 11 [.eq (.int .i64 C), .eq (.pointer (some ⟨g, 0, none⟩)), .eq (.pointer (some ⟨g, 0, none⟩)), .eq (.pointer (some ⟨g, 0, none⟩)), .eq (.int .i64 B.b), .eq (.pointer (some ⟨g, 0, none⟩)), .eq (.pointer (some ⟨g, 0, none⟩)), .eq (.pointer (some ⟨g, 2, none⟩)), .eq (.int .i64 B.k), .eq (.int .i64 ((B.b : Int) - (B.k : Int))), .eq (.bool true)] (by kernel_rfl) rfl (by kernel_rfl) ?_ ?_
      · refine sv 1 rfl rfl rfl (fun a u hE hD hk => exec_move (.tmp 5) _ rfl (hE 5 (.int .i64 C) (by kernel_rfl) (by kernel_rfl))) ?_
        refine sv 2 rfl rfl rfl (fun a u hE hD hk => exec_move (.tmp 0) _ rfl (hE 0 (.pointer (some ⟨g, 0, none⟩)) (by kernel_rfl) (by kernel_rfl))) ?_
        refine sv 3 rfl rfl rfl (fun a u hE hD hk => exec_nilp (.tmp 24) ⟨g, 0, none⟩ rfl (hD 1 24 (by kernel_rfl))) ?_
        refine sv 4 rfl rfl rfl (fun a u hE hD hk => exec_fldo 37 0 0 (.tmp 25) (g) (0) (0) rfl (hD 2 25 (by kernel_rfl)) (by kernel_rfl) rfl) ?_
        refine sv 5 rfl rfl rfl (fun a u hE hD hk => exec_loadi 3 Try.underlying3 (.tmp 26) ⟨g, 0, none⟩ (.int .i64 B.b) rfl (hD 3 26 (by kernel_rfl)) (range_int (range_kept (blk_range HBx.out) hk) 0 _ rfl)) ?_
        refine sv 6 rfl rfl rfl (fun a u hE hD hk => exec_move (.tmp 0) _ rfl (hE 0 (.pointer (some ⟨g, 0, none⟩)) (by kernel_rfl) (by kernel_rfl))) ?_
        refine sv 7 rfl rfl rfl (fun a u hE hD hk => exec_nilp (.tmp 28) ⟨g, 0, none⟩ rfl (hD 5 28 (by kernel_rfl))) ?_
        refine sv 8 rfl rfl rfl (fun a u hE hD hk => exec_fldo 37 2 2 (.tmp 29) (g) (0) (2) rfl (hD 6 29 (by kernel_rfl)) (by kernel_rfl) rfl) ?_
        refine sv 9 rfl rfl rfl (fun a u hE hD hk => exec_loadi 3 Try.underlying3 (.tmp 30) ⟨g, 2, none⟩ (.int .i64 B.k) rfl (hD 7 30 (by kernel_rfl)) (range_int (range_kept (blk_range HBx.out) hk) 2 _ rfl)) ?_
        refine sv 10 rfl rfl rfl (fun a u hE hD hk => exec_subn (p := (B.b)) (q := (B.k)) ((B.b : Int) - (B.k : Int)) rfl (hD 4 27 (by kernel_rfl)) (hD 8 31 (by kernel_rfl)) rfl (by omega) (by omega)) ?_
        refine fsteps_cons 11 rfl (fun a u hE hD hk => f_as (show ((decide ((((B.b : Int) - (B.k : Int)) : Int) ≤ (C : Int))) : Bool) = true from HD.out) (f_val (o := ⟨some 33, _, _, _, _, _⟩) (.bool (decide ((((B.b : Int) - (B.k : Int)) : Int) ≤ (C : Int)))) rfl (wanted_none rfl _) (exec_gen (p := C) (q := ((B.b : Int) - (B.k : Int))) rfl (hD 0 23 (by kernel_rfl)) (hD 9 32 (by kernel_rfl))) rfl)) ?_
        exact fsteps_nil
      intro gv wy hV ky
      rw [show dstsOf _ 11 = [23, 24, 25, 26, 27, 28, 29, 30, 31, 32, 33] by kernel_rfl]
      simp only [List.foldl_cons, List.foldl_nil, List.setIfInBounds_toArray, List.set_cons_succ, List.set_cons_zero, List.drop_succ_cons, List.drop_zero]
      rw [show gv 33 = .bool true from hV 10 33 (by kernel_rfl)]
      clear hV
      refine wpList_nil ?_
      have HB1 := Lib.hid (HBx.out.kept ky)
      clear HBx
      go_upto_region 4 with fail
      refine wp_text 9 [.eq (.pointer (some ⟨g, 0, none⟩)), .eq (.pointer (some ⟨g, 0, none⟩)), .eq (.pointer (some ⟨g, 0, none⟩)), .eq (.pointer (some ⟨g, 0, none⟩)), .eq (.pointer (some ⟨g, 0, none⟩)), .eq (.int .i64 B.b), .eq (.int .i64 now), .eq (.pointer (some ⟨g, 0, none⟩)), .eq (.pointer (some ⟨g, 2, none⟩))] rfl (by kernel_rfl) ?_ ?_
      · refine sv 1 rfl rfl rfl (fun a u hE hD hk => exec_move (.tmp 0) _ rfl (hE 0 (.pointer (some ⟨g, 0, none⟩)) (by kernel_rfl) (by kernel_rfl))) ?_
        refine sv 2 rfl rfl rfl (fun a u hE hD hk => exec_move (.tmp 0) _ rfl (hE 0 (.pointer (some ⟨g, 0, none⟩)) (by kernel_rfl) (by kernel_rfl))) ?_
        refine sv 3 rfl rfl rfl (fun a u hE hD hk => exec_move (.tmp 0) _ rfl (hE 0 (.pointer (some ⟨g, 0, none⟩)) (by kernel_rfl) (by kernel_rfl))) ?_
        refine sv 4 rfl rfl rfl (fun a u hE hD hk => exec_nilp (.tmp 36) ⟨g, 0, none⟩ rfl (hD 2 36 (by kernel_rfl))) ?_
        refine sv 5 rfl rfl rfl (fun a u hE hD hk => exec_fldo 37 0 0 (.tmp 37) (g) (0) (0) rfl (hD 3 37 (by kernel_rfl)) (by kernel_rfl) rfl) ?_
        refine sv 6 rfl rfl rfl (fun a u hE hD hk => exec_loadi 3 Try.underlying3 (.tmp 38) ⟨g, 0, none⟩ (.int .i64 B.b) rfl (hD 4 38 (by kernel_rfl)) (range_int (range_kept (blk_range HB1.out) hk) 0 _ rfl)) ?_
        refine sv 7 rfl rfl rfl (fun a u hE hD hk => exec_move (.tmp 1) _ rfl (hE 1 (.int .i64 now) (by kernel_rfl) (by kernel_rfl))) ?_
        refine sv 8 rfl rfl rfl (fun a u hE hD hk => exec_nilp (.tmp 34) ⟨g, 0, none⟩ rfl (hD 0 34 (by kernel_rfl))) ?_
        refine sv 9 rfl rfl rfl (fun a u hE hD hk => exec_fldo 37 2 2 (.tmp 41) (g) (0) (2) rfl (hD 7 41 (by kernel_rfl)) (by kernel_rfl) rfl) ?_
        exact fsteps_nil
      intro gv w2 hV kc
      rw [show dstsOf _ 9 = [34, 35, 36, 37, 38, 39, 40, 41, 42] by kernel_rfl]
      simp only [List.foldl_cons, List.foldl_nil, List.setIfInBounds_toArray, List.set_cons_succ, List.set_cons_zero, List.drop_succ_cons, List.drop_zero]
      rw [show gv 42 = .pointer (some ⟨g, 2, none⟩) from hV 8 42 (by kernel_rfl)]
      rw [show gv 39 = .int .i64 B.b from hV 5 39 (by kernel_rfl)]
      rw [show gv 35 = .pointer (some ⟨g, 0, none⟩) from hV 1 35 (by kernel_rfl)]
      rw [show gv 40 = .int .i64 now from hV 6 40 (by kernel_rfl)]
      clear hV
      refine l_putN (o := ⟨none, _, _, _, _, _⟩) g 2 37 B.cells (Bkt.mk B.b B.r B.b B.t).cells (B.b) (.tmp 42) (.tmp 39) rfl rfl (by kernel_rfl) (by kernel_rfl) (HB1.out.kept kc) (by rw [Bkt.len4b]; omega) rfl ?_
      intro w3 hCw3 hKw3 hSw3
      simp only [Act.put]
      refine l_val (o := ⟨some 43, _, _, _, _, _⟩) (.pointer (some ⟨g, 0, none⟩)) rfl (exec_nilp (.tmp 35) ⟨g, 0, none⟩ rfl (by kernel_rfl)) ?_
      simp only [Act.put, List.setIfInBounds_toArray, List.set_cons_succ, List.set_cons_zero]
      refine l_val (o := ⟨some 44, _, _, _, _, _⟩) (.pointer (some ⟨g, 3, none⟩)) rfl (exec_fldo 37 3 3 (.tmp 43) (g) (0) (3) rfl (by kernel_rfl) (by kernel_rfl) rfl) ?_
      simp only [Act.put, List.setIfInBounds_toArray, List.set_cons_succ, List.set_cons_zero]
      refine l_putN (o := ⟨none, _, _, _, _, _⟩) g 3 37 (Bkt.mk B.b B.r B.b B.t).cells (Bkt.mk B.b B.r B.b now).cells (now) (.tmp 44) (.tmp 40) rfl rfl (by kernel_rfl) (by kernel_rfl) hCw3 (by rw [Bkt.len4b]; omega) rfl ?_
      intro w4 hCw4 hKw4 hSw4
      simp only [Act.put]
      refine wpList_nil ?_
      have kw : Keep (· = g) w w4 := (((kq.trans kx).trans (ky.trans kc)).mono (fun _ _ h => h.elim) : Keep (· = g) w w2).trans hKw3 (fun _ _ h => h) |>.trans hKw4 (fun _ _ h => h)
      have HBs : Hid (Blk w4 g 37 S.cells) := by show Blk _ _ _ _; rw [← HSf.out]; exact hCw4
      clear hCw3 hCw4 hKw3 hKw4 hSw3 hSw4 HB1 HSf kc kx ky kq HD h0 c0 c1 c2 c3 c4
      by_cases hz : S.k = 0
      · have e1 : Hid (V = false) := by show _ = _; rw [← HV.out, decide_eq_true hz]; rfl
        have e2 : Hid (Y = S) := by show _ = _; rw [← HY.out, if_pos hz]
        go_upto_region 6 with fail
        refine wp_text 5 [.eq (.pointer (some ⟨g, 0, none⟩)), .eq (.pointer (some ⟨g, 0, none⟩)), .eq (.pointer (some ⟨g, 2, none⟩)), .eq (.int .i64 S.k), .eq (.bool true)] rfl (by kernel_rfl) ?_ ?_
        · refine sv 1 rfl rfl rfl (fun a u hE hD hk => exec_move (.tmp 0) _ rfl (hE 0 (.pointer (some ⟨g, 0, none⟩)) (by kernel_rfl) (by kernel_rfl))) ?_
          refine sv 2 rfl rfl rfl (fun a u hE hD hk => exec_nilp (.tmp 68) ⟨g, 0, none⟩ rfl (hD 0 68 (by kernel_rfl))) ?_
          refine sv 3 rfl rfl rfl (fun a u hE hD hk => exec_fldo 37 2 2 (.tmp 69) (g) (0) (2) rfl (hD 1 69 (by kernel_rfl)) (by kernel_rfl) rfl) ?_
          refine sv 4 rfl rfl rfl (fun a u hE hD hk => exec_loadi 3 Try.underlying3 (.tmp 70) ⟨g, 2, none⟩ (.int .i64 S.k) rfl (hD 2 70 (by kernel_rfl)) (range_int (range_kept (blk_range HBs.out) hk) 2 _ rfl)) ?_
          refine fsteps_cons 5 rfl (fun a u hE hD hk => f_as (show ((decide ((S.k : Int) < (1 : Int))) : Bool) = true from decide_eq_true (by omega)) (f_val (o := ⟨some 72, _, _, _, _, _⟩) (.bool (decide ((S.k : Int) < (1 : Int)))) rfl (wanted_none rfl _) (exec_ltn (p := S.k) (q := 1) rfl (hD 3 71 (by kernel_rfl)) rfl) rfl)) ?_
          exact fsteps_nil
        intro gv wa hV ka
        rw [show dstsOf _ 5 = [68, 69, 70, 71, 72] by kernel_rfl]
        simp only [List.foldl_cons, List.foldl_nil, List.setIfInBounds_toArray, List.set_cons_succ, List.set_cons_zero, List.drop_succ_cons, List.drop_zero]
        rw [show gv 72 = .bool true from hV 4 72 (by kernel_rfl)]
        clear hV
        refine wpList_nil ?_
        have HBa := Lib.hid (HBs.out.kept ka)
        have kwa := kw.kept ka
        clear HBs kw ka
        have HB1 := HBa.out
        go_wp2
        go_ret
        exact ⟨by rw [e1.out]; rfl, by rw [e2.out]; exact HB1, kwa⟩
      · have e1 : Hid (V = true) := by show _ = _; rw [← HV.out, decide_eq_false hz]; rfl
        have e2 : Hid (Y = S.less) := by show _ = _; rw [← HY.out, if_neg hz]
        go_upto_region 6 with fail
        refine wp_text 5 [.eq (.pointer (some ⟨g, 0, none⟩)), .eq (.pointer (some ⟨g, 0, none⟩)), .eq (.pointer (some ⟨g, 2, none⟩)), .eq (.int .i64 S.k), .eq (.bool false)] rfl (by kernel_rfl) ?_ ?_
        · refine sv 1 rfl rfl rfl (fun a u hE hD hk => exec_move (.tmp 0) _ rfl (hE 0 (.pointer (some ⟨g, 0, none⟩)) (by kernel_rfl) (by kernel_rfl))) ?_
          refine sv 2 rfl rfl rfl (fun a u hE hD hk => exec_nilp (.tmp 68) ⟨g, 0, none⟩ rfl (hD 0 68 (by kernel_rfl))) ?_
          refine sv 3 rfl rfl rfl (fun a u hE hD hk => exec_fldo 37 2 2 (.tmp 69) (g) (0) (2) rfl (hD 1 69 (by kernel_rfl)) (by kernel_rfl) rfl) ?_
          refine sv 4 rfl rfl rfl (fun a u hE hD hk => exec_loadi 3 Try.underlying3 (.tmp 70) ⟨g, 2, none⟩ (.int .i64 S.k) rfl (hD 2 70 (by kernel_rfl)) (range_int (range_kept (blk_range HBs.out) hk) 2 _ rfl)) ?_
          refine fsteps_cons 5 rfl (fun a u hE hD hk => f_as (show ((decide ((S.k : Int) < (1 : Int))) : Bool) = false from decide_eq_false (by omega)) (f_val (o := ⟨some 72, _, _, _, _, _⟩) (.bool (decide ((S.k : Int) < (1 : Int)))) rfl (wanted_none rfl _) (exec_ltn (p := S.k) (q := 1) rfl (hD 3 71 (by kernel_rfl)) rfl) rfl)) ?_
          exact fsteps_nil
        intro gv wa hV ka
        rw [show dstsOf _ 5 = [68, 69, 70, 71, 72] by kernel_rfl]
        simp only [List.foldl_cons, List.foldl_nil, List.setIfInBounds_toArray, List.set_cons_succ, List.set_cons_zero, List.drop_succ_cons, List.drop_zero]
        rw [show gv 72 = .bool false from hV 4 72 (by kernel_rfl)]
        clear hV
        refine wpList_nil ?_
        have HBa := Lib.hid (HBs.out.kept ka)
        have kwa := kw.kept ka
        clear HBs kw ka
        by_cases hf : S.k = S.b
        · have hm := HM.out hf
          have HF := Lib.hid hf
          clear hf
          go_upto_region 8 with fail
          refine wp_free 9 [.eq (.pointer (some ⟨g, 0, none⟩)), .eq (.pointer (some ⟨g, 0, none⟩)), .eq (.pointer (some ⟨g, 2, none⟩)), .eq (.int .i64 S.k), .eq (.pointer (some ⟨g, 0, none⟩)), .eq (.pointer (some ⟨g, 0, none⟩)), .eq (.pointer (some ⟨g, 0, none⟩)), .eq (.int .i64 S.b), .eq (.bool true)] (by kernel_rfl) rfl (by kernel_rfl) ?_ ?_
          · refine sv 1 rfl rfl rfl (fun a u hE hD hk => exec_move (.tmp 0) _ rfl (hE 0 (.pointer (some ⟨g, 0, none⟩)) (by kernel_rfl) (by kernel_rfl))) ?_
            refine sv 2 rfl rfl rfl (fun a u hE hD hk => exec_nilp (.tmp 73) ⟨g, 0, none⟩ rfl (hD 0 73 (by kernel_rfl))) ?_
            refine sv 3 rfl rfl rfl (fun a u hE hD hk => exec_fldo 37 2 2 (.tmp 74) (g) (0) (2) rfl (hD 1 74 (by kernel_rfl)) (by kernel_rfl) rfl) ?_
            refine sv 4 rfl rfl rfl (fun a u hE hD hk => exec_loadi 3 Try.underlying3 (.tmp 75) ⟨g, 2, none⟩ (.int .i64 S.k) rfl (hD 2 75 (by kernel_rfl)) (range_int (range_kept (blk_range HBa.out) hk) 2 _ rfl)) ?_
            refine sv 5 rfl rfl rfl (fun a u hE hD hk => exec_move (.tmp 0) _ rfl (hE 0 (.pointer (some ⟨g, 0, none⟩)) (by kernel_rfl) (by kernel_rfl))) ?_
            refine sv 6 rfl rfl rfl (fun a u hE hD hk => exec_nilp (.tmp 77) ⟨g, 0, none⟩ rfl (hD 4 77 (by kernel_rfl))) ?_
            refine sv 7 rfl rfl rfl (fun a u hE hD hk => exec_fldo 37 0 0 (.tmp 78) (g) (0) (0) rfl (hD 5 78 (by kernel_rfl)) (by kernel_rfl) rfl) ?_
            refine sv 8 rfl rfl rfl (fun a u hE hD hk => exec_loadi 3 Try.underlying3 (.tmp 79) ⟨g, 0, none⟩ (.int .i64 S.b) rfl (hD 6 79 (by kernel_rfl)) (range_int (range_kept (blk_range HBa.out) hk) 0 _ rfl)) ?_
            refine fsteps_cons 9 rfl (fun a u hE hD hk => f_as (show ((decide ((S.k : Int) = (S.b : Int))) : Bool) = true from decide_eq_true HF.out) (f_val (o := ⟨some 81, _, _, _, _, _⟩) (.bool (decide ((S.k : Int) = (S.b : Int)))) rfl (wanted_none rfl _) (exec_eqn (p := S.k) (q := S.b) rfl (hD 3 76 (by kernel_rfl)) (hD 7 80 (by kernel_rfl))) rfl)) ?_
            exact fsteps_nil
          intro gv wf hV kf
          rw [show dstsOf _ 9 = [73, 74, 75, 76, 77, 78, 79, 80, 81] by kernel_rfl]
          simp only [List.foldl_cons, List.foldl_nil, List.setIfInBounds_toArray, List.set_cons_succ, List.set_cons_zero, List.drop_succ_cons, List.drop_zero]
          rw [show gv 81 = .bool true from hV 8 81 (by kernel_rfl)]
          clear hV
          refine wpList_nil ?_
          have HBf := Lib.hid (HBa.out.kept kf)
          have kwf := kwa.kept kf
          clear HBa kwa kf
          go_upto_region 9 with fail
          refine wp_text 9 [.eq (.pointer (some ⟨g, 0, none⟩)), .eq (.pointer (some ⟨g, 0, none⟩)), .eq (.pointer (some ⟨g, 0, none⟩)), .eq (.pointer (some ⟨g, 3, none⟩)), .eq (.int .i64 S.t), .eq (.int .i64 now), .eq (.int .i64 S.t), .eq (.pointer (some ⟨g, 0, none⟩)), .eq (.pointer (some ⟨g, 3, none⟩))] rfl (by kernel_rfl) ?_ ?_
          · refine sv 1 rfl rfl rfl (fun a u hE hD hk => exec_move (.tmp 0) _ rfl (hE 0 (.pointer (some ⟨g, 0, none⟩)) (by kernel_rfl) (by kernel_rfl))) ?_
            refine sv 2 rfl rfl rfl (fun a u hE hD hk => exec_move (.tmp 0) _ rfl (hE 0 (.pointer (some ⟨g, 0, none⟩)) (by kernel_rfl) (by kernel_rfl))) ?_
            refine sv 3 rfl rfl rfl (fun a u hE hD hk => exec_nilp (.tmp 83) ⟨g, 0, none⟩ rfl (hD 1 83 (by kernel_rfl))) ?_
            refine sv 4 rfl rfl rfl (fun a u hE hD hk => exec_fldo 37 3 3 (.tmp 84) (g) (0) (3) rfl (hD 2 84 (by kernel_rfl)) (by kernel_rfl) rfl) ?_
            refine sv 5 rfl rfl rfl (fun a u hE hD hk => exec_loadi 3 Try.underlying3 (.tmp 85) ⟨g, 3, none⟩ (.int .i64 S.t) rfl (hD 3 85 (by kernel_rfl)) (range_int (range_kept (blk_range HBf.out) hk) 3 _ rfl)) ?_
            refine sv 6 rfl rfl rfl (fun a u hE hD hk => exec_move (.tmp 1) _ rfl (hE 1 (.int .i64 now) (by kernel_rfl) (by kernel_rfl))) ?_
            refine sv 7 rfl rfl rfl (fun a u hE hD hk => exec_maxn (.tmp 86) (.tmp 87) _ S.t now S.t rfl (hD 4 86 (by kernel_rfl)) (hD 5 87 (by kernel_rfl)) (if_neg (by omega))) ?_
            refine sv 8 rfl rfl rfl (fun a u hE hD hk => exec_nilp (.tmp 82) ⟨g, 0, none⟩ rfl (hD 0 82 (by kernel_rfl))) ?_
            refine sv 9 rfl rfl rfl (fun a u hE hD hk => exec_fldo 37 3 3 (.tmp 89) (g) (0) (3) rfl (hD 7 89 (by kernel_rfl)) (by kernel_rfl) rfl) ?_
            exact fsteps_nil
          intro gv wg hV kg
          rw [show dstsOf _ 9 = [82, 83, 84, 85, 86, 87, 88, 89, 90] by kernel_rfl]
          simp only [List.foldl_cons, List.foldl_nil, List.setIfInBounds_toArray, List.set_cons_succ, List.set_cons_zero, List.drop_succ_cons, List.drop_zero]
          rw [show gv 90 = .pointer (some ⟨g, 3, none⟩) from hV 8 90 (by kernel_rfl)]
          rw [show gv 88 = .int .i64 S.t from hV 6 88 (by kernel_rfl)]
          clear hV
          refine l_putN (o := ⟨none, _, _, _, _, _⟩) g 3 37 S.cells S.cells (S.t) (.tmp 90) (.tmp 88) rfl rfl (by kernel_rfl) (by kernel_rfl) (HBf.out.kept kg) (by rw [Bkt.len4b]; omega) rfl ?_
          intro wh hCwh hKwh hSwh
          simp only [Act.put]
          refine wpList_nil ?_
          have HBh := Lib.hid hCwh
          have kwh := (kwf.kept kg).trans hKwh (fun _ _ h => h)
          clear HBf kwf kg hCwh hKwh hSwh
          go_upto_region 10 with fail
          refine wp_text 7 [.eq (.pointer (some ⟨g, 0, none⟩)), .eq (.pointer (some ⟨g, 0, none⟩)), .eq (.pointer (some ⟨g, 2, none⟩)), .eq (.int .i64 S.k), .eq (.int .i64 ((S.k : Int) - (1 : Int))), .eq (.pointer (some ⟨g, 0, none⟩)), .eq (.pointer (some ⟨g, 2, none⟩))] rfl (by kernel_rfl) ?_ ?_
          · refine sv 1 rfl rfl rfl (fun a u hE hD hk => exec_move (.tmp 0) _ rfl (hE 0 (.pointer (some ⟨g, 0, none⟩)) (by kernel_rfl) (by kernel_rfl))) ?_
            refine sv 2 rfl rfl rfl (fun a u hE hD hk => exec_nilp (.tmp 91) ⟨g, 0, none⟩ rfl (hD 0 91 (by kernel_rfl))) ?_
            refine sv 3 rfl rfl rfl (fun a u hE hD hk => exec_fldo 37 2 2 (.tmp 92) (g) (0) (2) rfl (hD 1 92 (by kernel_rfl)) (by kernel_rfl) rfl) ?_
            refine sv 4 rfl rfl rfl (fun a u hE hD hk => exec_loadi 3 Try.underlying3 (.tmp 93) ⟨g, 2, none⟩ (.int .i64 S.k) rfl (hD 2 93 (by kernel_rfl)) (range_int (range_kept (blk_range HBh.out) hk) 2 _ rfl)) ?_
            refine sv 5 rfl rfl rfl (fun a u hE hD hk => exec_subn (p := (S.k)) (q := (1)) ((S.k : Int) - (1 : Int)) rfl (hD 3 94 (by kernel_rfl)) rfl rfl (by omega) (by omega)) ?_
            refine sv 6 rfl rfl rfl (fun a u hE hD hk => exec_nilp (.tmp 91) ⟨g, 0, none⟩ rfl (hD 0 91 (by kernel_rfl))) ?_
            refine sv 7 rfl rfl rfl (fun a u hE hD hk => exec_fldo 37 2 2 (.tmp 96) (g) (0) (2) rfl (hD 5 96 (by kernel_rfl)) (by kernel_rfl) rfl) ?_
            exact fsteps_nil
          intro gv wb hV kb
          rw [show dstsOf _ 7 = [91, 92, 93, 94, 95, 96, 97] by kernel_rfl]
          simp only [List.foldl_cons, List.foldl_nil, List.setIfInBounds_toArray, List.set_cons_succ, List.set_cons_zero, List.drop_succ_cons, List.drop_zero]
          rw [show gv 97 = .pointer (some ⟨g, 2, none⟩) from hV 6 97 (by kernel_rfl)]
          rw [show gv 95 = .int .i64 ((S.k : Int) - (1 : Int)) from hV 4 95 (by kernel_rfl)]
          clear hV
          refine l_putN (o := ⟨none, _, _, _, _, _⟩) g 2 37 S.cells S.less.cells (S.k - 1) (.tmp 97) (.tmp 95) rfl rfl (by kernel_rfl) (by kernel_rfl) (HBh.out.kept kb) (by rw [Bkt.len4b]; omega) rfl ?_
          intro wc hCwc hKwc hSwc
          simp only [Act.put]
          refine wpList_nil ?_
          have kz := (kwh.kept kb).trans hKwc (fun _ _ h => h)
          go_wp2
          go_ret
          exact ⟨by rw [e1.out]; rfl, by rw [e2.out]; exact hCwc, kz⟩
        · have HF := Lib.hid hf
          clear hf
          go_upto_region 8 with fail
          refine wp_free 9 [.eq (.pointer (some ⟨g, 0, none⟩)), .eq (.pointer (some ⟨g, 0, none⟩)), .eq (.pointer (some ⟨g, 2, none⟩)), .eq (.int .i64 S.k), .eq (.pointer (some ⟨g, 0, none⟩)), .eq (.pointer (some ⟨g, 0, none⟩)), .eq (.pointer (some ⟨g, 0, none⟩)), .eq (.int .i64 S.b), .eq (.bool false)] (by kernel_rfl) rfl (by kernel_rfl) ?_ ?_
          · refine sv 1 rfl rfl rfl (fun a u hE hD hk => exec_move (.tmp 0) _ rfl (hE 0 (.pointer (some ⟨g, 0, none⟩)) (by kernel_rfl) (by kernel_rfl))) ?_
            refine sv 2 rfl rfl rfl (fun a u hE hD hk => exec_nilp (.tmp 73) ⟨g, 0, none⟩ rfl (hD 0 73 (by kernel_rfl))) ?_
            refine sv 3 rfl rfl rfl (fun a u hE hD hk => exec_fldo 37 2 2 (.tmp 74) (g) (0) (2) rfl (hD 1 74 (by kernel_rfl)) (by kernel_rfl) rfl) ?_
            refine sv 4 rfl rfl rfl (fun a u hE hD hk => exec_loadi 3 Try.underlying3 (.tmp 75) ⟨g, 2, none⟩ (.int .i64 S.k) rfl (hD 2 75 (by kernel_rfl)) (range_int (range_kept (blk_range HBa.out) hk) 2 _ rfl)) ?_
            refine sv 5 rfl rfl rfl (fun a u hE hD hk => exec_move (.tmp 0) _ rfl (hE 0 (.pointer (some ⟨g, 0, none⟩)) (by kernel_rfl) (by kernel_rfl))) ?_
            refine sv 6 rfl rfl rfl (fun a u hE hD hk => exec_nilp (.tmp 77) ⟨g, 0, none⟩ rfl (hD 4 77 (by kernel_rfl))) ?_
            refine sv 7 rfl rfl rfl (fun a u hE hD hk => exec_fldo 37 0 0 (.tmp 78) (g) (0) (0) rfl (hD 5 78 (by kernel_rfl)) (by kernel_rfl) rfl) ?_
            refine sv 8 rfl rfl rfl (fun a u hE hD hk => exec_loadi 3 Try.underlying3 (.tmp 79) ⟨g, 0, none⟩ (.int .i64 S.b) rfl (hD 6 79 (by kernel_rfl)) (range_int (range_kept (blk_range HBa.out) hk) 0 _ rfl)) ?_
            refine fsteps_cons 9 rfl (fun a u hE hD hk => f_as (show ((decide ((S.k : Int) = (S.b : Int))) : Bool) = false from decide_eq_false HF.out) (f_val (o := ⟨some 81, _, _, _, _, _⟩) (.bool (decide ((S.k : Int) = (S.b : Int)))) rfl (wanted_none rfl _) (exec_eqn (p := S.k) (q := S.b) rfl (hD 3 76 (by kernel_rfl)) (hD 7 80 (by kernel_rfl))) rfl)) ?_
            exact fsteps_nil
          intro gv wf hV kf
          rw [show dstsOf _ 9 = [73, 74, 75, 76, 77, 78, 79, 80, 81] by kernel_rfl]
          simp only [List.foldl_cons, List.foldl_nil, List.setIfInBounds_toArray, List.set_cons_succ, List.set_cons_zero, List.drop_succ_cons, List.drop_zero]
          rw [show gv 81 = .bool false from hV 8 81 (by kernel_rfl)]
          clear hV
          refine wpList_nil ?_
          have HBf := Lib.hid (HBa.out.kept kf)
          have kwf := kwa.kept kf
          clear HBa kwa kf
          go_upto_region 10 with fail
          refine wp_text 7 [.eq (.pointer (some ⟨g, 0, none⟩)), .eq (.pointer (some ⟨g, 0, none⟩)), .eq (.pointer (some ⟨g, 2, none⟩)), .eq (.int .i64 S.k), .eq (.int .i64 ((S.k : Int) - (1 : Int))), .eq (.pointer (some ⟨g, 0, none⟩)), .eq (.pointer (some ⟨g, 2, none⟩))] rfl (by kernel_rfl) ?_ ?_
          · refine sv 1 rfl rfl rfl (fun a u hE hD hk => exec_move (.tmp 0) _ rfl (hE 0 (.pointer (some ⟨g, 0, none⟩)) (by kernel_rfl) (by kernel_rfl))) ?_
            refine sv 2 rfl rfl rfl (fun a u hE hD hk => exec_nilp (.tmp 91) ⟨g, 0, none⟩ rfl (hD 0 91 (by kernel_rfl))) ?_
            refine sv 3 rfl rfl rfl (fun a u hE hD hk => exec_fldo 37 2 2 (.tmp 92) (g) (0) (2) rfl (hD 1 92 (by kernel_rfl)) (by kernel_rfl) rfl) ?_
            refine sv 4 rfl rfl rfl (fun a u hE hD hk => exec_loadi 3 Try.underlying3 (.tmp 93) ⟨g, 2, none⟩ (.int .i64 S.k) rfl (hD 2 93 (by kernel_rfl)) (range_int (range_kept (blk_range HBf.out) hk) 2 _ rfl)) ?_
            refine sv 5 rfl rfl rfl (fun a u hE hD hk => exec_subn (p := (S.k)) (q := (1)) ((S.k : Int) - (1 : Int)) rfl (hD 3 94 (by kernel_rfl)) rfl rfl (by omega) (by omega)) ?_
            refine sv 6 rfl rfl rfl (fun a u hE hD hk => exec_nilp (.tmp 91) ⟨g, 0, none⟩ rfl (hD 0 91 (by kernel_rfl))) ?_
            refine sv 7 rfl rfl rfl (fun a u hE hD hk => exec_fldo 37 2 2 (.tmp 96) (g) (0) (2) rfl (hD 5 96 (by kernel_rfl)) (by kernel_rfl) rfl) ?_
            exact fsteps_nil
          intro gv wb hV kb
          rw [show dstsOf _ 7 = [91, 92, 93, 94, 95, 96, 97] by kernel_rfl]
          simp only [List.foldl_cons, List.foldl_nil, List.setIfInBounds_toArray, List.set_cons_succ, List.set_cons_zero, List.drop_succ_cons, List.drop_zero]
          rw [show gv 97 = .pointer (some ⟨g, 2, none⟩) from hV 6 97 (by kernel_rfl)]
          rw [show gv 95 = .int .i64 ((S.k : Int) - (1 : Int)) from hV 4 95 (by kernel_rfl)]
          clear hV
          refine l_putN (o := ⟨none, _, _, _, _, _⟩) g 2 37 S.cells S.less.cells (S.k - 1) (.tmp 97) (.tmp 95) rfl rfl (by kernel_rfl) (by kernel_rfl) (HBf.out.kept kb) (by rw [Bkt.len4b]; omega) rfl ?_
          intro wc hCwc hKwc hSwc
          simp only [Act.put]
          refine wpList_nil ?_
          have kz := (kwf.kept kb).trans hKwc (fun _ _ h => h)
          go_wp2
          go_ret
          exact ⟨by rw [e1.out]; rfl, by rw [e2.out]; exact hCwc, kz⟩
    · rw [if_neg hq] at HSf
      have HD := Lib.hid (decide_eq_false hq)
      have HBx := Lib.hid (HB0.out.kept kx)
      clear HB0
      go_upto_region 3 with fail
      refine wp_free 11 [.eq (.int .i64 C), .eq (.pointer (some ⟨g, 0, none⟩)), .eq (.pointer (some ⟨g, 0, none⟩)), .eq (.pointer (some ⟨g, 0, none⟩)), .eq (.int .i64 B.b), .eq (.pointer (some ⟨g, 0, none⟩)), .eq (.pointer (some ⟨g, 0, none⟩)), .eq (.pointer (some ⟨g, 2, none⟩)), .eq (.int .i64 B.k), .eq (.int .i64 ((B.b : Int) - (B.k : Int))), .eq (.bool false)] (by kernel_rfl) rfl (by kernel_rfl) ?_ ?_
      · refine sv 1 rfl rfl rfl (fun a u hE hD hk => exec_move (.tmp 5) _ rfl (hE 5 (.int .i64 C) (by kernel_rfl) (by kernel_rfl))) ?_
        refine sv 2 rfl rfl rfl (fun a u hE hD hk => exec_move (.tmp 0) _ rfl (hE 0 (.pointer (some ⟨g, 0, none⟩)) (by kernel_rfl) (by kernel_rfl))) ?_
        refine sv 3 rfl rfl rfl (fun a u hE hD hk => exec_nilp (.tmp 24) ⟨g, 0, none⟩ rfl (hD 1 24 (by kernel_rfl))) ?_
        refine sv 4 rfl rfl rfl (fun a u hE hD hk => exec_fldo 37 0 0 (.tmp 25) (g) (0) (0) rfl (hD 2 25 (by kernel_rfl)) (by kernel_rfl) rfl) ?_
        refine sv 5 rfl rfl rfl (fun a u hE hD hk => exec_loadi 3 Try.underlying3 (.tmp 26) ⟨g, 0, none⟩ (.int .i64 B.b) rfl (hD 3 26 (by kernel_rfl)) (range_int (range_kept (blk_range HBx.out) hk) 0 _ rfl)) ?_
        refine sv 6 rfl rfl rfl (fun a u hE hD hk => exec_move (.tmp 0) _ rfl (hE 0 (.pointer (some ⟨g, 0, none⟩)) (by kernel_rfl) (by kernel_rfl))) ?_
        refine sv 7 rfl rfl rfl (fun a u hE hD hk => exec_nilp (.tmp 28) ⟨g, 0, none⟩ rfl (hD 5 28 (by kernel_rfl))) ?_
        refine sv 8 rfl rfl rfl (fun a u hE hD hk => exec_fldo 37 2 2 (.tmp 29) (g) (0) (2) rfl (hD 6 29 (by kernel_rfl)) (by kernel_rfl) rfl) ?_
        refine sv 9 rfl rfl rfl (fun a u hE hD hk => exec_loadi 3 Try.underlying3 (.tmp 30) ⟨g, 2, none⟩ (.int .i64 B.k) rfl (hD 7 30 (by kernel_rfl)) (range_int (range_kept (blk_range HBx.out) hk) 2 _ rfl)) ?_
        refine sv 10 rfl rfl rfl (fun a u hE hD hk => exec_subn (p := (B.b)) (q := (B.k)) ((B.b : Int) - (B.k : Int)) rfl (hD 4 27 (by kernel_rfl)) (hD 8 31 (by kernel_rfl)) rfl (by omega) (by omega)) ?_
        refine fsteps_cons 11 rfl (fun a u hE hD hk => f_as (show ((decide ((((B.b : Int) - (B.k : Int)) : Int) ≤ (C : Int))) : Bool) = false from HD.out) (f_val (o := ⟨some 33, _, _, _, _, _⟩) (.bool (decide ((((B.b : Int) - (B.k : Int)) : Int) ≤ (C : Int)))) rfl (wanted_none rfl _) (exec_gen (p := C) (q := ((B.b : Int) - (B.k : Int))) rfl (hD 0 23 (by kernel_rfl)) (hD 9 32 (by kernel_rfl))) rfl)) ?_
        exact fsteps_nil
      intro gv wy hV ky
      rw [show dstsOf _ 11 = [23, 24, 25, 26, 27, 28, 29, 30, 31, 32, 33] by kernel_rfl]
      simp only [List.foldl_cons, List.foldl_nil, List.setIfInBounds_toArray, List.set_cons_succ, List.set_cons_zero, List.drop_succ_cons, List.drop_zero]
      rw [show gv 33 = .bool false from hV 10 33 (by kernel_rfl)]
      clear hV
      refine wpList_nil ?_
      have HB1 := Lib.hid (HBx.out.kept ky)
      clear HBx
      go_upto_region 5 with fail
      refine wp_sched (fun u => Kept wy u) [(0, 2), (1, 2), (2, 2), (3, 2), (4, 2), (5, 0), (6, 2), (7, 2), (8, 2), (9, 2), (10, 2), (11, 0), (12, 2), (13, 2), (14, 2), (15, 2), (16, 0), (17, 2), (18, 2), (19, 2), (20, 2), (21, 3), (22, 2), (23, 2), (24, 3)] (by kernel_rfl) (by kernel_rfl) ((show Kept wy wy.drew from Keep.drew (Keep.refl _ wy))) ?_
      refine s_free (o := ⟨some 45, _, _, _, _, _⟩) (.pointer (some ⟨g, 0, none⟩)) rfl (by kernel_rfl) (fun u => exec_move (.tmp 0) (.pointer (some ⟨g, 0, none⟩)) rfl (by kernel_rfl)) ?_
      simp only [Act.put, List.setIfInBounds_toArray, List.set_cons_succ, List.set_cons_zero]
      refine s_free (o := ⟨some 46, _, _, _, _, _⟩) (.pointer (some ⟨g, 0, none⟩)) rfl (by kernel_rfl) (fun u => exec_move (.tmp 0) (.pointer (some ⟨g, 0, none⟩)) rfl (by kernel_rfl)) ?_
      simp only [Act.put, List.setIfInBounds_toArray, List.set_cons_succ, List.set_cons_zero]
      refine s_free (o := ⟨some 47, _, _, _, _, _⟩) (.pointer (some ⟨g, 0, none⟩)) rfl (by kernel_rfl) (fun u => exec_move (.tmp 0) (.pointer (some ⟨g, 0, none⟩)) rfl (by kernel_rfl)) ?_
      simp only [Act.put, List.setIfInBounds_toArray, List.set_cons_succ, List.set_cons_zero]
      refine s_free (o := ⟨some 48, _, _, _, _, _⟩) (.pointer (some ⟨g, 0, none⟩)) rfl (by kernel_rfl) (fun u => exec_nilp (.tmp 47) ⟨g, 0, none⟩ rfl (by kernel_rfl)) ?_
      simp only [Act.put, List.setIfInBounds_toArray, List.set_cons_succ, List.set_cons_zero]
      refine s_free (o := ⟨some 49, _, _, _, _, _⟩) (.pointer (some ⟨g, 2, none⟩)) rfl (by kernel_rfl) (fun u => exec_fldo 37 2 2 (.tmp 48) (g) (0) (2) rfl (by kernel_rfl) (by kernel_rfl) rfl) ?_
      simp only [Act.put, List.setIfInBounds_toArray, List.set_cons_succ, List.set_cons_zero]
      refine s_val (o := ⟨some 50, _, _, _, _, _⟩) (.int .i64 B.k) rfl (by kernel_rfl) (fun u hu => exec_loadi 3 Try.underlying3 (.tmp 49) ⟨g, 2, none⟩ (.int .i64 B.k) rfl (by kernel_rfl) (range_int (blk_range (HB1.out.kept hu)) 2 _ rfl)) ?_
      simp only [Act.put, List.setIfInBounds_toArray, List.set_cons_succ, List.set_cons_zero]
      refine s_free (o := ⟨some 51, _, _, _, _, _⟩) (.int .i64 C) rfl (by kernel_rfl) (fun u => exec_move (.tmp 5) (.int .i64 C) rfl (by kernel_rfl)) ?_
      simp only [Act.put, List.setIfInBounds_toArray, List.set_cons_succ, List.set_cons_zero]
      refine s_free (o := ⟨some 52, _, _, _, _, _⟩) (.int .i64 (B.k + C)) rfl (by kernel_rfl) (fun u => exec_addn (p := B.k) (q := C) (B.k + C) rfl (by kernel_rfl) (by kernel_rfl) rfl (by omega) (by omega)) ?_
      simp only [Act.put, List.setIfInBounds_toArray, List.set_cons_succ, List.set_cons_zero]
      refine s_free (o := ⟨some 53, _, _, _, _, _⟩) (.pointer (some ⟨g, 0, none⟩)) rfl (by kernel_rfl) (fun u => exec_move (.tmp 0) (.pointer (some ⟨g, 0, none⟩)) rfl (by kernel_rfl)) ?_
      simp only [Act.put, List.setIfInBounds_toArray, List.set_cons_succ, List.set_cons_zero]
      refine s_free (o := ⟨some 54, _, _, _, _, _⟩) (.pointer (some ⟨g, 0, none⟩)) rfl (by kernel_rfl) (fun u => exec_nilp (.tmp 53) ⟨g, 0, none⟩ rfl (by kernel_rfl)) ?_
      simp only [Act.put, List.setIfInBounds_toArray, List.set_cons_succ, List.set_cons_zero]
      refine s_free (o := ⟨some 55, _, _, _, _, _⟩) (.pointer (some ⟨g, 3, none⟩)) rfl (by kernel_rfl) (fun u => exec_fldo 37 3 3 (.tmp 54) (g) (0) (3) rfl (by kernel_rfl) (by kernel_rfl) rfl) ?_
      simp only [Act.put, List.setIfInBounds_toArray, List.set_cons_succ, List.set_cons_zero]
      refine s_val (o := ⟨some 56, _, _, _, _, _⟩) (.int .i64 B.t) rfl (by kernel_rfl) (fun u hu => exec_loadi 3 Try.underlying3 (.tmp 55) ⟨g, 3, none⟩ (.int .i64 B.t) rfl (by kernel_rfl) (range_int (blk_range (HB1.out.kept hu)) 3 _ rfl)) ?_
      simp only [Act.put, List.setIfInBounds_toArray, List.set_cons_succ, List.set_cons_zero]
      refine s_free (o := ⟨some 57, _, _, _, _, _⟩) (.int .i64 C) rfl (by kernel_rfl) (fun u => exec_move (.tmp 5) (.int .i64 C) rfl (by kernel_rfl)) ?_
      simp only [Act.put, List.setIfInBounds_toArray, List.set_cons_succ, List.set_cons_zero]
      refine s_free (o := ⟨some 58, _, _, _, _, _⟩) (.pointer (some ⟨g, 0, none⟩)) rfl (by kernel_rfl) (fun u => exec_move (.tmp 0) (.pointer (some ⟨g, 0, none⟩)) rfl (by kernel_rfl)) ?_
      simp only [Act.put, List.setIfInBounds_toArray, List.set_cons_succ, List.set_cons_zero]
      refine s_free (o := ⟨some 59, _, _, _, _, _⟩) (.pointer (some ⟨g, 0, none⟩)) rfl (by kernel_rfl) (fun u => exec_nilp (.tmp 58) ⟨g, 0, none⟩ rfl (by kernel_rfl)) ?_
      simp only [Act.put, List.setIfInBounds_toArray, List.set_cons_succ, List.set_cons_zero]
      refine s_free (o := ⟨some 60, _, _, _, _, _⟩) (.pointer (some ⟨g, 1, none⟩)) rfl (by kernel_rfl) (fun u => exec_fldo 37 1 1 (.tmp 59) (g) (0) (1) rfl (by kernel_rfl) (by kernel_rfl) rfl) ?_
      simp only [Act.put, List.setIfInBounds_toArray, List.set_cons_succ, List.set_cons_zero]
      refine s_val (o := ⟨some 61, _, _, _, _, _⟩) (.int .i64 B.r) rfl (by kernel_rfl) (fun u hu => exec_loadi 3 Try.underlying3 (.tmp 60) ⟨g, 1, none⟩ (.int .i64 B.r) rfl (by kernel_rfl) (range_int (blk_range (HB1.out.kept hu)) 1 _ rfl)) ?_
      simp only [Act.put, List.setIfInBounds_toArray, List.set_cons_succ, List.set_cons_zero]
      refine s_free (o := ⟨some 62, _, _, _, _, _⟩) (.int .i64 (C * B.r)) rfl (by kernel_rfl) (fun u => exec_muln (p := C) (q := B.r) (C * B.r) rfl (by kernel_rfl) (by kernel_rfl) rfl (by omega) (by omega)) ?_
      simp only [Act.put, List.setIfInBounds_toArray, List.set_cons_succ, List.set_cons_zero]
      refine s_free (o := ⟨some 63, _, _, _, _, _⟩) (.int .i64 (B.t + C * B.r)) rfl (by kernel_rfl) (fun u => exec_addn (p := B.t) (q := C * B.r) (B.t + C * B.r) rfl (by kernel_rfl) (by kernel_rfl) rfl (by omega) (by omega)) ?_
      simp only [Act.put, List.setIfInBounds_toArray, List.set_cons_succ, List.set_cons_zero]
      refine s_free (o := ⟨some 64, _, _, _, _, _⟩) (.pointer (some ⟨g, 0, none⟩)) rfl (by kernel_rfl) (fun u => exec_nilp (.tmp 45) ⟨g, 0, none⟩ rfl (by kernel_rfl)) ?_
      simp only [Act.put, List.setIfInBounds_toArray, List.set_cons_succ, List.set_cons_zero]
      refine s_free (o := ⟨some 65, _, _, _, _, _⟩) (.pointer (some ⟨g, 2, none⟩)) rfl (by kernel_rfl) (fun u => exec_fldo 37 2 2 (.tmp 64) (g) (0) (2) rfl (by kernel_rfl) (by kernel_rfl) rfl) ?_
      simp only [Act.put, List.setIfInBounds_toArray, List.set_cons_succ, List.set_cons_zero]
      have qw3 := (show Blk wy.drew g 37 B.cells from HB1.out.kept (Keep.drew (Keep.refl _ wy))).set_ 2 (.int .i64 (B.k + C))
      have yw3 : Keep (· = g) wy.drew (wy.drew.setCell ⟨g, 2, none⟩ (.int .i64 (B.k + C))) := Keep.setCell (Keep.refl (· = g) wy.drew) (fun _ => rfl) _
      refine s_lateStore (o := ⟨none, _, _, _, _, _⟩) _ rfl (by kernel_rfl) (exec_store1 3 (.tmp 65) (.tmp 52) g 2 (.int .i64 (B.k + C)) rfl (by kernel_rfl) (by kernel_rfl) (by kernel_rfl) rfl rfl ((show Blk wy.drew g 37 B.cells from HB1.out.kept (Keep.drew (Keep.refl _ wy))).there 2 1 (by rw [Bkt.len4b]; omega))) ?_
      have hCw3 : Blk (wy.drew.setCell ⟨g, 2, none⟩ (.int .i64 (B.k + C))) g 37 (Bkt.mk B.b B.r (B.k + C) B.t).cells := qw3
      clear qw3
      generalize wy.drew.setCell ⟨g, 2, none⟩ (.int .i64 (B.k + C)) = w3 at hCw3 yw3 ⊢
      simp only [Act.put]
      refine s_free (o := ⟨some 66, _, _, _, _, _⟩) (.pointer (some ⟨g, 0, none⟩)) rfl (by kernel_rfl) (fun u => exec_nilp (.tmp 46) ⟨g, 0, none⟩ rfl (by kernel_rfl)) ?_
      simp only [Act.put, List.setIfInBounds_toArray, List.set_cons_succ, List.set_cons_zero]
      refine s_free (o := ⟨some 67, _, _, _, _, _⟩) (.pointer (some ⟨g, 3, none⟩)) rfl (by kernel_rfl) (fun u => exec_fldo 37 3 3 (.tmp 66) (g) (0) (3) rfl (by kernel_rfl) (by kernel_rfl) rfl) ?_
      simp only [Act.put, List.setIfInBounds_toArray, List.set_cons_succ, List.set_cons_zero]
      have qw4 := (hCw3).set_ 3 (.int .i64 (B.t + C * B.r))
      have yw4 : Keep (· = g) w3 (w3.setCell ⟨g, 3, none⟩ (.int .i64 (B.t + C * B.r))) := Keep.setCell (Keep.refl (· = g) w3) (fun _ => rfl) _
      refine s_lateStore (o := ⟨none, _, _, _, _, _⟩) _ rfl (by kernel_rfl) (exec_store1 3 (.tmp 67) (.tmp 63) g 3 (.int .i64 (B.t + C * B.r)) rfl (by kernel_rfl) (by kernel_rfl) (by kernel_rfl) rfl rfl ((hCw3).there 3 1 (by rw [Bkt.len4b]; omega))) ?_
      have hCw4 : Blk (w3.setCell ⟨g, 3, none⟩ (.int .i64 (B.t + C * B.r))) g 37 (Bkt.mk B.b B.r (B.k + C) (B.t + C * B.r)).cells := qw4
      clear qw4
      generalize w3.setCell ⟨g, 3, none⟩ (.int .i64 (B.t + C * B.r)) = w4 at hCw4 yw4 ⊢
      simp only [Act.put]
      refine s_done ?_
      have kw : Keep (· = g) w w4 := ((((kq.trans kx).trans ky).trans (Keep.drew (Keep.refl _ wy))).mono (fun _ _ h => h.elim) : Keep (· = g) w wy.drew).trans yw3 (fun _ _ h => h) |>.trans yw4 (fun _ _ h => h)
      have HBs : Hid (Blk w4 g 37 S.cells) := by show Blk _ _ _ _; rw [← HSf.out]; exact hCw4
      clear hCw3 hCw4 yw3 yw4 HB1 HSf kx ky kq HD h0 hq c0 c1 c2 c3 c4
      by_cases hz : S.k = 0
      · have e1 : Hid (V = false) := by show _ = _; rw [← HV.out, decide_eq_true hz]; rfl
        have e2 : Hid (Y = S) := by show _ = _; rw [← HY.out, if_pos hz]
        go_upto_region 6 with fail
        refine wp_text 5 [.eq (.pointer (some ⟨g, 0, none⟩)), .eq (.pointer (some ⟨g, 0, none⟩)), .eq (.pointer (some ⟨g, 2, none⟩)), .eq (.int .i64 S.k), .eq (.bool true)] rfl (by kernel_rfl) ?_ ?_
        · refine sv 1 rfl rfl rfl (fun a u hE hD hk => exec_move (.tmp 0) _ rfl (hE 0 (.pointer (some ⟨g, 0, none⟩)) (by kernel_rfl) (by kernel_rfl))) ?_
          refine sv 2 rfl rfl rfl (fun a u hE hD hk => exec_nilp (.tmp 68) ⟨g, 0, none⟩ rfl (hD 0 68 (by kernel_rfl))) ?_
          refine sv 3 rfl rfl rfl (fun a u hE hD hk => exec_fldo 37 2 2 (.tmp 69) (g) (0) (2) rfl (hD 1 69 (by kernel_rfl)) (by kernel_rfl) rfl) ?_
          refine sv 4 rfl rfl rfl (fun a u hE hD hk => exec_loadi 3 Try.underlying3 (.tmp 70) ⟨g, 2, none⟩ (.int .i64 S.k) rfl (hD 2 70 (by kernel_rfl)) (range_int (range_kept (blk_range HBs.out) hk) 2 _ rfl)) ?_
          refine fsteps_cons 5 rfl (fun a u hE hD hk => f_as (show ((decide ((S.k : Int) < (1 : Int))) : Bool) = true from decide_eq_true (by omega)) (f_val (o := ⟨some 72, _, _, _, _, _⟩) (.bool (decide ((S.k : Int) < (1 : Int)))) rfl (wanted_none rfl _) (exec_ltn (p := S.k) (q := 1) rfl (hD 3 71 (by kernel_rfl)) rfl) rfl)) ?_
          exact fsteps_nil
        intro gv wa hV ka
        rw [show dstsOf _ 5 = [68, 69, 70, 71, 72] by kernel_rfl]
        simp only [List.foldl_cons, List.foldl_nil, List.setIfInBounds_toArray, List.set_cons_succ, List.set_cons_zero, List.drop_succ_cons, List.drop_zero]
        rw [show gv 72 = .bool true from hV 4 72 (by kernel_rfl)]
        clear hV
        refine wpList_nil ?_
        have HBa := Lib.hid (HBs.out.kept ka)
        have kwa := kw.kept ka
        clear HBs kw ka
        have HB1 := HBa.out
        go_wp2
        go_ret
        exact ⟨by rw [e1.out]; rfl, by rw [e2.out]; exact HB1, kwa⟩
      · have e1 : Hid (V = true) := by show _ = _; rw [← HV.out, decide_eq_false hz]; rfl
        have e2 : Hid (Y = S.less) := by show _ = _; rw [← HY.out, if_neg hz]
        go_upto_region 6 with fail
        refine wp_text 5 [.eq (.pointer (some ⟨g, 0, none⟩)), .eq (.pointer (some ⟨g, 0, none⟩)), .eq (.pointer (some ⟨g, 2, none⟩)), .eq (.int .i64 S.k), .eq (.bool false)] rfl (by kernel_rfl) ?_ ?_
        · refine sv 1 rfl rfl rfl (fun a u hE hD hk => exec_move (.tmp 0) _ rfl (hE 0 (.pointer (some ⟨g, 0, none⟩)) (by kernel_rfl) (by kernel_rfl))) ?_
          refine sv 2 rfl rfl rfl (fun a u hE hD hk => exec_nilp (.tmp 68) ⟨g, 0, none⟩ rfl (hD 0 68 (by kernel_rfl))) ?_
          refine sv 3 rfl rfl rfl (fun a u hE hD hk => exec_fldo 37 2 2 (.tmp 69) (g) (0) (2) rfl (hD 1 69 (by kernel_rfl)) (by kernel_rfl) rfl) ?_
          refine sv 4 rfl rfl rfl (fun a u hE hD hk => exec_loadi 3 Try.underlying3 (.tmp 70) ⟨g, 2, none⟩ (.int .i64 S.k) rfl (hD 2 70 (by kernel_rfl)) (range_int (range_kept (blk_range HBs.out) hk) 2 _ rfl)) ?_
          refine fsteps_cons 5 rfl (fun a u hE hD hk => f_as (show ((decide ((S.k : Int) < (1 : Int))) : Bool) = false from decide_eq_false (by omega)) (f_val (o := ⟨some 72, _, _, _, _, _⟩) (.bool (decide ((S.k : Int) < (1 : Int)))) rfl (wanted_none rfl _) (exec_ltn (p := S.k) (q := 1) rfl (hD 3 71 (by kernel_rfl)) rfl) rfl)) ?_
          exact fsteps_nil
        intro gv wa hV ka
        rw [show dstsOf _ 5 = [68, 69, 70, 71, 72] by kernel_rfl]
        simp only [List.foldl_cons, List.foldl_nil, List.setIfInBounds_toArray, List.set_cons_succ, List.set_cons_zero, List.drop_succ_cons, List.drop_zero]
        rw [show gv 72 = .bool false from hV 4 72 (by kernel_rfl)]
        clear hV
        refine wpList_nil ?_
        have HBa := Lib.hid (HBs.out.kept ka)
        have kwa := kw.kept ka
        clear HBs kw ka
        by_cases hf : S.k = S.b
        · have hm := HM.out hf
          have HF := Lib.hid hf
          clear hf
          go_upto_region 8 with fail
          refine wp_free 9 [.eq (.pointer (some ⟨g, 0, none⟩)), .eq (.pointer (some ⟨g, 0, none⟩)), .eq (.pointer (some ⟨g, 2, none⟩)), .eq (.int .i64 S.k), .eq (.pointer (some ⟨g, 0, none⟩)), .eq (.pointer (some ⟨g, 0, none⟩)), .eq (.pointer (some ⟨g, 0, none⟩)), .eq (.int .i64 S.b), .eq (.bool true)] (by kernel_rfl) rfl (by kernel_rfl) ?_ ?_
          · refine sv 1 rfl rfl rfl (fun a u hE hD hk => exec_move (.tmp 0) _ rfl (hE 0 (.pointer (some ⟨g, 0, none⟩)) (by kernel_rfl) (by kernel_rfl))) ?_
            refine sv 2 rfl rfl rfl (fun a u hE hD hk => exec_nilp (.tmp 73) ⟨g, 0, none⟩ rfl (hD 0 73 (by kernel_rfl))) ?_
            refine sv 3 rfl rfl rfl (fun a u hE hD hk => exec_fldo 37 2 2 (.tmp 74) (g) (0) (2) rfl (hD 1 74 (by kernel_rfl)) (by kernel_rfl) rfl) ?_
            refine sv 4 rfl rfl rfl (fun a u hE hD hk => exec_loadi 3 Try.underlying3 (.tmp 75) ⟨g, 2, none⟩ (.int .i64 S.k) rfl (hD 2 75 (by kernel_rfl)) (range_int (range_kept (blk_range HBa.out) hk) 2 _ rfl)) ?_
            refine sv 5 rfl rfl rfl (fun a u hE hD hk => exec_move (.tmp 0) _ rfl (hE 0 (.pointer (some ⟨g, 0, none⟩)) (by kernel_rfl) (by kernel_rfl))) ?_
            refine sv 6 rfl rfl rfl (fun a u hE hD hk => exec_nilp (.tmp 77) ⟨g, 0, none⟩ rfl (hD 4 77 (by kernel_rfl))) ?_
            refine sv 7 rfl rfl rfl (fun a u hE hD hk => exec_fldo 37 0 0 (.tmp 78) (g) (0) (0) rfl (hD 5 78 (by kernel_rfl)) (by kernel_rfl) rfl) ?_
            refine sv 8 rfl rfl rfl (fun a u hE hD hk => exec_loadi 3 Try.underlying3 (.tmp 79) ⟨g, 0, none⟩ (.int .i64 S.b) rfl (hD 6 79 (by kernel_rfl)) (range_int (range_kept (blk_range HBa.out) hk) 0 _ rfl)) ?_
            refine fsteps_cons 9 rfl (fun a u hE hD hk => f_as (show ((decide ((S.k : Int) = (S.b : Int))) : Bool) = true from decide_eq_true HF.out) (f_val (o := ⟨some 81, _, _, _, _, _⟩) (.bool (decide ((S.k : Int) = (S.b : Int)))) rfl (wanted_none rfl _) (exec_eqn (p := S.k) (q := S.b) rfl (hD 3 76 (by kernel_rfl)) (hD 7 80 (by kernel_rfl))) rfl)) ?_
            exact fsteps_nil
          intro gv wf hV kf
          rw [show dstsOf _ 9 = [73, 74, 75, 76, 77, 78, 79, 80, 81] by kernel_rfl]
          simp only [List.foldl_cons, List.foldl_nil, List.setIfInBounds_toArray, List.set_cons_succ, List.set_cons_zero, List.drop_succ_cons, List.drop_zero]
          rw [show gv 81 = .bool true from hV 8 81 (by kernel_rfl)]
          clear hV
          refine wpList_nil ?_
          have HBf := Lib.hid (HBa.out.kept kf)
          have kwf := kwa.kept kf
          clear HBa kwa kf
          go_upto_region 9 with fail
          refine wp_text 9 [.eq (.pointer (some ⟨g, 0, none⟩)), .eq (.pointer (some ⟨g, 0, none⟩)), .eq (.pointer (some ⟨g, 0, none⟩)), .eq (.pointer (some ⟨g, 3, none⟩)), .eq (.int .i64 S.t), .eq (.int .i64 now), .eq (.int .i64 S.t), .eq (.pointer (some ⟨g, 0, none⟩)), .eq (.pointer (some ⟨g, 3, none⟩))] rfl (by kernel_rfl) ?_ ?_
          · refine sv 1 rfl rfl rfl (fun a u hE hD hk => exec_move (.tmp 0) _ rfl (hE 0 (.pointer (some ⟨g, 0, none⟩)) (by kernel_rfl) (by kernel_rfl))) ?_
            refine sv 2 rfl rfl rfl (fun a u hE hD hk => exec_move (.tmp 0) _ rfl (hE 0 (.pointer (some ⟨g, 0, none⟩)) (by kernel_rfl) (by kernel_rfl))) ?_
            refine sv 3 rfl rfl rfl (fun a u hE hD hk => exec_nilp (.tmp 83) ⟨g, 0, none⟩ rfl (hD 1 83 (by kernel_rfl))) ?_
            refine sv 4 rfl rfl rfl (fun a u hE hD hk => exec_fldo 37 3 3 (.tmp 84) (g) (0) (3) rfl (hD 2 84 (by kernel_rfl)) (by kernel_rfl) rfl) ?_
            refine sv 5 rfl rfl rfl (fun a u hE hD hk => exec_loadi 3 Try.underlying3 (.tmp 85) ⟨g, 3, none⟩ (.int .i64 S.t) rfl (hD 3 85 (by kernel_rfl)) (range_int (range_kept (blk_range HBf.out) hk) 3 _ rfl)) ?_
            refine sv 6 rfl rfl rfl (fun a u hE hD hk => exec_move (.tmp 1) _ rfl (hE 1 (.int .i64 now) (by kernel_rfl) (by kernel_rfl))) ?_
            refine sv 7 rfl rfl rfl (fun a u hE hD hk => exec_maxn (.tmp 86) (.tmp 87) _ S.t now S.t rfl (hD 4 86 (by kernel_rfl)) (hD 5 87 (by kernel_rfl)) (if_neg (by omega))) ?_
            refine sv 8 rfl rfl rfl (fun a u hE hD hk => exec_nilp (.tmp 82) ⟨g, 0, none⟩ rfl (hD 0 82 (by kernel_rfl))) ?_
            refine sv 9 rfl rfl rfl (fun a u hE hD hk => exec_fldo 37 3 3 (.tmp 89) (g) (0) (3) rfl (hD 7 89 (by kernel_rfl)) (by kernel_rfl) rfl) ?_
            exact fsteps_nil
          intro gv wg hV kg
          rw [show dstsOf _ 9 = [82, 83, 84, 85, 86, 87, 88, 89, 90] by kernel_rfl]
          simp only [List.foldl_cons, List.foldl_nil, List.setIfInBounds_toArray, List.set_cons_succ, List.set_cons_zero, List.drop_succ_cons, List.drop_zero]
          rw [show gv 90 = .pointer (some ⟨g, 3, none⟩) from hV 8 90 (by kernel_rfl)]
          rw [show gv 88 = .int .i64 S.t from hV 6 88 (by kernel_rfl)]
          clear hV
          refine l_putN (o := ⟨none, _, _, _, _, _⟩) g 3 37 S.cells S.cells (S.t) (.tmp 90) (.tmp 88) rfl rfl (by kernel_rfl) (by kernel_rfl) (HBf.out.kept kg) (by rw [Bkt.len4b]; omega) rfl ?_
          intro wh hCwh hKwh hSwh
          simp only [Act.put]
          refine wpList_nil ?_
          have HBh := Lib.hid hCwh
          have kwh := (kwf.kept kg).trans hKwh (fun _ _ h => h)
          clear HBf kwf kg hCwh hKwh hSwh
          go_upto_region 10 with fail
          refine wp_text 7 [.eq (.pointer (some ⟨g, 0, none⟩)), .eq (.pointer (some ⟨g, 0, none⟩)), .eq (.pointer (some ⟨g, 2, none⟩)), .eq (.int .i64 S.k), .eq (.int .i64 ((S.k : Int) - (1 : Int))), .eq (.pointer (some ⟨g, 0, none⟩)), .eq (.pointer (some ⟨g, 2, none⟩))] rfl (by kernel_rfl) ?_ ?_
          · refine sv 1 rfl rfl rfl (fun a u hE hD hk => exec_move (.tmp 0) _ rfl (hE 0 (.pointer (some ⟨g, 0, none⟩)) (by kernel_rfl) (by kernel_rfl))) ?_
            refine sv 2 rfl rfl rfl (fun a u hE hD hk => exec_nilp (.tmp 91) ⟨g, 0, none⟩ rfl (hD 0 91 (by kernel_rfl))) ?_
            refine sv 3 rfl rfl rfl (fun a u hE hD hk => exec_fldo 37 2 2 (.tmp 92) (g) (0) (2) rfl (hD 1 92 (by kernel_rfl)) (by kernel_rfl) rfl) ?_
            refine sv 4 rfl rfl rfl (fun a u hE hD hk => exec_loadi 3 Try.underlying3 (.tmp 93) ⟨g, 2, none⟩ (.int .i64 S.k) rfl (hD 2 93 (by kernel_rfl)) (range_int (range_kept (blk_range HBh.out) hk) 2 _ rfl)) ?_
            refine sv 5 rfl rfl rfl (fun a u hE hD hk => exec_subn (p := (S.k)) (q := (1)) ((S.k : Int) - (1 : Int)) rfl (hD 3 94 (by kernel_rfl)) rfl rfl (by omega) (by omega)) ?_
            refine sv 6 rfl rfl rfl (fun a u hE hD hk => exec_nilp (.tmp 91) ⟨g, 0, none⟩ rfl (hD 0 91 (by kernel_rfl))) ?_
            refine sv 7 rfl rfl rfl (fun a u hE hD hk => exec_fldo 37 2 2 (.tmp 96) (g) (0) (2) rfl (hD 5 96 (by kernel_rfl)) (by kernel_rfl) rfl) ?_
            exact fsteps_nil
          intro gv wb hV kb
          rw [show dstsOf _ 7 = [91, 92, 93, 94, 95, 96, 97] by kernel_rfl]
          simp only [List.foldl_cons, List.foldl_nil, List.setIfInBounds_toArray, List.set_cons_succ, List.set_cons_zero, List.drop_succ_cons, List.drop_zero]
          rw [show gv 97 = .pointer (some ⟨g, 2, none⟩) from hV 6 97 (by kernel_rfl)]
          rw [show gv 95 = .int .i64 ((S.k : Int) - (1 : Int)) from hV 4 95 (by kernel_rfl)]
          clear hV
          refine l_putN (o := ⟨none, _, _, _, _, _⟩) g 2 37 S.cells S.less.cells (S.k - 1) (.tmp 97) (.tmp 95) rfl rfl (by kernel_rfl) (by kernel_rfl) (HBh.out.kept kb) (by rw [Bkt.len4b]; omega) rfl ?_
          intro wc hCwc hKwc hSwc
          simp only [Act.put]
          refine wpList_nil ?_
          have kz := (kwh.kept kb).trans hKwc (fun _ _ h => h)
          go_wp2
          go_ret
          exact ⟨by rw [e1.out]; rfl, by rw [e2.out]; exact hCwc, kz⟩
        · have HF := Lib.hid hf
          clear hf
          go_upto_region 8 with fail
          refine wp_free 9 [.eq (.pointer (some ⟨g, 0, none⟩)), .eq (.pointer (some ⟨g, 0, none⟩)), .eq (.pointer (some ⟨g, 2, none⟩)), .eq (.int .i64 S.k), .eq (.pointer (some ⟨g, 0, none⟩)), .eq (.pointer (some ⟨g, 0, none⟩)), .eq (.pointer (some ⟨g, 0, none⟩)), .eq (.int .i64 S.b), .eq (.bool false)] (by kernel_rfl) rfl (by kernel_rfl) ?_ ?_
          · refine sv 1 rfl rfl rfl (fun a u hE hD hk => exec_move (.tmp 0) _ rfl (hE 0 (.pointer (some ⟨g, 0, none⟩)) (by kernel_rfl) (by kernel_rfl))) ?_
            refine sv 2 rfl rfl rfl (fun a u hE hD hk => exec_nilp (.tmp 73) ⟨g, 0, none⟩ rfl (hD 0 73 (by kernel_rfl))) ?_
            refine sv 3 rfl rfl rfl (fun a u hE hD hk => exec_fldo 37 2 2 (.tmp 74) (g) (0) (2) rfl (hD 1 74 (by kernel_rfl)) (by kernel_rfl) rfl) ?_
            refine sv 4 rfl rfl rfl (fun a u hE hD hk => exec_loadi 3 Try.underlying3 (.tmp 75) ⟨g, 2, none⟩ (.int .i64 S.k) rfl (hD 2 75 (by kernel_rfl)) (range_int (range_kept (blk_range HBa.out) hk) 2 _ rfl)) ?_
            refine sv 5 rfl rfl rfl (fun a u hE hD hk => exec_move (.tmp 0) _ rfl (hE 0 (.pointer (some ⟨g, 0, none⟩)) (by kernel_rfl) (by kernel_rfl))) ?_
            refine sv 6 rfl rfl rfl (fun a u hE hD hk => exec_nilp (.tmp 77) ⟨g, 0, none⟩ rfl (hD 4 77 (by kernel_rfl))) ?_
            refine sv 7 rfl rfl rfl (fun a u hE hD hk => exec_fldo 37 0 0 (.tmp 78) (g) (0) (0) rfl (hD 5 78 (by kernel_rfl)) (by kernel_rfl) rfl) ?_
            refine sv 8 rfl rfl rfl (fun a u hE hD hk => exec_loadi 3 Try.underlying3 (.tmp 79) ⟨g, 0, none⟩ (.int .i64 S.b) rfl (hD 6 79 (by kernel_rfl)) (range_int (range_kept (blk_range HBa.out) hk) 0 _ rfl)) ?_
            refine fsteps_cons 9 rfl (fun a u hE hD hk => f_as (show ((decide ((S.k : Int) = (S.b : Int))) : Bool) = false from decide_eq_false HF.out) (f_val (o := ⟨some 81, _, _, _, _, _⟩) (.bool (decide ((S.k : Int) = (S.b : Int)))) rfl (wanted_none rfl _) (exec_eqn (p := S.k) (q := S.b) rfl (hD 3 76 (by kernel_rfl)) (hD 7 80 (by kernel_rfl))) rfl)) ?_
            exact fsteps_nil
          intro gv wf hV kf
          rw [show dstsOf _ 9 = [73, 74, 75, 76, 77, 78, 79, 80, 81] by kernel_rfl]
          simp only [List.foldl_cons, List.foldl_nil, List.setIfInBounds_toArray, List.set_cons_succ, List.set_cons_zero, List.drop_succ_cons, List.drop_zero]
          rw [show gv 81 = .bool false from hV 8 81 (by kernel_rfl)]
          clear hV
          refine wpList_nil ?_
          have HBf := Lib.hid (HBa.out.kept kf)
          have kwf := kwa.kept kf
          clear HBa kwa kf
          go_upto_region 10 with fail
          refine wp_text 7 [.eq (.pointer (some ⟨g, 0, none⟩)), .eq (.pointer (some ⟨g, 0, none⟩)), .eq (.pointer (some ⟨g, 2, none⟩)), .eq (.int .i64 S.k), .eq (.int .i64 ((S.k : Int) - (1 : Int))), .eq (.pointer (some ⟨g, 0, none⟩)), .eq (.pointer (some ⟨g, 2, none⟩))] rfl (by kernel_rfl) ?_ ?_
          · refine sv 1 rfl rfl rfl (fun a u hE hD hk => exec_move (.tmp 0) _ rfl (hE 0 (.pointer (some ⟨g, 0, none⟩)) (by kernel_rfl) (by kernel_rfl))) ?_
            refine sv 2 rfl rfl rfl (fun a u hE hD hk => exec_nilp (.tmp 91) ⟨g, 0, none⟩ rfl (hD 0 91 (by kernel_rfl))) ?_
            refine sv 3 rfl rfl rfl (fun a u hE hD hk => exec_fldo 37 2 2 (.tmp 92) (g) (0) (2) rfl (hD 1 92 (by kernel_rfl)) (by kernel_rfl) rfl) ?_
            refine sv 4 rfl rfl rfl (fun a u hE hD hk => exec_loadi 3 Try.underlying3 (.tmp 93) ⟨g, 2, none⟩ (.int .i64 S.k) rfl (hD 2 93 (by kernel_rfl)) (range_int (range_kept (blk_range HBf.out) hk) 2 _ rfl)) ?_
            refine sv 5 rfl rfl rfl (fun a u hE hD hk => exec_subn (p := (S.k)) (q := (1)) ((S.k : Int) - (1 : Int)) rfl (hD 3 94 (by kernel_rfl)) rfl rfl (by omega) (by omega)) ?_
            refine sv 6 rfl rfl rfl (fun a u hE hD hk => exec_nilp (.tmp 91) ⟨g, 0, none⟩ rfl (hD 0 91 (by kernel_rfl))) ?_
            refine sv 7 rfl rfl rfl (fun a u hE hD hk => exec_fldo 37 2 2 (.tmp 96) (g) (0) (2) rfl (hD 5 96 (by kernel_rfl)) (by kernel_rfl) rfl) ?_
            exact fsteps_nil
          intro gv wb hV kb
          rw [show dstsOf _ 7 = [91, 92, 93, 94, 95, 96, 97] by kernel_rfl]
          simp only [List.foldl_cons, List.foldl_nil, List.setIfInBounds_toArray, List.set_cons_succ, List.set_cons_zero, List.drop_succ_cons, List.drop_zero]
          rw [show gv 97 = .pointer (some ⟨g, 2, none⟩) from hV 6 97 (by kernel_rfl)]
          rw [show gv 95 = .int .i64 ((S.k : Int) - (1 : Int)) from hV 4 95 (by kernel_rfl)]
          clear hV
          refine l_putN (o := ⟨none, _, _, _, _, _⟩) g 2 37 S.cells S.less.cells (S.k - 1) (.tmp 97) (.tmp 95) rfl rfl (by kernel_rfl) (by kernel_rfl) (HBf.out.kept kb) (by rw [Bkt.len4b]; omega) rfl ?_
          intro wc hCwc hKwc hSwc
          simp only [Act.put]
          refine wpList_nil ?_
          have kz := (kwf.kept kb).trans hKwc (fun _ _ h => h)
          go_wp2
          go_ret
          exact ⟨by rw [e1.out]; rfl, by rw [e2.out]; exact hCwc, kz⟩
  · have HSf : Hid (B = S) := by show _ = _; have := HS.out; unfold Bkt.seenM at this; rw [if_neg h0] at this; exact this
    clear HS hO
    go_enter Try.func13, Try.ntmps13
    go_upto_region 1 with fail
    refine wp_text 6 [.eq (.int .i64 now), .eq (.pointer (some ⟨g, 0, none⟩)), .eq (.pointer (some ⟨g, 0, none⟩)), .eq (.pointer (some ⟨g, 3, none⟩)), .eq (.int .i64 B.t), .eq (.bool false)] rfl (by kernel_rfl) ?_ ?_
    · refine sv 1 rfl rfl rfl (fun a u hE hD hk => exec_move (.tmp 1) _ rfl (hE 1 (.int .i64 now) (by kernel_rfl) (by kernel_rfl))) ?_
      refine sv 2 rfl rfl rfl (fun a u hE hD hk => exec_move (.tmp 0) _ rfl (hE 0 (.pointer (some ⟨g, 0, none⟩)) (by kernel_rfl) (by kernel_rfl))) ?_
      refine sv 3 rfl rfl rfl (fun a u hE hD hk => exec_nilp (.tmp 7) ⟨g, 0, none⟩ rfl (hD 1 7 (by kernel_rfl))) ?_
      refine sv 4 rfl rfl rfl (fun a u hE hD hk => exec_fldo 37 3 3 (.tmp 8) (g) (0) (3) rfl (hD 2 8 (by kernel_rfl)) (by kernel_rfl) rfl) ?_
      refine sv 5 rfl rfl rfl (fun a u hE hD hk => exec_loadi 3 Try.underlying3 (.tmp 9) ⟨g, 3, none⟩ (.int .i64 B.t) rfl (hD 3 9 (by kernel_rfl)) (range_int (range_kept (blk_range HB.out) hk) 3 _ rfl)) ?_
      refine fsteps_cons 6 rfl (fun a u hE hD hk => f_as (show ((decide ((B.t : Int) < (now : Int))) : Bool) = false from decide_eq_false h0) (f_val (o := ⟨some 11, _, _, _, _, _⟩) (.bool (decide ((B.t : Int) < (now : Int)))) rfl (wanted_none rfl _) (exec_gtn (p := now) (q := B.t) rfl (hD 0 6 (by kernel_rfl)) (hD 4 10 (by kernel_rfl))) rfl)) ?_
      exact fsteps_nil
    intro gv w0 hV kq
    rw [show dstsOf _ 6 = [6, 7, 8, 9, 10, 11] by kernel_rfl]
    simp only [List.foldl_cons, List.foldl_nil, List.setIfInBounds_toArray, List.set_cons_succ, List.set_cons_zero, List.drop_succ_cons, List.drop_zero]
    rw [show gv 11 = .bool false from hV 5 11 (by kernel_rfl)]
    clear hV
    refine wpList_nil ?_
    have HBs := Lib.hid (HB.out.kept kq)
    have kw : Keep (· = g) w w0 := kq.mono (fun _ _ h => h.elim)
    rw [HSf.out] at HBs
    clear HB h0 kq HSf
    by_cases hz : S.k = 0
    · have e1 : Hid (V = false) := by show _ = _; rw [← HV.out, decide_eq_true hz]; rfl
      have e2 : Hid (Y = S) := by show _ = _; rw [← HY.out, if_pos hz]
      go_upto_region 6 with fail
      refine wp_text 5 [.eq (.pointer (some ⟨g, 0, none⟩)), .eq (.pointer (some ⟨g, 0, none⟩)), .eq (.pointer (some ⟨g, 2, none⟩)), .eq (.int .i64 S.k), .eq (.bool true)] rfl (by kernel_rfl) ?_ ?_
      · refine sv 1 rfl rfl rfl (fun a u hE hD hk => exec_move (.tmp 0) _ rfl (hE 0 (.pointer (some ⟨g, 0, none⟩)) (by kernel_rfl) (by kernel_rfl))) ?_
        refine sv 2 rfl rfl rfl (fun a u hE hD hk => exec_nilp (.tmp 68) ⟨g, 0, none⟩ rfl (hD 0 68 (by kernel_rfl))) ?_
        refine sv 3 rfl rfl rfl (fun a u hE hD hk => exec_fldo 37 2 2 (.tmp 69) (g) (0) (2) rfl (hD 1 69 (by kernel_rfl)) (by kernel_rfl) rfl) ?_
        refine sv 4 rfl rfl rfl (fun a u hE hD hk => exec_loadi 3 Try.underlying3 (.tmp 70) ⟨g, 2, none⟩ (.int .i64 S.k) rfl (hD 2 70 (by kernel_rfl)) (range_int (range_kept (blk_range HBs.out) hk) 2 _ rfl)) ?_
        refine fsteps_cons 5 rfl (fun a u hE hD hk => f_as (show ((decide ((S.k : Int) < (1 : Int))) : Bool) = true from decide_eq_true (by omega)) (f_val (o := ⟨some 72, _, _, _, _, _⟩) (.bool (decide ((S.k : Int) < (1 : Int)))) rfl (wanted_none rfl _) (exec_ltn (p := S.k) (q := 1) rfl (hD 3 71 (by kernel_rfl)) rfl) rfl)) ?_
        exact fsteps_nil
      intro gv wa hV ka
      rw [show dstsOf _ 5 = [68, 69, 70, 71, 72] by kernel_rfl]
      simp only [List.foldl_cons, List.foldl_nil, List.setIfInBounds_toArray, List.set_cons_succ, List.set_cons_zero, List.drop_succ_cons, List.drop_zero]
      rw [show gv 72 = .bool true from hV 4 72 (by kernel_rfl)]
      clear hV
      refine wpList_nil ?_
      have HBa := Lib.hid (HBs.out.kept ka)
      have kwa := kw.kept ka
      clear HBs kw ka
      have HB1 := HBa.out
      go_wp2
      go_ret
      exact ⟨by rw [e1.out]; rfl, by rw [e2.out]; exact HB1, kwa⟩
    · have e1 : Hid (V = true) := by show _ = _; rw [← HV.out, decide_eq_false hz]; rfl
      have e2 : Hid (Y = S.less) := by show _ = _; rw [← HY.out, if_neg hz]
      go_upto_region 6 with fail
      refine wp_text 5 [.eq (.pointer (some ⟨g, 0, none⟩)), .eq (.pointer (some ⟨g, 0, none⟩)), .eq (.pointer (some ⟨g, 2, none⟩)), .eq (.int .i64 S.k), .eq (.bool false)] rfl (by kernel_rfl) ?_ ?_
      · refine sv 1 rfl rfl rfl (fun a u hE hD hk => exec_move (.tmp 0) _ rfl (hE 0 (.pointer (some ⟨g, 0, none⟩)) (by kernel_rfl) (by kernel_rfl))) ?_
        refine sv 2 rfl rfl rfl (fun a u hE hD hk => exec_nilp (.tmp 68) ⟨g, 0, none⟩ rfl (hD 0 68 (by kernel_rfl))) ?_
        refine sv 3 rfl rfl rfl (fun a u hE hD hk => exec_fldo 37 2 2 (.tmp 69) (g) (0) (2) rfl (hD 1 69 (by kernel_rfl)) (by kernel_rfl) rfl) ?_
        refine sv 4 rfl rfl rfl (fun a u hE hD hk => exec_loadi 3 Try.underlying3 (.tmp 70) ⟨g, 2, none⟩ (.int .i64 S.k) rfl (hD 2 70 (by kernel_rfl)) (range_int (range_kept (blk_range HBs.out) hk) 2 _ rfl)) ?_
        refine fsteps_cons 5 rfl (fun a u hE hD hk => f_as (show ((decide ((S.k : Int) < (1 : Int))) : Bool) = false from decide_eq_false (by omega)) (f_val (o := ⟨some 72, _, _, _, _, _⟩) (.bool (decide ((S.k : Int) < (1 : Int)))) rfl (wanted_none rfl _) (exec_ltn (p := S.k) (q := 1) rfl (hD 3 71 (by kernel_rfl)) rfl) rfl)) ?_
        exact fsteps_nil
      intro gv wa hV ka
      rw [show dstsOf _ 5 = [68, 69, 70, 71, 72] by kernel_rfl]
      simp only [List.foldl_cons, List.foldl_nil, List.setIfInBounds_toArray, List.set_cons_succ, List.set_cons_zero, List.drop_succ_cons, List.drop_zero]
      rw [show gv 72 = .bool false from hV 4 72 (by kernel_rfl)]
      clear hV
      refine wpList_nil ?_
      have HBa := Lib.hid (HBs.out.kept ka)
      have kwa := kw.kept ka
      clear HBs kw ka
      by_cases hf : S.k = S.b
      · have hm := HM.out hf
        have HF := Lib.hid hf
        clear hf
        go_upto_region 8 with fail
        refine wp_free 9 [.eq (.pointer (some ⟨g, 0, none⟩)), .eq (.pointer (some ⟨g, 0, none⟩)), .eq (.pointer (some ⟨g, 2, none⟩)), .eq (.int .i64 S.k), .eq (.pointer (some ⟨g, 0, none⟩)), .eq (.pointer (some ⟨g, 0, none⟩)), .eq (.pointer (some ⟨g, 0, none⟩)), .eq (.int .i64 S.b), .eq (.bool true)] (by kernel_rfl) rfl (by kernel_rfl) ?_ ?_
        · refine sv 1 rfl rfl rfl (fun a u hE hD hk => exec_move (.tmp 0) _ rfl (hE 0 (.pointer (some ⟨g, 0, none⟩)) (by kernel_rfl) (by kernel_rfl))) ?_
          refine sv 2 rfl rfl rfl (fun a u hE hD hk => exec_nilp (.tmp 73) ⟨g, 0, none⟩ rfl (hD 0 73 (by kernel_rfl))) ?_
          refine sv 3 rfl rfl rfl (fun a u hE hD hk => exec_fldo 37 2 2 (.tmp 74) (g) (0) (2) rfl (hD 1 74 (by kernel_rfl)) (by kernel_rfl) rfl) ?_
          refine sv 4 rfl rfl rfl (fun a u hE hD hk => exec_loadi 3 Try.underlying3 (.tmp 75) ⟨g, 2, none⟩ (.int .i64 S.k) rfl (hD 2 75 (by kernel_rfl)) (range_int (range_kept (blk_range HBa.out) hk) 2 _ rfl)) ?_
          refine sv 5 rfl rfl rfl (fun a u hE hD hk => exec_move (.tmp 0) _ rfl (hE 0 (.pointer (some ⟨g, 0, none⟩)) (by kernel_rfl) (by kernel_rfl))) ?_
          refine sv 6 rfl rfl rfl (fun a u hE hD hk => exec_nilp (.tmp 77) ⟨g, 0, none⟩ rfl (hD 4 77 (by kernel_rfl))) ?_
          refine sv 7 rfl rfl rfl (fun a u hE hD hk => exec_fldo 37 0 0 (.tmp 78) (g) (0) (0) rfl (hD 5 78 (by kernel_rfl)) (by kernel_rfl) rfl) ?_
          refine sv 8 rfl rfl rfl (fun a u hE hD hk => exec_loadi 3 Try.underlying3 (.tmp 79) ⟨g, 0, none⟩ (.int .i64 S.b) rfl (hD 6 79 (by kernel_rfl)) (range_int (range_kept (blk_range HBa.out) hk) 0 _ rfl)) ?_
          refine fsteps_cons 9 rfl (fun a u hE hD hk => f_as (show ((decide ((S.k : Int) = (S.b : Int))) : Bool) = true from decide_eq_true HF.out) (f_val (o := ⟨some 81, _, _, _, _, _⟩) (.bool (decide ((S.k : Int) = (S.b : Int)))) rfl (wanted_none rfl _) (exec_eqn (p := S.k) (q := S.b) rfl (hD 3 76 (by kernel_rfl)) (hD 7 80 (by kernel_rfl))) rfl)) ?_
          exact fsteps_nil
        intro gv wf hV kf
        rw [show dstsOf _ 9 = [73, 74, 75, 76, 77, 78, 79, 80, 81] by kernel_rfl]
        simp only [List.foldl_cons, List.foldl_nil, List.setIfInBounds_toArray, List.set_cons_succ, List.set_cons_zero, List.drop_succ_cons, List.drop_zero]
        rw [show gv 81 = .bool true from hV 8 81 (by kernel_rfl)]
        clear hV
        refine wpList_nil ?_
        have HBf := Lib.hid (HBa.out.kept kf)
        have kwf := kwa.kept kf
        clear HBa kwa kf
        go_upto_region 9 with fail
        refine wp_text 9 [.eq (.pointer (some ⟨g, 0, none⟩)), .eq (.pointer (some ⟨g, 0, none⟩)), .eq (.pointer (some ⟨g, 0, none⟩)), .eq (.pointer (some ⟨g, 3, none⟩)), .eq (.int .i64 S.t), .eq (.int .i64 now), .eq (.int .i64 S.t), .eq (.pointer (some ⟨g, 0, none⟩)), .eq (.pointer (some ⟨g, 3, none⟩))] rfl (by kernel_rfl) ?_ ?_
        · refine sv 1 rfl rfl rfl (fun a u hE hD hk => exec_move (.tmp 0) _ rfl (hE 0 (.pointer (some ⟨g, 0, none⟩)) (by kernel_rfl) (by kernel_rfl))) ?_
          refine sv 2 rfl rfl rfl (fun a u hE hD hk => exec_move (.tmp 0) _ rfl (hE 0 (.pointer (some ⟨g, 0, none⟩)) (by kernel_rfl) (by kernel_rfl))) ?_
          refine sv 3 rfl rfl rfl (fun a u hE hD hk => exec_nilp (.tmp 83) ⟨g, 0, none⟩ rfl (hD 1 83 (by kernel_rfl))) ?_
          refine sv 4 rfl rfl rfl (fun a u hE hD hk => exec_fldo 37 3 3 (.tmp 84) (g) (0) (3) rfl (hD 2 84 (by kernel_rfl)) (by kernel_rfl) rfl) ?_
          refine sv 5 rfl rfl rfl (fun a u hE hD hk => exec_loadi 3 Try.underlying3 (.tmp 85) ⟨g, 3, none⟩ (.int .i64 S.t) rfl (hD 3 85 (by kernel_rfl)) (range_int (range_kept (blk_range HBf.out) hk) 3 _ rfl)) ?_
          refine sv 6 rfl rfl rfl (fun a u hE hD hk => exec_move (.tmp 1) _ rfl (hE 1 (.int .i64 now) (by kernel_rfl) (by kernel_rfl))) ?_
          refine sv 7 rfl rfl rfl (fun a u hE hD hk => exec_maxn (.tmp 86) (.tmp 87) _ S.t now S.t rfl (hD 4 86 (by kernel_rfl)) (hD 5 87 (by kernel_rfl)) (if_neg (by omega))) ?_
          refine sv 8 rfl rfl rfl (fun a u hE hD hk => exec_nilp (.tmp 82) ⟨g, 0, none⟩ rfl (hD 0 82 (by kernel_rfl))) ?_
          refine sv 9 rfl rfl rfl (fun a u hE hD hk => exec_fldo 37 3 3 (.tmp 89) (g) (0) (3) rfl (hD 7 89 (by kernel_rfl)) (by kernel_rfl) rfl) ?_
          exact fsteps_nil
        intro gv wg hV kg
        rw [show dstsOf _ 9 = [82, 83, 84, 85, 86, 87, 88, 89, 90] by kernel_rfl]
        simp only [List.foldl_cons, List.foldl_nil, List.setIfInBounds_toArray, List.set_cons_succ, List.set_cons_zero, List.drop_succ_cons, List.drop_zero]
        rw [show gv 90 = .pointer (some ⟨g, 3, none⟩) from hV 8 90 (by kernel_rfl)]
        rw [show gv 88 = .int .i64 S.t from hV 6 88 (by kernel_rfl)]
        clear hV
        refine l_putN (o := ⟨none, _, _, _, _, _⟩) g 3 37 S.cells S.cells (S.t) (.tmp 90) (.tmp 88) rfl rfl (by kernel_rfl) (by kernel_rfl) (HBf.out.kept kg) (by rw [Bkt.len4b]; omega) rfl ?_
        intro wh hCwh hKwh hSwh
        simp only [Act.put]
        refine wpList_nil ?_
        have HBh := Lib.hid hCwh
        have kwh := (kwf.kept kg).trans hKwh (fun _ _ h => h)
        clear HBf kwf kg hCwh hKwh hSwh
        go_upto_region 10 with fail
        refine wp_text 7 [.eq (.pointer (some ⟨g, 0, none⟩)), .eq (.pointer (some ⟨g, 0, none⟩)), .eq (.pointer (some ⟨g, 2, none⟩)), .eq (.int .i64 S.k), .eq (.int .i64 ((S.k : Int) - (1 : Int))), .eq (.pointer (some ⟨g, 0, none⟩)), .eq (.pointer (some ⟨g, 2, none⟩))] rfl (by kernel_rfl) ?_ ?_
        · refine sv 1 rfl rfl rfl (fun a u hE hD hk => exec_move (.tmp 0) _ rfl (hE 0 (.pointer (some ⟨g, 0, none⟩)) (by kernel_rfl) (by kernel_rfl))) ?_
          refine sv 2 rfl rfl rfl (fun a u hE hD hk => exec_nilp (.tmp 91) ⟨g, 0, none⟩ rfl (hD 0 91 (by kernel_rfl))) ?_
          refine sv 3 rfl rfl rfl (fun a u hE hD hk => exec_fldo 37 2 2 (.tmp 92) (g) (0) (2) rfl (hD 1 92 (by kernel_rfl)) (by kernel_rfl) rfl) ?_
          refine sv 4 rfl rfl rfl (fun a u hE hD hk => exec_loadi 3 Try.underlying3 (.tmp 93) ⟨g, 2, none⟩ (.int .i64 S.k) rfl (hD 2 93 (by kernel_rfl)) (range_int (range_kept (blk_range HBh.out) hk) 2 _ rfl)) ?_
          refine sv 5 rfl rfl rfl (fun a u hE hD hk => exec_subn (p := (S.k)) (q := (1)) ((S.k : Int) - (1 : Int)) rfl (hD 3 94 (by kernel_rfl)) rfl rfl (by omega) (by omega)) ?_
          refine sv 6 rfl rfl rfl (fun a u hE hD hk => exec_nilp (.tmp 91) ⟨g, 0, none⟩ rfl (hD 0 91 (by kernel_rfl))) ?_
          refine sv 7 rfl rfl rfl (fun a u hE hD hk => exec_fldo 37 2 2 (.tmp 96) (g) (0) (2) rfl (hD 5 96 (by kernel_rfl)) (by kernel_rfl) rfl) ?_
          exact fsteps_nil
        intro gv wb hV kb
        rw [show dstsOf _ 7 = [91, 92, 93, 94, 95, 96, 97] by kernel_rfl]
        simp only [List.foldl_cons, List.foldl_nil, List.setIfInBounds_toArray, List.set_cons_succ, List.set_cons_zero, List.drop_succ_cons, List.drop_zero]
        rw [show gv 97 = .pointer (some ⟨g, 2, none⟩) from hV 6 97 (by kernel_rfl)]
        rw [show gv 95 = .int .i64 ((S.k : Int) - (1 : Int)) from hV 4 95 (by kernel_rfl)]
        clear hV
        refine l_putN (o := ⟨none, _, _, _, _, _⟩) g 2 37 S.cells S.less.cells (S.k - 1) (.tmp 97) (.tmp 95) rfl rfl (by kernel_rfl) (by kernel_rfl) (HBh.out.kept kb) (by rw [Bkt.len4b]; omega) rfl ?_
        intro wc hCwc hKwc hSwc
        simp only [Act.put]
        refine wpList_nil ?_
        have kz := (kwh.kept kb).trans hKwc (fun _ _ h => h)
        go_wp2
        go_ret
        exact ⟨by rw [e1.out]; rfl, by rw [e2.out]; exact hCwc, kz⟩
      · have HF := Lib.hid hf
        clear hf
        go_upto_region 8 with fail
        refine wp_free 9 [.eq (.pointer (some ⟨g, 0, none⟩)), .eq (.pointer (some ⟨g, 0, none⟩)), .eq (.pointer (some ⟨g, 2, none⟩)), .eq (.int .i64 S.k), .eq (.pointer (some ⟨g, 0, none⟩)), .eq (.pointer (some ⟨g, 0, none⟩)), .eq (.pointer (some ⟨g, 0, none⟩)), .eq (.int .i64 S.b), .eq (.bool false)] (by kernel_rfl) rfl (by kernel_rfl) ?_ ?_
        · refine sv 1 rfl rfl rfl (fun a u hE hD hk => exec_move (.tmp 0) _ rfl (hE 0 (.pointer (some ⟨g, 0, none⟩)) (by kernel_rfl) (by kernel_rfl))) ?_
          refine sv 2 rfl rfl rfl (fun a u hE hD hk => exec_nilp (.tmp 73) ⟨g, 0, none⟩ rfl (hD 0 73 (by kernel_rfl))) ?_
          refine sv 3 rfl rfl rfl (fun a u hE hD hk => exec_fldo 37 2 2 (.tmp 74) (g) (0) (2) rfl (hD 1 74 (by kernel_rfl)) (by kernel_rfl) rfl) ?_
          refine sv 4 rfl rfl rfl (fun a u hE hD hk => exec_loadi 3 Try.underlying3 (.tmp 75) ⟨g, 2, none⟩ (.int .i64 S.k) rfl (hD 2 75 (by kernel_rfl)) (range_int (range_kept (blk_range HBa.out) hk) 2 _ rfl)) ?_
          refine sv 5 rfl rfl rfl (fun a u hE hD hk => exec_move (.tmp 0) _ rfl (hE 0 (.pointer (some ⟨g, 0, none⟩)) (by kernel_rfl) (by kernel_rfl))) ?_
          refine sv 6 rfl rfl rfl (fun a u hE hD hk => exec_nilp (.tmp 77) ⟨g, 0, none⟩ rfl (hD 4 77 (by kernel_rfl))) ?_
          refine sv 7 rfl rfl rfl (fun a u hE hD hk => exec_fldo 37 0 0 (.tmp 78) (g) (0) (0) rfl (hD 5 78 (by kernel_rfl)) (by kernel_rfl) rfl) ?_
          refine sv 8 rfl rfl rfl (fun a u hE hD hk => exec_loadi 3 Try.underlying3 (.tmp 79) ⟨g, 0, none⟩ (.int .i64 S.b) rfl (hD 6 79 (by kernel_rfl)) (range_int (range_kept (blk_range HBa.out) hk) 0 _ rfl)) ?_
          refine fsteps_cons 9 rfl (fun a u hE hD hk => f_as (show ((decide ((S.k : Int) = (S.b : Int))) : Bool) = false from decide_eq_false HF.out) (f_val (o := ⟨some 81, _, _, _, _, _⟩) (.bool (decide ((S.k : Int) = (S.b : Int)))) rfl (wanted_none rfl _) (exec_eqn (p := S.k) (q := S.b) rfl (hD 3 76 (by kernel_rfl)) (hD 7 80 (by kernel_rfl))) rfl)) ?_
          exact fsteps_nil
        intro gv wf hV kf
        rw [show dstsOf _ 9 = [73, 74, 75, 76, 77, 78, 79, 80, 81] by kernel_rfl]
        simp only [List.foldl_cons, List.foldl_nil, List.setIfInBounds_toArray, List.set_cons_succ, List.set_cons_zero, List.drop_succ_cons, List.drop_zero]
        rw [show gv 81 = .bool false from hV 8 81 (by kernel_rfl)]
        clear hV
        refine wpList_nil ?_
        have HBf := Lib.hid (HBa.out.kept kf)
        have kwf := kwa.kept kf
        clear HBa kwa kf
        go_upto_region 10 with fail
        refine wp_text 7 [.eq (.pointer (some ⟨g, 0, none⟩)), .eq (.pointer (some ⟨g, 0, none⟩)), .eq (.pointer (some ⟨g, 2, none⟩)), .eq (.int .i64 S.k), .eq (.int .i64 ((S.k : Int) - (1 : Int))), .eq (.pointer (some ⟨g, 0, none⟩)), .eq (.pointer (some ⟨g, 2, none⟩))] rfl (by kernel_rfl) ?_ ?_
        · refine sv 1 rfl rfl rfl (fun a u hE hD hk => exec_move (.tmp 0) _ rfl (hE 0 (.pointer (some ⟨g, 0, none⟩)) (by kernel_rfl) (by kernel_rfl))) ?_
          refine sv 2 rfl rfl rfl (fun a u hE hD hk => exec_nilp (.tmp 91) ⟨g, 0, none⟩ rfl (hD 0 91 (by kernel_rfl))) ?_
          refine sv 3 rfl rfl rfl (fun a u hE hD hk => exec_fldo 37 2 2 (.tmp 92) (g) (0) (2) rfl (hD 1 92 (by kernel_rfl)) (by kernel_rfl) rfl) ?_
          refine sv 4 rfl rfl rfl (fun a u hE hD hk => exec_loadi 3 Try.underlying3 (.tmp 93) ⟨g, 2, none⟩ (.int .i64 S.k) rfl (hD 2 93 (by kernel_rfl)) (range_int (range_kept (blk_range HBf.out) hk) 2 _ rfl)) ?_
          refine sv 5 rfl rfl rfl (fun a u hE hD hk => exec_subn (p := (S.k)) (q := (1)) ((S.k : Int) - (1 : Int)) rfl (hD 3 94 (by kernel_rfl)) rfl rfl (by omega) (by omega)) ?_
          refine sv 6 rfl rfl rfl (fun a u hE hD hk => exec_nilp (.tmp 91) ⟨g, 0, none⟩ rfl (hD 0 91 (by kernel_rfl))) ?_
          refine sv 7 rfl rfl rfl (fun a u hE hD hk => exec_fldo 37 2 2 (.tmp 96) (g) (0) (2) rfl (hD 5 96 (by kernel_rfl)) (by kernel_rfl) rfl) ?_
          exact fsteps_nil
        intro gv wb hV kb
        rw [show dstsOf _ 7 = [91, 92, 93, 94, 95, 96, 97] by kernel_rfl]
        simp only [List.foldl_cons, List.foldl_nil, List.setIfInBounds_toArray, List.set_cons_succ, List.set_cons_zero, List.drop_succ_cons, List.drop_zero]
        rw [show gv 97 = .pointer (some ⟨g, 2, none⟩) from hV 6 97 (by kernel_rfl)]
        rw [show gv 95 = .int .i64 ((S.k : Int) - (1 : Int)) from hV 4 95 (by kernel_rfl)]
        clear hV
        refine l_putN (o := ⟨none, _, _, _, _, _⟩) g 2 37 S.cells S.less.cells (S.k - 1) (.tmp 97) (.tmp 95) rfl rfl (by kernel_rfl) (by kernel_rfl) (HBf.out.kept kb) (by rw [Bkt.len4b]; omega) rfl ?_
        intro wc hCwc hKwc hSwc
        simp only [Act.put]
        refine wpList_nil ?_
        have kz := (kwf.kept kb).trans hKwc (fun _ _ h => h)
        go_wp2
        go_ret
        exact ⟨by rw [e1.out]; rfl, by rw [e2.out]; exact hCwc, kz⟩
end Go.Proofs.Ytpkadepohgeloaa
