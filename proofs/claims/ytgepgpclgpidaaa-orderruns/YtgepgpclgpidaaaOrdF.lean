/-
  Contracts of package order's functions, and of the document's own of chapter 8: which orders are right, what crosses, what is hit, what goes ahead, what an order is worth. Condition of the last: its numbers are an int's.
-/
import Derived.Test.YtgepgpclgpidaaaOrd
import Derived.Test.YtgepgpclgpidaaaRng
import Derived.Test.YtgepgpclgpidaaaNum
import Derived.Test.YtgepgpclgpidaaaSumC
namespace Go.Proofs.Ytgepgpclgpidaaa
open Go.RowKit
set_option linter.unusedVariables false

theorem gives_same {f : Nat} {args : Array Value} {w : World} {c : Value} (h : Calls Try.prog f args w fun e w' => e = .returned c ∧ w = w') : Gives f args w (.eq c) := h.mono fun e w' ⟨he, hk⟩ => ⟨c, he, rfl, by subst hk; exact Kept.refl _⟩
/-- does price x go ahead of price y -/
def bet (side x y : Int) : Bool := if side = 1 then decide (y < x) else decide (x < y)
def Ord.crosses (c : Ord) (x : Int) : Bool := decide (c.k = 2) || !bet c.side x c.price
def Ord.hit (c : Ord) (x : Int) : Bool := (decide (0 < c.stop) && decide (0 < x)) && !bet c.side c.stop x
def Ord.owned (c : Ord) : Bool := (rng c.tr 0 31 && rng c.firm 0 7) && rng c.id 0 1073741824
def Ord.ofApi (c : Ord) : Bool := rng c.side 1 2 && rng c.k 1 5
def Ord.prices (c : Ord) : Bool := rng c.stop 0 1048576 && if c.k = 2 then decide (c.price = 0) else rng c.price 1 1048576
def Ord.shown (c : Ord) : Int := if c.k = 1 ∨ c.k = 5 then c.qty else 0
def Ord.amounts (c : Ord) : Bool := rng c.qty 1 1048576 && rng c.shw 0 c.shown
def Ord.right (c : Ord) : Bool := ((c.owned && c.ofApi) && c.prices) && c.amounts
theorem right_iff (c : Ord) : c.right = true ↔ (0 ≤ c.tr ∧ c.tr ≤ 31) ∧ (0 ≤ c.firm ∧ c.firm ≤ 7) ∧ (0 ≤ c.id ∧ c.id ≤ 1073741824) ∧ (1 ≤ c.side ∧ c.side ≤ 2) ∧ (1 ≤ c.k ∧ c.k ≤ 5) ∧ (0 ≤ c.stop ∧ c.stop ≤ 1048576) ∧ (c.k = 2 → c.price = 0) ∧ (c.k ≠ 2 → 1 ≤ c.price ∧ c.price ≤ 1048576) ∧ (1 ≤ c.qty ∧ c.qty ≤ 1048576) ∧ 0 ≤ c.shw ∧ c.shw ≤ c.qty ∧ (c.k = 1 ∨ c.k = 5 ∨ c.shw = 0) := by
  unfold Ord.right Ord.owned Ord.ofApi Ord.prices Ord.amounts Ord.shown rng
  by_cases h2 : c.k = 2
  · rw [if_pos h2, if_neg (by omega)]
    simp only [Bool.and_eq_true, decide_eq_true_eq]
    omega
  · rw [if_neg h2]
    by_cases h1 : c.k = 1 ∨ c.k = 5
    · rw [if_pos h1]
      simp only [Bool.and_eq_true, decide_eq_true_eq]
      omega
    · rw [if_neg h1]
      simp only [Bool.and_eq_true, decide_eq_true_eq]
      omega
/-- what Right answers -/
def Ord.err (c : Ord) : Int := if c.right = true then 0 else 1


set_option maxRecDepth 100000 in
set_option maxHeartbeats 800000 in
theorem owithin_any (n lo hi : Int) (w : World) : Gives 27 #[.int .i64 n, .int .i64 lo, .int .i64 hi] w (.eq (.bool (rng n lo hi))) := by
  refine gives_eq ?_
  unfold rng
  by_cases h : lo ≤ n
  · have h1 : decide (lo ≤ n) = true := by simpa using h
    rw [h1]
    go_enter Try.func27, Try.ntmps27
    go_wp2
    go_ret
    exact ⟨ret_bool (by simp), Kept.refl w⟩
  · have h1 : decide (lo ≤ n) = false := by simpa using h
    rw [h1]
    go_enter Try.func27, Try.ntmps27
    go_wp2
    go_ret
    exact ⟨ret_bool (by simp), Kept.refl w⟩

set_option maxRecDepth 100000 in
set_option maxHeartbeats 800000 in
theorem better_any (side x y : Int) (w : World) : Gives 10 #[.int .i64 side, .int .i64 x, .int .i64 y] w (.eq (.bool (bet side x y))) := by
  refine gives_eq ?_
  unfold bet
  by_cases h : side = 1
  · have h1 : ((side : Int) == 1) = true := by simpa using h
    rw [if_pos h]; clear h
    go_enter Try.func10, Try.ntmps10
    go_wp2
    go_ret
    exact ⟨ret_bool (by simp), Kept.refl w⟩
  · have h1 : ((side : Int) == 1) = false := by simpa using h
    rw [if_neg h]; clear h
    go_enter Try.func10, Try.ntmps10
    go_wp2
    go_ret
    exact ⟨ret_bool (by simp), Kept.refl w⟩

set_option maxRecDepth 100000 in
set_option maxHeartbeats 800000 in
theorem refBetter_any (side x y : Int) (w : World) : Gives 17 #[.int .i64 side, .int .i64 x, .int .i64 y] w (.eq (.bool (bet side x y))) := by
  refine gives_eq ?_
  unfold bet
  by_cases h : side = 1
  · have h1 : ((side : Int) == 1) = true := by simpa using h
    rw [if_pos h]; clear h
    go_enter Try.func17, Try.ntmps17
    go_wp2
    go_ret
    exact ⟨ret_bool (by simp), Kept.refl w⟩
  · have h1 : ((side : Int) == 1) = false := by simpa using h
    rw [if_neg h]; clear h
    go_enter Try.func17, Try.ntmps17
    go_wp2
    go_ret
    exact ⟨ret_bool (by simp), Kept.refl w⟩

set_option maxRecDepth 100000 in
set_option maxHeartbeats 800000 in
theorem reaches_any (side x y : Int) (w : World) : Gives 19 #[.int .i64 side, .int .i64 x, .int .i64 y] w (.eq (.bool (!bet side y x))) := by
  unfold Gives
  go_enter Try.func19, Try.ntmps19
  go_upto_region 1 with fail
  refine wp_text 5 [.eq (.int .i64 side), .eq (.int .i64 y), .eq (.int .i64 x), .eq (.bool (bet side y x)), .eq (.bool (!(bet side y x)))] rfl (by kernel_rfl) ?_ ?_
  · refine fsteps_cons 1 rfl (fun a u hE hD hk => f_val (o := ⟨some 7, _, _, _, _, _⟩) (.int .i64 side) rfl (wanted_none rfl _) (exec_move (.tmp 0) (.int .i64 side) rfl (hE 0 (.int .i64 side) (by kernel_rfl) (by kernel_rfl))) rfl) ?_
    refine fsteps_cons 2 rfl (fun a u hE hD hk => f_val (o := ⟨some 8, _, _, _, _, _⟩) (.int .i64 y) rfl (wanted_none rfl _) (exec_move (.tmp 2) (.int .i64 y) rfl (hE 2 (.int .i64 y) (by kernel_rfl) (by kernel_rfl))) rfl) ?_
    refine fsteps_cons 3 rfl (fun a u hE hD hk => f_val (o := ⟨some 9, _, _, _, _, _⟩) (.int .i64 x) rfl (wanted_none rfl _) (exec_move (.tmp 1) (.int .i64 x) rfl (hE 1 (.int .i64 x) (by kernel_rfl) (by kernel_rfl))) rfl) ?_
    refine fsteps_cons 4 rfl (fun a u hE hD hk => f_call (o := ⟨some 10, _, _, _, _, _⟩) 10 #[.int .i64 side, .int .i64 y, .int .i64 x] rfl (wanted_none rfl _) (exec_call 10 _ [.tmp 7, .tmp 8, .tmp 9] _ [.int .i64 side, .int .i64 y, .int .i64 x] Try.func10 (by kernel_rfl) (by kernel_rfl) rfl (show [a.eval (.tmp 7), a.eval (.tmp 8), a.eval (.tmp 9)] = [.int .i64 side, .int .i64 y, .int .i64 x] from (by rw [show a.eval (.tmp 7) = .int .i64 side from (hD 0 7 (by kernel_rfl)), show a.eval (.tmp 8) = .int .i64 y from (hD 1 8 (by kernel_rfl)), show a.eval (.tmp 9) = .int .i64 x from (hD 2 9 (by kernel_rfl))] <;> rfl)) u) (better_any _ _ _ u)) ?_
    refine fsteps_cons 5 rfl (fun a u hE hD hk => f_val (o := ⟨some 11, _, _, _, _, _⟩) (.bool (!(bet side y x))) rfl (wanted_none rfl _) (exec_not _ (.tmp 10) (bet side y x) rfl (hD 3 10 (by kernel_rfl))) rfl) ?_
    exact fsteps_nil
  intro gv w1 hV k1
  rw [show dstsOf _ 5 = [7, 8, 9, 10, 11] by kernel_rfl]
  simp only [List.foldl_cons, List.foldl_nil, List.setIfInBounds_toArray, List.set_cons_succ, List.set_cons_zero, List.drop_succ_cons, List.drop_zero]
  rw [show gv 11 = .bool (!(bet side y x)) from hV 4 11 (by kernel_rfl)]
  clear hV
  go_wp2
  go_ret
  exact ⟨_, rfl, rfl, k1⟩

set_option maxRecDepth 100000 in
set_option maxHeartbeats 800000 in
theorem isOwned_any (c : Ord) (w : World) : Gives 20 #[c.v] w (.eq (.bool c.owned)) := by
  unfold Gives Ord.v
  have HT : Hid True := trivial
  have HB0 : Hid (Blk (w.alloc (.cells c.cells.toArray 23)) w.heap.size 23 c.cells) := Blk.new w _ _
  have kw0 : Kept w (w.alloc (.cells c.cells.toArray 23)) := (Keep.refl _ w).alloc _
  go_enter Try.func20, Try.ntmps20
  go_upto_region 1 with fail
  generalize w.alloc (.cells c.cells.toArray 23) = w0 at HB0 kw0 ⊢
  generalize w.heap.size = g at HB0 ⊢
  refine wp_text 13 [.eq (.pointer (some ⟨g, 0, none⟩)), .eq (.int .i64 c.tr), .eq (.bool (rng c.tr 0 31)), .eq (.bool (rng c.tr 0 31)), .cond (rng c.tr 0 31) (.eq (.pointer (some ⟨g, 2, none⟩))), .cond (rng c.tr 0 31) (.eq (.int .i64 c.firm)), .cond (rng c.tr 0 31) (.eq (.bool (rng c.firm 0 7))), .eq (.bool ((rng c.tr 0 31) && (rng c.firm 0 7))), .eq (.bool ((rng c.tr 0 31) && (rng c.firm 0 7))), .cond ((rng c.tr 0 31) && (rng c.firm 0 7)) (.eq (.pointer (some ⟨g, 1, none⟩))), .cond ((rng c.tr 0 31) && (rng c.firm 0 7)) (.eq (.int .i64 c.id)), .cond ((rng c.tr 0 31) && (rng c.firm 0 7)) (.eq (.bool (rng c.id 0 1073741824))), .eq (.bool (((rng c.tr 0 31) && (rng c.firm 0 7)) && (rng c.id 0 1073741824)))] rfl (by kernel_rfl) ?_ ?_
  · refine fsteps_cons 1 rfl (fun a u hE hD hk => f_val (o := ⟨some 3, _, _, _, _, _⟩) (.pointer (some ⟨g, 0, none⟩)) rfl (wanted_none rfl _) (exec_fld 23 0 0 (.tmp 1) (g) rfl (hE 1 (.pointer (some ⟨g, 0, none⟩)) (by kernel_rfl) (by kernel_rfl)) (by kernel_rfl)) rfl) ?_
    refine fsteps_cons 2 rfl (fun a u hE hD hk => f_val (o := ⟨some 4, _, _, _, _, _⟩) (.int .i64 c.tr) rfl (wanted_none rfl _) (exec_loadi 3 Try.underlying3 (.tmp 3) ⟨g, 0, none⟩ (.int .i64 c.tr) rfl (hD 0 3 (by kernel_rfl)) ((HB0.out.kept hk).fld 0 _ rfl)) rfl) ?_
    refine fsteps_cons 3 rfl (fun a u hE hD hk => f_call (o := ⟨some 5, _, _, _, _, _⟩) 27 #[.int .i64 c.tr, .int .i64 0, .int .i64 31] rfl (wanted_none rfl _) (exec_call 27 _ [.tmp 4, .const (.int .i64 0), .const (.int .i64 31)] _ [.int .i64 c.tr, .int .i64 0, .int .i64 31] Try.func27 (by kernel_rfl) (by kernel_rfl) rfl (show [a.eval (.tmp 4), a.eval (.const (.int .i64 0)), a.eval (.const (.int .i64 31))] = [.int .i64 c.tr, .int .i64 0, .int .i64 31] from (by rw [show a.eval (.tmp 4) = .int .i64 c.tr from (hD 1 4 (by kernel_rfl))] <;> rfl)) u) (owithin_any _ _ _ u)) ?_
    refine fsteps_cons 4 rfl (fun a u hE hD hk => f_val (o := ⟨some 6, _, _, _, _, _⟩) (.bool (rng c.tr 0 31)) rfl (wanted_none rfl _) (exec_move (.tmp 5) (.bool (rng c.tr 0 31)) rfl (hD 2 5 (by kernel_rfl))) rfl) ?_
    refine fsteps_cons 5 rfl (fun a u hE hD hk => f_if ((rng c.tr 0 31)) rfl rfl rfl (hD 3 6 (by kernel_rfl)) (fun hb => f_val (o := ⟨some 7, _, _, _, _, _⟩) (.pointer (some ⟨g, 2, none⟩)) rfl (wanted_b rfl rfl (hD 3 6 (by kernel_rfl)) (eq_true_of hb)) (exec_fld 23 2 2 (.tmp 1) (g) rfl (hE 1 (.pointer (some ⟨g, 0, none⟩)) (by kernel_rfl) (by kernel_rfl)) (by kernel_rfl)) rfl)) ?_
    refine fsteps_cons 6 rfl (fun a u hE hD hk => f_if ((rng c.tr 0 31)) rfl rfl rfl (hD 3 6 (by kernel_rfl)) (fun hb => f_val (o := ⟨some 8, _, _, _, _, _⟩) (.int .i64 c.firm) rfl (wanted_b rfl rfl (hD 3 6 (by kernel_rfl)) (eq_true_of hb)) (exec_loadi 3 Try.underlying3 (.tmp 7) ⟨g, 2, none⟩ (.int .i64 c.firm) rfl ((hD 4 7 (by kernel_rfl)).1 hb) ((HB0.out.kept hk).fld 2 _ rfl)) rfl)) ?_
    refine fsteps_cons 7 rfl (fun a u hE hD hk => f_if ((rng c.tr 0 31)) rfl rfl rfl (hD 3 6 (by kernel_rfl)) (fun hb => f_call (o := ⟨some 9, _, _, _, _, _⟩) 27 #[.int .i64 c.firm, .int .i64 0, .int .i64 7] rfl (wanted_b rfl rfl (hD 3 6 (by kernel_rfl)) (eq_true_of hb)) (exec_call 27 _ [.tmp 8, .const (.int .i64 0), .const (.int .i64 7)] _ [.int .i64 c.firm, .int .i64 0, .int .i64 7] Try.func27 (by kernel_rfl) (by kernel_rfl) rfl (show [a.eval (.tmp 8), a.eval (.const (.int .i64 0)), a.eval (.const (.int .i64 7))] = [.int .i64 c.firm, .int .i64 0, .int .i64 7] from (by rw [show a.eval (.tmp 8) = .int .i64 c.firm from ((hD 5 8 (by kernel_rfl)).1 hb)] <;> rfl)) u) (owithin_any _ _ _ u))) ?_
    refine fsteps_cons 8 rfl (fun a u hE hD hk => f_val (o := ⟨some 10, _, _, _, _, _⟩) (.bool ((rng c.tr 0 31) && (rng c.firm 0 7))) rfl (wanted_none rfl _) (exec_pickand (.tmp 6) (.tmp 9) (.const (.bool false)) ((rng c.tr 0 31)) ((rng c.firm 0 7)) rfl (hD 3 6 (by kernel_rfl)) (fun hb2 => ((hD 6 9 (by kernel_rfl)).1 hb2)) rfl) rfl) ?_
    refine fsteps_cons 9 rfl (fun a u hE hD hk => f_val (o := ⟨some 11, _, _, _, _, _⟩) (.bool ((rng c.tr 0 31) && (rng c.firm 0 7))) rfl (wanted_none rfl _) (exec_move (.tmp 10) (.bool ((rng c.tr 0 31) && (rng c.firm 0 7))) rfl (hD 7 10 (by kernel_rfl))) rfl) ?_
    refine fsteps_cons 10 rfl (fun a u hE hD hk => f_if (((rng c.tr 0 31) && (rng c.firm 0 7))) rfl rfl rfl (hD 8 11 (by kernel_rfl)) (fun hb => f_val (o := ⟨some 12, _, _, _, _, _⟩) (.pointer (some ⟨g, 1, none⟩)) rfl (wanted_b rfl rfl (hD 8 11 (by kernel_rfl)) (eq_true_of hb)) (exec_fld 23 1 1 (.tmp 1) (g) rfl (hE 1 (.pointer (some ⟨g, 0, none⟩)) (by kernel_rfl) (by kernel_rfl)) (by kernel_rfl)) rfl)) ?_
    refine fsteps_cons 11 rfl (fun a u hE hD hk => f_if (((rng c.tr 0 31) && (rng c.firm 0 7))) rfl rfl rfl (hD 8 11 (by kernel_rfl)) (fun hb => f_val (o := ⟨some 13, _, _, _, _, _⟩) (.int .i64 c.id) rfl (wanted_b rfl rfl (hD 8 11 (by kernel_rfl)) (eq_true_of hb)) (exec_loadi 3 Try.underlying3 (.tmp 12) ⟨g, 1, none⟩ (.int .i64 c.id) rfl ((hD 9 12 (by kernel_rfl)).1 hb) ((HB0.out.kept hk).fld 1 _ rfl)) rfl)) ?_
    refine fsteps_cons 12 rfl (fun a u hE hD hk => f_if (((rng c.tr 0 31) && (rng c.firm 0 7))) rfl rfl rfl (hD 8 11 (by kernel_rfl)) (fun hb => f_call (o := ⟨some 14, _, _, _, _, _⟩) 27 #[.int .i64 c.id, .int .i64 0, .int .i64 1073741824] rfl (wanted_b rfl rfl (hD 8 11 (by kernel_rfl)) (eq_true_of hb)) (exec_call 27 _ [.tmp 13, .const (.int .i64 0), .const (.int .i64 1073741824)] _ [.int .i64 c.id, .int .i64 0, .int .i64 1073741824] Try.func27 (by kernel_rfl) (by kernel_rfl) rfl (show [a.eval (.tmp 13), a.eval (.const (.int .i64 0)), a.eval (.const (.int .i64 1073741824))] = [.int .i64 c.id, .int .i64 0, .int .i64 1073741824] from (by rw [show a.eval (.tmp 13) = .int .i64 c.id from ((hD 10 13 (by kernel_rfl)).1 hb)] <;> rfl)) u) (owithin_any _ _ _ u))) ?_
    refine fsteps_cons 13 rfl (fun a u hE hD hk => f_val (o := ⟨some 15, _, _, _, _, _⟩) (.bool (((rng c.tr 0 31) && (rng c.firm 0 7)) && (rng c.id 0 1073741824))) rfl (wanted_none rfl _) (exec_pickand (.tmp 11) (.tmp 14) (.const (.bool false)) (((rng c.tr 0 31) && (rng c.firm 0 7))) ((rng c.id 0 1073741824)) rfl (hD 8 11 (by kernel_rfl)) (fun hb2 => ((hD 11 14 (by kernel_rfl)).1 hb2)) rfl) rfl) ?_
    exact fsteps_nil
  intro gv w1 hV k1
  rw [show dstsOf _ 13 = [3, 4, 5, 6, 7, 8, 9, 10, 11, 12, 13, 14, 15] by kernel_rfl]
  simp only [List.foldl_cons, List.foldl_nil, List.setIfInBounds_toArray, List.set_cons_succ, List.set_cons_zero, List.drop_succ_cons, List.drop_zero]
  rw [show gv 15 = .bool (((rng c.tr 0 31) && (rng c.firm 0 7)) && (rng c.id 0 1073741824)) from hV 12 15 (by kernel_rfl)]
  clear hV
  go_wp2
  go_ret
  exact ⟨_, rfl, rfl, kw0.trans k1⟩

set_option maxRecDepth 100000 in
set_option maxHeartbeats 800000 in
theorem isOfApi_any (c : Ord) (w : World) : Gives 21 #[c.v] w (.eq (.bool c.ofApi)) := by
  unfold Gives Ord.v
  have HT : Hid True := trivial
  have HB0 : Hid (Blk (w.alloc (.cells c.cells.toArray 23)) w.heap.size 23 c.cells) := Blk.new w _ _
  have kw0 : Kept w (w.alloc (.cells c.cells.toArray 23)) := (Keep.refl _ w).alloc _
  go_enter Try.func21, Try.ntmps21
  go_upto_region 1 with fail
  generalize w.alloc (.cells c.cells.toArray 23) = w0 at HB0 kw0 ⊢
  generalize w.heap.size = g at HB0 ⊢
  refine wp_text 8 [.eq (.pointer (some ⟨g, 3, none⟩)), .eq (.int .i64 c.side), .eq (.bool (rng c.side 1 2)), .eq (.bool (rng c.side 1 2)), .cond (rng c.side 1 2) (.eq (.pointer (some ⟨g, 4, none⟩))), .cond (rng c.side 1 2) (.eq (.int .i64 c.k)), .cond (rng c.side 1 2) (.eq (.bool (rng c.k 1 5))), .eq (.bool ((rng c.side 1 2) && (rng c.k 1 5)))] rfl (by kernel_rfl) ?_ ?_
  · refine fsteps_cons 1 rfl (fun a u hE hD hk => f_val (o := ⟨some 3, _, _, _, _, _⟩) (.pointer (some ⟨g, 3, none⟩)) rfl (wanted_none rfl _) (exec_fld 23 3 3 (.tmp 1) (g) rfl (hE 1 (.pointer (some ⟨g, 0, none⟩)) (by kernel_rfl) (by kernel_rfl)) (by kernel_rfl)) rfl) ?_
    refine fsteps_cons 2 rfl (fun a u hE hD hk => f_val (o := ⟨some 4, _, _, _, _, _⟩) (.int .i64 c.side) rfl (wanted_none rfl _) (exec_loadi 3 Try.underlying3 (.tmp 3) ⟨g, 3, none⟩ (.int .i64 c.side) rfl (hD 0 3 (by kernel_rfl)) ((HB0.out.kept hk).fld 3 _ rfl)) rfl) ?_
    refine fsteps_cons 3 rfl (fun a u hE hD hk => f_call (o := ⟨some 5, _, _, _, _, _⟩) 27 #[.int .i64 c.side, .int .i64 1, .int .i64 2] rfl (wanted_none rfl _) (exec_call 27 _ [.tmp 4, .const (.int .i64 1), .const (.int .i64 2)] _ [.int .i64 c.side, .int .i64 1, .int .i64 2] Try.func27 (by kernel_rfl) (by kernel_rfl) rfl (show [a.eval (.tmp 4), a.eval (.const (.int .i64 1)), a.eval (.const (.int .i64 2))] = [.int .i64 c.side, .int .i64 1, .int .i64 2] from (by rw [show a.eval (.tmp 4) = .int .i64 c.side from (hD 1 4 (by kernel_rfl))] <;> rfl)) u) (owithin_any _ _ _ u)) ?_
    refine fsteps_cons 4 rfl (fun a u hE hD hk => f_val (o := ⟨some 6, _, _, _, _, _⟩) (.bool (rng c.side 1 2)) rfl (wanted_none rfl _) (exec_move (.tmp 5) (.bool (rng c.side 1 2)) rfl (hD 2 5 (by kernel_rfl))) rfl) ?_
    refine fsteps_cons 5 rfl (fun a u hE hD hk => f_if ((rng c.side 1 2)) rfl rfl rfl (hD 3 6 (by kernel_rfl)) (fun hb => f_val (o := ⟨some 7, _, _, _, _, _⟩) (.pointer (some ⟨g, 4, none⟩)) rfl (wanted_b rfl rfl (hD 3 6 (by kernel_rfl)) (eq_true_of hb)) (exec_fld 23 4 4 (.tmp 1) (g) rfl (hE 1 (.pointer (some ⟨g, 0, none⟩)) (by kernel_rfl) (by kernel_rfl)) (by kernel_rfl)) rfl)) ?_
    refine fsteps_cons 6 rfl (fun a u hE hD hk => f_if ((rng c.side 1 2)) rfl rfl rfl (hD 3 6 (by kernel_rfl)) (fun hb => f_val (o := ⟨some 8, _, _, _, _, _⟩) (.int .i64 c.k) rfl (wanted_b rfl rfl (hD 3 6 (by kernel_rfl)) (eq_true_of hb)) (exec_loadi 3 Try.underlying3 (.tmp 7) ⟨g, 4, none⟩ (.int .i64 c.k) rfl ((hD 4 7 (by kernel_rfl)).1 hb) ((HB0.out.kept hk).fld 4 _ rfl)) rfl)) ?_
    refine fsteps_cons 7 rfl (fun a u hE hD hk => f_if ((rng c.side 1 2)) rfl rfl rfl (hD 3 6 (by kernel_rfl)) (fun hb => f_call (o := ⟨some 9, _, _, _, _, _⟩) 27 #[.int .i64 c.k, .int .i64 1, .int .i64 5] rfl (wanted_b rfl rfl (hD 3 6 (by kernel_rfl)) (eq_true_of hb)) (exec_call 27 _ [.tmp 8, .const (.int .i64 1), .const (.int .i64 5)] _ [.int .i64 c.k, .int .i64 1, .int .i64 5] Try.func27 (by kernel_rfl) (by kernel_rfl) rfl (show [a.eval (.tmp 8), a.eval (.const (.int .i64 1)), a.eval (.const (.int .i64 5))] = [.int .i64 c.k, .int .i64 1, .int .i64 5] from (by rw [show a.eval (.tmp 8) = .int .i64 c.k from ((hD 5 8 (by kernel_rfl)).1 hb)] <;> rfl)) u) (owithin_any _ _ _ u))) ?_
    refine fsteps_cons 8 rfl (fun a u hE hD hk => f_val (o := ⟨some 10, _, _, _, _, _⟩) (.bool ((rng c.side 1 2) && (rng c.k 1 5))) rfl (wanted_none rfl _) (exec_pickand (.tmp 6) (.tmp 9) (.const (.bool false)) ((rng c.side 1 2)) ((rng c.k 1 5)) rfl (hD 3 6 (by kernel_rfl)) (fun hb2 => ((hD 6 9 (by kernel_rfl)).1 hb2)) rfl) rfl) ?_
    exact fsteps_nil
  intro gv w1 hV k1
  rw [show dstsOf _ 8 = [3, 4, 5, 6, 7, 8, 9, 10] by kernel_rfl]
  simp only [List.foldl_cons, List.foldl_nil, List.setIfInBounds_toArray, List.set_cons_succ, List.set_cons_zero, List.drop_succ_cons, List.drop_zero]
  rw [show gv 10 = .bool ((rng c.side 1 2) && (rng c.k 1 5)) from hV 7 10 (by kernel_rfl)]
  clear hV
  go_wp2
  go_ret
  exact ⟨_, rfl, rfl, kw0.trans k1⟩

set_option maxRecDepth 100000 in
set_option maxHeartbeats 800000 in
theorem mostShown_t (c : Ord) (hb1 : (decide (c.k = 1) || decide (c.k = 5)) = true) (w : World) : Gives 28 #[c.v] w (.eq (.int .i64 c.qty)) := by
  unfold Gives Ord.v
  have HT : Hid True := trivial
  have HB0 : Hid (Blk (w.alloc (.cells c.cells.toArray 23)) w.heap.size 23 c.cells) := Blk.new w _ _
  have kw0 : Kept w (w.alloc (.cells c.cells.toArray 23)) := (Keep.refl _ w).alloc _
  go_enter Try.func28, Try.ntmps28
  go_upto_region 1 with fail
  generalize w.alloc (.cells c.cells.toArray 23) = w0 at HB0 kw0 ⊢
  generalize w.heap.size = g at HB0 ⊢
  refine wp_text 8 [.eq (.pointer (some ⟨g, 4, none⟩)), .eq (.int .i64 c.k), .eq (.bool (decide ((c.k : Int) = (1 : Int)))), .eq (.bool (decide ((c.k : Int) = (1 : Int)))), .cond (!(decide ((c.k : Int) = (1 : Int)))) (.eq (.pointer (some ⟨g, 4, none⟩))), .cond (!(decide ((c.k : Int) = (1 : Int)))) (.eq (.int .i64 c.k)), .cond (!(decide ((c.k : Int) = (1 : Int)))) (.eq (.bool (decide ((c.k : Int) = (5 : Int))))), .eq (.bool true)] rfl (by kernel_rfl) ?_ ?_
  · refine fsteps_cons 1 rfl (fun a u hE hD hk => f_val (o := ⟨some 3, _, _, _, _, _⟩) (.pointer (some ⟨g, 4, none⟩)) rfl (wanted_none rfl _) (exec_fld 23 4 4 (.tmp 1) (g) rfl (hE 1 (.pointer (some ⟨g, 0, none⟩)) (by kernel_rfl) (by kernel_rfl)) (by kernel_rfl)) rfl) ?_
    refine fsteps_cons 2 rfl (fun a u hE hD hk => f_val (o := ⟨some 4, _, _, _, _, _⟩) (.int .i64 c.k) rfl (wanted_none rfl _) (exec_loadi 3 Try.underlying3 (.tmp 3) ⟨g, 4, none⟩ (.int .i64 c.k) rfl (hD 0 3 (by kernel_rfl)) ((HB0.out.kept hk).fld 4 _ rfl)) rfl) ?_
    refine fsteps_cons 3 rfl (fun a u hE hD hk => f_val (o := ⟨some 5, _, _, _, _, _⟩) (.bool (decide ((c.k : Int) = (1 : Int)))) rfl (wanted_none rfl _) (exec_eqn (p := c.k) (q := 1) rfl (hD 1 4 (by kernel_rfl)) rfl) rfl) ?_
    refine fsteps_cons 4 rfl (fun a u hE hD hk => f_val (o := ⟨some 6, _, _, _, _, _⟩) (.bool (decide ((c.k : Int) = (1 : Int)))) rfl (wanted_none rfl _) (exec_move (.tmp 5) (.bool (decide ((c.k : Int) = (1 : Int)))) rfl (hD 2 5 (by kernel_rfl))) rfl) ?_
    refine fsteps_cons 5 rfl (fun a u hE hD hk => f_unless ((decide ((c.k : Int) = (1 : Int)))) rfl rfl rfl (hD 3 6 (by kernel_rfl)) (fun hb => f_val (o := ⟨some 7, _, _, _, _, _⟩) (.pointer (some ⟨g, 4, none⟩)) rfl (wanted_b rfl rfl (hD 3 6 (by kernel_rfl)) (eq_false_of hb)) (exec_fld 23 4 4 (.tmp 1) (g) rfl (hE 1 (.pointer (some ⟨g, 0, none⟩)) (by kernel_rfl) (by kernel_rfl)) (by kernel_rfl)) rfl)) ?_
    refine fsteps_cons 6 rfl (fun a u hE hD hk => f_unless ((decide ((c.k : Int) = (1 : Int)))) rfl rfl rfl (hD 3 6 (by kernel_rfl)) (fun hb => f_val (o := ⟨some 8, _, _, _, _, _⟩) (.int .i64 c.k) rfl (wanted_b rfl rfl (hD 3 6 (by kernel_rfl)) (eq_false_of hb)) (exec_loadi 3 Try.underlying3 (.tmp 7) ⟨g, 4, none⟩ (.int .i64 c.k) rfl ((hD 4 7 (by kernel_rfl)).1 hb) ((HB0.out.kept hk).fld 4 _ rfl)) rfl)) ?_
    refine fsteps_cons 7 rfl (fun a u hE hD hk => f_unless ((decide ((c.k : Int) = (1 : Int)))) rfl rfl rfl (hD 3 6 (by kernel_rfl)) (fun hb => f_val (o := ⟨some 9, _, _, _, _, _⟩) (.bool (decide ((c.k : Int) = (5 : Int)))) rfl (wanted_b rfl rfl (hD 3 6 (by kernel_rfl)) (eq_false_of hb)) (exec_eqn (p := c.k) (q := 5) rfl ((hD 5 8 (by kernel_rfl)).1 hb) rfl) rfl)) ?_
    refine fsteps_cons 8 rfl (fun a u hE hD hk => f_as (show (((decide ((c.k : Int) = (1 : Int))) || (decide ((c.k : Int) = (5 : Int)))) : Bool) = true from hb1) (f_val (o := ⟨some 10, _, _, _, _, _⟩) (.bool ((decide ((c.k : Int) = (1 : Int))) || (decide ((c.k : Int) = (5 : Int))))) rfl (wanted_none rfl _) (exec_pickor (.tmp 6) (.const (.bool true)) (.tmp 9) ((decide ((c.k : Int) = (1 : Int)))) ((decide ((c.k : Int) = (5 : Int)))) rfl (hD 3 6 (by kernel_rfl)) rfl (fun hb2 => ((hD 6 9 (by kernel_rfl)).1 hb2))) rfl)) ?_
    exact fsteps_nil
  intro gv w1 hV k1
  rw [show dstsOf _ 8 = [3, 4, 5, 6, 7, 8, 9, 10] by kernel_rfl]
  simp only [List.foldl_cons, List.foldl_nil, List.setIfInBounds_toArray, List.set_cons_succ, List.set_cons_zero, List.drop_succ_cons, List.drop_zero]
  rw [show gv 10 = .bool true from hV 7 10 (by kernel_rfl)]
  clear hV
  refine wpList_nil ?_
  have HB1 := Lib.hid (HB0.out.kept k1)
  have kw1 := kw0.trans k1
  clear k1 kw0
  go_upto_region 2 with fail
  refine wp_text 2 [.eq (.pointer (some ⟨g, 6, none⟩)), .eq (.int .i64 c.qty)] rfl (by kernel_rfl) ?_ ?_
  · refine fsteps_cons 1 rfl (fun a u hE hD hk => f_val (o := ⟨some 11, _, _, _, _, _⟩) (.pointer (some ⟨g, 6, none⟩)) rfl (wanted_none rfl _) (exec_fld 23 6 6 (.tmp 1) (g) rfl (hE 1 (.pointer (some ⟨g, 0, none⟩)) (by kernel_rfl) (by kernel_rfl)) (by kernel_rfl)) rfl) ?_
    refine fsteps_cons 2 rfl (fun a u hE hD hk => f_val (o := ⟨some 12, _, _, _, _, _⟩) (.int .i64 c.qty) rfl (wanted_none rfl _) (exec_loadi 3 Try.underlying3 (.tmp 11) ⟨g, 6, none⟩ (.int .i64 c.qty) rfl (hD 0 11 (by kernel_rfl)) ((HB1.out.kept hk).fld 6 _ rfl)) rfl) ?_
    exact fsteps_nil
  intro gv w2 hV k2
  rw [show dstsOf _ 2 = [11, 12] by kernel_rfl]
  simp only [List.foldl_cons, List.foldl_nil, List.setIfInBounds_toArray, List.set_cons_succ, List.set_cons_zero, List.drop_succ_cons, List.drop_zero]
  rw [show gv 12 = .int .i64 c.qty from hV 1 12 (by kernel_rfl)]
  clear hV
  have HB2 := Lib.hid (HB1.out.kept k2)
  have kw2 := kw1.trans k2
  clear k2 kw1
  go_wp2
  go_ret
  exact ⟨_, rfl, rfl, kw2⟩

set_option maxRecDepth 100000 in
set_option maxHeartbeats 800000 in
theorem mostShown_f (c : Ord) (hb1 : (decide (c.k = 1) || decide (c.k = 5)) = false) (w : World) : Gives 28 #[c.v] w (.eq (.int .i64 0)) := by
  unfold Gives Ord.v
  have HT : Hid True := trivial
  have HB0 : Hid (Blk (w.alloc (.cells c.cells.toArray 23)) w.heap.size 23 c.cells) := Blk.new w _ _
  have kw0 : Kept w (w.alloc (.cells c.cells.toArray 23)) := (Keep.refl _ w).alloc _
  go_enter Try.func28, Try.ntmps28
  go_upto_region 1 with fail
  generalize w.alloc (.cells c.cells.toArray 23) = w0 at HB0 kw0 ⊢
  generalize w.heap.size = g at HB0 ⊢
  refine wp_text 8 [.eq (.pointer (some ⟨g, 4, none⟩)), .eq (.int .i64 c.k), .eq (.bool (decide ((c.k : Int) = (1 : Int)))), .eq (.bool (decide ((c.k : Int) = (1 : Int)))), .cond (!(decide ((c.k : Int) = (1 : Int)))) (.eq (.pointer (some ⟨g, 4, none⟩))), .cond (!(decide ((c.k : Int) = (1 : Int)))) (.eq (.int .i64 c.k)), .cond (!(decide ((c.k : Int) = (1 : Int)))) (.eq (.bool (decide ((c.k : Int) = (5 : Int))))), .eq (.bool false)] rfl (by kernel_rfl) ?_ ?_
  · refine fsteps_cons 1 rfl (fun a u hE hD hk => f_val (o := ⟨some 3, _, _, _, _, _⟩) (.pointer (some ⟨g, 4, none⟩)) rfl (wanted_none rfl _) (exec_fld 23 4 4 (.tmp 1) (g) rfl (hE 1 (.pointer (some ⟨g, 0, none⟩)) (by kernel_rfl) (by kernel_rfl)) (by kernel_rfl)) rfl) ?_
    refine fsteps_cons 2 rfl (fun a u hE hD hk => f_val (o := ⟨some 4, _, _, _, _, _⟩) (.int .i64 c.k) rfl (wanted_none rfl _) (exec_loadi 3 Try.underlying3 (.tmp 3) ⟨g, 4, none⟩ (.int .i64 c.k) rfl (hD 0 3 (by kernel_rfl)) ((HB0.out.kept hk).fld 4 _ rfl)) rfl) ?_
    refine fsteps_cons 3 rfl (fun a u hE hD hk => f_val (o := ⟨some 5, _, _, _, _, _⟩) (.bool (decide ((c.k : Int) = (1 : Int)))) rfl (wanted_none rfl _) (exec_eqn (p := c.k) (q := 1) rfl (hD 1 4 (by kernel_rfl)) rfl) rfl) ?_
    refine fsteps_cons 4 rfl (fun a u hE hD hk => f_val (o := ⟨some 6, _, _, _, _, _⟩) (.bool (decide ((c.k : Int) = (1 : Int)))) rfl (wanted_none rfl _) (exec_move (.tmp 5) (.bool (decide ((c.k : Int) = (1 : Int)))) rfl (hD 2 5 (by kernel_rfl))) rfl) ?_
    refine fsteps_cons 5 rfl (fun a u hE hD hk => f_unless ((decide ((c.k : Int) = (1 : Int)))) rfl rfl rfl (hD 3 6 (by kernel_rfl)) (fun hb => f_val (o := ⟨some 7, _, _, _, _, _⟩) (.pointer (some ⟨g, 4, none⟩)) rfl (wanted_b rfl rfl (hD 3 6 (by kernel_rfl)) (eq_false_of hb)) (exec_fld 23 4 4 (.tmp 1) (g) rfl (hE 1 (.pointer (some ⟨g, 0, none⟩)) (by kernel_rfl) (by kernel_rfl)) (by kernel_rfl)) rfl)) ?_
    refine fsteps_cons 6 rfl (fun a u hE hD hk => f_unless ((decide ((c.k : Int) = (1 : Int)))) rfl rfl rfl (hD 3 6 (by kernel_rfl)) (fun hb => f_val (o := ⟨some 8, _, _, _, _, _⟩) (.int .i64 c.k) rfl (wanted_b rfl rfl (hD 3 6 (by kernel_rfl)) (eq_false_of hb)) (exec_loadi 3 Try.underlying3 (.tmp 7) ⟨g, 4, none⟩ (.int .i64 c.k) rfl ((hD 4 7 (by kernel_rfl)).1 hb) ((HB0.out.kept hk).fld 4 _ rfl)) rfl)) ?_
    refine fsteps_cons 7 rfl (fun a u hE hD hk => f_unless ((decide ((c.k : Int) = (1 : Int)))) rfl rfl rfl (hD 3 6 (by kernel_rfl)) (fun hb => f_val (o := ⟨some 9, _, _, _, _, _⟩) (.bool (decide ((c.k : Int) = (5 : Int)))) rfl (wanted_b rfl rfl (hD 3 6 (by kernel_rfl)) (eq_false_of hb)) (exec_eqn (p := c.k) (q := 5) rfl ((hD 5 8 (by kernel_rfl)).1 hb) rfl) rfl)) ?_
    refine fsteps_cons 8 rfl (fun a u hE hD hk => f_as (show (((decide ((c.k : Int) = (1 : Int))) || (decide ((c.k : Int) = (5 : Int)))) : Bool) = false from hb1) (f_val (o := ⟨some 10, _, _, _, _, _⟩) (.bool ((decide ((c.k : Int) = (1 : Int))) || (decide ((c.k : Int) = (5 : Int))))) rfl (wanted_none rfl _) (exec_pickor (.tmp 6) (.const (.bool true)) (.tmp 9) ((decide ((c.k : Int) = (1 : Int)))) ((decide ((c.k : Int) = (5 : Int)))) rfl (hD 3 6 (by kernel_rfl)) rfl (fun hb2 => ((hD 6 9 (by kernel_rfl)).1 hb2))) rfl)) ?_
    exact fsteps_nil
  intro gv w1 hV k1
  rw [show dstsOf _ 8 = [3, 4, 5, 6, 7, 8, 9, 10] by kernel_rfl]
  simp only [List.foldl_cons, List.foldl_nil, List.setIfInBounds_toArray, List.set_cons_succ, List.set_cons_zero, List.drop_succ_cons, List.drop_zero]
  rw [show gv 10 = .bool false from hV 7 10 (by kernel_rfl)]
  clear hV
  refine wpList_nil ?_
  have HB1 := Lib.hid (HB0.out.kept k1)
  have kw1 := kw0.trans k1
  clear k1 kw0
  go_wp2
  go_ret
  exact ⟨_, rfl, rfl, kw1⟩

theorem mostShown_any (c : Ord) (w : World) : Gives 28 #[c.v] w (.eq (.int .i64 c.shown)) := by
  unfold Ord.shown
  by_cases h : c.k = 1 ∨ c.k = 5
  · rw [if_pos h]
    exact mostShown_t c (by simpa using h) w
  · rw [if_neg h]
    exact mostShown_f c (by simpa using h) w

set_option maxRecDepth 100000 in
set_option maxHeartbeats 800000 in
theorem hasPrices_s (c : Ord) (hS : rng c.stop 0 1048576 = false) (w : World) : Gives 22 #[c.v] w (.eq (.bool false)) := by
  unfold Gives Ord.v
  have HT : Hid True := trivial
  have HB0 : Hid (Blk (w.alloc (.cells c.cells.toArray 23)) w.heap.size 23 c.cells) := Blk.new w _ _
  have kw0 : Kept w (w.alloc (.cells c.cells.toArray 23)) := (Keep.refl _ w).alloc _
  go_enter Try.func22, Try.ntmps22
  go_upto_region 1 with fail
  generalize w.alloc (.cells c.cells.toArray 23) = w0 at HB0 kw0 ⊢
  generalize w.heap.size = g at HB0 ⊢
  refine wp_text 4 [.eq (.pointer (some ⟨g, 8, none⟩)), .eq (.int .i64 c.stop), .eq (.bool (rng c.stop 0 1048576)), .eq (.bool true)] rfl (by kernel_rfl) ?_ ?_
  · refine fsteps_cons 1 rfl (fun a u hE hD hk => f_val (o := ⟨some 3, _, _, _, _, _⟩) (.pointer (some ⟨g, 8, none⟩)) rfl (wanted_none rfl _) (exec_fld 23 8 8 (.tmp 1) (g) rfl (hE 1 (.pointer (some ⟨g, 0, none⟩)) (by kernel_rfl) (by kernel_rfl)) (by kernel_rfl)) rfl) ?_
    refine fsteps_cons 2 rfl (fun a u hE hD hk => f_val (o := ⟨some 4, _, _, _, _, _⟩) (.int .i64 c.stop) rfl (wanted_none rfl _) (exec_loadi 3 Try.underlying3 (.tmp 3) ⟨g, 8, none⟩ (.int .i64 c.stop) rfl (hD 0 3 (by kernel_rfl)) ((HB0.out.kept hk).fld 8 _ rfl)) rfl) ?_
    refine fsteps_cons 3 rfl (fun a u hE hD hk => f_call (o := ⟨some 5, _, _, _, _, _⟩) 27 #[.int .i64 c.stop, .int .i64 0, .int .i64 1048576] rfl (wanted_none rfl _) (exec_call 27 _ [.tmp 4, .const (.int .i64 0), .const (.int .i64 1048576)] _ [.int .i64 c.stop, .int .i64 0, .int .i64 1048576] Try.func27 (by kernel_rfl) (by kernel_rfl) rfl (show [a.eval (.tmp 4), a.eval (.const (.int .i64 0)), a.eval (.const (.int .i64 1048576))] = [.int .i64 c.stop, .int .i64 0, .int .i64 1048576] from (by rw [show a.eval (.tmp 4) = .int .i64 c.stop from (hD 1 4 (by kernel_rfl))] <;> rfl)) u) (owithin_any _ _ _ u)) ?_
    refine fsteps_cons 4 rfl (fun a u hE hD hk => f_as (show ((!(rng c.stop 0 1048576)) : Bool) = true from (by rw [hS]; rfl)) (f_val (o := ⟨some 6, _, _, _, _, _⟩) (.bool (!(rng c.stop 0 1048576))) rfl (wanted_none rfl _) (exec_not _ (.tmp 5) (rng c.stop 0 1048576) rfl (hD 2 5 (by kernel_rfl))) rfl)) ?_
    exact fsteps_nil
  intro gv w1 hV k1
  rw [show dstsOf _ 4 = [3, 4, 5, 6] by kernel_rfl]
  simp only [List.foldl_cons, List.foldl_nil, List.setIfInBounds_toArray, List.set_cons_succ, List.set_cons_zero, List.drop_succ_cons, List.drop_zero]
  rw [show gv 6 = .bool true from hV 3 6 (by kernel_rfl)]
  clear hV
  refine wpList_nil ?_
  have HB1 := Lib.hid (HB0.out.kept k1)
  have kw1 := kw0.trans k1
  clear k1 kw0
  go_wp2
  go_ret
  exact ⟨_, rfl, rfl, kw1⟩

set_option maxRecDepth 100000 in
set_option maxHeartbeats 800000 in
theorem hasPrices_m (c : Ord) (hS : rng c.stop 0 1048576 = true) (hK : decide (c.k = 2) = true) (w : World) : Gives 22 #[c.v] w (.eq (.bool (decide (c.price = 0)))) := by
  unfold Gives Ord.v
  have HT : Hid True := trivial
  have HB0 : Hid (Blk (w.alloc (.cells c.cells.toArray 23)) w.heap.size 23 c.cells) := Blk.new w _ _
  have kw0 : Kept w (w.alloc (.cells c.cells.toArray 23)) := (Keep.refl _ w).alloc _
  go_enter Try.func22, Try.ntmps22
  go_upto_region 1 with fail
  generalize w.alloc (.cells c.cells.toArray 23) = w0 at HB0 kw0 ⊢
  generalize w.heap.size = g at HB0 ⊢
  refine wp_text 4 [.eq (.pointer (some ⟨g, 8, none⟩)), .eq (.int .i64 c.stop), .eq (.bool (rng c.stop 0 1048576)), .eq (.bool false)] rfl (by kernel_rfl) ?_ ?_
  · refine fsteps_cons 1 rfl (fun a u hE hD hk => f_val (o := ⟨some 3, _, _, _, _, _⟩) (.pointer (some ⟨g, 8, none⟩)) rfl (wanted_none rfl _) (exec_fld 23 8 8 (.tmp 1) (g) rfl (hE 1 (.pointer (some ⟨g, 0, none⟩)) (by kernel_rfl) (by kernel_rfl)) (by kernel_rfl)) rfl) ?_
    refine fsteps_cons 2 rfl (fun a u hE hD hk => f_val (o := ⟨some 4, _, _, _, _, _⟩) (.int .i64 c.stop) rfl (wanted_none rfl _) (exec_loadi 3 Try.underlying3 (.tmp 3) ⟨g, 8, none⟩ (.int .i64 c.stop) rfl (hD 0 3 (by kernel_rfl)) ((HB0.out.kept hk).fld 8 _ rfl)) rfl) ?_
    refine fsteps_cons 3 rfl (fun a u hE hD hk => f_call (o := ⟨some 5, _, _, _, _, _⟩) 27 #[.int .i64 c.stop, .int .i64 0, .int .i64 1048576] rfl (wanted_none rfl _) (exec_call 27 _ [.tmp 4, .const (.int .i64 0), .const (.int .i64 1048576)] _ [.int .i64 c.stop, .int .i64 0, .int .i64 1048576] Try.func27 (by kernel_rfl) (by kernel_rfl) rfl (show [a.eval (.tmp 4), a.eval (.const (.int .i64 0)), a.eval (.const (.int .i64 1048576))] = [.int .i64 c.stop, .int .i64 0, .int .i64 1048576] from (by rw [show a.eval (.tmp 4) = .int .i64 c.stop from (hD 1 4 (by kernel_rfl))] <;> rfl)) u) (owithin_any _ _ _ u)) ?_
    refine fsteps_cons 4 rfl (fun a u hE hD hk => f_as (show ((!(rng c.stop 0 1048576)) : Bool) = false from (by rw [hS]; rfl)) (f_val (o := ⟨some 6, _, _, _, _, _⟩) (.bool (!(rng c.stop 0 1048576))) rfl (wanted_none rfl _) (exec_not _ (.tmp 5) (rng c.stop 0 1048576) rfl (hD 2 5 (by kernel_rfl))) rfl)) ?_
    exact fsteps_nil
  intro gv w1 hV k1
  rw [show dstsOf _ 4 = [3, 4, 5, 6] by kernel_rfl]
  simp only [List.foldl_cons, List.foldl_nil, List.setIfInBounds_toArray, List.set_cons_succ, List.set_cons_zero, List.drop_succ_cons, List.drop_zero]
  rw [show gv 6 = .bool false from hV 3 6 (by kernel_rfl)]
  clear hV
  refine wpList_nil ?_
  have HB1 := Lib.hid (HB0.out.kept k1)
  have kw1 := kw0.trans k1
  clear k1 kw0
  go_upto_region 3 with fail
  refine wp_text 3 [.eq (.pointer (some ⟨g, 4, none⟩)), .eq (.int .i64 c.k), .eq (.bool true)] rfl (by kernel_rfl) ?_ ?_
  · refine fsteps_cons 1 rfl (fun a u hE hD hk => f_val (o := ⟨some 7, _, _, _, _, _⟩) (.pointer (some ⟨g, 4, none⟩)) rfl (wanted_none rfl _) (exec_fld 23 4 4 (.tmp 1) (g) rfl (hE 1 (.pointer (some ⟨g, 0, none⟩)) (by kernel_rfl) (by kernel_rfl)) (by kernel_rfl)) rfl) ?_
    refine fsteps_cons 2 rfl (fun a u hE hD hk => f_val (o := ⟨some 8, _, _, _, _, _⟩) (.int .i64 c.k) rfl (wanted_none rfl _) (exec_loadi 3 Try.underlying3 (.tmp 7) ⟨g, 4, none⟩ (.int .i64 c.k) rfl (hD 0 7 (by kernel_rfl)) ((HB1.out.kept hk).fld 4 _ rfl)) rfl) ?_
    refine fsteps_cons 3 rfl (fun a u hE hD hk => f_as (show ((decide ((c.k : Int) = (2 : Int))) : Bool) = true from hK) (f_val (o := ⟨some 9, _, _, _, _, _⟩) (.bool (decide ((c.k : Int) = (2 : Int)))) rfl (wanted_none rfl _) (exec_eqn (p := c.k) (q := 2) rfl (hD 1 8 (by kernel_rfl)) rfl) rfl)) ?_
    exact fsteps_nil
  intro gv w2 hV k2
  rw [show dstsOf _ 3 = [7, 8, 9] by kernel_rfl]
  simp only [List.foldl_cons, List.foldl_nil, List.setIfInBounds_toArray, List.set_cons_succ, List.set_cons_zero, List.drop_succ_cons, List.drop_zero]
  rw [show gv 9 = .bool true from hV 2 9 (by kernel_rfl)]
  clear hV
  refine wpList_nil ?_
  have HB2 := Lib.hid (HB1.out.kept k2)
  have kw2 := kw1.trans k2
  clear k2 kw1
  go_upto_region 4 with fail
  refine wp_text 3 [.eq (.pointer (some ⟨g, 5, none⟩)), .eq (.int .i64 c.price), .eq (.bool (decide ((c.price : Int) = (0 : Int))))] rfl (by kernel_rfl) ?_ ?_
  · refine fsteps_cons 1 rfl (fun a u hE hD hk => f_val (o := ⟨some 10, _, _, _, _, _⟩) (.pointer (some ⟨g, 5, none⟩)) rfl (wanted_none rfl _) (exec_fld 23 5 5 (.tmp 1) (g) rfl (hE 1 (.pointer (some ⟨g, 0, none⟩)) (by kernel_rfl) (by kernel_rfl)) (by kernel_rfl)) rfl) ?_
    refine fsteps_cons 2 rfl (fun a u hE hD hk => f_val (o := ⟨some 11, _, _, _, _, _⟩) (.int .i64 c.price) rfl (wanted_none rfl _) (exec_loadi 3 Try.underlying3 (.tmp 10) ⟨g, 5, none⟩ (.int .i64 c.price) rfl (hD 0 10 (by kernel_rfl)) ((HB2.out.kept hk).fld 5 _ rfl)) rfl) ?_
    refine fsteps_cons 3 rfl (fun a u hE hD hk => f_val (o := ⟨some 12, _, _, _, _, _⟩) (.bool (decide ((c.price : Int) = (0 : Int)))) rfl (wanted_none rfl _) (exec_eqn (p := c.price) (q := 0) rfl (hD 1 11 (by kernel_rfl)) rfl) rfl) ?_
    exact fsteps_nil
  intro gv w3 hV k3
  rw [show dstsOf _ 3 = [10, 11, 12] by kernel_rfl]
  simp only [List.foldl_cons, List.foldl_nil, List.setIfInBounds_toArray, List.set_cons_succ, List.set_cons_zero, List.drop_succ_cons, List.drop_zero]
  rw [show gv 12 = .bool (decide ((c.price : Int) = (0 : Int))) from hV 2 12 (by kernel_rfl)]
  clear hV
  have HB3 := Lib.hid (HB2.out.kept k3)
  have kw3 := kw2.trans k3
  clear k3 kw2
  go_wp2
  go_ret
  exact ⟨_, rfl, rfl, kw3⟩

set_option maxRecDepth 100000 in
set_option maxHeartbeats 800000 in
theorem hasPrices_o (c : Ord) (hS : rng c.stop 0 1048576 = true) (hK : decide (c.k = 2) = false) (w : World) : Gives 22 #[c.v] w (.eq (.bool (rng c.price 1 1048576))) := by
  unfold Gives Ord.v
  have HT : Hid True := trivial
  have HB0 : Hid (Blk (w.alloc (.cells c.cells.toArray 23)) w.heap.size 23 c.cells) := Blk.new w _ _
  have kw0 : Kept w (w.alloc (.cells c.cells.toArray 23)) := (Keep.refl _ w).alloc _
  go_enter Try.func22, Try.ntmps22
  go_upto_region 1 with fail
  generalize w.alloc (.cells c.cells.toArray 23) = w0 at HB0 kw0 ⊢
  generalize w.heap.size = g at HB0 ⊢
  refine wp_text 4 [.eq (.pointer (some ⟨g, 8, none⟩)), .eq (.int .i64 c.stop), .eq (.bool (rng c.stop 0 1048576)), .eq (.bool false)] rfl (by kernel_rfl) ?_ ?_
  · refine fsteps_cons 1 rfl (fun a u hE hD hk => f_val (o := ⟨some 3, _, _, _, _, _⟩) (.pointer (some ⟨g, 8, none⟩)) rfl (wanted_none rfl _) (exec_fld 23 8 8 (.tmp 1) (g) rfl (hE 1 (.pointer (some ⟨g, 0, none⟩)) (by kernel_rfl) (by kernel_rfl)) (by kernel_rfl)) rfl) ?_
    refine fsteps_cons 2 rfl (fun a u hE hD hk => f_val (o := ⟨some 4, _, _, _, _, _⟩) (.int .i64 c.stop) rfl (wanted_none rfl _) (exec_loadi 3 Try.underlying3 (.tmp 3) ⟨g, 8, none⟩ (.int .i64 c.stop) rfl (hD 0 3 (by kernel_rfl)) ((HB0.out.kept hk).fld 8 _ rfl)) rfl) ?_
    refine fsteps_cons 3 rfl (fun a u hE hD hk => f_call (o := ⟨some 5, _, _, _, _, _⟩) 27 #[.int .i64 c.stop, .int .i64 0, .int .i64 1048576] rfl (wanted_none rfl _) (exec_call 27 _ [.tmp 4, .const (.int .i64 0), .const (.int .i64 1048576)] _ [.int .i64 c.stop, .int .i64 0, .int .i64 1048576] Try.func27 (by kernel_rfl) (by kernel_rfl) rfl (show [a.eval (.tmp 4), a.eval (.const (.int .i64 0)), a.eval (.const (.int .i64 1048576))] = [.int .i64 c.stop, .int .i64 0, .int .i64 1048576] from (by rw [show a.eval (.tmp 4) = .int .i64 c.stop from (hD 1 4 (by kernel_rfl))] <;> rfl)) u) (owithin_any _ _ _ u)) ?_
    refine fsteps_cons 4 rfl (fun a u hE hD hk => f_as (show ((!(rng c.stop 0 1048576)) : Bool) = false from (by rw [hS]; rfl)) (f_val (o := ⟨some 6, _, _, _, _, _⟩) (.bool (!(rng c.stop 0 1048576))) rfl (wanted_none rfl _) (exec_not _ (.tmp 5) (rng c.stop 0 1048576) rfl (hD 2 5 (by kernel_rfl))) rfl)) ?_
    exact fsteps_nil
  intro gv w1 hV k1
  rw [show dstsOf _ 4 = [3, 4, 5, 6] by kernel_rfl]
  simp only [List.foldl_cons, List.foldl_nil, List.setIfInBounds_toArray, List.set_cons_succ, List.set_cons_zero, List.drop_succ_cons, List.drop_zero]
  rw [show gv 6 = .bool false from hV 3 6 (by kernel_rfl)]
  clear hV
  refine wpList_nil ?_
  have HB1 := Lib.hid (HB0.out.kept k1)
  have kw1 := kw0.trans k1
  clear k1 kw0
  go_upto_region 3 with fail
  refine wp_text 3 [.eq (.pointer (some ⟨g, 4, none⟩)), .eq (.int .i64 c.k), .eq (.bool false)] rfl (by kernel_rfl) ?_ ?_
  · refine fsteps_cons 1 rfl (fun a u hE hD hk => f_val (o := ⟨some 7, _, _, _, _, _⟩) (.pointer (some ⟨g, 4, none⟩)) rfl (wanted_none rfl _) (exec_fld 23 4 4 (.tmp 1) (g) rfl (hE 1 (.pointer (some ⟨g, 0, none⟩)) (by kernel_rfl) (by kernel_rfl)) (by kernel_rfl)) rfl) ?_
    refine fsteps_cons 2 rfl (fun a u hE hD hk => f_val (o := ⟨some 8, _, _, _, _, _⟩) (.int .i64 c.k) rfl (wanted_none rfl _) (exec_loadi 3 Try.underlying3 (.tmp 7) ⟨g, 4, none⟩ (.int .i64 c.k) rfl (hD 0 7 (by kernel_rfl)) ((HB1.out.kept hk).fld 4 _ rfl)) rfl) ?_
    refine fsteps_cons 3 rfl (fun a u hE hD hk => f_as (show ((decide ((c.k : Int) = (2 : Int))) : Bool) = false from hK) (f_val (o := ⟨some 9, _, _, _, _, _⟩) (.bool (decide ((c.k : Int) = (2 : Int)))) rfl (wanted_none rfl _) (exec_eqn (p := c.k) (q := 2) rfl (hD 1 8 (by kernel_rfl)) rfl) rfl)) ?_
    exact fsteps_nil
  intro gv w2 hV k2
  rw [show dstsOf _ 3 = [7, 8, 9] by kernel_rfl]
  simp only [List.foldl_cons, List.foldl_nil, List.setIfInBounds_toArray, List.set_cons_succ, List.set_cons_zero, List.drop_succ_cons, List.drop_zero]
  rw [show gv 9 = .bool false from hV 2 9 (by kernel_rfl)]
  clear hV
  refine wpList_nil ?_
  have HB2 := Lib.hid (HB1.out.kept k2)
  have kw2 := kw1.trans k2
  clear k2 kw1
  go_upto_region 5 with fail
  refine wp_text 3 [.eq (.pointer (some ⟨g, 5, none⟩)), .eq (.int .i64 c.price), .eq (.bool (rng c.price 1 1048576))] rfl (by kernel_rfl) ?_ ?_
  · refine fsteps_cons 1 rfl (fun a u hE hD hk => f_val (o := ⟨some 13, _, _, _, _, _⟩) (.pointer (some ⟨g, 5, none⟩)) rfl (wanted_none rfl _) (exec_fld 23 5 5 (.tmp 1) (g) rfl (hE 1 (.pointer (some ⟨g, 0, none⟩)) (by kernel_rfl) (by kernel_rfl)) (by kernel_rfl)) rfl) ?_
    refine fsteps_cons 2 rfl (fun a u hE hD hk => f_val (o := ⟨some 14, _, _, _, _, _⟩) (.int .i64 c.price) rfl (wanted_none rfl _) (exec_loadi 3 Try.underlying3 (.tmp 13) ⟨g, 5, none⟩ (.int .i64 c.price) rfl (hD 0 13 (by kernel_rfl)) ((HB2.out.kept hk).fld 5 _ rfl)) rfl) ?_
    refine fsteps_cons 3 rfl (fun a u hE hD hk => f_call (o := ⟨some 15, _, _, _, _, _⟩) 27 #[.int .i64 c.price, .int .i64 1, .int .i64 1048576] rfl (wanted_none rfl _) (exec_call 27 _ [.tmp 14, .const (.int .i64 1), .const (.int .i64 1048576)] _ [.int .i64 c.price, .int .i64 1, .int .i64 1048576] Try.func27 (by kernel_rfl) (by kernel_rfl) rfl (show [a.eval (.tmp 14), a.eval (.const (.int .i64 1)), a.eval (.const (.int .i64 1048576))] = [.int .i64 c.price, .int .i64 1, .int .i64 1048576] from (by rw [show a.eval (.tmp 14) = .int .i64 c.price from (hD 1 14 (by kernel_rfl))] <;> rfl)) u) (owithin_any _ _ _ u)) ?_
    exact fsteps_nil
  intro gv w3 hV k3
  rw [show dstsOf _ 3 = [13, 14, 15] by kernel_rfl]
  simp only [List.foldl_cons, List.foldl_nil, List.setIfInBounds_toArray, List.set_cons_succ, List.set_cons_zero, List.drop_succ_cons, List.drop_zero]
  rw [show gv 15 = .bool (rng c.price 1 1048576) from hV 2 15 (by kernel_rfl)]
  clear hV
  have HB3 := Lib.hid (HB2.out.kept k3)
  have kw3 := kw2.trans k3
  clear k3 kw2
  go_wp2
  go_ret
  exact ⟨_, rfl, rfl, kw3⟩

theorem hasPrices_any (c : Ord) (w : World) : Gives 22 #[c.v] w (.eq (.bool c.prices)) := by
  unfold Ord.prices
  cases hS : rng c.stop 0 1048576 with
  | false => exact hasPrices_s c hS w
  | true =>
    by_cases hK : c.k = 2
    · rw [if_pos hK]
      exact hasPrices_m c hS (by simpa using hK) w
    · rw [if_neg hK]
      exact hasPrices_o c hS (by simpa using hK) w

set_option maxRecDepth 100000 in
set_option maxHeartbeats 800000 in
theorem hasQuantities_any (c : Ord) (w : World) : Gives 23 #[c.v] w (.eq (.bool c.amounts)) := by
  unfold Gives Ord.v
  have HT : Hid True := trivial
  have HB0 : Hid (Blk (w.alloc (.cells c.cells.toArray 23)) w.heap.size 23 c.cells) := Blk.new w _ _
  have kw0 : Kept w (w.alloc (.cells c.cells.toArray 23)) := (Keep.refl _ w).alloc _
  go_enter Try.func23, Try.ntmps23
  go_upto_region 1 with fail
  generalize w.alloc (.cells c.cells.toArray 23) = w0 at HB0 kw0 ⊢
  generalize w.heap.size = g at HB0 ⊢
  refine wp_free 10 [.eq (.pointer (some ⟨g, 6, none⟩)), .eq (.int .i64 c.qty), .eq (.bool (rng c.qty 1 1048576)), .eq (.bool (rng c.qty 1 1048576)), .cond (rng c.qty 1 1048576) (.eq (.pointer (some ⟨g, 7, none⟩))), .cond (rng c.qty 1 1048576) (.eq (.int .i64 c.shw)), .cond (rng c.qty 1 1048576) (.eq (c.v)), .cond (rng c.qty 1 1048576) (.eq (.int .i64 c.shown)), .cond (rng c.qty 1 1048576) (.eq (.bool (rng c.shw 0 c.shown))), .eq (.bool ((rng c.qty 1 1048576) && (rng c.shw 0 c.shown)))] (by kernel_rfl) rfl (by kernel_rfl) ?_ ?_
  · refine fsteps_cons 1 rfl (fun a u hE hD hk => f_val (o := ⟨some 3, _, _, _, _, _⟩) (.pointer (some ⟨g, 6, none⟩)) rfl (wanted_none rfl _) (exec_fld 23 6 6 (.tmp 1) (g) rfl (hE 1 (.pointer (some ⟨g, 0, none⟩)) (by kernel_rfl) (by kernel_rfl)) (by kernel_rfl)) rfl) ?_
    refine fsteps_cons 2 rfl (fun a u hE hD hk => f_val (o := ⟨some 4, _, _, _, _, _⟩) (.int .i64 c.qty) rfl (wanted_none rfl _) (exec_loadi 3 Try.underlying3 (.tmp 3) ⟨g, 6, none⟩ (.int .i64 c.qty) rfl (hD 0 3 (by kernel_rfl)) ((HB0.out.kept hk).fld 6 _ rfl)) rfl) ?_
    refine fsteps_cons 3 rfl (fun a u hE hD hk => f_call (o := ⟨some 5, _, _, _, _, _⟩) 27 #[.int .i64 c.qty, .int .i64 1, .int .i64 1048576] rfl (wanted_none rfl _) (exec_call 27 _ [.tmp 4, .const (.int .i64 1), .const (.int .i64 1048576)] _ [.int .i64 c.qty, .int .i64 1, .int .i64 1048576] Try.func27 (by kernel_rfl) (by kernel_rfl) rfl (show [a.eval (.tmp 4), a.eval (.const (.int .i64 1)), a.eval (.const (.int .i64 1048576))] = [.int .i64 c.qty, .int .i64 1, .int .i64 1048576] from (by rw [show a.eval (.tmp 4) = .int .i64 c.qty from (hD 1 4 (by kernel_rfl))] <;> rfl)) u) (owithin_any _ _ _ u)) ?_
    refine fsteps_cons 4 rfl (fun a u hE hD hk => f_val (o := ⟨some 6, _, _, _, _, _⟩) (.bool (rng c.qty 1 1048576)) rfl (wanted_none rfl _) (exec_move (.tmp 5) (.bool (rng c.qty 1 1048576)) rfl (hD 2 5 (by kernel_rfl))) rfl) ?_
    refine fsteps_cons 5 rfl (fun a u hE hD hk => f_if ((rng c.qty 1 1048576)) rfl rfl rfl (hD 3 6 (by kernel_rfl)) (fun hb => f_val (o := ⟨some 7, _, _, _, _, _⟩) (.pointer (some ⟨g, 7, none⟩)) rfl (wanted_b rfl rfl (hD 3 6 (by kernel_rfl)) (eq_true_of hb)) (exec_fld 23 7 7 (.tmp 1) (g) rfl (hE 1 (.pointer (some ⟨g, 0, none⟩)) (by kernel_rfl) (by kernel_rfl)) (by kernel_rfl)) rfl)) ?_
    refine fsteps_cons 6 rfl (fun a u hE hD hk => f_if ((rng c.qty 1 1048576)) rfl rfl rfl (hD 3 6 (by kernel_rfl)) (fun hb => f_val (o := ⟨some 8, _, _, _, _, _⟩) (.int .i64 c.shw) rfl (wanted_b rfl rfl (hD 3 6 (by kernel_rfl)) (eq_true_of hb)) (exec_loadi 3 Try.underlying3 (.tmp 7) ⟨g, 7, none⟩ (.int .i64 c.shw) rfl ((hD 4 7 (by kernel_rfl)).1 hb) ((HB0.out.kept hk).fld 7 _ rfl)) rfl)) ?_
    refine fsteps_cons 7 rfl (fun a u hE hD hk => f_if ((rng c.qty 1 1048576)) rfl rfl rfl (hD 3 6 (by kernel_rfl)) (fun hb => f_val (o := ⟨some 9, _, _, _, _, _⟩) (c.v) rfl (wanted_b rfl rfl (hD 3 6 (by kernel_rfl)) (eq_true_of hb)) (exec_loadS 23 (.tmp 1) (g) _ c.cells _ rfl (hE 1 (.pointer (some ⟨g, 0, none⟩)) (by kernel_rfl) (by kernel_rfl)) (HB0.out.kept hk) Try.underlying23 (by rw [Ord.cells_len _ HT.out]; exact ord_size)) rfl)) ?_
    refine fsteps_cons 8 rfl (fun a u hE hD hk => f_if ((rng c.qty 1 1048576)) rfl rfl rfl (hD 3 6 (by kernel_rfl)) (fun hb => f_call (o := ⟨some 10, _, _, _, _, _⟩) 28 #[c.v] rfl (wanted_b rfl rfl (hD 3 6 (by kernel_rfl)) (eq_true_of hb)) (exec_call 28 _ [.tmp 9] _ [c.v] Try.func28 (by kernel_rfl) (by kernel_rfl) rfl (show [a.eval (.tmp 9)] = [c.v] from (by rw [show a.eval (.tmp 9) = c.v from ((hD 6 9 (by kernel_rfl)).1 hb)] <;> rfl)) u) (mostShown_any c u))) ?_
    refine fsteps_cons 9 rfl (fun a u hE hD hk => f_if ((rng c.qty 1 1048576)) rfl rfl rfl (hD 3 6 (by kernel_rfl)) (fun hb => f_call (o := ⟨some 11, _, _, _, _, _⟩) 27 #[.int .i64 c.shw, .int .i64 0, .int .i64 c.shown] rfl (wanted_b rfl rfl (hD 3 6 (by kernel_rfl)) (eq_true_of hb)) (exec_call 27 _ [.tmp 8, .const (.int .i64 0), .tmp 10] _ [.int .i64 c.shw, .int .i64 0, .int .i64 c.shown] Try.func27 (by kernel_rfl) (by kernel_rfl) rfl (show [a.eval (.tmp 8), a.eval (.const (.int .i64 0)), a.eval (.tmp 10)] = [.int .i64 c.shw, .int .i64 0, .int .i64 c.shown] from (by rw [show a.eval (.tmp 8) = .int .i64 c.shw from ((hD 5 8 (by kernel_rfl)).1 hb), show a.eval (.tmp 10) = .int .i64 c.shown from ((hD 7 10 (by kernel_rfl)).1 hb)] <;> rfl)) u) (owithin_any _ _ _ u))) ?_
    refine fsteps_cons 10 rfl (fun a u hE hD hk => f_val (o := ⟨some 12, _, _, _, _, _⟩) (.bool ((rng c.qty 1 1048576) && (rng c.shw 0 c.shown))) rfl (wanted_none rfl _) (exec_pickand (.tmp 6) (.tmp 11) (.const (.bool false)) ((rng c.qty 1 1048576)) ((rng c.shw 0 c.shown)) rfl (hD 3 6 (by kernel_rfl)) (fun hb2 => ((hD 8 11 (by kernel_rfl)).1 hb2)) rfl) rfl) ?_
    exact fsteps_nil
  intro gv w1 hV k1
  rw [show dstsOf _ 10 = [3, 4, 5, 6, 7, 8, 9, 10, 11, 12] by kernel_rfl]
  simp only [List.foldl_cons, List.foldl_nil, List.setIfInBounds_toArray, List.set_cons_succ, List.set_cons_zero, List.drop_succ_cons, List.drop_zero]
  rw [show gv 12 = .bool ((rng c.qty 1 1048576) && (rng c.shw 0 c.shown)) from hV 9 12 (by kernel_rfl)]
  clear hV
  have HB1 := Lib.hid (HB0.out.kept k1)
  have kw1 := kw0.trans k1
  clear k1 kw0
  go_wp2
  go_ret
  exact ⟨_, rfl, rfl, kw1⟩

set_option maxRecDepth 100000 in
set_option maxHeartbeats 800000 in
theorem right_t (c : Ord) (hR : c.right = true) (w : World) : Gives 11 #[c.v] w (.eq (.int .i64 0)) := by
  unfold Gives Ord.v
  have HT : Hid True := trivial
  have HB0 : Hid (Blk (w.alloc (.cells c.cells.toArray 23)) w.heap.size 23 c.cells) := Blk.new w _ _
  have kw0 : Kept w (w.alloc (.cells c.cells.toArray 23)) := (Keep.refl _ w).alloc _
  go_enter Try.func11, Try.ntmps11
  go_upto_region 1 with fail
  generalize w.alloc (.cells c.cells.toArray 23) = w0 at HB0 kw0 ⊢
  generalize w.heap.size = g at HB0 ⊢
  refine wp_text 14 [.eq (c.v), .eq (.bool c.owned), .eq (.bool c.owned), .cond c.owned (.eq (c.v)), .cond c.owned (.eq (.bool c.ofApi)), .eq (.bool (c.owned && c.ofApi)), .eq (.bool (c.owned && c.ofApi)), .cond (c.owned && c.ofApi) (.eq (c.v)), .cond (c.owned && c.ofApi) (.eq (.bool c.prices)), .eq (.bool ((c.owned && c.ofApi) && c.prices)), .eq (.bool ((c.owned && c.ofApi) && c.prices)), .cond ((c.owned && c.ofApi) && c.prices) (.eq (c.v)), .cond ((c.owned && c.ofApi) && c.prices) (.eq (.bool c.amounts)), .eq (.bool true)] rfl (by kernel_rfl) ?_ ?_
  · refine fsteps_cons 1 rfl (fun a u hE hD hk => f_val (o := ⟨some 3, _, _, _, _, _⟩) (c.v) rfl (wanted_none rfl _) (exec_loadS 23 (.tmp 1) (g) _ c.cells _ rfl (hE 1 (.pointer (some ⟨g, 0, none⟩)) (by kernel_rfl) (by kernel_rfl)) (HB0.out.kept hk) Try.underlying23 (by rw [Ord.cells_len _ HT.out]; exact ord_size)) rfl) ?_
    refine fsteps_cons 2 rfl (fun a u hE hD hk => f_call (o := ⟨some 4, _, _, _, _, _⟩) 20 #[c.v] rfl (wanted_none rfl _) (exec_call 20 _ [.tmp 3] _ [c.v] Try.func20 (by kernel_rfl) (by kernel_rfl) rfl (show [a.eval (.tmp 3)] = [c.v] from (by rw [show a.eval (.tmp 3) = c.v from (hD 0 3 (by kernel_rfl))] <;> rfl)) u) (isOwned_any c u)) ?_
    refine fsteps_cons 3 rfl (fun a u hE hD hk => f_val (o := ⟨some 5, _, _, _, _, _⟩) (.bool c.owned) rfl (wanted_none rfl _) (exec_move (.tmp 4) (.bool c.owned) rfl (hD 1 4 (by kernel_rfl))) rfl) ?_
    refine fsteps_cons 4 rfl (fun a u hE hD hk => f_if (c.owned) rfl rfl rfl (hD 2 5 (by kernel_rfl)) (fun hb => f_val (o := ⟨some 6, _, _, _, _, _⟩) (c.v) rfl (wanted_b rfl rfl (hD 2 5 (by kernel_rfl)) (eq_true_of hb)) (exec_loadS 23 (.tmp 1) (g) _ c.cells _ rfl (hE 1 (.pointer (some ⟨g, 0, none⟩)) (by kernel_rfl) (by kernel_rfl)) (HB0.out.kept hk) Try.underlying23 (by rw [Ord.cells_len _ HT.out]; exact ord_size)) rfl)) ?_
    refine fsteps_cons 5 rfl (fun a u hE hD hk => f_if (c.owned) rfl rfl rfl (hD 2 5 (by kernel_rfl)) (fun hb => f_call (o := ⟨some 7, _, _, _, _, _⟩) 21 #[c.v] rfl (wanted_b rfl rfl (hD 2 5 (by kernel_rfl)) (eq_true_of hb)) (exec_call 21 _ [.tmp 6] _ [c.v] Try.func21 (by kernel_rfl) (by kernel_rfl) rfl (show [a.eval (.tmp 6)] = [c.v] from (by rw [show a.eval (.tmp 6) = c.v from ((hD 3 6 (by kernel_rfl)).1 hb)] <;> rfl)) u) (isOfApi_any c u))) ?_
    refine fsteps_cons 6 rfl (fun a u hE hD hk => f_val (o := ⟨some 8, _, _, _, _, _⟩) (.bool (c.owned && c.ofApi)) rfl (wanted_none rfl _) (exec_pickand (.tmp 5) (.tmp 7) (.const (.bool false)) (c.owned) (c.ofApi) rfl (hD 2 5 (by kernel_rfl)) (fun hb2 => ((hD 4 7 (by kernel_rfl)).1 hb2)) rfl) rfl) ?_
    refine fsteps_cons 7 rfl (fun a u hE hD hk => f_val (o := ⟨some 9, _, _, _, _, _⟩) (.bool (c.owned && c.ofApi)) rfl (wanted_none rfl _) (exec_move (.tmp 8) (.bool (c.owned && c.ofApi)) rfl (hD 5 8 (by kernel_rfl))) rfl) ?_
    refine fsteps_cons 8 rfl (fun a u hE hD hk => f_if ((c.owned && c.ofApi)) rfl rfl rfl (hD 6 9 (by kernel_rfl)) (fun hb => f_val (o := ⟨some 10, _, _, _, _, _⟩) (c.v) rfl (wanted_b rfl rfl (hD 6 9 (by kernel_rfl)) (eq_true_of hb)) (exec_loadS 23 (.tmp 1) (g) _ c.cells _ rfl (hE 1 (.pointer (some ⟨g, 0, none⟩)) (by kernel_rfl) (by kernel_rfl)) (HB0.out.kept hk) Try.underlying23 (by rw [Ord.cells_len _ HT.out]; exact ord_size)) rfl)) ?_
    refine fsteps_cons 9 rfl (fun a u hE hD hk => f_if ((c.owned && c.ofApi)) rfl rfl rfl (hD 6 9 (by kernel_rfl)) (fun hb => f_call (o := ⟨some 11, _, _, _, _, _⟩) 22 #[c.v] rfl (wanted_b rfl rfl (hD 6 9 (by kernel_rfl)) (eq_true_of hb)) (exec_call 22 _ [.tmp 10] _ [c.v] Try.func22 (by kernel_rfl) (by kernel_rfl) rfl (show [a.eval (.tmp 10)] = [c.v] from (by rw [show a.eval (.tmp 10) = c.v from ((hD 7 10 (by kernel_rfl)).1 hb)] <;> rfl)) u) (hasPrices_any c u))) ?_
    refine fsteps_cons 10 rfl (fun a u hE hD hk => f_val (o := ⟨some 12, _, _, _, _, _⟩) (.bool ((c.owned && c.ofApi) && c.prices)) rfl (wanted_none rfl _) (exec_pickand (.tmp 9) (.tmp 11) (.const (.bool false)) ((c.owned && c.ofApi)) (c.prices) rfl (hD 6 9 (by kernel_rfl)) (fun hb2 => ((hD 8 11 (by kernel_rfl)).1 hb2)) rfl) rfl) ?_
    refine fsteps_cons 11 rfl (fun a u hE hD hk => f_val (o := ⟨some 13, _, _, _, _, _⟩) (.bool ((c.owned && c.ofApi) && c.prices)) rfl (wanted_none rfl _) (exec_move (.tmp 12) (.bool ((c.owned && c.ofApi) && c.prices)) rfl (hD 9 12 (by kernel_rfl))) rfl) ?_
    refine fsteps_cons 12 rfl (fun a u hE hD hk => f_if (((c.owned && c.ofApi) && c.prices)) rfl rfl rfl (hD 10 13 (by kernel_rfl)) (fun hb => f_val (o := ⟨some 14, _, _, _, _, _⟩) (c.v) rfl (wanted_b rfl rfl (hD 10 13 (by kernel_rfl)) (eq_true_of hb)) (exec_loadS 23 (.tmp 1) (g) _ c.cells _ rfl (hE 1 (.pointer (some ⟨g, 0, none⟩)) (by kernel_rfl) (by kernel_rfl)) (HB0.out.kept hk) Try.underlying23 (by rw [Ord.cells_len _ HT.out]; exact ord_size)) rfl)) ?_
    refine fsteps_cons 13 rfl (fun a u hE hD hk => f_if (((c.owned && c.ofApi) && c.prices)) rfl rfl rfl (hD 10 13 (by kernel_rfl)) (fun hb => f_call (o := ⟨some 15, _, _, _, _, _⟩) 23 #[c.v] rfl (wanted_b rfl rfl (hD 10 13 (by kernel_rfl)) (eq_true_of hb)) (exec_call 23 _ [.tmp 14] _ [c.v] Try.func23 (by kernel_rfl) (by kernel_rfl) rfl (show [a.eval (.tmp 14)] = [c.v] from (by rw [show a.eval (.tmp 14) = c.v from ((hD 11 14 (by kernel_rfl)).1 hb)] <;> rfl)) u) (hasQuantities_any c u))) ?_
    refine fsteps_cons 14 rfl (fun a u hE hD hk => f_as (show ((((c.owned && c.ofApi) && c.prices) && c.amounts) : Bool) = true from hR) (f_val (o := ⟨some 16, _, _, _, _, _⟩) (.bool (((c.owned && c.ofApi) && c.prices) && c.amounts)) rfl (wanted_none rfl _) (exec_pickand (.tmp 13) (.tmp 15) (.const (.bool false)) (((c.owned && c.ofApi) && c.prices)) (c.amounts) rfl (hD 10 13 (by kernel_rfl)) (fun hb2 => ((hD 12 15 (by kernel_rfl)).1 hb2)) rfl) rfl)) ?_
    exact fsteps_nil
  intro gv w1 hV k1
  rw [show dstsOf _ 14 = [3, 4, 5, 6, 7, 8, 9, 10, 11, 12, 13, 14, 15, 16] by kernel_rfl]
  simp only [List.foldl_cons, List.foldl_nil, List.setIfInBounds_toArray, List.set_cons_succ, List.set_cons_zero, List.drop_succ_cons, List.drop_zero]
  rw [show gv 16 = .bool true from hV 13 16 (by kernel_rfl)]
  clear hV
  refine wpList_nil ?_
  have HB1 := Lib.hid (HB0.out.kept k1)
  have kw1 := kw0.trans k1
  clear k1 kw0
  go_wp2
  go_ret
  exact ⟨_, rfl, rfl, kw1⟩

set_option maxRecDepth 100000 in
set_option maxHeartbeats 800000 in
theorem right_f (c : Ord) (hR : c.right = false) (w : World) : Gives 11 #[c.v] w (.eq (.int .i64 1)) := by
  unfold Gives Ord.v
  have HT : Hid True := trivial
  have HB0 : Hid (Blk (w.alloc (.cells c.cells.toArray 23)) w.heap.size 23 c.cells) := Blk.new w _ _
  have kw0 : Kept w (w.alloc (.cells c.cells.toArray 23)) := (Keep.refl _ w).alloc _
  go_enter Try.func11, Try.ntmps11
  go_upto_region 1 with fail
  generalize w.alloc (.cells c.cells.toArray 23) = w0 at HB0 kw0 ⊢
  generalize w.heap.size = g at HB0 ⊢
  refine wp_text 14 [.eq (c.v), .eq (.bool c.owned), .eq (.bool c.owned), .cond c.owned (.eq (c.v)), .cond c.owned (.eq (.bool c.ofApi)), .eq (.bool (c.owned && c.ofApi)), .eq (.bool (c.owned && c.ofApi)), .cond (c.owned && c.ofApi) (.eq (c.v)), .cond (c.owned && c.ofApi) (.eq (.bool c.prices)), .eq (.bool ((c.owned && c.ofApi) && c.prices)), .eq (.bool ((c.owned && c.ofApi) && c.prices)), .cond ((c.owned && c.ofApi) && c.prices) (.eq (c.v)), .cond ((c.owned && c.ofApi) && c.prices) (.eq (.bool c.amounts)), .eq (.bool false)] rfl (by kernel_rfl) ?_ ?_
  · refine fsteps_cons 1 rfl (fun a u hE hD hk => f_val (o := ⟨some 3, _, _, _, _, _⟩) (c.v) rfl (wanted_none rfl _) (exec_loadS 23 (.tmp 1) (g) _ c.cells _ rfl (hE 1 (.pointer (some ⟨g, 0, none⟩)) (by kernel_rfl) (by kernel_rfl)) (HB0.out.kept hk) Try.underlying23 (by rw [Ord.cells_len _ HT.out]; exact ord_size)) rfl) ?_
    refine fsteps_cons 2 rfl (fun a u hE hD hk => f_call (o := ⟨some 4, _, _, _, _, _⟩) 20 #[c.v] rfl (wanted_none rfl _) (exec_call 20 _ [.tmp 3] _ [c.v] Try.func20 (by kernel_rfl) (by kernel_rfl) rfl (show [a.eval (.tmp 3)] = [c.v] from (by rw [show a.eval (.tmp 3) = c.v from (hD 0 3 (by kernel_rfl))] <;> rfl)) u) (isOwned_any c u)) ?_
    refine fsteps_cons 3 rfl (fun a u hE hD hk => f_val (o := ⟨some 5, _, _, _, _, _⟩) (.bool c.owned) rfl (wanted_none rfl _) (exec_move (.tmp 4) (.bool c.owned) rfl (hD 1 4 (by kernel_rfl))) rfl) ?_
    refine fsteps_cons 4 rfl (fun a u hE hD hk => f_if (c.owned) rfl rfl rfl (hD 2 5 (by kernel_rfl)) (fun hb => f_val (o := ⟨some 6, _, _, _, _, _⟩) (c.v) rfl (wanted_b rfl rfl (hD 2 5 (by kernel_rfl)) (eq_true_of hb)) (exec_loadS 23 (.tmp 1) (g) _ c.cells _ rfl (hE 1 (.pointer (some ⟨g, 0, none⟩)) (by kernel_rfl) (by kernel_rfl)) (HB0.out.kept hk) Try.underlying23 (by rw [Ord.cells_len _ HT.out]; exact ord_size)) rfl)) ?_
    refine fsteps_cons 5 rfl (fun a u hE hD hk => f_if (c.owned) rfl rfl rfl (hD 2 5 (by kernel_rfl)) (fun hb => f_call (o := ⟨some 7, _, _, _, _, _⟩) 21 #[c.v] rfl (wanted_b rfl rfl (hD 2 5 (by kernel_rfl)) (eq_true_of hb)) (exec_call 21 _ [.tmp 6] _ [c.v] Try.func21 (by kernel_rfl) (by kernel_rfl) rfl (show [a.eval (.tmp 6)] = [c.v] from (by rw [show a.eval (.tmp 6) = c.v from ((hD 3 6 (by kernel_rfl)).1 hb)] <;> rfl)) u) (isOfApi_any c u))) ?_
    refine fsteps_cons 6 rfl (fun a u hE hD hk => f_val (o := ⟨some 8, _, _, _, _, _⟩) (.bool (c.owned && c.ofApi)) rfl (wanted_none rfl _) (exec_pickand (.tmp 5) (.tmp 7) (.const (.bool false)) (c.owned) (c.ofApi) rfl (hD 2 5 (by kernel_rfl)) (fun hb2 => ((hD 4 7 (by kernel_rfl)).1 hb2)) rfl) rfl) ?_
    refine fsteps_cons 7 rfl (fun a u hE hD hk => f_val (o := ⟨some 9, _, _, _, _, _⟩) (.bool (c.owned && c.ofApi)) rfl (wanted_none rfl _) (exec_move (.tmp 8) (.bool (c.owned && c.ofApi)) rfl (hD 5 8 (by kernel_rfl))) rfl) ?_
    refine fsteps_cons 8 rfl (fun a u hE hD hk => f_if ((c.owned && c.ofApi)) rfl rfl rfl (hD 6 9 (by kernel_rfl)) (fun hb => f_val (o := ⟨some 10, _, _, _, _, _⟩) (c.v) rfl (wanted_b rfl rfl (hD 6 9 (by kernel_rfl)) (eq_true_of hb)) (exec_loadS 23 (.tmp 1) (g) _ c.cells _ rfl (hE 1 (.pointer (some ⟨g, 0, none⟩)) (by kernel_rfl) (by kernel_rfl)) (HB0.out.kept hk) Try.underlying23 (by rw [Ord.cells_len _ HT.out]; exact ord_size)) rfl)) ?_
    refine fsteps_cons 9 rfl (fun a u hE hD hk => f_if ((c.owned && c.ofApi)) rfl rfl rfl (hD 6 9 (by kernel_rfl)) (fun hb => f_call (o := ⟨some 11, _, _, _, _, _⟩) 22 #[c.v] rfl (wanted_b rfl rfl (hD 6 9 (by kernel_rfl)) (eq_true_of hb)) (exec_call 22 _ [.tmp 10] _ [c.v] Try.func22 (by kernel_rfl) (by kernel_rfl) rfl (show [a.eval (.tmp 10)] = [c.v] from (by rw [show a.eval (.tmp 10) = c.v from ((hD 7 10 (by kernel_rfl)).1 hb)] <;> rfl)) u) (hasPrices_any c u))) ?_
    refine fsteps_cons 10 rfl (fun a u hE hD hk => f_val (o := ⟨some 12, _, _, _, _, _⟩) (.bool ((c.owned && c.ofApi) && c.prices)) rfl (wanted_none rfl _) (exec_pickand (.tmp 9) (.tmp 11) (.const (.bool false)) ((c.owned && c.ofApi)) (c.prices) rfl (hD 6 9 (by kernel_rfl)) (fun hb2 => ((hD 8 11 (by kernel_rfl)).1 hb2)) rfl) rfl) ?_
    refine fsteps_cons 11 rfl (fun a u hE hD hk => f_val (o := ⟨some 13, _, _, _, _, _⟩) (.bool ((c.owned && c.ofApi) && c.prices)) rfl (wanted_none rfl _) (exec_move (.tmp 12) (.bool ((c.owned && c.ofApi) && c.prices)) rfl (hD 9 12 (by kernel_rfl))) rfl) ?_
    refine fsteps_cons 12 rfl (fun a u hE hD hk => f_if (((c.owned && c.ofApi) && c.prices)) rfl rfl rfl (hD 10 13 (by kernel_rfl)) (fun hb => f_val (o := ⟨some 14, _, _, _, _, _⟩) (c.v) rfl (wanted_b rfl rfl (hD 10 13 (by kernel_rfl)) (eq_true_of hb)) (exec_loadS 23 (.tmp 1) (g) _ c.cells _ rfl (hE 1 (.pointer (some ⟨g, 0, none⟩)) (by kernel_rfl) (by kernel_rfl)) (HB0.out.kept hk) Try.underlying23 (by rw [Ord.cells_len _ HT.out]; exact ord_size)) rfl)) ?_
    refine fsteps_cons 13 rfl (fun a u hE hD hk => f_if (((c.owned && c.ofApi) && c.prices)) rfl rfl rfl (hD 10 13 (by kernel_rfl)) (fun hb => f_call (o := ⟨some 15, _, _, _, _, _⟩) 23 #[c.v] rfl (wanted_b rfl rfl (hD 10 13 (by kernel_rfl)) (eq_true_of hb)) (exec_call 23 _ [.tmp 14] _ [c.v] Try.func23 (by kernel_rfl) (by kernel_rfl) rfl (show [a.eval (.tmp 14)] = [c.v] from (by rw [show a.eval (.tmp 14) = c.v from ((hD 11 14 (by kernel_rfl)).1 hb)] <;> rfl)) u) (hasQuantities_any c u))) ?_
    refine fsteps_cons 14 rfl (fun a u hE hD hk => f_as (show ((((c.owned && c.ofApi) && c.prices) && c.amounts) : Bool) = false from hR) (f_val (o := ⟨some 16, _, _, _, _, _⟩) (.bool (((c.owned && c.ofApi) && c.prices) && c.amounts)) rfl (wanted_none rfl _) (exec_pickand (.tmp 13) (.tmp 15) (.const (.bool false)) (((c.owned && c.ofApi) && c.prices)) (c.amounts) rfl (hD 10 13 (by kernel_rfl)) (fun hb2 => ((hD 12 15 (by kernel_rfl)).1 hb2)) rfl) rfl)) ?_
    exact fsteps_nil
  intro gv w1 hV k1
  rw [show dstsOf _ 14 = [3, 4, 5, 6, 7, 8, 9, 10, 11, 12, 13, 14, 15, 16] by kernel_rfl]
  simp only [List.foldl_cons, List.foldl_nil, List.setIfInBounds_toArray, List.set_cons_succ, List.set_cons_zero, List.drop_succ_cons, List.drop_zero]
  rw [show gv 16 = .bool false from hV 13 16 (by kernel_rfl)]
  clear hV
  refine wpList_nil ?_
  have HB1 := Lib.hid (HB0.out.kept k1)
  have kw1 := kw0.trans k1
  clear k1 kw0
  go_wp2
  go_ret
  exact ⟨_, rfl, rfl, kw1⟩

theorem ordRight_any (c : Ord) (w : World) : Gives 11 #[c.v] w (.eq (.int .i64 c.err)) := by
  unfold Ord.err
  cases h : c.right with
  | true => exact right_t c h w
  | false => exact right_f c h w

set_option maxRecDepth 100000 in
set_option maxHeartbeats 800000 in
theorem crosses_m (c : Ord) (x : Int) (hK : decide (c.k = 2) = true) (w : World) : Gives 8 #[c.v, .int .i64 x] w (.eq (.bool true)) := by
  unfold Gives Ord.v
  have HT : Hid True := trivial
  have HB0 : Hid (Blk (w.alloc (.cells c.cells.toArray 23)) w.heap.size 23 c.cells) := Blk.new w _ _
  have kw0 : Kept w (w.alloc (.cells c.cells.toArray 23)) := (Keep.refl _ w).alloc _
  go_enter Try.func8, Try.ntmps8
  go_upto_region 1 with fail
  generalize w.alloc (.cells c.cells.toArray 23) = w0 at HB0 kw0 ⊢
  generalize w.heap.size = g at HB0 ⊢
  refine wp_text 3 [.eq (.pointer (some ⟨g, 4, none⟩)), .eq (.int .i64 c.k), .eq (.bool true)] rfl (by kernel_rfl) ?_ ?_
  · refine fsteps_cons 1 rfl (fun a u hE hD hk => f_val (o := ⟨some 5, _, _, _, _, _⟩) (.pointer (some ⟨g, 4, none⟩)) rfl (wanted_none rfl _) (exec_fld 23 4 4 (.tmp 2) (g) rfl (hE 2 (.pointer (some ⟨g, 0, none⟩)) (by kernel_rfl) (by kernel_rfl)) (by kernel_rfl)) rfl) ?_
    refine fsteps_cons 2 rfl (fun a u hE hD hk => f_val (o := ⟨some 6, _, _, _, _, _⟩) (.int .i64 c.k) rfl (wanted_none rfl _) (exec_loadi 3 Try.underlying3 (.tmp 5) ⟨g, 4, none⟩ (.int .i64 c.k) rfl (hD 0 5 (by kernel_rfl)) ((HB0.out.kept hk).fld 4 _ rfl)) rfl) ?_
    refine fsteps_cons 3 rfl (fun a u hE hD hk => f_as (show ((decide ((c.k : Int) = (2 : Int))) : Bool) = true from hK) (f_val (o := ⟨some 7, _, _, _, _, _⟩) (.bool (decide ((c.k : Int) = (2 : Int)))) rfl (wanted_none rfl _) (exec_eqn (p := c.k) (q := 2) rfl (hD 1 6 (by kernel_rfl)) rfl) rfl)) ?_
    exact fsteps_nil
  intro gv w1 hV k1
  rw [show dstsOf _ 3 = [5, 6, 7] by kernel_rfl]
  simp only [List.foldl_cons, List.foldl_nil, List.setIfInBounds_toArray, List.set_cons_succ, List.set_cons_zero, List.drop_succ_cons, List.drop_zero]
  rw [show gv 7 = .bool true from hV 2 7 (by kernel_rfl)]
  clear hV
  refine wpList_nil ?_
  have HB1 := Lib.hid (HB0.out.kept k1)
  have kw1 := kw0.trans k1
  clear k1 kw0
  go_wp2
  go_ret
  exact ⟨_, rfl, rfl, kw1⟩

set_option maxRecDepth 100000 in
set_option maxHeartbeats 800000 in
theorem crosses_o (c : Ord) (x : Int) (hK : decide (c.k = 2) = false) (w : World) : Gives 8 #[c.v, .int .i64 x] w (.eq (.bool (!bet c.side x c.price))) := by
  unfold Gives Ord.v
  have HT : Hid True := trivial
  have HB0 : Hid (Blk (w.alloc (.cells c.cells.toArray 23)) w.heap.size 23 c.cells) := Blk.new w _ _
  have kw0 : Kept w (w.alloc (.cells c.cells.toArray 23)) := (Keep.refl _ w).alloc _
  go_enter Try.func8, Try.ntmps8
  go_upto_region 1 with fail
  generalize w.alloc (.cells c.cells.toArray 23) = w0 at HB0 kw0 ⊢
  generalize w.heap.size = g at HB0 ⊢
  refine wp_text 3 [.eq (.pointer (some ⟨g, 4, none⟩)), .eq (.int .i64 c.k), .eq (.bool false)] rfl (by kernel_rfl) ?_ ?_
  · refine fsteps_cons 1 rfl (fun a u hE hD hk => f_val (o := ⟨some 5, _, _, _, _, _⟩) (.pointer (some ⟨g, 4, none⟩)) rfl (wanted_none rfl _) (exec_fld 23 4 4 (.tmp 2) (g) rfl (hE 2 (.pointer (some ⟨g, 0, none⟩)) (by kernel_rfl) (by kernel_rfl)) (by kernel_rfl)) rfl) ?_
    refine fsteps_cons 2 rfl (fun a u hE hD hk => f_val (o := ⟨some 6, _, _, _, _, _⟩) (.int .i64 c.k) rfl (wanted_none rfl _) (exec_loadi 3 Try.underlying3 (.tmp 5) ⟨g, 4, none⟩ (.int .i64 c.k) rfl (hD 0 5 (by kernel_rfl)) ((HB0.out.kept hk).fld 4 _ rfl)) rfl) ?_
    refine fsteps_cons 3 rfl (fun a u hE hD hk => f_as (show ((decide ((c.k : Int) = (2 : Int))) : Bool) = false from hK) (f_val (o := ⟨some 7, _, _, _, _, _⟩) (.bool (decide ((c.k : Int) = (2 : Int)))) rfl (wanted_none rfl _) (exec_eqn (p := c.k) (q := 2) rfl (hD 1 6 (by kernel_rfl)) rfl) rfl)) ?_
    exact fsteps_nil
  intro gv w1 hV k1
  rw [show dstsOf _ 3 = [5, 6, 7] by kernel_rfl]
  simp only [List.foldl_cons, List.foldl_nil, List.setIfInBounds_toArray, List.set_cons_succ, List.set_cons_zero, List.drop_succ_cons, List.drop_zero]
  rw [show gv 7 = .bool false from hV 2 7 (by kernel_rfl)]
  clear hV
  refine wpList_nil ?_
  have HB1 := Lib.hid (HB0.out.kept k1)
  have kw1 := kw0.trans k1
  clear k1 kw0
  go_upto_region 3 with fail
  refine wp_text 6 [.eq (.pointer (some ⟨g, 3, none⟩)), .eq (.int .i64 c.side), .eq (.pointer (some ⟨g, 5, none⟩)), .eq (.int .i64 c.price), .eq (.int .i64 x), .eq (.bool (!bet c.side x c.price))] rfl (by kernel_rfl) ?_ ?_
  · refine fsteps_cons 1 rfl (fun a u hE hD hk => f_val (o := ⟨some 8, _, _, _, _, _⟩) (.pointer (some ⟨g, 3, none⟩)) rfl (wanted_none rfl _) (exec_fld 23 3 3 (.tmp 2) (g) rfl (hE 2 (.pointer (some ⟨g, 0, none⟩)) (by kernel_rfl) (by kernel_rfl)) (by kernel_rfl)) rfl) ?_
    refine fsteps_cons 2 rfl (fun a u hE hD hk => f_val (o := ⟨some 9, _, _, _, _, _⟩) (.int .i64 c.side) rfl (wanted_none rfl _) (exec_loadi 3 Try.underlying3 (.tmp 8) ⟨g, 3, none⟩ (.int .i64 c.side) rfl (hD 0 8 (by kernel_rfl)) ((HB1.out.kept hk).fld 3 _ rfl)) rfl) ?_
    refine fsteps_cons 3 rfl (fun a u hE hD hk => f_val (o := ⟨some 10, _, _, _, _, _⟩) (.pointer (some ⟨g, 5, none⟩)) rfl (wanted_none rfl _) (exec_fld 23 5 5 (.tmp 2) (g) rfl (hE 2 (.pointer (some ⟨g, 0, none⟩)) (by kernel_rfl) (by kernel_rfl)) (by kernel_rfl)) rfl) ?_
    refine fsteps_cons 4 rfl (fun a u hE hD hk => f_val (o := ⟨some 11, _, _, _, _, _⟩) (.int .i64 c.price) rfl (wanted_none rfl _) (exec_loadi 3 Try.underlying3 (.tmp 10) ⟨g, 5, none⟩ (.int .i64 c.price) rfl (hD 2 10 (by kernel_rfl)) ((HB1.out.kept hk).fld 5 _ rfl)) rfl) ?_
    refine fsteps_cons 5 rfl (fun a u hE hD hk => f_val (o := ⟨some 12, _, _, _, _, _⟩) (.int .i64 x) rfl (wanted_none rfl _) (exec_move (.tmp 1) (.int .i64 x) rfl (hE 1 (.int .i64 x) (by kernel_rfl) (by kernel_rfl))) rfl) ?_
    refine fsteps_cons 6 rfl (fun a u hE hD hk => f_call (o := ⟨some 13, _, _, _, _, _⟩) 19 #[.int .i64 c.side, .int .i64 c.price, .int .i64 x] rfl (wanted_none rfl _) (exec_call 19 _ [.tmp 9, .tmp 11, .tmp 12] _ [.int .i64 c.side, .int .i64 c.price, .int .i64 x] Try.func19 (by kernel_rfl) (by kernel_rfl) rfl (show [a.eval (.tmp 9), a.eval (.tmp 11), a.eval (.tmp 12)] = [.int .i64 c.side, .int .i64 c.price, .int .i64 x] from (by rw [show a.eval (.tmp 9) = .int .i64 c.side from (hD 1 9 (by kernel_rfl)), show a.eval (.tmp 11) = .int .i64 c.price from (hD 3 11 (by kernel_rfl)), show a.eval (.tmp 12) = .int .i64 x from (hD 4 12 (by kernel_rfl))] <;> rfl)) u) (reaches_any _ _ _ u)) ?_
    exact fsteps_nil
  intro gv w2 hV k2
  rw [show dstsOf _ 6 = [8, 9, 10, 11, 12, 13] by kernel_rfl]
  simp only [List.foldl_cons, List.foldl_nil, List.setIfInBounds_toArray, List.set_cons_succ, List.set_cons_zero, List.drop_succ_cons, List.drop_zero]
  rw [show gv 13 = .bool (!bet c.side x c.price) from hV 5 13 (by kernel_rfl)]
  clear hV
  have HB2 := Lib.hid (HB1.out.kept k2)
  have kw2 := kw1.trans k2
  clear k2 kw1
  go_wp2
  go_ret
  exact ⟨_, rfl, rfl, kw2⟩

theorem crosses_any (c : Ord) (x : Int) (w : World) : Gives 8 #[c.v, .int .i64 x] w (.eq (.bool (c.crosses x))) := by
  unfold Ord.crosses
  cases hK : decide (c.k = 2) with
  | true => exact crosses_m c x hK w
  | false => exact crosses_o c x hK w

set_option maxRecDepth 100000 in
set_option maxHeartbeats 800000 in
theorem hit_any (c : Ord) (x : Int) (w : World) : Gives 9 #[c.v, .int .i64 x] w (.eq (.bool (c.hit x))) := by
  unfold Gives Ord.v
  have HT : Hid True := trivial
  have HB0 : Hid (Blk (w.alloc (.cells c.cells.toArray 23)) w.heap.size 23 c.cells) := Blk.new w _ _
  have kw0 : Kept w (w.alloc (.cells c.cells.toArray 23)) := (Keep.refl _ w).alloc _
  go_enter Try.func9, Try.ntmps9
  go_upto_region 1 with fail
  generalize w.alloc (.cells c.cells.toArray 23) = w0 at HB0 kw0 ⊢
  generalize w.heap.size = g at HB0 ⊢
  refine wp_text 15 [.eq (.pointer (some ⟨g, 8, none⟩)), .eq (.int .i64 c.stop), .eq (.bool (decide ((0 : Int) < (c.stop : Int)))), .eq (.bool (decide ((0 : Int) < (c.stop : Int)))), .cond (decide ((0 : Int) < (c.stop : Int))) (.eq (.int .i64 x)), .cond (decide ((0 : Int) < (c.stop : Int))) (.eq (.bool (decide ((0 : Int) < (x : Int))))), .eq (.bool ((decide ((0 : Int) < (c.stop : Int))) && (decide ((0 : Int) < (x : Int))))), .eq (.bool ((decide ((0 : Int) < (c.stop : Int))) && (decide ((0 : Int) < (x : Int))))), .cond ((decide ((0 : Int) < (c.stop : Int))) && (decide ((0 : Int) < (x : Int)))) (.eq (.pointer (some ⟨g, 3, none⟩))), .cond ((decide ((0 : Int) < (c.stop : Int))) && (decide ((0 : Int) < (x : Int)))) (.eq (.int .i64 c.side)), .cond ((decide ((0 : Int) < (c.stop : Int))) && (decide ((0 : Int) < (x : Int)))) (.eq (.int .i64 x)), .cond ((decide ((0 : Int) < (c.stop : Int))) && (decide ((0 : Int) < (x : Int)))) (.eq (.pointer (some ⟨g, 8, none⟩))), .cond ((decide ((0 : Int) < (c.stop : Int))) && (decide ((0 : Int) < (x : Int)))) (.eq (.int .i64 c.stop)), .cond ((decide ((0 : Int) < (c.stop : Int))) && (decide ((0 : Int) < (x : Int)))) (.eq (.bool (!bet c.side c.stop x))), .eq (.bool (((decide ((0 : Int) < (c.stop : Int))) && (decide ((0 : Int) < (x : Int)))) && (!bet c.side c.stop x)))] rfl (by kernel_rfl) ?_ ?_
  · refine fsteps_cons 1 rfl (fun a u hE hD hk => f_val (o := ⟨some 5, _, _, _, _, _⟩) (.pointer (some ⟨g, 8, none⟩)) rfl (wanted_none rfl _) (exec_fld 23 8 8 (.tmp 2) (g) rfl (hE 2 (.pointer (some ⟨g, 0, none⟩)) (by kernel_rfl) (by kernel_rfl)) (by kernel_rfl)) rfl) ?_
    refine fsteps_cons 2 rfl (fun a u hE hD hk => f_val (o := ⟨some 6, _, _, _, _, _⟩) (.int .i64 c.stop) rfl (wanted_none rfl _) (exec_loadi 3 Try.underlying3 (.tmp 5) ⟨g, 8, none⟩ (.int .i64 c.stop) rfl (hD 0 5 (by kernel_rfl)) ((HB0.out.kept hk).fld 8 _ rfl)) rfl) ?_
    refine fsteps_cons 3 rfl (fun a u hE hD hk => f_val (o := ⟨some 7, _, _, _, _, _⟩) (.bool (decide ((0 : Int) < (c.stop : Int)))) rfl (wanted_none rfl _) (exec_gtn (p := c.stop) (q := 0) rfl (hD 1 6 (by kernel_rfl)) rfl) rfl) ?_
    refine fsteps_cons 4 rfl (fun a u hE hD hk => f_val (o := ⟨some 8, _, _, _, _, _⟩) (.bool (decide ((0 : Int) < (c.stop : Int)))) rfl (wanted_none rfl _) (exec_move (.tmp 7) (.bool (decide ((0 : Int) < (c.stop : Int)))) rfl (hD 2 7 (by kernel_rfl))) rfl) ?_
    refine fsteps_cons 5 rfl (fun a u hE hD hk => f_if ((decide ((0 : Int) < (c.stop : Int)))) rfl rfl rfl (hD 3 8 (by kernel_rfl)) (fun hb => f_val (o := ⟨some 9, _, _, _, _, _⟩) (.int .i64 x) rfl (wanted_b rfl rfl (hD 3 8 (by kernel_rfl)) (eq_true_of hb)) (exec_move (.tmp 1) (.int .i64 x) rfl (hE 1 (.int .i64 x) (by kernel_rfl) (by kernel_rfl))) rfl)) ?_
    refine fsteps_cons 6 rfl (fun a u hE hD hk => f_if ((decide ((0 : Int) < (c.stop : Int)))) rfl rfl rfl (hD 3 8 (by kernel_rfl)) (fun hb => f_val (o := ⟨some 10, _, _, _, _, _⟩) (.bool (decide ((0 : Int) < (x : Int)))) rfl (wanted_b rfl rfl (hD 3 8 (by kernel_rfl)) (eq_true_of hb)) (exec_gtn (p := x) (q := 0) rfl ((hD 4 9 (by kernel_rfl)).1 hb) rfl) rfl)) ?_
    refine fsteps_cons 7 rfl (fun a u hE hD hk => f_val (o := ⟨some 11, _, _, _, _, _⟩) (.bool ((decide ((0 : Int) < (c.stop : Int))) && (decide ((0 : Int) < (x : Int))))) rfl (wanted_none rfl _) (exec_pickand (.tmp 8) (.tmp 10) (.const (.bool false)) ((decide ((0 : Int) < (c.stop : Int)))) ((decide ((0 : Int) < (x : Int)))) rfl (hD 3 8 (by kernel_rfl)) (fun hb2 => ((hD 5 10 (by kernel_rfl)).1 hb2)) rfl) rfl) ?_
    refine fsteps_cons 8 rfl (fun a u hE hD hk => f_val (o := ⟨some 12, _, _, _, _, _⟩) (.bool ((decide ((0 : Int) < (c.stop : Int))) && (decide ((0 : Int) < (x : Int))))) rfl (wanted_none rfl _) (exec_move (.tmp 11) (.bool ((decide ((0 : Int) < (c.stop : Int))) && (decide ((0 : Int) < (x : Int))))) rfl (hD 6 11 (by kernel_rfl))) rfl) ?_
    refine fsteps_cons 9 rfl (fun a u hE hD hk => f_if (((decide ((0 : Int) < (c.stop : Int))) && (decide ((0 : Int) < (x : Int))))) rfl rfl rfl (hD 7 12 (by kernel_rfl)) (fun hb => f_val (o := ⟨some 13, _, _, _, _, _⟩) (.pointer (some ⟨g, 3, none⟩)) rfl (wanted_b rfl rfl (hD 7 12 (by kernel_rfl)) (eq_true_of hb)) (exec_fld 23 3 3 (.tmp 2) (g) rfl (hE 2 (.pointer (some ⟨g, 0, none⟩)) (by kernel_rfl) (by kernel_rfl)) (by kernel_rfl)) rfl)) ?_
    refine fsteps_cons 10 rfl (fun a u hE hD hk => f_if (((decide ((0 : Int) < (c.stop : Int))) && (decide ((0 : Int) < (x : Int))))) rfl rfl rfl (hD 7 12 (by kernel_rfl)) (fun hb => f_val (o := ⟨some 14, _, _, _, _, _⟩) (.int .i64 c.side) rfl (wanted_b rfl rfl (hD 7 12 (by kernel_rfl)) (eq_true_of hb)) (exec_loadi 3 Try.underlying3 (.tmp 13) ⟨g, 3, none⟩ (.int .i64 c.side) rfl ((hD 8 13 (by kernel_rfl)).1 hb) ((HB0.out.kept hk).fld 3 _ rfl)) rfl)) ?_
    refine fsteps_cons 11 rfl (fun a u hE hD hk => f_if (((decide ((0 : Int) < (c.stop : Int))) && (decide ((0 : Int) < (x : Int))))) rfl rfl rfl (hD 7 12 (by kernel_rfl)) (fun hb => f_val (o := ⟨some 15, _, _, _, _, _⟩) (.int .i64 x) rfl (wanted_b rfl rfl (hD 7 12 (by kernel_rfl)) (eq_true_of hb)) (exec_move (.tmp 1) (.int .i64 x) rfl (hE 1 (.int .i64 x) (by kernel_rfl) (by kernel_rfl))) rfl)) ?_
    refine fsteps_cons 12 rfl (fun a u hE hD hk => f_if (((decide ((0 : Int) < (c.stop : Int))) && (decide ((0 : Int) < (x : Int))))) rfl rfl rfl (hD 7 12 (by kernel_rfl)) (fun hb => f_val (o := ⟨some 16, _, _, _, _, _⟩) (.pointer (some ⟨g, 8, none⟩)) rfl (wanted_b rfl rfl (hD 7 12 (by kernel_rfl)) (eq_true_of hb)) (exec_fld 23 8 8 (.tmp 2) (g) rfl (hE 2 (.pointer (some ⟨g, 0, none⟩)) (by kernel_rfl) (by kernel_rfl)) (by kernel_rfl)) rfl)) ?_
    refine fsteps_cons 13 rfl (fun a u hE hD hk => f_if (((decide ((0 : Int) < (c.stop : Int))) && (decide ((0 : Int) < (x : Int))))) rfl rfl rfl (hD 7 12 (by kernel_rfl)) (fun hb => f_val (o := ⟨some 17, _, _, _, _, _⟩) (.int .i64 c.stop) rfl (wanted_b rfl rfl (hD 7 12 (by kernel_rfl)) (eq_true_of hb)) (exec_loadi 3 Try.underlying3 (.tmp 16) ⟨g, 8, none⟩ (.int .i64 c.stop) rfl ((hD 11 16 (by kernel_rfl)).1 hb) ((HB0.out.kept hk).fld 8 _ rfl)) rfl)) ?_
    refine fsteps_cons 14 rfl (fun a u hE hD hk => f_if (((decide ((0 : Int) < (c.stop : Int))) && (decide ((0 : Int) < (x : Int))))) rfl rfl rfl (hD 7 12 (by kernel_rfl)) (fun hb => f_call (o := ⟨some 18, _, _, _, _, _⟩) 19 #[.int .i64 c.side, .int .i64 x, .int .i64 c.stop] rfl (wanted_b rfl rfl (hD 7 12 (by kernel_rfl)) (eq_true_of hb)) (exec_call 19 _ [.tmp 14, .tmp 15, .tmp 17] _ [.int .i64 c.side, .int .i64 x, .int .i64 c.stop] Try.func19 (by kernel_rfl) (by kernel_rfl) rfl (show [a.eval (.tmp 14), a.eval (.tmp 15), a.eval (.tmp 17)] = [.int .i64 c.side, .int .i64 x, .int .i64 c.stop] from (by rw [show a.eval (.tmp 14) = .int .i64 c.side from ((hD 9 14 (by kernel_rfl)).1 hb), show a.eval (.tmp 15) = .int .i64 x from ((hD 10 15 (by kernel_rfl)).1 hb), show a.eval (.tmp 17) = .int .i64 c.stop from ((hD 12 17 (by kernel_rfl)).1 hb)] <;> rfl)) u) (reaches_any _ _ _ u))) ?_
    refine fsteps_cons 15 rfl (fun a u hE hD hk => f_val (o := ⟨some 19, _, _, _, _, _⟩) (.bool (((decide ((0 : Int) < (c.stop : Int))) && (decide ((0 : Int) < (x : Int)))) && (!bet c.side c.stop x))) rfl (wanted_none rfl _) (exec_pickand (.tmp 12) (.tmp 18) (.const (.bool false)) (((decide ((0 : Int) < (c.stop : Int))) && (decide ((0 : Int) < (x : Int))))) ((!bet c.side c.stop x)) rfl (hD 7 12 (by kernel_rfl)) (fun hb2 => ((hD 13 18 (by kernel_rfl)).1 hb2)) rfl) rfl) ?_
    exact fsteps_nil
  intro gv w1 hV k1
  rw [show dstsOf _ 15 = [5, 6, 7, 8, 9, 10, 11, 12, 13, 14, 15, 16, 17, 18, 19] by kernel_rfl]
  simp only [List.foldl_cons, List.foldl_nil, List.setIfInBounds_toArray, List.set_cons_succ, List.set_cons_zero, List.drop_succ_cons, List.drop_zero]
  rw [show gv 19 = .bool (((decide ((0 : Int) < (c.stop : Int))) && (decide ((0 : Int) < (x : Int)))) && (!bet c.side c.stop x)) from hV 14 19 (by kernel_rfl)]
  clear hV
  have HB1 := Lib.hid (HB0.out.kept k1)
  have kw1 := kw0.trans k1
  clear k1 kw0
  go_wp2
  go_ret
  exact ⟨_, rfl, rfl, kw1⟩

set_option maxRecDepth 100000 in
set_option maxHeartbeats 800000 in
theorem value_any (c : Ord) (hp : In64 c.price) (hq : In64 c.qty) (w : World) : Gives 12 #[c.v] w (.eq (two (timesM c.price c.qty))) := by
  generalize hP : timesM c.price c.qty = P
  obtain ⟨p1, p2⟩ := P
  unfold Gives Ord.v
  have HT : Hid True := trivial
  have HB0 : Hid (Blk (w.alloc (.cells c.cells.toArray 23)) w.heap.size 23 c.cells) := Blk.new w _ _
  have kw0 : Kept w (w.alloc (.cells c.cells.toArray 23)) := (Keep.refl _ w).alloc _
  go_enter Try.func12, Try.ntmps12
  go_upto_region 1 with fail
  generalize w.alloc (.cells c.cells.toArray 23) = w0 at HB0 kw0 ⊢
  generalize w.heap.size = g at HB0 ⊢
  refine wp_text 7 [.eq (.pointer (some ⟨g, 5, none⟩)), .eq (.int .i64 c.price), .eq (.pointer (some ⟨g, 6, none⟩)), .eq (.int .i64 c.qty), .eq (.tuple #[.int .i64 p1, .int .i64 p2]), .eq (.int .i64 p1), .eq (.int .i64 p2)] rfl (by kernel_rfl) ?_ ?_
  · refine fsteps_cons 1 rfl (fun a u hE hD hk => f_val (o := ⟨some 4, _, _, _, _, _⟩) (.pointer (some ⟨g, 5, none⟩)) rfl (wanted_none rfl _) (exec_fld 23 5 5 (.tmp 1) (g) rfl (hE 1 (.pointer (some ⟨g, 0, none⟩)) (by kernel_rfl) (by kernel_rfl)) (by kernel_rfl)) rfl) ?_
    refine fsteps_cons 2 rfl (fun a u hE hD hk => f_val (o := ⟨some 5, _, _, _, _, _⟩) (.int .i64 c.price) rfl (wanted_none rfl _) (exec_loadi 3 Try.underlying3 (.tmp 4) ⟨g, 5, none⟩ (.int .i64 c.price) rfl (hD 0 4 (by kernel_rfl)) ((HB0.out.kept hk).fld 5 _ rfl)) rfl) ?_
    refine fsteps_cons 3 rfl (fun a u hE hD hk => f_val (o := ⟨some 6, _, _, _, _, _⟩) (.pointer (some ⟨g, 6, none⟩)) rfl (wanted_none rfl _) (exec_fld 23 6 6 (.tmp 1) (g) rfl (hE 1 (.pointer (some ⟨g, 0, none⟩)) (by kernel_rfl) (by kernel_rfl)) (by kernel_rfl)) rfl) ?_
    refine fsteps_cons 4 rfl (fun a u hE hD hk => f_val (o := ⟨some 7, _, _, _, _, _⟩) (.int .i64 c.qty) rfl (wanted_none rfl _) (exec_loadi 3 Try.underlying3 (.tmp 6) ⟨g, 6, none⟩ (.int .i64 c.qty) rfl (hD 2 6 (by kernel_rfl)) ((HB0.out.kept hk).fld 6 _ rfl)) rfl) ?_
    refine fsteps_cons 5 rfl (fun a u hE hD hk => f_call (o := ⟨some 8, _, _, _, _, _⟩) 24 #[.int .i64 c.price, .int .i64 c.qty] rfl (wanted_none rfl _) (exec_call 24 _ [.tmp 5, .tmp 7] _ [.int .i64 c.price, .int .i64 c.qty] Try.func24 (by kernel_rfl) (by kernel_rfl) rfl (show [a.eval (.tmp 5), a.eval (.tmp 7)] = [.int .i64 c.price, .int .i64 c.qty] from (by rw [show a.eval (.tmp 5) = .int .i64 c.price from (hD 1 5 (by kernel_rfl)), show a.eval (.tmp 7) = .int .i64 c.qty from (hD 3 7 (by kernel_rfl))] <;> rfl)) u) ((by have h := gives_same (sums_times c.price c.qty u hp hq); rw [hP] at h; exact h))) ?_
    refine fsteps_cons 6 rfl (fun a u hE hD hk => f_val (o := ⟨some 9, _, _, _, _, _⟩) (.int .i64 p1) rfl (wanted_none rfl _) (exec_extract (.tmp 8) [.int .i64 p1, .int .i64 p2] 0 _ rfl (hD 4 8 (by kernel_rfl)) rfl) rfl) ?_
    refine fsteps_cons 7 rfl (fun a u hE hD hk => f_val (o := ⟨some 10, _, _, _, _, _⟩) (.int .i64 p2) rfl (wanted_none rfl _) (exec_extract (.tmp 8) [.int .i64 p1, .int .i64 p2] 1 _ rfl (hD 4 8 (by kernel_rfl)) rfl) rfl) ?_
    exact fsteps_nil
  intro gv w1 hV k1
  rw [show dstsOf _ 7 = [4, 5, 6, 7, 8, 9, 10] by kernel_rfl]
  simp only [List.foldl_cons, List.foldl_nil, List.setIfInBounds_toArray, List.set_cons_succ, List.set_cons_zero, List.drop_succ_cons, List.drop_zero]
  rw [show gv 9 = .int .i64 p1 from hV 5 9 (by kernel_rfl)]
  rw [show gv 10 = .int .i64 p2 from hV 6 10 (by kernel_rfl)]
  clear hV
  go_wp2
  go_ret2
  exact ⟨_, rfl, rfl, kw0.trans k1⟩

set_option maxRecDepth 100000 in
set_option maxHeartbeats 800000 in
theorem refValue_any (c : Ord) (hp : In64 c.price) (hq : In64 c.qty) (w : World) : Gives 13 #[c.v] w (.eq (two (timesM c.price c.qty))) := by
  generalize hP : timesM c.price c.qty = P
  obtain ⟨p1, p2⟩ := P
  unfold Gives Ord.v
  have HT : Hid True := trivial
  have HB0 : Hid (Blk (w.alloc (.cells c.cells.toArray 23)) w.heap.size 23 c.cells) := Blk.new w _ _
  have kw0 : Kept w (w.alloc (.cells c.cells.toArray 23)) := (Keep.refl _ w).alloc _
  go_enter Try.func13, Try.ntmps13
  go_upto_region 1 with fail
  generalize w.alloc (.cells c.cells.toArray 23) = w0 at HB0 kw0 ⊢
  generalize w.heap.size = g at HB0 ⊢
  refine wp_text 7 [.eq (.pointer (some ⟨g, 5, none⟩)), .eq (.int .i64 c.price), .eq (.pointer (some ⟨g, 6, none⟩)), .eq (.int .i64 c.qty), .eq (.tuple #[.int .i64 p1, .int .i64 p2]), .eq (.int .i64 p1), .eq (.int .i64 p2)] rfl (by kernel_rfl) ?_ ?_
  · refine fsteps_cons 1 rfl (fun a u hE hD hk => f_val (o := ⟨some 4, _, _, _, _, _⟩) (.pointer (some ⟨g, 5, none⟩)) rfl (wanted_none rfl _) (exec_fld 23 5 5 (.tmp 1) (g) rfl (hE 1 (.pointer (some ⟨g, 0, none⟩)) (by kernel_rfl) (by kernel_rfl)) (by kernel_rfl)) rfl) ?_
    refine fsteps_cons 2 rfl (fun a u hE hD hk => f_val (o := ⟨some 5, _, _, _, _, _⟩) (.int .i64 c.price) rfl (wanted_none rfl _) (exec_loadi 3 Try.underlying3 (.tmp 4) ⟨g, 5, none⟩ (.int .i64 c.price) rfl (hD 0 4 (by kernel_rfl)) ((HB0.out.kept hk).fld 5 _ rfl)) rfl) ?_
    refine fsteps_cons 3 rfl (fun a u hE hD hk => f_val (o := ⟨some 6, _, _, _, _, _⟩) (.pointer (some ⟨g, 6, none⟩)) rfl (wanted_none rfl _) (exec_fld 23 6 6 (.tmp 1) (g) rfl (hE 1 (.pointer (some ⟨g, 0, none⟩)) (by kernel_rfl) (by kernel_rfl)) (by kernel_rfl)) rfl) ?_
    refine fsteps_cons 4 rfl (fun a u hE hD hk => f_val (o := ⟨some 7, _, _, _, _, _⟩) (.int .i64 c.qty) rfl (wanted_none rfl _) (exec_loadi 3 Try.underlying3 (.tmp 6) ⟨g, 6, none⟩ (.int .i64 c.qty) rfl (hD 2 6 (by kernel_rfl)) ((HB0.out.kept hk).fld 6 _ rfl)) rfl) ?_
    refine fsteps_cons 5 rfl (fun a u hE hD hk => f_call (o := ⟨some 8, _, _, _, _, _⟩) 25 #[.int .i64 c.price, .int .i64 c.qty] rfl (wanted_none rfl _) (exec_call 25 _ [.tmp 5, .tmp 7] _ [.int .i64 c.price, .int .i64 c.qty] Try.func25 (by kernel_rfl) (by kernel_rfl) rfl (show [a.eval (.tmp 5), a.eval (.tmp 7)] = [.int .i64 c.price, .int .i64 c.qty] from (by rw [show a.eval (.tmp 5) = .int .i64 c.price from (hD 1 5 (by kernel_rfl)), show a.eval (.tmp 7) = .int .i64 c.qty from (hD 3 7 (by kernel_rfl))] <;> rfl)) u) ((by have h := gives_same (ref_times c.price c.qty u hp hq); rw [hP] at h; exact h))) ?_
    refine fsteps_cons 6 rfl (fun a u hE hD hk => f_val (o := ⟨some 9, _, _, _, _, _⟩) (.int .i64 p1) rfl (wanted_none rfl _) (exec_extract (.tmp 8) [.int .i64 p1, .int .i64 p2] 0 _ rfl (hD 4 8 (by kernel_rfl)) rfl) rfl) ?_
    refine fsteps_cons 7 rfl (fun a u hE hD hk => f_val (o := ⟨some 10, _, _, _, _, _⟩) (.int .i64 p2) rfl (wanted_none rfl _) (exec_extract (.tmp 8) [.int .i64 p1, .int .i64 p2] 1 _ rfl (hD 4 8 (by kernel_rfl)) rfl) rfl) ?_
    exact fsteps_nil
  intro gv w1 hV k1
  rw [show dstsOf _ 7 = [4, 5, 6, 7, 8, 9, 10] by kernel_rfl]
  simp only [List.foldl_cons, List.foldl_nil, List.setIfInBounds_toArray, List.set_cons_succ, List.set_cons_zero, List.drop_succ_cons, List.drop_zero]
  rw [show gv 9 = .int .i64 p1 from hV 5 9 (by kernel_rfl)]
  rw [show gv 10 = .int .i64 p2 from hV 6 10 (by kernel_rfl)]
  clear hV
  go_wp2
  go_ret2
  exact ⟨_, rfl, rfl, kw0.trans k1⟩

set_option maxRecDepth 100000 in
set_option maxHeartbeats 800000 in
theorem refCrosses_m (c : Ord) (x : Int) (hK : decide (c.k = 2) = true) (w : World) : Gives 15 #[c.v, .int .i64 x] w (.eq (.bool true)) := by
  unfold Gives Ord.v
  have HT : Hid True := trivial
  have HB0 : Hid (Blk (w.alloc (.cells c.cells.toArray 23)) w.heap.size 23 c.cells) := Blk.new w _ _
  have kw0 : Kept w (w.alloc (.cells c.cells.toArray 23)) := (Keep.refl _ w).alloc _
  go_enter Try.func15, Try.ntmps15
  go_upto_region 1 with fail
  generalize w.alloc (.cells c.cells.toArray 23) = w0 at HB0 kw0 ⊢
  generalize w.heap.size = g at HB0 ⊢
  refine wp_text 4 [.eq (.pointer (some ⟨g, 4, none⟩)), .eq (.int .i64 c.k), .eq (.bool true), .eq (.bool true)] rfl (by kernel_rfl) ?_ ?_
  · refine fsteps_cons 1 rfl (fun a u hE hD hk => f_val (o := ⟨some 6, _, _, _, _, _⟩) (.pointer (some ⟨g, 4, none⟩)) rfl (wanted_none rfl _) (exec_fld 23 4 4 (.tmp 2) (g) rfl (hE 2 (.pointer (some ⟨g, 0, none⟩)) (by kernel_rfl) (by kernel_rfl)) (by kernel_rfl)) rfl) ?_
    refine fsteps_cons 2 rfl (fun a u hE hD hk => f_val (o := ⟨some 7, _, _, _, _, _⟩) (.int .i64 c.k) rfl (wanted_none rfl _) (exec_loadi 3 Try.underlying3 (.tmp 6) ⟨g, 4, none⟩ (.int .i64 c.k) rfl (hD 0 6 (by kernel_rfl)) ((HB0.out.kept hk).fld 4 _ rfl)) rfl) ?_
    refine fsteps_cons 3 rfl (fun a u hE hD hk => f_as (show ((decide ((c.k : Int) = (2 : Int))) : Bool) = true from hK) (f_val (o := ⟨some 8, _, _, _, _, _⟩) (.bool (decide ((c.k : Int) = (2 : Int)))) rfl (wanted_none rfl _) (exec_eqn (p := c.k) (q := 2) rfl (hD 1 7 (by kernel_rfl)) rfl) rfl)) ?_
    refine fsteps_cons 4 rfl (fun a u hE hD hk => f_val (o := ⟨some 5, _, _, _, _, _⟩) (.bool true) rfl (wanted_none rfl _) (exec_assign (.tmp 8) (.bool true) rfl (hD 2 8 (by kernel_rfl))) rfl) ?_
    exact fsteps_nil
  intro gv w1 hV k1
  rw [show dstsOf _ 4 = [6, 7, 8, 5] by kernel_rfl]
  simp only [List.foldl_cons, List.foldl_nil, List.setIfInBounds_toArray, List.set_cons_succ, List.set_cons_zero, List.drop_succ_cons, List.drop_zero]
  rw [show gv 5 = .bool true from hV 3 5 (by kernel_rfl)]
  clear hV
  refine wpList_nil ?_
  have HB1 := Lib.hid (HB0.out.kept k1)
  have kw1 := kw0.trans k1
  clear k1 kw0
  go_wp2
  go_ret
  exact ⟨_, rfl, rfl, kw1⟩

set_option maxRecDepth 100000 in
set_option maxHeartbeats 800000 in
theorem refCrosses_b (c : Ord) (x : Int) (hK : decide (c.k = 2) = false) (hS : decide (c.side = 1) = true) (w : World) : Gives 15 #[c.v, .int .i64 x] w (.eq (.bool (decide (x ≤ c.price)))) := by
  unfold Gives Ord.v
  have HT : Hid True := trivial
  have HB0 : Hid (Blk (w.alloc (.cells c.cells.toArray 23)) w.heap.size 23 c.cells) := Blk.new w _ _
  have kw0 : Kept w (w.alloc (.cells c.cells.toArray 23)) := (Keep.refl _ w).alloc _
  go_enter Try.func15, Try.ntmps15
  go_upto_region 1 with fail
  generalize w.alloc (.cells c.cells.toArray 23) = w0 at HB0 kw0 ⊢
  generalize w.heap.size = g at HB0 ⊢
  refine wp_text 4 [.eq (.pointer (some ⟨g, 4, none⟩)), .eq (.int .i64 c.k), .eq (.bool false), .eq (.bool false)] rfl (by kernel_rfl) ?_ ?_
  · refine fsteps_cons 1 rfl (fun a u hE hD hk => f_val (o := ⟨some 6, _, _, _, _, _⟩) (.pointer (some ⟨g, 4, none⟩)) rfl (wanted_none rfl _) (exec_fld 23 4 4 (.tmp 2) (g) rfl (hE 2 (.pointer (some ⟨g, 0, none⟩)) (by kernel_rfl) (by kernel_rfl)) (by kernel_rfl)) rfl) ?_
    refine fsteps_cons 2 rfl (fun a u hE hD hk => f_val (o := ⟨some 7, _, _, _, _, _⟩) (.int .i64 c.k) rfl (wanted_none rfl _) (exec_loadi 3 Try.underlying3 (.tmp 6) ⟨g, 4, none⟩ (.int .i64 c.k) rfl (hD 0 6 (by kernel_rfl)) ((HB0.out.kept hk).fld 4 _ rfl)) rfl) ?_
    refine fsteps_cons 3 rfl (fun a u hE hD hk => f_as (show ((decide ((c.k : Int) = (2 : Int))) : Bool) = false from hK) (f_val (o := ⟨some 8, _, _, _, _, _⟩) (.bool (decide ((c.k : Int) = (2 : Int)))) rfl (wanted_none rfl _) (exec_eqn (p := c.k) (q := 2) rfl (hD 1 7 (by kernel_rfl)) rfl) rfl)) ?_
    refine fsteps_cons 4 rfl (fun a u hE hD hk => f_val (o := ⟨some 5, _, _, _, _, _⟩) (.bool false) rfl (wanted_none rfl _) (exec_assign (.tmp 8) (.bool false) rfl (hD 2 8 (by kernel_rfl))) rfl) ?_
    exact fsteps_nil
  intro gv w1 hV k1
  rw [show dstsOf _ 4 = [6, 7, 8, 5] by kernel_rfl]
  simp only [List.foldl_cons, List.foldl_nil, List.setIfInBounds_toArray, List.set_cons_succ, List.set_cons_zero, List.drop_succ_cons, List.drop_zero]
  rw [show gv 5 = .bool false from hV 3 5 (by kernel_rfl)]
  clear hV
  refine wpList_nil ?_
  have HB1 := Lib.hid (HB0.out.kept k1)
  have kw1 := kw0.trans k1
  clear k1 kw0
  go_upto_region 3 with fail
  refine wp_text 4 [.eq (.pointer (some ⟨g, 3, none⟩)), .eq (.int .i64 c.side), .eq (.bool true), .eq (.bool true)] rfl (by kernel_rfl) ?_ ?_
  · refine fsteps_cons 1 rfl (fun a u hE hD hk => f_val (o := ⟨some 10, _, _, _, _, _⟩) (.pointer (some ⟨g, 3, none⟩)) rfl (wanted_none rfl _) (exec_fld 23 3 3 (.tmp 2) (g) rfl (hE 2 (.pointer (some ⟨g, 0, none⟩)) (by kernel_rfl) (by kernel_rfl)) (by kernel_rfl)) rfl) ?_
    refine fsteps_cons 2 rfl (fun a u hE hD hk => f_val (o := ⟨some 11, _, _, _, _, _⟩) (.int .i64 c.side) rfl (wanted_none rfl _) (exec_loadi 3 Try.underlying3 (.tmp 10) ⟨g, 3, none⟩ (.int .i64 c.side) rfl (hD 0 10 (by kernel_rfl)) ((HB1.out.kept hk).fld 3 _ rfl)) rfl) ?_
    refine fsteps_cons 3 rfl (fun a u hE hD hk => f_as (show ((decide ((c.side : Int) = (1 : Int))) : Bool) = true from hS) (f_val (o := ⟨some 12, _, _, _, _, _⟩) (.bool (decide ((c.side : Int) = (1 : Int)))) rfl (wanted_none rfl _) (exec_eqn (p := c.side) (q := 1) rfl (hD 1 11 (by kernel_rfl)) rfl) rfl)) ?_
    refine fsteps_cons 4 rfl (fun a u hE hD hk => f_val (o := ⟨some 9, _, _, _, _, _⟩) (.bool true) rfl (wanted_none rfl _) (exec_assign (.tmp 12) (.bool true) rfl (hD 2 12 (by kernel_rfl))) rfl) ?_
    exact fsteps_nil
  intro gv w2 hV k2
  rw [show dstsOf _ 4 = [10, 11, 12, 9] by kernel_rfl]
  simp only [List.foldl_cons, List.foldl_nil, List.setIfInBounds_toArray, List.set_cons_succ, List.set_cons_zero, List.drop_succ_cons, List.drop_zero]
  rw [show gv 9 = .bool true from hV 3 9 (by kernel_rfl)]
  clear hV
  refine wpList_nil ?_
  have HB2 := Lib.hid (HB1.out.kept k2)
  have kw2 := kw1.trans k2
  clear k2 kw1
  go_upto_region 4 with fail
  refine wp_text 4 [.eq (.pointer (some ⟨g, 5, none⟩)), .eq (.int .i64 c.price), .eq (.int .i64 x), .eq (.bool (decide ((x : Int) ≤ (c.price : Int))))] rfl (by kernel_rfl) ?_ ?_
  · refine fsteps_cons 1 rfl (fun a u hE hD hk => f_val (o := ⟨some 13, _, _, _, _, _⟩) (.pointer (some ⟨g, 5, none⟩)) rfl (wanted_none rfl _) (exec_fld 23 5 5 (.tmp 2) (g) rfl (hE 2 (.pointer (some ⟨g, 0, none⟩)) (by kernel_rfl) (by kernel_rfl)) (by kernel_rfl)) rfl) ?_
    refine fsteps_cons 2 rfl (fun a u hE hD hk => f_val (o := ⟨some 14, _, _, _, _, _⟩) (.int .i64 c.price) rfl (wanted_none rfl _) (exec_loadi 3 Try.underlying3 (.tmp 13) ⟨g, 5, none⟩ (.int .i64 c.price) rfl (hD 0 13 (by kernel_rfl)) ((HB2.out.kept hk).fld 5 _ rfl)) rfl) ?_
    refine fsteps_cons 3 rfl (fun a u hE hD hk => f_val (o := ⟨some 15, _, _, _, _, _⟩) (.int .i64 x) rfl (wanted_none rfl _) (exec_move (.tmp 1) (.int .i64 x) rfl (hE 1 (.int .i64 x) (by kernel_rfl) (by kernel_rfl))) rfl) ?_
    refine fsteps_cons 4 rfl (fun a u hE hD hk => f_val (o := ⟨some 16, _, _, _, _, _⟩) (.bool (decide ((x : Int) ≤ (c.price : Int)))) rfl (wanted_none rfl _) (exec_gen (p := c.price) (q := x) rfl (hD 1 14 (by kernel_rfl)) (hD 2 15 (by kernel_rfl))) rfl) ?_
    exact fsteps_nil
  intro gv w3 hV k3
  rw [show dstsOf _ 4 = [13, 14, 15, 16] by kernel_rfl]
  simp only [List.foldl_cons, List.foldl_nil, List.setIfInBounds_toArray, List.set_cons_succ, List.set_cons_zero, List.drop_succ_cons, List.drop_zero]
  rw [show gv 16 = .bool (decide ((x : Int) ≤ (c.price : Int))) from hV 3 16 (by kernel_rfl)]
  clear hV
  have HB3 := Lib.hid (HB2.out.kept k3)
  have kw3 := kw2.trans k3
  clear k3 kw2
  go_wp2
  go_ret
  exact ⟨_, rfl, rfl, kw3⟩

set_option maxRecDepth 100000 in
set_option maxHeartbeats 800000 in
theorem refCrosses_s (c : Ord) (x : Int) (hK : decide (c.k = 2) = false) (hS : decide (c.side = 1) = false) (w : World) : Gives 15 #[c.v, .int .i64 x] w (.eq (.bool (decide (c.price ≤ x)))) := by
  unfold Gives Ord.v
  have HT : Hid True := trivial
  have HB0 : Hid (Blk (w.alloc (.cells c.cells.toArray 23)) w.heap.size 23 c.cells) := Blk.new w _ _
  have kw0 : Kept w (w.alloc (.cells c.cells.toArray 23)) := (Keep.refl _ w).alloc _
  go_enter Try.func15, Try.ntmps15
  go_upto_region 1 with fail
  generalize w.alloc (.cells c.cells.toArray 23) = w0 at HB0 kw0 ⊢
  generalize w.heap.size = g at HB0 ⊢
  refine wp_text 4 [.eq (.pointer (some ⟨g, 4, none⟩)), .eq (.int .i64 c.k), .eq (.bool false), .eq (.bool false)] rfl (by kernel_rfl) ?_ ?_
  · refine fsteps_cons 1 rfl (fun a u hE hD hk => f_val (o := ⟨some 6, _, _, _, _, _⟩) (.pointer (some ⟨g, 4, none⟩)) rfl (wanted_none rfl _) (exec_fld 23 4 4 (.tmp 2) (g) rfl (hE 2 (.pointer (some ⟨g, 0, none⟩)) (by kernel_rfl) (by kernel_rfl)) (by kernel_rfl)) rfl) ?_
    refine fsteps_cons 2 rfl (fun a u hE hD hk => f_val (o := ⟨some 7, _, _, _, _, _⟩) (.int .i64 c.k) rfl (wanted_none rfl _) (exec_loadi 3 Try.underlying3 (.tmp 6) ⟨g, 4, none⟩ (.int .i64 c.k) rfl (hD 0 6 (by kernel_rfl)) ((HB0.out.kept hk).fld 4 _ rfl)) rfl) ?_
    refine fsteps_cons 3 rfl (fun a u hE hD hk => f_as (show ((decide ((c.k : Int) = (2 : Int))) : Bool) = false from hK) (f_val (o := ⟨some 8, _, _, _, _, _⟩) (.bool (decide ((c.k : Int) = (2 : Int)))) rfl (wanted_none rfl _) (exec_eqn (p := c.k) (q := 2) rfl (hD 1 7 (by kernel_rfl)) rfl) rfl)) ?_
    refine fsteps_cons 4 rfl (fun a u hE hD hk => f_val (o := ⟨some 5, _, _, _, _, _⟩) (.bool false) rfl (wanted_none rfl _) (exec_assign (.tmp 8) (.bool false) rfl (hD 2 8 (by kernel_rfl))) rfl) ?_
    exact fsteps_nil
  intro gv w1 hV k1
  rw [show dstsOf _ 4 = [6, 7, 8, 5] by kernel_rfl]
  simp only [List.foldl_cons, List.foldl_nil, List.setIfInBounds_toArray, List.set_cons_succ, List.set_cons_zero, List.drop_succ_cons, List.drop_zero]
  rw [show gv 5 = .bool false from hV 3 5 (by kernel_rfl)]
  clear hV
  refine wpList_nil ?_
  have HB1 := Lib.hid (HB0.out.kept k1)
  have kw1 := kw0.trans k1
  clear k1 kw0
  go_upto_region 3 with fail
  refine wp_text 4 [.eq (.pointer (some ⟨g, 3, none⟩)), .eq (.int .i64 c.side), .eq (.bool false), .eq (.bool false)] rfl (by kernel_rfl) ?_ ?_
  · refine fsteps_cons 1 rfl (fun a u hE hD hk => f_val (o := ⟨some 10, _, _, _, _, _⟩) (.pointer (some ⟨g, 3, none⟩)) rfl (wanted_none rfl _) (exec_fld 23 3 3 (.tmp 2) (g) rfl (hE 2 (.pointer (some ⟨g, 0, none⟩)) (by kernel_rfl) (by kernel_rfl)) (by kernel_rfl)) rfl) ?_
    refine fsteps_cons 2 rfl (fun a u hE hD hk => f_val (o := ⟨some 11, _, _, _, _, _⟩) (.int .i64 c.side) rfl (wanted_none rfl _) (exec_loadi 3 Try.underlying3 (.tmp 10) ⟨g, 3, none⟩ (.int .i64 c.side) rfl (hD 0 10 (by kernel_rfl)) ((HB1.out.kept hk).fld 3 _ rfl)) rfl) ?_
    refine fsteps_cons 3 rfl (fun a u hE hD hk => f_as (show ((decide ((c.side : Int) = (1 : Int))) : Bool) = false from hS) (f_val (o := ⟨some 12, _, _, _, _, _⟩) (.bool (decide ((c.side : Int) = (1 : Int)))) rfl (wanted_none rfl _) (exec_eqn (p := c.side) (q := 1) rfl (hD 1 11 (by kernel_rfl)) rfl) rfl)) ?_
    refine fsteps_cons 4 rfl (fun a u hE hD hk => f_val (o := ⟨some 9, _, _, _, _, _⟩) (.bool false) rfl (wanted_none rfl _) (exec_assign (.tmp 12) (.bool false) rfl (hD 2 12 (by kernel_rfl))) rfl) ?_
    exact fsteps_nil
  intro gv w2 hV k2
  rw [show dstsOf _ 4 = [10, 11, 12, 9] by kernel_rfl]
  simp only [List.foldl_cons, List.foldl_nil, List.setIfInBounds_toArray, List.set_cons_succ, List.set_cons_zero, List.drop_succ_cons, List.drop_zero]
  rw [show gv 9 = .bool false from hV 3 9 (by kernel_rfl)]
  clear hV
  refine wpList_nil ?_
  have HB2 := Lib.hid (HB1.out.kept k2)
  have kw2 := kw1.trans k2
  clear k2 kw1
  go_upto_region 5 with fail
  refine wp_text 4 [.eq (.pointer (some ⟨g, 5, none⟩)), .eq (.int .i64 c.price), .eq (.int .i64 x), .eq (.bool (decide ((c.price : Int) ≤ (x : Int))))] rfl (by kernel_rfl) ?_ ?_
  · refine fsteps_cons 1 rfl (fun a u hE hD hk => f_val (o := ⟨some 17, _, _, _, _, _⟩) (.pointer (some ⟨g, 5, none⟩)) rfl (wanted_none rfl _) (exec_fld 23 5 5 (.tmp 2) (g) rfl (hE 2 (.pointer (some ⟨g, 0, none⟩)) (by kernel_rfl) (by kernel_rfl)) (by kernel_rfl)) rfl) ?_
    refine fsteps_cons 2 rfl (fun a u hE hD hk => f_val (o := ⟨some 18, _, _, _, _, _⟩) (.int .i64 c.price) rfl (wanted_none rfl _) (exec_loadi 3 Try.underlying3 (.tmp 17) ⟨g, 5, none⟩ (.int .i64 c.price) rfl (hD 0 17 (by kernel_rfl)) ((HB2.out.kept hk).fld 5 _ rfl)) rfl) ?_
    refine fsteps_cons 3 rfl (fun a u hE hD hk => f_val (o := ⟨some 19, _, _, _, _, _⟩) (.int .i64 x) rfl (wanted_none rfl _) (exec_move (.tmp 1) (.int .i64 x) rfl (hE 1 (.int .i64 x) (by kernel_rfl) (by kernel_rfl))) rfl) ?_
    refine fsteps_cons 4 rfl (fun a u hE hD hk => f_val (o := ⟨some 20, _, _, _, _, _⟩) (.bool (decide ((c.price : Int) ≤ (x : Int)))) rfl (wanted_none rfl _) (exec_len_ (p := c.price) (q := x) rfl (hD 1 18 (by kernel_rfl)) (hD 2 19 (by kernel_rfl))) rfl) ?_
    exact fsteps_nil
  intro gv w3 hV k3
  rw [show dstsOf _ 4 = [17, 18, 19, 20] by kernel_rfl]
  simp only [List.foldl_cons, List.foldl_nil, List.setIfInBounds_toArray, List.set_cons_succ, List.set_cons_zero, List.drop_succ_cons, List.drop_zero]
  rw [show gv 20 = .bool (decide ((c.price : Int) ≤ (x : Int))) from hV 3 20 (by kernel_rfl)]
  clear hV
  have HB3 := Lib.hid (HB2.out.kept k3)
  have kw3 := kw2.trans k3
  clear k3 kw2
  go_wp2
  go_ret
  exact ⟨_, rfl, rfl, kw3⟩

theorem bet_buy (x y : Int) : bet 1 x y = decide (y < x) := by unfold bet; rw [if_pos rfl]
theorem not_bet_buy (s x y : Int) (h : decide (s = 1) = true) : (!bet s x y) = decide (x ≤ y) := by
  unfold bet
  rw [if_pos (by simpa using h)]
  by_cases hx : x ≤ y
  · rw [decide_eq_true hx, decide_eq_false (by omega)]; rfl
  · rw [decide_eq_false hx, decide_eq_true (by omega)]; rfl
theorem not_bet_sell (s x y : Int) (h : decide (s = 1) = false) : (!bet s x y) = decide (y ≤ x) := by
  unfold bet
  rw [if_neg (by simpa using h)]
  by_cases hx : y ≤ x
  · rw [decide_eq_true hx, decide_eq_false (by omega)]; rfl
  · rw [decide_eq_false hx, decide_eq_true (by omega)]; rfl

theorem refCrosses_any (c : Ord) (x : Int) (w : World) : Gives 15 #[c.v, .int .i64 x] w (.eq (.bool (c.crosses x))) := by
  unfold Ord.crosses
  cases hK : decide (c.k = 2) with
  | true => exact refCrosses_m c x hK w
  | false =>
    rw [Bool.false_or]
    cases hS : decide (c.side = 1) with
    | true => rw [not_bet_buy _ _ _ hS]; exact refCrosses_b c x hK hS w
    | false => rw [not_bet_sell _ _ _ hS]; exact refCrosses_s c x hK hS w

set_option maxRecDepth 100000 in
set_option maxHeartbeats 800000 in
theorem refHit_n (c : Ord) (x : Int) (hN : (decide (c.stop < 1) || decide (x < 1)) = true) (w : World) : Gives 16 #[c.v, .int .i64 x] w (.eq (.bool false)) := by
  unfold Gives Ord.v
  have HT : Hid True := trivial
  have HB0 : Hid (Blk (w.alloc (.cells c.cells.toArray 23)) w.heap.size 23 c.cells) := Blk.new w _ _
  have kw0 : Kept w (w.alloc (.cells c.cells.toArray 23)) := (Keep.refl _ w).alloc _
  go_enter Try.func16, Try.ntmps16
  go_upto_region 1 with fail
  generalize w.alloc (.cells c.cells.toArray 23) = w0 at HB0 kw0 ⊢
  generalize w.heap.size = g at HB0 ⊢
  refine wp_text 8 [.eq (.pointer (some ⟨g, 8, none⟩)), .eq (.int .i64 c.stop), .eq (.bool (decide ((c.stop : Int) < (1 : Int)))), .eq (.bool (decide ((c.stop : Int) < (1 : Int)))), .cond (!(decide ((c.stop : Int) < (1 : Int)))) (.eq (.int .i64 x)), .cond (!(decide ((c.stop : Int) < (1 : Int)))) (.eq (.bool (decide ((x : Int) < (1 : Int))))), .eq (.bool true), .eq (.bool true)] rfl (by kernel_rfl) ?_ ?_
  · refine fsteps_cons 1 rfl (fun a u hE hD hk => f_val (o := ⟨some 6, _, _, _, _, _⟩) (.pointer (some ⟨g, 8, none⟩)) rfl (wanted_none rfl _) (exec_fld 23 8 8 (.tmp 2) (g) rfl (hE 2 (.pointer (some ⟨g, 0, none⟩)) (by kernel_rfl) (by kernel_rfl)) (by kernel_rfl)) rfl) ?_
    refine fsteps_cons 2 rfl (fun a u hE hD hk => f_val (o := ⟨some 7, _, _, _, _, _⟩) (.int .i64 c.stop) rfl (wanted_none rfl _) (exec_loadi 3 Try.underlying3 (.tmp 6) ⟨g, 8, none⟩ (.int .i64 c.stop) rfl (hD 0 6 (by kernel_rfl)) ((HB0.out.kept hk).fld 8 _ rfl)) rfl) ?_
    refine fsteps_cons 3 rfl (fun a u hE hD hk => f_val (o := ⟨some 8, _, _, _, _, _⟩) (.bool (decide ((c.stop : Int) < (1 : Int)))) rfl (wanted_none rfl _) (exec_ltn (p := c.stop) (q := 1) rfl (hD 1 7 (by kernel_rfl)) rfl) rfl) ?_
    refine fsteps_cons 4 rfl (fun a u hE hD hk => f_val (o := ⟨some 9, _, _, _, _, _⟩) (.bool (decide ((c.stop : Int) < (1 : Int)))) rfl (wanted_none rfl _) (exec_move (.tmp 8) (.bool (decide ((c.stop : Int) < (1 : Int)))) rfl (hD 2 8 (by kernel_rfl))) rfl) ?_
    refine fsteps_cons 5 rfl (fun a u hE hD hk => f_unless ((decide ((c.stop : Int) < (1 : Int)))) rfl rfl rfl (hD 3 9 (by kernel_rfl)) (fun hb => f_val (o := ⟨some 10, _, _, _, _, _⟩) (.int .i64 x) rfl (wanted_b rfl rfl (hD 3 9 (by kernel_rfl)) (eq_false_of hb)) (exec_move (.tmp 1) (.int .i64 x) rfl (hE 1 (.int .i64 x) (by kernel_rfl) (by kernel_rfl))) rfl)) ?_
    refine fsteps_cons 6 rfl (fun a u hE hD hk => f_unless ((decide ((c.stop : Int) < (1 : Int)))) rfl rfl rfl (hD 3 9 (by kernel_rfl)) (fun hb => f_val (o := ⟨some 11, _, _, _, _, _⟩) (.bool (decide ((x : Int) < (1 : Int)))) rfl (wanted_b rfl rfl (hD 3 9 (by kernel_rfl)) (eq_false_of hb)) (exec_ltn (p := x) (q := 1) rfl ((hD 4 10 (by kernel_rfl)).1 hb) rfl) rfl)) ?_
    refine fsteps_cons 7 rfl (fun a u hE hD hk => f_as (show (((decide ((c.stop : Int) < (1 : Int))) || (decide ((x : Int) < (1 : Int)))) : Bool) = true from hN) (f_val (o := ⟨some 12, _, _, _, _, _⟩) (.bool ((decide ((c.stop : Int) < (1 : Int))) || (decide ((x : Int) < (1 : Int))))) rfl (wanted_none rfl _) (exec_pickor (.tmp 9) (.const (.bool true)) (.tmp 11) ((decide ((c.stop : Int) < (1 : Int)))) ((decide ((x : Int) < (1 : Int)))) rfl (hD 3 9 (by kernel_rfl)) rfl (fun hb2 => ((hD 5 11 (by kernel_rfl)).1 hb2))) rfl)) ?_
    refine fsteps_cons 8 rfl (fun a u hE hD hk => f_val (o := ⟨some 5, _, _, _, _, _⟩) (.bool true) rfl (wanted_none rfl _) (exec_assign (.tmp 12) (.bool true) rfl (hD 6 12 (by kernel_rfl))) rfl) ?_
    exact fsteps_nil
  intro gv w1 hV k1
  rw [show dstsOf _ 8 = [6, 7, 8, 9, 10, 11, 12, 5] by kernel_rfl]
  simp only [List.foldl_cons, List.foldl_nil, List.setIfInBounds_toArray, List.set_cons_succ, List.set_cons_zero, List.drop_succ_cons, List.drop_zero]
  rw [show gv 5 = .bool true from hV 7 5 (by kernel_rfl)]
  clear hV
  refine wpList_nil ?_
  have HB1 := Lib.hid (HB0.out.kept k1)
  have kw1 := kw0.trans k1
  clear k1 kw0
  go_wp2
  go_ret
  exact ⟨_, rfl, rfl, kw1⟩

set_option maxRecDepth 100000 in
set_option maxHeartbeats 800000 in
theorem refHit_b (c : Ord) (x : Int) (hN : (decide (c.stop < 1) || decide (x < 1)) = false) (hS : decide (c.side = 1) = true) (w : World) : Gives 16 #[c.v, .int .i64 x] w (.eq (.bool (decide (c.stop ≤ x)))) := by
  unfold Gives Ord.v
  have HT : Hid True := trivial
  have HB0 : Hid (Blk (w.alloc (.cells c.cells.toArray 23)) w.heap.size 23 c.cells) := Blk.new w _ _
  have kw0 : Kept w (w.alloc (.cells c.cells.toArray 23)) := (Keep.refl _ w).alloc _
  go_enter Try.func16, Try.ntmps16
  go_upto_region 1 with fail
  generalize w.alloc (.cells c.cells.toArray 23) = w0 at HB0 kw0 ⊢
  generalize w.heap.size = g at HB0 ⊢
  refine wp_text 8 [.eq (.pointer (some ⟨g, 8, none⟩)), .eq (.int .i64 c.stop), .eq (.bool (decide ((c.stop : Int) < (1 : Int)))), .eq (.bool (decide ((c.stop : Int) < (1 : Int)))), .cond (!(decide ((c.stop : Int) < (1 : Int)))) (.eq (.int .i64 x)), .cond (!(decide ((c.stop : Int) < (1 : Int)))) (.eq (.bool (decide ((x : Int) < (1 : Int))))), .eq (.bool false), .eq (.bool false)] rfl (by kernel_rfl) ?_ ?_
  · refine fsteps_cons 1 rfl (fun a u hE hD hk => f_val (o := ⟨some 6, _, _, _, _, _⟩) (.pointer (some ⟨g, 8, none⟩)) rfl (wanted_none rfl _) (exec_fld 23 8 8 (.tmp 2) (g) rfl (hE 2 (.pointer (some ⟨g, 0, none⟩)) (by kernel_rfl) (by kernel_rfl)) (by kernel_rfl)) rfl) ?_
    refine fsteps_cons 2 rfl (fun a u hE hD hk => f_val (o := ⟨some 7, _, _, _, _, _⟩) (.int .i64 c.stop) rfl (wanted_none rfl _) (exec_loadi 3 Try.underlying3 (.tmp 6) ⟨g, 8, none⟩ (.int .i64 c.stop) rfl (hD 0 6 (by kernel_rfl)) ((HB0.out.kept hk).fld 8 _ rfl)) rfl) ?_
    refine fsteps_cons 3 rfl (fun a u hE hD hk => f_val (o := ⟨some 8, _, _, _, _, _⟩) (.bool (decide ((c.stop : Int) < (1 : Int)))) rfl (wanted_none rfl _) (exec_ltn (p := c.stop) (q := 1) rfl (hD 1 7 (by kernel_rfl)) rfl) rfl) ?_
    refine fsteps_cons 4 rfl (fun a u hE hD hk => f_val (o := ⟨some 9, _, _, _, _, _⟩) (.bool (decide ((c.stop : Int) < (1 : Int)))) rfl (wanted_none rfl _) (exec_move (.tmp 8) (.bool (decide ((c.stop : Int) < (1 : Int)))) rfl (hD 2 8 (by kernel_rfl))) rfl) ?_
    refine fsteps_cons 5 rfl (fun a u hE hD hk => f_unless ((decide ((c.stop : Int) < (1 : Int)))) rfl rfl rfl (hD 3 9 (by kernel_rfl)) (fun hb => f_val (o := ⟨some 10, _, _, _, _, _⟩) (.int .i64 x) rfl (wanted_b rfl rfl (hD 3 9 (by kernel_rfl)) (eq_false_of hb)) (exec_move (.tmp 1) (.int .i64 x) rfl (hE 1 (.int .i64 x) (by kernel_rfl) (by kernel_rfl))) rfl)) ?_
    refine fsteps_cons 6 rfl (fun a u hE hD hk => f_unless ((decide ((c.stop : Int) < (1 : Int)))) rfl rfl rfl (hD 3 9 (by kernel_rfl)) (fun hb => f_val (o := ⟨some 11, _, _, _, _, _⟩) (.bool (decide ((x : Int) < (1 : Int)))) rfl (wanted_b rfl rfl (hD 3 9 (by kernel_rfl)) (eq_false_of hb)) (exec_ltn (p := x) (q := 1) rfl ((hD 4 10 (by kernel_rfl)).1 hb) rfl) rfl)) ?_
    refine fsteps_cons 7 rfl (fun a u hE hD hk => f_as (show (((decide ((c.stop : Int) < (1 : Int))) || (decide ((x : Int) < (1 : Int)))) : Bool) = false from hN) (f_val (o := ⟨some 12, _, _, _, _, _⟩) (.bool ((decide ((c.stop : Int) < (1 : Int))) || (decide ((x : Int) < (1 : Int))))) rfl (wanted_none rfl _) (exec_pickor (.tmp 9) (.const (.bool true)) (.tmp 11) ((decide ((c.stop : Int) < (1 : Int)))) ((decide ((x : Int) < (1 : Int)))) rfl (hD 3 9 (by kernel_rfl)) rfl (fun hb2 => ((hD 5 11 (by kernel_rfl)).1 hb2))) rfl)) ?_
    refine fsteps_cons 8 rfl (fun a u hE hD hk => f_val (o := ⟨some 5, _, _, _, _, _⟩) (.bool false) rfl (wanted_none rfl _) (exec_assign (.tmp 12) (.bool false) rfl (hD 6 12 (by kernel_rfl))) rfl) ?_
    exact fsteps_nil
  intro gv w1 hV k1
  rw [show dstsOf _ 8 = [6, 7, 8, 9, 10, 11, 12, 5] by kernel_rfl]
  simp only [List.foldl_cons, List.foldl_nil, List.setIfInBounds_toArray, List.set_cons_succ, List.set_cons_zero, List.drop_succ_cons, List.drop_zero]
  rw [show gv 5 = .bool false from hV 7 5 (by kernel_rfl)]
  clear hV
  refine wpList_nil ?_
  have HB1 := Lib.hid (HB0.out.kept k1)
  have kw1 := kw0.trans k1
  clear k1 kw0
  go_upto_region 3 with fail
  refine wp_text 4 [.eq (.pointer (some ⟨g, 3, none⟩)), .eq (.int .i64 c.side), .eq (.bool true), .eq (.bool true)] rfl (by kernel_rfl) ?_ ?_
  · refine fsteps_cons 1 rfl (fun a u hE hD hk => f_val (o := ⟨some 14, _, _, _, _, _⟩) (.pointer (some ⟨g, 3, none⟩)) rfl (wanted_none rfl _) (exec_fld 23 3 3 (.tmp 2) (g) rfl (hE 2 (.pointer (some ⟨g, 0, none⟩)) (by kernel_rfl) (by kernel_rfl)) (by kernel_rfl)) rfl) ?_
    refine fsteps_cons 2 rfl (fun a u hE hD hk => f_val (o := ⟨some 15, _, _, _, _, _⟩) (.int .i64 c.side) rfl (wanted_none rfl _) (exec_loadi 3 Try.underlying3 (.tmp 14) ⟨g, 3, none⟩ (.int .i64 c.side) rfl (hD 0 14 (by kernel_rfl)) ((HB1.out.kept hk).fld 3 _ rfl)) rfl) ?_
    refine fsteps_cons 3 rfl (fun a u hE hD hk => f_as (show ((decide ((c.side : Int) = (1 : Int))) : Bool) = true from hS) (f_val (o := ⟨some 16, _, _, _, _, _⟩) (.bool (decide ((c.side : Int) = (1 : Int)))) rfl (wanted_none rfl _) (exec_eqn (p := c.side) (q := 1) rfl (hD 1 15 (by kernel_rfl)) rfl) rfl)) ?_
    refine fsteps_cons 4 rfl (fun a u hE hD hk => f_val (o := ⟨some 13, _, _, _, _, _⟩) (.bool true) rfl (wanted_none rfl _) (exec_assign (.tmp 16) (.bool true) rfl (hD 2 16 (by kernel_rfl))) rfl) ?_
    exact fsteps_nil
  intro gv w2 hV k2
  rw [show dstsOf _ 4 = [14, 15, 16, 13] by kernel_rfl]
  simp only [List.foldl_cons, List.foldl_nil, List.setIfInBounds_toArray, List.set_cons_succ, List.set_cons_zero, List.drop_succ_cons, List.drop_zero]
  rw [show gv 13 = .bool true from hV 3 13 (by kernel_rfl)]
  clear hV
  refine wpList_nil ?_
  have HB2 := Lib.hid (HB1.out.kept k2)
  have kw2 := kw1.trans k2
  clear k2 kw1
  go_upto_region 4 with fail
  refine wp_text 4 [.eq (.int .i64 x), .eq (.pointer (some ⟨g, 8, none⟩)), .eq (.int .i64 c.stop), .eq (.bool (decide ((c.stop : Int) ≤ (x : Int))))] rfl (by kernel_rfl) ?_ ?_
  · refine fsteps_cons 1 rfl (fun a u hE hD hk => f_val (o := ⟨some 17, _, _, _, _, _⟩) (.int .i64 x) rfl (wanted_none rfl _) (exec_move (.tmp 1) (.int .i64 x) rfl (hE 1 (.int .i64 x) (by kernel_rfl) (by kernel_rfl))) rfl) ?_
    refine fsteps_cons 2 rfl (fun a u hE hD hk => f_val (o := ⟨some 18, _, _, _, _, _⟩) (.pointer (some ⟨g, 8, none⟩)) rfl (wanted_none rfl _) (exec_fld 23 8 8 (.tmp 2) (g) rfl (hE 2 (.pointer (some ⟨g, 0, none⟩)) (by kernel_rfl) (by kernel_rfl)) (by kernel_rfl)) rfl) ?_
    refine fsteps_cons 3 rfl (fun a u hE hD hk => f_val (o := ⟨some 19, _, _, _, _, _⟩) (.int .i64 c.stop) rfl (wanted_none rfl _) (exec_loadi 3 Try.underlying3 (.tmp 18) ⟨g, 8, none⟩ (.int .i64 c.stop) rfl (hD 1 18 (by kernel_rfl)) ((HB2.out.kept hk).fld 8 _ rfl)) rfl) ?_
    refine fsteps_cons 4 rfl (fun a u hE hD hk => f_val (o := ⟨some 20, _, _, _, _, _⟩) (.bool (decide ((c.stop : Int) ≤ (x : Int)))) rfl (wanted_none rfl _) (exec_gen (p := x) (q := c.stop) rfl (hD 0 17 (by kernel_rfl)) (hD 2 19 (by kernel_rfl))) rfl) ?_
    exact fsteps_nil
  intro gv w3 hV k3
  rw [show dstsOf _ 4 = [17, 18, 19, 20] by kernel_rfl]
  simp only [List.foldl_cons, List.foldl_nil, List.setIfInBounds_toArray, List.set_cons_succ, List.set_cons_zero, List.drop_succ_cons, List.drop_zero]
  rw [show gv 20 = .bool (decide ((c.stop : Int) ≤ (x : Int))) from hV 3 20 (by kernel_rfl)]
  clear hV
  have HB3 := Lib.hid (HB2.out.kept k3)
  have kw3 := kw2.trans k3
  clear k3 kw2
  go_wp2
  go_ret
  exact ⟨_, rfl, rfl, kw3⟩

set_option maxRecDepth 100000 in
set_option maxHeartbeats 800000 in
theorem refHit_s (c : Ord) (x : Int) (hN : (decide (c.stop < 1) || decide (x < 1)) = false) (hS : decide (c.side = 1) = false) (w : World) : Gives 16 #[c.v, .int .i64 x] w (.eq (.bool (decide (x ≤ c.stop)))) := by
  unfold Gives Ord.v
  have HT : Hid True := trivial
  have HB0 : Hid (Blk (w.alloc (.cells c.cells.toArray 23)) w.heap.size 23 c.cells) := Blk.new w _ _
  have kw0 : Kept w (w.alloc (.cells c.cells.toArray 23)) := (Keep.refl _ w).alloc _
  go_enter Try.func16, Try.ntmps16
  go_upto_region 1 with fail
  generalize w.alloc (.cells c.cells.toArray 23) = w0 at HB0 kw0 ⊢
  generalize w.heap.size = g at HB0 ⊢
  refine wp_text 8 [.eq (.pointer (some ⟨g, 8, none⟩)), .eq (.int .i64 c.stop), .eq (.bool (decide ((c.stop : Int) < (1 : Int)))), .eq (.bool (decide ((c.stop : Int) < (1 : Int)))), .cond (!(decide ((c.stop : Int) < (1 : Int)))) (.eq (.int .i64 x)), .cond (!(decide ((c.stop : Int) < (1 : Int)))) (.eq (.bool (decide ((x : Int) < (1 : Int))))), .eq (.bool false), .eq (.bool false)] rfl (by kernel_rfl) ?_ ?_
  · refine fsteps_cons 1 rfl (fun a u hE hD hk => f_val (o := ⟨some 6, _, _, _, _, _⟩) (.pointer (some ⟨g, 8, none⟩)) rfl (wanted_none rfl _) (exec_fld 23 8 8 (.tmp 2) (g) rfl (hE 2 (.pointer (some ⟨g, 0, none⟩)) (by kernel_rfl) (by kernel_rfl)) (by kernel_rfl)) rfl) ?_
    refine fsteps_cons 2 rfl (fun a u hE hD hk => f_val (o := ⟨some 7, _, _, _, _, _⟩) (.int .i64 c.stop) rfl (wanted_none rfl _) (exec_loadi 3 Try.underlying3 (.tmp 6) ⟨g, 8, none⟩ (.int .i64 c.stop) rfl (hD 0 6 (by kernel_rfl)) ((HB0.out.kept hk).fld 8 _ rfl)) rfl) ?_
    refine fsteps_cons 3 rfl (fun a u hE hD hk => f_val (o := ⟨some 8, _, _, _, _, _⟩) (.bool (decide ((c.stop : Int) < (1 : Int)))) rfl (wanted_none rfl _) (exec_ltn (p := c.stop) (q := 1) rfl (hD 1 7 (by kernel_rfl)) rfl) rfl) ?_
    refine fsteps_cons 4 rfl (fun a u hE hD hk => f_val (o := ⟨some 9, _, _, _, _, _⟩) (.bool (decide ((c.stop : Int) < (1 : Int)))) rfl (wanted_none rfl _) (exec_move (.tmp 8) (.bool (decide ((c.stop : Int) < (1 : Int)))) rfl (hD 2 8 (by kernel_rfl))) rfl) ?_
    refine fsteps_cons 5 rfl (fun a u hE hD hk => f_unless ((decide ((c.stop : Int) < (1 : Int)))) rfl rfl rfl (hD 3 9 (by kernel_rfl)) (fun hb => f_val (o := ⟨some 10, _, _, _, _, _⟩) (.int .i64 x) rfl (wanted_b rfl rfl (hD 3 9 (by kernel_rfl)) (eq_false_of hb)) (exec_move (.tmp 1) (.int .i64 x) rfl (hE 1 (.int .i64 x) (by kernel_rfl) (by kernel_rfl))) rfl)) ?_
    refine fsteps_cons 6 rfl (fun a u hE hD hk => f_unless ((decide ((c.stop : Int) < (1 : Int)))) rfl rfl rfl (hD 3 9 (by kernel_rfl)) (fun hb => f_val (o := ⟨some 11, _, _, _, _, _⟩) (.bool (decide ((x : Int) < (1 : Int)))) rfl (wanted_b rfl rfl (hD 3 9 (by kernel_rfl)) (eq_false_of hb)) (exec_ltn (p := x) (q := 1) rfl ((hD 4 10 (by kernel_rfl)).1 hb) rfl) rfl)) ?_
    refine fsteps_cons 7 rfl (fun a u hE hD hk => f_as (show (((decide ((c.stop : Int) < (1 : Int))) || (decide ((x : Int) < (1 : Int)))) : Bool) = false from hN) (f_val (o := ⟨some 12, _, _, _, _, _⟩) (.bool ((decide ((c.stop : Int) < (1 : Int))) || (decide ((x : Int) < (1 : Int))))) rfl (wanted_none rfl _) (exec_pickor (.tmp 9) (.const (.bool true)) (.tmp 11) ((decide ((c.stop : Int) < (1 : Int)))) ((decide ((x : Int) < (1 : Int)))) rfl (hD 3 9 (by kernel_rfl)) rfl (fun hb2 => ((hD 5 11 (by kernel_rfl)).1 hb2))) rfl)) ?_
    refine fsteps_cons 8 rfl (fun a u hE hD hk => f_val (o := ⟨some 5, _, _, _, _, _⟩) (.bool false) rfl (wanted_none rfl _) (exec_assign (.tmp 12) (.bool false) rfl (hD 6 12 (by kernel_rfl))) rfl) ?_
    exact fsteps_nil
  intro gv w1 hV k1
  rw [show dstsOf _ 8 = [6, 7, 8, 9, 10, 11, 12, 5] by kernel_rfl]
  simp only [List.foldl_cons, List.foldl_nil, List.setIfInBounds_toArray, List.set_cons_succ, List.set_cons_zero, List.drop_succ_cons, List.drop_zero]
  rw [show gv 5 = .bool false from hV 7 5 (by kernel_rfl)]
  clear hV
  refine wpList_nil ?_
  have HB1 := Lib.hid (HB0.out.kept k1)
  have kw1 := kw0.trans k1
  clear k1 kw0
  go_upto_region 3 with fail
  refine wp_text 4 [.eq (.pointer (some ⟨g, 3, none⟩)), .eq (.int .i64 c.side), .eq (.bool false), .eq (.bool false)] rfl (by kernel_rfl) ?_ ?_
  · refine fsteps_cons 1 rfl (fun a u hE hD hk => f_val (o := ⟨some 14, _, _, _, _, _⟩) (.pointer (some ⟨g, 3, none⟩)) rfl (wanted_none rfl _) (exec_fld 23 3 3 (.tmp 2) (g) rfl (hE 2 (.pointer (some ⟨g, 0, none⟩)) (by kernel_rfl) (by kernel_rfl)) (by kernel_rfl)) rfl) ?_
    refine fsteps_cons 2 rfl (fun a u hE hD hk => f_val (o := ⟨some 15, _, _, _, _, _⟩) (.int .i64 c.side) rfl (wanted_none rfl _) (exec_loadi 3 Try.underlying3 (.tmp 14) ⟨g, 3, none⟩ (.int .i64 c.side) rfl (hD 0 14 (by kernel_rfl)) ((HB1.out.kept hk).fld 3 _ rfl)) rfl) ?_
    refine fsteps_cons 3 rfl (fun a u hE hD hk => f_as (show ((decide ((c.side : Int) = (1 : Int))) : Bool) = false from hS) (f_val (o := ⟨some 16, _, _, _, _, _⟩) (.bool (decide ((c.side : Int) = (1 : Int)))) rfl (wanted_none rfl _) (exec_eqn (p := c.side) (q := 1) rfl (hD 1 15 (by kernel_rfl)) rfl) rfl)) ?_
    refine fsteps_cons 4 rfl (fun a u hE hD hk => f_val (o := ⟨some 13, _, _, _, _, _⟩) (.bool false) rfl (wanted_none rfl _) (exec_assign (.tmp 16) (.bool false) rfl (hD 2 16 (by kernel_rfl))) rfl) ?_
    exact fsteps_nil
  intro gv w2 hV k2
  rw [show dstsOf _ 4 = [14, 15, 16, 13] by kernel_rfl]
  simp only [List.foldl_cons, List.foldl_nil, List.setIfInBounds_toArray, List.set_cons_succ, List.set_cons_zero, List.drop_succ_cons, List.drop_zero]
  rw [show gv 13 = .bool false from hV 3 13 (by kernel_rfl)]
  clear hV
  refine wpList_nil ?_
  have HB2 := Lib.hid (HB1.out.kept k2)
  have kw2 := kw1.trans k2
  clear k2 kw1
  go_upto_region 5 with fail
  refine wp_text 4 [.eq (.int .i64 x), .eq (.pointer (some ⟨g, 8, none⟩)), .eq (.int .i64 c.stop), .eq (.bool (decide ((x : Int) ≤ (c.stop : Int))))] rfl (by kernel_rfl) ?_ ?_
  · refine fsteps_cons 1 rfl (fun a u hE hD hk => f_val (o := ⟨some 21, _, _, _, _, _⟩) (.int .i64 x) rfl (wanted_none rfl _) (exec_move (.tmp 1) (.int .i64 x) rfl (hE 1 (.int .i64 x) (by kernel_rfl) (by kernel_rfl))) rfl) ?_
    refine fsteps_cons 2 rfl (fun a u hE hD hk => f_val (o := ⟨some 22, _, _, _, _, _⟩) (.pointer (some ⟨g, 8, none⟩)) rfl (wanted_none rfl _) (exec_fld 23 8 8 (.tmp 2) (g) rfl (hE 2 (.pointer (some ⟨g, 0, none⟩)) (by kernel_rfl) (by kernel_rfl)) (by kernel_rfl)) rfl) ?_
    refine fsteps_cons 3 rfl (fun a u hE hD hk => f_val (o := ⟨some 23, _, _, _, _, _⟩) (.int .i64 c.stop) rfl (wanted_none rfl _) (exec_loadi 3 Try.underlying3 (.tmp 22) ⟨g, 8, none⟩ (.int .i64 c.stop) rfl (hD 1 22 (by kernel_rfl)) ((HB2.out.kept hk).fld 8 _ rfl)) rfl) ?_
    refine fsteps_cons 4 rfl (fun a u hE hD hk => f_val (o := ⟨some 24, _, _, _, _, _⟩) (.bool (decide ((x : Int) ≤ (c.stop : Int)))) rfl (wanted_none rfl _) (exec_len_ (p := x) (q := c.stop) rfl (hD 0 21 (by kernel_rfl)) (hD 2 23 (by kernel_rfl))) rfl) ?_
    exact fsteps_nil
  intro gv w3 hV k3
  rw [show dstsOf _ 4 = [21, 22, 23, 24] by kernel_rfl]
  simp only [List.foldl_cons, List.foldl_nil, List.setIfInBounds_toArray, List.set_cons_succ, List.set_cons_zero, List.drop_succ_cons, List.drop_zero]
  rw [show gv 24 = .bool (decide ((x : Int) ≤ (c.stop : Int))) from hV 3 24 (by kernel_rfl)]
  clear hV
  have HB3 := Lib.hid (HB2.out.kept k3)
  have kw3 := kw2.trans k3
  clear k3 kw2
  go_wp2
  go_ret
  exact ⟨_, rfl, rfl, kw3⟩

theorem refHit_any (c : Ord) (x : Int) (w : World) : Gives 16 #[c.v, .int .i64 x] w (.eq (.bool (c.hit x))) := by
  cases hN : (decide (c.stop < 1) || decide (x < 1)) with
  | true =>
    have h := hN
    simp only [Bool.or_eq_true, decide_eq_true_eq] at h
    rw [show c.hit x = false by unfold Ord.hit; simp only [Bool.and_eq_false_iff, decide_eq_false_iff_not]; omega]
    exact refHit_n c x hN w
  | false =>
    have h := hN
    simp only [Bool.or_eq_false_iff, decide_eq_false_iff_not] at h
    rw [show c.hit x = (!bet c.side c.stop x) by unfold Ord.hit; rw [decide_eq_true (show 0 < c.stop by omega), decide_eq_true (show 0 < x by omega)]; rfl]
    cases hS : decide (c.side = 1) with
    | true => rw [not_bet_buy _ _ _ hS]; exact refHit_b c x hN hS w
    | false => rw [not_bet_sell _ _ _ hS]; exact refHit_s c x hN hS w
end Go.Proofs.Ytgepgpclgpidaaa
