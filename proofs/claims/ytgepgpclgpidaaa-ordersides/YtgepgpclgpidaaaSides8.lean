/-
  The contract of jobberlaw8.OrderSides: any order, any prices: it answers true. Condition: the order's numbers are an int's.
-/
import Derived.Test.YtgepgpclgpidaaaTells8
namespace Go.Proofs.Ytgepgpclgpidaaa
open Go.RowKit
set_option linter.unusedVariables false

theorem bet_self (s x : Int) : bet s x x = false := by
  unfold bet
  split <;> exact decide_eq_false (by omega)
theorem bet_sell (x y : Int) : bet 2 x y = decide (x < y) := by unfold bet; rw [if_neg (by omega)]
theorem sides_no (s x y : Int) : ((decide (x ≠ y) && ((bet 1 x y == bet 1 y x) || (bet 1 x y == bet 2 x y))) || bet s x x) = false := by
  rw [bet_self, Bool.or_false, bet_buy, bet_buy, bet_sell]
  rcases Int.lt_trichotomy x y with h | h | h
  · rw [decide_eq_true h, decide_eq_false (show ¬ y < x by omega)]; simp
  · subst h; simp
  · rw [decide_eq_true h, decide_eq_false (show ¬ x < y by omega)]; simp
/-- a right order that crosses x crosses each price that the other side likes better -/
theorem cross_on (c : Ord) (x y : Int) (hR : c.right = true) : ((c.crosses x && bet (3 - c.side) y x) && !c.crosses y) = false := by
  rw [right_iff] at hR
  unfold Ord.crosses
  by_cases hk : c.k = 2
  · simp [hk]
  · rw [decide_eq_false hk, Bool.false_or, Bool.false_or]
    have hs : c.side = 1 ∨ c.side = 2 := by omega
    rcases hs with hs | hs
    · rw [hs, bet_buy, show (3 : Int) - 1 = 2 from rfl, bet_sell, bet_buy]
      by_cases h1 : c.price < x
      · simp [h1]
      · by_cases h2 : y < x
        · simp [show ¬ c.price < y by omega]
        · simp [h2]
    · rw [hs, bet_sell, show (3 : Int) - 2 = 1 from rfl, bet_buy, bet_sell]
      by_cases h1 : x < c.price
      · simp [h1]
      · by_cases h2 : x < y
        · simp [show ¬ y < c.price by omega]
        · simp [h2]
theorem cross_own (c : Ord) : c.crosses c.price = true := by
  unfold Ord.crosses
  rw [bet_self]
  simp
theorem value_right (c : Ord) (hR : c.right = true) : timesM c.price c.qty = (c.price * c.qty, 0) ∧ 0 ≤ c.price * c.qty ∧ c.price * c.qty ≤ 1099511627776 := by
  rw [right_iff] at hR
  have hp : 0 ≤ c.price ∧ c.price ≤ 1048576 := by
    by_cases h : c.k = 2
    · have := hR.2.2.2.2.2.2.1 h; omega
    · have := hR.2.2.2.2.2.2.2.1 h; omega
  have hq : 0 ≤ c.qty ∧ c.qty ≤ 1048576 := by omega
  have h0 := Int.mul_nonneg hp.1 hq.1
  have h1 := Int.mul_le_mul hp.2 hq.2 hq.1 (by omega)
  refine ⟨?_, h0, by omega⟩
  unfold timesM
  rw [if_neg (by omega), if_neg (by omega)]


set_option maxRecDepth 100000 in
set_option maxHeartbeats 1600000 in
theorem sides_f (c : Ord) (x y : Int) (w : World) (HW : Hid c.wf) (hR : c.right = false) : Calls Try.prog 5 #[c.v, .int .i64 x, .int .i64 y] w fun e w' => e = .returned (.bool true) ∧ Kept w w' := by
  have hE : c.err = 1 := by unfold Ord.err; rw [if_neg (by rw [hR]; decide)]
  have HE := Lib.hid hE
  clear hE
  clear hR
  unfold Ord.v
  have HT : Hid True := trivial
  have HB0 : Hid (Blk (w.alloc (.cells c.cells.toArray 23)) w.heap.size 23 c.cells) := Blk.new w _ _
  have kw0 : Kept w (w.alloc (.cells c.cells.toArray 23)) := (Keep.refl _ w).alloc _
  go_enter Try.func5, Try.ntmps5
  go_upto_region 1 with fail
  generalize hs0 : w.alloc (.cells c.cells.toArray 23) = w0 at HB0 kw0 ⊢
  clear hs0
  generalize w.heap.size = g at HB0 ⊢
  refine wp_text 28 [.eq (.int .i64 x), .eq (.int .i64 y), .eq (.bool (decide ((x : Int) ≠ (y : Int)))), .eq (.bool (decide ((x : Int) ≠ (y : Int)))), .cond (decide ((x : Int) ≠ (y : Int))) (.eq (.int .i64 x)), .cond (decide ((x : Int) ≠ (y : Int))) (.eq (.int .i64 y)), .cond (decide ((x : Int) ≠ (y : Int))) (.eq (.bool (bet 1 x y))), .cond (decide ((x : Int) ≠ (y : Int))) (.eq (.int .i64 y)), .cond (decide ((x : Int) ≠ (y : Int))) (.eq (.int .i64 x)), .cond (decide ((x : Int) ≠ (y : Int))) (.eq (.bool (bet 1 y x))), .cond (decide ((x : Int) ≠ (y : Int))) (.eq (.bool (bet 1 x y == bet 1 y x))), .cond (decide ((x : Int) ≠ (y : Int))) (.eq (.bool (bet 1 x y == bet 1 y x))), .cond ((decide ((x : Int) ≠ (y : Int))) && (!(bet 1 x y == bet 1 y x))) (.eq (.int .i64 x)), .cond ((decide ((x : Int) ≠ (y : Int))) && (!(bet 1 x y == bet 1 y x))) (.eq (.int .i64 y)), .cond ((decide ((x : Int) ≠ (y : Int))) && (!(bet 1 x y == bet 1 y x))) (.eq (.bool (bet 1 x y))), .cond ((decide ((x : Int) ≠ (y : Int))) && (!(bet 1 x y == bet 1 y x))) (.eq (.int .i64 x)), .cond ((decide ((x : Int) ≠ (y : Int))) && (!(bet 1 x y == bet 1 y x))) (.eq (.int .i64 y)), .cond ((decide ((x : Int) ≠ (y : Int))) && (!(bet 1 x y == bet 1 y x))) (.eq (.bool (bet 2 x y))), .cond ((decide ((x : Int) ≠ (y : Int))) && (!(bet 1 x y == bet 1 y x))) (.eq (.bool (bet 1 x y == bet 2 x y))), .cond (decide ((x : Int) ≠ (y : Int))) (.eq (.bool ((bet 1 x y == bet 1 y x) || (bet 1 x y == bet 2 x y)))), .eq (.bool ((decide ((x : Int) ≠ (y : Int))) && ((bet 1 x y == bet 1 y x) || (bet 1 x y == bet 2 x y)))), .eq (.bool ((decide ((x : Int) ≠ (y : Int))) && ((bet 1 x y == bet 1 y x) || (bet 1 x y == bet 2 x y)))), .cond (!((decide ((x : Int) ≠ (y : Int))) && ((bet 1 x y == bet 1 y x) || (bet 1 x y == bet 2 x y)))) (.eq (.pointer (some ⟨g, 3, none⟩))), .cond (!((decide ((x : Int) ≠ (y : Int))) && ((bet 1 x y == bet 1 y x) || (bet 1 x y == bet 2 x y)))) (.eq (.int .i64 c.side)), .cond (!((decide ((x : Int) ≠ (y : Int))) && ((bet 1 x y == bet 1 y x) || (bet 1 x y == bet 2 x y)))) (.eq (.int .i64 x)), .cond (!((decide ((x : Int) ≠ (y : Int))) && ((bet 1 x y == bet 1 y x) || (bet 1 x y == bet 2 x y)))) (.eq (.int .i64 x)), .cond (!((decide ((x : Int) ≠ (y : Int))) && ((bet 1 x y == bet 1 y x) || (bet 1 x y == bet 2 x y)))) (.eq (.bool (bet c.side x x))), .eq (.bool false)] rfl (by kernel_rfl) ?_ ?_
  · refine fsteps_cons 1 rfl (fun a u hE hD hk => f_val (o := ⟨some 10, _, _, _, _, _⟩) (.int .i64 x) rfl (wanted_none rfl _) (exec_move (.tmp 1) (.int .i64 x) rfl (hE 1 (.int .i64 x) (by kernel_rfl) (by kernel_rfl))) rfl) ?_
    refine fsteps_cons 2 rfl (fun a u hE hD hk => f_val (o := ⟨some 11, _, _, _, _, _⟩) (.int .i64 y) rfl (wanted_none rfl _) (exec_move (.tmp 2) (.int .i64 y) rfl (hE 2 (.int .i64 y) (by kernel_rfl) (by kernel_rfl))) rfl) ?_
    refine fsteps_cons 3 rfl (fun a u hE hD hk => f_val (o := ⟨some 12, _, _, _, _, _⟩) (.bool (decide ((x : Int) ≠ (y : Int)))) rfl (wanted_none rfl _) (exec_nen (p := x) (q := y) rfl (hD 0 10 (by kernel_rfl)) (hD 1 11 (by kernel_rfl))) rfl) ?_
    refine fsteps_cons 4 rfl (fun a u hE hD hk => f_val (o := ⟨some 13, _, _, _, _, _⟩) (.bool (decide ((x : Int) ≠ (y : Int)))) rfl (wanted_none rfl _) (exec_move (.tmp 12) (.bool (decide ((x : Int) ≠ (y : Int)))) rfl (hD 2 12 (by kernel_rfl))) rfl) ?_
    refine fsteps_cons 5 rfl (fun a u hE hD hk => f_if ((decide ((x : Int) ≠ (y : Int)))) rfl rfl rfl (hD 3 13 (by kernel_rfl)) (fun hb => f_val (o := ⟨some 14, _, _, _, _, _⟩) (.int .i64 x) rfl (wanted_b rfl rfl (hD 3 13 (by kernel_rfl)) (eq_true_of hb)) (exec_move (.tmp 1) (.int .i64 x) rfl (hE 1 (.int .i64 x) (by kernel_rfl) (by kernel_rfl))) rfl)) ?_
    refine fsteps_cons 6 rfl (fun a u hE hD hk => f_if ((decide ((x : Int) ≠ (y : Int)))) rfl rfl rfl (hD 3 13 (by kernel_rfl)) (fun hb => f_val (o := ⟨some 15, _, _, _, _, _⟩) (.int .i64 y) rfl (wanted_b rfl rfl (hD 3 13 (by kernel_rfl)) (eq_true_of hb)) (exec_move (.tmp 2) (.int .i64 y) rfl (hE 2 (.int .i64 y) (by kernel_rfl) (by kernel_rfl))) rfl)) ?_
    refine fsteps_cons 7 rfl (fun a u hE hD hk => f_if ((decide ((x : Int) ≠ (y : Int)))) rfl rfl rfl (hD 3 13 (by kernel_rfl)) (fun hb => f_call (o := ⟨some 16, _, _, _, _, _⟩) 10 #[.int .i64 1, .int .i64 x, .int .i64 y] rfl (wanted_b rfl rfl (hD 3 13 (by kernel_rfl)) (eq_true_of hb)) (exec_call 10 _ [.const (.int .i64 1), .tmp 14, .tmp 15] _ [.int .i64 1, .int .i64 x, .int .i64 y] Try.func10 (by kernel_rfl) (by kernel_rfl) rfl (show [a.eval (.const (.int .i64 1)), a.eval (.tmp 14), a.eval (.tmp 15)] = [.int .i64 1, .int .i64 x, .int .i64 y] from (by rw [show a.eval (.tmp 14) = .int .i64 x from ((hD 4 14 (by kernel_rfl)).1 hb), show a.eval (.tmp 15) = .int .i64 y from ((hD 5 15 (by kernel_rfl)).1 hb)] <;> rfl)) u) (better_any _ _ _ u))) ?_
    refine fsteps_cons 8 rfl (fun a u hE hD hk => f_if ((decide ((x : Int) ≠ (y : Int)))) rfl rfl rfl (hD 3 13 (by kernel_rfl)) (fun hb => f_val (o := ⟨some 17, _, _, _, _, _⟩) (.int .i64 y) rfl (wanted_b rfl rfl (hD 3 13 (by kernel_rfl)) (eq_true_of hb)) (exec_move (.tmp 2) (.int .i64 y) rfl (hE 2 (.int .i64 y) (by kernel_rfl) (by kernel_rfl))) rfl)) ?_
    refine fsteps_cons 9 rfl (fun a u hE hD hk => f_if ((decide ((x : Int) ≠ (y : Int)))) rfl rfl rfl (hD 3 13 (by kernel_rfl)) (fun hb => f_val (o := ⟨some 18, _, _, _, _, _⟩) (.int .i64 x) rfl (wanted_b rfl rfl (hD 3 13 (by kernel_rfl)) (eq_true_of hb)) (exec_move (.tmp 1) (.int .i64 x) rfl (hE 1 (.int .i64 x) (by kernel_rfl) (by kernel_rfl))) rfl)) ?_
    refine fsteps_cons 10 rfl (fun a u hE hD hk => f_if ((decide ((x : Int) ≠ (y : Int)))) rfl rfl rfl (hD 3 13 (by kernel_rfl)) (fun hb => f_call (o := ⟨some 19, _, _, _, _, _⟩) 10 #[.int .i64 1, .int .i64 y, .int .i64 x] rfl (wanted_b rfl rfl (hD 3 13 (by kernel_rfl)) (eq_true_of hb)) (exec_call 10 _ [.const (.int .i64 1), .tmp 17, .tmp 18] _ [.int .i64 1, .int .i64 y, .int .i64 x] Try.func10 (by kernel_rfl) (by kernel_rfl) rfl (show [a.eval (.const (.int .i64 1)), a.eval (.tmp 17), a.eval (.tmp 18)] = [.int .i64 1, .int .i64 y, .int .i64 x] from (by rw [show a.eval (.tmp 17) = .int .i64 y from ((hD 7 17 (by kernel_rfl)).1 hb), show a.eval (.tmp 18) = .int .i64 x from ((hD 8 18 (by kernel_rfl)).1 hb)] <;> rfl)) u) (better_any _ _ _ u))) ?_
    refine fsteps_cons 11 rfl (fun a u hE hD hk => f_if ((decide ((x : Int) ≠ (y : Int)))) rfl rfl rfl (hD 3 13 (by kernel_rfl)) (fun hb => f_val (o := ⟨some 20, _, _, _, _, _⟩) (.bool (bet 1 x y == bet 1 y x)) rfl (wanted_b rfl rfl (hD 3 13 (by kernel_rfl)) (eq_true_of hb)) (exec_eqb (.tmp 16) (.tmp 19) _ _ _ _ rfl ((hD 6 16 (by kernel_rfl)).1 hb) ((hD 9 19 (by kernel_rfl)).1 hb) rfl) rfl)) ?_
    refine fsteps_cons 12 rfl (fun a u hE hD hk => f_if ((decide ((x : Int) ≠ (y : Int)))) rfl rfl rfl (hD 3 13 (by kernel_rfl)) (fun hb => f_val (o := ⟨some 21, _, _, _, _, _⟩) (.bool (bet 1 x y == bet 1 y x)) rfl (wanted_b rfl rfl (hD 3 13 (by kernel_rfl)) (eq_true_of hb)) (exec_move (.tmp 20) (.bool (bet 1 x y == bet 1 y x)) rfl ((hD 10 20 (by kernel_rfl)).1 hb)) rfl)) ?_
    refine fsteps_cons 13 rfl (fun a u hE hD hk => f_unless2 (decide ((x : Int) ≠ (y : Int))) ((bet 1 x y == bet 1 y x)) rfl rfl rfl (hD 11 21 (by kernel_rfl)) (fun hb => f_val (o := ⟨some 22, _, _, _, _, _⟩) (.int .i64 x) rfl (wanted_b rfl rfl ((hD 11 21 (by kernel_rfl)).1 (and_l hb)) (eq_false_of (and_r hb))) (exec_move (.tmp 1) (.int .i64 x) rfl (hE 1 (.int .i64 x) (by kernel_rfl) (by kernel_rfl))) rfl)) ?_
    refine fsteps_cons 14 rfl (fun a u hE hD hk => f_unless2 (decide ((x : Int) ≠ (y : Int))) ((bet 1 x y == bet 1 y x)) rfl rfl rfl (hD 11 21 (by kernel_rfl)) (fun hb => f_val (o := ⟨some 23, _, _, _, _, _⟩) (.int .i64 y) rfl (wanted_b rfl rfl ((hD 11 21 (by kernel_rfl)).1 (and_l hb)) (eq_false_of (and_r hb))) (exec_move (.tmp 2) (.int .i64 y) rfl (hE 2 (.int .i64 y) (by kernel_rfl) (by kernel_rfl))) rfl)) ?_
    refine fsteps_cons 15 rfl (fun a u hE hD hk => f_unless2 (decide ((x : Int) ≠ (y : Int))) ((bet 1 x y == bet 1 y x)) rfl rfl rfl (hD 11 21 (by kernel_rfl)) (fun hb => f_call (o := ⟨some 24, _, _, _, _, _⟩) 10 #[.int .i64 1, .int .i64 x, .int .i64 y] rfl (wanted_b rfl rfl ((hD 11 21 (by kernel_rfl)).1 (and_l hb)) (eq_false_of (and_r hb))) (exec_call 10 _ [.const (.int .i64 1), .tmp 22, .tmp 23] _ [.int .i64 1, .int .i64 x, .int .i64 y] Try.func10 (by kernel_rfl) (by kernel_rfl) rfl (show [a.eval (.const (.int .i64 1)), a.eval (.tmp 22), a.eval (.tmp 23)] = [.int .i64 1, .int .i64 x, .int .i64 y] from (by rw [show a.eval (.tmp 22) = .int .i64 x from ((hD 12 22 (by kernel_rfl)).1 hb), show a.eval (.tmp 23) = .int .i64 y from ((hD 13 23 (by kernel_rfl)).1 hb)] <;> rfl)) u) (better_any _ _ _ u))) ?_
    refine fsteps_cons 16 rfl (fun a u hE hD hk => f_unless2 (decide ((x : Int) ≠ (y : Int))) ((bet 1 x y == bet 1 y x)) rfl rfl rfl (hD 11 21 (by kernel_rfl)) (fun hb => f_val (o := ⟨some 25, _, _, _, _, _⟩) (.int .i64 x) rfl (wanted_b rfl rfl ((hD 11 21 (by kernel_rfl)).1 (and_l hb)) (eq_false_of (and_r hb))) (exec_move (.tmp 1) (.int .i64 x) rfl (hE 1 (.int .i64 x) (by kernel_rfl) (by kernel_rfl))) rfl)) ?_
    refine fsteps_cons 17 rfl (fun a u hE hD hk => f_unless2 (decide ((x : Int) ≠ (y : Int))) ((bet 1 x y == bet 1 y x)) rfl rfl rfl (hD 11 21 (by kernel_rfl)) (fun hb => f_val (o := ⟨some 26, _, _, _, _, _⟩) (.int .i64 y) rfl (wanted_b rfl rfl ((hD 11 21 (by kernel_rfl)).1 (and_l hb)) (eq_false_of (and_r hb))) (exec_move (.tmp 2) (.int .i64 y) rfl (hE 2 (.int .i64 y) (by kernel_rfl) (by kernel_rfl))) rfl)) ?_
    refine fsteps_cons 18 rfl (fun a u hE hD hk => f_unless2 (decide ((x : Int) ≠ (y : Int))) ((bet 1 x y == bet 1 y x)) rfl rfl rfl (hD 11 21 (by kernel_rfl)) (fun hb => f_call (o := ⟨some 27, _, _, _, _, _⟩) 10 #[.int .i64 2, .int .i64 x, .int .i64 y] rfl (wanted_b rfl rfl ((hD 11 21 (by kernel_rfl)).1 (and_l hb)) (eq_false_of (and_r hb))) (exec_call 10 _ [.const (.int .i64 2), .tmp 25, .tmp 26] _ [.int .i64 2, .int .i64 x, .int .i64 y] Try.func10 (by kernel_rfl) (by kernel_rfl) rfl (show [a.eval (.const (.int .i64 2)), a.eval (.tmp 25), a.eval (.tmp 26)] = [.int .i64 2, .int .i64 x, .int .i64 y] from (by rw [show a.eval (.tmp 25) = .int .i64 x from ((hD 15 25 (by kernel_rfl)).1 hb), show a.eval (.tmp 26) = .int .i64 y from ((hD 16 26 (by kernel_rfl)).1 hb)] <;> rfl)) u) (better_any _ _ _ u))) ?_
    refine fsteps_cons 19 rfl (fun a u hE hD hk => f_unless2 (decide ((x : Int) ≠ (y : Int))) ((bet 1 x y == bet 1 y x)) rfl rfl rfl (hD 11 21 (by kernel_rfl)) (fun hb => f_val (o := ⟨some 28, _, _, _, _, _⟩) (.bool (bet 1 x y == bet 2 x y)) rfl (wanted_b rfl rfl ((hD 11 21 (by kernel_rfl)).1 (and_l hb)) (eq_false_of (and_r hb))) (exec_eqb (.tmp 24) (.tmp 27) _ _ _ _ rfl ((hD 14 24 (by kernel_rfl)).1 hb) ((hD 17 27 (by kernel_rfl)).1 hb) rfl) rfl)) ?_
    refine fsteps_cons 20 rfl (fun a u hE hD hk => f_if ((decide ((x : Int) ≠ (y : Int)))) rfl rfl rfl (hD 3 13 (by kernel_rfl)) (fun hb => f_val (o := ⟨some 29, _, _, _, _, _⟩) (.bool ((bet 1 x y == bet 1 y x) || (bet 1 x y == bet 2 x y))) rfl (wanted_b rfl rfl (hD 3 13 (by kernel_rfl)) (eq_true_of hb)) (exec_pickor (.tmp 21) (.const (.bool true)) (.tmp 28) ((bet 1 x y == bet 1 y x)) ((bet 1 x y == bet 2 x y)) rfl ((hD 11 21 (by kernel_rfl)).1 hb) rfl (fun hb2 => ((hD 18 28 (by kernel_rfl)).1 (and_mk hb hb2)))) rfl)) ?_
    refine fsteps_cons 21 rfl (fun a u hE hD hk => f_val (o := ⟨some 30, _, _, _, _, _⟩) (.bool ((decide ((x : Int) ≠ (y : Int))) && ((bet 1 x y == bet 1 y x) || (bet 1 x y == bet 2 x y)))) rfl (wanted_none rfl _) (exec_pickand (.tmp 13) (.tmp 29) (.const (.bool false)) ((decide ((x : Int) ≠ (y : Int)))) (((bet 1 x y == bet 1 y x) || (bet 1 x y == bet 2 x y))) rfl (hD 3 13 (by kernel_rfl)) (fun hb2 => ((hD 19 29 (by kernel_rfl)).1 hb2)) rfl) rfl) ?_
    refine fsteps_cons 22 rfl (fun a u hE hD hk => f_val (o := ⟨some 31, _, _, _, _, _⟩) (.bool ((decide ((x : Int) ≠ (y : Int))) && ((bet 1 x y == bet 1 y x) || (bet 1 x y == bet 2 x y)))) rfl (wanted_none rfl _) (exec_move (.tmp 30) (.bool ((decide ((x : Int) ≠ (y : Int))) && ((bet 1 x y == bet 1 y x) || (bet 1 x y == bet 2 x y)))) rfl (hD 20 30 (by kernel_rfl))) rfl) ?_
    refine fsteps_cons 23 rfl (fun a u hE hD hk => f_unless (((decide ((x : Int) ≠ (y : Int))) && ((bet 1 x y == bet 1 y x) || (bet 1 x y == bet 2 x y)))) rfl rfl rfl (hD 21 31 (by kernel_rfl)) (fun hb => f_val (o := ⟨some 32, _, _, _, _, _⟩) (.pointer (some ⟨g, 3, none⟩)) rfl (wanted_b rfl rfl (hD 21 31 (by kernel_rfl)) (eq_false_of hb)) (exec_fld 23 3 3 (.tmp 3) (g) rfl (hE 3 (.pointer (some ⟨g, 0, none⟩)) (by kernel_rfl) (by kernel_rfl)) (by kernel_rfl)) rfl)) ?_
    refine fsteps_cons 24 rfl (fun a u hE hD hk => f_unless (((decide ((x : Int) ≠ (y : Int))) && ((bet 1 x y == bet 1 y x) || (bet 1 x y == bet 2 x y)))) rfl rfl rfl (hD 21 31 (by kernel_rfl)) (fun hb => f_val (o := ⟨some 33, _, _, _, _, _⟩) (.int .i64 c.side) rfl (wanted_b rfl rfl (hD 21 31 (by kernel_rfl)) (eq_false_of hb)) (exec_loadi 3 Try.underlying3 (.tmp 32) ⟨g, 3, none⟩ (.int .i64 c.side) rfl ((hD 22 32 (by kernel_rfl)).1 hb) ((HB0.out.kept hk).fld 3 _ rfl)) rfl)) ?_
    refine fsteps_cons 25 rfl (fun a u hE hD hk => f_unless (((decide ((x : Int) ≠ (y : Int))) && ((bet 1 x y == bet 1 y x) || (bet 1 x y == bet 2 x y)))) rfl rfl rfl (hD 21 31 (by kernel_rfl)) (fun hb => f_val (o := ⟨some 34, _, _, _, _, _⟩) (.int .i64 x) rfl (wanted_b rfl rfl (hD 21 31 (by kernel_rfl)) (eq_false_of hb)) (exec_move (.tmp 1) (.int .i64 x) rfl (hE 1 (.int .i64 x) (by kernel_rfl) (by kernel_rfl))) rfl)) ?_
    refine fsteps_cons 26 rfl (fun a u hE hD hk => f_unless (((decide ((x : Int) ≠ (y : Int))) && ((bet 1 x y == bet 1 y x) || (bet 1 x y == bet 2 x y)))) rfl rfl rfl (hD 21 31 (by kernel_rfl)) (fun hb => f_val (o := ⟨some 35, _, _, _, _, _⟩) (.int .i64 x) rfl (wanted_b rfl rfl (hD 21 31 (by kernel_rfl)) (eq_false_of hb)) (exec_move (.tmp 1) (.int .i64 x) rfl (hE 1 (.int .i64 x) (by kernel_rfl) (by kernel_rfl))) rfl)) ?_
    refine fsteps_cons 27 rfl (fun a u hE hD hk => f_unless (((decide ((x : Int) ≠ (y : Int))) && ((bet 1 x y == bet 1 y x) || (bet 1 x y == bet 2 x y)))) rfl rfl rfl (hD 21 31 (by kernel_rfl)) (fun hb => f_call (o := ⟨some 36, _, _, _, _, _⟩) 10 #[.int .i64 c.side, .int .i64 x, .int .i64 x] rfl (wanted_b rfl rfl (hD 21 31 (by kernel_rfl)) (eq_false_of hb)) (exec_call 10 _ [.tmp 33, .tmp 34, .tmp 35] _ [.int .i64 c.side, .int .i64 x, .int .i64 x] Try.func10 (by kernel_rfl) (by kernel_rfl) rfl (show [a.eval (.tmp 33), a.eval (.tmp 34), a.eval (.tmp 35)] = [.int .i64 c.side, .int .i64 x, .int .i64 x] from (by rw [show a.eval (.tmp 33) = .int .i64 c.side from ((hD 23 33 (by kernel_rfl)).1 hb), show a.eval (.tmp 34) = .int .i64 x from ((hD 24 34 (by kernel_rfl)).1 hb), show a.eval (.tmp 35) = .int .i64 x from ((hD 25 35 (by kernel_rfl)).1 hb)] <;> rfl)) u) (better_any _ _ _ u))) ?_
    refine fsteps_cons 28 rfl (fun a u hE hD hk => f_as (show ((((decide ((x : Int) ≠ (y : Int))) && ((bet 1 x y == bet 1 y x) || (bet 1 x y == bet 2 x y))) || (bet c.side x x)) : Bool) = false from sides_no c.side x y) (f_val (o := ⟨some 37, _, _, _, _, _⟩) (.bool (((decide ((x : Int) ≠ (y : Int))) && ((bet 1 x y == bet 1 y x) || (bet 1 x y == bet 2 x y))) || (bet c.side x x))) rfl (wanted_none rfl _) (exec_pickor (.tmp 31) (.const (.bool true)) (.tmp 36) (((decide ((x : Int) ≠ (y : Int))) && ((bet 1 x y == bet 1 y x) || (bet 1 x y == bet 2 x y)))) ((bet c.side x x)) rfl (hD 21 31 (by kernel_rfl)) rfl (fun hb2 => ((hD 26 36 (by kernel_rfl)).1 hb2))) rfl)) ?_
    exact fsteps_nil
  intro gv w1 hV k1
  rw [show dstsOf _ 28 = [10, 11, 12, 13, 14, 15, 16, 17, 18, 19, 20, 21, 22, 23, 24, 25, 26, 27, 28, 29, 30, 31, 32, 33, 34, 35, 36, 37] by kernel_rfl]
  simp only [List.foldl_cons, List.foldl_nil, List.setIfInBounds_toArray, List.set_cons_succ, List.set_cons_zero, List.drop_succ_cons, List.drop_zero]
  rw [show gv 37 = .bool false from hV 27 37 (by kernel_rfl)]
  clear hV
  refine wpList_nil ?_
  have HB1 := Lib.hid (HB0.out.kept k1)
  have kw1 := kw0.trans k1
  clear kw0
  go_upto_region 3 with fail
  refine wp_text 3 [.eq (c.v), .eq (.int .i64 1), .eq (.bool true)] rfl (by kernel_rfl) ?_ ?_
  · refine fsteps_cons 1 rfl (fun a u hE hD hk => f_val (o := ⟨some 38, _, _, _, _, _⟩) (c.v) rfl (wanted_none rfl _) (exec_loadS 23 (.tmp 3) (g) _ c.cells _ rfl (hE 3 (.pointer (some ⟨g, 0, none⟩)) (by kernel_rfl) (by kernel_rfl)) (HB1.out.kept hk) Try.underlying23 (by rw [Ord.cells_len _ HT.out]; exact ord_size)) rfl) ?_
    refine fsteps_cons 2 rfl (fun a u hE hD hk => f_call (o := ⟨some 39, _, _, _, _, _⟩) 11 #[c.v] rfl (wanted_none rfl _) (exec_call 11 _ [.tmp 38] _ [c.v] Try.func11 (by kernel_rfl) (by kernel_rfl) rfl (show [a.eval (.tmp 38)] = [c.v] from (by rw [show a.eval (.tmp 38) = c.v from (hD 0 38 (by kernel_rfl))] <;> rfl)) u) (ordRight_is c 1 u HE.out)) ?_
    refine fsteps_cons 3 rfl (fun a u hE hD hk => f_as (show ((decide ((1 : Int) ≠ (0 : Int))) : Bool) = true from rfl) (f_val (o := ⟨some 40, _, _, _, _, _⟩) (.bool (decide ((1 : Int) ≠ (0 : Int)))) rfl (wanted_none rfl _) (exec_nen (p := 1) (q := 0) rfl (hD 1 39 (by kernel_rfl)) rfl) rfl)) ?_
    exact fsteps_nil
  intro gv w2 hV k2
  rw [show dstsOf _ 3 = [38, 39, 40] by kernel_rfl]
  simp only [List.foldl_cons, List.foldl_nil, List.setIfInBounds_toArray, List.set_cons_succ, List.set_cons_zero, List.drop_succ_cons, List.drop_zero]
  rw [show gv 40 = .bool true from hV 2 40 (by kernel_rfl)]
  clear hV
  refine wpList_nil ?_
  have HB2 := Lib.hid (HB1.out.kept k2)
  have kw2 := kw1.trans k2
  clear kw1
  go_upto_region 4 with fail
  refine wp_text 1 [.eq (.bool true)] rfl (by kernel_rfl) ?_ ?_
  · refine fsteps_cons 1 rfl (fun a u hE hD hk => f_call (o := ⟨some 41, _, _, _, _, _⟩) 3 #[] rfl (wanted_none rfl _) (exec_call 3 _ [] _ [] Try.func3 (by kernel_rfl) (by kernel_rfl) rfl rfl u) (orderRuns_gives u)) ?_
    exact fsteps_nil
  intro gv w3 hV k3
  rw [show dstsOf _ 1 = [41] by kernel_rfl]
  simp only [List.foldl_cons, List.foldl_nil, List.setIfInBounds_toArray, List.set_cons_succ, List.set_cons_zero, List.drop_succ_cons, List.drop_zero]
  rw [show gv 41 = .bool true from hV 0 41 (by kernel_rfl)]
  clear hV
  have HB3 := Lib.hid (HB2.out.kept k3)
  have kw3 := kw2.trans k3
  clear kw2
  go_wp2
  go_ret
  exact ⟨rfl, kw3⟩

set_option maxRecDepth 100000 in
set_option maxHeartbeats 1600000 in
theorem sides_t (c : Ord) (x y : Int) (w : World) (HW : Hid c.wf) (hR : c.right = true) : Calls Try.prog 5 #[c.v, .int .i64 x, .int .i64 y] w fun e w' => e = .returned (.bool true) ∧ Kept w w' := by
  have hE : Hid (c.err = 0) := by unfold Ord.err; show (if c.right = true then (0 : Int) else 1) = 0; rw [if_pos hR]
  obtain ⟨-, -, -, -, -, hp, hq, -, -⟩ := Ord.in64 HW.out
  have HE := hE
  clear hE
  obtain ⟨v1, v2, v3⟩ := value_right c hR
  have V1 : Hid (∀ u, Gives 12 #[c.v] u (.eq (.tuple #[.int .i64 (c.price * c.qty), .int .i64 0]))) := fun u => by have h := value_any c hp hq u; rw [v1] at h; exact h
  have HX := Lib.hid (cross_on c x y hR)
  have HS : Hid (1 ≤ c.side ∧ c.side ≤ 2) := by rw [right_iff] at hR; exact ⟨by omega, by omega⟩
  generalize c.price * c.qty = P at V1 v2 v3
  have HP : Hid (0 ≤ P ∧ P ≤ 1099511627776) := ⟨v2, v3⟩
  clear v1 v2 v3 hR hp hq HW
  unfold Ord.v
  have HT : Hid True := trivial
  have HB0 : Hid (Blk (w.alloc (.cells c.cells.toArray 23)) w.heap.size 23 c.cells) := Blk.new w _ _
  have kw0 : Kept w (w.alloc (.cells c.cells.toArray 23)) := (Keep.refl _ w).alloc _
  go_enter Try.func5, Try.ntmps5
  go_upto_region 1 with fail
  generalize hs0 : w.alloc (.cells c.cells.toArray 23) = w0 at HB0 kw0 ⊢
  clear hs0
  generalize w.heap.size = g at HB0 ⊢
  refine wp_text 28 [.eq (.int .i64 x), .eq (.int .i64 y), .eq (.bool (decide ((x : Int) ≠ (y : Int)))), .eq (.bool (decide ((x : Int) ≠ (y : Int)))), .cond (decide ((x : Int) ≠ (y : Int))) (.eq (.int .i64 x)), .cond (decide ((x : Int) ≠ (y : Int))) (.eq (.int .i64 y)), .cond (decide ((x : Int) ≠ (y : Int))) (.eq (.bool (bet 1 x y))), .cond (decide ((x : Int) ≠ (y : Int))) (.eq (.int .i64 y)), .cond (decide ((x : Int) ≠ (y : Int))) (.eq (.int .i64 x)), .cond (decide ((x : Int) ≠ (y : Int))) (.eq (.bool (bet 1 y x))), .cond (decide ((x : Int) ≠ (y : Int))) (.eq (.bool (bet 1 x y == bet 1 y x))), .cond (decide ((x : Int) ≠ (y : Int))) (.eq (.bool (bet 1 x y == bet 1 y x))), .cond ((decide ((x : Int) ≠ (y : Int))) && (!(bet 1 x y == bet 1 y x))) (.eq (.int .i64 x)), .cond ((decide ((x : Int) ≠ (y : Int))) && (!(bet 1 x y == bet 1 y x))) (.eq (.int .i64 y)), .cond ((decide ((x : Int) ≠ (y : Int))) && (!(bet 1 x y == bet 1 y x))) (.eq (.bool (bet 1 x y))), .cond ((decide ((x : Int) ≠ (y : Int))) && (!(bet 1 x y == bet 1 y x))) (.eq (.int .i64 x)), .cond ((decide ((x : Int) ≠ (y : Int))) && (!(bet 1 x y == bet 1 y x))) (.eq (.int .i64 y)), .cond ((decide ((x : Int) ≠ (y : Int))) && (!(bet 1 x y == bet 1 y x))) (.eq (.bool (bet 2 x y))), .cond ((decide ((x : Int) ≠ (y : Int))) && (!(bet 1 x y == bet 1 y x))) (.eq (.bool (bet 1 x y == bet 2 x y))), .cond (decide ((x : Int) ≠ (y : Int))) (.eq (.bool ((bet 1 x y == bet 1 y x) || (bet 1 x y == bet 2 x y)))), .eq (.bool ((decide ((x : Int) ≠ (y : Int))) && ((bet 1 x y == bet 1 y x) || (bet 1 x y == bet 2 x y)))), .eq (.bool ((decide ((x : Int) ≠ (y : Int))) && ((bet 1 x y == bet 1 y x) || (bet 1 x y == bet 2 x y)))), .cond (!((decide ((x : Int) ≠ (y : Int))) && ((bet 1 x y == bet 1 y x) || (bet 1 x y == bet 2 x y)))) (.eq (.pointer (some ⟨g, 3, none⟩))), .cond (!((decide ((x : Int) ≠ (y : Int))) && ((bet 1 x y == bet 1 y x) || (bet 1 x y == bet 2 x y)))) (.eq (.int .i64 c.side)), .cond (!((decide ((x : Int) ≠ (y : Int))) && ((bet 1 x y == bet 1 y x) || (bet 1 x y == bet 2 x y)))) (.eq (.int .i64 x)), .cond (!((decide ((x : Int) ≠ (y : Int))) && ((bet 1 x y == bet 1 y x) || (bet 1 x y == bet 2 x y)))) (.eq (.int .i64 x)), .cond (!((decide ((x : Int) ≠ (y : Int))) && ((bet 1 x y == bet 1 y x) || (bet 1 x y == bet 2 x y)))) (.eq (.bool (bet c.side x x))), .eq (.bool false)] rfl (by kernel_rfl) ?_ ?_
  · refine fsteps_cons 1 rfl (fun a u hE hD hk => f_val (o := ⟨some 10, _, _, _, _, _⟩) (.int .i64 x) rfl (wanted_none rfl _) (exec_move (.tmp 1) (.int .i64 x) rfl (hE 1 (.int .i64 x) (by kernel_rfl) (by kernel_rfl))) rfl) ?_
    refine fsteps_cons 2 rfl (fun a u hE hD hk => f_val (o := ⟨some 11, _, _, _, _, _⟩) (.int .i64 y) rfl (wanted_none rfl _) (exec_move (.tmp 2) (.int .i64 y) rfl (hE 2 (.int .i64 y) (by kernel_rfl) (by kernel_rfl))) rfl) ?_
    refine fsteps_cons 3 rfl (fun a u hE hD hk => f_val (o := ⟨some 12, _, _, _, _, _⟩) (.bool (decide ((x : Int) ≠ (y : Int)))) rfl (wanted_none rfl _) (exec_nen (p := x) (q := y) rfl (hD 0 10 (by kernel_rfl)) (hD 1 11 (by kernel_rfl))) rfl) ?_
    refine fsteps_cons 4 rfl (fun a u hE hD hk => f_val (o := ⟨some 13, _, _, _, _, _⟩) (.bool (decide ((x : Int) ≠ (y : Int)))) rfl (wanted_none rfl _) (exec_move (.tmp 12) (.bool (decide ((x : Int) ≠ (y : Int)))) rfl (hD 2 12 (by kernel_rfl))) rfl) ?_
    refine fsteps_cons 5 rfl (fun a u hE hD hk => f_if ((decide ((x : Int) ≠ (y : Int)))) rfl rfl rfl (hD 3 13 (by kernel_rfl)) (fun hb => f_val (o := ⟨some 14, _, _, _, _, _⟩) (.int .i64 x) rfl (wanted_b rfl rfl (hD 3 13 (by kernel_rfl)) (eq_true_of hb)) (exec_move (.tmp 1) (.int .i64 x) rfl (hE 1 (.int .i64 x) (by kernel_rfl) (by kernel_rfl))) rfl)) ?_
    refine fsteps_cons 6 rfl (fun a u hE hD hk => f_if ((decide ((x : Int) ≠ (y : Int)))) rfl rfl rfl (hD 3 13 (by kernel_rfl)) (fun hb => f_val (o := ⟨some 15, _, _, _, _, _⟩) (.int .i64 y) rfl (wanted_b rfl rfl (hD 3 13 (by kernel_rfl)) (eq_true_of hb)) (exec_move (.tmp 2) (.int .i64 y) rfl (hE 2 (.int .i64 y) (by kernel_rfl) (by kernel_rfl))) rfl)) ?_
    refine fsteps_cons 7 rfl (fun a u hE hD hk => f_if ((decide ((x : Int) ≠ (y : Int)))) rfl rfl rfl (hD 3 13 (by kernel_rfl)) (fun hb => f_call (o := ⟨some 16, _, _, _, _, _⟩) 10 #[.int .i64 1, .int .i64 x, .int .i64 y] rfl (wanted_b rfl rfl (hD 3 13 (by kernel_rfl)) (eq_true_of hb)) (exec_call 10 _ [.const (.int .i64 1), .tmp 14, .tmp 15] _ [.int .i64 1, .int .i64 x, .int .i64 y] Try.func10 (by kernel_rfl) (by kernel_rfl) rfl (show [a.eval (.const (.int .i64 1)), a.eval (.tmp 14), a.eval (.tmp 15)] = [.int .i64 1, .int .i64 x, .int .i64 y] from (by rw [show a.eval (.tmp 14) = .int .i64 x from ((hD 4 14 (by kernel_rfl)).1 hb), show a.eval (.tmp 15) = .int .i64 y from ((hD 5 15 (by kernel_rfl)).1 hb)] <;> rfl)) u) (better_any _ _ _ u))) ?_
    refine fsteps_cons 8 rfl (fun a u hE hD hk => f_if ((decide ((x : Int) ≠ (y : Int)))) rfl rfl rfl (hD 3 13 (by kernel_rfl)) (fun hb => f_val (o := ⟨some 17, _, _, _, _, _⟩) (.int .i64 y) rfl (wanted_b rfl rfl (hD 3 13 (by kernel_rfl)) (eq_true_of hb)) (exec_move (.tmp 2) (.int .i64 y) rfl (hE 2 (.int .i64 y) (by kernel_rfl) (by kernel_rfl))) rfl)) ?_
    refine fsteps_cons 9 rfl (fun a u hE hD hk => f_if ((decide ((x : Int) ≠ (y : Int)))) rfl rfl rfl (hD 3 13 (by kernel_rfl)) (fun hb => f_val (o := ⟨some 18, _, _, _, _, _⟩) (.int .i64 x) rfl (wanted_b rfl rfl (hD 3 13 (by kernel_rfl)) (eq_true_of hb)) (exec_move (.tmp 1) (.int .i64 x) rfl (hE 1 (.int .i64 x) (by kernel_rfl) (by kernel_rfl))) rfl)) ?_
    refine fsteps_cons 10 rfl (fun a u hE hD hk => f_if ((decide ((x : Int) ≠ (y : Int)))) rfl rfl rfl (hD 3 13 (by kernel_rfl)) (fun hb => f_call (o := ⟨some 19, _, _, _, _, _⟩) 10 #[.int .i64 1, .int .i64 y, .int .i64 x] rfl (wanted_b rfl rfl (hD 3 13 (by kernel_rfl)) (eq_true_of hb)) (exec_call 10 _ [.const (.int .i64 1), .tmp 17, .tmp 18] _ [.int .i64 1, .int .i64 y, .int .i64 x] Try.func10 (by kernel_rfl) (by kernel_rfl) rfl (show [a.eval (.const (.int .i64 1)), a.eval (.tmp 17), a.eval (.tmp 18)] = [.int .i64 1, .int .i64 y, .int .i64 x] from (by rw [show a.eval (.tmp 17) = .int .i64 y from ((hD 7 17 (by kernel_rfl)).1 hb), show a.eval (.tmp 18) = .int .i64 x from ((hD 8 18 (by kernel_rfl)).1 hb)] <;> rfl)) u) (better_any _ _ _ u))) ?_
    refine fsteps_cons 11 rfl (fun a u hE hD hk => f_if ((decide ((x : Int) ≠ (y : Int)))) rfl rfl rfl (hD 3 13 (by kernel_rfl)) (fun hb => f_val (o := ⟨some 20, _, _, _, _, _⟩) (.bool (bet 1 x y == bet 1 y x)) rfl (wanted_b rfl rfl (hD 3 13 (by kernel_rfl)) (eq_true_of hb)) (exec_eqb (.tmp 16) (.tmp 19) _ _ _ _ rfl ((hD 6 16 (by kernel_rfl)).1 hb) ((hD 9 19 (by kernel_rfl)).1 hb) rfl) rfl)) ?_
    refine fsteps_cons 12 rfl (fun a u hE hD hk => f_if ((decide ((x : Int) ≠ (y : Int)))) rfl rfl rfl (hD 3 13 (by kernel_rfl)) (fun hb => f_val (o := ⟨some 21, _, _, _, _, _⟩) (.bool (bet 1 x y == bet 1 y x)) rfl (wanted_b rfl rfl (hD 3 13 (by kernel_rfl)) (eq_true_of hb)) (exec_move (.tmp 20) (.bool (bet 1 x y == bet 1 y x)) rfl ((hD 10 20 (by kernel_rfl)).1 hb)) rfl)) ?_
    refine fsteps_cons 13 rfl (fun a u hE hD hk => f_unless2 (decide ((x : Int) ≠ (y : Int))) ((bet 1 x y == bet 1 y x)) rfl rfl rfl (hD 11 21 (by kernel_rfl)) (fun hb => f_val (o := ⟨some 22, _, _, _, _, _⟩) (.int .i64 x) rfl (wanted_b rfl rfl ((hD 11 21 (by kernel_rfl)).1 (and_l hb)) (eq_false_of (and_r hb))) (exec_move (.tmp 1) (.int .i64 x) rfl (hE 1 (.int .i64 x) (by kernel_rfl) (by kernel_rfl))) rfl)) ?_
    refine fsteps_cons 14 rfl (fun a u hE hD hk => f_unless2 (decide ((x : Int) ≠ (y : Int))) ((bet 1 x y == bet 1 y x)) rfl rfl rfl (hD 11 21 (by kernel_rfl)) (fun hb => f_val (o := ⟨some 23, _, _, _, _, _⟩) (.int .i64 y) rfl (wanted_b rfl rfl ((hD 11 21 (by kernel_rfl)).1 (and_l hb)) (eq_false_of (and_r hb))) (exec_move (.tmp 2) (.int .i64 y) rfl (hE 2 (.int .i64 y) (by kernel_rfl) (by kernel_rfl))) rfl)) ?_
    refine fsteps_cons 15 rfl (fun a u hE hD hk => f_unless2 (decide ((x : Int) ≠ (y : Int))) ((bet 1 x y == bet 1 y x)) rfl rfl rfl (hD 11 21 (by kernel_rfl)) (fun hb => f_call (o := ⟨some 24, _, _, _, _, _⟩) 10 #[.int .i64 1, .int .i64 x, .int .i64 y] rfl (wanted_b rfl rfl ((hD 11 21 (by kernel_rfl)).1 (and_l hb)) (eq_false_of (and_r hb))) (exec_call 10 _ [.const (.int .i64 1), .tmp 22, .tmp 23] _ [.int .i64 1, .int .i64 x, .int .i64 y] Try.func10 (by kernel_rfl) (by kernel_rfl) rfl (show [a.eval (.const (.int .i64 1)), a.eval (.tmp 22), a.eval (.tmp 23)] = [.int .i64 1, .int .i64 x, .int .i64 y] from (by rw [show a.eval (.tmp 22) = .int .i64 x from ((hD 12 22 (by kernel_rfl)).1 hb), show a.eval (.tmp 23) = .int .i64 y from ((hD 13 23 (by kernel_rfl)).1 hb)] <;> rfl)) u) (better_any _ _ _ u))) ?_
    refine fsteps_cons 16 rfl (fun a u hE hD hk => f_unless2 (decide ((x : Int) ≠ (y : Int))) ((bet 1 x y == bet 1 y x)) rfl rfl rfl (hD 11 21 (by kernel_rfl)) (fun hb => f_val (o := ⟨some 25, _, _, _, _, _⟩) (.int .i64 x) rfl (wanted_b rfl rfl ((hD 11 21 (by kernel_rfl)).1 (and_l hb)) (eq_false_of (and_r hb))) (exec_move (.tmp 1) (.int .i64 x) rfl (hE 1 (.int .i64 x) (by kernel_rfl) (by kernel_rfl))) rfl)) ?_
    refine fsteps_cons 17 rfl (fun a u hE hD hk => f_unless2 (decide ((x : Int) ≠ (y : Int))) ((bet 1 x y == bet 1 y x)) rfl rfl rfl (hD 11 21 (by kernel_rfl)) (fun hb => f_val (o := ⟨some 26, _, _, _, _, _⟩) (.int .i64 y) rfl (wanted_b rfl rfl ((hD 11 21 (by kernel_rfl)).1 (and_l hb)) (eq_false_of (and_r hb))) (exec_move (.tmp 2) (.int .i64 y) rfl (hE 2 (.int .i64 y) (by kernel_rfl) (by kernel_rfl))) rfl)) ?_
    refine fsteps_cons 18 rfl (fun a u hE hD hk => f_unless2 (decide ((x : Int) ≠ (y : Int))) ((bet 1 x y == bet 1 y x)) rfl rfl rfl (hD 11 21 (by kernel_rfl)) (fun hb => f_call (o := ⟨some 27, _, _, _, _, _⟩) 10 #[.int .i64 2, .int .i64 x, .int .i64 y] rfl (wanted_b rfl rfl ((hD 11 21 (by kernel_rfl)).1 (and_l hb)) (eq_false_of (and_r hb))) (exec_call 10 _ [.const (.int .i64 2), .tmp 25, .tmp 26] _ [.int .i64 2, .int .i64 x, .int .i64 y] Try.func10 (by kernel_rfl) (by kernel_rfl) rfl (show [a.eval (.const (.int .i64 2)), a.eval (.tmp 25), a.eval (.tmp 26)] = [.int .i64 2, .int .i64 x, .int .i64 y] from (by rw [show a.eval (.tmp 25) = .int .i64 x from ((hD 15 25 (by kernel_rfl)).1 hb), show a.eval (.tmp 26) = .int .i64 y from ((hD 16 26 (by kernel_rfl)).1 hb)] <;> rfl)) u) (better_any _ _ _ u))) ?_
    refine fsteps_cons 19 rfl (fun a u hE hD hk => f_unless2 (decide ((x : Int) ≠ (y : Int))) ((bet 1 x y == bet 1 y x)) rfl rfl rfl (hD 11 21 (by kernel_rfl)) (fun hb => f_val (o := ⟨some 28, _, _, _, _, _⟩) (.bool (bet 1 x y == bet 2 x y)) rfl (wanted_b rfl rfl ((hD 11 21 (by kernel_rfl)).1 (and_l hb)) (eq_false_of (and_r hb))) (exec_eqb (.tmp 24) (.tmp 27) _ _ _ _ rfl ((hD 14 24 (by kernel_rfl)).1 hb) ((hD 17 27 (by kernel_rfl)).1 hb) rfl) rfl)) ?_
    refine fsteps_cons 20 rfl (fun a u hE hD hk => f_if ((decide ((x : Int) ≠ (y : Int)))) rfl rfl rfl (hD 3 13 (by kernel_rfl)) (fun hb => f_val (o := ⟨some 29, _, _, _, _, _⟩) (.bool ((bet 1 x y == bet 1 y x) || (bet 1 x y == bet 2 x y))) rfl (wanted_b rfl rfl (hD 3 13 (by kernel_rfl)) (eq_true_of hb)) (exec_pickor (.tmp 21) (.const (.bool true)) (.tmp 28) ((bet 1 x y == bet 1 y x)) ((bet 1 x y == bet 2 x y)) rfl ((hD 11 21 (by kernel_rfl)).1 hb) rfl (fun hb2 => ((hD 18 28 (by kernel_rfl)).1 (and_mk hb hb2)))) rfl)) ?_
    refine fsteps_cons 21 rfl (fun a u hE hD hk => f_val (o := ⟨some 30, _, _, _, _, _⟩) (.bool ((decide ((x : Int) ≠ (y : Int))) && ((bet 1 x y == bet 1 y x) || (bet 1 x y == bet 2 x y)))) rfl (wanted_none rfl _) (exec_pickand (.tmp 13) (.tmp 29) (.const (.bool false)) ((decide ((x : Int) ≠ (y : Int)))) (((bet 1 x y == bet 1 y x) || (bet 1 x y == bet 2 x y))) rfl (hD 3 13 (by kernel_rfl)) (fun hb2 => ((hD 19 29 (by kernel_rfl)).1 hb2)) rfl) rfl) ?_
    refine fsteps_cons 22 rfl (fun a u hE hD hk => f_val (o := ⟨some 31, _, _, _, _, _⟩) (.bool ((decide ((x : Int) ≠ (y : Int))) && ((bet 1 x y == bet 1 y x) || (bet 1 x y == bet 2 x y)))) rfl (wanted_none rfl _) (exec_move (.tmp 30) (.bool ((decide ((x : Int) ≠ (y : Int))) && ((bet 1 x y == bet 1 y x) || (bet 1 x y == bet 2 x y)))) rfl (hD 20 30 (by kernel_rfl))) rfl) ?_
    refine fsteps_cons 23 rfl (fun a u hE hD hk => f_unless (((decide ((x : Int) ≠ (y : Int))) && ((bet 1 x y == bet 1 y x) || (bet 1 x y == bet 2 x y)))) rfl rfl rfl (hD 21 31 (by kernel_rfl)) (fun hb => f_val (o := ⟨some 32, _, _, _, _, _⟩) (.pointer (some ⟨g, 3, none⟩)) rfl (wanted_b rfl rfl (hD 21 31 (by kernel_rfl)) (eq_false_of hb)) (exec_fld 23 3 3 (.tmp 3) (g) rfl (hE 3 (.pointer (some ⟨g, 0, none⟩)) (by kernel_rfl) (by kernel_rfl)) (by kernel_rfl)) rfl)) ?_
    refine fsteps_cons 24 rfl (fun a u hE hD hk => f_unless (((decide ((x : Int) ≠ (y : Int))) && ((bet 1 x y == bet 1 y x) || (bet 1 x y == bet 2 x y)))) rfl rfl rfl (hD 21 31 (by kernel_rfl)) (fun hb => f_val (o := ⟨some 33, _, _, _, _, _⟩) (.int .i64 c.side) rfl (wanted_b rfl rfl (hD 21 31 (by kernel_rfl)) (eq_false_of hb)) (exec_loadi 3 Try.underlying3 (.tmp 32) ⟨g, 3, none⟩ (.int .i64 c.side) rfl ((hD 22 32 (by kernel_rfl)).1 hb) ((HB0.out.kept hk).fld 3 _ rfl)) rfl)) ?_
    refine fsteps_cons 25 rfl (fun a u hE hD hk => f_unless (((decide ((x : Int) ≠ (y : Int))) && ((bet 1 x y == bet 1 y x) || (bet 1 x y == bet 2 x y)))) rfl rfl rfl (hD 21 31 (by kernel_rfl)) (fun hb => f_val (o := ⟨some 34, _, _, _, _, _⟩) (.int .i64 x) rfl (wanted_b rfl rfl (hD 21 31 (by kernel_rfl)) (eq_false_of hb)) (exec_move (.tmp 1) (.int .i64 x) rfl (hE 1 (.int .i64 x) (by kernel_rfl) (by kernel_rfl))) rfl)) ?_
    refine fsteps_cons 26 rfl (fun a u hE hD hk => f_unless (((decide ((x : Int) ≠ (y : Int))) && ((bet 1 x y == bet 1 y x) || (bet 1 x y == bet 2 x y)))) rfl rfl rfl (hD 21 31 (by kernel_rfl)) (fun hb => f_val (o := ⟨some 35, _, _, _, _, _⟩) (.int .i64 x) rfl (wanted_b rfl rfl (hD 21 31 (by kernel_rfl)) (eq_false_of hb)) (exec_move (.tmp 1) (.int .i64 x) rfl (hE 1 (.int .i64 x) (by kernel_rfl) (by kernel_rfl))) rfl)) ?_
    refine fsteps_cons 27 rfl (fun a u hE hD hk => f_unless (((decide ((x : Int) ≠ (y : Int))) && ((bet 1 x y == bet 1 y x) || (bet 1 x y == bet 2 x y)))) rfl rfl rfl (hD 21 31 (by kernel_rfl)) (fun hb => f_call (o := ⟨some 36, _, _, _, _, _⟩) 10 #[.int .i64 c.side, .int .i64 x, .int .i64 x] rfl (wanted_b rfl rfl (hD 21 31 (by kernel_rfl)) (eq_false_of hb)) (exec_call 10 _ [.tmp 33, .tmp 34, .tmp 35] _ [.int .i64 c.side, .int .i64 x, .int .i64 x] Try.func10 (by kernel_rfl) (by kernel_rfl) rfl (show [a.eval (.tmp 33), a.eval (.tmp 34), a.eval (.tmp 35)] = [.int .i64 c.side, .int .i64 x, .int .i64 x] from (by rw [show a.eval (.tmp 33) = .int .i64 c.side from ((hD 23 33 (by kernel_rfl)).1 hb), show a.eval (.tmp 34) = .int .i64 x from ((hD 24 34 (by kernel_rfl)).1 hb), show a.eval (.tmp 35) = .int .i64 x from ((hD 25 35 (by kernel_rfl)).1 hb)] <;> rfl)) u) (better_any _ _ _ u))) ?_
    refine fsteps_cons 28 rfl (fun a u hE hD hk => f_as (show ((((decide ((x : Int) ≠ (y : Int))) && ((bet 1 x y == bet 1 y x) || (bet 1 x y == bet 2 x y))) || (bet c.side x x)) : Bool) = false from sides_no c.side x y) (f_val (o := ⟨some 37, _, _, _, _, _⟩) (.bool (((decide ((x : Int) ≠ (y : Int))) && ((bet 1 x y == bet 1 y x) || (bet 1 x y == bet 2 x y))) || (bet c.side x x))) rfl (wanted_none rfl _) (exec_pickor (.tmp 31) (.const (.bool true)) (.tmp 36) (((decide ((x : Int) ≠ (y : Int))) && ((bet 1 x y == bet 1 y x) || (bet 1 x y == bet 2 x y)))) ((bet c.side x x)) rfl (hD 21 31 (by kernel_rfl)) rfl (fun hb2 => ((hD 26 36 (by kernel_rfl)).1 hb2))) rfl)) ?_
    exact fsteps_nil
  intro gv w1 hV k1
  rw [show dstsOf _ 28 = [10, 11, 12, 13, 14, 15, 16, 17, 18, 19, 20, 21, 22, 23, 24, 25, 26, 27, 28, 29, 30, 31, 32, 33, 34, 35, 36, 37] by kernel_rfl]
  simp only [List.foldl_cons, List.foldl_nil, List.setIfInBounds_toArray, List.set_cons_succ, List.set_cons_zero, List.drop_succ_cons, List.drop_zero]
  rw [show gv 37 = .bool false from hV 27 37 (by kernel_rfl)]
  clear hV
  refine wpList_nil ?_
  have HB1 := Lib.hid (HB0.out.kept k1)
  have kw1 := kw0.trans k1
  clear kw0
  go_upto_region 3 with fail
  refine wp_text 3 [.eq (c.v), .eq (.int .i64 0), .eq (.bool false)] rfl (by kernel_rfl) ?_ ?_
  · refine fsteps_cons 1 rfl (fun a u hE hD hk => f_val (o := ⟨some 38, _, _, _, _, _⟩) (c.v) rfl (wanted_none rfl _) (exec_loadS 23 (.tmp 3) (g) _ c.cells _ rfl (hE 3 (.pointer (some ⟨g, 0, none⟩)) (by kernel_rfl) (by kernel_rfl)) (HB1.out.kept hk) Try.underlying23 (by rw [Ord.cells_len _ HT.out]; exact ord_size)) rfl) ?_
    refine fsteps_cons 2 rfl (fun a u hE hD hk => f_call (o := ⟨some 39, _, _, _, _, _⟩) 11 #[c.v] rfl (wanted_none rfl _) (exec_call 11 _ [.tmp 38] _ [c.v] Try.func11 (by kernel_rfl) (by kernel_rfl) rfl (show [a.eval (.tmp 38)] = [c.v] from (by rw [show a.eval (.tmp 38) = c.v from (hD 0 38 (by kernel_rfl))] <;> rfl)) u) (ordRight_is c 0 u HE.out)) ?_
    refine fsteps_cons 3 rfl (fun a u hE hD hk => f_as (show ((decide ((0 : Int) ≠ (0 : Int))) : Bool) = false from rfl) (f_val (o := ⟨some 40, _, _, _, _, _⟩) (.bool (decide ((0 : Int) ≠ (0 : Int)))) rfl (wanted_none rfl _) (exec_nen (p := 0) (q := 0) rfl (hD 1 39 (by kernel_rfl)) rfl) rfl)) ?_
    exact fsteps_nil
  intro gv w2 hV k2
  rw [show dstsOf _ 3 = [38, 39, 40] by kernel_rfl]
  simp only [List.foldl_cons, List.foldl_nil, List.setIfInBounds_toArray, List.set_cons_succ, List.set_cons_zero, List.drop_succ_cons, List.drop_zero]
  rw [show gv 40 = .bool false from hV 2 40 (by kernel_rfl)]
  clear hV
  refine wpList_nil ?_
  have HB2 := Lib.hid (HB1.out.kept k2)
  have kw2 := kw1.trans k2
  clear kw1
  go_upto_region 5 with fail
  refine wp_text 4 [.eq (.pointer (some ⟨g, 3, none⟩)), .eq (.int .i64 c.side), .eq (.int .i64 (3 - c.side)), .eq (.int .i64 (3 - c.side))] rfl (by kernel_rfl) ?_ ?_
  · refine fsteps_cons 1 rfl (fun a u hE hD hk => f_val (o := ⟨some 42, _, _, _, _, _⟩) (.pointer (some ⟨g, 3, none⟩)) rfl (wanted_none rfl _) (exec_fld 23 3 3 (.tmp 3) (g) rfl (hE 3 (.pointer (some ⟨g, 0, none⟩)) (by kernel_rfl) (by kernel_rfl)) (by kernel_rfl)) rfl) ?_
    refine fsteps_cons 2 rfl (fun a u hE hD hk => f_val (o := ⟨some 43, _, _, _, _, _⟩) (.int .i64 c.side) rfl (wanted_none rfl _) (exec_loadi 3 Try.underlying3 (.tmp 42) ⟨g, 3, none⟩ (.int .i64 c.side) rfl (hD 0 42 (by kernel_rfl)) ((HB2.out.kept hk).fld 3 _ rfl)) rfl) ?_
    refine fsteps_cons 3 rfl (fun a u hE hD hk => f_val (o := ⟨some 44, _, _, _, _, _⟩) (.int .i64 (3 - c.side)) rfl (wanted_none rfl _) (exec_subn _ rfl rfl (hD 1 43 (by kernel_rfl)) rfl (by have := HS.out; omega) (by have := HS.out; omega)) rfl) ?_
    refine fsteps_cons 4 rfl (fun a u hE hD hk => f_val (o := ⟨some 7, _, _, _, _, _⟩) (.int .i64 (3 - c.side)) rfl (wanted_none rfl _) (exec_assign (.tmp 44) (.int .i64 (3 - c.side)) rfl (hD 2 44 (by kernel_rfl))) rfl) ?_
    exact fsteps_nil
  intro gv w3 hV k3
  rw [show dstsOf _ 4 = [42, 43, 44, 7] by kernel_rfl]
  simp only [List.foldl_cons, List.foldl_nil, List.setIfInBounds_toArray, List.set_cons_succ, List.set_cons_zero, List.drop_succ_cons, List.drop_zero]
  rw [show gv 7 = .int .i64 (3 - c.side) from hV 3 7 (by kernel_rfl)]
  clear hV
  refine wpList_nil ?_
  have HB3 := Lib.hid (HB2.out.kept k3)
  have kw3 := kw2.trans k3
  clear kw2
  go_upto_region 6 with fail
  refine wp_text 15 [.eq (c.v), .eq (.int .i64 x), .eq (.bool (c.crosses x)), .eq (.bool (c.crosses x)), .cond (c.crosses x) (.eq (.int .i64 (3 - c.side))), .cond (c.crosses x) (.eq (.int .i64 y)), .cond (c.crosses x) (.eq (.int .i64 x)), .cond (c.crosses x) (.eq (.bool (bet (3 - c.side) y x))), .eq (.bool ((c.crosses x) && (bet (3 - c.side) y x))), .eq (.bool ((c.crosses x) && (bet (3 - c.side) y x))), .cond ((c.crosses x) && (bet (3 - c.side) y x)) (.eq (c.v)), .cond ((c.crosses x) && (bet (3 - c.side) y x)) (.eq (.int .i64 y)), .cond ((c.crosses x) && (bet (3 - c.side) y x)) (.eq (.bool (c.crosses y))), .cond ((c.crosses x) && (bet (3 - c.side) y x)) (.eq (.bool (!(c.crosses y)))), .eq (.bool false)] rfl (by kernel_rfl) ?_ ?_
  · refine fsteps_cons 1 rfl (fun a u hE hD hk => f_val (o := ⟨some 45, _, _, _, _, _⟩) (c.v) rfl (wanted_none rfl _) (exec_loadS 23 (.tmp 3) (g) _ c.cells _ rfl (hE 3 (.pointer (some ⟨g, 0, none⟩)) (by kernel_rfl) (by kernel_rfl)) (HB3.out.kept hk) Try.underlying23 (by rw [Ord.cells_len _ HT.out]; exact ord_size)) rfl) ?_
    refine fsteps_cons 2 rfl (fun a u hE hD hk => f_val (o := ⟨some 46, _, _, _, _, _⟩) (.int .i64 x) rfl (wanted_none rfl _) (exec_move (.tmp 1) (.int .i64 x) rfl (hE 1 (.int .i64 x) (by kernel_rfl) (by kernel_rfl))) rfl) ?_
    refine fsteps_cons 3 rfl (fun a u hE hD hk => f_call (o := ⟨some 47, _, _, _, _, _⟩) 8 #[c.v, .int .i64 x] rfl (wanted_none rfl _) (exec_call 8 _ [.tmp 45, .tmp 46] _ [c.v, .int .i64 x] Try.func8 (by kernel_rfl) (by kernel_rfl) rfl (show [a.eval (.tmp 45), a.eval (.tmp 46)] = [c.v, .int .i64 x] from (by rw [show a.eval (.tmp 45) = c.v from (hD 0 45 (by kernel_rfl)), show a.eval (.tmp 46) = .int .i64 x from (hD 1 46 (by kernel_rfl))] <;> rfl)) u) (crosses_any c x u)) ?_
    refine fsteps_cons 4 rfl (fun a u hE hD hk => f_val (o := ⟨some 48, _, _, _, _, _⟩) (.bool (c.crosses x)) rfl (wanted_none rfl _) (exec_move (.tmp 47) (.bool (c.crosses x)) rfl (hD 2 47 (by kernel_rfl))) rfl) ?_
    refine fsteps_cons 5 rfl (fun a u hE hD hk => f_if ((c.crosses x)) rfl rfl rfl (hD 3 48 (by kernel_rfl)) (fun hb => f_val (o := ⟨some 49, _, _, _, _, _⟩) (.int .i64 (3 - c.side)) rfl (wanted_b rfl rfl (hD 3 48 (by kernel_rfl)) (eq_true_of hb)) (exec_move (.tmp 7) (.int .i64 (3 - c.side)) rfl (hE 7 (.int .i64 (3 - c.side)) (by kernel_rfl) (by kernel_rfl))) rfl)) ?_
    refine fsteps_cons 6 rfl (fun a u hE hD hk => f_if ((c.crosses x)) rfl rfl rfl (hD 3 48 (by kernel_rfl)) (fun hb => f_val (o := ⟨some 50, _, _, _, _, _⟩) (.int .i64 y) rfl (wanted_b rfl rfl (hD 3 48 (by kernel_rfl)) (eq_true_of hb)) (exec_move (.tmp 2) (.int .i64 y) rfl (hE 2 (.int .i64 y) (by kernel_rfl) (by kernel_rfl))) rfl)) ?_
    refine fsteps_cons 7 rfl (fun a u hE hD hk => f_if ((c.crosses x)) rfl rfl rfl (hD 3 48 (by kernel_rfl)) (fun hb => f_val (o := ⟨some 51, _, _, _, _, _⟩) (.int .i64 x) rfl (wanted_b rfl rfl (hD 3 48 (by kernel_rfl)) (eq_true_of hb)) (exec_move (.tmp 1) (.int .i64 x) rfl (hE 1 (.int .i64 x) (by kernel_rfl) (by kernel_rfl))) rfl)) ?_
    refine fsteps_cons 8 rfl (fun a u hE hD hk => f_if ((c.crosses x)) rfl rfl rfl (hD 3 48 (by kernel_rfl)) (fun hb => f_call (o := ⟨some 52, _, _, _, _, _⟩) 10 #[.int .i64 (3 - c.side), .int .i64 y, .int .i64 x] rfl (wanted_b rfl rfl (hD 3 48 (by kernel_rfl)) (eq_true_of hb)) (exec_call 10 _ [.tmp 49, .tmp 50, .tmp 51] _ [.int .i64 (3 - c.side), .int .i64 y, .int .i64 x] Try.func10 (by kernel_rfl) (by kernel_rfl) rfl (show [a.eval (.tmp 49), a.eval (.tmp 50), a.eval (.tmp 51)] = [.int .i64 (3 - c.side), .int .i64 y, .int .i64 x] from (by rw [show a.eval (.tmp 49) = .int .i64 (3 - c.side) from ((hD 4 49 (by kernel_rfl)).1 hb), show a.eval (.tmp 50) = .int .i64 y from ((hD 5 50 (by kernel_rfl)).1 hb), show a.eval (.tmp 51) = .int .i64 x from ((hD 6 51 (by kernel_rfl)).1 hb)] <;> rfl)) u) (better_any _ _ _ u))) ?_
    refine fsteps_cons 9 rfl (fun a u hE hD hk => f_val (o := ⟨some 53, _, _, _, _, _⟩) (.bool ((c.crosses x) && (bet (3 - c.side) y x))) rfl (wanted_none rfl _) (exec_pickand (.tmp 48) (.tmp 52) (.const (.bool false)) ((c.crosses x)) ((bet (3 - c.side) y x)) rfl (hD 3 48 (by kernel_rfl)) (fun hb2 => ((hD 7 52 (by kernel_rfl)).1 hb2)) rfl) rfl) ?_
    refine fsteps_cons 10 rfl (fun a u hE hD hk => f_val (o := ⟨some 54, _, _, _, _, _⟩) (.bool ((c.crosses x) && (bet (3 - c.side) y x))) rfl (wanted_none rfl _) (exec_move (.tmp 53) (.bool ((c.crosses x) && (bet (3 - c.side) y x))) rfl (hD 8 53 (by kernel_rfl))) rfl) ?_
    refine fsteps_cons 11 rfl (fun a u hE hD hk => f_if (((c.crosses x) && (bet (3 - c.side) y x))) rfl rfl rfl (hD 9 54 (by kernel_rfl)) (fun hb => f_val (o := ⟨some 55, _, _, _, _, _⟩) (c.v) rfl (wanted_b rfl rfl (hD 9 54 (by kernel_rfl)) (eq_true_of hb)) (exec_loadS 23 (.tmp 3) (g) _ c.cells _ rfl (hE 3 (.pointer (some ⟨g, 0, none⟩)) (by kernel_rfl) (by kernel_rfl)) (HB3.out.kept hk) Try.underlying23 (by rw [Ord.cells_len _ HT.out]; exact ord_size)) rfl)) ?_
    refine fsteps_cons 12 rfl (fun a u hE hD hk => f_if (((c.crosses x) && (bet (3 - c.side) y x))) rfl rfl rfl (hD 9 54 (by kernel_rfl)) (fun hb => f_val (o := ⟨some 56, _, _, _, _, _⟩) (.int .i64 y) rfl (wanted_b rfl rfl (hD 9 54 (by kernel_rfl)) (eq_true_of hb)) (exec_move (.tmp 2) (.int .i64 y) rfl (hE 2 (.int .i64 y) (by kernel_rfl) (by kernel_rfl))) rfl)) ?_
    refine fsteps_cons 13 rfl (fun a u hE hD hk => f_if (((c.crosses x) && (bet (3 - c.side) y x))) rfl rfl rfl (hD 9 54 (by kernel_rfl)) (fun hb => f_call (o := ⟨some 57, _, _, _, _, _⟩) 8 #[c.v, .int .i64 y] rfl (wanted_b rfl rfl (hD 9 54 (by kernel_rfl)) (eq_true_of hb)) (exec_call 8 _ [.tmp 55, .tmp 56] _ [c.v, .int .i64 y] Try.func8 (by kernel_rfl) (by kernel_rfl) rfl (show [a.eval (.tmp 55), a.eval (.tmp 56)] = [c.v, .int .i64 y] from (by rw [show a.eval (.tmp 55) = c.v from ((hD 10 55 (by kernel_rfl)).1 hb), show a.eval (.tmp 56) = .int .i64 y from ((hD 11 56 (by kernel_rfl)).1 hb)] <;> rfl)) u) (crosses_any c y u))) ?_
    refine fsteps_cons 14 rfl (fun a u hE hD hk => f_if (((c.crosses x) && (bet (3 - c.side) y x))) rfl rfl rfl (hD 9 54 (by kernel_rfl)) (fun hb => f_val (o := ⟨some 58, _, _, _, _, _⟩) (.bool (!(c.crosses y))) rfl (wanted_b rfl rfl (hD 9 54 (by kernel_rfl)) (eq_true_of hb)) (exec_not _ (.tmp 57) (c.crosses y) rfl ((hD 12 57 (by kernel_rfl)).1 hb)) rfl)) ?_
    refine fsteps_cons 15 rfl (fun a u hE hD hk => f_as (show ((((c.crosses x) && (bet (3 - c.side) y x)) && (!(c.crosses y))) : Bool) = false from HX.out) (f_val (o := ⟨some 59, _, _, _, _, _⟩) (.bool (((c.crosses x) && (bet (3 - c.side) y x)) && (!(c.crosses y)))) rfl (wanted_none rfl _) (exec_pickand (.tmp 54) (.tmp 58) (.const (.bool false)) (((c.crosses x) && (bet (3 - c.side) y x))) ((!(c.crosses y))) rfl (hD 9 54 (by kernel_rfl)) (fun hb2 => ((hD 13 58 (by kernel_rfl)).1 hb2)) rfl) rfl)) ?_
    exact fsteps_nil
  intro gv w4 hV k4
  rw [show dstsOf _ 15 = [45, 46, 47, 48, 49, 50, 51, 52, 53, 54, 55, 56, 57, 58, 59] by kernel_rfl]
  simp only [List.foldl_cons, List.foldl_nil, List.setIfInBounds_toArray, List.set_cons_succ, List.set_cons_zero, List.drop_succ_cons, List.drop_zero]
  rw [show gv 59 = .bool false from hV 14 59 (by kernel_rfl)]
  clear hV
  refine wpList_nil ?_
  have HB4 := Lib.hid (HB3.out.kept k4)
  have kw4 := kw3.trans k4
  clear kw3
  go_upto_region 8 with fail
  refine wp_text 7 [.eq (c.v), .eq (.tuple #[.int .i64 P, .int .i64 0]), .eq (.tuple #[.int .i64 P, .int .i64 0]), .eq (.int .i64 P), .eq (.int .i64 0), .eq (.int .i64 P), .eq (.int .i64 0)] rfl (by kernel_rfl) ?_ ?_
  · refine fsteps_cons 1 rfl (fun a u hE hD hk => f_val (o := ⟨some 61, _, _, _, _, _⟩) (c.v) rfl (wanted_none rfl _) (exec_loadS 23 (.tmp 3) (g) _ c.cells _ rfl (hE 3 (.pointer (some ⟨g, 0, none⟩)) (by kernel_rfl) (by kernel_rfl)) (HB4.out.kept hk) Try.underlying23 (by rw [Ord.cells_len _ HT.out]; exact ord_size)) rfl) ?_
    refine fsteps_cons 2 rfl (fun a u hE hD hk => f_call (o := ⟨some 62, _, _, _, _, _⟩) 12 #[c.v] rfl (wanted_none rfl _) (exec_call 12 _ [.tmp 61] _ [c.v] Try.func12 (by kernel_rfl) (by kernel_rfl) rfl (show [a.eval (.tmp 61)] = [c.v] from (by rw [show a.eval (.tmp 61) = c.v from (hD 0 61 (by kernel_rfl))] <;> rfl)) u) (V1.out u)) ?_
    refine fsteps_cons 3 rfl (fun a u hE hD hk => f_val (o := ⟨some 60, _, _, _, _, _⟩) (.tuple #[.int .i64 P, .int .i64 0]) rfl (wanted_none rfl _) (exec_move (.tmp 62) (.tuple #[.int .i64 P, .int .i64 0]) rfl (hD 1 62 (by kernel_rfl))) rfl) ?_
    refine fsteps_cons 4 rfl (fun a u hE hD hk => f_val (o := ⟨some 63, _, _, _, _, _⟩) (.int .i64 P) rfl (wanted_none rfl _) (exec_extract (.tmp 60) [.int .i64 P, .int .i64 0] 0 _ rfl (hD 2 60 (by kernel_rfl)) rfl) rfl) ?_
    refine fsteps_cons 5 rfl (fun a u hE hD hk => f_val (o := ⟨some 64, _, _, _, _, _⟩) (.int .i64 0) rfl (wanted_none rfl _) (exec_extract (.tmp 60) [.int .i64 P, .int .i64 0] 1 _ rfl (hD 2 60 (by kernel_rfl)) rfl) rfl) ?_
    refine fsteps_cons 6 rfl (fun a u hE hD hk => f_val (o := ⟨some 8, _, _, _, _, _⟩) (.int .i64 P) rfl (wanted_none rfl _) (exec_assign (.tmp 63) (.int .i64 P) rfl (hD 3 63 (by kernel_rfl))) rfl) ?_
    refine fsteps_cons 7 rfl (fun a u hE hD hk => f_val (o := ⟨some 9, _, _, _, _, _⟩) (.int .i64 0) rfl (wanted_none rfl _) (exec_assign (.tmp 64) (.int .i64 0) rfl (hD 4 64 (by kernel_rfl))) rfl) ?_
    exact fsteps_nil
  intro gv w5 hV k5
  rw [show dstsOf _ 7 = [61, 62, 60, 63, 64, 8, 9] by kernel_rfl]
  simp only [List.foldl_cons, List.foldl_nil, List.setIfInBounds_toArray, List.set_cons_succ, List.set_cons_zero, List.drop_succ_cons, List.drop_zero]
  rw [show gv 8 = .int .i64 P from hV 5 8 (by kernel_rfl)]
  rw [show gv 9 = .int .i64 0 from hV 6 9 (by kernel_rfl)]
  clear hV
  refine wpList_nil ?_
  have HB5 := Lib.hid (HB4.out.kept k5)
  have kw5 := kw4.trans k5
  clear kw4
  go_upto_region 9 with fail
  refine wp_text 24 [.eq (.pointer (some ⟨g, 4, none⟩)), .eq (.int .i64 c.k), .eq (.bool (decide ((c.k : Int) = (2 : Int)))), .eq (.bool (decide ((c.k : Int) = (2 : Int)))), .cond (!(decide ((c.k : Int) = (2 : Int)))) (.eq (c.v)), .cond (!(decide ((c.k : Int) = (2 : Int)))) (.eq (.pointer (some ⟨g, 5, none⟩))), .cond (!(decide ((c.k : Int) = (2 : Int)))) (.eq (.int .i64 c.price)), .cond (!(decide ((c.k : Int) = (2 : Int)))) (.eq (.bool true)), .eq (.bool true), .eq (.bool true), .eq (.int .i64 0), .eq (.bool true), .eq (.bool true), .eq (.bool true), .eq (.int .i64 P), .eq (.bool true), .eq (.bool true), .eq (.bool true), .eq (.int .i64 P), .eq (.bool true), .eq (.bool true), .eq (.bool true), .eq (.bool true), .eq (.bool true)] rfl (by kernel_rfl) ?_ ?_
  · refine fsteps_cons 1 rfl (fun a u hE hD hk => f_val (o := ⟨some 65, _, _, _, _, _⟩) (.pointer (some ⟨g, 4, none⟩)) rfl (wanted_none rfl _) (exec_fld 23 4 4 (.tmp 3) (g) rfl (hE 3 (.pointer (some ⟨g, 0, none⟩)) (by kernel_rfl) (by kernel_rfl)) (by kernel_rfl)) rfl) ?_
    refine fsteps_cons 2 rfl (fun a u hE hD hk => f_val (o := ⟨some 66, _, _, _, _, _⟩) (.int .i64 c.k) rfl (wanted_none rfl _) (exec_loadi 3 Try.underlying3 (.tmp 65) ⟨g, 4, none⟩ (.int .i64 c.k) rfl (hD 0 65 (by kernel_rfl)) ((HB5.out.kept hk).fld 4 _ rfl)) rfl) ?_
    refine fsteps_cons 3 rfl (fun a u hE hD hk => f_val (o := ⟨some 67, _, _, _, _, _⟩) (.bool (decide ((c.k : Int) = (2 : Int)))) rfl (wanted_none rfl _) (exec_eqn (p := c.k) (q := 2) rfl (hD 1 66 (by kernel_rfl)) rfl) rfl) ?_
    refine fsteps_cons 4 rfl (fun a u hE hD hk => f_val (o := ⟨some 68, _, _, _, _, _⟩) (.bool (decide ((c.k : Int) = (2 : Int)))) rfl (wanted_none rfl _) (exec_move (.tmp 67) (.bool (decide ((c.k : Int) = (2 : Int)))) rfl (hD 2 67 (by kernel_rfl))) rfl) ?_
    refine fsteps_cons 5 rfl (fun a u hE hD hk => f_unless ((decide ((c.k : Int) = (2 : Int)))) rfl rfl rfl (hD 3 68 (by kernel_rfl)) (fun hb => f_val (o := ⟨some 69, _, _, _, _, _⟩) (c.v) rfl (wanted_b rfl rfl (hD 3 68 (by kernel_rfl)) (eq_false_of hb)) (exec_loadS 23 (.tmp 3) (g) _ c.cells _ rfl (hE 3 (.pointer (some ⟨g, 0, none⟩)) (by kernel_rfl) (by kernel_rfl)) (HB5.out.kept hk) Try.underlying23 (by rw [Ord.cells_len _ HT.out]; exact ord_size)) rfl)) ?_
    refine fsteps_cons 6 rfl (fun a u hE hD hk => f_unless ((decide ((c.k : Int) = (2 : Int)))) rfl rfl rfl (hD 3 68 (by kernel_rfl)) (fun hb => f_val (o := ⟨some 70, _, _, _, _, _⟩) (.pointer (some ⟨g, 5, none⟩)) rfl (wanted_b rfl rfl (hD 3 68 (by kernel_rfl)) (eq_false_of hb)) (exec_fld 23 5 5 (.tmp 3) (g) rfl (hE 3 (.pointer (some ⟨g, 0, none⟩)) (by kernel_rfl) (by kernel_rfl)) (by kernel_rfl)) rfl)) ?_
    refine fsteps_cons 7 rfl (fun a u hE hD hk => f_unless ((decide ((c.k : Int) = (2 : Int)))) rfl rfl rfl (hD 3 68 (by kernel_rfl)) (fun hb => f_val (o := ⟨some 71, _, _, _, _, _⟩) (.int .i64 c.price) rfl (wanted_b rfl rfl (hD 3 68 (by kernel_rfl)) (eq_false_of hb)) (exec_loadi 3 Try.underlying3 (.tmp 70) ⟨g, 5, none⟩ (.int .i64 c.price) rfl ((hD 5 70 (by kernel_rfl)).1 hb) ((HB5.out.kept hk).fld 5 _ rfl)) rfl)) ?_
    refine fsteps_cons 8 rfl (fun a u hE hD hk => f_unless ((decide ((c.k : Int) = (2 : Int)))) rfl rfl rfl (hD 3 68 (by kernel_rfl)) (fun hb => f_call (o := ⟨some 72, _, _, _, _, _⟩) 8 #[c.v, .int .i64 c.price] rfl (wanted_b rfl rfl (hD 3 68 (by kernel_rfl)) (eq_false_of hb)) (exec_call 8 _ [.tmp 69, .tmp 71] _ [c.v, .int .i64 c.price] Try.func8 (by kernel_rfl) (by kernel_rfl) rfl (show [a.eval (.tmp 69), a.eval (.tmp 71)] = [c.v, .int .i64 c.price] from (by rw [show a.eval (.tmp 69) = c.v from ((hD 4 69 (by kernel_rfl)).1 hb), show a.eval (.tmp 71) = .int .i64 c.price from ((hD 6 71 (by kernel_rfl)).1 hb)] <;> rfl)) u) (crosses_is c c.price true u (cross_own c)))) ?_
    refine fsteps_cons 9 rfl (fun a u hE hD hk => f_as (show (((decide ((c.k : Int) = (2 : Int))) || true) : Bool) = true from Bool.or_true _) (f_val (o := ⟨some 73, _, _, _, _, _⟩) (.bool ((decide ((c.k : Int) = (2 : Int))) || true)) rfl (wanted_none rfl _) (exec_pickor (.tmp 68) (.const (.bool true)) (.tmp 72) ((decide ((c.k : Int) = (2 : Int)))) (true) rfl (hD 3 68 (by kernel_rfl)) rfl (fun hb2 => ((hD 7 72 (by kernel_rfl)).1 hb2))) rfl)) ?_
    refine fsteps_cons 10 rfl (fun a u hE hD hk => f_val (o := ⟨some 74, _, _, _, _, _⟩) (.bool true) rfl (wanted_none rfl _) (exec_move (.tmp 73) (.bool true) rfl (hD 8 73 (by kernel_rfl))) rfl) ?_
    refine fsteps_cons 11 rfl (fun a u hE hD hk => f_val (o := ⟨some 75, _, _, _, _, _⟩) (.int .i64 0) rfl (wanted_at (b := true) true rfl rfl (hD 9 74 (by kernel_rfl))) (exec_move (.tmp 9) (.int .i64 0) rfl (hE 9 (.int .i64 0) (by kernel_rfl) (by kernel_rfl))) rfl) ?_
    refine fsteps_cons 12 rfl (fun a u hE hD hk => f_as (show ((decide ((0 : Int) = (0 : Int))) : Bool) = true from rfl) (f_val (o := ⟨some 76, _, _, _, _, _⟩) (.bool (decide ((0 : Int) = (0 : Int)))) rfl (wanted_at (b := true) true rfl rfl (hD 9 74 (by kernel_rfl))) (exec_eqn (p := 0) (q := 0) rfl (hD 10 75 (by kernel_rfl)) rfl) rfl)) ?_
    refine fsteps_cons 13 rfl (fun a u hE hD hk => f_val (o := ⟨some 77, _, _, _, _, _⟩) (.bool true) rfl (wanted_none rfl _) (exec_pick (.tmp 74) (.tmp 76) (.const (.bool false)) (.bool true) rfl (hD 9 74 (by kernel_rfl)) (hD 11 76 (by kernel_rfl))) rfl) ?_
    refine fsteps_cons 14 rfl (fun a u hE hD hk => f_val (o := ⟨some 78, _, _, _, _, _⟩) (.bool true) rfl (wanted_none rfl _) (exec_move (.tmp 77) (.bool true) rfl (hD 12 77 (by kernel_rfl))) rfl) ?_
    refine fsteps_cons 15 rfl (fun a u hE hD hk => f_val (o := ⟨some 79, _, _, _, _, _⟩) (.int .i64 P) rfl (wanted_at (b := true) true rfl rfl (hD 13 78 (by kernel_rfl))) (exec_move (.tmp 8) (.int .i64 P) rfl (hE 8 (.int .i64 P) (by kernel_rfl) (by kernel_rfl))) rfl) ?_
    refine fsteps_cons 16 rfl (fun a u hE hD hk => f_as (show ((decide ((0 : Int) ≤ (P : Int))) : Bool) = true from decide_eq_true HP.out.1) (f_val (o := ⟨some 80, _, _, _, _, _⟩) (.bool (decide ((0 : Int) ≤ (P : Int)))) rfl (wanted_at (b := true) true rfl rfl (hD 13 78 (by kernel_rfl))) (exec_gen (p := P) (q := 0) rfl (hD 14 79 (by kernel_rfl)) rfl) rfl)) ?_
    refine fsteps_cons 17 rfl (fun a u hE hD hk => f_val (o := ⟨some 81, _, _, _, _, _⟩) (.bool true) rfl (wanted_none rfl _) (exec_pick (.tmp 78) (.tmp 80) (.const (.bool false)) (.bool true) rfl (hD 13 78 (by kernel_rfl)) (hD 15 80 (by kernel_rfl))) rfl) ?_
    refine fsteps_cons 18 rfl (fun a u hE hD hk => f_val (o := ⟨some 82, _, _, _, _, _⟩) (.bool true) rfl (wanted_none rfl _) (exec_move (.tmp 81) (.bool true) rfl (hD 16 81 (by kernel_rfl))) rfl) ?_
    refine fsteps_cons 19 rfl (fun a u hE hD hk => f_val (o := ⟨some 83, _, _, _, _, _⟩) (.int .i64 P) rfl (wanted_at (b := true) true rfl rfl (hD 17 82 (by kernel_rfl))) (exec_move (.tmp 8) (.int .i64 P) rfl (hE 8 (.int .i64 P) (by kernel_rfl) (by kernel_rfl))) rfl) ?_
    refine fsteps_cons 20 rfl (fun a u hE hD hk => f_as (show ((decide ((P : Int) ≤ (1099511627776 : Int))) : Bool) = true from decide_eq_true HP.out.2) (f_val (o := ⟨some 84, _, _, _, _, _⟩) (.bool (decide ((P : Int) ≤ (1099511627776 : Int)))) rfl (wanted_at (b := true) true rfl rfl (hD 17 82 (by kernel_rfl))) (exec_len_ (p := P) (q := 1099511627776) rfl (hD 18 83 (by kernel_rfl)) rfl) rfl)) ?_
    refine fsteps_cons 21 rfl (fun a u hE hD hk => f_val (o := ⟨some 85, _, _, _, _, _⟩) (.bool true) rfl (wanted_none rfl _) (exec_pick (.tmp 82) (.tmp 84) (.const (.bool false)) (.bool true) rfl (hD 17 82 (by kernel_rfl)) (hD 19 84 (by kernel_rfl))) rfl) ?_
    refine fsteps_cons 22 rfl (fun a u hE hD hk => f_val (o := ⟨some 86, _, _, _, _, _⟩) (.bool true) rfl (wanted_none rfl _) (exec_move (.tmp 85) (.bool true) rfl (hD 20 85 (by kernel_rfl))) rfl) ?_
    refine fsteps_cons 23 rfl (fun a u hE hD hk => f_call (o := ⟨some 87, _, _, _, _, _⟩) 3 #[] rfl (wanted_at (b := true) true rfl rfl (hD 21 86 (by kernel_rfl))) (exec_call 3 _ [] _ [] Try.func3 (by kernel_rfl) (by kernel_rfl) rfl rfl u) (orderRuns_gives u)) ?_
    refine fsteps_cons 24 rfl (fun a u hE hD hk => f_val (o := ⟨some 88, _, _, _, _, _⟩) (.bool true) rfl (wanted_none rfl _) (exec_pick (.tmp 86) (.tmp 87) (.const (.bool false)) (.bool true) rfl (hD 21 86 (by kernel_rfl)) (hD 22 87 (by kernel_rfl))) rfl) ?_
    exact fsteps_nil
  intro gv w6 hV k6
  rw [show dstsOf _ 24 = [65, 66, 67, 68, 69, 70, 71, 72, 73, 74, 75, 76, 77, 78, 79, 80, 81, 82, 83, 84, 85, 86, 87, 88] by kernel_rfl]
  simp only [List.foldl_cons, List.foldl_nil, List.setIfInBounds_toArray, List.set_cons_succ, List.set_cons_zero, List.drop_succ_cons, List.drop_zero]
  rw [show gv 88 = .bool true from hV 23 88 (by kernel_rfl)]
  clear hV
  have HB6 := Lib.hid (HB5.out.kept k6)
  have kw6 := kw5.trans k6
  clear kw5
  go_wp2
  go_ret
  exact ⟨rfl, kw6⟩

theorem orderSides_any (c : Ord) (x y : Int) (w : World) (HW : Hid c.wf) : Calls Try.prog 5 #[c.v, .int .i64 x, .int .i64 y] w fun e w' => e = .returned (.bool true) ∧ Kept w w' := by
  cases hR : c.right with
  | true => exact sides_t c x y w HW hR
  | false => exact sides_f c x y w HW hR
end Go.Proofs.Ytgepgpclgpidaaa
