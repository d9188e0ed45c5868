/-
  Chapter 8's runs. No condition.
-/
import Derived.Test.YtgepgpclgpidaaaOrdF
namespace Go.Proofs.Ytgepgpclgpidaaa
open Go.RowKit
set_option linter.unusedVariables false

def Ord.zero : Ord := ⟨0, 0, 0, 0, 0, 0, 0, 0, 0⟩
theorem ord_zero : (Try.prog.info? 23).map (·.zero) = some (some (.agg Ord.zero.cells.toArray)) := by kernel_rfl
theorem Ord.one (c : Ord) : ∀ u ∈ c.cells, u.oneCell' = true := stc_one _ _
def buy8 : Ord := ⟨0, 0, 0, 1, 1, 5, 1, 0, 0⟩
def sell8 : Ord := ⟨0, 0, 0, 2, 1, 5, 1, 0, 7⟩
def mkt8 : Ord := ⟨0, 0, 0, 1, 2, 5, 1, 0, 0⟩
theorem ordRight_is (c : Ord) (n : Int) (w : World) (h : c.err = n) : Gives 11 #[c.v] w (.eq (.int .i64 n)) := by
  subst h
  exact ordRight_any c w
theorem crosses_is (c : Ord) (x : Int) (b : Bool) (w : World) (h : c.crosses x = b) : Gives 8 #[c.v, .int .i64 x] w (.eq (.bool b)) := by
  subst h
  exact crosses_any c x w
theorem hit_is (c : Ord) (x : Int) (b : Bool) (w : World) (h : c.hit x = b) : Gives 9 #[c.v, .int .i64 x] w (.eq (.bool b)) := by
  subst h
  exact hit_any c x w
theorem better_is (s x y : Int) (b : Bool) (w : World) (h : bet s x y = b) : Gives 10 #[.int .i64 s, .int .i64 x, .int .i64 y] w (.eq (.bool b)) := by
  subst h
  exact better_any s x y w

set_option maxRecDepth 100000 in
set_option maxHeartbeats 800000 in
theorem orderRuns_any (w : World) : Calls Try.prog 3 #[] w fun e w' => e = .returned (.bool true) ∧ Kept w w' := by
  have HT : Hid True := trivial
  go_enter Try.func3, Try.ntmps3
  go_upto_region 1 with fail
  refine wp_region_lit ?_
  refine l_val (o := ⟨some 3, _, _, _, _, _⟩) (buy8.v) rfl (exec_build 23 _ buy8.cells rfl (by kernel_rfl)) ?_
  simp only [Act.put, List.setIfInBounds_toArray, List.set_cons_succ, List.set_cons_zero]
  refine l_alloc (o := ⟨some 1, _, _, _, _, _⟩) 23 Ord.zero.cells rfl rfl ord_zero ?_
  intro wa Ba sa ka
  obtain ⟨g1, hg1⟩ : ∃ g, g = w.heap.size := ⟨_, rfl⟩
  rw [← hg1] at Ba ⊢
  simp only [Act.put, List.setIfInBounds_toArray, List.set_cons_succ, List.set_cons_zero]
  refine l_setS (o := ⟨none, _, _, _, _, _⟩) 23 g1 23 Ord.zero.cells buy8.cells (.tmp 1) (.tmp 3) rfl rfl (by kernel_rfl) (by kernel_rfl) Ba (by rw [Ord.cells_len _ trivial]; exact ord_size) rfl buy8.one ?_
  intro wb Bb kb sb
  simp only [Act.put]
  refine wpList_nil ?_
  have k2 : Kept w wb := ka.trans' kb (by omega)
  have z2 : w.heap.size < wb.heap.size := by omega
  clear Ba sa ka kb sb hg1
  go_upto_region 2 with fail
  refine wp_region_lit ?_
  refine l_val (o := ⟨some 4, _, _, _, _, _⟩) (sell8.v) rfl (exec_build 23 _ sell8.cells rfl (by kernel_rfl)) ?_
  simp only [Act.put, List.setIfInBounds_toArray, List.set_cons_succ, List.set_cons_zero]
  refine l_alloc (o := ⟨some 2, _, _, _, _, _⟩) 23 Ord.zero.cells rfl rfl ord_zero ?_
  intro wc Bc sc kc
  obtain ⟨g2, hg2⟩ : ∃ g, g = wb.heap.size := ⟨_, rfl⟩
  rw [← hg2] at Bc ⊢
  simp only [Act.put, List.setIfInBounds_toArray, List.set_cons_succ, List.set_cons_zero]
  refine l_setS (o := ⟨none, _, _, _, _, _⟩) 23 g2 23 Ord.zero.cells sell8.cells (.tmp 2) (.tmp 4) rfl rfl (by kernel_rfl) (by kernel_rfl) Bc (by rw [Ord.cells_len _ trivial]; exact ord_size) rfl sell8.one ?_
  intro wd Bd kd sd
  simp only [Act.put]
  refine wpList_nil ?_
  have hlt := Bb.lt
  have HB1 : Hid (Blk wd g1 23 buy8.cells) := (Bb.kept kc).keep kd (by omega)
  have HB2 : Hid (Blk wd g2 23 sell8.cells) := Bd
  have kw : Kept w wd := (k2.trans kc).trans' kd (by omega)
  clear Bc sc kc kd sd hg2 k2 z2 Bb Bd hlt
  go_upto_region 3 with fail
  refine wp_text 24 [.eq (buy8.v), .eq (.bool true), .eq (.bool true), .eq (sell8.v), .eq (.bool false), .eq (.bool true), .eq (.bool true), .eq (.bool true), .eq (sell8.v), .eq (.bool true), .eq (.bool true), .eq (.bool true), .eq (.bool true), .eq (.bool true), .eq (.bool true), .eq (mkt8.v), .eq (.int .i64 1), .eq (.bool true), .eq (.bool true), .eq (.bool true), .eq (buy8.v), .eq (.int .i64 0), .eq (.bool true), .eq (.bool true)] rfl (by kernel_rfl) ?_ ?_
  · refine fsteps_cons 1 rfl (fun a u hE hD hk => f_val (o := ⟨some 5, _, _, _, _, _⟩) (buy8.v) rfl (wanted_none rfl _) (exec_loadS 23 (.tmp 1) (g1) _ buy8.cells _ rfl (hE 1 (.pointer (some ⟨g1, 0, none⟩)) (by kernel_rfl) (by kernel_rfl)) (HB1.out.kept hk) Try.underlying23 (by rw [Ord.cells_len _ HT.out]; exact ord_size)) rfl) ?_
    refine fsteps_cons 2 rfl (fun a u hE hD hk => f_call (o := ⟨some 6, _, _, _, _, _⟩) 8 #[buy8.v, .int .i64 5] rfl (wanted_none rfl _) (exec_call 8 _ [.tmp 5, .const (.int .i64 5)] _ [buy8.v, .int .i64 5] Try.func8 (by kernel_rfl) (by kernel_rfl) rfl (show [a.eval (.tmp 5), a.eval (.const (.int .i64 5))] = [buy8.v, .int .i64 5] from (by rw [show a.eval (.tmp 5) = buy8.v from (hD 0 5 (by kernel_rfl))] <;> rfl)) u) (crosses_is buy8 5 true u (by decide))) ?_
    refine fsteps_cons 3 rfl (fun a u hE hD hk => f_val (o := ⟨some 7, _, _, _, _, _⟩) (.bool true) rfl (wanted_none rfl _) (exec_move (.tmp 6) (.bool true) rfl (hD 1 6 (by kernel_rfl))) rfl) ?_
    refine fsteps_cons 4 rfl (fun a u hE hD hk => f_val (o := ⟨some 8, _, _, _, _, _⟩) (sell8.v) rfl (wanted_at (b := true) true rfl rfl (hD 2 7 (by kernel_rfl))) (exec_loadS 23 (.tmp 2) (g2) _ sell8.cells _ rfl (hE 2 (.pointer (some ⟨g2, 0, none⟩)) (by kernel_rfl) (by kernel_rfl)) (HB2.out.kept hk) Try.underlying23 (by rw [Ord.cells_len _ HT.out]; exact ord_size)) rfl) ?_
    refine fsteps_cons 5 rfl (fun a u hE hD hk => f_call (o := ⟨some 9, _, _, _, _, _⟩) 8 #[sell8.v, .int .i64 4] rfl (wanted_at (b := true) true rfl rfl (hD 2 7 (by kernel_rfl))) (exec_call 8 _ [.tmp 8, .const (.int .i64 4)] _ [sell8.v, .int .i64 4] Try.func8 (by kernel_rfl) (by kernel_rfl) rfl (show [a.eval (.tmp 8), a.eval (.const (.int .i64 4))] = [sell8.v, .int .i64 4] from (by rw [show a.eval (.tmp 8) = sell8.v from (hD 3 8 (by kernel_rfl))] <;> rfl)) u) (crosses_is sell8 4 false u (by decide))) ?_
    refine fsteps_cons 6 rfl (fun a u hE hD hk => f_val (o := ⟨some 10, _, _, _, _, _⟩) (.bool true) rfl (wanted_at (b := true) true rfl rfl (hD 2 7 (by kernel_rfl))) (exec_not _ (.tmp 9) false rfl (hD 4 9 (by kernel_rfl))) rfl) ?_
    refine fsteps_cons 7 rfl (fun a u hE hD hk => f_val (o := ⟨some 11, _, _, _, _, _⟩) (.bool true) rfl (wanted_none rfl _) (exec_pick (.tmp 7) (.tmp 10) (.const (.bool false)) (.bool true) rfl (hD 2 7 (by kernel_rfl)) (hD 5 10 (by kernel_rfl))) rfl) ?_
    refine fsteps_cons 8 rfl (fun a u hE hD hk => f_val (o := ⟨some 12, _, _, _, _, _⟩) (.bool true) rfl (wanted_none rfl _) (exec_move (.tmp 11) (.bool true) rfl (hD 6 11 (by kernel_rfl))) rfl) ?_
    refine fsteps_cons 9 rfl (fun a u hE hD hk => f_val (o := ⟨some 13, _, _, _, _, _⟩) (sell8.v) rfl (wanted_at (b := true) true rfl rfl (hD 7 12 (by kernel_rfl))) (exec_loadS 23 (.tmp 2) (g2) _ sell8.cells _ rfl (hE 2 (.pointer (some ⟨g2, 0, none⟩)) (by kernel_rfl) (by kernel_rfl)) (HB2.out.kept hk) Try.underlying23 (by rw [Ord.cells_len _ HT.out]; exact ord_size)) rfl) ?_
    refine fsteps_cons 10 rfl (fun a u hE hD hk => f_call (o := ⟨some 14, _, _, _, _, _⟩) 9 #[sell8.v, .int .i64 7] rfl (wanted_at (b := true) true rfl rfl (hD 7 12 (by kernel_rfl))) (exec_call 9 _ [.tmp 13, .const (.int .i64 7)] _ [sell8.v, .int .i64 7] Try.func9 (by kernel_rfl) (by kernel_rfl) rfl (show [a.eval (.tmp 13), a.eval (.const (.int .i64 7))] = [sell8.v, .int .i64 7] from (by rw [show a.eval (.tmp 13) = sell8.v from (hD 8 13 (by kernel_rfl))] <;> rfl)) u) (hit_is sell8 7 true u (by decide))) ?_
    refine fsteps_cons 11 rfl (fun a u hE hD hk => f_val (o := ⟨some 15, _, _, _, _, _⟩) (.bool true) rfl (wanted_none rfl _) (exec_pick (.tmp 12) (.tmp 14) (.const (.bool false)) (.bool true) rfl (hD 7 12 (by kernel_rfl)) (hD 9 14 (by kernel_rfl))) rfl) ?_
    refine fsteps_cons 12 rfl (fun a u hE hD hk => f_val (o := ⟨some 16, _, _, _, _, _⟩) (.bool true) rfl (wanted_none rfl _) (exec_move (.tmp 15) (.bool true) rfl (hD 10 15 (by kernel_rfl))) rfl) ?_
    refine fsteps_cons 13 rfl (fun a u hE hD hk => f_call (o := ⟨some 17, _, _, _, _, _⟩) 10 #[.int .i64 1, .int .i64 3, .int .i64 2] rfl (wanted_at (b := true) true rfl rfl (hD 11 16 (by kernel_rfl))) (exec_call 10 _ [.const (.int .i64 1), .const (.int .i64 3), .const (.int .i64 2)] _ [.int .i64 1, .int .i64 3, .int .i64 2] Try.func10 (by kernel_rfl) (by kernel_rfl) rfl rfl u) (better_is 1 3 2 true u (by decide))) ?_
    refine fsteps_cons 14 rfl (fun a u hE hD hk => f_val (o := ⟨some 18, _, _, _, _, _⟩) (.bool true) rfl (wanted_none rfl _) (exec_pick (.tmp 16) (.tmp 17) (.const (.bool false)) (.bool true) rfl (hD 11 16 (by kernel_rfl)) (hD 12 17 (by kernel_rfl))) rfl) ?_
    refine fsteps_cons 15 rfl (fun a u hE hD hk => f_val (o := ⟨some 19, _, _, _, _, _⟩) (.bool true) rfl (wanted_none rfl _) (exec_move (.tmp 18) (.bool true) rfl (hD 13 18 (by kernel_rfl))) rfl) ?_
    refine fsteps_cons 16 rfl (fun a u hE hD hk => f_val (o := ⟨some 20, _, _, _, _, _⟩) (mkt8.v) rfl (wanted_at (b := true) true rfl rfl (hD 14 19 (by kernel_rfl))) (exec_build 23 _ mkt8.cells rfl (by kernel_rfl)) rfl) ?_
    refine fsteps_cons 17 rfl (fun a u hE hD hk => f_call (o := ⟨some 21, _, _, _, _, _⟩) 11 #[mkt8.v] rfl (wanted_at (b := true) true rfl rfl (hD 14 19 (by kernel_rfl))) (exec_call 11 _ [.tmp 20] _ [mkt8.v] Try.func11 (by kernel_rfl) (by kernel_rfl) rfl (show [a.eval (.tmp 20)] = [mkt8.v] from (by rw [show a.eval (.tmp 20) = mkt8.v from (hD 15 20 (by kernel_rfl))] <;> rfl)) u) (ordRight_is mkt8 1 u (by decide))) ?_
    refine fsteps_cons 18 rfl (fun a u hE hD hk => f_as (show ((decide ((1 : Int) = (1 : Int))) : Bool) = true from rfl) (f_val (o := ⟨some 22, _, _, _, _, _⟩) (.bool (decide ((1 : Int) = (1 : Int)))) rfl (wanted_at (b := true) true rfl rfl (hD 14 19 (by kernel_rfl))) (exec_eqn (p := 1) (q := 1) rfl (hD 16 21 (by kernel_rfl)) rfl) rfl)) ?_
    refine fsteps_cons 19 rfl (fun a u hE hD hk => f_val (o := ⟨some 23, _, _, _, _, _⟩) (.bool true) rfl (wanted_none rfl _) (exec_pick (.tmp 19) (.tmp 22) (.const (.bool false)) (.bool true) rfl (hD 14 19 (by kernel_rfl)) (hD 17 22 (by kernel_rfl))) rfl) ?_
    refine fsteps_cons 20 rfl (fun a u hE hD hk => f_val (o := ⟨some 24, _, _, _, _, _⟩) (.bool true) rfl (wanted_none rfl _) (exec_move (.tmp 23) (.bool true) rfl (hD 18 23 (by kernel_rfl))) rfl) ?_
    refine fsteps_cons 21 rfl (fun a u hE hD hk => f_val (o := ⟨some 25, _, _, _, _, _⟩) (buy8.v) rfl (wanted_at (b := true) true rfl rfl (hD 19 24 (by kernel_rfl))) (exec_loadS 23 (.tmp 1) (g1) _ buy8.cells _ rfl (hE 1 (.pointer (some ⟨g1, 0, none⟩)) (by kernel_rfl) (by kernel_rfl)) (HB1.out.kept hk) Try.underlying23 (by rw [Ord.cells_len _ HT.out]; exact ord_size)) rfl) ?_
    refine fsteps_cons 22 rfl (fun a u hE hD hk => f_call (o := ⟨some 26, _, _, _, _, _⟩) 11 #[buy8.v] rfl (wanted_at (b := true) true rfl rfl (hD 19 24 (by kernel_rfl))) (exec_call 11 _ [.tmp 25] _ [buy8.v] Try.func11 (by kernel_rfl) (by kernel_rfl) rfl (show [a.eval (.tmp 25)] = [buy8.v] from (by rw [show a.eval (.tmp 25) = buy8.v from (hD 20 25 (by kernel_rfl))] <;> rfl)) u) (ordRight_is buy8 0 u (by decide))) ?_
    refine fsteps_cons 23 rfl (fun a u hE hD hk => f_as (show ((decide ((0 : Int) = (0 : Int))) : Bool) = true from rfl) (f_val (o := ⟨some 27, _, _, _, _, _⟩) (.bool (decide ((0 : Int) = (0 : Int)))) rfl (wanted_at (b := true) true rfl rfl (hD 19 24 (by kernel_rfl))) (exec_eqn (p := 0) (q := 0) rfl (hD 21 26 (by kernel_rfl)) rfl) rfl)) ?_
    refine fsteps_cons 24 rfl (fun a u hE hD hk => f_val (o := ⟨some 28, _, _, _, _, _⟩) (.bool true) rfl (wanted_none rfl _) (exec_pick (.tmp 24) (.tmp 27) (.const (.bool false)) (.bool true) rfl (hD 19 24 (by kernel_rfl)) (hD 22 27 (by kernel_rfl))) rfl) ?_
    exact fsteps_nil
  intro gv w1 hV k1
  rw [show dstsOf _ 24 = [5, 6, 7, 8, 9, 10, 11, 12, 13, 14, 15, 16, 17, 18, 19, 20, 21, 22, 23, 24, 25, 26, 27, 28] by kernel_rfl]
  simp only [List.foldl_cons, List.foldl_nil, List.setIfInBounds_toArray, List.set_cons_succ, List.set_cons_zero, List.drop_succ_cons, List.drop_zero]
  rw [show gv 28 = .bool true from hV 23 28 (by kernel_rfl)]
  clear hV
  go_wp2
  go_ret
  exact ⟨rfl, kw.trans k1⟩
end Go.Proofs.Ytgepgpclgpidaaa
