/-
  The contract of jobberlaw13.TreeRuns: chapter 13's runs. No condition.
-/
import Derived.Test.YtgodehggiddndaaSom13
namespace Go.Proofs.Ytgodehggiddndaa
open Go.RowKit
set_option linter.unusedVariables false
set_option maxRecDepth 100000

theorem set_is {w : World} {p : Nat} {X : Trds} {n s : Int} {V : Nat} (hB : Blk w p 51 X.cells) (h : X.setB n s = V) : Gives 9 #[.pointer (some ⟨p, 0, none⟩), .int .i64 n, .int .i64 s] w (.eq (.int .u64 (V : Int))) := by
  subst h
  exact set_any w p X n s hB
theorem there_is {w : World} {p : Nat} {X : Trds} {n : Int} {b : Bool} (hB : Blk w p 51 X.cells) (h : X.there n = b) : Gives 17 #[.pointer (some ⟨p, 0, none⟩), .int .i64 n] w (.eq (.bool b)) := by
  subst h
  exact there_any w p X n hB
theorem get_is {w : World} {p : Nat} {X : Trds} {n : Int} {t : Trd} (hB : Blk w p 51 X.cells) (h : X.get n = t) : Gives 18 #[.pointer (some ⟨p, 0, none⟩), .int .i64 n] w (.eq t.v) := by
  subst h
  exact trader_any w p X n hB
theorem new_ok {w : World} {X : Trds} (h : X.bad = none) : Calls Try.prog 8 #[X.v] w fun e w' => ∃ p, e = .returned (.tuple #[.pointer (some ⟨p, 0, none⟩), .int .i64 (-1)]) ∧ w.heap.size ≤ p ∧ Blk w' p 51 X.cells ∧ Kept w w' := by
  refine (new_any w X).mono ?_
  rintro e w' ⟨hk, h1 | h1⟩
  · obtain ⟨i, h2, _⟩ := h1
    rw [h] at h2
    cases h2
  · obtain ⟨_, p, rfl, h2, h3⟩ := h1
    exact ⟨p, rfl, h2, h3, hk⟩
theorem new_bad {w : World} {X : Trds} {i : Nat} (h : X.bad = some i) : Gives 8 #[X.v] w (.eq (.tuple #[.pointer none, .int .i64 (i : Int)])) := by
  refine (new_any w X).mono ?_
  rintro e w' ⟨hk, h1 | h1⟩
  · obtain ⟨j, h2, rfl⟩ := h1
    rw [h] at h2
    injection h2 with h2
    subst h2
    exact ⟨_, rfl, rfl, hk⟩
  · rw [h] at h1
    cases h1.1
def runA : Trd := mkT 1 0 1 0
def runB : Trd := mkT 1 1 1 0
def runX : Trds := ((zeroX.put 0 runA).put 1 runA).put 2 runB
theorem runX_bad : runX.bad = none := by decide +kernel
theorem runX_2 : runX.setB 0 2 = 3 := by decide +kernel
theorem runX_3 : runX.setB 0 3 = 7 := by decide +kernel
theorem runX_1 : runX.setB 3 1 = 0 := by decide +kernel
set_option maxRecDepth 100000 in
set_option maxHeartbeats 1600000 in
theorem treeRuns_is (w : World) : Gives 3 #[] w (.eq (.bool true)) := by
  refine gives_eq ?_
  go_enter Try.func3, Try.ntmps3
  go_upto_region 1 with fail
  refine wp_region_lit ?_
  refine l_new (o := ⟨some 1, _, _, _, _, _⟩) (.pointer (some ⟨w.heap.size, 0, none⟩)) (w.alloc (.cells zeroX.cells.toArray 26)) rfl (exec_alc 26 zeroX.cells rfl zX) ?_
  have hB0 := Blk.new w 26 zeroX.cells
  have k0 : Kept w (w.alloc (.cells zeroX.cells.toArray 26)) := (Keep.refl _ w).alloc _
  generalize w.alloc (.cells zeroX.cells.toArray 26) = w0 at hB0 k0 ⊢
  simp only [Act.put, List.setIfInBounds_toArray, List.set_cons_succ, List.set_cons_zero]
  refine wpList_nil ?_
  obtain ⟨g, hg⟩ : ∃ g, w.heap.size = g := ⟨_, rfl⟩
  rw [hg] at hB0 ⊢
  go_upto_region 2 with fail
  refine wp_region_lit ?_
  refine l_val (o := ⟨some 4, _, _, _, _, _⟩) (runA.v) rfl (exec_build 25 [(0, .const (.int .i64 1)), (2, .const (.int .i64 1))] runA.cells rfl (by kernel_rfl)) ?_
  simp only [Act.put, List.setIfInBounds_toArray, List.set_cons_succ, List.set_cons_zero]
  refine l_val (o := ⟨some 5, _, _, _, _, _⟩) (runA.v) rfl (exec_build 25 [(0, .const (.int .i64 1)), (2, .const (.int .i64 1))] runA.cells rfl (by kernel_rfl)) ?_
  simp only [Act.put, List.setIfInBounds_toArray, List.set_cons_succ, List.set_cons_zero]
  refine l_val (o := ⟨some 6, _, _, _, _, _⟩) (runB.v) rfl (exec_build 25 [(0, .const (.int .i64 1)), (1, .const (.int .i64 1)), (2, .const (.int .i64 1))] runB.cells rfl (by kernel_rfl)) ?_
  simp only [Act.put, List.setIfInBounds_toArray, List.set_cons_succ, List.set_cons_zero]
  refine l_val (o := ⟨some 7, _, _, _, _, _⟩) (.pointer (some ⟨g, 0 * 37, none⟩)) rfl (exec_ixA (.tmp 1) (.const (.int .i64 0)) (g) 0 (0) rfl (by kernel_rfl) rfl (by first | rfl | omega) ((by omega))) ?_
  simp only [Act.put, List.setIfInBounds_toArray, List.set_cons_succ, List.set_cons_zero]
  refine l_putT (o := ⟨none, _, _, _, _, _⟩) g 0 26 zeroX runA (.tmp 7) (.tmp 4) rfl rfl (by kernel_rfl) (by kernel_rfl) hB0 (by omega) ?_
  intro w1 hB1 hk1 hs1
  simp only [Act.put]
  refine l_val (o := ⟨some 8, _, _, _, _, _⟩) (.pointer (some ⟨g, 1 * 37, none⟩)) rfl (exec_ixA (.tmp 1) (.const (.int .i64 1)) (g) 1 (1) rfl (by kernel_rfl) rfl (by first | rfl | omega) ((by omega))) ?_
  simp only [Act.put, List.setIfInBounds_toArray, List.set_cons_succ, List.set_cons_zero]
  refine l_putT (o := ⟨none, _, _, _, _, _⟩) g 1 26 (zeroX.put 0 runA) runA (.tmp 8) (.tmp 5) rfl rfl (by kernel_rfl) (by kernel_rfl) hB1 (by omega) ?_
  intro w2 hB2 hk2 hs2
  simp only [Act.put]
  refine l_val (o := ⟨some 9, _, _, _, _, _⟩) (.pointer (some ⟨g, 2 * 37, none⟩)) rfl (exec_ixA (.tmp 1) (.const (.int .i64 2)) (g) 2 (2) rfl (by kernel_rfl) rfl (by first | rfl | omega) ((by omega))) ?_
  simp only [Act.put, List.setIfInBounds_toArray, List.set_cons_succ, List.set_cons_zero]
  refine l_putT (o := ⟨none, _, _, _, _, _⟩) g 2 26 ((zeroX.put 0 runA).put 1 runA) runB (.tmp 9) (.tmp 6) rfl rfl (by kernel_rfl) (by kernel_rfl) hB2 (by omega) ?_
  intro w3 hB3 hk3 hs3
  simp only [Act.put]
  refine wpList_nil ?_
  have hB3' : Blk w3 g 26 runX.cells := hB3
  have HB3 := Lib.hid hB3'
  have k3 : Kept w w3 := k0.trans' ((hk1.trans hk2 (fun _ _ h => h)).trans hk3 (fun _ _ h => h)) (by omega)
  clear hB0 hB1 hB2 hB3 hB3' hk1 hk2 hk3 hs1 hs2 hs3 k0
  have HXb := Lib.hid runX_bad
  have HS1 := Lib.hid runX_1
  have HS2 := Lib.hid runX_2
  have HS3 := Lib.hid runX_3
  generalize runX = X at HB3 HXb HS1 HS2 HS3
  go_upto_region 3 with fail
  refine wp_text 1 [.eq (X.v)] rfl (by kernel_rfl) ?_ ?_
  · refine sv 1 rfl rfl rfl (fun a u hE hD hk => exec_ldX X (.tmp 1) (g) _ rfl (hE 1 (.pointer (some ⟨g, 0, none⟩)) (by kernel_rfl) (by kernel_rfl)) (HB3.out.kept hk)) ?_
    exact fsteps_nil
  intro gv w4 hV k4
  rw [show dstsOf _ 1 = [11] by kernel_rfl]
  simp only [List.foldl_cons, List.foldl_nil, List.setIfInBounds_toArray, List.set_cons_succ, List.set_cons_zero, List.drop_succ_cons, List.drop_zero]
  rw [show gv 11 = X.v from hV 0 11 (by kernel_rfl)]
  clear hV
  refine l_call (o := ⟨some 12, _, _, _, _, _⟩) 8 #[X.v] rfl (exec_call 8 _ [.tmp 11] _ _ Try.func8 (by kernel_rfl) (by kernel_rfl) rfl (by kernel_rfl) _) ?_
  refine (new_ok HXb.out).mono ?_
  rintro e w5 ⟨p, rfl, hp, hB5, k5⟩
  refine ⟨_, rfl, ?_⟩
  simp only [Act.put, List.setIfInBounds_toArray, List.set_cons_succ, List.set_cons_zero]
  refine l_val (o := ⟨some 10, _, _, _, _, _⟩) (.tuple #[.pointer (some ⟨p, 0, none⟩), .int .i64 (-1)]) rfl (exec_move (.tmp 12) (.tuple #[.pointer (some ⟨p, 0, none⟩), .int .i64 (-1)]) rfl (by kernel_rfl)) ?_
  simp only [Act.put, List.setIfInBounds_toArray, List.set_cons_succ, List.set_cons_zero]
  refine l_val (o := ⟨some 13, _, _, _, _, _⟩) (.pointer (some ⟨p, 0, none⟩)) rfl (exec_extract (.tmp 10) [.pointer (some ⟨p, 0, none⟩), .int .i64 (-1)] 0 (.pointer (some ⟨p, 0, none⟩)) rfl (by kernel_rfl) rfl) ?_
  simp only [Act.put, List.setIfInBounds_toArray, List.set_cons_succ, List.set_cons_zero]
  refine l_val (o := ⟨some 14, _, _, _, _, _⟩) (.int .i64 (-1)) rfl (exec_extract (.tmp 10) [.pointer (some ⟨p, 0, none⟩), .int .i64 (-1)] 1 (.int .i64 (-1)) rfl (by kernel_rfl) rfl) ?_
  simp only [Act.put, List.setIfInBounds_toArray, List.set_cons_succ, List.set_cons_zero]
  refine l_val (o := ⟨some 2, _, _, _, _, _⟩) (.pointer (some ⟨p, 0, none⟩)) rfl (exec_assign (.tmp 13) (.pointer (some ⟨p, 0, none⟩)) rfl (by kernel_rfl)) ?_
  simp only [Act.put, List.setIfInBounds_toArray, List.set_cons_succ, List.set_cons_zero]
  refine l_val (o := ⟨some 3, _, _, _, _, _⟩) (.int .i64 (-1)) rfl (exec_assign (.tmp 14) (.int .i64 (-1)) rfl (by kernel_rfl)) ?_
  simp only [Act.put, List.setIfInBounds_toArray, List.set_cons_succ, List.set_cons_zero]
  refine wpList_nil ?_
  have HB5 := Lib.hid hB5
  have kw5 := (k3.trans k4).trans k5
  clear hB5 hp k3 k4 k5 HB3
  go_upto_region 4 with fail
  refine wp_text 22 [.eq (.pointer (some ⟨p, 0, none⟩)), .eq (.bool true), .eq (.bool true), .eq (.int .i64 (-1)), .eq (.bool true), .eq (.bool true), .eq (.bool true), .eq (.pointer (some ⟨p, 0, none⟩)), .eq (.int .u64 ((3 : Nat) : Int)), .eq (.bool true), .eq (.bool true), .eq (.bool true), .eq (.pointer (some ⟨p, 0, none⟩)), .eq (.int .u64 ((7 : Nat) : Int)), .eq (.bool true), .eq (.bool true), .eq (.bool true), .eq (.pointer (some ⟨p, 0, none⟩)), .eq (.int .u64 ((0 : Nat) : Int)), .eq (.bool true), .eq (.bool true), .eq (.bool true)] rfl (by kernel_rfl) ?_ ?_
  · refine sv 1 rfl rfl rfl (fun a u hE hD hk => exec_move (.tmp 2) _ rfl (hE 2 (.pointer (some ⟨p, 0, none⟩)) (by kernel_rfl) (by kernel_rfl))) ?_
    refine sv 2 rfl rfl rfl (fun a u hE hD hk => exec_neP (.tmp 15) _ _ ⟨p, 0, none⟩ (by kernel_rfl) rfl (hD 0 15 (by kernel_rfl))) ?_
    refine sv 3 rfl rfl rfl (fun a u hE hD hk => exec_move (.tmp 16) _ rfl (hD 1 16 (by kernel_rfl))) ?_
    refine fsteps_cons 4 rfl (fun a u hE hD hk => f_val (o := ⟨some 18, _, _, _, _, _⟩) (.int .i64 (-1)) rfl (wanted_at (b := true) true rfl rfl (hD 2 17 (by kernel_rfl))) (exec_move (.tmp 3) _ rfl (hE 3 (.int .i64 (-1)) (by kernel_rfl) (by kernel_rfl))) rfl) ?_
    refine fsteps_cons 5 rfl (fun a u hE hD hk => f_as (show ((decide (((-1) : Int) = ((-1) : Int))) : Bool) = true from decide_eq_true rfl) (f_val (o := ⟨some 19, _, _, _, _, _⟩) (.bool (decide (((-1) : Int) = ((-1) : Int)))) rfl (wanted_at (b := true) true rfl rfl (hD 2 17 (by kernel_rfl))) (exec_eqn (p := (-1)) (q := (-1)) rfl (hD 3 18 (by kernel_rfl)) rfl) rfl)) ?_
    refine sv 6 rfl rfl rfl (fun a u hE hD hk => exec_pick (.tmp 17) (.tmp 19) (.const (.bool false)) (.bool true) rfl (hD 2 17 (by kernel_rfl)) (hD 4 19 (by kernel_rfl))) ?_
    refine sv 7 rfl rfl rfl (fun a u hE hD hk => exec_move (.tmp 20) _ rfl (hD 5 20 (by kernel_rfl))) ?_
    refine fsteps_cons 8 rfl (fun a u hE hD hk => f_val (o := ⟨some 22, _, _, _, _, _⟩) (.pointer (some ⟨p, 0, none⟩)) rfl (wanted_at (b := true) true rfl rfl (hD 6 21 (by kernel_rfl))) (exec_move (.tmp 2) _ rfl (hE 2 (.pointer (some ⟨p, 0, none⟩)) (by kernel_rfl) (by kernel_rfl))) rfl) ?_
    refine fsteps_cons 9 rfl (fun a u hE hD hk => f_call (o := ⟨some 23, _, _, _, _, _⟩) 9 #[.pointer (some ⟨p, 0, none⟩), .int .i64 0, .int .i64 2] rfl (wanted_at (b := true) true rfl rfl (hD 6 21 (by kernel_rfl))) (exec_call 9 _ [.tmp 22, .const (.int .i64 0), .const (.int .i64 2)] _ [.pointer (some ⟨p, 0, none⟩), .int .i64 0, .int .i64 2] Try.func9 (by kernel_rfl) (by kernel_rfl) rfl (show [a.eval (.tmp 22), a.eval (.const (.int .i64 0)), a.eval (.const (.int .i64 2))] = [.pointer (some ⟨p, 0, none⟩), .int .i64 0, .int .i64 2] from (by rw [show a.eval (.tmp 22) = .pointer (some ⟨p, 0, none⟩) from (hD 7 22 (by kernel_rfl))] <;> rfl)) u) (set_is (HB5.out.kept hk) HS2.out)) ?_
    refine fsteps_cons 10 rfl (fun a u hE hD hk => f_val (o := ⟨some 24, _, _, _, _, _⟩) (.bool true) rfl (wanted_at (b := true) true rfl rfl (hD 6 21 (by kernel_rfl))) (exec_eqnU (.tmp 23) (.const (.int .u64 3)) _ _ ((3 : Nat) : Int) 3 rfl (hD 8 23 (by kernel_rfl)) rfl) rfl) ?_
    refine sv 11 rfl rfl rfl (fun a u hE hD hk => exec_pick (.tmp 21) (.tmp 24) (.const (.bool false)) (.bool true) rfl (hD 6 21 (by kernel_rfl)) (hD 9 24 (by kernel_rfl))) ?_
    refine sv 12 rfl rfl rfl (fun a u hE hD hk => exec_move (.tmp 25) _ rfl (hD 10 25 (by kernel_rfl))) ?_
    refine fsteps_cons 13 rfl (fun a u hE hD hk => f_val (o := ⟨some 27, _, _, _, _, _⟩) (.pointer (some ⟨p, 0, none⟩)) rfl (wanted_at (b := true) true rfl rfl (hD 11 26 (by kernel_rfl))) (exec_move (.tmp 2) _ rfl (hE 2 (.pointer (some ⟨p, 0, none⟩)) (by kernel_rfl) (by kernel_rfl))) rfl) ?_
    refine fsteps_cons 14 rfl (fun a u hE hD hk => f_call (o := ⟨some 28, _, _, _, _, _⟩) 9 #[.pointer (some ⟨p, 0, none⟩), .int .i64 0, .int .i64 3] rfl (wanted_at (b := true) true rfl rfl (hD 11 26 (by kernel_rfl))) (exec_call 9 _ [.tmp 27, .const (.int .i64 0), .const (.int .i64 3)] _ [.pointer (some ⟨p, 0, none⟩), .int .i64 0, .int .i64 3] Try.func9 (by kernel_rfl) (by kernel_rfl) rfl (show [a.eval (.tmp 27), a.eval (.const (.int .i64 0)), a.eval (.const (.int .i64 3))] = [.pointer (some ⟨p, 0, none⟩), .int .i64 0, .int .i64 3] from (by rw [show a.eval (.tmp 27) = .pointer (some ⟨p, 0, none⟩) from (hD 12 27 (by kernel_rfl))] <;> rfl)) u) (set_is (HB5.out.kept hk) HS3.out)) ?_
    refine fsteps_cons 15 rfl (fun a u hE hD hk => f_val (o := ⟨some 29, _, _, _, _, _⟩) (.bool true) rfl (wanted_at (b := true) true rfl rfl (hD 11 26 (by kernel_rfl))) (exec_eqnU (.tmp 28) (.const (.int .u64 7)) _ _ ((7 : Nat) : Int) 7 rfl (hD 13 28 (by kernel_rfl)) rfl) rfl) ?_
    refine sv 16 rfl rfl rfl (fun a u hE hD hk => exec_pick (.tmp 26) (.tmp 29) (.const (.bool false)) (.bool true) rfl (hD 11 26 (by kernel_rfl)) (hD 14 29 (by kernel_rfl))) ?_
    refine sv 17 rfl rfl rfl (fun a u hE hD hk => exec_move (.tmp 30) _ rfl (hD 15 30 (by kernel_rfl))) ?_
    refine fsteps_cons 18 rfl (fun a u hE hD hk => f_val (o := ⟨some 32, _, _, _, _, _⟩) (.pointer (some ⟨p, 0, none⟩)) rfl (wanted_at (b := true) true rfl rfl (hD 16 31 (by kernel_rfl))) (exec_move (.tmp 2) _ rfl (hE 2 (.pointer (some ⟨p, 0, none⟩)) (by kernel_rfl) (by kernel_rfl))) rfl) ?_
    refine fsteps_cons 19 rfl (fun a u hE hD hk => f_call (o := ⟨some 33, _, _, _, _, _⟩) 9 #[.pointer (some ⟨p, 0, none⟩), .int .i64 3, .int .i64 1] rfl (wanted_at (b := true) true rfl rfl (hD 16 31 (by kernel_rfl))) (exec_call 9 _ [.tmp 32, .const (.int .i64 3), .const (.int .i64 1)] _ [.pointer (some ⟨p, 0, none⟩), .int .i64 3, .int .i64 1] Try.func9 (by kernel_rfl) (by kernel_rfl) rfl (show [a.eval (.tmp 32), a.eval (.const (.int .i64 3)), a.eval (.const (.int .i64 1))] = [.pointer (some ⟨p, 0, none⟩), .int .i64 3, .int .i64 1] from (by rw [show a.eval (.tmp 32) = .pointer (some ⟨p, 0, none⟩) from (hD 17 32 (by kernel_rfl))] <;> rfl)) u) (set_is (HB5.out.kept hk) HS1.out)) ?_
    refine fsteps_cons 20 rfl (fun a u hE hD hk => f_val (o := ⟨some 34, _, _, _, _, _⟩) (.bool true) rfl (wanted_at (b := true) true rfl rfl (hD 16 31 (by kernel_rfl))) (exec_eqnU (.tmp 33) (.const (.int .u64 0)) _ _ ((0 : Nat) : Int) 0 rfl (hD 18 33 (by kernel_rfl)) rfl) rfl) ?_
    refine sv 21 rfl rfl rfl (fun a u hE hD hk => exec_pick (.tmp 31) (.tmp 34) (.const (.bool false)) (.bool true) rfl (hD 16 31 (by kernel_rfl)) (hD 19 34 (by kernel_rfl))) ?_
    refine sv 22 rfl rfl rfl (fun a u hE hD hk => exec_assign (.tmp 35) _ rfl (hD 20 35 (by kernel_rfl))) ?_
    exact fsteps_nil
  intro gv w6 hV k6
  rw [show dstsOf _ 22 = [15, 16, 17, 18, 19, 20, 21, 22, 23, 24, 25, 26, 27, 28, 29, 30, 31, 32, 33, 34, 35, 0] by kernel_rfl]
  simp only [List.foldl_cons, List.foldl_nil, List.setIfInBounds_toArray, List.set_cons_succ, List.set_cons_zero, List.drop_succ_cons, List.drop_zero]
  rw [show gv 0 = .bool true from hV 21 0 (by kernel_rfl)]
  clear hV
  refine wpList_nil ?_
  have kw6 := kw5.trans k6
  clear kw5 k6 HB5
  go_wp2
  go_ret
  exact ⟨rfl, kw6⟩
theorem treeRuns_any (w : World) : Calls Try.prog 3 #[] w fun e w' => e = .returned (.bool true) ∧ Kept w w' := by
  refine (treeRuns_is w).mono ?_
  rintro e w' ⟨v, rfl, hv, hk⟩
  obtain rfl : v = .bool true := hv
  exact ⟨rfl, hk⟩
end Go.Proofs.Ytgodehggiddndaa
