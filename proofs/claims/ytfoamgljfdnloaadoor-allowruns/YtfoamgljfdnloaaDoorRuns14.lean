/-
  The contract of jobberlaw14.two and AllowRuns: chapter 14's runs; it answers true. Condition: the table of rules as its text lays it.
-/
import Derived.Test.YtfoamgljfdnloaaDoorSom14
import Derived.Test.YtfoamgljfdnloaaDoorAlD
import Derived.Test.YtfoamgljfdnloaaDoorRuns13
namespace Go.Proofs.YtfoamgljfdnloaaDoor
open Go.RowKit
set_option linter.unusedVariables false
set_option maxRecDepth 100000

theorem may_at {w : World} {q : Nat} {X : Trds} {p : Phs} {n d inst other V : Int} (hG : RulIn w) (hB : Blk w q 58 X.cells) (hX : X.Ok) (h : allowM X p n d inst other = V) : Gives 10 #[.pointer (some ⟨q, 0, none⟩), p.v, .int .i64 n, .int .i64 d, .int .i64 inst, .int .i64 other] w (.eq (.int .i64 V)) := by
  rw [← h, ← may_is hX]
  exact may_any q X p n d inst other w hG hB hX
theorem rallowed_at {w : World} {q : Nat} {X : Trds} {p : Phs} {n d inst other V : Int} (hB : Blk w q 60 X.cells) (hX : X.Ok) (h : allowM X p n d inst other = V) : Gives 14 #[.pointer (some ⟨q, 0, none⟩), p.v, .int .i64 n, .int .i64 d, .int .i64 inst, .int .i64 other] w (.eq (.int .i64 V)) := by
  rw [← h]
  exact rallowed_any q X p n d inst other w hB hX
def twoX (r : Int) : Trds := (zeroX.put 0 (mkT 1 0 r 0)).put 1 (mkT 1 0 1 0)
theorem built2 (r : Int) : Tryd.prog.built 35 [(0, .int .i64 1), (2, .int .i64 r)] = some (mkT 1 0 r 0).cells.toArray := by kernel_rfl
set_option maxRecDepth 100000 in
set_option maxHeartbeats 1600000 in
theorem two_is (r : Int) (b : Nat) (w : World) (hb : b ≤ w.heap.size) (hX : (twoX r).bad = none) : Gives 9 #[.int .i64 r] w (.fresh b 58 (twoX r).cells) := by
  unfold Gives
  obtain ⟨X, hXe⟩ : ∃ X, twoX r = X := ⟨_, rfl⟩
  have HXe := Lib.hid hXe
  have HXb : Hid (X.bad = none) := by show _ = _; rw [← hXe]; exact hX
  rw [hXe]
  clear hXe hX
  go_enter Tryd.func9, Tryd.ntmps9
  go_upto_region 1 with fail
  refine wp_region_lit ?_
  refine l_new (o := ⟨some 3, _, _, _, _, _⟩) (.pointer (some ⟨w.heap.size, 0, none⟩)) (w.alloc (.cells zeroX.cells.toArray 36)) rfl (exec_alc 36 zeroX.cells rfl zX) ?_
  have hB0 := Blk.new w 36 zeroX.cells
  have k0 : Kept w (w.alloc (.cells zeroX.cells.toArray 36)) := (Keep.refl _ w).alloc _
  generalize w.alloc (.cells zeroX.cells.toArray 36) = w0 at hB0 k0 ⊢
  simp only [Act.put, List.setIfInBounds_toArray, List.set_cons_succ, List.set_cons_zero]
  refine wpList_nil ?_
  obtain ⟨g, hg⟩ : ∃ g, w.heap.size = g := ⟨_, rfl⟩
  rw [hg] at hB0 ⊢
  go_upto_region 2 with fail
  refine wp_region_lit ?_
  refine l_val (o := ⟨some 6, _, _, _, _, _⟩) (.int .i64 r) rfl (exec_move (.tmp 0) (.int .i64 r) rfl (by kernel_rfl)) ?_
  simp only [Act.put, List.setIfInBounds_toArray, List.set_cons_succ, List.set_cons_zero]
  refine l_val (o := ⟨some 7, _, _, _, _, _⟩) ((mkT 1 0 r 0).v) rfl (exec_build 35 [(0, .const (.int .i64 1)), (2, .tmp 6)] (mkT 1 0 r 0).cells rfl (by exact built2 r)) ?_
  simp only [Act.put, List.setIfInBounds_toArray, List.set_cons_succ, List.set_cons_zero]
  refine l_val (o := ⟨some 8, _, _, _, _, _⟩) ((mkT 1 0 1 0).v) rfl (exec_build 35 [(0, .const (.int .i64 1)), (2, .const (.int .i64 1))] (mkT 1 0 1 0).cells rfl (by kernel_rfl)) ?_
  simp only [Act.put, List.setIfInBounds_toArray, List.set_cons_succ, List.set_cons_zero]
  refine l_val (o := ⟨some 9, _, _, _, _, _⟩) (.pointer (some ⟨g, 0 * 37, none⟩)) rfl (exec_ixA (.tmp 3) (.const (.int .i64 0)) (g) 0 (0) rfl (by kernel_rfl) rfl (by first | rfl | omega) ((by omega))) ?_
  simp only [Act.put, List.setIfInBounds_toArray, List.set_cons_succ, List.set_cons_zero]
  refine l_putT (o := ⟨none, _, _, _, _, _⟩) g 0 36 zeroX (mkT 1 0 r 0) (.tmp 9) (.tmp 7) rfl rfl (by kernel_rfl) (by kernel_rfl) hB0 (by omega) ?_
  intro w1 hB1 hk1 hs1
  simp only [Act.put]
  refine l_val (o := ⟨some 10, _, _, _, _, _⟩) (.pointer (some ⟨g, 1 * 37, none⟩)) rfl (exec_ixA (.tmp 3) (.const (.int .i64 1)) (g) 1 (1) rfl (by kernel_rfl) rfl (by first | rfl | omega) ((by omega))) ?_
  simp only [Act.put, List.setIfInBounds_toArray, List.set_cons_succ, List.set_cons_zero]
  refine l_putT (o := ⟨none, _, _, _, _, _⟩) g 1 36 (zeroX.put 0 (mkT 1 0 r 0)) (mkT 1 0 1 0) (.tmp 10) (.tmp 8) rfl rfl (by kernel_rfl) (by kernel_rfl) hB1 (by omega) ?_
  intro w2 hB2 hk2 hs2
  simp only [Act.put]
  refine wpList_nil ?_
  have hB3' : Blk w2 g 36 (twoX r).cells := hB2
  rw [HXe.out] at hB3'
  have HB3 := Lib.hid hB3'
  have k3 : Kept w w2 := k0.trans' (hk1.trans hk2 (fun _ _ h => h)) (by omega)
  clear hB0 hB1 hB2 hB3' hk1 hk2 hs1 hs2 k0
  go_upto_region 3 with fail
  refine wp_text 1 [.eq (X.v)] rfl (by kernel_rfl) ?_ ?_
  · refine sv 1 rfl rfl rfl (fun a u hE hD hk => exec_ldX X (.tmp 3) (g) _ rfl (hE 3 (.pointer (some ⟨g, 0, none⟩)) (by kernel_rfl) (by kernel_rfl)) (HB3.out.kept hk)) ?_
    exact fsteps_nil
  intro gv w4 hV k4
  rw [show dstsOf _ 1 = [12] by kernel_rfl]
  simp only [List.foldl_cons, List.foldl_nil, List.setIfInBounds_toArray, List.set_cons_succ, List.set_cons_zero, List.drop_succ_cons, List.drop_zero]
  rw [show gv 12 = X.v from hV 0 12 (by kernel_rfl)]
  clear hV
  refine l_call (o := ⟨some 13, _, _, _, _, _⟩) 12 #[X.v] rfl (exec_call 12 _ [.tmp 12] _ _ Tryd.func12 (by kernel_rfl) (by kernel_rfl) rfl (by kernel_rfl) _) ?_
  refine (new_ok HXb.out).mono ?_
  rintro e w5 ⟨p, rfl, hp, hB5, k5⟩
  refine ⟨_, rfl, ?_⟩
  simp only [Act.put, List.setIfInBounds_toArray, List.set_cons_succ, List.set_cons_zero]
  refine l_val (o := ⟨some 11, _, _, _, _, _⟩) (.tuple #[.pointer (some ⟨p, 0, none⟩), .int .i64 (-1)]) rfl (exec_move (.tmp 13) (.tuple #[.pointer (some ⟨p, 0, none⟩), .int .i64 (-1)]) rfl (by kernel_rfl)) ?_
  simp only [Act.put, List.setIfInBounds_toArray, List.set_cons_succ, List.set_cons_zero]
  refine l_val (o := ⟨some 14, _, _, _, _, _⟩) (.pointer (some ⟨p, 0, none⟩)) rfl (exec_extract (.tmp 11) [.pointer (some ⟨p, 0, none⟩), .int .i64 (-1)] 0 (.pointer (some ⟨p, 0, none⟩)) rfl (by kernel_rfl) rfl) ?_
  simp only [Act.put, List.setIfInBounds_toArray, List.set_cons_succ, List.set_cons_zero]
  refine l_val (o := ⟨some 15, _, _, _, _, _⟩) (.int .i64 (-1)) rfl (exec_extract (.tmp 11) [.pointer (some ⟨p, 0, none⟩), .int .i64 (-1)] 1 (.int .i64 (-1)) rfl (by kernel_rfl) rfl) ?_
  simp only [Act.put, List.setIfInBounds_toArray, List.set_cons_succ, List.set_cons_zero]
  refine l_val (o := ⟨some 4, _, _, _, _, _⟩) (.pointer (some ⟨p, 0, none⟩)) rfl (exec_assign (.tmp 14) (.pointer (some ⟨p, 0, none⟩)) rfl (by kernel_rfl)) ?_
  simp only [Act.put, List.setIfInBounds_toArray, List.set_cons_succ, List.set_cons_zero]
  refine l_val (o := ⟨some 5, _, _, _, _, _⟩) (.int .i64 (-1)) rfl (exec_assign (.tmp 15) (.int .i64 (-1)) rfl (by kernel_rfl)) ?_
  simp only [Act.put, List.setIfInBounds_toArray, List.set_cons_succ, List.set_cons_zero]
  refine wpList_nil ?_
  have kw5 := (k3.trans k4).trans k5
  have hz3 := k3.size
  have hz4 := k4.size
  go_wp2
  go_ret
  exact ⟨_, rfl, ⟨p, rfl, by omega, hB5⟩, kw5⟩
theorem two1_bad : (twoX 1).bad = none := by decide +kernel
theorem two3_bad : (twoX 3).bad = none := by decide +kernel
theorem ok_of_bad {X : Trds} (h : X.bad = none) : X.Ok := by
  intro i hi
  unfold Trds.bad at h
  have := List.find?_eq_none.1 h i (List.mem_range.2 hi)
  simpa using this
theorem two1_a : allowM (twoX 1) zeroP 9 1 0 0 = 6 := by decide +kernel
theorem two1_b : allowM (twoX 1) zeroP 0 2 0 1 = 7 := by decide +kernel
theorem two3_c : allowM (twoX 3) zeroP 0 2 0 1 = 0 := by decide +kernel
set_option maxRecDepth 100000 in
set_option maxHeartbeats 1600000 in
theorem allowRuns_is (w : World) (hG : RulIn w) : Gives 3 #[] w (.eq (.bool true)) := by
  refine gives_eq ?_
  have HG := Lib.hid hG
  clear hG
  have HX1 := Lib.hid (ok_of_bad two1_bad)
  have HX3 := Lib.hid (ok_of_bad two3_bad)
  have HB1 := Lib.hid two1_bad
  have HB3 := Lib.hid two3_bad
  have HA := Lib.hid two1_a
  have HB := Lib.hid two1_b
  have HC := Lib.hid two3_c
  have HT1 : Hid (∀ (u : World) (b : Nat), b ≤ u.heap.size → Gives 9 #[.int .i64 1] u (.fresh b 58 (twoX 1).cells)) := fun u b h => two_is 1 b u h HB1.out
  have HT3 : Hid (∀ (u : World) (b : Nat), b ≤ u.heap.size → Gives 9 #[.int .i64 3] u (.fresh b 58 (twoX 3).cells)) := fun u b h => two_is 3 b u h HB3.out
  clear HB1 HB3
  generalize twoX 1 = X at HX1 HA HB HT1
  generalize twoX 3 = Y at HX3 HC HT3
  go_enter Tryd.func3, Tryd.ntmps3
  go_upto_region 1 with fail
  refine wp_text 4 [.fresh w.heap.size 58 X.cells, .fresh w.heap.size 58 Y.cells, .fresh w.heap.size 58 X.cells, .fresh w.heap.size 58 Y.cells] rfl (by kernel_rfl) ?_ ?_
  · refine fsteps_cons 1 rfl (fun a u hE hD hk => f_call (o := ⟨some 3, _, _, _, _, _⟩) 9 #[.int .i64 1] rfl (wanted_none rfl _) (exec_call 9 _ [.const (.int .i64 1)] _ [.int .i64 1] Tryd.func9 (by kernel_rfl) (by kernel_rfl) rfl rfl u) (HT1.out u _ hk.size)) ?_
    refine fsteps_cons 2 rfl (fun a u hE hD hk => f_call (o := ⟨some 4, _, _, _, _, _⟩) 9 #[.int .i64 3] rfl (wanted_none rfl _) (exec_call 9 _ [.const (.int .i64 3)] _ [.int .i64 3] Tryd.func9 (by kernel_rfl) (by kernel_rfl) rfl rfl u) (HT3.out u _ hk.size)) ?_
    refine fsteps_cons 3 rfl (fun a u hE hD hk => f_val (o := ⟨some 1, _, _, _, _, _⟩) (a.eval (.tmp 3)) rfl (wanted_none rfl _) (exec_assign (.tmp 3) _ rfl rfl) (hD 0 3 (by kernel_rfl))) ?_
    refine fsteps_cons 4 rfl (fun a u hE hD hk => f_val (o := ⟨some 2, _, _, _, _, _⟩) (a.eval (.tmp 4)) rfl (wanted_none rfl _) (exec_assign (.tmp 4) _ rfl rfl) (hD 1 4 (by kernel_rfl))) ?_
    exact fsteps_nil
  intro gv w1 hV k1
  rw [show dstsOf _ 4 = [3, 4, 1, 2] by kernel_rfl]
  simp only [List.foldl_cons, List.foldl_nil, List.setIfInBounds_toArray, List.set_cons_succ, List.set_cons_zero, List.drop_succ_cons, List.drop_zero]
  have hv1 : (.fresh w.heap.size 58 X.cells : Kn).p (gv 1) w1 := hV 2 1 (by kernel_rfl)
  generalize gv 1 = v1 at hv1 ⊢
  have hv2 : (.fresh w.heap.size 58 Y.cells : Kn).p (gv 2) w1 := hV 3 2 (by kernel_rfl)
  generalize gv 2 = v2 at hv2 ⊢
  clear hV
  refine wpList_nil ?_
  obtain ⟨pa, rfl, _, hP1⟩ := hv1
  obtain ⟨pb, rfl, _, hQ1⟩ := hv2
  have HP1 := Lib.hid hP1
  have HQ1 := Lib.hid hQ1
  have HG1 := Lib.hid (HG.out.kept k1)
  clear hP1 hQ1 HG HT1 HT3
  go_upto_region 2 with fail
  refine wp_text 6 [.eq (.pointer (some ⟨pa, 0, none⟩)), .eq (.bool false), .eq (.bool false), .eq (.pointer (some ⟨pb, 0, none⟩)), .eq (.bool false), .eq (.bool false)] rfl (by kernel_rfl) ?_ ?_
  · refine sv 1 rfl rfl rfl (fun a u hE hD hk => exec_move (.tmp 1) _ rfl (hE 1 (.pointer (some ⟨pa, 0, none⟩)) (by kernel_rfl) (by kernel_rfl))) ?_
    refine sv 2 rfl rfl rfl (fun a u hE hD hk => exec_eqP (.tmp 5) _ _ ⟨pa, 0, none⟩ (by kernel_rfl) rfl (hD 0 5 (by kernel_rfl))) ?_
    refine sv 3 rfl rfl rfl (fun a u hE hD hk => exec_move (.tmp 6) _ rfl (hD 1 6 (by kernel_rfl))) ?_
    refine fsteps_cons 4 rfl (fun a u hE hD hk => f_val (o := ⟨some 8, _, _, _, _, _⟩) (.pointer (some ⟨pb, 0, none⟩)) rfl (wanted_at (b := false) false rfl rfl (hD 2 7 (by kernel_rfl))) (exec_move (.tmp 2) _ rfl (hE 2 (.pointer (some ⟨pb, 0, none⟩)) (by kernel_rfl) (by kernel_rfl))) rfl) ?_
    refine fsteps_cons 5 rfl (fun a u hE hD hk => f_val (o := ⟨some 9, _, _, _, _, _⟩) (.bool false) rfl (wanted_at (b := false) false rfl rfl (hD 2 7 (by kernel_rfl))) (exec_eqP (.tmp 8) _ _ ⟨pb, 0, none⟩ (by kernel_rfl) rfl (hD 3 8 (by kernel_rfl))) rfl) ?_
    refine sv 6 rfl rfl rfl (fun a u hE hD hk => exec_pickF (.tmp 7) (.const (.bool true)) (.tmp 9) (.bool false) rfl (hD 2 7 (by kernel_rfl)) (hD 4 9 (by kernel_rfl))) ?_
    exact fsteps_nil
  intro gv w2 hV k2
  rw [show dstsOf _ 6 = [5, 6, 7, 8, 9, 10] by kernel_rfl]
  simp only [List.foldl_cons, List.foldl_nil, List.setIfInBounds_toArray, List.set_cons_succ, List.set_cons_zero, List.drop_succ_cons, List.drop_zero]
  rw [show gv 10 = .bool false from hV 5 10 (by kernel_rfl)]
  clear hV
  refine wpList_nil ?_
  have HP2 := Lib.hid (HP1.out.kept k2)
  have HQ2 := Lib.hid (HQ1.out.kept k2)
  have HG2 := Lib.hid (HG1.out.kept k2)
  have kw2 := k1.trans k2
  clear HP1 HQ1 HG1 k1 k2
  go_upto_region 4 with fail
  refine wp_text 17 [.eq (.pointer (some ⟨pa, 0, none⟩)), .eq (zeroP.v), .eq (.int .i64 6), .eq (.bool true), .eq (.bool true), .eq (.pointer (some ⟨pa, 0, none⟩)), .eq (zeroP.v), .eq (.int .i64 7), .eq (.bool true), .eq (.bool true), .eq (.bool true), .eq (.pointer (some ⟨pb, 0, none⟩)), .eq (zeroP.v), .eq (.int .i64 0), .eq (.bool true), .eq (.bool true), .eq (.bool true)] rfl (by kernel_rfl) ?_ ?_
  · refine sv 1 rfl rfl rfl (fun a u hE hD hk => exec_move (.tmp 1) _ rfl (hE 1 (.pointer (some ⟨pa, 0, none⟩)) (by kernel_rfl) (by kernel_rfl))) ?_
    refine sv 2 rfl rfl rfl (fun a u hE hD hk => exec_build 29 [] zeroP.cells rfl (by kernel_rfl)) ?_
    refine fsteps_cons 3 rfl (fun a u hE hD hk => f_call (o := ⟨some 13, _, _, _, _, _⟩) 10 #[.pointer (some ⟨pa, 0, none⟩), zeroP.v, .int .i64 9, .int .i64 1, .int .i64 0, .int .i64 0] rfl (wanted_none rfl _) (exec_call 10 _ [.tmp 11, .tmp 12, .const (.int .i64 9), .const (.int .i64 1), .const (.int .i64 0), .const (.int .i64 0)] _ [.pointer (some ⟨pa, 0, none⟩), zeroP.v, .int .i64 9, .int .i64 1, .int .i64 0, .int .i64 0] Tryd.func10 (by kernel_rfl) (by kernel_rfl) rfl (show [a.eval (.tmp 11), a.eval (.tmp 12), a.eval (.const (.int .i64 9)), a.eval (.const (.int .i64 1)), a.eval (.const (.int .i64 0)), a.eval (.const (.int .i64 0))] = [.pointer (some ⟨pa, 0, none⟩), zeroP.v, .int .i64 9, .int .i64 1, .int .i64 0, .int .i64 0] from (by rw [show a.eval (.tmp 11) = .pointer (some ⟨pa, 0, none⟩) from (hD 0 11 (by kernel_rfl)), show a.eval (.tmp 12) = zeroP.v from (hD 1 12 (by kernel_rfl))] <;> rfl)) u) (may_at (HG2.out.kept hk) (HP2.out.kept hk) HX1.out HA.out)) ?_
    refine fsteps_cons 4 rfl (fun a u hE hD hk => f_as (show ((decide ((6 : Int) = (6 : Int))) : Bool) = true from decide_eq_true rfl) (f_val (o := ⟨some 14, _, _, _, _, _⟩) (.bool (decide ((6 : Int) = (6 : Int)))) rfl (wanted_none rfl _) (exec_eqn (p := 6) (q := 6) rfl (hD 2 13 (by kernel_rfl)) rfl) rfl)) ?_
    refine sv 5 rfl rfl rfl (fun a u hE hD hk => exec_move (.tmp 14) _ rfl (hD 3 14 (by kernel_rfl))) ?_
    refine fsteps_cons 6 rfl (fun a u hE hD hk => f_val (o := ⟨some 16, _, _, _, _, _⟩) (.pointer (some ⟨pa, 0, none⟩)) rfl (wanted_at (b := true) true rfl rfl (hD 4 15 (by kernel_rfl))) (exec_move (.tmp 1) _ rfl (hE 1 (.pointer (some ⟨pa, 0, none⟩)) (by kernel_rfl) (by kernel_rfl))) rfl) ?_
    refine fsteps_cons 7 rfl (fun a u hE hD hk => f_val (o := ⟨some 17, _, _, _, _, _⟩) (zeroP.v) rfl (wanted_at (b := true) true rfl rfl (hD 4 15 (by kernel_rfl))) (exec_build 29 [] zeroP.cells rfl (by kernel_rfl)) rfl) ?_
    refine fsteps_cons 8 rfl (fun a u hE hD hk => f_call (o := ⟨some 18, _, _, _, _, _⟩) 10 #[.pointer (some ⟨pa, 0, none⟩), zeroP.v, .int .i64 0, .int .i64 2, .int .i64 0, .int .i64 1] rfl (wanted_at (b := true) true rfl rfl (hD 4 15 (by kernel_rfl))) (exec_call 10 _ [.tmp 16, .tmp 17, .const (.int .i64 0), .const (.int .i64 2), .const (.int .i64 0), .const (.int .i64 1)] _ [.pointer (some ⟨pa, 0, none⟩), zeroP.v, .int .i64 0, .int .i64 2, .int .i64 0, .int .i64 1] Tryd.func10 (by kernel_rfl) (by kernel_rfl) rfl (show [a.eval (.tmp 16), a.eval (.tmp 17), a.eval (.const (.int .i64 0)), a.eval (.const (.int .i64 2)), a.eval (.const (.int .i64 0)), a.eval (.const (.int .i64 1))] = [.pointer (some ⟨pa, 0, none⟩), zeroP.v, .int .i64 0, .int .i64 2, .int .i64 0, .int .i64 1] from (by rw [show a.eval (.tmp 16) = .pointer (some ⟨pa, 0, none⟩) from (hD 5 16 (by kernel_rfl)), show a.eval (.tmp 17) = zeroP.v from (hD 6 17 (by kernel_rfl))] <;> rfl)) u) (may_at (HG2.out.kept hk) (HP2.out.kept hk) HX1.out HB.out)) ?_
    refine fsteps_cons 9 rfl (fun a u hE hD hk => f_as (show ((decide ((7 : Int) = (7 : Int))) : Bool) = true from decide_eq_true rfl) (f_val (o := ⟨some 19, _, _, _, _, _⟩) (.bool (decide ((7 : Int) = (7 : Int)))) rfl (wanted_at (b := true) true rfl rfl (hD 4 15 (by kernel_rfl))) (exec_eqn (p := 7) (q := 7) rfl (hD 7 18 (by kernel_rfl)) rfl) rfl)) ?_
    refine sv 10 rfl rfl rfl (fun a u hE hD hk => exec_pick (.tmp 15) (.tmp 19) (.const (.bool false)) (.bool true) rfl (hD 4 15 (by kernel_rfl)) (hD 8 19 (by kernel_rfl))) ?_
    refine sv 11 rfl rfl rfl (fun a u hE hD hk => exec_move (.tmp 20) _ rfl (hD 9 20 (by kernel_rfl))) ?_
    refine fsteps_cons 12 rfl (fun a u hE hD hk => f_val (o := ⟨some 22, _, _, _, _, _⟩) (.pointer (some ⟨pb, 0, none⟩)) rfl (wanted_at (b := true) true rfl rfl (hD 10 21 (by kernel_rfl))) (exec_move (.tmp 2) _ rfl (hE 2 (.pointer (some ⟨pb, 0, none⟩)) (by kernel_rfl) (by kernel_rfl))) rfl) ?_
    refine fsteps_cons 13 rfl (fun a u hE hD hk => f_val (o := ⟨some 23, _, _, _, _, _⟩) (zeroP.v) rfl (wanted_at (b := true) true rfl rfl (hD 10 21 (by kernel_rfl))) (exec_build 29 [] zeroP.cells rfl (by kernel_rfl)) rfl) ?_
    refine fsteps_cons 14 rfl (fun a u hE hD hk => f_call (o := ⟨some 24, _, _, _, _, _⟩) 10 #[.pointer (some ⟨pb, 0, none⟩), zeroP.v, .int .i64 0, .int .i64 2, .int .i64 0, .int .i64 1] rfl (wanted_at (b := true) true rfl rfl (hD 10 21 (by kernel_rfl))) (exec_call 10 _ [.tmp 22, .tmp 23, .const (.int .i64 0), .const (.int .i64 2), .const (.int .i64 0), .const (.int .i64 1)] _ [.pointer (some ⟨pb, 0, none⟩), zeroP.v, .int .i64 0, .int .i64 2, .int .i64 0, .int .i64 1] Tryd.func10 (by kernel_rfl) (by kernel_rfl) rfl (show [a.eval (.tmp 22), a.eval (.tmp 23), a.eval (.const (.int .i64 0)), a.eval (.const (.int .i64 2)), a.eval (.const (.int .i64 0)), a.eval (.const (.int .i64 1))] = [.pointer (some ⟨pb, 0, none⟩), zeroP.v, .int .i64 0, .int .i64 2, .int .i64 0, .int .i64 1] from (by rw [show a.eval (.tmp 22) = .pointer (some ⟨pb, 0, none⟩) from (hD 11 22 (by kernel_rfl)), show a.eval (.tmp 23) = zeroP.v from (hD 12 23 (by kernel_rfl))] <;> rfl)) u) (may_at (HG2.out.kept hk) (HQ2.out.kept hk) HX3.out HC.out)) ?_
    refine fsteps_cons 15 rfl (fun a u hE hD hk => f_as (show ((decide ((0 : Int) = (0 : Int))) : Bool) = true from decide_eq_true rfl) (f_val (o := ⟨some 25, _, _, _, _, _⟩) (.bool (decide ((0 : Int) = (0 : Int)))) rfl (wanted_at (b := true) true rfl rfl (hD 10 21 (by kernel_rfl))) (exec_eqn (p := 0) (q := 0) rfl (hD 13 24 (by kernel_rfl)) rfl) rfl)) ?_
    refine sv 16 rfl rfl rfl (fun a u hE hD hk => exec_pick (.tmp 21) (.tmp 25) (.const (.bool false)) (.bool true) rfl (hD 10 21 (by kernel_rfl)) (hD 14 25 (by kernel_rfl))) ?_
    refine sv 17 rfl rfl rfl (fun a u hE hD hk => exec_assign (.tmp 26) _ rfl (hD 15 26 (by kernel_rfl))) ?_
    exact fsteps_nil
  intro gv w3 hV k3
  rw [show dstsOf _ 17 = [11, 12, 13, 14, 15, 16, 17, 18, 19, 20, 21, 22, 23, 24, 25, 26, 0] by kernel_rfl]
  simp only [List.foldl_cons, List.foldl_nil, List.setIfInBounds_toArray, List.set_cons_succ, List.set_cons_zero, List.drop_succ_cons, List.drop_zero]
  rw [show gv 0 = .bool true from hV 16 0 (by kernel_rfl)]
  clear hV
  refine wpList_nil ?_
  have kw3 := kw2.trans k3
  go_wp2
  go_ret
  exact ⟨rfl, kw3⟩
theorem allowRuns_any (w : World) (hG : RulIn w) : Calls Tryd.prog 3 #[] w fun e w' => e = .returned (.bool true) ∧ Kept w w' := by
  refine (allowRuns_is w hG).mono ?_
  rintro e w' ⟨v, rfl, hv, hk⟩
  obtain rfl : v = .bool true := hv
  exact ⟨rfl, hk⟩
end Go.Proofs.YtfoamgljfdnloaaDoor
