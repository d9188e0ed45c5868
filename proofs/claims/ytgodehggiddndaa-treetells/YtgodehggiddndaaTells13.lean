/-
  The contract of jobberlaw13.TreeTells: any traders, any changes: each answer is the document's own; it answers true. No condition.
-/
import Derived.Test.YtgodehggiddndaaRuns13
import Derived.Test.YtgodehggiddndaaSame6
namespace Go.Proofs.Ytgodehggiddndaa
open Go.RowKit
set_option linter.unusedVariables false
set_option maxRecDepth 100000

theorem rset_v {w : World} {p : Nat} {X : Trds} {n s : Int} {V : Nat} (hB : Blk w p 42 X.cells) (h : X.setB n s = V) : Gives 19 #[.pointer (some ⟨p, 0, none⟩), .int .i64 n, .int .i64 s] w (.eq (.int .u64 (V : Int))) := by
  subst h
  exact rset_any w p X n s hB
theorem rthere_is {w : World} {p : Nat} {X : Trds} {n : Int} {b : Bool} (hB : Blk w p 42 X.cells) (h : X.there n = b) : Gives 16 #[.pointer (some ⟨p, 0, none⟩), .int .i64 n] w (.eq (.bool b)) := by
  subst h
  exact rthere_any w p X n hB
theorem rnew_ok {w : World} {X : Trds} (h : X.bad = none) : Calls Try.prog 11 #[X.v] w fun e w' => ∃ p, e = .returned (.tuple #[.pointer (some ⟨p, 0, none⟩), .int .i64 (-1)]) ∧ w.heap.size ≤ p ∧ Blk w' p 42 X.cells ∧ Kept w w' := by
  refine (rnew_any w X).mono ?_
  rintro e w' ⟨hk, h1 | h1⟩
  · obtain ⟨i, h2, _⟩ := h1
    rw [h] at h2
    cases h2
  · obtain ⟨_, p, rfl, h2, h3⟩ := h1
    exact ⟨p, rfl, h2, h3, hk⟩
theorem rnew_bad {w : World} {X : Trds} {i : Nat} (h : X.bad = some i) : Gives 11 #[X.v] w (.eq (.tuple #[.pointer none, .int .i64 (i : Int)])) := by
  refine (rnew_any w X).mono ?_
  rintro e w' ⟨hk, h1 | h1⟩
  · obtain ⟨j, h2, rfl⟩ := h1
    rw [h] at h2
    injection h2 with h2
    subst h2
    exact ⟨_, rfl, rfl, hk⟩
  · rw [h] at h1
    cases h1.1
set_option maxRecDepth 100000 in
set_option maxHeartbeats 3200000 in
theorem treeTells_any (v : Value) (l : List Aq) (at_ : Int) (raw : Trd) (n s : Int) (off : Bool) (w : World) (hl : Aqs w v l) : Calls Try.prog 4 #[v, .int .i64 at_, raw.v, .int .i64 n, .int .i64 s, .bool off] w fun e w' => e = .returned (.bool true) ∧ Kept w w' := by
  have HA := Lib.hid hl
  obtain ⟨X, hX⟩ : ∃ X, someM l at_ raw = X := ⟨_, rfl⟩
  have HXX := Lib.hid hX
  clear hl hX
  obtain ⟨w0, hw0⟩ : ∃ w0, w.alloc (.cells raw.cells.toArray 25) = w0 := ⟨_, rfl⟩
  have k0 : Kept w w0 := by rw [← hw0]; exact (Keep.refl _ w).alloc _
  have hR0 : Blk w0 w.heap.size 25 raw.cells := by rw [← hw0]; exact Blk.new w _ _
  go_enter Try.func4, Try.ntmps4
  go_upto_region 0 with fail
  refine wp_region_lit ?_
  refine l_new (o := ⟨some 8, _, _, _, _, _⟩) (.pointer (some ⟨w.heap.size, 0, none⟩)) w0 rfl (by rw [← hw0]; exact exec_box 25 (.tmp 2) raw.cells rfl (by kernel_rfl)) ?_
  simp only [Act.put, List.setIfInBounds_toArray, List.set_cons_succ, List.set_cons_zero]
  refine l_val (o := ⟨some 12, _, _, _, _, _⟩) (.bool false) rfl (exec_assign (.const (.bool false)) (.bool false) rfl (by kernel_rfl)) ?_
  simp only [Act.put, List.setIfInBounds_toArray, List.set_cons_succ, List.set_cons_zero]
  refine wpList_nil ?_
  obtain ⟨g8, hg8⟩ : ∃ g, w.heap.size = g := ⟨_, rfl⟩
  rw [hg8] at hR0 ⊢
  have HRw0 := Lib.hid (blk_range hR0)
  clear hR0 hw0
  go_upto_region 1 with fail
  refine wp_text 4 [.eq (v), .eq (.int .i64 at_), .eq (raw.v), .eq (X.v)] rfl (by kernel_rfl) ?_ ?_
  · refine sv 1 rfl rfl rfl (fun a u hE hD hk => exec_move (.tmp 0) _ rfl (hE 0 (v) (by kernel_rfl) (by kernel_rfl))) ?_
    refine sv 2 rfl rfl rfl (fun a u hE hD hk => exec_move (.tmp 1) _ rfl (hE 1 (.int .i64 at_) (by kernel_rfl) (by kernel_rfl))) ?_
    refine sv 3 rfl rfl rfl (fun a u hE hD hk => exec_ldS 25 _ (.tmp 8) (g8) (0) (raw.cells) rfl (hE 8 (.pointer (some ⟨g8, 0, none⟩)) (by kernel_rfl) (by kernel_rfl)) (range_kept (HRw0.out) hk) Try.underlying25 (by rw [Trd.len37]; exact szT)) ?_
    refine fsteps_cons 4 rfl (fun a u hE hD hk => f_call (o := ⟨some 23, _, _, _, _, _⟩) 10 #[v, .int .i64 at_, raw.v] rfl (wanted_none rfl _) (exec_call 10 _ [.tmp 20, .tmp 21, .tmp 22] _ [v, .int .i64 at_, raw.v] Try.func10 (by kernel_rfl) (by kernel_rfl) rfl (show [a.eval (.tmp 20), a.eval (.tmp 21), a.eval (.tmp 22)] = [v, .int .i64 at_, raw.v] from (by rw [show a.eval (.tmp 20) = v from (hD 0 20 (by kernel_rfl)), show a.eval (.tmp 21) = .int .i64 at_ from (hD 1 21 (by kernel_rfl)), show a.eval (.tmp 22) = raw.v from (hD 2 22 (by kernel_rfl))] <;> rfl)) u) (by rw [← HXX.out]; exact some_any u v l at_ raw ((HA.out.kept k0).kept hk))) ?_
    exact fsteps_nil
  intro gv wa hV ka
  rw [show dstsOf _ 4 = [20, 21, 22, 23] by kernel_rfl]
  simp only [List.foldl_cons, List.foldl_nil, List.setIfInBounds_toArray, List.set_cons_succ, List.set_cons_zero, List.drop_succ_cons, List.drop_zero]
  rw [show gv 23 = X.v from hV 3 23 (by kernel_rfl)]
  clear hV
  refine l_new (o := ⟨some 13, _, _, _, _, _⟩) (.pointer (some ⟨wa.heap.size, 0, none⟩)) (wa.alloc (.cells zeroX.cells.toArray 26)) rfl (exec_alc 26 zeroX.cells rfl zX) ?_
  have hNa := Blk.new wa 26 zeroX.cells
  have kb : Kept wa (wa.alloc (.cells zeroX.cells.toArray 26)) := (Keep.refl _ wa).alloc _
  generalize wa.alloc (.cells zeroX.cells.toArray 26) = wb at hNa kb ⊢
  simp only [Act.put, List.setIfInBounds_toArray, List.set_cons_succ, List.set_cons_zero]
  refine l_setS (o := ⟨none, _, _, _, _, _⟩) 26 wa.heap.size 26 zeroX.cells X.cells (.tmp 13) (.tmp 23) rfl rfl (by kernel_rfl) (by kernel_rfl) hNa (by rw [Trds.len]; exact szX) (by rw [Trds.len, Trds.len]) (Trds.one _) ?_
  intro w1 hC hkc hsc
  simp only [Act.put]
  refine wpList_nil ?_
  obtain ⟨gl, hgl⟩ : ∃ a, wa.heap.size = a := ⟨_, rfl⟩
  rw [hgl] at hNa hC hkc ⊢
  have HX := Lib.hid hC
  have zka := ka.size
  have kw1 : Kept w0 w1 := (ka.trans kb).trans' hkc (by omega)
  clear hNa hC hkc hsc kb ka zka hgl
  have HRw1 := Lib.hid (range_kept HRw0.out kw1)
  have kw1' := k0.trans kw1
  clear HRw0 kw1 k0 HXX HA
  cases hb : X.bad with
  | some i =>
    have HXB := Lib.hid hb
    clear hb
    go_upto_region 2 with fail
    refine wp_text 7 [.eq (X.v), .eq (.tuple #[.pointer none, .int .i64 (i : Int)]), .eq (.tuple #[.pointer none, .int .i64 (i : Int)]), .eq (.pointer none), .eq (.int .i64 (i : Int)), .eq (.pointer none), .eq (.int .i64 (i : Int))] rfl (by kernel_rfl) ?_ ?_
    · refine sv 1 rfl rfl rfl (fun a u hE hD hk => exec_ldX X (.tmp 13) (gl) _ rfl (hE 13 (.pointer (some ⟨gl, 0, none⟩)) (by kernel_rfl) (by kernel_rfl)) (HX.out.kept hk)) ?_
      refine fsteps_cons 2 rfl (fun a u hE hD hk => f_call (o := ⟨some 26, _, _, _, _, _⟩) 8 #[X.v] rfl (wanted_none rfl _) (exec_call 8 _ [.tmp 25] _ [X.v] Try.func8 (by kernel_rfl) (by kernel_rfl) rfl (show [a.eval (.tmp 25)] = [X.v] from (by rw [show a.eval (.tmp 25) = X.v from (hD 0 25 (by kernel_rfl))] <;> rfl)) u) (new_bad HXB.out)) ?_
      refine sv 3 rfl rfl rfl (fun a u hE hD hk => exec_move (.tmp 26) _ rfl (hD 1 26 (by kernel_rfl))) ?_
      refine sv 4 rfl rfl rfl (fun a u hE hD hk => exec_extract (.tmp 24) [.pointer none, .int .i64 (i : Int)] 0 (.pointer none) rfl (hD 2 24 (by kernel_rfl)) rfl) ?_
      refine sv 5 rfl rfl rfl (fun a u hE hD hk => exec_extract (.tmp 24) [.pointer none, .int .i64 (i : Int)] 1 (.int .i64 (i : Int)) rfl (hD 2 24 (by kernel_rfl)) rfl) ?_
      refine sv 6 rfl rfl rfl (fun a u hE hD hk => exec_assign (.tmp 27) _ rfl (hD 3 27 (by kernel_rfl))) ?_
      refine sv 7 rfl rfl rfl (fun a u hE hD hk => exec_assign (.tmp 28) _ rfl (hD 4 28 (by kernel_rfl))) ?_
      exact fsteps_nil
    intro gv w2 hV k2
    rw [show dstsOf _ 7 = [25, 26, 24, 27, 28, 14, 15] by kernel_rfl]
    simp only [List.foldl_cons, List.foldl_nil, List.setIfInBounds_toArray, List.set_cons_succ, List.set_cons_zero, List.drop_succ_cons, List.drop_zero]
    rw [show gv 14 = .pointer none from hV 5 14 (by kernel_rfl)]
    rw [show gv 15 = .int .i64 (i : Int) from hV 6 15 (by kernel_rfl)]
    clear hV
    refine wpList_nil ?_
    have HX2 := Lib.hid (HX.out.kept k2)
    go_upto_region 3 with fail
    refine wp_text 7 [.eq (X.v), .eq (.tuple #[.pointer none, .int .i64 (i : Int)]), .eq (.tuple #[.pointer none, .int .i64 (i : Int)]), .eq (.pointer none), .eq (.int .i64 (i : Int)), .eq (.pointer none), .eq (.int .i64 (i : Int))] rfl (by kernel_rfl) ?_ ?_
    · refine sv 1 rfl rfl rfl (fun a u hE hD hk => exec_ldX X (.tmp 13) (gl) _ rfl (hE 13 (.pointer (some ⟨gl, 0, none⟩)) (by kernel_rfl) (by kernel_rfl)) (HX2.out.kept hk)) ?_
      refine fsteps_cons 2 rfl (fun a u hE hD hk => f_call (o := ⟨some 31, _, _, _, _, _⟩) 11 #[X.v] rfl (wanted_none rfl _) (exec_call 11 _ [.tmp 30] _ [X.v] Try.func11 (by kernel_rfl) (by kernel_rfl) rfl (show [a.eval (.tmp 30)] = [X.v] from (by rw [show a.eval (.tmp 30) = X.v from (hD 0 30 (by kernel_rfl))] <;> rfl)) u) (rnew_bad HXB.out)) ?_
      refine sv 3 rfl rfl rfl (fun a u hE hD hk => exec_move (.tmp 31) _ rfl (hD 1 31 (by kernel_rfl))) ?_
      refine sv 4 rfl rfl rfl (fun a u hE hD hk => exec_extract (.tmp 29) [.pointer none, .int .i64 (i : Int)] 0 (.pointer none) rfl (hD 2 29 (by kernel_rfl)) rfl) ?_
      refine sv 5 rfl rfl rfl (fun a u hE hD hk => exec_extract (.tmp 29) [.pointer none, .int .i64 (i : Int)] 1 (.int .i64 (i : Int)) rfl (hD 2 29 (by kernel_rfl)) rfl) ?_
      refine sv 6 rfl rfl rfl (fun a u hE hD hk => exec_assign (.tmp 32) _ rfl (hD 3 32 (by kernel_rfl))) ?_
      refine sv 7 rfl rfl rfl (fun a u hE hD hk => exec_assign (.tmp 33) _ rfl (hD 4 33 (by kernel_rfl))) ?_
      exact fsteps_nil
    intro gv w3 hV k3
    rw [show dstsOf _ 7 = [30, 31, 29, 32, 33, 16, 17] by kernel_rfl]
    simp only [List.foldl_cons, List.foldl_nil, List.setIfInBounds_toArray, List.set_cons_succ, List.set_cons_zero, List.drop_succ_cons, List.drop_zero]
    rw [show gv 16 = .pointer none from hV 5 16 (by kernel_rfl)]
    rw [show gv 17 = .int .i64 (i : Int) from hV 6 17 (by kernel_rfl)]
    clear hV
    refine wpList_nil ?_
    have HRw3 := Lib.hid (range_kept (range_kept HRw1.out k2) k3)
    have kw3 := (kw1'.trans k2).trans k3
    clear HX HX2 HRw1 k2 k3 kw1'
    go_upto_region 4 with fail
    refine wp_free 17 [.eq (raw.v), .eq (.bool raw.right), .eq (raw.v), .eq (.bool raw.right), .eq (.bool false), .eq (.bool false), .eq (.int .i64 (i : Int)), .eq (.int .i64 (i : Int)), .eq (.bool false), .eq (.bool false), .eq (.bool false), .eq (.pointer none), .eq (.bool true), .eq (.pointer none), .eq (.bool true), .eq (.bool false), .eq (.bool false)] (by kernel_rfl) rfl (by kernel_rfl) ?_ ?_
    · refine sv 1 rfl rfl rfl (fun a u hE hD hk => exec_ldS 25 _ (.tmp 8) (g8) (0) (raw.cells) rfl (hE 8 (.pointer (some ⟨g8, 0, none⟩)) (by kernel_rfl) (by kernel_rfl)) (range_kept (HRw3.out) hk) Try.underlying25 (by rw [Trd.len37]; exact szT)) ?_
      refine fsteps_cons 2 rfl (fun a u hE hD hk => f_call (o := ⟨some 35, _, _, _, _, _⟩) 12 #[raw.v] rfl (wanted_none rfl _) (exec_call 12 _ [.tmp 34] _ [raw.v] Try.func12 (by kernel_rfl) (by kernel_rfl) rfl (show [a.eval (.tmp 34)] = [raw.v] from (by rw [show a.eval (.tmp 34) = raw.v from (hD 0 34 (by kernel_rfl))] <;> rfl)) u) (right_t raw u)) ?_
      refine sv 3 rfl rfl rfl (fun a u hE hD hk => exec_ldS 25 _ (.tmp 8) (g8) (0) (raw.cells) rfl (hE 8 (.pointer (some ⟨g8, 0, none⟩)) (by kernel_rfl) (by kernel_rfl)) (range_kept (HRw3.out) hk) Try.underlying25 (by rw [Trd.len37]; exact szT)) ?_
      refine fsteps_cons 4 rfl (fun a u hE hD hk => f_call (o := ⟨some 37, _, _, _, _, _⟩) 13 #[raw.v] rfl (wanted_none rfl _) (exec_call 13 _ [.tmp 36] _ [raw.v] Try.func13 (by kernel_rfl) (by kernel_rfl) rfl (show [a.eval (.tmp 36)] = [raw.v] from (by rw [show a.eval (.tmp 36) = raw.v from (hD 2 36 (by kernel_rfl))] <;> rfl)) u) (rright_t raw u)) ?_
      refine sv 5 rfl rfl rfl (fun a u hE hD hk => exec_neb (.tmp 35) (.tmp 37) _ raw.right raw.right false rfl (hD 1 35 (by kernel_rfl)) (hD 3 37 (by kernel_rfl)) (by simp)) ?_
      refine sv 6 rfl rfl rfl (fun a u hE hD hk => exec_move (.tmp 38) _ rfl (hD 4 38 (by kernel_rfl))) ?_
      refine fsteps_cons 7 rfl (fun a u hE hD hk => f_val (o := ⟨some 40, _, _, _, _, _⟩) (.int .i64 (i : Int)) rfl (wanted_at (b := false) false rfl rfl (hD 5 39 (by kernel_rfl))) (exec_move (.tmp 15) _ rfl (hE 15 (.int .i64 (i : Int)) (by kernel_rfl) (by kernel_rfl))) rfl) ?_
      refine fsteps_cons 8 rfl (fun a u hE hD hk => f_val (o := ⟨some 41, _, _, _, _, _⟩) (.int .i64 (i : Int)) rfl (wanted_at (b := false) false rfl rfl (hD 5 39 (by kernel_rfl))) (exec_move (.tmp 17) _ rfl (hE 17 (.int .i64 (i : Int)) (by kernel_rfl) (by kernel_rfl))) rfl) ?_
      refine fsteps_cons 9 rfl (fun a u hE hD hk => f_as (show ((decide (((i : Int) : Int) ≠ ((i : Int) : Int))) : Bool) = false from decide_eq_false (by simp)) (f_val (o := ⟨some 42, _, _, _, _, _⟩) (.bool (decide (((i : Int) : Int) ≠ ((i : Int) : Int)))) rfl (wanted_at (b := false) false rfl rfl (hD 5 39 (by kernel_rfl))) (exec_nen (p := (i : Int)) (q := (i : Int)) rfl (hD 6 40 (by kernel_rfl)) (hD 7 41 (by kernel_rfl))) rfl)) ?_
      refine sv 10 rfl rfl rfl (fun a u hE hD hk => exec_pickF (.tmp 39) (.const (.bool true)) (.tmp 42) (.bool false) rfl (hD 5 39 (by kernel_rfl)) (hD 8 42 (by kernel_rfl))) ?_
      refine sv 11 rfl rfl rfl (fun a u hE hD hk => exec_move (.tmp 43) _ rfl (hD 9 43 (by kernel_rfl))) ?_
      refine fsteps_cons 12 rfl (fun a u hE hD hk => f_val (o := ⟨some 45, _, _, _, _, _⟩) (.pointer none) rfl (wanted_at (b := false) false rfl rfl (hD 10 44 (by kernel_rfl))) (exec_move (.tmp 14) _ rfl (hE 14 (.pointer none) (by kernel_rfl) (by kernel_rfl))) rfl) ?_
      refine fsteps_cons 13 rfl (fun a u hE hD hk => f_val (o := ⟨some 46, _, _, _, _, _⟩) (.bool true) rfl (wanted_at (b := false) false rfl rfl (hD 10 44 (by kernel_rfl))) (exec_eqPn (.tmp 45) _ _ (by kernel_rfl) rfl (hD 11 45 (by kernel_rfl))) rfl) ?_
      refine fsteps_cons 14 rfl (fun a u hE hD hk => f_val (o := ⟨some 47, _, _, _, _, _⟩) (.pointer none) rfl (wanted_at (b := false) false rfl rfl (hD 10 44 (by kernel_rfl))) (exec_move (.tmp 16) _ rfl (hE 16 (.pointer none) (by kernel_rfl) (by kernel_rfl))) rfl) ?_
      refine fsteps_cons 15 rfl (fun a u hE hD hk => f_val (o := ⟨some 48, _, _, _, _, _⟩) (.bool true) rfl (wanted_at (b := false) false rfl rfl (hD 10 44 (by kernel_rfl))) (exec_eqPn (.tmp 47) _ _ (by kernel_rfl) rfl (hD 13 47 (by kernel_rfl))) rfl) ?_
      refine fsteps_cons 16 rfl (fun a u hE hD hk => f_val (o := ⟨some 49, _, _, _, _, _⟩) (.bool false) rfl (wanted_at (b := false) false rfl rfl (hD 10 44 (by kernel_rfl))) (exec_neb (.tmp 46) (.tmp 48) _ true true false rfl (hD 12 46 (by kernel_rfl)) (hD 14 48 (by kernel_rfl)) rfl) rfl) ?_
      refine sv 17 rfl rfl rfl (fun a u hE hD hk => exec_pickF (.tmp 44) (.const (.bool true)) (.tmp 49) (.bool false) rfl (hD 10 44 (by kernel_rfl)) (hD 15 49 (by kernel_rfl))) ?_
      exact fsteps_nil
    intro gv w4 hV kw4
    rw [show dstsOf _ 17 = [34, 35, 36, 37, 38, 39, 40, 41, 42, 43, 44, 45, 46, 47, 48, 49, 50] by kernel_rfl]
    simp only [List.foldl_cons, List.foldl_nil, List.setIfInBounds_toArray, List.set_cons_succ, List.set_cons_zero, List.drop_succ_cons, List.drop_zero]
    rw [show gv 50 = .bool false from hV 16 50 (by kernel_rfl)]
    clear hV
    refine wpList_nil ?_
    go_upto_region 6 with fail
    refine wp_text 2 [.eq (.pointer none), .eq (.bool true)] rfl (by kernel_rfl) ?_ ?_
    · refine sv 1 rfl rfl rfl (fun a u hE hD hk => exec_move (.tmp 16) _ rfl (hE 16 (.pointer none) (by kernel_rfl) (by kernel_rfl))) ?_
      refine sv 2 rfl rfl rfl (fun a u hE hD hk => exec_eqPn (.tmp 51) _ _ (by kernel_rfl) rfl (hD 0 51 (by kernel_rfl))) ?_
      exact fsteps_nil
    intro gv w5 hV k5
    rw [show dstsOf _ 2 = [51, 52] by kernel_rfl]
    simp only [List.foldl_cons, List.foldl_nil, List.setIfInBounds_toArray, List.set_cons_succ, List.set_cons_zero, List.drop_succ_cons, List.drop_zero]
    rw [show gv 52 = .bool true from hV 1 52 (by kernel_rfl)]
    clear hV
    refine wpList_nil ?_
    go_upto_region 7 with fail
    refine wp_text 1 [.eq (.bool true)] rfl (by kernel_rfl) ?_ ?_
    · refine fsteps_cons 1 rfl (fun a u hE hD hk => f_call (o := ⟨some 53, _, _, _, _, _⟩) 3 #[] rfl (wanted_none rfl _) (exec_call 3 _ [] _ [] Try.func3 (by kernel_rfl) (by kernel_rfl) rfl rfl u) (treeRuns_is u)) ?_
      exact fsteps_nil
    intro gv w6 hV k6
    rw [show dstsOf _ 1 = [53] by kernel_rfl]
    simp only [List.foldl_cons, List.foldl_nil, List.setIfInBounds_toArray, List.set_cons_succ, List.set_cons_zero, List.drop_succ_cons, List.drop_zero]
    rw [show gv 53 = .bool true from hV 0 53 (by kernel_rfl)]
    clear hV
    refine l_val (o := ⟨some 12, _, _, _, _, _⟩) (.bool true) rfl (exec_assign (.tmp 53) (.bool true) rfl (by kernel_rfl)) ?_
    simp only [Act.put, List.setIfInBounds_toArray, List.set_cons_succ, List.set_cons_zero]
    refine wpList_nil ?_
    have kw6 := ((kw3.trans kw4).trans k5).trans k6
    go_wp2
    go_ret
    exact ⟨rfl, kw6⟩
  | none =>
    have HXB := Lib.hid hb
    clear hb
    go_upto_region 2 with fail
    refine wp_text 1 [.eq (X.v)] rfl (by kernel_rfl) ?_ ?_
    · refine sv 1 rfl rfl rfl (fun a u hE hD hk => exec_ldX X (.tmp 13) (gl) _ rfl (hE 13 (.pointer (some ⟨gl, 0, none⟩)) (by kernel_rfl) (by kernel_rfl)) (HX.out.kept hk)) ?_
      exact fsteps_nil
    intro gv wa hV ka
    rw [show dstsOf _ 1 = [25] by kernel_rfl]
    simp only [List.foldl_cons, List.foldl_nil, List.setIfInBounds_toArray, List.set_cons_succ, List.set_cons_zero, List.drop_succ_cons, List.drop_zero]
    rw [show gv 25 = X.v from hV 0 25 (by kernel_rfl)]
    clear hV
    refine l_call (o := ⟨some 26, _, _, _, _, _⟩) 8 #[X.v] rfl (exec_call 8 _ [.tmp 25] _ _ Try.func8 (by kernel_rfl) (by kernel_rfl) rfl (by kernel_rfl) _) ?_
    refine (new_ok HXB.out).mono ?_
    rintro e w2 ⟨p, rfl, hp, hP2, k2⟩
    refine ⟨_, rfl, ?_⟩
    simp only [Act.put, List.setIfInBounds_toArray, List.set_cons_succ, List.set_cons_zero]
    refine l_val (o := ⟨some 24, _, _, _, _, _⟩) (.tuple #[.pointer (some ⟨p, 0, none⟩), .int .i64 (-1)]) rfl (exec_move (.tmp 26) (.tuple #[.pointer (some ⟨p, 0, none⟩), .int .i64 (-1)]) rfl (by kernel_rfl)) ?_
    simp only [Act.put, List.setIfInBounds_toArray, List.set_cons_succ, List.set_cons_zero]
    refine l_val (o := ⟨some 27, _, _, _, _, _⟩) (.pointer (some ⟨p, 0, none⟩)) rfl (exec_extract (.tmp 24) [.pointer (some ⟨p, 0, none⟩), .int .i64 (-1)] 0 (.pointer (some ⟨p, 0, none⟩)) rfl (by kernel_rfl) rfl) ?_
    simp only [Act.put, List.setIfInBounds_toArray, List.set_cons_succ, List.set_cons_zero]
    refine l_val (o := ⟨some 28, _, _, _, _, _⟩) (.int .i64 (-1)) rfl (exec_extract (.tmp 24) [.pointer (some ⟨p, 0, none⟩), .int .i64 (-1)] 1 (.int .i64 (-1)) rfl (by kernel_rfl) rfl) ?_
    simp only [Act.put, List.setIfInBounds_toArray, List.set_cons_succ, List.set_cons_zero]
    refine l_val (o := ⟨some 14, _, _, _, _, _⟩) (.pointer (some ⟨p, 0, none⟩)) rfl (exec_assign (.tmp 27) (.pointer (some ⟨p, 0, none⟩)) rfl (by kernel_rfl)) ?_
    simp only [Act.put, List.setIfInBounds_toArray, List.set_cons_succ, List.set_cons_zero]
    refine l_val (o := ⟨some 15, _, _, _, _, _⟩) (.int .i64 (-1)) rfl (exec_assign (.tmp 28) (.int .i64 (-1)) rfl (by kernel_rfl)) ?_
    simp only [Act.put, List.setIfInBounds_toArray, List.set_cons_succ, List.set_cons_zero]
    refine wpList_nil ?_
    have HX2 := Lib.hid ((HX.out.kept ka).kept k2)
    have HP2 := Lib.hid hP2
    have zp := hP2.lt
    have za := ka.size
    have k12 := ka.trans k2
    clear hP2 ka k2
    go_upto_region 3 with fail
    refine wp_text 1 [.eq (X.v)] rfl (by kernel_rfl) ?_ ?_
    · refine sv 1 rfl rfl rfl (fun a u hE hD hk => exec_ldX X (.tmp 13) (gl) _ rfl (hE 13 (.pointer (some ⟨gl, 0, none⟩)) (by kernel_rfl) (by kernel_rfl)) (HX2.out.kept hk)) ?_
      exact fsteps_nil
    intro gv wa2 hV ka2
    rw [show dstsOf _ 1 = [30] by kernel_rfl]
    simp only [List.foldl_cons, List.foldl_nil, List.setIfInBounds_toArray, List.set_cons_succ, List.set_cons_zero, List.drop_succ_cons, List.drop_zero]
    rw [show gv 30 = X.v from hV 0 30 (by kernel_rfl)]
    clear hV
    refine l_call (o := ⟨some 31, _, _, _, _, _⟩) 11 #[X.v] rfl (exec_call 11 _ [.tmp 30] _ _ Try.func11 (by kernel_rfl) (by kernel_rfl) rfl (by kernel_rfl) _) ?_
    refine (rnew_ok HXB.out).mono ?_
    rintro e w3 ⟨q, rfl, hq, hQ3, k3⟩
    refine ⟨_, rfl, ?_⟩
    simp only [Act.put, List.setIfInBounds_toArray, List.set_cons_succ, List.set_cons_zero]
    refine l_val (o := ⟨some 29, _, _, _, _, _⟩) (.tuple #[.pointer (some ⟨q, 0, none⟩), .int .i64 (-1)]) rfl (exec_move (.tmp 31) (.tuple #[.pointer (some ⟨q, 0, none⟩), .int .i64 (-1)]) rfl (by kernel_rfl)) ?_
    simp only [Act.put, List.setIfInBounds_toArray, List.set_cons_succ, List.set_cons_zero]
    refine l_val (o := ⟨some 32, _, _, _, _, _⟩) (.pointer (some ⟨q, 0, none⟩)) rfl (exec_extract (.tmp 29) [.pointer (some ⟨q, 0, none⟩), .int .i64 (-1)] 0 (.pointer (some ⟨q, 0, none⟩)) rfl (by kernel_rfl) rfl) ?_
    simp only [Act.put, List.setIfInBounds_toArray, List.set_cons_succ, List.set_cons_zero]
    refine l_val (o := ⟨some 33, _, _, _, _, _⟩) (.int .i64 (-1)) rfl (exec_extract (.tmp 29) [.pointer (some ⟨q, 0, none⟩), .int .i64 (-1)] 1 (.int .i64 (-1)) rfl (by kernel_rfl) rfl) ?_
    simp only [Act.put, List.setIfInBounds_toArray, List.set_cons_succ, List.set_cons_zero]
    refine l_val (o := ⟨some 16, _, _, _, _, _⟩) (.pointer (some ⟨q, 0, none⟩)) rfl (exec_assign (.tmp 32) (.pointer (some ⟨q, 0, none⟩)) rfl (by kernel_rfl)) ?_
    simp only [Act.put, List.setIfInBounds_toArray, List.set_cons_succ, List.set_cons_zero]
    refine l_val (o := ⟨some 17, _, _, _, _, _⟩) (.int .i64 (-1)) rfl (exec_assign (.tmp 33) (.int .i64 (-1)) rfl (by kernel_rfl)) ?_
    simp only [Act.put, List.setIfInBounds_toArray, List.set_cons_succ, List.set_cons_zero]
    refine wpList_nil ?_
    have za2 := ka2.size
    have zq := hQ3.lt
    have HQ3 := Lib.hid hQ3
    have HP3 := Lib.hid ((HP2.out.kept ka2).kept k3)
    have HRw3 := Lib.hid (range_kept (range_kept (range_kept HRw1.out k12) ka2) k3)
    have zw1 := kw1'.size
    have kw3 := ((kw1'.trans k12).trans ka2).trans k3
    clear HX HX2 HRw1 HP2 hQ3 ka2 k3 k12 kw1'
    go_upto_region 4 with fail
    refine wp_free 17 [.eq (raw.v), .eq (.bool raw.right), .eq (raw.v), .eq (.bool raw.right), .eq (.bool false), .eq (.bool false), .eq (.int .i64 (-1)), .eq (.int .i64 (-1)), .eq (.bool false), .eq (.bool false), .eq (.bool false), .eq (.pointer (some ⟨p, 0, none⟩)), .eq (.bool false), .eq (.pointer (some ⟨q, 0, none⟩)), .eq (.bool false), .eq (.bool false), .eq (.bool false)] (by kernel_rfl) rfl (by kernel_rfl) ?_ ?_
    · refine sv 1 rfl rfl rfl (fun a u hE hD hk => exec_ldS 25 _ (.tmp 8) (g8) (0) (raw.cells) rfl (hE 8 (.pointer (some ⟨g8, 0, none⟩)) (by kernel_rfl) (by kernel_rfl)) (range_kept (HRw3.out) hk) Try.underlying25 (by rw [Trd.len37]; exact szT)) ?_
      refine fsteps_cons 2 rfl (fun a u hE hD hk => f_call (o := ⟨some 35, _, _, _, _, _⟩) 12 #[raw.v] rfl (wanted_none rfl _) (exec_call 12 _ [.tmp 34] _ [raw.v] Try.func12 (by kernel_rfl) (by kernel_rfl) rfl (show [a.eval (.tmp 34)] = [raw.v] from (by rw [show a.eval (.tmp 34) = raw.v from (hD 0 34 (by kernel_rfl))] <;> rfl)) u) (right_t raw u)) ?_
      refine sv 3 rfl rfl rfl (fun a u hE hD hk => exec_ldS 25 _ (.tmp 8) (g8) (0) (raw.cells) rfl (hE 8 (.pointer (some ⟨g8, 0, none⟩)) (by kernel_rfl) (by kernel_rfl)) (range_kept (HRw3.out) hk) Try.underlying25 (by rw [Trd.len37]; exact szT)) ?_
      refine fsteps_cons 4 rfl (fun a u hE hD hk => f_call (o := ⟨some 37, _, _, _, _, _⟩) 13 #[raw.v] rfl (wanted_none rfl _) (exec_call 13 _ [.tmp 36] _ [raw.v] Try.func13 (by kernel_rfl) (by kernel_rfl) rfl (show [a.eval (.tmp 36)] = [raw.v] from (by rw [show a.eval (.tmp 36) = raw.v from (hD 2 36 (by kernel_rfl))] <;> rfl)) u) (rright_t raw u)) ?_
      refine sv 5 rfl rfl rfl (fun a u hE hD hk => exec_neb (.tmp 35) (.tmp 37) _ raw.right raw.right false rfl (hD 1 35 (by kernel_rfl)) (hD 3 37 (by kernel_rfl)) (by simp)) ?_
      refine sv 6 rfl rfl rfl (fun a u hE hD hk => exec_move (.tmp 38) _ rfl (hD 4 38 (by kernel_rfl))) ?_
      refine fsteps_cons 7 rfl (fun a u hE hD hk => f_val (o := ⟨some 40, _, _, _, _, _⟩) (.int .i64 (-1)) rfl (wanted_at (b := false) false rfl rfl (hD 5 39 (by kernel_rfl))) (exec_move (.tmp 15) _ rfl (hE 15 (.int .i64 (-1)) (by kernel_rfl) (by kernel_rfl))) rfl) ?_
      refine fsteps_cons 8 rfl (fun a u hE hD hk => f_val (o := ⟨some 41, _, _, _, _, _⟩) (.int .i64 (-1)) rfl (wanted_at (b := false) false rfl rfl (hD 5 39 (by kernel_rfl))) (exec_move (.tmp 17) _ rfl (hE 17 (.int .i64 (-1)) (by kernel_rfl) (by kernel_rfl))) rfl) ?_
      refine fsteps_cons 9 rfl (fun a u hE hD hk => f_as (show ((decide (((-1) : Int) ≠ ((-1) : Int))) : Bool) = false from decide_eq_false (by simp)) (f_val (o := ⟨some 42, _, _, _, _, _⟩) (.bool (decide (((-1) : Int) ≠ ((-1) : Int)))) rfl (wanted_at (b := false) false rfl rfl (hD 5 39 (by kernel_rfl))) (exec_nen (p := (-1)) (q := (-1)) rfl (hD 6 40 (by kernel_rfl)) (hD 7 41 (by kernel_rfl))) rfl)) ?_
      refine sv 10 rfl rfl rfl (fun a u hE hD hk => exec_pickF (.tmp 39) (.const (.bool true)) (.tmp 42) (.bool false) rfl (hD 5 39 (by kernel_rfl)) (hD 8 42 (by kernel_rfl))) ?_
      refine sv 11 rfl rfl rfl (fun a u hE hD hk => exec_move (.tmp 43) _ rfl (hD 9 43 (by kernel_rfl))) ?_
      refine fsteps_cons 12 rfl (fun a u hE hD hk => f_val (o := ⟨some 45, _, _, _, _, _⟩) (.pointer (some ⟨p, 0, none⟩)) rfl (wanted_at (b := false) false rfl rfl (hD 10 44 (by kernel_rfl))) (exec_move (.tmp 14) _ rfl (hE 14 (.pointer (some ⟨p, 0, none⟩)) (by kernel_rfl) (by kernel_rfl))) rfl) ?_
      refine fsteps_cons 13 rfl (fun a u hE hD hk => f_val (o := ⟨some 46, _, _, _, _, _⟩) (.bool false) rfl (wanted_at (b := false) false rfl rfl (hD 10 44 (by kernel_rfl))) (exec_eqP (.tmp 45) _ _ ⟨p, 0, none⟩ (by kernel_rfl) rfl (hD 11 45 (by kernel_rfl))) rfl) ?_
      refine fsteps_cons 14 rfl (fun a u hE hD hk => f_val (o := ⟨some 47, _, _, _, _, _⟩) (.pointer (some ⟨q, 0, none⟩)) rfl (wanted_at (b := false) false rfl rfl (hD 10 44 (by kernel_rfl))) (exec_move (.tmp 16) _ rfl (hE 16 (.pointer (some ⟨q, 0, none⟩)) (by kernel_rfl) (by kernel_rfl))) rfl) ?_
      refine fsteps_cons 15 rfl (fun a u hE hD hk => f_val (o := ⟨some 48, _, _, _, _, _⟩) (.bool false) rfl (wanted_at (b := false) false rfl rfl (hD 10 44 (by kernel_rfl))) (exec_eqP (.tmp 47) _ _ ⟨q, 0, none⟩ (by kernel_rfl) rfl (hD 13 47 (by kernel_rfl))) rfl) ?_
      refine fsteps_cons 16 rfl (fun a u hE hD hk => f_val (o := ⟨some 49, _, _, _, _, _⟩) (.bool false) rfl (wanted_at (b := false) false rfl rfl (hD 10 44 (by kernel_rfl))) (exec_neb (.tmp 46) (.tmp 48) _ false false false rfl (hD 12 46 (by kernel_rfl)) (hD 14 48 (by kernel_rfl)) rfl) rfl) ?_
      refine sv 17 rfl rfl rfl (fun a u hE hD hk => exec_pickF (.tmp 44) (.const (.bool true)) (.tmp 49) (.bool false) rfl (hD 10 44 (by kernel_rfl)) (hD 15 49 (by kernel_rfl))) ?_
      exact fsteps_nil
    intro gv w4 hV kw4
    rw [show dstsOf _ 17 = [34, 35, 36, 37, 38, 39, 40, 41, 42, 43, 44, 45, 46, 47, 48, 49, 50] by kernel_rfl]
    simp only [List.foldl_cons, List.foldl_nil, List.setIfInBounds_toArray, List.set_cons_succ, List.set_cons_zero, List.drop_succ_cons, List.drop_zero]
    rw [show gv 50 = .bool false from hV 16 50 (by kernel_rfl)]
    clear hV
    refine wpList_nil ?_
    go_upto_region 6 with fail
    refine wp_text 2 [.eq (.pointer (some ⟨q, 0, none⟩)), .eq (.bool false)] rfl (by kernel_rfl) ?_ ?_
    · refine sv 1 rfl rfl rfl (fun a u hE hD hk => exec_move (.tmp 16) _ rfl (hE 16 (.pointer (some ⟨q, 0, none⟩)) (by kernel_rfl) (by kernel_rfl))) ?_
      refine sv 2 rfl rfl rfl (fun a u hE hD hk => exec_eqP (.tmp 51) _ _ ⟨q, 0, none⟩ (by kernel_rfl) rfl (hD 0 51 (by kernel_rfl))) ?_
      exact fsteps_nil
    intro gv w5 hV k5
    rw [show dstsOf _ 2 = [51, 52] by kernel_rfl]
    simp only [List.foldl_cons, List.foldl_nil, List.setIfInBounds_toArray, List.set_cons_succ, List.set_cons_zero, List.drop_succ_cons, List.drop_zero]
    rw [show gv 52 = .bool false from hV 1 52 (by kernel_rfl)]
    clear hV
    refine wpList_nil ?_
    have HP5 := Lib.hid ((HP3.out.kept kw4).kept k5)
    have HQ5 := Lib.hid ((HQ3.out.kept kw4).kept k5)
    have kw5 := (kw3.trans kw4).trans k5
    clear HP3 HQ3 HRw3 kw3 kw4 k5
    obtain ⟨Y, hY⟩ : ∃ Y, X.offM n off = Y := ⟨_, rfl⟩
    have HY := Lib.hid hY
    obtain ⟨b0, hb0⟩ : ∃ b, X.there n = b := ⟨_, rfl⟩
    have HB0 := Lib.hid hb0
    clear hY hb0
    go_upto_region 8 with fail
    refine wp_region_lit ?_
    refine l_val (o := ⟨some 54, _, _, _, _, _⟩) (.pointer (some ⟨p, 0, none⟩)) rfl (exec_move (.tmp 14) (.pointer (some ⟨p, 0, none⟩)) rfl (by kernel_rfl)) ?_
    simp only [Act.put, List.setIfInBounds_toArray, List.set_cons_succ, List.set_cons_zero]
    refine l_val (o := ⟨some 55, _, _, _, _, _⟩) (.int .i64 n) rfl (exec_move (.tmp 3) (.int .i64 n) rfl (by kernel_rfl)) ?_
    simp only [Act.put, List.setIfInBounds_toArray, List.set_cons_succ, List.set_cons_zero]
    refine l_val (o := ⟨some 56, _, _, _, _, _⟩) (.bool off) rfl (exec_move (.tmp 5) (.bool off) rfl (by kernel_rfl)) ?_
    simp only [Act.put, List.setIfInBounds_toArray, List.set_cons_succ, List.set_cons_zero]
    refine l_call (o := ⟨some 57, _, _, _, _, _⟩) 14 #[.pointer (some ⟨p, 0, none⟩), .int .i64 n, .bool off] rfl (exec_call 14 _ [.tmp 54, .tmp 55, .tmp 56] _ _ Try.func14 (by kernel_rfl) (by kernel_rfl) rfl (by kernel_rfl) _) ?_
    refine (off_any w5 p X n off HP5.out).mono ?_
    rw [HB0.out, HY.out]
    rintro e w6 ⟨rfl, hP6, k6⟩
    refine ⟨_, rfl, ?_⟩
    simp only [Act.put, List.setIfInBounds_toArray, List.set_cons_succ, List.set_cons_zero]
    refine l_val (o := ⟨some 58, _, _, _, _, _⟩) (.pointer (some ⟨q, 0, none⟩)) rfl (exec_move (.tmp 16) (.pointer (some ⟨q, 0, none⟩)) rfl (by kernel_rfl)) ?_
    simp only [Act.put, List.setIfInBounds_toArray, List.set_cons_succ, List.set_cons_zero]
    refine l_val (o := ⟨some 59, _, _, _, _, _⟩) (.int .i64 n) rfl (exec_move (.tmp 3) (.int .i64 n) rfl (by kernel_rfl)) ?_
    simp only [Act.put, List.setIfInBounds_toArray, List.set_cons_succ, List.set_cons_zero]
    refine l_val (o := ⟨some 60, _, _, _, _, _⟩) (.bool off) rfl (exec_move (.tmp 5) (.bool off) rfl (by kernel_rfl)) ?_
    simp only [Act.put, List.setIfInBounds_toArray, List.set_cons_succ, List.set_cons_zero]
    refine l_call (o := ⟨some 61, _, _, _, _, _⟩) 15 #[.pointer (some ⟨q, 0, none⟩), .int .i64 n, .bool off] rfl (exec_call 15 _ [.tmp 58, .tmp 59, .tmp 60] _ _ Try.func15 (by kernel_rfl) (by kernel_rfl) rfl (by kernel_rfl) _) ?_
    refine (roff_any w6 q X n off (HQ5.out.keep k6 (by omega))).mono ?_
    rw [HB0.out, HY.out]
    rintro e w7 ⟨rfl, hQ7, k7⟩
    refine ⟨_, rfl, ?_⟩
    simp only [Act.put, List.setIfInBounds_toArray, List.set_cons_succ, List.set_cons_zero]
    refine l_val (o := ⟨some 62, _, _, _, _, _⟩) (.bool false) rfl (exec_neb (.tmp 57) (.tmp 61) _ b0 b0 false rfl (by kernel_rfl) (by kernel_rfl) (by simp)) ?_
    simp only [Act.put, List.setIfInBounds_toArray, List.set_cons_succ, List.set_cons_zero]
    refine wpList_nil ?_
    have HP7 := Lib.hid (hP6.keep k7 (by omega))
    have HQ7 := Lib.hid hQ7
    have kw7 : Kept w w7 := (kw5.trans' k6 (by omega)).trans' k7 (by omega)
    clear hP6 hQ7 k6 k7 HP5 HQ5 kw5 HB0 HY
    go_wp2_with fail
    go_loopw [18] (fun t wr => ∃ z : Int, t = .int .i64 z ∧ -1 ≤ z ∧ z ≤ 33 ∧ Kept w7 wr) (fun t _ => (33 - intOf t).toNat)
    case atStart => exact ⟨-1, rfl, by omega, by omega, Kept.refl _⟩
    case round =>
      obtain ⟨z, rfl, hz0, hz1, hkr⟩ := hrel
      by_cases hz : z ≤ 32
      · obtain ⟨V, hV⟩ : ∃ V : Nat, Y.setB z s = V := ⟨_, rfl⟩
        have HV := Lib.hid hV
        clear hV
        go_upto_region 13 with fail
        refine wp_region_lit ?_
        refine l_val (o := ⟨some 67, _, _, _, _, _⟩) (zeroT.v) rfl (exec_build 25 [] zeroT.cells rfl (by kernel_rfl)) ?_
        simp only [Act.put, List.setIfInBounds_toArray, List.set_cons_succ, List.set_cons_zero]
        refine l_new (o := ⟨some 19, _, _, _, _, _⟩) (.pointer (some ⟨wr.heap.size, 0, none⟩)) (wr.alloc (.cells zeroT.cells.toArray 25)) rfl (exec_alc 25 zeroT.cells rfl zT) ?_
        have hNa := Blk.new wr 25 zeroT.cells
        have kb : Kept wr (wr.alloc (.cells zeroT.cells.toArray 25)) := (Keep.refl _ wr).alloc _
        generalize wr.alloc (.cells zeroT.cells.toArray 25) = wb at hNa kb ⊢
        simp only [Act.put, List.setIfInBounds_toArray, List.set_cons_succ, List.set_cons_zero]
        refine l_setS (o := ⟨none, _, _, _, _, _⟩) 25 wr.heap.size 25 zeroT.cells zeroT.cells (.tmp 19) (.tmp 67) rfl rfl (by kernel_rfl) (by kernel_rfl) hNa (by rw [Trd.len37]; exact szT) (by rw [Trd.len37]) (Trd.one _) ?_
        intro wc hC hkc hsc
        simp only [Act.put]
        refine wpList_nil ?_
        obtain ⟨gt, hgt⟩ : ∃ a, wr.heap.size = a := ⟨_, rfl⟩
        rw [hgt] at hNa hC hkc ⊢
        have HTc := Lib.hid hC
        have kwc : Kept wr wc := kb.trans' hkc (by omega)
        have HPc := Lib.hid ((HP7.out.kept hkr).kept kwc)
        have HQc := Lib.hid ((HQ7.out.kept hkr).kept kwc)
        clear hNa hC hkc hsc kb
        obtain ⟨b, hb⟩ : ∃ b, Y.there z = b := ⟨_, rfl⟩
        have HB := Lib.hid hb
        clear hb
        go_upto_region 14 with fail
        refine wp_text 3 [.eq (.pointer (some ⟨q, 0, none⟩)), .eq (.int .i64 z), .eq (.bool b)] rfl (by kernel_rfl) ?_ ?_
        · refine sv 1 rfl rfl rfl (fun a u hE hD hk => exec_move (.tmp 16) _ rfl (hE 16 (.pointer (some ⟨q, 0, none⟩)) (by kernel_rfl) (by kernel_rfl))) ?_
          refine sv 2 rfl rfl rfl (fun a u hE hD hk => exec_move (.tmp 18) _ rfl (hE 18 (.int .i64 z) (by kernel_rfl) (by kernel_rfl))) ?_
          refine fsteps_cons 3 rfl (fun a u hE hD hk => f_call (o := ⟨some 70, _, _, _, _, _⟩) 16 #[.pointer (some ⟨q, 0, none⟩), .int .i64 z] rfl (wanted_none rfl _) (exec_call 16 _ [.tmp 68, .tmp 69] _ [.pointer (some ⟨q, 0, none⟩), .int .i64 z] Try.func16 (by kernel_rfl) (by kernel_rfl) rfl (show [a.eval (.tmp 68), a.eval (.tmp 69)] = [.pointer (some ⟨q, 0, none⟩), .int .i64 z] from (by rw [show a.eval (.tmp 68) = .pointer (some ⟨q, 0, none⟩) from (hD 0 68 (by kernel_rfl)), show a.eval (.tmp 69) = .int .i64 z from (hD 1 69 (by kernel_rfl))] <;> rfl)) u) (rthere_is (HQc.out.kept hk) HB.out)) ?_
          exact fsteps_nil
        intro gv wd hV kd
        rw [show dstsOf _ 3 = [68, 69, 70] by kernel_rfl]
        simp only [List.foldl_cons, List.foldl_nil, List.setIfInBounds_toArray, List.set_cons_succ, List.set_cons_zero, List.drop_succ_cons, List.drop_zero]
        rw [show gv 70 = .bool b from hV 2 70 (by kernel_rfl)]
        clear hV
        refine wpList_nil ?_
        cases b with
        | false =>
          obtain ⟨t, ht⟩ : ∃ t, zeroT = t := ⟨_, rfl⟩
          have HG : Hid (Y.get z = t) := by show _ = _; rw [get_out HB.out, ht]
          rw [ht] at HTc
          have HTe := Lib.hid (blk_range (HTc.out.kept kd))
          have HPe := Lib.hid (HPc.out.kept kd)
          have HQe := Lib.hid (HQc.out.kept kd)
          have kwe := kwc.trans kd
          clear HTc HPc HQc kwc kd ht
          revert kwe HTe HPe HQe
          generalize wd = we
          intro HTe HPe HQe kwe
          go_upto_region 16 with fail
          refine wp_free 25 [.eq (.pointer (some ⟨p, 0, none⟩)), .eq (.int .i64 z), .eq (.bool false), .eq (.pointer (some ⟨q, 0, none⟩)), .eq (.int .i64 z), .eq (.bool false), .eq (.bool false), .eq (.bool false), .eq (.pointer (some ⟨p, 0, none⟩)), .eq (.int .i64 z), .eq (t.v), .eq (t.v), .eq (.bool false), .eq (.bool false), .eq (.bool false), .eq (.pointer (some ⟨p, 0, none⟩)), .eq (.int .i64 z), .eq (.int .i64 s), .eq (.int .u64 (V : Int)), .eq (.pointer (some ⟨q, 0, none⟩)), .eq (.int .i64 z), .eq (.int .i64 s), .eq (.int .u64 (V : Int)), .eq (.bool false), .eq (.bool false)] (by kernel_rfl) rfl (by kernel_rfl) ?_ ?_
          · refine sv 1 rfl rfl rfl (fun a u hE hD hk => exec_move (.tmp 14) _ rfl (hE 14 (.pointer (some ⟨p, 0, none⟩)) (by kernel_rfl) (by kernel_rfl))) ?_
            refine sv 2 rfl rfl rfl (fun a u hE hD hk => exec_move (.tmp 18) _ rfl (hE 18 (.int .i64 z) (by kernel_rfl) (by kernel_rfl))) ?_
            refine fsteps_cons 3 rfl (fun a u hE hD hk => f_call (o := ⟨some 79, _, _, _, _, _⟩) 17 #[.pointer (some ⟨p, 0, none⟩), .int .i64 z] rfl (wanted_none rfl _) (exec_call 17 _ [.tmp 77, .tmp 78] _ [.pointer (some ⟨p, 0, none⟩), .int .i64 z] Try.func17 (by kernel_rfl) (by kernel_rfl) rfl (show [a.eval (.tmp 77), a.eval (.tmp 78)] = [.pointer (some ⟨p, 0, none⟩), .int .i64 z] from (by rw [show a.eval (.tmp 77) = .pointer (some ⟨p, 0, none⟩) from (hD 0 77 (by kernel_rfl)), show a.eval (.tmp 78) = .int .i64 z from (hD 1 78 (by kernel_rfl))] <;> rfl)) u) (there_is (HPe.out.kept hk) HB.out)) ?_
            refine sv 4 rfl rfl rfl (fun a u hE hD hk => exec_move (.tmp 16) _ rfl (hE 16 (.pointer (some ⟨q, 0, none⟩)) (by kernel_rfl) (by kernel_rfl))) ?_
            refine sv 5 rfl rfl rfl (fun a u hE hD hk => exec_move (.tmp 18) _ rfl (hE 18 (.int .i64 z) (by kernel_rfl) (by kernel_rfl))) ?_
            refine fsteps_cons 6 rfl (fun a u hE hD hk => f_call (o := ⟨some 82, _, _, _, _, _⟩) 16 #[.pointer (some ⟨q, 0, none⟩), .int .i64 z] rfl (wanted_none rfl _) (exec_call 16 _ [.tmp 80, .tmp 81] _ [.pointer (some ⟨q, 0, none⟩), .int .i64 z] Try.func16 (by kernel_rfl) (by kernel_rfl) rfl (show [a.eval (.tmp 80), a.eval (.tmp 81)] = [.pointer (some ⟨q, 0, none⟩), .int .i64 z] from (by rw [show a.eval (.tmp 80) = .pointer (some ⟨q, 0, none⟩) from (hD 3 80 (by kernel_rfl)), show a.eval (.tmp 81) = .int .i64 z from (hD 4 81 (by kernel_rfl))] <;> rfl)) u) (rthere_is (HQe.out.kept hk) HB.out)) ?_
            refine sv 7 rfl rfl rfl (fun a u hE hD hk => exec_neb (.tmp 79) (.tmp 82) _ false false false rfl (hD 2 79 (by kernel_rfl)) (hD 5 82 (by kernel_rfl)) (by simp)) ?_
            refine sv 8 rfl rfl rfl (fun a u hE hD hk => exec_move (.tmp 83) _ rfl (hD 6 83 (by kernel_rfl))) ?_
            refine fsteps_cons 9 rfl (fun a u hE hD hk => f_val (o := ⟨some 85, _, _, _, _, _⟩) (.pointer (some ⟨p, 0, none⟩)) rfl (wanted_at (b := false) false rfl rfl (hD 7 84 (by kernel_rfl))) (exec_move (.tmp 14) _ rfl (hE 14 (.pointer (some ⟨p, 0, none⟩)) (by kernel_rfl) (by kernel_rfl))) rfl) ?_
            refine fsteps_cons 10 rfl (fun a u hE hD hk => f_val (o := ⟨some 86, _, _, _, _, _⟩) (.int .i64 z) rfl (wanted_at (b := false) false rfl rfl (hD 7 84 (by kernel_rfl))) (exec_move (.tmp 18) _ rfl (hE 18 (.int .i64 z) (by kernel_rfl) (by kernel_rfl))) rfl) ?_
            refine fsteps_cons 11 rfl (fun a u hE hD hk => f_call (o := ⟨some 87, _, _, _, _, _⟩) 18 #[.pointer (some ⟨p, 0, none⟩), .int .i64 z] rfl (wanted_at (b := false) false rfl rfl (hD 7 84 (by kernel_rfl))) (exec_call 18 _ [.tmp 85, .tmp 86] _ [.pointer (some ⟨p, 0, none⟩), .int .i64 z] Try.func18 (by kernel_rfl) (by kernel_rfl) rfl (show [a.eval (.tmp 85), a.eval (.tmp 86)] = [.pointer (some ⟨p, 0, none⟩), .int .i64 z] from (by rw [show a.eval (.tmp 85) = .pointer (some ⟨p, 0, none⟩) from (hD 8 85 (by kernel_rfl)), show a.eval (.tmp 86) = .int .i64 z from (hD 9 86 (by kernel_rfl))] <;> rfl)) u) (get_is (HPe.out.kept hk) HG.out)) ?_
            refine fsteps_cons 12 rfl (fun a u hE hD hk => f_val (o := ⟨some 88, _, _, _, _, _⟩) (t.v) rfl (wanted_at (b := false) false rfl rfl (hD 7 84 (by kernel_rfl))) (exec_ldS 25 _ (.tmp 19) (gt) (0) (t.cells) rfl (hE 19 (.pointer (some ⟨gt, 0, none⟩)) (by kernel_rfl) (by kernel_rfl)) (range_kept (HTe.out) hk) Try.underlying25 (by rw [Trd.len37]; exact szT)) rfl) ?_
            refine fsteps_cons 13 rfl (fun a u hE hD hk => f_val (o := ⟨some 89, _, _, _, _, _⟩) (.bool false) rfl (wanted_at (b := false) false rfl rfl (hD 7 84 (by kernel_rfl))) (exec_neTrd (.tmp 87) (.tmp 88) _ t t false rfl (hD 10 87 (by kernel_rfl)) (hD 11 88 (by kernel_rfl)) (decide_eq_false (by simp))) rfl) ?_
            refine sv 14 rfl rfl rfl (fun a u hE hD hk => exec_pickF (.tmp 84) (.const (.bool true)) (.tmp 89) (.bool false) rfl (hD 7 84 (by kernel_rfl)) (hD 12 89 (by kernel_rfl))) ?_
            refine sv 15 rfl rfl rfl (fun a u hE hD hk => exec_move (.tmp 90) _ rfl (hD 13 90 (by kernel_rfl))) ?_
            refine fsteps_cons 16 rfl (fun a u hE hD hk => f_val (o := ⟨some 92, _, _, _, _, _⟩) (.pointer (some ⟨p, 0, none⟩)) rfl (wanted_at (b := false) false rfl rfl (hD 14 91 (by kernel_rfl))) (exec_move (.tmp 14) _ rfl (hE 14 (.pointer (some ⟨p, 0, none⟩)) (by kernel_rfl) (by kernel_rfl))) rfl) ?_
            refine fsteps_cons 17 rfl (fun a u hE hD hk => f_val (o := ⟨some 93, _, _, _, _, _⟩) (.int .i64 z) rfl (wanted_at (b := false) false rfl rfl (hD 14 91 (by kernel_rfl))) (exec_move (.tmp 18) _ rfl (hE 18 (.int .i64 z) (by kernel_rfl) (by kernel_rfl))) rfl) ?_
            refine fsteps_cons 18 rfl (fun a u hE hD hk => f_val (o := ⟨some 94, _, _, _, _, _⟩) (.int .i64 s) rfl (wanted_at (b := false) false rfl rfl (hD 14 91 (by kernel_rfl))) (exec_move (.tmp 4) _ rfl (hE 4 (.int .i64 s) (by kernel_rfl) (by kernel_rfl))) rfl) ?_
            refine fsteps_cons 19 rfl (fun a u hE hD hk => f_call (o := ⟨some 95, _, _, _, _, _⟩) 9 #[.pointer (some ⟨p, 0, none⟩), .int .i64 z, .int .i64 s] rfl (wanted_at (b := false) false rfl rfl (hD 14 91 (by kernel_rfl))) (exec_call 9 _ [.tmp 92, .tmp 93, .tmp 94] _ [.pointer (some ⟨p, 0, none⟩), .int .i64 z, .int .i64 s] Try.func9 (by kernel_rfl) (by kernel_rfl) rfl (show [a.eval (.tmp 92), a.eval (.tmp 93), a.eval (.tmp 94)] = [.pointer (some ⟨p, 0, none⟩), .int .i64 z, .int .i64 s] from (by rw [show a.eval (.tmp 92) = .pointer (some ⟨p, 0, none⟩) from (hD 15 92 (by kernel_rfl)), show a.eval (.tmp 93) = .int .i64 z from (hD 16 93 (by kernel_rfl)), show a.eval (.tmp 94) = .int .i64 s from (hD 17 94 (by kernel_rfl))] <;> rfl)) u) (set_is (HPe.out.kept hk) HV.out)) ?_
            refine fsteps_cons 20 rfl (fun a u hE hD hk => f_val (o := ⟨some 96, _, _, _, _, _⟩) (.pointer (some ⟨q, 0, none⟩)) rfl (wanted_at (b := false) false rfl rfl (hD 14 91 (by kernel_rfl))) (exec_move (.tmp 16) _ rfl (hE 16 (.pointer (some ⟨q, 0, none⟩)) (by kernel_rfl) (by kernel_rfl))) rfl) ?_
            refine fsteps_cons 21 rfl (fun a u hE hD hk => f_val (o := ⟨some 97, _, _, _, _, _⟩) (.int .i64 z) rfl (wanted_at (b := false) false rfl rfl (hD 14 91 (by kernel_rfl))) (exec_move (.tmp 18) _ rfl (hE 18 (.int .i64 z) (by kernel_rfl) (by kernel_rfl))) rfl) ?_
            refine fsteps_cons 22 rfl (fun a u hE hD hk => f_val (o := ⟨some 98, _, _, _, _, _⟩) (.int .i64 s) rfl (wanted_at (b := false) false rfl rfl (hD 14 91 (by kernel_rfl))) (exec_move (.tmp 4) _ rfl (hE 4 (.int .i64 s) (by kernel_rfl) (by kernel_rfl))) rfl) ?_
            refine fsteps_cons 23 rfl (fun a u hE hD hk => f_call (o := ⟨some 99, _, _, _, _, _⟩) 19 #[.pointer (some ⟨q, 0, none⟩), .int .i64 z, .int .i64 s] rfl (wanted_at (b := false) false rfl rfl (hD 14 91 (by kernel_rfl))) (exec_call 19 _ [.tmp 96, .tmp 97, .tmp 98] _ [.pointer (some ⟨q, 0, none⟩), .int .i64 z, .int .i64 s] Try.func19 (by kernel_rfl) (by kernel_rfl) rfl (show [a.eval (.tmp 96), a.eval (.tmp 97), a.eval (.tmp 98)] = [.pointer (some ⟨q, 0, none⟩), .int .i64 z, .int .i64 s] from (by rw [show a.eval (.tmp 96) = .pointer (some ⟨q, 0, none⟩) from (hD 19 96 (by kernel_rfl)), show a.eval (.tmp 97) = .int .i64 z from (hD 20 97 (by kernel_rfl)), show a.eval (.tmp 98) = .int .i64 s from (hD 21 98 (by kernel_rfl))] <;> rfl)) u) (rset_v (HQe.out.kept hk) HV.out)) ?_
            refine fsteps_cons 24 rfl (fun a u hE hD hk => f_val (o := ⟨some 100, _, _, _, _, _⟩) (.bool false) rfl (wanted_at (b := false) false rfl rfl (hD 14 91 (by kernel_rfl))) (exec_as (decide_eq_false (by simp)) (exec_nenU (.tmp 95) (.tmp 99) _ _ (V : Int) (V : Int) rfl (hD 18 95 (by kernel_rfl)) (hD 22 99 (by kernel_rfl)))) rfl) ?_
            refine sv 25 rfl rfl rfl (fun a u hE hD hk => exec_pickF (.tmp 91) (.const (.bool true)) (.tmp 100) (.bool false) rfl (hD 14 91 (by kernel_rfl)) (hD 23 100 (by kernel_rfl))) ?_
            exact fsteps_nil
          intro gv wf hV kf
          rw [show dstsOf _ 25 = [77, 78, 79, 80, 81, 82, 83, 84, 85, 86, 87, 88, 89, 90, 91, 92, 93, 94, 95, 96, 97, 98, 99, 100, 101] by kernel_rfl]
          simp only [List.foldl_cons, List.foldl_nil, List.setIfInBounds_toArray, List.set_cons_succ, List.set_cons_zero, List.drop_succ_cons, List.drop_zero]
          rw [show gv 101 = .bool false from hV 24 101 (by kernel_rfl)]
          clear hV
          refine wpList_nil ?_
          have kwf := (hkr.trans kwe).trans kf
          clear HTe HPe HQe kf kwe hkr
          go_wp2
          exact ⟨⟨z + 1, rfl, by omega, by omega, kwf⟩, by simp [intOf]; omega⟩
        | true =>
          obtain ⟨j, hj, rfl⟩ := there_lt HB.out
          have HG0 := Lib.hid (get_in HB.out)
          obtain ⟨t, ht⟩ : ∃ t, Y.at_ j = t := ⟨_, rfl⟩
          have HG : Hid (Y.get (j : Int) = t) := by show _ = _; rw [HG0.out, ht]
          have HAT := Lib.hid ht
          have HPd := Lib.hid (HPc.out.kept kd)
          have HQd := Lib.hid (HQc.out.kept kd)
          have HTd := Lib.hid (HTc.out.kept kd)
          have kwd := kwc.trans kd
          clear HTc HPc HQc kwc kd ht HG0
          go_upto_region 15 with fail
          refine wp_text 6 [.eq (.pointer (some ⟨q, 0, none⟩)), .eq (.int .i64 (j : Int)), .eq (.pointer (some ⟨q, 0, none⟩)), .eq (.pointer (some ⟨q, 0, none⟩)), .eq (.pointer (some ⟨q, j * 37, none⟩)), .eq (t.v)] rfl (by kernel_rfl) ?_ ?_
          · refine sv 1 rfl rfl rfl (fun a u hE hD hk => exec_move (.tmp 16) _ rfl (hE 16 (.pointer (some ⟨q, 0, none⟩)) (by kernel_rfl) (by kernel_rfl))) ?_
            refine sv 2 rfl rfl rfl (fun a u hE hD hk => exec_move (.tmp 18) _ rfl (hE 18 (.int .i64 (j : Int)) (by kernel_rfl) (by kernel_rfl))) ?_
            refine sv 3 rfl rfl rfl (fun a u hE hD hk => exec_nilp (.tmp 71) ⟨q, 0, none⟩ rfl (hD 0 71 (by kernel_rfl))) ?_
            refine sv 4 rfl rfl rfl (fun a u hE hD hk => exec_fldo 42 0 0 (.tmp 73) (q) (0) (0) rfl (hD 2 73 (by kernel_rfl)) (by kernel_rfl) rfl) ?_
            refine sv 5 rfl rfl rfl (fun a u hE hD hk => exec_ixA (.tmp 74) (.tmp 72) (q) j ((j : Int)) rfl (hD 3 74 (by kernel_rfl)) (hD 1 72 (by kernel_rfl)) (by first | rfl | omega) (hj)) ?_
            refine sv 6 rfl rfl rfl (fun a u hE hD hk => exec_ldS 25 _ (.tmp 75) (q) (j * 37) (t.cells) rfl (hD 4 75 (by kernel_rfl)) (range_kept ((by rw [← HAT.out]; exact trds_range HQd.out hj)) hk) Try.underlying25 (by rw [Trd.len37]; exact szT)) ?_
            exact fsteps_nil
          intro gv wx hV kx
          rw [show dstsOf _ 6 = [71, 72, 73, 74, 75, 76] by kernel_rfl]
          simp only [List.foldl_cons, List.foldl_nil, List.setIfInBounds_toArray, List.set_cons_succ, List.set_cons_zero, List.drop_succ_cons, List.drop_zero]
          rw [show gv 76 = t.v from hV 5 76 (by kernel_rfl)]
          clear hV
          refine l_setS (o := ⟨none, _, _, _, _, _⟩) 25 gt 25 zeroT.cells t.cells (.tmp 19) (.tmp 76) rfl rfl (by kernel_rfl) (by kernel_rfl) (HTd.out.kept kx) (by rw [Trd.len37]; exact szT) (by rw [Trd.len37, Trd.len37]) (Trd.one _) ?_
          intro we hTe hke hse
          simp only [Act.put]
          refine wpList_nil ?_
          have HTe := Lib.hid (blk_range hTe)
          have zr := hkr.size
          have zp7 := HP7.out.lt
          have zq7 := HQ7.out.lt
          have HPe := Lib.hid ((HPd.out.kept kx).keep hke (by omega))
          have HQe := Lib.hid ((HQd.out.kept kx).keep hke (by omega))
          have kwe : Kept wr we := (kwd.trans kx).trans' hke (by omega)
          clear HTd HPd HQd kwd kx hTe hke hse HAT
          obtain ⟨z, hz⟩ : ∃ z : Int, (j : Int) = z := ⟨_, rfl⟩
          rw [hz] at HB HG HV ⊢
          go_upto_region 16 with fail
          refine wp_free 25 [.eq (.pointer (some ⟨p, 0, none⟩)), .eq (.int .i64 z), .eq (.bool true), .eq (.pointer (some ⟨q, 0, none⟩)), .eq (.int .i64 z), .eq (.bool true), .eq (.bool false), .eq (.bool false), .eq (.pointer (some ⟨p, 0, none⟩)), .eq (.int .i64 z), .eq (t.v), .eq (t.v), .eq (.bool false), .eq (.bool false), .eq (.bool false), .eq (.pointer (some ⟨p, 0, none⟩)), .eq (.int .i64 z), .eq (.int .i64 s), .eq (.int .u64 (V : Int)), .eq (.pointer (some ⟨q, 0, none⟩)), .eq (.int .i64 z), .eq (.int .i64 s), .eq (.int .u64 (V : Int)), .eq (.bool false), .eq (.bool false)] (by kernel_rfl) rfl (by kernel_rfl) ?_ ?_
          · refine sv 1 rfl rfl rfl (fun a u hE hD hk => exec_move (.tmp 14) _ rfl (hE 14 (.pointer (some ⟨p, 0, none⟩)) (by kernel_rfl) (by kernel_rfl))) ?_
            refine sv 2 rfl rfl rfl (fun a u hE hD hk => exec_move (.tmp 18) _ rfl (hE 18 (.int .i64 z) (by kernel_rfl) (by kernel_rfl))) ?_
            refine fsteps_cons 3 rfl (fun a u hE hD hk => f_call (o := ⟨some 79, _, _, _, _, _⟩) 17 #[.pointer (some ⟨p, 0, none⟩), .int .i64 z] rfl (wanted_none rfl _) (exec_call 17 _ [.tmp 77, .tmp 78] _ [.pointer (some ⟨p, 0, none⟩), .int .i64 z] Try.func17 (by kernel_rfl) (by kernel_rfl) rfl (show [a.eval (.tmp 77), a.eval (.tmp 78)] = [.pointer (some ⟨p, 0, none⟩), .int .i64 z] from (by rw [show a.eval (.tmp 77) = .pointer (some ⟨p, 0, none⟩) from (hD 0 77 (by kernel_rfl)), show a.eval (.tmp 78) = .int .i64 z from (hD 1 78 (by kernel_rfl))] <;> rfl)) u) (there_is (HPe.out.kept hk) HB.out)) ?_
            refine sv 4 rfl rfl rfl (fun a u hE hD hk => exec_move (.tmp 16) _ rfl (hE 16 (.pointer (some ⟨q, 0, none⟩)) (by kernel_rfl) (by kernel_rfl))) ?_
            refine sv 5 rfl rfl rfl (fun a u hE hD hk => exec_move (.tmp 18) _ rfl (hE 18 (.int .i64 z) (by kernel_rfl) (by kernel_rfl))) ?_
            refine fsteps_cons 6 rfl (fun a u hE hD hk => f_call (o := ⟨some 82, _, _, _, _, _⟩) 16 #[.pointer (some ⟨q, 0, none⟩), .int .i64 z] rfl (wanted_none rfl _) (exec_call 16 _ [.tmp 80, .tmp 81] _ [.pointer (some ⟨q, 0, none⟩), .int .i64 z] Try.func16 (by kernel_rfl) (by kernel_rfl) rfl (show [a.eval (.tmp 80), a.eval (.tmp 81)] = [.pointer (some ⟨q, 0, none⟩), .int .i64 z] from (by rw [show a.eval (.tmp 80) = .pointer (some ⟨q, 0, none⟩) from (hD 3 80 (by kernel_rfl)), show a.eval (.tmp 81) = .int .i64 z from (hD 4 81 (by kernel_rfl))] <;> rfl)) u) (rthere_is (HQe.out.kept hk) HB.out)) ?_
            refine sv 7 rfl rfl rfl (fun a u hE hD hk => exec_neb (.tmp 79) (.tmp 82) _ true true false rfl (hD 2 79 (by kernel_rfl)) (hD 5 82 (by kernel_rfl)) (by simp)) ?_
            refine sv 8 rfl rfl rfl (fun a u hE hD hk => exec_move (.tmp 83) _ rfl (hD 6 83 (by kernel_rfl))) ?_
            refine fsteps_cons 9 rfl (fun a u hE hD hk => f_val (o := ⟨some 85, _, _, _, _, _⟩) (.pointer (some ⟨p, 0, none⟩)) rfl (wanted_at (b := false) false rfl rfl (hD 7 84 (by kernel_rfl))) (exec_move (.tmp 14) _ rfl (hE 14 (.pointer (some ⟨p, 0, none⟩)) (by kernel_rfl) (by kernel_rfl))) rfl) ?_
            refine fsteps_cons 10 rfl (fun a u hE hD hk => f_val (o := ⟨some 86, _, _, _, _, _⟩) (.int .i64 z) rfl (wanted_at (b := false) false rfl rfl (hD 7 84 (by kernel_rfl))) (exec_move (.tmp 18) _ rfl (hE 18 (.int .i64 z) (by kernel_rfl) (by kernel_rfl))) rfl) ?_
            refine fsteps_cons 11 rfl (fun a u hE hD hk => f_call (o := ⟨some 87, _, _, _, _, _⟩) 18 #[.pointer (some ⟨p, 0, none⟩), .int .i64 z] rfl (wanted_at (b := false) false rfl rfl (hD 7 84 (by kernel_rfl))) (exec_call 18 _ [.tmp 85, .tmp 86] _ [.pointer (some ⟨p, 0, none⟩), .int .i64 z] Try.func18 (by kernel_rfl) (by kernel_rfl) rfl (show [a.eval (.tmp 85), a.eval (.tmp 86)] = [.pointer (some ⟨p, 0, none⟩), .int .i64 z] from (by rw [show a.eval (.tmp 85) = .pointer (some ⟨p, 0, none⟩) from (hD 8 85 (by kernel_rfl)), show a.eval (.tmp 86) = .int .i64 z from (hD 9 86 (by kernel_rfl))] <;> rfl)) u) (get_is (HPe.out.kept hk) HG.out)) ?_
            refine fsteps_cons 12 rfl (fun a u hE hD hk => f_val (o := ⟨some 88, _, _, _, _, _⟩) (t.v) rfl (wanted_at (b := false) false rfl rfl (hD 7 84 (by kernel_rfl))) (exec_ldS 25 _ (.tmp 19) (gt) (0) (t.cells) rfl (hE 19 (.pointer (some ⟨gt, 0, none⟩)) (by kernel_rfl) (by kernel_rfl)) (range_kept (HTe.out) hk) Try.underlying25 (by rw [Trd.len37]; exact szT)) rfl) ?_
            refine fsteps_cons 13 rfl (fun a u hE hD hk => f_val (o := ⟨some 89, _, _, _, _, _⟩) (.bool false) rfl (wanted_at (b := false) false rfl rfl (hD 7 84 (by kernel_rfl))) (exec_neTrd (.tmp 87) (.tmp 88) _ t t false rfl (hD 10 87 (by kernel_rfl)) (hD 11 88 (by kernel_rfl)) (decide_eq_false (by simp))) rfl) ?_
            refine sv 14 rfl rfl rfl (fun a u hE hD hk => exec_pickF (.tmp 84) (.const (.bool true)) (.tmp 89) (.bool false) rfl (hD 7 84 (by kernel_rfl)) (hD 12 89 (by kernel_rfl))) ?_
            refine sv 15 rfl rfl rfl (fun a u hE hD hk => exec_move (.tmp 90) _ rfl (hD 13 90 (by kernel_rfl))) ?_
            refine fsteps_cons 16 rfl (fun a u hE hD hk => f_val (o := ⟨some 92, _, _, _, _, _⟩) (.pointer (some ⟨p, 0, none⟩)) rfl (wanted_at (b := false) false rfl rfl (hD 14 91 (by kernel_rfl))) (exec_move (.tmp 14) _ rfl (hE 14 (.pointer (some ⟨p, 0, none⟩)) (by kernel_rfl) (by kernel_rfl))) rfl) ?_
            refine fsteps_cons 17 rfl (fun a u hE hD hk => f_val (o := ⟨some 93, _, _, _, _, _⟩) (.int .i64 z) rfl (wanted_at (b := false) false rfl rfl (hD 14 91 (by kernel_rfl))) (exec_move (.tmp 18) _ rfl (hE 18 (.int .i64 z) (by kernel_rfl) (by kernel_rfl))) rfl) ?_
            refine fsteps_cons 18 rfl (fun a u hE hD hk => f_val (o := ⟨some 94, _, _, _, _, _⟩) (.int .i64 s) rfl (wanted_at (b := false) false rfl rfl (hD 14 91 (by kernel_rfl))) (exec_move (.tmp 4) _ rfl (hE 4 (.int .i64 s) (by kernel_rfl) (by kernel_rfl))) rfl) ?_
            refine fsteps_cons 19 rfl (fun a u hE hD hk => f_call (o := ⟨some 95, _, _, _, _, _⟩) 9 #[.pointer (some ⟨p, 0, none⟩), .int .i64 z, .int .i64 s] rfl (wanted_at (b := false) false rfl rfl (hD 14 91 (by kernel_rfl))) (exec_call 9 _ [.tmp 92, .tmp 93, .tmp 94] _ [.pointer (some ⟨p, 0, none⟩), .int .i64 z, .int .i64 s] Try.func9 (by kernel_rfl) (by kernel_rfl) rfl (show [a.eval (.tmp 92), a.eval (.tmp 93), a.eval (.tmp 94)] = [.pointer (some ⟨p, 0, none⟩), .int .i64 z, .int .i64 s] from (by rw [show a.eval (.tmp 92) = .pointer (some ⟨p, 0, none⟩) from (hD 15 92 (by kernel_rfl)), show a.eval (.tmp 93) = .int .i64 z from (hD 16 93 (by kernel_rfl)), show a.eval (.tmp 94) = .int .i64 s from (hD 17 94 (by kernel_rfl))] <;> rfl)) u) (set_is (HPe.out.kept hk) HV.out)) ?_
            refine fsteps_cons 20 rfl (fun a u hE hD hk => f_val (o := ⟨some 96, _, _, _, _, _⟩) (.pointer (some ⟨q, 0, none⟩)) rfl (wanted_at (b := false) false rfl rfl (hD 14 91 (by kernel_rfl))) (exec_move (.tmp 16) _ rfl (hE 16 (.pointer (some ⟨q, 0, none⟩)) (by kernel_rfl) (by kernel_rfl))) rfl) ?_
            refine fsteps_cons 21 rfl (fun a u hE hD hk => f_val (o := ⟨some 97, _, _, _, _, _⟩) (.int .i64 z) rfl (wanted_at (b := false) false rfl rfl (hD 14 91 (by kernel_rfl))) (exec_move (.tmp 18) _ rfl (hE 18 (.int .i64 z) (by kernel_rfl) (by kernel_rfl))) rfl) ?_
            refine fsteps_cons 22 rfl (fun a u hE hD hk => f_val (o := ⟨some 98, _, _, _, _, _⟩) (.int .i64 s) rfl (wanted_at (b := false) false rfl rfl (hD 14 91 (by kernel_rfl))) (exec_move (.tmp 4) _ rfl (hE 4 (.int .i64 s) (by kernel_rfl) (by kernel_rfl))) rfl) ?_
            refine fsteps_cons 23 rfl (fun a u hE hD hk => f_call (o := ⟨some 99, _, _, _, _, _⟩) 19 #[.pointer (some ⟨q, 0, none⟩), .int .i64 z, .int .i64 s] rfl (wanted_at (b := false) false rfl rfl (hD 14 91 (by kernel_rfl))) (exec_call 19 _ [.tmp 96, .tmp 97, .tmp 98] _ [.pointer (some ⟨q, 0, none⟩), .int .i64 z, .int .i64 s] Try.func19 (by kernel_rfl) (by kernel_rfl) rfl (show [a.eval (.tmp 96), a.eval (.tmp 97), a.eval (.tmp 98)] = [.pointer (some ⟨q, 0, none⟩), .int .i64 z, .int .i64 s] from (by rw [show a.eval (.tmp 96) = .pointer (some ⟨q, 0, none⟩) from (hD 19 96 (by kernel_rfl)), show a.eval (.tmp 97) = .int .i64 z from (hD 20 97 (by kernel_rfl)), show a.eval (.tmp 98) = .int .i64 s from (hD 21 98 (by kernel_rfl))] <;> rfl)) u) (rset_v (HQe.out.kept hk) HV.out)) ?_
            refine fsteps_cons 24 rfl (fun a u hE hD hk => f_val (o := ⟨some 100, _, _, _, _, _⟩) (.bool false) rfl (wanted_at (b := false) false rfl rfl (hD 14 91 (by kernel_rfl))) (exec_as (decide_eq_false (by simp)) (exec_nenU (.tmp 95) (.tmp 99) _ _ (V : Int) (V : Int) rfl (hD 18 95 (by kernel_rfl)) (hD 22 99 (by kernel_rfl)))) rfl) ?_
            refine sv 25 rfl rfl rfl (fun a u hE hD hk => exec_pickF (.tmp 91) (.const (.bool true)) (.tmp 100) (.bool false) rfl (hD 14 91 (by kernel_rfl)) (hD 23 100 (by kernel_rfl))) ?_
            exact fsteps_nil
          intro gv wf hV kf
          rw [show dstsOf _ 25 = [77, 78, 79, 80, 81, 82, 83, 84, 85, 86, 87, 88, 89, 90, 91, 92, 93, 94, 95, 96, 97, 98, 99, 100, 101] by kernel_rfl]
          simp only [List.foldl_cons, List.foldl_nil, List.setIfInBounds_toArray, List.set_cons_succ, List.set_cons_zero, List.drop_succ_cons, List.drop_zero]
          rw [show gv 101 = .bool false from hV 24 101 (by kernel_rfl)]
          clear hV
          refine wpList_nil ?_
          have kwf := (hkr.trans kwe).trans kf
          clear HTe HPe HQe kf kwe hkr
          go_wp2
          exact ⟨⟨z + 1, rfl, by omega, by omega, kwf⟩, by simp [intOf]; omega⟩
      · have kwz := kw7.trans hkr
        go_upto_region 18 with fail
        refine wp_text 1 [.eq (.bool true)] rfl (by kernel_rfl) ?_ ?_
        · refine fsteps_cons 1 rfl (fun a u hE hD hk => f_call (o := ⟨some 102, _, _, _, _, _⟩) 3 #[] rfl (wanted_none rfl _) (exec_call 3 _ [] _ [] Try.func3 (by kernel_rfl) (by kernel_rfl) rfl rfl u) (treeRuns_is u)) ?_
          exact fsteps_nil
        intro gv we hV ke
        rw [show dstsOf _ 1 = [102] by kernel_rfl]
        simp only [List.foldl_cons, List.foldl_nil, List.setIfInBounds_toArray, List.set_cons_succ, List.set_cons_zero, List.drop_succ_cons, List.drop_zero]
        rw [show gv 102 = .bool true from hV 0 102 (by kernel_rfl)]
        clear hV
        refine l_val (o := ⟨some 12, _, _, _, _, _⟩) (.bool true) rfl (exec_assign (.tmp 102) (.bool true) rfl (by kernel_rfl)) ?_
        simp only [Act.put, List.setIfInBounds_toArray, List.set_cons_succ, List.set_cons_zero]
        refine wpList_nil ?_
        have kwe := kwz.trans ke
        go_wp2
        go_ret
        exact ⟨rfl, kwe⟩
end Go.Proofs.Ytgodehggiddndaa
