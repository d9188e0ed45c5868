/-
  The contracts of package allow. Conditions: a tree in memory, in which all may stand; the table of rules as its text lays it.
-/
import Derived.Test.YtfoamgljfdnloaaDoorAlM
namespace Go.Proofs.YtfoamgljfdnloaaDoor
open Go.RowKit
set_option linter.unusedVariables false
set_option maxRecDepth 100000

theorem even_any (d : Int) (w : World) : Gives 18 #[.int .i64 d] w (.eq (.bool (evenB d))) := by
  refine gives_eq ?_
  go_enter Tryd.func18, Tryd.ntmps18
  go_upto_region 1 with fail
  refine wp_text 7 [.eq (.int .i64 d), .eq (.bool (decide ((d : Int) = (2 : Int)))), .eq (.bool (decide ((d : Int) = (2 : Int)))), .cond (!(decide ((d : Int) = (2 : Int)))) (.eq (.int .i64 d)), .cond (!(decide ((d : Int) = (2 : Int)))) (.eq (.bool (decide ((d : Int) = (4 : Int))))), .eq (.bool ((decide ((d : Int) = (2 : Int))) || (decide ((d : Int) = (4 : Int))))), .eq (.bool ((decide ((d : Int) = (2 : Int))) || (decide ((d : Int) = (4 : Int)))))] rfl (by kernel_rfl) ?_ ?_
  · refine sv 1 rfl rfl rfl (fun a u hE hD hk => exec_move (.tmp 0) _ rfl (hE 0 (.int .i64 d) (by kernel_rfl) (by kernel_rfl))) ?_
    refine sv 2 rfl rfl rfl (fun a u hE hD hk => exec_eqn (p := d) (q := 2) rfl (hD 0 3 (by kernel_rfl)) rfl) ?_
    refine sv 3 rfl rfl rfl (fun a u hE hD hk => exec_move (.tmp 4) _ rfl (hD 1 4 (by kernel_rfl))) ?_
    refine fsteps_cons 4 rfl (fun a u hE hD hk => f_unless ((decide ((d : Int) = (2 : Int)))) rfl rfl rfl (hD 2 5 (by kernel_rfl)) (fun hb => f_val (o := ⟨some 6, _, _, _, _, _⟩) (.int .i64 d) rfl (wanted_b rfl rfl (hD 2 5 (by kernel_rfl)) (eq_false_of hb)) (exec_move (.tmp 0) _ rfl (hE 0 (.int .i64 d) (by kernel_rfl) (by kernel_rfl))) rfl)) ?_
    refine fsteps_cons 5 rfl (fun a u hE hD hk => f_unless ((decide ((d : Int) = (2 : Int)))) rfl rfl rfl (hD 2 5 (by kernel_rfl)) (fun hb => f_val (o := ⟨some 7, _, _, _, _, _⟩) (.bool (decide ((d : Int) = (4 : Int)))) rfl (wanted_b rfl rfl (hD 2 5 (by kernel_rfl)) (eq_false_of hb)) (exec_eqn (p := d) (q := 4) rfl ((hD 3 6 (by kernel_rfl)).1 hb) rfl) rfl)) ?_
    refine sv 6 rfl rfl rfl (fun a u hE hD hk => exec_pickor (.tmp 5) (.const (.bool true)) (.tmp 7) ((decide ((d : Int) = (2 : Int)))) ((decide ((d : Int) = (4 : Int)))) rfl (hD 2 5 (by kernel_rfl)) rfl (fun hb2 => ((hD 4 7 (by kernel_rfl)).1 hb2))) ?_
    refine sv 7 rfl rfl rfl (fun a u hE hD hk => exec_assign (.tmp 8) _ rfl (hD 5 8 (by kernel_rfl))) ?_
    exact fsteps_nil
  intro gv w0 hV k0
  rw [show dstsOf _ 7 = [3, 4, 5, 6, 7, 8, 2] by kernel_rfl]
  simp only [List.foldl_cons, List.foldl_nil, List.setIfInBounds_toArray, List.set_cons_succ, List.set_cons_zero, List.drop_succ_cons, List.drop_zero]
  rw [show gv 2 = .bool ((decide ((d : Int) = (2 : Int))) || (decide ((d : Int) = (4 : Int)))) from hV 6 2 (by kernel_rfl)]
  clear hV
  refine wpList_nil ?_
  go_wp2
  go_ret
  exact ⟨rfl, k0⟩
theorem when_any (b : Bool) (t : Int) (w : World) : Gives 26 #[.bool b, .int .i64 t] w (.eq (.int .i64 (whenI b t))) := by
  refine gives_eq ?_
  cases b
  · go_enter Tryd.func26, Tryd.ntmps26
    go_wp2
    go_ret
    exact ⟨rfl, Kept.refl _⟩
  · go_enter Tryd.func26, Tryd.ntmps26
    go_wp2
    go_ret
    exact ⟨rfl, Kept.refl _⟩
theorem has_any (b n : Int) (h0 : 0 ≤ n) (w : World) : Gives 27 #[.int .i64 b, .int .i64 n] w (.eq (.bool (hasB b n))) := by
  refine gives_eq ?_
  go_enter Tryd.func27, Tryd.ntmps27
  go_upto_region 1 with fail
  refine wp_text 6 [.eq (.int .i64 b), .eq (.int .i64 n), .eq (.int .i64 (shI b n)), .eq (.int .i64 (anI (shI b n) 1)), .eq (.bool (decide (((anI (shI b n) 1) : Int) = (1 : Int)))), .eq (.bool (decide (((anI (shI b n) 1) : Int) = (1 : Int))))] rfl (by kernel_rfl) ?_ ?_
  · refine sv 1 rfl rfl rfl (fun a u hE hD hk => exec_move (.tmp 0) _ rfl (hE 0 (.int .i64 b) (by kernel_rfl) (by kernel_rfl))) ?_
    refine sv 2 rfl rfl rfl (fun a u hE hD hk => exec_move (.tmp 1) _ rfl (hE 1 (.int .i64 n) (by kernel_rfl) (by kernel_rfl))) ?_
    refine sv 3 rfl rfl rfl (fun a u hE hD hk => exec_shrI (.tmp 5) (.tmp 6) _ _ b n rfl (hD 0 5 (by kernel_rfl)) (hD 1 6 (by kernel_rfl)) h0) ?_
    refine sv 4 rfl rfl rfl (fun a u hE hD hk => exec_andI (.tmp 7) (.const (.int .i64 1)) _ _ (shI b n) 1 rfl (hD 2 7 (by kernel_rfl)) rfl) ?_
    refine sv 5 rfl rfl rfl (fun a u hE hD hk => exec_eqn (p := (anI (shI b n) 1)) (q := 1) rfl (hD 3 8 (by kernel_rfl)) rfl) ?_
    refine sv 6 rfl rfl rfl (fun a u hE hD hk => exec_assign (.tmp 9) _ rfl (hD 4 9 (by kernel_rfl))) ?_
    exact fsteps_nil
  intro gv w0 hV k0
  rw [show dstsOf _ 6 = [5, 6, 7, 8, 9, 4] by kernel_rfl]
  simp only [List.foldl_cons, List.foldl_nil, List.setIfInBounds_toArray, List.set_cons_succ, List.set_cons_zero, List.drop_succ_cons, List.drop_zero]
  rw [show gv 4 = .bool (decide (((anI (shI b n) 1) : Int) = (1 : Int))) from hV 5 4 (by kernel_rfl)]
  clear hV
  refine wpList_nil ?_
  go_wp2
  go_ret
  exact ⟨rfl, k0⟩
theorem all_any (b m : Int) (w : World) : Gives 29 #[.int .i64 b, .int .i64 m] w (.eq (.bool (allB b m))) := by
  refine gives_eq ?_
  go_enter Tryd.func29, Tryd.ntmps29
  go_upto_region 1 with fail
  refine wp_text 6 [.eq (.int .i64 b), .eq (.int .i64 m), .eq (.int .i64 (anI b m)), .eq (.int .i64 m), .eq (.bool (decide (((anI b m) : Int) = (m : Int)))), .eq (.bool (decide (((anI b m) : Int) = (m : Int))))] rfl (by kernel_rfl) ?_ ?_
  · refine sv 1 rfl rfl rfl (fun a u hE hD hk => exec_move (.tmp 0) _ rfl (hE 0 (.int .i64 b) (by kernel_rfl) (by kernel_rfl))) ?_
    refine sv 2 rfl rfl rfl (fun a u hE hD hk => exec_move (.tmp 1) _ rfl (hE 1 (.int .i64 m) (by kernel_rfl) (by kernel_rfl))) ?_
    refine sv 3 rfl rfl rfl (fun a u hE hD hk => exec_andI (.tmp 5) (.tmp 6) _ _ b m rfl (hD 0 5 (by kernel_rfl)) (hD 1 6 (by kernel_rfl))) ?_
    refine sv 4 rfl rfl rfl (fun a u hE hD hk => exec_move (.tmp 1) _ rfl (hE 1 (.int .i64 m) (by kernel_rfl) (by kernel_rfl))) ?_
    refine sv 5 rfl rfl rfl (fun a u hE hD hk => exec_eqn (p := (anI b m)) (q := m) rfl (hD 2 7 (by kernel_rfl)) (hD 3 8 (by kernel_rfl))) ?_
    refine sv 6 rfl rfl rfl (fun a u hE hD hk => exec_assign (.tmp 9) _ rfl (hD 4 9 (by kernel_rfl))) ?_
    exact fsteps_nil
  intro gv w0 hV k0
  rw [show dstsOf _ 6 = [5, 6, 7, 8, 9, 4] by kernel_rfl]
  simp only [List.foldl_cons, List.foldl_nil, List.setIfInBounds_toArray, List.set_cons_succ, List.set_cons_zero, List.drop_succ_cons, List.drop_zero]
  rw [show gv 4 = .bool (decide (((anI b m) : Int) = (m : Int))) from hV 5 4 (by kernel_rfl)]
  clear hV
  refine wpList_nil ?_
  go_wp2
  go_ret
  exact ⟨rfl, k0⟩
set_option maxRecDepth 100000 in
set_option maxHeartbeats 3200000 in
theorem entitled_any (x : Trd) (do_ ties : Int) (w : World) (hG : RulIn w) : Gives 21 #[x.v, .int .i64 do_, .int .i64 ties] w (.eq (.int .i64 (entV x.roles do_ ties))) := by
  refine gives_eq ?_
  have HG := Lib.hid hG
  clear hG
  obtain ⟨V, hV⟩ : ∃ V, entV x.roles do_ ties = V := ⟨_, rfl⟩
  have HY : Hid (∀ i, i < 9 → ruleB x.roles do_ ties i = true → V = 0) := fun i hi h => by rw [← hV]; exact entV_yes hi h
  have HN : Hid ((∀ i, i < 9 → ruleB x.roles do_ ties i = false) → V = 7) := fun h => by rw [← hV]; exact entV_no h
  rw [hV]
  clear hV
  obtain ⟨b0, hb0⟩ : ∃ z, w.alloc (.cells x.cells.toArray 35) = z := ⟨_, rfl⟩
  have q0 : Kept w b0 := by rw [← hb0]; exact (Keep.refl _ _).alloc _
  have r0 : b0.rangeAt w.heap.size 0 x.cells := by rw [← hb0]; exact blk_range (Blk.new w 35 x.cells)
  have HB3 := Lib.hid (r0)
  have k0 := q0
  clear r0
  go_enter Tryd.func21, Tryd.ntmps21
  go_upto_region 0 with fail
  refine wp_region_lit ?_
  refine l_new (o := ⟨some 3, _, _, _, _, _⟩) (.pointer (some ⟨w.heap.size, 0, none⟩)) b0 rfl (by rw [← hb0]; exact exec_box 35 (.tmp 0) x.cells rfl (by kernel_rfl)) ?_
  simp only [Act.put, List.setIfInBounds_toArray, List.set_cons_succ, List.set_cons_zero]
  refine l_val (o := ⟨some 6, _, _, _, _, _⟩) (.int .i64 0) rfl (exec_assign (.const (.int .i64 0)) (.int .i64 0) rfl (by kernel_rfl)) ?_
  simp only [Act.put, List.setIfInBounds_toArray, List.set_cons_succ, List.set_cons_zero]
  refine wpList_nil ?_
  obtain ⟨g3, hg3⟩ : ∃ g, w.heap.size = g := ⟨_, rfl⟩
  rw [hg3] at HB3 ⊢
  clear hg3 hb0 q0
  have HG0 := Lib.hid (HG.out.kept k0)
  clear HG
  go_upto_region 1 with fail
  refine wp_text 2 [.eq (rulV), .eq (.int .i64 0)] rfl (by kernel_rfl) ?_ ?_
  · refine sv 1 rfl rfl rfl (fun a u hE hD hk => exec_ldG rfl (HG0.out.kept hk)) ?_
    refine sv 2 rfl rfl rfl (fun a u hE hD hk => exec_move (.const (.int .i64 0)) _ rfl rfl) ?_
    exact fsteps_nil
  intro gv w1 hV k1
  rw [show dstsOf _ 2 = [9, 10] by kernel_rfl]
  simp only [List.foldl_cons, List.foldl_nil, List.setIfInBounds_toArray, List.set_cons_succ, List.set_cons_zero, List.drop_succ_cons, List.drop_zero]
  rw [show gv 9 = rulV from hV 0 9 (by kernel_rfl)]
  rw [show gv 10 = .int .i64 0 from hV 1 10 (by kernel_rfl)]
  clear hV
  refine wpList_nil ?_
  have HB1 := Lib.hid (range_kept HB3.out k1)
  have kw1 := k0.trans k1
  clear HB3 HG0 k0 k1
  go_wp2_with fail
  go_loopw [10] (fun q wr => ∃ i : Nat, q = .int .i64 (i : Int) ∧ i ≤ 9 ∧ Hid (∀ j, j < i → ruleB x.roles do_ ties j = false) ∧ Kept w1 wr) (fun q _ => 9 - (intOf q).toNat)
  case atStart => exact ⟨0, rfl, by omega, (fun j hj => absurd hj (Nat.not_lt_zero j)), Kept.refl _⟩
  case round =>
    obtain ⟨i, rfl, hi9, HL, hkr⟩ := hrel
    by_cases hi : i < 9
    · go_upto_region 2 with fail
      refine wp_text 1 [.eq (.bool true)] rfl (by kernel_rfl) ?_ ?_
      · refine fsteps_cons 1 rfl (fun a u hE hD hk => f_as (show ((decide (((i : Int) : Int) < (9 : Int))) : Bool) = true from decide_eq_true (by omega)) (f_val (o := ⟨some 11, _, _, _, _, _⟩) (.bool (decide (((i : Int) : Int) < (9 : Int)))) rfl (wanted_none rfl _) (exec_ltn (p := (i : Int)) (q := 9) rfl (hE 10 (.int .i64 (i : Int)) (by kernel_rfl) (by kernel_rfl)) rfl) rfl)) ?_
        exact fsteps_nil
      intro gv w2 hV k2
      rw [show dstsOf _ 1 = [11] by kernel_rfl]
      simp only [List.foldl_cons, List.foldl_nil, List.setIfInBounds_toArray, List.set_cons_succ, List.set_cons_zero, List.drop_succ_cons, List.drop_zero]
      rw [show gv 11 = .bool true from hV 0 11 (by kernel_rfl)]
      clear hV
      refine wpList_nil ?_
      obtain ⟨r, hr⟩ : ∃ r, rulAt i = r := ⟨_, rfl⟩
      obtain ⟨b, hb0⟩ : ∃ b, ruleB x.roles do_ ties i = b := ⟨_, rfl⟩
      have HRb := Lib.hid hb0
      have HRt : Hid (((decide ((r.do_ : Int) = (do_ : Int)) && allB x.roles r.roles) && allB ties r.ties) = b) := by show _ = _; rw [← hb0, ← hr]; rfl
      have HR := Lib.hid hr
      clear hr hb0
      go_upto_region 3 with fail
      refine wp_text 1 [.eq (r.v)] rfl (by kernel_rfl) ?_ ?_
      · refine sv 1 rfl rfl rfl (fun a u hE hD hk => by rw [← HR.out]; exact exec_ixU i (.tmp 9) (.tmp 10) rfl (hE 9 rulV (by kernel_rfl) (by kernel_rfl)) (hE 10 (.int .i64 (i : Int)) (by kernel_rfl) (by kernel_rfl)) hi) ?_
        exact fsteps_nil
      intro gv wa hV ka
      rw [show dstsOf _ 1 = [12] by kernel_rfl]
      simp only [List.foldl_cons, List.foldl_nil, List.setIfInBounds_toArray, List.set_cons_succ, List.set_cons_zero, List.drop_succ_cons, List.drop_zero]
      rw [show gv 12 = r.v from hV 0 12 (by kernel_rfl)]
      clear hV
      refine l_new (o := ⟨some 8, _, _, _, _, _⟩) (.pointer (some ⟨wa.heap.size, 0, none⟩)) (wa.alloc (.cells zeroU.cells.toArray 65)) rfl (exec_alc 65 zeroU.cells rfl zU) ?_
      have hNa := Blk.new wa 65 zeroU.cells
      have kb : Kept wa (wa.alloc (.cells zeroU.cells.toArray 65)) := (Keep.refl _ wa).alloc _
      generalize wa.alloc (.cells zeroU.cells.toArray 65) = wb at hNa kb ⊢
      simp only [Act.put, List.setIfInBounds_toArray, List.set_cons_succ, List.set_cons_zero]
      refine l_setS (o := ⟨none, _, _, _, _, _⟩) 65 wa.heap.size 65 zeroU.cells r.cells (.tmp 8) (.tmp 12) rfl rfl (by kernel_rfl) (by kernel_rfl) hNa (by rw [Rul.len3r]; exact szU) (by rw [Rul.len3r, Rul.len3r]) (Rul.one _) ?_
      intro w3 hCw3 hkw3 hsw3
      simp only [Act.put]
      refine wpList_nil ?_
      obtain ⟨g8, hg8⟩ : ∃ a, wa.heap.size = a := ⟨_, rfl⟩
      rw [hg8] at hNa hCw3 hkw3 ⊢
      have zka := ka.size
      have kw3 : Kept w2 w3 := (ka.trans kb).trans' hkw3 (by omega)
      have HX8 := Lib.hid (blk_range hCw3)
      clear hNa hCw3 hkw3 hsw3 kb ka zka hg8
      have HB3 := Lib.hid (range_kept HB1.out ((hkr.trans k2).trans kw3))
      have kr3 := (hkr.trans k2).trans kw3
      clear k2 kw3 HR
      go_upto_region 4 with fail
      refine wp_text 17 [.eq (.pointer (some ⟨g8, 0, none⟩)), .eq (.int .i64 r.do_), .eq (.int .i64 do_), .eq (.bool (decide ((r.do_ : Int) = (do_ : Int)))), .eq (.bool (decide ((r.do_ : Int) = (do_ : Int)))), .cond (decide ((r.do_ : Int) = (do_ : Int))) (.eq (.pointer (some ⟨g3, 2, none⟩))), .cond (decide ((r.do_ : Int) = (do_ : Int))) (.eq (.int .i64 x.roles)), .cond (decide ((r.do_ : Int) = (do_ : Int))) (.eq (.pointer (some ⟨g8, 1, none⟩))), .cond (decide ((r.do_ : Int) = (do_ : Int))) (.eq (.int .i64 r.roles)), .cond (decide ((r.do_ : Int) = (do_ : Int))) (.eq (.bool (allB x.roles r.roles))), .eq (.bool ((decide ((r.do_ : Int) = (do_ : Int))) && (allB x.roles r.roles))), .eq (.bool ((decide ((r.do_ : Int) = (do_ : Int))) && (allB x.roles r.roles))), .cond ((decide ((r.do_ : Int) = (do_ : Int))) && (allB x.roles r.roles)) (.eq (.int .i64 ties)), .cond ((decide ((r.do_ : Int) = (do_ : Int))) && (allB x.roles r.roles)) (.eq (.pointer (some ⟨g8, 2, none⟩))), .cond ((decide ((r.do_ : Int) = (do_ : Int))) && (allB x.roles r.roles)) (.eq (.int .i64 r.ties)), .cond ((decide ((r.do_ : Int) = (do_ : Int))) && (allB x.roles r.roles)) (.eq (.bool (allB ties r.ties))), .eq (.bool b)] rfl (by kernel_rfl) ?_ ?_
      · refine sv 1 rfl rfl rfl (fun a u hE hD hk => exec_fldo 65 0 0 (.tmp 8) (g8) (0) (0) rfl (hE 8 (.pointer (some ⟨g8, 0, none⟩)) (by kernel_rfl) (by kernel_rfl)) (by kernel_rfl) rfl) ?_
        refine sv 2 rfl rfl rfl (fun a u hE hD hk => exec_loadi 3 Tryd.underlying3 (.tmp 13) ⟨g8, 0, none⟩ (.int .i64 r.do_) rfl (hD 0 13 (by kernel_rfl)) (range_int (range_kept HX8.out hk) 0 _ rfl)) ?_
        refine sv 3 rfl rfl rfl (fun a u hE hD hk => exec_move (.tmp 1) _ rfl (hE 1 (.int .i64 do_) (by kernel_rfl) (by kernel_rfl))) ?_
        refine sv 4 rfl rfl rfl (fun a u hE hD hk => exec_eqn (p := r.do_) (q := do_) rfl (hD 1 14 (by kernel_rfl)) (hD 2 15 (by kernel_rfl))) ?_
        refine sv 5 rfl rfl rfl (fun a u hE hD hk => exec_move (.tmp 16) _ rfl (hD 3 16 (by kernel_rfl))) ?_
        refine fsteps_cons 6 rfl (fun a u hE hD hk => f_if ((decide ((r.do_ : Int) = (do_ : Int)))) rfl rfl rfl (hD 4 17 (by kernel_rfl)) (fun hb => f_val (o := ⟨some 18, _, _, _, _, _⟩) (.pointer (some ⟨g3, 2, none⟩)) rfl (wanted_b rfl rfl (hD 4 17 (by kernel_rfl)) (eq_true_of hb)) (exec_fldo 35 2 2 (.tmp 3) (g3) (0) (2) rfl (hE 3 (.pointer (some ⟨g3, 0, none⟩)) (by kernel_rfl) (by kernel_rfl)) (by kernel_rfl) rfl) rfl)) ?_
        refine fsteps_cons 7 rfl (fun a u hE hD hk => f_if ((decide ((r.do_ : Int) = (do_ : Int)))) rfl rfl rfl (hD 4 17 (by kernel_rfl)) (fun hb => f_val (o := ⟨some 19, _, _, _, _, _⟩) (.int .i64 x.roles) rfl (wanted_b rfl rfl (hD 4 17 (by kernel_rfl)) (eq_true_of hb)) (exec_loadi 3 Tryd.underlying3 (.tmp 18) ⟨g3, 2, none⟩ (.int .i64 x.roles) rfl ((hD 5 18 (by kernel_rfl)).1 hb) ((range_kept (HB3.out) hk) 2 _ rfl)) rfl)) ?_
        refine fsteps_cons 8 rfl (fun a u hE hD hk => f_if ((decide ((r.do_ : Int) = (do_ : Int)))) rfl rfl rfl (hD 4 17 (by kernel_rfl)) (fun hb => f_val (o := ⟨some 20, _, _, _, _, _⟩) (.pointer (some ⟨g8, 1, none⟩)) rfl (wanted_b rfl rfl (hD 4 17 (by kernel_rfl)) (eq_true_of hb)) (exec_fldo 65 1 1 (.tmp 8) (g8) (0) (1) rfl (hE 8 (.pointer (some ⟨g8, 0, none⟩)) (by kernel_rfl) (by kernel_rfl)) (by kernel_rfl) rfl) rfl)) ?_
        refine fsteps_cons 9 rfl (fun a u hE hD hk => f_if ((decide ((r.do_ : Int) = (do_ : Int)))) rfl rfl rfl (hD 4 17 (by kernel_rfl)) (fun hb => f_val (o := ⟨some 21, _, _, _, _, _⟩) (.int .i64 r.roles) rfl (wanted_b rfl rfl (hD 4 17 (by kernel_rfl)) (eq_true_of hb)) (exec_loadi 3 Tryd.underlying3 (.tmp 20) ⟨g8, 1, none⟩ (.int .i64 r.roles) rfl ((hD 7 20 (by kernel_rfl)).1 hb) (range_int (range_kept HX8.out hk) 1 _ rfl)) rfl)) ?_
        refine fsteps_cons 10 rfl (fun a u hE hD hk => f_if ((decide ((r.do_ : Int) = (do_ : Int)))) rfl rfl rfl (hD 4 17 (by kernel_rfl)) (fun hb => f_call (o := ⟨some 22, _, _, _, _, _⟩) 29 #[.int .i64 x.roles, .int .i64 r.roles] rfl (wanted_b rfl rfl (hD 4 17 (by kernel_rfl)) (eq_true_of hb)) (exec_call 29 _ [.tmp 19, .tmp 21] _ [.int .i64 x.roles, .int .i64 r.roles] Tryd.func29 (by kernel_rfl) (by kernel_rfl) rfl (show [a.eval (.tmp 19), a.eval (.tmp 21)] = [.int .i64 x.roles, .int .i64 r.roles] from (by rw [show a.eval (.tmp 19) = .int .i64 x.roles from ((hD 6 19 (by kernel_rfl)).1 hb), show a.eval (.tmp 21) = .int .i64 r.roles from ((hD 8 21 (by kernel_rfl)).1 hb)] <;> rfl)) u) (all_any _ _ u))) ?_
        refine sv 11 rfl rfl rfl (fun a u hE hD hk => exec_pickand (.tmp 17) (.tmp 22) (.const (.bool false)) ((decide ((r.do_ : Int) = (do_ : Int)))) ((allB x.roles r.roles)) rfl (hD 4 17 (by kernel_rfl)) (fun hb2 => ((hD 9 22 (by kernel_rfl)).1 hb2)) rfl) ?_
        refine sv 12 rfl rfl rfl (fun a u hE hD hk => exec_move (.tmp 23) _ rfl (hD 10 23 (by kernel_rfl))) ?_
        refine fsteps_cons 13 rfl (fun a u hE hD hk => f_if (((decide ((r.do_ : Int) = (do_ : Int))) && (allB x.roles r.roles))) rfl rfl rfl (hD 11 24 (by kernel_rfl)) (fun hb => f_val (o := ⟨some 25, _, _, _, _, _⟩) (.int .i64 ties) rfl (wanted_b rfl rfl (hD 11 24 (by kernel_rfl)) (eq_true_of hb)) (exec_move (.tmp 2) _ rfl (hE 2 (.int .i64 ties) (by kernel_rfl) (by kernel_rfl))) rfl)) ?_
        refine fsteps_cons 14 rfl (fun a u hE hD hk => f_if (((decide ((r.do_ : Int) = (do_ : Int))) && (allB x.roles r.roles))) rfl rfl rfl (hD 11 24 (by kernel_rfl)) (fun hb => f_val (o := ⟨some 26, _, _, _, _, _⟩) (.pointer (some ⟨g8, 2, none⟩)) rfl (wanted_b rfl rfl (hD 11 24 (by kernel_rfl)) (eq_true_of hb)) (exec_fldo 65 2 2 (.tmp 8) (g8) (0) (2) rfl (hE 8 (.pointer (some ⟨g8, 0, none⟩)) (by kernel_rfl) (by kernel_rfl)) (by kernel_rfl) rfl) rfl)) ?_
        refine fsteps_cons 15 rfl (fun a u hE hD hk => f_if (((decide ((r.do_ : Int) = (do_ : Int))) && (allB x.roles r.roles))) rfl rfl rfl (hD 11 24 (by kernel_rfl)) (fun hb => f_val (o := ⟨some 27, _, _, _, _, _⟩) (.int .i64 r.ties) rfl (wanted_b rfl rfl (hD 11 24 (by kernel_rfl)) (eq_true_of hb)) (exec_loadi 3 Tryd.underlying3 (.tmp 26) ⟨g8, 2, none⟩ (.int .i64 r.ties) rfl ((hD 13 26 (by kernel_rfl)).1 hb) (range_int (range_kept HX8.out hk) 2 _ rfl)) rfl)) ?_
        refine fsteps_cons 16 rfl (fun a u hE hD hk => f_if (((decide ((r.do_ : Int) = (do_ : Int))) && (allB x.roles r.roles))) rfl rfl rfl (hD 11 24 (by kernel_rfl)) (fun hb => f_call (o := ⟨some 28, _, _, _, _, _⟩) 29 #[.int .i64 ties, .int .i64 r.ties] rfl (wanted_b rfl rfl (hD 11 24 (by kernel_rfl)) (eq_true_of hb)) (exec_call 29 _ [.tmp 25, .tmp 27] _ [.int .i64 ties, .int .i64 r.ties] Tryd.func29 (by kernel_rfl) (by kernel_rfl) rfl (show [a.eval (.tmp 25), a.eval (.tmp 27)] = [.int .i64 ties, .int .i64 r.ties] from (by rw [show a.eval (.tmp 25) = .int .i64 ties from ((hD 12 25 (by kernel_rfl)).1 hb), show a.eval (.tmp 27) = .int .i64 r.ties from ((hD 14 27 (by kernel_rfl)).1 hb)] <;> rfl)) u) (all_any _ _ u))) ?_
        refine fsteps_cons 17 rfl (fun a u hE hD hk => f_as (show ((((decide ((r.do_ : Int) = (do_ : Int))) && (allB x.roles r.roles)) && (allB ties r.ties)) : Bool) = b from HRt.out) (f_val (o := ⟨some 29, _, _, _, _, _⟩) (.bool (((decide ((r.do_ : Int) = (do_ : Int))) && (allB x.roles r.roles)) && (allB ties r.ties))) rfl (wanted_none rfl _) (exec_pickand (.tmp 24) (.tmp 28) (.const (.bool false)) (((decide ((r.do_ : Int) = (do_ : Int))) && (allB x.roles r.roles))) ((allB ties r.ties)) rfl (hD 11 24 (by kernel_rfl)) (fun hb2 => ((hD 15 28 (by kernel_rfl)).1 hb2)) rfl) rfl)) ?_
        exact fsteps_nil
      intro gv w4 hV k4
      rw [show dstsOf _ 17 = [13, 14, 15, 16, 17, 18, 19, 20, 21, 22, 23, 24, 25, 26, 27, 28, 29] by kernel_rfl]
      simp only [List.foldl_cons, List.foldl_nil, List.setIfInBounds_toArray, List.set_cons_succ, List.set_cons_zero, List.drop_succ_cons, List.drop_zero]
      rw [show gv 29 = .bool b from hV 16 29 (by kernel_rfl)]
      clear hV
      refine wpList_nil ?_
      have kr4 := kr3.trans k4
      cases b with
      | true =>
        have HV0 := Lib.hid (HY.out i hi HRb.out)
        clear HRt HX8 HB3 HN HY HRb HL
        have kw4 := kw1.trans kr4
        go_wp2
        go_ret
        exact ⟨by rw [HV0.out]; rfl, kw4⟩
      | false =>
        have HL2 : Hid (∀ j, j < i + 1 → ruleB x.roles do_ ties j = false) := fun j hj => by
          by_cases e : j = i
          · rw [e]; exact HRb.out
          · exact HL.out j (by omega)
        clear HRt HX8 HB3 HN HY HRb HL
        go_wp2
        exact ⟨⟨i + 1, by simp, by omega, HL2, kr4⟩, by simp [intOf]; omega⟩
    · obtain rfl : i = 9 := by omega
      have HV0 := Lib.hid (HN.out HL.out)
      clear HN HY HL
      go_upto_region 2 with fail
      refine wp_text 1 [.eq (.bool false)] rfl (by kernel_rfl) ?_ ?_
      · refine fsteps_cons 1 rfl (fun a u hE hD hk => f_as (show ((decide (((9 : Nat) : Int) < (9 : Int))) : Bool) = false from decide_eq_false (by omega)) (f_val (o := ⟨some 11, _, _, _, _, _⟩) (.bool (decide (((9 : Nat) : Int) < (9 : Int)))) rfl (wanted_none rfl _) (exec_ltn (p := (9 : Nat)) (q := 9) rfl (hE 10 (.int .i64 (9 : Nat)) (by kernel_rfl) (by kernel_rfl)) rfl) rfl)) ?_
        exact fsteps_nil
      intro gv w2 hV k2
      rw [show dstsOf _ 1 = [11] by kernel_rfl]
      simp only [List.foldl_cons, List.foldl_nil, List.setIfInBounds_toArray, List.set_cons_succ, List.set_cons_zero, List.drop_succ_cons, List.drop_zero]
      rw [show gv 11 = .bool false from hV 0 11 (by kernel_rfl)]
      clear hV
      refine wpList_nil ?_
      have kw2 := (kw1.trans hkr).trans k2
      go_wp2
      go_ret
      exact ⟨by rw [HV0.out]; rfl, kw2⟩
set_option maxRecDepth 100000 in
set_option maxHeartbeats 3200000 in
theorem ties_any (x y : Trd) (p : Phs) (w : World) (hx0 : 0 ≤ x.firm) (hx1 : x.firm ≤ 7) (hy0 : 0 ≤ y.firm) : Gives 28 #[x.v, y.v, p.v] w (.eq (.int .i64 (tieV x y p))) := by
  refine gives_eq ?_
  obtain ⟨V, hV⟩ : ∃ V, tieV x y p = V := ⟨_, rfl⟩
  have HV := Lib.hid hV
  rw [hV]
  clear hV
  obtain ⟨b0, hb0⟩ : ∃ z, w.alloc (.cells x.cells.toArray 35) = z := ⟨_, rfl⟩
  have q0 : Kept w b0 := by rw [← hb0]; exact (Keep.refl _ _).alloc _
  have r0 : b0.rangeAt w.heap.size 0 x.cells := by rw [← hb0]; exact blk_range (Blk.new w 35 x.cells)
  obtain ⟨b1, hb1⟩ : ∃ z, b0.alloc (.cells y.cells.toArray 35) = z := ⟨_, rfl⟩
  have q1 : Kept b0 b1 := by rw [← hb1]; exact (Keep.refl _ _).alloc _
  have r1 : b1.rangeAt b0.heap.size 0 y.cells := by rw [← hb1]; exact blk_range (Blk.new b0 35 y.cells)
  obtain ⟨b2, hb2⟩ : ∃ z, b1.alloc (.cells p.cells.toArray 29) = z := ⟨_, rfl⟩
  have q2 : Kept b1 b2 := by rw [← hb2]; exact (Keep.refl _ _).alloc _
  have r2 : b2.rangeAt b1.heap.size 0 p.cells := by rw [← hb2]; exact blk_range (Blk.new b1 29 p.cells)
  have HB3 := Lib.hid (range_kept (range_kept (r0) q1) q2)
  have HB4 := Lib.hid (range_kept (r1) q2)
  have HB5 := Lib.hid (r2)
  have k0 := ((q0).trans q1).trans q2
  clear r0 r1 r2
  go_enter Tryd.func28, Tryd.ntmps28
  go_upto_region 0 with fail
  refine wp_region_lit ?_
  refine l_new (o := ⟨some 3, _, _, _, _, _⟩) (.pointer (some ⟨w.heap.size, 0, none⟩)) b0 rfl (by rw [← hb0]; exact exec_box 35 (.tmp 0) x.cells rfl (by kernel_rfl)) ?_
  simp only [Act.put, List.setIfInBounds_toArray, List.set_cons_succ, List.set_cons_zero]
  refine l_new (o := ⟨some 4, _, _, _, _, _⟩) (.pointer (some ⟨b0.heap.size, 0, none⟩)) b1 rfl (by rw [← hb1]; exact exec_box 35 (.tmp 1) y.cells rfl (by kernel_rfl)) ?_
  simp only [Act.put, List.setIfInBounds_toArray, List.set_cons_succ, List.set_cons_zero]
  refine l_new (o := ⟨some 5, _, _, _, _, _⟩) (.pointer (some ⟨b1.heap.size, 0, none⟩)) b2 rfl (by rw [← hb2]; exact exec_box 29 (.tmp 2) p.cells rfl (by kernel_rfl)) ?_
  simp only [Act.put, List.setIfInBounds_toArray, List.set_cons_succ, List.set_cons_zero]
  refine l_val (o := ⟨some 6, _, _, _, _, _⟩) (.int .i64 0) rfl (exec_assign (.const (.int .i64 0)) (.int .i64 0) rfl (by kernel_rfl)) ?_
  simp only [Act.put, List.setIfInBounds_toArray, List.set_cons_succ, List.set_cons_zero]
  refine wpList_nil ?_
  obtain ⟨g3, hg3⟩ : ∃ g, w.heap.size = g := ⟨_, rfl⟩
  rw [hg3] at HB3 ⊢
  obtain ⟨g4, hg4⟩ : ∃ g, b0.heap.size = g := ⟨_, rfl⟩
  rw [hg4] at HB4 ⊢
  obtain ⟨g5, hg5⟩ : ∃ g, b1.heap.size = g := ⟨_, rfl⟩
  rw [hg5] at HB5 ⊢
  clear hg3 hb0 q0 hg4 hb1 q1 hg5 hb2 q2
  by_cases he : x.firm = y.firm
  · have HV2 : Hid (orI 8 (whenI (decide (x.desk = y.desk)) 4) = V) := by show _ = _; rw [← HV.out]; unfold tieV; rw [if_neg (by simp [he])]
    clear HV
    go_upto_region 1 with fail
    refine wp_text 5 [.eq (.pointer (some ⟨g3, 0, none⟩)), .eq (.int .i64 x.firm), .eq (.pointer (some ⟨g4, 0, none⟩)), .eq (.int .i64 y.firm), .eq (.bool false)] rfl (by kernel_rfl) ?_ ?_
    · refine sv 1 rfl rfl rfl (fun a u hE hD hk => exec_fldo 35 0 0 (.tmp 3) (g3) (0) (0) rfl (hE 3 (.pointer (some ⟨g3, 0, none⟩)) (by kernel_rfl) (by kernel_rfl)) (by kernel_rfl) rfl) ?_
      refine sv 2 rfl rfl rfl (fun a u hE hD hk => exec_loadi 3 Tryd.underlying3 (.tmp 7) ⟨g3, 0, none⟩ (.int .i64 x.firm) rfl (hD 0 7 (by kernel_rfl)) ((range_kept (HB3.out) hk) 0 _ rfl)) ?_
      refine sv 3 rfl rfl rfl (fun a u hE hD hk => exec_fldo 35 0 0 (.tmp 4) (g4) (0) (0) rfl (hE 4 (.pointer (some ⟨g4, 0, none⟩)) (by kernel_rfl) (by kernel_rfl)) (by kernel_rfl) rfl) ?_
      refine sv 4 rfl rfl rfl (fun a u hE hD hk => exec_loadi 3 Tryd.underlying3 (.tmp 9) ⟨g4, 0, none⟩ (.int .i64 y.firm) rfl (hD 2 9 (by kernel_rfl)) ((range_kept (HB4.out) hk) 0 _ rfl)) ?_
      refine fsteps_cons 5 rfl (fun a u hE hD hk => f_as (show ((decide ((x.firm : Int) ≠ (y.firm : Int))) : Bool) = false from decide_eq_false (by simp [he])) (f_val (o := ⟨some 11, _, _, _, _, _⟩) (.bool (decide ((x.firm : Int) ≠ (y.firm : Int)))) rfl (wanted_none rfl _) (exec_nen (p := x.firm) (q := y.firm) rfl (hD 1 8 (by kernel_rfl)) (hD 3 10 (by kernel_rfl))) rfl)) ?_
      exact fsteps_nil
    intro gv w1 hV k1
    rw [show dstsOf _ 5 = [7, 8, 9, 10, 11] by kernel_rfl]
    simp only [List.foldl_cons, List.foldl_nil, List.setIfInBounds_toArray, List.set_cons_succ, List.set_cons_zero, List.drop_succ_cons, List.drop_zero]
    rw [show gv 11 = .bool false from hV 4 11 (by kernel_rfl)]
    clear hV
    refine wpList_nil ?_
    have HC3 := Lib.hid (range_kept HB3.out k1)
    have HC4 := Lib.hid (range_kept HB4.out k1)
    have kw1 := k0.trans k1
    clear HB3 HB4 HB5 k0 k1
    go_upto_region 3 with fail
    refine wp_text 8 [.eq (.pointer (some ⟨g3, 1, none⟩)), .eq (.int .i64 x.desk), .eq (.pointer (some ⟨g4, 1, none⟩)), .eq (.int .i64 y.desk), .eq (.bool (decide ((x.desk : Int) = (y.desk : Int)))), .eq (.int .i64 (whenI (decide ((x.desk : Int) = (y.desk : Int))) 4)), .eq (.int .i64 V), .eq (.int .i64 V)] rfl (by kernel_rfl) ?_ ?_
    · refine sv 1 rfl rfl rfl (fun a u hE hD hk => exec_fldo 35 1 1 (.tmp 3) (g3) (0) (1) rfl (hE 3 (.pointer (some ⟨g3, 0, none⟩)) (by kernel_rfl) (by kernel_rfl)) (by kernel_rfl) rfl) ?_
      refine sv 2 rfl rfl rfl (fun a u hE hD hk => exec_loadi 3 Tryd.underlying3 (.tmp 21) ⟨g3, 1, none⟩ (.int .i64 x.desk) rfl (hD 0 21 (by kernel_rfl)) ((range_kept (HC3.out) hk) 1 _ rfl)) ?_
      refine sv 3 rfl rfl rfl (fun a u hE hD hk => exec_fldo 35 1 1 (.tmp 4) (g4) (0) (1) rfl (hE 4 (.pointer (some ⟨g4, 0, none⟩)) (by kernel_rfl) (by kernel_rfl)) (by kernel_rfl) rfl) ?_
      refine sv 4 rfl rfl rfl (fun a u hE hD hk => exec_loadi 3 Tryd.underlying3 (.tmp 23) ⟨g4, 1, none⟩ (.int .i64 y.desk) rfl (hD 2 23 (by kernel_rfl)) ((range_kept (HC4.out) hk) 1 _ rfl)) ?_
      refine sv 5 rfl rfl rfl (fun a u hE hD hk => exec_eqn (p := x.desk) (q := y.desk) rfl (hD 1 22 (by kernel_rfl)) (hD 3 24 (by kernel_rfl))) ?_
      refine fsteps_cons 6 rfl (fun a u hE hD hk => f_call (o := ⟨some 26, _, _, _, _, _⟩) 26 #[.bool (decide ((x.desk : Int) = (y.desk : Int))), .int .i64 4] rfl (wanted_none rfl _) (exec_call 26 _ [.tmp 25, .const (.int .i64 4)] _ [.bool (decide ((x.desk : Int) = (y.desk : Int))), .int .i64 4] Tryd.func26 (by kernel_rfl) (by kernel_rfl) rfl (show [a.eval (.tmp 25), a.eval (.const (.int .i64 4))] = [.bool (decide ((x.desk : Int) = (y.desk : Int))), .int .i64 4] from (by rw [show a.eval (.tmp 25) = .bool (decide ((x.desk : Int) = (y.desk : Int))) from (hD 4 25 (by kernel_rfl))] <;> rfl)) u) (when_any _ _ u)) ?_
      refine sv 7 rfl rfl rfl (fun a u hE hD hk => by rw [← HV2.out]; exact exec_orI (.const (.int .i64 8)) (.tmp 26) _ _ 8 (whenI (decide ((x.desk : Int) = (y.desk : Int))) 4) rfl rfl (hD 5 26 (by kernel_rfl))) ?_
      refine sv 8 rfl rfl rfl (fun a u hE hD hk => exec_assign (.tmp 27) _ rfl (hD 6 27 (by kernel_rfl))) ?_
      exact fsteps_nil
    intro gv w2 hV k2
    rw [show dstsOf _ 8 = [21, 22, 23, 24, 25, 26, 27, 6] by kernel_rfl]
    simp only [List.foldl_cons, List.foldl_nil, List.setIfInBounds_toArray, List.set_cons_succ, List.set_cons_zero, List.drop_succ_cons, List.drop_zero]
    rw [show gv 6 = .int .i64 V from hV 7 6 (by kernel_rfl)]
    clear hV
    refine wpList_nil ?_
    have kw2 := kw1.trans k2
    go_wp2
    go_ret
    exact ⟨rfl, kw2⟩
  · obtain ⟨i, hi, hxi⟩ : ∃ i : Nat, i < 8 ∧ x.firm = (i : Int) := ⟨x.firm.toNat, by omega, by omega⟩
    obtain ⟨G, hG⟩ : ∃ G, p.gra i = G := ⟨_, rfl⟩
    have HAG : Hid (p.cells[16 + i]? = some (.int .i64 G)) := by show _ = _; rw [← hG]; exact p.at_g hi
    have HV2 : Hid (whenI (hasB G y.firm) 16 = V) := by show _ = _; rw [← HV.out]; unfold tieV; rw [if_pos (by simpa using he), hxi, Int.toNat_natCast, hG]
    clear HV hG
    go_upto_region 1 with fail
    refine wp_text 5 [.eq (.pointer (some ⟨g3, 0, none⟩)), .eq (.int .i64 x.firm), .eq (.pointer (some ⟨g4, 0, none⟩)), .eq (.int .i64 y.firm), .eq (.bool true)] rfl (by kernel_rfl) ?_ ?_
    · refine sv 1 rfl rfl rfl (fun a u hE hD hk => exec_fldo 35 0 0 (.tmp 3) (g3) (0) (0) rfl (hE 3 (.pointer (some ⟨g3, 0, none⟩)) (by kernel_rfl) (by kernel_rfl)) (by kernel_rfl) rfl) ?_
      refine sv 2 rfl rfl rfl (fun a u hE hD hk => exec_loadi 3 Tryd.underlying3 (.tmp 7) ⟨g3, 0, none⟩ (.int .i64 x.firm) rfl (hD 0 7 (by kernel_rfl)) ((range_kept (HB3.out) hk) 0 _ rfl)) ?_
      refine sv 3 rfl rfl rfl (fun a u hE hD hk => exec_fldo 35 0 0 (.tmp 4) (g4) (0) (0) rfl (hE 4 (.pointer (some ⟨g4, 0, none⟩)) (by kernel_rfl) (by kernel_rfl)) (by kernel_rfl) rfl) ?_
      refine sv 4 rfl rfl rfl (fun a u hE hD hk => exec_loadi 3 Tryd.underlying3 (.tmp 9) ⟨g4, 0, none⟩ (.int .i64 y.firm) rfl (hD 2 9 (by kernel_rfl)) ((range_kept (HB4.out) hk) 0 _ rfl)) ?_
      refine fsteps_cons 5 rfl (fun a u hE hD hk => f_as (show ((decide ((x.firm : Int) ≠ (y.firm : Int))) : Bool) = true from decide_eq_true (by simpa using he)) (f_val (o := ⟨some 11, _, _, _, _, _⟩) (.bool (decide ((x.firm : Int) ≠ (y.firm : Int)))) rfl (wanted_none rfl _) (exec_nen (p := x.firm) (q := y.firm) rfl (hD 1 8 (by kernel_rfl)) (hD 3 10 (by kernel_rfl))) rfl)) ?_
      exact fsteps_nil
    intro gv w1 hV k1
    rw [show dstsOf _ 5 = [7, 8, 9, 10, 11] by kernel_rfl]
    simp only [List.foldl_cons, List.foldl_nil, List.setIfInBounds_toArray, List.set_cons_succ, List.set_cons_zero, List.drop_succ_cons, List.drop_zero]
    rw [show gv 11 = .bool true from hV 4 11 (by kernel_rfl)]
    clear hV
    refine wpList_nil ?_
    have HC3 := Lib.hid (range_kept HB3.out k1)
    have HC4 := Lib.hid (range_kept HB4.out k1)
    have HC5 := Lib.hid (range_kept HB5.out k1)
    have kw1 := k0.trans k1
    clear HB3 HB4 HB5 k0 k1
    go_upto_region 2 with fail
    refine wp_free 10 [.eq (.pointer (some ⟨g3, 0, none⟩)), .eq (.int .i64 x.firm), .eq (.pointer (some ⟨g5, 16, none⟩)), .eq (.pointer (some ⟨g5, 16 + i, none⟩)), .eq (.int .i64 G), .eq (.pointer (some ⟨g4, 0, none⟩)), .eq (.int .i64 y.firm), .eq (.bool (hasB G y.firm)), .eq (.int .i64 V), .eq (.int .i64 V)] (by kernel_rfl) rfl (by kernel_rfl) ?_ ?_
    · refine sv 1 rfl rfl rfl (fun a u hE hD hk => exec_fldo 35 0 0 (.tmp 3) (g3) (0) (0) rfl (hE 3 (.pointer (some ⟨g3, 0, none⟩)) (by kernel_rfl) (by kernel_rfl)) (by kernel_rfl) rfl) ?_
      refine sv 2 rfl rfl rfl (fun a u hE hD hk => exec_loadi 3 Tryd.underlying3 (.tmp 12) ⟨g3, 0, none⟩ (.int .i64 x.firm) rfl (hD 0 12 (by kernel_rfl)) ((range_kept (HC3.out) hk) 0 _ rfl)) ?_
      refine sv 3 rfl rfl rfl (fun a u hE hD hk => exec_fldo 29 2 16 (.tmp 5) (g5) (0) (16) rfl (hE 5 (.pointer (some ⟨g5, 0, none⟩)) (by kernel_rfl) (by kernel_rfl)) (by kernel_rfl) rfl) ?_
      refine sv 4 rfl rfl rfl (fun a u hE hD hk => exec_ixC 27 3 8 (.tmp 14) (.tmp 13) g5 16 (16 + i) i x.firm rfl Tryd.underlying27 (by kernel_rfl) (hD 2 14 (by kernel_rfl)) (hD 1 13 (by kernel_rfl)) hxi hi rfl) ?_
      refine sv 5 rfl rfl rfl (fun a u hE hD hk => exec_loadi 3 Tryd.underlying3 (.tmp 15) ⟨g5, 16 + i, none⟩ (.int .i64 G) rfl (hD 3 15 (by kernel_rfl)) (by have h_ := range_kept HC5.out hk (16 + i) _ HAG.out; rwa [Nat.zero_add] at h_)) ?_
      refine sv 6 rfl rfl rfl (fun a u hE hD hk => exec_fldo 35 0 0 (.tmp 4) (g4) (0) (0) rfl (hE 4 (.pointer (some ⟨g4, 0, none⟩)) (by kernel_rfl) (by kernel_rfl)) (by kernel_rfl) rfl) ?_
      refine sv 7 rfl rfl rfl (fun a u hE hD hk => exec_loadi 3 Tryd.underlying3 (.tmp 17) ⟨g4, 0, none⟩ (.int .i64 y.firm) rfl (hD 5 17 (by kernel_rfl)) ((range_kept (HC4.out) hk) 0 _ rfl)) ?_
      refine fsteps_cons 8 rfl (fun a u hE hD hk => f_call (o := ⟨some 19, _, _, _, _, _⟩) 27 #[.int .i64 G, .int .i64 y.firm] rfl (wanted_none rfl _) (exec_call 27 _ [.tmp 16, .tmp 18] _ [.int .i64 G, .int .i64 y.firm] Tryd.func27 (by kernel_rfl) (by kernel_rfl) rfl (show [a.eval (.tmp 16), a.eval (.tmp 18)] = [.int .i64 G, .int .i64 y.firm] from (by rw [show a.eval (.tmp 16) = .int .i64 G from (hD 4 16 (by kernel_rfl)), show a.eval (.tmp 18) = .int .i64 y.firm from (hD 6 18 (by kernel_rfl))] <;> rfl)) u) (has_any _ _ hy0 u)) ?_
      refine fsteps_cons 9 rfl (fun a u hE hD hk => f_call (o := ⟨some 20, _, _, _, _, _⟩) 26 #[.bool (hasB G y.firm), .int .i64 16] rfl (wanted_none rfl _) (exec_call 26 _ [.tmp 19, .const (.int .i64 16)] _ [.bool (hasB G y.firm), .int .i64 16] Tryd.func26 (by kernel_rfl) (by kernel_rfl) rfl (show [a.eval (.tmp 19), a.eval (.const (.int .i64 16))] = [.bool (hasB G y.firm), .int .i64 16] from (by rw [show a.eval (.tmp 19) = .bool (hasB G y.firm) from (hD 7 19 (by kernel_rfl))] <;> rfl)) u) (by rw [← HV2.out]; exact when_any _ _ u)) ?_
      refine sv 10 rfl rfl rfl (fun a u hE hD hk => exec_assign (.tmp 20) _ rfl (hD 8 20 (by kernel_rfl))) ?_
      exact fsteps_nil
    intro gv w2 hV k2
    rw [show dstsOf _ 10 = [12, 13, 14, 15, 16, 17, 18, 19, 20, 6] by kernel_rfl]
    simp only [List.foldl_cons, List.foldl_nil, List.setIfInBounds_toArray, List.set_cons_succ, List.set_cons_zero, List.drop_succ_cons, List.drop_zero]
    rw [show gv 6 = .int .i64 V from hV 9 6 (by kernel_rfl)]
    clear hV
    refine wpList_nil ?_
    have kw2 := kw1.trans k2
    go_wp2
    go_ret
    exact ⟨rfl, kw2⟩
set_option maxRecDepth 100000 in
set_option maxHeartbeats 3200000 in
theorem trade_any (x : Trd) (p : Phs) (inst : Int) (w : World) (hG : RulIn w) : Gives 19 #[x.v, p.v, .int .i64 inst] w (.eq (.int .i64 (tradeV x p inst))) := by
  refine gives_eq ?_
  obtain ⟨V, hV⟩ : ∃ V, tradeV x p inst = V := ⟨_, rfl⟩
  have HV := Lib.hid hV
  have HG := Lib.hid hG
  rw [hV]
  clear hV hG
  obtain ⟨b0, hb0⟩ : ∃ z, w.alloc (.cells x.cells.toArray 35) = z := ⟨_, rfl⟩
  have q0 : Kept w b0 := by rw [← hb0]; exact (Keep.refl _ _).alloc _
  have r0 : b0.rangeAt w.heap.size 0 x.cells := by rw [← hb0]; exact blk_range (Blk.new w 35 x.cells)
  obtain ⟨b1, hb1⟩ : ∃ z, b0.alloc (.cells p.cells.toArray 29) = z := ⟨_, rfl⟩
  have q1 : Kept b0 b1 := by rw [← hb1]; exact (Keep.refl _ _).alloc _
  have r1 : b1.rangeAt b0.heap.size 0 p.cells := by rw [← hb1]; exact blk_range (Blk.new b0 29 p.cells)
  have HB3 := Lib.hid (range_kept (r0) q1)
  have HB4 := Lib.hid (r1)
  have k0 := (q0).trans q1
  clear r0 r1
  go_enter Tryd.func19, Tryd.ntmps19
  go_upto_region 0 with fail
  refine wp_region_lit ?_
  refine l_new (o := ⟨some 3, _, _, _, _, _⟩) (.pointer (some ⟨w.heap.size, 0, none⟩)) b0 rfl (by rw [← hb0]; exact exec_box 35 (.tmp 0) x.cells rfl (by kernel_rfl)) ?_
  simp only [Act.put, List.setIfInBounds_toArray, List.set_cons_succ, List.set_cons_zero]
  refine l_new (o := ⟨some 4, _, _, _, _, _⟩) (.pointer (some ⟨b0.heap.size, 0, none⟩)) b1 rfl (by rw [← hb1]; exact exec_box 29 (.tmp 1) p.cells rfl (by kernel_rfl)) ?_
  simp only [Act.put, List.setIfInBounds_toArray, List.set_cons_succ, List.set_cons_zero]
  refine l_val (o := ⟨some 6, _, _, _, _, _⟩) (.int .i64 0) rfl (exec_assign (.const (.int .i64 0)) (.int .i64 0) rfl (by kernel_rfl)) ?_
  simp only [Act.put, List.setIfInBounds_toArray, List.set_cons_succ, List.set_cons_zero]
  refine wpList_nil ?_
  obtain ⟨g3, hg3⟩ : ∃ g, w.heap.size = g := ⟨_, rfl⟩
  rw [hg3] at HB3 ⊢
  obtain ⟨g4, hg4⟩ : ∃ g, b0.heap.size = g := ⟨_, rfl⟩
  rw [hg4] at HB4 ⊢
  clear hg3 hb0 q0 hg4 hb1 q1
  by_cases hn : inst < 0 ∨ 8 ≤ inst
  · have HV2 : Hid (V = 1) := by show _ = _; rw [← HV.out]; unfold tradeV; rw [if_pos hn]
    clear HV
    go_upto_region 1 with fail
    refine wp_text 6 [.eq (.int .i64 inst), .eq (.bool (decide ((inst : Int) < (0 : Int)))), .eq (.bool (decide ((inst : Int) < (0 : Int)))), .cond (!(decide ((inst : Int) < (0 : Int)))) (.eq (.int .i64 inst)), .cond (!(decide ((inst : Int) < (0 : Int)))) (.eq (.bool (decide ((8 : Int) ≤ (inst : Int))))), .eq (.bool true)] rfl (by kernel_rfl) ?_ ?_
    · refine sv 1 rfl rfl rfl (fun a u hE hD hk => exec_move (.tmp 2) _ rfl (hE 2 (.int .i64 inst) (by kernel_rfl) (by kernel_rfl))) ?_
      refine sv 2 rfl rfl rfl (fun a u hE hD hk => exec_ltn (p := inst) (q := 0) rfl (hD 0 8 (by kernel_rfl)) rfl) ?_
      refine sv 3 rfl rfl rfl (fun a u hE hD hk => exec_move (.tmp 9) _ rfl (hD 1 9 (by kernel_rfl))) ?_
      refine fsteps_cons 4 rfl (fun a u hE hD hk => f_unless ((decide ((inst : Int) < (0 : Int)))) rfl rfl rfl (hD 2 10 (by kernel_rfl)) (fun hb => f_val (o := ⟨some 11, _, _, _, _, _⟩) (.int .i64 inst) rfl (wanted_b rfl rfl (hD 2 10 (by kernel_rfl)) (eq_false_of hb)) (exec_move (.tmp 2) _ rfl (hE 2 (.int .i64 inst) (by kernel_rfl) (by kernel_rfl))) rfl)) ?_
      refine fsteps_cons 5 rfl (fun a u hE hD hk => f_unless ((decide ((inst : Int) < (0 : Int)))) rfl rfl rfl (hD 2 10 (by kernel_rfl)) (fun hb => f_val (o := ⟨some 12, _, _, _, _, _⟩) (.bool (decide ((8 : Int) ≤ (inst : Int)))) rfl (wanted_b rfl rfl (hD 2 10 (by kernel_rfl)) (eq_false_of hb)) (exec_gen (p := inst) (q := 8) rfl ((hD 3 11 (by kernel_rfl)).1 hb) rfl) rfl)) ?_
      refine fsteps_cons 6 rfl (fun a u hE hD hk => f_as (show (((decide ((inst : Int) < (0 : Int))) || (decide ((8 : Int) ≤ (inst : Int)))) : Bool) = true from (by rw [Bool.or_eq_true]; simpa using hn)) (f_val (o := ⟨some 13, _, _, _, _, _⟩) (.bool ((decide ((inst : Int) < (0 : Int))) || (decide ((8 : Int) ≤ (inst : Int))))) rfl (wanted_none rfl _) (exec_pickor (.tmp 10) (.const (.bool true)) (.tmp 12) ((decide ((inst : Int) < (0 : Int)))) ((decide ((8 : Int) ≤ (inst : Int)))) rfl (hD 2 10 (by kernel_rfl)) rfl (fun hb2 => ((hD 4 12 (by kernel_rfl)).1 hb2))) rfl)) ?_
      exact fsteps_nil
    intro gv w1 hV k1
    rw [show dstsOf _ 6 = [8, 9, 10, 11, 12, 13] by kernel_rfl]
    simp only [List.foldl_cons, List.foldl_nil, List.setIfInBounds_toArray, List.set_cons_succ, List.set_cons_zero, List.drop_succ_cons, List.drop_zero]
    rw [show gv 13 = .bool true from hV 5 13 (by kernel_rfl)]
    clear hV
    refine wpList_nil ?_
    have kw1 := k0.trans k1
    go_wp2
    go_ret
    exact ⟨by rw [HV2.out]; rfl, kw1⟩
  · obtain ⟨i, hi, rfl⟩ : ∃ i : Nat, i < 8 ∧ inst = (i : Int) := ⟨inst.toNat, by omega, by omega⟩
    obtain ⟨E, hE⟩ : ∃ E, entV x.roles 1 (whenI (hasB x.insts (i : Int)) 32) = E := ⟨_, rfl⟩
    obtain ⟨H, hH⟩ : ∃ H, p.hal i = H := ⟨_, rfl⟩
    have HAH : Hid (p.cells[i]? = some (.bool H)) := by show _ = _; rw [← hH]; exact p.at_h hi
    have HV2 : Hid ((if (decide (E = 0) && H) = true then 9 else E) = V) := by show _ = _; rw [← HV.out]; unfold tradeV; rw [if_neg hn, Int.toNat_natCast, hE, hH]
    have HEE := Lib.hid hE
    clear HV hE hH hn
    go_upto_region 1 with fail
    refine wp_text 6 [.eq (.int .i64 (i : Int)), .eq (.bool (decide (((i : Int) : Int) < (0 : Int)))), .eq (.bool (decide (((i : Int) : Int) < (0 : Int)))), .cond (!(decide (((i : Int) : Int) < (0 : Int)))) (.eq (.int .i64 (i : Int))), .cond (!(decide (((i : Int) : Int) < (0 : Int)))) (.eq (.bool (decide ((8 : Int) ≤ ((i : Int) : Int))))), .eq (.bool false)] rfl (by kernel_rfl) ?_ ?_
    · refine sv 1 rfl rfl rfl (fun a u hE hD hk => exec_move (.tmp 2) _ rfl (hE 2 (.int .i64 (i : Int)) (by kernel_rfl) (by kernel_rfl))) ?_
      refine sv 2 rfl rfl rfl (fun a u hE hD hk => exec_ltn (p := (i : Int)) (q := 0) rfl (hD 0 8 (by kernel_rfl)) rfl) ?_
      refine sv 3 rfl rfl rfl (fun a u hE hD hk => exec_move (.tmp 9) _ rfl (hD 1 9 (by kernel_rfl))) ?_
      refine fsteps_cons 4 rfl (fun a u hE hD hk => f_unless ((decide (((i : Int) : Int) < (0 : Int)))) rfl rfl rfl (hD 2 10 (by kernel_rfl)) (fun hb => f_val (o := ⟨some 11, _, _, _, _, _⟩) (.int .i64 (i : Int)) rfl (wanted_b rfl rfl (hD 2 10 (by kernel_rfl)) (eq_false_of hb)) (exec_move (.tmp 2) _ rfl (hE 2 (.int .i64 (i : Int)) (by kernel_rfl) (by kernel_rfl))) rfl)) ?_
      refine fsteps_cons 5 rfl (fun a u hE hD hk => f_unless ((decide (((i : Int) : Int) < (0 : Int)))) rfl rfl rfl (hD 2 10 (by kernel_rfl)) (fun hb => f_val (o := ⟨some 12, _, _, _, _, _⟩) (.bool (decide ((8 : Int) ≤ ((i : Int) : Int)))) rfl (wanted_b rfl rfl (hD 2 10 (by kernel_rfl)) (eq_false_of hb)) (exec_gen (p := (i : Int)) (q := 8) rfl ((hD 3 11 (by kernel_rfl)).1 hb) rfl) rfl)) ?_
      refine fsteps_cons 6 rfl (fun a u hE hD hk => f_as (show (((decide (((i : Int) : Int) < (0 : Int))) || (decide ((8 : Int) ≤ ((i : Int) : Int)))) : Bool) = false from (by rw [Bool.or_eq_false_iff]; simp only [decide_eq_false_iff_not]; omega)) (f_val (o := ⟨some 13, _, _, _, _, _⟩) (.bool ((decide (((i : Int) : Int) < (0 : Int))) || (decide ((8 : Int) ≤ ((i : Int) : Int))))) rfl (wanted_none rfl _) (exec_pickor (.tmp 10) (.const (.bool true)) (.tmp 12) ((decide (((i : Int) : Int) < (0 : Int)))) ((decide ((8 : Int) ≤ ((i : Int) : Int)))) rfl (hD 2 10 (by kernel_rfl)) rfl (fun hb2 => ((hD 4 12 (by kernel_rfl)).1 hb2))) rfl)) ?_
      exact fsteps_nil
    intro gv w1 hV k1
    rw [show dstsOf _ 6 = [8, 9, 10, 11, 12, 13] by kernel_rfl]
    simp only [List.foldl_cons, List.foldl_nil, List.setIfInBounds_toArray, List.set_cons_succ, List.set_cons_zero, List.drop_succ_cons, List.drop_zero]
    rw [show gv 13 = .bool false from hV 5 13 (by kernel_rfl)]
    clear hV
    refine wpList_nil ?_
    have HC3 := Lib.hid (range_kept HB3.out k1)
    have HC4 := Lib.hid (range_kept HB4.out k1)
    have HG1 := Lib.hid ((HG.out.kept k0).kept k1)
    have kw1 := k0.trans k1
    clear HB3 HB4 k0 k1 HG
    go_upto_region 3 with fail
    refine wp_free 8 [.eq (x.v), .eq (.pointer (some ⟨g3, 3, none⟩)), .eq (.int .i64 x.insts), .eq (.int .i64 (i : Int)), .eq (.bool (hasB x.insts (i : Int))), .eq (.int .i64 (whenI (hasB x.insts (i : Int)) 32)), .eq (.int .i64 E), .eq (.int .i64 E)] (by kernel_rfl) rfl (by kernel_rfl) ?_ ?_
    · refine sv 1 rfl rfl rfl (fun a u hE hD hk => exec_ldS 35 _ (.tmp 3) (g3) (0) (x.cells) rfl (hE 3 (.pointer (some ⟨g3, 0, none⟩)) (by kernel_rfl) (by kernel_rfl)) (range_kept (HC3.out) hk) Tryd.underlying35 (by rw [Trd.len37]; exact szT)) ?_
      refine sv 2 rfl rfl rfl (fun a u hE hD hk => exec_fldo 35 3 3 (.tmp 3) (g3) (0) (3) rfl (hE 3 (.pointer (some ⟨g3, 0, none⟩)) (by kernel_rfl) (by kernel_rfl)) (by kernel_rfl) rfl) ?_
      refine sv 3 rfl rfl rfl (fun a u hE hD hk => exec_loadi 3 Tryd.underlying3 (.tmp 15) ⟨g3, 3, none⟩ (.int .i64 x.insts) rfl (hD 1 15 (by kernel_rfl)) ((range_kept (HC3.out) hk) 3 _ rfl)) ?_
      refine sv 4 rfl rfl rfl (fun a u hE hD hk => exec_move (.tmp 2) _ rfl (hE 2 (.int .i64 (i : Int)) (by kernel_rfl) (by kernel_rfl))) ?_
      refine fsteps_cons 5 rfl (fun a u hE hD hk => f_call (o := ⟨some 18, _, _, _, _, _⟩) 27 #[.int .i64 x.insts, .int .i64 (i : Int)] rfl (wanted_none rfl _) (exec_call 27 _ [.tmp 16, .tmp 17] _ [.int .i64 x.insts, .int .i64 (i : Int)] Tryd.func27 (by kernel_rfl) (by kernel_rfl) rfl (show [a.eval (.tmp 16), a.eval (.tmp 17)] = [.int .i64 x.insts, .int .i64 (i : Int)] from (by rw [show a.eval (.tmp 16) = .int .i64 x.insts from (hD 2 16 (by kernel_rfl)), show a.eval (.tmp 17) = .int .i64 (i : Int) from (hD 3 17 (by kernel_rfl))] <;> rfl)) u) (has_any _ _ (by omega) u)) ?_
      refine fsteps_cons 6 rfl (fun a u hE hD hk => f_call (o := ⟨some 19, _, _, _, _, _⟩) 26 #[.bool (hasB x.insts (i : Int)), .int .i64 32] rfl (wanted_none rfl _) (exec_call 26 _ [.tmp 18, .const (.int .i64 32)] _ [.bool (hasB x.insts (i : Int)), .int .i64 32] Tryd.func26 (by kernel_rfl) (by kernel_rfl) rfl (show [a.eval (.tmp 18), a.eval (.const (.int .i64 32))] = [.bool (hasB x.insts (i : Int)), .int .i64 32] from (by rw [show a.eval (.tmp 18) = .bool (hasB x.insts (i : Int)) from (hD 4 18 (by kernel_rfl))] <;> rfl)) u) (when_any _ _ u)) ?_
      refine fsteps_cons 7 rfl (fun a u hE hD hk => f_call (o := ⟨some 20, _, _, _, _, _⟩) 21 #[x.v, .int .i64 1, .int .i64 (whenI (hasB x.insts (i : Int)) 32)] rfl (wanted_none rfl _) (exec_call 21 _ [.tmp 14, .const (.int .i64 1), .tmp 19] _ [x.v, .int .i64 1, .int .i64 (whenI (hasB x.insts (i : Int)) 32)] Tryd.func21 (by kernel_rfl) (by kernel_rfl) rfl (show [a.eval (.tmp 14), a.eval (.const (.int .i64 1)), a.eval (.tmp 19)] = [x.v, .int .i64 1, .int .i64 (whenI (hasB x.insts (i : Int)) 32)] from (by rw [show a.eval (.tmp 14) = x.v from (hD 0 14 (by kernel_rfl)), show a.eval (.tmp 19) = .int .i64 (whenI (hasB x.insts (i : Int)) 32) from (hD 5 19 (by kernel_rfl))] <;> rfl)) u) (by rw [← HEE.out]; exact entitled_any x _ _ u (HG1.out.kept hk))) ?_
      refine sv 8 rfl rfl rfl (fun a u hE hD hk => exec_assign (.tmp 20) _ rfl (hD 6 20 (by kernel_rfl))) ?_
      exact fsteps_nil
    intro gv w2 hV k2
    rw [show dstsOf _ 8 = [14, 15, 16, 17, 18, 19, 20, 7] by kernel_rfl]
    simp only [List.foldl_cons, List.foldl_nil, List.setIfInBounds_toArray, List.set_cons_succ, List.set_cons_zero, List.drop_succ_cons, List.drop_zero]
    rw [show gv 7 = .int .i64 E from hV 7 7 (by kernel_rfl)]
    clear hV
    refine wpList_nil ?_
    have HD4 := Lib.hid (range_kept HC4.out k2)
    have kw2 := kw1.trans k2
    clear HC3 HC4 HG1 HEE kw1 k2
    cases hb : (decide ((E : Int) = (0 : Int)) && H) with
    | true =>
      have HV3 : Hid (V = 9) := by show _ = _; rw [← HV2.out, if_pos hb]
      have HB := Lib.hid hb
      clear HV2 hb
      go_upto_region 4 with fail
      refine wp_text 8 [.eq (.int .i64 E), .eq (.bool (decide ((E : Int) = (0 : Int)))), .eq (.bool (decide ((E : Int) = (0 : Int)))), .cond (decide ((E : Int) = (0 : Int))) (.eq (.int .i64 (i : Int))), .cond (decide ((E : Int) = (0 : Int))) (.eq (.pointer (some ⟨g4, 0, none⟩))), .cond (decide ((E : Int) = (0 : Int))) (.eq (.pointer (some ⟨g4, i, none⟩))), .cond (decide ((E : Int) = (0 : Int))) (.eq (.bool H)), .eq (.bool true)] rfl (by kernel_rfl) ?_ ?_
      · refine sv 1 rfl rfl rfl (fun a u hE hD hk => exec_move (.tmp 7) _ rfl (hE 7 (.int .i64 E) (by kernel_rfl) (by kernel_rfl))) ?_
        refine sv 2 rfl rfl rfl (fun a u hE hD hk => exec_eqn (p := E) (q := 0) rfl (hD 0 21 (by kernel_rfl)) rfl) ?_
        refine sv 3 rfl rfl rfl (fun a u hE hD hk => exec_move (.tmp 22) _ rfl (hD 1 22 (by kernel_rfl))) ?_
        refine fsteps_cons 4 rfl (fun a u hE hD hk => f_if ((decide ((E : Int) = (0 : Int)))) rfl rfl rfl (hD 2 23 (by kernel_rfl)) (fun hb => f_val (o := ⟨some 24, _, _, _, _, _⟩) (.int .i64 (i : Int)) rfl (wanted_b rfl rfl (hD 2 23 (by kernel_rfl)) (eq_true_of hb)) (exec_move (.tmp 2) _ rfl (hE 2 (.int .i64 (i : Int)) (by kernel_rfl) (by kernel_rfl))) rfl)) ?_
        refine fsteps_cons 5 rfl (fun a u hE hD hk => f_if ((decide ((E : Int) = (0 : Int)))) rfl rfl rfl (hD 2 23 (by kernel_rfl)) (fun hb => f_val (o := ⟨some 25, _, _, _, _, _⟩) (.pointer (some ⟨g4, 0, none⟩)) rfl (wanted_b rfl rfl (hD 2 23 (by kernel_rfl)) (eq_true_of hb)) (exec_fldo 29 0 0 (.tmp 4) (g4) (0) (0) rfl (hE 4 (.pointer (some ⟨g4, 0, none⟩)) (by kernel_rfl) (by kernel_rfl)) (by kernel_rfl) rfl) rfl)) ?_
        refine fsteps_cons 6 rfl (fun a u hE hD hk => f_if ((decide ((E : Int) = (0 : Int)))) rfl rfl rfl (hD 2 23 (by kernel_rfl)) (fun hb => f_val (o := ⟨some 26, _, _, _, _, _⟩) (.pointer (some ⟨g4, i, none⟩)) rfl (wanted_b rfl rfl (hD 2 23 (by kernel_rfl)) (eq_true_of hb)) (exec_ixC 26 4 8 (.tmp 25) (.tmp 24) g4 0 i i (i : Int) rfl Tryd.underlying26 (by kernel_rfl) ((hD 4 25 (by kernel_rfl)).1 hb) ((hD 3 24 (by kernel_rfl)).1 hb) rfl hi (Nat.zero_add i)) rfl)) ?_
        refine fsteps_cons 7 rfl (fun a u hE hD hk => f_if ((decide ((E : Int) = (0 : Int)))) rfl rfl rfl (hD 2 23 (by kernel_rfl)) (fun hb => f_val (o := ⟨some 27, _, _, _, _, _⟩) (.bool H) rfl (wanted_b rfl rfl (hD 2 23 (by kernel_rfl)) (eq_true_of hb)) (exec_ldb 4 Tryd.underlying4 (.tmp 26) ⟨g4, i, none⟩ (.bool H) rfl ((hD 5 26 (by kernel_rfl)).1 hb) (by have h_ := range_kept HD4.out hk i _ HAH.out; rwa [Nat.zero_add] at h_)) rfl)) ?_
        refine fsteps_cons 8 rfl (fun a u hE hD hk => f_as (show (((decide ((E : Int) = (0 : Int))) && H) : Bool) = true from HB.out) (f_val (o := ⟨some 28, _, _, _, _, _⟩) (.bool ((decide ((E : Int) = (0 : Int))) && H)) rfl (wanted_none rfl _) (exec_pickand (.tmp 23) (.tmp 27) (.const (.bool false)) ((decide ((E : Int) = (0 : Int)))) (H) rfl (hD 2 23 (by kernel_rfl)) (fun hb2 => ((hD 6 27 (by kernel_rfl)).1 hb2)) rfl) rfl)) ?_
        exact fsteps_nil
      intro gv w3 hV k3
      rw [show dstsOf _ 8 = [21, 22, 23, 24, 25, 26, 27, 28] by kernel_rfl]
      simp only [List.foldl_cons, List.foldl_nil, List.setIfInBounds_toArray, List.set_cons_succ, List.set_cons_zero, List.drop_succ_cons, List.drop_zero]
      rw [show gv 28 = .bool true from hV 7 28 (by kernel_rfl)]
      clear hV
      refine wpList_nil ?_
      have kw3 := kw2.trans k3
      go_wp2
      go_ret
      exact ⟨by rw [HV3.out]; rfl, kw3⟩
    | false =>
      have HV3 : Hid (E = V) := by show _ = _; rw [← HV2.out, if_neg (by rw [hb]; simp)]
      have HB := Lib.hid hb
      clear HV2 hb
      go_upto_region 4 with fail
      refine wp_text 8 [.eq (.int .i64 E), .eq (.bool (decide ((E : Int) = (0 : Int)))), .eq (.bool (decide ((E : Int) = (0 : Int)))), .cond (decide ((E : Int) = (0 : Int))) (.eq (.int .i64 (i : Int))), .cond (decide ((E : Int) = (0 : Int))) (.eq (.pointer (some ⟨g4, 0, none⟩))), .cond (decide ((E : Int) = (0 : Int))) (.eq (.pointer (some ⟨g4, i, none⟩))), .cond (decide ((E : Int) = (0 : Int))) (.eq (.bool H)), .eq (.bool false)] rfl (by kernel_rfl) ?_ ?_
      · refine sv 1 rfl rfl rfl (fun a u hE hD hk => exec_move (.tmp 7) _ rfl (hE 7 (.int .i64 E) (by kernel_rfl) (by kernel_rfl))) ?_
        refine sv 2 rfl rfl rfl (fun a u hE hD hk => exec_eqn (p := E) (q := 0) rfl (hD 0 21 (by kernel_rfl)) rfl) ?_
        refine sv 3 rfl rfl rfl (fun a u hE hD hk => exec_move (.tmp 22) _ rfl (hD 1 22 (by kernel_rfl))) ?_
        refine fsteps_cons 4 rfl (fun a u hE hD hk => f_if ((decide ((E : Int) = (0 : Int)))) rfl rfl rfl (hD 2 23 (by kernel_rfl)) (fun hb => f_val (o := ⟨some 24, _, _, _, _, _⟩) (.int .i64 (i : Int)) rfl (wanted_b rfl rfl (hD 2 23 (by kernel_rfl)) (eq_true_of hb)) (exec_move (.tmp 2) _ rfl (hE 2 (.int .i64 (i : Int)) (by kernel_rfl) (by kernel_rfl))) rfl)) ?_
        refine fsteps_cons 5 rfl (fun a u hE hD hk => f_if ((decide ((E : Int) = (0 : Int)))) rfl rfl rfl (hD 2 23 (by kernel_rfl)) (fun hb => f_val (o := ⟨some 25, _, _, _, _, _⟩) (.pointer (some ⟨g4, 0, none⟩)) rfl (wanted_b rfl rfl (hD 2 23 (by kernel_rfl)) (eq_true_of hb)) (exec_fldo 29 0 0 (.tmp 4) (g4) (0) (0) rfl (hE 4 (.pointer (some ⟨g4, 0, none⟩)) (by kernel_rfl) (by kernel_rfl)) (by kernel_rfl) rfl) rfl)) ?_
        refine fsteps_cons 6 rfl (fun a u hE hD hk => f_if ((decide ((E : Int) = (0 : Int)))) rfl rfl rfl (hD 2 23 (by kernel_rfl)) (fun hb => f_val (o := ⟨some 26, _, _, _, _, _⟩) (.pointer (some ⟨g4, i, none⟩)) rfl (wanted_b rfl rfl (hD 2 23 (by kernel_rfl)) (eq_true_of hb)) (exec_ixC 26 4 8 (.tmp 25) (.tmp 24) g4 0 i i (i : Int) rfl Tryd.underlying26 (by kernel_rfl) ((hD 4 25 (by kernel_rfl)).1 hb) ((hD 3 24 (by kernel_rfl)).1 hb) rfl hi (Nat.zero_add i)) rfl)) ?_
        refine fsteps_cons 7 rfl (fun a u hE hD hk => f_if ((decide ((E : Int) = (0 : Int)))) rfl rfl rfl (hD 2 23 (by kernel_rfl)) (fun hb => f_val (o := ⟨some 27, _, _, _, _, _⟩) (.bool H) rfl (wanted_b rfl rfl (hD 2 23 (by kernel_rfl)) (eq_true_of hb)) (exec_ldb 4 Tryd.underlying4 (.tmp 26) ⟨g4, i, none⟩ (.bool H) rfl ((hD 5 26 (by kernel_rfl)).1 hb) (by have h_ := range_kept HD4.out hk i _ HAH.out; rwa [Nat.zero_add] at h_)) rfl)) ?_
        refine fsteps_cons 8 rfl (fun a u hE hD hk => f_as (show (((decide ((E : Int) = (0 : Int))) && H) : Bool) = false from HB.out) (f_val (o := ⟨some 28, _, _, _, _, _⟩) (.bool ((decide ((E : Int) = (0 : Int))) && H)) rfl (wanted_none rfl _) (exec_pickand (.tmp 23) (.tmp 27) (.const (.bool false)) ((decide ((E : Int) = (0 : Int)))) (H) rfl (hD 2 23 (by kernel_rfl)) (fun hb2 => ((hD 6 27 (by kernel_rfl)).1 hb2)) rfl) rfl)) ?_
        exact fsteps_nil
      intro gv w3 hV k3
      rw [show dstsOf _ 8 = [21, 22, 23, 24, 25, 26, 27, 28] by kernel_rfl]
      simp only [List.foldl_cons, List.foldl_nil, List.setIfInBounds_toArray, List.set_cons_succ, List.set_cons_zero, List.drop_succ_cons, List.drop_zero]
      rw [show gv 28 = .bool false from hV 7 28 (by kernel_rfl)]
      clear hV
      refine wpList_nil ?_
      have kw3 := kw2.trans k3
      go_wp2
      go_ret
      exact ⟨by rw [← HV3.out]; rfl, kw3⟩
set_option maxRecDepth 100000 in
set_option maxHeartbeats 3200000 in
theorem act_any (q : Nat) (X : Trds) (p : Phs) (n d other : Int) (w : World) (hG : RulIn w) (hB : Blk w q 58 X.cells) (hX : X.Ok) (hn : X.there n = true) : Gives 20 #[.pointer (some ⟨q, 0, none⟩), p.v, .int .i64 n, .int .i64 d, .int .i64 other] w (.eq (.int .i64 (actV X p n d other))) := by
  refine gives_eq ?_
  obtain ⟨V, hV⟩ : ∃ V, actV X p n d other = V := ⟨_, rfl⟩
  have HV := Lib.hid hV
  have HG := Lib.hid hG
  have HT := Lib.hid hB
  have HX := Lib.hid hX
  have HNn := Lib.hid hn
  rw [hV]
  clear hV hG hB hX hn
  obtain ⟨b0, hb0⟩ : ∃ z, w.alloc (.cells p.cells.toArray 29) = z := ⟨_, rfl⟩
  have q0 : Kept w b0 := by rw [← hb0]; exact (Keep.refl _ _).alloc _
  have r0 : b0.rangeAt w.heap.size 0 p.cells := by rw [← hb0]; exact blk_range (Blk.new w 29 p.cells)
  have HB6 := Lib.hid (r0)
  have k0 := q0
  clear r0
  go_enter Tryd.func20, Tryd.ntmps20
  go_upto_region 0 with fail
  refine wp_region_lit ?_
  refine l_new (o := ⟨some 6, _, _, _, _, _⟩) (.pointer (some ⟨w.heap.size, 0, none⟩)) b0 rfl (by rw [← hb0]; exact exec_box 29 (.tmp 1) p.cells rfl (by kernel_rfl)) ?_
  simp only [Act.put, List.setIfInBounds_toArray, List.set_cons_succ, List.set_cons_zero]
  refine l_val (o := ⟨some 10, _, _, _, _, _⟩) (.int .i64 0) rfl (exec_assign (.const (.int .i64 0)) (.int .i64 0) rfl (by kernel_rfl)) ?_
  simp only [Act.put, List.setIfInBounds_toArray, List.set_cons_succ, List.set_cons_zero]
  refine wpList_nil ?_
  obtain ⟨g6, hg6⟩ : ∃ g, w.heap.size = g := ⟨_, rfl⟩
  rw [hg6] at HB6 ⊢
  clear hg6 hb0 q0
  have HG0 := Lib.hid (HG.out.kept k0)
  have HT0 := Lib.hid (HT.out.kept k0)
  clear HG HT
  cases ho : X.there other with
  | false =>
    have HV2 : Hid (V = 6) := by show _ = _; rw [← HV.out]; unfold actV; rw [if_neg (by rw [ho]; simp)]
    have HO := Lib.hid ho
    clear HV ho
    go_upto_region 1 with fail
    refine wp_text 4 [.eq (.pointer (some ⟨q, 0, none⟩)), .eq (.int .i64 other), .eq (.bool false), .eq (.bool true)] rfl (by kernel_rfl) ?_ ?_
    · refine sv 1 rfl rfl rfl (fun a u hE hD hk => exec_move (.tmp 0) _ rfl (hE 0 (.pointer (some ⟨q, 0, none⟩)) (by kernel_rfl) (by kernel_rfl))) ?_
      refine sv 2 rfl rfl rfl (fun a u hE hD hk => exec_move (.tmp 4) _ rfl (hE 4 (.int .i64 other) (by kernel_rfl) (by kernel_rfl))) ?_
      refine fsteps_cons 3 rfl (fun a u hE hD hk => f_call (o := ⟨some 16, _, _, _, _, _⟩) 16 #[.pointer (some ⟨q, 0, none⟩), .int .i64 other] rfl (wanted_none rfl _) (exec_call 16 _ [.tmp 14, .tmp 15] _ [.pointer (some ⟨q, 0, none⟩), .int .i64 other] Tryd.func16 (by kernel_rfl) (by kernel_rfl) rfl (show [a.eval (.tmp 14), a.eval (.tmp 15)] = [.pointer (some ⟨q, 0, none⟩), .int .i64 other] from (by rw [show a.eval (.tmp 14) = .pointer (some ⟨q, 0, none⟩) from (hD 0 14 (by kernel_rfl)), show a.eval (.tmp 15) = .int .i64 other from (hD 1 15 (by kernel_rfl))] <;> rfl)) u) (by rw [← HO.out]; exact there_any u q X other (HT0.out.kept hk))) ?_
      refine sv 4 rfl rfl rfl (fun a u hE hD hk => exec_not _ (.tmp 16) false rfl (hD 2 16 (by kernel_rfl))) ?_
      exact fsteps_nil
    intro gv w1 hV k1
    rw [show dstsOf _ 4 = [14, 15, 16, 17] by kernel_rfl]
    simp only [List.foldl_cons, List.foldl_nil, List.setIfInBounds_toArray, List.set_cons_succ, List.set_cons_zero, List.drop_succ_cons, List.drop_zero]
    rw [show gv 17 = .bool true from hV 3 17 (by kernel_rfl)]
    clear hV
    refine wpList_nil ?_
    have kw1 := k0.trans k1
    go_wp2
    go_ret
    exact ⟨by rw [HV2.out]; rfl, kw1⟩
  | true =>
    obtain ⟨x, hx⟩ : ∃ x, X.get n = x := ⟨_, rfl⟩
    obtain ⟨y, hy⟩ : ∃ y, X.get other = y := ⟨_, rfl⟩
    have hfx := (HX.out.facts HNn.out).1
    have hfy := (HX.out.facts ho).1
    rw [hx] at hfx
    rw [hy] at hfy
    obtain ⟨t1, h1⟩ : ∃ t, whenI (decide ((n : Int) = (other : Int))) 1 = t := ⟨_, rfl⟩
    obtain ⟨t2, h2⟩ : ∃ t, whenI (decide ((n : Int) ≠ (other : Int))) 2 = t := ⟨_, rfl⟩
    obtain ⟨t3, h3⟩ : ∃ t, tieV x y p = t := ⟨_, rfl⟩
    obtain ⟨t4, h4⟩ : ∃ t, orI t1 t2 = t := ⟨_, rfl⟩
    obtain ⟨t5, h5⟩ : ∃ t, orI t4 t3 = t := ⟨_, rfl⟩
    have HV2 : Hid (entV x.roles d t5 = V) := by show _ = _; rw [← HV.out]; unfold actV; rw [if_pos ho, hx, hy, h1, h2, h3, h4, h5]
    have HO := Lib.hid ho
    have HGX := Lib.hid hx
    have HGY := Lib.hid hy
    have H1 := Lib.hid h1
    have H2 := Lib.hid h2
    have H3 := Lib.hid h3
    have H4 := Lib.hid h4
    have H5 := Lib.hid h5
    clear HV ho hx hy h1 h2 h3 h4 h5 HX HNn
    go_upto_region 1 with fail
    refine wp_text 4 [.eq (.pointer (some ⟨q, 0, none⟩)), .eq (.int .i64 other), .eq (.bool true), .eq (.bool false)] rfl (by kernel_rfl) ?_ ?_
    · refine sv 1 rfl rfl rfl (fun a u hE hD hk => exec_move (.tmp 0) _ rfl (hE 0 (.pointer (some ⟨q, 0, none⟩)) (by kernel_rfl) (by kernel_rfl))) ?_
      refine sv 2 rfl rfl rfl (fun a u hE hD hk => exec_move (.tmp 4) _ rfl (hE 4 (.int .i64 other) (by kernel_rfl) (by kernel_rfl))) ?_
      refine fsteps_cons 3 rfl (fun a u hE hD hk => f_call (o := ⟨some 16, _, _, _, _, _⟩) 16 #[.pointer (some ⟨q, 0, none⟩), .int .i64 other] rfl (wanted_none rfl _) (exec_call 16 _ [.tmp 14, .tmp 15] _ [.pointer (some ⟨q, 0, none⟩), .int .i64 other] Tryd.func16 (by kernel_rfl) (by kernel_rfl) rfl (show [a.eval (.tmp 14), a.eval (.tmp 15)] = [.pointer (some ⟨q, 0, none⟩), .int .i64 other] from (by rw [show a.eval (.tmp 14) = .pointer (some ⟨q, 0, none⟩) from (hD 0 14 (by kernel_rfl)), show a.eval (.tmp 15) = .int .i64 other from (hD 1 15 (by kernel_rfl))] <;> rfl)) u) (by rw [← HO.out]; exact there_any u q X other (HT0.out.kept hk))) ?_
      refine sv 4 rfl rfl rfl (fun a u hE hD hk => exec_not _ (.tmp 16) true rfl (hD 2 16 (by kernel_rfl))) ?_
      exact fsteps_nil
    intro gv w1 hV k1
    rw [show dstsOf _ 4 = [14, 15, 16, 17] by kernel_rfl]
    simp only [List.foldl_cons, List.foldl_nil, List.setIfInBounds_toArray, List.set_cons_succ, List.set_cons_zero, List.drop_succ_cons, List.drop_zero]
    rw [show gv 17 = .bool false from hV 3 17 (by kernel_rfl)]
    clear hV
    refine wpList_nil ?_
    have HG1 := Lib.hid (HG0.out.kept k1)
    have HT1 := Lib.hid (HT0.out.kept k1)
    have HC6 := Lib.hid (range_kept HB6.out k1)
    have kw1 := k0.trans k1
    clear HG0 HT0 HB6 k0 k1 HO
    go_upto_region 3 with fail
    refine wp_text 6 [.eq (.pointer (some ⟨q, 0, none⟩)), .eq (.int .i64 n), .eq (x.v), .eq (.pointer (some ⟨q, 0, none⟩)), .eq (.int .i64 other), .eq (y.v)] rfl (by kernel_rfl) ?_ ?_
    · refine sv 1 rfl rfl rfl (fun a u hE hD hk => exec_move (.tmp 0) _ rfl (hE 0 (.pointer (some ⟨q, 0, none⟩)) (by kernel_rfl) (by kernel_rfl))) ?_
      refine sv 2 rfl rfl rfl (fun a u hE hD hk => exec_move (.tmp 2) _ rfl (hE 2 (.int .i64 n) (by kernel_rfl) (by kernel_rfl))) ?_
      refine fsteps_cons 3 rfl (fun a u hE hD hk => f_call (o := ⟨some 20, _, _, _, _, _⟩) 17 #[.pointer (some ⟨q, 0, none⟩), .int .i64 n] rfl (wanted_none rfl _) (exec_call 17 _ [.tmp 18, .tmp 19] _ [.pointer (some ⟨q, 0, none⟩), .int .i64 n] Tryd.func17 (by kernel_rfl) (by kernel_rfl) rfl (show [a.eval (.tmp 18), a.eval (.tmp 19)] = [.pointer (some ⟨q, 0, none⟩), .int .i64 n] from (by rw [show a.eval (.tmp 18) = .pointer (some ⟨q, 0, none⟩) from (hD 0 18 (by kernel_rfl)), show a.eval (.tmp 19) = .int .i64 n from (hD 1 19 (by kernel_rfl))] <;> rfl)) u) (by rw [← HGX.out]; exact trader_any u q X n (HT1.out.kept hk))) ?_
      refine sv 4 rfl rfl rfl (fun a u hE hD hk => exec_move (.tmp 0) _ rfl (hE 0 (.pointer (some ⟨q, 0, none⟩)) (by kernel_rfl) (by kernel_rfl))) ?_
      refine sv 5 rfl rfl rfl (fun a u hE hD hk => exec_move (.tmp 4) _ rfl (hE 4 (.int .i64 other) (by kernel_rfl) (by kernel_rfl))) ?_
      refine fsteps_cons 6 rfl (fun a u hE hD hk => f_call (o := ⟨some 23, _, _, _, _, _⟩) 17 #[.pointer (some ⟨q, 0, none⟩), .int .i64 other] rfl (wanted_none rfl _) (exec_call 17 _ [.tmp 21, .tmp 22] _ [.pointer (some ⟨q, 0, none⟩), .int .i64 other] Tryd.func17 (by kernel_rfl) (by kernel_rfl) rfl (show [a.eval (.tmp 21), a.eval (.tmp 22)] = [.pointer (some ⟨q, 0, none⟩), .int .i64 other] from (by rw [show a.eval (.tmp 21) = .pointer (some ⟨q, 0, none⟩) from (hD 3 21 (by kernel_rfl)), show a.eval (.tmp 22) = .int .i64 other from (hD 4 22 (by kernel_rfl))] <;> rfl)) u) (by rw [← HGY.out]; exact trader_any u q X other (HT1.out.kept hk))) ?_
      exact fsteps_nil
    intro gv wa hV ka
    rw [show dstsOf _ 6 = [18, 19, 20, 21, 22, 23] by kernel_rfl]
    simp only [List.foldl_cons, List.foldl_nil, List.setIfInBounds_toArray, List.set_cons_succ, List.set_cons_zero, List.drop_succ_cons, List.drop_zero]
    rw [show gv 20 = x.v from hV 2 20 (by kernel_rfl)]
    rw [show gv 23 = y.v from hV 5 23 (by kernel_rfl)]
    clear hV
    refine l_new (o := ⟨some 11, _, _, _, _, _⟩) (.pointer (some ⟨wa.heap.size, 0, none⟩)) (wa.alloc (.cells zeroT.cells.toArray 35)) rfl (exec_alc 35 zeroT.cells rfl zT) ?_
    have hNa := Blk.new wa 35 zeroT.cells
    have kb : Kept wa (wa.alloc (.cells zeroT.cells.toArray 35)) := (Keep.refl _ wa).alloc _
    have hsb : (wa.alloc (.cells zeroT.cells.toArray 35)).heap.size = wa.heap.size + 1 := by simp
    generalize wa.alloc (.cells zeroT.cells.toArray 35) = wb at hNa kb hsb ⊢
    simp only [Act.put, List.setIfInBounds_toArray, List.set_cons_succ, List.set_cons_zero]
    refine l_new (o := ⟨some 12, _, _, _, _, _⟩) (.pointer (some ⟨wb.heap.size, 0, none⟩)) (wb.alloc (.cells zeroT.cells.toArray 35)) rfl (exec_alc 35 zeroT.cells rfl zT) ?_
    have hNb := Blk.new wb 35 zeroT.cells
    have kc : Kept wb (wb.alloc (.cells zeroT.cells.toArray 35)) := (Keep.refl _ wb).alloc _
    generalize wb.alloc (.cells zeroT.cells.toArray 35) = wc at hNb kc ⊢
    simp only [Act.put, List.setIfInBounds_toArray, List.set_cons_succ, List.set_cons_zero]
    refine l_setS (o := ⟨none, _, _, _, _, _⟩) 35 wa.heap.size 35 zeroT.cells x.cells (.tmp 11) (.tmp 20) rfl rfl (by kernel_rfl) (by kernel_rfl) (hNa.kept kc) (by rw [Trd.len37]; exact szT) (by rw [Trd.len37, Trd.len37]) (Trd.one _) ?_
    intro wd hCd hkd hsd
    simp only [Act.put]
    refine l_setS (o := ⟨none, _, _, _, _, _⟩) 35 wb.heap.size 35 zeroT.cells y.cells (.tmp 12) (.tmp 23) rfl rfl (by kernel_rfl) (by kernel_rfl) (hNb.keep hkd (by omega)) (by rw [Trd.len37]; exact szT) (by rw [Trd.len37, Trd.len37]) (Trd.one _) ?_
    intro w2 hCe hke hse
    simp only [Act.put]
    refine wpList_nil ?_
    obtain ⟨g11, hg11⟩ : ∃ a, wa.heap.size = a := ⟨_, rfl⟩
    obtain ⟨g12, hg12⟩ : ∃ a, wb.heap.size = a := ⟨_, rfl⟩
    have zka := ka.size
    rw [hg11] at hCd hkd hsb zka ⊢
    rw [hg12] at hCe hke hsb ⊢
    have HX11 := Lib.hid (blk_range (hCd.keep hke (by omega)))
    have HX12 := Lib.hid (blk_range hCe)
    have k2 : Kept w1 w2 := (((ka.trans kb).trans kc).trans' hkd (by omega)).trans' hke (by omega)
    have HG2 := Lib.hid (HG1.out.kept k2)
    have HD6 := Lib.hid (range_kept HC6.out k2)
    have kw2 := kw1.trans k2
    clear hNa hNb hCd hCe hkd hke hsd hse hsb kb kc ka k2 kw1 HT1 HC6 HG1 HGX HGY zka hg11 hg12
    go_upto_region 4 with fail
    refine wp_free 15 [.eq (.int .i64 n), .eq (.int .i64 other), .eq (.bool (decide ((n : Int) = (other : Int)))), .eq (.int .i64 t1), .eq (.int .i64 n), .eq (.int .i64 other), .eq (.bool (decide ((n : Int) ≠ (other : Int)))), .eq (.int .i64 t2), .eq (.int .i64 t4), .eq (x.v), .eq (y.v), .eq (p.v), .eq (.int .i64 t3), .eq (.int .i64 t5), .eq (.int .i64 t5)] (by kernel_rfl) rfl (by kernel_rfl) ?_ ?_
    · refine sv 1 rfl rfl rfl (fun a u hE hD hk => exec_move (.tmp 2) _ rfl (hE 2 (.int .i64 n) (by kernel_rfl) (by kernel_rfl))) ?_
      refine sv 2 rfl rfl rfl (fun a u hE hD hk => exec_move (.tmp 4) _ rfl (hE 4 (.int .i64 other) (by kernel_rfl) (by kernel_rfl))) ?_
      refine sv 3 rfl rfl rfl (fun a u hE hD hk => exec_eqn (p := n) (q := other) rfl (hD 0 24 (by kernel_rfl)) (hD 1 25 (by kernel_rfl))) ?_
      refine fsteps_cons 4 rfl (fun a u hE hD hk => f_call (o := ⟨some 27, _, _, _, _, _⟩) 26 #[.bool (decide ((n : Int) = (other : Int))), .int .i64 1] rfl (wanted_none rfl _) (exec_call 26 _ [.tmp 26, .const (.int .i64 1)] _ [.bool (decide ((n : Int) = (other : Int))), .int .i64 1] Tryd.func26 (by kernel_rfl) (by kernel_rfl) rfl (show [a.eval (.tmp 26), a.eval (.const (.int .i64 1))] = [.bool (decide ((n : Int) = (other : Int))), .int .i64 1] from (by rw [show a.eval (.tmp 26) = .bool (decide ((n : Int) = (other : Int))) from (hD 2 26 (by kernel_rfl))] <;> rfl)) u) (by rw [← H1.out]; exact when_any _ _ u)) ?_
      refine sv 5 rfl rfl rfl (fun a u hE hD hk => exec_move (.tmp 2) _ rfl (hE 2 (.int .i64 n) (by kernel_rfl) (by kernel_rfl))) ?_
      refine sv 6 rfl rfl rfl (fun a u hE hD hk => exec_move (.tmp 4) _ rfl (hE 4 (.int .i64 other) (by kernel_rfl) (by kernel_rfl))) ?_
      refine sv 7 rfl rfl rfl (fun a u hE hD hk => exec_nen (p := n) (q := other) rfl (hD 4 28 (by kernel_rfl)) (hD 5 29 (by kernel_rfl))) ?_
      refine fsteps_cons 8 rfl (fun a u hE hD hk => f_call (o := ⟨some 31, _, _, _, _, _⟩) 26 #[.bool (decide ((n : Int) ≠ (other : Int))), .int .i64 2] rfl (wanted_none rfl _) (exec_call 26 _ [.tmp 30, .const (.int .i64 2)] _ [.bool (decide ((n : Int) ≠ (other : Int))), .int .i64 2] Tryd.func26 (by kernel_rfl) (by kernel_rfl) rfl (show [a.eval (.tmp 30), a.eval (.const (.int .i64 2))] = [.bool (decide ((n : Int) ≠ (other : Int))), .int .i64 2] from (by rw [show a.eval (.tmp 30) = .bool (decide ((n : Int) ≠ (other : Int))) from (hD 6 30 (by kernel_rfl))] <;> rfl)) u) (by rw [← H2.out]; exact when_any _ _ u)) ?_
      refine sv 9 rfl rfl rfl (fun a u hE hD hk => by rw [← H4.out]; exact exec_orI (.tmp 27) (.tmp 31) _ _ t1 t2 rfl (hD 3 27 (by kernel_rfl)) (hD 7 31 (by kernel_rfl))) ?_
      refine sv 10 rfl rfl rfl (fun a u hE hD hk => exec_ldS 35 _ (.tmp 11) (g11) (0) (x.cells) rfl (hE 11 (.pointer (some ⟨g11, 0, none⟩)) (by kernel_rfl) (by kernel_rfl)) (range_kept (HX11.out) hk) Tryd.underlying35 (by rw [Trd.len37]; exact szT)) ?_
      refine sv 11 rfl rfl rfl (fun a u hE hD hk => exec_ldS 35 _ (.tmp 12) (g12) (0) (y.cells) rfl (hE 12 (.pointer (some ⟨g12, 0, none⟩)) (by kernel_rfl) (by kernel_rfl)) (range_kept (HX12.out) hk) Tryd.underlying35 (by rw [Trd.len37]; exact szT)) ?_
      refine sv 12 rfl rfl rfl (fun a u hE hD hk => exec_ldS 29 _ (.tmp 6) (g6) (0) (p.cells) rfl (hE 6 (.pointer (some ⟨g6, 0, none⟩)) (by kernel_rfl) (by kernel_rfl)) (range_kept HD6.out hk) Tryd.underlying29 (by rw [p.len24]; exact szP)) ?_
      refine fsteps_cons 13 rfl (fun a u hE hD hk => f_call (o := ⟨some 36, _, _, _, _, _⟩) 28 #[x.v, y.v, p.v] rfl (wanted_none rfl _) (exec_call 28 _ [.tmp 33, .tmp 34, .tmp 35] _ [x.v, y.v, p.v] Tryd.func28 (by kernel_rfl) (by kernel_rfl) rfl (show [a.eval (.tmp 33), a.eval (.tmp 34), a.eval (.tmp 35)] = [x.v, y.v, p.v] from (by rw [show a.eval (.tmp 33) = x.v from (hD 9 33 (by kernel_rfl)), show a.eval (.tmp 34) = y.v from (hD 10 34 (by kernel_rfl)), show a.eval (.tmp 35) = p.v from (hD 11 35 (by kernel_rfl))] <;> rfl)) u) (by rw [← H3.out]; exact ties_any x y p u hfx.1 hfx.2 hfy.1)) ?_
      refine sv 14 rfl rfl rfl (fun a u hE hD hk => by rw [← H5.out]; exact exec_orI (.tmp 32) (.tmp 36) _ _ t4 t3 rfl (hD 8 32 (by kernel_rfl)) (hD 12 36 (by kernel_rfl))) ?_
      refine sv 15 rfl rfl rfl (fun a u hE hD hk => exec_assign (.tmp 37) _ rfl (hD 13 37 (by kernel_rfl))) ?_
      exact fsteps_nil
    intro gv w3 hV k3
    rw [show dstsOf _ 15 = [24, 25, 26, 27, 28, 29, 30, 31, 32, 33, 34, 35, 36, 37, 13] by kernel_rfl]
    simp only [List.foldl_cons, List.foldl_nil, List.setIfInBounds_toArray, List.set_cons_succ, List.set_cons_zero, List.drop_succ_cons, List.drop_zero]
    rw [show gv 13 = .int .i64 t5 from hV 14 13 (by kernel_rfl)]
    clear hV
    refine wpList_nil ?_
    have HG3 := Lib.hid (HG2.out.kept k3)
    have HX3 := Lib.hid (range_kept HX11.out k3)
    have kw3 := kw2.trans k3
    clear HG2 HX11 HX12 HD6 k3 kw2 H1 H2 H3 H4 H5
    go_upto_region 5 with fail
    refine wp_text 5 [.eq (x.v), .eq (.int .i64 d), .eq (.int .i64 t5), .eq (.int .i64 V), .eq (.int .i64 V)] rfl (by kernel_rfl) ?_ ?_
    · refine sv 1 rfl rfl rfl (fun a u hE hD hk => exec_ldS 35 _ (.tmp 11) (g11) (0) (x.cells) rfl (hE 11 (.pointer (some ⟨g11, 0, none⟩)) (by kernel_rfl) (by kernel_rfl)) (range_kept (HX3.out) hk) Tryd.underlying35 (by rw [Trd.len37]; exact szT)) ?_
      refine sv 2 rfl rfl rfl (fun a u hE hD hk => exec_move (.tmp 3) _ rfl (hE 3 (.int .i64 d) (by kernel_rfl) (by kernel_rfl))) ?_
      refine sv 3 rfl rfl rfl (fun a u hE hD hk => exec_move (.tmp 13) _ rfl (hE 13 (.int .i64 t5) (by kernel_rfl) (by kernel_rfl))) ?_
      refine fsteps_cons 4 rfl (fun a u hE hD hk => f_call (o := ⟨some 41, _, _, _, _, _⟩) 21 #[x.v, .int .i64 d, .int .i64 t5] rfl (wanted_none rfl _) (exec_call 21 _ [.tmp 38, .tmp 39, .tmp 40] _ [x.v, .int .i64 d, .int .i64 t5] Tryd.func21 (by kernel_rfl) (by kernel_rfl) rfl (show [a.eval (.tmp 38), a.eval (.tmp 39), a.eval (.tmp 40)] = [x.v, .int .i64 d, .int .i64 t5] from (by rw [show a.eval (.tmp 38) = x.v from (hD 0 38 (by kernel_rfl)), show a.eval (.tmp 39) = .int .i64 d from (hD 1 39 (by kernel_rfl)), show a.eval (.tmp 40) = .int .i64 t5 from (hD 2 40 (by kernel_rfl))] <;> rfl)) u) (by rw [← HV2.out]; exact entitled_any x _ _ u (HG3.out.kept hk))) ?_
      refine sv 5 rfl rfl rfl (fun a u hE hD hk => exec_assign (.tmp 41) _ rfl (hD 3 41 (by kernel_rfl))) ?_
      exact fsteps_nil
    intro gv w4 hV k4
    rw [show dstsOf _ 5 = [38, 39, 40, 41, 10] by kernel_rfl]
    simp only [List.foldl_cons, List.foldl_nil, List.setIfInBounds_toArray, List.set_cons_succ, List.set_cons_zero, List.drop_succ_cons, List.drop_zero]
    rw [show gv 10 = .int .i64 V from hV 4 10 (by kernel_rfl)]
    clear hV
    refine wpList_nil ?_
    have kw4 := kw3.trans k4
    go_wp2
    go_ret
    exact ⟨rfl, kw4⟩
set_option maxRecDepth 100000 in
set_option maxHeartbeats 6400000 in
theorem may_any (q : Nat) (X : Trds) (p : Phs) (n d inst other : Int) (w : World) (hG : RulIn w) (hB : Blk w q 58 X.cells) (hX : X.Ok) : Gives 10 #[.pointer (some ⟨q, 0, none⟩), p.v, .int .i64 n, .int .i64 d, .int .i64 inst, .int .i64 other] w (.eq (.int .i64 (mayV X p n d inst other))) := by
  refine gives_eq ?_
  obtain ⟨V, hV⟩ : ∃ V, mayV X p n d inst other = V := ⟨_, rfl⟩
  have HV := Lib.hid hV
  have HG := Lib.hid hG
  have HT := Lib.hid hB
  have HX := Lib.hid hX
  rw [hV]
  clear hV hG hB hX
  obtain ⟨b0, hb0⟩ : ∃ z, w.alloc (.cells p.cells.toArray 29) = z := ⟨_, rfl⟩
  have q0 : Kept w b0 := by rw [← hb0]; exact (Keep.refl _ _).alloc _
  have r0 : b0.rangeAt w.heap.size 0 p.cells := by rw [← hb0]; exact blk_range (Blk.new w 29 p.cells)
  have HB7 := Lib.hid (r0)
  have k0 := q0
  clear r0
  go_enter Tryd.func10, Tryd.ntmps10
  go_upto_region 0 with fail
  refine wp_region_lit ?_
  refine l_new (o := ⟨some 7, _, _, _, _, _⟩) (.pointer (some ⟨w.heap.size, 0, none⟩)) b0 rfl (by rw [← hb0]; exact exec_box 29 (.tmp 1) p.cells rfl (by kernel_rfl)) ?_
  simp only [Act.put, List.setIfInBounds_toArray, List.set_cons_succ, List.set_cons_zero]
  refine l_val (o := ⟨some 12, _, _, _, _, _⟩) (.int .i64 0) rfl (exec_assign (.const (.int .i64 0)) (.int .i64 0) rfl (by kernel_rfl)) ?_
  simp only [Act.put, List.setIfInBounds_toArray, List.set_cons_succ, List.set_cons_zero]
  refine wpList_nil ?_
  obtain ⟨g7, hg7⟩ : ∃ g, w.heap.size = g := ⟨_, rfl⟩
  rw [hg7] at HB7 ⊢
  clear hg7 hb0 q0
  have HG0 := Lib.hid (HG.out.kept k0)
  have HT0 := Lib.hid (HT.out.kept k0)
  clear HG HT
  cases hn : X.there n with
  | false =>
    have HV2 : Hid (V = 6) := by show _ = _; rw [← HV.out]; unfold mayV; rw [if_neg (by rw [hn]; simp)]
    have HNn := Lib.hid hn
    clear HV hn
    go_upto_region 1 with fail
    refine wp_text 4 [.eq (.pointer (some ⟨q, 0, none⟩)), .eq (.int .i64 n), .eq (.bool false), .eq (.bool true)] rfl (by kernel_rfl) ?_ ?_
    · refine sv 1 rfl rfl rfl (fun a u hE hD hk => exec_move (.tmp 0) _ rfl (hE 0 (.pointer (some ⟨q, 0, none⟩)) (by kernel_rfl) (by kernel_rfl))) ?_
      refine sv 2 rfl rfl rfl (fun a u hE hD hk => exec_move (.tmp 2) _ rfl (hE 2 (.int .i64 n) (by kernel_rfl) (by kernel_rfl))) ?_
      refine fsteps_cons 3 rfl (fun a u hE hD hk => f_call (o := ⟨some 16, _, _, _, _, _⟩) 16 #[.pointer (some ⟨q, 0, none⟩), .int .i64 n] rfl (wanted_none rfl _) (exec_call 16 _ [.tmp 14, .tmp 15] _ [.pointer (some ⟨q, 0, none⟩), .int .i64 n] Tryd.func16 (by kernel_rfl) (by kernel_rfl) rfl (show [a.eval (.tmp 14), a.eval (.tmp 15)] = [.pointer (some ⟨q, 0, none⟩), .int .i64 n] from (by rw [show a.eval (.tmp 14) = .pointer (some ⟨q, 0, none⟩) from (hD 0 14 (by kernel_rfl)), show a.eval (.tmp 15) = .int .i64 n from (hD 1 15 (by kernel_rfl))] <;> rfl)) u) (by rw [← HNn.out]; exact there_any u q X n (HT0.out.kept hk))) ?_
      refine sv 4 rfl rfl rfl (fun a u hE hD hk => exec_not _ (.tmp 16) false rfl (hD 2 16 (by kernel_rfl))) ?_
      exact fsteps_nil
    intro gv w1 hV k1
    rw [show dstsOf _ 4 = [14, 15, 16, 17] by kernel_rfl]
    simp only [List.foldl_cons, List.foldl_nil, List.setIfInBounds_toArray, List.set_cons_succ, List.set_cons_zero, List.drop_succ_cons, List.drop_zero]
    rw [show gv 17 = .bool true from hV 3 17 (by kernel_rfl)]
    clear hV
    refine wpList_nil ?_
    have kw1 := k0.trans k1
    go_wp2
    go_ret
    exact ⟨by rw [HV2.out]; rfl, kw1⟩
  | true =>
    obtain ⟨x, hx⟩ : ∃ x, X.get n = x := ⟨_, rfl⟩
    have hfx := (HX.out.facts hn).1
    rw [hx] at hfx
    obtain ⟨i, hi, hxi⟩ : ∃ i : Nat, i < 8 ∧ x.firm = (i : Int) := ⟨x.firm.toNat, by omega, by omega⟩
    obtain ⟨K, hK⟩ : ∃ K, p.kil i = K := ⟨_, rfl⟩
    have HAK : Hid (p.cells[8 + i]? = some (.bool K)) := by show _ = _; rw [← hK]; exact p.at_k hi
    have hq : offB x p d = (x.off || (K && !evenB d)) := by unfold offB; rw [hxi, Int.toNat_natCast, hK]
    have HV2 : Hid ((if (x.off || (K && !evenB d)) = true then 7 else if d = 1 then tradeV x p inst else if d = 2 ∨ d = 3 then actV X p n d other else if d = 4 then entV x.roles 4 0 else 1) = V) := by show _ = _; rw [← HV.out]; unfold mayV; rw [if_pos hn, hx, hq]
    have HNn := Lib.hid hn
    have HGX := Lib.hid hx
    clear HV hn hx hK hq
    go_upto_region 1 with fail
    refine wp_text 4 [.eq (.pointer (some ⟨q, 0, none⟩)), .eq (.int .i64 n), .eq (.bool true), .eq (.bool false)] rfl (by kernel_rfl) ?_ ?_
    · refine sv 1 rfl rfl rfl (fun a u hE hD hk => exec_move (.tmp 0) _ rfl (hE 0 (.pointer (some ⟨q, 0, none⟩)) (by kernel_rfl) (by kernel_rfl))) ?_
      refine sv 2 rfl rfl rfl (fun a u hE hD hk => exec_move (.tmp 2) _ rfl (hE 2 (.int .i64 n) (by kernel_rfl) (by kernel_rfl))) ?_
      refine fsteps_cons 3 rfl (fun a u hE hD hk => f_call (o := ⟨some 16, _, _, _, _, _⟩) 16 #[.pointer (some ⟨q, 0, none⟩), .int .i64 n] rfl (wanted_none rfl _) (exec_call 16 _ [.tmp 14, .tmp 15] _ [.pointer (some ⟨q, 0, none⟩), .int .i64 n] Tryd.func16 (by kernel_rfl) (by kernel_rfl) rfl (show [a.eval (.tmp 14), a.eval (.tmp 15)] = [.pointer (some ⟨q, 0, none⟩), .int .i64 n] from (by rw [show a.eval (.tmp 14) = .pointer (some ⟨q, 0, none⟩) from (hD 0 14 (by kernel_rfl)), show a.eval (.tmp 15) = .int .i64 n from (hD 1 15 (by kernel_rfl))] <;> rfl)) u) (by rw [← HNn.out]; exact there_any u q X n (HT0.out.kept hk))) ?_
      refine sv 4 rfl rfl rfl (fun a u hE hD hk => exec_not _ (.tmp 16) true rfl (hD 2 16 (by kernel_rfl))) ?_
      exact fsteps_nil
    intro gv w1 hV k1
    rw [show dstsOf _ 4 = [14, 15, 16, 17] by kernel_rfl]
    simp only [List.foldl_cons, List.foldl_nil, List.setIfInBounds_toArray, List.set_cons_succ, List.set_cons_zero, List.drop_succ_cons, List.drop_zero]
    rw [show gv 17 = .bool false from hV 3 17 (by kernel_rfl)]
    clear hV
    refine wpList_nil ?_
    have HG1 := Lib.hid (HG0.out.kept k1)
    have HT1 := Lib.hid (HT0.out.kept k1)
    have HC7 := Lib.hid (range_kept HB7.out k1)
    have kw1 := k0.trans k1
    clear HG0 HT0 HB7 k0 k1
    go_upto_region 3 with fail
    refine wp_text 3 [.eq (.pointer (some ⟨q, 0, none⟩)), .eq (.int .i64 n), .eq (x.v)] rfl (by kernel_rfl) ?_ ?_
    · refine sv 1 rfl rfl rfl (fun a u hE hD hk => exec_move (.tmp 0) _ rfl (hE 0 (.pointer (some ⟨q, 0, none⟩)) (by kernel_rfl) (by kernel_rfl))) ?_
      refine sv 2 rfl rfl rfl (fun a u hE hD hk => exec_move (.tmp 2) _ rfl (hE 2 (.int .i64 n) (by kernel_rfl) (by kernel_rfl))) ?_
      refine fsteps_cons 3 rfl (fun a u hE hD hk => f_call (o := ⟨some 20, _, _, _, _, _⟩) 17 #[.pointer (some ⟨q, 0, none⟩), .int .i64 n] rfl (wanted_none rfl _) (exec_call 17 _ [.tmp 18, .tmp 19] _ [.pointer (some ⟨q, 0, none⟩), .int .i64 n] Tryd.func17 (by kernel_rfl) (by kernel_rfl) rfl (show [a.eval (.tmp 18), a.eval (.tmp 19)] = [.pointer (some ⟨q, 0, none⟩), .int .i64 n] from (by rw [show a.eval (.tmp 18) = .pointer (some ⟨q, 0, none⟩) from (hD 0 18 (by kernel_rfl)), show a.eval (.tmp 19) = .int .i64 n from (hD 1 19 (by kernel_rfl))] <;> rfl)) u) (by rw [← HGX.out]; exact trader_any u q X n (HT1.out.kept hk))) ?_
      exact fsteps_nil
    intro gv wa hV ka
    rw [show dstsOf _ 3 = [18, 19, 20] by kernel_rfl]
    simp only [List.foldl_cons, List.foldl_nil, List.setIfInBounds_toArray, List.set_cons_succ, List.set_cons_zero, List.drop_succ_cons, List.drop_zero]
    rw [show gv 20 = x.v from hV 2 20 (by kernel_rfl)]
    clear hV
    refine l_new (o := ⟨some 13, _, _, _, _, _⟩) (.pointer (some ⟨wa.heap.size, 0, none⟩)) (wa.alloc (.cells zeroT.cells.toArray 35)) rfl (exec_alc 35 zeroT.cells rfl zT) ?_
    have hNa := Blk.new wa 35 zeroT.cells
    have kb : Kept wa (wa.alloc (.cells zeroT.cells.toArray 35)) := (Keep.refl _ wa).alloc _
    generalize wa.alloc (.cells zeroT.cells.toArray 35) = wb at hNa kb ⊢
    simp only [Act.put, List.setIfInBounds_toArray, List.set_cons_succ, List.set_cons_zero]
    refine l_setS (o := ⟨none, _, _, _, _, _⟩) 35 wa.heap.size 35 zeroT.cells x.cells (.tmp 13) (.tmp 20) rfl rfl (by kernel_rfl) (by kernel_rfl) hNa (by rw [Trd.len37]; exact szT) (by rw [Trd.len37, Trd.len37]) (Trd.one _) ?_
    intro w2 hCw2 hkw2 hsw2
    simp only [Act.put]
    refine wpList_nil ?_
    obtain ⟨g13, hg13⟩ : ∃ a, wa.heap.size = a := ⟨_, rfl⟩
    rw [hg13] at hNa hCw2 hkw2 ⊢
    have zka := ka.size
    have kw2 : Kept w1 w2 := (ka.trans kb).trans' hkw2 (by omega)
    have HX13 := Lib.hid (blk_range hCw2)
    clear hNa hCw2 hkw2 hsw2 kb ka zka hg13
    have HG2 := Lib.hid (HG1.out.kept kw2)
    have HT2 := Lib.hid (HT1.out.kept kw2)
    have HD7 := Lib.hid (range_kept HC7.out kw2)
    have kz2 := kw1.trans kw2
    clear HG1 HT1 HC7 kw1 kw2 HGX
    cases hb : (x.off || (K && !evenB d)) with
    | true =>
      have HV3 : Hid (V = 7) := by show _ = _; rw [← HV2.out, if_pos hb]
      have HB := Lib.hid hb
      clear HV2 hb
      go_upto_region 4 with fail
      refine wp_text 14 [.eq (.pointer (some ⟨g13, 4, none⟩)), .eq (.bool x.off), .eq (.bool x.off), .cond (!x.off) (.eq (.pointer (some ⟨g13, 0, none⟩))), .cond (!x.off) (.eq (.int .i64 x.firm)), .cond (!x.off) (.eq (.pointer (some ⟨g7, 8, none⟩))), .cond (!x.off) (.eq (.pointer (some ⟨g7, 8 + i, none⟩))), .cond (!x.off) (.eq (.bool K)), .cond (!x.off) (.eq (.bool K)), .cond ((!x.off) && K) (.eq (.int .i64 d)), .cond ((!x.off) && K) (.eq (.bool (evenB d))), .cond ((!x.off) && K) (.eq (.bool (!(evenB d)))), .cond (!x.off) (.eq (.bool (K && (!(evenB d))))), .eq (.bool true)] rfl (by kernel_rfl) ?_ ?_
      · refine sv 1 rfl rfl rfl (fun a u hE hD hk => exec_fldo 35 4 4 (.tmp 13) (g13) (0) (4) rfl (hE 13 (.pointer (some ⟨g13, 0, none⟩)) (by kernel_rfl) (by kernel_rfl)) (by kernel_rfl) rfl) ?_
        refine sv 2 rfl rfl rfl (fun a u hE hD hk => exec_ldb 4 Tryd.underlying4 (.tmp 21) ⟨g13, 4, none⟩ (.bool x.off) rfl (hD 0 21 (by kernel_rfl)) ((range_kept (HX13.out) hk) 4 _ rfl)) ?_
        refine sv 3 rfl rfl rfl (fun a u hE hD hk => exec_move (.tmp 22) _ rfl (hD 1 22 (by kernel_rfl))) ?_
        refine fsteps_cons 4 rfl (fun a u hE hD hk => f_unless (x.off) rfl rfl rfl (hD 2 23 (by kernel_rfl)) (fun hb => f_val (o := ⟨some 24, _, _, _, _, _⟩) (.pointer (some ⟨g13, 0, none⟩)) rfl (wanted_b rfl rfl (hD 2 23 (by kernel_rfl)) (eq_false_of hb)) (exec_fldo 35 0 0 (.tmp 13) (g13) (0) (0) rfl (hE 13 (.pointer (some ⟨g13, 0, none⟩)) (by kernel_rfl) (by kernel_rfl)) (by kernel_rfl) rfl) rfl)) ?_
        refine fsteps_cons 5 rfl (fun a u hE hD hk => f_unless (x.off) rfl rfl rfl (hD 2 23 (by kernel_rfl)) (fun hb => f_val (o := ⟨some 25, _, _, _, _, _⟩) (.int .i64 x.firm) rfl (wanted_b rfl rfl (hD 2 23 (by kernel_rfl)) (eq_false_of hb)) (exec_loadi 3 Tryd.underlying3 (.tmp 24) ⟨g13, 0, none⟩ (.int .i64 x.firm) rfl ((hD 3 24 (by kernel_rfl)).1 hb) ((range_kept (HX13.out) hk) 0 _ rfl)) rfl)) ?_
        refine fsteps_cons 6 rfl (fun a u hE hD hk => f_unless (x.off) rfl rfl rfl (hD 2 23 (by kernel_rfl)) (fun hb => f_val (o := ⟨some 26, _, _, _, _, _⟩) (.pointer (some ⟨g7, 8, none⟩)) rfl (wanted_b rfl rfl (hD 2 23 (by kernel_rfl)) (eq_false_of hb)) (exec_fldo 29 1 8 (.tmp 7) (g7) (0) (8) rfl (hE 7 (.pointer (some ⟨g7, 0, none⟩)) (by kernel_rfl) (by kernel_rfl)) (by kernel_rfl) rfl) rfl)) ?_
        refine fsteps_cons 7 rfl (fun a u hE hD hk => f_unless (x.off) rfl rfl rfl (hD 2 23 (by kernel_rfl)) (fun hb => f_val (o := ⟨some 27, _, _, _, _, _⟩) (.pointer (some ⟨g7, 8 + i, none⟩)) rfl (wanted_b rfl rfl (hD 2 23 (by kernel_rfl)) (eq_false_of hb)) (exec_ixC 26 4 8 (.tmp 26) (.tmp 25) g7 8 (8 + i) i x.firm rfl Tryd.underlying26 (by kernel_rfl) ((hD 5 26 (by kernel_rfl)).1 hb) ((hD 4 25 (by kernel_rfl)).1 hb) hxi hi rfl) rfl)) ?_
        refine fsteps_cons 8 rfl (fun a u hE hD hk => f_unless (x.off) rfl rfl rfl (hD 2 23 (by kernel_rfl)) (fun hb => f_val (o := ⟨some 28, _, _, _, _, _⟩) (.bool K) rfl (wanted_b rfl rfl (hD 2 23 (by kernel_rfl)) (eq_false_of hb)) (exec_ldb 4 Tryd.underlying4 (.tmp 27) ⟨g7, 8 + i, none⟩ (.bool K) rfl ((hD 6 27 (by kernel_rfl)).1 hb) (by have h_ := range_kept HD7.out hk (8 + i) _ HAK.out; rwa [Nat.zero_add] at h_)) rfl)) ?_
        refine fsteps_cons 9 rfl (fun a u hE hD hk => f_unless (x.off) rfl rfl rfl (hD 2 23 (by kernel_rfl)) (fun hb => f_val (o := ⟨some 29, _, _, _, _, _⟩) (.bool K) rfl (wanted_b rfl rfl (hD 2 23 (by kernel_rfl)) (eq_false_of hb)) (exec_move (.tmp 28) _ rfl ((hD 7 28 (by kernel_rfl)).1 hb)) rfl)) ?_
        refine fsteps_cons 10 rfl (fun a u hE hD hk => f_if2 (!x.off) (K) rfl rfl rfl (hD 8 29 (by kernel_rfl)) (fun hb => f_val (o := ⟨some 30, _, _, _, _, _⟩) (.int .i64 d) rfl (wanted_b rfl rfl ((hD 8 29 (by kernel_rfl)).1 (and_l hb)) (eq_true_of (and_r hb))) (exec_move (.tmp 3) _ rfl (hE 3 (.int .i64 d) (by kernel_rfl) (by kernel_rfl))) rfl)) ?_
        refine fsteps_cons 11 rfl (fun a u hE hD hk => f_if2 (!x.off) (K) rfl rfl rfl (hD 8 29 (by kernel_rfl)) (fun hb => f_call (o := ⟨some 31, _, _, _, _, _⟩) 18 #[.int .i64 d] rfl (wanted_b rfl rfl ((hD 8 29 (by kernel_rfl)).1 (and_l hb)) (eq_true_of (and_r hb))) (exec_call 18 _ [.tmp 30] _ [.int .i64 d] Tryd.func18 (by kernel_rfl) (by kernel_rfl) rfl (show [a.eval (.tmp 30)] = [.int .i64 d] from (by rw [show a.eval (.tmp 30) = .int .i64 d from ((hD 9 30 (by kernel_rfl)).1 hb)] <;> rfl)) u) (even_any _ u))) ?_
        refine fsteps_cons 12 rfl (fun a u hE hD hk => f_if2 (!x.off) (K) rfl rfl rfl (hD 8 29 (by kernel_rfl)) (fun hb => f_val (o := ⟨some 32, _, _, _, _, _⟩) (.bool (!(evenB d))) rfl (wanted_b rfl rfl ((hD 8 29 (by kernel_rfl)).1 (and_l hb)) (eq_true_of (and_r hb))) (exec_not _ (.tmp 31) (evenB d) rfl ((hD 10 31 (by kernel_rfl)).1 hb)) rfl)) ?_
        refine fsteps_cons 13 rfl (fun a u hE hD hk => f_unless (x.off) rfl rfl rfl (hD 2 23 (by kernel_rfl)) (fun hb => f_val (o := ⟨some 33, _, _, _, _, _⟩) (.bool (K && (!(evenB d)))) rfl (wanted_b rfl rfl (hD 2 23 (by kernel_rfl)) (eq_false_of hb)) (exec_pickand (.tmp 29) (.tmp 32) (.const (.bool false)) (K) ((!(evenB d))) rfl ((hD 8 29 (by kernel_rfl)).1 hb) (fun hb2 => ((hD 11 32 (by kernel_rfl)).1 (and_mk hb hb2))) rfl) rfl)) ?_
        refine fsteps_cons 14 rfl (fun a u hE hD hk => f_as (show ((x.off || (K && (!(evenB d)))) : Bool) = true from HB.out) (f_val (o := ⟨some 34, _, _, _, _, _⟩) (.bool (x.off || (K && (!(evenB d))))) rfl (wanted_none rfl _) (exec_pickor (.tmp 23) (.const (.bool true)) (.tmp 33) (x.off) ((K && (!(evenB d)))) rfl (hD 2 23 (by kernel_rfl)) rfl (fun hb2 => ((hD 12 33 (by kernel_rfl)).1 hb2))) rfl)) ?_
        exact fsteps_nil
      intro gv v1w hV kv1
      rw [show dstsOf _ 14 = [21, 22, 23, 24, 25, 26, 27, 28, 29, 30, 31, 32, 33, 34] by kernel_rfl]
      simp only [List.foldl_cons, List.foldl_nil, List.setIfInBounds_toArray, List.set_cons_succ, List.set_cons_zero, List.drop_succ_cons, List.drop_zero]
      rw [show gv 34 = .bool true from hV 13 34 (by kernel_rfl)]
      clear hV
      refine wpList_nil ?_
      have G_1 := Lib.hid (HG2.out.kept kv1)
      have T_1 := Lib.hid (HT2.out.kept kv1)
      have R7_1 := Lib.hid (range_kept HD7.out kv1)
      have R13_1 := Lib.hid (range_kept HX13.out kv1)
      have kk1 := kz2.trans kv1
      clear HG2 HT2 HD7 HX13 kv1 kz2
      go_wp2
      go_ret
      exact ⟨by rw [HV3.out]; rfl, kk1⟩
    | false =>
      have HV3 : Hid ((if d = 1 then tradeV x p inst else if d = 2 ∨ d = 3 then actV X p n d other else if d = 4 then entV x.roles 4 0 else 1) = V) := by show _ = _; rw [← HV2.out, hb, if_neg (show ¬ (false = true) by simp)]
      have HB := Lib.hid hb
      clear hb
      clear HV2
      go_upto_region 4 with fail
      refine wp_text 14 [.eq (.pointer (some ⟨g13, 4, none⟩)), .eq (.bool x.off), .eq (.bool x.off), .cond (!x.off) (.eq (.pointer (some ⟨g13, 0, none⟩))), .cond (!x.off) (.eq (.int .i64 x.firm)), .cond (!x.off) (.eq (.pointer (some ⟨g7, 8, none⟩))), .cond (!x.off) (.eq (.pointer (some ⟨g7, 8 + i, none⟩))), .cond (!x.off) (.eq (.bool K)), .cond (!x.off) (.eq (.bool K)), .cond ((!x.off) && K) (.eq (.int .i64 d)), .cond ((!x.off) && K) (.eq (.bool (evenB d))), .cond ((!x.off) && K) (.eq (.bool (!(evenB d)))), .cond (!x.off) (.eq (.bool (K && (!(evenB d))))), .eq (.bool false)] rfl (by kernel_rfl) ?_ ?_
      · refine sv 1 rfl rfl rfl (fun a u hE hD hk => exec_fldo 35 4 4 (.tmp 13) (g13) (0) (4) rfl (hE 13 (.pointer (some ⟨g13, 0, none⟩)) (by kernel_rfl) (by kernel_rfl)) (by kernel_rfl) rfl) ?_
        refine sv 2 rfl rfl rfl (fun a u hE hD hk => exec_ldb 4 Tryd.underlying4 (.tmp 21) ⟨g13, 4, none⟩ (.bool x.off) rfl (hD 0 21 (by kernel_rfl)) ((range_kept (HX13.out) hk) 4 _ rfl)) ?_
        refine sv 3 rfl rfl rfl (fun a u hE hD hk => exec_move (.tmp 22) _ rfl (hD 1 22 (by kernel_rfl))) ?_
        refine fsteps_cons 4 rfl (fun a u hE hD hk => f_unless (x.off) rfl rfl rfl (hD 2 23 (by kernel_rfl)) (fun hb => f_val (o := ⟨some 24, _, _, _, _, _⟩) (.pointer (some ⟨g13, 0, none⟩)) rfl (wanted_b rfl rfl (hD 2 23 (by kernel_rfl)) (eq_false_of hb)) (exec_fldo 35 0 0 (.tmp 13) (g13) (0) (0) rfl (hE 13 (.pointer (some ⟨g13, 0, none⟩)) (by kernel_rfl) (by kernel_rfl)) (by kernel_rfl) rfl) rfl)) ?_
        refine fsteps_cons 5 rfl (fun a u hE hD hk => f_unless (x.off) rfl rfl rfl (hD 2 23 (by kernel_rfl)) (fun hb => f_val (o := ⟨some 25, _, _, _, _, _⟩) (.int .i64 x.firm) rfl (wanted_b rfl rfl (hD 2 23 (by kernel_rfl)) (eq_false_of hb)) (exec_loadi 3 Tryd.underlying3 (.tmp 24) ⟨g13, 0, none⟩ (.int .i64 x.firm) rfl ((hD 3 24 (by kernel_rfl)).1 hb) ((range_kept (HX13.out) hk) 0 _ rfl)) rfl)) ?_
        refine fsteps_cons 6 rfl (fun a u hE hD hk => f_unless (x.off) rfl rfl rfl (hD 2 23 (by kernel_rfl)) (fun hb => f_val (o := ⟨some 26, _, _, _, _, _⟩) (.pointer (some ⟨g7, 8, none⟩)) rfl (wanted_b rfl rfl (hD 2 23 (by kernel_rfl)) (eq_false_of hb)) (exec_fldo 29 1 8 (.tmp 7) (g7) (0) (8) rfl (hE 7 (.pointer (some ⟨g7, 0, none⟩)) (by kernel_rfl) (by kernel_rfl)) (by kernel_rfl) rfl) rfl)) ?_
        refine fsteps_cons 7 rfl (fun a u hE hD hk => f_unless (x.off) rfl rfl rfl (hD 2 23 (by kernel_rfl)) (fun hb => f_val (o := ⟨some 27, _, _, _, _, _⟩) (.pointer (some ⟨g7, 8 + i, none⟩)) rfl (wanted_b rfl rfl (hD 2 23 (by kernel_rfl)) (eq_false_of hb)) (exec_ixC 26 4 8 (.tmp 26) (.tmp 25) g7 8 (8 + i) i x.firm rfl Tryd.underlying26 (by kernel_rfl) ((hD 5 26 (by kernel_rfl)).1 hb) ((hD 4 25 (by kernel_rfl)).1 hb) hxi hi rfl) rfl)) ?_
        refine fsteps_cons 8 rfl (fun a u hE hD hk => f_unless (x.off) rfl rfl rfl (hD 2 23 (by kernel_rfl)) (fun hb => f_val (o := ⟨some 28, _, _, _, _, _⟩) (.bool K) rfl (wanted_b rfl rfl (hD 2 23 (by kernel_rfl)) (eq_false_of hb)) (exec_ldb 4 Tryd.underlying4 (.tmp 27) ⟨g7, 8 + i, none⟩ (.bool K) rfl ((hD 6 27 (by kernel_rfl)).1 hb) (by have h_ := range_kept HD7.out hk (8 + i) _ HAK.out; rwa [Nat.zero_add] at h_)) rfl)) ?_
        refine fsteps_cons 9 rfl (fun a u hE hD hk => f_unless (x.off) rfl rfl rfl (hD 2 23 (by kernel_rfl)) (fun hb => f_val (o := ⟨some 29, _, _, _, _, _⟩) (.bool K) rfl (wanted_b rfl rfl (hD 2 23 (by kernel_rfl)) (eq_false_of hb)) (exec_move (.tmp 28) _ rfl ((hD 7 28 (by kernel_rfl)).1 hb)) rfl)) ?_
        refine fsteps_cons 10 rfl (fun a u hE hD hk => f_if2 (!x.off) (K) rfl rfl rfl (hD 8 29 (by kernel_rfl)) (fun hb => f_val (o := ⟨some 30, _, _, _, _, _⟩) (.int .i64 d) rfl (wanted_b rfl rfl ((hD 8 29 (by kernel_rfl)).1 (and_l hb)) (eq_true_of (and_r hb))) (exec_move (.tmp 3) _ rfl (hE 3 (.int .i64 d) (by kernel_rfl) (by kernel_rfl))) rfl)) ?_
        refine fsteps_cons 11 rfl (fun a u hE hD hk => f_if2 (!x.off) (K) rfl rfl rfl (hD 8 29 (by kernel_rfl)) (fun hb => f_call (o := ⟨some 31, _, _, _, _, _⟩) 18 #[.int .i64 d] rfl (wanted_b rfl rfl ((hD 8 29 (by kernel_rfl)).1 (and_l hb)) (eq_true_of (and_r hb))) (exec_call 18 _ [.tmp 30] _ [.int .i64 d] Tryd.func18 (by kernel_rfl) (by kernel_rfl) rfl (show [a.eval (.tmp 30)] = [.int .i64 d] from (by rw [show a.eval (.tmp 30) = .int .i64 d from ((hD 9 30 (by kernel_rfl)).1 hb)] <;> rfl)) u) (even_any _ u))) ?_
        refine fsteps_cons 12 rfl (fun a u hE hD hk => f_if2 (!x.off) (K) rfl rfl rfl (hD 8 29 (by kernel_rfl)) (fun hb => f_val (o := ⟨some 32, _, _, _, _, _⟩) (.bool (!(evenB d))) rfl (wanted_b rfl rfl ((hD 8 29 (by kernel_rfl)).1 (and_l hb)) (eq_true_of (and_r hb))) (exec_not _ (.tmp 31) (evenB d) rfl ((hD 10 31 (by kernel_rfl)).1 hb)) rfl)) ?_
        refine fsteps_cons 13 rfl (fun a u hE hD hk => f_unless (x.off) rfl rfl rfl (hD 2 23 (by kernel_rfl)) (fun hb => f_val (o := ⟨some 33, _, _, _, _, _⟩) (.bool (K && (!(evenB d)))) rfl (wanted_b rfl rfl (hD 2 23 (by kernel_rfl)) (eq_false_of hb)) (exec_pickand (.tmp 29) (.tmp 32) (.const (.bool false)) (K) ((!(evenB d))) rfl ((hD 8 29 (by kernel_rfl)).1 hb) (fun hb2 => ((hD 11 32 (by kernel_rfl)).1 (and_mk hb hb2))) rfl) rfl)) ?_
        refine fsteps_cons 14 rfl (fun a u hE hD hk => f_as (show ((x.off || (K && (!(evenB d)))) : Bool) = false from HB.out) (f_val (o := ⟨some 34, _, _, _, _, _⟩) (.bool (x.off || (K && (!(evenB d))))) rfl (wanted_none rfl _) (exec_pickor (.tmp 23) (.const (.bool true)) (.tmp 33) (x.off) ((K && (!(evenB d)))) rfl (hD 2 23 (by kernel_rfl)) rfl (fun hb2 => ((hD 12 33 (by kernel_rfl)).1 hb2))) rfl)) ?_
        exact fsteps_nil
      intro gv v1w hV kv1
      rw [show dstsOf _ 14 = [21, 22, 23, 24, 25, 26, 27, 28, 29, 30, 31, 32, 33, 34] by kernel_rfl]
      simp only [List.foldl_cons, List.foldl_nil, List.setIfInBounds_toArray, List.set_cons_succ, List.set_cons_zero, List.drop_succ_cons, List.drop_zero]
      rw [show gv 34 = .bool false from hV 13 34 (by kernel_rfl)]
      clear hV
      refine wpList_nil ?_
      have G_1 := Lib.hid (HG2.out.kept kv1)
      have T_1 := Lib.hid (HT2.out.kept kv1)
      have R7_1 := Lib.hid (range_kept HD7.out kv1)
      have R13_1 := Lib.hid (range_kept HX13.out kv1)
      have kk1 := kz2.trans kv1
      clear HG2 HT2 HD7 HX13 kv1 kz2
      go_upto_region 6 with fail
      refine wp_text 1 [.eq (.int .i64 d)] rfl (by kernel_rfl) ?_ ?_
      · refine sv 1 rfl rfl rfl (fun a u hE hD hk => exec_move (.tmp 3) _ rfl (hE 3 (.int .i64 d) (by kernel_rfl) (by kernel_rfl))) ?_
        exact fsteps_nil
      intro gv v2w hV kv2
      rw [show dstsOf _ 1 = [35] by kernel_rfl]
      simp only [List.foldl_cons, List.foldl_nil, List.setIfInBounds_toArray, List.set_cons_succ, List.set_cons_zero, List.drop_succ_cons, List.drop_zero]
      rw [show gv 35 = .int .i64 d from hV 0 35 (by kernel_rfl)]
      clear hV
      refine wpList_nil ?_
      have G_2 := Lib.hid (G_1.out.kept kv2)
      have T_2 := Lib.hid (T_1.out.kept kv2)
      have R7_2 := Lib.hid (range_kept R7_1.out kv2)
      have R13_2 := Lib.hid (range_kept R13_1.out kv2)
      have kk2 := kk1.trans kv2
      clear G_1 T_1 R7_1 R13_1 kv2 kk1
      by_cases hd1 : d = 1
      · have HV4 : Hid (tradeV x p inst = V) := by show _ = _; rw [← HV3.out, if_pos hd1]
        go_upto_region 7 with fail
        refine wp_text 2 [.eq (.bool true), .eq (.bool true)] rfl (by kernel_rfl) ?_ ?_
        · refine fsteps_cons 1 rfl (fun a u hE hD hk => f_as (show ((decide ((d : Int) = (1 : Int))) : Bool) = true from decide_eq_true (by omega)) (f_val (o := ⟨some 37, _, _, _, _, _⟩) (.bool (decide ((d : Int) = (1 : Int)))) rfl (wanted_none rfl _) (exec_eqn (p := d) (q := 1) rfl (hE 35 (.int .i64 d) (by kernel_rfl) (by kernel_rfl)) rfl) rfl)) ?_
          refine sv 2 rfl rfl rfl (fun a u hE hD hk => exec_assign (.tmp 37) _ rfl (hD 0 37 (by kernel_rfl))) ?_
          exact fsteps_nil
        intro gv v3w hV kv3
        rw [show dstsOf _ 2 = [37, 36] by kernel_rfl]
        simp only [List.foldl_cons, List.foldl_nil, List.setIfInBounds_toArray, List.set_cons_succ, List.set_cons_zero, List.drop_succ_cons, List.drop_zero]
        rw [show gv 36 = .bool true from hV 1 36 (by kernel_rfl)]
        clear hV
        refine wpList_nil ?_
        have G_3 := Lib.hid (G_2.out.kept kv3)
        have T_3 := Lib.hid (T_2.out.kept kv3)
        have R7_3 := Lib.hid (range_kept R7_2.out kv3)
        have R13_3 := Lib.hid (range_kept R13_2.out kv3)
        have kk3 := kk2.trans kv3
        clear G_2 T_2 R7_2 R13_2 kv3 kk2
        go_upto_region 8 with fail
        refine wp_text 5 [.eq (x.v), .eq (p.v), .eq (.int .i64 inst), .eq (.int .i64 V), .eq (.int .i64 V)] rfl (by kernel_rfl) ?_ ?_
        · refine sv 1 rfl rfl rfl (fun a u hE hD hk => exec_ldS 35 _ (.tmp 13) (g13) (0) (x.cells) rfl (hE 13 (.pointer (some ⟨g13, 0, none⟩)) (by kernel_rfl) (by kernel_rfl)) (range_kept (R13_3.out) hk) Tryd.underlying35 (by rw [Trd.len37]; exact szT)) ?_
          refine sv 2 rfl rfl rfl (fun a u hE hD hk => exec_ldS 29 _ (.tmp 7) (g7) (0) (p.cells) rfl (hE 7 (.pointer (some ⟨g7, 0, none⟩)) (by kernel_rfl) (by kernel_rfl)) (range_kept R7_3.out hk) Tryd.underlying29 (by rw [p.len24]; exact szP)) ?_
          refine sv 3 rfl rfl rfl (fun a u hE hD hk => exec_move (.tmp 4) _ rfl (hE 4 (.int .i64 inst) (by kernel_rfl) (by kernel_rfl))) ?_
          refine fsteps_cons 4 rfl (fun a u hE hD hk => f_call (o := ⟨some 41, _, _, _, _, _⟩) 19 #[x.v, p.v, .int .i64 inst] rfl (wanted_none rfl _) (exec_call 19 _ [.tmp 38, .tmp 39, .tmp 40] _ [x.v, p.v, .int .i64 inst] Tryd.func19 (by kernel_rfl) (by kernel_rfl) rfl (show [a.eval (.tmp 38), a.eval (.tmp 39), a.eval (.tmp 40)] = [x.v, p.v, .int .i64 inst] from (by rw [show a.eval (.tmp 38) = x.v from (hD 0 38 (by kernel_rfl)), show a.eval (.tmp 39) = p.v from (hD 1 39 (by kernel_rfl)), show a.eval (.tmp 40) = .int .i64 inst from (hD 2 40 (by kernel_rfl))] <;> rfl)) u) (by rw [← HV4.out]; exact trade_any x p inst u (G_3.out.kept hk))) ?_
          refine sv 5 rfl rfl rfl (fun a u hE hD hk => exec_assign (.tmp 41) _ rfl (hD 3 41 (by kernel_rfl))) ?_
          exact fsteps_nil
        intro gv v4w hV kv4
        rw [show dstsOf _ 5 = [38, 39, 40, 41, 12] by kernel_rfl]
        simp only [List.foldl_cons, List.foldl_nil, List.setIfInBounds_toArray, List.set_cons_succ, List.set_cons_zero, List.drop_succ_cons, List.drop_zero]
        rw [show gv 12 = .int .i64 V from hV 4 12 (by kernel_rfl)]
        clear hV
        refine wpList_nil ?_
        have G_4 := Lib.hid (G_3.out.kept kv4)
        have T_4 := Lib.hid (T_3.out.kept kv4)
        have R7_4 := Lib.hid (range_kept R7_3.out kv4)
        have R13_4 := Lib.hid (range_kept R13_3.out kv4)
        have kk4 := kk3.trans kv4
        clear G_3 T_3 R7_3 R13_3 kv4 kk3
        go_wp2
        go_ret
        exact ⟨rfl, kk4⟩
      · by_cases hd2 : d = 2 ∨ d = 3
        · have HV4 : Hid (actV X p n d other = V) := by show _ = _; rw [← HV3.out, if_neg hd1, if_pos hd2]
          by_cases hd22 : d = 2
          · clear HV3
            go_upto_region 7 with fail
            refine wp_text 2 [.eq (.bool false), .eq (.bool false)] rfl (by kernel_rfl) ?_ ?_
            · refine fsteps_cons 1 rfl (fun a u hE hD hk => f_as (show ((decide ((d : Int) = (1 : Int))) : Bool) = false from decide_eq_false (by omega)) (f_val (o := ⟨some 37, _, _, _, _, _⟩) (.bool (decide ((d : Int) = (1 : Int)))) rfl (wanted_none rfl _) (exec_eqn (p := d) (q := 1) rfl (hE 35 (.int .i64 d) (by kernel_rfl) (by kernel_rfl)) rfl) rfl)) ?_
              refine sv 2 rfl rfl rfl (fun a u hE hD hk => exec_assign (.tmp 37) _ rfl (hD 0 37 (by kernel_rfl))) ?_
              exact fsteps_nil
            intro gv v3w hV kv3
            rw [show dstsOf _ 2 = [37, 36] by kernel_rfl]
            simp only [List.foldl_cons, List.foldl_nil, List.setIfInBounds_toArray, List.set_cons_succ, List.set_cons_zero, List.drop_succ_cons, List.drop_zero]
            rw [show gv 36 = .bool false from hV 1 36 (by kernel_rfl)]
            clear hV
            refine wpList_nil ?_
            have G_3 := Lib.hid (G_2.out.kept kv3)
            have T_3 := Lib.hid (T_2.out.kept kv3)
            have R7_3 := Lib.hid (range_kept R7_2.out kv3)
            have R13_3 := Lib.hid (range_kept R13_2.out kv3)
            have kk3 := kk2.trans kv3
            clear G_2 T_2 R7_2 R13_2 kv3 kk2
            go_upto_region 9 with fail
            refine wp_text 2 [.eq (.bool true), .eq (.bool true)] rfl (by kernel_rfl) ?_ ?_
            · refine fsteps_cons 1 rfl (fun a u hE hD hk => f_as (show ((decide ((d : Int) = (2 : Int))) : Bool) = true from decide_eq_true (by omega)) (f_val (o := ⟨some 43, _, _, _, _, _⟩) (.bool (decide ((d : Int) = (2 : Int)))) rfl (wanted_none rfl _) (exec_eqn (p := d) (q := 2) rfl (hE 35 (.int .i64 d) (by kernel_rfl) (by kernel_rfl)) rfl) rfl)) ?_
              refine sv 2 rfl rfl rfl (fun a u hE hD hk => exec_assign (.tmp 43) _ rfl (hD 0 43 (by kernel_rfl))) ?_
              exact fsteps_nil
            intro gv v4w hV kv4
            rw [show dstsOf _ 2 = [43, 42] by kernel_rfl]
            simp only [List.foldl_cons, List.foldl_nil, List.setIfInBounds_toArray, List.set_cons_succ, List.set_cons_zero, List.drop_succ_cons, List.drop_zero]
            rw [show gv 42 = .bool true from hV 1 42 (by kernel_rfl)]
            clear hV
            refine wpList_nil ?_
            have G_4 := Lib.hid (G_3.out.kept kv4)
            have T_4 := Lib.hid (T_3.out.kept kv4)
            have R7_4 := Lib.hid (range_kept R7_3.out kv4)
            have R13_4 := Lib.hid (range_kept R13_3.out kv4)
            have kk4 := kk3.trans kv4
            clear G_3 T_3 R7_3 R13_3 kv4 kk3
            go_upto_region 11 with fail
            refine wp_text 7 [.eq (.pointer (some ⟨q, 0, none⟩)), .eq (p.v), .eq (.int .i64 n), .eq (.int .i64 d), .eq (.int .i64 other), .eq (.int .i64 V), .eq (.int .i64 V)] rfl (by kernel_rfl) ?_ ?_
            · refine sv 1 rfl rfl rfl (fun a u hE hD hk => exec_move (.tmp 0) _ rfl (hE 0 (.pointer (some ⟨q, 0, none⟩)) (by kernel_rfl) (by kernel_rfl))) ?_
              refine sv 2 rfl rfl rfl (fun a u hE hD hk => exec_ldS 29 _ (.tmp 7) (g7) (0) (p.cells) rfl (hE 7 (.pointer (some ⟨g7, 0, none⟩)) (by kernel_rfl) (by kernel_rfl)) (range_kept R7_4.out hk) Tryd.underlying29 (by rw [p.len24]; exact szP)) ?_
              refine sv 3 rfl rfl rfl (fun a u hE hD hk => exec_move (.tmp 2) _ rfl (hE 2 (.int .i64 n) (by kernel_rfl) (by kernel_rfl))) ?_
              refine sv 4 rfl rfl rfl (fun a u hE hD hk => exec_move (.tmp 3) _ rfl (hE 3 (.int .i64 d) (by kernel_rfl) (by kernel_rfl))) ?_
              refine sv 5 rfl rfl rfl (fun a u hE hD hk => exec_move (.tmp 5) _ rfl (hE 5 (.int .i64 other) (by kernel_rfl) (by kernel_rfl))) ?_
              refine fsteps_cons 6 rfl (fun a u hE hD hk => f_call (o := ⟨some 50, _, _, _, _, _⟩) 20 #[.pointer (some ⟨q, 0, none⟩), p.v, .int .i64 n, .int .i64 d, .int .i64 other] rfl (wanted_none rfl _) (exec_call 20 _ [.tmp 45, .tmp 46, .tmp 47, .tmp 48, .tmp 49] _ [.pointer (some ⟨q, 0, none⟩), p.v, .int .i64 n, .int .i64 d, .int .i64 other] Tryd.func20 (by kernel_rfl) (by kernel_rfl) rfl (show [a.eval (.tmp 45), a.eval (.tmp 46), a.eval (.tmp 47), a.eval (.tmp 48), a.eval (.tmp 49)] = [.pointer (some ⟨q, 0, none⟩), p.v, .int .i64 n, .int .i64 d, .int .i64 other] from (by rw [show a.eval (.tmp 45) = .pointer (some ⟨q, 0, none⟩) from (hD 0 45 (by kernel_rfl)), show a.eval (.tmp 46) = p.v from (hD 1 46 (by kernel_rfl)), show a.eval (.tmp 47) = .int .i64 n from (hD 2 47 (by kernel_rfl)), show a.eval (.tmp 48) = .int .i64 d from (hD 3 48 (by kernel_rfl)), show a.eval (.tmp 49) = .int .i64 other from (hD 4 49 (by kernel_rfl))] <;> rfl)) u) (by rw [← HV4.out]; exact act_any q X p n d other u (G_4.out.kept hk) (T_4.out.kept hk) HX.out HNn.out)) ?_
              refine sv 7 rfl rfl rfl (fun a u hE hD hk => exec_assign (.tmp 50) _ rfl (hD 5 50 (by kernel_rfl))) ?_
              exact fsteps_nil
            intro gv v5w hV kv5
            rw [show dstsOf _ 7 = [45, 46, 47, 48, 49, 50, 12] by kernel_rfl]
            simp only [List.foldl_cons, List.foldl_nil, List.setIfInBounds_toArray, List.set_cons_succ, List.set_cons_zero, List.drop_succ_cons, List.drop_zero]
            rw [show gv 12 = .int .i64 V from hV 6 12 (by kernel_rfl)]
            clear hV
            refine wpList_nil ?_
            have G_5 := Lib.hid (G_4.out.kept kv5)
            have T_5 := Lib.hid (T_4.out.kept kv5)
            have R7_5 := Lib.hid (range_kept R7_4.out kv5)
            have R13_5 := Lib.hid (range_kept R13_4.out kv5)
            have kk5 := kk4.trans kv5
            clear G_4 T_4 R7_4 R13_4 kv5 kk4
            go_wp2
            go_ret
            exact ⟨rfl, kk5⟩
          · clear HV3
            go_upto_region 7 with fail
            refine wp_text 2 [.eq (.bool false), .eq (.bool false)] rfl (by kernel_rfl) ?_ ?_
            · refine fsteps_cons 1 rfl (fun a u hE hD hk => f_as (show ((decide ((d : Int) = (1 : Int))) : Bool) = false from decide_eq_false (by omega)) (f_val (o := ⟨some 37, _, _, _, _, _⟩) (.bool (decide ((d : Int) = (1 : Int)))) rfl (wanted_none rfl _) (exec_eqn (p := d) (q := 1) rfl (hE 35 (.int .i64 d) (by kernel_rfl) (by kernel_rfl)) rfl) rfl)) ?_
              refine sv 2 rfl rfl rfl (fun a u hE hD hk => exec_assign (.tmp 37) _ rfl (hD 0 37 (by kernel_rfl))) ?_
              exact fsteps_nil
            intro gv v3w hV kv3
            rw [show dstsOf _ 2 = [37, 36] by kernel_rfl]
            simp only [List.foldl_cons, List.foldl_nil, List.setIfInBounds_toArray, List.set_cons_succ, List.set_cons_zero, List.drop_succ_cons, List.drop_zero]
            rw [show gv 36 = .bool false from hV 1 36 (by kernel_rfl)]
            clear hV
            refine wpList_nil ?_
            have G_3 := Lib.hid (G_2.out.kept kv3)
            have T_3 := Lib.hid (T_2.out.kept kv3)
            have R7_3 := Lib.hid (range_kept R7_2.out kv3)
            have R13_3 := Lib.hid (range_kept R13_2.out kv3)
            have kk3 := kk2.trans kv3
            clear G_2 T_2 R7_2 R13_2 kv3 kk2
            go_upto_region 9 with fail
            refine wp_text 2 [.eq (.bool false), .eq (.bool false)] rfl (by kernel_rfl) ?_ ?_
            · refine fsteps_cons 1 rfl (fun a u hE hD hk => f_as (show ((decide ((d : Int) = (2 : Int))) : Bool) = false from decide_eq_false (by omega)) (f_val (o := ⟨some 43, _, _, _, _, _⟩) (.bool (decide ((d : Int) = (2 : Int)))) rfl (wanted_none rfl _) (exec_eqn (p := d) (q := 2) rfl (hE 35 (.int .i64 d) (by kernel_rfl) (by kernel_rfl)) rfl) rfl)) ?_
              refine sv 2 rfl rfl rfl (fun a u hE hD hk => exec_assign (.tmp 43) _ rfl (hD 0 43 (by kernel_rfl))) ?_
              exact fsteps_nil
            intro gv v4w hV kv4
            rw [show dstsOf _ 2 = [43, 42] by kernel_rfl]
            simp only [List.foldl_cons, List.foldl_nil, List.setIfInBounds_toArray, List.set_cons_succ, List.set_cons_zero, List.drop_succ_cons, List.drop_zero]
            rw [show gv 42 = .bool false from hV 1 42 (by kernel_rfl)]
            clear hV
            refine wpList_nil ?_
            have G_4 := Lib.hid (G_3.out.kept kv4)
            have T_4 := Lib.hid (T_3.out.kept kv4)
            have R7_4 := Lib.hid (range_kept R7_3.out kv4)
            have R13_4 := Lib.hid (range_kept R13_3.out kv4)
            have kk4 := kk3.trans kv4
            clear G_3 T_3 R7_3 R13_3 kv4 kk3
            go_upto_region 10 with fail
            refine wp_text 2 [.eq (.bool true), .eq (.bool true)] rfl (by kernel_rfl) ?_ ?_
            · refine fsteps_cons 1 rfl (fun a u hE hD hk => f_as (show ((decide ((d : Int) = (3 : Int))) : Bool) = true from decide_eq_true (by omega)) (f_val (o := ⟨some 44, _, _, _, _, _⟩) (.bool (decide ((d : Int) = (3 : Int)))) rfl (wanted_none rfl _) (exec_eqn (p := d) (q := 3) rfl (hE 35 (.int .i64 d) (by kernel_rfl) (by kernel_rfl)) rfl) rfl)) ?_
              refine sv 2 rfl rfl rfl (fun a u hE hD hk => exec_assign (.tmp 44) _ rfl (hD 0 44 (by kernel_rfl))) ?_
              exact fsteps_nil
            intro gv v5w hV kv5
            rw [show dstsOf _ 2 = [44, 42] by kernel_rfl]
            simp only [List.foldl_cons, List.foldl_nil, List.setIfInBounds_toArray, List.set_cons_succ, List.set_cons_zero, List.drop_succ_cons, List.drop_zero]
            rw [show gv 42 = .bool true from hV 1 42 (by kernel_rfl)]
            clear hV
            refine wpList_nil ?_
            have G_5 := Lib.hid (G_4.out.kept kv5)
            have T_5 := Lib.hid (T_4.out.kept kv5)
            have R7_5 := Lib.hid (range_kept R7_4.out kv5)
            have R13_5 := Lib.hid (range_kept R13_4.out kv5)
            have kk5 := kk4.trans kv5
            clear G_4 T_4 R7_4 R13_4 kv5 kk4
            go_upto_region 11 with fail
            refine wp_text 7 [.eq (.pointer (some ⟨q, 0, none⟩)), .eq (p.v), .eq (.int .i64 n), .eq (.int .i64 d), .eq (.int .i64 other), .eq (.int .i64 V), .eq (.int .i64 V)] rfl (by kernel_rfl) ?_ ?_
            · refine sv 1 rfl rfl rfl (fun a u hE hD hk => exec_move (.tmp 0) _ rfl (hE 0 (.pointer (some ⟨q, 0, none⟩)) (by kernel_rfl) (by kernel_rfl))) ?_
              refine sv 2 rfl rfl rfl (fun a u hE hD hk => exec_ldS 29 _ (.tmp 7) (g7) (0) (p.cells) rfl (hE 7 (.pointer (some ⟨g7, 0, none⟩)) (by kernel_rfl) (by kernel_rfl)) (range_kept R7_5.out hk) Tryd.underlying29 (by rw [p.len24]; exact szP)) ?_
              refine sv 3 rfl rfl rfl (fun a u hE hD hk => exec_move (.tmp 2) _ rfl (hE 2 (.int .i64 n) (by kernel_rfl) (by kernel_rfl))) ?_
              refine sv 4 rfl rfl rfl (fun a u hE hD hk => exec_move (.tmp 3) _ rfl (hE 3 (.int .i64 d) (by kernel_rfl) (by kernel_rfl))) ?_
              refine sv 5 rfl rfl rfl (fun a u hE hD hk => exec_move (.tmp 5) _ rfl (hE 5 (.int .i64 other) (by kernel_rfl) (by kernel_rfl))) ?_
              refine fsteps_cons 6 rfl (fun a u hE hD hk => f_call (o := ⟨some 50, _, _, _, _, _⟩) 20 #[.pointer (some ⟨q, 0, none⟩), p.v, .int .i64 n, .int .i64 d, .int .i64 other] rfl (wanted_none rfl _) (exec_call 20 _ [.tmp 45, .tmp 46, .tmp 47, .tmp 48, .tmp 49] _ [.pointer (some ⟨q, 0, none⟩), p.v, .int .i64 n, .int .i64 d, .int .i64 other] Tryd.func20 (by kernel_rfl) (by kernel_rfl) rfl (show [a.eval (.tmp 45), a.eval (.tmp 46), a.eval (.tmp 47), a.eval (.tmp 48), a.eval (.tmp 49)] = [.pointer (some ⟨q, 0, none⟩), p.v, .int .i64 n, .int .i64 d, .int .i64 other] from (by rw [show a.eval (.tmp 45) = .pointer (some ⟨q, 0, none⟩) from (hD 0 45 (by kernel_rfl)), show a.eval (.tmp 46) = p.v from (hD 1 46 (by kernel_rfl)), show a.eval (.tmp 47) = .int .i64 n from (hD 2 47 (by kernel_rfl)), show a.eval (.tmp 48) = .int .i64 d from (hD 3 48 (by kernel_rfl)), show a.eval (.tmp 49) = .int .i64 other from (hD 4 49 (by kernel_rfl))] <;> rfl)) u) (by rw [← HV4.out]; exact act_any q X p n d other u (G_5.out.kept hk) (T_5.out.kept hk) HX.out HNn.out)) ?_
              refine sv 7 rfl rfl rfl (fun a u hE hD hk => exec_assign (.tmp 50) _ rfl (hD 5 50 (by kernel_rfl))) ?_
              exact fsteps_nil
            intro gv v6w hV kv6
            rw [show dstsOf _ 7 = [45, 46, 47, 48, 49, 50, 12] by kernel_rfl]
            simp only [List.foldl_cons, List.foldl_nil, List.setIfInBounds_toArray, List.set_cons_succ, List.set_cons_zero, List.drop_succ_cons, List.drop_zero]
            rw [show gv 12 = .int .i64 V from hV 6 12 (by kernel_rfl)]
            clear hV
            refine wpList_nil ?_
            have G_6 := Lib.hid (G_5.out.kept kv6)
            have T_6 := Lib.hid (T_5.out.kept kv6)
            have R7_6 := Lib.hid (range_kept R7_5.out kv6)
            have R13_6 := Lib.hid (range_kept R13_5.out kv6)
            have kk6 := kk5.trans kv6
            clear G_5 T_5 R7_5 R13_5 kv6 kk5
            go_wp2
            go_ret
            exact ⟨rfl, kk6⟩
        · by_cases hd4 : d = 4
          · have HV4 : Hid (entV x.roles 4 0 = V) := by show _ = _; rw [← HV3.out, if_neg hd1, if_neg hd2, if_pos hd4]
            go_upto_region 7 with fail
            refine wp_text 2 [.eq (.bool false), .eq (.bool false)] rfl (by kernel_rfl) ?_ ?_
            · refine fsteps_cons 1 rfl (fun a u hE hD hk => f_as (show ((decide ((d : Int) = (1 : Int))) : Bool) = false from decide_eq_false (by omega)) (f_val (o := ⟨some 37, _, _, _, _, _⟩) (.bool (decide ((d : Int) = (1 : Int)))) rfl (wanted_none rfl _) (exec_eqn (p := d) (q := 1) rfl (hE 35 (.int .i64 d) (by kernel_rfl) (by kernel_rfl)) rfl) rfl)) ?_
              refine sv 2 rfl rfl rfl (fun a u hE hD hk => exec_assign (.tmp 37) _ rfl (hD 0 37 (by kernel_rfl))) ?_
              exact fsteps_nil
            intro gv v3w hV kv3
            rw [show dstsOf _ 2 = [37, 36] by kernel_rfl]
            simp only [List.foldl_cons, List.foldl_nil, List.setIfInBounds_toArray, List.set_cons_succ, List.set_cons_zero, List.drop_succ_cons, List.drop_zero]
            rw [show gv 36 = .bool false from hV 1 36 (by kernel_rfl)]
            clear hV
            refine wpList_nil ?_
            have G_3 := Lib.hid (G_2.out.kept kv3)
            have T_3 := Lib.hid (T_2.out.kept kv3)
            have R7_3 := Lib.hid (range_kept R7_2.out kv3)
            have R13_3 := Lib.hid (range_kept R13_2.out kv3)
            have kk3 := kk2.trans kv3
            clear G_2 T_2 R7_2 R13_2 kv3 kk2
            go_upto_region 9 with fail
            refine wp_text 2 [.eq (.bool false), .eq (.bool false)] rfl (by kernel_rfl) ?_ ?_
            · refine fsteps_cons 1 rfl (fun a u hE hD hk => f_as (show ((decide ((d : Int) = (2 : Int))) : Bool) = false from decide_eq_false (by omega)) (f_val (o := ⟨some 43, _, _, _, _, _⟩) (.bool (decide ((d : Int) = (2 : Int)))) rfl (wanted_none rfl _) (exec_eqn (p := d) (q := 2) rfl (hE 35 (.int .i64 d) (by kernel_rfl) (by kernel_rfl)) rfl) rfl)) ?_
              refine sv 2 rfl rfl rfl (fun a u hE hD hk => exec_assign (.tmp 43) _ rfl (hD 0 43 (by kernel_rfl))) ?_
              exact fsteps_nil
            intro gv v4w hV kv4
            rw [show dstsOf _ 2 = [43, 42] by kernel_rfl]
            simp only [List.foldl_cons, List.foldl_nil, List.setIfInBounds_toArray, List.set_cons_succ, List.set_cons_zero, List.drop_succ_cons, List.drop_zero]
            rw [show gv 42 = .bool false from hV 1 42 (by kernel_rfl)]
            clear hV
            refine wpList_nil ?_
            have G_4 := Lib.hid (G_3.out.kept kv4)
            have T_4 := Lib.hid (T_3.out.kept kv4)
            have R7_4 := Lib.hid (range_kept R7_3.out kv4)
            have R13_4 := Lib.hid (range_kept R13_3.out kv4)
            have kk4 := kk3.trans kv4
            clear G_3 T_3 R7_3 R13_3 kv4 kk3
            go_upto_region 10 with fail
            refine wp_text 2 [.eq (.bool false), .eq (.bool false)] rfl (by kernel_rfl) ?_ ?_
            · refine fsteps_cons 1 rfl (fun a u hE hD hk => f_as (show ((decide ((d : Int) = (3 : Int))) : Bool) = false from decide_eq_false (by omega)) (f_val (o := ⟨some 44, _, _, _, _, _⟩) (.bool (decide ((d : Int) = (3 : Int)))) rfl (wanted_none rfl _) (exec_eqn (p := d) (q := 3) rfl (hE 35 (.int .i64 d) (by kernel_rfl) (by kernel_rfl)) rfl) rfl)) ?_
              refine sv 2 rfl rfl rfl (fun a u hE hD hk => exec_assign (.tmp 44) _ rfl (hD 0 44 (by kernel_rfl))) ?_
              exact fsteps_nil
            intro gv v5w hV kv5
            rw [show dstsOf _ 2 = [44, 42] by kernel_rfl]
            simp only [List.foldl_cons, List.foldl_nil, List.setIfInBounds_toArray, List.set_cons_succ, List.set_cons_zero, List.drop_succ_cons, List.drop_zero]
            rw [show gv 42 = .bool false from hV 1 42 (by kernel_rfl)]
            clear hV
            refine wpList_nil ?_
            have G_5 := Lib.hid (G_4.out.kept kv5)
            have T_5 := Lib.hid (T_4.out.kept kv5)
            have R7_5 := Lib.hid (range_kept R7_4.out kv5)
            have R13_5 := Lib.hid (range_kept R13_4.out kv5)
            have kk5 := kk4.trans kv5
            clear G_4 T_4 R7_4 R13_4 kv5 kk4
            go_upto_region 12 with fail
            refine wp_text 2 [.eq (.bool true), .eq (.bool true)] rfl (by kernel_rfl) ?_ ?_
            · refine fsteps_cons 1 rfl (fun a u hE hD hk => f_as (show ((decide ((d : Int) = (4 : Int))) : Bool) = true from decide_eq_true (by omega)) (f_val (o := ⟨some 52, _, _, _, _, _⟩) (.bool (decide ((d : Int) = (4 : Int)))) rfl (wanted_none rfl _) (exec_eqn (p := d) (q := 4) rfl (hE 35 (.int .i64 d) (by kernel_rfl) (by kernel_rfl)) rfl) rfl)) ?_
              refine sv 2 rfl rfl rfl (fun a u hE hD hk => exec_assign (.tmp 52) _ rfl (hD 0 52 (by kernel_rfl))) ?_
              exact fsteps_nil
            intro gv v6w hV kv6
            rw [show dstsOf _ 2 = [52, 51] by kernel_rfl]
            simp only [List.foldl_cons, List.foldl_nil, List.setIfInBounds_toArray, List.set_cons_succ, List.set_cons_zero, List.drop_succ_cons, List.drop_zero]
            rw [show gv 51 = .bool true from hV 1 51 (by kernel_rfl)]
            clear hV
            refine wpList_nil ?_
            have G_6 := Lib.hid (G_5.out.kept kv6)
            have T_6 := Lib.hid (T_5.out.kept kv6)
            have R7_6 := Lib.hid (range_kept R7_5.out kv6)
            have R13_6 := Lib.hid (range_kept R13_5.out kv6)
            have kk6 := kk5.trans kv6
            clear G_5 T_5 R7_5 R13_5 kv6 kk5
            go_upto_region 13 with fail
            refine wp_text 4 [.eq (x.v), .eq (.int .i64 d), .eq (.int .i64 V), .eq (.int .i64 V)] rfl (by kernel_rfl) ?_ ?_
            · refine sv 1 rfl rfl rfl (fun a u hE hD hk => exec_ldS 35 _ (.tmp 13) (g13) (0) (x.cells) rfl (hE 13 (.pointer (some ⟨g13, 0, none⟩)) (by kernel_rfl) (by kernel_rfl)) (range_kept (R13_6.out) hk) Tryd.underlying35 (by rw [Trd.len37]; exact szT)) ?_
              refine sv 2 rfl rfl rfl (fun a u hE hD hk => exec_move (.tmp 3) _ rfl (hE 3 (.int .i64 d) (by kernel_rfl) (by kernel_rfl))) ?_
              refine fsteps_cons 3 rfl (fun a u hE hD hk => f_call (o := ⟨some 55, _, _, _, _, _⟩) 21 #[x.v, .int .i64 d, .int .i64 0] rfl (wanted_none rfl _) (exec_call 21 _ [.tmp 53, .tmp 54, .const (.int .i64 0)] _ [x.v, .int .i64 d, .int .i64 0] Tryd.func21 (by kernel_rfl) (by kernel_rfl) rfl (show [a.eval (.tmp 53), a.eval (.tmp 54), a.eval (.const (.int .i64 0))] = [x.v, .int .i64 d, .int .i64 0] from (by rw [show a.eval (.tmp 53) = x.v from (hD 0 53 (by kernel_rfl)), show a.eval (.tmp 54) = .int .i64 d from (hD 1 54 (by kernel_rfl))] <;> rfl)) u) (by rw [← HV4.out, hd4]; exact entitled_any x 4 0 u (G_6.out.kept hk))) ?_
              refine sv 4 rfl rfl rfl (fun a u hE hD hk => exec_assign (.tmp 55) _ rfl (hD 2 55 (by kernel_rfl))) ?_
              exact fsteps_nil
            intro gv v7w hV kv7
            rw [show dstsOf _ 4 = [53, 54, 55, 12] by kernel_rfl]
            simp only [List.foldl_cons, List.foldl_nil, List.setIfInBounds_toArray, List.set_cons_succ, List.set_cons_zero, List.drop_succ_cons, List.drop_zero]
            rw [show gv 12 = .int .i64 V from hV 3 12 (by kernel_rfl)]
            clear hV
            refine wpList_nil ?_
            have G_7 := Lib.hid (G_6.out.kept kv7)
            have T_7 := Lib.hid (T_6.out.kept kv7)
            have R7_7 := Lib.hid (range_kept R7_6.out kv7)
            have R13_7 := Lib.hid (range_kept R13_6.out kv7)
            have kk7 := kk6.trans kv7
            clear G_6 T_6 R7_6 R13_6 kv7 kk6
            go_wp2
            go_ret
            exact ⟨rfl, kk7⟩
          · have HV4 : Hid (V = 1) := by show _ = _; rw [← HV3.out, if_neg hd1, if_neg hd2, if_neg hd4]
            go_upto_region 7 with fail
            refine wp_text 2 [.eq (.bool false), .eq (.bool false)] rfl (by kernel_rfl) ?_ ?_
            · refine fsteps_cons 1 rfl (fun a u hE hD hk => f_as (show ((decide ((d : Int) = (1 : Int))) : Bool) = false from decide_eq_false (by omega)) (f_val (o := ⟨some 37, _, _, _, _, _⟩) (.bool (decide ((d : Int) = (1 : Int)))) rfl (wanted_none rfl _) (exec_eqn (p := d) (q := 1) rfl (hE 35 (.int .i64 d) (by kernel_rfl) (by kernel_rfl)) rfl) rfl)) ?_
              refine sv 2 rfl rfl rfl (fun a u hE hD hk => exec_assign (.tmp 37) _ rfl (hD 0 37 (by kernel_rfl))) ?_
              exact fsteps_nil
            intro gv v3w hV kv3
            rw [show dstsOf _ 2 = [37, 36] by kernel_rfl]
            simp only [List.foldl_cons, List.foldl_nil, List.setIfInBounds_toArray, List.set_cons_succ, List.set_cons_zero, List.drop_succ_cons, List.drop_zero]
            rw [show gv 36 = .bool false from hV 1 36 (by kernel_rfl)]
            clear hV
            refine wpList_nil ?_
            have G_3 := Lib.hid (G_2.out.kept kv3)
            have T_3 := Lib.hid (T_2.out.kept kv3)
            have R7_3 := Lib.hid (range_kept R7_2.out kv3)
            have R13_3 := Lib.hid (range_kept R13_2.out kv3)
            have kk3 := kk2.trans kv3
            clear G_2 T_2 R7_2 R13_2 kv3 kk2
            go_upto_region 9 with fail
            refine wp_text 2 [.eq (.bool false), .eq (.bool false)] rfl (by kernel_rfl) ?_ ?_
            · refine fsteps_cons 1 rfl (fun a u hE hD hk => f_as (show ((decide ((d : Int) = (2 : Int))) : Bool) = false from decide_eq_false (by omega)) (f_val (o := ⟨some 43, _, _, _, _, _⟩) (.bool (decide ((d : Int) = (2 : Int)))) rfl (wanted_none rfl _) (exec_eqn (p := d) (q := 2) rfl (hE 35 (.int .i64 d) (by kernel_rfl) (by kernel_rfl)) rfl) rfl)) ?_
              refine sv 2 rfl rfl rfl (fun a u hE hD hk => exec_assign (.tmp 43) _ rfl (hD 0 43 (by kernel_rfl))) ?_
              exact fsteps_nil
            intro gv v4w hV kv4
            rw [show dstsOf _ 2 = [43, 42] by kernel_rfl]
            simp only [List.foldl_cons, List.foldl_nil, List.setIfInBounds_toArray, List.set_cons_succ, List.set_cons_zero, List.drop_succ_cons, List.drop_zero]
            rw [show gv 42 = .bool false from hV 1 42 (by kernel_rfl)]
            clear hV
            refine wpList_nil ?_
            have G_4 := Lib.hid (G_3.out.kept kv4)
            have T_4 := Lib.hid (T_3.out.kept kv4)
            have R7_4 := Lib.hid (range_kept R7_3.out kv4)
            have R13_4 := Lib.hid (range_kept R13_3.out kv4)
            have kk4 := kk3.trans kv4
            clear G_3 T_3 R7_3 R13_3 kv4 kk3
            go_upto_region 10 with fail
            refine wp_text 2 [.eq (.bool false), .eq (.bool false)] rfl (by kernel_rfl) ?_ ?_
            · refine fsteps_cons 1 rfl (fun a u hE hD hk => f_as (show ((decide ((d : Int) = (3 : Int))) : Bool) = false from decide_eq_false (by omega)) (f_val (o := ⟨some 44, _, _, _, _, _⟩) (.bool (decide ((d : Int) = (3 : Int)))) rfl (wanted_none rfl _) (exec_eqn (p := d) (q := 3) rfl (hE 35 (.int .i64 d) (by kernel_rfl) (by kernel_rfl)) rfl) rfl)) ?_
              refine sv 2 rfl rfl rfl (fun a u hE hD hk => exec_assign (.tmp 44) _ rfl (hD 0 44 (by kernel_rfl))) ?_
              exact fsteps_nil
            intro gv v5w hV kv5
            rw [show dstsOf _ 2 = [44, 42] by kernel_rfl]
            simp only [List.foldl_cons, List.foldl_nil, List.setIfInBounds_toArray, List.set_cons_succ, List.set_cons_zero, List.drop_succ_cons, List.drop_zero]
            rw [show gv 42 = .bool false from hV 1 42 (by kernel_rfl)]
            clear hV
            refine wpList_nil ?_
            have G_5 := Lib.hid (G_4.out.kept kv5)
            have T_5 := Lib.hid (T_4.out.kept kv5)
            have R7_5 := Lib.hid (range_kept R7_4.out kv5)
            have R13_5 := Lib.hid (range_kept R13_4.out kv5)
            have kk5 := kk4.trans kv5
            clear G_4 T_4 R7_4 R13_4 kv5 kk4
            go_upto_region 12 with fail
            refine wp_text 2 [.eq (.bool false), .eq (.bool false)] rfl (by kernel_rfl) ?_ ?_
            · refine fsteps_cons 1 rfl (fun a u hE hD hk => f_as (show ((decide ((d : Int) = (4 : Int))) : Bool) = false from decide_eq_false (by omega)) (f_val (o := ⟨some 52, _, _, _, _, _⟩) (.bool (decide ((d : Int) = (4 : Int)))) rfl (wanted_none rfl _) (exec_eqn (p := d) (q := 4) rfl (hE 35 (.int .i64 d) (by kernel_rfl) (by kernel_rfl)) rfl) rfl)) ?_
              refine sv 2 rfl rfl rfl (fun a u hE hD hk => exec_assign (.tmp 52) _ rfl (hD 0 52 (by kernel_rfl))) ?_
              exact fsteps_nil
            intro gv v6w hV kv6
            rw [show dstsOf _ 2 = [52, 51] by kernel_rfl]
            simp only [List.foldl_cons, List.foldl_nil, List.setIfInBounds_toArray, List.set_cons_succ, List.set_cons_zero, List.drop_succ_cons, List.drop_zero]
            rw [show gv 51 = .bool false from hV 1 51 (by kernel_rfl)]
            clear hV
            refine wpList_nil ?_
            have G_6 := Lib.hid (G_5.out.kept kv6)
            have T_6 := Lib.hid (T_5.out.kept kv6)
            have R7_6 := Lib.hid (range_kept R7_5.out kv6)
            have R13_6 := Lib.hid (range_kept R13_5.out kv6)
            have kk6 := kk5.trans kv6
            clear G_5 T_5 R7_5 R13_5 kv6 kk5
            go_wp2
            go_ret
            exact ⟨by rw [HV4.out]; rfl, kk6⟩
end Go.Proofs.YtfoamgljfdnloaaDoor
