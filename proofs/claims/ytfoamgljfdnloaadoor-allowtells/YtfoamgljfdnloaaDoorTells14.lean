/-
  The contract of jobberlaw14.AllowTells: any traders, any phase, anything: the answer is the document's own; it answers true. Condition: the table of rules as its text lays it.
-/
import Derived.Test.YtfoamgljfdnloaaDoorRuns14
namespace Go.Proofs.YtfoamgljfdnloaaDoor
open Go.RowKit
set_option linter.unusedVariables false
set_option maxRecDepth 100000

theorem rnew_okA {w : World} {X : Trds} (h : X.bad = none) : Calls Tryd.prog 13 #[X.v] w fun e w' => ∃ p, e = .returned (.tuple #[.pointer (some ⟨p, 0, none⟩), .int .i64 (-1)]) ∧ w.heap.size ≤ p ∧ Blk w' p 60 X.cells ∧ Kept w w' := by
  refine (rnew_any w X).mono ?_
  rintro e w' ⟨hk, h1 | h1⟩
  · obtain ⟨i, h2, _⟩ := h1
    rw [h] at h2
    cases h2
  · obtain ⟨_, p, rfl, h2, h3⟩ := h1
    exact ⟨p, rfl, h2, h3, hk⟩
set_option maxRecDepth 100000 in
set_option maxHeartbeats 6400000 in
theorem allowTells_any (v : Value) (l : List Ab) (p : Phs) (n : Int) (d : Int) (inst : Int) (other : Int) (w : World) (hG : RulIn w) (hl : Abs w v l) : Calls Tryd.prog 4 #[v, p.v, .int .i64 n, .int .i64 d, .int .i64 inst, .int .i64 other] w fun e w' => e = .returned (.bool true) ∧ Kept w w' := by
  have HOk := Lib.hid (abs_good (l.take 40))
  have HBd := Lib.hid (bad_none HOk.out)
  have HX : Hid (∀ u, Kept w u → Gives 11 #[v] u (.eq (absL (l.take 40)).v)) := fun u hk => abs_any u v l (hl.kept hk)
  have HAR : Hid (∀ u, Kept w u → Gives 3 #[] u (.eq (.bool true))) := fun u hk => allowRuns_is u (hG.kept hk)
  have HG := Lib.hid hG
  generalize absL (l.take 40) = X at HOk HBd HX
  clear hl hG
  obtain ⟨b0, hb0⟩ : ∃ z, w.alloc (.cells p.cells.toArray 29) = z := ⟨_, rfl⟩
  have q0 : Kept w b0 := by rw [← hb0]; exact (Keep.refl _ _).alloc _
  have r0 : b0.rangeAt w.heap.size 0 p.cells := by rw [← hb0]; exact blk_range (Blk.new w 29 p.cells)
  have HB7 := Lib.hid (r0)
  have k0 := q0
  clear r0
  go_enter Tryd.func4, Tryd.ntmps4
  go_upto_region 0 with fail
  refine wp_region_lit ?_
  refine l_new (o := ⟨some 7, _, _, _, _, _⟩) (.pointer (some ⟨w.heap.size, 0, none⟩)) b0 rfl (by rw [← hb0]; exact exec_box 29 (.tmp 1) p.cells rfl (by kernel_rfl)) ?_
  simp only [Act.put, List.setIfInBounds_toArray, List.set_cons_succ, List.set_cons_zero]
  refine l_val (o := ⟨some 12, _, _, _, _, _⟩) (.bool false) rfl (exec_assign (.const (.bool false)) (.bool false) rfl (by kernel_rfl)) ?_
  simp only [Act.put, List.setIfInBounds_toArray, List.set_cons_succ, List.set_cons_zero]
  refine wpList_nil ?_
  obtain ⟨g7, hg7⟩ : ∃ g, w.heap.size = g := ⟨_, rfl⟩
  rw [hg7] at HB7 ⊢
  clear hg7 hb0 q0
  have G0 := Lib.hid (HG.out.kept k0)
  have zG := HG.out.lt
  have zs0 := k0.size
  have zl7 : g7 < b0.heap.size := World.block_lt_of_cell? b0 _ (HB7.out 0 _ (p.at_h (i := 0) (by omega)))
  clear HG
  go_upto_region 1 with fail
  refine wp_text 2 [.eq (v), .eq (X.v)] rfl (by kernel_rfl) ?_ ?_
  · refine sv 1 rfl rfl rfl (fun a u hE hD hk => exec_move (.tmp 0) _ rfl (hE 0 (v) (by kernel_rfl) (by kernel_rfl))) ?_
    refine fsteps_cons 2 rfl (fun a u hE hD hk => f_call (o := ⟨some 20, _, _, _, _, _⟩) 11 #[v] rfl (wanted_none rfl _) (exec_call 11 _ [.tmp 19] _ [v] Tryd.func11 (by kernel_rfl) (by kernel_rfl) rfl (show [a.eval (.tmp 19)] = [v] from (by rw [show a.eval (.tmp 19) = v from (hD 0 19 (by kernel_rfl))] <;> rfl)) u) (HX.out u (k0.trans hk))) ?_
    exact fsteps_nil
  intro gv wa hV ka
  rw [show dstsOf _ 2 = [19, 20] by kernel_rfl]
  simp only [List.foldl_cons, List.foldl_nil, List.setIfInBounds_toArray, List.set_cons_succ, List.set_cons_zero, List.drop_succ_cons, List.drop_zero]
  rw [show gv 20 = X.v from hV 1 20 (by kernel_rfl)]
  clear hV
  refine l_new (o := ⟨some 13, _, _, _, _, _⟩) (.pointer (some ⟨wa.heap.size, 0, none⟩)) (wa.alloc (.cells zeroX.cells.toArray 36)) rfl (exec_alc 36 zeroX.cells rfl zX) ?_
  have hN13 := Blk.new wa 36 zeroX.cells
  have ka0 : Kept wa (wa.alloc (.cells zeroX.cells.toArray 36)) := (Keep.refl _ wa).alloc _
  have sa0 : (wa.alloc (.cells zeroX.cells.toArray 36)).heap.size = wa.heap.size + 1 := by simp
  generalize wa.alloc (.cells zeroX.cells.toArray 36) = wa0 at hN13 ka0 sa0 ⊢
  simp only [Act.put, List.setIfInBounds_toArray, List.set_cons_succ, List.set_cons_zero]
  refine l_setS (o := ⟨none, _, _, _, _, _⟩) 36 wa.heap.size 36 zeroX.cells X.cells (.tmp 13) (.tmp 20) rfl rfl (by kernel_rfl) (by kernel_rfl) (hN13) (by rw [Trds.len]; exact szX) (by rw [Trds.len, Trds.len]) (Trds.one _) ?_
  intro ws0 hC13 ks0 ss0
  simp only [Act.put]
  refine wpList_nil ?_
  obtain ⟨g13, hg13⟩ : ∃ a, wa.heap.size = a := ⟨_, rfl⟩
  have zka := ka.size
  rw [hg13] at hC13 ks0 ⊢
  simp only [hg13] at sa0 zka
  have A13 := Lib.hid (hC13)
  have kz : Kept b0 ws0 := (ka.trans ka0).trans' ks0 (by omega)
  have zg13 : g13 < ws0.heap.size := by have h_ := hC13.lt; omega
  have zb13 : b0.heap.size ≤ g13 := by omega
  clear hN13 hC13 ka0 ks0 ss0 sa0 ka zka hg13
  have G_1 := Lib.hid (G0.out.kept kz)
  have R7_1 := Lib.hid (range_kept HB7.out kz)
  have zs1 := kz.size
  have kk1 := k0.trans kz
  clear G0 HB7 kz k0
  go_upto_region 2 with fail
  refine wp_text 1 [.eq (X.v)] rfl (by kernel_rfl) ?_ ?_
  · refine sv 1 rfl rfl rfl (fun a u hE hD hk => exec_ldX X (.tmp 13) (g13) _ rfl (hE 13 (.pointer (some ⟨g13, 0, none⟩)) (by kernel_rfl) (by kernel_rfl)) (A13.out.kept hk)) ?_
    exact fsteps_nil
  intro gv wa hV ka
  rw [show dstsOf _ 1 = [22] by kernel_rfl]
  simp only [List.foldl_cons, List.foldl_nil, List.setIfInBounds_toArray, List.set_cons_succ, List.set_cons_zero, List.drop_succ_cons, List.drop_zero]
  rw [show gv 22 = X.v from hV 0 22 (by kernel_rfl)]
  clear hV
  refine l_call (o := ⟨some 23, _, _, _, _, _⟩) 12 #[X.v] rfl (exec_call 12 _ [.tmp 22] _ _ Tryd.func12 (by kernel_rfl) (by kernel_rfl) rfl (by kernel_rfl) _) ?_
  refine (new_ok HBd.out).mono ?_
  rintro e wn1 ⟨pt, rfl, hp_, hP_, kn_⟩
  refine ⟨_, rfl, ?_⟩
  simp only [Act.put, List.setIfInBounds_toArray, List.set_cons_succ, List.set_cons_zero]
  refine l_val (o := ⟨some 21, _, _, _, _, _⟩) (.tuple #[.pointer (some ⟨pt, 0, none⟩), .int .i64 (-1)]) rfl (exec_move (.tmp 23) (.tuple #[.pointer (some ⟨pt, 0, none⟩), .int .i64 (-1)]) rfl (by kernel_rfl)) ?_
  simp only [Act.put, List.setIfInBounds_toArray, List.set_cons_succ, List.set_cons_zero]
  refine l_val (o := ⟨some 24, _, _, _, _, _⟩) (.pointer (some ⟨pt, 0, none⟩)) rfl (exec_extract (.tmp 21) [.pointer (some ⟨pt, 0, none⟩), .int .i64 (-1)] 0 (.pointer (some ⟨pt, 0, none⟩)) rfl (by kernel_rfl) rfl) ?_
  simp only [Act.put, List.setIfInBounds_toArray, List.set_cons_succ, List.set_cons_zero]
  refine l_val (o := ⟨some 25, _, _, _, _, _⟩) (.int .i64 (-1)) rfl (exec_extract (.tmp 21) [.pointer (some ⟨pt, 0, none⟩), .int .i64 (-1)] 1 (.int .i64 (-1)) rfl (by kernel_rfl) rfl) ?_
  simp only [Act.put, List.setIfInBounds_toArray, List.set_cons_succ, List.set_cons_zero]
  refine l_val (o := ⟨some 14, _, _, _, _, _⟩) (.pointer (some ⟨pt, 0, none⟩)) rfl (exec_assign (.tmp 24) (.pointer (some ⟨pt, 0, none⟩)) rfl (by kernel_rfl)) ?_
  simp only [Act.put, List.setIfInBounds_toArray, List.set_cons_succ, List.set_cons_zero]
  refine l_val (o := ⟨some 15, _, _, _, _, _⟩) (.int .i64 (-1)) rfl (exec_assign (.tmp 25) (.int .i64 (-1)) rfl (by kernel_rfl)) ?_
  simp only [Act.put, List.setIfInBounds_toArray, List.set_cons_succ, List.set_cons_zero]
  refine wpList_nil ?_
  have zkpt : ws0.heap.size ≤ pt := by have h_ := ka.size; omega
  have zlpt : pt < wn1.heap.size := hP_.lt
  have T0 := Lib.hid hP_
  have kz := ka.trans kn_
  clear hP_ ka kn_ hp_
  have G_2 := Lib.hid (G_1.out.kept kz)
  have R7_2 := Lib.hid (range_kept R7_1.out kz)
  have A13_2 := Lib.hid (A13.out.kept kz)
  have zs2 := kz.size
  have kk2 := kk1.trans kz
  clear G_1 R7_1 A13 kz kk1
  go_upto_region 3 with fail
  refine wp_text 1 [.eq (X.v)] rfl (by kernel_rfl) ?_ ?_
  · refine sv 1 rfl rfl rfl (fun a u hE hD hk => exec_ldX X (.tmp 13) (g13) _ rfl (hE 13 (.pointer (some ⟨g13, 0, none⟩)) (by kernel_rfl) (by kernel_rfl)) (A13_2.out.kept hk)) ?_
    exact fsteps_nil
  intro gv wa hV ka
  rw [show dstsOf _ 1 = [27] by kernel_rfl]
  simp only [List.foldl_cons, List.foldl_nil, List.setIfInBounds_toArray, List.set_cons_succ, List.set_cons_zero, List.drop_succ_cons, List.drop_zero]
  rw [show gv 27 = X.v from hV 0 27 (by kernel_rfl)]
  clear hV
  refine l_call (o := ⟨some 28, _, _, _, _, _⟩) 13 #[X.v] rfl (exec_call 13 _ [.tmp 27] _ _ Tryd.func13 (by kernel_rfl) (by kernel_rfl) rfl (by kernel_rfl) _) ?_
  refine (rnew_okA HBd.out).mono ?_
  rintro e wn2 ⟨pu, rfl, hp_, hP_, kn_⟩
  refine ⟨_, rfl, ?_⟩
  simp only [Act.put, List.setIfInBounds_toArray, List.set_cons_succ, List.set_cons_zero]
  refine l_val (o := ⟨some 26, _, _, _, _, _⟩) (.tuple #[.pointer (some ⟨pu, 0, none⟩), .int .i64 (-1)]) rfl (exec_move (.tmp 28) (.tuple #[.pointer (some ⟨pu, 0, none⟩), .int .i64 (-1)]) rfl (by kernel_rfl)) ?_
  simp only [Act.put, List.setIfInBounds_toArray, List.set_cons_succ, List.set_cons_zero]
  refine l_val (o := ⟨some 29, _, _, _, _, _⟩) (.pointer (some ⟨pu, 0, none⟩)) rfl (exec_extract (.tmp 26) [.pointer (some ⟨pu, 0, none⟩), .int .i64 (-1)] 0 (.pointer (some ⟨pu, 0, none⟩)) rfl (by kernel_rfl) rfl) ?_
  simp only [Act.put, List.setIfInBounds_toArray, List.set_cons_succ, List.set_cons_zero]
  refine l_val (o := ⟨some 30, _, _, _, _, _⟩) (.int .i64 (-1)) rfl (exec_extract (.tmp 26) [.pointer (some ⟨pu, 0, none⟩), .int .i64 (-1)] 1 (.int .i64 (-1)) rfl (by kernel_rfl) rfl) ?_
  simp only [Act.put, List.setIfInBounds_toArray, List.set_cons_succ, List.set_cons_zero]
  refine l_val (o := ⟨some 16, _, _, _, _, _⟩) (.pointer (some ⟨pu, 0, none⟩)) rfl (exec_assign (.tmp 29) (.pointer (some ⟨pu, 0, none⟩)) rfl (by kernel_rfl)) ?_
  simp only [Act.put, List.setIfInBounds_toArray, List.set_cons_succ, List.set_cons_zero]
  refine l_val (o := ⟨some 17, _, _, _, _, _⟩) (.int .i64 (-1)) rfl (exec_assign (.tmp 30) (.int .i64 (-1)) rfl (by kernel_rfl)) ?_
  simp only [Act.put, List.setIfInBounds_toArray, List.set_cons_succ, List.set_cons_zero]
  refine wpList_nil ?_
  have zkpu : wn1.heap.size ≤ pu := by have h_ := ka.size; omega
  have zlpu : pu < wn2.heap.size := hP_.lt
  have U0 := Lib.hid hP_
  have kz := ka.trans kn_
  clear hP_ ka kn_ hp_
  have G_3 := Lib.hid (G_2.out.kept kz)
  have R7_3 := Lib.hid (range_kept R7_2.out kz)
  have A13_3 := Lib.hid (A13_2.out.kept kz)
  have T_3 := Lib.hid (T0.out.kept kz)
  have zs3 := kz.size
  have kk3 := kk2.trans kz
  clear G_2 R7_2 A13_2 T0 kz kk2
  go_upto_region 4 with fail
  refine wp_text 10 [.eq (.pointer (some ⟨pt, 0, none⟩)), .eq (.bool false), .eq (.bool false), .eq (.pointer (some ⟨pu, 0, none⟩)), .eq (.bool false), .eq (.bool false), .eq (.bool false), .eq (.int .i64 (-1)), .eq (.bool false), .eq (.bool false)] rfl (by kernel_rfl) ?_ ?_
  · refine sv 1 rfl rfl rfl (fun a u hE hD hk => exec_move (.tmp 14) _ rfl (hE 14 (.pointer (some ⟨pt, 0, none⟩)) (by kernel_rfl) (by kernel_rfl))) ?_
    refine sv 2 rfl rfl rfl (fun a u hE hD hk => exec_eqP (.tmp 31) _ _ ⟨pt, 0, none⟩ (by kernel_rfl) rfl (hD 0 31 (by kernel_rfl))) ?_
    refine sv 3 rfl rfl rfl (fun a u hE hD hk => exec_move (.tmp 32) _ rfl (hD 1 32 (by kernel_rfl))) ?_
    refine fsteps_cons 4 rfl (fun a u hE hD hk => f_val (o := ⟨some 34, _, _, _, _, _⟩) (.pointer (some ⟨pu, 0, none⟩)) rfl (wanted_at (b := false) false rfl rfl (hD 2 33 (by kernel_rfl))) (exec_move (.tmp 16) _ rfl (hE 16 (.pointer (some ⟨pu, 0, none⟩)) (by kernel_rfl) (by kernel_rfl))) rfl) ?_
    refine fsteps_cons 5 rfl (fun a u hE hD hk => f_val (o := ⟨some 35, _, _, _, _, _⟩) (.bool false) rfl (wanted_at (b := false) false rfl rfl (hD 2 33 (by kernel_rfl))) (exec_eqP (.tmp 34) _ _ ⟨pu, 0, none⟩ (by kernel_rfl) rfl (hD 3 34 (by kernel_rfl))) rfl) ?_
    refine sv 6 rfl rfl rfl (fun a u hE hD hk => exec_pickF (.tmp 33) (.const (.bool true)) (.tmp 35) (.bool false) rfl (hD 2 33 (by kernel_rfl)) (hD 4 35 (by kernel_rfl))) ?_
    refine sv 7 rfl rfl rfl (fun a u hE hD hk => exec_move (.tmp 36) _ rfl (hD 5 36 (by kernel_rfl))) ?_
    refine fsteps_cons 8 rfl (fun a u hE hD hk => f_val (o := ⟨some 38, _, _, _, _, _⟩) (.int .i64 (-1)) rfl (wanted_at (b := false) false rfl rfl (hD 6 37 (by kernel_rfl))) (exec_move (.tmp 17) _ rfl (hE 17 (.int .i64 (-1)) (by kernel_rfl) (by kernel_rfl))) rfl) ?_
    refine fsteps_cons 9 rfl (fun a u hE hD hk => f_as (show ((decide (((-1) : Int) ≠ ((-1) : Int))) : Bool) = false from decide_eq_false (by simp)) (f_val (o := ⟨some 39, _, _, _, _, _⟩) (.bool (decide (((-1) : Int) ≠ ((-1) : Int)))) rfl (wanted_at (b := false) false rfl rfl (hD 6 37 (by kernel_rfl))) (exec_nen (p := (-1)) (q := (-1)) rfl (hD 7 38 (by kernel_rfl)) rfl) rfl)) ?_
    refine sv 10 rfl rfl rfl (fun a u hE hD hk => exec_pickF (.tmp 37) (.const (.bool true)) (.tmp 39) (.bool false) rfl (hD 6 37 (by kernel_rfl)) (hD 8 39 (by kernel_rfl))) ?_
    exact fsteps_nil
  intro gv v4 hV kv4
  rw [show dstsOf _ 10 = [31, 32, 33, 34, 35, 36, 37, 38, 39, 40] by kernel_rfl]
  simp only [List.foldl_cons, List.foldl_nil, List.setIfInBounds_toArray, List.set_cons_succ, List.set_cons_zero, List.drop_succ_cons, List.drop_zero]
  rw [show gv 40 = .bool false from hV 9 40 (by kernel_rfl)]
  clear hV
  refine wpList_nil ?_
  have G_4 := Lib.hid (G_3.out.kept kv4)
  have R7_4 := Lib.hid (range_kept R7_3.out kv4)
  have T_4 := Lib.hid (T_3.out.kept kv4)
  have U_4 := Lib.hid (U0.out.kept kv4)
  have zs4 := kv4.size
  have kk4 := kk3.trans kv4
  clear G_3 R7_3 A13_3 T_3 U0 kv4 kk3
  go_wp2_with fail
  go_loopw [18] (fun q wr => ∃ i : Nat, q = .int .i64 (i : Int) ∧ i ≤ 8 ∧ Kept v4 wr) (fun q _ => 8 - (intOf q).toNat)
  case atStart => exact ⟨0, rfl, by omega, Kept.refl _⟩
  case round =>
    obtain ⟨i, rfl, hi8, hkr⟩ := hrel
    have kr := kk4.trans hkr
    have GR := Lib.hid (G_4.out.kept hkr)
    have R7R := Lib.hid (range_kept R7_4.out hkr)
    have TR := Lib.hid (T_4.out.kept hkr)
    have UR := Lib.hid (U_4.out.kept hkr)
    by_cases hi : i < 8
    · skip
      obtain ⟨V, hV⟩ : ∃ V, allowM X p (i : Int) d inst other = V := ⟨_, rfl⟩
      have HV := Lib.hid hV
      clear hV
      go_upto_region 7 with fail
      refine wp_text 2 [.eq (.int .i64 (i : Int)), .eq (.bool true)] rfl (by kernel_rfl) ?_ ?_
      · refine sv 1 rfl rfl rfl (fun a u hE hD hk => exec_move (.tmp 18) _ rfl (hE 18 (.int .i64 (i : Int)) (by kernel_rfl) (by kernel_rfl))) ?_
        refine fsteps_cons 2 rfl (fun a u hE hD hk => f_as (show ((decide (((i : Int) : Int) < (8 : Int))) : Bool) = true from decide_eq_true (by omega)) (f_val (o := ⟨some 42, _, _, _, _, _⟩) (.bool (decide (((i : Int) : Int) < (8 : Int)))) rfl (wanted_none rfl _) (exec_ltn (p := (i : Int)) (q := 8) rfl (hD 0 41 (by kernel_rfl)) rfl) rfl)) ?_
        exact fsteps_nil
      intro gv v51 hV kv51
      rw [show dstsOf _ 2 = [41, 42] by kernel_rfl]
      simp only [List.foldl_cons, List.foldl_nil, List.setIfInBounds_toArray, List.set_cons_succ, List.set_cons_zero, List.drop_succ_cons, List.drop_zero]
      rw [show gv 42 = .bool true from hV 1 42 (by kernel_rfl)]
      clear hV
      refine wpList_nil ?_
      have G_51 := Lib.hid (GR.out.kept kv51)
      have R7_51 := Lib.hid (range_kept R7R.out kv51)
      have T_51 := Lib.hid (TR.out.kept kv51)
      have U_51 := Lib.hid (UR.out.kept kv51)
      have zs51 := kv51.size
      have kk51 := kr.trans kv51
      clear GR R7R TR UR
      go_upto_region 9 with fail
      refine wp_free 15 [.eq (.pointer (some ⟨pt, 0, none⟩)), .eq (p.v), .eq (.int .i64 (i : Int)), .eq (.int .i64 d), .eq (.int .i64 inst), .eq (.int .i64 other), .eq (.int .i64 V), .eq (.pointer (some ⟨pu, 0, none⟩)), .eq (p.v), .eq (.int .i64 (i : Int)), .eq (.int .i64 d), .eq (.int .i64 inst), .eq (.int .i64 other), .eq (.int .i64 V), .eq (.bool false)] (by kernel_rfl) rfl (by kernel_rfl) ?_ ?_
      · refine sv 1 rfl rfl rfl (fun a u hE hD hk => exec_move (.tmp 14) _ rfl (hE 14 (.pointer (some ⟨pt, 0, none⟩)) (by kernel_rfl) (by kernel_rfl))) ?_
        refine sv 2 rfl rfl rfl (fun a u hE hD hk => exec_ldS 29 _ (.tmp 7) (g7) (0) (p.cells) rfl (hE 7 (.pointer (some ⟨g7, 0, none⟩)) (by kernel_rfl) (by kernel_rfl)) (range_kept R7_51.out hk) Tryd.underlying29 (by rw [p.len24]; exact szP)) ?_
        refine sv 3 rfl rfl rfl (fun a u hE hD hk => exec_move (.tmp 18) _ rfl (hE 18 (.int .i64 (i : Int)) (by kernel_rfl) (by kernel_rfl))) ?_
        refine sv 4 rfl rfl rfl (fun a u hE hD hk => exec_move (.tmp 3) _ rfl (hE 3 (.int .i64 d) (by kernel_rfl) (by kernel_rfl))) ?_
        refine sv 5 rfl rfl rfl (fun a u hE hD hk => exec_move (.tmp 4) _ rfl (hE 4 (.int .i64 inst) (by kernel_rfl) (by kernel_rfl))) ?_
        refine sv 6 rfl rfl rfl (fun a u hE hD hk => exec_move (.tmp 5) _ rfl (hE 5 (.int .i64 other) (by kernel_rfl) (by kernel_rfl))) ?_
        refine fsteps_cons 7 rfl (fun a u hE hD hk => f_call (o := ⟨some 51, _, _, _, _, _⟩) 10 #[.pointer (some ⟨pt, 0, none⟩), p.v, .int .i64 (i : Int), .int .i64 d, .int .i64 inst, .int .i64 other] rfl (wanted_none rfl _) (exec_call 10 _ [.tmp 45, .tmp 46, .tmp 47, .tmp 48, .tmp 49, .tmp 50] _ [.pointer (some ⟨pt, 0, none⟩), p.v, .int .i64 (i : Int), .int .i64 d, .int .i64 inst, .int .i64 other] Tryd.func10 (by kernel_rfl) (by kernel_rfl) rfl (show [a.eval (.tmp 45), a.eval (.tmp 46), a.eval (.tmp 47), a.eval (.tmp 48), a.eval (.tmp 49), a.eval (.tmp 50)] = [.pointer (some ⟨pt, 0, none⟩), p.v, .int .i64 (i : Int), .int .i64 d, .int .i64 inst, .int .i64 other] from (by rw [show a.eval (.tmp 45) = .pointer (some ⟨pt, 0, none⟩) from (hD 0 45 (by kernel_rfl)), show a.eval (.tmp 46) = p.v from (hD 1 46 (by kernel_rfl)), show a.eval (.tmp 47) = .int .i64 (i : Int) from (hD 2 47 (by kernel_rfl)), show a.eval (.tmp 48) = .int .i64 d from (hD 3 48 (by kernel_rfl)), show a.eval (.tmp 49) = .int .i64 inst from (hD 4 49 (by kernel_rfl)), show a.eval (.tmp 50) = .int .i64 other from (hD 5 50 (by kernel_rfl))] <;> rfl)) u) (may_at (G_51.out.kept hk) (T_51.out.kept hk) HOk.out HV.out)) ?_
        refine sv 8 rfl rfl rfl (fun a u hE hD hk => exec_move (.tmp 16) _ rfl (hE 16 (.pointer (some ⟨pu, 0, none⟩)) (by kernel_rfl) (by kernel_rfl))) ?_
        refine sv 9 rfl rfl rfl (fun a u hE hD hk => exec_ldS 29 _ (.tmp 7) (g7) (0) (p.cells) rfl (hE 7 (.pointer (some ⟨g7, 0, none⟩)) (by kernel_rfl) (by kernel_rfl)) (range_kept R7_51.out hk) Tryd.underlying29 (by rw [p.len24]; exact szP)) ?_
        refine sv 10 rfl rfl rfl (fun a u hE hD hk => exec_move (.tmp 18) _ rfl (hE 18 (.int .i64 (i : Int)) (by kernel_rfl) (by kernel_rfl))) ?_
        refine sv 11 rfl rfl rfl (fun a u hE hD hk => exec_move (.tmp 3) _ rfl (hE 3 (.int .i64 d) (by kernel_rfl) (by kernel_rfl))) ?_
        refine sv 12 rfl rfl rfl (fun a u hE hD hk => exec_move (.tmp 4) _ rfl (hE 4 (.int .i64 inst) (by kernel_rfl) (by kernel_rfl))) ?_
        refine sv 13 rfl rfl rfl (fun a u hE hD hk => exec_move (.tmp 5) _ rfl (hE 5 (.int .i64 other) (by kernel_rfl) (by kernel_rfl))) ?_
        refine fsteps_cons 14 rfl (fun a u hE hD hk => f_call (o := ⟨some 58, _, _, _, _, _⟩) 14 #[.pointer (some ⟨pu, 0, none⟩), p.v, .int .i64 (i : Int), .int .i64 d, .int .i64 inst, .int .i64 other] rfl (wanted_none rfl _) (exec_call 14 _ [.tmp 52, .tmp 53, .tmp 54, .tmp 55, .tmp 56, .tmp 57] _ [.pointer (some ⟨pu, 0, none⟩), p.v, .int .i64 (i : Int), .int .i64 d, .int .i64 inst, .int .i64 other] Tryd.func14 (by kernel_rfl) (by kernel_rfl) rfl (show [a.eval (.tmp 52), a.eval (.tmp 53), a.eval (.tmp 54), a.eval (.tmp 55), a.eval (.tmp 56), a.eval (.tmp 57)] = [.pointer (some ⟨pu, 0, none⟩), p.v, .int .i64 (i : Int), .int .i64 d, .int .i64 inst, .int .i64 other] from (by rw [show a.eval (.tmp 52) = .pointer (some ⟨pu, 0, none⟩) from (hD 7 52 (by kernel_rfl)), show a.eval (.tmp 53) = p.v from (hD 8 53 (by kernel_rfl)), show a.eval (.tmp 54) = .int .i64 (i : Int) from (hD 9 54 (by kernel_rfl)), show a.eval (.tmp 55) = .int .i64 d from (hD 10 55 (by kernel_rfl)), show a.eval (.tmp 56) = .int .i64 inst from (hD 11 56 (by kernel_rfl)), show a.eval (.tmp 57) = .int .i64 other from (hD 12 57 (by kernel_rfl))] <;> rfl)) u) (rallowed_at (U_51.out.kept hk) HOk.out HV.out)) ?_
        refine fsteps_cons 15 rfl (fun a u hE hD hk => f_as (show ((decide ((V : Int) ≠ (V : Int))) : Bool) = false from decide_eq_false (by simp)) (f_val (o := ⟨some 59, _, _, _, _, _⟩) (.bool (decide ((V : Int) ≠ (V : Int)))) rfl (wanted_none rfl _) (exec_nen (p := V) (q := V) rfl (hD 6 51 (by kernel_rfl)) (hD 13 58 (by kernel_rfl))) rfl)) ?_
        exact fsteps_nil
      intro gv v52 hV kv52
      rw [show dstsOf _ 15 = [45, 46, 47, 48, 49, 50, 51, 52, 53, 54, 55, 56, 57, 58, 59] by kernel_rfl]
      simp only [List.foldl_cons, List.foldl_nil, List.setIfInBounds_toArray, List.set_cons_succ, List.set_cons_zero, List.drop_succ_cons, List.drop_zero]
      rw [show gv 59 = .bool false from hV 14 59 (by kernel_rfl)]
      clear hV
      refine wpList_nil ?_
      have G_52 := Lib.hid (G_51.out.kept kv52)
      have R7_52 := Lib.hid (range_kept R7_51.out kv52)
      have T_52 := Lib.hid (T_51.out.kept kv52)
      have U_52 := Lib.hid (U_51.out.kept kv52)
      have zs52 := kv52.size
      have kk52 := kk51.trans kv52
      clear G_51 R7_51 T_51 U_51
      go_wp2
      exact ⟨⟨i + 1, by simp, by omega, hkr.trans (kv51.trans kv52)⟩, by simp [intOf]; omega⟩
    · skip
      obtain ⟨V, hV⟩ : ∃ V, allowM X p n d inst other = V := ⟨_, rfl⟩
      have HV := Lib.hid hV
      clear hV
      go_upto_region 7 with fail
      refine wp_text 2 [.eq (.int .i64 (i : Int)), .eq (.bool false)] rfl (by kernel_rfl) ?_ ?_
      · refine sv 1 rfl rfl rfl (fun a u hE hD hk => exec_move (.tmp 18) _ rfl (hE 18 (.int .i64 (i : Int)) (by kernel_rfl) (by kernel_rfl))) ?_
        refine fsteps_cons 2 rfl (fun a u hE hD hk => f_as (show ((decide (((i : Int) : Int) < (8 : Int))) : Bool) = false from decide_eq_false (by omega)) (f_val (o := ⟨some 42, _, _, _, _, _⟩) (.bool (decide (((i : Int) : Int) < (8 : Int)))) rfl (wanted_none rfl _) (exec_ltn (p := (i : Int)) (q := 8) rfl (hD 0 41 (by kernel_rfl)) rfl) rfl)) ?_
        exact fsteps_nil
      intro gv v61 hV kv61
      rw [show dstsOf _ 2 = [41, 42] by kernel_rfl]
      simp only [List.foldl_cons, List.foldl_nil, List.setIfInBounds_toArray, List.set_cons_succ, List.set_cons_zero, List.drop_succ_cons, List.drop_zero]
      rw [show gv 42 = .bool false from hV 1 42 (by kernel_rfl)]
      clear hV
      refine wpList_nil ?_
      have G_61 := Lib.hid (GR.out.kept kv61)
      have R7_61 := Lib.hid (range_kept R7R.out kv61)
      have T_61 := Lib.hid (TR.out.kept kv61)
      have U_61 := Lib.hid (UR.out.kept kv61)
      have zs61 := kv61.size
      have kk61 := kr.trans kv61
      clear GR R7R TR UR kv61 kr
      go_upto_region 11 with fail
      refine wp_free 19 [.eq (.pointer (some ⟨pt, 0, none⟩)), .eq (p.v), .eq (.int .i64 n), .eq (.int .i64 d), .eq (.int .i64 inst), .eq (.int .i64 other), .eq (.int .i64 V), .eq (.pointer (some ⟨pu, 0, none⟩)), .eq (p.v), .eq (.int .i64 n), .eq (.int .i64 d), .eq (.int .i64 inst), .eq (.int .i64 other), .eq (.int .i64 V), .eq (.bool true), .eq (.bool true), .eq (.bool true), .eq (.bool true), .eq (.bool true)] (by kernel_rfl) rfl (by kernel_rfl) ?_ ?_
      · refine sv 1 rfl rfl rfl (fun a u hE hD hk => exec_move (.tmp 14) _ rfl (hE 14 (.pointer (some ⟨pt, 0, none⟩)) (by kernel_rfl) (by kernel_rfl))) ?_
        refine sv 2 rfl rfl rfl (fun a u hE hD hk => exec_ldS 29 _ (.tmp 7) (g7) (0) (p.cells) rfl (hE 7 (.pointer (some ⟨g7, 0, none⟩)) (by kernel_rfl) (by kernel_rfl)) (range_kept R7_61.out hk) Tryd.underlying29 (by rw [p.len24]; exact szP)) ?_
        refine sv 3 rfl rfl rfl (fun a u hE hD hk => exec_move (.tmp 2) _ rfl (hE 2 (.int .i64 n) (by kernel_rfl) (by kernel_rfl))) ?_
        refine sv 4 rfl rfl rfl (fun a u hE hD hk => exec_move (.tmp 3) _ rfl (hE 3 (.int .i64 d) (by kernel_rfl) (by kernel_rfl))) ?_
        refine sv 5 rfl rfl rfl (fun a u hE hD hk => exec_move (.tmp 4) _ rfl (hE 4 (.int .i64 inst) (by kernel_rfl) (by kernel_rfl))) ?_
        refine sv 6 rfl rfl rfl (fun a u hE hD hk => exec_move (.tmp 5) _ rfl (hE 5 (.int .i64 other) (by kernel_rfl) (by kernel_rfl))) ?_
        refine fsteps_cons 7 rfl (fun a u hE hD hk => f_call (o := ⟨some 66, _, _, _, _, _⟩) 10 #[.pointer (some ⟨pt, 0, none⟩), p.v, .int .i64 n, .int .i64 d, .int .i64 inst, .int .i64 other] rfl (wanted_none rfl _) (exec_call 10 _ [.tmp 60, .tmp 61, .tmp 62, .tmp 63, .tmp 64, .tmp 65] _ [.pointer (some ⟨pt, 0, none⟩), p.v, .int .i64 n, .int .i64 d, .int .i64 inst, .int .i64 other] Tryd.func10 (by kernel_rfl) (by kernel_rfl) rfl (show [a.eval (.tmp 60), a.eval (.tmp 61), a.eval (.tmp 62), a.eval (.tmp 63), a.eval (.tmp 64), a.eval (.tmp 65)] = [.pointer (some ⟨pt, 0, none⟩), p.v, .int .i64 n, .int .i64 d, .int .i64 inst, .int .i64 other] from (by rw [show a.eval (.tmp 60) = .pointer (some ⟨pt, 0, none⟩) from (hD 0 60 (by kernel_rfl)), show a.eval (.tmp 61) = p.v from (hD 1 61 (by kernel_rfl)), show a.eval (.tmp 62) = .int .i64 n from (hD 2 62 (by kernel_rfl)), show a.eval (.tmp 63) = .int .i64 d from (hD 3 63 (by kernel_rfl)), show a.eval (.tmp 64) = .int .i64 inst from (hD 4 64 (by kernel_rfl)), show a.eval (.tmp 65) = .int .i64 other from (hD 5 65 (by kernel_rfl))] <;> rfl)) u) (may_at (G_61.out.kept hk) (T_61.out.kept hk) HOk.out HV.out)) ?_
        refine sv 8 rfl rfl rfl (fun a u hE hD hk => exec_move (.tmp 16) _ rfl (hE 16 (.pointer (some ⟨pu, 0, none⟩)) (by kernel_rfl) (by kernel_rfl))) ?_
        refine sv 9 rfl rfl rfl (fun a u hE hD hk => exec_ldS 29 _ (.tmp 7) (g7) (0) (p.cells) rfl (hE 7 (.pointer (some ⟨g7, 0, none⟩)) (by kernel_rfl) (by kernel_rfl)) (range_kept R7_61.out hk) Tryd.underlying29 (by rw [p.len24]; exact szP)) ?_
        refine sv 10 rfl rfl rfl (fun a u hE hD hk => exec_move (.tmp 2) _ rfl (hE 2 (.int .i64 n) (by kernel_rfl) (by kernel_rfl))) ?_
        refine sv 11 rfl rfl rfl (fun a u hE hD hk => exec_move (.tmp 3) _ rfl (hE 3 (.int .i64 d) (by kernel_rfl) (by kernel_rfl))) ?_
        refine sv 12 rfl rfl rfl (fun a u hE hD hk => exec_move (.tmp 4) _ rfl (hE 4 (.int .i64 inst) (by kernel_rfl) (by kernel_rfl))) ?_
        refine sv 13 rfl rfl rfl (fun a u hE hD hk => exec_move (.tmp 5) _ rfl (hE 5 (.int .i64 other) (by kernel_rfl) (by kernel_rfl))) ?_
        refine fsteps_cons 14 rfl (fun a u hE hD hk => f_call (o := ⟨some 73, _, _, _, _, _⟩) 14 #[.pointer (some ⟨pu, 0, none⟩), p.v, .int .i64 n, .int .i64 d, .int .i64 inst, .int .i64 other] rfl (wanted_none rfl _) (exec_call 14 _ [.tmp 67, .tmp 68, .tmp 69, .tmp 70, .tmp 71, .tmp 72] _ [.pointer (some ⟨pu, 0, none⟩), p.v, .int .i64 n, .int .i64 d, .int .i64 inst, .int .i64 other] Tryd.func14 (by kernel_rfl) (by kernel_rfl) rfl (show [a.eval (.tmp 67), a.eval (.tmp 68), a.eval (.tmp 69), a.eval (.tmp 70), a.eval (.tmp 71), a.eval (.tmp 72)] = [.pointer (some ⟨pu, 0, none⟩), p.v, .int .i64 n, .int .i64 d, .int .i64 inst, .int .i64 other] from (by rw [show a.eval (.tmp 67) = .pointer (some ⟨pu, 0, none⟩) from (hD 7 67 (by kernel_rfl)), show a.eval (.tmp 68) = p.v from (hD 8 68 (by kernel_rfl)), show a.eval (.tmp 69) = .int .i64 n from (hD 9 69 (by kernel_rfl)), show a.eval (.tmp 70) = .int .i64 d from (hD 10 70 (by kernel_rfl)), show a.eval (.tmp 71) = .int .i64 inst from (hD 11 71 (by kernel_rfl)), show a.eval (.tmp 72) = .int .i64 other from (hD 12 72 (by kernel_rfl))] <;> rfl)) u) (rallowed_at (U_61.out.kept hk) HOk.out HV.out)) ?_
        refine fsteps_cons 15 rfl (fun a u hE hD hk => f_as (show ((decide ((V : Int) = (V : Int))) : Bool) = true from decide_eq_true rfl) (f_val (o := ⟨some 74, _, _, _, _, _⟩) (.bool (decide ((V : Int) = (V : Int)))) rfl (wanted_none rfl _) (exec_eqn (p := V) (q := V) rfl (hD 6 66 (by kernel_rfl)) (hD 13 73 (by kernel_rfl))) rfl)) ?_
        refine sv 16 rfl rfl rfl (fun a u hE hD hk => exec_move (.tmp 74) _ rfl (hD 14 74 (by kernel_rfl))) ?_
        refine fsteps_cons 17 rfl (fun a u hE hD hk => f_call (o := ⟨some 76, _, _, _, _, _⟩) 3 #[] rfl (wanted_at (b := true) true rfl rfl (hD 15 75 (by kernel_rfl))) (exec_call 3 _ [] _ [] Tryd.func3 (by kernel_rfl) (by kernel_rfl) rfl rfl u) (HAR.out u (kk61.trans hk))) ?_
        refine sv 18 rfl rfl rfl (fun a u hE hD hk => exec_pick (.tmp 75) (.tmp 76) (.const (.bool false)) (.bool true) rfl (hD 15 75 (by kernel_rfl)) (hD 16 76 (by kernel_rfl))) ?_
        refine sv 19 rfl rfl rfl (fun a u hE hD hk => exec_assign (.tmp 77) _ rfl (hD 17 77 (by kernel_rfl))) ?_
        exact fsteps_nil
      intro gv v62 hV kv62
      rw [show dstsOf _ 19 = [60, 61, 62, 63, 64, 65, 66, 67, 68, 69, 70, 71, 72, 73, 74, 75, 76, 77, 12] by kernel_rfl]
      simp only [List.foldl_cons, List.foldl_nil, List.setIfInBounds_toArray, List.set_cons_succ, List.set_cons_zero, List.drop_succ_cons, List.drop_zero]
      rw [show gv 12 = .bool true from hV 18 12 (by kernel_rfl)]
      clear hV
      refine wpList_nil ?_
      have G_62 := Lib.hid (G_61.out.kept kv62)
      have R7_62 := Lib.hid (range_kept R7_61.out kv62)
      have T_62 := Lib.hid (T_61.out.kept kv62)
      have U_62 := Lib.hid (U_61.out.kept kv62)
      have zs62 := kv62.size
      have kk62 := kk61.trans kv62
      clear G_61 R7_61 T_61 U_61 kv62 kk61
      go_wp2
      go_ret
      exact ⟨rfl, kk62⟩
end Go.Proofs.YtfoamgljfdnloaaDoor
