/-
  The contract of jobberlaw14.AllowSelf: whoever is there, and isn't off, may cancel its own; nobody suspends itself; it answers true. Condition: the table of rules as its text lays it.
-/
import Derived.Test.YtfoamgljfdnloaaDoorRuns14
namespace Go.Proofs.YtfoamgljfdnloaaDoor
open Go.RowKit
set_option linter.unusedVariables false
set_option maxRecDepth 100000

theorem allow_susp (X : Trds) (p : Phs) (n inst : Int) : allowM X p n 3 inst n ≠ 0 := by
  unfold allowM
  by_cases h : X.there n = true
  · rw [if_pos h]
    by_cases h2 : outB (X.get n) p 3 = true
    · rw [if_pos h2]; omega
    · rw [if_neg h2, if_neg (by omega), if_neg (by omega), if_pos rfl, if_pos h]
      unfold suspB
      rw [decide_eq_false (by simp), Bool.false_and]
      decide
  · rw [if_neg h]; omega
theorem allow_can (X : Trds) (p : Phs) (n inst : Int) : allowM X p n 2 inst n = if X.there n = true then (if (X.get n).off = true then 7 else 0) else 6 := by
  unfold allowM
  by_cases h : X.there n = true
  · rw [if_pos h, if_pos h]
    have e : outB (X.get n) p 2 = (X.get n).off := by
      unfold outB
      rw [decide_eq_false (show ¬ (2 : Int) ≠ 2 by simp)]
      simp
    rw [e]
    by_cases h2 : (X.get n).off = true
    · rw [if_pos h2, if_pos h2, if_pos h]
    · rw [if_neg h2, if_neg h2, if_neg (by omega), if_pos rfl, if_pos h]
      unfold cancelB
      rw [decide_eq_true (show n = n from rfl)]
      simp [okV]
  · rw [if_neg h, if_neg h]
set_option maxRecDepth 100000 in
set_option maxHeartbeats 6400000 in
theorem allowSelf_any (v : Value) (l : List Ab) (p : Phs) (n : Int) (inst : Int) (w : World) (hG : RulIn w) (hl : Abs w v l) : Calls Tryd.prog 8 #[v, p.v, .int .i64 n, .int .i64 inst] w fun e w' => e = .returned (.bool true) ∧ Kept w w' := by
  have HOk := Lib.hid (abs_good (l.take 40))
  have HBd := Lib.hid (bad_none HOk.out)
  have HX : Hid (∀ u, Kept w u → Gives 11 #[v] u (.eq (absL (l.take 40)).v)) := fun u hk => abs_any u v l (hl.kept hk)
  have HAR : Hid (∀ u, Kept w u → Gives 3 #[] u (.eq (.bool true))) := fun u hk => allowRuns_is u (hG.kept hk)
  have HG := Lib.hid hG
  generalize absL (l.take 40) = X at HOk HBd HX
  clear hl hG
  obtain ⟨b0, hb0⟩ : ∃ z, w.alloc (.cells p.cells.toArray 29) = z := ⟨_, rfl⟩
  have q0 : Kept w b0 := by rw [← hb0]; exact (Keep.refl _ _).alloc _
  have r0 : b0.rangeAt w.heap.size 0 p.cells := by rw [← hb0]; exact blk_range (Blk.new w 29 p.cells)
  have HB5 := Lib.hid (r0)
  have k0 := q0
  clear r0
  go_enter Tryd.func8, Tryd.ntmps8
  go_upto_region 0 with fail
  refine wp_region_lit ?_
  refine l_new (o := ⟨some 5, _, _, _, _, _⟩) (.pointer (some ⟨w.heap.size, 0, none⟩)) b0 rfl (by rw [← hb0]; exact exec_box 29 (.tmp 1) p.cells rfl (by kernel_rfl)) ?_
  simp only [Act.put, List.setIfInBounds_toArray, List.set_cons_succ, List.set_cons_zero]
  refine l_val (o := ⟨some 8, _, _, _, _, _⟩) (.bool false) rfl (exec_assign (.const (.bool false)) (.bool false) rfl (by kernel_rfl)) ?_
  simp only [Act.put, List.setIfInBounds_toArray, List.set_cons_succ, List.set_cons_zero]
  refine wpList_nil ?_
  obtain ⟨g5, hg5⟩ : ∃ g, w.heap.size = g := ⟨_, rfl⟩
  rw [hg5] at HB5 ⊢
  clear hg5 hb0 q0
  have G0 := Lib.hid (HG.out.kept k0)
  have zG := HG.out.lt
  have zs0 := k0.size
  have zl5 : g5 < b0.heap.size := World.block_lt_of_cell? b0 _ (HB5.out 0 _ (p.at_h (i := 0) (by omega)))
  clear HG
  obtain ⟨k, hk⟩ : ∃ k : Nat, wi n 0 31 = (k : Int) := ⟨(wi n 0 31).toNat, by have := wi_in n 0 31 (by omega); omega⟩
  have hklt : k < 32 := by have := wi_in n 0 31 (by omega); omega
  have HWk : Hid (∀ u, Gives 15 #[.int .i64 n, .int .i64 0, .int .i64 31] u (.eq (.int .i64 (k : Int)))) := fun u => by rw [← hk]; exact within_is n 0 31 u (by omega) (by omega) (by omega)
  clear hk
  obtain ⟨U, hU⟩ : ∃ V, allowM X p (k : Int) 3 inst (k : Int) = V := ⟨_, rfl⟩
  have HU := Lib.hid hU
  have hU0 : U ≠ 0 := by rw [← hU]; exact allow_susp X p _ inst
  obtain ⟨V, hV⟩ : ∃ V, allowM X p (k : Int) 2 inst (k : Int) = V := ⟨_, rfl⟩
  have HV := Lib.hid hV
  have HC : Hid (V = if X.there (k : Int) = true then (if (X.get (k : Int)).off = true then 7 else 0) else 6) := by show _ = _; rw [← hV]; exact allow_can X p _ inst
  clear hU hV
  go_upto_region 1 with fail
  refine wp_text 2 [.eq (v), .eq (X.v)] rfl (by kernel_rfl) ?_ ?_
  · refine sv 1 rfl rfl rfl (fun a u hE hD hk => exec_move (.tmp 0) _ rfl (hE 0 (v) (by kernel_rfl) (by kernel_rfl))) ?_
    refine fsteps_cons 2 rfl (fun a u hE hD hk => f_call (o := ⟨some 15, _, _, _, _, _⟩) 11 #[v] rfl (wanted_none rfl _) (exec_call 11 _ [.tmp 14] _ [v] Tryd.func11 (by kernel_rfl) (by kernel_rfl) rfl (show [a.eval (.tmp 14)] = [v] from (by rw [show a.eval (.tmp 14) = v from (hD 0 14 (by kernel_rfl))] <;> rfl)) u) (HX.out u (k0.trans hk))) ?_
    exact fsteps_nil
  intro gv wa hV ka
  rw [show dstsOf _ 2 = [14, 15] by kernel_rfl]
  simp only [List.foldl_cons, List.foldl_nil, List.setIfInBounds_toArray, List.set_cons_succ, List.set_cons_zero, List.drop_succ_cons, List.drop_zero]
  rw [show gv 15 = X.v from hV 1 15 (by kernel_rfl)]
  clear hV
  refine l_new (o := ⟨some 9, _, _, _, _, _⟩) (.pointer (some ⟨wa.heap.size, 0, none⟩)) (wa.alloc (.cells zeroX.cells.toArray 36)) rfl (exec_alc 36 zeroX.cells rfl zX) ?_
  have hN9 := Blk.new wa 36 zeroX.cells
  have ka0 : Kept wa (wa.alloc (.cells zeroX.cells.toArray 36)) := (Keep.refl _ wa).alloc _
  have sa0 : (wa.alloc (.cells zeroX.cells.toArray 36)).heap.size = wa.heap.size + 1 := by simp
  generalize wa.alloc (.cells zeroX.cells.toArray 36) = wa0 at hN9 ka0 sa0 ⊢
  simp only [Act.put, List.setIfInBounds_toArray, List.set_cons_succ, List.set_cons_zero]
  refine l_setS (o := ⟨none, _, _, _, _, _⟩) 36 wa.heap.size 36 zeroX.cells X.cells (.tmp 9) (.tmp 15) rfl rfl (by kernel_rfl) (by kernel_rfl) (hN9) (by rw [Trds.len]; exact szX) (by rw [Trds.len, Trds.len]) (Trds.one _) ?_
  intro ws0 hC9 ks0 ss0
  simp only [Act.put]
  refine wpList_nil ?_
  obtain ⟨g9, hg9⟩ : ∃ a, wa.heap.size = a := ⟨_, rfl⟩
  have zka := ka.size
  rw [hg9] at hC9 ks0 ⊢
  simp only [hg9] at sa0 zka
  have A9 := Lib.hid (hC9)
  have kz : Kept b0 ws0 := (ka.trans ka0).trans' ks0 (by omega)
  have zg9 : g9 < ws0.heap.size := by have h_ := hC9.lt; omega
  have zb9 : b0.heap.size ≤ g9 := by omega
  clear hN9 hC9 ka0 ks0 ss0 sa0 ka zka hg9
  have G_1 := Lib.hid (G0.out.kept kz)
  have R5_1 := Lib.hid (range_kept HB5.out kz)
  have zs1 := kz.size
  have kk1 := k0.trans kz
  clear G0 HB5 kz k0
  go_upto_region 2 with fail
  refine wp_text 1 [.eq (X.v)] rfl (by kernel_rfl) ?_ ?_
  · refine sv 1 rfl rfl rfl (fun a u hE hD hk => exec_ldX X (.tmp 9) (g9) _ rfl (hE 9 (.pointer (some ⟨g9, 0, none⟩)) (by kernel_rfl) (by kernel_rfl)) (A9.out.kept hk)) ?_
    exact fsteps_nil
  intro gv wa hV ka
  rw [show dstsOf _ 1 = [17] by kernel_rfl]
  simp only [List.foldl_cons, List.foldl_nil, List.setIfInBounds_toArray, List.set_cons_succ, List.set_cons_zero, List.drop_succ_cons, List.drop_zero]
  rw [show gv 17 = X.v from hV 0 17 (by kernel_rfl)]
  clear hV
  refine l_call (o := ⟨some 18, _, _, _, _, _⟩) 12 #[X.v] rfl (exec_call 12 _ [.tmp 17] _ _ Tryd.func12 (by kernel_rfl) (by kernel_rfl) rfl (by kernel_rfl) _) ?_
  refine (new_ok HBd.out).mono ?_
  rintro e wn1 ⟨pt, rfl, hp_, hP_, kn_⟩
  refine ⟨_, rfl, ?_⟩
  simp only [Act.put, List.setIfInBounds_toArray, List.set_cons_succ, List.set_cons_zero]
  refine l_val (o := ⟨some 16, _, _, _, _, _⟩) (.tuple #[.pointer (some ⟨pt, 0, none⟩), .int .i64 (-1)]) rfl (exec_move (.tmp 18) (.tuple #[.pointer (some ⟨pt, 0, none⟩), .int .i64 (-1)]) rfl (by kernel_rfl)) ?_
  simp only [Act.put, List.setIfInBounds_toArray, List.set_cons_succ, List.set_cons_zero]
  refine l_val (o := ⟨some 19, _, _, _, _, _⟩) (.pointer (some ⟨pt, 0, none⟩)) rfl (exec_extract (.tmp 16) [.pointer (some ⟨pt, 0, none⟩), .int .i64 (-1)] 0 (.pointer (some ⟨pt, 0, none⟩)) rfl (by kernel_rfl) rfl) ?_
  simp only [Act.put, List.setIfInBounds_toArray, List.set_cons_succ, List.set_cons_zero]
  refine l_val (o := ⟨some 20, _, _, _, _, _⟩) (.int .i64 (-1)) rfl (exec_extract (.tmp 16) [.pointer (some ⟨pt, 0, none⟩), .int .i64 (-1)] 1 (.int .i64 (-1)) rfl (by kernel_rfl) rfl) ?_
  simp only [Act.put, List.setIfInBounds_toArray, List.set_cons_succ, List.set_cons_zero]
  refine l_val (o := ⟨some 10, _, _, _, _, _⟩) (.pointer (some ⟨pt, 0, none⟩)) rfl (exec_assign (.tmp 19) (.pointer (some ⟨pt, 0, none⟩)) rfl (by kernel_rfl)) ?_
  simp only [Act.put, List.setIfInBounds_toArray, List.set_cons_succ, List.set_cons_zero]
  refine l_val (o := ⟨some 11, _, _, _, _, _⟩) (.int .i64 (-1)) rfl (exec_assign (.tmp 20) (.int .i64 (-1)) rfl (by kernel_rfl)) ?_
  simp only [Act.put, List.setIfInBounds_toArray, List.set_cons_succ, List.set_cons_zero]
  refine wpList_nil ?_
  have zkpt : ws0.heap.size ≤ pt := by have h_ := ka.size; omega
  have zlpt : pt < wn1.heap.size := hP_.lt
  have T0 := Lib.hid hP_
  have kz := ka.trans kn_
  clear hP_ ka kn_ hp_
  have G_2 := Lib.hid (G_1.out.kept kz)
  have R5_2 := Lib.hid (range_kept R5_1.out kz)
  have A9_2 := Lib.hid (A9.out.kept kz)
  have zs2 := kz.size
  have kk2 := kk1.trans kz
  clear G_1 R5_1 A9 kz kk1
  go_upto_region 3 with fail
  refine wp_text 3 [.eq (.int .i64 n), .eq (.int .i64 (k : Int)), .eq (.int .i64 (k : Int))] rfl (by kernel_rfl) ?_ ?_
  · refine sv 1 rfl rfl rfl (fun a u hE hD hk => exec_move (.tmp 2) _ rfl (hE 2 (.int .i64 n) (by kernel_rfl) (by kernel_rfl))) ?_
    refine fsteps_cons 2 rfl (fun a u hE hD hk => f_call (o := ⟨some 22, _, _, _, _, _⟩) 15 #[.int .i64 n, .int .i64 0, .int .i64 31] rfl (wanted_none rfl _) (exec_call 15 _ [.tmp 21, .const (.int .i64 0), .const (.int .i64 31)] _ [.int .i64 n, .int .i64 0, .int .i64 31] Tryd.func15 (by kernel_rfl) (by kernel_rfl) rfl (show [a.eval (.tmp 21), a.eval (.const (.int .i64 0)), a.eval (.const (.int .i64 31))] = [.int .i64 n, .int .i64 0, .int .i64 31] from (by rw [show a.eval (.tmp 21) = .int .i64 n from (hD 0 21 (by kernel_rfl))] <;> rfl)) u) (HWk.out u)) ?_
    refine sv 3 rfl rfl rfl (fun a u hE hD hk => exec_assign (.tmp 22) _ rfl (hD 1 22 (by kernel_rfl))) ?_
    exact fsteps_nil
  intro gv v3 hV kv3
  rw [show dstsOf _ 3 = [21, 22, 12] by kernel_rfl]
  simp only [List.foldl_cons, List.foldl_nil, List.setIfInBounds_toArray, List.set_cons_succ, List.set_cons_zero, List.drop_succ_cons, List.drop_zero]
  rw [show gv 12 = .int .i64 (k : Int) from hV 2 12 (by kernel_rfl)]
  clear hV
  refine wpList_nil ?_
  have G_3 := Lib.hid (G_2.out.kept kv3)
  have R5_3 := Lib.hid (range_kept R5_2.out kv3)
  have A9_3 := Lib.hid (A9_2.out.kept kv3)
  have T_3 := Lib.hid (T0.out.kept kv3)
  have zs3 := kv3.size
  have kk3 := kk2.trans kv3
  clear G_2 R5_2 A9_2 T0 kv3 kk2
  go_upto_region 4 with fail
  refine wp_text 11 [.eq (.pointer (some ⟨pt, 0, none⟩)), .eq (.bool false), .eq (.bool false), .eq (.pointer (some ⟨pt, 0, none⟩)), .eq (p.v), .eq (.int .i64 (k : Int)), .eq (.int .i64 inst), .eq (.int .i64 (k : Int)), .eq (.int .i64 U), .eq (.bool false), .eq (.bool false)] rfl (by kernel_rfl) ?_ ?_
  · refine sv 1 rfl rfl rfl (fun a u hE hD hk => exec_move (.tmp 10) _ rfl (hE 10 (.pointer (some ⟨pt, 0, none⟩)) (by kernel_rfl) (by kernel_rfl))) ?_
    refine sv 2 rfl rfl rfl (fun a u hE hD hk => exec_eqP (.tmp 23) _ _ ⟨pt, 0, none⟩ (by kernel_rfl) rfl (hD 0 23 (by kernel_rfl))) ?_
    refine sv 3 rfl rfl rfl (fun a u hE hD hk => exec_move (.tmp 24) _ rfl (hD 1 24 (by kernel_rfl))) ?_
    refine fsteps_cons 4 rfl (fun a u hE hD hk => f_val (o := ⟨some 26, _, _, _, _, _⟩) (.pointer (some ⟨pt, 0, none⟩)) rfl (wanted_at (b := false) false rfl rfl (hD 2 25 (by kernel_rfl))) (exec_move (.tmp 10) _ rfl (hE 10 (.pointer (some ⟨pt, 0, none⟩)) (by kernel_rfl) (by kernel_rfl))) rfl) ?_
    refine fsteps_cons 5 rfl (fun a u hE hD hk => f_val (o := ⟨some 27, _, _, _, _, _⟩) (p.v) rfl (wanted_at (b := false) false rfl rfl (hD 2 25 (by kernel_rfl))) (exec_ldS 29 _ (.tmp 5) (g5) (0) (p.cells) rfl (hE 5 (.pointer (some ⟨g5, 0, none⟩)) (by kernel_rfl) (by kernel_rfl)) (range_kept R5_3.out hk) Tryd.underlying29 (by rw [p.len24]; exact szP)) rfl) ?_
    refine fsteps_cons 6 rfl (fun a u hE hD hk => f_val (o := ⟨some 28, _, _, _, _, _⟩) (.int .i64 (k : Int)) rfl (wanted_at (b := false) false rfl rfl (hD 2 25 (by kernel_rfl))) (exec_move (.tmp 12) _ rfl (hE 12 (.int .i64 (k : Int)) (by kernel_rfl) (by kernel_rfl))) rfl) ?_
    refine fsteps_cons 7 rfl (fun a u hE hD hk => f_val (o := ⟨some 29, _, _, _, _, _⟩) (.int .i64 inst) rfl (wanted_at (b := false) false rfl rfl (hD 2 25 (by kernel_rfl))) (exec_move (.tmp 3) _ rfl (hE 3 (.int .i64 inst) (by kernel_rfl) (by kernel_rfl))) rfl) ?_
    refine fsteps_cons 8 rfl (fun a u hE hD hk => f_val (o := ⟨some 30, _, _, _, _, _⟩) (.int .i64 (k : Int)) rfl (wanted_at (b := false) false rfl rfl (hD 2 25 (by kernel_rfl))) (exec_move (.tmp 12) _ rfl (hE 12 (.int .i64 (k : Int)) (by kernel_rfl) (by kernel_rfl))) rfl) ?_
    refine fsteps_cons 9 rfl (fun a u hE hD hk => f_call (o := ⟨some 31, _, _, _, _, _⟩) 10 #[.pointer (some ⟨pt, 0, none⟩), p.v, .int .i64 (k : Int), .int .i64 3, .int .i64 inst, .int .i64 (k : Int)] rfl (wanted_at (b := false) false rfl rfl (hD 2 25 (by kernel_rfl))) (exec_call 10 _ [.tmp 26, .tmp 27, .tmp 28, .const (.int .i64 3), .tmp 29, .tmp 30] _ [.pointer (some ⟨pt, 0, none⟩), p.v, .int .i64 (k : Int), .int .i64 3, .int .i64 inst, .int .i64 (k : Int)] Tryd.func10 (by kernel_rfl) (by kernel_rfl) rfl (show [a.eval (.tmp 26), a.eval (.tmp 27), a.eval (.tmp 28), a.eval (.const (.int .i64 3)), a.eval (.tmp 29), a.eval (.tmp 30)] = [.pointer (some ⟨pt, 0, none⟩), p.v, .int .i64 (k : Int), .int .i64 3, .int .i64 inst, .int .i64 (k : Int)] from (by rw [show a.eval (.tmp 26) = .pointer (some ⟨pt, 0, none⟩) from (hD 3 26 (by kernel_rfl)), show a.eval (.tmp 27) = p.v from (hD 4 27 (by kernel_rfl)), show a.eval (.tmp 28) = .int .i64 (k : Int) from (hD 5 28 (by kernel_rfl)), show a.eval (.tmp 29) = .int .i64 inst from (hD 6 29 (by kernel_rfl)), show a.eval (.tmp 30) = .int .i64 (k : Int) from (hD 7 30 (by kernel_rfl))] <;> rfl)) u) (may_at (G_3.out.kept hk) (T_3.out.kept hk) HOk.out HU.out)) ?_
    refine fsteps_cons 10 rfl (fun a u hE hD hk => f_as (show ((decide ((U : Int) = (0 : Int))) : Bool) = false from decide_eq_false hU0) (f_val (o := ⟨some 32, _, _, _, _, _⟩) (.bool (decide ((U : Int) = (0 : Int)))) rfl (wanted_at (b := false) false rfl rfl (hD 2 25 (by kernel_rfl))) (exec_eqn (p := U) (q := 0) rfl (hD 8 31 (by kernel_rfl)) rfl) rfl)) ?_
    refine sv 11 rfl rfl rfl (fun a u hE hD hk => exec_pickF (.tmp 25) (.const (.bool true)) (.tmp 32) (.bool false) rfl (hD 2 25 (by kernel_rfl)) (hD 9 32 (by kernel_rfl))) ?_
    exact fsteps_nil
  intro gv v4 hV kv4
  rw [show dstsOf _ 11 = [23, 24, 25, 26, 27, 28, 29, 30, 31, 32, 33] by kernel_rfl]
  simp only [List.foldl_cons, List.foldl_nil, List.setIfInBounds_toArray, List.set_cons_succ, List.set_cons_zero, List.drop_succ_cons, List.drop_zero]
  rw [show gv 33 = .bool false from hV 10 33 (by kernel_rfl)]
  clear hV
  refine wpList_nil ?_
  have G_4 := Lib.hid (G_3.out.kept kv4)
  have R5_4 := Lib.hid (range_kept R5_3.out kv4)
  have A9_4 := Lib.hid (A9_3.out.kept kv4)
  have T_4 := Lib.hid (T_3.out.kept kv4)
  have zs4 := kv4.size
  have kk4 := kk3.trans kv4
  clear G_3 R5_3 A9_3 T_3 kv4 kk3
  go_upto_region 6 with fail
  refine wp_text 7 [.eq (.pointer (some ⟨pt, 0, none⟩)), .eq (p.v), .eq (.int .i64 (k : Int)), .eq (.int .i64 inst), .eq (.int .i64 (k : Int)), .eq (.int .i64 V), .eq (.int .i64 V)] rfl (by kernel_rfl) ?_ ?_
  · refine sv 1 rfl rfl rfl (fun a u hE hD hk => exec_move (.tmp 10) _ rfl (hE 10 (.pointer (some ⟨pt, 0, none⟩)) (by kernel_rfl) (by kernel_rfl))) ?_
    refine sv 2 rfl rfl rfl (fun a u hE hD hk => exec_ldS 29 _ (.tmp 5) (g5) (0) (p.cells) rfl (hE 5 (.pointer (some ⟨g5, 0, none⟩)) (by kernel_rfl) (by kernel_rfl)) (range_kept R5_4.out hk) Tryd.underlying29 (by rw [p.len24]; exact szP)) ?_
    refine sv 3 rfl rfl rfl (fun a u hE hD hk => exec_move (.tmp 12) _ rfl (hE 12 (.int .i64 (k : Int)) (by kernel_rfl) (by kernel_rfl))) ?_
    refine sv 4 rfl rfl rfl (fun a u hE hD hk => exec_move (.tmp 3) _ rfl (hE 3 (.int .i64 inst) (by kernel_rfl) (by kernel_rfl))) ?_
    refine sv 5 rfl rfl rfl (fun a u hE hD hk => exec_move (.tmp 12) _ rfl (hE 12 (.int .i64 (k : Int)) (by kernel_rfl) (by kernel_rfl))) ?_
    refine fsteps_cons 6 rfl (fun a u hE hD hk => f_call (o := ⟨some 39, _, _, _, _, _⟩) 10 #[.pointer (some ⟨pt, 0, none⟩), p.v, .int .i64 (k : Int), .int .i64 2, .int .i64 inst, .int .i64 (k : Int)] rfl (wanted_none rfl _) (exec_call 10 _ [.tmp 34, .tmp 35, .tmp 36, .const (.int .i64 2), .tmp 37, .tmp 38] _ [.pointer (some ⟨pt, 0, none⟩), p.v, .int .i64 (k : Int), .int .i64 2, .int .i64 inst, .int .i64 (k : Int)] Tryd.func10 (by kernel_rfl) (by kernel_rfl) rfl (show [a.eval (.tmp 34), a.eval (.tmp 35), a.eval (.tmp 36), a.eval (.const (.int .i64 2)), a.eval (.tmp 37), a.eval (.tmp 38)] = [.pointer (some ⟨pt, 0, none⟩), p.v, .int .i64 (k : Int), .int .i64 2, .int .i64 inst, .int .i64 (k : Int)] from (by rw [show a.eval (.tmp 34) = .pointer (some ⟨pt, 0, none⟩) from (hD 0 34 (by kernel_rfl)), show a.eval (.tmp 35) = p.v from (hD 1 35 (by kernel_rfl)), show a.eval (.tmp 36) = .int .i64 (k : Int) from (hD 2 36 (by kernel_rfl)), show a.eval (.tmp 37) = .int .i64 inst from (hD 3 37 (by kernel_rfl)), show a.eval (.tmp 38) = .int .i64 (k : Int) from (hD 4 38 (by kernel_rfl))] <;> rfl)) u) (may_at (G_4.out.kept hk) (T_4.out.kept hk) HOk.out HV.out)) ?_
    refine sv 7 rfl rfl rfl (fun a u hE hD hk => exec_assign (.tmp 39) _ rfl (hD 5 39 (by kernel_rfl))) ?_
    exact fsteps_nil
  intro gv v5 hV kv5
  rw [show dstsOf _ 7 = [34, 35, 36, 37, 38, 39, 13] by kernel_rfl]
  simp only [List.foldl_cons, List.foldl_nil, List.setIfInBounds_toArray, List.set_cons_succ, List.set_cons_zero, List.drop_succ_cons, List.drop_zero]
  rw [show gv 13 = .int .i64 V from hV 6 13 (by kernel_rfl)]
  clear hV
  refine wpList_nil ?_
  have G_5 := Lib.hid (G_4.out.kept kv5)
  have A9_5 := Lib.hid (A9_4.out.kept kv5)
  have T_5 := Lib.hid (T_4.out.kept kv5)
  have zs5 := kv5.size
  have kk5 := kk4.trans kv5
  clear G_4 R5_4 A9_4 T_4 kv5 kk4
  cases ht : X.there (k : Int) with
  | false =>
    have HT := Lib.hid ht
    have hV6 : V = 6 := by rw [HC.out, if_neg (by rw [ht]; simp)]
    clear ht HC
    go_upto_region 7 with fail
    refine wp_text 5 [.eq (.pointer (some ⟨pt, 0, none⟩)), .eq (.int .i64 (k : Int)), .eq (.bool false), .eq (.bool true), .eq (.bool true)] rfl (by kernel_rfl) ?_ ?_
    · refine sv 1 rfl rfl rfl (fun a u hE hD hk => exec_move (.tmp 10) _ rfl (hE 10 (.pointer (some ⟨pt, 0, none⟩)) (by kernel_rfl) (by kernel_rfl))) ?_
      refine sv 2 rfl rfl rfl (fun a u hE hD hk => exec_move (.tmp 12) _ rfl (hE 12 (.int .i64 (k : Int)) (by kernel_rfl) (by kernel_rfl))) ?_
      refine fsteps_cons 3 rfl (fun a u hE hD hk => f_call (o := ⟨some 43, _, _, _, _, _⟩) 16 #[.pointer (some ⟨pt, 0, none⟩), .int .i64 (k : Int)] rfl (wanted_none rfl _) (exec_call 16 _ [.tmp 41, .tmp 42] _ [.pointer (some ⟨pt, 0, none⟩), .int .i64 (k : Int)] Tryd.func16 (by kernel_rfl) (by kernel_rfl) rfl (show [a.eval (.tmp 41), a.eval (.tmp 42)] = [.pointer (some ⟨pt, 0, none⟩), .int .i64 (k : Int)] from (by rw [show a.eval (.tmp 41) = .pointer (some ⟨pt, 0, none⟩) from (hD 0 41 (by kernel_rfl)), show a.eval (.tmp 42) = .int .i64 (k : Int) from (hD 1 42 (by kernel_rfl))] <;> rfl)) u) (there_is (T_5.out.kept hk) HT.out)) ?_
      refine sv 4 rfl rfl rfl (fun a u hE hD hk => exec_not _ (.tmp 43) false rfl (hD 2 43 (by kernel_rfl))) ?_
      refine sv 5 rfl rfl rfl (fun a u hE hD hk => exec_assign (.tmp 44) _ rfl (hD 3 44 (by kernel_rfl))) ?_
      exact fsteps_nil
    intro gv v6 hV kv6
    rw [show dstsOf _ 5 = [41, 42, 43, 44, 40] by kernel_rfl]
    simp only [List.foldl_cons, List.foldl_nil, List.setIfInBounds_toArray, List.set_cons_succ, List.set_cons_zero, List.drop_succ_cons, List.drop_zero]
    rw [show gv 40 = .bool true from hV 4 40 (by kernel_rfl)]
    clear hV
    refine wpList_nil ?_
    have G_6 := Lib.hid (G_5.out.kept kv6)
    have A9_6 := Lib.hid (A9_5.out.kept kv6)
    have T_6 := Lib.hid (T_5.out.kept kv6)
    have zs6 := kv6.size
    have kk6 := kk5.trans kv6
    clear G_5 A9_5 T_5 kv6 kk5
    go_upto_region 8 with fail
    refine wp_text 6 [.eq (.int .i64 V), .eq (.bool true), .eq (.bool true), .eq (.bool true), .eq (.bool true), .eq (.bool true)] rfl (by kernel_rfl) ?_ ?_
    · refine sv 1 rfl rfl rfl (fun a u hE hD hk => exec_move (.tmp 13) _ rfl (hE 13 (.int .i64 V) (by kernel_rfl) (by kernel_rfl))) ?_
      refine fsteps_cons 2 rfl (fun a u hE hD hk => f_as (show ((decide ((V : Int) = (6 : Int))) : Bool) = true from decide_eq_true hV6) (f_val (o := ⟨some 46, _, _, _, _, _⟩) (.bool (decide ((V : Int) = (6 : Int)))) rfl (wanted_none rfl _) (exec_eqn (p := V) (q := 6) rfl (hD 0 45 (by kernel_rfl)) rfl) rfl)) ?_
      refine sv 3 rfl rfl rfl (fun a u hE hD hk => exec_move (.tmp 46) _ rfl (hD 1 46 (by kernel_rfl))) ?_
      refine fsteps_cons 4 rfl (fun a u hE hD hk => f_call (o := ⟨some 48, _, _, _, _, _⟩) 3 #[] rfl (wanted_at (b := true) true rfl rfl (hD 2 47 (by kernel_rfl))) (exec_call 3 _ [] _ [] Tryd.func3 (by kernel_rfl) (by kernel_rfl) rfl rfl u) (HAR.out u (kk6.trans hk))) ?_
      refine sv 5 rfl rfl rfl (fun a u hE hD hk => exec_pick (.tmp 47) (.tmp 48) (.const (.bool false)) (.bool true) rfl (hD 2 47 (by kernel_rfl)) (hD 3 48 (by kernel_rfl))) ?_
      refine sv 6 rfl rfl rfl (fun a u hE hD hk => exec_assign (.tmp 49) _ rfl (hD 4 49 (by kernel_rfl))) ?_
      exact fsteps_nil
    intro gv v7 hV kv7
    rw [show dstsOf _ 6 = [45, 46, 47, 48, 49, 8] by kernel_rfl]
    simp only [List.foldl_cons, List.foldl_nil, List.setIfInBounds_toArray, List.set_cons_succ, List.set_cons_zero, List.drop_succ_cons, List.drop_zero]
    rw [show gv 8 = .bool true from hV 5 8 (by kernel_rfl)]
    clear hV
    refine wpList_nil ?_
    have G_7 := Lib.hid (G_6.out.kept kv7)
    have A9_7 := Lib.hid (A9_6.out.kept kv7)
    have T_7 := Lib.hid (T_6.out.kept kv7)
    have zs7 := kv7.size
    have kk7 := kk6.trans kv7
    clear G_6 A9_6 T_6 kv7 kk6
    go_wp2
    go_ret
    exact ⟨rfl, kk7⟩
  | true =>
    obtain ⟨x, hx⟩ : ∃ x, X.at_ k = x := ⟨_, rfl⟩
    have HVx : Hid (V = if x.off = true then 7 else 0) := by show _ = _; rw [HC.out, if_pos ht, get_in ht, hx]
    have HT := Lib.hid ht
    have HAT := Lib.hid hx
    clear ht hx HC
    go_upto_region 7 with fail
    refine wp_text 5 [.eq (.pointer (some ⟨pt, 0, none⟩)), .eq (.int .i64 (k : Int)), .eq (.bool true), .eq (.bool false), .eq (.bool false)] rfl (by kernel_rfl) ?_ ?_
    · refine sv 1 rfl rfl rfl (fun a u hE hD hk => exec_move (.tmp 10) _ rfl (hE 10 (.pointer (some ⟨pt, 0, none⟩)) (by kernel_rfl) (by kernel_rfl))) ?_
      refine sv 2 rfl rfl rfl (fun a u hE hD hk => exec_move (.tmp 12) _ rfl (hE 12 (.int .i64 (k : Int)) (by kernel_rfl) (by kernel_rfl))) ?_
      refine fsteps_cons 3 rfl (fun a u hE hD hk => f_call (o := ⟨some 43, _, _, _, _, _⟩) 16 #[.pointer (some ⟨pt, 0, none⟩), .int .i64 (k : Int)] rfl (wanted_none rfl _) (exec_call 16 _ [.tmp 41, .tmp 42] _ [.pointer (some ⟨pt, 0, none⟩), .int .i64 (k : Int)] Tryd.func16 (by kernel_rfl) (by kernel_rfl) rfl (show [a.eval (.tmp 41), a.eval (.tmp 42)] = [.pointer (some ⟨pt, 0, none⟩), .int .i64 (k : Int)] from (by rw [show a.eval (.tmp 41) = .pointer (some ⟨pt, 0, none⟩) from (hD 0 41 (by kernel_rfl)), show a.eval (.tmp 42) = .int .i64 (k : Int) from (hD 1 42 (by kernel_rfl))] <;> rfl)) u) (there_is (T_5.out.kept hk) HT.out)) ?_
      refine sv 4 rfl rfl rfl (fun a u hE hD hk => exec_not _ (.tmp 43) true rfl (hD 2 43 (by kernel_rfl))) ?_
      refine sv 5 rfl rfl rfl (fun a u hE hD hk => exec_assign (.tmp 44) _ rfl (hD 3 44 (by kernel_rfl))) ?_
      exact fsteps_nil
    intro gv v6 hV kv6
    rw [show dstsOf _ 5 = [41, 42, 43, 44, 40] by kernel_rfl]
    simp only [List.foldl_cons, List.foldl_nil, List.setIfInBounds_toArray, List.set_cons_succ, List.set_cons_zero, List.drop_succ_cons, List.drop_zero]
    rw [show gv 40 = .bool false from hV 4 40 (by kernel_rfl)]
    clear hV
    refine wpList_nil ?_
    have G_6 := Lib.hid (G_5.out.kept kv6)
    have A9_6 := Lib.hid (A9_5.out.kept kv6)
    have T_6 := Lib.hid (T_5.out.kept kv6)
    have zs6 := kv6.size
    have kk6 := kk5.trans kv6
    clear G_5 A9_5 T_5 kv6 kk5
    have HAX : Hid (v6.rangeAt g9 (k * 37) x.cells) := by show World.rangeAt _ _ _ _; rw [← HAT.out]; exact trds_range A9_6.out hklt
    cases ho : x.off with
    | true =>
      have HO := Lib.hid ho
      have hVo : V = 7 := by rw [HVx.out, ho]; rfl
      clear ho HVx
      go_upto_region 9 with fail
      refine wp_text 5 [.eq (.int .i64 (k : Int)), .eq (.pointer (some ⟨g9, k * 37, none⟩)), .eq (.pointer (some ⟨g9, k * 37 + 4, none⟩)), .eq (.bool true), .eq (.bool true)] rfl (by kernel_rfl) ?_ ?_
      · refine sv 1 rfl rfl rfl (fun a u hE hD hk => exec_move (.tmp 12) _ rfl (hE 12 (.int .i64 (k : Int)) (by kernel_rfl) (by kernel_rfl))) ?_
        refine sv 2 rfl rfl rfl (fun a u hE hD hk => exec_ixA (.tmp 9) (.tmp 51) (g9) k ((k : Int)) rfl (hE 9 (.pointer (some ⟨g9, 0, none⟩)) (by kernel_rfl) (by kernel_rfl)) (hD 0 51 (by kernel_rfl)) (by first | rfl | omega) (hklt)) ?_
        refine sv 3 rfl rfl rfl (fun a u hE hD hk => exec_fldo 35 4 4 (.tmp 52) (g9) (k * 37) (k * 37 + 4) rfl (hD 1 52 (by kernel_rfl)) (by kernel_rfl) rfl) ?_
        refine sv 4 rfl rfl rfl (fun a u hE hD hk => exec_as HO.out (exec_ldb 4 Tryd.underlying4 (.tmp 53) ⟨g9, k * 37 + 4, none⟩ (.bool x.off) rfl (hD 2 53 (by kernel_rfl)) (range_kept HAX.out hk 4 _ rfl))) ?_
        refine sv 5 rfl rfl rfl (fun a u hE hD hk => exec_assign (.tmp 54) _ rfl (hD 3 54 (by kernel_rfl))) ?_
        exact fsteps_nil
      intro gv v7 hV kv7
      rw [show dstsOf _ 5 = [51, 52, 53, 54, 50] by kernel_rfl]
      simp only [List.foldl_cons, List.foldl_nil, List.setIfInBounds_toArray, List.set_cons_succ, List.set_cons_zero, List.drop_succ_cons, List.drop_zero]
      rw [show gv 50 = .bool true from hV 4 50 (by kernel_rfl)]
      clear hV
      refine wpList_nil ?_
      have G_7 := Lib.hid (G_6.out.kept kv7)
      have A9_7 := Lib.hid (A9_6.out.kept kv7)
      have T_7 := Lib.hid (T_6.out.kept kv7)
      have zs7 := kv7.size
      have kk7 := kk6.trans kv7
      clear G_6 A9_6 T_6 kv7 kk6
      go_upto_region 10 with fail
      refine wp_text 6 [.eq (.int .i64 V), .eq (.bool true), .eq (.bool true), .eq (.bool true), .eq (.bool true), .eq (.bool true)] rfl (by kernel_rfl) ?_ ?_
      · refine sv 1 rfl rfl rfl (fun a u hE hD hk => exec_move (.tmp 13) _ rfl (hE 13 (.int .i64 V) (by kernel_rfl) (by kernel_rfl))) ?_
        refine fsteps_cons 2 rfl (fun a u hE hD hk => f_as (show ((decide ((V : Int) = (7 : Int))) : Bool) = true from decide_eq_true hVo) (f_val (o := ⟨some 56, _, _, _, _, _⟩) (.bool (decide ((V : Int) = (7 : Int)))) rfl (wanted_none rfl _) (exec_eqn (p := V) (q := 7) rfl (hD 0 55 (by kernel_rfl)) rfl) rfl)) ?_
        refine sv 3 rfl rfl rfl (fun a u hE hD hk => exec_move (.tmp 56) _ rfl (hD 1 56 (by kernel_rfl))) ?_
        refine fsteps_cons 4 rfl (fun a u hE hD hk => f_call (o := ⟨some 58, _, _, _, _, _⟩) 3 #[] rfl (wanted_at (b := true) true rfl rfl (hD 2 57 (by kernel_rfl))) (exec_call 3 _ [] _ [] Tryd.func3 (by kernel_rfl) (by kernel_rfl) rfl rfl u) (HAR.out u (kk7.trans hk))) ?_
        refine sv 5 rfl rfl rfl (fun a u hE hD hk => exec_pick (.tmp 57) (.tmp 58) (.const (.bool false)) (.bool true) rfl (hD 2 57 (by kernel_rfl)) (hD 3 58 (by kernel_rfl))) ?_
        refine sv 6 rfl rfl rfl (fun a u hE hD hk => exec_assign (.tmp 59) _ rfl (hD 4 59 (by kernel_rfl))) ?_
        exact fsteps_nil
      intro gv v8 hV kv8
      rw [show dstsOf _ 6 = [55, 56, 57, 58, 59, 8] by kernel_rfl]
      simp only [List.foldl_cons, List.foldl_nil, List.setIfInBounds_toArray, List.set_cons_succ, List.set_cons_zero, List.drop_succ_cons, List.drop_zero]
      rw [show gv 8 = .bool true from hV 5 8 (by kernel_rfl)]
      clear hV
      refine wpList_nil ?_
      have G_8 := Lib.hid (G_7.out.kept kv8)
      have A9_8 := Lib.hid (A9_7.out.kept kv8)
      have T_8 := Lib.hid (T_7.out.kept kv8)
      have zs8 := kv8.size
      have kk8 := kk7.trans kv8
      clear G_7 A9_7 T_7 kv8 kk7
      go_wp2
      go_ret
      exact ⟨rfl, kk8⟩
    | false =>
      have HO := Lib.hid ho
      have hVo : V = 0 := by rw [HVx.out, ho]; rfl
      clear ho HVx
      go_upto_region 9 with fail
      refine wp_text 5 [.eq (.int .i64 (k : Int)), .eq (.pointer (some ⟨g9, k * 37, none⟩)), .eq (.pointer (some ⟨g9, k * 37 + 4, none⟩)), .eq (.bool false), .eq (.bool false)] rfl (by kernel_rfl) ?_ ?_
      · refine sv 1 rfl rfl rfl (fun a u hE hD hk => exec_move (.tmp 12) _ rfl (hE 12 (.int .i64 (k : Int)) (by kernel_rfl) (by kernel_rfl))) ?_
        refine sv 2 rfl rfl rfl (fun a u hE hD hk => exec_ixA (.tmp 9) (.tmp 51) (g9) k ((k : Int)) rfl (hE 9 (.pointer (some ⟨g9, 0, none⟩)) (by kernel_rfl) (by kernel_rfl)) (hD 0 51 (by kernel_rfl)) (by first | rfl | omega) (hklt)) ?_
        refine sv 3 rfl rfl rfl (fun a u hE hD hk => exec_fldo 35 4 4 (.tmp 52) (g9) (k * 37) (k * 37 + 4) rfl (hD 1 52 (by kernel_rfl)) (by kernel_rfl) rfl) ?_
        refine sv 4 rfl rfl rfl (fun a u hE hD hk => exec_as HO.out (exec_ldb 4 Tryd.underlying4 (.tmp 53) ⟨g9, k * 37 + 4, none⟩ (.bool x.off) rfl (hD 2 53 (by kernel_rfl)) (range_kept HAX.out hk 4 _ rfl))) ?_
        refine sv 5 rfl rfl rfl (fun a u hE hD hk => exec_assign (.tmp 54) _ rfl (hD 3 54 (by kernel_rfl))) ?_
        exact fsteps_nil
      intro gv v7 hV kv7
      rw [show dstsOf _ 5 = [51, 52, 53, 54, 50] by kernel_rfl]
      simp only [List.foldl_cons, List.foldl_nil, List.setIfInBounds_toArray, List.set_cons_succ, List.set_cons_zero, List.drop_succ_cons, List.drop_zero]
      rw [show gv 50 = .bool false from hV 4 50 (by kernel_rfl)]
      clear hV
      refine wpList_nil ?_
      have G_7 := Lib.hid (G_6.out.kept kv7)
      have A9_7 := Lib.hid (A9_6.out.kept kv7)
      have T_7 := Lib.hid (T_6.out.kept kv7)
      have zs7 := kv7.size
      have kk7 := kk6.trans kv7
      clear G_6 A9_6 T_6 kv7 kk6
      go_upto_region 11 with fail
      refine wp_text 6 [.eq (.int .i64 V), .eq (.bool true), .eq (.bool true), .eq (.bool true), .eq (.bool true), .eq (.bool true)] rfl (by kernel_rfl) ?_ ?_
      · refine sv 1 rfl rfl rfl (fun a u hE hD hk => exec_move (.tmp 13) _ rfl (hE 13 (.int .i64 V) (by kernel_rfl) (by kernel_rfl))) ?_
        refine fsteps_cons 2 rfl (fun a u hE hD hk => f_as (show ((decide ((V : Int) = (0 : Int))) : Bool) = true from decide_eq_true hVo) (f_val (o := ⟨some 61, _, _, _, _, _⟩) (.bool (decide ((V : Int) = (0 : Int)))) rfl (wanted_none rfl _) (exec_eqn (p := V) (q := 0) rfl (hD 0 60 (by kernel_rfl)) rfl) rfl)) ?_
        refine sv 3 rfl rfl rfl (fun a u hE hD hk => exec_move (.tmp 61) _ rfl (hD 1 61 (by kernel_rfl))) ?_
        refine fsteps_cons 4 rfl (fun a u hE hD hk => f_call (o := ⟨some 63, _, _, _, _, _⟩) 3 #[] rfl (wanted_at (b := true) true rfl rfl (hD 2 62 (by kernel_rfl))) (exec_call 3 _ [] _ [] Tryd.func3 (by kernel_rfl) (by kernel_rfl) rfl rfl u) (HAR.out u (kk7.trans hk))) ?_
        refine sv 5 rfl rfl rfl (fun a u hE hD hk => exec_pick (.tmp 62) (.tmp 63) (.const (.bool false)) (.bool true) rfl (hD 2 62 (by kernel_rfl)) (hD 3 63 (by kernel_rfl))) ?_
        refine sv 6 rfl rfl rfl (fun a u hE hD hk => exec_assign (.tmp 64) _ rfl (hD 4 64 (by kernel_rfl))) ?_
        exact fsteps_nil
      intro gv v8 hV kv8
      rw [show dstsOf _ 6 = [60, 61, 62, 63, 64, 8] by kernel_rfl]
      simp only [List.foldl_cons, List.foldl_nil, List.setIfInBounds_toArray, List.set_cons_succ, List.set_cons_zero, List.drop_succ_cons, List.drop_zero]
      rw [show gv 8 = .bool true from hV 5 8 (by kernel_rfl)]
      clear hV
      refine wpList_nil ?_
      have G_8 := Lib.hid (G_7.out.kept kv8)
      have A9_8 := Lib.hid (A9_7.out.kept kv8)
      have T_8 := Lib.hid (T_7.out.kept kv8)
      have zs8 := kv8.size
      have kk8 := kk7.trans kv8
      clear G_7 A9_7 T_7 kv8 kk7
      go_wp2
      go_ret
      exact ⟨rfl, kk8⟩
end Go.Proofs.YtfoamgljfdnloaaDoor
