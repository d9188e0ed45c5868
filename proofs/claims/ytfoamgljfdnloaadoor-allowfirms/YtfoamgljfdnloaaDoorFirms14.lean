/-
  The contract of jobberlaw14.AllowFirms: who isn't an admin cancels for another firm by a grant alone, and suspends nobody there; a grant helps nobody else; it answers true. Condition: the table of rules as its text lays it.
-/
import Derived.Test.YtfoamgljfdnloaaDoorRuns14
namespace Go.Proofs.YtfoamgljfdnloaaDoor
open Go.RowKit
set_option linter.unusedVariables false
set_option maxRecDepth 100000

theorem firms_susp {X : Trds} {p : Phs} {n inst other : Int} (hf : (X.get n).firm ≠ (X.get other).firm) (h8 : anI (X.get n).roles 8 = 0) : allowM X p n 3 inst other ≠ 0 := by
  unfold allowM
  by_cases h : X.there n = true
  · rw [if_pos h]
    by_cases h2 : outB (X.get n) p 3 = true
    · rw [if_pos h2]; omega
    · rw [if_neg h2, if_neg (by omega), if_neg (by omega), if_pos rfl]
      by_cases h3 : X.there other = true
      · rw [if_pos h3]
        unfold suspB
        rw [decide_eq_false (show ¬ (X.get other).firm = (X.get n).firm from fun e => hf e.symm), decide_eq_false (show ¬ anI (X.get n).roles 8 ≠ 0 by simp [h8])]
        simp [okV]
      · rw [if_neg h3]; omega
  · rw [if_neg h]; omega
theorem firms_can {X : Trds} {p : Phs} {n inst other : Int} (hf : (X.get n).firm ≠ (X.get other).firm) (h8 : anI (X.get n).roles 8 = 0) (h0 : allowM X p n 2 inst other = 0) : anI (shI (p.gra (X.get n).firm.toNat) (X.get other).firm) 1 = 1 := by
  unfold allowM at h0
  by_cases h : X.there n = true
  · rw [if_pos h] at h0
    by_cases h2 : outB (X.get n) p 2 = true
    · rw [if_pos h2] at h0; omega
    · rw [if_neg h2, if_neg (by omega), if_pos rfl] at h0
      by_cases h3 : X.there other = true
      · rw [if_pos h3] at h0
        unfold cancelB at h0
        have hne : other ≠ n := fun e => hf (by rw [e])
        rw [decide_eq_false hne, decide_eq_false (show ¬ (X.get other).firm = (X.get n).firm from fun e => hf e.symm), decide_eq_false (show ¬ anI (X.get n).roles 8 ≠ 0 by simp [h8])] at h0
        simp only [Bool.false_or, Bool.and_false, Bool.false_and] at h0
        unfold okV at h0
        by_cases hc : (decide (anI (X.get n).roles 4 ≠ 0) && decide (anI (shI (p.gra (X.get n).firm.toNat) (X.get other).firm) 1 = 1)) = true
        · rw [Bool.and_eq_true] at hc
          exact of_decide_eq_true hc.2
        · rw [if_neg hc] at h0; omega
      · rw [if_neg h3] at h0; omega
  · rw [if_neg h] at h0; omega
theorem firms_same {X : Trds} {p q : Phs} {n inst other : Int} (hk : q.kil (X.get n).firm.toNat = p.kil (X.get n).firm.toNat) (hg : q.gra (X.get n).firm.toNat = p.gra (X.get n).firm.toNat) : allowM X q n 2 inst other = allowM X p n 2 inst other := by
  unfold allowM
  rw [if_neg (show ¬ (2 : Int) = 1 by omega), if_neg (show ¬ (2 : Int) = 1 by omega)]
  unfold outB cancelB
  rw [hk, hg]
set_option maxRecDepth 100000 in
set_option maxHeartbeats 6400000 in
theorem allowFirms_any (v : Value) (l : List Ab) (p : Phs) (n : Int) (other : Int) (firm : Int) (w : World) (hG : RulIn w) (hl : Abs w v l) : Calls Tryd.prog 6 #[v, p.v, .int .i64 n, .int .i64 other, .int .i64 firm] w fun e w' => e = .returned (.bool true) ∧ Kept w w' := by
  have HOk := Lib.hid (abs_good (l.take 40))
  have HBd := Lib.hid (bad_none HOk.out)
  have HX : Hid (∀ u, Kept w u → Gives 11 #[v] u (.eq (absL (l.take 40)).v)) := fun u hk => abs_any u v l (hl.kept hk)
  have HAR : Hid (∀ u, Kept w u → Gives 3 #[] u (.eq (.bool true))) := fun u hk => allowRuns_is u (hG.kept hk)
  have HG := Lib.hid hG
  generalize absL (l.take 40) = X at HOk HBd HX
  clear hl hG
  obtain ⟨b0, hb0⟩ : ∃ z, w.alloc (.cells p.cells.toArray 29) = z := ⟨_, rfl⟩
  have q0 : Kept w b0 := by rw [← hb0]; exact (Keep.refl _ _).alloc _
  have r0 : b0.rangeAt w.heap.size 0 p.cells := by rw [← hb0]; exact blk_range (Blk.new w 29 p.cells)
  have HB6 := Lib.hid (r0)
  have k0 := q0
  clear r0
  go_enter Tryd.func6, Tryd.ntmps6
  go_upto_region 0 with fail
  refine wp_region_lit ?_
  refine l_new (o := ⟨some 6, _, _, _, _, _⟩) (.pointer (some ⟨w.heap.size, 0, none⟩)) b0 rfl (by rw [← hb0]; exact exec_box 29 (.tmp 1) p.cells rfl (by kernel_rfl)) ?_
  simp only [Act.put, List.setIfInBounds_toArray, List.set_cons_succ, List.set_cons_zero]
  refine l_val (o := ⟨some 10, _, _, _, _, _⟩) (.bool false) rfl (exec_assign (.const (.bool false)) (.bool false) rfl (by kernel_rfl)) ?_
  simp only [Act.put, List.setIfInBounds_toArray, List.set_cons_succ, List.set_cons_zero]
  refine wpList_nil ?_
  obtain ⟨g6, hg6⟩ : ∃ g, w.heap.size = g := ⟨_, rfl⟩
  rw [hg6] at HB6 ⊢
  clear hg6 hb0 q0
  have G0 := Lib.hid (HG.out.kept k0)
  have zG := HG.out.lt
  have zs0 := k0.size
  have zl6 : g6 < b0.heap.size := World.block_lt_of_cell? b0 _ (HB6.out 0 _ (p.at_h (i := 0) (by omega)))
  clear HG
  obtain ⟨m1, hm1⟩ : ∃ k : Nat, wi n 0 31 = (k : Int) := ⟨(wi n 0 31).toNat, by have := wi_in n 0 31 (by omega); omega⟩
  have hm1lt : m1 < 32 := by have := wi_in n 0 31 (by omega); omega
  have HWm1 : Hid (∀ u, Gives 15 #[.int .i64 n, .int .i64 0, .int .i64 31] u (.eq (.int .i64 (m1 : Int)))) := fun u => by rw [← hm1]; exact within_is n 0 31 u (by omega) (by omega) (by omega)
  clear hm1
  obtain ⟨m2, hm2⟩ : ∃ k : Nat, wi other 0 31 = (k : Int) := ⟨(wi other 0 31).toNat, by have := wi_in other 0 31 (by omega); omega⟩
  have hm2lt : m2 < 32 := by have := wi_in other 0 31 (by omega); omega
  have HWm2 : Hid (∀ u, Gives 15 #[.int .i64 other, .int .i64 0, .int .i64 31] u (.eq (.int .i64 (m2 : Int)))) := fun u => by rw [← hm2]; exact within_is other 0 31 u (by omega) (by omega) (by omega)
  clear hm2
  obtain ⟨j, hj⟩ : ∃ k : Nat, wi firm 0 7 = (k : Int) := ⟨(wi firm 0 7).toNat, by have := wi_in firm 0 7 (by omega); omega⟩
  have hjlt : j < 8 := by have := wi_in firm 0 7 (by omega); omega
  have HWj : Hid (∀ u, Gives 15 #[.int .i64 firm, .int .i64 0, .int .i64 7] u (.eq (.int .i64 (j : Int)))) := fun u => by rw [← hj]; exact within_is firm 0 7 u (by omega) (by omega) (by omega)
  clear hj
  obtain ⟨x, hx⟩ : ∃ x, X.at_ m1 = x := ⟨_, rfl⟩
  obtain ⟨y, hy⟩ : ∃ y, X.at_ m2 = y := ⟨_, rfl⟩
  obtain ⟨tA, htA⟩ : ∃ b, X.there (m1 : Int) = b := ⟨_, rfl⟩
  obtain ⟨tB, htB⟩ : ∃ b, X.there (m2 : Int) = b := ⟨_, rfl⟩
  obtain ⟨C, hC⟩ : ∃ C, (((!tA || !tB) || decide ((x.firm : Int) = (y.firm : Int))) || decide ((anI x.roles 8 : Int) ≠ (0 : Int))) = C := ⟨_, rfl⟩
  have HATx := Lib.hid hx
  have HATy := Lib.hid hy
  have HTA := Lib.hid htA
  have HTB := Lib.hid htB
  have HC := Lib.hid hC
  clear hx hy htA htB hC
  go_upto_region 1 with fail
  refine wp_text 2 [.eq (v), .eq (X.v)] rfl (by kernel_rfl) ?_ ?_
  · refine sv 1 rfl rfl rfl (fun a u hE hD hk => exec_move (.tmp 0) _ rfl (hE 0 (v) (by kernel_rfl) (by kernel_rfl))) ?_
    refine fsteps_cons 2 rfl (fun a u hE hD hk => f_call (o := ⟨some 20, _, _, _, _, _⟩) 11 #[v] rfl (wanted_none rfl _) (exec_call 11 _ [.tmp 19] _ [v] Tryd.func11 (by kernel_rfl) (by kernel_rfl) rfl (show [a.eval (.tmp 19)] = [v] from (by rw [show a.eval (.tmp 19) = v from (hD 0 19 (by kernel_rfl))] <;> rfl)) u) (HX.out u (k0.trans hk))) ?_
    exact fsteps_nil
  intro gv wa hV ka
  rw [show dstsOf _ 2 = [19, 20] by kernel_rfl]
  simp only [List.foldl_cons, List.foldl_nil, List.setIfInBounds_toArray, List.set_cons_succ, List.set_cons_zero, List.drop_succ_cons, List.drop_zero]
  rw [show gv 20 = X.v from hV 1 20 (by kernel_rfl)]
  clear hV
  refine l_new (o := ⟨some 11, _, _, _, _, _⟩) (.pointer (some ⟨wa.heap.size, 0, none⟩)) (wa.alloc (.cells zeroX.cells.toArray 36)) rfl (exec_alc 36 zeroX.cells rfl zX) ?_
  have hN11 := Blk.new wa 36 zeroX.cells
  have ka0 : Kept wa (wa.alloc (.cells zeroX.cells.toArray 36)) := (Keep.refl _ wa).alloc _
  have sa0 : (wa.alloc (.cells zeroX.cells.toArray 36)).heap.size = wa.heap.size + 1 := by simp
  generalize wa.alloc (.cells zeroX.cells.toArray 36) = wa0 at hN11 ka0 sa0 ⊢
  simp only [Act.put, List.setIfInBounds_toArray, List.set_cons_succ, List.set_cons_zero]
  refine l_setS (o := ⟨none, _, _, _, _, _⟩) 36 wa.heap.size 36 zeroX.cells X.cells (.tmp 11) (.tmp 20) rfl rfl (by kernel_rfl) (by kernel_rfl) (hN11) (by rw [Trds.len]; exact szX) (by rw [Trds.len, Trds.len]) (Trds.one _) ?_
  intro ws0 hC11 ks0 ss0
  simp only [Act.put]
  refine wpList_nil ?_
  obtain ⟨g11, hg11⟩ : ∃ a, wa.heap.size = a := ⟨_, rfl⟩
  have zka := ka.size
  rw [hg11] at hC11 ks0 ⊢
  simp only [hg11] at sa0 zka
  have A11 := Lib.hid (hC11)
  have kz : Kept b0 ws0 := (ka.trans ka0).trans' ks0 (by omega)
  have zg11 : g11 < ws0.heap.size := by have h_ := hC11.lt; omega
  have zb11 : b0.heap.size ≤ g11 := by omega
  clear hN11 hC11 ka0 ks0 ss0 sa0 ka zka hg11
  have G_1 := Lib.hid (G0.out.kept kz)
  have R6_1 := Lib.hid (range_kept HB6.out kz)
  have zs1 := kz.size
  have kk1 := k0.trans kz
  clear G0 HB6 kz k0
  go_upto_region 2 with fail
  refine wp_text 1 [.eq (X.v)] rfl (by kernel_rfl) ?_ ?_
  · refine sv 1 rfl rfl rfl (fun a u hE hD hk => exec_ldX X (.tmp 11) (g11) _ rfl (hE 11 (.pointer (some ⟨g11, 0, none⟩)) (by kernel_rfl) (by kernel_rfl)) (A11.out.kept hk)) ?_
    exact fsteps_nil
  intro gv wa hV ka
  rw [show dstsOf _ 1 = [22] by kernel_rfl]
  simp only [List.foldl_cons, List.foldl_nil, List.setIfInBounds_toArray, List.set_cons_succ, List.set_cons_zero, List.drop_succ_cons, List.drop_zero]
  rw [show gv 22 = X.v from hV 0 22 (by kernel_rfl)]
  clear hV
  refine l_call (o := ⟨some 23, _, _, _, _, _⟩) 12 #[X.v] rfl (exec_call 12 _ [.tmp 22] _ _ Tryd.func12 (by kernel_rfl) (by kernel_rfl) rfl (by kernel_rfl) _) ?_
  refine (new_ok HBd.out).mono ?_
  rintro e wn1 ⟨pt, rfl, hp_, hP_, kn_⟩
  refine ⟨_, rfl, ?_⟩
  simp only [Act.put, List.setIfInBounds_toArray, List.set_cons_succ, List.set_cons_zero]
  refine l_val (o := ⟨some 21, _, _, _, _, _⟩) (.tuple #[.pointer (some ⟨pt, 0, none⟩), .int .i64 (-1)]) rfl (exec_move (.tmp 23) (.tuple #[.pointer (some ⟨pt, 0, none⟩), .int .i64 (-1)]) rfl (by kernel_rfl)) ?_
  simp only [Act.put, List.setIfInBounds_toArray, List.set_cons_succ, List.set_cons_zero]
  refine l_val (o := ⟨some 24, _, _, _, _, _⟩) (.pointer (some ⟨pt, 0, none⟩)) rfl (exec_extract (.tmp 21) [.pointer (some ⟨pt, 0, none⟩), .int .i64 (-1)] 0 (.pointer (some ⟨pt, 0, none⟩)) rfl (by kernel_rfl) rfl) ?_
  simp only [Act.put, List.setIfInBounds_toArray, List.set_cons_succ, List.set_cons_zero]
  refine l_val (o := ⟨some 25, _, _, _, _, _⟩) (.int .i64 (-1)) rfl (exec_extract (.tmp 21) [.pointer (some ⟨pt, 0, none⟩), .int .i64 (-1)] 1 (.int .i64 (-1)) rfl (by kernel_rfl) rfl) ?_
  simp only [Act.put, List.setIfInBounds_toArray, List.set_cons_succ, List.set_cons_zero]
  refine l_val (o := ⟨some 12, _, _, _, _, _⟩) (.pointer (some ⟨pt, 0, none⟩)) rfl (exec_assign (.tmp 24) (.pointer (some ⟨pt, 0, none⟩)) rfl (by kernel_rfl)) ?_
  simp only [Act.put, List.setIfInBounds_toArray, List.set_cons_succ, List.set_cons_zero]
  refine l_val (o := ⟨some 13, _, _, _, _, _⟩) (.int .i64 (-1)) rfl (exec_assign (.tmp 25) (.int .i64 (-1)) rfl (by kernel_rfl)) ?_
  simp only [Act.put, List.setIfInBounds_toArray, List.set_cons_succ, List.set_cons_zero]
  refine wpList_nil ?_
  have zkpt : ws0.heap.size ≤ pt := by have h_ := ka.size; omega
  have zlpt : pt < wn1.heap.size := hP_.lt
  have T0 := Lib.hid hP_
  have kz := ka.trans kn_
  clear hP_ ka kn_ hp_
  have G_2 := Lib.hid (G_1.out.kept kz)
  have R6_2 := Lib.hid (range_kept R6_1.out kz)
  have A11_2 := Lib.hid (A11.out.kept kz)
  have zs2 := kz.size
  have kk2 := kk1.trans kz
  clear G_1 R6_1 A11 kz kk1
  go_upto_region 3 with fail
  refine wp_text 2 [.eq (.pointer (some ⟨pt, 0, none⟩)), .eq (.bool false)] rfl (by kernel_rfl) ?_ ?_
  · refine sv 1 rfl rfl rfl (fun a u hE hD hk => exec_move (.tmp 12) _ rfl (hE 12 (.pointer (some ⟨pt, 0, none⟩)) (by kernel_rfl) (by kernel_rfl))) ?_
    refine sv 2 rfl rfl rfl (fun a u hE hD hk => exec_eqP (.tmp 26) _ _ ⟨pt, 0, none⟩ (by kernel_rfl) rfl (hD 0 26 (by kernel_rfl))) ?_
    exact fsteps_nil
  intro gv v3 hV kv3
  rw [show dstsOf _ 2 = [26, 27] by kernel_rfl]
  simp only [List.foldl_cons, List.foldl_nil, List.setIfInBounds_toArray, List.set_cons_succ, List.set_cons_zero, List.drop_succ_cons, List.drop_zero]
  rw [show gv 27 = .bool false from hV 1 27 (by kernel_rfl)]
  clear hV
  refine wpList_nil ?_
  have G_3 := Lib.hid (G_2.out.kept kv3)
  have R6_3 := Lib.hid (range_kept R6_2.out kv3)
  have A11_3 := Lib.hid (A11_2.out.kept kv3)
  have T_3 := Lib.hid (T0.out.kept kv3)
  have zs3 := kv3.size
  have kk3 := kk2.trans kv3
  clear G_2 R6_2 A11_2 T0 kv3 kk2
  go_upto_region 5 with fail
  refine wp_text 6 [.eq (.int .i64 n), .eq (.int .i64 (m1 : Int)), .eq (.int .i64 other), .eq (.int .i64 (m2 : Int)), .eq (.int .i64 (m1 : Int)), .eq (.int .i64 (m2 : Int))] rfl (by kernel_rfl) ?_ ?_
  · refine sv 1 rfl rfl rfl (fun a u hE hD hk => exec_move (.tmp 2) _ rfl (hE 2 (.int .i64 n) (by kernel_rfl) (by kernel_rfl))) ?_
    refine fsteps_cons 2 rfl (fun a u hE hD hk => f_call (o := ⟨some 29, _, _, _, _, _⟩) 15 #[.int .i64 n, .int .i64 0, .int .i64 31] rfl (wanted_none rfl _) (exec_call 15 _ [.tmp 28, .const (.int .i64 0), .const (.int .i64 31)] _ [.int .i64 n, .int .i64 0, .int .i64 31] Tryd.func15 (by kernel_rfl) (by kernel_rfl) rfl (show [a.eval (.tmp 28), a.eval (.const (.int .i64 0)), a.eval (.const (.int .i64 31))] = [.int .i64 n, .int .i64 0, .int .i64 31] from (by rw [show a.eval (.tmp 28) = .int .i64 n from (hD 0 28 (by kernel_rfl))] <;> rfl)) u) (HWm1.out u)) ?_
    refine sv 3 rfl rfl rfl (fun a u hE hD hk => exec_move (.tmp 3) _ rfl (hE 3 (.int .i64 other) (by kernel_rfl) (by kernel_rfl))) ?_
    refine fsteps_cons 4 rfl (fun a u hE hD hk => f_call (o := ⟨some 31, _, _, _, _, _⟩) 15 #[.int .i64 other, .int .i64 0, .int .i64 31] rfl (wanted_none rfl _) (exec_call 15 _ [.tmp 30, .const (.int .i64 0), .const (.int .i64 31)] _ [.int .i64 other, .int .i64 0, .int .i64 31] Tryd.func15 (by kernel_rfl) (by kernel_rfl) rfl (show [a.eval (.tmp 30), a.eval (.const (.int .i64 0)), a.eval (.const (.int .i64 31))] = [.int .i64 other, .int .i64 0, .int .i64 31] from (by rw [show a.eval (.tmp 30) = .int .i64 other from (hD 2 30 (by kernel_rfl))] <;> rfl)) u) (HWm2.out u)) ?_
    refine sv 5 rfl rfl rfl (fun a u hE hD hk => exec_assign (.tmp 29) _ rfl (hD 1 29 (by kernel_rfl))) ?_
    refine sv 6 rfl rfl rfl (fun a u hE hD hk => exec_assign (.tmp 31) _ rfl (hD 3 31 (by kernel_rfl))) ?_
    exact fsteps_nil
  intro gv v4 hV kv4
  rw [show dstsOf _ 6 = [28, 29, 30, 31, 14, 15] by kernel_rfl]
  simp only [List.foldl_cons, List.foldl_nil, List.setIfInBounds_toArray, List.set_cons_succ, List.set_cons_zero, List.drop_succ_cons, List.drop_zero]
  rw [show gv 14 = .int .i64 (m1 : Int) from hV 4 14 (by kernel_rfl)]
  rw [show gv 15 = .int .i64 (m2 : Int) from hV 5 15 (by kernel_rfl)]
  clear hV
  refine wpList_nil ?_
  have G_4 := Lib.hid (G_3.out.kept kv4)
  have R6_4 := Lib.hid (range_kept R6_3.out kv4)
  have A11_4 := Lib.hid (A11_3.out.kept kv4)
  have T_4 := Lib.hid (T_3.out.kept kv4)
  have zs4 := kv4.size
  have kk4 := kk3.trans kv4
  clear G_3 R6_3 A11_3 T_3 kv4 kk3
  have HAX0 : Hid (v4.rangeAt g11 (m1 * 37) x.cells) := by show World.rangeAt _ _ _ _; rw [← HATx.out]; exact trds_range A11_4.out hm1lt
  have HAY0 : Hid (v4.rangeAt g11 (m2 * 37) y.cells) := by show World.rangeAt _ _ _ _; rw [← HATy.out]; exact trds_range A11_4.out hm2lt
  go_upto_region 6 with fail
  refine wp_free 29 [.eq (.pointer (some ⟨pt, 0, none⟩)), .eq (.int .i64 (m1 : Int)), .eq (.bool tA), .eq (.bool (!tA)), .eq (.bool (!tA)), .cond (!(!tA)) (.eq (.pointer (some ⟨pt, 0, none⟩))), .cond (!(!tA)) (.eq (.int .i64 (m2 : Int))), .cond (!(!tA)) (.eq (.bool tB)), .cond (!(!tA)) (.eq (.bool (!tB))), .eq (.bool ((!tA) || (!tB))), .eq (.bool ((!tA) || (!tB))), .cond (!((!tA) || (!tB))) (.eq (.int .i64 (m1 : Int))), .cond (!((!tA) || (!tB))) (.eq (.pointer (some ⟨g11, m1 * 37, none⟩))), .cond (!((!tA) || (!tB))) (.eq (.pointer (some ⟨g11, m1 * 37, none⟩))), .cond (!((!tA) || (!tB))) (.eq (.int .i64 x.firm)), .cond (!((!tA) || (!tB))) (.eq (.int .i64 (m2 : Int))), .cond (!((!tA) || (!tB))) (.eq (.pointer (some ⟨g11, m2 * 37, none⟩))), .cond (!((!tA) || (!tB))) (.eq (.pointer (some ⟨g11, m2 * 37, none⟩))), .cond (!((!tA) || (!tB))) (.eq (.int .i64 y.firm)), .cond (!((!tA) || (!tB))) (.eq (.bool (decide ((x.firm : Int) = (y.firm : Int))))), .eq (.bool (((!tA) || (!tB)) || (decide ((x.firm : Int) = (y.firm : Int))))), .eq (.bool (((!tA) || (!tB)) || (decide ((x.firm : Int) = (y.firm : Int))))), .cond (!(((!tA) || (!tB)) || (decide ((x.firm : Int) = (y.firm : Int))))) (.eq (.int .i64 (m1 : Int))), .cond (!(((!tA) || (!tB)) || (decide ((x.firm : Int) = (y.firm : Int))))) (.eq (.pointer (some ⟨g11, m1 * 37, none⟩))), .cond (!(((!tA) || (!tB)) || (decide ((x.firm : Int) = (y.firm : Int))))) (.eq (.pointer (some ⟨g11, m1 * 37 + 2, none⟩))), .cond (!(((!tA) || (!tB)) || (decide ((x.firm : Int) = (y.firm : Int))))) (.eq (.int .i64 x.roles)), .cond (!(((!tA) || (!tB)) || (decide ((x.firm : Int) = (y.firm : Int))))) (.eq (.int .i64 (anI x.roles 8))), .cond (!(((!tA) || (!tB)) || (decide ((x.firm : Int) = (y.firm : Int))))) (.eq (.bool (decide (((anI x.roles 8) : Int) ≠ (0 : Int))))), .eq (.bool C)] (by kernel_rfl) rfl (by kernel_rfl) ?_ ?_
  · refine sv 1 rfl rfl rfl (fun a u hE hD hk => exec_move (.tmp 12) _ rfl (hE 12 (.pointer (some ⟨pt, 0, none⟩)) (by kernel_rfl) (by kernel_rfl))) ?_
    refine sv 2 rfl rfl rfl (fun a u hE hD hk => exec_move (.tmp 14) _ rfl (hE 14 (.int .i64 (m1 : Int)) (by kernel_rfl) (by kernel_rfl))) ?_
    refine fsteps_cons 3 rfl (fun a u hE hD hk => f_call (o := ⟨some 34, _, _, _, _, _⟩) 16 #[.pointer (some ⟨pt, 0, none⟩), .int .i64 (m1 : Int)] rfl (wanted_none rfl _) (exec_call 16 _ [.tmp 32, .tmp 33] _ [.pointer (some ⟨pt, 0, none⟩), .int .i64 (m1 : Int)] Tryd.func16 (by kernel_rfl) (by kernel_rfl) rfl (show [a.eval (.tmp 32), a.eval (.tmp 33)] = [.pointer (some ⟨pt, 0, none⟩), .int .i64 (m1 : Int)] from (by rw [show a.eval (.tmp 32) = .pointer (some ⟨pt, 0, none⟩) from (hD 0 32 (by kernel_rfl)), show a.eval (.tmp 33) = .int .i64 (m1 : Int) from (hD 1 33 (by kernel_rfl))] <;> rfl)) u) (there_is (T_4.out.kept hk) HTA.out)) ?_
    refine sv 4 rfl rfl rfl (fun a u hE hD hk => exec_not _ (.tmp 34) tA rfl (hD 2 34 (by kernel_rfl))) ?_
    refine sv 5 rfl rfl rfl (fun a u hE hD hk => exec_move (.tmp 35) _ rfl (hD 3 35 (by kernel_rfl))) ?_
    refine fsteps_cons 6 rfl (fun a u hE hD hk => f_unless ((!tA)) rfl rfl rfl (hD 4 36 (by kernel_rfl)) (fun hb => f_val (o := ⟨some 37, _, _, _, _, _⟩) (.pointer (some ⟨pt, 0, none⟩)) rfl (wanted_b rfl rfl (hD 4 36 (by kernel_rfl)) (eq_false_of hb)) (exec_move (.tmp 12) _ rfl (hE 12 (.pointer (some ⟨pt, 0, none⟩)) (by kernel_rfl) (by kernel_rfl))) rfl)) ?_
    refine fsteps_cons 7 rfl (fun a u hE hD hk => f_unless ((!tA)) rfl rfl rfl (hD 4 36 (by kernel_rfl)) (fun hb => f_val (o := ⟨some 38, _, _, _, _, _⟩) (.int .i64 (m2 : Int)) rfl (wanted_b rfl rfl (hD 4 36 (by kernel_rfl)) (eq_false_of hb)) (exec_move (.tmp 15) _ rfl (hE 15 (.int .i64 (m2 : Int)) (by kernel_rfl) (by kernel_rfl))) rfl)) ?_
    refine fsteps_cons 8 rfl (fun a u hE hD hk => f_unless ((!tA)) rfl rfl rfl (hD 4 36 (by kernel_rfl)) (fun hb => f_call (o := ⟨some 39, _, _, _, _, _⟩) 16 #[.pointer (some ⟨pt, 0, none⟩), .int .i64 (m2 : Int)] rfl (wanted_b rfl rfl (hD 4 36 (by kernel_rfl)) (eq_false_of hb)) (exec_call 16 _ [.tmp 37, .tmp 38] _ [.pointer (some ⟨pt, 0, none⟩), .int .i64 (m2 : Int)] Tryd.func16 (by kernel_rfl) (by kernel_rfl) rfl (show [a.eval (.tmp 37), a.eval (.tmp 38)] = [.pointer (some ⟨pt, 0, none⟩), .int .i64 (m2 : Int)] from (by rw [show a.eval (.tmp 37) = .pointer (some ⟨pt, 0, none⟩) from ((hD 5 37 (by kernel_rfl)).1 hb), show a.eval (.tmp 38) = .int .i64 (m2 : Int) from ((hD 6 38 (by kernel_rfl)).1 hb)] <;> rfl)) u) (there_is (T_4.out.kept hk) HTB.out))) ?_
    refine fsteps_cons 9 rfl (fun a u hE hD hk => f_unless ((!tA)) rfl rfl rfl (hD 4 36 (by kernel_rfl)) (fun hb => f_val (o := ⟨some 40, _, _, _, _, _⟩) (.bool (!tB)) rfl (wanted_b rfl rfl (hD 4 36 (by kernel_rfl)) (eq_false_of hb)) (exec_not _ (.tmp 39) tB rfl ((hD 7 39 (by kernel_rfl)).1 hb)) rfl)) ?_
    refine sv 10 rfl rfl rfl (fun a u hE hD hk => exec_pickor (.tmp 36) (.const (.bool true)) (.tmp 40) ((!tA)) ((!tB)) rfl (hD 4 36 (by kernel_rfl)) rfl (fun hb2 => ((hD 8 40 (by kernel_rfl)).1 hb2))) ?_
    refine sv 11 rfl rfl rfl (fun a u hE hD hk => exec_move (.tmp 41) _ rfl (hD 9 41 (by kernel_rfl))) ?_
    refine fsteps_cons 12 rfl (fun a u hE hD hk => f_unless (((!tA) || (!tB))) rfl rfl rfl (hD 10 42 (by kernel_rfl)) (fun hb => f_val (o := ⟨some 43, _, _, _, _, _⟩) (.int .i64 (m1 : Int)) rfl (wanted_b rfl rfl (hD 10 42 (by kernel_rfl)) (eq_false_of hb)) (exec_move (.tmp 14) _ rfl (hE 14 (.int .i64 (m1 : Int)) (by kernel_rfl) (by kernel_rfl))) rfl)) ?_
    refine fsteps_cons 13 rfl (fun a u hE hD hk => f_unless (((!tA) || (!tB))) rfl rfl rfl (hD 10 42 (by kernel_rfl)) (fun hb => f_val (o := ⟨some 44, _, _, _, _, _⟩) (.pointer (some ⟨g11, m1 * 37, none⟩)) rfl (wanted_b rfl rfl (hD 10 42 (by kernel_rfl)) (eq_false_of hb)) (exec_ixA (.tmp 11) (.tmp 43) (g11) m1 ((m1 : Int)) rfl (hE 11 (.pointer (some ⟨g11, 0, none⟩)) (by kernel_rfl) (by kernel_rfl)) ((hD 11 43 (by kernel_rfl)).1 hb) (by first | rfl | omega) (hm1lt)) rfl)) ?_
    refine fsteps_cons 14 rfl (fun a u hE hD hk => f_unless (((!tA) || (!tB))) rfl rfl rfl (hD 10 42 (by kernel_rfl)) (fun hb => f_val (o := ⟨some 45, _, _, _, _, _⟩) (.pointer (some ⟨g11, m1 * 37, none⟩)) rfl (wanted_b rfl rfl (hD 10 42 (by kernel_rfl)) (eq_false_of hb)) (exec_fldo 35 0 0 (.tmp 44) (g11) (m1 * 37) (m1 * 37) rfl ((hD 12 44 (by kernel_rfl)).1 hb) (by kernel_rfl) rfl) rfl)) ?_
    refine fsteps_cons 15 rfl (fun a u hE hD hk => f_unless (((!tA) || (!tB))) rfl rfl rfl (hD 10 42 (by kernel_rfl)) (fun hb => f_val (o := ⟨some 46, _, _, _, _, _⟩) (.int .i64 x.firm) rfl (wanted_b rfl rfl (hD 10 42 (by kernel_rfl)) (eq_false_of hb)) (exec_loadi 3 Tryd.underlying3 (.tmp 45) ⟨g11, m1 * 37, none⟩ (.int .i64 x.firm) rfl ((hD 13 45 (by kernel_rfl)).1 hb) ((range_kept (HAX0.out) hk) 0 _ rfl)) rfl)) ?_
    refine fsteps_cons 16 rfl (fun a u hE hD hk => f_unless (((!tA) || (!tB))) rfl rfl rfl (hD 10 42 (by kernel_rfl)) (fun hb => f_val (o := ⟨some 47, _, _, _, _, _⟩) (.int .i64 (m2 : Int)) rfl (wanted_b rfl rfl (hD 10 42 (by kernel_rfl)) (eq_false_of hb)) (exec_move (.tmp 15) _ rfl (hE 15 (.int .i64 (m2 : Int)) (by kernel_rfl) (by kernel_rfl))) rfl)) ?_
    refine fsteps_cons 17 rfl (fun a u hE hD hk => f_unless (((!tA) || (!tB))) rfl rfl rfl (hD 10 42 (by kernel_rfl)) (fun hb => f_val (o := ⟨some 48, _, _, _, _, _⟩) (.pointer (some ⟨g11, m2 * 37, none⟩)) rfl (wanted_b rfl rfl (hD 10 42 (by kernel_rfl)) (eq_false_of hb)) (exec_ixA (.tmp 11) (.tmp 47) (g11) m2 ((m2 : Int)) rfl (hE 11 (.pointer (some ⟨g11, 0, none⟩)) (by kernel_rfl) (by kernel_rfl)) ((hD 15 47 (by kernel_rfl)).1 hb) (by first | rfl | omega) (hm2lt)) rfl)) ?_
    refine fsteps_cons 18 rfl (fun a u hE hD hk => f_unless (((!tA) || (!tB))) rfl rfl rfl (hD 10 42 (by kernel_rfl)) (fun hb => f_val (o := ⟨some 49, _, _, _, _, _⟩) (.pointer (some ⟨g11, m2 * 37, none⟩)) rfl (wanted_b rfl rfl (hD 10 42 (by kernel_rfl)) (eq_false_of hb)) (exec_fldo 35 0 0 (.tmp 48) (g11) (m2 * 37) (m2 * 37) rfl ((hD 16 48 (by kernel_rfl)).1 hb) (by kernel_rfl) rfl) rfl)) ?_
    refine fsteps_cons 19 rfl (fun a u hE hD hk => f_unless (((!tA) || (!tB))) rfl rfl rfl (hD 10 42 (by kernel_rfl)) (fun hb => f_val (o := ⟨some 50, _, _, _, _, _⟩) (.int .i64 y.firm) rfl (wanted_b rfl rfl (hD 10 42 (by kernel_rfl)) (eq_false_of hb)) (exec_loadi 3 Tryd.underlying3 (.tmp 49) ⟨g11, m2 * 37, none⟩ (.int .i64 y.firm) rfl ((hD 17 49 (by kernel_rfl)).1 hb) ((range_kept (HAY0.out) hk) 0 _ rfl)) rfl)) ?_
    refine fsteps_cons 20 rfl (fun a u hE hD hk => f_unless (((!tA) || (!tB))) rfl rfl rfl (hD 10 42 (by kernel_rfl)) (fun hb => f_val (o := ⟨some 51, _, _, _, _, _⟩) (.bool (decide ((x.firm : Int) = (y.firm : Int)))) rfl (wanted_b rfl rfl (hD 10 42 (by kernel_rfl)) (eq_false_of hb)) (exec_eqn (p := x.firm) (q := y.firm) rfl ((hD 14 46 (by kernel_rfl)).1 hb) ((hD 18 50 (by kernel_rfl)).1 hb)) rfl)) ?_
    refine sv 21 rfl rfl rfl (fun a u hE hD hk => exec_pickor (.tmp 42) (.const (.bool true)) (.tmp 51) (((!tA) || (!tB))) ((decide ((x.firm : Int) = (y.firm : Int)))) rfl (hD 10 42 (by kernel_rfl)) rfl (fun hb2 => ((hD 19 51 (by kernel_rfl)).1 hb2))) ?_
    refine sv 22 rfl rfl rfl (fun a u hE hD hk => exec_move (.tmp 52) _ rfl (hD 20 52 (by kernel_rfl))) ?_
    refine fsteps_cons 23 rfl (fun a u hE hD hk => f_unless ((((!tA) || (!tB)) || (decide ((x.firm : Int) = (y.firm : Int))))) rfl rfl rfl (hD 21 53 (by kernel_rfl)) (fun hb => f_val (o := ⟨some 54, _, _, _, _, _⟩) (.int .i64 (m1 : Int)) rfl (wanted_b rfl rfl (hD 21 53 (by kernel_rfl)) (eq_false_of hb)) (exec_move (.tmp 14) _ rfl (hE 14 (.int .i64 (m1 : Int)) (by kernel_rfl) (by kernel_rfl))) rfl)) ?_
    refine fsteps_cons 24 rfl (fun a u hE hD hk => f_unless ((((!tA) || (!tB)) || (decide ((x.firm : Int) = (y.firm : Int))))) rfl rfl rfl (hD 21 53 (by kernel_rfl)) (fun hb => f_val (o := ⟨some 55, _, _, _, _, _⟩) (.pointer (some ⟨g11, m1 * 37, none⟩)) rfl (wanted_b rfl rfl (hD 21 53 (by kernel_rfl)) (eq_false_of hb)) (exec_ixA (.tmp 11) (.tmp 54) (g11) m1 ((m1 : Int)) rfl (hE 11 (.pointer (some ⟨g11, 0, none⟩)) (by kernel_rfl) (by kernel_rfl)) ((hD 22 54 (by kernel_rfl)).1 hb) (by first | rfl | omega) (hm1lt)) rfl)) ?_
    refine fsteps_cons 25 rfl (fun a u hE hD hk => f_unless ((((!tA) || (!tB)) || (decide ((x.firm : Int) = (y.firm : Int))))) rfl rfl rfl (hD 21 53 (by kernel_rfl)) (fun hb => f_val (o := ⟨some 56, _, _, _, _, _⟩) (.pointer (some ⟨g11, m1 * 37 + 2, none⟩)) rfl (wanted_b rfl rfl (hD 21 53 (by kernel_rfl)) (eq_false_of hb)) (exec_fldo 35 2 2 (.tmp 55) (g11) (m1 * 37) (m1 * 37 + 2) rfl ((hD 23 55 (by kernel_rfl)).1 hb) (by kernel_rfl) rfl) rfl)) ?_
    refine fsteps_cons 26 rfl (fun a u hE hD hk => f_unless ((((!tA) || (!tB)) || (decide ((x.firm : Int) = (y.firm : Int))))) rfl rfl rfl (hD 21 53 (by kernel_rfl)) (fun hb => f_val (o := ⟨some 57, _, _, _, _, _⟩) (.int .i64 x.roles) rfl (wanted_b rfl rfl (hD 21 53 (by kernel_rfl)) (eq_false_of hb)) (exec_loadi 3 Tryd.underlying3 (.tmp 56) ⟨g11, m1 * 37 + 2, none⟩ (.int .i64 x.roles) rfl ((hD 24 56 (by kernel_rfl)).1 hb) ((range_kept (HAX0.out) hk) 2 _ rfl)) rfl)) ?_
    refine fsteps_cons 27 rfl (fun a u hE hD hk => f_unless ((((!tA) || (!tB)) || (decide ((x.firm : Int) = (y.firm : Int))))) rfl rfl rfl (hD 21 53 (by kernel_rfl)) (fun hb => f_val (o := ⟨some 58, _, _, _, _, _⟩) (.int .i64 (anI x.roles 8)) rfl (wanted_b rfl rfl (hD 21 53 (by kernel_rfl)) (eq_false_of hb)) (exec_andI (.tmp 57) (.const (.int .i64 8)) _ _ x.roles 8 rfl ((hD 25 57 (by kernel_rfl)).1 hb) rfl) rfl)) ?_
    refine fsteps_cons 28 rfl (fun a u hE hD hk => f_unless ((((!tA) || (!tB)) || (decide ((x.firm : Int) = (y.firm : Int))))) rfl rfl rfl (hD 21 53 (by kernel_rfl)) (fun hb => f_val (o := ⟨some 59, _, _, _, _, _⟩) (.bool (decide (((anI x.roles 8) : Int) ≠ (0 : Int)))) rfl (wanted_b rfl rfl (hD 21 53 (by kernel_rfl)) (eq_false_of hb)) (exec_nen (p := (anI x.roles 8)) (q := 0) rfl ((hD 26 58 (by kernel_rfl)).1 hb) rfl) rfl)) ?_
    refine fsteps_cons 29 rfl (fun a u hE hD hk => f_as (show (((((!tA) || (!tB)) || (decide ((x.firm : Int) = (y.firm : Int)))) || (decide (((anI x.roles 8) : Int) ≠ (0 : Int)))) : Bool) = C from HC.out) (f_val (o := ⟨some 60, _, _, _, _, _⟩) (.bool ((((!tA) || (!tB)) || (decide ((x.firm : Int) = (y.firm : Int)))) || (decide (((anI x.roles 8) : Int) ≠ (0 : Int))))) rfl (wanted_none rfl _) (exec_pickor (.tmp 53) (.const (.bool true)) (.tmp 59) ((((!tA) || (!tB)) || (decide ((x.firm : Int) = (y.firm : Int))))) ((decide (((anI x.roles 8) : Int) ≠ (0 : Int)))) rfl (hD 21 53 (by kernel_rfl)) rfl (fun hb2 => ((hD 27 59 (by kernel_rfl)).1 hb2))) rfl)) ?_
    exact fsteps_nil
  intro gv v5 hV kv5
  rw [show dstsOf _ 29 = [32, 33, 34, 35, 36, 37, 38, 39, 40, 41, 42, 43, 44, 45, 46, 47, 48, 49, 50, 51, 52, 53, 54, 55, 56, 57, 58, 59, 60] by kernel_rfl]
  simp only [List.foldl_cons, List.foldl_nil, List.setIfInBounds_toArray, List.set_cons_succ, List.set_cons_zero, List.drop_succ_cons, List.drop_zero]
  rw [show gv 60 = .bool C from hV 28 60 (by kernel_rfl)]
  clear hV
  refine wpList_nil ?_
  have G_5 := Lib.hid (G_4.out.kept kv5)
  have R6_5 := Lib.hid (range_kept R6_4.out kv5)
  have T_5 := Lib.hid (T_4.out.kept kv5)
  have RX_5 := Lib.hid (range_kept HAX0.out kv5)
  have RY_5 := Lib.hid (range_kept HAY0.out kv5)
  have zs5 := kv5.size
  have kk5 := kk4.trans kv5
  clear G_4 R6_4 A11_4 T_4 HAX0 HAY0 kv5 kk4
  cases C with
  | true =>
    go_upto_region 7 with fail
    refine wp_text 2 [.eq (.bool true), .eq (.bool true)] rfl (by kernel_rfl) ?_ ?_
    · refine fsteps_cons 1 rfl (fun a u hE hD hk => f_call (o := ⟨some 61, _, _, _, _, _⟩) 3 #[] rfl (wanted_none rfl _) (exec_call 3 _ [] _ [] Tryd.func3 (by kernel_rfl) (by kernel_rfl) rfl rfl u) (HAR.out u (kk5.trans hk))) ?_
      refine sv 2 rfl rfl rfl (fun a u hE hD hk => exec_assign (.tmp 61) _ rfl (hD 0 61 (by kernel_rfl))) ?_
      exact fsteps_nil
    intro gv v6 hV kv6
    rw [show dstsOf _ 2 = [61, 10] by kernel_rfl]
    simp only [List.foldl_cons, List.foldl_nil, List.setIfInBounds_toArray, List.set_cons_succ, List.set_cons_zero, List.drop_succ_cons, List.drop_zero]
    rw [show gv 10 = .bool true from hV 1 10 (by kernel_rfl)]
    clear hV
    refine wpList_nil ?_
    have G_6 := Lib.hid (G_5.out.kept kv6)
    have R6_6 := Lib.hid (range_kept R6_5.out kv6)
    have T_6 := Lib.hid (T_5.out.kept kv6)
    have RX_6 := Lib.hid (range_kept RX_5.out kv6)
    have RY_6 := Lib.hid (range_kept RY_5.out kv6)
    have zs6 := kv6.size
    have kk6 := kk5.trans kv6
    clear G_5 R6_5 T_5 RX_5 RY_5 kv6 kk5
    go_wp2
    go_ret
    exact ⟨rfl, kk6⟩
  | false =>
    have hCf := HC.out
    rw [Bool.or_eq_false_iff, Bool.or_eq_false_iff, Bool.or_eq_false_iff] at hCf
    obtain ⟨⟨⟨hc1, hc2⟩, hc3⟩, hc4⟩ := hCf
    obtain rfl : tA = true := by simpa using hc1
    obtain rfl : tB = true := by simpa using hc2
    have hne : x.firm ≠ y.firm := of_decide_eq_false hc3
    have h8 : anI x.roles 8 = 0 := by simpa using hc4
    clear hc1 hc2 hc3 hc4 HC
    have hgx : X.get (m1 : Int) = x := by rw [get_in HTA.out]; exact HATx.out
    have hgy : X.get (m2 : Int) = y := by rw [get_in HTB.out]; exact HATy.out
    have hfx := (HOk.out.facts HTA.out).1
    have hfy := (HOk.out.facts HTB.out).1
    rw [hgx] at hfx
    rw [hgy] at hfy
    obtain ⟨i, hi, hxi⟩ : ∃ i : Nat, i < 8 ∧ x.firm = (i : Int) := ⟨x.firm.toNat, by omega, by omega⟩
    obtain ⟨Gr, hGr⟩ : ∃ G, p.gra i = G := ⟨_, rfl⟩
    have HAG : Hid (p.cells[16 + i]? = some (.int .i64 Gr)) := by show _ = _; rw [← hGr]; exact p.at_g hi
    obtain ⟨V1, hV1⟩ : ∃ V, allowM X p (m1 : Int) 3 0 (m2 : Int) = V := ⟨_, rfl⟩
    obtain ⟨V2, hV2⟩ : ∃ V, allowM X p (m1 : Int) 2 0 (m2 : Int) = V := ⟨_, rfl⟩
    obtain ⟨gb, hgb⟩ : ∃ b, decide ((anI (shI Gr y.firm) 1 : Int) = (1 : Int)) = b := ⟨_, rfl⟩
    have hn1 : V1 ≠ 0 := by rw [← hV1]; exact firms_susp (by rw [hgx, hgy]; exact hne) (by rw [hgx]; exact h8)
    have HF : Hid ((decide ((V1 : Int) = (0 : Int)) || (decide ((V2 : Int) = (0 : Int)) && !gb)) = false) := by
      show _ = _
      rw [decide_eq_false hn1, Bool.false_or, ← hgb]
      by_cases h0 : V2 = 0
      · have e := firms_can (X := X) (p := p) (n := (m1 : Int)) (inst := 0) (other := (m2 : Int)) (by rw [hgx, hgy]; exact hne) (by rw [hgx]; exact h8) (by rw [hV2]; exact h0)
        rw [hgx, hgy, hxi, Int.toNat_natCast, hGr] at e
        rw [decide_eq_true e]
        simp
      · rw [decide_eq_false h0, Bool.false_and]
    have HQ : Hid (∀ q : Phs, q.kil i = p.kil i → q.gra i = p.gra i → allowM X q (m1 : Int) 2 0 (m2 : Int) = V2) := fun q h1 h2 => by rw [← hV2]; exact firms_same (by rw [hgx, hxi, Int.toNat_natCast]; exact h1) (by rw [hgx, hxi, Int.toNat_natCast]; exact h2)
    have HV1 := Lib.hid hV1
    have HV2 := Lib.hid hV2
    have HGB := Lib.hid hgb
    clear hV1 hV2 hgb hGr hgx hgy hn1 h8
    go_upto_region 8 with fail
    refine wp_free 15 [.eq (.int .i64 (m1 : Int)), .eq (.pointer (some ⟨g11, m1 * 37, none⟩)), .eq (.pointer (some ⟨g11, m1 * 37, none⟩)), .eq (.int .i64 x.firm), .eq (.pointer (some ⟨g6, 16, none⟩)), .eq (.pointer (some ⟨g6, 16 + i, none⟩)), .eq (.int .i64 Gr), .eq (.int .i64 (m2 : Int)), .eq (.pointer (some ⟨g11, m2 * 37, none⟩)), .eq (.pointer (some ⟨g11, m2 * 37, none⟩)), .eq (.int .i64 y.firm), .eq (.int .i64 (shI Gr y.firm)), .eq (.int .i64 (anI (shI Gr y.firm) 1)), .eq (.bool gb), .eq (.bool gb)] (by kernel_rfl) rfl (by kernel_rfl) ?_ ?_
    · refine sv 1 rfl rfl rfl (fun a u hE hD hk => exec_move (.tmp 14) _ rfl (hE 14 (.int .i64 (m1 : Int)) (by kernel_rfl) (by kernel_rfl))) ?_
      refine sv 2 rfl rfl rfl (fun a u hE hD hk => exec_ixA (.tmp 11) (.tmp 62) (g11) m1 ((m1 : Int)) rfl (hE 11 (.pointer (some ⟨g11, 0, none⟩)) (by kernel_rfl) (by kernel_rfl)) (hD 0 62 (by kernel_rfl)) (by first | rfl | omega) (hm1lt)) ?_
      refine sv 3 rfl rfl rfl (fun a u hE hD hk => exec_fldo 35 0 0 (.tmp 63) (g11) (m1 * 37) (m1 * 37) rfl (hD 1 63 (by kernel_rfl)) (by kernel_rfl) rfl) ?_
      refine sv 4 rfl rfl rfl (fun a u hE hD hk => exec_loadi 3 Tryd.underlying3 (.tmp 64) ⟨g11, m1 * 37, none⟩ (.int .i64 x.firm) rfl (hD 2 64 (by kernel_rfl)) ((range_kept (RX_5.out) hk) 0 _ rfl)) ?_
      refine sv 5 rfl rfl rfl (fun a u hE hD hk => exec_fldo 29 2 16 (.tmp 6) (g6) (0) (16) rfl (hE 6 (.pointer (some ⟨g6, 0, none⟩)) (by kernel_rfl) (by kernel_rfl)) (by kernel_rfl) rfl) ?_
      refine sv 6 rfl rfl rfl (fun a u hE hD hk => exec_ixC 27 3 8 (.tmp 66) (.tmp 65) g6 16 (16 + i) i x.firm rfl Tryd.underlying27 (by kernel_rfl) (hD 4 66 (by kernel_rfl)) (hD 3 65 (by kernel_rfl)) hxi hi rfl) ?_
      refine sv 7 rfl rfl rfl (fun a u hE hD hk => exec_loadi 3 Tryd.underlying3 (.tmp 67) ⟨g6, 16 + i, none⟩ (.int .i64 Gr) rfl (hD 5 67 (by kernel_rfl)) (by have h_ := range_kept R6_5.out hk (16 + i) _ HAG.out; rwa [Nat.zero_add] at h_)) ?_
      refine sv 8 rfl rfl rfl (fun a u hE hD hk => exec_move (.tmp 15) _ rfl (hE 15 (.int .i64 (m2 : Int)) (by kernel_rfl) (by kernel_rfl))) ?_
      refine sv 9 rfl rfl rfl (fun a u hE hD hk => exec_ixA (.tmp 11) (.tmp 69) (g11) m2 ((m2 : Int)) rfl (hE 11 (.pointer (some ⟨g11, 0, none⟩)) (by kernel_rfl) (by kernel_rfl)) (hD 7 69 (by kernel_rfl)) (by first | rfl | omega) (hm2lt)) ?_
      refine sv 10 rfl rfl rfl (fun a u hE hD hk => exec_fldo 35 0 0 (.tmp 70) (g11) (m2 * 37) (m2 * 37) rfl (hD 8 70 (by kernel_rfl)) (by kernel_rfl) rfl) ?_
      refine sv 11 rfl rfl rfl (fun a u hE hD hk => exec_loadi 3 Tryd.underlying3 (.tmp 71) ⟨g11, m2 * 37, none⟩ (.int .i64 y.firm) rfl (hD 9 71 (by kernel_rfl)) ((range_kept (RY_5.out) hk) 0 _ rfl)) ?_
      refine sv 12 rfl rfl rfl (fun a u hE hD hk => exec_shrI (.tmp 68) (.tmp 72) _ _ Gr y.firm rfl (hD 6 68 (by kernel_rfl)) (hD 10 72 (by kernel_rfl)) hfy.1) ?_
      refine sv 13 rfl rfl rfl (fun a u hE hD hk => exec_andI (.tmp 73) (.const (.int .i64 1)) _ _ (shI Gr y.firm) 1 rfl (hD 11 73 (by kernel_rfl)) rfl) ?_
      refine fsteps_cons 14 rfl (fun a u hE hD hk => f_as (show ((decide (((anI (shI Gr y.firm) 1) : Int) = (1 : Int))) : Bool) = gb from HGB.out) (f_val (o := ⟨some 75, _, _, _, _, _⟩) (.bool (decide (((anI (shI Gr y.firm) 1) : Int) = (1 : Int)))) rfl (wanted_none rfl _) (exec_eqn (p := (anI (shI Gr y.firm) 1)) (q := 1) rfl (hD 12 74 (by kernel_rfl)) rfl) rfl)) ?_
      refine sv 15 rfl rfl rfl (fun a u hE hD hk => exec_assign (.tmp 75) _ rfl (hD 13 75 (by kernel_rfl))) ?_
      exact fsteps_nil
    intro gv v6 hV kv6
    rw [show dstsOf _ 15 = [62, 63, 64, 65, 66, 67, 68, 69, 70, 71, 72, 73, 74, 75, 16] by kernel_rfl]
    simp only [List.foldl_cons, List.foldl_nil, List.setIfInBounds_toArray, List.set_cons_succ, List.set_cons_zero, List.drop_succ_cons, List.drop_zero]
    rw [show gv 16 = .bool gb from hV 14 16 (by kernel_rfl)]
    clear hV
    refine wpList_nil ?_
    have G_6 := Lib.hid (G_5.out.kept kv6)
    have R6_6 := Lib.hid (range_kept R6_5.out kv6)
    have T_6 := Lib.hid (T_5.out.kept kv6)
    have RX_6 := Lib.hid (range_kept RX_5.out kv6)
    have zs6 := kv6.size
    have kk6 := kk5.trans kv6
    clear G_5 R6_5 T_5 RX_5 RY_5 kv6 kk5
    go_upto_region 9 with fail
    refine wp_text 18 [.eq (.pointer (some ⟨pt, 0, none⟩)), .eq (p.v), .eq (.int .i64 (m1 : Int)), .eq (.int .i64 (m2 : Int)), .eq (.int .i64 V1), .eq (.bool (decide ((V1 : Int) = (0 : Int)))), .eq (.bool (decide ((V1 : Int) = (0 : Int)))), .cond (!(decide ((V1 : Int) = (0 : Int)))) (.eq (.pointer (some ⟨pt, 0, none⟩))), .cond (!(decide ((V1 : Int) = (0 : Int)))) (.eq (p.v)), .cond (!(decide ((V1 : Int) = (0 : Int)))) (.eq (.int .i64 (m1 : Int))), .cond (!(decide ((V1 : Int) = (0 : Int)))) (.eq (.int .i64 (m2 : Int))), .cond (!(decide ((V1 : Int) = (0 : Int)))) (.eq (.int .i64 V2)), .cond (!(decide ((V1 : Int) = (0 : Int)))) (.eq (.bool (decide ((V2 : Int) = (0 : Int))))), .cond (!(decide ((V1 : Int) = (0 : Int)))) (.eq (.bool (decide ((V2 : Int) = (0 : Int))))), .cond ((!(decide ((V1 : Int) = (0 : Int)))) && (decide ((V2 : Int) = (0 : Int)))) (.eq (.bool gb)), .cond ((!(decide ((V1 : Int) = (0 : Int)))) && (decide ((V2 : Int) = (0 : Int)))) (.eq (.bool (!gb))), .cond (!(decide ((V1 : Int) = (0 : Int)))) (.eq (.bool ((decide ((V2 : Int) = (0 : Int))) && (!gb)))), .eq (.bool false)] rfl (by kernel_rfl) ?_ ?_
    · refine sv 1 rfl rfl rfl (fun a u hE hD hk => exec_move (.tmp 12) _ rfl (hE 12 (.pointer (some ⟨pt, 0, none⟩)) (by kernel_rfl) (by kernel_rfl))) ?_
      refine sv 2 rfl rfl rfl (fun a u hE hD hk => exec_ldS 29 _ (.tmp 6) (g6) (0) (p.cells) rfl (hE 6 (.pointer (some ⟨g6, 0, none⟩)) (by kernel_rfl) (by kernel_rfl)) (range_kept R6_6.out hk) Tryd.underlying29 (by rw [p.len24]; exact szP)) ?_
      refine sv 3 rfl rfl rfl (fun a u hE hD hk => exec_move (.tmp 14) _ rfl (hE 14 (.int .i64 (m1 : Int)) (by kernel_rfl) (by kernel_rfl))) ?_
      refine sv 4 rfl rfl rfl (fun a u hE hD hk => exec_move (.tmp 15) _ rfl (hE 15 (.int .i64 (m2 : Int)) (by kernel_rfl) (by kernel_rfl))) ?_
      refine fsteps_cons 5 rfl (fun a u hE hD hk => f_call (o := ⟨some 80, _, _, _, _, _⟩) 10 #[.pointer (some ⟨pt, 0, none⟩), p.v, .int .i64 (m1 : Int), .int .i64 3, .int .i64 0, .int .i64 (m2 : Int)] rfl (wanted_none rfl _) (exec_call 10 _ [.tmp 76, .tmp 77, .tmp 78, .const (.int .i64 3), .const (.int .i64 0), .tmp 79] _ [.pointer (some ⟨pt, 0, none⟩), p.v, .int .i64 (m1 : Int), .int .i64 3, .int .i64 0, .int .i64 (m2 : Int)] Tryd.func10 (by kernel_rfl) (by kernel_rfl) rfl (show [a.eval (.tmp 76), a.eval (.tmp 77), a.eval (.tmp 78), a.eval (.const (.int .i64 3)), a.eval (.const (.int .i64 0)), a.eval (.tmp 79)] = [.pointer (some ⟨pt, 0, none⟩), p.v, .int .i64 (m1 : Int), .int .i64 3, .int .i64 0, .int .i64 (m2 : Int)] from (by rw [show a.eval (.tmp 76) = .pointer (some ⟨pt, 0, none⟩) from (hD 0 76 (by kernel_rfl)), show a.eval (.tmp 77) = p.v from (hD 1 77 (by kernel_rfl)), show a.eval (.tmp 78) = .int .i64 (m1 : Int) from (hD 2 78 (by kernel_rfl)), show a.eval (.tmp 79) = .int .i64 (m2 : Int) from (hD 3 79 (by kernel_rfl))] <;> rfl)) u) (may_at (G_6.out.kept hk) (T_6.out.kept hk) HOk.out HV1.out)) ?_
      refine sv 6 rfl rfl rfl (fun a u hE hD hk => exec_eqn (p := V1) (q := 0) rfl (hD 4 80 (by kernel_rfl)) rfl) ?_
      refine sv 7 rfl rfl rfl (fun a u hE hD hk => exec_move (.tmp 81) _ rfl (hD 5 81 (by kernel_rfl))) ?_
      refine fsteps_cons 8 rfl (fun a u hE hD hk => f_unless ((decide ((V1 : Int) = (0 : Int)))) rfl rfl rfl (hD 6 82 (by kernel_rfl)) (fun hb => f_val (o := ⟨some 83, _, _, _, _, _⟩) (.pointer (some ⟨pt, 0, none⟩)) rfl (wanted_b rfl rfl (hD 6 82 (by kernel_rfl)) (eq_false_of hb)) (exec_move (.tmp 12) _ rfl (hE 12 (.pointer (some ⟨pt, 0, none⟩)) (by kernel_rfl) (by kernel_rfl))) rfl)) ?_
      refine fsteps_cons 9 rfl (fun a u hE hD hk => f_unless ((decide ((V1 : Int) = (0 : Int)))) rfl rfl rfl (hD 6 82 (by kernel_rfl)) (fun hb => f_val (o := ⟨some 84, _, _, _, _, _⟩) (p.v) rfl (wanted_b rfl rfl (hD 6 82 (by kernel_rfl)) (eq_false_of hb)) (exec_ldS 29 _ (.tmp 6) (g6) (0) (p.cells) rfl (hE 6 (.pointer (some ⟨g6, 0, none⟩)) (by kernel_rfl) (by kernel_rfl)) (range_kept R6_6.out hk) Tryd.underlying29 (by rw [p.len24]; exact szP)) rfl)) ?_
      refine fsteps_cons 10 rfl (fun a u hE hD hk => f_unless ((decide ((V1 : Int) = (0 : Int)))) rfl rfl rfl (hD 6 82 (by kernel_rfl)) (fun hb => f_val (o := ⟨some 85, _, _, _, _, _⟩) (.int .i64 (m1 : Int)) rfl (wanted_b rfl rfl (hD 6 82 (by kernel_rfl)) (eq_false_of hb)) (exec_move (.tmp 14) _ rfl (hE 14 (.int .i64 (m1 : Int)) (by kernel_rfl) (by kernel_rfl))) rfl)) ?_
      refine fsteps_cons 11 rfl (fun a u hE hD hk => f_unless ((decide ((V1 : Int) = (0 : Int)))) rfl rfl rfl (hD 6 82 (by kernel_rfl)) (fun hb => f_val (o := ⟨some 86, _, _, _, _, _⟩) (.int .i64 (m2 : Int)) rfl (wanted_b rfl rfl (hD 6 82 (by kernel_rfl)) (eq_false_of hb)) (exec_move (.tmp 15) _ rfl (hE 15 (.int .i64 (m2 : Int)) (by kernel_rfl) (by kernel_rfl))) rfl)) ?_
      refine fsteps_cons 12 rfl (fun a u hE hD hk => f_unless ((decide ((V1 : Int) = (0 : Int)))) rfl rfl rfl (hD 6 82 (by kernel_rfl)) (fun hb => f_call (o := ⟨some 87, _, _, _, _, _⟩) 10 #[.pointer (some ⟨pt, 0, none⟩), p.v, .int .i64 (m1 : Int), .int .i64 2, .int .i64 0, .int .i64 (m2 : Int)] rfl (wanted_b rfl rfl (hD 6 82 (by kernel_rfl)) (eq_false_of hb)) (exec_call 10 _ [.tmp 83, .tmp 84, .tmp 85, .const (.int .i64 2), .const (.int .i64 0), .tmp 86] _ [.pointer (some ⟨pt, 0, none⟩), p.v, .int .i64 (m1 : Int), .int .i64 2, .int .i64 0, .int .i64 (m2 : Int)] Tryd.func10 (by kernel_rfl) (by kernel_rfl) rfl (show [a.eval (.tmp 83), a.eval (.tmp 84), a.eval (.tmp 85), a.eval (.const (.int .i64 2)), a.eval (.const (.int .i64 0)), a.eval (.tmp 86)] = [.pointer (some ⟨pt, 0, none⟩), p.v, .int .i64 (m1 : Int), .int .i64 2, .int .i64 0, .int .i64 (m2 : Int)] from (by rw [show a.eval (.tmp 83) = .pointer (some ⟨pt, 0, none⟩) from ((hD 7 83 (by kernel_rfl)).1 hb), show a.eval (.tmp 84) = p.v from ((hD 8 84 (by kernel_rfl)).1 hb), show a.eval (.tmp 85) = .int .i64 (m1 : Int) from ((hD 9 85 (by kernel_rfl)).1 hb), show a.eval (.tmp 86) = .int .i64 (m2 : Int) from ((hD 10 86 (by kernel_rfl)).1 hb)] <;> rfl)) u) (may_at (G_6.out.kept hk) (T_6.out.kept hk) HOk.out HV2.out))) ?_
      refine fsteps_cons 13 rfl (fun a u hE hD hk => f_unless ((decide ((V1 : Int) = (0 : Int)))) rfl rfl rfl (hD 6 82 (by kernel_rfl)) (fun hb => f_val (o := ⟨some 88, _, _, _, _, _⟩) (.bool (decide ((V2 : Int) = (0 : Int)))) rfl (wanted_b rfl rfl (hD 6 82 (by kernel_rfl)) (eq_false_of hb)) (exec_eqn (p := V2) (q := 0) rfl ((hD 11 87 (by kernel_rfl)).1 hb) rfl) rfl)) ?_
      refine fsteps_cons 14 rfl (fun a u hE hD hk => f_unless ((decide ((V1 : Int) = (0 : Int)))) rfl rfl rfl (hD 6 82 (by kernel_rfl)) (fun hb => f_val (o := ⟨some 89, _, _, _, _, _⟩) (.bool (decide ((V2 : Int) = (0 : Int)))) rfl (wanted_b rfl rfl (hD 6 82 (by kernel_rfl)) (eq_false_of hb)) (exec_move (.tmp 88) _ rfl ((hD 12 88 (by kernel_rfl)).1 hb)) rfl)) ?_
      refine fsteps_cons 15 rfl (fun a u hE hD hk => f_if2 (!(decide ((V1 : Int) = (0 : Int)))) ((decide ((V2 : Int) = (0 : Int)))) rfl rfl rfl (hD 13 89 (by kernel_rfl)) (fun hb => f_val (o := ⟨some 90, _, _, _, _, _⟩) (.bool gb) rfl (wanted_b rfl rfl ((hD 13 89 (by kernel_rfl)).1 (and_l hb)) (eq_true_of (and_r hb))) (exec_move (.tmp 16) _ rfl (hE 16 (.bool gb) (by kernel_rfl) (by kernel_rfl))) rfl)) ?_
      refine fsteps_cons 16 rfl (fun a u hE hD hk => f_if2 (!(decide ((V1 : Int) = (0 : Int)))) ((decide ((V2 : Int) = (0 : Int)))) rfl rfl rfl (hD 13 89 (by kernel_rfl)) (fun hb => f_val (o := ⟨some 91, _, _, _, _, _⟩) (.bool (!gb)) rfl (wanted_b rfl rfl ((hD 13 89 (by kernel_rfl)).1 (and_l hb)) (eq_true_of (and_r hb))) (exec_not _ (.tmp 90) gb rfl ((hD 14 90 (by kernel_rfl)).1 hb)) rfl)) ?_
      refine fsteps_cons 17 rfl (fun a u hE hD hk => f_unless ((decide ((V1 : Int) = (0 : Int)))) rfl rfl rfl (hD 6 82 (by kernel_rfl)) (fun hb => f_val (o := ⟨some 92, _, _, _, _, _⟩) (.bool ((decide ((V2 : Int) = (0 : Int))) && (!gb))) rfl (wanted_b rfl rfl (hD 6 82 (by kernel_rfl)) (eq_false_of hb)) (exec_pickand (.tmp 89) (.tmp 91) (.const (.bool false)) ((decide ((V2 : Int) = (0 : Int)))) ((!gb)) rfl ((hD 13 89 (by kernel_rfl)).1 hb) (fun hb2 => ((hD 15 91 (by kernel_rfl)).1 (and_mk hb hb2))) rfl) rfl)) ?_
      refine fsteps_cons 18 rfl (fun a u hE hD hk => f_as (show (((decide ((V1 : Int) = (0 : Int))) || ((decide ((V2 : Int) = (0 : Int))) && (!gb))) : Bool) = false from HF.out) (f_val (o := ⟨some 93, _, _, _, _, _⟩) (.bool ((decide ((V1 : Int) = (0 : Int))) || ((decide ((V2 : Int) = (0 : Int))) && (!gb)))) rfl (wanted_none rfl _) (exec_pickor (.tmp 82) (.const (.bool true)) (.tmp 92) ((decide ((V1 : Int) = (0 : Int)))) (((decide ((V2 : Int) = (0 : Int))) && (!gb))) rfl (hD 6 82 (by kernel_rfl)) rfl (fun hb2 => ((hD 16 92 (by kernel_rfl)).1 hb2))) rfl)) ?_
      exact fsteps_nil
    intro gv v7 hV kv7
    rw [show dstsOf _ 18 = [76, 77, 78, 79, 80, 81, 82, 83, 84, 85, 86, 87, 88, 89, 90, 91, 92, 93] by kernel_rfl]
    simp only [List.foldl_cons, List.foldl_nil, List.setIfInBounds_toArray, List.set_cons_succ, List.set_cons_zero, List.drop_succ_cons, List.drop_zero]
    rw [show gv 93 = .bool false from hV 17 93 (by kernel_rfl)]
    clear hV
    refine wpList_nil ?_
    have G_7 := Lib.hid (G_6.out.kept kv7)
    have R6_7 := Lib.hid (range_kept R6_6.out kv7)
    have T_7 := Lib.hid (T_6.out.kept kv7)
    have RX_7 := Lib.hid (range_kept RX_6.out kv7)
    have zs7 := kv7.size
    have kk7 := kk6.trans kv7
    clear G_6 R6_6 T_6 RX_6 kv7 kk6
    go_upto_region 11 with fail
    refine wp_text 1 [.eq (p.v)] rfl (by kernel_rfl) ?_ ?_
    · refine sv 1 rfl rfl rfl (fun a u hE hD hk => exec_ldS 29 _ (.tmp 6) (g6) (0) (p.cells) rfl (hE 6 (.pointer (some ⟨g6, 0, none⟩)) (by kernel_rfl) (by kernel_rfl)) (range_kept R6_7.out hk) Tryd.underlying29 (by rw [p.len24]; exact szP)) ?_
      exact fsteps_nil
    intro gv wa hV ka
    rw [show dstsOf _ 1 = [94] by kernel_rfl]
    simp only [List.foldl_cons, List.foldl_nil, List.setIfInBounds_toArray, List.set_cons_succ, List.set_cons_zero, List.drop_succ_cons, List.drop_zero]
    rw [show gv 94 = p.v from hV 0 94 (by kernel_rfl)]
    clear hV
    refine l_new (o := ⟨some 17, _, _, _, _, _⟩) (.pointer (some ⟨wa.heap.size, 0, none⟩)) (wa.alloc (.cells zeroP.cells.toArray 29)) rfl (exec_alc 29 zeroP.cells rfl zPh) ?_
    have hN17 := Blk.new wa 29 zeroP.cells
    have ka0 : Kept wa (wa.alloc (.cells zeroP.cells.toArray 29)) := (Keep.refl _ wa).alloc _
    have sa0 : (wa.alloc (.cells zeroP.cells.toArray 29)).heap.size = wa.heap.size + 1 := by simp
    generalize wa.alloc (.cells zeroP.cells.toArray 29) = wa0 at hN17 ka0 sa0 ⊢
    simp only [Act.put, List.setIfInBounds_toArray, List.set_cons_succ, List.set_cons_zero]
    refine l_setS (o := ⟨none, _, _, _, _, _⟩) 29 wa.heap.size 29 zeroP.cells p.cells (.tmp 17) (.tmp 94) rfl rfl (by kernel_rfl) (by kernel_rfl) (hN17) (by rw [Phs.len24]; exact szP) (by rw [Phs.len24, Phs.len24]) (Phs.one _) ?_
    intro ws0 hC17 ks0 ss0
    simp only [Act.put]
    refine wpList_nil ?_
    obtain ⟨g17, hg17⟩ : ∃ a, wa.heap.size = a := ⟨_, rfl⟩
    have zka := ka.size
    rw [hg17] at hC17 ks0 ⊢
    simp only [hg17] at sa0 zka
    have B17 := Lib.hid (hC17)
    have kz : Kept v7 ws0 := (ka.trans ka0).trans' ks0 (by omega)
    have zg17 : g17 < ws0.heap.size := by have h_ := hC17.lt; omega
    have zb17 : v7.heap.size ≤ g17 := by omega
    clear hN17 hC17 ka0 ks0 ss0 sa0 ka zka hg17
    have G_8 := Lib.hid (G_7.out.kept kz)
    have R6_8 := Lib.hid (range_kept R6_7.out kz)
    have T_8 := Lib.hid (T_7.out.kept kz)
    have RX_8 := Lib.hid (range_kept RX_7.out kz)
    have zs8 := kz.size
    have kk8 := kk7.trans kz
    clear G_7 R6_7 T_7 RX_7 kz kk7
    go_upto_region 12 with fail
    refine wp_text 3 [.eq (.int .i64 firm), .eq (.int .i64 (j : Int)), .eq (.int .i64 (j : Int))] rfl (by kernel_rfl) ?_ ?_
    · refine sv 1 rfl rfl rfl (fun a u hE hD hk => exec_move (.tmp 4) _ rfl (hE 4 (.int .i64 firm) (by kernel_rfl) (by kernel_rfl))) ?_
      refine fsteps_cons 2 rfl (fun a u hE hD hk => f_call (o := ⟨some 96, _, _, _, _, _⟩) 15 #[.int .i64 firm, .int .i64 0, .int .i64 7] rfl (wanted_none rfl _) (exec_call 15 _ [.tmp 95, .const (.int .i64 0), .const (.int .i64 7)] _ [.int .i64 firm, .int .i64 0, .int .i64 7] Tryd.func15 (by kernel_rfl) (by kernel_rfl) rfl (show [a.eval (.tmp 95), a.eval (.const (.int .i64 0)), a.eval (.const (.int .i64 7))] = [.int .i64 firm, .int .i64 0, .int .i64 7] from (by rw [show a.eval (.tmp 95) = .int .i64 firm from (hD 0 95 (by kernel_rfl))] <;> rfl)) u) (HWj.out u)) ?_
      refine sv 3 rfl rfl rfl (fun a u hE hD hk => exec_assign (.tmp 96) _ rfl (hD 1 96 (by kernel_rfl))) ?_
      exact fsteps_nil
    intro gv v9 hV kv9
    rw [show dstsOf _ 3 = [95, 96, 18] by kernel_rfl]
    simp only [List.foldl_cons, List.foldl_nil, List.setIfInBounds_toArray, List.set_cons_succ, List.set_cons_zero, List.drop_succ_cons, List.drop_zero]
    rw [show gv 18 = .int .i64 (j : Int) from hV 2 18 (by kernel_rfl)]
    clear hV
    refine wpList_nil ?_
    have G_9 := Lib.hid (G_8.out.kept kv9)
    have R6_9 := Lib.hid (range_kept R6_8.out kv9)
    have T_9 := Lib.hid (T_8.out.kept kv9)
    have RX_9 := Lib.hid (range_kept RX_8.out kv9)
    have B17_9 := Lib.hid (B17.out.kept kv9)
    have zs9 := kv9.size
    have kk9 := kk8.trans kv9
    clear G_8 R6_8 T_8 RX_8 B17 kv9 kk8
    by_cases hj : (j : Int) = x.firm
    · skip
      have HV3 : Hid (allowM X p (m1 : Int) 2 0 (m2 : Int) = V2) := HV2
      go_upto_region 13 with fail
      refine wp_text 6 [.eq (.int .i64 (j : Int)), .eq (.int .i64 (m1 : Int)), .eq (.pointer (some ⟨g11, m1 * 37, none⟩)), .eq (.pointer (some ⟨g11, m1 * 37, none⟩)), .eq (.int .i64 x.firm), .eq (.bool false)] rfl (by kernel_rfl) ?_ ?_
      · refine sv 1 rfl rfl rfl (fun a u hE hD hk => exec_move (.tmp 18) _ rfl (hE 18 (.int .i64 (j : Int)) (by kernel_rfl) (by kernel_rfl))) ?_
        refine sv 2 rfl rfl rfl (fun a u hE hD hk => exec_move (.tmp 14) _ rfl (hE 14 (.int .i64 (m1 : Int)) (by kernel_rfl) (by kernel_rfl))) ?_
        refine sv 3 rfl rfl rfl (fun a u hE hD hk => exec_ixA (.tmp 11) (.tmp 98) (g11) m1 ((m1 : Int)) rfl (hE 11 (.pointer (some ⟨g11, 0, none⟩)) (by kernel_rfl) (by kernel_rfl)) (hD 1 98 (by kernel_rfl)) (by first | rfl | omega) (hm1lt)) ?_
        refine sv 4 rfl rfl rfl (fun a u hE hD hk => exec_fldo 35 0 0 (.tmp 99) (g11) (m1 * 37) (m1 * 37) rfl (hD 2 99 (by kernel_rfl)) (by kernel_rfl) rfl) ?_
        refine sv 5 rfl rfl rfl (fun a u hE hD hk => exec_loadi 3 Tryd.underlying3 (.tmp 100) ⟨g11, m1 * 37, none⟩ (.int .i64 x.firm) rfl (hD 3 100 (by kernel_rfl)) ((range_kept (RX_9.out) hk) 0 _ rfl)) ?_
        refine fsteps_cons 6 rfl (fun a u hE hD hk => f_as (show ((decide (((j : Int) : Int) ≠ (x.firm : Int))) : Bool) = false from decide_eq_false (by simpa using hj)) (f_val (o := ⟨some 102, _, _, _, _, _⟩) (.bool (decide (((j : Int) : Int) ≠ (x.firm : Int)))) rfl (wanted_none rfl _) (exec_nen (p := (j : Int)) (q := x.firm) rfl (hD 0 97 (by kernel_rfl)) (hD 4 101 (by kernel_rfl))) rfl)) ?_
        exact fsteps_nil
      intro gv v10 hV kv10
      rw [show dstsOf _ 6 = [97, 98, 99, 100, 101, 102] by kernel_rfl]
      simp only [List.foldl_cons, List.foldl_nil, List.setIfInBounds_toArray, List.set_cons_succ, List.set_cons_zero, List.drop_succ_cons, List.drop_zero]
      rw [show gv 102 = .bool false from hV 5 102 (by kernel_rfl)]
      clear hV
      refine wpList_nil ?_
      have G_10 := Lib.hid (G_9.out.kept kv10)
      have R6_10 := Lib.hid (range_kept R6_9.out kv10)
      have T_10 := Lib.hid (T_9.out.kept kv10)
      have B17_10 := Lib.hid (B17_9.out.kept kv10)
      have zs10 := kv10.size
      have kk10 := kk9.trans kv10
      clear G_9 R6_9 T_9 RX_9 B17_9 kv10 kk9
      go_upto_region 15 with fail
      refine wp_free 15 [.eq (.pointer (some ⟨pt, 0, none⟩)), .eq (p.v), .eq (.int .i64 (m1 : Int)), .eq (.int .i64 (m2 : Int)), .eq (.int .i64 V2), .eq (.pointer (some ⟨pt, 0, none⟩)), .eq (p.v), .eq (.int .i64 (m1 : Int)), .eq (.int .i64 (m2 : Int)), .eq (.int .i64 V2), .eq (.bool true), .eq (.bool true), .eq (.bool true), .eq (.bool true), .eq (.bool true)] (by kernel_rfl) rfl (by kernel_rfl) ?_ ?_
      · refine sv 1 rfl rfl rfl (fun a u hE hD hk => exec_move (.tmp 12) _ rfl (hE 12 (.pointer (some ⟨pt, 0, none⟩)) (by kernel_rfl) (by kernel_rfl))) ?_
        refine sv 2 rfl rfl rfl (fun a u hE hD hk => exec_ldS 29 _ (.tmp 6) (g6) (0) (p.cells) rfl (hE 6 (.pointer (some ⟨g6, 0, none⟩)) (by kernel_rfl) (by kernel_rfl)) (range_kept R6_10.out hk) Tryd.underlying29 (by rw [p.len24]; exact szP)) ?_
        refine sv 3 rfl rfl rfl (fun a u hE hD hk => exec_move (.tmp 14) _ rfl (hE 14 (.int .i64 (m1 : Int)) (by kernel_rfl) (by kernel_rfl))) ?_
        refine sv 4 rfl rfl rfl (fun a u hE hD hk => exec_move (.tmp 15) _ rfl (hE 15 (.int .i64 (m2 : Int)) (by kernel_rfl) (by kernel_rfl))) ?_
        refine fsteps_cons 5 rfl (fun a u hE hD hk => f_call (o := ⟨some 110, _, _, _, _, _⟩) 10 #[.pointer (some ⟨pt, 0, none⟩), p.v, .int .i64 (m1 : Int), .int .i64 2, .int .i64 0, .int .i64 (m2 : Int)] rfl (wanted_none rfl _) (exec_call 10 _ [.tmp 106, .tmp 107, .tmp 108, .const (.int .i64 2), .const (.int .i64 0), .tmp 109] _ [.pointer (some ⟨pt, 0, none⟩), p.v, .int .i64 (m1 : Int), .int .i64 2, .int .i64 0, .int .i64 (m2 : Int)] Tryd.func10 (by kernel_rfl) (by kernel_rfl) rfl (show [a.eval (.tmp 106), a.eval (.tmp 107), a.eval (.tmp 108), a.eval (.const (.int .i64 2)), a.eval (.const (.int .i64 0)), a.eval (.tmp 109)] = [.pointer (some ⟨pt, 0, none⟩), p.v, .int .i64 (m1 : Int), .int .i64 2, .int .i64 0, .int .i64 (m2 : Int)] from (by rw [show a.eval (.tmp 106) = .pointer (some ⟨pt, 0, none⟩) from (hD 0 106 (by kernel_rfl)), show a.eval (.tmp 107) = p.v from (hD 1 107 (by kernel_rfl)), show a.eval (.tmp 108) = .int .i64 (m1 : Int) from (hD 2 108 (by kernel_rfl)), show a.eval (.tmp 109) = .int .i64 (m2 : Int) from (hD 3 109 (by kernel_rfl))] <;> rfl)) u) (may_at (G_10.out.kept hk) (T_10.out.kept hk) HOk.out HV2.out)) ?_
        refine sv 6 rfl rfl rfl (fun a u hE hD hk => exec_move (.tmp 12) _ rfl (hE 12 (.pointer (some ⟨pt, 0, none⟩)) (by kernel_rfl) (by kernel_rfl))) ?_
        refine sv 7 rfl rfl rfl (fun a u hE hD hk => exec_ldS 29 _ (.tmp 17) (g17) (0) (p.cells) rfl (hE 17 (.pointer (some ⟨g17, 0, none⟩)) (by kernel_rfl) (by kernel_rfl)) (range_kept (blk_range B17_10.out) hk) Tryd.underlying29 (by rw [p.len24]; exact szP)) ?_
        refine sv 8 rfl rfl rfl (fun a u hE hD hk => exec_move (.tmp 14) _ rfl (hE 14 (.int .i64 (m1 : Int)) (by kernel_rfl) (by kernel_rfl))) ?_
        refine sv 9 rfl rfl rfl (fun a u hE hD hk => exec_move (.tmp 15) _ rfl (hE 15 (.int .i64 (m2 : Int)) (by kernel_rfl) (by kernel_rfl))) ?_
        refine fsteps_cons 10 rfl (fun a u hE hD hk => f_call (o := ⟨some 115, _, _, _, _, _⟩) 10 #[.pointer (some ⟨pt, 0, none⟩), p.v, .int .i64 (m1 : Int), .int .i64 2, .int .i64 0, .int .i64 (m2 : Int)] rfl (wanted_none rfl _) (exec_call 10 _ [.tmp 111, .tmp 112, .tmp 113, .const (.int .i64 2), .const (.int .i64 0), .tmp 114] _ [.pointer (some ⟨pt, 0, none⟩), p.v, .int .i64 (m1 : Int), .int .i64 2, .int .i64 0, .int .i64 (m2 : Int)] Tryd.func10 (by kernel_rfl) (by kernel_rfl) rfl (show [a.eval (.tmp 111), a.eval (.tmp 112), a.eval (.tmp 113), a.eval (.const (.int .i64 2)), a.eval (.const (.int .i64 0)), a.eval (.tmp 114)] = [.pointer (some ⟨pt, 0, none⟩), p.v, .int .i64 (m1 : Int), .int .i64 2, .int .i64 0, .int .i64 (m2 : Int)] from (by rw [show a.eval (.tmp 111) = .pointer (some ⟨pt, 0, none⟩) from (hD 5 111 (by kernel_rfl)), show a.eval (.tmp 112) = p.v from (hD 6 112 (by kernel_rfl)), show a.eval (.tmp 113) = .int .i64 (m1 : Int) from (hD 7 113 (by kernel_rfl)), show a.eval (.tmp 114) = .int .i64 (m2 : Int) from (hD 8 114 (by kernel_rfl))] <;> rfl)) u) (may_at (G_10.out.kept hk) (T_10.out.kept hk) HOk.out HV3.out)) ?_
        refine fsteps_cons 11 rfl (fun a u hE hD hk => f_as (show ((decide ((V2 : Int) = (V2 : Int))) : Bool) = true from decide_eq_true rfl) (f_val (o := ⟨some 116, _, _, _, _, _⟩) (.bool (decide ((V2 : Int) = (V2 : Int)))) rfl (wanted_none rfl _) (exec_eqn (p := V2) (q := V2) rfl (hD 4 110 (by kernel_rfl)) (hD 9 115 (by kernel_rfl))) rfl)) ?_
        refine sv 12 rfl rfl rfl (fun a u hE hD hk => exec_move (.tmp 116) _ rfl (hD 10 116 (by kernel_rfl))) ?_
        refine fsteps_cons 13 rfl (fun a u hE hD hk => f_call (o := ⟨some 118, _, _, _, _, _⟩) 3 #[] rfl (wanted_at (b := true) true rfl rfl (hD 11 117 (by kernel_rfl))) (exec_call 3 _ [] _ [] Tryd.func3 (by kernel_rfl) (by kernel_rfl) rfl rfl u) (HAR.out u (kk10.trans hk))) ?_
        refine sv 14 rfl rfl rfl (fun a u hE hD hk => exec_pick (.tmp 117) (.tmp 118) (.const (.bool false)) (.bool true) rfl (hD 11 117 (by kernel_rfl)) (hD 12 118 (by kernel_rfl))) ?_
        refine sv 15 rfl rfl rfl (fun a u hE hD hk => exec_assign (.tmp 119) _ rfl (hD 13 119 (by kernel_rfl))) ?_
        exact fsteps_nil
      intro gv v11 hV kv11
      rw [show dstsOf _ 15 = [106, 107, 108, 109, 110, 111, 112, 113, 114, 115, 116, 117, 118, 119, 10] by kernel_rfl]
      simp only [List.foldl_cons, List.foldl_nil, List.setIfInBounds_toArray, List.set_cons_succ, List.set_cons_zero, List.drop_succ_cons, List.drop_zero]
      rw [show gv 10 = .bool true from hV 14 10 (by kernel_rfl)]
      clear hV
      refine wpList_nil ?_
      have G_11 := Lib.hid (G_10.out.kept kv11)
      have R6_11 := Lib.hid (range_kept R6_10.out kv11)
      have T_11 := Lib.hid (T_10.out.kept kv11)
      have B17_11 := Lib.hid (B17_10.out.kept kv11)
      have zs11 := kv11.size
      have kk11 := kk10.trans kv11
      clear G_10 R6_10 T_10 B17_10 kv11 kk10
      go_wp2
      go_ret
      exact ⟨rfl, kk11⟩
    · skip
      have hij : j ≠ i := fun e => hj (by rw [hxi, e])
      obtain ⟨Q, hQ⟩ : ∃ Q, p.setG j 255 = Q := ⟨_, rfl⟩
      have HV3 : Hid (allowM X Q (m1 : Int) 2 0 (m2 : Int) = V2) := HQ.out Q (by rw [← hQ]; rfl) (by rw [← hQ]; exact p.gra_setG hij 255)
      have HQc : Hid (p.cells.set (16 + j) (.int .i64 255) = Q.cells) := by show _ = _; rw [← hQ]; exact p.set_g 255 hjlt
      clear hQ
      go_upto_region 13 with fail
      refine wp_text 6 [.eq (.int .i64 (j : Int)), .eq (.int .i64 (m1 : Int)), .eq (.pointer (some ⟨g11, m1 * 37, none⟩)), .eq (.pointer (some ⟨g11, m1 * 37, none⟩)), .eq (.int .i64 x.firm), .eq (.bool true)] rfl (by kernel_rfl) ?_ ?_
      · refine sv 1 rfl rfl rfl (fun a u hE hD hk => exec_move (.tmp 18) _ rfl (hE 18 (.int .i64 (j : Int)) (by kernel_rfl) (by kernel_rfl))) ?_
        refine sv 2 rfl rfl rfl (fun a u hE hD hk => exec_move (.tmp 14) _ rfl (hE 14 (.int .i64 (m1 : Int)) (by kernel_rfl) (by kernel_rfl))) ?_
        refine sv 3 rfl rfl rfl (fun a u hE hD hk => exec_ixA (.tmp 11) (.tmp 98) (g11) m1 ((m1 : Int)) rfl (hE 11 (.pointer (some ⟨g11, 0, none⟩)) (by kernel_rfl) (by kernel_rfl)) (hD 1 98 (by kernel_rfl)) (by first | rfl | omega) (hm1lt)) ?_
        refine sv 4 rfl rfl rfl (fun a u hE hD hk => exec_fldo 35 0 0 (.tmp 99) (g11) (m1 * 37) (m1 * 37) rfl (hD 2 99 (by kernel_rfl)) (by kernel_rfl) rfl) ?_
        refine sv 5 rfl rfl rfl (fun a u hE hD hk => exec_loadi 3 Tryd.underlying3 (.tmp 100) ⟨g11, m1 * 37, none⟩ (.int .i64 x.firm) rfl (hD 3 100 (by kernel_rfl)) ((range_kept (RX_9.out) hk) 0 _ rfl)) ?_
        refine fsteps_cons 6 rfl (fun a u hE hD hk => f_as (show ((decide (((j : Int) : Int) ≠ (x.firm : Int))) : Bool) = true from decide_eq_true (by simpa using hj)) (f_val (o := ⟨some 102, _, _, _, _, _⟩) (.bool (decide (((j : Int) : Int) ≠ (x.firm : Int)))) rfl (wanted_none rfl _) (exec_nen (p := (j : Int)) (q := x.firm) rfl (hD 0 97 (by kernel_rfl)) (hD 4 101 (by kernel_rfl))) rfl)) ?_
        exact fsteps_nil
      intro gv v10 hV kv10
      rw [show dstsOf _ 6 = [97, 98, 99, 100, 101, 102] by kernel_rfl]
      simp only [List.foldl_cons, List.foldl_nil, List.setIfInBounds_toArray, List.set_cons_succ, List.set_cons_zero, List.drop_succ_cons, List.drop_zero]
      rw [show gv 102 = .bool true from hV 5 102 (by kernel_rfl)]
      clear hV
      refine wpList_nil ?_
      have G_10 := Lib.hid (G_9.out.kept kv10)
      have R6_10 := Lib.hid (range_kept R6_9.out kv10)
      have T_10 := Lib.hid (T_9.out.kept kv10)
      have B17_10 := Lib.hid (B17_9.out.kept kv10)
      have zs10 := kv10.size
      have kk10 := kk9.trans kv10
      clear G_9 R6_9 T_9 RX_9 B17_9 kv10 kk9
      go_upto_region 14 with fail
      refine wp_text 3 [.eq (.int .i64 (j : Int)), .eq (.pointer (some ⟨g17, 16, none⟩)), .eq (.pointer (some ⟨g17, 16 + j, none⟩))] rfl (by kernel_rfl) ?_ ?_
      · refine sv 1 rfl rfl rfl (fun a u hE hD hk => exec_move (.tmp 18) _ rfl (hE 18 (.int .i64 (j : Int)) (by kernel_rfl) (by kernel_rfl))) ?_
        refine sv 2 rfl rfl rfl (fun a u hE hD hk => exec_fldo 29 2 16 (.tmp 17) (g17) (0) (16) rfl (hE 17 (.pointer (some ⟨g17, 0, none⟩)) (by kernel_rfl) (by kernel_rfl)) (by kernel_rfl) rfl) ?_
        refine sv 3 rfl rfl rfl (fun a u hE hD hk => exec_ixC 27 3 8 (.tmp 104) (.tmp 103) g17 16 (16 + j) j (j : Int) rfl Tryd.underlying27 (by kernel_rfl) (hD 1 104 (by kernel_rfl)) (hD 0 103 (by kernel_rfl)) rfl hjlt rfl) ?_
        exact fsteps_nil
      intro gv wa hV ka
      rw [show dstsOf _ 3 = [103, 104, 105] by kernel_rfl]
      simp only [List.foldl_cons, List.foldl_nil, List.setIfInBounds_toArray, List.set_cons_succ, List.set_cons_zero, List.drop_succ_cons, List.drop_zero]
      rw [show gv 105 = .pointer (some ⟨g17, 16 + j, none⟩) from hV 2 105 (by kernel_rfl)]
      clear hV
      refine l_putN (o := ⟨none, _, _, _, _, _⟩) g17 (16 + j) 29 p.cells Q.cells 255 (.tmp 105) (.const (.int .i64 255)) rfl rfl (by kernel_rfl) rfl (B17_10.out.kept ka) (by rw [Phs.len24]; omega) HQc.out ?_
      intro wS hS kS sS
      simp only [Act.put]
      refine wpList_nil ?_
      have zka := ka.size
      have zkS := kS.size
      have G_11 := Lib.hid ((G_10.out.kept ka).keep kS (by omega))
      have R6_11 := Lib.hid (range_keep (range_kept R6_10.out ka) kS (by omega))
      have T_11 := Lib.hid ((T_10.out.kept ka).keep kS (by omega))
      have B17_11 := Lib.hid hS
      have zs11 : v10.heap.size ≤ wS.heap.size := by omega
      have kk11 : Kept w wS := (kk10.trans ka).trans' kS (by omega)
      clear G_10 R6_10 T_10 B17_10 kk10 hS kS sS ka zka zkS
      obtain ⟨v11w, hv11w⟩ : ∃ z, wS = z := ⟨_, rfl⟩
      rw [hv11w] at G_11 R6_11 T_11 B17_11 zs11 kk11 ⊢
      clear hv11w
      go_upto_region 15 with fail
      refine wp_free 15 [.eq (.pointer (some ⟨pt, 0, none⟩)), .eq (p.v), .eq (.int .i64 (m1 : Int)), .eq (.int .i64 (m2 : Int)), .eq (.int .i64 V2), .eq (.pointer (some ⟨pt, 0, none⟩)), .eq (Q.v), .eq (.int .i64 (m1 : Int)), .eq (.int .i64 (m2 : Int)), .eq (.int .i64 V2), .eq (.bool true), .eq (.bool true), .eq (.bool true), .eq (.bool true), .eq (.bool true)] (by kernel_rfl) rfl (by kernel_rfl) ?_ ?_
      · refine sv 1 rfl rfl rfl (fun a u hE hD hk => exec_move (.tmp 12) _ rfl (hE 12 (.pointer (some ⟨pt, 0, none⟩)) (by kernel_rfl) (by kernel_rfl))) ?_
        refine sv 2 rfl rfl rfl (fun a u hE hD hk => exec_ldS 29 _ (.tmp 6) (g6) (0) (p.cells) rfl (hE 6 (.pointer (some ⟨g6, 0, none⟩)) (by kernel_rfl) (by kernel_rfl)) (range_kept R6_11.out hk) Tryd.underlying29 (by rw [p.len24]; exact szP)) ?_
        refine sv 3 rfl rfl rfl (fun a u hE hD hk => exec_move (.tmp 14) _ rfl (hE 14 (.int .i64 (m1 : Int)) (by kernel_rfl) (by kernel_rfl))) ?_
        refine sv 4 rfl rfl rfl (fun a u hE hD hk => exec_move (.tmp 15) _ rfl (hE 15 (.int .i64 (m2 : Int)) (by kernel_rfl) (by kernel_rfl))) ?_
        refine fsteps_cons 5 rfl (fun a u hE hD hk => f_call (o := ⟨some 110, _, _, _, _, _⟩) 10 #[.pointer (some ⟨pt, 0, none⟩), p.v, .int .i64 (m1 : Int), .int .i64 2, .int .i64 0, .int .i64 (m2 : Int)] rfl (wanted_none rfl _) (exec_call 10 _ [.tmp 106, .tmp 107, .tmp 108, .const (.int .i64 2), .const (.int .i64 0), .tmp 109] _ [.pointer (some ⟨pt, 0, none⟩), p.v, .int .i64 (m1 : Int), .int .i64 2, .int .i64 0, .int .i64 (m2 : Int)] Tryd.func10 (by kernel_rfl) (by kernel_rfl) rfl (show [a.eval (.tmp 106), a.eval (.tmp 107), a.eval (.tmp 108), a.eval (.const (.int .i64 2)), a.eval (.const (.int .i64 0)), a.eval (.tmp 109)] = [.pointer (some ⟨pt, 0, none⟩), p.v, .int .i64 (m1 : Int), .int .i64 2, .int .i64 0, .int .i64 (m2 : Int)] from (by rw [show a.eval (.tmp 106) = .pointer (some ⟨pt, 0, none⟩) from (hD 0 106 (by kernel_rfl)), show a.eval (.tmp 107) = p.v from (hD 1 107 (by kernel_rfl)), show a.eval (.tmp 108) = .int .i64 (m1 : Int) from (hD 2 108 (by kernel_rfl)), show a.eval (.tmp 109) = .int .i64 (m2 : Int) from (hD 3 109 (by kernel_rfl))] <;> rfl)) u) (may_at (G_11.out.kept hk) (T_11.out.kept hk) HOk.out HV2.out)) ?_
        refine sv 6 rfl rfl rfl (fun a u hE hD hk => exec_move (.tmp 12) _ rfl (hE 12 (.pointer (some ⟨pt, 0, none⟩)) (by kernel_rfl) (by kernel_rfl))) ?_
        refine sv 7 rfl rfl rfl (fun a u hE hD hk => exec_ldS 29 _ (.tmp 17) (g17) (0) (Q.cells) rfl (hE 17 (.pointer (some ⟨g17, 0, none⟩)) (by kernel_rfl) (by kernel_rfl)) (range_kept (blk_range B17_11.out) hk) Tryd.underlying29 (by rw [Q.len24]; exact szP)) ?_
        refine sv 8 rfl rfl rfl (fun a u hE hD hk => exec_move (.tmp 14) _ rfl (hE 14 (.int .i64 (m1 : Int)) (by kernel_rfl) (by kernel_rfl))) ?_
        refine sv 9 rfl rfl rfl (fun a u hE hD hk => exec_move (.tmp 15) _ rfl (hE 15 (.int .i64 (m2 : Int)) (by kernel_rfl) (by kernel_rfl))) ?_
        refine fsteps_cons 10 rfl (fun a u hE hD hk => f_call (o := ⟨some 115, _, _, _, _, _⟩) 10 #[.pointer (some ⟨pt, 0, none⟩), Q.v, .int .i64 (m1 : Int), .int .i64 2, .int .i64 0, .int .i64 (m2 : Int)] rfl (wanted_none rfl _) (exec_call 10 _ [.tmp 111, .tmp 112, .tmp 113, .const (.int .i64 2), .const (.int .i64 0), .tmp 114] _ [.pointer (some ⟨pt, 0, none⟩), Q.v, .int .i64 (m1 : Int), .int .i64 2, .int .i64 0, .int .i64 (m2 : Int)] Tryd.func10 (by kernel_rfl) (by kernel_rfl) rfl (show [a.eval (.tmp 111), a.eval (.tmp 112), a.eval (.tmp 113), a.eval (.const (.int .i64 2)), a.eval (.const (.int .i64 0)), a.eval (.tmp 114)] = [.pointer (some ⟨pt, 0, none⟩), Q.v, .int .i64 (m1 : Int), .int .i64 2, .int .i64 0, .int .i64 (m2 : Int)] from (by rw [show a.eval (.tmp 111) = .pointer (some ⟨pt, 0, none⟩) from (hD 5 111 (by kernel_rfl)), show a.eval (.tmp 112) = Q.v from (hD 6 112 (by kernel_rfl)), show a.eval (.tmp 113) = .int .i64 (m1 : Int) from (hD 7 113 (by kernel_rfl)), show a.eval (.tmp 114) = .int .i64 (m2 : Int) from (hD 8 114 (by kernel_rfl))] <;> rfl)) u) (may_at (G_11.out.kept hk) (T_11.out.kept hk) HOk.out HV3.out)) ?_
        refine fsteps_cons 11 rfl (fun a u hE hD hk => f_as (show ((decide ((V2 : Int) = (V2 : Int))) : Bool) = true from decide_eq_true rfl) (f_val (o := ⟨some 116, _, _, _, _, _⟩) (.bool (decide ((V2 : Int) = (V2 : Int)))) rfl (wanted_none rfl _) (exec_eqn (p := V2) (q := V2) rfl (hD 4 110 (by kernel_rfl)) (hD 9 115 (by kernel_rfl))) rfl)) ?_
        refine sv 12 rfl rfl rfl (fun a u hE hD hk => exec_move (.tmp 116) _ rfl (hD 10 116 (by kernel_rfl))) ?_
        refine fsteps_cons 13 rfl (fun a u hE hD hk => f_call (o := ⟨some 118, _, _, _, _, _⟩) 3 #[] rfl (wanted_at (b := true) true rfl rfl (hD 11 117 (by kernel_rfl))) (exec_call 3 _ [] _ [] Tryd.func3 (by kernel_rfl) (by kernel_rfl) rfl rfl u) (HAR.out u (kk11.trans hk))) ?_
        refine sv 14 rfl rfl rfl (fun a u hE hD hk => exec_pick (.tmp 117) (.tmp 118) (.const (.bool false)) (.bool true) rfl (hD 11 117 (by kernel_rfl)) (hD 12 118 (by kernel_rfl))) ?_
        refine sv 15 rfl rfl rfl (fun a u hE hD hk => exec_assign (.tmp 119) _ rfl (hD 13 119 (by kernel_rfl))) ?_
        exact fsteps_nil
      intro gv v12 hV kv12
      rw [show dstsOf _ 15 = [106, 107, 108, 109, 110, 111, 112, 113, 114, 115, 116, 117, 118, 119, 10] by kernel_rfl]
      simp only [List.foldl_cons, List.foldl_nil, List.setIfInBounds_toArray, List.set_cons_succ, List.set_cons_zero, List.drop_succ_cons, List.drop_zero]
      rw [show gv 10 = .bool true from hV 14 10 (by kernel_rfl)]
      clear hV
      refine wpList_nil ?_
      have G_12 := Lib.hid (G_11.out.kept kv12)
      have R6_12 := Lib.hid (range_kept R6_11.out kv12)
      have T_12 := Lib.hid (T_11.out.kept kv12)
      have B17_12 := Lib.hid (B17_11.out.kept kv12)
      have zs12 := kv12.size
      have kk12 := kk11.trans kv12
      clear G_11 R6_11 T_11 B17_11 kv12 kk11
      go_wp2
      go_ret
      exact ⟨rfl, kk12⟩
end Go.Proofs.YtfoamgljfdnloaaDoor
