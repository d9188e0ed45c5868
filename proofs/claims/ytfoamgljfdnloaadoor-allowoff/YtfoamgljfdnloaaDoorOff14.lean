/-
  The contract of jobberlaw14.AllowOff: who is off may do nothing; of a firm that is killed nobody trades or suspends; nobody trades where it is halted; it answers true. Condition: the table of rules as its text lays it.
-/
import Derived.Test.YtfoamgljfdnloaaDoorRuns14
import Derived.Test.YtfoamgljfdnloaaDoorSched4
namespace Go.Proofs.YtfoamgljfdnloaaDoor
open Go.RowKit
set_option linter.unusedVariables false
set_option maxRecDepth 100000

theorem allow_off {X : Trds} {p : Phs} {n d inst other : Int} (h : X.there n = true → (X.get n).off = true) : allowM X p n d inst other ≠ 0 := by
  unfold allowM
  by_cases ht : X.there n = true
  · rw [if_pos ht]
    have e : outB (X.get n) p d = true := by unfold outB; rw [h ht, Bool.true_or]
    rw [if_pos e]
    omega
  · rw [if_neg ht]; omega
theorem allow_killed {X : Trds} {p : Phs} {n d inst other : Int} (hd : d = 1 ∨ d = 3) (h : X.there n = true → p.kil (X.get n).firm.toNat = true) : allowM X p n d inst other ≠ 0 := by
  unfold allowM
  by_cases ht : X.there n = true
  · rw [if_pos ht]
    have e : outB (X.get n) p d = true := by
      unfold outB
      rw [h ht, decide_eq_true (show d ≠ 2 by omega), decide_eq_true (show d ≠ 4 by omega)]
      simp
    rw [if_pos e]
    omega
  · rw [if_neg ht]; omega
theorem allow_halted {X : Trds} {p : Phs} {n inst other : Int} (h : p.hal inst.toNat = true) : allowM X p n 1 inst other ≠ 0 := by
  unfold allowM
  by_cases ht : X.there n = true
  · rw [if_pos ht]
    by_cases h2 : outB (X.get n) p 1 = true
    · rw [if_pos h2]; omega
    · rw [if_neg h2, if_pos rfl]
      unfold tradeM
      rw [h]
      split
      · omega
      · split
        · omega
        · simp
  · rw [if_neg ht]; omega
theorem Trds.Ok.firm {X : Trds} (h : X.Ok) {i : Nat} (hi : i < 32) : 0 ≤ (X.at_ i).firm ∧ (X.at_ i).firm ≤ 7 := by
  cases ht : X.there (i : Int) with
  | true => have := (h.facts ht).1; rw [get_in ht] at this; exact this
  | false =>
    rw [there_in hi] at ht
    have hr : (X.at_ i).roles = 0 := by simpa using ht
    have hb := h i hi
    unfold Trd.bad Trd.may at hb
    rw [hr] at hb
    simp at hb
    rw [hb]
    decide
def Trds.shut (X : Trds) (k : Nat) : Trds := X.put k { X.at_ k with off := true }
theorem shut_at (X : Trds) {k : Nat} (hk : k < 32) : (X.shut k).at_ k = { X.at_ k with off := true } := by unfold Trds.shut; rw [Trds.at_put _ _ _ _ hk, if_pos rfl]
theorem shut_ok {X : Trds} (h : X.Ok) {k : Nat} (hk : k < 32) (hr : (X.at_ k).roles ≠ 0) : (X.shut k).Ok := by
  intro i hi
  unfold Trds.shut
  rw [Trds.at_put _ _ _ _ hk]
  split
  · have hb := h k hk
    unfold Trd.bad at hb ⊢
    have hz : X.at_ k ≠ zeroT := fun e => hr (by rw [e]; rfl)
    rw [decide_eq_true hz, Bool.true_and] at hb
    have e : ({ X.at_ k with off := true } : Trd).may = (X.at_ k).may := rfl
    rw [e, hb, Bool.and_false]
  · exact h i hi
theorem shut_off {X : Trds} {k : Nat} (hk : k < 32) (ht : (X.shut k).there (k : Int) = true) : ((X.shut k).get (k : Int)).off = true := by
  rw [get_in ht, shut_at X hk]
set_option maxRecDepth 100000 in
set_option maxHeartbeats 6400000 in
theorem allowOff_any (v : Value) (l : List Ab) (p : Phs) (n : Int) (d : Int) (inst : Int) (other : Int) (w : World) (hG : RulIn w) (hl : Abs w v l) : Calls Tryd.prog 7 #[v, p.v, .int .i64 n, .int .i64 d, .int .i64 inst, .int .i64 other] w fun e w' => e = .returned (.bool true) ∧ Kept w w' := by
  have HOk := Lib.hid (abs_good (l.take 40))
  have HBd := Lib.hid (bad_none HOk.out)
  have HX : Hid (∀ u, Kept w u → Gives 11 #[v] u (.eq (absL (l.take 40)).v)) := fun u hk => abs_any u v l (hl.kept hk)
  have HAR : Hid (∀ u, Kept w u → Gives 3 #[] u (.eq (.bool true))) := fun u hk => allowRuns_is u (hG.kept hk)
  have HG := Lib.hid hG
  generalize absL (l.take 40) = X at HOk HBd HX
  clear hl hG
  obtain ⟨b0, hb0⟩ : ∃ z, w.alloc (.cells p.cells.toArray 29) = z := ⟨_, rfl⟩
  have q0 : Kept w b0 := by rw [← hb0]; exact (Keep.refl _ _).alloc _
  have r0 : b0.rangeAt w.heap.size 0 p.cells := by rw [← hb0]; exact blk_range (Blk.new w 29 p.cells)
  have HB7 := Lib.hid (r0)
  have k0 := q0
  clear r0
  go_enter Tryd.func7, Tryd.ntmps7
  go_upto_region 0 with fail
  refine wp_region_lit ?_
  refine l_new (o := ⟨some 7, _, _, _, _, _⟩) (.pointer (some ⟨w.heap.size, 0, none⟩)) b0 rfl (by rw [← hb0]; exact exec_box 29 (.tmp 1) p.cells rfl (by kernel_rfl)) ?_
  simp only [Act.put, List.setIfInBounds_toArray, List.set_cons_succ, List.set_cons_zero]
  refine l_val (o := ⟨some 12, _, _, _, _, _⟩) (.bool false) rfl (exec_assign (.const (.bool false)) (.bool false) rfl (by kernel_rfl)) ?_
  simp only [Act.put, List.setIfInBounds_toArray, List.set_cons_succ, List.set_cons_zero]
  refine wpList_nil ?_
  obtain ⟨g7, hg7⟩ : ∃ g, w.heap.size = g := ⟨_, rfl⟩
  rw [hg7] at HB7 ⊢
  clear hg7 hb0 q0
  have G0 := Lib.hid (HG.out.kept k0)
  have zG := HG.out.lt
  have zs0 := k0.size
  have zl7 : g7 < b0.heap.size := World.block_lt_of_cell? b0 _ (HB7.out 0 _ (p.at_h (i := 0) (by omega)))
  clear HG
  obtain ⟨k, hk⟩ : ∃ k : Nat, wi n 0 31 = (k : Int) := ⟨(wi n 0 31).toNat, by have := wi_in n 0 31 (by omega); omega⟩
  have hklt : k < 32 := by have := wi_in n 0 31 (by omega); omega
  have HWk : Hid (∀ u, Gives 15 #[.int .i64 n, .int .i64 0, .int .i64 31] u (.eq (.int .i64 (k : Int)))) := fun u => by rw [← hk]; exact within_is n 0 31 u (by omega) (by omega) (by omega)
  clear hk
  obtain ⟨i, hi⟩ : ∃ k : Nat, wi inst 0 7 = (k : Int) := ⟨(wi inst 0 7).toNat, by have := wi_in inst 0 7 (by omega); omega⟩
  have hilt : i < 8 := by have := wi_in inst 0 7 (by omega); omega
  have HWi : Hid (∀ u, Gives 15 #[.int .i64 inst, .int .i64 0, .int .i64 7] u (.eq (.int .i64 (i : Int)))) := fun u => by rw [← hi]; exact within_is inst 0 7 u (by omega) (by omega) (by omega)
  clear hi
  obtain ⟨x, hx⟩ : ∃ x, X.at_ k = x := ⟨_, rfl⟩
  have hf8 := HOk.out.firm hklt
  rw [hx] at hf8
  obtain ⟨f, hf, hxf⟩ : ∃ f : Nat, f < 8 ∧ x.firm = (f : Int) := ⟨x.firm.toNat, by omega, by omega⟩
  have HAT := Lib.hid hx
  clear hx
  obtain ⟨Q1, hQ1⟩ : ∃ Q, p.setK f true = Q := ⟨_, rfl⟩
  obtain ⟨Q2, hQ2⟩ : ∃ Q, p.setH i true = Q := ⟨_, rfl⟩
  obtain ⟨V1, hV1⟩ : ∃ V, allowM X Q1 (k : Int) 1 (i : Int) (k : Int) = V := ⟨_, rfl⟩
  obtain ⟨V2, hV2⟩ : ∃ V, allowM X Q1 (k : Int) 3 0 other = V := ⟨_, rfl⟩
  obtain ⟨V3, hV3⟩ : ∃ V, allowM X Q2 (k : Int) 1 (i : Int) (k : Int) = V := ⟨_, rfl⟩
  have hkf : X.there (k : Int) = true → Q1.kil (X.get (k : Int)).firm.toNat = true := fun ht => by rw [get_in ht, HAT.out, hxf, Int.toNat_natCast, ← hQ1]; exact p.kil_setK hf true
  have hn1 : V1 ≠ 0 := by rw [← hV1]; exact allow_killed (.inl rfl) hkf
  have hn2 : V2 ≠ 0 := by rw [← hV2]; exact allow_killed (.inr rfl) hkf
  have hn3 : V3 ≠ 0 := by rw [← hV3]; exact allow_halted (by rw [Int.toNat_natCast, ← hQ2]; exact p.hal_setH hilt true)
  have HV1 := Lib.hid hV1
  have HV2 := Lib.hid hV2
  have HV3 := Lib.hid hV3
  have HQ1 : Hid (p.cells.set (8 + f) (.bool true) = Q1.cells) := by show _ = _; rw [← hQ1]; exact p.set_k true hf
  have HQ2 : Hid (p.cells.set i (.bool true) = Q2.cells) := by show _ = _; rw [← hQ2]; exact p.set_h true hilt
  clear hV1 hV2 hV3 hQ1 hQ2 hkf
  go_upto_region 1 with fail
  refine wp_text 2 [.eq (v), .eq (X.v)] rfl (by kernel_rfl) ?_ ?_
  · refine sv 1 rfl rfl rfl (fun a u hE hD hk => exec_move (.tmp 0) _ rfl (hE 0 (v) (by kernel_rfl) (by kernel_rfl))) ?_
    refine fsteps_cons 2 rfl (fun a u hE hD hk => f_call (o := ⟨some 23, _, _, _, _, _⟩) 11 #[v] rfl (wanted_none rfl _) (exec_call 11 _ [.tmp 22] _ [v] Tryd.func11 (by kernel_rfl) (by kernel_rfl) rfl (show [a.eval (.tmp 22)] = [v] from (by rw [show a.eval (.tmp 22) = v from (hD 0 22 (by kernel_rfl))] <;> rfl)) u) (HX.out u (k0.trans hk))) ?_
    exact fsteps_nil
  intro gv wa hV ka
  rw [show dstsOf _ 2 = [22, 23] by kernel_rfl]
  simp only [List.foldl_cons, List.foldl_nil, List.setIfInBounds_toArray, List.set_cons_succ, List.set_cons_zero, List.drop_succ_cons, List.drop_zero]
  rw [show gv 23 = X.v from hV 1 23 (by kernel_rfl)]
  clear hV
  refine l_new (o := ⟨some 13, _, _, _, _, _⟩) (.pointer (some ⟨wa.heap.size, 0, none⟩)) (wa.alloc (.cells zeroX.cells.toArray 36)) rfl (exec_alc 36 zeroX.cells rfl zX) ?_
  have hN13 := Blk.new wa 36 zeroX.cells
  have ka0 : Kept wa (wa.alloc (.cells zeroX.cells.toArray 36)) := (Keep.refl _ wa).alloc _
  have sa0 : (wa.alloc (.cells zeroX.cells.toArray 36)).heap.size = wa.heap.size + 1 := by simp
  generalize wa.alloc (.cells zeroX.cells.toArray 36) = wa0 at hN13 ka0 sa0 ⊢
  simp only [Act.put, List.setIfInBounds_toArray, List.set_cons_succ, List.set_cons_zero]
  refine l_setS (o := ⟨none, _, _, _, _, _⟩) 36 wa.heap.size 36 zeroX.cells X.cells (.tmp 13) (.tmp 23) rfl rfl (by kernel_rfl) (by kernel_rfl) (hN13) (by rw [Trds.len]; exact szX) (by rw [Trds.len, Trds.len]) (Trds.one _) ?_
  intro ws0 hC13 ks0 ss0
  simp only [Act.put]
  refine wpList_nil ?_
  obtain ⟨g13, hg13⟩ : ∃ a, wa.heap.size = a := ⟨_, rfl⟩
  have zka := ka.size
  rw [hg13] at hC13 ks0 ⊢
  simp only [hg13] at sa0 zka
  have A13 := Lib.hid (hC13)
  have kz : Kept b0 ws0 := (ka.trans ka0).trans' ks0 (by omega)
  have zg13 : g13 < ws0.heap.size := by have h_ := hC13.lt; omega
  have zb13 : b0.heap.size ≤ g13 := by omega
  clear hN13 hC13 ka0 ks0 ss0 sa0 ka zka hg13
  have G_1 := Lib.hid (G0.out.kept kz)
  have R7_1 := Lib.hid (range_kept HB7.out kz)
  have zs1 := kz.size
  have kk1 := k0.trans kz
  clear G0 HB7 kz k0
  go_upto_region 2 with fail
  refine wp_text 3 [.eq (.int .i64 n), .eq (.int .i64 (k : Int)), .eq (.int .i64 (k : Int))] rfl (by kernel_rfl) ?_ ?_
  · refine sv 1 rfl rfl rfl (fun a u hE hD hk => exec_move (.tmp 2) _ rfl (hE 2 (.int .i64 n) (by kernel_rfl) (by kernel_rfl))) ?_
    refine fsteps_cons 2 rfl (fun a u hE hD hk => f_call (o := ⟨some 25, _, _, _, _, _⟩) 15 #[.int .i64 n, .int .i64 0, .int .i64 31] rfl (wanted_none rfl _) (exec_call 15 _ [.tmp 24, .const (.int .i64 0), .const (.int .i64 31)] _ [.int .i64 n, .int .i64 0, .int .i64 31] Tryd.func15 (by kernel_rfl) (by kernel_rfl) rfl (show [a.eval (.tmp 24), a.eval (.const (.int .i64 0)), a.eval (.const (.int .i64 31))] = [.int .i64 n, .int .i64 0, .int .i64 31] from (by rw [show a.eval (.tmp 24) = .int .i64 n from (hD 0 24 (by kernel_rfl))] <;> rfl)) u) (HWk.out u)) ?_
    refine sv 3 rfl rfl rfl (fun a u hE hD hk => exec_assign (.tmp 25) _ rfl (hD 1 25 (by kernel_rfl))) ?_
    exact fsteps_nil
  intro gv v2 hV kv2
  rw [show dstsOf _ 3 = [24, 25, 14] by kernel_rfl]
  simp only [List.foldl_cons, List.foldl_nil, List.setIfInBounds_toArray, List.set_cons_succ, List.set_cons_zero, List.drop_succ_cons, List.drop_zero]
  rw [show gv 14 = .int .i64 (k : Int) from hV 2 14 (by kernel_rfl)]
  clear hV
  refine wpList_nil ?_
  have G_2 := Lib.hid (G_1.out.kept kv2)
  have R7_2 := Lib.hid (range_kept R7_1.out kv2)
  have A13_2 := Lib.hid (A13.out.kept kv2)
  have zs2 := kv2.size
  have kk2 := kk1.trans kv2
  clear G_1 R7_1 A13 kv2 kk1
  go_upto_region 3 with fail
  refine wp_text 3 [.eq (.int .i64 inst), .eq (.int .i64 (i : Int)), .eq (.int .i64 (i : Int))] rfl (by kernel_rfl) ?_ ?_
  · refine sv 1 rfl rfl rfl (fun a u hE hD hk => exec_move (.tmp 4) _ rfl (hE 4 (.int .i64 inst) (by kernel_rfl) (by kernel_rfl))) ?_
    refine fsteps_cons 2 rfl (fun a u hE hD hk => f_call (o := ⟨some 27, _, _, _, _, _⟩) 15 #[.int .i64 inst, .int .i64 0, .int .i64 7] rfl (wanted_none rfl _) (exec_call 15 _ [.tmp 26, .const (.int .i64 0), .const (.int .i64 7)] _ [.int .i64 inst, .int .i64 0, .int .i64 7] Tryd.func15 (by kernel_rfl) (by kernel_rfl) rfl (show [a.eval (.tmp 26), a.eval (.const (.int .i64 0)), a.eval (.const (.int .i64 7))] = [.int .i64 inst, .int .i64 0, .int .i64 7] from (by rw [show a.eval (.tmp 26) = .int .i64 inst from (hD 0 26 (by kernel_rfl))] <;> rfl)) u) (HWi.out u)) ?_
    refine sv 3 rfl rfl rfl (fun a u hE hD hk => exec_assign (.tmp 27) _ rfl (hD 1 27 (by kernel_rfl))) ?_
    exact fsteps_nil
  intro gv v3 hV kv3
  rw [show dstsOf _ 3 = [26, 27, 15] by kernel_rfl]
  simp only [List.foldl_cons, List.foldl_nil, List.setIfInBounds_toArray, List.set_cons_succ, List.set_cons_zero, List.drop_succ_cons, List.drop_zero]
  rw [show gv 15 = .int .i64 (i : Int) from hV 2 15 (by kernel_rfl)]
  clear hV
  refine wpList_nil ?_
  have G_3 := Lib.hid (G_2.out.kept kv3)
  have R7_3 := Lib.hid (range_kept R7_2.out kv3)
  have A13_3 := Lib.hid (A13_2.out.kept kv3)
  have zs3 := kv3.size
  have kk3 := kk2.trans kv3
  clear G_2 R7_2 A13_2 kv3 kk2
  go_upto_region 4 with fail
  refine wp_text 1 [.eq (X.v)] rfl (by kernel_rfl) ?_ ?_
  · refine sv 1 rfl rfl rfl (fun a u hE hD hk => exec_ldX X (.tmp 13) (g13) _ rfl (hE 13 (.pointer (some ⟨g13, 0, none⟩)) (by kernel_rfl) (by kernel_rfl)) (A13_3.out.kept hk)) ?_
    exact fsteps_nil
  intro gv wa hV ka
  rw [show dstsOf _ 1 = [29] by kernel_rfl]
  simp only [List.foldl_cons, List.foldl_nil, List.setIfInBounds_toArray, List.set_cons_succ, List.set_cons_zero, List.drop_succ_cons, List.drop_zero]
  rw [show gv 29 = X.v from hV 0 29 (by kernel_rfl)]
  clear hV
  refine l_call (o := ⟨some 30, _, _, _, _, _⟩) 12 #[X.v] rfl (exec_call 12 _ [.tmp 29] _ _ Tryd.func12 (by kernel_rfl) (by kernel_rfl) rfl (by kernel_rfl) _) ?_
  refine (new_ok HBd.out).mono ?_
  rintro e wn3 ⟨pt, rfl, hp_, hP_, kn_⟩
  refine ⟨_, rfl, ?_⟩
  simp only [Act.put, List.setIfInBounds_toArray, List.set_cons_succ, List.set_cons_zero]
  refine l_val (o := ⟨some 28, _, _, _, _, _⟩) (.tuple #[.pointer (some ⟨pt, 0, none⟩), .int .i64 (-1)]) rfl (exec_move (.tmp 30) (.tuple #[.pointer (some ⟨pt, 0, none⟩), .int .i64 (-1)]) rfl (by kernel_rfl)) ?_
  simp only [Act.put, List.setIfInBounds_toArray, List.set_cons_succ, List.set_cons_zero]
  refine l_val (o := ⟨some 31, _, _, _, _, _⟩) (.pointer (some ⟨pt, 0, none⟩)) rfl (exec_extract (.tmp 28) [.pointer (some ⟨pt, 0, none⟩), .int .i64 (-1)] 0 (.pointer (some ⟨pt, 0, none⟩)) rfl (by kernel_rfl) rfl) ?_
  simp only [Act.put, List.setIfInBounds_toArray, List.set_cons_succ, List.set_cons_zero]
  refine l_val (o := ⟨some 32, _, _, _, _, _⟩) (.int .i64 (-1)) rfl (exec_extract (.tmp 28) [.pointer (some ⟨pt, 0, none⟩), .int .i64 (-1)] 1 (.int .i64 (-1)) rfl (by kernel_rfl) rfl) ?_
  simp only [Act.put, List.setIfInBounds_toArray, List.set_cons_succ, List.set_cons_zero]
  refine l_val (o := ⟨some 16, _, _, _, _, _⟩) (.pointer (some ⟨pt, 0, none⟩)) rfl (exec_assign (.tmp 31) (.pointer (some ⟨pt, 0, none⟩)) rfl (by kernel_rfl)) ?_
  simp only [Act.put, List.setIfInBounds_toArray, List.set_cons_succ, List.set_cons_zero]
  refine l_val (o := ⟨some 17, _, _, _, _, _⟩) (.int .i64 (-1)) rfl (exec_assign (.tmp 32) (.int .i64 (-1)) rfl (by kernel_rfl)) ?_
  simp only [Act.put, List.setIfInBounds_toArray, List.set_cons_succ, List.set_cons_zero]
  refine wpList_nil ?_
  have zkpt : v3.heap.size ≤ pt := by have h_ := ka.size; omega
  have zlpt : pt < wn3.heap.size := hP_.lt
  have T0 := Lib.hid hP_
  have kz := ka.trans kn_
  clear hP_ ka kn_ hp_
  have G_4 := Lib.hid (G_3.out.kept kz)
  have R7_4 := Lib.hid (range_kept R7_3.out kz)
  have A13_4 := Lib.hid (A13_3.out.kept kz)
  have zs4 := kz.size
  have kk4 := kk3.trans kz
  clear G_3 R7_3 A13_3 kz kk3
  by_cases hr : x.roles ≠ 0
  · skip
    have HAX0 : Hid (wn3.rangeAt g13 (k * 37) x.cells) := by show World.rangeAt _ _ _ _; rw [← HAT.out]; exact trds_range A13_4.out hklt
    go_upto_region 5 with fail
    refine wp_text 5 [.eq (.int .i64 (k : Int)), .eq (.pointer (some ⟨g13, k * 37, none⟩)), .eq (.pointer (some ⟨g13, k * 37 + 2, none⟩)), .eq (.int .i64 x.roles), .eq (.bool true)] rfl (by kernel_rfl) ?_ ?_
    · refine sv 1 rfl rfl rfl (fun a u hE hD hk => exec_move (.tmp 14) _ rfl (hE 14 (.int .i64 (k : Int)) (by kernel_rfl) (by kernel_rfl))) ?_
      refine sv 2 rfl rfl rfl (fun a u hE hD hk => exec_ixA (.tmp 13) (.tmp 33) (g13) k ((k : Int)) rfl (hE 13 (.pointer (some ⟨g13, 0, none⟩)) (by kernel_rfl) (by kernel_rfl)) (hD 0 33 (by kernel_rfl)) (by first | rfl | omega) (hklt)) ?_
      refine sv 3 rfl rfl rfl (fun a u hE hD hk => exec_fldo 35 2 2 (.tmp 34) (g13) (k * 37) (k * 37 + 2) rfl (hD 1 34 (by kernel_rfl)) (by kernel_rfl) rfl) ?_
      refine sv 4 rfl rfl rfl (fun a u hE hD hk => exec_loadi 3 Tryd.underlying3 (.tmp 35) ⟨g13, k * 37 + 2, none⟩ (.int .i64 x.roles) rfl (hD 2 35 (by kernel_rfl)) ((range_kept (HAX0.out) hk) 2 _ rfl)) ?_
      refine fsteps_cons 5 rfl (fun a u hE hD hk => f_as (show ((decide ((x.roles : Int) ≠ (0 : Int))) : Bool) = true from decide_eq_true hr) (f_val (o := ⟨some 37, _, _, _, _, _⟩) (.bool (decide ((x.roles : Int) ≠ (0 : Int)))) rfl (wanted_none rfl _) (exec_nen (p := x.roles) (q := 0) rfl (hD 3 36 (by kernel_rfl)) rfl) rfl)) ?_
      exact fsteps_nil
    intro gv v5 hV kv5
    rw [show dstsOf _ 5 = [33, 34, 35, 36, 37] by kernel_rfl]
    simp only [List.foldl_cons, List.foldl_nil, List.setIfInBounds_toArray, List.set_cons_succ, List.set_cons_zero, List.drop_succ_cons, List.drop_zero]
    rw [show gv 37 = .bool true from hV 4 37 (by kernel_rfl)]
    clear hV
    refine wpList_nil ?_
    have G_5 := Lib.hid (G_4.out.kept kv5)
    have R7_5 := Lib.hid (range_kept R7_4.out kv5)
    have A13_5 := Lib.hid (A13_4.out.kept kv5)
    have T_5 := Lib.hid (T0.out.kept kv5)
    have zs5 := kv5.size
    have kk5 := kk4.trans kv5
    clear G_4 R7_4 A13_4 T0 HAX0 kv5 kk4
    have hXr : (X.at_ k).roles ≠ 0 := by rw [HAT.out]; exact hr
    obtain ⟨Y, hY⟩ : ∃ Y, X.shut k = Y := ⟨_, rfl⟩
    have HUo : Hid Y.Ok := by rw [← hY]; exact shut_ok HOk.out hklt hXr
    have HUb := Lib.hid (bad_none HUo.out)
    obtain ⟨V0, hV0⟩ : ∃ V, allowM Y p (k : Int) d inst other = V := ⟨_, rfl⟩
    have hn0 : V0 ≠ 0 := by rw [← hV0, ← hY]; exact allow_off (shut_off hklt)
    have HV0 := Lib.hid hV0
    obtain ⟨y, hy⟩ : ∃ y, Y.at_ k = y := ⟨_, rfl⟩
    have hyf : y.firm = (f : Int) := by rw [← hy, ← hY, shut_at X hklt, HAT.out]; exact hxf
    have HAY := Lib.hid hy
    have HY := Lib.hid hY
    clear hV0 hy hY hr hXr
    go_upto_region 6 with fail
    refine wp_text 3 [.eq (.int .i64 (k : Int)), .eq (.pointer (some ⟨g13, k * 37, none⟩)), .eq (.pointer (some ⟨g13, k * 37 + 4, none⟩))] rfl (by kernel_rfl) ?_ ?_
    · refine sv 1 rfl rfl rfl (fun a u hE hD hk => exec_move (.tmp 14) _ rfl (hE 14 (.int .i64 (k : Int)) (by kernel_rfl) (by kernel_rfl))) ?_
      refine sv 2 rfl rfl rfl (fun a u hE hD hk => exec_ixA (.tmp 13) (.tmp 38) (g13) k ((k : Int)) rfl (hE 13 (.pointer (some ⟨g13, 0, none⟩)) (by kernel_rfl) (by kernel_rfl)) (hD 0 38 (by kernel_rfl)) (by first | rfl | omega) (hklt)) ?_
      refine sv 3 rfl rfl rfl (fun a u hE hD hk => exec_fldo 35 4 4 (.tmp 39) (g13) (k * 37) (k * 37 + 4) rfl (hD 1 39 (by kernel_rfl)) (by kernel_rfl) rfl) ?_
      exact fsteps_nil
    intro gv wa hV ka
    rw [show dstsOf _ 3 = [38, 39, 40] by kernel_rfl]
    simp only [List.foldl_cons, List.foldl_nil, List.setIfInBounds_toArray, List.set_cons_succ, List.set_cons_zero, List.drop_succ_cons, List.drop_zero]
    rw [show gv 40 = .pointer (some ⟨g13, k * 37 + 4, none⟩) from hV 2 40 (by kernel_rfl)]
    clear hV
    refine l_putOff (o := ⟨none, _, _, _, _, _⟩) g13 k 36 X true (.tmp 40) (.const (.bool true)) rfl rfl (by kernel_rfl) rfl (A13_5.out.kept ka) hklt ?_
    intro wS hS kS sS
    have hS : Blk wS g13 36 Y.cells := by rw [← HY.out]; exact hS
    simp only [Act.put]
    refine wpList_nil ?_
    have zka := ka.size
    have zkS := kS.size
    have G_6 := Lib.hid ((G_5.out.kept ka).keep kS (by omega))
    have R7_6 := Lib.hid (range_keep (range_kept R7_5.out ka) kS (by omega))
    have T_6 := Lib.hid ((T_5.out.kept ka).keep kS (by omega))
    have A13_6 := Lib.hid hS
    have zs6 : v5.heap.size ≤ wS.heap.size := by omega
    have kk6 : Kept w wS := (kk5.trans ka).trans' kS (by omega)
    clear G_5 R7_5 A13_5 T_5 kk5 hS kS sS ka zka zkS
    obtain ⟨v6w, hv6w⟩ : ∃ z, wS = z := ⟨_, rfl⟩
    rw [hv6w] at G_6 R7_6 T_6 A13_6 zs6 kk6 ⊢
    clear hv6w
    go_upto_region 7 with fail
    refine wp_text 1 [.eq (Y.v)] rfl (by kernel_rfl) ?_ ?_
    · refine sv 1 rfl rfl rfl (fun a u hE hD hk => exec_ldX Y (.tmp 13) (g13) _ rfl (hE 13 (.pointer (some ⟨g13, 0, none⟩)) (by kernel_rfl) (by kernel_rfl)) (A13_6.out.kept hk)) ?_
      exact fsteps_nil
    intro gv wa hV ka
    rw [show dstsOf _ 1 = [42] by kernel_rfl]
    simp only [List.foldl_cons, List.foldl_nil, List.setIfInBounds_toArray, List.set_cons_succ, List.set_cons_zero, List.drop_succ_cons, List.drop_zero]
    rw [show gv 42 = Y.v from hV 0 42 (by kernel_rfl)]
    clear hV
    refine l_call (o := ⟨some 43, _, _, _, _, _⟩) 12 #[Y.v] rfl (exec_call 12 _ [.tmp 42] _ _ Tryd.func12 (by kernel_rfl) (by kernel_rfl) rfl (by kernel_rfl) _) ?_
    refine (new_ok HUb.out).mono ?_
    rintro e wn6 ⟨pu, rfl, hp_, hP_, kn_⟩
    refine ⟨_, rfl, ?_⟩
    simp only [Act.put, List.setIfInBounds_toArray, List.set_cons_succ, List.set_cons_zero]
    refine l_val (o := ⟨some 41, _, _, _, _, _⟩) (.tuple #[.pointer (some ⟨pu, 0, none⟩), .int .i64 (-1)]) rfl (exec_move (.tmp 43) (.tuple #[.pointer (some ⟨pu, 0, none⟩), .int .i64 (-1)]) rfl (by kernel_rfl)) ?_
    simp only [Act.put, List.setIfInBounds_toArray, List.set_cons_succ, List.set_cons_zero]
    refine l_val (o := ⟨some 44, _, _, _, _, _⟩) (.pointer (some ⟨pu, 0, none⟩)) rfl (exec_extract (.tmp 41) [.pointer (some ⟨pu, 0, none⟩), .int .i64 (-1)] 0 (.pointer (some ⟨pu, 0, none⟩)) rfl (by kernel_rfl) rfl) ?_
    simp only [Act.put, List.setIfInBounds_toArray, List.set_cons_succ, List.set_cons_zero]
    refine l_val (o := ⟨some 45, _, _, _, _, _⟩) (.int .i64 (-1)) rfl (exec_extract (.tmp 41) [.pointer (some ⟨pu, 0, none⟩), .int .i64 (-1)] 1 (.int .i64 (-1)) rfl (by kernel_rfl) rfl) ?_
    simp only [Act.put, List.setIfInBounds_toArray, List.set_cons_succ, List.set_cons_zero]
    refine l_val (o := ⟨some 18, _, _, _, _, _⟩) (.pointer (some ⟨pu, 0, none⟩)) rfl (exec_assign (.tmp 44) (.pointer (some ⟨pu, 0, none⟩)) rfl (by kernel_rfl)) ?_
    simp only [Act.put, List.setIfInBounds_toArray, List.set_cons_succ, List.set_cons_zero]
    refine l_val (o := ⟨some 19, _, _, _, _, _⟩) (.int .i64 (-1)) rfl (exec_assign (.tmp 45) (.int .i64 (-1)) rfl (by kernel_rfl)) ?_
    simp only [Act.put, List.setIfInBounds_toArray, List.set_cons_succ, List.set_cons_zero]
    refine wpList_nil ?_
    have zkpu : v6w.heap.size ≤ pu := by have h_ := ka.size; omega
    have zlpu : pu < wn6.heap.size := hP_.lt
    have U0 := Lib.hid hP_
    have kz := ka.trans kn_
    clear hP_ ka kn_ hp_
    have G_7 := Lib.hid (G_6.out.kept kz)
    have R7_7 := Lib.hid (range_kept R7_6.out kz)
    have T_7 := Lib.hid (T_6.out.kept kz)
    have A13_7 := Lib.hid (A13_6.out.kept kz)
    have zs7 := kz.size
    have kk7 := kk6.trans kz
    clear G_6 R7_6 T_6 A13_6 kz kk6
    go_upto_region 8 with fail
    refine wp_text 16 [.eq (.pointer (some ⟨pt, 0, none⟩)), .eq (.bool false), .eq (.bool false), .eq (.pointer (some ⟨pu, 0, none⟩)), .eq (.bool false), .eq (.bool false), .eq (.bool false), .eq (.pointer (some ⟨pu, 0, none⟩)), .eq (p.v), .eq (.int .i64 (k : Int)), .eq (.int .i64 d), .eq (.int .i64 inst), .eq (.int .i64 other), .eq (.int .i64 V0), .eq (.bool false), .eq (.bool false)] rfl (by kernel_rfl) ?_ ?_
    · refine sv 1 rfl rfl rfl (fun a u hE hD hk => exec_move (.tmp 16) _ rfl (hE 16 (.pointer (some ⟨pt, 0, none⟩)) (by kernel_rfl) (by kernel_rfl))) ?_
      refine sv 2 rfl rfl rfl (fun a u hE hD hk => exec_eqP (.tmp 46) _ _ ⟨pt, 0, none⟩ (by kernel_rfl) rfl (hD 0 46 (by kernel_rfl))) ?_
      refine sv 3 rfl rfl rfl (fun a u hE hD hk => exec_move (.tmp 47) _ rfl (hD 1 47 (by kernel_rfl))) ?_
      refine fsteps_cons 4 rfl (fun a u hE hD hk => f_val (o := ⟨some 49, _, _, _, _, _⟩) (.pointer (some ⟨pu, 0, none⟩)) rfl (wanted_at (b := false) false rfl rfl (hD 2 48 (by kernel_rfl))) (exec_move (.tmp 18) _ rfl (hE 18 (.pointer (some ⟨pu, 0, none⟩)) (by kernel_rfl) (by kernel_rfl))) rfl) ?_
      refine fsteps_cons 5 rfl (fun a u hE hD hk => f_val (o := ⟨some 50, _, _, _, _, _⟩) (.bool false) rfl (wanted_at (b := false) false rfl rfl (hD 2 48 (by kernel_rfl))) (exec_eqP (.tmp 49) _ _ ⟨pu, 0, none⟩ (by kernel_rfl) rfl (hD 3 49 (by kernel_rfl))) rfl) ?_
      refine sv 6 rfl rfl rfl (fun a u hE hD hk => exec_pickF (.tmp 48) (.const (.bool true)) (.tmp 50) (.bool false) rfl (hD 2 48 (by kernel_rfl)) (hD 4 50 (by kernel_rfl))) ?_
      refine sv 7 rfl rfl rfl (fun a u hE hD hk => exec_move (.tmp 51) _ rfl (hD 5 51 (by kernel_rfl))) ?_
      refine fsteps_cons 8 rfl (fun a u hE hD hk => f_val (o := ⟨some 53, _, _, _, _, _⟩) (.pointer (some ⟨pu, 0, none⟩)) rfl (wanted_at (b := false) false rfl rfl (hD 6 52 (by kernel_rfl))) (exec_move (.tmp 18) _ rfl (hE 18 (.pointer (some ⟨pu, 0, none⟩)) (by kernel_rfl) (by kernel_rfl))) rfl) ?_
      refine fsteps_cons 9 rfl (fun a u hE hD hk => f_val (o := ⟨some 54, _, _, _, _, _⟩) (p.v) rfl (wanted_at (b := false) false rfl rfl (hD 6 52 (by kernel_rfl))) (exec_ldS 29 _ (.tmp 7) (g7) (0) (p.cells) rfl (hE 7 (.pointer (some ⟨g7, 0, none⟩)) (by kernel_rfl) (by kernel_rfl)) (range_kept R7_7.out hk) Tryd.underlying29 (by rw [p.len24]; exact szP)) rfl) ?_
      refine fsteps_cons 10 rfl (fun a u hE hD hk => f_val (o := ⟨some 55, _, _, _, _, _⟩) (.int .i64 (k : Int)) rfl (wanted_at (b := false) false rfl rfl (hD 6 52 (by kernel_rfl))) (exec_move (.tmp 14) _ rfl (hE 14 (.int .i64 (k : Int)) (by kernel_rfl) (by kernel_rfl))) rfl) ?_
      refine fsteps_cons 11 rfl (fun a u hE hD hk => f_val (o := ⟨some 56, _, _, _, _, _⟩) (.int .i64 d) rfl (wanted_at (b := false) false rfl rfl (hD 6 52 (by kernel_rfl))) (exec_move (.tmp 3) _ rfl (hE 3 (.int .i64 d) (by kernel_rfl) (by kernel_rfl))) rfl) ?_
      refine fsteps_cons 12 rfl (fun a u hE hD hk => f_val (o := ⟨some 57, _, _, _, _, _⟩) (.int .i64 inst) rfl (wanted_at (b := false) false rfl rfl (hD 6 52 (by kernel_rfl))) (exec_move (.tmp 4) _ rfl (hE 4 (.int .i64 inst) (by kernel_rfl) (by kernel_rfl))) rfl) ?_
      refine fsteps_cons 13 rfl (fun a u hE hD hk => f_val (o := ⟨some 58, _, _, _, _, _⟩) (.int .i64 other) rfl (wanted_at (b := false) false rfl rfl (hD 6 52 (by kernel_rfl))) (exec_move (.tmp 5) _ rfl (hE 5 (.int .i64 other) (by kernel_rfl) (by kernel_rfl))) rfl) ?_
      refine fsteps_cons 14 rfl (fun a u hE hD hk => f_call (o := ⟨some 59, _, _, _, _, _⟩) 10 #[.pointer (some ⟨pu, 0, none⟩), p.v, .int .i64 (k : Int), .int .i64 d, .int .i64 inst, .int .i64 other] rfl (wanted_at (b := false) false rfl rfl (hD 6 52 (by kernel_rfl))) (exec_call 10 _ [.tmp 53, .tmp 54, .tmp 55, .tmp 56, .tmp 57, .tmp 58] _ [.pointer (some ⟨pu, 0, none⟩), p.v, .int .i64 (k : Int), .int .i64 d, .int .i64 inst, .int .i64 other] Tryd.func10 (by kernel_rfl) (by kernel_rfl) rfl (show [a.eval (.tmp 53), a.eval (.tmp 54), a.eval (.tmp 55), a.eval (.tmp 56), a.eval (.tmp 57), a.eval (.tmp 58)] = [.pointer (some ⟨pu, 0, none⟩), p.v, .int .i64 (k : Int), .int .i64 d, .int .i64 inst, .int .i64 other] from (by rw [show a.eval (.tmp 53) = .pointer (some ⟨pu, 0, none⟩) from (hD 7 53 (by kernel_rfl)), show a.eval (.tmp 54) = p.v from (hD 8 54 (by kernel_rfl)), show a.eval (.tmp 55) = .int .i64 (k : Int) from (hD 9 55 (by kernel_rfl)), show a.eval (.tmp 56) = .int .i64 d from (hD 10 56 (by kernel_rfl)), show a.eval (.tmp 57) = .int .i64 inst from (hD 11 57 (by kernel_rfl)), show a.eval (.tmp 58) = .int .i64 other from (hD 12 58 (by kernel_rfl))] <;> rfl)) u) (may_at (G_7.out.kept hk) (U0.out.kept hk) HUo.out HV0.out)) ?_
      refine fsteps_cons 15 rfl (fun a u hE hD hk => f_as (show ((decide ((V0 : Int) = (0 : Int))) : Bool) = false from decide_eq_false hn0) (f_val (o := ⟨some 60, _, _, _, _, _⟩) (.bool (decide ((V0 : Int) = (0 : Int)))) rfl (wanted_at (b := false) false rfl rfl (hD 6 52 (by kernel_rfl))) (exec_eqn (p := V0) (q := 0) rfl (hD 13 59 (by kernel_rfl)) rfl) rfl)) ?_
      refine sv 16 rfl rfl rfl (fun a u hE hD hk => exec_pickF (.tmp 52) (.const (.bool true)) (.tmp 60) (.bool false) rfl (hD 6 52 (by kernel_rfl)) (hD 14 60 (by kernel_rfl))) ?_
      exact fsteps_nil
    intro gv v8 hV kv8
    rw [show dstsOf _ 16 = [46, 47, 48, 49, 50, 51, 52, 53, 54, 55, 56, 57, 58, 59, 60, 61] by kernel_rfl]
    simp only [List.foldl_cons, List.foldl_nil, List.setIfInBounds_toArray, List.set_cons_succ, List.set_cons_zero, List.drop_succ_cons, List.drop_zero]
    rw [show gv 61 = .bool false from hV 15 61 (by kernel_rfl)]
    clear hV
    refine wpList_nil ?_
    have G_8 := Lib.hid (G_7.out.kept kv8)
    have R7_8 := Lib.hid (range_kept R7_7.out kv8)
    have T_8 := Lib.hid (T_7.out.kept kv8)
    have A13_8 := Lib.hid (A13_7.out.kept kv8)
    have zs8 := kv8.size
    have kk8 := kk7.trans kv8
    clear G_7 R7_7 T_7 A13_7 U0 kv8 kk7
    go_upto_region 10 with fail
    refine wp_allocs [0, 1] 29 zeroP.cells [(2, 20), (3, 21)] [(4, 1), (5, 1)] (by kernel_rfl) zPh (by kernel_rfl) ?_
    refine p_val (o := ⟨some 62, _, _, _, _, _⟩) p.v rfl rfl (fun u hu => exec_ldS 29 _ (.tmp 7) g7 0 p.cells rfl (by kernel_rfl) (range_kept R7_8.out hu) Tryd.underlying29 (by rw [Phs.len24]; exact szP)) ?_
    simp only [Act.put, List.setIfInBounds_toArray, List.set_cons_succ, List.set_cons_zero]
    refine p_val (o := ⟨some 63, _, _, _, _, _⟩) p.v rfl rfl (fun u hu => exec_ldS 29 _ (.tmp 7) g7 0 p.cells rfl (by kernel_rfl) (range_kept R7_8.out hu) Tryd.underlying29 (by rw [Phs.len24]; exact szP)) ?_
    simp only [Act.put, List.setIfInBounds_toArray, List.set_cons_succ, List.set_cons_zero]
    intro β u1 hβ hβd ku1
    obtain ⟨hg8, A1⟩ : v8.heap.size ≤ β 20 ∧ Blk u1 (β 20) 29 zeroP.cells := hβ (2, 20) (by decide)
    obtain ⟨hg9, B1⟩ : v8.heap.size ≤ β 21 ∧ Blk u1 (β 21) 29 zeroP.cells := hβ (3, 21) (by decide)
    have nab : β 20 ≠ β 21 := hβd (2, 20) (by decide) (3, 21) (by decide) (by decide)
    clear hβ hβd
    simp only [puts, List.foldl_cons, List.foldl_nil]
    simp only [Act.put, List.setIfInBounds_toArray, List.set_cons_succ, List.set_cons_zero]
    obtain ⟨g20, hg20⟩ : ∃ z, β 20 = z := ⟨_, rfl⟩
    obtain ⟨g21, hg21⟩ : ∃ z, β 21 = z := ⟨_, rfl⟩
    rw [hg20] at hg8 A1 nab ⊢
    rw [hg21] at hg9 B1 nab ⊢
    clear hg20 hg21 β
    refine s_setS (o := ⟨none, _, _, _, _, _⟩) 29 g20 29 zeroP.cells p.cells (.tmp 20) (.tmp 62) rfl rfl rfl (by kernel_rfl) (by kernel_rfl) A1 (by rw [Phs.len24]; exact szP) (by rw [Phs.len24, Phs.len24]) (Phs.one _) (fun w' hk => Kept.trans' ku1 hk (by omega)) ?_
    intro u2 A2 k2
    have ku2 : Kept v8 u2 := Kept.trans' ku1 k2 (by omega)
    have B2 := B1.keep k2 (by omega)
    simp only [Act.put]
    refine s_setS (o := ⟨none, _, _, _, _, _⟩) 29 g21 29 zeroP.cells p.cells (.tmp 21) (.tmp 63) rfl rfl rfl (by kernel_rfl) (by kernel_rfl) B2 (by rw [Phs.len24]; exact szP) (by rw [Phs.len24, Phs.len24]) (Phs.one _) (fun w' hk => Kept.trans' ku2 hk (by omega)) ?_
    intro wq B3 k3
    have kz : Kept v8 wq := Kept.trans' ku2 k3 (by omega)
    have A3 := A2.keep k3 (by omega)
    simp only [Act.put]
    refine s_done ?_
    have P0 := Lib.hid A3
    have H0 := Lib.hid B3
    have zq20 : g20 < wq.heap.size := A3.lt
    have zq21 : g21 < wq.heap.size := B3.lt
    clear A1 B1 A2 B2 k2 k3 ku1 ku2 A3 B3
    have G_10 := Lib.hid (G_8.out.kept kz)
    have R7_10 := Lib.hid (range_kept R7_8.out kz)
    have T_10 := Lib.hid (T_8.out.kept kz)
    have A13_10 := Lib.hid (A13_8.out.kept kz)
    have zs10 := kz.size
    have kk10 := kk8.trans kz
    clear G_8 R7_8 T_8 A13_8 kz kk8
    have HAX : Hid (wq.rangeAt g13 (k * 37) y.cells) := by show World.rangeAt _ _ _ _; rw [← HAY.out]; exact trds_range A13_10.out hklt
    go_upto_region 11 with fail
    refine wp_text 6 [.eq (.int .i64 (k : Int)), .eq (.pointer (some ⟨g13, k * 37, none⟩)), .eq (.pointer (some ⟨g13, k * 37, none⟩)), .eq (.int .i64 y.firm), .eq (.pointer (some ⟨g20, 8, none⟩)), .eq (.pointer (some ⟨g20, 8 + f, none⟩))] rfl (by kernel_rfl) ?_ ?_
    · refine sv 1 rfl rfl rfl (fun a u hE hD hk => exec_move (.tmp 14) _ rfl (hE 14 (.int .i64 (k : Int)) (by kernel_rfl) (by kernel_rfl))) ?_
      refine sv 2 rfl rfl rfl (fun a u hE hD hk => exec_ixA (.tmp 13) (.tmp 64) (g13) k ((k : Int)) rfl (hE 13 (.pointer (some ⟨g13, 0, none⟩)) (by kernel_rfl) (by kernel_rfl)) (hD 0 64 (by kernel_rfl)) (by first | rfl | omega) (hklt)) ?_
      refine sv 3 rfl rfl rfl (fun a u hE hD hk => exec_fldo 35 0 0 (.tmp 65) (g13) (k * 37) (k * 37) rfl (hD 1 65 (by kernel_rfl)) (by kernel_rfl) rfl) ?_
      refine sv 4 rfl rfl rfl (fun a u hE hD hk => exec_loadi 3 Tryd.underlying3 (.tmp 66) ⟨g13, k * 37, none⟩ (.int .i64 y.firm) rfl (hD 2 66 (by kernel_rfl)) ((range_kept (HAX.out) hk) 0 _ rfl)) ?_
      refine sv 5 rfl rfl rfl (fun a u hE hD hk => exec_fldo 29 1 8 (.tmp 20) (g20) (0) (8) rfl (hE 20 (.pointer (some ⟨g20, 0, none⟩)) (by kernel_rfl) (by kernel_rfl)) (by kernel_rfl) rfl) ?_
      refine sv 6 rfl rfl rfl (fun a u hE hD hk => exec_ixC 26 4 8 (.tmp 68) (.tmp 67) g20 8 (8 + f) f y.firm rfl Tryd.underlying26 (by kernel_rfl) (hD 4 68 (by kernel_rfl)) (hD 3 67 (by kernel_rfl)) hyf hf rfl) ?_
      exact fsteps_nil
    intro gv wa hV ka
    rw [show dstsOf _ 6 = [64, 65, 66, 67, 68, 69] by kernel_rfl]
    simp only [List.foldl_cons, List.foldl_nil, List.setIfInBounds_toArray, List.set_cons_succ, List.set_cons_zero, List.drop_succ_cons, List.drop_zero]
    rw [show gv 69 = .pointer (some ⟨g20, 8 + f, none⟩) from hV 5 69 (by kernel_rfl)]
    clear hV
    refine l_putB (o := ⟨none, _, _, _, _, _⟩) g20 (8 + f) 29 p.cells Q1.cells true (.tmp 69) (.const (.bool true)) rfl rfl (by kernel_rfl) rfl (P0.out.kept ka) (by rw [Phs.len24]; omega) HQ1.out ?_
    intro wS hS kS sS
    simp only [Act.put]
    refine wpList_nil ?_
    have zka := ka.size
    have zkS := kS.size
    have G_11 := Lib.hid ((G_10.out.kept ka).keep kS (by omega))
    have R7_11 := Lib.hid (range_keep (range_kept R7_10.out ka) kS (by omega))
    have T_11 := Lib.hid ((T_10.out.kept ka).keep kS (by omega))
    have P21_11 := Lib.hid ((H0.out.kept ka).keep kS (by omega))
    have P20_11 := Lib.hid hS
    have zs11 : wq.heap.size ≤ wS.heap.size := by omega
    have kk11 : Kept w wS := (kk10.trans ka).trans' kS (by omega)
    clear G_10 R7_10 T_10 A13_10 P0 H0 HAX kk10 hS kS sS ka zka zkS
    obtain ⟨v11w, hv11w⟩ : ∃ z, wS = z := ⟨_, rfl⟩
    rw [hv11w] at G_11 R7_11 T_11 P21_11 P20_11 zs11 kk11 ⊢
    clear hv11w
    go_upto_region 12 with fail
    refine wp_text 3 [.eq (.int .i64 (i : Int)), .eq (.pointer (some ⟨g21, 0, none⟩)), .eq (.pointer (some ⟨g21, i, none⟩))] rfl (by kernel_rfl) ?_ ?_
    · refine sv 1 rfl rfl rfl (fun a u hE hD hk => exec_move (.tmp 15) _ rfl (hE 15 (.int .i64 (i : Int)) (by kernel_rfl) (by kernel_rfl))) ?_
      refine sv 2 rfl rfl rfl (fun a u hE hD hk => exec_fldo 29 0 0 (.tmp 21) (g21) (0) (0) rfl (hE 21 (.pointer (some ⟨g21, 0, none⟩)) (by kernel_rfl) (by kernel_rfl)) (by kernel_rfl) rfl) ?_
      refine sv 3 rfl rfl rfl (fun a u hE hD hk => exec_ixC 26 4 8 (.tmp 71) (.tmp 70) g21 0 i i (i : Int) rfl Tryd.underlying26 (by kernel_rfl) (hD 1 71 (by kernel_rfl)) (hD 0 70 (by kernel_rfl)) rfl hilt (Nat.zero_add i)) ?_
      exact fsteps_nil
    intro gv wa hV ka
    rw [show dstsOf _ 3 = [70, 71, 72] by kernel_rfl]
    simp only [List.foldl_cons, List.foldl_nil, List.setIfInBounds_toArray, List.set_cons_succ, List.set_cons_zero, List.drop_succ_cons, List.drop_zero]
    rw [show gv 72 = .pointer (some ⟨g21, i, none⟩) from hV 2 72 (by kernel_rfl)]
    clear hV
    refine l_putB (o := ⟨none, _, _, _, _, _⟩) g21 i 29 p.cells Q2.cells true (.tmp 72) (.const (.bool true)) rfl rfl (by kernel_rfl) rfl (P21_11.out.kept ka) (by rw [Phs.len24]; omega) HQ2.out ?_
    intro wS hS kS sS
    simp only [Act.put]
    refine wpList_nil ?_
    have zka := ka.size
    have zkS := kS.size
    have G_12 := Lib.hid ((G_11.out.kept ka).keep kS (by omega))
    have R7_12 := Lib.hid (range_keep (range_kept R7_11.out ka) kS (by omega))
    have T_12 := Lib.hid ((T_11.out.kept ka).keep kS (by omega))
    have P20_12 := Lib.hid ((P20_11.out.kept ka).keep kS (by omega))
    have P21_12 := Lib.hid hS
    have zs12 : v11w.heap.size ≤ wS.heap.size := by omega
    have kk12 : Kept w wS := (kk11.trans ka).trans' kS (by omega)
    clear G_11 R7_11 T_11 P21_11 P20_11 kk11 hS kS sS ka zka zkS
    obtain ⟨v12w, hv12w⟩ : ∃ z, wS = z := ⟨_, rfl⟩
    rw [hv12w] at G_12 R7_12 T_12 P20_12 P21_12 zs12 kk12 ⊢
    clear hv12w
    go_upto_region 13 with fail
    refine wp_text 28 [.eq (.pointer (some ⟨pt, 0, none⟩)), .eq (Q1.v), .eq (.int .i64 (k : Int)), .eq (.int .i64 (i : Int)), .eq (.int .i64 (k : Int)), .eq (.int .i64 V1), .eq (.bool true), .eq (.bool true), .eq (.pointer (some ⟨pt, 0, none⟩)), .eq (Q1.v), .eq (.int .i64 (k : Int)), .eq (.int .i64 other), .eq (.int .i64 V2), .eq (.bool true), .eq (.bool true), .eq (.bool true), .eq (.pointer (some ⟨pt, 0, none⟩)), .eq (Q2.v), .eq (.int .i64 (k : Int)), .eq (.int .i64 (i : Int)), .eq (.int .i64 (k : Int)), .eq (.int .i64 V3), .eq (.bool true), .eq (.bool true), .eq (.bool true), .eq (.bool true), .eq (.bool true), .eq (.bool true)] rfl (by kernel_rfl) ?_ ?_
    · refine sv 1 rfl rfl rfl (fun a u hE hD hk => exec_move (.tmp 16) _ rfl (hE 16 (.pointer (some ⟨pt, 0, none⟩)) (by kernel_rfl) (by kernel_rfl))) ?_
      refine sv 2 rfl rfl rfl (fun a u hE hD hk => exec_ldS 29 _ (.tmp 20) (g20) (0) (Q1.cells) rfl (hE 20 (.pointer (some ⟨g20, 0, none⟩)) (by kernel_rfl) (by kernel_rfl)) (range_kept (blk_range P20_12.out) hk) Tryd.underlying29 (by rw [Q1.len24]; exact szP)) ?_
      refine sv 3 rfl rfl rfl (fun a u hE hD hk => exec_move (.tmp 14) _ rfl (hE 14 (.int .i64 (k : Int)) (by kernel_rfl) (by kernel_rfl))) ?_
      refine sv 4 rfl rfl rfl (fun a u hE hD hk => exec_move (.tmp 15) _ rfl (hE 15 (.int .i64 (i : Int)) (by kernel_rfl) (by kernel_rfl))) ?_
      refine sv 5 rfl rfl rfl (fun a u hE hD hk => exec_move (.tmp 14) _ rfl (hE 14 (.int .i64 (k : Int)) (by kernel_rfl) (by kernel_rfl))) ?_
      refine fsteps_cons 6 rfl (fun a u hE hD hk => f_call (o := ⟨some 78, _, _, _, _, _⟩) 10 #[.pointer (some ⟨pt, 0, none⟩), Q1.v, .int .i64 (k : Int), .int .i64 1, .int .i64 (i : Int), .int .i64 (k : Int)] rfl (wanted_none rfl _) (exec_call 10 _ [.tmp 73, .tmp 74, .tmp 75, .const (.int .i64 1), .tmp 76, .tmp 77] _ [.pointer (some ⟨pt, 0, none⟩), Q1.v, .int .i64 (k : Int), .int .i64 1, .int .i64 (i : Int), .int .i64 (k : Int)] Tryd.func10 (by kernel_rfl) (by kernel_rfl) rfl (show [a.eval (.tmp 73), a.eval (.tmp 74), a.eval (.tmp 75), a.eval (.const (.int .i64 1)), a.eval (.tmp 76), a.eval (.tmp 77)] = [.pointer (some ⟨pt, 0, none⟩), Q1.v, .int .i64 (k : Int), .int .i64 1, .int .i64 (i : Int), .int .i64 (k : Int)] from (by rw [show a.eval (.tmp 73) = .pointer (some ⟨pt, 0, none⟩) from (hD 0 73 (by kernel_rfl)), show a.eval (.tmp 74) = Q1.v from (hD 1 74 (by kernel_rfl)), show a.eval (.tmp 75) = .int .i64 (k : Int) from (hD 2 75 (by kernel_rfl)), show a.eval (.tmp 76) = .int .i64 (i : Int) from (hD 3 76 (by kernel_rfl)), show a.eval (.tmp 77) = .int .i64 (k : Int) from (hD 4 77 (by kernel_rfl))] <;> rfl)) u) (may_at (G_12.out.kept hk) (T_12.out.kept hk) HOk.out HV1.out)) ?_
      refine fsteps_cons 7 rfl (fun a u hE hD hk => f_as (show ((decide ((V1 : Int) ≠ (0 : Int))) : Bool) = true from decide_eq_true hn1) (f_val (o := ⟨some 79, _, _, _, _, _⟩) (.bool (decide ((V1 : Int) ≠ (0 : Int)))) rfl (wanted_none rfl _) (exec_nen (p := V1) (q := 0) rfl (hD 5 78 (by kernel_rfl)) rfl) rfl)) ?_
      refine sv 8 rfl rfl rfl (fun a u hE hD hk => exec_move (.tmp 79) _ rfl (hD 6 79 (by kernel_rfl))) ?_
      refine fsteps_cons 9 rfl (fun a u hE hD hk => f_val (o := ⟨some 81, _, _, _, _, _⟩) (.pointer (some ⟨pt, 0, none⟩)) rfl (wanted_at (b := true) true rfl rfl (hD 7 80 (by kernel_rfl))) (exec_move (.tmp 16) _ rfl (hE 16 (.pointer (some ⟨pt, 0, none⟩)) (by kernel_rfl) (by kernel_rfl))) rfl) ?_
      refine fsteps_cons 10 rfl (fun a u hE hD hk => f_val (o := ⟨some 82, _, _, _, _, _⟩) (Q1.v) rfl (wanted_at (b := true) true rfl rfl (hD 7 80 (by kernel_rfl))) (exec_ldS 29 _ (.tmp 20) (g20) (0) (Q1.cells) rfl (hE 20 (.pointer (some ⟨g20, 0, none⟩)) (by kernel_rfl) (by kernel_rfl)) (range_kept (blk_range P20_12.out) hk) Tryd.underlying29 (by rw [Q1.len24]; exact szP)) rfl) ?_
      refine fsteps_cons 11 rfl (fun a u hE hD hk => f_val (o := ⟨some 83, _, _, _, _, _⟩) (.int .i64 (k : Int)) rfl (wanted_at (b := true) true rfl rfl (hD 7 80 (by kernel_rfl))) (exec_move (.tmp 14) _ rfl (hE 14 (.int .i64 (k : Int)) (by kernel_rfl) (by kernel_rfl))) rfl) ?_
      refine fsteps_cons 12 rfl (fun a u hE hD hk => f_val (o := ⟨some 84, _, _, _, _, _⟩) (.int .i64 other) rfl (wanted_at (b := true) true rfl rfl (hD 7 80 (by kernel_rfl))) (exec_move (.tmp 5) _ rfl (hE 5 (.int .i64 other) (by kernel_rfl) (by kernel_rfl))) rfl) ?_
      refine fsteps_cons 13 rfl (fun a u hE hD hk => f_call (o := ⟨some 85, _, _, _, _, _⟩) 10 #[.pointer (some ⟨pt, 0, none⟩), Q1.v, .int .i64 (k : Int), .int .i64 3, .int .i64 0, .int .i64 other] rfl (wanted_at (b := true) true rfl rfl (hD 7 80 (by kernel_rfl))) (exec_call 10 _ [.tmp 81, .tmp 82, .tmp 83, .const (.int .i64 3), .const (.int .i64 0), .tmp 84] _ [.pointer (some ⟨pt, 0, none⟩), Q1.v, .int .i64 (k : Int), .int .i64 3, .int .i64 0, .int .i64 other] Tryd.func10 (by kernel_rfl) (by kernel_rfl) rfl (show [a.eval (.tmp 81), a.eval (.tmp 82), a.eval (.tmp 83), a.eval (.const (.int .i64 3)), a.eval (.const (.int .i64 0)), a.eval (.tmp 84)] = [.pointer (some ⟨pt, 0, none⟩), Q1.v, .int .i64 (k : Int), .int .i64 3, .int .i64 0, .int .i64 other] from (by rw [show a.eval (.tmp 81) = .pointer (some ⟨pt, 0, none⟩) from (hD 8 81 (by kernel_rfl)), show a.eval (.tmp 82) = Q1.v from (hD 9 82 (by kernel_rfl)), show a.eval (.tmp 83) = .int .i64 (k : Int) from (hD 10 83 (by kernel_rfl)), show a.eval (.tmp 84) = .int .i64 other from (hD 11 84 (by kernel_rfl))] <;> rfl)) u) (may_at (G_12.out.kept hk) (T_12.out.kept hk) HOk.out HV2.out)) ?_
      refine fsteps_cons 14 rfl (fun a u hE hD hk => f_as (show ((decide ((V2 : Int) ≠ (0 : Int))) : Bool) = true from decide_eq_true hn2) (f_val (o := ⟨some 86, _, _, _, _, _⟩) (.bool (decide ((V2 : Int) ≠ (0 : Int)))) rfl (wanted_at (b := true) true rfl rfl (hD 7 80 (by kernel_rfl))) (exec_nen (p := V2) (q := 0) rfl (hD 12 85 (by kernel_rfl)) rfl) rfl)) ?_
      refine sv 15 rfl rfl rfl (fun a u hE hD hk => exec_pick (.tmp 80) (.tmp 86) (.const (.bool false)) (.bool true) rfl (hD 7 80 (by kernel_rfl)) (hD 13 86 (by kernel_rfl))) ?_
      refine sv 16 rfl rfl rfl (fun a u hE hD hk => exec_move (.tmp 87) _ rfl (hD 14 87 (by kernel_rfl))) ?_
      refine fsteps_cons 17 rfl (fun a u hE hD hk => f_val (o := ⟨some 89, _, _, _, _, _⟩) (.pointer (some ⟨pt, 0, none⟩)) rfl (wanted_at (b := true) true rfl rfl (hD 15 88 (by kernel_rfl))) (exec_move (.tmp 16) _ rfl (hE 16 (.pointer (some ⟨pt, 0, none⟩)) (by kernel_rfl) (by kernel_rfl))) rfl) ?_
      refine fsteps_cons 18 rfl (fun a u hE hD hk => f_val (o := ⟨some 90, _, _, _, _, _⟩) (Q2.v) rfl (wanted_at (b := true) true rfl rfl (hD 15 88 (by kernel_rfl))) (exec_ldS 29 _ (.tmp 21) (g21) (0) (Q2.cells) rfl (hE 21 (.pointer (some ⟨g21, 0, none⟩)) (by kernel_rfl) (by kernel_rfl)) (range_kept (blk_range P21_12.out) hk) Tryd.underlying29 (by rw [Q2.len24]; exact szP)) rfl) ?_
      refine fsteps_cons 19 rfl (fun a u hE hD hk => f_val (o := ⟨some 91, _, _, _, _, _⟩) (.int .i64 (k : Int)) rfl (wanted_at (b := true) true rfl rfl (hD 15 88 (by kernel_rfl))) (exec_move (.tmp 14) _ rfl (hE 14 (.int .i64 (k : Int)) (by kernel_rfl) (by kernel_rfl))) rfl) ?_
      refine fsteps_cons 20 rfl (fun a u hE hD hk => f_val (o := ⟨some 92, _, _, _, _, _⟩) (.int .i64 (i : Int)) rfl (wanted_at (b := true) true rfl rfl (hD 15 88 (by kernel_rfl))) (exec_move (.tmp 15) _ rfl (hE 15 (.int .i64 (i : Int)) (by kernel_rfl) (by kernel_rfl))) rfl) ?_
      refine fsteps_cons 21 rfl (fun a u hE hD hk => f_val (o := ⟨some 93, _, _, _, _, _⟩) (.int .i64 (k : Int)) rfl (wanted_at (b := true) true rfl rfl (hD 15 88 (by kernel_rfl))) (exec_move (.tmp 14) _ rfl (hE 14 (.int .i64 (k : Int)) (by kernel_rfl) (by kernel_rfl))) rfl) ?_
      refine fsteps_cons 22 rfl (fun a u hE hD hk => f_call (o := ⟨some 94, _, _, _, _, _⟩) 10 #[.pointer (some ⟨pt, 0, none⟩), Q2.v, .int .i64 (k : Int), .int .i64 1, .int .i64 (i : Int), .int .i64 (k : Int)] rfl (wanted_at (b := true) true rfl rfl (hD 15 88 (by kernel_rfl))) (exec_call 10 _ [.tmp 89, .tmp 90, .tmp 91, .const (.int .i64 1), .tmp 92, .tmp 93] _ [.pointer (some ⟨pt, 0, none⟩), Q2.v, .int .i64 (k : Int), .int .i64 1, .int .i64 (i : Int), .int .i64 (k : Int)] Tryd.func10 (by kernel_rfl) (by kernel_rfl) rfl (show [a.eval (.tmp 89), a.eval (.tmp 90), a.eval (.tmp 91), a.eval (.const (.int .i64 1)), a.eval (.tmp 92), a.eval (.tmp 93)] = [.pointer (some ⟨pt, 0, none⟩), Q2.v, .int .i64 (k : Int), .int .i64 1, .int .i64 (i : Int), .int .i64 (k : Int)] from (by rw [show a.eval (.tmp 89) = .pointer (some ⟨pt, 0, none⟩) from (hD 16 89 (by kernel_rfl)), show a.eval (.tmp 90) = Q2.v from (hD 17 90 (by kernel_rfl)), show a.eval (.tmp 91) = .int .i64 (k : Int) from (hD 18 91 (by kernel_rfl)), show a.eval (.tmp 92) = .int .i64 (i : Int) from (hD 19 92 (by kernel_rfl)), show a.eval (.tmp 93) = .int .i64 (k : Int) from (hD 20 93 (by kernel_rfl))] <;> rfl)) u) (may_at (G_12.out.kept hk) (T_12.out.kept hk) HOk.out HV3.out)) ?_
      refine fsteps_cons 23 rfl (fun a u hE hD hk => f_as (show ((decide ((V3 : Int) ≠ (0 : Int))) : Bool) = true from decide_eq_true hn3) (f_val (o := ⟨some 95, _, _, _, _, _⟩) (.bool (decide ((V3 : Int) ≠ (0 : Int)))) rfl (wanted_at (b := true) true rfl rfl (hD 15 88 (by kernel_rfl))) (exec_nen (p := V3) (q := 0) rfl (hD 21 94 (by kernel_rfl)) rfl) rfl)) ?_
      refine sv 24 rfl rfl rfl (fun a u hE hD hk => exec_pick (.tmp 88) (.tmp 95) (.const (.bool false)) (.bool true) rfl (hD 15 88 (by kernel_rfl)) (hD 22 95 (by kernel_rfl))) ?_
      refine sv 25 rfl rfl rfl (fun a u hE hD hk => exec_move (.tmp 96) _ rfl (hD 23 96 (by kernel_rfl))) ?_
      refine fsteps_cons 26 rfl (fun a u hE hD hk => f_call (o := ⟨some 98, _, _, _, _, _⟩) 3 #[] rfl (wanted_at (b := true) true rfl rfl (hD 24 97 (by kernel_rfl))) (exec_call 3 _ [] _ [] Tryd.func3 (by kernel_rfl) (by kernel_rfl) rfl rfl u) (HAR.out u (kk12.trans hk))) ?_
      refine sv 27 rfl rfl rfl (fun a u hE hD hk => exec_pick (.tmp 97) (.tmp 98) (.const (.bool false)) (.bool true) rfl (hD 24 97 (by kernel_rfl)) (hD 25 98 (by kernel_rfl))) ?_
      refine sv 28 rfl rfl rfl (fun a u hE hD hk => exec_assign (.tmp 99) _ rfl (hD 26 99 (by kernel_rfl))) ?_
      exact fsteps_nil
    intro gv v13 hV kv13
    rw [show dstsOf _ 28 = [73, 74, 75, 76, 77, 78, 79, 80, 81, 82, 83, 84, 85, 86, 87, 88, 89, 90, 91, 92, 93, 94, 95, 96, 97, 98, 99, 12] by kernel_rfl]
    simp only [List.foldl_cons, List.foldl_nil, List.setIfInBounds_toArray, List.set_cons_succ, List.set_cons_zero, List.drop_succ_cons, List.drop_zero]
    rw [show gv 12 = .bool true from hV 27 12 (by kernel_rfl)]
    clear hV
    refine wpList_nil ?_
    have G_13 := Lib.hid (G_12.out.kept kv13)
    have R7_13 := Lib.hid (range_kept R7_12.out kv13)
    have T_13 := Lib.hid (T_12.out.kept kv13)
    have P20_13 := Lib.hid (P20_12.out.kept kv13)
    have P21_13 := Lib.hid (P21_12.out.kept kv13)
    have zs13 := kv13.size
    have kk13 := kk12.trans kv13
    clear G_12 R7_12 T_12 P20_12 P21_12 kv13 kk12
    go_wp2
    go_ret
    exact ⟨rfl, kk13⟩
  · skip
    have HAX0 : Hid (wn3.rangeAt g13 (k * 37) x.cells) := by show World.rangeAt _ _ _ _; rw [← HAT.out]; exact trds_range A13_4.out hklt
    go_upto_region 5 with fail
    refine wp_text 5 [.eq (.int .i64 (k : Int)), .eq (.pointer (some ⟨g13, k * 37, none⟩)), .eq (.pointer (some ⟨g13, k * 37 + 2, none⟩)), .eq (.int .i64 x.roles), .eq (.bool false)] rfl (by kernel_rfl) ?_ ?_
    · refine sv 1 rfl rfl rfl (fun a u hE hD hk => exec_move (.tmp 14) _ rfl (hE 14 (.int .i64 (k : Int)) (by kernel_rfl) (by kernel_rfl))) ?_
      refine sv 2 rfl rfl rfl (fun a u hE hD hk => exec_ixA (.tmp 13) (.tmp 33) (g13) k ((k : Int)) rfl (hE 13 (.pointer (some ⟨g13, 0, none⟩)) (by kernel_rfl) (by kernel_rfl)) (hD 0 33 (by kernel_rfl)) (by first | rfl | omega) (hklt)) ?_
      refine sv 3 rfl rfl rfl (fun a u hE hD hk => exec_fldo 35 2 2 (.tmp 34) (g13) (k * 37) (k * 37 + 2) rfl (hD 1 34 (by kernel_rfl)) (by kernel_rfl) rfl) ?_
      refine sv 4 rfl rfl rfl (fun a u hE hD hk => exec_loadi 3 Tryd.underlying3 (.tmp 35) ⟨g13, k * 37 + 2, none⟩ (.int .i64 x.roles) rfl (hD 2 35 (by kernel_rfl)) ((range_kept (HAX0.out) hk) 2 _ rfl)) ?_
      refine fsteps_cons 5 rfl (fun a u hE hD hk => f_as (show ((decide ((x.roles : Int) ≠ (0 : Int))) : Bool) = false from decide_eq_false hr) (f_val (o := ⟨some 37, _, _, _, _, _⟩) (.bool (decide ((x.roles : Int) ≠ (0 : Int)))) rfl (wanted_none rfl _) (exec_nen (p := x.roles) (q := 0) rfl (hD 3 36 (by kernel_rfl)) rfl) rfl)) ?_
      exact fsteps_nil
    intro gv v5 hV kv5
    rw [show dstsOf _ 5 = [33, 34, 35, 36, 37] by kernel_rfl]
    simp only [List.foldl_cons, List.foldl_nil, List.setIfInBounds_toArray, List.set_cons_succ, List.set_cons_zero, List.drop_succ_cons, List.drop_zero]
    rw [show gv 37 = .bool false from hV 4 37 (by kernel_rfl)]
    clear hV
    refine wpList_nil ?_
    have G_5 := Lib.hid (G_4.out.kept kv5)
    have R7_5 := Lib.hid (range_kept R7_4.out kv5)
    have A13_5 := Lib.hid (A13_4.out.kept kv5)
    have T_5 := Lib.hid (T0.out.kept kv5)
    have zs5 := kv5.size
    have kk5 := kk4.trans kv5
    clear G_4 R7_4 A13_4 T0 HAX0 kv5 kk4
    have HUo := HOk
    have HUb := HBd
    obtain ⟨V0, hV0⟩ : ∃ V, allowM X p (k : Int) d inst other = V := ⟨_, rfl⟩
    have hn0 : V0 ≠ 0 := by rw [← hV0]; exact allow_off (fun ht => by rw [there_in hklt, HAT.out, decide_eq_false hr] at ht; cases ht)
    have HV0 := Lib.hid hV0
    obtain ⟨y, hy⟩ : ∃ y, x = y := ⟨_, rfl⟩
    have hyf : y.firm = (f : Int) := by rw [← hy]; exact hxf
    have HAY : Hid (X.at_ k = y) := by show _ = _; rw [HAT.out, hy]
    clear hV0 hy hr
    go_upto_region 7 with fail
    refine wp_text 1 [.eq (X.v)] rfl (by kernel_rfl) ?_ ?_
    · refine sv 1 rfl rfl rfl (fun a u hE hD hk => exec_ldX X (.tmp 13) (g13) _ rfl (hE 13 (.pointer (some ⟨g13, 0, none⟩)) (by kernel_rfl) (by kernel_rfl)) (A13_5.out.kept hk)) ?_
      exact fsteps_nil
    intro gv wa hV ka
    rw [show dstsOf _ 1 = [42] by kernel_rfl]
    simp only [List.foldl_cons, List.foldl_nil, List.setIfInBounds_toArray, List.set_cons_succ, List.set_cons_zero, List.drop_succ_cons, List.drop_zero]
    rw [show gv 42 = X.v from hV 0 42 (by kernel_rfl)]
    clear hV
    refine l_call (o := ⟨some 43, _, _, _, _, _⟩) 12 #[X.v] rfl (exec_call 12 _ [.tmp 42] _ _ Tryd.func12 (by kernel_rfl) (by kernel_rfl) rfl (by kernel_rfl) _) ?_
    refine (new_ok HUb.out).mono ?_
    rintro e wn5 ⟨pu, rfl, hp_, hP_, kn_⟩
    refine ⟨_, rfl, ?_⟩
    simp only [Act.put, List.setIfInBounds_toArray, List.set_cons_succ, List.set_cons_zero]
    refine l_val (o := ⟨some 41, _, _, _, _, _⟩) (.tuple #[.pointer (some ⟨pu, 0, none⟩), .int .i64 (-1)]) rfl (exec_move (.tmp 43) (.tuple #[.pointer (some ⟨pu, 0, none⟩), .int .i64 (-1)]) rfl (by kernel_rfl)) ?_
    simp only [Act.put, List.setIfInBounds_toArray, List.set_cons_succ, List.set_cons_zero]
    refine l_val (o := ⟨some 44, _, _, _, _, _⟩) (.pointer (some ⟨pu, 0, none⟩)) rfl (exec_extract (.tmp 41) [.pointer (some ⟨pu, 0, none⟩), .int .i64 (-1)] 0 (.pointer (some ⟨pu, 0, none⟩)) rfl (by kernel_rfl) rfl) ?_
    simp only [Act.put, List.setIfInBounds_toArray, List.set_cons_succ, List.set_cons_zero]
    refine l_val (o := ⟨some 45, _, _, _, _, _⟩) (.int .i64 (-1)) rfl (exec_extract (.tmp 41) [.pointer (some ⟨pu, 0, none⟩), .int .i64 (-1)] 1 (.int .i64 (-1)) rfl (by kernel_rfl) rfl) ?_
    simp only [Act.put, List.setIfInBounds_toArray, List.set_cons_succ, List.set_cons_zero]
    refine l_val (o := ⟨some 18, _, _, _, _, _⟩) (.pointer (some ⟨pu, 0, none⟩)) rfl (exec_assign (.tmp 44) (.pointer (some ⟨pu, 0, none⟩)) rfl (by kernel_rfl)) ?_
    simp only [Act.put, List.setIfInBounds_toArray, List.set_cons_succ, List.set_cons_zero]
    refine l_val (o := ⟨some 19, _, _, _, _, _⟩) (.int .i64 (-1)) rfl (exec_assign (.tmp 45) (.int .i64 (-1)) rfl (by kernel_rfl)) ?_
    simp only [Act.put, List.setIfInBounds_toArray, List.set_cons_succ, List.set_cons_zero]
    refine wpList_nil ?_
    have zkpu : v5.heap.size ≤ pu := by have h_ := ka.size; omega
    have zlpu : pu < wn5.heap.size := hP_.lt
    have U0 := Lib.hid hP_
    have kz := ka.trans kn_
    clear hP_ ka kn_ hp_
    have G_6 := Lib.hid (G_5.out.kept kz)
    have R7_6 := Lib.hid (range_kept R7_5.out kz)
    have A13_6 := Lib.hid (A13_5.out.kept kz)
    have T_6 := Lib.hid (T_5.out.kept kz)
    have zs6 := kz.size
    have kk6 := kk5.trans kz
    clear G_5 R7_5 A13_5 T_5 kz kk5
    go_upto_region 8 with fail
    refine wp_text 16 [.eq (.pointer (some ⟨pt, 0, none⟩)), .eq (.bool false), .eq (.bool false), .eq (.pointer (some ⟨pu, 0, none⟩)), .eq (.bool false), .eq (.bool false), .eq (.bool false), .eq (.pointer (some ⟨pu, 0, none⟩)), .eq (p.v), .eq (.int .i64 (k : Int)), .eq (.int .i64 d), .eq (.int .i64 inst), .eq (.int .i64 other), .eq (.int .i64 V0), .eq (.bool false), .eq (.bool false)] rfl (by kernel_rfl) ?_ ?_
    · refine sv 1 rfl rfl rfl (fun a u hE hD hk => exec_move (.tmp 16) _ rfl (hE 16 (.pointer (some ⟨pt, 0, none⟩)) (by kernel_rfl) (by kernel_rfl))) ?_
      refine sv 2 rfl rfl rfl (fun a u hE hD hk => exec_eqP (.tmp 46) _ _ ⟨pt, 0, none⟩ (by kernel_rfl) rfl (hD 0 46 (by kernel_rfl))) ?_
      refine sv 3 rfl rfl rfl (fun a u hE hD hk => exec_move (.tmp 47) _ rfl (hD 1 47 (by kernel_rfl))) ?_
      refine fsteps_cons 4 rfl (fun a u hE hD hk => f_val (o := ⟨some 49, _, _, _, _, _⟩) (.pointer (some ⟨pu, 0, none⟩)) rfl (wanted_at (b := false) false rfl rfl (hD 2 48 (by kernel_rfl))) (exec_move (.tmp 18) _ rfl (hE 18 (.pointer (some ⟨pu, 0, none⟩)) (by kernel_rfl) (by kernel_rfl))) rfl) ?_
      refine fsteps_cons 5 rfl (fun a u hE hD hk => f_val (o := ⟨some 50, _, _, _, _, _⟩) (.bool false) rfl (wanted_at (b := false) false rfl rfl (hD 2 48 (by kernel_rfl))) (exec_eqP (.tmp 49) _ _ ⟨pu, 0, none⟩ (by kernel_rfl) rfl (hD 3 49 (by kernel_rfl))) rfl) ?_
      refine sv 6 rfl rfl rfl (fun a u hE hD hk => exec_pickF (.tmp 48) (.const (.bool true)) (.tmp 50) (.bool false) rfl (hD 2 48 (by kernel_rfl)) (hD 4 50 (by kernel_rfl))) ?_
      refine sv 7 rfl rfl rfl (fun a u hE hD hk => exec_move (.tmp 51) _ rfl (hD 5 51 (by kernel_rfl))) ?_
      refine fsteps_cons 8 rfl (fun a u hE hD hk => f_val (o := ⟨some 53, _, _, _, _, _⟩) (.pointer (some ⟨pu, 0, none⟩)) rfl (wanted_at (b := false) false rfl rfl (hD 6 52 (by kernel_rfl))) (exec_move (.tmp 18) _ rfl (hE 18 (.pointer (some ⟨pu, 0, none⟩)) (by kernel_rfl) (by kernel_rfl))) rfl) ?_
      refine fsteps_cons 9 rfl (fun a u hE hD hk => f_val (o := ⟨some 54, _, _, _, _, _⟩) (p.v) rfl (wanted_at (b := false) false rfl rfl (hD 6 52 (by kernel_rfl))) (exec_ldS 29 _ (.tmp 7) (g7) (0) (p.cells) rfl (hE 7 (.pointer (some ⟨g7, 0, none⟩)) (by kernel_rfl) (by kernel_rfl)) (range_kept R7_6.out hk) Tryd.underlying29 (by rw [p.len24]; exact szP)) rfl) ?_
      refine fsteps_cons 10 rfl (fun a u hE hD hk => f_val (o := ⟨some 55, _, _, _, _, _⟩) (.int .i64 (k : Int)) rfl (wanted_at (b := false) false rfl rfl (hD 6 52 (by kernel_rfl))) (exec_move (.tmp 14) _ rfl (hE 14 (.int .i64 (k : Int)) (by kernel_rfl) (by kernel_rfl))) rfl) ?_
      refine fsteps_cons 11 rfl (fun a u hE hD hk => f_val (o := ⟨some 56, _, _, _, _, _⟩) (.int .i64 d) rfl (wanted_at (b := false) false rfl rfl (hD 6 52 (by kernel_rfl))) (exec_move (.tmp 3) _ rfl (hE 3 (.int .i64 d) (by kernel_rfl) (by kernel_rfl))) rfl) ?_
      refine fsteps_cons 12 rfl (fun a u hE hD hk => f_val (o := ⟨some 57, _, _, _, _, _⟩) (.int .i64 inst) rfl (wanted_at (b := false) false rfl rfl (hD 6 52 (by kernel_rfl))) (exec_move (.tmp 4) _ rfl (hE 4 (.int .i64 inst) (by kernel_rfl) (by kernel_rfl))) rfl) ?_
      refine fsteps_cons 13 rfl (fun a u hE hD hk => f_val (o := ⟨some 58, _, _, _, _, _⟩) (.int .i64 other) rfl (wanted_at (b := false) false rfl rfl (hD 6 52 (by kernel_rfl))) (exec_move (.tmp 5) _ rfl (hE 5 (.int .i64 other) (by kernel_rfl) (by kernel_rfl))) rfl) ?_
      refine fsteps_cons 14 rfl (fun a u hE hD hk => f_call (o := ⟨some 59, _, _, _, _, _⟩) 10 #[.pointer (some ⟨pu, 0, none⟩), p.v, .int .i64 (k : Int), .int .i64 d, .int .i64 inst, .int .i64 other] rfl (wanted_at (b := false) false rfl rfl (hD 6 52 (by kernel_rfl))) (exec_call 10 _ [.tmp 53, .tmp 54, .tmp 55, .tmp 56, .tmp 57, .tmp 58] _ [.pointer (some ⟨pu, 0, none⟩), p.v, .int .i64 (k : Int), .int .i64 d, .int .i64 inst, .int .i64 other] Tryd.func10 (by kernel_rfl) (by kernel_rfl) rfl (show [a.eval (.tmp 53), a.eval (.tmp 54), a.eval (.tmp 55), a.eval (.tmp 56), a.eval (.tmp 57), a.eval (.tmp 58)] = [.pointer (some ⟨pu, 0, none⟩), p.v, .int .i64 (k : Int), .int .i64 d, .int .i64 inst, .int .i64 other] from (by rw [show a.eval (.tmp 53) = .pointer (some ⟨pu, 0, none⟩) from (hD 7 53 (by kernel_rfl)), show a.eval (.tmp 54) = p.v from (hD 8 54 (by kernel_rfl)), show a.eval (.tmp 55) = .int .i64 (k : Int) from (hD 9 55 (by kernel_rfl)), show a.eval (.tmp 56) = .int .i64 d from (hD 10 56 (by kernel_rfl)), show a.eval (.tmp 57) = .int .i64 inst from (hD 11 57 (by kernel_rfl)), show a.eval (.tmp 58) = .int .i64 other from (hD 12 58 (by kernel_rfl))] <;> rfl)) u) (may_at (G_6.out.kept hk) (U0.out.kept hk) HUo.out HV0.out)) ?_
      refine fsteps_cons 15 rfl (fun a u hE hD hk => f_as (show ((decide ((V0 : Int) = (0 : Int))) : Bool) = false from decide_eq_false hn0) (f_val (o := ⟨some 60, _, _, _, _, _⟩) (.bool (decide ((V0 : Int) = (0 : Int)))) rfl (wanted_at (b := false) false rfl rfl (hD 6 52 (by kernel_rfl))) (exec_eqn (p := V0) (q := 0) rfl (hD 13 59 (by kernel_rfl)) rfl) rfl)) ?_
      refine sv 16 rfl rfl rfl (fun a u hE hD hk => exec_pickF (.tmp 52) (.const (.bool true)) (.tmp 60) (.bool false) rfl (hD 6 52 (by kernel_rfl)) (hD 14 60 (by kernel_rfl))) ?_
      exact fsteps_nil
    intro gv v7 hV kv7
    rw [show dstsOf _ 16 = [46, 47, 48, 49, 50, 51, 52, 53, 54, 55, 56, 57, 58, 59, 60, 61] by kernel_rfl]
    simp only [List.foldl_cons, List.foldl_nil, List.setIfInBounds_toArray, List.set_cons_succ, List.set_cons_zero, List.drop_succ_cons, List.drop_zero]
    rw [show gv 61 = .bool false from hV 15 61 (by kernel_rfl)]
    clear hV
    refine wpList_nil ?_
    have G_7 := Lib.hid (G_6.out.kept kv7)
    have R7_7 := Lib.hid (range_kept R7_6.out kv7)
    have A13_7 := Lib.hid (A13_6.out.kept kv7)
    have T_7 := Lib.hid (T_6.out.kept kv7)
    have zs7 := kv7.size
    have kk7 := kk6.trans kv7
    clear G_6 R7_6 A13_6 T_6 U0 kv7 kk6
    go_upto_region 10 with fail
    refine wp_allocs [0, 1] 29 zeroP.cells [(2, 20), (3, 21)] [(4, 1), (5, 1)] (by kernel_rfl) zPh (by kernel_rfl) ?_
    refine p_val (o := ⟨some 62, _, _, _, _, _⟩) p.v rfl rfl (fun u hu => exec_ldS 29 _ (.tmp 7) g7 0 p.cells rfl (by kernel_rfl) (range_kept R7_7.out hu) Tryd.underlying29 (by rw [Phs.len24]; exact szP)) ?_
    simp only [Act.put, List.setIfInBounds_toArray, List.set_cons_succ, List.set_cons_zero]
    refine p_val (o := ⟨some 63, _, _, _, _, _⟩) p.v rfl rfl (fun u hu => exec_ldS 29 _ (.tmp 7) g7 0 p.cells rfl (by kernel_rfl) (range_kept R7_7.out hu) Tryd.underlying29 (by rw [Phs.len24]; exact szP)) ?_
    simp only [Act.put, List.setIfInBounds_toArray, List.set_cons_succ, List.set_cons_zero]
    intro β u1 hβ hβd ku1
    obtain ⟨hg8, A1⟩ : v7.heap.size ≤ β 20 ∧ Blk u1 (β 20) 29 zeroP.cells := hβ (2, 20) (by decide)
    obtain ⟨hg9, B1⟩ : v7.heap.size ≤ β 21 ∧ Blk u1 (β 21) 29 zeroP.cells := hβ (3, 21) (by decide)
    have nab : β 20 ≠ β 21 := hβd (2, 20) (by decide) (3, 21) (by decide) (by decide)
    clear hβ hβd
    simp only [puts, List.foldl_cons, List.foldl_nil]
    simp only [Act.put, List.setIfInBounds_toArray, List.set_cons_succ, List.set_cons_zero]
    obtain ⟨g20, hg20⟩ : ∃ z, β 20 = z := ⟨_, rfl⟩
    obtain ⟨g21, hg21⟩ : ∃ z, β 21 = z := ⟨_, rfl⟩
    rw [hg20] at hg8 A1 nab ⊢
    rw [hg21] at hg9 B1 nab ⊢
    clear hg20 hg21 β
    refine s_setS (o := ⟨none, _, _, _, _, _⟩) 29 g20 29 zeroP.cells p.cells (.tmp 20) (.tmp 62) rfl rfl rfl (by kernel_rfl) (by kernel_rfl) A1 (by rw [Phs.len24]; exact szP) (by rw [Phs.len24, Phs.len24]) (Phs.one _) (fun w' hk => Kept.trans' ku1 hk (by omega)) ?_
    intro u2 A2 k2
    have ku2 : Kept v7 u2 := Kept.trans' ku1 k2 (by omega)
    have B2 := B1.keep k2 (by omega)
    simp only [Act.put]
    refine s_setS (o := ⟨none, _, _, _, _, _⟩) 29 g21 29 zeroP.cells p.cells (.tmp 21) (.tmp 63) rfl rfl rfl (by kernel_rfl) (by kernel_rfl) B2 (by rw [Phs.len24]; exact szP) (by rw [Phs.len24, Phs.len24]) (Phs.one _) (fun w' hk => Kept.trans' ku2 hk (by omega)) ?_
    intro wq B3 k3
    have kz : Kept v7 wq := Kept.trans' ku2 k3 (by omega)
    have A3 := A2.keep k3 (by omega)
    simp only [Act.put]
    refine s_done ?_
    have P0 := Lib.hid A3
    have H0 := Lib.hid B3
    have zq20 : g20 < wq.heap.size := A3.lt
    have zq21 : g21 < wq.heap.size := B3.lt
    clear A1 B1 A2 B2 k2 k3 ku1 ku2 A3 B3
    have G_9 := Lib.hid (G_7.out.kept kz)
    have R7_9 := Lib.hid (range_kept R7_7.out kz)
    have A13_9 := Lib.hid (A13_7.out.kept kz)
    have T_9 := Lib.hid (T_7.out.kept kz)
    have zs9 := kz.size
    have kk9 := kk7.trans kz
    clear G_7 R7_7 A13_7 T_7 kz kk7
    have HAX : Hid (wq.rangeAt g13 (k * 37) y.cells) := by show World.rangeAt _ _ _ _; rw [← HAY.out]; exact trds_range A13_9.out hklt
    go_upto_region 11 with fail
    refine wp_text 6 [.eq (.int .i64 (k : Int)), .eq (.pointer (some ⟨g13, k * 37, none⟩)), .eq (.pointer (some ⟨g13, k * 37, none⟩)), .eq (.int .i64 y.firm), .eq (.pointer (some ⟨g20, 8, none⟩)), .eq (.pointer (some ⟨g20, 8 + f, none⟩))] rfl (by kernel_rfl) ?_ ?_
    · refine sv 1 rfl rfl rfl (fun a u hE hD hk => exec_move (.tmp 14) _ rfl (hE 14 (.int .i64 (k : Int)) (by kernel_rfl) (by kernel_rfl))) ?_
      refine sv 2 rfl rfl rfl (fun a u hE hD hk => exec_ixA (.tmp 13) (.tmp 64) (g13) k ((k : Int)) rfl (hE 13 (.pointer (some ⟨g13, 0, none⟩)) (by kernel_rfl) (by kernel_rfl)) (hD 0 64 (by kernel_rfl)) (by first | rfl | omega) (hklt)) ?_
      refine sv 3 rfl rfl rfl (fun a u hE hD hk => exec_fldo 35 0 0 (.tmp 65) (g13) (k * 37) (k * 37) rfl (hD 1 65 (by kernel_rfl)) (by kernel_rfl) rfl) ?_
      refine sv 4 rfl rfl rfl (fun a u hE hD hk => exec_loadi 3 Tryd.underlying3 (.tmp 66) ⟨g13, k * 37, none⟩ (.int .i64 y.firm) rfl (hD 2 66 (by kernel_rfl)) ((range_kept (HAX.out) hk) 0 _ rfl)) ?_
      refine sv 5 rfl rfl rfl (fun a u hE hD hk => exec_fldo 29 1 8 (.tmp 20) (g20) (0) (8) rfl (hE 20 (.pointer (some ⟨g20, 0, none⟩)) (by kernel_rfl) (by kernel_rfl)) (by kernel_rfl) rfl) ?_
      refine sv 6 rfl rfl rfl (fun a u hE hD hk => exec_ixC 26 4 8 (.tmp 68) (.tmp 67) g20 8 (8 + f) f y.firm rfl Tryd.underlying26 (by kernel_rfl) (hD 4 68 (by kernel_rfl)) (hD 3 67 (by kernel_rfl)) hyf hf rfl) ?_
      exact fsteps_nil
    intro gv wa hV ka
    rw [show dstsOf _ 6 = [64, 65, 66, 67, 68, 69] by kernel_rfl]
    simp only [List.foldl_cons, List.foldl_nil, List.setIfInBounds_toArray, List.set_cons_succ, List.set_cons_zero, List.drop_succ_cons, List.drop_zero]
    rw [show gv 69 = .pointer (some ⟨g20, 8 + f, none⟩) from hV 5 69 (by kernel_rfl)]
    clear hV
    refine l_putB (o := ⟨none, _, _, _, _, _⟩) g20 (8 + f) 29 p.cells Q1.cells true (.tmp 69) (.const (.bool true)) rfl rfl (by kernel_rfl) rfl (P0.out.kept ka) (by rw [Phs.len24]; omega) HQ1.out ?_
    intro wS hS kS sS
    simp only [Act.put]
    refine wpList_nil ?_
    have zka := ka.size
    have zkS := kS.size
    have G_10 := Lib.hid ((G_9.out.kept ka).keep kS (by omega))
    have R7_10 := Lib.hid (range_keep (range_kept R7_9.out ka) kS (by omega))
    have T_10 := Lib.hid ((T_9.out.kept ka).keep kS (by omega))
    have P21_10 := Lib.hid ((H0.out.kept ka).keep kS (by omega))
    have P20_10 := Lib.hid hS
    have zs10 : wq.heap.size ≤ wS.heap.size := by omega
    have kk10 : Kept w wS := (kk9.trans ka).trans' kS (by omega)
    clear G_9 R7_9 A13_9 T_9 P0 H0 HAX kk9 hS kS sS ka zka zkS
    obtain ⟨v10w, hv10w⟩ : ∃ z, wS = z := ⟨_, rfl⟩
    rw [hv10w] at G_10 R7_10 T_10 P21_10 P20_10 zs10 kk10 ⊢
    clear hv10w
    go_upto_region 12 with fail
    refine wp_text 3 [.eq (.int .i64 (i : Int)), .eq (.pointer (some ⟨g21, 0, none⟩)), .eq (.pointer (some ⟨g21, i, none⟩))] rfl (by kernel_rfl) ?_ ?_
    · refine sv 1 rfl rfl rfl (fun a u hE hD hk => exec_move (.tmp 15) _ rfl (hE 15 (.int .i64 (i : Int)) (by kernel_rfl) (by kernel_rfl))) ?_
      refine sv 2 rfl rfl rfl (fun a u hE hD hk => exec_fldo 29 0 0 (.tmp 21) (g21) (0) (0) rfl (hE 21 (.pointer (some ⟨g21, 0, none⟩)) (by kernel_rfl) (by kernel_rfl)) (by kernel_rfl) rfl) ?_
      refine sv 3 rfl rfl rfl (fun a u hE hD hk => exec_ixC 26 4 8 (.tmp 71) (.tmp 70) g21 0 i i (i : Int) rfl Tryd.underlying26 (by kernel_rfl) (hD 1 71 (by kernel_rfl)) (hD 0 70 (by kernel_rfl)) rfl hilt (Nat.zero_add i)) ?_
      exact fsteps_nil
    intro gv wa hV ka
    rw [show dstsOf _ 3 = [70, 71, 72] by kernel_rfl]
    simp only [List.foldl_cons, List.foldl_nil, List.setIfInBounds_toArray, List.set_cons_succ, List.set_cons_zero, List.drop_succ_cons, List.drop_zero]
    rw [show gv 72 = .pointer (some ⟨g21, i, none⟩) from hV 2 72 (by kernel_rfl)]
    clear hV
    refine l_putB (o := ⟨none, _, _, _, _, _⟩) g21 i 29 p.cells Q2.cells true (.tmp 72) (.const (.bool true)) rfl rfl (by kernel_rfl) rfl (P21_10.out.kept ka) (by rw [Phs.len24]; omega) HQ2.out ?_
    intro wS hS kS sS
    simp only [Act.put]
    refine wpList_nil ?_
    have zka := ka.size
    have zkS := kS.size
    have G_11 := Lib.hid ((G_10.out.kept ka).keep kS (by omega))
    have R7_11 := Lib.hid (range_keep (range_kept R7_10.out ka) kS (by omega))
    have T_11 := Lib.hid ((T_10.out.kept ka).keep kS (by omega))
    have P20_11 := Lib.hid ((P20_10.out.kept ka).keep kS (by omega))
    have P21_11 := Lib.hid hS
    have zs11 : v10w.heap.size ≤ wS.heap.size := by omega
    have kk11 : Kept w wS := (kk10.trans ka).trans' kS (by omega)
    clear G_10 R7_10 T_10 P21_10 P20_10 kk10 hS kS sS ka zka zkS
    obtain ⟨v11w, hv11w⟩ : ∃ z, wS = z := ⟨_, rfl⟩
    rw [hv11w] at G_11 R7_11 T_11 P20_11 P21_11 zs11 kk11 ⊢
    clear hv11w
    go_upto_region 13 with fail
    refine wp_text 28 [.eq (.pointer (some ⟨pt, 0, none⟩)), .eq (Q1.v), .eq (.int .i64 (k : Int)), .eq (.int .i64 (i : Int)), .eq (.int .i64 (k : Int)), .eq (.int .i64 V1), .eq (.bool true), .eq (.bool true), .eq (.pointer (some ⟨pt, 0, none⟩)), .eq (Q1.v), .eq (.int .i64 (k : Int)), .eq (.int .i64 other), .eq (.int .i64 V2), .eq (.bool true), .eq (.bool true), .eq (.bool true), .eq (.pointer (some ⟨pt, 0, none⟩)), .eq (Q2.v), .eq (.int .i64 (k : Int)), .eq (.int .i64 (i : Int)), .eq (.int .i64 (k : Int)), .eq (.int .i64 V3), .eq (.bool true), .eq (.bool true), .eq (.bool true), .eq (.bool true), .eq (.bool true), .eq (.bool true)] rfl (by kernel_rfl) ?_ ?_
    · refine sv 1 rfl rfl rfl (fun a u hE hD hk => exec_move (.tmp 16) _ rfl (hE 16 (.pointer (some ⟨pt, 0, none⟩)) (by kernel_rfl) (by kernel_rfl))) ?_
      refine sv 2 rfl rfl rfl (fun a u hE hD hk => exec_ldS 29 _ (.tmp 20) (g20) (0) (Q1.cells) rfl (hE 20 (.pointer (some ⟨g20, 0, none⟩)) (by kernel_rfl) (by kernel_rfl)) (range_kept (blk_range P20_11.out) hk) Tryd.underlying29 (by rw [Q1.len24]; exact szP)) ?_
      refine sv 3 rfl rfl rfl (fun a u hE hD hk => exec_move (.tmp 14) _ rfl (hE 14 (.int .i64 (k : Int)) (by kernel_rfl) (by kernel_rfl))) ?_
      refine sv 4 rfl rfl rfl (fun a u hE hD hk => exec_move (.tmp 15) _ rfl (hE 15 (.int .i64 (i : Int)) (by kernel_rfl) (by kernel_rfl))) ?_
      refine sv 5 rfl rfl rfl (fun a u hE hD hk => exec_move (.tmp 14) _ rfl (hE 14 (.int .i64 (k : Int)) (by kernel_rfl) (by kernel_rfl))) ?_
      refine fsteps_cons 6 rfl (fun a u hE hD hk => f_call (o := ⟨some 78, _, _, _, _, _⟩) 10 #[.pointer (some ⟨pt, 0, none⟩), Q1.v, .int .i64 (k : Int), .int .i64 1, .int .i64 (i : Int), .int .i64 (k : Int)] rfl (wanted_none rfl _) (exec_call 10 _ [.tmp 73, .tmp 74, .tmp 75, .const (.int .i64 1), .tmp 76, .tmp 77] _ [.pointer (some ⟨pt, 0, none⟩), Q1.v, .int .i64 (k : Int), .int .i64 1, .int .i64 (i : Int), .int .i64 (k : Int)] Tryd.func10 (by kernel_rfl) (by kernel_rfl) rfl (show [a.eval (.tmp 73), a.eval (.tmp 74), a.eval (.tmp 75), a.eval (.const (.int .i64 1)), a.eval (.tmp 76), a.eval (.tmp 77)] = [.pointer (some ⟨pt, 0, none⟩), Q1.v, .int .i64 (k : Int), .int .i64 1, .int .i64 (i : Int), .int .i64 (k : Int)] from (by rw [show a.eval (.tmp 73) = .pointer (some ⟨pt, 0, none⟩) from (hD 0 73 (by kernel_rfl)), show a.eval (.tmp 74) = Q1.v from (hD 1 74 (by kernel_rfl)), show a.eval (.tmp 75) = .int .i64 (k : Int) from (hD 2 75 (by kernel_rfl)), show a.eval (.tmp 76) = .int .i64 (i : Int) from (hD 3 76 (by kernel_rfl)), show a.eval (.tmp 77) = .int .i64 (k : Int) from (hD 4 77 (by kernel_rfl))] <;> rfl)) u) (may_at (G_11.out.kept hk) (T_11.out.kept hk) HOk.out HV1.out)) ?_
      refine fsteps_cons 7 rfl (fun a u hE hD hk => f_as (show ((decide ((V1 : Int) ≠ (0 : Int))) : Bool) = true from decide_eq_true hn1) (f_val (o := ⟨some 79, _, _, _, _, _⟩) (.bool (decide ((V1 : Int) ≠ (0 : Int)))) rfl (wanted_none rfl _) (exec_nen (p := V1) (q := 0) rfl (hD 5 78 (by kernel_rfl)) rfl) rfl)) ?_
      refine sv 8 rfl rfl rfl (fun a u hE hD hk => exec_move (.tmp 79) _ rfl (hD 6 79 (by kernel_rfl))) ?_
      refine fsteps_cons 9 rfl (fun a u hE hD hk => f_val (o := ⟨some 81, _, _, _, _, _⟩) (.pointer (some ⟨pt, 0, none⟩)) rfl (wanted_at (b := true) true rfl rfl (hD 7 80 (by kernel_rfl))) (exec_move (.tmp 16) _ rfl (hE 16 (.pointer (some ⟨pt, 0, none⟩)) (by kernel_rfl) (by kernel_rfl))) rfl) ?_
      refine fsteps_cons 10 rfl (fun a u hE hD hk => f_val (o := ⟨some 82, _, _, _, _, _⟩) (Q1.v) rfl (wanted_at (b := true) true rfl rfl (hD 7 80 (by kernel_rfl))) (exec_ldS 29 _ (.tmp 20) (g20) (0) (Q1.cells) rfl (hE 20 (.pointer (some ⟨g20, 0, none⟩)) (by kernel_rfl) (by kernel_rfl)) (range_kept (blk_range P20_11.out) hk) Tryd.underlying29 (by rw [Q1.len24]; exact szP)) rfl) ?_
      refine fsteps_cons 11 rfl (fun a u hE hD hk => f_val (o := ⟨some 83, _, _, _, _, _⟩) (.int .i64 (k : Int)) rfl (wanted_at (b := true) true rfl rfl (hD 7 80 (by kernel_rfl))) (exec_move (.tmp 14) _ rfl (hE 14 (.int .i64 (k : Int)) (by kernel_rfl) (by kernel_rfl))) rfl) ?_
      refine fsteps_cons 12 rfl (fun a u hE hD hk => f_val (o := ⟨some 84, _, _, _, _, _⟩) (.int .i64 other) rfl (wanted_at (b := true) true rfl rfl (hD 7 80 (by kernel_rfl))) (exec_move (.tmp 5) _ rfl (hE 5 (.int .i64 other) (by kernel_rfl) (by kernel_rfl))) rfl) ?_
      refine fsteps_cons 13 rfl (fun a u hE hD hk => f_call (o := ⟨some 85, _, _, _, _, _⟩) 10 #[.pointer (some ⟨pt, 0, none⟩), Q1.v, .int .i64 (k : Int), .int .i64 3, .int .i64 0, .int .i64 other] rfl (wanted_at (b := true) true rfl rfl (hD 7 80 (by kernel_rfl))) (exec_call 10 _ [.tmp 81, .tmp 82, .tmp 83, .const (.int .i64 3), .const (.int .i64 0), .tmp 84] _ [.pointer (some ⟨pt, 0, none⟩), Q1.v, .int .i64 (k : Int), .int .i64 3, .int .i64 0, .int .i64 other] Tryd.func10 (by kernel_rfl) (by kernel_rfl) rfl (show [a.eval (.tmp 81), a.eval (.tmp 82), a.eval (.tmp 83), a.eval (.const (.int .i64 3)), a.eval (.const (.int .i64 0)), a.eval (.tmp 84)] = [.pointer (some ⟨pt, 0, none⟩), Q1.v, .int .i64 (k : Int), .int .i64 3, .int .i64 0, .int .i64 other] from (by rw [show a.eval (.tmp 81) = .pointer (some ⟨pt, 0, none⟩) from (hD 8 81 (by kernel_rfl)), show a.eval (.tmp 82) = Q1.v from (hD 9 82 (by kernel_rfl)), show a.eval (.tmp 83) = .int .i64 (k : Int) from (hD 10 83 (by kernel_rfl)), show a.eval (.tmp 84) = .int .i64 other from (hD 11 84 (by kernel_rfl))] <;> rfl)) u) (may_at (G_11.out.kept hk) (T_11.out.kept hk) HOk.out HV2.out)) ?_
      refine fsteps_cons 14 rfl (fun a u hE hD hk => f_as (show ((decide ((V2 : Int) ≠ (0 : Int))) : Bool) = true from decide_eq_true hn2) (f_val (o := ⟨some 86, _, _, _, _, _⟩) (.bool (decide ((V2 : Int) ≠ (0 : Int)))) rfl (wanted_at (b := true) true rfl rfl (hD 7 80 (by kernel_rfl))) (exec_nen (p := V2) (q := 0) rfl (hD 12 85 (by kernel_rfl)) rfl) rfl)) ?_
      refine sv 15 rfl rfl rfl (fun a u hE hD hk => exec_pick (.tmp 80) (.tmp 86) (.const (.bool false)) (.bool true) rfl (hD 7 80 (by kernel_rfl)) (hD 13 86 (by kernel_rfl))) ?_
      refine sv 16 rfl rfl rfl (fun a u hE hD hk => exec_move (.tmp 87) _ rfl (hD 14 87 (by kernel_rfl))) ?_
      refine fsteps_cons 17 rfl (fun a u hE hD hk => f_val (o := ⟨some 89, _, _, _, _, _⟩) (.pointer (some ⟨pt, 0, none⟩)) rfl (wanted_at (b := true) true rfl rfl (hD 15 88 (by kernel_rfl))) (exec_move (.tmp 16) _ rfl (hE 16 (.pointer (some ⟨pt, 0, none⟩)) (by kernel_rfl) (by kernel_rfl))) rfl) ?_
      refine fsteps_cons 18 rfl (fun a u hE hD hk => f_val (o := ⟨some 90, _, _, _, _, _⟩) (Q2.v) rfl (wanted_at (b := true) true rfl rfl (hD 15 88 (by kernel_rfl))) (exec_ldS 29 _ (.tmp 21) (g21) (0) (Q2.cells) rfl (hE 21 (.pointer (some ⟨g21, 0, none⟩)) (by kernel_rfl) (by kernel_rfl)) (range_kept (blk_range P21_11.out) hk) Tryd.underlying29 (by rw [Q2.len24]; exact szP)) rfl) ?_
      refine fsteps_cons 19 rfl (fun a u hE hD hk => f_val (o := ⟨some 91, _, _, _, _, _⟩) (.int .i64 (k : Int)) rfl (wanted_at (b := true) true rfl rfl (hD 15 88 (by kernel_rfl))) (exec_move (.tmp 14) _ rfl (hE 14 (.int .i64 (k : Int)) (by kernel_rfl) (by kernel_rfl))) rfl) ?_
      refine fsteps_cons 20 rfl (fun a u hE hD hk => f_val (o := ⟨some 92, _, _, _, _, _⟩) (.int .i64 (i : Int)) rfl (wanted_at (b := true) true rfl rfl (hD 15 88 (by kernel_rfl))) (exec_move (.tmp 15) _ rfl (hE 15 (.int .i64 (i : Int)) (by kernel_rfl) (by kernel_rfl))) rfl) ?_
      refine fsteps_cons 21 rfl (fun a u hE hD hk => f_val (o := ⟨some 93, _, _, _, _, _⟩) (.int .i64 (k : Int)) rfl (wanted_at (b := true) true rfl rfl (hD 15 88 (by kernel_rfl))) (exec_move (.tmp 14) _ rfl (hE 14 (.int .i64 (k : Int)) (by kernel_rfl) (by kernel_rfl))) rfl) ?_
      refine fsteps_cons 22 rfl (fun a u hE hD hk => f_call (o := ⟨some 94, _, _, _, _, _⟩) 10 #[.pointer (some ⟨pt, 0, none⟩), Q2.v, .int .i64 (k : Int), .int .i64 1, .int .i64 (i : Int), .int .i64 (k : Int)] rfl (wanted_at (b := true) true rfl rfl (hD 15 88 (by kernel_rfl))) (exec_call 10 _ [.tmp 89, .tmp 90, .tmp 91, .const (.int .i64 1), .tmp 92, .tmp 93] _ [.pointer (some ⟨pt, 0, none⟩), Q2.v, .int .i64 (k : Int), .int .i64 1, .int .i64 (i : Int), .int .i64 (k : Int)] Tryd.func10 (by kernel_rfl) (by kernel_rfl) rfl (show [a.eval (.tmp 89), a.eval (.tmp 90), a.eval (.tmp 91), a.eval (.const (.int .i64 1)), a.eval (.tmp 92), a.eval (.tmp 93)] = [.pointer (some ⟨pt, 0, none⟩), Q2.v, .int .i64 (k : Int), .int .i64 1, .int .i64 (i : Int), .int .i64 (k : Int)] from (by rw [show a.eval (.tmp 89) = .pointer (some ⟨pt, 0, none⟩) from (hD 16 89 (by kernel_rfl)), show a.eval (.tmp 90) = Q2.v from (hD 17 90 (by kernel_rfl)), show a.eval (.tmp 91) = .int .i64 (k : Int) from (hD 18 91 (by kernel_rfl)), show a.eval (.tmp 92) = .int .i64 (i : Int) from (hD 19 92 (by kernel_rfl)), show a.eval (.tmp 93) = .int .i64 (k : Int) from (hD 20 93 (by kernel_rfl))] <;> rfl)) u) (may_at (G_11.out.kept hk) (T_11.out.kept hk) HOk.out HV3.out)) ?_
      refine fsteps_cons 23 rfl (fun a u hE hD hk => f_as (show ((decide ((V3 : Int) ≠ (0 : Int))) : Bool) = true from decide_eq_true hn3) (f_val (o := ⟨some 95, _, _, _, _, _⟩) (.bool (decide ((V3 : Int) ≠ (0 : Int)))) rfl (wanted_at (b := true) true rfl rfl (hD 15 88 (by kernel_rfl))) (exec_nen (p := V3) (q := 0) rfl (hD 21 94 (by kernel_rfl)) rfl) rfl)) ?_
      refine sv 24 rfl rfl rfl (fun a u hE hD hk => exec_pick (.tmp 88) (.tmp 95) (.const (.bool false)) (.bool true) rfl (hD 15 88 (by kernel_rfl)) (hD 22 95 (by kernel_rfl))) ?_
      refine sv 25 rfl rfl rfl (fun a u hE hD hk => exec_move (.tmp 96) _ rfl (hD 23 96 (by kernel_rfl))) ?_
      refine fsteps_cons 26 rfl (fun a u hE hD hk => f_call (o := ⟨some 98, _, _, _, _, _⟩) 3 #[] rfl (wanted_at (b := true) true rfl rfl (hD 24 97 (by kernel_rfl))) (exec_call 3 _ [] _ [] Tryd.func3 (by kernel_rfl) (by kernel_rfl) rfl rfl u) (HAR.out u (kk11.trans hk))) ?_
      refine sv 27 rfl rfl rfl (fun a u hE hD hk => exec_pick (.tmp 97) (.tmp 98) (.const (.bool false)) (.bool true) rfl (hD 24 97 (by kernel_rfl)) (hD 25 98 (by kernel_rfl))) ?_
      refine sv 28 rfl rfl rfl (fun a u hE hD hk => exec_assign (.tmp 99) _ rfl (hD 26 99 (by kernel_rfl))) ?_
      exact fsteps_nil
    intro gv v12 hV kv12
    rw [show dstsOf _ 28 = [73, 74, 75, 76, 77, 78, 79, 80, 81, 82, 83, 84, 85, 86, 87, 88, 89, 90, 91, 92, 93, 94, 95, 96, 97, 98, 99, 12] by kernel_rfl]
    simp only [List.foldl_cons, List.foldl_nil, List.setIfInBounds_toArray, List.set_cons_succ, List.set_cons_zero, List.drop_succ_cons, List.drop_zero]
    rw [show gv 12 = .bool true from hV 27 12 (by kernel_rfl)]
    clear hV
    refine wpList_nil ?_
    have G_12 := Lib.hid (G_11.out.kept kv12)
    have R7_12 := Lib.hid (range_kept R7_11.out kv12)
    have T_12 := Lib.hid (T_11.out.kept kv12)
    have P20_12 := Lib.hid (P20_11.out.kept kv12)
    have P21_12 := Lib.hid (P21_11.out.kept kv12)
    have zs12 := kv12.size
    have kk12 := kk11.trans kv12
    clear G_11 R7_11 T_11 P20_11 P21_11 kv12 kk11
    go_wp2
    go_ret
    exact ⟨rfl, kk12⟩
end Go.Proofs.YtfoamgljfdnloaaDoor
