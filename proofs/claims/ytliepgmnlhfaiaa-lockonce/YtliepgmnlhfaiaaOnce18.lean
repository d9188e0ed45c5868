/-
  LockOnce: where one wrong answer is enough, each that counts locks for just as many ticks; it answers true. Condition: the moments as the arguments hold them.
-/
import Derived.Test.YtliepgmnlhfaiaaRuns18
import Derived.Test.YtliepgmnlhfaiaaElA
import Derived.Test.YtliepgmnlhfaiaaSlI
import Derived.Test.YtliepgmnlhfaiaaSame6
namespace Go.Proofs.Ytliepgmnlhfaiaa
open Go.RowKit
set_option linter.unusedVariables false
set_option maxRecDepth 100000

set_option maxRecDepth 100000 in
set_option maxHeartbeats 1600000 in
theorem lockOnce_any (tk : Int) (v : Value) (l : List Int) (w : World) (hv : IntsA w v l) : Calls Try.prog 8 #[.int .i64 tk, v] w fun e w' => e = .returned (.bool true) ∧ Kept w w' := by
  obtain ⟨A, ln, c, rfl, hl, hR, hI, hn, hc, hA⟩ := hv
  unfold maxLen at hc
  have HRI := Lib.hid hR
  clear hR hI hA
  obtain ⟨t, ht⟩ : ∃ z, wi tk 1 60 = z := ⟨_, rfl⟩
  have bt := wi_in tk 1 60 (by omega)
  rw [ht] at bt
  have Wt := Lib.hid ht
  clear ht
  go_enter Try.func8, Try.ntmps8
  go_upto_region 1 with fail
  refine wp_text 3 [.eq (.int .i64 tk), .eq (.int .i64 t), .eq (.int .i64 t)] rfl (by kernel_rfl) ?_ ?_
  · refine sv 1 rfl rfl rfl (fun a u hE hD hk => exec_move (.tmp 0) _ rfl (hE 0 (.int .i64 tk) (by kernel_rfl) (by kernel_rfl))) ?_
    refine fsteps_cons 2 rfl (fun a u hE hD hk => f_call (o := ⟨some 12, _, _, _, _, _⟩) 14 #[.int .i64 tk, .int .i64 1, .int .i64 60] rfl (wanted_none rfl _) (exec_call 14 _ [.tmp 11, .const (.int .i64 1), .const (.int .i64 60)] _ [.int .i64 tk, .int .i64 1, .int .i64 60] Try.func14 (by kernel_rfl) (by kernel_rfl) rfl (show [a.eval (.tmp 11), a.eval (.const (.int .i64 1)), a.eval (.const (.int .i64 60))] = [.int .i64 tk, .int .i64 1, .int .i64 60] from (by rw [show a.eval (.tmp 11) = .int .i64 tk from (hD 0 11 (by kernel_rfl))] <;> rfl)) u) (by rw [← Wt.out]; exact within_is tk 1 60 u (by omega) (by omega) (by omega))) ?_
    refine sv 3 rfl rfl rfl (fun a u hE hD hk => exec_assign (.tmp 12) _ rfl (hD 1 12 (by kernel_rfl))) ?_
    exact fsteps_nil
  intro gv w0 hV k0
  rw [show dstsOf _ 3 = [11, 12, 5] by kernel_rfl]
  simp only [List.foldl_cons, List.foldl_nil, List.setIfInBounds_toArray, List.set_cons_succ, List.set_cons_zero, List.drop_succ_cons, List.drop_zero]
  rw [show gv 5 = .int .i64 t from hV 2 5 (by kernel_rfl)]
  clear hV
  refine wpList_nil ?_
  go_upto_region 2 with fail
  refine wp_region_lit ?_
  refine l_val (o := ⟨some 14, _, _, _, _, _⟩) (.int .i64 t) rfl (exec_move (.tmp 5) (.int .i64 t) rfl (by kernel_rfl)) ?_
  simp only [Act.put, List.setIfInBounds_toArray, List.set_cons_succ, List.set_cons_zero]
  refine l_call (o := ⟨some 15, _, _, _, _, _⟩) 9 #[.int .i64 1, .int .i64 t] rfl (exec_call 9 _ [.const (.int .i64 1), .tmp 14] _ _ Try.func9 (by kernel_rfl) (by kernel_rfl) rfl (by kernel_rfl) _) ?_
  refine (lnew_yes 1 t (newB_iff.2 (by omega)) w0).mono ?_
  rintro e w1 ⟨g, rfl, hg, hB, kw1⟩
  refine ⟨_, rfl, ?_⟩
  simp only [Act.put, List.setIfInBounds_toArray, List.set_cons_succ, List.set_cons_zero]
  refine l_val (o := ⟨some 13, _, _, _, _, _⟩) (.tuple #[.pointer (some ⟨g, 0, none⟩), .int .i64 0]) rfl (exec_move (.tmp 15) (.tuple #[.pointer (some ⟨g, 0, none⟩), .int .i64 0]) rfl (by kernel_rfl)) ?_
  simp only [Act.put, List.setIfInBounds_toArray, List.set_cons_succ, List.set_cons_zero]
  refine l_val (o := ⟨some 16, _, _, _, _, _⟩) (.pointer (some ⟨g, 0, none⟩)) rfl (exec_extract (.tmp 13) [.pointer (some ⟨g, 0, none⟩), .int .i64 0] 0 (.pointer (some ⟨g, 0, none⟩)) rfl (by kernel_rfl) rfl) ?_
  simp only [Act.put, List.setIfInBounds_toArray, List.set_cons_succ, List.set_cons_zero]
  refine l_val (o := ⟨some 17, _, _, _, _, _⟩) (.int .i64 0) rfl (exec_extract (.tmp 13) [.pointer (some ⟨g, 0, none⟩), .int .i64 0] 1 (.int .i64 0) rfl (by kernel_rfl) rfl) ?_
  simp only [Act.put, List.setIfInBounds_toArray, List.set_cons_succ, List.set_cons_zero]
  refine l_val (o := ⟨some 6, _, _, _, _, _⟩) (.pointer (some ⟨g, 0, none⟩)) rfl (exec_assign (.tmp 16) (.pointer (some ⟨g, 0, none⟩)) rfl (by kernel_rfl)) ?_
  simp only [Act.put, List.setIfInBounds_toArray, List.set_cons_succ, List.set_cons_zero]
  refine l_val (o := ⟨some 7, _, _, _, _, _⟩) (.int .i64 0) rfl (exec_assign (.tmp 17) (.int .i64 0) rfl (by kernel_rfl)) ?_
  simp only [Act.put, List.setIfInBounds_toArray, List.set_cons_succ, List.set_cons_zero]
  refine wpList_nil ?_
  have HB := Lib.hid hB
  clear hB
  go_upto_region 3 with fail
  refine wp_text 6 [.eq (.pointer (some ⟨g, 0, none⟩)), .eq (.bool false), .eq (.bool false), .eq (.int .i64 0), .eq (.bool false), .eq (.bool false)] rfl (by kernel_rfl) ?_ ?_
  · refine sv 1 rfl rfl rfl (fun a u hE hD hk => exec_move (.tmp 6) _ rfl (hE 6 (.pointer (some ⟨g, 0, none⟩)) (by kernel_rfl) (by kernel_rfl))) ?_
    refine sv 2 rfl rfl rfl (fun a u hE hD hk => exec_eqP (.tmp 18) _ _ ⟨g, 0, none⟩ (by kernel_rfl) rfl (hD 0 18 (by kernel_rfl))) ?_
    refine sv 3 rfl rfl rfl (fun a u hE hD hk => exec_move (.tmp 19) _ rfl (hD 1 19 (by kernel_rfl))) ?_
    refine fsteps_cons 4 rfl (fun a u hE hD hk => f_val (o := ⟨some 21, _, _, _, _, _⟩) (.int .i64 0) rfl (wanted_at (b := false) false rfl rfl (hD 2 20 (by kernel_rfl))) (exec_move (.tmp 7) _ rfl (hE 7 (.int .i64 0) (by kernel_rfl) (by kernel_rfl))) rfl) ?_
    refine fsteps_cons 5 rfl (fun a u hE hD hk => f_as (show ((decide ((0 : Int) ≠ (0 : Int))) : Bool) = false from decide_eq_false (by omega)) (f_val (o := ⟨some 22, _, _, _, _, _⟩) (.bool (decide ((0 : Int) ≠ (0 : Int)))) rfl (wanted_at (b := false) false rfl rfl (hD 2 20 (by kernel_rfl))) (exec_nen (p := 0) (q := 0) rfl (hD 3 21 (by kernel_rfl)) rfl) rfl)) ?_
    refine sv 6 rfl rfl rfl (fun a u hE hD hk => exec_pickF (.tmp 20) (.const (.bool true)) (.tmp 22) (.bool false) rfl (hD 2 20 (by kernel_rfl)) (hD 4 22 (by kernel_rfl))) ?_
    exact fsteps_nil
  intro gv w2 hV kw2
  rw [show dstsOf _ 6 = [18, 19, 20, 21, 22, 23] by kernel_rfl]
  simp only [List.foldl_cons, List.foldl_nil, List.setIfInBounds_toArray, List.set_cons_succ, List.set_cons_zero, List.drop_succ_cons, List.drop_zero]
  rw [show gv 23 = .bool false from hV 5 23 (by kernel_rfl)]
  clear hV
  refine wpList_nil ?_
  have zg := k0.size
  have hg1 : w.heap.size ≤ g := by omega
  have HB2 := Lib.hid (HB.out.kept kw2)
  have kz2 := (k0.trans kw1).trans kw2
  have HO2 := Lib.hid (lok_ok (n := 1) (t := t) (newB_iff.2 (by omega)))
  clear HB kw1 kw2 k0 zg hg Wt
  generalize hL0 : Lok.none_ 1 t = L0 at HB2 HO2
  have q1 : L0.n = 1 := by rw [← hL0]; rfl
  have q2 : L0.t = t := by rw [← hL0]; rfl
  have q3 : L0.k = 0 := by rw [← hL0]; rfl
  clear hL0
  have HD0 : Hid (∀ x, 0 ≤ x → L0.shut x = decide (x < 0)) := fun x hx => by rw [decide_eq_false (by omega)]; exact lshut_no (by omega) x
  go_wp2_with fail
  go_loopw [10, 8, 9] (fun s1 s2 s3 wr => ∃ (k : Nat) (now un : Int) (L : Lok), s1 = .int .i64 (k : Int) ∧ s2 = .int .i64 now ∧ s3 = .int .i64 un ∧ k ≤ 40 ∧ k ≤ ln ∧ 0 ≤ now ∧ now ≤ 40 * k ∧ 0 ≤ un ∧ un ≤ 40 * k + 60 ∧ L.n = 1 ∧ L.t = t ∧ Hid (Blk wr g 46 L.cells) ∧ Hid L.Ok ∧ Hid (∀ x, 0 ≤ x → L.shut x = decide (x < un)) ∧ Kept w wr) (fun s1 _ _ _ => 40 - (intOf s1).toNat)
  case atStart => exact ⟨0, 0, 0, L0, rfl, rfl, rfl, by omega, by omega, by omega, by omega, by omega, by omega, q1, q2, HB2, HO2, HD0, kz2⟩
  case round =>
    obtain ⟨k, now, un, L, rfl, rfl, rfl, hk60, hkn, hn0, hn1, u0, u1, en, et, HBr, HI, HD, kwr⟩ := hrel
    clear HB2 HO2 HD0 kz2 q1 q2 q3
    by_cases hlt : k < ln ∧ k < 40
    · obtain ⟨hin, hk6⟩ := hlt
      have hil : k < l.length := by rw [hl.out]; exact hin
      obtain ⟨x, hx⟩ : ∃ x, l[k]? = some x := ⟨_, List.getElem?_eq_getElem hil⟩
      obtain ⟨ad, rfl, hX⟩ := HRI.out k x hx
      have HX := Lib.hid (elat (kwr.cell hX))
      clear hx hX hil
      obtain ⟨m, hm⟩ : ∃ z, wi x 0 40 = z := ⟨_, rfl⟩
      have bm := wi_in x 0 40 (by omega)
      rw [hm] at bm
      have Wm := Lib.hid hm
      clear hm
      obtain ⟨nw, hnw⟩ : ∃ z, now + m = z := ⟨_, rfl⟩
      have hw0 : 0 ≤ nw := by omega
      have hw1 : nw ≤ 40 * (k + 1) := by omega
      have HN := Lib.hid hnw
      clear hnw
      go_upto_region 7 with fail
      refine wp_text 8 [.eq (.int .i64 (k : Int)), .eq (.slice (some ad) ln c), .eq (.int .i64 (ln : Int)), .eq (.bool true), .eq (.bool true), .eq (.int .i64 (k : Int)), .eq (.bool true), .eq (.bool true)] rfl (by kernel_rfl) ?_ ?_
      · refine sv 1 rfl rfl rfl (fun a u hE hD hk => exec_move (.tmp 10) _ rfl (hE 10 (.int .i64 (k : Int)) (by kernel_rfl) (by kernel_rfl))) ?_
        refine sv 2 rfl rfl rfl (fun a u hE hD hk => exec_move (.tmp 1) _ rfl (hE 1 (.slice (some ad) ln c) (by kernel_rfl) (by kernel_rfl))) ?_
        refine sv 3 rfl rfl rfl (fun a u hE hD hk => exec_len (.tmp 25) _ _ slI.und (some ad) ln c rfl (hD 1 25 (by kernel_rfl))) ?_
        refine fsteps_cons 4 rfl (fun a u hE hD hk => f_as (show ((decide (((k : Int) : Int) < ((ln : Int) : Int))) : Bool) = true from decide_eq_true (by omega)) (f_val (o := ⟨some 27, _, _, _, _, _⟩) (.bool (decide (((k : Int) : Int) < ((ln : Int) : Int)))) rfl (wanted_none rfl _) (exec_ltn (p := (k : Int)) (q := (ln : Int)) rfl (hD 0 24 (by kernel_rfl)) (hD 2 26 (by kernel_rfl))) rfl)) ?_
        refine sv 5 rfl rfl rfl (fun a u hE hD hk => exec_move (.tmp 27) _ rfl (hD 3 27 (by kernel_rfl))) ?_
        refine fsteps_cons 6 rfl (fun a u hE hD hk => f_val (o := ⟨some 29, _, _, _, _, _⟩) (.int .i64 (k : Int)) rfl (wanted_at (b := true) true rfl rfl (hD 4 28 (by kernel_rfl))) (exec_move (.tmp 10) _ rfl (hE 10 (.int .i64 (k : Int)) (by kernel_rfl) (by kernel_rfl))) rfl) ?_
        refine fsteps_cons 7 rfl (fun a u hE hD hk => f_as (show ((decide (((k : Int) : Int) < (40 : Int))) : Bool) = true from decide_eq_true (by omega)) (f_val (o := ⟨some 30, _, _, _, _, _⟩) (.bool (decide (((k : Int) : Int) < (40 : Int)))) rfl (wanted_at (b := true) true rfl rfl (hD 4 28 (by kernel_rfl))) (exec_ltn (p := (k : Int)) (q := 40) rfl (hD 5 29 (by kernel_rfl)) rfl) rfl)) ?_
        refine sv 8 rfl rfl rfl (fun a u hE hD hk => exec_pick (.tmp 28) (.tmp 30) (.const (.bool false)) (.bool true) rfl (hD 4 28 (by kernel_rfl)) (hD 6 30 (by kernel_rfl))) ?_
        exact fsteps_nil
      intro gv w4 hV k4
      rw [show dstsOf _ 8 = [24, 25, 26, 27, 28, 29, 30, 31] by kernel_rfl]
      simp only [List.foldl_cons, List.foldl_nil, List.setIfInBounds_toArray, List.set_cons_succ, List.set_cons_zero, List.drop_succ_cons, List.drop_zero]
      rw [show gv 31 = .bool true from hV 7 31 (by kernel_rfl)]
      clear hV
      refine wpList_nil ?_
      have HX5 := Lib.hid (HX.out.go k4)
      clear HX
      go_upto_region 9 with fail
      refine wp_text 7 [.eq (.int .i64 now), .eq (.slice (some ad) ln c), .eq (.int .i64 (k : Int)), .eq (.pointer (some (ad.add (k * 1)))), .eq (.int .i64 x), .eq (.int .i64 m), .eq (.int .i64 nw)] rfl (by kernel_rfl) ?_ ?_
      · refine sv 1 rfl rfl rfl (fun a u hE hD hk => exec_move (.tmp 8) _ rfl (hE 8 (.int .i64 now) (by kernel_rfl) (by kernel_rfl))) ?_
        refine sv 2 rfl rfl rfl (fun a u hE hD hk => exec_move (.tmp 1) _ rfl (hE 1 (.slice (some ad) ln c) (by kernel_rfl) (by kernel_rfl))) ?_
        refine sv 3 rfl rfl rfl (fun a u hE hD hk => exec_move (.tmp 10) _ rfl (hE 10 (.int .i64 (k : Int)) (by kernel_rfl) (by kernel_rfl))) ?_
        refine sv 4 rfl rfl rfl (fun a u hE hD hk => exec_indexA 40 3 1 (.tmp 35) (.tmp 36) ad ln c k rfl Try.underlying40 infoI1 (hD 1 35 (by kernel_rfl)) (hD 2 36 (by kernel_rfl)) hin) ?_
        refine sv 5 rfl rfl rfl (fun a u hE hD hk => exec_loadi 3 Try.underlying3 (.tmp 37) (ad.add (k * 1)) (.int .i64 x) rfl (hD 3 37 (by kernel_rfl)) (HX5.out.at_ hk)) ?_
        refine fsteps_cons 6 rfl (fun a u hE hD hk => f_call (o := ⟨some 39, _, _, _, _, _⟩) 14 #[.int .i64 x, .int .i64 0, .int .i64 40] rfl (wanted_none rfl _) (exec_call 14 _ [.tmp 38, .const (.int .i64 0), .const (.int .i64 40)] _ [.int .i64 x, .int .i64 0, .int .i64 40] Try.func14 (by kernel_rfl) (by kernel_rfl) rfl (show [a.eval (.tmp 38), a.eval (.const (.int .i64 0)), a.eval (.const (.int .i64 40))] = [.int .i64 x, .int .i64 0, .int .i64 40] from (by rw [show a.eval (.tmp 38) = .int .i64 x from (hD 4 38 (by kernel_rfl))] <;> rfl)) u) (by rw [← Wm.out]; exact within_is x 0 40 u (by omega) (by omega) (by omega))) ?_
        refine sv 7 rfl rfl rfl (fun a u hE hD hk => exec_addn nw rfl (hD 0 34 (by kernel_rfl)) (hD 5 39 (by kernel_rfl)) HN.out (by omega) (by omega)) ?_
        exact fsteps_nil
      intro gv w5 hV k5
      rw [show dstsOf _ 7 = [34, 35, 36, 37, 38, 39, 40] by kernel_rfl]
      simp only [List.foldl_cons, List.foldl_nil, List.setIfInBounds_toArray, List.set_cons_succ, List.set_cons_zero, List.drop_succ_cons, List.drop_zero]
      rw [show gv 40 = .int .i64 nw from hV 6 40 (by kernel_rfl)]
      clear hV
      refine l_val (o := ⟨some 8, _, _, _, _, _⟩) (.int .i64 nw) rfl (exec_assign (.tmp 40) (.int .i64 nw) rfl (by kernel_rfl)) ?_
      simp only [Act.put, List.setIfInBounds_toArray, List.set_cons_succ, List.set_cons_zero]
      refine wpList_nil ?_
      have k45 := k4.trans k5
      have HB5 := Lib.hid (HBr.out.kept k45)
      have kw5 := kwr.trans k45
      clear HBr kwr k4 k5 k45 HX5 Wm HN
      by_cases hu : nw < un
      · have hs : L.shut nw = true := by rw [HD.out nw hw0]; exact decide_eq_true hu
        have ek2 : L.k = 1 := (Lok.shut_iff.1 hs).1.trans en
        have HS2 := Lib.hid hs
        have HF : Hid (L.failM nw = L) := lfail_shut hs
        have HI2 := HI
        have HD2 := HD
        clear hs
        go_upto_region 10 with fail
        refine wp_text 7 [.eq (.pointer (some ⟨g, 0, none⟩)), .eq (.int .i64 nw), .eq (.bool true), .eq (.int .i64 nw), .eq (.int .i64 un), .eq (.bool true), .eq (.bool false)] rfl (by kernel_rfl) ?_ ?_
        · refine sv 1 rfl rfl rfl (fun a u hE hD hk => exec_move (.tmp 6) _ rfl (hE 6 (.pointer (some ⟨g, 0, none⟩)) (by kernel_rfl) (by kernel_rfl))) ?_
          refine sv 2 rfl rfl rfl (fun a u hE hD hk => exec_move (.tmp 8) _ rfl (hE 8 (.int .i64 nw) (by kernel_rfl) (by kernel_rfl))) ?_
          refine fsteps_cons 3 rfl (fun a u hE hD hk => f_call (o := ⟨some 43, _, _, _, _, _⟩) 11 #[.pointer (some ⟨g, 0, none⟩), .int .i64 nw] rfl (wanted_none rfl _) (exec_call 11 _ [.tmp 41, .tmp 42] _ [.pointer (some ⟨g, 0, none⟩), .int .i64 nw] Try.func11 (by kernel_rfl) (by kernel_rfl) rfl (show [a.eval (.tmp 41), a.eval (.tmp 42)] = [.pointer (some ⟨g, 0, none⟩), .int .i64 nw] from (by rw [show a.eval (.tmp 41) = .pointer (some ⟨g, 0, none⟩) from (hD 0 41 (by kernel_rfl)), show a.eval (.tmp 42) = .int .i64 nw from (hD 1 42 (by kernel_rfl))] <;> rfl)) u) (llocked_at (HB5.out.kept hk) HS2.out)) ?_
          refine sv 4 rfl rfl rfl (fun a u hE hD hk => exec_move (.tmp 8) _ rfl (hE 8 (.int .i64 nw) (by kernel_rfl) (by kernel_rfl))) ?_
          refine sv 5 rfl rfl rfl (fun a u hE hD hk => exec_move (.tmp 9) _ rfl (hE 9 (.int .i64 un) (by kernel_rfl) (by kernel_rfl))) ?_
          refine fsteps_cons 6 rfl (fun a u hE hD hk => f_as (show ((decide ((nw : Int) < (un : Int))) : Bool) = true from decide_eq_true hu) (f_val (o := ⟨some 46, _, _, _, _, _⟩) (.bool (decide ((nw : Int) < (un : Int)))) rfl (wanted_none rfl _) (exec_ltn (p := nw) (q := un) rfl (hD 3 44 (by kernel_rfl)) (hD 4 45 (by kernel_rfl))) rfl)) ?_
          refine sv 7 rfl rfl rfl (fun a u hE hD hk => exec_neb (.tmp 43) (.tmp 46) _ true true false rfl (hD 2 43 (by kernel_rfl)) (hD 5 46 (by kernel_rfl)) rfl) ?_
          exact fsteps_nil
        intro gv w6 hV k6
        rw [show dstsOf _ 7 = [41, 42, 43, 44, 45, 46, 47] by kernel_rfl]
        simp only [List.foldl_cons, List.foldl_nil, List.setIfInBounds_toArray, List.set_cons_succ, List.set_cons_zero, List.drop_succ_cons, List.drop_zero]
        rw [show gv 47 = .bool false from hV 6 47 (by kernel_rfl)]
        clear hV
        refine wpList_nil ?_
        have HB6 := Lib.hid (HB5.out.kept k6)
        have kw6 := kw5.trans k6
        clear HB5 kw5 k6
        go_upto_region 12 with fail
        refine wp_region_lit ?_
        refine l_val (o := ⟨some 48, _, _, _, _, _⟩) (.pointer (some ⟨g, 0, none⟩)) rfl (exec_move (.tmp 6) (.pointer (some ⟨g, 0, none⟩)) rfl (by kernel_rfl)) ?_
        simp only [Act.put, List.setIfInBounds_toArray, List.set_cons_succ, List.set_cons_zero]
        refine l_val (o := ⟨some 49, _, _, _, _, _⟩) (.int .i64 nw) rfl (exec_move (.tmp 8) (.int .i64 nw) rfl (by kernel_rfl)) ?_
        simp only [Act.put, List.setIfInBounds_toArray, List.set_cons_succ, List.set_cons_zero]
        refine l_call (o := ⟨some 50, _, _, _, _, _⟩) 10 #[.pointer (some ⟨g, 0, none⟩), .int .i64 nw] rfl (exec_call 10 _ [.tmp 48, .tmp 49] _ _ Try.func10 (by kernel_rfl) (by kernel_rfl) rfl (by kernel_rfl) _) ?_
        refine (lfailed_at HB6.out HI.out (by omega) (by omega) HF.out).mono ?_
        rintro e w7 ⟨rfl, hBw7, fw7⟩
        refine ⟨_, rfl, ?_⟩
        simp only [Act.put, List.setIfInBounds_toArray, List.set_cons_succ, List.set_cons_zero]
        refine wpList_nil ?_
        have HBw7 := Lib.hid hBw7
        clear hBw7
        have kw7 : Kept w w7 := kw6.trans' fw7 (by omega)
        clear HB6 kw6 fw7 HF
        go_upto_region 13 with fail
        refine wp_text 3 [.eq (.int .i64 nw), .eq (.int .i64 un), .eq (.bool false)] rfl (by kernel_rfl) ?_ ?_
        · refine sv 1 rfl rfl rfl (fun a u hE hD hk => exec_move (.tmp 8) _ rfl (hE 8 (.int .i64 nw) (by kernel_rfl) (by kernel_rfl))) ?_
          refine sv 2 rfl rfl rfl (fun a u hE hD hk => exec_move (.tmp 9) _ rfl (hE 9 (.int .i64 un) (by kernel_rfl) (by kernel_rfl))) ?_
          refine fsteps_cons 3 rfl (fun a u hE hD hk => f_as (show ((decide ((un : Int) ≤ (nw : Int))) : Bool) = false from decide_eq_false (by omega)) (f_val (o := ⟨some 53, _, _, _, _, _⟩) (.bool (decide ((un : Int) ≤ (nw : Int)))) rfl (wanted_none rfl _) (exec_gen (p := nw) (q := un) rfl (hD 0 51 (by kernel_rfl)) (hD 1 52 (by kernel_rfl))) rfl)) ?_
          exact fsteps_nil
        intro gv w8 hV k8
        rw [show dstsOf _ 3 = [51, 52, 53] by kernel_rfl]
        simp only [List.foldl_cons, List.foldl_nil, List.setIfInBounds_toArray, List.set_cons_succ, List.set_cons_zero, List.drop_succ_cons, List.drop_zero]
        rw [show gv 53 = .bool false from hV 2 53 (by kernel_rfl)]
        clear hV
        refine wpList_nil ?_
        have HB8 := Lib.hid (HBw7.out.kept k8)
        have kw8 := kw7.trans k8
        clear HBw7 kw7 k8
        go_upto_region 15 with fail
        refine wp_text 9 [.eq (.pointer (some ⟨g, 0, none⟩)), .eq (.int .i64 nw), .eq (.bool true), .eq (.bool false), .eq (.bool false), .eq (.pointer (some ⟨g, 0, none⟩)), .eq (.int .i64 1), .eq (.bool false), .eq (.bool false)] rfl (by kernel_rfl) ?_ ?_
        · refine sv 1 rfl rfl rfl (fun a u hE hD hk => exec_move (.tmp 6) _ rfl (hE 6 (.pointer (some ⟨g, 0, none⟩)) (by kernel_rfl) (by kernel_rfl))) ?_
          refine sv 2 rfl rfl rfl (fun a u hE hD hk => exec_move (.tmp 8) _ rfl (hE 8 (.int .i64 nw) (by kernel_rfl) (by kernel_rfl))) ?_
          refine fsteps_cons 3 rfl (fun a u hE hD hk => f_call (o := ⟨some 59, _, _, _, _, _⟩) 11 #[.pointer (some ⟨g, 0, none⟩), .int .i64 nw] rfl (wanted_none rfl _) (exec_call 11 _ [.tmp 57, .tmp 58] _ [.pointer (some ⟨g, 0, none⟩), .int .i64 nw] Try.func11 (by kernel_rfl) (by kernel_rfl) rfl (show [a.eval (.tmp 57), a.eval (.tmp 58)] = [.pointer (some ⟨g, 0, none⟩), .int .i64 nw] from (by rw [show a.eval (.tmp 57) = .pointer (some ⟨g, 0, none⟩) from (hD 0 57 (by kernel_rfl)), show a.eval (.tmp 58) = .int .i64 nw from (hD 1 58 (by kernel_rfl))] <;> rfl)) u) (llocked_at (HB8.out.kept hk) HS2.out)) ?_
          refine sv 4 rfl rfl rfl (fun a u hE hD hk => exec_not _ (.tmp 59) true rfl (hD 2 59 (by kernel_rfl))) ?_
          refine sv 5 rfl rfl rfl (fun a u hE hD hk => exec_move (.tmp 60) _ rfl (hD 3 60 (by kernel_rfl))) ?_
          refine fsteps_cons 6 rfl (fun a u hE hD hk => f_val (o := ⟨some 62, _, _, _, _, _⟩) (.pointer (some ⟨g, 0, none⟩)) rfl (wanted_at (b := false) false rfl rfl (hD 4 61 (by kernel_rfl))) (exec_move (.tmp 6) _ rfl (hE 6 (.pointer (some ⟨g, 0, none⟩)) (by kernel_rfl) (by kernel_rfl))) rfl) ?_
          refine fsteps_cons 7 rfl (fun a u hE hD hk => f_call (o := ⟨some 63, _, _, _, _, _⟩) 12 #[.pointer (some ⟨g, 0, none⟩)] rfl (wanted_at (b := false) false rfl rfl (hD 4 61 (by kernel_rfl))) (exec_call 12 _ [.tmp 62] _ [.pointer (some ⟨g, 0, none⟩)] Try.func12 (by kernel_rfl) (by kernel_rfl) rfl (show [a.eval (.tmp 62)] = [.pointer (some ⟨g, 0, none⟩)] from (by rw [show a.eval (.tmp 62) = .pointer (some ⟨g, 0, none⟩) from (hD 5 62 (by kernel_rfl))] <;> rfl)) u) (lwrong_at (HB8.out.kept hk) ek2)) ?_
          refine fsteps_cons 8 rfl (fun a u hE hD hk => f_as (show ((decide ((1 : Int) ≠ (1 : Int))) : Bool) = false from decide_eq_false (by omega)) (f_val (o := ⟨some 64, _, _, _, _, _⟩) (.bool (decide ((1 : Int) ≠ (1 : Int)))) rfl (wanted_at (b := false) false rfl rfl (hD 4 61 (by kernel_rfl))) (exec_nen (p := 1) (q := 1) rfl (hD 6 63 (by kernel_rfl)) rfl) rfl)) ?_
          refine sv 9 rfl rfl rfl (fun a u hE hD hk => exec_pickF (.tmp 61) (.const (.bool true)) (.tmp 64) (.bool false) rfl (hD 4 61 (by kernel_rfl)) (hD 7 64 (by kernel_rfl))) ?_
          exact fsteps_nil
        intro gv wz hV kz
        rw [show dstsOf _ 9 = [57, 58, 59, 60, 61, 62, 63, 64, 65] by kernel_rfl]
        simp only [List.foldl_cons, List.foldl_nil, List.setIfInBounds_toArray, List.set_cons_succ, List.set_cons_zero, List.drop_succ_cons, List.drop_zero]
        rw [show gv 65 = .bool false from hV 8 65 (by kernel_rfl)]
        clear hV
        refine wpList_nil ?_
        have HBz := Lib.hid (HB8.out.kept kz)
        have kwz := kw8.trans kz
        clear HB8 kw8 kz
        go_wp2
        exact ⟨⟨k + 1, nw, un, L, by simp, rfl, rfl, by omega, by omega, by omega, by omega, by omega, by omega, by omega, by omega, HBz, HI2, HD2, kwz⟩, by simp [intOf]; omega⟩
      · have hs : L.shut nw = false := by rw [HD.out nw hw0]; exact decide_eq_false hu
        obtain ⟨u2, hu2⟩ : ∃ z, nw + t = z := ⟨_, rfl⟩
        obtain ⟨g3, g4⟩ := lone_once HI.out en nw
        obtain ⟨g1, g2⟩ := lfail_n L nw
        rw [← lfail_open hs] at g3 g4
        obtain ⟨L2, hL2⟩ : ∃ L2, L.failM nw = L2 := ⟨_, rfl⟩
        have HI2 : Hid L2.Ok := by show Lok.Ok _; rw [← hL2]; exact HI.out.fail (by omega) (by omega)
        rw [hL2] at g1 g2 g3 g4
        have ek2 : L2.k = 1 := g3
        have HD2 : Hid (∀ x, 0 ≤ x → L2.shut x = decide (x < u2)) := fun x hx => by
          unfold Lok.shut
          rw [decide_eq_true (show L2.k = L2.n by omega), Bool.true_and, show L2.u = u2 by omega]
        have HS2 : Hid (L2.shut nw = true) := by show _ = _; rw [HD2.out nw hw0]; exact decide_eq_true (by omega)
        have HS1 := Lib.hid hs
        have HF := Lib.hid hL2
        have HU := Lib.hid hu2
        clear hs hL2
        go_upto_region 10 with fail
        refine wp_text 7 [.eq (.pointer (some ⟨g, 0, none⟩)), .eq (.int .i64 nw), .eq (.bool false), .eq (.int .i64 nw), .eq (.int .i64 un), .eq (.bool false), .eq (.bool false)] rfl (by kernel_rfl) ?_ ?_
        · refine sv 1 rfl rfl rfl (fun a u hE hD hk => exec_move (.tmp 6) _ rfl (hE 6 (.pointer (some ⟨g, 0, none⟩)) (by kernel_rfl) (by kernel_rfl))) ?_
          refine sv 2 rfl rfl rfl (fun a u hE hD hk => exec_move (.tmp 8) _ rfl (hE 8 (.int .i64 nw) (by kernel_rfl) (by kernel_rfl))) ?_
          refine fsteps_cons 3 rfl (fun a u hE hD hk => f_call (o := ⟨some 43, _, _, _, _, _⟩) 11 #[.pointer (some ⟨g, 0, none⟩), .int .i64 nw] rfl (wanted_none rfl _) (exec_call 11 _ [.tmp 41, .tmp 42] _ [.pointer (some ⟨g, 0, none⟩), .int .i64 nw] Try.func11 (by kernel_rfl) (by kernel_rfl) rfl (show [a.eval (.tmp 41), a.eval (.tmp 42)] = [.pointer (some ⟨g, 0, none⟩), .int .i64 nw] from (by rw [show a.eval (.tmp 41) = .pointer (some ⟨g, 0, none⟩) from (hD 0 41 (by kernel_rfl)), show a.eval (.tmp 42) = .int .i64 nw from (hD 1 42 (by kernel_rfl))] <;> rfl)) u) (llocked_at (HB5.out.kept hk) HS1.out)) ?_
          refine sv 4 rfl rfl rfl (fun a u hE hD hk => exec_move (.tmp 8) _ rfl (hE 8 (.int .i64 nw) (by kernel_rfl) (by kernel_rfl))) ?_
          refine sv 5 rfl rfl rfl (fun a u hE hD hk => exec_move (.tmp 9) _ rfl (hE 9 (.int .i64 un) (by kernel_rfl) (by kernel_rfl))) ?_
          refine fsteps_cons 6 rfl (fun a u hE hD hk => f_as (show ((decide ((nw : Int) < (un : Int))) : Bool) = false from decide_eq_false hu) (f_val (o := ⟨some 46, _, _, _, _, _⟩) (.bool (decide ((nw : Int) < (un : Int)))) rfl (wanted_none rfl _) (exec_ltn (p := nw) (q := un) rfl (hD 3 44 (by kernel_rfl)) (hD 4 45 (by kernel_rfl))) rfl)) ?_
          refine sv 7 rfl rfl rfl (fun a u hE hD hk => exec_neb (.tmp 43) (.tmp 46) _ false false false rfl (hD 2 43 (by kernel_rfl)) (hD 5 46 (by kernel_rfl)) rfl) ?_
          exact fsteps_nil
        intro gv w6 hV k6
        rw [show dstsOf _ 7 = [41, 42, 43, 44, 45, 46, 47] by kernel_rfl]
        simp only [List.foldl_cons, List.foldl_nil, List.setIfInBounds_toArray, List.set_cons_succ, List.set_cons_zero, List.drop_succ_cons, List.drop_zero]
        rw [show gv 47 = .bool false from hV 6 47 (by kernel_rfl)]
        clear hV
        refine wpList_nil ?_
        have HB6 := Lib.hid (HB5.out.kept k6)
        have kw6 := kw5.trans k6
        clear HB5 kw5 k6
        go_upto_region 12 with fail
        refine wp_region_lit ?_
        refine l_val (o := ⟨some 48, _, _, _, _, _⟩) (.pointer (some ⟨g, 0, none⟩)) rfl (exec_move (.tmp 6) (.pointer (some ⟨g, 0, none⟩)) rfl (by kernel_rfl)) ?_
        simp only [Act.put, List.setIfInBounds_toArray, List.set_cons_succ, List.set_cons_zero]
        refine l_val (o := ⟨some 49, _, _, _, _, _⟩) (.int .i64 nw) rfl (exec_move (.tmp 8) (.int .i64 nw) rfl (by kernel_rfl)) ?_
        simp only [Act.put, List.setIfInBounds_toArray, List.set_cons_succ, List.set_cons_zero]
        refine l_call (o := ⟨some 50, _, _, _, _, _⟩) 10 #[.pointer (some ⟨g, 0, none⟩), .int .i64 nw] rfl (exec_call 10 _ [.tmp 48, .tmp 49] _ _ Try.func10 (by kernel_rfl) (by kernel_rfl) rfl (by kernel_rfl) _) ?_
        refine (lfailed_at HB6.out HI.out (by omega) (by omega) HF.out).mono ?_
        rintro e w7 ⟨rfl, hBw7, fw7⟩
        refine ⟨_, rfl, ?_⟩
        simp only [Act.put, List.setIfInBounds_toArray, List.set_cons_succ, List.set_cons_zero]
        refine wpList_nil ?_
        have HBw7 := Lib.hid hBw7
        clear hBw7
        have kw7 : Kept w w7 := kw6.trans' fw7 (by omega)
        clear HB6 kw6 fw7 HF
        go_upto_region 13 with fail
        refine wp_text 3 [.eq (.int .i64 nw), .eq (.int .i64 un), .eq (.bool true)] rfl (by kernel_rfl) ?_ ?_
        · refine sv 1 rfl rfl rfl (fun a u hE hD hk => exec_move (.tmp 8) _ rfl (hE 8 (.int .i64 nw) (by kernel_rfl) (by kernel_rfl))) ?_
          refine sv 2 rfl rfl rfl (fun a u hE hD hk => exec_move (.tmp 9) _ rfl (hE 9 (.int .i64 un) (by kernel_rfl) (by kernel_rfl))) ?_
          refine fsteps_cons 3 rfl (fun a u hE hD hk => f_as (show ((decide ((un : Int) ≤ (nw : Int))) : Bool) = true from decide_eq_true (by omega)) (f_val (o := ⟨some 53, _, _, _, _, _⟩) (.bool (decide ((un : Int) ≤ (nw : Int)))) rfl (wanted_none rfl _) (exec_gen (p := nw) (q := un) rfl (hD 0 51 (by kernel_rfl)) (hD 1 52 (by kernel_rfl))) rfl)) ?_
          exact fsteps_nil
        intro gv w8 hV k8
        rw [show dstsOf _ 3 = [51, 52, 53] by kernel_rfl]
        simp only [List.foldl_cons, List.foldl_nil, List.setIfInBounds_toArray, List.set_cons_succ, List.set_cons_zero, List.drop_succ_cons, List.drop_zero]
        rw [show gv 53 = .bool true from hV 2 53 (by kernel_rfl)]
        clear hV
        refine wpList_nil ?_
        have HB8 := Lib.hid (HBw7.out.kept k8)
        have kw8 := kw7.trans k8
        clear HBw7 kw7 k8
        go_upto_region 14 with fail
        refine wp_text 4 [.eq (.int .i64 nw), .eq (.int .i64 t), .eq (.int .i64 u2), .eq (.int .i64 u2)] rfl (by kernel_rfl) ?_ ?_
        · refine sv 1 rfl rfl rfl (fun a u hE hD hk => exec_move (.tmp 8) _ rfl (hE 8 (.int .i64 nw) (by kernel_rfl) (by kernel_rfl))) ?_
          refine sv 2 rfl rfl rfl (fun a u hE hD hk => exec_move (.tmp 5) _ rfl (hE 5 (.int .i64 t) (by kernel_rfl) (by kernel_rfl))) ?_
          refine sv 3 rfl rfl rfl (fun a u hE hD hk => exec_addn u2 rfl (hD 0 54 (by kernel_rfl)) (hD 1 55 (by kernel_rfl)) HU.out (by omega) (by omega)) ?_
          refine sv 4 rfl rfl rfl (fun a u hE hD hk => exec_assign (.tmp 56) _ rfl (hD 2 56 (by kernel_rfl))) ?_
          exact fsteps_nil
        intro gv w9 hV k9
        rw [show dstsOf _ 4 = [54, 55, 56, 9] by kernel_rfl]
        simp only [List.foldl_cons, List.foldl_nil, List.setIfInBounds_toArray, List.set_cons_succ, List.set_cons_zero, List.drop_succ_cons, List.drop_zero]
        rw [show gv 9 = .int .i64 u2 from hV 3 9 (by kernel_rfl)]
        clear hV
        refine wpList_nil ?_
        have HB9 := Lib.hid (HB8.out.kept k9)
        have kw9 := kw8.trans k9
        clear HB8 kw8 k9
        go_upto_region 15 with fail
        refine wp_text 9 [.eq (.pointer (some ⟨g, 0, none⟩)), .eq (.int .i64 nw), .eq (.bool true), .eq (.bool false), .eq (.bool false), .eq (.pointer (some ⟨g, 0, none⟩)), .eq (.int .i64 1), .eq (.bool false), .eq (.bool false)] rfl (by kernel_rfl) ?_ ?_
        · refine sv 1 rfl rfl rfl (fun a u hE hD hk => exec_move (.tmp 6) _ rfl (hE 6 (.pointer (some ⟨g, 0, none⟩)) (by kernel_rfl) (by kernel_rfl))) ?_
          refine sv 2 rfl rfl rfl (fun a u hE hD hk => exec_move (.tmp 8) _ rfl (hE 8 (.int .i64 nw) (by kernel_rfl) (by kernel_rfl))) ?_
          refine fsteps_cons 3 rfl (fun a u hE hD hk => f_call (o := ⟨some 59, _, _, _, _, _⟩) 11 #[.pointer (some ⟨g, 0, none⟩), .int .i64 nw] rfl (wanted_none rfl _) (exec_call 11 _ [.tmp 57, .tmp 58] _ [.pointer (some ⟨g, 0, none⟩), .int .i64 nw] Try.func11 (by kernel_rfl) (by kernel_rfl) rfl (show [a.eval (.tmp 57), a.eval (.tmp 58)] = [.pointer (some ⟨g, 0, none⟩), .int .i64 nw] from (by rw [show a.eval (.tmp 57) = .pointer (some ⟨g, 0, none⟩) from (hD 0 57 (by kernel_rfl)), show a.eval (.tmp 58) = .int .i64 nw from (hD 1 58 (by kernel_rfl))] <;> rfl)) u) (llocked_at (HB9.out.kept hk) HS2.out)) ?_
          refine sv 4 rfl rfl rfl (fun a u hE hD hk => exec_not _ (.tmp 59) true rfl (hD 2 59 (by kernel_rfl))) ?_
          refine sv 5 rfl rfl rfl (fun a u hE hD hk => exec_move (.tmp 60) _ rfl (hD 3 60 (by kernel_rfl))) ?_
          refine fsteps_cons 6 rfl (fun a u hE hD hk => f_val (o := ⟨some 62, _, _, _, _, _⟩) (.pointer (some ⟨g, 0, none⟩)) rfl (wanted_at (b := false) false rfl rfl (hD 4 61 (by kernel_rfl))) (exec_move (.tmp 6) _ rfl (hE 6 (.pointer (some ⟨g, 0, none⟩)) (by kernel_rfl) (by kernel_rfl))) rfl) ?_
          refine fsteps_cons 7 rfl (fun a u hE hD hk => f_call (o := ⟨some 63, _, _, _, _, _⟩) 12 #[.pointer (some ⟨g, 0, none⟩)] rfl (wanted_at (b := false) false rfl rfl (hD 4 61 (by kernel_rfl))) (exec_call 12 _ [.tmp 62] _ [.pointer (some ⟨g, 0, none⟩)] Try.func12 (by kernel_rfl) (by kernel_rfl) rfl (show [a.eval (.tmp 62)] = [.pointer (some ⟨g, 0, none⟩)] from (by rw [show a.eval (.tmp 62) = .pointer (some ⟨g, 0, none⟩) from (hD 5 62 (by kernel_rfl))] <;> rfl)) u) (lwrong_at (HB9.out.kept hk) ek2)) ?_
          refine fsteps_cons 8 rfl (fun a u hE hD hk => f_as (show ((decide ((1 : Int) ≠ (1 : Int))) : Bool) = false from decide_eq_false (by omega)) (f_val (o := ⟨some 64, _, _, _, _, _⟩) (.bool (decide ((1 : Int) ≠ (1 : Int)))) rfl (wanted_at (b := false) false rfl rfl (hD 4 61 (by kernel_rfl))) (exec_nen (p := 1) (q := 1) rfl (hD 6 63 (by kernel_rfl)) rfl) rfl)) ?_
          refine sv 9 rfl rfl rfl (fun a u hE hD hk => exec_pickF (.tmp 61) (.const (.bool true)) (.tmp 64) (.bool false) rfl (hD 4 61 (by kernel_rfl)) (hD 7 64 (by kernel_rfl))) ?_
          exact fsteps_nil
        intro gv wz hV kz
        rw [show dstsOf _ 9 = [57, 58, 59, 60, 61, 62, 63, 64, 65] by kernel_rfl]
        simp only [List.foldl_cons, List.foldl_nil, List.setIfInBounds_toArray, List.set_cons_succ, List.set_cons_zero, List.drop_succ_cons, List.drop_zero]
        rw [show gv 65 = .bool false from hV 8 65 (by kernel_rfl)]
        clear hV
        refine wpList_nil ?_
        have HBz := Lib.hid (HB9.out.kept kz)
        have kwz := kw9.trans kz
        clear HB9 kw9 kz
        go_wp2
        exact ⟨⟨k + 1, nw, u2, L2, by simp, rfl, rfl, by omega, by omega, by omega, by omega, by omega, by omega, by omega, by omega, HBz, HI2, HD2, kwz⟩, by simp [intOf]; omega⟩
    · have hcond : (decide ((k : Int) < (ln : Int)) && decide ((k : Int) < 40)) = false := by
        by_cases h1 : (k : Int) < (ln : Int)
        · rw [decide_eq_false (show ¬ (k : Int) < 40 by omega), Bool.and_false]
        · rw [decide_eq_false h1, Bool.false_and]
      go_upto_region 7 with fail
      refine wp_text 8 [.eq (.int .i64 (k : Int)), .eq (.slice A ln c), .eq (.int .i64 (ln : Int)), .eq (.bool (decide (((k : Int) : Int) < ((ln : Int) : Int)))), .eq (.bool (decide (((k : Int) : Int) < ((ln : Int) : Int)))), .cond (decide (((k : Int) : Int) < ((ln : Int) : Int))) (.eq (.int .i64 (k : Int))), .cond (decide (((k : Int) : Int) < ((ln : Int) : Int))) (.eq (.bool (decide (((k : Int) : Int) < (40 : Int))))), .eq (.bool false)] rfl (by kernel_rfl) ?_ ?_
      · refine sv 1 rfl rfl rfl (fun a u hE hD hk => exec_move (.tmp 10) _ rfl (hE 10 (.int .i64 (k : Int)) (by kernel_rfl) (by kernel_rfl))) ?_
        refine sv 2 rfl rfl rfl (fun a u hE hD hk => exec_move (.tmp 1) _ rfl (hE 1 (.slice A ln c) (by kernel_rfl) (by kernel_rfl))) ?_
        refine sv 3 rfl rfl rfl (fun a u hE hD hk => exec_len (.tmp 25) _ _ slI.und A ln c rfl (hD 1 25 (by kernel_rfl))) ?_
        refine sv 4 rfl rfl rfl (fun a u hE hD hk => exec_ltn (p := (k : Int)) (q := (ln : Int)) rfl (hD 0 24 (by kernel_rfl)) (hD 2 26 (by kernel_rfl))) ?_
        refine sv 5 rfl rfl rfl (fun a u hE hD hk => exec_move (.tmp 27) _ rfl (hD 3 27 (by kernel_rfl))) ?_
        refine fsteps_cons 6 rfl (fun a u hE hD hk => f_if ((decide (((k : Int) : Int) < ((ln : Int) : Int)))) rfl rfl rfl (hD 4 28 (by kernel_rfl)) (fun hb => f_val (o := ⟨some 29, _, _, _, _, _⟩) (.int .i64 (k : Int)) rfl (wanted_b rfl rfl (hD 4 28 (by kernel_rfl)) (eq_true_of hb)) (exec_move (.tmp 10) _ rfl (hE 10 (.int .i64 (k : Int)) (by kernel_rfl) (by kernel_rfl))) rfl)) ?_
        refine fsteps_cons 7 rfl (fun a u hE hD hk => f_if ((decide (((k : Int) : Int) < ((ln : Int) : Int)))) rfl rfl rfl (hD 4 28 (by kernel_rfl)) (fun hb => f_val (o := ⟨some 30, _, _, _, _, _⟩) (.bool (decide (((k : Int) : Int) < (40 : Int)))) rfl (wanted_b rfl rfl (hD 4 28 (by kernel_rfl)) (eq_true_of hb)) (exec_ltn (p := (k : Int)) (q := 40) rfl ((hD 5 29 (by kernel_rfl)).1 hb) rfl) rfl)) ?_
        refine fsteps_cons 8 rfl (fun a u hE hD hk => f_as (show (((decide (((k : Int) : Int) < ((ln : Int) : Int))) && (decide (((k : Int) : Int) < (40 : Int)))) : Bool) = false from hcond) (f_val (o := ⟨some 31, _, _, _, _, _⟩) (.bool ((decide (((k : Int) : Int) < ((ln : Int) : Int))) && (decide (((k : Int) : Int) < (40 : Int))))) rfl (wanted_none rfl _) (exec_pickand (.tmp 28) (.tmp 30) (.const (.bool false)) ((decide (((k : Int) : Int) < ((ln : Int) : Int)))) ((decide (((k : Int) : Int) < (40 : Int)))) rfl (hD 4 28 (by kernel_rfl)) (fun hb2 => ((hD 6 30 (by kernel_rfl)).1 hb2)) rfl) rfl)) ?_
        exact fsteps_nil
      intro gv w4 hV k4
      rw [show dstsOf _ 8 = [24, 25, 26, 27, 28, 29, 30, 31] by kernel_rfl]
      simp only [List.foldl_cons, List.foldl_nil, List.setIfInBounds_toArray, List.set_cons_succ, List.set_cons_zero, List.drop_succ_cons, List.drop_zero]
      rw [show gv 31 = .bool false from hV 7 31 (by kernel_rfl)]
      clear hV
      refine wpList_nil ?_
      go_upto_region 17 with fail
      refine wp_text 2 [.eq (.bool true), .eq (.bool true)] rfl (by kernel_rfl) ?_ ?_
      · refine fsteps_cons 1 rfl (fun a u hE hD hk => f_call (o := ⟨some 66, _, _, _, _, _⟩) 3 #[] rfl (wanted_none rfl _) (exec_call 3 _ [] _ [] Try.func3 (by kernel_rfl) (by kernel_rfl) rfl rfl u) (lockRuns_is u)) ?_
        refine sv 2 rfl rfl rfl (fun a u hE hD hk => exec_assign (.tmp 66) _ rfl (hD 0 66 (by kernel_rfl))) ?_
        exact fsteps_nil
      intro gv w5 hV k5
      rw [show dstsOf _ 2 = [66, 4] by kernel_rfl]
      simp only [List.foldl_cons, List.foldl_nil, List.setIfInBounds_toArray, List.set_cons_succ, List.set_cons_zero, List.drop_succ_cons, List.drop_zero]
      rw [show gv 4 = .bool true from hV 1 4 (by kernel_rfl)]
      clear hV
      refine wpList_nil ?_
      have kw5 := (kwr.trans k4).trans k5
      go_wp2
      go_ret
      exact ⟨rfl, kw5⟩
end Go.Proofs.Ytliepgmnlhfaiaa
