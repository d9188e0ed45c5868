/-
  LockBound: between any two counted answers no more than tries for each lock that fits between them, and one; it answers true. Condition: the moments as the arguments hold them.
-/
import Derived.Test.YtliepgmnlhfaiaaRuns18
import Derived.Test.YtliepgmnlhfaiaaElA
import Derived.Test.YtliepgmnlhfaiaaSlI
import Derived.Test.YtliepgmnlhfaiaaBdM18
namespace Go.Proofs.Ytliepgmnlhfaiaa
open Go.RowKit
set_option linter.unusedVariables false
set_option maxRecDepth 100000

set_option maxRecDepth 100000 in
set_option maxHeartbeats 1600000 in
theorem lockBound_any (b r : Int) (v : Value) (l : List Int) (w : World) (hv : IntsA w v l) : Calls Try.prog 5 #[.int .i64 b, .int .i64 r, v] w fun e w' => e = .returned (.bool true) ∧ Kept w w' := by
  obtain ⟨A, n, c, rfl, hl, hR, hI, hn, hc, hA⟩ := hv
  unfold maxLen at hc
  have HRI := Lib.hid hR
  clear hR hI hA
  obtain ⟨nb, hnb⟩ : ∃ z, wi b 1 4 = z := ⟨_, rfl⟩
  have bnb := wi_in b 1 4 (by omega)
  rw [hnb] at bnb
  have Wnb := Lib.hid hnb
  clear hnb
  obtain ⟨nr, hnr⟩ : ∃ z, wi r 1 20 = z := ⟨_, rfl⟩
  have bnr := wi_in r 1 20 (by omega)
  rw [hnr] at bnr
  have Wnr := Lib.hid hnr
  clear hnr
  go_enter Try.func5, Try.ntmps5
  go_upto_region 1 with fail
  refine wp_text 6 [.eq (.int .i64 b), .eq (.int .i64 nb), .eq (.int .i64 r), .eq (.int .i64 nr), .eq (.int .i64 nb), .eq (.int .i64 nr)] rfl (by kernel_rfl) ?_ ?_
  · refine sv 1 rfl rfl rfl (fun a u hE hD hk => exec_move (.tmp 0) _ rfl (hE 0 (.int .i64 b) (by kernel_rfl) (by kernel_rfl))) ?_
    refine fsteps_cons 2 rfl (fun a u hE hD hk => f_call (o := ⟨some 17, _, _, _, _, _⟩) 14 #[.int .i64 b, .int .i64 1, .int .i64 4] rfl (wanted_none rfl _) (exec_call 14 _ [.tmp 16, .const (.int .i64 1), .const (.int .i64 4)] _ [.int .i64 b, .int .i64 1, .int .i64 4] Try.func14 (by kernel_rfl) (by kernel_rfl) rfl (show [a.eval (.tmp 16), a.eval (.const (.int .i64 1)), a.eval (.const (.int .i64 4))] = [.int .i64 b, .int .i64 1, .int .i64 4] from (by rw [show a.eval (.tmp 16) = .int .i64 b from (hD 0 16 (by kernel_rfl))] <;> rfl)) u) (by rw [← Wnb.out]; exact within_is b 1 4 u (by omega) (by omega) (by omega))) ?_
    refine sv 3 rfl rfl rfl (fun a u hE hD hk => exec_move (.tmp 1) _ rfl (hE 1 (.int .i64 r) (by kernel_rfl) (by kernel_rfl))) ?_
    refine fsteps_cons 4 rfl (fun a u hE hD hk => f_call (o := ⟨some 19, _, _, _, _, _⟩) 14 #[.int .i64 r, .int .i64 1, .int .i64 20] rfl (wanted_none rfl _) (exec_call 14 _ [.tmp 18, .const (.int .i64 1), .const (.int .i64 20)] _ [.int .i64 r, .int .i64 1, .int .i64 20] Try.func14 (by kernel_rfl) (by kernel_rfl) rfl (show [a.eval (.tmp 18), a.eval (.const (.int .i64 1)), a.eval (.const (.int .i64 20))] = [.int .i64 r, .int .i64 1, .int .i64 20] from (by rw [show a.eval (.tmp 18) = .int .i64 r from (hD 2 18 (by kernel_rfl))] <;> rfl)) u) (by rw [← Wnr.out]; exact within_is r 1 20 u (by omega) (by omega) (by omega))) ?_
    refine sv 5 rfl rfl rfl (fun a u hE hD hk => exec_assign (.tmp 17) _ rfl (hD 1 17 (by kernel_rfl))) ?_
    refine sv 6 rfl rfl rfl (fun a u hE hD hk => exec_assign (.tmp 19) _ rfl (hD 3 19 (by kernel_rfl))) ?_
    exact fsteps_nil
  intro gv w1 hV k1
  rw [show dstsOf _ 6 = [16, 17, 18, 19, 7, 8] by kernel_rfl]
  simp only [List.foldl_cons, List.foldl_nil, List.setIfInBounds_toArray, List.set_cons_succ, List.set_cons_zero, List.drop_succ_cons, List.drop_zero]
  rw [show gv 7 = .int .i64 nb from hV 4 7 (by kernel_rfl)]
  rw [show gv 8 = .int .i64 nr from hV 5 8 (by kernel_rfl)]
  clear hV
  refine wpList_nil ?_
  go_upto_region 2 with fail
  refine wp_region_lit ?_
  refine l_val (o := ⟨some 21, _, _, _, _, _⟩) (.int .i64 nb) rfl (exec_move (.tmp 7) (.int .i64 nb) rfl (by kernel_rfl)) ?_
  simp only [Act.put, List.setIfInBounds_toArray, List.set_cons_succ, List.set_cons_zero]
  refine l_val (o := ⟨some 22, _, _, _, _, _⟩) (.int .i64 nr) rfl (exec_move (.tmp 8) (.int .i64 nr) rfl (by kernel_rfl)) ?_
  simp only [Act.put, List.setIfInBounds_toArray, List.set_cons_succ, List.set_cons_zero]
  refine l_call (o := ⟨some 23, _, _, _, _, _⟩) 9 #[.int .i64 nb, .int .i64 nr] rfl (exec_call 9 _ [.tmp 21, .tmp 22] _ _ Try.func9 (by kernel_rfl) (by kernel_rfl) rfl (by kernel_rfl) _) ?_
  refine (lnew_yes nb nr (newB_iff.2 (by omega)) w1).mono ?_
  rintro e w2 ⟨g, rfl, hg, hB, kw2⟩
  refine ⟨_, rfl, ?_⟩
  simp only [Act.put, List.setIfInBounds_toArray, List.set_cons_succ, List.set_cons_zero]
  refine l_val (o := ⟨some 20, _, _, _, _, _⟩) (.tuple #[.pointer (some ⟨g, 0, none⟩), .int .i64 0]) rfl (exec_move (.tmp 23) (.tuple #[.pointer (some ⟨g, 0, none⟩), .int .i64 0]) rfl (by kernel_rfl)) ?_
  simp only [Act.put, List.setIfInBounds_toArray, List.set_cons_succ, List.set_cons_zero]
  refine l_val (o := ⟨some 24, _, _, _, _, _⟩) (.pointer (some ⟨g, 0, none⟩)) rfl (exec_extract (.tmp 20) [.pointer (some ⟨g, 0, none⟩), .int .i64 0] 0 (.pointer (some ⟨g, 0, none⟩)) rfl (by kernel_rfl) rfl) ?_
  simp only [Act.put, List.setIfInBounds_toArray, List.set_cons_succ, List.set_cons_zero]
  refine l_val (o := ⟨some 25, _, _, _, _, _⟩) (.int .i64 0) rfl (exec_extract (.tmp 20) [.pointer (some ⟨g, 0, none⟩), .int .i64 0] 1 (.int .i64 0) rfl (by kernel_rfl) rfl) ?_
  simp only [Act.put, List.setIfInBounds_toArray, List.set_cons_succ, List.set_cons_zero]
  refine l_val (o := ⟨some 9, _, _, _, _, _⟩) (.pointer (some ⟨g, 0, none⟩)) rfl (exec_assign (.tmp 24) (.pointer (some ⟨g, 0, none⟩)) rfl (by kernel_rfl)) ?_
  simp only [Act.put, List.setIfInBounds_toArray, List.set_cons_succ, List.set_cons_zero]
  refine l_val (o := ⟨some 10, _, _, _, _, _⟩) (.int .i64 0) rfl (exec_assign (.tmp 25) (.int .i64 0) rfl (by kernel_rfl)) ?_
  simp only [Act.put, List.setIfInBounds_toArray, List.set_cons_succ, List.set_cons_zero]
  refine wpList_nil ?_
  have HB := Lib.hid hB
  clear hB
  go_upto_region 3 with fail
  refine wp_text 6 [.eq (.pointer (some ⟨g, 0, none⟩)), .eq (.bool false), .eq (.bool false), .eq (.int .i64 0), .eq (.bool false), .eq (.bool false)] rfl (by kernel_rfl) ?_ ?_
  · refine sv 1 rfl rfl rfl (fun a u hE hD hk => exec_move (.tmp 9) _ rfl (hE 9 (.pointer (some ⟨g, 0, none⟩)) (by kernel_rfl) (by kernel_rfl))) ?_
    refine sv 2 rfl rfl rfl (fun a u hE hD hk => exec_eqP (.tmp 26) _ _ ⟨g, 0, none⟩ (by kernel_rfl) rfl (hD 0 26 (by kernel_rfl))) ?_
    refine sv 3 rfl rfl rfl (fun a u hE hD hk => exec_move (.tmp 27) _ rfl (hD 1 27 (by kernel_rfl))) ?_
    refine fsteps_cons 4 rfl (fun a u hE hD hk => f_val (o := ⟨some 29, _, _, _, _, _⟩) (.int .i64 0) rfl (wanted_at (b := false) false rfl rfl (hD 2 28 (by kernel_rfl))) (exec_move (.tmp 10) _ rfl (hE 10 (.int .i64 0) (by kernel_rfl) (by kernel_rfl))) rfl) ?_
    refine fsteps_cons 5 rfl (fun a u hE hD hk => f_as (show ((decide ((0 : Int) ≠ (0 : Int))) : Bool) = false from decide_eq_false (by omega)) (f_val (o := ⟨some 30, _, _, _, _, _⟩) (.bool (decide ((0 : Int) ≠ (0 : Int)))) rfl (wanted_at (b := false) false rfl rfl (hD 2 28 (by kernel_rfl))) (exec_nen (p := 0) (q := 0) rfl (hD 3 29 (by kernel_rfl)) rfl) rfl)) ?_
    refine sv 6 rfl rfl rfl (fun a u hE hD hk => exec_pickF (.tmp 28) (.const (.bool true)) (.tmp 30) (.bool false) rfl (hD 2 28 (by kernel_rfl)) (hD 4 30 (by kernel_rfl))) ?_
    exact fsteps_nil
  intro gv w3 hV kw3
  rw [show dstsOf _ 6 = [26, 27, 28, 29, 30, 31] by kernel_rfl]
  simp only [List.foldl_cons, List.foldl_nil, List.setIfInBounds_toArray, List.set_cons_succ, List.set_cons_zero, List.drop_succ_cons, List.drop_zero]
  rw [show gv 31 = .bool false from hV 5 31 (by kernel_rfl)]
  clear hV
  refine wpList_nil ?_
  have z1 := k1.size
  have hg1 : w.heap.size ≤ g := by omega
  have HB3 := Lib.hid (HB.out.kept kw3)
  have kz3 := (k1.trans kw2).trans kw3
  have zg := HB3.out.lt
  obtain ⟨bs, hbs⟩ : ∃ x, w3.heap.size = x := ⟨_, rfl⟩
  have zb := kz3.size
  rw [hbs] at zg zb
  have hz3 : bs ≤ w3.heap.size := by omega
  have HO3 : Hid (OwnI w3 bs none 0 0 []) := OwnI.nil _ _
  have HI3 : Hid (Bdl nb nr (Lok.none_ nb nr) 0 []) := Bdl.zero (newB_iff.2 (by omega))
  clear HB k1 kw2 kw3 z1 hg hbs
  generalize Lok.none_ nb nr = B0 at HB3 HI3
  go_wp2_with fail
  go_loopw [13, 11, 12] (fun t s v wr => ∃ (k : Nat) (now : Int) (L : Lok) (X : List Int) (A : Option Addr) (m c : Nat), t = .int .i64 (k : Int) ∧ s = .int .i64 now ∧ v = .slice A m c ∧ k ≤ 60 ∧ k ≤ n ∧ m ≤ k ∧ 0 ≤ now ∧ now ≤ 7 * k ∧ Hid (Blk wr g 46 L.cells) ∧ Hid (OwnI wr bs A m c X) ∧ Hid (Bdl nb nr L now X) ∧ bs ≤ wr.heap.size ∧ Kept w wr) (fun t _ _ _ => 60 - (intOf t).toNat)
  case atStart => exact ⟨0, 0, B0, [], none, 0, 0, rfl, rfl, rfl, by omega, by omega, by omega, by omega, by omega, HB3, HO3, HI3, hz3, kz3⟩
  case round =>
    obtain ⟨k, now, L, X, O, m, d, rfl, rfl, rfl, hk60, hkn, hmk, hn0, hn1, HBr, HOr, HI, hzr, kwr⟩ := hrel
    clear HB3 HO3 HI3 kz3 hz3
    by_cases hlt : k < n ∧ k < 60
    · obtain ⟨hin, hk6⟩ := hlt
      have hil : k < l.length := by rw [hl.out]; exact hin
      obtain ⟨x, hx⟩ : ∃ x, l[k]? = some x := ⟨_, List.getElem?_eq_getElem hil⟩
      obtain ⟨ad, rfl, hX⟩ := HRI.out k x hx
      have HX := Lib.hid (elat (kwr.cell hX))
      clear hx hX hil
      obtain ⟨dt, hdt⟩ : ∃ z, wi x 0 7 = z := ⟨_, rfl⟩
      have bdt := wi_in x 0 7 (by omega)
      rw [hdt] at bdt
      have Wdt := Lib.hid hdt
      clear hdt
      obtain ⟨nw, hnw⟩ : ∃ z, now + dt = z := ⟨_, rfl⟩
      have hw0 : now ≤ nw := by omega
      have hw1 : nw ≤ 7 * (k + 1) := by omega
      have HOk := Lib.hid HI.out.ok
      have HN := Lib.hid hnw
      clear hnw
      go_upto_region 8 with fail
      refine wp_text 8 [.eq (.int .i64 (k : Int)), .eq (.slice (some ad) n c), .eq (.int .i64 (n : Int)), .eq (.bool true), .eq (.bool true), .eq (.int .i64 (k : Int)), .eq (.bool true), .eq (.bool true)] rfl (by kernel_rfl) ?_ ?_
      · refine sv 1 rfl rfl rfl (fun a u hE hD hk => exec_move (.tmp 13) _ rfl (hE 13 (.int .i64 (k : Int)) (by kernel_rfl) (by kernel_rfl))) ?_
        refine sv 2 rfl rfl rfl (fun a u hE hD hk => exec_move (.tmp 2) _ rfl (hE 2 (.slice (some ad) n c) (by kernel_rfl) (by kernel_rfl))) ?_
        refine sv 3 rfl rfl rfl (fun a u hE hD hk => exec_len (.tmp 33) _ _ slI.und (some ad) n c rfl (hD 1 33 (by kernel_rfl))) ?_
        refine fsteps_cons 4 rfl (fun a u hE hD hk => f_as (show ((decide (((k : Int) : Int) < ((n : Int) : Int))) : Bool) = true from decide_eq_true (by omega)) (f_val (o := ⟨some 35, _, _, _, _, _⟩) (.bool (decide (((k : Int) : Int) < ((n : Int) : Int)))) rfl (wanted_none rfl _) (exec_ltn (p := (k : Int)) (q := (n : Int)) rfl (hD 0 32 (by kernel_rfl)) (hD 2 34 (by kernel_rfl))) rfl)) ?_
        refine sv 5 rfl rfl rfl (fun a u hE hD hk => exec_move (.tmp 35) _ rfl (hD 3 35 (by kernel_rfl))) ?_
        refine fsteps_cons 6 rfl (fun a u hE hD hk => f_val (o := ⟨some 37, _, _, _, _, _⟩) (.int .i64 (k : Int)) rfl (wanted_at (b := true) true rfl rfl (hD 4 36 (by kernel_rfl))) (exec_move (.tmp 13) _ rfl (hE 13 (.int .i64 (k : Int)) (by kernel_rfl) (by kernel_rfl))) rfl) ?_
        refine fsteps_cons 7 rfl (fun a u hE hD hk => f_as (show ((decide (((k : Int) : Int) < (60 : Int))) : Bool) = true from decide_eq_true (by omega)) (f_val (o := ⟨some 38, _, _, _, _, _⟩) (.bool (decide (((k : Int) : Int) < (60 : Int)))) rfl (wanted_at (b := true) true rfl rfl (hD 4 36 (by kernel_rfl))) (exec_ltn (p := (k : Int)) (q := 60) rfl (hD 5 37 (by kernel_rfl)) rfl) rfl)) ?_
        refine sv 8 rfl rfl rfl (fun a u hE hD hk => exec_pick (.tmp 36) (.tmp 38) (.const (.bool false)) (.bool true) rfl (hD 4 36 (by kernel_rfl)) (hD 6 38 (by kernel_rfl))) ?_
        exact fsteps_nil
      intro gv w5 hV k5
      rw [show dstsOf _ 8 = [32, 33, 34, 35, 36, 37, 38, 39] by kernel_rfl]
      simp only [List.foldl_cons, List.foldl_nil, List.setIfInBounds_toArray, List.set_cons_succ, List.set_cons_zero, List.drop_succ_cons, List.drop_zero]
      rw [show gv 39 = .bool true from hV 7 39 (by kernel_rfl)]
      clear hV
      refine wpList_nil ?_
      have HX5 := Lib.hid (HX.out.go k5)
      clear HX
      go_upto_region 10 with fail
      refine wp_text 7 [.eq (.int .i64 now), .eq (.slice (some ad) n c), .eq (.int .i64 (k : Int)), .eq (.pointer (some (ad.add (k * 1)))), .eq (.int .i64 x), .eq (.int .i64 dt), .eq (.int .i64 nw)] rfl (by kernel_rfl) ?_ ?_
      · refine sv 1 rfl rfl rfl (fun a u hE hD hk => exec_move (.tmp 11) _ rfl (hE 11 (.int .i64 now) (by kernel_rfl) (by kernel_rfl))) ?_
        refine sv 2 rfl rfl rfl (fun a u hE hD hk => exec_move (.tmp 2) _ rfl (hE 2 (.slice (some ad) n c) (by kernel_rfl) (by kernel_rfl))) ?_
        refine sv 3 rfl rfl rfl (fun a u hE hD hk => exec_move (.tmp 13) _ rfl (hE 13 (.int .i64 (k : Int)) (by kernel_rfl) (by kernel_rfl))) ?_
        refine sv 4 rfl rfl rfl (fun a u hE hD hk => exec_indexA 40 3 1 (.tmp 43) (.tmp 44) ad n c k rfl Try.underlying40 infoI1 (hD 1 43 (by kernel_rfl)) (hD 2 44 (by kernel_rfl)) hin) ?_
        refine sv 5 rfl rfl rfl (fun a u hE hD hk => exec_loadi 3 Try.underlying3 (.tmp 45) (ad.add (k * 1)) (.int .i64 x) rfl (hD 3 45 (by kernel_rfl)) (HX5.out.at_ hk)) ?_
        refine fsteps_cons 6 rfl (fun a u hE hD hk => f_call (o := ⟨some 47, _, _, _, _, _⟩) 14 #[.int .i64 x, .int .i64 0, .int .i64 7] rfl (wanted_none rfl _) (exec_call 14 _ [.tmp 46, .const (.int .i64 0), .const (.int .i64 7)] _ [.int .i64 x, .int .i64 0, .int .i64 7] Try.func14 (by kernel_rfl) (by kernel_rfl) rfl (show [a.eval (.tmp 46), a.eval (.const (.int .i64 0)), a.eval (.const (.int .i64 7))] = [.int .i64 x, .int .i64 0, .int .i64 7] from (by rw [show a.eval (.tmp 46) = .int .i64 x from (hD 4 46 (by kernel_rfl))] <;> rfl)) u) (by rw [← Wdt.out]; exact within_is x 0 7 u (by omega) (by omega) (by omega))) ?_
        refine sv 7 rfl rfl rfl (fun a u hE hD hk => exec_addn nw rfl (hD 0 42 (by kernel_rfl)) (hD 5 47 (by kernel_rfl)) HN.out (by omega) (by omega)) ?_
        exact fsteps_nil
      intro gv w6 hV k6
      rw [show dstsOf _ 7 = [42, 43, 44, 45, 46, 47, 48] by kernel_rfl]
      simp only [List.foldl_cons, List.foldl_nil, List.setIfInBounds_toArray, List.set_cons_succ, List.set_cons_zero, List.drop_succ_cons, List.drop_zero]
      rw [show gv 48 = .int .i64 nw from hV 6 48 (by kernel_rfl)]
      clear hV
      refine l_val (o := ⟨some 11, _, _, _, _, _⟩) (.int .i64 nw) rfl (exec_assign (.tmp 48) (.int .i64 nw) rfl (by kernel_rfl)) ?_
      simp only [Act.put, List.setIfInBounds_toArray, List.set_cons_succ, List.set_cons_zero]
      refine wpList_nil ?_
      have k46 := k5.trans k6
      have HB6 := Lib.hid (HBr.out.kept k46)
      have HO6 := Lib.hid (HOr.out.kept k46)
      have kw6 := kwr.trans k46
      have z6 := k46.size
      clear HBr HOr kwr k5 k6 k46 HX5 Wdt HN
      obtain ⟨L2, hL2⟩ : ∃ y, L.failM nw = y := ⟨_, rfl⟩
      cases hs : L.shut nw with
      | true =>
        obtain ⟨hst, hw1_⟩ := HI.out.shut hw0 hs
        rw [hL2] at hst hw1_
        have hle := hst.left
        have HI2 := Lib.hid hst
        have HS := Lib.hid hs
        have HT := Lib.hid hL2
        clear hs hL2 hst HI
        go_upto_region 11 with fail
        refine wp_text 4 [.eq (.pointer (some ⟨g, 0, none⟩)), .eq (.int .i64 nw), .eq (.bool true), .eq (.bool false)] rfl (by kernel_rfl) ?_ ?_
        · refine sv 1 rfl rfl rfl (fun a u hE hD hk => exec_move (.tmp 9) _ rfl (hE 9 (.pointer (some ⟨g, 0, none⟩)) (by kernel_rfl) (by kernel_rfl))) ?_
          refine sv 2 rfl rfl rfl (fun a u hE hD hk => exec_move (.tmp 11) _ rfl (hE 11 (.int .i64 nw) (by kernel_rfl) (by kernel_rfl))) ?_
          refine fsteps_cons 3 rfl (fun a u hE hD hk => f_call (o := ⟨some 51, _, _, _, _, _⟩) 11 #[.pointer (some ⟨g, 0, none⟩), .int .i64 nw] rfl (wanted_none rfl _) (exec_call 11 _ [.tmp 49, .tmp 50] _ [.pointer (some ⟨g, 0, none⟩), .int .i64 nw] Try.func11 (by kernel_rfl) (by kernel_rfl) rfl (show [a.eval (.tmp 49), a.eval (.tmp 50)] = [.pointer (some ⟨g, 0, none⟩), .int .i64 nw] from (by rw [show a.eval (.tmp 49) = .pointer (some ⟨g, 0, none⟩) from (hD 0 49 (by kernel_rfl)), show a.eval (.tmp 50) = .int .i64 nw from (hD 1 50 (by kernel_rfl))] <;> rfl)) u) (llocked_at (HB6.out.kept hk) HS.out)) ?_
          refine sv 4 rfl rfl rfl (fun a u hE hD hk => exec_not _ (.tmp 51) true rfl (hD 2 51 (by kernel_rfl))) ?_
          exact fsteps_nil
        intro gv w7 hV k7
        rw [show dstsOf _ 4 = [49, 50, 51, 52] by kernel_rfl]
        simp only [List.foldl_cons, List.foldl_nil, List.setIfInBounds_toArray, List.set_cons_succ, List.set_cons_zero, List.drop_succ_cons, List.drop_zero]
        rw [show gv 52 = .bool false from hV 3 52 (by kernel_rfl)]
        clear hV
        refine wpList_nil ?_
        have HB7 := Lib.hid (HB6.out.kept k7)
        have HO7 := Lib.hid (HO6.out.kept k7)
        have kw7 := kw6.trans k7
        have z7 : bs ≤ w7.heap.size := by have := k7.size; omega
        clear HB6 HO6 kw6 k7 HS
        go_upto_region 13 with fail
        refine wp_region_lit ?_
        refine l_val (o := ⟨some 57, _, _, _, _, _⟩) (.pointer (some ⟨g, 0, none⟩)) rfl (exec_move (.tmp 9) (.pointer (some ⟨g, 0, none⟩)) rfl (by kernel_rfl)) ?_
        simp only [Act.put, List.setIfInBounds_toArray, List.set_cons_succ, List.set_cons_zero]
        refine l_val (o := ⟨some 58, _, _, _, _, _⟩) (.int .i64 nw) rfl (exec_move (.tmp 11) (.int .i64 nw) rfl (by kernel_rfl)) ?_
        simp only [Act.put, List.setIfInBounds_toArray, List.set_cons_succ, List.set_cons_zero]
        refine l_call (o := ⟨some 59, _, _, _, _, _⟩) 10 #[.pointer (some ⟨g, 0, none⟩), .int .i64 nw] rfl (exec_call 10 _ [.tmp 57, .tmp 58] _ _ Try.func10 (by kernel_rfl) (by kernel_rfl) rfl (by kernel_rfl) _) ?_
        refine (lfailed_at HB7.out HOk.out (by omega) (by omega) HT.out).mono ?_
        rintro e wf ⟨rfl, hBwf, fwf⟩
        refine ⟨_, rfl, ?_⟩
        simp only [Act.put, List.setIfInBounds_toArray, List.set_cons_succ, List.set_cons_zero]
        refine wpList_nil ?_
        have HBwf := Lib.hid hBwf
        clear hBwf
        have HOf : Hid (OwnI wf bs O m d X) := HO7.out.keep fwf (fun ad h => by obtain ⟨j, rfl, h1, h2⟩ := HO7.out.at_ ad h; simp; omega)
        have kwf : Kept w wf := kw7.trans' fwf (by omega)
        have zf : bs ≤ wf.heap.size := by have := fwf.size; omega
        clear HB7 HO7 kw7 fwf HT HOk
        go_upto_region 14 with fail
        refine wp_text 9 [.eq (.pointer (some ⟨g, 0, none⟩)), .eq (.int .i64 L2.k), .eq (.bool false), .eq (.bool false), .eq (.pointer (some ⟨g, 0, none⟩)), .eq (.int .i64 L2.k), .eq (.int .i64 nb), .eq (.bool false), .eq (.bool false)] rfl (by kernel_rfl) ?_ ?_
        · refine sv 1 rfl rfl rfl (fun a u hE hD hk => exec_move (.tmp 9) _ rfl (hE 9 (.pointer (some ⟨g, 0, none⟩)) (by kernel_rfl) (by kernel_rfl))) ?_
          refine fsteps_cons 2 rfl (fun a u hE hD hk => f_call (o := ⟨some 61, _, _, _, _, _⟩) 12 #[.pointer (some ⟨g, 0, none⟩)] rfl (wanted_none rfl _) (exec_call 12 _ [.tmp 60] _ [.pointer (some ⟨g, 0, none⟩)] Try.func12 (by kernel_rfl) (by kernel_rfl) rfl (show [a.eval (.tmp 60)] = [.pointer (some ⟨g, 0, none⟩)] from (by rw [show a.eval (.tmp 60) = .pointer (some ⟨g, 0, none⟩) from (hD 0 60 (by kernel_rfl))] <;> rfl)) u) (lwrong_any g L2 u (HBwf.out.kept hk))) ?_
          refine fsteps_cons 3 rfl (fun a u hE hD hk => f_as (show ((decide ((L2.k : Int) < (1 : Int))) : Bool) = false from decide_eq_false (by omega)) (f_val (o := ⟨some 62, _, _, _, _, _⟩) (.bool (decide ((L2.k : Int) < (1 : Int)))) rfl (wanted_none rfl _) (exec_ltn (p := L2.k) (q := 1) rfl (hD 1 61 (by kernel_rfl)) rfl) rfl)) ?_
          refine sv 4 rfl rfl rfl (fun a u hE hD hk => exec_move (.tmp 62) _ rfl (hD 2 62 (by kernel_rfl))) ?_
          refine fsteps_cons 5 rfl (fun a u hE hD hk => f_val (o := ⟨some 64, _, _, _, _, _⟩) (.pointer (some ⟨g, 0, none⟩)) rfl (wanted_at (b := false) false rfl rfl (hD 3 63 (by kernel_rfl))) (exec_move (.tmp 9) _ rfl (hE 9 (.pointer (some ⟨g, 0, none⟩)) (by kernel_rfl) (by kernel_rfl))) rfl) ?_
          refine fsteps_cons 6 rfl (fun a u hE hD hk => f_call (o := ⟨some 65, _, _, _, _, _⟩) 12 #[.pointer (some ⟨g, 0, none⟩)] rfl (wanted_at (b := false) false rfl rfl (hD 3 63 (by kernel_rfl))) (exec_call 12 _ [.tmp 64] _ [.pointer (some ⟨g, 0, none⟩)] Try.func12 (by kernel_rfl) (by kernel_rfl) rfl (show [a.eval (.tmp 64)] = [.pointer (some ⟨g, 0, none⟩)] from (by rw [show a.eval (.tmp 64) = .pointer (some ⟨g, 0, none⟩) from (hD 4 64 (by kernel_rfl))] <;> rfl)) u) (lwrong_any g L2 u (HBwf.out.kept hk))) ?_
          refine fsteps_cons 7 rfl (fun a u hE hD hk => f_val (o := ⟨some 66, _, _, _, _, _⟩) (.int .i64 nb) rfl (wanted_at (b := false) false rfl rfl (hD 3 63 (by kernel_rfl))) (exec_move (.tmp 7) _ rfl (hE 7 (.int .i64 nb) (by kernel_rfl) (by kernel_rfl))) rfl) ?_
          refine fsteps_cons 8 rfl (fun a u hE hD hk => f_as (show ((decide ((nb : Int) < (L2.k : Int))) : Bool) = false from decide_eq_false (by omega)) (f_val (o := ⟨some 67, _, _, _, _, _⟩) (.bool (decide ((nb : Int) < (L2.k : Int)))) rfl (wanted_at (b := false) false rfl rfl (hD 3 63 (by kernel_rfl))) (exec_gtn (p := L2.k) (q := nb) rfl (hD 5 65 (by kernel_rfl)) (hD 6 66 (by kernel_rfl))) rfl)) ?_
          refine sv 9 rfl rfl rfl (fun a u hE hD hk => exec_pickF (.tmp 63) (.const (.bool true)) (.tmp 67) (.bool false) rfl (hD 3 63 (by kernel_rfl)) (hD 7 67 (by kernel_rfl))) ?_
          exact fsteps_nil
        intro gv wz hV kz
        rw [show dstsOf _ 9 = [60, 61, 62, 63, 64, 65, 66, 67, 68] by kernel_rfl]
        simp only [List.foldl_cons, List.foldl_nil, List.setIfInBounds_toArray, List.set_cons_succ, List.set_cons_zero, List.drop_succ_cons, List.drop_zero]
        rw [show gv 68 = .bool false from hV 8 68 (by kernel_rfl)]
        clear hV
        refine wpList_nil ?_
        have HBz := Lib.hid (HBwf.out.kept kz)
        have HOz := Lib.hid (HOf.out.kept kz)
        have kwz := kwf.trans kz
        have zz : bs ≤ wz.heap.size := by have := kz.size; omega
        clear HBwf HOf kwf kz
        go_wp2
        exact ⟨⟨k + 1, nw, L2, X, O, m, d, by simp, rfl, rfl, by omega, by omega, by omega, by omega, by omega, HBz, HOz, HI2, zz, kwz⟩, by simp [intOf]; omega⟩
      | false =>
        obtain ⟨hst, hw1_⟩ := HI.out.opened hw0 (by omega) (by omega) hs
        rw [hL2] at hst hw1_
        have hle := hst.left
        have HI2 := Lib.hid hst
        have HS := Lib.hid hs
        have HT := Lib.hid hL2
        clear hs hL2 hst HI
        go_upto_region 11 with fail
        refine wp_text 4 [.eq (.pointer (some ⟨g, 0, none⟩)), .eq (.int .i64 nw), .eq (.bool false), .eq (.bool true)] rfl (by kernel_rfl) ?_ ?_
        · refine sv 1 rfl rfl rfl (fun a u hE hD hk => exec_move (.tmp 9) _ rfl (hE 9 (.pointer (some ⟨g, 0, none⟩)) (by kernel_rfl) (by kernel_rfl))) ?_
          refine sv 2 rfl rfl rfl (fun a u hE hD hk => exec_move (.tmp 11) _ rfl (hE 11 (.int .i64 nw) (by kernel_rfl) (by kernel_rfl))) ?_
          refine fsteps_cons 3 rfl (fun a u hE hD hk => f_call (o := ⟨some 51, _, _, _, _, _⟩) 11 #[.pointer (some ⟨g, 0, none⟩), .int .i64 nw] rfl (wanted_none rfl _) (exec_call 11 _ [.tmp 49, .tmp 50] _ [.pointer (some ⟨g, 0, none⟩), .int .i64 nw] Try.func11 (by kernel_rfl) (by kernel_rfl) rfl (show [a.eval (.tmp 49), a.eval (.tmp 50)] = [.pointer (some ⟨g, 0, none⟩), .int .i64 nw] from (by rw [show a.eval (.tmp 49) = .pointer (some ⟨g, 0, none⟩) from (hD 0 49 (by kernel_rfl)), show a.eval (.tmp 50) = .int .i64 nw from (hD 1 50 (by kernel_rfl))] <;> rfl)) u) (llocked_at (HB6.out.kept hk) HS.out)) ?_
          refine sv 4 rfl rfl rfl (fun a u hE hD hk => exec_not _ (.tmp 51) false rfl (hD 2 51 (by kernel_rfl))) ?_
          exact fsteps_nil
        intro gv w8 hV k8
        rw [show dstsOf _ 4 = [49, 50, 51, 52] by kernel_rfl]
        simp only [List.foldl_cons, List.foldl_nil, List.setIfInBounds_toArray, List.set_cons_succ, List.set_cons_zero, List.drop_succ_cons, List.drop_zero]
        rw [show gv 52 = .bool true from hV 3 52 (by kernel_rfl)]
        clear hV
        refine wpList_nil ?_
        have HB8 := Lib.hid (HB6.out.kept k8)
        have HO8 := Lib.hid (HO6.out.kept k8)
        have kw8 := kw6.trans k8
        have z8 : bs ≤ w8.heap.size := by have := k8.size; omega
        clear HB6 HO6 kw6 k8 HS
        go_upto_region 12 with fail
        refine wp_region_lit ?_
        refine l_val (o := ⟨some 53, _, _, _, _, _⟩) (.slice O m d) rfl (exec_move (.tmp 12) (.slice O m d) rfl (by kernel_rfl)) ?_
        simp only [Act.put, List.setIfInBounds_toArray, List.set_cons_succ, List.set_cons_zero]
        refine l_val (o := ⟨some 54, _, _, _, _, _⟩) (.int .i64 nw) rfl (exec_move (.tmp 11) (.int .i64 nw) rfl (by kernel_rfl)) ?_
        simp only [Act.put, List.setIfInBounds_toArray, List.set_cons_succ, List.set_cons_zero]
        refine l_new (o := ⟨some 55, _, _, _, _, _⟩) _ _ rfl (exec_one 40 3 (.tmp 54) (.int .i64 nw) (.int .i64 0) rfl Try.underlying40 infoI2 rfl (by kernel_rfl)) ?_
        have O1 := OwnI.one w8 nw bs z8
        have q1 : Kept w8 (w8.alloc (.cells #[.int .i64 nw] 3)) := Keep.alloc (Keep.refl _ w8) _
        generalize w8.alloc (.cells #[.int .i64 nw] 3) = w9 at O1 q1 ⊢
        generalize w8.heap.size = g1 at O1 ⊢
        simp only [Act.put, List.setIfInBounds_toArray, List.set_cons_succ, List.set_cons_zero]
        refine wpl_append_i (o := ⟨some 56, _, _, _, _, _⟩) w9 rfl (.tmp 53) (.tmp 55) rfl bs m d O X (by kernel_rfl) (HO8.out.kept q1) (by have := q1.size; omega) (some ⟨g1, 0, none⟩) 1 1 [nw] (by kernel_rfl) rfl O1.ri (fun h => by cases h) (by omega) ?_
        intro w10 A2 c2 O2 q2
        simp only [Act.put, List.setIfInBounds_toArray, List.set_cons_succ, List.set_cons_zero]
        refine l_val (o := ⟨some 12, _, _, _, _, _⟩) (.slice A2 (m + 1) c2) rfl (exec_assign (.tmp 56) (.slice A2 (m + 1) c2) rfl (by kernel_rfl)) ?_
        simp only [Act.put, List.setIfInBounds_toArray, List.set_cons_succ, List.set_cons_zero]
        refine wpList_nil ?_
        have hbk : ∀ i, i < bs → ¬ (∃ ad, O = some ad ∧ ad.block = i) := by
          rintro i hi ⟨ad, h1, h2⟩
          obtain ⟨j, rfl, h3, h4⟩ := HO8.out.at_ ad h1
          simp at h2
          omega
        have kw10 : Kept w w10 := Keep.trans (kw8.trans q1) q2 (fun i hi h => hbk i (by omega) h)
        have HB10 := Lib.hid ((HB8.out.kept q1).keep q2 (hbk g (by omega)))
        have HO10 := Lib.hid O2
        have z10 : bs ≤ w10.heap.size := by have := q1.size; have := q2.size; omega
        clear hbk O1 O2 q1 q2 HB8 HO8 kw8
        go_upto_region 13 with fail
        refine wp_region_lit ?_
        refine l_val (o := ⟨some 57, _, _, _, _, _⟩) (.pointer (some ⟨g, 0, none⟩)) rfl (exec_move (.tmp 9) (.pointer (some ⟨g, 0, none⟩)) rfl (by kernel_rfl)) ?_
        simp only [Act.put, List.setIfInBounds_toArray, List.set_cons_succ, List.set_cons_zero]
        refine l_val (o := ⟨some 58, _, _, _, _, _⟩) (.int .i64 nw) rfl (exec_move (.tmp 11) (.int .i64 nw) rfl (by kernel_rfl)) ?_
        simp only [Act.put, List.setIfInBounds_toArray, List.set_cons_succ, List.set_cons_zero]
        refine l_call (o := ⟨some 59, _, _, _, _, _⟩) 10 #[.pointer (some ⟨g, 0, none⟩), .int .i64 nw] rfl (exec_call 10 _ [.tmp 57, .tmp 58] _ _ Try.func10 (by kernel_rfl) (by kernel_rfl) rfl (by kernel_rfl) _) ?_
        refine (lfailed_at HB10.out HOk.out (by omega) (by omega) HT.out).mono ?_
        rintro e wf ⟨rfl, hBwf, fwf⟩
        refine ⟨_, rfl, ?_⟩
        simp only [Act.put, List.setIfInBounds_toArray, List.set_cons_succ, List.set_cons_zero]
        refine wpList_nil ?_
        have HBwf := Lib.hid hBwf
        clear hBwf
        have HOf : Hid (OwnI wf bs A2 (m + 1) c2 (X ++ [nw])) := HO10.out.keep fwf (fun ad h => by obtain ⟨j, rfl, h1, h2⟩ := HO10.out.at_ ad h; simp; omega)
        have kwf : Kept w wf := kw10.trans' fwf (by omega)
        have zf : bs ≤ wf.heap.size := by have := fwf.size; omega
        clear HB10 HO10 kw10 fwf HT HOk
        go_upto_region 14 with fail
        refine wp_text 9 [.eq (.pointer (some ⟨g, 0, none⟩)), .eq (.int .i64 L2.k), .eq (.bool false), .eq (.bool false), .eq (.pointer (some ⟨g, 0, none⟩)), .eq (.int .i64 L2.k), .eq (.int .i64 nb), .eq (.bool false), .eq (.bool false)] rfl (by kernel_rfl) ?_ ?_
        · refine sv 1 rfl rfl rfl (fun a u hE hD hk => exec_move (.tmp 9) _ rfl (hE 9 (.pointer (some ⟨g, 0, none⟩)) (by kernel_rfl) (by kernel_rfl))) ?_
          refine fsteps_cons 2 rfl (fun a u hE hD hk => f_call (o := ⟨some 61, _, _, _, _, _⟩) 12 #[.pointer (some ⟨g, 0, none⟩)] rfl (wanted_none rfl _) (exec_call 12 _ [.tmp 60] _ [.pointer (some ⟨g, 0, none⟩)] Try.func12 (by kernel_rfl) (by kernel_rfl) rfl (show [a.eval (.tmp 60)] = [.pointer (some ⟨g, 0, none⟩)] from (by rw [show a.eval (.tmp 60) = .pointer (some ⟨g, 0, none⟩) from (hD 0 60 (by kernel_rfl))] <;> rfl)) u) (lwrong_any g L2 u (HBwf.out.kept hk))) ?_
          refine fsteps_cons 3 rfl (fun a u hE hD hk => f_as (show ((decide ((L2.k : Int) < (1 : Int))) : Bool) = false from decide_eq_false (by omega)) (f_val (o := ⟨some 62, _, _, _, _, _⟩) (.bool (decide ((L2.k : Int) < (1 : Int)))) rfl (wanted_none rfl _) (exec_ltn (p := L2.k) (q := 1) rfl (hD 1 61 (by kernel_rfl)) rfl) rfl)) ?_
          refine sv 4 rfl rfl rfl (fun a u hE hD hk => exec_move (.tmp 62) _ rfl (hD 2 62 (by kernel_rfl))) ?_
          refine fsteps_cons 5 rfl (fun a u hE hD hk => f_val (o := ⟨some 64, _, _, _, _, _⟩) (.pointer (some ⟨g, 0, none⟩)) rfl (wanted_at (b := false) false rfl rfl (hD 3 63 (by kernel_rfl))) (exec_move (.tmp 9) _ rfl (hE 9 (.pointer (some ⟨g, 0, none⟩)) (by kernel_rfl) (by kernel_rfl))) rfl) ?_
          refine fsteps_cons 6 rfl (fun a u hE hD hk => f_call (o := ⟨some 65, _, _, _, _, _⟩) 12 #[.pointer (some ⟨g, 0, none⟩)] rfl (wanted_at (b := false) false rfl rfl (hD 3 63 (by kernel_rfl))) (exec_call 12 _ [.tmp 64] _ [.pointer (some ⟨g, 0, none⟩)] Try.func12 (by kernel_rfl) (by kernel_rfl) rfl (show [a.eval (.tmp 64)] = [.pointer (some ⟨g, 0, none⟩)] from (by rw [show a.eval (.tmp 64) = .pointer (some ⟨g, 0, none⟩) from (hD 4 64 (by kernel_rfl))] <;> rfl)) u) (lwrong_any g L2 u (HBwf.out.kept hk))) ?_
          refine fsteps_cons 7 rfl (fun a u hE hD hk => f_val (o := ⟨some 66, _, _, _, _, _⟩) (.int .i64 nb) rfl (wanted_at (b := false) false rfl rfl (hD 3 63 (by kernel_rfl))) (exec_move (.tmp 7) _ rfl (hE 7 (.int .i64 nb) (by kernel_rfl) (by kernel_rfl))) rfl) ?_
          refine fsteps_cons 8 rfl (fun a u hE hD hk => f_as (show ((decide ((nb : Int) < (L2.k : Int))) : Bool) = false from decide_eq_false (by omega)) (f_val (o := ⟨some 67, _, _, _, _, _⟩) (.bool (decide ((nb : Int) < (L2.k : Int)))) rfl (wanted_at (b := false) false rfl rfl (hD 3 63 (by kernel_rfl))) (exec_gtn (p := L2.k) (q := nb) rfl (hD 5 65 (by kernel_rfl)) (hD 6 66 (by kernel_rfl))) rfl)) ?_
          refine sv 9 rfl rfl rfl (fun a u hE hD hk => exec_pickF (.tmp 63) (.const (.bool true)) (.tmp 67) (.bool false) rfl (hD 3 63 (by kernel_rfl)) (hD 7 67 (by kernel_rfl))) ?_
          exact fsteps_nil
        intro gv wz hV kz
        rw [show dstsOf _ 9 = [60, 61, 62, 63, 64, 65, 66, 67, 68] by kernel_rfl]
        simp only [List.foldl_cons, List.foldl_nil, List.setIfInBounds_toArray, List.set_cons_succ, List.set_cons_zero, List.drop_succ_cons, List.drop_zero]
        rw [show gv 68 = .bool false from hV 8 68 (by kernel_rfl)]
        clear hV
        refine wpList_nil ?_
        have HBz := Lib.hid (HBwf.out.kept kz)
        have HOz := Lib.hid (HOf.out.kept kz)
        have kwz := kwf.trans kz
        have zz : bs ≤ wz.heap.size := by have := kz.size; omega
        clear HBwf HOf kwf kz
        go_wp2
        exact ⟨⟨k + 1, nw, L2, (X ++ [nw]), A2, (m + 1), c2, by simp, rfl, rfl, by omega, by omega, by omega, by omega, by omega, HBz, HOz, HI2, zz, kwz⟩, by simp [intOf]; omega⟩
    · have hcond : (decide ((k : Int) < (n : Int)) && decide ((k : Int) < 60)) = false := by
        by_cases h1 : (k : Int) < (n : Int)
        · rw [decide_eq_false (show ¬ (k : Int) < 60 by omega), Bool.and_false]
        · rw [decide_eq_false h1, Bool.false_and]
      go_upto_region 8 with fail
      refine wp_text 8 [.eq (.int .i64 (k : Int)), .eq (.slice A n c), .eq (.int .i64 (n : Int)), .eq (.bool (decide (((k : Int) : Int) < ((n : Int) : Int)))), .eq (.bool (decide (((k : Int) : Int) < ((n : Int) : Int)))), .cond (decide (((k : Int) : Int) < ((n : Int) : Int))) (.eq (.int .i64 (k : Int))), .cond (decide (((k : Int) : Int) < ((n : Int) : Int))) (.eq (.bool (decide (((k : Int) : Int) < (60 : Int))))), .eq (.bool false)] rfl (by kernel_rfl) ?_ ?_
      · refine sv 1 rfl rfl rfl (fun a u hE hD hk => exec_move (.tmp 13) _ rfl (hE 13 (.int .i64 (k : Int)) (by kernel_rfl) (by kernel_rfl))) ?_
        refine sv 2 rfl rfl rfl (fun a u hE hD hk => exec_move (.tmp 2) _ rfl (hE 2 (.slice A n c) (by kernel_rfl) (by kernel_rfl))) ?_
        refine sv 3 rfl rfl rfl (fun a u hE hD hk => exec_len (.tmp 33) _ _ slI.und A n c rfl (hD 1 33 (by kernel_rfl))) ?_
        refine sv 4 rfl rfl rfl (fun a u hE hD hk => exec_ltn (p := (k : Int)) (q := (n : Int)) rfl (hD 0 32 (by kernel_rfl)) (hD 2 34 (by kernel_rfl))) ?_
        refine sv 5 rfl rfl rfl (fun a u hE hD hk => exec_move (.tmp 35) _ rfl (hD 3 35 (by kernel_rfl))) ?_
        refine fsteps_cons 6 rfl (fun a u hE hD hk => f_if ((decide (((k : Int) : Int) < ((n : Int) : Int)))) rfl rfl rfl (hD 4 36 (by kernel_rfl)) (fun hb => f_val (o := ⟨some 37, _, _, _, _, _⟩) (.int .i64 (k : Int)) rfl (wanted_b rfl rfl (hD 4 36 (by kernel_rfl)) (eq_true_of hb)) (exec_move (.tmp 13) _ rfl (hE 13 (.int .i64 (k : Int)) (by kernel_rfl) (by kernel_rfl))) rfl)) ?_
        refine fsteps_cons 7 rfl (fun a u hE hD hk => f_if ((decide (((k : Int) : Int) < ((n : Int) : Int)))) rfl rfl rfl (hD 4 36 (by kernel_rfl)) (fun hb => f_val (o := ⟨some 38, _, _, _, _, _⟩) (.bool (decide (((k : Int) : Int) < (60 : Int)))) rfl (wanted_b rfl rfl (hD 4 36 (by kernel_rfl)) (eq_true_of hb)) (exec_ltn (p := (k : Int)) (q := 60) rfl ((hD 5 37 (by kernel_rfl)).1 hb) rfl) rfl)) ?_
        refine fsteps_cons 8 rfl (fun a u hE hD hk => f_as (show (((decide (((k : Int) : Int) < ((n : Int) : Int))) && (decide (((k : Int) : Int) < (60 : Int)))) : Bool) = false from hcond) (f_val (o := ⟨some 39, _, _, _, _, _⟩) (.bool ((decide (((k : Int) : Int) < ((n : Int) : Int))) && (decide (((k : Int) : Int) < (60 : Int))))) rfl (wanted_none rfl _) (exec_pickand (.tmp 36) (.tmp 38) (.const (.bool false)) ((decide (((k : Int) : Int) < ((n : Int) : Int)))) ((decide (((k : Int) : Int) < (60 : Int)))) rfl (hD 4 36 (by kernel_rfl)) (fun hb2 => ((hD 6 38 (by kernel_rfl)).1 hb2)) rfl) rfl)) ?_
        exact fsteps_nil
      intro gv w5 hV k5
      rw [show dstsOf _ 8 = [32, 33, 34, 35, 36, 37, 38, 39] by kernel_rfl]
      simp only [List.foldl_cons, List.foldl_nil, List.setIfInBounds_toArray, List.set_cons_succ, List.set_cons_zero, List.drop_succ_cons, List.drop_zero]
      rw [show gv 39 = .bool false from hV 7 39 (by kernel_rfl)]
      clear hV
      refine wpList_nil ?_
      have HO5 := Lib.hid (HOr.out.kept k5)
      have kw5 := kwr.trans k5
      clear hcond hlt HBr HOr kwr k5 hzr hkn HRI
      have HLN : Hid (X.length = m) := HO5.out.len
      go_upto_region 16 with fail
      refine wp_text 3 [.eq (.slice O m d), .eq (.int .i64 (m : Int)), .eq (.int .i64 0)] rfl (by kernel_rfl) ?_ ?_
      · refine sv 1 rfl rfl rfl (fun a u hE hD hk => exec_move (.tmp 12) _ rfl (hE 12 (.slice O m d) (by kernel_rfl) (by kernel_rfl))) ?_
        refine sv 2 rfl rfl rfl (fun a u hE hD hk => exec_len (.tmp 69) _ _ slI.und O m d rfl (hD 0 69 (by kernel_rfl))) ?_
        refine sv 3 rfl rfl rfl (fun a u hE hD hk => exec_move (.const (.int .i64 0)) _ rfl rfl) ?_
        exact fsteps_nil
      intro gv w6 hV k6
      rw [show dstsOf _ 3 = [69, 70, 71] by kernel_rfl]
      simp only [List.foldl_cons, List.foldl_nil, List.setIfInBounds_toArray, List.set_cons_succ, List.set_cons_zero, List.drop_succ_cons, List.drop_zero]
      rw [show gv 70 = .int .i64 (m : Int) from hV 1 70 (by kernel_rfl)]
      rw [show gv 71 = .int .i64 0 from hV 2 71 (by kernel_rfl)]
      clear hV
      refine wpList_nil ?_
      have HO6 := Lib.hid (HO5.out.kept k6)
      have kw6 := kw5.trans k6
      clear HO5 kw5 k6
      go_wp2_with fail
      go_loopw [71] (fun t wr => ∃ i : Nat, t = .int .i64 (i : Int) ∧ i ≤ m ∧ Hid (OwnI wr bs O m d X) ∧ Kept w wr) (fun t _ => m - (intOf t).toNat)
      case atStart => exact ⟨0, rfl, by omega, HO6, kw6⟩
      case round =>
        obtain ⟨i, rfl, him, HO7, kw7⟩ := hrel
        clear HO6 kw6
        by_cases hi : i < m
        · skip
          go_upto_region 17 with fail
          refine wp_text 1 [.eq (.bool true)] rfl (by kernel_rfl) ?_ ?_
          · refine fsteps_cons 1 rfl (fun a u hE hD hk => f_as (show ((decide (((i : Int) : Int) < ((m : Int) : Int))) : Bool) = true from decide_eq_true (by omega)) (f_val (o := ⟨some 72, _, _, _, _, _⟩) (.bool (decide (((i : Int) : Int) < ((m : Int) : Int)))) rfl (wanted_none rfl _) (exec_ltn (p := (i : Int)) (q := (m : Int)) rfl (hE 71 (.int .i64 (i : Int)) (by kernel_rfl) (by kernel_rfl)) (hE 70 (.int .i64 (m : Int)) (by kernel_rfl) (by kernel_rfl))) rfl)) ?_
            exact fsteps_nil
          intro gv w8 hV k8
          rw [show dstsOf _ 1 = [72] by kernel_rfl]
          simp only [List.foldl_cons, List.foldl_nil, List.setIfInBounds_toArray, List.set_cons_succ, List.set_cons_zero, List.drop_succ_cons, List.drop_zero]
          rw [show gv 72 = .bool true from hV 0 72 (by kernel_rfl)]
          clear hV
          refine wpList_nil ?_
          have HO8 := Lib.hid (HO7.out.kept k8)
          have kw8 := kw7.trans k8
          clear HO7 kw7 k8
          go_upto_region 18 with fail
          refine wp_text 2 [.eq (.int .i64 (i : Int)), .eq (.int .i64 (i : Int))] rfl (by kernel_rfl) ?_ ?_
          · refine sv 1 rfl rfl rfl (fun a u hE hD hk => exec_move (.tmp 71) _ rfl (hE 71 (.int .i64 (i : Int)) (by kernel_rfl) (by kernel_rfl))) ?_
            refine sv 2 rfl rfl rfl (fun a u hE hD hk => exec_assign (.tmp 73) _ rfl (hD 0 73 (by kernel_rfl))) ?_
            exact fsteps_nil
          intro gv w9 hV k9
          rw [show dstsOf _ 2 = [73, 14] by kernel_rfl]
          simp only [List.foldl_cons, List.foldl_nil, List.setIfInBounds_toArray, List.set_cons_succ, List.set_cons_zero, List.drop_succ_cons, List.drop_zero]
          rw [show gv 14 = .int .i64 (i : Int) from hV 1 14 (by kernel_rfl)]
          clear hV
          refine wpList_nil ?_
          have HO9 := Lib.hid (HO8.out.kept k9)
          have kw9 := kw8.trans k9
          clear HO8 kw8 k9
          go_upto_region 19 with fail
          refine wp_text 2 [.eq (.int .i64 (i : Int)), .eq (.int .i64 (i : Int))] rfl (by kernel_rfl) ?_ ?_
          · refine sv 1 rfl rfl rfl (fun a u hE hD hk => exec_move (.tmp 14) _ rfl (hE 14 (.int .i64 (i : Int)) (by kernel_rfl) (by kernel_rfl))) ?_
            refine sv 2 rfl rfl rfl (fun a u hE hD hk => exec_assign (.tmp 74) _ rfl (hD 0 74 (by kernel_rfl))) ?_
            exact fsteps_nil
          intro gv w10 hV k10
          rw [show dstsOf _ 2 = [74, 15] by kernel_rfl]
          simp only [List.foldl_cons, List.foldl_nil, List.setIfInBounds_toArray, List.set_cons_succ, List.set_cons_zero, List.drop_succ_cons, List.drop_zero]
          rw [show gv 15 = .int .i64 (i : Int) from hV 1 15 (by kernel_rfl)]
          clear hV
          refine wpList_nil ?_
          have HO10 := Lib.hid (HO9.out.kept k10)
          have kw10 := kw9.trans k10
          clear HO9 kw9 k10
          go_wp2_with fail
          go_loopw [15] (fun t wr => ∃ j : Nat, t = .int .i64 (j : Int) ∧ i ≤ j ∧ j ≤ m ∧ Hid (OwnI wr bs O m d X) ∧ Kept w wr) (fun t _ => m - (intOf t).toNat)
          case atStart => exact ⟨i, rfl, by omega, by omega, HO10, kw10⟩
          case round =>
            obtain ⟨j, rfl, hij, hjm, HO11, kw11⟩ := hrel
            clear HO10 kw10
            by_cases hj : j < m
            · have hX0 := List.getElem?_eq_getElem (show i < X.length by rw [HLN.out]; exact hi)
              have hY0 := List.getElem?_eq_getElem (show j < X.length by rw [HLN.out]; exact hj)
              generalize X[i]'(_) = x at hX0
              generalize X[j]'(_) = y at hY0
              obtain ⟨ga, rfl, _, _⟩ := OwnG.some_ HO11.out (by omega)
              have hxc := owni_el HO11.out hi hX0
              have hyc := owni_el HO11.out hj hY0
              have hx := HI.out.low i x hX0
              have hy := HI.out.low j y hY0
              obtain ⟨D, M, hD_, hM_, q0, q1, q2, q3, q4⟩ := HI.out.two (by omega) i j x y hij hX0 hY0
              have HD := Lib.hid hD_
              have HM := Lib.hid hM_
              have HXc := Lib.hid hxc
              have HYc := Lib.hid hyc
              clear hxc hyc hX0 hY0 hD_ hM_
              go_upto_region 20 with fail
              refine wp_text 4 [.eq (.int .i64 (j : Int)), .eq (.slice (some ⟨ga, 0, none⟩) m d), .eq (.int .i64 (m : Int)), .eq (.bool true)] rfl (by kernel_rfl) ?_ ?_
              · refine sv 1 rfl rfl rfl (fun a u hE hD hk => exec_move (.tmp 15) _ rfl (hE 15 (.int .i64 (j : Int)) (by kernel_rfl) (by kernel_rfl))) ?_
                refine sv 2 rfl rfl rfl (fun a u hE hD hk => exec_move (.tmp 12) _ rfl (hE 12 (.slice (some ⟨ga, 0, none⟩) m d) (by kernel_rfl) (by kernel_rfl))) ?_
                refine sv 3 rfl rfl rfl (fun a u hE hD hk => exec_len (.tmp 76) _ _ slI.und (some ⟨ga, 0, none⟩) m d rfl (hD 1 76 (by kernel_rfl))) ?_
                refine fsteps_cons 4 rfl (fun a u hE hD hk => f_as (show ((decide (((j : Int) : Int) < ((m : Int) : Int))) : Bool) = true from decide_eq_true (by omega)) (f_val (o := ⟨some 78, _, _, _, _, _⟩) (.bool (decide (((j : Int) : Int) < ((m : Int) : Int)))) rfl (wanted_none rfl _) (exec_ltn (p := (j : Int)) (q := (m : Int)) rfl (hD 0 75 (by kernel_rfl)) (hD 2 77 (by kernel_rfl))) rfl)) ?_
                exact fsteps_nil
              intro gv w12 hV k12
              rw [show dstsOf _ 4 = [75, 76, 77, 78] by kernel_rfl]
              simp only [List.foldl_cons, List.foldl_nil, List.setIfInBounds_toArray, List.set_cons_succ, List.set_cons_zero, List.drop_succ_cons, List.drop_zero]
              rw [show gv 78 = .bool true from hV 3 78 (by kernel_rfl)]
              clear hV
              refine wpList_nil ?_
              have HX12 := Lib.hid (k12.cell HXc.out)
              have HY12 := Lib.hid (k12.cell HYc.out)
              go_upto_region 22 with fail
              refine wp_free 19 [.eq (.int .i64 (j : Int)), .eq (.int .i64 (i : Int)), .eq (.int .i64 (((j : Int) : Int) - ((i : Int) : Int))), .eq (.int .i64 (((((j : Int) : Int) - ((i : Int) : Int)) : Int) + (1 : Int))), .eq (.int .i64 nb), .eq (.slice (some ⟨ga, 0, none⟩) m d), .eq (.int .i64 (j : Int)), .eq (.pointer (some ⟨ga, 0 + j * 1, none⟩)), .eq (.int .i64 y), .eq (.slice (some ⟨ga, 0, none⟩) m d), .eq (.int .i64 (i : Int)), .eq (.pointer (some ⟨ga, 0 + i * 1, none⟩)), .eq (.int .i64 x), .eq (.int .i64 ((y : Int) - (x : Int))), .eq (.int .i64 nr), .eq (.int .i64 D), .eq (.int .i64 ((D : Int) + (2 : Int))), .eq (.int .i64 M), .eq (.bool false)] (by kernel_rfl) rfl (by kernel_rfl) ?_ ?_
              · refine sv 1 rfl rfl rfl (fun a u hE hD hk => exec_move (.tmp 15) _ rfl (hE 15 (.int .i64 (j : Int)) (by kernel_rfl) (by kernel_rfl))) ?_
                refine sv 2 rfl rfl rfl (fun a u hE hD hk => exec_move (.tmp 14) _ rfl (hE 14 (.int .i64 (i : Int)) (by kernel_rfl) (by kernel_rfl))) ?_
                refine sv 3 rfl rfl rfl (fun a u hE hD hk => exec_subn (p := ((j : Int))) (q := ((i : Int))) (((j : Int) : Int) - ((i : Int) : Int)) rfl (hD 0 81 (by kernel_rfl)) (hD 1 82 (by kernel_rfl)) rfl (by omega) (by omega)) ?_
                refine sv 4 rfl rfl rfl (fun a u hE hD hk => exec_addn (p := ((((j : Int) : Int) - ((i : Int) : Int)))) (q := (1)) (((((j : Int) : Int) - ((i : Int) : Int)) : Int) + (1 : Int)) rfl (hD 2 83 (by kernel_rfl)) rfl rfl (by omega) (by omega)) ?_
                refine sv 5 rfl rfl rfl (fun a u hE hD hk => exec_move (.tmp 7) _ rfl (hE 7 (.int .i64 nb) (by kernel_rfl) (by kernel_rfl))) ?_
                refine sv 6 rfl rfl rfl (fun a u hE hD hk => exec_move (.tmp 12) _ rfl (hE 12 (.slice (some ⟨ga, 0, none⟩) m d) (by kernel_rfl) (by kernel_rfl))) ?_
                refine sv 7 rfl rfl rfl (fun a u hE hD hk => exec_move (.tmp 15) _ rfl (hE 15 (.int .i64 (j : Int)) (by kernel_rfl) (by kernel_rfl))) ?_
                refine sv 8 rfl rfl rfl (fun a u hE hD hk => exec_ixo slI (.tmp 86) (.tmp 87) (ga) (0) m d j (0 + j * 1) ((j : Int)) rfl (hD 5 86 (by kernel_rfl)) (hD 6 87 (by kernel_rfl)) (by first | rfl | omega) (hj) (by first | rfl | omega)) ?_
                refine sv 9 rfl rfl rfl (fun a u hE hD hk => exec_loadi 3 Try.underlying3 (.tmp 88) ⟨ga, 0 + j * 1, none⟩ (.int .i64 y) rfl (hD 7 88 (by kernel_rfl)) (hk.cell HY12.out)) ?_
                refine sv 10 rfl rfl rfl (fun a u hE hD hk => exec_move (.tmp 12) _ rfl (hE 12 (.slice (some ⟨ga, 0, none⟩) m d) (by kernel_rfl) (by kernel_rfl))) ?_
                refine sv 11 rfl rfl rfl (fun a u hE hD hk => exec_move (.tmp 14) _ rfl (hE 14 (.int .i64 (i : Int)) (by kernel_rfl) (by kernel_rfl))) ?_
                refine sv 12 rfl rfl rfl (fun a u hE hD hk => exec_ixo slI (.tmp 90) (.tmp 91) (ga) (0) m d i (0 + i * 1) ((i : Int)) rfl (hD 9 90 (by kernel_rfl)) (hD 10 91 (by kernel_rfl)) (by first | rfl | omega) (hi) (by first | rfl | omega)) ?_
                refine sv 13 rfl rfl rfl (fun a u hE hD hk => exec_loadi 3 Try.underlying3 (.tmp 92) ⟨ga, 0 + i * 1, none⟩ (.int .i64 x) rfl (hD 11 92 (by kernel_rfl)) (hk.cell HX12.out)) ?_
                refine sv 14 rfl rfl rfl (fun a u hE hD hk => exec_subn (p := (y)) (q := (x)) ((y : Int) - (x : Int)) rfl (hD 8 89 (by kernel_rfl)) (hD 12 93 (by kernel_rfl)) rfl (by omega) (by omega)) ?_
                refine sv 15 rfl rfl rfl (fun a u hE hD hk => exec_move (.tmp 8) _ rfl (hE 8 (.int .i64 nr) (by kernel_rfl) (by kernel_rfl))) ?_
                refine sv 16 rfl rfl rfl (fun a u hE hD hk => exec_quon D rfl (hD 13 94 (by kernel_rfl)) (hD 14 95 (by kernel_rfl)) (by omega) HD.out (by omega) (by omega)) ?_
                refine sv 17 rfl rfl rfl (fun a u hE hD hk => exec_addn (p := (D)) (q := (2)) ((D : Int) + (2 : Int)) rfl (hD 15 96 (by kernel_rfl)) rfl rfl (by omega) (by omega)) ?_
                refine sv 18 rfl rfl rfl (fun a u hE hD hk => exec_muln M rfl (hD 4 85 (by kernel_rfl)) (hD 16 97 (by kernel_rfl)) HM.out (by omega) (by omega)) ?_
                refine fsteps_cons 19 rfl (fun a u hE hD hk => f_as (show ((decide ((M : Int) < ((((((j : Int) : Int) - ((i : Int) : Int)) : Int) + (1 : Int)) : Int))) : Bool) = false from decide_eq_false (by omega)) (f_val (o := ⟨some 99, _, _, _, _, _⟩) (.bool (decide ((M : Int) < ((((((j : Int) : Int) - ((i : Int) : Int)) : Int) + (1 : Int)) : Int)))) rfl (wanted_none rfl _) (exec_gtn (p := (((((j : Int) : Int) - ((i : Int) : Int)) : Int) + (1 : Int))) (q := M) rfl (hD 3 84 (by kernel_rfl)) (hD 17 98 (by kernel_rfl))) rfl)) ?_
                exact fsteps_nil
              intro gv w13 hV k13
              rw [show dstsOf _ 19 = [81, 82, 83, 84, 85, 86, 87, 88, 89, 90, 91, 92, 93, 94, 95, 96, 97, 98, 99] by kernel_rfl]
              simp only [List.foldl_cons, List.foldl_nil, List.setIfInBounds_toArray, List.set_cons_succ, List.set_cons_zero, List.drop_succ_cons, List.drop_zero]
              rw [show gv 99 = .bool false from hV 18 99 (by kernel_rfl)]
              clear hV
              refine wpList_nil ?_
              have HO13 := Lib.hid ((HO11.out.kept k12).kept k13)
              have kw13 := (kw11.trans k12).trans k13
              clear HX12 HY12 HXc HYc HD HM HO11 kw11 k12 k13
              go_wp2
              exact ⟨⟨j + 1, by simp, by omega, by omega, HO13, kw13⟩, by simp [intOf]; omega⟩
            · skip
              go_upto_region 20 with fail
              refine wp_text 4 [.eq (.int .i64 (j : Int)), .eq (.slice O m d), .eq (.int .i64 (m : Int)), .eq (.bool false)] rfl (by kernel_rfl) ?_ ?_
              · refine sv 1 rfl rfl rfl (fun a u hE hD hk => exec_move (.tmp 15) _ rfl (hE 15 (.int .i64 (j : Int)) (by kernel_rfl) (by kernel_rfl))) ?_
                refine sv 2 rfl rfl rfl (fun a u hE hD hk => exec_move (.tmp 12) _ rfl (hE 12 (.slice O m d) (by kernel_rfl) (by kernel_rfl))) ?_
                refine sv 3 rfl rfl rfl (fun a u hE hD hk => exec_len (.tmp 76) _ _ slI.und O m d rfl (hD 1 76 (by kernel_rfl))) ?_
                refine fsteps_cons 4 rfl (fun a u hE hD hk => f_as (show ((decide (((j : Int) : Int) < ((m : Int) : Int))) : Bool) = false from decide_eq_false (by omega)) (f_val (o := ⟨some 78, _, _, _, _, _⟩) (.bool (decide (((j : Int) : Int) < ((m : Int) : Int)))) rfl (wanted_none rfl _) (exec_ltn (p := (j : Int)) (q := (m : Int)) rfl (hD 0 75 (by kernel_rfl)) (hD 2 77 (by kernel_rfl))) rfl)) ?_
                exact fsteps_nil
              intro gv w12 hV k12
              rw [show dstsOf _ 4 = [75, 76, 77, 78] by kernel_rfl]
              simp only [List.foldl_cons, List.foldl_nil, List.setIfInBounds_toArray, List.set_cons_succ, List.set_cons_zero, List.drop_succ_cons, List.drop_zero]
              rw [show gv 78 = .bool false from hV 3 78 (by kernel_rfl)]
              clear hV
              refine wpList_nil ?_
              have HO12 := Lib.hid (HO11.out.kept k12)
              have kw12 := kw11.trans k12
              clear HO11 kw11 k12
              go_wp2
              exact ⟨⟨i + 1, by simp, by omega, HO12, kw12⟩, by simp [intOf]; omega⟩
        · skip
          go_upto_region 17 with fail
          refine wp_text 1 [.eq (.bool false)] rfl (by kernel_rfl) ?_ ?_
          · refine fsteps_cons 1 rfl (fun a u hE hD hk => f_as (show ((decide (((i : Int) : Int) < ((m : Int) : Int))) : Bool) = false from decide_eq_false (by omega)) (f_val (o := ⟨some 72, _, _, _, _, _⟩) (.bool (decide (((i : Int) : Int) < ((m : Int) : Int)))) rfl (wanted_none rfl _) (exec_ltn (p := (i : Int)) (q := (m : Int)) rfl (hE 71 (.int .i64 (i : Int)) (by kernel_rfl) (by kernel_rfl)) (hE 70 (.int .i64 (m : Int)) (by kernel_rfl) (by kernel_rfl))) rfl)) ?_
            exact fsteps_nil
          intro gv w8 hV k8
          rw [show dstsOf _ 1 = [72] by kernel_rfl]
          simp only [List.foldl_cons, List.foldl_nil, List.setIfInBounds_toArray, List.set_cons_succ, List.set_cons_zero, List.drop_succ_cons, List.drop_zero]
          rw [show gv 72 = .bool false from hV 0 72 (by kernel_rfl)]
          clear hV
          refine wpList_nil ?_
          go_upto_region 25 with fail
          refine wp_text 2 [.eq (.bool true), .eq (.bool true)] rfl (by kernel_rfl) ?_ ?_
          · refine fsteps_cons 1 rfl (fun a u hE hD hk => f_call (o := ⟨some 101, _, _, _, _, _⟩) 3 #[] rfl (wanted_none rfl _) (exec_call 3 _ [] _ [] Try.func3 (by kernel_rfl) (by kernel_rfl) rfl rfl u) (lockRuns_is u)) ?_
            refine sv 2 rfl rfl rfl (fun a u hE hD hk => exec_assign (.tmp 101) _ rfl (hD 0 101 (by kernel_rfl))) ?_
            exact fsteps_nil
          intro gv w9 hV k9
          rw [show dstsOf _ 2 = [101, 6] by kernel_rfl]
          simp only [List.foldl_cons, List.foldl_nil, List.setIfInBounds_toArray, List.set_cons_succ, List.set_cons_zero, List.drop_succ_cons, List.drop_zero]
          rw [show gv 6 = .bool true from hV 1 6 (by kernel_rfl)]
          clear hV
          refine wpList_nil ?_
          have kw9 := (kw7.trans k8).trans k9
          go_wp2
          go_ret
          exact ⟨rfl, kw9⟩
end Go.Proofs.Ytliepgmnlhfaiaa
