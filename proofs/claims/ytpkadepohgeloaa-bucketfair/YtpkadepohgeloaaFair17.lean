/-
  BucketFair: who waits rate ticks gets a token, who waits long enough gets all; it answers true. No condition.
-/
import Derived.Test.YtpkadepohgeloaaPlays17
import Derived.Test.YtpkadepohgeloaaDrnM17
namespace Go.Proofs.Ytpkadepohgeloaa
open Go.RowKit
set_option linter.unusedVariables false
set_option maxRecDepth 100000

theorem drain_ok {n r now : Int} {B : Bkt} (hn : 1 ≤ n) (hn1 : n ≤ 8) (hr : 1 ≤ r) (hr1 : r ≤ 100) (h0 : 0 ≤ now) (h1 : now ≤ 2000) (hB : B.Ok) (i : Nat) (hi : (i : Int) < n) : (drain n r now B i).Ok := by
  unfold drain
  split
  · exact hB
  · exact ⟨hn, by show n ≤ _; omega, hr, by show r ≤ _; omega, by show 0 ≤ n - (i : Int); omega, by show n - (i : Int) ≤ n; omega, h0, by show now ≤ _; omega⟩
theorem empty_ok {n r now : Int} (hn : 1 ≤ n) (hn1 : n ≤ 8) (hr : 1 ≤ r) (hr1 : r ≤ 100) (h0 : 0 ≤ now) (h1 : now ≤ 2000) : (Bkt.mk n r 0 now).Ok :=
  ⟨hn, by show n ≤ _; omega, hr, by show r ≤ _; omega, Int.le_refl _, by show 0 ≤ n; omega, h0, by show now ≤ _; omega⟩
theorem prod_in {n r : Int} (hn : 1 ≤ n) (hn1 : n ≤ 8) (hr : 1 ≤ r) (hr1 : r ≤ 100) : 0 ≤ n * r ∧ n * r ≤ 800 := by
  have h1 : n * r ≤ 8 * r := Int.mul_le_mul_of_nonneg_right hn1 (by omega)
  have h2 : 0 ≤ n * r := Int.mul_nonneg (by omega) (by omega)
  omega
set_option maxRecDepth 100000 in
set_option maxHeartbeats 1600000 in
theorem bucketFair_any (b r t : Int) (w : World) : Calls Try.prog 6 #[.int .i64 b, .int .i64 r, .int .i64 t] w fun e w' => e = .returned (.bool true) ∧ Kept w w' := by
  obtain ⟨nb, hnb⟩ : ∃ z, wi b 1 8 = z := ⟨_, rfl⟩
  have bnb := wi_in b 1 8 (by omega)
  rw [hnb] at bnb
  have Wnb := Lib.hid hnb
  clear hnb
  obtain ⟨nr, hnr⟩ : ∃ z, wi r 1 100 = z := ⟨_, rfl⟩
  have bnr := wi_in r 1 100 (by omega)
  rw [hnr] at bnr
  have Wnr := Lib.hid hnr
  clear hnr
  obtain ⟨mo, hmo⟩ : ∃ z, wi t 0 1000 = z := ⟨_, rfl⟩
  have bmo := wi_in t 0 1000 (by omega)
  rw [hmo] at bmo
  have Wmo := Lib.hid hmo
  clear hmo
  obtain ⟨hp0, hp1⟩ := prod_in bnb.1 bnb.2 bnr.1 bnr.2
  obtain ⟨pr, hpr⟩ : ∃ z, nb * nr = z := ⟨_, rfl⟩
  obtain ⟨m2, hm2⟩ : ∃ z, mo + nr = z := ⟨_, rfl⟩
  obtain ⟨m1, hm1⟩ : ∃ z, m2 - 1 = z := ⟨_, rfl⟩
  obtain ⟨lt, hlt⟩ : ∃ z, m2 + pr = z := ⟨_, rfl⟩
  have bm2 : 1 ≤ m2 ∧ m2 ≤ 1100 := by omega
  have bm1 : 0 ≤ m1 ∧ m1 ≤ 1100 := by omega
  rw [hpr] at hp0 hp1
  have blt : 1 ≤ lt ∧ lt ≤ 1900 := by omega
  have hF := full_ok (full_yes (b := nb) (r := nr) (by omega) (by omega) (by omega) (by omega))
  have HSa := Lib.hid (full_seen (n := nb) (r := nr) (now := mo) (by omega) (by omega))
  have HSb : Hid ((Bkt.mk nb nr 0 m2).seenM lt = ⟨nb, nr, nb, lt⟩) := by show _ = _; rw [← hlt, ← hpr]; exact empty_all (by omega) (by omega)
  have HKa : Hid (∀ i : Nat, (i : Int) < nb → (drain nb nr mo (Bkt.full nb nr) i).Ok) := fun i hi => drain_ok bnb.1 bnb.2 bnr.1 bnr.2 bmo.1 (by omega) hF i hi
  have o0 := empty_ok bnb.1 bnb.2 bnr.1 bnr.2 bmo.1 (by omega)
  have o2 := empty_ok bnb.1 bnb.2 bnr.1 bnr.2 (show 0 ≤ m2 by omega) (by omega)
  have o3 := empty_ok bnb.1 bnb.2 bnr.1 bnr.2 (show 0 ≤ lt by omega) (by omega)
  have HKb : Hid (∀ i : Nat, (i : Int) < nb → (drain nb nr lt (Bkt.mk nb nr 0 m2) i).Ok) := fun i hi => drain_ok bnb.1 bnb.2 bnr.1 bnr.2 (by omega) (by omega) o2 i hi
  have t0 := empty_at (n := nb) (r := nr) (t := mo)
  have t1 := empty_less (n := nb) (r := nr) (t := mo) (by omega) (by omega)
  rw [hm2, hm1] at t1
  have t2 := empty_one (n := nb) (r := nr) (t := mo) (by omega) (by omega)
  rw [hm2] at t2
  have t3 := empty_at (n := nb) (r := nr) (t := m2)
  have t4 := empty_at (n := nb) (r := nr) (t := lt)
  obtain ⟨E0, hE0⟩ : ∃ E, Bkt.mk nb nr 0 mo = E := ⟨_, rfl⟩
  obtain ⟨E2, hE2⟩ : ∃ E, Bkt.mk nb nr 0 m2 = E := ⟨_, rfl⟩
  obtain ⟨E3, hE3⟩ : ∃ E, Bkt.mk nb nr 0 lt = E := ⟨_, rfl⟩
  obtain ⟨F0, hF0⟩ : ∃ E, Bkt.full nb nr = E := ⟨_, rfl⟩
  rw [hE0] at o0 t0 t1 t2
  rw [hE2] at o2 t2 t3 HSb HKb
  rw [hE3] at o3 t4
  rw [hF0] at HSa HKa
  have O0 := Lib.hid o0
  have O2 := Lib.hid o2
  have O3 := Lib.hid o3
  have T0 := Lib.hid t0
  have T1 := Lib.hid t1
  have T2 := Lib.hid t2
  have T3 := Lib.hid t3
  have T4 := Lib.hid t4
  have HE0 := Lib.hid hE0
  have HE2 := Lib.hid hE2
  have HE3 := Lib.hid hE3
  have HF0 := Lib.hid hF0
  have Hpr := Lib.hid hpr
  have Hm2 := Lib.hid hm2
  have Hm1 := Lib.hid hm1
  have Hlt := Lib.hid hlt
  clear o0 o2 o3 t0 t1 t2 t3 t4 hE0 hE2 hE3 hF0 hpr hm2 hm1 hlt hF
  go_enter Try.func6, Try.ntmps6
  go_upto_region 1 with fail
  refine wp_text 6 [.eq (.int .i64 b), .eq (.int .i64 nb), .eq (.int .i64 r), .eq (.int .i64 nr), .eq (.int .i64 nb), .eq (.int .i64 nr)] rfl (by kernel_rfl) ?_ ?_
  · refine sv 1 rfl rfl rfl (fun a u hE hD hk => exec_move (.tmp 0) _ rfl (hE 0 (.int .i64 b) (by kernel_rfl) (by kernel_rfl))) ?_
    refine fsteps_cons 2 rfl (fun a u hE hD hk => f_call (o := ⟨some 16, _, _, _, _, _⟩) 12 #[.int .i64 b, .int .i64 1, .int .i64 8] rfl (wanted_none rfl _) (exec_call 12 _ [.tmp 15, .const (.int .i64 1), .const (.int .i64 8)] _ [.int .i64 b, .int .i64 1, .int .i64 8] Try.func12 (by kernel_rfl) (by kernel_rfl) rfl (show [a.eval (.tmp 15), a.eval (.const (.int .i64 1)), a.eval (.const (.int .i64 8))] = [.int .i64 b, .int .i64 1, .int .i64 8] from (by rw [show a.eval (.tmp 15) = .int .i64 b from (hD 0 15 (by kernel_rfl))] <;> rfl)) u) (by rw [← Wnb.out]; exact within_is b 1 8 u (by omega) (by omega) (by omega))) ?_
    refine sv 3 rfl rfl rfl (fun a u hE hD hk => exec_move (.tmp 1) _ rfl (hE 1 (.int .i64 r) (by kernel_rfl) (by kernel_rfl))) ?_
    refine fsteps_cons 4 rfl (fun a u hE hD hk => f_call (o := ⟨some 18, _, _, _, _, _⟩) 12 #[.int .i64 r, .int .i64 1, .int .i64 100] rfl (wanted_none rfl _) (exec_call 12 _ [.tmp 17, .const (.int .i64 1), .const (.int .i64 100)] _ [.int .i64 r, .int .i64 1, .int .i64 100] Try.func12 (by kernel_rfl) (by kernel_rfl) rfl (show [a.eval (.tmp 17), a.eval (.const (.int .i64 1)), a.eval (.const (.int .i64 100))] = [.int .i64 r, .int .i64 1, .int .i64 100] from (by rw [show a.eval (.tmp 17) = .int .i64 r from (hD 2 17 (by kernel_rfl))] <;> rfl)) u) (by rw [← Wnr.out]; exact within_is r 1 100 u (by omega) (by omega) (by omega))) ?_
    refine sv 5 rfl rfl rfl (fun a u hE hD hk => exec_assign (.tmp 16) _ rfl (hD 1 16 (by kernel_rfl))) ?_
    refine sv 6 rfl rfl rfl (fun a u hE hD hk => exec_assign (.tmp 18) _ rfl (hD 3 18 (by kernel_rfl))) ?_
    exact fsteps_nil
  intro gv w1 hV k1
  rw [show dstsOf _ 6 = [15, 16, 17, 18, 7, 8] by kernel_rfl]
  simp only [List.foldl_cons, List.foldl_nil, List.setIfInBounds_toArray, List.set_cons_succ, List.set_cons_zero, List.drop_succ_cons, List.drop_zero]
  rw [show gv 7 = .int .i64 nb from hV 4 7 (by kernel_rfl)]
  rw [show gv 8 = .int .i64 nr from hV 5 8 (by kernel_rfl)]
  clear hV
  refine wpList_nil ?_
  go_upto_region 2 with fail
  refine wp_region_lit ?_
  refine l_val (o := ⟨some 20, _, _, _, _, _⟩) (.int .i64 nb) rfl (exec_move (.tmp 7) (.int .i64 nb) rfl (by kernel_rfl)) ?_
  simp only [Act.put, List.setIfInBounds_toArray, List.set_cons_succ, List.set_cons_zero]
  refine l_val (o := ⟨some 21, _, _, _, _, _⟩) (.int .i64 nr) rfl (exec_move (.tmp 8) (.int .i64 nr) rfl (by kernel_rfl)) ?_
  simp only [Act.put, List.setIfInBounds_toArray, List.set_cons_succ, List.set_cons_zero]
  refine l_call (o := ⟨some 22, _, _, _, _, _⟩) 8 #[.int .i64 nb, .int .i64 nr] rfl (exec_call 8 _ [.tmp 20, .tmp 21] _ _ Try.func8 (by kernel_rfl) (by kernel_rfl) rfl (by kernel_rfl) _) ?_
  refine (bnew_yes nb nr (full_yes (by omega) (by omega) (by omega) (by omega)) w1).mono ?_
  rintro e w2 ⟨g, rfl, hg, hB, kw2⟩
  refine ⟨_, rfl, ?_⟩
  simp only [Act.put, List.setIfInBounds_toArray, List.set_cons_succ, List.set_cons_zero]
  refine l_val (o := ⟨some 19, _, _, _, _, _⟩) (.tuple #[.pointer (some ⟨g, 0, none⟩), .int .i64 0]) rfl (exec_move (.tmp 22) (.tuple #[.pointer (some ⟨g, 0, none⟩), .int .i64 0]) rfl (by kernel_rfl)) ?_
  simp only [Act.put, List.setIfInBounds_toArray, List.set_cons_succ, List.set_cons_zero]
  refine l_val (o := ⟨some 23, _, _, _, _, _⟩) (.pointer (some ⟨g, 0, none⟩)) rfl (exec_extract (.tmp 19) [.pointer (some ⟨g, 0, none⟩), .int .i64 0] 0 (.pointer (some ⟨g, 0, none⟩)) rfl (by kernel_rfl) rfl) ?_
  simp only [Act.put, List.setIfInBounds_toArray, List.set_cons_succ, List.set_cons_zero]
  refine l_val (o := ⟨some 24, _, _, _, _, _⟩) (.int .i64 0) rfl (exec_extract (.tmp 19) [.pointer (some ⟨g, 0, none⟩), .int .i64 0] 1 (.int .i64 0) rfl (by kernel_rfl) rfl) ?_
  simp only [Act.put, List.setIfInBounds_toArray, List.set_cons_succ, List.set_cons_zero]
  refine l_val (o := ⟨some 9, _, _, _, _, _⟩) (.pointer (some ⟨g, 0, none⟩)) rfl (exec_assign (.tmp 23) (.pointer (some ⟨g, 0, none⟩)) rfl (by kernel_rfl)) ?_
  simp only [Act.put, List.setIfInBounds_toArray, List.set_cons_succ, List.set_cons_zero]
  refine l_val (o := ⟨some 10, _, _, _, _, _⟩) (.int .i64 0) rfl (exec_assign (.tmp 24) (.int .i64 0) rfl (by kernel_rfl)) ?_
  simp only [Act.put, List.setIfInBounds_toArray, List.set_cons_succ, List.set_cons_zero]
  refine wpList_nil ?_
  have HB := Lib.hid hB
  clear hB
  rw [HF0.out] at HB
  go_upto_region 3 with fail
  refine wp_text 6 [.eq (.pointer (some ⟨g, 0, none⟩)), .eq (.bool false), .eq (.bool false), .eq (.int .i64 0), .eq (.bool false), .eq (.bool false)] rfl (by kernel_rfl) ?_ ?_
  · refine sv 1 rfl rfl rfl (fun a u hE hD hk => exec_move (.tmp 9) _ rfl (hE 9 (.pointer (some ⟨g, 0, none⟩)) (by kernel_rfl) (by kernel_rfl))) ?_
    refine sv 2 rfl rfl rfl (fun a u hE hD hk => exec_eqP (.tmp 25) _ _ ⟨g, 0, none⟩ (by kernel_rfl) rfl (hD 0 25 (by kernel_rfl))) ?_
    refine sv 3 rfl rfl rfl (fun a u hE hD hk => exec_move (.tmp 26) _ rfl (hD 1 26 (by kernel_rfl))) ?_
    refine fsteps_cons 4 rfl (fun a u hE hD hk => f_val (o := ⟨some 28, _, _, _, _, _⟩) (.int .i64 0) rfl (wanted_at (b := false) false rfl rfl (hD 2 27 (by kernel_rfl))) (exec_move (.tmp 10) _ rfl (hE 10 (.int .i64 0) (by kernel_rfl) (by kernel_rfl))) rfl) ?_
    refine fsteps_cons 5 rfl (fun a u hE hD hk => f_as (show ((decide ((0 : Int) ≠ (0 : Int))) : Bool) = false from decide_eq_false (by omega)) (f_val (o := ⟨some 29, _, _, _, _, _⟩) (.bool (decide ((0 : Int) ≠ (0 : Int)))) rfl (wanted_at (b := false) false rfl rfl (hD 2 27 (by kernel_rfl))) (exec_nen (p := 0) (q := 0) rfl (hD 3 28 (by kernel_rfl)) rfl) rfl)) ?_
    refine sv 6 rfl rfl rfl (fun a u hE hD hk => exec_pickF (.tmp 27) (.const (.bool true)) (.tmp 29) (.bool false) rfl (hD 2 27 (by kernel_rfl)) (hD 4 29 (by kernel_rfl))) ?_
    exact fsteps_nil
  intro gv w3 hV kw3
  rw [show dstsOf _ 6 = [25, 26, 27, 28, 29, 30] by kernel_rfl]
  simp only [List.foldl_cons, List.foldl_nil, List.setIfInBounds_toArray, List.set_cons_succ, List.set_cons_zero, List.drop_succ_cons, List.drop_zero]
  rw [show gv 30 = .bool false from hV 5 30 (by kernel_rfl)]
  clear hV
  refine wpList_nil ?_
  have z1 := k1.size
  have hg1 : w.heap.size ≤ g := by omega
  have HB3 := Lib.hid (HB.out.kept kw3)
  have kz3 := (k1.trans kw2).trans kw3
  clear HB k1 kw2 kw3 z1 hg HF0
  go_upto_region 5 with fail
  refine wp_text 3 [.eq (.int .i64 t), .eq (.int .i64 mo), .eq (.int .i64 mo)] rfl (by kernel_rfl) ?_ ?_
  · refine sv 1 rfl rfl rfl (fun a u hE hD hk => exec_move (.tmp 2) _ rfl (hE 2 (.int .i64 t) (by kernel_rfl) (by kernel_rfl))) ?_
    refine fsteps_cons 2 rfl (fun a u hE hD hk => f_call (o := ⟨some 32, _, _, _, _, _⟩) 12 #[.int .i64 t, .int .i64 0, .int .i64 1000] rfl (wanted_none rfl _) (exec_call 12 _ [.tmp 31, .const (.int .i64 0), .const (.int .i64 1000)] _ [.int .i64 t, .int .i64 0, .int .i64 1000] Try.func12 (by kernel_rfl) (by kernel_rfl) rfl (show [a.eval (.tmp 31), a.eval (.const (.int .i64 0)), a.eval (.const (.int .i64 1000))] = [.int .i64 t, .int .i64 0, .int .i64 1000] from (by rw [show a.eval (.tmp 31) = .int .i64 t from (hD 0 31 (by kernel_rfl))] <;> rfl)) u) (by rw [← Wmo.out]; exact within_is t 0 1000 u (by omega) (by omega) (by omega))) ?_
    refine sv 3 rfl rfl rfl (fun a u hE hD hk => exec_assign (.tmp 32) _ rfl (hD 1 32 (by kernel_rfl))) ?_
    exact fsteps_nil
  intro gv w4 hV k4
  rw [show dstsOf _ 3 = [31, 32, 11] by kernel_rfl]
  simp only [List.foldl_cons, List.foldl_nil, List.setIfInBounds_toArray, List.set_cons_succ, List.set_cons_zero, List.drop_succ_cons, List.drop_zero]
  rw [show gv 11 = .int .i64 mo from hV 2 11 (by kernel_rfl)]
  clear hV
  refine wpList_nil ?_
  have HB4 : Hid (Blk w4 g 41 (drain nb nr mo F0 0).cells) := HB3.out.kept k4
  have kz4 := kz3.trans k4
  clear HB3 kz3 k4
  go_wp2_with fail
  go_loopw [12] (fun t wr => ∃ i : Nat, t = .int .i64 (i : Int) ∧ (i : Int) ≤ nb ∧ Hid (Blk wr g 41 (drain nb nr mo F0 i).cells) ∧ Kept w wr) (fun t _ => nb.toNat - (intOf t).toNat)
  case atStart => exact ⟨0, rfl, by omega, HB4, kz4⟩
  case round =>
    obtain ⟨i, rfl, hin, HBr, kwr⟩ := hrel
    clear HB4 kz4
    by_cases hi : (i : Int) < nb
    · have hs := drain_step HSa.out hi
      have hok : Hid (drain nb nr mo F0 i).Ok := HKa.out i hi
      obtain ⟨S, hS⟩ : ∃ S, drain nb nr mo F0 i = S := ⟨_, rfl⟩
      obtain ⟨S1, hS1⟩ : ∃ S, drain nb nr mo F0 (i + 1) = S := ⟨_, rfl⟩
      rw [hS] at HBr hok
      rw [hS, hS1] at hs
      have HC := Lib.hid hs.1
      have HT := Lib.hid hs.2
      have HS1 := Lib.hid hS1
      clear hs hS hS1
      go_upto_region 7 with fail
      refine wp_text 3 [.eq (.int .i64 (i : Int)), .eq (.int .i64 nb), .eq (.bool true)] rfl (by kernel_rfl) ?_ ?_
      · refine sv 1 rfl rfl rfl (fun a u hE hD hk => exec_move (.tmp 12) _ rfl (hE 12 (.int .i64 (i : Int)) (by kernel_rfl) (by kernel_rfl))) ?_
        refine sv 2 rfl rfl rfl (fun a u hE hD hk => exec_move (.tmp 7) _ rfl (hE 7 (.int .i64 nb) (by kernel_rfl) (by kernel_rfl))) ?_
        refine fsteps_cons 3 rfl (fun a u hE hD hk => f_as (show ((decide (((i : Int) : Int) < (nb : Int))) : Bool) = true from decide_eq_true (by omega)) (f_val (o := ⟨some 35, _, _, _, _, _⟩) (.bool (decide (((i : Int) : Int) < (nb : Int)))) rfl (wanted_none rfl _) (exec_ltn (p := (i : Int)) (q := nb) rfl (hD 0 33 (by kernel_rfl)) (hD 1 34 (by kernel_rfl))) rfl)) ?_
        exact fsteps_nil
      intro gv w7 hV k7
      rw [show dstsOf _ 3 = [33, 34, 35] by kernel_rfl]
      simp only [List.foldl_cons, List.foldl_nil, List.setIfInBounds_toArray, List.set_cons_succ, List.set_cons_zero, List.drop_succ_cons, List.drop_zero]
      rw [show gv 35 = .bool true from hV 2 35 (by kernel_rfl)]
      clear hV
      refine wpList_nil ?_
      have HB7 := Lib.hid (HBr.out.kept k7)
      have kw7 := kwr.trans k7
      clear HBr kwr k7
      go_upto_region 9 with fail
      refine wp_text 2 [.eq (.pointer (some ⟨g, 0, none⟩)), .eq (.int .i64 mo)] rfl (by kernel_rfl) ?_ ?_
      · refine sv 1 rfl rfl rfl (fun a u hE hD hk => exec_move (.tmp 9) _ rfl (hE 9 (.pointer (some ⟨g, 0, none⟩)) (by kernel_rfl) (by kernel_rfl))) ?_
        refine sv 2 rfl rfl rfl (fun a u hE hD hk => exec_move (.tmp 11) _ rfl (hE 11 (.int .i64 mo) (by kernel_rfl) (by kernel_rfl))) ?_
        exact fsteps_nil
      intro gv w8 hV k8
      rw [show dstsOf _ 2 = [38, 39] by kernel_rfl]
      simp only [List.foldl_cons, List.foldl_nil, List.setIfInBounds_toArray, List.set_cons_succ, List.set_cons_zero, List.drop_succ_cons, List.drop_zero]
      rw [show gv 38 = .pointer (some ⟨g, 0, none⟩) from hV 0 38 (by kernel_rfl)]
      rw [show gv 39 = .int .i64 mo from hV 1 39 (by kernel_rfl)]
      clear hV
      refine l_call (o := ⟨some 40, _, _, _, _, _⟩) 9 #[.pointer (some ⟨g, 0, none⟩), .int .i64 mo] rfl (exec_call 9 _ [.tmp 38, .tmp 39] _ _ Try.func9 (by kernel_rfl) (by kernel_rfl) rfl (by kernel_rfl) _) ?_
      refine (btake_at (HB7.out.kept k8) hok.out (by omega) HC.out HT.out).mono ?_
      rintro e w9 ⟨rfl, hB9, k9⟩
      refine ⟨_, rfl, ?_⟩
      simp only [Act.put, List.setIfInBounds_toArray, List.set_cons_succ, List.set_cons_zero]
      refine l_val (o := ⟨some 41, _, _, _, _, _⟩) (.bool false) rfl (exec_not _ (.tmp 40) true rfl (by kernel_rfl)) ?_
      simp only [Act.put, List.setIfInBounds_toArray, List.set_cons_succ, List.set_cons_zero]
      refine wpList_nil ?_
      rw [← HS1.out] at hB9
      have HB9 := Lib.hid hB9
      have kw9 : Kept w w9 := (kw7.trans k8).trans' k9 (by omega)
      clear HB7 kw7 hB9 k8 k9 HC HT HS1 hok
      go_wp2
      exact ⟨⟨i + 1, by simp, by omega, HB9, kw9⟩, by simp [intOf]; omega⟩
    · have hie : (i : Int) = nb := by omega
      rw [drain_end hie (by omega)] at HBr
      go_upto_region 7 with fail
      refine wp_text 3 [.eq (.int .i64 (i : Int)), .eq (.int .i64 nb), .eq (.bool false)] rfl (by kernel_rfl) ?_ ?_
      · refine sv 1 rfl rfl rfl (fun a u hE hD hk => exec_move (.tmp 12) _ rfl (hE 12 (.int .i64 (i : Int)) (by kernel_rfl) (by kernel_rfl))) ?_
        refine sv 2 rfl rfl rfl (fun a u hE hD hk => exec_move (.tmp 7) _ rfl (hE 7 (.int .i64 nb) (by kernel_rfl) (by kernel_rfl))) ?_
        refine fsteps_cons 3 rfl (fun a u hE hD hk => f_as (show ((decide (((i : Int) : Int) < (nb : Int))) : Bool) = false from decide_eq_false (by omega)) (f_val (o := ⟨some 35, _, _, _, _, _⟩) (.bool (decide (((i : Int) : Int) < (nb : Int)))) rfl (wanted_none rfl _) (exec_ltn (p := (i : Int)) (q := nb) rfl (hD 0 33 (by kernel_rfl)) (hD 1 34 (by kernel_rfl))) rfl)) ?_
        exact fsteps_nil
      intro gv wxa hV kx
      rw [show dstsOf _ 3 = [33, 34, 35] by kernel_rfl]
      simp only [List.foldl_cons, List.foldl_nil, List.setIfInBounds_toArray, List.set_cons_succ, List.set_cons_zero, List.drop_succ_cons, List.drop_zero]
      rw [show gv 35 = .bool false from hV 2 35 (by kernel_rfl)]
      clear hV
      refine wpList_nil ?_
      have HBxa := Lib.hid (HBr.out.kept kx)
      have kwxa := kwr.trans kx
      clear HBr kwr kx hie hi hin
      rw [HE0.out] at HBxa
      go_upto_region 11 with fail
      refine wp_region_lit ?_
      refine l_val (o := ⟨some 42, _, _, _, _, _⟩) (.pointer (some ⟨g, 0, none⟩)) rfl (exec_move (.tmp 9) (.pointer (some ⟨g, 0, none⟩)) rfl (by kernel_rfl)) ?_
      simp only [Act.put, List.setIfInBounds_toArray, List.set_cons_succ, List.set_cons_zero]
      refine l_val (o := ⟨some 43, _, _, _, _, _⟩) (.int .i64 mo) rfl (exec_move (.tmp 11) (.int .i64 mo) rfl (by kernel_rfl)) ?_
      simp only [Act.put, List.setIfInBounds_toArray, List.set_cons_succ, List.set_cons_zero]
      refine l_call (o := ⟨some 44, _, _, _, _, _⟩) 9 #[.pointer (some ⟨g, 0, none⟩), .int .i64 mo] rfl (exec_call 9 _ [.tmp 42, .tmp 43] _ _ Try.func9 (by kernel_rfl) (by kernel_rfl) rfl (by kernel_rfl) _) ?_
      refine (btake_at HBxa.out O0.out (by omega) T0.out.1 T0.out.2).mono ?_
      rintro e wa ⟨rfl, ha, ka⟩
      refine ⟨_, rfl, ?_⟩
      simp only [Act.put, List.setIfInBounds_toArray, List.set_cons_succ, List.set_cons_zero]
      refine l_val (o := ⟨some 45, _, _, _, _, _⟩) (.bool false) rfl (exec_move (.tmp 44) (.bool false) rfl (by kernel_rfl)) ?_
      simp only [Act.put, List.setIfInBounds_toArray, List.set_cons_succ, List.set_cons_zero]
      refine l_val (o := ⟨some 46, _, _, _, _, _⟩) (.pointer (some ⟨g, 0, none⟩)) rfl (exec_move (.tmp 9) (.pointer (some ⟨g, 0, none⟩)) rfl (by kernel_rfl)) ?_
      simp only [Act.put, List.setIfInBounds_toArray, List.set_cons_succ, List.set_cons_zero]
      refine l_val (o := ⟨some 47, _, _, _, _, _⟩) (.int .i64 mo) rfl (exec_move (.tmp 11) (.int .i64 mo) rfl (by kernel_rfl)) ?_
      simp only [Act.put, List.setIfInBounds_toArray, List.set_cons_succ, List.set_cons_zero]
      refine l_val (o := ⟨some 48, _, _, _, _, _⟩) (.int .i64 nr) rfl (exec_move (.tmp 8) (.int .i64 nr) rfl (by kernel_rfl)) ?_
      simp only [Act.put, List.setIfInBounds_toArray, List.set_cons_succ, List.set_cons_zero]
      refine l_val (o := ⟨some 49, _, _, _, _, _⟩) (.int .i64 m2) rfl (exec_addn m2 rfl (by kernel_rfl) (by kernel_rfl) Hm2.out (by omega) (by omega)) ?_
      simp only [Act.put, List.setIfInBounds_toArray, List.set_cons_succ, List.set_cons_zero]
      refine l_val (o := ⟨some 50, _, _, _, _, _⟩) (.int .i64 m1) rfl (exec_subn m1 rfl (by kernel_rfl) (by kernel_rfl) Hm1.out (by omega) (by omega)) ?_
      simp only [Act.put, List.setIfInBounds_toArray, List.set_cons_succ, List.set_cons_zero]
      refine l_call (o := ⟨some 51, _, _, _, _, _⟩) 9 #[.pointer (some ⟨g, 0, none⟩), .int .i64 m1] rfl (exec_call 9 _ [.tmp 46, .tmp 50] _ _ Try.func9 (by kernel_rfl) (by kernel_rfl) rfl (by kernel_rfl) _) ?_
      refine (btake_at ha O0.out (by omega) T1.out.1 T1.out.2).mono ?_
      rintro e wb ⟨rfl, hb_, kb⟩
      refine ⟨_, rfl, ?_⟩
      simp only [Act.put, List.setIfInBounds_toArray, List.set_cons_succ, List.set_cons_zero]
      refine l_val (o := ⟨some 52, _, _, _, _, _⟩) (.bool false) rfl (exec_pickF (.tmp 45) (.const (.bool true)) (.tmp 51) (.bool false) rfl (by kernel_rfl) (by kernel_rfl)) ?_
      simp only [Act.put, List.setIfInBounds_toArray, List.set_cons_succ, List.set_cons_zero]
      refine l_val (o := ⟨some 53, _, _, _, _, _⟩) (.bool false) rfl (exec_move (.tmp 52) (.bool false) rfl (by kernel_rfl)) ?_
      simp only [Act.put, List.setIfInBounds_toArray, List.set_cons_succ, List.set_cons_zero]
      refine l_val (o := ⟨some 54, _, _, _, _, _⟩) (.pointer (some ⟨g, 0, none⟩)) rfl (exec_move (.tmp 9) (.pointer (some ⟨g, 0, none⟩)) rfl (by kernel_rfl)) ?_
      simp only [Act.put, List.setIfInBounds_toArray, List.set_cons_succ, List.set_cons_zero]
      refine l_val (o := ⟨some 55, _, _, _, _, _⟩) (.int .i64 mo) rfl (exec_move (.tmp 11) (.int .i64 mo) rfl (by kernel_rfl)) ?_
      simp only [Act.put, List.setIfInBounds_toArray, List.set_cons_succ, List.set_cons_zero]
      refine l_val (o := ⟨some 56, _, _, _, _, _⟩) (.int .i64 nr) rfl (exec_move (.tmp 8) (.int .i64 nr) rfl (by kernel_rfl)) ?_
      simp only [Act.put, List.setIfInBounds_toArray, List.set_cons_succ, List.set_cons_zero]
      refine l_val (o := ⟨some 57, _, _, _, _, _⟩) (.int .i64 m2) rfl (exec_addn m2 rfl (by kernel_rfl) (by kernel_rfl) Hm2.out (by omega) (by omega)) ?_
      simp only [Act.put, List.setIfInBounds_toArray, List.set_cons_succ, List.set_cons_zero]
      refine l_call (o := ⟨some 58, _, _, _, _, _⟩) 9 #[.pointer (some ⟨g, 0, none⟩), .int .i64 m2] rfl (exec_call 9 _ [.tmp 54, .tmp 57] _ _ Try.func9 (by kernel_rfl) (by kernel_rfl) rfl (by kernel_rfl) _) ?_
      refine (btake_at hb_ O0.out (by omega) T2.out.1 T2.out.2).mono ?_
      rintro e wc ⟨rfl, hc, kc⟩
      refine ⟨_, rfl, ?_⟩
      simp only [Act.put, List.setIfInBounds_toArray, List.set_cons_succ, List.set_cons_zero]
      refine l_val (o := ⟨some 59, _, _, _, _, _⟩) (.bool false) rfl (exec_not _ (.tmp 58) true rfl (by kernel_rfl)) ?_
      simp only [Act.put, List.setIfInBounds_toArray, List.set_cons_succ, List.set_cons_zero]
      refine l_val (o := ⟨some 60, _, _, _, _, _⟩) (.bool false) rfl (exec_pickF (.tmp 53) (.const (.bool true)) (.tmp 59) (.bool false) rfl (by kernel_rfl) (by kernel_rfl)) ?_
      simp only [Act.put, List.setIfInBounds_toArray, List.set_cons_succ, List.set_cons_zero]
      refine l_val (o := ⟨some 61, _, _, _, _, _⟩) (.bool false) rfl (exec_move (.tmp 60) (.bool false) rfl (by kernel_rfl)) ?_
      simp only [Act.put, List.setIfInBounds_toArray, List.set_cons_succ, List.set_cons_zero]
      refine l_val (o := ⟨some 62, _, _, _, _, _⟩) (.pointer (some ⟨g, 0, none⟩)) rfl (exec_move (.tmp 9) (.pointer (some ⟨g, 0, none⟩)) rfl (by kernel_rfl)) ?_
      simp only [Act.put, List.setIfInBounds_toArray, List.set_cons_succ, List.set_cons_zero]
      refine l_val (o := ⟨some 63, _, _, _, _, _⟩) (.int .i64 mo) rfl (exec_move (.tmp 11) (.int .i64 mo) rfl (by kernel_rfl)) ?_
      simp only [Act.put, List.setIfInBounds_toArray, List.set_cons_succ, List.set_cons_zero]
      refine l_val (o := ⟨some 64, _, _, _, _, _⟩) (.int .i64 nr) rfl (exec_move (.tmp 8) (.int .i64 nr) rfl (by kernel_rfl)) ?_
      simp only [Act.put, List.setIfInBounds_toArray, List.set_cons_succ, List.set_cons_zero]
      refine l_val (o := ⟨some 65, _, _, _, _, _⟩) (.int .i64 m2) rfl (exec_addn m2 rfl (by kernel_rfl) (by kernel_rfl) Hm2.out (by omega) (by omega)) ?_
      simp only [Act.put, List.setIfInBounds_toArray, List.set_cons_succ, List.set_cons_zero]
      refine l_call (o := ⟨some 66, _, _, _, _, _⟩) 9 #[.pointer (some ⟨g, 0, none⟩), .int .i64 m2] rfl (exec_call 9 _ [.tmp 62, .tmp 65] _ _ Try.func9 (by kernel_rfl) (by kernel_rfl) rfl (by kernel_rfl) _) ?_
      refine (btake_at hc O2.out (by omega) T3.out.1 T3.out.2).mono ?_
      rintro e wd ⟨rfl, hd, kd⟩
      refine ⟨_, rfl, ?_⟩
      simp only [Act.put, List.setIfInBounds_toArray, List.set_cons_succ, List.set_cons_zero]
      refine l_val (o := ⟨some 67, _, _, _, _, _⟩) (.bool false) rfl (exec_pickF (.tmp 61) (.const (.bool true)) (.tmp 66) (.bool false) rfl (by kernel_rfl) (by kernel_rfl)) ?_
      simp only [Act.put, List.setIfInBounds_toArray, List.set_cons_succ, List.set_cons_zero]
      refine wpList_nil ?_
      have HBd := Lib.hid hd
      have kwd : Kept w wd := ((((kwxa.trans' ka (by omega)).trans' kb (by omega)).trans' kc (by omega))).trans' kd (by omega)
      clear HBxa kwxa ha hb_ hc hd ka kb kc kd O0 T0 T1 T2 T3 HE0
      go_upto_region 13 with fail
      refine wp_text 8 [.eq (.int .i64 mo), .eq (.int .i64 nr), .eq (.int .i64 m2), .eq (.int .i64 nb), .eq (.int .i64 nr), .eq (.int .i64 pr), .eq (.int .i64 lt), .eq (.int .i64 lt)] rfl (by kernel_rfl) ?_ ?_
      · refine sv 1 rfl rfl rfl (fun a u hE hD hk => exec_move (.tmp 11) _ rfl (hE 11 (.int .i64 mo) (by kernel_rfl) (by kernel_rfl))) ?_
        refine sv 2 rfl rfl rfl (fun a u hE hD hk => exec_move (.tmp 8) _ rfl (hE 8 (.int .i64 nr) (by kernel_rfl) (by kernel_rfl))) ?_
        refine sv 3 rfl rfl rfl (fun a u hE hD hk => exec_addn m2 rfl (hD 0 68 (by kernel_rfl)) (hD 1 69 (by kernel_rfl)) Hm2.out (by omega) (by omega)) ?_
        refine sv 4 rfl rfl rfl (fun a u hE hD hk => exec_move (.tmp 7) _ rfl (hE 7 (.int .i64 nb) (by kernel_rfl) (by kernel_rfl))) ?_
        refine sv 5 rfl rfl rfl (fun a u hE hD hk => exec_move (.tmp 8) _ rfl (hE 8 (.int .i64 nr) (by kernel_rfl) (by kernel_rfl))) ?_
        refine sv 6 rfl rfl rfl (fun a u hE hD hk => exec_muln pr rfl (hD 3 71 (by kernel_rfl)) (hD 4 72 (by kernel_rfl)) Hpr.out (by omega) (by omega)) ?_
        refine sv 7 rfl rfl rfl (fun a u hE hD hk => exec_addn lt rfl (hD 2 70 (by kernel_rfl)) (hD 5 73 (by kernel_rfl)) Hlt.out (by omega) (by omega)) ?_
        refine sv 8 rfl rfl rfl (fun a u hE hD hk => exec_assign (.tmp 74) _ rfl (hD 6 74 (by kernel_rfl))) ?_
        exact fsteps_nil
      intro gv we hV ke
      rw [show dstsOf _ 8 = [68, 69, 70, 71, 72, 73, 74, 13] by kernel_rfl]
      simp only [List.foldl_cons, List.foldl_nil, List.setIfInBounds_toArray, List.set_cons_succ, List.set_cons_zero, List.drop_succ_cons, List.drop_zero]
      rw [show gv 13 = .int .i64 lt from hV 7 13 (by kernel_rfl)]
      clear hV
      refine wpList_nil ?_
      have HBe : Hid (Blk we g 41 (drain nb nr lt E2 0).cells) := HBd.out.kept ke
      have kwe := kwd.trans ke
      clear HBd kwd ke
      go_wp2_with fail
      go_loopw [14] (fun t wr => ∃ i : Nat, t = .int .i64 (i : Int) ∧ (i : Int) ≤ nb ∧ Hid (Blk wr g 41 (drain nb nr lt E2 i).cells) ∧ Kept w wr) (fun t _ => nb.toNat - (intOf t).toNat)
      case atStart => exact ⟨0, rfl, by omega, HBe, kwe⟩
      case round =>
        obtain ⟨i, rfl, hin, HBr, kwr⟩ := hrel
        clear HBe kwe
        by_cases hi : (i : Int) < nb
        · have hs := drain_step HSb.out hi
          have hok : Hid (drain nb nr lt E2 i).Ok := HKb.out i hi
          obtain ⟨S, hS⟩ : ∃ S, drain nb nr lt E2 i = S := ⟨_, rfl⟩
          obtain ⟨S1, hS1⟩ : ∃ S, drain nb nr lt E2 (i + 1) = S := ⟨_, rfl⟩
          rw [hS] at HBr hok
          rw [hS, hS1] at hs
          have HC := Lib.hid hs.1
          have HT := Lib.hid hs.2
          have HS1 := Lib.hid hS1
          clear hs hS hS1
          go_upto_region 15 with fail
          refine wp_text 3 [.eq (.int .i64 (i : Int)), .eq (.int .i64 nb), .eq (.bool true)] rfl (by kernel_rfl) ?_ ?_
          · refine sv 1 rfl rfl rfl (fun a u hE hD hk => exec_move (.tmp 14) _ rfl (hE 14 (.int .i64 (i : Int)) (by kernel_rfl) (by kernel_rfl))) ?_
            refine sv 2 rfl rfl rfl (fun a u hE hD hk => exec_move (.tmp 7) _ rfl (hE 7 (.int .i64 nb) (by kernel_rfl) (by kernel_rfl))) ?_
            refine fsteps_cons 3 rfl (fun a u hE hD hk => f_as (show ((decide (((i : Int) : Int) < (nb : Int))) : Bool) = true from decide_eq_true (by omega)) (f_val (o := ⟨some 77, _, _, _, _, _⟩) (.bool (decide (((i : Int) : Int) < (nb : Int)))) rfl (wanted_none rfl _) (exec_ltn (p := (i : Int)) (q := nb) rfl (hD 0 75 (by kernel_rfl)) (hD 1 76 (by kernel_rfl))) rfl)) ?_
            exact fsteps_nil
          intro gv w7 hV k7
          rw [show dstsOf _ 3 = [75, 76, 77] by kernel_rfl]
          simp only [List.foldl_cons, List.foldl_nil, List.setIfInBounds_toArray, List.set_cons_succ, List.set_cons_zero, List.drop_succ_cons, List.drop_zero]
          rw [show gv 77 = .bool true from hV 2 77 (by kernel_rfl)]
          clear hV
          refine wpList_nil ?_
          have HB7 := Lib.hid (HBr.out.kept k7)
          have kw7 := kwr.trans k7
          clear HBr kwr k7
          go_upto_region 17 with fail
          refine wp_text 2 [.eq (.pointer (some ⟨g, 0, none⟩)), .eq (.int .i64 lt)] rfl (by kernel_rfl) ?_ ?_
          · refine sv 1 rfl rfl rfl (fun a u hE hD hk => exec_move (.tmp 9) _ rfl (hE 9 (.pointer (some ⟨g, 0, none⟩)) (by kernel_rfl) (by kernel_rfl))) ?_
            refine sv 2 rfl rfl rfl (fun a u hE hD hk => exec_move (.tmp 13) _ rfl (hE 13 (.int .i64 lt) (by kernel_rfl) (by kernel_rfl))) ?_
            exact fsteps_nil
          intro gv w8 hV k8
          rw [show dstsOf _ 2 = [80, 81] by kernel_rfl]
          simp only [List.foldl_cons, List.foldl_nil, List.setIfInBounds_toArray, List.set_cons_succ, List.set_cons_zero, List.drop_succ_cons, List.drop_zero]
          rw [show gv 80 = .pointer (some ⟨g, 0, none⟩) from hV 0 80 (by kernel_rfl)]
          rw [show gv 81 = .int .i64 lt from hV 1 81 (by kernel_rfl)]
          clear hV
          refine l_call (o := ⟨some 82, _, _, _, _, _⟩) 9 #[.pointer (some ⟨g, 0, none⟩), .int .i64 lt] rfl (exec_call 9 _ [.tmp 80, .tmp 81] _ _ Try.func9 (by kernel_rfl) (by kernel_rfl) rfl (by kernel_rfl) _) ?_
          refine (btake_at (HB7.out.kept k8) hok.out (by omega) HC.out HT.out).mono ?_
          rintro e w9 ⟨rfl, hB9, k9⟩
          refine ⟨_, rfl, ?_⟩
          simp only [Act.put, List.setIfInBounds_toArray, List.set_cons_succ, List.set_cons_zero]
          refine l_val (o := ⟨some 83, _, _, _, _, _⟩) (.bool false) rfl (exec_not _ (.tmp 82) true rfl (by kernel_rfl)) ?_
          simp only [Act.put, List.setIfInBounds_toArray, List.set_cons_succ, List.set_cons_zero]
          refine wpList_nil ?_
          rw [← HS1.out] at hB9
          have HB9 := Lib.hid hB9
          have kw9 : Kept w w9 := (kw7.trans k8).trans' k9 (by omega)
          clear HB7 kw7 hB9 k8 k9 HC HT HS1 hok
          go_wp2
          exact ⟨⟨i + 1, by simp, by omega, HB9, kw9⟩, by simp [intOf]; omega⟩
        · have hie : (i : Int) = nb := by omega
          rw [drain_end hie (by omega)] at HBr
          go_upto_region 15 with fail
          refine wp_text 3 [.eq (.int .i64 (i : Int)), .eq (.int .i64 nb), .eq (.bool false)] rfl (by kernel_rfl) ?_ ?_
          · refine sv 1 rfl rfl rfl (fun a u hE hD hk => exec_move (.tmp 14) _ rfl (hE 14 (.int .i64 (i : Int)) (by kernel_rfl) (by kernel_rfl))) ?_
            refine sv 2 rfl rfl rfl (fun a u hE hD hk => exec_move (.tmp 7) _ rfl (hE 7 (.int .i64 nb) (by kernel_rfl) (by kernel_rfl))) ?_
            refine fsteps_cons 3 rfl (fun a u hE hD hk => f_as (show ((decide (((i : Int) : Int) < (nb : Int))) : Bool) = false from decide_eq_false (by omega)) (f_val (o := ⟨some 77, _, _, _, _, _⟩) (.bool (decide (((i : Int) : Int) < (nb : Int)))) rfl (wanted_none rfl _) (exec_ltn (p := (i : Int)) (q := nb) rfl (hD 0 75 (by kernel_rfl)) (hD 1 76 (by kernel_rfl))) rfl)) ?_
            exact fsteps_nil
          intro gv wxb hV kx
          rw [show dstsOf _ 3 = [75, 76, 77] by kernel_rfl]
          simp only [List.foldl_cons, List.foldl_nil, List.setIfInBounds_toArray, List.set_cons_succ, List.set_cons_zero, List.drop_succ_cons, List.drop_zero]
          rw [show gv 77 = .bool false from hV 2 77 (by kernel_rfl)]
          clear hV
          refine wpList_nil ?_
          have HBxb := Lib.hid (HBr.out.kept kx)
          have kwxb := kwr.trans kx
          clear HBr kwr kx hie hi hin
          rw [HE3.out] at HBxb
          go_upto_region 19 with fail
          refine wp_region_lit ?_
          refine l_val (o := ⟨some 84, _, _, _, _, _⟩) (.pointer (some ⟨g, 0, none⟩)) rfl (exec_move (.tmp 9) (.pointer (some ⟨g, 0, none⟩)) rfl (by kernel_rfl)) ?_
          simp only [Act.put, List.setIfInBounds_toArray, List.set_cons_succ, List.set_cons_zero]
          refine l_val (o := ⟨some 85, _, _, _, _, _⟩) (.int .i64 lt) rfl (exec_move (.tmp 13) (.int .i64 lt) rfl (by kernel_rfl)) ?_
          simp only [Act.put, List.setIfInBounds_toArray, List.set_cons_succ, List.set_cons_zero]
          refine l_call (o := ⟨some 86, _, _, _, _, _⟩) 9 #[.pointer (some ⟨g, 0, none⟩), .int .i64 lt] rfl (exec_call 9 _ [.tmp 84, .tmp 85] _ _ Try.func9 (by kernel_rfl) (by kernel_rfl) rfl (by kernel_rfl) _) ?_
          refine (btake_at HBxb.out O3.out (by omega) T4.out.1 T4.out.2).mono ?_
          rintro e wa ⟨rfl, ha, ka⟩
          refine ⟨_, rfl, ?_⟩
          simp only [Act.put, List.setIfInBounds_toArray, List.set_cons_succ, List.set_cons_zero]
          refine l_val (o := ⟨some 87, _, _, _, _, _⟩) (.bool true) rfl (exec_not _ (.tmp 86) false rfl (by kernel_rfl)) ?_
          simp only [Act.put, List.setIfInBounds_toArray, List.set_cons_succ, List.set_cons_zero]
          refine l_val (o := ⟨some 88, _, _, _, _, _⟩) (.bool true) rfl (exec_move (.tmp 87) (.bool true) rfl (by kernel_rfl)) ?_
          simp only [Act.put, List.setIfInBounds_toArray, List.set_cons_succ, List.set_cons_zero]
          refine l_call (o := ⟨some 89, _, _, _, _, _⟩) 3 #[] rfl (exec_call 3 _ [] _ _ Try.func3 (by kernel_rfl) (by kernel_rfl) rfl (by kernel_rfl) _) ?_
          refine (bucketRuns_any wa).mono ?_
          rintro e wb ⟨rfl, kb⟩
          refine ⟨_, rfl, ?_⟩
          simp only [Act.put, List.setIfInBounds_toArray, List.set_cons_succ, List.set_cons_zero]
          refine l_val (o := ⟨some 90, _, _, _, _, _⟩) (.bool true) rfl (exec_pick (.tmp 88) (.tmp 89) (.const (.bool false)) (.bool true) rfl (by kernel_rfl) (by kernel_rfl)) ?_
          simp only [Act.put, List.setIfInBounds_toArray, List.set_cons_succ, List.set_cons_zero]
          refine l_val (o := ⟨some 6, _, _, _, _, _⟩) (.bool true) rfl (exec_assign (.tmp 90) (.bool true) rfl (by kernel_rfl)) ?_
          simp only [Act.put, List.setIfInBounds_toArray, List.set_cons_succ, List.set_cons_zero]
          refine wpList_nil ?_
          have kz : Kept w wb := (kwxb.trans' ka (by omega)).trans kb
          go_wp2
          go_ret
          exact ⟨rfl, kz⟩
end Go.Proofs.Ytpkadepohgeloaa
