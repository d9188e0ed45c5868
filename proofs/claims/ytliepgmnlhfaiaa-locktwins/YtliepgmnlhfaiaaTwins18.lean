/-
  LockTwins: two locks don't touch each other; cleared ahead of its last try one never locks; it answers true. Condition: the moments as the arguments hold them.
-/
import Derived.Test.YtliepgmnlhfaiaaRuns18
import Derived.Test.YtliepgmnlhfaiaaElA
import Derived.Test.YtliepgmnlhfaiaaSlI
namespace Go.Proofs.Ytliepgmnlhfaiaa
open Go.RowKit
set_option linter.unusedVariables false
set_option maxRecDepth 100000

set_option maxRecDepth 100000 in
set_option maxHeartbeats 1600000 in
theorem lockTwins_any (tr tk : Int) (v : Value) (l : List Int) (w : World) (hv : IntsA w v l) : Calls Try.prog 7 #[.int .i64 tr, .int .i64 tk, v] w fun e w' => e = .returned (.bool true) ∧ Kept w w' := by
  obtain ⟨A, ln, c, rfl, hl, hR, hI, hn, hc, hA⟩ := hv
  unfold maxLen at hc
  have HRI := Lib.hid hR
  clear hR hI hA
  obtain ⟨n, hn⟩ : ∃ z, wi tr 2 6 = z := ⟨_, rfl⟩
  have bn := wi_in tr 2 6 (by omega)
  rw [hn] at bn
  have Wn := Lib.hid hn
  clear hn
  obtain ⟨t, ht⟩ : ∃ z, wi tk 1 40 = z := ⟨_, rfl⟩
  have bt := wi_in tk 1 40 (by omega)
  rw [ht] at bt
  have Wt := Lib.hid ht
  clear ht
  go_enter Try.func7, Try.ntmps7
  go_upto_region 1 with fail
  refine wp_text 6 [.eq (.int .i64 tr), .eq (.int .i64 n), .eq (.int .i64 tk), .eq (.int .i64 t), .eq (.int .i64 n), .eq (.int .i64 t)] rfl (by kernel_rfl) ?_ ?_
  · refine sv 1 rfl rfl rfl (fun a u hE hD hk => exec_move (.tmp 0) _ rfl (hE 0 (.int .i64 tr) (by kernel_rfl) (by kernel_rfl))) ?_
    refine fsteps_cons 2 rfl (fun a u hE hD hk => f_call (o := ⟨some 16, _, _, _, _, _⟩) 14 #[.int .i64 tr, .int .i64 2, .int .i64 6] rfl (wanted_none rfl _) (exec_call 14 _ [.tmp 15, .const (.int .i64 2), .const (.int .i64 6)] _ [.int .i64 tr, .int .i64 2, .int .i64 6] Try.func14 (by kernel_rfl) (by kernel_rfl) rfl (show [a.eval (.tmp 15), a.eval (.const (.int .i64 2)), a.eval (.const (.int .i64 6))] = [.int .i64 tr, .int .i64 2, .int .i64 6] from (by rw [show a.eval (.tmp 15) = .int .i64 tr from (hD 0 15 (by kernel_rfl))] <;> rfl)) u) (by rw [← Wn.out]; exact within_is tr 2 6 u (by omega) (by omega) (by omega))) ?_
    refine sv 3 rfl rfl rfl (fun a u hE hD hk => exec_move (.tmp 1) _ rfl (hE 1 (.int .i64 tk) (by kernel_rfl) (by kernel_rfl))) ?_
    refine fsteps_cons 4 rfl (fun a u hE hD hk => f_call (o := ⟨some 18, _, _, _, _, _⟩) 14 #[.int .i64 tk, .int .i64 1, .int .i64 40] rfl (wanted_none rfl _) (exec_call 14 _ [.tmp 17, .const (.int .i64 1), .const (.int .i64 40)] _ [.int .i64 tk, .int .i64 1, .int .i64 40] Try.func14 (by kernel_rfl) (by kernel_rfl) rfl (show [a.eval (.tmp 17), a.eval (.const (.int .i64 1)), a.eval (.const (.int .i64 40))] = [.int .i64 tk, .int .i64 1, .int .i64 40] from (by rw [show a.eval (.tmp 17) = .int .i64 tk from (hD 2 17 (by kernel_rfl))] <;> rfl)) u) (by rw [← Wt.out]; exact within_is tk 1 40 u (by omega) (by omega) (by omega))) ?_
    refine sv 5 rfl rfl rfl (fun a u hE hD hk => exec_assign (.tmp 16) _ rfl (hD 1 16 (by kernel_rfl))) ?_
    refine sv 6 rfl rfl rfl (fun a u hE hD hk => exec_assign (.tmp 18) _ rfl (hD 3 18 (by kernel_rfl))) ?_
    exact fsteps_nil
  intro gv w0 hV k0
  rw [show dstsOf _ 6 = [15, 16, 17, 18, 7, 8] by kernel_rfl]
  simp only [List.foldl_cons, List.foldl_nil, List.setIfInBounds_toArray, List.set_cons_succ, List.set_cons_zero, List.drop_succ_cons, List.drop_zero]
  rw [show gv 7 = .int .i64 n from hV 4 7 (by kernel_rfl)]
  rw [show gv 8 = .int .i64 t from hV 5 8 (by kernel_rfl)]
  clear hV
  refine wpList_nil ?_
  go_upto_region 2 with fail
  refine wp_region_lit ?_
  refine l_val (o := ⟨some 20, _, _, _, _, _⟩) (.int .i64 n) rfl (exec_move (.tmp 7) (.int .i64 n) rfl (by kernel_rfl)) ?_
  simp only [Act.put, List.setIfInBounds_toArray, List.set_cons_succ, List.set_cons_zero]
  refine l_val (o := ⟨some 21, _, _, _, _, _⟩) (.int .i64 t) rfl (exec_move (.tmp 8) (.int .i64 t) rfl (by kernel_rfl)) ?_
  simp only [Act.put, List.setIfInBounds_toArray, List.set_cons_succ, List.set_cons_zero]
  refine l_call (o := ⟨some 22, _, _, _, _, _⟩) 9 #[.int .i64 n, .int .i64 t] rfl (exec_call 9 _ [.tmp 20, .tmp 21] _ _ Try.func9 (by kernel_rfl) (by kernel_rfl) rfl (by kernel_rfl) _) ?_
  refine (lnew_yes n t (newB_iff.2 (by omega)) w0).mono ?_
  rintro e w1 ⟨g, rfl, hg, hB, kw1⟩
  refine ⟨_, rfl, ?_⟩
  simp only [Act.put, List.setIfInBounds_toArray, List.set_cons_succ, List.set_cons_zero]
  refine l_val (o := ⟨some 19, _, _, _, _, _⟩) (.tuple #[.pointer (some ⟨g, 0, none⟩), .int .i64 0]) rfl (exec_move (.tmp 22) (.tuple #[.pointer (some ⟨g, 0, none⟩), .int .i64 0]) rfl (by kernel_rfl)) ?_
  simp only [Act.put, List.setIfInBounds_toArray, List.set_cons_succ, List.set_cons_zero]
  refine l_val (o := ⟨some 23, _, _, _, _, _⟩) (.pointer (some ⟨g, 0, none⟩)) rfl (exec_extract (.tmp 19) [.pointer (some ⟨g, 0, none⟩), .int .i64 0] 0 (.pointer (some ⟨g, 0, none⟩)) rfl (by kernel_rfl) rfl) ?_
  simp only [Act.put, List.setIfInBounds_toArray, List.set_cons_succ, List.set_cons_zero]
  refine l_val (o := ⟨some 24, _, _, _, _, _⟩) (.int .i64 0) rfl (exec_extract (.tmp 19) [.pointer (some ⟨g, 0, none⟩), .int .i64 0] 1 (.int .i64 0) rfl (by kernel_rfl) rfl) ?_
  simp only [Act.put, List.setIfInBounds_toArray, List.set_cons_succ, List.set_cons_zero]
  refine l_val (o := ⟨some 9, _, _, _, _, _⟩) (.pointer (some ⟨g, 0, none⟩)) rfl (exec_assign (.tmp 23) (.pointer (some ⟨g, 0, none⟩)) rfl (by kernel_rfl)) ?_
  simp only [Act.put, List.setIfInBounds_toArray, List.set_cons_succ, List.set_cons_zero]
  refine l_val (o := ⟨some 10, _, _, _, _, _⟩) (.int .i64 0) rfl (exec_assign (.tmp 24) (.int .i64 0) rfl (by kernel_rfl)) ?_
  simp only [Act.put, List.setIfInBounds_toArray, List.set_cons_succ, List.set_cons_zero]
  refine wpList_nil ?_
  have HB := Lib.hid hB
  clear hB
  have zg := k0.size
  have hg1 : w.heap.size ≤ g := by omega
  have kz1 := k0.trans kw1
  clear hg zg k0
  go_upto_region 3 with fail
  refine wp_region_lit ?_
  refine l_val (o := ⟨some 26, _, _, _, _, _⟩) (.int .i64 n) rfl (exec_move (.tmp 7) (.int .i64 n) rfl (by kernel_rfl)) ?_
  simp only [Act.put, List.setIfInBounds_toArray, List.set_cons_succ, List.set_cons_zero]
  refine l_val (o := ⟨some 27, _, _, _, _, _⟩) (.int .i64 t) rfl (exec_move (.tmp 8) (.int .i64 t) rfl (by kernel_rfl)) ?_
  simp only [Act.put, List.setIfInBounds_toArray, List.set_cons_succ, List.set_cons_zero]
  refine l_call (o := ⟨some 28, _, _, _, _, _⟩) 9 #[.int .i64 n, .int .i64 t] rfl (exec_call 9 _ [.tmp 26, .tmp 27] _ _ Try.func9 (by kernel_rfl) (by kernel_rfl) rfl (by kernel_rfl) _) ?_
  refine (lnew_yes n t (newB_iff.2 (by omega)) w1).mono ?_
  rintro e w2 ⟨r, rfl, hr, hR, kw2⟩
  refine ⟨_, rfl, ?_⟩
  simp only [Act.put, List.setIfInBounds_toArray, List.set_cons_succ, List.set_cons_zero]
  refine l_val (o := ⟨some 25, _, _, _, _, _⟩) (.tuple #[.pointer (some ⟨r, 0, none⟩), .int .i64 0]) rfl (exec_move (.tmp 28) (.tuple #[.pointer (some ⟨r, 0, none⟩), .int .i64 0]) rfl (by kernel_rfl)) ?_
  simp only [Act.put, List.setIfInBounds_toArray, List.set_cons_succ, List.set_cons_zero]
  refine l_val (o := ⟨some 29, _, _, _, _, _⟩) (.pointer (some ⟨r, 0, none⟩)) rfl (exec_extract (.tmp 25) [.pointer (some ⟨r, 0, none⟩), .int .i64 0] 0 (.pointer (some ⟨r, 0, none⟩)) rfl (by kernel_rfl) rfl) ?_
  simp only [Act.put, List.setIfInBounds_toArray, List.set_cons_succ, List.set_cons_zero]
  refine l_val (o := ⟨some 30, _, _, _, _, _⟩) (.int .i64 0) rfl (exec_extract (.tmp 25) [.pointer (some ⟨r, 0, none⟩), .int .i64 0] 1 (.int .i64 0) rfl (by kernel_rfl) rfl) ?_
  simp only [Act.put, List.setIfInBounds_toArray, List.set_cons_succ, List.set_cons_zero]
  refine l_val (o := ⟨some 11, _, _, _, _, _⟩) (.pointer (some ⟨r, 0, none⟩)) rfl (exec_assign (.tmp 29) (.pointer (some ⟨r, 0, none⟩)) rfl (by kernel_rfl)) ?_
  simp only [Act.put, List.setIfInBounds_toArray, List.set_cons_succ, List.set_cons_zero]
  refine l_val (o := ⟨some 12, _, _, _, _, _⟩) (.int .i64 0) rfl (exec_assign (.tmp 30) (.int .i64 0) rfl (by kernel_rfl)) ?_
  simp only [Act.put, List.setIfInBounds_toArray, List.set_cons_succ, List.set_cons_zero]
  refine wpList_nil ?_
  have HR := Lib.hid hR
  have zg := HB.out.lt
  have zk := kz1.size
  have hgr : ¬ g = r := by omega
  have hr1 : w.heap.size ≤ r := by omega
  have HB2 := Lib.hid (HB.out.kept kw2)
  have kz2 := kz1.trans kw2
  clear HB hR hr zg zk kw1 kw2 kz1
  go_upto_region 4 with fail
  refine wp_text 14 [.eq (.pointer (some ⟨g, 0, none⟩)), .eq (.bool false), .eq (.bool false), .eq (.pointer (some ⟨r, 0, none⟩)), .eq (.bool false), .eq (.bool false), .eq (.bool false), .eq (.int .i64 0), .eq (.bool false), .eq (.bool false), .eq (.bool false), .eq (.int .i64 0), .eq (.bool false), .eq (.bool false)] rfl (by kernel_rfl) ?_ ?_
  · refine sv 1 rfl rfl rfl (fun a u hE hD hk => exec_move (.tmp 9) _ rfl (hE 9 (.pointer (some ⟨g, 0, none⟩)) (by kernel_rfl) (by kernel_rfl))) ?_
    refine sv 2 rfl rfl rfl (fun a u hE hD hk => exec_eqP (.tmp 31) _ _ ⟨g, 0, none⟩ (by kernel_rfl) rfl (hD 0 31 (by kernel_rfl))) ?_
    refine sv 3 rfl rfl rfl (fun a u hE hD hk => exec_move (.tmp 32) _ rfl (hD 1 32 (by kernel_rfl))) ?_
    refine fsteps_cons 4 rfl (fun a u hE hD hk => f_val (o := ⟨some 34, _, _, _, _, _⟩) (.pointer (some ⟨r, 0, none⟩)) rfl (wanted_at (b := false) false rfl rfl (hD 2 33 (by kernel_rfl))) (exec_move (.tmp 11) _ rfl (hE 11 (.pointer (some ⟨r, 0, none⟩)) (by kernel_rfl) (by kernel_rfl))) rfl) ?_
    refine fsteps_cons 5 rfl (fun a u hE hD hk => f_val (o := ⟨some 35, _, _, _, _, _⟩) (.bool false) rfl (wanted_at (b := false) false rfl rfl (hD 2 33 (by kernel_rfl))) (exec_eqP (.tmp 34) _ _ ⟨r, 0, none⟩ (by kernel_rfl) rfl (hD 3 34 (by kernel_rfl))) rfl) ?_
    refine sv 6 rfl rfl rfl (fun a u hE hD hk => exec_pickF (.tmp 33) (.const (.bool true)) (.tmp 35) (.bool false) rfl (hD 2 33 (by kernel_rfl)) (hD 4 35 (by kernel_rfl))) ?_
    refine sv 7 rfl rfl rfl (fun a u hE hD hk => exec_move (.tmp 36) _ rfl (hD 5 36 (by kernel_rfl))) ?_
    refine fsteps_cons 8 rfl (fun a u hE hD hk => f_val (o := ⟨some 38, _, _, _, _, _⟩) (.int .i64 0) rfl (wanted_at (b := false) false rfl rfl (hD 6 37 (by kernel_rfl))) (exec_move (.tmp 10) _ rfl (hE 10 (.int .i64 0) (by kernel_rfl) (by kernel_rfl))) rfl) ?_
    refine fsteps_cons 9 rfl (fun a u hE hD hk => f_as (show ((decide ((0 : Int) ≠ (0 : Int))) : Bool) = false from decide_eq_false (by omega)) (f_val (o := ⟨some 39, _, _, _, _, _⟩) (.bool (decide ((0 : Int) ≠ (0 : Int)))) rfl (wanted_at (b := false) false rfl rfl (hD 6 37 (by kernel_rfl))) (exec_nen (p := 0) (q := 0) rfl (hD 7 38 (by kernel_rfl)) rfl) rfl)) ?_
    refine sv 10 rfl rfl rfl (fun a u hE hD hk => exec_pickF (.tmp 37) (.const (.bool true)) (.tmp 39) (.bool false) rfl (hD 6 37 (by kernel_rfl)) (hD 8 39 (by kernel_rfl))) ?_
    refine sv 11 rfl rfl rfl (fun a u hE hD hk => exec_move (.tmp 40) _ rfl (hD 9 40 (by kernel_rfl))) ?_
    refine fsteps_cons 12 rfl (fun a u hE hD hk => f_val (o := ⟨some 42, _, _, _, _, _⟩) (.int .i64 0) rfl (wanted_at (b := false) false rfl rfl (hD 10 41 (by kernel_rfl))) (exec_move (.tmp 12) _ rfl (hE 12 (.int .i64 0) (by kernel_rfl) (by kernel_rfl))) rfl) ?_
    refine fsteps_cons 13 rfl (fun a u hE hD hk => f_as (show ((decide ((0 : Int) ≠ (0 : Int))) : Bool) = false from decide_eq_false (by omega)) (f_val (o := ⟨some 43, _, _, _, _, _⟩) (.bool (decide ((0 : Int) ≠ (0 : Int)))) rfl (wanted_at (b := false) false rfl rfl (hD 10 41 (by kernel_rfl))) (exec_nen (p := 0) (q := 0) rfl (hD 11 42 (by kernel_rfl)) rfl) rfl)) ?_
    refine sv 14 rfl rfl rfl (fun a u hE hD hk => exec_pickF (.tmp 41) (.const (.bool true)) (.tmp 43) (.bool false) rfl (hD 10 41 (by kernel_rfl)) (hD 12 43 (by kernel_rfl))) ?_
    exact fsteps_nil
  intro gv w3 hV k3
  rw [show dstsOf _ 14 = [31, 32, 33, 34, 35, 36, 37, 38, 39, 40, 41, 42, 43, 44] by kernel_rfl]
  simp only [List.foldl_cons, List.foldl_nil, List.setIfInBounds_toArray, List.set_cons_succ, List.set_cons_zero, List.drop_succ_cons, List.drop_zero]
  rw [show gv 44 = .bool false from hV 13 44 (by kernel_rfl)]
  clear hV
  refine wpList_nil ?_
  have HB3 := Lib.hid (HB2.out.kept k3)
  have HR3 := Lib.hid (HR.out.kept k3)
  have kz3 := kz2.trans k3
  have HO3 := Lib.hid (lok_ok (n := n) (t := t) (newB_iff.2 (by omega)))
  clear HB2 HR kz2 k3 Wn Wt
  generalize hL0 : Lok.none_ n t = B0 at HB3 HR3 HO3
  have q1 : B0.n = n := by rw [← hL0]; rfl
  have hB0 : B0.k = 0 := by rw [← hL0]; rfl
  clear hL0
  go_wp2_with fail
  go_loopw [14, 13] (fun s1 s2 wr => ∃ (k : Nat) (now : Int) (L : Lok), s1 = .int .i64 (k : Int) ∧ s2 = .int .i64 now ∧ k ≤ 30 ∧ k ≤ ln ∧ 0 ≤ now ∧ now ≤ 9 * k ∧ L.n = n ∧ 0 ≤ L.k ∧ L.k + 1 < n ∧ Hid (Blk wr g 46 L.cells) ∧ Hid (Blk wr r 46 B0.cells) ∧ Hid L.Ok ∧ Kept w wr) (fun s1 _ _ => 30 - (intOf s1).toNat)
  case atStart => exact ⟨0, 0, B0, rfl, rfl, by omega, by omega, by omega, by omega, q1, by omega, by omega, HB3, HR3, HO3, kz3⟩
  case round =>
    obtain ⟨k, now, L, rfl, rfl, hk60, hkn, hn0, hn1, en, e0, e1, HBr, HRr, HI, kwr⟩ := hrel
    clear HB3 HR3 HO3 kz3
    by_cases hlt : k < ln ∧ k < 30
    · obtain ⟨hin, hk6⟩ := hlt
      have hil : k < l.length := by rw [hl.out]; exact hin
      obtain ⟨x, hx⟩ : ∃ x, l[k]? = some x := ⟨_, List.getElem?_eq_getElem hil⟩
      obtain ⟨ad, rfl, hX⟩ := HRI.out k x hx
      have HX := Lib.hid (elat (kwr.cell hX))
      clear hx hX hil
      obtain ⟨m, hm⟩ : ∃ z, wi x 0 9 = z := ⟨_, rfl⟩
      have bm := wi_in x 0 9 (by omega)
      rw [hm] at bm
      have Wm := Lib.hid hm
      clear hm
      obtain ⟨nw, hnw⟩ : ∃ z, now + m = z := ⟨_, rfl⟩
      have hw0 : 0 ≤ nw := by omega
      have hw1 : nw ≤ 9 * (k + 1) := by omega
      have hs : L.shut nw = false := lshut_no (by omega) nw
      obtain ⟨f1, f2, f3, _⟩ := lone_facts (L := L) (now := nw) (by omega)
      rw [← lfail_open hs] at f1 f2 f3
      obtain ⟨L2, hL2⟩ : ∃ L2, L.failM nw = L2 := ⟨_, rfl⟩
      have HJ : Hid L2.Ok := by show Lok.Ok _; rw [← hL2]; exact HI.out.fail (by omega) (by omega)
      rw [hL2] at f1 f2 f3
      have HF := Lib.hid hL2
      have HN := Lib.hid hnw
      have HS0 : Hid (B0.shut nw = false) := lshut_no (by omega) nw
      clear hs hL2 hnw
      go_upto_region 8 with fail
      refine wp_text 8 [.eq (.int .i64 (k : Int)), .eq (.slice (some ad) ln c), .eq (.int .i64 (ln : Int)), .eq (.bool true), .eq (.bool true), .eq (.int .i64 (k : Int)), .eq (.bool true), .eq (.bool true)] rfl (by kernel_rfl) ?_ ?_
      · refine sv 1 rfl rfl rfl (fun a u hE hD hk => exec_move (.tmp 14) _ rfl (hE 14 (.int .i64 (k : Int)) (by kernel_rfl) (by kernel_rfl))) ?_
        refine sv 2 rfl rfl rfl (fun a u hE hD hk => exec_move (.tmp 2) _ rfl (hE 2 (.slice (some ad) ln c) (by kernel_rfl) (by kernel_rfl))) ?_
        refine sv 3 rfl rfl rfl (fun a u hE hD hk => exec_len (.tmp 46) _ _ slI.und (some ad) ln c rfl (hD 1 46 (by kernel_rfl))) ?_
        refine fsteps_cons 4 rfl (fun a u hE hD hk => f_as (show ((decide (((k : Int) : Int) < ((ln : Int) : Int))) : Bool) = true from decide_eq_true (by omega)) (f_val (o := ⟨some 48, _, _, _, _, _⟩) (.bool (decide (((k : Int) : Int) < ((ln : Int) : Int)))) rfl (wanted_none rfl _) (exec_ltn (p := (k : Int)) (q := (ln : Int)) rfl (hD 0 45 (by kernel_rfl)) (hD 2 47 (by kernel_rfl))) rfl)) ?_
        refine sv 5 rfl rfl rfl (fun a u hE hD hk => exec_move (.tmp 48) _ rfl (hD 3 48 (by kernel_rfl))) ?_
        refine fsteps_cons 6 rfl (fun a u hE hD hk => f_val (o := ⟨some 50, _, _, _, _, _⟩) (.int .i64 (k : Int)) rfl (wanted_at (b := true) true rfl rfl (hD 4 49 (by kernel_rfl))) (exec_move (.tmp 14) _ rfl (hE 14 (.int .i64 (k : Int)) (by kernel_rfl) (by kernel_rfl))) rfl) ?_
        refine fsteps_cons 7 rfl (fun a u hE hD hk => f_as (show ((decide (((k : Int) : Int) < (30 : Int))) : Bool) = true from decide_eq_true (by omega)) (f_val (o := ⟨some 51, _, _, _, _, _⟩) (.bool (decide (((k : Int) : Int) < (30 : Int)))) rfl (wanted_at (b := true) true rfl rfl (hD 4 49 (by kernel_rfl))) (exec_ltn (p := (k : Int)) (q := 30) rfl (hD 5 50 (by kernel_rfl)) rfl) rfl)) ?_
        refine sv 8 rfl rfl rfl (fun a u hE hD hk => exec_pick (.tmp 49) (.tmp 51) (.const (.bool false)) (.bool true) rfl (hD 4 49 (by kernel_rfl)) (hD 6 51 (by kernel_rfl))) ?_
        exact fsteps_nil
      intro gv w4 hV k4
      rw [show dstsOf _ 8 = [45, 46, 47, 48, 49, 50, 51, 52] by kernel_rfl]
      simp only [List.foldl_cons, List.foldl_nil, List.setIfInBounds_toArray, List.set_cons_succ, List.set_cons_zero, List.drop_succ_cons, List.drop_zero]
      rw [show gv 52 = .bool true from hV 7 52 (by kernel_rfl)]
      clear hV
      refine wpList_nil ?_
      have HX5 := Lib.hid (HX.out.go k4)
      clear HX
      go_upto_region 10 with fail
      refine wp_text 7 [.eq (.int .i64 now), .eq (.slice (some ad) ln c), .eq (.int .i64 (k : Int)), .eq (.pointer (some (ad.add (k * 1)))), .eq (.int .i64 x), .eq (.int .i64 m), .eq (.int .i64 nw)] rfl (by kernel_rfl) ?_ ?_
      · refine sv 1 rfl rfl rfl (fun a u hE hD hk => exec_move (.tmp 13) _ rfl (hE 13 (.int .i64 now) (by kernel_rfl) (by kernel_rfl))) ?_
        refine sv 2 rfl rfl rfl (fun a u hE hD hk => exec_move (.tmp 2) _ rfl (hE 2 (.slice (some ad) ln c) (by kernel_rfl) (by kernel_rfl))) ?_
        refine sv 3 rfl rfl rfl (fun a u hE hD hk => exec_move (.tmp 14) _ rfl (hE 14 (.int .i64 (k : Int)) (by kernel_rfl) (by kernel_rfl))) ?_
        refine sv 4 rfl rfl rfl (fun a u hE hD hk => exec_indexA 40 3 1 (.tmp 56) (.tmp 57) ad ln c k rfl Try.underlying40 infoI1 (hD 1 56 (by kernel_rfl)) (hD 2 57 (by kernel_rfl)) hin) ?_
        refine sv 5 rfl rfl rfl (fun a u hE hD hk => exec_loadi 3 Try.underlying3 (.tmp 58) (ad.add (k * 1)) (.int .i64 x) rfl (hD 3 58 (by kernel_rfl)) (HX5.out.at_ hk)) ?_
        refine fsteps_cons 6 rfl (fun a u hE hD hk => f_call (o := ⟨some 60, _, _, _, _, _⟩) 14 #[.int .i64 x, .int .i64 0, .int .i64 9] rfl (wanted_none rfl _) (exec_call 14 _ [.tmp 59, .const (.int .i64 0), .const (.int .i64 9)] _ [.int .i64 x, .int .i64 0, .int .i64 9] Try.func14 (by kernel_rfl) (by kernel_rfl) rfl (show [a.eval (.tmp 59), a.eval (.const (.int .i64 0)), a.eval (.const (.int .i64 9))] = [.int .i64 x, .int .i64 0, .int .i64 9] from (by rw [show a.eval (.tmp 59) = .int .i64 x from (hD 4 59 (by kernel_rfl))] <;> rfl)) u) (by rw [← Wm.out]; exact within_is x 0 9 u (by omega) (by omega) (by omega))) ?_
        refine sv 7 rfl rfl rfl (fun a u hE hD hk => exec_addn nw rfl (hD 0 55 (by kernel_rfl)) (hD 5 60 (by kernel_rfl)) HN.out (by omega) (by omega)) ?_
        exact fsteps_nil
      intro gv w5 hV k5
      rw [show dstsOf _ 7 = [55, 56, 57, 58, 59, 60, 61] by kernel_rfl]
      simp only [List.foldl_cons, List.foldl_nil, List.setIfInBounds_toArray, List.set_cons_succ, List.set_cons_zero, List.drop_succ_cons, List.drop_zero]
      rw [show gv 61 = .int .i64 nw from hV 6 61 (by kernel_rfl)]
      clear hV
      refine l_val (o := ⟨some 13, _, _, _, _, _⟩) (.int .i64 nw) rfl (exec_assign (.tmp 61) (.int .i64 nw) rfl (by kernel_rfl)) ?_
      simp only [Act.put, List.setIfInBounds_toArray, List.set_cons_succ, List.set_cons_zero]
      refine wpList_nil ?_
      have k45 := k4.trans k5
      have HB5 := Lib.hid (HBr.out.kept k45)
      have HR5 := Lib.hid (HRr.out.kept k45)
      have kw5 := kwr.trans k45
      clear HBr HRr kwr k4 k5 k45 HX5 Wm HN
      go_upto_region 11 with fail
      refine wp_region_lit ?_
      refine l_val (o := ⟨some 62, _, _, _, _, _⟩) (.pointer (some ⟨g, 0, none⟩)) rfl (exec_move (.tmp 9) (.pointer (some ⟨g, 0, none⟩)) rfl (by kernel_rfl)) ?_
      simp only [Act.put, List.setIfInBounds_toArray, List.set_cons_succ, List.set_cons_zero]
      refine l_val (o := ⟨some 63, _, _, _, _, _⟩) (.int .i64 nw) rfl (exec_move (.tmp 13) (.int .i64 nw) rfl (by kernel_rfl)) ?_
      simp only [Act.put, List.setIfInBounds_toArray, List.set_cons_succ, List.set_cons_zero]
      refine l_call (o := ⟨some 64, _, _, _, _, _⟩) 10 #[.pointer (some ⟨g, 0, none⟩), .int .i64 nw] rfl (exec_call 10 _ [.tmp 62, .tmp 63] _ _ Try.func10 (by kernel_rfl) (by kernel_rfl) rfl (by kernel_rfl) _) ?_
      refine (lfailed_at HB5.out HI.out (by omega) (by omega) HF.out).mono ?_
      rintro e w6 ⟨rfl, hBw6, fw6⟩
      refine ⟨_, rfl, ?_⟩
      simp only [Act.put, List.setIfInBounds_toArray, List.set_cons_succ, List.set_cons_zero]
      refine wpList_nil ?_
      have HBw6 := Lib.hid hBw6
      clear hBw6
      have HR6 := Lib.hid (HR5.out.keep fw6 (fun h => hgr h.symm))
      have kw6 : Kept w w6 := kw5.trans' fw6 (by omega)
      clear HB5 HR5 kw5 fw6 HF
      by_cases hq : L2.k = n - 1
      · obtain ⟨A2, hA2⟩ : ∃ A2, L2.clrM = A2 := ⟨_, rfl⟩
        have HI2 : Hid A2.Ok := by show Lok.Ok _; rw [← hA2]; exact HJ.out.clr
        have g1 : A2.k = 0 := by rw [← hA2]; rfl
        have g2 : A2.n = n := by rw [← hA2]; exact f1.trans en
        have HS2 : Hid (A2.shut nw = false) := lshut_no (by omega) nw
        have HF := Lib.hid hA2
        clear hA2
        go_upto_region 12 with fail
        refine wp_text 5 [.eq (.pointer (some ⟨g, 0, none⟩)), .eq (.int .i64 L2.k), .eq (.int .i64 n), .eq (.int .i64 ((n : Int) - (1 : Int))), .eq (.bool true)] rfl (by kernel_rfl) ?_ ?_
        · refine sv 1 rfl rfl rfl (fun a u hE hD hk => exec_move (.tmp 9) _ rfl (hE 9 (.pointer (some ⟨g, 0, none⟩)) (by kernel_rfl) (by kernel_rfl))) ?_
          refine fsteps_cons 2 rfl (fun a u hE hD hk => f_call (o := ⟨some 66, _, _, _, _, _⟩) 12 #[.pointer (some ⟨g, 0, none⟩)] rfl (wanted_none rfl _) (exec_call 12 _ [.tmp 65] _ [.pointer (some ⟨g, 0, none⟩)] Try.func12 (by kernel_rfl) (by kernel_rfl) rfl (show [a.eval (.tmp 65)] = [.pointer (some ⟨g, 0, none⟩)] from (by rw [show a.eval (.tmp 65) = .pointer (some ⟨g, 0, none⟩) from (hD 0 65 (by kernel_rfl))] <;> rfl)) u) (lwrong_any g L2 u (HBw6.out.kept hk))) ?_
          refine sv 3 rfl rfl rfl (fun a u hE hD hk => exec_move (.tmp 7) _ rfl (hE 7 (.int .i64 n) (by kernel_rfl) (by kernel_rfl))) ?_
          refine sv 4 rfl rfl rfl (fun a u hE hD hk => exec_subn (p := (n)) (q := (1)) ((n : Int) - (1 : Int)) rfl (hD 2 67 (by kernel_rfl)) rfl rfl (by omega) (by omega)) ?_
          refine fsteps_cons 5 rfl (fun a u hE hD hk => f_as (show ((decide ((L2.k : Int) = (((n : Int) - (1 : Int)) : Int))) : Bool) = true from decide_eq_true hq) (f_val (o := ⟨some 69, _, _, _, _, _⟩) (.bool (decide ((L2.k : Int) = (((n : Int) - (1 : Int)) : Int)))) rfl (wanted_none rfl _) (exec_eqn (p := L2.k) (q := ((n : Int) - (1 : Int))) rfl (hD 1 66 (by kernel_rfl)) (hD 3 68 (by kernel_rfl))) rfl)) ?_
          exact fsteps_nil
        intro gv w7 hV k7
        rw [show dstsOf _ 5 = [65, 66, 67, 68, 69] by kernel_rfl]
        simp only [List.foldl_cons, List.foldl_nil, List.setIfInBounds_toArray, List.set_cons_succ, List.set_cons_zero, List.drop_succ_cons, List.drop_zero]
        rw [show gv 69 = .bool true from hV 4 69 (by kernel_rfl)]
        clear hV
        refine wpList_nil ?_
        have HB7 := Lib.hid (HBw6.out.kept k7)
        have HR7 := Lib.hid (HR6.out.kept k7)
        have kw7 := kw6.trans k7
        clear HBw6 HR6 kw6 k7
        go_upto_region 13 with fail
        refine wp_region_lit ?_
        refine l_val (o := ⟨some 70, _, _, _, _, _⟩) (.pointer (some ⟨g, 0, none⟩)) rfl (exec_move (.tmp 9) (.pointer (some ⟨g, 0, none⟩)) rfl (by kernel_rfl)) ?_
        simp only [Act.put, List.setIfInBounds_toArray, List.set_cons_succ, List.set_cons_zero]
        refine l_call (o := ⟨some 71, _, _, _, _, _⟩) 16 #[.pointer (some ⟨g, 0, none⟩)] rfl (exec_call 16 _ [.tmp 70] _ _ Try.func16 (by kernel_rfl) (by kernel_rfl) rfl (by kernel_rfl) _) ?_
        refine (lclear_any g L2 _ HB7.out).mono ?_
        rintro e w8 ⟨rfl, hB8, k8⟩
        refine ⟨_, rfl, ?_⟩
        simp only [Act.put, List.setIfInBounds_toArray, List.set_cons_succ, List.set_cons_zero]
        refine wpList_nil ?_
        rw [HF.out] at hB8
        have HB8 := Lib.hid hB8
        have HR8 := Lib.hid (HR7.out.keep k8 (fun h => hgr h.symm))
        have kw8 : Kept w w8 := kw7.trans' k8 (by omega)
        clear hB8 k8 kw7 HB7 HR7
        go_upto_region 14 with fail
        refine wp_text 19 [.eq (.pointer (some ⟨g, 0, none⟩)), .eq (.int .i64 nw), .eq (.bool false), .eq (.bool false), .eq (.pointer (some ⟨r, 0, none⟩)), .eq (.int .i64 nw), .eq (.bool false), .eq (.bool false), .eq (.bool false), .eq (.pointer (some ⟨r, 0, none⟩)), .eq (.int .i64 0), .eq (.bool false), .eq (.bool false), .eq (.bool false), .eq (.pointer (some ⟨g, 0, none⟩)), .eq (.int .i64 A2.k), .eq (.int .i64 n), .eq (.bool false), .eq (.bool false)] rfl (by kernel_rfl) ?_ ?_
        · refine sv 1 rfl rfl rfl (fun a u hE hD hk => exec_move (.tmp 9) _ rfl (hE 9 (.pointer (some ⟨g, 0, none⟩)) (by kernel_rfl) (by kernel_rfl))) ?_
          refine sv 2 rfl rfl rfl (fun a u hE hD hk => exec_move (.tmp 13) _ rfl (hE 13 (.int .i64 nw) (by kernel_rfl) (by kernel_rfl))) ?_
          refine fsteps_cons 3 rfl (fun a u hE hD hk => f_call (o := ⟨some 74, _, _, _, _, _⟩) 11 #[.pointer (some ⟨g, 0, none⟩), .int .i64 nw] rfl (wanted_none rfl _) (exec_call 11 _ [.tmp 72, .tmp 73] _ [.pointer (some ⟨g, 0, none⟩), .int .i64 nw] Try.func11 (by kernel_rfl) (by kernel_rfl) rfl (show [a.eval (.tmp 72), a.eval (.tmp 73)] = [.pointer (some ⟨g, 0, none⟩), .int .i64 nw] from (by rw [show a.eval (.tmp 72) = .pointer (some ⟨g, 0, none⟩) from (hD 0 72 (by kernel_rfl)), show a.eval (.tmp 73) = .int .i64 nw from (hD 1 73 (by kernel_rfl))] <;> rfl)) u) (llocked_at (HB8.out.kept hk) HS2.out)) ?_
          refine sv 4 rfl rfl rfl (fun a u hE hD hk => exec_move (.tmp 74) _ rfl (hD 2 74 (by kernel_rfl))) ?_
          refine fsteps_cons 5 rfl (fun a u hE hD hk => f_val (o := ⟨some 76, _, _, _, _, _⟩) (.pointer (some ⟨r, 0, none⟩)) rfl (wanted_at (b := false) false rfl rfl (hD 3 75 (by kernel_rfl))) (exec_move (.tmp 11) _ rfl (hE 11 (.pointer (some ⟨r, 0, none⟩)) (by kernel_rfl) (by kernel_rfl))) rfl) ?_
          refine fsteps_cons 6 rfl (fun a u hE hD hk => f_val (o := ⟨some 77, _, _, _, _, _⟩) (.int .i64 nw) rfl (wanted_at (b := false) false rfl rfl (hD 3 75 (by kernel_rfl))) (exec_move (.tmp 13) _ rfl (hE 13 (.int .i64 nw) (by kernel_rfl) (by kernel_rfl))) rfl) ?_
          refine fsteps_cons 7 rfl (fun a u hE hD hk => f_call (o := ⟨some 78, _, _, _, _, _⟩) 11 #[.pointer (some ⟨r, 0, none⟩), .int .i64 nw] rfl (wanted_at (b := false) false rfl rfl (hD 3 75 (by kernel_rfl))) (exec_call 11 _ [.tmp 76, .tmp 77] _ [.pointer (some ⟨r, 0, none⟩), .int .i64 nw] Try.func11 (by kernel_rfl) (by kernel_rfl) rfl (show [a.eval (.tmp 76), a.eval (.tmp 77)] = [.pointer (some ⟨r, 0, none⟩), .int .i64 nw] from (by rw [show a.eval (.tmp 76) = .pointer (some ⟨r, 0, none⟩) from (hD 4 76 (by kernel_rfl)), show a.eval (.tmp 77) = .int .i64 nw from (hD 5 77 (by kernel_rfl))] <;> rfl)) u) (llocked_at (HR8.out.kept hk) HS0.out)) ?_
          refine sv 8 rfl rfl rfl (fun a u hE hD hk => exec_pickF (.tmp 75) (.const (.bool true)) (.tmp 78) (.bool false) rfl (hD 3 75 (by kernel_rfl)) (hD 6 78 (by kernel_rfl))) ?_
          refine sv 9 rfl rfl rfl (fun a u hE hD hk => exec_move (.tmp 79) _ rfl (hD 7 79 (by kernel_rfl))) ?_
          refine fsteps_cons 10 rfl (fun a u hE hD hk => f_val (o := ⟨some 81, _, _, _, _, _⟩) (.pointer (some ⟨r, 0, none⟩)) rfl (wanted_at (b := false) false rfl rfl (hD 8 80 (by kernel_rfl))) (exec_move (.tmp 11) _ rfl (hE 11 (.pointer (some ⟨r, 0, none⟩)) (by kernel_rfl) (by kernel_rfl))) rfl) ?_
          refine fsteps_cons 11 rfl (fun a u hE hD hk => f_call (o := ⟨some 82, _, _, _, _, _⟩) 12 #[.pointer (some ⟨r, 0, none⟩)] rfl (wanted_at (b := false) false rfl rfl (hD 8 80 (by kernel_rfl))) (exec_call 12 _ [.tmp 81] _ [.pointer (some ⟨r, 0, none⟩)] Try.func12 (by kernel_rfl) (by kernel_rfl) rfl (show [a.eval (.tmp 81)] = [.pointer (some ⟨r, 0, none⟩)] from (by rw [show a.eval (.tmp 81) = .pointer (some ⟨r, 0, none⟩) from (hD 9 81 (by kernel_rfl))] <;> rfl)) u) (lwrong_at (HR8.out.kept hk) hB0)) ?_
          refine fsteps_cons 12 rfl (fun a u hE hD hk => f_as (show ((decide ((0 : Int) ≠ (0 : Int))) : Bool) = false from decide_eq_false (by omega)) (f_val (o := ⟨some 83, _, _, _, _, _⟩) (.bool (decide ((0 : Int) ≠ (0 : Int)))) rfl (wanted_at (b := false) false rfl rfl (hD 8 80 (by kernel_rfl))) (exec_nen (p := 0) (q := 0) rfl (hD 10 82 (by kernel_rfl)) rfl) rfl)) ?_
          refine sv 13 rfl rfl rfl (fun a u hE hD hk => exec_pickF (.tmp 80) (.const (.bool true)) (.tmp 83) (.bool false) rfl (hD 8 80 (by kernel_rfl)) (hD 11 83 (by kernel_rfl))) ?_
          refine sv 14 rfl rfl rfl (fun a u hE hD hk => exec_move (.tmp 84) _ rfl (hD 12 84 (by kernel_rfl))) ?_
          refine fsteps_cons 15 rfl (fun a u hE hD hk => f_val (o := ⟨some 86, _, _, _, _, _⟩) (.pointer (some ⟨g, 0, none⟩)) rfl (wanted_at (b := false) false rfl rfl (hD 13 85 (by kernel_rfl))) (exec_move (.tmp 9) _ rfl (hE 9 (.pointer (some ⟨g, 0, none⟩)) (by kernel_rfl) (by kernel_rfl))) rfl) ?_
          refine fsteps_cons 16 rfl (fun a u hE hD hk => f_call (o := ⟨some 87, _, _, _, _, _⟩) 12 #[.pointer (some ⟨g, 0, none⟩)] rfl (wanted_at (b := false) false rfl rfl (hD 13 85 (by kernel_rfl))) (exec_call 12 _ [.tmp 86] _ [.pointer (some ⟨g, 0, none⟩)] Try.func12 (by kernel_rfl) (by kernel_rfl) rfl (show [a.eval (.tmp 86)] = [.pointer (some ⟨g, 0, none⟩)] from (by rw [show a.eval (.tmp 86) = .pointer (some ⟨g, 0, none⟩) from (hD 14 86 (by kernel_rfl))] <;> rfl)) u) (lwrong_any g A2 u (HB8.out.kept hk))) ?_
          refine fsteps_cons 17 rfl (fun a u hE hD hk => f_val (o := ⟨some 88, _, _, _, _, _⟩) (.int .i64 n) rfl (wanted_at (b := false) false rfl rfl (hD 13 85 (by kernel_rfl))) (exec_move (.tmp 7) _ rfl (hE 7 (.int .i64 n) (by kernel_rfl) (by kernel_rfl))) rfl) ?_
          refine fsteps_cons 18 rfl (fun a u hE hD hk => f_as (show ((decide ((n : Int) ≤ (A2.k : Int))) : Bool) = false from decide_eq_false (by omega)) (f_val (o := ⟨some 89, _, _, _, _, _⟩) (.bool (decide ((n : Int) ≤ (A2.k : Int)))) rfl (wanted_at (b := false) false rfl rfl (hD 13 85 (by kernel_rfl))) (exec_gen (p := A2.k) (q := n) rfl (hD 15 87 (by kernel_rfl)) (hD 16 88 (by kernel_rfl))) rfl)) ?_
          refine sv 19 rfl rfl rfl (fun a u hE hD hk => exec_pickF (.tmp 85) (.const (.bool true)) (.tmp 89) (.bool false) rfl (hD 13 85 (by kernel_rfl)) (hD 17 89 (by kernel_rfl))) ?_
          exact fsteps_nil
        intro gv wz hV kz
        rw [show dstsOf _ 19 = [72, 73, 74, 75, 76, 77, 78, 79, 80, 81, 82, 83, 84, 85, 86, 87, 88, 89, 90] by kernel_rfl]
        simp only [List.foldl_cons, List.foldl_nil, List.setIfInBounds_toArray, List.set_cons_succ, List.set_cons_zero, List.drop_succ_cons, List.drop_zero]
        rw [show gv 90 = .bool false from hV 18 90 (by kernel_rfl)]
        clear hV
        refine wpList_nil ?_
        have HBz := Lib.hid (HB8.out.kept kz)
        have HRz := Lib.hid (HR8.out.kept kz)
        have kwz := kw8.trans kz
        clear HB8 HR8 kw8 kz
        go_wp2
        exact ⟨⟨k + 1, nw, A2, by simp, rfl, by omega, by omega, by omega, by omega, by omega, by omega, by omega, HBz, HRz, HI2, kwz⟩, by simp [intOf]; omega⟩
      · obtain ⟨A2, hA2⟩ : ∃ A2, L2 = A2 := ⟨_, rfl⟩
        subst hA2
        have HI2 := HJ
        have HS2 : Hid (L2.shut nw = false) := lshut_no (by omega) nw
        go_upto_region 12 with fail
        refine wp_text 5 [.eq (.pointer (some ⟨g, 0, none⟩)), .eq (.int .i64 L2.k), .eq (.int .i64 n), .eq (.int .i64 ((n : Int) - (1 : Int))), .eq (.bool false)] rfl (by kernel_rfl) ?_ ?_
        · refine sv 1 rfl rfl rfl (fun a u hE hD hk => exec_move (.tmp 9) _ rfl (hE 9 (.pointer (some ⟨g, 0, none⟩)) (by kernel_rfl) (by kernel_rfl))) ?_
          refine fsteps_cons 2 rfl (fun a u hE hD hk => f_call (o := ⟨some 66, _, _, _, _, _⟩) 12 #[.pointer (some ⟨g, 0, none⟩)] rfl (wanted_none rfl _) (exec_call 12 _ [.tmp 65] _ [.pointer (some ⟨g, 0, none⟩)] Try.func12 (by kernel_rfl) (by kernel_rfl) rfl (show [a.eval (.tmp 65)] = [.pointer (some ⟨g, 0, none⟩)] from (by rw [show a.eval (.tmp 65) = .pointer (some ⟨g, 0, none⟩) from (hD 0 65 (by kernel_rfl))] <;> rfl)) u) (lwrong_any g L2 u (HBw6.out.kept hk))) ?_
          refine sv 3 rfl rfl rfl (fun a u hE hD hk => exec_move (.tmp 7) _ rfl (hE 7 (.int .i64 n) (by kernel_rfl) (by kernel_rfl))) ?_
          refine sv 4 rfl rfl rfl (fun a u hE hD hk => exec_subn (p := (n)) (q := (1)) ((n : Int) - (1 : Int)) rfl (hD 2 67 (by kernel_rfl)) rfl rfl (by omega) (by omega)) ?_
          refine fsteps_cons 5 rfl (fun a u hE hD hk => f_as (show ((decide ((L2.k : Int) = (((n : Int) - (1 : Int)) : Int))) : Bool) = false from decide_eq_false hq) (f_val (o := ⟨some 69, _, _, _, _, _⟩) (.bool (decide ((L2.k : Int) = (((n : Int) - (1 : Int)) : Int)))) rfl (wanted_none rfl _) (exec_eqn (p := L2.k) (q := ((n : Int) - (1 : Int))) rfl (hD 1 66 (by kernel_rfl)) (hD 3 68 (by kernel_rfl))) rfl)) ?_
          exact fsteps_nil
        intro gv w7 hV k7
        rw [show dstsOf _ 5 = [65, 66, 67, 68, 69] by kernel_rfl]
        simp only [List.foldl_cons, List.foldl_nil, List.setIfInBounds_toArray, List.set_cons_succ, List.set_cons_zero, List.drop_succ_cons, List.drop_zero]
        rw [show gv 69 = .bool false from hV 4 69 (by kernel_rfl)]
        clear hV
        refine wpList_nil ?_
        have HB7 := Lib.hid (HBw6.out.kept k7)
        have HR7 := Lib.hid (HR6.out.kept k7)
        have kw7 := kw6.trans k7
        clear HBw6 HR6 kw6 k7
        go_upto_region 14 with fail
        refine wp_text 19 [.eq (.pointer (some ⟨g, 0, none⟩)), .eq (.int .i64 nw), .eq (.bool false), .eq (.bool false), .eq (.pointer (some ⟨r, 0, none⟩)), .eq (.int .i64 nw), .eq (.bool false), .eq (.bool false), .eq (.bool false), .eq (.pointer (some ⟨r, 0, none⟩)), .eq (.int .i64 0), .eq (.bool false), .eq (.bool false), .eq (.bool false), .eq (.pointer (some ⟨g, 0, none⟩)), .eq (.int .i64 L2.k), .eq (.int .i64 n), .eq (.bool false), .eq (.bool false)] rfl (by kernel_rfl) ?_ ?_
        · refine sv 1 rfl rfl rfl (fun a u hE hD hk => exec_move (.tmp 9) _ rfl (hE 9 (.pointer (some ⟨g, 0, none⟩)) (by kernel_rfl) (by kernel_rfl))) ?_
          refine sv 2 rfl rfl rfl (fun a u hE hD hk => exec_move (.tmp 13) _ rfl (hE 13 (.int .i64 nw) (by kernel_rfl) (by kernel_rfl))) ?_
          refine fsteps_cons 3 rfl (fun a u hE hD hk => f_call (o := ⟨some 74, _, _, _, _, _⟩) 11 #[.pointer (some ⟨g, 0, none⟩), .int .i64 nw] rfl (wanted_none rfl _) (exec_call 11 _ [.tmp 72, .tmp 73] _ [.pointer (some ⟨g, 0, none⟩), .int .i64 nw] Try.func11 (by kernel_rfl) (by kernel_rfl) rfl (show [a.eval (.tmp 72), a.eval (.tmp 73)] = [.pointer (some ⟨g, 0, none⟩), .int .i64 nw] from (by rw [show a.eval (.tmp 72) = .pointer (some ⟨g, 0, none⟩) from (hD 0 72 (by kernel_rfl)), show a.eval (.tmp 73) = .int .i64 nw from (hD 1 73 (by kernel_rfl))] <;> rfl)) u) (llocked_at (HB7.out.kept hk) HS2.out)) ?_
          refine sv 4 rfl rfl rfl (fun a u hE hD hk => exec_move (.tmp 74) _ rfl (hD 2 74 (by kernel_rfl))) ?_
          refine fsteps_cons 5 rfl (fun a u hE hD hk => f_val (o := ⟨some 76, _, _, _, _, _⟩) (.pointer (some ⟨r, 0, none⟩)) rfl (wanted_at (b := false) false rfl rfl (hD 3 75 (by kernel_rfl))) (exec_move (.tmp 11) _ rfl (hE 11 (.pointer (some ⟨r, 0, none⟩)) (by kernel_rfl) (by kernel_rfl))) rfl) ?_
          refine fsteps_cons 6 rfl (fun a u hE hD hk => f_val (o := ⟨some 77, _, _, _, _, _⟩) (.int .i64 nw) rfl (wanted_at (b := false) false rfl rfl (hD 3 75 (by kernel_rfl))) (exec_move (.tmp 13) _ rfl (hE 13 (.int .i64 nw) (by kernel_rfl) (by kernel_rfl))) rfl) ?_
          refine fsteps_cons 7 rfl (fun a u hE hD hk => f_call (o := ⟨some 78, _, _, _, _, _⟩) 11 #[.pointer (some ⟨r, 0, none⟩), .int .i64 nw] rfl (wanted_at (b := false) false rfl rfl (hD 3 75 (by kernel_rfl))) (exec_call 11 _ [.tmp 76, .tmp 77] _ [.pointer (some ⟨r, 0, none⟩), .int .i64 nw] Try.func11 (by kernel_rfl) (by kernel_rfl) rfl (show [a.eval (.tmp 76), a.eval (.tmp 77)] = [.pointer (some ⟨r, 0, none⟩), .int .i64 nw] from (by rw [show a.eval (.tmp 76) = .pointer (some ⟨r, 0, none⟩) from (hD 4 76 (by kernel_rfl)), show a.eval (.tmp 77) = .int .i64 nw from (hD 5 77 (by kernel_rfl))] <;> rfl)) u) (llocked_at (HR7.out.kept hk) HS0.out)) ?_
          refine sv 8 rfl rfl rfl (fun a u hE hD hk => exec_pickF (.tmp 75) (.const (.bool true)) (.tmp 78) (.bool false) rfl (hD 3 75 (by kernel_rfl)) (hD 6 78 (by kernel_rfl))) ?_
          refine sv 9 rfl rfl rfl (fun a u hE hD hk => exec_move (.tmp 79) _ rfl (hD 7 79 (by kernel_rfl))) ?_
          refine fsteps_cons 10 rfl (fun a u hE hD hk => f_val (o := ⟨some 81, _, _, _, _, _⟩) (.pointer (some ⟨r, 0, none⟩)) rfl (wanted_at (b := false) false rfl rfl (hD 8 80 (by kernel_rfl))) (exec_move (.tmp 11) _ rfl (hE 11 (.pointer (some ⟨r, 0, none⟩)) (by kernel_rfl) (by kernel_rfl))) rfl) ?_
          refine fsteps_cons 11 rfl (fun a u hE hD hk => f_call (o := ⟨some 82, _, _, _, _, _⟩) 12 #[.pointer (some ⟨r, 0, none⟩)] rfl (wanted_at (b := false) false rfl rfl (hD 8 80 (by kernel_rfl))) (exec_call 12 _ [.tmp 81] _ [.pointer (some ⟨r, 0, none⟩)] Try.func12 (by kernel_rfl) (by kernel_rfl) rfl (show [a.eval (.tmp 81)] = [.pointer (some ⟨r, 0, none⟩)] from (by rw [show a.eval (.tmp 81) = .pointer (some ⟨r, 0, none⟩) from (hD 9 81 (by kernel_rfl))] <;> rfl)) u) (lwrong_at (HR7.out.kept hk) hB0)) ?_
          refine fsteps_cons 12 rfl (fun a u hE hD hk => f_as (show ((decide ((0 : Int) ≠ (0 : Int))) : Bool) = false from decide_eq_false (by omega)) (f_val (o := ⟨some 83, _, _, _, _, _⟩) (.bool (decide ((0 : Int) ≠ (0 : Int)))) rfl (wanted_at (b := false) false rfl rfl (hD 8 80 (by kernel_rfl))) (exec_nen (p := 0) (q := 0) rfl (hD 10 82 (by kernel_rfl)) rfl) rfl)) ?_
          refine sv 13 rfl rfl rfl (fun a u hE hD hk => exec_pickF (.tmp 80) (.const (.bool true)) (.tmp 83) (.bool false) rfl (hD 8 80 (by kernel_rfl)) (hD 11 83 (by kernel_rfl))) ?_
          refine sv 14 rfl rfl rfl (fun a u hE hD hk => exec_move (.tmp 84) _ rfl (hD 12 84 (by kernel_rfl))) ?_
          refine fsteps_cons 15 rfl (fun a u hE hD hk => f_val (o := ⟨some 86, _, _, _, _, _⟩) (.pointer (some ⟨g, 0, none⟩)) rfl (wanted_at (b := false) false rfl rfl (hD 13 85 (by kernel_rfl))) (exec_move (.tmp 9) _ rfl (hE 9 (.pointer (some ⟨g, 0, none⟩)) (by kernel_rfl) (by kernel_rfl))) rfl) ?_
          refine fsteps_cons 16 rfl (fun a u hE hD hk => f_call (o := ⟨some 87, _, _, _, _, _⟩) 12 #[.pointer (some ⟨g, 0, none⟩)] rfl (wanted_at (b := false) false rfl rfl (hD 13 85 (by kernel_rfl))) (exec_call 12 _ [.tmp 86] _ [.pointer (some ⟨g, 0, none⟩)] Try.func12 (by kernel_rfl) (by kernel_rfl) rfl (show [a.eval (.tmp 86)] = [.pointer (some ⟨g, 0, none⟩)] from (by rw [show a.eval (.tmp 86) = .pointer (some ⟨g, 0, none⟩) from (hD 14 86 (by kernel_rfl))] <;> rfl)) u) (lwrong_any g L2 u (HB7.out.kept hk))) ?_
          refine fsteps_cons 17 rfl (fun a u hE hD hk => f_val (o := ⟨some 88, _, _, _, _, _⟩) (.int .i64 n) rfl (wanted_at (b := false) false rfl rfl (hD 13 85 (by kernel_rfl))) (exec_move (.tmp 7) _ rfl (hE 7 (.int .i64 n) (by kernel_rfl) (by kernel_rfl))) rfl) ?_
          refine fsteps_cons 18 rfl (fun a u hE hD hk => f_as (show ((decide ((n : Int) ≤ (L2.k : Int))) : Bool) = false from decide_eq_false (by omega)) (f_val (o := ⟨some 89, _, _, _, _, _⟩) (.bool (decide ((n : Int) ≤ (L2.k : Int)))) rfl (wanted_at (b := false) false rfl rfl (hD 13 85 (by kernel_rfl))) (exec_gen (p := L2.k) (q := n) rfl (hD 15 87 (by kernel_rfl)) (hD 16 88 (by kernel_rfl))) rfl)) ?_
          refine sv 19 rfl rfl rfl (fun a u hE hD hk => exec_pickF (.tmp 85) (.const (.bool true)) (.tmp 89) (.bool false) rfl (hD 13 85 (by kernel_rfl)) (hD 17 89 (by kernel_rfl))) ?_
          exact fsteps_nil
        intro gv wz hV kz
        rw [show dstsOf _ 19 = [72, 73, 74, 75, 76, 77, 78, 79, 80, 81, 82, 83, 84, 85, 86, 87, 88, 89, 90] by kernel_rfl]
        simp only [List.foldl_cons, List.foldl_nil, List.setIfInBounds_toArray, List.set_cons_succ, List.set_cons_zero, List.drop_succ_cons, List.drop_zero]
        rw [show gv 90 = .bool false from hV 18 90 (by kernel_rfl)]
        clear hV
        refine wpList_nil ?_
        have HBz := Lib.hid (HB7.out.kept kz)
        have HRz := Lib.hid (HR7.out.kept kz)
        have kwz := kw7.trans kz
        clear HB7 HR7 kw7 kz
        go_wp2
        exact ⟨⟨k + 1, nw, L2, by simp, rfl, by omega, by omega, by omega, by omega, by omega, by omega, by omega, HBz, HRz, HI2, kwz⟩, by simp [intOf]; omega⟩
    · have hcond : (decide ((k : Int) < (ln : Int)) && decide ((k : Int) < 30)) = false := by
        by_cases h1 : (k : Int) < (ln : Int)
        · rw [decide_eq_false (show ¬ (k : Int) < 30 by omega), Bool.and_false]
        · rw [decide_eq_false h1, Bool.false_and]
      go_upto_region 8 with fail
      refine wp_text 8 [.eq (.int .i64 (k : Int)), .eq (.slice A ln c), .eq (.int .i64 (ln : Int)), .eq (.bool (decide (((k : Int) : Int) < ((ln : Int) : Int)))), .eq (.bool (decide (((k : Int) : Int) < ((ln : Int) : Int)))), .cond (decide (((k : Int) : Int) < ((ln : Int) : Int))) (.eq (.int .i64 (k : Int))), .cond (decide (((k : Int) : Int) < ((ln : Int) : Int))) (.eq (.bool (decide (((k : Int) : Int) < (30 : Int))))), .eq (.bool false)] rfl (by kernel_rfl) ?_ ?_
      · refine sv 1 rfl rfl rfl (fun a u hE hD hk => exec_move (.tmp 14) _ rfl (hE 14 (.int .i64 (k : Int)) (by kernel_rfl) (by kernel_rfl))) ?_
        refine sv 2 rfl rfl rfl (fun a u hE hD hk => exec_move (.tmp 2) _ rfl (hE 2 (.slice A ln c) (by kernel_rfl) (by kernel_rfl))) ?_
        refine sv 3 rfl rfl rfl (fun a u hE hD hk => exec_len (.tmp 46) _ _ slI.und A ln c rfl (hD 1 46 (by kernel_rfl))) ?_
        refine sv 4 rfl rfl rfl (fun a u hE hD hk => exec_ltn (p := (k : Int)) (q := (ln : Int)) rfl (hD 0 45 (by kernel_rfl)) (hD 2 47 (by kernel_rfl))) ?_
        refine sv 5 rfl rfl rfl (fun a u hE hD hk => exec_move (.tmp 48) _ rfl (hD 3 48 (by kernel_rfl))) ?_
        refine fsteps_cons 6 rfl (fun a u hE hD hk => f_if ((decide (((k : Int) : Int) < ((ln : Int) : Int)))) rfl rfl rfl (hD 4 49 (by kernel_rfl)) (fun hb => f_val (o := ⟨some 50, _, _, _, _, _⟩) (.int .i64 (k : Int)) rfl (wanted_b rfl rfl (hD 4 49 (by kernel_rfl)) (eq_true_of hb)) (exec_move (.tmp 14) _ rfl (hE 14 (.int .i64 (k : Int)) (by kernel_rfl) (by kernel_rfl))) rfl)) ?_
        refine fsteps_cons 7 rfl (fun a u hE hD hk => f_if ((decide (((k : Int) : Int) < ((ln : Int) : Int)))) rfl rfl rfl (hD 4 49 (by kernel_rfl)) (fun hb => f_val (o := ⟨some 51, _, _, _, _, _⟩) (.bool (decide (((k : Int) : Int) < (30 : Int)))) rfl (wanted_b rfl rfl (hD 4 49 (by kernel_rfl)) (eq_true_of hb)) (exec_ltn (p := (k : Int)) (q := 30) rfl ((hD 5 50 (by kernel_rfl)).1 hb) rfl) rfl)) ?_
        refine fsteps_cons 8 rfl (fun a u hE hD hk => f_as (show (((decide (((k : Int) : Int) < ((ln : Int) : Int))) && (decide (((k : Int) : Int) < (30 : Int)))) : Bool) = false from hcond) (f_val (o := ⟨some 52, _, _, _, _, _⟩) (.bool ((decide (((k : Int) : Int) < ((ln : Int) : Int))) && (decide (((k : Int) : Int) < (30 : Int))))) rfl (wanted_none rfl _) (exec_pickand (.tmp 49) (.tmp 51) (.const (.bool false)) ((decide (((k : Int) : Int) < ((ln : Int) : Int)))) ((decide (((k : Int) : Int) < (30 : Int)))) rfl (hD 4 49 (by kernel_rfl)) (fun hb2 => ((hD 6 51 (by kernel_rfl)).1 hb2)) rfl) rfl)) ?_
        exact fsteps_nil
      intro gv w4 hV k4
      rw [show dstsOf _ 8 = [45, 46, 47, 48, 49, 50, 51, 52] by kernel_rfl]
      simp only [List.foldl_cons, List.foldl_nil, List.setIfInBounds_toArray, List.set_cons_succ, List.set_cons_zero, List.drop_succ_cons, List.drop_zero]
      rw [show gv 52 = .bool false from hV 7 52 (by kernel_rfl)]
      clear hV
      refine wpList_nil ?_
      go_upto_region 16 with fail
      refine wp_text 2 [.eq (.bool true), .eq (.bool true)] rfl (by kernel_rfl) ?_ ?_
      · refine fsteps_cons 1 rfl (fun a u hE hD hk => f_call (o := ⟨some 91, _, _, _, _, _⟩) 3 #[] rfl (wanted_none rfl _) (exec_call 3 _ [] _ [] Try.func3 (by kernel_rfl) (by kernel_rfl) rfl rfl u) (lockRuns_is u)) ?_
        refine sv 2 rfl rfl rfl (fun a u hE hD hk => exec_assign (.tmp 91) _ rfl (hD 0 91 (by kernel_rfl))) ?_
        exact fsteps_nil
      intro gv w5 hV k5
      rw [show dstsOf _ 2 = [91, 6] by kernel_rfl]
      simp only [List.foldl_cons, List.foldl_nil, List.setIfInBounds_toArray, List.set_cons_succ, List.set_cons_zero, List.drop_succ_cons, List.drop_zero]
      rw [show gv 6 = .bool true from hV 1 6 (by kernel_rfl)]
      clear hV
      refine wpList_nil ?_
      have kw5 := (kwr.trans k4).trans k5
      go_wp2
      go_ret
      exact ⟨rfl, kw5⟩
end Go.Proofs.Ytliepgmnlhfaiaa
