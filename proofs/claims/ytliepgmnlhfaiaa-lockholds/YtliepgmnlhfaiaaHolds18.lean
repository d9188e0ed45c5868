/-
  LockHolds: locked it stays so till its moment; then it is open; cleared it is as new; it answers true. Condition: the moments as the arguments hold them.
-/
import Derived.Test.YtliepgmnlhfaiaaRuns18
import Derived.Test.YtliepgmnlhfaiaaElA
import Derived.Test.YtliepgmnlhfaiaaSlI
namespace Go.Proofs.Ytliepgmnlhfaiaa
open Go.RowKit
set_option linter.unusedVariables false
set_option maxRecDepth 100000

set_option maxRecDepth 100000 in
set_option maxHeartbeats 1600000 in
theorem lockHolds_any (tr tk at_ : Int) (v : Value) (l : List Int) (w : World) (hv : IntsA w v l) : Calls Try.prog 6 #[.int .i64 tr, .int .i64 tk, .int .i64 at_, v] w fun e w' => e = .returned (.bool true) ∧ Kept w w' := by
  obtain ⟨A, ln, c, rfl, hl, hR, hI, hn, hc, hA⟩ := hv
  unfold maxLen at hc
  have HRI := Lib.hid hR
  clear hR hI hA
  obtain ⟨n, hn⟩ : ∃ z, wi tr 1 6 = z := ⟨_, rfl⟩
  have bn := wi_in tr 1 6 (by omega)
  rw [hn] at bn
  have Wn := Lib.hid hn
  clear hn
  obtain ⟨t, ht⟩ : ∃ z, wi tk 1 50 = z := ⟨_, rfl⟩
  have bt := wi_in tk 1 50 (by omega)
  rw [ht] at bt
  have Wt := Lib.hid ht
  clear ht
  obtain ⟨p, hp⟩ : ∃ z, wi at_ 0 100 = z := ⟨_, rfl⟩
  have bp := wi_in at_ 0 100 (by omega)
  rw [hp] at bp
  have Wp := Lib.hid hp
  clear hp
  go_enter Try.func6, Try.ntmps6
  go_upto_region 1 with fail
  refine wp_text 9 [.eq (.int .i64 tr), .eq (.int .i64 n), .eq (.int .i64 tk), .eq (.int .i64 t), .eq (.int .i64 at_), .eq (.int .i64 p), .eq (.int .i64 n), .eq (.int .i64 t), .eq (.int .i64 p)] rfl (by kernel_rfl) ?_ ?_
  · refine sv 1 rfl rfl rfl (fun a u hE hD hk => exec_move (.tmp 0) _ rfl (hE 0 (.int .i64 tr) (by kernel_rfl) (by kernel_rfl))) ?_
    refine fsteps_cons 2 rfl (fun a u hE hD hk => f_call (o := ⟨some 18, _, _, _, _, _⟩) 14 #[.int .i64 tr, .int .i64 1, .int .i64 6] rfl (wanted_none rfl _) (exec_call 14 _ [.tmp 17, .const (.int .i64 1), .const (.int .i64 6)] _ [.int .i64 tr, .int .i64 1, .int .i64 6] Try.func14 (by kernel_rfl) (by kernel_rfl) rfl (show [a.eval (.tmp 17), a.eval (.const (.int .i64 1)), a.eval (.const (.int .i64 6))] = [.int .i64 tr, .int .i64 1, .int .i64 6] from (by rw [show a.eval (.tmp 17) = .int .i64 tr from (hD 0 17 (by kernel_rfl))] <;> rfl)) u) (by rw [← Wn.out]; exact within_is tr 1 6 u (by omega) (by omega) (by omega))) ?_
    refine sv 3 rfl rfl rfl (fun a u hE hD hk => exec_move (.tmp 1) _ rfl (hE 1 (.int .i64 tk) (by kernel_rfl) (by kernel_rfl))) ?_
    refine fsteps_cons 4 rfl (fun a u hE hD hk => f_call (o := ⟨some 20, _, _, _, _, _⟩) 14 #[.int .i64 tk, .int .i64 1, .int .i64 50] rfl (wanted_none rfl _) (exec_call 14 _ [.tmp 19, .const (.int .i64 1), .const (.int .i64 50)] _ [.int .i64 tk, .int .i64 1, .int .i64 50] Try.func14 (by kernel_rfl) (by kernel_rfl) rfl (show [a.eval (.tmp 19), a.eval (.const (.int .i64 1)), a.eval (.const (.int .i64 50))] = [.int .i64 tk, .int .i64 1, .int .i64 50] from (by rw [show a.eval (.tmp 19) = .int .i64 tk from (hD 2 19 (by kernel_rfl))] <;> rfl)) u) (by rw [← Wt.out]; exact within_is tk 1 50 u (by omega) (by omega) (by omega))) ?_
    refine sv 5 rfl rfl rfl (fun a u hE hD hk => exec_move (.tmp 2) _ rfl (hE 2 (.int .i64 at_) (by kernel_rfl) (by kernel_rfl))) ?_
    refine fsteps_cons 6 rfl (fun a u hE hD hk => f_call (o := ⟨some 22, _, _, _, _, _⟩) 14 #[.int .i64 at_, .int .i64 0, .int .i64 100] rfl (wanted_none rfl _) (exec_call 14 _ [.tmp 21, .const (.int .i64 0), .const (.int .i64 100)] _ [.int .i64 at_, .int .i64 0, .int .i64 100] Try.func14 (by kernel_rfl) (by kernel_rfl) rfl (show [a.eval (.tmp 21), a.eval (.const (.int .i64 0)), a.eval (.const (.int .i64 100))] = [.int .i64 at_, .int .i64 0, .int .i64 100] from (by rw [show a.eval (.tmp 21) = .int .i64 at_ from (hD 4 21 (by kernel_rfl))] <;> rfl)) u) (by rw [← Wp.out]; exact within_is at_ 0 100 u (by omega) (by omega) (by omega))) ?_
    refine sv 7 rfl rfl rfl (fun a u hE hD hk => exec_assign (.tmp 18) _ rfl (hD 1 18 (by kernel_rfl))) ?_
    refine sv 8 rfl rfl rfl (fun a u hE hD hk => exec_assign (.tmp 20) _ rfl (hD 3 20 (by kernel_rfl))) ?_
    refine sv 9 rfl rfl rfl (fun a u hE hD hk => exec_assign (.tmp 22) _ rfl (hD 5 22 (by kernel_rfl))) ?_
    exact fsteps_nil
  intro gv w0 hV k0
  rw [show dstsOf _ 9 = [17, 18, 19, 20, 21, 22, 9, 10, 11] by kernel_rfl]
  simp only [List.foldl_cons, List.foldl_nil, List.setIfInBounds_toArray, List.set_cons_succ, List.set_cons_zero, List.drop_succ_cons, List.drop_zero]
  rw [show gv 9 = .int .i64 n from hV 6 9 (by kernel_rfl)]
  rw [show gv 10 = .int .i64 t from hV 7 10 (by kernel_rfl)]
  rw [show gv 11 = .int .i64 p from hV 8 11 (by kernel_rfl)]
  clear hV
  refine wpList_nil ?_
  go_upto_region 2 with fail
  refine wp_region_lit ?_
  refine l_val (o := ⟨some 24, _, _, _, _, _⟩) (.int .i64 n) rfl (exec_move (.tmp 9) (.int .i64 n) rfl (by kernel_rfl)) ?_
  simp only [Act.put, List.setIfInBounds_toArray, List.set_cons_succ, List.set_cons_zero]
  refine l_val (o := ⟨some 25, _, _, _, _, _⟩) (.int .i64 t) rfl (exec_move (.tmp 10) (.int .i64 t) rfl (by kernel_rfl)) ?_
  simp only [Act.put, List.setIfInBounds_toArray, List.set_cons_succ, List.set_cons_zero]
  refine l_call (o := ⟨some 26, _, _, _, _, _⟩) 9 #[.int .i64 n, .int .i64 t] rfl (exec_call 9 _ [.tmp 24, .tmp 25] _ _ Try.func9 (by kernel_rfl) (by kernel_rfl) rfl (by kernel_rfl) _) ?_
  refine (lnew_yes n t (newB_iff.2 (by omega)) w0).mono ?_
  rintro e w1 ⟨g, rfl, hg, hB, kw1⟩
  refine ⟨_, rfl, ?_⟩
  simp only [Act.put, List.setIfInBounds_toArray, List.set_cons_succ, List.set_cons_zero]
  refine l_val (o := ⟨some 23, _, _, _, _, _⟩) (.tuple #[.pointer (some ⟨g, 0, none⟩), .int .i64 0]) rfl (exec_move (.tmp 26) (.tuple #[.pointer (some ⟨g, 0, none⟩), .int .i64 0]) rfl (by kernel_rfl)) ?_
  simp only [Act.put, List.setIfInBounds_toArray, List.set_cons_succ, List.set_cons_zero]
  refine l_val (o := ⟨some 27, _, _, _, _, _⟩) (.pointer (some ⟨g, 0, none⟩)) rfl (exec_extract (.tmp 23) [.pointer (some ⟨g, 0, none⟩), .int .i64 0] 0 (.pointer (some ⟨g, 0, none⟩)) rfl (by kernel_rfl) rfl) ?_
  simp only [Act.put, List.setIfInBounds_toArray, List.set_cons_succ, List.set_cons_zero]
  refine l_val (o := ⟨some 28, _, _, _, _, _⟩) (.int .i64 0) rfl (exec_extract (.tmp 23) [.pointer (some ⟨g, 0, none⟩), .int .i64 0] 1 (.int .i64 0) rfl (by kernel_rfl) rfl) ?_
  simp only [Act.put, List.setIfInBounds_toArray, List.set_cons_succ, List.set_cons_zero]
  refine l_val (o := ⟨some 12, _, _, _, _, _⟩) (.pointer (some ⟨g, 0, none⟩)) rfl (exec_assign (.tmp 27) (.pointer (some ⟨g, 0, none⟩)) rfl (by kernel_rfl)) ?_
  simp only [Act.put, List.setIfInBounds_toArray, List.set_cons_succ, List.set_cons_zero]
  refine l_val (o := ⟨some 13, _, _, _, _, _⟩) (.int .i64 0) rfl (exec_assign (.tmp 28) (.int .i64 0) rfl (by kernel_rfl)) ?_
  simp only [Act.put, List.setIfInBounds_toArray, List.set_cons_succ, List.set_cons_zero]
  refine wpList_nil ?_
  have HB := Lib.hid hB
  clear hB
  go_upto_region 3 with fail
  refine wp_text 6 [.eq (.pointer (some ⟨g, 0, none⟩)), .eq (.bool false), .eq (.bool false), .eq (.int .i64 0), .eq (.bool false), .eq (.bool false)] rfl (by kernel_rfl) ?_ ?_
  · refine sv 1 rfl rfl rfl (fun a u hE hD hk => exec_move (.tmp 12) _ rfl (hE 12 (.pointer (some ⟨g, 0, none⟩)) (by kernel_rfl) (by kernel_rfl))) ?_
    refine sv 2 rfl rfl rfl (fun a u hE hD hk => exec_eqP (.tmp 29) _ _ ⟨g, 0, none⟩ (by kernel_rfl) rfl (hD 0 29 (by kernel_rfl))) ?_
    refine sv 3 rfl rfl rfl (fun a u hE hD hk => exec_move (.tmp 30) _ rfl (hD 1 30 (by kernel_rfl))) ?_
    refine fsteps_cons 4 rfl (fun a u hE hD hk => f_val (o := ⟨some 32, _, _, _, _, _⟩) (.int .i64 0) rfl (wanted_at (b := false) false rfl rfl (hD 2 31 (by kernel_rfl))) (exec_move (.tmp 13) _ rfl (hE 13 (.int .i64 0) (by kernel_rfl) (by kernel_rfl))) rfl) ?_
    refine fsteps_cons 5 rfl (fun a u hE hD hk => f_as (show ((decide ((0 : Int) ≠ (0 : Int))) : Bool) = false from decide_eq_false (by omega)) (f_val (o := ⟨some 33, _, _, _, _, _⟩) (.bool (decide ((0 : Int) ≠ (0 : Int)))) rfl (wanted_at (b := false) false rfl rfl (hD 2 31 (by kernel_rfl))) (exec_nen (p := 0) (q := 0) rfl (hD 3 32 (by kernel_rfl)) rfl) rfl)) ?_
    refine sv 6 rfl rfl rfl (fun a u hE hD hk => exec_pickF (.tmp 31) (.const (.bool true)) (.tmp 33) (.bool false) rfl (hD 2 31 (by kernel_rfl)) (hD 4 33 (by kernel_rfl))) ?_
    exact fsteps_nil
  intro gv w2 hV kw2
  rw [show dstsOf _ 6 = [29, 30, 31, 32, 33, 34] by kernel_rfl]
  simp only [List.foldl_cons, List.foldl_nil, List.setIfInBounds_toArray, List.set_cons_succ, List.set_cons_zero, List.drop_succ_cons, List.drop_zero]
  rw [show gv 34 = .bool false from hV 5 34 (by kernel_rfl)]
  clear hV
  refine wpList_nil ?_
  have zg := k0.size
  have hg : w.heap.size ≤ g := by omega
  have HB2 := Lib.hid (HB.out.kept kw2)
  have kz2 := (k0.trans kw1).trans kw2
  have HO2 := Lib.hid (lok_ok (n := n) (t := t) (newB_iff.2 (by omega)))
  clear HB kw1 kw2 k0 zg Wn Wt Wp
  generalize hL0 : Lok.none_ n t = L0 at HB2 HO2
  have q1 : L0.n = n := by rw [← hL0]; rfl
  have q2 : L0.t = t := by rw [← hL0]; rfl
  have q3 : L0.k = 0 := by rw [← hL0]; rfl
  clear hL0
  go_wp2_with fail
  go_loopw [14] (fun s wr => ∃ (i : Nat) (L : Lok), s = .int .i64 (i : Int) ∧ (i : Int) ≤ n ∧ L.n = n ∧ L.t = t ∧ L.k = (i : Int) ∧ ((i : Int) = n → L.u = p + t) ∧ Hid (Blk wr g 46 L.cells) ∧ Hid L.Ok ∧ Kept w wr) (fun s _ => n.toNat - (intOf s).toNat)
  case atStart => exact ⟨0, L0, rfl, by omega, q1, q2, q3, fun h => absurd h (by omega), HB2, HO2, kz2⟩
  case round =>
    obtain ⟨i, L, rfl, hin, en, et, ek, eu, HBr, HI, kwr⟩ := hrel
    clear HB2 HO2 kz2 q1 q2 q3
    by_cases hi : (i : Int) < n
    · have hs : L.shut p = false := lshut_no (by omega) p
      obtain ⟨f1, f2, f3, f4⟩ := lone_facts (L := L) (now := p) (by omega)
      rw [← lfail_open hs] at f1 f2 f3 f4
      obtain ⟨L2, hL2⟩ : ∃ L2, L.failM p = L2 := ⟨_, rfl⟩
      have HI2 : Hid L2.Ok := by show Lok.Ok _; rw [← hL2]; exact HI.out.fail (by omega) (by omega)
      rw [hL2] at f1 f2 f3 f4
      have HS := Lib.hid hs
      have HF := Lib.hid hL2
      clear hs hL2
      go_upto_region 6 with fail
      refine wp_text 3 [.eq (.int .i64 (i : Int)), .eq (.int .i64 n), .eq (.bool true)] rfl (by kernel_rfl) ?_ ?_
      · refine sv 1 rfl rfl rfl (fun a u hE hD hk => exec_move (.tmp 14) _ rfl (hE 14 (.int .i64 (i : Int)) (by kernel_rfl) (by kernel_rfl))) ?_
        refine sv 2 rfl rfl rfl (fun a u hE hD hk => exec_move (.tmp 9) _ rfl (hE 9 (.int .i64 n) (by kernel_rfl) (by kernel_rfl))) ?_
        refine fsteps_cons 3 rfl (fun a u hE hD hk => f_as (show ((decide (((i : Int) : Int) < (n : Int))) : Bool) = true from decide_eq_true (by omega)) (f_val (o := ⟨some 37, _, _, _, _, _⟩) (.bool (decide (((i : Int) : Int) < (n : Int)))) rfl (wanted_none rfl _) (exec_ltn (p := (i : Int)) (q := n) rfl (hD 0 35 (by kernel_rfl)) (hD 1 36 (by kernel_rfl))) rfl)) ?_
        exact fsteps_nil
      intro gv w3 hV k3
      rw [show dstsOf _ 3 = [35, 36, 37] by kernel_rfl]
      simp only [List.foldl_cons, List.foldl_nil, List.setIfInBounds_toArray, List.set_cons_succ, List.set_cons_zero, List.drop_succ_cons, List.drop_zero]
      rw [show gv 37 = .bool true from hV 2 37 (by kernel_rfl)]
      clear hV
      refine wpList_nil ?_
      have HB3 := Lib.hid (HBr.out.kept k3)
      have kw3 := kwr.trans k3
      clear HBr kwr k3
      go_upto_region 8 with fail
      refine wp_text 9 [.eq (.pointer (some ⟨g, 0, none⟩)), .eq (.int .i64 p), .eq (.bool false), .eq (.bool false), .eq (.pointer (some ⟨g, 0, none⟩)), .eq (.int .i64 (i : Int)), .eq (.int .i64 (i : Int)), .eq (.bool false), .eq (.bool false)] rfl (by kernel_rfl) ?_ ?_
      · refine sv 1 rfl rfl rfl (fun a u hE hD hk => exec_move (.tmp 12) _ rfl (hE 12 (.pointer (some ⟨g, 0, none⟩)) (by kernel_rfl) (by kernel_rfl))) ?_
        refine sv 2 rfl rfl rfl (fun a u hE hD hk => exec_move (.tmp 11) _ rfl (hE 11 (.int .i64 p) (by kernel_rfl) (by kernel_rfl))) ?_
        refine fsteps_cons 3 rfl (fun a u hE hD hk => f_call (o := ⟨some 42, _, _, _, _, _⟩) 11 #[.pointer (some ⟨g, 0, none⟩), .int .i64 p] rfl (wanted_none rfl _) (exec_call 11 _ [.tmp 40, .tmp 41] _ [.pointer (some ⟨g, 0, none⟩), .int .i64 p] Try.func11 (by kernel_rfl) (by kernel_rfl) rfl (show [a.eval (.tmp 40), a.eval (.tmp 41)] = [.pointer (some ⟨g, 0, none⟩), .int .i64 p] from (by rw [show a.eval (.tmp 40) = .pointer (some ⟨g, 0, none⟩) from (hD 0 40 (by kernel_rfl)), show a.eval (.tmp 41) = .int .i64 p from (hD 1 41 (by kernel_rfl))] <;> rfl)) u) (llocked_at (HB3.out.kept hk) HS.out)) ?_
        refine sv 4 rfl rfl rfl (fun a u hE hD hk => exec_move (.tmp 42) _ rfl (hD 2 42 (by kernel_rfl))) ?_
        refine fsteps_cons 5 rfl (fun a u hE hD hk => f_val (o := ⟨some 44, _, _, _, _, _⟩) (.pointer (some ⟨g, 0, none⟩)) rfl (wanted_at (b := false) false rfl rfl (hD 3 43 (by kernel_rfl))) (exec_move (.tmp 12) _ rfl (hE 12 (.pointer (some ⟨g, 0, none⟩)) (by kernel_rfl) (by kernel_rfl))) rfl) ?_
        refine fsteps_cons 6 rfl (fun a u hE hD hk => f_call (o := ⟨some 45, _, _, _, _, _⟩) 12 #[.pointer (some ⟨g, 0, none⟩)] rfl (wanted_at (b := false) false rfl rfl (hD 3 43 (by kernel_rfl))) (exec_call 12 _ [.tmp 44] _ [.pointer (some ⟨g, 0, none⟩)] Try.func12 (by kernel_rfl) (by kernel_rfl) rfl (show [a.eval (.tmp 44)] = [.pointer (some ⟨g, 0, none⟩)] from (by rw [show a.eval (.tmp 44) = .pointer (some ⟨g, 0, none⟩) from (hD 4 44 (by kernel_rfl))] <;> rfl)) u) (lwrong_at (HB3.out.kept hk) ek)) ?_
        refine fsteps_cons 7 rfl (fun a u hE hD hk => f_val (o := ⟨some 46, _, _, _, _, _⟩) (.int .i64 (i : Int)) rfl (wanted_at (b := false) false rfl rfl (hD 3 43 (by kernel_rfl))) (exec_move (.tmp 14) _ rfl (hE 14 (.int .i64 (i : Int)) (by kernel_rfl) (by kernel_rfl))) rfl) ?_
        refine fsteps_cons 8 rfl (fun a u hE hD hk => f_as (show ((decide (((i : Int) : Int) ≠ ((i : Int) : Int))) : Bool) = false from decide_eq_false (by omega)) (f_val (o := ⟨some 47, _, _, _, _, _⟩) (.bool (decide (((i : Int) : Int) ≠ ((i : Int) : Int)))) rfl (wanted_at (b := false) false rfl rfl (hD 3 43 (by kernel_rfl))) (exec_nen (p := (i : Int)) (q := (i : Int)) rfl (hD 5 45 (by kernel_rfl)) (hD 6 46 (by kernel_rfl))) rfl)) ?_
        refine sv 9 rfl rfl rfl (fun a u hE hD hk => exec_pickF (.tmp 43) (.const (.bool true)) (.tmp 47) (.bool false) rfl (hD 3 43 (by kernel_rfl)) (hD 7 47 (by kernel_rfl))) ?_
        exact fsteps_nil
      intro gv w4 hV k4
      rw [show dstsOf _ 9 = [40, 41, 42, 43, 44, 45, 46, 47, 48] by kernel_rfl]
      simp only [List.foldl_cons, List.foldl_nil, List.setIfInBounds_toArray, List.set_cons_succ, List.set_cons_zero, List.drop_succ_cons, List.drop_zero]
      rw [show gv 48 = .bool false from hV 8 48 (by kernel_rfl)]
      clear hV
      refine wpList_nil ?_
      have HB4 := Lib.hid (HB3.out.kept k4)
      have kw4 := kw3.trans k4
      clear HB3 kw3 k4
      go_upto_region 10 with fail
      refine wp_region_lit ?_
      refine l_val (o := ⟨some 49, _, _, _, _, _⟩) (.pointer (some ⟨g, 0, none⟩)) rfl (exec_move (.tmp 12) (.pointer (some ⟨g, 0, none⟩)) rfl (by kernel_rfl)) ?_
      simp only [Act.put, List.setIfInBounds_toArray, List.set_cons_succ, List.set_cons_zero]
      refine l_val (o := ⟨some 50, _, _, _, _, _⟩) (.int .i64 p) rfl (exec_move (.tmp 11) (.int .i64 p) rfl (by kernel_rfl)) ?_
      simp only [Act.put, List.setIfInBounds_toArray, List.set_cons_succ, List.set_cons_zero]
      refine l_call (o := ⟨some 51, _, _, _, _, _⟩) 10 #[.pointer (some ⟨g, 0, none⟩), .int .i64 p] rfl (exec_call 10 _ [.tmp 49, .tmp 50] _ _ Try.func10 (by kernel_rfl) (by kernel_rfl) rfl (by kernel_rfl) _) ?_
      refine (lfailed_at HB4.out HI.out (by omega) (by omega) HF.out).mono ?_
      rintro e w5 ⟨rfl, hBw5, fw5⟩
      refine ⟨_, rfl, ?_⟩
      simp only [Act.put, List.setIfInBounds_toArray, List.set_cons_succ, List.set_cons_zero]
      refine wpList_nil ?_
      have HBw5 := Lib.hid hBw5
      clear hBw5
      have kw5 : Kept w w5 := kw4.trans' fw5 (by omega)
      clear HB4 kw4 fw5 HS HF HI
      go_wp2
      exact ⟨⟨i + 1, L2, by simp, by omega, by omega, by omega, by omega, fun h => by rw [f4 (by omega)]; omega, HBw5, HI2, kw5⟩, by simp [intOf]; omega⟩
    · have hie : (i : Int) = n := by omega
      have eu' := eu hie
      have ek' : L.k = n := by omega
      clear eu ek
      go_upto_region 6 with fail
      refine wp_text 3 [.eq (.int .i64 (i : Int)), .eq (.int .i64 n), .eq (.bool false)] rfl (by kernel_rfl) ?_ ?_
      · refine sv 1 rfl rfl rfl (fun a u hE hD hk => exec_move (.tmp 14) _ rfl (hE 14 (.int .i64 (i : Int)) (by kernel_rfl) (by kernel_rfl))) ?_
        refine sv 2 rfl rfl rfl (fun a u hE hD hk => exec_move (.tmp 9) _ rfl (hE 9 (.int .i64 n) (by kernel_rfl) (by kernel_rfl))) ?_
        refine fsteps_cons 3 rfl (fun a u hE hD hk => f_as (show ((decide (((i : Int) : Int) < (n : Int))) : Bool) = false from decide_eq_false (by omega)) (f_val (o := ⟨some 37, _, _, _, _, _⟩) (.bool (decide (((i : Int) : Int) < (n : Int)))) rfl (wanted_none rfl _) (exec_ltn (p := (i : Int)) (q := n) rfl (hD 0 35 (by kernel_rfl)) (hD 1 36 (by kernel_rfl))) rfl)) ?_
        exact fsteps_nil
      intro gv w3 hV k3
      rw [show dstsOf _ 3 = [35, 36, 37] by kernel_rfl]
      simp only [List.foldl_cons, List.foldl_nil, List.setIfInBounds_toArray, List.set_cons_succ, List.set_cons_zero, List.drop_succ_cons, List.drop_zero]
      rw [show gv 37 = .bool false from hV 2 37 (by kernel_rfl)]
      clear hV
      refine wpList_nil ?_
      have HB3 := Lib.hid (HBr.out.kept k3)
      have kw3 := kwr.trans k3
      clear HBr kwr k3 hi hie hin
      have hsh : ∀ x, x < p + t → L.shut x = true := fun x hx => Lok.shut_iff.2 ⟨by omega, by omega⟩
      have HSH := Lib.hid hsh
      have hop : L.shut (p + t) = false := Lok.open_iff.2 fun _ => by omega
      have HOP := Lib.hid hop
      clear hsh hop
      go_wp2_with fail
      go_loopw [15] (fun s wr => ∃ k : Nat, s = .int .i64 (k : Int) ∧ k ≤ 20 ∧ k ≤ ln ∧ Hid (Blk wr g 46 L.cells) ∧ Kept w wr) (fun s _ => 20 - (intOf s).toNat)
      case atStart => exact ⟨0, rfl, by omega, by omega, HB3, kw3⟩
      case round =>
        obtain ⟨k, rfl, hk20, hkn, HBr, kwr⟩ := hrel
        clear HB3 kw3
        by_cases hlt : k < ln ∧ k < 20
        · obtain ⟨hin, hk6⟩ := hlt
          have hil : k < l.length := by rw [hl.out]; exact hin
          obtain ⟨x, hx⟩ : ∃ x, l[k]? = some x := ⟨_, List.getElem?_eq_getElem hil⟩
          obtain ⟨ad, rfl, hX⟩ := HRI.out k x hx
          have HX := Lib.hid (elat (kwr.cell hX))
          clear hx hX hil
          obtain ⟨m, hm⟩ : ∃ z, wi x 0 (t - 1) = z := ⟨_, rfl⟩
          have bm := wi_in x 0 (t - 1) (by omega)
          rw [hm] at bm
          have Wm := Lib.hid hm
          clear hm
          have HS : Hid (L.shut (p + m) = true) := HSH.out _ (by omega)
          have HF : Hid (L.failM (p + m) = L) := lfail_shut HS.out
          go_upto_region 12 with fail
          refine wp_text 8 [.eq (.int .i64 (k : Int)), .eq (.slice (some ad) ln c), .eq (.int .i64 (ln : Int)), .eq (.bool true), .eq (.bool true), .eq (.int .i64 (k : Int)), .eq (.bool true), .eq (.bool true)] rfl (by kernel_rfl) ?_ ?_
          · refine sv 1 rfl rfl rfl (fun a u hE hD hk => exec_move (.tmp 15) _ rfl (hE 15 (.int .i64 (k : Int)) (by kernel_rfl) (by kernel_rfl))) ?_
            refine sv 2 rfl rfl rfl (fun a u hE hD hk => exec_move (.tmp 3) _ rfl (hE 3 (.slice (some ad) ln c) (by kernel_rfl) (by kernel_rfl))) ?_
            refine sv 3 rfl rfl rfl (fun a u hE hD hk => exec_len (.tmp 53) _ _ slI.und (some ad) ln c rfl (hD 1 53 (by kernel_rfl))) ?_
            refine fsteps_cons 4 rfl (fun a u hE hD hk => f_as (show ((decide (((k : Int) : Int) < ((ln : Int) : Int))) : Bool) = true from decide_eq_true (by omega)) (f_val (o := ⟨some 55, _, _, _, _, _⟩) (.bool (decide (((k : Int) : Int) < ((ln : Int) : Int)))) rfl (wanted_none rfl _) (exec_ltn (p := (k : Int)) (q := (ln : Int)) rfl (hD 0 52 (by kernel_rfl)) (hD 2 54 (by kernel_rfl))) rfl)) ?_
            refine sv 5 rfl rfl rfl (fun a u hE hD hk => exec_move (.tmp 55) _ rfl (hD 3 55 (by kernel_rfl))) ?_
            refine fsteps_cons 6 rfl (fun a u hE hD hk => f_val (o := ⟨some 57, _, _, _, _, _⟩) (.int .i64 (k : Int)) rfl (wanted_at (b := true) true rfl rfl (hD 4 56 (by kernel_rfl))) (exec_move (.tmp 15) _ rfl (hE 15 (.int .i64 (k : Int)) (by kernel_rfl) (by kernel_rfl))) rfl) ?_
            refine fsteps_cons 7 rfl (fun a u hE hD hk => f_as (show ((decide (((k : Int) : Int) < (20 : Int))) : Bool) = true from decide_eq_true (by omega)) (f_val (o := ⟨some 58, _, _, _, _, _⟩) (.bool (decide (((k : Int) : Int) < (20 : Int)))) rfl (wanted_at (b := true) true rfl rfl (hD 4 56 (by kernel_rfl))) (exec_ltn (p := (k : Int)) (q := 20) rfl (hD 5 57 (by kernel_rfl)) rfl) rfl)) ?_
            refine sv 8 rfl rfl rfl (fun a u hE hD hk => exec_pick (.tmp 56) (.tmp 58) (.const (.bool false)) (.bool true) rfl (hD 4 56 (by kernel_rfl)) (hD 6 58 (by kernel_rfl))) ?_
            exact fsteps_nil
          intro gv w4 hV k4
          rw [show dstsOf _ 8 = [52, 53, 54, 55, 56, 57, 58, 59] by kernel_rfl]
          simp only [List.foldl_cons, List.foldl_nil, List.setIfInBounds_toArray, List.set_cons_succ, List.set_cons_zero, List.drop_succ_cons, List.drop_zero]
          rw [show gv 59 = .bool true from hV 7 59 (by kernel_rfl)]
          clear hV
          refine wpList_nil ?_
          have HX5 := Lib.hid (HX.out.go k4)
          clear HX
          go_upto_region 14 with fail
          refine wp_text 10 [.eq (.int .i64 p), .eq (.slice (some ad) ln c), .eq (.int .i64 (k : Int)), .eq (.pointer (some (ad.add (k * 1)))), .eq (.int .i64 x), .eq (.int .i64 t), .eq (.int .i64 ((t : Int) - (1 : Int))), .eq (.int .i64 m), .eq (.int .i64 ((p : Int) + (m : Int))), .eq (.int .i64 ((p : Int) + (m : Int)))] rfl (by kernel_rfl) ?_ ?_
          · refine sv 1 rfl rfl rfl (fun a u hE hD hk => exec_move (.tmp 11) _ rfl (hE 11 (.int .i64 p) (by kernel_rfl) (by kernel_rfl))) ?_
            refine sv 2 rfl rfl rfl (fun a u hE hD hk => exec_move (.tmp 3) _ rfl (hE 3 (.slice (some ad) ln c) (by kernel_rfl) (by kernel_rfl))) ?_
            refine sv 3 rfl rfl rfl (fun a u hE hD hk => exec_move (.tmp 15) _ rfl (hE 15 (.int .i64 (k : Int)) (by kernel_rfl) (by kernel_rfl))) ?_
            refine sv 4 rfl rfl rfl (fun a u hE hD hk => exec_indexA 40 3 1 (.tmp 63) (.tmp 64) ad ln c k rfl Try.underlying40 infoI1 (hD 1 63 (by kernel_rfl)) (hD 2 64 (by kernel_rfl)) hin) ?_
            refine sv 5 rfl rfl rfl (fun a u hE hD hk => exec_loadi 3 Try.underlying3 (.tmp 65) (ad.add (k * 1)) (.int .i64 x) rfl (hD 3 65 (by kernel_rfl)) (HX5.out.at_ hk)) ?_
            refine sv 6 rfl rfl rfl (fun a u hE hD hk => exec_move (.tmp 10) _ rfl (hE 10 (.int .i64 t) (by kernel_rfl) (by kernel_rfl))) ?_
            refine sv 7 rfl rfl rfl (fun a u hE hD hk => exec_subn (p := (t)) (q := (1)) ((t : Int) - (1 : Int)) rfl (hD 5 67 (by kernel_rfl)) rfl rfl (by omega) (by omega)) ?_
            refine fsteps_cons 8 rfl (fun a u hE hD hk => f_call (o := ⟨some 69, _, _, _, _, _⟩) 14 #[.int .i64 x, .int .i64 0, .int .i64 ((t : Int) - (1 : Int))] rfl (wanted_none rfl _) (exec_call 14 _ [.tmp 66, .const (.int .i64 0), .tmp 68] _ [.int .i64 x, .int .i64 0, .int .i64 ((t : Int) - (1 : Int))] Try.func14 (by kernel_rfl) (by kernel_rfl) rfl (show [a.eval (.tmp 66), a.eval (.const (.int .i64 0)), a.eval (.tmp 68)] = [.int .i64 x, .int .i64 0, .int .i64 ((t : Int) - (1 : Int))] from (by rw [show a.eval (.tmp 66) = .int .i64 x from (hD 4 66 (by kernel_rfl)), show a.eval (.tmp 68) = .int .i64 ((t : Int) - (1 : Int)) from (hD 6 68 (by kernel_rfl))] <;> rfl)) u) (by rw [← Wm.out]; exact within_is x 0 (t - 1) u (by omega) (by omega) (by omega))) ?_
            refine sv 9 rfl rfl rfl (fun a u hE hD hk => exec_addn (p := (p)) (q := (m)) ((p : Int) + (m : Int)) rfl (hD 0 62 (by kernel_rfl)) (hD 7 69 (by kernel_rfl)) rfl (by omega) (by omega)) ?_
            refine sv 10 rfl rfl rfl (fun a u hE hD hk => exec_assign (.tmp 70) _ rfl (hD 8 70 (by kernel_rfl))) ?_
            exact fsteps_nil
          intro gv w5 hV k5
          rw [show dstsOf _ 10 = [62, 63, 64, 65, 66, 67, 68, 69, 70, 16] by kernel_rfl]
          simp only [List.foldl_cons, List.foldl_nil, List.setIfInBounds_toArray, List.set_cons_succ, List.set_cons_zero, List.drop_succ_cons, List.drop_zero]
          rw [show gv 16 = .int .i64 ((p : Int) + (m : Int)) from hV 9 16 (by kernel_rfl)]
          clear hV
          refine wpList_nil ?_
          have k45 := k4.trans k5
          have HB5 := Lib.hid (HBr.out.kept k45)
          have kw5 := kwr.trans k45
          clear HBr kwr k4 k5 k45 HX5 Wm
          obtain ⟨pm, hpm⟩ : ∃ y, p + m = y := ⟨_, rfl⟩
          rw [hpm] at HS HF ⊢
          go_upto_region 15 with fail
          refine wp_region_lit ?_
          refine l_val (o := ⟨some 71, _, _, _, _, _⟩) (.pointer (some ⟨g, 0, none⟩)) rfl (exec_move (.tmp 12) (.pointer (some ⟨g, 0, none⟩)) rfl (by kernel_rfl)) ?_
          simp only [Act.put, List.setIfInBounds_toArray, List.set_cons_succ, List.set_cons_zero]
          refine l_val (o := ⟨some 72, _, _, _, _, _⟩) (.int .i64 pm) rfl (exec_move (.tmp 16) (.int .i64 pm) rfl (by kernel_rfl)) ?_
          simp only [Act.put, List.setIfInBounds_toArray, List.set_cons_succ, List.set_cons_zero]
          refine l_call (o := ⟨some 73, _, _, _, _, _⟩) 10 #[.pointer (some ⟨g, 0, none⟩), .int .i64 pm] rfl (exec_call 10 _ [.tmp 71, .tmp 72] _ _ Try.func10 (by kernel_rfl) (by kernel_rfl) rfl (by kernel_rfl) _) ?_
          refine (lfailed_at HB5.out HI.out (by omega) (by omega) HF.out).mono ?_
          rintro e w6 ⟨rfl, hBw6, fw6⟩
          refine ⟨_, rfl, ?_⟩
          simp only [Act.put, List.setIfInBounds_toArray, List.set_cons_succ, List.set_cons_zero]
          refine wpList_nil ?_
          have HBw6 := Lib.hid hBw6
          clear hBw6
          have kw6 : Kept w w6 := kw5.trans' fw6 (by omega)
          clear HB5 kw5 fw6 HF
          go_upto_region 16 with fail
          refine wp_text 10 [.eq (.pointer (some ⟨g, 0, none⟩)), .eq (.int .i64 pm), .eq (.bool true), .eq (.bool false), .eq (.bool false), .eq (.pointer (some ⟨g, 0, none⟩)), .eq (.int .i64 n), .eq (.int .i64 n), .eq (.bool false), .eq (.bool false)] rfl (by kernel_rfl) ?_ ?_
          · refine sv 1 rfl rfl rfl (fun a u hE hD hk => exec_move (.tmp 12) _ rfl (hE 12 (.pointer (some ⟨g, 0, none⟩)) (by kernel_rfl) (by kernel_rfl))) ?_
            refine sv 2 rfl rfl rfl (fun a u hE hD hk => exec_move (.tmp 16) _ rfl (hE 16 (.int .i64 pm) (by kernel_rfl) (by kernel_rfl))) ?_
            refine fsteps_cons 3 rfl (fun a u hE hD hk => f_call (o := ⟨some 76, _, _, _, _, _⟩) 11 #[.pointer (some ⟨g, 0, none⟩), .int .i64 pm] rfl (wanted_none rfl _) (exec_call 11 _ [.tmp 74, .tmp 75] _ [.pointer (some ⟨g, 0, none⟩), .int .i64 pm] Try.func11 (by kernel_rfl) (by kernel_rfl) rfl (show [a.eval (.tmp 74), a.eval (.tmp 75)] = [.pointer (some ⟨g, 0, none⟩), .int .i64 pm] from (by rw [show a.eval (.tmp 74) = .pointer (some ⟨g, 0, none⟩) from (hD 0 74 (by kernel_rfl)), show a.eval (.tmp 75) = .int .i64 pm from (hD 1 75 (by kernel_rfl))] <;> rfl)) u) (llocked_at (HBw6.out.kept hk) HS.out)) ?_
            refine sv 4 rfl rfl rfl (fun a u hE hD hk => exec_not _ (.tmp 76) true rfl (hD 2 76 (by kernel_rfl))) ?_
            refine sv 5 rfl rfl rfl (fun a u hE hD hk => exec_move (.tmp 77) _ rfl (hD 3 77 (by kernel_rfl))) ?_
            refine fsteps_cons 6 rfl (fun a u hE hD hk => f_val (o := ⟨some 79, _, _, _, _, _⟩) (.pointer (some ⟨g, 0, none⟩)) rfl (wanted_at (b := false) false rfl rfl (hD 4 78 (by kernel_rfl))) (exec_move (.tmp 12) _ rfl (hE 12 (.pointer (some ⟨g, 0, none⟩)) (by kernel_rfl) (by kernel_rfl))) rfl) ?_
            refine fsteps_cons 7 rfl (fun a u hE hD hk => f_call (o := ⟨some 80, _, _, _, _, _⟩) 12 #[.pointer (some ⟨g, 0, none⟩)] rfl (wanted_at (b := false) false rfl rfl (hD 4 78 (by kernel_rfl))) (exec_call 12 _ [.tmp 79] _ [.pointer (some ⟨g, 0, none⟩)] Try.func12 (by kernel_rfl) (by kernel_rfl) rfl (show [a.eval (.tmp 79)] = [.pointer (some ⟨g, 0, none⟩)] from (by rw [show a.eval (.tmp 79) = .pointer (some ⟨g, 0, none⟩) from (hD 5 79 (by kernel_rfl))] <;> rfl)) u) (lwrong_at (HBw6.out.kept hk) ek')) ?_
            refine fsteps_cons 8 rfl (fun a u hE hD hk => f_val (o := ⟨some 81, _, _, _, _, _⟩) (.int .i64 n) rfl (wanted_at (b := false) false rfl rfl (hD 4 78 (by kernel_rfl))) (exec_move (.tmp 9) _ rfl (hE 9 (.int .i64 n) (by kernel_rfl) (by kernel_rfl))) rfl) ?_
            refine fsteps_cons 9 rfl (fun a u hE hD hk => f_as (show ((decide ((n : Int) ≠ (n : Int))) : Bool) = false from decide_eq_false (by omega)) (f_val (o := ⟨some 82, _, _, _, _, _⟩) (.bool (decide ((n : Int) ≠ (n : Int)))) rfl (wanted_at (b := false) false rfl rfl (hD 4 78 (by kernel_rfl))) (exec_nen (p := n) (q := n) rfl (hD 6 80 (by kernel_rfl)) (hD 7 81 (by kernel_rfl))) rfl)) ?_
            refine sv 10 rfl rfl rfl (fun a u hE hD hk => exec_pickF (.tmp 78) (.const (.bool true)) (.tmp 82) (.bool false) rfl (hD 4 78 (by kernel_rfl)) (hD 8 82 (by kernel_rfl))) ?_
            exact fsteps_nil
          intro gv w7 hV k7
          rw [show dstsOf _ 10 = [74, 75, 76, 77, 78, 79, 80, 81, 82, 83] by kernel_rfl]
          simp only [List.foldl_cons, List.foldl_nil, List.setIfInBounds_toArray, List.set_cons_succ, List.set_cons_zero, List.drop_succ_cons, List.drop_zero]
          rw [show gv 83 = .bool false from hV 9 83 (by kernel_rfl)]
          clear hV
          refine wpList_nil ?_
          have HB7 := Lib.hid (HBw6.out.kept k7)
          have kw7 := kw6.trans k7
          clear HBw6 kw6 k7 HS
          go_wp2
          exact ⟨⟨k + 1, by simp, by omega, by omega, HB7, kw7⟩, by simp [intOf]; omega⟩
        · have hcond : (decide ((k : Int) < (ln : Int)) && decide ((k : Int) < 20)) = false := by
            by_cases h1 : (k : Int) < (ln : Int)
            · rw [decide_eq_false (show ¬ (k : Int) < 20 by omega), Bool.and_false]
            · rw [decide_eq_false h1, Bool.false_and]
          go_upto_region 12 with fail
          refine wp_text 8 [.eq (.int .i64 (k : Int)), .eq (.slice A ln c), .eq (.int .i64 (ln : Int)), .eq (.bool (decide (((k : Int) : Int) < ((ln : Int) : Int)))), .eq (.bool (decide (((k : Int) : Int) < ((ln : Int) : Int)))), .cond (decide (((k : Int) : Int) < ((ln : Int) : Int))) (.eq (.int .i64 (k : Int))), .cond (decide (((k : Int) : Int) < ((ln : Int) : Int))) (.eq (.bool (decide (((k : Int) : Int) < (20 : Int))))), .eq (.bool false)] rfl (by kernel_rfl) ?_ ?_
          · refine sv 1 rfl rfl rfl (fun a u hE hD hk => exec_move (.tmp 15) _ rfl (hE 15 (.int .i64 (k : Int)) (by kernel_rfl) (by kernel_rfl))) ?_
            refine sv 2 rfl rfl rfl (fun a u hE hD hk => exec_move (.tmp 3) _ rfl (hE 3 (.slice A ln c) (by kernel_rfl) (by kernel_rfl))) ?_
            refine sv 3 rfl rfl rfl (fun a u hE hD hk => exec_len (.tmp 53) _ _ slI.und A ln c rfl (hD 1 53 (by kernel_rfl))) ?_
            refine sv 4 rfl rfl rfl (fun a u hE hD hk => exec_ltn (p := (k : Int)) (q := (ln : Int)) rfl (hD 0 52 (by kernel_rfl)) (hD 2 54 (by kernel_rfl))) ?_
            refine sv 5 rfl rfl rfl (fun a u hE hD hk => exec_move (.tmp 55) _ rfl (hD 3 55 (by kernel_rfl))) ?_
            refine fsteps_cons 6 rfl (fun a u hE hD hk => f_if ((decide (((k : Int) : Int) < ((ln : Int) : Int)))) rfl rfl rfl (hD 4 56 (by kernel_rfl)) (fun hb => f_val (o := ⟨some 57, _, _, _, _, _⟩) (.int .i64 (k : Int)) rfl (wanted_b rfl rfl (hD 4 56 (by kernel_rfl)) (eq_true_of hb)) (exec_move (.tmp 15) _ rfl (hE 15 (.int .i64 (k : Int)) (by kernel_rfl) (by kernel_rfl))) rfl)) ?_
            refine fsteps_cons 7 rfl (fun a u hE hD hk => f_if ((decide (((k : Int) : Int) < ((ln : Int) : Int)))) rfl rfl rfl (hD 4 56 (by kernel_rfl)) (fun hb => f_val (o := ⟨some 58, _, _, _, _, _⟩) (.bool (decide (((k : Int) : Int) < (20 : Int)))) rfl (wanted_b rfl rfl (hD 4 56 (by kernel_rfl)) (eq_true_of hb)) (exec_ltn (p := (k : Int)) (q := 20) rfl ((hD 5 57 (by kernel_rfl)).1 hb) rfl) rfl)) ?_
            refine fsteps_cons 8 rfl (fun a u hE hD hk => f_as (show (((decide (((k : Int) : Int) < ((ln : Int) : Int))) && (decide (((k : Int) : Int) < (20 : Int)))) : Bool) = false from hcond) (f_val (o := ⟨some 59, _, _, _, _, _⟩) (.bool ((decide (((k : Int) : Int) < ((ln : Int) : Int))) && (decide (((k : Int) : Int) < (20 : Int))))) rfl (wanted_none rfl _) (exec_pickand (.tmp 56) (.tmp 58) (.const (.bool false)) ((decide (((k : Int) : Int) < ((ln : Int) : Int)))) ((decide (((k : Int) : Int) < (20 : Int)))) rfl (hD 4 56 (by kernel_rfl)) (fun hb2 => ((hD 6 58 (by kernel_rfl)).1 hb2)) rfl) rfl)) ?_
            exact fsteps_nil
          intro gv w4 hV k4
          rw [show dstsOf _ 8 = [52, 53, 54, 55, 56, 57, 58, 59] by kernel_rfl]
          simp only [List.foldl_cons, List.foldl_nil, List.setIfInBounds_toArray, List.set_cons_succ, List.set_cons_zero, List.drop_succ_cons, List.drop_zero]
          rw [show gv 59 = .bool false from hV 7 59 (by kernel_rfl)]
          clear hV
          refine wpList_nil ?_
          have HB4 := Lib.hid (HBr.out.kept k4)
          have kw4 := kwr.trans k4
          clear HBr kwr k4 hcond hlt
          obtain ⟨pt, hpt⟩ : ∃ y, p + t = y := ⟨_, rfl⟩
          have hpt' : p + t - 1 = pt - 1 := by omega
          have HS1 : Hid (L.shut (pt - 1) = true) := HSH.out _ (by omega)
          have HS2 : Hid (L.shut p = true) := HSH.out _ (by omega)
          rw [hpt] at HOP
          go_upto_region 18 with fail
          refine wp_text 14 [.eq (.pointer (some ⟨g, 0, none⟩)), .eq (.int .i64 p), .eq (.int .i64 t), .eq (.int .i64 pt), .eq (.bool false), .eq (.bool false), .eq (.pointer (some ⟨g, 0, none⟩)), .eq (.int .i64 p), .eq (.int .i64 t), .eq (.int .i64 pt), .eq (.int .i64 ((pt : Int) - (1 : Int))), .eq (.bool true), .eq (.bool false), .eq (.bool false)] rfl (by kernel_rfl) ?_ ?_
          · refine sv 1 rfl rfl rfl (fun a u hE hD hk => exec_move (.tmp 12) _ rfl (hE 12 (.pointer (some ⟨g, 0, none⟩)) (by kernel_rfl) (by kernel_rfl))) ?_
            refine sv 2 rfl rfl rfl (fun a u hE hD hk => exec_move (.tmp 11) _ rfl (hE 11 (.int .i64 p) (by kernel_rfl) (by kernel_rfl))) ?_
            refine sv 3 rfl rfl rfl (fun a u hE hD hk => exec_move (.tmp 10) _ rfl (hE 10 (.int .i64 t) (by kernel_rfl) (by kernel_rfl))) ?_
            refine sv 4 rfl rfl rfl (fun a u hE hD hk => exec_addn pt rfl (hD 1 85 (by kernel_rfl)) (hD 2 86 (by kernel_rfl)) hpt (by omega) (by omega)) ?_
            refine fsteps_cons 5 rfl (fun a u hE hD hk => f_call (o := ⟨some 88, _, _, _, _, _⟩) 11 #[.pointer (some ⟨g, 0, none⟩), .int .i64 pt] rfl (wanted_none rfl _) (exec_call 11 _ [.tmp 84, .tmp 87] _ [.pointer (some ⟨g, 0, none⟩), .int .i64 pt] Try.func11 (by kernel_rfl) (by kernel_rfl) rfl (show [a.eval (.tmp 84), a.eval (.tmp 87)] = [.pointer (some ⟨g, 0, none⟩), .int .i64 pt] from (by rw [show a.eval (.tmp 84) = .pointer (some ⟨g, 0, none⟩) from (hD 0 84 (by kernel_rfl)), show a.eval (.tmp 87) = .int .i64 pt from (hD 3 87 (by kernel_rfl))] <;> rfl)) u) (llocked_at (HB4.out.kept hk) HOP.out)) ?_
            refine sv 6 rfl rfl rfl (fun a u hE hD hk => exec_move (.tmp 88) _ rfl (hD 4 88 (by kernel_rfl))) ?_
            refine fsteps_cons 7 rfl (fun a u hE hD hk => f_val (o := ⟨some 90, _, _, _, _, _⟩) (.pointer (some ⟨g, 0, none⟩)) rfl (wanted_at (b := false) false rfl rfl (hD 5 89 (by kernel_rfl))) (exec_move (.tmp 12) _ rfl (hE 12 (.pointer (some ⟨g, 0, none⟩)) (by kernel_rfl) (by kernel_rfl))) rfl) ?_
            refine fsteps_cons 8 rfl (fun a u hE hD hk => f_val (o := ⟨some 91, _, _, _, _, _⟩) (.int .i64 p) rfl (wanted_at (b := false) false rfl rfl (hD 5 89 (by kernel_rfl))) (exec_move (.tmp 11) _ rfl (hE 11 (.int .i64 p) (by kernel_rfl) (by kernel_rfl))) rfl) ?_
            refine fsteps_cons 9 rfl (fun a u hE hD hk => f_val (o := ⟨some 92, _, _, _, _, _⟩) (.int .i64 t) rfl (wanted_at (b := false) false rfl rfl (hD 5 89 (by kernel_rfl))) (exec_move (.tmp 10) _ rfl (hE 10 (.int .i64 t) (by kernel_rfl) (by kernel_rfl))) rfl) ?_
            refine fsteps_cons 10 rfl (fun a u hE hD hk => f_val (o := ⟨some 93, _, _, _, _, _⟩) (.int .i64 pt) rfl (wanted_at (b := false) false rfl rfl (hD 5 89 (by kernel_rfl))) (exec_addn pt rfl (hD 7 91 (by kernel_rfl)) (hD 8 92 (by kernel_rfl)) hpt (by omega) (by omega)) rfl) ?_
            refine fsteps_cons 11 rfl (fun a u hE hD hk => f_val (o := ⟨some 94, _, _, _, _, _⟩) (.int .i64 ((pt : Int) - (1 : Int))) rfl (wanted_at (b := false) false rfl rfl (hD 5 89 (by kernel_rfl))) (exec_subn (p := (pt)) (q := (1)) ((pt : Int) - (1 : Int)) rfl (hD 9 93 (by kernel_rfl)) rfl rfl (by omega) (by omega)) rfl) ?_
            refine fsteps_cons 12 rfl (fun a u hE hD hk => f_call (o := ⟨some 95, _, _, _, _, _⟩) 11 #[.pointer (some ⟨g, 0, none⟩), .int .i64 ((pt : Int) - (1 : Int))] rfl (wanted_at (b := false) false rfl rfl (hD 5 89 (by kernel_rfl))) (exec_call 11 _ [.tmp 90, .tmp 94] _ [.pointer (some ⟨g, 0, none⟩), .int .i64 ((pt : Int) - (1 : Int))] Try.func11 (by kernel_rfl) (by kernel_rfl) rfl (show [a.eval (.tmp 90), a.eval (.tmp 94)] = [.pointer (some ⟨g, 0, none⟩), .int .i64 ((pt : Int) - (1 : Int))] from (by rw [show a.eval (.tmp 90) = .pointer (some ⟨g, 0, none⟩) from (hD 6 90 (by kernel_rfl)), show a.eval (.tmp 94) = .int .i64 ((pt : Int) - (1 : Int)) from (hD 10 94 (by kernel_rfl))] <;> rfl)) u) (llocked_at (HB4.out.kept hk) HS1.out)) ?_
            refine fsteps_cons 13 rfl (fun a u hE hD hk => f_val (o := ⟨some 96, _, _, _, _, _⟩) (.bool false) rfl (wanted_at (b := false) false rfl rfl (hD 5 89 (by kernel_rfl))) (exec_not _ (.tmp 95) true rfl (hD 11 95 (by kernel_rfl))) rfl) ?_
            refine sv 14 rfl rfl rfl (fun a u hE hD hk => exec_pickF (.tmp 89) (.const (.bool true)) (.tmp 96) (.bool false) rfl (hD 5 89 (by kernel_rfl)) (hD 12 96 (by kernel_rfl))) ?_
            exact fsteps_nil
          intro gv w5 hV k5
          rw [show dstsOf _ 14 = [84, 85, 86, 87, 88, 89, 90, 91, 92, 93, 94, 95, 96, 97] by kernel_rfl]
          simp only [List.foldl_cons, List.foldl_nil, List.setIfInBounds_toArray, List.set_cons_succ, List.set_cons_zero, List.drop_succ_cons, List.drop_zero]
          rw [show gv 97 = .bool false from hV 13 97 (by kernel_rfl)]
          clear hV
          refine wpList_nil ?_
          have HB5 := Lib.hid (HB4.out.kept k5)
          have kw5 := kw4.trans k5
          clear HB4 kw4 k5
          obtain ⟨L2, hL2⟩ : ∃ L2, L.clrM = L2 := ⟨_, rfl⟩
          have g1 : L2.k = 0 := by rw [← hL2]; rfl
          have g2 : L2.n = n := by rw [← hL2]; exact en
          have HS3 : Hid (L2.shut p = false) := lshut_no (by omega) p
          have HF := Lib.hid hL2
          clear hL2
          go_upto_region 20 with fail
          refine wp_region_lit ?_
          refine l_val (o := ⟨some 98, _, _, _, _, _⟩) (.pointer (some ⟨g, 0, none⟩)) rfl (exec_move (.tmp 12) (.pointer (some ⟨g, 0, none⟩)) rfl (by kernel_rfl)) ?_
          simp only [Act.put, List.setIfInBounds_toArray, List.set_cons_succ, List.set_cons_zero]
          refine l_call (o := ⟨some 99, _, _, _, _, _⟩) 16 #[.pointer (some ⟨g, 0, none⟩)] rfl (exec_call 16 _ [.tmp 98] _ _ Try.func16 (by kernel_rfl) (by kernel_rfl) rfl (by kernel_rfl) _) ?_
          refine (lclear_any g L _ HB5.out).mono ?_
          rintro e w6 ⟨rfl, hB6, k6⟩
          refine ⟨_, rfl, ?_⟩
          simp only [Act.put, List.setIfInBounds_toArray, List.set_cons_succ, List.set_cons_zero]
          refine wpList_nil ?_
          rw [HF.out] at hB6
          have HB6 := Lib.hid hB6
          have kw6 : Kept w w6 := kw5.trans' k6 (by omega)
          clear hB6 k6 kw5 HB5
          go_upto_region 21 with fail
          refine wp_text 13 [.eq (.pointer (some ⟨g, 0, none⟩)), .eq (.int .i64 p), .eq (.bool false), .eq (.bool true), .eq (.bool true), .eq (.pointer (some ⟨g, 0, none⟩)), .eq (.int .i64 0), .eq (.bool true), .eq (.bool true), .eq (.bool true), .eq (.bool true), .eq (.bool true), .eq (.bool true)] rfl (by kernel_rfl) ?_ ?_
          · refine sv 1 rfl rfl rfl (fun a u hE hD hk => exec_move (.tmp 12) _ rfl (hE 12 (.pointer (some ⟨g, 0, none⟩)) (by kernel_rfl) (by kernel_rfl))) ?_
            refine sv 2 rfl rfl rfl (fun a u hE hD hk => exec_move (.tmp 11) _ rfl (hE 11 (.int .i64 p) (by kernel_rfl) (by kernel_rfl))) ?_
            refine fsteps_cons 3 rfl (fun a u hE hD hk => f_call (o := ⟨some 102, _, _, _, _, _⟩) 11 #[.pointer (some ⟨g, 0, none⟩), .int .i64 p] rfl (wanted_none rfl _) (exec_call 11 _ [.tmp 100, .tmp 101] _ [.pointer (some ⟨g, 0, none⟩), .int .i64 p] Try.func11 (by kernel_rfl) (by kernel_rfl) rfl (show [a.eval (.tmp 100), a.eval (.tmp 101)] = [.pointer (some ⟨g, 0, none⟩), .int .i64 p] from (by rw [show a.eval (.tmp 100) = .pointer (some ⟨g, 0, none⟩) from (hD 0 100 (by kernel_rfl)), show a.eval (.tmp 101) = .int .i64 p from (hD 1 101 (by kernel_rfl))] <;> rfl)) u) (llocked_at (HB6.out.kept hk) HS3.out)) ?_
            refine sv 4 rfl rfl rfl (fun a u hE hD hk => exec_not _ (.tmp 102) false rfl (hD 2 102 (by kernel_rfl))) ?_
            refine sv 5 rfl rfl rfl (fun a u hE hD hk => exec_move (.tmp 103) _ rfl (hD 3 103 (by kernel_rfl))) ?_
            refine fsteps_cons 6 rfl (fun a u hE hD hk => f_val (o := ⟨some 105, _, _, _, _, _⟩) (.pointer (some ⟨g, 0, none⟩)) rfl (wanted_at (b := true) true rfl rfl (hD 4 104 (by kernel_rfl))) (exec_move (.tmp 12) _ rfl (hE 12 (.pointer (some ⟨g, 0, none⟩)) (by kernel_rfl) (by kernel_rfl))) rfl) ?_
            refine fsteps_cons 7 rfl (fun a u hE hD hk => f_call (o := ⟨some 106, _, _, _, _, _⟩) 12 #[.pointer (some ⟨g, 0, none⟩)] rfl (wanted_at (b := true) true rfl rfl (hD 4 104 (by kernel_rfl))) (exec_call 12 _ [.tmp 105] _ [.pointer (some ⟨g, 0, none⟩)] Try.func12 (by kernel_rfl) (by kernel_rfl) rfl (show [a.eval (.tmp 105)] = [.pointer (some ⟨g, 0, none⟩)] from (by rw [show a.eval (.tmp 105) = .pointer (some ⟨g, 0, none⟩) from (hD 5 105 (by kernel_rfl))] <;> rfl)) u) (lwrong_at (HB6.out.kept hk) g1)) ?_
            refine fsteps_cons 8 rfl (fun a u hE hD hk => f_as (show ((decide ((0 : Int) = (0 : Int))) : Bool) = true from decide_eq_true rfl) (f_val (o := ⟨some 107, _, _, _, _, _⟩) (.bool (decide ((0 : Int) = (0 : Int)))) rfl (wanted_at (b := true) true rfl rfl (hD 4 104 (by kernel_rfl))) (exec_eqn (p := 0) (q := 0) rfl (hD 6 106 (by kernel_rfl)) rfl) rfl)) ?_
            refine sv 9 rfl rfl rfl (fun a u hE hD hk => exec_pick (.tmp 104) (.tmp 107) (.const (.bool false)) (.bool true) rfl (hD 4 104 (by kernel_rfl)) (hD 7 107 (by kernel_rfl))) ?_
            refine sv 10 rfl rfl rfl (fun a u hE hD hk => exec_move (.tmp 108) _ rfl (hD 8 108 (by kernel_rfl))) ?_
            refine fsteps_cons 11 rfl (fun a u hE hD hk => f_call (o := ⟨some 110, _, _, _, _, _⟩) 3 #[] rfl (wanted_at (b := true) true rfl rfl (hD 9 109 (by kernel_rfl))) (exec_call 3 _ [] _ [] Try.func3 (by kernel_rfl) (by kernel_rfl) rfl rfl u) (lockRuns_is u)) ?_
            refine sv 12 rfl rfl rfl (fun a u hE hD hk => exec_pick (.tmp 109) (.tmp 110) (.const (.bool false)) (.bool true) rfl (hD 9 109 (by kernel_rfl)) (hD 10 110 (by kernel_rfl))) ?_
            refine sv 13 rfl rfl rfl (fun a u hE hD hk => exec_assign (.tmp 111) _ rfl (hD 11 111 (by kernel_rfl))) ?_
            exact fsteps_nil
          intro gv w7 hV k7
          rw [show dstsOf _ 13 = [100, 101, 102, 103, 104, 105, 106, 107, 108, 109, 110, 111, 8] by kernel_rfl]
          simp only [List.foldl_cons, List.foldl_nil, List.setIfInBounds_toArray, List.set_cons_succ, List.set_cons_zero, List.drop_succ_cons, List.drop_zero]
          rw [show gv 8 = .bool true from hV 12 8 (by kernel_rfl)]
          clear hV
          refine wpList_nil ?_
          have kw7 := kw6.trans k7
          go_wp2
          go_ret
          exact ⟨rfl, kw7⟩
end Go.Proofs.Ytliepgmnlhfaiaa
