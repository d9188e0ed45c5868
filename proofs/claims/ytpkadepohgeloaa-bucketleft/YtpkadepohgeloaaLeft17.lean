/-
  BucketLeft: a token that is taken is one less, but for those that came; who is refused takes none; time that goes back gives none; it answers true. Condition: the moments as the arguments hold them.
-/
import Derived.Test.YtpkadepohgeloaaPlays17
import Derived.Test.YtpkadepohgeloaaLftM17
namespace Go.Proofs.Ytpkadepohgeloaa
open Go.RowKit
set_option linter.unusedVariables false
set_option maxRecDepth 100000

set_option maxRecDepth 100000 in
set_option maxHeartbeats 1600000 in
theorem bucketLeft_any (b r : Int) (v : Value) (l : List Int) (w : World) (hv : IntsA w v l) : Calls Try.prog 7 #[.int .i64 b, .int .i64 r, v] w fun e w' => e = .returned (.bool true) ∧ Kept w w' := by
  obtain ⟨A, n, c, rfl, hl, hR, hI, hn, hc, hA⟩ := hv
  unfold maxLen at hc
  have HRI := Lib.hid hR
  clear hR hI hA
  obtain ⟨nb, hnb⟩ : ∃ z, wi b 1 9 = z := ⟨_, rfl⟩
  have bnb := wi_in b 1 9 (by omega)
  rw [hnb] at bnb
  have Wnb := Lib.hid hnb
  clear hnb
  obtain ⟨nr, hnr⟩ : ∃ z, wi r 1 30 = z := ⟨_, rfl⟩
  have bnr := wi_in r 1 30 (by omega)
  rw [hnr] at bnr
  have Wnr := Lib.hid hnr
  clear hnr
  go_enter Try.func7, Try.ntmps7
  go_upto_region 1 with fail
  refine wp_text 6 [.eq (.int .i64 b), .eq (.int .i64 nb), .eq (.int .i64 r), .eq (.int .i64 nr), .eq (.int .i64 nb), .eq (.int .i64 nr)] rfl (by kernel_rfl) ?_ ?_
  · refine sv 1 rfl rfl rfl (fun a u hE hD hk => exec_move (.tmp 0) _ rfl (hE 0 (.int .i64 b) (by kernel_rfl) (by kernel_rfl))) ?_
    refine fsteps_cons 2 rfl (fun a u hE hD hk => f_call (o := ⟨some 17, _, _, _, _, _⟩) 12 #[.int .i64 b, .int .i64 1, .int .i64 9] rfl (wanted_none rfl _) (exec_call 12 _ [.tmp 16, .const (.int .i64 1), .const (.int .i64 9)] _ [.int .i64 b, .int .i64 1, .int .i64 9] Try.func12 (by kernel_rfl) (by kernel_rfl) rfl (show [a.eval (.tmp 16), a.eval (.const (.int .i64 1)), a.eval (.const (.int .i64 9))] = [.int .i64 b, .int .i64 1, .int .i64 9] from (by rw [show a.eval (.tmp 16) = .int .i64 b from (hD 0 16 (by kernel_rfl))] <;> rfl)) u) (by rw [← Wnb.out]; exact within_is b 1 9 u (by omega) (by omega) (by omega))) ?_
    refine sv 3 rfl rfl rfl (fun a u hE hD hk => exec_move (.tmp 1) _ rfl (hE 1 (.int .i64 r) (by kernel_rfl) (by kernel_rfl))) ?_
    refine fsteps_cons 4 rfl (fun a u hE hD hk => f_call (o := ⟨some 19, _, _, _, _, _⟩) 12 #[.int .i64 r, .int .i64 1, .int .i64 30] rfl (wanted_none rfl _) (exec_call 12 _ [.tmp 18, .const (.int .i64 1), .const (.int .i64 30)] _ [.int .i64 r, .int .i64 1, .int .i64 30] Try.func12 (by kernel_rfl) (by kernel_rfl) rfl (show [a.eval (.tmp 18), a.eval (.const (.int .i64 1)), a.eval (.const (.int .i64 30))] = [.int .i64 r, .int .i64 1, .int .i64 30] from (by rw [show a.eval (.tmp 18) = .int .i64 r from (hD 2 18 (by kernel_rfl))] <;> rfl)) u) (by rw [← Wnr.out]; exact within_is r 1 30 u (by omega) (by omega) (by omega))) ?_
    refine sv 5 rfl rfl rfl (fun a u hE hD hk => exec_assign (.tmp 17) _ rfl (hD 1 17 (by kernel_rfl))) ?_
    refine sv 6 rfl rfl rfl (fun a u hE hD hk => exec_assign (.tmp 19) _ rfl (hD 3 19 (by kernel_rfl))) ?_
    exact fsteps_nil
  intro gv w1 hV k1
  rw [show dstsOf _ 6 = [16, 17, 18, 19, 7, 8] by kernel_rfl]
  simp only [List.foldl_cons, List.foldl_nil, List.setIfInBounds_toArray, List.set_cons_succ, List.set_cons_zero, List.drop_succ_cons, List.drop_zero]
  rw [show gv 7 = .int .i64 nb from hV 4 7 (by kernel_rfl)]
  rw [show gv 8 = .int .i64 nr from hV 5 8 (by kernel_rfl)]
  clear hV
  refine wpList_nil ?_
  go_upto_region 2 with fail
  refine wp_region_lit ?_
  refine l_val (o := ⟨some 21, _, _, _, _, _⟩) (.int .i64 nb) rfl (exec_move (.tmp 7) (.int .i64 nb) rfl (by kernel_rfl)) ?_
  simp only [Act.put, List.setIfInBounds_toArray, List.set_cons_succ, List.set_cons_zero]
  refine l_val (o := ⟨some 22, _, _, _, _, _⟩) (.int .i64 nr) rfl (exec_move (.tmp 8) (.int .i64 nr) rfl (by kernel_rfl)) ?_
  simp only [Act.put, List.setIfInBounds_toArray, List.set_cons_succ, List.set_cons_zero]
  refine l_call (o := ⟨some 23, _, _, _, _, _⟩) 8 #[.int .i64 nb, .int .i64 nr] rfl (exec_call 8 _ [.tmp 21, .tmp 22] _ _ Try.func8 (by kernel_rfl) (by kernel_rfl) rfl (by kernel_rfl) _) ?_
  refine (bnew_yes nb nr (full_yes (by omega) (by omega) (by omega) (by omega)) w1).mono ?_
  rintro e w2 ⟨g, rfl, hg, hB, kw2⟩
  refine ⟨_, rfl, ?_⟩
  simp only [Act.put, List.setIfInBounds_toArray, List.set_cons_succ, List.set_cons_zero]
  refine l_val (o := ⟨some 20, _, _, _, _, _⟩) (.tuple #[.pointer (some ⟨g, 0, none⟩), .int .i64 0]) rfl (exec_move (.tmp 23) (.tuple #[.pointer (some ⟨g, 0, none⟩), .int .i64 0]) rfl (by kernel_rfl)) ?_
  simp only [Act.put, List.setIfInBounds_toArray, List.set_cons_succ, List.set_cons_zero]
  refine l_val (o := ⟨some 24, _, _, _, _, _⟩) (.pointer (some ⟨g, 0, none⟩)) rfl (exec_extract (.tmp 20) [.pointer (some ⟨g, 0, none⟩), .int .i64 0] 0 (.pointer (some ⟨g, 0, none⟩)) rfl (by kernel_rfl) rfl) ?_
  simp only [Act.put, List.setIfInBounds_toArray, List.set_cons_succ, List.set_cons_zero]
  refine l_val (o := ⟨some 25, _, _, _, _, _⟩) (.int .i64 0) rfl (exec_extract (.tmp 20) [.pointer (some ⟨g, 0, none⟩), .int .i64 0] 1 (.int .i64 0) rfl (by kernel_rfl) rfl) ?_
  simp only [Act.put, List.setIfInBounds_toArray, List.set_cons_succ, List.set_cons_zero]
  refine l_val (o := ⟨some 9, _, _, _, _, _⟩) (.pointer (some ⟨g, 0, none⟩)) rfl (exec_assign (.tmp 24) (.pointer (some ⟨g, 0, none⟩)) rfl (by kernel_rfl)) ?_
  simp only [Act.put, List.setIfInBounds_toArray, List.set_cons_succ, List.set_cons_zero]
  refine l_val (o := ⟨some 10, _, _, _, _, _⟩) (.int .i64 0) rfl (exec_assign (.tmp 25) (.int .i64 0) rfl (by kernel_rfl)) ?_
  simp only [Act.put, List.setIfInBounds_toArray, List.set_cons_succ, List.set_cons_zero]
  refine wpList_nil ?_
  have HB := Lib.hid hB
  clear hB
  obtain ⟨B0, hB0⟩ : ∃ B, Bkt.full nb nr = B := ⟨_, rfl⟩
  have hI0 := Lft.zero (full_yes (b := nb) (r := nr) (by omega) (by omega) (by omega) (by omega))
  have hk0 : (Bkt.full nb nr).k = nb := rfl
  rw [hB0] at HB hI0 hk0
  have HI3 := Lib.hid hI0
  have HK := Lib.hid hk0
  clear hB0 hI0 hk0
  go_upto_region 3 with fail
  refine wp_text 12 [.eq (.pointer (some ⟨g, 0, none⟩)), .eq (.bool false), .eq (.bool false), .eq (.int .i64 0), .eq (.bool false), .eq (.bool false), .eq (.bool false), .eq (.pointer (some ⟨g, 0, none⟩)), .eq (.int .i64 nb), .eq (.int .i64 nb), .eq (.bool false), .eq (.bool false)] rfl (by kernel_rfl) ?_ ?_
  · refine sv 1 rfl rfl rfl (fun a u hE hD hk => exec_move (.tmp 9) _ rfl (hE 9 (.pointer (some ⟨g, 0, none⟩)) (by kernel_rfl) (by kernel_rfl))) ?_
    refine sv 2 rfl rfl rfl (fun a u hE hD hk => exec_eqP (.tmp 26) _ _ ⟨g, 0, none⟩ (by kernel_rfl) rfl (hD 0 26 (by kernel_rfl))) ?_
    refine sv 3 rfl rfl rfl (fun a u hE hD hk => exec_move (.tmp 27) _ rfl (hD 1 27 (by kernel_rfl))) ?_
    refine fsteps_cons 4 rfl (fun a u hE hD hk => f_val (o := ⟨some 29, _, _, _, _, _⟩) (.int .i64 0) rfl (wanted_at (b := false) false rfl rfl (hD 2 28 (by kernel_rfl))) (exec_move (.tmp 10) _ rfl (hE 10 (.int .i64 0) (by kernel_rfl) (by kernel_rfl))) rfl) ?_
    refine fsteps_cons 5 rfl (fun a u hE hD hk => f_as (show ((decide ((0 : Int) ≠ (0 : Int))) : Bool) = false from decide_eq_false (by omega)) (f_val (o := ⟨some 30, _, _, _, _, _⟩) (.bool (decide ((0 : Int) ≠ (0 : Int)))) rfl (wanted_at (b := false) false rfl rfl (hD 2 28 (by kernel_rfl))) (exec_nen (p := 0) (q := 0) rfl (hD 3 29 (by kernel_rfl)) rfl) rfl)) ?_
    refine sv 6 rfl rfl rfl (fun a u hE hD hk => exec_pickF (.tmp 28) (.const (.bool true)) (.tmp 30) (.bool false) rfl (hD 2 28 (by kernel_rfl)) (hD 4 30 (by kernel_rfl))) ?_
    refine sv 7 rfl rfl rfl (fun a u hE hD hk => exec_move (.tmp 31) _ rfl (hD 5 31 (by kernel_rfl))) ?_
    refine fsteps_cons 8 rfl (fun a u hE hD hk => f_val (o := ⟨some 33, _, _, _, _, _⟩) (.pointer (some ⟨g, 0, none⟩)) rfl (wanted_at (b := false) false rfl rfl (hD 6 32 (by kernel_rfl))) (exec_move (.tmp 9) _ rfl (hE 9 (.pointer (some ⟨g, 0, none⟩)) (by kernel_rfl) (by kernel_rfl))) rfl) ?_
    refine fsteps_cons 9 rfl (fun a u hE hD hk => f_call (o := ⟨some 34, _, _, _, _, _⟩) 14 #[.pointer (some ⟨g, 0, none⟩)] rfl (wanted_at (b := false) false rfl rfl (hD 6 32 (by kernel_rfl))) (exec_call 14 _ [.tmp 33] _ [.pointer (some ⟨g, 0, none⟩)] Try.func14 (by kernel_rfl) (by kernel_rfl) rfl (show [a.eval (.tmp 33)] = [.pointer (some ⟨g, 0, none⟩)] from (by rw [show a.eval (.tmp 33) = .pointer (some ⟨g, 0, none⟩) from (hD 7 33 (by kernel_rfl))] <;> rfl)) u) (by rw [← HK.out]; exact left_any g B0 u (HB.out.kept hk))) ?_
    refine fsteps_cons 10 rfl (fun a u hE hD hk => f_val (o := ⟨some 35, _, _, _, _, _⟩) (.int .i64 nb) rfl (wanted_at (b := false) false rfl rfl (hD 6 32 (by kernel_rfl))) (exec_move (.tmp 7) _ rfl (hE 7 (.int .i64 nb) (by kernel_rfl) (by kernel_rfl))) rfl) ?_
    refine fsteps_cons 11 rfl (fun a u hE hD hk => f_as (show ((decide ((nb : Int) ≠ (nb : Int))) : Bool) = false from decide_eq_false (by omega)) (f_val (o := ⟨some 36, _, _, _, _, _⟩) (.bool (decide ((nb : Int) ≠ (nb : Int)))) rfl (wanted_at (b := false) false rfl rfl (hD 6 32 (by kernel_rfl))) (exec_nen (p := nb) (q := nb) rfl (hD 8 34 (by kernel_rfl)) (hD 9 35 (by kernel_rfl))) rfl)) ?_
    refine sv 12 rfl rfl rfl (fun a u hE hD hk => exec_pickF (.tmp 32) (.const (.bool true)) (.tmp 36) (.bool false) rfl (hD 6 32 (by kernel_rfl)) (hD 10 36 (by kernel_rfl))) ?_
    exact fsteps_nil
  intro gv w3 hV kw3
  rw [show dstsOf _ 12 = [26, 27, 28, 29, 30, 31, 32, 33, 34, 35, 36, 37] by kernel_rfl]
  simp only [List.foldl_cons, List.foldl_nil, List.setIfInBounds_toArray, List.set_cons_succ, List.set_cons_zero, List.drop_succ_cons, List.drop_zero]
  rw [show gv 37 = .bool false from hV 11 37 (by kernel_rfl)]
  clear hV
  refine wpList_nil ?_
  have z1 := k1.size
  have hg1 : w.heap.size ≤ g := by omega
  have HB3 := Lib.hid (HB.out.kept kw3)
  have kz3 := (k1.trans kw2).trans kw3
  clear HB k1 kw2 kw3 z1 hg HK
  go_wp2_with fail
  go_loopw [12, 11] (fun t s wr => ∃ (k : Nat) (la : Int) (B : Bkt), t = .int .i64 (k : Int) ∧ s = .int .i64 la ∧ k ≤ 50 ∧ k ≤ n ∧ 0 ≤ la ∧ la ≤ 500 ∧ Hid (Blk wr g 41 B.cells) ∧ Hid (Lft nb nr B la) ∧ Kept w wr) (fun t _ _ => 50 - (intOf t).toNat)
  case atStart => exact ⟨0, 0, B0, rfl, rfl, by omega, by omega, by omega, by omega, HB3, HI3, kz3⟩
  case round =>
    obtain ⟨k, la, B, rfl, rfl, hk50, hkn, hla0, hla1, HBr, HI, kwr⟩ := hrel
    clear HB3 HI3 kz3
    by_cases hlt : k < n ∧ k < 50
    · obtain ⟨hin, hk6⟩ := hlt
      have hil : k < l.length := by rw [hl.out]; exact hin
      obtain ⟨x, hx⟩ : ∃ x, l[k]? = some x := ⟨_, List.getElem?_eq_getElem hil⟩
      obtain ⟨ad, rfl, hX⟩ := HRI.out k x hx
      have HX := Lib.hid (elat (kwr.cell hX))
      clear hx hX hil
      obtain ⟨nw, hnw⟩ : ∃ z, wi x 0 500 = z := ⟨_, rfl⟩
      have bnw := wi_in x 0 500 (by omega)
      rw [hnw] at bnw
      have Wnw := Lib.hid hnw
      clear hnw
      obtain ⟨y, hy⟩ : ∃ y, B.can nw = y := ⟨_, rfl⟩
      obtain ⟨B2, hB2⟩ : ∃ y, B.took nw = y := ⟨_, rfl⟩
      obtain ⟨l2, hl2⟩ : ∃ y, (if la < nw then nw else la) = y := ⟨_, rfl⟩
      have hst := HI.out.step (now := nw) (by omega)
      rw [hB2, hl2] at hst
      obtain ⟨s1, s2, s3, s4⟩ := hst
      have hl20 : 0 ≤ l2 ∧ l2 ≤ 500 := by rw [← hl2]; split <;> omega
      have HI2 := Lib.hid s1
      have HY0 := Lib.hid s2
      have HY1 := Lib.hid s3
      have HW := Lib.hid s4
      have hBk : 0 ≤ B.k ∧ B.k ≤ 1048576 := ⟨HI.out.ok.k0, Int.le_trans HI.out.ok.k1 HI.out.ok.b1⟩
      have HOk := Lib.hid HI.out.ok
      have HL2 := Lib.hid hl2
      have HC := Lib.hid hy
      have HT := Lib.hid hB2
      clear hy hB2 hl2 s1 s2 s3 s4 HI
      go_upto_region 7 with fail
      refine wp_text 8 [.eq (.int .i64 (k : Int)), .eq (.slice (some ad) n c), .eq (.int .i64 (n : Int)), .eq (.bool true), .eq (.bool true), .eq (.int .i64 (k : Int)), .eq (.bool true), .eq (.bool true)] rfl (by kernel_rfl) ?_ ?_
      · refine sv 1 rfl rfl rfl (fun a u hE hD hk => exec_move (.tmp 12) _ rfl (hE 12 (.int .i64 (k : Int)) (by kernel_rfl) (by kernel_rfl))) ?_
        refine sv 2 rfl rfl rfl (fun a u hE hD hk => exec_move (.tmp 2) _ rfl (hE 2 (.slice (some ad) n c) (by kernel_rfl) (by kernel_rfl))) ?_
        refine sv 3 rfl rfl rfl (fun a u hE hD hk => exec_len (.tmp 39) _ _ slI.und (some ad) n c rfl (hD 1 39 (by kernel_rfl))) ?_
        refine fsteps_cons 4 rfl (fun a u hE hD hk => f_as (show ((decide (((k : Int) : Int) < ((n : Int) : Int))) : Bool) = true from decide_eq_true (by omega)) (f_val (o := ⟨some 41, _, _, _, _, _⟩) (.bool (decide (((k : Int) : Int) < ((n : Int) : Int)))) rfl (wanted_none rfl _) (exec_ltn (p := (k : Int)) (q := (n : Int)) rfl (hD 0 38 (by kernel_rfl)) (hD 2 40 (by kernel_rfl))) rfl)) ?_
        refine sv 5 rfl rfl rfl (fun a u hE hD hk => exec_move (.tmp 41) _ rfl (hD 3 41 (by kernel_rfl))) ?_
        refine fsteps_cons 6 rfl (fun a u hE hD hk => f_val (o := ⟨some 43, _, _, _, _, _⟩) (.int .i64 (k : Int)) rfl (wanted_at (b := true) true rfl rfl (hD 4 42 (by kernel_rfl))) (exec_move (.tmp 12) _ rfl (hE 12 (.int .i64 (k : Int)) (by kernel_rfl) (by kernel_rfl))) rfl) ?_
        refine fsteps_cons 7 rfl (fun a u hE hD hk => f_as (show ((decide (((k : Int) : Int) < (50 : Int))) : Bool) = true from decide_eq_true (by omega)) (f_val (o := ⟨some 44, _, _, _, _, _⟩) (.bool (decide (((k : Int) : Int) < (50 : Int)))) rfl (wanted_at (b := true) true rfl rfl (hD 4 42 (by kernel_rfl))) (exec_ltn (p := (k : Int)) (q := 50) rfl (hD 5 43 (by kernel_rfl)) rfl) rfl)) ?_
        refine sv 8 rfl rfl rfl (fun a u hE hD hk => exec_pick (.tmp 42) (.tmp 44) (.const (.bool false)) (.bool true) rfl (hD 4 42 (by kernel_rfl)) (hD 6 44 (by kernel_rfl))) ?_
        exact fsteps_nil
      intro gv w5 hV k5
      rw [show dstsOf _ 8 = [38, 39, 40, 41, 42, 43, 44, 45] by kernel_rfl]
      simp only [List.foldl_cons, List.foldl_nil, List.setIfInBounds_toArray, List.set_cons_succ, List.set_cons_zero, List.drop_succ_cons, List.drop_zero]
      rw [show gv 45 = .bool true from hV 7 45 (by kernel_rfl)]
      clear hV
      refine wpList_nil ?_
      have HX5 := Lib.hid (HX.out.go k5)
      clear HX
      go_upto_region 9 with fail
      refine wp_text 6 [.eq (.slice (some ad) n c), .eq (.int .i64 (k : Int)), .eq (.pointer (some (ad.add (k * 1)))), .eq (.int .i64 x), .eq (.int .i64 nw), .eq (.int .i64 nw)] rfl (by kernel_rfl) ?_ ?_
      · refine sv 1 rfl rfl rfl (fun a u hE hD hk => exec_move (.tmp 2) _ rfl (hE 2 (.slice (some ad) n c) (by kernel_rfl) (by kernel_rfl))) ?_
        refine sv 2 rfl rfl rfl (fun a u hE hD hk => exec_move (.tmp 12) _ rfl (hE 12 (.int .i64 (k : Int)) (by kernel_rfl) (by kernel_rfl))) ?_
        refine sv 3 rfl rfl rfl (fun a u hE hD hk => exec_indexA 27 3 1 (.tmp 48) (.tmp 49) ad n c k rfl Try.underlying27 infoI1 (hD 0 48 (by kernel_rfl)) (hD 1 49 (by kernel_rfl)) hin) ?_
        refine sv 4 rfl rfl rfl (fun a u hE hD hk => exec_loadi 3 Try.underlying3 (.tmp 50) (ad.add (k * 1)) (.int .i64 x) rfl (hD 2 50 (by kernel_rfl)) (HX5.out.at_ hk)) ?_
        refine fsteps_cons 5 rfl (fun a u hE hD hk => f_call (o := ⟨some 52, _, _, _, _, _⟩) 12 #[.int .i64 x, .int .i64 0, .int .i64 500] rfl (wanted_none rfl _) (exec_call 12 _ [.tmp 51, .const (.int .i64 0), .const (.int .i64 500)] _ [.int .i64 x, .int .i64 0, .int .i64 500] Try.func12 (by kernel_rfl) (by kernel_rfl) rfl (show [a.eval (.tmp 51), a.eval (.const (.int .i64 0)), a.eval (.const (.int .i64 500))] = [.int .i64 x, .int .i64 0, .int .i64 500] from (by rw [show a.eval (.tmp 51) = .int .i64 x from (hD 3 51 (by kernel_rfl))] <;> rfl)) u) (by rw [← Wnw.out]; exact within_is x 0 500 u (by omega) (by omega) (by omega))) ?_
        refine sv 6 rfl rfl rfl (fun a u hE hD hk => exec_assign (.tmp 52) _ rfl (hD 4 52 (by kernel_rfl))) ?_
        exact fsteps_nil
      intro gv w6 hV k6
      rw [show dstsOf _ 6 = [48, 49, 50, 51, 52, 13] by kernel_rfl]
      simp only [List.foldl_cons, List.foldl_nil, List.setIfInBounds_toArray, List.set_cons_succ, List.set_cons_zero, List.drop_succ_cons, List.drop_zero]
      rw [show gv 13 = .int .i64 nw from hV 5 13 (by kernel_rfl)]
      clear hV
      refine wpList_nil ?_
      have HB6 := Lib.hid ((HBr.out.kept k5).kept k6)
      go_upto_region 10 with fail
      refine wp_text 3 [.eq (.pointer (some ⟨g, 0, none⟩)), .eq (.int .i64 B.k), .eq (.int .i64 B.k)] rfl (by kernel_rfl) ?_ ?_
      · refine sv 1 rfl rfl rfl (fun a u hE hD hk => exec_move (.tmp 9) _ rfl (hE 9 (.pointer (some ⟨g, 0, none⟩)) (by kernel_rfl) (by kernel_rfl))) ?_
        refine fsteps_cons 2 rfl (fun a u hE hD hk => f_call (o := ⟨some 54, _, _, _, _, _⟩) 14 #[.pointer (some ⟨g, 0, none⟩)] rfl (wanted_none rfl _) (exec_call 14 _ [.tmp 53] _ [.pointer (some ⟨g, 0, none⟩)] Try.func14 (by kernel_rfl) (by kernel_rfl) rfl (show [a.eval (.tmp 53)] = [.pointer (some ⟨g, 0, none⟩)] from (by rw [show a.eval (.tmp 53) = .pointer (some ⟨g, 0, none⟩) from (hD 0 53 (by kernel_rfl))] <;> rfl)) u) (left_any g B u (HB6.out.kept hk))) ?_
        refine sv 3 rfl rfl rfl (fun a u hE hD hk => exec_assign (.tmp 54) _ rfl (hD 1 54 (by kernel_rfl))) ?_
        exact fsteps_nil
      intro gv w7 hV k7
      rw [show dstsOf _ 3 = [53, 54, 14] by kernel_rfl]
      simp only [List.foldl_cons, List.foldl_nil, List.setIfInBounds_toArray, List.set_cons_succ, List.set_cons_zero, List.drop_succ_cons, List.drop_zero]
      rw [show gv 14 = .int .i64 B.k from hV 2 14 (by kernel_rfl)]
      clear hV
      refine wpList_nil ?_
      have HB7 := Lib.hid (HB6.out.kept k7)
      have kw7 := ((kwr.trans k5).trans k6).trans k7
      clear HBr HB6 kwr k5 k6 k7 HX5 Wnw
      go_upto_region 11 with fail
      refine wp_text 2 [.eq (.pointer (some ⟨g, 0, none⟩)), .eq (.int .i64 nw)] rfl (by kernel_rfl) ?_ ?_
      · refine sv 1 rfl rfl rfl (fun a u hE hD hk => exec_move (.tmp 9) _ rfl (hE 9 (.pointer (some ⟨g, 0, none⟩)) (by kernel_rfl) (by kernel_rfl))) ?_
        refine sv 2 rfl rfl rfl (fun a u hE hD hk => exec_move (.tmp 13) _ rfl (hE 13 (.int .i64 nw) (by kernel_rfl) (by kernel_rfl))) ?_
        exact fsteps_nil
      intro gv w8 hV k8
      rw [show dstsOf _ 2 = [55, 56] by kernel_rfl]
      simp only [List.foldl_cons, List.foldl_nil, List.setIfInBounds_toArray, List.set_cons_succ, List.set_cons_zero, List.drop_succ_cons, List.drop_zero]
      rw [show gv 55 = .pointer (some ⟨g, 0, none⟩) from hV 0 55 (by kernel_rfl)]
      rw [show gv 56 = .int .i64 nw from hV 1 56 (by kernel_rfl)]
      clear hV
      refine l_call (o := ⟨some 57, _, _, _, _, _⟩) 9 #[.pointer (some ⟨g, 0, none⟩), .int .i64 nw] rfl (exec_call 9 _ [.tmp 55, .tmp 56] _ _ Try.func9 (by kernel_rfl) (by kernel_rfl) rfl (by kernel_rfl) _) ?_
      refine (btake_at (HB7.out.kept k8) HOk.out (by omega) HC.out HT.out).mono ?_
      rintro e w9 ⟨rfl, hB9, k9⟩
      refine ⟨_, rfl, ?_⟩
      simp only [Act.put, List.setIfInBounds_toArray, List.set_cons_succ, List.set_cons_zero]
      refine l_val (o := ⟨some 15, _, _, _, _, _⟩) (.bool y) rfl (exec_assign (.tmp 57) (.bool y) rfl (by kernel_rfl)) ?_
      simp only [Act.put, List.setIfInBounds_toArray, List.set_cons_succ, List.set_cons_zero]
      refine wpList_nil ?_
      have HB9 := Lib.hid hB9
      have kw9 : Kept w w9 := (kw7.trans k8).trans' k9 (by omega)
      clear HB7 kw7 k8 k9 hB9 HOk HT
      cases y with
      | false =>
        have hl0 := HY0.out HC.out
        clear HY0 HY1
        by_cases hback : nw < la - nr
        · skip
          have hw := (HW.out hback).1
          have hl := (HW.out hback).2
          have hwk : ¬ 0 < B.k := by
            have := HC.out.symm.trans hw
            exact of_decide_eq_false this.symm
          clear hw hl
          go_upto_region 12 with fail
          refine wp_text 40 [.eq (.int .i64 nw), .eq (.int .i64 la), .eq (.bool true), .eq (.bool true), .eq (.bool false), .eq (.int .i64 B.k), .eq (.bool false), .eq (.bool false), .eq (.bool false), .eq (.pointer (some ⟨g, 0, none⟩)), .eq (.int .i64 B2.k), .eq (.int .i64 B.k), .eq (.int .i64 ((B.k : Int) - (1 : Int))), .eq (.bool (decide ((B2.k : Int) ≠ (((B.k : Int) - (1 : Int)) : Int)))), .eq (.bool (decide ((B2.k : Int) ≠ (((B.k : Int) - (1 : Int)) : Int)))), .cond (decide ((B2.k : Int) ≠ (((B.k : Int) - (1 : Int)) : Int))) (.eq (.bool false)), .eq (.bool false), .eq (.bool false), .eq (.bool false), .eq (.bool false), .eq (.bool true), .eq (.bool true), .eq (.pointer (some ⟨g, 0, none⟩)), .eq (.int .i64 B2.k), .eq (.bool false), .eq (.bool false), .eq (.bool false), .eq (.bool false), .eq (.bool false), .eq undef, .eq undef, .eq undef, .eq (.bool false), .eq (.bool false), .eq undef, .eq undef, .eq undef, .eq undef, .eq undef, .eq (.bool false)] rfl (by kernel_rfl) ?_ ?_
          · refine sv 1 rfl rfl rfl (fun a u hE hD hk => exec_move (.tmp 13) _ rfl (hE 13 (.int .i64 nw) (by kernel_rfl) (by kernel_rfl))) ?_
            refine sv 2 rfl rfl rfl (fun a u hE hD hk => exec_move (.tmp 11) _ rfl (hE 11 (.int .i64 la) (by kernel_rfl) (by kernel_rfl))) ?_
            refine fsteps_cons 3 rfl (fun a u hE hD hk => f_as (show ((decide ((nw : Int) ≤ (la : Int))) : Bool) = true from decide_eq_true (by omega)) (f_val (o := ⟨some 60, _, _, _, _, _⟩) (.bool (decide ((nw : Int) ≤ (la : Int)))) rfl (wanted_none rfl _) (exec_len_ (p := nw) (q := la) rfl (hD 0 58 (by kernel_rfl)) (hD 1 59 (by kernel_rfl))) rfl)) ?_
            refine sv 4 rfl rfl rfl (fun a u hE hD hk => exec_move (.tmp 60) _ rfl (hD 2 60 (by kernel_rfl))) ?_
            refine fsteps_cons 5 rfl (fun a u hE hD hk => f_val (o := ⟨some 62, _, _, _, _, _⟩) (.bool false) rfl (wanted_at (b := true) true rfl rfl (hD 3 61 (by kernel_rfl))) (exec_move (.tmp 15) _ rfl (hE 15 (.bool false) (by kernel_rfl) (by kernel_rfl))) rfl) ?_
            refine fsteps_cons 6 rfl (fun a u hE hD hk => f_val (o := ⟨some 63, _, _, _, _, _⟩) (.int .i64 B.k) rfl (wanted_at (b := true) true rfl rfl (hD 3 61 (by kernel_rfl))) (exec_move (.tmp 14) _ rfl (hE 14 (.int .i64 B.k) (by kernel_rfl) (by kernel_rfl))) rfl) ?_
            refine fsteps_cons 7 rfl (fun a u hE hD hk => f_as (show ((decide ((0 : Int) < (B.k : Int))) : Bool) = false from decide_eq_false hwk) (f_val (o := ⟨some 64, _, _, _, _, _⟩) (.bool (decide ((0 : Int) < (B.k : Int)))) rfl (wanted_at (b := true) true rfl rfl (hD 3 61 (by kernel_rfl))) (exec_gtn (p := B.k) (q := 0) rfl (hD 5 63 (by kernel_rfl)) rfl) rfl)) ?_
            refine fsteps_cons 8 rfl (fun a u hE hD hk => f_val (o := ⟨some 65, _, _, _, _, _⟩) (.bool false) rfl (wanted_at (b := true) true rfl rfl (hD 3 61 (by kernel_rfl))) (exec_neb (.tmp 62) (.tmp 64) _ false false false rfl (hD 4 62 (by kernel_rfl)) (hD 6 64 (by kernel_rfl)) rfl) rfl) ?_
            refine fsteps_cons 9 rfl (fun a u hE hD hk => f_val (o := ⟨some 66, _, _, _, _, _⟩) (.bool false) rfl (wanted_at (b := true) true rfl rfl (hD 3 61 (by kernel_rfl))) (exec_move (.tmp 65) _ rfl (hD 7 65 (by kernel_rfl))) rfl) ?_
            refine fsteps_cons 10 rfl (fun a u hE hD hk => f_val (o := ⟨some 67, _, _, _, _, _⟩) (.pointer (some ⟨g, 0, none⟩)) rfl (wanted_at (b := false) false rfl rfl (hD 8 66 (by kernel_rfl))) (exec_move (.tmp 9) _ rfl (hE 9 (.pointer (some ⟨g, 0, none⟩)) (by kernel_rfl) (by kernel_rfl))) rfl) ?_
            refine fsteps_cons 11 rfl (fun a u hE hD hk => f_call (o := ⟨some 68, _, _, _, _, _⟩) 14 #[.pointer (some ⟨g, 0, none⟩)] rfl (wanted_at (b := false) false rfl rfl (hD 8 66 (by kernel_rfl))) (exec_call 14 _ [.tmp 67] _ [.pointer (some ⟨g, 0, none⟩)] Try.func14 (by kernel_rfl) (by kernel_rfl) rfl (show [a.eval (.tmp 67)] = [.pointer (some ⟨g, 0, none⟩)] from (by rw [show a.eval (.tmp 67) = .pointer (some ⟨g, 0, none⟩) from (hD 9 67 (by kernel_rfl))] <;> rfl)) u) (left_any g B2 u (HB9.out.kept hk))) ?_
            refine fsteps_cons 12 rfl (fun a u hE hD hk => f_val (o := ⟨some 69, _, _, _, _, _⟩) (.int .i64 B.k) rfl (wanted_at (b := false) false rfl rfl (hD 8 66 (by kernel_rfl))) (exec_move (.tmp 14) _ rfl (hE 14 (.int .i64 B.k) (by kernel_rfl) (by kernel_rfl))) rfl) ?_
            refine fsteps_cons 13 rfl (fun a u hE hD hk => f_val (o := ⟨some 70, _, _, _, _, _⟩) (.int .i64 ((B.k : Int) - (1 : Int))) rfl (wanted_at (b := false) false rfl rfl (hD 8 66 (by kernel_rfl))) (exec_subn (p := (B.k)) (q := (1)) ((B.k : Int) - (1 : Int)) rfl (hD 11 69 (by kernel_rfl)) rfl rfl (by omega) (by omega)) rfl) ?_
            refine fsteps_cons 14 rfl (fun a u hE hD hk => f_val (o := ⟨some 71, _, _, _, _, _⟩) (.bool (decide ((B2.k : Int) ≠ (((B.k : Int) - (1 : Int)) : Int)))) rfl (wanted_at (b := false) false rfl rfl (hD 8 66 (by kernel_rfl))) (exec_nen (p := B2.k) (q := ((B.k : Int) - (1 : Int))) rfl (hD 10 68 (by kernel_rfl)) (hD 12 70 (by kernel_rfl))) rfl) ?_
            refine fsteps_cons 15 rfl (fun a u hE hD hk => f_val (o := ⟨some 72, _, _, _, _, _⟩) (.bool (decide ((B2.k : Int) ≠ (((B.k : Int) - (1 : Int)) : Int)))) rfl (wanted_at (b := false) false rfl rfl (hD 8 66 (by kernel_rfl))) (exec_move (.tmp 71) _ rfl (hD 13 71 (by kernel_rfl))) rfl) ?_
            refine fsteps_cons 16 rfl (fun a u hE hD hk => f_if ((decide ((B2.k : Int) ≠ (((B.k : Int) - (1 : Int)) : Int)))) rfl rfl rfl (hD 14 72 (by kernel_rfl)) (fun hb => f_val (o := ⟨some 73, _, _, _, _, _⟩) (.bool false) rfl (wanted_b rfl rfl (hD 14 72 (by kernel_rfl)) (eq_true_of hb)) (exec_move (.tmp 15) _ rfl (hE 15 (.bool false) (by kernel_rfl) (by kernel_rfl))) rfl)) ?_
            refine fsteps_cons 17 rfl (fun a u hE hD hk => f_as (show (((decide ((B2.k : Int) ≠ (((B.k : Int) - (1 : Int)) : Int))) && false) : Bool) = false from Bool.and_false _) (f_val (o := ⟨some 74, _, _, _, _, _⟩) (.bool ((decide ((B2.k : Int) ≠ (((B.k : Int) - (1 : Int)) : Int))) && false)) rfl (wanted_at (b := false) false rfl rfl (hD 8 66 (by kernel_rfl))) (exec_pickand (.tmp 72) (.tmp 73) (.const (.bool false)) ((decide ((B2.k : Int) ≠ (((B.k : Int) - (1 : Int)) : Int)))) (false) rfl (hD 14 72 (by kernel_rfl)) (fun hb2 => ((hD 15 73 (by kernel_rfl)).1 hb2)) rfl) rfl)) ?_
            refine fsteps_cons 18 rfl (fun a u hE hD hk => f_val (o := ⟨some 75, _, _, _, _, _⟩) (.bool false) rfl (wanted_at (b := true) true rfl rfl (hD 3 61 (by kernel_rfl))) (exec_pickF (.tmp 66) (.const (.bool true)) (.tmp 74) (.bool false) rfl (hD 8 66 (by kernel_rfl)) (hD 16 74 (by kernel_rfl))) rfl) ?_
            refine fsteps_cons 19 rfl (fun a u hE hD hk => f_val (o := ⟨some 76, _, _, _, _, _⟩) (.bool false) rfl (wanted_at (b := true) true rfl rfl (hD 3 61 (by kernel_rfl))) (exec_move (.tmp 75) _ rfl (hD 17 75 (by kernel_rfl))) rfl) ?_
            refine fsteps_cons 20 rfl (fun a u hE hD hk => f_val (o := ⟨some 77, _, _, _, _, _⟩) (.bool false) rfl (wanted_at (b := false) false rfl rfl (hD 18 76 (by kernel_rfl))) (exec_move (.tmp 15) _ rfl (hE 15 (.bool false) (by kernel_rfl) (by kernel_rfl))) rfl) ?_
            refine fsteps_cons 21 rfl (fun a u hE hD hk => f_val (o := ⟨some 78, _, _, _, _, _⟩) (.bool true) rfl (wanted_at (b := false) false rfl rfl (hD 18 76 (by kernel_rfl))) (exec_not _ (.tmp 77) false rfl (hD 19 77 (by kernel_rfl))) rfl) ?_
            refine fsteps_cons 22 rfl (fun a u hE hD hk => f_val (o := ⟨some 79, _, _, _, _, _⟩) (.bool true) rfl (wanted_at (b := false) false rfl rfl (hD 18 76 (by kernel_rfl))) (exec_move (.tmp 78) _ rfl (hD 20 78 (by kernel_rfl))) rfl) ?_
            refine fsteps_cons 23 rfl (fun a u hE hD hk => f_val (o := ⟨some 80, _, _, _, _, _⟩) (.pointer (some ⟨g, 0, none⟩)) rfl (wanted_at (b := true) true rfl rfl (hD 21 79 (by kernel_rfl))) (exec_move (.tmp 9) _ rfl (hE 9 (.pointer (some ⟨g, 0, none⟩)) (by kernel_rfl) (by kernel_rfl))) rfl) ?_
            refine fsteps_cons 24 rfl (fun a u hE hD hk => f_call (o := ⟨some 81, _, _, _, _, _⟩) 14 #[.pointer (some ⟨g, 0, none⟩)] rfl (wanted_at (b := true) true rfl rfl (hD 21 79 (by kernel_rfl))) (exec_call 14 _ [.tmp 80] _ [.pointer (some ⟨g, 0, none⟩)] Try.func14 (by kernel_rfl) (by kernel_rfl) rfl (show [a.eval (.tmp 80)] = [.pointer (some ⟨g, 0, none⟩)] from (by rw [show a.eval (.tmp 80) = .pointer (some ⟨g, 0, none⟩) from (hD 22 80 (by kernel_rfl))] <;> rfl)) u) (left_any g B2 u (HB9.out.kept hk))) ?_
            refine fsteps_cons 25 rfl (fun a u hE hD hk => f_as (show ((decide ((B2.k : Int) ≠ (0 : Int))) : Bool) = false from decide_eq_false (by omega)) (f_val (o := ⟨some 82, _, _, _, _, _⟩) (.bool (decide ((B2.k : Int) ≠ (0 : Int)))) rfl (wanted_at (b := true) true rfl rfl (hD 21 79 (by kernel_rfl))) (exec_nen (p := B2.k) (q := 0) rfl (hD 23 81 (by kernel_rfl)) rfl) rfl)) ?_
            refine fsteps_cons 26 rfl (fun a u hE hD hk => f_val (o := ⟨some 83, _, _, _, _, _⟩) (.bool false) rfl (wanted_at (b := false) false rfl rfl (hD 18 76 (by kernel_rfl))) (exec_pick (.tmp 79) (.tmp 82) (.const (.bool false)) (.bool false) rfl (hD 21 79 (by kernel_rfl)) (hD 24 82 (by kernel_rfl))) rfl) ?_
            refine fsteps_cons 27 rfl (fun a u hE hD hk => f_val (o := ⟨some 84, _, _, _, _, _⟩) (.bool false) rfl (wanted_at (b := true) true rfl rfl (hD 3 61 (by kernel_rfl))) (exec_pickF (.tmp 76) (.const (.bool true)) (.tmp 83) (.bool false) rfl (hD 18 76 (by kernel_rfl)) (hD 25 83 (by kernel_rfl))) rfl) ?_
            refine sv 28 rfl rfl rfl (fun a u hE hD hk => exec_pick (.tmp 61) (.tmp 84) (.const (.bool false)) (.bool false) rfl (hD 3 61 (by kernel_rfl)) (hD 26 84 (by kernel_rfl))) ?_
            refine sv 29 rfl rfl rfl (fun a u hE hD hk => exec_move (.tmp 85) _ rfl (hD 27 85 (by kernel_rfl))) ?_
            refine fsteps_cons 30 rfl (fun a u hE hD hk => f_skip (o := ⟨some 87, _, _, _, _, _⟩) rfl (wanted_at (b := true) false rfl rfl (hD 28 86 (by kernel_rfl))) rfl) ?_
            refine fsteps_cons 31 rfl (fun a u hE hD hk => f_skip (o := ⟨some 88, _, _, _, _, _⟩) rfl (wanted_at (b := true) false rfl rfl (hD 28 86 (by kernel_rfl))) rfl) ?_
            refine fsteps_cons 32 rfl (fun a u hE hD hk => f_skip (o := ⟨some 89, _, _, _, _, _⟩) rfl (wanted_at (b := true) false rfl rfl (hD 28 86 (by kernel_rfl))) rfl) ?_
            refine sv 33 rfl rfl rfl (fun a u hE hD hk => exec_pickF (.tmp 86) (.tmp 89) (.const (.bool false)) (.bool false) rfl (hD 28 86 (by kernel_rfl)) rfl) ?_
            refine sv 34 rfl rfl rfl (fun a u hE hD hk => exec_move (.tmp 90) _ rfl (hD 32 90 (by kernel_rfl))) ?_
            refine fsteps_cons 35 rfl (fun a u hE hD hk => f_skip (o := ⟨some 92, _, _, _, _, _⟩) rfl (wanted_at (b := true) false rfl rfl (hD 33 91 (by kernel_rfl))) rfl) ?_
            refine fsteps_cons 36 rfl (fun a u hE hD hk => f_skip (o := ⟨some 93, _, _, _, _, _⟩) rfl (wanted_at (b := true) false rfl rfl (hD 33 91 (by kernel_rfl))) rfl) ?_
            refine fsteps_cons 37 rfl (fun a u hE hD hk => f_skip (o := ⟨some 94, _, _, _, _, _⟩) rfl (wanted_at (b := true) false rfl rfl (hD 33 91 (by kernel_rfl))) rfl) ?_
            refine fsteps_cons 38 rfl (fun a u hE hD hk => f_skip (o := ⟨some 95, _, _, _, _, _⟩) rfl (wanted_at (b := true) false rfl rfl (hD 33 91 (by kernel_rfl))) rfl) ?_
            refine fsteps_cons 39 rfl (fun a u hE hD hk => f_skip (o := ⟨some 96, _, _, _, _, _⟩) rfl (wanted_at (b := true) false rfl rfl (hD 33 91 (by kernel_rfl))) rfl) ?_
            refine sv 40 rfl rfl rfl (fun a u hE hD hk => exec_pickF (.tmp 91) (.tmp 96) (.const (.bool false)) (.bool false) rfl (hD 33 91 (by kernel_rfl)) rfl) ?_
            exact fsteps_nil
          intro gv wx hV kx
          rw [show dstsOf _ 40 = [58, 59, 60, 61, 62, 63, 64, 65, 66, 67, 68, 69, 70, 71, 72, 73, 74, 75, 76, 77, 78, 79, 80, 81, 82, 83, 84, 85, 86, 87, 88, 89, 90, 91, 92, 93, 94, 95, 96, 97] by kernel_rfl]
          simp only [List.foldl_cons, List.foldl_nil, List.setIfInBounds_toArray, List.set_cons_succ, List.set_cons_zero, List.drop_succ_cons, List.drop_zero]
          rw [show gv 97 = .bool false from hV 39 97 (by kernel_rfl)]
          clear hV
          refine wpList_nil ?_
          have HBx := Lib.hid (HB9.out.kept kx)
          have kwx := kw9.trans kx
          clear HB9 kw9 kx
          go_upto_region 14 with fail
          refine wp_text 21 [.eq (.bool false), .eq (.bool true), .eq (.bool true), .eq (.pointer (some ⟨g, 0, none⟩)), .eq (.int .i64 B2.k), .eq (.bool false), .eq (.bool false), .eq (.bool false), .eq (.bool false), .eq (.bool false), .eq undef, .eq undef, .eq undef, .eq undef, .eq undef, .eq undef, .eq undef, .eq undef, .eq undef, .eq (.bool false), .eq (.bool false)] rfl (by kernel_rfl) ?_ ?_
          · refine sv 1 rfl rfl rfl (fun a u hE hD hk => exec_move (.tmp 15) _ rfl (hE 15 (.bool false) (by kernel_rfl) (by kernel_rfl))) ?_
            refine sv 2 rfl rfl rfl (fun a u hE hD hk => exec_not _ (.tmp 98) false rfl (hD 0 98 (by kernel_rfl))) ?_
            refine sv 3 rfl rfl rfl (fun a u hE hD hk => exec_move (.tmp 99) _ rfl (hD 1 99 (by kernel_rfl))) ?_
            refine fsteps_cons 4 rfl (fun a u hE hD hk => f_val (o := ⟨some 101, _, _, _, _, _⟩) (.pointer (some ⟨g, 0, none⟩)) rfl (wanted_at (b := true) true rfl rfl (hD 2 100 (by kernel_rfl))) (exec_move (.tmp 9) _ rfl (hE 9 (.pointer (some ⟨g, 0, none⟩)) (by kernel_rfl) (by kernel_rfl))) rfl) ?_
            refine fsteps_cons 5 rfl (fun a u hE hD hk => f_call (o := ⟨some 102, _, _, _, _, _⟩) 14 #[.pointer (some ⟨g, 0, none⟩)] rfl (wanted_at (b := true) true rfl rfl (hD 2 100 (by kernel_rfl))) (exec_call 14 _ [.tmp 101] _ [.pointer (some ⟨g, 0, none⟩)] Try.func14 (by kernel_rfl) (by kernel_rfl) rfl (show [a.eval (.tmp 101)] = [.pointer (some ⟨g, 0, none⟩)] from (by rw [show a.eval (.tmp 101) = .pointer (some ⟨g, 0, none⟩) from (hD 3 101 (by kernel_rfl))] <;> rfl)) u) (left_any g B2 u (HBx.out.kept hk))) ?_
            refine fsteps_cons 6 rfl (fun a u hE hD hk => f_as (show ((decide ((B2.k : Int) ≠ (0 : Int))) : Bool) = false from decide_eq_false (by omega)) (f_val (o := ⟨some 103, _, _, _, _, _⟩) (.bool (decide ((B2.k : Int) ≠ (0 : Int)))) rfl (wanted_at (b := true) true rfl rfl (hD 2 100 (by kernel_rfl))) (exec_nen (p := B2.k) (q := 0) rfl (hD 4 102 (by kernel_rfl)) rfl) rfl)) ?_
            refine sv 7 rfl rfl rfl (fun a u hE hD hk => exec_pick (.tmp 100) (.tmp 103) (.const (.bool false)) (.bool false) rfl (hD 2 100 (by kernel_rfl)) (hD 5 103 (by kernel_rfl))) ?_
            refine sv 8 rfl rfl rfl (fun a u hE hD hk => exec_move (.tmp 104) _ rfl (hD 6 104 (by kernel_rfl))) ?_
            refine fsteps_cons 9 rfl (fun a u hE hD hk => f_val (o := ⟨some 106, _, _, _, _, _⟩) (.bool false) rfl (wanted_at (b := false) false rfl rfl (hD 7 105 (by kernel_rfl))) (exec_move (.tmp 15) _ rfl (hE 15 (.bool false) (by kernel_rfl) (by kernel_rfl))) rfl) ?_
            refine fsteps_cons 10 rfl (fun a u hE hD hk => f_val (o := ⟨some 107, _, _, _, _, _⟩) (.bool false) rfl (wanted_at (b := false) false rfl rfl (hD 7 105 (by kernel_rfl))) (exec_move (.tmp 106) _ rfl (hD 8 106 (by kernel_rfl))) rfl) ?_
            refine fsteps_cons 11 rfl (fun a u hE hD hk => f_skip (o := ⟨some 108, _, _, _, _, _⟩) rfl (wanted_at (b := true) false rfl rfl (hD 9 107 (by kernel_rfl))) rfl) ?_
            refine fsteps_cons 12 rfl (fun a u hE hD hk => f_skip (o := ⟨some 109, _, _, _, _, _⟩) rfl (wanted_at (b := true) false rfl rfl (hD 9 107 (by kernel_rfl))) rfl) ?_
            refine fsteps_cons 13 rfl (fun a u hE hD hk => f_skip (o := ⟨some 110, _, _, _, _, _⟩) rfl (wanted_at (b := true) false rfl rfl (hD 9 107 (by kernel_rfl))) rfl) ?_
            refine fsteps_cons 14 rfl (fun a u hE hD hk => f_skip (o := ⟨some 111, _, _, _, _, _⟩) rfl (wanted_at (b := true) false rfl rfl (hD 9 107 (by kernel_rfl))) rfl) ?_
            refine fsteps_cons 15 rfl (fun a u hE hD hk => f_skip (o := ⟨some 112, _, _, _, _, _⟩) rfl (wanted_undef (b := false) rfl rfl (hD 13 111 (by kernel_rfl))) rfl) ?_
            refine fsteps_cons 16 rfl (fun a u hE hD hk => f_skip (o := ⟨some 113, _, _, _, _, _⟩) rfl (wanted_undef (b := false) rfl rfl (hD 13 111 (by kernel_rfl))) rfl) ?_
            refine fsteps_cons 17 rfl (fun a u hE hD hk => f_skip (o := ⟨some 114, _, _, _, _, _⟩) rfl (wanted_undef (b := false) rfl rfl (hD 13 111 (by kernel_rfl))) rfl) ?_
            refine fsteps_cons 18 rfl (fun a u hE hD hk => f_skip (o := ⟨some 115, _, _, _, _, _⟩) rfl (wanted_undef (b := false) rfl rfl (hD 13 111 (by kernel_rfl))) rfl) ?_
            refine fsteps_cons 19 rfl (fun a u hE hD hk => f_skip (o := ⟨some 116, _, _, _, _, _⟩) rfl (wanted_at (b := true) false rfl rfl (hD 9 107 (by kernel_rfl))) rfl) ?_
            refine fsteps_cons 20 rfl (fun a u hE hD hk => f_val (o := ⟨some 117, _, _, _, _, _⟩) (.bool false) rfl (wanted_at (b := false) false rfl rfl (hD 7 105 (by kernel_rfl))) (exec_pickF (.tmp 107) (.tmp 116) (.const (.bool false)) (.bool false) rfl (hD 9 107 (by kernel_rfl)) rfl) rfl) ?_
            refine sv 21 rfl rfl rfl (fun a u hE hD hk => exec_pickF (.tmp 105) (.const (.bool true)) (.tmp 117) (.bool false) rfl (hD 7 105 (by kernel_rfl)) (hD 19 117 (by kernel_rfl))) ?_
            exact fsteps_nil
          intro gv wy hV ky
          rw [show dstsOf _ 21 = [98, 99, 100, 101, 102, 103, 104, 105, 106, 107, 108, 109, 110, 111, 112, 113, 114, 115, 116, 117, 118] by kernel_rfl]
          simp only [List.foldl_cons, List.foldl_nil, List.setIfInBounds_toArray, List.set_cons_succ, List.set_cons_zero, List.drop_succ_cons, List.drop_zero]
          rw [show gv 118 = .bool false from hV 20 118 (by kernel_rfl)]
          clear hV
          refine wpList_nil ?_
          have HBy := Lib.hid (HBx.out.kept ky)
          have kwy := kwx.trans ky
          clear HBx kwx ky
          go_upto_region 16 with fail
          refine wp_text 3 [.eq (.int .i64 la), .eq (.int .i64 nw), .eq (.int .i64 l2)] rfl (by kernel_rfl) ?_ ?_
          · refine sv 1 rfl rfl rfl (fun a u hE hD hk => exec_move (.tmp 11) _ rfl (hE 11 (.int .i64 la) (by kernel_rfl) (by kernel_rfl))) ?_
            refine sv 2 rfl rfl rfl (fun a u hE hD hk => exec_move (.tmp 13) _ rfl (hE 13 (.int .i64 nw) (by kernel_rfl) (by kernel_rfl))) ?_
            refine sv 3 rfl rfl rfl (fun a u hE hD hk => exec_maxn (.tmp 119) (.tmp 120) _ la nw l2 rfl (hD 0 119 (by kernel_rfl)) (hD 1 120 (by kernel_rfl)) HL2.out) ?_
            exact fsteps_nil
          intro gv wz hV kz
          rw [show dstsOf _ 3 = [119, 120, 121] by kernel_rfl]
          simp only [List.foldl_cons, List.foldl_nil, List.setIfInBounds_toArray, List.set_cons_succ, List.set_cons_zero, List.drop_succ_cons, List.drop_zero]
          rw [show gv 121 = .int .i64 l2 from hV 2 121 (by kernel_rfl)]
          clear hV
          refine l_val (o := ⟨some 11, _, _, _, _, _⟩) (.int .i64 l2) rfl (exec_assign (.tmp 121) (.int .i64 l2) rfl (by kernel_rfl)) ?_
          simp only [Act.put, List.setIfInBounds_toArray, List.set_cons_succ, List.set_cons_zero]
          refine wpList_nil ?_
          have HBz := Lib.hid (HBy.out.kept kz)
          have kwz := kwy.trans kz
          clear HBy kwy kz
          go_wp2
          exact ⟨⟨k + 1, l2, B2, by simp, rfl, by omega, by omega, by omega, by omega, HBz, HI2, kwz⟩, by simp [intOf]; omega⟩
        · skip
          by_cases hno : nw ≤ la
          · obtain ⟨e1, he1⟩ : ∃ e, (false != decide (0 < B.k)) = e := ⟨_, rfl⟩
            obtain ⟨d1, hd1⟩ : ∃ e, decide ((B2.k : Int) ≠ (((B.k : Int) - (1 : Int)) : Int)) = e := ⟨_, rfl⟩
            have HE := Lib.hid he1
            have HDD := Lib.hid hd1
            clear he1 hd1
            cases e1 with
            | true =>
              skip
              go_upto_region 12 with fail
              refine wp_text 40 [.eq (.int .i64 nw), .eq (.int .i64 la), .eq (.bool true), .eq (.bool true), .eq (.bool false), .eq (.int .i64 B.k), .eq (.bool (decide ((0 : Int) < (B.k : Int)))), .eq (.bool true), .eq (.bool true), .eq undef, .eq undef, .eq undef, .eq undef, .eq undef, .eq undef, .eq undef, .eq undef, .eq (.bool true), .eq (.bool true), .eq undef, .eq undef, .eq undef, .eq undef, .eq undef, .eq undef, .eq undef, .eq (.bool true), .eq (.bool true), .eq (.bool true), .eq (.int .i64 B.k), .eq (.int .i64 nb), .eq (.bool (decide ((B.k : Int) < (nb : Int)))), .eq (.bool (decide ((B.k : Int) < (nb : Int)))), .eq (.bool (decide ((B.k : Int) < (nb : Int)))), .cond (decide ((B.k : Int) < (nb : Int))) (.eq (.int .i64 nw)), .cond (decide ((B.k : Int) < (nb : Int))) (.eq (.int .i64 la)), .cond (decide ((B.k : Int) < (nb : Int))) (.eq (.int .i64 nr)), .cond (decide ((B.k : Int) < (nb : Int))) (.eq (.int .i64 ((la : Int) - (nr : Int)))), .cond (decide ((B.k : Int) < (nb : Int))) (.eq (.bool false)), .eq (.bool false)] rfl (by kernel_rfl) ?_ ?_
              · refine sv 1 rfl rfl rfl (fun a u hE hD hk => exec_move (.tmp 13) _ rfl (hE 13 (.int .i64 nw) (by kernel_rfl) (by kernel_rfl))) ?_
                refine sv 2 rfl rfl rfl (fun a u hE hD hk => exec_move (.tmp 11) _ rfl (hE 11 (.int .i64 la) (by kernel_rfl) (by kernel_rfl))) ?_
                refine fsteps_cons 3 rfl (fun a u hE hD hk => f_as (show ((decide ((nw : Int) ≤ (la : Int))) : Bool) = true from decide_eq_true hno) (f_val (o := ⟨some 60, _, _, _, _, _⟩) (.bool (decide ((nw : Int) ≤ (la : Int)))) rfl (wanted_none rfl _) (exec_len_ (p := nw) (q := la) rfl (hD 0 58 (by kernel_rfl)) (hD 1 59 (by kernel_rfl))) rfl)) ?_
                refine sv 4 rfl rfl rfl (fun a u hE hD hk => exec_move (.tmp 60) _ rfl (hD 2 60 (by kernel_rfl))) ?_
                refine fsteps_cons 5 rfl (fun a u hE hD hk => f_val (o := ⟨some 62, _, _, _, _, _⟩) (.bool false) rfl (wanted_at (b := true) true rfl rfl (hD 3 61 (by kernel_rfl))) (exec_move (.tmp 15) _ rfl (hE 15 (.bool false) (by kernel_rfl) (by kernel_rfl))) rfl) ?_
                refine fsteps_cons 6 rfl (fun a u hE hD hk => f_val (o := ⟨some 63, _, _, _, _, _⟩) (.int .i64 B.k) rfl (wanted_at (b := true) true rfl rfl (hD 3 61 (by kernel_rfl))) (exec_move (.tmp 14) _ rfl (hE 14 (.int .i64 B.k) (by kernel_rfl) (by kernel_rfl))) rfl) ?_
                refine fsteps_cons 7 rfl (fun a u hE hD hk => f_val (o := ⟨some 64, _, _, _, _, _⟩) (.bool (decide ((0 : Int) < (B.k : Int)))) rfl (wanted_at (b := true) true rfl rfl (hD 3 61 (by kernel_rfl))) (exec_gtn (p := B.k) (q := 0) rfl (hD 5 63 (by kernel_rfl)) rfl) rfl) ?_
                refine fsteps_cons 8 rfl (fun a u hE hD hk => f_val (o := ⟨some 65, _, _, _, _, _⟩) (.bool true) rfl (wanted_at (b := true) true rfl rfl (hD 3 61 (by kernel_rfl))) (exec_neb (.tmp 62) (.tmp 64) _ false (decide (0 < B.k)) true rfl (hD 4 62 (by kernel_rfl)) (hD 6 64 (by kernel_rfl)) HE.out) rfl) ?_
                refine fsteps_cons 9 rfl (fun a u hE hD hk => f_val (o := ⟨some 66, _, _, _, _, _⟩) (.bool true) rfl (wanted_at (b := true) true rfl rfl (hD 3 61 (by kernel_rfl))) (exec_move (.tmp 65) _ rfl (hD 7 65 (by kernel_rfl))) rfl) ?_
                refine fsteps_cons 10 rfl (fun a u hE hD hk => f_skip (o := ⟨some 67, _, _, _, _, _⟩) rfl (wanted_at (b := false) true rfl rfl (hD 8 66 (by kernel_rfl))) rfl) ?_
                refine fsteps_cons 11 rfl (fun a u hE hD hk => f_skip (o := ⟨some 68, _, _, _, _, _⟩) rfl (wanted_at (b := false) true rfl rfl (hD 8 66 (by kernel_rfl))) rfl) ?_
                refine fsteps_cons 12 rfl (fun a u hE hD hk => f_skip (o := ⟨some 69, _, _, _, _, _⟩) rfl (wanted_at (b := false) true rfl rfl (hD 8 66 (by kernel_rfl))) rfl) ?_
                refine fsteps_cons 13 rfl (fun a u hE hD hk => f_skip (o := ⟨some 70, _, _, _, _, _⟩) rfl (wanted_at (b := false) true rfl rfl (hD 8 66 (by kernel_rfl))) rfl) ?_
                refine fsteps_cons 14 rfl (fun a u hE hD hk => f_skip (o := ⟨some 71, _, _, _, _, _⟩) rfl (wanted_at (b := false) true rfl rfl (hD 8 66 (by kernel_rfl))) rfl) ?_
                refine fsteps_cons 15 rfl (fun a u hE hD hk => f_skip (o := ⟨some 72, _, _, _, _, _⟩) rfl (wanted_at (b := false) true rfl rfl (hD 8 66 (by kernel_rfl))) rfl) ?_
                refine fsteps_cons 16 rfl (fun a u hE hD hk => f_skip (o := ⟨some 73, _, _, _, _, _⟩) rfl (wanted_undef (b := true) rfl rfl (hD 14 72 (by kernel_rfl))) rfl) ?_
                refine fsteps_cons 17 rfl (fun a u hE hD hk => f_skip (o := ⟨some 74, _, _, _, _, _⟩) rfl (wanted_at (b := false) true rfl rfl (hD 8 66 (by kernel_rfl))) rfl) ?_
                refine fsteps_cons 18 rfl (fun a u hE hD hk => f_val (o := ⟨some 75, _, _, _, _, _⟩) (.bool true) rfl (wanted_at (b := true) true rfl rfl (hD 3 61 (by kernel_rfl))) (exec_pick (.tmp 66) (.const (.bool true)) (.tmp 74) (.bool true) rfl (hD 8 66 (by kernel_rfl)) rfl) rfl) ?_
                refine fsteps_cons 19 rfl (fun a u hE hD hk => f_val (o := ⟨some 76, _, _, _, _, _⟩) (.bool true) rfl (wanted_at (b := true) true rfl rfl (hD 3 61 (by kernel_rfl))) (exec_move (.tmp 75) _ rfl (hD 17 75 (by kernel_rfl))) rfl) ?_
                refine fsteps_cons 20 rfl (fun a u hE hD hk => f_skip (o := ⟨some 77, _, _, _, _, _⟩) rfl (wanted_at (b := false) true rfl rfl (hD 18 76 (by kernel_rfl))) rfl) ?_
                refine fsteps_cons 21 rfl (fun a u hE hD hk => f_skip (o := ⟨some 78, _, _, _, _, _⟩) rfl (wanted_at (b := false) true rfl rfl (hD 18 76 (by kernel_rfl))) rfl) ?_
                refine fsteps_cons 22 rfl (fun a u hE hD hk => f_skip (o := ⟨some 79, _, _, _, _, _⟩) rfl (wanted_at (b := false) true rfl rfl (hD 18 76 (by kernel_rfl))) rfl) ?_
                refine fsteps_cons 23 rfl (fun a u hE hD hk => f_skip (o := ⟨some 80, _, _, _, _, _⟩) rfl (wanted_undef (b := true) rfl rfl (hD 21 79 (by kernel_rfl))) rfl) ?_
                refine fsteps_cons 24 rfl (fun a u hE hD hk => f_skip (o := ⟨some 81, _, _, _, _, _⟩) rfl (wanted_undef (b := true) rfl rfl (hD 21 79 (by kernel_rfl))) rfl) ?_
                refine fsteps_cons 25 rfl (fun a u hE hD hk => f_skip (o := ⟨some 82, _, _, _, _, _⟩) rfl (wanted_undef (b := true) rfl rfl (hD 21 79 (by kernel_rfl))) rfl) ?_
                refine fsteps_cons 26 rfl (fun a u hE hD hk => f_skip (o := ⟨some 83, _, _, _, _, _⟩) rfl (wanted_at (b := false) true rfl rfl (hD 18 76 (by kernel_rfl))) rfl) ?_
                refine fsteps_cons 27 rfl (fun a u hE hD hk => f_val (o := ⟨some 84, _, _, _, _, _⟩) (.bool true) rfl (wanted_at (b := true) true rfl rfl (hD 3 61 (by kernel_rfl))) (exec_pick (.tmp 76) (.const (.bool true)) (.tmp 83) (.bool true) rfl (hD 18 76 (by kernel_rfl)) rfl) rfl) ?_
                refine sv 28 rfl rfl rfl (fun a u hE hD hk => exec_pick (.tmp 61) (.tmp 84) (.const (.bool false)) (.bool true) rfl (hD 3 61 (by kernel_rfl)) (hD 26 84 (by kernel_rfl))) ?_
                refine sv 29 rfl rfl rfl (fun a u hE hD hk => exec_move (.tmp 85) _ rfl (hD 27 85 (by kernel_rfl))) ?_
                refine fsteps_cons 30 rfl (fun a u hE hD hk => f_val (o := ⟨some 87, _, _, _, _, _⟩) (.int .i64 B.k) rfl (wanted_at (b := true) true rfl rfl (hD 28 86 (by kernel_rfl))) (exec_move (.tmp 14) _ rfl (hE 14 (.int .i64 B.k) (by kernel_rfl) (by kernel_rfl))) rfl) ?_
                refine fsteps_cons 31 rfl (fun a u hE hD hk => f_val (o := ⟨some 88, _, _, _, _, _⟩) (.int .i64 nb) rfl (wanted_at (b := true) true rfl rfl (hD 28 86 (by kernel_rfl))) (exec_move (.tmp 7) _ rfl (hE 7 (.int .i64 nb) (by kernel_rfl) (by kernel_rfl))) rfl) ?_
                refine fsteps_cons 32 rfl (fun a u hE hD hk => f_val (o := ⟨some 89, _, _, _, _, _⟩) (.bool (decide ((B.k : Int) < (nb : Int)))) rfl (wanted_at (b := true) true rfl rfl (hD 28 86 (by kernel_rfl))) (exec_ltn (p := B.k) (q := nb) rfl (hD 29 87 (by kernel_rfl)) (hD 30 88 (by kernel_rfl))) rfl) ?_
                refine sv 33 rfl rfl rfl (fun a u hE hD hk => exec_pick (.tmp 86) (.tmp 89) (.const (.bool false)) (.bool (decide ((B.k : Int) < (nb : Int)))) rfl (hD 28 86 (by kernel_rfl)) (hD 31 89 (by kernel_rfl))) ?_
                refine sv 34 rfl rfl rfl (fun a u hE hD hk => exec_move (.tmp 90) _ rfl (hD 32 90 (by kernel_rfl))) ?_
                refine fsteps_cons 35 rfl (fun a u hE hD hk => f_if ((decide ((B.k : Int) < (nb : Int)))) rfl rfl rfl (hD 33 91 (by kernel_rfl)) (fun hb => f_val (o := ⟨some 92, _, _, _, _, _⟩) (.int .i64 nw) rfl (wanted_b rfl rfl (hD 33 91 (by kernel_rfl)) (eq_true_of hb)) (exec_move (.tmp 13) _ rfl (hE 13 (.int .i64 nw) (by kernel_rfl) (by kernel_rfl))) rfl)) ?_
                refine fsteps_cons 36 rfl (fun a u hE hD hk => f_if ((decide ((B.k : Int) < (nb : Int)))) rfl rfl rfl (hD 33 91 (by kernel_rfl)) (fun hb => f_val (o := ⟨some 93, _, _, _, _, _⟩) (.int .i64 la) rfl (wanted_b rfl rfl (hD 33 91 (by kernel_rfl)) (eq_true_of hb)) (exec_move (.tmp 11) _ rfl (hE 11 (.int .i64 la) (by kernel_rfl) (by kernel_rfl))) rfl)) ?_
                refine fsteps_cons 37 rfl (fun a u hE hD hk => f_if ((decide ((B.k : Int) < (nb : Int)))) rfl rfl rfl (hD 33 91 (by kernel_rfl)) (fun hb => f_val (o := ⟨some 94, _, _, _, _, _⟩) (.int .i64 nr) rfl (wanted_b rfl rfl (hD 33 91 (by kernel_rfl)) (eq_true_of hb)) (exec_move (.tmp 8) _ rfl (hE 8 (.int .i64 nr) (by kernel_rfl) (by kernel_rfl))) rfl)) ?_
                refine fsteps_cons 38 rfl (fun a u hE hD hk => f_if ((decide ((B.k : Int) < (nb : Int)))) rfl rfl rfl (hD 33 91 (by kernel_rfl)) (fun hb => f_val (o := ⟨some 95, _, _, _, _, _⟩) (.int .i64 ((la : Int) - (nr : Int))) rfl (wanted_b rfl rfl (hD 33 91 (by kernel_rfl)) (eq_true_of hb)) (exec_subn (p := (la)) (q := (nr)) ((la : Int) - (nr : Int)) rfl ((hD 35 93 (by kernel_rfl)).1 hb) ((hD 36 94 (by kernel_rfl)).1 hb) rfl (by omega) (by omega)) rfl)) ?_
                refine fsteps_cons 39 rfl (fun a u hE hD hk => f_if ((decide ((B.k : Int) < (nb : Int)))) rfl rfl rfl (hD 33 91 (by kernel_rfl)) (fun hb => f_as (show ((decide ((nw : Int) < (((la : Int) - (nr : Int)) : Int))) : Bool) = false from decide_eq_false hback) (f_val (o := ⟨some 96, _, _, _, _, _⟩) (.bool (decide ((nw : Int) < (((la : Int) - (nr : Int)) : Int)))) rfl (wanted_b rfl rfl (hD 33 91 (by kernel_rfl)) (eq_true_of hb)) (exec_ltn (p := nw) (q := ((la : Int) - (nr : Int))) rfl ((hD 34 92 (by kernel_rfl)).1 hb) ((hD 37 95 (by kernel_rfl)).1 hb)) rfl))) ?_
                refine fsteps_cons 40 rfl (fun a u hE hD hk => f_as (show (((decide ((B.k : Int) < (nb : Int))) && false) : Bool) = false from Bool.and_false _) (f_val (o := ⟨some 97, _, _, _, _, _⟩) (.bool ((decide ((B.k : Int) < (nb : Int))) && false)) rfl (wanted_none rfl _) (exec_pickand (.tmp 91) (.tmp 96) (.const (.bool false)) ((decide ((B.k : Int) < (nb : Int)))) (false) rfl (hD 33 91 (by kernel_rfl)) (fun hb2 => ((hD 38 96 (by kernel_rfl)).1 hb2)) rfl) rfl)) ?_
                exact fsteps_nil
              intro gv wx hV kx
              rw [show dstsOf _ 40 = [58, 59, 60, 61, 62, 63, 64, 65, 66, 67, 68, 69, 70, 71, 72, 73, 74, 75, 76, 77, 78, 79, 80, 81, 82, 83, 84, 85, 86, 87, 88, 89, 90, 91, 92, 93, 94, 95, 96, 97] by kernel_rfl]
              simp only [List.foldl_cons, List.foldl_nil, List.setIfInBounds_toArray, List.set_cons_succ, List.set_cons_zero, List.drop_succ_cons, List.drop_zero]
              rw [show gv 97 = .bool false from hV 39 97 (by kernel_rfl)]
              clear hV
              refine wpList_nil ?_
              have HBx := Lib.hid (HB9.out.kept kx)
              have kwx := kw9.trans kx
              clear HB9 kw9 kx
              go_upto_region 14 with fail
              refine wp_text 21 [.eq (.bool false), .eq (.bool true), .eq (.bool true), .eq (.pointer (some ⟨g, 0, none⟩)), .eq (.int .i64 B2.k), .eq (.bool false), .eq (.bool false), .eq (.bool false), .eq (.bool false), .eq (.bool false), .eq undef, .eq undef, .eq undef, .eq undef, .eq undef, .eq undef, .eq undef, .eq undef, .eq undef, .eq (.bool false), .eq (.bool false)] rfl (by kernel_rfl) ?_ ?_
              · refine sv 1 rfl rfl rfl (fun a u hE hD hk => exec_move (.tmp 15) _ rfl (hE 15 (.bool false) (by kernel_rfl) (by kernel_rfl))) ?_
                refine sv 2 rfl rfl rfl (fun a u hE hD hk => exec_not _ (.tmp 98) false rfl (hD 0 98 (by kernel_rfl))) ?_
                refine sv 3 rfl rfl rfl (fun a u hE hD hk => exec_move (.tmp 99) _ rfl (hD 1 99 (by kernel_rfl))) ?_
                refine fsteps_cons 4 rfl (fun a u hE hD hk => f_val (o := ⟨some 101, _, _, _, _, _⟩) (.pointer (some ⟨g, 0, none⟩)) rfl (wanted_at (b := true) true rfl rfl (hD 2 100 (by kernel_rfl))) (exec_move (.tmp 9) _ rfl (hE 9 (.pointer (some ⟨g, 0, none⟩)) (by kernel_rfl) (by kernel_rfl))) rfl) ?_
                refine fsteps_cons 5 rfl (fun a u hE hD hk => f_call (o := ⟨some 102, _, _, _, _, _⟩) 14 #[.pointer (some ⟨g, 0, none⟩)] rfl (wanted_at (b := true) true rfl rfl (hD 2 100 (by kernel_rfl))) (exec_call 14 _ [.tmp 101] _ [.pointer (some ⟨g, 0, none⟩)] Try.func14 (by kernel_rfl) (by kernel_rfl) rfl (show [a.eval (.tmp 101)] = [.pointer (some ⟨g, 0, none⟩)] from (by rw [show a.eval (.tmp 101) = .pointer (some ⟨g, 0, none⟩) from (hD 3 101 (by kernel_rfl))] <;> rfl)) u) (left_any g B2 u (HBx.out.kept hk))) ?_
                refine fsteps_cons 6 rfl (fun a u hE hD hk => f_as (show ((decide ((B2.k : Int) ≠ (0 : Int))) : Bool) = false from decide_eq_false (by omega)) (f_val (o := ⟨some 103, _, _, _, _, _⟩) (.bool (decide ((B2.k : Int) ≠ (0 : Int)))) rfl (wanted_at (b := true) true rfl rfl (hD 2 100 (by kernel_rfl))) (exec_nen (p := B2.k) (q := 0) rfl (hD 4 102 (by kernel_rfl)) rfl) rfl)) ?_
                refine sv 7 rfl rfl rfl (fun a u hE hD hk => exec_pick (.tmp 100) (.tmp 103) (.const (.bool false)) (.bool false) rfl (hD 2 100 (by kernel_rfl)) (hD 5 103 (by kernel_rfl))) ?_
                refine sv 8 rfl rfl rfl (fun a u hE hD hk => exec_move (.tmp 104) _ rfl (hD 6 104 (by kernel_rfl))) ?_
                refine fsteps_cons 9 rfl (fun a u hE hD hk => f_val (o := ⟨some 106, _, _, _, _, _⟩) (.bool false) rfl (wanted_at (b := false) false rfl rfl (hD 7 105 (by kernel_rfl))) (exec_move (.tmp 15) _ rfl (hE 15 (.bool false) (by kernel_rfl) (by kernel_rfl))) rfl) ?_
                refine fsteps_cons 10 rfl (fun a u hE hD hk => f_val (o := ⟨some 107, _, _, _, _, _⟩) (.bool false) rfl (wanted_at (b := false) false rfl rfl (hD 7 105 (by kernel_rfl))) (exec_move (.tmp 106) _ rfl (hD 8 106 (by kernel_rfl))) rfl) ?_
                refine fsteps_cons 11 rfl (fun a u hE hD hk => f_skip (o := ⟨some 108, _, _, _, _, _⟩) rfl (wanted_at (b := true) false rfl rfl (hD 9 107 (by kernel_rfl))) rfl) ?_
                refine fsteps_cons 12 rfl (fun a u hE hD hk => f_skip (o := ⟨some 109, _, _, _, _, _⟩) rfl (wanted_at (b := true) false rfl rfl (hD 9 107 (by kernel_rfl))) rfl) ?_
                refine fsteps_cons 13 rfl (fun a u hE hD hk => f_skip (o := ⟨some 110, _, _, _, _, _⟩) rfl (wanted_at (b := true) false rfl rfl (hD 9 107 (by kernel_rfl))) rfl) ?_
                refine fsteps_cons 14 rfl (fun a u hE hD hk => f_skip (o := ⟨some 111, _, _, _, _, _⟩) rfl (wanted_at (b := true) false rfl rfl (hD 9 107 (by kernel_rfl))) rfl) ?_
                refine fsteps_cons 15 rfl (fun a u hE hD hk => f_skip (o := ⟨some 112, _, _, _, _, _⟩) rfl (wanted_undef (b := false) rfl rfl (hD 13 111 (by kernel_rfl))) rfl) ?_
                refine fsteps_cons 16 rfl (fun a u hE hD hk => f_skip (o := ⟨some 113, _, _, _, _, _⟩) rfl (wanted_undef (b := false) rfl rfl (hD 13 111 (by kernel_rfl))) rfl) ?_
                refine fsteps_cons 17 rfl (fun a u hE hD hk => f_skip (o := ⟨some 114, _, _, _, _, _⟩) rfl (wanted_undef (b := false) rfl rfl (hD 13 111 (by kernel_rfl))) rfl) ?_
                refine fsteps_cons 18 rfl (fun a u hE hD hk => f_skip (o := ⟨some 115, _, _, _, _, _⟩) rfl (wanted_undef (b := false) rfl rfl (hD 13 111 (by kernel_rfl))) rfl) ?_
                refine fsteps_cons 19 rfl (fun a u hE hD hk => f_skip (o := ⟨some 116, _, _, _, _, _⟩) rfl (wanted_at (b := true) false rfl rfl (hD 9 107 (by kernel_rfl))) rfl) ?_
                refine fsteps_cons 20 rfl (fun a u hE hD hk => f_val (o := ⟨some 117, _, _, _, _, _⟩) (.bool false) rfl (wanted_at (b := false) false rfl rfl (hD 7 105 (by kernel_rfl))) (exec_pickF (.tmp 107) (.tmp 116) (.const (.bool false)) (.bool false) rfl (hD 9 107 (by kernel_rfl)) rfl) rfl) ?_
                refine sv 21 rfl rfl rfl (fun a u hE hD hk => exec_pickF (.tmp 105) (.const (.bool true)) (.tmp 117) (.bool false) rfl (hD 7 105 (by kernel_rfl)) (hD 19 117 (by kernel_rfl))) ?_
                exact fsteps_nil
              intro gv wy hV ky
              rw [show dstsOf _ 21 = [98, 99, 100, 101, 102, 103, 104, 105, 106, 107, 108, 109, 110, 111, 112, 113, 114, 115, 116, 117, 118] by kernel_rfl]
              simp only [List.foldl_cons, List.foldl_nil, List.setIfInBounds_toArray, List.set_cons_succ, List.set_cons_zero, List.drop_succ_cons, List.drop_zero]
              rw [show gv 118 = .bool false from hV 20 118 (by kernel_rfl)]
              clear hV
              refine wpList_nil ?_
              have HBy := Lib.hid (HBx.out.kept ky)
              have kwy := kwx.trans ky
              clear HBx kwx ky
              go_upto_region 16 with fail
              refine wp_text 3 [.eq (.int .i64 la), .eq (.int .i64 nw), .eq (.int .i64 l2)] rfl (by kernel_rfl) ?_ ?_
              · refine sv 1 rfl rfl rfl (fun a u hE hD hk => exec_move (.tmp 11) _ rfl (hE 11 (.int .i64 la) (by kernel_rfl) (by kernel_rfl))) ?_
                refine sv 2 rfl rfl rfl (fun a u hE hD hk => exec_move (.tmp 13) _ rfl (hE 13 (.int .i64 nw) (by kernel_rfl) (by kernel_rfl))) ?_
                refine sv 3 rfl rfl rfl (fun a u hE hD hk => exec_maxn (.tmp 119) (.tmp 120) _ la nw l2 rfl (hD 0 119 (by kernel_rfl)) (hD 1 120 (by kernel_rfl)) HL2.out) ?_
                exact fsteps_nil
              intro gv wz hV kz
              rw [show dstsOf _ 3 = [119, 120, 121] by kernel_rfl]
              simp only [List.foldl_cons, List.foldl_nil, List.setIfInBounds_toArray, List.set_cons_succ, List.set_cons_zero, List.drop_succ_cons, List.drop_zero]
              rw [show gv 121 = .int .i64 l2 from hV 2 121 (by kernel_rfl)]
              clear hV
              refine l_val (o := ⟨some 11, _, _, _, _, _⟩) (.int .i64 l2) rfl (exec_assign (.tmp 121) (.int .i64 l2) rfl (by kernel_rfl)) ?_
              simp only [Act.put, List.setIfInBounds_toArray, List.set_cons_succ, List.set_cons_zero]
              refine wpList_nil ?_
              have HBz := Lib.hid (HBy.out.kept kz)
              have kwz := kwy.trans kz
              clear HBy kwy kz
              go_wp2
              exact ⟨⟨k + 1, l2, B2, by simp, rfl, by omega, by omega, by omega, by omega, HBz, HI2, kwz⟩, by simp [intOf]; omega⟩
            | false =>
              cases d1 with
              | true =>
                skip
                go_upto_region 12 with fail
                refine wp_text 40 [.eq (.int .i64 nw), .eq (.int .i64 la), .eq (.bool true), .eq (.bool true), .eq (.bool false), .eq (.int .i64 B.k), .eq (.bool (decide ((0 : Int) < (B.k : Int)))), .eq (.bool false), .eq (.bool false), .eq (.pointer (some ⟨g, 0, none⟩)), .eq (.int .i64 B2.k), .eq (.int .i64 B.k), .eq (.int .i64 ((B.k : Int) - (1 : Int))), .eq (.bool true), .eq (.bool true), .eq (.bool false), .eq (.bool false), .eq (.bool false), .eq (.bool false), .eq (.bool false), .eq (.bool true), .eq (.bool true), .eq (.pointer (some ⟨g, 0, none⟩)), .eq (.int .i64 B2.k), .eq (.bool false), .eq (.bool false), .eq (.bool false), .eq (.bool false), .eq (.bool false), .eq undef, .eq undef, .eq undef, .eq (.bool false), .eq (.bool false), .eq undef, .eq undef, .eq undef, .eq undef, .eq undef, .eq (.bool false)] rfl (by kernel_rfl) ?_ ?_
                · refine sv 1 rfl rfl rfl (fun a u hE hD hk => exec_move (.tmp 13) _ rfl (hE 13 (.int .i64 nw) (by kernel_rfl) (by kernel_rfl))) ?_
                  refine sv 2 rfl rfl rfl (fun a u hE hD hk => exec_move (.tmp 11) _ rfl (hE 11 (.int .i64 la) (by kernel_rfl) (by kernel_rfl))) ?_
                  refine fsteps_cons 3 rfl (fun a u hE hD hk => f_as (show ((decide ((nw : Int) ≤ (la : Int))) : Bool) = true from decide_eq_true hno) (f_val (o := ⟨some 60, _, _, _, _, _⟩) (.bool (decide ((nw : Int) ≤ (la : Int)))) rfl (wanted_none rfl _) (exec_len_ (p := nw) (q := la) rfl (hD 0 58 (by kernel_rfl)) (hD 1 59 (by kernel_rfl))) rfl)) ?_
                  refine sv 4 rfl rfl rfl (fun a u hE hD hk => exec_move (.tmp 60) _ rfl (hD 2 60 (by kernel_rfl))) ?_
                  refine fsteps_cons 5 rfl (fun a u hE hD hk => f_val (o := ⟨some 62, _, _, _, _, _⟩) (.bool false) rfl (wanted_at (b := true) true rfl rfl (hD 3 61 (by kernel_rfl))) (exec_move (.tmp 15) _ rfl (hE 15 (.bool false) (by kernel_rfl) (by kernel_rfl))) rfl) ?_
                  refine fsteps_cons 6 rfl (fun a u hE hD hk => f_val (o := ⟨some 63, _, _, _, _, _⟩) (.int .i64 B.k) rfl (wanted_at (b := true) true rfl rfl (hD 3 61 (by kernel_rfl))) (exec_move (.tmp 14) _ rfl (hE 14 (.int .i64 B.k) (by kernel_rfl) (by kernel_rfl))) rfl) ?_
                  refine fsteps_cons 7 rfl (fun a u hE hD hk => f_val (o := ⟨some 64, _, _, _, _, _⟩) (.bool (decide ((0 : Int) < (B.k : Int)))) rfl (wanted_at (b := true) true rfl rfl (hD 3 61 (by kernel_rfl))) (exec_gtn (p := B.k) (q := 0) rfl (hD 5 63 (by kernel_rfl)) rfl) rfl) ?_
                  refine fsteps_cons 8 rfl (fun a u hE hD hk => f_val (o := ⟨some 65, _, _, _, _, _⟩) (.bool false) rfl (wanted_at (b := true) true rfl rfl (hD 3 61 (by kernel_rfl))) (exec_neb (.tmp 62) (.tmp 64) _ false (decide (0 < B.k)) false rfl (hD 4 62 (by kernel_rfl)) (hD 6 64 (by kernel_rfl)) HE.out) rfl) ?_
                  refine fsteps_cons 9 rfl (fun a u hE hD hk => f_val (o := ⟨some 66, _, _, _, _, _⟩) (.bool false) rfl (wanted_at (b := true) true rfl rfl (hD 3 61 (by kernel_rfl))) (exec_move (.tmp 65) _ rfl (hD 7 65 (by kernel_rfl))) rfl) ?_
                  refine fsteps_cons 10 rfl (fun a u hE hD hk => f_val (o := ⟨some 67, _, _, _, _, _⟩) (.pointer (some ⟨g, 0, none⟩)) rfl (wanted_at (b := false) false rfl rfl (hD 8 66 (by kernel_rfl))) (exec_move (.tmp 9) _ rfl (hE 9 (.pointer (some ⟨g, 0, none⟩)) (by kernel_rfl) (by kernel_rfl))) rfl) ?_
                  refine fsteps_cons 11 rfl (fun a u hE hD hk => f_call (o := ⟨some 68, _, _, _, _, _⟩) 14 #[.pointer (some ⟨g, 0, none⟩)] rfl (wanted_at (b := false) false rfl rfl (hD 8 66 (by kernel_rfl))) (exec_call 14 _ [.tmp 67] _ [.pointer (some ⟨g, 0, none⟩)] Try.func14 (by kernel_rfl) (by kernel_rfl) rfl (show [a.eval (.tmp 67)] = [.pointer (some ⟨g, 0, none⟩)] from (by rw [show a.eval (.tmp 67) = .pointer (some ⟨g, 0, none⟩) from (hD 9 67 (by kernel_rfl))] <;> rfl)) u) (left_any g B2 u (HB9.out.kept hk))) ?_
                  refine fsteps_cons 12 rfl (fun a u hE hD hk => f_val (o := ⟨some 69, _, _, _, _, _⟩) (.int .i64 B.k) rfl (wanted_at (b := false) false rfl rfl (hD 8 66 (by kernel_rfl))) (exec_move (.tmp 14) _ rfl (hE 14 (.int .i64 B.k) (by kernel_rfl) (by kernel_rfl))) rfl) ?_
                  refine fsteps_cons 13 rfl (fun a u hE hD hk => f_val (o := ⟨some 70, _, _, _, _, _⟩) (.int .i64 ((B.k : Int) - (1 : Int))) rfl (wanted_at (b := false) false rfl rfl (hD 8 66 (by kernel_rfl))) (exec_subn (p := (B.k)) (q := (1)) ((B.k : Int) - (1 : Int)) rfl (hD 11 69 (by kernel_rfl)) rfl rfl (by omega) (by omega)) rfl) ?_
                  refine fsteps_cons 14 rfl (fun a u hE hD hk => f_as (show ((decide ((B2.k : Int) ≠ (((B.k : Int) - (1 : Int)) : Int))) : Bool) = true from HDD.out) (f_val (o := ⟨some 71, _, _, _, _, _⟩) (.bool (decide ((B2.k : Int) ≠ (((B.k : Int) - (1 : Int)) : Int)))) rfl (wanted_at (b := false) false rfl rfl (hD 8 66 (by kernel_rfl))) (exec_nen (p := B2.k) (q := ((B.k : Int) - (1 : Int))) rfl (hD 10 68 (by kernel_rfl)) (hD 12 70 (by kernel_rfl))) rfl)) ?_
                  refine fsteps_cons 15 rfl (fun a u hE hD hk => f_val (o := ⟨some 72, _, _, _, _, _⟩) (.bool true) rfl (wanted_at (b := false) false rfl rfl (hD 8 66 (by kernel_rfl))) (exec_move (.tmp 71) _ rfl (hD 13 71 (by kernel_rfl))) rfl) ?_
                  refine fsteps_cons 16 rfl (fun a u hE hD hk => f_val (o := ⟨some 73, _, _, _, _, _⟩) (.bool false) rfl (wanted_at (b := true) true rfl rfl (hD 14 72 (by kernel_rfl))) (exec_move (.tmp 15) _ rfl (hE 15 (.bool false) (by kernel_rfl) (by kernel_rfl))) rfl) ?_
                  refine fsteps_cons 17 rfl (fun a u hE hD hk => f_val (o := ⟨some 74, _, _, _, _, _⟩) (.bool false) rfl (wanted_at (b := false) false rfl rfl (hD 8 66 (by kernel_rfl))) (exec_pick (.tmp 72) (.tmp 73) (.const (.bool false)) (.bool false) rfl (hD 14 72 (by kernel_rfl)) (hD 15 73 (by kernel_rfl))) rfl) ?_
                  refine fsteps_cons 18 rfl (fun a u hE hD hk => f_val (o := ⟨some 75, _, _, _, _, _⟩) (.bool false) rfl (wanted_at (b := true) true rfl rfl (hD 3 61 (by kernel_rfl))) (exec_pickF (.tmp 66) (.const (.bool true)) (.tmp 74) (.bool false) rfl (hD 8 66 (by kernel_rfl)) (hD 16 74 (by kernel_rfl))) rfl) ?_
                  refine fsteps_cons 19 rfl (fun a u hE hD hk => f_val (o := ⟨some 76, _, _, _, _, _⟩) (.bool false) rfl (wanted_at (b := true) true rfl rfl (hD 3 61 (by kernel_rfl))) (exec_move (.tmp 75) _ rfl (hD 17 75 (by kernel_rfl))) rfl) ?_
                  refine fsteps_cons 20 rfl (fun a u hE hD hk => f_val (o := ⟨some 77, _, _, _, _, _⟩) (.bool false) rfl (wanted_at (b := false) false rfl rfl (hD 18 76 (by kernel_rfl))) (exec_move (.tmp 15) _ rfl (hE 15 (.bool false) (by kernel_rfl) (by kernel_rfl))) rfl) ?_
                  refine fsteps_cons 21 rfl (fun a u hE hD hk => f_val (o := ⟨some 78, _, _, _, _, _⟩) (.bool true) rfl (wanted_at (b := false) false rfl rfl (hD 18 76 (by kernel_rfl))) (exec_not _ (.tmp 77) false rfl (hD 19 77 (by kernel_rfl))) rfl) ?_
                  refine fsteps_cons 22 rfl (fun a u hE hD hk => f_val (o := ⟨some 79, _, _, _, _, _⟩) (.bool true) rfl (wanted_at (b := false) false rfl rfl (hD 18 76 (by kernel_rfl))) (exec_move (.tmp 78) _ rfl (hD 20 78 (by kernel_rfl))) rfl) ?_
                  refine fsteps_cons 23 rfl (fun a u hE hD hk => f_val (o := ⟨some 80, _, _, _, _, _⟩) (.pointer (some ⟨g, 0, none⟩)) rfl (wanted_at (b := true) true rfl rfl (hD 21 79 (by kernel_rfl))) (exec_move (.tmp 9) _ rfl (hE 9 (.pointer (some ⟨g, 0, none⟩)) (by kernel_rfl) (by kernel_rfl))) rfl) ?_
                  refine fsteps_cons 24 rfl (fun a u hE hD hk => f_call (o := ⟨some 81, _, _, _, _, _⟩) 14 #[.pointer (some ⟨g, 0, none⟩)] rfl (wanted_at (b := true) true rfl rfl (hD 21 79 (by kernel_rfl))) (exec_call 14 _ [.tmp 80] _ [.pointer (some ⟨g, 0, none⟩)] Try.func14 (by kernel_rfl) (by kernel_rfl) rfl (show [a.eval (.tmp 80)] = [.pointer (some ⟨g, 0, none⟩)] from (by rw [show a.eval (.tmp 80) = .pointer (some ⟨g, 0, none⟩) from (hD 22 80 (by kernel_rfl))] <;> rfl)) u) (left_any g B2 u (HB9.out.kept hk))) ?_
                  refine fsteps_cons 25 rfl (fun a u hE hD hk => f_as (show ((decide ((B2.k : Int) ≠ (0 : Int))) : Bool) = false from decide_eq_false (by omega)) (f_val (o := ⟨some 82, _, _, _, _, _⟩) (.bool (decide ((B2.k : Int) ≠ (0 : Int)))) rfl (wanted_at (b := true) true rfl rfl (hD 21 79 (by kernel_rfl))) (exec_nen (p := B2.k) (q := 0) rfl (hD 23 81 (by kernel_rfl)) rfl) rfl)) ?_
                  refine fsteps_cons 26 rfl (fun a u hE hD hk => f_val (o := ⟨some 83, _, _, _, _, _⟩) (.bool false) rfl (wanted_at (b := false) false rfl rfl (hD 18 76 (by kernel_rfl))) (exec_pick (.tmp 79) (.tmp 82) (.const (.bool false)) (.bool false) rfl (hD 21 79 (by kernel_rfl)) (hD 24 82 (by kernel_rfl))) rfl) ?_
                  refine fsteps_cons 27 rfl (fun a u hE hD hk => f_val (o := ⟨some 84, _, _, _, _, _⟩) (.bool false) rfl (wanted_at (b := true) true rfl rfl (hD 3 61 (by kernel_rfl))) (exec_pickF (.tmp 76) (.const (.bool true)) (.tmp 83) (.bool false) rfl (hD 18 76 (by kernel_rfl)) (hD 25 83 (by kernel_rfl))) rfl) ?_
                  refine sv 28 rfl rfl rfl (fun a u hE hD hk => exec_pick (.tmp 61) (.tmp 84) (.const (.bool false)) (.bool false) rfl (hD 3 61 (by kernel_rfl)) (hD 26 84 (by kernel_rfl))) ?_
                  refine sv 29 rfl rfl rfl (fun a u hE hD hk => exec_move (.tmp 85) _ rfl (hD 27 85 (by kernel_rfl))) ?_
                  refine fsteps_cons 30 rfl (fun a u hE hD hk => f_skip (o := ⟨some 87, _, _, _, _, _⟩) rfl (wanted_at (b := true) false rfl rfl (hD 28 86 (by kernel_rfl))) rfl) ?_
                  refine fsteps_cons 31 rfl (fun a u hE hD hk => f_skip (o := ⟨some 88, _, _, _, _, _⟩) rfl (wanted_at (b := true) false rfl rfl (hD 28 86 (by kernel_rfl))) rfl) ?_
                  refine fsteps_cons 32 rfl (fun a u hE hD hk => f_skip (o := ⟨some 89, _, _, _, _, _⟩) rfl (wanted_at (b := true) false rfl rfl (hD 28 86 (by kernel_rfl))) rfl) ?_
                  refine sv 33 rfl rfl rfl (fun a u hE hD hk => exec_pickF (.tmp 86) (.tmp 89) (.const (.bool false)) (.bool false) rfl (hD 28 86 (by kernel_rfl)) rfl) ?_
                  refine sv 34 rfl rfl rfl (fun a u hE hD hk => exec_move (.tmp 90) _ rfl (hD 32 90 (by kernel_rfl))) ?_
                  refine fsteps_cons 35 rfl (fun a u hE hD hk => f_skip (o := ⟨some 92, _, _, _, _, _⟩) rfl (wanted_at (b := true) false rfl rfl (hD 33 91 (by kernel_rfl))) rfl) ?_
                  refine fsteps_cons 36 rfl (fun a u hE hD hk => f_skip (o := ⟨some 93, _, _, _, _, _⟩) rfl (wanted_at (b := true) false rfl rfl (hD 33 91 (by kernel_rfl))) rfl) ?_
                  refine fsteps_cons 37 rfl (fun a u hE hD hk => f_skip (o := ⟨some 94, _, _, _, _, _⟩) rfl (wanted_at (b := true) false rfl rfl (hD 33 91 (by kernel_rfl))) rfl) ?_
                  refine fsteps_cons 38 rfl (fun a u hE hD hk => f_skip (o := ⟨some 95, _, _, _, _, _⟩) rfl (wanted_at (b := true) false rfl rfl (hD 33 91 (by kernel_rfl))) rfl) ?_
                  refine fsteps_cons 39 rfl (fun a u hE hD hk => f_skip (o := ⟨some 96, _, _, _, _, _⟩) rfl (wanted_at (b := true) false rfl rfl (hD 33 91 (by kernel_rfl))) rfl) ?_
                  refine sv 40 rfl rfl rfl (fun a u hE hD hk => exec_pickF (.tmp 91) (.tmp 96) (.const (.bool false)) (.bool false) rfl (hD 33 91 (by kernel_rfl)) rfl) ?_
                  exact fsteps_nil
                intro gv wx hV kx
                rw [show dstsOf _ 40 = [58, 59, 60, 61, 62, 63, 64, 65, 66, 67, 68, 69, 70, 71, 72, 73, 74, 75, 76, 77, 78, 79, 80, 81, 82, 83, 84, 85, 86, 87, 88, 89, 90, 91, 92, 93, 94, 95, 96, 97] by kernel_rfl]
                simp only [List.foldl_cons, List.foldl_nil, List.setIfInBounds_toArray, List.set_cons_succ, List.set_cons_zero, List.drop_succ_cons, List.drop_zero]
                rw [show gv 97 = .bool false from hV 39 97 (by kernel_rfl)]
                clear hV
                refine wpList_nil ?_
                have HBx := Lib.hid (HB9.out.kept kx)
                have kwx := kw9.trans kx
                clear HB9 kw9 kx
                go_upto_region 14 with fail
                refine wp_text 21 [.eq (.bool false), .eq (.bool true), .eq (.bool true), .eq (.pointer (some ⟨g, 0, none⟩)), .eq (.int .i64 B2.k), .eq (.bool false), .eq (.bool false), .eq (.bool false), .eq (.bool false), .eq (.bool false), .eq undef, .eq undef, .eq undef, .eq undef, .eq undef, .eq undef, .eq undef, .eq undef, .eq undef, .eq (.bool false), .eq (.bool false)] rfl (by kernel_rfl) ?_ ?_
                · refine sv 1 rfl rfl rfl (fun a u hE hD hk => exec_move (.tmp 15) _ rfl (hE 15 (.bool false) (by kernel_rfl) (by kernel_rfl))) ?_
                  refine sv 2 rfl rfl rfl (fun a u hE hD hk => exec_not _ (.tmp 98) false rfl (hD 0 98 (by kernel_rfl))) ?_
                  refine sv 3 rfl rfl rfl (fun a u hE hD hk => exec_move (.tmp 99) _ rfl (hD 1 99 (by kernel_rfl))) ?_
                  refine fsteps_cons 4 rfl (fun a u hE hD hk => f_val (o := ⟨some 101, _, _, _, _, _⟩) (.pointer (some ⟨g, 0, none⟩)) rfl (wanted_at (b := true) true rfl rfl (hD 2 100 (by kernel_rfl))) (exec_move (.tmp 9) _ rfl (hE 9 (.pointer (some ⟨g, 0, none⟩)) (by kernel_rfl) (by kernel_rfl))) rfl) ?_
                  refine fsteps_cons 5 rfl (fun a u hE hD hk => f_call (o := ⟨some 102, _, _, _, _, _⟩) 14 #[.pointer (some ⟨g, 0, none⟩)] rfl (wanted_at (b := true) true rfl rfl (hD 2 100 (by kernel_rfl))) (exec_call 14 _ [.tmp 101] _ [.pointer (some ⟨g, 0, none⟩)] Try.func14 (by kernel_rfl) (by kernel_rfl) rfl (show [a.eval (.tmp 101)] = [.pointer (some ⟨g, 0, none⟩)] from (by rw [show a.eval (.tmp 101) = .pointer (some ⟨g, 0, none⟩) from (hD 3 101 (by kernel_rfl))] <;> rfl)) u) (left_any g B2 u (HBx.out.kept hk))) ?_
                  refine fsteps_cons 6 rfl (fun a u hE hD hk => f_as (show ((decide ((B2.k : Int) ≠ (0 : Int))) : Bool) = false from decide_eq_false (by omega)) (f_val (o := ⟨some 103, _, _, _, _, _⟩) (.bool (decide ((B2.k : Int) ≠ (0 : Int)))) rfl (wanted_at (b := true) true rfl rfl (hD 2 100 (by kernel_rfl))) (exec_nen (p := B2.k) (q := 0) rfl (hD 4 102 (by kernel_rfl)) rfl) rfl)) ?_
                  refine sv 7 rfl rfl rfl (fun a u hE hD hk => exec_pick (.tmp 100) (.tmp 103) (.const (.bool false)) (.bool false) rfl (hD 2 100 (by kernel_rfl)) (hD 5 103 (by kernel_rfl))) ?_
                  refine sv 8 rfl rfl rfl (fun a u hE hD hk => exec_move (.tmp 104) _ rfl (hD 6 104 (by kernel_rfl))) ?_
                  refine fsteps_cons 9 rfl (fun a u hE hD hk => f_val (o := ⟨some 106, _, _, _, _, _⟩) (.bool false) rfl (wanted_at (b := false) false rfl rfl (hD 7 105 (by kernel_rfl))) (exec_move (.tmp 15) _ rfl (hE 15 (.bool false) (by kernel_rfl) (by kernel_rfl))) rfl) ?_
                  refine fsteps_cons 10 rfl (fun a u hE hD hk => f_val (o := ⟨some 107, _, _, _, _, _⟩) (.bool false) rfl (wanted_at (b := false) false rfl rfl (hD 7 105 (by kernel_rfl))) (exec_move (.tmp 106) _ rfl (hD 8 106 (by kernel_rfl))) rfl) ?_
                  refine fsteps_cons 11 rfl (fun a u hE hD hk => f_skip (o := ⟨some 108, _, _, _, _, _⟩) rfl (wanted_at (b := true) false rfl rfl (hD 9 107 (by kernel_rfl))) rfl) ?_
                  refine fsteps_cons 12 rfl (fun a u hE hD hk => f_skip (o := ⟨some 109, _, _, _, _, _⟩) rfl (wanted_at (b := true) false rfl rfl (hD 9 107 (by kernel_rfl))) rfl) ?_
                  refine fsteps_cons 13 rfl (fun a u hE hD hk => f_skip (o := ⟨some 110, _, _, _, _, _⟩) rfl (wanted_at (b := true) false rfl rfl (hD 9 107 (by kernel_rfl))) rfl) ?_
                  refine fsteps_cons 14 rfl (fun a u hE hD hk => f_skip (o := ⟨some 111, _, _, _, _, _⟩) rfl (wanted_at (b := true) false rfl rfl (hD 9 107 (by kernel_rfl))) rfl) ?_
                  refine fsteps_cons 15 rfl (fun a u hE hD hk => f_skip (o := ⟨some 112, _, _, _, _, _⟩) rfl (wanted_undef (b := false) rfl rfl (hD 13 111 (by kernel_rfl))) rfl) ?_
                  refine fsteps_cons 16 rfl (fun a u hE hD hk => f_skip (o := ⟨some 113, _, _, _, _, _⟩) rfl (wanted_undef (b := false) rfl rfl (hD 13 111 (by kernel_rfl))) rfl) ?_
                  refine fsteps_cons 17 rfl (fun a u hE hD hk => f_skip (o := ⟨some 114, _, _, _, _, _⟩) rfl (wanted_undef (b := false) rfl rfl (hD 13 111 (by kernel_rfl))) rfl) ?_
                  refine fsteps_cons 18 rfl (fun a u hE hD hk => f_skip (o := ⟨some 115, _, _, _, _, _⟩) rfl (wanted_undef (b := false) rfl rfl (hD 13 111 (by kernel_rfl))) rfl) ?_
                  refine fsteps_cons 19 rfl (fun a u hE hD hk => f_skip (o := ⟨some 116, _, _, _, _, _⟩) rfl (wanted_at (b := true) false rfl rfl (hD 9 107 (by kernel_rfl))) rfl) ?_
                  refine fsteps_cons 20 rfl (fun a u hE hD hk => f_val (o := ⟨some 117, _, _, _, _, _⟩) (.bool false) rfl (wanted_at (b := false) false rfl rfl (hD 7 105 (by kernel_rfl))) (exec_pickF (.tmp 107) (.tmp 116) (.const (.bool false)) (.bool false) rfl (hD 9 107 (by kernel_rfl)) rfl) rfl) ?_
                  refine sv 21 rfl rfl rfl (fun a u hE hD hk => exec_pickF (.tmp 105) (.const (.bool true)) (.tmp 117) (.bool false) rfl (hD 7 105 (by kernel_rfl)) (hD 19 117 (by kernel_rfl))) ?_
                  exact fsteps_nil
                intro gv wy hV ky
                rw [show dstsOf _ 21 = [98, 99, 100, 101, 102, 103, 104, 105, 106, 107, 108, 109, 110, 111, 112, 113, 114, 115, 116, 117, 118] by kernel_rfl]
                simp only [List.foldl_cons, List.foldl_nil, List.setIfInBounds_toArray, List.set_cons_succ, List.set_cons_zero, List.drop_succ_cons, List.drop_zero]
                rw [show gv 118 = .bool false from hV 20 118 (by kernel_rfl)]
                clear hV
                refine wpList_nil ?_
                have HBy := Lib.hid (HBx.out.kept ky)
                have kwy := kwx.trans ky
                clear HBx kwx ky
                go_upto_region 16 with fail
                refine wp_text 3 [.eq (.int .i64 la), .eq (.int .i64 nw), .eq (.int .i64 l2)] rfl (by kernel_rfl) ?_ ?_
                · refine sv 1 rfl rfl rfl (fun a u hE hD hk => exec_move (.tmp 11) _ rfl (hE 11 (.int .i64 la) (by kernel_rfl) (by kernel_rfl))) ?_
                  refine sv 2 rfl rfl rfl (fun a u hE hD hk => exec_move (.tmp 13) _ rfl (hE 13 (.int .i64 nw) (by kernel_rfl) (by kernel_rfl))) ?_
                  refine sv 3 rfl rfl rfl (fun a u hE hD hk => exec_maxn (.tmp 119) (.tmp 120) _ la nw l2 rfl (hD 0 119 (by kernel_rfl)) (hD 1 120 (by kernel_rfl)) HL2.out) ?_
                  exact fsteps_nil
                intro gv wz hV kz
                rw [show dstsOf _ 3 = [119, 120, 121] by kernel_rfl]
                simp only [List.foldl_cons, List.foldl_nil, List.setIfInBounds_toArray, List.set_cons_succ, List.set_cons_zero, List.drop_succ_cons, List.drop_zero]
                rw [show gv 121 = .int .i64 l2 from hV 2 121 (by kernel_rfl)]
                clear hV
                refine l_val (o := ⟨some 11, _, _, _, _, _⟩) (.int .i64 l2) rfl (exec_assign (.tmp 121) (.int .i64 l2) rfl (by kernel_rfl)) ?_
                simp only [Act.put, List.setIfInBounds_toArray, List.set_cons_succ, List.set_cons_zero]
                refine wpList_nil ?_
                have HBz := Lib.hid (HBy.out.kept kz)
                have kwz := kwy.trans kz
                clear HBy kwy kz
                go_wp2
                exact ⟨⟨k + 1, l2, B2, by simp, rfl, by omega, by omega, by omega, by omega, HBz, HI2, kwz⟩, by simp [intOf]; omega⟩
              | false =>
                skip
                go_upto_region 12 with fail
                refine wp_text 40 [.eq (.int .i64 nw), .eq (.int .i64 la), .eq (.bool true), .eq (.bool true), .eq (.bool false), .eq (.int .i64 B.k), .eq (.bool (decide ((0 : Int) < (B.k : Int)))), .eq (.bool false), .eq (.bool false), .eq (.pointer (some ⟨g, 0, none⟩)), .eq (.int .i64 B2.k), .eq (.int .i64 B.k), .eq (.int .i64 ((B.k : Int) - (1 : Int))), .eq (.bool false), .eq (.bool false), .eq undef, .eq (.bool false), .eq (.bool false), .eq (.bool false), .eq (.bool false), .eq (.bool true), .eq (.bool true), .eq (.pointer (some ⟨g, 0, none⟩)), .eq (.int .i64 B2.k), .eq (.bool false), .eq (.bool false), .eq (.bool false), .eq (.bool false), .eq (.bool false), .eq undef, .eq undef, .eq undef, .eq (.bool false), .eq (.bool false), .eq undef, .eq undef, .eq undef, .eq undef, .eq undef, .eq (.bool false)] rfl (by kernel_rfl) ?_ ?_
                · refine sv 1 rfl rfl rfl (fun a u hE hD hk => exec_move (.tmp 13) _ rfl (hE 13 (.int .i64 nw) (by kernel_rfl) (by kernel_rfl))) ?_
                  refine sv 2 rfl rfl rfl (fun a u hE hD hk => exec_move (.tmp 11) _ rfl (hE 11 (.int .i64 la) (by kernel_rfl) (by kernel_rfl))) ?_
                  refine fsteps_cons 3 rfl (fun a u hE hD hk => f_as (show ((decide ((nw : Int) ≤ (la : Int))) : Bool) = true from decide_eq_true hno) (f_val (o := ⟨some 60, _, _, _, _, _⟩) (.bool (decide ((nw : Int) ≤ (la : Int)))) rfl (wanted_none rfl _) (exec_len_ (p := nw) (q := la) rfl (hD 0 58 (by kernel_rfl)) (hD 1 59 (by kernel_rfl))) rfl)) ?_
                  refine sv 4 rfl rfl rfl (fun a u hE hD hk => exec_move (.tmp 60) _ rfl (hD 2 60 (by kernel_rfl))) ?_
                  refine fsteps_cons 5 rfl (fun a u hE hD hk => f_val (o := ⟨some 62, _, _, _, _, _⟩) (.bool false) rfl (wanted_at (b := true) true rfl rfl (hD 3 61 (by kernel_rfl))) (exec_move (.tmp 15) _ rfl (hE 15 (.bool false) (by kernel_rfl) (by kernel_rfl))) rfl) ?_
                  refine fsteps_cons 6 rfl (fun a u hE hD hk => f_val (o := ⟨some 63, _, _, _, _, _⟩) (.int .i64 B.k) rfl (wanted_at (b := true) true rfl rfl (hD 3 61 (by kernel_rfl))) (exec_move (.tmp 14) _ rfl (hE 14 (.int .i64 B.k) (by kernel_rfl) (by kernel_rfl))) rfl) ?_
                  refine fsteps_cons 7 rfl (fun a u hE hD hk => f_val (o := ⟨some 64, _, _, _, _, _⟩) (.bool (decide ((0 : Int) < (B.k : Int)))) rfl (wanted_at (b := true) true rfl rfl (hD 3 61 (by kernel_rfl))) (exec_gtn (p := B.k) (q := 0) rfl (hD 5 63 (by kernel_rfl)) rfl) rfl) ?_
                  refine fsteps_cons 8 rfl (fun a u hE hD hk => f_val (o := ⟨some 65, _, _, _, _, _⟩) (.bool false) rfl (wanted_at (b := true) true rfl rfl (hD 3 61 (by kernel_rfl))) (exec_neb (.tmp 62) (.tmp 64) _ false (decide (0 < B.k)) false rfl (hD 4 62 (by kernel_rfl)) (hD 6 64 (by kernel_rfl)) HE.out) rfl) ?_
                  refine fsteps_cons 9 rfl (fun a u hE hD hk => f_val (o := ⟨some 66, _, _, _, _, _⟩) (.bool false) rfl (wanted_at (b := true) true rfl rfl (hD 3 61 (by kernel_rfl))) (exec_move (.tmp 65) _ rfl (hD 7 65 (by kernel_rfl))) rfl) ?_
                  refine fsteps_cons 10 rfl (fun a u hE hD hk => f_val (o := ⟨some 67, _, _, _, _, _⟩) (.pointer (some ⟨g, 0, none⟩)) rfl (wanted_at (b := false) false rfl rfl (hD 8 66 (by kernel_rfl))) (exec_move (.tmp 9) _ rfl (hE 9 (.pointer (some ⟨g, 0, none⟩)) (by kernel_rfl) (by kernel_rfl))) rfl) ?_
                  refine fsteps_cons 11 rfl (fun a u hE hD hk => f_call (o := ⟨some 68, _, _, _, _, _⟩) 14 #[.pointer (some ⟨g, 0, none⟩)] rfl (wanted_at (b := false) false rfl rfl (hD 8 66 (by kernel_rfl))) (exec_call 14 _ [.tmp 67] _ [.pointer (some ⟨g, 0, none⟩)] Try.func14 (by kernel_rfl) (by kernel_rfl) rfl (show [a.eval (.tmp 67)] = [.pointer (some ⟨g, 0, none⟩)] from (by rw [show a.eval (.tmp 67) = .pointer (some ⟨g, 0, none⟩) from (hD 9 67 (by kernel_rfl))] <;> rfl)) u) (left_any g B2 u (HB9.out.kept hk))) ?_
                  refine fsteps_cons 12 rfl (fun a u hE hD hk => f_val (o := ⟨some 69, _, _, _, _, _⟩) (.int .i64 B.k) rfl (wanted_at (b := false) false rfl rfl (hD 8 66 (by kernel_rfl))) (exec_move (.tmp 14) _ rfl (hE 14 (.int .i64 B.k) (by kernel_rfl) (by kernel_rfl))) rfl) ?_
                  refine fsteps_cons 13 rfl (fun a u hE hD hk => f_val (o := ⟨some 70, _, _, _, _, _⟩) (.int .i64 ((B.k : Int) - (1 : Int))) rfl (wanted_at (b := false) false rfl rfl (hD 8 66 (by kernel_rfl))) (exec_subn (p := (B.k)) (q := (1)) ((B.k : Int) - (1 : Int)) rfl (hD 11 69 (by kernel_rfl)) rfl rfl (by omega) (by omega)) rfl) ?_
                  refine fsteps_cons 14 rfl (fun a u hE hD hk => f_as (show ((decide ((B2.k : Int) ≠ (((B.k : Int) - (1 : Int)) : Int))) : Bool) = false from HDD.out) (f_val (o := ⟨some 71, _, _, _, _, _⟩) (.bool (decide ((B2.k : Int) ≠ (((B.k : Int) - (1 : Int)) : Int)))) rfl (wanted_at (b := false) false rfl rfl (hD 8 66 (by kernel_rfl))) (exec_nen (p := B2.k) (q := ((B.k : Int) - (1 : Int))) rfl (hD 10 68 (by kernel_rfl)) (hD 12 70 (by kernel_rfl))) rfl)) ?_
                  refine fsteps_cons 15 rfl (fun a u hE hD hk => f_val (o := ⟨some 72, _, _, _, _, _⟩) (.bool false) rfl (wanted_at (b := false) false rfl rfl (hD 8 66 (by kernel_rfl))) (exec_move (.tmp 71) _ rfl (hD 13 71 (by kernel_rfl))) rfl) ?_
                  refine fsteps_cons 16 rfl (fun a u hE hD hk => f_skip (o := ⟨some 73, _, _, _, _, _⟩) rfl (wanted_at (b := true) false rfl rfl (hD 14 72 (by kernel_rfl))) rfl) ?_
                  refine fsteps_cons 17 rfl (fun a u hE hD hk => f_val (o := ⟨some 74, _, _, _, _, _⟩) (.bool false) rfl (wanted_at (b := false) false rfl rfl (hD 8 66 (by kernel_rfl))) (exec_pickF (.tmp 72) (.tmp 73) (.const (.bool false)) (.bool false) rfl (hD 14 72 (by kernel_rfl)) rfl) rfl) ?_
                  refine fsteps_cons 18 rfl (fun a u hE hD hk => f_val (o := ⟨some 75, _, _, _, _, _⟩) (.bool false) rfl (wanted_at (b := true) true rfl rfl (hD 3 61 (by kernel_rfl))) (exec_pickF (.tmp 66) (.const (.bool true)) (.tmp 74) (.bool false) rfl (hD 8 66 (by kernel_rfl)) (hD 16 74 (by kernel_rfl))) rfl) ?_
                  refine fsteps_cons 19 rfl (fun a u hE hD hk => f_val (o := ⟨some 76, _, _, _, _, _⟩) (.bool false) rfl (wanted_at (b := true) true rfl rfl (hD 3 61 (by kernel_rfl))) (exec_move (.tmp 75) _ rfl (hD 17 75 (by kernel_rfl))) rfl) ?_
                  refine fsteps_cons 20 rfl (fun a u hE hD hk => f_val (o := ⟨some 77, _, _, _, _, _⟩) (.bool false) rfl (wanted_at (b := false) false rfl rfl (hD 18 76 (by kernel_rfl))) (exec_move (.tmp 15) _ rfl (hE 15 (.bool false) (by kernel_rfl) (by kernel_rfl))) rfl) ?_
                  refine fsteps_cons 21 rfl (fun a u hE hD hk => f_val (o := ⟨some 78, _, _, _, _, _⟩) (.bool true) rfl (wanted_at (b := false) false rfl rfl (hD 18 76 (by kernel_rfl))) (exec_not _ (.tmp 77) false rfl (hD 19 77 (by kernel_rfl))) rfl) ?_
                  refine fsteps_cons 22 rfl (fun a u hE hD hk => f_val (o := ⟨some 79, _, _, _, _, _⟩) (.bool true) rfl (wanted_at (b := false) false rfl rfl (hD 18 76 (by kernel_rfl))) (exec_move (.tmp 78) _ rfl (hD 20 78 (by kernel_rfl))) rfl) ?_
                  refine fsteps_cons 23 rfl (fun a u hE hD hk => f_val (o := ⟨some 80, _, _, _, _, _⟩) (.pointer (some ⟨g, 0, none⟩)) rfl (wanted_at (b := true) true rfl rfl (hD 21 79 (by kernel_rfl))) (exec_move (.tmp 9) _ rfl (hE 9 (.pointer (some ⟨g, 0, none⟩)) (by kernel_rfl) (by kernel_rfl))) rfl) ?_
                  refine fsteps_cons 24 rfl (fun a u hE hD hk => f_call (o := ⟨some 81, _, _, _, _, _⟩) 14 #[.pointer (some ⟨g, 0, none⟩)] rfl (wanted_at (b := true) true rfl rfl (hD 21 79 (by kernel_rfl))) (exec_call 14 _ [.tmp 80] _ [.pointer (some ⟨g, 0, none⟩)] Try.func14 (by kernel_rfl) (by kernel_rfl) rfl (show [a.eval (.tmp 80)] = [.pointer (some ⟨g, 0, none⟩)] from (by rw [show a.eval (.tmp 80) = .pointer (some ⟨g, 0, none⟩) from (hD 22 80 (by kernel_rfl))] <;> rfl)) u) (left_any g B2 u (HB9.out.kept hk))) ?_
                  refine fsteps_cons 25 rfl (fun a u hE hD hk => f_as (show ((decide ((B2.k : Int) ≠ (0 : Int))) : Bool) = false from decide_eq_false (by omega)) (f_val (o := ⟨some 82, _, _, _, _, _⟩) (.bool (decide ((B2.k : Int) ≠ (0 : Int)))) rfl (wanted_at (b := true) true rfl rfl (hD 21 79 (by kernel_rfl))) (exec_nen (p := B2.k) (q := 0) rfl (hD 23 81 (by kernel_rfl)) rfl) rfl)) ?_
                  refine fsteps_cons 26 rfl (fun a u hE hD hk => f_val (o := ⟨some 83, _, _, _, _, _⟩) (.bool false) rfl (wanted_at (b := false) false rfl rfl (hD 18 76 (by kernel_rfl))) (exec_pick (.tmp 79) (.tmp 82) (.const (.bool false)) (.bool false) rfl (hD 21 79 (by kernel_rfl)) (hD 24 82 (by kernel_rfl))) rfl) ?_
                  refine fsteps_cons 27 rfl (fun a u hE hD hk => f_val (o := ⟨some 84, _, _, _, _, _⟩) (.bool false) rfl (wanted_at (b := true) true rfl rfl (hD 3 61 (by kernel_rfl))) (exec_pickF (.tmp 76) (.const (.bool true)) (.tmp 83) (.bool false) rfl (hD 18 76 (by kernel_rfl)) (hD 25 83 (by kernel_rfl))) rfl) ?_
                  refine sv 28 rfl rfl rfl (fun a u hE hD hk => exec_pick (.tmp 61) (.tmp 84) (.const (.bool false)) (.bool false) rfl (hD 3 61 (by kernel_rfl)) (hD 26 84 (by kernel_rfl))) ?_
                  refine sv 29 rfl rfl rfl (fun a u hE hD hk => exec_move (.tmp 85) _ rfl (hD 27 85 (by kernel_rfl))) ?_
                  refine fsteps_cons 30 rfl (fun a u hE hD hk => f_skip (o := ⟨some 87, _, _, _, _, _⟩) rfl (wanted_at (b := true) false rfl rfl (hD 28 86 (by kernel_rfl))) rfl) ?_
                  refine fsteps_cons 31 rfl (fun a u hE hD hk => f_skip (o := ⟨some 88, _, _, _, _, _⟩) rfl (wanted_at (b := true) false rfl rfl (hD 28 86 (by kernel_rfl))) rfl) ?_
                  refine fsteps_cons 32 rfl (fun a u hE hD hk => f_skip (o := ⟨some 89, _, _, _, _, _⟩) rfl (wanted_at (b := true) false rfl rfl (hD 28 86 (by kernel_rfl))) rfl) ?_
                  refine sv 33 rfl rfl rfl (fun a u hE hD hk => exec_pickF (.tmp 86) (.tmp 89) (.const (.bool false)) (.bool false) rfl (hD 28 86 (by kernel_rfl)) rfl) ?_
                  refine sv 34 rfl rfl rfl (fun a u hE hD hk => exec_move (.tmp 90) _ rfl (hD 32 90 (by kernel_rfl))) ?_
                  refine fsteps_cons 35 rfl (fun a u hE hD hk => f_skip (o := ⟨some 92, _, _, _, _, _⟩) rfl (wanted_at (b := true) false rfl rfl (hD 33 91 (by kernel_rfl))) rfl) ?_
                  refine fsteps_cons 36 rfl (fun a u hE hD hk => f_skip (o := ⟨some 93, _, _, _, _, _⟩) rfl (wanted_at (b := true) false rfl rfl (hD 33 91 (by kernel_rfl))) rfl) ?_
                  refine fsteps_cons 37 rfl (fun a u hE hD hk => f_skip (o := ⟨some 94, _, _, _, _, _⟩) rfl (wanted_at (b := true) false rfl rfl (hD 33 91 (by kernel_rfl))) rfl) ?_
                  refine fsteps_cons 38 rfl (fun a u hE hD hk => f_skip (o := ⟨some 95, _, _, _, _, _⟩) rfl (wanted_at (b := true) false rfl rfl (hD 33 91 (by kernel_rfl))) rfl) ?_
                  refine fsteps_cons 39 rfl (fun a u hE hD hk => f_skip (o := ⟨some 96, _, _, _, _, _⟩) rfl (wanted_at (b := true) false rfl rfl (hD 33 91 (by kernel_rfl))) rfl) ?_
                  refine sv 40 rfl rfl rfl (fun a u hE hD hk => exec_pickF (.tmp 91) (.tmp 96) (.const (.bool false)) (.bool false) rfl (hD 33 91 (by kernel_rfl)) rfl) ?_
                  exact fsteps_nil
                intro gv wx hV kx
                rw [show dstsOf _ 40 = [58, 59, 60, 61, 62, 63, 64, 65, 66, 67, 68, 69, 70, 71, 72, 73, 74, 75, 76, 77, 78, 79, 80, 81, 82, 83, 84, 85, 86, 87, 88, 89, 90, 91, 92, 93, 94, 95, 96, 97] by kernel_rfl]
                simp only [List.foldl_cons, List.foldl_nil, List.setIfInBounds_toArray, List.set_cons_succ, List.set_cons_zero, List.drop_succ_cons, List.drop_zero]
                rw [show gv 97 = .bool false from hV 39 97 (by kernel_rfl)]
                clear hV
                refine wpList_nil ?_
                have HBx := Lib.hid (HB9.out.kept kx)
                have kwx := kw9.trans kx
                clear HB9 kw9 kx
                go_upto_region 14 with fail
                refine wp_text 21 [.eq (.bool false), .eq (.bool true), .eq (.bool true), .eq (.pointer (some ⟨g, 0, none⟩)), .eq (.int .i64 B2.k), .eq (.bool false), .eq (.bool false), .eq (.bool false), .eq (.bool false), .eq (.bool false), .eq undef, .eq undef, .eq undef, .eq undef, .eq undef, .eq undef, .eq undef, .eq undef, .eq undef, .eq (.bool false), .eq (.bool false)] rfl (by kernel_rfl) ?_ ?_
                · refine sv 1 rfl rfl rfl (fun a u hE hD hk => exec_move (.tmp 15) _ rfl (hE 15 (.bool false) (by kernel_rfl) (by kernel_rfl))) ?_
                  refine sv 2 rfl rfl rfl (fun a u hE hD hk => exec_not _ (.tmp 98) false rfl (hD 0 98 (by kernel_rfl))) ?_
                  refine sv 3 rfl rfl rfl (fun a u hE hD hk => exec_move (.tmp 99) _ rfl (hD 1 99 (by kernel_rfl))) ?_
                  refine fsteps_cons 4 rfl (fun a u hE hD hk => f_val (o := ⟨some 101, _, _, _, _, _⟩) (.pointer (some ⟨g, 0, none⟩)) rfl (wanted_at (b := true) true rfl rfl (hD 2 100 (by kernel_rfl))) (exec_move (.tmp 9) _ rfl (hE 9 (.pointer (some ⟨g, 0, none⟩)) (by kernel_rfl) (by kernel_rfl))) rfl) ?_
                  refine fsteps_cons 5 rfl (fun a u hE hD hk => f_call (o := ⟨some 102, _, _, _, _, _⟩) 14 #[.pointer (some ⟨g, 0, none⟩)] rfl (wanted_at (b := true) true rfl rfl (hD 2 100 (by kernel_rfl))) (exec_call 14 _ [.tmp 101] _ [.pointer (some ⟨g, 0, none⟩)] Try.func14 (by kernel_rfl) (by kernel_rfl) rfl (show [a.eval (.tmp 101)] = [.pointer (some ⟨g, 0, none⟩)] from (by rw [show a.eval (.tmp 101) = .pointer (some ⟨g, 0, none⟩) from (hD 3 101 (by kernel_rfl))] <;> rfl)) u) (left_any g B2 u (HBx.out.kept hk))) ?_
                  refine fsteps_cons 6 rfl (fun a u hE hD hk => f_as (show ((decide ((B2.k : Int) ≠ (0 : Int))) : Bool) = false from decide_eq_false (by omega)) (f_val (o := ⟨some 103, _, _, _, _, _⟩) (.bool (decide ((B2.k : Int) ≠ (0 : Int)))) rfl (wanted_at (b := true) true rfl rfl (hD 2 100 (by kernel_rfl))) (exec_nen (p := B2.k) (q := 0) rfl (hD 4 102 (by kernel_rfl)) rfl) rfl)) ?_
                  refine sv 7 rfl rfl rfl (fun a u hE hD hk => exec_pick (.tmp 100) (.tmp 103) (.const (.bool false)) (.bool false) rfl (hD 2 100 (by kernel_rfl)) (hD 5 103 (by kernel_rfl))) ?_
                  refine sv 8 rfl rfl rfl (fun a u hE hD hk => exec_move (.tmp 104) _ rfl (hD 6 104 (by kernel_rfl))) ?_
                  refine fsteps_cons 9 rfl (fun a u hE hD hk => f_val (o := ⟨some 106, _, _, _, _, _⟩) (.bool false) rfl (wanted_at (b := false) false rfl rfl (hD 7 105 (by kernel_rfl))) (exec_move (.tmp 15) _ rfl (hE 15 (.bool false) (by kernel_rfl) (by kernel_rfl))) rfl) ?_
                  refine fsteps_cons 10 rfl (fun a u hE hD hk => f_val (o := ⟨some 107, _, _, _, _, _⟩) (.bool false) rfl (wanted_at (b := false) false rfl rfl (hD 7 105 (by kernel_rfl))) (exec_move (.tmp 106) _ rfl (hD 8 106 (by kernel_rfl))) rfl) ?_
                  refine fsteps_cons 11 rfl (fun a u hE hD hk => f_skip (o := ⟨some 108, _, _, _, _, _⟩) rfl (wanted_at (b := true) false rfl rfl (hD 9 107 (by kernel_rfl))) rfl) ?_
                  refine fsteps_cons 12 rfl (fun a u hE hD hk => f_skip (o := ⟨some 109, _, _, _, _, _⟩) rfl (wanted_at (b := true) false rfl rfl (hD 9 107 (by kernel_rfl))) rfl) ?_
                  refine fsteps_cons 13 rfl (fun a u hE hD hk => f_skip (o := ⟨some 110, _, _, _, _, _⟩) rfl (wanted_at (b := true) false rfl rfl (hD 9 107 (by kernel_rfl))) rfl) ?_
                  refine fsteps_cons 14 rfl (fun a u hE hD hk => f_skip (o := ⟨some 111, _, _, _, _, _⟩) rfl (wanted_at (b := true) false rfl rfl (hD 9 107 (by kernel_rfl))) rfl) ?_
                  refine fsteps_cons 15 rfl (fun a u hE hD hk => f_skip (o := ⟨some 112, _, _, _, _, _⟩) rfl (wanted_undef (b := false) rfl rfl (hD 13 111 (by kernel_rfl))) rfl) ?_
                  refine fsteps_cons 16 rfl (fun a u hE hD hk => f_skip (o := ⟨some 113, _, _, _, _, _⟩) rfl (wanted_undef (b := false) rfl rfl (hD 13 111 (by kernel_rfl))) rfl) ?_
                  refine fsteps_cons 17 rfl (fun a u hE hD hk => f_skip (o := ⟨some 114, _, _, _, _, _⟩) rfl (wanted_undef (b := false) rfl rfl (hD 13 111 (by kernel_rfl))) rfl) ?_
                  refine fsteps_cons 18 rfl (fun a u hE hD hk => f_skip (o := ⟨some 115, _, _, _, _, _⟩) rfl (wanted_undef (b := false) rfl rfl (hD 13 111 (by kernel_rfl))) rfl) ?_
                  refine fsteps_cons 19 rfl (fun a u hE hD hk => f_skip (o := ⟨some 116, _, _, _, _, _⟩) rfl (wanted_at (b := true) false rfl rfl (hD 9 107 (by kernel_rfl))) rfl) ?_
                  refine fsteps_cons 20 rfl (fun a u hE hD hk => f_val (o := ⟨some 117, _, _, _, _, _⟩) (.bool false) rfl (wanted_at (b := false) false rfl rfl (hD 7 105 (by kernel_rfl))) (exec_pickF (.tmp 107) (.tmp 116) (.const (.bool false)) (.bool false) rfl (hD 9 107 (by kernel_rfl)) rfl) rfl) ?_
                  refine sv 21 rfl rfl rfl (fun a u hE hD hk => exec_pickF (.tmp 105) (.const (.bool true)) (.tmp 117) (.bool false) rfl (hD 7 105 (by kernel_rfl)) (hD 19 117 (by kernel_rfl))) ?_
                  exact fsteps_nil
                intro gv wy hV ky
                rw [show dstsOf _ 21 = [98, 99, 100, 101, 102, 103, 104, 105, 106, 107, 108, 109, 110, 111, 112, 113, 114, 115, 116, 117, 118] by kernel_rfl]
                simp only [List.foldl_cons, List.foldl_nil, List.setIfInBounds_toArray, List.set_cons_succ, List.set_cons_zero, List.drop_succ_cons, List.drop_zero]
                rw [show gv 118 = .bool false from hV 20 118 (by kernel_rfl)]
                clear hV
                refine wpList_nil ?_
                have HBy := Lib.hid (HBx.out.kept ky)
                have kwy := kwx.trans ky
                clear HBx kwx ky
                go_upto_region 16 with fail
                refine wp_text 3 [.eq (.int .i64 la), .eq (.int .i64 nw), .eq (.int .i64 l2)] rfl (by kernel_rfl) ?_ ?_
                · refine sv 1 rfl rfl rfl (fun a u hE hD hk => exec_move (.tmp 11) _ rfl (hE 11 (.int .i64 la) (by kernel_rfl) (by kernel_rfl))) ?_
                  refine sv 2 rfl rfl rfl (fun a u hE hD hk => exec_move (.tmp 13) _ rfl (hE 13 (.int .i64 nw) (by kernel_rfl) (by kernel_rfl))) ?_
                  refine sv 3 rfl rfl rfl (fun a u hE hD hk => exec_maxn (.tmp 119) (.tmp 120) _ la nw l2 rfl (hD 0 119 (by kernel_rfl)) (hD 1 120 (by kernel_rfl)) HL2.out) ?_
                  exact fsteps_nil
                intro gv wz hV kz
                rw [show dstsOf _ 3 = [119, 120, 121] by kernel_rfl]
                simp only [List.foldl_cons, List.foldl_nil, List.setIfInBounds_toArray, List.set_cons_succ, List.set_cons_zero, List.drop_succ_cons, List.drop_zero]
                rw [show gv 121 = .int .i64 l2 from hV 2 121 (by kernel_rfl)]
                clear hV
                refine l_val (o := ⟨some 11, _, _, _, _, _⟩) (.int .i64 l2) rfl (exec_assign (.tmp 121) (.int .i64 l2) rfl (by kernel_rfl)) ?_
                simp only [Act.put, List.setIfInBounds_toArray, List.set_cons_succ, List.set_cons_zero]
                refine wpList_nil ?_
                have HBz := Lib.hid (HBy.out.kept kz)
                have kwz := kwy.trans kz
                clear HBy kwy kz
                go_wp2
                exact ⟨⟨k + 1, l2, B2, by simp, rfl, by omega, by omega, by omega, by omega, HBz, HI2, kwz⟩, by simp [intOf]; omega⟩
          · skip
            go_upto_region 12 with fail
            refine wp_text 40 [.eq (.int .i64 nw), .eq (.int .i64 la), .eq (.bool false), .eq (.bool false), .eq undef, .eq undef, .eq undef, .eq undef, .eq undef, .eq undef, .eq undef, .eq undef, .eq undef, .eq undef, .eq undef, .eq undef, .eq undef, .eq undef, .eq undef, .eq undef, .eq undef, .eq undef, .eq undef, .eq undef, .eq undef, .eq undef, .eq undef, .eq (.bool false), .eq (.bool false), .eq undef, .eq undef, .eq undef, .eq (.bool false), .eq (.bool false), .eq undef, .eq undef, .eq undef, .eq undef, .eq undef, .eq (.bool false)] rfl (by kernel_rfl) ?_ ?_
            · refine sv 1 rfl rfl rfl (fun a u hE hD hk => exec_move (.tmp 13) _ rfl (hE 13 (.int .i64 nw) (by kernel_rfl) (by kernel_rfl))) ?_
              refine sv 2 rfl rfl rfl (fun a u hE hD hk => exec_move (.tmp 11) _ rfl (hE 11 (.int .i64 la) (by kernel_rfl) (by kernel_rfl))) ?_
              refine fsteps_cons 3 rfl (fun a u hE hD hk => f_as (show ((decide ((nw : Int) ≤ (la : Int))) : Bool) = false from decide_eq_false hno) (f_val (o := ⟨some 60, _, _, _, _, _⟩) (.bool (decide ((nw : Int) ≤ (la : Int)))) rfl (wanted_none rfl _) (exec_len_ (p := nw) (q := la) rfl (hD 0 58 (by kernel_rfl)) (hD 1 59 (by kernel_rfl))) rfl)) ?_
              refine sv 4 rfl rfl rfl (fun a u hE hD hk => exec_move (.tmp 60) _ rfl (hD 2 60 (by kernel_rfl))) ?_
              refine fsteps_cons 5 rfl (fun a u hE hD hk => f_skip (o := ⟨some 62, _, _, _, _, _⟩) rfl (wanted_at (b := true) false rfl rfl (hD 3 61 (by kernel_rfl))) rfl) ?_
              refine fsteps_cons 6 rfl (fun a u hE hD hk => f_skip (o := ⟨some 63, _, _, _, _, _⟩) rfl (wanted_at (b := true) false rfl rfl (hD 3 61 (by kernel_rfl))) rfl) ?_
              refine fsteps_cons 7 rfl (fun a u hE hD hk => f_skip (o := ⟨some 64, _, _, _, _, _⟩) rfl (wanted_at (b := true) false rfl rfl (hD 3 61 (by kernel_rfl))) rfl) ?_
              refine fsteps_cons 8 rfl (fun a u hE hD hk => f_skip (o := ⟨some 65, _, _, _, _, _⟩) rfl (wanted_at (b := true) false rfl rfl (hD 3 61 (by kernel_rfl))) rfl) ?_
              refine fsteps_cons 9 rfl (fun a u hE hD hk => f_skip (o := ⟨some 66, _, _, _, _, _⟩) rfl (wanted_at (b := true) false rfl rfl (hD 3 61 (by kernel_rfl))) rfl) ?_
              refine fsteps_cons 10 rfl (fun a u hE hD hk => f_skip (o := ⟨some 67, _, _, _, _, _⟩) rfl (wanted_undef (b := false) rfl rfl (hD 8 66 (by kernel_rfl))) rfl) ?_
              refine fsteps_cons 11 rfl (fun a u hE hD hk => f_skip (o := ⟨some 68, _, _, _, _, _⟩) rfl (wanted_undef (b := false) rfl rfl (hD 8 66 (by kernel_rfl))) rfl) ?_
              refine fsteps_cons 12 rfl (fun a u hE hD hk => f_skip (o := ⟨some 69, _, _, _, _, _⟩) rfl (wanted_undef (b := false) rfl rfl (hD 8 66 (by kernel_rfl))) rfl) ?_
              refine fsteps_cons 13 rfl (fun a u hE hD hk => f_skip (o := ⟨some 70, _, _, _, _, _⟩) rfl (wanted_undef (b := false) rfl rfl (hD 8 66 (by kernel_rfl))) rfl) ?_
              refine fsteps_cons 14 rfl (fun a u hE hD hk => f_skip (o := ⟨some 71, _, _, _, _, _⟩) rfl (wanted_undef (b := false) rfl rfl (hD 8 66 (by kernel_rfl))) rfl) ?_
              refine fsteps_cons 15 rfl (fun a u hE hD hk => f_skip (o := ⟨some 72, _, _, _, _, _⟩) rfl (wanted_undef (b := false) rfl rfl (hD 8 66 (by kernel_rfl))) rfl) ?_
              refine fsteps_cons 16 rfl (fun a u hE hD hk => f_skip (o := ⟨some 73, _, _, _, _, _⟩) rfl (wanted_undef (b := true) rfl rfl (hD 14 72 (by kernel_rfl))) rfl) ?_
              refine fsteps_cons 17 rfl (fun a u hE hD hk => f_skip (o := ⟨some 74, _, _, _, _, _⟩) rfl (wanted_undef (b := false) rfl rfl (hD 8 66 (by kernel_rfl))) rfl) ?_
              refine fsteps_cons 18 rfl (fun a u hE hD hk => f_skip (o := ⟨some 75, _, _, _, _, _⟩) rfl (wanted_at (b := true) false rfl rfl (hD 3 61 (by kernel_rfl))) rfl) ?_
              refine fsteps_cons 19 rfl (fun a u hE hD hk => f_skip (o := ⟨some 76, _, _, _, _, _⟩) rfl (wanted_at (b := true) false rfl rfl (hD 3 61 (by kernel_rfl))) rfl) ?_
              refine fsteps_cons 20 rfl (fun a u hE hD hk => f_skip (o := ⟨some 77, _, _, _, _, _⟩) rfl (wanted_undef (b := false) rfl rfl (hD 18 76 (by kernel_rfl))) rfl) ?_
              refine fsteps_cons 21 rfl (fun a u hE hD hk => f_skip (o := ⟨some 78, _, _, _, _, _⟩) rfl (wanted_undef (b := false) rfl rfl (hD 18 76 (by kernel_rfl))) rfl) ?_
              refine fsteps_cons 22 rfl (fun a u hE hD hk => f_skip (o := ⟨some 79, _, _, _, _, _⟩) rfl (wanted_undef (b := false) rfl rfl (hD 18 76 (by kernel_rfl))) rfl) ?_
              refine fsteps_cons 23 rfl (fun a u hE hD hk => f_skip (o := ⟨some 80, _, _, _, _, _⟩) rfl (wanted_undef (b := true) rfl rfl (hD 21 79 (by kernel_rfl))) rfl) ?_
              refine fsteps_cons 24 rfl (fun a u hE hD hk => f_skip (o := ⟨some 81, _, _, _, _, _⟩) rfl (wanted_undef (b := true) rfl rfl (hD 21 79 (by kernel_rfl))) rfl) ?_
              refine fsteps_cons 25 rfl (fun a u hE hD hk => f_skip (o := ⟨some 82, _, _, _, _, _⟩) rfl (wanted_undef (b := true) rfl rfl (hD 21 79 (by kernel_rfl))) rfl) ?_
              refine fsteps_cons 26 rfl (fun a u hE hD hk => f_skip (o := ⟨some 83, _, _, _, _, _⟩) rfl (wanted_undef (b := false) rfl rfl (hD 18 76 (by kernel_rfl))) rfl) ?_
              refine fsteps_cons 27 rfl (fun a u hE hD hk => f_skip (o := ⟨some 84, _, _, _, _, _⟩) rfl (wanted_at (b := true) false rfl rfl (hD 3 61 (by kernel_rfl))) rfl) ?_
              refine sv 28 rfl rfl rfl (fun a u hE hD hk => exec_pickF (.tmp 61) (.tmp 84) (.const (.bool false)) (.bool false) rfl (hD 3 61 (by kernel_rfl)) rfl) ?_
              refine sv 29 rfl rfl rfl (fun a u hE hD hk => exec_move (.tmp 85) _ rfl (hD 27 85 (by kernel_rfl))) ?_
              refine fsteps_cons 30 rfl (fun a u hE hD hk => f_skip (o := ⟨some 87, _, _, _, _, _⟩) rfl (wanted_at (b := true) false rfl rfl (hD 28 86 (by kernel_rfl))) rfl) ?_
              refine fsteps_cons 31 rfl (fun a u hE hD hk => f_skip (o := ⟨some 88, _, _, _, _, _⟩) rfl (wanted_at (b := true) false rfl rfl (hD 28 86 (by kernel_rfl))) rfl) ?_
              refine fsteps_cons 32 rfl (fun a u hE hD hk => f_skip (o := ⟨some 89, _, _, _, _, _⟩) rfl (wanted_at (b := true) false rfl rfl (hD 28 86 (by kernel_rfl))) rfl) ?_
              refine sv 33 rfl rfl rfl (fun a u hE hD hk => exec_pickF (.tmp 86) (.tmp 89) (.const (.bool false)) (.bool false) rfl (hD 28 86 (by kernel_rfl)) rfl) ?_
              refine sv 34 rfl rfl rfl (fun a u hE hD hk => exec_move (.tmp 90) _ rfl (hD 32 90 (by kernel_rfl))) ?_
              refine fsteps_cons 35 rfl (fun a u hE hD hk => f_skip (o := ⟨some 92, _, _, _, _, _⟩) rfl (wanted_at (b := true) false rfl rfl (hD 33 91 (by kernel_rfl))) rfl) ?_
              refine fsteps_cons 36 rfl (fun a u hE hD hk => f_skip (o := ⟨some 93, _, _, _, _, _⟩) rfl (wanted_at (b := true) false rfl rfl (hD 33 91 (by kernel_rfl))) rfl) ?_
              refine fsteps_cons 37 rfl (fun a u hE hD hk => f_skip (o := ⟨some 94, _, _, _, _, _⟩) rfl (wanted_at (b := true) false rfl rfl (hD 33 91 (by kernel_rfl))) rfl) ?_
              refine fsteps_cons 38 rfl (fun a u hE hD hk => f_skip (o := ⟨some 95, _, _, _, _, _⟩) rfl (wanted_at (b := true) false rfl rfl (hD 33 91 (by kernel_rfl))) rfl) ?_
              refine fsteps_cons 39 rfl (fun a u hE hD hk => f_skip (o := ⟨some 96, _, _, _, _, _⟩) rfl (wanted_at (b := true) false rfl rfl (hD 33 91 (by kernel_rfl))) rfl) ?_
              refine sv 40 rfl rfl rfl (fun a u hE hD hk => exec_pickF (.tmp 91) (.tmp 96) (.const (.bool false)) (.bool false) rfl (hD 33 91 (by kernel_rfl)) rfl) ?_
              exact fsteps_nil
            intro gv wx hV kx
            rw [show dstsOf _ 40 = [58, 59, 60, 61, 62, 63, 64, 65, 66, 67, 68, 69, 70, 71, 72, 73, 74, 75, 76, 77, 78, 79, 80, 81, 82, 83, 84, 85, 86, 87, 88, 89, 90, 91, 92, 93, 94, 95, 96, 97] by kernel_rfl]
            simp only [List.foldl_cons, List.foldl_nil, List.setIfInBounds_toArray, List.set_cons_succ, List.set_cons_zero, List.drop_succ_cons, List.drop_zero]
            rw [show gv 97 = .bool false from hV 39 97 (by kernel_rfl)]
            clear hV
            refine wpList_nil ?_
            have HBx := Lib.hid (HB9.out.kept kx)
            have kwx := kw9.trans kx
            clear HB9 kw9 kx
            go_upto_region 14 with fail
            refine wp_text 21 [.eq (.bool false), .eq (.bool true), .eq (.bool true), .eq (.pointer (some ⟨g, 0, none⟩)), .eq (.int .i64 B2.k), .eq (.bool false), .eq (.bool false), .eq (.bool false), .eq (.bool false), .eq (.bool false), .eq undef, .eq undef, .eq undef, .eq undef, .eq undef, .eq undef, .eq undef, .eq undef, .eq undef, .eq (.bool false), .eq (.bool false)] rfl (by kernel_rfl) ?_ ?_
            · refine sv 1 rfl rfl rfl (fun a u hE hD hk => exec_move (.tmp 15) _ rfl (hE 15 (.bool false) (by kernel_rfl) (by kernel_rfl))) ?_
              refine sv 2 rfl rfl rfl (fun a u hE hD hk => exec_not _ (.tmp 98) false rfl (hD 0 98 (by kernel_rfl))) ?_
              refine sv 3 rfl rfl rfl (fun a u hE hD hk => exec_move (.tmp 99) _ rfl (hD 1 99 (by kernel_rfl))) ?_
              refine fsteps_cons 4 rfl (fun a u hE hD hk => f_val (o := ⟨some 101, _, _, _, _, _⟩) (.pointer (some ⟨g, 0, none⟩)) rfl (wanted_at (b := true) true rfl rfl (hD 2 100 (by kernel_rfl))) (exec_move (.tmp 9) _ rfl (hE 9 (.pointer (some ⟨g, 0, none⟩)) (by kernel_rfl) (by kernel_rfl))) rfl) ?_
              refine fsteps_cons 5 rfl (fun a u hE hD hk => f_call (o := ⟨some 102, _, _, _, _, _⟩) 14 #[.pointer (some ⟨g, 0, none⟩)] rfl (wanted_at (b := true) true rfl rfl (hD 2 100 (by kernel_rfl))) (exec_call 14 _ [.tmp 101] _ [.pointer (some ⟨g, 0, none⟩)] Try.func14 (by kernel_rfl) (by kernel_rfl) rfl (show [a.eval (.tmp 101)] = [.pointer (some ⟨g, 0, none⟩)] from (by rw [show a.eval (.tmp 101) = .pointer (some ⟨g, 0, none⟩) from (hD 3 101 (by kernel_rfl))] <;> rfl)) u) (left_any g B2 u (HBx.out.kept hk))) ?_
              refine fsteps_cons 6 rfl (fun a u hE hD hk => f_as (show ((decide ((B2.k : Int) ≠ (0 : Int))) : Bool) = false from decide_eq_false (by omega)) (f_val (o := ⟨some 103, _, _, _, _, _⟩) (.bool (decide ((B2.k : Int) ≠ (0 : Int)))) rfl (wanted_at (b := true) true rfl rfl (hD 2 100 (by kernel_rfl))) (exec_nen (p := B2.k) (q := 0) rfl (hD 4 102 (by kernel_rfl)) rfl) rfl)) ?_
              refine sv 7 rfl rfl rfl (fun a u hE hD hk => exec_pick (.tmp 100) (.tmp 103) (.const (.bool false)) (.bool false) rfl (hD 2 100 (by kernel_rfl)) (hD 5 103 (by kernel_rfl))) ?_
              refine sv 8 rfl rfl rfl (fun a u hE hD hk => exec_move (.tmp 104) _ rfl (hD 6 104 (by kernel_rfl))) ?_
              refine fsteps_cons 9 rfl (fun a u hE hD hk => f_val (o := ⟨some 106, _, _, _, _, _⟩) (.bool false) rfl (wanted_at (b := false) false rfl rfl (hD 7 105 (by kernel_rfl))) (exec_move (.tmp 15) _ rfl (hE 15 (.bool false) (by kernel_rfl) (by kernel_rfl))) rfl) ?_
              refine fsteps_cons 10 rfl (fun a u hE hD hk => f_val (o := ⟨some 107, _, _, _, _, _⟩) (.bool false) rfl (wanted_at (b := false) false rfl rfl (hD 7 105 (by kernel_rfl))) (exec_move (.tmp 106) _ rfl (hD 8 106 (by kernel_rfl))) rfl) ?_
              refine fsteps_cons 11 rfl (fun a u hE hD hk => f_skip (o := ⟨some 108, _, _, _, _, _⟩) rfl (wanted_at (b := true) false rfl rfl (hD 9 107 (by kernel_rfl))) rfl) ?_
              refine fsteps_cons 12 rfl (fun a u hE hD hk => f_skip (o := ⟨some 109, _, _, _, _, _⟩) rfl (wanted_at (b := true) false rfl rfl (hD 9 107 (by kernel_rfl))) rfl) ?_
              refine fsteps_cons 13 rfl (fun a u hE hD hk => f_skip (o := ⟨some 110, _, _, _, _, _⟩) rfl (wanted_at (b := true) false rfl rfl (hD 9 107 (by kernel_rfl))) rfl) ?_
              refine fsteps_cons 14 rfl (fun a u hE hD hk => f_skip (o := ⟨some 111, _, _, _, _, _⟩) rfl (wanted_at (b := true) false rfl rfl (hD 9 107 (by kernel_rfl))) rfl) ?_
              refine fsteps_cons 15 rfl (fun a u hE hD hk => f_skip (o := ⟨some 112, _, _, _, _, _⟩) rfl (wanted_undef (b := false) rfl rfl (hD 13 111 (by kernel_rfl))) rfl) ?_
              refine fsteps_cons 16 rfl (fun a u hE hD hk => f_skip (o := ⟨some 113, _, _, _, _, _⟩) rfl (wanted_undef (b := false) rfl rfl (hD 13 111 (by kernel_rfl))) rfl) ?_
              refine fsteps_cons 17 rfl (fun a u hE hD hk => f_skip (o := ⟨some 114, _, _, _, _, _⟩) rfl (wanted_undef (b := false) rfl rfl (hD 13 111 (by kernel_rfl))) rfl) ?_
              refine fsteps_cons 18 rfl (fun a u hE hD hk => f_skip (o := ⟨some 115, _, _, _, _, _⟩) rfl (wanted_undef (b := false) rfl rfl (hD 13 111 (by kernel_rfl))) rfl) ?_
              refine fsteps_cons 19 rfl (fun a u hE hD hk => f_skip (o := ⟨some 116, _, _, _, _, _⟩) rfl (wanted_at (b := true) false rfl rfl (hD 9 107 (by kernel_rfl))) rfl) ?_
              refine fsteps_cons 20 rfl (fun a u hE hD hk => f_val (o := ⟨some 117, _, _, _, _, _⟩) (.bool false) rfl (wanted_at (b := false) false rfl rfl (hD 7 105 (by kernel_rfl))) (exec_pickF (.tmp 107) (.tmp 116) (.const (.bool false)) (.bool false) rfl (hD 9 107 (by kernel_rfl)) rfl) rfl) ?_
              refine sv 21 rfl rfl rfl (fun a u hE hD hk => exec_pickF (.tmp 105) (.const (.bool true)) (.tmp 117) (.bool false) rfl (hD 7 105 (by kernel_rfl)) (hD 19 117 (by kernel_rfl))) ?_
              exact fsteps_nil
            intro gv wy hV ky
            rw [show dstsOf _ 21 = [98, 99, 100, 101, 102, 103, 104, 105, 106, 107, 108, 109, 110, 111, 112, 113, 114, 115, 116, 117, 118] by kernel_rfl]
            simp only [List.foldl_cons, List.foldl_nil, List.setIfInBounds_toArray, List.set_cons_succ, List.set_cons_zero, List.drop_succ_cons, List.drop_zero]
            rw [show gv 118 = .bool false from hV 20 118 (by kernel_rfl)]
            clear hV
            refine wpList_nil ?_
            have HBy := Lib.hid (HBx.out.kept ky)
            have kwy := kwx.trans ky
            clear HBx kwx ky
            go_upto_region 16 with fail
            refine wp_text 3 [.eq (.int .i64 la), .eq (.int .i64 nw), .eq (.int .i64 l2)] rfl (by kernel_rfl) ?_ ?_
            · refine sv 1 rfl rfl rfl (fun a u hE hD hk => exec_move (.tmp 11) _ rfl (hE 11 (.int .i64 la) (by kernel_rfl) (by kernel_rfl))) ?_
              refine sv 2 rfl rfl rfl (fun a u hE hD hk => exec_move (.tmp 13) _ rfl (hE 13 (.int .i64 nw) (by kernel_rfl) (by kernel_rfl))) ?_
              refine sv 3 rfl rfl rfl (fun a u hE hD hk => exec_maxn (.tmp 119) (.tmp 120) _ la nw l2 rfl (hD 0 119 (by kernel_rfl)) (hD 1 120 (by kernel_rfl)) HL2.out) ?_
              exact fsteps_nil
            intro gv wz hV kz
            rw [show dstsOf _ 3 = [119, 120, 121] by kernel_rfl]
            simp only [List.foldl_cons, List.foldl_nil, List.setIfInBounds_toArray, List.set_cons_succ, List.set_cons_zero, List.drop_succ_cons, List.drop_zero]
            rw [show gv 121 = .int .i64 l2 from hV 2 121 (by kernel_rfl)]
            clear hV
            refine l_val (o := ⟨some 11, _, _, _, _, _⟩) (.int .i64 l2) rfl (exec_assign (.tmp 121) (.int .i64 l2) rfl (by kernel_rfl)) ?_
            simp only [Act.put, List.setIfInBounds_toArray, List.set_cons_succ, List.set_cons_zero]
            refine wpList_nil ?_
            have HBz := Lib.hid (HBy.out.kept kz)
            have kwz := kwy.trans kz
            clear HBy kwy kz
            go_wp2
            exact ⟨⟨k + 1, l2, B2, by simp, rfl, by omega, by omega, by omega, by omega, HBz, HI2, kwz⟩, by simp [intOf]; omega⟩
      | true =>
        have hl0 := HY1.out HC.out
        clear HY0 HY1
        by_cases hback : nw < la - nr
        · skip
          have hw := (HW.out hback).1
          have hl := (HW.out hback).2
          have hwk : 0 < B.k := by
            have := HC.out.symm.trans hw
            exact of_decide_eq_true this.symm
          have hl2 := hl HC.out
          clear hw hl
          go_upto_region 12 with fail
          refine wp_text 40 [.eq (.int .i64 nw), .eq (.int .i64 la), .eq (.bool true), .eq (.bool true), .eq (.bool true), .eq (.int .i64 B.k), .eq (.bool true), .eq (.bool false), .eq (.bool false), .eq (.pointer (some ⟨g, 0, none⟩)), .eq (.int .i64 B2.k), .eq (.int .i64 B.k), .eq (.int .i64 ((B.k : Int) - (1 : Int))), .eq (.bool false), .eq (.bool false), .eq undef, .eq (.bool false), .eq (.bool false), .eq (.bool false), .eq (.bool true), .eq (.bool false), .eq (.bool false), .eq undef, .eq undef, .eq undef, .eq (.bool false), .eq (.bool false), .eq (.bool false), .eq (.bool false), .eq undef, .eq undef, .eq undef, .eq (.bool false), .eq (.bool false), .eq undef, .eq undef, .eq undef, .eq undef, .eq undef, .eq (.bool false)] rfl (by kernel_rfl) ?_ ?_
          · refine sv 1 rfl rfl rfl (fun a u hE hD hk => exec_move (.tmp 13) _ rfl (hE 13 (.int .i64 nw) (by kernel_rfl) (by kernel_rfl))) ?_
            refine sv 2 rfl rfl rfl (fun a u hE hD hk => exec_move (.tmp 11) _ rfl (hE 11 (.int .i64 la) (by kernel_rfl) (by kernel_rfl))) ?_
            refine fsteps_cons 3 rfl (fun a u hE hD hk => f_as (show ((decide ((nw : Int) ≤ (la : Int))) : Bool) = true from decide_eq_true (by omega)) (f_val (o := ⟨some 60, _, _, _, _, _⟩) (.bool (decide ((nw : Int) ≤ (la : Int)))) rfl (wanted_none rfl _) (exec_len_ (p := nw) (q := la) rfl (hD 0 58 (by kernel_rfl)) (hD 1 59 (by kernel_rfl))) rfl)) ?_
            refine sv 4 rfl rfl rfl (fun a u hE hD hk => exec_move (.tmp 60) _ rfl (hD 2 60 (by kernel_rfl))) ?_
            refine fsteps_cons 5 rfl (fun a u hE hD hk => f_val (o := ⟨some 62, _, _, _, _, _⟩) (.bool true) rfl (wanted_at (b := true) true rfl rfl (hD 3 61 (by kernel_rfl))) (exec_move (.tmp 15) _ rfl (hE 15 (.bool true) (by kernel_rfl) (by kernel_rfl))) rfl) ?_
            refine fsteps_cons 6 rfl (fun a u hE hD hk => f_val (o := ⟨some 63, _, _, _, _, _⟩) (.int .i64 B.k) rfl (wanted_at (b := true) true rfl rfl (hD 3 61 (by kernel_rfl))) (exec_move (.tmp 14) _ rfl (hE 14 (.int .i64 B.k) (by kernel_rfl) (by kernel_rfl))) rfl) ?_
            refine fsteps_cons 7 rfl (fun a u hE hD hk => f_as (show ((decide ((0 : Int) < (B.k : Int))) : Bool) = true from decide_eq_true hwk) (f_val (o := ⟨some 64, _, _, _, _, _⟩) (.bool (decide ((0 : Int) < (B.k : Int)))) rfl (wanted_at (b := true) true rfl rfl (hD 3 61 (by kernel_rfl))) (exec_gtn (p := B.k) (q := 0) rfl (hD 5 63 (by kernel_rfl)) rfl) rfl)) ?_
            refine fsteps_cons 8 rfl (fun a u hE hD hk => f_val (o := ⟨some 65, _, _, _, _, _⟩) (.bool false) rfl (wanted_at (b := true) true rfl rfl (hD 3 61 (by kernel_rfl))) (exec_neb (.tmp 62) (.tmp 64) _ true true false rfl (hD 4 62 (by kernel_rfl)) (hD 6 64 (by kernel_rfl)) rfl) rfl) ?_
            refine fsteps_cons 9 rfl (fun a u hE hD hk => f_val (o := ⟨some 66, _, _, _, _, _⟩) (.bool false) rfl (wanted_at (b := true) true rfl rfl (hD 3 61 (by kernel_rfl))) (exec_move (.tmp 65) _ rfl (hD 7 65 (by kernel_rfl))) rfl) ?_
            refine fsteps_cons 10 rfl (fun a u hE hD hk => f_val (o := ⟨some 67, _, _, _, _, _⟩) (.pointer (some ⟨g, 0, none⟩)) rfl (wanted_at (b := false) false rfl rfl (hD 8 66 (by kernel_rfl))) (exec_move (.tmp 9) _ rfl (hE 9 (.pointer (some ⟨g, 0, none⟩)) (by kernel_rfl) (by kernel_rfl))) rfl) ?_
            refine fsteps_cons 11 rfl (fun a u hE hD hk => f_call (o := ⟨some 68, _, _, _, _, _⟩) 14 #[.pointer (some ⟨g, 0, none⟩)] rfl (wanted_at (b := false) false rfl rfl (hD 8 66 (by kernel_rfl))) (exec_call 14 _ [.tmp 67] _ [.pointer (some ⟨g, 0, none⟩)] Try.func14 (by kernel_rfl) (by kernel_rfl) rfl (show [a.eval (.tmp 67)] = [.pointer (some ⟨g, 0, none⟩)] from (by rw [show a.eval (.tmp 67) = .pointer (some ⟨g, 0, none⟩) from (hD 9 67 (by kernel_rfl))] <;> rfl)) u) (left_any g B2 u (HB9.out.kept hk))) ?_
            refine fsteps_cons 12 rfl (fun a u hE hD hk => f_val (o := ⟨some 69, _, _, _, _, _⟩) (.int .i64 B.k) rfl (wanted_at (b := false) false rfl rfl (hD 8 66 (by kernel_rfl))) (exec_move (.tmp 14) _ rfl (hE 14 (.int .i64 B.k) (by kernel_rfl) (by kernel_rfl))) rfl) ?_
            refine fsteps_cons 13 rfl (fun a u hE hD hk => f_val (o := ⟨some 70, _, _, _, _, _⟩) (.int .i64 ((B.k : Int) - (1 : Int))) rfl (wanted_at (b := false) false rfl rfl (hD 8 66 (by kernel_rfl))) (exec_subn (p := (B.k)) (q := (1)) ((B.k : Int) - (1 : Int)) rfl (hD 11 69 (by kernel_rfl)) rfl rfl (by omega) (by omega)) rfl) ?_
            refine fsteps_cons 14 rfl (fun a u hE hD hk => f_as (show ((decide ((B2.k : Int) ≠ (((B.k : Int) - (1 : Int)) : Int))) : Bool) = false from decide_eq_false (by omega)) (f_val (o := ⟨some 71, _, _, _, _, _⟩) (.bool (decide ((B2.k : Int) ≠ (((B.k : Int) - (1 : Int)) : Int)))) rfl (wanted_at (b := false) false rfl rfl (hD 8 66 (by kernel_rfl))) (exec_nen (p := B2.k) (q := ((B.k : Int) - (1 : Int))) rfl (hD 10 68 (by kernel_rfl)) (hD 12 70 (by kernel_rfl))) rfl)) ?_
            refine fsteps_cons 15 rfl (fun a u hE hD hk => f_val (o := ⟨some 72, _, _, _, _, _⟩) (.bool false) rfl (wanted_at (b := false) false rfl rfl (hD 8 66 (by kernel_rfl))) (exec_move (.tmp 71) _ rfl (hD 13 71 (by kernel_rfl))) rfl) ?_
            refine fsteps_cons 16 rfl (fun a u hE hD hk => f_skip (o := ⟨some 73, _, _, _, _, _⟩) rfl (wanted_at (b := true) false rfl rfl (hD 14 72 (by kernel_rfl))) rfl) ?_
            refine fsteps_cons 17 rfl (fun a u hE hD hk => f_val (o := ⟨some 74, _, _, _, _, _⟩) (.bool false) rfl (wanted_at (b := false) false rfl rfl (hD 8 66 (by kernel_rfl))) (exec_pickF (.tmp 72) (.tmp 73) (.const (.bool false)) (.bool false) rfl (hD 14 72 (by kernel_rfl)) rfl) rfl) ?_
            refine fsteps_cons 18 rfl (fun a u hE hD hk => f_val (o := ⟨some 75, _, _, _, _, _⟩) (.bool false) rfl (wanted_at (b := true) true rfl rfl (hD 3 61 (by kernel_rfl))) (exec_pickF (.tmp 66) (.const (.bool true)) (.tmp 74) (.bool false) rfl (hD 8 66 (by kernel_rfl)) (hD 16 74 (by kernel_rfl))) rfl) ?_
            refine fsteps_cons 19 rfl (fun a u hE hD hk => f_val (o := ⟨some 76, _, _, _, _, _⟩) (.bool false) rfl (wanted_at (b := true) true rfl rfl (hD 3 61 (by kernel_rfl))) (exec_move (.tmp 75) _ rfl (hD 17 75 (by kernel_rfl))) rfl) ?_
            refine fsteps_cons 20 rfl (fun a u hE hD hk => f_val (o := ⟨some 77, _, _, _, _, _⟩) (.bool true) rfl (wanted_at (b := false) false rfl rfl (hD 18 76 (by kernel_rfl))) (exec_move (.tmp 15) _ rfl (hE 15 (.bool true) (by kernel_rfl) (by kernel_rfl))) rfl) ?_
            refine fsteps_cons 21 rfl (fun a u hE hD hk => f_val (o := ⟨some 78, _, _, _, _, _⟩) (.bool false) rfl (wanted_at (b := false) false rfl rfl (hD 18 76 (by kernel_rfl))) (exec_not _ (.tmp 77) true rfl (hD 19 77 (by kernel_rfl))) rfl) ?_
            refine fsteps_cons 22 rfl (fun a u hE hD hk => f_val (o := ⟨some 79, _, _, _, _, _⟩) (.bool false) rfl (wanted_at (b := false) false rfl rfl (hD 18 76 (by kernel_rfl))) (exec_move (.tmp 78) _ rfl (hD 20 78 (by kernel_rfl))) rfl) ?_
            refine fsteps_cons 23 rfl (fun a u hE hD hk => f_skip (o := ⟨some 80, _, _, _, _, _⟩) rfl (wanted_at (b := true) false rfl rfl (hD 21 79 (by kernel_rfl))) rfl) ?_
            refine fsteps_cons 24 rfl (fun a u hE hD hk => f_skip (o := ⟨some 81, _, _, _, _, _⟩) rfl (wanted_at (b := true) false rfl rfl (hD 21 79 (by kernel_rfl))) rfl) ?_
            refine fsteps_cons 25 rfl (fun a u hE hD hk => f_skip (o := ⟨some 82, _, _, _, _, _⟩) rfl (wanted_at (b := true) false rfl rfl (hD 21 79 (by kernel_rfl))) rfl) ?_
            refine fsteps_cons 26 rfl (fun a u hE hD hk => f_val (o := ⟨some 83, _, _, _, _, _⟩) (.bool false) rfl (wanted_at (b := false) false rfl rfl (hD 18 76 (by kernel_rfl))) (exec_pickF (.tmp 79) (.tmp 82) (.const (.bool false)) (.bool false) rfl (hD 21 79 (by kernel_rfl)) rfl) rfl) ?_
            refine fsteps_cons 27 rfl (fun a u hE hD hk => f_val (o := ⟨some 84, _, _, _, _, _⟩) (.bool false) rfl (wanted_at (b := true) true rfl rfl (hD 3 61 (by kernel_rfl))) (exec_pickF (.tmp 76) (.const (.bool true)) (.tmp 83) (.bool false) rfl (hD 18 76 (by kernel_rfl)) (hD 25 83 (by kernel_rfl))) rfl) ?_
            refine sv 28 rfl rfl rfl (fun a u hE hD hk => exec_pick (.tmp 61) (.tmp 84) (.const (.bool false)) (.bool false) rfl (hD 3 61 (by kernel_rfl)) (hD 26 84 (by kernel_rfl))) ?_
            refine sv 29 rfl rfl rfl (fun a u hE hD hk => exec_move (.tmp 85) _ rfl (hD 27 85 (by kernel_rfl))) ?_
            refine fsteps_cons 30 rfl (fun a u hE hD hk => f_skip (o := ⟨some 87, _, _, _, _, _⟩) rfl (wanted_at (b := true) false rfl rfl (hD 28 86 (by kernel_rfl))) rfl) ?_
            refine fsteps_cons 31 rfl (fun a u hE hD hk => f_skip (o := ⟨some 88, _, _, _, _, _⟩) rfl (wanted_at (b := true) false rfl rfl (hD 28 86 (by kernel_rfl))) rfl) ?_
            refine fsteps_cons 32 rfl (fun a u hE hD hk => f_skip (o := ⟨some 89, _, _, _, _, _⟩) rfl (wanted_at (b := true) false rfl rfl (hD 28 86 (by kernel_rfl))) rfl) ?_
            refine sv 33 rfl rfl rfl (fun a u hE hD hk => exec_pickF (.tmp 86) (.tmp 89) (.const (.bool false)) (.bool false) rfl (hD 28 86 (by kernel_rfl)) rfl) ?_
            refine sv 34 rfl rfl rfl (fun a u hE hD hk => exec_move (.tmp 90) _ rfl (hD 32 90 (by kernel_rfl))) ?_
            refine fsteps_cons 35 rfl (fun a u hE hD hk => f_skip (o := ⟨some 92, _, _, _, _, _⟩) rfl (wanted_at (b := true) false rfl rfl (hD 33 91 (by kernel_rfl))) rfl) ?_
            refine fsteps_cons 36 rfl (fun a u hE hD hk => f_skip (o := ⟨some 93, _, _, _, _, _⟩) rfl (wanted_at (b := true) false rfl rfl (hD 33 91 (by kernel_rfl))) rfl) ?_
            refine fsteps_cons 37 rfl (fun a u hE hD hk => f_skip (o := ⟨some 94, _, _, _, _, _⟩) rfl (wanted_at (b := true) false rfl rfl (hD 33 91 (by kernel_rfl))) rfl) ?_
            refine fsteps_cons 38 rfl (fun a u hE hD hk => f_skip (o := ⟨some 95, _, _, _, _, _⟩) rfl (wanted_at (b := true) false rfl rfl (hD 33 91 (by kernel_rfl))) rfl) ?_
            refine fsteps_cons 39 rfl (fun a u hE hD hk => f_skip (o := ⟨some 96, _, _, _, _, _⟩) rfl (wanted_at (b := true) false rfl rfl (hD 33 91 (by kernel_rfl))) rfl) ?_
            refine sv 40 rfl rfl rfl (fun a u hE hD hk => exec_pickF (.tmp 91) (.tmp 96) (.const (.bool false)) (.bool false) rfl (hD 33 91 (by kernel_rfl)) rfl) ?_
            exact fsteps_nil
          intro gv wx hV kx
          rw [show dstsOf _ 40 = [58, 59, 60, 61, 62, 63, 64, 65, 66, 67, 68, 69, 70, 71, 72, 73, 74, 75, 76, 77, 78, 79, 80, 81, 82, 83, 84, 85, 86, 87, 88, 89, 90, 91, 92, 93, 94, 95, 96, 97] by kernel_rfl]
          simp only [List.foldl_cons, List.foldl_nil, List.setIfInBounds_toArray, List.set_cons_succ, List.set_cons_zero, List.drop_succ_cons, List.drop_zero]
          rw [show gv 97 = .bool false from hV 39 97 (by kernel_rfl)]
          clear hV
          refine wpList_nil ?_
          have HBx := Lib.hid (HB9.out.kept kx)
          have kwx := kw9.trans kx
          clear HB9 kw9 kx
          go_upto_region 14 with fail
          refine wp_text 21 [.eq (.bool true), .eq (.bool false), .eq (.bool false), .eq undef, .eq undef, .eq undef, .eq (.bool false), .eq (.bool false), .eq (.bool true), .eq (.bool true), .eq (.pointer (some ⟨g, 0, none⟩)), .eq (.int .i64 B2.k), .eq (.bool false), .eq (.bool false), .eq (.pointer (some ⟨g, 0, none⟩)), .eq (.int .i64 B2.k), .eq (.int .i64 nb), .eq (.bool false), .eq (.bool false), .eq (.bool false), .eq (.bool false)] rfl (by kernel_rfl) ?_ ?_
          · refine sv 1 rfl rfl rfl (fun a u hE hD hk => exec_move (.tmp 15) _ rfl (hE 15 (.bool true) (by kernel_rfl) (by kernel_rfl))) ?_
            refine sv 2 rfl rfl rfl (fun a u hE hD hk => exec_not _ (.tmp 98) true rfl (hD 0 98 (by kernel_rfl))) ?_
            refine sv 3 rfl rfl rfl (fun a u hE hD hk => exec_move (.tmp 99) _ rfl (hD 1 99 (by kernel_rfl))) ?_
            refine fsteps_cons 4 rfl (fun a u hE hD hk => f_skip (o := ⟨some 101, _, _, _, _, _⟩) rfl (wanted_at (b := true) false rfl rfl (hD 2 100 (by kernel_rfl))) rfl) ?_
            refine fsteps_cons 5 rfl (fun a u hE hD hk => f_skip (o := ⟨some 102, _, _, _, _, _⟩) rfl (wanted_at (b := true) false rfl rfl (hD 2 100 (by kernel_rfl))) rfl) ?_
            refine fsteps_cons 6 rfl (fun a u hE hD hk => f_skip (o := ⟨some 103, _, _, _, _, _⟩) rfl (wanted_at (b := true) false rfl rfl (hD 2 100 (by kernel_rfl))) rfl) ?_
            refine sv 7 rfl rfl rfl (fun a u hE hD hk => exec_pickF (.tmp 100) (.tmp 103) (.const (.bool false)) (.bool false) rfl (hD 2 100 (by kernel_rfl)) rfl) ?_
            refine sv 8 rfl rfl rfl (fun a u hE hD hk => exec_move (.tmp 104) _ rfl (hD 6 104 (by kernel_rfl))) ?_
            refine fsteps_cons 9 rfl (fun a u hE hD hk => f_val (o := ⟨some 106, _, _, _, _, _⟩) (.bool true) rfl (wanted_at (b := false) false rfl rfl (hD 7 105 (by kernel_rfl))) (exec_move (.tmp 15) _ rfl (hE 15 (.bool true) (by kernel_rfl) (by kernel_rfl))) rfl) ?_
            refine fsteps_cons 10 rfl (fun a u hE hD hk => f_val (o := ⟨some 107, _, _, _, _, _⟩) (.bool true) rfl (wanted_at (b := false) false rfl rfl (hD 7 105 (by kernel_rfl))) (exec_move (.tmp 106) _ rfl (hD 8 106 (by kernel_rfl))) rfl) ?_
            refine fsteps_cons 11 rfl (fun a u hE hD hk => f_val (o := ⟨some 108, _, _, _, _, _⟩) (.pointer (some ⟨g, 0, none⟩)) rfl (wanted_at (b := true) true rfl rfl (hD 9 107 (by kernel_rfl))) (exec_move (.tmp 9) _ rfl (hE 9 (.pointer (some ⟨g, 0, none⟩)) (by kernel_rfl) (by kernel_rfl))) rfl) ?_
            refine fsteps_cons 12 rfl (fun a u hE hD hk => f_call (o := ⟨some 109, _, _, _, _, _⟩) 14 #[.pointer (some ⟨g, 0, none⟩)] rfl (wanted_at (b := true) true rfl rfl (hD 9 107 (by kernel_rfl))) (exec_call 14 _ [.tmp 108] _ [.pointer (some ⟨g, 0, none⟩)] Try.func14 (by kernel_rfl) (by kernel_rfl) rfl (show [a.eval (.tmp 108)] = [.pointer (some ⟨g, 0, none⟩)] from (by rw [show a.eval (.tmp 108) = .pointer (some ⟨g, 0, none⟩) from (hD 10 108 (by kernel_rfl))] <;> rfl)) u) (left_any g B2 u (HBx.out.kept hk))) ?_
            refine fsteps_cons 13 rfl (fun a u hE hD hk => f_as (show ((decide ((B2.k : Int) < (0 : Int))) : Bool) = false from decide_eq_false (by omega)) (f_val (o := ⟨some 110, _, _, _, _, _⟩) (.bool (decide ((B2.k : Int) < (0 : Int)))) rfl (wanted_at (b := true) true rfl rfl (hD 9 107 (by kernel_rfl))) (exec_ltn (p := B2.k) (q := 0) rfl (hD 11 109 (by kernel_rfl)) rfl) rfl)) ?_
            refine fsteps_cons 14 rfl (fun a u hE hD hk => f_val (o := ⟨some 111, _, _, _, _, _⟩) (.bool false) rfl (wanted_at (b := true) true rfl rfl (hD 9 107 (by kernel_rfl))) (exec_move (.tmp 110) _ rfl (hD 12 110 (by kernel_rfl))) rfl) ?_
            refine fsteps_cons 15 rfl (fun a u hE hD hk => f_val (o := ⟨some 112, _, _, _, _, _⟩) (.pointer (some ⟨g, 0, none⟩)) rfl (wanted_at (b := false) false rfl rfl (hD 13 111 (by kernel_rfl))) (exec_move (.tmp 9) _ rfl (hE 9 (.pointer (some ⟨g, 0, none⟩)) (by kernel_rfl) (by kernel_rfl))) rfl) ?_
            refine fsteps_cons 16 rfl (fun a u hE hD hk => f_call (o := ⟨some 113, _, _, _, _, _⟩) 14 #[.pointer (some ⟨g, 0, none⟩)] rfl (wanted_at (b := false) false rfl rfl (hD 13 111 (by kernel_rfl))) (exec_call 14 _ [.tmp 112] _ [.pointer (some ⟨g, 0, none⟩)] Try.func14 (by kernel_rfl) (by kernel_rfl) rfl (show [a.eval (.tmp 112)] = [.pointer (some ⟨g, 0, none⟩)] from (by rw [show a.eval (.tmp 112) = .pointer (some ⟨g, 0, none⟩) from (hD 14 112 (by kernel_rfl))] <;> rfl)) u) (left_any g B2 u (HBx.out.kept hk))) ?_
            refine fsteps_cons 17 rfl (fun a u hE hD hk => f_val (o := ⟨some 114, _, _, _, _, _⟩) (.int .i64 nb) rfl (wanted_at (b := false) false rfl rfl (hD 13 111 (by kernel_rfl))) (exec_move (.tmp 7) _ rfl (hE 7 (.int .i64 nb) (by kernel_rfl) (by kernel_rfl))) rfl) ?_
            refine fsteps_cons 18 rfl (fun a u hE hD hk => f_as (show ((decide ((nb : Int) ≤ (B2.k : Int))) : Bool) = false from decide_eq_false (by omega)) (f_val (o := ⟨some 115, _, _, _, _, _⟩) (.bool (decide ((nb : Int) ≤ (B2.k : Int)))) rfl (wanted_at (b := false) false rfl rfl (hD 13 111 (by kernel_rfl))) (exec_gen (p := B2.k) (q := nb) rfl (hD 15 113 (by kernel_rfl)) (hD 16 114 (by kernel_rfl))) rfl)) ?_
            refine fsteps_cons 19 rfl (fun a u hE hD hk => f_val (o := ⟨some 116, _, _, _, _, _⟩) (.bool false) rfl (wanted_at (b := true) true rfl rfl (hD 9 107 (by kernel_rfl))) (exec_pickF (.tmp 111) (.const (.bool true)) (.tmp 115) (.bool false) rfl (hD 13 111 (by kernel_rfl)) (hD 17 115 (by kernel_rfl))) rfl) ?_
            refine fsteps_cons 20 rfl (fun a u hE hD hk => f_val (o := ⟨some 117, _, _, _, _, _⟩) (.bool false) rfl (wanted_at (b := false) false rfl rfl (hD 7 105 (by kernel_rfl))) (exec_pick (.tmp 107) (.tmp 116) (.const (.bool false)) (.bool false) rfl (hD 9 107 (by kernel_rfl)) (hD 18 116 (by kernel_rfl))) rfl) ?_
            refine sv 21 rfl rfl rfl (fun a u hE hD hk => exec_pickF (.tmp 105) (.const (.bool true)) (.tmp 117) (.bool false) rfl (hD 7 105 (by kernel_rfl)) (hD 19 117 (by kernel_rfl))) ?_
            exact fsteps_nil
          intro gv wy hV ky
          rw [show dstsOf _ 21 = [98, 99, 100, 101, 102, 103, 104, 105, 106, 107, 108, 109, 110, 111, 112, 113, 114, 115, 116, 117, 118] by kernel_rfl]
          simp only [List.foldl_cons, List.foldl_nil, List.setIfInBounds_toArray, List.set_cons_succ, List.set_cons_zero, List.drop_succ_cons, List.drop_zero]
          rw [show gv 118 = .bool false from hV 20 118 (by kernel_rfl)]
          clear hV
          refine wpList_nil ?_
          have HBy := Lib.hid (HBx.out.kept ky)
          have kwy := kwx.trans ky
          clear HBx kwx ky
          go_upto_region 16 with fail
          refine wp_text 3 [.eq (.int .i64 la), .eq (.int .i64 nw), .eq (.int .i64 l2)] rfl (by kernel_rfl) ?_ ?_
          · refine sv 1 rfl rfl rfl (fun a u hE hD hk => exec_move (.tmp 11) _ rfl (hE 11 (.int .i64 la) (by kernel_rfl) (by kernel_rfl))) ?_
            refine sv 2 rfl rfl rfl (fun a u hE hD hk => exec_move (.tmp 13) _ rfl (hE 13 (.int .i64 nw) (by kernel_rfl) (by kernel_rfl))) ?_
            refine sv 3 rfl rfl rfl (fun a u hE hD hk => exec_maxn (.tmp 119) (.tmp 120) _ la nw l2 rfl (hD 0 119 (by kernel_rfl)) (hD 1 120 (by kernel_rfl)) HL2.out) ?_
            exact fsteps_nil
          intro gv wz hV kz
          rw [show dstsOf _ 3 = [119, 120, 121] by kernel_rfl]
          simp only [List.foldl_cons, List.foldl_nil, List.setIfInBounds_toArray, List.set_cons_succ, List.set_cons_zero, List.drop_succ_cons, List.drop_zero]
          rw [show gv 121 = .int .i64 l2 from hV 2 121 (by kernel_rfl)]
          clear hV
          refine l_val (o := ⟨some 11, _, _, _, _, _⟩) (.int .i64 l2) rfl (exec_assign (.tmp 121) (.int .i64 l2) rfl (by kernel_rfl)) ?_
          simp only [Act.put, List.setIfInBounds_toArray, List.set_cons_succ, List.set_cons_zero]
          refine wpList_nil ?_
          have HBz := Lib.hid (HBy.out.kept kz)
          have kwz := kwy.trans kz
          clear HBy kwy kz
          go_wp2
          exact ⟨⟨k + 1, l2, B2, by simp, rfl, by omega, by omega, by omega, by omega, HBz, HI2, kwz⟩, by simp [intOf]; omega⟩
        · skip
          by_cases hno : nw ≤ la
          · obtain ⟨e1, he1⟩ : ∃ e, (true != decide (0 < B.k)) = e := ⟨_, rfl⟩
            obtain ⟨d1, hd1⟩ : ∃ e, decide ((B2.k : Int) ≠ (((B.k : Int) - (1 : Int)) : Int)) = e := ⟨_, rfl⟩
            have HE := Lib.hid he1
            have HDD := Lib.hid hd1
            clear he1 hd1
            cases e1 with
            | true =>
              skip
              go_upto_region 12 with fail
              refine wp_text 40 [.eq (.int .i64 nw), .eq (.int .i64 la), .eq (.bool true), .eq (.bool true), .eq (.bool true), .eq (.int .i64 B.k), .eq (.bool (decide ((0 : Int) < (B.k : Int)))), .eq (.bool true), .eq (.bool true), .eq undef, .eq undef, .eq undef, .eq undef, .eq undef, .eq undef, .eq undef, .eq undef, .eq (.bool true), .eq (.bool true), .eq undef, .eq undef, .eq undef, .eq undef, .eq undef, .eq undef, .eq undef, .eq (.bool true), .eq (.bool true), .eq (.bool true), .eq (.int .i64 B.k), .eq (.int .i64 nb), .eq (.bool (decide ((B.k : Int) < (nb : Int)))), .eq (.bool (decide ((B.k : Int) < (nb : Int)))), .eq (.bool (decide ((B.k : Int) < (nb : Int)))), .cond (decide ((B.k : Int) < (nb : Int))) (.eq (.int .i64 nw)), .cond (decide ((B.k : Int) < (nb : Int))) (.eq (.int .i64 la)), .cond (decide ((B.k : Int) < (nb : Int))) (.eq (.int .i64 nr)), .cond (decide ((B.k : Int) < (nb : Int))) (.eq (.int .i64 ((la : Int) - (nr : Int)))), .cond (decide ((B.k : Int) < (nb : Int))) (.eq (.bool false)), .eq (.bool false)] rfl (by kernel_rfl) ?_ ?_
              · refine sv 1 rfl rfl rfl (fun a u hE hD hk => exec_move (.tmp 13) _ rfl (hE 13 (.int .i64 nw) (by kernel_rfl) (by kernel_rfl))) ?_
                refine sv 2 rfl rfl rfl (fun a u hE hD hk => exec_move (.tmp 11) _ rfl (hE 11 (.int .i64 la) (by kernel_rfl) (by kernel_rfl))) ?_
                refine fsteps_cons 3 rfl (fun a u hE hD hk => f_as (show ((decide ((nw : Int) ≤ (la : Int))) : Bool) = true from decide_eq_true hno) (f_val (o := ⟨some 60, _, _, _, _, _⟩) (.bool (decide ((nw : Int) ≤ (la : Int)))) rfl (wanted_none rfl _) (exec_len_ (p := nw) (q := la) rfl (hD 0 58 (by kernel_rfl)) (hD 1 59 (by kernel_rfl))) rfl)) ?_
                refine sv 4 rfl rfl rfl (fun a u hE hD hk => exec_move (.tmp 60) _ rfl (hD 2 60 (by kernel_rfl))) ?_
                refine fsteps_cons 5 rfl (fun a u hE hD hk => f_val (o := ⟨some 62, _, _, _, _, _⟩) (.bool true) rfl (wanted_at (b := true) true rfl rfl (hD 3 61 (by kernel_rfl))) (exec_move (.tmp 15) _ rfl (hE 15 (.bool true) (by kernel_rfl) (by kernel_rfl))) rfl) ?_
                refine fsteps_cons 6 rfl (fun a u hE hD hk => f_val (o := ⟨some 63, _, _, _, _, _⟩) (.int .i64 B.k) rfl (wanted_at (b := true) true rfl rfl (hD 3 61 (by kernel_rfl))) (exec_move (.tmp 14) _ rfl (hE 14 (.int .i64 B.k) (by kernel_rfl) (by kernel_rfl))) rfl) ?_
                refine fsteps_cons 7 rfl (fun a u hE hD hk => f_val (o := ⟨some 64, _, _, _, _, _⟩) (.bool (decide ((0 : Int) < (B.k : Int)))) rfl (wanted_at (b := true) true rfl rfl (hD 3 61 (by kernel_rfl))) (exec_gtn (p := B.k) (q := 0) rfl (hD 5 63 (by kernel_rfl)) rfl) rfl) ?_
                refine fsteps_cons 8 rfl (fun a u hE hD hk => f_val (o := ⟨some 65, _, _, _, _, _⟩) (.bool true) rfl (wanted_at (b := true) true rfl rfl (hD 3 61 (by kernel_rfl))) (exec_neb (.tmp 62) (.tmp 64) _ true (decide (0 < B.k)) true rfl (hD 4 62 (by kernel_rfl)) (hD 6 64 (by kernel_rfl)) HE.out) rfl) ?_
                refine fsteps_cons 9 rfl (fun a u hE hD hk => f_val (o := ⟨some 66, _, _, _, _, _⟩) (.bool true) rfl (wanted_at (b := true) true rfl rfl (hD 3 61 (by kernel_rfl))) (exec_move (.tmp 65) _ rfl (hD 7 65 (by kernel_rfl))) rfl) ?_
                refine fsteps_cons 10 rfl (fun a u hE hD hk => f_skip (o := ⟨some 67, _, _, _, _, _⟩) rfl (wanted_at (b := false) true rfl rfl (hD 8 66 (by kernel_rfl))) rfl) ?_
                refine fsteps_cons 11 rfl (fun a u hE hD hk => f_skip (o := ⟨some 68, _, _, _, _, _⟩) rfl (wanted_at (b := false) true rfl rfl (hD 8 66 (by kernel_rfl))) rfl) ?_
                refine fsteps_cons 12 rfl (fun a u hE hD hk => f_skip (o := ⟨some 69, _, _, _, _, _⟩) rfl (wanted_at (b := false) true rfl rfl (hD 8 66 (by kernel_rfl))) rfl) ?_
                refine fsteps_cons 13 rfl (fun a u hE hD hk => f_skip (o := ⟨some 70, _, _, _, _, _⟩) rfl (wanted_at (b := false) true rfl rfl (hD 8 66 (by kernel_rfl))) rfl) ?_
                refine fsteps_cons 14 rfl (fun a u hE hD hk => f_skip (o := ⟨some 71, _, _, _, _, _⟩) rfl (wanted_at (b := false) true rfl rfl (hD 8 66 (by kernel_rfl))) rfl) ?_
                refine fsteps_cons 15 rfl (fun a u hE hD hk => f_skip (o := ⟨some 72, _, _, _, _, _⟩) rfl (wanted_at (b := false) true rfl rfl (hD 8 66 (by kernel_rfl))) rfl) ?_
                refine fsteps_cons 16 rfl (fun a u hE hD hk => f_skip (o := ⟨some 73, _, _, _, _, _⟩) rfl (wanted_undef (b := true) rfl rfl (hD 14 72 (by kernel_rfl))) rfl) ?_
                refine fsteps_cons 17 rfl (fun a u hE hD hk => f_skip (o := ⟨some 74, _, _, _, _, _⟩) rfl (wanted_at (b := false) true rfl rfl (hD 8 66 (by kernel_rfl))) rfl) ?_
                refine fsteps_cons 18 rfl (fun a u hE hD hk => f_val (o := ⟨some 75, _, _, _, _, _⟩) (.bool true) rfl (wanted_at (b := true) true rfl rfl (hD 3 61 (by kernel_rfl))) (exec_pick (.tmp 66) (.const (.bool true)) (.tmp 74) (.bool true) rfl (hD 8 66 (by kernel_rfl)) rfl) rfl) ?_
                refine fsteps_cons 19 rfl (fun a u hE hD hk => f_val (o := ⟨some 76, _, _, _, _, _⟩) (.bool true) rfl (wanted_at (b := true) true rfl rfl (hD 3 61 (by kernel_rfl))) (exec_move (.tmp 75) _ rfl (hD 17 75 (by kernel_rfl))) rfl) ?_
                refine fsteps_cons 20 rfl (fun a u hE hD hk => f_skip (o := ⟨some 77, _, _, _, _, _⟩) rfl (wanted_at (b := false) true rfl rfl (hD 18 76 (by kernel_rfl))) rfl) ?_
                refine fsteps_cons 21 rfl (fun a u hE hD hk => f_skip (o := ⟨some 78, _, _, _, _, _⟩) rfl (wanted_at (b := false) true rfl rfl (hD 18 76 (by kernel_rfl))) rfl) ?_
                refine fsteps_cons 22 rfl (fun a u hE hD hk => f_skip (o := ⟨some 79, _, _, _, _, _⟩) rfl (wanted_at (b := false) true rfl rfl (hD 18 76 (by kernel_rfl))) rfl) ?_
                refine fsteps_cons 23 rfl (fun a u hE hD hk => f_skip (o := ⟨some 80, _, _, _, _, _⟩) rfl (wanted_undef (b := true) rfl rfl (hD 21 79 (by kernel_rfl))) rfl) ?_
                refine fsteps_cons 24 rfl (fun a u hE hD hk => f_skip (o := ⟨some 81, _, _, _, _, _⟩) rfl (wanted_undef (b := true) rfl rfl (hD 21 79 (by kernel_rfl))) rfl) ?_
                refine fsteps_cons 25 rfl (fun a u hE hD hk => f_skip (o := ⟨some 82, _, _, _, _, _⟩) rfl (wanted_undef (b := true) rfl rfl (hD 21 79 (by kernel_rfl))) rfl) ?_
                refine fsteps_cons 26 rfl (fun a u hE hD hk => f_skip (o := ⟨some 83, _, _, _, _, _⟩) rfl (wanted_at (b := false) true rfl rfl (hD 18 76 (by kernel_rfl))) rfl) ?_
                refine fsteps_cons 27 rfl (fun a u hE hD hk => f_val (o := ⟨some 84, _, _, _, _, _⟩) (.bool true) rfl (wanted_at (b := true) true rfl rfl (hD 3 61 (by kernel_rfl))) (exec_pick (.tmp 76) (.const (.bool true)) (.tmp 83) (.bool true) rfl (hD 18 76 (by kernel_rfl)) rfl) rfl) ?_
                refine sv 28 rfl rfl rfl (fun a u hE hD hk => exec_pick (.tmp 61) (.tmp 84) (.const (.bool false)) (.bool true) rfl (hD 3 61 (by kernel_rfl)) (hD 26 84 (by kernel_rfl))) ?_
                refine sv 29 rfl rfl rfl (fun a u hE hD hk => exec_move (.tmp 85) _ rfl (hD 27 85 (by kernel_rfl))) ?_
                refine fsteps_cons 30 rfl (fun a u hE hD hk => f_val (o := ⟨some 87, _, _, _, _, _⟩) (.int .i64 B.k) rfl (wanted_at (b := true) true rfl rfl (hD 28 86 (by kernel_rfl))) (exec_move (.tmp 14) _ rfl (hE 14 (.int .i64 B.k) (by kernel_rfl) (by kernel_rfl))) rfl) ?_
                refine fsteps_cons 31 rfl (fun a u hE hD hk => f_val (o := ⟨some 88, _, _, _, _, _⟩) (.int .i64 nb) rfl (wanted_at (b := true) true rfl rfl (hD 28 86 (by kernel_rfl))) (exec_move (.tmp 7) _ rfl (hE 7 (.int .i64 nb) (by kernel_rfl) (by kernel_rfl))) rfl) ?_
                refine fsteps_cons 32 rfl (fun a u hE hD hk => f_val (o := ⟨some 89, _, _, _, _, _⟩) (.bool (decide ((B.k : Int) < (nb : Int)))) rfl (wanted_at (b := true) true rfl rfl (hD 28 86 (by kernel_rfl))) (exec_ltn (p := B.k) (q := nb) rfl (hD 29 87 (by kernel_rfl)) (hD 30 88 (by kernel_rfl))) rfl) ?_
                refine sv 33 rfl rfl rfl (fun a u hE hD hk => exec_pick (.tmp 86) (.tmp 89) (.const (.bool false)) (.bool (decide ((B.k : Int) < (nb : Int)))) rfl (hD 28 86 (by kernel_rfl)) (hD 31 89 (by kernel_rfl))) ?_
                refine sv 34 rfl rfl rfl (fun a u hE hD hk => exec_move (.tmp 90) _ rfl (hD 32 90 (by kernel_rfl))) ?_
                refine fsteps_cons 35 rfl (fun a u hE hD hk => f_if ((decide ((B.k : Int) < (nb : Int)))) rfl rfl rfl (hD 33 91 (by kernel_rfl)) (fun hb => f_val (o := ⟨some 92, _, _, _, _, _⟩) (.int .i64 nw) rfl (wanted_b rfl rfl (hD 33 91 (by kernel_rfl)) (eq_true_of hb)) (exec_move (.tmp 13) _ rfl (hE 13 (.int .i64 nw) (by kernel_rfl) (by kernel_rfl))) rfl)) ?_
                refine fsteps_cons 36 rfl (fun a u hE hD hk => f_if ((decide ((B.k : Int) < (nb : Int)))) rfl rfl rfl (hD 33 91 (by kernel_rfl)) (fun hb => f_val (o := ⟨some 93, _, _, _, _, _⟩) (.int .i64 la) rfl (wanted_b rfl rfl (hD 33 91 (by kernel_rfl)) (eq_true_of hb)) (exec_move (.tmp 11) _ rfl (hE 11 (.int .i64 la) (by kernel_rfl) (by kernel_rfl))) rfl)) ?_
                refine fsteps_cons 37 rfl (fun a u hE hD hk => f_if ((decide ((B.k : Int) < (nb : Int)))) rfl rfl rfl (hD 33 91 (by kernel_rfl)) (fun hb => f_val (o := ⟨some 94, _, _, _, _, _⟩) (.int .i64 nr) rfl (wanted_b rfl rfl (hD 33 91 (by kernel_rfl)) (eq_true_of hb)) (exec_move (.tmp 8) _ rfl (hE 8 (.int .i64 nr) (by kernel_rfl) (by kernel_rfl))) rfl)) ?_
                refine fsteps_cons 38 rfl (fun a u hE hD hk => f_if ((decide ((B.k : Int) < (nb : Int)))) rfl rfl rfl (hD 33 91 (by kernel_rfl)) (fun hb => f_val (o := ⟨some 95, _, _, _, _, _⟩) (.int .i64 ((la : Int) - (nr : Int))) rfl (wanted_b rfl rfl (hD 33 91 (by kernel_rfl)) (eq_true_of hb)) (exec_subn (p := (la)) (q := (nr)) ((la : Int) - (nr : Int)) rfl ((hD 35 93 (by kernel_rfl)).1 hb) ((hD 36 94 (by kernel_rfl)).1 hb) rfl (by omega) (by omega)) rfl)) ?_
                refine fsteps_cons 39 rfl (fun a u hE hD hk => f_if ((decide ((B.k : Int) < (nb : Int)))) rfl rfl rfl (hD 33 91 (by kernel_rfl)) (fun hb => f_as (show ((decide ((nw : Int) < (((la : Int) - (nr : Int)) : Int))) : Bool) = false from decide_eq_false hback) (f_val (o := ⟨some 96, _, _, _, _, _⟩) (.bool (decide ((nw : Int) < (((la : Int) - (nr : Int)) : Int)))) rfl (wanted_b rfl rfl (hD 33 91 (by kernel_rfl)) (eq_true_of hb)) (exec_ltn (p := nw) (q := ((la : Int) - (nr : Int))) rfl ((hD 34 92 (by kernel_rfl)).1 hb) ((hD 37 95 (by kernel_rfl)).1 hb)) rfl))) ?_
                refine fsteps_cons 40 rfl (fun a u hE hD hk => f_as (show (((decide ((B.k : Int) < (nb : Int))) && false) : Bool) = false from Bool.and_false _) (f_val (o := ⟨some 97, _, _, _, _, _⟩) (.bool ((decide ((B.k : Int) < (nb : Int))) && false)) rfl (wanted_none rfl _) (exec_pickand (.tmp 91) (.tmp 96) (.const (.bool false)) ((decide ((B.k : Int) < (nb : Int)))) (false) rfl (hD 33 91 (by kernel_rfl)) (fun hb2 => ((hD 38 96 (by kernel_rfl)).1 hb2)) rfl) rfl)) ?_
                exact fsteps_nil
              intro gv wx hV kx
              rw [show dstsOf _ 40 = [58, 59, 60, 61, 62, 63, 64, 65, 66, 67, 68, 69, 70, 71, 72, 73, 74, 75, 76, 77, 78, 79, 80, 81, 82, 83, 84, 85, 86, 87, 88, 89, 90, 91, 92, 93, 94, 95, 96, 97] by kernel_rfl]
              simp only [List.foldl_cons, List.foldl_nil, List.setIfInBounds_toArray, List.set_cons_succ, List.set_cons_zero, List.drop_succ_cons, List.drop_zero]
              rw [show gv 97 = .bool false from hV 39 97 (by kernel_rfl)]
              clear hV
              refine wpList_nil ?_
              have HBx := Lib.hid (HB9.out.kept kx)
              have kwx := kw9.trans kx
              clear HB9 kw9 kx
              go_upto_region 14 with fail
              refine wp_text 21 [.eq (.bool true), .eq (.bool false), .eq (.bool false), .eq undef, .eq undef, .eq undef, .eq (.bool false), .eq (.bool false), .eq (.bool true), .eq (.bool true), .eq (.pointer (some ⟨g, 0, none⟩)), .eq (.int .i64 B2.k), .eq (.bool false), .eq (.bool false), .eq (.pointer (some ⟨g, 0, none⟩)), .eq (.int .i64 B2.k), .eq (.int .i64 nb), .eq (.bool false), .eq (.bool false), .eq (.bool false), .eq (.bool false)] rfl (by kernel_rfl) ?_ ?_
              · refine sv 1 rfl rfl rfl (fun a u hE hD hk => exec_move (.tmp 15) _ rfl (hE 15 (.bool true) (by kernel_rfl) (by kernel_rfl))) ?_
                refine sv 2 rfl rfl rfl (fun a u hE hD hk => exec_not _ (.tmp 98) true rfl (hD 0 98 (by kernel_rfl))) ?_
                refine sv 3 rfl rfl rfl (fun a u hE hD hk => exec_move (.tmp 99) _ rfl (hD 1 99 (by kernel_rfl))) ?_
                refine fsteps_cons 4 rfl (fun a u hE hD hk => f_skip (o := ⟨some 101, _, _, _, _, _⟩) rfl (wanted_at (b := true) false rfl rfl (hD 2 100 (by kernel_rfl))) rfl) ?_
                refine fsteps_cons 5 rfl (fun a u hE hD hk => f_skip (o := ⟨some 102, _, _, _, _, _⟩) rfl (wanted_at (b := true) false rfl rfl (hD 2 100 (by kernel_rfl))) rfl) ?_
                refine fsteps_cons 6 rfl (fun a u hE hD hk => f_skip (o := ⟨some 103, _, _, _, _, _⟩) rfl (wanted_at (b := true) false rfl rfl (hD 2 100 (by kernel_rfl))) rfl) ?_
                refine sv 7 rfl rfl rfl (fun a u hE hD hk => exec_pickF (.tmp 100) (.tmp 103) (.const (.bool false)) (.bool false) rfl (hD 2 100 (by kernel_rfl)) rfl) ?_
                refine sv 8 rfl rfl rfl (fun a u hE hD hk => exec_move (.tmp 104) _ rfl (hD 6 104 (by kernel_rfl))) ?_
                refine fsteps_cons 9 rfl (fun a u hE hD hk => f_val (o := ⟨some 106, _, _, _, _, _⟩) (.bool true) rfl (wanted_at (b := false) false rfl rfl (hD 7 105 (by kernel_rfl))) (exec_move (.tmp 15) _ rfl (hE 15 (.bool true) (by kernel_rfl) (by kernel_rfl))) rfl) ?_
                refine fsteps_cons 10 rfl (fun a u hE hD hk => f_val (o := ⟨some 107, _, _, _, _, _⟩) (.bool true) rfl (wanted_at (b := false) false rfl rfl (hD 7 105 (by kernel_rfl))) (exec_move (.tmp 106) _ rfl (hD 8 106 (by kernel_rfl))) rfl) ?_
                refine fsteps_cons 11 rfl (fun a u hE hD hk => f_val (o := ⟨some 108, _, _, _, _, _⟩) (.pointer (some ⟨g, 0, none⟩)) rfl (wanted_at (b := true) true rfl rfl (hD 9 107 (by kernel_rfl))) (exec_move (.tmp 9) _ rfl (hE 9 (.pointer (some ⟨g, 0, none⟩)) (by kernel_rfl) (by kernel_rfl))) rfl) ?_
                refine fsteps_cons 12 rfl (fun a u hE hD hk => f_call (o := ⟨some 109, _, _, _, _, _⟩) 14 #[.pointer (some ⟨g, 0, none⟩)] rfl (wanted_at (b := true) true rfl rfl (hD 9 107 (by kernel_rfl))) (exec_call 14 _ [.tmp 108] _ [.pointer (some ⟨g, 0, none⟩)] Try.func14 (by kernel_rfl) (by kernel_rfl) rfl (show [a.eval (.tmp 108)] = [.pointer (some ⟨g, 0, none⟩)] from (by rw [show a.eval (.tmp 108) = .pointer (some ⟨g, 0, none⟩) from (hD 10 108 (by kernel_rfl))] <;> rfl)) u) (left_any g B2 u (HBx.out.kept hk))) ?_
                refine fsteps_cons 13 rfl (fun a u hE hD hk => f_as (show ((decide ((B2.k : Int) < (0 : Int))) : Bool) = false from decide_eq_false (by omega)) (f_val (o := ⟨some 110, _, _, _, _, _⟩) (.bool (decide ((B2.k : Int) < (0 : Int)))) rfl (wanted_at (b := true) true rfl rfl (hD 9 107 (by kernel_rfl))) (exec_ltn (p := B2.k) (q := 0) rfl (hD 11 109 (by kernel_rfl)) rfl) rfl)) ?_
                refine fsteps_cons 14 rfl (fun a u hE hD hk => f_val (o := ⟨some 111, _, _, _, _, _⟩) (.bool false) rfl (wanted_at (b := true) true rfl rfl (hD 9 107 (by kernel_rfl))) (exec_move (.tmp 110) _ rfl (hD 12 110 (by kernel_rfl))) rfl) ?_
                refine fsteps_cons 15 rfl (fun a u hE hD hk => f_val (o := ⟨some 112, _, _, _, _, _⟩) (.pointer (some ⟨g, 0, none⟩)) rfl (wanted_at (b := false) false rfl rfl (hD 13 111 (by kernel_rfl))) (exec_move (.tmp 9) _ rfl (hE 9 (.pointer (some ⟨g, 0, none⟩)) (by kernel_rfl) (by kernel_rfl))) rfl) ?_
                refine fsteps_cons 16 rfl (fun a u hE hD hk => f_call (o := ⟨some 113, _, _, _, _, _⟩) 14 #[.pointer (some ⟨g, 0, none⟩)] rfl (wanted_at (b := false) false rfl rfl (hD 13 111 (by kernel_rfl))) (exec_call 14 _ [.tmp 112] _ [.pointer (some ⟨g, 0, none⟩)] Try.func14 (by kernel_rfl) (by kernel_rfl) rfl (show [a.eval (.tmp 112)] = [.pointer (some ⟨g, 0, none⟩)] from (by rw [show a.eval (.tmp 112) = .pointer (some ⟨g, 0, none⟩) from (hD 14 112 (by kernel_rfl))] <;> rfl)) u) (left_any g B2 u (HBx.out.kept hk))) ?_
                refine fsteps_cons 17 rfl (fun a u hE hD hk => f_val (o := ⟨some 114, _, _, _, _, _⟩) (.int .i64 nb) rfl (wanted_at (b := false) false rfl rfl (hD 13 111 (by kernel_rfl))) (exec_move (.tmp 7) _ rfl (hE 7 (.int .i64 nb) (by kernel_rfl) (by kernel_rfl))) rfl) ?_
                refine fsteps_cons 18 rfl (fun a u hE hD hk => f_as (show ((decide ((nb : Int) ≤ (B2.k : Int))) : Bool) = false from decide_eq_false (by omega)) (f_val (o := ⟨some 115, _, _, _, _, _⟩) (.bool (decide ((nb : Int) ≤ (B2.k : Int)))) rfl (wanted_at (b := false) false rfl rfl (hD 13 111 (by kernel_rfl))) (exec_gen (p := B2.k) (q := nb) rfl (hD 15 113 (by kernel_rfl)) (hD 16 114 (by kernel_rfl))) rfl)) ?_
                refine fsteps_cons 19 rfl (fun a u hE hD hk => f_val (o := ⟨some 116, _, _, _, _, _⟩) (.bool false) rfl (wanted_at (b := true) true rfl rfl (hD 9 107 (by kernel_rfl))) (exec_pickF (.tmp 111) (.const (.bool true)) (.tmp 115) (.bool false) rfl (hD 13 111 (by kernel_rfl)) (hD 17 115 (by kernel_rfl))) rfl) ?_
                refine fsteps_cons 20 rfl (fun a u hE hD hk => f_val (o := ⟨some 117, _, _, _, _, _⟩) (.bool false) rfl (wanted_at (b := false) false rfl rfl (hD 7 105 (by kernel_rfl))) (exec_pick (.tmp 107) (.tmp 116) (.const (.bool false)) (.bool false) rfl (hD 9 107 (by kernel_rfl)) (hD 18 116 (by kernel_rfl))) rfl) ?_
                refine sv 21 rfl rfl rfl (fun a u hE hD hk => exec_pickF (.tmp 105) (.const (.bool true)) (.tmp 117) (.bool false) rfl (hD 7 105 (by kernel_rfl)) (hD 19 117 (by kernel_rfl))) ?_
                exact fsteps_nil
              intro gv wy hV ky
              rw [show dstsOf _ 21 = [98, 99, 100, 101, 102, 103, 104, 105, 106, 107, 108, 109, 110, 111, 112, 113, 114, 115, 116, 117, 118] by kernel_rfl]
              simp only [List.foldl_cons, List.foldl_nil, List.setIfInBounds_toArray, List.set_cons_succ, List.set_cons_zero, List.drop_succ_cons, List.drop_zero]
              rw [show gv 118 = .bool false from hV 20 118 (by kernel_rfl)]
              clear hV
              refine wpList_nil ?_
              have HBy := Lib.hid (HBx.out.kept ky)
              have kwy := kwx.trans ky
              clear HBx kwx ky
              go_upto_region 16 with fail
              refine wp_text 3 [.eq (.int .i64 la), .eq (.int .i64 nw), .eq (.int .i64 l2)] rfl (by kernel_rfl) ?_ ?_
              · refine sv 1 rfl rfl rfl (fun a u hE hD hk => exec_move (.tmp 11) _ rfl (hE 11 (.int .i64 la) (by kernel_rfl) (by kernel_rfl))) ?_
                refine sv 2 rfl rfl rfl (fun a u hE hD hk => exec_move (.tmp 13) _ rfl (hE 13 (.int .i64 nw) (by kernel_rfl) (by kernel_rfl))) ?_
                refine sv 3 rfl rfl rfl (fun a u hE hD hk => exec_maxn (.tmp 119) (.tmp 120) _ la nw l2 rfl (hD 0 119 (by kernel_rfl)) (hD 1 120 (by kernel_rfl)) HL2.out) ?_
                exact fsteps_nil
              intro gv wz hV kz
              rw [show dstsOf _ 3 = [119, 120, 121] by kernel_rfl]
              simp only [List.foldl_cons, List.foldl_nil, List.setIfInBounds_toArray, List.set_cons_succ, List.set_cons_zero, List.drop_succ_cons, List.drop_zero]
              rw [show gv 121 = .int .i64 l2 from hV 2 121 (by kernel_rfl)]
              clear hV
              refine l_val (o := ⟨some 11, _, _, _, _, _⟩) (.int .i64 l2) rfl (exec_assign (.tmp 121) (.int .i64 l2) rfl (by kernel_rfl)) ?_
              simp only [Act.put, List.setIfInBounds_toArray, List.set_cons_succ, List.set_cons_zero]
              refine wpList_nil ?_
              have HBz := Lib.hid (HBy.out.kept kz)
              have kwz := kwy.trans kz
              clear HBy kwy kz
              go_wp2
              exact ⟨⟨k + 1, l2, B2, by simp, rfl, by omega, by omega, by omega, by omega, HBz, HI2, kwz⟩, by simp [intOf]; omega⟩
            | false =>
              cases d1 with
              | true =>
                skip
                go_upto_region 12 with fail
                refine wp_text 40 [.eq (.int .i64 nw), .eq (.int .i64 la), .eq (.bool true), .eq (.bool true), .eq (.bool true), .eq (.int .i64 B.k), .eq (.bool (decide ((0 : Int) < (B.k : Int)))), .eq (.bool false), .eq (.bool false), .eq (.pointer (some ⟨g, 0, none⟩)), .eq (.int .i64 B2.k), .eq (.int .i64 B.k), .eq (.int .i64 ((B.k : Int) - (1 : Int))), .eq (.bool true), .eq (.bool true), .eq (.bool true), .eq (.bool true), .eq (.bool true), .eq (.bool true), .eq undef, .eq undef, .eq undef, .eq undef, .eq undef, .eq undef, .eq undef, .eq (.bool true), .eq (.bool true), .eq (.bool true), .eq (.int .i64 B.k), .eq (.int .i64 nb), .eq (.bool (decide ((B.k : Int) < (nb : Int)))), .eq (.bool (decide ((B.k : Int) < (nb : Int)))), .eq (.bool (decide ((B.k : Int) < (nb : Int)))), .cond (decide ((B.k : Int) < (nb : Int))) (.eq (.int .i64 nw)), .cond (decide ((B.k : Int) < (nb : Int))) (.eq (.int .i64 la)), .cond (decide ((B.k : Int) < (nb : Int))) (.eq (.int .i64 nr)), .cond (decide ((B.k : Int) < (nb : Int))) (.eq (.int .i64 ((la : Int) - (nr : Int)))), .cond (decide ((B.k : Int) < (nb : Int))) (.eq (.bool false)), .eq (.bool false)] rfl (by kernel_rfl) ?_ ?_
                · refine sv 1 rfl rfl rfl (fun a u hE hD hk => exec_move (.tmp 13) _ rfl (hE 13 (.int .i64 nw) (by kernel_rfl) (by kernel_rfl))) ?_
                  refine sv 2 rfl rfl rfl (fun a u hE hD hk => exec_move (.tmp 11) _ rfl (hE 11 (.int .i64 la) (by kernel_rfl) (by kernel_rfl))) ?_
                  refine fsteps_cons 3 rfl (fun a u hE hD hk => f_as (show ((decide ((nw : Int) ≤ (la : Int))) : Bool) = true from decide_eq_true hno) (f_val (o := ⟨some 60, _, _, _, _, _⟩) (.bool (decide ((nw : Int) ≤ (la : Int)))) rfl (wanted_none rfl _) (exec_len_ (p := nw) (q := la) rfl (hD 0 58 (by kernel_rfl)) (hD 1 59 (by kernel_rfl))) rfl)) ?_
                  refine sv 4 rfl rfl rfl (fun a u hE hD hk => exec_move (.tmp 60) _ rfl (hD 2 60 (by kernel_rfl))) ?_
                  refine fsteps_cons 5 rfl (fun a u hE hD hk => f_val (o := ⟨some 62, _, _, _, _, _⟩) (.bool true) rfl (wanted_at (b := true) true rfl rfl (hD 3 61 (by kernel_rfl))) (exec_move (.tmp 15) _ rfl (hE 15 (.bool true) (by kernel_rfl) (by kernel_rfl))) rfl) ?_
                  refine fsteps_cons 6 rfl (fun a u hE hD hk => f_val (o := ⟨some 63, _, _, _, _, _⟩) (.int .i64 B.k) rfl (wanted_at (b := true) true rfl rfl (hD 3 61 (by kernel_rfl))) (exec_move (.tmp 14) _ rfl (hE 14 (.int .i64 B.k) (by kernel_rfl) (by kernel_rfl))) rfl) ?_
                  refine fsteps_cons 7 rfl (fun a u hE hD hk => f_val (o := ⟨some 64, _, _, _, _, _⟩) (.bool (decide ((0 : Int) < (B.k : Int)))) rfl (wanted_at (b := true) true rfl rfl (hD 3 61 (by kernel_rfl))) (exec_gtn (p := B.k) (q := 0) rfl (hD 5 63 (by kernel_rfl)) rfl) rfl) ?_
                  refine fsteps_cons 8 rfl (fun a u hE hD hk => f_val (o := ⟨some 65, _, _, _, _, _⟩) (.bool false) rfl (wanted_at (b := true) true rfl rfl (hD 3 61 (by kernel_rfl))) (exec_neb (.tmp 62) (.tmp 64) _ true (decide (0 < B.k)) false rfl (hD 4 62 (by kernel_rfl)) (hD 6 64 (by kernel_rfl)) HE.out) rfl) ?_
                  refine fsteps_cons 9 rfl (fun a u hE hD hk => f_val (o := ⟨some 66, _, _, _, _, _⟩) (.bool false) rfl (wanted_at (b := true) true rfl rfl (hD 3 61 (by kernel_rfl))) (exec_move (.tmp 65) _ rfl (hD 7 65 (by kernel_rfl))) rfl) ?_
                  refine fsteps_cons 10 rfl (fun a u hE hD hk => f_val (o := ⟨some 67, _, _, _, _, _⟩) (.pointer (some ⟨g, 0, none⟩)) rfl (wanted_at (b := false) false rfl rfl (hD 8 66 (by kernel_rfl))) (exec_move (.tmp 9) _ rfl (hE 9 (.pointer (some ⟨g, 0, none⟩)) (by kernel_rfl) (by kernel_rfl))) rfl) ?_
                  refine fsteps_cons 11 rfl (fun a u hE hD hk => f_call (o := ⟨some 68, _, _, _, _, _⟩) 14 #[.pointer (some ⟨g, 0, none⟩)] rfl (wanted_at (b := false) false rfl rfl (hD 8 66 (by kernel_rfl))) (exec_call 14 _ [.tmp 67] _ [.pointer (some ⟨g, 0, none⟩)] Try.func14 (by kernel_rfl) (by kernel_rfl) rfl (show [a.eval (.tmp 67)] = [.pointer (some ⟨g, 0, none⟩)] from (by rw [show a.eval (.tmp 67) = .pointer (some ⟨g, 0, none⟩) from (hD 9 67 (by kernel_rfl))] <;> rfl)) u) (left_any g B2 u (HB9.out.kept hk))) ?_
                  refine fsteps_cons 12 rfl (fun a u hE hD hk => f_val (o := ⟨some 69, _, _, _, _, _⟩) (.int .i64 B.k) rfl (wanted_at (b := false) false rfl rfl (hD 8 66 (by kernel_rfl))) (exec_move (.tmp 14) _ rfl (hE 14 (.int .i64 B.k) (by kernel_rfl) (by kernel_rfl))) rfl) ?_
                  refine fsteps_cons 13 rfl (fun a u hE hD hk => f_val (o := ⟨some 70, _, _, _, _, _⟩) (.int .i64 ((B.k : Int) - (1 : Int))) rfl (wanted_at (b := false) false rfl rfl (hD 8 66 (by kernel_rfl))) (exec_subn (p := (B.k)) (q := (1)) ((B.k : Int) - (1 : Int)) rfl (hD 11 69 (by kernel_rfl)) rfl rfl (by omega) (by omega)) rfl) ?_
                  refine fsteps_cons 14 rfl (fun a u hE hD hk => f_as (show ((decide ((B2.k : Int) ≠ (((B.k : Int) - (1 : Int)) : Int))) : Bool) = true from HDD.out) (f_val (o := ⟨some 71, _, _, _, _, _⟩) (.bool (decide ((B2.k : Int) ≠ (((B.k : Int) - (1 : Int)) : Int)))) rfl (wanted_at (b := false) false rfl rfl (hD 8 66 (by kernel_rfl))) (exec_nen (p := B2.k) (q := ((B.k : Int) - (1 : Int))) rfl (hD 10 68 (by kernel_rfl)) (hD 12 70 (by kernel_rfl))) rfl)) ?_
                  refine fsteps_cons 15 rfl (fun a u hE hD hk => f_val (o := ⟨some 72, _, _, _, _, _⟩) (.bool true) rfl (wanted_at (b := false) false rfl rfl (hD 8 66 (by kernel_rfl))) (exec_move (.tmp 71) _ rfl (hD 13 71 (by kernel_rfl))) rfl) ?_
                  refine fsteps_cons 16 rfl (fun a u hE hD hk => f_val (o := ⟨some 73, _, _, _, _, _⟩) (.bool true) rfl (wanted_at (b := true) true rfl rfl (hD 14 72 (by kernel_rfl))) (exec_move (.tmp 15) _ rfl (hE 15 (.bool true) (by kernel_rfl) (by kernel_rfl))) rfl) ?_
                  refine fsteps_cons 17 rfl (fun a u hE hD hk => f_val (o := ⟨some 74, _, _, _, _, _⟩) (.bool true) rfl (wanted_at (b := false) false rfl rfl (hD 8 66 (by kernel_rfl))) (exec_pick (.tmp 72) (.tmp 73) (.const (.bool false)) (.bool true) rfl (hD 14 72 (by kernel_rfl)) (hD 15 73 (by kernel_rfl))) rfl) ?_
                  refine fsteps_cons 18 rfl (fun a u hE hD hk => f_val (o := ⟨some 75, _, _, _, _, _⟩) (.bool true) rfl (wanted_at (b := true) true rfl rfl (hD 3 61 (by kernel_rfl))) (exec_pickF (.tmp 66) (.const (.bool true)) (.tmp 74) (.bool true) rfl (hD 8 66 (by kernel_rfl)) (hD 16 74 (by kernel_rfl))) rfl) ?_
                  refine fsteps_cons 19 rfl (fun a u hE hD hk => f_val (o := ⟨some 76, _, _, _, _, _⟩) (.bool true) rfl (wanted_at (b := true) true rfl rfl (hD 3 61 (by kernel_rfl))) (exec_move (.tmp 75) _ rfl (hD 17 75 (by kernel_rfl))) rfl) ?_
                  refine fsteps_cons 20 rfl (fun a u hE hD hk => f_skip (o := ⟨some 77, _, _, _, _, _⟩) rfl (wanted_at (b := false) true rfl rfl (hD 18 76 (by kernel_rfl))) rfl) ?_
                  refine fsteps_cons 21 rfl (fun a u hE hD hk => f_skip (o := ⟨some 78, _, _, _, _, _⟩) rfl (wanted_at (b := false) true rfl rfl (hD 18 76 (by kernel_rfl))) rfl) ?_
                  refine fsteps_cons 22 rfl (fun a u hE hD hk => f_skip (o := ⟨some 79, _, _, _, _, _⟩) rfl (wanted_at (b := false) true rfl rfl (hD 18 76 (by kernel_rfl))) rfl) ?_
                  refine fsteps_cons 23 rfl (fun a u hE hD hk => f_skip (o := ⟨some 80, _, _, _, _, _⟩) rfl (wanted_undef (b := true) rfl rfl (hD 21 79 (by kernel_rfl))) rfl) ?_
                  refine fsteps_cons 24 rfl (fun a u hE hD hk => f_skip (o := ⟨some 81, _, _, _, _, _⟩) rfl (wanted_undef (b := true) rfl rfl (hD 21 79 (by kernel_rfl))) rfl) ?_
                  refine fsteps_cons 25 rfl (fun a u hE hD hk => f_skip (o := ⟨some 82, _, _, _, _, _⟩) rfl (wanted_undef (b := true) rfl rfl (hD 21 79 (by kernel_rfl))) rfl) ?_
                  refine fsteps_cons 26 rfl (fun a u hE hD hk => f_skip (o := ⟨some 83, _, _, _, _, _⟩) rfl (wanted_at (b := false) true rfl rfl (hD 18 76 (by kernel_rfl))) rfl) ?_
                  refine fsteps_cons 27 rfl (fun a u hE hD hk => f_val (o := ⟨some 84, _, _, _, _, _⟩) (.bool true) rfl (wanted_at (b := true) true rfl rfl (hD 3 61 (by kernel_rfl))) (exec_pick (.tmp 76) (.const (.bool true)) (.tmp 83) (.bool true) rfl (hD 18 76 (by kernel_rfl)) rfl) rfl) ?_
                  refine sv 28 rfl rfl rfl (fun a u hE hD hk => exec_pick (.tmp 61) (.tmp 84) (.const (.bool false)) (.bool true) rfl (hD 3 61 (by kernel_rfl)) (hD 26 84 (by kernel_rfl))) ?_
                  refine sv 29 rfl rfl rfl (fun a u hE hD hk => exec_move (.tmp 85) _ rfl (hD 27 85 (by kernel_rfl))) ?_
                  refine fsteps_cons 30 rfl (fun a u hE hD hk => f_val (o := ⟨some 87, _, _, _, _, _⟩) (.int .i64 B.k) rfl (wanted_at (b := true) true rfl rfl (hD 28 86 (by kernel_rfl))) (exec_move (.tmp 14) _ rfl (hE 14 (.int .i64 B.k) (by kernel_rfl) (by kernel_rfl))) rfl) ?_
                  refine fsteps_cons 31 rfl (fun a u hE hD hk => f_val (o := ⟨some 88, _, _, _, _, _⟩) (.int .i64 nb) rfl (wanted_at (b := true) true rfl rfl (hD 28 86 (by kernel_rfl))) (exec_move (.tmp 7) _ rfl (hE 7 (.int .i64 nb) (by kernel_rfl) (by kernel_rfl))) rfl) ?_
                  refine fsteps_cons 32 rfl (fun a u hE hD hk => f_val (o := ⟨some 89, _, _, _, _, _⟩) (.bool (decide ((B.k : Int) < (nb : Int)))) rfl (wanted_at (b := true) true rfl rfl (hD 28 86 (by kernel_rfl))) (exec_ltn (p := B.k) (q := nb) rfl (hD 29 87 (by kernel_rfl)) (hD 30 88 (by kernel_rfl))) rfl) ?_
                  refine sv 33 rfl rfl rfl (fun a u hE hD hk => exec_pick (.tmp 86) (.tmp 89) (.const (.bool false)) (.bool (decide ((B.k : Int) < (nb : Int)))) rfl (hD 28 86 (by kernel_rfl)) (hD 31 89 (by kernel_rfl))) ?_
                  refine sv 34 rfl rfl rfl (fun a u hE hD hk => exec_move (.tmp 90) _ rfl (hD 32 90 (by kernel_rfl))) ?_
                  refine fsteps_cons 35 rfl (fun a u hE hD hk => f_if ((decide ((B.k : Int) < (nb : Int)))) rfl rfl rfl (hD 33 91 (by kernel_rfl)) (fun hb => f_val (o := ⟨some 92, _, _, _, _, _⟩) (.int .i64 nw) rfl (wanted_b rfl rfl (hD 33 91 (by kernel_rfl)) (eq_true_of hb)) (exec_move (.tmp 13) _ rfl (hE 13 (.int .i64 nw) (by kernel_rfl) (by kernel_rfl))) rfl)) ?_
                  refine fsteps_cons 36 rfl (fun a u hE hD hk => f_if ((decide ((B.k : Int) < (nb : Int)))) rfl rfl rfl (hD 33 91 (by kernel_rfl)) (fun hb => f_val (o := ⟨some 93, _, _, _, _, _⟩) (.int .i64 la) rfl (wanted_b rfl rfl (hD 33 91 (by kernel_rfl)) (eq_true_of hb)) (exec_move (.tmp 11) _ rfl (hE 11 (.int .i64 la) (by kernel_rfl) (by kernel_rfl))) rfl)) ?_
                  refine fsteps_cons 37 rfl (fun a u hE hD hk => f_if ((decide ((B.k : Int) < (nb : Int)))) rfl rfl rfl (hD 33 91 (by kernel_rfl)) (fun hb => f_val (o := ⟨some 94, _, _, _, _, _⟩) (.int .i64 nr) rfl (wanted_b rfl rfl (hD 33 91 (by kernel_rfl)) (eq_true_of hb)) (exec_move (.tmp 8) _ rfl (hE 8 (.int .i64 nr) (by kernel_rfl) (by kernel_rfl))) rfl)) ?_
                  refine fsteps_cons 38 rfl (fun a u hE hD hk => f_if ((decide ((B.k : Int) < (nb : Int)))) rfl rfl rfl (hD 33 91 (by kernel_rfl)) (fun hb => f_val (o := ⟨some 95, _, _, _, _, _⟩) (.int .i64 ((la : Int) - (nr : Int))) rfl (wanted_b rfl rfl (hD 33 91 (by kernel_rfl)) (eq_true_of hb)) (exec_subn (p := (la)) (q := (nr)) ((la : Int) - (nr : Int)) rfl ((hD 35 93 (by kernel_rfl)).1 hb) ((hD 36 94 (by kernel_rfl)).1 hb) rfl (by omega) (by omega)) rfl)) ?_
                  refine fsteps_cons 39 rfl (fun a u hE hD hk => f_if ((decide ((B.k : Int) < (nb : Int)))) rfl rfl rfl (hD 33 91 (by kernel_rfl)) (fun hb => f_as (show ((decide ((nw : Int) < (((la : Int) - (nr : Int)) : Int))) : Bool) = false from decide_eq_false hback) (f_val (o := ⟨some 96, _, _, _, _, _⟩) (.bool (decide ((nw : Int) < (((la : Int) - (nr : Int)) : Int)))) rfl (wanted_b rfl rfl (hD 33 91 (by kernel_rfl)) (eq_true_of hb)) (exec_ltn (p := nw) (q := ((la : Int) - (nr : Int))) rfl ((hD 34 92 (by kernel_rfl)).1 hb) ((hD 37 95 (by kernel_rfl)).1 hb)) rfl))) ?_
                  refine fsteps_cons 40 rfl (fun a u hE hD hk => f_as (show (((decide ((B.k : Int) < (nb : Int))) && false) : Bool) = false from Bool.and_false _) (f_val (o := ⟨some 97, _, _, _, _, _⟩) (.bool ((decide ((B.k : Int) < (nb : Int))) && false)) rfl (wanted_none rfl _) (exec_pickand (.tmp 91) (.tmp 96) (.const (.bool false)) ((decide ((B.k : Int) < (nb : Int)))) (false) rfl (hD 33 91 (by kernel_rfl)) (fun hb2 => ((hD 38 96 (by kernel_rfl)).1 hb2)) rfl) rfl)) ?_
                  exact fsteps_nil
                intro gv wx hV kx
                rw [show dstsOf _ 40 = [58, 59, 60, 61, 62, 63, 64, 65, 66, 67, 68, 69, 70, 71, 72, 73, 74, 75, 76, 77, 78, 79, 80, 81, 82, 83, 84, 85, 86, 87, 88, 89, 90, 91, 92, 93, 94, 95, 96, 97] by kernel_rfl]
                simp only [List.foldl_cons, List.foldl_nil, List.setIfInBounds_toArray, List.set_cons_succ, List.set_cons_zero, List.drop_succ_cons, List.drop_zero]
                rw [show gv 97 = .bool false from hV 39 97 (by kernel_rfl)]
                clear hV
                refine wpList_nil ?_
                have HBx := Lib.hid (HB9.out.kept kx)
                have kwx := kw9.trans kx
                clear HB9 kw9 kx
                go_upto_region 14 with fail
                refine wp_text 21 [.eq (.bool true), .eq (.bool false), .eq (.bool false), .eq undef, .eq undef, .eq undef, .eq (.bool false), .eq (.bool false), .eq (.bool true), .eq (.bool true), .eq (.pointer (some ⟨g, 0, none⟩)), .eq (.int .i64 B2.k), .eq (.bool false), .eq (.bool false), .eq (.pointer (some ⟨g, 0, none⟩)), .eq (.int .i64 B2.k), .eq (.int .i64 nb), .eq (.bool false), .eq (.bool false), .eq (.bool false), .eq (.bool false)] rfl (by kernel_rfl) ?_ ?_
                · refine sv 1 rfl rfl rfl (fun a u hE hD hk => exec_move (.tmp 15) _ rfl (hE 15 (.bool true) (by kernel_rfl) (by kernel_rfl))) ?_
                  refine sv 2 rfl rfl rfl (fun a u hE hD hk => exec_not _ (.tmp 98) true rfl (hD 0 98 (by kernel_rfl))) ?_
                  refine sv 3 rfl rfl rfl (fun a u hE hD hk => exec_move (.tmp 99) _ rfl (hD 1 99 (by kernel_rfl))) ?_
                  refine fsteps_cons 4 rfl (fun a u hE hD hk => f_skip (o := ⟨some 101, _, _, _, _, _⟩) rfl (wanted_at (b := true) false rfl rfl (hD 2 100 (by kernel_rfl))) rfl) ?_
                  refine fsteps_cons 5 rfl (fun a u hE hD hk => f_skip (o := ⟨some 102, _, _, _, _, _⟩) rfl (wanted_at (b := true) false rfl rfl (hD 2 100 (by kernel_rfl))) rfl) ?_
                  refine fsteps_cons 6 rfl (fun a u hE hD hk => f_skip (o := ⟨some 103, _, _, _, _, _⟩) rfl (wanted_at (b := true) false rfl rfl (hD 2 100 (by kernel_rfl))) rfl) ?_
                  refine sv 7 rfl rfl rfl (fun a u hE hD hk => exec_pickF (.tmp 100) (.tmp 103) (.const (.bool false)) (.bool false) rfl (hD 2 100 (by kernel_rfl)) rfl) ?_
                  refine sv 8 rfl rfl rfl (fun a u hE hD hk => exec_move (.tmp 104) _ rfl (hD 6 104 (by kernel_rfl))) ?_
                  refine fsteps_cons 9 rfl (fun a u hE hD hk => f_val (o := ⟨some 106, _, _, _, _, _⟩) (.bool true) rfl (wanted_at (b := false) false rfl rfl (hD 7 105 (by kernel_rfl))) (exec_move (.tmp 15) _ rfl (hE 15 (.bool true) (by kernel_rfl) (by kernel_rfl))) rfl) ?_
                  refine fsteps_cons 10 rfl (fun a u hE hD hk => f_val (o := ⟨some 107, _, _, _, _, _⟩) (.bool true) rfl (wanted_at (b := false) false rfl rfl (hD 7 105 (by kernel_rfl))) (exec_move (.tmp 106) _ rfl (hD 8 106 (by kernel_rfl))) rfl) ?_
                  refine fsteps_cons 11 rfl (fun a u hE hD hk => f_val (o := ⟨some 108, _, _, _, _, _⟩) (.pointer (some ⟨g, 0, none⟩)) rfl (wanted_at (b := true) true rfl rfl (hD 9 107 (by kernel_rfl))) (exec_move (.tmp 9) _ rfl (hE 9 (.pointer (some ⟨g, 0, none⟩)) (by kernel_rfl) (by kernel_rfl))) rfl) ?_
                  refine fsteps_cons 12 rfl (fun a u hE hD hk => f_call (o := ⟨some 109, _, _, _, _, _⟩) 14 #[.pointer (some ⟨g, 0, none⟩)] rfl (wanted_at (b := true) true rfl rfl (hD 9 107 (by kernel_rfl))) (exec_call 14 _ [.tmp 108] _ [.pointer (some ⟨g, 0, none⟩)] Try.func14 (by kernel_rfl) (by kernel_rfl) rfl (show [a.eval (.tmp 108)] = [.pointer (some ⟨g, 0, none⟩)] from (by rw [show a.eval (.tmp 108) = .pointer (some ⟨g, 0, none⟩) from (hD 10 108 (by kernel_rfl))] <;> rfl)) u) (left_any g B2 u (HBx.out.kept hk))) ?_
                  refine fsteps_cons 13 rfl (fun a u hE hD hk => f_as (show ((decide ((B2.k : Int) < (0 : Int))) : Bool) = false from decide_eq_false (by omega)) (f_val (o := ⟨some 110, _, _, _, _, _⟩) (.bool (decide ((B2.k : Int) < (0 : Int)))) rfl (wanted_at (b := true) true rfl rfl (hD 9 107 (by kernel_rfl))) (exec_ltn (p := B2.k) (q := 0) rfl (hD 11 109 (by kernel_rfl)) rfl) rfl)) ?_
                  refine fsteps_cons 14 rfl (fun a u hE hD hk => f_val (o := ⟨some 111, _, _, _, _, _⟩) (.bool false) rfl (wanted_at (b := true) true rfl rfl (hD 9 107 (by kernel_rfl))) (exec_move (.tmp 110) _ rfl (hD 12 110 (by kernel_rfl))) rfl) ?_
                  refine fsteps_cons 15 rfl (fun a u hE hD hk => f_val (o := ⟨some 112, _, _, _, _, _⟩) (.pointer (some ⟨g, 0, none⟩)) rfl (wanted_at (b := false) false rfl rfl (hD 13 111 (by kernel_rfl))) (exec_move (.tmp 9) _ rfl (hE 9 (.pointer (some ⟨g, 0, none⟩)) (by kernel_rfl) (by kernel_rfl))) rfl) ?_
                  refine fsteps_cons 16 rfl (fun a u hE hD hk => f_call (o := ⟨some 113, _, _, _, _, _⟩) 14 #[.pointer (some ⟨g, 0, none⟩)] rfl (wanted_at (b := false) false rfl rfl (hD 13 111 (by kernel_rfl))) (exec_call 14 _ [.tmp 112] _ [.pointer (some ⟨g, 0, none⟩)] Try.func14 (by kernel_rfl) (by kernel_rfl) rfl (show [a.eval (.tmp 112)] = [.pointer (some ⟨g, 0, none⟩)] from (by rw [show a.eval (.tmp 112) = .pointer (some ⟨g, 0, none⟩) from (hD 14 112 (by kernel_rfl))] <;> rfl)) u) (left_any g B2 u (HBx.out.kept hk))) ?_
                  refine fsteps_cons 17 rfl (fun a u hE hD hk => f_val (o := ⟨some 114, _, _, _, _, _⟩) (.int .i64 nb) rfl (wanted_at (b := false) false rfl rfl (hD 13 111 (by kernel_rfl))) (exec_move (.tmp 7) _ rfl (hE 7 (.int .i64 nb) (by kernel_rfl) (by kernel_rfl))) rfl) ?_
                  refine fsteps_cons 18 rfl (fun a u hE hD hk => f_as (show ((decide ((nb : Int) ≤ (B2.k : Int))) : Bool) = false from decide_eq_false (by omega)) (f_val (o := ⟨some 115, _, _, _, _, _⟩) (.bool (decide ((nb : Int) ≤ (B2.k : Int)))) rfl (wanted_at (b := false) false rfl rfl (hD 13 111 (by kernel_rfl))) (exec_gen (p := B2.k) (q := nb) rfl (hD 15 113 (by kernel_rfl)) (hD 16 114 (by kernel_rfl))) rfl)) ?_
                  refine fsteps_cons 19 rfl (fun a u hE hD hk => f_val (o := ⟨some 116, _, _, _, _, _⟩) (.bool false) rfl (wanted_at (b := true) true rfl rfl (hD 9 107 (by kernel_rfl))) (exec_pickF (.tmp 111) (.const (.bool true)) (.tmp 115) (.bool false) rfl (hD 13 111 (by kernel_rfl)) (hD 17 115 (by kernel_rfl))) rfl) ?_
                  refine fsteps_cons 20 rfl (fun a u hE hD hk => f_val (o := ⟨some 117, _, _, _, _, _⟩) (.bool false) rfl (wanted_at (b := false) false rfl rfl (hD 7 105 (by kernel_rfl))) (exec_pick (.tmp 107) (.tmp 116) (.const (.bool false)) (.bool false) rfl (hD 9 107 (by kernel_rfl)) (hD 18 116 (by kernel_rfl))) rfl) ?_
                  refine sv 21 rfl rfl rfl (fun a u hE hD hk => exec_pickF (.tmp 105) (.const (.bool true)) (.tmp 117) (.bool false) rfl (hD 7 105 (by kernel_rfl)) (hD 19 117 (by kernel_rfl))) ?_
                  exact fsteps_nil
                intro gv wy hV ky
                rw [show dstsOf _ 21 = [98, 99, 100, 101, 102, 103, 104, 105, 106, 107, 108, 109, 110, 111, 112, 113, 114, 115, 116, 117, 118] by kernel_rfl]
                simp only [List.foldl_cons, List.foldl_nil, List.setIfInBounds_toArray, List.set_cons_succ, List.set_cons_zero, List.drop_succ_cons, List.drop_zero]
                rw [show gv 118 = .bool false from hV 20 118 (by kernel_rfl)]
                clear hV
                refine wpList_nil ?_
                have HBy := Lib.hid (HBx.out.kept ky)
                have kwy := kwx.trans ky
                clear HBx kwx ky
                go_upto_region 16 with fail
                refine wp_text 3 [.eq (.int .i64 la), .eq (.int .i64 nw), .eq (.int .i64 l2)] rfl (by kernel_rfl) ?_ ?_
                · refine sv 1 rfl rfl rfl (fun a u hE hD hk => exec_move (.tmp 11) _ rfl (hE 11 (.int .i64 la) (by kernel_rfl) (by kernel_rfl))) ?_
                  refine sv 2 rfl rfl rfl (fun a u hE hD hk => exec_move (.tmp 13) _ rfl (hE 13 (.int .i64 nw) (by kernel_rfl) (by kernel_rfl))) ?_
                  refine sv 3 rfl rfl rfl (fun a u hE hD hk => exec_maxn (.tmp 119) (.tmp 120) _ la nw l2 rfl (hD 0 119 (by kernel_rfl)) (hD 1 120 (by kernel_rfl)) HL2.out) ?_
                  exact fsteps_nil
                intro gv wz hV kz
                rw [show dstsOf _ 3 = [119, 120, 121] by kernel_rfl]
                simp only [List.foldl_cons, List.foldl_nil, List.setIfInBounds_toArray, List.set_cons_succ, List.set_cons_zero, List.drop_succ_cons, List.drop_zero]
                rw [show gv 121 = .int .i64 l2 from hV 2 121 (by kernel_rfl)]
                clear hV
                refine l_val (o := ⟨some 11, _, _, _, _, _⟩) (.int .i64 l2) rfl (exec_assign (.tmp 121) (.int .i64 l2) rfl (by kernel_rfl)) ?_
                simp only [Act.put, List.setIfInBounds_toArray, List.set_cons_succ, List.set_cons_zero]
                refine wpList_nil ?_
                have HBz := Lib.hid (HBy.out.kept kz)
                have kwz := kwy.trans kz
                clear HBy kwy kz
                go_wp2
                exact ⟨⟨k + 1, l2, B2, by simp, rfl, by omega, by omega, by omega, by omega, HBz, HI2, kwz⟩, by simp [intOf]; omega⟩
              | false =>
                skip
                go_upto_region 12 with fail
                refine wp_text 40 [.eq (.int .i64 nw), .eq (.int .i64 la), .eq (.bool true), .eq (.bool true), .eq (.bool true), .eq (.int .i64 B.k), .eq (.bool (decide ((0 : Int) < (B.k : Int)))), .eq (.bool false), .eq (.bool false), .eq (.pointer (some ⟨g, 0, none⟩)), .eq (.int .i64 B2.k), .eq (.int .i64 B.k), .eq (.int .i64 ((B.k : Int) - (1 : Int))), .eq (.bool false), .eq (.bool false), .eq undef, .eq (.bool false), .eq (.bool false), .eq (.bool false), .eq (.bool true), .eq (.bool false), .eq (.bool false), .eq undef, .eq undef, .eq undef, .eq (.bool false), .eq (.bool false), .eq (.bool false), .eq (.bool false), .eq undef, .eq undef, .eq undef, .eq (.bool false), .eq (.bool false), .eq undef, .eq undef, .eq undef, .eq undef, .eq undef, .eq (.bool false)] rfl (by kernel_rfl) ?_ ?_
                · refine sv 1 rfl rfl rfl (fun a u hE hD hk => exec_move (.tmp 13) _ rfl (hE 13 (.int .i64 nw) (by kernel_rfl) (by kernel_rfl))) ?_
                  refine sv 2 rfl rfl rfl (fun a u hE hD hk => exec_move (.tmp 11) _ rfl (hE 11 (.int .i64 la) (by kernel_rfl) (by kernel_rfl))) ?_
                  refine fsteps_cons 3 rfl (fun a u hE hD hk => f_as (show ((decide ((nw : Int) ≤ (la : Int))) : Bool) = true from decide_eq_true hno) (f_val (o := ⟨some 60, _, _, _, _, _⟩) (.bool (decide ((nw : Int) ≤ (la : Int)))) rfl (wanted_none rfl _) (exec_len_ (p := nw) (q := la) rfl (hD 0 58 (by kernel_rfl)) (hD 1 59 (by kernel_rfl))) rfl)) ?_
                  refine sv 4 rfl rfl rfl (fun a u hE hD hk => exec_move (.tmp 60) _ rfl (hD 2 60 (by kernel_rfl))) ?_
                  refine fsteps_cons 5 rfl (fun a u hE hD hk => f_val (o := ⟨some 62, _, _, _, _, _⟩) (.bool true) rfl (wanted_at (b := true) true rfl rfl (hD 3 61 (by kernel_rfl))) (exec_move (.tmp 15) _ rfl (hE 15 (.bool true) (by kernel_rfl) (by kernel_rfl))) rfl) ?_
                  refine fsteps_cons 6 rfl (fun a u hE hD hk => f_val (o := ⟨some 63, _, _, _, _, _⟩) (.int .i64 B.k) rfl (wanted_at (b := true) true rfl rfl (hD 3 61 (by kernel_rfl))) (exec_move (.tmp 14) _ rfl (hE 14 (.int .i64 B.k) (by kernel_rfl) (by kernel_rfl))) rfl) ?_
                  refine fsteps_cons 7 rfl (fun a u hE hD hk => f_val (o := ⟨some 64, _, _, _, _, _⟩) (.bool (decide ((0 : Int) < (B.k : Int)))) rfl (wanted_at (b := true) true rfl rfl (hD 3 61 (by kernel_rfl))) (exec_gtn (p := B.k) (q := 0) rfl (hD 5 63 (by kernel_rfl)) rfl) rfl) ?_
                  refine fsteps_cons 8 rfl (fun a u hE hD hk => f_val (o := ⟨some 65, _, _, _, _, _⟩) (.bool false) rfl (wanted_at (b := true) true rfl rfl (hD 3 61 (by kernel_rfl))) (exec_neb (.tmp 62) (.tmp 64) _ true (decide (0 < B.k)) false rfl (hD 4 62 (by kernel_rfl)) (hD 6 64 (by kernel_rfl)) HE.out) rfl) ?_
                  refine fsteps_cons 9 rfl (fun a u hE hD hk => f_val (o := ⟨some 66, _, _, _, _, _⟩) (.bool false) rfl (wanted_at (b := true) true rfl rfl (hD 3 61 (by kernel_rfl))) (exec_move (.tmp 65) _ rfl (hD 7 65 (by kernel_rfl))) rfl) ?_
                  refine fsteps_cons 10 rfl (fun a u hE hD hk => f_val (o := ⟨some 67, _, _, _, _, _⟩) (.pointer (some ⟨g, 0, none⟩)) rfl (wanted_at (b := false) false rfl rfl (hD 8 66 (by kernel_rfl))) (exec_move (.tmp 9) _ rfl (hE 9 (.pointer (some ⟨g, 0, none⟩)) (by kernel_rfl) (by kernel_rfl))) rfl) ?_
                  refine fsteps_cons 11 rfl (fun a u hE hD hk => f_call (o := ⟨some 68, _, _, _, _, _⟩) 14 #[.pointer (some ⟨g, 0, none⟩)] rfl (wanted_at (b := false) false rfl rfl (hD 8 66 (by kernel_rfl))) (exec_call 14 _ [.tmp 67] _ [.pointer (some ⟨g, 0, none⟩)] Try.func14 (by kernel_rfl) (by kernel_rfl) rfl (show [a.eval (.tmp 67)] = [.pointer (some ⟨g, 0, none⟩)] from (by rw [show a.eval (.tmp 67) = .pointer (some ⟨g, 0, none⟩) from (hD 9 67 (by kernel_rfl))] <;> rfl)) u) (left_any g B2 u (HB9.out.kept hk))) ?_
                  refine fsteps_cons 12 rfl (fun a u hE hD hk => f_val (o := ⟨some 69, _, _, _, _, _⟩) (.int .i64 B.k) rfl (wanted_at (b := false) false rfl rfl (hD 8 66 (by kernel_rfl))) (exec_move (.tmp 14) _ rfl (hE 14 (.int .i64 B.k) (by kernel_rfl) (by kernel_rfl))) rfl) ?_
                  refine fsteps_cons 13 rfl (fun a u hE hD hk => f_val (o := ⟨some 70, _, _, _, _, _⟩) (.int .i64 ((B.k : Int) - (1 : Int))) rfl (wanted_at (b := false) false rfl rfl (hD 8 66 (by kernel_rfl))) (exec_subn (p := (B.k)) (q := (1)) ((B.k : Int) - (1 : Int)) rfl (hD 11 69 (by kernel_rfl)) rfl rfl (by omega) (by omega)) rfl) ?_
                  refine fsteps_cons 14 rfl (fun a u hE hD hk => f_as (show ((decide ((B2.k : Int) ≠ (((B.k : Int) - (1 : Int)) : Int))) : Bool) = false from HDD.out) (f_val (o := ⟨some 71, _, _, _, _, _⟩) (.bool (decide ((B2.k : Int) ≠ (((B.k : Int) - (1 : Int)) : Int)))) rfl (wanted_at (b := false) false rfl rfl (hD 8 66 (by kernel_rfl))) (exec_nen (p := B2.k) (q := ((B.k : Int) - (1 : Int))) rfl (hD 10 68 (by kernel_rfl)) (hD 12 70 (by kernel_rfl))) rfl)) ?_
                  refine fsteps_cons 15 rfl (fun a u hE hD hk => f_val (o := ⟨some 72, _, _, _, _, _⟩) (.bool false) rfl (wanted_at (b := false) false rfl rfl (hD 8 66 (by kernel_rfl))) (exec_move (.tmp 71) _ rfl (hD 13 71 (by kernel_rfl))) rfl) ?_
                  refine fsteps_cons 16 rfl (fun a u hE hD hk => f_skip (o := ⟨some 73, _, _, _, _, _⟩) rfl (wanted_at (b := true) false rfl rfl (hD 14 72 (by kernel_rfl))) rfl) ?_
                  refine fsteps_cons 17 rfl (fun a u hE hD hk => f_val (o := ⟨some 74, _, _, _, _, _⟩) (.bool false) rfl (wanted_at (b := false) false rfl rfl (hD 8 66 (by kernel_rfl))) (exec_pickF (.tmp 72) (.tmp 73) (.const (.bool false)) (.bool false) rfl (hD 14 72 (by kernel_rfl)) rfl) rfl) ?_
                  refine fsteps_cons 18 rfl (fun a u hE hD hk => f_val (o := ⟨some 75, _, _, _, _, _⟩) (.bool false) rfl (wanted_at (b := true) true rfl rfl (hD 3 61 (by kernel_rfl))) (exec_pickF (.tmp 66) (.const (.bool true)) (.tmp 74) (.bool false) rfl (hD 8 66 (by kernel_rfl)) (hD 16 74 (by kernel_rfl))) rfl) ?_
                  refine fsteps_cons 19 rfl (fun a u hE hD hk => f_val (o := ⟨some 76, _, _, _, _, _⟩) (.bool false) rfl (wanted_at (b := true) true rfl rfl (hD 3 61 (by kernel_rfl))) (exec_move (.tmp 75) _ rfl (hD 17 75 (by kernel_rfl))) rfl) ?_
                  refine fsteps_cons 20 rfl (fun a u hE hD hk => f_val (o := ⟨some 77, _, _, _, _, _⟩) (.bool true) rfl (wanted_at (b := false) false rfl rfl (hD 18 76 (by kernel_rfl))) (exec_move (.tmp 15) _ rfl (hE 15 (.bool true) (by kernel_rfl) (by kernel_rfl))) rfl) ?_
                  refine fsteps_cons 21 rfl (fun a u hE hD hk => f_val (o := ⟨some 78, _, _, _, _, _⟩) (.bool false) rfl (wanted_at (b := false) false rfl rfl (hD 18 76 (by kernel_rfl))) (exec_not _ (.tmp 77) true rfl (hD 19 77 (by kernel_rfl))) rfl) ?_
                  refine fsteps_cons 22 rfl (fun a u hE hD hk => f_val (o := ⟨some 79, _, _, _, _, _⟩) (.bool false) rfl (wanted_at (b := false) false rfl rfl (hD 18 76 (by kernel_rfl))) (exec_move (.tmp 78) _ rfl (hD 20 78 (by kernel_rfl))) rfl) ?_
                  refine fsteps_cons 23 rfl (fun a u hE hD hk => f_skip (o := ⟨some 80, _, _, _, _, _⟩) rfl (wanted_at (b := true) false rfl rfl (hD 21 79 (by kernel_rfl))) rfl) ?_
                  refine fsteps_cons 24 rfl (fun a u hE hD hk => f_skip (o := ⟨some 81, _, _, _, _, _⟩) rfl (wanted_at (b := true) false rfl rfl (hD 21 79 (by kernel_rfl))) rfl) ?_
                  refine fsteps_cons 25 rfl (fun a u hE hD hk => f_skip (o := ⟨some 82, _, _, _, _, _⟩) rfl (wanted_at (b := true) false rfl rfl (hD 21 79 (by kernel_rfl))) rfl) ?_
                  refine fsteps_cons 26 rfl (fun a u hE hD hk => f_val (o := ⟨some 83, _, _, _, _, _⟩) (.bool false) rfl (wanted_at (b := false) false rfl rfl (hD 18 76 (by kernel_rfl))) (exec_pickF (.tmp 79) (.tmp 82) (.const (.bool false)) (.bool false) rfl (hD 21 79 (by kernel_rfl)) rfl) rfl) ?_
                  refine fsteps_cons 27 rfl (fun a u hE hD hk => f_val (o := ⟨some 84, _, _, _, _, _⟩) (.bool false) rfl (wanted_at (b := true) true rfl rfl (hD 3 61 (by kernel_rfl))) (exec_pickF (.tmp 76) (.const (.bool true)) (.tmp 83) (.bool false) rfl (hD 18 76 (by kernel_rfl)) (hD 25 83 (by kernel_rfl))) rfl) ?_
                  refine sv 28 rfl rfl rfl (fun a u hE hD hk => exec_pick (.tmp 61) (.tmp 84) (.const (.bool false)) (.bool false) rfl (hD 3 61 (by kernel_rfl)) (hD 26 84 (by kernel_rfl))) ?_
                  refine sv 29 rfl rfl rfl (fun a u hE hD hk => exec_move (.tmp 85) _ rfl (hD 27 85 (by kernel_rfl))) ?_
                  refine fsteps_cons 30 rfl (fun a u hE hD hk => f_skip (o := ⟨some 87, _, _, _, _, _⟩) rfl (wanted_at (b := true) false rfl rfl (hD 28 86 (by kernel_rfl))) rfl) ?_
                  refine fsteps_cons 31 rfl (fun a u hE hD hk => f_skip (o := ⟨some 88, _, _, _, _, _⟩) rfl (wanted_at (b := true) false rfl rfl (hD 28 86 (by kernel_rfl))) rfl) ?_
                  refine fsteps_cons 32 rfl (fun a u hE hD hk => f_skip (o := ⟨some 89, _, _, _, _, _⟩) rfl (wanted_at (b := true) false rfl rfl (hD 28 86 (by kernel_rfl))) rfl) ?_
                  refine sv 33 rfl rfl rfl (fun a u hE hD hk => exec_pickF (.tmp 86) (.tmp 89) (.const (.bool false)) (.bool false) rfl (hD 28 86 (by kernel_rfl)) rfl) ?_
                  refine sv 34 rfl rfl rfl (fun a u hE hD hk => exec_move (.tmp 90) _ rfl (hD 32 90 (by kernel_rfl))) ?_
                  refine fsteps_cons 35 rfl (fun a u hE hD hk => f_skip (o := ⟨some 92, _, _, _, _, _⟩) rfl (wanted_at (b := true) false rfl rfl (hD 33 91 (by kernel_rfl))) rfl) ?_
                  refine fsteps_cons 36 rfl (fun a u hE hD hk => f_skip (o := ⟨some 93, _, _, _, _, _⟩) rfl (wanted_at (b := true) false rfl rfl (hD 33 91 (by kernel_rfl))) rfl) ?_
                  refine fsteps_cons 37 rfl (fun a u hE hD hk => f_skip (o := ⟨some 94, _, _, _, _, _⟩) rfl (wanted_at (b := true) false rfl rfl (hD 33 91 (by kernel_rfl))) rfl) ?_
                  refine fsteps_cons 38 rfl (fun a u hE hD hk => f_skip (o := ⟨some 95, _, _, _, _, _⟩) rfl (wanted_at (b := true) false rfl rfl (hD 33 91 (by kernel_rfl))) rfl) ?_
                  refine fsteps_cons 39 rfl (fun a u hE hD hk => f_skip (o := ⟨some 96, _, _, _, _, _⟩) rfl (wanted_at (b := true) false rfl rfl (hD 33 91 (by kernel_rfl))) rfl) ?_
                  refine sv 40 rfl rfl rfl (fun a u hE hD hk => exec_pickF (.tmp 91) (.tmp 96) (.const (.bool false)) (.bool false) rfl (hD 33 91 (by kernel_rfl)) rfl) ?_
                  exact fsteps_nil
                intro gv wx hV kx
                rw [show dstsOf _ 40 = [58, 59, 60, 61, 62, 63, 64, 65, 66, 67, 68, 69, 70, 71, 72, 73, 74, 75, 76, 77, 78, 79, 80, 81, 82, 83, 84, 85, 86, 87, 88, 89, 90, 91, 92, 93, 94, 95, 96, 97] by kernel_rfl]
                simp only [List.foldl_cons, List.foldl_nil, List.setIfInBounds_toArray, List.set_cons_succ, List.set_cons_zero, List.drop_succ_cons, List.drop_zero]
                rw [show gv 97 = .bool false from hV 39 97 (by kernel_rfl)]
                clear hV
                refine wpList_nil ?_
                have HBx := Lib.hid (HB9.out.kept kx)
                have kwx := kw9.trans kx
                clear HB9 kw9 kx
                go_upto_region 14 with fail
                refine wp_text 21 [.eq (.bool true), .eq (.bool false), .eq (.bool false), .eq undef, .eq undef, .eq undef, .eq (.bool false), .eq (.bool false), .eq (.bool true), .eq (.bool true), .eq (.pointer (some ⟨g, 0, none⟩)), .eq (.int .i64 B2.k), .eq (.bool false), .eq (.bool false), .eq (.pointer (some ⟨g, 0, none⟩)), .eq (.int .i64 B2.k), .eq (.int .i64 nb), .eq (.bool false), .eq (.bool false), .eq (.bool false), .eq (.bool false)] rfl (by kernel_rfl) ?_ ?_
                · refine sv 1 rfl rfl rfl (fun a u hE hD hk => exec_move (.tmp 15) _ rfl (hE 15 (.bool true) (by kernel_rfl) (by kernel_rfl))) ?_
                  refine sv 2 rfl rfl rfl (fun a u hE hD hk => exec_not _ (.tmp 98) true rfl (hD 0 98 (by kernel_rfl))) ?_
                  refine sv 3 rfl rfl rfl (fun a u hE hD hk => exec_move (.tmp 99) _ rfl (hD 1 99 (by kernel_rfl))) ?_
                  refine fsteps_cons 4 rfl (fun a u hE hD hk => f_skip (o := ⟨some 101, _, _, _, _, _⟩) rfl (wanted_at (b := true) false rfl rfl (hD 2 100 (by kernel_rfl))) rfl) ?_
                  refine fsteps_cons 5 rfl (fun a u hE hD hk => f_skip (o := ⟨some 102, _, _, _, _, _⟩) rfl (wanted_at (b := true) false rfl rfl (hD 2 100 (by kernel_rfl))) rfl) ?_
                  refine fsteps_cons 6 rfl (fun a u hE hD hk => f_skip (o := ⟨some 103, _, _, _, _, _⟩) rfl (wanted_at (b := true) false rfl rfl (hD 2 100 (by kernel_rfl))) rfl) ?_
                  refine sv 7 rfl rfl rfl (fun a u hE hD hk => exec_pickF (.tmp 100) (.tmp 103) (.const (.bool false)) (.bool false) rfl (hD 2 100 (by kernel_rfl)) rfl) ?_
                  refine sv 8 rfl rfl rfl (fun a u hE hD hk => exec_move (.tmp 104) _ rfl (hD 6 104 (by kernel_rfl))) ?_
                  refine fsteps_cons 9 rfl (fun a u hE hD hk => f_val (o := ⟨some 106, _, _, _, _, _⟩) (.bool true) rfl (wanted_at (b := false) false rfl rfl (hD 7 105 (by kernel_rfl))) (exec_move (.tmp 15) _ rfl (hE 15 (.bool true) (by kernel_rfl) (by kernel_rfl))) rfl) ?_
                  refine fsteps_cons 10 rfl (fun a u hE hD hk => f_val (o := ⟨some 107, _, _, _, _, _⟩) (.bool true) rfl (wanted_at (b := false) false rfl rfl (hD 7 105 (by kernel_rfl))) (exec_move (.tmp 106) _ rfl (hD 8 106 (by kernel_rfl))) rfl) ?_
                  refine fsteps_cons 11 rfl (fun a u hE hD hk => f_val (o := ⟨some 108, _, _, _, _, _⟩) (.pointer (some ⟨g, 0, none⟩)) rfl (wanted_at (b := true) true rfl rfl (hD 9 107 (by kernel_rfl))) (exec_move (.tmp 9) _ rfl (hE 9 (.pointer (some ⟨g, 0, none⟩)) (by kernel_rfl) (by kernel_rfl))) rfl) ?_
                  refine fsteps_cons 12 rfl (fun a u hE hD hk => f_call (o := ⟨some 109, _, _, _, _, _⟩) 14 #[.pointer (some ⟨g, 0, none⟩)] rfl (wanted_at (b := true) true rfl rfl (hD 9 107 (by kernel_rfl))) (exec_call 14 _ [.tmp 108] _ [.pointer (some ⟨g, 0, none⟩)] Try.func14 (by kernel_rfl) (by kernel_rfl) rfl (show [a.eval (.tmp 108)] = [.pointer (some ⟨g, 0, none⟩)] from (by rw [show a.eval (.tmp 108) = .pointer (some ⟨g, 0, none⟩) from (hD 10 108 (by kernel_rfl))] <;> rfl)) u) (left_any g B2 u (HBx.out.kept hk))) ?_
                  refine fsteps_cons 13 rfl (fun a u hE hD hk => f_as (show ((decide ((B2.k : Int) < (0 : Int))) : Bool) = false from decide_eq_false (by omega)) (f_val (o := ⟨some 110, _, _, _, _, _⟩) (.bool (decide ((B2.k : Int) < (0 : Int)))) rfl (wanted_at (b := true) true rfl rfl (hD 9 107 (by kernel_rfl))) (exec_ltn (p := B2.k) (q := 0) rfl (hD 11 109 (by kernel_rfl)) rfl) rfl)) ?_
                  refine fsteps_cons 14 rfl (fun a u hE hD hk => f_val (o := ⟨some 111, _, _, _, _, _⟩) (.bool false) rfl (wanted_at (b := true) true rfl rfl (hD 9 107 (by kernel_rfl))) (exec_move (.tmp 110) _ rfl (hD 12 110 (by kernel_rfl))) rfl) ?_
                  refine fsteps_cons 15 rfl (fun a u hE hD hk => f_val (o := ⟨some 112, _, _, _, _, _⟩) (.pointer (some ⟨g, 0, none⟩)) rfl (wanted_at (b := false) false rfl rfl (hD 13 111 (by kernel_rfl))) (exec_move (.tmp 9) _ rfl (hE 9 (.pointer (some ⟨g, 0, none⟩)) (by kernel_rfl) (by kernel_rfl))) rfl) ?_
                  refine fsteps_cons 16 rfl (fun a u hE hD hk => f_call (o := ⟨some 113, _, _, _, _, _⟩) 14 #[.pointer (some ⟨g, 0, none⟩)] rfl (wanted_at (b := false) false rfl rfl (hD 13 111 (by kernel_rfl))) (exec_call 14 _ [.tmp 112] _ [.pointer (some ⟨g, 0, none⟩)] Try.func14 (by kernel_rfl) (by kernel_rfl) rfl (show [a.eval (.tmp 112)] = [.pointer (some ⟨g, 0, none⟩)] from (by rw [show a.eval (.tmp 112) = .pointer (some ⟨g, 0, none⟩) from (hD 14 112 (by kernel_rfl))] <;> rfl)) u) (left_any g B2 u (HBx.out.kept hk))) ?_
                  refine fsteps_cons 17 rfl (fun a u hE hD hk => f_val (o := ⟨some 114, _, _, _, _, _⟩) (.int .i64 nb) rfl (wanted_at (b := false) false rfl rfl (hD 13 111 (by kernel_rfl))) (exec_move (.tmp 7) _ rfl (hE 7 (.int .i64 nb) (by kernel_rfl) (by kernel_rfl))) rfl) ?_
                  refine fsteps_cons 18 rfl (fun a u hE hD hk => f_as (show ((decide ((nb : Int) ≤ (B2.k : Int))) : Bool) = false from decide_eq_false (by omega)) (f_val (o := ⟨some 115, _, _, _, _, _⟩) (.bool (decide ((nb : Int) ≤ (B2.k : Int)))) rfl (wanted_at (b := false) false rfl rfl (hD 13 111 (by kernel_rfl))) (exec_gen (p := B2.k) (q := nb) rfl (hD 15 113 (by kernel_rfl)) (hD 16 114 (by kernel_rfl))) rfl)) ?_
                  refine fsteps_cons 19 rfl (fun a u hE hD hk => f_val (o := ⟨some 116, _, _, _, _, _⟩) (.bool false) rfl (wanted_at (b := true) true rfl rfl (hD 9 107 (by kernel_rfl))) (exec_pickF (.tmp 111) (.const (.bool true)) (.tmp 115) (.bool false) rfl (hD 13 111 (by kernel_rfl)) (hD 17 115 (by kernel_rfl))) rfl) ?_
                  refine fsteps_cons 20 rfl (fun a u hE hD hk => f_val (o := ⟨some 117, _, _, _, _, _⟩) (.bool false) rfl (wanted_at (b := false) false rfl rfl (hD 7 105 (by kernel_rfl))) (exec_pick (.tmp 107) (.tmp 116) (.const (.bool false)) (.bool false) rfl (hD 9 107 (by kernel_rfl)) (hD 18 116 (by kernel_rfl))) rfl) ?_
                  refine sv 21 rfl rfl rfl (fun a u hE hD hk => exec_pickF (.tmp 105) (.const (.bool true)) (.tmp 117) (.bool false) rfl (hD 7 105 (by kernel_rfl)) (hD 19 117 (by kernel_rfl))) ?_
                  exact fsteps_nil
                intro gv wy hV ky
                rw [show dstsOf _ 21 = [98, 99, 100, 101, 102, 103, 104, 105, 106, 107, 108, 109, 110, 111, 112, 113, 114, 115, 116, 117, 118] by kernel_rfl]
                simp only [List.foldl_cons, List.foldl_nil, List.setIfInBounds_toArray, List.set_cons_succ, List.set_cons_zero, List.drop_succ_cons, List.drop_zero]
                rw [show gv 118 = .bool false from hV 20 118 (by kernel_rfl)]
                clear hV
                refine wpList_nil ?_
                have HBy := Lib.hid (HBx.out.kept ky)
                have kwy := kwx.trans ky
                clear HBx kwx ky
                go_upto_region 16 with fail
                refine wp_text 3 [.eq (.int .i64 la), .eq (.int .i64 nw), .eq (.int .i64 l2)] rfl (by kernel_rfl) ?_ ?_
                · refine sv 1 rfl rfl rfl (fun a u hE hD hk => exec_move (.tmp 11) _ rfl (hE 11 (.int .i64 la) (by kernel_rfl) (by kernel_rfl))) ?_
                  refine sv 2 rfl rfl rfl (fun a u hE hD hk => exec_move (.tmp 13) _ rfl (hE 13 (.int .i64 nw) (by kernel_rfl) (by kernel_rfl))) ?_
                  refine sv 3 rfl rfl rfl (fun a u hE hD hk => exec_maxn (.tmp 119) (.tmp 120) _ la nw l2 rfl (hD 0 119 (by kernel_rfl)) (hD 1 120 (by kernel_rfl)) HL2.out) ?_
                  exact fsteps_nil
                intro gv wz hV kz
                rw [show dstsOf _ 3 = [119, 120, 121] by kernel_rfl]
                simp only [List.foldl_cons, List.foldl_nil, List.setIfInBounds_toArray, List.set_cons_succ, List.set_cons_zero, List.drop_succ_cons, List.drop_zero]
                rw [show gv 121 = .int .i64 l2 from hV 2 121 (by kernel_rfl)]
                clear hV
                refine l_val (o := ⟨some 11, _, _, _, _, _⟩) (.int .i64 l2) rfl (exec_assign (.tmp 121) (.int .i64 l2) rfl (by kernel_rfl)) ?_
                simp only [Act.put, List.setIfInBounds_toArray, List.set_cons_succ, List.set_cons_zero]
                refine wpList_nil ?_
                have HBz := Lib.hid (HBy.out.kept kz)
                have kwz := kwy.trans kz
                clear HBy kwy kz
                go_wp2
                exact ⟨⟨k + 1, l2, B2, by simp, rfl, by omega, by omega, by omega, by omega, HBz, HI2, kwz⟩, by simp [intOf]; omega⟩
          · skip
            go_upto_region 12 with fail
            refine wp_text 40 [.eq (.int .i64 nw), .eq (.int .i64 la), .eq (.bool false), .eq (.bool false), .eq undef, .eq undef, .eq undef, .eq undef, .eq undef, .eq undef, .eq undef, .eq undef, .eq undef, .eq undef, .eq undef, .eq undef, .eq undef, .eq undef, .eq undef, .eq undef, .eq undef, .eq undef, .eq undef, .eq undef, .eq undef, .eq undef, .eq undef, .eq (.bool false), .eq (.bool false), .eq undef, .eq undef, .eq undef, .eq (.bool false), .eq (.bool false), .eq undef, .eq undef, .eq undef, .eq undef, .eq undef, .eq (.bool false)] rfl (by kernel_rfl) ?_ ?_
            · refine sv 1 rfl rfl rfl (fun a u hE hD hk => exec_move (.tmp 13) _ rfl (hE 13 (.int .i64 nw) (by kernel_rfl) (by kernel_rfl))) ?_
              refine sv 2 rfl rfl rfl (fun a u hE hD hk => exec_move (.tmp 11) _ rfl (hE 11 (.int .i64 la) (by kernel_rfl) (by kernel_rfl))) ?_
              refine fsteps_cons 3 rfl (fun a u hE hD hk => f_as (show ((decide ((nw : Int) ≤ (la : Int))) : Bool) = false from decide_eq_false hno) (f_val (o := ⟨some 60, _, _, _, _, _⟩) (.bool (decide ((nw : Int) ≤ (la : Int)))) rfl (wanted_none rfl _) (exec_len_ (p := nw) (q := la) rfl (hD 0 58 (by kernel_rfl)) (hD 1 59 (by kernel_rfl))) rfl)) ?_
              refine sv 4 rfl rfl rfl (fun a u hE hD hk => exec_move (.tmp 60) _ rfl (hD 2 60 (by kernel_rfl))) ?_
              refine fsteps_cons 5 rfl (fun a u hE hD hk => f_skip (o := ⟨some 62, _, _, _, _, _⟩) rfl (wanted_at (b := true) false rfl rfl (hD 3 61 (by kernel_rfl))) rfl) ?_
              refine fsteps_cons 6 rfl (fun a u hE hD hk => f_skip (o := ⟨some 63, _, _, _, _, _⟩) rfl (wanted_at (b := true) false rfl rfl (hD 3 61 (by kernel_rfl))) rfl) ?_
              refine fsteps_cons 7 rfl (fun a u hE hD hk => f_skip (o := ⟨some 64, _, _, _, _, _⟩) rfl (wanted_at (b := true) false rfl rfl (hD 3 61 (by kernel_rfl))) rfl) ?_
              refine fsteps_cons 8 rfl (fun a u hE hD hk => f_skip (o := ⟨some 65, _, _, _, _, _⟩) rfl (wanted_at (b := true) false rfl rfl (hD 3 61 (by kernel_rfl))) rfl) ?_
              refine fsteps_cons 9 rfl (fun a u hE hD hk => f_skip (o := ⟨some 66, _, _, _, _, _⟩) rfl (wanted_at (b := true) false rfl rfl (hD 3 61 (by kernel_rfl))) rfl) ?_
              refine fsteps_cons 10 rfl (fun a u hE hD hk => f_skip (o := ⟨some 67, _, _, _, _, _⟩) rfl (wanted_undef (b := false) rfl rfl (hD 8 66 (by kernel_rfl))) rfl) ?_
              refine fsteps_cons 11 rfl (fun a u hE hD hk => f_skip (o := ⟨some 68, _, _, _, _, _⟩) rfl (wanted_undef (b := false) rfl rfl (hD 8 66 (by kernel_rfl))) rfl) ?_
              refine fsteps_cons 12 rfl (fun a u hE hD hk => f_skip (o := ⟨some 69, _, _, _, _, _⟩) rfl (wanted_undef (b := false) rfl rfl (hD 8 66 (by kernel_rfl))) rfl) ?_
              refine fsteps_cons 13 rfl (fun a u hE hD hk => f_skip (o := ⟨some 70, _, _, _, _, _⟩) rfl (wanted_undef (b := false) rfl rfl (hD 8 66 (by kernel_rfl))) rfl) ?_
              refine fsteps_cons 14 rfl (fun a u hE hD hk => f_skip (o := ⟨some 71, _, _, _, _, _⟩) rfl (wanted_undef (b := false) rfl rfl (hD 8 66 (by kernel_rfl))) rfl) ?_
              refine fsteps_cons 15 rfl (fun a u hE hD hk => f_skip (o := ⟨some 72, _, _, _, _, _⟩) rfl (wanted_undef (b := false) rfl rfl (hD 8 66 (by kernel_rfl))) rfl) ?_
              refine fsteps_cons 16 rfl (fun a u hE hD hk => f_skip (o := ⟨some 73, _, _, _, _, _⟩) rfl (wanted_undef (b := true) rfl rfl (hD 14 72 (by kernel_rfl))) rfl) ?_
              refine fsteps_cons 17 rfl (fun a u hE hD hk => f_skip (o := ⟨some 74, _, _, _, _, _⟩) rfl (wanted_undef (b := false) rfl rfl (hD 8 66 (by kernel_rfl))) rfl) ?_
              refine fsteps_cons 18 rfl (fun a u hE hD hk => f_skip (o := ⟨some 75, _, _, _, _, _⟩) rfl (wanted_at (b := true) false rfl rfl (hD 3 61 (by kernel_rfl))) rfl) ?_
              refine fsteps_cons 19 rfl (fun a u hE hD hk => f_skip (o := ⟨some 76, _, _, _, _, _⟩) rfl (wanted_at (b := true) false rfl rfl (hD 3 61 (by kernel_rfl))) rfl) ?_
              refine fsteps_cons 20 rfl (fun a u hE hD hk => f_skip (o := ⟨some 77, _, _, _, _, _⟩) rfl (wanted_undef (b := false) rfl rfl (hD 18 76 (by kernel_rfl))) rfl) ?_
              refine fsteps_cons 21 rfl (fun a u hE hD hk => f_skip (o := ⟨some 78, _, _, _, _, _⟩) rfl (wanted_undef (b := false) rfl rfl (hD 18 76 (by kernel_rfl))) rfl) ?_
              refine fsteps_cons 22 rfl (fun a u hE hD hk => f_skip (o := ⟨some 79, _, _, _, _, _⟩) rfl (wanted_undef (b := false) rfl rfl (hD 18 76 (by kernel_rfl))) rfl) ?_
              refine fsteps_cons 23 rfl (fun a u hE hD hk => f_skip (o := ⟨some 80, _, _, _, _, _⟩) rfl (wanted_undef (b := true) rfl rfl (hD 21 79 (by kernel_rfl))) rfl) ?_
              refine fsteps_cons 24 rfl (fun a u hE hD hk => f_skip (o := ⟨some 81, _, _, _, _, _⟩) rfl (wanted_undef (b := true) rfl rfl (hD 21 79 (by kernel_rfl))) rfl) ?_
              refine fsteps_cons 25 rfl (fun a u hE hD hk => f_skip (o := ⟨some 82, _, _, _, _, _⟩) rfl (wanted_undef (b := true) rfl rfl (hD 21 79 (by kernel_rfl))) rfl) ?_
              refine fsteps_cons 26 rfl (fun a u hE hD hk => f_skip (o := ⟨some 83, _, _, _, _, _⟩) rfl (wanted_undef (b := false) rfl rfl (hD 18 76 (by kernel_rfl))) rfl) ?_
              refine fsteps_cons 27 rfl (fun a u hE hD hk => f_skip (o := ⟨some 84, _, _, _, _, _⟩) rfl (wanted_at (b := true) false rfl rfl (hD 3 61 (by kernel_rfl))) rfl) ?_
              refine sv 28 rfl rfl rfl (fun a u hE hD hk => exec_pickF (.tmp 61) (.tmp 84) (.const (.bool false)) (.bool false) rfl (hD 3 61 (by kernel_rfl)) rfl) ?_
              refine sv 29 rfl rfl rfl (fun a u hE hD hk => exec_move (.tmp 85) _ rfl (hD 27 85 (by kernel_rfl))) ?_
              refine fsteps_cons 30 rfl (fun a u hE hD hk => f_skip (o := ⟨some 87, _, _, _, _, _⟩) rfl (wanted_at (b := true) false rfl rfl (hD 28 86 (by kernel_rfl))) rfl) ?_
              refine fsteps_cons 31 rfl (fun a u hE hD hk => f_skip (o := ⟨some 88, _, _, _, _, _⟩) rfl (wanted_at (b := true) false rfl rfl (hD 28 86 (by kernel_rfl))) rfl) ?_
              refine fsteps_cons 32 rfl (fun a u hE hD hk => f_skip (o := ⟨some 89, _, _, _, _, _⟩) rfl (wanted_at (b := true) false rfl rfl (hD 28 86 (by kernel_rfl))) rfl) ?_
              refine sv 33 rfl rfl rfl (fun a u hE hD hk => exec_pickF (.tmp 86) (.tmp 89) (.const (.bool false)) (.bool false) rfl (hD 28 86 (by kernel_rfl)) rfl) ?_
              refine sv 34 rfl rfl rfl (fun a u hE hD hk => exec_move (.tmp 90) _ rfl (hD 32 90 (by kernel_rfl))) ?_
              refine fsteps_cons 35 rfl (fun a u hE hD hk => f_skip (o := ⟨some 92, _, _, _, _, _⟩) rfl (wanted_at (b := true) false rfl rfl (hD 33 91 (by kernel_rfl))) rfl) ?_
              refine fsteps_cons 36 rfl (fun a u hE hD hk => f_skip (o := ⟨some 93, _, _, _, _, _⟩) rfl (wanted_at (b := true) false rfl rfl (hD 33 91 (by kernel_rfl))) rfl) ?_
              refine fsteps_cons 37 rfl (fun a u hE hD hk => f_skip (o := ⟨some 94, _, _, _, _, _⟩) rfl (wanted_at (b := true) false rfl rfl (hD 33 91 (by kernel_rfl))) rfl) ?_
              refine fsteps_cons 38 rfl (fun a u hE hD hk => f_skip (o := ⟨some 95, _, _, _, _, _⟩) rfl (wanted_at (b := true) false rfl rfl (hD 33 91 (by kernel_rfl))) rfl) ?_
              refine fsteps_cons 39 rfl (fun a u hE hD hk => f_skip (o := ⟨some 96, _, _, _, _, _⟩) rfl (wanted_at (b := true) false rfl rfl (hD 33 91 (by kernel_rfl))) rfl) ?_
              refine sv 40 rfl rfl rfl (fun a u hE hD hk => exec_pickF (.tmp 91) (.tmp 96) (.const (.bool false)) (.bool false) rfl (hD 33 91 (by kernel_rfl)) rfl) ?_
              exact fsteps_nil
            intro gv wx hV kx
            rw [show dstsOf _ 40 = [58, 59, 60, 61, 62, 63, 64, 65, 66, 67, 68, 69, 70, 71, 72, 73, 74, 75, 76, 77, 78, 79, 80, 81, 82, 83, 84, 85, 86, 87, 88, 89, 90, 91, 92, 93, 94, 95, 96, 97] by kernel_rfl]
            simp only [List.foldl_cons, List.foldl_nil, List.setIfInBounds_toArray, List.set_cons_succ, List.set_cons_zero, List.drop_succ_cons, List.drop_zero]
            rw [show gv 97 = .bool false from hV 39 97 (by kernel_rfl)]
            clear hV
            refine wpList_nil ?_
            have HBx := Lib.hid (HB9.out.kept kx)
            have kwx := kw9.trans kx
            clear HB9 kw9 kx
            go_upto_region 14 with fail
            refine wp_text 21 [.eq (.bool true), .eq (.bool false), .eq (.bool false), .eq undef, .eq undef, .eq undef, .eq (.bool false), .eq (.bool false), .eq (.bool true), .eq (.bool true), .eq (.pointer (some ⟨g, 0, none⟩)), .eq (.int .i64 B2.k), .eq (.bool false), .eq (.bool false), .eq (.pointer (some ⟨g, 0, none⟩)), .eq (.int .i64 B2.k), .eq (.int .i64 nb), .eq (.bool false), .eq (.bool false), .eq (.bool false), .eq (.bool false)] rfl (by kernel_rfl) ?_ ?_
            · refine sv 1 rfl rfl rfl (fun a u hE hD hk => exec_move (.tmp 15) _ rfl (hE 15 (.bool true) (by kernel_rfl) (by kernel_rfl))) ?_
              refine sv 2 rfl rfl rfl (fun a u hE hD hk => exec_not _ (.tmp 98) true rfl (hD 0 98 (by kernel_rfl))) ?_
              refine sv 3 rfl rfl rfl (fun a u hE hD hk => exec_move (.tmp 99) _ rfl (hD 1 99 (by kernel_rfl))) ?_
              refine fsteps_cons 4 rfl (fun a u hE hD hk => f_skip (o := ⟨some 101, _, _, _, _, _⟩) rfl (wanted_at (b := true) false rfl rfl (hD 2 100 (by kernel_rfl))) rfl) ?_
              refine fsteps_cons 5 rfl (fun a u hE hD hk => f_skip (o := ⟨some 102, _, _, _, _, _⟩) rfl (wanted_at (b := true) false rfl rfl (hD 2 100 (by kernel_rfl))) rfl) ?_
              refine fsteps_cons 6 rfl (fun a u hE hD hk => f_skip (o := ⟨some 103, _, _, _, _, _⟩) rfl (wanted_at (b := true) false rfl rfl (hD 2 100 (by kernel_rfl))) rfl) ?_
              refine sv 7 rfl rfl rfl (fun a u hE hD hk => exec_pickF (.tmp 100) (.tmp 103) (.const (.bool false)) (.bool false) rfl (hD 2 100 (by kernel_rfl)) rfl) ?_
              refine sv 8 rfl rfl rfl (fun a u hE hD hk => exec_move (.tmp 104) _ rfl (hD 6 104 (by kernel_rfl))) ?_
              refine fsteps_cons 9 rfl (fun a u hE hD hk => f_val (o := ⟨some 106, _, _, _, _, _⟩) (.bool true) rfl (wanted_at (b := false) false rfl rfl (hD 7 105 (by kernel_rfl))) (exec_move (.tmp 15) _ rfl (hE 15 (.bool true) (by kernel_rfl) (by kernel_rfl))) rfl) ?_
              refine fsteps_cons 10 rfl (fun a u hE hD hk => f_val (o := ⟨some 107, _, _, _, _, _⟩) (.bool true) rfl (wanted_at (b := false) false rfl rfl (hD 7 105 (by kernel_rfl))) (exec_move (.tmp 106) _ rfl (hD 8 106 (by kernel_rfl))) rfl) ?_
              refine fsteps_cons 11 rfl (fun a u hE hD hk => f_val (o := ⟨some 108, _, _, _, _, _⟩) (.pointer (some ⟨g, 0, none⟩)) rfl (wanted_at (b := true) true rfl rfl (hD 9 107 (by kernel_rfl))) (exec_move (.tmp 9) _ rfl (hE 9 (.pointer (some ⟨g, 0, none⟩)) (by kernel_rfl) (by kernel_rfl))) rfl) ?_
              refine fsteps_cons 12 rfl (fun a u hE hD hk => f_call (o := ⟨some 109, _, _, _, _, _⟩) 14 #[.pointer (some ⟨g, 0, none⟩)] rfl (wanted_at (b := true) true rfl rfl (hD 9 107 (by kernel_rfl))) (exec_call 14 _ [.tmp 108] _ [.pointer (some ⟨g, 0, none⟩)] Try.func14 (by kernel_rfl) (by kernel_rfl) rfl (show [a.eval (.tmp 108)] = [.pointer (some ⟨g, 0, none⟩)] from (by rw [show a.eval (.tmp 108) = .pointer (some ⟨g, 0, none⟩) from (hD 10 108 (by kernel_rfl))] <;> rfl)) u) (left_any g B2 u (HBx.out.kept hk))) ?_
              refine fsteps_cons 13 rfl (fun a u hE hD hk => f_as (show ((decide ((B2.k : Int) < (0 : Int))) : Bool) = false from decide_eq_false (by omega)) (f_val (o := ⟨some 110, _, _, _, _, _⟩) (.bool (decide ((B2.k : Int) < (0 : Int)))) rfl (wanted_at (b := true) true rfl rfl (hD 9 107 (by kernel_rfl))) (exec_ltn (p := B2.k) (q := 0) rfl (hD 11 109 (by kernel_rfl)) rfl) rfl)) ?_
              refine fsteps_cons 14 rfl (fun a u hE hD hk => f_val (o := ⟨some 111, _, _, _, _, _⟩) (.bool false) rfl (wanted_at (b := true) true rfl rfl (hD 9 107 (by kernel_rfl))) (exec_move (.tmp 110) _ rfl (hD 12 110 (by kernel_rfl))) rfl) ?_
              refine fsteps_cons 15 rfl (fun a u hE hD hk => f_val (o := ⟨some 112, _, _, _, _, _⟩) (.pointer (some ⟨g, 0, none⟩)) rfl (wanted_at (b := false) false rfl rfl (hD 13 111 (by kernel_rfl))) (exec_move (.tmp 9) _ rfl (hE 9 (.pointer (some ⟨g, 0, none⟩)) (by kernel_rfl) (by kernel_rfl))) rfl) ?_
              refine fsteps_cons 16 rfl (fun a u hE hD hk => f_call (o := ⟨some 113, _, _, _, _, _⟩) 14 #[.pointer (some ⟨g, 0, none⟩)] rfl (wanted_at (b := false) false rfl rfl (hD 13 111 (by kernel_rfl))) (exec_call 14 _ [.tmp 112] _ [.pointer (some ⟨g, 0, none⟩)] Try.func14 (by kernel_rfl) (by kernel_rfl) rfl (show [a.eval (.tmp 112)] = [.pointer (some ⟨g, 0, none⟩)] from (by rw [show a.eval (.tmp 112) = .pointer (some ⟨g, 0, none⟩) from (hD 14 112 (by kernel_rfl))] <;> rfl)) u) (left_any g B2 u (HBx.out.kept hk))) ?_
              refine fsteps_cons 17 rfl (fun a u hE hD hk => f_val (o := ⟨some 114, _, _, _, _, _⟩) (.int .i64 nb) rfl (wanted_at (b := false) false rfl rfl (hD 13 111 (by kernel_rfl))) (exec_move (.tmp 7) _ rfl (hE 7 (.int .i64 nb) (by kernel_rfl) (by kernel_rfl))) rfl) ?_
              refine fsteps_cons 18 rfl (fun a u hE hD hk => f_as (show ((decide ((nb : Int) ≤ (B2.k : Int))) : Bool) = false from decide_eq_false (by omega)) (f_val (o := ⟨some 115, _, _, _, _, _⟩) (.bool (decide ((nb : Int) ≤ (B2.k : Int)))) rfl (wanted_at (b := false) false rfl rfl (hD 13 111 (by kernel_rfl))) (exec_gen (p := B2.k) (q := nb) rfl (hD 15 113 (by kernel_rfl)) (hD 16 114 (by kernel_rfl))) rfl)) ?_
              refine fsteps_cons 19 rfl (fun a u hE hD hk => f_val (o := ⟨some 116, _, _, _, _, _⟩) (.bool false) rfl (wanted_at (b := true) true rfl rfl (hD 9 107 (by kernel_rfl))) (exec_pickF (.tmp 111) (.const (.bool true)) (.tmp 115) (.bool false) rfl (hD 13 111 (by kernel_rfl)) (hD 17 115 (by kernel_rfl))) rfl) ?_
              refine fsteps_cons 20 rfl (fun a u hE hD hk => f_val (o := ⟨some 117, _, _, _, _, _⟩) (.bool false) rfl (wanted_at (b := false) false rfl rfl (hD 7 105 (by kernel_rfl))) (exec_pick (.tmp 107) (.tmp 116) (.const (.bool false)) (.bool false) rfl (hD 9 107 (by kernel_rfl)) (hD 18 116 (by kernel_rfl))) rfl) ?_
              refine sv 21 rfl rfl rfl (fun a u hE hD hk => exec_pickF (.tmp 105) (.const (.bool true)) (.tmp 117) (.bool false) rfl (hD 7 105 (by kernel_rfl)) (hD 19 117 (by kernel_rfl))) ?_
              exact fsteps_nil
            intro gv wy hV ky
            rw [show dstsOf _ 21 = [98, 99, 100, 101, 102, 103, 104, 105, 106, 107, 108, 109, 110, 111, 112, 113, 114, 115, 116, 117, 118] by kernel_rfl]
            simp only [List.foldl_cons, List.foldl_nil, List.setIfInBounds_toArray, List.set_cons_succ, List.set_cons_zero, List.drop_succ_cons, List.drop_zero]
            rw [show gv 118 = .bool false from hV 20 118 (by kernel_rfl)]
            clear hV
            refine wpList_nil ?_
            have HBy := Lib.hid (HBx.out.kept ky)
            have kwy := kwx.trans ky
            clear HBx kwx ky
            go_upto_region 16 with fail
            refine wp_text 3 [.eq (.int .i64 la), .eq (.int .i64 nw), .eq (.int .i64 l2)] rfl (by kernel_rfl) ?_ ?_
            · refine sv 1 rfl rfl rfl (fun a u hE hD hk => exec_move (.tmp 11) _ rfl (hE 11 (.int .i64 la) (by kernel_rfl) (by kernel_rfl))) ?_
              refine sv 2 rfl rfl rfl (fun a u hE hD hk => exec_move (.tmp 13) _ rfl (hE 13 (.int .i64 nw) (by kernel_rfl) (by kernel_rfl))) ?_
              refine sv 3 rfl rfl rfl (fun a u hE hD hk => exec_maxn (.tmp 119) (.tmp 120) _ la nw l2 rfl (hD 0 119 (by kernel_rfl)) (hD 1 120 (by kernel_rfl)) HL2.out) ?_
              exact fsteps_nil
            intro gv wz hV kz
            rw [show dstsOf _ 3 = [119, 120, 121] by kernel_rfl]
            simp only [List.foldl_cons, List.foldl_nil, List.setIfInBounds_toArray, List.set_cons_succ, List.set_cons_zero, List.drop_succ_cons, List.drop_zero]
            rw [show gv 121 = .int .i64 l2 from hV 2 121 (by kernel_rfl)]
            clear hV
            refine l_val (o := ⟨some 11, _, _, _, _, _⟩) (.int .i64 l2) rfl (exec_assign (.tmp 121) (.int .i64 l2) rfl (by kernel_rfl)) ?_
            simp only [Act.put, List.setIfInBounds_toArray, List.set_cons_succ, List.set_cons_zero]
            refine wpList_nil ?_
            have HBz := Lib.hid (HBy.out.kept kz)
            have kwz := kwy.trans kz
            clear HBy kwy kz
            go_wp2
            exact ⟨⟨k + 1, l2, B2, by simp, rfl, by omega, by omega, by omega, by omega, HBz, HI2, kwz⟩, by simp [intOf]; omega⟩
    · have hcond : (decide ((k : Int) < (n : Int)) && decide ((k : Int) < 50)) = false := by
        by_cases h1 : (k : Int) < (n : Int)
        · rw [decide_eq_false (show ¬ (k : Int) < 50 by omega), Bool.and_false]
        · rw [decide_eq_false h1, Bool.false_and]
      go_upto_region 7 with fail
      refine wp_text 8 [.eq (.int .i64 (k : Int)), .eq (.slice A n c), .eq (.int .i64 (n : Int)), .eq (.bool (decide (((k : Int) : Int) < ((n : Int) : Int)))), .eq (.bool (decide (((k : Int) : Int) < ((n : Int) : Int)))), .cond (decide (((k : Int) : Int) < ((n : Int) : Int))) (.eq (.int .i64 (k : Int))), .cond (decide (((k : Int) : Int) < ((n : Int) : Int))) (.eq (.bool (decide (((k : Int) : Int) < (50 : Int))))), .eq (.bool false)] rfl (by kernel_rfl) ?_ ?_
      · refine sv 1 rfl rfl rfl (fun a u hE hD hk => exec_move (.tmp 12) _ rfl (hE 12 (.int .i64 (k : Int)) (by kernel_rfl) (by kernel_rfl))) ?_
        refine sv 2 rfl rfl rfl (fun a u hE hD hk => exec_move (.tmp 2) _ rfl (hE 2 (.slice A n c) (by kernel_rfl) (by kernel_rfl))) ?_
        refine sv 3 rfl rfl rfl (fun a u hE hD hk => exec_len (.tmp 39) _ _ slI.und A n c rfl (hD 1 39 (by kernel_rfl))) ?_
        refine sv 4 rfl rfl rfl (fun a u hE hD hk => exec_ltn (p := (k : Int)) (q := (n : Int)) rfl (hD 0 38 (by kernel_rfl)) (hD 2 40 (by kernel_rfl))) ?_
        refine sv 5 rfl rfl rfl (fun a u hE hD hk => exec_move (.tmp 41) _ rfl (hD 3 41 (by kernel_rfl))) ?_
        refine fsteps_cons 6 rfl (fun a u hE hD hk => f_if ((decide (((k : Int) : Int) < ((n : Int) : Int)))) rfl rfl rfl (hD 4 42 (by kernel_rfl)) (fun hb => f_val (o := ⟨some 43, _, _, _, _, _⟩) (.int .i64 (k : Int)) rfl (wanted_b rfl rfl (hD 4 42 (by kernel_rfl)) (eq_true_of hb)) (exec_move (.tmp 12) _ rfl (hE 12 (.int .i64 (k : Int)) (by kernel_rfl) (by kernel_rfl))) rfl)) ?_
        refine fsteps_cons 7 rfl (fun a u hE hD hk => f_if ((decide (((k : Int) : Int) < ((n : Int) : Int)))) rfl rfl rfl (hD 4 42 (by kernel_rfl)) (fun hb => f_val (o := ⟨some 44, _, _, _, _, _⟩) (.bool (decide (((k : Int) : Int) < (50 : Int)))) rfl (wanted_b rfl rfl (hD 4 42 (by kernel_rfl)) (eq_true_of hb)) (exec_ltn (p := (k : Int)) (q := 50) rfl ((hD 5 43 (by kernel_rfl)).1 hb) rfl) rfl)) ?_
        refine fsteps_cons 8 rfl (fun a u hE hD hk => f_as (show (((decide (((k : Int) : Int) < ((n : Int) : Int))) && (decide (((k : Int) : Int) < (50 : Int)))) : Bool) = false from hcond) (f_val (o := ⟨some 45, _, _, _, _, _⟩) (.bool ((decide (((k : Int) : Int) < ((n : Int) : Int))) && (decide (((k : Int) : Int) < (50 : Int))))) rfl (wanted_none rfl _) (exec_pickand (.tmp 42) (.tmp 44) (.const (.bool false)) ((decide (((k : Int) : Int) < ((n : Int) : Int)))) ((decide (((k : Int) : Int) < (50 : Int)))) rfl (hD 4 42 (by kernel_rfl)) (fun hb2 => ((hD 6 44 (by kernel_rfl)).1 hb2)) rfl) rfl)) ?_
        exact fsteps_nil
      intro gv w5 hV k5
      rw [show dstsOf _ 8 = [38, 39, 40, 41, 42, 43, 44, 45] by kernel_rfl]
      simp only [List.foldl_cons, List.foldl_nil, List.setIfInBounds_toArray, List.set_cons_succ, List.set_cons_zero, List.drop_succ_cons, List.drop_zero]
      rw [show gv 45 = .bool false from hV 7 45 (by kernel_rfl)]
      clear hV
      refine wpList_nil ?_
      go_upto_region 17 with fail
      refine wp_text 2 [.eq (.bool true), .eq (.bool true)] rfl (by kernel_rfl) ?_ ?_
      · refine fsteps_cons 1 rfl (fun a u hE hD hk => f_call (o := ⟨some 122, _, _, _, _, _⟩) 3 #[] rfl (wanted_none rfl _) (exec_call 3 _ [] _ [] Try.func3 (by kernel_rfl) (by kernel_rfl) rfl rfl u) (bucketRuns_is u)) ?_
        refine sv 2 rfl rfl rfl (fun a u hE hD hk => exec_assign (.tmp 122) _ rfl (hD 0 122 (by kernel_rfl))) ?_
        exact fsteps_nil
      intro gv w6 hV k6
      rw [show dstsOf _ 2 = [122, 6] by kernel_rfl]
      simp only [List.foldl_cons, List.foldl_nil, List.setIfInBounds_toArray, List.set_cons_succ, List.set_cons_zero, List.drop_succ_cons, List.drop_zero]
      rw [show gv 6 = .bool true from hV 1 6 (by kernel_rfl)]
      clear hV
      refine wpList_nil ?_
      have kw6 := (kwr.trans k5).trans k6
      go_wp2
      go_ret
      exact ⟨rfl, kw6⟩
end Go.Proofs.Ytpkadepohgeloaa
