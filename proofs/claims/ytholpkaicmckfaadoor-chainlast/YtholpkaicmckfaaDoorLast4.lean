/-
  The walk of jobberlaw4.ChainLast. No condition but the tables' contents.
-/
import Derived.Test.YtholpkaicmckfaaDoorHolds4
namespace Go.Proofs.YtholpkaicmckfaaDoor
open Go.RowKit
set_option linter.unusedVariables false

theorem linksOf_take (l : List (List UInt8)) (k : Nat) : linksOf (l.take k) = (linksOf l).take k := by
  have h := linksFrom_append zsum (l.take k) (l.drop k)
  rw [List.take_append_drop] at h
  by_cases hk : k ≤ l.length
  · have hl : (linksFrom zsum (l.take k)).length = k := by rw [linksFrom_length, List.length_take]; omega
    show linksFrom zsum (l.take k) = (linksFrom zsum l).take k
    rw [h, List.take_left' hl]
  · rw [List.take_of_length_le (by omega), List.take_of_length_le (by rw [linksOf_length]; omega)]
theorem diff_cut2 (x : List (List UInt8)) (k : Nat) (hk : k ≤ x.length) : diffOf (x.take k) x = if k = x.length then -1 else (k : Int) := by
  have h : ∀ n i, i + n = k → diffFrom (x.take k) x i n = if k = x.length then -1 else (k : Int) := by
    intro n
    induction n with
    | zero =>
      intro i hi
      unfold diffFrom
      rw [List.length_take, Nat.min_eq_left hk]
      by_cases e : k = x.length
      · rw [if_pos e, if_pos e]
      · rw [if_neg e, if_neg e]
        omega
    | succ n ih =>
      intro i hi
      unfold diffFrom
      rw [if_pos (show (x.take k)[i]? = x[i]? by rw [List.getElem?_take, if_pos (by omega)])]
      exact ih (i + 1) (by omega)
  unfold diffOf
  rw [List.length_take, Nat.min_eq_left hk, Nat.min_eq_left hk]
  exact h k 0 (by omega)

theorem RecV.take {w : World} {A : Option Addr} {n c : Nat} {L : List (List UInt8)} (hl : Hid (L.length = n)) (hr : Recs w A L) (hc : c ≤ maxLen) (k : Nat) (hk : k ≤ n) (hn : n ≤ c) : RecV w (.slice A k c) (L.take k) :=
  ⟨A, k, c, rfl, by show _ = _; rw [List.length_take, hl.out]; omega, hr.take k, by omega, hc⟩

set_option maxRecDepth 100000 in
set_option maxHeartbeats 6400000 in
theorem chainLast_any (v1 v2 : Value) (l1 l2 : List (List UInt8)) (cut : Int) (w : World) (hG : Glob w) (h1 : RecV w v1 l1) (h2 : RecV w v2 l2) :
    Calls Tryd.prog 6 #[v1, v2, .int .i64 cut] w fun e w' => e = .returned (.bool true) ∧ Kept w w' := by
  have HV1 := Lib.hid h1
  have HV2 := Lib.hid h2
  go_enter Tryd.func6, Tryd.ntmps6
  go_wp2_with fail
  refine (few_any v1 l1 w HV1.out).mono ?_
  rintro e w1 ⟨u, rfl, A1, c1, vs1, rfl, own1, rows1, hk1⟩
  clear h1 h2
  go_wp2_with fail
  refine (few_any v2 l2 w1 (HV2.out.kept hk1)).mono ?_
  rintro e w2 ⟨u, rfl, A2, c2, vs2, rfl, own2, rows2, hk2⟩
  have hkw2 := hk1.trans hk2
  have hX8 := fewOf_length l1
  have hY8 := fewOf_length l2
  have HXe0 := Lib.hid (fewOf_each l1)
  have HYe0 := Lib.hid (fewOf_each l2)
  generalize fewOf l1 = X0 at own1 rows1 hX8 HXe0 ⊢
  generalize fewOf l2 = Y0 at own2 rows2 hY8 HYe0 ⊢
  have hcap1 := own1.cap
  have hcap2 := own2.cap
  have HRX := Lib.hid ((recs_of_own own1 rows1).kept hk2)
  have HRY := Lib.hid (recs_of_own own2 rows2)
  have hlX0 : Hid (X0.length = X0.length) := rfl
  have hlY0 : Hid (Y0.length = Y0.length) := rfl
  generalize hn1 : X0.length = n1 at hX8 hcap1 hlX0 ⊢
  generalize hn2 : Y0.length = n2 at hY8 hcap2 hlY0 ⊢
  replace hlX0 : Hid (X0.length = n1) := hn1
  replace hlY0 : Hid (Y0.length = n2) := hn2
  obtain ⟨n, hn⟩ : ∃ n, n = min n1 n2 := ⟨_, rfl⟩
  have hmin : (if n2 < n1 then (n2 : Int) else (n1 : Int)) = (n : Int) := by split <;> omega
  have hnn1 : n ≤ n1 := by omega
  have hnn2 : n ≤ n2 := by omega
  have hc1m := hcap1.2.1
  have hc2m := hcap2.2.1
  have hnc1 : n ≤ c1 := by omega
  have hnc2 : n ≤ c2 := by omega
  have HVX2 : Hid (RecV w2 (.slice A1 n c1) (X0.take n)) := RecV.take hlX0 HRX.out hc1m n hnn1 hcap1.1
  have HVY2 : Hid (RecV w2 (.slice A2 n c2) (Y0.take n)) := RecV.take hlY0 HRY.out hc2m n hnn2 hcap2.1
  have hlX : Hid ((X0.take n).length = n) := by show _ = _; rw [List.length_take, hlX0.out]; omega
  have hlY : Hid ((Y0.take n).length = n) := by show _ = _; rw [List.length_take, hlY0.out]; omega
  have HXe : Hid (∀ x ∈ X0.take n, x.length ≤ 40) := fun x hx => HXe0.out x (List.mem_of_mem_take hx)
  have HYe : Hid (∀ x ∈ Y0.take n, x.length ≤ 40) := fun x hx => HYe0.out x (List.mem_of_mem_take hx)
  generalize X0.take n = X at HVX2 hlX HXe
  generalize Y0.take n = Y at HVY2 hlY HYe
  have hn8 : n ≤ 8 := by omega
  clear own1 rows1 own2 rows2 hn hn1 hn2 HRX HRY HXe0 HYe0 hk1 hk2 HV1 HV2 hcap1 hcap2 hc1m hc2m
  go_wp2_with fail
  have hkd : Kept w w2.drew := Keep.drew hkw2
  refine wp_sched (fun u => True) [(0, 0), (1, 0), (2, 0), (3, 0), (4, 0), (5, 0), (6, 0), (7, 0)] (by kernel_rfl) (by kernel_rfl) (trivial) ?_
  refine s_val (o := ⟨some 23, _, _, _, _, _⟩) (.slice A1 n1 c1) rfl (by kernel_rfl) (fun u hu => exec_move (.tmp 7) (.slice A1 n1 c1) rfl (by kernel_rfl)) ?_
  simp only [Act.put, List.setIfInBounds_toArray, List.set_cons_succ, List.set_cons_zero]
  refine s_val (o := ⟨some 24, _, _, _, _, _⟩) (.int .i64 (n : Int)) rfl (by kernel_rfl) (fun u hu => exec_move (.tmp 9) (.int .i64 (n : Int)) rfl (by kernel_rfl)) ?_
  simp only [Act.put, List.setIfInBounds_toArray, List.set_cons_succ, List.set_cons_zero]
  refine s_val (o := ⟨some 25, _, _, _, _, _⟩) (.slice A1 n c1) rfl (by kernel_rfl) (fun u hu => exec_upto 23 22 1 (.tmp 23) (.tmp 24) A1 n1 c1 n rfl Tryd.underlying23 sl_size (by kernel_rfl) (by kernel_rfl) hnc1) ?_
  simp only [Act.put, List.setIfInBounds_toArray, List.set_cons_succ, List.set_cons_zero]
  refine s_val (o := ⟨some 26, _, _, _, _, _⟩) (.slice A2 n2 c2) rfl (by kernel_rfl) (fun u hu => exec_move (.tmp 8) (.slice A2 n2 c2) rfl (by kernel_rfl)) ?_
  simp only [Act.put, List.setIfInBounds_toArray, List.set_cons_succ, List.set_cons_zero]
  refine s_val (o := ⟨some 27, _, _, _, _, _⟩) (.int .i64 (n : Int)) rfl (by kernel_rfl) (fun u hu => exec_move (.tmp 9) (.int .i64 (n : Int)) rfl (by kernel_rfl)) ?_
  simp only [Act.put, List.setIfInBounds_toArray, List.set_cons_succ, List.set_cons_zero]
  refine s_val (o := ⟨some 28, _, _, _, _, _⟩) (.slice A2 n c2) rfl (by kernel_rfl) (fun u hu => exec_upto 23 22 1 (.tmp 26) (.tmp 27) A2 n2 c2 n rfl Tryd.underlying23 sl_size (by kernel_rfl) (by kernel_rfl) hnc2) ?_
  simp only [Act.put, List.setIfInBounds_toArray, List.set_cons_succ, List.set_cons_zero]
  refine s_val (o := ⟨some 7, _, _, _, _, _⟩) (.slice A1 n c1) rfl (by kernel_rfl) (fun u hu => exec_assign (.tmp 25) (.slice A1 n c1) rfl (by kernel_rfl)) ?_
  simp only [Act.put, List.setIfInBounds_toArray, List.set_cons_succ, List.set_cons_zero]
  refine s_val (o := ⟨some 8, _, _, _, _, _⟩) (.slice A2 n c2) rfl (by kernel_rfl) (fun u hu => exec_assign (.tmp 28) (.slice A2 n c2) rfl (by kernel_rfl)) ?_
  simp only [Act.put, List.setIfInBounds_toArray, List.set_cons_succ, List.set_cons_zero]
  refine s_done ?_
  have HVX3 := Lib.hid (HVX2.out.kept (Keep.drew (Kept.refl w2)))
  have HVY3 := Lib.hid (HVY2.out.kept (Keep.drew (Kept.refl w2)))
  generalize w2.drew = w3 at hkd HVX3 HVY3 ⊢
  clear HVX2 HVY2 hkw2 hmin
  have HG3 := Lib.hid (hG.kept hkd)
  go_wp2_with fail
  refine (links_any _ X w3 HG3.out HVX3.out (by have := hlX.out; omega) (fun x hx => by have := HXe.out x hx; omega)).mono ?_
  rintro e w4 ⟨u, rfl, gx, rfl, hgx, hbx, p4⟩
  rw [hlX.out]
  have HSx4 := Lib.hid (sums_of_blk hbx (linksOf_each X))
  have q4 := hkd.trans p4
  have HG4 := Lib.hid (HG3.out.kept p4)
  have HVX4 := Lib.hid (HVX3.out.kept p4)
  have HVY4 := Lib.hid (HVY3.out.kept p4)
  clear hbx p4 hkd HG3 HVX3 HVY3
  go_wp2_with fail
  refine (links_any _ Y w4 HG4.out HVY4.out (by have := hlY.out; omega) (fun x hx => by have := HYe.out x hx; omega)).mono ?_
  rintro e w5 ⟨u, rfl, gy, rfl, hgy, hby, p5⟩
  rw [hlY.out]
  have HSy5 := Lib.hid (sums_of_blk hby (linksOf_each Y))
  have HSx5 := Lib.hid (HSx4.out.kept p5)
  have q5 := q4.trans p5
  have HG5 := Lib.hid (HG4.out.kept p5)
  have HVX5 := Lib.hid (HVX4.out.kept p5)
  have HVY5 := Lib.hid (HVY4.out.kept p5)
  have HLx := Lib.hid ((linksOf_length X).trans hlX.out)
  have HLy := Lib.hid ((linksOf_length Y).trans hlY.out)
  clear hby p5 q4 HG4 HVX4 HVY4 HSx4
  go_wp2_with fail
  refine (within_nat cut (n : Int) w5 (by omega) (by omega)).mono ?_
  rintro e w6 ⟨k, rfl, hk, rfl⟩
  have hkn : k ≤ n := by omega
  have HVXk : Hid (RecV w5 (.slice A1 k c1) (X.take k)) := by
    obtain ⟨A, n', c', e, hl', hr', _, hcm⟩ := HVX5.out
    injection e with e1 e2 e3
    subst e1 e2 e3
    exact RecV.take hl' hr' hcm k hkn hnc1
  have hlk : Hid ((X.take k).length = k) := by show _ = _; rw [List.length_take, hlX.out]; omega
  have HLk : Hid (((linksOf X).take k).length = k) := by show _ = _; rw [List.length_take, HLx.out]; omega
  have HXk : Hid (∀ x ∈ X.take k, x.length ≤ 40) := fun x hx => HXe.out x (List.mem_of_mem_take hx)
  have hkc : k ≤ c1 := by omega
  clear hk
  by_cases hkk : k = n
  · have HD1 : Hid (diffOf (linksOf (X.take k)) (linksOf X) = -1) := by show _ = _; rw [linksOf_take, diff_cut2 _ k (by rw [HLx.out]; exact hkn), if_pos (by rw [HLx.out]; exact hkk)]
    have HD2 : Hid (diffOf (linksOf X) ((linksOf X).take k) = -1) := by show _ = _; rw [diff_cut _ k (by rw [HLx.out]; exact hkn), if_pos (by rw [HLx.out]; exact hkk)]
    have hkb : ((k : Int) == (n : Int)) = true := by rw [beq_iff_eq]; omega
    clear hkk
    go_wp2_with fail
    refine (check_any _ (X.take k) (linksOf X) _ n n w5 HG5.out HVXk.out (by have := hlk.out; omega) (fun x hx => by have := HXk.out x hx; omega) HSx5.out HLx (by omega)).mono ?_
    rintro e w6 ⟨rfl, p6⟩
    rw [HD1.out]
    have q6 := q5.trans p6
    have HG6 := Lib.hid (HG5.out.kept p6)
    have HVX6 := Lib.hid (HVX5.out.kept p6)
    have HVY6 := Lib.hid (HVY5.out.kept p6)
    have HSx6 := Lib.hid (HSx5.out.kept p6)
    have HSy6 := Lib.hid (HSy5.out.kept p6)
    clear p6 q5 HG5 HVX5 HVY5 HSx5 HSy5 HVXk
    go_wp2_with fail
    refine (check_any _ X ((linksOf X).take k) _ k n w6 HG6.out HVX6.out (by have := hlX.out; omega) (fun x hx => by have := HXe.out x hx; omega) (HSx6.out.take k) HLk (by omega)).mono ?_
    rintro e w7 ⟨rfl, p7⟩
    rw [HD2.out]
    have q7 := q6.trans p7
    have HG7 := Lib.hid (HG6.out.kept p7)
    have HVX7 := Lib.hid (HVX6.out.kept p7)
    have HVY7 := Lib.hid (HVY6.out.kept p7)
    have HSx7 := Lib.hid (HSx6.out.kept p7)
    have HSy7 := Lib.hid (HSy6.out.kept p7)
    clear p7 q6 HG6 HVX6 HVY6 HSx6 HSy6
    go_wp2_with fail
    by_cases hn0 : n = 0
    · have hn0b : ((n : Int) == 0) = true := by rw [beq_iff_eq]; omega
      clear hn0
      refine wp_sched (fun u => Kept w7 u) [(0, 0), (1, 0), (2, 0), (3, 0), (4, 0), (5, 0), (6, 0), (7, 0), (8, 0), (9, 0), (10, 0), (11, 0), (12, 0), (13, 0), (14, 0), (15, 0), (16, 0), (17, 0), (18, 0), (19, 0), (20, 0), (21, 0), (22, 0), (23, 0), (24, 0), (25, 0), (26, 0), (27, 0), (28, 0), (29, 1), (30, 0), (31, 0)] (by kernel_rfl) (by kernel_rfl) ((Keep.drew (Kept.refl w7) : Kept w7 w7.drew)) ?_
      refine s_val (o := ⟨some 66, _, _, _, _, _⟩) (.int .i64 (n : Int)) rfl (by kernel_rfl) (fun u hu => exec_move (.tmp 9) (.int .i64 (n : Int)) rfl (by kernel_rfl)) ?_
      simp only [Act.put, List.setIfInBounds_toArray, List.set_cons_succ, List.set_cons_zero]
      refine s_val (o := ⟨some 67, _, _, _, _, _⟩) (.bool true) rfl (by kernel_rfl) (fun u hu => exec_eqi (.tmp 66) (.const (.int .i64 0)) _ (n : Int) 0 true rfl (by kernel_rfl) (by kernel_rfl) hn0b) ?_
      simp only [Act.put, List.setIfInBounds_toArray, List.set_cons_succ, List.set_cons_zero]
      refine s_val (o := ⟨some 68, _, _, _, _, _⟩) (.bool true) rfl (by kernel_rfl) (fun u hu => exec_move (.tmp 67) (.bool true) rfl (by kernel_rfl)) ?_
      simp only [Act.put, List.setIfInBounds_toArray, List.set_cons_succ, List.set_cons_zero]
      refine s_skip (o := ⟨some 69, _, _, _, _, _⟩) rfl (by kernel_rfl) ?_
      simp only [Act.put, List.setIfInBounds_toArray, List.set_cons_succ, List.set_cons_zero]
      refine s_skip (o := ⟨some 70, _, _, _, _, _⟩) rfl (by kernel_rfl) ?_
      simp only [Act.put, List.setIfInBounds_toArray, List.set_cons_succ, List.set_cons_zero]
      refine s_skip (o := ⟨some 71, _, _, _, _, _⟩) rfl (by kernel_rfl) ?_
      simp only [Act.put, List.setIfInBounds_toArray, List.set_cons_succ, List.set_cons_zero]
      refine s_val (o := ⟨some 72, _, _, _, _, _⟩) (.bool true) rfl (by kernel_rfl) (fun u hu => exec_pick (.tmp 68) (.const (.bool true)) (.tmp 71) (.bool true) rfl (by kernel_rfl) (by kernel_rfl)) ?_
      simp only [Act.put, List.setIfInBounds_toArray, List.set_cons_succ, List.set_cons_zero]
      refine s_val (o := ⟨some 73, _, _, _, _, _⟩) (.bool true) rfl (by kernel_rfl) (fun u hu => exec_move (.tmp 72) (.bool true) rfl (by kernel_rfl)) ?_
      simp only [Act.put, List.setIfInBounds_toArray, List.set_cons_succ, List.set_cons_zero]
      refine s_skip (o := ⟨some 74, _, _, _, _, _⟩) rfl (by kernel_rfl) ?_
      simp only [Act.put, List.setIfInBounds_toArray, List.set_cons_succ, List.set_cons_zero]
      refine s_skip (o := ⟨some 75, _, _, _, _, _⟩) rfl (by kernel_rfl) ?_
      simp only [Act.put, List.setIfInBounds_toArray, List.set_cons_succ, List.set_cons_zero]
      refine s_skip (o := ⟨some 76, _, _, _, _, _⟩) rfl (by kernel_rfl) ?_
      simp only [Act.put, List.setIfInBounds_toArray, List.set_cons_succ, List.set_cons_zero]
      refine s_skip (o := ⟨some 77, _, _, _, _, _⟩) rfl (by kernel_rfl) ?_
      simp only [Act.put, List.setIfInBounds_toArray, List.set_cons_succ, List.set_cons_zero]
      refine s_skip (o := ⟨some 78, _, _, _, _, _⟩) rfl (by kernel_rfl) ?_
      simp only [Act.put, List.setIfInBounds_toArray, List.set_cons_succ, List.set_cons_zero]
      refine s_skip (o := ⟨some 79, _, _, _, _, _⟩) rfl (by kernel_rfl) ?_
      simp only [Act.put, List.setIfInBounds_toArray, List.set_cons_succ, List.set_cons_zero]
      refine s_skip (o := ⟨some 80, _, _, _, _, _⟩) rfl (by kernel_rfl) ?_
      simp only [Act.put, List.setIfInBounds_toArray, List.set_cons_succ, List.set_cons_zero]
      refine s_skip (o := ⟨some 81, _, _, _, _, _⟩) rfl (by kernel_rfl) ?_
      simp only [Act.put, List.setIfInBounds_toArray, List.set_cons_succ, List.set_cons_zero]
      refine s_skip (o := ⟨some 82, _, _, _, _, _⟩) rfl (by kernel_rfl) ?_
      simp only [Act.put, List.setIfInBounds_toArray, List.set_cons_succ, List.set_cons_zero]
      refine s_skip (o := ⟨some 83, _, _, _, _, _⟩) rfl (by kernel_rfl) ?_
      simp only [Act.put, List.setIfInBounds_toArray, List.set_cons_succ, List.set_cons_zero]
      refine s_skip (o := ⟨some 84, _, _, _, _, _⟩) rfl (by kernel_rfl) ?_
      simp only [Act.put, List.setIfInBounds_toArray, List.set_cons_succ, List.set_cons_zero]
      refine s_val (o := ⟨some 85, _, _, _, _, _⟩) (.bool true) rfl (by kernel_rfl) (fun u hu => exec_pick (.tmp 73) (.const (.bool true)) (.tmp 84) (.bool true) rfl (by kernel_rfl) (by kernel_rfl)) ?_
      simp only [Act.put, List.setIfInBounds_toArray, List.set_cons_succ, List.set_cons_zero]
      refine s_val (o := ⟨some 86, _, _, _, _, _⟩) (.bool true) rfl (by kernel_rfl) (fun u hu => exec_move (.tmp 85) (.bool true) rfl (by kernel_rfl)) ?_
      simp only [Act.put, List.setIfInBounds_toArray, List.set_cons_succ, List.set_cons_zero]
      refine s_skip (o := ⟨some 87, _, _, _, _, _⟩) rfl (by kernel_rfl) ?_
      simp only [Act.put, List.setIfInBounds_toArray, List.set_cons_succ, List.set_cons_zero]
      refine s_skip (o := ⟨some 88, _, _, _, _, _⟩) rfl (by kernel_rfl) ?_
      simp only [Act.put, List.setIfInBounds_toArray, List.set_cons_succ, List.set_cons_zero]
      refine s_skip (o := ⟨some 89, _, _, _, _, _⟩) rfl (by kernel_rfl) ?_
      simp only [Act.put, List.setIfInBounds_toArray, List.set_cons_succ, List.set_cons_zero]
      refine s_skip (o := ⟨some 90, _, _, _, _, _⟩) rfl (by kernel_rfl) ?_
      simp only [Act.put, List.setIfInBounds_toArray, List.set_cons_succ, List.set_cons_zero]
      refine s_skip (o := ⟨some 91, _, _, _, _, _⟩) rfl (by kernel_rfl) ?_
      simp only [Act.put, List.setIfInBounds_toArray, List.set_cons_succ, List.set_cons_zero]
      refine s_skip (o := ⟨some 92, _, _, _, _, _⟩) rfl (by kernel_rfl) ?_
      simp only [Act.put, List.setIfInBounds_toArray, List.set_cons_succ, List.set_cons_zero]
      refine s_val (o := ⟨some 93, _, _, _, _, _⟩) (.bool true) rfl (by kernel_rfl) (fun u hu => exec_pick (.tmp 86) (.const (.bool true)) (.tmp 92) (.bool true) rfl (by kernel_rfl) (by kernel_rfl)) ?_
      simp only [Act.put, List.setIfInBounds_toArray, List.set_cons_succ, List.set_cons_zero]
      refine s_val (o := ⟨some 94, _, _, _, _, _⟩) (.bool true) rfl (by kernel_rfl) (fun u hu => exec_move (.tmp 93) (.bool true) rfl (by kernel_rfl)) ?_
      simp only [Act.put, List.setIfInBounds_toArray, List.set_cons_succ, List.set_cons_zero]
      refine s_call (o := ⟨some 95, _, _, _, _, _⟩) 3 #[] rfl (by kernel_rfl) (exec_call 3 _ [] _ _ Tryd.func3 (by kernel_rfl) (by kernel_rfl) rfl (by kernel_rfl)) ?_
      refine (chainRuns_any w7.drew (HG7.out.kept (Keep.drew (Kept.refl w7) : Kept w7 w7.drew))).mono ?_
      rintro e w11 ⟨rfl, p11⟩
      have r11 : Kept w7 w11 := Kept.trans (Keep.drew (Kept.refl w7) : Kept w7 w7.drew) p11
      refine ⟨_, rfl, r11, ?_⟩
      simp only [Act.put, List.setIfInBounds_toArray, List.set_cons_succ, List.set_cons_zero]
      refine s_val (o := ⟨some 96, _, _, _, _, _⟩) (.bool true) rfl (by kernel_rfl) (fun u hu => exec_pick (.tmp 94) (.tmp 95) (.const (.bool false)) (.bool true) rfl (by kernel_rfl) (by kernel_rfl)) ?_
      simp only [Act.put, List.setIfInBounds_toArray, List.set_cons_succ, List.set_cons_zero]
      refine s_val (o := ⟨some 6, _, _, _, _, _⟩) (.bool true) rfl (by kernel_rfl) (fun u hu => exec_assign (.tmp 96) (.bool true) rfl (by kernel_rfl)) ?_
      simp only [Act.put, List.setIfInBounds_toArray, List.set_cons_succ, List.set_cons_zero]
      refine s_done ?_
      have qz := q7.trans r11
      clear q7 r11
      go_wp2
      go_ret
      exact ⟨rfl, qz⟩
    · have hn0b : ((n : Int) == 0) = false := by rw [beq_eq_false_iff_ne]; omega
      have hnpos : 0 < n := by omega
      clear hn0
      by_cases hXY : X = Y
      · have HXY := Lib.hid hXY
        clear hXY
        refine wp_sched (fun u => Kept w7 u) [(0, 0), (1, 0), (2, 0), (3, 0), (4, 0), (5, 1), (6, 0), (7, 0), (8, 0), (9, 0), (10, 0), (11, 0), (12, 0), (13, 0), (14, 0), (15, 0), (16, 0), (17, 0), (18, 0), (19, 0), (20, 0), (21, 0), (22, 0), (23, 0), (24, 0), (25, 0), (26, 0), (27, 0), (28, 0), (29, 1), (30, 0), (31, 0)] (by kernel_rfl) (by kernel_rfl) ((Keep.drew (Kept.refl w7) : Kept w7 w7.drew)) ?_
        refine s_val (o := ⟨some 66, _, _, _, _, _⟩) (.int .i64 (n : Int)) rfl (by kernel_rfl) (fun u hu => exec_move (.tmp 9) (.int .i64 (n : Int)) rfl (by kernel_rfl)) ?_
        simp only [Act.put, List.setIfInBounds_toArray, List.set_cons_succ, List.set_cons_zero]
        refine s_val (o := ⟨some 67, _, _, _, _, _⟩) (.bool false) rfl (by kernel_rfl) (fun u hu => exec_eqi (.tmp 66) (.const (.int .i64 0)) _ (n : Int) 0 false rfl (by kernel_rfl) (by kernel_rfl) hn0b) ?_
        simp only [Act.put, List.setIfInBounds_toArray, List.set_cons_succ, List.set_cons_zero]
        refine s_val (o := ⟨some 68, _, _, _, _, _⟩) (.bool false) rfl (by kernel_rfl) (fun u hu => exec_move (.tmp 67) (.bool false) rfl (by kernel_rfl)) ?_
        simp only [Act.put, List.setIfInBounds_toArray, List.set_cons_succ, List.set_cons_zero]
        refine s_val (o := ⟨some 69, _, _, _, _, _⟩) (.slice A1 n c1) rfl (by kernel_rfl) (fun u hu => exec_move (.tmp 7) (.slice A1 n c1) rfl (by kernel_rfl)) ?_
        simp only [Act.put, List.setIfInBounds_toArray, List.set_cons_succ, List.set_cons_zero]
        refine s_val (o := ⟨some 70, _, _, _, _, _⟩) (.slice A2 n c2) rfl (by kernel_rfl) (fun u hu => exec_move (.tmp 8) (.slice A2 n c2) rfl (by kernel_rfl)) ?_
        simp only [Act.put, List.setIfInBounds_toArray, List.set_cons_succ, List.set_cons_zero]
        refine s_call (o := ⟨some 71, _, _, _, _, _⟩) 18 #[.slice A1 n c1, .slice A2 n c2] rfl (by kernel_rfl) (exec_call 18 _ [.tmp 69, .tmp 70] _ _ Tryd.func18 (by kernel_rfl) (by kernel_rfl) rfl (by kernel_rfl)) ?_
        refine (sameR_any _ _ X Y w7.drew (HVX7.out.kept (Keep.drew (Kept.refl w7))) (HVY7.out.kept (Keep.drew (Kept.refl w7))) (by have := hlX.out; omega) (by have := hlY.out; omega)).mono ?_
        rintro e w8 ⟨rfl, p8⟩
        rw [decide_eq_true HXY.out]
        have r8 : Kept w7 w8 := Kept.trans (Keep.drew (Kept.refl w7)) p8
        refine ⟨_, rfl, r8, ?_⟩
        simp only [Act.put, List.setIfInBounds_toArray, List.set_cons_succ, List.set_cons_zero]
        refine s_val (o := ⟨some 72, _, _, _, _, _⟩) (.bool true) rfl (by kernel_rfl) (fun u hu => exec_pickF (.tmp 68) (.const (.bool true)) (.tmp 71) (.bool true) rfl (by kernel_rfl) (by kernel_rfl)) ?_
        simp only [Act.put, List.setIfInBounds_toArray, List.set_cons_succ, List.set_cons_zero]
        refine s_val (o := ⟨some 73, _, _, _, _, _⟩) (.bool true) rfl (by kernel_rfl) (fun u hu => exec_move (.tmp 72) (.bool true) rfl (by kernel_rfl)) ?_
        simp only [Act.put, List.setIfInBounds_toArray, List.set_cons_succ, List.set_cons_zero]
        refine s_skip (o := ⟨some 74, _, _, _, _, _⟩) rfl (by kernel_rfl) ?_
        simp only [Act.put, List.setIfInBounds_toArray, List.set_cons_succ, List.set_cons_zero]
        refine s_skip (o := ⟨some 75, _, _, _, _, _⟩) rfl (by kernel_rfl) ?_
        simp only [Act.put, List.setIfInBounds_toArray, List.set_cons_succ, List.set_cons_zero]
        refine s_skip (o := ⟨some 76, _, _, _, _, _⟩) rfl (by kernel_rfl) ?_
        simp only [Act.put, List.setIfInBounds_toArray, List.set_cons_succ, List.set_cons_zero]
        refine s_skip (o := ⟨some 77, _, _, _, _, _⟩) rfl (by kernel_rfl) ?_
        simp only [Act.put, List.setIfInBounds_toArray, List.set_cons_succ, List.set_cons_zero]
        refine s_skip (o := ⟨some 78, _, _, _, _, _⟩) rfl (by kernel_rfl) ?_
        simp only [Act.put, List.setIfInBounds_toArray, List.set_cons_succ, List.set_cons_zero]
        refine s_skip (o := ⟨some 79, _, _, _, _, _⟩) rfl (by kernel_rfl) ?_
        simp only [Act.put, List.setIfInBounds_toArray, List.set_cons_succ, List.set_cons_zero]
        refine s_skip (o := ⟨some 80, _, _, _, _, _⟩) rfl (by kernel_rfl) ?_
        simp only [Act.put, List.setIfInBounds_toArray, List.set_cons_succ, List.set_cons_zero]
        refine s_skip (o := ⟨some 81, _, _, _, _, _⟩) rfl (by kernel_rfl) ?_
        simp only [Act.put, List.setIfInBounds_toArray, List.set_cons_succ, List.set_cons_zero]
        refine s_skip (o := ⟨some 82, _, _, _, _, _⟩) rfl (by kernel_rfl) ?_
        simp only [Act.put, List.setIfInBounds_toArray, List.set_cons_succ, List.set_cons_zero]
        refine s_skip (o := ⟨some 83, _, _, _, _, _⟩) rfl (by kernel_rfl) ?_
        simp only [Act.put, List.setIfInBounds_toArray, List.set_cons_succ, List.set_cons_zero]
        refine s_skip (o := ⟨some 84, _, _, _, _, _⟩) rfl (by kernel_rfl) ?_
        simp only [Act.put, List.setIfInBounds_toArray, List.set_cons_succ, List.set_cons_zero]
        refine s_val (o := ⟨some 85, _, _, _, _, _⟩) (.bool true) rfl (by kernel_rfl) (fun u hu => exec_pick (.tmp 73) (.const (.bool true)) (.tmp 84) (.bool true) rfl (by kernel_rfl) (by kernel_rfl)) ?_
        simp only [Act.put, List.setIfInBounds_toArray, List.set_cons_succ, List.set_cons_zero]
        refine s_val (o := ⟨some 86, _, _, _, _, _⟩) (.bool true) rfl (by kernel_rfl) (fun u hu => exec_move (.tmp 85) (.bool true) rfl (by kernel_rfl)) ?_
        simp only [Act.put, List.setIfInBounds_toArray, List.set_cons_succ, List.set_cons_zero]
        refine s_skip (o := ⟨some 87, _, _, _, _, _⟩) rfl (by kernel_rfl) ?_
        simp only [Act.put, List.setIfInBounds_toArray, List.set_cons_succ, List.set_cons_zero]
        refine s_skip (o := ⟨some 88, _, _, _, _, _⟩) rfl (by kernel_rfl) ?_
        simp only [Act.put, List.setIfInBounds_toArray, List.set_cons_succ, List.set_cons_zero]
        refine s_skip (o := ⟨some 89, _, _, _, _, _⟩) rfl (by kernel_rfl) ?_
        simp only [Act.put, List.setIfInBounds_toArray, List.set_cons_succ, List.set_cons_zero]
        refine s_skip (o := ⟨some 90, _, _, _, _, _⟩) rfl (by kernel_rfl) ?_
        simp only [Act.put, List.setIfInBounds_toArray, List.set_cons_succ, List.set_cons_zero]
        refine s_skip (o := ⟨some 91, _, _, _, _, _⟩) rfl (by kernel_rfl) ?_
        simp only [Act.put, List.setIfInBounds_toArray, List.set_cons_succ, List.set_cons_zero]
        refine s_skip (o := ⟨some 92, _, _, _, _, _⟩) rfl (by kernel_rfl) ?_
        simp only [Act.put, List.setIfInBounds_toArray, List.set_cons_succ, List.set_cons_zero]
        refine s_val (o := ⟨some 93, _, _, _, _, _⟩) (.bool true) rfl (by kernel_rfl) (fun u hu => exec_pick (.tmp 86) (.const (.bool true)) (.tmp 92) (.bool true) rfl (by kernel_rfl) (by kernel_rfl)) ?_
        simp only [Act.put, List.setIfInBounds_toArray, List.set_cons_succ, List.set_cons_zero]
        refine s_val (o := ⟨some 94, _, _, _, _, _⟩) (.bool true) rfl (by kernel_rfl) (fun u hu => exec_move (.tmp 93) (.bool true) rfl (by kernel_rfl)) ?_
        simp only [Act.put, List.setIfInBounds_toArray, List.set_cons_succ, List.set_cons_zero]
        refine s_call (o := ⟨some 95, _, _, _, _, _⟩) 3 #[] rfl (by kernel_rfl) (exec_call 3 _ [] _ _ Tryd.func3 (by kernel_rfl) (by kernel_rfl) rfl (by kernel_rfl)) ?_
        refine (chainRuns_any w8 (HG7.out.kept r8)).mono ?_
        rintro e w11 ⟨rfl, p11⟩
        have r11 : Kept w7 w11 := Kept.trans r8 p11
        refine ⟨_, rfl, r11, ?_⟩
        simp only [Act.put, List.setIfInBounds_toArray, List.set_cons_succ, List.set_cons_zero]
        refine s_val (o := ⟨some 96, _, _, _, _, _⟩) (.bool true) rfl (by kernel_rfl) (fun u hu => exec_pick (.tmp 94) (.tmp 95) (.const (.bool false)) (.bool true) rfl (by kernel_rfl) (by kernel_rfl)) ?_
        simp only [Act.put, List.setIfInBounds_toArray, List.set_cons_succ, List.set_cons_zero]
        refine s_val (o := ⟨some 6, _, _, _, _, _⟩) (.bool true) rfl (by kernel_rfl) (fun u hu => exec_assign (.tmp 96) (.bool true) rfl (by kernel_rfl)) ?_
        simp only [Act.put, List.setIfInBounds_toArray, List.set_cons_succ, List.set_cons_zero]
        refine s_done ?_
        have qz := q7.trans r11
        clear q7 r11
        go_wp2
        go_ret
        exact ⟨rfl, qz⟩
      · have HXY := Lib.hid hXY
        clear hXY
        obtain ⟨S, hS⟩ : ∃ S, S = aheadOf X n := ⟨_, rfl⟩
        obtain ⟨T, hT⟩ : ∃ T, T = aheadOf Y n := ⟨_, rfl⟩
        obtain ⟨hSl, gx', ex, hrx⟩ := HSx7.out (n - 1) S (by rw [linksOf_ahead X (n - 1) (by have := hlX.out; omega), show n - 1 + 1 = n by omega, hS])
        obtain ⟨hTl, gy', ey, hry⟩ := HSy7.out (n - 1) T (by rw [linksOf_ahead Y (n - 1) (by have := hlY.out; omega), show n - 1 + 1 = n by omega, hT])
        injection ex with ex
        injection ex with ex
        injection ey with ey
        injection ey with ey
        subst ex ey
        have HSl := Lib.hid hSl
        have HTl := Lib.hid hTl
        have HRx := Lib.hid hrx
        have HRy := Lib.hid hry
        have hcl : S = T → ∃ j : Nat, clashOf X Y = (j : Int) ∧ clashAt X Y j := fun h => by
          rcases chain_last X Y (by rw [hlX.out, hlY.out]) (by rw [hlX.out, hlY.out, ← hS, ← hT]; exact h) with h | h
          · exact absurd h HXY.out
          · exact h
        clear hS hT hSl hTl hrx hry
        by_cases hST : S = T
        · obtain ⟨j, hj, hc⟩ := hcl hST
          have HST := Lib.hid hST
          have HJ := Lib.hid hj
          have HCL := Lib.hid hc
          clear hcl hST hj hc
          refine wp_sched (fun u => Kept w7 u) [(0, 0), (1, 0), (2, 0), (3, 0), (4, 0), (5, 1), (6, 0), (7, 0), (8, 0), (9, 0), (10, 0), (11, 0), (12, 0), (13, 0), (14, 0), (15, 0), (16, 0), (17, 0), (18, 0), (19, 0), (20, 0), (21, 0), (22, 0), (23, 0), (24, 0), (25, 1), (26, 1), (27, 0), (28, 0), (29, 1), (30, 0), (31, 0)] (by kernel_rfl) (by kernel_rfl) ((Keep.drew (Kept.refl w7) : Kept w7 w7.drew)) ?_
          refine s_val (o := ⟨some 66, _, _, _, _, _⟩) (.int .i64 (n : Int)) rfl (by kernel_rfl) (fun u hu => exec_move (.tmp 9) (.int .i64 (n : Int)) rfl (by kernel_rfl)) ?_
          simp only [Act.put, List.setIfInBounds_toArray, List.set_cons_succ, List.set_cons_zero]
          refine s_val (o := ⟨some 67, _, _, _, _, _⟩) (.bool false) rfl (by kernel_rfl) (fun u hu => exec_eqi (.tmp 66) (.const (.int .i64 0)) _ (n : Int) 0 false rfl (by kernel_rfl) (by kernel_rfl) hn0b) ?_
          simp only [Act.put, List.setIfInBounds_toArray, List.set_cons_succ, List.set_cons_zero]
          refine s_val (o := ⟨some 68, _, _, _, _, _⟩) (.bool false) rfl (by kernel_rfl) (fun u hu => exec_move (.tmp 67) (.bool false) rfl (by kernel_rfl)) ?_
          simp only [Act.put, List.setIfInBounds_toArray, List.set_cons_succ, List.set_cons_zero]
          refine s_val (o := ⟨some 69, _, _, _, _, _⟩) (.slice A1 n c1) rfl (by kernel_rfl) (fun u hu => exec_move (.tmp 7) (.slice A1 n c1) rfl (by kernel_rfl)) ?_
          simp only [Act.put, List.setIfInBounds_toArray, List.set_cons_succ, List.set_cons_zero]
          refine s_val (o := ⟨some 70, _, _, _, _, _⟩) (.slice A2 n c2) rfl (by kernel_rfl) (fun u hu => exec_move (.tmp 8) (.slice A2 n c2) rfl (by kernel_rfl)) ?_
          simp only [Act.put, List.setIfInBounds_toArray, List.set_cons_succ, List.set_cons_zero]
          refine s_call (o := ⟨some 71, _, _, _, _, _⟩) 18 #[.slice A1 n c1, .slice A2 n c2] rfl (by kernel_rfl) (exec_call 18 _ [.tmp 69, .tmp 70] _ _ Tryd.func18 (by kernel_rfl) (by kernel_rfl) rfl (by kernel_rfl)) ?_
          refine (sameR_any _ _ X Y w7.drew (HVX7.out.kept (Keep.drew (Kept.refl w7))) (HVY7.out.kept (Keep.drew (Kept.refl w7))) (by have := hlX.out; omega) (by have := hlY.out; omega)).mono ?_
          rintro e w8 ⟨rfl, p8⟩
          rw [decide_eq_false HXY.out]
          have r8 : Kept w7 w8 := Kept.trans (Keep.drew (Kept.refl w7)) p8
          refine ⟨_, rfl, r8, ?_⟩
          simp only [Act.put, List.setIfInBounds_toArray, List.set_cons_succ, List.set_cons_zero]
          refine s_val (o := ⟨some 72, _, _, _, _, _⟩) (.bool false) rfl (by kernel_rfl) (fun u hu => exec_pickF (.tmp 68) (.const (.bool true)) (.tmp 71) (.bool false) rfl (by kernel_rfl) (by kernel_rfl)) ?_
          simp only [Act.put, List.setIfInBounds_toArray, List.set_cons_succ, List.set_cons_zero]
          refine s_val (o := ⟨some 73, _, _, _, _, _⟩) (.bool false) rfl (by kernel_rfl) (fun u hu => exec_move (.tmp 72) (.bool false) rfl (by kernel_rfl)) ?_
          simp only [Act.put, List.setIfInBounds_toArray, List.set_cons_succ, List.set_cons_zero]
          refine s_val (o := ⟨some 74, _, _, _, _, _⟩) (.slice (some ⟨gx, 0, none⟩) n n) rfl (by kernel_rfl) (fun u hu => exec_move (.tmp 10) (.slice (some ⟨gx, 0, none⟩) n n) rfl (by kernel_rfl)) ?_
          simp only [Act.put, List.setIfInBounds_toArray, List.set_cons_succ, List.set_cons_zero]
          refine s_val (o := ⟨some 75, _, _, _, _, _⟩) (.int .i64 (n : Int)) rfl (by kernel_rfl) (fun u hu => exec_move (.tmp 9) (.int .i64 (n : Int)) rfl (by kernel_rfl)) ?_
          simp only [Act.put, List.setIfInBounds_toArray, List.set_cons_succ, List.set_cons_zero]
          refine s_val (o := ⟨some 76, _, _, _, _, _⟩) (.int .i64 (((n - 1 : Nat)) : Int)) rfl (by kernel_rfl) (fun u hu => exec_subi (.tmp 75) (.const (.int .i64 1)) _ (n : Int) 1 (((n - 1 : Nat)) : Int) rfl (by kernel_rfl) (by kernel_rfl) (by omega) (by omega) (by omega)) ?_
          simp only [Act.put, List.setIfInBounds_toArray, List.set_cons_succ, List.set_cons_zero]
          refine s_val (o := ⟨some 77, _, _, _, _, _⟩) (.pointer (some ⟨gx, 0 + (n - 1) * 32, none⟩)) rfl (by kernel_rfl) (fun u hu => exec_index 24 30 32 (.tmp 74) (.tmp 76) gx 0 n n (n - 1) rfl Tryd.underlying24 sum_size (by kernel_rfl) (by kernel_rfl) (by omega)) ?_
          simp only [Act.put, List.setIfInBounds_toArray, List.set_cons_succ, List.set_cons_zero]
          refine s_val (o := ⟨some 78, _, _, _, _, _⟩) (.agg (cells8 S).toArray) rfl (by kernel_rfl) (fun u hu => exec_load_mid (.tmp 77) gx (0 + (n - 1) * 32) S rfl (by kernel_rfl) (fun j v hv => by rw [Nat.zero_add]; exact Kept.cell hu (HRx.out j v hv)) HSl.out) ?_
          simp only [Act.put, List.setIfInBounds_toArray, List.set_cons_succ, List.set_cons_zero]
          refine s_val (o := ⟨some 79, _, _, _, _, _⟩) (.slice (some ⟨gy, 0, none⟩) n n) rfl (by kernel_rfl) (fun u hu => exec_move (.tmp 11) (.slice (some ⟨gy, 0, none⟩) n n) rfl (by kernel_rfl)) ?_
          simp only [Act.put, List.setIfInBounds_toArray, List.set_cons_succ, List.set_cons_zero]
          refine s_val (o := ⟨some 80, _, _, _, _, _⟩) (.int .i64 (n : Int)) rfl (by kernel_rfl) (fun u hu => exec_move (.tmp 9) (.int .i64 (n : Int)) rfl (by kernel_rfl)) ?_
          simp only [Act.put, List.setIfInBounds_toArray, List.set_cons_succ, List.set_cons_zero]
          refine s_val (o := ⟨some 81, _, _, _, _, _⟩) (.int .i64 (((n - 1 : Nat)) : Int)) rfl (by kernel_rfl) (fun u hu => exec_subi (.tmp 80) (.const (.int .i64 1)) _ (n : Int) 1 (((n - 1 : Nat)) : Int) rfl (by kernel_rfl) (by kernel_rfl) (by omega) (by omega) (by omega)) ?_
          simp only [Act.put, List.setIfInBounds_toArray, List.set_cons_succ, List.set_cons_zero]
          refine s_val (o := ⟨some 82, _, _, _, _, _⟩) (.pointer (some ⟨gy, 0 + (n - 1) * 32, none⟩)) rfl (by kernel_rfl) (fun u hu => exec_index 24 30 32 (.tmp 79) (.tmp 81) gy 0 n n (n - 1) rfl Tryd.underlying24 sum_size (by kernel_rfl) (by kernel_rfl) (by omega)) ?_
          simp only [Act.put, List.setIfInBounds_toArray, List.set_cons_succ, List.set_cons_zero]
          refine s_val (o := ⟨some 83, _, _, _, _, _⟩) (.agg (cells8 T).toArray) rfl (by kernel_rfl) (fun u hu => exec_load_mid (.tmp 82) gy (0 + (n - 1) * 32) T rfl (by kernel_rfl) (fun j v hv => by rw [Nat.zero_add]; exact Kept.cell hu (HRy.out j v hv)) HTl.out) ?_
          simp only [Act.put, List.setIfInBounds_toArray, List.set_cons_succ, List.set_cons_zero]
          refine s_val (o := ⟨some 84, _, _, _, _, _⟩) (.bool false) rfl (by kernel_rfl) (fun u hu => (by rw [exec_neq8 (.tmp 78) (.tmp 83) _ S T rfl (by kernel_rfl) (by kernel_rfl) HSl.out HTl.out, decide_eq_true HST.out]; rfl)) ?_
          simp only [Act.put, List.setIfInBounds_toArray, List.set_cons_succ, List.set_cons_zero]
          refine s_val (o := ⟨some 85, _, _, _, _, _⟩) (.bool false) rfl (by kernel_rfl) (fun u hu => exec_pickF (.tmp 73) (.const (.bool true)) (.tmp 84) (.bool false) rfl (by kernel_rfl) (by kernel_rfl)) ?_
          simp only [Act.put, List.setIfInBounds_toArray, List.set_cons_succ, List.set_cons_zero]
          refine s_val (o := ⟨some 86, _, _, _, _, _⟩) (.bool false) rfl (by kernel_rfl) (fun u hu => exec_move (.tmp 85) (.bool false) rfl (by kernel_rfl)) ?_
          simp only [Act.put, List.setIfInBounds_toArray, List.set_cons_succ, List.set_cons_zero]
          refine s_val (o := ⟨some 87, _, _, _, _, _⟩) (.slice A1 n c1) rfl (by kernel_rfl) (fun u hu => exec_move (.tmp 7) (.slice A1 n c1) rfl (by kernel_rfl)) ?_
          simp only [Act.put, List.setIfInBounds_toArray, List.set_cons_succ, List.set_cons_zero]
          refine s_val (o := ⟨some 88, _, _, _, _, _⟩) (.slice A2 n c2) rfl (by kernel_rfl) (fun u hu => exec_move (.tmp 8) (.slice A2 n c2) rfl (by kernel_rfl)) ?_
          simp only [Act.put, List.setIfInBounds_toArray, List.set_cons_succ, List.set_cons_zero]
          refine s_val (o := ⟨some 89, _, _, _, _, _⟩) (.slice A1 n c1) rfl (by kernel_rfl) (fun u hu => exec_move (.tmp 7) (.slice A1 n c1) rfl (by kernel_rfl)) ?_
          simp only [Act.put, List.setIfInBounds_toArray, List.set_cons_succ, List.set_cons_zero]
          refine s_val (o := ⟨some 90, _, _, _, _, _⟩) (.slice A2 n c2) rfl (by kernel_rfl) (fun u hu => exec_move (.tmp 8) (.slice A2 n c2) rfl (by kernel_rfl)) ?_
          simp only [Act.put, List.setIfInBounds_toArray, List.set_cons_succ, List.set_cons_zero]
          refine s_call (o := ⟨some 91, _, _, _, _, _⟩) 9 #[.slice A1 n c1, .slice A2 n c2] rfl (by kernel_rfl) (exec_call 9 _ [.tmp 89, .tmp 90] _ _ Tryd.func9 (by kernel_rfl) (by kernel_rfl) rfl (by kernel_rfl)) ?_
          refine (clash_any _ _ X Y w8 (HG7.out.kept r8) (HVX7.out.kept r8) (HVY7.out.kept r8) (by have := hlX.out; omega) (by have := hlY.out; omega) (fun x hx => by have := HXe.out x hx; omega) (fun x hx => by have := HYe.out x hx; omega)).mono ?_
          rintro e w9 ⟨rfl, p9⟩
          rw [HJ.out]
          have r9 := r8.trans p9
          refine ⟨_, rfl, r9, ?_⟩
          simp only [Act.put, List.setIfInBounds_toArray, List.set_cons_succ, List.set_cons_zero]
          refine s_call (o := ⟨some 92, _, _, _, _, _⟩) 19 #[.slice A1 n c1, .slice A2 n c2, .int .i64 (j : Int)] rfl (by kernel_rfl) (exec_call 19 _ [.tmp 87, .tmp 88, .tmp 91] _ _ Tryd.func19 (by kernel_rfl) (by kernel_rfl) rfl (by kernel_rfl)) ?_
          refine (clashes_true _ _ X Y j w9 (HG7.out.kept r9) (HVX7.out.kept r9) (HVY7.out.kept r9) (by have := hlX.out; omega) (by have := hlY.out; omega) (fun x hx => by have := HXe.out x hx; omega) (fun x hx => by have := HYe.out x hx; omega) HCL.out).mono ?_
          rintro e w10 ⟨rfl, p10⟩
          have r10 := r9.trans p10
          refine ⟨_, rfl, r10, ?_⟩
          simp only [Act.put, List.setIfInBounds_toArray, List.set_cons_succ, List.set_cons_zero]
          refine s_val (o := ⟨some 93, _, _, _, _, _⟩) (.bool true) rfl (by kernel_rfl) (fun u hu => exec_pickF (.tmp 86) (.const (.bool true)) (.tmp 92) (.bool true) rfl (by kernel_rfl) (by kernel_rfl)) ?_
          simp only [Act.put, List.setIfInBounds_toArray, List.set_cons_succ, List.set_cons_zero]
          refine s_val (o := ⟨some 94, _, _, _, _, _⟩) (.bool true) rfl (by kernel_rfl) (fun u hu => exec_move (.tmp 93) (.bool true) rfl (by kernel_rfl)) ?_
          simp only [Act.put, List.setIfInBounds_toArray, List.set_cons_succ, List.set_cons_zero]
          refine s_call (o := ⟨some 95, _, _, _, _, _⟩) 3 #[] rfl (by kernel_rfl) (exec_call 3 _ [] _ _ Tryd.func3 (by kernel_rfl) (by kernel_rfl) rfl (by kernel_rfl)) ?_
          refine (chainRuns_any w10 (HG7.out.kept r10)).mono ?_
          rintro e w11 ⟨rfl, p11⟩
          have r11 : Kept w7 w11 := Kept.trans r10 p11
          refine ⟨_, rfl, r11, ?_⟩
          simp only [Act.put, List.setIfInBounds_toArray, List.set_cons_succ, List.set_cons_zero]
          refine s_val (o := ⟨some 96, _, _, _, _, _⟩) (.bool true) rfl (by kernel_rfl) (fun u hu => exec_pick (.tmp 94) (.tmp 95) (.const (.bool false)) (.bool true) rfl (by kernel_rfl) (by kernel_rfl)) ?_
          simp only [Act.put, List.setIfInBounds_toArray, List.set_cons_succ, List.set_cons_zero]
          refine s_val (o := ⟨some 6, _, _, _, _, _⟩) (.bool true) rfl (by kernel_rfl) (fun u hu => exec_assign (.tmp 96) (.bool true) rfl (by kernel_rfl)) ?_
          simp only [Act.put, List.setIfInBounds_toArray, List.set_cons_succ, List.set_cons_zero]
          refine s_done ?_
          have qz := q7.trans r11
          clear q7 r11
          go_wp2
          go_ret
          exact ⟨rfl, qz⟩
        · have HST := Lib.hid hST
          clear hcl hST
          refine wp_sched (fun u => Kept w7 u) [(0, 0), (1, 0), (2, 0), (3, 0), (4, 0), (5, 1), (6, 0), (7, 0), (8, 0), (9, 0), (10, 0), (11, 0), (12, 0), (13, 0), (14, 0), (15, 0), (16, 0), (17, 0), (18, 0), (19, 0), (20, 0), (21, 0), (22, 0), (23, 0), (24, 0), (25, 0), (26, 0), (27, 0), (28, 0), (29, 1), (30, 0), (31, 0)] (by kernel_rfl) (by kernel_rfl) ((Keep.drew (Kept.refl w7) : Kept w7 w7.drew)) ?_
          refine s_val (o := ⟨some 66, _, _, _, _, _⟩) (.int .i64 (n : Int)) rfl (by kernel_rfl) (fun u hu => exec_move (.tmp 9) (.int .i64 (n : Int)) rfl (by kernel_rfl)) ?_
          simp only [Act.put, List.setIfInBounds_toArray, List.set_cons_succ, List.set_cons_zero]
          refine s_val (o := ⟨some 67, _, _, _, _, _⟩) (.bool false) rfl (by kernel_rfl) (fun u hu => exec_eqi (.tmp 66) (.const (.int .i64 0)) _ (n : Int) 0 false rfl (by kernel_rfl) (by kernel_rfl) hn0b) ?_
          simp only [Act.put, List.setIfInBounds_toArray, List.set_cons_succ, List.set_cons_zero]
          refine s_val (o := ⟨some 68, _, _, _, _, _⟩) (.bool false) rfl (by kernel_rfl) (fun u hu => exec_move (.tmp 67) (.bool false) rfl (by kernel_rfl)) ?_
          simp only [Act.put, List.setIfInBounds_toArray, List.set_cons_succ, List.set_cons_zero]
          refine s_val (o := ⟨some 69, _, _, _, _, _⟩) (.slice A1 n c1) rfl (by kernel_rfl) (fun u hu => exec_move (.tmp 7) (.slice A1 n c1) rfl (by kernel_rfl)) ?_
          simp only [Act.put, List.setIfInBounds_toArray, List.set_cons_succ, List.set_cons_zero]
          refine s_val (o := ⟨some 70, _, _, _, _, _⟩) (.slice A2 n c2) rfl (by kernel_rfl) (fun u hu => exec_move (.tmp 8) (.slice A2 n c2) rfl (by kernel_rfl)) ?_
          simp only [Act.put, List.setIfInBounds_toArray, List.set_cons_succ, List.set_cons_zero]
          refine s_call (o := ⟨some 71, _, _, _, _, _⟩) 18 #[.slice A1 n c1, .slice A2 n c2] rfl (by kernel_rfl) (exec_call 18 _ [.tmp 69, .tmp 70] _ _ Tryd.func18 (by kernel_rfl) (by kernel_rfl) rfl (by kernel_rfl)) ?_
          refine (sameR_any _ _ X Y w7.drew (HVX7.out.kept (Keep.drew (Kept.refl w7))) (HVY7.out.kept (Keep.drew (Kept.refl w7))) (by have := hlX.out; omega) (by have := hlY.out; omega)).mono ?_
          rintro e w8 ⟨rfl, p8⟩
          rw [decide_eq_false HXY.out]
          have r8 : Kept w7 w8 := Kept.trans (Keep.drew (Kept.refl w7)) p8
          refine ⟨_, rfl, r8, ?_⟩
          simp only [Act.put, List.setIfInBounds_toArray, List.set_cons_succ, List.set_cons_zero]
          refine s_val (o := ⟨some 72, _, _, _, _, _⟩) (.bool false) rfl (by kernel_rfl) (fun u hu => exec_pickF (.tmp 68) (.const (.bool true)) (.tmp 71) (.bool false) rfl (by kernel_rfl) (by kernel_rfl)) ?_
          simp only [Act.put, List.setIfInBounds_toArray, List.set_cons_succ, List.set_cons_zero]
          refine s_val (o := ⟨some 73, _, _, _, _, _⟩) (.bool false) rfl (by kernel_rfl) (fun u hu => exec_move (.tmp 72) (.bool false) rfl (by kernel_rfl)) ?_
          simp only [Act.put, List.setIfInBounds_toArray, List.set_cons_succ, List.set_cons_zero]
          refine s_val (o := ⟨some 74, _, _, _, _, _⟩) (.slice (some ⟨gx, 0, none⟩) n n) rfl (by kernel_rfl) (fun u hu => exec_move (.tmp 10) (.slice (some ⟨gx, 0, none⟩) n n) rfl (by kernel_rfl)) ?_
          simp only [Act.put, List.setIfInBounds_toArray, List.set_cons_succ, List.set_cons_zero]
          refine s_val (o := ⟨some 75, _, _, _, _, _⟩) (.int .i64 (n : Int)) rfl (by kernel_rfl) (fun u hu => exec_move (.tmp 9) (.int .i64 (n : Int)) rfl (by kernel_rfl)) ?_
          simp only [Act.put, List.setIfInBounds_toArray, List.set_cons_succ, List.set_cons_zero]
          refine s_val (o := ⟨some 76, _, _, _, _, _⟩) (.int .i64 (((n - 1 : Nat)) : Int)) rfl (by kernel_rfl) (fun u hu => exec_subi (.tmp 75) (.const (.int .i64 1)) _ (n : Int) 1 (((n - 1 : Nat)) : Int) rfl (by kernel_rfl) (by kernel_rfl) (by omega) (by omega) (by omega)) ?_
          simp only [Act.put, List.setIfInBounds_toArray, List.set_cons_succ, List.set_cons_zero]
          refine s_val (o := ⟨some 77, _, _, _, _, _⟩) (.pointer (some ⟨gx, 0 + (n - 1) * 32, none⟩)) rfl (by kernel_rfl) (fun u hu => exec_index 24 30 32 (.tmp 74) (.tmp 76) gx 0 n n (n - 1) rfl Tryd.underlying24 sum_size (by kernel_rfl) (by kernel_rfl) (by omega)) ?_
          simp only [Act.put, List.setIfInBounds_toArray, List.set_cons_succ, List.set_cons_zero]
          refine s_val (o := ⟨some 78, _, _, _, _, _⟩) (.agg (cells8 S).toArray) rfl (by kernel_rfl) (fun u hu => exec_load_mid (.tmp 77) gx (0 + (n - 1) * 32) S rfl (by kernel_rfl) (fun j v hv => by rw [Nat.zero_add]; exact Kept.cell hu (HRx.out j v hv)) HSl.out) ?_
          simp only [Act.put, List.setIfInBounds_toArray, List.set_cons_succ, List.set_cons_zero]
          refine s_val (o := ⟨some 79, _, _, _, _, _⟩) (.slice (some ⟨gy, 0, none⟩) n n) rfl (by kernel_rfl) (fun u hu => exec_move (.tmp 11) (.slice (some ⟨gy, 0, none⟩) n n) rfl (by kernel_rfl)) ?_
          simp only [Act.put, List.setIfInBounds_toArray, List.set_cons_succ, List.set_cons_zero]
          refine s_val (o := ⟨some 80, _, _, _, _, _⟩) (.int .i64 (n : Int)) rfl (by kernel_rfl) (fun u hu => exec_move (.tmp 9) (.int .i64 (n : Int)) rfl (by kernel_rfl)) ?_
          simp only [Act.put, List.setIfInBounds_toArray, List.set_cons_succ, List.set_cons_zero]
          refine s_val (o := ⟨some 81, _, _, _, _, _⟩) (.int .i64 (((n - 1 : Nat)) : Int)) rfl (by kernel_rfl) (fun u hu => exec_subi (.tmp 80) (.const (.int .i64 1)) _ (n : Int) 1 (((n - 1 : Nat)) : Int) rfl (by kernel_rfl) (by kernel_rfl) (by omega) (by omega) (by omega)) ?_
          simp only [Act.put, List.setIfInBounds_toArray, List.set_cons_succ, List.set_cons_zero]
          refine s_val (o := ⟨some 82, _, _, _, _, _⟩) (.pointer (some ⟨gy, 0 + (n - 1) * 32, none⟩)) rfl (by kernel_rfl) (fun u hu => exec_index 24 30 32 (.tmp 79) (.tmp 81) gy 0 n n (n - 1) rfl Tryd.underlying24 sum_size (by kernel_rfl) (by kernel_rfl) (by omega)) ?_
          simp only [Act.put, List.setIfInBounds_toArray, List.set_cons_succ, List.set_cons_zero]
          refine s_val (o := ⟨some 83, _, _, _, _, _⟩) (.agg (cells8 T).toArray) rfl (by kernel_rfl) (fun u hu => exec_load_mid (.tmp 82) gy (0 + (n - 1) * 32) T rfl (by kernel_rfl) (fun j v hv => by rw [Nat.zero_add]; exact Kept.cell hu (HRy.out j v hv)) HTl.out) ?_
          simp only [Act.put, List.setIfInBounds_toArray, List.set_cons_succ, List.set_cons_zero]
          refine s_val (o := ⟨some 84, _, _, _, _, _⟩) (.bool true) rfl (by kernel_rfl) (fun u hu => (by rw [exec_neq8 (.tmp 78) (.tmp 83) _ S T rfl (by kernel_rfl) (by kernel_rfl) HSl.out HTl.out, decide_eq_false HST.out]; rfl)) ?_
          simp only [Act.put, List.setIfInBounds_toArray, List.set_cons_succ, List.set_cons_zero]
          refine s_val (o := ⟨some 85, _, _, _, _, _⟩) (.bool true) rfl (by kernel_rfl) (fun u hu => exec_pickF (.tmp 73) (.const (.bool true)) (.tmp 84) (.bool true) rfl (by kernel_rfl) (by kernel_rfl)) ?_
          simp only [Act.put, List.setIfInBounds_toArray, List.set_cons_succ, List.set_cons_zero]
          refine s_val (o := ⟨some 86, _, _, _, _, _⟩) (.bool true) rfl (by kernel_rfl) (fun u hu => exec_move (.tmp 85) (.bool true) rfl (by kernel_rfl)) ?_
          simp only [Act.put, List.setIfInBounds_toArray, List.set_cons_succ, List.set_cons_zero]
          refine s_skip (o := ⟨some 87, _, _, _, _, _⟩) rfl (by kernel_rfl) ?_
          simp only [Act.put, List.setIfInBounds_toArray, List.set_cons_succ, List.set_cons_zero]
          refine s_skip (o := ⟨some 88, _, _, _, _, _⟩) rfl (by kernel_rfl) ?_
          simp only [Act.put, List.setIfInBounds_toArray, List.set_cons_succ, List.set_cons_zero]
          refine s_skip (o := ⟨some 89, _, _, _, _, _⟩) rfl (by kernel_rfl) ?_
          simp only [Act.put, List.setIfInBounds_toArray, List.set_cons_succ, List.set_cons_zero]
          refine s_skip (o := ⟨some 90, _, _, _, _, _⟩) rfl (by kernel_rfl) ?_
          simp only [Act.put, List.setIfInBounds_toArray, List.set_cons_succ, List.set_cons_zero]
          refine s_skip (o := ⟨some 91, _, _, _, _, _⟩) rfl (by kernel_rfl) ?_
          simp only [Act.put, List.setIfInBounds_toArray, List.set_cons_succ, List.set_cons_zero]
          refine s_skip (o := ⟨some 92, _, _, _, _, _⟩) rfl (by kernel_rfl) ?_
          simp only [Act.put, List.setIfInBounds_toArray, List.set_cons_succ, List.set_cons_zero]
          refine s_val (o := ⟨some 93, _, _, _, _, _⟩) (.bool true) rfl (by kernel_rfl) (fun u hu => exec_pick (.tmp 86) (.const (.bool true)) (.tmp 92) (.bool true) rfl (by kernel_rfl) (by kernel_rfl)) ?_
          simp only [Act.put, List.setIfInBounds_toArray, List.set_cons_succ, List.set_cons_zero]
          refine s_val (o := ⟨some 94, _, _, _, _, _⟩) (.bool true) rfl (by kernel_rfl) (fun u hu => exec_move (.tmp 93) (.bool true) rfl (by kernel_rfl)) ?_
          simp only [Act.put, List.setIfInBounds_toArray, List.set_cons_succ, List.set_cons_zero]
          refine s_call (o := ⟨some 95, _, _, _, _, _⟩) 3 #[] rfl (by kernel_rfl) (exec_call 3 _ [] _ _ Tryd.func3 (by kernel_rfl) (by kernel_rfl) rfl (by kernel_rfl)) ?_
          refine (chainRuns_any w8 (HG7.out.kept r8)).mono ?_
          rintro e w11 ⟨rfl, p11⟩
          have r11 : Kept w7 w11 := Kept.trans r8 p11
          refine ⟨_, rfl, r11, ?_⟩
          simp only [Act.put, List.setIfInBounds_toArray, List.set_cons_succ, List.set_cons_zero]
          refine s_val (o := ⟨some 96, _, _, _, _, _⟩) (.bool true) rfl (by kernel_rfl) (fun u hu => exec_pick (.tmp 94) (.tmp 95) (.const (.bool false)) (.bool true) rfl (by kernel_rfl) (by kernel_rfl)) ?_
          simp only [Act.put, List.setIfInBounds_toArray, List.set_cons_succ, List.set_cons_zero]
          refine s_val (o := ⟨some 6, _, _, _, _, _⟩) (.bool true) rfl (by kernel_rfl) (fun u hu => exec_assign (.tmp 96) (.bool true) rfl (by kernel_rfl)) ?_
          simp only [Act.put, List.setIfInBounds_toArray, List.set_cons_succ, List.set_cons_zero]
          refine s_done ?_
          have qz := q7.trans r11
          clear q7 r11
          go_wp2
          go_ret
          exact ⟨rfl, qz⟩
  · have HD1 : Hid (diffOf (linksOf (X.take k)) (linksOf X) = (k : Int)) := by show _ = _; rw [linksOf_take, diff_cut2 _ k (by rw [HLx.out]; exact hkn), if_neg (by rw [HLx.out]; exact hkk)]
    have HD2 : Hid (diffOf (linksOf X) ((linksOf X).take k) = (k : Int)) := by show _ = _; rw [diff_cut _ k (by rw [HLx.out]; exact hkn), if_neg (by rw [HLx.out]; exact hkk)]
    have hkb : ((k : Int) == (n : Int)) = false := by rw [beq_eq_false_iff_ne]; omega
    clear hkk
    go_wp2_with fail
    refine (check_any _ (X.take k) (linksOf X) _ n n w5 HG5.out HVXk.out (by have := hlk.out; omega) (fun x hx => by have := HXk.out x hx; omega) HSx5.out HLx (by omega)).mono ?_
    rintro e w6 ⟨rfl, p6⟩
    rw [HD1.out]
    have q6 := q5.trans p6
    have HG6 := Lib.hid (HG5.out.kept p6)
    have HVX6 := Lib.hid (HVX5.out.kept p6)
    have HVY6 := Lib.hid (HVY5.out.kept p6)
    have HSx6 := Lib.hid (HSx5.out.kept p6)
    have HSy6 := Lib.hid (HSy5.out.kept p6)
    clear p6 q5 HG5 HVX5 HVY5 HSx5 HSy5 HVXk
    go_wp2_with fail
    refine (check_any _ X ((linksOf X).take k) _ k n w6 HG6.out HVX6.out (by have := hlX.out; omega) (fun x hx => by have := HXe.out x hx; omega) (HSx6.out.take k) HLk (by omega)).mono ?_
    rintro e w7 ⟨rfl, p7⟩
    rw [HD2.out]
    have q7 := q6.trans p7
    have HG7 := Lib.hid (HG6.out.kept p7)
    have HVX7 := Lib.hid (HVX6.out.kept p7)
    have HVY7 := Lib.hid (HVY6.out.kept p7)
    have HSx7 := Lib.hid (HSx6.out.kept p7)
    have HSy7 := Lib.hid (HSy6.out.kept p7)
    clear p7 q6 HG6 HVX6 HVY6 HSx6 HSy6
    go_wp2_with fail
    by_cases hn0 : n = 0
    · have hn0b : ((n : Int) == 0) = true := by rw [beq_iff_eq]; omega
      clear hn0
      refine wp_sched (fun u => Kept w7 u) [(0, 0), (1, 0), (2, 0), (3, 0), (4, 0), (5, 0), (6, 0), (7, 0), (8, 0), (9, 0), (10, 0), (11, 0), (12, 0), (13, 0), (14, 0), (15, 0), (16, 0), (17, 0), (18, 0), (19, 0), (20, 0), (21, 0), (22, 0), (23, 0), (24, 0), (25, 0), (26, 0), (27, 0), (28, 0), (29, 1), (30, 0), (31, 0)] (by kernel_rfl) (by kernel_rfl) ((Keep.drew (Kept.refl w7) : Kept w7 w7.drew)) ?_
      refine s_val (o := ⟨some 66, _, _, _, _, _⟩) (.int .i64 (n : Int)) rfl (by kernel_rfl) (fun u hu => exec_move (.tmp 9) (.int .i64 (n : Int)) rfl (by kernel_rfl)) ?_
      simp only [Act.put, List.setIfInBounds_toArray, List.set_cons_succ, List.set_cons_zero]
      refine s_val (o := ⟨some 67, _, _, _, _, _⟩) (.bool true) rfl (by kernel_rfl) (fun u hu => exec_eqi (.tmp 66) (.const (.int .i64 0)) _ (n : Int) 0 true rfl (by kernel_rfl) (by kernel_rfl) hn0b) ?_
      simp only [Act.put, List.setIfInBounds_toArray, List.set_cons_succ, List.set_cons_zero]
      refine s_val (o := ⟨some 68, _, _, _, _, _⟩) (.bool true) rfl (by kernel_rfl) (fun u hu => exec_move (.tmp 67) (.bool true) rfl (by kernel_rfl)) ?_
      simp only [Act.put, List.setIfInBounds_toArray, List.set_cons_succ, List.set_cons_zero]
      refine s_skip (o := ⟨some 69, _, _, _, _, _⟩) rfl (by kernel_rfl) ?_
      simp only [Act.put, List.setIfInBounds_toArray, List.set_cons_succ, List.set_cons_zero]
      refine s_skip (o := ⟨some 70, _, _, _, _, _⟩) rfl (by kernel_rfl) ?_
      simp only [Act.put, List.setIfInBounds_toArray, List.set_cons_succ, List.set_cons_zero]
      refine s_skip (o := ⟨some 71, _, _, _, _, _⟩) rfl (by kernel_rfl) ?_
      simp only [Act.put, List.setIfInBounds_toArray, List.set_cons_succ, List.set_cons_zero]
      refine s_val (o := ⟨some 72, _, _, _, _, _⟩) (.bool true) rfl (by kernel_rfl) (fun u hu => exec_pick (.tmp 68) (.const (.bool true)) (.tmp 71) (.bool true) rfl (by kernel_rfl) (by kernel_rfl)) ?_
      simp only [Act.put, List.setIfInBounds_toArray, List.set_cons_succ, List.set_cons_zero]
      refine s_val (o := ⟨some 73, _, _, _, _, _⟩) (.bool true) rfl (by kernel_rfl) (fun u hu => exec_move (.tmp 72) (.bool true) rfl (by kernel_rfl)) ?_
      simp only [Act.put, List.setIfInBounds_toArray, List.set_cons_succ, List.set_cons_zero]
      refine s_skip (o := ⟨some 74, _, _, _, _, _⟩) rfl (by kernel_rfl) ?_
      simp only [Act.put, List.setIfInBounds_toArray, List.set_cons_succ, List.set_cons_zero]
      refine s_skip (o := ⟨some 75, _, _, _, _, _⟩) rfl (by kernel_rfl) ?_
      simp only [Act.put, List.setIfInBounds_toArray, List.set_cons_succ, List.set_cons_zero]
      refine s_skip (o := ⟨some 76, _, _, _, _, _⟩) rfl (by kernel_rfl) ?_
      simp only [Act.put, List.setIfInBounds_toArray, List.set_cons_succ, List.set_cons_zero]
      refine s_skip (o := ⟨some 77, _, _, _, _, _⟩) rfl (by kernel_rfl) ?_
      simp only [Act.put, List.setIfInBounds_toArray, List.set_cons_succ, List.set_cons_zero]
      refine s_skip (o := ⟨some 78, _, _, _, _, _⟩) rfl (by kernel_rfl) ?_
      simp only [Act.put, List.setIfInBounds_toArray, List.set_cons_succ, List.set_cons_zero]
      refine s_skip (o := ⟨some 79, _, _, _, _, _⟩) rfl (by kernel_rfl) ?_
      simp only [Act.put, List.setIfInBounds_toArray, List.set_cons_succ, List.set_cons_zero]
      refine s_skip (o := ⟨some 80, _, _, _, _, _⟩) rfl (by kernel_rfl) ?_
      simp only [Act.put, List.setIfInBounds_toArray, List.set_cons_succ, List.set_cons_zero]
      refine s_skip (o := ⟨some 81, _, _, _, _, _⟩) rfl (by kernel_rfl) ?_
      simp only [Act.put, List.setIfInBounds_toArray, List.set_cons_succ, List.set_cons_zero]
      refine s_skip (o := ⟨some 82, _, _, _, _, _⟩) rfl (by kernel_rfl) ?_
      simp only [Act.put, List.setIfInBounds_toArray, List.set_cons_succ, List.set_cons_zero]
      refine s_skip (o := ⟨some 83, _, _, _, _, _⟩) rfl (by kernel_rfl) ?_
      simp only [Act.put, List.setIfInBounds_toArray, List.set_cons_succ, List.set_cons_zero]
      refine s_skip (o := ⟨some 84, _, _, _, _, _⟩) rfl (by kernel_rfl) ?_
      simp only [Act.put, List.setIfInBounds_toArray, List.set_cons_succ, List.set_cons_zero]
      refine s_val (o := ⟨some 85, _, _, _, _, _⟩) (.bool true) rfl (by kernel_rfl) (fun u hu => exec_pick (.tmp 73) (.const (.bool true)) (.tmp 84) (.bool true) rfl (by kernel_rfl) (by kernel_rfl)) ?_
      simp only [Act.put, List.setIfInBounds_toArray, List.set_cons_succ, List.set_cons_zero]
      refine s_val (o := ⟨some 86, _, _, _, _, _⟩) (.bool true) rfl (by kernel_rfl) (fun u hu => exec_move (.tmp 85) (.bool true) rfl (by kernel_rfl)) ?_
      simp only [Act.put, List.setIfInBounds_toArray, List.set_cons_succ, List.set_cons_zero]
      refine s_skip (o := ⟨some 87, _, _, _, _, _⟩) rfl (by kernel_rfl) ?_
      simp only [Act.put, List.setIfInBounds_toArray, List.set_cons_succ, List.set_cons_zero]
      refine s_skip (o := ⟨some 88, _, _, _, _, _⟩) rfl (by kernel_rfl) ?_
      simp only [Act.put, List.setIfInBounds_toArray, List.set_cons_succ, List.set_cons_zero]
      refine s_skip (o := ⟨some 89, _, _, _, _, _⟩) rfl (by kernel_rfl) ?_
      simp only [Act.put, List.setIfInBounds_toArray, List.set_cons_succ, List.set_cons_zero]
      refine s_skip (o := ⟨some 90, _, _, _, _, _⟩) rfl (by kernel_rfl) ?_
      simp only [Act.put, List.setIfInBounds_toArray, List.set_cons_succ, List.set_cons_zero]
      refine s_skip (o := ⟨some 91, _, _, _, _, _⟩) rfl (by kernel_rfl) ?_
      simp only [Act.put, List.setIfInBounds_toArray, List.set_cons_succ, List.set_cons_zero]
      refine s_skip (o := ⟨some 92, _, _, _, _, _⟩) rfl (by kernel_rfl) ?_
      simp only [Act.put, List.setIfInBounds_toArray, List.set_cons_succ, List.set_cons_zero]
      refine s_val (o := ⟨some 93, _, _, _, _, _⟩) (.bool true) rfl (by kernel_rfl) (fun u hu => exec_pick (.tmp 86) (.const (.bool true)) (.tmp 92) (.bool true) rfl (by kernel_rfl) (by kernel_rfl)) ?_
      simp only [Act.put, List.setIfInBounds_toArray, List.set_cons_succ, List.set_cons_zero]
      refine s_val (o := ⟨some 94, _, _, _, _, _⟩) (.bool true) rfl (by kernel_rfl) (fun u hu => exec_move (.tmp 93) (.bool true) rfl (by kernel_rfl)) ?_
      simp only [Act.put, List.setIfInBounds_toArray, List.set_cons_succ, List.set_cons_zero]
      refine s_call (o := ⟨some 95, _, _, _, _, _⟩) 3 #[] rfl (by kernel_rfl) (exec_call 3 _ [] _ _ Tryd.func3 (by kernel_rfl) (by kernel_rfl) rfl (by kernel_rfl)) ?_
      refine (chainRuns_any w7.drew (HG7.out.kept (Keep.drew (Kept.refl w7) : Kept w7 w7.drew))).mono ?_
      rintro e w11 ⟨rfl, p11⟩
      have r11 : Kept w7 w11 := Kept.trans (Keep.drew (Kept.refl w7) : Kept w7 w7.drew) p11
      refine ⟨_, rfl, r11, ?_⟩
      simp only [Act.put, List.setIfInBounds_toArray, List.set_cons_succ, List.set_cons_zero]
      refine s_val (o := ⟨some 96, _, _, _, _, _⟩) (.bool true) rfl (by kernel_rfl) (fun u hu => exec_pick (.tmp 94) (.tmp 95) (.const (.bool false)) (.bool true) rfl (by kernel_rfl) (by kernel_rfl)) ?_
      simp only [Act.put, List.setIfInBounds_toArray, List.set_cons_succ, List.set_cons_zero]
      refine s_val (o := ⟨some 6, _, _, _, _, _⟩) (.bool true) rfl (by kernel_rfl) (fun u hu => exec_assign (.tmp 96) (.bool true) rfl (by kernel_rfl)) ?_
      simp only [Act.put, List.setIfInBounds_toArray, List.set_cons_succ, List.set_cons_zero]
      refine s_done ?_
      have qz := q7.trans r11
      clear q7 r11
      go_wp2
      go_ret
      exact ⟨rfl, qz⟩
    · have hn0b : ((n : Int) == 0) = false := by rw [beq_eq_false_iff_ne]; omega
      have hnpos : 0 < n := by omega
      clear hn0
      by_cases hXY : X = Y
      · have HXY := Lib.hid hXY
        clear hXY
        refine wp_sched (fun u => Kept w7 u) [(0, 0), (1, 0), (2, 0), (3, 0), (4, 0), (5, 1), (6, 0), (7, 0), (8, 0), (9, 0), (10, 0), (11, 0), (12, 0), (13, 0), (14, 0), (15, 0), (16, 0), (17, 0), (18, 0), (19, 0), (20, 0), (21, 0), (22, 0), (23, 0), (24, 0), (25, 0), (26, 0), (27, 0), (28, 0), (29, 1), (30, 0), (31, 0)] (by kernel_rfl) (by kernel_rfl) ((Keep.drew (Kept.refl w7) : Kept w7 w7.drew)) ?_
        refine s_val (o := ⟨some 66, _, _, _, _, _⟩) (.int .i64 (n : Int)) rfl (by kernel_rfl) (fun u hu => exec_move (.tmp 9) (.int .i64 (n : Int)) rfl (by kernel_rfl)) ?_
        simp only [Act.put, List.setIfInBounds_toArray, List.set_cons_succ, List.set_cons_zero]
        refine s_val (o := ⟨some 67, _, _, _, _, _⟩) (.bool false) rfl (by kernel_rfl) (fun u hu => exec_eqi (.tmp 66) (.const (.int .i64 0)) _ (n : Int) 0 false rfl (by kernel_rfl) (by kernel_rfl) hn0b) ?_
        simp only [Act.put, List.setIfInBounds_toArray, List.set_cons_succ, List.set_cons_zero]
        refine s_val (o := ⟨some 68, _, _, _, _, _⟩) (.bool false) rfl (by kernel_rfl) (fun u hu => exec_move (.tmp 67) (.bool false) rfl (by kernel_rfl)) ?_
        simp only [Act.put, List.setIfInBounds_toArray, List.set_cons_succ, List.set_cons_zero]
        refine s_val (o := ⟨some 69, _, _, _, _, _⟩) (.slice A1 n c1) rfl (by kernel_rfl) (fun u hu => exec_move (.tmp 7) (.slice A1 n c1) rfl (by kernel_rfl)) ?_
        simp only [Act.put, List.setIfInBounds_toArray, List.set_cons_succ, List.set_cons_zero]
        refine s_val (o := ⟨some 70, _, _, _, _, _⟩) (.slice A2 n c2) rfl (by kernel_rfl) (fun u hu => exec_move (.tmp 8) (.slice A2 n c2) rfl (by kernel_rfl)) ?_
        simp only [Act.put, List.setIfInBounds_toArray, List.set_cons_succ, List.set_cons_zero]
        refine s_call (o := ⟨some 71, _, _, _, _, _⟩) 18 #[.slice A1 n c1, .slice A2 n c2] rfl (by kernel_rfl) (exec_call 18 _ [.tmp 69, .tmp 70] _ _ Tryd.func18 (by kernel_rfl) (by kernel_rfl) rfl (by kernel_rfl)) ?_
        refine (sameR_any _ _ X Y w7.drew (HVX7.out.kept (Keep.drew (Kept.refl w7))) (HVY7.out.kept (Keep.drew (Kept.refl w7))) (by have := hlX.out; omega) (by have := hlY.out; omega)).mono ?_
        rintro e w8 ⟨rfl, p8⟩
        rw [decide_eq_true HXY.out]
        have r8 : Kept w7 w8 := Kept.trans (Keep.drew (Kept.refl w7)) p8
        refine ⟨_, rfl, r8, ?_⟩
        simp only [Act.put, List.setIfInBounds_toArray, List.set_cons_succ, List.set_cons_zero]
        refine s_val (o := ⟨some 72, _, _, _, _, _⟩) (.bool true) rfl (by kernel_rfl) (fun u hu => exec_pickF (.tmp 68) (.const (.bool true)) (.tmp 71) (.bool true) rfl (by kernel_rfl) (by kernel_rfl)) ?_
        simp only [Act.put, List.setIfInBounds_toArray, List.set_cons_succ, List.set_cons_zero]
        refine s_val (o := ⟨some 73, _, _, _, _, _⟩) (.bool true) rfl (by kernel_rfl) (fun u hu => exec_move (.tmp 72) (.bool true) rfl (by kernel_rfl)) ?_
        simp only [Act.put, List.setIfInBounds_toArray, List.set_cons_succ, List.set_cons_zero]
        refine s_skip (o := ⟨some 74, _, _, _, _, _⟩) rfl (by kernel_rfl) ?_
        simp only [Act.put, List.setIfInBounds_toArray, List.set_cons_succ, List.set_cons_zero]
        refine s_skip (o := ⟨some 75, _, _, _, _, _⟩) rfl (by kernel_rfl) ?_
        simp only [Act.put, List.setIfInBounds_toArray, List.set_cons_succ, List.set_cons_zero]
        refine s_skip (o := ⟨some 76, _, _, _, _, _⟩) rfl (by kernel_rfl) ?_
        simp only [Act.put, List.setIfInBounds_toArray, List.set_cons_succ, List.set_cons_zero]
        refine s_skip (o := ⟨some 77, _, _, _, _, _⟩) rfl (by kernel_rfl) ?_
        simp only [Act.put, List.setIfInBounds_toArray, List.set_cons_succ, List.set_cons_zero]
        refine s_skip (o := ⟨some 78, _, _, _, _, _⟩) rfl (by kernel_rfl) ?_
        simp only [Act.put, List.setIfInBounds_toArray, List.set_cons_succ, List.set_cons_zero]
        refine s_skip (o := ⟨some 79, _, _, _, _, _⟩) rfl (by kernel_rfl) ?_
        simp only [Act.put, List.setIfInBounds_toArray, List.set_cons_succ, List.set_cons_zero]
        refine s_skip (o := ⟨some 80, _, _, _, _, _⟩) rfl (by kernel_rfl) ?_
        simp only [Act.put, List.setIfInBounds_toArray, List.set_cons_succ, List.set_cons_zero]
        refine s_skip (o := ⟨some 81, _, _, _, _, _⟩) rfl (by kernel_rfl) ?_
        simp only [Act.put, List.setIfInBounds_toArray, List.set_cons_succ, List.set_cons_zero]
        refine s_skip (o := ⟨some 82, _, _, _, _, _⟩) rfl (by kernel_rfl) ?_
        simp only [Act.put, List.setIfInBounds_toArray, List.set_cons_succ, List.set_cons_zero]
        refine s_skip (o := ⟨some 83, _, _, _, _, _⟩) rfl (by kernel_rfl) ?_
        simp only [Act.put, List.setIfInBounds_toArray, List.set_cons_succ, List.set_cons_zero]
        refine s_skip (o := ⟨some 84, _, _, _, _, _⟩) rfl (by kernel_rfl) ?_
        simp only [Act.put, List.setIfInBounds_toArray, List.set_cons_succ, List.set_cons_zero]
        refine s_val (o := ⟨some 85, _, _, _, _, _⟩) (.bool true) rfl (by kernel_rfl) (fun u hu => exec_pick (.tmp 73) (.const (.bool true)) (.tmp 84) (.bool true) rfl (by kernel_rfl) (by kernel_rfl)) ?_
        simp only [Act.put, List.setIfInBounds_toArray, List.set_cons_succ, List.set_cons_zero]
        refine s_val (o := ⟨some 86, _, _, _, _, _⟩) (.bool true) rfl (by kernel_rfl) (fun u hu => exec_move (.tmp 85) (.bool true) rfl (by kernel_rfl)) ?_
        simp only [Act.put, List.setIfInBounds_toArray, List.set_cons_succ, List.set_cons_zero]
        refine s_skip (o := ⟨some 87, _, _, _, _, _⟩) rfl (by kernel_rfl) ?_
        simp only [Act.put, List.setIfInBounds_toArray, List.set_cons_succ, List.set_cons_zero]
        refine s_skip (o := ⟨some 88, _, _, _, _, _⟩) rfl (by kernel_rfl) ?_
        simp only [Act.put, List.setIfInBounds_toArray, List.set_cons_succ, List.set_cons_zero]
        refine s_skip (o := ⟨some 89, _, _, _, _, _⟩) rfl (by kernel_rfl) ?_
        simp only [Act.put, List.setIfInBounds_toArray, List.set_cons_succ, List.set_cons_zero]
        refine s_skip (o := ⟨some 90, _, _, _, _, _⟩) rfl (by kernel_rfl) ?_
        simp only [Act.put, List.setIfInBounds_toArray, List.set_cons_succ, List.set_cons_zero]
        refine s_skip (o := ⟨some 91, _, _, _, _, _⟩) rfl (by kernel_rfl) ?_
        simp only [Act.put, List.setIfInBounds_toArray, List.set_cons_succ, List.set_cons_zero]
        refine s_skip (o := ⟨some 92, _, _, _, _, _⟩) rfl (by kernel_rfl) ?_
        simp only [Act.put, List.setIfInBounds_toArray, List.set_cons_succ, List.set_cons_zero]
        refine s_val (o := ⟨some 93, _, _, _, _, _⟩) (.bool true) rfl (by kernel_rfl) (fun u hu => exec_pick (.tmp 86) (.const (.bool true)) (.tmp 92) (.bool true) rfl (by kernel_rfl) (by kernel_rfl)) ?_
        simp only [Act.put, List.setIfInBounds_toArray, List.set_cons_succ, List.set_cons_zero]
        refine s_val (o := ⟨some 94, _, _, _, _, _⟩) (.bool true) rfl (by kernel_rfl) (fun u hu => exec_move (.tmp 93) (.bool true) rfl (by kernel_rfl)) ?_
        simp only [Act.put, List.setIfInBounds_toArray, List.set_cons_succ, List.set_cons_zero]
        refine s_call (o := ⟨some 95, _, _, _, _, _⟩) 3 #[] rfl (by kernel_rfl) (exec_call 3 _ [] _ _ Tryd.func3 (by kernel_rfl) (by kernel_rfl) rfl (by kernel_rfl)) ?_
        refine (chainRuns_any w8 (HG7.out.kept r8)).mono ?_
        rintro e w11 ⟨rfl, p11⟩
        have r11 : Kept w7 w11 := Kept.trans r8 p11
        refine ⟨_, rfl, r11, ?_⟩
        simp only [Act.put, List.setIfInBounds_toArray, List.set_cons_succ, List.set_cons_zero]
        refine s_val (o := ⟨some 96, _, _, _, _, _⟩) (.bool true) rfl (by kernel_rfl) (fun u hu => exec_pick (.tmp 94) (.tmp 95) (.const (.bool false)) (.bool true) rfl (by kernel_rfl) (by kernel_rfl)) ?_
        simp only [Act.put, List.setIfInBounds_toArray, List.set_cons_succ, List.set_cons_zero]
        refine s_val (o := ⟨some 6, _, _, _, _, _⟩) (.bool true) rfl (by kernel_rfl) (fun u hu => exec_assign (.tmp 96) (.bool true) rfl (by kernel_rfl)) ?_
        simp only [Act.put, List.setIfInBounds_toArray, List.set_cons_succ, List.set_cons_zero]
        refine s_done ?_
        have qz := q7.trans r11
        clear q7 r11
        go_wp2
        go_ret
        exact ⟨rfl, qz⟩
      · have HXY := Lib.hid hXY
        clear hXY
        obtain ⟨S, hS⟩ : ∃ S, S = aheadOf X n := ⟨_, rfl⟩
        obtain ⟨T, hT⟩ : ∃ T, T = aheadOf Y n := ⟨_, rfl⟩
        obtain ⟨hSl, gx', ex, hrx⟩ := HSx7.out (n - 1) S (by rw [linksOf_ahead X (n - 1) (by have := hlX.out; omega), show n - 1 + 1 = n by omega, hS])
        obtain ⟨hTl, gy', ey, hry⟩ := HSy7.out (n - 1) T (by rw [linksOf_ahead Y (n - 1) (by have := hlY.out; omega), show n - 1 + 1 = n by omega, hT])
        injection ex with ex
        injection ex with ex
        injection ey with ey
        injection ey with ey
        subst ex ey
        have HSl := Lib.hid hSl
        have HTl := Lib.hid hTl
        have HRx := Lib.hid hrx
        have HRy := Lib.hid hry
        have hcl : S = T → ∃ j : Nat, clashOf X Y = (j : Int) ∧ clashAt X Y j := fun h => by
          rcases chain_last X Y (by rw [hlX.out, hlY.out]) (by rw [hlX.out, hlY.out, ← hS, ← hT]; exact h) with h | h
          · exact absurd h HXY.out
          · exact h
        clear hS hT hSl hTl hrx hry
        by_cases hST : S = T
        · obtain ⟨j, hj, hc⟩ := hcl hST
          have HST := Lib.hid hST
          have HJ := Lib.hid hj
          have HCL := Lib.hid hc
          clear hcl hST hj hc
          refine wp_sched (fun u => Kept w7 u) [(0, 0), (1, 0), (2, 0), (3, 0), (4, 0), (5, 1), (6, 0), (7, 0), (8, 0), (9, 0), (10, 0), (11, 0), (12, 0), (13, 0), (14, 0), (15, 0), (16, 0), (17, 0), (18, 0), (19, 0), (20, 0), (21, 0), (22, 0), (23, 0), (24, 0), (25, 1), (26, 1), (27, 0), (28, 0), (29, 1), (30, 0), (31, 0)] (by kernel_rfl) (by kernel_rfl) ((Keep.drew (Kept.refl w7) : Kept w7 w7.drew)) ?_
          refine s_val (o := ⟨some 66, _, _, _, _, _⟩) (.int .i64 (n : Int)) rfl (by kernel_rfl) (fun u hu => exec_move (.tmp 9) (.int .i64 (n : Int)) rfl (by kernel_rfl)) ?_
          simp only [Act.put, List.setIfInBounds_toArray, List.set_cons_succ, List.set_cons_zero]
          refine s_val (o := ⟨some 67, _, _, _, _, _⟩) (.bool false) rfl (by kernel_rfl) (fun u hu => exec_eqi (.tmp 66) (.const (.int .i64 0)) _ (n : Int) 0 false rfl (by kernel_rfl) (by kernel_rfl) hn0b) ?_
          simp only [Act.put, List.setIfInBounds_toArray, List.set_cons_succ, List.set_cons_zero]
          refine s_val (o := ⟨some 68, _, _, _, _, _⟩) (.bool false) rfl (by kernel_rfl) (fun u hu => exec_move (.tmp 67) (.bool false) rfl (by kernel_rfl)) ?_
          simp only [Act.put, List.setIfInBounds_toArray, List.set_cons_succ, List.set_cons_zero]
          refine s_val (o := ⟨some 69, _, _, _, _, _⟩) (.slice A1 n c1) rfl (by kernel_rfl) (fun u hu => exec_move (.tmp 7) (.slice A1 n c1) rfl (by kernel_rfl)) ?_
          simp only [Act.put, List.setIfInBounds_toArray, List.set_cons_succ, List.set_cons_zero]
          refine s_val (o := ⟨some 70, _, _, _, _, _⟩) (.slice A2 n c2) rfl (by kernel_rfl) (fun u hu => exec_move (.tmp 8) (.slice A2 n c2) rfl (by kernel_rfl)) ?_
          simp only [Act.put, List.setIfInBounds_toArray, List.set_cons_succ, List.set_cons_zero]
          refine s_call (o := ⟨some 71, _, _, _, _, _⟩) 18 #[.slice A1 n c1, .slice A2 n c2] rfl (by kernel_rfl) (exec_call 18 _ [.tmp 69, .tmp 70] _ _ Tryd.func18 (by kernel_rfl) (by kernel_rfl) rfl (by kernel_rfl)) ?_
          refine (sameR_any _ _ X Y w7.drew (HVX7.out.kept (Keep.drew (Kept.refl w7))) (HVY7.out.kept (Keep.drew (Kept.refl w7))) (by have := hlX.out; omega) (by have := hlY.out; omega)).mono ?_
          rintro e w8 ⟨rfl, p8⟩
          rw [decide_eq_false HXY.out]
          have r8 : Kept w7 w8 := Kept.trans (Keep.drew (Kept.refl w7)) p8
          refine ⟨_, rfl, r8, ?_⟩
          simp only [Act.put, List.setIfInBounds_toArray, List.set_cons_succ, List.set_cons_zero]
          refine s_val (o := ⟨some 72, _, _, _, _, _⟩) (.bool false) rfl (by kernel_rfl) (fun u hu => exec_pickF (.tmp 68) (.const (.bool true)) (.tmp 71) (.bool false) rfl (by kernel_rfl) (by kernel_rfl)) ?_
          simp only [Act.put, List.setIfInBounds_toArray, List.set_cons_succ, List.set_cons_zero]
          refine s_val (o := ⟨some 73, _, _, _, _, _⟩) (.bool false) rfl (by kernel_rfl) (fun u hu => exec_move (.tmp 72) (.bool false) rfl (by kernel_rfl)) ?_
          simp only [Act.put, List.setIfInBounds_toArray, List.set_cons_succ, List.set_cons_zero]
          refine s_val (o := ⟨some 74, _, _, _, _, _⟩) (.slice (some ⟨gx, 0, none⟩) n n) rfl (by kernel_rfl) (fun u hu => exec_move (.tmp 10) (.slice (some ⟨gx, 0, none⟩) n n) rfl (by kernel_rfl)) ?_
          simp only [Act.put, List.setIfInBounds_toArray, List.set_cons_succ, List.set_cons_zero]
          refine s_val (o := ⟨some 75, _, _, _, _, _⟩) (.int .i64 (n : Int)) rfl (by kernel_rfl) (fun u hu => exec_move (.tmp 9) (.int .i64 (n : Int)) rfl (by kernel_rfl)) ?_
          simp only [Act.put, List.setIfInBounds_toArray, List.set_cons_succ, List.set_cons_zero]
          refine s_val (o := ⟨some 76, _, _, _, _, _⟩) (.int .i64 (((n - 1 : Nat)) : Int)) rfl (by kernel_rfl) (fun u hu => exec_subi (.tmp 75) (.const (.int .i64 1)) _ (n : Int) 1 (((n - 1 : Nat)) : Int) rfl (by kernel_rfl) (by kernel_rfl) (by omega) (by omega) (by omega)) ?_
          simp only [Act.put, List.setIfInBounds_toArray, List.set_cons_succ, List.set_cons_zero]
          refine s_val (o := ⟨some 77, _, _, _, _, _⟩) (.pointer (some ⟨gx, 0 + (n - 1) * 32, none⟩)) rfl (by kernel_rfl) (fun u hu => exec_index 24 30 32 (.tmp 74) (.tmp 76) gx 0 n n (n - 1) rfl Tryd.underlying24 sum_size (by kernel_rfl) (by kernel_rfl) (by omega)) ?_
          simp only [Act.put, List.setIfInBounds_toArray, List.set_cons_succ, List.set_cons_zero]
          refine s_val (o := ⟨some 78, _, _, _, _, _⟩) (.agg (cells8 S).toArray) rfl (by kernel_rfl) (fun u hu => exec_load_mid (.tmp 77) gx (0 + (n - 1) * 32) S rfl (by kernel_rfl) (fun j v hv => by rw [Nat.zero_add]; exact Kept.cell hu (HRx.out j v hv)) HSl.out) ?_
          simp only [Act.put, List.setIfInBounds_toArray, List.set_cons_succ, List.set_cons_zero]
          refine s_val (o := ⟨some 79, _, _, _, _, _⟩) (.slice (some ⟨gy, 0, none⟩) n n) rfl (by kernel_rfl) (fun u hu => exec_move (.tmp 11) (.slice (some ⟨gy, 0, none⟩) n n) rfl (by kernel_rfl)) ?_
          simp only [Act.put, List.setIfInBounds_toArray, List.set_cons_succ, List.set_cons_zero]
          refine s_val (o := ⟨some 80, _, _, _, _, _⟩) (.int .i64 (n : Int)) rfl (by kernel_rfl) (fun u hu => exec_move (.tmp 9) (.int .i64 (n : Int)) rfl (by kernel_rfl)) ?_
          simp only [Act.put, List.setIfInBounds_toArray, List.set_cons_succ, List.set_cons_zero]
          refine s_val (o := ⟨some 81, _, _, _, _, _⟩) (.int .i64 (((n - 1 : Nat)) : Int)) rfl (by kernel_rfl) (fun u hu => exec_subi (.tmp 80) (.const (.int .i64 1)) _ (n : Int) 1 (((n - 1 : Nat)) : Int) rfl (by kernel_rfl) (by kernel_rfl) (by omega) (by omega) (by omega)) ?_
          simp only [Act.put, List.setIfInBounds_toArray, List.set_cons_succ, List.set_cons_zero]
          refine s_val (o := ⟨some 82, _, _, _, _, _⟩) (.pointer (some ⟨gy, 0 + (n - 1) * 32, none⟩)) rfl (by kernel_rfl) (fun u hu => exec_index 24 30 32 (.tmp 79) (.tmp 81) gy 0 n n (n - 1) rfl Tryd.underlying24 sum_size (by kernel_rfl) (by kernel_rfl) (by omega)) ?_
          simp only [Act.put, List.setIfInBounds_toArray, List.set_cons_succ, List.set_cons_zero]
          refine s_val (o := ⟨some 83, _, _, _, _, _⟩) (.agg (cells8 T).toArray) rfl (by kernel_rfl) (fun u hu => exec_load_mid (.tmp 82) gy (0 + (n - 1) * 32) T rfl (by kernel_rfl) (fun j v hv => by rw [Nat.zero_add]; exact Kept.cell hu (HRy.out j v hv)) HTl.out) ?_
          simp only [Act.put, List.setIfInBounds_toArray, List.set_cons_succ, List.set_cons_zero]
          refine s_val (o := ⟨some 84, _, _, _, _, _⟩) (.bool false) rfl (by kernel_rfl) (fun u hu => (by rw [exec_neq8 (.tmp 78) (.tmp 83) _ S T rfl (by kernel_rfl) (by kernel_rfl) HSl.out HTl.out, decide_eq_true HST.out]; rfl)) ?_
          simp only [Act.put, List.setIfInBounds_toArray, List.set_cons_succ, List.set_cons_zero]
          refine s_val (o := ⟨some 85, _, _, _, _, _⟩) (.bool false) rfl (by kernel_rfl) (fun u hu => exec_pickF (.tmp 73) (.const (.bool true)) (.tmp 84) (.bool false) rfl (by kernel_rfl) (by kernel_rfl)) ?_
          simp only [Act.put, List.setIfInBounds_toArray, List.set_cons_succ, List.set_cons_zero]
          refine s_val (o := ⟨some 86, _, _, _, _, _⟩) (.bool false) rfl (by kernel_rfl) (fun u hu => exec_move (.tmp 85) (.bool false) rfl (by kernel_rfl)) ?_
          simp only [Act.put, List.setIfInBounds_toArray, List.set_cons_succ, List.set_cons_zero]
          refine s_val (o := ⟨some 87, _, _, _, _, _⟩) (.slice A1 n c1) rfl (by kernel_rfl) (fun u hu => exec_move (.tmp 7) (.slice A1 n c1) rfl (by kernel_rfl)) ?_
          simp only [Act.put, List.setIfInBounds_toArray, List.set_cons_succ, List.set_cons_zero]
          refine s_val (o := ⟨some 88, _, _, _, _, _⟩) (.slice A2 n c2) rfl (by kernel_rfl) (fun u hu => exec_move (.tmp 8) (.slice A2 n c2) rfl (by kernel_rfl)) ?_
          simp only [Act.put, List.setIfInBounds_toArray, List.set_cons_succ, List.set_cons_zero]
          refine s_val (o := ⟨some 89, _, _, _, _, _⟩) (.slice A1 n c1) rfl (by kernel_rfl) (fun u hu => exec_move (.tmp 7) (.slice A1 n c1) rfl (by kernel_rfl)) ?_
          simp only [Act.put, List.setIfInBounds_toArray, List.set_cons_succ, List.set_cons_zero]
          refine s_val (o := ⟨some 90, _, _, _, _, _⟩) (.slice A2 n c2) rfl (by kernel_rfl) (fun u hu => exec_move (.tmp 8) (.slice A2 n c2) rfl (by kernel_rfl)) ?_
          simp only [Act.put, List.setIfInBounds_toArray, List.set_cons_succ, List.set_cons_zero]
          refine s_call (o := ⟨some 91, _, _, _, _, _⟩) 9 #[.slice A1 n c1, .slice A2 n c2] rfl (by kernel_rfl) (exec_call 9 _ [.tmp 89, .tmp 90] _ _ Tryd.func9 (by kernel_rfl) (by kernel_rfl) rfl (by kernel_rfl)) ?_
          refine (clash_any _ _ X Y w8 (HG7.out.kept r8) (HVX7.out.kept r8) (HVY7.out.kept r8) (by have := hlX.out; omega) (by have := hlY.out; omega) (fun x hx => by have := HXe.out x hx; omega) (fun x hx => by have := HYe.out x hx; omega)).mono ?_
          rintro e w9 ⟨rfl, p9⟩
          rw [HJ.out]
          have r9 := r8.trans p9
          refine ⟨_, rfl, r9, ?_⟩
          simp only [Act.put, List.setIfInBounds_toArray, List.set_cons_succ, List.set_cons_zero]
          refine s_call (o := ⟨some 92, _, _, _, _, _⟩) 19 #[.slice A1 n c1, .slice A2 n c2, .int .i64 (j : Int)] rfl (by kernel_rfl) (exec_call 19 _ [.tmp 87, .tmp 88, .tmp 91] _ _ Tryd.func19 (by kernel_rfl) (by kernel_rfl) rfl (by kernel_rfl)) ?_
          refine (clashes_true _ _ X Y j w9 (HG7.out.kept r9) (HVX7.out.kept r9) (HVY7.out.kept r9) (by have := hlX.out; omega) (by have := hlY.out; omega) (fun x hx => by have := HXe.out x hx; omega) (fun x hx => by have := HYe.out x hx; omega) HCL.out).mono ?_
          rintro e w10 ⟨rfl, p10⟩
          have r10 := r9.trans p10
          refine ⟨_, rfl, r10, ?_⟩
          simp only [Act.put, List.setIfInBounds_toArray, List.set_cons_succ, List.set_cons_zero]
          refine s_val (o := ⟨some 93, _, _, _, _, _⟩) (.bool true) rfl (by kernel_rfl) (fun u hu => exec_pickF (.tmp 86) (.const (.bool true)) (.tmp 92) (.bool true) rfl (by kernel_rfl) (by kernel_rfl)) ?_
          simp only [Act.put, List.setIfInBounds_toArray, List.set_cons_succ, List.set_cons_zero]
          refine s_val (o := ⟨some 94, _, _, _, _, _⟩) (.bool true) rfl (by kernel_rfl) (fun u hu => exec_move (.tmp 93) (.bool true) rfl (by kernel_rfl)) ?_
          simp only [Act.put, List.setIfInBounds_toArray, List.set_cons_succ, List.set_cons_zero]
          refine s_call (o := ⟨some 95, _, _, _, _, _⟩) 3 #[] rfl (by kernel_rfl) (exec_call 3 _ [] _ _ Tryd.func3 (by kernel_rfl) (by kernel_rfl) rfl (by kernel_rfl)) ?_
          refine (chainRuns_any w10 (HG7.out.kept r10)).mono ?_
          rintro e w11 ⟨rfl, p11⟩
          have r11 : Kept w7 w11 := Kept.trans r10 p11
          refine ⟨_, rfl, r11, ?_⟩
          simp only [Act.put, List.setIfInBounds_toArray, List.set_cons_succ, List.set_cons_zero]
          refine s_val (o := ⟨some 96, _, _, _, _, _⟩) (.bool true) rfl (by kernel_rfl) (fun u hu => exec_pick (.tmp 94) (.tmp 95) (.const (.bool false)) (.bool true) rfl (by kernel_rfl) (by kernel_rfl)) ?_
          simp only [Act.put, List.setIfInBounds_toArray, List.set_cons_succ, List.set_cons_zero]
          refine s_val (o := ⟨some 6, _, _, _, _, _⟩) (.bool true) rfl (by kernel_rfl) (fun u hu => exec_assign (.tmp 96) (.bool true) rfl (by kernel_rfl)) ?_
          simp only [Act.put, List.setIfInBounds_toArray, List.set_cons_succ, List.set_cons_zero]
          refine s_done ?_
          have qz := q7.trans r11
          clear q7 r11
          go_wp2
          go_ret
          exact ⟨rfl, qz⟩
        · have HST := Lib.hid hST
          clear hcl hST
          refine wp_sched (fun u => Kept w7 u) [(0, 0), (1, 0), (2, 0), (3, 0), (4, 0), (5, 1), (6, 0), (7, 0), (8, 0), (9, 0), (10, 0), (11, 0), (12, 0), (13, 0), (14, 0), (15, 0), (16, 0), (17, 0), (18, 0), (19, 0), (20, 0), (21, 0), (22, 0), (23, 0), (24, 0), (25, 0), (26, 0), (27, 0), (28, 0), (29, 1), (30, 0), (31, 0)] (by kernel_rfl) (by kernel_rfl) ((Keep.drew (Kept.refl w7) : Kept w7 w7.drew)) ?_
          refine s_val (o := ⟨some 66, _, _, _, _, _⟩) (.int .i64 (n : Int)) rfl (by kernel_rfl) (fun u hu => exec_move (.tmp 9) (.int .i64 (n : Int)) rfl (by kernel_rfl)) ?_
          simp only [Act.put, List.setIfInBounds_toArray, List.set_cons_succ, List.set_cons_zero]
          refine s_val (o := ⟨some 67, _, _, _, _, _⟩) (.bool false) rfl (by kernel_rfl) (fun u hu => exec_eqi (.tmp 66) (.const (.int .i64 0)) _ (n : Int) 0 false rfl (by kernel_rfl) (by kernel_rfl) hn0b) ?_
          simp only [Act.put, List.setIfInBounds_toArray, List.set_cons_succ, List.set_cons_zero]
          refine s_val (o := ⟨some 68, _, _, _, _, _⟩) (.bool false) rfl (by kernel_rfl) (fun u hu => exec_move (.tmp 67) (.bool false) rfl (by kernel_rfl)) ?_
          simp only [Act.put, List.setIfInBounds_toArray, List.set_cons_succ, List.set_cons_zero]
          refine s_val (o := ⟨some 69, _, _, _, _, _⟩) (.slice A1 n c1) rfl (by kernel_rfl) (fun u hu => exec_move (.tmp 7) (.slice A1 n c1) rfl (by kernel_rfl)) ?_
          simp only [Act.put, List.setIfInBounds_toArray, List.set_cons_succ, List.set_cons_zero]
          refine s_val (o := ⟨some 70, _, _, _, _, _⟩) (.slice A2 n c2) rfl (by kernel_rfl) (fun u hu => exec_move (.tmp 8) (.slice A2 n c2) rfl (by kernel_rfl)) ?_
          simp only [Act.put, List.setIfInBounds_toArray, List.set_cons_succ, List.set_cons_zero]
          refine s_call (o := ⟨some 71, _, _, _, _, _⟩) 18 #[.slice A1 n c1, .slice A2 n c2] rfl (by kernel_rfl) (exec_call 18 _ [.tmp 69, .tmp 70] _ _ Tryd.func18 (by kernel_rfl) (by kernel_rfl) rfl (by kernel_rfl)) ?_
          refine (sameR_any _ _ X Y w7.drew (HVX7.out.kept (Keep.drew (Kept.refl w7))) (HVY7.out.kept (Keep.drew (Kept.refl w7))) (by have := hlX.out; omega) (by have := hlY.out; omega)).mono ?_
          rintro e w8 ⟨rfl, p8⟩
          rw [decide_eq_false HXY.out]
          have r8 : Kept w7 w8 := Kept.trans (Keep.drew (Kept.refl w7)) p8
          refine ⟨_, rfl, r8, ?_⟩
          simp only [Act.put, List.setIfInBounds_toArray, List.set_cons_succ, List.set_cons_zero]
          refine s_val (o := ⟨some 72, _, _, _, _, _⟩) (.bool false) rfl (by kernel_rfl) (fun u hu => exec_pickF (.tmp 68) (.const (.bool true)) (.tmp 71) (.bool false) rfl (by kernel_rfl) (by kernel_rfl)) ?_
          simp only [Act.put, List.setIfInBounds_toArray, List.set_cons_succ, List.set_cons_zero]
          refine s_val (o := ⟨some 73, _, _, _, _, _⟩) (.bool false) rfl (by kernel_rfl) (fun u hu => exec_move (.tmp 72) (.bool false) rfl (by kernel_rfl)) ?_
          simp only [Act.put, List.setIfInBounds_toArray, List.set_cons_succ, List.set_cons_zero]
          refine s_val (o := ⟨some 74, _, _, _, _, _⟩) (.slice (some ⟨gx, 0, none⟩) n n) rfl (by kernel_rfl) (fun u hu => exec_move (.tmp 10) (.slice (some ⟨gx, 0, none⟩) n n) rfl (by kernel_rfl)) ?_
          simp only [Act.put, List.setIfInBounds_toArray, List.set_cons_succ, List.set_cons_zero]
          refine s_val (o := ⟨some 75, _, _, _, _, _⟩) (.int .i64 (n : Int)) rfl (by kernel_rfl) (fun u hu => exec_move (.tmp 9) (.int .i64 (n : Int)) rfl (by kernel_rfl)) ?_
          simp only [Act.put, List.setIfInBounds_toArray, List.set_cons_succ, List.set_cons_zero]
          refine s_val (o := ⟨some 76, _, _, _, _, _⟩) (.int .i64 (((n - 1 : Nat)) : Int)) rfl (by kernel_rfl) (fun u hu => exec_subi (.tmp 75) (.const (.int .i64 1)) _ (n : Int) 1 (((n - 1 : Nat)) : Int) rfl (by kernel_rfl) (by kernel_rfl) (by omega) (by omega) (by omega)) ?_
          simp only [Act.put, List.setIfInBounds_toArray, List.set_cons_succ, List.set_cons_zero]
          refine s_val (o := ⟨some 77, _, _, _, _, _⟩) (.pointer (some ⟨gx, 0 + (n - 1) * 32, none⟩)) rfl (by kernel_rfl) (fun u hu => exec_index 24 30 32 (.tmp 74) (.tmp 76) gx 0 n n (n - 1) rfl Tryd.underlying24 sum_size (by kernel_rfl) (by kernel_rfl) (by omega)) ?_
          simp only [Act.put, List.setIfInBounds_toArray, List.set_cons_succ, List.set_cons_zero]
          refine s_val (o := ⟨some 78, _, _, _, _, _⟩) (.agg (cells8 S).toArray) rfl (by kernel_rfl) (fun u hu => exec_load_mid (.tmp 77) gx (0 + (n - 1) * 32) S rfl (by kernel_rfl) (fun j v hv => by rw [Nat.zero_add]; exact Kept.cell hu (HRx.out j v hv)) HSl.out) ?_
          simp only [Act.put, List.setIfInBounds_toArray, List.set_cons_succ, List.set_cons_zero]
          refine s_val (o := ⟨some 79, _, _, _, _, _⟩) (.slice (some ⟨gy, 0, none⟩) n n) rfl (by kernel_rfl) (fun u hu => exec_move (.tmp 11) (.slice (some ⟨gy, 0, none⟩) n n) rfl (by kernel_rfl)) ?_
          simp only [Act.put, List.setIfInBounds_toArray, List.set_cons_succ, List.set_cons_zero]
          refine s_val (o := ⟨some 80, _, _, _, _, _⟩) (.int .i64 (n : Int)) rfl (by kernel_rfl) (fun u hu => exec_move (.tmp 9) (.int .i64 (n : Int)) rfl (by kernel_rfl)) ?_
          simp only [Act.put, List.setIfInBounds_toArray, List.set_cons_succ, List.set_cons_zero]
          refine s_val (o := ⟨some 81, _, _, _, _, _⟩) (.int .i64 (((n - 1 : Nat)) : Int)) rfl (by kernel_rfl) (fun u hu => exec_subi (.tmp 80) (.const (.int .i64 1)) _ (n : Int) 1 (((n - 1 : Nat)) : Int) rfl (by kernel_rfl) (by kernel_rfl) (by omega) (by omega) (by omega)) ?_
          simp only [Act.put, List.setIfInBounds_toArray, List.set_cons_succ, List.set_cons_zero]
          refine s_val (o := ⟨some 82, _, _, _, _, _⟩) (.pointer (some ⟨gy, 0 + (n - 1) * 32, none⟩)) rfl (by kernel_rfl) (fun u hu => exec_index 24 30 32 (.tmp 79) (.tmp 81) gy 0 n n (n - 1) rfl Tryd.underlying24 sum_size (by kernel_rfl) (by kernel_rfl) (by omega)) ?_
          simp only [Act.put, List.setIfInBounds_toArray, List.set_cons_succ, List.set_cons_zero]
          refine s_val (o := ⟨some 83, _, _, _, _, _⟩) (.agg (cells8 T).toArray) rfl (by kernel_rfl) (fun u hu => exec_load_mid (.tmp 82) gy (0 + (n - 1) * 32) T rfl (by kernel_rfl) (fun j v hv => by rw [Nat.zero_add]; exact Kept.cell hu (HRy.out j v hv)) HTl.out) ?_
          simp only [Act.put, List.setIfInBounds_toArray, List.set_cons_succ, List.set_cons_zero]
          refine s_val (o := ⟨some 84, _, _, _, _, _⟩) (.bool true) rfl (by kernel_rfl) (fun u hu => (by rw [exec_neq8 (.tmp 78) (.tmp 83) _ S T rfl (by kernel_rfl) (by kernel_rfl) HSl.out HTl.out, decide_eq_false HST.out]; rfl)) ?_
          simp only [Act.put, List.setIfInBounds_toArray, List.set_cons_succ, List.set_cons_zero]
          refine s_val (o := ⟨some 85, _, _, _, _, _⟩) (.bool true) rfl (by kernel_rfl) (fun u hu => exec_pickF (.tmp 73) (.const (.bool true)) (.tmp 84) (.bool true) rfl (by kernel_rfl) (by kernel_rfl)) ?_
          simp only [Act.put, List.setIfInBounds_toArray, List.set_cons_succ, List.set_cons_zero]
          refine s_val (o := ⟨some 86, _, _, _, _, _⟩) (.bool true) rfl (by kernel_rfl) (fun u hu => exec_move (.tmp 85) (.bool true) rfl (by kernel_rfl)) ?_
          simp only [Act.put, List.setIfInBounds_toArray, List.set_cons_succ, List.set_cons_zero]
          refine s_skip (o := ⟨some 87, _, _, _, _, _⟩) rfl (by kernel_rfl) ?_
          simp only [Act.put, List.setIfInBounds_toArray, List.set_cons_succ, List.set_cons_zero]
          refine s_skip (o := ⟨some 88, _, _, _, _, _⟩) rfl (by kernel_rfl) ?_
          simp only [Act.put, List.setIfInBounds_toArray, List.set_cons_succ, List.set_cons_zero]
          refine s_skip (o := ⟨some 89, _, _, _, _, _⟩) rfl (by kernel_rfl) ?_
          simp only [Act.put, List.setIfInBounds_toArray, List.set_cons_succ, List.set_cons_zero]
          refine s_skip (o := ⟨some 90, _, _, _, _, _⟩) rfl (by kernel_rfl) ?_
          simp only [Act.put, List.setIfInBounds_toArray, List.set_cons_succ, List.set_cons_zero]
          refine s_skip (o := ⟨some 91, _, _, _, _, _⟩) rfl (by kernel_rfl) ?_
          simp only [Act.put, List.setIfInBounds_toArray, List.set_cons_succ, List.set_cons_zero]
          refine s_skip (o := ⟨some 92, _, _, _, _, _⟩) rfl (by kernel_rfl) ?_
          simp only [Act.put, List.setIfInBounds_toArray, List.set_cons_succ, List.set_cons_zero]
          refine s_val (o := ⟨some 93, _, _, _, _, _⟩) (.bool true) rfl (by kernel_rfl) (fun u hu => exec_pick (.tmp 86) (.const (.bool true)) (.tmp 92) (.bool true) rfl (by kernel_rfl) (by kernel_rfl)) ?_
          simp only [Act.put, List.setIfInBounds_toArray, List.set_cons_succ, List.set_cons_zero]
          refine s_val (o := ⟨some 94, _, _, _, _, _⟩) (.bool true) rfl (by kernel_rfl) (fun u hu => exec_move (.tmp 93) (.bool true) rfl (by kernel_rfl)) ?_
          simp only [Act.put, List.setIfInBounds_toArray, List.set_cons_succ, List.set_cons_zero]
          refine s_call (o := ⟨some 95, _, _, _, _, _⟩) 3 #[] rfl (by kernel_rfl) (exec_call 3 _ [] _ _ Tryd.func3 (by kernel_rfl) (by kernel_rfl) rfl (by kernel_rfl)) ?_
          refine (chainRuns_any w8 (HG7.out.kept r8)).mono ?_
          rintro e w11 ⟨rfl, p11⟩
          have r11 : Kept w7 w11 := Kept.trans r8 p11
          refine ⟨_, rfl, r11, ?_⟩
          simp only [Act.put, List.setIfInBounds_toArray, List.set_cons_succ, List.set_cons_zero]
          refine s_val (o := ⟨some 96, _, _, _, _, _⟩) (.bool true) rfl (by kernel_rfl) (fun u hu => exec_pick (.tmp 94) (.tmp 95) (.const (.bool false)) (.bool true) rfl (by kernel_rfl) (by kernel_rfl)) ?_
          simp only [Act.put, List.setIfInBounds_toArray, List.set_cons_succ, List.set_cons_zero]
          refine s_val (o := ⟨some 6, _, _, _, _, _⟩) (.bool true) rfl (by kernel_rfl) (fun u hu => exec_assign (.tmp 96) (.bool true) rfl (by kernel_rfl)) ?_
          simp only [Act.put, List.setIfInBounds_toArray, List.set_cons_succ, List.set_cons_zero]
          refine s_done ?_
          have qz := q7.trans r11
          clear q7 r11
          go_wp2
          go_ret
          exact ⟨rfl, qz⟩
end Go.Proofs.YtholpkaicmckfaaDoor
