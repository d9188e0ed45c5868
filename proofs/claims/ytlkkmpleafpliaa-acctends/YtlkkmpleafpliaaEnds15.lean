/-
  AcctEnds: what isn't a trader, an instrument, a side, a quantity changes nothing, and has nothing; it answers true. No condition.
-/
import Derived.Test.YtlkkmpleafpliaaRuns15
namespace Go.Proofs.Ytlkkmpleafpliaa
open Go.RowKit
set_option linter.unusedVariables false
set_option maxRecDepth 100000

theorem tr_o (B : Bal) (n i s q : Int) : (trM B n i s q).o = B.o := by unfold trM; split <;> rfl
theorem op_p (B : Bal) (n i q : Int) : (opM B n i q).p = B.p := by unfold opM; split <;> rfl
theorem tr_all (B : Bal) (n i s q m : Int) : (trM B n i s q).all m = B.all m := by unfold Bal.all Bal.oAt; rw [tr_o]
theorem tr_oAt (B : Bal) (n i s q m j : Int) : (trM B n i s q).oAt m j = B.oAt m j := by unfold Bal.oAt; rw [tr_o]
theorem sum_one {f : Nat → Int} {b : Nat} (h : ∀ j, j ≠ b → f j = 0) (k : Nat) : sumTo f k = if b < k then f b else 0 := by
  induction k with
  | zero => rfl
  | succ k ih =>
    unfold sumTo
    rw [ih]
    by_cases h1 : b < k
    · rw [if_pos h1, if_pos (by omega), h k (by omega), Int.add_zero]
    · rw [if_neg h1, Int.zero_add]
      by_cases h2 : b = k
      · rw [h2, if_pos (by omega)]
      · rw [if_neg (by omega), h k (by omega)]
theorem ends_6 (B : Bal) (n i s q : Int) : ((!thB n i) && (((opB B n i q || trB (opM B n i q) n i s q) || decide ((trM (opM B n i q) n i s q).pAt n i ≠ 0)) || decide ((trM (opM B n i q) n i s q).oAt n i ≠ 0))) = false := by
  cases h : thB n i with
  | true => rfl
  | false =>
    have h1 : opB B n i q = false := by unfold opB; rw [h]; rfl
    have h2 : ∀ B : Bal, trB B n i s q = false := fun B => by unfold trB; rw [h]; rfl
    have h3 : ∀ B : Bal, B.pAt n i = 0 := fun B => pick2_out _ h
    have h4 : ∀ B : Bal, B.oAt n i = 0 := fun B => pick2_out _ h
    rw [h1, h2, h3, h4]
    rfl
theorem ends_8 {B B' : Bal} {n i s q : Int} : ((((decide (1048576 < q) || decide (q < -1048576)) && (opB B n i q || trB B' n i s q)) || (decide (q < 1) && trB B' n i s q)) || ((decide (s ≠ 1) && decide (s ≠ 2)) && trB B' n i s q)) = false := by
  have hx : opB B n i q = true → -1048576 ≤ q ∧ q ≤ 1048576 := by
    intro h
    unfold opB at h
    rw [Bool.and_eq_true, Bool.and_eq_true, wiB_iff] at h
    exact h.1.2
  have hy : trB B' n i s q = true → (1 ≤ q ∧ q ≤ 1048576) ∧ (s = 1 ∨ s = 2) := by
    intro h
    unfold trB at h
    rw [Bool.and_eq_true, Bool.and_eq_true, Bool.and_eq_true, wiB_iff] at h
    refine ⟨h.1.1.2, ?_⟩
    have h2 := h.1.2
    unfold sdB at h2
    rwa [Bool.or_eq_true, decide_eq_true_eq, decide_eq_true_eq] at h2
  cases h2 : trB B' n i s q with
  | true =>
    have h3 := hy h2
    rw [decide_eq_false (show ¬ 1048576 < q by omega), decide_eq_false (show ¬ q < -1048576 by omega), decide_eq_false (show ¬ q < 1 by omega)]
    rcases h3.2 with e | e
    · rw [decide_eq_false (show ¬ s ≠ 1 by omega)]; rfl
    · rw [decide_eq_false (show ¬ s ≠ 2 by omega), Bool.and_false]; rfl
  | false =>
    cases h1 : opB B n i q with
    | true =>
      have h3 := hx h1
      rw [decide_eq_false (show ¬ 1048576 < q by omega), decide_eq_false (show ¬ q < -1048576 by omega)]
      simp
    | false => simp
def end1 : Bal := opM zeroB 3 2 7
def end2 : Bal := trM end1 3 2 1 4
theorem end_1 : opB zeroB 3 2 7 = true := by decide +kernel
theorem end_2 : trB end1 3 2 1 4 = true := by decide +kernel
theorem end_3 : end2.all 3 = 7 := by decide +kernel
theorem end_4 : end2.pAt 3 2 = 4 := by decide +kernel
theorem end_5 (j : Nat) : end2.o 4 j = 0 := by
  have h : end2.o = upd zeroB.o 3 2 7 := (tr_o end1 3 2 1 4).trans (congrArg Bal.o (op_in (B := zeroB) (a := 3) (b := 2) (q := 7) (by omega) (by omega) (by omega) (by omega) (by decide) (by decide)).2)
  rw [h, upd_ne _ _ (.inl (by omega))]
  rfl
theorem end_ok : end2.Ok := (ok_zero.op 3 2 7).tr 3 2 1 4
theorem ends_a (n i s q : Int) : (opB end2 n i q || decide ((trM (opM end2 n i q) n i s q).all 3 = 7)) = true := by
  cases h : opB end2 n i q with
  | true => rfl
  | false => rw [tr_all, op_no h, end_3]; rfl
theorem ends_b (n i s q : Int) : (trB (opM end2 n i q) n i s q || decide ((trM (opM end2 n i q) n i s q).pAt 3 2 = 4)) = true := by
  cases h : trB (opM end2 n i q) n i s q with
  | true => rfl
  | false =>
    rw [tr_no h, show (opM end2 n i q).pAt 3 2 = 4 by unfold Bal.pAt; rw [op_p]; exact end_4]
    rfl
theorem ends_c (n i s q : Int) : (trM (opM end2 n i q) n i s q).all 4 = (trM (opM end2 n i q) n i s q).oAt 4 i := by
  rw [tr_all, tr_oAt]
  cases h : opB end2 n i q with
  | false =>
    have h4 : ∀ j : Int, end2.oAt 4 j = 0 := fun j => by
      unfold Bal.oAt pick2
      split
      · exact end_5 _
      · rfl
    rw [op_no h, h4]
    exact (sumTo_ext (g := fun _ => 0) fun j hj => h4 _).trans (sumTo_zero _)
  | true =>
    have hh := h
    unfold opB at hh
    rw [Bool.and_eq_true, Bool.and_eq_true, wiB_iff, wiB_iff] at hh
    obtain ⟨⟨ht, hq⟩, ho⟩ := hh
    obtain ⟨m, j, hm, hj, rfl, rfl⟩ := thB_yes ht
    unfold Bal.oAt at ho
    rw [pick2_in _ hm hj] at ho
    rw [(op_in hm hj hq.1 hq.2 ho.1 ho.2).2]
    show Bal.all _ ((4 : Nat) : Int) = pick2 _ ((4 : Nat) : Int) (j : Int)
    rw [all_in _ (by omega), pick2_in _ (by omega) hj]
    show sumTo (fun k => upd end2.o m j (end2.o m j + q) 4 k) 8 = upd end2.o m j (end2.o m j + q) 4 j
    rw [sum_one (b := j) (fun k hk => by rw [upd_ne _ _ (.inr hk)]; exact end_5 k), if_pos hj]
set_option maxRecDepth 100000 in
set_option maxHeartbeats 1600000 in
theorem acctEnds_any (n i s q : Int) (w : World) : Calls Try.prog 7 #[.int .i64 n, .int .i64 i, .int .i64 s, .int .i64 q] w fun e w' => e = .returned (.bool true) ∧ Kept w w' := by
  obtain ⟨R, hR⟩ : ∃ R, thB n i = R := ⟨_, rfl⟩
  have HR := Lib.hid hR
  obtain ⟨B2, hB2⟩ : ∃ B, opM end2 n i q = B := ⟨_, rfl⟩
  have HM2 := Lib.hid hB2
  obtain ⟨B3, hB3⟩ : ∃ B, trM B2 n i s q = B := ⟨_, rfl⟩
  have HM3 := Lib.hid hB3
  obtain ⟨x, hx⟩ : ∃ x, opB end2 n i q = x := ⟨_, rfl⟩
  have HX := Lib.hid hx
  obtain ⟨y, hy⟩ : ∃ y, trB B2 n i s q = y := ⟨_, rfl⟩
  have HY := Lib.hid hy
  obtain ⟨Pv, hPv⟩ : ∃ z, B3.pAt n i = z := ⟨_, rfl⟩
  have HPv := Lib.hid hPv
  obtain ⟨Ov, hOv⟩ : ∃ z, B3.oAt n i = z := ⟨_, rfl⟩
  have HOv := Lib.hid hOv
  obtain ⟨O3, hO3⟩ : ∃ z, B3.all 3 = z := ⟨_, rfl⟩
  have HO3 := Lib.hid hO3
  obtain ⟨P3, hP3⟩ : ∃ z, B3.pAt 3 2 = z := ⟨_, rfl⟩
  have HP3 := Lib.hid hP3
  obtain ⟨O4, hO4⟩ : ∃ z, B3.oAt 4 i = z := ⟨_, rfl⟩
  have HO4 := Lib.hid hO4
  have H6 : Hid (((!R) && (((x || y) || decide (Pv ≠ 0)) || decide (Ov ≠ 0))) = false) := by
    show _ = _
    rw [← hPv, ← hOv, ← hy, ← hx, ← hB3, ← hB2, ← hR]
    exact ends_6 end2 n i s q
  have H8 : Hid (((((decide (1048576 < q) || decide (q < -1048576)) && (x || y)) || (decide (q < 1) && y)) || ((decide (s ≠ 1) && decide (s ≠ 2)) && y)) = false) := by
    show _ = _
    rw [← hy, ← hx]
    exact ends_8
  have HA : Hid ((x || decide (O3 = 7)) = true) := by
    show _ = _
    rw [← hx, ← hO3, ← hB3, ← hB2]
    exact ends_a n i s q
  have HBb : Hid ((y || decide (P3 = 4)) = true) := by
    show _ = _
    rw [← hy, ← hP3, ← hB3, ← hB2]
    exact ends_b n i s q
  have HCa : Hid (B3.all 4 = O4) := by
    show _ = _
    rw [← hO4, ← hB3, ← hB2]
    exact ends_c n i s q
  have HK2 : Hid B2.Ok := by show Bal.Ok _; rw [← hB2]; exact end_ok.op n i q
  have HK3 : Hid B3.Ok := by show Bal.Ok _; rw [← hB3]; exact HK2.out.tr n i s q
  clear hR hB2 hB3 hx hy hPv hOv hO3 hP3 hO4
  go_enter Try.func7, Try.ntmps7
  go_upto_region 1 with fail
  refine wp_region_lit ?_
  refine l_call (o := ⟨some 13, _, _, _, _, _⟩) 8 #[] rfl (exec_call 8 _ [] _ _ Try.func8 (by kernel_rfl) (by kernel_rfl) rfl (by kernel_rfl) _) ?_
  refine (new_any w.heap.size w (Nat.le_refl _)).mono ?_
  rintro e w1 ⟨v1, rfl, ⟨g, rfl, hg, hB⟩, k1⟩
  refine ⟨_, rfl, ?_⟩
  simp only [Act.put, List.setIfInBounds_toArray, List.set_cons_succ, List.set_cons_zero]
  refine l_val (o := ⟨some 9, _, _, _, _, _⟩) (.pointer (some ⟨g, 0, none⟩)) rfl (exec_assign (.tmp 13) (.pointer (some ⟨g, 0, none⟩)) rfl (by kernel_rfl)) ?_
  simp only [Act.put, List.setIfInBounds_toArray, List.set_cons_succ, List.set_cons_zero]
  refine wpList_nil ?_
  have HB := Lib.hid hB
  clear hB
  go_upto_region 2 with fail
  refine wp_text 4 [.eq (.pointer (some ⟨g, 0, none⟩)), .eq (.bool false), .eq (.bool false), .eq (.pointer (some ⟨g, 0, none⟩))] rfl (by kernel_rfl) ?_ ?_
  · refine sv 1 rfl rfl rfl (fun a u hE hD hk => exec_move (.tmp 9) _ rfl (hE 9 (.pointer (some ⟨g, 0, none⟩)) (by kernel_rfl) (by kernel_rfl))) ?_
    refine sv 2 rfl rfl rfl (fun a u hE hD hk => exec_eqP (.tmp 14) _ _ ⟨g, 0, none⟩ (by kernel_rfl) rfl (hD 0 14 (by kernel_rfl))) ?_
    refine sv 3 rfl rfl rfl (fun a u hE hD hk => exec_move (.tmp 15) _ rfl (hD 1 15 (by kernel_rfl))) ?_
    refine fsteps_cons 4 rfl (fun a u hE hD hk => f_val (o := ⟨some 17, _, _, _, _, _⟩) (.pointer (some ⟨g, 0, none⟩)) rfl (wanted_at (b := false) false rfl rfl (hD 2 16 (by kernel_rfl))) (exec_move (.tmp 9) _ rfl (hE 9 (.pointer (some ⟨g, 0, none⟩)) (by kernel_rfl) (by kernel_rfl))) rfl) ?_
    exact fsteps_nil
  intro gv w2 hV k2
  rw [show dstsOf _ 4 = [14, 15, 16, 17] by kernel_rfl]
  simp only [List.foldl_cons, List.foldl_nil, List.setIfInBounds_toArray, List.set_cons_succ, List.set_cons_zero, List.drop_succ_cons, List.drop_zero]
  rw [show gv 17 = .pointer (some ⟨g, 0, none⟩) from hV 3 17 (by kernel_rfl)]
  rw [show gv 16 = .bool false from hV 2 16 (by kernel_rfl)]
  clear hV
  refine l_call (o := ⟨some 18, _, _, _, _, _⟩) 9 #[.pointer (some ⟨g, 0, none⟩), .int .i64 3, .int .i64 2, .int .i64 7] rfl (exec_call 9 _ [.tmp 17, .const (.int .i64 3), .const (.int .i64 2), .const (.int .i64 7)] _ _ Try.func9 (by kernel_rfl) (by kernel_rfl) rfl (by kernel_rfl) _) ?_
  refine (opens_at (HB.out.kept k2) ok_zero end_1 rfl).mono ?_
  rintro e w3 ⟨rfl, hB3, k3⟩
  refine ⟨_, rfl, ?_⟩
  simp only [Act.put, List.setIfInBounds_toArray, List.set_cons_succ, List.set_cons_zero]
  refine l_val (o := ⟨some 19, _, _, _, _, _⟩) (.bool false) rfl (exec_not _ (.tmp 18) true rfl (by kernel_rfl)) ?_
  simp only [Act.put, List.setIfInBounds_toArray, List.set_cons_succ, List.set_cons_zero]
  refine l_val (o := ⟨some 20, _, _, _, _, _⟩) (.bool false) rfl (exec_pickF (.tmp 16) (.const (.bool true)) (.tmp 19) (.bool false) rfl (by kernel_rfl) (by kernel_rfl)) ?_
  simp only [Act.put, List.setIfInBounds_toArray, List.set_cons_succ, List.set_cons_zero]
  refine l_val (o := ⟨some 21, _, _, _, _, _⟩) (.bool false) rfl (exec_move (.tmp 20) (.bool false) rfl (by kernel_rfl)) ?_
  simp only [Act.put, List.setIfInBounds_toArray, List.set_cons_succ, List.set_cons_zero]
  refine l_val (o := ⟨some 22, _, _, _, _, _⟩) (.pointer (some ⟨g, 0, none⟩)) rfl (exec_move (.tmp 9) (.pointer (some ⟨g, 0, none⟩)) rfl (by kernel_rfl)) ?_
  simp only [Act.put, List.setIfInBounds_toArray, List.set_cons_succ, List.set_cons_zero]
  refine l_call (o := ⟨some 23, _, _, _, _, _⟩) 11 #[.pointer (some ⟨g, 0, none⟩), .int .i64 3, .int .i64 2, .int .i64 1, .int .i64 4] rfl (exec_call 11 _ [.tmp 22, .const (.int .i64 3), .const (.int .i64 2), .const (.int .i64 1), .const (.int .i64 4)] _ _ Try.func11 (by kernel_rfl) (by kernel_rfl) rfl (by kernel_rfl) _) ?_
  refine (trades_at (B := end1) hB3 (ok_zero.op 3 2 7) end_2 rfl).mono ?_
  rintro e w4 ⟨rfl, hB4, k4⟩
  refine ⟨_, rfl, ?_⟩
  simp only [Act.put, List.setIfInBounds_toArray, List.set_cons_succ, List.set_cons_zero]
  refine l_val (o := ⟨some 24, _, _, _, _, _⟩) (.bool false) rfl (exec_not _ (.tmp 23) true rfl (by kernel_rfl)) ?_
  simp only [Act.put, List.setIfInBounds_toArray, List.set_cons_succ, List.set_cons_zero]
  refine l_val (o := ⟨some 25, _, _, _, _, _⟩) (.bool false) rfl (exec_pickF (.tmp 21) (.const (.bool true)) (.tmp 24) (.bool false) rfl (by kernel_rfl) (by kernel_rfl)) ?_
  simp only [Act.put, List.setIfInBounds_toArray, List.set_cons_succ, List.set_cons_zero]
  refine wpList_nil ?_
  have HB4 : Hid (Blk w4 g 49 end2.lc) := hB4
  have kw4 := kept_own (kept_own (k1.trans k2) hg k3) hg k4
  clear hB3 hB4 k1 k2 k3 k4 HB
  go_upto_region 4 with fail
  refine wp_text 15 [.eq (.int .i64 n), .eq (.bool (decide ((0 : Int) ≤ (n : Int)))), .eq (.bool (decide ((0 : Int) ≤ (n : Int)))), .cond (decide ((0 : Int) ≤ (n : Int))) (.eq (.int .i64 n)), .cond (decide ((0 : Int) ≤ (n : Int))) (.eq (.bool (decide ((n : Int) < (32 : Int))))), .eq (.bool ((decide ((0 : Int) ≤ (n : Int))) && (decide ((n : Int) < (32 : Int))))), .eq (.bool ((decide ((0 : Int) ≤ (n : Int))) && (decide ((n : Int) < (32 : Int))))), .cond ((decide ((0 : Int) ≤ (n : Int))) && (decide ((n : Int) < (32 : Int)))) (.eq (.int .i64 i)), .cond ((decide ((0 : Int) ≤ (n : Int))) && (decide ((n : Int) < (32 : Int)))) (.eq (.bool (decide ((0 : Int) ≤ (i : Int))))), .eq (.bool (((decide ((0 : Int) ≤ (n : Int))) && (decide ((n : Int) < (32 : Int)))) && (decide ((0 : Int) ≤ (i : Int))))), .eq (.bool (((decide ((0 : Int) ≤ (n : Int))) && (decide ((n : Int) < (32 : Int)))) && (decide ((0 : Int) ≤ (i : Int))))), .cond (((decide ((0 : Int) ≤ (n : Int))) && (decide ((n : Int) < (32 : Int)))) && (decide ((0 : Int) ≤ (i : Int)))) (.eq (.int .i64 i)), .cond (((decide ((0 : Int) ≤ (n : Int))) && (decide ((n : Int) < (32 : Int)))) && (decide ((0 : Int) ≤ (i : Int)))) (.eq (.bool (decide ((i : Int) < (8 : Int))))), .eq (.bool R), .eq (.bool R)] rfl (by kernel_rfl) ?_ ?_
  · refine sv 1 rfl rfl rfl (fun a u hE hD hk => exec_move (.tmp 0) _ rfl (hE 0 (.int .i64 n) (by kernel_rfl) (by kernel_rfl))) ?_
    refine sv 2 rfl rfl rfl (fun a u hE hD hk => exec_gen (p := n) (q := 0) rfl (hD 0 26 (by kernel_rfl)) rfl) ?_
    refine sv 3 rfl rfl rfl (fun a u hE hD hk => exec_move (.tmp 27) _ rfl (hD 1 27 (by kernel_rfl))) ?_
    refine fsteps_cons 4 rfl (fun a u hE hD hk => f_if ((decide ((0 : Int) ≤ (n : Int)))) rfl rfl rfl (hD 2 28 (by kernel_rfl)) (fun hb => f_val (o := ⟨some 29, _, _, _, _, _⟩) (.int .i64 n) rfl (wanted_b rfl rfl (hD 2 28 (by kernel_rfl)) (eq_true_of hb)) (exec_move (.tmp 0) _ rfl (hE 0 (.int .i64 n) (by kernel_rfl) (by kernel_rfl))) rfl)) ?_
    refine fsteps_cons 5 rfl (fun a u hE hD hk => f_if ((decide ((0 : Int) ≤ (n : Int)))) rfl rfl rfl (hD 2 28 (by kernel_rfl)) (fun hb => f_val (o := ⟨some 30, _, _, _, _, _⟩) (.bool (decide ((n : Int) < (32 : Int)))) rfl (wanted_b rfl rfl (hD 2 28 (by kernel_rfl)) (eq_true_of hb)) (exec_ltn (p := n) (q := 32) rfl ((hD 3 29 (by kernel_rfl)).1 hb) rfl) rfl)) ?_
    refine sv 6 rfl rfl rfl (fun a u hE hD hk => exec_pickand (.tmp 28) (.tmp 30) (.const (.bool false)) ((decide ((0 : Int) ≤ (n : Int)))) ((decide ((n : Int) < (32 : Int)))) rfl (hD 2 28 (by kernel_rfl)) (fun hb2 => ((hD 4 30 (by kernel_rfl)).1 hb2)) rfl) ?_
    refine sv 7 rfl rfl rfl (fun a u hE hD hk => exec_move (.tmp 31) _ rfl (hD 5 31 (by kernel_rfl))) ?_
    refine fsteps_cons 8 rfl (fun a u hE hD hk => f_if (((decide ((0 : Int) ≤ (n : Int))) && (decide ((n : Int) < (32 : Int))))) rfl rfl rfl (hD 6 32 (by kernel_rfl)) (fun hb => f_val (o := ⟨some 33, _, _, _, _, _⟩) (.int .i64 i) rfl (wanted_b rfl rfl (hD 6 32 (by kernel_rfl)) (eq_true_of hb)) (exec_move (.tmp 1) _ rfl (hE 1 (.int .i64 i) (by kernel_rfl) (by kernel_rfl))) rfl)) ?_
    refine fsteps_cons 9 rfl (fun a u hE hD hk => f_if (((decide ((0 : Int) ≤ (n : Int))) && (decide ((n : Int) < (32 : Int))))) rfl rfl rfl (hD 6 32 (by kernel_rfl)) (fun hb => f_val (o := ⟨some 34, _, _, _, _, _⟩) (.bool (decide ((0 : Int) ≤ (i : Int)))) rfl (wanted_b rfl rfl (hD 6 32 (by kernel_rfl)) (eq_true_of hb)) (exec_gen (p := i) (q := 0) rfl ((hD 7 33 (by kernel_rfl)).1 hb) rfl) rfl)) ?_
    refine sv 10 rfl rfl rfl (fun a u hE hD hk => exec_pickand (.tmp 32) (.tmp 34) (.const (.bool false)) (((decide ((0 : Int) ≤ (n : Int))) && (decide ((n : Int) < (32 : Int))))) ((decide ((0 : Int) ≤ (i : Int)))) rfl (hD 6 32 (by kernel_rfl)) (fun hb2 => ((hD 8 34 (by kernel_rfl)).1 hb2)) rfl) ?_
    refine sv 11 rfl rfl rfl (fun a u hE hD hk => exec_move (.tmp 35) _ rfl (hD 9 35 (by kernel_rfl))) ?_
    refine fsteps_cons 12 rfl (fun a u hE hD hk => f_if ((((decide ((0 : Int) ≤ (n : Int))) && (decide ((n : Int) < (32 : Int)))) && (decide ((0 : Int) ≤ (i : Int))))) rfl rfl rfl (hD 10 36 (by kernel_rfl)) (fun hb => f_val (o := ⟨some 37, _, _, _, _, _⟩) (.int .i64 i) rfl (wanted_b rfl rfl (hD 10 36 (by kernel_rfl)) (eq_true_of hb)) (exec_move (.tmp 1) _ rfl (hE 1 (.int .i64 i) (by kernel_rfl) (by kernel_rfl))) rfl)) ?_
    refine fsteps_cons 13 rfl (fun a u hE hD hk => f_if ((((decide ((0 : Int) ≤ (n : Int))) && (decide ((n : Int) < (32 : Int)))) && (decide ((0 : Int) ≤ (i : Int))))) rfl rfl rfl (hD 10 36 (by kernel_rfl)) (fun hb => f_val (o := ⟨some 38, _, _, _, _, _⟩) (.bool (decide ((i : Int) < (8 : Int)))) rfl (wanted_b rfl rfl (hD 10 36 (by kernel_rfl)) (eq_true_of hb)) (exec_ltn (p := i) (q := 8) rfl ((hD 11 37 (by kernel_rfl)).1 hb) rfl) rfl)) ?_
    refine fsteps_cons 14 rfl (fun a u hE hD hk => f_as (show (((((decide ((0 : Int) ≤ (n : Int))) && (decide ((n : Int) < (32 : Int)))) && (decide ((0 : Int) ≤ (i : Int)))) && (decide ((i : Int) < (8 : Int)))) : Bool) = R from (th_eq n i).symm.trans HR.out) (f_val (o := ⟨some 39, _, _, _, _, _⟩) (.bool ((((decide ((0 : Int) ≤ (n : Int))) && (decide ((n : Int) < (32 : Int)))) && (decide ((0 : Int) ≤ (i : Int)))) && (decide ((i : Int) < (8 : Int))))) rfl (wanted_none rfl _) (exec_pickand (.tmp 36) (.tmp 38) (.const (.bool false)) ((((decide ((0 : Int) ≤ (n : Int))) && (decide ((n : Int) < (32 : Int)))) && (decide ((0 : Int) ≤ (i : Int))))) ((decide ((i : Int) < (8 : Int)))) rfl (hD 10 36 (by kernel_rfl)) (fun hb2 => ((hD 12 38 (by kernel_rfl)).1 hb2)) rfl) rfl)) ?_
    refine sv 15 rfl rfl rfl (fun a u hE hD hk => exec_assign (.tmp 39) _ rfl (hD 13 39 (by kernel_rfl))) ?_
    exact fsteps_nil
  intro gv w5 hV k5
  rw [show dstsOf _ 15 = [26, 27, 28, 29, 30, 31, 32, 33, 34, 35, 36, 37, 38, 39, 10] by kernel_rfl]
  simp only [List.foldl_cons, List.foldl_nil, List.setIfInBounds_toArray, List.set_cons_succ, List.set_cons_zero, List.drop_succ_cons, List.drop_zero]
  rw [show gv 10 = .bool R from hV 14 10 (by kernel_rfl)]
  clear hV
  refine wpList_nil ?_
  go_upto_region 5 with fail
  refine wp_region_lit ?_
  refine l_val (o := ⟨some 40, _, _, _, _, _⟩) (.pointer (some ⟨g, 0, none⟩)) rfl (exec_move (.tmp 9) (.pointer (some ⟨g, 0, none⟩)) rfl (by kernel_rfl)) ?_
  simp only [Act.put, List.setIfInBounds_toArray, List.set_cons_succ, List.set_cons_zero]
  refine l_val (o := ⟨some 41, _, _, _, _, _⟩) (.int .i64 n) rfl (exec_move (.tmp 0) (.int .i64 n) rfl (by kernel_rfl)) ?_
  simp only [Act.put, List.setIfInBounds_toArray, List.set_cons_succ, List.set_cons_zero]
  refine l_val (o := ⟨some 42, _, _, _, _, _⟩) (.int .i64 i) rfl (exec_move (.tmp 1) (.int .i64 i) rfl (by kernel_rfl)) ?_
  simp only [Act.put, List.setIfInBounds_toArray, List.set_cons_succ, List.set_cons_zero]
  refine l_val (o := ⟨some 43, _, _, _, _, _⟩) (.int .i64 q) rfl (exec_move (.tmp 3) (.int .i64 q) rfl (by kernel_rfl)) ?_
  simp only [Act.put, List.setIfInBounds_toArray, List.set_cons_succ, List.set_cons_zero]
  refine l_call (o := ⟨some 44, _, _, _, _, _⟩) 9 #[.pointer (some ⟨g, 0, none⟩), .int .i64 n, .int .i64 i, .int .i64 q] rfl (exec_call 9 _ [.tmp 40, .tmp 41, .tmp 42, .tmp 43] _ _ Try.func9 (by kernel_rfl) (by kernel_rfl) rfl (by kernel_rfl) _) ?_
  refine (opens_at (HB4.out.kept k5) end_ok HX.out HM2.out).mono ?_
  rintro e w6 ⟨rfl, hB6, k6⟩
  refine ⟨_, rfl, ?_⟩
  simp only [Act.put, List.setIfInBounds_toArray, List.set_cons_succ, List.set_cons_zero]
  refine l_val (o := ⟨some 45, _, _, _, _, _⟩) (.pointer (some ⟨g, 0, none⟩)) rfl (exec_move (.tmp 9) (.pointer (some ⟨g, 0, none⟩)) rfl (by kernel_rfl)) ?_
  simp only [Act.put, List.setIfInBounds_toArray, List.set_cons_succ, List.set_cons_zero]
  refine l_val (o := ⟨some 46, _, _, _, _, _⟩) (.int .i64 n) rfl (exec_move (.tmp 0) (.int .i64 n) rfl (by kernel_rfl)) ?_
  simp only [Act.put, List.setIfInBounds_toArray, List.set_cons_succ, List.set_cons_zero]
  refine l_val (o := ⟨some 47, _, _, _, _, _⟩) (.int .i64 i) rfl (exec_move (.tmp 1) (.int .i64 i) rfl (by kernel_rfl)) ?_
  simp only [Act.put, List.setIfInBounds_toArray, List.set_cons_succ, List.set_cons_zero]
  refine l_val (o := ⟨some 48, _, _, _, _, _⟩) (.int .i64 s) rfl (exec_move (.tmp 2) (.int .i64 s) rfl (by kernel_rfl)) ?_
  simp only [Act.put, List.setIfInBounds_toArray, List.set_cons_succ, List.set_cons_zero]
  refine l_val (o := ⟨some 49, _, _, _, _, _⟩) (.int .i64 q) rfl (exec_move (.tmp 3) (.int .i64 q) rfl (by kernel_rfl)) ?_
  simp only [Act.put, List.setIfInBounds_toArray, List.set_cons_succ, List.set_cons_zero]
  refine l_call (o := ⟨some 50, _, _, _, _, _⟩) 11 #[.pointer (some ⟨g, 0, none⟩), .int .i64 n, .int .i64 i, .int .i64 s, .int .i64 q] rfl (exec_call 11 _ [.tmp 45, .tmp 46, .tmp 47, .tmp 48, .tmp 49] _ _ Try.func11 (by kernel_rfl) (by kernel_rfl) rfl (by kernel_rfl) _) ?_
  refine (trades_at hB6 HK2.out HY.out HM3.out).mono ?_
  rintro e w7 ⟨rfl, hB7, k7⟩
  refine ⟨_, rfl, ?_⟩
  simp only [Act.put, List.setIfInBounds_toArray, List.set_cons_succ, List.set_cons_zero]
  refine l_val (o := ⟨some 11, _, _, _, _, _⟩) (.bool x) rfl (exec_assign (.tmp 44) (.bool x) rfl (by kernel_rfl)) ?_
  simp only [Act.put, List.setIfInBounds_toArray, List.set_cons_succ, List.set_cons_zero]
  refine l_val (o := ⟨some 12, _, _, _, _, _⟩) (.bool y) rfl (exec_assign (.tmp 50) (.bool y) rfl (by kernel_rfl)) ?_
  simp only [Act.put, List.setIfInBounds_toArray, List.set_cons_succ, List.set_cons_zero]
  refine wpList_nil ?_
  have HB7 := Lib.hid hB7
  have kw7 := kept_own (kept_own (kw4.trans k5) hg k6) hg k7
  clear hB6 hB7 k6 k7 kw4 k5 HB4
  go_upto_region 6 with fail
  refine wp_text 22 [.eq (.bool R), .eq (.bool (!R)), .eq (.bool (!R)), .cond (!R) (.eq (.bool x)), .cond (!R) (.eq (.bool x)), .cond ((!R) && (!x)) (.eq (.bool y)), .cond (!R) (.eq (.bool (x || y))), .cond (!R) (.eq (.bool (x || y))), .cond ((!R) && (!(x || y))) (.eq (.pointer (some ⟨g, 0, none⟩))), .cond ((!R) && (!(x || y))) (.eq (.int .i64 n)), .cond ((!R) && (!(x || y))) (.eq (.int .i64 i)), .cond ((!R) && (!(x || y))) (.eq (.int .i64 Pv)), .cond ((!R) && (!(x || y))) (.eq (.bool (decide ((Pv : Int) ≠ (0 : Int))))), .cond (!R) (.eq (.bool ((x || y) || (decide ((Pv : Int) ≠ (0 : Int)))))), .cond (!R) (.eq (.bool ((x || y) || (decide ((Pv : Int) ≠ (0 : Int)))))), .cond ((!R) && (!((x || y) || (decide ((Pv : Int) ≠ (0 : Int)))))) (.eq (.pointer (some ⟨g, 0, none⟩))), .cond ((!R) && (!((x || y) || (decide ((Pv : Int) ≠ (0 : Int)))))) (.eq (.int .i64 n)), .cond ((!R) && (!((x || y) || (decide ((Pv : Int) ≠ (0 : Int)))))) (.eq (.int .i64 i)), .cond ((!R) && (!((x || y) || (decide ((Pv : Int) ≠ (0 : Int)))))) (.eq (.int .i64 Ov)), .cond ((!R) && (!((x || y) || (decide ((Pv : Int) ≠ (0 : Int)))))) (.eq (.bool (decide ((Ov : Int) ≠ (0 : Int))))), .cond (!R) (.eq (.bool (((x || y) || (decide ((Pv : Int) ≠ (0 : Int)))) || (decide ((Ov : Int) ≠ (0 : Int)))))), .eq (.bool false)] rfl (by kernel_rfl) ?_ ?_
  · refine sv 1 rfl rfl rfl (fun a u hE hD hk => exec_move (.tmp 10) _ rfl (hE 10 (.bool R) (by kernel_rfl) (by kernel_rfl))) ?_
    refine sv 2 rfl rfl rfl (fun a u hE hD hk => exec_not _ (.tmp 51) R rfl (hD 0 51 (by kernel_rfl))) ?_
    refine sv 3 rfl rfl rfl (fun a u hE hD hk => exec_move (.tmp 52) _ rfl (hD 1 52 (by kernel_rfl))) ?_
    refine fsteps_cons 4 rfl (fun a u hE hD hk => f_if ((!R)) rfl rfl rfl (hD 2 53 (by kernel_rfl)) (fun hb => f_val (o := ⟨some 54, _, _, _, _, _⟩) (.bool x) rfl (wanted_b rfl rfl (hD 2 53 (by kernel_rfl)) (eq_true_of hb)) (exec_move (.tmp 11) _ rfl (hE 11 (.bool x) (by kernel_rfl) (by kernel_rfl))) rfl)) ?_
    refine fsteps_cons 5 rfl (fun a u hE hD hk => f_if ((!R)) rfl rfl rfl (hD 2 53 (by kernel_rfl)) (fun hb => f_val (o := ⟨some 55, _, _, _, _, _⟩) (.bool x) rfl (wanted_b rfl rfl (hD 2 53 (by kernel_rfl)) (eq_true_of hb)) (exec_move (.tmp 54) _ rfl ((hD 3 54 (by kernel_rfl)).1 hb)) rfl)) ?_
    refine fsteps_cons 6 rfl (fun a u hE hD hk => f_unless2 (!R) (x) rfl rfl rfl (hD 4 55 (by kernel_rfl)) (fun hb => f_val (o := ⟨some 56, _, _, _, _, _⟩) (.bool y) rfl (wanted_b rfl rfl ((hD 4 55 (by kernel_rfl)).1 (and_l hb)) (eq_false_of (and_r hb))) (exec_move (.tmp 12) _ rfl (hE 12 (.bool y) (by kernel_rfl) (by kernel_rfl))) rfl)) ?_
    refine fsteps_cons 7 rfl (fun a u hE hD hk => f_if ((!R)) rfl rfl rfl (hD 2 53 (by kernel_rfl)) (fun hb => f_val (o := ⟨some 57, _, _, _, _, _⟩) (.bool (x || y)) rfl (wanted_b rfl rfl (hD 2 53 (by kernel_rfl)) (eq_true_of hb)) (exec_pickor (.tmp 55) (.const (.bool true)) (.tmp 56) (x) (y) rfl ((hD 4 55 (by kernel_rfl)).1 hb) rfl (fun hb2 => ((hD 5 56 (by kernel_rfl)).1 (and_mk hb hb2)))) rfl)) ?_
    refine fsteps_cons 8 rfl (fun a u hE hD hk => f_if ((!R)) rfl rfl rfl (hD 2 53 (by kernel_rfl)) (fun hb => f_val (o := ⟨some 58, _, _, _, _, _⟩) (.bool (x || y)) rfl (wanted_b rfl rfl (hD 2 53 (by kernel_rfl)) (eq_true_of hb)) (exec_move (.tmp 57) _ rfl ((hD 6 57 (by kernel_rfl)).1 hb)) rfl)) ?_
    refine fsteps_cons 9 rfl (fun a u hE hD hk => f_unless2 (!R) ((x || y)) rfl rfl rfl (hD 7 58 (by kernel_rfl)) (fun hb => f_val (o := ⟨some 59, _, _, _, _, _⟩) (.pointer (some ⟨g, 0, none⟩)) rfl (wanted_b rfl rfl ((hD 7 58 (by kernel_rfl)).1 (and_l hb)) (eq_false_of (and_r hb))) (exec_move (.tmp 9) _ rfl (hE 9 (.pointer (some ⟨g, 0, none⟩)) (by kernel_rfl) (by kernel_rfl))) rfl)) ?_
    refine fsteps_cons 10 rfl (fun a u hE hD hk => f_unless2 (!R) ((x || y)) rfl rfl rfl (hD 7 58 (by kernel_rfl)) (fun hb => f_val (o := ⟨some 60, _, _, _, _, _⟩) (.int .i64 n) rfl (wanted_b rfl rfl ((hD 7 58 (by kernel_rfl)).1 (and_l hb)) (eq_false_of (and_r hb))) (exec_move (.tmp 0) _ rfl (hE 0 (.int .i64 n) (by kernel_rfl) (by kernel_rfl))) rfl)) ?_
    refine fsteps_cons 11 rfl (fun a u hE hD hk => f_unless2 (!R) ((x || y)) rfl rfl rfl (hD 7 58 (by kernel_rfl)) (fun hb => f_val (o := ⟨some 61, _, _, _, _, _⟩) (.int .i64 i) rfl (wanted_b rfl rfl ((hD 7 58 (by kernel_rfl)).1 (and_l hb)) (eq_false_of (and_r hb))) (exec_move (.tmp 1) _ rfl (hE 1 (.int .i64 i) (by kernel_rfl) (by kernel_rfl))) rfl)) ?_
    refine fsteps_cons 12 rfl (fun a u hE hD hk => f_unless2 (!R) ((x || y)) rfl rfl rfl (hD 7 58 (by kernel_rfl)) (fun hb => f_call (o := ⟨some 62, _, _, _, _, _⟩) 12 #[.pointer (some ⟨g, 0, none⟩), .int .i64 n, .int .i64 i] rfl (wanted_b rfl rfl ((hD 7 58 (by kernel_rfl)).1 (and_l hb)) (eq_false_of (and_r hb))) (exec_call 12 _ [.tmp 59, .tmp 60, .tmp 61] _ [.pointer (some ⟨g, 0, none⟩), .int .i64 n, .int .i64 i] Try.func12 (by kernel_rfl) (by kernel_rfl) rfl (show [a.eval (.tmp 59), a.eval (.tmp 60), a.eval (.tmp 61)] = [.pointer (some ⟨g, 0, none⟩), .int .i64 n, .int .i64 i] from (by rw [show a.eval (.tmp 59) = .pointer (some ⟨g, 0, none⟩) from ((hD 8 59 (by kernel_rfl)).1 hb), show a.eval (.tmp 60) = .int .i64 n from ((hD 9 60 (by kernel_rfl)).1 hb), show a.eval (.tmp 61) = .int .i64 i from ((hD 10 61 (by kernel_rfl)).1 hb)] <;> rfl)) u) (pos_at (HB7.out.kept hk) HPv.out))) ?_
    refine fsteps_cons 13 rfl (fun a u hE hD hk => f_unless2 (!R) ((x || y)) rfl rfl rfl (hD 7 58 (by kernel_rfl)) (fun hb => f_val (o := ⟨some 63, _, _, _, _, _⟩) (.bool (decide ((Pv : Int) ≠ (0 : Int)))) rfl (wanted_b rfl rfl ((hD 7 58 (by kernel_rfl)).1 (and_l hb)) (eq_false_of (and_r hb))) (exec_nen (p := Pv) (q := 0) rfl ((hD 11 62 (by kernel_rfl)).1 hb) rfl) rfl)) ?_
    refine fsteps_cons 14 rfl (fun a u hE hD hk => f_if ((!R)) rfl rfl rfl (hD 2 53 (by kernel_rfl)) (fun hb => f_val (o := ⟨some 64, _, _, _, _, _⟩) (.bool ((x || y) || (decide ((Pv : Int) ≠ (0 : Int))))) rfl (wanted_b rfl rfl (hD 2 53 (by kernel_rfl)) (eq_true_of hb)) (exec_pickor (.tmp 58) (.const (.bool true)) (.tmp 63) ((x || y)) ((decide ((Pv : Int) ≠ (0 : Int)))) rfl ((hD 7 58 (by kernel_rfl)).1 hb) rfl (fun hb2 => ((hD 12 63 (by kernel_rfl)).1 (and_mk hb hb2)))) rfl)) ?_
    refine fsteps_cons 15 rfl (fun a u hE hD hk => f_if ((!R)) rfl rfl rfl (hD 2 53 (by kernel_rfl)) (fun hb => f_val (o := ⟨some 65, _, _, _, _, _⟩) (.bool ((x || y) || (decide ((Pv : Int) ≠ (0 : Int))))) rfl (wanted_b rfl rfl (hD 2 53 (by kernel_rfl)) (eq_true_of hb)) (exec_move (.tmp 64) _ rfl ((hD 13 64 (by kernel_rfl)).1 hb)) rfl)) ?_
    refine fsteps_cons 16 rfl (fun a u hE hD hk => f_unless2 (!R) (((x || y) || (decide ((Pv : Int) ≠ (0 : Int))))) rfl rfl rfl (hD 14 65 (by kernel_rfl)) (fun hb => f_val (o := ⟨some 66, _, _, _, _, _⟩) (.pointer (some ⟨g, 0, none⟩)) rfl (wanted_b rfl rfl ((hD 14 65 (by kernel_rfl)).1 (and_l hb)) (eq_false_of (and_r hb))) (exec_move (.tmp 9) _ rfl (hE 9 (.pointer (some ⟨g, 0, none⟩)) (by kernel_rfl) (by kernel_rfl))) rfl)) ?_
    refine fsteps_cons 17 rfl (fun a u hE hD hk => f_unless2 (!R) (((x || y) || (decide ((Pv : Int) ≠ (0 : Int))))) rfl rfl rfl (hD 14 65 (by kernel_rfl)) (fun hb => f_val (o := ⟨some 67, _, _, _, _, _⟩) (.int .i64 n) rfl (wanted_b rfl rfl ((hD 14 65 (by kernel_rfl)).1 (and_l hb)) (eq_false_of (and_r hb))) (exec_move (.tmp 0) _ rfl (hE 0 (.int .i64 n) (by kernel_rfl) (by kernel_rfl))) rfl)) ?_
    refine fsteps_cons 18 rfl (fun a u hE hD hk => f_unless2 (!R) (((x || y) || (decide ((Pv : Int) ≠ (0 : Int))))) rfl rfl rfl (hD 14 65 (by kernel_rfl)) (fun hb => f_val (o := ⟨some 68, _, _, _, _, _⟩) (.int .i64 i) rfl (wanted_b rfl rfl ((hD 14 65 (by kernel_rfl)).1 (and_l hb)) (eq_false_of (and_r hb))) (exec_move (.tmp 1) _ rfl (hE 1 (.int .i64 i) (by kernel_rfl) (by kernel_rfl))) rfl)) ?_
    refine fsteps_cons 19 rfl (fun a u hE hD hk => f_unless2 (!R) (((x || y) || (decide ((Pv : Int) ≠ (0 : Int))))) rfl rfl rfl (hD 14 65 (by kernel_rfl)) (fun hb => f_call (o := ⟨some 69, _, _, _, _, _⟩) 17 #[.pointer (some ⟨g, 0, none⟩), .int .i64 n, .int .i64 i] rfl (wanted_b rfl rfl ((hD 14 65 (by kernel_rfl)).1 (and_l hb)) (eq_false_of (and_r hb))) (exec_call 17 _ [.tmp 66, .tmp 67, .tmp 68] _ [.pointer (some ⟨g, 0, none⟩), .int .i64 n, .int .i64 i] Try.func17 (by kernel_rfl) (by kernel_rfl) rfl (show [a.eval (.tmp 66), a.eval (.tmp 67), a.eval (.tmp 68)] = [.pointer (some ⟨g, 0, none⟩), .int .i64 n, .int .i64 i] from (by rw [show a.eval (.tmp 66) = .pointer (some ⟨g, 0, none⟩) from ((hD 15 66 (by kernel_rfl)).1 hb), show a.eval (.tmp 67) = .int .i64 n from ((hD 16 67 (by kernel_rfl)).1 hb), show a.eval (.tmp 68) = .int .i64 i from ((hD 17 68 (by kernel_rfl)).1 hb)] <;> rfl)) u) (openAt_at (HB7.out.kept hk) HOv.out))) ?_
    refine fsteps_cons 20 rfl (fun a u hE hD hk => f_unless2 (!R) (((x || y) || (decide ((Pv : Int) ≠ (0 : Int))))) rfl rfl rfl (hD 14 65 (by kernel_rfl)) (fun hb => f_val (o := ⟨some 70, _, _, _, _, _⟩) (.bool (decide ((Ov : Int) ≠ (0 : Int)))) rfl (wanted_b rfl rfl ((hD 14 65 (by kernel_rfl)).1 (and_l hb)) (eq_false_of (and_r hb))) (exec_nen (p := Ov) (q := 0) rfl ((hD 18 69 (by kernel_rfl)).1 hb) rfl) rfl)) ?_
    refine fsteps_cons 21 rfl (fun a u hE hD hk => f_if ((!R)) rfl rfl rfl (hD 2 53 (by kernel_rfl)) (fun hb => f_val (o := ⟨some 71, _, _, _, _, _⟩) (.bool (((x || y) || (decide ((Pv : Int) ≠ (0 : Int)))) || (decide ((Ov : Int) ≠ (0 : Int))))) rfl (wanted_b rfl rfl (hD 2 53 (by kernel_rfl)) (eq_true_of hb)) (exec_pickor (.tmp 65) (.const (.bool true)) (.tmp 70) (((x || y) || (decide ((Pv : Int) ≠ (0 : Int))))) ((decide ((Ov : Int) ≠ (0 : Int)))) rfl ((hD 14 65 (by kernel_rfl)).1 hb) rfl (fun hb2 => ((hD 19 70 (by kernel_rfl)).1 (and_mk hb hb2)))) rfl)) ?_
    refine fsteps_cons 22 rfl (fun a u hE hD hk => f_as (show (((!R) && (((x || y) || (decide ((Pv : Int) ≠ (0 : Int)))) || (decide ((Ov : Int) ≠ (0 : Int))))) : Bool) = false from H6.out) (f_val (o := ⟨some 72, _, _, _, _, _⟩) (.bool ((!R) && (((x || y) || (decide ((Pv : Int) ≠ (0 : Int)))) || (decide ((Ov : Int) ≠ (0 : Int)))))) rfl (wanted_none rfl _) (exec_pickand (.tmp 53) (.tmp 71) (.const (.bool false)) ((!R)) ((((x || y) || (decide ((Pv : Int) ≠ (0 : Int)))) || (decide ((Ov : Int) ≠ (0 : Int))))) rfl (hD 2 53 (by kernel_rfl)) (fun hb2 => ((hD 20 71 (by kernel_rfl)).1 hb2)) rfl) rfl)) ?_
    exact fsteps_nil
  intro gv w8 hV k8
  rw [show dstsOf _ 22 = [51, 52, 53, 54, 55, 56, 57, 58, 59, 60, 61, 62, 63, 64, 65, 66, 67, 68, 69, 70, 71, 72] by kernel_rfl]
  simp only [List.foldl_cons, List.foldl_nil, List.setIfInBounds_toArray, List.set_cons_succ, List.set_cons_zero, List.drop_succ_cons, List.drop_zero]
  rw [show gv 72 = .bool false from hV 21 72 (by kernel_rfl)]
  clear hV
  refine wpList_nil ?_
  go_upto_region 8 with fail
  refine wp_text 30 [.eq (.int .i64 q), .eq (.bool (decide ((1048576 : Int) < (q : Int)))), .eq (.bool (decide ((1048576 : Int) < (q : Int)))), .cond (!(decide ((1048576 : Int) < (q : Int)))) (.eq (.int .i64 q)), .cond (!(decide ((1048576 : Int) < (q : Int)))) (.eq (.bool (decide ((q : Int) < ((-1048576) : Int))))), .eq (.bool ((decide ((1048576 : Int) < (q : Int))) || (decide ((q : Int) < ((-1048576) : Int))))), .eq (.bool ((decide ((1048576 : Int) < (q : Int))) || (decide ((q : Int) < ((-1048576) : Int))))), .cond ((decide ((1048576 : Int) < (q : Int))) || (decide ((q : Int) < ((-1048576) : Int)))) (.eq (.bool x)), .cond ((decide ((1048576 : Int) < (q : Int))) || (decide ((q : Int) < ((-1048576) : Int)))) (.eq (.bool x)), .cond (((decide ((1048576 : Int) < (q : Int))) || (decide ((q : Int) < ((-1048576) : Int)))) && (!x)) (.eq (.bool y)), .cond ((decide ((1048576 : Int) < (q : Int))) || (decide ((q : Int) < ((-1048576) : Int)))) (.eq (.bool (x || y))), .eq (.bool (((decide ((1048576 : Int) < (q : Int))) || (decide ((q : Int) < ((-1048576) : Int)))) && (x || y))), .eq (.bool (((decide ((1048576 : Int) < (q : Int))) || (decide ((q : Int) < ((-1048576) : Int)))) && (x || y))), .cond (!(((decide ((1048576 : Int) < (q : Int))) || (decide ((q : Int) < ((-1048576) : Int)))) && (x || y))) (.eq (.int .i64 q)), .cond (!(((decide ((1048576 : Int) < (q : Int))) || (decide ((q : Int) < ((-1048576) : Int)))) && (x || y))) (.eq (.bool (decide ((q : Int) < (1 : Int))))), .cond (!(((decide ((1048576 : Int) < (q : Int))) || (decide ((q : Int) < ((-1048576) : Int)))) && (x || y))) (.eq (.bool (decide ((q : Int) < (1 : Int))))), .cond ((!(((decide ((1048576 : Int) < (q : Int))) || (decide ((q : Int) < ((-1048576) : Int)))) && (x || y))) && (decide ((q : Int) < (1 : Int)))) (.eq (.bool y)), .cond (!(((decide ((1048576 : Int) < (q : Int))) || (decide ((q : Int) < ((-1048576) : Int)))) && (x || y))) (.eq (.bool ((decide ((q : Int) < (1 : Int))) && y))), .eq (.bool ((((decide ((1048576 : Int) < (q : Int))) || (decide ((q : Int) < ((-1048576) : Int)))) && (x || y)) || ((decide ((q : Int) < (1 : Int))) && y))), .eq (.bool ((((decide ((1048576 : Int) < (q : Int))) || (decide ((q : Int) < ((-1048576) : Int)))) && (x || y)) || ((decide ((q : Int) < (1 : Int))) && y))), .cond (!((((decide ((1048576 : Int) < (q : Int))) || (decide ((q : Int) < ((-1048576) : Int)))) && (x || y)) || ((decide ((q : Int) < (1 : Int))) && y))) (.eq (.int .i64 s)), .cond (!((((decide ((1048576 : Int) < (q : Int))) || (decide ((q : Int) < ((-1048576) : Int)))) && (x || y)) || ((decide ((q : Int) < (1 : Int))) && y))) (.eq (.bool (decide ((s : Int) ≠ (1 : Int))))), .cond (!((((decide ((1048576 : Int) < (q : Int))) || (decide ((q : Int) < ((-1048576) : Int)))) && (x || y)) || ((decide ((q : Int) < (1 : Int))) && y))) (.eq (.bool (decide ((s : Int) ≠ (1 : Int))))), .cond ((!((((decide ((1048576 : Int) < (q : Int))) || (decide ((q : Int) < ((-1048576) : Int)))) && (x || y)) || ((decide ((q : Int) < (1 : Int))) && y))) && (decide ((s : Int) ≠ (1 : Int)))) (.eq (.int .i64 s)), .cond ((!((((decide ((1048576 : Int) < (q : Int))) || (decide ((q : Int) < ((-1048576) : Int)))) && (x || y)) || ((decide ((q : Int) < (1 : Int))) && y))) && (decide ((s : Int) ≠ (1 : Int)))) (.eq (.bool (decide ((s : Int) ≠ (2 : Int))))), .cond (!((((decide ((1048576 : Int) < (q : Int))) || (decide ((q : Int) < ((-1048576) : Int)))) && (x || y)) || ((decide ((q : Int) < (1 : Int))) && y))) (.eq (.bool ((decide ((s : Int) ≠ (1 : Int))) && (decide ((s : Int) ≠ (2 : Int)))))), .cond (!((((decide ((1048576 : Int) < (q : Int))) || (decide ((q : Int) < ((-1048576) : Int)))) && (x || y)) || ((decide ((q : Int) < (1 : Int))) && y))) (.eq (.bool ((decide ((s : Int) ≠ (1 : Int))) && (decide ((s : Int) ≠ (2 : Int)))))), .cond ((!((((decide ((1048576 : Int) < (q : Int))) || (decide ((q : Int) < ((-1048576) : Int)))) && (x || y)) || ((decide ((q : Int) < (1 : Int))) && y))) && ((decide ((s : Int) ≠ (1 : Int))) && (decide ((s : Int) ≠ (2 : Int))))) (.eq (.bool y)), .cond (!((((decide ((1048576 : Int) < (q : Int))) || (decide ((q : Int) < ((-1048576) : Int)))) && (x || y)) || ((decide ((q : Int) < (1 : Int))) && y))) (.eq (.bool (((decide ((s : Int) ≠ (1 : Int))) && (decide ((s : Int) ≠ (2 : Int)))) && y))), .eq (.bool false)] rfl (by kernel_rfl) ?_ ?_
  · refine sv 1 rfl rfl rfl (fun a u hE hD hk => exec_move (.tmp 3) _ rfl (hE 3 (.int .i64 q) (by kernel_rfl) (by kernel_rfl))) ?_
    refine sv 2 rfl rfl rfl (fun a u hE hD hk => exec_gtn (p := q) (q := 1048576) rfl (hD 0 73 (by kernel_rfl)) rfl) ?_
    refine sv 3 rfl rfl rfl (fun a u hE hD hk => exec_move (.tmp 74) _ rfl (hD 1 74 (by kernel_rfl))) ?_
    refine fsteps_cons 4 rfl (fun a u hE hD hk => f_unless ((decide ((1048576 : Int) < (q : Int)))) rfl rfl rfl (hD 2 75 (by kernel_rfl)) (fun hb => f_val (o := ⟨some 76, _, _, _, _, _⟩) (.int .i64 q) rfl (wanted_b rfl rfl (hD 2 75 (by kernel_rfl)) (eq_false_of hb)) (exec_move (.tmp 3) _ rfl (hE 3 (.int .i64 q) (by kernel_rfl) (by kernel_rfl))) rfl)) ?_
    refine fsteps_cons 5 rfl (fun a u hE hD hk => f_unless ((decide ((1048576 : Int) < (q : Int)))) rfl rfl rfl (hD 2 75 (by kernel_rfl)) (fun hb => f_val (o := ⟨some 77, _, _, _, _, _⟩) (.bool (decide ((q : Int) < ((-1048576) : Int)))) rfl (wanted_b rfl rfl (hD 2 75 (by kernel_rfl)) (eq_false_of hb)) (exec_ltn (p := q) (q := (-1048576)) rfl ((hD 3 76 (by kernel_rfl)).1 hb) rfl) rfl)) ?_
    refine sv 6 rfl rfl rfl (fun a u hE hD hk => exec_pickor (.tmp 75) (.const (.bool true)) (.tmp 77) ((decide ((1048576 : Int) < (q : Int)))) ((decide ((q : Int) < ((-1048576) : Int)))) rfl (hD 2 75 (by kernel_rfl)) rfl (fun hb2 => ((hD 4 77 (by kernel_rfl)).1 hb2))) ?_
    refine sv 7 rfl rfl rfl (fun a u hE hD hk => exec_move (.tmp 78) _ rfl (hD 5 78 (by kernel_rfl))) ?_
    refine fsteps_cons 8 rfl (fun a u hE hD hk => f_if (((decide ((1048576 : Int) < (q : Int))) || (decide ((q : Int) < ((-1048576) : Int))))) rfl rfl rfl (hD 6 79 (by kernel_rfl)) (fun hb => f_val (o := ⟨some 80, _, _, _, _, _⟩) (.bool x) rfl (wanted_b rfl rfl (hD 6 79 (by kernel_rfl)) (eq_true_of hb)) (exec_move (.tmp 11) _ rfl (hE 11 (.bool x) (by kernel_rfl) (by kernel_rfl))) rfl)) ?_
    refine fsteps_cons 9 rfl (fun a u hE hD hk => f_if (((decide ((1048576 : Int) < (q : Int))) || (decide ((q : Int) < ((-1048576) : Int))))) rfl rfl rfl (hD 6 79 (by kernel_rfl)) (fun hb => f_val (o := ⟨some 81, _, _, _, _, _⟩) (.bool x) rfl (wanted_b rfl rfl (hD 6 79 (by kernel_rfl)) (eq_true_of hb)) (exec_move (.tmp 80) _ rfl ((hD 7 80 (by kernel_rfl)).1 hb)) rfl)) ?_
    refine fsteps_cons 10 rfl (fun a u hE hD hk => f_unless2 ((decide ((1048576 : Int) < (q : Int))) || (decide ((q : Int) < ((-1048576) : Int)))) (x) rfl rfl rfl (hD 8 81 (by kernel_rfl)) (fun hb => f_val (o := ⟨some 82, _, _, _, _, _⟩) (.bool y) rfl (wanted_b rfl rfl ((hD 8 81 (by kernel_rfl)).1 (and_l hb)) (eq_false_of (and_r hb))) (exec_move (.tmp 12) _ rfl (hE 12 (.bool y) (by kernel_rfl) (by kernel_rfl))) rfl)) ?_
    refine fsteps_cons 11 rfl (fun a u hE hD hk => f_if (((decide ((1048576 : Int) < (q : Int))) || (decide ((q : Int) < ((-1048576) : Int))))) rfl rfl rfl (hD 6 79 (by kernel_rfl)) (fun hb => f_val (o := ⟨some 83, _, _, _, _, _⟩) (.bool (x || y)) rfl (wanted_b rfl rfl (hD 6 79 (by kernel_rfl)) (eq_true_of hb)) (exec_pickor (.tmp 81) (.const (.bool true)) (.tmp 82) (x) (y) rfl ((hD 8 81 (by kernel_rfl)).1 hb) rfl (fun hb2 => ((hD 9 82 (by kernel_rfl)).1 (and_mk hb hb2)))) rfl)) ?_
    refine sv 12 rfl rfl rfl (fun a u hE hD hk => exec_pickand (.tmp 79) (.tmp 83) (.const (.bool false)) (((decide ((1048576 : Int) < (q : Int))) || (decide ((q : Int) < ((-1048576) : Int))))) ((x || y)) rfl (hD 6 79 (by kernel_rfl)) (fun hb2 => ((hD 10 83 (by kernel_rfl)).1 hb2)) rfl) ?_
    refine sv 13 rfl rfl rfl (fun a u hE hD hk => exec_move (.tmp 84) _ rfl (hD 11 84 (by kernel_rfl))) ?_
    refine fsteps_cons 14 rfl (fun a u hE hD hk => f_unless ((((decide ((1048576 : Int) < (q : Int))) || (decide ((q : Int) < ((-1048576) : Int)))) && (x || y))) rfl rfl rfl (hD 12 85 (by kernel_rfl)) (fun hb => f_val (o := ⟨some 86, _, _, _, _, _⟩) (.int .i64 q) rfl (wanted_b rfl rfl (hD 12 85 (by kernel_rfl)) (eq_false_of hb)) (exec_move (.tmp 3) _ rfl (hE 3 (.int .i64 q) (by kernel_rfl) (by kernel_rfl))) rfl)) ?_
    refine fsteps_cons 15 rfl (fun a u hE hD hk => f_unless ((((decide ((1048576 : Int) < (q : Int))) || (decide ((q : Int) < ((-1048576) : Int)))) && (x || y))) rfl rfl rfl (hD 12 85 (by kernel_rfl)) (fun hb => f_val (o := ⟨some 87, _, _, _, _, _⟩) (.bool (decide ((q : Int) < (1 : Int)))) rfl (wanted_b rfl rfl (hD 12 85 (by kernel_rfl)) (eq_false_of hb)) (exec_ltn (p := q) (q := 1) rfl ((hD 13 86 (by kernel_rfl)).1 hb) rfl) rfl)) ?_
    refine fsteps_cons 16 rfl (fun a u hE hD hk => f_unless ((((decide ((1048576 : Int) < (q : Int))) || (decide ((q : Int) < ((-1048576) : Int)))) && (x || y))) rfl rfl rfl (hD 12 85 (by kernel_rfl)) (fun hb => f_val (o := ⟨some 88, _, _, _, _, _⟩) (.bool (decide ((q : Int) < (1 : Int)))) rfl (wanted_b rfl rfl (hD 12 85 (by kernel_rfl)) (eq_false_of hb)) (exec_move (.tmp 87) _ rfl ((hD 14 87 (by kernel_rfl)).1 hb)) rfl)) ?_
    refine fsteps_cons 17 rfl (fun a u hE hD hk => f_if2 (!(((decide ((1048576 : Int) < (q : Int))) || (decide ((q : Int) < ((-1048576) : Int)))) && (x || y))) ((decide ((q : Int) < (1 : Int)))) rfl rfl rfl (hD 15 88 (by kernel_rfl)) (fun hb => f_val (o := ⟨some 89, _, _, _, _, _⟩) (.bool y) rfl (wanted_b rfl rfl ((hD 15 88 (by kernel_rfl)).1 (and_l hb)) (eq_true_of (and_r hb))) (exec_move (.tmp 12) _ rfl (hE 12 (.bool y) (by kernel_rfl) (by kernel_rfl))) rfl)) ?_
    refine fsteps_cons 18 rfl (fun a u hE hD hk => f_unless ((((decide ((1048576 : Int) < (q : Int))) || (decide ((q : Int) < ((-1048576) : Int)))) && (x || y))) rfl rfl rfl (hD 12 85 (by kernel_rfl)) (fun hb => f_val (o := ⟨some 90, _, _, _, _, _⟩) (.bool ((decide ((q : Int) < (1 : Int))) && y)) rfl (wanted_b rfl rfl (hD 12 85 (by kernel_rfl)) (eq_false_of hb)) (exec_pickand (.tmp 88) (.tmp 89) (.const (.bool false)) ((decide ((q : Int) < (1 : Int)))) (y) rfl ((hD 15 88 (by kernel_rfl)).1 hb) (fun hb2 => ((hD 16 89 (by kernel_rfl)).1 (and_mk hb hb2))) rfl) rfl)) ?_
    refine sv 19 rfl rfl rfl (fun a u hE hD hk => exec_pickor (.tmp 85) (.const (.bool true)) (.tmp 90) ((((decide ((1048576 : Int) < (q : Int))) || (decide ((q : Int) < ((-1048576) : Int)))) && (x || y))) (((decide ((q : Int) < (1 : Int))) && y)) rfl (hD 12 85 (by kernel_rfl)) rfl (fun hb2 => ((hD 17 90 (by kernel_rfl)).1 hb2))) ?_
    refine sv 20 rfl rfl rfl (fun a u hE hD hk => exec_move (.tmp 91) _ rfl (hD 18 91 (by kernel_rfl))) ?_
    refine fsteps_cons 21 rfl (fun a u hE hD hk => f_unless (((((decide ((1048576 : Int) < (q : Int))) || (decide ((q : Int) < ((-1048576) : Int)))) && (x || y)) || ((decide ((q : Int) < (1 : Int))) && y))) rfl rfl rfl (hD 19 92 (by kernel_rfl)) (fun hb => f_val (o := ⟨some 93, _, _, _, _, _⟩) (.int .i64 s) rfl (wanted_b rfl rfl (hD 19 92 (by kernel_rfl)) (eq_false_of hb)) (exec_move (.tmp 2) _ rfl (hE 2 (.int .i64 s) (by kernel_rfl) (by kernel_rfl))) rfl)) ?_
    refine fsteps_cons 22 rfl (fun a u hE hD hk => f_unless (((((decide ((1048576 : Int) < (q : Int))) || (decide ((q : Int) < ((-1048576) : Int)))) && (x || y)) || ((decide ((q : Int) < (1 : Int))) && y))) rfl rfl rfl (hD 19 92 (by kernel_rfl)) (fun hb => f_val (o := ⟨some 94, _, _, _, _, _⟩) (.bool (decide ((s : Int) ≠ (1 : Int)))) rfl (wanted_b rfl rfl (hD 19 92 (by kernel_rfl)) (eq_false_of hb)) (exec_nen (p := s) (q := 1) rfl ((hD 20 93 (by kernel_rfl)).1 hb) rfl) rfl)) ?_
    refine fsteps_cons 23 rfl (fun a u hE hD hk => f_unless (((((decide ((1048576 : Int) < (q : Int))) || (decide ((q : Int) < ((-1048576) : Int)))) && (x || y)) || ((decide ((q : Int) < (1 : Int))) && y))) rfl rfl rfl (hD 19 92 (by kernel_rfl)) (fun hb => f_val (o := ⟨some 95, _, _, _, _, _⟩) (.bool (decide ((s : Int) ≠ (1 : Int)))) rfl (wanted_b rfl rfl (hD 19 92 (by kernel_rfl)) (eq_false_of hb)) (exec_move (.tmp 94) _ rfl ((hD 21 94 (by kernel_rfl)).1 hb)) rfl)) ?_
    refine fsteps_cons 24 rfl (fun a u hE hD hk => f_if2 (!((((decide ((1048576 : Int) < (q : Int))) || (decide ((q : Int) < ((-1048576) : Int)))) && (x || y)) || ((decide ((q : Int) < (1 : Int))) && y))) ((decide ((s : Int) ≠ (1 : Int)))) rfl rfl rfl (hD 22 95 (by kernel_rfl)) (fun hb => f_val (o := ⟨some 96, _, _, _, _, _⟩) (.int .i64 s) rfl (wanted_b rfl rfl ((hD 22 95 (by kernel_rfl)).1 (and_l hb)) (eq_true_of (and_r hb))) (exec_move (.tmp 2) _ rfl (hE 2 (.int .i64 s) (by kernel_rfl) (by kernel_rfl))) rfl)) ?_
    refine fsteps_cons 25 rfl (fun a u hE hD hk => f_if2 (!((((decide ((1048576 : Int) < (q : Int))) || (decide ((q : Int) < ((-1048576) : Int)))) && (x || y)) || ((decide ((q : Int) < (1 : Int))) && y))) ((decide ((s : Int) ≠ (1 : Int)))) rfl rfl rfl (hD 22 95 (by kernel_rfl)) (fun hb => f_val (o := ⟨some 97, _, _, _, _, _⟩) (.bool (decide ((s : Int) ≠ (2 : Int)))) rfl (wanted_b rfl rfl ((hD 22 95 (by kernel_rfl)).1 (and_l hb)) (eq_true_of (and_r hb))) (exec_nen (p := s) (q := 2) rfl ((hD 23 96 (by kernel_rfl)).1 hb) rfl) rfl)) ?_
    refine fsteps_cons 26 rfl (fun a u hE hD hk => f_unless (((((decide ((1048576 : Int) < (q : Int))) || (decide ((q : Int) < ((-1048576) : Int)))) && (x || y)) || ((decide ((q : Int) < (1 : Int))) && y))) rfl rfl rfl (hD 19 92 (by kernel_rfl)) (fun hb => f_val (o := ⟨some 98, _, _, _, _, _⟩) (.bool ((decide ((s : Int) ≠ (1 : Int))) && (decide ((s : Int) ≠ (2 : Int))))) rfl (wanted_b rfl rfl (hD 19 92 (by kernel_rfl)) (eq_false_of hb)) (exec_pickand (.tmp 95) (.tmp 97) (.const (.bool false)) ((decide ((s : Int) ≠ (1 : Int)))) ((decide ((s : Int) ≠ (2 : Int)))) rfl ((hD 22 95 (by kernel_rfl)).1 hb) (fun hb2 => ((hD 24 97 (by kernel_rfl)).1 (and_mk hb hb2))) rfl) rfl)) ?_
    refine fsteps_cons 27 rfl (fun a u hE hD hk => f_unless (((((decide ((1048576 : Int) < (q : Int))) || (decide ((q : Int) < ((-1048576) : Int)))) && (x || y)) || ((decide ((q : Int) < (1 : Int))) && y))) rfl rfl rfl (hD 19 92 (by kernel_rfl)) (fun hb => f_val (o := ⟨some 99, _, _, _, _, _⟩) (.bool ((decide ((s : Int) ≠ (1 : Int))) && (decide ((s : Int) ≠ (2 : Int))))) rfl (wanted_b rfl rfl (hD 19 92 (by kernel_rfl)) (eq_false_of hb)) (exec_move (.tmp 98) _ rfl ((hD 25 98 (by kernel_rfl)).1 hb)) rfl)) ?_
    refine fsteps_cons 28 rfl (fun a u hE hD hk => f_if2 (!((((decide ((1048576 : Int) < (q : Int))) || (decide ((q : Int) < ((-1048576) : Int)))) && (x || y)) || ((decide ((q : Int) < (1 : Int))) && y))) (((decide ((s : Int) ≠ (1 : Int))) && (decide ((s : Int) ≠ (2 : Int))))) rfl rfl rfl (hD 26 99 (by kernel_rfl)) (fun hb => f_val (o := ⟨some 100, _, _, _, _, _⟩) (.bool y) rfl (wanted_b rfl rfl ((hD 26 99 (by kernel_rfl)).1 (and_l hb)) (eq_true_of (and_r hb))) (exec_move (.tmp 12) _ rfl (hE 12 (.bool y) (by kernel_rfl) (by kernel_rfl))) rfl)) ?_
    refine fsteps_cons 29 rfl (fun a u hE hD hk => f_unless (((((decide ((1048576 : Int) < (q : Int))) || (decide ((q : Int) < ((-1048576) : Int)))) && (x || y)) || ((decide ((q : Int) < (1 : Int))) && y))) rfl rfl rfl (hD 19 92 (by kernel_rfl)) (fun hb => f_val (o := ⟨some 101, _, _, _, _, _⟩) (.bool (((decide ((s : Int) ≠ (1 : Int))) && (decide ((s : Int) ≠ (2 : Int)))) && y)) rfl (wanted_b rfl rfl (hD 19 92 (by kernel_rfl)) (eq_false_of hb)) (exec_pickand (.tmp 99) (.tmp 100) (.const (.bool false)) (((decide ((s : Int) ≠ (1 : Int))) && (decide ((s : Int) ≠ (2 : Int))))) (y) rfl ((hD 26 99 (by kernel_rfl)).1 hb) (fun hb2 => ((hD 27 100 (by kernel_rfl)).1 (and_mk hb hb2))) rfl) rfl)) ?_
    refine fsteps_cons 30 rfl (fun a u hE hD hk => f_as (show ((((((decide ((1048576 : Int) < (q : Int))) || (decide ((q : Int) < ((-1048576) : Int)))) && (x || y)) || ((decide ((q : Int) < (1 : Int))) && y)) || (((decide ((s : Int) ≠ (1 : Int))) && (decide ((s : Int) ≠ (2 : Int)))) && y)) : Bool) = false from H8.out) (f_val (o := ⟨some 102, _, _, _, _, _⟩) (.bool (((((decide ((1048576 : Int) < (q : Int))) || (decide ((q : Int) < ((-1048576) : Int)))) && (x || y)) || ((decide ((q : Int) < (1 : Int))) && y)) || (((decide ((s : Int) ≠ (1 : Int))) && (decide ((s : Int) ≠ (2 : Int)))) && y))) rfl (wanted_none rfl _) (exec_pickor (.tmp 92) (.const (.bool true)) (.tmp 101) (((((decide ((1048576 : Int) < (q : Int))) || (decide ((q : Int) < ((-1048576) : Int)))) && (x || y)) || ((decide ((q : Int) < (1 : Int))) && y))) ((((decide ((s : Int) ≠ (1 : Int))) && (decide ((s : Int) ≠ (2 : Int)))) && y)) rfl (hD 19 92 (by kernel_rfl)) rfl (fun hb2 => ((hD 28 101 (by kernel_rfl)).1 hb2))) rfl)) ?_
    exact fsteps_nil
  intro gv w9 hV k9
  rw [show dstsOf _ 30 = [73, 74, 75, 76, 77, 78, 79, 80, 81, 82, 83, 84, 85, 86, 87, 88, 89, 90, 91, 92, 93, 94, 95, 96, 97, 98, 99, 100, 101, 102] by kernel_rfl]
  simp only [List.foldl_cons, List.foldl_nil, List.setIfInBounds_toArray, List.set_cons_succ, List.set_cons_zero, List.drop_succ_cons, List.drop_zero]
  rw [show gv 102 = .bool false from hV 29 102 (by kernel_rfl)]
  clear hV
  refine wpList_nil ?_
  have HB9 := Lib.hid ((HB7.out.kept k8).kept k9)
  clear HB7
  go_upto_region 10 with fail
  refine wp_text 26 [.eq (.bool x), .eq (.bool x), .cond (!x) (.eq (.pointer (some ⟨g, 0, none⟩))), .cond (!x) (.eq (.int .i64 O3)), .cond (!x) (.eq (.bool (decide ((O3 : Int) = (7 : Int))))), .eq (.bool true), .eq (.bool true), .eq (.bool y), .eq (.bool y), .cond (!y) (.eq (.pointer (some ⟨g, 0, none⟩))), .cond (!y) (.eq (.int .i64 P3)), .cond (!y) (.eq (.bool (decide ((P3 : Int) = (4 : Int))))), .eq (.bool true), .eq (.bool true), .eq (.bool true), .eq (.pointer (some ⟨g, 0, none⟩)), .eq (.int .i64 O4), .eq (.pointer (some ⟨g, 0, none⟩)), .eq (.int .i64 i), .eq (.int .i64 O4), .eq (.bool true), .eq (.bool true), .eq (.bool true), .eq (.bool true), .eq (.bool true), .eq (.bool true)] rfl (by kernel_rfl) ?_ ?_
  · refine sv 1 rfl rfl rfl (fun a u hE hD hk => exec_move (.tmp 11) _ rfl (hE 11 (.bool x) (by kernel_rfl) (by kernel_rfl))) ?_
    refine sv 2 rfl rfl rfl (fun a u hE hD hk => exec_move (.tmp 103) _ rfl (hD 0 103 (by kernel_rfl))) ?_
    refine fsteps_cons 3 rfl (fun a u hE hD hk => f_unless (x) rfl rfl rfl (hD 1 104 (by kernel_rfl)) (fun hb => f_val (o := ⟨some 105, _, _, _, _, _⟩) (.pointer (some ⟨g, 0, none⟩)) rfl (wanted_b rfl rfl (hD 1 104 (by kernel_rfl)) (eq_false_of hb)) (exec_move (.tmp 9) _ rfl (hE 9 (.pointer (some ⟨g, 0, none⟩)) (by kernel_rfl) (by kernel_rfl))) rfl)) ?_
    refine fsteps_cons 4 rfl (fun a u hE hD hk => f_unless (x) rfl rfl rfl (hD 1 104 (by kernel_rfl)) (fun hb => f_call (o := ⟨some 106, _, _, _, _, _⟩) 10 #[.pointer (some ⟨g, 0, none⟩), .int .i64 3] rfl (wanted_b rfl rfl (hD 1 104 (by kernel_rfl)) (eq_false_of hb)) (exec_call 10 _ [.tmp 105, .const (.int .i64 3)] _ [.pointer (some ⟨g, 0, none⟩), .int .i64 3] Try.func10 (by kernel_rfl) (by kernel_rfl) rfl (show [a.eval (.tmp 105), a.eval (.const (.int .i64 3))] = [.pointer (some ⟨g, 0, none⟩), .int .i64 3] from (by rw [show a.eval (.tmp 105) = .pointer (some ⟨g, 0, none⟩) from ((hD 2 105 (by kernel_rfl)).1 hb)] <;> rfl)) u) (all_at (HB9.out.kept hk) HK3.out HO3.out))) ?_
    refine fsteps_cons 5 rfl (fun a u hE hD hk => f_unless (x) rfl rfl rfl (hD 1 104 (by kernel_rfl)) (fun hb => f_val (o := ⟨some 107, _, _, _, _, _⟩) (.bool (decide ((O3 : Int) = (7 : Int)))) rfl (wanted_b rfl rfl (hD 1 104 (by kernel_rfl)) (eq_false_of hb)) (exec_eqn (p := O3) (q := 7) rfl ((hD 3 106 (by kernel_rfl)).1 hb) rfl) rfl)) ?_
    refine fsteps_cons 6 rfl (fun a u hE hD hk => f_as (show ((x || (decide ((O3 : Int) = (7 : Int)))) : Bool) = true from HA.out) (f_val (o := ⟨some 108, _, _, _, _, _⟩) (.bool (x || (decide ((O3 : Int) = (7 : Int))))) rfl (wanted_none rfl _) (exec_pickor (.tmp 104) (.const (.bool true)) (.tmp 107) (x) ((decide ((O3 : Int) = (7 : Int)))) rfl (hD 1 104 (by kernel_rfl)) rfl (fun hb2 => ((hD 4 107 (by kernel_rfl)).1 hb2))) rfl)) ?_
    refine sv 7 rfl rfl rfl (fun a u hE hD hk => exec_move (.tmp 108) _ rfl (hD 5 108 (by kernel_rfl))) ?_
    refine fsteps_cons 8 rfl (fun a u hE hD hk => f_val (o := ⟨some 110, _, _, _, _, _⟩) (.bool y) rfl (wanted_at (b := true) true rfl rfl (hD 6 109 (by kernel_rfl))) (exec_move (.tmp 12) _ rfl (hE 12 (.bool y) (by kernel_rfl) (by kernel_rfl))) rfl) ?_
    refine fsteps_cons 9 rfl (fun a u hE hD hk => f_val (o := ⟨some 111, _, _, _, _, _⟩) (.bool y) rfl (wanted_at (b := true) true rfl rfl (hD 6 109 (by kernel_rfl))) (exec_move (.tmp 110) _ rfl (hD 7 110 (by kernel_rfl))) rfl) ?_
    refine fsteps_cons 10 rfl (fun a u hE hD hk => f_unless (y) rfl rfl rfl (hD 8 111 (by kernel_rfl)) (fun hb => f_val (o := ⟨some 112, _, _, _, _, _⟩) (.pointer (some ⟨g, 0, none⟩)) rfl (wanted_b rfl rfl (hD 8 111 (by kernel_rfl)) (eq_false_of hb)) (exec_move (.tmp 9) _ rfl (hE 9 (.pointer (some ⟨g, 0, none⟩)) (by kernel_rfl) (by kernel_rfl))) rfl)) ?_
    refine fsteps_cons 11 rfl (fun a u hE hD hk => f_unless (y) rfl rfl rfl (hD 8 111 (by kernel_rfl)) (fun hb => f_call (o := ⟨some 113, _, _, _, _, _⟩) 12 #[.pointer (some ⟨g, 0, none⟩), .int .i64 3, .int .i64 2] rfl (wanted_b rfl rfl (hD 8 111 (by kernel_rfl)) (eq_false_of hb)) (exec_call 12 _ [.tmp 112, .const (.int .i64 3), .const (.int .i64 2)] _ [.pointer (some ⟨g, 0, none⟩), .int .i64 3, .int .i64 2] Try.func12 (by kernel_rfl) (by kernel_rfl) rfl (show [a.eval (.tmp 112), a.eval (.const (.int .i64 3)), a.eval (.const (.int .i64 2))] = [.pointer (some ⟨g, 0, none⟩), .int .i64 3, .int .i64 2] from (by rw [show a.eval (.tmp 112) = .pointer (some ⟨g, 0, none⟩) from ((hD 9 112 (by kernel_rfl)).1 hb)] <;> rfl)) u) (pos_at (HB9.out.kept hk) HP3.out))) ?_
    refine fsteps_cons 12 rfl (fun a u hE hD hk => f_unless (y) rfl rfl rfl (hD 8 111 (by kernel_rfl)) (fun hb => f_val (o := ⟨some 114, _, _, _, _, _⟩) (.bool (decide ((P3 : Int) = (4 : Int)))) rfl (wanted_b rfl rfl (hD 8 111 (by kernel_rfl)) (eq_false_of hb)) (exec_eqn (p := P3) (q := 4) rfl ((hD 10 113 (by kernel_rfl)).1 hb) rfl) rfl)) ?_
    refine fsteps_cons 13 rfl (fun a u hE hD hk => f_as (show ((y || (decide ((P3 : Int) = (4 : Int)))) : Bool) = true from HBb.out) (f_val (o := ⟨some 115, _, _, _, _, _⟩) (.bool (y || (decide ((P3 : Int) = (4 : Int))))) rfl (wanted_at (b := true) true rfl rfl (hD 6 109 (by kernel_rfl))) (exec_pickor (.tmp 111) (.const (.bool true)) (.tmp 114) (y) ((decide ((P3 : Int) = (4 : Int)))) rfl (hD 8 111 (by kernel_rfl)) rfl (fun hb2 => ((hD 11 114 (by kernel_rfl)).1 hb2))) rfl)) ?_
    refine sv 14 rfl rfl rfl (fun a u hE hD hk => exec_pick (.tmp 109) (.tmp 115) (.const (.bool false)) (.bool true) rfl (hD 6 109 (by kernel_rfl)) (hD 12 115 (by kernel_rfl))) ?_
    refine sv 15 rfl rfl rfl (fun a u hE hD hk => exec_move (.tmp 116) _ rfl (hD 13 116 (by kernel_rfl))) ?_
    refine fsteps_cons 16 rfl (fun a u hE hD hk => f_val (o := ⟨some 118, _, _, _, _, _⟩) (.pointer (some ⟨g, 0, none⟩)) rfl (wanted_at (b := true) true rfl rfl (hD 14 117 (by kernel_rfl))) (exec_move (.tmp 9) _ rfl (hE 9 (.pointer (some ⟨g, 0, none⟩)) (by kernel_rfl) (by kernel_rfl))) rfl) ?_
    refine fsteps_cons 17 rfl (fun a u hE hD hk => f_call (o := ⟨some 119, _, _, _, _, _⟩) 10 #[.pointer (some ⟨g, 0, none⟩), .int .i64 4] rfl (wanted_at (b := true) true rfl rfl (hD 14 117 (by kernel_rfl))) (exec_call 10 _ [.tmp 118, .const (.int .i64 4)] _ [.pointer (some ⟨g, 0, none⟩), .int .i64 4] Try.func10 (by kernel_rfl) (by kernel_rfl) rfl (show [a.eval (.tmp 118), a.eval (.const (.int .i64 4))] = [.pointer (some ⟨g, 0, none⟩), .int .i64 4] from (by rw [show a.eval (.tmp 118) = .pointer (some ⟨g, 0, none⟩) from (hD 15 118 (by kernel_rfl))] <;> rfl)) u) (all_at (HB9.out.kept hk) HK3.out HCa.out)) ?_
    refine fsteps_cons 18 rfl (fun a u hE hD hk => f_val (o := ⟨some 120, _, _, _, _, _⟩) (.pointer (some ⟨g, 0, none⟩)) rfl (wanted_at (b := true) true rfl rfl (hD 14 117 (by kernel_rfl))) (exec_move (.tmp 9) _ rfl (hE 9 (.pointer (some ⟨g, 0, none⟩)) (by kernel_rfl) (by kernel_rfl))) rfl) ?_
    refine fsteps_cons 19 rfl (fun a u hE hD hk => f_val (o := ⟨some 121, _, _, _, _, _⟩) (.int .i64 i) rfl (wanted_at (b := true) true rfl rfl (hD 14 117 (by kernel_rfl))) (exec_move (.tmp 1) _ rfl (hE 1 (.int .i64 i) (by kernel_rfl) (by kernel_rfl))) rfl) ?_
    refine fsteps_cons 20 rfl (fun a u hE hD hk => f_call (o := ⟨some 122, _, _, _, _, _⟩) 17 #[.pointer (some ⟨g, 0, none⟩), .int .i64 4, .int .i64 i] rfl (wanted_at (b := true) true rfl rfl (hD 14 117 (by kernel_rfl))) (exec_call 17 _ [.tmp 120, .const (.int .i64 4), .tmp 121] _ [.pointer (some ⟨g, 0, none⟩), .int .i64 4, .int .i64 i] Try.func17 (by kernel_rfl) (by kernel_rfl) rfl (show [a.eval (.tmp 120), a.eval (.const (.int .i64 4)), a.eval (.tmp 121)] = [.pointer (some ⟨g, 0, none⟩), .int .i64 4, .int .i64 i] from (by rw [show a.eval (.tmp 120) = .pointer (some ⟨g, 0, none⟩) from (hD 17 120 (by kernel_rfl)), show a.eval (.tmp 121) = .int .i64 i from (hD 18 121 (by kernel_rfl))] <;> rfl)) u) (openAt_at (HB9.out.kept hk) HO4.out)) ?_
    refine fsteps_cons 21 rfl (fun a u hE hD hk => f_as (show ((decide ((O4 : Int) = (O4 : Int))) : Bool) = true from decide_eq_true rfl) (f_val (o := ⟨some 123, _, _, _, _, _⟩) (.bool (decide ((O4 : Int) = (O4 : Int)))) rfl (wanted_at (b := true) true rfl rfl (hD 14 117 (by kernel_rfl))) (exec_eqn (p := O4) (q := O4) rfl (hD 16 119 (by kernel_rfl)) (hD 19 122 (by kernel_rfl))) rfl)) ?_
    refine sv 22 rfl rfl rfl (fun a u hE hD hk => exec_pick (.tmp 117) (.tmp 123) (.const (.bool false)) (.bool true) rfl (hD 14 117 (by kernel_rfl)) (hD 20 123 (by kernel_rfl))) ?_
    refine sv 23 rfl rfl rfl (fun a u hE hD hk => exec_move (.tmp 124) _ rfl (hD 21 124 (by kernel_rfl))) ?_
    refine fsteps_cons 24 rfl (fun a u hE hD hk => f_call (o := ⟨some 126, _, _, _, _, _⟩) 3 #[] rfl (wanted_at (b := true) true rfl rfl (hD 22 125 (by kernel_rfl))) (exec_call 3 _ [] _ [] Try.func3 (by kernel_rfl) (by kernel_rfl) rfl rfl u) (acctRuns_is u)) ?_
    refine sv 25 rfl rfl rfl (fun a u hE hD hk => exec_pick (.tmp 125) (.tmp 126) (.const (.bool false)) (.bool true) rfl (hD 22 125 (by kernel_rfl)) (hD 23 126 (by kernel_rfl))) ?_
    refine sv 26 rfl rfl rfl (fun a u hE hD hk => exec_assign (.tmp 127) _ rfl (hD 24 127 (by kernel_rfl))) ?_
    exact fsteps_nil
  intro gv w10 hV k10
  rw [show dstsOf _ 26 = [103, 104, 105, 106, 107, 108, 109, 110, 111, 112, 113, 114, 115, 116, 117, 118, 119, 120, 121, 122, 123, 124, 125, 126, 127, 8] by kernel_rfl]
  simp only [List.foldl_cons, List.foldl_nil, List.setIfInBounds_toArray, List.set_cons_succ, List.set_cons_zero, List.drop_succ_cons, List.drop_zero]
  rw [show gv 8 = .bool true from hV 25 8 (by kernel_rfl)]
  clear hV
  refine wpList_nil ?_
  have kw := ((kw7.trans k8).trans k9).trans k10
  go_wp2
  go_ret
  exact ⟨rfl, kw⟩
end Go.Proofs.Ytlkkmpleafpliaa
