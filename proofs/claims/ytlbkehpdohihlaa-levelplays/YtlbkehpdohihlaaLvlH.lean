/-
  The contracts of Seen, Whole, Orders, the program's and the document's own, and of jobberbook.Same. Condition: a level as it may be.
-/
import Derived.Test.YtlbkehpdohihlaaLvlX
namespace Go.Proofs.Ytlbkehpdohihlaa
open Go.RowKit
set_option linter.unusedVariables false
theorem seenM_le {X : List Ent} (h : ∀ e ∈ X, e.ok) (i : Nat) (e : Ent) (he : X[i]? = some e) : 0 ≤ seenM (X.take i) ∧ seenM (X.take i) + e.n = seenM (X.take (i + 1)) ∧ seenM (X.take (i + 1)) ≤ wholeM X ∧ 1 ≤ e.n := by
  have h1 := whole_ge (X := X.take i) (fun x hx => h x (List.mem_of_mem_take hx))
  have h2 := whole_ge (X := X.drop (i + 1)) (fun x hx => h x (List.mem_of_mem_drop hx))
  have h3 := whole_ge (X := X.take (i + 1)) (fun x hx => h x (List.mem_of_mem_take hx))
  have h4 := h e (List.mem_of_getElem? he)
  unfold Ent.ok at h4
  have h5 : wholeM X = wholeM (X.take (i + 1)) + wholeM (X.drop (i + 1)) := by rw [← wholeM_append, List.take_append_drop]
  have h6 : seenM (X.take (i + 1)) = seenM (X.take i) + e.n := by
    rw [List.take_add_one, he, seenM_append]
    simp [seenM, sumI]
  omega
theorem wholeM_le {X : List Ent} (h : ∀ e ∈ X, e.ok) (i : Nat) (e : Ent) (he : X[i]? = some e) : 0 ≤ wholeM (X.take i) ∧ wholeM (X.take i) + e.o.qty = wholeM (X.take (i + 1)) ∧ wholeM (X.take (i + 1)) ≤ wholeM X ∧ 1 ≤ e.o.qty := by
  have h1 := whole_ge (X := X.take i) (fun x hx => h x (List.mem_of_mem_take hx))
  have h2 := whole_ge (X := X.drop (i + 1)) (fun x hx => h x (List.mem_of_mem_drop hx))
  have h3 := whole_ge (X := X.take (i + 1)) (fun x hx => h x (List.mem_of_mem_take hx))
  have h4 := h e (List.mem_of_getElem? he)
  unfold Ent.ok at h4
  have h5 : wholeM X = wholeM (X.take (i + 1)) + wholeM (X.drop (i + 1)) := by rw [← wholeM_append, List.take_append_drop]
  have h6 : wholeM (X.take (i + 1)) = wholeM (X.take i) + e.o.qty := by
    rw [List.take_add_one, he, wholeM_append]
    simp [wholeM, sumI]
  omega

set_option maxRecDepth 100000 in
set_option maxHeartbeats 800000 in
theorem seen_any (w : World) (F : Nat → Prop) (p : Nat) (X : List Ent) (h : Lvl 58 61 w F p X) (hX : Good X) : Gives 12 #[.pointer (some ⟨p, 0, none⟩)] w (.eq (.int .i64 (seenM X))) := by
  refine gives_eq ?_
  obtain ⟨h1, h2, v, hB, hS, h5⟩ := h
  have hlen := hX.len
  have HB := Lib.hid hB
  have HS := Lib.hid hS
  have HX := Lib.hid hX
  clear hB hS h5 h1 h2 hX
  obtain ⟨n, hn⟩ : ∃ n, X.length = n := ⟨_, rfl⟩
  rw [hn] at HS hlen
  have HN := Lib.hid hn
  go_enter Try.func12, Try.ntmps12
  go_upto_region 2 with fail
  refine wp_text 6 [.eq (.pointer (some ⟨p, 0, none⟩)), .eq (.pointer (some ⟨p, 0, none⟩)), .eq (.pointer (some ⟨p, 1, none⟩)), .eq (v), .eq (.int .i64 (n : Int)), .eq (.int .i64 0)] rfl (by kernel_rfl) ?_ ?_
  · refine fsteps_cons 1 rfl (fun a u hE hD hk => f_val (o := ⟨some 6, _, _, _, _, _⟩) (.pointer (some ⟨p, 0, none⟩)) rfl (wanted_none rfl _) (exec_move (.tmp 0) (.pointer (some ⟨p, 0, none⟩)) rfl (hE 0 (.pointer (some ⟨p, 0, none⟩)) (by kernel_rfl) (by kernel_rfl))) rfl) ?_
    refine fsteps_cons 2 rfl (fun a u hE hD hk => f_val (o := ⟨some 7, _, _, _, _, _⟩) (.pointer (some ⟨p, 0, none⟩)) rfl (wanted_none rfl _) (exec_nilp (.tmp 6) ⟨p, 0, none⟩ rfl (hD 0 6 (by kernel_rfl))) rfl) ?_
    refine fsteps_cons 3 rfl (fun a u hE hD hk => f_val (o := ⟨some 8, _, _, _, _, _⟩) (.pointer (some ⟨p, 1, none⟩)) rfl (wanted_none rfl _) (exec_fldo 58 1 1 (.tmp 7) (p) (0) (1) rfl (hD 1 7 (by kernel_rfl)) (by kernel_rfl) rfl) rfl) ?_
    refine fsteps_cons 4 rfl (fun a u hE hD hk => f_val (o := ⟨some 9, _, _, _, _, _⟩) (v) rfl (wanted_none rfl _) (exec_ldv 56 _ Try.underlying56 (.tmp 8) ⟨p, 1, none⟩ (v) rfl (hD 2 8 (by kernel_rfl)) (by rw [(HB.out.kept hk).cell]; rfl)) rfl) ?_
    refine fsteps_cons 5 rfl (fun a u hE hD hk => f_val (o := ⟨some 10, _, _, _, _, _⟩) (.int .i64 (n : Int)) rfl (wanted_none rfl _) (exec_lenS (.tmp 9) slE (v) (n) _ _ rfl (hD 3 9 (by kernel_rfl)) HS.out) rfl) ?_
    refine fsteps_cons 6 rfl (fun a u hE hD hk => f_val (o := ⟨some 11, _, _, _, _, _⟩) (.int .i64 0) rfl (wanted_none rfl _) (exec_move (.const (.int .i64 0)) (.int .i64 0) rfl rfl) rfl) ?_
    exact fsteps_nil
  intro gv w0 hV k0
  rw [show dstsOf _ 6 = [6, 7, 8, 9, 10, 11] by kernel_rfl]
  simp only [List.foldl_cons, List.foldl_nil, List.setIfInBounds_toArray, List.set_cons_succ, List.set_cons_zero, List.drop_succ_cons, List.drop_zero]
  rw [show gv 9 = v from hV 3 9 (by kernel_rfl)]
  rw [show gv 10 = .int .i64 (n : Int) from hV 4 10 (by kernel_rfl)]
  rw [show gv 11 = .int .i64 0 from hV 5 11 (by kernel_rfl)]
  clear hV
  refine wpList_nil ?_
  go_wp2_with fail
  go_loopw [3, 11] (fun t q wr => ∃ (i : Nat) (s : Int), i ≤ n ∧ q = .int .i64 i ∧ t = .int .i64 s ∧ Hid (s = seenM (X.take i)) ∧ Kept w wr) (fun _ q _ => n - (intOf q).toNat)
  case atStart => exact ⟨0, 0, Nat.zero_le _, rfl, rfl, by show _ = _; rw [List.take_zero]; rfl, k0⟩
  case round =>
    obtain ⟨i, s, hi, rfl, rfl, HSM, hkr⟩ := hrel
    by_cases hlt : i < n
    · skip
      obtain ⟨g, off, c, rfl⟩ := HS.out.some_ (by omega)
      obtain ⟨e, he⟩ : ∃ e, X[i]? = some e := ⟨X[i]'(by omega), List.getElem?_eq_getElem (by omega)⟩
      have HE : Hid (wr.rangeAt g (off + i * 10) e.cells) := range_kept (HS.out.rng i e he) hkr
      have HEI := Lib.hid he
      clear he
      go_upto_region 4 with fail
      refine wp_text 3 [.eq (.pointer (some ⟨g, off + i * 10, none⟩)), .eq (e.v), .fresh wr.heap.size 61 zeroE.cells] rfl (by kernel_rfl) ?_ ?_
      · refine fsteps_cons 1 rfl (fun a u hE hD hk => f_val (o := ⟨some 13, _, _, _, _, _⟩) (.pointer (some ⟨g, off + i * 10, none⟩)) rfl (wanted_none rfl _) (exec_ixo slE (.tmp 9) (.tmp 11) (g) (off) n c i (off + i * 10) ((i : Int)) rfl (hE 9 (.slice (some ⟨g, off, none⟩) n c) (by kernel_rfl) (by kernel_rfl)) (hE 11 (.int .i64 (i : Int)) (by kernel_rfl) (by kernel_rfl)) (by first | rfl | omega) (hlt) (by first | rfl | omega)) rfl) ?_
        refine fsteps_cons 2 rfl (fun a u hE hD hk => f_val (o := ⟨some 14, _, _, _, _, _⟩) (e.v) rfl (wanted_none rfl _) (exec_ldS 61 _ (.tmp 13) (g) (off + i * 10) (e.cells) rfl (hD 0 13 (by kernel_rfl)) (range_kept HE.out hk) Try.underlying61 (by rw [e.len10]; exact szE)) rfl) ?_
        refine fsteps_cons 3 rfl (fun a u hE hD hk => f_new (o := ⟨some 5, _, _, _, _, _⟩) (.pointer (some ⟨u.heap.size, 0, none⟩)) _ rfl (wanted_none rfl _) (exec_alc 61 zeroE.cells rfl zE) ⟨_, rfl, hk.size, Blk.new u _ _⟩ ((Keep.refl _ u).alloc _)) ?_
        exact fsteps_nil
      intro gv w1 hV k1
      rw [show dstsOf _ 3 = [13, 14, 5] by kernel_rfl]
      simp only [List.foldl_cons, List.foldl_nil, List.setIfInBounds_toArray, List.set_cons_succ, List.set_cons_zero, List.drop_succ_cons, List.drop_zero]
      have hv5 : (.fresh wr.heap.size 61 zeroE.cells : Kn).p (gv 5) w1 := hV 2 5 (by kernel_rfl)
      generalize gv 5 = v5 at hv5 ⊢
      rw [show gv 14 = e.v from hV 1 14 (by kernel_rfl)]
      clear hV
      obtain ⟨b5, rfl, hb5, hB5⟩ := hv5
      refine l_setS (o := ⟨none, _, _, _, _, _⟩) 61 b5 61 zeroE.cells e.cells (.tmp 5) (.tmp 14) rfl rfl (by kernel_rfl) (by kernel_rfl) hB5 (by rw [Ent.len10]; exact szE) (by rw [Ent.len10, Ent.len10]) (Ent.one _) ?_
      intro w2 hB6 hk2 hs2
      simp only [Act.put]
      refine wpList_nil ?_
      have kw2 : Kept wr w2 := k1.trans' hk2 (by omega)
      have HB6 := Lib.hid (blk_range hB6)
      clear hB5 hB6 hk2 HE k1
      obtain ⟨q1, q2, q3, q4⟩ := seenM_le HX.out.ok i e HEI.out
      have q5 := HX.out.few
      rw [← HSM.out] at q1 q2
      have hr1 : 0 ≤ s := q1
      have hr2 : s + e.n ≤ 100000 := by omega
      have hr3 : 1 ≤ e.n := q4
      have Q2 := Lib.hid q2
      clear q1 q2 q3 q4 q5 HSM
      go_upto_region 5 with fail
      refine wp_text 4 [.eq (.int .i64 s), .eq (.pointer (some ⟨b5, 9, none⟩)), .eq (.int .i64 e.n), .eq (.int .i64 ((s : Int) + (e.n : Int)))] rfl (by kernel_rfl) ?_ ?_
      · refine fsteps_cons 1 rfl (fun a u hE hD hk => f_val (o := ⟨some 15, _, _, _, _, _⟩) (.int .i64 s) rfl (wanted_none rfl _) (exec_move (.tmp 3) (.int .i64 s) rfl (hE 3 (.int .i64 s) (by kernel_rfl) (by kernel_rfl))) rfl) ?_
        refine fsteps_cons 2 rfl (fun a u hE hD hk => f_val (o := ⟨some 16, _, _, _, _, _⟩) (.pointer (some ⟨b5, 9, none⟩)) rfl (wanted_none rfl _) (exec_fldo 61 1 9 (.tmp 5) (b5) (0) (9) rfl (hE 5 (.pointer (some ⟨b5, 0, none⟩)) (by kernel_rfl) (by kernel_rfl)) (by kernel_rfl) rfl) rfl) ?_
        refine fsteps_cons 3 rfl (fun a u hE hD hk => f_val (o := ⟨some 17, _, _, _, _, _⟩) (.int .i64 e.n) rfl (wanted_none rfl _) (exec_loadi 3 Try.underlying3 (.tmp 16) ⟨b5, 9, none⟩ (.int .i64 e.n) rfl (hD 1 16 (by kernel_rfl)) (range_int (range_kept HB6.out hk) 9 _ rfl)) rfl) ?_
        refine fsteps_cons 4 rfl (fun a u hE hD hk => f_val (o := ⟨some 18, _, _, _, _, _⟩) (.int .i64 ((s : Int) + (e.n : Int))) rfl (wanted_none rfl _) (exec_addn (p := (s)) (q := (e.n)) ((s : Int) + (e.n : Int)) rfl (hD 0 15 (by kernel_rfl)) (hD 2 17 (by kernel_rfl)) rfl (by omega) (by omega)) rfl) ?_
        exact fsteps_nil
      intro gv w3 hV k3
      rw [show dstsOf _ 4 = [15, 16, 17, 18] by kernel_rfl]
      simp only [List.foldl_cons, List.foldl_nil, List.setIfInBounds_toArray, List.set_cons_succ, List.set_cons_zero, List.drop_succ_cons, List.drop_zero]
      rw [show gv 18 = .int .i64 ((s : Int) + (e.n : Int)) from hV 3 18 (by kernel_rfl)]
      clear hV
      refine l_val (o := ⟨some 3, _, _, _, _, _⟩) (.int .i64 ((s : Int) + (e.n : Int))) rfl (exec_assign (.tmp 18) (.int .i64 ((s : Int) + (e.n : Int))) rfl (by kernel_rfl)) ?_
      simp only [Act.put, List.setIfInBounds_toArray, List.set_cons_succ, List.set_cons_zero]
      refine wpList_nil ?_
      have kw3 := (hkr.trans kw2).trans k3
      clear hr1 hr2 hr3
      go_wp2
      exact ⟨⟨i + 1, s + e.n, by omega, by go_num, rfl, Q2.out, kw3⟩, by simp [intOf]; omega⟩
    · have HF : Hid (s = seenM X) := by
        show _ = _
        rw [HSM.out, List.take_of_length_le (by rw [HN.out]; omega)]
      clear HSM
      go_wp2
      go_ret
      exact ⟨by rw [← HF.out]; rfl, hkr⟩

set_option maxRecDepth 100000 in
set_option maxHeartbeats 800000 in
theorem whole_any (w : World) (F : Nat → Prop) (p : Nat) (X : List Ent) (h : Lvl 58 61 w F p X) (hX : Good X) : Gives 25 #[.pointer (some ⟨p, 0, none⟩)] w (.eq (.int .i64 (wholeM X))) := by
  refine gives_eq ?_
  obtain ⟨h1, h2, v, hB, hS, h5⟩ := h
  have hlen := hX.len
  have HB := Lib.hid hB
  have HS := Lib.hid hS
  have HX := Lib.hid hX
  clear hB hS h5 h1 h2 hX
  obtain ⟨n, hn⟩ : ∃ n, X.length = n := ⟨_, rfl⟩
  rw [hn] at HS hlen
  have HN := Lib.hid hn
  go_enter Try.func25, Try.ntmps25
  go_upto_region 2 with fail
  refine wp_text 6 [.eq (.pointer (some ⟨p, 0, none⟩)), .eq (.pointer (some ⟨p, 0, none⟩)), .eq (.pointer (some ⟨p, 1, none⟩)), .eq (v), .eq (.int .i64 (n : Int)), .eq (.int .i64 0)] rfl (by kernel_rfl) ?_ ?_
  · refine fsteps_cons 1 rfl (fun a u hE hD hk => f_val (o := ⟨some 6, _, _, _, _, _⟩) (.pointer (some ⟨p, 0, none⟩)) rfl (wanted_none rfl _) (exec_move (.tmp 0) (.pointer (some ⟨p, 0, none⟩)) rfl (hE 0 (.pointer (some ⟨p, 0, none⟩)) (by kernel_rfl) (by kernel_rfl))) rfl) ?_
    refine fsteps_cons 2 rfl (fun a u hE hD hk => f_val (o := ⟨some 7, _, _, _, _, _⟩) (.pointer (some ⟨p, 0, none⟩)) rfl (wanted_none rfl _) (exec_nilp (.tmp 6) ⟨p, 0, none⟩ rfl (hD 0 6 (by kernel_rfl))) rfl) ?_
    refine fsteps_cons 3 rfl (fun a u hE hD hk => f_val (o := ⟨some 8, _, _, _, _, _⟩) (.pointer (some ⟨p, 1, none⟩)) rfl (wanted_none rfl _) (exec_fldo 58 1 1 (.tmp 7) (p) (0) (1) rfl (hD 1 7 (by kernel_rfl)) (by kernel_rfl) rfl) rfl) ?_
    refine fsteps_cons 4 rfl (fun a u hE hD hk => f_val (o := ⟨some 9, _, _, _, _, _⟩) (v) rfl (wanted_none rfl _) (exec_ldv 56 _ Try.underlying56 (.tmp 8) ⟨p, 1, none⟩ (v) rfl (hD 2 8 (by kernel_rfl)) (by rw [(HB.out.kept hk).cell]; rfl)) rfl) ?_
    refine fsteps_cons 5 rfl (fun a u hE hD hk => f_val (o := ⟨some 10, _, _, _, _, _⟩) (.int .i64 (n : Int)) rfl (wanted_none rfl _) (exec_lenS (.tmp 9) slE (v) (n) _ _ rfl (hD 3 9 (by kernel_rfl)) HS.out) rfl) ?_
    refine fsteps_cons 6 rfl (fun a u hE hD hk => f_val (o := ⟨some 11, _, _, _, _, _⟩) (.int .i64 0) rfl (wanted_none rfl _) (exec_move (.const (.int .i64 0)) (.int .i64 0) rfl rfl) rfl) ?_
    exact fsteps_nil
  intro gv w0 hV k0
  rw [show dstsOf _ 6 = [6, 7, 8, 9, 10, 11] by kernel_rfl]
  simp only [List.foldl_cons, List.foldl_nil, List.setIfInBounds_toArray, List.set_cons_succ, List.set_cons_zero, List.drop_succ_cons, List.drop_zero]
  rw [show gv 9 = v from hV 3 9 (by kernel_rfl)]
  rw [show gv 10 = .int .i64 (n : Int) from hV 4 10 (by kernel_rfl)]
  rw [show gv 11 = .int .i64 0 from hV 5 11 (by kernel_rfl)]
  clear hV
  refine wpList_nil ?_
  go_wp2_with fail
  go_loopw [3, 11] (fun t q wr => ∃ (i : Nat) (s : Int), i ≤ n ∧ q = .int .i64 i ∧ t = .int .i64 s ∧ Hid (s = wholeM (X.take i)) ∧ Kept w wr) (fun _ q _ => n - (intOf q).toNat)
  case atStart => exact ⟨0, 0, Nat.zero_le _, rfl, rfl, by show _ = _; rw [List.take_zero]; rfl, k0⟩
  case round =>
    obtain ⟨i, s, hi, rfl, rfl, HSM, hkr⟩ := hrel
    by_cases hlt : i < n
    · skip
      obtain ⟨g, off, c, rfl⟩ := HS.out.some_ (by omega)
      obtain ⟨e, he⟩ : ∃ e, X[i]? = some e := ⟨X[i]'(by omega), List.getElem?_eq_getElem (by omega)⟩
      have HE : Hid (wr.rangeAt g (off + i * 10) e.cells) := range_kept (HS.out.rng i e he) hkr
      have HEI := Lib.hid he
      clear he
      go_upto_region 4 with fail
      refine wp_text 3 [.eq (.pointer (some ⟨g, off + i * 10, none⟩)), .eq (e.v), .fresh wr.heap.size 61 zeroE.cells] rfl (by kernel_rfl) ?_ ?_
      · refine fsteps_cons 1 rfl (fun a u hE hD hk => f_val (o := ⟨some 13, _, _, _, _, _⟩) (.pointer (some ⟨g, off + i * 10, none⟩)) rfl (wanted_none rfl _) (exec_ixo slE (.tmp 9) (.tmp 11) (g) (off) n c i (off + i * 10) ((i : Int)) rfl (hE 9 (.slice (some ⟨g, off, none⟩) n c) (by kernel_rfl) (by kernel_rfl)) (hE 11 (.int .i64 (i : Int)) (by kernel_rfl) (by kernel_rfl)) (by first | rfl | omega) (hlt) (by first | rfl | omega)) rfl) ?_
        refine fsteps_cons 2 rfl (fun a u hE hD hk => f_val (o := ⟨some 14, _, _, _, _, _⟩) (e.v) rfl (wanted_none rfl _) (exec_ldS 61 _ (.tmp 13) (g) (off + i * 10) (e.cells) rfl (hD 0 13 (by kernel_rfl)) (range_kept HE.out hk) Try.underlying61 (by rw [e.len10]; exact szE)) rfl) ?_
        refine fsteps_cons 3 rfl (fun a u hE hD hk => f_new (o := ⟨some 5, _, _, _, _, _⟩) (.pointer (some ⟨u.heap.size, 0, none⟩)) _ rfl (wanted_none rfl _) (exec_alc 61 zeroE.cells rfl zE) ⟨_, rfl, hk.size, Blk.new u _ _⟩ ((Keep.refl _ u).alloc _)) ?_
        exact fsteps_nil
      intro gv w1 hV k1
      rw [show dstsOf _ 3 = [13, 14, 5] by kernel_rfl]
      simp only [List.foldl_cons, List.foldl_nil, List.setIfInBounds_toArray, List.set_cons_succ, List.set_cons_zero, List.drop_succ_cons, List.drop_zero]
      have hv5 : (.fresh wr.heap.size 61 zeroE.cells : Kn).p (gv 5) w1 := hV 2 5 (by kernel_rfl)
      generalize gv 5 = v5 at hv5 ⊢
      rw [show gv 14 = e.v from hV 1 14 (by kernel_rfl)]
      clear hV
      obtain ⟨b5, rfl, hb5, hB5⟩ := hv5
      refine l_setS (o := ⟨none, _, _, _, _, _⟩) 61 b5 61 zeroE.cells e.cells (.tmp 5) (.tmp 14) rfl rfl (by kernel_rfl) (by kernel_rfl) hB5 (by rw [Ent.len10]; exact szE) (by rw [Ent.len10, Ent.len10]) (Ent.one _) ?_
      intro w2 hB6 hk2 hs2
      simp only [Act.put]
      refine wpList_nil ?_
      have kw2 : Kept wr w2 := k1.trans' hk2 (by omega)
      have HB6 := Lib.hid (blk_range hB6)
      clear hB5 hB6 hk2 HE k1
      obtain ⟨q1, q2, q3, q4⟩ := wholeM_le HX.out.ok i e HEI.out
      have q5 := HX.out.few
      rw [← HSM.out] at q1 q2
      have hr1 : 0 ≤ s := q1
      have hr2 : s + e.o.qty ≤ 100000 := by omega
      have hr3 : 1 ≤ e.o.qty := q4
      have Q2 := Lib.hid q2
      clear q1 q2 q3 q4 q5 HSM
      go_upto_region 5 with fail
      refine wp_text 5 [.eq (.int .i64 s), .eq (.pointer (some ⟨b5, 0, none⟩)), .eq (.pointer (some ⟨b5, 6, none⟩)), .eq (.int .i64 e.o.qty), .eq (.int .i64 ((s : Int) + (e.o.qty : Int)))] rfl (by kernel_rfl) ?_ ?_
      · refine fsteps_cons 1 rfl (fun a u hE hD hk => f_val (o := ⟨some 15, _, _, _, _, _⟩) (.int .i64 s) rfl (wanted_none rfl _) (exec_move (.tmp 3) (.int .i64 s) rfl (hE 3 (.int .i64 s) (by kernel_rfl) (by kernel_rfl))) rfl) ?_
        refine fsteps_cons 2 rfl (fun a u hE hD hk => f_val (o := ⟨some 16, _, _, _, _, _⟩) (.pointer (some ⟨b5, 0, none⟩)) rfl (wanted_none rfl _) (exec_fldo 61 0 0 (.tmp 5) (b5) (0) (0) rfl (hE 5 (.pointer (some ⟨b5, 0, none⟩)) (by kernel_rfl) (by kernel_rfl)) (by kernel_rfl) rfl) rfl) ?_
        refine fsteps_cons 3 rfl (fun a u hE hD hk => f_val (o := ⟨some 17, _, _, _, _, _⟩) (.pointer (some ⟨b5, 6, none⟩)) rfl (wanted_none rfl _) (exec_fldo 25 6 6 (.tmp 16) (b5) (0) (6) rfl (hD 1 16 (by kernel_rfl)) (by kernel_rfl) rfl) rfl) ?_
        refine fsteps_cons 4 rfl (fun a u hE hD hk => f_val (o := ⟨some 18, _, _, _, _, _⟩) (.int .i64 e.o.qty) rfl (wanted_none rfl _) (exec_loadi 3 Try.underlying3 (.tmp 17) ⟨b5, 6, none⟩ (.int .i64 e.o.qty) rfl (hD 2 17 (by kernel_rfl)) (range_int (range_kept HB6.out hk) 6 _ rfl)) rfl) ?_
        refine fsteps_cons 5 rfl (fun a u hE hD hk => f_val (o := ⟨some 19, _, _, _, _, _⟩) (.int .i64 ((s : Int) + (e.o.qty : Int))) rfl (wanted_none rfl _) (exec_addn (p := (s)) (q := (e.o.qty)) ((s : Int) + (e.o.qty : Int)) rfl (hD 0 15 (by kernel_rfl)) (hD 3 18 (by kernel_rfl)) rfl (by omega) (by omega)) rfl) ?_
        exact fsteps_nil
      intro gv w3 hV k3
      rw [show dstsOf _ 5 = [15, 16, 17, 18, 19] by kernel_rfl]
      simp only [List.foldl_cons, List.foldl_nil, List.setIfInBounds_toArray, List.set_cons_succ, List.set_cons_zero, List.drop_succ_cons, List.drop_zero]
      rw [show gv 19 = .int .i64 ((s : Int) + (e.o.qty : Int)) from hV 4 19 (by kernel_rfl)]
      clear hV
      refine l_val (o := ⟨some 3, _, _, _, _, _⟩) (.int .i64 ((s : Int) + (e.o.qty : Int))) rfl (exec_assign (.tmp 19) (.int .i64 ((s : Int) + (e.o.qty : Int))) rfl (by kernel_rfl)) ?_
      simp only [Act.put, List.setIfInBounds_toArray, List.set_cons_succ, List.set_cons_zero]
      refine wpList_nil ?_
      have kw3 := (hkr.trans kw2).trans k3
      clear hr1 hr2 hr3
      go_wp2
      exact ⟨⟨i + 1, s + e.o.qty, by omega, by go_num, rfl, Q2.out, kw3⟩, by simp [intOf]; omega⟩
    · have HF : Hid (s = wholeM X) := by
        show _ = _
        rw [HSM.out, List.take_of_length_le (by rw [HN.out]; omega)]
      clear HSM
      go_wp2
      go_ret
      exact ⟨by rw [← HF.out]; rfl, hkr⟩

set_option maxRecDepth 100000 in
set_option maxHeartbeats 800000 in
theorem orders_any (w : World) (F : Nat → Prop) (p : Nat) (X : List Ent) (h : Lvl 58 61 w F p X) (hX : Good X) : Gives 13 #[.pointer (some ⟨p, 0, none⟩)] w (.sl w.heap.size 25 9 X.length (ords (X.map (·.o)))) := by
  obtain ⟨h1, h2, v, hB, hS, h5⟩ := h
  have hlen := hX.len
  have HB := Lib.hid hB
  have HS := Lib.hid hS
  have HX := Lib.hid hX
  clear hB hS h5 h1 h2 hX
  obtain ⟨n, hn⟩ : ∃ n, X.length = n := ⟨_, rfl⟩
  rw [hn] at HS hlen
  have HN := Lib.hid hn
  go_enter Try.func13, Try.ntmps13
  go_upto_region 2 with fail
  refine wp_text 6 [.eq (.pointer (some ⟨p, 0, none⟩)), .eq (.pointer (some ⟨p, 0, none⟩)), .eq (.pointer (some ⟨p, 1, none⟩)), .eq (v), .eq (.int .i64 (n : Int)), .eq (.int .i64 0)] rfl (by kernel_rfl) ?_ ?_
  · refine fsteps_cons 1 rfl (fun a u hE hD hk => f_val (o := ⟨some 6, _, _, _, _, _⟩) (.pointer (some ⟨p, 0, none⟩)) rfl (wanted_none rfl _) (exec_move (.tmp 0) (.pointer (some ⟨p, 0, none⟩)) rfl (hE 0 (.pointer (some ⟨p, 0, none⟩)) (by kernel_rfl) (by kernel_rfl))) rfl) ?_
    refine fsteps_cons 2 rfl (fun a u hE hD hk => f_val (o := ⟨some 7, _, _, _, _, _⟩) (.pointer (some ⟨p, 0, none⟩)) rfl (wanted_none rfl _) (exec_nilp (.tmp 6) ⟨p, 0, none⟩ rfl (hD 0 6 (by kernel_rfl))) rfl) ?_
    refine fsteps_cons 3 rfl (fun a u hE hD hk => f_val (o := ⟨some 8, _, _, _, _, _⟩) (.pointer (some ⟨p, 1, none⟩)) rfl (wanted_none rfl _) (exec_fldo 58 1 1 (.tmp 7) (p) (0) (1) rfl (hD 1 7 (by kernel_rfl)) (by kernel_rfl) rfl) rfl) ?_
    refine fsteps_cons 4 rfl (fun a u hE hD hk => f_val (o := ⟨some 9, _, _, _, _, _⟩) (v) rfl (wanted_none rfl _) (exec_ldv 56 _ Try.underlying56 (.tmp 8) ⟨p, 1, none⟩ (v) rfl (hD 2 8 (by kernel_rfl)) (by rw [(HB.out.kept hk).cell]; rfl)) rfl) ?_
    refine fsteps_cons 5 rfl (fun a u hE hD hk => f_val (o := ⟨some 10, _, _, _, _, _⟩) (.int .i64 (n : Int)) rfl (wanted_none rfl _) (exec_lenS (.tmp 9) slE (v) (n) _ _ rfl (hD 3 9 (by kernel_rfl)) HS.out) rfl) ?_
    refine fsteps_cons 6 rfl (fun a u hE hD hk => f_val (o := ⟨some 11, _, _, _, _, _⟩) (.int .i64 0) rfl (wanted_none rfl _) (exec_move (.const (.int .i64 0)) (.int .i64 0) rfl rfl) rfl) ?_
    exact fsteps_nil
  intro gv w0 hV k0
  rw [show dstsOf _ 6 = [6, 7, 8, 9, 10, 11] by kernel_rfl]
  simp only [List.foldl_cons, List.foldl_nil, List.setIfInBounds_toArray, List.set_cons_succ, List.set_cons_zero, List.drop_succ_cons, List.drop_zero]
  rw [show gv 9 = v from hV 3 9 (by kernel_rfl)]
  rw [show gv 10 = .int .i64 (n : Int) from hV 4 10 (by kernel_rfl)]
  rw [show gv 11 = .int .i64 0 from hV 5 11 (by kernel_rfl)]
  clear hV
  refine wpList_nil ?_
  go_wp2_with fail
  go_loopw [3, 11] (fun t q wr => ∃ (i : Nat), i ≤ n ∧ q = .int .i64 i ∧ Hid ((Kn.sl w.heap.size 25 9 i (ords ((X.take i).map (·.o)))).p t wr) ∧ Kept w wr) (fun _ q _ => n - (intOf q).toNat)
  case atStart => exact ⟨0, Nat.zero_le _, rfl, ⟨by rw [List.take_zero]; exact Sl.nil _ _ _, fun b hb => by simp [Value.ownBlock] at hb⟩, k0⟩
  case round =>
    obtain ⟨i, hi, rfl, HV, hkr⟩ := hrel
    by_cases hlt : i < n
    · skip
      obtain ⟨g, off, c, rfl⟩ := HS.out.some_ (by omega)
      obtain ⟨e, he⟩ : ∃ e, X[i]? = some e := ⟨X[i]'(by omega), List.getElem?_eq_getElem (by omega)⟩
      have HE : Hid (wr.rangeAt g (off + i * 10) e.cells) := range_kept (HS.out.rng i e he) hkr
      have HEI := Lib.hid he
      clear he
      go_upto_region 4 with fail
      refine wp_text 3 [.eq (.pointer (some ⟨g, off + i * 10, none⟩)), .eq (e.v), .fresh wr.heap.size 61 zeroE.cells] rfl (by kernel_rfl) ?_ ?_
      · refine fsteps_cons 1 rfl (fun a u hE hD hk => f_val (o := ⟨some 13, _, _, _, _, _⟩) (.pointer (some ⟨g, off + i * 10, none⟩)) rfl (wanted_none rfl _) (exec_ixo slE (.tmp 9) (.tmp 11) (g) (off) n c i (off + i * 10) ((i : Int)) rfl (hE 9 (.slice (some ⟨g, off, none⟩) n c) (by kernel_rfl) (by kernel_rfl)) (hE 11 (.int .i64 (i : Int)) (by kernel_rfl) (by kernel_rfl)) (by first | rfl | omega) (hlt) (by first | rfl | omega)) rfl) ?_
        refine fsteps_cons 2 rfl (fun a u hE hD hk => f_val (o := ⟨some 14, _, _, _, _, _⟩) (e.v) rfl (wanted_none rfl _) (exec_ldS 61 _ (.tmp 13) (g) (off + i * 10) (e.cells) rfl (hD 0 13 (by kernel_rfl)) (range_kept HE.out hk) Try.underlying61 (by rw [e.len10]; exact szE)) rfl) ?_
        refine fsteps_cons 3 rfl (fun a u hE hD hk => f_new (o := ⟨some 5, _, _, _, _, _⟩) (.pointer (some ⟨u.heap.size, 0, none⟩)) _ rfl (wanted_none rfl _) (exec_alc 61 zeroE.cells rfl zE) ⟨_, rfl, hk.size, Blk.new u _ _⟩ ((Keep.refl _ u).alloc _)) ?_
        exact fsteps_nil
      intro gv w1 hV k1
      rw [show dstsOf _ 3 = [13, 14, 5] by kernel_rfl]
      simp only [List.foldl_cons, List.foldl_nil, List.setIfInBounds_toArray, List.set_cons_succ, List.set_cons_zero, List.drop_succ_cons, List.drop_zero]
      have hv5 : (.fresh wr.heap.size 61 zeroE.cells : Kn).p (gv 5) w1 := hV 2 5 (by kernel_rfl)
      generalize gv 5 = v5 at hv5 ⊢
      rw [show gv 14 = e.v from hV 1 14 (by kernel_rfl)]
      clear hV
      obtain ⟨b5, rfl, hb5, hB5⟩ := hv5
      refine l_setS (o := ⟨none, _, _, _, _, _⟩) 61 b5 61 zeroE.cells e.cells (.tmp 5) (.tmp 14) rfl rfl (by kernel_rfl) (by kernel_rfl) hB5 (by rw [Ent.len10]; exact szE) (by rw [Ent.len10, Ent.len10]) (Ent.one _) ?_
      intro w2 hB6 hk2 hs2
      simp only [Act.put]
      refine wpList_nil ?_
      have kw2 : Kept wr w2 := k1.trans' hk2 (by omega)
      have HB6 := Lib.hid (blk_range hB6)
      clear hB5 hB6 hk2 HE k1
      obtain ⟨v3, hv3⟩ : ∃ v3, v3 = u3 := ⟨_, rfl⟩
      subst hv3
      have HV2 := Lib.hid (HV.out.1.kept kw2)
      have HV3 := Lib.hid HV.out.2
      have s2 := kw2.size
      have s1 := hkr.size
      clear HV
      go_upto_region 5 with fail
      refine wp_text 4 [.eq (v3), .eq (.pointer (some ⟨b5, 0, none⟩)), .eq (e.o.v), .sl w2.heap.size 25 9 1 e.o.cells] rfl (by kernel_rfl) ?_ ?_
      · refine fsteps_cons 1 rfl (fun a u hE hD hk => f_val (o := ⟨some 15, _, _, _, _, _⟩) (v3) rfl (wanted_none rfl _) (exec_move (.tmp 3) (v3) rfl (hE 3 (v3) (by kernel_rfl) (by kernel_rfl))) rfl) ?_
        refine fsteps_cons 2 rfl (fun a u hE hD hk => f_val (o := ⟨some 16, _, _, _, _, _⟩) (.pointer (some ⟨b5, 0, none⟩)) rfl (wanted_none rfl _) (exec_fldo 61 0 0 (.tmp 5) (b5) (0) (0) rfl (hE 5 (.pointer (some ⟨b5, 0, none⟩)) (by kernel_rfl) (by kernel_rfl)) (by kernel_rfl) rfl) rfl) ?_
        refine fsteps_cons 3 rfl (fun a u hE hD hk => f_val (o := ⟨some 17, _, _, _, _, _⟩) (e.o.v) rfl (wanted_none rfl _) (exec_ldS 25 _ (.tmp 16) (b5) (0) (e.o.cells) rfl (hD 1 16 (by kernel_rfl)) (ent_ord (range_kept HB6.out hk)) Try.underlying25 (by rw [e.o.len9]; exact ord_size)) rfl) ?_
        refine fsteps_cons 4 rfl (fun a u hE hD hk => f_new (o := ⟨some 18, _, _, _, _, _⟩) (.slice (some ⟨u.heap.size, 0, none⟩) 1 1) _ rfl (wanted_none rfl _) (exec_oneS slO (.tmp 17) e.o.cells (by omega) rfl (hD 2 17 (by kernel_rfl)) (e.o.len9)) (sl_one u 25 9 _ w2.heap.size (e.o.len9) (by omega) hk.size) ((Keep.refl _ u).alloc _)) ?_
        exact fsteps_nil
      intro gv w3 hV k3
      rw [show dstsOf _ 4 = [15, 16, 17, 18] by kernel_rfl]
      simp only [List.foldl_cons, List.foldl_nil, List.setIfInBounds_toArray, List.set_cons_succ, List.set_cons_zero, List.drop_succ_cons, List.drop_zero]
      rw [show gv 15 = v3 from hV 0 15 (by kernel_rfl)]
      have hv18 : (.sl w2.heap.size 25 9 1 e.o.cells : Kn).p (gv 18) w3 := hV 3 18 (by kernel_rfl)
      generalize gv 18 = v18 at hv18 ⊢
      clear hV
      have s3 := k3.size
      obtain ⟨v4, w4, hr4, hs4, hk4, ho4⟩ := run_append_sl slO _ w3 v3 v18 i 1 _ _ (HV2.out.kept k3) hv18.1 (Ord.one1 _) (by unfold maxLen; omega) (by omega)
      refine l_new (o := ⟨some 19, _, _, _, _, _⟩) v4 w4 rfl (exec_appS slO (.tmp 15) (.tmp 18) v3 v18 rfl (by kernel_rfl) (by kernel_rfl) v4 w4 hr4) ?_
      simp only [Act.put, List.setIfInBounds_toArray, List.set_cons_succ, List.set_cons_zero]
      refine l_val (o := ⟨some 3, _, _, _, _, _⟩) (v4) rfl (exec_assign (.tmp 19) (v4) rfl (by kernel_rfl)) ?_
      simp only [Act.put, List.setIfInBounds_toArray, List.set_cons_succ, List.set_cons_zero]
      refine wpList_nil ?_
      have kw4 : Kept w w4 := by
        refine Keep.trans ((hkr.trans kw2).trans k3) hk4 (fun b hb hb' => ?_)
        have := HV3.out b hb'
        omega
      have HV4 : Hid ((Kn.sl w.heap.size 25 9 (i + 1) (ords ((X.take (i + 1)).map (·.o)))).p v4 w4) := by
        refine ⟨?_, fun b hb => ?_⟩
        · rw [List.take_add_one, HEI.out, Option.toList_some, List.map_append, List.map_cons, List.map_nil, ords_snoc]
          exact hs4
        · rcases ho4 b hb with h | h
          · exact HV3.out b h
          · omega
      clear hs4 hk4 ho4 HV2 HV3 hv18 hr4
      go_wp2
      exact ⟨⟨i + 1, by omega, by go_num, HV4, kw4⟩, by simp [intOf]; omega⟩
    · obtain ⟨v3, hv3⟩ : ∃ v3, v3 = u3 := ⟨_, rfl⟩
      subst hv3
      have HF : Hid ((Kn.sl w.heap.size 25 9 X.length (ords (X.map (·.o)))).p v3 wr) := by
        have := HV.out
        rw [show i = n by omega, List.take_of_length_le (by rw [HN.out]; omega)] at this
        rw [HN.out]
        exact this
      clear HV
      go_wp2
      go_ret
      exact ⟨v3, rfl, HF.out, hkr⟩

set_option maxRecDepth 100000 in
set_option maxHeartbeats 800000 in
theorem rseen_any (w : World) (F : Nat → Prop) (p : Nat) (X : List Ent) (h : Lvl 42 64 w F p X) (hX : Good X) : Gives 24 #[.pointer (some ⟨p, 0, none⟩)] w (.eq (.int .i64 (seenM X))) := by
  refine gives_eq ?_
  obtain ⟨h1, h2, v, hB, hS, h5⟩ := h
  have hlen := hX.len
  have HB := Lib.hid hB
  have HS := Lib.hid hS
  have HX := Lib.hid hX
  clear hB hS h5 h1 h2 hX
  obtain ⟨n, hn⟩ : ∃ n, X.length = n := ⟨_, rfl⟩
  rw [hn] at HS hlen
  have HN := Lib.hid hn
  go_enter Try.func24, Try.ntmps24
  go_upto_region 2 with fail
  refine wp_text 6 [.eq (.pointer (some ⟨p, 0, none⟩)), .eq (.pointer (some ⟨p, 0, none⟩)), .eq (.pointer (some ⟨p, 1, none⟩)), .eq (v), .eq (.int .i64 (n : Int)), .eq (.int .i64 0)] rfl (by kernel_rfl) ?_ ?_
  · refine fsteps_cons 1 rfl (fun a u hE hD hk => f_val (o := ⟨some 6, _, _, _, _, _⟩) (.pointer (some ⟨p, 0, none⟩)) rfl (wanted_none rfl _) (exec_move (.tmp 0) (.pointer (some ⟨p, 0, none⟩)) rfl (hE 0 (.pointer (some ⟨p, 0, none⟩)) (by kernel_rfl) (by kernel_rfl))) rfl) ?_
    refine fsteps_cons 2 rfl (fun a u hE hD hk => f_val (o := ⟨some 7, _, _, _, _, _⟩) (.pointer (some ⟨p, 0, none⟩)) rfl (wanted_none rfl _) (exec_nilp (.tmp 6) ⟨p, 0, none⟩ rfl (hD 0 6 (by kernel_rfl))) rfl) ?_
    refine fsteps_cons 3 rfl (fun a u hE hD hk => f_val (o := ⟨some 8, _, _, _, _, _⟩) (.pointer (some ⟨p, 1, none⟩)) rfl (wanted_none rfl _) (exec_fldo 42 1 1 (.tmp 7) (p) (0) (1) rfl (hD 1 7 (by kernel_rfl)) (by kernel_rfl) rfl) rfl) ?_
    refine fsteps_cons 4 rfl (fun a u hE hD hk => f_val (o := ⟨some 9, _, _, _, _, _⟩) (v) rfl (wanted_none rfl _) (exec_ldv 40 _ Try.underlying40 (.tmp 8) ⟨p, 1, none⟩ (v) rfl (hD 2 8 (by kernel_rfl)) (by rw [(HB.out.kept hk).cell]; rfl)) rfl) ?_
    refine fsteps_cons 5 rfl (fun a u hE hD hk => f_val (o := ⟨some 10, _, _, _, _, _⟩) (.int .i64 (n : Int)) rfl (wanted_none rfl _) (exec_lenS (.tmp 9) slR (v) (n) _ _ rfl (hD 3 9 (by kernel_rfl)) HS.out) rfl) ?_
    refine fsteps_cons 6 rfl (fun a u hE hD hk => f_val (o := ⟨some 11, _, _, _, _, _⟩) (.int .i64 0) rfl (wanted_none rfl _) (exec_move (.const (.int .i64 0)) (.int .i64 0) rfl rfl) rfl) ?_
    exact fsteps_nil
  intro gv w0 hV k0
  rw [show dstsOf _ 6 = [6, 7, 8, 9, 10, 11] by kernel_rfl]
  simp only [List.foldl_cons, List.foldl_nil, List.setIfInBounds_toArray, List.set_cons_succ, List.set_cons_zero, List.drop_succ_cons, List.drop_zero]
  rw [show gv 9 = v from hV 3 9 (by kernel_rfl)]
  rw [show gv 10 = .int .i64 (n : Int) from hV 4 10 (by kernel_rfl)]
  rw [show gv 11 = .int .i64 0 from hV 5 11 (by kernel_rfl)]
  clear hV
  refine wpList_nil ?_
  go_wp2_with fail
  go_loopw [3, 11] (fun t q wr => ∃ (i : Nat) (s : Int), i ≤ n ∧ q = .int .i64 i ∧ t = .int .i64 s ∧ Hid (s = seenM (X.take i)) ∧ Kept w wr) (fun _ q _ => n - (intOf q).toNat)
  case atStart => exact ⟨0, 0, Nat.zero_le _, rfl, rfl, by show _ = _; rw [List.take_zero]; rfl, k0⟩
  case round =>
    obtain ⟨i, s, hi, rfl, rfl, HSM, hkr⟩ := hrel
    by_cases hlt : i < n
    · skip
      obtain ⟨g, off, c, rfl⟩ := HS.out.some_ (by omega)
      obtain ⟨e, he⟩ : ∃ e, X[i]? = some e := ⟨X[i]'(by omega), List.getElem?_eq_getElem (by omega)⟩
      have HE : Hid (wr.rangeAt g (off + i * 10) e.cells) := range_kept (HS.out.rng i e he) hkr
      have HEI := Lib.hid he
      clear he
      go_upto_region 4 with fail
      refine wp_text 3 [.eq (.pointer (some ⟨g, off + i * 10, none⟩)), .eq (e.v), .fresh wr.heap.size 64 zeroE.cells] rfl (by kernel_rfl) ?_ ?_
      · refine fsteps_cons 1 rfl (fun a u hE hD hk => f_val (o := ⟨some 13, _, _, _, _, _⟩) (.pointer (some ⟨g, off + i * 10, none⟩)) rfl (wanted_none rfl _) (exec_ixo slR (.tmp 9) (.tmp 11) (g) (off) n c i (off + i * 10) ((i : Int)) rfl (hE 9 (.slice (some ⟨g, off, none⟩) n c) (by kernel_rfl) (by kernel_rfl)) (hE 11 (.int .i64 (i : Int)) (by kernel_rfl) (by kernel_rfl)) (by first | rfl | omega) (hlt) (by first | rfl | omega)) rfl) ?_
        refine fsteps_cons 2 rfl (fun a u hE hD hk => f_val (o := ⟨some 14, _, _, _, _, _⟩) (e.v) rfl (wanted_none rfl _) (exec_ldS 64 _ (.tmp 13) (g) (off + i * 10) (e.cells) rfl (hD 0 13 (by kernel_rfl)) (range_kept HE.out hk) Try.underlying64 (by rw [e.len10]; exact szR)) rfl) ?_
        refine fsteps_cons 3 rfl (fun a u hE hD hk => f_new (o := ⟨some 5, _, _, _, _, _⟩) (.pointer (some ⟨u.heap.size, 0, none⟩)) _ rfl (wanted_none rfl _) (exec_alc 64 zeroE.cells rfl zR) ⟨_, rfl, hk.size, Blk.new u _ _⟩ ((Keep.refl _ u).alloc _)) ?_
        exact fsteps_nil
      intro gv w1 hV k1
      rw [show dstsOf _ 3 = [13, 14, 5] by kernel_rfl]
      simp only [List.foldl_cons, List.foldl_nil, List.setIfInBounds_toArray, List.set_cons_succ, List.set_cons_zero, List.drop_succ_cons, List.drop_zero]
      have hv5 : (.fresh wr.heap.size 64 zeroE.cells : Kn).p (gv 5) w1 := hV 2 5 (by kernel_rfl)
      generalize gv 5 = v5 at hv5 ⊢
      rw [show gv 14 = e.v from hV 1 14 (by kernel_rfl)]
      clear hV
      obtain ⟨b5, rfl, hb5, hB5⟩ := hv5
      refine l_setS (o := ⟨none, _, _, _, _, _⟩) 64 b5 64 zeroE.cells e.cells (.tmp 5) (.tmp 14) rfl rfl (by kernel_rfl) (by kernel_rfl) hB5 (by rw [Ent.len10]; exact szR) (by rw [Ent.len10, Ent.len10]) (Ent.one _) ?_
      intro w2 hB6 hk2 hs2
      simp only [Act.put]
      refine wpList_nil ?_
      have kw2 : Kept wr w2 := k1.trans' hk2 (by omega)
      have HB6 := Lib.hid (blk_range hB6)
      clear hB5 hB6 hk2 HE k1
      obtain ⟨q1, q2, q3, q4⟩ := seenM_le HX.out.ok i e HEI.out
      have q5 := HX.out.few
      rw [← HSM.out] at q1 q2
      have hr1 : 0 ≤ s := q1
      have hr2 : s + e.n ≤ 100000 := by omega
      have hr3 : 1 ≤ e.n := q4
      have Q2 := Lib.hid q2
      clear q1 q2 q3 q4 q5 HSM
      go_upto_region 5 with fail
      refine wp_text 4 [.eq (.int .i64 s), .eq (.pointer (some ⟨b5, 9, none⟩)), .eq (.int .i64 e.n), .eq (.int .i64 ((s : Int) + (e.n : Int)))] rfl (by kernel_rfl) ?_ ?_
      · refine fsteps_cons 1 rfl (fun a u hE hD hk => f_val (o := ⟨some 15, _, _, _, _, _⟩) (.int .i64 s) rfl (wanted_none rfl _) (exec_move (.tmp 3) (.int .i64 s) rfl (hE 3 (.int .i64 s) (by kernel_rfl) (by kernel_rfl))) rfl) ?_
        refine fsteps_cons 2 rfl (fun a u hE hD hk => f_val (o := ⟨some 16, _, _, _, _, _⟩) (.pointer (some ⟨b5, 9, none⟩)) rfl (wanted_none rfl _) (exec_fldo 64 1 9 (.tmp 5) (b5) (0) (9) rfl (hE 5 (.pointer (some ⟨b5, 0, none⟩)) (by kernel_rfl) (by kernel_rfl)) (by kernel_rfl) rfl) rfl) ?_
        refine fsteps_cons 3 rfl (fun a u hE hD hk => f_val (o := ⟨some 17, _, _, _, _, _⟩) (.int .i64 e.n) rfl (wanted_none rfl _) (exec_loadi 3 Try.underlying3 (.tmp 16) ⟨b5, 9, none⟩ (.int .i64 e.n) rfl (hD 1 16 (by kernel_rfl)) (range_int (range_kept HB6.out hk) 9 _ rfl)) rfl) ?_
        refine fsteps_cons 4 rfl (fun a u hE hD hk => f_val (o := ⟨some 18, _, _, _, _, _⟩) (.int .i64 ((s : Int) + (e.n : Int))) rfl (wanted_none rfl _) (exec_addn (p := (s)) (q := (e.n)) ((s : Int) + (e.n : Int)) rfl (hD 0 15 (by kernel_rfl)) (hD 2 17 (by kernel_rfl)) rfl (by omega) (by omega)) rfl) ?_
        exact fsteps_nil
      intro gv w3 hV k3
      rw [show dstsOf _ 4 = [15, 16, 17, 18] by kernel_rfl]
      simp only [List.foldl_cons, List.foldl_nil, List.setIfInBounds_toArray, List.set_cons_succ, List.set_cons_zero, List.drop_succ_cons, List.drop_zero]
      rw [show gv 18 = .int .i64 ((s : Int) + (e.n : Int)) from hV 3 18 (by kernel_rfl)]
      clear hV
      refine l_val (o := ⟨some 3, _, _, _, _, _⟩) (.int .i64 ((s : Int) + (e.n : Int))) rfl (exec_assign (.tmp 18) (.int .i64 ((s : Int) + (e.n : Int))) rfl (by kernel_rfl)) ?_
      simp only [Act.put, List.setIfInBounds_toArray, List.set_cons_succ, List.set_cons_zero]
      refine wpList_nil ?_
      have kw3 := (hkr.trans kw2).trans k3
      clear hr1 hr2 hr3
      go_wp2
      exact ⟨⟨i + 1, s + e.n, by omega, by go_num, rfl, Q2.out, kw3⟩, by simp [intOf]; omega⟩
    · have HF : Hid (s = seenM X) := by
        show _ = _
        rw [HSM.out, List.take_of_length_le (by rw [HN.out]; omega)]
      clear HSM
      go_wp2
      go_ret
      exact ⟨by rw [← HF.out]; rfl, hkr⟩

set_option maxRecDepth 100000 in
set_option maxHeartbeats 800000 in
theorem rwhole_any (w : World) (F : Nat → Prop) (p : Nat) (X : List Ent) (h : Lvl 42 64 w F p X) (hX : Good X) : Gives 26 #[.pointer (some ⟨p, 0, none⟩)] w (.eq (.int .i64 (wholeM X))) := by
  refine gives_eq ?_
  obtain ⟨h1, h2, v, hB, hS, h5⟩ := h
  have hlen := hX.len
  have HB := Lib.hid hB
  have HS := Lib.hid hS
  have HX := Lib.hid hX
  clear hB hS h5 h1 h2 hX
  obtain ⟨n, hn⟩ : ∃ n, X.length = n := ⟨_, rfl⟩
  rw [hn] at HS hlen
  have HN := Lib.hid hn
  go_enter Try.func26, Try.ntmps26
  go_upto_region 2 with fail
  refine wp_text 6 [.eq (.pointer (some ⟨p, 0, none⟩)), .eq (.pointer (some ⟨p, 0, none⟩)), .eq (.pointer (some ⟨p, 1, none⟩)), .eq (v), .eq (.int .i64 (n : Int)), .eq (.int .i64 0)] rfl (by kernel_rfl) ?_ ?_
  · refine fsteps_cons 1 rfl (fun a u hE hD hk => f_val (o := ⟨some 6, _, _, _, _, _⟩) (.pointer (some ⟨p, 0, none⟩)) rfl (wanted_none rfl _) (exec_move (.tmp 0) (.pointer (some ⟨p, 0, none⟩)) rfl (hE 0 (.pointer (some ⟨p, 0, none⟩)) (by kernel_rfl) (by kernel_rfl))) rfl) ?_
    refine fsteps_cons 2 rfl (fun a u hE hD hk => f_val (o := ⟨some 7, _, _, _, _, _⟩) (.pointer (some ⟨p, 0, none⟩)) rfl (wanted_none rfl _) (exec_nilp (.tmp 6) ⟨p, 0, none⟩ rfl (hD 0 6 (by kernel_rfl))) rfl) ?_
    refine fsteps_cons 3 rfl (fun a u hE hD hk => f_val (o := ⟨some 8, _, _, _, _, _⟩) (.pointer (some ⟨p, 1, none⟩)) rfl (wanted_none rfl _) (exec_fldo 42 1 1 (.tmp 7) (p) (0) (1) rfl (hD 1 7 (by kernel_rfl)) (by kernel_rfl) rfl) rfl) ?_
    refine fsteps_cons 4 rfl (fun a u hE hD hk => f_val (o := ⟨some 9, _, _, _, _, _⟩) (v) rfl (wanted_none rfl _) (exec_ldv 40 _ Try.underlying40 (.tmp 8) ⟨p, 1, none⟩ (v) rfl (hD 2 8 (by kernel_rfl)) (by rw [(HB.out.kept hk).cell]; rfl)) rfl) ?_
    refine fsteps_cons 5 rfl (fun a u hE hD hk => f_val (o := ⟨some 10, _, _, _, _, _⟩) (.int .i64 (n : Int)) rfl (wanted_none rfl _) (exec_lenS (.tmp 9) slR (v) (n) _ _ rfl (hD 3 9 (by kernel_rfl)) HS.out) rfl) ?_
    refine fsteps_cons 6 rfl (fun a u hE hD hk => f_val (o := ⟨some 11, _, _, _, _, _⟩) (.int .i64 0) rfl (wanted_none rfl _) (exec_move (.const (.int .i64 0)) (.int .i64 0) rfl rfl) rfl) ?_
    exact fsteps_nil
  intro gv w0 hV k0
  rw [show dstsOf _ 6 = [6, 7, 8, 9, 10, 11] by kernel_rfl]
  simp only [List.foldl_cons, List.foldl_nil, List.setIfInBounds_toArray, List.set_cons_succ, List.set_cons_zero, List.drop_succ_cons, List.drop_zero]
  rw [show gv 9 = v from hV 3 9 (by kernel_rfl)]
  rw [show gv 10 = .int .i64 (n : Int) from hV 4 10 (by kernel_rfl)]
  rw [show gv 11 = .int .i64 0 from hV 5 11 (by kernel_rfl)]
  clear hV
  refine wpList_nil ?_
  go_wp2_with fail
  go_loopw [3, 11] (fun t q wr => ∃ (i : Nat) (s : Int), i ≤ n ∧ q = .int .i64 i ∧ t = .int .i64 s ∧ Hid (s = wholeM (X.take i)) ∧ Kept w wr) (fun _ q _ => n - (intOf q).toNat)
  case atStart => exact ⟨0, 0, Nat.zero_le _, rfl, rfl, by show _ = _; rw [List.take_zero]; rfl, k0⟩
  case round =>
    obtain ⟨i, s, hi, rfl, rfl, HSM, hkr⟩ := hrel
    by_cases hlt : i < n
    · skip
      obtain ⟨g, off, c, rfl⟩ := HS.out.some_ (by omega)
      obtain ⟨e, he⟩ : ∃ e, X[i]? = some e := ⟨X[i]'(by omega), List.getElem?_eq_getElem (by omega)⟩
      have HE : Hid (wr.rangeAt g (off + i * 10) e.cells) := range_kept (HS.out.rng i e he) hkr
      have HEI := Lib.hid he
      clear he
      go_upto_region 4 with fail
      refine wp_text 3 [.eq (.pointer (some ⟨g, off + i * 10, none⟩)), .eq (e.v), .fresh wr.heap.size 64 zeroE.cells] rfl (by kernel_rfl) ?_ ?_
      · refine fsteps_cons 1 rfl (fun a u hE hD hk => f_val (o := ⟨some 13, _, _, _, _, _⟩) (.pointer (some ⟨g, off + i * 10, none⟩)) rfl (wanted_none rfl _) (exec_ixo slR (.tmp 9) (.tmp 11) (g) (off) n c i (off + i * 10) ((i : Int)) rfl (hE 9 (.slice (some ⟨g, off, none⟩) n c) (by kernel_rfl) (by kernel_rfl)) (hE 11 (.int .i64 (i : Int)) (by kernel_rfl) (by kernel_rfl)) (by first | rfl | omega) (hlt) (by first | rfl | omega)) rfl) ?_
        refine fsteps_cons 2 rfl (fun a u hE hD hk => f_val (o := ⟨some 14, _, _, _, _, _⟩) (e.v) rfl (wanted_none rfl _) (exec_ldS 64 _ (.tmp 13) (g) (off + i * 10) (e.cells) rfl (hD 0 13 (by kernel_rfl)) (range_kept HE.out hk) Try.underlying64 (by rw [e.len10]; exact szR)) rfl) ?_
        refine fsteps_cons 3 rfl (fun a u hE hD hk => f_new (o := ⟨some 5, _, _, _, _, _⟩) (.pointer (some ⟨u.heap.size, 0, none⟩)) _ rfl (wanted_none rfl _) (exec_alc 64 zeroE.cells rfl zR) ⟨_, rfl, hk.size, Blk.new u _ _⟩ ((Keep.refl _ u).alloc _)) ?_
        exact fsteps_nil
      intro gv w1 hV k1
      rw [show dstsOf _ 3 = [13, 14, 5] by kernel_rfl]
      simp only [List.foldl_cons, List.foldl_nil, List.setIfInBounds_toArray, List.set_cons_succ, List.set_cons_zero, List.drop_succ_cons, List.drop_zero]
      have hv5 : (.fresh wr.heap.size 64 zeroE.cells : Kn).p (gv 5) w1 := hV 2 5 (by kernel_rfl)
      generalize gv 5 = v5 at hv5 ⊢
      rw [show gv 14 = e.v from hV 1 14 (by kernel_rfl)]
      clear hV
      obtain ⟨b5, rfl, hb5, hB5⟩ := hv5
      refine l_setS (o := ⟨none, _, _, _, _, _⟩) 64 b5 64 zeroE.cells e.cells (.tmp 5) (.tmp 14) rfl rfl (by kernel_rfl) (by kernel_rfl) hB5 (by rw [Ent.len10]; exact szR) (by rw [Ent.len10, Ent.len10]) (Ent.one _) ?_
      intro w2 hB6 hk2 hs2
      simp only [Act.put]
      refine wpList_nil ?_
      have kw2 : Kept wr w2 := k1.trans' hk2 (by omega)
      have HB6 := Lib.hid (blk_range hB6)
      clear hB5 hB6 hk2 HE k1
      obtain ⟨q1, q2, q3, q4⟩ := wholeM_le HX.out.ok i e HEI.out
      have q5 := HX.out.few
      rw [← HSM.out] at q1 q2
      have hr1 : 0 ≤ s := q1
      have hr2 : s + e.o.qty ≤ 100000 := by omega
      have hr3 : 1 ≤ e.o.qty := q4
      have Q2 := Lib.hid q2
      clear q1 q2 q3 q4 q5 HSM
      go_upto_region 5 with fail
      refine wp_text 5 [.eq (.int .i64 s), .eq (.pointer (some ⟨b5, 0, none⟩)), .eq (.pointer (some ⟨b5, 6, none⟩)), .eq (.int .i64 e.o.qty), .eq (.int .i64 ((s : Int) + (e.o.qty : Int)))] rfl (by kernel_rfl) ?_ ?_
      · refine fsteps_cons 1 rfl (fun a u hE hD hk => f_val (o := ⟨some 15, _, _, _, _, _⟩) (.int .i64 s) rfl (wanted_none rfl _) (exec_move (.tmp 3) (.int .i64 s) rfl (hE 3 (.int .i64 s) (by kernel_rfl) (by kernel_rfl))) rfl) ?_
        refine fsteps_cons 2 rfl (fun a u hE hD hk => f_val (o := ⟨some 16, _, _, _, _, _⟩) (.pointer (some ⟨b5, 0, none⟩)) rfl (wanted_none rfl _) (exec_fldo 64 0 0 (.tmp 5) (b5) (0) (0) rfl (hE 5 (.pointer (some ⟨b5, 0, none⟩)) (by kernel_rfl) (by kernel_rfl)) (by kernel_rfl) rfl) rfl) ?_
        refine fsteps_cons 3 rfl (fun a u hE hD hk => f_val (o := ⟨some 17, _, _, _, _, _⟩) (.pointer (some ⟨b5, 6, none⟩)) rfl (wanted_none rfl _) (exec_fldo 25 6 6 (.tmp 16) (b5) (0) (6) rfl (hD 1 16 (by kernel_rfl)) (by kernel_rfl) rfl) rfl) ?_
        refine fsteps_cons 4 rfl (fun a u hE hD hk => f_val (o := ⟨some 18, _, _, _, _, _⟩) (.int .i64 e.o.qty) rfl (wanted_none rfl _) (exec_loadi 3 Try.underlying3 (.tmp 17) ⟨b5, 6, none⟩ (.int .i64 e.o.qty) rfl (hD 2 17 (by kernel_rfl)) (range_int (range_kept HB6.out hk) 6 _ rfl)) rfl) ?_
        refine fsteps_cons 5 rfl (fun a u hE hD hk => f_val (o := ⟨some 19, _, _, _, _, _⟩) (.int .i64 ((s : Int) + (e.o.qty : Int))) rfl (wanted_none rfl _) (exec_addn (p := (s)) (q := (e.o.qty)) ((s : Int) + (e.o.qty : Int)) rfl (hD 0 15 (by kernel_rfl)) (hD 3 18 (by kernel_rfl)) rfl (by omega) (by omega)) rfl) ?_
        exact fsteps_nil
      intro gv w3 hV k3
      rw [show dstsOf _ 5 = [15, 16, 17, 18, 19] by kernel_rfl]
      simp only [List.foldl_cons, List.foldl_nil, List.setIfInBounds_toArray, List.set_cons_succ, List.set_cons_zero, List.drop_succ_cons, List.drop_zero]
      rw [show gv 19 = .int .i64 ((s : Int) + (e.o.qty : Int)) from hV 4 19 (by kernel_rfl)]
      clear hV
      refine l_val (o := ⟨some 3, _, _, _, _, _⟩) (.int .i64 ((s : Int) + (e.o.qty : Int))) rfl (exec_assign (.tmp 19) (.int .i64 ((s : Int) + (e.o.qty : Int))) rfl (by kernel_rfl)) ?_
      simp only [Act.put, List.setIfInBounds_toArray, List.set_cons_succ, List.set_cons_zero]
      refine wpList_nil ?_
      have kw3 := (hkr.trans kw2).trans k3
      clear hr1 hr2 hr3
      go_wp2
      exact ⟨⟨i + 1, s + e.o.qty, by omega, by go_num, rfl, Q2.out, kw3⟩, by simp [intOf]; omega⟩
    · have HF : Hid (s = wholeM X) := by
        show _ = _
        rw [HSM.out, List.take_of_length_le (by rw [HN.out]; omega)]
      clear HSM
      go_wp2
      go_ret
      exact ⟨by rw [← HF.out]; rfl, hkr⟩

set_option maxRecDepth 100000 in
set_option maxHeartbeats 800000 in
theorem rorders_any (w : World) (F : Nat → Prop) (p : Nat) (X : List Ent) (h : Lvl 42 64 w F p X) (hX : Good X) : Gives 28 #[.pointer (some ⟨p, 0, none⟩)] w (.sl w.heap.size 25 9 X.length (ords (X.map (·.o)))) := by
  obtain ⟨h1, h2, v, hB, hS, h5⟩ := h
  have hlen := hX.len
  have HB := Lib.hid hB
  have HS := Lib.hid hS
  have HX := Lib.hid hX
  clear hB hS h5 h1 h2 hX
  obtain ⟨n, hn⟩ : ∃ n, X.length = n := ⟨_, rfl⟩
  rw [hn] at HS hlen
  have HN := Lib.hid hn
  go_enter Try.func28, Try.ntmps28
  go_upto_region 2 with fail
  refine wp_text 6 [.eq (.pointer (some ⟨p, 0, none⟩)), .eq (.pointer (some ⟨p, 0, none⟩)), .eq (.pointer (some ⟨p, 1, none⟩)), .eq (v), .eq (.int .i64 (n : Int)), .eq (.int .i64 0)] rfl (by kernel_rfl) ?_ ?_
  · refine fsteps_cons 1 rfl (fun a u hE hD hk => f_val (o := ⟨some 6, _, _, _, _, _⟩) (.pointer (some ⟨p, 0, none⟩)) rfl (wanted_none rfl _) (exec_move (.tmp 0) (.pointer (some ⟨p, 0, none⟩)) rfl (hE 0 (.pointer (some ⟨p, 0, none⟩)) (by kernel_rfl) (by kernel_rfl))) rfl) ?_
    refine fsteps_cons 2 rfl (fun a u hE hD hk => f_val (o := ⟨some 7, _, _, _, _, _⟩) (.pointer (some ⟨p, 0, none⟩)) rfl (wanted_none rfl _) (exec_nilp (.tmp 6) ⟨p, 0, none⟩ rfl (hD 0 6 (by kernel_rfl))) rfl) ?_
    refine fsteps_cons 3 rfl (fun a u hE hD hk => f_val (o := ⟨some 8, _, _, _, _, _⟩) (.pointer (some ⟨p, 1, none⟩)) rfl (wanted_none rfl _) (exec_fldo 42 1 1 (.tmp 7) (p) (0) (1) rfl (hD 1 7 (by kernel_rfl)) (by kernel_rfl) rfl) rfl) ?_
    refine fsteps_cons 4 rfl (fun a u hE hD hk => f_val (o := ⟨some 9, _, _, _, _, _⟩) (v) rfl (wanted_none rfl _) (exec_ldv 40 _ Try.underlying40 (.tmp 8) ⟨p, 1, none⟩ (v) rfl (hD 2 8 (by kernel_rfl)) (by rw [(HB.out.kept hk).cell]; rfl)) rfl) ?_
    refine fsteps_cons 5 rfl (fun a u hE hD hk => f_val (o := ⟨some 10, _, _, _, _, _⟩) (.int .i64 (n : Int)) rfl (wanted_none rfl _) (exec_lenS (.tmp 9) slR (v) (n) _ _ rfl (hD 3 9 (by kernel_rfl)) HS.out) rfl) ?_
    refine fsteps_cons 6 rfl (fun a u hE hD hk => f_val (o := ⟨some 11, _, _, _, _, _⟩) (.int .i64 0) rfl (wanted_none rfl _) (exec_move (.const (.int .i64 0)) (.int .i64 0) rfl rfl) rfl) ?_
    exact fsteps_nil
  intro gv w0 hV k0
  rw [show dstsOf _ 6 = [6, 7, 8, 9, 10, 11] by kernel_rfl]
  simp only [List.foldl_cons, List.foldl_nil, List.setIfInBounds_toArray, List.set_cons_succ, List.set_cons_zero, List.drop_succ_cons, List.drop_zero]
  rw [show gv 9 = v from hV 3 9 (by kernel_rfl)]
  rw [show gv 10 = .int .i64 (n : Int) from hV 4 10 (by kernel_rfl)]
  rw [show gv 11 = .int .i64 0 from hV 5 11 (by kernel_rfl)]
  clear hV
  refine wpList_nil ?_
  go_wp2_with fail
  go_loopw [3, 11] (fun t q wr => ∃ (i : Nat), i ≤ n ∧ q = .int .i64 i ∧ Hid ((Kn.sl w.heap.size 25 9 i (ords ((X.take i).map (·.o)))).p t wr) ∧ Kept w wr) (fun _ q _ => n - (intOf q).toNat)
  case atStart => exact ⟨0, Nat.zero_le _, rfl, ⟨by rw [List.take_zero]; exact Sl.nil _ _ _, fun b hb => by simp [Value.ownBlock] at hb⟩, k0⟩
  case round =>
    obtain ⟨i, hi, rfl, HV, hkr⟩ := hrel
    by_cases hlt : i < n
    · skip
      obtain ⟨g, off, c, rfl⟩ := HS.out.some_ (by omega)
      obtain ⟨e, he⟩ : ∃ e, X[i]? = some e := ⟨X[i]'(by omega), List.getElem?_eq_getElem (by omega)⟩
      have HE : Hid (wr.rangeAt g (off + i * 10) e.cells) := range_kept (HS.out.rng i e he) hkr
      have HEI := Lib.hid he
      clear he
      go_upto_region 4 with fail
      refine wp_text 3 [.eq (.pointer (some ⟨g, off + i * 10, none⟩)), .eq (e.v), .fresh wr.heap.size 64 zeroE.cells] rfl (by kernel_rfl) ?_ ?_
      · refine fsteps_cons 1 rfl (fun a u hE hD hk => f_val (o := ⟨some 13, _, _, _, _, _⟩) (.pointer (some ⟨g, off + i * 10, none⟩)) rfl (wanted_none rfl _) (exec_ixo slR (.tmp 9) (.tmp 11) (g) (off) n c i (off + i * 10) ((i : Int)) rfl (hE 9 (.slice (some ⟨g, off, none⟩) n c) (by kernel_rfl) (by kernel_rfl)) (hE 11 (.int .i64 (i : Int)) (by kernel_rfl) (by kernel_rfl)) (by first | rfl | omega) (hlt) (by first | rfl | omega)) rfl) ?_
        refine fsteps_cons 2 rfl (fun a u hE hD hk => f_val (o := ⟨some 14, _, _, _, _, _⟩) (e.v) rfl (wanted_none rfl _) (exec_ldS 64 _ (.tmp 13) (g) (off + i * 10) (e.cells) rfl (hD 0 13 (by kernel_rfl)) (range_kept HE.out hk) Try.underlying64 (by rw [e.len10]; exact szR)) rfl) ?_
        refine fsteps_cons 3 rfl (fun a u hE hD hk => f_new (o := ⟨some 5, _, _, _, _, _⟩) (.pointer (some ⟨u.heap.size, 0, none⟩)) _ rfl (wanted_none rfl _) (exec_alc 64 zeroE.cells rfl zR) ⟨_, rfl, hk.size, Blk.new u _ _⟩ ((Keep.refl _ u).alloc _)) ?_
        exact fsteps_nil
      intro gv w1 hV k1
      rw [show dstsOf _ 3 = [13, 14, 5] by kernel_rfl]
      simp only [List.foldl_cons, List.foldl_nil, List.setIfInBounds_toArray, List.set_cons_succ, List.set_cons_zero, List.drop_succ_cons, List.drop_zero]
      have hv5 : (.fresh wr.heap.size 64 zeroE.cells : Kn).p (gv 5) w1 := hV 2 5 (by kernel_rfl)
      generalize gv 5 = v5 at hv5 ⊢
      rw [show gv 14 = e.v from hV 1 14 (by kernel_rfl)]
      clear hV
      obtain ⟨b5, rfl, hb5, hB5⟩ := hv5
      refine l_setS (o := ⟨none, _, _, _, _, _⟩) 64 b5 64 zeroE.cells e.cells (.tmp 5) (.tmp 14) rfl rfl (by kernel_rfl) (by kernel_rfl) hB5 (by rw [Ent.len10]; exact szR) (by rw [Ent.len10, Ent.len10]) (Ent.one _) ?_
      intro w2 hB6 hk2 hs2
      simp only [Act.put]
      refine wpList_nil ?_
      have kw2 : Kept wr w2 := k1.trans' hk2 (by omega)
      have HB6 := Lib.hid (blk_range hB6)
      clear hB5 hB6 hk2 HE k1
      obtain ⟨v3, hv3⟩ : ∃ v3, v3 = u3 := ⟨_, rfl⟩
      subst hv3
      have HV2 := Lib.hid (HV.out.1.kept kw2)
      have HV3 := Lib.hid HV.out.2
      have s2 := kw2.size
      have s1 := hkr.size
      clear HV
      go_upto_region 5 with fail
      refine wp_text 4 [.eq (v3), .eq (.pointer (some ⟨b5, 0, none⟩)), .eq (e.o.v), .sl w2.heap.size 25 9 1 e.o.cells] rfl (by kernel_rfl) ?_ ?_
      · refine fsteps_cons 1 rfl (fun a u hE hD hk => f_val (o := ⟨some 15, _, _, _, _, _⟩) (v3) rfl (wanted_none rfl _) (exec_move (.tmp 3) (v3) rfl (hE 3 (v3) (by kernel_rfl) (by kernel_rfl))) rfl) ?_
        refine fsteps_cons 2 rfl (fun a u hE hD hk => f_val (o := ⟨some 16, _, _, _, _, _⟩) (.pointer (some ⟨b5, 0, none⟩)) rfl (wanted_none rfl _) (exec_fldo 64 0 0 (.tmp 5) (b5) (0) (0) rfl (hE 5 (.pointer (some ⟨b5, 0, none⟩)) (by kernel_rfl) (by kernel_rfl)) (by kernel_rfl) rfl) rfl) ?_
        refine fsteps_cons 3 rfl (fun a u hE hD hk => f_val (o := ⟨some 17, _, _, _, _, _⟩) (e.o.v) rfl (wanted_none rfl _) (exec_ldS 25 _ (.tmp 16) (b5) (0) (e.o.cells) rfl (hD 1 16 (by kernel_rfl)) (ent_ord (range_kept HB6.out hk)) Try.underlying25 (by rw [e.o.len9]; exact ord_size)) rfl) ?_
        refine fsteps_cons 4 rfl (fun a u hE hD hk => f_new (o := ⟨some 18, _, _, _, _, _⟩) (.slice (some ⟨u.heap.size, 0, none⟩) 1 1) _ rfl (wanted_none rfl _) (exec_oneS slO (.tmp 17) e.o.cells (by omega) rfl (hD 2 17 (by kernel_rfl)) (e.o.len9)) (sl_one u 25 9 _ w2.heap.size (e.o.len9) (by omega) hk.size) ((Keep.refl _ u).alloc _)) ?_
        exact fsteps_nil
      intro gv w3 hV k3
      rw [show dstsOf _ 4 = [15, 16, 17, 18] by kernel_rfl]
      simp only [List.foldl_cons, List.foldl_nil, List.setIfInBounds_toArray, List.set_cons_succ, List.set_cons_zero, List.drop_succ_cons, List.drop_zero]
      rw [show gv 15 = v3 from hV 0 15 (by kernel_rfl)]
      have hv18 : (.sl w2.heap.size 25 9 1 e.o.cells : Kn).p (gv 18) w3 := hV 3 18 (by kernel_rfl)
      generalize gv 18 = v18 at hv18 ⊢
      clear hV
      have s3 := k3.size
      obtain ⟨v4, w4, hr4, hs4, hk4, ho4⟩ := run_append_sl slO _ w3 v3 v18 i 1 _ _ (HV2.out.kept k3) hv18.1 (Ord.one1 _) (by unfold maxLen; omega) (by omega)
      refine l_new (o := ⟨some 19, _, _, _, _, _⟩) v4 w4 rfl (exec_appS slO (.tmp 15) (.tmp 18) v3 v18 rfl (by kernel_rfl) (by kernel_rfl) v4 w4 hr4) ?_
      simp only [Act.put, List.setIfInBounds_toArray, List.set_cons_succ, List.set_cons_zero]
      refine l_val (o := ⟨some 3, _, _, _, _, _⟩) (v4) rfl (exec_assign (.tmp 19) (v4) rfl (by kernel_rfl)) ?_
      simp only [Act.put, List.setIfInBounds_toArray, List.set_cons_succ, List.set_cons_zero]
      refine wpList_nil ?_
      have kw4 : Kept w w4 := by
        refine Keep.trans ((hkr.trans kw2).trans k3) hk4 (fun b hb hb' => ?_)
        have := HV3.out b hb'
        omega
      have HV4 : Hid ((Kn.sl w.heap.size 25 9 (i + 1) (ords ((X.take (i + 1)).map (·.o)))).p v4 w4) := by
        refine ⟨?_, fun b hb => ?_⟩
        · rw [List.take_add_one, HEI.out, Option.toList_some, List.map_append, List.map_cons, List.map_nil, ords_snoc]
          exact hs4
        · rcases ho4 b hb with h | h
          · exact HV3.out b h
          · omega
      clear hs4 hk4 ho4 HV2 HV3 hv18 hr4
      go_wp2
      exact ⟨⟨i + 1, by omega, by go_num, HV4, kw4⟩, by simp [intOf]; omega⟩
    · obtain ⟨v3, hv3⟩ : ∃ v3, v3 = u3 := ⟨_, rfl⟩
      subst hv3
      have HF : Hid ((Kn.sl w.heap.size 25 9 X.length (ords (X.map (·.o)))).p v3 wr) := by
        have := HV.out
        rw [show i = n by omega, List.take_of_length_le (by rw [HN.out]; omega)] at this
        rw [HN.out]
        exact this
      clear HV
      go_wp2
      go_ret
      exact ⟨v3, rfl, HF.out, hkr⟩

set_option maxRecDepth 100000 in
set_option maxHeartbeats 800000 in
theorem sameH_any (va vb : Value) (na nb : Nat) (A B : List Ent) (w : World) (ha : Sl w 35 10 va A.length (ents A)) (hb : Sl w 35 10 vb B.length (ents B)) (hna : A.length ≤ 1000000) (hnb : B.length ≤ 1000000) : Gives 14 #[va, vb] w (.eq (.bool (decide (A = B)))) := by
  refine gives_eq ?_
  obtain ⟨n, hn⟩ : ∃ n, A.length = n := ⟨_, rfl⟩
  obtain ⟨m, hm⟩ : ∃ m, B.length = m := ⟨_, rfl⟩
  rw [hn] at ha hna
  rw [hm] at hb hnb
  have HA := Lib.hid ha
  have HB := Lib.hid hb
  have HN := Lib.hid hn
  have HM := Lib.hid hm
  obtain ⟨_, A1, c1, rfl, _⟩ := ha
  obtain ⟨_, A2, c2, rfl, _⟩ := hb
  clear hn hm
  by_cases hnm : n = m
  · subst hnm
    go_enter Try.func14, Try.ntmps14
    go_wp2_with fail
    go_loopw [5] (fun v wr => ∃ i : Nat, i ≤ n ∧ v = .int .i64 i ∧ Kept w wr ∧ Hid (A.take i = B.take i)) (fun v _ => n - (intOf v).toNat)
    case atStart => exact ⟨0, Nat.zero_le _, rfl, Kept.refl _, rfl⟩
    case round =>
      obtain ⟨i, hi, rfl, hkr, HT⟩ := hrel
      by_cases hlt : i < n
      · have hia : i < A.length := by rw [HN.out]; omega
        have hib : i < B.length := by rw [HM.out]; omega
        obtain ⟨ea, hea⟩ : ∃ e, A[i]? = some e := ⟨_, List.getElem?_eq_getElem hia⟩
        obtain ⟨eb, heb⟩ : ∃ e, B[i]? = some e := ⟨_, List.getElem?_eq_getElem hib⟩
        obtain ⟨g1, o1, _, e1⟩ := HA.out.some_ (by omega)
        injection e1 with e1 _ e1'
        subst e1 e1'
        obtain ⟨g2, o2, _, e2⟩ := HB.out.some_ (by omega)
        injection e2 with e2 _ e2'
        subst e2 e2'
        have HE1 : Hid (wr.rangeAt g1 (o1 + i * 10) ea.cells) := range_kept (HA.out.rng i ea hea) hkr
        have HE2 : Hid (wr.rangeAt g2 (o2 + i * 10) eb.cells) := range_kept (HB.out.rng i eb heb) hkr
        have HEQ : Hid (A[i]? = B[i]? ↔ ea = eb) := by
          show _ ↔ _
          rw [hea, heb]
          simp
        clear hia hib hea heb
        by_cases hx : ea = eb
        · skip
          go_upto_region 6 with fail
          refine wp_free 8 [.eq (.slice (some ⟨g1, o1, none⟩) n c1), .eq (.int .i64 (i : Int)), .eq (.pointer (some ⟨g1, o1 + i * 10, none⟩)), .eq (ea.v), .eq (.slice (some ⟨g2, o2, none⟩) n c2), .eq (.int .i64 (i : Int)), .eq (.pointer (some ⟨g2, o2 + i * 10, none⟩)), .eq (eb.v)] (by kernel_rfl) rfl (by kernel_rfl) ?_ ?_
          · refine fsteps_cons 1 rfl (fun a u hE hD hk => f_val (o := ⟨some 17, _, _, _, _, _⟩) (.slice (some ⟨g1, o1, none⟩) n c1) rfl (wanted_none rfl _) (exec_move (.tmp 0) (.slice (some ⟨g1, o1, none⟩) n c1) rfl (hE 0 (.slice (some ⟨g1, o1, none⟩) n c1) (by kernel_rfl) (by kernel_rfl))) rfl) ?_
            refine fsteps_cons 2 rfl (fun a u hE hD hk => f_val (o := ⟨some 18, _, _, _, _, _⟩) (.int .i64 (i : Int)) rfl (wanted_none rfl _) (exec_move (.tmp 5) (.int .i64 (i : Int)) rfl (hE 5 (.int .i64 (i : Int)) (by kernel_rfl) (by kernel_rfl))) rfl) ?_
            refine fsteps_cons 3 rfl (fun a u hE hD hk => f_val (o := ⟨some 19, _, _, _, _, _⟩) (.pointer (some ⟨g1, o1 + i * 10, none⟩)) rfl (wanted_none rfl _) (exec_ixo slH (.tmp 17) (.tmp 18) (g1) (o1) n c1 i (o1 + i * 10) ((i : Int)) rfl (hD 0 17 (by kernel_rfl)) (hD 1 18 (by kernel_rfl)) (by first | rfl | omega) (hlt) (by first | rfl | omega)) rfl) ?_
            refine fsteps_cons 4 rfl (fun a u hE hD hk => f_val (o := ⟨some 20, _, _, _, _, _⟩) (ea.v) rfl (wanted_none rfl _) (exec_ldS 35 _ (.tmp 19) (g1) (o1 + i * 10) (ea.cells) rfl (hD 2 19 (by kernel_rfl)) (range_kept HE1.out hk) Try.underlying35 (by rw [ea.len10]; exact szH)) rfl) ?_
            refine fsteps_cons 5 rfl (fun a u hE hD hk => f_val (o := ⟨some 21, _, _, _, _, _⟩) (.slice (some ⟨g2, o2, none⟩) n c2) rfl (wanted_none rfl _) (exec_move (.tmp 1) (.slice (some ⟨g2, o2, none⟩) n c2) rfl (hE 1 (.slice (some ⟨g2, o2, none⟩) n c2) (by kernel_rfl) (by kernel_rfl))) rfl) ?_
            refine fsteps_cons 6 rfl (fun a u hE hD hk => f_val (o := ⟨some 22, _, _, _, _, _⟩) (.int .i64 (i : Int)) rfl (wanted_none rfl _) (exec_move (.tmp 5) (.int .i64 (i : Int)) rfl (hE 5 (.int .i64 (i : Int)) (by kernel_rfl) (by kernel_rfl))) rfl) ?_
            refine fsteps_cons 7 rfl (fun a u hE hD hk => f_val (o := ⟨some 23, _, _, _, _, _⟩) (.pointer (some ⟨g2, o2 + i * 10, none⟩)) rfl (wanted_none rfl _) (exec_ixo slH (.tmp 21) (.tmp 22) (g2) (o2) n c2 i (o2 + i * 10) ((i : Int)) rfl (hD 4 21 (by kernel_rfl)) (hD 5 22 (by kernel_rfl)) (by first | rfl | omega) (hlt) (by first | rfl | omega)) rfl) ?_
            refine fsteps_cons 8 rfl (fun a u hE hD hk => f_val (o := ⟨some 24, _, _, _, _, _⟩) (eb.v) rfl (wanted_none rfl _) (exec_ldS 35 _ (.tmp 23) (g2) (o2 + i * 10) (eb.cells) rfl (hD 6 23 (by kernel_rfl)) (range_kept HE2.out hk) Try.underlying35 (by rw [eb.len10]; exact szH)) rfl) ?_
            exact fsteps_nil
          intro gv w1 hV k1
          rw [show dstsOf _ 8 = [17, 18, 19, 20, 21, 22, 23, 24] by kernel_rfl]
          simp only [List.foldl_cons, List.foldl_nil, List.setIfInBounds_toArray, List.set_cons_succ, List.set_cons_zero, List.drop_succ_cons, List.drop_zero]
          rw [show gv 20 = ea.v from hV 3 20 (by kernel_rfl)]
          rw [show gv 24 = eb.v from hV 7 24 (by kernel_rfl)]
          clear hV
          refine l_val (o := ⟨some 25, _, _, _, _, _⟩) (.bool false) rfl (exec_neHb false (.tmp 20) (.tmp 24) _ ea eb rfl (by kernel_rfl) (by kernel_rfl) (by rw [hx]; simp)) ?_
          simp only [Act.put, List.setIfInBounds_toArray, List.set_cons_succ, List.set_cons_zero]
          refine wpList_nil ?_
          have HT2 := Lib.hid (take_next HT.out (HEQ.out.2 hx))
          have hk3 := hkr.trans k1
          clear hkr hx k1
          go_wp2
          exact ⟨⟨i + 1, by omega, by go_num, hk3, HT2⟩, by simp [intOf]; omega⟩
        · skip
          go_upto_region 6 with fail
          refine wp_free 8 [.eq (.slice (some ⟨g1, o1, none⟩) n c1), .eq (.int .i64 (i : Int)), .eq (.pointer (some ⟨g1, o1 + i * 10, none⟩)), .eq (ea.v), .eq (.slice (some ⟨g2, o2, none⟩) n c2), .eq (.int .i64 (i : Int)), .eq (.pointer (some ⟨g2, o2 + i * 10, none⟩)), .eq (eb.v)] (by kernel_rfl) rfl (by kernel_rfl) ?_ ?_
          · refine fsteps_cons 1 rfl (fun a u hE hD hk => f_val (o := ⟨some 17, _, _, _, _, _⟩) (.slice (some ⟨g1, o1, none⟩) n c1) rfl (wanted_none rfl _) (exec_move (.tmp 0) (.slice (some ⟨g1, o1, none⟩) n c1) rfl (hE 0 (.slice (some ⟨g1, o1, none⟩) n c1) (by kernel_rfl) (by kernel_rfl))) rfl) ?_
            refine fsteps_cons 2 rfl (fun a u hE hD hk => f_val (o := ⟨some 18, _, _, _, _, _⟩) (.int .i64 (i : Int)) rfl (wanted_none rfl _) (exec_move (.tmp 5) (.int .i64 (i : Int)) rfl (hE 5 (.int .i64 (i : Int)) (by kernel_rfl) (by kernel_rfl))) rfl) ?_
            refine fsteps_cons 3 rfl (fun a u hE hD hk => f_val (o := ⟨some 19, _, _, _, _, _⟩) (.pointer (some ⟨g1, o1 + i * 10, none⟩)) rfl (wanted_none rfl _) (exec_ixo slH (.tmp 17) (.tmp 18) (g1) (o1) n c1 i (o1 + i * 10) ((i : Int)) rfl (hD 0 17 (by kernel_rfl)) (hD 1 18 (by kernel_rfl)) (by first | rfl | omega) (hlt) (by first | rfl | omega)) rfl) ?_
            refine fsteps_cons 4 rfl (fun a u hE hD hk => f_val (o := ⟨some 20, _, _, _, _, _⟩) (ea.v) rfl (wanted_none rfl _) (exec_ldS 35 _ (.tmp 19) (g1) (o1 + i * 10) (ea.cells) rfl (hD 2 19 (by kernel_rfl)) (range_kept HE1.out hk) Try.underlying35 (by rw [ea.len10]; exact szH)) rfl) ?_
            refine fsteps_cons 5 rfl (fun a u hE hD hk => f_val (o := ⟨some 21, _, _, _, _, _⟩) (.slice (some ⟨g2, o2, none⟩) n c2) rfl (wanted_none rfl _) (exec_move (.tmp 1) (.slice (some ⟨g2, o2, none⟩) n c2) rfl (hE 1 (.slice (some ⟨g2, o2, none⟩) n c2) (by kernel_rfl) (by kernel_rfl))) rfl) ?_
            refine fsteps_cons 6 rfl (fun a u hE hD hk => f_val (o := ⟨some 22, _, _, _, _, _⟩) (.int .i64 (i : Int)) rfl (wanted_none rfl _) (exec_move (.tmp 5) (.int .i64 (i : Int)) rfl (hE 5 (.int .i64 (i : Int)) (by kernel_rfl) (by kernel_rfl))) rfl) ?_
            refine fsteps_cons 7 rfl (fun a u hE hD hk => f_val (o := ⟨some 23, _, _, _, _, _⟩) (.pointer (some ⟨g2, o2 + i * 10, none⟩)) rfl (wanted_none rfl _) (exec_ixo slH (.tmp 21) (.tmp 22) (g2) (o2) n c2 i (o2 + i * 10) ((i : Int)) rfl (hD 4 21 (by kernel_rfl)) (hD 5 22 (by kernel_rfl)) (by first | rfl | omega) (hlt) (by first | rfl | omega)) rfl) ?_
            refine fsteps_cons 8 rfl (fun a u hE hD hk => f_val (o := ⟨some 24, _, _, _, _, _⟩) (eb.v) rfl (wanted_none rfl _) (exec_ldS 35 _ (.tmp 23) (g2) (o2 + i * 10) (eb.cells) rfl (hD 6 23 (by kernel_rfl)) (range_kept HE2.out hk) Try.underlying35 (by rw [eb.len10]; exact szH)) rfl) ?_
            exact fsteps_nil
          intro gv w1 hV k1
          rw [show dstsOf _ 8 = [17, 18, 19, 20, 21, 22, 23, 24] by kernel_rfl]
          simp only [List.foldl_cons, List.foldl_nil, List.setIfInBounds_toArray, List.set_cons_succ, List.set_cons_zero, List.drop_succ_cons, List.drop_zero]
          rw [show gv 20 = ea.v from hV 3 20 (by kernel_rfl)]
          rw [show gv 24 = eb.v from hV 7 24 (by kernel_rfl)]
          clear hV
          refine l_val (o := ⟨some 25, _, _, _, _, _⟩) (.bool true) rfl (exec_neHb true (.tmp 20) (.tmp 24) _ ea eb rfl (by kernel_rfl) (by kernel_rfl) (by simp [hx])) ?_
          simp only [Act.put, List.setIfInBounds_toArray, List.set_cons_succ, List.set_cons_zero]
          refine wpList_nil ?_
          have HF : Hid (A ≠ B) := fun h => hx (HEQ.out.1 (by rw [h]))
          have hk3 := hkr.trans k1
          clear hkr hx k1
          go_wp2
          go_ret
          exact ⟨ret_bool (decide_eq_false HF.out).symm, hk3⟩
      · go_wp2
        go_ret
        exact ⟨ret_bool (decide_eq_true (take_whole HT.out (by have := HN.out; omega) (by have := HM.out; omega))).symm, hkr⟩
  · have hne : ((n : Int) != (m : Int)) = true := by rw [bne_iff_ne]; omega
    have HF : Hid (A ≠ B) := fun h => hnm (by have h1 := HN.out; have h2 := HM.out; rw [h] at h1; omega)
    clear hnm
    go_enter Try.func14, Try.ntmps14
    go_wp2
    go_ret
    exact ⟨ret_bool (decide_eq_false HF.out).symm, Kept.refl _⟩

set_option maxRecDepth 100000 in
set_option maxHeartbeats 800000 in
theorem sameO_any (va vb : Value) (na nb : Nat) (A B : List Ord) (w : World) (ha : Sl w 25 9 va A.length (ords A)) (hb : Sl w 25 9 vb B.length (ords B)) (hna : A.length ≤ 1000000) (hnb : B.length ≤ 1000000) : Gives 15 #[va, vb] w (.eq (.bool (decide (A = B)))) := by
  refine gives_eq ?_
  obtain ⟨n, hn⟩ : ∃ n, A.length = n := ⟨_, rfl⟩
  obtain ⟨m, hm⟩ : ∃ m, B.length = m := ⟨_, rfl⟩
  rw [hn] at ha hna
  rw [hm] at hb hnb
  have HA := Lib.hid ha
  have HB := Lib.hid hb
  have HN := Lib.hid hn
  have HM := Lib.hid hm
  obtain ⟨_, A1, c1, rfl, _⟩ := ha
  obtain ⟨_, A2, c2, rfl, _⟩ := hb
  clear hn hm
  by_cases hnm : n = m
  · subst hnm
    go_enter Try.func15, Try.ntmps15
    go_wp2_with fail
    go_loopw [5] (fun v wr => ∃ i : Nat, i ≤ n ∧ v = .int .i64 i ∧ Kept w wr ∧ Hid (A.take i = B.take i)) (fun v _ => n - (intOf v).toNat)
    case atStart => exact ⟨0, Nat.zero_le _, rfl, Kept.refl _, rfl⟩
    case round =>
      obtain ⟨i, hi, rfl, hkr, HT⟩ := hrel
      by_cases hlt : i < n
      · have hia : i < A.length := by rw [HN.out]; omega
        have hib : i < B.length := by rw [HM.out]; omega
        obtain ⟨ea, hea⟩ : ∃ e, A[i]? = some e := ⟨_, List.getElem?_eq_getElem hia⟩
        obtain ⟨eb, heb⟩ : ∃ e, B[i]? = some e := ⟨_, List.getElem?_eq_getElem hib⟩
        obtain ⟨g1, o1, _, e1⟩ := HA.out.some_ (by omega)
        injection e1 with e1 _ e1'
        subst e1 e1'
        obtain ⟨g2, o2, _, e2⟩ := HB.out.some_ (by omega)
        injection e2 with e2 _ e2'
        subst e2 e2'
        have HE1 : Hid (wr.rangeAt g1 (o1 + i * 9) ea.cells) := range_kept (HA.out.rngO i ea hea) hkr
        have HE2 : Hid (wr.rangeAt g2 (o2 + i * 9) eb.cells) := range_kept (HB.out.rngO i eb heb) hkr
        have HEQ : Hid (A[i]? = B[i]? ↔ ea = eb) := by
          show _ ↔ _
          rw [hea, heb]
          simp
        clear hia hib hea heb
        by_cases hx : ea = eb
        · skip
          go_upto_region 6 with fail
          refine wp_free 8 [.eq (.slice (some ⟨g1, o1, none⟩) n c1), .eq (.int .i64 (i : Int)), .eq (.pointer (some ⟨g1, o1 + i * 9, none⟩)), .eq (ea.v), .eq (.slice (some ⟨g2, o2, none⟩) n c2), .eq (.int .i64 (i : Int)), .eq (.pointer (some ⟨g2, o2 + i * 9, none⟩)), .eq (eb.v)] (by kernel_rfl) rfl (by kernel_rfl) ?_ ?_
          · refine fsteps_cons 1 rfl (fun a u hE hD hk => f_val (o := ⟨some 17, _, _, _, _, _⟩) (.slice (some ⟨g1, o1, none⟩) n c1) rfl (wanted_none rfl _) (exec_move (.tmp 0) (.slice (some ⟨g1, o1, none⟩) n c1) rfl (hE 0 (.slice (some ⟨g1, o1, none⟩) n c1) (by kernel_rfl) (by kernel_rfl))) rfl) ?_
            refine fsteps_cons 2 rfl (fun a u hE hD hk => f_val (o := ⟨some 18, _, _, _, _, _⟩) (.int .i64 (i : Int)) rfl (wanted_none rfl _) (exec_move (.tmp 5) (.int .i64 (i : Int)) rfl (hE 5 (.int .i64 (i : Int)) (by kernel_rfl) (by kernel_rfl))) rfl) ?_
            refine fsteps_cons 3 rfl (fun a u hE hD hk => f_val (o := ⟨some 19, _, _, _, _, _⟩) (.pointer (some ⟨g1, o1 + i * 9, none⟩)) rfl (wanted_none rfl _) (exec_ixo slO (.tmp 17) (.tmp 18) (g1) (o1) n c1 i (o1 + i * 9) ((i : Int)) rfl (hD 0 17 (by kernel_rfl)) (hD 1 18 (by kernel_rfl)) (by first | rfl | omega) (hlt) (by first | rfl | omega)) rfl) ?_
            refine fsteps_cons 4 rfl (fun a u hE hD hk => f_val (o := ⟨some 20, _, _, _, _, _⟩) (ea.v) rfl (wanted_none rfl _) (exec_ldS 25 _ (.tmp 19) (g1) (o1 + i * 9) (ea.cells) rfl (hD 2 19 (by kernel_rfl)) (range_kept HE1.out hk) Try.underlying25 (by rw [ea.len9]; exact ord_size)) rfl) ?_
            refine fsteps_cons 5 rfl (fun a u hE hD hk => f_val (o := ⟨some 21, _, _, _, _, _⟩) (.slice (some ⟨g2, o2, none⟩) n c2) rfl (wanted_none rfl _) (exec_move (.tmp 1) (.slice (some ⟨g2, o2, none⟩) n c2) rfl (hE 1 (.slice (some ⟨g2, o2, none⟩) n c2) (by kernel_rfl) (by kernel_rfl))) rfl) ?_
            refine fsteps_cons 6 rfl (fun a u hE hD hk => f_val (o := ⟨some 22, _, _, _, _, _⟩) (.int .i64 (i : Int)) rfl (wanted_none rfl _) (exec_move (.tmp 5) (.int .i64 (i : Int)) rfl (hE 5 (.int .i64 (i : Int)) (by kernel_rfl) (by kernel_rfl))) rfl) ?_
            refine fsteps_cons 7 rfl (fun a u hE hD hk => f_val (o := ⟨some 23, _, _, _, _, _⟩) (.pointer (some ⟨g2, o2 + i * 9, none⟩)) rfl (wanted_none rfl _) (exec_ixo slO (.tmp 21) (.tmp 22) (g2) (o2) n c2 i (o2 + i * 9) ((i : Int)) rfl (hD 4 21 (by kernel_rfl)) (hD 5 22 (by kernel_rfl)) (by first | rfl | omega) (hlt) (by first | rfl | omega)) rfl) ?_
            refine fsteps_cons 8 rfl (fun a u hE hD hk => f_val (o := ⟨some 24, _, _, _, _, _⟩) (eb.v) rfl (wanted_none rfl _) (exec_ldS 25 _ (.tmp 23) (g2) (o2 + i * 9) (eb.cells) rfl (hD 6 23 (by kernel_rfl)) (range_kept HE2.out hk) Try.underlying25 (by rw [eb.len9]; exact ord_size)) rfl) ?_
            exact fsteps_nil
          intro gv w1 hV k1
          rw [show dstsOf _ 8 = [17, 18, 19, 20, 21, 22, 23, 24] by kernel_rfl]
          simp only [List.foldl_cons, List.foldl_nil, List.setIfInBounds_toArray, List.set_cons_succ, List.set_cons_zero, List.drop_succ_cons, List.drop_zero]
          rw [show gv 20 = ea.v from hV 3 20 (by kernel_rfl)]
          rw [show gv 24 = eb.v from hV 7 24 (by kernel_rfl)]
          clear hV
          refine l_val (o := ⟨some 25, _, _, _, _, _⟩) (.bool false) rfl (exec_neOb false (.tmp 20) (.tmp 24) _ ea eb rfl (by kernel_rfl) (by kernel_rfl) (by rw [hx]; simp)) ?_
          simp only [Act.put, List.setIfInBounds_toArray, List.set_cons_succ, List.set_cons_zero]
          refine wpList_nil ?_
          have HT2 := Lib.hid (take_next HT.out (HEQ.out.2 hx))
          have hk3 := hkr.trans k1
          clear hkr hx k1
          go_wp2
          exact ⟨⟨i + 1, by omega, by go_num, hk3, HT2⟩, by simp [intOf]; omega⟩
        · skip
          go_upto_region 6 with fail
          refine wp_free 8 [.eq (.slice (some ⟨g1, o1, none⟩) n c1), .eq (.int .i64 (i : Int)), .eq (.pointer (some ⟨g1, o1 + i * 9, none⟩)), .eq (ea.v), .eq (.slice (some ⟨g2, o2, none⟩) n c2), .eq (.int .i64 (i : Int)), .eq (.pointer (some ⟨g2, o2 + i * 9, none⟩)), .eq (eb.v)] (by kernel_rfl) rfl (by kernel_rfl) ?_ ?_
          · refine fsteps_cons 1 rfl (fun a u hE hD hk => f_val (o := ⟨some 17, _, _, _, _, _⟩) (.slice (some ⟨g1, o1, none⟩) n c1) rfl (wanted_none rfl _) (exec_move (.tmp 0) (.slice (some ⟨g1, o1, none⟩) n c1) rfl (hE 0 (.slice (some ⟨g1, o1, none⟩) n c1) (by kernel_rfl) (by kernel_rfl))) rfl) ?_
            refine fsteps_cons 2 rfl (fun a u hE hD hk => f_val (o := ⟨some 18, _, _, _, _, _⟩) (.int .i64 (i : Int)) rfl (wanted_none rfl _) (exec_move (.tmp 5) (.int .i64 (i : Int)) rfl (hE 5 (.int .i64 (i : Int)) (by kernel_rfl) (by kernel_rfl))) rfl) ?_
            refine fsteps_cons 3 rfl (fun a u hE hD hk => f_val (o := ⟨some 19, _, _, _, _, _⟩) (.pointer (some ⟨g1, o1 + i * 9, none⟩)) rfl (wanted_none rfl _) (exec_ixo slO (.tmp 17) (.tmp 18) (g1) (o1) n c1 i (o1 + i * 9) ((i : Int)) rfl (hD 0 17 (by kernel_rfl)) (hD 1 18 (by kernel_rfl)) (by first | rfl | omega) (hlt) (by first | rfl | omega)) rfl) ?_
            refine fsteps_cons 4 rfl (fun a u hE hD hk => f_val (o := ⟨some 20, _, _, _, _, _⟩) (ea.v) rfl (wanted_none rfl _) (exec_ldS 25 _ (.tmp 19) (g1) (o1 + i * 9) (ea.cells) rfl (hD 2 19 (by kernel_rfl)) (range_kept HE1.out hk) Try.underlying25 (by rw [ea.len9]; exact ord_size)) rfl) ?_
            refine fsteps_cons 5 rfl (fun a u hE hD hk => f_val (o := ⟨some 21, _, _, _, _, _⟩) (.slice (some ⟨g2, o2, none⟩) n c2) rfl (wanted_none rfl _) (exec_move (.tmp 1) (.slice (some ⟨g2, o2, none⟩) n c2) rfl (hE 1 (.slice (some ⟨g2, o2, none⟩) n c2) (by kernel_rfl) (by kernel_rfl))) rfl) ?_
            refine fsteps_cons 6 rfl (fun a u hE hD hk => f_val (o := ⟨some 22, _, _, _, _, _⟩) (.int .i64 (i : Int)) rfl (wanted_none rfl _) (exec_move (.tmp 5) (.int .i64 (i : Int)) rfl (hE 5 (.int .i64 (i : Int)) (by kernel_rfl) (by kernel_rfl))) rfl) ?_
            refine fsteps_cons 7 rfl (fun a u hE hD hk => f_val (o := ⟨some 23, _, _, _, _, _⟩) (.pointer (some ⟨g2, o2 + i * 9, none⟩)) rfl (wanted_none rfl _) (exec_ixo slO (.tmp 21) (.tmp 22) (g2) (o2) n c2 i (o2 + i * 9) ((i : Int)) rfl (hD 4 21 (by kernel_rfl)) (hD 5 22 (by kernel_rfl)) (by first | rfl | omega) (hlt) (by first | rfl | omega)) rfl) ?_
            refine fsteps_cons 8 rfl (fun a u hE hD hk => f_val (o := ⟨some 24, _, _, _, _, _⟩) (eb.v) rfl (wanted_none rfl _) (exec_ldS 25 _ (.tmp 23) (g2) (o2 + i * 9) (eb.cells) rfl (hD 6 23 (by kernel_rfl)) (range_kept HE2.out hk) Try.underlying25 (by rw [eb.len9]; exact ord_size)) rfl) ?_
            exact fsteps_nil
          intro gv w1 hV k1
          rw [show dstsOf _ 8 = [17, 18, 19, 20, 21, 22, 23, 24] by kernel_rfl]
          simp only [List.foldl_cons, List.foldl_nil, List.setIfInBounds_toArray, List.set_cons_succ, List.set_cons_zero, List.drop_succ_cons, List.drop_zero]
          rw [show gv 20 = ea.v from hV 3 20 (by kernel_rfl)]
          rw [show gv 24 = eb.v from hV 7 24 (by kernel_rfl)]
          clear hV
          refine l_val (o := ⟨some 25, _, _, _, _, _⟩) (.bool true) rfl (exec_neOb true (.tmp 20) (.tmp 24) _ ea eb rfl (by kernel_rfl) (by kernel_rfl) (by simp [hx])) ?_
          simp only [Act.put, List.setIfInBounds_toArray, List.set_cons_succ, List.set_cons_zero]
          refine wpList_nil ?_
          have HF : Hid (A ≠ B) := fun h => hx (HEQ.out.1 (by rw [h]))
          have hk3 := hkr.trans k1
          clear hkr hx k1
          go_wp2
          go_ret
          exact ⟨ret_bool (decide_eq_false HF.out).symm, hk3⟩
      · go_wp2
        go_ret
        exact ⟨ret_bool (decide_eq_true (take_whole HT.out (by have := HN.out; omega) (by have := HM.out; omega))).symm, hkr⟩
  · have hne : ((n : Int) != (m : Int)) = true := by rw [bne_iff_ne]; omega
    have HF : Hid (A ≠ B) := fun h => hnm (by have h1 := HN.out; have h2 := HM.out; rw [h] at h1; omega)
    clear hnm
    go_enter Try.func15, Try.ntmps15
    go_wp2
    go_ret
    exact ⟨ret_bool (decide_eq_false HF.out).symm, Kept.refl _⟩
end Go.Proofs.Ytlbkehpdohihlaa
