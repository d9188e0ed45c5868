/-
  The contract of jobberlaw9.LevelTakes: any asks, any firm, any quantity: it answers true. No condition.
-/
import Derived.Test.YtlbkehpdohihlaaTakeM9
import Derived.Test.YtlbkehpdohihlaaRuns9
namespace Go.Proofs.Ytlbkehpdohihlaa
open Go.RowKit
set_option linter.unusedVariables false
theorem runs_gives (w : World) : Gives 3 #[] w (.eq (.bool true)) := gives_eq (levelRuns_any w)
theorem lit_lo (x : Int) (h : (Lit.int .i64 x).wf = true) : -9223372036854775808 ≤ x ∧ x ≤ 9223372036854775807 := by
  unfold Lit.wf at h
  have e1 : IntKind.i64.min = -9223372036854775808 := by decide
  have e2 : IntKind.i64.max = 9223372036854775807 := by decide
  simp [e1, e2] at h
  omega

theorem seenM_pos {H : List Ent} {firm : Int} (h : ∀ e ∈ H, 1 ≤ e.n ∧ e.n ≤ e.o.qty ∧ e.o.firm ≠ firm ∧ e.o.qty ≤ 100000) (i : Nat) (e : Ent) (he : H[i]? = some e) : 0 ≤ seenM (H.take i) ∧ seenM (H.take i) + e.n = seenM (H.take (i + 1)) ∧ seenM (H.take (i + 1)) ≤ seenM H ∧ 1 ≤ e.n := by
  have ok : ∀ e ∈ H, e.ok := fun e he => ⟨(h e he).1, (h e he).2.1⟩
  obtain ⟨h1, h2, _, h4⟩ := seenM_le ok i e he
  refine ⟨h1, h2, ?_, h4⟩
  have h5 : seenM H = seenM (H.take (i + 1)) + seenM (H.drop (i + 1)) := by rw [← seenM_append, List.take_append_drop]
  have h6 := whole_ge (X := H.drop (i + 1)) (fun x hx => ok x (List.mem_of_mem_drop hx))
  omega
set_option maxRecDepth 100000 in
set_option maxHeartbeats 3200000 in
theorem levelTakes_any (v : Value) (l : List Ask) (firm q0 : Int) (w : World) (hl : Asks w v l) : Calls Try.prog 5 #[v, .int .i64 firm, .int .i64 q0] w fun e w' => e = .returned (.bool true) ∧ Kept w w' := by
  obtain ⟨n, hn⟩ : ∃ n, wi q0 0 100 = n := ⟨_, rfl⟩
  have hn1 := wi_in q0 0 100 (by omega)
  rw [hn] at hn1
  have HN := Lib.hid hn
  clear hn
  go_enter Try.func5, Try.ntmps5
  go_upto_region 1 with fail
  refine wp_region_lit ?_
  refine l_val (o := ⟨some 16, _, _, _, _, _⟩) (v) rfl (exec_move (.tmp 0) (v) rfl (by kernel_rfl)) ?_
  simp only [Act.put, List.setIfInBounds_toArray, List.set_cons_succ, List.set_cons_zero]
  refine l_call (o := ⟨some 17, _, _, _, _, _⟩) 29 #[v] rfl (exec_call 29 _ [.tmp 16] _ _ Try.func29 (by kernel_rfl) (by kernel_rfl) rfl (by kernel_rfl) _) ?_
  refine (filled_any v l w hl).mono ?_
  rintro r w1 ⟨p, F, rfl, hL1, hG1, k1⟩
  refine ⟨_, rfl, ?_⟩
  simp only [Act.put, List.setIfInBounds_toArray, List.set_cons_succ, List.set_cons_zero]
  refine l_val (o := ⟨some 7, _, _, _, _, _⟩) (.pointer (some ⟨p, 0, none⟩)) rfl (exec_assign (.tmp 17) (.pointer (some ⟨p, 0, none⟩)) rfl (by kernel_rfl)) ?_
  simp only [Act.put, List.setIfInBounds_toArray, List.set_cons_succ, List.set_cons_zero]
  refine wpList_nil ?_
  have hX := fill_good [] (l.take 20) (by rw [List.length_take]; omega)
  have hSh := fill_shy [] (l.take 20)
  generalize fillE [] (l.take 20) = X at hX hSh hL1
  obtain ⟨t1, t2, t3, t4, t5⟩ := takeM_facts firm n.toNat n X (Nat.le_refl _) hX
  obtain ⟨e1, e2, e3⟩ := takeM_end firm n.toNat n X (Nat.le_refl _) hn1.1 hX hSh
  have HX := Lib.hid hX
  have HL1 := Lib.hid hL1
  have HG1 : Hid (∀ b, F b → w.heap.size ≤ b) := fun b hb => (hG1 b hb).elim (fun h => h.elim) id
  clear hX hSh hL1 hG1
  go_upto_region 4 with fail
  refine wp_text 2 [.eq (.int .i64 q0), .eq (.int .i64 n)] rfl (by kernel_rfl) ?_ ?_
  · refine fsteps_cons 1 rfl (fun a u hE hD hk => f_val (o := ⟨some 20, _, _, _, _, _⟩) (.int .i64 q0) rfl (wanted_none rfl _) (exec_move (.tmp 2) (.int .i64 q0) rfl (hE 2 (.int .i64 q0) (by kernel_rfl) (by kernel_rfl))) rfl) ?_
    refine fsteps_cons 2 rfl (fun a u hE hD hk => f_call (o := ⟨some 21, _, _, _, _, _⟩) 30 #[.int .i64 q0, .int .i64 0, .int .i64 100] rfl (wanted_none rfl _) (exec_call 30 _ [.tmp 20, .const (.int .i64 0), .const (.int .i64 100)] _ [.int .i64 q0, .int .i64 0, .int .i64 100] Try.func30 (by kernel_rfl) (by kernel_rfl) rfl (show [a.eval (.tmp 20), a.eval (.const (.int .i64 0)), a.eval (.const (.int .i64 100))] = [.int .i64 q0, .int .i64 0, .int .i64 100] from (by rw [show a.eval (.tmp 20) = .int .i64 q0 from (hD 0 20 (by kernel_rfl))] <;> rfl)) u) ((by rw [← HN.out]; exact within_is q0 0 100 u (by omega) (by omega) (by omega)))) ?_
    exact fsteps_nil
  intro gv w2 hV k2
  rw [show dstsOf _ 2 = [20, 21] by kernel_rfl]
  simp only [List.foldl_cons, List.foldl_nil, List.setIfInBounds_toArray, List.set_cons_succ, List.set_cons_zero, List.drop_succ_cons, List.drop_zero]
  rw [show gv 21 = .int .i64 n from hV 1 21 (by kernel_rfl)]
  clear hV
  refine l_val (o := ⟨some 8, _, _, _, _, _⟩) (.int .i64 n) rfl (exec_assign (.tmp 21) (.int .i64 n) rfl (by kernel_rfl)) ?_
  simp only [Act.put, List.setIfInBounds_toArray, List.set_cons_succ, List.set_cons_zero]
  refine wpList_nil ?_
  go_upto_region 5 with fail
  refine wp_text 2 [.eq (.pointer (some ⟨p, 0, none⟩)), .eq (.int .i64 (wholeM X))] rfl (by kernel_rfl) ?_ ?_
  · refine fsteps_cons 1 rfl (fun a u hE hD hk => f_val (o := ⟨some 22, _, _, _, _, _⟩) (.pointer (some ⟨p, 0, none⟩)) rfl (wanted_none rfl _) (exec_move (.tmp 7) (.pointer (some ⟨p, 0, none⟩)) rfl (hE 7 (.pointer (some ⟨p, 0, none⟩)) (by kernel_rfl) (by kernel_rfl))) rfl) ?_
    refine fsteps_cons 2 rfl (fun a u hE hD hk => f_call (o := ⟨some 23, _, _, _, _, _⟩) 25 #[.pointer (some ⟨p, 0, none⟩)] rfl (wanted_none rfl _) (exec_call 25 _ [.tmp 22] _ [.pointer (some ⟨p, 0, none⟩)] Try.func25 (by kernel_rfl) (by kernel_rfl) rfl (show [a.eval (.tmp 22)] = [.pointer (some ⟨p, 0, none⟩)] from (by rw [show a.eval (.tmp 22) = .pointer (some ⟨p, 0, none⟩) from (hD 0 22 (by kernel_rfl))] <;> rfl)) u) (whole_any u F p X (HL1.out.kept (k2.trans hk)) HX.out)) ?_
    exact fsteps_nil
  intro gv w3 hV k3
  rw [show dstsOf _ 2 = [22, 23] by kernel_rfl]
  simp only [List.foldl_cons, List.foldl_nil, List.setIfInBounds_toArray, List.set_cons_succ, List.set_cons_zero, List.drop_succ_cons, List.drop_zero]
  rw [show gv 23 = .int .i64 (wholeM X) from hV 1 23 (by kernel_rfl)]
  clear hV
  refine l_val (o := ⟨some 9, _, _, _, _, _⟩) (.int .i64 (wholeM X)) rfl (exec_assign (.tmp 23) (.int .i64 (wholeM X)) rfl (by kernel_rfl)) ?_
  simp only [Act.put, List.setIfInBounds_toArray, List.set_cons_succ, List.set_cons_zero]
  refine wpList_nil ?_
  have k13 := k2.trans k3
  have HL3 := Lib.hid (HL1.out.kept k13)
  have kw3 := k1.trans k13
  clear k1 k2 k3 k13 HL1
  go_upto_region 6 with fail
  refine wp_region_lit ?_
  refine l_val (o := ⟨some 25, _, _, _, _, _⟩) (.pointer (some ⟨p, 0, none⟩)) rfl (exec_move (.tmp 7) (.pointer (some ⟨p, 0, none⟩)) rfl (by kernel_rfl)) ?_
  simp only [Act.put, List.setIfInBounds_toArray, List.set_cons_succ, List.set_cons_zero]
  refine l_val (o := ⟨some 26, _, _, _, _, _⟩) (.int .i64 firm) rfl (exec_move (.tmp 1) (.int .i64 firm) rfl (by kernel_rfl)) ?_
  simp only [Act.put, List.setIfInBounds_toArray, List.set_cons_succ, List.set_cons_zero]
  refine l_val (o := ⟨some 27, _, _, _, _, _⟩) (.int .i64 n) rfl (exec_move (.tmp 8) (.int .i64 n) rfl (by kernel_rfl)) ?_
  simp only [Act.put, List.setIfInBounds_toArray, List.set_cons_succ, List.set_cons_zero]
  refine l_call (o := ⟨some 28, _, _, _, _, _⟩) 11 #[.pointer (some ⟨p, 0, none⟩), .int .i64 firm, .int .i64 n] rfl (exec_call 11 _ [.tmp 25, .tmp 26, .tmp 27] _ _ Try.func11 (by kernel_rfl) (by kernel_rfl) rfl (by kernel_rfl) _) ?_
  refine (take_any w3 F p X firm n HL3.out HX.out (by omega)).mono ?_
  rintro r w4 ⟨F', v10, rfl, hL4, hS4, hO4, hG4, hk4⟩
  refine ⟨_, rfl, ?_⟩
  simp only [Act.put, List.setIfInBounds_toArray, List.set_cons_succ, List.set_cons_zero]
  refine l_val (o := ⟨some 24, _, _, _, _, _⟩) (.tuple #[v10, .bool (takeM firm n X).2.1]) rfl (exec_move (.tmp 28) (.tuple #[v10, .bool (takeM firm n X).2.1]) rfl (by kernel_rfl)) ?_
  simp only [Act.put, List.setIfInBounds_toArray, List.set_cons_succ, List.set_cons_zero]
  refine l_val (o := ⟨some 29, _, _, _, _, _⟩) (v10) rfl (exec_extract (.tmp 24) [v10, .bool (takeM firm n X).2.1] 0 (v10) rfl (by kernel_rfl) rfl) ?_
  simp only [Act.put, List.setIfInBounds_toArray, List.set_cons_succ, List.set_cons_zero]
  refine l_val (o := ⟨some 30, _, _, _, _, _⟩) (.bool (takeM firm n X).2.1) rfl (exec_extract (.tmp 24) [v10, .bool (takeM firm n X).2.1] 1 (.bool (takeM firm n X).2.1) rfl (by kernel_rfl) rfl) ?_
  simp only [Act.put, List.setIfInBounds_toArray, List.set_cons_succ, List.set_cons_zero]
  refine l_val (o := ⟨some 10, _, _, _, _, _⟩) (v10) rfl (exec_assign (.tmp 29) (v10) rfl (by kernel_rfl)) ?_
  simp only [Act.put, List.setIfInBounds_toArray, List.set_cons_succ, List.set_cons_zero]
  refine l_val (o := ⟨some 11, _, _, _, _, _⟩) (.bool (takeM firm n X).2.1) rfl (exec_assign (.tmp 30) (.bool (takeM firm n X).2.1) rfl (by kernel_rfl)) ?_
  simp only [Act.put, List.setIfInBounds_toArray, List.set_cons_succ, List.set_cons_zero]
  refine wpList_nil ?_
  have kw4 : Kept w w4 := Keep.trans kw3 hk4 (fun b hb h => by have := HG1.out b h; omega)
  have hwh := whole_ge HX.out.ok
  have hfew := HX.out.few
  clear kw3 hk4 hO4 hG4 HL3 HG1
  generalize takeM firm n X = t at t1 t2 t3 t4 t5 e1 e2 e3 hL4 hS4 ⊢
  obtain ⟨H, self, Y⟩ := t
  simp only at t1 t2 t3 t4 t5 e1 e2 e3 hL4 hS4 ⊢
  have t5' := t5 hn1.1
  obtain ⟨m, hm⟩ : ∃ m, H.length = m := ⟨_, rfl⟩
  rw [hm] at hS4 t4
  have HM := Lib.hid hm
  have HS4 := Lib.hid hS4
  have HL4 := Lib.hid hL4
  have HY := Lib.hid t1
  have HH := Lib.hid t3
  have HE1 := Lib.hid e1
  have HE2 := Lib.hid e2
  have HE3 := Lib.hid e3
  obtain ⟨S, hSS⟩ : ∃ S, seenM H = S := ⟨_, rfl⟩
  have HSS := Lib.hid hSS
  have hwy := whole_ge t1.ok
  rw [hSS] at t2 t4 t5' HE2 HE3
  obtain ⟨W2, hW2⟩ : ∃ W2, wholeM Y = W2 := ⟨_, rfl⟩
  obtain ⟨W1, hW1⟩ : ∃ W1, wholeM X = W1 := ⟨_, rfl⟩
  obtain ⟨S2, hS2⟩ : ∃ S2, seenM Y = S2 := ⟨_, rfl⟩
  rw [hW2] at t2 hwy
  rw [hS2] at hwy
  rw [hW1] at t2 hwh hfew ⊢
  have HW2 := Lib.hid hW2
  have HS2 := Lib.hid hS2
  clear hm hS4 hL4 t1 t3 e1 e2 e3 hSS hW2 hW1 hS2 t5
  go_upto_region 8 with fail
  refine wp_text 3 [.eq (v10), .eq (.int .i64 (m : Int)), .eq (.int .i64 0)] rfl (by kernel_rfl) ?_ ?_
  · refine fsteps_cons 1 rfl (fun a u hE hD hk => f_val (o := ⟨some 31, _, _, _, _, _⟩) (v10) rfl (wanted_none rfl _) (exec_move (.tmp 10) (v10) rfl (hE 10 (v10) (by kernel_rfl) (by kernel_rfl))) rfl) ?_
    refine fsteps_cons 2 rfl (fun a u hE hD hk => f_val (o := ⟨some 32, _, _, _, _, _⟩) (.int .i64 (m : Int)) rfl (wanted_none rfl _) (exec_lenS (.tmp 31) slH (v10) (m) _ _ rfl (hD 0 31 (by kernel_rfl)) HS4.out) rfl) ?_
    refine fsteps_cons 3 rfl (fun a u hE hD hk => f_val (o := ⟨some 33, _, _, _, _, _⟩) (.int .i64 0) rfl (wanted_none rfl _) (exec_move (.const (.int .i64 0)) (.int .i64 0) rfl rfl) rfl) ?_
    exact fsteps_nil
  intro gv w5 hV k5
  rw [show dstsOf _ 3 = [31, 32, 33] by kernel_rfl]
  simp only [List.foldl_cons, List.foldl_nil, List.setIfInBounds_toArray, List.set_cons_succ, List.set_cons_zero, List.drop_succ_cons, List.drop_zero]
  rw [show gv 31 = v10 from hV 0 31 (by kernel_rfl)]
  rw [show gv 32 = .int .i64 (m : Int) from hV 1 32 (by kernel_rfl)]
  rw [show gv 33 = .int .i64 0 from hV 2 33 (by kernel_rfl)]
  clear hV
  refine wpList_nil ?_
  have HS5 := Lib.hid (HS4.out.kept k5)
  have HL5 := Lib.hid (HL4.out.kept k5)
  have kw5 := kw4.trans k5
  clear HS4 HL4 kw4 k5
  have hm1 : m ≤ 100 := by omega
  go_wp2_with fail
  go_loopw [12, 33] (fun g t wr => ∃ (i : Nat) (s : Int), i ≤ m ∧ t = .int .i64 (i : Int) ∧ g = .int .i64 s ∧ Hid (s = seenM (H.take i)) ∧ Kept w wr ∧ Kept w5 wr) (fun _ t _ => m - (intOf t).toNat)
  case atStart => exact ⟨0, 0, Nat.zero_le _, rfl, rfl, by show _ = _; rw [List.take_zero]; rfl, kw5, Kept.refl _⟩
  case round =>
    obtain ⟨i, s, hi, rfl, rfl, HSM, hkr, hk5⟩ := hrel
    by_cases hlt : i < m
    · obtain ⟨g, off, c, rfl⟩ := HS5.out.some_ (by omega)
      obtain ⟨e, he⟩ : ∃ e, H[i]? = some e := ⟨H[i]'(by rw [HM.out]; exact hlt), List.getElem?_eq_getElem (by rw [HM.out]; exact hlt)⟩
      obtain ⟨q1, q2, q3, q4⟩ := seenM_pos HH.out i e he
      rw [← HSM.out] at q1 q2
      have hmem := List.mem_of_getElem? he
      obtain ⟨f1, f2, f3, f4⟩ := HH.out e hmem
      have f5 := HE1.out e hmem
      have HE : Hid (wr.rangeAt g (off + i * 10) e.cells) := range_kept (HS5.out.rng i e he) hk5
      have q3' : seenM (H.take (i + 1)) ≤ S := by rw [← HSS.out]; exact q3
      have hs1 : s + e.n ≤ 100000 := by omega
      have HQ2 := Lib.hid q2
      clear he hmem q2 q3 q3' HSM
      go_upto_region 10 with fail
      refine wp_text 3 [.eq (.pointer (some ⟨g, off + i * 10, none⟩)), .eq (e.v), .fresh wr.heap.size 35 zeroE.cells] rfl (by kernel_rfl) ?_ ?_
      · refine fsteps_cons 1 rfl (fun a u hE hD hk => f_val (o := ⟨some 35, _, _, _, _, _⟩) (.pointer (some ⟨g, off + i * 10, none⟩)) rfl (wanted_none rfl _) (exec_ixo slH (.tmp 31) (.tmp 33) (g) (off) m c i (off + i * 10) ((i : Int)) rfl (hE 31 (.slice (some ⟨g, off, none⟩) m c) (by kernel_rfl) (by kernel_rfl)) (hE 33 (.int .i64 (i : Int)) (by kernel_rfl) (by kernel_rfl)) (by first | rfl | omega) (hlt) (by first | rfl | omega)) rfl) ?_
        refine fsteps_cons 2 rfl (fun a u hE hD hk => f_val (o := ⟨some 36, _, _, _, _, _⟩) (e.v) rfl (wanted_none rfl _) (exec_ldS 35 _ (.tmp 35) (g) (off + i * 10) (e.cells) rfl (hD 0 35 (by kernel_rfl)) (range_kept HE.out hk) Try.underlying35 (by rw [e.len10]; exact szH)) rfl) ?_
        refine fsteps_cons 3 rfl (fun a u hE hD hk => f_new (o := ⟨some 14, _, _, _, _, _⟩) (.pointer (some ⟨u.heap.size, 0, none⟩)) _ rfl (wanted_none rfl _) (exec_alc 35 zeroE.cells rfl zH) ⟨_, rfl, hk.size, Blk.new u _ _⟩ ((Keep.refl _ u).alloc _)) ?_
        exact fsteps_nil
      intro gv w6 hV k6
      rw [show dstsOf _ 3 = [35, 36, 14] by kernel_rfl]
      simp only [List.foldl_cons, List.foldl_nil, List.setIfInBounds_toArray, List.set_cons_succ, List.set_cons_zero, List.drop_succ_cons, List.drop_zero]
      have hv14 : (.fresh wr.heap.size 35 zeroE.cells : Kn).p (gv 14) w6 := hV 2 14 (by kernel_rfl)
      generalize gv 14 = v14 at hv14 ⊢
      rw [show gv 36 = e.v from hV 1 36 (by kernel_rfl)]
      clear hV
      obtain ⟨b5, rfl, hb5, hB5⟩ := hv14
      refine l_setS (o := ⟨none, _, _, _, _, _⟩) 35 b5 35 zeroE.cells e.cells (.tmp 14) (.tmp 36) rfl rfl (by kernel_rfl) (by kernel_rfl) hB5 (by rw [Ent.len10]; exact szH) (by rw [Ent.len10, Ent.len10]) (Ent.one _) ?_
      intro w7 hB6 hk7 hs7
      simp only [Act.put]
      refine wpList_nil ?_
      have kr7 : Kept wr w7 := k6.trans' hk7 (by omega)
      have HB6 := Lib.hid (blk_range hB6)
      have kw7 := hkr.trans kr7
      have k57 := hk5.trans kr7
      clear hB5 hB6 hk7 HE k6 hkr hk5 kr7
      go_upto_region 11 with fail
      refine wp_text 32 [.eq (.pointer (some ⟨b5, 9, none⟩)), .eq (.int .i64 e.n), .eq (.bool false), .eq (.bool false), .eq (.pointer (some ⟨b5, 9, none⟩)), .eq (.int .i64 e.n), .eq (.pointer (some ⟨b5, 0, none⟩)), .eq (.pointer (some ⟨b5, 6, none⟩)), .eq (.int .i64 e.o.qty), .eq (.bool false), .eq (.bool false), .eq (.bool false), .eq (.pointer (some ⟨b5, 0, none⟩)), .eq (.pointer (some ⟨b5, 2, none⟩)), .eq (.int .i64 e.o.firm), .eq (.int .i64 firm), .eq (.bool false), .eq (.bool false), .eq (.bool false), .eq (.pointer (some ⟨b5, 0, none⟩)), .eq (.pointer (some ⟨b5, 7, none⟩)), .eq (.int .i64 e.o.shw), .eq (.bool (decide ((0 : Int) < (e.o.shw : Int)))), .eq (.bool (decide ((0 : Int) < (e.o.shw : Int)))), .cond (decide ((0 : Int) < (e.o.shw : Int))) (.eq (.pointer (some ⟨b5, 9, none⟩))), .cond (decide ((0 : Int) < (e.o.shw : Int))) (.eq (.int .i64 e.n)), .cond (decide ((0 : Int) < (e.o.shw : Int))) (.eq (.pointer (some ⟨b5, 0, none⟩))), .cond (decide ((0 : Int) < (e.o.shw : Int))) (.eq (.pointer (some ⟨b5, 7, none⟩))), .cond (decide ((0 : Int) < (e.o.shw : Int))) (.eq (.int .i64 e.o.shw)), .cond (decide ((0 : Int) < (e.o.shw : Int))) (.eq (.bool (decide ((e.o.shw : Int) < (e.n : Int))))), .eq (.bool ((decide ((0 : Int) < (e.o.shw : Int))) && (decide ((e.o.shw : Int) < (e.n : Int))))), .eq (.bool false)] rfl (by kernel_rfl) ?_ ?_
      · refine fsteps_cons 1 rfl (fun a u hE hD hk => f_val (o := ⟨some 37, _, _, _, _, _⟩) (.pointer (some ⟨b5, 9, none⟩)) rfl (wanted_none rfl _) (exec_fldo 35 1 9 (.tmp 14) (b5) (0) (9) rfl (hE 14 (.pointer (some ⟨b5, 0, none⟩)) (by kernel_rfl) (by kernel_rfl)) (by kernel_rfl) rfl) rfl) ?_
        refine fsteps_cons 2 rfl (fun a u hE hD hk => f_val (o := ⟨some 38, _, _, _, _, _⟩) (.int .i64 e.n) rfl (wanted_none rfl _) (exec_loadi 3 Try.underlying3 (.tmp 37) ⟨b5, 9, none⟩ (.int .i64 e.n) rfl (hD 0 37 (by kernel_rfl)) (range_int (range_kept HB6.out hk) 9 _ rfl)) rfl) ?_
        refine fsteps_cons 3 rfl (fun a u hE hD hk => f_as (show ((decide ((e.n : Int) < (1 : Int))) : Bool) = false from decide_eq_false (by omega)) (f_val (o := ⟨some 39, _, _, _, _, _⟩) (.bool (decide ((e.n : Int) < (1 : Int)))) rfl (wanted_none rfl _) (exec_ltn (p := e.n) (q := 1) rfl (hD 1 38 (by kernel_rfl)) rfl) rfl)) ?_
        refine fsteps_cons 4 rfl (fun a u hE hD hk => f_val (o := ⟨some 40, _, _, _, _, _⟩) (.bool false) rfl (wanted_none rfl _) (exec_move (.tmp 39) (.bool false) rfl (hD 2 39 (by kernel_rfl))) rfl) ?_
        refine fsteps_cons 5 rfl (fun a u hE hD hk => f_val (o := ⟨some 41, _, _, _, _, _⟩) (.pointer (some ⟨b5, 9, none⟩)) rfl (wanted_at (b := false) false rfl rfl (hD 3 40 (by kernel_rfl))) (exec_fldo 35 1 9 (.tmp 14) (b5) (0) (9) rfl (hE 14 (.pointer (some ⟨b5, 0, none⟩)) (by kernel_rfl) (by kernel_rfl)) (by kernel_rfl) rfl) rfl) ?_
        refine fsteps_cons 6 rfl (fun a u hE hD hk => f_val (o := ⟨some 42, _, _, _, _, _⟩) (.int .i64 e.n) rfl (wanted_at (b := false) false rfl rfl (hD 3 40 (by kernel_rfl))) (exec_loadi 3 Try.underlying3 (.tmp 41) ⟨b5, 9, none⟩ (.int .i64 e.n) rfl (hD 4 41 (by kernel_rfl)) (range_int (range_kept HB6.out hk) 9 _ rfl)) rfl) ?_
        refine fsteps_cons 7 rfl (fun a u hE hD hk => f_val (o := ⟨some 43, _, _, _, _, _⟩) (.pointer (some ⟨b5, 0, none⟩)) rfl (wanted_at (b := false) false rfl rfl (hD 3 40 (by kernel_rfl))) (exec_fldo 35 0 0 (.tmp 14) (b5) (0) (0) rfl (hE 14 (.pointer (some ⟨b5, 0, none⟩)) (by kernel_rfl) (by kernel_rfl)) (by kernel_rfl) rfl) rfl) ?_
        refine fsteps_cons 8 rfl (fun a u hE hD hk => f_val (o := ⟨some 44, _, _, _, _, _⟩) (.pointer (some ⟨b5, 6, none⟩)) rfl (wanted_at (b := false) false rfl rfl (hD 3 40 (by kernel_rfl))) (exec_fldo 25 6 6 (.tmp 43) (b5) (0) (6) rfl (hD 6 43 (by kernel_rfl)) (by kernel_rfl) rfl) rfl) ?_
        refine fsteps_cons 9 rfl (fun a u hE hD hk => f_val (o := ⟨some 45, _, _, _, _, _⟩) (.int .i64 e.o.qty) rfl (wanted_at (b := false) false rfl rfl (hD 3 40 (by kernel_rfl))) (exec_loadi 3 Try.underlying3 (.tmp 44) ⟨b5, 6, none⟩ (.int .i64 e.o.qty) rfl (hD 7 44 (by kernel_rfl)) (range_int (range_kept HB6.out hk) 6 _ rfl)) rfl) ?_
        refine fsteps_cons 10 rfl (fun a u hE hD hk => f_as (show ((decide ((e.o.qty : Int) < (e.n : Int))) : Bool) = false from decide_eq_false (by omega)) (f_val (o := ⟨some 46, _, _, _, _, _⟩) (.bool (decide ((e.o.qty : Int) < (e.n : Int)))) rfl (wanted_at (b := false) false rfl rfl (hD 3 40 (by kernel_rfl))) (exec_gtn (p := e.n) (q := e.o.qty) rfl (hD 5 42 (by kernel_rfl)) (hD 8 45 (by kernel_rfl))) rfl)) ?_
        refine fsteps_cons 11 rfl (fun a u hE hD hk => f_val (o := ⟨some 47, _, _, _, _, _⟩) (.bool false) rfl (wanted_none rfl _) (exec_pickF (.tmp 40) (.const (.bool true)) (.tmp 46) (.bool false) rfl (hD 3 40 (by kernel_rfl)) (hD 9 46 (by kernel_rfl))) rfl) ?_
        refine fsteps_cons 12 rfl (fun a u hE hD hk => f_val (o := ⟨some 48, _, _, _, _, _⟩) (.bool false) rfl (wanted_none rfl _) (exec_move (.tmp 47) (.bool false) rfl (hD 10 47 (by kernel_rfl))) rfl) ?_
        refine fsteps_cons 13 rfl (fun a u hE hD hk => f_val (o := ⟨some 49, _, _, _, _, _⟩) (.pointer (some ⟨b5, 0, none⟩)) rfl (wanted_at (b := false) false rfl rfl (hD 11 48 (by kernel_rfl))) (exec_fldo 35 0 0 (.tmp 14) (b5) (0) (0) rfl (hE 14 (.pointer (some ⟨b5, 0, none⟩)) (by kernel_rfl) (by kernel_rfl)) (by kernel_rfl) rfl) rfl) ?_
        refine fsteps_cons 14 rfl (fun a u hE hD hk => f_val (o := ⟨some 50, _, _, _, _, _⟩) (.pointer (some ⟨b5, 2, none⟩)) rfl (wanted_at (b := false) false rfl rfl (hD 11 48 (by kernel_rfl))) (exec_fldo 25 2 2 (.tmp 49) (b5) (0) (2) rfl (hD 12 49 (by kernel_rfl)) (by kernel_rfl) rfl) rfl) ?_
        refine fsteps_cons 15 rfl (fun a u hE hD hk => f_val (o := ⟨some 51, _, _, _, _, _⟩) (.int .i64 e.o.firm) rfl (wanted_at (b := false) false rfl rfl (hD 11 48 (by kernel_rfl))) (exec_loadi 3 Try.underlying3 (.tmp 50) ⟨b5, 2, none⟩ (.int .i64 e.o.firm) rfl (hD 13 50 (by kernel_rfl)) (range_int (range_kept HB6.out hk) 2 _ rfl)) rfl) ?_
        refine fsteps_cons 16 rfl (fun a u hE hD hk => f_val (o := ⟨some 52, _, _, _, _, _⟩) (.int .i64 firm) rfl (wanted_at (b := false) false rfl rfl (hD 11 48 (by kernel_rfl))) (exec_move (.tmp 1) (.int .i64 firm) rfl (hE 1 (.int .i64 firm) (by kernel_rfl) (by kernel_rfl))) rfl) ?_
        refine fsteps_cons 17 rfl (fun a u hE hD hk => f_as (show ((decide ((e.o.firm : Int) = (firm : Int))) : Bool) = false from decide_eq_false f3) (f_val (o := ⟨some 53, _, _, _, _, _⟩) (.bool (decide ((e.o.firm : Int) = (firm : Int)))) rfl (wanted_at (b := false) false rfl rfl (hD 11 48 (by kernel_rfl))) (exec_eqn (p := e.o.firm) (q := firm) rfl (hD 14 51 (by kernel_rfl)) (hD 15 52 (by kernel_rfl))) rfl)) ?_
        refine fsteps_cons 18 rfl (fun a u hE hD hk => f_val (o := ⟨some 54, _, _, _, _, _⟩) (.bool false) rfl (wanted_none rfl _) (exec_pickF (.tmp 48) (.const (.bool true)) (.tmp 53) (.bool false) rfl (hD 11 48 (by kernel_rfl)) (hD 16 53 (by kernel_rfl))) rfl) ?_
        refine fsteps_cons 19 rfl (fun a u hE hD hk => f_val (o := ⟨some 55, _, _, _, _, _⟩) (.bool false) rfl (wanted_none rfl _) (exec_move (.tmp 54) (.bool false) rfl (hD 17 54 (by kernel_rfl))) rfl) ?_
        refine fsteps_cons 20 rfl (fun a u hE hD hk => f_val (o := ⟨some 56, _, _, _, _, _⟩) (.pointer (some ⟨b5, 0, none⟩)) rfl (wanted_at (b := false) false rfl rfl (hD 18 55 (by kernel_rfl))) (exec_fldo 35 0 0 (.tmp 14) (b5) (0) (0) rfl (hE 14 (.pointer (some ⟨b5, 0, none⟩)) (by kernel_rfl) (by kernel_rfl)) (by kernel_rfl) rfl) rfl) ?_
        refine fsteps_cons 21 rfl (fun a u hE hD hk => f_val (o := ⟨some 57, _, _, _, _, _⟩) (.pointer (some ⟨b5, 7, none⟩)) rfl (wanted_at (b := false) false rfl rfl (hD 18 55 (by kernel_rfl))) (exec_fldo 25 7 7 (.tmp 56) (b5) (0) (7) rfl (hD 19 56 (by kernel_rfl)) (by kernel_rfl) rfl) rfl) ?_
        refine fsteps_cons 22 rfl (fun a u hE hD hk => f_val (o := ⟨some 58, _, _, _, _, _⟩) (.int .i64 e.o.shw) rfl (wanted_at (b := false) false rfl rfl (hD 18 55 (by kernel_rfl))) (exec_loadi 3 Try.underlying3 (.tmp 57) ⟨b5, 7, none⟩ (.int .i64 e.o.shw) rfl (hD 20 57 (by kernel_rfl)) (range_int (range_kept HB6.out hk) 7 _ rfl)) rfl) ?_
        refine fsteps_cons 23 rfl (fun a u hE hD hk => f_val (o := ⟨some 59, _, _, _, _, _⟩) (.bool (decide ((0 : Int) < (e.o.shw : Int)))) rfl (wanted_at (b := false) false rfl rfl (hD 18 55 (by kernel_rfl))) (exec_gtn (p := e.o.shw) (q := 0) rfl (hD 21 58 (by kernel_rfl)) rfl) rfl) ?_
        refine fsteps_cons 24 rfl (fun a u hE hD hk => f_val (o := ⟨some 60, _, _, _, _, _⟩) (.bool (decide ((0 : Int) < (e.o.shw : Int)))) rfl (wanted_at (b := false) false rfl rfl (hD 18 55 (by kernel_rfl))) (exec_move (.tmp 59) (.bool (decide ((0 : Int) < (e.o.shw : Int)))) rfl (hD 22 59 (by kernel_rfl))) rfl) ?_
        refine fsteps_cons 25 rfl (fun a u hE hD hk => f_if ((decide ((0 : Int) < (e.o.shw : Int)))) rfl rfl rfl (hD 23 60 (by kernel_rfl)) (fun hb => f_val (o := ⟨some 61, _, _, _, _, _⟩) (.pointer (some ⟨b5, 9, none⟩)) rfl (wanted_b rfl rfl (hD 23 60 (by kernel_rfl)) (eq_true_of hb)) (exec_fldo 35 1 9 (.tmp 14) (b5) (0) (9) rfl (hE 14 (.pointer (some ⟨b5, 0, none⟩)) (by kernel_rfl) (by kernel_rfl)) (by kernel_rfl) rfl) rfl)) ?_
        refine fsteps_cons 26 rfl (fun a u hE hD hk => f_if ((decide ((0 : Int) < (e.o.shw : Int)))) rfl rfl rfl (hD 23 60 (by kernel_rfl)) (fun hb => f_val (o := ⟨some 62, _, _, _, _, _⟩) (.int .i64 e.n) rfl (wanted_b rfl rfl (hD 23 60 (by kernel_rfl)) (eq_true_of hb)) (exec_loadi 3 Try.underlying3 (.tmp 61) ⟨b5, 9, none⟩ (.int .i64 e.n) rfl ((hD 24 61 (by kernel_rfl)).1 hb) (range_int (range_kept HB6.out hk) 9 _ rfl)) rfl)) ?_
        refine fsteps_cons 27 rfl (fun a u hE hD hk => f_if ((decide ((0 : Int) < (e.o.shw : Int)))) rfl rfl rfl (hD 23 60 (by kernel_rfl)) (fun hb => f_val (o := ⟨some 63, _, _, _, _, _⟩) (.pointer (some ⟨b5, 0, none⟩)) rfl (wanted_b rfl rfl (hD 23 60 (by kernel_rfl)) (eq_true_of hb)) (exec_fldo 35 0 0 (.tmp 14) (b5) (0) (0) rfl (hE 14 (.pointer (some ⟨b5, 0, none⟩)) (by kernel_rfl) (by kernel_rfl)) (by kernel_rfl) rfl) rfl)) ?_
        refine fsteps_cons 28 rfl (fun a u hE hD hk => f_if ((decide ((0 : Int) < (e.o.shw : Int)))) rfl rfl rfl (hD 23 60 (by kernel_rfl)) (fun hb => f_val (o := ⟨some 64, _, _, _, _, _⟩) (.pointer (some ⟨b5, 7, none⟩)) rfl (wanted_b rfl rfl (hD 23 60 (by kernel_rfl)) (eq_true_of hb)) (exec_fldo 25 7 7 (.tmp 63) (b5) (0) (7) rfl ((hD 26 63 (by kernel_rfl)).1 hb) (by kernel_rfl) rfl) rfl)) ?_
        refine fsteps_cons 29 rfl (fun a u hE hD hk => f_if ((decide ((0 : Int) < (e.o.shw : Int)))) rfl rfl rfl (hD 23 60 (by kernel_rfl)) (fun hb => f_val (o := ⟨some 65, _, _, _, _, _⟩) (.int .i64 e.o.shw) rfl (wanted_b rfl rfl (hD 23 60 (by kernel_rfl)) (eq_true_of hb)) (exec_loadi 3 Try.underlying3 (.tmp 64) ⟨b5, 7, none⟩ (.int .i64 e.o.shw) rfl ((hD 27 64 (by kernel_rfl)).1 hb) (range_int (range_kept HB6.out hk) 7 _ rfl)) rfl)) ?_
        refine fsteps_cons 30 rfl (fun a u hE hD hk => f_if ((decide ((0 : Int) < (e.o.shw : Int)))) rfl rfl rfl (hD 23 60 (by kernel_rfl)) (fun hb => f_val (o := ⟨some 66, _, _, _, _, _⟩) (.bool (decide ((e.o.shw : Int) < (e.n : Int)))) rfl (wanted_b rfl rfl (hD 23 60 (by kernel_rfl)) (eq_true_of hb)) (exec_gtn (p := e.n) (q := e.o.shw) rfl ((hD 25 62 (by kernel_rfl)).1 hb) ((hD 28 65 (by kernel_rfl)).1 hb)) rfl)) ?_
        refine fsteps_cons 31 rfl (fun a u hE hD hk => f_val (o := ⟨some 67, _, _, _, _, _⟩) (.bool ((decide ((0 : Int) < (e.o.shw : Int))) && (decide ((e.o.shw : Int) < (e.n : Int))))) rfl (wanted_at (b := false) false rfl rfl (hD 18 55 (by kernel_rfl))) (exec_pickand (.tmp 60) (.tmp 66) (.const (.bool false)) ((decide ((0 : Int) < (e.o.shw : Int)))) ((decide ((e.o.shw : Int) < (e.n : Int)))) rfl (hD 23 60 (by kernel_rfl)) (fun hb2 => ((hD 29 66 (by kernel_rfl)).1 hb2)) rfl) rfl) ?_
        refine fsteps_cons 32 rfl (fun a u hE hD hk => f_as (show (((decide ((0 : Int) < (e.o.shw : Int))) && (decide ((e.o.shw : Int) < (e.n : Int)))) : Bool) = false from (by by_cases h : 0 < e.o.shw; (rw [decide_eq_false (show ¬ e.o.shw < e.n by have := f5 h; omega), Bool.and_false]); (rw [decide_eq_false h, Bool.false_and]))) (f_val (o := ⟨some 68, _, _, _, _, _⟩) (.bool ((decide ((0 : Int) < (e.o.shw : Int))) && (decide ((e.o.shw : Int) < (e.n : Int))))) rfl (wanted_none rfl _) (exec_pickF (.tmp 55) (.const (.bool true)) (.tmp 67) (.bool ((decide ((0 : Int) < (e.o.shw : Int))) && (decide ((e.o.shw : Int) < (e.n : Int))))) rfl (hD 18 55 (by kernel_rfl)) (hD 30 67 (by kernel_rfl))) rfl)) ?_
        exact fsteps_nil
      intro gv w8 hV k8
      rw [show dstsOf _ 32 = [37, 38, 39, 40, 41, 42, 43, 44, 45, 46, 47, 48, 49, 50, 51, 52, 53, 54, 55, 56, 57, 58, 59, 60, 61, 62, 63, 64, 65, 66, 67, 68] by kernel_rfl]
      simp only [List.foldl_cons, List.foldl_nil, List.setIfInBounds_toArray, List.set_cons_succ, List.set_cons_zero, List.drop_succ_cons, List.drop_zero]
      rw [show gv 68 = .bool false from hV 31 68 (by kernel_rfl)]
      clear hV
      refine wpList_nil ?_
      have HB8 := Lib.hid (range_kept HB6.out k8)
      have kw8 := kw7.trans k8
      have k58 := k57.trans k8
      clear HB6 kw7 k57 k8 f3 f5
      go_upto_region 13 with fail
      refine wp_text 4 [.eq (.int .i64 s), .eq (.pointer (some ⟨b5, 9, none⟩)), .eq (.int .i64 e.n), .eq (.int .i64 ((s : Int) + (e.n : Int)))] rfl (by kernel_rfl) ?_ ?_
      · refine fsteps_cons 1 rfl (fun a u hE hD hk => f_val (o := ⟨some 69, _, _, _, _, _⟩) (.int .i64 s) rfl (wanted_none rfl _) (exec_move (.tmp 12) (.int .i64 s) rfl (hE 12 (.int .i64 s) (by kernel_rfl) (by kernel_rfl))) rfl) ?_
        refine fsteps_cons 2 rfl (fun a u hE hD hk => f_val (o := ⟨some 70, _, _, _, _, _⟩) (.pointer (some ⟨b5, 9, none⟩)) rfl (wanted_none rfl _) (exec_fldo 35 1 9 (.tmp 14) (b5) (0) (9) rfl (hE 14 (.pointer (some ⟨b5, 0, none⟩)) (by kernel_rfl) (by kernel_rfl)) (by kernel_rfl) rfl) rfl) ?_
        refine fsteps_cons 3 rfl (fun a u hE hD hk => f_val (o := ⟨some 71, _, _, _, _, _⟩) (.int .i64 e.n) rfl (wanted_none rfl _) (exec_loadi 3 Try.underlying3 (.tmp 70) ⟨b5, 9, none⟩ (.int .i64 e.n) rfl (hD 1 70 (by kernel_rfl)) (range_int (range_kept HB8.out hk) 9 _ rfl)) rfl) ?_
        refine fsteps_cons 4 rfl (fun a u hE hD hk => f_val (o := ⟨some 72, _, _, _, _, _⟩) (.int .i64 ((s : Int) + (e.n : Int))) rfl (wanted_none rfl _) (exec_addn (p := (s)) (q := (e.n)) ((s : Int) + (e.n : Int)) rfl (hD 0 69 (by kernel_rfl)) (hD 2 71 (by kernel_rfl)) rfl (by omega) (by omega)) rfl) ?_
        exact fsteps_nil
      intro gv w9 hV k9
      rw [show dstsOf _ 4 = [69, 70, 71, 72] by kernel_rfl]
      simp only [List.foldl_cons, List.foldl_nil, List.setIfInBounds_toArray, List.set_cons_succ, List.set_cons_zero, List.drop_succ_cons, List.drop_zero]
      rw [show gv 72 = .int .i64 ((s : Int) + (e.n : Int)) from hV 3 72 (by kernel_rfl)]
      clear hV
      refine l_val (o := ⟨some 12, _, _, _, _, _⟩) (.int .i64 ((s : Int) + (e.n : Int))) rfl (exec_assign (.tmp 72) (.int .i64 ((s : Int) + (e.n : Int))) rfl (by kernel_rfl)) ?_
      simp only [Act.put, List.setIfInBounds_toArray, List.set_cons_succ, List.set_cons_zero]
      refine wpList_nil ?_
      have kw9 := kw8.trans k9
      have k59 := k58.trans k9
      clear kw8 k58 k9 HB8
      go_wp2
      exact ⟨⟨i + 1, s + e.n, by omega, by go_num, rfl, HQ2.out, kw9, k59⟩, by simp [intOf]; omega⟩
    · have hs : s = S := by
        rw [HSM.out, List.take_of_length_le (by rw [HM.out]; omega), HSS.out]
      subst hs
      have HLr := Lib.hid (HL5.out.kept hk5)
      clear HSM hk5 HL5 HS5 HM HH HE1
      go_upto_region 15 with fail
      refine wp_text 18 [.eq (.pointer (some ⟨p, 0, none⟩)), .eq (.int .i64 W2), .eq (.int .i64 W1), .eq (.int .i64 s), .eq (.int .i64 ((W1 : Int) - (s : Int))), .eq (.bool false), .eq (.bool false), .eq (.int .i64 s), .eq (.int .i64 n), .eq (.bool false), .eq (.bool false), .eq (.bool false), .eq (.pointer (some ⟨p, 0, none⟩)), .eq (.int .i64 S2), .eq (.pointer (some ⟨p, 0, none⟩)), .eq (.int .i64 W2), .eq (.bool false), .eq (.bool false)] rfl (by kernel_rfl) ?_ ?_
      · refine fsteps_cons 1 rfl (fun a u hE hD hk => f_val (o := ⟨some 74, _, _, _, _, _⟩) (.pointer (some ⟨p, 0, none⟩)) rfl (wanted_none rfl _) (exec_move (.tmp 7) (.pointer (some ⟨p, 0, none⟩)) rfl (hE 7 (.pointer (some ⟨p, 0, none⟩)) (by kernel_rfl) (by kernel_rfl))) rfl) ?_
        refine fsteps_cons 2 rfl (fun a u hE hD hk => f_call (o := ⟨some 75, _, _, _, _, _⟩) 25 #[.pointer (some ⟨p, 0, none⟩)] rfl (wanted_none rfl _) (exec_call 25 _ [.tmp 74] _ [.pointer (some ⟨p, 0, none⟩)] Try.func25 (by kernel_rfl) (by kernel_rfl) rfl (show [a.eval (.tmp 74)] = [.pointer (some ⟨p, 0, none⟩)] from (by rw [show a.eval (.tmp 74) = .pointer (some ⟨p, 0, none⟩) from (hD 0 74 (by kernel_rfl))] <;> rfl)) u) ((by rw [← HW2.out]; exact whole_any u F' p Y (HLr.out.kept hk) HY.out))) ?_
        refine fsteps_cons 3 rfl (fun a u hE hD hk => f_val (o := ⟨some 76, _, _, _, _, _⟩) (.int .i64 W1) rfl (wanted_none rfl _) (exec_move (.tmp 9) (.int .i64 W1) rfl (hE 9 (.int .i64 W1) (by kernel_rfl) (by kernel_rfl))) rfl) ?_
        refine fsteps_cons 4 rfl (fun a u hE hD hk => f_val (o := ⟨some 77, _, _, _, _, _⟩) (.int .i64 s) rfl (wanted_none rfl _) (exec_move (.tmp 12) (.int .i64 s) rfl (hE 12 (.int .i64 s) (by kernel_rfl) (by kernel_rfl))) rfl) ?_
        refine fsteps_cons 5 rfl (fun a u hE hD hk => f_val (o := ⟨some 78, _, _, _, _, _⟩) (.int .i64 ((W1 : Int) - (s : Int))) rfl (wanted_none rfl _) (exec_subn (p := (W1)) (q := (s)) ((W1 : Int) - (s : Int)) rfl (hD 2 76 (by kernel_rfl)) (hD 3 77 (by kernel_rfl)) rfl (by omega) (by omega)) rfl) ?_
        refine fsteps_cons 6 rfl (fun a u hE hD hk => f_as (show ((decide ((W2 : Int) ≠ (((W1 : Int) - (s : Int)) : Int))) : Bool) = false from decide_eq_false (by omega)) (f_val (o := ⟨some 79, _, _, _, _, _⟩) (.bool (decide ((W2 : Int) ≠ (((W1 : Int) - (s : Int)) : Int)))) rfl (wanted_none rfl _) (exec_nen (p := W2) (q := ((W1 : Int) - (s : Int))) rfl (hD 1 75 (by kernel_rfl)) (hD 4 78 (by kernel_rfl))) rfl)) ?_
        refine fsteps_cons 7 rfl (fun a u hE hD hk => f_val (o := ⟨some 80, _, _, _, _, _⟩) (.bool false) rfl (wanted_none rfl _) (exec_move (.tmp 79) (.bool false) rfl (hD 5 79 (by kernel_rfl))) rfl) ?_
        refine fsteps_cons 8 rfl (fun a u hE hD hk => f_val (o := ⟨some 81, _, _, _, _, _⟩) (.int .i64 s) rfl (wanted_at (b := false) false rfl rfl (hD 6 80 (by kernel_rfl))) (exec_move (.tmp 12) (.int .i64 s) rfl (hE 12 (.int .i64 s) (by kernel_rfl) (by kernel_rfl))) rfl) ?_
        refine fsteps_cons 9 rfl (fun a u hE hD hk => f_val (o := ⟨some 82, _, _, _, _, _⟩) (.int .i64 n) rfl (wanted_at (b := false) false rfl rfl (hD 6 80 (by kernel_rfl))) (exec_move (.tmp 8) (.int .i64 n) rfl (hE 8 (.int .i64 n) (by kernel_rfl) (by kernel_rfl))) rfl) ?_
        refine fsteps_cons 10 rfl (fun a u hE hD hk => f_as (show ((decide ((n : Int) < (s : Int))) : Bool) = false from decide_eq_false (by omega)) (f_val (o := ⟨some 83, _, _, _, _, _⟩) (.bool (decide ((n : Int) < (s : Int)))) rfl (wanted_at (b := false) false rfl rfl (hD 6 80 (by kernel_rfl))) (exec_gtn (p := s) (q := n) rfl (hD 7 81 (by kernel_rfl)) (hD 8 82 (by kernel_rfl))) rfl)) ?_
        refine fsteps_cons 11 rfl (fun a u hE hD hk => f_val (o := ⟨some 84, _, _, _, _, _⟩) (.bool false) rfl (wanted_none rfl _) (exec_pickF (.tmp 80) (.const (.bool true)) (.tmp 83) (.bool false) rfl (hD 6 80 (by kernel_rfl)) (hD 9 83 (by kernel_rfl))) rfl) ?_
        refine fsteps_cons 12 rfl (fun a u hE hD hk => f_val (o := ⟨some 85, _, _, _, _, _⟩) (.bool false) rfl (wanted_none rfl _) (exec_move (.tmp 84) (.bool false) rfl (hD 10 84 (by kernel_rfl))) rfl) ?_
        refine fsteps_cons 13 rfl (fun a u hE hD hk => f_val (o := ⟨some 86, _, _, _, _, _⟩) (.pointer (some ⟨p, 0, none⟩)) rfl (wanted_at (b := false) false rfl rfl (hD 11 85 (by kernel_rfl))) (exec_move (.tmp 7) (.pointer (some ⟨p, 0, none⟩)) rfl (hE 7 (.pointer (some ⟨p, 0, none⟩)) (by kernel_rfl) (by kernel_rfl))) rfl) ?_
        refine fsteps_cons 14 rfl (fun a u hE hD hk => f_call (o := ⟨some 87, _, _, _, _, _⟩) 12 #[.pointer (some ⟨p, 0, none⟩)] rfl (wanted_at (b := false) false rfl rfl (hD 11 85 (by kernel_rfl))) (exec_call 12 _ [.tmp 86] _ [.pointer (some ⟨p, 0, none⟩)] Try.func12 (by kernel_rfl) (by kernel_rfl) rfl (show [a.eval (.tmp 86)] = [.pointer (some ⟨p, 0, none⟩)] from (by rw [show a.eval (.tmp 86) = .pointer (some ⟨p, 0, none⟩) from (hD 12 86 (by kernel_rfl))] <;> rfl)) u) ((by rw [← HS2.out]; exact seen_any u F' p Y (HLr.out.kept hk) HY.out))) ?_
        refine fsteps_cons 15 rfl (fun a u hE hD hk => f_val (o := ⟨some 88, _, _, _, _, _⟩) (.pointer (some ⟨p, 0, none⟩)) rfl (wanted_at (b := false) false rfl rfl (hD 11 85 (by kernel_rfl))) (exec_move (.tmp 7) (.pointer (some ⟨p, 0, none⟩)) rfl (hE 7 (.pointer (some ⟨p, 0, none⟩)) (by kernel_rfl) (by kernel_rfl))) rfl) ?_
        refine fsteps_cons 16 rfl (fun a u hE hD hk => f_call (o := ⟨some 89, _, _, _, _, _⟩) 25 #[.pointer (some ⟨p, 0, none⟩)] rfl (wanted_at (b := false) false rfl rfl (hD 11 85 (by kernel_rfl))) (exec_call 25 _ [.tmp 88] _ [.pointer (some ⟨p, 0, none⟩)] Try.func25 (by kernel_rfl) (by kernel_rfl) rfl (show [a.eval (.tmp 88)] = [.pointer (some ⟨p, 0, none⟩)] from (by rw [show a.eval (.tmp 88) = .pointer (some ⟨p, 0, none⟩) from (hD 14 88 (by kernel_rfl))] <;> rfl)) u) ((by rw [← HW2.out]; exact whole_any u F' p Y (HLr.out.kept hk) HY.out))) ?_
        refine fsteps_cons 17 rfl (fun a u hE hD hk => f_as (show ((decide ((W2 : Int) < (S2 : Int))) : Bool) = false from decide_eq_false (by omega)) (f_val (o := ⟨some 90, _, _, _, _, _⟩) (.bool (decide ((W2 : Int) < (S2 : Int)))) rfl (wanted_at (b := false) false rfl rfl (hD 11 85 (by kernel_rfl))) (exec_gtn (p := S2) (q := W2) rfl (hD 13 87 (by kernel_rfl)) (hD 15 89 (by kernel_rfl))) rfl)) ?_
        refine fsteps_cons 18 rfl (fun a u hE hD hk => f_val (o := ⟨some 91, _, _, _, _, _⟩) (.bool false) rfl (wanted_none rfl _) (exec_pickF (.tmp 85) (.const (.bool true)) (.tmp 90) (.bool false) rfl (hD 11 85 (by kernel_rfl)) (hD 16 90 (by kernel_rfl))) rfl) ?_
        exact fsteps_nil
      intro gv w10 hV k10
      rw [show dstsOf _ 18 = [74, 75, 76, 77, 78, 79, 80, 81, 82, 83, 84, 85, 86, 87, 88, 89, 90, 91] by kernel_rfl]
      simp only [List.foldl_cons, List.foldl_nil, List.setIfInBounds_toArray, List.set_cons_succ, List.set_cons_zero, List.drop_succ_cons, List.drop_zero]
      rw [show gv 91 = .bool false from hV 17 91 (by kernel_rfl)]
      clear hV
      refine wpList_nil ?_
      have HL10 := Lib.hid (HLr.out.kept k10)
      have kw10 := hkr.trans k10
      clear HLr hkr k10
      go_upto_region 17 with fail
      refine wp_text 2 [.eq (.pointer (some ⟨p, 0, none⟩)), .sl w10.heap.size 25 9 Y.length (ords (Y.map (·.o)))] rfl (by kernel_rfl) ?_ ?_
      · refine fsteps_cons 1 rfl (fun a u hE hD hk => f_val (o := ⟨some 92, _, _, _, _, _⟩) (.pointer (some ⟨p, 0, none⟩)) rfl (wanted_none rfl _) (exec_move (.tmp 7) (.pointer (some ⟨p, 0, none⟩)) rfl (hE 7 (.pointer (some ⟨p, 0, none⟩)) (by kernel_rfl) (by kernel_rfl))) rfl) ?_
        refine fsteps_cons 2 rfl (fun a u hE hD hk => f_call (o := ⟨some 93, _, _, _, _, _⟩) 13 #[.pointer (some ⟨p, 0, none⟩)] rfl (wanted_none rfl _) (exec_call 13 _ [.tmp 92] _ [.pointer (some ⟨p, 0, none⟩)] Try.func13 (by kernel_rfl) (by kernel_rfl) rfl (show [a.eval (.tmp 92)] = [.pointer (some ⟨p, 0, none⟩)] from (by rw [show a.eval (.tmp 92) = .pointer (some ⟨p, 0, none⟩) from (hD 0 92 (by kernel_rfl))] <;> rfl)) u) ((orders_any u F' p Y (HL10.out.kept hk) HY.out).mono (fun e w' ⟨v, h1, h2, h3⟩ => ⟨v, h1, ⟨h2.1, fun b hb => Nat.le_trans hk.size (h2.2 b hb)⟩, h3⟩))) ?_
        exact fsteps_nil
      intro gv w11 hV k11
      rw [show dstsOf _ 2 = [92, 93] by kernel_rfl]
      simp only [List.foldl_cons, List.foldl_nil, List.setIfInBounds_toArray, List.set_cons_succ, List.set_cons_zero, List.drop_succ_cons, List.drop_zero]
      have hv93 : (.sl w10.heap.size 25 9 Y.length (ords (Y.map (·.o))) : Kn).p (gv 93) w11 := hV 1 93 (by kernel_rfl)
      generalize gv 93 = v93 at hv93 ⊢
      clear hV
      refine l_val (o := ⟨some 15, _, _, _, _, _⟩) (v93) rfl (exec_assign (.tmp 93) (v93) rfl (by kernel_rfl)) ?_
      simp only [Act.put, List.setIfInBounds_toArray, List.set_cons_succ, List.set_cons_zero]
      refine wpList_nil ?_
      have HL11 := Lib.hid (HL10.out.kept k11)
      have HV := Lib.hid hv93.1
      have kw11 := kw10.trans k11
      clear HL10 hv93 k11 kw10
      cases self with
      | true =>
        obtain ⟨e, R, rfl, hf, hlt2⟩ := HE2.out rfl
        obtain ⟨ny, hny⟩ : ∃ ny, (e :: R).length = ny := ⟨_, rfl⟩
        have hny0 : 0 < ny := by rw [← hny]; simp
        rw [hny] at HV
        obtain ⟨g, off, c, rfl⟩ := HV.out.some_ hny0
        have HE : Hid (w11.rangeAt g off e.o.cells) := HV.out.rngO 0 e.o rfl
        clear hny HV
        clear HE2 HE3
        go_upto_region 19 with fail
        refine wp_text 19 [.eq (.slice (some ⟨g, off, none⟩) ny c), .eq (.int .i64 (ny : Int)), .eq (.bool true), .eq (.bool true), .eq (.slice (some ⟨g, off, none⟩) ny c), .eq (.pointer (some ⟨g, off, none⟩)), .eq (.pointer (some ⟨g, off + 2, none⟩)), .eq (.int .i64 e.o.firm), .eq (.int .i64 firm), .eq (.bool true), .eq (.bool true), .eq (.bool true), .eq (.int .i64 s), .eq (.int .i64 n), .eq (.bool true), .eq (.bool true), .eq (.bool true), .eq (.bool true), .eq (.bool true)] rfl (by kernel_rfl) ?_ ?_
        · refine fsteps_cons 1 rfl (fun a u hE hD hk => f_val (o := ⟨some 95, _, _, _, _, _⟩) (.slice (some ⟨g, off, none⟩) ny c) rfl (wanted_none rfl _) (exec_move (.tmp 15) (.slice (some ⟨g, off, none⟩) ny c) rfl (hE 15 (.slice (some ⟨g, off, none⟩) ny c) (by kernel_rfl) (by kernel_rfl))) rfl) ?_
          refine fsteps_cons 2 rfl (fun a u hE hD hk => f_val (o := ⟨some 96, _, _, _, _, _⟩) (.int .i64 (ny : Int)) rfl (wanted_none rfl _) (exec_len (.tmp 95) _ _ slO.und (some ⟨g, off, none⟩) ny c rfl (hD 0 95 (by kernel_rfl))) rfl) ?_
          refine fsteps_cons 3 rfl (fun a u hE hD hk => f_as (show ((decide ((0 : Int) < ((ny : Int) : Int))) : Bool) = true from decide_eq_true (by omega)) (f_val (o := ⟨some 97, _, _, _, _, _⟩) (.bool (decide ((0 : Int) < ((ny : Int) : Int)))) rfl (wanted_none rfl _) (exec_gtn (p := (ny : Int)) (q := 0) rfl (hD 1 96 (by kernel_rfl)) rfl) rfl)) ?_
          refine fsteps_cons 4 rfl (fun a u hE hD hk => f_val (o := ⟨some 98, _, _, _, _, _⟩) (.bool true) rfl (wanted_none rfl _) (exec_move (.tmp 97) (.bool true) rfl (hD 2 97 (by kernel_rfl))) rfl) ?_
          refine fsteps_cons 5 rfl (fun a u hE hD hk => f_val (o := ⟨some 99, _, _, _, _, _⟩) (.slice (some ⟨g, off, none⟩) ny c) rfl (wanted_at (b := true) true rfl rfl (hD 3 98 (by kernel_rfl))) (exec_move (.tmp 15) (.slice (some ⟨g, off, none⟩) ny c) rfl (hE 15 (.slice (some ⟨g, off, none⟩) ny c) (by kernel_rfl) (by kernel_rfl))) rfl) ?_
          refine fsteps_cons 6 rfl (fun a u hE hD hk => f_val (o := ⟨some 100, _, _, _, _, _⟩) (.pointer (some ⟨g, off, none⟩)) rfl (wanted_at (b := true) true rfl rfl (hD 3 98 (by kernel_rfl))) (exec_ixo slO (.tmp 99) (.const (.int .i64 0)) (g) (off) ny c 0 (off) (0) rfl (hD 4 99 (by kernel_rfl)) rfl (by first | rfl | omega) (hny0) (by first | rfl | omega)) rfl) ?_
          refine fsteps_cons 7 rfl (fun a u hE hD hk => f_val (o := ⟨some 101, _, _, _, _, _⟩) (.pointer (some ⟨g, off + 2, none⟩)) rfl (wanted_at (b := true) true rfl rfl (hD 3 98 (by kernel_rfl))) (exec_fldo 25 2 2 (.tmp 100) (g) (off) (off + 2) rfl (hD 5 100 (by kernel_rfl)) (by kernel_rfl) rfl) rfl) ?_
          refine fsteps_cons 8 rfl (fun a u hE hD hk => f_val (o := ⟨some 102, _, _, _, _, _⟩) (.int .i64 e.o.firm) rfl (wanted_at (b := true) true rfl rfl (hD 3 98 (by kernel_rfl))) (exec_loadi 3 Try.underlying3 (.tmp 101) ⟨g, off + 2, none⟩ (.int .i64 e.o.firm) rfl (hD 6 101 (by kernel_rfl)) (range_int (range_kept HE.out hk) 2 _ rfl)) rfl) ?_
          refine fsteps_cons 9 rfl (fun a u hE hD hk => f_val (o := ⟨some 103, _, _, _, _, _⟩) (.int .i64 firm) rfl (wanted_at (b := true) true rfl rfl (hD 3 98 (by kernel_rfl))) (exec_move (.tmp 1) (.int .i64 firm) rfl (hE 1 (.int .i64 firm) (by kernel_rfl) (by kernel_rfl))) rfl) ?_
          refine fsteps_cons 10 rfl (fun a u hE hD hk => f_as (show ((decide ((e.o.firm : Int) = (firm : Int))) : Bool) = true from decide_eq_true hf) (f_val (o := ⟨some 104, _, _, _, _, _⟩) (.bool (decide ((e.o.firm : Int) = (firm : Int)))) rfl (wanted_at (b := true) true rfl rfl (hD 3 98 (by kernel_rfl))) (exec_eqn (p := e.o.firm) (q := firm) rfl (hD 7 102 (by kernel_rfl)) (hD 8 103 (by kernel_rfl))) rfl)) ?_
          refine fsteps_cons 11 rfl (fun a u hE hD hk => f_val (o := ⟨some 105, _, _, _, _, _⟩) (.bool true) rfl (wanted_none rfl _) (exec_pick (.tmp 98) (.tmp 104) (.const (.bool false)) (.bool true) rfl (hD 3 98 (by kernel_rfl)) (hD 9 104 (by kernel_rfl))) rfl) ?_
          refine fsteps_cons 12 rfl (fun a u hE hD hk => f_val (o := ⟨some 106, _, _, _, _, _⟩) (.bool true) rfl (wanted_none rfl _) (exec_move (.tmp 105) (.bool true) rfl (hD 10 105 (by kernel_rfl))) rfl) ?_
          refine fsteps_cons 13 rfl (fun a u hE hD hk => f_val (o := ⟨some 107, _, _, _, _, _⟩) (.int .i64 s) rfl (wanted_at (b := true) true rfl rfl (hD 11 106 (by kernel_rfl))) (exec_move (.tmp 12) (.int .i64 s) rfl (hE 12 (.int .i64 s) (by kernel_rfl) (by kernel_rfl))) rfl) ?_
          refine fsteps_cons 14 rfl (fun a u hE hD hk => f_val (o := ⟨some 108, _, _, _, _, _⟩) (.int .i64 n) rfl (wanted_at (b := true) true rfl rfl (hD 11 106 (by kernel_rfl))) (exec_move (.tmp 8) (.int .i64 n) rfl (hE 8 (.int .i64 n) (by kernel_rfl) (by kernel_rfl))) rfl) ?_
          refine fsteps_cons 15 rfl (fun a u hE hD hk => f_as (show ((decide ((s : Int) < (n : Int))) : Bool) = true from decide_eq_true hlt2) (f_val (o := ⟨some 109, _, _, _, _, _⟩) (.bool (decide ((s : Int) < (n : Int)))) rfl (wanted_at (b := true) true rfl rfl (hD 11 106 (by kernel_rfl))) (exec_ltn (p := s) (q := n) rfl (hD 12 107 (by kernel_rfl)) (hD 13 108 (by kernel_rfl))) rfl)) ?_
          refine fsteps_cons 16 rfl (fun a u hE hD hk => f_val (o := ⟨some 110, _, _, _, _, _⟩) (.bool true) rfl (wanted_none rfl _) (exec_pick (.tmp 106) (.tmp 109) (.const (.bool false)) (.bool true) rfl (hD 11 106 (by kernel_rfl)) (hD 14 109 (by kernel_rfl))) rfl) ?_
          refine fsteps_cons 17 rfl (fun a u hE hD hk => f_val (o := ⟨some 111, _, _, _, _, _⟩) (.bool true) rfl (wanted_none rfl _) (exec_move (.tmp 110) (.bool true) rfl (hD 15 110 (by kernel_rfl))) rfl) ?_
          refine fsteps_cons 18 rfl (fun a u hE hD hk => f_call (o := ⟨some 112, _, _, _, _, _⟩) 3 #[] rfl (wanted_at (b := true) true rfl rfl (hD 16 111 (by kernel_rfl))) (exec_call 3 _ [] _ [] Try.func3 (by kernel_rfl) (by kernel_rfl) rfl rfl u) (runs_gives u)) ?_
          refine fsteps_cons 19 rfl (fun a u hE hD hk => f_val (o := ⟨some 113, _, _, _, _, _⟩) (.bool true) rfl (wanted_none rfl _) (exec_pick (.tmp 111) (.tmp 112) (.const (.bool false)) (.bool true) rfl (hD 16 111 (by kernel_rfl)) (hD 17 112 (by kernel_rfl))) rfl) ?_
          exact fsteps_nil
        intro gv w12 hV k12
        rw [show dstsOf _ 19 = [95, 96, 97, 98, 99, 100, 101, 102, 103, 104, 105, 106, 107, 108, 109, 110, 111, 112, 113] by kernel_rfl]
        simp only [List.foldl_cons, List.foldl_nil, List.setIfInBounds_toArray, List.set_cons_succ, List.set_cons_zero, List.drop_succ_cons, List.drop_zero]
        rw [show gv 113 = .bool true from hV 18 113 (by kernel_rfl)]
        clear hV
        refine l_val (o := ⟨some 6, _, _, _, _, _⟩) (.bool true) rfl (exec_assign (.tmp 113) (.bool true) rfl (by kernel_rfl)) ?_
        simp only [Act.put, List.setIfInBounds_toArray, List.set_cons_succ, List.set_cons_zero]
        refine wpList_nil ?_
        go_wp2
        go_ret
        exact ⟨rfl, kw11.trans k12⟩
      | false =>
        rcases HE3.out rfl with h | h
        · subst h
          clear HE2 HE3
          go_upto_region 20 with fail
          refine wp_text 11 [.eq (.int .i64 s), .eq (.int .i64 s), .eq (.bool true), .eq (.bool true), .eq undef, .eq undef, .eq undef, .eq (.bool true), .eq (.bool true), .eq (.bool true), .eq (.bool true)] rfl (by kernel_rfl) ?_ ?_
          · refine fsteps_cons 1 rfl (fun a u hE hD hk => f_val (o := ⟨some 114, _, _, _, _, _⟩) (.int .i64 s) rfl (wanted_none rfl _) (exec_move (.tmp 12) (.int .i64 s) rfl (hE 12 (.int .i64 s) (by kernel_rfl) (by kernel_rfl))) rfl) ?_
            refine fsteps_cons 2 rfl (fun a u hE hD hk => f_val (o := ⟨some 115, _, _, _, _, _⟩) (.int .i64 s) rfl (wanted_none rfl _) (exec_move (.tmp 8) (.int .i64 s) rfl (hE 8 (.int .i64 s) (by kernel_rfl) (by kernel_rfl))) rfl) ?_
            refine fsteps_cons 3 rfl (fun a u hE hD hk => f_as (show ((decide ((s : Int) = (s : Int))) : Bool) = true from decide_eq_true rfl) (f_val (o := ⟨some 116, _, _, _, _, _⟩) (.bool (decide ((s : Int) = (s : Int)))) rfl (wanted_none rfl _) (exec_eqn (p := s) (q := s) rfl (hD 0 114 (by kernel_rfl)) (hD 1 115 (by kernel_rfl))) rfl)) ?_
            refine fsteps_cons 4 rfl (fun a u hE hD hk => f_val (o := ⟨some 117, _, _, _, _, _⟩) (.bool true) rfl (wanted_none rfl _) (exec_move (.tmp 116) (.bool true) rfl (hD 2 116 (by kernel_rfl))) rfl) ?_
            refine fsteps_cons 5 rfl (fun a u hE hD hk => f_skip (o := ⟨some 118, _, _, _, _, _⟩) rfl (wanted_at (b := false) true rfl rfl (hD 3 117 (by kernel_rfl))) rfl) ?_
            refine fsteps_cons 6 rfl (fun a u hE hD hk => f_skip (o := ⟨some 119, _, _, _, _, _⟩) rfl (wanted_at (b := false) true rfl rfl (hD 3 117 (by kernel_rfl))) rfl) ?_
            refine fsteps_cons 7 rfl (fun a u hE hD hk => f_skip (o := ⟨some 120, _, _, _, _, _⟩) rfl (wanted_at (b := false) true rfl rfl (hD 3 117 (by kernel_rfl))) rfl) ?_
            refine fsteps_cons 8 rfl (fun a u hE hD hk => f_val (o := ⟨some 121, _, _, _, _, _⟩) (.bool true) rfl (wanted_none rfl _) (exec_pick (.tmp 117) (.const (.bool true)) (.tmp 120) (.bool true) rfl (hD 3 117 (by kernel_rfl)) rfl) rfl) ?_
            refine fsteps_cons 9 rfl (fun a u hE hD hk => f_val (o := ⟨some 122, _, _, _, _, _⟩) (.bool true) rfl (wanted_none rfl _) (exec_move (.tmp 121) (.bool true) rfl (hD 7 121 (by kernel_rfl))) rfl) ?_
            refine fsteps_cons 10 rfl (fun a u hE hD hk => f_call (o := ⟨some 123, _, _, _, _, _⟩) 3 #[] rfl (wanted_at (b := true) true rfl rfl (hD 8 122 (by kernel_rfl))) (exec_call 3 _ [] _ [] Try.func3 (by kernel_rfl) (by kernel_rfl) rfl rfl u) (runs_gives u)) ?_
            refine fsteps_cons 11 rfl (fun a u hE hD hk => f_val (o := ⟨some 124, _, _, _, _, _⟩) (.bool true) rfl (wanted_none rfl _) (exec_pick (.tmp 122) (.tmp 123) (.const (.bool false)) (.bool true) rfl (hD 8 122 (by kernel_rfl)) (hD 9 123 (by kernel_rfl))) rfl) ?_
            exact fsteps_nil
          intro gv w12 hV k12
          rw [show dstsOf _ 11 = [114, 115, 116, 117, 118, 119, 120, 121, 122, 123, 124] by kernel_rfl]
          simp only [List.foldl_cons, List.foldl_nil, List.setIfInBounds_toArray, List.set_cons_succ, List.set_cons_zero, List.drop_succ_cons, List.drop_zero]
          rw [show gv 124 = .bool true from hV 10 124 (by kernel_rfl)]
          clear hV
          refine l_val (o := ⟨some 6, _, _, _, _, _⟩) (.bool true) rfl (exec_assign (.tmp 124) (.bool true) rfl (by kernel_rfl)) ?_
          simp only [Act.put, List.setIfInBounds_toArray, List.set_cons_succ, List.set_cons_zero]
          refine wpList_nil ?_
          go_wp2
          go_ret
          exact ⟨rfl, kw11.trans k12⟩
        · subst h
          clear HE2 HE3
          by_cases hsn : s = n
          · subst hsn
            go_upto_region 20 with fail
            refine wp_text 11 [.eq (.int .i64 s), .eq (.int .i64 s), .eq (.bool true), .eq (.bool true), .eq undef, .eq undef, .eq undef, .eq (.bool true), .eq (.bool true), .eq (.bool true), .eq (.bool true)] rfl (by kernel_rfl) ?_ ?_
            · refine fsteps_cons 1 rfl (fun a u hE hD hk => f_val (o := ⟨some 114, _, _, _, _, _⟩) (.int .i64 s) rfl (wanted_none rfl _) (exec_move (.tmp 12) (.int .i64 s) rfl (hE 12 (.int .i64 s) (by kernel_rfl) (by kernel_rfl))) rfl) ?_
              refine fsteps_cons 2 rfl (fun a u hE hD hk => f_val (o := ⟨some 115, _, _, _, _, _⟩) (.int .i64 s) rfl (wanted_none rfl _) (exec_move (.tmp 8) (.int .i64 s) rfl (hE 8 (.int .i64 s) (by kernel_rfl) (by kernel_rfl))) rfl) ?_
              refine fsteps_cons 3 rfl (fun a u hE hD hk => f_as (show ((decide ((s : Int) = (s : Int))) : Bool) = true from decide_eq_true rfl) (f_val (o := ⟨some 116, _, _, _, _, _⟩) (.bool (decide ((s : Int) = (s : Int)))) rfl (wanted_none rfl _) (exec_eqn (p := s) (q := s) rfl (hD 0 114 (by kernel_rfl)) (hD 1 115 (by kernel_rfl))) rfl)) ?_
              refine fsteps_cons 4 rfl (fun a u hE hD hk => f_val (o := ⟨some 117, _, _, _, _, _⟩) (.bool true) rfl (wanted_none rfl _) (exec_move (.tmp 116) (.bool true) rfl (hD 2 116 (by kernel_rfl))) rfl) ?_
              refine fsteps_cons 5 rfl (fun a u hE hD hk => f_skip (o := ⟨some 118, _, _, _, _, _⟩) rfl (wanted_at (b := false) true rfl rfl (hD 3 117 (by kernel_rfl))) rfl) ?_
              refine fsteps_cons 6 rfl (fun a u hE hD hk => f_skip (o := ⟨some 119, _, _, _, _, _⟩) rfl (wanted_at (b := false) true rfl rfl (hD 3 117 (by kernel_rfl))) rfl) ?_
              refine fsteps_cons 7 rfl (fun a u hE hD hk => f_skip (o := ⟨some 120, _, _, _, _, _⟩) rfl (wanted_at (b := false) true rfl rfl (hD 3 117 (by kernel_rfl))) rfl) ?_
              refine fsteps_cons 8 rfl (fun a u hE hD hk => f_val (o := ⟨some 121, _, _, _, _, _⟩) (.bool true) rfl (wanted_none rfl _) (exec_pick (.tmp 117) (.const (.bool true)) (.tmp 120) (.bool true) rfl (hD 3 117 (by kernel_rfl)) rfl) rfl) ?_
              refine fsteps_cons 9 rfl (fun a u hE hD hk => f_val (o := ⟨some 122, _, _, _, _, _⟩) (.bool true) rfl (wanted_none rfl _) (exec_move (.tmp 121) (.bool true) rfl (hD 7 121 (by kernel_rfl))) rfl) ?_
              refine fsteps_cons 10 rfl (fun a u hE hD hk => f_call (o := ⟨some 123, _, _, _, _, _⟩) 3 #[] rfl (wanted_at (b := true) true rfl rfl (hD 8 122 (by kernel_rfl))) (exec_call 3 _ [] _ [] Try.func3 (by kernel_rfl) (by kernel_rfl) rfl rfl u) (runs_gives u)) ?_
              refine fsteps_cons 11 rfl (fun a u hE hD hk => f_val (o := ⟨some 124, _, _, _, _, _⟩) (.bool true) rfl (wanted_none rfl _) (exec_pick (.tmp 122) (.tmp 123) (.const (.bool false)) (.bool true) rfl (hD 8 122 (by kernel_rfl)) (hD 9 123 (by kernel_rfl))) rfl) ?_
              exact fsteps_nil
            intro gv w12 hV k12
            rw [show dstsOf _ 11 = [114, 115, 116, 117, 118, 119, 120, 121, 122, 123, 124] by kernel_rfl]
            simp only [List.foldl_cons, List.foldl_nil, List.setIfInBounds_toArray, List.set_cons_succ, List.set_cons_zero, List.drop_succ_cons, List.drop_zero]
            rw [show gv 124 = .bool true from hV 10 124 (by kernel_rfl)]
            clear hV
            refine l_val (o := ⟨some 6, _, _, _, _, _⟩) (.bool true) rfl (exec_assign (.tmp 124) (.bool true) rfl (by kernel_rfl)) ?_
            simp only [Act.put, List.setIfInBounds_toArray, List.set_cons_succ, List.set_cons_zero]
            refine wpList_nil ?_
            go_wp2
            go_ret
            exact ⟨rfl, kw11.trans k12⟩
          · go_upto_region 20 with fail
            refine wp_text 11 [.eq (.int .i64 s), .eq (.int .i64 n), .eq (.bool false), .eq (.bool false), .eq (.pointer (some ⟨p, 0, none⟩)), .eq (.int .i64 (([] : List Ent).length : Int)), .eq (.bool true), .eq (.bool true), .eq (.bool true), .eq (.bool true), .eq (.bool true)] rfl (by kernel_rfl) ?_ ?_
            · refine fsteps_cons 1 rfl (fun a u hE hD hk => f_val (o := ⟨some 114, _, _, _, _, _⟩) (.int .i64 s) rfl (wanted_none rfl _) (exec_move (.tmp 12) (.int .i64 s) rfl (hE 12 (.int .i64 s) (by kernel_rfl) (by kernel_rfl))) rfl) ?_
              refine fsteps_cons 2 rfl (fun a u hE hD hk => f_val (o := ⟨some 115, _, _, _, _, _⟩) (.int .i64 n) rfl (wanted_none rfl _) (exec_move (.tmp 8) (.int .i64 n) rfl (hE 8 (.int .i64 n) (by kernel_rfl) (by kernel_rfl))) rfl) ?_
              refine fsteps_cons 3 rfl (fun a u hE hD hk => f_as (show ((decide ((s : Int) = (n : Int))) : Bool) = false from decide_eq_false hsn) (f_val (o := ⟨some 116, _, _, _, _, _⟩) (.bool (decide ((s : Int) = (n : Int)))) rfl (wanted_none rfl _) (exec_eqn (p := s) (q := n) rfl (hD 0 114 (by kernel_rfl)) (hD 1 115 (by kernel_rfl))) rfl)) ?_
              refine fsteps_cons 4 rfl (fun a u hE hD hk => f_val (o := ⟨some 117, _, _, _, _, _⟩) (.bool false) rfl (wanted_none rfl _) (exec_move (.tmp 116) (.bool false) rfl (hD 2 116 (by kernel_rfl))) rfl) ?_
              refine fsteps_cons 5 rfl (fun a u hE hD hk => f_val (o := ⟨some 118, _, _, _, _, _⟩) (.pointer (some ⟨p, 0, none⟩)) rfl (wanted_at (b := false) false rfl rfl (hD 3 117 (by kernel_rfl))) (exec_move (.tmp 7) (.pointer (some ⟨p, 0, none⟩)) rfl (hE 7 (.pointer (some ⟨p, 0, none⟩)) (by kernel_rfl) (by kernel_rfl))) rfl) ?_
              refine fsteps_cons 6 rfl (fun a u hE hD hk => f_call (o := ⟨some 119, _, _, _, _, _⟩) 27 #[.pointer (some ⟨p, 0, none⟩)] rfl (wanted_at (b := false) false rfl rfl (hD 3 117 (by kernel_rfl))) (exec_call 27 _ [.tmp 118] _ [.pointer (some ⟨p, 0, none⟩)] Try.func27 (by kernel_rfl) (by kernel_rfl) rfl (show [a.eval (.tmp 118)] = [.pointer (some ⟨p, 0, none⟩)] from (by rw [show a.eval (.tmp 118) = .pointer (some ⟨p, 0, none⟩) from (hD 4 118 (by kernel_rfl))] <;> rfl)) u) (len_any u F' p [] (HL11.out.kept hk))) ?_
              refine fsteps_cons 7 rfl (fun a u hE hD hk => f_as (show ((decide (((([] : List Ent).length : Int) : Int) = (0 : Int))) : Bool) = true from (by simp)) (f_val (o := ⟨some 120, _, _, _, _, _⟩) (.bool (decide (((([] : List Ent).length : Int) : Int) = (0 : Int)))) rfl (wanted_at (b := false) false rfl rfl (hD 3 117 (by kernel_rfl))) (exec_eqn (p := (([] : List Ent).length : Int)) (q := 0) rfl (hD 5 119 (by kernel_rfl)) rfl) rfl)) ?_
              refine fsteps_cons 8 rfl (fun a u hE hD hk => f_val (o := ⟨some 121, _, _, _, _, _⟩) (.bool true) rfl (wanted_none rfl _) (exec_pickF (.tmp 117) (.const (.bool true)) (.tmp 120) (.bool true) rfl (hD 3 117 (by kernel_rfl)) (hD 6 120 (by kernel_rfl))) rfl) ?_
              refine fsteps_cons 9 rfl (fun a u hE hD hk => f_val (o := ⟨some 122, _, _, _, _, _⟩) (.bool true) rfl (wanted_none rfl _) (exec_move (.tmp 121) (.bool true) rfl (hD 7 121 (by kernel_rfl))) rfl) ?_
              refine fsteps_cons 10 rfl (fun a u hE hD hk => f_call (o := ⟨some 123, _, _, _, _, _⟩) 3 #[] rfl (wanted_at (b := true) true rfl rfl (hD 8 122 (by kernel_rfl))) (exec_call 3 _ [] _ [] Try.func3 (by kernel_rfl) (by kernel_rfl) rfl rfl u) (runs_gives u)) ?_
              refine fsteps_cons 11 rfl (fun a u hE hD hk => f_val (o := ⟨some 124, _, _, _, _, _⟩) (.bool true) rfl (wanted_none rfl _) (exec_pick (.tmp 122) (.tmp 123) (.const (.bool false)) (.bool true) rfl (hD 8 122 (by kernel_rfl)) (hD 9 123 (by kernel_rfl))) rfl) ?_
              exact fsteps_nil
            intro gv w12 hV k12
            rw [show dstsOf _ 11 = [114, 115, 116, 117, 118, 119, 120, 121, 122, 123, 124] by kernel_rfl]
            simp only [List.foldl_cons, List.foldl_nil, List.setIfInBounds_toArray, List.set_cons_succ, List.set_cons_zero, List.drop_succ_cons, List.drop_zero]
            rw [show gv 124 = .bool true from hV 10 124 (by kernel_rfl)]
            clear hV
            refine l_val (o := ⟨some 6, _, _, _, _, _⟩) (.bool true) rfl (exec_assign (.tmp 124) (.bool true) rfl (by kernel_rfl)) ?_
            simp only [Act.put, List.setIfInBounds_toArray, List.set_cons_succ, List.set_cons_zero]
            refine wpList_nil ?_
            go_wp2
            go_ret
            exact ⟨rfl, kw11.trans k12⟩
end Go.Proofs.Ytlbkehpdohihlaa
