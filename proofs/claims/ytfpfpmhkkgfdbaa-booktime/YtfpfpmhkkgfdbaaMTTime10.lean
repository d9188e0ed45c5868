/-
  BookTime answers true: of plain orders at one price the one that came first gives all ahead of the next. No condition.
-/
import Derived.Test.YtfpfpmhkkgfdbaaQT05
import Derived.Test.YtfpfpmhkkgfdbaaMTTimM10
set_option linter.unusedVariables false
namespace Go.Proofs.Ytfpfpmhkkgfdbaa
open Go.RowKit
set_option maxRecDepth 100000
theorem slI : SlT 68 3 1 8 := ⟨Try.underlying68, by kernel_rfl, ⟨.int .i64 0, by kernel_rfl, rfl, by intro u hu; simp [Value.cells] at hu; subst hu; rfl⟩, by omega⟩
theorem i64s_snoc (l : List Int) (x : Int) : i64s (l ++ [x]) = i64s l ++ i64s [x] := by simp [i64s]
theorem ints_sl {w : World} {v : Value} {l : List Int} (h : IntsV w v l) (hl : l.length ≤ 1000) : Sl w 3 1 v l.length (i64s l) := by
  obtain ⟨g, n, rfl, hn, hb⟩ := h
  refine ⟨by rw [i64s_len, Nat.mul_one], _, n, by rw [hn], by omega, by unfold maxLen; omega, fun h => (by cases h), fun ad had => ?_⟩
  injection had with had
  subst had
  exact ⟨g, 0, _, rfl, hb, by rw [i64s_len]; omega, by rw [List.drop_zero, List.take_of_length_le (by rw [i64s_len]; omega)]⟩
theorem Sl.intAt {w : World} {n c g off : Nat} {W : List Int} (h : Sl w 3 1 (.slice (some ⟨g, off, none⟩) n c) n (i64s W)) (i : Nat) (x : Int) (hx : W[i]? = some x) : w.cell? ⟨g, off + i * 1, none⟩ = some (.int .i64 x) := by
  obtain ⟨hl, A, c', e', h1, h2, h3, h4⟩ := h
  injection e' with e1 e2 e3
  subst e1 e3
  obtain ⟨g', off', cur, e, hB, h5, h6⟩ := h4 _ rfl
  injection e with e1 e2
  subst e1 e2
  rw [Nat.mul_one]
  exact seg_cell hB h6 i _ (by rw [i64s, List.getElem?_map, hx]; rfl)
set_option maxRecDepth 100000 in
set_option maxHeartbeats 3200000 in
theorem bookTime_any (v : Value) (l : List Int) (qy : Int) (w : World) (hl : IntsA w v l) : Calls Try.prog 12 #[v, .int .i64 qy] w fun e w' => e = .returned (.bool true) ∧ Kept w w' := by
  obtain ⟨A, n, c, rfl, HN, hRI, hIn, hnc, hcm, hA⟩ := hl
  have HRI := Lib.hid hRI
  have hn63 : n ≤ 9223372036854775807 := by unfold maxLen at hcm; omega
  clear hRI hIn hcm hA
  go_enter Try.func12, Try.ntmps12
  go_upto_region 1 with fail
  refine wp_region_lit ?_
  refine l_call (o := ⟨some 14, _, _, _, _, _⟩) 14 #[] rfl (exec_call 14 _ [] _ _ Try.func14 (by kernel_rfl) (by kernel_rfl) rfl (by kernel_rfl) _) ?_
  refine (bnew_any w).mono ?_
  rintro r w1 ⟨p, F, rfl, hB1, hG1, k1⟩
  refine ⟨_, rfl, ?_⟩
  simp only [Act.put, sA, sS, sZ]
  refine l_val (o := ⟨some 5, _, _, _, _, _⟩) (.pointer (some ⟨p, 0, none⟩)) rfl (exec_assign (.tmp 14) (.pointer (some ⟨p, 0, none⟩)) rfl (by kernel_rfl)) ?_
  simp only [Act.put, sA, sS, sZ]
  refine wpList_nil ?_
  have HB1 : Hid (Bk w1 F p (tB [])) := hB1
  have HFg : Hid (∀ b, F b → w.heap.size ≤ b) := fun b hb => (hG1 b hb).elim (fun h => h.elim) id
  clear hB1 hG1
  go_wp2_with fail
  go_loopw [6, 7] (fun t q wr => ∃ (i : Nat) (W : List Int) (F' : Nat → Prop), Hid (W.length = i) ∧ i ≤ 20 ∧ i ≤ n ∧ q = .int .i64 (i : Int) ∧ Hid (∀ m ∈ W, 1 ≤ m ∧ m ≤ 1000) ∧ Hid (Sl wr 3 1 t i (i64s W)) ∧ Hid (∀ b, t.ownBlock = some b → w.heap.size ≤ b ∧ ¬ F' b) ∧ Hid (Bk wr F' p (tB W)) ∧ Hid (∀ b, F' b → w.heap.size ≤ b) ∧ Kept w wr) (fun _ q _ => 20 - (intOf q).toNat)
  case atStart => exact ⟨0, [], F, rfl, by omega, by omega, rfl, by intro m hm; simp at hm, Sl.nil _ _ _, fun b hb => by simp [Value.ownBlock] at hb, HB1.out, HFg.out, k1⟩
  case round =>
    obtain ⟨i, W, F', HWl, hi20, hin, rfl, HWn, HWS, HWo, HBr, HFr, hkr⟩ := hrel
    obtain ⟨vw, hvw⟩ : ∃ y, y = u6 := ⟨_, rfl⟩
    subst hvw
    by_cases hlt : i < n ∧ i < 20
    · obtain ⟨hin', hi20'⟩ := hlt
      obtain ⟨xv, hxv⟩ : ∃ xv, l[i]? = some xv := ⟨l[i]'(by rw [HN.out]; exact hin'), List.getElem?_eq_getElem (by rw [HN.out]; exact hin')⟩
      obtain ⟨ad, rfl, hcell⟩ := HRI.out i xv hxv
      have HC : Hid (wr.cell? (ad.add (i * 1)) = some (.int .i64 xv)) := by show _ = _; rw [Nat.mul_one]; exact hkr.cell hcell
      obtain ⟨m, hm⟩ : ∃ m, wi xv 1 9 = m := ⟨_, rfl⟩
      have HM := Lib.hid hm
      have hm9 : 1 ≤ m ∧ m ≤ 9 := by rw [← hm]; exact wi_in xv 1 9 (by omega)
      clear hxv hcell hm
      go_upto_region 8 with fail
      refine wp_text 6 [.eq (.slice (some ad) n c), .eq (.int .i64 (i : Int)), .eq (.pointer (some (ad.add (i * 1)))), .eq (.int .i64 xv), .eq (.int .i64 m), .eq (.int .i64 m)] rfl (by kernel_rfl) ?_ ?_
      · refine sv 1 rfl rfl rfl (fun a u hE hD hk => exec_move (.tmp 0) _ rfl (hE 0 (.slice (some ad) n c) (by kernel_rfl) (by kernel_rfl))) ?_
        refine sv 2 rfl rfl rfl (fun a u hE hD hk => exec_move (.tmp 7) _ rfl (hE 7 (.int .i64 (i : Int)) (by kernel_rfl) (by kernel_rfl))) ?_
        refine sv 3 rfl rfl rfl (fun a u hE hD hk => exec_indexA 68 3 1 (.tmp 27) (.tmp 28) ad n c i rfl Try.underlying68 infoI1 (hD 0 27 (by kernel_rfl)) (hD 1 28 (by kernel_rfl)) hin') ?_
        refine sv 4 rfl rfl rfl (fun a u hE hD hk => exec_loadi 3 Try.underlying3 (.tmp 29) (ad.add (i * 1)) (.int .i64 xv) rfl (hD 2 29 (by kernel_rfl)) (hk.cell HC.out)) ?_
        refine fsteps_cons 5 rfl (fun a u hE hD hk => f_call (o := ⟨some 31, _, _, _, _, _⟩) 38 #[.int .i64 xv, .int .i64 1, .int .i64 9] rfl (wanted_none rfl _) (exec_call 38 _ [.tmp 30, .const (.int .i64 1), .const (.int .i64 9)] _ [.int .i64 xv, .int .i64 1, .int .i64 9] Try.func38 (by kernel_rfl) (by kernel_rfl) rfl (show [a.eval (.tmp 30), a.eval (.const (.int .i64 1)), a.eval (.const (.int .i64 9))] = [.int .i64 xv, .int .i64 1, .int .i64 9] from (by rw [show a.eval (.tmp 30) = .int .i64 xv from (hD 3 30 (by kernel_rfl))] <;> rfl)) u) ((by rw [← HM.out]; exact within_is xv 1 9 u (by omega) (by omega) (by omega)))) ?_
        refine sv 6 rfl rfl rfl (fun a u hE hD hk => exec_assign (.tmp 31) _ rfl (hD 4 31 (by kernel_rfl))) ?_
        exact fsteps_nil
      intro gv w2 hV k2
      rw [show dstsOf _ 6 = [27, 28, 29, 30, 31, 8] by kernel_rfl]
      simp only [fC, fN, sA, sS, sZ, dS, dZ]
      rw [show gv 8 = .int .i64 m from hV 5 8 (by kernel_rfl)]
      clear hV
      refine wpList_nil ?_
      have k02 := hkr.trans k2
      have HB2 := Lib.hid (HBr.out.kept k2)
      have HWS2 := Lib.hid (HWS.out.kept k2)
      have HAD : Hid ((tB W).add (tO i m) = (⟨tO i m, [], m, true, false, 0⟩, tB (W ++ [m]))) := by show _ = _; rw [← HWl.out]; exact time_add (by rw [HWl.out]; exact hi20') hm9.1 (by omega)
      have HIW := Lib.hid (tB_inv W (by rw [HWl.out]; exact hi20) HWn.out)
      have z0 := hkr.size
      have z2 := k2.size
      have hvl : ∀ b, vw.ownBlock = some b → b < wr.heap.size := fun b hb => HWS.out.lt hb
      have HVL := Lib.hid hvl
      clear HC HM HBr k2 hkr HWS hvl
      go_upto_region 9 with fail
      refine wp_text 6 [.eq (.pointer (some ⟨p, 0, none⟩)), .eq (.int .i64 (i : Int)), .eq (.int .i64 ((i : Int) % 5)), .eq (.int .i64 (i : Int)), .eq (.int .i64 m), .eq ((tO i m).v)] rfl (by kernel_rfl) ?_ ?_
      · refine sv 1 rfl rfl rfl (fun a u hE hD hk => exec_move (.tmp 5) _ rfl (hE 5 (.pointer (some ⟨p, 0, none⟩)) (by kernel_rfl) (by kernel_rfl))) ?_
        refine sv 2 rfl rfl rfl (fun a u hE hD hk => exec_move (.tmp 7) _ rfl (hE 7 (.int .i64 (i : Int)) (by kernel_rfl) (by kernel_rfl))) ?_
        refine sv 3 rfl rfl rfl (fun a u hE hD hk => exec_remn ((i : Int) % 5) (p := (i : Int)) (q := 5) rfl (hD 1 33 (by kernel_rfl)) rfl (by omega) (Int.tmod_eq_emod_of_nonneg (by omega))) ?_
        refine sv 4 rfl rfl rfl (fun a u hE hD hk => exec_move (.tmp 7) _ rfl (hE 7 (.int .i64 (i : Int)) (by kernel_rfl) (by kernel_rfl))) ?_
        refine sv 5 rfl rfl rfl (fun a u hE hD hk => exec_move (.tmp 8) _ rfl (hE 8 (.int .i64 m) (by kernel_rfl) (by kernel_rfl))) ?_
        refine fsteps_cons 6 rfl (fun a u hE hD hk => f_call (o := ⟨some 37, _, _, _, _, _⟩) 16 #[.int .i64 ((i : Int) % 5), .int .i64 (i : Int), .int .i64 2, .int .i64 1, .int .i64 100, .int .i64 m] rfl (wanted_none rfl _) (exec_call 16 _ [.tmp 34, .tmp 35, .const (.int .i64 2), .const (.int .i64 1), .const (.int .i64 100), .tmp 36] _ [.int .i64 ((i : Int) % 5), .int .i64 (i : Int), .int .i64 2, .int .i64 1, .int .i64 100, .int .i64 m] Try.func16 (by kernel_rfl) (by kernel_rfl) rfl (show [a.eval (.tmp 34), a.eval (.tmp 35), a.eval (.const (.int .i64 2)), a.eval (.const (.int .i64 1)), a.eval (.const (.int .i64 100)), a.eval (.tmp 36)] = [.int .i64 ((i : Int) % 5), .int .i64 (i : Int), .int .i64 2, .int .i64 1, .int .i64 100, .int .i64 m] from (by rw [show a.eval (.tmp 34) = .int .i64 ((i : Int) % 5) from (hD 2 34 (by kernel_rfl)), show a.eval (.tmp 35) = .int .i64 (i : Int) from (hD 3 35 (by kernel_rfl)), show a.eval (.tmp 36) = .int .i64 m from (hD 4 36 (by kernel_rfl))] <;> rfl)) u) (o_any _ _ _ _ _ _ u)) ?_
        exact fsteps_nil
      intro gv w3 hV k3
      rw [show dstsOf _ 6 = [32, 33, 34, 35, 36, 37] by kernel_rfl]
      simp only [fC, fN, sA, sS, sZ, dS, dZ]
      rw [show gv 32 = .pointer (some ⟨p, 0, none⟩) from hV 0 32 (by kernel_rfl)]
      rw [show gv 37 = (tO i m).v from hV 5 37 (by kernel_rfl)]
      clear hV
      refine l_call (o := ⟨some 38, _, _, _, _, _⟩) 15 #[.pointer (some ⟨p, 0, none⟩), (tO i m).v] rfl (exec_call 15 _ [.tmp 32, .tmp 37] _ _ Try.func15 (by kernel_rfl) (by kernel_rfl) rfl (by kernel_rfl) _) ?_
      refine (badd_at w3 F' p (tB W) (tO i m) _ HAD.out (HB2.out.kept k3) HIW.out (show (0 : Int) ≤ 1000000000000 by omega)).mono ?_
      rintro r w4 ⟨F4, vf, rfl, hB4, hS4, hO4, hG4, hk4⟩
      refine ⟨_, rfl, ?_⟩
      simp only [Act.put, sA, sS, sZ]
      refine l_new (o := ⟨some 9, _, _, _, _, _⟩) (.pointer (some ⟨w4.heap.size, 0, none⟩)) (w4.alloc (.cells (zeroC.cells (.slice none 0 0)).toArray 29)) rfl (exec_alc 29 (zeroC.cells (.slice none 0 0)) rfl zC) ?_
      have hNw5 := Blk.new w4 29 (zeroC.cells (.slice none 0 0))
      have kw5 : Kept w4 (w4.alloc (.cells (zeroC.cells (.slice none 0 0)).toArray 29)) := (Keep.refl _ w4).alloc _
      generalize w4.alloc (.cells (zeroC.cells (.slice none 0 0)).toArray 29) = w5 at hNw5 kw5 ⊢
      simp only [Act.put, sA, sS, sZ]
      refine l_setS (o := ⟨none, _, _, _, _, _⟩) 29 w4.heap.size 29 (zeroC.cells (.slice none 0 0)) ((Oc.mk (tO i m) [] m true false 0).cells vf) (.tmp 9) (.tmp 38) rfl rfl (by kernel_rfl) (by kernel_rfl) (hNw5) (by rw [Oc.len15]; exact szC) (by rw [Oc.len15, Oc.len15]) (Oc.one _ _ (sl_onec hS4)) ?_
      intro w6 hCw6 hkw6 hsw6
      simp only [Act.put]
      refine wpList_nil ?_
      obtain ⟨KK, hB6, hS6, hO6, hG6, hF6, z6⟩ := add_frame k3 hB4 hS4 hO4 hG4 hk4 kw5 hkw6
      obtain ⟨g9, hg9⟩ : ∃ y, w4.heap.size = y := ⟨_, rfl⟩
      rw [hg9] at hCw6 hF6 z6 hO6 ⊢
      have HC6 := Lib.hid hCw6
      have HB6 := Lib.hid hB6
      have kw6 : Kept w w6 := Keep.trans k02 KK (fun b hb h => by have := HFr.out b h; omega)
      have HS6 : Hid (Sl w6 3 1 vw i (i64s W)) := HWS2.out.keep KK (fun b hb h => (HWo.out b hb).2 h)
      have HF6 : Hid (∀ b, F4 b → w.heap.size ≤ b) := fun b hb => (hG6 b hb).elim (HFr.out b) (fun h => by omega)
      have HO6 : Hid (∀ b, vw.ownBlock = some b → w.heap.size ≤ b ∧ ¬ F4 b) := fun b hb => ⟨(HWo.out b hb).1, fun h => (hG6 b h).elim (HWo.out b hb).2 (fun h => by have := HVL.out b hb; omega)⟩
      have l9 := hCw6.lt
      have HF6l : Hid (∀ b, F4 b → b < w6.heap.size) := hB6.lt
      have hg9F : ¬ F4 g9 := fun h => by have := hF6 g9 h; omega
      clear hB4 hS4 hO4 hG4 hk4 hNw5 kw5 hCw6 hkw6 hsw6 hB6 hS6 hO6 hG6 hF6 KK k02 k3 HB2 HWS2 HAD HIW hg9
      go_upto_region 10 with fail
      refine wp_text 3 [.eq (.pointer (some ⟨g9, 11, none⟩)), .eq (.bool (Oc.mk (tO i m) [] m true false 0).rests), .eq (.bool false)] rfl (by kernel_rfl) ?_ ?_
      · refine sv 1 rfl rfl rfl (fun a u hE hD hk => exec_fldo 29 3 11 (.tmp 9) (g9) (0) (11) rfl (hE 9 (.pointer (some ⟨g9, 0, none⟩)) (by kernel_rfl) (by kernel_rfl)) (by kernel_rfl) rfl) ?_
        refine sv 2 rfl rfl rfl (fun a u hE hD hk => exec_ldb 4 Try.underlying4 (.tmp 39) ⟨g9, 11, none⟩ (.bool (Oc.mk (tO i m) [] m true false 0).rests) rfl (hD 0 39 (by kernel_rfl)) (by rw [(HC6.out.kept hk).cell]; rfl)) ?_
        refine sv 3 rfl rfl rfl (fun a u hE hD hk => exec_not _ (.tmp 40) true rfl (hD 1 40 (by kernel_rfl))) ?_
        exact fsteps_nil
      intro gv w7 hV k7
      rw [show dstsOf _ 3 = [39, 40, 41] by kernel_rfl]
      simp only [fC, fN, sA, sS, sZ, dS, dZ]
      rw [show gv 41 = .bool false from hV 2 41 (by kernel_rfl)]
      clear hV
      refine wpList_nil ?_
      have kw7 := kw6.trans k7
      have HS7 := Lib.hid (HS6.out.kept k7)
      have HB7 := Lib.hid (HB6.out.kept k7)
      have z67 := k7.size
      clear HC6 HS6 HB6 kw6
      go_upto_region 12 with fail
      refine wp_text 3 [.eq (vw), .eq (.int .i64 m), .ints [(m)]] rfl (by kernel_rfl) ?_ ?_
      · refine sv 1 rfl rfl rfl (fun a u hE hD hk => exec_move (.tmp 6) _ rfl (hE 6 (vw) (by kernel_rfl) (by kernel_rfl))) ?_
        refine sv 2 rfl rfl rfl (fun a u hE hD hk => exec_move (.tmp 8) _ rfl (hE 8 (.int .i64 m) (by kernel_rfl) (by kernel_rfl))) ?_
        refine fsteps_cons 3 rfl (fun a u hE hD hk => f_new (o := ⟨some 44, _, _, _, _, _⟩) (.slice (some ⟨u.heap.size, 0, none⟩) 1 1) _ rfl (wanted_none rfl _) (exec_ints 1 _ [(m)] rfl rfl (by omega) (by omega) (by show [(0, a.eval (.tmp 43))] = [(0, .int .i64 m)]; rw [show a.eval (.tmp 43) = .int .i64 m from (hD 1 43 (by kernel_rfl))])) (ints_new u [(m)] 1 rfl) ((Keep.refl _ u).alloc _)) ?_
        exact fsteps_nil
      intro gv w8 hV k8
      rw [show dstsOf _ 3 = [42, 43, 44] by kernel_rfl]
      simp only [fC, fN, sA, sS, sZ, dS, dZ]
      rw [show gv 42 = vw from hV 0 42 (by kernel_rfl)]
      have hv44 : (.ints [(m)] : Kn).p (gv 44) w8 := hV 2 44 (by kernel_rfl)
      generalize gv 44 = v44 at hv44 ⊢
      clear hV
      have z78 := k8.size
      obtain ⟨vn, w9, hr9, hs9, hk9, ho9⟩ := run_append_sl slI 68 w8 vw v44 i 1 _ _ (HS7.out.kept k8) (ints_sl hv44 (by simp)) (i64s_one _) (by unfold maxLen; omega) (by omega)
      refine l_new (o := ⟨some 45, _, _, _, _, _⟩) vn w9 rfl (exec_appS slI (.tmp 42) (.tmp 44) vw v44 rfl (by kernel_rfl) (by kernel_rfl) vn w9 hr9) ?_
      simp only [Act.put, sA, sS, sZ]
      refine l_val (o := ⟨some 6, _, _, _, _, _⟩) (vn) rfl (exec_assign (.tmp 45) (vn) rfl (by kernel_rfl)) ?_
      simp only [Act.put, sA, sS, sZ]
      refine wpList_nil ?_
      have kw9 : Kept w w9 := Keep.trans (kw7.trans k8) hk9 (fun b hb h => by have := (HO6.out b h).1; omega)
      have HS9 : Hid (Sl w9 3 1 vn (i + 1) (i64s (W ++ [m]))) := by rw [i64s_snoc]; exact hs9
      have HB9 : Hid (Bk w9 F4 p (tB (W ++ [m]))) := (HB7.out.kept k8).keep hk9 (fun b hb h => (HO6.out b h).2 hb)
      have HO9 : Hid (∀ b, vn.ownBlock = some b → w.heap.size ≤ b ∧ ¬ F4 b) := fun b hb => by
        rcases ho9 b hb with h | h
        · exact HO6.out b h
        · refine ⟨?_, fun h' => ?_⟩
          · have := kw7.size
            omega
          · have := HF6l.out b h'
            omega
      have HL9 : Hid ((W ++ [m]).length = i + 1) := by show _ = _; rw [List.length_append, HWl.out]; rfl
      have HN9 : Hid (∀ y ∈ W ++ [m], 1 ≤ y ∧ y ≤ 1000) := fun y hy => by
        rcases List.mem_append.1 hy with hy | hy
        · exact HWn.out y hy
        · simp at hy
          subst hy
          omega
      clear hs9 hk9 ho9 hr9 hv44 HS7 HB7 HWl HWn HWo k8 k7 kw7
      go_wp2
      exact ⟨⟨i + 1, W ++ [m], F4, HL9, by omega, by omega, by go_num, HN9, HS9, HO9, HB9, HF6, kw9⟩, by simp [intOf]; omega⟩
    · obtain ⟨q, hq⟩ : ∃ q, wi qy 1 100 = q := ⟨_, rfl⟩
      have HQ := Lib.hid hq
      have hq100 : 1 ≤ q ∧ q ≤ 100 := by rw [← hq]; exact wi_in qy 1 100 (by omega)
      have HTI : Hid (TimeIs W q ((tB W).add (tQ q)).1) := time_is (by rw [HWl.out]; exact hi20) (fun y hy => (HWn.out y hy).1) hq100.1 (by omega)
      have HIW := Lib.hid (tB_inv W (by rw [HWl.out]; exact hi20) HWn.out)
      obtain ⟨x, hx⟩ : ∃ x, ((tB W).add (tQ q)).1 = x := ⟨_, rfl⟩
      obtain ⟨B2, hB2⟩ : ∃ B2, ((tB W).add (tQ q)).2 = B2 := ⟨_, rfl⟩
      have HAD : Hid ((tB W).add (tQ q) = (x, B2)) := by show _ = _; rw [← hx, ← hB2]
      rw [hx] at HTI
      have hvl : ∀ b, vw.ownBlock = some b → b < wr.heap.size := fun b hb => HWS.out.lt hb
      have HVL := Lib.hid hvl
      have z0 := hkr.size
      clear hq hx hB2 hvl
      by_cases hin2 : i < n
      · have hi2 : i = 20 := by omega
        go_upto_region 13 with fail
        refine wp_text 3 [.eq (.int .i64 qy), .eq (.int .i64 q), .eq (.int .i64 q)] rfl (by kernel_rfl) ?_ ?_
        · refine sv 1 rfl rfl rfl (fun a u hE hD hk => exec_move (.tmp 1) _ rfl (hE 1 (.int .i64 qy) (by kernel_rfl) (by kernel_rfl))) ?_
          refine fsteps_cons 2 rfl (fun a u hE hD hk => f_call (o := ⟨some 47, _, _, _, _, _⟩) 38 #[.int .i64 qy, .int .i64 1, .int .i64 100] rfl (wanted_none rfl _) (exec_call 38 _ [.tmp 46, .const (.int .i64 1), .const (.int .i64 100)] _ [.int .i64 qy, .int .i64 1, .int .i64 100] Try.func38 (by kernel_rfl) (by kernel_rfl) rfl (show [a.eval (.tmp 46), a.eval (.const (.int .i64 1)), a.eval (.const (.int .i64 100))] = [.int .i64 qy, .int .i64 1, .int .i64 100] from (by rw [show a.eval (.tmp 46) = .int .i64 qy from (hD 0 46 (by kernel_rfl))] <;> rfl)) u) ((by rw [← HQ.out]; exact within_is qy 1 100 u (by omega) (by omega) (by omega)))) ?_
          refine sv 3 rfl rfl rfl (fun a u hE hD hk => exec_assign (.tmp 47) _ rfl (hD 1 47 (by kernel_rfl))) ?_
          exact fsteps_nil
        intro gv w2 hV k2
        rw [show dstsOf _ 3 = [46, 47, 10] by kernel_rfl]
        simp only [fC, fN, sA, sS, sZ, dS, dZ]
        rw [show gv 10 = .int .i64 q from hV 2 10 (by kernel_rfl)]
        clear hV
        refine wpList_nil ?_
        have HB2 := Lib.hid (HBr.out.kept k2)
        have HW2 := Lib.hid (HWS.out.kept k2)
        have k02 := hkr.trans k2
        have z2 := k2.size
        clear HBr k2 HQ HWS
        go_upto_region 14 with fail
        refine wp_text 3 [.eq (.pointer (some ⟨p, 0, none⟩)), .eq (.int .i64 q), .eq ((tQ q).v)] rfl (by kernel_rfl) ?_ ?_
        · refine sv 1 rfl rfl rfl (fun a u hE hD hk => exec_move (.tmp 5) _ rfl (hE 5 (.pointer (some ⟨p, 0, none⟩)) (by kernel_rfl) (by kernel_rfl))) ?_
          refine sv 2 rfl rfl rfl (fun a u hE hD hk => exec_move (.tmp 10) _ rfl (hE 10 (.int .i64 q) (by kernel_rfl) (by kernel_rfl))) ?_
          refine fsteps_cons 3 rfl (fun a u hE hD hk => f_call (o := ⟨some 50, _, _, _, _, _⟩) 16 #[.int .i64 7, .int .i64 1, .int .i64 1, .int .i64 3, .int .i64 100, .int .i64 q] rfl (wanted_none rfl _) (exec_call 16 _ [.const (.int .i64 7), .const (.int .i64 1), .const (.int .i64 1), .const (.int .i64 3), .const (.int .i64 100), .tmp 49] _ [.int .i64 7, .int .i64 1, .int .i64 1, .int .i64 3, .int .i64 100, .int .i64 q] Try.func16 (by kernel_rfl) (by kernel_rfl) rfl (show [a.eval (.const (.int .i64 7)), a.eval (.const (.int .i64 1)), a.eval (.const (.int .i64 1)), a.eval (.const (.int .i64 3)), a.eval (.const (.int .i64 100)), a.eval (.tmp 49)] = [.int .i64 7, .int .i64 1, .int .i64 1, .int .i64 3, .int .i64 100, .int .i64 q] from (by rw [show a.eval (.tmp 49) = .int .i64 q from (hD 1 49 (by kernel_rfl))] <;> rfl)) u) (o_any _ _ _ _ _ _ u)) ?_
          exact fsteps_nil
        intro gv w3 hV k3
        rw [show dstsOf _ 3 = [48, 49, 50] by kernel_rfl]
        simp only [fC, fN, sA, sS, sZ, dS, dZ]
        rw [show gv 48 = .pointer (some ⟨p, 0, none⟩) from hV 0 48 (by kernel_rfl)]
        rw [show gv 50 = (tQ q).v from hV 2 50 (by kernel_rfl)]
        clear hV
        refine l_call (o := ⟨some 51, _, _, _, _, _⟩) 15 #[.pointer (some ⟨p, 0, none⟩), (tQ q).v] rfl (exec_call 15 _ [.tmp 48, .tmp 50] _ _ Try.func15 (by kernel_rfl) (by kernel_rfl) rfl (by kernel_rfl) _) ?_
        refine (badd_at w3 F' p (tB W) (tQ q) _ HAD.out (HB2.out.kept k3) HIW.out (show (0 : Int) ≤ 1000000000000 by omega)).mono ?_
        rintro r w4 ⟨F4, vf, rfl, hB4, hS4, hO4, hG4, hk4⟩
        refine ⟨_, rfl, ?_⟩
        simp only [Act.put, sA, sS, sZ]
        refine l_new (o := ⟨some 11, _, _, _, _, _⟩) (.pointer (some ⟨w4.heap.size, 0, none⟩)) (w4.alloc (.cells (zeroC.cells (.slice none 0 0)).toArray 29)) rfl (exec_alc 29 (zeroC.cells (.slice none 0 0)) rfl zC) ?_
        have hNw5 := Blk.new w4 29 (zeroC.cells (.slice none 0 0))
        have kw5 : Kept w4 (w4.alloc (.cells (zeroC.cells (.slice none 0 0)).toArray 29)) := (Keep.refl _ w4).alloc _
        generalize w4.alloc (.cells (zeroC.cells (.slice none 0 0)).toArray 29) = w5 at hNw5 kw5 ⊢
        simp only [Act.put, sA, sS, sZ]
        refine l_setS (o := ⟨none, _, _, _, _, _⟩) 29 w4.heap.size 29 (zeroC.cells (.slice none 0 0)) (x.cells vf) (.tmp 11) (.tmp 51) rfl rfl (by kernel_rfl) (by kernel_rfl) (hNw5) (by rw [Oc.len15]; exact szC) (by rw [Oc.len15, Oc.len15]) (Oc.one _ _ (sl_onec hS4)) ?_
        intro w6 hCw6 hkw6 hsw6
        simp only [Act.put]
        refine wpList_nil ?_
        obtain ⟨KK, hB6, hS6, hO6, hG6, hF6, z6⟩ := add_frame k3 hB4 hS4 hO4 hG4 hk4 kw5 hkw6
        obtain ⟨g11, hg11⟩ : ∃ y, w4.heap.size = y := ⟨_, rfl⟩
        rw [hg11] at hCw6 hF6 z6 hO6 ⊢
        have HC6 := Lib.hid hCw6
        have kw6 : Kept w w6 := Keep.trans k02 KK (fun b hb h => by have := HFr.out b h; omega)
        have HW6 : Hid (Sl w6 3 1 vw i (i64s W)) := HW2.out.keep KK (fun b hb h => (HWo.out b hb).2 h)
        obtain ⟨m, hm⟩ : ∃ m, x.f.length = m := ⟨_, rfl⟩
        have HM := Lib.hid hm
        have hmi : m ≤ i := by have := HTI.out.len; rw [HWl.out, hm] at this; exact this
        rw [hm] at hS6
        have HS6 := Lib.hid hS6
        clear hB4 hS4 hO4 hG4 hk4 hNw5 kw5 hCw6 hkw6 hsw6 hB6 hS6 hO6 hG6 hF6 KK k02 k3 HB2 HW2 HAD HIW hg11 hm z6
        go_upto_region 15 with fail
        refine wp_text 4 [.eq (.pointer (some ⟨g11, 9, none⟩)), .eq (vf), .eq (.int .i64 (m : Int)), .eq (.int .i64 0)] rfl (by kernel_rfl) ?_ ?_
        · refine sv 1 rfl rfl rfl (fun a u hE hD hk => exec_fldo 29 1 9 (.tmp 11) (g11) (0) (9) rfl (hE 11 (.pointer (some ⟨g11, 0, none⟩)) (by kernel_rfl) (by kernel_rfl)) (by kernel_rfl) rfl) ?_
          refine sv 2 rfl rfl rfl (fun a u hE hD hk => exec_ldv 26 _ Try.underlying26 (.tmp 52) ⟨g11, 9, none⟩ (vf) rfl (hD 0 52 (by kernel_rfl)) (by rw [(HC6.out.kept hk).cell]; rfl)) ?_
          refine sv 3 rfl rfl rfl (fun a u hE hD hk => exec_lenS (.tmp 53) slF (vf) (m) _ _ rfl (hD 1 53 (by kernel_rfl)) HS6.out) ?_
          refine sv 4 rfl rfl rfl (fun a u hE hD hk => exec_move (.const (.int .i64 0)) _ rfl rfl) ?_
          exact fsteps_nil
        intro gv w7 hV k7
        rw [show dstsOf _ 4 = [52, 53, 54, 55] by kernel_rfl]
        simp only [fC, fN, sA, sS, sZ, dS, dZ]
        rw [show gv 53 = vf from hV 1 53 (by kernel_rfl)]
        rw [show gv 54 = .int .i64 (m : Int) from hV 2 54 (by kernel_rfl)]
        rw [show gv 55 = .int .i64 0 from hV 3 55 (by kernel_rfl)]
        clear hV
        refine wpList_nil ?_
        have HC7 := Lib.hid (HC6.out.kept k7)
        have HS7 := Lib.hid (HS6.out.kept k7)
        have HW7 := Lib.hid (HW6.out.kept k7)
        have kw7 := kw6.trans k7
        clear HC6 HS6 HW6 kw6 k7
        go_wp2_with fail
        go_loopw [10, 55] (fun t y wr => ∃ (j : Nat) (lf : Int), j ≤ m ∧ y = .int .i64 (j : Int) ∧ t = .int .i64 lf ∧ Hid (lf = q - sumF (x.f.take j)) ∧ Kept w7 wr) (fun _ y _ => m - (intOf y).toNat)
        case atStart => exact ⟨0, q, Nat.zero_le _, rfl, rfl, by show _ = _; rw [List.take_zero]; simp [sumF, sumI], Kept.refl _⟩
        case round =>
          obtain ⟨j, lf, hj, rfl, rfl, HLF, hkr2⟩ := hrel
          have hpt := HTI.out.part j
          have hlf : 0 ≤ lf ∧ lf ≤ q := by rw [HLF.out]; omega
          by_cases hjm : j < m
          · obtain ⟨gf, of_, c2, rfl⟩ := HS7.out.some_ (by omega)
            obtain ⟨gw, ow, c3, rfl⟩ := HW7.out.some_ (by omega)
            obtain ⟨f, hf⟩ : ∃ f, x.f[j]? = some f := ⟨x.f[j]'(by rw [HM.out]; exact hjm), List.getElem?_eq_getElem (by rw [HM.out]; exact hjm)⟩
            have HE : Hid (wr.rangeAt gf (of_ + j * 21) f.cells) := range_kept (HS7.out.rngF j f hf) hkr2
            obtain ⟨nw, hnw, e1, e2, e3⟩ := HTI.out.each j f hf
            have HCW := Lib.hid (hkr2.cell (HW7.out.intAt j nw hnw))
            have hstep : sumF (x.f.take (j + 1)) = sumF (x.f.take j) + f.qty := sumF_take x.f j f hf
            have hpt2 := HTI.out.part (j + 1)
            have HLF1 : Hid (lf - f.qty = q - sumF (x.f.take (j + 1))) := by show _ = _; rw [hstep, HLF.out]; omega
            have hfq : f.qty ≤ lf := by rw [HLF.out]; omega
            rw [← HLF.out] at e2
            have hji : j < i := by omega
            clear hf hnw hstep hpt2 hpt HLF
            go_upto_region 17 with fail
            refine wp_text 4 [.eq (.int .i64 (j : Int)), .eq (.pointer (some ⟨gf, of_ + j * 21, none⟩)), .eq (f.v), .fresh wr.heap.size 36 zeroF.cells] rfl (by kernel_rfl) ?_ ?_
            · refine sv 1 rfl rfl rfl (fun a u hE hD hk => exec_move (.tmp 55) _ rfl (hE 55 (.int .i64 (j : Int)) (by kernel_rfl) (by kernel_rfl))) ?_
              refine sv 2 rfl rfl rfl (fun a u hE hD hk => exec_ixo slF (.tmp 53) (.tmp 55) (gf) (of_) m c2 j (of_ + j * 21) ((j : Int)) rfl (hE 53 (.slice (some ⟨gf, of_, none⟩) m c2) (by kernel_rfl) (by kernel_rfl)) (hE 55 (.int .i64 (j : Int)) (by kernel_rfl) (by kernel_rfl)) (by first | rfl | omega) (hjm) (by first | rfl | omega)) ?_
              refine sv 3 rfl rfl rfl (fun a u hE hD hk => exec_ldS 36 _ (.tmp 58) (gf) (of_ + j * 21) (f.cells) rfl (hD 1 58 (by kernel_rfl)) (range_kept HE.out hk) Try.underlying36 (by rw [f.len21]; exact szF)) ?_
              refine fsteps_cons 4 rfl (fun a u hE hD hk => f_new (o := ⟨some 13, _, _, _, _, _⟩) (.pointer (some ⟨u.heap.size, 0, none⟩)) _ rfl (wanted_none rfl _) (exec_alc 36 zeroF.cells rfl zF) ⟨_, rfl, hk.size, Blk.new u _ _⟩ ((Keep.refl _ u).alloc _)) ?_
              exact fsteps_nil
            intro gv wa hV ka
            rw [show dstsOf _ 4 = [57, 58, 59, 13] by kernel_rfl]
            simp only [fC, fN, sA, sS, sZ, dS, dZ]
            rw [show gv 57 = .int .i64 (j : Int) from hV 0 57 (by kernel_rfl)]
            have hv13 : (.fresh wr.heap.size 36 zeroF.cells : Kn).p (gv 13) wa := hV 3 13 (by kernel_rfl)
            generalize gv 13 = v13 at hv13 ⊢
            rw [show gv 59 = f.v from hV 2 59 (by kernel_rfl)]
            clear hV
            obtain ⟨g13, rfl, hg13, hB13⟩ := hv13
            refine l_val (o := ⟨some 12, _, _, _, _, _⟩) (.int .i64 (j : Int)) rfl (exec_assign (.tmp 57) (.int .i64 (j : Int)) rfl (by kernel_rfl)) ?_
            simp only [Act.put, sA, sS, sZ]
            refine l_setS (o := ⟨none, _, _, _, _, _⟩) 36 g13 36 zeroF.cells f.cells (.tmp 13) (.tmp 59) rfl rfl (by kernel_rfl) (by kernel_rfl) hB13 (by rw [Fl.len21]; exact szF) (by rw [Fl.len21, Fl.len21]) (Fl.one _) ?_
            intro wb hBb hkb hsb
            simp only [Act.put]
            refine wpList_nil ?_
            have kb : Kept wr wb := ka.trans' hkb (by omega)
            have HFb := Lib.hid (blk_range hBb)
            have HCb := Lib.hid (kb.cell HCW.out)
            have kwb := hkr2.trans kb
            clear hB13 hBb hkb hsb ka HE HCW hkr2 kb
            go_upto_region 18 with fail
            refine wp_free 22 [.eq (.int .i64 (j : Int)), .eq (.slice (some ⟨gw, ow, none⟩) i c3), .eq (.int .i64 (i : Int)), .eq (.bool false), .eq (.bool false), .eq (.pointer (some ⟨g13, 0, none⟩)), .eq (.pointer (some ⟨g13, 1, none⟩)), .eq (.int .i64 f.mk_.id), .eq (.int .i64 (j : Int)), .eq (.bool false), .eq (.bool false), .eq (.bool false), .eq (.pointer (some ⟨g13, 19, none⟩)), .eq (.int .i64 f.qty), .eq (.int .i64 lf), .eq (.slice (some ⟨gw, ow, none⟩) i c3), .eq (.int .i64 (j : Int)), .eq (.pointer (some ⟨gw, ow + j * 1, none⟩)), .eq (.int .i64 nw), .eq (.int .i64 (mn (lf) (nw))), .eq (.bool false), .eq (.bool false)] (by kernel_rfl) rfl (by kernel_rfl) ?_ ?_
            · refine sv 1 rfl rfl rfl (fun a u hE hD hk => exec_move (.tmp 12) _ rfl (hE 12 (.int .i64 (j : Int)) (by kernel_rfl) (by kernel_rfl))) ?_
              refine sv 2 rfl rfl rfl (fun a u hE hD hk => exec_move (.tmp 6) _ rfl (hE 6 (.slice (some ⟨gw, ow, none⟩) i c3) (by kernel_rfl) (by kernel_rfl))) ?_
              refine sv 3 rfl rfl rfl (fun a u hE hD hk => exec_len (.tmp 61) _ _ slI.und (some ⟨gw, ow, none⟩) i c3 rfl (hD 1 61 (by kernel_rfl))) ?_
              refine fsteps_cons 4 rfl (fun a u hE hD hk => f_as (show ((decide (((i : Int) : Int) ≤ ((j : Int) : Int))) : Bool) = false from decide_eq_false (by omega)) (f_val (o := ⟨some 63, _, _, _, _, _⟩) (.bool (decide (((i : Int) : Int) ≤ ((j : Int) : Int)))) rfl (wanted_none rfl _) (exec_gen (p := (j : Int)) (q := (i : Int)) rfl (hD 0 60 (by kernel_rfl)) (hD 2 62 (by kernel_rfl))) rfl)) ?_
              refine sv 5 rfl rfl rfl (fun a u hE hD hk => exec_move (.tmp 63) _ rfl (hD 3 63 (by kernel_rfl))) ?_
              refine fsteps_cons 6 rfl (fun a u hE hD hk => f_val (o := ⟨some 65, _, _, _, _, _⟩) (.pointer (some ⟨g13, 0, none⟩)) rfl (wanted_at (b := false) false rfl rfl (hD 4 64 (by kernel_rfl))) (exec_fldo 36 0 0 (.tmp 13) (g13) (0) (0) rfl (hE 13 (.pointer (some ⟨g13, 0, none⟩)) (by kernel_rfl) (by kernel_rfl)) (by kernel_rfl) rfl) rfl) ?_
              refine fsteps_cons 7 rfl (fun a u hE hD hk => f_val (o := ⟨some 66, _, _, _, _, _⟩) (.pointer (some ⟨g13, 1, none⟩)) rfl (wanted_at (b := false) false rfl rfl (hD 4 64 (by kernel_rfl))) (exec_fldo 25 1 1 (.tmp 65) (g13) (0) (1) rfl (hD 5 65 (by kernel_rfl)) (by kernel_rfl) rfl) rfl) ?_
              refine fsteps_cons 8 rfl (fun a u hE hD hk => f_val (o := ⟨some 67, _, _, _, _, _⟩) (.int .i64 f.mk_.id) rfl (wanted_at (b := false) false rfl rfl (hD 4 64 (by kernel_rfl))) (exec_loadi 3 Try.underlying3 (.tmp 66) ⟨g13, 1, none⟩ (.int .i64 f.mk_.id) rfl (hD 6 66 (by kernel_rfl)) (range_int (range_kept HFb.out hk) 1 _ rfl)) rfl) ?_
              refine fsteps_cons 9 rfl (fun a u hE hD hk => f_val (o := ⟨some 68, _, _, _, _, _⟩) (.int .i64 (j : Int)) rfl (wanted_at (b := false) false rfl rfl (hD 4 64 (by kernel_rfl))) (exec_move (.tmp 12) _ rfl (hE 12 (.int .i64 (j : Int)) (by kernel_rfl) (by kernel_rfl))) rfl) ?_
              refine fsteps_cons 10 rfl (fun a u hE hD hk => f_as (show ((decide ((f.mk_.id : Int) ≠ ((j : Int) : Int))) : Bool) = false from decide_eq_false (by omega)) (f_val (o := ⟨some 69, _, _, _, _, _⟩) (.bool (decide ((f.mk_.id : Int) ≠ ((j : Int) : Int)))) rfl (wanted_at (b := false) false rfl rfl (hD 4 64 (by kernel_rfl))) (exec_nen (p := f.mk_.id) (q := (j : Int)) rfl (hD 7 67 (by kernel_rfl)) (hD 8 68 (by kernel_rfl))) rfl)) ?_
              refine sv 11 rfl rfl rfl (fun a u hE hD hk => exec_pickF (.tmp 64) (.const (.bool true)) (.tmp 69) (.bool false) rfl (hD 4 64 (by kernel_rfl)) (hD 9 69 (by kernel_rfl))) ?_
              refine sv 12 rfl rfl rfl (fun a u hE hD hk => exec_move (.tmp 70) _ rfl (hD 10 70 (by kernel_rfl))) ?_
              refine fsteps_cons 13 rfl (fun a u hE hD hk => f_val (o := ⟨some 72, _, _, _, _, _⟩) (.pointer (some ⟨g13, 19, none⟩)) rfl (wanted_at (b := false) false rfl rfl (hD 11 71 (by kernel_rfl))) (exec_fldo 36 3 19 (.tmp 13) (g13) (0) (19) rfl (hE 13 (.pointer (some ⟨g13, 0, none⟩)) (by kernel_rfl) (by kernel_rfl)) (by kernel_rfl) rfl) rfl) ?_
              refine fsteps_cons 14 rfl (fun a u hE hD hk => f_val (o := ⟨some 73, _, _, _, _, _⟩) (.int .i64 f.qty) rfl (wanted_at (b := false) false rfl rfl (hD 11 71 (by kernel_rfl))) (exec_loadi 3 Try.underlying3 (.tmp 72) ⟨g13, 19, none⟩ (.int .i64 f.qty) rfl (hD 12 72 (by kernel_rfl)) (range_int (range_kept HFb.out hk) 19 _ rfl)) rfl) ?_
              refine fsteps_cons 15 rfl (fun a u hE hD hk => f_val (o := ⟨some 74, _, _, _, _, _⟩) (.int .i64 lf) rfl (wanted_at (b := false) false rfl rfl (hD 11 71 (by kernel_rfl))) (exec_move (.tmp 10) _ rfl (hE 10 (.int .i64 lf) (by kernel_rfl) (by kernel_rfl))) rfl) ?_
              refine fsteps_cons 16 rfl (fun a u hE hD hk => f_val (o := ⟨some 75, _, _, _, _, _⟩) (.slice (some ⟨gw, ow, none⟩) i c3) rfl (wanted_at (b := false) false rfl rfl (hD 11 71 (by kernel_rfl))) (exec_move (.tmp 6) _ rfl (hE 6 (.slice (some ⟨gw, ow, none⟩) i c3) (by kernel_rfl) (by kernel_rfl))) rfl) ?_
              refine fsteps_cons 17 rfl (fun a u hE hD hk => f_val (o := ⟨some 76, _, _, _, _, _⟩) (.int .i64 (j : Int)) rfl (wanted_at (b := false) false rfl rfl (hD 11 71 (by kernel_rfl))) (exec_move (.tmp 12) _ rfl (hE 12 (.int .i64 (j : Int)) (by kernel_rfl) (by kernel_rfl))) rfl) ?_
              refine fsteps_cons 18 rfl (fun a u hE hD hk => f_val (o := ⟨some 77, _, _, _, _, _⟩) (.pointer (some ⟨gw, ow + j * 1, none⟩)) rfl (wanted_at (b := false) false rfl rfl (hD 11 71 (by kernel_rfl))) (exec_ixo slI (.tmp 75) (.tmp 76) (gw) (ow) i c3 j (ow + j * 1) ((j : Int)) rfl (hD 15 75 (by kernel_rfl)) (hD 16 76 (by kernel_rfl)) (by first | rfl | omega) (hji) (by first | rfl | omega)) rfl) ?_
              refine fsteps_cons 19 rfl (fun a u hE hD hk => f_val (o := ⟨some 78, _, _, _, _, _⟩) (.int .i64 nw) rfl (wanted_at (b := false) false rfl rfl (hD 11 71 (by kernel_rfl))) (exec_loadi 3 Try.underlying3 (.tmp 77) ⟨gw, ow + j * 1, none⟩ (.int .i64 nw) rfl (hD 17 77 (by kernel_rfl)) (Kept.cell hk (HCb.out))) rfl) ?_
              refine fsteps_cons 20 rfl (fun a u hE hD hk => f_val (o := ⟨some 79, _, _, _, _, _⟩) (.int .i64 (mn (lf) (nw))) rfl (wanted_at (b := false) false rfl rfl (hD 11 71 (by kernel_rfl))) (exec_min (.tmp 74) (.tmp 78) _ (lf) (nw) (mn (lf) (nw)) rfl (hD 14 74 (by kernel_rfl)) (hD 18 78 (by kernel_rfl)) rfl) rfl) ?_
              refine fsteps_cons 21 rfl (fun a u hE hD hk => f_as (show ((decide ((f.qty : Int) ≠ ((mn (lf) (nw)) : Int))) : Bool) = false from decide_eq_false (by omega)) (f_val (o := ⟨some 80, _, _, _, _, _⟩) (.bool (decide ((f.qty : Int) ≠ ((mn (lf) (nw)) : Int)))) rfl (wanted_at (b := false) false rfl rfl (hD 11 71 (by kernel_rfl))) (exec_nen (p := f.qty) (q := (mn (lf) (nw))) rfl (hD 13 73 (by kernel_rfl)) (hD 19 79 (by kernel_rfl))) rfl)) ?_
              refine sv 22 rfl rfl rfl (fun a u hE hD hk => exec_pickF (.tmp 71) (.const (.bool true)) (.tmp 80) (.bool false) rfl (hD 11 71 (by kernel_rfl)) (hD 20 80 (by kernel_rfl))) ?_
              exact fsteps_nil
            intro gv wc hV kc
            rw [show dstsOf _ 22 = [60, 61, 62, 63, 64, 65, 66, 67, 68, 69, 70, 71, 72, 73, 74, 75, 76, 77, 78, 79, 80, 81] by kernel_rfl]
            simp only [fC, fN, sA, sS, sZ, dS, dZ]
            rw [show gv 81 = .bool false from hV 21 81 (by kernel_rfl)]
            clear hV
            refine wpList_nil ?_
            have HFc := Lib.hid (range_kept HFb.out kc)
            have kwc := kwb.trans kc
            clear HFb HCb e1 e2 kwb kc
            go_upto_region 20 with fail
            refine wp_text 4 [.eq (.int .i64 lf), .eq (.pointer (some ⟨g13, 19, none⟩)), .eq (.int .i64 f.qty), .eq (.int .i64 (lf - f.qty))] rfl (by kernel_rfl) ?_ ?_
            · refine sv 1 rfl rfl rfl (fun a u hE hD hk => exec_move (.tmp 10) _ rfl (hE 10 (.int .i64 lf) (by kernel_rfl) (by kernel_rfl))) ?_
              refine sv 2 rfl rfl rfl (fun a u hE hD hk => exec_fldo 36 3 19 (.tmp 13) (g13) (0) (19) rfl (hE 13 (.pointer (some ⟨g13, 0, none⟩)) (by kernel_rfl) (by kernel_rfl)) (by kernel_rfl) rfl) ?_
              refine sv 3 rfl rfl rfl (fun a u hE hD hk => exec_loadi 3 Try.underlying3 (.tmp 83) ⟨g13, 19, none⟩ (.int .i64 f.qty) rfl (hD 1 83 (by kernel_rfl)) (range_int (range_kept HFc.out hk) 19 _ rfl)) ?_
              refine sv 4 rfl rfl rfl (fun a u hE hD hk => exec_subn (lf - f.qty) (p := lf) (q := f.qty) rfl (hD 0 82 (by kernel_rfl)) (hD 2 84 (by kernel_rfl)) rfl (by omega) (by omega)) ?_
              exact fsteps_nil
            intro gv wd hV kd
            rw [show dstsOf _ 4 = [82, 83, 84, 85] by kernel_rfl]
            simp only [fC, fN, sA, sS, sZ, dS, dZ]
            rw [show gv 85 = .int .i64 (lf - f.qty) from hV 3 85 (by kernel_rfl)]
            clear hV
            refine l_val (o := ⟨some 10, _, _, _, _, _⟩) (.int .i64 (lf - f.qty)) rfl (exec_assign (.tmp 85) (.int .i64 (lf - f.qty)) rfl (by kernel_rfl)) ?_
            simp only [Act.put, sA, sS, sZ]
            refine wpList_nil ?_
            have kwd := kwc.trans kd
            clear kwc kd hlf hfq e3
            go_wp2
            exact ⟨⟨j + 1, lf - f.qty, by omega, by go_num, rfl, HLF1, kwd⟩, by simp [intOf]; omega⟩
          · have hjm2 : j = m := by omega
            have HFI : Hid (lf = x.left) := by show _ = _; rw [HTI.out.left, HLF.out, List.take_of_length_le (by rw [HM.out]; omega)]
            have HDN : Hid (lf = 0 ∨ m = i) := by
              show _ ∨ _
              rw [HFI.out, ← HM.out, ← HWl.out]
              exact HTI.out.done
            have HER := Lib.hid HTI.out.err
            have HC8 := Lib.hid (HC7.out.kept hkr2)
            have HS8 := Lib.hid (HS7.out.kept hkr2)
            have HW8 := Lib.hid (HW7.out.kept hkr2)
            have kw8 := kw7.trans hkr2
            clear HC7 HS7 HW7 HLF hpt hkr2
            by_cases hl0 : lf = 0
            · skip
              go_upto_region 22 with fail
              refine wp_text 25 [.eq (.pointer (some ⟨g11, 14, none⟩)), .eq (.int .i64 x.err), .eq (.bool true), .eq (.bool true), .eq (.pointer (some ⟨g11, 10, none⟩)), .eq (.int .i64 x.left), .eq (.int .i64 lf), .eq (.bool true), .eq (.bool true), .eq (.bool true), .eq (.int .i64 lf), .eq (.bool true), .eq (.bool true), .eq undef, .eq undef, .eq undef, .eq undef, .eq undef, .eq undef, .eq (.bool true), .eq (.bool true), .eq (.bool true), .eq (.bool true), .eq (.bool true), .eq (.bool true)] rfl (by kernel_rfl) ?_ ?_
              · refine sv 1 rfl rfl rfl (fun a u hE hD hk => exec_fldo 29 6 14 (.tmp 11) (g11) (0) (14) rfl (hE 11 (.pointer (some ⟨g11, 0, none⟩)) (by kernel_rfl) (by kernel_rfl)) (by kernel_rfl) rfl) ?_
                refine sv 2 rfl rfl rfl (fun a u hE hD hk => exec_loadi 27 Try.underlying27 (.tmp 87) ⟨g11, 14, none⟩ (.int .i64 x.err) rfl (hD 0 87 (by kernel_rfl)) (by rw [(HC8.out.kept hk).cell]; rfl)) ?_
                refine fsteps_cons 3 rfl (fun a u hE hD hk => f_as (show ((decide ((x.err : Int) = (0 : Int))) : Bool) = true from decide_eq_true HER.out) (f_val (o := ⟨some 89, _, _, _, _, _⟩) (.bool (decide ((x.err : Int) = (0 : Int)))) rfl (wanted_none rfl _) (exec_eqn (p := x.err) (q := 0) rfl (hD 1 88 (by kernel_rfl)) rfl) rfl)) ?_
                refine sv 4 rfl rfl rfl (fun a u hE hD hk => exec_move (.tmp 89) _ rfl (hD 2 89 (by kernel_rfl))) ?_
                refine fsteps_cons 5 rfl (fun a u hE hD hk => f_val (o := ⟨some 91, _, _, _, _, _⟩) (.pointer (some ⟨g11, 10, none⟩)) rfl (wanted_at (b := true) true rfl rfl (hD 3 90 (by kernel_rfl))) (exec_fldo 29 2 10 (.tmp 11) (g11) (0) (10) rfl (hE 11 (.pointer (some ⟨g11, 0, none⟩)) (by kernel_rfl) (by kernel_rfl)) (by kernel_rfl) rfl) rfl) ?_
                refine fsteps_cons 6 rfl (fun a u hE hD hk => f_val (o := ⟨some 92, _, _, _, _, _⟩) (.int .i64 x.left) rfl (wanted_at (b := true) true rfl rfl (hD 3 90 (by kernel_rfl))) (exec_loadi 3 Try.underlying3 (.tmp 91) ⟨g11, 10, none⟩ (.int .i64 x.left) rfl (hD 4 91 (by kernel_rfl)) (by rw [(HC8.out.kept hk).cell]; rfl)) rfl) ?_
                refine fsteps_cons 7 rfl (fun a u hE hD hk => f_val (o := ⟨some 93, _, _, _, _, _⟩) (.int .i64 lf) rfl (wanted_at (b := true) true rfl rfl (hD 3 90 (by kernel_rfl))) (exec_move (.tmp 10) _ rfl (hE 10 (.int .i64 lf) (by kernel_rfl) (by kernel_rfl))) rfl) ?_
                refine fsteps_cons 8 rfl (fun a u hE hD hk => f_as (show ((decide ((x.left : Int) = (lf : Int))) : Bool) = true from decide_eq_true HFI.out.symm) (f_val (o := ⟨some 94, _, _, _, _, _⟩) (.bool (decide ((x.left : Int) = (lf : Int)))) rfl (wanted_at (b := true) true rfl rfl (hD 3 90 (by kernel_rfl))) (exec_eqn (p := x.left) (q := lf) rfl (hD 5 92 (by kernel_rfl)) (hD 6 93 (by kernel_rfl))) rfl)) ?_
                refine sv 9 rfl rfl rfl (fun a u hE hD hk => exec_pick (.tmp 90) (.tmp 94) (.const (.bool false)) (.bool true) rfl (hD 3 90 (by kernel_rfl)) (hD 7 94 (by kernel_rfl))) ?_
                refine sv 10 rfl rfl rfl (fun a u hE hD hk => exec_move (.tmp 95) _ rfl (hD 8 95 (by kernel_rfl))) ?_
                refine fsteps_cons 11 rfl (fun a u hE hD hk => f_val (o := ⟨some 97, _, _, _, _, _⟩) (.int .i64 lf) rfl (wanted_at (b := true) true rfl rfl (hD 9 96 (by kernel_rfl))) (exec_move (.tmp 10) _ rfl (hE 10 (.int .i64 lf) (by kernel_rfl) (by kernel_rfl))) rfl) ?_
                refine fsteps_cons 12 rfl (fun a u hE hD hk => f_as (show ((decide ((lf : Int) = (0 : Int))) : Bool) = true from decide_eq_true hl0) (f_val (o := ⟨some 98, _, _, _, _, _⟩) (.bool (decide ((lf : Int) = (0 : Int)))) rfl (wanted_at (b := true) true rfl rfl (hD 9 96 (by kernel_rfl))) (exec_eqn (p := lf) (q := 0) rfl (hD 10 97 (by kernel_rfl)) rfl) rfl)) ?_
                refine fsteps_cons 13 rfl (fun a u hE hD hk => f_val (o := ⟨some 99, _, _, _, _, _⟩) (.bool true) rfl (wanted_at (b := true) true rfl rfl (hD 9 96 (by kernel_rfl))) (exec_move (.tmp 98) _ rfl (hD 11 98 (by kernel_rfl))) rfl) ?_
                refine fsteps_cons 14 rfl (fun a u hE hD hk => f_skip (o := ⟨some 100, _, _, _, _, _⟩) rfl (wanted_at (b := false) true rfl rfl (hD 12 99 (by kernel_rfl))) rfl) ?_
                refine fsteps_cons 15 rfl (fun a u hE hD hk => f_skip (o := ⟨some 101, _, _, _, _, _⟩) rfl (wanted_at (b := false) true rfl rfl (hD 12 99 (by kernel_rfl))) rfl) ?_
                refine fsteps_cons 16 rfl (fun a u hE hD hk => f_skip (o := ⟨some 102, _, _, _, _, _⟩) rfl (wanted_at (b := false) true rfl rfl (hD 12 99 (by kernel_rfl))) rfl) ?_
                refine fsteps_cons 17 rfl (fun a u hE hD hk => f_skip (o := ⟨some 103, _, _, _, _, _⟩) rfl (wanted_at (b := false) true rfl rfl (hD 12 99 (by kernel_rfl))) rfl) ?_
                refine fsteps_cons 18 rfl (fun a u hE hD hk => f_skip (o := ⟨some 104, _, _, _, _, _⟩) rfl (wanted_at (b := false) true rfl rfl (hD 12 99 (by kernel_rfl))) rfl) ?_
                refine fsteps_cons 19 rfl (fun a u hE hD hk => f_skip (o := ⟨some 105, _, _, _, _, _⟩) rfl (wanted_at (b := false) true rfl rfl (hD 12 99 (by kernel_rfl))) rfl) ?_
                refine fsteps_cons 20 rfl (fun a u hE hD hk => f_val (o := ⟨some 106, _, _, _, _, _⟩) (.bool true) rfl (wanted_at (b := true) true rfl rfl (hD 9 96 (by kernel_rfl))) (exec_pick (.tmp 99) (.const (.bool true)) (.tmp 105) (.bool true) rfl (hD 12 99 (by kernel_rfl)) rfl) rfl) ?_
                refine sv 21 rfl rfl rfl (fun a u hE hD hk => exec_pick (.tmp 96) (.tmp 106) (.const (.bool false)) (.bool true) rfl (hD 9 96 (by kernel_rfl)) (hD 19 106 (by kernel_rfl))) ?_
                refine sv 22 rfl rfl rfl (fun a u hE hD hk => exec_move (.tmp 107) _ rfl (hD 20 107 (by kernel_rfl))) ?_
                refine fsteps_cons 23 rfl (fun a u hE hD hk => f_call (o := ⟨some 109, _, _, _, _, _⟩) 3 #[] rfl (wanted_at (b := true) true rfl rfl (hD 21 108 (by kernel_rfl))) (exec_call 3 _ [] _ [] Try.func3 (by kernel_rfl) (by kernel_rfl) rfl rfl u) (bruns_gives u)) ?_
                refine sv 24 rfl rfl rfl (fun a u hE hD hk => exec_pick (.tmp 108) (.tmp 109) (.const (.bool false)) (.bool true) rfl (hD 21 108 (by kernel_rfl)) (hD 22 109 (by kernel_rfl))) ?_
                refine sv 25 rfl rfl rfl (fun a u hE hD hk => exec_assign (.tmp 110) _ rfl (hD 23 110 (by kernel_rfl))) ?_
                exact fsteps_nil
              intro gv wx hV kx
              rw [show dstsOf _ 25 = [87, 88, 89, 90, 91, 92, 93, 94, 95, 96, 97, 98, 99, 100, 101, 102, 103, 104, 105, 106, 107, 108, 109, 110, 4] by kernel_rfl]
              simp only [fC, fN, sA, sS, sZ, dS, dZ]
              rw [show gv 4 = .bool true from hV 24 4 (by kernel_rfl)]
              clear hV
              refine wpList_nil ?_
              go_wp2
              go_ret
              exact ⟨rfl, kw8.trans kx⟩
            · skip
              have hmi2 : (m : Int) = (i : Int) := by have := HDN.out; omega
              go_upto_region 22 with fail
              refine wp_text 25 [.eq (.pointer (some ⟨g11, 14, none⟩)), .eq (.int .i64 x.err), .eq (.bool true), .eq (.bool true), .eq (.pointer (some ⟨g11, 10, none⟩)), .eq (.int .i64 x.left), .eq (.int .i64 lf), .eq (.bool true), .eq (.bool true), .eq (.bool true), .eq (.int .i64 lf), .eq (.bool false), .eq (.bool false), .eq (.pointer (some ⟨g11, 9, none⟩)), .eq (vf), .eq (.int .i64 (m : Int)), .eq (vw), .eq (.int .i64 (i : Int)), .eq (.bool true), .eq (.bool true), .eq (.bool true), .eq (.bool true), .eq (.bool true), .eq (.bool true), .eq (.bool true)] rfl (by kernel_rfl) ?_ ?_
              · refine sv 1 rfl rfl rfl (fun a u hE hD hk => exec_fldo 29 6 14 (.tmp 11) (g11) (0) (14) rfl (hE 11 (.pointer (some ⟨g11, 0, none⟩)) (by kernel_rfl) (by kernel_rfl)) (by kernel_rfl) rfl) ?_
                refine sv 2 rfl rfl rfl (fun a u hE hD hk => exec_loadi 27 Try.underlying27 (.tmp 87) ⟨g11, 14, none⟩ (.int .i64 x.err) rfl (hD 0 87 (by kernel_rfl)) (by rw [(HC8.out.kept hk).cell]; rfl)) ?_
                refine fsteps_cons 3 rfl (fun a u hE hD hk => f_as (show ((decide ((x.err : Int) = (0 : Int))) : Bool) = true from decide_eq_true HER.out) (f_val (o := ⟨some 89, _, _, _, _, _⟩) (.bool (decide ((x.err : Int) = (0 : Int)))) rfl (wanted_none rfl _) (exec_eqn (p := x.err) (q := 0) rfl (hD 1 88 (by kernel_rfl)) rfl) rfl)) ?_
                refine sv 4 rfl rfl rfl (fun a u hE hD hk => exec_move (.tmp 89) _ rfl (hD 2 89 (by kernel_rfl))) ?_
                refine fsteps_cons 5 rfl (fun a u hE hD hk => f_val (o := ⟨some 91, _, _, _, _, _⟩) (.pointer (some ⟨g11, 10, none⟩)) rfl (wanted_at (b := true) true rfl rfl (hD 3 90 (by kernel_rfl))) (exec_fldo 29 2 10 (.tmp 11) (g11) (0) (10) rfl (hE 11 (.pointer (some ⟨g11, 0, none⟩)) (by kernel_rfl) (by kernel_rfl)) (by kernel_rfl) rfl) rfl) ?_
                refine fsteps_cons 6 rfl (fun a u hE hD hk => f_val (o := ⟨some 92, _, _, _, _, _⟩) (.int .i64 x.left) rfl (wanted_at (b := true) true rfl rfl (hD 3 90 (by kernel_rfl))) (exec_loadi 3 Try.underlying3 (.tmp 91) ⟨g11, 10, none⟩ (.int .i64 x.left) rfl (hD 4 91 (by kernel_rfl)) (by rw [(HC8.out.kept hk).cell]; rfl)) rfl) ?_
                refine fsteps_cons 7 rfl (fun a u hE hD hk => f_val (o := ⟨some 93, _, _, _, _, _⟩) (.int .i64 lf) rfl (wanted_at (b := true) true rfl rfl (hD 3 90 (by kernel_rfl))) (exec_move (.tmp 10) _ rfl (hE 10 (.int .i64 lf) (by kernel_rfl) (by kernel_rfl))) rfl) ?_
                refine fsteps_cons 8 rfl (fun a u hE hD hk => f_as (show ((decide ((x.left : Int) = (lf : Int))) : Bool) = true from decide_eq_true HFI.out.symm) (f_val (o := ⟨some 94, _, _, _, _, _⟩) (.bool (decide ((x.left : Int) = (lf : Int)))) rfl (wanted_at (b := true) true rfl rfl (hD 3 90 (by kernel_rfl))) (exec_eqn (p := x.left) (q := lf) rfl (hD 5 92 (by kernel_rfl)) (hD 6 93 (by kernel_rfl))) rfl)) ?_
                refine sv 9 rfl rfl rfl (fun a u hE hD hk => exec_pick (.tmp 90) (.tmp 94) (.const (.bool false)) (.bool true) rfl (hD 3 90 (by kernel_rfl)) (hD 7 94 (by kernel_rfl))) ?_
                refine sv 10 rfl rfl rfl (fun a u hE hD hk => exec_move (.tmp 95) _ rfl (hD 8 95 (by kernel_rfl))) ?_
                refine fsteps_cons 11 rfl (fun a u hE hD hk => f_val (o := ⟨some 97, _, _, _, _, _⟩) (.int .i64 lf) rfl (wanted_at (b := true) true rfl rfl (hD 9 96 (by kernel_rfl))) (exec_move (.tmp 10) _ rfl (hE 10 (.int .i64 lf) (by kernel_rfl) (by kernel_rfl))) rfl) ?_
                refine fsteps_cons 12 rfl (fun a u hE hD hk => f_as (show ((decide ((lf : Int) = (0 : Int))) : Bool) = false from decide_eq_false hl0) (f_val (o := ⟨some 98, _, _, _, _, _⟩) (.bool (decide ((lf : Int) = (0 : Int)))) rfl (wanted_at (b := true) true rfl rfl (hD 9 96 (by kernel_rfl))) (exec_eqn (p := lf) (q := 0) rfl (hD 10 97 (by kernel_rfl)) rfl) rfl)) ?_
                refine fsteps_cons 13 rfl (fun a u hE hD hk => f_val (o := ⟨some 99, _, _, _, _, _⟩) (.bool false) rfl (wanted_at (b := true) true rfl rfl (hD 9 96 (by kernel_rfl))) (exec_move (.tmp 98) _ rfl (hD 11 98 (by kernel_rfl))) rfl) ?_
                refine fsteps_cons 14 rfl (fun a u hE hD hk => f_val (o := ⟨some 100, _, _, _, _, _⟩) (.pointer (some ⟨g11, 9, none⟩)) rfl (wanted_at (b := false) false rfl rfl (hD 12 99 (by kernel_rfl))) (exec_fldo 29 1 9 (.tmp 11) (g11) (0) (9) rfl (hE 11 (.pointer (some ⟨g11, 0, none⟩)) (by kernel_rfl) (by kernel_rfl)) (by kernel_rfl) rfl) rfl) ?_
                refine fsteps_cons 15 rfl (fun a u hE hD hk => f_val (o := ⟨some 101, _, _, _, _, _⟩) (vf) rfl (wanted_at (b := false) false rfl rfl (hD 12 99 (by kernel_rfl))) (exec_ldv 26 _ Try.underlying26 (.tmp 100) ⟨g11, 9, none⟩ (vf) rfl (hD 13 100 (by kernel_rfl)) (by rw [(HC8.out.kept hk).cell]; rfl)) rfl) ?_
                refine fsteps_cons 16 rfl (fun a u hE hD hk => f_val (o := ⟨some 102, _, _, _, _, _⟩) (.int .i64 (m : Int)) rfl (wanted_at (b := false) false rfl rfl (hD 12 99 (by kernel_rfl))) (exec_lenS (.tmp 101) slF (vf) (m) _ _ rfl (hD 14 101 (by kernel_rfl)) HS8.out) rfl) ?_
                refine fsteps_cons 17 rfl (fun a u hE hD hk => f_val (o := ⟨some 103, _, _, _, _, _⟩) (vw) rfl (wanted_at (b := false) false rfl rfl (hD 12 99 (by kernel_rfl))) (exec_move (.tmp 6) _ rfl (hE 6 (vw) (by kernel_rfl) (by kernel_rfl))) rfl) ?_
                refine fsteps_cons 18 rfl (fun a u hE hD hk => f_val (o := ⟨some 104, _, _, _, _, _⟩) (.int .i64 (i : Int)) rfl (wanted_at (b := false) false rfl rfl (hD 12 99 (by kernel_rfl))) (exec_lenS (.tmp 103) slI (vw) (i) _ _ rfl (hD 16 103 (by kernel_rfl)) HW8.out) rfl) ?_
                refine fsteps_cons 19 rfl (fun a u hE hD hk => f_as (show ((decide (((m : Int) : Int) = ((i : Int) : Int))) : Bool) = true from decide_eq_true hmi2) (f_val (o := ⟨some 105, _, _, _, _, _⟩) (.bool (decide (((m : Int) : Int) = ((i : Int) : Int)))) rfl (wanted_at (b := false) false rfl rfl (hD 12 99 (by kernel_rfl))) (exec_eqn (p := (m : Int)) (q := (i : Int)) rfl (hD 15 102 (by kernel_rfl)) (hD 17 104 (by kernel_rfl))) rfl)) ?_
                refine fsteps_cons 20 rfl (fun a u hE hD hk => f_val (o := ⟨some 106, _, _, _, _, _⟩) (.bool true) rfl (wanted_at (b := true) true rfl rfl (hD 9 96 (by kernel_rfl))) (exec_pickF (.tmp 99) (.const (.bool true)) (.tmp 105) (.bool true) rfl (hD 12 99 (by kernel_rfl)) (hD 18 105 (by kernel_rfl))) rfl) ?_
                refine sv 21 rfl rfl rfl (fun a u hE hD hk => exec_pick (.tmp 96) (.tmp 106) (.const (.bool false)) (.bool true) rfl (hD 9 96 (by kernel_rfl)) (hD 19 106 (by kernel_rfl))) ?_
                refine sv 22 rfl rfl rfl (fun a u hE hD hk => exec_move (.tmp 107) _ rfl (hD 20 107 (by kernel_rfl))) ?_
                refine fsteps_cons 23 rfl (fun a u hE hD hk => f_call (o := ⟨some 109, _, _, _, _, _⟩) 3 #[] rfl (wanted_at (b := true) true rfl rfl (hD 21 108 (by kernel_rfl))) (exec_call 3 _ [] _ [] Try.func3 (by kernel_rfl) (by kernel_rfl) rfl rfl u) (bruns_gives u)) ?_
                refine sv 24 rfl rfl rfl (fun a u hE hD hk => exec_pick (.tmp 108) (.tmp 109) (.const (.bool false)) (.bool true) rfl (hD 21 108 (by kernel_rfl)) (hD 22 109 (by kernel_rfl))) ?_
                refine sv 25 rfl rfl rfl (fun a u hE hD hk => exec_assign (.tmp 110) _ rfl (hD 23 110 (by kernel_rfl))) ?_
                exact fsteps_nil
              intro gv wx hV kx
              rw [show dstsOf _ 25 = [87, 88, 89, 90, 91, 92, 93, 94, 95, 96, 97, 98, 99, 100, 101, 102, 103, 104, 105, 106, 107, 108, 109, 110, 4] by kernel_rfl]
              simp only [fC, fN, sA, sS, sZ, dS, dZ]
              rw [show gv 4 = .bool true from hV 24 4 (by kernel_rfl)]
              clear hV
              refine wpList_nil ?_
              go_wp2
              go_ret
              exact ⟨rfl, kw8.trans kx⟩
      · go_upto_region 13 with fail
        refine wp_text 3 [.eq (.int .i64 qy), .eq (.int .i64 q), .eq (.int .i64 q)] rfl (by kernel_rfl) ?_ ?_
        · refine sv 1 rfl rfl rfl (fun a u hE hD hk => exec_move (.tmp 1) _ rfl (hE 1 (.int .i64 qy) (by kernel_rfl) (by kernel_rfl))) ?_
          refine fsteps_cons 2 rfl (fun a u hE hD hk => f_call (o := ⟨some 47, _, _, _, _, _⟩) 38 #[.int .i64 qy, .int .i64 1, .int .i64 100] rfl (wanted_none rfl _) (exec_call 38 _ [.tmp 46, .const (.int .i64 1), .const (.int .i64 100)] _ [.int .i64 qy, .int .i64 1, .int .i64 100] Try.func38 (by kernel_rfl) (by kernel_rfl) rfl (show [a.eval (.tmp 46), a.eval (.const (.int .i64 1)), a.eval (.const (.int .i64 100))] = [.int .i64 qy, .int .i64 1, .int .i64 100] from (by rw [show a.eval (.tmp 46) = .int .i64 qy from (hD 0 46 (by kernel_rfl))] <;> rfl)) u) ((by rw [← HQ.out]; exact within_is qy 1 100 u (by omega) (by omega) (by omega)))) ?_
          refine sv 3 rfl rfl rfl (fun a u hE hD hk => exec_assign (.tmp 47) _ rfl (hD 1 47 (by kernel_rfl))) ?_
          exact fsteps_nil
        intro gv w2 hV k2
        rw [show dstsOf _ 3 = [46, 47, 10] by kernel_rfl]
        simp only [fC, fN, sA, sS, sZ, dS, dZ]
        rw [show gv 10 = .int .i64 q from hV 2 10 (by kernel_rfl)]
        clear hV
        refine wpList_nil ?_
        have HB2 := Lib.hid (HBr.out.kept k2)
        have HW2 := Lib.hid (HWS.out.kept k2)
        have k02 := hkr.trans k2
        have z2 := k2.size
        clear HBr k2 HQ HWS
        go_upto_region 14 with fail
        refine wp_text 3 [.eq (.pointer (some ⟨p, 0, none⟩)), .eq (.int .i64 q), .eq ((tQ q).v)] rfl (by kernel_rfl) ?_ ?_
        · refine sv 1 rfl rfl rfl (fun a u hE hD hk => exec_move (.tmp 5) _ rfl (hE 5 (.pointer (some ⟨p, 0, none⟩)) (by kernel_rfl) (by kernel_rfl))) ?_
          refine sv 2 rfl rfl rfl (fun a u hE hD hk => exec_move (.tmp 10) _ rfl (hE 10 (.int .i64 q) (by kernel_rfl) (by kernel_rfl))) ?_
          refine fsteps_cons 3 rfl (fun a u hE hD hk => f_call (o := ⟨some 50, _, _, _, _, _⟩) 16 #[.int .i64 7, .int .i64 1, .int .i64 1, .int .i64 3, .int .i64 100, .int .i64 q] rfl (wanted_none rfl _) (exec_call 16 _ [.const (.int .i64 7), .const (.int .i64 1), .const (.int .i64 1), .const (.int .i64 3), .const (.int .i64 100), .tmp 49] _ [.int .i64 7, .int .i64 1, .int .i64 1, .int .i64 3, .int .i64 100, .int .i64 q] Try.func16 (by kernel_rfl) (by kernel_rfl) rfl (show [a.eval (.const (.int .i64 7)), a.eval (.const (.int .i64 1)), a.eval (.const (.int .i64 1)), a.eval (.const (.int .i64 3)), a.eval (.const (.int .i64 100)), a.eval (.tmp 49)] = [.int .i64 7, .int .i64 1, .int .i64 1, .int .i64 3, .int .i64 100, .int .i64 q] from (by rw [show a.eval (.tmp 49) = .int .i64 q from (hD 1 49 (by kernel_rfl))] <;> rfl)) u) (o_any _ _ _ _ _ _ u)) ?_
          exact fsteps_nil
        intro gv w3 hV k3
        rw [show dstsOf _ 3 = [48, 49, 50] by kernel_rfl]
        simp only [fC, fN, sA, sS, sZ, dS, dZ]
        rw [show gv 48 = .pointer (some ⟨p, 0, none⟩) from hV 0 48 (by kernel_rfl)]
        rw [show gv 50 = (tQ q).v from hV 2 50 (by kernel_rfl)]
        clear hV
        refine l_call (o := ⟨some 51, _, _, _, _, _⟩) 15 #[.pointer (some ⟨p, 0, none⟩), (tQ q).v] rfl (exec_call 15 _ [.tmp 48, .tmp 50] _ _ Try.func15 (by kernel_rfl) (by kernel_rfl) rfl (by kernel_rfl) _) ?_
        refine (badd_at w3 F' p (tB W) (tQ q) _ HAD.out (HB2.out.kept k3) HIW.out (show (0 : Int) ≤ 1000000000000 by omega)).mono ?_
        rintro r w4 ⟨F4, vf, rfl, hB4, hS4, hO4, hG4, hk4⟩
        refine ⟨_, rfl, ?_⟩
        simp only [Act.put, sA, sS, sZ]
        refine l_new (o := ⟨some 11, _, _, _, _, _⟩) (.pointer (some ⟨w4.heap.size, 0, none⟩)) (w4.alloc (.cells (zeroC.cells (.slice none 0 0)).toArray 29)) rfl (exec_alc 29 (zeroC.cells (.slice none 0 0)) rfl zC) ?_
        have hNw5 := Blk.new w4 29 (zeroC.cells (.slice none 0 0))
        have kw5 : Kept w4 (w4.alloc (.cells (zeroC.cells (.slice none 0 0)).toArray 29)) := (Keep.refl _ w4).alloc _
        generalize w4.alloc (.cells (zeroC.cells (.slice none 0 0)).toArray 29) = w5 at hNw5 kw5 ⊢
        simp only [Act.put, sA, sS, sZ]
        refine l_setS (o := ⟨none, _, _, _, _, _⟩) 29 w4.heap.size 29 (zeroC.cells (.slice none 0 0)) (x.cells vf) (.tmp 11) (.tmp 51) rfl rfl (by kernel_rfl) (by kernel_rfl) (hNw5) (by rw [Oc.len15]; exact szC) (by rw [Oc.len15, Oc.len15]) (Oc.one _ _ (sl_onec hS4)) ?_
        intro w6 hCw6 hkw6 hsw6
        simp only [Act.put]
        refine wpList_nil ?_
        obtain ⟨KK, hB6, hS6, hO6, hG6, hF6, z6⟩ := add_frame k3 hB4 hS4 hO4 hG4 hk4 kw5 hkw6
        obtain ⟨g11, hg11⟩ : ∃ y, w4.heap.size = y := ⟨_, rfl⟩
        rw [hg11] at hCw6 hF6 z6 hO6 ⊢
        have HC6 := Lib.hid hCw6
        have kw6 : Kept w w6 := Keep.trans k02 KK (fun b hb h => by have := HFr.out b h; omega)
        have HW6 : Hid (Sl w6 3 1 vw i (i64s W)) := HW2.out.keep KK (fun b hb h => (HWo.out b hb).2 h)
        obtain ⟨m, hm⟩ : ∃ m, x.f.length = m := ⟨_, rfl⟩
        have HM := Lib.hid hm
        have hmi : m ≤ i := by have := HTI.out.len; rw [HWl.out, hm] at this; exact this
        rw [hm] at hS6
        have HS6 := Lib.hid hS6
        clear hB4 hS4 hO4 hG4 hk4 hNw5 kw5 hCw6 hkw6 hsw6 hB6 hS6 hO6 hG6 hF6 KK k02 k3 HB2 HW2 HAD HIW hg11 hm z6
        go_upto_region 15 with fail
        refine wp_text 4 [.eq (.pointer (some ⟨g11, 9, none⟩)), .eq (vf), .eq (.int .i64 (m : Int)), .eq (.int .i64 0)] rfl (by kernel_rfl) ?_ ?_
        · refine sv 1 rfl rfl rfl (fun a u hE hD hk => exec_fldo 29 1 9 (.tmp 11) (g11) (0) (9) rfl (hE 11 (.pointer (some ⟨g11, 0, none⟩)) (by kernel_rfl) (by kernel_rfl)) (by kernel_rfl) rfl) ?_
          refine sv 2 rfl rfl rfl (fun a u hE hD hk => exec_ldv 26 _ Try.underlying26 (.tmp 52) ⟨g11, 9, none⟩ (vf) rfl (hD 0 52 (by kernel_rfl)) (by rw [(HC6.out.kept hk).cell]; rfl)) ?_
          refine sv 3 rfl rfl rfl (fun a u hE hD hk => exec_lenS (.tmp 53) slF (vf) (m) _ _ rfl (hD 1 53 (by kernel_rfl)) HS6.out) ?_
          refine sv 4 rfl rfl rfl (fun a u hE hD hk => exec_move (.const (.int .i64 0)) _ rfl rfl) ?_
          exact fsteps_nil
        intro gv w7 hV k7
        rw [show dstsOf _ 4 = [52, 53, 54, 55] by kernel_rfl]
        simp only [fC, fN, sA, sS, sZ, dS, dZ]
        rw [show gv 53 = vf from hV 1 53 (by kernel_rfl)]
        rw [show gv 54 = .int .i64 (m : Int) from hV 2 54 (by kernel_rfl)]
        rw [show gv 55 = .int .i64 0 from hV 3 55 (by kernel_rfl)]
        clear hV
        refine wpList_nil ?_
        have HC7 := Lib.hid (HC6.out.kept k7)
        have HS7 := Lib.hid (HS6.out.kept k7)
        have HW7 := Lib.hid (HW6.out.kept k7)
        have kw7 := kw6.trans k7
        clear HC6 HS6 HW6 kw6 k7
        go_wp2_with fail
        go_loopw [10, 55] (fun t y wr => ∃ (j : Nat) (lf : Int), j ≤ m ∧ y = .int .i64 (j : Int) ∧ t = .int .i64 lf ∧ Hid (lf = q - sumF (x.f.take j)) ∧ Kept w7 wr) (fun _ y _ => m - (intOf y).toNat)
        case atStart => exact ⟨0, q, Nat.zero_le _, rfl, rfl, by show _ = _; rw [List.take_zero]; simp [sumF, sumI], Kept.refl _⟩
        case round =>
          obtain ⟨j, lf, hj, rfl, rfl, HLF, hkr2⟩ := hrel
          have hpt := HTI.out.part j
          have hlf : 0 ≤ lf ∧ lf ≤ q := by rw [HLF.out]; omega
          by_cases hjm : j < m
          · obtain ⟨gf, of_, c2, rfl⟩ := HS7.out.some_ (by omega)
            obtain ⟨gw, ow, c3, rfl⟩ := HW7.out.some_ (by omega)
            obtain ⟨f, hf⟩ : ∃ f, x.f[j]? = some f := ⟨x.f[j]'(by rw [HM.out]; exact hjm), List.getElem?_eq_getElem (by rw [HM.out]; exact hjm)⟩
            have HE : Hid (wr.rangeAt gf (of_ + j * 21) f.cells) := range_kept (HS7.out.rngF j f hf) hkr2
            obtain ⟨nw, hnw, e1, e2, e3⟩ := HTI.out.each j f hf
            have HCW := Lib.hid (hkr2.cell (HW7.out.intAt j nw hnw))
            have hstep : sumF (x.f.take (j + 1)) = sumF (x.f.take j) + f.qty := sumF_take x.f j f hf
            have hpt2 := HTI.out.part (j + 1)
            have HLF1 : Hid (lf - f.qty = q - sumF (x.f.take (j + 1))) := by show _ = _; rw [hstep, HLF.out]; omega
            have hfq : f.qty ≤ lf := by rw [HLF.out]; omega
            rw [← HLF.out] at e2
            have hji : j < i := by omega
            clear hf hnw hstep hpt2 hpt HLF
            go_upto_region 17 with fail
            refine wp_text 4 [.eq (.int .i64 (j : Int)), .eq (.pointer (some ⟨gf, of_ + j * 21, none⟩)), .eq (f.v), .fresh wr.heap.size 36 zeroF.cells] rfl (by kernel_rfl) ?_ ?_
            · refine sv 1 rfl rfl rfl (fun a u hE hD hk => exec_move (.tmp 55) _ rfl (hE 55 (.int .i64 (j : Int)) (by kernel_rfl) (by kernel_rfl))) ?_
              refine sv 2 rfl rfl rfl (fun a u hE hD hk => exec_ixo slF (.tmp 53) (.tmp 55) (gf) (of_) m c2 j (of_ + j * 21) ((j : Int)) rfl (hE 53 (.slice (some ⟨gf, of_, none⟩) m c2) (by kernel_rfl) (by kernel_rfl)) (hE 55 (.int .i64 (j : Int)) (by kernel_rfl) (by kernel_rfl)) (by first | rfl | omega) (hjm) (by first | rfl | omega)) ?_
              refine sv 3 rfl rfl rfl (fun a u hE hD hk => exec_ldS 36 _ (.tmp 58) (gf) (of_ + j * 21) (f.cells) rfl (hD 1 58 (by kernel_rfl)) (range_kept HE.out hk) Try.underlying36 (by rw [f.len21]; exact szF)) ?_
              refine fsteps_cons 4 rfl (fun a u hE hD hk => f_new (o := ⟨some 13, _, _, _, _, _⟩) (.pointer (some ⟨u.heap.size, 0, none⟩)) _ rfl (wanted_none rfl _) (exec_alc 36 zeroF.cells rfl zF) ⟨_, rfl, hk.size, Blk.new u _ _⟩ ((Keep.refl _ u).alloc _)) ?_
              exact fsteps_nil
            intro gv wa hV ka
            rw [show dstsOf _ 4 = [57, 58, 59, 13] by kernel_rfl]
            simp only [fC, fN, sA, sS, sZ, dS, dZ]
            rw [show gv 57 = .int .i64 (j : Int) from hV 0 57 (by kernel_rfl)]
            have hv13 : (.fresh wr.heap.size 36 zeroF.cells : Kn).p (gv 13) wa := hV 3 13 (by kernel_rfl)
            generalize gv 13 = v13 at hv13 ⊢
            rw [show gv 59 = f.v from hV 2 59 (by kernel_rfl)]
            clear hV
            obtain ⟨g13, rfl, hg13, hB13⟩ := hv13
            refine l_val (o := ⟨some 12, _, _, _, _, _⟩) (.int .i64 (j : Int)) rfl (exec_assign (.tmp 57) (.int .i64 (j : Int)) rfl (by kernel_rfl)) ?_
            simp only [Act.put, sA, sS, sZ]
            refine l_setS (o := ⟨none, _, _, _, _, _⟩) 36 g13 36 zeroF.cells f.cells (.tmp 13) (.tmp 59) rfl rfl (by kernel_rfl) (by kernel_rfl) hB13 (by rw [Fl.len21]; exact szF) (by rw [Fl.len21, Fl.len21]) (Fl.one _) ?_
            intro wb hBb hkb hsb
            simp only [Act.put]
            refine wpList_nil ?_
            have kb : Kept wr wb := ka.trans' hkb (by omega)
            have HFb := Lib.hid (blk_range hBb)
            have HCb := Lib.hid (kb.cell HCW.out)
            have kwb := hkr2.trans kb
            clear hB13 hBb hkb hsb ka HE HCW hkr2 kb
            go_upto_region 18 with fail
            refine wp_free 22 [.eq (.int .i64 (j : Int)), .eq (.slice (some ⟨gw, ow, none⟩) i c3), .eq (.int .i64 (i : Int)), .eq (.bool false), .eq (.bool false), .eq (.pointer (some ⟨g13, 0, none⟩)), .eq (.pointer (some ⟨g13, 1, none⟩)), .eq (.int .i64 f.mk_.id), .eq (.int .i64 (j : Int)), .eq (.bool false), .eq (.bool false), .eq (.bool false), .eq (.pointer (some ⟨g13, 19, none⟩)), .eq (.int .i64 f.qty), .eq (.int .i64 lf), .eq (.slice (some ⟨gw, ow, none⟩) i c3), .eq (.int .i64 (j : Int)), .eq (.pointer (some ⟨gw, ow + j * 1, none⟩)), .eq (.int .i64 nw), .eq (.int .i64 (mn (lf) (nw))), .eq (.bool false), .eq (.bool false)] (by kernel_rfl) rfl (by kernel_rfl) ?_ ?_
            · refine sv 1 rfl rfl rfl (fun a u hE hD hk => exec_move (.tmp 12) _ rfl (hE 12 (.int .i64 (j : Int)) (by kernel_rfl) (by kernel_rfl))) ?_
              refine sv 2 rfl rfl rfl (fun a u hE hD hk => exec_move (.tmp 6) _ rfl (hE 6 (.slice (some ⟨gw, ow, none⟩) i c3) (by kernel_rfl) (by kernel_rfl))) ?_
              refine sv 3 rfl rfl rfl (fun a u hE hD hk => exec_len (.tmp 61) _ _ slI.und (some ⟨gw, ow, none⟩) i c3 rfl (hD 1 61 (by kernel_rfl))) ?_
              refine fsteps_cons 4 rfl (fun a u hE hD hk => f_as (show ((decide (((i : Int) : Int) ≤ ((j : Int) : Int))) : Bool) = false from decide_eq_false (by omega)) (f_val (o := ⟨some 63, _, _, _, _, _⟩) (.bool (decide (((i : Int) : Int) ≤ ((j : Int) : Int)))) rfl (wanted_none rfl _) (exec_gen (p := (j : Int)) (q := (i : Int)) rfl (hD 0 60 (by kernel_rfl)) (hD 2 62 (by kernel_rfl))) rfl)) ?_
              refine sv 5 rfl rfl rfl (fun a u hE hD hk => exec_move (.tmp 63) _ rfl (hD 3 63 (by kernel_rfl))) ?_
              refine fsteps_cons 6 rfl (fun a u hE hD hk => f_val (o := ⟨some 65, _, _, _, _, _⟩) (.pointer (some ⟨g13, 0, none⟩)) rfl (wanted_at (b := false) false rfl rfl (hD 4 64 (by kernel_rfl))) (exec_fldo 36 0 0 (.tmp 13) (g13) (0) (0) rfl (hE 13 (.pointer (some ⟨g13, 0, none⟩)) (by kernel_rfl) (by kernel_rfl)) (by kernel_rfl) rfl) rfl) ?_
              refine fsteps_cons 7 rfl (fun a u hE hD hk => f_val (o := ⟨some 66, _, _, _, _, _⟩) (.pointer (some ⟨g13, 1, none⟩)) rfl (wanted_at (b := false) false rfl rfl (hD 4 64 (by kernel_rfl))) (exec_fldo 25 1 1 (.tmp 65) (g13) (0) (1) rfl (hD 5 65 (by kernel_rfl)) (by kernel_rfl) rfl) rfl) ?_
              refine fsteps_cons 8 rfl (fun a u hE hD hk => f_val (o := ⟨some 67, _, _, _, _, _⟩) (.int .i64 f.mk_.id) rfl (wanted_at (b := false) false rfl rfl (hD 4 64 (by kernel_rfl))) (exec_loadi 3 Try.underlying3 (.tmp 66) ⟨g13, 1, none⟩ (.int .i64 f.mk_.id) rfl (hD 6 66 (by kernel_rfl)) (range_int (range_kept HFb.out hk) 1 _ rfl)) rfl) ?_
              refine fsteps_cons 9 rfl (fun a u hE hD hk => f_val (o := ⟨some 68, _, _, _, _, _⟩) (.int .i64 (j : Int)) rfl (wanted_at (b := false) false rfl rfl (hD 4 64 (by kernel_rfl))) (exec_move (.tmp 12) _ rfl (hE 12 (.int .i64 (j : Int)) (by kernel_rfl) (by kernel_rfl))) rfl) ?_
              refine fsteps_cons 10 rfl (fun a u hE hD hk => f_as (show ((decide ((f.mk_.id : Int) ≠ ((j : Int) : Int))) : Bool) = false from decide_eq_false (by omega)) (f_val (o := ⟨some 69, _, _, _, _, _⟩) (.bool (decide ((f.mk_.id : Int) ≠ ((j : Int) : Int)))) rfl (wanted_at (b := false) false rfl rfl (hD 4 64 (by kernel_rfl))) (exec_nen (p := f.mk_.id) (q := (j : Int)) rfl (hD 7 67 (by kernel_rfl)) (hD 8 68 (by kernel_rfl))) rfl)) ?_
              refine sv 11 rfl rfl rfl (fun a u hE hD hk => exec_pickF (.tmp 64) (.const (.bool true)) (.tmp 69) (.bool false) rfl (hD 4 64 (by kernel_rfl)) (hD 9 69 (by kernel_rfl))) ?_
              refine sv 12 rfl rfl rfl (fun a u hE hD hk => exec_move (.tmp 70) _ rfl (hD 10 70 (by kernel_rfl))) ?_
              refine fsteps_cons 13 rfl (fun a u hE hD hk => f_val (o := ⟨some 72, _, _, _, _, _⟩) (.pointer (some ⟨g13, 19, none⟩)) rfl (wanted_at (b := false) false rfl rfl (hD 11 71 (by kernel_rfl))) (exec_fldo 36 3 19 (.tmp 13) (g13) (0) (19) rfl (hE 13 (.pointer (some ⟨g13, 0, none⟩)) (by kernel_rfl) (by kernel_rfl)) (by kernel_rfl) rfl) rfl) ?_
              refine fsteps_cons 14 rfl (fun a u hE hD hk => f_val (o := ⟨some 73, _, _, _, _, _⟩) (.int .i64 f.qty) rfl (wanted_at (b := false) false rfl rfl (hD 11 71 (by kernel_rfl))) (exec_loadi 3 Try.underlying3 (.tmp 72) ⟨g13, 19, none⟩ (.int .i64 f.qty) rfl (hD 12 72 (by kernel_rfl)) (range_int (range_kept HFb.out hk) 19 _ rfl)) rfl) ?_
              refine fsteps_cons 15 rfl (fun a u hE hD hk => f_val (o := ⟨some 74, _, _, _, _, _⟩) (.int .i64 lf) rfl (wanted_at (b := false) false rfl rfl (hD 11 71 (by kernel_rfl))) (exec_move (.tmp 10) _ rfl (hE 10 (.int .i64 lf) (by kernel_rfl) (by kernel_rfl))) rfl) ?_
              refine fsteps_cons 16 rfl (fun a u hE hD hk => f_val (o := ⟨some 75, _, _, _, _, _⟩) (.slice (some ⟨gw, ow, none⟩) i c3) rfl (wanted_at (b := false) false rfl rfl (hD 11 71 (by kernel_rfl))) (exec_move (.tmp 6) _ rfl (hE 6 (.slice (some ⟨gw, ow, none⟩) i c3) (by kernel_rfl) (by kernel_rfl))) rfl) ?_
              refine fsteps_cons 17 rfl (fun a u hE hD hk => f_val (o := ⟨some 76, _, _, _, _, _⟩) (.int .i64 (j : Int)) rfl (wanted_at (b := false) false rfl rfl (hD 11 71 (by kernel_rfl))) (exec_move (.tmp 12) _ rfl (hE 12 (.int .i64 (j : Int)) (by kernel_rfl) (by kernel_rfl))) rfl) ?_
              refine fsteps_cons 18 rfl (fun a u hE hD hk => f_val (o := ⟨some 77, _, _, _, _, _⟩) (.pointer (some ⟨gw, ow + j * 1, none⟩)) rfl (wanted_at (b := false) false rfl rfl (hD 11 71 (by kernel_rfl))) (exec_ixo slI (.tmp 75) (.tmp 76) (gw) (ow) i c3 j (ow + j * 1) ((j : Int)) rfl (hD 15 75 (by kernel_rfl)) (hD 16 76 (by kernel_rfl)) (by first | rfl | omega) (hji) (by first | rfl | omega)) rfl) ?_
              refine fsteps_cons 19 rfl (fun a u hE hD hk => f_val (o := ⟨some 78, _, _, _, _, _⟩) (.int .i64 nw) rfl (wanted_at (b := false) false rfl rfl (hD 11 71 (by kernel_rfl))) (exec_loadi 3 Try.underlying3 (.tmp 77) ⟨gw, ow + j * 1, none⟩ (.int .i64 nw) rfl (hD 17 77 (by kernel_rfl)) (Kept.cell hk (HCb.out))) rfl) ?_
              refine fsteps_cons 20 rfl (fun a u hE hD hk => f_val (o := ⟨some 79, _, _, _, _, _⟩) (.int .i64 (mn (lf) (nw))) rfl (wanted_at (b := false) false rfl rfl (hD 11 71 (by kernel_rfl))) (exec_min (.tmp 74) (.tmp 78) _ (lf) (nw) (mn (lf) (nw)) rfl (hD 14 74 (by kernel_rfl)) (hD 18 78 (by kernel_rfl)) rfl) rfl) ?_
              refine fsteps_cons 21 rfl (fun a u hE hD hk => f_as (show ((decide ((f.qty : Int) ≠ ((mn (lf) (nw)) : Int))) : Bool) = false from decide_eq_false (by omega)) (f_val (o := ⟨some 80, _, _, _, _, _⟩) (.bool (decide ((f.qty : Int) ≠ ((mn (lf) (nw)) : Int)))) rfl (wanted_at (b := false) false rfl rfl (hD 11 71 (by kernel_rfl))) (exec_nen (p := f.qty) (q := (mn (lf) (nw))) rfl (hD 13 73 (by kernel_rfl)) (hD 19 79 (by kernel_rfl))) rfl)) ?_
              refine sv 22 rfl rfl rfl (fun a u hE hD hk => exec_pickF (.tmp 71) (.const (.bool true)) (.tmp 80) (.bool false) rfl (hD 11 71 (by kernel_rfl)) (hD 20 80 (by kernel_rfl))) ?_
              exact fsteps_nil
            intro gv wc hV kc
            rw [show dstsOf _ 22 = [60, 61, 62, 63, 64, 65, 66, 67, 68, 69, 70, 71, 72, 73, 74, 75, 76, 77, 78, 79, 80, 81] by kernel_rfl]
            simp only [fC, fN, sA, sS, sZ, dS, dZ]
            rw [show gv 81 = .bool false from hV 21 81 (by kernel_rfl)]
            clear hV
            refine wpList_nil ?_
            have HFc := Lib.hid (range_kept HFb.out kc)
            have kwc := kwb.trans kc
            clear HFb HCb e1 e2 kwb kc
            go_upto_region 20 with fail
            refine wp_text 4 [.eq (.int .i64 lf), .eq (.pointer (some ⟨g13, 19, none⟩)), .eq (.int .i64 f.qty), .eq (.int .i64 (lf - f.qty))] rfl (by kernel_rfl) ?_ ?_
            · refine sv 1 rfl rfl rfl (fun a u hE hD hk => exec_move (.tmp 10) _ rfl (hE 10 (.int .i64 lf) (by kernel_rfl) (by kernel_rfl))) ?_
              refine sv 2 rfl rfl rfl (fun a u hE hD hk => exec_fldo 36 3 19 (.tmp 13) (g13) (0) (19) rfl (hE 13 (.pointer (some ⟨g13, 0, none⟩)) (by kernel_rfl) (by kernel_rfl)) (by kernel_rfl) rfl) ?_
              refine sv 3 rfl rfl rfl (fun a u hE hD hk => exec_loadi 3 Try.underlying3 (.tmp 83) ⟨g13, 19, none⟩ (.int .i64 f.qty) rfl (hD 1 83 (by kernel_rfl)) (range_int (range_kept HFc.out hk) 19 _ rfl)) ?_
              refine sv 4 rfl rfl rfl (fun a u hE hD hk => exec_subn (lf - f.qty) (p := lf) (q := f.qty) rfl (hD 0 82 (by kernel_rfl)) (hD 2 84 (by kernel_rfl)) rfl (by omega) (by omega)) ?_
              exact fsteps_nil
            intro gv wd hV kd
            rw [show dstsOf _ 4 = [82, 83, 84, 85] by kernel_rfl]
            simp only [fC, fN, sA, sS, sZ, dS, dZ]
            rw [show gv 85 = .int .i64 (lf - f.qty) from hV 3 85 (by kernel_rfl)]
            clear hV
            refine l_val (o := ⟨some 10, _, _, _, _, _⟩) (.int .i64 (lf - f.qty)) rfl (exec_assign (.tmp 85) (.int .i64 (lf - f.qty)) rfl (by kernel_rfl)) ?_
            simp only [Act.put, sA, sS, sZ]
            refine wpList_nil ?_
            have kwd := kwc.trans kd
            clear kwc kd hlf hfq e3
            go_wp2
            exact ⟨⟨j + 1, lf - f.qty, by omega, by go_num, rfl, HLF1, kwd⟩, by simp [intOf]; omega⟩
          · have hjm2 : j = m := by omega
            have HFI : Hid (lf = x.left) := by show _ = _; rw [HTI.out.left, HLF.out, List.take_of_length_le (by rw [HM.out]; omega)]
            have HDN : Hid (lf = 0 ∨ m = i) := by
              show _ ∨ _
              rw [HFI.out, ← HM.out, ← HWl.out]
              exact HTI.out.done
            have HER := Lib.hid HTI.out.err
            have HC8 := Lib.hid (HC7.out.kept hkr2)
            have HS8 := Lib.hid (HS7.out.kept hkr2)
            have HW8 := Lib.hid (HW7.out.kept hkr2)
            have kw8 := kw7.trans hkr2
            clear HC7 HS7 HW7 HLF hpt hkr2
            by_cases hl0 : lf = 0
            · skip
              go_upto_region 22 with fail
              refine wp_text 25 [.eq (.pointer (some ⟨g11, 14, none⟩)), .eq (.int .i64 x.err), .eq (.bool true), .eq (.bool true), .eq (.pointer (some ⟨g11, 10, none⟩)), .eq (.int .i64 x.left), .eq (.int .i64 lf), .eq (.bool true), .eq (.bool true), .eq (.bool true), .eq (.int .i64 lf), .eq (.bool true), .eq (.bool true), .eq undef, .eq undef, .eq undef, .eq undef, .eq undef, .eq undef, .eq (.bool true), .eq (.bool true), .eq (.bool true), .eq (.bool true), .eq (.bool true), .eq (.bool true)] rfl (by kernel_rfl) ?_ ?_
              · refine sv 1 rfl rfl rfl (fun a u hE hD hk => exec_fldo 29 6 14 (.tmp 11) (g11) (0) (14) rfl (hE 11 (.pointer (some ⟨g11, 0, none⟩)) (by kernel_rfl) (by kernel_rfl)) (by kernel_rfl) rfl) ?_
                refine sv 2 rfl rfl rfl (fun a u hE hD hk => exec_loadi 27 Try.underlying27 (.tmp 87) ⟨g11, 14, none⟩ (.int .i64 x.err) rfl (hD 0 87 (by kernel_rfl)) (by rw [(HC8.out.kept hk).cell]; rfl)) ?_
                refine fsteps_cons 3 rfl (fun a u hE hD hk => f_as (show ((decide ((x.err : Int) = (0 : Int))) : Bool) = true from decide_eq_true HER.out) (f_val (o := ⟨some 89, _, _, _, _, _⟩) (.bool (decide ((x.err : Int) = (0 : Int)))) rfl (wanted_none rfl _) (exec_eqn (p := x.err) (q := 0) rfl (hD 1 88 (by kernel_rfl)) rfl) rfl)) ?_
                refine sv 4 rfl rfl rfl (fun a u hE hD hk => exec_move (.tmp 89) _ rfl (hD 2 89 (by kernel_rfl))) ?_
                refine fsteps_cons 5 rfl (fun a u hE hD hk => f_val (o := ⟨some 91, _, _, _, _, _⟩) (.pointer (some ⟨g11, 10, none⟩)) rfl (wanted_at (b := true) true rfl rfl (hD 3 90 (by kernel_rfl))) (exec_fldo 29 2 10 (.tmp 11) (g11) (0) (10) rfl (hE 11 (.pointer (some ⟨g11, 0, none⟩)) (by kernel_rfl) (by kernel_rfl)) (by kernel_rfl) rfl) rfl) ?_
                refine fsteps_cons 6 rfl (fun a u hE hD hk => f_val (o := ⟨some 92, _, _, _, _, _⟩) (.int .i64 x.left) rfl (wanted_at (b := true) true rfl rfl (hD 3 90 (by kernel_rfl))) (exec_loadi 3 Try.underlying3 (.tmp 91) ⟨g11, 10, none⟩ (.int .i64 x.left) rfl (hD 4 91 (by kernel_rfl)) (by rw [(HC8.out.kept hk).cell]; rfl)) rfl) ?_
                refine fsteps_cons 7 rfl (fun a u hE hD hk => f_val (o := ⟨some 93, _, _, _, _, _⟩) (.int .i64 lf) rfl (wanted_at (b := true) true rfl rfl (hD 3 90 (by kernel_rfl))) (exec_move (.tmp 10) _ rfl (hE 10 (.int .i64 lf) (by kernel_rfl) (by kernel_rfl))) rfl) ?_
                refine fsteps_cons 8 rfl (fun a u hE hD hk => f_as (show ((decide ((x.left : Int) = (lf : Int))) : Bool) = true from decide_eq_true HFI.out.symm) (f_val (o := ⟨some 94, _, _, _, _, _⟩) (.bool (decide ((x.left : Int) = (lf : Int)))) rfl (wanted_at (b := true) true rfl rfl (hD 3 90 (by kernel_rfl))) (exec_eqn (p := x.left) (q := lf) rfl (hD 5 92 (by kernel_rfl)) (hD 6 93 (by kernel_rfl))) rfl)) ?_
                refine sv 9 rfl rfl rfl (fun a u hE hD hk => exec_pick (.tmp 90) (.tmp 94) (.const (.bool false)) (.bool true) rfl (hD 3 90 (by kernel_rfl)) (hD 7 94 (by kernel_rfl))) ?_
                refine sv 10 rfl rfl rfl (fun a u hE hD hk => exec_move (.tmp 95) _ rfl (hD 8 95 (by kernel_rfl))) ?_
                refine fsteps_cons 11 rfl (fun a u hE hD hk => f_val (o := ⟨some 97, _, _, _, _, _⟩) (.int .i64 lf) rfl (wanted_at (b := true) true rfl rfl (hD 9 96 (by kernel_rfl))) (exec_move (.tmp 10) _ rfl (hE 10 (.int .i64 lf) (by kernel_rfl) (by kernel_rfl))) rfl) ?_
                refine fsteps_cons 12 rfl (fun a u hE hD hk => f_as (show ((decide ((lf : Int) = (0 : Int))) : Bool) = true from decide_eq_true hl0) (f_val (o := ⟨some 98, _, _, _, _, _⟩) (.bool (decide ((lf : Int) = (0 : Int)))) rfl (wanted_at (b := true) true rfl rfl (hD 9 96 (by kernel_rfl))) (exec_eqn (p := lf) (q := 0) rfl (hD 10 97 (by kernel_rfl)) rfl) rfl)) ?_
                refine fsteps_cons 13 rfl (fun a u hE hD hk => f_val (o := ⟨some 99, _, _, _, _, _⟩) (.bool true) rfl (wanted_at (b := true) true rfl rfl (hD 9 96 (by kernel_rfl))) (exec_move (.tmp 98) _ rfl (hD 11 98 (by kernel_rfl))) rfl) ?_
                refine fsteps_cons 14 rfl (fun a u hE hD hk => f_skip (o := ⟨some 100, _, _, _, _, _⟩) rfl (wanted_at (b := false) true rfl rfl (hD 12 99 (by kernel_rfl))) rfl) ?_
                refine fsteps_cons 15 rfl (fun a u hE hD hk => f_skip (o := ⟨some 101, _, _, _, _, _⟩) rfl (wanted_at (b := false) true rfl rfl (hD 12 99 (by kernel_rfl))) rfl) ?_
                refine fsteps_cons 16 rfl (fun a u hE hD hk => f_skip (o := ⟨some 102, _, _, _, _, _⟩) rfl (wanted_at (b := false) true rfl rfl (hD 12 99 (by kernel_rfl))) rfl) ?_
                refine fsteps_cons 17 rfl (fun a u hE hD hk => f_skip (o := ⟨some 103, _, _, _, _, _⟩) rfl (wanted_at (b := false) true rfl rfl (hD 12 99 (by kernel_rfl))) rfl) ?_
                refine fsteps_cons 18 rfl (fun a u hE hD hk => f_skip (o := ⟨some 104, _, _, _, _, _⟩) rfl (wanted_at (b := false) true rfl rfl (hD 12 99 (by kernel_rfl))) rfl) ?_
                refine fsteps_cons 19 rfl (fun a u hE hD hk => f_skip (o := ⟨some 105, _, _, _, _, _⟩) rfl (wanted_at (b := false) true rfl rfl (hD 12 99 (by kernel_rfl))) rfl) ?_
                refine fsteps_cons 20 rfl (fun a u hE hD hk => f_val (o := ⟨some 106, _, _, _, _, _⟩) (.bool true) rfl (wanted_at (b := true) true rfl rfl (hD 9 96 (by kernel_rfl))) (exec_pick (.tmp 99) (.const (.bool true)) (.tmp 105) (.bool true) rfl (hD 12 99 (by kernel_rfl)) rfl) rfl) ?_
                refine sv 21 rfl rfl rfl (fun a u hE hD hk => exec_pick (.tmp 96) (.tmp 106) (.const (.bool false)) (.bool true) rfl (hD 9 96 (by kernel_rfl)) (hD 19 106 (by kernel_rfl))) ?_
                refine sv 22 rfl rfl rfl (fun a u hE hD hk => exec_move (.tmp 107) _ rfl (hD 20 107 (by kernel_rfl))) ?_
                refine fsteps_cons 23 rfl (fun a u hE hD hk => f_call (o := ⟨some 109, _, _, _, _, _⟩) 3 #[] rfl (wanted_at (b := true) true rfl rfl (hD 21 108 (by kernel_rfl))) (exec_call 3 _ [] _ [] Try.func3 (by kernel_rfl) (by kernel_rfl) rfl rfl u) (bruns_gives u)) ?_
                refine sv 24 rfl rfl rfl (fun a u hE hD hk => exec_pick (.tmp 108) (.tmp 109) (.const (.bool false)) (.bool true) rfl (hD 21 108 (by kernel_rfl)) (hD 22 109 (by kernel_rfl))) ?_
                refine sv 25 rfl rfl rfl (fun a u hE hD hk => exec_assign (.tmp 110) _ rfl (hD 23 110 (by kernel_rfl))) ?_
                exact fsteps_nil
              intro gv wx hV kx
              rw [show dstsOf _ 25 = [87, 88, 89, 90, 91, 92, 93, 94, 95, 96, 97, 98, 99, 100, 101, 102, 103, 104, 105, 106, 107, 108, 109, 110, 4] by kernel_rfl]
              simp only [fC, fN, sA, sS, sZ, dS, dZ]
              rw [show gv 4 = .bool true from hV 24 4 (by kernel_rfl)]
              clear hV
              refine wpList_nil ?_
              go_wp2
              go_ret
              exact ⟨rfl, kw8.trans kx⟩
            · skip
              have hmi2 : (m : Int) = (i : Int) := by have := HDN.out; omega
              go_upto_region 22 with fail
              refine wp_text 25 [.eq (.pointer (some ⟨g11, 14, none⟩)), .eq (.int .i64 x.err), .eq (.bool true), .eq (.bool true), .eq (.pointer (some ⟨g11, 10, none⟩)), .eq (.int .i64 x.left), .eq (.int .i64 lf), .eq (.bool true), .eq (.bool true), .eq (.bool true), .eq (.int .i64 lf), .eq (.bool false), .eq (.bool false), .eq (.pointer (some ⟨g11, 9, none⟩)), .eq (vf), .eq (.int .i64 (m : Int)), .eq (vw), .eq (.int .i64 (i : Int)), .eq (.bool true), .eq (.bool true), .eq (.bool true), .eq (.bool true), .eq (.bool true), .eq (.bool true), .eq (.bool true)] rfl (by kernel_rfl) ?_ ?_
              · refine sv 1 rfl rfl rfl (fun a u hE hD hk => exec_fldo 29 6 14 (.tmp 11) (g11) (0) (14) rfl (hE 11 (.pointer (some ⟨g11, 0, none⟩)) (by kernel_rfl) (by kernel_rfl)) (by kernel_rfl) rfl) ?_
                refine sv 2 rfl rfl rfl (fun a u hE hD hk => exec_loadi 27 Try.underlying27 (.tmp 87) ⟨g11, 14, none⟩ (.int .i64 x.err) rfl (hD 0 87 (by kernel_rfl)) (by rw [(HC8.out.kept hk).cell]; rfl)) ?_
                refine fsteps_cons 3 rfl (fun a u hE hD hk => f_as (show ((decide ((x.err : Int) = (0 : Int))) : Bool) = true from decide_eq_true HER.out) (f_val (o := ⟨some 89, _, _, _, _, _⟩) (.bool (decide ((x.err : Int) = (0 : Int)))) rfl (wanted_none rfl _) (exec_eqn (p := x.err) (q := 0) rfl (hD 1 88 (by kernel_rfl)) rfl) rfl)) ?_
                refine sv 4 rfl rfl rfl (fun a u hE hD hk => exec_move (.tmp 89) _ rfl (hD 2 89 (by kernel_rfl))) ?_
                refine fsteps_cons 5 rfl (fun a u hE hD hk => f_val (o := ⟨some 91, _, _, _, _, _⟩) (.pointer (some ⟨g11, 10, none⟩)) rfl (wanted_at (b := true) true rfl rfl (hD 3 90 (by kernel_rfl))) (exec_fldo 29 2 10 (.tmp 11) (g11) (0) (10) rfl (hE 11 (.pointer (some ⟨g11, 0, none⟩)) (by kernel_rfl) (by kernel_rfl)) (by kernel_rfl) rfl) rfl) ?_
                refine fsteps_cons 6 rfl (fun a u hE hD hk => f_val (o := ⟨some 92, _, _, _, _, _⟩) (.int .i64 x.left) rfl (wanted_at (b := true) true rfl rfl (hD 3 90 (by kernel_rfl))) (exec_loadi 3 Try.underlying3 (.tmp 91) ⟨g11, 10, none⟩ (.int .i64 x.left) rfl (hD 4 91 (by kernel_rfl)) (by rw [(HC8.out.kept hk).cell]; rfl)) rfl) ?_
                refine fsteps_cons 7 rfl (fun a u hE hD hk => f_val (o := ⟨some 93, _, _, _, _, _⟩) (.int .i64 lf) rfl (wanted_at (b := true) true rfl rfl (hD 3 90 (by kernel_rfl))) (exec_move (.tmp 10) _ rfl (hE 10 (.int .i64 lf) (by kernel_rfl) (by kernel_rfl))) rfl) ?_
                refine fsteps_cons 8 rfl (fun a u hE hD hk => f_as (show ((decide ((x.left : Int) = (lf : Int))) : Bool) = true from decide_eq_true HFI.out.symm) (f_val (o := ⟨some 94, _, _, _, _, _⟩) (.bool (decide ((x.left : Int) = (lf : Int)))) rfl (wanted_at (b := true) true rfl rfl (hD 3 90 (by kernel_rfl))) (exec_eqn (p := x.left) (q := lf) rfl (hD 5 92 (by kernel_rfl)) (hD 6 93 (by kernel_rfl))) rfl)) ?_
                refine sv 9 rfl rfl rfl (fun a u hE hD hk => exec_pick (.tmp 90) (.tmp 94) (.const (.bool false)) (.bool true) rfl (hD 3 90 (by kernel_rfl)) (hD 7 94 (by kernel_rfl))) ?_
                refine sv 10 rfl rfl rfl (fun a u hE hD hk => exec_move (.tmp 95) _ rfl (hD 8 95 (by kernel_rfl))) ?_
                refine fsteps_cons 11 rfl (fun a u hE hD hk => f_val (o := ⟨some 97, _, _, _, _, _⟩) (.int .i64 lf) rfl (wanted_at (b := true) true rfl rfl (hD 9 96 (by kernel_rfl))) (exec_move (.tmp 10) _ rfl (hE 10 (.int .i64 lf) (by kernel_rfl) (by kernel_rfl))) rfl) ?_
                refine fsteps_cons 12 rfl (fun a u hE hD hk => f_as (show ((decide ((lf : Int) = (0 : Int))) : Bool) = false from decide_eq_false hl0) (f_val (o := ⟨some 98, _, _, _, _, _⟩) (.bool (decide ((lf : Int) = (0 : Int)))) rfl (wanted_at (b := true) true rfl rfl (hD 9 96 (by kernel_rfl))) (exec_eqn (p := lf) (q := 0) rfl (hD 10 97 (by kernel_rfl)) rfl) rfl)) ?_
                refine fsteps_cons 13 rfl (fun a u hE hD hk => f_val (o := ⟨some 99, _, _, _, _, _⟩) (.bool false) rfl (wanted_at (b := true) true rfl rfl (hD 9 96 (by kernel_rfl))) (exec_move (.tmp 98) _ rfl (hD 11 98 (by kernel_rfl))) rfl) ?_
                refine fsteps_cons 14 rfl (fun a u hE hD hk => f_val (o := ⟨some 100, _, _, _, _, _⟩) (.pointer (some ⟨g11, 9, none⟩)) rfl (wanted_at (b := false) false rfl rfl (hD 12 99 (by kernel_rfl))) (exec_fldo 29 1 9 (.tmp 11) (g11) (0) (9) rfl (hE 11 (.pointer (some ⟨g11, 0, none⟩)) (by kernel_rfl) (by kernel_rfl)) (by kernel_rfl) rfl) rfl) ?_
                refine fsteps_cons 15 rfl (fun a u hE hD hk => f_val (o := ⟨some 101, _, _, _, _, _⟩) (vf) rfl (wanted_at (b := false) false rfl rfl (hD 12 99 (by kernel_rfl))) (exec_ldv 26 _ Try.underlying26 (.tmp 100) ⟨g11, 9, none⟩ (vf) rfl (hD 13 100 (by kernel_rfl)) (by rw [(HC8.out.kept hk).cell]; rfl)) rfl) ?_
                refine fsteps_cons 16 rfl (fun a u hE hD hk => f_val (o := ⟨some 102, _, _, _, _, _⟩) (.int .i64 (m : Int)) rfl (wanted_at (b := false) false rfl rfl (hD 12 99 (by kernel_rfl))) (exec_lenS (.tmp 101) slF (vf) (m) _ _ rfl (hD 14 101 (by kernel_rfl)) HS8.out) rfl) ?_
                refine fsteps_cons 17 rfl (fun a u hE hD hk => f_val (o := ⟨some 103, _, _, _, _, _⟩) (vw) rfl (wanted_at (b := false) false rfl rfl (hD 12 99 (by kernel_rfl))) (exec_move (.tmp 6) _ rfl (hE 6 (vw) (by kernel_rfl) (by kernel_rfl))) rfl) ?_
                refine fsteps_cons 18 rfl (fun a u hE hD hk => f_val (o := ⟨some 104, _, _, _, _, _⟩) (.int .i64 (i : Int)) rfl (wanted_at (b := false) false rfl rfl (hD 12 99 (by kernel_rfl))) (exec_lenS (.tmp 103) slI (vw) (i) _ _ rfl (hD 16 103 (by kernel_rfl)) HW8.out) rfl) ?_
                refine fsteps_cons 19 rfl (fun a u hE hD hk => f_as (show ((decide (((m : Int) : Int) = ((i : Int) : Int))) : Bool) = true from decide_eq_true hmi2) (f_val (o := ⟨some 105, _, _, _, _, _⟩) (.bool (decide (((m : Int) : Int) = ((i : Int) : Int)))) rfl (wanted_at (b := false) false rfl rfl (hD 12 99 (by kernel_rfl))) (exec_eqn (p := (m : Int)) (q := (i : Int)) rfl (hD 15 102 (by kernel_rfl)) (hD 17 104 (by kernel_rfl))) rfl)) ?_
                refine fsteps_cons 20 rfl (fun a u hE hD hk => f_val (o := ⟨some 106, _, _, _, _, _⟩) (.bool true) rfl (wanted_at (b := true) true rfl rfl (hD 9 96 (by kernel_rfl))) (exec_pickF (.tmp 99) (.const (.bool true)) (.tmp 105) (.bool true) rfl (hD 12 99 (by kernel_rfl)) (hD 18 105 (by kernel_rfl))) rfl) ?_
                refine sv 21 rfl rfl rfl (fun a u hE hD hk => exec_pick (.tmp 96) (.tmp 106) (.const (.bool false)) (.bool true) rfl (hD 9 96 (by kernel_rfl)) (hD 19 106 (by kernel_rfl))) ?_
                refine sv 22 rfl rfl rfl (fun a u hE hD hk => exec_move (.tmp 107) _ rfl (hD 20 107 (by kernel_rfl))) ?_
                refine fsteps_cons 23 rfl (fun a u hE hD hk => f_call (o := ⟨some 109, _, _, _, _, _⟩) 3 #[] rfl (wanted_at (b := true) true rfl rfl (hD 21 108 (by kernel_rfl))) (exec_call 3 _ [] _ [] Try.func3 (by kernel_rfl) (by kernel_rfl) rfl rfl u) (bruns_gives u)) ?_
                refine sv 24 rfl rfl rfl (fun a u hE hD hk => exec_pick (.tmp 108) (.tmp 109) (.const (.bool false)) (.bool true) rfl (hD 21 108 (by kernel_rfl)) (hD 22 109 (by kernel_rfl))) ?_
                refine sv 25 rfl rfl rfl (fun a u hE hD hk => exec_assign (.tmp 110) _ rfl (hD 23 110 (by kernel_rfl))) ?_
                exact fsteps_nil
              intro gv wx hV kx
              rw [show dstsOf _ 25 = [87, 88, 89, 90, 91, 92, 93, 94, 95, 96, 97, 98, 99, 100, 101, 102, 103, 104, 105, 106, 107, 108, 109, 110, 4] by kernel_rfl]
              simp only [fC, fN, sA, sS, sZ, dS, dZ]
              rw [show gv 4 = .bool true from hV 24 4 (by kernel_rfl)]
              clear hV
              refine wpList_nil ?_
              go_wp2
              go_ret
              exact ⟨rfl, kw8.trans kx⟩
end Go.Proofs.Ytfpfpmhkkgfdbaa
