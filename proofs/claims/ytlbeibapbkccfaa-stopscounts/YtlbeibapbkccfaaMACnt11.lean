/-
 The walk of StopsCounts. No condition.
-/
import Derived.Test.YtlbeibapbkccfaaQA04
import Derived.Test.YtlbeibapbkccfaaMAQuiet11
import Derived.Test.YtlbeibapbkccfaaMATurn11
set_option linter.unusedVariables false
namespace Go.Proofs.Ytlbeibapbkccfaa
open Go.RowKit
set_option maxRecDepth 100000
set_option maxRecDepth 100000 in
set_option maxHeartbeats 6400000 in
theorem stopsCounts_any (v : Value) (l : List Kq) (w : World) (hl : Kqs w v l) : Calls Try.prog 6 #[v] w fun e w' => e = .returned (.bool true) ∧ Kept w w' := by
 have HA := Lib.hid hl
 obtain ⟨A, n, c, rfl, hn, hm⟩ : ∃ A n c, v = .slice A n c ∧ l.length = n ∧ n ≤ maxLen := by
  obtain ⟨A, n, c, h1, h2, _, h3, _⟩ := hl
  exact ⟨A, n, c, h1, h2, h3⟩
 clear hl
 unfold maxLen at hm
 have HN := Lib.hid hn
 clear hn
 go_enter Try.func6, Try.ntmps6
 go_upto_region 1 with fail
 refine wp_region_lit ?_
 refine l_call 9 #[] rfl (exec_call 9 _ [] _ _ Try.func9 (by kernel_rfl) (by kernel_rfl) rfl (by kernel_rfl) _) ?_
 refine (mnew_any w).mono ?_
 rintro r w1 ⟨p, F, rfl, hL1, hG1, k1⟩
 refine ⟨_, rfl, ?_⟩
 simp only [Act.put, sA, sS, sZ]
 refine l_val (.pointer (some ⟨p, 0, none⟩)) rfl (exec_assign _ _ rfl (by kernel_rfl)) ?_
 simp only [Act.put, sA, sS, sZ]
 refine wpList_nil ?_
 have HL1 : Hid (Mk w1 F p (fillM (l.take 0))) := by rw [List.take_zero]; exact Lib.hid hL1
 have HF1 : Hid (∀ b, F b → w.heap.size ≤ b) := fun b hb => (hG1 b hb).elim (fun h => h.elim) id
 clear hL1 hG1
 go_wp2_with fail
 go_loopw [4, 5, 6] (fun x4 x5 t wr => ∃ (i : Nat) (F' : Nat → Prop) (ca go : Int), t = .int .i64 (i : Int) ∧ x4 = .int .i64 ca ∧ x5 = .int .i64 go ∧ i ≤ 60 ∧ i ≤ n ∧ Hid (ca = go + whM (fillM (l.take i))) ∧ Hid (0 ≤ ca ∧ ca ≤ 70000000 * (i : Int)) ∧ Hid (0 ≤ go ∧ go ≤ 210000000 * (i : Int)) ∧ Hid (Mk wr F' p (fillM (l.take i))) ∧ Hid (∀ b, F' b → w.heap.size ≤ b) ∧ Kept w wr) (fun _ _ t _ => 60 - (intOf t).toNat)
 case atStart => exact ⟨0, F, 0, 0, rfl, rfl, rfl, by omega, by omega, by show _ = _; rw [List.take_zero]; rfl, ⟨by omega, by omega⟩, ⟨by omega, by omega⟩, HL1, HF1, k1⟩
 case round =>
  obtain ⟨i, F', ca, go, rfl, rfl, rfl, hi, hin, HEQ, HCB, HGB, HLr, HFr, hkr⟩ := hrel
  by_cases hlt : i < n ∧ i < 60
  ·obtain ⟨hin', hi20⟩ := hlt
   have hil : i < l.length := by rw [HN.out]; exact hin'
   obtain ⟨q, hq⟩ : ∃ q, l[i]? = some q := ⟨_, List.getElem?_eq_getElem hil⟩
   have HNx := Lib.hid (fillM_next l i q hq)
   have hI := fillM_inv (l.take i)
   have HNo : Hid ((fillM (l.take i)).b.no ≤ 900000000000) := by
    have h1 := hI.2
    have h2 : (l.take i).length ≤ 60 := by rw [List.length_take]; omega
    show _ ≤ _
    omega
   have HI := Lib.hid hI.1
   clear hI
   generalize fillM (l.take i) = M at HLr HNx HNo HI HEQ
   obtain ⟨M2, hM2⟩ : ∃ M2, fillM (l.take (i + 1)) = M2 := ⟨_, rfl⟩
   have HME := Lib.hid hM2
   rw [hM2] at HNx
   clear hM2
   obtain ⟨L, hL⟩ : ∃ L, (M.add q.so).1 = L := ⟨_, rfl⟩
   have HLD : Hid (M.add q.so = (L, M2)) := by show _ = _; rw [← hL, HNx.out]
   have hll := outs_len HI.out q.so
   have hsum := add_sum HI.out (o := q.so) q.sright
   rw [hL, ← HNx.out] at hsum
   rw [hL] at hll
   have HSUM := Lib.hid hsum.1
   have HOK := Lib.hid hsum.2
   obtain ⟨m, hm2⟩ : ∃ m, L.length = m := ⟨_, rfl⟩
   rw [hm2] at hll
   have HLL := Lib.hid hm2
   have hcb := HCB.out
   have hgb := HGB.out
   clear hL hm2 hsum
   obtain ⟨A', n', c', e1, _, _, _, h4⟩ := HA.out
   injection e1 with e1 e2 e3
   subst e1 e2 e3
   obtain ⟨g, off, rfl, hr⟩ := h4 i q hq
   have HE := Lib.hid (range_kept hr hkr)
   clear h4 hr hq hil
   go_upto_region 8 with fail
   refine wp_text 6 [pE p 0, .eq (.slice (some ⟨g, off, none⟩) n c), iE (i : Int), pE g (off + i * 7), .eq (q.v), .eq (q.so.v)] rfl (by kernel_rfl) ?_ ?_
   ·refine mE 1 3 ?_
    refine mE 2 0 ?_
    refine mE 3 6 ?_
    refine sW 4 rfl (fun a u E D hk=>exec_ixo slK _ _ (g) (off) n c i (off + i * 7) ((i : Int)) rfl (dD D 1) (dD D 2) (by first | rfl | omega) (hin') (by first | rfl | omega)) ?_
    refine sD 5 30 3 q.cells Try.underlying41 (fun u hk=>range_kept HE.out hk) (by rw [q.len7]; exact szK) ?_
    refine cS 6 13 [q.v] rfl Try.func13 rfl (fun a u E D hk=>⟨ll (dD D 4) rfl, kstop_any q u⟩) ?_
    exact fz
   intro gv w3 hV k3
   rw [dq 6 [27,28,29,30,31,32]]
   simp only [Fz7]
   rw [gQ hV 0 27 (.pointer (some ⟨p, 0, none⟩))]
   rw [gQ hV 5 32 q.so.v]
   clear hV
   refine l_call 10 #[.pointer (some ⟨p, 0, none⟩), q.so.v] rfl (exec_call 10 _ [.tmp 27, .tmp 32] _ _ Try.func10 (by kernel_rfl) (by kernel_rfl) rfl (by kernel_rfl) _) ?_
   refine (madd_at w3 F' p M q.so _ HLD.out (HLr.out.kept k3) HI.out HNo.out).mono ?_
   rintro r w4 ⟨F4, v4, Z4, rfl, hM4, hO4, hG4, hk4⟩
   have hzl : Z4.length = m := by rw [hO4.len, HLL.out]
   have hS4 := hO4.sl
   rw [hzl] at hS4
   refine ⟨_, rfl, ?_⟩
   simp only [Act.put, sA, sS, sZ]
   refine l_val (.int .i64 (m : Int)) rfl (exec_lenS (.tmp 33) slC v4 m _ _ rfl (by kernel_rfl) hS4) ?_
   simp only [Act.put, sA, sS, sZ]
   refine l_val (.int .i64 0) rfl (exec_move _ _ rfl (by kernel_rfl)) ?_
   simp only [Act.put, sA, sS, sZ]
   refine wpList_nil ?_
   obtain ⟨kw4, hF4⟩ := madd_frame hkr HFr.out k3 hk4 hG4
   have HM4 := Lib.hid hM4
   have HF4 := Lib.hid hF4
   obtain ⟨g4, o4, c4, rfl⟩ := hS4.some_ (by omega)
   have HO4 := Lib.hid hO4
   have HS4 := Lib.hid hS4
   have HZL := Lib.hid hzl
   clear hM4 hO4 hG4 hk4 HLr HFr hkr HE HI HNo HNx k3 hS4 hzl HLD hF4
   go_wp2_with fail
   go_loopw [4, 5, 35] (fun x4 x5 t wr => ∃ (k : Nat) (ca1 go1 : Int), k ≤ m ∧ t = .int .i64 (k : Int) ∧ x4 = .int .i64 ca1 ∧ x5 = .int .i64 go1 ∧ Hid (ca1 = ca + sC 0 (L.take k)) ∧ Hid (go1 = go + sG 0 (L.take k)) ∧ Kept w4 wr) (fun _ _ t _ => m - (intOf t).toNat)
   case atStart => exact ⟨0, ca, go, Nat.zero_le _, rfl, rfl, rfl, by show _ = _; rw [List.take_zero]; show ca = ca + 0; omega, by show _ = _; rw [List.take_zero]; show go = go + 0; omega, Kept.refl _⟩
   case round =>
    obtain ⟨k, ca1, go1, hk, rfl, rfl, rfl, HCa, HGo, hkr⟩ := hrel
    by_cases hkm : k < m
    ·obtain ⟨z, hz⟩ : ∃ z, Z4[k]? = some z := ⟨Z4[k]'(by rw [HZL.out]; exact hkm), List.getElem?_eq_getElem _⟩
     obtain ⟨x, vf⟩ := z
     have hLk : L[k]? = some x := by rw [← HO4.out.eq, List.getElem?_map, hz]; rfl
     have HX : Hid (wr.rangeAt g4 (o4 + k * 15) (x.cells vf)) := range_kept (Sl.rngC (Z := Z4) HS4.out k (x, vf) hz) hkr
     have HFl0 := HO4.out.fl (x, vf) (List.mem_of_getElem? hz)
     have hvf1 : vf.oneCell' = true := sl_onec HFl0
     have HXO := Lib.hid (HOK.out x (List.mem_of_getElem? hLk))
     have HTK := Lib.hid (take_next' hLk)
     obtain ⟨nf, hnf⟩ : ∃ nf, x.c.f.length = nf := ⟨_, rfl⟩
     have hnf64 : nf ≤ 1048576 := by have h1 := len_sumF HXO.out.pos; have h2 := HXO.out.sum; have h3 := HXO.out.left; have h4 := HXO.out.few; omega
     have HNF := Lib.hid hnf
     have HFr0 : Hid (Sl w4 34 21 vf nf (fls x.c.f)) := by rw [← hnf]; exact HFl0
     have hcs := sC_in (L.take k) 0 (fun y hy => HOK.out y (List.mem_of_mem_take hy))
     have hgs := sG_in (L.take k) 0 (fun y hy => HOK.out y (List.mem_of_mem_take hy))
     rw [HTK.out.2] at hcs hgs
     have hCa := HCa.out
     have hGo := HGo.out
     have hqf := HXO.out.few
     have hq0 := sumF_nn HXO.out.pos
     have hqs := HXO.out.sum
     have hql := HXO.out.left
     clear hz hLk hnf HFl0
     go_upto_region 10 with fail
     refine wp_text 3 [iE (k : Int), pE g4 (o4 + k * 15), .eq (x.v vf)] rfl (by kernel_rfl) ?_ ?_
     ·refine mE 1 35 ?_
      refine sW 2 rfl (fun a u E D hk=>exec_ixo slC _ _ (g4) (o4) m c4 k (o4 + k * 15) ((k : Int)) rfl (eE E) (eE E) (by first | rfl | omega) (hkm) (by first | rfl | omega)) ?_
      refine sD 3 38 1 (x.cells vf) Try.underlying32 (fun u hk=>range_kept (HX.out) hk) (by rw [Ot.len15]; exact szC) ?_
      exact fz
     intro gv w7 hV k7
     rw [dq 3 [37,38,39]]
     simp only [Fz7]
     rw [gQ hV 0 37 (.int .i64 (k : Int))]
     rw [gQ hV 2 39 (x.v vf)]
     clear hV
     refine l_new (.pointer (some ⟨w7.heap.size, 0, none⟩)) (w7.alloc (.cells (zeroC.cells (.slice none 0 0)).toArray 32)) rfl (exec_alc 32 (zeroC.cells (.slice none 0 0)) rfl zC) ?_
     have hNw8 := Blk.new w7 32 (zeroC.cells (.slice none 0 0))
     have kw8 : Kept w7 (w7.alloc (.cells (zeroC.cells (.slice none 0 0)).toArray 32)) := (Keep.refl _ w7).alloc _
     generalize w7.alloc (.cells (zeroC.cells (.slice none 0 0)).toArray 32) = w8 at hNw8 kw8 ⊢
     simp only [Act.put, sA, sS, sZ]
     refine l_val (.int .i64 (k : Int)) rfl (exec_assign _ _ rfl (by kernel_rfl)) ?_
     simp only [Act.put, sA, sS, sZ]
     refine l_setS 32 w7.heap.size 32 (zeroC.cells (.slice none 0 0)) ((x).cells vf) _ _ rfl rfl (by kernel_rfl) (by kernel_rfl) (hNw8) (by rw [Ot.len15]; exact szC) (by rw [Ot.len15]; rfl) (Ot.one _ _ hvf1) ?_
     intro w9 hCw9 hkw9 hsw9
     simp only [Act.put]
     refine wpList_nil ?_
     obtain ⟨b8, h8⟩ : ∃ a, w7.heap.size = a := ⟨_, rfl⟩
     rw [h8] at hNw8 hCw9 hkw9 ⊢
     have z7 := k7.size
     have zk := hkr.size
     have k49 : Kept w4 w9 := ((hkr.trans k7).trans kw8).trans' hkw9 (by omega)
     have HX9 := Lib.hid (blk_range hCw9)
     clear hNw8 hCw9 hkw9 hsw9 kw8 k7 hkr HX
     obtain ⟨b, hb⟩ : ∃ b, (decide ((k : Int) = 0) && decide (x.c.err = 0)) = b := ⟨_, rfl⟩
     have HBB := Lib.hid hb
     clear hb
     go_upto_region 11 with fail
     refine wT 7 [iE (k : Int), bE (decide (((k : Int) : Int) = (0 : Int))), bE (decide (((k : Int) : Int) = (0 : Int))), .cond (decide (((k : Int) : Int) = (0 : Int))) (pE b8 14), .cond (decide (((k : Int) : Int) = (0 : Int))) (iE x.c.err), .cond (decide (((k : Int) : Int) = (0 : Int))) (bE (decide ((x.c.err : Int) = (0 : Int)))), bE b] [40,41,42,43,44,45,46] ?_ ?_
     ·refine mE 1 7 ?_
      refine sW 2 rfl (fun a u E D hk=>exec_eqn rfl (dD D 0) rfl) ?_
      refine mD 3 41 1 ?_
      refine iC 4 2 rfl (fun a u E D hk hb=>exec_fldo 32 6 14 _ (b8) (0) (14) rfl (eE E) (by kernel_rfl) rfl) ?_
      refine iC 5 2 rfl (fun a u E D hk hb=>exec_loadi _ Try.underlying30 _ _ _ rfl ((D 3 43 (by kernel_rfl)).1 hb) ((range_kept (HX9.out) hk) 14 _ rfl)) ?_
      refine iC 6 2 rfl (fun a u E D hk hb=>exec_eqn rfl ((D 4 44 (by kernel_rfl)).1 hb) rfl) ?_
      refine aS 7 rfl (fun a u E D hk=>exec_pickand _ _ _ ((decide (((k : Int) : Int) = (0 : Int)))) ((decide ((x.c.err : Int) = (0 : Int)))) rfl (dD D 2) (fun hb2 => ((D 5 45 (by kernel_rfl)).1 hb2)) rfl) HBB.out ?_
      exact fz
     intro gv wA hV kA
     simp only [Fz7]
     rw [gQ hV 6 46 (.bool b)]
     clear hV
     have HXA := Lib.hid (range_kept HX9.out kA)
     have kkA := k49.trans kA
     clear HX9 kA k49
     go_upto_if 46 with fail
     go_cut [4, 47, 48, 49, 50, 51] (fun x4 _ _ _ _ _ wx => ∃ c1 : Int, x4 = .int .i64 c1 ∧ Hid (c1 = ca + sC 0 (L.take (k + 1))) ∧ Kept wA wx)
     case first =>
      cases b with
      | true =>
       go_upto_region 12 with fail
       refine wp_text 5 [iE ca1, pE b8 0, pE b8 6, iE x.c.o.qty, iE ((ca1 : Int) + (x.c.o.qty : Int))] rfl (by kernel_rfl) ?_ ?_
       ·refine mE 1 4 ?_
        refine fE 2 8 32 0 0 0 ?_
        refine fD 3 48 1 27 6 6 0 ?_
        refine lD 4 49 2 Try.underlying3 (fun u hk=>(range_kept (HXA.out) hk) 6 _ rfl) ?_
        refine sW 5 rfl (fun a u E D hk=>exec_addn (p := (ca1)) (q := (x.c.o.qty)) ((ca1 : Int) + (x.c.o.qty : Int)) rfl (dD D 0) (dD D 3) rfl (by omega) (by omega)) ?_
        exact fz
       intro gv wq hV kq
       rw [dq 5 [47,48,49,50,51]]
       simp only [Fz7]
       rw [gQ hV 4 51 (.int .i64 ((ca1 : Int) + (x.c.o.qty : Int)))]
       clear hV
       refine l_val (.int .i64 ((ca1 : Int) + (x.c.o.qty : Int))) rfl (exec_assign _ _ rfl (by kernel_rfl)) ?_
       simp only [Act.put, sA, sS, sZ]
       refine wpList_nil ?_
       have HC1 : Hid (ca1 + x.c.o.qty = ca + sC 0 (L.take (k + 1))) := by
        show _ = _
        rw [HTK.out.1, sC_snoc, Nat.zero_add, HTK.out.2, hCa]
        unfold cX
        rw [HBB.out]
        simp only [if_true]
        omega
       go_wp2
       go_meet
       case rel => exact ⟨_, rfl, HC1, kq⟩
      | false =>
       have HC1 : Hid (ca1 = ca + sC 0 (L.take (k + 1))) := by
        show _ = _
        rw [HTK.out.1, sC_snoc, Nat.zero_add, HTK.out.2, hCa]
        unfold cX
        rw [HBB.out]
        simp only [Bool.false_eq_true, if_false]
        omega
       go_wp2
       go_meet
       case rel => exact ⟨ca1, rfl, HC1, Kept.refl _⟩
     obtain ⟨c1, rfl, HC1, kcc⟩ := hcut
     obtain ⟨wq, hwq⟩ : ∃ x, x = wc := ⟨_, rfl⟩
     subst hwq
     have kkq := kkA.trans kcc
     have HXq := Lib.hid (range_kept HXA.out kcc)
     have HFq := Lib.hid (HFr0.out.kept kkq)
     clear HXA kcc kkA HFr0 HBB HCa hCa
     go_upto_region 13 with fail
     refine wT 4 [pE b8 9, .eq (vf), iE (nf : Int), iE 0] [52,53,54,55] ?_ ?_
     ·refine fE 1 8 32 1 9 0 ?_
      refine sW 2 rfl (fun a u E D hk=>exec_ldv _ _ Try.underlying29 _ _ _ rfl (dD D 0) ((range_kept (HXq.out) hk) 9 _ rfl)) ?_
      refine sW 3 rfl (fun a u E D hk=>exec_lenS _ slF _ _ _ _ rfl (dD D 1) (HFq.out.kept hk)) ?_
      refine sW 4 rfl (fun a u E D hk=>exec_move _ _ rfl rfl) ?_
      exact fz
     intro gv wf hV kf
     simp only [Fz7]
     rw [gQ hV 1 53 vf]
     rw [gQ hV 2 54 (.int .i64 (nf : Int))]
     rw [gQ hV 3 55 (.int .i64 0)]
     clear hV
     have HXf := Lib.hid (range_kept HXq.out kf)
     have HFf := Lib.hid (HFq.out.kept kf)
     have kkf := kkq.trans kf
     clear HXq HFq kf kkq
     go_wp2_with fail
     go_loopw [5, 55] (fun x5 t wr => ∃ (j : Nat) (g1 : Int), j ≤ nf ∧ t = .int .i64 (j : Int) ∧ x5 = .int .i64 g1 ∧ Hid (g1 = go1 + 2 * sumF (x.c.f.take j)) ∧ Kept wf wr) (fun _ t _ => nf - (intOf t).toNat)
     case atStart => exact ⟨0, go1, Nat.zero_le _, rfl, rfl, by show _ = _; rw [List.take_zero, sumF_nil]; omega, Kept.refl _⟩
     case round =>
      obtain ⟨j, g1, hj, rfl, rfl, HG1, hkr⟩ := hrel
      by_cases hjn : j < nf
      ·obtain ⟨gf, of_, cf, rfl⟩ := HFf.out.some_ (by omega)
       obtain ⟨e, he⟩ : ∃ e, x.c.f[j]? = some e := ⟨x.c.f[j]'(by rw [HNF.out]; exact hjn), List.getElem?_eq_getElem _⟩
       have HEr : Hid (wr.rangeAt gf (of_ + j * 21) e.cells) := range_kept (Sl.rngF (X := x.c.f) HFf.out j e he) hkr
       have hp1 := sumF_part HXO.out.pos (j + 1)
       have HTF := Lib.hid (sumF_take x.c.f j e he)
       have hqs := HXO.out.sum
       have hql := HXO.out.left
       have hqf := HXO.out.few
       have hpos := HXO.out.pos e (List.mem_of_getElem? he)
       have hp0 := sumF_part HXO.out.pos j
       have hTF := HTF.out
       have hG1 := HG1.out
       clear he
       go_upto_region 15 with fail
       refine wp_text 2 [pE gf (of_ + j * 21), .eq (e.v)] rfl (by kernel_rfl) ?_ ?_
       ·refine sW 1 rfl (fun a u E D hk=>exec_ixo slF _ _ (gf) (of_) nf cf j (of_ + j * 21) ((j : Int)) rfl (eE E) (eE E) (by first | rfl | omega) (hjn) (by first | rfl | omega)) ?_
        refine sD 2 57 0 e.cells Try.underlying34 (fun u hk=>range_kept HEr.out hk) (by rw [e.len21]; exact szF) ?_
        exact fz
       intro gv wa hV ka
       rw [dq 2 [57,58]]
       simp only [Fz7]
       rw [gQ hV 1 58 e.v]
       clear hV
       refine l_new (.pointer (some ⟨wa.heap.size, 0, none⟩)) (wa.alloc (.cells zeroF.cells.toArray 34)) rfl (exec_alc 34 zeroF.cells rfl zF) ?_
       have hNwb := Blk.new wa 34 zeroF.cells
       have kwb : Kept wa (wa.alloc (.cells zeroF.cells.toArray 34)) := (Keep.refl _ wa).alloc _
       generalize wa.alloc (.cells zeroF.cells.toArray 34) = wb at hNwb kwb ⊢
       simp only [Act.put, sA, sS, sZ]
       refine l_setS 34 wa.heap.size 34 zeroF.cells e.cells _ _ rfl rfl (by kernel_rfl) (by kernel_rfl) (hNwb) (by rw [Fl.len21]; exact szF) (by rw [Fl.len21, Fl.len21]) (Fl.one _) ?_
       intro wd hCwd hkwd hswd
       simp only [Act.put]
       refine wpList_nil ?_
       obtain ⟨ba, hba⟩ : ∃ a, wa.heap.size = a := ⟨_, rfl⟩
       rw [hba] at hNwb hCwd hkwd ⊢
       have za := ka.size
       have zk := hkr.size
       have kfd : Kept wf wd := ((hkr.trans ka).trans kwb).trans' hkwd (by omega)
       have HEd := Lib.hid (blk_range hCwd)
       clear hNwb hCwd hkwd hswd kwb ka hkr HEr
       go_upto_region 16 with fail
       refine wp_text 5 [iE g1, pE ba 19, iE e.qty, iE (2 * e.qty), iE ((g1 : Int) + ((2 * e.qty) : Int))] rfl (by kernel_rfl) ?_ ?_
       ·refine mE 1 5 ?_
        refine fE 2 10 34 3 19 0 ?_
        refine lD 3 60 1 Try.underlying3 (fun u hk=>range_int (range_kept HEd.out hk) 19 _ rfl) ?_
        refine sW 4 rfl (fun a u E D hk=>exec_muln (p := 2) (q := e.qty) (2 * e.qty) rfl rfl (dD D 2) rfl (by omega) (by omega)) ?_
        refine sW 5 rfl (fun a u E D hk=>exec_addn (p := (g1)) (q := ((2 * e.qty))) ((g1 : Int) + ((2 * e.qty) : Int)) rfl (dD D 0) (dD D 3) rfl (by omega) (by omega)) ?_
        exact fz
       intro gv we hV ke
       rw [dq 5 [59,60,61,62,63]]
       simp only [Fz7]
       rw [gQ hV 4 63 (.int .i64 ((g1 : Int) + ((2 * e.qty) : Int)))]
       clear hV
       refine l_val (.int .i64 ((g1 : Int) + ((2 * e.qty) : Int))) rfl (exec_assign _ _ rfl (by kernel_rfl)) ?_
       simp only [Act.put, sA, sS, sZ]
       refine wpList_nil ?_
       have kk := kfd.trans ke
       obtain ⟨g3, hg3⟩ : ∃ g3, g1 + 2 * e.qty = g3 := ⟨_, rfl⟩
       rw [hg3]
       have HG3 : Hid (g3 = go1 + 2 * sumF (x.c.f.take (j + 1))) := by show _ = _; omega
       clear HEd ke kfd hqs hql hqf hpos hp0 hp1 HTF hTF hG1 hg3
       go_wp2
       exact ⟨⟨j + 1, g3, by omega, by go_num, rfl, HG3, kk⟩, by simp [intOf]; omega⟩
      ·have hjf : x.c.f.take j = x.c.f := List.take_of_length_le (by rw [HNF.out]; omega)
       rw [hjf] at HG1
       have HXl := Lib.hid (range_kept HXf.out hkr)
       have kkl := kkf.trans hkr
       have hqs := HXO.out.sum
       have hql := HXO.out.left
       have hqf := HXO.out.few
       have hp0 := sumF_nn HXO.out.pos
       have hG1 := HG1.out
       clear HXf HFf kkf hjf
       obtain ⟨d, hd⟩ : ∃ d, ((!x.c.rests && !x.wt) && (decide ((0 : Int) < (k : Int)) || decide (x.c.err = 0))) = d := ⟨_, rfl⟩
       have HDB := Lib.hid hd
       clear hd
       go_upto_region 18 with fail
       refine wT 17 [pE b8 11, bE x.c.rests, bE (!x.c.rests), bE (!x.c.rests), .cond (!x.c.rests) (pE b8 12), .cond (!x.c.rests) (bE x.wt), .cond (!x.c.rests) (bE (!x.wt)), bE ((!x.c.rests) && (!x.wt)), bE ((!x.c.rests) && (!x.wt)), .cond ((!x.c.rests) && (!x.wt)) (iE (k : Int)), .cond ((!x.c.rests) && (!x.wt)) (bE (decide ((0 : Int) < ((k : Int) : Int)))), .cond ((!x.c.rests) && (!x.wt)) (bE (decide ((0 : Int) < ((k : Int) : Int)))), .cond (((!x.c.rests) && (!x.wt)) && (!(decide ((0 : Int) < ((k : Int) : Int))))) (pE b8 14), .cond (((!x.c.rests) && (!x.wt)) && (!(decide ((0 : Int) < ((k : Int) : Int))))) (iE x.c.err), .cond (((!x.c.rests) && (!x.wt)) && (!(decide ((0 : Int) < ((k : Int) : Int))))) (bE (decide ((x.c.err : Int) = (0 : Int)))), .cond ((!x.c.rests) && (!x.wt)) (bE ((decide ((0 : Int) < ((k : Int) : Int))) || (decide ((x.c.err : Int) = (0 : Int))))), bE d] [65,66,67,68,69,70,71,72,73,74,75,76,77,78,79,80,81] ?_ ?_
       ·refine fE 1 8 32 3 11 0 ?_
        refine sW 2 rfl (fun a u E D hk=>exec_ldb _ Try.underlying4 _ _ _ rfl (dD D 0) ((range_kept (HXl.out) hk) 11 _ rfl)) ?_
        refine sW 3 rfl (fun a u E D hk=>exec_not _ _ x.c.rests rfl (dD D 1)) ?_
        refine mD 4 67 2 ?_
        refine iC 5 3 rfl (fun a u E D hk hb=>exec_fldo 32 4 12 _ (b8) (0) (12) rfl (eE E) (by kernel_rfl) rfl) ?_
        refine iC 6 3 rfl (fun a u E D hk hb=>exec_ldb _ Try.underlying4 _ _ _ rfl ((D 4 69 (by kernel_rfl)).1 hb) ((range_kept (HXl.out) hk) 12 _ rfl)) ?_
        refine iC 7 3 rfl (fun a u E D hk hb=>exec_not _ _ x.wt rfl ((D 5 70 (by kernel_rfl)).1 hb)) ?_
        refine sW 8 rfl (fun a u E D hk=>exec_pickand _ _ _ ((!x.c.rests)) ((!x.wt)) rfl (dD D 3) (fun hb2 => ((D 6 71 (by kernel_rfl)).1 hb2)) rfl) ?_
        refine mD 9 72 7 ?_
        refine iC 10 8 rfl (fun a u E D hk hb=>exec_move _ _ rfl (eE E)) ?_
        refine iC 11 8 rfl (fun a u E D hk hb=>exec_gtn rfl ((D 9 74 (by kernel_rfl)).1 hb) rfl) ?_
        refine iC 12 8 rfl (fun a u E D hk hb=>exec_move _ _ rfl ((D 10 75 (by kernel_rfl)).1 hb)) ?_
        refine fsteps_cons 13 rfl (fun a u hE hD hk => f_unless2 _ _ rfl rfl rfl (dD hD 11) (fun hb => f_val _ rfl (wanted_b rfl rfl ((hD 11 76 (by kernel_rfl)).1 (and_l hb)) (eq_false_of (and_r hb))) (exec_fldo 32 6 14 (.tmp 8) (b8) (0) (14) rfl (eE hE) (by kernel_rfl) rfl) rfl)) ?_
        refine fsteps_cons 14 rfl (fun a u hE hD hk => f_unless2 _ _ rfl rfl rfl (dD hD 11) (fun hb => f_val _ rfl (wanted_b rfl rfl ((hD 11 76 (by kernel_rfl)).1 (and_l hb)) (eq_false_of (and_r hb))) (exec_loadi 30 Try.underlying30 (.tmp 77) ⟨b8, 14, none⟩ (.int .i64 x.c.err) rfl ((hD 12 77 (by kernel_rfl)).1 hb) ((range_kept (HXl.out) hk) 14 _ rfl)) rfl)) ?_
        refine fsteps_cons 15 rfl (fun a u hE hD hk => f_unless2 _ _ rfl rfl rfl (dD hD 11) (fun hb => f_val _ rfl (wanted_b rfl rfl ((hD 11 76 (by kernel_rfl)).1 (and_l hb)) (eq_false_of (and_r hb))) (exec_eqn (p := x.c.err) (q := 0) rfl ((hD 13 78 (by kernel_rfl)).1 hb) rfl) rfl)) ?_
        refine iC 16 8 rfl (fun a u E D hk hb=>exec_pickor _ _ _ ((decide ((0 : Int) < ((k : Int) : Int)))) ((decide ((x.c.err : Int) = (0 : Int)))) rfl ((D 11 76 (by kernel_rfl)).1 hb) rfl (fun hb2 => ((D 14 79 (by kernel_rfl)).1 (and_mk hb hb2)))) ?_
        refine aS 17 rfl (fun a u E D hk=>exec_pickand _ _ _ (((!x.c.rests) && (!x.wt))) (((decide ((0 : Int) < ((k : Int) : Int))) || (decide ((x.c.err : Int) = (0 : Int))))) rfl (dD D 8) (fun hb2 => ((D 15 80 (by kernel_rfl)).1 hb2)) rfl) HDB.out ?_
        exact fz
       intro gv wg hV kg
       simp only [Fz7]
       rw [gQ hV 16 81 (.bool d)]
       clear hV
       have kkg := kkl.trans kg
       have HXg := Lib.hid (range_kept HXl.out kg)
       clear HXl
       cases d with
       | true =>
        go_upto_region 19 with fail
        refine wp_text 4 [iE g1, pE b8 10, iE x.c.left, iE ((g1 : Int) + (x.c.left : Int))] rfl (by kernel_rfl) ?_ ?_
        ·refine mE 1 5 ?_
         refine fE 2 8 32 2 10 0 ?_
         refine lD 3 83 1 Try.underlying3 (fun u hk=>(range_kept (HXg.out) hk) 10 _ rfl) ?_
         refine sW 4 rfl (fun a u E D hk=>exec_addn (p := (g1)) (q := (x.c.left)) ((g1 : Int) + (x.c.left : Int)) rfl (dD D 0) (dD D 2) rfl (by omega) (by omega)) ?_
         exact fz
        intro gv wh hV kh
        rw [dq 4 [82,83,84,85]]
        simp only [Fz7]
        rw [gQ hV 3 85 (.int .i64 ((g1 : Int) + (x.c.left : Int)))]
        clear hV
        refine l_val (.int .i64 ((g1 : Int) + (x.c.left : Int))) rfl (exec_assign _ _ rfl (by kernel_rfl)) ?_
        simp only [Act.put, sA, sS, sZ]
        refine wpList_nil ?_
        have HGN : Hid (g1 + x.c.left = go + sG 0 (L.take (k + 1))) := by
         show _ = _
         rw [HTK.out.1, sG_snoc, Nat.zero_add, HTK.out.2, HG1.out, HGo.out]
         unfold gX
         rw [HDB.out]
         simp only [if_true]
         omega
        obtain ⟨g2, hg2⟩ : ∃ g2, g1 + x.c.left = g2 := ⟨_, rfl⟩
        rw [hg2] at HGN ⊢
        have kkh := kkg.trans kh
        clear HXg HG1 HGo HDB kh kkg hg2
        go_wp2
        exact ⟨⟨k + 1, c1, g2, by omega, by go_num, rfl, rfl, HC1, HGN, kkh⟩, by simp [intOf]; omega⟩
       | false =>
        have HGN : Hid (g1 = go + sG 0 (L.take (k + 1))) := by
         show _ = _
         rw [HTK.out.1, sG_snoc, Nat.zero_add, HTK.out.2, HG1.out, HGo.out]
         unfold gX
         rw [HDB.out]
         simp only [Bool.false_eq_true, if_false]
         omega
        clear HXg HG1 HGo HDB
        go_wp2
        exact ⟨⟨k + 1, c1, g1, by omega, by go_num, rfl, rfl, HC1, HGN, kkg⟩, by simp [intOf]; omega⟩
    ·have hLt : L.take k = L := List.take_of_length_le (by rw [HLL.out]; omega)
     rw [hLt] at HCa HGo
     have HLn : Hid (Mk wr F4 p (fillM (l.take (i + 1)))) := by rw [HME.out]; exact Lib.hid (HM4.out.kept hkr)
     have kwr := kw4.trans hkr
     have HEn : Hid (ca1 = go1 + whM (fillM (l.take (i + 1)))) := by
      show _ = _
      have h1 := HCa.out
      have h2 := HGo.out
      have h3 := HEQ.out
      have h4 := HSUM.out
      rw [HME.out]
      omega
     have hcs := sC_in L 0 HOK.out
     have hgs := sG_in L 0 HOK.out
     rw [HLL.out] at hcs hgs
     have HCn : Hid (0 ≤ ca1 ∧ ca1 ≤ 70000000 * ((i + 1 : Nat) : Int)) := by have h1 := HCa.out; show _ ∧ _; omega
     have HGn : Hid (0 ≤ go1 ∧ go1 ≤ 210000000 * ((i + 1 : Nat) : Int)) := by have h1 := HGo.out; show _ ∧ _; omega
     clear HM4 HO4 HS4 HZL HLL HSUM HOK HME HEQ HCB HGB hkr kw4 HCa HGo hLt hcs hgs hcb hgb
     go_wp2
     exact ⟨⟨i + 1, F4, ca1, go1, by go_num, rfl, rfl, by omega, by omega, HEn, HCn, HGn, HLn, HF4, kwr⟩, by simp [intOf]; omega⟩
  ·have HBF : Hid ((decide ((i : Int) < (n : Int)) && decide ((i : Int) < 60)) = false) := by
    show _ = _
    rw [← Bool.decide_and]
    exact decide_eq_false (fun h => hlt ⟨by omega, by omega⟩)
   have HI := Lib.hid (fillM_inv (l.take i)).1
   generalize fillM (l.take i) = M at HLr HI HEQ
   have hcb := HCB.out
   have hgb := HGB.out
   go_upto_region 6 with fail
   refine wT 8 [iE (i : Int), .eq (.slice A n c), iE (n : Int), bE (decide (((i : Int) : Int) < ((n : Int) : Int))), bE (decide (((i : Int) : Int) < ((n : Int) : Int))), .cond (decide (((i : Int) : Int) < ((n : Int) : Int))) (iE (i : Int)), .cond (decide (((i : Int) : Int) < ((n : Int) : Int))) (bE (decide (((i : Int) : Int) < (60 : Int)))), bE false] [17,18,19,20,21,22,23,24] ?_ ?_
   ·refine mE 1 6 ?_
    refine mE 2 0 ?_
    refine sW 3 rfl (fun a u E D hk=>exec_len _ _ _ slK.und A n c rfl (dD D 1)) ?_
    refine sW 4 rfl (fun a u E D hk=>exec_ltn rfl (dD D 0) (dD D 2)) ?_
    refine mD 5 20 3 ?_
    refine iC 6 4 rfl (fun a u E D hk hb=>exec_move _ _ rfl (eE E)) ?_
    refine iC 7 4 rfl (fun a u E D hk hb=>exec_ltn rfl ((D 5 22 (by kernel_rfl)).1 hb) rfl) ?_
    refine aS 8 rfl (fun a u E D hk=>exec_pickand _ _ _ ((decide (((i : Int) : Int) < ((n : Int) : Int)))) ((decide (((i : Int) : Int) < (60 : Int)))) rfl (dD D 4) (fun hb2 => ((D 6 23 (by kernel_rfl)).1 hb2)) rfl) HBF.out ?_
    exact fz
   intro gv w2 hV k2
   simp only [Fz7]
   rw [gQ hV 7 24 (.bool false)]
   clear hV
   have HM2 := Lib.hid (HLr.out.kept k2)
   have kw2 := hkr.trans k2
   clear HBF k2 HLr hkr
   obtain ⟨an, han⟩ : ∃ an, M.all.length = an := ⟨_, rfl⟩
   have hal : an ≤ 64 := by have h1 := all_len M; have h2 := HI.out.few; unfold Mkt.len at h1; omega
   have hwl : M.w.length ≤ 64 := by have := HI.out.few; omega
   have HAN := Lib.hid han
   have HQS : Hid (∀ o ∈ M.all, 0 ≤ o.qty ∧ o.qty ≤ 1048576) := fun o ho => by
    rw [ords_all] at ho
    rcases List.mem_append.1 ho with ho | ho
    ·unfold Bok.all at ho
     rw [List.map_append] at ho
     rcases List.mem_append.1 ho with ho | ho
     ·have := (ordsL_mem HI.out.inv.two.mine ho).2.2; omega
     ·have := (ordsL_mem HI.out.inv.two.theirs ho).2.2; omega
    ·have := right_qty (HI.out.good o ho).1; omega
   clear han
   go_upto_region 22 with fail
   refine wT 4 [pE p 0, .sl w2.heap.size 27 9 an (ords M.all), iE (an : Int), iE 0] [87,88,89,90] ?_ ?_
   ·refine mE 1 3 ?_
    refine cS 2 17 [.pointer (some ⟨p, 0, none⟩)] rfl Try.func17 rfl (fun a u E D hk=>⟨ll (dD D 0) rfl, (by rw [← HAN.out]; exact (mall_any u F' p M (HM2.out.kept hk) HI.out.inv (by omega)).base hk.size)⟩) ?_
    refine sW 3 rfl (fun a u E D hk=>exec_lenS _ slO _ _ _ _ rfl rfl (D 1 88 (by kernel_rfl)).1) ?_
    refine sW 4 rfl (fun a u E D hk=>exec_move _ _ rfl rfl) ?_
    exact fz
   intro gv w3 hV k3
   simp only [Fz7]
   have hv88 : (.sl w2.heap.size 27 9 an (ords M.all) : Kn).p (gv 88) w3 := hV 1 88 (by kernel_rfl)
   generalize gv 88 = v88 at hv88 ⊢
   rw [gQ hV 2 89 (.int .i64 (an : Int))]
   rw [gQ hV 3 90 (.int .i64 0)]
   clear hV
   obtain ⟨va, hva⟩ : ∃ x, x = v88 := ⟨_, rfl⟩
   subst hva
   have HA3 := Lib.hid hv88.1
   have kw3 := kw2.trans k3
   clear HM2 hv88 k3 kw2
   go_wp2_with fail
   go_loopw [11, 90] (fun x t wr => ∃ (k : Nat) (s : Int), k ≤ an ∧ t = .int .i64 (k : Int) ∧ x = .int .i64 s ∧ Hid (s = sumI ((M.all.take k).map (·.qty))) ∧ Hid (0 ≤ s ∧ s ≤ 1048576 * (k : Int)) ∧ Kept w3 wr) (fun _ t _ => an - (intOf t).toNat)
   case atStart => exact ⟨0, 0, Nat.zero_le _, rfl, rfl, by show _ = _; rw [List.take_zero]; rfl, ⟨by omega, by omega⟩, Kept.refl _⟩
   case round =>
    obtain ⟨k, s, hk, rfl, rfl, HS, HSB, hkr⟩ := hrel
    by_cases hkm : k < an
    ·obtain ⟨ga, oa, ca2, rfl⟩ := HA3.out.some_ (by omega)
     obtain ⟨e, he⟩ : ∃ e, M.all[k]? = some e := ⟨M.all[k]'(by rw [HAN.out]; exact hkm), List.getElem?_eq_getElem _⟩
     have HX : Hid (wr.rangeAt ga (oa + k * 9) e.cells) := range_kept (HA3.out.rngO k e he) hkr
     have heq := HQS.out e (List.mem_of_getElem? he)
     have HTK := Lib.hid (take_next' he)
     have hsb := HSB.out
     clear he
     go_upto_region 24 with fail
     refine wp_text 2 [pE ga (oa + k * 9), .eq (e.v)] rfl (by kernel_rfl) ?_ ?_
     ·refine sW 1 rfl (fun a u E D hk=>exec_ixo slO _ _ (ga) (oa) an ca2 k (oa + k * 9) ((k : Int)) rfl (eE E) (eE E) (by first | rfl | omega) (hkm) (by first | rfl | omega)) ?_
      refine sD 2 92 0 e.cells Try.underlying27 (fun u hk=>range_kept HX.out hk) (by rw [e.len9]; exact ord_size) ?_
      exact fz
     intro gv w5 hV k5
     rw [dq 2 [92,93]]
     simp only [Fz7]
     rw [gQ hV 1 93 e.v]
     clear hV
     refine l_new (.pointer (some ⟨w5.heap.size, 0, none⟩)) (w5.alloc (.cells zeroO.cells.toArray 27)) rfl (exec_alc 27 zeroO.cells rfl zO) ?_
     have hNw6 := Blk.new w5 27 zeroO.cells
     have kw6 : Kept w5 (w5.alloc (.cells zeroO.cells.toArray 27)) := (Keep.refl _ w5).alloc _
     generalize w5.alloc (.cells zeroO.cells.toArray 27) = w6 at hNw6 kw6 ⊢
     simp only [Act.put, sA, sS, sZ]
     refine l_setS 27 w5.heap.size 27 zeroO.cells e.cells _ _ rfl rfl (by kernel_rfl) (by kernel_rfl) (hNw6) (by rw [Ord.len9]; exact ord_size) (by rw [Ord.len9, Ord.len9]) (Ord.one1 _) ?_
     intro w7 hCw7 hkw7 hsw7
     simp only [Act.put]
     refine wpList_nil ?_
     obtain ⟨b9, h9⟩ : ∃ a, w5.heap.size = a := ⟨_, rfl⟩
     rw [h9] at hNw6 hCw7 hkw7 ⊢
     have z5 := k5.size
     have zk := hkr.size
     have k37 : Kept w3 w7 := ((hkr.trans k5).trans kw6).trans' hkw7 (by omega)
     have HX7 := Lib.hid (blk_range hCw7)
     clear hNw6 hCw7 hkw7 hsw7 kw6 k5 hkr HX
     go_upto_region 25 with fail
     refine wp_text 4 [iE s, pE b9 6, iE e.qty, iE ((s : Int) + (e.qty : Int))] rfl (by kernel_rfl) ?_ ?_
     ·refine mE 1 11 ?_
      refine fE 2 13 27 6 6 0 ?_
      refine lD 3 95 1 Try.underlying3 (fun u hk=>range_int (range_kept HX7.out hk) 6 _ rfl) ?_
      refine sW 4 rfl (fun a u E D hk=>exec_addn (p := (s)) (q := (e.qty)) ((s : Int) + (e.qty : Int)) rfl (dD D 0) (dD D 2) rfl (by omega) (by omega)) ?_
      exact fz
     intro gv w8 hV k8
     rw [dq 4 [94,95,96,97]]
     simp only [Fz7]
     rw [gQ hV 3 97 (.int .i64 ((s : Int) + (e.qty : Int)))]
     clear hV
     refine l_val (.int .i64 ((s : Int) + (e.qty : Int))) rfl (exec_assign _ _ rfl (by kernel_rfl)) ?_
     simp only [Act.put, sA, sS, sZ]
     refine wpList_nil ?_
     have kk := k37.trans k8
     obtain ⟨s2, hs2⟩ : ∃ s2, s + e.qty = s2 := ⟨_, rfl⟩
     rw [hs2]
     have HS2 : Hid (s2 = sumI ((M.all.take (k + 1)).map (·.qty))) := by
      show _ = _
      rw [HTK.out.1, List.map_append, sumI_append, ← hs2, HS.out]
      simp [sumI]
     have HSB2 : Hid (0 ≤ s2 ∧ s2 ≤ 1048576 * ((k + 1 : Nat) : Int)) := by show _ ∧ _; omega
     clear HX7 k8 k37 HS HSB HTK hsb heq hs2
     go_wp2
     exact ⟨⟨k + 1, s2, by omega, by go_num, rfl, HS2, HSB2, kk⟩, by simp [intOf]; omega⟩
    ·have hall : M.all.take k = M.all := List.take_of_length_le (by rw [HAN.out]; omega)
     rw [hall] at HS
     have HFE : Hid (ca = go + s) := by show _ = _; rw [HEQ.out, HS.out]; rfl
     have hsb := HSB.out
     have kwr := kw3.trans hkr
     clear HA3 HS HQS HEQ hall kw3 hkr
     go_upto_region 27 with fail
     refine wT 9 [iE ca, iE go, iE s, iE ((go : Int) + (s : Int)), bE true, bE true, bE true, bE true, bE true] [99,100,101,102,103,104,105,106,2] ?_ ?_
     ·refine mE 1 4 ?_
      refine mE 2 5 ?_
      refine mE 3 11 ?_
      refine sW 4 rfl (fun a u E D hk=>exec_addn (p := (go)) (q := (s)) ((go : Int) + (s : Int)) rfl (dD D 1) (dD D 2) rfl (by omega) (by omega)) ?_
      refine aS 5 rfl (fun a u E D hk=>exec_eqn rfl (dD D 0) (dD D 3)) (decide_eq_true HFE.out) ?_
      refine mD 6 103 4 ?_
      refine cS 7 3 [] rfl Try.func3 rfl (fun a u E D hk=>⟨rfl, sruns_gives u⟩) ?_
      refine pT 8 104 105 5 6 ?_
      refine mD 9 106 7 ?_
      exact fz
     intro gv wx hV kx
     simp only [Fz7]
     rw [gQ hV 8 2 (.bool true)]
     clear hV
     go_wp2
     go_ret
     exact ⟨rfl, kwr.trans kx⟩
end Go.Proofs.Ytlbeibapbkccfaa
