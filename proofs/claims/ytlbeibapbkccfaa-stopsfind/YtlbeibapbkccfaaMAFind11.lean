/-
 The walk of StopsFind. No condition.
-/
import Derived.Test.YtlbeibapbkccfaaQA04
import Derived.Test.YtlbeibapbkccfaaMATurn11
import Derived.Test.YtlbeibapbkccfaaMAQuiet11
set_option linter.unusedVariables false
namespace Go.Proofs.Ytlbeibapbkccfaa
open Go.RowKit
set_option maxRecDepth 100000
set_option maxRecDepth 100000 in
set_option maxHeartbeats 6400000 in
theorem stopsFind_any (v : Value) (l : List Kq) (at_ : Int) (w : World) (hl : Kqs w v l) : Calls Try.prog 7 #[v, .int .i64 at_] w fun e w' => e = .returned (.bool true) ∧ Kept w w' := by
 have HA := Lib.hid hl
 obtain ⟨A, n, c, rfl, hn, hm⟩ : ∃ A n c, v = .slice A n c ∧ l.length = n ∧ n ≤ maxLen := by
  obtain ⟨A, n, c, h1, h2, _, h3, _⟩ := hl
  exact ⟨A, n, c, h1, h2, h3⟩
 clear hl
 unfold maxLen at hm
 have HN := Lib.hid hn
 clear hn
 go_enter Try.func7, Try.ntmps7
 go_upto_region 1 with fail
 refine wp_region_lit ?_
 refine l_call 9 #[] rfl (exec_call 9 _ [] _ _ Try.func9 (by kernel_rfl) (by kernel_rfl) rfl (by kernel_rfl) _) ?_
 refine (mnew_any w).mono ?_
 rintro r w1 ⟨p, F, rfl, hL1, hG1, k1⟩
 refine ⟨_, rfl, ?_⟩
 simp only [Act.put, sA, sS, sZ]
 refine l_val (.pointer (some ⟨p, 0, none⟩)) rfl (exec_assign _ _ rfl (by kernel_rfl)) ?_
 simp only [Act.put, sA, sS, sZ]
 refine wpList_nil ?_
 have HL1 : Hid (Mk w1 F p (fillM (l.take 0))) := by rw [List.take_zero]; exact Lib.hid hL1
 have HF1 : Hid (∀ b, F b → w.heap.size ≤ b) := fun b hb => (hG1 b hb).elim (fun h => h.elim) id
 clear hL1 hG1
 go_wp2_with fail
 go_loopw [6] (fun t wr => ∃ (i : Nat) (F' : Nat → Prop), t = .int .i64 (i : Int) ∧ i ≤ 40 ∧ i ≤ n ∧ Hid (Mk wr F' p (fillM (l.take i))) ∧ Hid (∀ b, F' b → w.heap.size ≤ b) ∧ Kept w wr) (fun t _ => 40 - (intOf t).toNat)
 case atStart => exact ⟨0, F, rfl, by omega, by omega, HL1, HF1, k1⟩
 case round =>
  obtain ⟨i, F', rfl, hi, hin, HLr, HFr, hkr⟩ := hrel
  by_cases hlt : i < n ∧ i < 40
  ·obtain ⟨hin', hi20⟩ := hlt
   have hil : i < l.length := by rw [HN.out]; exact hin'
   obtain ⟨q, hq⟩ : ∃ q, l[i]? = some q := ⟨_, List.getElem?_eq_getElem hil⟩
   have HNx := Lib.hid (fillM_next l i q hq)
   have hI := fillM_inv (l.take i)
   have HNo : Hid ((fillM (l.take i)).b.no ≤ 900000000000) := by
    have h1 := hI.2
    have h2 : (l.take i).length ≤ 60 := by rw [List.length_take]; omega
    show _ ≤ _
    omega
   have HI := Lib.hid hI.1
   clear hI
   generalize fillM (l.take i) = M at HLr HNx HNo HI
   obtain ⟨A', n', c', e1, _, _, _, h4⟩ := HA.out
   injection e1 with e1 e2 e3
   subst e1 e2 e3
   obtain ⟨g, off, rfl, hr⟩ := h4 i q hq
   have HE := Lib.hid (range_kept hr hkr)
   clear h4 hr hq hil
   go_upto_region 7 with fail
   refine wp_text 6 [pE p 0, .eq (.slice (some ⟨g, off, none⟩) n c), iE (i : Int), pE g (off + i * 7), .eq (q.v), .eq (q.so.v)] rfl (by kernel_rfl) ?_ ?_
   ·refine mE 1 5 ?_
    refine mE 2 0 ?_
    refine mE 3 6 ?_
    refine sW 4 rfl (fun a u E D hk=>exec_ixo slK _ _ (g) (off) n c i (off + i * 7) ((i : Int)) rfl (dD D 1) (dD D 2) (by first | rfl | omega) (hin') (by first | rfl | omega)) ?_
    refine sD 5 36 3 q.cells Try.underlying41 (fun u hk=>range_kept HE.out hk) (by rw [q.len7]; exact szK) ?_
    refine cS 6 13 [q.v] rfl Try.func13 rfl (fun a u E D hk=>⟨ll (dD D 4) rfl, kstop_any q u⟩) ?_
    exact fz
   intro gv w3 hV k3
   rw [dq 6 [33,34,35,36,37,38]]
   simp only [Fz7]
   rw [gQ hV 0 33 (.pointer (some ⟨p, 0, none⟩))]
   rw [gQ hV 5 38 q.so.v]
   clear hV
   refine l_call 10 #[.pointer (some ⟨p, 0, none⟩), q.so.v] rfl (exec_call 10 _ [.tmp 33, .tmp 38] _ _ Try.func10 (by kernel_rfl) (by kernel_rfl) rfl (by kernel_rfl) _) ?_
   refine (madd_any w3 F' p M q.so (HLr.out.kept k3) HI.out HNo.out).mono ?_
   rintro r w4 ⟨F4, v4, Z4, rfl, hM4, hO4, hG4, hk4⟩
   refine ⟨_, rfl, ?_⟩
   simp only [Act.put, sA, sS, sZ]
   refine wpList_nil ?_
   obtain ⟨kw4, hF4⟩ := madd_frame hkr HFr.out k3 hk4 hG4
   have HM4 : Hid (Mk w4 F4 p (fillM (l.take (i + 1)))) := by rw [HNx.out]; exact Lib.hid hM4
   have HF4 := Lib.hid hF4
   clear hM4 hO4 hG4 hk4 HLr HFr hkr HE HI HNo HNx k3 hF4
   go_wp2
   exact ⟨⟨i + 1, F4, by go_num, by omega, by omega, HM4, HF4, kw4⟩, by simp [intOf]; omega⟩
  ·have HBF : Hid ((decide ((i : Int) < (n : Int)) && decide ((i : Int) < 40)) = false) := by
    show _ = _
    rw [← Bool.decide_and]
    exact decide_eq_false (fun h => hlt ⟨by omega, by omega⟩)
   have hI := fillM_inv (l.take i)
   have HI := Lib.hid hI.1
   clear hI
   generalize fillM (l.take i) = M at HLr HI
   go_upto_region 5 with fail
   refine wT 8 [iE (i : Int), .eq (.slice A n c), iE (n : Int), bE (decide (((i : Int) : Int) < ((n : Int) : Int))), bE (decide (((i : Int) : Int) < ((n : Int) : Int))), .cond (decide (((i : Int) : Int) < ((n : Int) : Int))) (iE (i : Int)), .cond (decide (((i : Int) : Int) < ((n : Int) : Int))) (bE (decide (((i : Int) : Int) < (40 : Int)))), bE false] [23,24,25,26,27,28,29,30] ?_ ?_
   ·refine mE 1 6 ?_
    refine mE 2 0 ?_
    refine sW 3 rfl (fun a u E D hk=>exec_len _ _ _ slK.und A n c rfl (dD D 1)) ?_
    refine sW 4 rfl (fun a u E D hk=>exec_ltn rfl (dD D 0) (dD D 2)) ?_
    refine mD 5 26 3 ?_
    refine iC 6 4 rfl (fun a u E D hk hb=>exec_move _ _ rfl (eE E)) ?_
    refine iC 7 4 rfl (fun a u E D hk hb=>exec_ltn rfl ((D 5 28 (by kernel_rfl)).1 hb) rfl) ?_
    refine aS 8 rfl (fun a u E D hk=>exec_pickand _ _ _ ((decide (((i : Int) : Int) < ((n : Int) : Int)))) ((decide (((i : Int) : Int) < (40 : Int)))) rfl (dD D 4) (fun hb2 => ((D 6 29 (by kernel_rfl)).1 hb2)) rfl) HBF.out ?_
    exact fz
   intro gv w2 hV k2
   simp only [Fz7]
   rw [gQ hV 7 30 (.bool false)]
   clear hV
   have HM2 := Lib.hid (HLr.out.kept k2)
   have kw2 := hkr.trans k2
   clear HBF k2 HLr hkr
   obtain ⟨an, han⟩ : ∃ an, M.all.length = an := ⟨_, rfl⟩
   have hal : an ≤ 64 := by have h1 := all_len M; have h2 := HI.out.few; unfold Mkt.len at h1; omega
   have hwl : M.w.length ≤ 64 := by have := HI.out.few; omega
   have HAN := Lib.hid han
   have HND := Lib.hid HI.out.nodup
   clear han
   go_upto_region 8 with fail
   refine wT 3 [pE p 0, .sl w2.heap.size 27 9 an (ords M.all), .sl w2.heap.size 27 9 an (ords M.all)] [40,41,7] ?_ ?_
   ·refine mE 1 5 ?_
    refine cS 2 17 [.pointer (some ⟨p, 0, none⟩)] rfl Try.func17 rfl (fun a u E D hk=>⟨ll (dD D 0) rfl, (by rw [← HAN.out]; exact (mall_any u F' p M (HM2.out.kept hk) HI.out.inv (by omega)).base hk.size)⟩) ?_
    refine fsteps_cons 3 rfl (fun a u hE hD hk => f_val _ rfl (wanted_none rfl _) (exec_assign (.tmp 41) _ rfl rfl) (dD hD 1)) ?_
    exact fz
   intro gv w3 hV k3
   simp only [Fz7]
   have hv7 : (.sl w2.heap.size 27 9 an (ords M.all) : Kn).p (gv 7) w3 := hV 2 7 (by kernel_rfl)
   generalize gv 7 = v7 at hv7 ⊢
   clear hV
   obtain ⟨va, hva⟩ : ∃ x, x = v7 := ⟨_, rfl⟩
   subst hva
   have HM3 := Lib.hid (HM2.out.kept k3)
   have HA3 := Lib.hid hv7.1
   have HAo : Hid (∀ b, va.ownBlock = some b → w2.heap.size ≤ b) := hv7.2
   have hMl2 := HM2.out.lt
   have HAF : Hid (∀ b, va.ownBlock = some b → ¬ F' b) := fun b hb e => by have := hv7.2 b hb; have := hMl2 b e; omega
   have kw3 := kw2.trans k3
   clear HM2 hv7 k3 kw2 hMl2 HAo
   go_upto_region 9 with fail
   refine wT 3 [.eq (va), iE (an : Int), iE 0] [42,43,44] ?_ ?_
   ·refine mE 1 7 ?_
    refine sW 2 rfl (fun a u E D hk=>exec_lenS _ slO _ _ _ _ rfl (dD D 0) (HA3.out.kept hk)) ?_
    refine sW 3 rfl (fun a u E D hk=>exec_move _ _ rfl rfl) ?_
    exact fz
   intro gv w4 hV k4
   simp only [Fz7]
   rw [gQ hV 0 42 va]
   rw [gQ hV 1 43 (.int .i64 (an : Int))]
   rw [gQ hV 2 44 (.int .i64 0)]
   clear hV
   have HM4 := Lib.hid (HM3.out.kept k4)
   have HA4 := Lib.hid (HA3.out.kept k4)
   have kw4 := kw3.trans k4
   clear HM3 HA3 kw3 k4
   go_wp2_with fail
   go_loopw [44] (fun x wr => ∃ (k : Nat), k ≤ an ∧ x = .int .i64 (k : Int) ∧ Kept w4 wr) (fun x _ => an - (intOf x).toNat)
   case atStart => exact ⟨0, Nat.zero_le _, rfl, Kept.refl _⟩
   case round =>
    obtain ⟨k, hk, rfl, hkr⟩ := hrel
    by_cases hkm : k < an
    ·obtain ⟨ga, oa, ca, rfl⟩ := HA4.out.some_ (by omega)
     obtain ⟨x, hx⟩ : ∃ e, M.all[k]? = some e := ⟨M.all[k]'(by rw [HAN.out]; exact hkm), List.getElem?_eq_getElem _⟩
     have HX : Hid (wr.rangeAt ga (oa + k * 9) x.cells) := range_kept (HA4.out.rngO k x hx) hkr
     have HFX : Hid (M.find x.tr x.id = (x, true)) := by show _ = _; rw [find_all]; exact findO_at HND.out hx
     have HMr := Lib.hid (HM4.out.kept hkr)
     clear hx
     go_upto_region 11 with fail
     refine wp_text 2 [pE ga (oa + k * 9), .eq (x.v)] rfl (by kernel_rfl) ?_ ?_
     ·refine sW 1 rfl (fun a u E D hk=>exec_ixo slO _ _ (ga) (oa) an ca k (oa + k * 9) ((k : Int)) rfl (eE E) (eE E) (by first | rfl | omega) (hkm) (by first | rfl | omega)) ?_
      refine sD 2 46 0 x.cells Try.underlying27 (fun u hk=>range_kept HX.out hk) (by rw [x.len9]; exact ord_size) ?_
      exact fz
     intro gv w5 hV k5
     rw [dq 2 [46,47]]
     simp only [Fz7]
     rw [gQ hV 1 47 x.v]
     clear hV
     refine l_new (.pointer (some ⟨w5.heap.size, 0, none⟩)) (w5.alloc (.cells zeroO.cells.toArray 27)) rfl (exec_alc 27 zeroO.cells rfl zO) ?_
     have hNw6 := Blk.new w5 27 zeroO.cells
     have kw6 : Kept w5 (w5.alloc (.cells zeroO.cells.toArray 27)) := (Keep.refl _ w5).alloc _
     generalize w5.alloc (.cells zeroO.cells.toArray 27) = w6 at hNw6 kw6 ⊢
     simp only [Act.put, sA, sS, sZ]
     refine l_setS 27 w5.heap.size 27 zeroO.cells x.cells _ _ rfl rfl (by kernel_rfl) (by kernel_rfl) (hNw6) (by rw [Ord.len9]; exact ord_size) (by rw [Ord.len9, Ord.len9]) (Ord.one1 _) ?_
     intro w7 hCw7 hkw7 hsw7
     simp only [Act.put]
     refine wpList_nil ?_
     obtain ⟨b9, h9⟩ : ∃ a, w5.heap.size = a := ⟨_, rfl⟩
     rw [h9] at hNw6 hCw7 hkw7 ⊢
     have z5 := k5.size
     have kr7 : Kept wr w7 := (k5.trans kw6).trans' hkw7 (by omega)
     have HX7 := Lib.hid (blk_range hCw7)
     have HM7 := Lib.hid (HMr.out.kept kr7)
     have k47 := hkr.trans kr7
     clear hNw6 hCw7 hkw7 hsw7 kw6 k5 kr7 hkr HX HMr
     go_upto_region 12 with fail
     refine wp_text 9 [pE p 0, pE b9 0, iE x.tr, pE b9 1, iE x.id, .eq (.tuple #[x.v, .bool true]), .eq (.tuple #[x.v, .bool true]), .eq (x.v), bE true] rfl (by kernel_rfl) ?_ ?_
     ·refine mE 1 5 ?_
      refine fE 2 9 27 0 0 0 ?_
      refine lD 3 50 1 Try.underlying3 (fun u hk=>range_int (range_kept HX7.out hk) 0 _ rfl) ?_
      refine fE 4 9 27 1 1 0 ?_
      refine lD 5 52 3 Try.underlying3 (fun u hk=>range_int (range_kept HX7.out hk) 1 _ rfl) ?_
      refine cS 6 25 [.pointer (some ⟨p, 0, none⟩), .int .i64 x.tr, .int .i64 x.id] rfl Try.func25 rfl (fun a u E D hk=>⟨ll (dD D 0) (ll (dD D 2) (ll (dD D 4) rfl)), (by have h := mfind_any u F' p M x.tr x.id (HM7.out.kept hk) HI.out.inv (by omega); rw [HFX.out] at h; exact h)⟩) ?_
      refine mD 7 54 5 ?_
      refine sW 8 rfl (fun a u E D hk=>exec_extract _ [x.v, .bool true] 0 (x.v) rfl (dD D 6) rfl) ?_
      refine sW 9 rfl (fun a u E D hk=>exec_extract _ [x.v, .bool true] 1 (.bool true) rfl (dD D 6) rfl) ?_
      exact fz
     intro gv w8 hV k8
     rw [dq 9 [49,50,51,52,53,54,48,55,56]]
     simp only [Fz7]
     rw [gQ hV 7 55 x.v]
     rw [gQ hV 8 56 (.bool true)]
     clear hV
     refine l_new (.pointer (some ⟨w8.heap.size, 0, none⟩)) (w8.alloc (.cells zeroO.cells.toArray 27)) rfl (exec_alc 27 zeroO.cells rfl zO) ?_
     have hNw9 := Blk.new w8 27 zeroO.cells
     have kw9 : Kept w8 (w8.alloc (.cells zeroO.cells.toArray 27)) := (Keep.refl _ w8).alloc _
     generalize w8.alloc (.cells zeroO.cells.toArray 27) = w9 at hNw9 kw9 ⊢
     simp only [Act.put, sA, sS, sZ]
     refine l_setS 27 w8.heap.size 27 zeroO.cells x.cells _ _ rfl rfl (by kernel_rfl) (by kernel_rfl) (hNw9) (by rw [Ord.len9]; exact ord_size) (by rw [Ord.len9, Ord.len9]) (Ord.one1 _) ?_
     intro wa hCwa hkwa hswa
     simp only [Act.put]
     refine l_val (.bool true) rfl (exec_assign _ _ rfl (by kernel_rfl)) ?_
     simp only [Act.put, sA, sS, sZ]
     refine wpList_nil ?_
     obtain ⟨b10, h10⟩ : ∃ a, w8.heap.size = a := ⟨_, rfl⟩
     rw [h10] at hNw9 hCwa hkwa ⊢
     have z8 := k8.size
     have k7a : Kept w7 wa := (k8.trans kw9).trans' hkwa (by omega)
     have HXa := Lib.hid (range_kept HX7.out k7a)
     have HYa := Lib.hid (blk_range hCwa)
     have k4a := k47.trans k7a
     clear hNw9 hCwa hkwa hswa kw9 k8 k7a k47 HX7 HM7 HFX
     go_upto_region 13 with fail
     refine wT 7 [bE true, bE false, bE false, .eq (x.v), .eq (x.v), bE false, bE false] [57,58,59,60,61,62,63] ?_ ?_
     ·refine mE 1 11 ?_
      refine sW 2 rfl (fun a u E D hk=>exec_not _ _ true rfl (dD D 0)) ?_
      refine mD 3 58 1 ?_
      refine sE 4 10 b10 0 x.cells Try.underlying27 (fun u hk=>range_kept HYa.out hk) (by rw [x.len9]; exact ord_size) ?_
      refine sE 5 9 b9 0 x.cells Try.underlying27 (fun u hk=>range_kept HXa.out hk) (by rw [x.len9]; exact ord_size) ?_
      refine sW 6 rfl (fun a u E D hk=>exec_neOb false _ _ _ x x rfl (dD D 3) (dD D 4) (by simp)) ?_
      refine sW 7 rfl (fun a u E D hk=>exec_pickF _ _ _ _ rfl (dD D 2) (dD D 5)) ?_
      exact fz
     intro gv wb hV kb
     simp only [Fz7]
     rw [gQ hV 6 63 (.bool false)]
     clear hV
     have kk := k4a.trans kb
     clear HXa HYa kb k4a
     go_wp2
     exact ⟨⟨k + 1, by omega, by go_num, kk⟩, by simp [intOf]; omega⟩
    ·have HMr := Lib.hid (HM4.out.kept hkr)
     have HAr := Lib.hid (HA4.out.kept hkr)
     have kwr := kw4.trans hkr
     clear HM4 HA4 kw4 hkr
     by_cases h0 : an = 0
     ·go_upto_region 16 with fail
      refine wT 3 [.eq (va), iE (an : Int), bE true] [65,66,67] ?_ ?_
      ·refine mE 1 7 ?_
       refine sW 2 rfl (fun a u E D hk=>exec_lenS _ slO _ _ _ _ rfl (dD D 0) (HAr.out.kept hk)) ?_
       refine aS 3 rfl (fun a u E D hk=>exec_eqn rfl (dD D 1) rfl) (decide_eq_true (by omega)) ?_
       exact fz
      intro gv w5 hV k5
      simp only [Fz7]
      rw [gQ hV 2 67 (.bool true)]
      clear hV
      go_upto_region 17 with fail
      refine wp_region_lit ?_
      refine l_call 3 #[] rfl (exec_call 3 _ [] _ _ Try.func3 (by kernel_rfl) (by kernel_rfl) rfl (by kernel_rfl) _) ?_
      refine (stopsRuns_any w5).mono ?_
      rintro r w6 ⟨rfl, k6⟩
      refine ⟨_, rfl, ?_⟩
      simp only [Act.put, sA, sS, sZ]
      refine l_val (.bool true) rfl (exec_assign _ _ rfl (by kernel_rfl)) ?_
      simp only [Act.put, sA, sS, sZ]
      refine wpList_nil ?_
      go_wp2
      go_ret
      exact ⟨rfl, (kwr.trans k5).trans k6⟩
     ·obtain ⟨kI, hkI⟩ : ∃ kI, wi at_ 0 ((an : Int) - 1) = kI := ⟨_, rfl⟩
      have hk0 : 0 ≤ kI ∧ kI ≤ (an : Int) - 1 := by rw [← hkI]; exact wi_in at_ 0 _ (by omega)
      obtain ⟨k', rfl⟩ : ∃ k' : Nat, kI = (k' : Int) := ⟨kI.toNat, by omega⟩
      obtain ⟨kx, rfl⟩ : ∃ k, k = k' := ⟨_, rfl⟩
      have hkn : kx < an := by omega
      have HKI := Lib.hid hkI
      obtain ⟨ga, oa, ca, rfl⟩ := HAr.out.some_ (by omega)
      obtain ⟨e, he⟩ : ∃ e, M.all[kx]? = some e := ⟨M.all[kx]'(by rw [HAN.out]; exact hkn), List.getElem?_eq_getElem _⟩
      have HEr : Hid (wr.rangeAt ga (oa + kx * 9) e.cells) := HAr.out.rngO kx e he
      obtain ⟨r1, r2, r3, r4⟩ := remove_all M e.tr e.id
      rw [findO_at HND.out he] at r1 r2
      rw [outO_at HND.out he] at r3
      obtain ⟨M2, hM2⟩ : ∃ M2, (M.remove e.tr e.id).2.2 = M2 := ⟨_, rfl⟩
      have HR1 : Hid (M.remove e.tr e.id = (e, true, M2)) := by show _ = _; rw [← hM2]; exact Prod.ext r1 (Prod.ext r2 rfl)
      have HI2 := Lib.hid (HI.out.remove e.tr e.id).1
      rw [hM2] at HI2 r3
      have hf2 : findO e.tr e.id M2.all = (zeroO, false) := by rw [r3]; exact findO_out HND.out he
      have HF2 : Hid (M2.find e.tr e.id = (zeroO, false)) := by show _ = _; rw [find_all]; exact hf2
      obtain ⟨q1, q2, q3, q4⟩ := remove_all M2 e.tr e.id
      rw [hf2] at q1 q2 q4
      have HR2 : Hid (M2.remove e.tr e.id = (zeroO, false, M2)) := by show _ = _; exact Prod.ext q1 (Prod.ext q2 (q4 rfl))
      have HA2 := Lib.hid r3
      have hwl2 : M2.w.length ≤ 64 := by have := HI2.out.few; omega
      have hga : ¬ F' ga := HAF.out ga rfl
      have hgl : ga < wr.heap.size := HAr.out.lt rfl
      clear hkI r1 r2 r3 r4 q1 q2 q3 q4 hf2 hM2 he
      go_upto_region 16 with fail
      refine wT 3 [.eq (.slice (some ⟨ga, oa, none⟩) an ca), iE (an : Int), bE false] [65,66,67] ?_ ?_
      ·refine mE 1 7 ?_
       refine sW 2 rfl (fun a u E D hk=>exec_len _ _ _ slO.und (some ⟨ga, oa, none⟩) an ca rfl (dD D 0)) ?_
       refine aS 3 rfl (fun a u E D hk=>exec_eqn rfl (dD D 1) rfl) (decide_eq_false (by omega)) ?_
       exact fz
      intro gv w5 hV k5
      simp only [Fz7]
      rw [gQ hV 2 67 (.bool false)]
      clear hV
      have HM5 := Lib.hid (HMr.out.kept k5)
      have HA5 := Lib.hid (HAr.out.kept k5)
      have kw5 := kwr.trans k5
      have HE5 := Lib.hid (range_kept HEr.out k5)
      have z5 := k5.size
      clear HMr HAr kwr HEr
      go_upto_region 18 with fail
      refine wT 6 [iE at_, .eq (.slice (some ⟨ga, oa, none⟩) an ca), iE (an : Int), iE (((an : Int) : Int) - (1 : Int)), iE (kx : Int), iE (kx : Int)] [69,70,71,72,73,12] ?_ ?_
      ·refine mE 1 1 ?_
       refine mE 2 7 ?_
       refine sW 3 rfl (fun a u E D hk=>exec_len _ _ _ slO.und (some ⟨ga, oa, none⟩) an ca rfl (dD D 1)) ?_
       refine sW 4 rfl (fun a u E D hk=>exec_subn (p := ((an : Int))) (q := (1)) (((an : Int) : Int) - (1 : Int)) rfl (dD D 2) rfl rfl (by omega) (by omega)) ?_
       refine cS 5 26 [.int .i64 at_, .int .i64 0, .int .i64 (((an : Int) : Int) - (1 : Int))] rfl Try.func26 rfl (fun a u E D hk=>⟨ll (dD D 0) (ll rfl (ll (dD D 3) rfl)), (by rw [← HKI.out]; exact within_is at_ 0 ((an : Int) - 1) u (by omega) (by omega) (by omega))⟩) ?_
       refine mD 6 73 4 ?_
       exact fz
      intro gv w6 hV k6
      simp only [Fz7]
      rw [gQ hV 5 12 (.int .i64 (kx : Int))]
      clear hV
      have HM6 := Lib.hid (HM5.out.kept k6)
      have HA6 := Lib.hid (HA5.out.kept k6)
      have kw6 := kw5.trans k6
      have HEw6 := Lib.hid (range_kept HE5.out k6)
      have HFw6 : Hid (∀ b, F' b → w.heap.size ≤ b) := HFr
      have z6 := k6.size
      clear HM5 HA5 kw5 HE5 HFr k5 k6
      go_upto_region 19 with fail
      go_cut [75, 76, 77, 78, 79, 80, 81, 82, 83, 84, 85, 86, 74, 87, 88, 13, 14] (fun _ _ _ _ _ _ _ _ _ _ _ _ _ _ _ ra rb wx => ∃ ba F2, ra = .pointer (some ⟨ba, 0, none⟩) ∧ rb = .bool true ∧ w6.heap.size ≤ ba ∧ Blk wx ba 27 e.cells ∧ Mk wx F2 p M2 ∧ ¬ F2 ba ∧ Grow w6 F' F2 ∧ Keep F' w6 wx)
      case first =>
       refine wp_tree (fun u => Keep F' w6 u) (.val 0 (.val 1 (.val 2 (.val 3 (.val 4 (.val 5 (.val 6 (.val 7 (.val 8 (.val 9 (.val 10 (.two 11 15 (.val 12 (.val 13 (.val 14 (.one 15 (.one 16 (.val 17 .done)))))) (.one 11 (.val 12 (.val 13 (.val 14 (.one 16 (.val 17 .done)))))))))))))))))) rfl (by kernel_rfl) (Keep.drew (Keep.refl _ w6)) ?_
       refine t_val (o := ⟨some 75, _, _, _, _, _⟩) (.pointer (some ⟨p, 0, none⟩)) rfl rfl (fun u hu => exec_move (.tmp 5) (.pointer (some ⟨p, 0, none⟩)) rfl (by kernel_rfl)) ?_
       simp only [Act.put, sA, sS, sZ]
       refine t_val (o := ⟨some 76, _, _, _, _, _⟩) (.slice (some ⟨ga, oa, none⟩) an ca) rfl rfl (fun u hu => exec_move (.tmp 7) (.slice (some ⟨ga, oa, none⟩) an ca) rfl (by kernel_rfl)) ?_
       simp only [Act.put, sA, sS, sZ]
       refine t_val (o := ⟨some 77, _, _, _, _, _⟩) (.int .i64 (kx : Int)) rfl rfl (fun u hu => exec_move (.tmp 12) (.int .i64 (kx : Int)) rfl (by kernel_rfl)) ?_
       simp only [Act.put, sA, sS, sZ]
       refine t_val (o := ⟨some 78, _, _, _, _, _⟩) (.pointer (some ⟨ga, oa + kx * 9, none⟩)) rfl rfl (fun u hu => exec_ixo slO (.tmp 76) (.tmp 77) (ga) (oa) (an) (ca) (kx) (oa + kx * 9) (kx : Int) rfl (by kernel_rfl) (by kernel_rfl) rfl (hkn) (by first | rfl | omega)) ?_
       simp only [Act.put, sA, sS, sZ]
       refine t_val (o := ⟨some 79, _, _, _, _, _⟩) (.pointer (some ⟨ga, oa + kx * 9 + 0, none⟩)) rfl rfl (fun u hu => exec_fldo 27 0 0 (.tmp 78) (ga) (oa + kx * 9) (oa + kx * 9 + 0) rfl (by kernel_rfl) (by kernel_rfl) rfl) ?_
       simp only [Act.put, sA, sS, sZ]
       refine t_val (o := ⟨some 80, _, _, _, _, _⟩) (.int .i64 (e.tr)) rfl rfl (fun u hu => exec_loadi 3 Try.underlying3 (.tmp 79) ⟨ga, oa + kx * 9 + 0, none⟩ (.int .i64 (e.tr)) rfl (by kernel_rfl) (range_int (range_keep HEw6.out hu hga) 0 _ rfl)) ?_
       simp only [Act.put, sA, sS, sZ]
       refine t_val (o := ⟨some 81, _, _, _, _, _⟩) (.slice (some ⟨ga, oa, none⟩) an ca) rfl rfl (fun u hu => exec_move (.tmp 7) (.slice (some ⟨ga, oa, none⟩) an ca) rfl (by kernel_rfl)) ?_
       simp only [Act.put, sA, sS, sZ]
       refine t_val (o := ⟨some 82, _, _, _, _, _⟩) (.int .i64 (kx : Int)) rfl rfl (fun u hu => exec_move (.tmp 12) (.int .i64 (kx : Int)) rfl (by kernel_rfl)) ?_
       simp only [Act.put, sA, sS, sZ]
       refine t_val (o := ⟨some 83, _, _, _, _, _⟩) (.pointer (some ⟨ga, oa + kx * 9, none⟩)) rfl rfl (fun u hu => exec_ixo slO (.tmp 81) (.tmp 82) (ga) (oa) (an) (ca) (kx) (oa + kx * 9) (kx : Int) rfl (by kernel_rfl) (by kernel_rfl) rfl (hkn) (by first | rfl | omega)) ?_
       simp only [Act.put, sA, sS, sZ]
       refine t_val (o := ⟨some 84, _, _, _, _, _⟩) (.pointer (some ⟨ga, oa + kx * 9 + 1, none⟩)) rfl rfl (fun u hu => exec_fldo 27 1 1 (.tmp 83) (ga) (oa + kx * 9) (oa + kx * 9 + 1) rfl (by kernel_rfl) (by kernel_rfl) rfl) ?_
       simp only [Act.put, sA, sS, sZ]
       refine t_val (o := ⟨some 85, _, _, _, _, _⟩) (.int .i64 (e.id)) rfl rfl (fun u hu => exec_loadi 3 Try.underlying3 (.tmp 84) ⟨ga, oa + kx * 9 + 1, none⟩ (.int .i64 (e.id)) rfl (by kernel_rfl) (range_int (range_keep HEw6.out hu hga) 1 _ rfl)) ?_
       simp only [Act.put, sA, sS, sZ]
       refine ⟨?_, ?_⟩
       ·skip
        refine t_call (o := ⟨some 86, _, _, _, _, _⟩) 27 #[.pointer (some ⟨p, 0, none⟩), .int .i64 e.tr, .int .i64 e.id] rfl rfl (exec_call 27 _ [.tmp 75, .tmp 80, .tmp 85] _ _ Try.func27 (by kernel_rfl) (by kernel_rfl) rfl (by kernel_rfl)) ?_
        refine (mremove_any w6.drew F' p M e.tr e.id (HM6.out.kept (Keep.drew (Keep.refl _ w6))) HI.out.inv (by omega)).mono ?_
        rintro r wq ⟨F2, rfl, hMq, hGq, hkq⟩
        rw [HR1.out] at hMq ⊢
        have hSq : Keep F' w6 wq := Keep.undrew hkq
        refine ⟨.tuple #[e.v, .bool true], rfl, hSq, ?_⟩
        simp only [Act.put, sA, sS, sZ]
        refine t_val (o := ⟨some 74, _, _, _, _, _⟩) (.tuple #[e.v, .bool true]) rfl rfl (fun u hu => exec_move (.tmp 86) (.tuple #[e.v, .bool true]) rfl (by kernel_rfl)) ?_
        simp only [Act.put, sA, sS, sZ]
        refine t_val (o := ⟨some 87, _, _, _, _, _⟩) (e.v) rfl rfl (fun u hu => exec_extract (.tmp 74) [e.v, .bool true] 0 (e.v) rfl (by kernel_rfl) rfl) ?_
        simp only [Act.put, sA, sS, sZ]
        refine t_val (o := ⟨some 88, _, _, _, _, _⟩) (.bool true) rfl rfl (fun u hu => exec_extract (.tmp 74) [e.v, .bool true] 1 (.bool true) rfl (by kernel_rfl) rfl) ?_
        simp only [Act.put, sA, sS, sZ]
        refine t_new (o := ⟨some 13, _, _, _, _, _⟩) (.pointer (some ⟨wq.heap.size, 0, none⟩)) (wq.alloc (.cells zeroO.cells.toArray 27)) rfl rfl (exec_alc 27 zeroO.cells rfl zO) ?_ ?_
        ·exact (hSq).alloc _
        have hNwz := Blk.new wq 27 zeroO.cells
        have kwz : Kept wq (wq.alloc (.cells zeroO.cells.toArray 27)) := (Keep.refl _ wq).alloc _
        have zwz : wq.heap.size < (wq.alloc (.cells zeroO.cells.toArray 27)).heap.size := hNwz.lt
        generalize wq.alloc (.cells zeroO.cells.toArray 27) = wz at hNwz kwz zwz ⊢
        simp only [Act.put, sA, sS, sZ]
        refine t_setS (o := ⟨none, _, _, _, _, _⟩) 27 wq.heap.size 27 zeroO.cells e.cells (.tmp 13) (.tmp 87) rfl rfl rfl (by kernel_rfl) (by kernel_rfl) (hNwz) (by rw [Ord.len9]; exact ord_size) (by rw [Ord.len9, Ord.len9]) (Ord.one1 _) ?_
        intro ws hCws hkws
        refine ⟨hSq.new (Keep.any kwz hkws) hSq.size, ?_⟩
        simp only [Act.put]
        refine t_val (o := ⟨some 14, _, _, _, _, _⟩) (.bool true) rfl rfl (fun u hu => exec_assign (.tmp 88) (.bool true) rfl (by kernel_rfl)) ?_
        simp only [Act.put, sA, sS, sZ]
        refine t_done ?_
        refine wpList_nil ?_
        go_wp2
        go_meet
        have zq := hSq.size
        have hlq := hMq.lt
        have Kq : Keep (· = wq.heap.size) wq ws := Keep.any kwz hkws
        case rel => exact ⟨wq.heap.size, F2, rfl, rfl, zq, hCws, hMq.keep Kq (fun b hb e => by have := hlq b hb; omega), fun h => by have := hlq _ h; omega, hGq, hSq.new Kq zq⟩
       ·skip
        have hS0 : Keep F' w6 w6.drew := Keep.drew (Keep.refl _ w6)
        refine t_new (o := ⟨some 13, _, _, _, _, _⟩) (.pointer (some ⟨w6.drew.heap.size, 0, none⟩)) (w6.drew.alloc (.cells zeroO.cells.toArray 27)) rfl rfl (exec_alc 27 zeroO.cells rfl zO) ?_ ?_
        ·exact (hS0).alloc _
        have hNwz := Blk.new w6.drew 27 zeroO.cells
        have kwz : Kept w6.drew (w6.drew.alloc (.cells zeroO.cells.toArray 27)) := (Keep.refl _ w6.drew).alloc _
        have zwz : w6.drew.heap.size < (w6.drew.alloc (.cells zeroO.cells.toArray 27)).heap.size := hNwz.lt
        generalize w6.drew.alloc (.cells zeroO.cells.toArray 27) = wz at hNwz kwz zwz ⊢
        simp only [Act.put, sA, sS, sZ]
        refine t_call (o := ⟨some 86, _, _, _, _, _⟩) 27 #[.pointer (some ⟨p, 0, none⟩), .int .i64 e.tr, .int .i64 e.id] rfl rfl (exec_call 27 _ [.tmp 75, .tmp 80, .tmp 85] _ _ Try.func27 (by kernel_rfl) (by kernel_rfl) rfl (by kernel_rfl)) ?_
        refine (mremove_any wz F' p M e.tr e.id (HM6.out.kept (Kept.trans (Keep.drew (Keep.refl _ w6)) kwz)) HI.out.inv (by omega)).mono ?_
        rintro r wq ⟨F2, rfl, hMq, hGq, hkq⟩
        rw [HR1.out] at hMq ⊢
        have hSq : Keep F' w6 wq := Keep.any (Kept.trans (Keep.drew (Keep.refl _ w6)) kwz) hkq
        refine ⟨.tuple #[e.v, .bool true], rfl, hSq, ?_⟩
        simp only [Act.put, sA, sS, sZ]
        refine t_val (o := ⟨some 74, _, _, _, _, _⟩) (.tuple #[e.v, .bool true]) rfl rfl (fun u hu => exec_move (.tmp 86) (.tuple #[e.v, .bool true]) rfl (by kernel_rfl)) ?_
        simp only [Act.put, sA, sS, sZ]
        refine t_val (o := ⟨some 87, _, _, _, _, _⟩) (e.v) rfl rfl (fun u hu => exec_extract (.tmp 74) [e.v, .bool true] 0 (e.v) rfl (by kernel_rfl) rfl) ?_
        simp only [Act.put, sA, sS, sZ]
        refine t_val (o := ⟨some 88, _, _, _, _, _⟩) (.bool true) rfl rfl (fun u hu => exec_extract (.tmp 74) [e.v, .bool true] 1 (.bool true) rfl (by kernel_rfl) rfl) ?_
        simp only [Act.put, sA, sS, sZ]
        have hdz : w6.drew.heap.size = w6.heap.size := rfl
        have hnF : ¬ F' w6.drew.heap.size := fun h => by have := HM6.out.lt _ h; omega
        have hNq := hNwz.keep hkq hnF
        have zq := hSq.size
        have hnF2 : ¬ F2 w6.drew.heap.size := fun h => (hGq _ h).elim hnF (fun h => by omega)
        refine t_setS (o := ⟨none, _, _, _, _, _⟩) 27 w6.drew.heap.size 27 zeroO.cells e.cells (.tmp 13) (.tmp 87) rfl rfl rfl (by kernel_rfl) (by kernel_rfl) (hNq) (by rw [Ord.len9]; exact ord_size) (by rw [Ord.len9, Ord.len9]) (Ord.one1 _) ?_
        intro ws hCws hkws
        refine ⟨hSq.new hkws (by omega), ?_⟩
        simp only [Act.put]
        refine t_val (o := ⟨some 14, _, _, _, _, _⟩) (.bool true) rfl rfl (fun u hu => exec_assign (.tmp 88) (.bool true) rfl (by kernel_rfl)) ?_
        simp only [Act.put, sA, sS, sZ]
        refine t_done ?_
        refine wpList_nil ?_
        go_wp2
        go_meet
        case rel => exact ⟨w6.drew.heap.size, F2, rfl, rfl, by omega, hCws, hMq.keep hkws (fun b hb e => hnF2 (by rw [← e]; exact hb)), hnF2, fun b hb => (hGq b hb).imp id (fun h => by omega), hSq.new hkws (by omega)⟩
      obtain ⟨ba, F2, rfl, rfl, hba, hC, hMc, hnb, hGc, hkc⟩ := hcut
      obtain ⟨w7, rfl⟩ : ∃ x, x = wc := ⟨_, rfl⟩
      obtain ⟨F7, rfl⟩ : ∃ x, x = F2 := ⟨_, rfl⟩
      obtain ⟨b13, rfl⟩ : ∃ x, x = ba := ⟨_, rfl⟩
      have kw7 : Kept w w7 := Keep.trans (S := fun _ => False) (T := F') kw6 hkc (fun b hb h => by have := HFw6.out b h; omega)
      have zw6 := kw6.size
      have HFw7 : Hid (∀ b, F7 b → w.heap.size ≤ b) := fun b hb => (hGc b hb).elim (HFw6.out b) (fun h => by omega)
      have HM7 := Lib.hid hMc
      have HC7 := Lib.hid hC
      have HEw7 := Lib.hid (range_keep HEw6.out hkc hga)
      have HA7 := Lib.hid (HA6.out.keep hkc (fun b hb e => HAF.out b hb e))
      have hg6 := HA6.out.lt (b := ga) rfl
      have hga7 : ¬ F7 ga := fun h => (hGc ga h).elim hga (fun h => by omega)
      have hb7 := hC.lt
      have z7 := hkc.size
      have hn7 : ¬ F7 b13 := hnb
      clear hC hMc hnb hGc hkc HM6 HA6 kw6 HEw6 HFw6 HAF
      go_upto_region 20 with fail
      go_cut [90, 91, 92, 93, 94, 95, 96, 97, 98, 99, 100, 101, 89, 102, 103, 15, 16] (fun _ _ _ _ _ _ _ _ _ _ _ _ _ _ _ ra rb wx => ∃ ba, ra = .pointer (some ⟨ba, 0, none⟩) ∧ rb = .bool false ∧ w7.heap.size ≤ ba ∧ Kept w7 wx)
      case first =>
       refine wp_tree (fun u => Kept w7 u) (.val 0 (.val 1 (.val 2 (.val 3 (.val 4 (.val 5 (.val 6 (.val 7 (.val 8 (.val 9 (.val 10 (.two 11 15 (.val 12 (.val 13 (.val 14 (.one 15 (.one 16 (.val 17 .done)))))) (.one 11 (.val 12 (.val 13 (.val 14 (.one 16 (.val 17 .done)))))))))))))))))) rfl (by kernel_rfl) (Keep.drew (Keep.refl _ w7)) ?_
       refine t_val (o := ⟨some 90, _, _, _, _, _⟩) (.pointer (some ⟨p, 0, none⟩)) rfl rfl (fun u hu => exec_move (.tmp 5) (.pointer (some ⟨p, 0, none⟩)) rfl (by kernel_rfl)) ?_
       simp only [Act.put, sA, sS, sZ]
       refine t_val (o := ⟨some 91, _, _, _, _, _⟩) (.slice (some ⟨ga, oa, none⟩) an ca) rfl rfl (fun u hu => exec_move (.tmp 7) (.slice (some ⟨ga, oa, none⟩) an ca) rfl (by kernel_rfl)) ?_
       simp only [Act.put, sA, sS, sZ]
       refine t_val (o := ⟨some 92, _, _, _, _, _⟩) (.int .i64 (kx : Int)) rfl rfl (fun u hu => exec_move (.tmp 12) (.int .i64 (kx : Int)) rfl (by kernel_rfl)) ?_
       simp only [Act.put, sA, sS, sZ]
       refine t_val (o := ⟨some 93, _, _, _, _, _⟩) (.pointer (some ⟨ga, oa + kx * 9, none⟩)) rfl rfl (fun u hu => exec_ixo slO (.tmp 91) (.tmp 92) (ga) (oa) (an) (ca) (kx) (oa + kx * 9) (kx : Int) rfl (by kernel_rfl) (by kernel_rfl) rfl (hkn) (by first | rfl | omega)) ?_
       simp only [Act.put, sA, sS, sZ]
       refine t_val (o := ⟨some 94, _, _, _, _, _⟩) (.pointer (some ⟨ga, oa + kx * 9 + 0, none⟩)) rfl rfl (fun u hu => exec_fldo 27 0 0 (.tmp 93) (ga) (oa + kx * 9) (oa + kx * 9 + 0) rfl (by kernel_rfl) (by kernel_rfl) rfl) ?_
       simp only [Act.put, sA, sS, sZ]
       refine t_val (o := ⟨some 95, _, _, _, _, _⟩) (.int .i64 (e.tr)) rfl rfl (fun u hu => exec_loadi 3 Try.underlying3 (.tmp 94) ⟨ga, oa + kx * 9 + 0, none⟩ (.int .i64 (e.tr)) rfl (by kernel_rfl) (range_int (range_kept HEw7.out hu) 0 _ rfl)) ?_
       simp only [Act.put, sA, sS, sZ]
       refine t_val (o := ⟨some 96, _, _, _, _, _⟩) (.slice (some ⟨ga, oa, none⟩) an ca) rfl rfl (fun u hu => exec_move (.tmp 7) (.slice (some ⟨ga, oa, none⟩) an ca) rfl (by kernel_rfl)) ?_
       simp only [Act.put, sA, sS, sZ]
       refine t_val (o := ⟨some 97, _, _, _, _, _⟩) (.int .i64 (kx : Int)) rfl rfl (fun u hu => exec_move (.tmp 12) (.int .i64 (kx : Int)) rfl (by kernel_rfl)) ?_
       simp only [Act.put, sA, sS, sZ]
       refine t_val (o := ⟨some 98, _, _, _, _, _⟩) (.pointer (some ⟨ga, oa + kx * 9, none⟩)) rfl rfl (fun u hu => exec_ixo slO (.tmp 96) (.tmp 97) (ga) (oa) (an) (ca) (kx) (oa + kx * 9) (kx : Int) rfl (by kernel_rfl) (by kernel_rfl) rfl (hkn) (by first | rfl | omega)) ?_
       simp only [Act.put, sA, sS, sZ]
       refine t_val (o := ⟨some 99, _, _, _, _, _⟩) (.pointer (some ⟨ga, oa + kx * 9 + 1, none⟩)) rfl rfl (fun u hu => exec_fldo 27 1 1 (.tmp 98) (ga) (oa + kx * 9) (oa + kx * 9 + 1) rfl (by kernel_rfl) (by kernel_rfl) rfl) ?_
       simp only [Act.put, sA, sS, sZ]
       refine t_val (o := ⟨some 100, _, _, _, _, _⟩) (.int .i64 (e.id)) rfl rfl (fun u hu => exec_loadi 3 Try.underlying3 (.tmp 99) ⟨ga, oa + kx * 9 + 1, none⟩ (.int .i64 (e.id)) rfl (by kernel_rfl) (range_int (range_kept HEw7.out hu) 1 _ rfl)) ?_
       simp only [Act.put, sA, sS, sZ]
       refine ⟨?_, ?_⟩
       ·skip
        refine t_call (o := ⟨some 101, _, _, _, _, _⟩) 25 #[.pointer (some ⟨p, 0, none⟩), .int .i64 e.tr, .int .i64 e.id] rfl rfl (exec_call 25 _ [.tmp 90, .tmp 95, .tmp 100] _ _ Try.func25 (by kernel_rfl) (by kernel_rfl) rfl (by kernel_rfl)) ?_
        have hFd := mfind_any w7.drew F7 p M2 e.tr e.id (HM7.out.kept (Keep.drew (Keep.refl _ w7))) HI2.out.inv (by omega)
        rw [HF2.out] at hFd
        refine hFd.mono ?_
        rintro r wq ⟨_, rfl, rfl, hkq⟩
        have hSq : Kept w7 wq := Kept.trans (Keep.drew (Keep.refl _ w7)) hkq
        refine ⟨.tuple #[zeroO.v, .bool false], rfl, hSq, ?_⟩
        simp only [Act.put, sA, sS, sZ]
        refine t_val (o := ⟨some 89, _, _, _, _, _⟩) (.tuple #[zeroO.v, .bool false]) rfl rfl (fun u hu => exec_move (.tmp 101) (.tuple #[zeroO.v, .bool false]) rfl (by kernel_rfl)) ?_
        simp only [Act.put, sA, sS, sZ]
        refine t_val (o := ⟨some 102, _, _, _, _, _⟩) (zeroO.v) rfl rfl (fun u hu => exec_extract (.tmp 89) [zeroO.v, .bool false] 0 (zeroO.v) rfl (by kernel_rfl) rfl) ?_
        simp only [Act.put, sA, sS, sZ]
        refine t_val (o := ⟨some 103, _, _, _, _, _⟩) (.bool false) rfl rfl (fun u hu => exec_extract (.tmp 89) [zeroO.v, .bool false] 1 (.bool false) rfl (by kernel_rfl) rfl) ?_
        simp only [Act.put, sA, sS, sZ]
        refine t_new (o := ⟨some 15, _, _, _, _, _⟩) (.pointer (some ⟨wq.heap.size, 0, none⟩)) (wq.alloc (.cells zeroO.cells.toArray 27)) rfl rfl (exec_alc 27 zeroO.cells rfl zO) ?_ ?_
        ·exact (hSq).alloc _
        have hNwz := Blk.new wq 27 zeroO.cells
        have kwz : Kept wq (wq.alloc (.cells zeroO.cells.toArray 27)) := (Keep.refl _ wq).alloc _
        have zwz : wq.heap.size < (wq.alloc (.cells zeroO.cells.toArray 27)).heap.size := hNwz.lt
        generalize wq.alloc (.cells zeroO.cells.toArray 27) = wz at hNwz kwz zwz ⊢
        simp only [Act.put, sA, sS, sZ]
        refine t_setS (o := ⟨none, _, _, _, _, _⟩) 27 wq.heap.size 27 zeroO.cells zeroO.cells (.tmp 15) (.tmp 102) rfl rfl rfl (by kernel_rfl) (by kernel_rfl) (hNwz) (by rw [Ord.len9]; exact ord_size) rfl (Ord.one1 _) ?_
        intro ws hCws hkws
        refine ⟨hSq.trans (kwz.trans' hkws (by omega)), ?_⟩
        simp only [Act.put]
        refine t_val (o := ⟨some 16, _, _, _, _, _⟩) (.bool false) rfl rfl (fun u hu => exec_assign (.tmp 103) (.bool false) rfl (by kernel_rfl)) ?_
        simp only [Act.put, sA, sS, sZ]
        refine t_done ?_
        refine wpList_nil ?_
        go_wp2
        go_meet
        case rel => exact ⟨_, rfl, rfl, hSq.size, hSq.trans (kwz.trans' hkws (by omega))⟩
       ·skip
        have hS0 : Kept w7 w7.drew := Keep.drew (Keep.refl _ w7)
        refine t_new (o := ⟨some 15, _, _, _, _, _⟩) (.pointer (some ⟨w7.drew.heap.size, 0, none⟩)) (w7.drew.alloc (.cells zeroO.cells.toArray 27)) rfl rfl (exec_alc 27 zeroO.cells rfl zO) ?_ ?_
        ·exact (hS0).alloc _
        have hNwz := Blk.new w7.drew 27 zeroO.cells
        have kwz : Kept w7.drew (w7.drew.alloc (.cells zeroO.cells.toArray 27)) := (Keep.refl _ w7.drew).alloc _
        have zwz : w7.drew.heap.size < (w7.drew.alloc (.cells zeroO.cells.toArray 27)).heap.size := hNwz.lt
        generalize w7.drew.alloc (.cells zeroO.cells.toArray 27) = wz at hNwz kwz zwz ⊢
        simp only [Act.put, sA, sS, sZ]
        have hSz : Kept w7 wz := Kept.trans hS0 kwz
        refine t_call (o := ⟨some 101, _, _, _, _, _⟩) 25 #[.pointer (some ⟨p, 0, none⟩), .int .i64 e.tr, .int .i64 e.id] rfl rfl (exec_call 25 _ [.tmp 90, .tmp 95, .tmp 100] _ _ Try.func25 (by kernel_rfl) (by kernel_rfl) rfl (by kernel_rfl)) ?_
        have hFd := mfind_any wz F7 p M2 e.tr e.id (HM7.out.kept hSz) HI2.out.inv (by omega)
        rw [HF2.out] at hFd
        refine hFd.mono ?_
        rintro r wq ⟨_, rfl, rfl, hkq⟩
        have hSq : Kept w7 wq := Kept.trans hSz hkq
        refine ⟨.tuple #[zeroO.v, .bool false], rfl, hSq, ?_⟩
        simp only [Act.put, sA, sS, sZ]
        refine t_val (o := ⟨some 89, _, _, _, _, _⟩) (.tuple #[zeroO.v, .bool false]) rfl rfl (fun u hu => exec_move (.tmp 101) (.tuple #[zeroO.v, .bool false]) rfl (by kernel_rfl)) ?_
        simp only [Act.put, sA, sS, sZ]
        refine t_val (o := ⟨some 102, _, _, _, _, _⟩) (zeroO.v) rfl rfl (fun u hu => exec_extract (.tmp 89) [zeroO.v, .bool false] 0 (zeroO.v) rfl (by kernel_rfl) rfl) ?_
        simp only [Act.put, sA, sS, sZ]
        refine t_val (o := ⟨some 103, _, _, _, _, _⟩) (.bool false) rfl rfl (fun u hu => exec_extract (.tmp 89) [zeroO.v, .bool false] 1 (.bool false) rfl (by kernel_rfl) rfl) ?_
        simp only [Act.put, sA, sS, sZ]
        refine t_setS (o := ⟨none, _, _, _, _, _⟩) 27 w7.drew.heap.size 27 zeroO.cells zeroO.cells (.tmp 15) (.tmp 102) rfl rfl rfl (by kernel_rfl) (by kernel_rfl) (hNwz.kept hkq) (by rw [Ord.len9]; exact ord_size) rfl (Ord.one1 _) ?_
        intro ws hCws hkws
        refine ⟨hSq.trans' hkws (by have : w7.drew.heap.size = w7.heap.size := rfl; omega), ?_⟩
        simp only [Act.put]
        refine t_val (o := ⟨some 16, _, _, _, _, _⟩) (.bool false) rfl rfl (fun u hu => exec_assign (.tmp 103) (.bool false) rfl (by kernel_rfl)) ?_
        simp only [Act.put, sA, sS, sZ]
        refine t_done ?_
        refine wpList_nil ?_
        go_wp2
        go_meet
        case rel => exact ⟨_, rfl, rfl, Nat.le_refl _, hSq.trans' hkws (by have : w7.drew.heap.size = w7.heap.size := rfl; omega)⟩
      obtain ⟨ba, rfl, rfl, hba, hkc⟩ := hcut
      obtain ⟨w9, rfl⟩ : ∃ x, x = wc := ⟨_, rfl⟩
      have k79 := hkc
      have HM9 := Lib.hid (HM7.out.kept k79)
      have HC9 := Lib.hid (HC7.out.kept k79)
      have HEw9 := Lib.hid (range_kept HEw7.out k79)
      have HA9 := Lib.hid (HA7.out.kept k79)
      have kw9 := kw7.trans k79
      have zw9 := kw9.size
      clear hkc hba k79 HM7 HC7 HEw7 HA7 kw7
      go_upto_region 21 with fail
      go_cut [105, 106, 107, 108, 109, 110, 111, 112, 113, 114, 115, 116, 104, 117, 118, 17, 18] (fun _ _ _ _ _ _ _ _ _ _ _ _ _ _ _ ra rb wx => ∃ ba F2, ra = .pointer (some ⟨ba, 0, none⟩) ∧ rb = .bool false ∧ w9.heap.size ≤ ba ∧ Blk wx ba 27 zeroO.cells ∧ Mk wx F2 p M2 ∧ ¬ F2 ba ∧ Grow w9 F7 F2 ∧ Keep F7 w9 wx)
      case first =>
       refine wp_tree (fun u => Keep F7 w9 u) (.val 0 (.val 1 (.val 2 (.val 3 (.val 4 (.val 5 (.val 6 (.val 7 (.val 8 (.val 9 (.val 10 (.two 11 15 (.val 12 (.val 13 (.val 14 (.one 15 (.one 16 (.val 17 .done)))))) (.one 11 (.val 12 (.val 13 (.val 14 (.one 16 (.val 17 .done)))))))))))))))))) rfl (by kernel_rfl) (Keep.drew (Keep.refl _ w9)) ?_
       refine t_val (o := ⟨some 105, _, _, _, _, _⟩) (.pointer (some ⟨p, 0, none⟩)) rfl rfl (fun u hu => exec_move (.tmp 5) (.pointer (some ⟨p, 0, none⟩)) rfl (by kernel_rfl)) ?_
       simp only [Act.put, sA, sS, sZ]
       refine t_val (o := ⟨some 106, _, _, _, _, _⟩) (.slice (some ⟨ga, oa, none⟩) an ca) rfl rfl (fun u hu => exec_move (.tmp 7) (.slice (some ⟨ga, oa, none⟩) an ca) rfl (by kernel_rfl)) ?_
       simp only [Act.put, sA, sS, sZ]
       refine t_val (o := ⟨some 107, _, _, _, _, _⟩) (.int .i64 (kx : Int)) rfl rfl (fun u hu => exec_move (.tmp 12) (.int .i64 (kx : Int)) rfl (by kernel_rfl)) ?_
       simp only [Act.put, sA, sS, sZ]
       refine t_val (o := ⟨some 108, _, _, _, _, _⟩) (.pointer (some ⟨ga, oa + kx * 9, none⟩)) rfl rfl (fun u hu => exec_ixo slO (.tmp 106) (.tmp 107) (ga) (oa) (an) (ca) (kx) (oa + kx * 9) (kx : Int) rfl (by kernel_rfl) (by kernel_rfl) rfl (hkn) (by first | rfl | omega)) ?_
       simp only [Act.put, sA, sS, sZ]
       refine t_val (o := ⟨some 109, _, _, _, _, _⟩) (.pointer (some ⟨ga, oa + kx * 9 + 0, none⟩)) rfl rfl (fun u hu => exec_fldo 27 0 0 (.tmp 108) (ga) (oa + kx * 9) (oa + kx * 9 + 0) rfl (by kernel_rfl) (by kernel_rfl) rfl) ?_
       simp only [Act.put, sA, sS, sZ]
       refine t_val (o := ⟨some 110, _, _, _, _, _⟩) (.int .i64 (e.tr)) rfl rfl (fun u hu => exec_loadi 3 Try.underlying3 (.tmp 109) ⟨ga, oa + kx * 9 + 0, none⟩ (.int .i64 (e.tr)) rfl (by kernel_rfl) (range_int (range_keep HEw9.out hu hga7) 0 _ rfl)) ?_
       simp only [Act.put, sA, sS, sZ]
       refine t_val (o := ⟨some 111, _, _, _, _, _⟩) (.slice (some ⟨ga, oa, none⟩) an ca) rfl rfl (fun u hu => exec_move (.tmp 7) (.slice (some ⟨ga, oa, none⟩) an ca) rfl (by kernel_rfl)) ?_
       simp only [Act.put, sA, sS, sZ]
       refine t_val (o := ⟨some 112, _, _, _, _, _⟩) (.int .i64 (kx : Int)) rfl rfl (fun u hu => exec_move (.tmp 12) (.int .i64 (kx : Int)) rfl (by kernel_rfl)) ?_
       simp only [Act.put, sA, sS, sZ]
       refine t_val (o := ⟨some 113, _, _, _, _, _⟩) (.pointer (some ⟨ga, oa + kx * 9, none⟩)) rfl rfl (fun u hu => exec_ixo slO (.tmp 111) (.tmp 112) (ga) (oa) (an) (ca) (kx) (oa + kx * 9) (kx : Int) rfl (by kernel_rfl) (by kernel_rfl) rfl (hkn) (by first | rfl | omega)) ?_
       simp only [Act.put, sA, sS, sZ]
       refine t_val (o := ⟨some 114, _, _, _, _, _⟩) (.pointer (some ⟨ga, oa + kx * 9 + 1, none⟩)) rfl rfl (fun u hu => exec_fldo 27 1 1 (.tmp 113) (ga) (oa + kx * 9) (oa + kx * 9 + 1) rfl (by kernel_rfl) (by kernel_rfl) rfl) ?_
       simp only [Act.put, sA, sS, sZ]
       refine t_val (o := ⟨some 115, _, _, _, _, _⟩) (.int .i64 (e.id)) rfl rfl (fun u hu => exec_loadi 3 Try.underlying3 (.tmp 114) ⟨ga, oa + kx * 9 + 1, none⟩ (.int .i64 (e.id)) rfl (by kernel_rfl) (range_int (range_keep HEw9.out hu hga7) 1 _ rfl)) ?_
       simp only [Act.put, sA, sS, sZ]
       refine ⟨?_, ?_⟩
       ·skip
        refine t_call (o := ⟨some 116, _, _, _, _, _⟩) 27 #[.pointer (some ⟨p, 0, none⟩), .int .i64 e.tr, .int .i64 e.id] rfl rfl (exec_call 27 _ [.tmp 105, .tmp 110, .tmp 115] _ _ Try.func27 (by kernel_rfl) (by kernel_rfl) rfl (by kernel_rfl)) ?_
        refine (mremove_any w9.drew F7 p M2 e.tr e.id (HM9.out.kept (Keep.drew (Keep.refl _ w9))) HI2.out.inv (by omega)).mono ?_
        rintro r wq ⟨F2, rfl, hMq, hGq, hkq⟩
        rw [HR2.out] at hMq ⊢
        have hSq : Keep F7 w9 wq := Keep.undrew hkq
        refine ⟨.tuple #[zeroO.v, .bool false], rfl, hSq, ?_⟩
        simp only [Act.put, sA, sS, sZ]
        refine t_val (o := ⟨some 104, _, _, _, _, _⟩) (.tuple #[zeroO.v, .bool false]) rfl rfl (fun u hu => exec_move (.tmp 116) (.tuple #[zeroO.v, .bool false]) rfl (by kernel_rfl)) ?_
        simp only [Act.put, sA, sS, sZ]
        refine t_val (o := ⟨some 117, _, _, _, _, _⟩) (zeroO.v) rfl rfl (fun u hu => exec_extract (.tmp 104) [zeroO.v, .bool false] 0 (zeroO.v) rfl (by kernel_rfl) rfl) ?_
        simp only [Act.put, sA, sS, sZ]
        refine t_val (o := ⟨some 118, _, _, _, _, _⟩) (.bool false) rfl rfl (fun u hu => exec_extract (.tmp 104) [zeroO.v, .bool false] 1 (.bool false) rfl (by kernel_rfl) rfl) ?_
        simp only [Act.put, sA, sS, sZ]
        refine t_new (o := ⟨some 17, _, _, _, _, _⟩) (.pointer (some ⟨wq.heap.size, 0, none⟩)) (wq.alloc (.cells zeroO.cells.toArray 27)) rfl rfl (exec_alc 27 zeroO.cells rfl zO) ?_ ?_
        ·exact (hSq).alloc _
        have hNwz := Blk.new wq 27 zeroO.cells
        have kwz : Kept wq (wq.alloc (.cells zeroO.cells.toArray 27)) := (Keep.refl _ wq).alloc _
        have zwz : wq.heap.size < (wq.alloc (.cells zeroO.cells.toArray 27)).heap.size := hNwz.lt
        generalize wq.alloc (.cells zeroO.cells.toArray 27) = wz at hNwz kwz zwz ⊢
        simp only [Act.put, sA, sS, sZ]
        refine t_setS (o := ⟨none, _, _, _, _, _⟩) 27 wq.heap.size 27 zeroO.cells zeroO.cells (.tmp 17) (.tmp 117) rfl rfl rfl (by kernel_rfl) (by kernel_rfl) (hNwz) (by rw [Ord.len9]; exact ord_size) rfl (Ord.one1 _) ?_
        intro ws hCws hkws
        refine ⟨hSq.new (Keep.any kwz hkws) hSq.size, ?_⟩
        simp only [Act.put]
        refine t_val (o := ⟨some 18, _, _, _, _, _⟩) (.bool false) rfl rfl (fun u hu => exec_assign (.tmp 118) (.bool false) rfl (by kernel_rfl)) ?_
        simp only [Act.put, sA, sS, sZ]
        refine t_done ?_
        refine wpList_nil ?_
        go_wp2
        go_meet
        have zq := hSq.size
        have hlq := hMq.lt
        have Kq : Keep (· = wq.heap.size) wq ws := Keep.any kwz hkws
        case rel => exact ⟨wq.heap.size, F2, rfl, rfl, zq, hCws, hMq.keep Kq (fun b hb e => by have := hlq b hb; omega), fun h => by have := hlq _ h; omega, hGq, hSq.new Kq zq⟩
       ·skip
        have hS0 : Keep F7 w9 w9.drew := Keep.drew (Keep.refl _ w9)
        refine t_new (o := ⟨some 17, _, _, _, _, _⟩) (.pointer (some ⟨w9.drew.heap.size, 0, none⟩)) (w9.drew.alloc (.cells zeroO.cells.toArray 27)) rfl rfl (exec_alc 27 zeroO.cells rfl zO) ?_ ?_
        ·exact (hS0).alloc _
        have hNwz := Blk.new w9.drew 27 zeroO.cells
        have kwz : Kept w9.drew (w9.drew.alloc (.cells zeroO.cells.toArray 27)) := (Keep.refl _ w9.drew).alloc _
        have zwz : w9.drew.heap.size < (w9.drew.alloc (.cells zeroO.cells.toArray 27)).heap.size := hNwz.lt
        generalize w9.drew.alloc (.cells zeroO.cells.toArray 27) = wz at hNwz kwz zwz ⊢
        simp only [Act.put, sA, sS, sZ]
        refine t_call (o := ⟨some 116, _, _, _, _, _⟩) 27 #[.pointer (some ⟨p, 0, none⟩), .int .i64 e.tr, .int .i64 e.id] rfl rfl (exec_call 27 _ [.tmp 105, .tmp 110, .tmp 115] _ _ Try.func27 (by kernel_rfl) (by kernel_rfl) rfl (by kernel_rfl)) ?_
        refine (mremove_any wz F7 p M2 e.tr e.id (HM9.out.kept (Kept.trans (Keep.drew (Keep.refl _ w9)) kwz)) HI2.out.inv (by omega)).mono ?_
        rintro r wq ⟨F2, rfl, hMq, hGq, hkq⟩
        rw [HR2.out] at hMq ⊢
        have hSq : Keep F7 w9 wq := Keep.any (Kept.trans (Keep.drew (Keep.refl _ w9)) kwz) hkq
        refine ⟨.tuple #[zeroO.v, .bool false], rfl, hSq, ?_⟩
        simp only [Act.put, sA, sS, sZ]
        refine t_val (o := ⟨some 104, _, _, _, _, _⟩) (.tuple #[zeroO.v, .bool false]) rfl rfl (fun u hu => exec_move (.tmp 116) (.tuple #[zeroO.v, .bool false]) rfl (by kernel_rfl)) ?_
        simp only [Act.put, sA, sS, sZ]
        refine t_val (o := ⟨some 117, _, _, _, _, _⟩) (zeroO.v) rfl rfl (fun u hu => exec_extract (.tmp 104) [zeroO.v, .bool false] 0 (zeroO.v) rfl (by kernel_rfl) rfl) ?_
        simp only [Act.put, sA, sS, sZ]
        refine t_val (o := ⟨some 118, _, _, _, _, _⟩) (.bool false) rfl rfl (fun u hu => exec_extract (.tmp 104) [zeroO.v, .bool false] 1 (.bool false) rfl (by kernel_rfl) rfl) ?_
        simp only [Act.put, sA, sS, sZ]
        have hdz : w9.drew.heap.size = w9.heap.size := rfl
        have hnF : ¬ F7 w9.drew.heap.size := fun h => by have := HM9.out.lt _ h; omega
        have hNq := hNwz.keep hkq hnF
        have zq := hSq.size
        have hnF2 : ¬ F2 w9.drew.heap.size := fun h => (hGq _ h).elim hnF (fun h => by omega)
        refine t_setS (o := ⟨none, _, _, _, _, _⟩) 27 w9.drew.heap.size 27 zeroO.cells zeroO.cells (.tmp 17) (.tmp 117) rfl rfl rfl (by kernel_rfl) (by kernel_rfl) (hNq) (by rw [Ord.len9]; exact ord_size) rfl (Ord.one1 _) ?_
        intro ws hCws hkws
        refine ⟨hSq.new hkws (by omega), ?_⟩
        simp only [Act.put]
        refine t_val (o := ⟨some 18, _, _, _, _, _⟩) (.bool false) rfl rfl (fun u hu => exec_assign (.tmp 118) (.bool false) rfl (by kernel_rfl)) ?_
        simp only [Act.put, sA, sS, sZ]
        refine t_done ?_
        refine wpList_nil ?_
        go_wp2
        go_meet
        case rel => exact ⟨w9.drew.heap.size, F2, rfl, rfl, by omega, hCws, hMq.keep hkws (fun b hb e => hnF2 (by rw [← e]; exact hb)), hnF2, fun b hb => (hGq b hb).imp id (fun h => by omega), hSq.new hkws (by omega)⟩
      obtain ⟨ba, F2, rfl, rfl, hba, hC, hMc, hnb, hGc, hkc⟩ := hcut
      obtain ⟨wA, rfl⟩ : ∃ x, x = wc := ⟨_, rfl⟩
      obtain ⟨FA, rfl⟩ : ∃ x, x = F2 := ⟨_, rfl⟩
      have kwA : Kept w wA := Keep.trans (S := fun _ => False) (T := F7) kw9 hkc (fun b hb h => by have := HFw7.out b h; omega)
      have HMA := Lib.hid hMc
      have HCA := Lib.hid (HC9.out.keep hkc hn7)
      have HEA := Lib.hid (range_keep HEw9.out hkc hga7)
      have HAA := Lib.hid (HA9.out.keep hkc (fun b hb e => hga7 (by simp [Value.ownBlock] at hb; rw [hb]; exact e)))
      clear hC hMc hnb hGc hkc HM9 HC9 HEw9 HA9 kw9 HFw7
      obtain ⟨va, hva, hoa, hsa⟩ := slice_hS slO _ an kx (by omega) _ wA HAA.out
      obtain ⟨vb, hvb, hob, hsb⟩ := slice_lS slO _ an (kx + 1) (by omega) _ wA HAA.out
      have HVA := Lib.hid hva
      have HVB := Lib.hid hvb
      have hgAl := HAA.out.lt (b := ga) rfl
      have HSA : Hid (∀ u, Keep (fun b => wA.heap.size ≤ b) wA u → Sl u 27 9 va kx (ords (M.all.take kx))) := fun u hk => by
       have := hsa u _ (HAA.out.keep hk (fun b hb e => by simp [Value.ownBlock] at hb; omega))
       rw [show (ords M.all).take (kx * 9) = ords (M.all.take kx) from flat_take Ord.cells 9 Ord.len9 _ kx] at this
       exact this
      have HSB : Hid (∀ u, Keep (fun b => wA.heap.size ≤ b) wA u → Sl u 27 9 vb (an - (kx + 1)) (ords (M.all.drop (kx + 1)))) := fun u hk => by
       have := hsb u _ (HAA.out.keep hk (fun b hb e => by simp [Value.ownBlock] at hb; omega))
       rw [show (ords M.all).drop ((kx + 1) * 9) = ords (M.all.drop (kx + 1)) from flat_drop Ord.cells 9 Ord.len9 _ (kx + 1)] at this
       exact this
      have hcast : ((kx + 1 : Nat) : Int) = (kx : Int) + 1 := by omega
      rw [hcast] at HVB
      clear hva hoa hsa hvb hob hsb
      go_upto_region 22 with fail
      refine wp_tree (fun u => Keep (fun b => wA.heap.size ≤ b) wA u) (.val 1 (.val 2 (.val 3 (.val 5 (.val 6 (.val 7 (.val 8 (.one 0 (.one 4 (.one 9 (.val 10 .done))))))))))) rfl (by kernel_rfl) (Keep.drew (Keep.refl _ wA)) ?_
      refine t_val (o := ⟨some 120, _, _, _, _, _⟩) (.slice (some ⟨ga, oa, none⟩) an ca) rfl rfl (fun u hu => exec_move (.tmp 7) (.slice (some ⟨ga, oa, none⟩) an ca) rfl (by kernel_rfl)) ?_
      simp only [Act.put, sA, sS, sZ]
      refine t_val (o := ⟨some 121, _, _, _, _, _⟩) (.int .i64 (kx : Int)) rfl rfl (fun u hu => exec_move (.tmp 12) (.int .i64 (kx : Int)) rfl (by kernel_rfl)) ?_
      simp only [Act.put, sA, sS, sZ]
      refine t_val (o := ⟨some 122, _, _, _, _, _⟩) (va) rfl rfl (fun u hu => exec_slcH slO (.tmp 120) (.tmp 121) _ va _ rfl (by kernel_rfl) (by kernel_rfl) (HVA.out u)) ?_
      simp only [Act.put, sA, sS, sZ]
      refine t_val (o := ⟨some 124, _, _, _, _, _⟩) (.slice (some ⟨ga, oa, none⟩) an ca) rfl rfl (fun u hu => exec_move (.tmp 7) (.slice (some ⟨ga, oa, none⟩) an ca) rfl (by kernel_rfl)) ?_
      simp only [Act.put, sA, sS, sZ]
      refine t_val (o := ⟨some 125, _, _, _, _, _⟩) (.int .i64 (kx : Int)) rfl rfl (fun u hu => exec_move (.tmp 12) (.int .i64 (kx : Int)) rfl (by kernel_rfl)) ?_
      simp only [Act.put, sA, sS, sZ]
      refine t_val (o := ⟨some 126, _, _, _, _, _⟩) (.int .i64 ((kx : Int) + 1)) rfl rfl (fun u hu => exec_addn (p := (kx : Int)) (q := 1) ((kx : Int) + 1) rfl (by kernel_rfl) rfl rfl (by omega) (by omega)) ?_
      simp only [Act.put, sA, sS, sZ]
      refine t_val (o := ⟨some 127, _, _, _, _, _⟩) (vb) rfl rfl (fun u hu => exec_slcL slO (.tmp 124) (.tmp 126) _ vb _ rfl (by kernel_rfl) (by kernel_rfl) (HVB.out u)) ?_
      simp only [Act.put, sA, sS, sZ]
      refine t_new (o := ⟨some 119, _, _, _, _, _⟩) (.slice (some ⟨wA.drew.heap.size, 0, none⟩) 0 0) (wA.drew.alloc (.cells #[] 27)) rfl rfl (exec_none 35 27 9 rfl slO.und ord_size) ?_ ?_
      ·exact (Keep.drew (Keep.refl _ wA)).alloc _
      have hEm : (Kn.emp wA.heap.size 27).p (.slice (some ⟨wA.drew.heap.size, 0, none⟩) 0 0) (wA.drew.alloc (.cells #[] 27)) := ⟨_, rfl, Nat.le_refl _, Blk.new wA.drew 27 []⟩
      have hk1 : Keep (fun b => wA.heap.size ≤ b) wA (wA.drew.alloc (.cells #[] 27)) := (Keep.drew (Keep.refl _ wA)).alloc _
      generalize hve : (Value.slice (some ⟨wA.drew.heap.size, 0, none⟩) 0 0) = ve at hEm ⊢
      generalize wA.drew.alloc (.cells #[] 27) = x1 at hEm hk1 ⊢
      simp only [Act.put, sA, sS, sZ]
      obtain ⟨v2, x2, hr2, hp2, hk2⟩ := run_append_emp slO 35 x1 ve va kx wA.heap.size _ hEm (HSA.out x1 hk1) (ords_one _) (by omega) (by omega) hk1.size
      refine t_new (o := ⟨some 123, _, _, _, _, _⟩) v2 x2 rfl rfl (exec_appS slO (.tmp 119) (.tmp 122) ve va rfl (by kernel_rfl) (by kernel_rfl) v2 x2 hr2) ?_ ?_
      ·exact hk1.kept hk2
      have hk12 : Keep (fun b => wA.heap.size ≤ b) wA x2 := hk1.kept hk2
      simp only [Act.put, sA, sS, sZ]
      obtain ⟨v3, x3, hr3, hs3, hk3, ho3⟩ := run_append_sl slO 35 x2 v2 vb kx (an - (kx + 1)) _ _ hp2.1 (HSB.out x2 hk12) (ords_one _) (by unfold maxLen; omega) (by omega)
      have hk13 : Keep (fun b => wA.heap.size ≤ b) wA x3 := hk12.trans hk3 (fun b _ e => hp2.2 b e)
      refine t_new (o := ⟨some 128, _, _, _, _, _⟩) v3 x3 rfl rfl (exec_appS slO (.tmp 123) (.tmp 127) v2 vb rfl (by kernel_rfl) (by kernel_rfl) v3 x3 hr3) hk13 ?_
      simp only [Act.put, sA, sS, sZ]
      refine t_val (o := ⟨some 19, _, _, _, _, _⟩) (v3) rfl rfl (fun u hu => exec_assign (.tmp 128) (v3) rfl (by kernel_rfl)) ?_
      simp only [Act.put, sA, sS, sZ]
      refine t_done ?_
      refine wpList_nil ?_
      have kA3 : Kept wA x3 := hk13.mono (fun b hb e => by omega)
      have HLF : Hid (Sl x3 27 9 v3 (M.all.eraseIdx kx).length (ords (M.all.eraseIdx kx))) := by
       show Sl _ _ _ _ _ _
       rw [List.length_eraseIdx, if_pos (by rw [HAN.out]; exact hkn), HAN.out, List.eraseIdx_eq_take_drop_succ]
       unfold ords at hs3 ⊢
       rw [List.flatMap_append]
       rw [show kx + (an - (kx + 1)) = an - 1 by omega] at hs3
       exact hs3
      have HMx := Lib.hid (HMA.out.kept kA3)
      have HCx := Lib.hid (blk_range (HCA.out.kept kA3))
      have HEx := Lib.hid (range_kept HEA.out kA3)
      have kwx := kwA.trans kA3
      have hml : M2.all.length ≤ 64 := by have h1 := all_len M2; have h2 := HI2.out.few; unfold Mkt.len at h1; omega
      have hel : (M.all.eraseIdx kx).length ≤ 64 := by rw [← HA2.out]; exact hml
      clear hve hEm hk1 hr2 hp2 hk2 hk12 hr3 hs3 hk3 ho3 hk13 kA3 HMA HCA HEA HAA HVA HVB HSA HSB kwA
      go_upto_region 23 with fail
      refine wF 27 [bE true, bE true, .eq (e.v), .eq (.slice (some ⟨ga, oa, none⟩) an ca), iE (kx : Int), pE ga (oa + kx * 9), .eq (e.v), bE true, bE true, bE true, bE false, bE true, bE true, bE true, bE false, bE true, bE true, bE true, pE p 0, .sl x3.heap.size 27 9 M2.all.length (ords M2.all), .eq (v3), bE true, bE true, bE true, bE true, bE true, bE true] [129,130,131,132,133,134,135,136,137,138,139,140,141,142,143,144,145,146,147,148,149,150,151,152,153,154,4] ?_ ?_
      ·refine mE 1 14 ?_
       refine mD 2 129 0 ?_
       refine sE 3 13 b13 0 e.cells Try.underlying27 (fun u hk=>range_kept HCx.out hk) (by rw [e.len9]; exact ord_size) ?_
       refine mE 4 7 ?_
       refine mE 5 12 ?_
       refine sW 6 rfl (fun a u E D hk=>exec_ixo slO _ _ (ga) (oa) an ca kx (oa + kx * 9) ((kx : Int)) rfl (dD D 3) (dD D 4) (by first | rfl | omega) (hkn) (by first | rfl | omega)) ?_
       refine sD 7 134 5 e.cells Try.underlying27 (fun u hk=>range_kept HEx.out hk) (by rw [e.len9]; exact ord_size) ?_
       refine sW 8 rfl (fun a u E D hk=>exec_eqOb' true _ _ _ e e rfl (dD D 2) (dD D 6) (by simp)) ?_
       refine pT 9 130 136 1 7 ?_
       refine mD 10 137 8 ?_
       refine mE 11 16 ?_
       refine sW 12 rfl (fun a u E D hk=>exec_not _ _ false rfl (dD D 10)) ?_
       refine pT 13 138 140 9 11 ?_
       refine mD 14 141 12 ?_
       refine mE 15 18 ?_
       refine sW 16 rfl (fun a u E D hk=>exec_not _ _ false rfl (dD D 14)) ?_
       refine pT 17 142 144 13 15 ?_
       refine mD 18 145 16 ?_
       refine mE 19 5 ?_
       refine cS 20 17 [.pointer (some ⟨p, 0, none⟩)] rfl Try.func17 rfl (fun a u E D hk=>⟨ll (dD D 18) rfl, (mall_any u FA p M2 (HMx.out.kept hk) HI2.out.inv (by omega)).base hk.size⟩) ?_
       refine mE 21 19 ?_
       refine fsteps_cons 22 rfl (fun a u hE hD hk => f_call 23 #[a.eval (.tmp 148), v3] rfl (wanted_at (b := true) true rfl rfl (dD hD 17)) (exec_call 23 _ [.tmp 148, .tmp 149] _ [a.eval (.tmp 148), v3] Try.func23 (by kernel_rfl) (by kernel_rfl) rfl (show [a.eval (.tmp 148), a.eval (.tmp 149)] = [a.eval (.tmp 148), v3] from (by rw [show a.eval (.tmp 149) = v3 from (dD hD 20)] <;> rfl)) u) ((by have h := sameO_any (a.eval (.tmp 148)) v3 0 0 M2.all (M.all.eraseIdx kx) u (hD 19 148 (by kernel_rfl)).1 (HLF.out.kept hk) (by omega) (by omega); rw [decide_eq_true HA2.out] at h; exact h))) ?_
       refine pT 23 146 150 17 21 ?_
       refine mD 24 151 22 ?_
       refine cS 25 3 [] rfl Try.func3 rfl (fun a u E D hk=>⟨rfl, sruns_gives u⟩) ?_
       refine pT 26 152 153 23 24 ?_
       refine mD 27 154 25 ?_
       exact fz
      intro gv wz hV kz
      simp only [Fz7]
      rw [gQ hV 26 4 (.bool true)]
      clear hV
      go_wp2
      go_ret
      exact ⟨rfl, kwx.trans kz⟩
end Go.Proofs.Ytlbeibapbkccfaa
