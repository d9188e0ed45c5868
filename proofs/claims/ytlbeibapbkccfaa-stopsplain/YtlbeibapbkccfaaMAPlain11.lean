/-
 The walk of StopsPlain. No condition.
-/
import Derived.Test.YtlbeibapbkccfaaQA04
import Derived.Test.YtlbeibapbkccfaaMAQuiet11
import Derived.Test.YtlbeibapbkccfaaMATurn11
set_option linter.unusedVariables false
namespace Go.Proofs.Ytlbeibapbkccfaa
open Go.RowKit
set_option maxRecDepth 100000
theorem badd_at (w : World) (F : Nat → Prop) (p : Nat) (B : Bok) (o : Ord) (x : Oc × Bok) (hx : B.add o = x) (h : Bk w F p B) (hI : Inv B) (hn : B.no ≤ 1000000000000) : Calls Try.prog 21 #[.pointer (some ⟨p, 0, none⟩), o.v] w (AddIn w F p x) := by
 rw [← hx]
 exact badd_any w F p B o h hI hn
theorem add_refused {M : Mkt} {o : Ord} (he : M.err o ≠ 0) : M.add o = ([⟨⟨o, [], o.qty, false, false, M.err o⟩, false⟩], M) := by
 have ha : M.arrive o = (⟨⟨o, [], o.qty, false, false, M.err o⟩, false⟩, M) := by unfold Mkt.arrive; rw [if_pos he]
 unfold Mkt.add
 rw [ha]
 exact if_pos he
theorem oc_eta {o : Ord} : ∀ c : Oc, c.o = o → ({ c with o := o } : Oc) = c := fun c h => by
 cases c
 simp only at h
 rw [h]
theorem plain_add {B : Bok} {o : Ord} (hs : o.stop = 0) : (Mkt.mk B []).add o = ([⟨(B.add o).1, false⟩], ⟨(B.add o).2, []⟩) := by
 have hf : o.free = o := by
  cases o
  simp only at hs
  rw [hs]
  rfl
 have hfd : ((Mkt.mk B []).find o.tr o.id).2 = B.has o.tr o.id := by
  unfold Mkt.find Bok.has
  by_cases h : (B.find o.tr o.id).2 = true
  ·rw [if_pos h, h]
  ·rw [if_neg h]
   have h2 : (B.find o.tr o.id).2 = false := by simpa using h
   rw [h2]
   rfl
 have hw : (Mkt.mk B []).waits o = false := by unfold Mkt.waits; rw [hs]; rfl
 have hmay : (o.may = true ∧ 64 ≤ (Mkt.mk B []).len) ↔ ((o.k = 1 ∨ o.k = 5) ∧ 64 ≤ B.len) := by
  unfold Ord.may Mkt.len
  rw [hs]
  simp
 have hrefused : ∀ e, e ≠ 0 → (Mkt.mk B []).err o = e → B.err o = e → (Mkt.mk B []).add o = ([⟨(B.add o).1, false⟩], ⟨(B.add o).2, []⟩) := fun e h0 h1 h2 => by
  rw [add_refused (by rw [h1]; exact h0), add_err (by rw [h2]; exact h0), h1, h2]
 by_cases hr : o.right = true
 ·by_cases hh : B.has o.tr o.id = true
  ·exact hrefused 5 (by decide) (by unfold Mkt.err; rw [hr, if_neg (by decide), hfd, if_pos hh]) (by unfold Bok.err; rw [if_neg (fun h => h ⟨hr, hs⟩), if_pos hh])
  ·by_cases hl : (o.k = 1 ∨ o.k = 5) ∧ 64 ≤ B.len
   ·exact hrefused 4 (by decide) (by unfold Mkt.err; rw [hr, if_neg (by decide), hfd, if_neg hh, if_pos (hmay.2 hl)]) (by unfold Bok.err; rw [if_neg (fun h => h ⟨hr, hs⟩), if_neg hh, if_pos hl])
   ·have he : (Mkt.mk B []).err o = 0 := by unfold Mkt.err; rw [hr, if_neg (by decide), hfd, if_neg hh, if_neg (fun h => hl (hmay.1 h))]
    have ho : (B.add o).1.o = o := by unfold Bok.add; split <;> rfl
    have ha : (Mkt.mk B []).arrive o = (⟨(B.add o).1, false⟩, ⟨(B.add o).2, []⟩) := by
     unfold Mkt.arrive
     rw [if_neg (fun h => h he), if_neg (by rw [hw]; decide)]
     unfold Bok.enter
     rw [hf, oc_eta _ ho]
    unfold Mkt.add
    rw [ha]
    split
    ·rfl
    ·rw [cas_none rfl]
 ·have hr' : o.right = false := by simpa using hr
  exact hrefused 1 (by decide) (by unfold Mkt.err; rw [if_pos hr']) (by unfold Bok.err; rw [if_pos (fun h => hr h.1)])
theorem plain_inv (l : List Kq) : InvK ⟨fillB l, []⟩ := by
 unfold fillB
 suffices h : ∀ (l : List Kq) (B : Bok), InvK ⟨B, []⟩ → InvK ⟨l.foldl (fun B (q : Kq) => (B.add q.o).2) B, []⟩ from h l _ InvK.zero
 intro l
 induction l with
 | nil => exact fun B h => h
 | cons q l ih =>
  intro B h
  have := h.add q.o
  rw [plain_add q.right.2.1] at this
  exact ih _ this
set_option maxRecDepth 100000 in
set_option maxHeartbeats 6400000 in
theorem stopsPlain_any (v : Value) (l : List Kq) (w : World) (hl : Kqs w v l) : Calls Try.prog 5 #[v] w fun e w' => e = .returned (.bool true) ∧ Kept w w' := by
 have HA := Lib.hid hl
 obtain ⟨A, n, c, rfl, hn, hm⟩ : ∃ A n c, v = .slice A n c ∧ l.length = n ∧ n ≤ maxLen := by
  obtain ⟨A, n, c, h1, h2, _, h3, _⟩ := hl
  exact ⟨A, n, c, h1, h2, h3⟩
 clear hl
 unfold maxLen at hm
 have HN := Lib.hid hn
 clear hn
 go_enter Try.func5, Try.ntmps5
 go_upto_region 1 with fail
 refine wp_region_lit ?_
 refine l_call 9 #[] rfl (exec_call 9 _ [] _ _ Try.func9 (by kernel_rfl) (by kernel_rfl) rfl (by kernel_rfl) _) ?_
 refine (mnew_any w).mono ?_
 rintro rr w1 ⟨p, F, rfl, hM1, hG1, k1⟩
 refine ⟨_, rfl, ?_⟩
 simp only [Act.put, sA, sS, sZ]
 refine l_call 19 #[] rfl (exec_call 19 _ [] _ _ Try.func19 (by kernel_rfl) (by kernel_rfl) rfl (by kernel_rfl) _) ?_
 refine (bnew_any w1).mono ?_
 rintro rr w2 ⟨r, G, rfl, hB2, hG2, k2⟩
 refine ⟨_, rfl, ?_⟩
 simp only [Act.put, sA, sS, sZ]
 refine l_val (.pointer (some ⟨p, 0, none⟩)) rfl (exec_assign _ _ rfl (by kernel_rfl)) ?_
 simp only [Act.put, sA, sS, sZ]
 refine l_val (.pointer (some ⟨r, 0, none⟩)) rfl (exec_assign _ _ rfl (by kernel_rfl)) ?_
 simp only [Act.put, sA, sS, sZ]
 refine wpList_nil ?_
 have hFl := hM1.lt
 have hg2 : ∀ b, G b → w1.heap.size ≤ b := fun b hb => (hG2 b hb).elim (fun h => h.elim) id
 have HD2 : Hid (∀ b, F b → ¬ G b) := fun b hb hb2 => by have := hFl b hb; have := hg2 b hb2; omega
 have z1 := k1.size
 have HF2 : Hid (∀ b, F b → w.heap.size ≤ b) := fun b hb => (hG1 b hb).elim (fun h => h.elim) id
 have HG2 : Hid (∀ b, G b → w.heap.size ≤ b) := fun b hb => by have := hg2 b hb; omega
 have HM2 : Hid (Mk w2 F p ⟨fillB (l.take 0), []⟩) := by rw [List.take_zero]; exact Lib.hid (hM1.kept k2)
 have HB2 : Hid (Bk w2 G r (fillB (l.take 0))) := by rw [List.take_zero]; exact Lib.hid hB2
 have kw2 := k1.trans k2
 clear hM1 hG1 hB2 hG2 hFl hg2 k1 k2
 go_upto_region 2 with fail
 refine wT 6 [pE p 0, bE false, bE false, pE r 0, bE false, bE false] [11,12,13,14,15,16] ?_ ?_
 ·refine mE 1 3 ?_
  refine sW 2 rfl (fun a u E D hk=>exec_eqP _ _ _ ⟨p, 0, none⟩ (by kernel_rfl) rfl (dD D 0)) ?_
  refine mD 3 12 1 ?_
  refine mE 4 4 ?_
  refine sW 5 rfl (fun a u E D hk=>exec_eqP _ _ _ ⟨r, 0, none⟩ (by kernel_rfl) rfl (dD D 3)) ?_
  refine sW 6 rfl (fun a u E D hk=>exec_pickF _ _ _ _ rfl (dD D 2) (dD D 4)) ?_
  exact fz
 intro gv w3 hV k3
 simp only [Fz7]
 rw [gQ hV 5 16 (.bool false)]
 clear hV
 have HM3 := Lib.hid (HM2.out.kept k3)
 have HB3 := Lib.hid (HB2.out.kept k3)
 have kw3 := kw2.trans k3
 clear HM2 HB2 kw2 k3
 go_wp2_with fail
 go_loopw [5] (fun t wr => ∃ (i : Nat) (F' G' : Nat → Prop), t = .int .i64 (i : Int) ∧ i ≤ 50 ∧ i ≤ n ∧ Hid (Mk wr F' p ⟨fillB (l.take i), []⟩) ∧ Hid (Bk wr G' r (fillB (l.take i))) ∧ Hid (∀ b, F' b → ¬ G' b) ∧ Hid (∀ b, F' b → w.heap.size ≤ b) ∧ Hid (∀ b, G' b → w.heap.size ≤ b) ∧ Kept w wr) (fun t _ => 50 - (intOf t).toNat)
 case atStart => exact ⟨0, F, G, rfl, by omega, by omega, HM3, HB3, HD2, HF2, HG2, kw3⟩
 case round =>
  obtain ⟨i, F', G', rfl, hi, hin, HMr, HBr, HDr, HFr, HGr, hkr⟩ := hrel
  by_cases hlt : i < n ∧ i < 50
  ·obtain ⟨hin', hi20⟩ := hlt
   have hil : i < l.length := by rw [HN.out]; exact hin'
   obtain ⟨q, hq⟩ : ∃ q, l[i]? = some q := ⟨_, List.getElem?_eq_getElem hil⟩
   have HNx := Lib.hid (fillB_next l i q hq)
   have hI := fillB_inv (l.take i)
   have h2 : (l.take i).length ≤ 60 := by rw [List.length_take]; omega
   have HNo : Hid ((fillB (l.take i)).no ≤ 1000000000000) := by
    have h1 := hI.2
    show _ ≤ _
    omega
   have HNM : Hid ((fillB (l.take i)).no ≤ 900000000000) := by
    have h1 := hI.2
    show _ ≤ _
    omega
   have HI := Lib.hid hI.1
   have HIK := Lib.hid (plain_inv (l.take i))
   clear hI h2
   generalize fillB (l.take i) = B at HMr HBr HNx HNo HI HIK HNM
   obtain ⟨y, B2, hy⟩ : ∃ y B2, B.add q.o = (y, B2) := ⟨_, _, rfl⟩
   have HY := Lib.hid hy
   have HP : Hid ((Mkt.mk B []).add q.o = ([⟨y, false⟩], ⟨B2, []⟩)) := by show _ = _; rw [plain_add q.right.2.1, hy]
   have hfew : y.f.length ≤ 2000000 := by
    have h1 := (inv_add (o := q.o) HI.out).2.2
    have h0 := (inv_add (o := q.o) HI.out).2.1
    by_cases he : B.err q.o = 0
    ·have A := add_is HI.out he
     have h3 := A.no
     have h4 := A.oc
     rw [hy] at h1 h3 h4
     have h5 : y.f = (B.matched q.o).f := by rw [show y = _ from h4]
     rw [h5]
     simp only at h1 h3
     omega
    ·rw [add_err he] at hy
     injection hy with e1 e2
     rw [← e1]
     exact Nat.zero_le _
   clear hy
   obtain ⟨A', n', c', e1, _, _, _, h4⟩ := HA.out
   injection e1 with e1 e2 e3
   subst e1 e2 e3
   obtain ⟨g, off, rfl, hr⟩ := h4 i q hq
   have HE := Lib.hid (range_kept hr hkr)
   clear h4 hr hq hil
   go_upto_region 7 with fail
   refine wp_text 5 [.eq (.slice (some ⟨g, off, none⟩) n c), iE (i : Int), pE g (off + i * 7), .eq (q.v), .eq (q.o.v)] rfl (by kernel_rfl) ?_ ?_
   ·refine mE 1 0 ?_
    refine mE 2 5 ?_
    refine sW 3 rfl (fun a u E D hk=>exec_ixo slK _ _ (g) (off) n c i (off + i * 7) ((i : Int)) rfl (dD D 0) (dD D 1) (by first | rfl | omega) (hin') (by first | rfl | omega)) ?_
    refine sD 4 29 2 q.cells Try.underlying41 (fun u hk=>range_kept HE.out hk) (by rw [q.len7]; exact szK) ?_
    refine cS 5 20 [q.v] rfl Try.func20 rfl (fun a u E D hk=>⟨ll (dD D 3) rfl, korder_any q u⟩) ?_
    exact fz
   intro gv w3a hV k3a
   rw [dq 5 [27,28,29,30,31]]
   simp only [Fz7]
   rw [gQ hV 4 31 q.o.v]
   clear hV
   refine l_new (.pointer (some ⟨w3a.heap.size, 0, none⟩)) (w3a.alloc (.cells zeroO.cells.toArray 27)) rfl (exec_alc 27 zeroO.cells rfl zO) ?_
   have hNw3b := Blk.new w3a 27 zeroO.cells
   have kw3b : Kept w3a (w3a.alloc (.cells zeroO.cells.toArray 27)) := (Keep.refl _ w3a).alloc _
   generalize w3a.alloc (.cells zeroO.cells.toArray 27) = w3b at hNw3b kw3b ⊢
   simp only [Act.put, sA, sS, sZ]
   refine l_setS 27 w3a.heap.size 27 zeroO.cells q.o.cells _ _ rfl rfl (by kernel_rfl) (by kernel_rfl) (hNw3b) (by rw [Ord.len9]; exact ord_size) (by rw [Ord.len9, Ord.len9]) (Ord.one1 _) ?_
   intro w4 hCw4 hkw4 hsw4
   simp only [Act.put]
   refine wpList_nil ?_
   obtain ⟨b6, h6⟩ : ∃ a, w3a.heap.size = a := ⟨_, rfl⟩
   rw [h6] at hNw3b hCw4 hkw4 ⊢
   have z3a := k3a.size
   have kr4 : Kept wr w4 := (k3a.trans kw3b).trans' hkw4 (by omega)
   have HO4 := Lib.hid (blk_range hCw4)
   have l6 := hCw4.lt
   have HM4 := Lib.hid (HMr.out.kept kr4)
   have HB4 := Lib.hid (HBr.out.kept kr4)
   have h6F : ¬ F' b6 := fun e => by have := HMr.out.lt b6 e; omega
   have h6G : ¬ G' b6 := fun e => by have := HBr.out.lt b6 e; omega
   have kw4 := hkr.trans kr4
   have zw4 := kw4.size
   have HD4 := HDr
   have HGl : Hid (∀ b, G' b → b < w4.heap.size) := HB4.out.lt
   clear hNw3b hCw4 hkw4 hsw4 kw3b k3a kr4 HMr HBr HDr HE hkr
   go_upto_region 8 with fail
   go_cut [32, 33, 34, 35, 36, 37, 7, 8] (fun _ _ _ _ _ _ r7 r8 wx => ∃ v1 Z F2 G2 b8 vf, r7 = v1 ∧ r8 = .pointer (some ⟨b8, 0, none⟩) ∧ Mk wx F2 p ⟨B2, []⟩ ∧ Outs wx w4.heap.size F2 v1 [⟨y, false⟩] Z ∧ Bk wx G2 r B2 ∧ Sl wx 34 21 vf y.f.length (fls y.f) ∧ Blk wx b8 32 (y.cells vf) ∧ (∀ b, F2 b → F' b ∨ w4.heap.size ≤ b) ∧ (∀ b, G2 b → G' b ∨ w4.heap.size ≤ b) ∧ (∀ b, F2 b → ¬ G2 b) ∧ Keep (Both F' G') w4 wx)
   case first =>
    refine wp_tree (fun u => Keep (Both F' G') w4 u) (.val 0 (.val 1 (.val 3 (.val 4 (.two 2 6 (.two 5 6 (.one 6 (.val 7 (.one 8 .done))) (.one 5 (.val 7 (.one 8 .done)))) (.one 2 (.one 5 (.val 7 (.one 8 .done))))))))) rfl (by kernel_rfl) (Keep.drew (Keep.refl _ w4)) ?_
    refine t_val (o := ⟨some 32, _, _, _, _, _⟩) (.pointer (some ⟨p, 0, none⟩)) rfl rfl (fun u hu => exec_move (.tmp 3) (.pointer (some ⟨p, 0, none⟩)) rfl (by kernel_rfl)) ?_
    simp only [Act.put, sA, sS, sZ]
    refine t_val (o := ⟨some 33, _, _, _, _, _⟩) (q.o.v) rfl rfl (fun u hu => exec_ldS 27 _ (.tmp 6) (b6) (0) q.o.cells rfl (by kernel_rfl) (range_keep HO4.out hu (fun h => h.elim h6F h6G)) Try.underlying27 (by rw [Ord.len9]; exact ord_size)) ?_
    simp only [Act.put, sA, sS, sZ]
    refine t_val (o := ⟨some 35, _, _, _, _, _⟩) (.pointer (some ⟨r, 0, none⟩)) rfl rfl (fun u hu => exec_move (.tmp 4) (.pointer (some ⟨r, 0, none⟩)) rfl (by kernel_rfl)) ?_
    simp only [Act.put, sA, sS, sZ]
    refine t_val (o := ⟨some 36, _, _, _, _, _⟩) (q.o.v) rfl rfl (fun u hu => exec_ldS 27 _ (.tmp 6) (b6) (0) q.o.cells rfl (by kernel_rfl) (range_keep HO4.out hu (fun h => h.elim h6F h6G)) Try.underlying27 (by rw [Ord.len9]; exact ord_size)) ?_
    simp only [Act.put, sA, sS, sZ]
    refine ⟨?_, ?_⟩
    ·skip
     refine t_call (o := ⟨some 34, _, _, _, _, _⟩) 10 #[.pointer (some ⟨p, 0, none⟩), q.o.v] rfl rfl (exec_call 10 _ [.tmp 32, .tmp 33] _ _ Try.func10 (by kernel_rfl) (by kernel_rfl) rfl (by kernel_rfl)) ?_
     refine (madd_at w4.drew F' p ⟨B, []⟩ q.o _ HP.out (HM4.out.kept (Keep.drew (Keep.refl _ w4))) HIK.out HNM.out).mono ?_
     rintro rr w5 ⟨F2, v1, Z, rfl, hMw5, hOw5, hGw5, hkw5⟩
     have zbw5 := hkw5.size
     have hSw5 : Keep (Both F' G') w4 w5 := (Keep.undrew hkw5).both1
     refine ⟨v1, rfl, hSw5, ?_⟩
     simp only [Act.put, sA, sS, sZ]
     refine ⟨?_, ?_⟩
     ·skip
      refine t_call (o := ⟨some 37, _, _, _, _, _⟩) 21 #[.pointer (some ⟨r, 0, none⟩), q.o.v] rfl rfl (exec_call 21 _ [.tmp 35, .tmp 36] _ _ Try.func21 (by kernel_rfl) (by kernel_rfl) rfl (by kernel_rfl)) ?_
      refine (badd_at w5 G' r B q.o _ HY.out (HB4.out.keep (Keep.undrew hkw5) (fun b hb e => HD4.out b e hb)) HI.out HNo.out).mono ?_
      rintro rr w6 ⟨G2, vf, rfl, hBw6, hFw6, hVw6, hHw6, hkw6⟩
      have zbw6 := hkw6.size
      have hSw6 : Keep (Both F' G') w4 w6 := hSw5.trans hkw6.both2 (fun _ _ h => h)
      refine ⟨_, rfl, hSw6, ?_⟩
      simp only [Act.put, sA, sS, sZ]
      refine t_new (o := ⟨some 8, _, _, _, _, _⟩) (.pointer (some ⟨w6.heap.size, 0, none⟩)) (w6.alloc (.cells (zeroC.cells (.slice none 0 0)).toArray 32)) rfl rfl (exec_alc 32 (zeroC.cells (.slice none 0 0)) rfl zC) ?_ ?_
      ·exact (hSw6).alloc _
      have hNw7 := Blk.new w6 32 (zeroC.cells (.slice none 0 0))
      have kw7 : Kept w6 (w6.alloc (.cells (zeroC.cells (.slice none 0 0)).toArray 32)) := (Keep.refl _ w6).alloc _
      have zw7 : w6.heap.size < (w6.alloc (.cells (zeroC.cells (.slice none 0 0)).toArray 32)).heap.size := hNw7.lt
      generalize w6.alloc (.cells (zeroC.cells (.slice none 0 0)).toArray 32) = w7 at hNw7 kw7 zw7 ⊢
      simp only [Act.put, sA, sS, sZ]
      refine t_val (o := ⟨some 7, _, _, _, _, _⟩) (v1) rfl rfl (fun u hu => exec_assign (.tmp 34) (v1) rfl (by kernel_rfl)) ?_
      simp only [Act.put, sA, sS, sZ]
      have hvf := hFw6
      refine t_setS (o := ⟨none, _, _, _, _, _⟩) 32 w6.heap.size 32 (zeroC.cells (.slice none 0 0)) (y.cells vf) (.tmp 8) (.tmp 37) rfl rfl rfl (by kernel_rfl) (by kernel_rfl) (hNw7) (by rw [Oc.len15]; exact szC) (by rw [Oc.len15, Oc.len15]) (Oc.one _ _ (sl_onec hvf)) ?_
      intro w8 hCw8 hkw8
      refine ⟨hSw6.new (Keep.any kw7 hkw8) hSw6.size, ?_⟩
      simp only [Act.put]
      refine t_done ?_
      refine wpList_nil ?_
      go_wp2
      go_meet
      have Kn : Keep (· = w6.heap.size) w6 w8 := Keep.any kw7 hkw8
      have z4 : w4.drew.heap.size = w4.heap.size := rfl
      have hMl := hMw5.lt
      have hBl := hBw6.lt
      have hM6 := hMw5.keep hkw6 (fun b hb e => (hGw5 b hb).elim (fun h => HD4.out b h e) (fun h => by have := HGl.out b e; omega))
      have hO6 := hOw5.keep hkw6 (fun b h1 h2 h3 e => by have := HGl.out b e; omega)
      case rel => exact ⟨v1, Z, F2, G2, w6.heap.size, vf, rfl, rfl, hM6.keep Kn (fun b hb e => by have := hMl b hb; omega), hO6.keep Kn (fun b h1 h2 h3 e => by omega), hBw6.keep Kn (fun b hb e => by have := hBl b hb; omega), hFw6.keep Kn (fun b hb e => by have := hFw6.lt hb; omega), hCw8, fun b hb => (hGw5 b hb).imp id (fun h => by omega), fun b hb => (hHw6 b hb).imp id (fun h => by omega), fun b hb hb2 => (hHw6 b hb2).elim (fun h => (hGw5 b hb).elim (fun h' => HD4.out b h' h) (fun h' => by have := HGl.out b h; omega)) (fun h => by have := hMl b hb; omega), hSw6.new Kn hSw6.size⟩
     ·skip
      refine t_new (o := ⟨some 8, _, _, _, _, _⟩) (.pointer (some ⟨w5.heap.size, 0, none⟩)) (w5.alloc (.cells (zeroC.cells (.slice none 0 0)).toArray 32)) rfl rfl (exec_alc 32 (zeroC.cells (.slice none 0 0)) rfl zC) ?_ ?_
      ·exact (hSw5).alloc _
      have hNw6 := Blk.new w5 32 (zeroC.cells (.slice none 0 0))
      have kw6 : Kept w5 (w5.alloc (.cells (zeroC.cells (.slice none 0 0)).toArray 32)) := (Keep.refl _ w5).alloc _
      have zw6 : w5.heap.size < (w5.alloc (.cells (zeroC.cells (.slice none 0 0)).toArray 32)).heap.size := hNw6.lt
      generalize w5.alloc (.cells (zeroC.cells (.slice none 0 0)).toArray 32) = w6 at hNw6 kw6 zw6 ⊢
      simp only [Act.put, sA, sS, sZ]
      refine t_call (o := ⟨some 37, _, _, _, _, _⟩) 21 #[.pointer (some ⟨r, 0, none⟩), q.o.v] rfl rfl (exec_call 21 _ [.tmp 35, .tmp 36] _ _ Try.func21 (by kernel_rfl) (by kernel_rfl) rfl (by kernel_rfl)) ?_
      refine (badd_at w6 G' r B q.o _ HY.out ((HB4.out.keep (Keep.undrew hkw5) (fun b hb e => HD4.out b e hb)).kept kw6) HI.out HNo.out).mono ?_
      rintro rr w7 ⟨G2, vf, rfl, hBw7, hFw7, hVw7, hHw7, hkw7⟩
      have zbw7 := hkw7.size
      have hSw7 : Keep (Both F' G') w4 w7 := (hSw5.kept kw6).trans hkw7.both2 (fun _ _ h => h)
      refine ⟨_, rfl, hSw7, ?_⟩
      simp only [Act.put, sA, sS, sZ]
      refine t_val (o := ⟨some 7, _, _, _, _, _⟩) (v1) rfl rfl (fun u hu => exec_assign (.tmp 34) (v1) rfl (by kernel_rfl)) ?_
      simp only [Act.put, sA, sS, sZ]
      have hvf := hFw7
      have z4 : w4.drew.heap.size = w4.heap.size := rfl
      have hgG : ¬ G' w5.heap.size := fun h => by have := HGl.out _ h; omega
      have hN7 := hNw6.keep hkw7 hgG
      refine t_setS (o := ⟨none, _, _, _, _, _⟩) 32 w5.heap.size 32 (zeroC.cells (.slice none 0 0)) (y.cells vf) (.tmp 8) (.tmp 37) rfl rfl rfl (by kernel_rfl) (by kernel_rfl) (hN7) (by rw [Oc.len15]; exact szC) (by rw [Oc.len15, Oc.len15]) (Oc.one _ _ (sl_onec hvf)) ?_
      intro w8 hCw8 hkw8
      refine ⟨hSw7.new hkw8 (by omega), ?_⟩
      simp only [Act.put]
      refine t_done ?_
      refine wpList_nil ?_
      go_wp2
      go_meet
      have hMl := hMw5.lt
      have hM7 := (hMw5.kept kw6).keep hkw7 (fun b hb e => (hGw5 b hb).elim (fun h => HD4.out b h e) (fun h => by have := HGl.out b e; omega))
      have hO7 := (hOw5.kept kw6).keep hkw7 (fun b h1 h2 h3 e => by have := HGl.out b e; omega)
      have hgG2 : ¬ G2 w5.heap.size := fun h => (hHw7 _ h).elim hgG (fun h => by omega)
      case rel => exact ⟨v1, Z, F2, G2, w5.heap.size, vf, rfl, rfl, hM7.keep hkw8 (fun b hb e => by have := hMl b hb; omega), ⟨hO7.eq, hO7.sl.keep hkw8 (fun b hb e => by have := hOw5.sl.lt hb; omega), hO7.own, fun z hz => (hO7.fl z hz).keep hkw8 (fun b hb e => by have := (hOw5.fl z hz).lt hb; omega), hO7.flo⟩, hBw7.keep hkw8 (fun b hb e => hgG2 (by rw [← e]; exact hb)), hFw7.keep hkw8 (fun b hb e => by have := (hVw7 b hb).1; omega), hCw8, fun b hb => (hGw5 b hb).imp id (fun h => by omega), fun b hb => (hHw7 b hb).imp id (fun h => by omega), fun b hb hb2 => (hHw7 b hb2).elim (fun h => (hGw5 b hb).elim (fun h' => HD4.out b h' h) (fun h' => by have := HGl.out b h; omega)) (fun h => by have := hMl b hb; omega), hSw7.new hkw8 (by omega)⟩
    ·skip
     have hS0 : Keep (Both F' G') w4 w4.drew := Keep.drew (Keep.refl _ w4)
     refine t_new (o := ⟨some 8, _, _, _, _, _⟩) (.pointer (some ⟨w4.drew.heap.size, 0, none⟩)) (w4.drew.alloc (.cells (zeroC.cells (.slice none 0 0)).toArray 32)) rfl rfl (exec_alc 32 (zeroC.cells (.slice none 0 0)) rfl zC) ?_ ?_
     ·exact (hS0).alloc _
     have hNw5 := Blk.new w4.drew 32 (zeroC.cells (.slice none 0 0))
     have kw5 : Kept w4.drew (w4.drew.alloc (.cells (zeroC.cells (.slice none 0 0)).toArray 32)) := (Keep.refl _ w4.drew).alloc _
     have zw5 : w4.drew.heap.size < (w4.drew.alloc (.cells (zeroC.cells (.slice none 0 0)).toArray 32)).heap.size := hNw5.lt
     generalize w4.drew.alloc (.cells (zeroC.cells (.slice none 0 0)).toArray 32) = w5 at hNw5 kw5 zw5 ⊢
     simp only [Act.put, sA, sS, sZ]
     have z4 : w4.drew.heap.size = w4.heap.size := rfl
     have k45 : Kept w4 w5 := Kept.trans (Keep.drew (Keep.refl _ w4)) kw5
     refine t_call (o := ⟨some 34, _, _, _, _, _⟩) 10 #[.pointer (some ⟨p, 0, none⟩), q.o.v] rfl rfl (exec_call 10 _ [.tmp 32, .tmp 33] _ _ Try.func10 (by kernel_rfl) (by kernel_rfl) rfl (by kernel_rfl)) ?_
     refine (madd_at w5 F' p ⟨B, []⟩ q.o _ HP.out (HM4.out.kept k45) HIK.out HNM.out).mono ?_
     rintro rr w6 ⟨F2, v1, Z, rfl, hMw6, hOw6, hGw6, hkw6⟩
     have zbw6 := hkw6.size
     have hSw6 : Keep (Both F' G') w4 w6 := (Keep.any k45 hkw6).both1
     refine ⟨v1, rfl, hSw6, ?_⟩
     simp only [Act.put, sA, sS, sZ]
     refine t_call (o := ⟨some 37, _, _, _, _, _⟩) 21 #[.pointer (some ⟨r, 0, none⟩), q.o.v] rfl rfl (exec_call 21 _ [.tmp 35, .tmp 36] _ _ Try.func21 (by kernel_rfl) (by kernel_rfl) rfl (by kernel_rfl)) ?_
     refine (badd_at w6 G' r B q.o _ HY.out ((HB4.out.kept k45).keep hkw6 (fun b hb e => HD4.out b e hb)) HI.out HNo.out).mono ?_
     rintro rr w7 ⟨G2, vf, rfl, hBw7, hFw7, hVw7, hHw7, hkw7⟩
     have zbw7 := hkw7.size
     have hSw7 : Keep (Both F' G') w4 w7 := hSw6.trans hkw7.both2 (fun _ _ h => h)
     refine ⟨_, rfl, hSw7, ?_⟩
     simp only [Act.put, sA, sS, sZ]
     refine t_val (o := ⟨some 7, _, _, _, _, _⟩) (v1) rfl rfl (fun u hu => exec_assign (.tmp 34) (v1) rfl (by kernel_rfl)) ?_
     simp only [Act.put, sA, sS, sZ]
     have hvf := hFw7
     have hgF : ¬ F' w4.drew.heap.size := fun h => by have := HM4.out.lt _ h; omega
     have hgG : ¬ G' w4.drew.heap.size := fun h => by have := HGl.out _ h; omega
     have hN7 := (hNw5.keep hkw6 hgF).keep hkw7 hgG
     refine t_setS (o := ⟨none, _, _, _, _, _⟩) 32 w4.drew.heap.size 32 (zeroC.cells (.slice none 0 0)) (y.cells vf) (.tmp 8) (.tmp 37) rfl rfl rfl (by kernel_rfl) (by kernel_rfl) (hN7) (by rw [Oc.len15]; exact szC) (by rw [Oc.len15, Oc.len15]) (Oc.one _ _ (sl_onec hvf)) ?_
     intro w8 hCw8 hkw8
     refine ⟨hSw7.new hkw8 (by omega), ?_⟩
     simp only [Act.put]
     refine t_done ?_
     refine wpList_nil ?_
     go_wp2
     go_meet
     have hMl := hMw6.lt
     have hM7 := hMw6.keep hkw7 (fun b hb e => (hGw6 b hb).elim (fun h => HD4.out b h e) (fun h => by have := HGl.out b e; omega))
     have hO7 := hOw6.keep hkw7 (fun b h1 h2 h3 e => by have := HGl.out b e; omega)
     have hgF2 : ¬ F2 w4.drew.heap.size := fun h => (hGw6 _ h).elim hgF (fun h => by omega)
     have hgG2 : ¬ G2 w4.drew.heap.size := fun h => (hHw7 _ h).elim hgG (fun h => by omega)
     case rel => exact ⟨v1, Z, F2, G2, w4.drew.heap.size, vf, rfl, rfl, hM7.keep hkw8 (fun b hb e => hgF2 (by rw [← e]; exact hb)), ⟨hO7.eq, hO7.sl.keep hkw8 (fun b hb e => by have := (hO7.own b hb).1; omega), fun b hb => ⟨by have := (hO7.own b hb).1; omega, (hO7.own b hb).2⟩, fun z hz => (hO7.fl z hz).keep hkw8 (fun b hb e => by have := (hO7.flo z hz b hb).1; omega), fun z hz b hb => ⟨by have := (hO7.flo z hz b hb).1; omega, (hO7.flo z hz b hb).2⟩⟩, hBw7.keep hkw8 (fun b hb e => hgG2 (by rw [← e]; exact hb)), hFw7.keep hkw8 (fun b hb e => by have := (hVw7 b hb).1; omega), hCw8, fun b hb => (hGw6 b hb).imp id (fun h => by omega), fun b hb => (hHw7 b hb).imp id (fun h => by omega), fun b hb hb2 => (hHw7 b hb2).elim (fun h => (hGw6 b hb).elim (fun h' => HD4.out b h' h) (fun h' => by have := HGl.out b h; omega)) (fun h => by have := hMl b hb; omega), hSw7.new hkw8 (by omega)⟩
   obtain ⟨v1, Z, F2, G2, b8, vf, e7, rfl, hM, hO, hB, hV, hC, hF2, hG2, hD2, hk2⟩ := hcut
   replace e7 := e7.symm
   subst e7
   obtain ⟨wd, rfl⟩ : ∃ x, x = wc := ⟨_, rfl⟩
   have kwd : Kept w wd := Keep.trans (S := fun _ => False) kw4 hk2 (fun b hb h => h.elim (fun h => by have := HFr.out b h; omega) (fun h => by have := HGr.out b h; omega))
   obtain ⟨vf2, rfl⟩ := map_1 hO.eq
   obtain ⟨gx, ox, cx, rfl⟩ := hO.sl.some_ (Nat.succ_pos _)
   have HX : Hid (wd.rangeAt gx ox ((Ot.mk y false).cells vf2)) := by have := hO.sl.rngC 0 _ rfl; rw [Nat.zero_mul, Nat.add_zero] at this; exact this
   have HVX : Hid (Sl wd 34 21 vf2 y.f.length (fls y.f)) := hO.fl (Ot.mk y false, vf2) (by simp)
   have HM := Lib.hid hM
   have HB := Lib.hid hB
   have HV := Lib.hid hV
   have HC := Lib.hid (blk_range hC)
   have HF2 : Hid (∀ b, F2 b → w.heap.size ≤ b) := fun b hb => (hF2 b hb).elim (HFr.out b) (fun h => by omega)
   have HG2 : Hid (∀ b, G2 b → w.heap.size ≤ b) := fun b hb => (hG2 b hb).elim (HGr.out b) (fun h => by omega)
   have HD2 := Lib.hid hD2
   clear hM hO hB hV hC hF2 hG2 hD2 hk2 HFr HGr HD4 HGl HO4 HM4 HB4 kw4 zw4 h6F h6G l6
   go_upto_region 9 with fail
   refine wF 11 [.eq (.slice (some ⟨gx, ox, none⟩) 1 cx), iE (1 : Int), bE false, bE false, .eq (.slice (some ⟨gx, ox, none⟩) 1 cx), pE gx ox, .eq ((Ot.mk y false).v vf2), .eq ((Ot.mk y false).v vf), bE true, bE false, bE false] [38,39,40,41,42,43,44,45,46,47,48] ?_ ?_
   ·refine mE 1 7 ?_
    refine sW 2 rfl (fun a u E D hk=>exec_len _ _ _ slC.und (some ⟨gx, ox, none⟩) 1 cx rfl (dD D 0)) ?_
    refine aS 3 rfl (fun a u E D hk=>exec_nen rfl (dD D 1) rfl) rfl ?_
    refine mD 4 40 2 ?_
    refine mE 5 7 ?_
    refine sW 6 rfl (fun a u E D hk=>exec_ixo slC _ _ (gx) (ox) 1 cx 0 (ox) (0) rfl (dD D 4) rfl (by first | rfl | omega) ((by omega)) (by first | rfl | omega)) ?_
    refine sD 7 43 5 ((Ot.mk y false).cells vf2) Try.underlying32 (fun u hk=>range_kept (HX.out) hk) (by rw [Ot.len15]; exact szC) ?_
    refine sE 8 8 b8 0 ((Ot.mk y false).cells vf) Try.underlying32 (fun u hk=>range_kept (HC.out) hk) (by rw [Ot.len15]; exact szC) ?_
    refine cS 9 22 [(Ot.mk y false).v vf2, (Ot.mk y false).v vf] rfl Try.func22 rfl (fun a u E D hk=>⟨ll (dD D 6) (ll (dD D 7) rfl), koutT_any (Ot.mk y false) vf2 vf u (HVX.out.kept hk) (HV.out.kept hk) hfew⟩) ?_
    refine sW 10 rfl (fun a u E D hk=>exec_not _ _ true rfl (dD D 8)) ?_
    refine sW 11 rfl (fun a u E D hk=>exec_pickF _ _ _ _ rfl (dD D 3) (dD D 9)) ?_
    exact fz
   intro gv we hV ke
   simp only [Fz7]
   rw [gQ hV 10 48 (.bool false)]
   clear hV
   have HMe : Hid (Mk we F2 p ⟨fillB (l.take (i + 1)), []⟩) := by rw [HNx.out, HY.out]; exact Lib.hid (HM.out.kept ke)
   have HBe : Hid (Bk we G2 r (fillB (l.take (i + 1)))) := by rw [HNx.out, HY.out]; exact Lib.hid (HB.out.kept ke)
   have kwe := kwd.trans ke
   clear HM HB HV HC HX HVX kwd ke HY HNx HI HIK HNo HNM HP
   go_wp2
   exact ⟨⟨i + 1, F2, G2, by go_num, by omega, by omega, HMe, HBe, HD2, HF2, HG2, kwe⟩, by simp [intOf]; omega⟩
  ·have HBF : Hid ((decide ((i : Int) < (n : Int)) && decide ((i : Int) < 50)) = false) := by
    show _ = _
    rw [← Bool.decide_and]
    exact decide_eq_false (fun h => hlt ⟨by omega, by omega⟩)
   have HI := Lib.hid (fillB_inv (l.take i)).1
   generalize fillB (l.take i) = B at HMr HBr HI
   go_upto_region 5 with fail
   refine wT 8 [iE (i : Int), .eq (.slice A n c), iE (n : Int), bE (decide (((i : Int) : Int) < ((n : Int) : Int))), bE (decide (((i : Int) : Int) < ((n : Int) : Int))), .cond (decide (((i : Int) : Int) < ((n : Int) : Int))) (iE (i : Int)), .cond (decide (((i : Int) : Int) < ((n : Int) : Int))) (bE (decide (((i : Int) : Int) < (50 : Int)))), bE false] [17,18,19,20,21,22,23,24] ?_ ?_
   ·refine mE 1 5 ?_
    refine mE 2 0 ?_
    refine sW 3 rfl (fun a u E D hk=>exec_len _ _ _ slK.und A n c rfl (dD D 1)) ?_
    refine sW 4 rfl (fun a u E D hk=>exec_ltn rfl (dD D 0) (dD D 2)) ?_
    refine mD 5 20 3 ?_
    refine iC 6 4 rfl (fun a u E D hk hb=>exec_move _ _ rfl (eE E)) ?_
    refine iC 7 4 rfl (fun a u E D hk hb=>exec_ltn rfl ((D 5 22 (by kernel_rfl)).1 hb) rfl) ?_
    refine aS 8 rfl (fun a u E D hk=>exec_pickand _ _ _ ((decide (((i : Int) : Int) < ((n : Int) : Int)))) ((decide (((i : Int) : Int) < (50 : Int)))) rfl (dD D 4) (fun hb2 => ((D 6 23 (by kernel_rfl)).1 hb2)) rfl) HBF.out ?_
    exact fz
   intro gv wd hV kd
   simp only [Fz7]
   rw [gQ hV 7 24 (.bool false)]
   clear hV
   have HM := Lib.hid (HMr.out.kept kd)
   have HB := Lib.hid (HBr.out.kept kd)
   have kwd := hkr.trans kd
   obtain ⟨qb, vw, Fb, hP4, _⟩ := HM.out.2
   have HPP := Lib.hid hP4
   have hl1 : (ordsL (B.sd 1)).length ≤ 64 := by rw [ordsL_len]; exact HI.out.two.mine.few
   have hl2 : (ordsL (B.sd 2)).length ≤ 64 := by rw [ordsL_len]; exact HI.out.two.theirs.few
   clear HBF kd HMr HBr hkr hP4
   go_upto_region 11 with fail
   refine wT 29 [pE p 0, pE qb 0, bE true, bE true, pE p 0, pE qb 0, .sl wd.heap.size 27 9 (ordsL (B.sd 1)).length (ords (ordsL (B.sd 1))), pE r 0, .sl wd.heap.size 27 9 (ordsL (B.sd 1)).length (ords (ordsL (B.sd 1))), bE true, bE true, bE true, pE p 0, pE qb 0, .sl wd.heap.size 27 9 (ordsL (B.sd 2)).length (ords (ordsL (B.sd 2))), pE r 0, .sl wd.heap.size 27 9 (ordsL (B.sd 2)).length (ords (ordsL (B.sd 2))), bE true, bE true, bE true, pE p 0, .sl wd.heap.size 27 9 0 (ords []), iE (0 : Int), bE true, bE true, bE true, bE true, bE true, bE true] [49,50,51,52,53,54,55,56,57,58,59,60,61,62,63,64,65,66,67,68,69,70,71,72,73,74,75,76,2] ?_ ?_
   ·refine mE 1 3 ?_
    refine cS 2 14 [.pointer (some ⟨p, 0, none⟩)] rfl Try.func14 rfl (fun a u E D hk=>⟨ll (dD D 0) rfl, mbook_any u p qb vw (HPP.out.blk.kept hk)⟩) ?_
    refine sW 3 rfl (fun a u E D hk=>exec_neP _ _ _ ⟨qb, 0, none⟩ (by kernel_rfl) rfl (dD D 1)) ?_
    refine mD 4 51 2 ?_
    refine mE 5 3 ?_
    refine cS 6 14 [.pointer (some ⟨p, 0, none⟩)] rfl Try.func14 rfl (fun a u E D hk=>⟨ll (dD D 4) rfl, mbook_any u p qb vw (HPP.out.blk.kept hk)⟩) ?_
    refine cS 7 24 [.pointer (some ⟨qb, 0, none⟩), .int .i64 1] rfl Try.func24 rfl (fun a u E D hk=>⟨ll (dD D 5) (ll rfl rfl), (borders_any u Fb qb B 1 (HPP.out.bk.kept hk) HI.out).base hk.size⟩) ?_
    refine mE 8 4 ?_
    refine cS 9 24 [.pointer (some ⟨r, 0, none⟩), .int .i64 1] rfl Try.func24 rfl (fun a u E D hk=>⟨ll (dD D 7) (ll rfl rfl), (borders_any u G' r B 1 (HB.out.kept hk) HI.out).base hk.size⟩) ?_
    refine fsteps_cons 10 rfl (fun a u hE hD hk => f_call 23 #[a.eval (.tmp 55), a.eval (.tmp 57)] rfl (wanted_at (b := true) true rfl rfl (dD hD 3)) (exec_call 23 _ [.tmp 55, .tmp 57] _ [a.eval (.tmp 55), a.eval (.tmp 57)] Try.func23 (by kernel_rfl) (by kernel_rfl) rfl rfl u) ((by have h := sameO_any (a.eval (.tmp 55)) (a.eval (.tmp 57)) 0 0 _ _ u (hD 6 55 (by kernel_rfl)).1 (hD 8 57 (by kernel_rfl)).1 (by omega) (by omega); rwa [decide_eq_true rfl] at h))) ?_
    refine pT 11 52 58 3 9 ?_
    refine mD 12 59 10 ?_
    refine mE 13 3 ?_
    refine cS 14 14 [.pointer (some ⟨p, 0, none⟩)] rfl Try.func14 rfl (fun a u E D hk=>⟨ll (dD D 12) rfl, mbook_any u p qb vw (HPP.out.blk.kept hk)⟩) ?_
    refine cS 15 24 [.pointer (some ⟨qb, 0, none⟩), .int .i64 2] rfl Try.func24 rfl (fun a u E D hk=>⟨ll (dD D 13) (ll rfl rfl), (borders_any u Fb qb B 2 (HPP.out.bk.kept hk) HI.out).base hk.size⟩) ?_
    refine mE 16 4 ?_
    refine cS 17 24 [.pointer (some ⟨r, 0, none⟩), .int .i64 2] rfl Try.func24 rfl (fun a u E D hk=>⟨ll (dD D 15) (ll rfl rfl), (borders_any u G' r B 2 (HB.out.kept hk) HI.out).base hk.size⟩) ?_
    refine fsteps_cons 18 rfl (fun a u hE hD hk => f_call 23 #[a.eval (.tmp 63), a.eval (.tmp 65)] rfl (wanted_at (b := true) true rfl rfl (dD hD 11)) (exec_call 23 _ [.tmp 63, .tmp 65] _ [a.eval (.tmp 63), a.eval (.tmp 65)] Try.func23 (by kernel_rfl) (by kernel_rfl) rfl rfl u) ((by have h := sameO_any (a.eval (.tmp 63)) (a.eval (.tmp 65)) 0 0 _ _ u (hD 14 63 (by kernel_rfl)).1 (hD 16 65 (by kernel_rfl)).1 (by omega) (by omega); rwa [decide_eq_true rfl] at h))) ?_
    refine pT 19 60 66 11 17 ?_
    refine mD 20 67 18 ?_
    refine mE 21 3 ?_
    refine cS 22 12 [.pointer (some ⟨p, 0, none⟩)] rfl Try.func12 rfl (fun a u E D hk=>⟨ll (dD D 20) rfl, (waiting_any u F' p ⟨B, []⟩ (HM.out.kept hk) (Nat.zero_le _)).base hk.size⟩) ?_
    refine sW 23 rfl (fun a u E D hk=>exec_lenS _ slO _ _ _ _ rfl rfl (D 21 70 (by kernel_rfl)).1) ?_
    refine aS 24 rfl (fun a u E D hk=>exec_eqn rfl (dD D 22) rfl) rfl ?_
    refine pT 25 68 72 19 23 ?_
    refine mD 26 73 24 ?_
    refine cS 27 3 [] rfl Try.func3 rfl (fun a u E D hk=>⟨rfl, sruns_gives u⟩) ?_
    refine pT 28 74 75 25 26 ?_
    refine mD 29 76 27 ?_
    exact fz
   intro gv wz hV kz
   simp only [Fz7]
   rw [gQ hV 28 2 (.bool true)]
   clear hV
   go_wp2
   go_ret
   exact ⟨rfl, kwd.trans kz⟩
end Go.Proofs.Ytlbeibapbkccfaa
