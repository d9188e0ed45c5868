/-
 The contracts of package change's Mass and Amend. Condition: a market as it may be.
-/
import Derived.Test.YtklohceombpleaaQA05
set_option linter.unusedVariables false
namespace Go.Proofs.Ytklohceombpleaa
open Go.RowKit
set_option maxRecDepth 100000
def MassIn (w : World) (F : Nat → Prop) (p : Nat) (M2 : Mkt) (G : List Ord) (r : Ending) (w' : World) : Prop :=
 ∃ F' v, r = .returned v ∧ Mk w' F' p M2 ∧ Sl w' 24 9 v G.length (ords G) ∧ (∀ b, v.ownBlock = some b → w.heap.size ≤ b ∧ ¬ F' b) ∧ Grow w F F' ∧ Keep F w w'
set_option maxRecDepth 100000 in
set_option maxHeartbeats 3200000 in
theorem mmass_any (w : World) (F : Nat → Prop) (p : Nat) (Mm : Mkt) (T : Int) (h : Mk w F p Mm) (hI : InvK Mm) : Calls Try.prog 18 #[.pointer (some ⟨p, 0, none⟩), .int .u64 T] w (MassIn w F p (massL T Mm.all Mm) (goneM T Mm.all)) := by
 have hFl := h.lt
 have HM := Lib.hid h
 have HI := Lib.hid hI
 obtain ⟨X, hX⟩ : ∃ X, Mm.all = X := ⟨_, rfl⟩
 have HFa : Hid (∀ o ∈ X, o.Fair) := by rw [← hX]; exact Lib.hid hI.fair
 obtain ⟨an, han⟩ : ∃ an, X.length = an := ⟨_, rfl⟩
 have hal : an ≤ 64 := by rw [← han, ← hX]; exact hI.all_few
 have hwl : Mm.w.length ≤ 64 := by have := hI.few; omega
 have HAN := Lib.hid han
 have HXX := Lib.hid hX
 have HI2 : Hid (∀ k, InvK (massL T (X.take k) Mm)) := fun k => (InvK.massL T (X.take k) hI).1
 have HGl : Hid (∀ k, (goneM T (X.take k)).length ≤ 64) := fun k => by
  have h1 : (goneM T (X.take k)).length ≤ (X.take k).length := List.length_filter_le _ _
  rw [List.length_take] at h1
  omega
 rw [hX]
 clear h hI hX han
 go_enter Try.func18, Try.ntmps18
 go_upto_region 2 with fail
 refine wT 4 [pE p 0, .sl w.heap.size 24 9 an (ords X), iE (an : Int), iE 0] [8,9,10,11] ?_ ?_
 ·refine mE 1 0 ?_
  refine cS 2 13 [.pointer (some ⟨p, 0, none⟩)] rfl Try.func13 rfl (fun a u E D hk=>⟨ll (dD D 0) rfl, (by rw [← HAN.out, ← HXX.out]; exact (mall_any u F p Mm (HM.out.kept hk) HI.out.inv (by omega)).base hk.size)⟩) ?_
  refine sW 3 rfl (fun a u E D hk=>exec_lenS _ slO _ _ _ _ rfl rfl (D 1 9 (by kernel_rfl)).1) ?_
  refine sW 4 rfl (fun a u E D hk=>exec_move _ _ rfl rfl) ?_
  exact fz
 intro gv w0 hV k0
 simp only [Fz7]
 have hv9 : (.sl w.heap.size 24 9 an (ords X) : Kn).p (gv 9) w0 := hV 1 9 (by kernel_rfl)
 generalize gv 9 = v9 at hv9 ⊢
 rw [gQ hV 2 10 (.int .i64 (an : Int))]
 rw [gQ hV 3 11 (.int .i64 0)]
 clear hV
 obtain ⟨va, hva⟩ : ∃ x, x = v9 := ⟨_, rfl⟩
 subst hva
 have HA0 := Lib.hid hv9.1
 have HVa : Hid (∀ b, va.ownBlock = some b → w.heap.size ≤ b) := hv9.2
 have HM0 : Hid (Mk w0 F p (massL T (X.take 0) Mm)) := by rw [List.take_zero]; exact Lib.hid (HM.out.kept k0)
 have HS0 : Hid (Sl w0 24 9 (.slice none 0 0) (goneM T (X.take 0)).length (ords (goneM T (X.take 0)))) := by rw [List.take_zero]; exact Sl.nil _ _ _
 have HV0 : Hid (∀ b, va.ownBlock = some b → ¬ F b) := fun b hb hf => by have := HVa.out b hb; have := hFl b hf; omega
 have HG0 : Hid (Grow w F F) := Grow.refl _ _
 have HK0 : Hid (Keep F w w0) := k0.mono (fun _ _ h => h.elim)
 have HO0 : Hid (∀ b, (Value.slice none 0 0).ownBlock = some b → w.heap.size ≤ b ∧ ¬ F b ∧ va.ownBlock ≠ some b) := fun b hb => by simp [Value.ownBlock] at hb
 clear hv9 HM k0 hFl
 go_wp2_with fail
 go_loopw [5, 11] (fun s0 x wr => ∃ (k : Nat) (F' : Nat → Prop) (s : Value), k ≤ an ∧ s = s0 ∧ x = .int .i64 (k : Int) ∧ Hid (Mk wr F' p (massL T (X.take k) Mm)) ∧ Hid (Sl wr 24 9 s (goneM T (X.take k)).length (ords (goneM T (X.take k)))) ∧ Hid (∀ b, s.ownBlock = some b → w.heap.size ≤ b ∧ ¬ F' b ∧ va.ownBlock ≠ some b) ∧ Hid (Sl wr 24 9 va an (ords X)) ∧ Hid (∀ b, va.ownBlock = some b → ¬ F' b) ∧ Hid (Grow w F F') ∧ Hid (Keep F w wr)) (fun s x _ => an - (intOf x).toNat)
 case atStart => exact ⟨0, F, _, Nat.zero_le _, rfl, rfl, HM0, HS0, HO0, HA0, HV0, HG0, HK0⟩
 case round =>
  obtain ⟨k, F', s, hk, rfl, rfl, HMr, HSr, HOr, HAr, HVr, HGr, HKr⟩ := hrel
  clear HM0 HS0 HO0 HA0 HV0 HG0 HK0
  have zr := HKr.out.size
  by_cases hkm : k < an
  ·obtain ⟨ga, oa, ca, rfl⟩ := HAr.out.some_ (by omega)
   obtain ⟨x, hx⟩ : ∃ e, X[k]? = some e := ⟨X[k]'(by rw [HAN.out]; exact hkm), List.getElem?_eq_getElem _⟩
   have HX : Hid (wr.rangeAt ga (oa + k * 9) x.cells) := HAr.out.rngO k x hx
   have HNX := Lib.hid (massL_next T X Mm k x hx)
   have HGX := Lib.hid (goneM_next T X k x hx)
   have h0 := (HFa.out x (List.mem_of_getElem? hx)).tr0
   have HIk := Lib.hid (HI2.out k)
   have hgl := HGl.out k
   obtain ⟨Mc, hMc⟩ : ∃ M, massL T (X.take k) Mm = M := ⟨_, rfl⟩
   obtain ⟨G, hG⟩ : ∃ G, goneM T (X.take k) = G := ⟨_, rfl⟩
   rw [hMc] at HMr HNX HIk
   rw [hG] at HSr HGX hgl
   have hml : Mc.w.length ≤ 64 := by have := HIk.out.few; omega
   have hMl := HMr.out.lt
   clear hx hMc hG
   go_upto_region 4 with fail
   refine wEp 2 [pV ga (oa + k * 9), x.v] [13,14] ?_ ?_
   ·refine sW 1 rfl (fun a u E D hk=>exec_ixo slO _ _ (ga) (oa) an ca k (oa + k * 9) ((k : Int)) rfl (eE E) (eE E) (by first | rfl | omega) (hkm) (by first | rfl | omega)) ?_
    refine sD 2 13 0 x.cells Try.underlying24 (fun u hk=>range_kept HX.out hk) (by rw [x.len9]; exact ord_size) ?_
    exact fz
   intro w5 k5
   simp only [F8]
   refine l_new (.pointer (some ⟨w5.heap.size, 0, none⟩)) (w5.alloc (.cells zeroO.cells.toArray 24)) rfl (exec_alc 24 zeroO.cells rfl zO) ?_
   have hNw6 := Blk.new w5 24 zeroO.cells
   have kw6 : Kept w5 (w5.alloc (.cells zeroO.cells.toArray 24)) := (Keep.refl _ w5).alloc _
   generalize w5.alloc (.cells zeroO.cells.toArray 24) = w6 at hNw6 kw6 ⊢
   simp only [Act.put, sA, sS, sZ]
   refine l_setS 24 w5.heap.size 24 zeroO.cells x.cells _ _ rfl rfl (by kernel_rfl) (by kernel_rfl) (hNw6) (by rw [Ord.len9]; exact ord_size) (by rw [Ord.len9, Ord.len9]) (Ord.one1 _) ?_
   intro w7 hCw7 hkw7 hsw7
   simp only [Act.put]
   refine wpList_nil ?_
   obtain ⟨b7, h7⟩ : ∃ a, w5.heap.size = a := ⟨_, rfl⟩
   rw [h7] at hNw6 hCw7 hkw7 ⊢
   have z5 := k5.size
   have kr7 : Kept wr w7 := (k5.trans kw6).trans' hkw7 (by omega)
   have HX7 := Lib.hid (blk_range hCw7)
   have l7 := hCw7.lt
   have hb7 : ¬ F' b7 := fun h => by have := hMl b7 h; omega
   have z7 := kr7.size
   have HM7 := Lib.hid (HMr.out.kept kr7)
   have HS7 := Lib.hid (HSr.out.kept kr7)
   have HA7 := Lib.hid (HAr.out.kept kr7)
   have HK7 : Hid (Keep F w w7) := HKr.out.kept kr7
   clear hNw6 hCw7 hkw7 hsw7 kw6 k5 HX HMr HSr HAr HKr hMl kr7
   cases hb : bitB T x.tr with
   | true =>
    have HB := Lib.hid hb
    have HNb : Hid (massL T (X.take (k + 1)) Mm = (Mc.remove x.tr x.id).2.2) := by show _ = _; rw [HNX.out]; unfold massS; rw [if_pos hb]
    have HGb : Hid (goneM T (X.take (k + 1)) = G ++ [x]) := by show _ = _; rw [HGX.out, if_pos hb]
    clear hb HNX HGX
    go_upto_region 5 with fail
    refine wE 4 [.int .u64 T, pV b7 0, iV x.tr, bV true] [15,16,17,18] ?_ ?_
    ·refine mE 1 1 ?_
     refine fE 2 7 24 0 0 0 ?_
     refine lD 3 16 1 Try.underlying3 (fun u hk=>range_int (range_kept HX7.out hk) 0 _ rfl) ?_
     refine cS 4 34 [.int .u64 T, .int .i64 x.tr] rfl Try.func34 rfl (fun a u E D hk=>⟨ll (dD D 0) (ll (dD D 2) rfl), (by have h := isIn_any T x.tr u h0; rw [HB.out] at h; exact h)⟩) ?_
     exact fz
    intro w8 k8
    simp only [F8]
    have HX8 := Lib.hid (range_kept HX7.out k8)
    have HM8 := Lib.hid (HM7.out.kept k8)
    have HS8 := Lib.hid (HS7.out.kept k8)
    have HA8 := Lib.hid (HA7.out.kept k8)
    have HK8 : Hid (Keep F w w8) := HK7.out.kept k8
    have z8 := k8.size
    clear HX7 HM7 HS7 HA7 HK7 k8
    go_upto_region 6 with fail
    refine wEp 5 [pV p 0, pV b7 0, iV x.tr, pV b7 1, iV x.id] [19,20,21,22,23] ?_ ?_
    ·refine mE 1 0 ?_
     refine fE 2 7 24 0 0 0 ?_
     refine lD 3 20 1 Try.underlying3 (fun u hk=>range_int (range_kept HX8.out hk) 0 _ rfl) ?_
     refine fE 4 7 24 1 1 0 ?_
     refine lD 5 22 3 Try.underlying3 (fun u hk=>range_int (range_kept HX8.out hk) 1 _ rfl) ?_
     exact fz
    intro w9 k9
    simp only [F8]
    refine l_call 23 #[.pointer (some ⟨p, 0, none⟩), .int .i64 x.tr, .int .i64 x.id] rfl (exec_call 23 _ [.tmp 19, .tmp 21, .tmp 23] _ _ Try.func23 (by kernel_rfl) (by kernel_rfl) rfl (by kernel_rfl) _) ?_
    refine (mremove_any w9 F' p Mc x.tr x.id (HM8.out.kept k9) HIk.out.inv (by omega)).mono ?_
    rintro r wa ⟨F2, rfl, hMa, hGa, hka⟩
    refine ⟨_, rfl, ?_⟩
    simp only [Act.put, sA, sS, sZ]
    refine wpList_nil ?_
    have z9 := k9.size
    have za := hka.size
    have K8a : Keep F' w8 wa := Keep.any k9 hka
    have HXa := Lib.hid (range_keep HX8.out K8a hb7)
    have HSa := Lib.hid (HS8.out.keep K8a (fun b hb => (HOr.out b hb).2.1))
    have HAa := Lib.hid (HA8.out.keep K8a (fun b hb => HVr.out b hb))
    have HG2 : Hid (Grow w8 F' F2) := hGa.wide z9
    have HGw : Hid (Grow w F F2) := HGr.out.trans HG2.out (by omega)
    have HKa : Hid (Keep F w wa) := HGr.out.keep HK8.out K8a
    have HVa2 : Hid (∀ b, (Value.slice (some ⟨ga, oa, none⟩) an ca).ownBlock = some b → ¬ F2 b) := fun b hb h => (HG2.out b h).elim (HVr.out b hb) (fun h => by have := HA8.out.lt hb; omega)
    have HOa : Hid (∀ b, s.ownBlock = some b → w.heap.size ≤ b ∧ ¬ F2 b ∧ (Value.slice (some ⟨ga, oa, none⟩) an ca).ownBlock ≠ some b) := fun b hb => ⟨(HOr.out b hb).1, fun h => (HG2.out b h).elim (HOr.out b hb).2.1 (fun h => by have := HS8.out.lt hb; omega), (HOr.out b hb).2.2⟩
    have HMa := Lib.hid hMa
    clear hMa hGa hka k9 K8a HX8 HM8 HS8 HA8 HK8 HG2 HOr HVr HGr HIk
    go_upto_region 7 with fail
    refine wp_text 3 [.eq (s), .eq (x.v), .sl wa.heap.size 24 9 1 x.cells] rfl (by kernel_rfl) ?_ ?_
    ·refine mE 1 5 ?_
     refine sE 2 7 b7 0 x.cells Try.underlying24 (fun u hk=>range_kept HXa.out hk) (by rw [x.len9]; exact ord_size) ?_
     refine nW 3 rfl (fun a u E D hk=>⟨_, _, exec_oneS slO _ x.cells (by omega) rfl (dD D 1) (x.len9), (sl_one u 24 9 _ wa.heap.size (x.len9) (by omega) hk.size), ((Keep.refl _ u).alloc _)⟩) ?_
     exact fz
    intro gv we hV hk1
    rw [dq 3 [25,26,27]]
    simp only [Fz7]
    rw [gQ hV 0 25 s]
    have hv27 : (.sl wa.heap.size 24 9 1 x.cells : Kn).p (gv 27) we := hV 2 27 (by kernel_rfl)
    generalize gv 27 = v27 at hv27 ⊢
    clear hV
    obtain ⟨v', wb, hrb, hsb, hkb, hob0⟩ := run_append_sl slO 35 we s v27 G.length 1 (ords G) x.cells (HSa.out.kept hk1) hv27.1 (Ord.one1 _) (by unfold maxLen; omega) (by omega)
    have zb1 := hk1.size
    have hob : ∀ b, v'.ownBlock = some b → s.ownBlock = some b ∨ wa.heap.size ≤ b := fun b hb => (hob0 b hb).imp id (fun h => by omega)
    refine l_new v' wb rfl (exec_appS slO (.tmp 25) (.tmp 27) s v27 rfl (by kernel_rfl) (by kernel_rfl) v' wb hrb) ?_
    simp only [Act.put, sA, sS, sZ]
    refine l_val (v') rfl (exec_assign _ _ rfl (by kernel_rfl)) ?_
    simp only [Act.put, sA, sS, sZ]
    refine wpList_nil ?_
    clear hrb hob0
    have Kab : Keep (fun b => s.ownBlock = some b) wa wb := Keep.any hk1 hkb
    have HMb : Hid (Mk wb F2 p (massL T (X.take (k + 1)) Mm)) := by rw [HNb.out]; exact Lib.hid (HMa.out.keep Kab (fun b hb h => (HOa.out b h).2.1 hb))
    have HSb : Hid (Sl wb 24 9 v' (goneM T (X.take (k + 1))).length (ords (goneM T (X.take (k + 1))))) := by rw [HGb.out, ords_snoc, List.length_append]; exact Lib.hid hsb
    have HAb := Lib.hid (HAa.out.keep Kab (fun b hb h => (HOa.out b h).2.2 hb))
    have HKb : Hid (Keep F w wb) := HKa.out.trans Kab (fun b hb h => by have := (HOa.out b h).1; omega)
    have HOb : Hid (∀ b, v'.ownBlock = some b → w.heap.size ≤ b ∧ ¬ F2 b ∧ (Value.slice (some ⟨ga, oa, none⟩) an ca).ownBlock ≠ some b) := fun b hb => (hob b hb).elim (HOa.out b) (fun h => ⟨by omega, fun h2 => by have := HMa.out.lt b h2; omega, fun h2 => by have := HAa.out.lt h2; omega⟩)
    clear hsb hkb hob Kab HMa HSa HAa HKa HOa HXa hk1
    go_wp2
    exact ⟨⟨k + 1, F2, v', by omega, rfl, by go_num, HMb, HSb, HOb, HAb, HVa2, HGw, HKb⟩, by simp [intOf]; omega⟩
   | false =>
    have HB := Lib.hid hb
    have HNb : Hid (massL T (X.take (k + 1)) Mm = Mc) := by show _ = _; rw [HNX.out]; unfold massS; rw [hb]; rfl
    have HGb : Hid (goneM T (X.take (k + 1)) = G) := by show _ = _; rw [HGX.out, hb]; simp
    clear hb HNX HGX
    go_upto_region 5 with fail
    refine wE 4 [.int .u64 T, pV b7 0, iV x.tr, bV false] [15,16,17,18] ?_ ?_
    ·refine mE 1 1 ?_
     refine fE 2 7 24 0 0 0 ?_
     refine lD 3 16 1 Try.underlying3 (fun u hk=>range_int (range_kept HX7.out hk) 0 _ rfl) ?_
     refine cS 4 34 [.int .u64 T, .int .i64 x.tr] rfl Try.func34 rfl (fun a u E D hk=>⟨ll (dD D 0) (ll (dD D 2) rfl), (by have h := isIn_any T x.tr u h0; rw [HB.out] at h; exact h)⟩) ?_
     exact fz
    intro w8 k8
    simp only [F8]
    have HM8 : Hid (Mk w8 F' p (massL T (X.take (k + 1)) Mm)) := by rw [HNb.out]; exact Lib.hid (HM7.out.kept k8)
    have HS8 : Hid (Sl w8 24 9 s (goneM T (X.take (k + 1))).length (ords (goneM T (X.take (k + 1))))) := by rw [HGb.out]; exact Lib.hid (HS7.out.kept k8)
    have HA8 := Lib.hid (HA7.out.kept k8)
    have HK8 : Hid (Keep F w w8) := HK7.out.kept k8
    clear HX7 HM7 HS7 HA7 HK7 k8
    go_wp2
    exact ⟨⟨k + 1, F', s, by omega, rfl, by go_num, HM8, HS8, HOr, HA8, HVr, HGr, HK8⟩, by simp [intOf]; omega⟩
  ·have hke : k = X.length := by rw [HAN.out]; omega
   have HE : Hid (X.take k = X) := by show _ = _; rw [hke, List.take_length]
   rw [HE.out] at HMr HSr
   clear hke
   go_wp2
   go_ret
   exact ⟨F', s, rfl, HMr.out, HSr.out, fun b hb => ⟨(HOr.out b hb).1, (HOr.out b hb).2.1⟩, HGr.out, HKr.out⟩
end Go.Proofs.Ytklohceombpleaa
