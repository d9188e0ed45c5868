/-
 The walk of ChangeMass. No condition.
-/
import Derived.Test.YtklohceombpleaaQA05
import Derived.Test.YtklohceombpleaaMAChA
set_option linter.unusedVariables false
namespace Go.Proofs.Ytklohceombpleaa
open Go.RowKit
set_option maxRecDepth 100000
set_option maxRecDepth 100000 in
set_option maxHeartbeats 6400000 in
theorem changeMass_any (v : Value) (l : List Kq) (T : Int) (w : World) (hl : Kqs w v l) : Calls Try.prog 5 #[v, .int .u64 T] w fun e w' => e = .returned (.bool true) ∧ Kept w w' := by
 have HIN := Lib.hid (fillM_inv (l.take 40))
 have HNo : Hid ((fillM (l.take 40)).b.no ≤ 3000000000) := by
  have h1 := HIN.out.2
  have h2 : (l.take 40).length ≤ 40 := by rw [List.length_take]; omega
  show _ ≤ _
  omega
 have HI := Lib.hid HIN.out.1
 have HMM : Hid (∀ (u : World), Kept w u → Calls Try.prog 11 #[v] u fun e w' => ∃ p F, e = .returned (.pointer (some ⟨p, 0, none⟩)) ∧ Mk w' F p (fillM (l.take 40)) ∧ Grow u (fun _ => False) F ∧ Kept u w') := fun u hu => mfilled_any v l u (hl.kept hu)
 clear HIN
 generalize fillM (l.take 40) = M at HI HNo HMM
 clear hl
 go_enter Try.func5, Try.ntmps5
 go_upto_region 1 with fail
 refine wp_region_lit ?_
 refine l_val (o := ⟨some 15, _, _, _, _, _⟩) (v) rfl (exec_move (.tmp 0) (v) rfl (by kernel_rfl)) ?_
 simp only [Act.put, sA, sS, sZ]
 refine l_call (o := ⟨some 16, _, _, _, _, _⟩) 11 #[v] rfl (exec_call 11 _ [.tmp 15] _ _ Try.func11 (by kernel_rfl) (by kernel_rfl) rfl (by kernel_rfl) _) ?_
 refine (HMM.out w (Kept.refl _)).mono ?_
 rintro r w1 ⟨p, F, rfl, hMp, hGp, kcw1⟩
 refine ⟨_, rfl, ?_⟩
 have kww1 := kcw1
 simp only [Act.put, sA, sS, sZ]
 refine l_val (o := ⟨some 5, _, _, _, _, _⟩) (.pointer (some ⟨p, 0, none⟩)) rfl (exec_assign (.tmp 16) (.pointer (some ⟨p, 0, none⟩)) rfl (by kernel_rfl)) ?_
 simp only [Act.put, sA, sS, sZ]
 refine wpList_nil ?_
 have HM1 := Lib.hid hMp
 have HF : Hid (∀ b, F b → w.heap.size ≤ b) := fun b hb => (hGp b hb).elim (fun h => h.elim) id
 have k1 := kww1
 clear hMp hGp kcw1 kww1 HMM
 obtain ⟨X, hX⟩ : ∃ X, M.all = X := ⟨_, rfl⟩
 have HFa : Hid (∀ o ∈ X, o.Fair) := by rw [← hX]; exact Lib.hid HI.out.fair
 obtain ⟨an, han⟩ : ∃ an, X.length = an := ⟨_, rfl⟩
 have hal : an ≤ 64 := by rw [← han, ← hX]; exact HI.out.all_few
 have hwl : M.w.length ≤ 64 := by have := HI.out.few; omega
 have HAN := Lib.hid han
 have HXX := Lib.hid hX
 have HMS : Hid ((massL T X M).all = stayM T X) := by show _ = _; rw [← hX]; exact mass_all HI.out T
 have HMI : Hid (InvK (massL T X M)) := (InvK.massL T X HI.out).1
 have HGl : Hid (∀ k, (goneM T (X.take k)).length ≤ 64 ∧ (stayM T (X.take k)).length ≤ 64) := fun k => by
  have h1 : (goneM T (X.take k)).length ≤ (X.take k).length := List.length_filter_le _ _
  have h2 : (stayM T (X.take k)).length ≤ (X.take k).length := List.length_filter_le _ _
  rw [List.length_take] at h1 h2
  omega
 have HSF : Hid (∀ o ∈ stayM T X, o.Fair) := fun o ho => HFa.out o (List.mem_filter.1 (show o ∈ X.filter _ from ho)).1
 clear hX han
 go_upto_region 2 with fail
 refine wp_text 2 [.eq (.pointer (some ⟨p, 0, none⟩)), .eq (.bool false)] rfl (by kernel_rfl) ?_ ?_
 ·refine sv 1 rfl rfl rfl (fun a u hE hD hk => exec_move (.tmp 5) _ rfl (hE 5 (.pointer (some ⟨p, 0, none⟩)) (by kernel_rfl) (by kernel_rfl))) ?_
  refine sv 2 rfl rfl rfl (fun a u hE hD hk => exec_eqP (.tmp 17) _ _ ⟨p, 0, none⟩ (by kernel_rfl) rfl (hD 0 17 (by kernel_rfl))) ?_
  exact fsteps_nil
 intro gv w2 hV k2
 rw [show dstsOf _ 2 = [17, 18] by kernel_rfl]
 simp only [fC, fN, sA, sS, sZ, dS, dZ]
 rw [show gv 18 = .bool false from hV 1 18 (by kernel_rfl)]
 clear hV
 refine wpList_nil ?_
 have HM2 := Lib.hid (HM1.out.kept k2)
 have kw2 := k1.trans k2
 clear HM1 k1 k2
 go_upto_region 5 with fail
 refine wp_text 4 [.eq (.pointer (some ⟨p, 0, none⟩)), .sl w2.heap.size 24 9 an (ords X), .eq (.int .i64 (an : Int)), .eq (.int .i64 0)] rfl (by kernel_rfl) ?_ ?_
 ·refine sv 1 rfl rfl rfl (fun a u hE hD hk => exec_move (.tmp 5) _ rfl (hE 5 (.pointer (some ⟨p, 0, none⟩)) (by kernel_rfl) (by kernel_rfl))) ?_
  refine fsteps_cons 2 rfl (fun a u hE hD hk => f_call (o := ⟨some 20, _, _, _, _, _⟩) 13 #[.pointer (some ⟨p, 0, none⟩)] rfl (wanted_none rfl _) (exec_call 13 _ [.tmp 19] _ [.pointer (some ⟨p, 0, none⟩)] Try.func13 (by kernel_rfl) (by kernel_rfl) rfl (show [a.eval (.tmp 19)] = [.pointer (some ⟨p, 0, none⟩)] from (by rw [show a.eval (.tmp 19) = .pointer (some ⟨p, 0, none⟩) from (hD 0 19 (by kernel_rfl))] <;> rfl)) u) ((by rw [← HAN.out, ← HXX.out]; exact (mall_any u F p M (HM2.out.kept hk) HI.out.inv (by omega)).base hk.size))) ?_
  refine sv 3 rfl rfl rfl (fun a u hE hD hk => exec_lenS (.tmp 20) slO (a.eval (.tmp 20)) an _ _ rfl rfl (hD 1 20 (by kernel_rfl)).1) ?_
  refine sv 4 rfl rfl rfl (fun a u hE hD hk => exec_move (.const (.int .i64 0)) _ rfl rfl) ?_
  exact fsteps_nil
 intro gv w3 hV k3
 rw [show dstsOf _ 4 = [19, 20, 21, 22] by kernel_rfl]
 simp only [fC, fN, sA, sS, sZ, dS, dZ]
 have hv20 : (.sl w2.heap.size 24 9 an (ords X) : Kn).p (gv 20) w3 := hV 1 20 (by kernel_rfl)
 generalize gv 20 = v20 at hv20 ⊢
 rw [show gv 21 = .int .i64 (an : Int) from hV 2 21 (by kernel_rfl)]
 rw [show gv 22 = .int .i64 0 from hV 3 22 (by kernel_rfl)]
 clear hV
 refine wpList_nil ?_
 obtain ⟨va, hva⟩ : ∃ x, x = v20 := ⟨_, rfl⟩
 subst hva
 have HM3 := Lib.hid (HM2.out.kept k3)
 have HA3 := Lib.hid hv20.1
 have HVa : Hid (∀ b, va.ownBlock = some b → b < w3.heap.size) := fun b hb => hv20.1.lt hb
 have HFl : Hid (∀ b, F b → b < w3.heap.size) := HM3.out.lt
 have HVF : Hid (∀ b, va.ownBlock = some b → ¬ F b) := fun b hb h => by have := hv20.2 b hb; have := HM2.out.lt b h; omega
 have kw3 := kw2.trans k3
 have z3 := kw3.size
 clear hv20 HM2 kw2 k3
 have HS0 : Hid (Sl w3 24 9 (.slice none 0 0) (stayM T (X.take 0)).length (ords (stayM T (X.take 0)))) := by rw [List.take_zero]; exact Sl.nil _ _ _
 have HG0 : Hid (Sl w3 24 9 (.slice none 0 0) (goneM T (X.take 0)).length (ords (goneM T (X.take 0)))) := by rw [List.take_zero]; exact Sl.nil _ _ _
 go_wp2_with fail
 go_loopw [6, 7, 22] (fun s0 g0 x wr => ∃ (k : Nat) (s g : Value), k ≤ an ∧ s = s0 ∧ g = g0 ∧ x = .int .i64 (k : Int) ∧ Hid (Sl wr 24 9 s (stayM T (X.take k)).length (ords (stayM T (X.take k)))) ∧ Hid (Sl wr 24 9 g (goneM T (X.take k)).length (ords (goneM T (X.take k)))) ∧ Hid (∀ b, s.ownBlock = some b → w3.heap.size ≤ b) ∧ Hid (∀ b, g.ownBlock = some b → w3.heap.size ≤ b ∧ s.ownBlock ≠ some b) ∧ Kept w3 wr) (fun s0 g0 x _ => an - (intOf x).toNat)
 case atStart => exact ⟨0, _, _, by omega, rfl, rfl, rfl, HS0, HG0, (fun b hb => by simp [Value.ownBlock] at hb), (fun b hb => by simp [Value.ownBlock] at hb), Kept.refl _⟩
 case round =>
  obtain ⟨k, s, g, hk, rfl, rfl, rfl, HSr, HGr, HOs, HOg, hkr⟩ := hrel
  clear HS0 HG0
  have zr := hkr.size
  by_cases hkm : k < an
  ·obtain ⟨ga, oa, ca, rfl⟩ := HA3.out.some_ (by omega)
   obtain ⟨x, hx⟩ : ∃ e, X[k]? = some e := ⟨X[k]'(by rw [HAN.out]; exact hkm), List.getElem?_eq_getElem _⟩
   have HX : Hid (wr.rangeAt ga (oa + k * 9) x.cells) := range_kept (HA3.out.rngO k x hx) hkr
   have HGX := Lib.hid (goneM_next T X k x hx)
   have HSX := Lib.hid (stayM_next T X k x hx)
   have h0 := (HFa.out x (List.mem_of_getElem? hx)).tr0
   have hgl := HGl.out k
   obtain ⟨G, hG⟩ : ∃ G, goneM T (X.take k) = G := ⟨_, rfl⟩
   obtain ⟨Y, hY⟩ : ∃ Y, stayM T (X.take k) = Y := ⟨_, rfl⟩
   rw [hG] at HGr HGX
   rw [hY] at HSr HSX
   rw [hG, hY] at hgl
   clear hx hG hY
   go_upto_region 7 with fail
   refine wp_text 2 [.eq (.pointer (some ⟨ga, oa + k * 9, none⟩)), .eq (x.v)] rfl (by kernel_rfl) ?_ ?_
   ·refine sv 1 rfl rfl rfl (fun a u hE hD hk => exec_ixo slO (.tmp 20) (.tmp 22) (ga) (oa) an ca k (oa + k * 9) ((k : Int)) rfl (hE 20 (.slice (some ⟨ga, oa, none⟩) an ca) (by kernel_rfl) (by kernel_rfl)) (hE 22 (.int .i64 (k : Int)) (by kernel_rfl) (by kernel_rfl)) (by first | rfl | omega) (hkm) (by first | rfl | omega)) ?_
    refine sv 2 rfl rfl rfl (fun a u hE hD hk => exec_ldS 24 _ (.tmp 24) (ga) (oa + k * 9) (x.cells) rfl (hD 0 24 (by kernel_rfl)) (range_kept HX.out hk) Try.underlying24 (by rw [x.len9]; exact ord_size)) ?_
    exact fsteps_nil
   intro gv w5 hV k5
   rw [show dstsOf _ 2 = [24, 25] by kernel_rfl]
   simp only [fC, fN, sA, sS, sZ, dS, dZ]
   rw [show gv 25 = x.v from hV 1 25 (by kernel_rfl)]
   clear hV
   refine l_new (o := ⟨some 9, _, _, _, _, _⟩) (.pointer (some ⟨w5.heap.size, 0, none⟩)) (w5.alloc (.cells zeroO.cells.toArray 24)) rfl (exec_alc 24 zeroO.cells rfl zO) ?_
   have hNw6 := Blk.new w5 24 zeroO.cells
   have kw6 : Kept w5 (w5.alloc (.cells zeroO.cells.toArray 24)) := (Keep.refl _ w5).alloc _
   generalize w5.alloc (.cells zeroO.cells.toArray 24) = w6 at hNw6 kw6 ⊢
   simp only [Act.put, sA, sS, sZ]
   refine l_setS (o := ⟨none, _, _, _, _, _⟩) 24 w5.heap.size 24 zeroO.cells x.cells (.tmp 9) (.tmp 25) rfl rfl (by kernel_rfl) (by kernel_rfl) (hNw6) (by rw [Ord.len9]; exact ord_size) (by rw [Ord.len9, Ord.len9]) (Ord.one1 _) ?_
   intro w7 hCw7 hkw7 hsw7
   simp only [Act.put]
   refine wpList_nil ?_
   obtain ⟨b9, h9⟩ : ∃ a, w5.heap.size = a := ⟨_, rfl⟩
   rw [h9] at hNw6 hCw7 hkw7 ⊢
   have z5 := k5.size
   have kr7 : Kept wr w7 := (k5.trans kw6).trans' hkw7 (by omega)
   have HX7 := Lib.hid (blk_range hCw7)
   have HS7 := Lib.hid (HSr.out.kept kr7)
   have HG7 := Lib.hid (HGr.out.kept kr7)
   have k37 := hkr.trans kr7
   clear hNw6 hCw7 hkw7 hsw7 kw6 k5 HX HSr HGr hkr kr7
   obtain ⟨bb, hbb⟩ : ∃ b, bitB T x.tr = b := ⟨_, rfl⟩
   have HB := Lib.hid hbb
   rw [hbb] at HGX HSX
   clear hbb
   go_upto_region 8 with fail
   refine wp_text 6 [.eq (.int .u64 T), .eq (.pointer (some ⟨b9, 0, none⟩)), .eq (.int .i64 x.tr), .eq (.int .u64 (shrU T x.tr)), .eq (.int .u64 (bits .and .u64 (shrU T x.tr) 1)), .eq (.bool bb)] rfl (by kernel_rfl) ?_ ?_
   ·refine sv 1 rfl rfl rfl (fun a u hE hD hk => exec_move (.tmp 1) _ rfl (hE 1 (.int .u64 T) (by kernel_rfl) (by kernel_rfl))) ?_
    refine sv 2 rfl rfl rfl (fun a u hE hD hk => exec_fldo 24 0 0 (.tmp 9) (b9) (0) (0) rfl (hE 9 (.pointer (some ⟨b9, 0, none⟩)) (by kernel_rfl) (by kernel_rfl)) (by kernel_rfl) rfl) ?_
    refine sv 3 rfl rfl rfl (fun a u hE hD hk => exec_loadi 3 Try.underlying3 (.tmp 27) ⟨b9, 0, none⟩ (.int .i64 x.tr) rfl (hD 1 27 (by kernel_rfl)) (range_int (range_kept HX7.out hk) 0 _ rfl)) ?_
    refine sv 4 rfl rfl rfl (fun a u hE hD hk => exec_shrU (.tmp 26) (.tmp 28) _ _ T x.tr rfl (hD 0 26 (by kernel_rfl)) (hD 2 28 (by kernel_rfl)) h0) ?_
    refine sv 5 rfl rfl rfl (fun a u hE hD hk => exec_andU (.tmp 29) (.const (.int .u64 1)) _ _ (shrU T x.tr) 1 rfl (hD 3 29 (by kernel_rfl)) rfl) ?_
    refine sv 6 rfl rfl rfl (fun a u hE hD hk => exec_eqU (.tmp 30) (.const (.int .u64 1)) _ _ _ 1 bb rfl (hD 4 30 (by kernel_rfl)) rfl HB.out) ?_
    exact fsteps_nil
   intro gv w8 hV k8
   rw [show dstsOf _ 6 = [26, 27, 28, 29, 30, 31] by kernel_rfl]
   simp only [fC, fN, sA, sS, sZ, dS, dZ]
   rw [show gv 31 = .bool bb from hV 5 31 (by kernel_rfl)]
   clear hV
   refine wpList_nil ?_
   have HX8 := Lib.hid (range_kept HX7.out k8)
   have HS8 := Lib.hid (HS7.out.kept k8)
   have HG8 := Lib.hid (HG7.out.kept k8)
   have k38 := k37.trans k8
   have z8 := k38.size
   clear HX7 HS7 HG7 k37 k8
   cases bb with
   | true =>
    have HSn : Hid (stayM T (X.take (k + 1)) = Y) := by show _ = _; rw [HSX.out]; simp
    have HGn : Hid (goneM T (X.take (k + 1)) = G ++ [x]) := by show _ = _; rw [HGX.out]; rfl
    go_upto_region 9 with fail
    refine wp_text 3 [.eq (g), .eq (x.v), .sl w8.heap.size 24 9 1 x.cells] rfl (by kernel_rfl) ?_ ?_
    ·refine sv 1 rfl rfl rfl (fun a u hE hD hk => exec_move (.tmp 7) _ rfl (hE 7 (g) (by kernel_rfl) (by kernel_rfl))) ?_
     refine sv 2 rfl rfl rfl (fun a u hE hD hk => exec_ldS 24 _ (.tmp 9) (b9) (0) (x.cells) rfl (hE 9 (.pointer (some ⟨b9, 0, none⟩)) (by kernel_rfl) (by kernel_rfl)) (range_kept HX8.out hk) Try.underlying24 (by rw [x.len9]; exact ord_size)) ?_
     refine fsteps_cons 3 rfl (fun a u hE hD hk => f_new (o := ⟨some 34, _, _, _, _, _⟩) (.slice (some ⟨u.heap.size, 0, none⟩) 1 1) _ rfl (wanted_none rfl _) (exec_oneS slO (.tmp 33) x.cells (by omega) rfl (hD 1 33 (by kernel_rfl)) (x.len9)) (sl_one u 24 9 _ w8.heap.size (x.len9) (by omega) hk.size) ((Keep.refl _ u).alloc _)) ?_
     exact fsteps_nil
    intro gv we hV ke
    rw [show dstsOf _ 3 = [32, 33, 34] by kernel_rfl]
    simp only [fC, fN, sA, sS, sZ, dS, dZ]
    rw [show gv 32 = g from hV 0 32 (by kernel_rfl)]
    have hv34 : (.sl w8.heap.size 24 9 1 x.cells : Kn).p (gv 34) we := hV 2 34 (by kernel_rfl)
    generalize gv 34 = v34 at hv34 ⊢
    clear hV
    obtain ⟨v', wb, hrb, hsb, hkb, hob0⟩ := run_append_sl slO 35 we g v34 G.length 1 (ords G) x.cells (HG8.out.kept ke) hv34.1 (Ord.one1 _) (by unfold maxLen; omega) (by omega)
    have ze := ke.size
    have hob : ∀ b, v'.ownBlock = some b → g.ownBlock = some b ∨ w8.heap.size ≤ b := fun b hb => (hob0 b hb).imp id (fun h => by omega)
    refine l_new (o := ⟨some 35, _, _, _, _, _⟩) v' wb rfl (exec_appS slO (.tmp 32) (.tmp 34) g v34 rfl (by kernel_rfl) (by kernel_rfl) v' wb hrb) ?_
    simp only [Act.put, sA, sS, sZ]
    refine l_val (o := ⟨some 7, _, _, _, _, _⟩) (v') rfl (exec_assign (.tmp 35) (v') rfl (by kernel_rfl)) ?_
    simp only [Act.put, sA, sS, sZ]
    refine wpList_nil ?_
    have Kb : Keep (fun b => g.ownBlock = some b) w8 wb := Keep.any ke hkb
    have HGb : Hid (Sl wb 24 9 v' (goneM T (X.take (k + 1))).length (ords (goneM T (X.take (k + 1))))) := by rw [HGn.out, ords_snoc, List.length_append]; exact Lib.hid hsb
    have HSb : Hid (Sl wb 24 9 s (stayM T (X.take (k + 1))).length (ords (stayM T (X.take (k + 1))))) := by rw [HSn.out]; exact Lib.hid (HS8.out.keep Kb (fun b hb h => (HOg.out b h).2 hb))
    have HOg2 : Hid (∀ b, v'.ownBlock = some b → w3.heap.size ≤ b ∧ s.ownBlock ≠ some b) := fun b hb => (hob b hb).elim (HOg.out b) (fun h => ⟨by omega, fun h2 => by have := HS8.out.lt h2; omega⟩)
    have k3b : Kept w3 wb := Keep.trans (S := fun _ => False) k38 Kb (fun b hb h => by have := (HOg.out b h).1; omega)
    clear hrb hsb hkb hob0 hob ke Kb HG8 HS8 k38 HX8 HOg HSn HGn
    go_wp2
    exact ⟨⟨k + 1, s, v', by omega, rfl, rfl, by go_num, HSb, HGb, HOs, HOg2, k3b⟩, by simp [intOf]; omega⟩
   | false =>
    have HGn : Hid (goneM T (X.take (k + 1)) = G) := by show _ = _; rw [HGX.out]; simp
    have HSn : Hid (stayM T (X.take (k + 1)) = Y ++ [x]) := by show _ = _; rw [HSX.out]; rfl
    go_upto_region 10 with fail
    refine wp_text 3 [.eq (s), .eq (x.v), .sl w8.heap.size 24 9 1 x.cells] rfl (by kernel_rfl) ?_ ?_
    ·refine sv 1 rfl rfl rfl (fun a u hE hD hk => exec_move (.tmp 6) _ rfl (hE 6 (s) (by kernel_rfl) (by kernel_rfl))) ?_
     refine sv 2 rfl rfl rfl (fun a u hE hD hk => exec_ldS 24 _ (.tmp 9) (b9) (0) (x.cells) rfl (hE 9 (.pointer (some ⟨b9, 0, none⟩)) (by kernel_rfl) (by kernel_rfl)) (range_kept HX8.out hk) Try.underlying24 (by rw [x.len9]; exact ord_size)) ?_
     refine fsteps_cons 3 rfl (fun a u hE hD hk => f_new (o := ⟨some 38, _, _, _, _, _⟩) (.slice (some ⟨u.heap.size, 0, none⟩) 1 1) _ rfl (wanted_none rfl _) (exec_oneS slO (.tmp 37) x.cells (by omega) rfl (hD 1 37 (by kernel_rfl)) (x.len9)) (sl_one u 24 9 _ w8.heap.size (x.len9) (by omega) hk.size) ((Keep.refl _ u).alloc _)) ?_
     exact fsteps_nil
    intro gv we hV ke
    rw [show dstsOf _ 3 = [36, 37, 38] by kernel_rfl]
    simp only [fC, fN, sA, sS, sZ, dS, dZ]
    rw [show gv 36 = s from hV 0 36 (by kernel_rfl)]
    have hv38 : (.sl w8.heap.size 24 9 1 x.cells : Kn).p (gv 38) we := hV 2 38 (by kernel_rfl)
    generalize gv 38 = v38 at hv38 ⊢
    clear hV
    obtain ⟨v', wb, hrb, hsb, hkb, hob0⟩ := run_append_sl slO 35 we s v38 Y.length 1 (ords Y) x.cells (HS8.out.kept ke) hv38.1 (Ord.one1 _) (by unfold maxLen; omega) (by omega)
    have ze := ke.size
    have hob : ∀ b, v'.ownBlock = some b → s.ownBlock = some b ∨ w8.heap.size ≤ b := fun b hb => (hob0 b hb).imp id (fun h => by omega)
    refine l_new (o := ⟨some 39, _, _, _, _, _⟩) v' wb rfl (exec_appS slO (.tmp 36) (.tmp 38) s v38 rfl (by kernel_rfl) (by kernel_rfl) v' wb hrb) ?_
    simp only [Act.put, sA, sS, sZ]
    refine l_val (o := ⟨some 6, _, _, _, _, _⟩) (v') rfl (exec_assign (.tmp 39) (v') rfl (by kernel_rfl)) ?_
    simp only [Act.put, sA, sS, sZ]
    refine wpList_nil ?_
    have Kb : Keep (fun b => s.ownBlock = some b) w8 wb := Keep.any ke hkb
    have HSb : Hid (Sl wb 24 9 v' (stayM T (X.take (k + 1))).length (ords (stayM T (X.take (k + 1))))) := by rw [HSn.out, ords_snoc, List.length_append]; exact Lib.hid hsb
    have HGb : Hid (Sl wb 24 9 g (goneM T (X.take (k + 1))).length (ords (goneM T (X.take (k + 1))))) := by rw [HGn.out]; exact Lib.hid (HG8.out.keep Kb (fun b hb h => (HOg.out b hb).2 h))
    have HOs2 : Hid (∀ b, v'.ownBlock = some b → w3.heap.size ≤ b) := fun b hb => (hob b hb).elim (HOs.out b) (fun h => by omega)
    have HOg2 : Hid (∀ b, g.ownBlock = some b → w3.heap.size ≤ b ∧ v'.ownBlock ≠ some b) := fun b hb => ⟨(HOg.out b hb).1, fun h => (hob b h).elim (HOg.out b hb).2 (fun h => by have := HG8.out.lt hb; omega)⟩
    have k3b : Kept w3 wb := Keep.trans (S := fun _ => False) k38 Kb (fun b hb h => by have := HOs.out b h; omega)
    clear hrb hsb hkb hob0 hob ke Kb HG8 HS8 k38 HX8 HOg HOs HSn HGn
    go_wp2
    exact ⟨⟨k + 1, v', g, by omega, rfl, rfl, by go_num, HSb, HGb, HOs2, HOg2, k3b⟩, by simp [intOf]; omega⟩
  ·have hke : X.take k = X := by rw [show k = X.length by rw [HAN.out]; omega, List.take_length]
   have hgl := HGl.out k
   rw [hke] at HSr HGr hgl
   have HMr := Lib.hid (HM3.out.kept hkr)
   have kwr := kw3.trans hkr
   have HMM : Hid (∀ u, Mk u F p M → Calls Try.prog 18 #[.pointer (some ⟨p, 0, none⟩), .int .u64 T] u (MassIn u F p (massL T X M) (goneM T X))) := fun u hu => by rw [← HXX.out]; exact mmass_any u F p M T hu HI.out
   obtain ⟨G, hG⟩ : ∃ G, goneM T X = G := ⟨_, rfl⟩
   obtain ⟨Y, hY⟩ : ∃ Y, stayM T X = Y := ⟨_, rfl⟩
   obtain ⟨M2, hM2⟩ : ∃ M2, massL T X M = M2 := ⟨_, rfl⟩
   rw [hG] at HGr HMM
   rw [hY] at HSr HMS HSF
   rw [hM2] at HMM HMS HMI
   rw [hG, hY] at hgl
   have HSo : Hid (∀ b, s.ownBlock = some b → ¬ F b) := fun b hb h => by have := HOs.out b hb; have := HFl.out b h; omega
   have HGo : Hid (∀ b, g.ownBlock = some b → ¬ F b) := fun b hb h => by have := (HOg.out b hb).1; have := HFl.out b h; omega
   clear hke hG hY hM2 HGl HOs HOg HA3 HVa HVF HFl HM3 kw3 hkr HFa
   go_upto_region 12 with fail
   refine wp_text 2 [.eq (.pointer (some ⟨p, 0, none⟩)), .eq (.int .u64 T)] rfl (by kernel_rfl) ?_ ?_
   ·refine sv 1 rfl rfl rfl (fun a u hE hD hk => exec_move (.tmp 5) _ rfl (hE 5 (.pointer (some ⟨p, 0, none⟩)) (by kernel_rfl) (by kernel_rfl))) ?_
    refine sv 2 rfl rfl rfl (fun a u hE hD hk => exec_move (.tmp 1) _ rfl (hE 1 (.int .u64 T) (by kernel_rfl) (by kernel_rfl))) ?_
    exact fsteps_nil
   intro gv w5 hV k5
   rw [show dstsOf _ 2 = [41, 42] by kernel_rfl]
   simp only [fC, fN, sA, sS, sZ, dS, dZ]
   rw [show gv 41 = .pointer (some ⟨p, 0, none⟩) from hV 0 41 (by kernel_rfl)]
   rw [show gv 42 = .int .u64 T from hV 1 42 (by kernel_rfl)]
   clear hV
   refine l_call (o := ⟨some 43, _, _, _, _, _⟩) 18 #[.pointer (some ⟨p, 0, none⟩), .int .u64 T] rfl (exec_call 18 _ [.tmp 41, .tmp 42] _ _ Try.func18 (by kernel_rfl) (by kernel_rfl) rfl (by kernel_rfl) _) ?_
   refine (HMM.out w5 (HMr.out.kept k5)).mono ?_
   rintro r w6 ⟨F6, v10, rfl, hM6, hS6, hO6, hG6, hk6⟩
   refine ⟨v10, rfl, ?_⟩
   simp only [Act.put, sA, sS, sZ]
   refine l_val (o := ⟨some 10, _, _, _, _, _⟩) (v10) rfl (exec_assign (.tmp 43) (v10) rfl (by kernel_rfl)) ?_
   simp only [Act.put, sA, sS, sZ]
   refine wpList_nil ?_
   have K6 : Keep F wr w6 := Keep.any k5 hk6
   have HM6 := Lib.hid hM6
   have HV6 := Lib.hid hS6
   have HS6 := Lib.hid (HSr.out.keep K6 (fun b hb => HSo.out b hb))
   have HG6 := Lib.hid (HGr.out.keep K6 (fun b hb => HGo.out b hb))
   have kw6 : Kept w w6 := Keep.trans (S := fun _ => False) kwr K6 (fun b hb h => by have := HF.out b h; omega)
   have hml : M2.all.length ≤ 64 := HMI.out.all_few
   have hmw : M2.w.length ≤ 64 := by have := HMI.out.few; omega
   clear hM6 hS6 hO6 hG6 hk6 K6 k5 HSr HGr HMr kwr HSo HGo HMM
   go_upto_region 13 with fail
   refine wp_text 11 [.eq (v10), .eq (g), .eq (.bool true), .eq (.bool false), .eq (.bool false), .eq (.pointer (some ⟨p, 0, none⟩)), .sl w6.heap.size 24 9 M2.all.length (ords M2.all), .eq (s), .eq (.bool true), .eq (.bool false), .eq (.bool false)] rfl (by kernel_rfl) ?_ ?_
   ·refine sv 1 rfl rfl rfl (fun a u hE hD hk => exec_move (.tmp 10) _ rfl (hE 10 (v10) (by kernel_rfl) (by kernel_rfl))) ?_
    refine sv 2 rfl rfl rfl (fun a u hE hD hk => exec_move (.tmp 7) _ rfl (hE 7 (g) (by kernel_rfl) (by kernel_rfl))) ?_
    refine fsteps_cons 3 rfl (fun a u hE hD hk => f_call (o := ⟨some 46, _, _, _, _, _⟩) 19 #[v10, g] rfl (wanted_none rfl _) (exec_call 19 _ [.tmp 44, .tmp 45] _ [v10, g] Try.func19 (by kernel_rfl) (by kernel_rfl) rfl (show [a.eval (.tmp 44), a.eval (.tmp 45)] = [v10, g] from (by rw [show a.eval (.tmp 44) = v10 from (hD 0 44 (by kernel_rfl)), show a.eval (.tmp 45) = g from (hD 1 45 (by kernel_rfl))] <;> rfl)) u) ((by have h := sameO_any v10 g 0 0 G G u (HV6.out.kept hk) (HG6.out.kept hk) (by omega) (by omega); rw [decide_eq_true rfl] at h; exact h))) ?_
    refine sv 4 rfl rfl rfl (fun a u hE hD hk => exec_not _ (.tmp 46) true rfl (hD 2 46 (by kernel_rfl))) ?_
    refine sv 5 rfl rfl rfl (fun a u hE hD hk => exec_move (.tmp 47) _ rfl (hD 3 47 (by kernel_rfl))) ?_
    refine fsteps_cons 6 rfl (fun a u hE hD hk => f_val (o := ⟨some 49, _, _, _, _, _⟩) (.pointer (some ⟨p, 0, none⟩)) rfl (wanted_at (b := false) false rfl rfl (hD 4 48 (by kernel_rfl))) (exec_move (.tmp 5) _ rfl (hE 5 (.pointer (some ⟨p, 0, none⟩)) (by kernel_rfl) (by kernel_rfl))) rfl) ?_
    refine fsteps_cons 7 rfl (fun a u hE hD hk => f_call (o := ⟨some 50, _, _, _, _, _⟩) 13 #[.pointer (some ⟨p, 0, none⟩)] rfl (wanted_at (b := false) false rfl rfl (hD 4 48 (by kernel_rfl))) (exec_call 13 _ [.tmp 49] _ [.pointer (some ⟨p, 0, none⟩)] Try.func13 (by kernel_rfl) (by kernel_rfl) rfl (show [a.eval (.tmp 49)] = [.pointer (some ⟨p, 0, none⟩)] from (by rw [show a.eval (.tmp 49) = .pointer (some ⟨p, 0, none⟩) from (hD 5 49 (by kernel_rfl))] <;> rfl)) u) ((mall_any u F6 p M2 (HM6.out.kept hk) HMI.out.inv (by omega)).base hk.size)) ?_
    refine fsteps_cons 8 rfl (fun a u hE hD hk => f_val (o := ⟨some 51, _, _, _, _, _⟩) (s) rfl (wanted_at (b := false) false rfl rfl (hD 4 48 (by kernel_rfl))) (exec_move (.tmp 6) _ rfl (hE 6 (s) (by kernel_rfl) (by kernel_rfl))) rfl) ?_
    refine fsteps_cons 9 rfl (fun a u hE hD hk => f_call (o := ⟨some 52, _, _, _, _, _⟩) 19 #[a.eval (.tmp 50), s] rfl (wanted_at (b := false) false rfl rfl (hD 4 48 (by kernel_rfl))) (exec_call 19 _ [.tmp 50, .tmp 51] _ [a.eval (.tmp 50), s] Try.func19 (by kernel_rfl) (by kernel_rfl) rfl (show [a.eval (.tmp 50), a.eval (.tmp 51)] = [a.eval (.tmp 50), s] from (by rw [show a.eval (.tmp 51) = s from (hD 7 51 (by kernel_rfl))] <;> rfl)) u) ((by have h := sameO_any (a.eval (.tmp 50)) s 0 0 M2.all Y u (hD 6 50 (by kernel_rfl)).1 (HS6.out.kept hk) (by omega) (by omega); rw [decide_eq_true HMS.out] at h; exact h))) ?_
    refine fsteps_cons 10 rfl (fun a u hE hD hk => f_val (o := ⟨some 53, _, _, _, _, _⟩) (.bool false) rfl (wanted_at (b := false) false rfl rfl (hD 4 48 (by kernel_rfl))) (exec_not _ (.tmp 52) true rfl (hD 8 52 (by kernel_rfl))) rfl) ?_
    refine sv 11 rfl rfl rfl (fun a u hE hD hk => exec_pickF (.tmp 48) (.const (.bool true)) (.tmp 53) (.bool false) rfl (hD 4 48 (by kernel_rfl)) (hD 9 53 (by kernel_rfl))) ?_
    exact fsteps_nil
   intro gv w7 hV k7
   rw [show dstsOf _ 11 = [44, 45, 46, 47, 48, 49, 50, 51, 52, 53, 54] by kernel_rfl]
   simp only [fC, fN, sA, sS, sZ, dS, dZ]
   rw [show gv 54 = .bool false from hV 10 54 (by kernel_rfl)]
   clear hV
   refine wpList_nil ?_
   obtain ⟨m, hm⟩ : ∃ m, Y.length = m := ⟨_, rfl⟩
   have HYm := Lib.hid hm
   have HS7 : Hid (Sl w7 24 9 s m (ords Y)) := by rw [← hm]; exact Lib.hid (HS6.out.kept k7)
   have HM7 := Lib.hid (HM6.out.kept k7)
   have kw7 := kw6.trans k7
   have hm64 : m ≤ 64 := by omega
   clear HS6 HM6 HV6 HG6 k7 kw6 hm hgl
   go_wp2_with fail
   go_loopw [11] (fun tt wr => ∃ (t : Nat), t ≤ 6 ∧ tt = .int .i64 (t : Int) ∧ Kept w7 wr) (fun tt _ => 6 - (intOf tt).toNat)
   case atStart => exact ⟨0, by omega, rfl, Kept.refl _⟩
   case round =>
    obtain ⟨t, ht, rfl, hkr⟩ := hrel
    by_cases ht6 : t < 6
    ·have HSr := Lib.hid (HS7.out.kept hkr)
     have HMr := Lib.hid (HM7.out.kept hkr)
     go_upto_region 19 with fail
     refine wp_text 3 [.eq (s), .eq (.int .i64 (m : Int)), .eq (.int .i64 0)] rfl (by kernel_rfl) ?_ ?_
     ·refine sv 1 rfl rfl rfl (fun a u hE hD hk => exec_move (.tmp 6) _ rfl (hE 6 (s) (by kernel_rfl) (by kernel_rfl))) ?_
      refine sv 2 rfl rfl rfl (fun a u hE hD hk => exec_lenS (.tmp 59) slO (s) (m) _ _ rfl (hD 0 59 (by kernel_rfl)) (HSr.out.kept hk)) ?_
      refine sv 3 rfl rfl rfl (fun a u hE hD hk => exec_move (.const (.int .i64 0)) _ rfl rfl) ?_
      exact fsteps_nil
     intro gv w8 hV k8
     rw [show dstsOf _ 3 = [59, 60, 61] by kernel_rfl]
     simp only [fC, fN, sA, sS, sZ, dS, dZ]
     rw [show gv 59 = s from hV 0 59 (by kernel_rfl)]
     rw [show gv 60 = .int .i64 (m : Int) from hV 1 60 (by kernel_rfl)]
     rw [show gv 61 = .int .i64 0 from hV 2 61 (by kernel_rfl)]
     clear hV
     refine wpList_nil ?_
     have HS8 := Lib.hid (HSr.out.kept k8)
     have HM8 := Lib.hid (HMr.out.kept k8)
     have k78 := hkr.trans k8
     clear HSr HMr hkr k8
     go_wp2_with fail
     go_loopw [12, 61] (fun s0 x wr => ∃ (k : Nat), k ≤ m ∧ x = .int .i64 (k : Int) ∧ s0 = .int .i64 (openM (t : Int) (Y.take k)) ∧ Kept w8 wr) (fun s0 x _ => m - (intOf x).toNat)
     case atStart => exact ⟨0, Nat.zero_le _, rfl, rfl, Kept.refl _⟩
     case round =>
      obtain ⟨kj, hkj, rfl, rfl, hkr⟩ := hrel
      by_cases hkmj : kj < m
      ·obtain ⟨gs, os, cs, rfl⟩ := HS8.out.some_ (by omega)
       obtain ⟨x, hx⟩ : ∃ e, Y[kj]? = some e := ⟨Y[kj]'(by rw [HYm.out]; exact hkmj), List.getElem?_eq_getElem _⟩
       have HX : Hid (wr.rangeAt gs (os + kj * 9) x.cells) := range_kept (HS8.out.rngO kj x hx) hkr
       have HNX := Lib.hid (openM_next (t : Int) Y kj x hx)
       have hin := openM_in (t : Int) (Y.take kj) (fun o ho => HSF.out o (List.mem_of_mem_take ho))
       have hfx := HSF.out x (List.mem_of_getElem? hx)
       have hq0 := hfx.qty0
       have hq1 := hfx.qty1
       have hl64 : (Y.take kj).length ≤ 64 := by rw [List.length_take]; omega
       have HQ : Hid (qtyOf (t : Int) x = if x.tr = (t : Int) then x.qty else 0) := rfl
       obtain ⟨s0, hs0⟩ : ∃ s, openM (t : Int) (Y.take kj) = s := ⟨_, rfl⟩
       rw [hs0] at hin HNX ⊢
       clear hx hfx hs0
       go_upto_region 21 with fail
       refine wp_text 2 [.eq (.pointer (some ⟨gs, os + kj * 9, none⟩)), .eq (x.v)] rfl (by kernel_rfl) ?_ ?_
       ·refine sv 1 rfl rfl rfl (fun a u hE hD hk => exec_ixo slO (.tmp 59) (.tmp 61) (gs) (os) m cs kj (os + kj * 9) ((kj : Int)) rfl (hE 59 (.slice (some ⟨gs, os, none⟩) m cs) (by kernel_rfl) (by kernel_rfl)) (hE 61 (.int .i64 (kj : Int)) (by kernel_rfl) (by kernel_rfl)) (by first | rfl | omega) (hkmj) (by first | rfl | omega)) ?_
        refine sv 2 rfl rfl rfl (fun a u hE hD hk => exec_ldS 24 _ (.tmp 63) (gs) (os + kj * 9) (x.cells) rfl (hD 0 63 (by kernel_rfl)) (range_kept HX.out hk) Try.underlying24 (by rw [x.len9]; exact ord_size)) ?_
        exact fsteps_nil
       intro gv wa hV ka
       rw [show dstsOf _ 2 = [63, 64] by kernel_rfl]
       simp only [fC, fN, sA, sS, sZ, dS, dZ]
       rw [show gv 64 = x.v from hV 1 64 (by kernel_rfl)]
       clear hV
       refine l_new (o := ⟨some 14, _, _, _, _, _⟩) (.pointer (some ⟨wa.heap.size, 0, none⟩)) (wa.alloc (.cells zeroO.cells.toArray 24)) rfl (exec_alc 24 zeroO.cells rfl zO) ?_
       have hNwb := Blk.new wa 24 zeroO.cells
       have kwb : Kept wa (wa.alloc (.cells zeroO.cells.toArray 24)) := (Keep.refl _ wa).alloc _
       generalize wa.alloc (.cells zeroO.cells.toArray 24) = wb at hNwb kwb ⊢
       simp only [Act.put, sA, sS, sZ]
       refine l_setS (o := ⟨none, _, _, _, _, _⟩) 24 wa.heap.size 24 zeroO.cells x.cells (.tmp 14) (.tmp 64) rfl rfl (by kernel_rfl) (by kernel_rfl) (hNwb) (by rw [Ord.len9]; exact ord_size) (by rw [Ord.len9, Ord.len9]) (Ord.one1 _) ?_
       intro wc hCwc hkwc hswc
       simp only [Act.put]
       refine wpList_nil ?_
       obtain ⟨b14, h14⟩ : ∃ a, wa.heap.size = a := ⟨_, rfl⟩
       rw [h14] at hNwb hCwc hkwc ⊢
       have za := ka.size
       have k8c : Kept w8 wc := hkr.trans ((ka.trans kwb).trans' hkwc (by omega))
       have HXc := Lib.hid (blk_range hCwc)
       clear hNwb hCwc hkwc hswc kwb ka hkr HX
       by_cases hxt : x.tr = (t : Int)
       ·have HQt : Hid (s0 + x.qty = openM (t : Int) (Y.take (kj + 1))) := by show _ = _; rw [HNX.out, HQ.out, if_pos hxt]
        go_upto_region 22 with fail
        refine wp_text 4 [.eq (.pointer (some ⟨b14, 0, none⟩)), .eq (.int .i64 x.tr), .eq (.int .i64 (t : Int)), .eq (.bool true)] rfl (by kernel_rfl) ?_ ?_
        ·refine sv 1 rfl rfl rfl (fun a u hE hD hk => exec_fldo 24 0 0 (.tmp 14) (b14) (0) (0) rfl (hE 14 (.pointer (some ⟨b14, 0, none⟩)) (by kernel_rfl) (by kernel_rfl)) (by kernel_rfl) rfl) ?_
         refine sv 2 rfl rfl rfl (fun a u hE hD hk => exec_loadi 3 Try.underlying3 (.tmp 65) ⟨b14, 0, none⟩ (.int .i64 x.tr) rfl (hD 0 65 (by kernel_rfl)) (range_int (range_kept HXc.out hk) 0 _ rfl)) ?_
         refine sv 3 rfl rfl rfl (fun a u hE hD hk => exec_move (.tmp 11) _ rfl (hE 11 (.int .i64 (t : Int)) (by kernel_rfl) (by kernel_rfl))) ?_
         refine fsteps_cons 4 rfl (fun a u hE hD hk => f_as (show ((decide ((x.tr : Int) = ((t : Int) : Int))) : Bool) = true from decide_eq_true hxt) (f_val (o := ⟨some 68, _, _, _, _, _⟩) (.bool (decide ((x.tr : Int) = ((t : Int) : Int)))) rfl (wanted_none rfl _) (exec_eqn (p := x.tr) (q := (t : Int)) rfl (hD 1 66 (by kernel_rfl)) (hD 2 67 (by kernel_rfl))) rfl)) ?_
         exact fsteps_nil
        intro gv wd hV kd
        rw [show dstsOf _ 4 = [65, 66, 67, 68] by kernel_rfl]
        simp only [fC, fN, sA, sS, sZ, dS, dZ]
        rw [show gv 68 = .bool true from hV 3 68 (by kernel_rfl)]
        clear hV
        refine wpList_nil ?_
        have HXd := Lib.hid (range_kept HXc.out kd)
        have k8d := k8c.trans kd
        clear HXc k8c kd
        go_upto_region 23 with fail
        refine wp_text 4 [.eq (.int .i64 s0), .eq (.pointer (some ⟨b14, 6, none⟩)), .eq (.int .i64 x.qty), .eq (.int .i64 ((s0 : Int) + (x.qty : Int)))] rfl (by kernel_rfl) ?_ ?_
        ·refine sv 1 rfl rfl rfl (fun a u hE hD hk => exec_move (.tmp 12) _ rfl (hE 12 (.int .i64 s0) (by kernel_rfl) (by kernel_rfl))) ?_
         refine sv 2 rfl rfl rfl (fun a u hE hD hk => exec_fldo 24 6 6 (.tmp 14) (b14) (0) (6) rfl (hE 14 (.pointer (some ⟨b14, 0, none⟩)) (by kernel_rfl) (by kernel_rfl)) (by kernel_rfl) rfl) ?_
         refine sv 3 rfl rfl rfl (fun a u hE hD hk => exec_loadi 3 Try.underlying3 (.tmp 70) ⟨b14, 6, none⟩ (.int .i64 x.qty) rfl (hD 1 70 (by kernel_rfl)) (range_int (range_kept HXd.out hk) 6 _ rfl)) ?_
         refine sv 4 rfl rfl rfl (fun a u hE hD hk => exec_addn (p := (s0)) (q := (x.qty)) ((s0 : Int) + (x.qty : Int)) rfl (hD 0 69 (by kernel_rfl)) (hD 2 71 (by kernel_rfl)) rfl (by omega) (by omega)) ?_
         exact fsteps_nil
        intro gv we hV ke
        rw [show dstsOf _ 4 = [69, 70, 71, 72] by kernel_rfl]
        simp only [fC, fN, sA, sS, sZ, dS, dZ]
        rw [show gv 72 = .int .i64 ((s0 : Int) + (x.qty : Int)) from hV 3 72 (by kernel_rfl)]
        clear hV
        refine l_val (o := ⟨some 12, _, _, _, _, _⟩) (.int .i64 ((s0 : Int) + (x.qty : Int))) rfl (exec_assign (.tmp 72) (.int .i64 ((s0 : Int) + (x.qty : Int))) rfl (by kernel_rfl)) ?_
        simp only [Act.put, sA, sS, sZ]
        refine wpList_nil ?_
        rw [HQt.out]
        have k8e := k8d.trans ke
        clear HXd k8d ke
        go_wp2
        exact ⟨⟨kj + 1, by omega, by go_num, rfl, k8e⟩, by simp [intOf]; omega⟩
       ·have HQt : Hid (s0 = openM (t : Int) (Y.take (kj + 1))) := by show _ = _; rw [HNX.out, HQ.out, if_neg hxt]; omega
        go_upto_region 22 with fail
        refine wp_text 4 [.eq (.pointer (some ⟨b14, 0, none⟩)), .eq (.int .i64 x.tr), .eq (.int .i64 (t : Int)), .eq (.bool false)] rfl (by kernel_rfl) ?_ ?_
        ·refine sv 1 rfl rfl rfl (fun a u hE hD hk => exec_fldo 24 0 0 (.tmp 14) (b14) (0) (0) rfl (hE 14 (.pointer (some ⟨b14, 0, none⟩)) (by kernel_rfl) (by kernel_rfl)) (by kernel_rfl) rfl) ?_
         refine sv 2 rfl rfl rfl (fun a u hE hD hk => exec_loadi 3 Try.underlying3 (.tmp 65) ⟨b14, 0, none⟩ (.int .i64 x.tr) rfl (hD 0 65 (by kernel_rfl)) (range_int (range_kept HXc.out hk) 0 _ rfl)) ?_
         refine sv 3 rfl rfl rfl (fun a u hE hD hk => exec_move (.tmp 11) _ rfl (hE 11 (.int .i64 (t : Int)) (by kernel_rfl) (by kernel_rfl))) ?_
         refine fsteps_cons 4 rfl (fun a u hE hD hk => f_as (show ((decide ((x.tr : Int) = ((t : Int) : Int))) : Bool) = false from decide_eq_false hxt) (f_val (o := ⟨some 68, _, _, _, _, _⟩) (.bool (decide ((x.tr : Int) = ((t : Int) : Int)))) rfl (wanted_none rfl _) (exec_eqn (p := x.tr) (q := (t : Int)) rfl (hD 1 66 (by kernel_rfl)) (hD 2 67 (by kernel_rfl))) rfl)) ?_
         exact fsteps_nil
        intro gv wd hV kd
        rw [show dstsOf _ 4 = [65, 66, 67, 68] by kernel_rfl]
        simp only [fC, fN, sA, sS, sZ, dS, dZ]
        rw [show gv 68 = .bool false from hV 3 68 (by kernel_rfl)]
        clear hV
        refine wpList_nil ?_
        rw [HQt.out]
        have k8d := k8c.trans kd
        clear HXc k8c kd
        go_wp2
        exact ⟨⟨kj + 1, by omega, by go_num, rfl, k8d⟩, by simp [intOf]; omega⟩
      ·have HE : Hid (openM (t : Int) (Y.take kj) = openM (t : Int) M2.all) := by show _ = _; rw [HMS.out, show kj = Y.length by rw [HYm.out]; omega, List.take_length]
       rw [HE.out]
       have HMr := Lib.hid (HM8.out.kept hkr)
       have k7r := k78.trans hkr
       clear HE hkr
       obtain ⟨n, hn⟩ : ∃ n, openM (t : Int) M2.all = n := ⟨_, rfl⟩
       have HOn := Lib.hid hn
       rw [hn]
       clear hn
       go_upto_region 25 with fail
       refine wp_text 5 [.eq (.pointer (some ⟨p, 0, none⟩)), .eq (.int .i64 (t : Int)), .eq (.int .i64 n), .eq (.int .i64 n), .eq (.bool false)] rfl (by kernel_rfl) ?_ ?_
       ·refine sv 1 rfl rfl rfl (fun a u hE hD hk => exec_move (.tmp 5) _ rfl (hE 5 (.pointer (some ⟨p, 0, none⟩)) (by kernel_rfl) (by kernel_rfl))) ?_
        refine sv 2 rfl rfl rfl (fun a u hE hD hk => exec_move (.tmp 11) _ rfl (hE 11 (.int .i64 (t : Int)) (by kernel_rfl) (by kernel_rfl))) ?_
        refine fsteps_cons 3 rfl (fun a u hE hD hk => f_call (o := ⟨some 76, _, _, _, _, _⟩) 20 #[.pointer (some ⟨p, 0, none⟩), .int .i64 (t : Int)] rfl (wanted_none rfl _) (exec_call 20 _ [.tmp 74, .tmp 75] _ [.pointer (some ⟨p, 0, none⟩), .int .i64 (t : Int)] Try.func20 (by kernel_rfl) (by kernel_rfl) rfl (show [a.eval (.tmp 74), a.eval (.tmp 75)] = [.pointer (some ⟨p, 0, none⟩), .int .i64 (t : Int)] from (by rw [show a.eval (.tmp 74) = .pointer (some ⟨p, 0, none⟩) from (hD 0 74 (by kernel_rfl)), show a.eval (.tmp 75) = .int .i64 (t : Int) from (hD 1 75 (by kernel_rfl))] <;> rfl)) u) ((by rw [← HOn.out]; exact mopen_any u F6 p M2 (t : Int) (HMr.out.kept hk) HMI.out))) ?_
        refine sv 4 rfl rfl rfl (fun a u hE hD hk => exec_move (.tmp 12) _ rfl (hE 12 (.int .i64 n) (by kernel_rfl) (by kernel_rfl))) ?_
        refine fsteps_cons 5 rfl (fun a u hE hD hk => f_as (show ((decide ((n : Int) ≠ (n : Int))) : Bool) = false from decide_eq_false (by omega)) (f_val (o := ⟨some 78, _, _, _, _, _⟩) (.bool (decide ((n : Int) ≠ (n : Int)))) rfl (wanted_none rfl _) (exec_nen (p := n) (q := n) rfl (hD 2 76 (by kernel_rfl)) (hD 3 77 (by kernel_rfl))) rfl)) ?_
        exact fsteps_nil
       intro gv wa hV ka
       rw [show dstsOf _ 5 = [74, 75, 76, 77, 78] by kernel_rfl]
       simp only [fC, fN, sA, sS, sZ, dS, dZ]
       rw [show gv 78 = .bool false from hV 4 78 (by kernel_rfl)]
       clear hV
       refine wpList_nil ?_
       have k7a := k7r.trans ka
       clear k7r ka HMr
       go_wp2
       exact ⟨⟨t + 1, by omega, by go_num, k7a⟩, by simp [intOf]; omega⟩
    ·have kwr := kw7.trans hkr
     go_upto_region 27 with fail
     refine wp_region_lit ?_
     refine l_call (o := ⟨some 79, _, _, _, _, _⟩) 3 #[] rfl (exec_call 3 _ [] _ _ Try.func3 (by kernel_rfl) (by kernel_rfl) rfl (by kernel_rfl) _) ?_
     refine (changeRuns_any wr).mono ?_
     rintro r w9 ⟨rfl, k9⟩
     refine ⟨_, rfl, ?_⟩
     simp only [Act.put, sA, sS, sZ]
     refine l_val (o := ⟨some 4, _, _, _, _, _⟩) (.bool true) rfl (exec_assign (.tmp 79) (.bool true) rfl (by kernel_rfl)) ?_
     simp only [Act.put, sA, sS, sZ]
     refine wpList_nil ?_
     go_wp2
     go_ret
     exact ⟨rfl, kwr.trans k9⟩
end Go.Proofs.Ytklohceombpleaa
