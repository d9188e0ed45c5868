/-
 The walk of StopsTurn. No condition.
-/
import Derived.Test.YtlbeibapbkccfaaQA04
set_option linter.unusedVariables false
namespace Go.Proofs.Ytlbeibapbkccfaa
open Go.RowKit
set_option maxRecDepth 100000
theorem sruns_gives (w : World) : Gives 3 #[] w (.eq (.bool true)) := gives_eq ((stopsRuns_any w).mono fun e w' h => h)
theorem builtT (i s : Int) : Try.prog.built 27 [(0, .int .i64 1), (1, .int .i64 i), (2, .int .i64 1), (3, .int .i64 1), (4, .int .i64 3), (5, .int .i64 40), (6, .int .i64 1), (8, .int .i64 s)] = some (tI i s).cells.toArray := by kernel_rfl
theorem builtTA (p : Int) : Try.prog.built 27 [(0, .int .i64 2), (1, .int .i64 1), (2, .int .i64 2), (3, .int .i64 2), (4, .int .i64 1), (5, .int .i64 p), (6, .int .i64 1)] = some (tA p).cells.toArray := by kernel_rfl
theorem builtTB (p : Int) : Try.prog.built 27 [(0, .int .i64 3), (1, .int .i64 1), (2, .int .i64 3), (3, .int .i64 1), (4, .int .i64 1), (5, .int .i64 p), (6, .int .i64 1)] = some (tBd p).cells.toArray := by kernel_rfl
def wantM (pr : Int) (W : List Ord) : List Int := (W.filter fun o => decide (o.stop ≤ pr)).map (·.id)
theorem wantM_snoc (pr : Int) (W : List Ord) (o : Ord) : wantM pr (W ++ [o]) = wantM pr W ++ (if o.stop ≤ pr then [o.id] else []) := by
 unfold wantM
 rw [List.filter_append, List.map_append]
 congr 1
 by_cases h : o.stop ≤ pr <;> simp [h]
theorem wantM_is {pr : Int} (hp : 50 ≤ pr ∧ pr ≤ 60) {W : List Ord} (h : ∀ o ∈ W, TOk 1000 o) : wantM pr W = (W.filter fun o => o.hit pr).map (·.id) := by
 unfold wantM
 congr 1
 refine List.filter_congr fun o ho => ?_
 obtain ⟨i, s, rfl, _, _, h3, h4⟩ := h o ho
 rw [tI_hit, decide_eq_true (by omega : 0 < s), decide_eq_true (by omega : 0 < pr)]
 show decide (s ≤ pr) = (true && true && !decide (pr < s))
 rw [Bool.and_self, Bool.true_and, ← decide_not]
 exact decide_eq_decide.2 (by omega)
set_option maxRecDepth 100000 in
set_option maxHeartbeats 6400000 in
theorem stopsTurn_any (v : Value) (l : List Int) (py : Int) (w : World) (hl : IntsA w v l) : Calls Try.prog 8 #[v, .int .i64 py] w fun e w' => e = .returned (.bool true) ∧ Kept w w' := by
 obtain ⟨A, n, c, rfl, HN, hRI, hIn, hnc, hcm, hA⟩ := hl
 have HRI := Lib.hid hRI
 have hn63 : n ≤ 9223372036854775807 := by unfold maxLen at hcm; omega
 clear hRI hIn hcm hA
 obtain ⟨pr, hpr⟩ : ∃ pr, wi py 50 60 = pr := ⟨_, rfl⟩
 have hp50 : 50 ≤ pr ∧ pr ≤ 60 := by rw [← hpr]; exact wi_in py 50 60 (by omega)
 have HPR := Lib.hid hpr
 clear hpr
 go_enter Try.func8, Try.ntmps8
 go_upto_region 1 with fail
 refine wp_region_lit ?_
 refine l_call 9 #[] rfl (exec_call 9 _ [] _ _ Try.func9 (by kernel_rfl) (by kernel_rfl) rfl (by kernel_rfl) _) ?_
 refine (mnew_any w).mono ?_
 rintro r w1 ⟨p, F, rfl, hM1, hG1, k1⟩
 refine ⟨_, rfl, ?_⟩
 simp only [Act.put, sA, sS, sZ]
 refine l_val (.pointer (some ⟨p, 0, none⟩)) rfl (exec_assign _ _ rfl (by kernel_rfl)) ?_
 simp only [Act.put, sA, sS, sZ]
 refine wpList_nil ?_
 have HM1 : Hid (Mk w1 F p (tM [])) := hM1
 have HFg : Hid (∀ b, F b → w.heap.size ≤ b) := fun b hb => (hG1 b hb).elim (fun h => h.elim) id
 clear hM1 hG1
 go_upto_region 4 with fail
 refine wT 3 [iE py, iE pr, iE pr] [17,18,6] ?_ ?_
 ·refine mE 1 1 ?_
  refine cS 2 26 [.int .i64 py, .int .i64 50, .int .i64 60] rfl Try.func26 rfl (fun a u E D hk=>⟨ll (dD D 0) (ll rfl (ll rfl rfl)), (by rw [← HPR.out]; exact within_is py 50 60 u (by omega) (by omega) (by omega))⟩) ?_
  refine mD 3 18 1 ?_
  exact fz
 intro gv w2 hV k2
 simp only [Fz7]
 rw [gQ hV 2 6 (.int .i64 pr)]
 clear hV
 have HM2 := Lib.hid (HM1.out.kept k2)
 have k02 := k1.trans k2
 clear HM1 k1 k2
 go_wp2_with fail
 go_loopw [7, 8] (fun t q wr => ∃ (i : Nat) (S : List Int) (F' : Nat → Prop), Hid (S.length = i) ∧ i ≤ 20 ∧ i ≤ n ∧ q = .int .i64 (i : Int) ∧ Hid (∀ s ∈ S, 45 ≤ s ∧ s ≤ 65) ∧ Hid (InvK (tM S)) ∧ Hid (Sl wr 3 1 t (wantM pr (tW 0 S)).length (i64s (wantM pr (tW 0 S)))) ∧ Hid (∀ b, t.ownBlock = some b → w.heap.size ≤ b ∧ ¬ F' b) ∧ Hid (Mk wr F' p (tM S)) ∧ Hid (∀ b, F' b → w.heap.size ≤ b) ∧ Kept w wr) (fun _ q _ => 20 - (intOf q).toNat)
 case atStart => exact ⟨0, [], F, rfl, by omega, by omega, rfl, by intro m hm; simp at hm, InvK.zero, Sl.nil _ _ _, fun b hb => by simp [Value.ownBlock] at hb, HM2.out, HFg.out, k02⟩
 case round =>
  obtain ⟨i, S, F', HSl, hi20, hin, rfl, HSs, HIS, HWS, HWo, HMr, HFr, hkr⟩ := hrel
  obtain ⟨vw, hvw⟩ : ∃ vw, vw = u7 := ⟨_, rfl⟩
  subst hvw
  by_cases hlt : i < n ∧ i < 20
  ·obtain ⟨hin', hi20'⟩ := hlt
   have hil : i < l.length := by rw [HN.out]; exact hin'
   obtain ⟨xv, hxv⟩ : ∃ x, l[i]? = some x := ⟨l[i], List.getElem?_eq_getElem hil⟩
   obtain ⟨ad, hA0, hcell⟩ : ∃ ad, A = some ad ∧ wr.cell? (ad.add (i * 1)) = some (.int .i64 xv) := by
    obtain ⟨ad, e, hc⟩ := HRI.out i xv hxv
    exact ⟨ad, e, by rw [Nat.mul_one]; exact hkr.cell hc⟩
   subst hA0
   have HC := Lib.hid hcell
   obtain ⟨s, hs⟩ : ∃ s, wi xv 45 65 = s := ⟨_, rfl⟩
   have HS := Lib.hid hs
   have hs45 : 45 ≤ s ∧ s ≤ 65 := by rw [← hs]; exact wi_in xv 45 65 (by omega)
   clear hxv hcell hs
   have HAD : Hid ((tM S).add (tI i s) = ([⟨⟨tI i s, [], 1, false, false, 0⟩, true⟩], tM (S ++ [s]))) := by show _ = _; rw [← HSl.out]; exact tM_add HSs.out (by rw [HSl.out]; exact hi20') hs45
   have HIN : Hid (InvK (tM (S ++ [s]))) := by
    have := HIS.out.add (tI i s)
    rw [HAD.out] at this
    exact this
   have HWN : Hid (wantM pr (tW 0 (S ++ [s])) = wantM pr (tW 0 S) ++ (if s ≤ pr then [(i : Int)] else [])) := by
    show _ = _
    rw [tW_snoc, wantM_snoc, Nat.zero_add, HSl.out]
    rfl
   have hwl : (wantM pr (tW 0 S)).length ≤ 20 := by
    unfold wantM
    rw [List.length_map]
    exact Nat.le_trans (List.length_filter_le _ _) (by rw [tW_len, HSl.out]; exact hi20)
   go_upto_region 9 with fail
   refine wp_text 7 [iE (i : Int), .eq (.slice (some ad) n c), iE (i : Int), .eq (.pointer (some (ad.add (i * 1)))), iE xv, iE s, .eq ((tI i s).v)] rfl (by kernel_rfl) ?_ ?_
   ·refine mE 1 8 ?_
    refine mE 2 0 ?_
    refine mE 3 8 ?_
    refine sW 4 rfl (fun a u E D hk=>exec_indexA 55 3 1 _ _ ad n c i rfl Try.underlying55 infoI1 (dD D 1) (dD D 2) hin') ?_
    refine lD 5 32 3 Try.underlying3 (fun u hk=>hk.cell HC.out) ?_
    refine cS 6 26 [.int .i64 xv, .int .i64 45, .int .i64 65] rfl Try.func26 rfl (fun a u E D hk=>⟨ll (dD D 4) (ll rfl (ll rfl rfl)), (by rw [← HS.out]; exact within_is xv 45 65 u (by omega) (by omega) (by omega))⟩) ?_
    refine sW 7 rfl (fun a u E D hk=>exec_build _ [(0, .const (.int .i64 1)), (1, .tmp 29), (2, .const (.int .i64 1)), (3, .const (.int .i64 1)), (4, .const (.int .i64 3)), (5, .const (.int .i64 40)), (6, .const (.int .i64 1)), (8, .tmp 34)] (tI i s).cells rfl (by simp only [List.map_cons, List.map_nil]; rw [show a.eval (.tmp 29) = _ from (dD D 0), show a.eval (.tmp 34) = _ from (dD D 5)]; exact builtT _ _)) ?_
    exact fz
   intro gv w3 hV k3
   rw [dq 7 [29,30,31,32,33,34,35]]
   simp only [Fz7]
   rw [gQ hV 6 35 ((tI i s).v)]
   clear hV
   refine l_new (.pointer (some ⟨w3.heap.size, 0, none⟩)) (w3.alloc (.cells zeroO.cells.toArray 27)) rfl (exec_alc 27 zeroO.cells rfl zO) ?_
   have hNw4 := Blk.new w3 27 zeroO.cells
   have kw4 : Kept w3 (w3.alloc (.cells zeroO.cells.toArray 27)) := (Keep.refl _ w3).alloc _
   generalize w3.alloc (.cells zeroO.cells.toArray 27) = w4 at hNw4 kw4 ⊢
   simp only [Act.put, sA, sS, sZ]
   refine l_setS 27 w3.heap.size 27 zeroO.cells (tI i s).cells _ _ rfl rfl (by kernel_rfl) (by kernel_rfl) (hNw4) (by rw [Ord.len9]; exact ord_size) (by rw [Ord.len9, Ord.len9]) (Ord.one1 _) ?_
   intro w5 hCw5 hkw5 hsw5
   simp only [Act.put]
   refine wpList_nil ?_
   obtain ⟨b9, h9⟩ : ∃ a, w3.heap.size = a := ⟨_, rfl⟩
   rw [h9] at hNw4 hCw5 hkw5 ⊢
   have z3 := k3.size
   have zr := hkr.size
   have kr5 : Kept wr w5 := (k3.trans kw4).trans' hkw5 (by omega)
   have l9 := hCw5.lt
   have HO5 := Lib.hid (blk_range hCw5)
   have HM5 := Lib.hid (HMr.out.kept kr5)
   have HW5 := Lib.hid (HWS.out.kept kr5)
   have h9F : ¬ F' b9 := fun e => by have := HMr.out.lt b9 e; omega
   have kw5 := hkr.trans kr5
   have HVL : Hid (∀ b, vw.ownBlock = some b → b < w5.heap.size) := fun b hb => HW5.out.lt hb
   clear hNw4 hCw5 hkw5 hsw5 k3 kr5 HC HS HMr HWS hkr
   go_upto_region 10 with fail
   refine wp_text 2 [pE p 0, .eq ((tI i s).v)] rfl (by kernel_rfl) ?_ ?_
   ·refine mE 1 5 ?_
    refine sE 2 9 b9 0 ((tI i s).cells) Try.underlying27 (fun u hk=>range_kept HO5.out hk) (by rw [(tI i s).len9]; exact ord_size) ?_
    exact fz
   intro gv w6 hV k6
   rw [dq 2 [36,37]]
   simp only [Fz7]
   rw [gQ hV 0 36 (.pointer (some ⟨p, 0, none⟩))]
   rw [gQ hV 1 37 ((tI i s).v)]
   clear hV
   refine l_call 10 #[.pointer (some ⟨p, 0, none⟩), (tI i s).v] rfl (exec_call 10 _ [.tmp 36, .tmp 37] _ _ Try.func10 (by kernel_rfl) (by kernel_rfl) rfl (by kernel_rfl) _) ?_
   refine (madd_at w6 F' p (tM S) (tI i s) _ HAD.out (HM5.out.kept k6) HIS.out (show (0 : Int) ≤ 900000000000 by decide)).mono ?_
   rintro r w7 ⟨F7, vx, Z7, rfl, hM7, hO7, hG7, hk7⟩
   refine ⟨_, rfl, ?_⟩
   simp only [Act.put, sA, sS, sZ]
   refine l_val (vx) rfl (exec_assign _ _ rfl (by kernel_rfl)) ?_
   simp only [Act.put, sA, sS, sZ]
   refine wpList_nil ?_
   obtain ⟨kw7, hF7⟩ := madd_frame kw5 HFr.out k6 hk7 hG7
   have z5 := k6.size
   have z7 := hk7.size
   obtain ⟨vf7, rfl⟩ := map_1 hO7.eq
   obtain ⟨gx, ox, cx, rfl⟩ := hO7.sl.some_ (Nat.succ_pos _)
   have HX7 : Hid (w7.rangeAt gx ox ((Ot.mk (Oc.mk (tI i s) [] 1 false false 0) true).cells vf7)) := by have := hO7.sl.rngC 0 _ rfl; rw [Nat.zero_mul, Nat.add_zero] at this; exact this
   have HM7 := Lib.hid hM7
   have HF7 := Lib.hid hF7
   have HO7 := Lib.hid (range_keep (range_kept HO5.out k6) hk7 h9F)
   have HW7 := Lib.hid ((HW5.out.kept k6).keep hk7 (fun b hb e => (HWo.out b hb).2 e))
   have HWo7 : Hid (∀ b, vw.ownBlock = some b → w.heap.size ≤ b ∧ ¬ F7 b) := fun b hb => ⟨(HWo.out b hb).1, fun e => (hG7 b e).elim (HWo.out b hb).2 (fun e => by have := HVL.out b hb; omega)⟩
   clear hM7 hF7 hO7 hG7 hk7 HO5 HW5 HM5 HFr HWo HVL k6 kw5 HAD HIS
   go_upto_region 11 with fail
   refine wT 10 [.eq (.slice (some ⟨gx, ox, none⟩) 1 cx), iE (1 : Int), bE false, bE false, .eq (.slice (some ⟨gx, ox, none⟩) 1 cx), pE gx ox, pE gx (ox + 12), bE true, bE false, bE false] [39,40,41,42,43,44,45,46,47,48] ?_ ?_
   ·refine mE 1 10 ?_
    refine sW 2 rfl (fun a u E D hk=>exec_len _ _ _ slC.und (some ⟨gx, ox, none⟩) 1 cx rfl (dD D 0)) ?_
    refine aS 3 rfl (fun a u E D hk=>exec_nen rfl (dD D 1) rfl) rfl ?_
    refine mD 4 41 2 ?_
    refine mE 5 10 ?_
    refine sW 6 rfl (fun a u E D hk=>exec_ixo slC _ _ (gx) (ox) 1 cx 0 (ox) (0) rfl (dD D 4) rfl (by first | rfl | omega) ((by omega)) (by first | rfl | omega)) ?_
    refine fD 7 44 5 32 4 12 ox ?_
    refine sW 8 rfl (fun a u E D hk=>exec_ldb _ Try.underlying4 _ _ _ rfl (dD D 6) ((range_kept HX7.out hk) 12 _ rfl)) ?_
    refine sW 9 rfl (fun a u E D hk=>exec_not _ _ true rfl (dD D 7)) ?_
    refine sW 10 rfl (fun a u E D hk=>exec_pickF _ _ _ _ rfl (dD D 3) (dD D 8)) ?_
    exact fz
   intro gv w8 hV k8
   simp only [Fz7]
   rw [gQ hV 9 48 (.bool false)]
   clear hV
   have HM8 := Lib.hid (HM7.out.kept k8)
   have HO8 := Lib.hid (range_kept HO7.out k8)
   have HW8 := Lib.hid (HW7.out.kept k8)
   have kw8 := kw7.trans k8
   clear HM7 HO7 HW7 HX7 kw7 k8
   have HL9 : Hid ((S ++ [s]).length = i + 1) := by show _ = _; rw [List.length_append, HSl.out]; rfl
   have HS9 : Hid (∀ y ∈ S ++ [s], 45 ≤ y ∧ y ≤ 65) := fun y hy => by
    rcases List.mem_append.1 hy with hy | hy
    ·exact HSs.out y hy
    ·simp at hy; rw [hy]; exact hs45
   by_cases hc : s ≤ pr
   ·go_upto_region 13 with fail
    refine wT 4 [pE b9 8, iE ((tI i s).stop), iE pr, bE true] [49,50,51,52] ?_ ?_
    ·refine fE 1 9 27 8 8 0 ?_
     refine lD 2 49 0 Try.underlying3 (fun u hk=>range_int (range_kept HO8.out hk) 8 _ rfl) ?_
     refine mE 3 6 ?_
     refine aS 4 rfl (fun a u E D hk=>exec_len_ rfl (dD D 1) (dD D 2)) (decide_eq_true hc) ?_
     exact fz
    intro gv w9 hV k9
    simp only [Fz7]
    rw [gQ hV 3 52 (.bool true)]
    clear hV
    have HM9 := Lib.hid (HM8.out.kept k9)
    have HW9 := Lib.hid (HW8.out.kept k9)
    have kw9 := kw8.trans k9
    have hMl := HM9.out.lt
    clear HM8 HO8 HW8 kw8 k9
    go_upto_region 14 with fail
    refine wp_text 3 [.eq (vw), iE (i : Int), .ints [((i : Int))]] rfl (by kernel_rfl) ?_ ?_
    ·refine mE 1 7 ?_
     refine mE 2 8 ?_
     refine nW 3 rfl (fun a u E D hk=>⟨_, _, exec_ints 1 _ [((i : Int))] rfl rfl (by omega) (by omega) (by show [(0, a.eval (.tmp 54))] = [(0, .int .i64 (i : Int))]; rw [show a.eval (.tmp 54) = .int .i64 (i : Int) from (dD D 1)]), (ints_new u [((i : Int))] 1 rfl), ((Keep.refl _ u).alloc _)⟩) ?_
     exact fz
    intro gv wa hV ka
    rw [dq 3 [53,54,55]]
    simp only [Fz7]
    rw [gQ hV 0 53 vw]
    have hv55 : (.ints [((i : Int))] : Kn).p (gv 55) wa := hV 2 55 (by kernel_rfl)
    generalize gv 55 = v55 at hv55 ⊢
    clear hV
    have za := ka.size
    obtain ⟨vn, wb, hrb, hsb, hkb, hob⟩ := run_append_sl slI 55 wa vw v55 _ 1 _ _ (HW9.out.kept ka) (ints_sl hv55 (by simp)) (i64s_one _) (by unfold maxLen; omega) (by omega)
    refine l_new vn wb rfl (exec_appS slI (.tmp 53) (.tmp 55) vw v55 rfl (by kernel_rfl) (by kernel_rfl) vn wb hrb) ?_
    simp only [Act.put, sA, sS, sZ]
    refine l_val (vn) rfl (exec_assign _ _ rfl (by kernel_rfl)) ?_
    simp only [Act.put, sA, sS, sZ]
    refine wpList_nil ?_
    have kwb : Kept w wb := Keep.trans (kw9.trans ka) hkb (fun b hb h => by have := (HWo7.out b h).1; omega)
    have HWb : Hid (Sl wb 3 1 vn (wantM pr (tW 0 (S ++ [s]))).length (i64s (wantM pr (tW 0 (S ++ [s]))))) := by
     show Sl _ _ _ _ _ _
     rw [HWN.out, if_pos hc, i64s_snoc, List.length_append]
     exact hsb
    have HMb : Hid (Mk wb F7 p (tM (S ++ [s]))) := (HM9.out.kept ka).keep hkb (fun b hb h => (HWo7.out b h).2 hb)
    have z9 := kw9.size
    have HWob : Hid (∀ b, vn.ownBlock = some b → w.heap.size ≤ b ∧ ¬ F7 b) := fun b hb => (hob b hb).elim (HWo7.out b) (fun h => ⟨by omega, fun e => by have := hMl b e; omega⟩)
    clear hsb hkb hob hrb hv55 HW9 HM9 HWo7 HWN ka kw9 hMl
    go_wp2
    exact ⟨⟨i + 1, S ++ [s], F7, HL9, by omega, by omega, by go_num, HS9, HIN, HWb, HWob, HMb, HF7, kwb⟩, by simp [intOf]; omega⟩
   ·go_upto_region 13 with fail
    refine wT 4 [pE b9 8, iE ((tI i s).stop), iE pr, bE false] [49,50,51,52] ?_ ?_
    ·refine fE 1 9 27 8 8 0 ?_
     refine lD 2 49 0 Try.underlying3 (fun u hk=>range_int (range_kept HO8.out hk) 8 _ rfl) ?_
     refine mE 3 6 ?_
     refine aS 4 rfl (fun a u E D hk=>exec_len_ rfl (dD D 1) (dD D 2)) (decide_eq_false hc) ?_
     exact fz
    intro gv w9 hV k9
    simp only [Fz7]
    rw [gQ hV 3 52 (.bool false)]
    clear hV
    have HM9 := Lib.hid (HM8.out.kept k9)
    have HW9 : Hid (Sl w9 3 1 vw (wantM pr (tW 0 (S ++ [s]))).length (i64s (wantM pr (tW 0 (S ++ [s]))))) := by
     show Sl _ _ _ _ _ _
     rw [HWN.out, if_neg hc, List.append_nil]
     exact HW8.out.kept k9
    have kw9 := kw8.trans k9
    clear HM8 HO8 HW8 kw8 k9 HWN
    go_wp2
    exact ⟨⟨i + 1, S ++ [s], F7, HL9, by omega, by omega, by go_num, HS9, HIN, HW9, HWo7, HM9, HF7, kw9⟩, by simp [intOf]; omega⟩
  ·have hmin : mn (n : Int) 20 = (i : Int) := by unfold mn; split <;> omega
   have HMN := Lib.hid hmin
   clear hmin
   obtain ⟨W, hW⟩ : ∃ W, tW 0 S = W := ⟨_, rfl⟩
   have hA := tA_run hp50 HSs.out (by rw [HSl.out]; exact hi20)
   have hB := tB_run hp50 HSs.out (by rw [HSl.out]; exact hi20)
   have hok : ∀ o ∈ W, TOk 1000 o := fun o ho => by
    rw [← hW] at ho
    obtain ⟨i', s, e, h1, h2, h3⟩ := tW_ok HSs.out o ho
    have := HSl.out
    exact ⟨i', s, e, h1, by omega, h3⟩
   have hWl : W.length = i := by rw [← hW, tW_len, HSl.out]
   rw [hW] at hA hB
   have HI2 : Hid (InvK ⟨tB1 pr, W⟩) := by
    have := HIS.out.add (tA pr)
    rw [hA] at this
    exact this
   have HA2 := Lib.hid hA
   have HB2 := Lib.hid hB
   have HI3 : Hid (InvK ⟨tE1 pr, W.filter fun o => !o.hit pr⟩) := by
    have := HI2.out.add (tBd pr)
    rw [hB] at this
    exact this
   rw [hW] at HWS
   rw [wantM_is hp50 hok] at HWS
   obtain ⟨G, hG⟩ : ∃ G, W.filter (fun o => o.hit pr) = G := ⟨_, rfl⟩
   obtain ⟨K, hK⟩ : ∃ K, W.filter (fun o => !o.hit pr) = K := ⟨_, rfl⟩
   have hGK : G.length + K.length = i := by rw [← hG, ← hK, filter_two, hWl]
   rw [hG] at HWS HB2 hB
   rw [hK] at HB2 HI3 hB
   obtain ⟨m, hm⟩ : ∃ m, G.length = m := ⟨_, rfl⟩
   obtain ⟨wn, hwn⟩ : ∃ wn, K.length = wn := ⟨_, rfl⟩
   rw [List.length_map, hm] at HWS
   have HG := Lib.hid hm
   have HK := Lib.hid hwn
   have hmw : m + wn = i := by omega
   have HEQ : Hid ((wn : Int) = mn (n : Int) 20 - (m : Int)) := by show _ = _; rw [HMN.out]; omega
   clear hA hB hok hWl hG hK hGK hm hwn HSl HSs hW
   have HBF : Hid ((decide ((i : Int) < (n : Int)) && decide ((i : Int) < 20)) = false) := by
    show _ = _
    rw [← Bool.decide_and]
    exact decide_eq_false (fun h => hlt ⟨by omega, by omega⟩)
   go_upto_region 7 with fail
   refine wT 8 [iE (i : Int), .eq (.slice A n c), iE (n : Int), bE (decide (((i : Int) : Int) < ((n : Int) : Int))), bE (decide (((i : Int) : Int) < ((n : Int) : Int))), .cond (decide (((i : Int) : Int) < ((n : Int) : Int))) (iE (i : Int)), .cond (decide (((i : Int) : Int) < ((n : Int) : Int))) (bE (decide (((i : Int) : Int) < (20 : Int)))), bE false] [19,20,21,22,23,24,25,26] ?_ ?_
   ·refine mE 1 8 ?_
    refine mE 2 0 ?_
    refine sW 3 rfl (fun a u E D hk=>exec_len _ _ _ slI.und A n c rfl (dD D 1)) ?_
    refine sW 4 rfl (fun a u E D hk=>exec_ltn rfl (dD D 0) (dD D 2)) ?_
    refine mD 5 22 3 ?_
    refine iC 6 4 rfl (fun a u E D hk hb=>exec_move _ _ rfl (eE E)) ?_
    refine iC 7 4 rfl (fun a u E D hk hb=>exec_ltn rfl ((D 5 24 (by kernel_rfl)).1 hb) rfl) ?_
    refine aS 8 rfl (fun a u E D hk=>exec_pickand _ _ _ ((decide (((i : Int) : Int) < ((n : Int) : Int)))) ((decide (((i : Int) : Int) < (20 : Int)))) rfl (dD D 4) (fun hb2 => ((D 6 25 (by kernel_rfl)).1 hb2)) rfl) HBF.out ?_
    exact fz
   intro gv w2 hV k2
   simp only [Fz7]
   rw [gQ hV 7 26 (.bool false)]
   clear hV
   have HMr := Lib.hid (HMr.out.kept k2)
   have HWS := Lib.hid (HWS.out.kept k2)
   have hkr := hkr.trans k2
   clear HBF k2
   go_upto_region 15 with fail
   refine wp_text 3 [pE p 0, iE pr, .eq ((tA pr).v)] rfl (by kernel_rfl) ?_ ?_
   ·refine mE 1 5 ?_
    refine mE 2 6 ?_
    refine sW 3 rfl (fun a u E D hk=>exec_build _ [(0, .const (.int .i64 2)), (1, .const (.int .i64 1)), (2, .const (.int .i64 2)), (3, .const (.int .i64 2)), (4, .const (.int .i64 1)), (5, .tmp 58), (6, .const (.int .i64 1))] (tA pr).cells rfl (by simp only [List.map_cons, List.map_nil]; rw [show a.eval (.tmp 58) = _ from (dD D 1)]; exact builtTA _)) ?_
    exact fz
   intro gv w3 hV k3
   rw [dq 3 [57,58,59]]
   simp only [Fz7]
   rw [gQ hV 0 57 (.pointer (some ⟨p, 0, none⟩))]
   rw [gQ hV 2 59 ((tA pr).v)]
   clear hV
   refine l_call 10 #[.pointer (some ⟨p, 0, none⟩), (tA pr).v] rfl (exec_call 10 _ [.tmp 57, .tmp 59] _ _ Try.func10 (by kernel_rfl) (by kernel_rfl) rfl (by kernel_rfl) _) ?_
   refine (madd_at w3 F' p (tM S) (tA pr) _ HA2.out (HMr.out.kept k3) HIS.out (show (0 : Int) ≤ 900000000000 by decide)).mono ?_
   rintro r w4 ⟨F4, vy, Z4, rfl, hM4, hO4, hG4, hk4⟩
   refine ⟨_, rfl, ?_⟩
   simp only [Act.put, sA, sS, sZ]
   refine wpList_nil ?_
   obtain ⟨kw4, hF4⟩ := madd_frame hkr HFr.out k3 hk4 hG4
   have HM4 := Lib.hid hM4
   have HF4 := Lib.hid hF4
   have HW4 := Lib.hid ((HWS.out.kept k3).keep hk4 (fun b hb e => (HWo.out b hb).2 e))
   have HWo4 : Hid (∀ b, vw.ownBlock = some b → w.heap.size ≤ b ∧ ¬ F4 b) := fun b hb => ⟨(HWo.out b hb).1, fun e => (hG4 b e).elim (HWo.out b hb).2 (fun e => by have := HWS.out.lt hb; have := k3.size; omega)⟩
   clear hM4 hF4 hO4 hG4 hk4 k3 HMr HWS HWo HFr hkr HIS HA2
   go_upto_region 16 with fail
   refine wp_text 3 [pE p 0, iE pr, .eq ((tBd pr).v)] rfl (by kernel_rfl) ?_ ?_
   ·refine mE 1 5 ?_
    refine mE 2 6 ?_
    refine sW 3 rfl (fun a u E D hk=>exec_build _ [(0, .const (.int .i64 3)), (1, .const (.int .i64 1)), (2, .const (.int .i64 3)), (3, .const (.int .i64 1)), (4, .const (.int .i64 1)), (5, .tmp 62), (6, .const (.int .i64 1))] (tBd pr).cells rfl (by simp only [List.map_cons, List.map_nil]; rw [show a.eval (.tmp 62) = _ from (dD D 1)]; exact builtTB _)) ?_
    exact fz
   intro gv w5 hV k5
   rw [dq 3 [61,62,63]]
   simp only [Fz7]
   rw [gQ hV 0 61 (.pointer (some ⟨p, 0, none⟩))]
   rw [gQ hV 2 63 ((tBd pr).v)]
   clear hV
   refine l_call 10 #[.pointer (some ⟨p, 0, none⟩), (tBd pr).v] rfl (exec_call 10 _ [.tmp 61, .tmp 63] _ _ Try.func10 (by kernel_rfl) (by kernel_rfl) rfl (by kernel_rfl) _) ?_
   refine (madd_at w5 F4 p ⟨tB1 pr, W⟩ (tBd pr) _ HB2.out (HM4.out.kept k5) HI2.out (show (0 : Int) ≤ 900000000000 by decide)).mono ?_
   rintro r w6 ⟨F6, vo, Z6, rfl, hM6, hO6, hG6, hk6⟩
   refine ⟨_, rfl, ?_⟩
   simp only [Act.put, sA, sS, sZ]
   refine l_val (vo) rfl (exec_assign _ _ rfl (by kernel_rfl)) ?_
   simp only [Act.put, sA, sS, sZ]
   refine wpList_nil ?_
   obtain ⟨kw6, hF6⟩ := madd_frame kw4 HF4.out k5 hk6 hG6
   have hW6 := (HW4.out.kept k5).keep hk6 (fun b hb e => (HWo4.out b hb).2 e)
   have hlen6 := hO6.len
   rw [List.length_cons, List.length_map, HG.out] at hlen6
   have hS6 := hO6.sl
   rw [hlen6] at hS6
   obtain ⟨N, hN⟩ : ∃ N, m + 1 = N := ⟨_, rfl⟩
   rw [hN] at hS6
   obtain ⟨g6, o6, c6, rfl⟩ := hS6.some_ (by omega)
   have HM6 := Lib.hid hM6
   have HS6 := Lib.hid hS6
   have HZ6 := Lib.hid hO6.eq
   have HW6 := Lib.hid hW6
   obtain ⟨vwA, vwc, hvw⟩ := hW6.slice_
   have hmN : (N : Int) = 1 + (m : Int) := by omega
   clear hM6 hF6 hO6 hG6 hk6 k5 hW6 hlen6 hS6 HM4 HF4 HW4 HWo4 HB2 HI2 kw4
   go_upto_region 17 with fail
   refine wT 6 [.eq (.slice (some ⟨g6, o6, none⟩) N c6), iE (N : Int), .eq (vw), iE (m : Int), iE ((1 : Int) + ((m : Int) : Int)), bE false] [65,66,67,68,69,70] ?_ ?_
   ·refine mE 1 11 ?_
    refine sW 2 rfl (fun a u E D hk=>exec_len _ _ _ slC.und (some ⟨g6, o6, none⟩) N c6 rfl (dD D 0)) ?_
    refine mE 3 7 ?_
    refine sW 4 rfl (fun a u E D hk=>exec_lenS _ slI _ _ _ _ rfl (dD D 2) (HW6.out.kept hk)) ?_
    refine sW 5 rfl (fun a u E D hk=>exec_addn (p := (1)) (q := ((m : Int))) ((1 : Int) + ((m : Int) : Int)) rfl rfl (dD D 3) rfl (by omega) (by omega)) ?_
    refine aS 6 rfl (fun a u E D hk=>exec_nen rfl (dD D 1) (dD D 4)) (decide_eq_false (fun h => h hmN)) ?_
    exact fz
   intro gv w7 hV k7
   simp only [Fz7]
   rw [gQ hV 5 70 (.bool false)]
   clear hV
   have HM7 := Lib.hid (HM6.out.kept k7)
   have HS7 := Lib.hid (HS6.out.kept k7)
   have HW7 := Lib.hid (HW6.out.kept k7)
   have kw7 := kw6.trans k7
   clear HM6 HS6 HW6 kw6 k7
   go_upto_region 19 with fail
   refine wT 3 [.eq (vw), iE (m : Int), iE 0] [71,72,73] ?_ ?_
   ·refine mE 1 7 ?_
    refine sW 2 rfl (fun a u E D hk=>exec_lenS _ slI _ _ _ _ rfl (dD D 0) (HW7.out.kept hk)) ?_
    refine sW 3 rfl (fun a u E D hk=>exec_move _ _ rfl rfl) ?_
    exact fz
   intro gv w8 hV k8
   simp only [Fz7]
   rw [gQ hV 0 71 vw]
   rw [gQ hV 1 72 (.int .i64 (m : Int))]
   rw [gQ hV 2 73 (.int .i64 0)]
   clear hV
   have HM8 := Lib.hid (HM7.out.kept k8)
   have HS8 := Lib.hid (HS7.out.kept k8)
   have HW8 := Lib.hid (HW7.out.kept k8)
   have kw8 := kw7.trans k8
   clear HM7 HS7 HW7 kw7 k8 hvw
   go_wp2_with fail
   go_loopw [73] (fun x wr => ∃ (k : Nat), k ≤ m ∧ x = .int .i64 (k : Int) ∧ Kept w8 wr) (fun x _ => m - (intOf x).toNat)
   case atStart => exact ⟨0, Nat.zero_le _, rfl, Kept.refl _⟩
   case round =>
    obtain ⟨k, hk, rfl, hkr⟩ := hrel
    by_cases hkm : k < m
    ·obtain ⟨gw, ow, cw, rfl⟩ := HW8.out.some_ (by omega)
     obtain ⟨e, he⟩ : ∃ e, G[k]? = some e := ⟨G[k]'(by rw [HG.out]; exact hkm), List.getElem?_eq_getElem _⟩
     have HID : Hid (wr.cell? ⟨gw, ow + k * 1, none⟩ = some (.int .i64 e.id)) := hkr.cell (HW8.out.intAt k e.id (by rw [List.getElem?_map, he]; rfl))
     obtain ⟨z, hz⟩ : ∃ z, Z6[k + 1]? = some z := by
      have h1 : (Z6.map (·.1))[k + 1]? = some (tOut e) := by rw [HZ6.out, List.getElem?_cons_succ, List.getElem?_map, he]; rfl
      rw [List.getElem?_map] at h1
      cases hz : Z6[k + 1]? with
      | none => rw [hz] at h1; cases h1
      | some z => exact ⟨z, rfl⟩
     obtain ⟨x, vf⟩ := z
     have hx : x = tOut e := by
      have h1 : (Z6.map (·.1))[k + 1]? = some (tOut e) := by rw [HZ6.out, List.getElem?_cons_succ, List.getElem?_map, he]; rfl
      rw [List.getElem?_map, hz] at h1
      injection h1
     subst hx
     have hzl : Z6.length = N := by
      have := congrArg List.length HZ6.out
      rw [List.length_map, List.length_cons, List.length_map, HG.out] at this
      omega
     have HX : Hid (wr.rangeAt g6 (o6 + (k + 1) * 15) ((tOut e).cells vf)) := range_kept (Sl.rngC (n := N) (Z := Z6) HS8.out (k + 1) (tOut e, vf) hz) hkr
     clear he hz hzl
     go_upto_region 21 with fail
     refine wT 5 [iE (k : Int), pE gw (ow + k * 1), iE e.id, iE (k : Int), iE e.id] [75,76,77,12,13] ?_ ?_
     ·refine mE 1 73 ?_
      refine sW 2 rfl (fun a u E D hk=>exec_ixo slI _ _ (gw) (ow) m cw k (ow + k * 1) ((k : Int)) rfl (eE E) (eE E) (by first | rfl | omega) (hkm) (by first | rfl | omega)) ?_
      refine lD 3 76 1 Try.underlying3 (fun u hk=>Kept.cell hk (HID.out)) ?_
      refine mD 4 75 0 ?_
      refine mD 5 77 2 ?_
      exact fz
     intro gv w9 hV k9
     simp only [Fz7]
     rw [gQ hV 3 12 (.int .i64 (k : Int))]
     rw [gQ hV 4 13 (.int .i64 e.id)]
     clear hV
     have HX9 := Lib.hid (range_kept HX.out k9)
     have k89 := hkr.trans k9
     clear HX HID k9 hkr
     go_upto_region 22 with fail
     refine wT 26 [.eq (.slice (some ⟨g6, o6, none⟩) N c6), iE (k : Int), iE (((k : Int) : Int) + (1 : Int)), pE g6 (o6 + (k + 1) * 15), pE g6 (o6 + (k + 1) * 15), pE g6 (o6 + (k + 1) * 15 + 1), iE ((tOut e).c.o.id), iE e.id, bE false, bE false, .eq (.slice (some ⟨g6, o6, none⟩) N c6), iE (k : Int), iE (((k : Int) : Int) + (1 : Int)), pE g6 (o6 + (k + 1) * 15), pE g6 (o6 + (k + 1) * 15 + 10), iE ((tOut e).c.left), bE false, bE false, bE false, .eq (.slice (some ⟨g6, o6, none⟩) N c6), iE (k : Int), iE (((k : Int) : Int) + (1 : Int)), pE g6 (o6 + (k + 1) * 15), pE g6 (o6 + (k + 1) * 15 + 11), bE ((tOut e).c.rests), bE false] [78,79,80,81,82,83,84,85,86,87,88,89,90,91,92,93,94,95,96,97,98,99,100,101,102,103] ?_ ?_
     ·refine mE 1 11 ?_
      refine mE 2 12 ?_
      refine sW 3 rfl (fun a u E D hk=>exec_addn (p := ((k : Int))) (q := (1)) (((k : Int) : Int) + (1 : Int)) rfl (dD D 1) rfl rfl (by omega) (by omega)) ?_
      refine sW 4 rfl (fun a u E D hk=>exec_ixo slC _ _ (g6) (o6) N c6 (k + 1) (o6 + (k + 1) * 15) ((((k : Int) : Int) + (1 : Int))) rfl (dD D 0) (dD D 2) (by first | rfl | omega) ((by omega)) (by first | rfl | omega)) ?_
      refine fD 5 81 3 32 0 0 (o6 + (k + 1) * 15) ?_
      refine fD 6 82 4 27 1 1 (o6 + (k + 1) * 15) ?_
      refine lD 7 83 5 Try.underlying3 (fun u hk=>(range_kept (HX9.out) hk) 1 _ rfl) ?_
      refine mE 8 13 ?_
      refine aS 9 rfl (fun a u E D hk=>exec_nen rfl (dD D 6) (dD D 7)) (decide_eq_false (fun h => h rfl)) ?_
      refine mD 10 86 8 ?_
      refine mE 11 11 ?_
      refine mE 12 12 ?_
      refine sW 13 rfl (fun a u E D hk=>exec_addn (p := ((k : Int))) (q := (1)) (((k : Int) : Int) + (1 : Int)) rfl (dD D 11) rfl rfl (by omega) (by omega)) ?_
      refine sW 14 rfl (fun a u E D hk=>exec_ixo slC _ _ (g6) (o6) N c6 (k + 1) (o6 + (k + 1) * 15) ((((k : Int) : Int) + (1 : Int))) rfl (dD D 10) (dD D 12) (by first | rfl | omega) ((by omega)) (by first | rfl | omega)) ?_
      refine fD 15 91 13 32 2 10 (o6 + (k + 1) * 15) ?_
      refine lD 16 92 14 Try.underlying3 (fun u hk=>(range_kept (HX9.out) hk) 10 _ rfl) ?_
      refine aS 17 rfl (fun a u E D hk=>exec_nen rfl (dD D 15) rfl) rfl ?_
      refine sW 18 rfl (fun a u E D hk=>exec_pickF _ _ _ _ rfl (dD D 9) (dD D 16)) ?_
      refine mD 19 95 17 ?_
      refine mE 20 11 ?_
      refine mE 21 12 ?_
      refine sW 22 rfl (fun a u E D hk=>exec_addn (p := ((k : Int))) (q := (1)) (((k : Int) : Int) + (1 : Int)) rfl (dD D 20) rfl rfl (by omega) (by omega)) ?_
      refine sW 23 rfl (fun a u E D hk=>exec_ixo slC _ _ (g6) (o6) N c6 (k + 1) (o6 + (k + 1) * 15) ((((k : Int) : Int) + (1 : Int))) rfl (dD D 19) (dD D 21) (by first | rfl | omega) ((by omega)) (by first | rfl | omega)) ?_
      refine fD 24 100 22 32 3 11 (o6 + (k + 1) * 15) ?_
      refine sW 25 rfl (fun a u E D hk=>exec_ldb _ Try.underlying4 _ _ _ rfl (dD D 23) ((range_kept (HX9.out) hk) 11 _ rfl)) ?_
      refine aS 26 rfl (fun a u E D hk=>exec_pickF _ _ _ _ rfl (dD D 18) (dD D 24)) rfl ?_
      exact fz
     intro gv wa hV ka
     simp only [Fz7]
     rw [gQ hV 25 103 (.bool false)]
     clear hV
     have kk := k89.trans ka
     clear HX9 ka k89
     go_wp2
     exact ⟨⟨k + 1, by omega, by go_num, kk⟩, by simp [intOf]; omega⟩
    ·have HMr := Lib.hid (HM8.out.kept hkr)
     have HVW := Lib.hid (HW8.out.kept hkr)
     have kwr := kw8.trans hkr
     clear HM8 HS8 HW8 kw8 hkr HZ6
     go_upto_region 25 with fail
     refine wT 14 [pE p 0, .sl wr.heap.size 27 9 wn (ords K), iE (wn : Int), .eq (.slice A n c), iE (n : Int), iE (mn ((n : Int)) (20)), .eq (vw), iE (m : Int), iE (((mn ((n : Int)) (20)) : Int) - ((m : Int) : Int)), bE true, bE true, bE true, bE true, bE true] [105,106,107,108,109,110,111,112,113,114,115,116,117,4] ?_ ?_
     ·refine mE 1 5 ?_
      refine cS 2 12 [.pointer (some ⟨p, 0, none⟩)] rfl Try.func12 rfl (fun a u E D hk=>⟨ll (dD D 0) rfl, (by rw [← HK.out]; exact (waiting_any u F6 p ⟨tE1 pr, K⟩ (HMr.out.kept hk) (by show K.length ≤ 100000; rw [HK.out]; omega)).base hk.size)⟩) ?_
      refine sW 3 rfl (fun a u E D hk=>exec_lenS _ slO _ _ _ _ rfl rfl (D 1 106 (by kernel_rfl)).1) ?_
      refine mE 4 0 ?_
      refine sW 5 rfl (fun a u E D hk=>exec_len _ _ _ slI.und A n c rfl (dD D 3)) ?_
      refine sW 6 rfl (fun a u E D hk=>exec_min _ _ _ ((n : Int)) (20) (mn ((n : Int)) (20)) rfl (dD D 4) rfl rfl) ?_
      refine mE 7 7 ?_
      refine sW 8 rfl (fun a u E D hk=>exec_lenS _ slI _ _ _ _ rfl (dD D 6) (HVW.out.kept hk)) ?_
      refine sW 9 rfl (fun a u E D hk=>exec_subn (p := ((mn ((n : Int)) (20)))) (q := ((m : Int))) (((mn ((n : Int)) (20)) : Int) - ((m : Int) : Int)) rfl (dD D 5) (dD D 7) rfl (by (rw [HMN.out]; omega)) (by (rw [HMN.out]; omega))) ?_
      refine aS 10 rfl (fun a u E D hk=>exec_eqn rfl (dD D 2) (dD D 8)) (decide_eq_true HEQ.out) ?_
      refine mD 11 114 9 ?_
      refine cS 12 3 [] rfl Try.func3 rfl (fun a u E D hk=>⟨rfl, sruns_gives u⟩) ?_
      refine pT 13 115 116 10 11 ?_
      refine mD 14 117 12 ?_
      exact fz
     intro gv wx hV kx
     simp only [Fz7]
     rw [gQ hV 13 4 (.bool true)]
     clear hV
     go_wp2
     go_ret
     exact ⟨rfl, kwr.trans kx⟩
end Go.Proofs.Ytlbeibapbkccfaa
