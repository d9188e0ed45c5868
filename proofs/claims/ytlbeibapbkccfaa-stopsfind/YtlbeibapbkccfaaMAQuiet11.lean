/-
 The walk of StopsQuiet. No condition.
-/
import Derived.Test.YtlbeibapbkccfaaQA04
set_option linter.unusedVariables false
namespace Go.Proofs.Ytlbeibapbkccfaa
open Go.RowKit
set_option maxRecDepth 100000
theorem out_later {M : Mkt} (h : InvK M) (o : Ord) {k : Nat} {x : Ot} (hk : 0 < k) (hx : (M.add o).1[k]? = some x) : x.wt = false ∧ x.c.o.stop ≠ 0 := by
 unfold Mkt.add at hx
 by_cases he : (M.arrive o).1.c.err ≠ 0
 ·rw [if_pos he] at hx
  obtain ⟨j, rfl⟩ : ∃ j, k = j + 1 := ⟨k - 1, by omega⟩
  simp at hx
 ·rw [if_neg he] at hx
  obtain ⟨j, rfl⟩ : ∃ j, k = j + 1 := ⟨k - 1, by omega⟩
  rw [List.getElem?_cons_succ] at hx
  obtain ⟨h1, h2⟩ := cas_was _ _ (Nat.le_refl _) x (List.mem_of_getElem? hx)
  have := ((h.arrive o).good _ h2).2
  exact ⟨h1, by omega⟩
theorem nodup_keys {L : List Ord} (h : (L.map Ord.key).Nodup) {i j : Nat} {a c : Ord} (ha : L[i]? = some a) (hc : L[j]? = some c) (hij : j < i) : ¬ (a.tr = c.tr ∧ a.id = c.id) := by
 intro e
 obtain ⟨hi, rfl⟩ := List.getElem?_eq_some_iff.1 ha
 obtain ⟨hj, rfl⟩ := List.getElem?_eq_some_iff.1 hc
 have := List.pairwise_iff_getElem.1 h j i (by simpa using hj) (by simpa using hi) hij
 apply this
 simp only [List.getElem_map]
 unfold Ord.key
 rw [e.1, e.2]
set_option maxRecDepth 100000 in
set_option maxHeartbeats 6400000 in
theorem stopsQuiet_any (v : Value) (l : List Kq) (w : World) (hl : Kqs w v l) : Calls Try.prog 4 #[v] w fun e w' => e = .returned (.bool true) ∧ Kept w w' := by
 have HA := Lib.hid hl
 obtain ⟨A, n, c, rfl, hn, hm⟩ : ∃ A n c, v = .slice A n c ∧ l.length = n ∧ n ≤ maxLen := by
  obtain ⟨A, n, c, h1, h2, _, h3, _⟩ := hl
  exact ⟨A, n, c, h1, h2, h3⟩
 clear hl
 unfold maxLen at hm
 have HN := Lib.hid hn
 clear hn
 go_enter Try.func4, Try.ntmps4
 go_upto_region 1 with fail
 refine wp_region_lit ?_
 refine l_call 9 #[] rfl (exec_call 9 _ [] _ _ Try.func9 (by kernel_rfl) (by kernel_rfl) rfl (by kernel_rfl) _) ?_
 refine (mnew_any w).mono ?_
 rintro r w1 ⟨p, F, rfl, hL1, hG1, k1⟩
 refine ⟨_, rfl, ?_⟩
 simp only [Act.put, sA, sS, sZ]
 refine l_val (.pointer (some ⟨p, 0, none⟩)) rfl (exec_assign _ _ rfl (by kernel_rfl)) ?_
 simp only [Act.put, sA, sS, sZ]
 refine wpList_nil ?_
 have HL1 : Hid (Mk w1 F p (fillM (l.take 0))) := by rw [List.take_zero]; exact Lib.hid hL1
 have HF1 : Hid (∀ b, F b → w.heap.size ≤ b) := fun b hb => (hG1 b hb).elim (fun h => h.elim) id
 clear hL1 hG1
 go_wp2_with fail
 go_loopw [4] (fun t wr => ∃ (i : Nat) (F' : Nat → Prop), t = .int .i64 (i : Int) ∧ i ≤ 60 ∧ i ≤ n ∧ Hid (Mk wr F' p (fillM (l.take i))) ∧ Hid (∀ b, F' b → w.heap.size ≤ b) ∧ Kept w wr) (fun t _ => 60 - (intOf t).toNat)
 case atStart => exact ⟨0, F, rfl, by omega, by omega, HL1, HF1, k1⟩
 case round =>
  obtain ⟨i, F', rfl, hi, hin, HLr, HFr, hkr⟩ := hrel
  by_cases hlt : i < n ∧ i < 60
  ·obtain ⟨hin', hi20⟩ := hlt
   have hil : i < l.length := by rw [HN.out]; exact hin'
   obtain ⟨q, hq⟩ : ∃ q, l[i]? = some q := ⟨_, List.getElem?_eq_getElem hil⟩
   have hI2 := fillM_inv (l.take (i + 1))
   have hQ2 := fillM_quiet (l.take (i + 1))
   have HNx := Lib.hid (fillM_next l i q hq)
   have hI := fillM_inv (l.take i)
   have HNo : Hid ((fillM (l.take i)).b.no ≤ 900000000000) := by
    have h1 := hI.2
    have h2 : (l.take i).length ≤ 60 := by rw [List.length_take]; omega
    show _ ≤ _
    omega
   have HI := Lib.hid hI.1
   have HI2 := Lib.hid hI2.1
   have HQ2 := Lib.hid hQ2
   clear hI hI2 hQ2
   generalize fillM (l.take i) = M at HLr HNx HNo HI
   obtain ⟨M2, hM2⟩ : ∃ M2, fillM (l.take (i + 1)) = M2 := ⟨_, rfl⟩
   have HME := Lib.hid hM2
   rw [hM2] at HNx HI2 HQ2
   clear hM2
   obtain ⟨L, hL⟩ : ∃ L, (M.add q.so).1 = L := ⟨_, rfl⟩
   have HLD : Hid (M.add q.so = (L, M2)) := by show _ = _; rw [← hL, HNx.out]
   have hll := outs_len HI.out q.so
   have HLT : Hid (∀ (k : Nat) (x : Ot), 0 < k → L[k]? = some x → x.wt = false ∧ x.c.o.stop ≠ 0) := fun k x hk hx => out_later HI.out q.so hk (by rw [hL]; exact hx)
   rw [hL] at hll
   obtain ⟨m, hm2⟩ : ∃ m, L.length = m := ⟨_, rfl⟩
   rw [hm2] at hll
   have HLL := Lib.hid hm2
   clear hL hm2
   obtain ⟨A', n', c', e1, _, _, _, h4⟩ := HA.out
   injection e1 with e1 e2 e3
   subst e1 e2 e3
   obtain ⟨g, off, rfl, hr⟩ := h4 i q hq
   have HE := Lib.hid (range_kept hr hkr)
   clear h4 hr hq hil
   go_upto_region 7 with fail
   refine wp_text 6 [pE p 0, .eq (.slice (some ⟨g, off, none⟩) n c), iE (i : Int), pE g (off + i * 7), .eq (q.v), .eq (q.so.v)] rfl (by kernel_rfl) ?_ ?_
   ·refine mE 1 3 ?_
    refine mE 2 0 ?_
    refine mE 3 4 ?_
    refine sW 4 rfl (fun a u E D hk=>exec_ixo slK _ _ (g) (off) n c i (off + i * 7) ((i : Int)) rfl (dD D 1) (dD D 2) (by first | rfl | omega) (hin') (by first | rfl | omega)) ?_
    refine sD 5 29 3 q.cells Try.underlying41 (fun u hk=>range_kept HE.out hk) (by rw [q.len7]; exact szK) ?_
    refine cS 6 13 [q.v] rfl Try.func13 rfl (fun a u E D hk=>⟨ll (dD D 4) rfl, kstop_any q u⟩) ?_
    exact fz
   intro gv w3 hV k3
   rw [dq 6 [26,27,28,29,30,31]]
   simp only [Fz7]
   rw [gQ hV 0 26 (.pointer (some ⟨p, 0, none⟩))]
   rw [gQ hV 5 31 q.so.v]
   clear hV
   refine l_call 10 #[.pointer (some ⟨p, 0, none⟩), q.so.v] rfl (exec_call 10 _ [.tmp 26, .tmp 31] _ _ Try.func10 (by kernel_rfl) (by kernel_rfl) rfl (by kernel_rfl) _) ?_
   refine (madd_at w3 F' p M q.so _ HLD.out (HLr.out.kept k3) HI.out HNo.out).mono ?_
   rintro r w4 ⟨F4, v4, Z4, rfl, hM4, hO4, hG4, hk4⟩
   refine ⟨_, rfl, ?_⟩
   simp only [Act.put, sA, sS, sZ]
   refine l_val (v4) rfl (exec_assign _ _ rfl (by kernel_rfl)) ?_
   simp only [Act.put, sA, sS, sZ]
   refine wpList_nil ?_
   have z3 := k3.size
   have zr := hkr.size
   have HM4 := Lib.hid hM4
   have HF4 : Hid (∀ b, F4 b → w.heap.size ≤ b) := fun x hx => (hG4 x hx).elim (HFr.out x) (fun h => by omega)
   have kw4 : Kept w w4 := Keep.trans (S := fun _ => False) (T := F') (hkr.trans k3) hk4 (fun b hb h => by have := HFr.out b h; omega)
   have hzl : Z4.length = m := by rw [hO4.len, HLL.out]
   have hS4 := hO4.sl
   rw [hzl] at hS4
   obtain ⟨g4, o4, c4, rfl⟩ := hS4.some_ (by omega)
   have HO4 := Lib.hid hO4
   have HS4 := Lib.hid hS4
   have HZL := Lib.hid hzl
   obtain ⟨qb, vw, Fb, hP4, _⟩ := hM4.2
   have HP4 := Lib.hid hP4
   clear hM4 hO4 hG4 hk4 HLr HFr hkr HE HI HNo HNx k3 hS4 hzl hP4 HLD
   go_upto_region 8 with fail
   refine wT 8 [.eq (.slice (some ⟨g4, o4, none⟩) m c4), iE (m : Int), bE false, bE false, pE p 0, pE qb 0, bE false, bE false] [33,34,35,36,37,38,39,40] ?_ ?_
   ·refine mE 1 5 ?_
    refine sW 2 rfl (fun a u E D hk=>exec_len _ _ _ slC.und (some ⟨g4, o4, none⟩) m c4 rfl (dD D 0)) ?_
    refine aS 3 rfl (fun a u E D hk=>exec_ltn rfl (dD D 1) rfl) (decide_eq_false (by omega)) ?_
    refine mD 4 35 2 ?_
    refine mE 5 3 ?_
    refine cS 6 14 [.pointer (some ⟨p, 0, none⟩)] rfl Try.func14 rfl (fun a u E D hk=>⟨ll (dD D 4) rfl, mbook_any u p qb vw (HP4.out.blk.kept hk)⟩) ?_
    refine sW 7 rfl (fun a u E D hk=>exec_eqP _ _ _ ⟨qb, 0, none⟩ (by kernel_rfl) rfl (dD D 5)) ?_
    refine sW 8 rfl (fun a u E D hk=>exec_pickF _ _ _ _ rfl (dD D 3) (dD D 6)) ?_
    exact fz
   intro gv w5 hV k5
   simp only [Fz7]
   rw [gQ hV 7 40 (.bool false)]
   clear hV
   have HM5 := Lib.hid (HM4.out.kept k5)
   have HO5 := Lib.hid (HO4.out.kept k5)
   have HS5 := Lib.hid (HS4.out.kept k5)
   have HP5 := Lib.hid (HP4.out.kept k5)
   have kw5 := kw4.trans k5
   clear HM4 HO4 HS4 HP4 kw4 k5
   go_upto_region 10 with fail
   refine wT 3 [.eq (.slice (some ⟨g4, o4, none⟩) m c4), iE (m : Int), iE 0] [41,42,43] ?_ ?_
   ·refine mE 1 5 ?_
    refine sW 2 rfl (fun a u E D hk=>exec_len _ _ _ slC.und (some ⟨g4, o4, none⟩) m c4 rfl (dD D 0)) ?_
    refine sW 3 rfl (fun a u E D hk=>exec_move _ _ rfl rfl) ?_
    exact fz
   intro gv w6 hV k6
   simp only [Fz7]
   rw [gQ hV 0 41 (.slice (some ⟨g4, o4, none⟩) m c4)]
   rw [gQ hV 1 42 (.int .i64 (m : Int))]
   rw [gQ hV 2 43 (.int .i64 0)]
   clear hV
   have HS6 := Lib.hid (HS5.out.kept k6)
   have HP6 := Lib.hid (HP5.out.kept k6)
   have HM6 := Lib.hid (HM5.out.kept k6)
   have HO6 := Lib.hid (HO5.out.kept k6)
   have kw6 := kw5.trans k6
   clear HM5 HO5 HS5 HP5 kw5 k6
   go_wp2_with fail
   go_loopw [43] (fun x wr => ∃ (k : Nat), k ≤ m ∧ x = .int .i64 (k : Int) ∧ Kept w6 wr) (fun x _ => m - (intOf x).toNat)
   case atStart => exact ⟨0, Nat.zero_le _, rfl, Kept.refl _⟩
   case round =>
    obtain ⟨k, hk, rfl, hkr⟩ := hrel
    by_cases hkm : k < m
    ·obtain ⟨z, hz⟩ : ∃ z, Z4[k]? = some z := ⟨Z4[k]'(by rw [HZL.out]; exact hkm), List.getElem?_eq_getElem _⟩
     obtain ⟨x, vf⟩ := z
     have hLk : L[k]? = some x := by rw [← HO6.out.eq, List.getElem?_map, hz]; rfl
     have HX : Hid (wr.rangeAt g4 (o4 + k * 15) (x.cells vf)) := range_kept (HS6.out.rngC k (x, vf) hz) hkr
     have hvf1 : vf.oneCell' = true := sl_onec (HO6.out.fl (x, vf) (List.mem_of_getElem? hz))
     obtain ⟨b, hb⟩ : ∃ b, decide ((0 : Int) < (k : Int)) = b := ⟨_, rfl⟩
     have hbad : (b && (decide (x.c.o.stop = 0) || x.wt)) = false := by
      cases b with
      | false => rfl
      | true =>
       have h0 : 0 < k := by have := of_decide_eq_true hb; omega
       obtain ⟨h1, h2⟩ := HLT.out k x h0 hLk
       rw [h1, decide_eq_false h2]
       rfl
     have HBD := Lib.hid hbad
     have HBB := Lib.hid hb
     clear hz hLk hbad hb
     go_upto_region 12 with fail
     refine wp_text 3 [iE (k : Int), pE g4 (o4 + k * 15), .eq (x.v vf)] rfl (by kernel_rfl) ?_ ?_
     ·refine mE 1 43 ?_
      refine sW 2 rfl (fun a u E D hk=>exec_ixo slC _ _ (g4) (o4) m c4 k (o4 + k * 15) ((k : Int)) rfl (eE E) (eE E) (by first | rfl | omega) (hkm) (by first | rfl | omega)) ?_
      refine sD 3 46 1 (x.cells vf) Try.underlying32 (fun u hk=>range_kept (HX.out) hk) (by rw [Ot.len15]; exact szC) ?_
      exact fz
     intro gv w7 hV k7
     rw [dq 3 [45,46,47]]
     simp only [Fz7]
     rw [gQ hV 0 45 (.int .i64 (k : Int))]
     rw [gQ hV 2 47 (x.v vf)]
     clear hV
     refine l_new (.pointer (some ⟨w7.heap.size, 0, none⟩)) (w7.alloc (.cells (zeroC.cells (.slice none 0 0)).toArray 32)) rfl (exec_alc 32 (zeroC.cells (.slice none 0 0)) rfl zC) ?_
     have hNw8 := Blk.new w7 32 (zeroC.cells (.slice none 0 0))
     have kw8 : Kept w7 (w7.alloc (.cells (zeroC.cells (.slice none 0 0)).toArray 32)) := (Keep.refl _ w7).alloc _
     generalize w7.alloc (.cells (zeroC.cells (.slice none 0 0)).toArray 32) = w8 at hNw8 kw8 ⊢
     simp only [Act.put, sA, sS, sZ]
     refine l_val (.int .i64 (k : Int)) rfl (exec_assign _ _ rfl (by kernel_rfl)) ?_
     simp only [Act.put, sA, sS, sZ]
     refine l_setS 32 w7.heap.size 32 (zeroC.cells (.slice none 0 0)) ((x).cells vf) _ _ rfl rfl (by kernel_rfl) (by kernel_rfl) (hNw8) (by rw [Ot.len15]; exact szC) (by rw [Ot.len15]; rfl) (Ot.one _ _ hvf1) ?_
     intro w9 hCw9 hkw9 hsw9
     simp only [Act.put]
     refine wpList_nil ?_
     obtain ⟨b7, h7⟩ : ∃ a, w7.heap.size = a := ⟨_, rfl⟩
     rw [h7] at hNw8 hCw9 hkw9 ⊢
     have z7 := k7.size
     have zk := hkr.size
     have k69 : Kept w6 w9 := ((hkr.trans k7).trans kw8).trans' hkw9 (by omega)
     have HX9 := Lib.hid (blk_range hCw9)
     clear hNw8 hCw9 hkw9 hsw9 kw8 k7 hkr HX
     go_upto_region 13 with fail
     refine wT 12 [iE (k : Int), bE b, bE b, .cond b (pE b7 0), .cond b (pE b7 8), .cond b (iE x.c.o.stop), .cond b (bE (decide ((x.c.o.stop : Int) = (0 : Int)))), .cond b (bE (decide ((x.c.o.stop : Int) = (0 : Int)))), .cond (b && (!(decide ((x.c.o.stop : Int) = (0 : Int))))) (pE b7 12), .cond (b && (!(decide ((x.c.o.stop : Int) = (0 : Int))))) (bE x.wt), .cond b (bE ((decide ((x.c.o.stop : Int) = (0 : Int))) || x.wt)), bE false] [48,49,50,51,52,53,54,55,56,57,58,59] ?_ ?_
     ·refine mE 1 6 ?_
      refine aS 2 rfl (fun a u E D hk=>exec_gtn rfl (dD D 0) rfl) HBB.out ?_
      refine mD 3 49 1 ?_
      refine iC 4 2 rfl (fun a u E D hk hb=>exec_fldo 32 0 0 _ (b7) (0) (0) rfl (eE E) (by kernel_rfl) rfl) ?_
      refine iC 5 2 rfl (fun a u E D hk hb=>exec_fldo 27 8 8 _ (b7) (0) (8) rfl ((D 3 51 (by kernel_rfl)).1 hb) (by kernel_rfl) rfl) ?_
      refine iC 6 2 rfl (fun a u E D hk hb=>exec_loadi _ Try.underlying3 _ _ _ rfl ((D 4 52 (by kernel_rfl)).1 hb) ((range_kept (HX9.out) hk) 8 _ rfl)) ?_
      refine iC 7 2 rfl (fun a u E D hk hb=>exec_eqn rfl ((D 5 53 (by kernel_rfl)).1 hb) rfl) ?_
      refine iC 8 2 rfl (fun a u E D hk hb=>exec_move _ _ rfl ((D 6 54 (by kernel_rfl)).1 hb)) ?_
      refine fsteps_cons 9 rfl (fun a u hE hD hk => f_unless2 _ _ rfl rfl rfl (dD hD 7) (fun hb => f_val _ rfl (wanted_b rfl rfl ((hD 7 55 (by kernel_rfl)).1 (and_l hb)) (eq_false_of (and_r hb))) (exec_fldo 32 4 12 (.tmp 7) (b7) (0) (12) rfl (eE hE) (by kernel_rfl) rfl) rfl)) ?_
      refine fsteps_cons 10 rfl (fun a u hE hD hk => f_unless2 _ _ rfl rfl rfl (dD hD 7) (fun hb => f_val _ rfl (wanted_b rfl rfl ((hD 7 55 (by kernel_rfl)).1 (and_l hb)) (eq_false_of (and_r hb))) (exec_ldb 4 Try.underlying4 (.tmp 56) ⟨b7, 12, none⟩ (.bool x.wt) rfl ((hD 8 56 (by kernel_rfl)).1 hb) ((range_kept (HX9.out) hk) 12 _ rfl)) rfl)) ?_
      refine iC 11 2 rfl (fun a u E D hk hb=>exec_pickor _ _ _ ((decide ((x.c.o.stop : Int) = (0 : Int)))) (x.wt) rfl ((D 7 55 (by kernel_rfl)).1 hb) rfl (fun hb2 => ((D 9 57 (by kernel_rfl)).1 (and_mk hb hb2)))) ?_
      refine aS 12 rfl (fun a u E D hk=>exec_pickand _ _ _ (b) (((decide ((x.c.o.stop : Int) = (0 : Int))) || x.wt)) rfl (dD D 2) (fun hb2 => ((D 10 58 (by kernel_rfl)).1 hb2)) rfl) HBD.out ?_
      exact fz
     intro gv w10 hV k10
     simp only [Fz7]
     rw [gQ hV 11 59 (.bool false)]
     clear hV
     have kk := k69.trans k10
     clear HX9 k10 k69 HBD HBB
     go_wp2
     exact ⟨⟨k + 1, by omega, by go_num, kk⟩, by simp [intOf]; omega⟩
    ·clear HS6 HO6
     have HM7 := Lib.hid (HM6.out.kept hkr)
     have HP7 := Lib.hid (HP6.out.kept hkr)
     have kw7 := kw6.trans hkr
     clear HM6 HP6 hkr kw6
     obtain ⟨wn, hwn⟩ : ∃ wn, M2.w.length = wn := ⟨_, rfl⟩
     have hwl : wn ≤ 64 := by have := HI2.out.few; omega
     have HWN := Lib.hid hwn
     clear hwn
     go_upto_region 16 with fail
     refine wT 4 [pE p 0, .sl wr.heap.size 27 9 wn (ords M2.w), iE (wn : Int), iE 0] [61,62,63,64] ?_ ?_
     ·refine mE 1 3 ?_
      refine cS 2 12 [.pointer (some ⟨p, 0, none⟩)] rfl Try.func12 rfl (fun a u E D hk=>⟨ll (dD D 0) rfl, (by rw [← HWN.out]; exact (waiting_any u F4 p M2 (HM7.out.kept hk) (by rw [HWN.out]; omega)).base hk.size)⟩) ?_
      refine sW 3 rfl (fun a u E D hk=>exec_lenS _ slO _ _ _ _ rfl rfl (D 1 62 (by kernel_rfl)).1) ?_
      refine sW 4 rfl (fun a u E D hk=>exec_move _ _ rfl rfl) ?_
      exact fz
     intro gv w8 hV k8
     simp only [Fz7]
     have hv62 : (.sl wr.heap.size 27 9 wn (ords M2.w) : Kn).p (gv 62) w8 := hV 1 62 (by kernel_rfl)
     generalize gv 62 = v62 at hv62 ⊢
     rw [gQ hV 2 63 (.int .i64 (wn : Int))]
     rw [gQ hV 3 64 (.int .i64 0)]
     clear hV
     have HM8 := Lib.hid (HM7.out.kept k8)
     have HP8 := Lib.hid (HP7.out.kept k8)
     have HW8 := Lib.hid hv62.1
     have kw8 := kw7.trans k8
     obtain ⟨vs, hvs⟩ : ∃ x, x = v62 := ⟨_, rfl⟩
     subst hvs
     clear HM7 HP7 kw7 k8 hv62
     go_wp2_with fail
     go_loopw [64] (fun x wr => ∃ (k : Nat), k ≤ wn ∧ x = .int .i64 (k : Int) ∧ Kept w8 wr) (fun x _ => wn - (intOf x).toNat)
     case atStart => exact ⟨0, Nat.zero_le _, rfl, Kept.refl _⟩
     case round =>
      obtain ⟨k, hk, rfl, hkr⟩ := hrel
      by_cases hkm : k < wn
      ·obtain ⟨g9, o9, c9, rfl⟩ := HW8.out.some_ (by omega)
       obtain ⟨e, he⟩ : ∃ e, M2.w[k]? = some e := ⟨M2.w[k]'(by rw [HWN.out]; exact hkm), List.getElem?_eq_getElem _⟩
       have HEr : Hid (wr.rangeAt g9 (o9 + k * 9) e.cells) := range_kept (HW8.out.rngO k e he) hkr
       have hmem := List.mem_of_getElem? he
       have hst : ¬ e.stop = 0 := by have := (HI2.out.good e hmem).2; omega
       have HHT : Hid (e.hit M2.b.last = false) := HQ2.out e hmem
       clear he hmem
       go_upto_region 18 with fail
       refine wp_text 2 [pE g9 (o9 + k * 9), .eq (e.v)] rfl (by kernel_rfl) ?_ ?_
       ·refine sW 1 rfl (fun a u E D hk=>exec_ixo slO _ _ (g9) (o9) wn c9 k (o9 + k * 9) ((k : Int)) rfl (eE E) (eE E) (by first | rfl | omega) (hkm) (by first | rfl | omega)) ?_
        refine sD 2 66 0 e.cells Try.underlying27 (fun u hk=>range_kept HEr.out hk) (by rw [e.len9]; exact ord_size) ?_
        exact fz
       intro gv w9 hV k9
       rw [dq 2 [66,67]]
       simp only [Fz7]
       rw [gQ hV 1 67 e.v]
       clear hV
       refine l_new (.pointer (some ⟨w9.heap.size, 0, none⟩)) (w9.alloc (.cells zeroO.cells.toArray 27)) rfl (exec_alc 27 zeroO.cells rfl zO) ?_
       have hNwa := Blk.new w9 27 zeroO.cells
       have kwa : Kept w9 (w9.alloc (.cells zeroO.cells.toArray 27)) := (Keep.refl _ w9).alloc _
       generalize w9.alloc (.cells zeroO.cells.toArray 27) = wa at hNwa kwa ⊢
       simp only [Act.put, sA, sS, sZ]
       refine l_setS 27 w9.heap.size 27 zeroO.cells e.cells _ _ rfl rfl (by kernel_rfl) (by kernel_rfl) (hNwa) (by rw [Ord.len9]; exact ord_size) (by rw [Ord.len9, Ord.len9]) (Ord.one1 _) ?_
       intro wb hCwb hkwb hswb
       simp only [Act.put]
       refine wpList_nil ?_
       obtain ⟨b9, h9⟩ : ∃ a, w9.heap.size = a := ⟨_, rfl⟩
       rw [h9] at hNwa hCwb hkwb ⊢
       have z9 := k9.size
       have zk := hkr.size
       have k8b : Kept w8 wb := ((hkr.trans k9).trans kwa).trans' hkwb (by omega)
       have HXb := Lib.hid (blk_range hCwb)
       have HPb := Lib.hid (HP8.out.kept k8b)
       clear hNwa hCwb hkwb hswb kwa k9 hkr HEr
       go_upto_region 19 with fail
       refine wF 10 [pE b9 8, iE e.stop, bE false, bE false, .eq (e.v), pE p 0, pE qb 0, iE M2.b.last, bE false, bE false] [68,69,70,71,72,73,74,75,76,77] ?_ ?_
       ·refine fE 1 9 27 8 8 0 ?_
        refine lD 2 68 0 Try.underlying3 (fun u hk=>range_int (range_kept HXb.out hk) 8 _ rfl) ?_
        refine aS 3 rfl (fun a u E D hk=>exec_eqn rfl (dD D 1) rfl) (decide_eq_false hst) ?_
        refine mD 4 70 2 ?_
        refine sE 5 9 b9 0 e.cells Try.underlying27 (fun u hk=>range_kept HXb.out hk) (by rw [e.len9]; exact ord_size) ?_
        refine mE 6 3 ?_
        refine cS 7 14 [.pointer (some ⟨p, 0, none⟩)] rfl Try.func14 rfl (fun a u E D hk=>⟨ll (dD D 5) rfl, mbook_any u p qb vw (HPb.out.blk.kept hk)⟩) ?_
        refine cS 8 16 [.pointer (some ⟨qb, 0, none⟩)] rfl Try.func16 rfl (fun a u E D hk=>⟨ll (dD D 6) rfl, blast_any u Fb qb M2.b (HPb.out.bk.kept hk)⟩) ?_
        refine cS 9 15 [e.v, .int .i64 M2.b.last] rfl Try.func15 rfl (fun a u E D hk=>⟨ll (dD D 4) (ll (dD D 7) rfl), (by rw [← HHT.out]; exact hit_any e _ u)⟩) ?_
        refine sW 10 rfl (fun a u E D hk=>exec_pickF _ _ _ _ rfl (dD D 3) (dD D 8)) ?_
        exact fz
       intro gv wc hV kc
       simp only [Fz7]
       rw [gQ hV 9 77 (.bool false)]
       clear hV
       have kk := k8b.trans kc
       clear HXb kc k8b HPb HHT hst
       go_wp2
       exact ⟨⟨k + 1, by omega, by go_num, kk⟩, by simp [intOf]; omega⟩
      ·clear HW8
       have HM9 := Lib.hid (HM8.out.kept hkr)
       have kw9 := kw8.trans hkr
       clear HM8 HP8 hkr kw8
       obtain ⟨an, han⟩ : ∃ an, M2.all.length = an := ⟨_, rfl⟩
       have hal : (an : Int) = (M2.len : Int) ∧ an ≤ 64 := by have h1 := all_len M2; have h2 := HI2.out.few; unfold Mkt.len at h1 ⊢; omega
       have HAN := Lib.hid han
       have HAL := Lib.hid hal.1
       have hal2 := hal.2
       clear han hal
       go_upto_region 22 with fail
       refine wT 3 [pE p 0, .sl wr.heap.size 27 9 an (ords M2.all), .sl wr.heap.size 27 9 an (ords M2.all)] [79,80,10] ?_ ?_
       ·refine mE 1 3 ?_
        refine cS 2 17 [.pointer (some ⟨p, 0, none⟩)] rfl Try.func17 rfl (fun a u E D hk=>⟨ll (dD D 0) rfl, (by rw [← HAN.out]; exact (mall_any u F4 p M2 (HM9.out.kept hk) HI2.out.inv (by rw [HWN.out]; omega)).base hk.size)⟩) ?_
        refine fsteps_cons 3 rfl (fun a u hE hD hk => f_val _ rfl (wanted_none rfl _) (exec_assign (.tmp 80) _ rfl rfl) (dD hD 1)) ?_
        exact fz
       intro gv wd hV kd
       simp only [Fz7]
       have hv10 : (.sl wr.heap.size 27 9 an (ords M2.all) : Kn).p (gv 10) wd := hV 2 10 (by kernel_rfl)
       generalize gv 10 = v10 at hv10 ⊢
       clear hV
       have HMd := Lib.hid (HM9.out.kept kd)
       have HAd := Lib.hid hv10.1
       have kwd := kw9.trans kd
       obtain ⟨va, hva⟩ : ∃ x, x = v10 := ⟨_, rfl⟩
       subst hva
       clear HM9 kw9 kd hv10
       go_upto_region 23 with fail
       refine wT 3 [.eq (va), iE (an : Int), iE 0] [81,82,83] ?_ ?_
       ·refine mE 1 10 ?_
        refine sW 2 rfl (fun a u E D hk=>exec_lenS _ slO _ _ _ _ rfl (dD D 0) (HAd.out.kept hk)) ?_
        refine sW 3 rfl (fun a u E D hk=>exec_move _ _ rfl rfl) ?_
        exact fz
       intro gv we hV ke
       simp only [Fz7]
       rw [gQ hV 0 81 va]
       rw [gQ hV 1 82 (.int .i64 (an : Int))]
       rw [gQ hV 2 83 (.int .i64 0)]
       clear hV
       have HMe := Lib.hid (HMd.out.kept ke)
       have HAe := Lib.hid (HAd.out.kept ke)
       have kwe := kwd.trans ke
       clear HMd HAd kwd ke
       have HNK := Lib.hid HI2.out.nodup
       go_wp2_with fail
       go_loopw [83] (fun x wr => ∃ (k : Nat), k ≤ an ∧ x = .int .i64 (k : Int) ∧ Kept we wr) (fun x _ => an - (intOf x).toNat)
       case atStart => exact ⟨0, Nat.zero_le _, rfl, Kept.refl _⟩
       case round =>
        obtain ⟨k, hk, rfl, hkr⟩ := hrel
        by_cases hkm : k < an
        ·obtain ⟨ga, oa, ca, rfl⟩ := HAe.out.some_ (by omega)
         obtain ⟨ea, hea⟩ : ∃ e, M2.all[k]? = some e := ⟨M2.all[k]'(by rw [HAN.out]; exact hkm), List.getElem?_eq_getElem _⟩
         have HEA := Lib.hid hea
         clear hea
         go_wp2_with fail
         go_loopw [12] (fun x wr => ∃ (j : Nat), j ≤ k ∧ x = .int .i64 (j : Int) ∧ Kept we wr) (fun x _ => k - (intOf x).toNat)
         case atStart => exact ⟨0, Nat.zero_le _, rfl, hkr⟩
         case round =>
          clear hkr
          obtain ⟨j, hj, rfl, hkr⟩ := hrel
          by_cases hjk : j < k
          ·have hjn : j < an := by omega
           obtain ⟨ec, hec⟩ : ∃ e, M2.all[j]? = some e := ⟨M2.all[j]'(by rw [HAN.out]; exact hjn), List.getElem?_eq_getElem _⟩
           have HRa : Hid (wr.rangeAt ga (oa + k * 9) ea.cells) := range_kept (HAe.out.rngO k ea HEA.out) hkr
           have HRc : Hid (wr.rangeAt ga (oa + j * 9) ec.cells) := range_kept (HAe.out.rngO j ec hec) hkr
           have HBD : Hid ((decide (ea.tr = ec.tr) && decide (ea.id = ec.id)) = false) := by
            have := nodup_keys HNK.out HEA.out hec hjk
            show _ = _
            rw [← Bool.decide_and]
            exact decide_eq_false this
           clear hec
           go_upto_region 29 with fail
           refine wF 24 [.eq (.slice (some ⟨ga, oa, none⟩) an ca), iE (k : Int), pE ga (oa + k * 9), pE ga (oa + k * 9), iE ea.tr, .eq (.slice (some ⟨ga, oa, none⟩) an ca), iE (j : Int), pE ga (oa + j * 9), pE ga (oa + j * 9), iE ec.tr, bE (decide ((ea.tr : Int) = (ec.tr : Int))), bE (decide ((ea.tr : Int) = (ec.tr : Int))), .cond (decide ((ea.tr : Int) = (ec.tr : Int))) (.eq (.slice (some ⟨ga, oa, none⟩) an ca)), .cond (decide ((ea.tr : Int) = (ec.tr : Int))) (iE (k : Int)), .cond (decide ((ea.tr : Int) = (ec.tr : Int))) (pE ga (oa + k * 9)), .cond (decide ((ea.tr : Int) = (ec.tr : Int))) (pE ga (oa + k * 9 + 1)), .cond (decide ((ea.tr : Int) = (ec.tr : Int))) (iE ea.id), .cond (decide ((ea.tr : Int) = (ec.tr : Int))) (.eq (.slice (some ⟨ga, oa, none⟩) an ca)), .cond (decide ((ea.tr : Int) = (ec.tr : Int))) (iE (j : Int)), .cond (decide ((ea.tr : Int) = (ec.tr : Int))) (pE ga (oa + j * 9)), .cond (decide ((ea.tr : Int) = (ec.tr : Int))) (pE ga (oa + j * 9 + 1)), .cond (decide ((ea.tr : Int) = (ec.tr : Int))) (iE ec.id), .cond (decide ((ea.tr : Int) = (ec.tr : Int))) (bE (decide ((ea.id : Int) = (ec.id : Int)))), bE false] [91,92,93,94,95,96,97,98,99,100,101,102,103,104,105,106,107,108,109,110,111,112,113,114] ?_ ?_
           ·refine mE 1 10 ?_
            refine mE 2 11 ?_
            refine sW 3 rfl (fun a u E D hk=>exec_ixo slO _ _ (ga) (oa) an ca k (oa + k * 9) ((k : Int)) rfl (dD D 0) (dD D 1) (by first | rfl | omega) (hkm) (by first | rfl | omega)) ?_
            refine fD 4 93 2 27 0 0 (oa + k * 9) ?_
            refine lD 5 94 3 Try.underlying3 (fun u hk=>range_int (range_kept HRa.out hk) 0 _ rfl) ?_
            refine mE 6 10 ?_
            refine mE 7 12 ?_
            refine sW 8 rfl (fun a u E D hk=>exec_ixo slO _ _ (ga) (oa) an ca j (oa + j * 9) ((j : Int)) rfl (dD D 5) (dD D 6) (by first | rfl | omega) (hjn) (by first | rfl | omega)) ?_
            refine fD 9 98 7 27 0 0 (oa + j * 9) ?_
            refine lD 10 99 8 Try.underlying3 (fun u hk=>range_int (range_kept HRc.out hk) 0 _ rfl) ?_
            refine sW 11 rfl (fun a u E D hk=>exec_eqn rfl (dD D 4) (dD D 9)) ?_
            refine mD 12 101 10 ?_
            refine iC 13 11 rfl (fun a u E D hk hb=>exec_move _ _ rfl (eE E)) ?_
            refine iC 14 11 rfl (fun a u E D hk hb=>exec_move _ _ rfl (eE E)) ?_
            refine iC 15 11 rfl (fun a u E D hk hb=>exec_ixo slO _ _ (ga) (oa) an ca k (oa + k * 9) ((k : Int)) rfl ((D 12 103 (by kernel_rfl)).1 hb) ((D 13 104 (by kernel_rfl)).1 hb) (by first | rfl | omega) (hkm) (by first | rfl | omega)) ?_
            refine iC 16 11 rfl (fun a u E D hk hb=>exec_fldo 27 1 1 _ (ga) (oa + k * 9) (oa + k * 9 + 1) rfl ((D 14 105 (by kernel_rfl)).1 hb) (by kernel_rfl) rfl) ?_
            refine iC 17 11 rfl (fun a u E D hk hb=>exec_loadi _ Try.underlying3 _ _ _ rfl ((D 15 106 (by kernel_rfl)).1 hb) (range_int (range_kept HRa.out hk) 1 _ rfl)) ?_
            refine iC 18 11 rfl (fun a u E D hk hb=>exec_move _ _ rfl (eE E)) ?_
            refine iC 19 11 rfl (fun a u E D hk hb=>exec_move _ _ rfl (eE E)) ?_
            refine iC 20 11 rfl (fun a u E D hk hb=>exec_ixo slO _ _ (ga) (oa) an ca j (oa + j * 9) ((j : Int)) rfl ((D 17 108 (by kernel_rfl)).1 hb) ((D 18 109 (by kernel_rfl)).1 hb) (by first | rfl | omega) (hjn) (by first | rfl | omega)) ?_
            refine iC 21 11 rfl (fun a u E D hk hb=>exec_fldo 27 1 1 _ (ga) (oa + j * 9) (oa + j * 9 + 1) rfl ((D 19 110 (by kernel_rfl)).1 hb) (by kernel_rfl) rfl) ?_
            refine iC 22 11 rfl (fun a u E D hk hb=>exec_loadi _ Try.underlying3 _ _ _ rfl ((D 20 111 (by kernel_rfl)).1 hb) (range_int (range_kept HRc.out hk) 1 _ rfl)) ?_
            refine iC 23 11 rfl (fun a u E D hk hb=>exec_eqn rfl ((D 16 107 (by kernel_rfl)).1 hb) ((D 21 112 (by kernel_rfl)).1 hb)) ?_
            refine aS 24 rfl (fun a u E D hk=>exec_pickand _ _ _ ((decide ((ea.tr : Int) = (ec.tr : Int)))) ((decide ((ea.id : Int) = (ec.id : Int)))) rfl (dD D 11) (fun hb2 => ((D 22 113 (by kernel_rfl)).1 hb2)) rfl) HBD.out ?_
            exact fz
           intro gv wf hV kf
           simp only [Fz7]
           rw [gQ hV 23 114 (.bool false)]
           clear hV
           have kk := hkr.trans kf
           clear HRa HRc HBD kf hkr
           go_wp2
           exact ⟨⟨j + 1, by omega, by go_num, kk⟩, by simp [intOf]; omega⟩
          ·clear HEA
           go_wp2
           exact ⟨⟨k + 1, by omega, by go_num, hkr⟩, by simp [intOf]; omega⟩
        ·have HMf := Lib.hid (HMe.out.kept hkr)
         have HAf := Lib.hid (HAe.out.kept hkr)
         have kwf := kwe.trans hkr
         have HNE : Hid (¬ ((M2.len : Int) ≠ (an : Int))) := fun h => h HAL.out.symm
         clear HMe HAe kwe hkr
         go_upto_region 32 with fail
         refine wT 10 [pE p 0, iE (M2.len : Int), .eq (va), iE (an : Int), bE false, bE false, .eq (va), iE (an : Int), bE false, bE false] [116,117,118,119,120,121,122,123,124,125] ?_ ?_
         ·refine mE 1 3 ?_
          refine cS 2 18 [.pointer (some ⟨p, 0, none⟩)] rfl Try.func18 rfl (fun a u E D hk=>⟨ll (dD D 0) rfl, mlen_any u F4 p M2 (HMf.out.kept hk) HI2.out.inv (by rw [HWN.out]; omega)⟩) ?_
          refine mE 3 10 ?_
          refine sW 4 rfl (fun a u E D hk=>exec_lenS _ slO _ _ _ _ rfl (dD D 2) (HAf.out.kept hk)) ?_
          refine aS 5 rfl (fun a u E D hk=>exec_nen rfl (dD D 1) (dD D 3)) (decide_eq_false HNE.out) ?_
          refine mD 6 120 4 ?_
          refine mE 7 10 ?_
          refine sW 8 rfl (fun a u E D hk=>exec_lenS _ slO _ _ _ _ rfl (dD D 6) (HAf.out.kept hk)) ?_
          refine aS 9 rfl (fun a u E D hk=>exec_gtn rfl (dD D 7) rfl) (decide_eq_false (by omega)) ?_
          refine sW 10 rfl (fun a u E D hk=>exec_pickF _ _ _ _ rfl (dD D 5) (dD D 8)) ?_
          exact fz
         intro gv wg hV kg
         simp only [Fz7]
         rw [gQ hV 9 125 (.bool false)]
         clear hV
         have HLn : Hid (Mk wg F4 p (fillM (l.take (i + 1)))) := by rw [HME.out]; exact Lib.hid (HMf.out.kept kg)
         have kwg := kwf.trans kg
         clear HMf HAf kwf kg HNE HNK HAL HAN HWN HME HI2 HQ2 HLT HLL
         go_wp2
         exact ⟨⟨i + 1, F4, by go_num, by omega, by omega, HLn, HF4, kwg⟩, by simp [intOf]; omega⟩
  ·clear HLr HFr
   by_cases h1 : i < n
   ·have h2 : ¬ i < 60 := by omega
    clear hlt
    go_upto_region 34 with fail
    refine wp_region_lit ?_
    refine l_call 3 #[] rfl (exec_call 3 _ [] _ _ Try.func3 (by kernel_rfl) (by kernel_rfl) rfl (by kernel_rfl) _) ?_
    refine (stopsRuns_any wr).mono ?_
    rintro r w9 ⟨rfl, k9⟩
    refine ⟨_, rfl, ?_⟩
    simp only [Act.put, sA, sS, sZ]
    refine l_val (.bool true) rfl (exec_assign _ _ rfl (by kernel_rfl)) ?_
    simp only [Act.put, sA, sS, sZ]
    refine wpList_nil ?_
    go_wp2
    go_ret
    exact ⟨rfl, hkr.trans k9⟩
   ·clear hlt
    go_upto_region 34 with fail
    refine wp_region_lit ?_
    refine l_call 3 #[] rfl (exec_call 3 _ [] _ _ Try.func3 (by kernel_rfl) (by kernel_rfl) rfl (by kernel_rfl) _) ?_
    refine (stopsRuns_any wr).mono ?_
    rintro r w9 ⟨rfl, k9⟩
    refine ⟨_, rfl, ?_⟩
    simp only [Act.put, sA, sS, sZ]
    refine l_val (.bool true) rfl (exec_assign _ _ rfl (by kernel_rfl)) ?_
    simp only [Act.put, sA, sS, sZ]
    refine wpList_nil ?_
    go_wp2
    go_ret
    exact ⟨rfl, hkr.trans k9⟩
end Go.Proofs.Ytlbeibapbkccfaa
