/-
 Laws and contracts that the walks rest on, part 4. No condition.
-/
import Derived.Test.YtklohceombpleaaQA03
set_option linter.unusedVariables false
namespace Go.Proofs.Ytklohceombpleaa
open Go.RowKit
set_option maxRecDepth 100000
set_option maxRecDepth 100000 in
set_option maxHeartbeats 3200000 in
theorem refusal_any (w : World) (F : Nat → Prop) (p : Nat) (B : Bok) (o : Ord) (h : Bk w F p B) (hI : Inv B) : Gives 79 #[.pointer (some ⟨p, 0, none⟩), o.v] w (.eq (.int .i64 (B.err o))) := by
 refine gives_eq ?_
 have HB := Lib.hid h
 have HI := Lib.hid hI
 clear h hI
 go_enter Try.func79, Try.ntmps79
 go_upto_region 0 with fail
 refine wp_text 2 [.fresh w.heap.size 24 (o.cells), iE 0] rfl (by kernel_rfl) ?_ ?_
 ·refine nW 1 rfl (fun a u E D hk=>⟨_, _, exec_box 24 _ (o.cells) rfl (eE E), ⟨_, rfl, hk.size, Blk.new u _ _⟩, ((Keep.refl _ u).alloc _)⟩) ?_
  refine sW 2 rfl (fun a u E D hk=>exec_assign _ _ rfl rfl) ?_
  exact fz
 intro gv w0 hV k0
 rw [dq 2 [3,4]]
 simp only [Fz7]
 have hv3 : (.fresh w.heap.size 24 (o.cells) : Kn).p (gv 3) w0 := hV 0 3 (by kernel_rfl)
 generalize gv 3 = v3 at hv3 ⊢
 rw [gQ hV 1 4 (.int .i64 0)]
 clear hV
 obtain ⟨g, rfl, hg, hBo⟩ := hv3
 refine wpList_nil ?_
 have HO := Lib.hid (blk_range hBo)
 clear hBo
 by_cases hr : o.right = true
 ·have hr1 : ¬ o.err ≠ 0 := by unfold Ord.err; rw [if_pos hr]; simp
  have HR := Lib.hid hr
  clear hr
  by_cases hst : o.stop ≠ 0
  ·have HE : Hid (B.err o = 1) := by show _ = _; unfold Bok.err; rw [if_pos (fun h => hst h.2)]
   go_upto_region 1 with fail
   refine wE 8 [o.v, iV o.err, bV false, bV false, pV g 8, iV o.stop, bV true, bV true] [7,8,9,10,11,12,13,14] ?_ ?_
   ·refine sE 1 3 g 0 o.cells Try.underlying24 (fun u hk=>range_kept HO.out hk) (by rw [o.len9]; exact ord_size) ?_
    refine cS 2 32 [o.v] rfl Try.func32 rfl (fun a u E D hk=>⟨ll (dD D 0) rfl, ordRight_any o u⟩) ?_
    refine aS 3 rfl (fun a u E D hk=>exec_nen rfl (dD D 1) rfl) (decide_eq_false hr1) ?_
    refine mD 4 9 2 ?_
    refine fE 5 3 24 8 8 0 ?_
    refine lD 6 11 4 Try.underlying3 (fun u hk=>range_int (range_kept HO.out hk) 8 _ rfl) ?_
    refine aS 7 rfl (fun a u E D hk=>exec_nen rfl (dD D 5) rfl) (decide_eq_true hst) ?_
    refine sW 8 rfl (fun a u E D hk=>exec_pickF _ _ _ _ rfl (dD D 3) (dD D 6)) ?_
    exact fz
   intro w1 k1
   simp only [F8]
   have kx := k0.trans k1
   clear HO hr1 hst
   go_wp2
   go_ret
   exact ⟨by rw [HE.out]; rfl, kx⟩
  ·skip
   go_upto_region 1 with fail
   refine wE 8 [o.v, iV o.err, bV false, bV false, pV g 8, iV o.stop, bV false, bV false] [7,8,9,10,11,12,13,14] ?_ ?_
   ·refine sE 1 3 g 0 o.cells Try.underlying24 (fun u hk=>range_kept HO.out hk) (by rw [o.len9]; exact ord_size) ?_
    refine cS 2 32 [o.v] rfl Try.func32 rfl (fun a u E D hk=>⟨ll (dD D 0) rfl, ordRight_any o u⟩) ?_
    refine aS 3 rfl (fun a u E D hk=>exec_nen rfl (dD D 1) rfl) (decide_eq_false hr1) ?_
    refine mD 4 9 2 ?_
    refine fE 5 3 24 8 8 0 ?_
    refine lD 6 11 4 Try.underlying3 (fun u hk=>range_int (range_kept HO.out hk) 8 _ rfl) ?_
    refine aS 7 rfl (fun a u E D hk=>exec_nen rfl (dD D 5) rfl) (decide_eq_false hst) ?_
    refine sW 8 rfl (fun a u E D hk=>exec_pickF _ _ _ _ rfl (dD D 3) (dD D 6)) ?_
    exact fz
   intro w1 k1
   simp only [F8]
   have kx := k0.trans k1
   have hst0 : o.stop = 0 := Classical.not_not.1 hst
   have HST := Lib.hid hst0
   have HO1 := Lib.hid (range_kept HO.out k1)
   have HSD := Lib.hid (right_side HR.out)
   have HQ := Lib.hid (right_qty HR.out)
   have HS3 : Hid (3 - o.side = 1 ∨ 3 - o.side = 2) := by have := HSD.out; show _ ∨ _; omega
   have HSID := Lib.hid (HI.out.side HSD.out).theirs
   have HL64 : Hid ((B.sd (3 - o.side)).length ≤ 1000) := by have := HSID.out.ok.len; show _ ≤ _; omega
   clear HO hr1 hst hst0 k0 k1
   obtain ⟨fo, hfo⟩ : ∃ x, (B.find o.tr o.id).1 = x := ⟨_, rfl⟩
   obtain ⟨hb, hhb⟩ : ∃ x, (B.find o.tr o.id).2 = x := ⟨_, rfl⟩
   have HFO := Lib.hid hfo
   have HHB := Lib.hid hhb
   clear hfo hhb
   go_upto_region 3 with fail
   refine wp_text 10 [pE p 0, pE g 0, iE o.tr, pE g 1, iE o.id, .eq (.tuple #[fo.v, .bool hb]), .eq (.tuple #[fo.v, .bool hb]), .eq (fo.v), bE hb, .fresh w1.heap.size 24 zeroO.cells] rfl (by kernel_rfl) ?_ ?_
   ·refine mE 1 0 ?_
    refine fE 2 3 24 0 0 0 ?_
    refine lD 3 17 1 Try.underlying3 (fun u hk=>range_int (range_kept HO1.out hk) 0 _ rfl) ?_
    refine fE 4 3 24 1 1 0 ?_
    refine lD 5 19 3 Try.underlying3 (fun u hk=>range_int (range_kept HO1.out hk) 1 _ rfl) ?_
    refine cS 6 35 [.pointer (some ⟨p, 0, none⟩), .int .i64 o.tr, .int .i64 o.id] rfl Try.func35 rfl (fun a u E D hk=>⟨ll (dD D 0) (ll (dD D 2) (ll (dD D 4) rfl)), (by rw [← HFO.out, ← HHB.out]; exact bfind_any u F p B o.tr o.id (HB.out.kept (kx.trans hk)) HI.out)⟩) ?_
    refine mD 7 21 5 ?_
    refine sW 8 rfl (fun a u E D hk=>exec_extract _ [fo.v, .bool hb] 0 (fo.v) rfl (dD D 6) rfl) ?_
    refine sW 9 rfl (fun a u E D hk=>exec_extract _ [fo.v, .bool hb] 1 (.bool hb) rfl (dD D 6) rfl) ?_
    refine nW 10 rfl (fun a u E D hk=>⟨_, _, exec_alc 24 zeroO.cells rfl zO, ⟨_, rfl, hk.size, Blk.new u _ _⟩, ((Keep.refl _ u).alloc _)⟩) ?_
    exact fz
   intro gv w2 hV k2
   rw [dq 10 [16,17,18,19,20,21,15,22,23,5]]
   simp only [Fz7]
   have hv5 : (.fresh w1.heap.size 24 zeroO.cells : Kn).p (gv 5) w2 := hV 9 5 (by kernel_rfl)
   generalize gv 5 = v5 at hv5 ⊢
   rw [gQ hV 7 22 fo.v]
   rw [gQ hV 8 23 (.bool hb)]
   clear hV
   obtain ⟨b5, rfl, hb5, hB5⟩ := hv5
   refine l_setS 24 b5 24 zeroO.cells fo.cells _ _ rfl rfl (by kernel_rfl) (by kernel_rfl) hB5 (by rw [Ord.len9]; exact ord_size) (by rw [Ord.len9, Ord.len9]) (Ord.one1 _) ?_
   intro w3 hB3 hk3 hs3
   simp only [Act.put]
   refine l_val (.bool hb) rfl (exec_assign _ _ rfl (by kernel_rfl)) ?_
   simp only [Act.put, sA, sS, sZ]
   refine wpList_nil ?_
   have k13 : Kept w1 w3 := k2.trans' hk3 (by omega)
   have kx3 := kx.trans k13
   have HO3 := Lib.hid (range_kept HO1.out k13)
   clear hB5 hB3 hk3 hs3 k2 k13 HO1
   cases hb with
   | true =>
    have HE : Hid (B.err o = 5) := by show _ = _; unfold Bok.err; rw [if_neg (fun h => h ⟨HR.out, HST.out⟩), if_pos (show B.has o.tr o.id = true from HHB.out)]
    have kx := kx3
    clear HO3 HFO HHB kx3
    go_wp2
    go_ret
    exact ⟨by rw [HE.out]; rfl, kx⟩
   | false =>
    have HNH : Hid (¬ B.has o.tr o.id = true) := by show ¬ _; unfold Bok.has; rw [HHB.out]; simp
    clear HFO HHB kx
    obtain ⟨mr, hmr⟩ : ∃ x, (decide (o.k = 1) || decide (o.k = 5)) = x := ⟨_, rfl⟩
    have HMR := Lib.hid hmr
    have hmr1 : mr = true ↔ (o.k = 1 ∨ o.k = 5) := by rw [← hmr]; simp
    have HM1 := Lib.hid hmr1
    clear hmr hmr1
    by_cases hfull : mr = true ∧ 64 ≤ B.len
    ·obtain ⟨hm1, hln0⟩ := hfull
     subst hm1
     have hln : (64 : Int) ≤ (B.len : Int) := by omega
     have HE : Hid (B.err o = 4) := by show _ = _; unfold Bok.err; rw [if_neg (fun h => h ⟨HR.out, HST.out⟩), if_neg HNH.out, if_pos ⟨HM1.out.1 rfl, hln0⟩]
     go_upto_region 6 with fail
     refine wE 7 [o.v, bV true, bV true, pV p 0, iV (B.len : Int), bV true, bV true] [25,26,27,28,29,30,31] ?_ ?_
     ·refine sE 1 3 g 0 o.cells Try.underlying24 (fun u hk=>range_kept HO3.out hk) (by rw [o.len9]; exact ord_size) ?_
      refine cS 2 81 [o.v] rfl Try.func81 rfl (fun a u E D hk=>⟨ll (dD D 0) rfl, (by rw [← HMR.out]; exact mayRest_any u o)⟩) ?_
      refine mD 3 26 1 ?_
      refine mE 4 0 ?_
      refine cS 5 77 [.pointer (some ⟨p, 0, none⟩)] rfl Try.func77 rfl (fun a u E D hk=>⟨ll (dD D 3) rfl, blen_any u F p B (HB.out.kept (kx3.trans hk)) HI.out⟩) ?_
      refine aS 6 rfl (fun a u E D hk=>exec_gen rfl (dD D 4) rfl) (decide_eq_true hln) ?_
      refine pT 7 27 30 2 5 ?_
      exact fz
     intro w4 k4
     simp only [F8]
     have kx := kx3.trans k4
     clear HO3 k4 kx3 hln hln0
     go_wp2
     go_ret
     exact ⟨by rw [HE.out]; rfl, kx⟩
    ·have HNF : Hid (¬ ((o.k = 1 ∨ o.k = 5) ∧ 64 ≤ B.len)) := fun h => hfull ⟨HM1.out.2 h.1, h.2⟩
     have hE0 : B.err o = if o.k = 5 ∧ o.meets (B.sd (3 - o.side)) = true then 11 else if o.k = 4 ∧ 0 < (B.matched o).left then 12 else 0 := by
      unfold Bok.err
      rw [if_neg (fun h => h ⟨HR.out, HST.out⟩), if_neg HNH.out, if_neg HNF.out]
     have HE0 := Lib.hid hE0
     clear hE0
     have h4 : ∀ (K : Nat → Prop), True := fun _ => trivial
     clear h4
     obtain ⟨mb, hmb⟩ : ∃ x, o.meets (B.sd (3 - o.side)) = x := ⟨_, rfl⟩
     have HCR := Lib.hid hmb
     obtain ⟨gv0, hgv0⟩ : ∃ x, givesM o (B.sd (3 - o.side)) = x := ⟨_, rfl⟩
     have HGV := Lib.hid hgv0
     have HGL : Hid (gv0 < o.qty ↔ 0 < (B.matched o).left) := by
      have h1 := gives_left o (B.sd (3 - o.side)) B.no o.qty (by have := HQ.out; omega) HSID.out
      show _ ↔ _
      rw [hgv0] at h1
      unfold Bok.matched
      omega
     clear hmb hgv0
     cases mr with
     | true =>
      have hln : ¬ (64 : Int) ≤ (B.len : Int) := fun h => hfull ⟨rfl, by omega⟩
      clear hfull
      go_upto_region 6 with fail
      refine wE 7 [o.v, bV true, bV true, pV p 0, iV (B.len : Int), bV false, bV false] [25,26,27,28,29,30,31] ?_ ?_
      ·refine sE 1 3 g 0 o.cells Try.underlying24 (fun u hk=>range_kept HO3.out hk) (by rw [o.len9]; exact ord_size) ?_
       refine cS 2 81 [o.v] rfl Try.func81 rfl (fun a u E D hk=>⟨ll (dD D 0) rfl, (by rw [← HMR.out]; exact mayRest_any u o)⟩) ?_
       refine mD 3 26 1 ?_
       refine mE 4 0 ?_
       refine cS 5 77 [.pointer (some ⟨p, 0, none⟩)] rfl Try.func77 rfl (fun a u E D hk=>⟨ll (dD D 3) rfl, blen_any u F p B (HB.out.kept (kx3.trans hk)) HI.out⟩) ?_
       refine aS 6 rfl (fun a u E D hk=>exec_gen rfl (dD D 4) rfl) (decide_eq_false hln) ?_
       refine pT 7 27 30 2 5 ?_
       exact fz
      intro w4 k4
      simp only [F8]
      clear hln
      have kx4 := kx3.trans k4
      have HO4 := Lib.hid (range_kept HO3.out k4)
      clear HO3 k4 kx3
      by_cases hk5 : o.k = 5
      ·skip
       have HK5 := Lib.hid hk5
       have hk4 : ¬ o.k = 4 := by omega
       cases mb with
       | true =>
        have HE : Hid (B.err o = 11) := by show _ = _; rw [HE0.out, if_pos ⟨hk5, HCR.out⟩]
        go_upto_region 8 with fail
        refine wG 10 [pV g 4, iV o.k, bV true, bV true, pV p 0, o.v, pV p (offS (3 - o.side)), o.v, bV true, bV true] [32,33,34,35,36,37,38,39,40,41] ?_ ?_
        ·refine fE 1 3 24 4 4 0 ?_
         refine lD 2 32 0 Try.underlying3 (fun u hk=>range_int (range_kept HO4.out hk) 4 _ rfl) ?_
         refine aS 3 rfl (fun a u E D hk=>exec_eqn rfl (dD D 1) rfl) (decide_eq_true hk5) ?_
         refine mD 4 34 2 ?_
         refine mE 5 0 ?_
         refine sE 6 3 g 0 o.cells Try.underlying24 (fun u hk=>range_kept HO4.out hk) (by rw [o.len9]; exact ord_size) ?_
         refine cS 7 86 [.pointer (some ⟨p, 0, none⟩), o.v] rfl Try.func86 rfl (fun a u E D hk=>⟨ll (dD D 4) (ll (dD D 5) rfl), against_any u p o HSD.out⟩) ?_
         refine sE 8 3 g 0 o.cells Try.underlying24 (fun u hk=>range_kept HO4.out hk) (by rw [o.len9]; exact ord_size) ?_
         refine cS 9 87 [.pointer (some ⟨p, offS (3 - o.side), none⟩), o.v] rfl Try.func87 rfl (fun a u E D hk=>⟨ll (dD D 6) (ll (dD D 7) rfl), (by obtain ⟨F', hLd⟩ := (HB.out.kept (kx4.trans hk)).lad HS3.out; rw [← HCR.out]; exact crossed_any u F' p (offS (3 - o.side)) (3 - o.side) _ o hLd HL64.out)⟩) ?_
         refine pT 10 35 40 3 8 ?_
         exact fz
        intro w5 k5
        simp only [F8]
        have kx := kx4.trans k5
        clear HO4 k5 kx4 hk5 hk4
        go_wp2
        go_ret
        exact ⟨by rw [HE.out]; rfl, kx⟩
       | false =>
        have HE : Hid (B.err o = 0) := by show _ = _; rw [HE0.out, if_neg (fun h => by rw [HCR.out] at h; cases h.2), if_neg (fun h => hk4 h.1)]
        go_upto_region 8 with fail
        refine wG 10 [pV g 4, iV o.k, bV true, bV true, pV p 0, o.v, pV p (offS (3 - o.side)), o.v, bV false, bV false] [32,33,34,35,36,37,38,39,40,41] ?_ ?_
        ·refine fE 1 3 24 4 4 0 ?_
         refine lD 2 32 0 Try.underlying3 (fun u hk=>range_int (range_kept HO4.out hk) 4 _ rfl) ?_
         refine aS 3 rfl (fun a u E D hk=>exec_eqn rfl (dD D 1) rfl) (decide_eq_true hk5) ?_
         refine mD 4 34 2 ?_
         refine mE 5 0 ?_
         refine sE 6 3 g 0 o.cells Try.underlying24 (fun u hk=>range_kept HO4.out hk) (by rw [o.len9]; exact ord_size) ?_
         refine cS 7 86 [.pointer (some ⟨p, 0, none⟩), o.v] rfl Try.func86 rfl (fun a u E D hk=>⟨ll (dD D 4) (ll (dD D 5) rfl), against_any u p o HSD.out⟩) ?_
         refine sE 8 3 g 0 o.cells Try.underlying24 (fun u hk=>range_kept HO4.out hk) (by rw [o.len9]; exact ord_size) ?_
         refine cS 9 87 [.pointer (some ⟨p, offS (3 - o.side), none⟩), o.v] rfl Try.func87 rfl (fun a u E D hk=>⟨ll (dD D 6) (ll (dD D 7) rfl), (by obtain ⟨F', hLd⟩ := (HB.out.kept (kx4.trans hk)).lad HS3.out; rw [← HCR.out]; exact crossed_any u F' p (offS (3 - o.side)) (3 - o.side) _ o hLd HL64.out)⟩) ?_
         refine pT 10 35 40 3 8 ?_
         exact fz
        intro w5 k5
        simp only [F8]
        have kx5 := kx4.trans k5
        have HO5 := Lib.hid (range_kept HO4.out k5)
        clear HO4 k5 kx4 hk5
        go_upto_region 10 with fail
        refine wG 13 [pV g 4, iV o.k, bV false, bV false, undef, undef, undef, undef, undef, undef, undef, undef, bV false] [42,43,44,45,46,47,48,49,50,51,52,53,54] ?_ ?_
        ·refine fE 1 3 24 4 4 0 ?_
         refine lD 2 42 0 Try.underlying3 (fun u hk=>range_int (range_kept HO5.out hk) 4 _ rfl) ?_
         refine aS 3 rfl (fun a u E D hk=>exec_eqn rfl (dD D 1) rfl) (decide_eq_false hk4) ?_
         refine mD 4 44 2 ?_
         refine kS 5 3 ?_
         refine kS 6 3 ?_
         refine kS 7 3 ?_
         refine kS 8 3 ?_
         refine kS 9 3 ?_
         refine kS 10 3 ?_
         refine kS 11 3 ?_
         refine kS 12 3 ?_
         refine pF 13 45 3 ?_
         exact fz
        intro w6 k6
        simp only [F8]
        have kx := kx5.trans k6
        clear HO5 k6 kx5 hk4
        go_wp2
        go_ret
        exact ⟨by rw [HE.out]; rfl, kx⟩
      ·skip
       go_upto_region 8 with fail
       refine wG 10 [pV g 4, iV o.k, bV false, bV false, undef, undef, undef, undef, undef, bV false] [32,33,34,35,36,37,38,39,40,41] ?_ ?_
       ·refine fE 1 3 24 4 4 0 ?_
        refine lD 2 32 0 Try.underlying3 (fun u hk=>range_int (range_kept HO4.out hk) 4 _ rfl) ?_
        refine aS 3 rfl (fun a u E D hk=>exec_eqn rfl (dD D 1) rfl) (decide_eq_false hk5) ?_
        refine mD 4 34 2 ?_
        refine kS 5 3 ?_
        refine kS 6 3 ?_
        refine kS 7 3 ?_
        refine kS 8 3 ?_
        refine kS 9 3 ?_
        refine pF 10 35 3 ?_
        exact fz
       intro w5 k5
       simp only [F8]
       have kx5 := kx4.trans k5
       have HO5 := Lib.hid (range_kept HO4.out k5)
       have HN5 := Lib.hid hk5
       clear HO4 k5 kx4 hk5
       by_cases hk4 : o.k = 4
       ·skip
        have HK4 := Lib.hid hk4
        by_cases hgv : gv0 < o.qty
        ·have HE : Hid (B.err o = 12) := by show _ = _; rw [HE0.out, if_neg (fun h => HN5.out h.1), if_pos ⟨hk4, HGL.out.1 hgv⟩]
         go_upto_region 10 with fail
         refine wG 13 [pV g 4, iV o.k, bV true, bV true, pV p 0, o.v, pV p (offS (3 - o.side)), o.v, iV gv0, pV g 6, iV o.qty, bV true, bV true] [42,43,44,45,46,47,48,49,50,51,52,53,54] ?_ ?_
         ·refine fE 1 3 24 4 4 0 ?_
          refine lD 2 42 0 Try.underlying3 (fun u hk=>range_int (range_kept HO5.out hk) 4 _ rfl) ?_
          refine aS 3 rfl (fun a u E D hk=>exec_eqn rfl (dD D 1) rfl) (decide_eq_true hk4) ?_
          refine mD 4 44 2 ?_
          refine mE 5 0 ?_
          refine sE 6 3 g 0 o.cells Try.underlying24 (fun u hk=>range_kept HO5.out hk) (by rw [o.len9]; exact ord_size) ?_
          refine cS 7 86 [.pointer (some ⟨p, 0, none⟩), o.v] rfl Try.func86 rfl (fun a u E D hk=>⟨ll (dD D 4) (ll (dD D 5) rfl), against_any u p o HSD.out⟩) ?_
          refine sE 8 3 g 0 o.cells Try.underlying24 (fun u hk=>range_kept HO5.out hk) (by rw [o.len9]; exact ord_size) ?_
          refine cS 9 88 [.pointer (some ⟨p, offS (3 - o.side), none⟩), o.v] rfl Try.func88 rfl (fun a u E D hk=>⟨ll (dD D 6) (ll (dD D 7) rfl), (by obtain ⟨F', hLd⟩ := (HB.out.kept (kx5.trans hk)).lad HS3.out; rw [← HGV.out]; exact gives_any u F' p (offS (3 - o.side)) (3 - o.side) (3 - o.side) _ o hLd HSID.out)⟩) ?_
          refine fE 10 3 24 6 6 0 ?_
          refine lD 11 51 9 Try.underlying3 (fun u hk=>range_int (range_kept HO5.out hk) 6 _ rfl) ?_
          refine aS 12 rfl (fun a u E D hk=>exec_ltn rfl (dD D 8) (dD D 10)) (decide_eq_true hgv) ?_
          refine pT 13 45 53 3 11 ?_
          exact fz
         intro w6 k6
         simp only [F8]
         have kx := kx5.trans k6
         clear HO5 k6 kx5 hk4 hgv
         go_wp2
         go_ret
         exact ⟨by rw [HE.out]; rfl, kx⟩
        ·have HE : Hid (B.err o = 0) := by show _ = _; rw [HE0.out, if_neg (fun h => HN5.out h.1), if_neg (fun h => hgv (HGL.out.2 h.2))]
         go_upto_region 10 with fail
         refine wG 13 [pV g 4, iV o.k, bV true, bV true, pV p 0, o.v, pV p (offS (3 - o.side)), o.v, iV gv0, pV g 6, iV o.qty, bV false, bV false] [42,43,44,45,46,47,48,49,50,51,52,53,54] ?_ ?_
         ·refine fE 1 3 24 4 4 0 ?_
          refine lD 2 42 0 Try.underlying3 (fun u hk=>range_int (range_kept HO5.out hk) 4 _ rfl) ?_
          refine aS 3 rfl (fun a u E D hk=>exec_eqn rfl (dD D 1) rfl) (decide_eq_true hk4) ?_
          refine mD 4 44 2 ?_
          refine mE 5 0 ?_
          refine sE 6 3 g 0 o.cells Try.underlying24 (fun u hk=>range_kept HO5.out hk) (by rw [o.len9]; exact ord_size) ?_
          refine cS 7 86 [.pointer (some ⟨p, 0, none⟩), o.v] rfl Try.func86 rfl (fun a u E D hk=>⟨ll (dD D 4) (ll (dD D 5) rfl), against_any u p o HSD.out⟩) ?_
          refine sE 8 3 g 0 o.cells Try.underlying24 (fun u hk=>range_kept HO5.out hk) (by rw [o.len9]; exact ord_size) ?_
          refine cS 9 88 [.pointer (some ⟨p, offS (3 - o.side), none⟩), o.v] rfl Try.func88 rfl (fun a u E D hk=>⟨ll (dD D 6) (ll (dD D 7) rfl), (by obtain ⟨F', hLd⟩ := (HB.out.kept (kx5.trans hk)).lad HS3.out; rw [← HGV.out]; exact gives_any u F' p (offS (3 - o.side)) (3 - o.side) (3 - o.side) _ o hLd HSID.out)⟩) ?_
          refine fE 10 3 24 6 6 0 ?_
          refine lD 11 51 9 Try.underlying3 (fun u hk=>range_int (range_kept HO5.out hk) 6 _ rfl) ?_
          refine aS 12 rfl (fun a u E D hk=>exec_ltn rfl (dD D 8) (dD D 10)) (decide_eq_false hgv) ?_
          refine pT 13 45 53 3 11 ?_
          exact fz
         intro w6 k6
         simp only [F8]
         have kx := kx5.trans k6
         clear HO5 k6 kx5 hk4 hgv
         go_wp2
         go_ret
         exact ⟨by rw [HE.out]; rfl, kx⟩
       ·have HE : Hid (B.err o = 0) := by show _ = _; rw [HE0.out, if_neg (fun h => HN5.out h.1), if_neg (fun h => hk4 h.1)]
        go_upto_region 10 with fail
        refine wG 13 [pV g 4, iV o.k, bV false, bV false, undef, undef, undef, undef, undef, undef, undef, undef, bV false] [42,43,44,45,46,47,48,49,50,51,52,53,54] ?_ ?_
        ·refine fE 1 3 24 4 4 0 ?_
         refine lD 2 42 0 Try.underlying3 (fun u hk=>range_int (range_kept HO5.out hk) 4 _ rfl) ?_
         refine aS 3 rfl (fun a u E D hk=>exec_eqn rfl (dD D 1) rfl) (decide_eq_false hk4) ?_
         refine mD 4 44 2 ?_
         refine kS 5 3 ?_
         refine kS 6 3 ?_
         refine kS 7 3 ?_
         refine kS 8 3 ?_
         refine kS 9 3 ?_
         refine kS 10 3 ?_
         refine kS 11 3 ?_
         refine kS 12 3 ?_
         refine pF 13 45 3 ?_
         exact fz
        intro w6 k6
        simp only [F8]
        have kx := kx5.trans k6
        clear HO5 k6 kx5 hk4
        go_wp2
        go_ret
        exact ⟨by rw [HE.out]; rfl, kx⟩
     | false =>
      clear hfull
      go_upto_region 6 with fail
      refine wE 7 [o.v, bV false, bV false, undef, undef, undef, bV false] [25,26,27,28,29,30,31] ?_ ?_
      ·refine sE 1 3 g 0 o.cells Try.underlying24 (fun u hk=>range_kept HO3.out hk) (by rw [o.len9]; exact ord_size) ?_
       refine cS 2 81 [o.v] rfl Try.func81 rfl (fun a u E D hk=>⟨ll (dD D 0) rfl, (by rw [← HMR.out]; exact mayRest_any u o)⟩) ?_
       refine mD 3 26 1 ?_
       refine kS 4 2 ?_
       refine kS 5 2 ?_
       refine kS 6 2 ?_
       refine pF 7 27 2 ?_
       exact fz
      intro w4 k4
      simp only [F8]
      have kx4 := kx3.trans k4
      have HO4 := Lib.hid (range_kept HO3.out k4)
      clear HO3 k4 kx3
      by_cases hk5 : o.k = 5
      ·skip
       have HK5 := Lib.hid hk5
       have hk4 : ¬ o.k = 4 := by omega
       cases mb with
       | true =>
        have HE : Hid (B.err o = 11) := by show _ = _; rw [HE0.out, if_pos ⟨hk5, HCR.out⟩]
        go_upto_region 8 with fail
        refine wG 10 [pV g 4, iV o.k, bV true, bV true, pV p 0, o.v, pV p (offS (3 - o.side)), o.v, bV true, bV true] [32,33,34,35,36,37,38,39,40,41] ?_ ?_
        ·refine fE 1 3 24 4 4 0 ?_
         refine lD 2 32 0 Try.underlying3 (fun u hk=>range_int (range_kept HO4.out hk) 4 _ rfl) ?_
         refine aS 3 rfl (fun a u E D hk=>exec_eqn rfl (dD D 1) rfl) (decide_eq_true hk5) ?_
         refine mD 4 34 2 ?_
         refine mE 5 0 ?_
         refine sE 6 3 g 0 o.cells Try.underlying24 (fun u hk=>range_kept HO4.out hk) (by rw [o.len9]; exact ord_size) ?_
         refine cS 7 86 [.pointer (some ⟨p, 0, none⟩), o.v] rfl Try.func86 rfl (fun a u E D hk=>⟨ll (dD D 4) (ll (dD D 5) rfl), against_any u p o HSD.out⟩) ?_
         refine sE 8 3 g 0 o.cells Try.underlying24 (fun u hk=>range_kept HO4.out hk) (by rw [o.len9]; exact ord_size) ?_
         refine cS 9 87 [.pointer (some ⟨p, offS (3 - o.side), none⟩), o.v] rfl Try.func87 rfl (fun a u E D hk=>⟨ll (dD D 6) (ll (dD D 7) rfl), (by obtain ⟨F', hLd⟩ := (HB.out.kept (kx4.trans hk)).lad HS3.out; rw [← HCR.out]; exact crossed_any u F' p (offS (3 - o.side)) (3 - o.side) _ o hLd HL64.out)⟩) ?_
         refine pT 10 35 40 3 8 ?_
         exact fz
        intro w5 k5
        simp only [F8]
        have kx := kx4.trans k5
        clear HO4 k5 kx4 hk5 hk4
        go_wp2
        go_ret
        exact ⟨by rw [HE.out]; rfl, kx⟩
       | false =>
        have HE : Hid (B.err o = 0) := by show _ = _; rw [HE0.out, if_neg (fun h => by rw [HCR.out] at h; cases h.2), if_neg (fun h => hk4 h.1)]
        go_upto_region 8 with fail
        refine wG 10 [pV g 4, iV o.k, bV true, bV true, pV p 0, o.v, pV p (offS (3 - o.side)), o.v, bV false, bV false] [32,33,34,35,36,37,38,39,40,41] ?_ ?_
        ·refine fE 1 3 24 4 4 0 ?_
         refine lD 2 32 0 Try.underlying3 (fun u hk=>range_int (range_kept HO4.out hk) 4 _ rfl) ?_
         refine aS 3 rfl (fun a u E D hk=>exec_eqn rfl (dD D 1) rfl) (decide_eq_true hk5) ?_
         refine mD 4 34 2 ?_
         refine mE 5 0 ?_
         refine sE 6 3 g 0 o.cells Try.underlying24 (fun u hk=>range_kept HO4.out hk) (by rw [o.len9]; exact ord_size) ?_
         refine cS 7 86 [.pointer (some ⟨p, 0, none⟩), o.v] rfl Try.func86 rfl (fun a u E D hk=>⟨ll (dD D 4) (ll (dD D 5) rfl), against_any u p o HSD.out⟩) ?_
         refine sE 8 3 g 0 o.cells Try.underlying24 (fun u hk=>range_kept HO4.out hk) (by rw [o.len9]; exact ord_size) ?_
         refine cS 9 87 [.pointer (some ⟨p, offS (3 - o.side), none⟩), o.v] rfl Try.func87 rfl (fun a u E D hk=>⟨ll (dD D 6) (ll (dD D 7) rfl), (by obtain ⟨F', hLd⟩ := (HB.out.kept (kx4.trans hk)).lad HS3.out; rw [← HCR.out]; exact crossed_any u F' p (offS (3 - o.side)) (3 - o.side) _ o hLd HL64.out)⟩) ?_
         refine pT 10 35 40 3 8 ?_
         exact fz
        intro w5 k5
        simp only [F8]
        have kx5 := kx4.trans k5
        have HO5 := Lib.hid (range_kept HO4.out k5)
        clear HO4 k5 kx4 hk5
        go_upto_region 10 with fail
        refine wG 13 [pV g 4, iV o.k, bV false, bV false, undef, undef, undef, undef, undef, undef, undef, undef, bV false] [42,43,44,45,46,47,48,49,50,51,52,53,54] ?_ ?_
        ·refine fE 1 3 24 4 4 0 ?_
         refine lD 2 42 0 Try.underlying3 (fun u hk=>range_int (range_kept HO5.out hk) 4 _ rfl) ?_
         refine aS 3 rfl (fun a u E D hk=>exec_eqn rfl (dD D 1) rfl) (decide_eq_false hk4) ?_
         refine mD 4 44 2 ?_
         refine kS 5 3 ?_
         refine kS 6 3 ?_
         refine kS 7 3 ?_
         refine kS 8 3 ?_
         refine kS 9 3 ?_
         refine kS 10 3 ?_
         refine kS 11 3 ?_
         refine kS 12 3 ?_
         refine pF 13 45 3 ?_
         exact fz
        intro w6 k6
        simp only [F8]
        have kx := kx5.trans k6
        clear HO5 k6 kx5 hk4
        go_wp2
        go_ret
        exact ⟨by rw [HE.out]; rfl, kx⟩
      ·skip
       go_upto_region 8 with fail
       refine wG 10 [pV g 4, iV o.k, bV false, bV false, undef, undef, undef, undef, undef, bV false] [32,33,34,35,36,37,38,39,40,41] ?_ ?_
       ·refine fE 1 3 24 4 4 0 ?_
        refine lD 2 32 0 Try.underlying3 (fun u hk=>range_int (range_kept HO4.out hk) 4 _ rfl) ?_
        refine aS 3 rfl (fun a u E D hk=>exec_eqn rfl (dD D 1) rfl) (decide_eq_false hk5) ?_
        refine mD 4 34 2 ?_
        refine kS 5 3 ?_
        refine kS 6 3 ?_
        refine kS 7 3 ?_
        refine kS 8 3 ?_
        refine kS 9 3 ?_
        refine pF 10 35 3 ?_
        exact fz
       intro w5 k5
       simp only [F8]
       have kx5 := kx4.trans k5
       have HO5 := Lib.hid (range_kept HO4.out k5)
       have HN5 := Lib.hid hk5
       clear HO4 k5 kx4 hk5
       by_cases hk4 : o.k = 4
       ·skip
        have HK4 := Lib.hid hk4
        by_cases hgv : gv0 < o.qty
        ·have HE : Hid (B.err o = 12) := by show _ = _; rw [HE0.out, if_neg (fun h => HN5.out h.1), if_pos ⟨hk4, HGL.out.1 hgv⟩]
         go_upto_region 10 with fail
         refine wG 13 [pV g 4, iV o.k, bV true, bV true, pV p 0, o.v, pV p (offS (3 - o.side)), o.v, iV gv0, pV g 6, iV o.qty, bV true, bV true] [42,43,44,45,46,47,48,49,50,51,52,53,54] ?_ ?_
         ·refine fE 1 3 24 4 4 0 ?_
          refine lD 2 42 0 Try.underlying3 (fun u hk=>range_int (range_kept HO5.out hk) 4 _ rfl) ?_
          refine aS 3 rfl (fun a u E D hk=>exec_eqn rfl (dD D 1) rfl) (decide_eq_true hk4) ?_
          refine mD 4 44 2 ?_
          refine mE 5 0 ?_
          refine sE 6 3 g 0 o.cells Try.underlying24 (fun u hk=>range_kept HO5.out hk) (by rw [o.len9]; exact ord_size) ?_
          refine cS 7 86 [.pointer (some ⟨p, 0, none⟩), o.v] rfl Try.func86 rfl (fun a u E D hk=>⟨ll (dD D 4) (ll (dD D 5) rfl), against_any u p o HSD.out⟩) ?_
          refine sE 8 3 g 0 o.cells Try.underlying24 (fun u hk=>range_kept HO5.out hk) (by rw [o.len9]; exact ord_size) ?_
          refine cS 9 88 [.pointer (some ⟨p, offS (3 - o.side), none⟩), o.v] rfl Try.func88 rfl (fun a u E D hk=>⟨ll (dD D 6) (ll (dD D 7) rfl), (by obtain ⟨F', hLd⟩ := (HB.out.kept (kx5.trans hk)).lad HS3.out; rw [← HGV.out]; exact gives_any u F' p (offS (3 - o.side)) (3 - o.side) (3 - o.side) _ o hLd HSID.out)⟩) ?_
          refine fE 10 3 24 6 6 0 ?_
          refine lD 11 51 9 Try.underlying3 (fun u hk=>range_int (range_kept HO5.out hk) 6 _ rfl) ?_
          refine aS 12 rfl (fun a u E D hk=>exec_ltn rfl (dD D 8) (dD D 10)) (decide_eq_true hgv) ?_
          refine pT 13 45 53 3 11 ?_
          exact fz
         intro w6 k6
         simp only [F8]
         have kx := kx5.trans k6
         clear HO5 k6 kx5 hk4 hgv
         go_wp2
         go_ret
         exact ⟨by rw [HE.out]; rfl, kx⟩
        ·have HE : Hid (B.err o = 0) := by show _ = _; rw [HE0.out, if_neg (fun h => HN5.out h.1), if_neg (fun h => hgv (HGL.out.2 h.2))]
         go_upto_region 10 with fail
         refine wG 13 [pV g 4, iV o.k, bV true, bV true, pV p 0, o.v, pV p (offS (3 - o.side)), o.v, iV gv0, pV g 6, iV o.qty, bV false, bV false] [42,43,44,45,46,47,48,49,50,51,52,53,54] ?_ ?_
         ·refine fE 1 3 24 4 4 0 ?_
          refine lD 2 42 0 Try.underlying3 (fun u hk=>range_int (range_kept HO5.out hk) 4 _ rfl) ?_
          refine aS 3 rfl (fun a u E D hk=>exec_eqn rfl (dD D 1) rfl) (decide_eq_true hk4) ?_
          refine mD 4 44 2 ?_
          refine mE 5 0 ?_
          refine sE 6 3 g 0 o.cells Try.underlying24 (fun u hk=>range_kept HO5.out hk) (by rw [o.len9]; exact ord_size) ?_
          refine cS 7 86 [.pointer (some ⟨p, 0, none⟩), o.v] rfl Try.func86 rfl (fun a u E D hk=>⟨ll (dD D 4) (ll (dD D 5) rfl), against_any u p o HSD.out⟩) ?_
          refine sE 8 3 g 0 o.cells Try.underlying24 (fun u hk=>range_kept HO5.out hk) (by rw [o.len9]; exact ord_size) ?_
          refine cS 9 88 [.pointer (some ⟨p, offS (3 - o.side), none⟩), o.v] rfl Try.func88 rfl (fun a u E D hk=>⟨ll (dD D 6) (ll (dD D 7) rfl), (by obtain ⟨F', hLd⟩ := (HB.out.kept (kx5.trans hk)).lad HS3.out; rw [← HGV.out]; exact gives_any u F' p (offS (3 - o.side)) (3 - o.side) (3 - o.side) _ o hLd HSID.out)⟩) ?_
          refine fE 10 3 24 6 6 0 ?_
          refine lD 11 51 9 Try.underlying3 (fun u hk=>range_int (range_kept HO5.out hk) 6 _ rfl) ?_
          refine aS 12 rfl (fun a u E D hk=>exec_ltn rfl (dD D 8) (dD D 10)) (decide_eq_false hgv) ?_
          refine pT 13 45 53 3 11 ?_
          exact fz
         intro w6 k6
         simp only [F8]
         have kx := kx5.trans k6
         clear HO5 k6 kx5 hk4 hgv
         go_wp2
         go_ret
         exact ⟨by rw [HE.out]; rfl, kx⟩
       ·have HE : Hid (B.err o = 0) := by show _ = _; rw [HE0.out, if_neg (fun h => HN5.out h.1), if_neg (fun h => hk4 h.1)]
        go_upto_region 10 with fail
        refine wG 13 [pV g 4, iV o.k, bV false, bV false, undef, undef, undef, undef, undef, undef, undef, undef, bV false] [42,43,44,45,46,47,48,49,50,51,52,53,54] ?_ ?_
        ·refine fE 1 3 24 4 4 0 ?_
         refine lD 2 42 0 Try.underlying3 (fun u hk=>range_int (range_kept HO5.out hk) 4 _ rfl) ?_
         refine aS 3 rfl (fun a u E D hk=>exec_eqn rfl (dD D 1) rfl) (decide_eq_false hk4) ?_
         refine mD 4 44 2 ?_
         refine kS 5 3 ?_
         refine kS 6 3 ?_
         refine kS 7 3 ?_
         refine kS 8 3 ?_
         refine kS 9 3 ?_
         refine kS 10 3 ?_
         refine kS 11 3 ?_
         refine kS 12 3 ?_
         refine pF 13 45 3 ?_
         exact fz
        intro w6 k6
        simp only [F8]
        have kx := kx5.trans k6
        clear HO5 k6 kx5 hk4
        go_wp2
        go_ret
        exact ⟨by rw [HE.out]; rfl, kx⟩
 ·have HE : Hid (B.err o = 1) := by show _ = _; unfold Bok.err; rw [if_pos (fun h => hr h.1)]
  have hr1 : o.err ≠ 0 := by unfold Ord.err; rw [if_neg hr]; decide
  go_upto_region 1 with fail
  refine wE 8 [o.v, iV o.err, bV true, bV true, undef, undef, undef, bV true] [7,8,9,10,11,12,13,14] ?_ ?_
  ·refine sE 1 3 g 0 o.cells Try.underlying24 (fun u hk=>range_kept HO.out hk) (by rw [o.len9]; exact ord_size) ?_
   refine cS 2 32 [o.v] rfl Try.func32 rfl (fun a u E D hk=>⟨ll (dD D 0) rfl, ordRight_any o u⟩) ?_
   refine aS 3 rfl (fun a u E D hk=>exec_nen rfl (dD D 1) rfl) (decide_eq_true hr1) ?_
   refine mD 4 9 2 ?_
   refine kS 5 3 ?_
   refine kS 6 3 ?_
   refine kS 7 3 ?_
   refine sW 8 rfl (fun a u E D hk=>exec_pick _ _ _ _ rfl (dD D 3) rfl) ?_
   exact fz
  intro w1 k1
  simp only [F8]
  have kx := k0.trans k1
  clear HO hr1 hr
  go_wp2
  go_ret
  exact ⟨by rw [HE.out]; rfl, kx⟩
def AddIn (w : World) (F : Nat → Prop) (p : Nat) (x : Oc × Bok) (r : Ending) (w' : World) : Prop :=
 ∃ F' v, r = .returned (x.1.v v) ∧ Bk w' F' p x.2 ∧ Sl w' 61 21 v x.1.f.length (fls x.1.f) ∧ (∀ b, v.ownBlock = some b → w.heap.size ≤ b ∧ ¬ F' b) ∧ Grow w F F' ∧ Keep F w w'
theorem built_oce (o : Ord) (n e : Int) : Try.prog.built 54 [(0, o.v), (2, .int .i64 n), (6, .int .i64 e)] = some ((Oc.mk o [] n false false e).cells (.slice none 0 0)).toArray := by kernel_rfl
theorem Bok.traded_to (B : Bok) (o : Ord) : B.traded o = B.to (3 - o.side) (B.matched o).L (lastOf B.last (B.matched o).f) (B.no + (B.matched o).f.length) := rfl
set_option maxRecDepth 100000 in
set_option maxHeartbeats 3200000 in
theorem badd_any (w : World) (F : Nat → Prop) (p : Nat) (B : Bok) (o : Ord) (h : Bk w F p B) (hI : Inv B) (hn : B.no ≤ 1000000000000) : Calls Try.prog 71 #[.pointer (some ⟨p, 0, none⟩), o.v] w (AddIn w F p (B.add o)) := by
 have hFl := h.lt
 have HB := Lib.hid h
 have HI := Lib.hid hI
 have hpF := h.1
 clear h hI
 go_enter Try.func71, Try.ntmps71
 go_upto_region 0 with fail
 refine wp_text 2 [.fresh w.heap.size 24 (o.cells), .fresh w.heap.size 54 (zeroC.cells (.slice none 0 0))] rfl (by kernel_rfl) ?_ ?_
 ·refine nW 1 rfl (fun a u E D hk=>⟨_, _, exec_box 24 _ (o.cells) rfl (eE E), ⟨_, rfl, hk.size, Blk.new u _ _⟩, ((Keep.refl _ u).alloc _)⟩) ?_
  refine nW 2 rfl (fun a u E D hk=>⟨_, _, exec_alc 54 (zeroC.cells (.slice none 0 0)) rfl zC, ⟨_, rfl, hk.size, Blk.new u _ _⟩, ((Keep.refl _ u).alloc _)⟩) ?_
  exact fz
 intro gv w0 hV k0
 rw [dq 2 [3,4]]
 simp only [Fz7]
 have hv3 : (.fresh w.heap.size 24 (o.cells) : Kn).p (gv 3) w0 := hV 0 3 (by kernel_rfl)
 generalize gv 3 = v3 at hv3 ⊢
 have hv4 : (.fresh w.heap.size 54 (zeroC.cells (.slice none 0 0)) : Kn).p (gv 4) w0 := hV 1 4 (by kernel_rfl)
 generalize gv 4 = v4 at hv4 ⊢
 clear hV
 obtain ⟨bi, rfl, hbi, hBi⟩ := hv3
 obtain ⟨b4, rfl, hb4, hB4⟩ := hv4
 refine wpList_nil ?_
 have HO := Lib.hid (blk_range hBi)
 have HB4 := Lib.hid hB4
 have li := hBi.lt
 have l4 := hB4.lt
 clear hBi hB4
 obtain ⟨e, he⟩ : ∃ e, B.err o = e := ⟨_, rfl⟩
 have HE := Lib.hid he
 clear he
 go_upto_region 1 with fail
 refine wE 4 [pV p 0, o.v, iV e, iV e] [7,8,9,5] ?_ ?_
 ·refine mE 1 0 ?_
  refine sE 2 3 bi 0 o.cells Try.underlying24 (fun u hk=>range_kept HO.out hk) (by rw [o.len9]; exact ord_size) ?_
  refine cS 3 79 [.pointer (some ⟨p, 0, none⟩), o.v] rfl Try.func79 rfl (fun a u E D hk=>⟨ll (dD D 0) (ll (dD D 1) rfl), (by rw [← HE.out]; exact refusal_any u F p B o (HB.out.kept (k0.trans hk)) HI.out)⟩) ?_
  refine mD 4 9 2 ?_
  exact fz
 intro w1 k1
 simp only [F8]
 have k01 := k0.trans k1
 have HO1 := Lib.hid (range_kept HO.out k1)
 have HB41 := Lib.hid (HB4.out.kept k1)
 have z0 := k0.size
 have z1 := k1.size
 have h4F : ¬ F b4 := fun h => by have := hFl b4 h; omega
 have hiF : ¬ F bi := fun h => by have := hFl bi h; omega
 clear HO HB4 k0 k1
 by_cases he0 : e ≠ 0
 ·have HA : Hid (B.add o = (⟨o, [], o.qty, false, false, e⟩, B)) := by show _ = _; rw [add_err (by rw [HE.out]; exact he0), HE.out]
  go_upto_region 2 with fail
  refine wE 2 [iV e, bV true] [10,11] ?_ ?_
  ·refine mE 1 5 ?_
   refine aS 2 rfl (fun a u E D hk=>exec_nen rfl (dD D 0) rfl) (decide_eq_true he0) ?_
   exact fz
  intro w2 k2
  simp only [F8]
  have HO2 := Lib.hid (range_kept HO1.out k2)
  have HB42 := Lib.hid (HB41.out.kept k2)
  clear he0
  go_upto_region 3 with fail
  refine wEp 5 [o.v, pV bi 6, iV o.qty, iV e, (Oc.mk o [] o.qty false false e).v (.slice none 0 0)] [12,13,14,15,16] ?_ ?_
  ·refine sE 1 3 bi 0 o.cells Try.underlying24 (fun u hk=>range_kept HO2.out hk) (by rw [o.len9]; exact ord_size) ?_
   refine fE 2 3 24 6 6 0 ?_
   refine lD 3 13 1 Try.underlying3 (fun u hk=>range_int (range_kept HO2.out hk) 6 _ rfl) ?_
   refine mE 4 5 ?_
   refine sW 5 rfl (fun a u E D hk=>exec_build _ [(0, .tmp 12), (2, .tmp 14), (6, .tmp 15)] ((Oc.mk o [] o.qty false false e).cells (.slice none 0 0)) rfl (by simp only [List.map_cons, List.map_nil]; rw [show a.eval (.tmp 12) = o.v from (dD D 0), show a.eval (.tmp 14) = .int .i64 o.qty from (dD D 2), show a.eval (.tmp 15) = .int .i64 e from (dD D 3)]; exact built_oce o o.qty e)) ?_
   exact fz
  intro w3 k3
  simp only [F8]
  refine l_setS 54 b4 54 (zeroC.cells (.slice none 0 0)) ((Oc.mk o [] o.qty false false e).cells (.slice none 0 0)) _ _ rfl rfl (by kernel_rfl) (by kernel_rfl) (HB42.out.kept k3) (by rw [Oc.len15]; exact szC) (by rw [Oc.len15, Oc.len15]) (Oc.one _ _ rfl) ?_
  intro w4 hB4 hk4 hs4
  simp only [Act.put]
  refine wpList_nil ?_
  go_wp2
  refine bodyPost_ret (results_cell (p := 4) rfl _ _ b4 _ ((Oc.mk o [] o.qty false false e).cells (.slice none 0 0)) rfl hB4 Try.underlying54 (by rw [Oc.len15]; exact szC)) rfl ?_
  rw [HA.out]
  have kk : Kept w w4 := ((k01.trans k2).trans k3).trans' hk4 (by omega)
  exact ⟨F, .slice none 0 0, rfl, HB.out.kept kk, Sl.nil _ _ _, fun b hb => by simp [Value.ownBlock] at hb, Grow.refl _ _, Keep.mono (T := F) kk (fun _ _ h => h.elim)⟩
 ·have he1 : e = 0 := Classical.not_not.1 he0
  subst he1
  have HEZ := Lib.hid (err_zero HE.out)
  have HAI := Lib.hid (add_is HI.out HE.out)
  go_upto_region 2 with fail
  refine wE 2 [iV 0, bV false] [10,11] ?_ ?_
  ·refine mE 1 5 ?_
   refine aS 2 rfl (fun a u E D hk=>exec_nen rfl (dD D 0) rfl) (by decide) ?_
   exact fz
  intro w2 k2
  simp only [F8]
  have k02 := k01.trans k2
  have z2 := k2.size
  have HO2 := Lib.hid (range_kept HO1.out k2)
  have HB42 := Lib.hid (HB41.out.kept k2)
  clear he0 k01 HO1 HB41
  obtain ⟨m, hm⟩ : ∃ m, B.matched o = m := ⟨_, rfl⟩
  have HMM := Lib.hid hm
  clear hm
  go_upto_region 4 with fail
  refine wEp 2 [pV p 0, o.v] [17,18] ?_ ?_
  ·refine mE 1 0 ?_
   refine sE 2 3 bi 0 o.cells Try.underlying24 (fun u hk=>range_kept HO2.out hk) (by rw [o.len9]; exact ord_size) ?_
   exact fz
  intro w3 k3
  simp only [F8]
  refine l_call 80 #[.pointer (some ⟨p, 0, none⟩), o.v] rfl (exec_call 80 _ [.tmp 17, .tmp 18] _ _ Try.func80 (by kernel_rfl) (by kernel_rfl) rfl (by kernel_rfl) _) ?_
  refine (match_any w3 F p B o (HB.out.kept (k02.trans k3)) HI.out HAI.out.sd (right_qty HAI.out.rt) hn).mono ?_
  rintro r w4 ⟨F4, vf, rfl, hb4', hv4, ho4, hg4, hk4⟩
  rw [HMM.out] at hb4' hv4
  refine ⟨(Oc.mk o m.f m.left false m.self 0).v vf, by rw [HMM.out], ?_⟩
  simp only [Act.put, sA, sS, sZ]
  refine l_new (.pointer (some ⟨w4.heap.size, 0, none⟩)) (w4.alloc (.cells (zeroC.cells (.slice none 0 0)).toArray 54)) rfl (exec_alc 54 (zeroC.cells (.slice none 0 0)) rfl zC) ?_
  have hNw5 := Blk.new w4 54 (zeroC.cells (.slice none 0 0))
  have kw5 : Kept w4 (w4.alloc (.cells (zeroC.cells (.slice none 0 0)).toArray 54)) := (Keep.refl _ w4).alloc _
  generalize w4.alloc (.cells (zeroC.cells (.slice none 0 0)).toArray 54) = w5 at hNw5 kw5 ⊢
  simp only [Act.put, sA, sS, sZ]
  refine l_setS 54 w4.heap.size 54 (zeroC.cells (.slice none 0 0)) ((Oc.mk o m.f m.left false m.self 0).cells vf) _ _ rfl rfl (by kernel_rfl) (by kernel_rfl) hNw5 (by rw [Oc.len15]; exact szC) (by rw [Oc.len15, Oc.len15]) (Oc.one _ _ (sl_onec hv4)) ?_
  intro w6 hB6 hk6 hs6
  simp only [Act.put]
  refine wpList_nil ?_
  obtain ⟨bo, hbo⟩ : ∃ x, w4.heap.size = x := ⟨_, rfl⟩
  rw [hbo] at hNw5 hB6 hk6 ⊢
  have lo := hB6.lt
  have k46 : Kept w4 w6 := kw5.trans' hk6 (by omega)
  have k03 := k02.trans k3
  have z3 := k3.size
  have z4 := hk4.size
  have zz := k46.size
  have hbw : w.heap.size ≤ bo := by have := k03.size; omega
  have KF6 : Keep F w w6 := (Keep.any k03 hk4).kept k46
  have HB6 := Lib.hid (hb4'.kept k46)
  have HV6 := Lib.hid (hv4.kept k46)
  have HOo := Lib.hid hB6
  have HO6 := Lib.hid (range_kept (range_keep (range_kept HO2.out k3) hk4 hiF) k46)
  have HB46 := Lib.hid (((HB42.out.kept k3).keep hk4 h4F).kept k46)
  have HG4 : Hid (Grow w F F4) := hg4.wide k03.size
  have hoF4 : ¬ F4 bo := fun h => by have := hb4'.lt bo h; omega
  have hiF4 : ¬ F4 bi := fun h => (hg4 bi h).elim hiF (fun h => by omega)
  have h4F4 : ¬ F4 b4 := fun h => (hg4 b4 h).elim h4F (fun h => by omega)
  have HOw : Hid (∀ b, vf.ownBlock = some b → w.heap.size ≤ b ∧ ¬ F4 b) := fun b hb => ⟨by have := (ho4 b hb).1; have := k03.size; omega, (ho4 b hb).2⟩
  have HVL : Hid (∀ b, vf.ownBlock = some b → b < bo) := fun b hb => by have := hv4.lt hb; omega
  have hbo4 : bo ≠ b4 := by omega
  have hv4' : ∀ b, vf.ownBlock = some b → b ≠ b4 := fun b hb e => by
   have h1 := (ho4 b hb).1
   omega
  have HV4N := Lib.hid hv4'
  clear hb4' hv4 ho4 hg4 hk4 hNw5 hB6 hk6 hs6 kw5 k46 HO2 HB42 k3 hbo hv4'
  have HST : Hid (B.stays o = (decide (0 < m.left) && !m.self && (decide (o.k = 1) || decide (o.k = 5)))) := by show _ = _; unfold Bok.stays; rw [HMM.out]
  obtain ⟨st, hst⟩ : ∃ st, B.stays o = st := ⟨_, rfl⟩
  rw [hst] at HST
  have HSTY := Lib.hid hst
  have hst' : (decide (0 < m.left) && !m.self && (decide (o.k = 1) || decide (o.k = 5))) = st := HST.out.symm
  clear hst HST
  have HADD : Hid (B.add o = (⟨o, m.f, m.left, st, m.self, 0⟩, if st = true then (B.traded o).put o.side (restM (o.cut m.left) ((B.traded o).sd o.side)) else B.traded o)) := by
   show _ = _
   unfold Bok.add
   rw [if_neg (by rw [HE.out]; simp), HSTY.out, HMM.out]
  have HSTH := Lib.hid hst'
  clear hst'
  by_cases hl : 0 < m.left
  ·by_cases hsf0 : m.self = true
   ·have hsf := hsf0
    have hst : st = false := by rw [← HSTH.out, hsf]; simp
    subst hst
    clear hsf0
    go_upto_region 5 with fail
    refine wE 12 [pV bo 10, iV ((Oc.mk o m.f m.left false m.self 0).left), bV true, bV true, pV bo 13, bV ((Oc.mk o m.f m.left false m.self 0).self), bV false, bV false, bV false, undef, undef, bV false] [20,21,22,23,24,25,26,27,28,29,30,31] ?_ ?_
    ·refine fE 1 6 54 2 10 0 ?_
     refine sW 2 rfl (fun a u E D hk=>exec_loadi _ Try.underlying3 _ _ _ rfl (dD D 0) (by rw [(HOo.out.kept hk).cell]; rfl)) ?_
     refine aS 3 rfl (fun a u E D hk=>exec_gtn rfl (dD D 1) rfl) (decide_eq_true hl) ?_
     refine mD 4 22 2 ?_
     refine fE 5 6 54 5 13 0 ?_
     refine sW 6 rfl (fun a u E D hk=>exec_ldb _ Try.underlying4 _ _ _ rfl (dD D 4) (by rw [(HOo.out.kept hk).cell]; rfl)) ?_
     refine aS 7 rfl (fun a u E D hk=>exec_not _ _ (Oc.mk o m.f m.left false m.self 0).self rfl (dD D 5)) (by rw [hsf]; rfl) ?_
     refine pT 8 23 26 3 6 ?_
     refine mD 9 27 7 ?_
     refine kS 10 8 ?_
     refine kS 11 8 ?_
     refine pF 12 28 8 ?_
     exact fz
    intro w7 k7
    simp only [F8]
    have HB7 := Lib.hid (HB6.out.kept k7)
    have HV7 := Lib.hid (HV6.out.kept k7)
    have HO7 := Lib.hid (HOo.out.kept k7)
    have HB47 := Lib.hid (HB46.out.kept k7)
    have KF7 := KF6.kept k7
    clear HB6 HV6 HOo HB46 HO6 KF6 k7
    go_upto_region 8 with fail
    refine wEp 1 [(Oc.mk o m.f m.left false m.self 0).v vf] [38] ?_ ?_
    ·refine sE 1 6 bo 0 ((Oc.mk o m.f m.left false m.self 0).cells vf) Try.underlying54 (fun u hk=>blk_range (HO7.out.kept hk)) (by rw [Oc.len15]; exact szC) ?_
     exact fz
    intro wy ky
    simp only [F8]
    refine l_setS 54 b4 54 (zeroC.cells (.slice none 0 0)) ((Oc.mk o m.f m.left false m.self 0).cells vf) _ _ rfl rfl (by kernel_rfl) (by kernel_rfl) (HB47.out.kept ky) (by rw [Oc.len15]; exact szC) (by rw [Oc.len15, Oc.len15]) (Oc.one _ _ (sl_onec HV7.out)) ?_
    intro wx hBx hkx hsx
    simp only [Act.put]
    refine wpList_nil ?_
    go_wp2
    refine bodyPost_ret (results_cell (p := 4) rfl _ _ b4 _ ((Oc.mk o m.f m.left false m.self 0).cells vf) rfl hBx Try.underlying54 (by rw [Oc.len15]; exact szC)) rfl ?_
    rw [HADD.out]
    refine ⟨F4, vf, rfl, ?_, (HV7.out.kept ky).keep hkx (fun b hb e => HV4N.out b hb e), HOw.out, HG4.out, (KF7.kept ky).trans hkx (fun b hb e => by omega)⟩
    have h1 := (HB7.out.kept ky).keep hkx (fun b hb e => h4F4 (by rw [← e]; exact hb))
    simp only [Bool.false_eq_true, if_false]
    rw [Bok.traded_to, HMM.out]
    exact h1
   ·have hsf : m.self = false := by simpa using hsf0
    clear hsf0
    obtain ⟨mr, hmr⟩ : ∃ x, (decide (o.k = 1) || decide (o.k = 5)) = x := ⟨_, rfl⟩
    have HMR := Lib.hid hmr
    cases mr with
    | false =>
     have hst : st = false := by rw [← HSTH.out, hmr]; simp
     subst hst
     clear hmr
     go_upto_region 5 with fail
     refine wE 12 [pV bo 10, iV ((Oc.mk o m.f m.left false m.self 0).left), bV true, bV true, pV bo 13, bV ((Oc.mk o m.f m.left false m.self 0).self), bV true, bV true, bV true, o.v, bV false, bV false] [20,21,22,23,24,25,26,27,28,29,30,31] ?_ ?_
     ·refine fE 1 6 54 2 10 0 ?_
      refine sW 2 rfl (fun a u E D hk=>exec_loadi _ Try.underlying3 _ _ _ rfl (dD D 0) (by rw [(HOo.out.kept hk).cell]; rfl)) ?_
      refine aS 3 rfl (fun a u E D hk=>exec_gtn rfl (dD D 1) rfl) (decide_eq_true hl) ?_
      refine mD 4 22 2 ?_
      refine fE 5 6 54 5 13 0 ?_
      refine sW 6 rfl (fun a u E D hk=>exec_ldb _ Try.underlying4 _ _ _ rfl (dD D 4) (by rw [(HOo.out.kept hk).cell]; rfl)) ?_
      refine aS 7 rfl (fun a u E D hk=>exec_not _ _ (Oc.mk o m.f m.left false m.self 0).self rfl (dD D 5)) (by rw [hsf]; rfl) ?_
      refine pT 8 23 26 3 6 ?_
      refine mD 9 27 7 ?_
      refine sE 10 3 bi 0 o.cells Try.underlying24 (fun u hk=>range_kept HO6.out hk) (by rw [o.len9]; exact ord_size) ?_
      refine cS 11 81 [o.v] rfl Try.func81 rfl (fun a u E D hk=>⟨ll (dD D 9) rfl, (by rw [← HMR.out]; exact mayRest_any u o)⟩) ?_
      refine pT 12 28 30 8 10 ?_
      exact fz
     intro w7 k7
     simp only [F8]
     have HB7 := Lib.hid (HB6.out.kept k7)
     have HV7 := Lib.hid (HV6.out.kept k7)
     have HO7 := Lib.hid (HOo.out.kept k7)
     have HB47 := Lib.hid (HB46.out.kept k7)
     have KF7 := KF6.kept k7
     clear HB6 HV6 HOo HB46 HO6 KF6 k7
     go_upto_region 8 with fail
     refine wEp 1 [(Oc.mk o m.f m.left false m.self 0).v vf] [38] ?_ ?_
     ·refine sE 1 6 bo 0 ((Oc.mk o m.f m.left false m.self 0).cells vf) Try.underlying54 (fun u hk=>blk_range (HO7.out.kept hk)) (by rw [Oc.len15]; exact szC) ?_
      exact fz
     intro wy ky
     simp only [F8]
     refine l_setS 54 b4 54 (zeroC.cells (.slice none 0 0)) ((Oc.mk o m.f m.left false m.self 0).cells vf) _ _ rfl rfl (by kernel_rfl) (by kernel_rfl) (HB47.out.kept ky) (by rw [Oc.len15]; exact szC) (by rw [Oc.len15, Oc.len15]) (Oc.one _ _ (sl_onec HV7.out)) ?_
     intro wx hBx hkx hsx
     simp only [Act.put]
     refine wpList_nil ?_
     go_wp2
     refine bodyPost_ret (results_cell (p := 4) rfl _ _ b4 _ ((Oc.mk o m.f m.left false m.self 0).cells vf) rfl hBx Try.underlying54 (by rw [Oc.len15]; exact szC)) rfl ?_
     rw [HADD.out]
     refine ⟨F4, vf, rfl, ?_, (HV7.out.kept ky).keep hkx (fun b hb e => HV4N.out b hb e), HOw.out, HG4.out, (KF7.kept ky).trans hkx (fun b hb e => by omega)⟩
     have h1 := (HB7.out.kept ky).keep hkx (fun b hb e => h4F4 (by rw [← e]; exact hb))
     simp only [Bool.false_eq_true, if_false]
     rw [Bok.traded_to, HMM.out]
     exact h1
    | true =>
     have hst : st = true := by rw [← HSTH.out, hmr, hsf]; simp; exact hl
     subst hst
     clear hmr
     go_upto_region 5 with fail
     refine wE 12 [pV bo 10, iV ((Oc.mk o m.f m.left false m.self 0).left), bV true, bV true, pV bo 13, bV ((Oc.mk o m.f m.left false m.self 0).self), bV true, bV true, bV true, o.v, bV true, bV true] [20,21,22,23,24,25,26,27,28,29,30,31] ?_ ?_
     ·refine fE 1 6 54 2 10 0 ?_
      refine sW 2 rfl (fun a u E D hk=>exec_loadi _ Try.underlying3 _ _ _ rfl (dD D 0) (by rw [(HOo.out.kept hk).cell]; rfl)) ?_
      refine aS 3 rfl (fun a u E D hk=>exec_gtn rfl (dD D 1) rfl) (decide_eq_true hl) ?_
      refine mD 4 22 2 ?_
      refine fE 5 6 54 5 13 0 ?_
      refine sW 6 rfl (fun a u E D hk=>exec_ldb _ Try.underlying4 _ _ _ rfl (dD D 4) (by rw [(HOo.out.kept hk).cell]; rfl)) ?_
      refine aS 7 rfl (fun a u E D hk=>exec_not _ _ (Oc.mk o m.f m.left false m.self 0).self rfl (dD D 5)) (by rw [hsf]; rfl) ?_
      refine pT 8 23 26 3 6 ?_
      refine mD 9 27 7 ?_
      refine sE 10 3 bi 0 o.cells Try.underlying24 (fun u hk=>range_kept HO6.out hk) (by rw [o.len9]; exact ord_size) ?_
      refine cS 11 81 [o.v] rfl Try.func81 rfl (fun a u E D hk=>⟨ll (dD D 9) rfl, (by rw [← HMR.out]; exact mayRest_any u o)⟩) ?_
      refine pT 12 28 30 8 10 ?_
      exact fz
     intro w7 k7
     simp only [F8]
     have HB7 := Lib.hid (HB6.out.kept k7)
     have HV7 := Lib.hid (HV6.out.kept k7)
     have HO7 := Lib.hid (HOo.out.kept k7)
     have HI7 := Lib.hid (range_kept HO6.out k7)
     have HB47 := Lib.hid (HB46.out.kept k7)
     have KF7 := KF6.kept k7
     have zk7 := k7.size
     have HLO : Hid (LvsOk ((B.to (3 - o.side) m.L (lastOf B.last m.f) (B.no + m.f.length)).sd o.side)) := by
      show LvsOk _
      have h1 := HI.out.ok o.side
      rcases HAI.out.sd with h2 | h2 <;> rw [h2] at h1 ⊢ <;> exact h1
     clear HB6 HV6 HOo HB46 HO6 KF6 k7 hl hsf
     go_upto_region 6 with fail
     refine wEp 4 [pV p 0, o.v, pV bo 10, iV ((Oc.mk o m.f m.left false m.self 0).left)] [32,33,34,35] ?_ ?_
     ·refine mE 1 0 ?_
      refine sE 2 3 bi 0 o.cells Try.underlying24 (fun u hk=>range_kept HI7.out hk) (by rw [o.len9]; exact ord_size) ?_
      refine fE 3 6 54 2 10 0 ?_
      refine sW 4 rfl (fun a u E D hk=>exec_loadi _ Try.underlying3 _ _ _ rfl (dD D 2) (by rw [(HO7.out.kept hk).cell]; rfl)) ?_
      exact fz
     intro w8 k8
     simp only [F8]
     refine l_call 82 #[.pointer (some ⟨p, 0, none⟩), o.v, .int .i64 (Oc.mk o m.f m.left false m.self 0).left] rfl (exec_call 82 _ [.tmp 32, .tmp 33, .tmp 35] _ _ Try.func82 (by kernel_rfl) (by kernel_rfl) rfl (by kernel_rfl) _) ?_
     refine (rest_any w8 F4 p _ o m.left (HB7.out.kept k8) HAI.out.sd HLO.out).mono ?_
     rintro r w9 ⟨F9, rfl, hb9, hg9, hk9⟩
     refine ⟨_, rfl, ?_⟩
     simp only [Act.put, sA, sS, sZ]
     refine wpList_nil ?_
     have zk8 := k8.size
     have zk9 := hk9.size
     have HO9 := Lib.hid ((HO7.out.kept k8).keep hk9 hoF4)
     have HB49 := Lib.hid ((HB47.out.kept k8).keep hk9 h4F4)
     have HV9 := Lib.hid ((HV7.out.kept k8).keep hk9 (fun b hb e => (HOw.out b hb).2 e))
     have KF9 : Keep F w w9 := (KF7.kept k8).trans hk9 (fun b hb e => (HG4.out b e).elim id (fun e => by omega))
     have hF9 : ∀ b, F9 b → F4 b ∨ w8.heap.size ≤ b := hg9
     have ho9 : ¬ F9 bo := fun h => (hF9 bo h).elim hoF4 (fun h => by omega)
     have h49 : ¬ F9 b4 := fun h => (hF9 b4 h).elim h4F4 (fun h => by omega)
     have HOw9 : Hid (∀ b, vf.ownBlock = some b → w.heap.size ≤ b ∧ ¬ F9 b) := fun b hb => ⟨(HOw.out b hb).1, fun e => (hF9 b e).elim (HOw.out b hb).2 (fun e => by have := HVL.out b hb; omega)⟩
     have HG9 : Hid (Grow w F F9) := fun b hb => by
      rcases hF9 b hb with h | h
      ·exact HG4.out b h
      ·exact .inr (by have := KF7.size; omega)
     have HB9 := Lib.hid hb9
     clear hb9 hg9 hk9 k8 HB7 HV7 HO7 HI7 HB47 KF7 hF9
     go_upto_region 7 with fail
     refine wEp 1 [pV bo 11] [37] ?_ ?_
     ·refine fE 1 6 54 3 11 0 ?_
      exact fz
     intro wa ka
     simp only [F8]
     refine l_st1 4 bo 11 54 _ (.bool true) _ (.const (.bool true)) rfl rfl (by kernel_rfl) (by kernel_rfl) rfl rfl rfl (HO9.out.kept ka) (by rw [Oc.len15]; omega) ?_
     intro wb hOb hkb hsb
     simp only [Act.put]
     refine wpList_nil ?_
     rw [Oc.set_rests] at hOb
     have HOb := Lib.hid hOb
     have HBb := Lib.hid ((HB9.out.kept ka).keep hkb (fun b hb e => ho9 (by rw [← e]; exact hb)))
     have HVb := Lib.hid ((HV9.out.kept ka).keep hkb (fun b hb e => by have := HVL.out b hb; omega))
     have HB4b := Lib.hid ((HB49.out.kept ka).keep hkb (fun e => hbo4 e.symm))
     have KFb : Keep F w wb := (KF9.kept ka).trans hkb (fun b hb e => by omega)
     clear hOb hkb hsb ka HO9 HB9 HV9 HB49 KF9
     go_upto_region 8 with fail
     refine wEp 1 [(Oc.mk o m.f m.left true m.self 0).v vf] [38] ?_ ?_
     ·refine sE 1 6 bo 0 ((Oc.mk o m.f m.left true m.self 0).cells vf) Try.underlying54 (fun u hk=>blk_range (HOb.out.kept hk)) (by rw [Oc.len15]; exact szC) ?_
      exact fz
     intro wy ky
     simp only [F8]
     refine l_setS 54 b4 54 (zeroC.cells (.slice none 0 0)) ((Oc.mk o m.f m.left true m.self 0).cells vf) _ _ rfl rfl (by kernel_rfl) (by kernel_rfl) (HB4b.out.kept ky) (by rw [Oc.len15]; exact szC) (by rw [Oc.len15, Oc.len15]) (Oc.one _ _ (sl_onec HVb.out)) ?_
     intro wx hBx hkx hsx
     simp only [Act.put]
     refine wpList_nil ?_
     go_wp2
     refine bodyPost_ret (results_cell (p := 4) rfl _ _ b4 _ ((Oc.mk o m.f m.left true m.self 0).cells vf) rfl hBx Try.underlying54 (by rw [Oc.len15]; exact szC)) rfl ?_
     rw [HADD.out]
     refine ⟨F9, vf, rfl, ?_, (HVb.out.kept ky).keep hkx (fun b hb e => HV4N.out b hb e), HOw9.out, HG9.out, (KFb.kept ky).trans hkx (fun b hb e => by omega)⟩
     have h1 := (HBb.out.kept ky).keep hkx (fun b hb e => h49 (by rw [← e]; exact hb))
     simp only [if_true]
     rw [Bok.traded_to, HMM.out]
     rcases HAI.out.sd with h2 | h2
     ·rw [h2] at h1 ⊢
      exact h1
     ·rw [h2] at h1 ⊢
      exact h1
  ·have hst : st = false := by rw [← HSTH.out]; simp [hl]
   subst hst
   go_upto_region 5 with fail
   refine wE 12 [pV bo 10, iV ((Oc.mk o m.f m.left false m.self 0).left), bV false, bV false, undef, undef, undef, bV false, bV false, undef, undef, bV false] [20,21,22,23,24,25,26,27,28,29,30,31] ?_ ?_
   ·refine fE 1 6 54 2 10 0 ?_
    refine sW 2 rfl (fun a u E D hk=>exec_loadi _ Try.underlying3 _ _ _ rfl (dD D 0) (by rw [(HOo.out.kept hk).cell]; rfl)) ?_
    refine aS 3 rfl (fun a u E D hk=>exec_gtn rfl (dD D 1) rfl) (decide_eq_false hl) ?_
    refine mD 4 22 2 ?_
    refine kS 5 3 ?_
    refine kS 6 3 ?_
    refine kS 7 3 ?_
    refine pF 8 23 3 ?_
    refine mD 9 27 7 ?_
    refine kS 10 8 ?_
    refine kS 11 8 ?_
    refine pF 12 28 8 ?_
    exact fz
   intro w7 k7
   simp only [F8]
   have HB7 := Lib.hid (HB6.out.kept k7)
   have HV7 := Lib.hid (HV6.out.kept k7)
   have HO7 := Lib.hid (HOo.out.kept k7)
   have HB47 := Lib.hid (HB46.out.kept k7)
   have KF7 := KF6.kept k7
   clear HB6 HV6 HOo HB46 HO6 KF6 k7
   go_upto_region 8 with fail
   refine wEp 1 [(Oc.mk o m.f m.left false m.self 0).v vf] [38] ?_ ?_
   ·refine sE 1 6 bo 0 ((Oc.mk o m.f m.left false m.self 0).cells vf) Try.underlying54 (fun u hk=>blk_range (HO7.out.kept hk)) (by rw [Oc.len15]; exact szC) ?_
    exact fz
   intro wy ky
   simp only [F8]
   refine l_setS 54 b4 54 (zeroC.cells (.slice none 0 0)) ((Oc.mk o m.f m.left false m.self 0).cells vf) _ _ rfl rfl (by kernel_rfl) (by kernel_rfl) (HB47.out.kept ky) (by rw [Oc.len15]; exact szC) (by rw [Oc.len15, Oc.len15]) (Oc.one _ _ (sl_onec HV7.out)) ?_
   intro wx hBx hkx hsx
   simp only [Act.put]
   refine wpList_nil ?_
   go_wp2
   refine bodyPost_ret (results_cell (p := 4) rfl _ _ b4 _ ((Oc.mk o m.f m.left false m.self 0).cells vf) rfl hBx Try.underlying54 (by rw [Oc.len15]; exact szC)) rfl ?_
   rw [HADD.out]
   refine ⟨F4, vf, rfl, ?_, (HV7.out.kept ky).keep hkx (fun b hb e => HV4N.out b hb e), HOw.out, HG4.out, (KF7.kept ky).trans hkx (fun b hb e => by omega)⟩
   have h1 := (HB7.out.kept ky).keep hkx (fun b hb e => h4F4 (by rw [← e]; exact hb))
   simp only [Bool.false_eq_true, if_false]
   rw [Bok.traded_to, HMM.out]
   exact h1
section
variable {P : Program} {ops : Array Oper} {Q : Exit → Act → World → Prop} {V : List Kn} {n m m2 : Nat} {a0 : Act} {w0 : World} {S S2 : Nat → Prop}
end

theorem Bok.to1 (B : Bok) (L : List Lev) : B.to 1 L B.last B.no = { B with buys := L } := rfl
theorem Bok.to2 (B : Bok) (L : List Lev) : B.to 2 L B.last B.no = { B with sells := L } := rfl
set_option maxHeartbeats 800000 in
theorem bless_any (w : World) (F : Nat → Prop) (p : Nat) (B : Bok) (t i q : Int) (h : Bk w F p B) (hI : Inv B) : Calls Try.prog 33 #[.pointer (some ⟨p, 0, none⟩), .int .i64 t, .int .i64 i, .int .i64 q] w fun r w' => ∃ F', r = .returned (.bool (B.less t i q).1) ∧ Bk w' F' p (B.less t i q).2 ∧ Grow w F F' ∧ Keep F w w' := by
 have HK := Lib.hid h
 have HI := Lib.hid hI
 clear h hI
 go_enter Try.func33, Try.ntmps33
 go_wp2_with fail
 refine (lless_any w F p B 1 t i q HK.out (.inl rfl) (HI.out.ok 1)).mono ?_
 rintro r w1 ⟨F1, rfl, h1, g1, k1, n1⟩
 have e1 : B.sd 1 = B.buys := rfl
 rw [e1] at h1 n1 ⊢
 rw [Bok.to1] at h1
 obtain ⟨b, hb⟩ : ∃ b, (lessL t i q B.buys).1 = b := ⟨_, rfl⟩
 rw [hb] at n1 ⊢
 have HB := Lib.hid hb
 have H1 := Lib.hid h1
 have N1 := Lib.hid n1
 clear h1 n1 hb
 cases b with
 | true =>
  have HR : Hid (B.less t i q = (true, { B with buys := (lessL t i q B.buys).2 })) := by show _ = _; unfold Bok.less; rw [if_pos HB.out]
  go_wp2
  go_ret
  rw [HR.out]
  first | exact ⟨rfl, F1, H1.out, g1, k1⟩ | exact ⟨F1, rfl, H1.out, g1, k1⟩
 | false =>
  have kk := N1.out rfl
  have HK1 := Lib.hid (HK.out.kept kk)
  clear H1 N1
  go_wp2_with fail
  refine (lless_any w1 F p B 2 t i q HK1.out (.inr rfl) (HI.out.ok 2)).mono ?_
  rintro r w2 ⟨F2, rfl, h2, g2, k2, n2⟩
  have e2 : B.sd 2 = B.sells := rfl
  rw [e2] at h2 n2 ⊢
  rw [Bok.to2] at h2
  obtain ⟨b, hb⟩ : ∃ b, (lessL t i q B.sells).1 = b := ⟨_, rfl⟩
  rw [hb] at n2 ⊢
  have HB2 := Lib.hid hb
  have H2 := Lib.hid h2
  have N2 := Lib.hid n2
  clear h2 n2 hb
  have G2 := g2.wide kk.size
  have K2 := Keep.any kk k2
  cases b with
  | true =>
   have HR : Hid (B.less t i q = (true, { B with sells := (lessL t i q B.sells).2 })) := by show _ = _; unfold Bok.less; rw [if_neg (by rw [HB.out]; simp), if_pos HB2.out]
   go_wp2
   go_ret
   rw [HR.out]
   first | exact ⟨rfl, F2, H2.out, G2, K2⟩ | exact ⟨F2, rfl, H2.out, G2, K2⟩
  | false =>
   have HR : Hid (B.less t i q = (false, B)) := by show _ = _; unfold Bok.less; rw [if_neg (by rw [HB.out]; simp), if_neg (by rw [HB2.out]; simp)]
   have k3 := kk.trans (N2.out rfl)
   have H3 := Lib.hid (HK.out.kept k3)
   have K3 : Keep F w w2 := Keep.mono (T := F) k3 (fun _ _ h => h.elim)
   go_wp2
   go_ret
   rw [HR.out]
   first | exact ⟨rfl, F, H3.out, Grow.refl _ _, K3⟩ | exact ⟨F, rfl, H3.out, Grow.refl _ _, K3⟩
set_option maxRecDepth 100000 in
set_option maxHeartbeats 1600000 in
theorem bremove_any (w : World) (F : Nat → Prop) (p : Nat) (B : Bok) (t i : Int) (h : Bk w F p B) (hI : Inv B) : Calls Try.prog 39 #[.pointer (some ⟨p, 0, none⟩), .int .i64 t, .int .i64 i] w fun r w' => ∃ F', r = .returned (.tuple #[(B.remove t i).1.v, .bool (B.remove t i).2.1]) ∧ Bk w' F' p (B.remove t i).2.2 ∧ Grow w F F' ∧ Keep F w w' := by
 have hFl := h.lt
 have HK := Lib.hid h
 have HI := Lib.hid hI
 clear h hI
 go_enter Try.func39, Try.ntmps39
 go_upto_region 0 with fail
 refine wp_text 2 [.fresh w.heap.size 24 zeroO.cells, bE false] rfl (by kernel_rfl) ?_ ?_
 ·refine nW 1 rfl (fun a u E D hk=>⟨_, _, exec_alc 24 zeroO.cells rfl zO, ⟨_, rfl, hk.size, Blk.new u _ _⟩, ((Keep.refl _ u).alloc _)⟩) ?_
  refine sW 2 rfl (fun a u E D hk=>exec_assign _ _ rfl rfl) ?_
  exact fz
 intro gv w0 hV k0
 rw [dq 2 [6,7]]
 simp only [Fz7]
 have hv6 : (.fresh w.heap.size 24 zeroO.cells : Kn).p (gv 6) w0 := hV 0 6 (by kernel_rfl)
 generalize gv 6 = v6 at hv6 ⊢
 rw [gQ hV 1 7 (.bool false)]
 clear hV
 obtain ⟨b6, rfl, hb6, hB6⟩ := hv6
 refine wpList_nil ?_
 have h6F : ¬ F b6 := fun h => by have := hFl b6 h; omega
 have HB6 := Lib.hid hB6
 have l6 := hB6.lt
 have HK0 := Lib.hid (HK.out.kept k0)
 have z0 := k0.size
 clear hB6 hFl
 obtain ⟨b, hb⟩ : ∃ b, (removeL t i B.buys).2.1 = b := ⟨_, rfl⟩
 obtain ⟨e, he⟩ : ∃ e, (removeL t i B.buys).1 = e := ⟨_, rfl⟩
 have HB := Lib.hid hb
 have HE := Lib.hid he
 clear hb he
 go_upto_region 1 with fail
 refine wEp 5 [pV p 0, pV p 0, pV p 0, iV t, iV i] [11,12,13,14,15] ?_ ?_
 ·refine mE 1 0 ?_
  refine nD 2 11 0 ?_
  refine fD 3 12 1 72 0 0 0 ?_
  refine mE 4 1 ?_
  refine mE 5 2 ?_
  exact fz
 intro w1 k1
 simp only [F8]
 refine l_call 55 #[.pointer (some ⟨p, 0, none⟩), .int .i64 t, .int .i64 i] rfl (exec_call 55 _ [.tmp 13, .tmp 14, .tmp 15] _ _ Try.func55 (by kernel_rfl) (by kernel_rfl) rfl (by kernel_rfl) _) ?_
 refine (lremove_any w1 F p B 1 t i (HK0.out.kept k1) (.inl rfl) (HI.out.ok 1)).mono ?_
 rintro r w3 ⟨F1, rfl, h1, g1, q1, n1⟩
 have e1 : B.sd 1 = B.buys := rfl
 rw [e1] at h1 n1 ⊢
 rw [Bok.to1] at h1
 refine ⟨.tuple #[e.v, .bool b], by rw [HB.out, HE.out], ?_⟩
 rw [HB.out] at n1
 simp only [Act.put, sA, sS, sZ]
 refine l_val (.tuple #[e.v, .bool b]) rfl (exec_move _ _ rfl (by kernel_rfl)) ?_
 simp only [Act.put, sA, sS, sZ]
 refine l_val (e.v) rfl (exec_extract (.tmp 10) [e.v, .bool b] 0 (e.v) rfl (by kernel_rfl) rfl) ?_
 simp only [Act.put, sA, sS, sZ]
 refine l_val (.bool b) rfl (exec_extract (.tmp 10) [e.v, .bool b] 1 (.bool b) rfl (by kernel_rfl) rfl) ?_
 simp only [Act.put, sA, sS, sZ]
 refine l_new (.pointer (some ⟨w3.heap.size, 0, none⟩)) (w3.alloc (.cells zeroO.cells.toArray 24)) rfl (exec_alc 24 zeroO.cells rfl zO) ?_
 have hNw4 := Blk.new w3 24 zeroO.cells
 have kw4 : Kept w3 (w3.alloc (.cells zeroO.cells.toArray 24)) := (Keep.refl _ w3).alloc _
 generalize w3.alloc (.cells zeroO.cells.toArray 24) = w4 at hNw4 kw4 ⊢
 simp only [Act.put, sA, sS, sZ]
 refine l_setS 24 w3.heap.size 24 zeroO.cells e.cells _ _ rfl rfl (by kernel_rfl) (by kernel_rfl) hNw4 (by rw [Ord.len9]; exact ord_size) (by rw [Ord.len9, Ord.len9]) (Ord.one1 _) ?_
 intro w5 hB5 hk5 hs5
 simp only [Act.put]
 refine l_val (.bool b) rfl (exec_assign _ _ rfl (by kernel_rfl)) ?_
 simp only [Act.put, sA, sS, sZ]
 refine wpList_nil ?_
 obtain ⟨b8, hb8⟩ : ∃ x, w3.heap.size = x := ⟨_, rfl⟩
 rw [hb8] at hNw4 hB5 hk5 ⊢
 have l8 := hB5.lt
 have K35 : Kept w3 w5 := kw4.trans' hk5 (by omega)
 have z1 := k1.size
 have z3 := q1.size
 have H1 := Lib.hid h1
 have N1 := Lib.hid n1
 have HB8 := Lib.hid (blk_range hB5)
 clear hNw4 hB5 hk5 hs5 kw4 h1 n1
 cases b with
 | true =>
  have HR : Hid (B.remove t i = (e, true, { B with buys := (removeL t i B.buys).2.2 })) := by show _ = _; unfold Bok.remove; rw [if_pos HB.out, HE.out]
  have h6F1 : ¬ F1 b6 := fun h => (g1 b6 h).elim h6F (fun h => by omega)
  have HB65 := Lib.hid (((HB6.out.kept k1).keep q1 h6F).kept K35)
  have H15 := Lib.hid (H1.out.kept K35)
  have KK : Keep F w w5 := (Keep.any (k0.trans k1) q1).kept K35
  have GG : Grow w F F1 := g1.wide (k0.trans k1).size
  have z5 := KK.size
  clear HB6 H1 N1 K35 q1 g1
  go_upto_region 3 with fail
  refine wEp 1 [e.v] [20] ?_ ?_
  ·refine sE 1 8 b8 0 e.cells Try.underlying24 (fun u hk=>range_kept HB8.out hk) (by rw [e.len9]; exact ord_size) ?_
   exact fz
  intro w6 k6
  simp only [F8]
  refine l_setS 24 b6 24 zeroO.cells e.cells _ _ rfl rfl (by kernel_rfl) (by kernel_rfl) (HB65.out.kept k6) (by rw [Ord.len9]; exact ord_size) (by rw [Ord.len9, Ord.len9]) (Ord.one1 _) ?_
  intro w7 hB7 hk7 hs7
  simp only [Act.put]
  refine l_val (.bool true) rfl (exec_assign _ _ rfl (by kernel_rfl)) ?_
  simp only [Act.put, sA, sS, sZ]
  refine wpList_nil ?_
  go_wp2
  refine bodyPost_ret (results_cell2 (p := 6) (q := 7) rfl _ _ b6 _ e.cells true rfl rfl hB7 Try.underlying24 (by rw [Ord.len9]; exact ord_size)) rfl ?_
  rw [HR.out]
  have h9 := (H15.out.kept k6).keep hk7 (fun b hb h => h6F1 (by subst h; exact hb))
  have k9 : Keep F w w7 := (KK.kept k6).trans hk7 (fun b hb h => by subst h; omega)
  first | exact ⟨rfl, F1, h9, GG, k9⟩ | exact ⟨F1, rfl, h9, GG, k9⟩
 | false =>
  have kk := (k1.trans (N1.out rfl)).trans K35
  have HK5 := Lib.hid (HK0.out.kept kk)
  have HB65 := Lib.hid (HB6.out.kept kk)
  have zk := kk.size
  clear H1 N1 K35 HB6 HK0 q1 g1 k1 z1 z3 HB8 l8
  obtain ⟨b, hb⟩ : ∃ b, (removeL t i B.sells).2.1 = b := ⟨_, rfl⟩
  obtain ⟨e2, he⟩ : ∃ e, (removeL t i B.sells).1 = e := ⟨_, rfl⟩
  have HBB := Lib.hid hb
  have HEE := Lib.hid he
  clear hb he
  go_upto_region 4 with fail
  refine wEp 5 [pV p 0, pV p 0, pV p 2, iV t, iV i] [21,22,23,24,25] ?_ ?_
  ·refine mE 1 0 ?_
   refine nD 2 21 0 ?_
   refine fD 3 22 1 72 1 2 0 ?_
   refine mE 4 1 ?_
   refine mE 5 2 ?_
   exact fz
  intro w6 k6
  simp only [F8]
  refine l_call 55 #[.pointer (some ⟨p, 2, none⟩), .int .i64 t, .int .i64 i] rfl (exec_call 55 _ [.tmp 23, .tmp 24, .tmp 25] _ _ Try.func55 (by kernel_rfl) (by kernel_rfl) rfl (by kernel_rfl) _) ?_
  refine (lremove_any w6 F p B 2 t i (HK5.out.kept k6) (.inr rfl) (HI.out.ok 2)).mono ?_
  rintro r w7 ⟨F2, rfl, h2, g2, q2, n2⟩
  have es : B.sd 2 = B.sells := rfl
  rw [es] at h2 n2 ⊢
  rw [Bok.to2] at h2
  refine ⟨.tuple #[e2.v, .bool b], by rw [HBB.out, HEE.out], ?_⟩
  rw [HBB.out] at n2
  simp only [Act.put, sA, sS, sZ]
  refine l_val (e2.v) rfl (exec_extract (.tmp 26) [e2.v, .bool b] 0 (e2.v) rfl (by kernel_rfl) rfl) ?_
  simp only [Act.put, sA, sS, sZ]
  refine l_val (.bool b) rfl (exec_extract (.tmp 26) [e2.v, .bool b] 1 (.bool b) rfl (by kernel_rfl) rfl) ?_
  simp only [Act.put, sA, sS, sZ]
  refine l_setS 24 b6 24 zeroO.cells e2.cells _ _ rfl rfl (by kernel_rfl) (by kernel_rfl) ((HB65.out.kept k6).keep q2 h6F) (by rw [Ord.len9]; exact ord_size) (by rw [Ord.len9, Ord.len9]) (Ord.one1 _) ?_
  intro w8 hB8 hk8 hs8
  simp only [Act.put]
  refine l_val (.bool b) rfl (exec_assign _ _ rfl (by kernel_rfl)) ?_
  simp only [Act.put, sA, sS, sZ]
  refine wpList_nil ?_
  have HR : Hid (B.remove t i = (if b = true then (e2, true, { B with sells := (removeL t i B.sells).2.2 }) else (zeroO, false, B))) := by
   show _ = _
   unfold Bok.remove
   rw [if_neg (by rw [HB.out]; simp), HBB.out, HEE.out]
  have z6 := k6.size
  have h6F2 : ¬ F2 b6 := fun h => (g2 b6 h).elim h6F (fun h => by omega)
  have KW := (k0.trans kk).trans k6
  have GG : Grow w F F2 := g2.wide KW.size
  have k9 : Keep F w w8 := (Keep.any KW q2).trans hk8 (fun b hb h => by subst h; omega)
  have h9 := Lib.hid (h2.keep hk8 (fun b hb h => h6F2 (by subst h; exact hb)))
  have N2 := Lib.hid n2
  have HK6 := Lib.hid (HK.out.kept KW)
  have hk8' := hk8
  clear h2 n2 q2 g2
  have hw : b = false → removeL t i B.sells = (zeroO, false, B.sells) := fun hb => by
   have h0 := HBB.out
   rw [hb] at h0
   obtain ⟨a1, a2, _⟩ := (remove_facts t i B.sells HI.out.two.theirs).no h0
   exact Prod.ext a2 (Prod.ext h0 a1)
  have HW := Lib.hid hw
  clear hw
  go_wp2
  refine bodyPost_ret (results_cell2 (p := 6) (q := 7) rfl _ _ b6 _ e2.cells b rfl rfl hB8 Try.underlying24 (by rw [Ord.len9]; exact ord_size)) rfl ?_
  rw [HR.out]
  cases b with
  | true => first | exact ⟨rfl, F2, h9.out, GG, k9⟩ | exact ⟨F2, rfl, h9.out, GG, k9⟩
  | false =>
   have h0 := HW.out rfl
   have he2 : e2 = zeroO := by rw [← HEE.out, h0]
   have h9' := h9.out
   rw [h0] at h9'
   subst he2
   first | exact ⟨rfl, F2, h9', GG, k9⟩ | exact ⟨F2, rfl, h9', GG, k9⟩
structure Mkt where
 b : Bok
 w : List Ord
structure Ot where
 c : Oc
 wt : Bool
def Ord.free (o : Ord) : Ord := { o with stop := 0 }
def Ord.is (t i : Int) (o : Ord) : Bool := decide (o.tr = t) && decide (o.id = i)
def Ord.key (o : Ord) : Int × Int := (o.tr, o.id)
def placeW (p : Ord → Bool) (W : List Ord) : Int := if W.findIdx p < W.length then (W.findIdx p : Int) else -1
theorem find_at {p : Ord → Bool} {X : List Ord} {k : Nat} {e : Ord} (h : ∀ (j : Nat) (x : Ord), j < k → X[j]? = some x → p x = false) (he : X[k]? = some e) (hm : p e = true) : X.findIdx p = k := by
 obtain ⟨hk, rfl⟩ := List.getElem?_eq_some_iff.1 he
 rw [List.findIdx_eq hk]
 exact ⟨hm, fun j hj => h j _ hj (List.getElem?_eq_getElem (by omega))⟩
theorem find_no {p : Ord → Bool} {X : List Ord} (h : ∀ (j : Nat) (x : Ord), j < X.length → X[j]? = some x → p x = false) : X.findIdx p = X.length :=
 List.findIdx_eq_length.2 fun x hx => by
  obtain ⟨j, hj⟩ := List.getElem?_of_mem hx
  exact h j x (List.getElem?_eq_some_iff.1 hj).1 hj
theorem find_is {p : Ord → Bool} {X : List Ord} {e : Ord} (h : X[X.findIdx p]? = some e) : p e = true ∧ X.findIdx p < X.length := by
 obtain ⟨hk, rfl⟩ := List.getElem?_eq_some_iff.1 h
 exact ⟨List.findIdx_getElem, hk⟩
theorem find_off {p : Ord → Bool} {X : List Ord} (h : X[X.findIdx p]? = none) : ∀ x ∈ X, p x = false := by
 have := List.getElem?_eq_none_iff.1 h
 exact List.findIdx_eq_length.1 (Nat.le_antisymm List.findIdx_le_length this)
theorem place_some {p : Ord → Bool} {X : List Ord} {e : Ord} (h : X[X.findIdx p]? = some e) : placeW p X = (X.findIdx p : Int) := if_pos (find_is h).2
theorem place_none {p : Ord → Bool} {X : List Ord} (h : X[X.findIdx p]? = none) : placeW p X = -1 := if_neg (by have := List.getElem?_eq_none_iff.1 h; omega)
def findO (t i : Int) (W : List Ord) : Ord × Bool := match W[W.findIdx (Ord.is t i)]? with
 | none => (zeroO, false)
 | some o => (o, true)
def Mkt.zero : Mkt := ⟨Bok.zero, []⟩
def Mkt.len (M : Mkt) : Nat := M.b.len + M.w.length
def Mkt.find (M : Mkt) (t i : Int) : Ord × Bool := if (M.b.find t i).2 = true then ((M.b.find t i).1, true) else findO t i M.w
def Mkt.remove (M : Mkt) (t i : Int) : Ord × Bool × Mkt :=
 if (M.b.remove t i).2.1 = true then ((M.b.remove t i).1, true, ⟨(M.b.remove t i).2.2, M.w⟩)
 else match M.w[M.w.findIdx (Ord.is t i)]? with
 | none => (zeroO, false, M)
 | some o => (o, true, ⟨M.b, M.w.eraseIdx (M.w.findIdx (Ord.is t i))⟩)
def Mkt.all (M : Mkt) : List Ord := (ordsL M.b.buys ++ ordsL M.b.sells) ++ M.w
def Ord.may (o : Ord) : Bool := (decide (0 < o.stop) || decide (o.k = 1)) || decide (o.k = 5)
def Mkt.err (M : Mkt) (o : Ord) : Int :=
 if o.right = false then 1 else if (M.find o.tr o.id).2 = true then 5 else if o.may = true ∧ 64 ≤ M.len then 4 else 0
def Bok.enter (B : Bok) (o : Ord) : Oc × Bok := ({ (B.add o.free).1 with o := o }, (B.add o.free).2)
def Mkt.waits (M : Mkt) (o : Ord) : Bool := decide (0 < o.stop) && !o.hit M.b.last
def Mkt.arrive (M : Mkt) (o : Ord) : Ot × Mkt :=
 if M.err o ≠ 0 then (⟨⟨o, [], o.qty, false, false, M.err o⟩, false⟩, M)
 else if M.waits o = true then (⟨⟨o, [], o.qty, false, false, 0⟩, true⟩, ⟨M.b, M.w ++ [o]⟩)
 else (⟨(M.b.enter o).1, false⟩, ⟨(M.b.enter o).2, M.w⟩)
def Mkt.trig (M : Mkt) : Nat := M.w.findIdx fun o => o.hit M.b.last
def Mkt.next (M : Mkt) (o : Ord) : Mkt := ⟨(M.b.enter o).2, M.w.eraseIdx M.trig⟩
def casM : Nat → Mkt → List Ot × Mkt
 | 0, M => ([], M)
 | n + 1, M => match M.w[M.trig]? with
  | none => ([], M)
  | some o => (⟨(M.b.enter o).1, false⟩ :: (casM n (M.next o)).1, (casM n (M.next o)).2)
def Mkt.cas (M : Mkt) : List Ot × Mkt := casM M.w.length M
def Mkt.add (M : Mkt) (o : Ord) : List Ot × Mkt :=
 if (M.arrive o).1.c.err ≠ 0 then ([(M.arrive o).1], (M.arrive o).2)
 else ((M.arrive o).1 :: (M.arrive o).2.cas.1, (M.arrive o).2.cas.2)
theorem cas_none {M : Mkt} (h : M.w[M.trig]? = none) : M.cas = ([], M) := by
 unfold Mkt.cas
 cases hn : M.w.length with
 | zero => rfl
 | succ n => rw [casM, h]
theorem cas_some {M : Mkt} {o : Ord} (h : M.w[M.trig]? = some o) : M.cas = (⟨(M.b.enter o).1, false⟩ :: (M.next o).cas.1, (M.next o).cas.2) := by
 have hl := (List.getElem?_eq_some_iff.1 h).1
 have hn : (M.next o).w.length = M.w.length - 1 := by unfold Mkt.next; simp only; rw [List.length_eraseIdx, if_pos hl]
 unfold Mkt.cas
 rw [hn]
 obtain ⟨n, e⟩ : ∃ n, M.w.length = n + 1 := ⟨M.w.length - 1, by omega⟩
 rw [e, casM, h]
 rfl
theorem cas_ind {P : Mkt → Prop} (hs : ∀ M o, P M → M.w[M.trig]? = some o → P (M.next o)) : ∀ (n : Nat) (M : Mkt), M.w.length ≤ n → P M → P M.cas.2
 | 0, M, hn, h => by
  rw [cas_none (List.getElem?_eq_none (by omega))]
  exact h
 | n + 1, M, hn, h => by
  cases e : M.w[M.trig]? with
  | none => rw [cas_none e]; exact h
  | some o =>
   rw [cas_some e]
   refine cas_ind hs n _ ?_ (hs M o h e)
   have hl := (List.getElem?_eq_some_iff.1 e).1
   unfold Mkt.next
   simp only
   rw [List.length_eraseIdx, if_pos hl]
   omega
theorem cas_quiet : ∀ (n : Nat) (M : Mkt), M.w.length ≤ n → ∀ o ∈ M.cas.2.w, o.hit M.cas.2.b.last = false
 | 0, M, hn => by
  rw [cas_none (List.getElem?_eq_none (by omega))]
  have hw : M.w = [] := List.eq_nil_of_length_eq_zero (by omega)
  intro o ho
  simp only [hw] at ho
  cases ho
 | n + 1, M, hn => by
  cases e : M.w[M.trig]? with
  | none => rw [cas_none e]; exact find_off (p := fun o => o.hit M.b.last) e
  | some o =>
   rw [cas_some e]
   refine cas_quiet n _ ?_
   have hl := (List.getElem?_eq_some_iff.1 e).1
   unfold Mkt.next
   simp only
   rw [List.length_eraseIdx, if_pos hl]
   omega
theorem erase_cnt : ∀ {W : List Ord} {i : Nat} {o : Ord}, W[i]? = some o → ∀ k : Int × Int, (W.map Ord.key).count k = ((W.eraseIdx i).map Ord.key).count k + (if o.key = k then 1 else 0)
 | [], i, o, h, k => by simp at h
 | x :: W, 0, o, h, k => by
  simp at h
  subst h
  rw [List.eraseIdx_cons_zero, List.map_cons, List.count_cons]
  simp
 | x :: W, i + 1, o, h, k => by
  have := erase_cnt (W := W) (i := i) (o := o) (by simpa using h) k
  rw [List.eraseIdx_cons_succ, List.map_cons, List.map_cons, List.count_cons, List.count_cons, this]
  omega
structure InvK (M : Mkt) : Prop where
 inv : Inv M.b
 few : M.b.len + M.w.length ≤ 64
 good : ∀ o ∈ M.w, o.right = true ∧ 0 < o.stop
 once : ∀ k, cnt k M.b.all + (M.w.map Ord.key).count k ≤ 1
theorem InvK.zero : InvK Mkt.zero := ⟨Inv.zero, by simp [Mkt.zero, Bok.zero, Bok.len, Bok.all, entL], by simp [Mkt.zero], fun k => by simp [Mkt.zero, Bok.zero, Bok.all, entL, cnt]⟩
theorem add_few {B : Bok} {o : Ord} (h : Inv B) (k : Int × Int) : cnt k (B.add o).2.all ≤ cnt k B.all + (if o.key = k ∧ (o.k = 1 ∨ o.k = 5) then 1 else 0) ∧ (B.add o).2.len ≤ B.len + (if o.k = 1 ∨ o.k = 5 then 1 else 0) := by
 by_cases he : B.err o = 0
 ·have A := add_is h he
  have hm := A.m.cnt k
  have hl := A.m.len
  rw [cnt_all _ A.sd k, cnt_all B A.sd k, len_all _ A.sd, len_all B A.sd, A.theirs, A.mine]
  by_cases hst : B.stays o = true
  ·rw [if_pos hst]
   have hR := A.rests hst
   have hc := hR.cnt k
   have hl2 := hR.len
   have hk := (stays_iff.1 hst).2.2
   rw [hc, hl2, if_pos hk]
   have e : ((o.cut (B.matched o).left).tr, (o.cut (B.matched o).left).id) = o.key := rfl
   rw [e]
   by_cases hkk : o.key = k
   ·rw [if_pos hkk, if_pos ⟨hkk, hk⟩]
    omega
   ·rw [if_neg hkk, if_neg (fun h => hkk h.1)]
    omega
  ·rw [if_neg hst]
   omega
 ·rw [add_err he]
  simp only
  omega
theorem free_key (o : Ord) : o.free.key = o.key := rfl
theorem enter_few {B : Bok} {o : Ord} (h : Inv B) (k : Int × Int) : cnt k (B.enter o).2.all ≤ cnt k B.all + (if o.key = k then 1 else 0) ∧ (B.enter o).2.len ≤ B.len + (if o.k = 1 ∨ o.k = 5 then 1 else 0) := by
 obtain ⟨h1, h2⟩ := add_few (o := o.free) h k
 refine ⟨Nat.le_trans h1 (Nat.add_le_add_left ?_ _), h2⟩
 rw [free_key]
 by_cases hk : o.key = k
 ·rw [if_pos hk]
  split <;> omega
 ·rw [if_neg (fun h => hk h.1)]
  omega
theorem enter_inv {B : Bok} {o : Ord} (h : Inv B) : Inv (B.enter o).2 ∧ B.no ≤ (B.enter o).2.no ∧ (B.enter o).2.no ≤ B.no + 1048576 := inv_add h
theorem InvK.next {M : Mkt} (h : InvK M) {o : Ord} (ho : M.w[M.trig]? = some o) : InvK (M.next o) := by
 have hl := (List.getElem?_eq_some_iff.1 ho).1
 refine ⟨(enter_inv h.inv).1, ?_, fun x hx => h.good x (List.mem_of_mem_eraseIdx hx), fun k => ?_⟩
 ·have h1 := (enter_few (o := o) h.inv (0, 0)).2
  have h2 := h.few
  unfold Mkt.next
  simp only
  rw [List.length_eraseIdx, if_pos hl]
  have : (if o.k = 1 ∨ o.k = 5 then 1 else 0) ≤ 1 := by split <;> omega
  omega
 ·have h1 := (enter_few (o := o) h.inv k).1
  have h2 := h.once k
  have h3 := erase_cnt ho k
  unfold Mkt.next
  simp only
  omega
theorem find_cnt {W : List Ord} {t i : Int} (h : (findO t i W).2 = false) : (W.map Ord.key).count (t, i) = 0 := by
 unfold findO at h
 cases e : W[W.findIdx (Ord.is t i)]? with
 | some o => rw [e] at h; cases h
 | none =>
  refine List.count_eq_zero.2 fun hm => ?_
  obtain ⟨x, hx, hk⟩ := List.mem_map.1 hm
  have := find_off e x hx
  unfold Ord.key at hk
  injection hk with h1 h2
  simp [Ord.is, h1, h2] at this
theorem Mkt.find_no {M : Mkt} {t i : Int} (h : (M.find t i).2 = false) : cnt (t, i) M.b.all = 0 ∧ (M.w.map Ord.key).count (t, i) = 0 := by
 unfold Mkt.find at h
 by_cases hb : (M.b.find t i).2 = true
 ·rw [if_pos hb] at h
  cases h
 ·rw [if_neg hb] at h
  exact ⟨(has_iff M.b t i).1 (by unfold Bok.has; simpa using hb), find_cnt h⟩
theorem Mkt.err_zero {M : Mkt} {o : Ord} (h : M.err o = 0) : o.right = true ∧ (M.find o.tr o.id).2 = false ∧ (o.may = true → M.len < 64) := by
 unfold Mkt.err at h
 split at h
 ·cases h
 ·rename_i h1
  split at h
  ·cases h
  ·rename_i h2
   split at h
   ·cases h
   ·rename_i h3
    exact ⟨by simpa using h1, by simpa using h2, fun hm => Nat.lt_of_not_le fun h' => h3 ⟨hm, h'⟩⟩
theorem InvK.arrive {M : Mkt} (h : InvK M) (o : Ord) : InvK (M.arrive o).2 := by
 unfold Mkt.arrive
 by_cases he : M.err o = 0
 ·rw [if_neg (Classical.not_not.2 he)]
  obtain ⟨e1, e2, e3⟩ := Mkt.err_zero he
  obtain ⟨f1, f2⟩ := Mkt.find_no e2
  by_cases hw : M.waits o = true
  ·rw [if_pos hw]
   have hs : 0 < o.stop := by unfold Mkt.waits at hw; simp at hw; exact hw.1
   have hlen := e3 (by simp [Ord.may, hs])
   unfold Mkt.len at hlen
   refine ⟨h.inv, by simp only [List.length_append, List.length_cons, List.length_nil]; omega, fun x hx => ?_, fun k => ?_⟩
   ·rcases List.mem_append.1 hx with hx | hx
    ·exact h.good x hx
    ·simp at hx
     rw [hx]
     exact ⟨e1, hs⟩
   ·have h1 := h.once k
    simp only [List.map_append, List.count_append, List.map_cons, List.map_nil]
    by_cases hk : o.key = k
    ·subst hk
     have g1 : cnt o.key M.b.all = 0 := f1
     have g2 : (M.w.map Ord.key).count o.key = 0 := f2
     rw [g1, g2]
     simp
    ·rw [List.count_eq_zero.2 (show k ∉ [o.key] by simpa using fun h => hk h.symm)]
     exact h1
  ·rw [if_neg hw]
   have h1 := fun k => enter_few (o := o) h.inv k
   refine ⟨(enter_inv h.inv).1, ?_, h.good, fun k => ?_⟩
   ·have h2 := (h1 (0, 0)).2
    have h3 := h.few
    by_cases hk : o.k = 1 ∨ o.k = 5
    ·have := e3 (by unfold Ord.may; rcases hk with hk | hk <;> simp [hk])
     unfold Mkt.len at this
     rw [if_pos hk] at h2
     simp only
     omega
    ·rw [if_neg hk] at h2
     simp only
     omega
   ·have h2 := (h1 k).1
    have h3 := h.once k
    by_cases hk : o.key = k
    ·subst hk
     have g1 : cnt o.key M.b.all = 0 := f1
     have g2 : (M.w.map Ord.key).count o.key = 0 := f2
     rw [if_pos rfl] at h2
     simp only
     omega
    ·rw [if_neg hk] at h2
     simp only
     omega
 ·rw [if_pos he]
  exact h
theorem InvK.cas {M : Mkt} (h : InvK M) : InvK M.cas.2 := cas_ind (P := InvK) (fun M o h ho => h.next ho) _ M (Nat.le_refl _) h
theorem InvK.add {M : Mkt} (h : InvK M) (o : Ord) : InvK (M.add o).2 := by
 unfold Mkt.add
 split
 ·exact h.arrive o
 ·exact (h.arrive o).cas
theorem arrive_no {M : Mkt} (h : InvK M) (o : Ord) : M.b.no ≤ (M.arrive o).2.b.no ∧ (M.arrive o).2.b.no ≤ M.b.no + 1048576 := by
 unfold Mkt.arrive
 split
 ·simp only; omega
 ·split
  ·simp only; omega
  ·exact (enter_inv h.inv).2
theorem cas_no : ∀ (n : Nat) (M : Mkt), M.w.length ≤ n → InvK M → M.b.no ≤ M.cas.2.b.no ∧ M.cas.2.b.no ≤ M.b.no + 1048576 * M.w.length
 | 0, M, hn, h => by
  rw [cas_none (List.getElem?_eq_none (by omega))]
  simp only
  omega
 | n + 1, M, hn, h => by
  cases e : M.w[M.trig]? with
  | none => rw [cas_none e]; simp only; omega
  | some o =>
   rw [cas_some e]
   have hl := (List.getElem?_eq_some_iff.1 e).1
   have hle : (M.next o).w.length = M.w.length - 1 := by unfold Mkt.next; simp only; rw [List.length_eraseIdx, if_pos hl]
   have h1 := cas_no n (M.next o) (by omega) (h.next e)
   have h2 : M.b.no ≤ (M.next o).b.no ∧ (M.next o).b.no ≤ M.b.no + 1048576 := (enter_inv (o := o) h.inv).2
   rw [hle] at h1
   simp only
   omega
theorem add_no {M : Mkt} (h : InvK M) (o : Ord) : M.b.no ≤ (M.add o).2.b.no ∧ (M.add o).2.b.no ≤ M.b.no + 70000000 := by
 have h1 := arrive_no h o
 unfold Mkt.add
 split
 ·simp only; omega
 ·have h2 := cas_no _ _ (Nat.le_refl _) (h.arrive o)
  have h3 := (h.arrive o).few
  simp only
  omega
theorem remove_few {B : Bok} (h : Inv B) (t i : Int) (k : Int × Int) : cnt k (B.remove t i).2.2.all ≤ cnt k B.all ∧ (B.remove t i).2.2.len ≤ B.len := by
 unfold Bok.remove
 have h1 := remove_facts t i B.buys h.two.mine
 have h2 := remove_facts t i B.sells h.two.theirs
 split
 ·have := h1.cnts k
  have := h1.len
  simp only [Bok.all, Bok.len, cnt_append, List.length_append]
  omega
 ·split
  ·have := h2.cnts k
   have := h2.len
   simp only [Bok.all, Bok.len, cnt_append, List.length_append]
   omega
  ·simp only; omega
theorem InvK.remove {M : Mkt} (h : InvK M) (t i : Int) : InvK (M.remove t i).2.2 ∧ (M.remove t i).2.2.b.no = M.b.no := by
 unfold Mkt.remove
 by_cases hb : (M.b.remove t i).2.1 = true
 ·rw [if_pos hb]
  obtain ⟨h1, h2⟩ := inv_remove h.inv t i
  refine ⟨⟨h1, ?_, h.good, fun k => ?_⟩, h2⟩
  ·have h3 := h.few
   have := remove_few h.inv t i (0, 0)
   simp only
   omega
  ·have h3 := h.once k
   have := remove_few h.inv t i k
   simp only
   omega
 ·rw [if_neg hb]
  cases e : M.w[M.w.findIdx (Ord.is t i)]? with
  | none => exact ⟨h, rfl⟩
  | some o =>
   have hl := (List.getElem?_eq_some_iff.1 e).1
   refine ⟨⟨h.inv, ?_, fun x hx => h.good x (List.mem_of_mem_eraseIdx hx), fun k => ?_⟩, rfl⟩
   ·have := h.few
    simp only
    rw [List.length_eraseIdx, if_pos hl]
    omega
   ·have := h.once k
    have := erase_cnt e k
    simp only
    omega
def mkCells (q : Nat) (v : Value) : List Value := [.pointer (some ⟨q, 0, none⟩), v]
structure MkP (w : World) (p q : Nat) (v : Value) (Fb : Nat → Prop) (M : Mkt) : Prop where
 blk : Blk w p 66 (mkCells q v)
 bk : Bk w Fb q M.b
 sl : Sl w 24 9 v M.w.length (ords M.w)
 nb : ¬ Fb p
 nv : ∀ b, v.ownBlock = some b → b ≠ p ∧ ¬ Fb b
def foot (p : Nat) (v : Value) (Fb : Nat → Prop) : Nat → Prop := fun b => (b = p ∨ v.ownBlock = some b) ∨ Fb b
def Mk (w : World) (F : Nat → Prop) (p : Nat) (M : Mkt) : Prop := (∀ b, F b → b < w.heap.size) ∧ ∃ q v Fb, MkP w p q v Fb M ∧ ∀ b, foot p v Fb b → F b
theorem MkP.foot_lt {w : World} {p q : Nat} {v : Value} {Fb : Nat → Prop} {M : Mkt} (h : MkP w p q v Fb M) : ∀ b, foot p v Fb b → b < w.heap.size := fun b hb => hb.elim (fun hb => hb.elim (fun hb => by rw [hb]; exact h.blk.lt) h.sl.lt) (h.bk.lt b)
theorem MkP.close {w : World} {p q : Nat} {v : Value} {Fb : Nat → Prop} {M : Mkt} (h : MkP w p q v Fb M) : Mk w (foot p v Fb) p M := ⟨h.foot_lt, q, v, Fb, h, fun _ h => h⟩
theorem MkP.keep {S : Nat → Prop} {w w' : World} {p q : Nat} {v : Value} {Fb : Nat → Prop} {M : Mkt} (h : MkP w p q v Fb M) (hk : Keep S w w') (hn : ∀ b, foot p v Fb b → ¬ S b) : MkP w' p q v Fb M :=
 ⟨h.blk.keep hk (hn p (.inl (.inl rfl))), h.bk.keep hk (fun b hb => hn b (.inr hb)), h.sl.keep hk (fun b hb => hn b (.inl (.inr hb))), h.nb, h.nv⟩
theorem MkP.kept {w w' : World} {p q : Nat} {v : Value} {Fb : Nat → Prop} {M : Mkt} (h : MkP w p q v Fb M) (hk : Kept w w') : MkP w' p q v Fb M := h.keep hk (fun _ _ h => h)
theorem Mk.keep {S F : Nat → Prop} {w w' : World} {p : Nat} {M : Mkt} (h : Mk w F p M) (hk : Keep S w w') (hn : ∀ b, F b → ¬ S b) : Mk w' F p M := by
 obtain ⟨h1, q, v, Fb, h2, h3⟩ := h
 exact ⟨fun b hb => Nat.lt_of_lt_of_le (h1 b hb) hk.size, q, v, Fb, h2.keep hk (fun b hb => hn b (h3 b hb)), h3⟩
theorem Mk.kept {F : Nat → Prop} {w w' : World} {p : Nat} {M : Mkt} (h : Mk w F p M) (hk : Kept w w') : Mk w' F p M := h.keep hk (fun _ _ h => h)
theorem Mk.lt {F : Nat → Prop} {w : World} {p : Nat} {M : Mkt} (h : Mk w F p M) : ∀ b, F b → b < w.heap.size := h.1
theorem zeroVO (w : World) : (zeroValue 24).run Try.prog w = .ok (.agg zeroO.cells.toArray) w := by kernel_rfl
theorem append_inO (g off n c k : Nat) (X : List Ord) (v2 : Value) (w : World) (hS : Sl w 24 9 (.slice (some ⟨g, off, none⟩) n c) n (ords X)) (hn : X.length = n) (hkn : k < n) (hnc : n ≤ c) (h2 : Sl w 24 9 v2 (n - (k + 1)) (ords (X.drop (k + 1)))) (ho : v2.ownBlock = some g) (ty : TypeId) :
  (Builtin.append_ #[35, 35] ty #[.slice (some ⟨g, off, none⟩) k c, v2]).run Try.prog w = .ok (.slice (some ⟨g, off, none⟩) (n - 1) c) (w.setCells g (off + k * 9) (ords (X.drop (k + 1)))) := by
 obtain ⟨z, hz, hz2, _⟩ := slO.info
 obtain ⟨i0, hi, hz0, hz1, hzb⟩ := info_parts hz
 have hl : (ords (X.drop (k + 1))).length = (n - (k + 1)) * 9 := by rw [ords_len, List.length_drop, hn]
 obtain ⟨_, _, _, ht⟩ := hS.setCells (k * 9) (ords (X.drop (k + 1))) (by rw [hl]; omega)
 obtain ⟨hl2, A, d, rfl, _, _, _, h4⟩ := h2
 cases A with
 | none => simp [Value.ownBlock] at ho
 | some ad =>
  obtain ⟨g2, off2, cur2, rfl, hB2, hle2, htk2⟩ := h4 _ rfl
  have hr := run_append_room_cells (P := Try.prog) w 35 ty 24 i0 slO.und hi g off k c ⟨g2, off2, none⟩ (n - (k + 1)) d (ords (X.drop (k + 1))) (by rw [hz1, hl]) (fun j u hu => by rw [Addr.add_mid]; exact seg_cell hB2 htk2 j u hu) (ords_one _) (by omega)
   (fun j hj => by rw [hz1]; exact (ht j hj).1) (fun j hj => by rw [hz1]; exact (ht j hj).2)
  rw [hr, hz1, show k + (n - (k + 1)) = n - 1 by omega]
set_option maxRecDepth 100000 in
set_option maxHeartbeats 1600000 in
theorem delO_any (g off n c k : Nat) (X : List Ord) (w : World) (hS : Sl w 24 9 (.slice (some ⟨g, off, none⟩) n c) n (ords X)) (hn : X.length = n) (hkn : k < n) (hlen : n ≤ 100000000) :
  Calls Try.prog 56 #[.slice (some ⟨g, off, none⟩) n c, .int .i64 (k : Int), .int .i64 ((k : Int) + 1)] w fun r w' => r = .returned (.slice (some ⟨g, off, none⟩) (n - 1) c) ∧ Sl w' 24 9 (.slice (some ⟨g, off, none⟩) (n - 1) c) (n - 1) (ords (X.eraseIdx k)) ∧ Keep (· = g) w w' := by
 have hnc : n ≤ c := by obtain ⟨_, A, c', e', h1, _⟩ := hS; injection e' with _ _ e3; subst e3; exact h1
 obtain ⟨vx, hvx⟩ := run_lhm slO (some ⟨g, off, none⟩) n c k (k + 1) (by omega) (by omega) hnc
 obtain ⟨v1, hv1, ho1, hs1⟩ := slice_hS slO _ n k (by omega) _ w hS
 obtain ⟨v2, hv2, ho2, hs2⟩ := slice_lS slO _ n (k + 1) (by omega) _ w hS
 have e1 : v1 = .slice (some ⟨g, off, none⟩) k c := by
  obtain ⟨z, hz, hz2, _⟩ := slO.info
  obtain ⟨i0, hi, hz0, hz1, hzb⟩ := info_parts hz
  have := hv1 w
  rw [run_slice_h (P := Try.prog) (w := w) 35 (some ⟨g, off, none⟩) n c (by rw [slO.elem]; exact slO.und) .i64 (k : Int) (by omega) (by omega), slO.elem] at this
  simp [sizeOf, typeInfo, hi, hz1, sliced, Addr.add] at this
  exact this.symm
 subst e1
 have HX2 : Hid (∀ w, Sl w 24 9 (.slice (some ⟨g, off, none⟩) n c) n (ords X) → Sl w 24 9 v2 (n - (k + 1)) (ords (X.drop (k + 1)))) := fun w h => by
  have := hs2 w _ h
  rw [show (ords X).drop ((k + 1) * 9) = ords (X.drop (k + 1)) from flat_drop Ord.cells 9 Ord.len9 X (k + 1)] at this
  exact this
 have HVX := Lib.hid hvx
 have HV1 := Lib.hid hv1
 have HV2 := Lib.hid hv2
 have HO2 := Lib.hid ho2
 have HS := Lib.hid hS
 have HN := Lib.hid hn
 have hcast : ((k + 1 : Nat) : Int) = (k : Int) + 1 := by omega
 rw [hcast] at HVX HV2
 clear hvx hv1 hv2 ho1 ho2 hs1 hs2 hS hn
 have hne : ((k : Int) == (k : Int) + 1) = false := by simp; omega
 go_enter Try.func56, Try.ntmps56
 go_upto_region 1 with fail
 refine wE 6 [.slice (some ⟨g, off, none⟩) n c, iV (k : Int), iV ((k : Int) + 1), .slice (some ⟨g, off, none⟩) n c, iV (n : Int), vx] [8,9,10,11,12,13] ?_ ?_
 ·refine mE 1 0 ?_
  refine mE 2 1 ?_
  refine mE 3 2 ?_
  refine mE 4 0 ?_
  refine sW 5 rfl (fun a u E D hk=>exec_len _ _ _ slO.und (some ⟨g, off, none⟩) n c rfl (dD D 3)) ?_
  refine sW 6 rfl (fun a u E D hk=>exec_slcLHM slO _ _ _ _ _ vx _ _ _ rfl (dD D 0) (dD D 1) (dD D 2) (dD D 4) (HVX.out u)) ?_
  exact fz
 intro w1 k1
 simp only [F8]
 go_upto_region 2 with fail
 refine wE 3 [iV (k : Int), iV ((k : Int) + 1), bV false] [14,15,16] ?_ ?_
 ·refine mE 1 1 ?_
  refine mE 2 2 ?_
  refine aS 3 rfl (fun a u E D hk=>exec_eqn rfl (dD D 0) (dD D 1)) (decide_eq_false (by omega)) ?_
  exact fz
 intro w2 k2
 simp only [F8]
 clear hne
 go_upto_region 4 with fail
 refine wE 3 [.slice (some ⟨g, off, none⟩) n c, iV (n : Int), iV (n : Int)] [18,19,7] ?_ ?_
 ·refine mE 1 0 ?_
  refine sW 2 rfl (fun a u E D hk=>exec_len _ _ _ slO.und (some ⟨g, off, none⟩) n c rfl (dD D 0)) ?_
  refine mD 3 19 1 ?_
  exact fz
 intro w3 k3
 simp only [F8]
 have kw3 := (k1.trans k2).trans k3
 clear k1 k2 k3
 go_upto_region 5 with fail
 refine wGp 6 [.slice (some ⟨g, off, none⟩) n c, iV (k : Int), .slice (some ⟨g, off, none⟩) k c, .slice (some ⟨g, off, none⟩) n c, iV ((k : Int) + 1), v2] [20,21,22,23,24,25] ?_ ?_
 ·refine mE 1 0 ?_
  refine mE 2 1 ?_
  refine sW 3 rfl (fun a u E D hk=>exec_slcH slO _ _ _ _ _ rfl (dD D 0) (dD D 1) (HV1.out u)) ?_
  refine mE 4 0 ?_
  refine mE 5 2 ?_
  refine sW 6 rfl (fun a u E D hk=>exec_slcL slO _ _ _ v2 _ rfl (dD D 3) (dD D 4) (HV2.out u)) ?_
  exact fz
 intro w4 k4
 simp only [F8]
 have kw4 := kw3.trans k4
 have hS4 := HS.out.kept kw4
 have hX4 := HX2.out w4 hS4
 have hr4 : ∀ ty, (Builtin.append_ #[35, 35] ty #[.slice (some ⟨g, off, none⟩) k c, v2]).run Try.prog w4 = .ok (.slice (some ⟨g, off, none⟩) (n - 1) c) (w4.setCells g (off + k * 9) (ords (X.drop (k + 1)))) := fun ty => append_inO g off n c k X v2 w4 hS4 HN.out hkn hnc hX4 (by rw [HO2.out]; rfl) ty
 refine l_new (.slice (some ⟨g, off, none⟩) (n - 1) c) (w4.setCells g (off + k * 9) (ords (X.drop (k + 1)))) rfl (exec_appS slO (.tmp 22) (.tmp 25) (.slice (some ⟨g, off, none⟩) k c) v2 rfl (by kernel_rfl) (by kernel_rfl) _ _ (hr4 _)) ?_
 simp only [Act.put, sA, sS, sZ]
 refine l_val (.slice (some ⟨g, off, none⟩) (n - 1) c) rfl (exec_assign _ _ rfl (by kernel_rfl)) ?_
 simp only [Act.put, List.setIfInBounds_toArray, List.set_cons_zero]
 refine wpList_nil ?_
 have hlenE : (ords (X.drop (k + 1))).length = (n - (k + 1)) * 9 := by rw [ords_len, List.length_drop, HN.out]
 obtain ⟨hS5, hk5, hz5, _⟩ := hS4.setCells (k * 9) (ords (X.drop (k + 1))) (by rw [hlenE]; omega)
 have HS5 : Hid (Sl (w4.setCells g (off + k * 9) (ords (X.drop (k + 1)))) 24 9 (.slice (some ⟨g, off, none⟩) n c) n (ords (X.eraseIdx k ++ X.drop (n - 1)))) := by
  rw [show (ords X).take (k * 9) = ords (X.take k) from flat_take Ord.cells 9 Ord.len9 X k, hlenE, show k * 9 + (n - (k + 1)) * 9 = (n - 1) * 9 by omega, show (ords X).drop ((n - 1) * 9) = ords (X.drop (n - 1)) from flat_drop Ord.cells 9 Ord.len9 X (n - 1)] at hS5
  show Sl _ _ _ _ _ _
  rw [List.eraseIdx_eq_take_drop_succ]
  unfold ords at hS5 ⊢
  rw [List.flatMap_append, List.flatMap_append]
  exact hS5
 have K5 : Keep (· = g) w (w4.setCells g (off + k * 9) (ords (X.drop (k + 1)))) := (Keep.mono (T := (· = g)) kw4 (fun _ _ h => h.elim)).trans hk5 (fun _ _ h => h)
 generalize w4.setCells g (off + k * 9) (ords (X.drop (k + 1))) = w5 at HS5 K5 ⊢
 clear hr4 hX4 hS4 hS5 hk5 hz5 kw4 kw3 k4 HX2 HV1 HV2 HVX HO2 HS hlenE
 obtain ⟨m, hm⟩ : ∃ m, n - 1 = m := ⟨_, rfl⟩
 have hmn : n = m + 1 := by omega
 rw [hm] at HS5 ⊢
 go_upto_region 6 with fail
 refine wEp 5 [.slice (some ⟨g, off, none⟩) m c, .slice (some ⟨g, off, none⟩) m c, iV (m : Int), iV (n : Int), .slice (some ⟨g, off + m * 9, none⟩) (n - m) (c - m)] [27,28,29,30,31] ?_ ?_
 ·refine mE 1 0 ?_
  refine mE 2 0 ?_
  refine sW 3 rfl (fun a u E D hk=>exec_len _ _ _ slO.und (some ⟨g, off, none⟩) m c rfl (dD D 1)) ?_
  refine mE 4 7 ?_
  refine sW 5 rfl (fun a u E D hk=>exec_slcLH slO _ _ _ _ _ _ _ rfl (dD D 0) (dD D 2) (dD D 3) (run_lh slO g off m c m n (by omega) (by omega) u)) ?_
  exact fz
 intro w6 k6
 simp only [F8]
 obtain ⟨hS6, hk6, hz6, ht6⟩ := (HS5.out.kept k6).setCells (m * 9) zeroO.cells (by rw [Ord.len9]; omega)
 rw [Ord.len9] at ht6
 have h1 : n - m = 1 := by omega
 refine l_new (.tuple #[]) (w6.setCells g (off + m * 9) zeroO.cells) rfl (exec_clr1 slO zeroO.cells zeroVO zeroO.len9 zeroO.one1 (.tmp 31) g (off + m * 9) (c - m) rfl (by rw [← h1]; kernel_rfl) ht6) ?_
 simp only [Act.put]
 refine wpList_nil ?_
 have hS7 : Sl (w6.setCells g (off + m * 9) zeroO.cells) 24 9 (.slice (some ⟨g, off, none⟩) m c) m (ords (X.eraseIdx k)) := by
  have h2 := hS6.shrink (m := m) (by omega)
  have h3 : (X.eraseIdx k).length = m := by rw [List.length_eraseIdx, if_pos (by rw [HN.out]; exact hkn), HN.out]; omega
  rw [List.append_assoc, List.take_append_of_le_length (by rw [List.length_take, ords_len, List.length_append, h3]; omega), List.take_take, Nat.min_self] at h2
  have h4 : (ords (X.eraseIdx k ++ X.drop m)).take (m * 9) = ords (X.eraseIdx k) := by
   rw [show (ords (X.eraseIdx k ++ X.drop m)).take (m * 9) = ords ((X.eraseIdx k ++ X.drop m).take m) from flat_take Ord.cells 9 Ord.len9 _ m, List.take_append_of_le_length (by omega), List.take_of_length_le (by omega)]
  rw [h4] at h2
  exact h2
 have HS7 := Lib.hid hS7
 have K7 : Keep (· = g) w (w6.setCells g (off + m * 9) zeroO.cells) := (K5.kept k6).trans hk6 (fun _ _ h => h)
 generalize w6.setCells g (off + m * 9) zeroO.cells = w7 at HS7 K7 ⊢
 clear hS6 hS7 hk6 hz6 ht6 K5 HS5 k6
 go_wp2
 go_ret
 rw [hm]
 exact ⟨rfl, HS7.out, K7⟩
theorem exec_eqS {a : Act} {o : Oper} {u : World} (x : Operand) (t t' e : TypeId) (A : Option Addr) (n c : Nat) (hu : Try.prog.underlying t = some (.slice e)) (hop : o.op = .binOp .eql t x (.const (.slice none 0 0)) t') (hx : a.eval x = .slice A n c) : (execOp a.eval o).run Try.prog u = .ok (.value (.bool A.isNone)) u := by
 have hc : a.eval (.const (.slice none 0 0)) = .slice none 0 0 := rfl
 unfold execOp
 simp only [hop, hx, hc, Sem.run_bind]
 rw [show (eqGuard .eql t x (.const (.slice none 0 0)) (.slice A n c) (.slice none 0 0)).run Try.prog u = .ok () u by simp [eqGuard]]
 simp only [Result.andThen_ok]
 rw [show (binOp .eql t (.slice A n c) (.slice none 0 0)).run Try.prog u = .ok (.bool A.isNone) u from Lib.run_eql_slice_nil u t e A n c _ _ hu]
 rfl
set_option maxRecDepth 100000 in
theorem cloneO_any (v : Value) (n : Nat) (X : List Ord) (w : World) (hS : Sl w 24 9 v n (ords X)) (hn : n ≤ 1000000) : Gives 30 #[v] w (.sl w.heap.size 24 9 n (ords X)) := by
 obtain ⟨A, c, rfl⟩ := hS.slice_
 have HS := Lib.hid hS
 cases A with
 | none =>
  obtain ⟨rfl, hX⟩ : n = 0 ∧ ords X = [] := by
   obtain ⟨h1, A, c', e, h2, _, h3, _⟩ := hS
   injection e with e1 e2 e3
   have := h3 e1.symm
   have hn0 : n = 0 := by omega
   subst hn0
   exact ⟨rfl, List.eq_nil_of_length_eq_zero (by omega)⟩
  obtain rfl : c = 0 := by
   obtain ⟨h1, A, c', e, h2, _, h3, _⟩ := hS
   injection e with e1 e2 e3
   rw [e3]
   exact h3 e1.symm
  rw [hX]
  clear hS HS hX
  go_enter Try.func30, Try.ntmps30
  go_upto_region 1 with fail
  refine wE 2 [.slice none 0 0, bV true] [3,4] ?_ ?_
  ·refine mE 1 0 ?_
   refine sW 2 rfl (fun a u E D hk=>exec_eqS _ _ _ _ none 0 0 slO.und rfl (dD D 0)) ?_
   exact fz
  intro w1 k1
  simp only [F8]
  go_wp2
  go_ret
  exact ⟨_, rfl, ⟨Sl.nil _ _ _, fun b hb => by simp [Value.ownBlock] at hb⟩, k1⟩
 | some ad =>
  obtain ⟨g, off, rfl⟩ : ∃ g off, ad = ⟨g, off, none⟩ := by
   obtain ⟨h1, A, c', e, h2, _, h3, h4⟩ := hS
   injection e with e1 e2 e3
   obtain ⟨g, off, cur, e, _⟩ := h4 ad e1.symm
   exact ⟨g, off, e⟩
  clear hS
  go_enter Try.func30, Try.ntmps30
  go_upto_region 1 with fail
  refine wE 2 [.slice (some ⟨g, off, none⟩) n c, bV false] [3,4] ?_ ?_
  ·refine mE 1 0 ?_
   refine sW 2 rfl (fun a u E D hk=>exec_eqS _ _ _ _ (some ⟨g, off, none⟩) n c slO.und rfl (dD D 0)) ?_
   exact fz
  intro w0 k0
  simp only [F8]
  go_upto_region 3 with fail
  refine wp_text 3 [.emp w0.heap.size 24, .eq (.slice (some ⟨g, off, none⟩) n c), .sl w0.heap.size 24 9 n (ords X)] rfl (by kernel_rfl) ?_ ?_
  ·refine nW 1 rfl (fun a u E D hk=>⟨_, _, exec_none 35 24 9 rfl slO.und ord_size, ⟨_, rfl, hk.size, Blk.new u _ _⟩, ((Keep.refl _ u).alloc _)⟩) ?_
   refine mE 2 0 ?_
   refine fsteps_cons 3 rfl (fun a u hE hD hk => (by obtain ⟨v', u', hr, hp, hkk⟩ := run_append_emp slO _ u (a.eval (.tmp 5)) (.slice (some ⟨g, off, none⟩) n c) n w0.heap.size _ ((dD hD 0)) (HS.out.kept (k0.trans hk)) (ords_one _) (by omega) (by omega) hk.size; exact f_new v' u' rfl (wanted_none rfl _) (exec_appS slO (.tmp 5) (.tmp 6) _ _ rfl rfl (dD hD 1) v' u' hr) hp hkk)) ?_
   exact fz
  intro gv w1 hV k1
  rw [dq 3 [5,6,7]]
  simp only [Fz7]
  have hv7 : (.sl w0.heap.size 24 9 n (ords X) : Kn).p (gv 7) w1 := hV 2 7 (by kernel_rfl)
  generalize gv 7 = v7 at hv7 ⊢
  clear hV
  refine l_val (v7) rfl (exec_assign _ _ rfl (by kernel_rfl)) ?_
  simp only [Act.put, sA, sS, sZ]
  refine wpList_nil ?_
  go_wp2
  go_ret
  exact ⟨_, rfl, ⟨hv7.1, fun b hb => Nat.le_trans k0.size (hv7.2 b hb)⟩, k0.trans k1⟩
set_option maxRecDepth 100000 in
set_option maxHeartbeats 800000 in
theorem indexO_any (v : Value) (X : List Ord) (p : Ord → Bool) (f : Nat) (fn : Func) (cs : List Value) (w : World) (hS : Sl w 24 9 v X.length (ords X)) (hlen : X.length ≤ 100000000) (hf : Try.prog.funcs[f]? = some fn) (hn : (fn.name == "runtime.NumGoroutine") = false) (hb : fn.body.isNone = false)
  (hp : ∀ u, Kept w u → ∀ o : Ord, Gives f ([o.v] ++ cs).toArray u (.eq (.bool (p o)))) : Gives 52 #[v, .func (.func f) #[] cs.toArray] w (.eq (.int .i64 (placeW p X))) := by
 refine gives_eq ?_
 obtain ⟨n, hnX⟩ : ∃ n, X.length = n := ⟨_, rfl⟩
 rw [hnX] at hS hlen
 have HN := Lib.hid hnX
 have HS := Lib.hid hS
 have HP := Lib.hid hp
 clear hS hp hnX
 go_enter Try.func52, Try.ntmps52
 go_upto_region 1 with fail
 refine wE 3 [v, iV (n : Int), iV 0] [6,7,8] ?_ ?_
 ·refine mE 1 0 ?_
  refine sW 2 rfl (fun a u E D hk=>exec_lenS _ slO _ _ _ _ rfl (dD D 0) HS.out) ?_
  refine sW 3 rfl (fun a u E D hk=>exec_move _ _ rfl rfl) ?_
  exact fz
 intro w0 k0
 simp only [F8]
 go_wp2_with fail
 go_loopw [8] (fun q wr => ∃ (k : Nat), k ≤ n ∧ q = .int .i64 (k : Int) ∧ Hid (∀ (j : Nat) (x : Ord), j < k → X[j]? = some x → p x = false) ∧ Kept w wr) (fun q _ => n - (intOf q).toNat)
 case atStart => exact ⟨0, Nat.zero_le _, rfl, fun j x hj => (by omega), k0⟩
 case round =>
  obtain ⟨k, hk, rfl, HM, hkr⟩ := hrel
  by_cases hlt : k < n
  ·obtain ⟨g, off, c, rfl⟩ := HS.out.some_ (by omega)
   obtain ⟨e, he⟩ : ∃ e, X[k]? = some e := ⟨X[k]'(by rw [HN.out]; exact hlt), List.getElem?_eq_getElem (by rw [HN.out]; exact hlt)⟩
   have HE : Hid (wr.rangeAt g (off + k * 9) e.cells) := range_kept (HS.out.rngO k e he) hkr
   have HEI := Lib.hid he
   clear he
   by_cases hm : p e = true
   ·have HR : Hid (placeW p X = (k : Int)) := by
     show _ = _
     have h1 := find_at HM.out HEI.out hm
     unfold placeW
     rw [h1, if_pos (by rw [HN.out]; exact hlt)]
    go_upto_region 4 with fail
    refine wE 6 [.func (.func f) #[] cs.toArray, .slice (some ⟨g, off, none⟩) n c, iV (k : Int), pV g (off + k * 9), e.v, bV true] [11,12,13,14,15,16] ?_ ?_
    ·refine mE 1 1 ?_
     refine mE 2 0 ?_
     refine mE 3 5 ?_
     refine sW 4 rfl (fun a u E D hk=>exec_ixo slO _ _ (g) (off) n c k (off + k * 9) ((k : Int)) rfl (dD D 1) (dD D 2) (by first | rfl | omega) (hlt) (by first | rfl | omega)) ?_
     refine sD 5 14 3 e.cells Try.underlying24 (fun u hk=>range_kept HE.out hk) (by rw [e.len9]; exact ord_size) ?_
     refine fsteps_cons 6 rfl (fun a u hE hD hk => f_call f ([e.v] ++ cs).toArray rfl (wanted_none rfl _) (exec_callv f _ (.tmp 11) [.tmp 15] _ [e.v] cs hf hn hb rfl (dD hD 0) (show [a.eval (.tmp 15)] = [e.v] by rw [show a.eval (.tmp 15) = e.v from (dD hD 4)])) (by rw [← hm]; exact HP.out u (hkr.trans hk) e)) ?_
     exact fz
    intro w1 k1
    simp only [F8]
    have kw1 := hkr.trans k1
    clear hkr k1 hm
    go_wp2
    go_ret
    exact ⟨by rw [HR.out]; rfl, kw1⟩
   ·have hm' : p e = false := by simpa using hm
    have HM2 : Hid (∀ (j : Nat) (x : Ord), j < k + 1 → X[j]? = some x → p x = false) := by
     intro j x hj hx
     by_cases hjk : j = k
     ·subst hjk
      rw [HEI.out] at hx
      injection hx with hx
      rw [← hx]
      exact hm'
     ·exact HM.out j x (by omega) hx
    clear hm
    go_upto_region 4 with fail
    refine wE 6 [.func (.func f) #[] cs.toArray, .slice (some ⟨g, off, none⟩) n c, iV (k : Int), pV g (off + k * 9), e.v, bV false] [11,12,13,14,15,16] ?_ ?_
    ·refine mE 1 1 ?_
     refine mE 2 0 ?_
     refine mE 3 5 ?_
     refine sW 4 rfl (fun a u E D hk=>exec_ixo slO _ _ (g) (off) n c k (off + k * 9) ((k : Int)) rfl (dD D 1) (dD D 2) (by first | rfl | omega) (hlt) (by first | rfl | omega)) ?_
     refine sD 5 14 3 e.cells Try.underlying24 (fun u hk=>range_kept HE.out hk) (by rw [e.len9]; exact ord_size) ?_
     refine fsteps_cons 6 rfl (fun a u hE hD hk => f_call f ([e.v] ++ cs).toArray rfl (wanted_none rfl _) (exec_callv f _ (.tmp 11) [.tmp 15] _ [e.v] cs hf hn hb rfl (dD hD 0) (show [a.eval (.tmp 15)] = [e.v] by rw [show a.eval (.tmp 15) = e.v from (dD hD 4)])) (by rw [← hm']; exact HP.out u (hkr.trans hk) e)) ?_
     exact fz
    intro w1 k1
    simp only [F8]
    have kw1 := hkr.trans k1
    clear hkr k1 hm'
    go_wp2
    exact ⟨⟨k + 1, by omega, by go_num, HM2, kw1⟩, by simp [intOf]; omega⟩
  ·have HR : Hid (placeW p X = -1) := by
    show _ = _
    have h1 := find_no (p := p) (X := X) (fun j x hj hx => HM.out j x (by rw [HN.out] at hj; omega) hx)
    unfold placeW
    rw [h1, if_neg (by omega)]
   clear HM
   go_wp2
   go_ret
   exact ⟨by rw [HR.out]; rfl, hkr⟩
def capP (g1 g2 : Nat) : List Value := [.pointer (some ⟨g1, 0, none⟩), .pointer (some ⟨g2, 0, none⟩)]
def cloP (g1 g2 : Nat) : Value := .func (.func 53) #[] (capP g1 g2).toArray
def capT (g : Nat) : List Value := [.pointer (some ⟨g, 0, none⟩)]
def cloT (g : Nat) : Value := .func (.func 72) #[] (capT g).toArray
theorem exec_mkP {a : Act} {o : Oper} {u : World} (x y : Operand) (g1 g2 : Nat) (hop : o.op = .makeFunc (.func 53) #[] #[x, y]) (hx : a.eval x = .pointer (some ⟨g1, 0, none⟩)) (hy : a.eval y = .pointer (some ⟨g2, 0, none⟩)) : (execOp a.eval o).run Try.prog u = .ok (.value (cloP g1 g2)) u := by
 unfold execOp
 simp only [hop, Instr.makeFunc, List.map_toArray, List.map_cons, List.map_nil, hx, hy]
 rfl
theorem exec_mkT {a : Act} {o : Oper} {u : World} (x : Operand) (g : Nat) (hop : o.op = .makeFunc (.func 72) #[] #[x]) (hx : a.eval x = .pointer (some ⟨g, 0, none⟩)) : (execOp a.eval o).run Try.prog u = .ok (.value (cloT g)) u := by
 unfold execOp
 simp only [hop, Instr.makeFunc, List.map_toArray, List.map_cons, List.map_nil, hx]
 rfl
set_option maxRecDepth 100000 in
theorem isO_any (e : Ord) (t i : Int) (g1 g2 : Nat) (w : World) (h1 : Blk w g1 3 [.int .i64 t]) (h2 : Blk w g2 3 [.int .i64 i]) : Gives 53 #[e.v, .pointer (some ⟨g1, 0, none⟩), .pointer (some ⟨g2, 0, none⟩)] w (.eq (.bool (e.is t i))) := by
 refine gives_eq ?_
 have H1 := Lib.hid h1
 have H2 := Lib.hid h2
 clear h1 h2
 go_enter Try.func53, Try.ntmps53
 go_upto_region 0 with fail
 refine wp_text 2 [.fresh w.heap.size 24 (e.cells), bE false] rfl (by kernel_rfl) ?_ ?_
 ·refine nW 1 rfl (fun a u E D hk=>⟨_, _, exec_box 24 _ (e.cells) rfl (eE E), ⟨_, rfl, hk.size, Blk.new u _ _⟩, ((Keep.refl _ u).alloc _)⟩) ?_
  refine sW 2 rfl (fun a u E D hk=>exec_assign _ _ rfl rfl) ?_
  exact fz
 intro gv w1 hV k1
 rw [dq 2 [3,4]]
 simp only [Fz7]
 have hv3 : (.fresh w.heap.size 24 (e.cells) : Kn).p (gv 3) w1 := hV 0 3 (by kernel_rfl)
 generalize gv 3 = v3 at hv3 ⊢
 clear hV
 obtain ⟨g, rfl, hg, hB⟩ := hv3
 refine wpList_nil ?_
 have HB := Lib.hid (blk_range hB)
 have H11 := Lib.hid (H1.out.kept k1)
 have H21 := Lib.hid (H2.out.kept k1)
 clear hB H1 H2
 go_upto_region 1 with fail
 refine wT 11 [pE g 0, iE e.tr, iE t, bE (decide ((e.tr : Int) = (t : Int))), bE (decide ((e.tr : Int) = (t : Int))), .cond (decide ((e.tr : Int) = (t : Int))) (pE g 1), .cond (decide ((e.tr : Int) = (t : Int))) (iE e.id), .cond (decide ((e.tr : Int) = (t : Int))) (iE i), .cond (decide ((e.tr : Int) = (t : Int))) (bE (decide ((e.id : Int) = (i : Int)))), bE ((decide ((e.tr : Int) = (t : Int))) && (decide ((e.id : Int) = (i : Int)))), bE ((decide ((e.tr : Int) = (t : Int))) && (decide ((e.id : Int) = (i : Int))))] [5,6,7,8,9,10,11,12,13,14,4] ?_ ?_
 ·refine fE 1 3 24 0 0 0 ?_
  refine lD 2 5 0 Try.underlying3 (fun u hk=>range_int (range_kept HB.out hk) 0 _ rfl) ?_
  refine sW 3 rfl (fun a u E D hk=>exec_loadi 3 Try.underlying3 _ ⟨g1, 0, none⟩ (.int .i64 t) rfl (eE E) (by rw [(H11.out.kept hk).cell]; rfl)) ?_
  refine sW 4 rfl (fun a u E D hk=>exec_eqn rfl (dD D 1) (dD D 2)) ?_
  refine mD 5 8 3 ?_
  refine iC 6 4 rfl (fun a u E D hk hb=>exec_fldo 24 1 1 _ (g) (0) (1) rfl (eE E) (by kernel_rfl) rfl) ?_
  refine iC 7 4 rfl (fun a u E D hk hb=>exec_loadi _ Try.underlying3 _ _ _ rfl ((D 5 10 (by kernel_rfl)).1 hb) (range_int (range_kept HB.out hk) 1 _ rfl)) ?_
  refine iC 8 4 rfl (fun a u E D hk hb=>exec_loadi 3 Try.underlying3 _ ⟨g2, 0, none⟩ (.int .i64 i) rfl (eE E) (by rw [(H21.out.kept hk).cell]; rfl)) ?_
  refine iC 9 4 rfl (fun a u E D hk hb=>exec_eqn rfl ((D 6 11 (by kernel_rfl)).1 hb) ((D 7 12 (by kernel_rfl)).1 hb)) ?_
  refine sW 10 rfl (fun a u E D hk=>exec_pickand _ _ _ ((decide ((e.tr : Int) = (t : Int)))) ((decide ((e.id : Int) = (i : Int)))) rfl (dD D 4) (fun hb2 => ((D 8 13 (by kernel_rfl)).1 hb2)) rfl) ?_
  refine mD 11 14 9 ?_
  exact fz
 intro gv w2 hV k2
 simp only [Fz7]
 rw [gQ hV 10 4 (.bool ((decide ((e.tr : Int) = (t : Int))) && (decide ((e.id : Int) = (i : Int)))))]
 clear hV
 go_wp2
 go_ret
 exact ⟨rfl, k1.trans k2⟩
set_option maxRecDepth 100000 in
theorem trigO_any (e : Ord) (x : Int) (g1 : Nat) (w : World) (h1 : Blk w g1 3 [.int .i64 x]) : Gives 72 #[e.v, .pointer (some ⟨g1, 0, none⟩)] w (.eq (.bool (e.hit x))) := by
 refine gives_eq ?_
 have H1 := Lib.hid h1
 clear h1
 go_enter Try.func72, Try.ntmps72
 go_upto_region 0 with fail
 refine wp_text 2 [.fresh w.heap.size 24 (e.cells), bE false] rfl (by kernel_rfl) ?_ ?_
 ·refine nW 1 rfl (fun a u E D hk=>⟨_, _, exec_box 24 _ (e.cells) rfl (eE E), ⟨_, rfl, hk.size, Blk.new u _ _⟩, ((Keep.refl _ u).alloc _)⟩) ?_
  refine sW 2 rfl (fun a u E D hk=>exec_assign _ _ rfl rfl) ?_
  exact fz
 intro gv w1 hV k1
 rw [dq 2 [2,3]]
 simp only [Fz7]
 have hv2 : (.fresh w.heap.size 24 (e.cells) : Kn).p (gv 2) w1 := hV 0 2 (by kernel_rfl)
 generalize gv 2 = v2 at hv2 ⊢
 clear hV
 obtain ⟨g, rfl, hg, hB⟩ := hv2
 refine wpList_nil ?_
 have HB := Lib.hid (blk_range hB)
 have H11 := Lib.hid (H1.out.kept k1)
 clear hB H1
 go_upto_region 1 with fail
 refine wE 4 [e.v, iV x, bV (e.hit x), bV (e.hit x)] [4,5,6,3] ?_ ?_
 ·refine sE 1 2 g 0 e.cells Try.underlying24 (fun u hk=>range_kept HB.out hk) (by rw [e.len9]; exact ord_size) ?_
  refine sW 2 rfl (fun a u E D hk=>exec_loadi 3 Try.underlying3 _ ⟨g1, 0, none⟩ (.int .i64 x) rfl (eE E) (by rw [(H11.out.kept hk).cell]; rfl)) ?_
  refine cS 3 58 [e.v, .int .i64 x] rfl Try.func58 rfl (fun a u E D hk=>⟨ll (dD D 0) (ll (dD D 1) rfl), hit_any e x u⟩) ?_
  refine mD 4 6 2 ?_
  exact fz
 intro w2 k2
 simp only [F8]
 go_wp2
 go_ret
 exact ⟨rfl, k1.trans k2⟩
set_option maxRecDepth 100000 in
set_option maxHeartbeats 800000 in
theorem placeO_any (w : World) (p q : Nat) (v : Value) (W : List Ord) (t i : Int) (hB : Blk w p 66 (mkCells q v)) (hS : Sl w 24 9 v W.length (ords W)) (hlen : W.length ≤ 100000) : Gives 36 #[.pointer (some ⟨p, 0, none⟩), .int .i64 t, .int .i64 i] w (.eq (.int .i64 (placeW (Ord.is t i) W))) := by
 refine gives_eq ?_
 have HB := Lib.hid hB
 have HS := Lib.hid hS
 clear hB hS
 go_enter Try.func36, Try.ntmps36
 go_upto_region 0 with fail
 refine wp_text 3 [.fresh w.heap.size 3 ([.int .i64 t]), .fresh w.heap.size 3 ([.int .i64 i]), iE 0] rfl (by kernel_rfl) ?_ ?_
 ·refine nW 1 rfl (fun a u E D hk=>⟨_, _, exec_boxi 3 _ (.int .i64 t) rfl (eE E) rfl, ⟨_, rfl, hk.size, Blk.new u _ _⟩, ((Keep.refl _ u).alloc _)⟩) ?_
  refine nW 2 rfl (fun a u E D hk=>⟨_, _, exec_boxi 3 _ (.int .i64 i) rfl (eE E) rfl, ⟨_, rfl, hk.size, Blk.new u _ _⟩, ((Keep.refl _ u).alloc _)⟩) ?_
  refine sW 3 rfl (fun a u E D hk=>exec_assign _ _ rfl rfl) ?_
  exact fz
 intro gv w1 hV k1
 rw [dq 3 [4,5,6]]
 simp only [Fz7]
 have hv4 : (.fresh w.heap.size 3 ([.int .i64 t]) : Kn).p (gv 4) w1 := hV 0 4 (by kernel_rfl)
 generalize gv 4 = v4 at hv4 ⊢
 have hv5 : (.fresh w.heap.size 3 ([.int .i64 i]) : Kn).p (gv 5) w1 := hV 1 5 (by kernel_rfl)
 generalize gv 5 = v5 at hv5 ⊢
 clear hV
 obtain ⟨g1, rfl, hg1, hB1⟩ := hv4
 obtain ⟨g2, rfl, hg2, hB2⟩ := hv5
 refine wpList_nil ?_
 have HB1 := Lib.hid hB1
 have HB2 := Lib.hid hB2
 have HV : Hid (w1.cell? ⟨p, 1, none⟩ = some v) := (HB.out.kept k1).cell 1
 have HS1 := Lib.hid (HS.out.kept k1)
 clear hB1 hB2 HB HS
 go_upto_region 1 with fail
 refine wEp 6 [pV p 0, pV p 0, pV p 1, v, cloP g1 g2, iV (placeW (Ord.is t i) W)] [7,8,9,10,11,12] ?_ ?_
 ·refine mE 1 0 ?_
  refine nD 2 7 0 ?_
  refine fD 3 8 1 66 1 1 0 ?_
  refine sW 4 rfl (fun a u E D hk=>exec_ldv _ _ Try.underlying35 _ _ _ rfl (dD D 2) (Kept.cell hk (HV.out))) ?_
  refine sW 5 rfl (fun a u E D hk=>exec_mkP _ _ g1 g2 rfl (eE E) (eE E)) ?_
  refine cS 6 52 [v, cloP g1 g2] rfl Try.func52 rfl (fun a u E D hk=>⟨ll (dD D 3) (ll (dD D 4) rfl), indexO_any v W (Ord.is t i) 53 _ (capP g1 g2) u (HS1.out.kept hk) (by omega) Try.func53 (by kernel_rfl) (by kernel_rfl) (fun u2 k2 o => isO_any o t i g1 g2 u2 ((HB1.out.kept hk).kept k2) ((HB2.out.kept hk).kept k2))⟩) ?_
  exact fz
 intro w2 k2
 simp only [F8]
 refine l_val (.int .i64 (placeW (Ord.is t i) W)) rfl (exec_assign _ _ rfl (by kernel_rfl)) ?_
 simp only [Act.put, sA, sS, sZ]
 refine wpList_nil ?_
 go_wp2
 go_ret
 exact ⟨rfl, k1.trans k2⟩
theorem exec_alcI {a : Act} {o : Oper} {u : World} (t : TypeId) (hop : o.op = .alloc t) (hz : (Try.prog.info? t).map (·.zero) = some (some (.int .i64 0))) : (execOp a.eval o).run Try.prog u = .ok (.value (.pointer (some ⟨u.heap.size, 0, none⟩))) (u.alloc (.cells [.int .i64 0].toArray t)) := by
 cases hq : Try.prog.info? t with
 | none => simp [hq] at hz
 | some i =>
  have hzz : i.zero = some (.int .i64 0) := by simpa [hq] using hz
  unfold execOp
  simp only [hop]
  simp [Instr.alloc, zeroValue, typeInfo, hq, hzz, newVar, Value.cells, go_sem]
set_option maxRecDepth 100000 in
set_option maxHeartbeats 800000 in
theorem triggered_any (w : World) (F : Nat → Prop) (p q : Nat) (v : Value) (B : Bok) (W : List Ord) (hB : Blk w p 66 (mkCells q v)) (hK : Bk w F q B) (hS : Sl w 24 9 v W.length (ords W)) (hlen : W.length ≤ 100000) : Gives 61 #[.pointer (some ⟨p, 0, none⟩)] w (.eq (.int .i64 (placeW (fun o => o.hit B.last) W))) := by
 refine gives_eq ?_
 have HB := Lib.hid hB
 have HK := Lib.hid hK
 have HS := Lib.hid hS
 have HQ : Hid (w.cell? ⟨p, 0, none⟩ = some (.pointer (some ⟨q, 0, none⟩))) := HB.out.cell 0
 clear hB hS hK
 go_enter Try.func61, Try.ntmps61
 go_upto_region 1 with fail
 refine wEp 5 [pV p 0, pV p 0, pV p 0, pV q 0, iV B.last] [4,5,6,7,8] ?_ ?_
 ·refine mE 1 0 ?_
  refine nD 2 4 0 ?_
  refine fD 3 5 1 66 0 0 0 ?_
  refine sW 4 rfl (fun a u E D hk=>exec_ldp _ _ Try.underlying33 _ _ _ rfl (dD D 2) (Kept.cell hk (HQ.out))) ?_
  refine cS 5 59 [.pointer (some ⟨q, 0, none⟩)] rfl Try.func59 rfl (fun a u E D hk=>⟨ll (dD D 3) rfl, blast_any u F q B (HK.out.kept hk)⟩) ?_
  exact fz
 intro w1 k1
 simp only [F8]
 refine l_new (.pointer (some ⟨w1.heap.size, 0, none⟩)) (w1.alloc (.cells [.int .i64 0].toArray 3)) rfl (exec_alcI 3 rfl (by kernel_rfl)) ?_
 have hN2 := Blk.new w1 3 [.int .i64 0]
 have k2 : Kept w1 (w1.alloc (.cells [.int .i64 0].toArray 3)) := (Keep.refl _ w1).alloc _
 generalize w1.alloc (.cells [.int .i64 0].toArray 3) = w2 at hN2 k2 ⊢
 simp only [Act.put, sA, sS, sZ]
 refine l_st1 3 w1.heap.size 0 3 _ (.int .i64 B.last) _ _ rfl rfl (by kernel_rfl) (by kernel_rfl) (by kernel_rfl) rfl rfl hN2 (by simp) ?_
 intro w3 hN3 hk3 hs3
 simp only [Act.put]
 refine wpList_nil ?_
 have k3 : Kept w w3 := (k1.trans k2).trans' hk3 (by have := k1.size; omega)
 obtain ⟨g, hg⟩ : ∃ g, w1.heap.size = g := ⟨_, rfl⟩
 rw [hg] at hN3 ⊢
 have HN : Hid (Blk w3 g 3 [.int .i64 B.last]) := hN3
 have HV : Hid (w3.cell? ⟨p, 1, none⟩ = some v) := (HB.out.kept k3).cell 1
 have HS1 := Lib.hid (HS.out.kept k3)
 clear hN2 hN3 k2 hk3 hs3 hg HB HS HQ HK
 go_upto_region 2 with fail
 refine wEp 6 [pV p 0, pV p 0, pV p 1, v, cloT g, iV (placeW (fun o => o.hit B.last) W)] [9,10,11,12,13,14] ?_ ?_
 ·refine mE 1 0 ?_
  refine nD 2 9 0 ?_
  refine fD 3 10 1 66 1 1 0 ?_
  refine sW 4 rfl (fun a u E D hk=>exec_ldv _ _ Try.underlying35 _ _ _ rfl (dD D 2) (Kept.cell hk (HV.out))) ?_
  refine sW 5 rfl (fun a u E D hk=>exec_mkT _ g rfl (eE E)) ?_
  refine cS 6 52 [v, cloT g] rfl Try.func52 rfl (fun a u E D hk=>⟨ll (dD D 3) (ll (dD D 4) rfl), indexO_any v W (fun o => o.hit B.last) 72 _ (capT g) u (HS1.out.kept hk) (by omega) Try.func72 (by kernel_rfl) (by kernel_rfl) (fun u2 k2 o => trigO_any o B.last g u2 ((HN.out.kept hk).kept k2))⟩) ?_
  exact fz
 intro w4 k4
 simp only [F8]
 refine l_val (.int .i64 (placeW (fun o => o.hit B.last) W)) rfl (exec_assign _ _ rfl (by kernel_rfl)) ?_
 simp only [Act.put, sA, sS, sZ]
 refine wpList_nil ?_
 go_wp2
 go_ret
 exact ⟨rfl, k3.trans k4⟩
inductive Tr where
 | done : Tr
 | val (i : Nat) (r : Tr) : Tr
 | one (i : Nat) (r : Tr) : Tr
 | two (i j : Nat) (r s : Tr) : Tr
section
variable {P : Program} {ops : Array Oper} {S : World → Prop} {Q : Exit → Act → World → Prop}
def wpTr (P : Program) (ops : Array Oper) (S : World → Prop) (Q : Exit → Act → World → Prop) : Tr → Act → World → Prop
 | .done, a, w => wpList P ops Q [] a w
 | .val i r, a, w => ∃ o v, ops[i]? = some o ∧ YieldsIf P ops S o v a ∧ wpTr P ops S Q r (a.put o.dst v) w
 | .one i r, a, w => wpOp P ops Q i (fun a' w' => S w' ∧ wpTr P ops S Q r a' w') a w
 | .two i j r s, a, w => wpOp P ops Q i (fun a' w' => S w' ∧ wpTr P ops S Q r a' w') a w ∧ wpOp P ops Q j (fun a' w' => S w' ∧ wpTr P ops S Q s a' w') a w
def trB (ops : Array Oper) : Tr → Nat → Array Bool → Bool
 | .done, n, ls => n == 0 && (Region.ready .any ops ls).isEmpty
 | .val i r, n, ls => n != 0 && (Region.ready .any ops ls).contains i && Region.free .any ops ls i && trB ops r (n - 1) (ls.setIfInBounds i true)
 | .one i r, n, ls => n != 0 && (Region.ready .any ops ls == [i]) && trB ops r (n - 1) (ls.setIfInBounds i true)
 | .two i j r s, n, ls => n != 0 && (Region.ready .any ops ls == [i, j]) && trB ops r (n - 1) (ls.setIfInBounds i true) && trB ops s (n - 1) (ls.setIfInBounds j true)
theorem X_of_tr (hs : Region.noSelect ops = true) (hQ : ∀ c a d v w, Q (.panic c) (a.put d v) w → Q (.panic c) a w) : ∀ (t : Tr) (n : Nat) (ls : Array Bool) (a : Act) (w : World), S w → trB ops t n ls = true → wpTr P ops S Q t a w → wpX P .any ops Q S (fun _ => false) n ls a w
 | .done, n, ls, a, w, hS, hB, h => by
  simp only [trB, Bool.and_eq_true, beq_iff_eq, List.isEmpty_iff] at hB
  obtain ⟨rfl, hB⟩ := hB
  exact ⟨hB, h⟩
 | .val i r, n, ls, a, w, hS, hB, h => by
  obtain ⟨o, v, ho, hy, h⟩ := h
  simp only [trB, Bool.and_eq_true, bne_iff_ne] at hB
  obtain ⟨⟨⟨hn, hr⟩, hf⟩, hB⟩ := hB
  obtain ⟨k, rfl⟩ : ∃ k, n = k + 1 := ⟨n - 1, by omega⟩
  exact wpX_first (Si := S) ho (Region.noSelect_spec hs) (fun c a w => hQ c a o.dst v w) (fun _ _ _ _ _ _ hw hT => hT rfl hw) k ls a w (Region.free_spec ho hf) (by simpa using hr) hy hS (X_of_tr hs hQ r k _ _ w hS hB h)
 | .one i r, n, ls, a, w, hS, hB, h => by
  simp only [trB, Bool.and_eq_true, bne_iff_ne, beq_iff_eq] at hB
  obtain ⟨⟨hn, hr⟩, hB⟩ := hB
  obtain ⟨k, rfl⟩ : ∃ k, n = k + 1 := ⟨n - 1, by omega⟩
  refine ⟨fun h0 => (by rw [h0] at hr; cases hr), fun j hj => ?_⟩
  obtain rfl : j = i := by rw [hr] at hj; simpa using hj
  exact wpOp_mono (fun a' w' ⟨h1, h2⟩ => ⟨fun _ _ => h1, X_of_tr hs hQ r k _ a' w' h1 hB h2⟩) h
 | .two i j r s, n, ls, a, w, hS, hB, h => by
  simp only [trB, Bool.and_eq_true, bne_iff_ne, beq_iff_eq] at hB
  obtain ⟨⟨⟨hn, hr⟩, hB⟩, hC⟩ := hB
  obtain ⟨k, rfl⟩ : ∃ k, n = k + 1 := ⟨n - 1, by omega⟩
  refine ⟨fun h0 => (by rw [h0] at hr; cases hr), fun q hq => ?_⟩
  rcases (show q = i ∨ q = j by rw [hr] at hq; simpa using hq) with rfl | rfl
  ·exact wpOp_mono (fun a' w' ⟨h1, h2⟩ => ⟨fun _ _ => h1, X_of_tr hs hQ r k _ a' w' h1 hB h2⟩) h.1
  ·exact wpOp_mono (fun a' w' ⟨h1, h2⟩ => ⟨fun _ _ => h1, X_of_tr hs hQ s k _ a' w' h1 hC h2⟩) h.2
theorem wp_tree {id : Nat} {a : Act} {w : World} {l : List Oper} (S : World → Prop) (t : Tr) (hm : P.follows .mixedOrders = true) (hB : (Region.noSelect l.toArray && trB l.toArray t l.length (Array.replicate l.length false)) = true)
  (hS : S w.drew) (h : wpTr P l.toArray S (NoPanic Q) t a w.drew) : (Code.region id l.toArray true).wp P Q a w := by
 simp only [Bool.and_eq_true] at hB
 refine wp_region_noPanic (wp_region_any hm ?_)
 have := X_of_tr (P := P) (S := S) hB.1 (fun c a d v w h => (h : False).elim) t _ _ a w.drew hS hB.2 h
 have h2 := wpAny_of_X _ _ _ _ this
 simpa using h2
end
section
variable {ops : Array Oper} {S : World → Prop} {Q : Exit → Act → World → Prop} {a : Act} {w : World} {i : Nat} {o : Oper} {r : Tr}
theorem t_done (h : wpList Try.prog ops Q [] a w) : wpTr Try.prog ops S (NoPanic Q) .done a w := NoPanic.normal h
theorem t_val (v : Value) (ho : ops[i]? = some o) (hw : Region.wanted o (yielded ops a.tmps) = true) (h : ∀ u, S u → (execOp a.eval o).run Try.prog u = .ok (.value v) u) (hK : wpTr Try.prog ops S Q r (a.put o.dst v) w) : wpTr Try.prog ops S Q (.val i r) a w :=
 ⟨o, v, ho, .inl ⟨hw, h⟩, hK⟩
theorem t_op (ho : ops[i]? = some o) (hw : Region.wanted o (yielded ops a.tmps) = true) (h : ∀ K : Act → World → Prop, (∀ a' w', S w' → wpTr Try.prog ops S Q r a' w' → K a' w') → o.wp Try.prog a w K Q) : wpOp Try.prog ops Q i (fun a' w' => S w' ∧ wpTr Try.prog ops S Q r a' w') a w := by
 unfold wpOp
 simp only [ho, hw, if_true]
 exact .inl (h _ (fun a' w' h1 h2 => ⟨h1, h2⟩))
theorem t_new (v : Value) (w' : World) (ho : ops[i]? = some o) (hw : Region.wanted o (yielded ops a.tmps) = true) (h : (execOp a.eval o).run Try.prog w = .ok (.value v) w') (hS : S w') (hK : wpTr Try.prog ops S Q r (a.put o.dst v) w') : wpOp Try.prog ops Q i (fun a' w' => S w' ∧ wpTr Try.prog ops S Q r a' w') a w :=
 t_op ho hw fun K hK' => by
  unfold Oper.wp
  rw [h]
  exact hK' _ _ hS hK
theorem t_call (f : Nat) (args : Array Value) (ho : ops[i]? = some o) (hw : Region.wanted o (yielded ops a.tmps) = true) (h : ∀ u, (execOp a.eval o).run Try.prog u = .ok (.enter f args) u) (hc : Calls Try.prog f args w fun e w' => ∃ v, e = .returned v ∧ S w' ∧ wpTr Try.prog ops S Q r (a.put o.dst v) w') : wpOp Try.prog ops Q i (fun a' w' => S w' ∧ wpTr Try.prog ops S Q r a' w') a w :=
 t_op ho hw fun K hK' => by
  unfold Oper.wp
  rw [h]
  refine Calls.mono hc fun e w' he => ?_
  obtain ⟨v, rfl, hS, hK⟩ := he
  exact hK' _ _ hS hK
theorem t_setS (ty : TypeId) (g : Nat) (T : TypeId) (old cells : List Value) (x y : Operand) (ho : ops[i]? = some o) (hw : Region.wanted o (yielded ops a.tmps) = true) (hop : o.op = .store ty x y) (hx : a.eval x = .pointer (some ⟨g, 0, none⟩)) (hy : a.eval y = .agg cells.toArray) (hb : Blk w g T old) (hi : (Try.prog.info? ty).map (·.size) = some cells.length) (hold : old.length = cells.length) (h1 : ∀ u ∈ cells, u.oneCell' = true)
  (hK : ∀ w', Blk w' g T cells → Keep (· = g) w w' → S w' ∧ wpTr Try.prog ops S Q r (a.put o.dst undef) w') : wpOp Try.prog ops Q i (fun a' w' => S w' ∧ wpTr Try.prog ops S Q r a' w') a w :=
 t_op ho hw fun K hK' => op_store_row w ty x y hop g cells hx hy T old hb hi hold h1 (fun w' h2 h3 h4 => hK' _ _ (hK w' h2 h3).1 (hK w' h2 h3).2)
end
theorem exec_storeM {a : Act} {o : Oper} {u : World} (ty : TypeId) (x y : Operand) (b of : Nat) (cs : List Value) (hop : o.op = .store ty x y) (hi : (Try.prog.info? ty).map (·.size) = some cs.length) (hx : a.eval x = .pointer (some ⟨b, of, none⟩)) (hy : a.eval y = .agg cs.toArray) (h1 : ∀ v ∈ cs, v.oneCell' = true) (ht : u.there b of cs.length) :
  (execOp a.eval o).run Try.prog u = .ok .skip (u.setCells b of cs) := by
 have h := run_storeCells_cells (P := Try.prog) b of cs 0 u (fun j hj => by simpa using (ht j (by simpa using hj)).1) (fun j hj => by simpa using (ht j (by simpa using hj)).2) h1
 cases hq : Try.prog.info? ty with
 | none => simp [hq] at hi
 | some i =>
  have hs : i.size = cs.length := by simpa [hq] using hi
  simp only [Nat.add_zero] at h
  unfold execOp
  simp only [hop, hx, hy, Instr.storeAt, Instr.sureAddr, Sem.run_bind, Sem.run_pure, Result.andThen_ok]
  simp [storeVar, sizeOf, typeInfo, hq, hs, h, Value.cells]
theorem l_setO {ops : Array Oper} {Q : Exit → Act → World → Prop} {a : Act} {w : World} {o : Oper} {rest : List Oper} (g : Nat) (T : TypeId) (e : Ord) (old : List Value) (x y : Operand) (hw : Region.wanted o (yielded ops a.tmps) = true) (hop : o.op = .store 24 x y) (hx : a.eval x = .pointer (some ⟨g, 0, none⟩)) (hy : a.eval y = e.v) (hb : Blk w g T old) (hl : 9 ≤ old.length)
  (hK : ∀ w', Blk w' g T (e.cells ++ old.drop 9) → Keep (· = g) w w' → wpList Try.prog ops Q rest (a.put o.dst undef) w') : wpList Try.prog ops Q (o :: rest) a w := by
 obtain ⟨h1, h2, h3⟩ := Blk.setCells e.cells 0 w old hb (by rw [Ord.len9]; omega)
 refine l_store _ hw (exec_storeM 24 x y g 0 e.cells hop (by rw [Ord.len9]; exact ord_size) hx hy (Ord.one1 e) (hb.there 0 _ (by rw [Ord.len9]; omega))) (hK _ ?_ h2)
 rw [Ord.len9] at h1
 simpa using h1
set_option maxRecDepth 100000 in
set_option maxHeartbeats 1600000 in
theorem mtake_any (w : World) (p q : Nat) (v : Value) (W : List Ord) (k : Nat) (e : Ord) (hB : Blk w p 66 (mkCells q v)) (hS : Sl w 24 9 v W.length (ords W)) (he : W[k]? = some e) (hlen : W.length ≤ 100000) (hvp : ∀ b, v.ownBlock = some b → b ≠ p) :
  Calls Try.prog 40 #[.pointer (some ⟨p, 0, none⟩), .int .i64 (k : Int)] w fun r w' => ∃ v', r = .returned e.v ∧ Blk w' p 66 (mkCells q v') ∧ Sl w' 24 9 v' (W.eraseIdx k).length (ords (W.eraseIdx k)) ∧ v'.ownBlock = v.ownBlock ∧ Keep (fun b => b = p ∨ v.ownBlock = some b) w w' := by
 obtain ⟨n, hn⟩ : ∃ n, W.length = n := ⟨_, rfl⟩
 have hkn : k < n := by rw [← hn]; exact (List.getElem?_eq_some_iff.1 he).1
 have hel : (W.eraseIdx k).length = n - 1 := by rw [List.length_eraseIdx, if_pos (by omega), hn]
 rw [hel]
 rw [hn] at hS hlen
 have HN := Lib.hid hn
 obtain ⟨g, off, c, rfl⟩ := hS.some_ (by omega)
 have hgp : g ≠ p := hvp g rfl
 have hgl : g < w.heap.size := hS.lt rfl
 have HS := Lib.hid hS
 have HB := Lib.hid hB
 have hpl := hB.lt
 have HEI := Lib.hid he
 clear hS hB he hn hel hvp
 go_enter Try.func40, Try.ntmps40
 go_upto_region 0 with fail
 refine wp_text 1 [.fresh w.heap.size 24 zeroO.cells] rfl (by kernel_rfl) ?_ ?_
 ·refine nW 1 rfl (fun a u E D hk=>⟨_, _, exec_alc 24 zeroO.cells rfl zO, ⟨_, rfl, hk.size, Blk.new u _ _⟩, ((Keep.refl _ u).alloc _)⟩) ?_
  exact fz
 intro gv w0 hV k0
 rw [dq 1 [4]]
 simp only [Fz7]
 have hv4 : (.fresh w.heap.size 24 zeroO.cells : Kn).p (gv 4) w0 := hV 0 4 (by kernel_rfl)
 generalize gv 4 = v4 at hv4 ⊢
 clear hV
 obtain ⟨b4, rfl, hb4, hB4⟩ := hv4
 refine wpList_nil ?_
 have HB4 := Lib.hid hB4
 have l4 := hB4.lt
 have z0 := k0.size
 have HV0 : Hid (w0.cell? ⟨p, 1, none⟩ = some (.slice (some ⟨g, off, none⟩) n c)) := (HB.out.kept k0).cell 1
 have HE0 : Hid (w0.rangeAt g (off + k * 9) e.cells) := range_kept (HS.out.rngO k e HEI.out) k0
 clear hB4
 go_upto_region 1 with fail
 refine wEp 7 [pV p 0, pV p 0, pV p 1, .slice (some ⟨g, off, none⟩) n c, iV (k : Int), pV g (off + k * 9), e.v] [6,7,8,9,10,11,12] ?_ ?_
 ·refine mE 1 0 ?_
  refine nD 2 6 0 ?_
  refine fD 3 7 1 66 1 1 0 ?_
  refine sW 4 rfl (fun a u E D hk=>exec_ldv _ _ Try.underlying35 _ _ _ rfl (dD D 2) (Kept.cell hk (HV0.out))) ?_
  refine mE 5 1 ?_
  refine sW 6 rfl (fun a u E D hk=>exec_ixo slO _ _ (g) (off) n c k (off + k * 9) ((k : Int)) rfl (dD D 3) (dD D 4) (by first | rfl | omega) (hkn) (by first | rfl | omega)) ?_
  refine sD 7 11 5 e.cells Try.underlying24 (fun u hk=>range_kept HE0.out hk) (by rw [e.len9]; exact ord_size) ?_
  exact fz
 intro w1 k1
 simp only [F8]
 refine l_new (.pointer (some ⟨w1.heap.size, 0, none⟩)) (w1.alloc (.cells zeroO.cells.toArray 24)) rfl (exec_alc 24 zeroO.cells rfl zO) ?_
 have hNw2 := Blk.new w1 24 zeroO.cells
 have kw2 : Kept w1 (w1.alloc (.cells zeroO.cells.toArray 24)) := (Keep.refl _ w1).alloc _
 generalize w1.alloc (.cells zeroO.cells.toArray 24) = w2 at hNw2 kw2 ⊢
 simp only [Act.put, sA, sS, sZ]
 refine l_setS 24 w1.heap.size 24 zeroO.cells e.cells _ _ rfl rfl (by kernel_rfl) (by kernel_rfl) (hNw2) (by rw [Ord.len9]; exact ord_size) (by rw [Ord.len9, Ord.len9]) (Ord.one1 _) ?_
 intro w3 hCw3 hkw3 hsw3
 simp only [Act.put]
 refine wpList_nil ?_
 obtain ⟨b5, h5⟩ : ∃ x, w1.heap.size = x := ⟨_, rfl⟩
 rw [h5] at hNw2 hCw3 hkw3 ⊢
 have z1 := k1.size
 have K3 : Kept w w3 := ((k0.trans k1).trans kw2).trans' hkw3 (by omega)
 have z3 := K3.size
 have HO5 := Lib.hid (blk_range hCw3)
 have HB43 := Lib.hid ((HB4.out.kept (k1.trans kw2)).keep hkw3 (fun e => by omega))
 have HV3 : Hid (w3.cell? ⟨p, 1, none⟩ = some (.slice (some ⟨g, off, none⟩) n c)) := (HB.out.kept K3).cell 1
 have HB3 := Lib.hid (HB.out.kept K3)
 have HS3 := Lib.hid (HS.out.kept K3)
 have l5 := hCw3.lt
 clear hNw2 hCw3 hkw3 hsw3 kw2 k0 k1 HB HS HB4 HV0 HE0
 go_upto_region 2 with fail
 refine wEp 8 [pV p 0, pV p 0, pV p 0, pV p 1, .slice (some ⟨g, off, none⟩) n c, iV (k : Int), iV (k : Int), iV (((k : Int) : Int) + (1 : Int))] [13,14,15,16,17,18,19,20] ?_ ?_
 ·refine mE 1 0 ?_
  refine mE 2 0 ?_
  refine nD 3 14 1 ?_
  refine fD 4 15 2 66 1 1 0 ?_
  refine sW 5 rfl (fun a u E D hk=>exec_ldv _ _ Try.underlying35 _ _ _ rfl (dD D 3) (Kept.cell hk (HV3.out))) ?_
  refine mE 6 1 ?_
  refine mE 7 1 ?_
  refine sW 8 rfl (fun a u E D hk=>exec_addn (p := ((k : Int))) (q := (1)) (((k : Int) : Int) + (1 : Int)) rfl (dD D 6) rfl rfl (by omega) (by omega)) ?_
  exact fz
 intro w4 k4
 simp only [F8]
 refine l_call 56 #[.slice (some ⟨g, off, none⟩) n c, .int .i64 (k : Int), .int .i64 (((k : Int) : Int) + (1 : Int))] rfl (exec_call 56 _ [.tmp 17, .tmp 18, .tmp 20] _ _ Try.func56 (by kernel_rfl) (by kernel_rfl) rfl (by kernel_rfl) _) ?_
 refine (delO_any g off n c k W w4 (HS3.out.kept k4) HN.out hkn (by omega)).mono ?_
 rintro r w5 ⟨rfl, hS5, hk5⟩
 refine ⟨_, rfl, ?_⟩
 simp only [Act.put, sA, sS, sZ]
 refine l_val (.pointer (some ⟨p, 0, none⟩)) rfl (exec_nilp (.tmp 13) ⟨p, 0, none⟩ rfl (by kernel_rfl)) ?_
 simp only [Act.put, sA, sS, sZ]
 refine l_val (.pointer (some ⟨p, 1, none⟩)) rfl (exec_fldo 66 1 1 (.tmp 22) (p) (0) (1) rfl (by kernel_rfl) (by kernel_rfl) rfl) ?_
 simp only [Act.put, sA, sS, sZ]
 refine l_st1 35 p 1 66 (mkCells q (.slice (some ⟨g, off, none⟩) n c)) (.slice (some ⟨g, off, none⟩) (n - 1) c) _ _ rfl rfl (by kernel_rfl) (by kernel_rfl) (by kernel_rfl) (sl_cells hS5) (sl_onec hS5) ((HB3.out.kept k4).keep hk5 (fun e => hgp e.symm)) (by simp [mkCells]) ?_
 intro w6 hB6 hk6 hs6
 simp only [Act.put]
 refine wpList_nil ?_
 have HB6 : Hid (Blk w6 p 66 (mkCells q (.slice (some ⟨g, off, none⟩) (n - 1) c))) := hB6
 have HS6 := Lib.hid (hS5.keep hk6 (fun b hb e => hgp (by simp [Value.ownBlock] at hb; omega)))
 have k36 : Keep (fun b => b = p ∨ g = b) w3 w6 := ((Keep.any k4 hk5).mono (fun b _ hb => .inr hb.symm)).trans hk6 (fun b _ hb => .inl hb)
 have HO6 := Lib.hid (range_keep HO5.out k36 (fun e => by omega))
 have HB46 := Lib.hid (HB43.out.keep k36 (fun e => by omega))
 have z6 := k36.size
 have K6 : Keep (fun b => b = p ∨ g = b) w w6 := Keep.any K3 k36
 clear hS5 hk5 hB6 hk6 hs6 k4 k36 HO5 HB43 HV3 HB3 HS3 K3
 go_upto_region 3 with fail
 refine wEp 1 [e.v] [24] ?_ ?_
 ·refine sE 1 5 b5 0 e.cells Try.underlying24 (fun u hk=>range_kept HO6.out hk) (by rw [e.len9]; exact ord_size) ?_
  exact fz
 intro w7 k7
 simp only [F8]
 refine l_setS 24 b4 24 zeroO.cells e.cells _ _ rfl rfl (by kernel_rfl) (by kernel_rfl) (HB46.out.kept k7) (by rw [Ord.len9]; exact ord_size) (by rw [Ord.len9, Ord.len9]) (Ord.one1 _) ?_
 intro w8 hCw8 hkw8 hsw8
 simp only [Act.put]
 refine wpList_nil ?_
 go_wp2
 refine bodyPost_ret (results_cell (p := 4) rfl _ _ b4 _ e.cells rfl hCw8 Try.underlying24 (by rw [Ord.len9]; exact ord_size)) rfl ?_
 refine ⟨.slice (some ⟨g, off, none⟩) (n - 1) c, rfl, (HB6.out.kept k7).keep hkw8 (fun e => by omega), (HS6.out.kept k7).keep hkw8 (fun b hb e => by simp [Value.ownBlock] at hb; omega), rfl, ((K6.kept k7).trans hkw8 (fun b hb e => by omega)).mono (fun b _ hb => hb.elim .inl (fun h => .inr (by rw [h]; rfl)))⟩
theorem waiting_any (w : World) (F : Nat → Prop) (p : Nat) (Mm : Mkt) (h : Mk w F p Mm) (hlen : Mm.w.length ≤ 100000) : Gives 15 #[.pointer (some ⟨p, 0, none⟩)] w (.sl w.heap.size 24 9 Mm.w.length (ords Mm.w)) := by
 obtain ⟨_, q, v, Fb, hP, _⟩ := h
 have HV : Hid (w.cell? ⟨p, 1, none⟩ = some v) := hP.blk.cell 1
 have HS := Lib.hid hP.sl
 clear hP
 go_enter Try.func15, Try.ntmps15
 go_upto_region 1 with fail
 refine wp_text 5 [pE p 0, pE p 0, pE p 1, .eq (v), .sl w.heap.size 24 9 Mm.w.length (ords Mm.w)] rfl (by kernel_rfl) ?_ ?_
 ·refine mE 1 0 ?_
  refine nD 2 3 0 ?_
  refine fD 3 4 1 66 1 1 0 ?_
  refine sW 4 rfl (fun a u E D hk=>exec_ldv _ _ Try.underlying35 _ _ _ rfl (dD D 2) (Kept.cell hk (HV.out))) ?_
  refine cS 5 30 [v] rfl Try.func30 rfl (fun a u E D hk=>⟨ll (dD D 3) rfl, (cloneO_any v Mm.w.length Mm.w u (HS.out.kept hk) (by omega)).base hk.size⟩) ?_
  exact fz
 intro gv w1 hV k1
 rw [dq 5 [3,4,5,6,7]]
 simp only [Fz7]
 have hv7 : (.sl w.heap.size 24 9 Mm.w.length (ords Mm.w) : Kn).p (gv 7) w1 := hV 4 7 (by kernel_rfl)
 generalize gv 7 = v7 at hv7 ⊢
 clear hV
 refine l_val (v7) rfl (exec_assign _ _ rfl (by kernel_rfl)) ?_
 simp only [Act.put, sA, sS, sZ]
 refine wpList_nil ?_
 go_wp2
 go_ret
 exact ⟨_, rfl, hv7, k1⟩
theorem mbook_any (w : World) (p q : Nat) (v : Value) (hB : Blk w p 66 (mkCells q v)) : Gives 12 #[.pointer (some ⟨p, 0, none⟩)] w (.eq (.pointer (some ⟨q, 0, none⟩))) := by
 refine gives_eq ?_
 have HV : Hid (w.cell? ⟨p, 0, none⟩ = some (.pointer (some ⟨q, 0, none⟩))) := hB.cell 0
 clear hB
 go_enter Try.func12, Try.ntmps12
 go_upto_region 1 with fail
 refine wE 5 [pV p 0, pV p 0, pV p 0, pV q 0, pV q 0] [3,4,5,6,2] ?_ ?_
 ·refine mE 1 0 ?_
  refine nD 2 3 0 ?_
  refine fD 3 4 1 66 0 0 0 ?_
  refine sW 4 rfl (fun a u E D hk=>exec_ldp _ _ Try.underlying33 _ _ _ rfl (dD D 2) (Kept.cell hk (HV.out))) ?_
  refine mD 5 6 3 ?_
  exact fz
 intro w1 k1
 simp only [F8]
 go_wp2
 go_ret
 exact ⟨rfl, k1⟩
theorem mlen_any (w : World) (F : Nat → Prop) (p : Nat) (Mm : Mkt) (h : Mk w F p Mm) (hI : Inv Mm.b) (hlen : Mm.w.length ≤ 100000) : Gives 69 #[.pointer (some ⟨p, 0, none⟩)] w (.eq (.int .i64 (Mm.len : Int))) := by
 refine gives_eq ?_
 obtain ⟨_, q, v, Fb, hP, _⟩ := h
 have HQ : Hid (w.cell? ⟨p, 0, none⟩ = some (.pointer (some ⟨q, 0, none⟩))) := hP.blk.cell 0
 have HV : Hid (w.cell? ⟨p, 1, none⟩ = some v) := hP.blk.cell 1
 have HK := Lib.hid hP.bk
 obtain ⟨n, hn⟩ : ∃ n, Mm.w.length = n := ⟨_, rfl⟩
 have HS := Lib.hid hP.sl
 rw [hn] at HS hlen
 obtain ⟨m, hm⟩ : ∃ m, Mm.b.len = m := ⟨_, rfl⟩
 have HM : Hid ((m : Int) + (n : Int) = (Mm.len : Int)) := by show _ = _; unfold Mkt.len; rw [hm, hn]; omega
 have HMe := Lib.hid hm
 have HI := Lib.hid hI
 have hm64 : m ≤ 128 := by have := hI.two.few; rw [← hm]; unfold Bok.len Bok.all; rw [List.length_append]; omega
 clear hP hn hm hI
 go_enter Try.func69, Try.ntmps69
 go_upto_region 1 with fail
 refine wG 12 [pV p 0, pV p 0, pV p 0, pV q 0, iV (m : Int), pV p 0, pV p 0, pV p 1, v, iV (n : Int), iV (((m : Int) : Int) + ((n : Int) : Int)), iV (((m : Int) : Int) + ((n : Int) : Int))] [3,4,5,6,7,8,9,10,11,12,13,2] ?_ ?_
 ·refine mE 1 0 ?_
  refine nD 2 3 0 ?_
  refine fD 3 4 1 66 0 0 0 ?_
  refine sW 4 rfl (fun a u E D hk=>exec_ldp _ _ Try.underlying33 _ _ _ rfl (dD D 2) (Kept.cell hk (HQ.out))) ?_
  refine cS 5 77 [.pointer (some ⟨q, 0, none⟩)] rfl Try.func77 rfl (fun a u E D hk=>⟨ll (dD D 3) rfl, (by rw [← HMe.out]; exact blen_any u Fb q Mm.b (HK.out.kept hk) HI.out)⟩) ?_
  refine mE 6 0 ?_
  refine nD 7 8 5 ?_
  refine fD 8 9 6 66 1 1 0 ?_
  refine sW 9 rfl (fun a u E D hk=>exec_ldv _ _ Try.underlying35 _ _ _ rfl (dD D 7) (Kept.cell hk (HV.out))) ?_
  refine sW 10 rfl (fun a u E D hk=>exec_lenS _ slO _ _ _ _ rfl (dD D 8) (HS.out.kept hk)) ?_
  refine sW 11 rfl (fun a u E D hk=>exec_addn (p := ((m : Int))) (q := ((n : Int))) (((m : Int) : Int) + ((n : Int) : Int)) rfl (dD D 4) (dD D 9) rfl (by omega) (by omega)) ?_
  refine mD 12 13 10 ?_
  exact fz
 intro w1 k1
 simp only [F8]
 go_wp2
 go_ret
 exact ⟨by rw [HM.out]; rfl, k1⟩
theorem mayStay_any (w : World) (c : Ord) : Gives 68 #[c.v] w (.eq (.bool c.may)) := by
 refine gives_eq ?_
 go_enter Try.func68, Try.ntmps68
 go_upto_region 0 with fail
 refine wp_text 2 [.fresh w.heap.size 24 (c.cells), bE false] rfl (by kernel_rfl) ?_ ?_
 ·refine nW 1 rfl (fun a u E D hk=>⟨_, _, exec_box 24 _ (c.cells) rfl (eE E), ⟨_, rfl, hk.size, Blk.new u _ _⟩, ((Keep.refl _ u).alloc _)⟩) ?_
  refine sW 2 rfl (fun a u E D hk=>exec_assign _ _ rfl rfl) ?_
  exact fz
 intro gv w1 hV k1
 rw [dq 2 [1,2]]
 simp only [Fz7]
 have hv1 : (.fresh w.heap.size 24 (c.cells) : Kn).p (gv 1) w1 := hV 0 1 (by kernel_rfl)
 generalize gv 1 = v1 at hv1 ⊢
 clear hV
 obtain ⟨g, rfl, hg, hB⟩ := hv1
 refine wpList_nil ?_
 have HB := Lib.hid (blk_range hB)
 clear hB
 go_upto_region 1 with fail
 refine wT 14 [pE g 8, iE c.stop, bE (decide ((0 : Int) < (c.stop : Int))), bE (decide ((0 : Int) < (c.stop : Int))), .cond (!(decide ((0 : Int) < (c.stop : Int)))) (pE g 4), .cond (!(decide ((0 : Int) < (c.stop : Int)))) (iE c.k), .cond (!(decide ((0 : Int) < (c.stop : Int)))) (bE (decide ((c.k : Int) = (1 : Int)))), bE ((decide ((0 : Int) < (c.stop : Int))) || (decide ((c.k : Int) = (1 : Int)))), bE ((decide ((0 : Int) < (c.stop : Int))) || (decide ((c.k : Int) = (1 : Int)))), .cond (!((decide ((0 : Int) < (c.stop : Int))) || (decide ((c.k : Int) = (1 : Int))))) (pE g 4), .cond (!((decide ((0 : Int) < (c.stop : Int))) || (decide ((c.k : Int) = (1 : Int))))) (iE c.k), .cond (!((decide ((0 : Int) < (c.stop : Int))) || (decide ((c.k : Int) = (1 : Int))))) (bE (decide ((c.k : Int) = (5 : Int)))), bE (((decide ((0 : Int) < (c.stop : Int))) || (decide ((c.k : Int) = (1 : Int)))) || (decide ((c.k : Int) = (5 : Int)))), bE (((decide ((0 : Int) < (c.stop : Int))) || (decide ((c.k : Int) = (1 : Int)))) || (decide ((c.k : Int) = (5 : Int))))] [3,4,5,6,7,8,9,10,11,12,13,14,15,2] ?_ ?_
 ·refine fE 1 1 24 8 8 0 ?_
  refine lD 2 3 0 Try.underlying3 (fun u hk=>range_int (range_kept HB.out hk) 8 _ rfl) ?_
  refine sW 3 rfl (fun a u E D hk=>exec_gtn rfl (dD D 1) rfl) ?_
  refine mD 4 5 2 ?_
  refine uC 5 3 rfl (fun a u E D hk hb=>exec_fldo 24 4 4 _ (g) (0) (4) rfl (eE E) (by kernel_rfl) rfl) ?_
  refine uC 6 3 rfl (fun a u E D hk hb=>exec_loadi _ Try.underlying3 _ _ _ rfl ((D 4 7 (by kernel_rfl)).1 hb) (range_int (range_kept HB.out hk) 4 _ rfl)) ?_
  refine uC 7 3 rfl (fun a u E D hk hb=>exec_eqn rfl ((D 5 8 (by kernel_rfl)).1 hb) rfl) ?_
  refine sW 8 rfl (fun a u E D hk=>exec_pickor _ _ _ ((decide ((0 : Int) < (c.stop : Int)))) ((decide ((c.k : Int) = (1 : Int)))) rfl (dD D 3) rfl (fun hb2 => ((D 6 9 (by kernel_rfl)).1 hb2))) ?_
  refine mD 9 10 7 ?_
  refine uC 10 8 rfl (fun a u E D hk hb=>exec_fldo 24 4 4 _ (g) (0) (4) rfl (eE E) (by kernel_rfl) rfl) ?_
  refine uC 11 8 rfl (fun a u E D hk hb=>exec_loadi _ Try.underlying3 _ _ _ rfl ((D 9 12 (by kernel_rfl)).1 hb) (range_int (range_kept HB.out hk) 4 _ rfl)) ?_
  refine uC 12 8 rfl (fun a u E D hk hb=>exec_eqn rfl ((D 10 13 (by kernel_rfl)).1 hb) rfl) ?_
  refine sW 13 rfl (fun a u E D hk=>exec_pickor _ _ _ (((decide ((0 : Int) < (c.stop : Int))) || (decide ((c.k : Int) = (1 : Int))))) ((decide ((c.k : Int) = (5 : Int)))) rfl (dD D 8) rfl (fun hb2 => ((D 11 14 (by kernel_rfl)).1 hb2))) ?_
  refine mD 14 15 12 ?_
  exact fz
 intro gv w2 hV k2
 simp only [Fz7]
 rw [gQ hV 13 2 (.bool (((decide ((0 : Int) < (c.stop : Int))) || (decide ((c.k : Int) = (1 : Int)))) || (decide ((c.k : Int) = (5 : Int)))))]
 clear hV
 go_wp2
 go_ret
 exact ⟨rfl, k1.trans k2⟩
theorem built_mk (q : Nat) : Try.prog.built 66 [(0, .pointer (some ⟨q, 0, none⟩))] = some (mkCells q (.slice none 0 0)).toArray := by kernel_rfl
theorem mnew_any (w : World) : Calls Try.prog 26 #[] w fun e w' => ∃ p F, e = .returned (.pointer (some ⟨p, 0, none⟩)) ∧ Mk w' F p Mkt.zero ∧ Grow w (fun _ => False) F ∧ Kept w w' := by
 go_enter Try.func26, Try.ntmps26
 go_upto_region 1 with fail
 refine wp_region_lit ?_
 refine l_call 44 #[] rfl (exec_call 44 _ [] _ _ Try.func44 (by kernel_rfl) (by kernel_rfl) rfl (by kernel_rfl) _) ?_
 refine (bnew_any w).mono ?_
 rintro r w1 ⟨q, F, rfl, hK1, hG1, k1⟩
 refine ⟨_, rfl, ?_⟩
 simp only [Act.put, sA, sS, sZ]
 refine l_val (.agg (mkCells q (.slice none 0 0)).toArray) rfl (exec_build 66 [(0, .tmp 1)] (mkCells q (.slice none 0 0)) rfl (by simp only [List.map_cons, List.map_nil]; exact built_mk q)) ?_
 simp only [Act.put, sA, sS, sZ]
 refine l_new (.pointer (some ⟨w1.heap.size, 0, none⟩)) _ rfl (exec_box 66 (.tmp 2) (mkCells q (.slice none 0 0)) rfl (by kernel_rfl)) ?_
 have hN2 := Blk.new w1 66 (mkCells q (.slice none 0 0))
 have k2 : Kept w1 (w1.alloc (.cells (mkCells q (.slice none 0 0)).toArray 66)) := (Keep.refl _ w1).alloc _
 generalize w1.alloc (.cells (mkCells q (.slice none 0 0)).toArray 66) = w2 at hN2 k2 ⊢
 simp only [Act.put, sA, sS, sZ]
 refine l_val (.pointer (some ⟨w1.heap.size, 0, none⟩)) rfl (exec_assign _ _ rfl (by kernel_rfl)) ?_
 simp only [Act.put, List.setIfInBounds_toArray, List.set_cons_zero]
 refine wpList_nil ?_
 obtain ⟨g, hg⟩ : ∃ x, w1.heap.size = x := ⟨_, rfl⟩
 rw [hg] at hN2 ⊢
 have z1 := k1.size
 have hP : MkP w2 g q (.slice none 0 0) F Mkt.zero := ⟨hN2, hK1.kept k2, Sl.nil _ _ _, fun h => by have := hK1.lt g h; omega, fun b hb => by simp [Value.ownBlock] at hb⟩
 go_wp2
 go_ret
 exact ⟨g, _, rfl, hP.close, fun b hb => by
  rcases hb with (hb | hb) | hb
  ·exact .inr (by omega)
  ·simp [Value.ownBlock] at hb
  ·exact hG1 b hb, k1.trans k2⟩
set_option maxRecDepth 100000 in
set_option maxHeartbeats 3200000 in
theorem enter_any (w : World) (Fb : Nat → Prop) (p q : Nat) (v : Value) (B : Bok) (e : Ord) (hB : Blk w p 66 (mkCells q v)) (hK : Bk w Fb q B) (hp : ¬ Fb p) (hI : Inv B) (hno : B.no ≤ 1000000000000) :
  Calls Try.prog 60 #[.pointer (some ⟨p, 0, none⟩), e.v] w (AddIn w Fb q (B.enter e)) := by
 have hFl := hK.lt
 have HB := Lib.hid hB
 have HK := Lib.hid hK
 have HI := Lib.hid hI
 have hpl := hB.lt
 obtain ⟨y, hy⟩ : ∃ y, B.enter e = y := ⟨_, rfl⟩
 obtain ⟨x, B2, hX⟩ : ∃ x B2, B.add e.free = (x, B2) := ⟨_, _, rfl⟩
 have HY : Hid (y = ({ x with o := e }, B2)) := by show _ = _; rw [← hy]; unfold Bok.enter; rw [hX]
 have HX := Lib.hid hX
 rw [hy]
 clear hB hK hI hX hy
 go_enter Try.func60, Try.ntmps60
 go_upto_region 0 with fail
 refine wp_text 2 [.fresh w.heap.size 24 (e.cells), .fresh w.heap.size 54 (zeroC.cells (.slice none 0 0))] rfl (by kernel_rfl) ?_ ?_
 ·refine nW 1 rfl (fun a u E D hk=>⟨_, _, exec_box 24 _ (e.cells) rfl (eE E), ⟨_, rfl, hk.size, Blk.new u _ _⟩, ((Keep.refl _ u).alloc _)⟩) ?_
  refine nW 2 rfl (fun a u E D hk=>⟨_, _, exec_alc 54 (zeroC.cells (.slice none 0 0)) rfl zC, ⟨_, rfl, hk.size, Blk.new u _ _⟩, ((Keep.refl _ u).alloc _)⟩) ?_
  exact fz
 intro gv w0 hV k0
 rw [dq 2 [3,4]]
 simp only [Fz7]
 have hv3 : (.fresh w.heap.size 24 (e.cells) : Kn).p (gv 3) w0 := hV 0 3 (by kernel_rfl)
 generalize gv 3 = v3 at hv3 ⊢
 have hv4 : (.fresh w.heap.size 54 (zeroC.cells (.slice none 0 0)) : Kn).p (gv 4) w0 := hV 1 4 (by kernel_rfl)
 generalize gv 4 = v4 at hv4 ⊢
 clear hV
 obtain ⟨b3, rfl, hb3, hB3⟩ := hv3
 obtain ⟨b4, rfl, hb4, hB4⟩ := hv4
 refine wpList_nil ?_
 have HO0 := Lib.hid (blk_range hB3)
 have HB40 := Lib.hid hB4
 have l3 := hB3.lt
 have l4 := hB4.lt
 have z0 := k0.size
 clear hB3 hB4
 go_upto_region 1 with fail
 refine wEp 1 [e.v] [7] ?_ ?_
 ·refine sE 1 3 b3 0 e.cells Try.underlying24 (fun u hk=>range_kept HO0.out hk) (by rw [e.len9]; exact ord_size) ?_
  exact fz
 intro w1 k1
 simp only [F8]
 refine l_new (.pointer (some ⟨w1.heap.size, 0, none⟩)) (w1.alloc (.cells zeroO.cells.toArray 24)) rfl (exec_alc 24 zeroO.cells rfl zO) ?_
 have hNw2 := Blk.new w1 24 zeroO.cells
 have kw2 : Kept w1 (w1.alloc (.cells zeroO.cells.toArray 24)) := (Keep.refl _ w1).alloc _
 generalize w1.alloc (.cells zeroO.cells.toArray 24) = w2 at hNw2 kw2 ⊢
 simp only [Act.put, sA, sS, sZ]
 refine l_setS 24 w1.heap.size 24 zeroO.cells e.cells _ _ rfl rfl (by kernel_rfl) (by kernel_rfl) (hNw2) (by rw [Ord.len9]; exact ord_size) (by rw [Ord.len9, Ord.len9]) (Ord.one1 _) ?_
 intro w3 hCw3 hkw3 hsw3
 simp only [Act.put]
 refine wpList_nil ?_
 obtain ⟨b5, h5⟩ : ∃ x, w1.heap.size = x := ⟨_, rfl⟩
 rw [h5] at hNw2 hCw3 hkw3 ⊢
 have z1 := k1.size
 have k03 : Kept w0 w3 := (k1.trans kw2).trans' hkw3 (by omega)
 have l5 := hCw3.lt
 have HB53 := Lib.hid hCw3
 have HB43 := Lib.hid (HB40.out.kept k03)
 have HO3 := Lib.hid (range_kept HO0.out k03)
 clear hNw2 hCw3 hkw3 hsw3 kw2 k1 HO0 HB40
 have hfree : stc (e.l.set 8 0) [] = e.free.cells := rfl
 go_upto_region 2 with fail
 refine wEp 1 [pV b5 8] [8] ?_ ?_
 ·refine fE 1 5 24 8 8 0 ?_
  exact fz
 intro w4a kw4a
 simp only [F8]
 refine l_setf b5 8 24 e.l [] 0 _ (.const (.int .i64 0)) rfl rfl (by kernel_rfl) rfl (HB53.out.kept kw4a) (by simp [Ord.l]) ?_
 intro w4 hBw4 hkw4 hsw4
 simp only [Act.put]
 refine wpList_nil ?_
 have HBw4 : Hid (Blk w4 b5 24 e.free.cells) := by show Blk _ _ _ _; rw [← hfree]; exact hBw4
 have Kw4 : Kept w3 w4a := kw4a
 have K4 : Kept w w4 := (k0.trans (k03.trans Kw4)).trans' hkw4 (by omega)
 have hsz4 := K4.size
 have z3 := k03.size
 have zw4 := Kw4.size
 have HB44 := Lib.hid ((HB43.out.kept Kw4).keep hkw4 (fun e => by omega))
 have HO4 := Lib.hid (range_keep (range_kept HO3.out Kw4) hkw4 (fun e => by omega))
 have HF4 := Lib.hid (blk_range HBw4.out)
 have HQ4 : Hid (w4.cell? ⟨p, 0, none⟩ = some (.pointer (some ⟨q, 0, none⟩))) := (HB.out.kept K4).cell 0
 have HK4 := Lib.hid (HK.out.kept K4)
 have h5F : ¬ Fb b5 := fun h => by have := hFl b5 h; omega
 have h3F : ¬ Fb b3 := fun h => by have := hFl b3 h; omega
 have h4F : ¬ Fb b4 := fun h => by have := hFl b4 h; omega
 have h34 : b3 < w4.heap.size := by omega
 have h44 : b4 < w4.heap.size := by omega
 clear HB53 HB43 HO3 hBw4 hkw4 hsw4 Kw4 k03 k0 HBw4
 go_upto_region 3 with fail
 go_cut [9, 10, 11, 12, 13, 14, 6] (fun _ _ _ _ _ _ r6 wx => ∃ b6 F2 vf, r6 = .pointer (some ⟨b6, 0, none⟩) ∧ w4.heap.size ≤ b6 ∧ Blk wx b6 54 (x.cells vf) ∧ Bk wx F2 q B2 ∧ ¬ F2 b6 ∧ Sl wx 61 21 vf x.f.length (fls x.f) ∧ (∀ b, vf.ownBlock = some b → w4.heap.size ≤ b ∧ ¬ F2 b ∧ b ≠ b6) ∧ Grow w4 Fb F2 ∧ Keep Fb w4 wx)
 case first =>
  refine wp_tree (fun u => Keep Fb w4 u) (.val 0 (.val 1 (.val 2 (.val 3 (.val 4 (.two 5 6 (.one 6 (.one 7 .done)) (.one 5 (.one 7 .done)))))))) rfl (by kernel_rfl) (Keep.drew (Keep.refl _ w4)) ?_
  refine t_val (o := ⟨some 9, _, _, _, _, _⟩) (.pointer (some ⟨p, 0, none⟩)) rfl rfl (fun u hu => exec_move (.tmp 0) (.pointer (some ⟨p, 0, none⟩)) rfl (by kernel_rfl)) ?_
  simp only [Act.put, sA, sS, sZ]
  refine t_val (o := ⟨some 10, _, _, _, _, _⟩) (.pointer (some ⟨p, 0, none⟩)) rfl rfl (fun u hu => exec_nilp (.tmp 9) ⟨p, 0, none⟩ rfl (by kernel_rfl)) ?_
  simp only [Act.put, sA, sS, sZ]
  refine t_val (o := ⟨some 11, _, _, _, _, _⟩) (.pointer (some ⟨p, 0, none⟩)) rfl rfl (fun u hu => exec_fldo 66 0 0 (.tmp 10) p 0 0 rfl (by kernel_rfl) (by kernel_rfl) rfl) ?_
  simp only [Act.put, sA, sS, sZ]
  refine t_val (o := ⟨some 12, _, _, _, _, _⟩) (.pointer (some ⟨q, 0, none⟩)) rfl rfl (fun u hu => exec_ldp 33 _ Try.underlying33 (.tmp 11) ⟨p, 0, none⟩ (.pointer (some ⟨q, 0, none⟩)) rfl (by kernel_rfl) (Keep.cell hu HQ4.out hp)) ?_
  simp only [Act.put, sA, sS, sZ]
  refine t_val (o := ⟨some 13, _, _, _, _, _⟩) (e.free.v) rfl rfl (fun u hu => exec_ldS 24 _ (.tmp 5) b5 0 e.free.cells rfl (by kernel_rfl) (range_keep HF4.out hu h5F) Try.underlying24 (by rw [Ord.len9]; exact ord_size)) ?_
  simp only [Act.put, sA, sS, sZ]
  refine ⟨?_, ?_⟩
  ·skip
   refine t_call (o := ⟨some 14, _, _, _, _, _⟩) 71 #[.pointer (some ⟨q, 0, none⟩), e.free.v] rfl rfl (exec_call 71 _ [.tmp 12, .tmp 13] _ _ Try.func71 (by kernel_rfl) (by kernel_rfl) rfl (by kernel_rfl)) ?_
   refine (badd_any w4.drew Fb q B e.free (HK4.out.kept (Keep.drew (Keep.refl _ w4))) HI.out hno).mono ?_
   rintro r w5 ⟨F2, vf, rfl, hKw5, hFw5, hOw5, hGw5, hkw5⟩
   rw [HX.out] at hKw5 hFw5 ⊢
   have HSSw5 : Keep Fb w4 w5 := Keep.undrew hkw5
   refine ⟨_, rfl, HSSw5, ?_⟩
   simp only [Act.put, sA, sS, sZ]
   refine t_new (o := ⟨some 6, _, _, _, _, _⟩) (.pointer (some ⟨w5.heap.size, 0, none⟩)) (w5.alloc (.cells (zeroC.cells (.slice none 0 0)).toArray 54)) rfl rfl (exec_alc 54 (zeroC.cells (.slice none 0 0)) rfl zC) ?_ ?_
   ·exact (HSSw5).alloc _
   have hN := Blk.new w5 54 (zeroC.cells (.slice none 0 0))
   have kN : Kept w5 (w5.alloc (.cells (zeroC.cells (.slice none 0 0)).toArray 54)) := (Keep.refl _ w5).alloc _
   have zN : w5.heap.size < (w5.alloc (.cells (zeroC.cells (.slice none 0 0)).toArray 54)).heap.size := hN.lt
   generalize w5.alloc (.cells (zeroC.cells (.slice none 0 0)).toArray 54) = w5b at hN kN zN ⊢
   simp only [Act.put, sA, sS, sZ]
   refine t_setS (o := ⟨none, _, _, _, _, _⟩) 54 w5.heap.size 54 (zeroC.cells (.slice none 0 0)) (x.cells vf) (.tmp 6) (.tmp 14) rfl rfl rfl (by kernel_rfl) (by kernel_rfl) (hN) (by rw [Oc.len15]; exact szC) (by rw [Oc.len15, Oc.len15]) (Oc.one _ _ (sl_onec hFw5)) ?_
   intro w6 hC6 hk6
   have K6 : Keep (· = w5.heap.size) w5 w6 := Keep.any kN hk6
   have zz := HSSw5.size
   have hF5 := hKw5.lt
   have K46 : Keep Fb w4 w6 := HSSw5.new K6 zz
   refine ⟨K46, t_done ?_⟩
   simp only [Act.put]
   refine wpList_nil ?_
   go_wp2
   go_meet
   case rel => exact ⟨w5.heap.size, F2, vf, rfl, zz, hC6, hKw5.keep K6 (fun b hb e => by have := hF5 b hb; omega), fun h => by have := hF5 _ h; omega, hFw5.keep K6 (fun b hb e => by have := hFw5.lt hb; omega), fun b hb => ⟨(hOw5 b hb).1, (hOw5 b hb).2, fun e => by have := hFw5.lt hb; omega⟩, hGw5, K46⟩
  ·skip
   have HSSw4 : Keep Fb w4 w4.drew := Keep.drew (Keep.refl _ w4)
   refine t_new (o := ⟨some 6, _, _, _, _, _⟩) (.pointer (some ⟨w4.drew.heap.size, 0, none⟩)) (w4.drew.alloc (.cells (zeroC.cells (.slice none 0 0)).toArray 54)) rfl rfl (exec_alc 54 (zeroC.cells (.slice none 0 0)) rfl zC) ?_ ?_
   ·exact (HSSw4).alloc _
   have hN := Blk.new w4.drew 54 (zeroC.cells (.slice none 0 0))
   have kN : Kept w4.drew (w4.drew.alloc (.cells (zeroC.cells (.slice none 0 0)).toArray 54)) := (Keep.refl _ w4.drew).alloc _
   have zN : w4.drew.heap.size < (w4.drew.alloc (.cells (zeroC.cells (.slice none 0 0)).toArray 54)).heap.size := hN.lt
   generalize w4.drew.alloc (.cells (zeroC.cells (.slice none 0 0)).toArray 54) = w4b at hN kN zN ⊢
   simp only [Act.put, sA, sS, sZ]
   refine t_call (o := ⟨some 14, _, _, _, _, _⟩) 71 #[.pointer (some ⟨q, 0, none⟩), e.free.v] rfl rfl (exec_call 71 _ [.tmp 12, .tmp 13] _ _ Try.func71 (by kernel_rfl) (by kernel_rfl) rfl (by kernel_rfl)) ?_
   refine (badd_any w4b Fb q B e.free (HK4.out.kept (Kept.trans (Keep.drew (Keep.refl _ w4)) kN)) HI.out hno).mono ?_
   rintro r w5 ⟨F2, vf, rfl, hKw5, hFw5, hOw5, hGw5, hkw5⟩
   rw [HX.out] at hKw5 hFw5 ⊢
   have k44 : Kept w4 w4b := Kept.trans (Keep.drew (Keep.refl _ w4)) kN
   have HSSw5 : Keep Fb w4 w5 := Keep.any k44 hkw5
   have hnF : ¬ Fb w4.drew.heap.size := fun h => by have := hFl _ h; have : w4.drew.heap.size = w4.heap.size := rfl; omega
   have hN5 := hN.keep hkw5 hnF
   have hd : w4.drew.heap.size = w4.heap.size := rfl
   refine ⟨_, rfl, HSSw5, ?_⟩
   simp only [Act.put, sA, sS, sZ]
   refine t_setS (o := ⟨none, _, _, _, _, _⟩) 54 w4.drew.heap.size 54 (zeroC.cells (.slice none 0 0)) (x.cells vf) (.tmp 6) (.tmp 14) rfl rfl rfl (by kernel_rfl) (by kernel_rfl) (hN5) (by rw [Oc.len15]; exact szC) (by rw [Oc.len15, Oc.len15]) (Oc.one _ _ (sl_onec hFw5)) ?_
   intro w6 hC6 hk6
   have hF2 : ¬ F2 w4.drew.heap.size := fun h => (hGw5 _ h).elim hnF (fun h => by omega)
   have zz := HSSw5.size
   have K46 : Keep Fb w4 w6 := HSSw5.new hk6 (by omega)
   refine ⟨K46, t_done ?_⟩
   simp only [Act.put]
   refine wpList_nil ?_
   go_wp2
   go_meet
   case rel => exact ⟨w4.drew.heap.size, F2, vf, rfl, by omega, hC6, hKw5.keep hk6 (fun b hb e => hF2 (by rw [← e]; exact hb)), hF2, hFw5.keep hk6 (fun b hb e => by have := (hOw5 b hb).1; omega), fun b hb => ⟨by have := (hOw5 b hb).1; omega, (hOw5 b hb).2, fun e => by have := (hOw5 b hb).1; omega⟩, fun b hb => (hGw5 b hb).imp id (fun h => by omega), K46⟩
 obtain ⟨b6, F2, vf, rfl, hb6, hC, hK, hn6, hS, hO, hG, hk⟩ := hcut
 have HCx := Lib.hid hC
 have HKx := Lib.hid hK
 have HSx := Lib.hid hS
 have HOx := Lib.hid hO
 have h4F2 : ¬ F2 b4 := fun h => (hG b4 h).elim h4F (fun h => by omega)
 have HOo := Lib.hid (range_keep HO4.out hk h3F)
 have HB4x := Lib.hid (HB44.out.keep hk h4F)
 have zx := hk.size
 have HG : Hid (Grow w Fb F2) := hG.wide hsz4
 have KX : Keep Fb w wc := Keep.any K4 hk
 clear hC hK hS hO hG hk HO4 HB44 HF4 HQ4 HK4
 go_upto_region 4 with fail
 refine wEp 2 [e.v, pV b6 0] [15,16] ?_ ?_
 ·refine sE 1 3 b3 0 e.cells Try.underlying24 (fun u hk=>range_kept HOo.out hk) (by rw [e.len9]; exact ord_size) ?_
  refine fE 2 6 54 0 0 0 ?_
  exact fz
 intro wd kd
 simp only [F8]
 refine l_setO b6 54 e (x.cells vf) _ _ rfl rfl (by kernel_rfl) (by kernel_rfl) (HCx.out.kept kd) (by rw [Oc.len15]; omega) ?_
 intro we hCe hke
 simp only [Act.put]
 refine wpList_nil ?_
 have hCe' : Blk we b6 54 (({ x with o := e } : Oc).cells vf) := by
  have : (x.cells vf).drop 9 = (({ x with o := e } : Oc).cells vf).drop 9 := by
   unfold Oc.cells
   rw [List.drop_append_of_le_length (by rw [Ord.len9]; omega), List.drop_append_of_le_length (by rw [Ord.len9]; omega), List.drop_of_length_le (by rw [Ord.len9]; omega), List.drop_of_length_le (by rw [Ord.len9]; omega)]
  rw [this] at hCe
  have h2 : e.cells ++ (({ x with o := e } : Oc).cells vf).drop 9 = ({ x with o := e } : Oc).cells vf := by
   unfold Oc.cells
   rw [List.drop_append_of_le_length (by rw [Ord.len9]; omega), List.drop_of_length_le (by rw [Ord.len9]; omega)]
   rfl
  rw [h2] at hCe
  exact hCe
 have HCE := Lib.hid hCe'
 have k6e : Keep (· = b6) wc we := Keep.any kd hke
 have HKe := Lib.hid (HKx.out.keep k6e (fun b hb e => hn6 (by rw [← e]; exact hb)))
 have HSe := Lib.hid (HSx.out.keep k6e (fun b hb e => (HOx.out b hb).2.2 e))
 have HB4e := Lib.hid (HB4x.out.keep k6e (fun e => by omega))
 have KE : Keep Fb w we := KX.new k6e (by omega)
 have z6e := k6e.size
 clear hCe hCe' hke kd HCx HKx HSx HB4x HOo KX k6e
 go_upto_region 5 with fail
 refine wEp 1 [({ x with o := e } : Oc).v vf] [17] ?_ ?_
 ·refine sE 1 6 b6 0 (({ x with o := e } : Oc).cells vf) Try.underlying54 (fun u hk=>blk_range (HCE.out.kept hk)) (by rw [Oc.len15]; exact szC) ?_
  exact fz
 intro wf kf
 simp only [F8]
 refine l_setS 54 b4 54 (zeroC.cells (.slice none 0 0)) (({ x with o := e } : Oc).cells vf) _ _ rfl rfl (by kernel_rfl) (by kernel_rfl) (HB4e.out.kept kf) (by rw [Oc.len15]; exact szC) (by rw [Oc.len15, Oc.len15]) (Oc.one _ _ (sl_onec HSe.out)) ?_
 intro wg hCwg hkwg hswg
 simp only [Act.put]
 refine wpList_nil ?_
 go_wp2
 refine bodyPost_ret (results_cell (p := 4) rfl _ _ b4 _ (({ x with o := e } : Oc).cells vf) rfl hCwg Try.underlying54 (by rw [Oc.len15]; exact szC)) rfl ?_
 rw [HY.out]
 exact ⟨F2, vf, rfl, (HKe.out.kept kf).keep hkwg (fun b hb e => h4F2 (by rw [← e]; exact hb)), (HSe.out.kept kf).keep hkwg (fun b hb e => by have := (HOx.out b hb).1; omega), fun b hb => ⟨by have := (HOx.out b hb).1; omega, (HOx.out b hb).2.1⟩, HG.out, (KE.kept kf).new hkwg (by omega)⟩
theorem exec_three1 {a : Act} {o : Oper} {u : World} {t T : TypeId} {bytes : Nat} (ht : SlT t T 1 bytes) (x y s : Operand) (v1 v2 v3 : Value) (hop : o.op = .buildSlice t 3 #[(0, x), (1, y), (2, s)]) (hx : a.eval x = v1) (hy : a.eval y = v2) (hs : a.eval s = v3) (h1 : v1.cells = #[v1]) (h2 : v2.cells = #[v2]) (h3 : v3.cells = #[v3]) :
  (execOp a.eval o).run Try.prog u = .ok (.value (.slice (some ⟨u.heap.size, 0, none⟩) 3 3)) (u.alloc (.cells [v1, v2, v3].toArray T)) := by
 obtain ⟨z, hz, hz2, _⟩ := ht.info
 obtain ⟨i0, hi, hz0, hz1, hzb⟩ := info_parts hz
 unfold execOp
 simp only [hop, List.map_toArray, List.map_cons, List.map_nil, hx, hy, hs]
 have e : Array.map (fun x => z.cells[x % z.cells.size]!) (Array.range (3 * 1)) = #[z.cells[0 % z.cells.size]!, z.cells[1 % z.cells.size]!, z.cells[2 % z.cells.size]!] := by
  apply Array.toList_inj.1
  simp [List.range_succ]
 have hr := run_buildSlice (P := Try.prog) u t T 3 #[(0, v1), (1, v2), (2, v3)] [v1, v2, v3].toArray i0 z ht.und hi hz0 (by rw [hz1]; omega) (by rw [hz1]; omega) (by
  rw [hz1]
  simp only [Instr.fill, h1, h2, h3, e]
  simp)
 simp only [Sem.run_bind, hr, Result.andThen_ok]
 rfl
def Cat3 (w : World) (g : Nat) (X Y W : List Ord) : Prop := ∃ v1 v2 v3, Blk w g 35 [v1, v2, v3] ∧ Sl w 24 9 v1 X.length (ords X) ∧ Sl w 24 9 v2 Y.length (ords Y) ∧ Sl w 24 9 v3 W.length (ords W)
theorem Cat3.kept {w w' : World} {g : Nat} {X Y W : List Ord} (h : Cat3 w g X Y W) (hk : Kept w w') : Cat3 w' g X Y W := by
 obtain ⟨v1, v2, v3, h1, h2, h3, h4⟩ := h
 exact ⟨v1, v2, v3, h1.kept hk, h2.kept hk, h3.kept hk, h4.kept hk⟩
def Kn.cat3 (base : Nat) (X Y W : List Ord) : Kn := ⟨fun v w => ∃ g, v = .slice (some ⟨g, 0, none⟩) 3 3 ∧ base ≤ g ∧ Cat3 w g X Y W, fun _ _ _ ⟨g, h1, h2, h3⟩ hk => ⟨g, h1, h2, h3.kept hk⟩⟩
def cat3P (X Y W : List Ord) (i : Nat) : List Ord := if i = 0 then [] else if i = 1 then X else if i = 2 then X ++ Y else (X ++ Y) ++ W
def cat3E (X Y W : List Ord) (i : Nat) : List Ord := if i = 0 then X else if i = 1 then Y else W
theorem concat3_any (w : World) (g : Nat) (X Y W : List Ord) (h : Cat3 w g X Y W) (hn : X.length + Y.length + W.length ≤ 1000000) : Gives 29 #[.slice (some ⟨g, 0, none⟩) 3 3] w (.sl w.heap.size 24 9 ((X ++ Y) ++ W).length (ords ((X ++ Y) ++ W))) := by
 obtain ⟨v1, v2, v3, hB, h1, h2, h3⟩ := h
 exact concatE_any w g 3 (cat3E X Y W) (cat3P X Y W) (fun i hi => by
  rcases (by omega : i = 0 ∨ i = 1 ∨ i = 2) with rfl | rfl | rfl
  ·exact ⟨v1, hB.cell 0, h1⟩
  ·exact ⟨v2, hB.cell 1, h2⟩
  ·exact ⟨v3, hB.cell 2, h3⟩) rfl (fun i hi => by rcases (by omega : i = 0 ∨ i = 1 ∨ i = 2) with rfl | rfl | rfl <;> rfl) (fun i _ => by
  unfold cat3P
  repeat' split
  all_goals (try simp only [List.length_append, List.length_nil])
  all_goals omega) (by omega)
set_option maxRecDepth 100000 in
theorem mall_any (w : World) (F : Nat → Prop) (p : Nat) (Mm : Mkt) (h : Mk w F p Mm) (hI : Inv Mm.b) (hlen : Mm.w.length ≤ 100000) : Gives 13 #[.pointer (some ⟨p, 0, none⟩)] w (.sl w.heap.size 24 9 Mm.all.length (ords Mm.all)) := by
 obtain ⟨_, q, v, Fb, hP, _⟩ := h
 have HQ : Hid (w.cell? ⟨p, 0, none⟩ = some (.pointer (some ⟨q, 0, none⟩))) := hP.blk.cell 0
 have HV : Hid (w.cell? ⟨p, 1, none⟩ = some v) := hP.blk.cell 1
 have HS := Lib.hid hP.sl
 have HK := Lib.hid hP.bk
 have HI := Lib.hid hI
 have hl1 : (ordsL Mm.b.buys).length ≤ 64 := by rw [ordsL_len]; exact hI.two.mine.few
 have hl2 : (ordsL Mm.b.sells).length ≤ 64 := by rw [ordsL_len]; exact hI.two.theirs.few
 have HLN := Lib.hid (And.intro hl1 hl2)
 clear hP hI hl1 hl2
 go_enter Try.func13, Try.ntmps13
 go_upto_region 1 with fail
 refine wp_free 16 [pE p 0, pE p 0, pE p 0, pE q 0, .sl w.heap.size 24 9 (ordsL (Mm.b.sd 1)).length (ords (ordsL (Mm.b.sd 1))), pE p 0, pE p 0, pE p 0, pE q 0, .sl w.heap.size 24 9 (ordsL (Mm.b.sd 2)).length (ords (ordsL (Mm.b.sd 2))), pE p 0, pE p 0, pE p 1, .eq (v), .cat3 w.heap.size (ordsL Mm.b.buys) (ordsL Mm.b.sells) Mm.w, .sl w.heap.size 24 9 Mm.all.length (ords Mm.all)] (by kernel_rfl) rfl (by kernel_rfl) ?_ ?_
 ·refine mE 1 0 ?_
  refine nD 2 3 0 ?_
  refine fD 3 4 1 66 0 0 0 ?_
  refine sW 4 rfl (fun a u E D hk=>exec_ldp _ _ Try.underlying33 _ _ _ rfl (dD D 2) (Kept.cell hk (HQ.out))) ?_
  refine cS 5 22 [.pointer (some ⟨q, 0, none⟩), .int .i64 1] rfl Try.func22 rfl (fun a u E D hk=>⟨ll (dD D 3) (ll rfl rfl), (borders_any u Fb q Mm.b 1 (HK.out.kept hk) HI.out).base hk.size⟩) ?_
  refine mE 6 0 ?_
  refine nD 7 8 5 ?_
  refine fD 8 9 6 66 0 0 0 ?_
  refine sW 9 rfl (fun a u E D hk=>exec_ldp _ _ Try.underlying33 _ _ _ rfl (dD D 7) (Kept.cell hk (HQ.out))) ?_
  refine cS 10 22 [.pointer (some ⟨q, 0, none⟩), .int .i64 2] rfl Try.func22 rfl (fun a u E D hk=>⟨ll (dD D 8) (ll rfl rfl), (borders_any u Fb q Mm.b 2 (HK.out.kept hk) HI.out).base hk.size⟩) ?_
  refine mE 11 0 ?_
  refine nD 12 13 10 ?_
  refine fD 13 14 11 66 1 1 0 ?_
  refine sW 14 rfl (fun a u E D hk=>exec_ldv _ _ Try.underlying35 _ _ _ rfl (dD D 12) (Kept.cell hk (HV.out))) ?_
  refine nW 15 rfl (fun a u E D hk=>⟨_, _, exec_three1 slOO _ _ _ _ _ v rfl rfl rfl (dD D 13) (sl_cells (D 4 7 (by kernel_rfl)).1) (sl_cells (D 9 12 (by kernel_rfl)).1) (sl_cells HS.out), ⟨u.heap.size, rfl, hk.size, _, _, _, Blk.new u _ _, (D 4 7 (by kernel_rfl)).1.kept ((Keep.refl _ u).alloc _), (D 9 12 (by kernel_rfl)).1.kept ((Keep.refl _ u).alloc _), (HS.out.kept hk).kept ((Keep.refl _ u).alloc _)⟩, ((Keep.refl _ u).alloc _)⟩) ?_
  refine fsteps_cons 16 rfl (fun a u hE hD hk => f_call 29 #[a.eval (.tmp 17)] rfl (wanted_none rfl _) (exec_call 29 _ [.tmp 17] _ [a.eval (.tmp 17)] Try.func29 (by kernel_rfl) (by kernel_rfl) rfl rfl u) ((by obtain ⟨gg, hx, hgb, hcat⟩ := (hD 14 17 (by kernel_rfl)); have hd := gives_base (concat3_any u gg _ _ _ hcat (by have := HLN.out; omega)) hk.size; rw [hx]; exact hd))) ?_
  exact fz
 intro gv w1 hV k1
 rw [dq 16 [3,4,5,6,7,8,9,10,11,12,13,14,15,16,17,18]]
 simp only [Fz7]
 have hv18 : (.sl w.heap.size 24 9 Mm.all.length (ords Mm.all) : Kn).p (gv 18) w1 := hV 15 18 (by kernel_rfl)
 generalize gv 18 = v18 at hv18 ⊢
 clear hV
 refine l_val (v18) rfl (exec_assign _ _ rfl (by kernel_rfl)) ?_
 simp only [Act.put, sA, sS, sZ]
 refine wpList_nil ?_
 go_wp2
 go_ret
 exact ⟨_, rfl, hv18, k1⟩
set_option maxRecDepth 100000 in
set_option maxHeartbeats 1600000 in
theorem mfind_any (w : World) (F : Nat → Prop) (p : Nat) (Mm : Mkt) (t i : Int) (h : Mk w F p Mm) (hI : Inv Mm.b) (hlen : Mm.w.length ≤ 100000) : Gives 21 #[.pointer (some ⟨p, 0, none⟩), .int .i64 t, .int .i64 i] w (.eq (.tuple #[(Mm.find t i).1.v, .bool (Mm.find t i).2])) := by
 refine gives_eq ?_
 obtain ⟨_, q, v, Fb, hP, _⟩ := h
 have HQ : Hid (∀ u, Kept w u → u.cell? ⟨p, 0, none⟩ = some (.pointer (some ⟨q, 0, none⟩))) := fun u k => (hP.blk.kept k).cell 0
 have HV : Hid (∀ u, Kept w u → u.cell? ⟨p, 1, none⟩ = some v) := fun u k => (hP.blk.kept k).cell 1
 have HPB := Lib.hid hP.blk
 have HS := Lib.hid hP.sl
 have HK := Lib.hid hP.bk
 have HI := Lib.hid hI
 obtain ⟨x, b, hx⟩ : ∃ x b, Mm.b.find t i = (x, b) := ⟨_, _, rfl⟩
 have HX := Lib.hid hx
 clear hP hI hx
 go_enter Try.func21, Try.ntmps21
 go_upto_region 0 with fail
 refine wp_text 2 [.fresh w.heap.size 24 zeroO.cells, bE false] rfl (by kernel_rfl) ?_ ?_
 ·refine nW 1 rfl (fun a u E D hk=>⟨_, _, exec_alc 24 zeroO.cells rfl zO, ⟨_, rfl, hk.size, Blk.new u _ _⟩, ((Keep.refl _ u).alloc _)⟩) ?_
  refine sW 2 rfl (fun a u E D hk=>exec_assign _ _ rfl rfl) ?_
  exact fz
 intro gv w0 hV k0
 rw [dq 2 [6,7]]
 simp only [Fz7]
 have hv6 : (.fresh w.heap.size 24 zeroO.cells : Kn).p (gv 6) w0 := hV 0 6 (by kernel_rfl)
 generalize gv 6 = v6 at hv6 ⊢
 rw [gQ hV 1 7 (.bool false)]
 clear hV
 obtain ⟨b6, rfl, hb6, hB6⟩ := hv6
 refine wpList_nil ?_
 have HB6 := Lib.hid hB6
 have l6 := hB6.lt
 have z0 := k0.size
 have HQ0 := Lib.hid (HQ.out w0 k0)
 clear hB6
 go_upto_region 1 with fail
 refine wEp 10 [pV p 0, pV p 0, pV p 0, pV q 0, iV t, iV i, .tuple #[x.v, .bool b], .tuple #[x.v, .bool b], x.v, bV b] [12,13,14,15,16,17,18,11,19,20] ?_ ?_
 ·refine mE 1 0 ?_
  refine nD 2 12 0 ?_
  refine fD 3 13 1 66 0 0 0 ?_
  refine sW 4 rfl (fun a u E D hk=>exec_ldp _ _ Try.underlying33 _ _ _ rfl (dD D 2) (Kept.cell hk (HQ0.out))) ?_
  refine mE 5 1 ?_
  refine mE 6 2 ?_
  refine cS 7 35 [.pointer (some ⟨q, 0, none⟩), .int .i64 t, .int .i64 i] rfl Try.func35 rfl (fun a u E D hk=>⟨ll (dD D 3) (ll (dD D 4) (ll (dD D 5) rfl)), (by have h := bfind_any u Fb q Mm.b t i (HK.out.kept (k0.trans hk)) HI.out; rw [HX.out] at h; exact h)⟩) ?_
  refine mD 8 18 6 ?_
  refine sW 9 rfl (fun a u E D hk=>exec_extract _ [x.v, .bool b] 0 (x.v) rfl (dD D 7) rfl) ?_
  refine sW 10 rfl (fun a u E D hk=>exec_extract _ [x.v, .bool b] 1 (.bool b) rfl (dD D 7) rfl) ?_
  exact fz
 intro w1 k1
 simp only [F8]
 refine l_new (.pointer (some ⟨w1.heap.size, 0, none⟩)) (w1.alloc (.cells zeroO.cells.toArray 24)) rfl (exec_alc 24 zeroO.cells rfl zO) ?_
 have hNw2 := Blk.new w1 24 zeroO.cells
 have kw2 : Kept w1 (w1.alloc (.cells zeroO.cells.toArray 24)) := (Keep.refl _ w1).alloc _
 generalize w1.alloc (.cells zeroO.cells.toArray 24) = w2 at hNw2 kw2 ⊢
 simp only [Act.put, sA, sS, sZ]
 refine l_setS 24 w1.heap.size 24 zeroO.cells x.cells _ _ rfl rfl (by kernel_rfl) (by kernel_rfl) (hNw2) (by rw [Ord.len9]; exact ord_size) (by rw [Ord.len9, Ord.len9]) (Ord.one1 _) ?_
 intro w3 hCw3 hkw3 hsw3
 simp only [Act.put]
 refine l_val (.bool b) rfl (exec_assign _ _ rfl (by kernel_rfl)) ?_
 simp only [Act.put, sA, sS, sZ]
 refine wpList_nil ?_
 obtain ⟨b8, h8⟩ : ∃ a, w1.heap.size = a := ⟨_, rfl⟩
 rw [h8] at hNw2 hCw3 hkw3 ⊢
 have z1 := k1.size
 have k13 : Kept w0 w3 := (k1.trans kw2).trans' hkw3 (by omega)
 have K3 : Kept w w3 := k0.trans k13
 have z3 := k13.size
 have HX8 := Lib.hid (blk_range hCw3)
 have HB63 := Lib.hid (HB6.out.kept k13)
 clear hNw2 hCw3 hkw3 hsw3 kw2 k1 k13 HB6 HQ0
 cases b with
 | true =>
  have HR : Hid (Mm.find t i = (x, true)) := by show _ = _; unfold Mkt.find; rw [HX.out]; rfl
  go_upto_region 3 with fail
  refine wEp 1 [x.v] [22] ?_ ?_
  ·refine sE 1 8 b8 0 x.cells Try.underlying24 (fun u hk=>range_kept HX8.out hk) (by rw [x.len9]; exact ord_size) ?_
   exact fz
  intro w4 k4
  simp only [F8]
  refine l_setS 24 b6 24 zeroO.cells x.cells _ _ rfl rfl (by kernel_rfl) (by kernel_rfl) (HB63.out.kept k4) (by rw [Ord.len9]; exact ord_size) (by rw [Ord.len9, Ord.len9]) (Ord.one1 _) ?_
  intro w5 hCw5 hkw5 hsw5
  simp only [Act.put]
  refine l_val (.bool true) rfl (exec_assign _ _ rfl (by kernel_rfl)) ?_
  simp only [Act.put, sA, sS, sZ]
  refine wpList_nil ?_
  go_wp2
  refine bodyPost_ret (results_cell2 (p := 6) (q := 7) rfl _ _ b6 _ x.cells true rfl rfl hCw5 Try.underlying24 (by rw [Ord.len9]; exact ord_size)) rfl ?_
  rw [HR.out]
  exact ⟨rfl, (K3.trans k4).trans' hkw5 (by omega)⟩
 | false =>
  have HR : Hid (Mm.find t i = findO t i Mm.w) := by show _ = _; unfold Mkt.find; rw [HX.out]; rfl
  obtain ⟨j, hj⟩ : ∃ j, placeW (Ord.is t i) Mm.w = j := ⟨_, rfl⟩
  have HJ := Lib.hid hj
  go_upto_region 4 with fail
  refine wE 5 [pV p 0, iV t, iV i, iV j, iV j] [23,24,25,26,10] ?_ ?_
  ·refine mE 1 0 ?_
   refine mE 2 1 ?_
   refine mE 3 2 ?_
   refine cS 4 36 [.pointer (some ⟨p, 0, none⟩), .int .i64 t, .int .i64 i] rfl Try.func36 rfl (fun a u E D hk=>⟨ll (dD D 0) (ll (dD D 1) (ll (dD D 2) rfl)), (by rw [← HJ.out]; exact placeO_any u p q v Mm.w t i (HPB.out.kept (K3.trans hk)) (HS.out.kept (K3.trans hk)) hlen)⟩) ?_
   refine mD 5 26 3 ?_
   exact fz
  intro w4 k4
  simp only [F8]
  have K4 := K3.trans k4
  have HB64 := Lib.hid (HB63.out.kept k4)
  have z4 := k4.size
  clear HB63 HX8 k4
  cases hw : Mm.w[Mm.w.findIdx (Ord.is t i)]? with
  | none =>
   have hj1 : j = -1 := by rw [← hj]; exact place_none hw
   have HE : Hid (findO t i Mm.w = (zeroO, false)) := by show _ = _; unfold findO; rw [hw]
   subst hj1
   clear hj hw
   go_upto_region 5 with fail
   refine wE 2 [iV (-1), bV false] [27,28] ?_ ?_
   ·refine mE 1 10 ?_
    refine aS 2 rfl (fun a u E D hk=>exec_gen rfl (dD D 0) rfl) (by decide) ?_
    exact fz
   intro w5 k5
   simp only [F8]
   have HB65 := Lib.hid (HB64.out.kept k5)
   have z5 := k5.size
   go_upto_region 7 with fail
   refine wEp 1 [zeroO.v] [36] ?_ ?_
   ·refine sW 1 rfl (fun a u E D hk=>exec_build 24 [] zeroO.cells rfl (by kernel_rfl)) ?_
    exact fz
   intro w6 k6
   simp only [F8]
   refine l_setS 24 b6 24 zeroO.cells zeroO.cells _ _ rfl rfl (by kernel_rfl) (by kernel_rfl) (HB65.out.kept k6) (by rw [Ord.len9]; exact ord_size) rfl (Ord.one1 _) ?_
   intro w7 hCw7 hkw7 hsw7
   simp only [Act.put]
   refine l_val (.bool false) rfl (exec_assign _ _ rfl (by kernel_rfl)) ?_
   simp only [Act.put, sA, sS, sZ]
   refine wpList_nil ?_
   go_wp2
   refine bodyPost_ret (results_cell2 (p := 6) (q := 7) rfl _ _ b6 _ zeroO.cells false rfl rfl hCw7 Try.underlying24 (by rw [Ord.len9]; exact ord_size)) rfl ?_
   rw [HR.out, HE.out]
   exact ⟨rfl, ((K4.trans k5).trans k6).trans' hkw7 (by omega)⟩
  | some e =>
   have hj1 : j = (Mm.w.findIdx (Ord.is t i) : Int) := by rw [← hj]; exact place_some hw
   have HE : Hid (findO t i Mm.w = (e, true)) := by show _ = _; unfold findO; rw [hw]
   obtain ⟨n, hn⟩ : ∃ n, Mm.w.length = n := ⟨_, rfl⟩
   obtain ⟨k, hk⟩ : ∃ k, Mm.w.findIdx (Ord.is t i) = k := ⟨_, rfl⟩
   rw [hk] at hj1 hw
   have hkn : k < n := by rw [← hn]; exact (List.getElem?_eq_some_iff.1 hw).1
   subst hj1
   rw [hn] at HS
   obtain ⟨g, off, c, rfl⟩ := HS.out.some_ (by omega)
   have HEr : Hid (∀ u, Kept w u → u.rangeAt g (off + k * 9) e.cells) := fun u ku => range_kept (HS.out.rngO k e hw) ku
   clear hj hw hk hn
   go_upto_region 5 with fail
   refine wE 2 [iV (k : Int), bV true] [27,28] ?_ ?_
   ·refine mE 1 10 ?_
    refine aS 2 rfl (fun a u E D hk=>exec_gen rfl (dD D 0) rfl) (decide_eq_true (by omega)) ?_
    exact fz
   intro w5 k5
   simp only [F8]
   have HB65 := Lib.hid (HB64.out.kept k5)
   have z5 := k5.size
   have K5 := K4.trans k5
   have HV5 := Lib.hid (HV.out w5 K5)
   have HE5 := Lib.hid (HEr.out w5 K5)
   go_upto_region 6 with fail
   refine wEp 7 [pV p 0, pV p 0, pV p 1, .slice (some ⟨g, off, none⟩) n c, iV (k : Int), pV g (off + k * 9), e.v] [29,30,31,32,33,34,35] ?_ ?_
   ·refine mE 1 0 ?_
    refine nD 2 29 0 ?_
    refine fD 3 30 1 66 1 1 0 ?_
    refine sW 4 rfl (fun a u E D hk=>exec_ldv _ _ Try.underlying35 _ _ _ rfl (dD D 2) (Kept.cell hk (HV5.out))) ?_
    refine mE 5 10 ?_
    refine sW 6 rfl (fun a u E D hk=>exec_ixo slO _ _ (g) (off) n c k (off + k * 9) ((k : Int)) rfl (dD D 3) (dD D 4) (by first | rfl | omega) (hkn) (by first | rfl | omega)) ?_
    refine sD 7 34 5 e.cells Try.underlying24 (fun u hk=>range_kept HE5.out hk) (by rw [e.len9]; exact ord_size) ?_
    exact fz
   intro w6 k6
   simp only [F8]
   refine l_setS 24 b6 24 zeroO.cells e.cells _ _ rfl rfl (by kernel_rfl) (by kernel_rfl) (HB65.out.kept k6) (by rw [Ord.len9]; exact ord_size) (by rw [Ord.len9, Ord.len9]) (Ord.one1 _) ?_
   intro w7 hCw7 hkw7 hsw7
   simp only [Act.put]
   refine l_val (.bool true) rfl (exec_assign _ _ rfl (by kernel_rfl)) ?_
   simp only [Act.put, sA, sS, sZ]
   refine wpList_nil ?_
   go_wp2
   refine bodyPost_ret (results_cell2 (p := 6) (q := 7) rfl _ _ b6 _ e.cells true rfl rfl hCw7 Try.underlying24 (by rw [Ord.len9]; exact ord_size)) rfl ?_
   rw [HR.out, HE.out]
   exact ⟨rfl, (K5.trans k6).trans' hkw7 (by omega)⟩
theorem remove_off {B : Bok} {t i : Int} (h : (B.remove t i).2.1 = false) : (B.remove t i).2.2 = B := by
 unfold Bok.remove at h ⊢
 split
 ·rename_i h1
  rw [if_pos h1] at h
  cases h
 ·rename_i h1
  rw [if_neg h1] at h
  split
  ·rename_i h2
   rw [if_pos h2] at h
   cases h
  ·rfl
set_option maxRecDepth 100000 in
set_option maxHeartbeats 1600000 in
theorem mremove_any (w : World) (F : Nat → Prop) (p : Nat) (Mm : Mkt) (t i : Int) (h : Mk w F p Mm) (hI : Inv Mm.b) (hlen : Mm.w.length ≤ 100000) : Calls Try.prog 23 #[.pointer (some ⟨p, 0, none⟩), .int .i64 t, .int .i64 i] w fun r w' => ∃ F', r = .returned (.tuple #[(Mm.remove t i).1.v, .bool (Mm.remove t i).2.1]) ∧ Mk w' F' p (Mm.remove t i).2.2 ∧ Grow w F F' ∧ Keep F w w' := by
 obtain ⟨hFl, q, v, Fb, hP, hfF⟩ := h
 have hft := hP.foot_lt
 have HPP := Lib.hid hP
 have HQ : Hid (∀ u, Kept w u → u.cell? ⟨p, 0, none⟩ = some (.pointer (some ⟨q, 0, none⟩))) := fun u k => (hP.blk.kept k).cell 0
 have HI := Lib.hid hI
 have HFF := Lib.hid hfF
 obtain ⟨x, b, B2, hx⟩ : ∃ x b B2, Mm.b.remove t i = (x, b, B2) := ⟨_, _, _, rfl⟩
 have HX := Lib.hid hx
 have hpl := hP.blk.lt
 have hFbl := hP.bk.lt
 clear hP hI hx
 go_enter Try.func23, Try.ntmps23
 go_upto_region 0 with fail
 refine wp_text 2 [.fresh w.heap.size 24 zeroO.cells, bE false] rfl (by kernel_rfl) ?_ ?_
 ·refine nW 1 rfl (fun a u E D hk=>⟨_, _, exec_alc 24 zeroO.cells rfl zO, ⟨_, rfl, hk.size, Blk.new u _ _⟩, ((Keep.refl _ u).alloc _)⟩) ?_
  refine sW 2 rfl (fun a u E D hk=>exec_assign _ _ rfl rfl) ?_
  exact fz
 intro gv w0 hV k0
 rw [dq 2 [6,7]]
 simp only [Fz7]
 have hv6 : (.fresh w.heap.size 24 zeroO.cells : Kn).p (gv 6) w0 := hV 0 6 (by kernel_rfl)
 generalize gv 6 = v6 at hv6 ⊢
 rw [gQ hV 1 7 (.bool false)]
 clear hV
 obtain ⟨b6, rfl, hb6, hB6⟩ := hv6
 refine wpList_nil ?_
 have HB6 := Lib.hid hB6
 have l6 := hB6.lt
 have z0 := k0.size
 have HQ0 := Lib.hid (HQ.out w0 k0)
 have h6F : ¬ Fb b6 := fun h => by have := hFbl b6 h; omega
 clear hB6
 go_upto_region 1 with fail
 refine wEp 6 [pV p 0, pV p 0, pV p 0, pV q 0, iV t, iV i] [12,13,14,15,16,17] ?_ ?_
 ·refine mE 1 0 ?_
  refine nD 2 12 0 ?_
  refine fD 3 13 1 66 0 0 0 ?_
  refine sW 4 rfl (fun a u E D hk=>exec_ldp _ _ Try.underlying33 _ _ _ rfl (dD D 2) (Kept.cell hk (HQ0.out))) ?_
  refine mE 5 1 ?_
  refine mE 6 2 ?_
  exact fz
 intro w1 k1
 simp only [F8]
 refine l_call 39 #[.pointer (some ⟨q, 0, none⟩), .int .i64 t, .int .i64 i] rfl (exec_call 39 _ [.tmp 15, .tmp 16, .tmp 17] _ _ Try.func39 (by kernel_rfl) (by kernel_rfl) rfl (by kernel_rfl) _) ?_
 refine (bremove_any w1 Fb q Mm.b t i (HPP.out.bk.kept (k0.trans k1)) HI.out).mono ?_
 rintro r w2 ⟨F2, rfl, hK2, hG2, hk2⟩
 rw [HX.out] at hK2
 refine ⟨.tuple #[x.v, .bool b], by rw [HX.out], ?_⟩
 simp only [Act.put, sA, sS, sZ]
 refine l_val (.tuple #[x.v, .bool b]) rfl (exec_move _ _ rfl (by kernel_rfl)) ?_
 simp only [Act.put, sA, sS, sZ]
 refine l_val (x.v) rfl (exec_extract (.tmp 11) [x.v, .bool b] 0 (x.v) rfl (by kernel_rfl) rfl) ?_
 simp only [Act.put, sA, sS, sZ]
 refine l_val (.bool b) rfl (exec_extract (.tmp 11) [x.v, .bool b] 1 (.bool b) rfl (by kernel_rfl) rfl) ?_
 simp only [Act.put, sA, sS, sZ]
 refine l_new (.pointer (some ⟨w2.heap.size, 0, none⟩)) (w2.alloc (.cells zeroO.cells.toArray 24)) rfl (exec_alc 24 zeroO.cells rfl zO) ?_
 have hNw3 := Blk.new w2 24 zeroO.cells
 have kw3 : Kept w2 (w2.alloc (.cells zeroO.cells.toArray 24)) := (Keep.refl _ w2).alloc _
 generalize w2.alloc (.cells zeroO.cells.toArray 24) = w3 at hNw3 kw3 ⊢
 simp only [Act.put, sA, sS, sZ]
 refine l_setS 24 w2.heap.size 24 zeroO.cells x.cells _ _ rfl rfl (by kernel_rfl) (by kernel_rfl) (hNw3) (by rw [Ord.len9]; exact ord_size) (by rw [Ord.len9, Ord.len9]) (Ord.one1 _) ?_
 intro w4 hCw4 hkw4 hsw4
 simp only [Act.put]
 refine l_val (.bool b) rfl (exec_assign _ _ rfl (by kernel_rfl)) ?_
 simp only [Act.put, sA, sS, sZ]
 refine wpList_nil ?_
 obtain ⟨b8, h8⟩ : ∃ a, w2.heap.size = a := ⟨_, rfl⟩
 rw [h8] at hNw3 hCw4 hkw4 ⊢
 have z1 := k1.size
 have z2 := hk2.size
 have l8 := hCw4.lt
 have k24 : Kept w2 w4 := kw3.trans' hkw4 (by omega)
 have HX8 := Lib.hid (blk_range hCw4)
 have HB64 := Lib.hid (((HB6.out.kept k1).keep hk2 h6F).kept k24)
 have K4 : Keep Fb w w4 := (Keep.any (k0.trans k1) hk2).kept k24
 have HG : Hid (Grow w Fb F2) := hG2.wide (k0.trans k1).size
 have hbl : p ≠ b6 := by omega
 have HB4 := Lib.hid (HPP.out.blk.keep K4 HPP.out.nb)
 have HS4 := Lib.hid (HPP.out.sl.keep K4 (fun b hb => (HPP.out.nv b hb).2))
 have HK4 := Lib.hid (hK2.kept k24)
 have z4 := K4.size
 have h6F2 : ¬ F2 b6 := fun h => (hG2 b6 h).elim h6F (fun h => by omega)
 have hpF2 : ¬ F2 p := fun h => (HG.out p h).elim HPP.out.nb (fun h => by omega)
 have hvF2 : Hid (∀ b, v.ownBlock = some b → b ≠ p ∧ ¬ F2 b) := fun b hb => ⟨(HPP.out.nv b hb).1, fun h => (HG.out b h).elim (HPP.out.nv b hb).2 (fun h => by have := HPP.out.sl.lt hb; omega)⟩
 have hGG : Hid (Grow w F (foot p v F2)) := fun b hb => by
  rcases hb with hb | hb
  ·exact .inl (HFF.out b (.inl hb))
  ·exact (HG.out b hb).imp (fun h => HFF.out b (.inr h)) id
 have hKF : Keep F w w4 := K4.mono (fun b _ hb => HFF.out b (.inr hb))
 have h6v : ∀ b, v.ownBlock = some b → b ≠ b6 := fun b hb e => by have := HPP.out.sl.lt hb; omega
 have H6v := Lib.hid h6v
 clear hK2 hG2 hk2 hNw3 hCw4 hkw4 hsw4 kw3 k24 HB6 HQ0 k1 h6v
 cases b with
 | true =>
  have HR : Hid (Mm.remove t i = (x, true, ⟨B2, Mm.w⟩)) := by show _ = _; unfold Mkt.remove; rw [HX.out]; rfl
  go_upto_region 3 with fail
  refine wEp 1 [x.v] [22] ?_ ?_
  ·refine sE 1 8 b8 0 x.cells Try.underlying24 (fun u hk=>range_kept HX8.out hk) (by rw [x.len9]; exact ord_size) ?_
   exact fz
  intro w5 k5
  simp only [F8]
  refine l_setS 24 b6 24 zeroO.cells x.cells _ _ rfl rfl (by kernel_rfl) (by kernel_rfl) (HB64.out.kept k5) (by rw [Ord.len9]; exact ord_size) (by rw [Ord.len9, Ord.len9]) (Ord.one1 _) ?_
  intro w6 hCw6 hkw6 hsw6
  simp only [Act.put]
  refine l_val (.bool true) rfl (exec_assign _ _ rfl (by kernel_rfl)) ?_
  simp only [Act.put, sA, sS, sZ]
  refine wpList_nil ?_
  go_wp2
  refine bodyPost_ret (results_cell2 (p := 6) (q := 7) rfl _ _ b6 _ x.cells true rfl rfl hCw6 Try.underlying24 (by rw [Ord.len9]; exact ord_size)) rfl ?_
  rw [HR.out]
  have hP : MkP w6 p q v F2 ⟨B2, Mm.w⟩ := ⟨(HB4.out.kept k5).keep hkw6 hbl, (HK4.out.kept k5).keep hkw6 (fun b hb e => h6F2 (by rw [← e]; exact hb)), (HS4.out.kept k5).keep hkw6 (fun b hb => H6v.out b hb), hpF2, hvF2.out⟩
  have z5 := k5.size
  have KF : Keep F w w6 := (hKF.kept k5).new hkw6 (by omega)
  first | exact ⟨rfl, _, hP.close, hGG.out, KF⟩ | exact ⟨_, rfl, hP.close, hGG.out, KF⟩
 | false =>
  have hB2 : B2 = Mm.b := by have := remove_off (B := Mm.b) (t := t) (i := i) (by rw [HX.out]); rw [HX.out] at this; exact this
  subst hB2
  obtain ⟨j, hj⟩ : ∃ j, placeW (Ord.is t i) Mm.w = j := ⟨_, rfl⟩
  have HJ := Lib.hid hj
  go_upto_region 4 with fail
  refine wE 5 [pV p 0, iV t, iV i, iV j, iV j] [23,24,25,26,10] ?_ ?_
  ·refine mE 1 0 ?_
   refine mE 2 1 ?_
   refine mE 3 2 ?_
   refine cS 4 36 [.pointer (some ⟨p, 0, none⟩), .int .i64 t, .int .i64 i] rfl Try.func36 rfl (fun a u E D hk=>⟨ll (dD D 0) (ll (dD D 1) (ll (dD D 2) rfl)), (by rw [← HJ.out]; exact placeO_any u p q v Mm.w t i (HB4.out.kept hk) (HS4.out.kept hk) hlen)⟩) ?_
   refine mD 5 26 3 ?_
   exact fz
  intro w5 k5
  simp only [F8]
  have HB5 := Lib.hid (HB4.out.kept k5)
  have HS5 := Lib.hid (HS4.out.kept k5)
  have HK5 := Lib.hid (HK4.out.kept k5)
  have HB65 := Lib.hid (HB64.out.kept k5)
  have KF5 := hKF.kept k5
  have K5 := K4.kept k5
  have z5 := k5.size
  clear HB4 HS4 HK4 HB64 HX8 k5 hKF K4
  cases hw : Mm.w[Mm.w.findIdx (Ord.is t i)]? with
  | none =>
   have hj1 : j = -1 := by rw [← hj]; exact place_none hw
   have HR : Hid (Mm.remove t i = (zeroO, false, Mm)) := by show _ = _; unfold Mkt.remove; rw [HX.out, hw]; rfl
   subst hj1
   clear hj hw
   go_upto_region 5 with fail
   refine wE 2 [iV (-1), bV false] [27,28] ?_ ?_
   ·refine mE 1 10 ?_
    refine aS 2 rfl (fun a u E D hk=>exec_gen rfl (dD D 0) rfl) (by decide) ?_
    exact fz
   intro w6 k6
   simp only [F8]
   have z6 := k6.size
   go_upto_region 7 with fail
   refine wEp 1 [zeroO.v] [32] ?_ ?_
   ·refine sW 1 rfl (fun a u E D hk=>exec_build 24 [] zeroO.cells rfl (by kernel_rfl)) ?_
    exact fz
   intro w7 k7
   simp only [F8]
   refine l_setS 24 b6 24 zeroO.cells zeroO.cells _ _ rfl rfl (by kernel_rfl) (by kernel_rfl) ((HB65.out.kept k6).kept k7) (by rw [Ord.len9]; exact ord_size) rfl (Ord.one1 _) ?_
   intro w8 hCw8 hkw8 hsw8
   simp only [Act.put]
   refine l_val (.bool false) rfl (exec_assign _ _ rfl (by kernel_rfl)) ?_
   simp only [Act.put, sA, sS, sZ]
   refine wpList_nil ?_
   go_wp2
   refine bodyPost_ret (results_cell2 (p := 6) (q := 7) rfl _ _ b6 _ zeroO.cells false rfl rfl hCw8 Try.underlying24 (by rw [Ord.len9]; exact ord_size)) rfl ?_
   rw [HR.out]
   have k67 := k6.trans k7
   have hP : MkP w8 p q v F2 Mm := ⟨(HB5.out.kept k67).keep hkw8 hbl, (HK5.out.kept k67).keep hkw8 (fun b hb e => h6F2 (by rw [← e]; exact hb)), (HS5.out.kept k67).keep hkw8 (fun b hb => H6v.out b hb), hpF2, hvF2.out⟩
   have z7 := k67.size
   have KF : Keep F w w8 := (KF5.kept k67).new hkw8 (by omega)
   first | exact ⟨rfl, _, hP.close, hGG.out, KF⟩ | exact ⟨_, rfl, hP.close, hGG.out, KF⟩
  | some e =>
   have hj1 : j = (Mm.w.findIdx (Ord.is t i) : Int) := by rw [← hj]; exact place_some hw
   obtain ⟨k, hk⟩ : ∃ k, Mm.w.findIdx (Ord.is t i) = k := ⟨_, rfl⟩
   rw [hk] at hj1
   have HR : Hid (Mm.remove t i = (e, true, ⟨Mm.b, Mm.w.eraseIdx k⟩)) := by show _ = _; unfold Mkt.remove; rw [HX.out, hw, hk]; rfl
   rw [hk] at hw
   have HEI := Lib.hid hw
   subst hj1
   clear hj hw hk
   go_upto_region 5 with fail
   refine wE 2 [iV (k : Int), bV true] [27,28] ?_ ?_
   ·refine mE 1 10 ?_
    refine aS 2 rfl (fun a u E D hk=>exec_gen rfl (dD D 0) rfl) (decide_eq_true (by omega)) ?_
    exact fz
   intro w6 k6
   simp only [F8]
   have z6 := k6.size
   go_upto_region 6 with fail
   refine wEp 2 [pV p 0, iV (k : Int)] [29,30] ?_ ?_
   ·refine mE 1 0 ?_
    refine mE 2 10 ?_
    exact fz
   intro w7 k7
   simp only [F8]
   refine l_call 40 #[.pointer (some ⟨p, 0, none⟩), .int .i64 (k : Int)] rfl (exec_call 40 _ [.tmp 29, .tmp 30] _ _ Try.func40 (by kernel_rfl) (by kernel_rfl) rfl (by kernel_rfl) _) ?_
   refine (mtake_any w7 p q v Mm.w k e (HB5.out.kept (k6.trans k7)) (HS5.out.kept (k6.trans k7)) HEI.out hlen (fun b hb => (hvF2.out b hb).1)).mono ?_
   rintro r w8 ⟨v', rfl, hB8, hS8, hv8, hk8⟩
   refine ⟨_, rfl, ?_⟩
   simp only [Act.put, sA, sS, sZ]
   refine l_setS 24 b6 24 zeroO.cells e.cells _ _ rfl rfl (by kernel_rfl) (by kernel_rfl) (((HB65.out.kept (k6.trans k7)).keep hk8 (fun e => e.elim (fun e => hbl e.symm) (fun e => H6v.out _ e rfl)))) (by rw [Ord.len9]; exact ord_size) (by rw [Ord.len9, Ord.len9]) (Ord.one1 _) ?_
   intro w9 hCw9 hkw9 hsw9
   simp only [Act.put]
   refine l_val (.bool true) rfl (exec_assign _ _ rfl (by kernel_rfl)) ?_
   simp only [Act.put, sA, sS, sZ]
   refine wpList_nil ?_
   have k67 := k6.trans k7
   have hn8 : ∀ b, F2 b → ¬ (b = p ∨ v.ownBlock = some b) := fun b hb e => e.elim (fun e => hpF2 (by rw [← e]; exact hb)) (fun e => (hvF2.out b e).2 hb)
   go_wp2
   refine bodyPost_ret (results_cell2 (p := 6) (q := 7) rfl _ _ b6 _ e.cells true rfl rfl hCw9 Try.underlying24 (by rw [Ord.len9]; exact ord_size)) rfl ?_
   rw [HR.out]
   have hP : MkP w9 p q v' F2 ⟨Mm.b, Mm.w.eraseIdx k⟩ := ⟨hB8.keep hkw9 hbl, ((HK5.out.kept k67).keep hk8 hn8).keep hkw9 (fun b hb e => h6F2 (by rw [← e]; exact hb)), hS8.keep hkw9 (fun b hb => H6v.out b (by rw [← hv8]; exact hb)), hpF2, fun b hb => hvF2.out b (by rw [← hv8]; exact hb)⟩
   have z7 := k67.size
   have z8 := hk8.size
   have KF : Keep F w w9 := ((KF5.kept k67).trans hk8 (fun b _ hb => hb.elim (fun h => HFF.out b (.inl (.inl h))) (fun h => HFF.out b (.inl (.inr h))))).new hkw9 (by omega)
   have hGG' : Grow w F (foot p v' F2) := fun b hb => hGG.out b (hb.imp (fun h => h.imp id (fun h => by rw [← hv8]; exact h)) id)
   first | exact ⟨rfl, _, hP.close, hGG', KF⟩ | exact ⟨_, rfl, hP.close, hGG', KF⟩
set_option maxRecDepth 100000 in
set_option maxHeartbeats 1600000 in
theorem mrefusal_any (w : World) (F : Nat → Prop) (p : Nat) (Mm : Mkt) (o : Ord) (h : Mk w F p Mm) (hI : Inv Mm.b) (hlen : Mm.w.length ≤ 100000) : Gives 57 #[.pointer (some ⟨p, 0, none⟩), o.v] w (.eq (.int .i64 (Mm.err o))) := by
 refine gives_eq ?_
 have HM := Lib.hid h
 have HI := Lib.hid hI
 obtain ⟨e, he⟩ : ∃ e, Mm.err o = e := ⟨_, rfl⟩
 have HE := Lib.hid he
 rw [he]
 clear h hI he
 go_enter Try.func57, Try.ntmps57
 go_upto_region 0 with fail
 refine wp_text 2 [.fresh w.heap.size 24 (o.cells), iE 0] rfl (by kernel_rfl) ?_ ?_
 ·refine nW 1 rfl (fun a u E D hk=>⟨_, _, exec_box 24 _ (o.cells) rfl (eE E), ⟨_, rfl, hk.size, Blk.new u _ _⟩, ((Keep.refl _ u).alloc _)⟩) ?_
  refine sW 2 rfl (fun a u E D hk=>exec_assign _ _ rfl rfl) ?_
  exact fz
 intro gv w0 hV k0
 rw [dq 2 [3,4]]
 simp only [Fz7]
 have hv3 : (.fresh w.heap.size 24 (o.cells) : Kn).p (gv 3) w0 := hV 0 3 (by kernel_rfl)
 generalize gv 3 = v3 at hv3 ⊢
 rw [gQ hV 1 4 (.int .i64 0)]
 clear hV
 obtain ⟨b3, rfl, hb3, hB3⟩ := hv3
 refine wpList_nil ?_
 have HO := Lib.hid (blk_range hB3)
 have l3 := hB3.lt
 have z0 := k0.size
 clear hB3
 cases hr : o.right with
 | false =>
  have hr1 : o.err ≠ 0 := by unfold Ord.err; rw [hr]; decide
  have he1 : e = 1 := by rw [← HE.out]; unfold Mkt.err; rw [if_pos hr]
  subst he1
  clear hr
  go_upto_region 1 with fail
  refine wE 3 [o.v, iV o.err, bV true] [7,8,9] ?_ ?_
  ·refine sE 1 3 b3 0 o.cells Try.underlying24 (fun u hk=>range_kept HO.out hk) (by rw [o.len9]; exact ord_size) ?_
   refine cS 2 32 [o.v] rfl Try.func32 rfl (fun a u E D hk=>⟨ll (dD D 0) rfl, ordRight_any o u⟩) ?_
   refine aS 3 rfl (fun a u E D hk=>exec_nen rfl (dD D 1) rfl) (decide_eq_true hr1) ?_
   exact fz
  intro w1 k1
  simp only [F8]
  clear HO hr1
  go_wp2
  go_ret
  exact ⟨rfl, k0.trans k1⟩
 | true =>
  have hr1 : ¬ o.err ≠ 0 := by unfold Ord.err; rw [hr]; decide
  have HRT := Lib.hid hr
  clear hr
  go_upto_region 1 with fail
  refine wE 3 [o.v, iV o.err, bV false] [7,8,9] ?_ ?_
  ·refine sE 1 3 b3 0 o.cells Try.underlying24 (fun u hk=>range_kept HO.out hk) (by rw [o.len9]; exact ord_size) ?_
   refine cS 2 32 [o.v] rfl Try.func32 rfl (fun a u E D hk=>⟨ll (dD D 0) rfl, ordRight_any o u⟩) ?_
   refine aS 3 rfl (fun a u E D hk=>exec_nen rfl (dD D 1) rfl) (decide_eq_false hr1) ?_
   exact fz
  intro w1 k1
  simp only [F8]
  have k01 := k0.trans k1
  have z1 := k1.size
  have HO1 := Lib.hid (range_kept HO.out k1)
  obtain ⟨x, b, hx⟩ : ∃ x b, Mm.find o.tr o.id = (x, b) := ⟨_, _, rfl⟩
  have HX := Lib.hid hx
  clear HO hr1 hx
  go_upto_region 3 with fail
  refine wEp 9 [pV p 0, pV b3 0, iV o.tr, pV b3 1, iV o.id, .tuple #[x.v, .bool b], .tuple #[x.v, .bool b], x.v, bV b] [11,12,13,14,15,16,10,17,18] ?_ ?_
  ·refine mE 1 0 ?_
   refine fE 2 3 24 0 0 0 ?_
   refine lD 3 12 1 Try.underlying3 (fun u hk=>range_int (range_kept HO1.out hk) 0 _ rfl) ?_
   refine fE 4 3 24 1 1 0 ?_
   refine lD 5 14 3 Try.underlying3 (fun u hk=>range_int (range_kept HO1.out hk) 1 _ rfl) ?_
   refine cS 6 21 [.pointer (some ⟨p, 0, none⟩), .int .i64 o.tr, .int .i64 o.id] rfl Try.func21 rfl (fun a u E D hk=>⟨ll (dD D 0) (ll (dD D 2) (ll (dD D 4) rfl)), (by have h := mfind_any u F p Mm o.tr o.id (HM.out.kept (k01.trans hk)) HI.out hlen; rw [HX.out] at h; exact h)⟩) ?_
   refine mD 7 16 5 ?_
   refine sW 8 rfl (fun a u E D hk=>exec_extract _ [x.v, .bool b] 0 (x.v) rfl (dD D 6) rfl) ?_
   refine sW 9 rfl (fun a u E D hk=>exec_extract _ [x.v, .bool b] 1 (.bool b) rfl (dD D 6) rfl) ?_
   exact fz
  intro w2 k2
  simp only [F8]
  refine l_new (.pointer (some ⟨w2.heap.size, 0, none⟩)) (w2.alloc (.cells zeroO.cells.toArray 24)) rfl (exec_alc 24 zeroO.cells rfl zO) ?_
  have hNw3 := Blk.new w2 24 zeroO.cells
  have kw3 : Kept w2 (w2.alloc (.cells zeroO.cells.toArray 24)) := (Keep.refl _ w2).alloc _
  generalize w2.alloc (.cells zeroO.cells.toArray 24) = w3 at hNw3 kw3 ⊢
  simp only [Act.put, sA, sS, sZ]
  refine l_setS 24 w2.heap.size 24 zeroO.cells x.cells _ _ rfl rfl (by kernel_rfl) (by kernel_rfl) (hNw3) (by rw [Ord.len9]; exact ord_size) (by rw [Ord.len9, Ord.len9]) (Ord.one1 _) ?_
  intro w4 hCw4 hkw4 hsw4
  simp only [Act.put]
  refine l_val (.bool b) rfl (exec_assign _ _ rfl (by kernel_rfl)) ?_
  simp only [Act.put, sA, sS, sZ]
  refine wpList_nil ?_
  have z2 := k2.size
  have k14 : Kept w1 w4 := (k2.trans kw3).trans' hkw4 (by omega)
  have K4 : Kept w w4 := k01.trans k14
  have HO4 := Lib.hid (range_kept HO1.out k14)
  clear hNw3 hCw4 hkw4 hsw4 kw3 k2 HO1 k14
  cases b with
  | true =>
   have he5 : e = 5 := by rw [← HE.out]; unfold Mkt.err; rw [if_neg (by rw [HRT.out]; decide), if_pos (by rw [HX.out])]
   subst he5
   clear HO4
   go_wp2
   go_ret
   exact ⟨rfl, K4⟩
  | false =>
   have HE2 : Hid (e = if o.may = true ∧ 64 ≤ Mm.len then 4 else 0) := by show _ = _; rw [← HE.out]; unfold Mkt.err; rw [if_neg (by rw [HRT.out]; decide), if_neg (by rw [HX.out]; simp)]
   obtain ⟨m, hm⟩ : ∃ m, o.may = m := ⟨_, rfl⟩
   have HMY := Lib.hid hm
   rw [hm] at HE2
   clear hm
   go_upto_region 4 with fail
   refine wE 1 [bV false] [19] ?_ ?_
   ·refine mE 1 6 ?_
    exact fz
   intro w5 k5
   simp only [F8]
   have K5 := K4.trans k5
   have HO5 := Lib.hid (range_kept HO4.out k5)
   clear HO4 k5
   cases m with
   | false =>
    have he0 : e = 0 := by rw [HE2.out, if_neg (by simp)]
    subst he0
    go_upto_region 6 with fail
    refine wE 7 [o.v, bV false, bV false, undef, undef, undef, bV false] [20,21,22,23,24,25,26] ?_ ?_
    ·refine sE 1 3 b3 0 o.cells Try.underlying24 (fun u hk=>range_kept HO5.out hk) (by rw [o.len9]; exact ord_size) ?_
     refine cS 2 68 [o.v] rfl Try.func68 rfl (fun a u E D hk=>⟨ll (dD D 0) rfl, (by rw [← HMY.out]; exact mayStay_any u o)⟩) ?_
     refine mD 3 21 1 ?_
     refine kS 4 2 ?_
     refine kS 5 2 ?_
     refine kS 6 2 ?_
     refine pF 7 22 2 ?_
     exact fz
    intro w6 k6
    simp only [F8]
    have K6 := K5.trans k6
    clear HO5 k6
    go_wp2
    go_ret
    exact ⟨rfl, K6⟩
   | true =>
    obtain ⟨n, hn⟩ : ∃ n, Mm.len = n := ⟨_, rfl⟩
    have HN := Lib.hid hn
    rw [hn] at HE2
    clear hn
    by_cases hc : 64 ≤ n
    ·have he4 : e = 4 := by rw [HE2.out, if_pos ⟨rfl, hc⟩]
     subst he4
     go_upto_region 6 with fail
     refine wE 7 [o.v, bV true, bV true, pV p 0, iV (n : Int), bV true, bV true] [20,21,22,23,24,25,26] ?_ ?_
     ·refine sE 1 3 b3 0 o.cells Try.underlying24 (fun u hk=>range_kept HO5.out hk) (by rw [o.len9]; exact ord_size) ?_
      refine cS 2 68 [o.v] rfl Try.func68 rfl (fun a u E D hk=>⟨ll (dD D 0) rfl, (by rw [← HMY.out]; exact mayStay_any u o)⟩) ?_
      refine mD 3 21 1 ?_
      refine mE 4 0 ?_
      refine cS 5 69 [.pointer (some ⟨p, 0, none⟩)] rfl Try.func69 rfl (fun a u E D hk=>⟨ll (dD D 3) rfl, (by rw [← HN.out]; exact mlen_any u F p Mm (HM.out.kept (K5.trans hk)) HI.out hlen)⟩) ?_
      refine aS 6 rfl (fun a u E D hk=>exec_gen rfl (dD D 4) rfl) (decide_eq_true (by omega)) ?_
      refine pT 7 22 25 2 5 ?_
      exact fz
     intro w6 k6
     simp only [F8]
     have K6 := K5.trans k6
     clear HO5 k6
     go_wp2
     go_ret
     exact ⟨rfl, K6⟩
    ·have he0 : e = 0 := by rw [HE2.out, if_neg (fun h => hc h.2)]
     subst he0
     go_upto_region 6 with fail
     refine wE 7 [o.v, bV true, bV true, pV p 0, iV (n : Int), bV false, bV false] [20,21,22,23,24,25,26] ?_ ?_
     ·refine sE 1 3 b3 0 o.cells Try.underlying24 (fun u hk=>range_kept HO5.out hk) (by rw [o.len9]; exact ord_size) ?_
      refine cS 2 68 [o.v] rfl Try.func68 rfl (fun a u E D hk=>⟨ll (dD D 0) rfl, (by rw [← HMY.out]; exact mayStay_any u o)⟩) ?_
      refine mD 3 21 1 ?_
      refine mE 4 0 ?_
      refine cS 5 69 [.pointer (some ⟨p, 0, none⟩)] rfl Try.func69 rfl (fun a u E D hk=>⟨ll (dD D 3) rfl, (by rw [← HN.out]; exact mlen_any u F p Mm (HM.out.kept (K5.trans hk)) HI.out hlen)⟩) ?_
      refine aS 6 rfl (fun a u E D hk=>exec_gen rfl (dD D 4) rfl) (decide_eq_false (by omega)) ?_
      refine pT 7 22 25 2 5 ?_
      exact fz
     intro w6 k6
     simp only [F8]
     have K6 := K5.trans k6
     clear HO5 k6
     go_wp2
     go_ret
     exact ⟨rfl, K6⟩
def Ot.cells (x : Ot) (v : Value) : List Value := x.c.o.cells ++ [v, .int .i64 x.c.left, .bool x.c.rests, .bool x.wt, .bool x.c.self, .int .i64 x.c.err]
def Ot.v (x : Ot) (v : Value) : Value := .agg (x.cells v).toArray
theorem Ot.len15 (x : Ot) (v : Value) : (x.cells v).length = 15 := by unfold Ot.cells; rw [List.length_append, Ord.len9]; rfl
theorem Ot.one (x : Ot) (v : Value) (hv : v.oneCell' = true) : ∀ u ∈ x.cells v, u.oneCell' = true := by
 intro u hu
 unfold Ot.cells at hu
 rcases List.mem_append.1 hu with hu | hu
 ·exact x.c.o.one1 u hu
 ·simp at hu
  rcases hu with rfl | rfl | rfl | rfl | rfl | rfl
  ·exact hv
  all_goals rfl
theorem ot_ord {w : World} {g off : Nat} {x : Ot} {v : Value} (h : w.rangeAt g off (x.cells v)) : w.rangeAt g off x.c.o.cells := range_take h 9
theorem slC : SlT 39 54 15 120 := ⟨Try.underlying39, by kernel_rfl, ⟨zeroC.v (.slice none 0 0), by kernel_rfl, rfl, by intro u hu; exact zeroC.one _ rfl u (by simpa [Oc.v, Value.cells] using hu)⟩, by omega⟩
def outc (Z : List (Ot × Value)) : List Value := Z.flatMap fun z => z.1.cells z.2
theorem outc_snoc (Z : List (Ot × Value)) (x : Ot) (v : Value) : outc (Z ++ [(x, v)]) = outc Z ++ x.cells v := by simp [outc]
structure Outs (w : World) (base : Nat) (G : Nat → Prop) (v : Value) (L : List Ot) (Z : List (Ot × Value)) : Prop where
 eq : Z.map (·.1) = L
 sl : Sl w 54 15 v Z.length (outc Z)
 own : ∀ b, v.ownBlock = some b → base ≤ b ∧ ¬ G b
 fl : ∀ z ∈ Z, Sl w 61 21 z.2 z.1.c.f.length (fls z.1.c.f)
 flo : ∀ z ∈ Z, ∀ b, z.2.ownBlock = some b → base ≤ b ∧ ¬ G b ∧ v.ownBlock ≠ some b
theorem Outs.len {w : World} {base : Nat} {G : Nat → Prop} {v : Value} {L : List Ot} {Z : List (Ot × Value)} (h : Outs w base G v L Z) : Z.length = L.length := by rw [← h.eq, List.length_map]
theorem Outs.keep {S : Nat → Prop} {w w' : World} {base : Nat} {G : Nat → Prop} {v : Value} {L : List Ot} {Z : List (Ot × Value)} (h : Outs w base G v L Z) (hk : Keep S w w') (hn : ∀ b, base ≤ b → ¬ G b → b < w.heap.size → ¬ S b) : Outs w' base G v L Z :=
 ⟨h.eq, h.sl.keep hk (fun b hb => hn b (h.own b hb).1 (h.own b hb).2 (h.sl.lt hb)), h.own, fun z hz => (h.fl z hz).keep hk (fun b hb => hn b (h.flo z hz b hb).1 (h.flo z hz b hb).2.1 ((h.fl z hz).lt hb)), h.flo⟩
theorem Outs.kept {w w' : World} {base : Nat} {G : Nat → Prop} {v : Value} {L : List Ot} {Z : List (Ot × Value)} (h : Outs w base G v L Z) (hk : Kept w w') : Outs w' base G v L Z := h.keep hk (fun _ _ _ _ h => h)
theorem Outs.beside {w : World} {base n : Nat} {G G' : Nat → Prop} {v : Value} {L : List Ot} {Z : List (Ot × Value)} (h : Outs w base G v L Z) (hg : ∀ b, G' b → G b ∨ n ≤ b) (hl : w.heap.size ≤ n) : Outs w base G' v L Z :=
 ⟨h.eq, h.sl, fun b hb => ⟨(h.own b hb).1, fun e => (hg b e).elim (h.own b hb).2 (fun e => by have := h.sl.lt hb; omega)⟩, h.fl, fun z hz b hb => ⟨(h.flo z hz b hb).1, fun e => (hg b e).elim (h.flo z hz b hb).2.1 (fun e => by have := (h.fl z hz).lt hb; omega), (h.flo z hz b hb).2.2⟩⟩
theorem Outs.less {w : World} {base : Nat} {G G' : Nat → Prop} {v : Value} {L : List Ot} {Z : List (Ot × Value)} (h : Outs w base G v L Z) (hg : ∀ b, G' b → G b) : Outs w base G' v L Z :=
 ⟨h.eq, h.sl, fun b hb => ⟨(h.own b hb).1, fun e => (h.own b hb).2 (hg b e)⟩, h.fl, fun z hz b hb => ⟨(h.flo z hz b hb).1, fun e => (h.flo z hz b hb).2.1 (hg b e), (h.flo z hz b hb).2.2⟩⟩
theorem outc_at (Z : List (Ot × Value)) (i : Nat) (z : Ot × Value) (h : Z[i]? = some z) : ((outc Z).drop (i * 15)).take 15 = z.1.cells z.2 :=
 flat_at (fun z : Ot × Value => z.1.cells z.2) 15 (fun z => Ot.len15 z.1 z.2) Z i z h
theorem Sl.rngC {w : World} {T : TypeId} {n c g off : Nat} {Z : List (Ot × Value)} (h : Sl w T 15 (.slice (some ⟨g, off, none⟩) n c) n (outc Z)) (i : Nat) (z : Ot × Value) (hz : Z[i]? = some z) : w.rangeAt g (off + i * 15) (z.1.cells z.2) := by
 obtain ⟨hl, A, c', e', h1, h2, h3, h4⟩ := h
 injection e' with e1 e2 e3
 subst e1 e3
 obtain ⟨g', off', cur, e, hB, h5, h6⟩ := h4 _ rfl
 injection e with e1 e2
 subst e1 e2
 have := range_take (range_drop (seg_cell hB h6) (i * 15)) 15
 rw [outc_at Z i z hz] at this
 exact this
theorem Outs.snoc {w : World} {base : Nat} {G : Nat → Prop} {v : Value} {L : List Ot} {Z : List (Ot × Value)} (h : Outs w base G v L Z) (x : Ot) (vf y : Value) (ty : TypeId) (hf : Sl w 61 21 vf x.c.f.length (fls x.c.f)) (hfo : ∀ b, vf.ownBlock = some b → base ≤ b ∧ ¬ G b ∧ v.ownBlock ≠ some b) (hy : Sl w 54 15 y 1 (x.cells vf)) (hn : L.length ≤ 1000000) (hb : base ≤ w.heap.size) (hG : ∀ b, G b → b < w.heap.size) :
  ∃ v' w', (Builtin.append_ #[39, 39] ty #[v, y]).run Try.prog w = .ok v' w' ∧ Outs w' base G v' (L ++ [x]) (Z ++ [(x, vf)]) ∧ Keep (fun b => v.ownBlock = some b) w w' ∧ ∀ b, v'.ownBlock = some b → v.ownBlock = some b ∨ w.heap.size ≤ b := by
 have hl := h.len
 obtain ⟨v', w', hr, hs, hk, ho⟩ := run_append_sl slC ty w v y Z.length 1 (outc Z) (x.cells vf) h.sl hy (Ot.one _ _ (sl_onec hf)) (by unfold maxLen; omega) (by omega)
 refine ⟨v', w', hr, ⟨by rw [List.map_append, h.eq]; rfl, by rw [List.length_append, outc_snoc]; exact hs, fun b hb' => ?_, fun z hz => ?_, fun z hz b hb' => ?_⟩, hk, ho⟩
 ·rcases ho b hb' with e | e
  ·exact h.own b e
  ·exact ⟨by omega, fun e' => by have := hG b e'; omega⟩
 ·rcases List.mem_append.1 hz with hz | hz
  ·exact (h.fl z hz).keep hk (fun b hb' e => (h.flo z hz b hb').2.2 e)
  ·simp at hz
   subst hz
   exact hf.keep hk (fun b hb' e => (hfo b hb').2.2 e)
 ·have key : ∀ b, b < w.heap.size → v.ownBlock ≠ some b → v'.ownBlock ≠ some b := fun b h1 h2 h3 => (ho b h3).elim h2 (fun h4 => by omega)
  rcases List.mem_append.1 hz with hz | hz
  ·exact ⟨(h.flo z hz b hb').1, (h.flo z hz b hb').2.1, key b ((h.fl z hz).lt hb') (h.flo z hz b hb').2.2⟩
  ·simp at hz
   subst hz
   exact ⟨(hfo b hb').1, (hfo b hb').2.1, key b (hf.lt hb') (hfo b hb').2.2⟩
theorem built_ote (o : Ord) (n e : Int) : Try.prog.built 54 [(0, o.v), (2, .int .i64 n), (6, .int .i64 e)] = some ((Ot.mk (Oc.mk o [] n false false e) false).cells (.slice none 0 0)).toArray := by kernel_rfl
theorem built_otw (o : Ord) (n : Int) : Try.prog.built 54 [(0, o.v), (2, .int .i64 n), (4, .bool true)] = some ((Ot.mk (Oc.mk o [] n false false 0) true).cells (.slice none 0 0)).toArray := by kernel_rfl
def ArrIn (w : World) (F : Nat → Prop) (p : Nat) (x : Ot × Mkt) (r : Ending) (w' : World) : Prop :=
 ∃ F' vf, r = .returned (x.1.v vf) ∧ Mk w' F' p x.2 ∧ Sl w' 61 21 vf x.1.c.f.length (fls x.1.c.f) ∧ (∀ b, vf.ownBlock = some b → w.heap.size ≤ b ∧ ¬ F' b) ∧ Grow w F F' ∧ Keep F w w'
set_option maxRecDepth 100000 in
set_option maxHeartbeats 3200000 in
theorem arrive_any (w : World) (F : Nat → Prop) (p : Nat) (Mm : Mkt) (o : Ord) (h : Mk w F p Mm) (hI : InvK Mm) (hno : Mm.b.no ≤ 1000000000000) : Calls Try.prog 41 #[.pointer (some ⟨p, 0, none⟩), o.v] w (ArrIn w F p (Mm.arrive o)) := by
 have hlen : Mm.w.length ≤ 100000 := by have := hI.few; omega
 have HM := Lib.hid h
 obtain ⟨hFl, q, v, Fb, hP, hfF⟩ := h
 have HPP := Lib.hid hP
 have HI := Lib.hid hI
 have HFF := Lib.hid hfF
 have hpl := hP.blk.lt
 obtain ⟨x, hx⟩ : ∃ x, Mm.arrive o = x := ⟨_, rfl⟩
 have HX := Lib.hid hx
 obtain ⟨e, he⟩ : ∃ e, Mm.err o = e := ⟨_, rfl⟩
 have HE := Lib.hid he
 rw [hx]
 clear hP hI hx he
 go_enter Try.func41, Try.ntmps41
 go_upto_region 0 with fail
 refine wp_text 2 [.fresh w.heap.size 24 (o.cells), .fresh w.heap.size 54 (zeroC.cells (.slice none 0 0))] rfl (by kernel_rfl) ?_ ?_
 ·refine nW 1 rfl (fun a u E D hk=>⟨_, _, exec_box 24 _ (o.cells) rfl (eE E), ⟨_, rfl, hk.size, Blk.new u _ _⟩, ((Keep.refl _ u).alloc _)⟩) ?_
  refine nW 2 rfl (fun a u E D hk=>⟨_, _, exec_alc 54 (zeroC.cells (.slice none 0 0)) rfl zC, ⟨_, rfl, hk.size, Blk.new u _ _⟩, ((Keep.refl _ u).alloc _)⟩) ?_
  exact fz
 intro gv w0 hV k0
 rw [dq 2 [3,4]]
 simp only [Fz7]
 have hv3 : (.fresh w.heap.size 24 (o.cells) : Kn).p (gv 3) w0 := hV 0 3 (by kernel_rfl)
 generalize gv 3 = v3 at hv3 ⊢
 have hv4 : (.fresh w.heap.size 54 (zeroC.cells (.slice none 0 0)) : Kn).p (gv 4) w0 := hV 1 4 (by kernel_rfl)
 generalize gv 4 = v4 at hv4 ⊢
 clear hV
 obtain ⟨b3, rfl, hb3, hB3⟩ := hv3
 obtain ⟨b4, rfl, hb4, hB4⟩ := hv4
 refine wpList_nil ?_
 have HO0 := Lib.hid (blk_range hB3)
 have HB40 := Lib.hid hB4
 have l3 := hB3.lt
 have l4 := hB4.lt
 have z0 := k0.size
 have h3F : ¬ F b3 := fun h => by have := hFl b3 h; omega
 have h4F : ¬ F b4 := fun h => by have := hFl b4 h; omega
 clear hB3 hB4
 go_upto_region 1 with fail
 refine wE 4 [pV p 0, o.v, iV e, iV e] [6,7,8,5] ?_ ?_
 ·refine mE 1 0 ?_
  refine sE 2 3 b3 0 o.cells Try.underlying24 (fun u hk=>range_kept HO0.out hk) (by rw [o.len9]; exact ord_size) ?_
  refine cS 3 57 [.pointer (some ⟨p, 0, none⟩), o.v] rfl Try.func57 rfl (fun a u E D hk=>⟨ll (dD D 0) (ll (dD D 1) rfl), (by rw [← HE.out]; exact mrefusal_any u F p Mm o (HM.out.kept (k0.trans hk)) HI.out.inv hlen)⟩) ?_
  refine mD 4 8 2 ?_
  exact fz
 intro w1 k1
 simp only [F8]
 have k01 := k0.trans k1
 have HO1 := Lib.hid (range_kept HO0.out k1)
 have HB41 := Lib.hid (HB40.out.kept k1)
 have z1 := k1.size
 clear HO0 HB40 k0 k1
 by_cases he0 : e ≠ 0
 ·have hxe : x = (⟨⟨o, [], o.qty, false, false, e⟩, false⟩, Mm) := by rw [← HX.out]; unfold Mkt.arrive; rw [if_pos (by rw [HE.out]; exact he0), HE.out]
  subst hxe
  go_upto_region 2 with fail
  refine wE 2 [iV e, bV true] [9,10] ?_ ?_
  ·refine mE 1 5 ?_
   refine aS 2 rfl (fun a u E D hk=>exec_nen rfl (dD D 0) rfl) (decide_eq_true he0) ?_
   exact fz
  intro w2 k2
  simp only [F8]
  have HO2 := Lib.hid (range_kept HO1.out k2)
  have HB42 := Lib.hid (HB41.out.kept k2)
  clear he0
  go_upto_region 3 with fail
  refine wEp 5 [o.v, pV b3 6, iV o.qty, iV e, (Ot.mk (Oc.mk o [] o.qty false false e) false).v (.slice none 0 0)] [11,12,13,14,15] ?_ ?_
  ·refine sE 1 3 b3 0 o.cells Try.underlying24 (fun u hk=>range_kept HO2.out hk) (by rw [o.len9]; exact ord_size) ?_
   refine fE 2 3 24 6 6 0 ?_
   refine lD 3 12 1 Try.underlying3 (fun u hk=>range_int (range_kept HO2.out hk) 6 _ rfl) ?_
   refine mE 4 5 ?_
   refine sW 5 rfl (fun a u E D hk=>exec_build _ [(0, .tmp 11), (2, .tmp 13), (6, .tmp 14)] ((Ot.mk (Oc.mk o [] o.qty false false e) false).cells (.slice none 0 0)) rfl (by simp only [List.map_cons, List.map_nil]; rw [show a.eval (.tmp 11) = o.v from (dD D 0), show a.eval (.tmp 13) = .int .i64 o.qty from (dD D 2), show a.eval (.tmp 14) = .int .i64 e from (dD D 3)]; exact built_ote o o.qty e)) ?_
   exact fz
  intro w3 k3
  simp only [F8]
  refine l_setS 54 b4 54 (zeroC.cells (.slice none 0 0)) ((Ot.mk (Oc.mk o [] o.qty false false e) false).cells (.slice none 0 0)) _ _ rfl rfl (by kernel_rfl) (by kernel_rfl) (HB42.out.kept k3) (by rw [Ot.len15]; exact szC) (by rw [Ot.len15]; rfl) (Ot.one _ _ rfl) ?_
  intro w4 hCw4 hkw4 hsw4
  simp only [Act.put]
  refine wpList_nil ?_
  go_wp2
  refine bodyPost_ret (results_cell (p := 4) rfl _ _ b4 _ ((Ot.mk (Oc.mk o [] o.qty false false e) false).cells (.slice none 0 0)) rfl hCw4 Try.underlying54 (by rw [Ot.len15]; exact szC)) rfl ?_
  have kk : Kept w w4 := ((k01.trans k2).trans k3).trans' hkw4 (by omega)
  exact ⟨F, .slice none 0 0, rfl, HM.out.kept kk, Sl.nil _ _ _, fun b hb => by simp [Value.ownBlock] at hb, Grow.refl _ _, Keep.mono (T := F) kk (fun _ _ h => h.elim)⟩
 ·have he1 : e = 0 := Classical.not_not.1 he0
  subst he1
  have HX1 : Hid (x = if Mm.waits o = true then (⟨⟨o, [], o.qty, false, false, 0⟩, true⟩, ⟨Mm.b, Mm.w ++ [o]⟩) else (⟨(Mm.b.enter o).1, false⟩, ⟨(Mm.b.enter o).2, Mm.w⟩)) := by show _ = _; rw [← HX.out]; unfold Mkt.arrive; rw [if_neg (fun h => h HE.out)]
  go_upto_region 2 with fail
  refine wE 2 [iV 0, bV false] [9,10] ?_ ?_
  ·refine mE 1 5 ?_
   refine aS 2 rfl (fun a u E D hk=>exec_nen rfl (dD D 0) rfl) (by decide) ?_
   exact fz
  intro w2 k2
  simp only [F8]
  have k02 := k01.trans k2
  have HO2 := Lib.hid (range_kept HO1.out k2)
  have HB42 := Lib.hid (HB41.out.kept k2)
  have HQ2 : Hid (w2.cell? ⟨p, 0, none⟩ = some (.pointer (some ⟨q, 0, none⟩))) := (HPP.out.blk.kept k02).cell 0
  have HK2 := Lib.hid (HPP.out.bk.kept k02)
  have z2 := k2.size
  clear he0 k01 HO1 HB41
  obtain ⟨ht, hht⟩ : ∃ b, o.hit Mm.b.last = b := ⟨_, rfl⟩
  have HHT := Lib.hid hht
  obtain ⟨s, hs⟩ : ∃ s, decide (0 < o.stop) = s := ⟨_, rfl⟩
  have HST := Lib.hid hs
  have HW : Hid (Mm.waits o = (s && !ht)) := by show _ = _; unfold Mkt.waits; rw [hs, hht]
  clear hs hht
  go_upto_region 4 with fail
  go_cut [16, 17, 18, 19, 20, 21, 22, 23, 24, 25, 26, 27, 28] (fun _ _ _ _ _ _ _ _ _ _ _ _ r28 wx => r28 = .bool (s && !ht) ∧ Kept w2 wx)
  case first =>
   cases s with
   | false =>
    refine wG 13 [pV b3 8, iV o.stop, bV false, bV false, undef, undef, undef, undef, undef, undef, undef, undef, bV false] [16,17,18,19,20,21,22,23,24,25,26,27,28] ?_ ?_
    ·refine fE 1 3 24 8 8 0 ?_
     refine lD 2 16 0 Try.underlying3 (fun u hk=>range_int (range_kept HO2.out hk) 8 _ rfl) ?_
     refine aS 3 rfl (fun a u E D hk=>exec_gtn rfl (dD D 1) rfl) HST.out ?_
     refine mD 4 18 2 ?_
     refine kS 5 3 ?_
     refine kS 6 3 ?_
     refine kS 7 3 ?_
     refine kS 8 3 ?_
     refine kS 9 3 ?_
     refine kS 10 3 ?_
     refine kS 11 3 ?_
     refine kS 12 3 ?_
     refine pF 13 19 3 ?_
     exact fz
    intro w3 k3
    simp only [F8]
    go_wp2
    go_meet
    case rel => exact ⟨rfl, k3⟩
   | true =>
    cases ht with
    | false =>
     refine wG 13 [pV b3 8, iV o.stop, bV true, bV true, o.v, pV p 0, pV p 0, pV p 0, pV q 0, iV Mm.b.last, bV false, bV true, bV true] [16,17,18,19,20,21,22,23,24,25,26,27,28] ?_ ?_
     ·refine fE 1 3 24 8 8 0 ?_
      refine lD 2 16 0 Try.underlying3 (fun u hk=>range_int (range_kept HO2.out hk) 8 _ rfl) ?_
      refine aS 3 rfl (fun a u E D hk=>exec_gtn rfl (dD D 1) rfl) HST.out ?_
      refine mD 4 18 2 ?_
      refine sE 5 3 b3 0 o.cells Try.underlying24 (fun u hk=>range_kept HO2.out hk) (by rw [o.len9]; exact ord_size) ?_
      refine mE 6 0 ?_
      refine nD 7 21 5 ?_
      refine fD 8 22 6 66 0 0 0 ?_
      refine sW 9 rfl (fun a u E D hk=>exec_ldp _ _ Try.underlying33 _ _ _ rfl (dD D 7) (Kept.cell hk (HQ2.out))) ?_
      refine cS 10 59 [.pointer (some ⟨q, 0, none⟩)] rfl Try.func59 rfl (fun a u E D hk=>⟨ll (dD D 8) rfl, blast_any u Fb q Mm.b (HK2.out.kept hk)⟩) ?_
      refine cS 11 58 [o.v, .int .i64 Mm.b.last] rfl Try.func58 rfl (fun a u E D hk=>⟨ll (dD D 4) (ll (dD D 9) rfl), (by rw [← HHT.out]; exact hit_any o _ u)⟩) ?_
      refine sW 12 rfl (fun a u E D hk=>exec_not _ _ false rfl (dD D 10)) ?_
      refine pT 13 19 27 3 11 ?_
      exact fz
     intro w3 k3
     simp only [F8]
     go_wp2
     go_meet
     case rel => exact ⟨rfl, k3⟩
    | true =>
     refine wG 13 [pV b3 8, iV o.stop, bV true, bV true, o.v, pV p 0, pV p 0, pV p 0, pV q 0, iV Mm.b.last, bV true, bV false, bV false] [16,17,18,19,20,21,22,23,24,25,26,27,28] ?_ ?_
     ·refine fE 1 3 24 8 8 0 ?_
      refine lD 2 16 0 Try.underlying3 (fun u hk=>range_int (range_kept HO2.out hk) 8 _ rfl) ?_
      refine aS 3 rfl (fun a u E D hk=>exec_gtn rfl (dD D 1) rfl) HST.out ?_
      refine mD 4 18 2 ?_
      refine sE 5 3 b3 0 o.cells Try.underlying24 (fun u hk=>range_kept HO2.out hk) (by rw [o.len9]; exact ord_size) ?_
      refine mE 6 0 ?_
      refine nD 7 21 5 ?_
      refine fD 8 22 6 66 0 0 0 ?_
      refine sW 9 rfl (fun a u E D hk=>exec_ldp _ _ Try.underlying33 _ _ _ rfl (dD D 7) (Kept.cell hk (HQ2.out))) ?_
      refine cS 10 59 [.pointer (some ⟨q, 0, none⟩)] rfl Try.func59 rfl (fun a u E D hk=>⟨ll (dD D 8) rfl, blast_any u Fb q Mm.b (HK2.out.kept hk)⟩) ?_
      refine cS 11 58 [o.v, .int .i64 Mm.b.last] rfl Try.func58 rfl (fun a u E D hk=>⟨ll (dD D 4) (ll (dD D 9) rfl), (by rw [← HHT.out]; exact hit_any o _ u)⟩) ?_
      refine sW 12 rfl (fun a u E D hk=>exec_not _ _ true rfl (dD D 10)) ?_
      refine pT 13 19 27 3 11 ?_
      exact fz
     intro w3 k3
     simp only [F8]
     go_wp2
     go_meet
     case rel => exact ⟨rfl, k3⟩
  obtain ⟨rfl, k3⟩ := hcut
  have k03 := k02.trans k3
  have HO3 := Lib.hid (range_kept HO2.out k3)
  have HB43 := Lib.hid (HB42.out.kept k3)
  have HP3 := Lib.hid (HPP.out.kept k03)
  have z3 := k3.size
  clear HO2 HB42 HQ2 HK2 k3
  cases hw : (s && !ht) with
  | true =>
   have hxe : x = (⟨⟨o, [], o.qty, false, false, 0⟩, true⟩, ⟨Mm.b, Mm.w ++ [o]⟩) := by rw [HX1.out, if_pos (by rw [HW.out]; exact hw)]
   subst hxe
   have HV3 : Hid (wc.cell? ⟨p, 1, none⟩ = some v) := HP3.out.blk.cell 1
   clear hw
   go_upto_region 5 with fail
   refine wp_freeT 7 [.eq (.pointer (some ⟨p, 0, none⟩)), .eq (.pointer (some ⟨p, 0, none⟩)), .eq (.pointer (some ⟨p, 0, none⟩)), .eq (.pointer (some ⟨p, 1, none⟩)), .eq (v), .eq (o.v), .sl wc.heap.size 24 9 1 o.cells] (.pointer (some ⟨p, 0, none⟩)) ((fun v' u u' => Sl u' 24 9 v' (Mm.w.length + 1) (ords Mm.w ++ o.cells) ∧ Keep (fun b => v.ownBlock = some b) u u' ∧ ∀ b, v'.ownBlock = some b → v.ownBlock = some b ∨ wc.heap.size ≤ b)) (by kernel_rfl) rfl rfl (by kernel_rfl) (by kernel_rfl) (t_zero (d := 29) _ rfl rfl rfl (by kernel_rfl) (by kernel_rfl)) ?_ (fun a u hE hD hk =>  (by obtain ⟨v', u', hr, hs', hk', ho'⟩ := run_append_sl slO _ u v (a.eval (.tmp 35)) Mm.w.length 1 (ords Mm.w) o.cells (HP3.out.sl.kept hk) ((hD 6 35 (by kernel_rfl))).1 (Ord.one1 _) (by unfold maxLen; omega) (by omega); exact t_last (o := ⟨some 36, _, _, _, _, _⟩) (R := (fun v' u u' => Sl u' 24 9 v' (Mm.w.length + 1) (ords Mm.w ++ o.cells) ∧ Keep (fun b => v.ownBlock = some b) u u' ∧ ∀ b, v'.ownBlock = some b → v.ownBlock = some b ∨ wc.heap.size ≤ b)) (m := 7) (v := v') (w' := u') rfl (wanted_none rfl _) (exec_appS slO (.tmp 33) (.tmp 35) v _ rfl (dD hD 4) rfl v' u' hr) ⟨hs', hk', fun b hb => (ho' b hb).imp id (fun h => Nat.le_trans hk.size h)⟩)) ?_
   ·refine mE 2 0 ?_
    refine nD 3 30 1 ?_
    refine fD 4 31 2 66 1 1 0 ?_
    refine sW 5 rfl (fun a u E D hk=>exec_ldv _ _ Try.underlying35 _ _ _ rfl (dD D 3) (Kept.cell hk (HV3.out))) ?_
    refine sE 6 3 b3 0 o.cells Try.underlying24 (fun u hk=>range_kept HO3.out hk) (by rw [o.len9]; exact ord_size) ?_
    refine nW 7 rfl (fun a u E D hk=>⟨_, _, exec_oneS slO _ o.cells (by omega) rfl (dD D 5) (o.len9), (sl_one u 24 9 _ wc.heap.size (o.len9) (by omega) hk.size), ((Keep.refl _ u).alloc _)⟩) ?_
    exact fz
   intro gv w1 w4 hV h0 hR hk1
   rw [dq 8 [29,30,31,32,33,34,35,36]]
   simp only [Fz7]
   have hT := hR 36 (by kernel_rfl)
   generalize gv 36 = v36 at hT ⊢
   rw [show gv 29 = .pointer (some ⟨p, 0, none⟩) from h0 29 (by kernel_rfl)]
   clear hV h0 hR
   obtain ⟨hs4, hk4, ho4⟩ := hT
   have hB4 := (HP3.out.blk.kept hk1).keep hk4 (fun hb => (HP3.out.nv p hb).1 rfl)
   have hv4p : ∀ b, v36.ownBlock = some b → b ≠ p := fun b hb e => (ho4 b hb).elim (fun h => (HP3.out.nv b h).1 e) (fun h => by omega)
   refine l_val (.pointer (some ⟨p, 0, none⟩)) rfl (exec_nilp (.tmp 29) ⟨p, 0, none⟩ rfl (by kernel_rfl)) ?_
   simp only [Act.put, sA, sS, sZ]
   refine l_val (.pointer (some ⟨p, 1, none⟩)) rfl (exec_fldo 66 1 1 (.tmp 37) (p) (0) (1) rfl (by kernel_rfl) (by kernel_rfl) rfl) ?_
   simp only [Act.put, sA, sS, sZ]
   refine l_st1 35 p 1 66 _ v36 _ _ rfl rfl (by kernel_rfl) (by kernel_rfl) (by kernel_rfl) (sl_cells hs4) (sl_onec hs4) hB4 (by simp [mkCells]) ?_
   intro w5 hB5 hk5 hs5
   simp only [Act.put]
   refine wpList_nil ?_
   obtain ⟨v', hv'⟩ : ∃ v', v' = v36 := ⟨_, rfl⟩
   subst hv'
   have hB5' : Blk w5 p 66 (mkCells q v') := hB5
   have z4 := hk1.size
   have z5 := hk4.size
   have z6 := hk5.size
   have HO5 := Lib.hid (range_keep (range_keep (range_kept HO3.out hk1) hk4 (fun e => by have := HPP.out.sl.lt e; omega)) hk5 (fun e => by omega))
   have HB45 := Lib.hid (((HB43.out.kept hk1).keep hk4 (fun e => by have := HPP.out.sl.lt e; omega)).keep hk5 (fun e => by omega))
   have hBk5 := ((HP3.out.bk.kept hk1).keep hk4 (fun b hb e => (HP3.out.nv b e).2 hb)).keep hk5 (fun b hb e => HP3.out.nb (by rw [← e]; exact hb))
   have hS5 := hs4.keep hk5 (fun b hb e => hv4p b hb e)
   have hP5 : MkP w5 p q v' Fb ⟨Mm.b, Mm.w ++ [o]⟩ := ⟨hB5', hBk5, by rw [List.length_append, ords_snoc]; exact hS5, HP3.out.nb, fun b hb => ⟨hv4p b hb, fun e => (ho4 b hb).elim (fun h => (HP3.out.nv b h).2 e) (fun h => by have := HP3.out.bk.lt b e; omega)⟩⟩
   have HP5 := Lib.hid hP5
   have KF5 : Keep F w w5 := ((Keep.any (k03.trans hk1) hk4).mono (fun b _ hb => HFF.out b (.inl (.inr hb)))).trans hk5 (fun b _ hb => HFF.out b (.inl (.inl hb)))
   have zw := k03.size
   have HG : Hid (Grow w F (foot p v' Fb)) := fun b hb => by
    rcases hb with (hb | hb) | hb
    ·exact .inl (HFF.out b (.inl (.inl hb)))
    ·exact (ho4 b hb).imp (fun h => HFF.out b (.inl (.inr h))) (fun h => by omega)
    ·exact .inl (HFF.out b (.inr hb))
   have HV4 : Hid (∀ b, v'.ownBlock = some b → F b ∨ wc.heap.size ≤ b) := fun b hb => (ho4 b hb).imp (fun h => HFF.out b (.inl (.inr h))) id
   clear hs4 hk4 ho4 hB4 hv4p hB5 hB5' hk5 hs5 hBk5 hS5 hP5 HO3 HB43 HV3 HP3 hk1
   go_upto_region 6 with fail
   refine wEp 4 [o.v, pV b3 6, iV o.qty, (Ot.mk (Oc.mk o [] o.qty false false 0) true).v (.slice none 0 0)] [39,40,41,42] ?_ ?_
   ·refine sE 1 3 b3 0 o.cells Try.underlying24 (fun u hk=>range_kept HO5.out hk) (by rw [o.len9]; exact ord_size) ?_
    refine fE 2 3 24 6 6 0 ?_
    refine lD 3 40 1 Try.underlying3 (fun u hk=>range_int (range_kept HO5.out hk) 6 _ rfl) ?_
    refine sW 4 rfl (fun a u E D hk=>exec_build _ [(0, .tmp 39), (2, .tmp 41), (4, .const (.bool true))] ((Ot.mk (Oc.mk o [] o.qty false false 0) true).cells (.slice none 0 0)) rfl (by simp only [List.map_cons, List.map_nil]; rw [show a.eval (.tmp 39) = o.v from (dD D 0), show a.eval (.tmp 41) = .int .i64 o.qty from (dD D 2)]; exact built_otw o o.qty)) ?_
    exact fz
   intro w6 k6
   simp only [F8]
   refine l_setS 54 b4 54 (zeroC.cells (.slice none 0 0)) ((Ot.mk (Oc.mk o [] o.qty false false 0) true).cells (.slice none 0 0)) _ _ rfl rfl (by kernel_rfl) (by kernel_rfl) (HB45.out.kept k6) (by rw [Ot.len15]; exact szC) (by rw [Ot.len15]; rfl) (Ot.one _ _ rfl) ?_
   intro w7 hCw7 hkw7 hsw7
   simp only [Act.put]
   refine wpList_nil ?_
   go_wp2
   refine bodyPost_ret (results_cell (p := 4) rfl _ _ b4 _ ((Ot.mk (Oc.mk o [] o.qty false false 0) true).cells (.slice none 0 0)) rfl hCw7 Try.underlying54 (by rw [Ot.len15]; exact szC)) rfl ?_
   have h4f : ∀ b, foot p v' Fb b → b ≠ b4 := fun b hb e => by
    rcases hb with (hb | hb) | hb
    ·omega
    ·exact (HV4.out b hb).elim (fun h => h4F (by rw [← e]; exact h)) (fun h => by omega)
    ·exact h4F (by rw [← e]; exact HFF.out b (.inr hb))
   exact ⟨_, .slice none 0 0, rfl, ((HP5.out.kept k6).keep hkw7 h4f).close, Sl.nil _ _ _, fun b hb => by simp [Value.ownBlock] at hb, HG.out, (KF5.kept k6).new hkw7 (by omega)⟩
  | false =>
   have hxe : x = (⟨(Mm.b.enter o).1, false⟩, ⟨(Mm.b.enter o).2, Mm.w⟩) := by rw [HX1.out, if_neg (by rw [HW.out, hw]; simp)]
   obtain ⟨y, B2, hy⟩ : ∃ y B2, Mm.b.enter o = (y, B2) := ⟨_, _, rfl⟩
   rw [hy] at hxe
   have HY := Lib.hid hy
   subst hxe
   clear hw hy
   go_upto_region 7 with fail
   refine wEp 2 [pV p 0, o.v] [43,44] ?_ ?_
   ·refine mE 1 0 ?_
    refine sE 2 3 b3 0 o.cells Try.underlying24 (fun u hk=>range_kept HO3.out hk) (by rw [o.len9]; exact ord_size) ?_
    exact fz
   intro w4 k4
   simp only [F8]
   refine l_call 60 #[.pointer (some ⟨p, 0, none⟩), o.v] rfl (exec_call 60 _ [.tmp 43, .tmp 44] _ _ Try.func60 (by kernel_rfl) (by kernel_rfl) rfl (by kernel_rfl) _) ?_
   refine (enter_any w4 Fb p q v Mm.b o (HP3.out.blk.kept k4) (HP3.out.bk.kept k4) HP3.out.nb HI.out.inv hno).mono ?_
   rintro r w5 ⟨F2, vf, rfl, hK5, hF5, hO5, hG5, hk5⟩
   rw [HY.out] at hK5 hF5 ⊢
   refine ⟨_, rfl, ?_⟩
   simp only [Act.put, sA, sS, sZ]
   refine l_setS 54 b4 54 (zeroC.cells (.slice none 0 0)) ((Ot.mk y false).cells vf) _ _ rfl rfl (by kernel_rfl) (by kernel_rfl) (((HB43.out.kept k4).keep hk5 (fun e => h4F (HFF.out _ (.inr e))))) (by rw [Ot.len15]; exact szC) (by rw [Ot.len15]; rfl) (Ot.one _ _ (sl_onec hF5)) ?_
   intro w6 hCw6 hkw6 hsw6
   simp only [Act.put]
   refine wpList_nil ?_
   have h4Fb : ¬ Fb b4 := fun e => h4F (HFF.out _ (.inr e))
   have z4 := k4.size
   have z5 := hk5.size
   have zw := k03.size
   have h4F2 : ¬ F2 b4 := fun e => (hG5 _ e).elim h4Fb (fun e => by omega)
   have KF : Keep Fb w w5 := Keep.any (k03.trans k4) hk5
   have hpF2 : ¬ F2 p := fun e => (hG5 _ e).elim HP3.out.nb (fun e => by omega)
   have hvl : ∀ b, v.ownBlock = some b → b < w.heap.size := fun b hb => HPP.out.sl.lt hb
   have hP6 : MkP w6 p q v F2 ⟨B2, Mm.w⟩ := ⟨(HPP.out.blk.keep KF HPP.out.nb).keep hkw6 (fun e => by omega), hK5.keep hkw6 (fun b hb e => h4F2 (by rw [← e]; exact hb)), (HPP.out.sl.keep KF (fun b hb => (HPP.out.nv b hb).2)).keep hkw6 (fun b hb e => by have := hvl b hb; omega), hpF2, fun b hb => ⟨(HPP.out.nv b hb).1, fun e => (hG5 b e).elim (HPP.out.nv b hb).2 (fun e => by have := hvl b hb; omega)⟩⟩
   go_wp2
   refine bodyPost_ret (results_cell (p := 4) rfl _ _ b4 _ ((Ot.mk y false).cells vf) rfl hCw6 Try.underlying54 (by rw [Ot.len15]; exact szC)) rfl ?_
   refine ⟨_, vf, rfl, hP6.close, hF5.keep hkw6 (fun b hb e => by have := (hO5 b hb).1; omega), fun b hb => ⟨by have := (hO5 b hb).1; omega, fun e => ?_⟩, fun b hb => ?_, (KF.mono (fun b _ hb => HFF.out b (.inr hb))).new hkw6 (by omega)⟩
   ·have h1 := hO5 b hb
    rcases e with (e | e) | e
    ·omega
    ·have := hvl b e; omega
    ·exact h1.2 e
   ·rcases hb with hb | hb
    ·exact .inl (HFF.out b (.inl hb))
    ·exact (hG5 b hb).imp (fun h => HFF.out b (.inr h)) (fun h => by omega)
def sliceN : Value → Nat | .slice _ n _ => n | _ => 0
theorem sliceN_sl {w : World} {T : TypeId} {k n : Nat} {v : Value} {cs : List Value} (h : Sl w T k v n cs) : sliceN v = n := by
 obtain ⟨A, c, rfl⟩ := h.slice_
 rfl
def CasIn (w : World) (F : Nat → Prop) (p base : Nat) (v0 : Value) (L : List Ot) (M : Mkt) (r : Ending) (w' : World) : Prop :=
 ∃ F' v' Z', r = .returned v' ∧ Mk w' F' p M ∧ Outs w' base F' v' L Z' ∧ Grow w F F' ∧ Keep (fun b => F b ∨ v0.ownBlock = some b) w w'
set_option maxRecDepth 100000 in
set_option maxHeartbeats 3200000 in
theorem cascade_any (w : World) (F : Nat → Prop) (p base : Nat) (v0 : Value) (L : List Ot) (Z : List (Ot × Value)) (Mm : Mkt) (h : Mk w F p Mm) (hI : InvK Mm) (hno : Mm.b.no + 1048576 * Mm.w.length ≤ 1000000000000) (hO : Outs w base F v0 L Z) (hL : L.length ≤ 1000) (hb : base ≤ w.heap.size) :
  Calls Try.prog 42 #[.pointer (some ⟨p, 0, none⟩), v0] w (CasIn w F p base v0 (L ++ Mm.cas.1) Mm.cas.2) := by
 have HM := Lib.hid h
 have HI := Lib.hid hI
 have HO := Lib.hid hO
 have hw64 : Mm.w.length ≤ 64 := by have := hI.few; omega
 obtain ⟨N, hN⟩ : ∃ N, L.length + Mm.w.length = N := ⟨_, rfl⟩
 have HN := Lib.hid hN
 clear h hI hO
 go_enter Try.func42, Try.ntmps42
 go_wp2_with fail
 go_loopw [1] (fun x wr => ∃ (Mr : Mkt) (Fr : Nat → Prop) (Zr : List (Ot × Value)) (D : List Ot), Hid (Mk wr Fr p Mr) ∧ Hid (InvK Mr) ∧ Hid (Mr.b.no + 1048576 * Mr.w.length ≤ 1000000000000) ∧ Hid (Outs wr base Fr x (L ++ D) Zr) ∧ Hid (Mm.cas = (D ++ Mr.cas.1, Mr.cas.2)) ∧ Hid (Grow w F Fr) ∧ Hid (Keep (fun b => F b ∨ v0.ownBlock = some b) w wr) ∧ Hid (∀ b, x.ownBlock = some b → v0.ownBlock = some b ∨ w.heap.size ≤ b) ∧ L.length + D.length + Mr.w.length = N) (fun x _ => N - sliceN x)
 case atStart => exact ⟨Mm, F, Z, [], HM.out, HI.out, hno, by show Outs _ _ _ _ _ _; rw [List.append_nil]; exact HO.out, by show _ = _; rw [List.nil_append], Grow.refl _ _, Keep.refl _ _, fun b hb => .inl hb, by simpa using hN⟩
 case round =>
  obtain ⟨Mr, Fr, Zr, D, HMr, HIr, HNo, HOr, HC, HGr, HKr, HVr, hn⟩ := hrel
  obtain ⟨v1, hv1⟩ : ∃ x, x = u1 := ⟨_, rfl⟩
  subst hv1
  have hlr : Mr.w.length ≤ 64 := by have := HIr.out.few; omega
  obtain ⟨j, hj⟩ : ∃ j, placeW (fun o => o.hit Mr.b.last) Mr.w = j := ⟨_, rfl⟩
  have HJ := Lib.hid hj
  go_upto_region 1 with fail
  refine wE 3 [pV p 0, iV j, iV j] [6,7,5] ?_ ?_
  ·refine mE 1 0 ?_
   refine cS 2 61 [.pointer (some ⟨p, 0, none⟩)] rfl Try.func61 rfl (fun a u E D hk=>⟨ll (dD D 0) rfl, (by rw [← HJ.out]; obtain ⟨_, q, v, Fb, hP, _⟩ := HMr.out.kept hk; exact triggered_any u Fb p q v Mr.b Mr.w hP.blk hP.bk hP.sl (by omega))⟩) ?_
   refine mD 3 7 1 ?_
   exact fz
  intro w1 k1
  simp only [F8]
  have HM1 := Lib.hid (HMr.out.kept k1)
  have HO1 := Lib.hid (HOr.out.kept k1)
  have HK1 : Hid (Keep (fun b => F b ∨ v0.ownBlock = some b) w w1) := HKr.out.kept k1
  clear HMr HOr HKr k1
  cases hw : Mr.w[Mr.trig]? with
  | none =>
   have hj1 : j = -1 := by rw [← hj]; exact place_none hw
   subst hj1
   have HC2 : Hid (Mm.cas = (D, Mr)) := by show _ = _; rw [HC.out, cas_none hw, List.append_nil]
   clear hj hw HJ
   go_upto_region 2 with fail
   refine wE 2 [iV (-1), bV true] [8,9] ?_ ?_
   ·refine mE 1 5 ?_
    refine aS 2 rfl (fun a u E D hk=>exec_ltn rfl (dD D 0) rfl) (by decide) ?_
    exact fz
   intro w2 k2
   simp only [F8]
   go_wp2
   go_ret
   rw [HC2.out]
   first | exact ⟨rfl, Fr, Zr, HM1.out.kept k2, HO1.out.kept k2, HGr.out, HK1.out.kept k2⟩ | exact ⟨Fr, v1, Zr, rfl, HM1.out.kept k2, HO1.out.kept k2, HGr.out, HK1.out.kept k2⟩
  | some e =>
   have hj1 : j = (Mr.trig : Int) := by rw [← hj]; exact place_some hw
   have HC2 : Hid (Mm.cas = ((D ++ [⟨(Mr.b.enter e).1, false⟩]) ++ (Mr.next e).cas.1, (Mr.next e).cas.2)) := by show _ = _; rw [HC.out, cas_some hw, List.append_assoc]; rfl
   have HIn := Lib.hid (HIr.out.next hw)
   obtain ⟨k, hk⟩ : ∃ k, Mr.trig = k := ⟨_, rfl⟩
   have HNX : Hid (Mr.next e = ⟨(Mr.b.enter e).2, Mr.w.eraseIdx k⟩) := by show _ = _; rw [← hk]; rfl
   rw [hk] at hj1 hw
   have hkl : k < Mr.w.length := (List.getElem?_eq_some_iff.1 hw).1
   have hle : (Mr.w.eraseIdx k).length = Mr.w.length - 1 := by rw [List.length_eraseIdx, if_pos hkl]
   have HEI := Lib.hid hw
   subst hj1
   obtain ⟨y, B2, hy⟩ : ∃ y B2, Mr.b.enter e = (y, B2) := ⟨_, _, rfl⟩
   have HNo2 : Hid (B2.no + 1048576 * (Mr.w.eraseIdx k).length ≤ 1000000000000) := by
    show _ ≤ _
    have h1 := (enter_inv (o := e) HIr.out.inv).2.2
    have h2 := HNo.out
    rw [hy] at h1
    rw [hle]
    have h3 : B2.no ≤ Mr.b.no + 1048576 := h1
    omega
   rw [hy] at HNX HC2
   rw [HNX.out] at HIn HC2
   have HY := Lib.hid hy
   clear hj hw HJ hk hy HC
   go_upto_region 2 with fail
   refine wE 2 [iV (k : Int), bV false] [8,9] ?_ ?_
   ·refine mE 1 5 ?_
    refine aS 2 rfl (fun a u E D hk=>exec_ltn rfl (dD D 0) rfl) (decide_eq_false (by omega)) ?_
    exact fz
   intro w2 k2
   simp only [F8]
   have HM2 := Lib.hid (HM1.out.kept k2)
   have HO2 := Lib.hid (HO1.out.kept k2)
   have HK2 : Hid (Keep (fun b => F b ∨ v0.ownBlock = some b) w w2) := HK1.out.kept k2
   clear HM1 HO1 HK1 k2
   obtain ⟨hFl, q, v, Fb, hP, hfF⟩ := HM2.out
   have HPP := Lib.hid hP
   have HFF := Lib.hid hfF
   have HFL := Lib.hid hFl
   have hz2 : w.heap.size ≤ w2.heap.size := HK2.out.size
   clear hP hfF HM2
   go_upto_region 4 with fail
   refine wEp 4 [v1, pV p 0, pV p 0, iV (k : Int)] [11,12,13,14] ?_ ?_
   ·refine mE 1 1 ?_
    refine mE 2 0 ?_
    refine mE 3 0 ?_
    refine mE 4 5 ?_
    exact fz
   intro w3 k3
   simp only [F8]
   refine l_call 40 #[.pointer (some ⟨p, 0, none⟩), .int .i64 (k : Int)] rfl (exec_call 40 _ [.tmp 13, .tmp 14] _ _ Try.func40 (by kernel_rfl) (by kernel_rfl) rfl (by kernel_rfl) _) ?_
   refine (mtake_any w3 p q v Mr.w k e (HPP.out.blk.kept k3) (HPP.out.sl.kept k3) HEI.out (by omega) (fun b hb => (HPP.out.nv b hb).1)).mono ?_
   rintro r w4 ⟨v', rfl, hB4, hS4, hv4, hk4⟩
   refine ⟨_, rfl, ?_⟩
   have hK4 := (HPP.out.bk.kept k3).keep hk4 (fun b hb e => e.elim (fun e => HPP.out.nb (by rw [← e]; exact hb)) (fun e => (HPP.out.nv b e).2 hb))
   simp only [Act.put, sA, sS, sZ]
   refine l_call 60 #[.pointer (some ⟨p, 0, none⟩), e.v] rfl (exec_call 60 _ [.tmp 12, .tmp 15] _ _ Try.func60 (by kernel_rfl) (by kernel_rfl) rfl (by kernel_rfl) _) ?_
   refine (enter_any w4 Fb p q v' Mr.b e hB4 hK4 HPP.out.nb HIr.out.inv (by have := HNo.out; omega)).mono ?_
   rintro r w5 ⟨F2, vf, rfl, hK5, hF5, hO5, hG5, hk5⟩
   rw [HY.out] at hK5 hF5 ⊢
   refine ⟨_, rfl, ?_⟩
   simp only [Act.put, sA, sS, sZ]
   refine l_new (.slice (some ⟨w5.heap.size, 0, none⟩) 1 1) (w5.alloc (.cells ((Ot.mk y false).cells vf).toArray 54)) rfl (exec_oneS slC (.tmp 16) ((Ot.mk y false).cells vf) (by omega) rfl (by kernel_rfl) (Ot.len15 _ _)) ?_
   have hone := sl_one w5 54 15 ((Ot.mk y false).cells vf) w5.heap.size (Ot.len15 _ _) (by omega) (Nat.le_refl _)
   have kN : Kept w5 (w5.alloc (.cells ((Ot.mk y false).cells vf).toArray 54)) := (Keep.refl _ w5).alloc _
   generalize w5.alloc (.cells ((Ot.mk y false).cells vf).toArray 54) = w6 at hone kN ⊢
   have z3 := k3.size
   have z4 := hk4.size
   have z5 := hk5.size
   have zN := kN.size
   have hFoot : ∀ b, foot p v Fb b → Fr b := HFF.out
   have K25 : Keep Fr w2 w5 := ((Keep.any k3 hk4).mono (fun b _ hb => hb.elim (fun h => hFoot b (.inl (.inl h))) (fun h => hFoot b (.inl (.inr h))))).trans hk5 (fun b _ hb => hFoot b (.inr hb))
   have hG2 : ∀ b, foot p v' F2 b → Fr b ∨ w2.heap.size ≤ b := fun b hb => hb.elim (fun hb => hb.elim (fun hb => .inl (hFoot b (.inl (.inl hb)))) (fun hb => .inl (hFoot b (.inl (.inr (by rw [← hv4]; exact hb)))))) (fun hb => (hG5 b hb).imp (fun h => hFoot b (.inr h)) (fun h => by omega))
   have hP6 : MkP w6 p q v' F2 ⟨B2, Mr.w.eraseIdx k⟩ := ⟨(hB4.keep hk5 HPP.out.nb).kept kN, hK5.kept kN, (hS4.keep hk5 (fun b hb => (HPP.out.nv b (by rw [← hv4]; exact hb)).2)).kept kN, fun e => (hG5 p e).elim HPP.out.nb (fun e => by have := HPP.out.blk.lt; omega), fun b hb => ⟨(HPP.out.nv b (by rw [← hv4]; exact hb)).1, fun e => (hG5 b e).elim (HPP.out.nv b (by rw [← hv4]; exact hb)).2 (fun e => by have := hS4.lt hb; omega)⟩⟩
   have hO6 : Outs w6 base (foot p v' F2) v1 (L ++ D) Zr := ((((HO2.out.beside (G' := fun b => Fr b ∨ foot p v' F2 b) (n := w2.heap.size) (fun b hb => hb.elim .inl (hG2 b)) (Nat.le_refl _)).keep K25 (fun b hb1 hb2 hb3 e => hb2 (.inl e)))).less (fun b hb => .inr hb)).kept kN
   have hvf : ∀ b, vf.ownBlock = some b → base ≤ b ∧ ¬ foot p v' F2 b ∧ v1.ownBlock ≠ some b := fun b hb => ⟨by have := (hO5 b hb).1; omega, fun e => e.elim (fun e => e.elim (fun e => by have := (hO5 b hb).1; have := HPP.out.blk.lt; omega) (fun e => by have := (hO5 b hb).1; have := hS4.lt e; omega)) (hO5 b hb).2, fun e => by have := (hO5 b hb).1; have := HO2.out.sl.lt e; omega⟩
   simp only [Act.put, sA, sS, sZ]
   obtain ⟨v7, w7, hr7, hO7, hk7, ho7⟩ := hO6.snoc (Ot.mk y false) vf (.slice (some ⟨w5.heap.size, 0, none⟩) 1 1) 39 (hF5.kept kN) hvf hone.1 (by rw [List.length_append]; omega) (by omega) hP6.foot_lt
   refine l_new v7 w7 rfl (exec_appS slC (.tmp 11) (.tmp 17) v1 _ rfl (by kernel_rfl) (by kernel_rfl) v7 w7 hr7) ?_
   simp only [Act.put, sA, sS, sZ]
   refine l_val (v7) rfl (exec_assign _ _ rfl (by kernel_rfl)) ?_
   simp only [Act.put, sA, sS, sZ]
   refine wpList_nil ?_
   have z7 := hk7.size
   have hv1G : ∀ b, v1.ownBlock = some b → ¬ foot p v' F2 b := fun b hb => (hO6.own b hb).2
   have hP7 := hP6.keep hk7 (fun b hb e => hv1G b e hb)
   have hGn : Grow w F (foot p v' F2) := fun b hb => (hG2 b hb).elim (HGr.out b) (fun h => .inr (by omega))
   have hKn : Keep (fun b => F b ∨ v0.ownBlock = some b) w w7 := ((HK2.out.trans K25 (fun b hb e => (HGr.out b e).elim .inl (fun e => by omega))).kept kN).trans hk7 (fun b hb e => (HVr.out b e).elim .inr (fun e => by omega))
   have hVn : ∀ b, v7.ownBlock = some b → v0.ownBlock = some b ∨ w.heap.size ≤ b := fun b hb => (ho7 b hb).elim (HVr.out b) (fun h => .inr (by omega))
   have hlen7 : sliceN v7 = L.length + D.length + 1 := by rw [sliceN_sl hO7.sl, hO7.len, List.length_append, List.length_append]; rfl
   have hlen1 : sliceN v1 = L.length + D.length := by rw [sliceN_sl hO6.sl, hO6.len, List.length_append]
   have HP7 := Lib.hid hP7.close
   have HO7 : Hid (Outs w7 base (foot p v' F2) v7 (L ++ (D ++ [⟨y, false⟩])) (Zr ++ [(Ot.mk y false, vf)])) := by show Outs _ _ _ _ _ _; rw [← List.append_assoc]; exact hO7
   have HGn := Lib.hid hGn
   have HKn := Lib.hid hKn
   have HVn := Lib.hid hVn
   clear hk7 hv1G hP7 hGn hKn hVn hO7 ho7 hr7 hO6 hP6 hG2 K25 hFoot hone kN hK5 hF5 hO5 hG5 hk5 hB4 hS4 hv4 hk4 hK4 k3 HPP HFF HFL hvf
   go_wp2
   exact ⟨⟨_, _, _, D ++ [⟨y, false⟩], HP7, HIn, HNo2, HO7, HC2, HGn, HKn, HVn, by simp only [List.length_append, List.length_cons, List.length_nil]; rw [hle]; omega⟩, by rw [hlen7, hlen1]; omega⟩
theorem outs_one {w : World} {base : Nat} {G : Nat → Prop} {x : Ot} {vf y : Value} (hf : Sl w 61 21 vf x.c.f.length (fls x.c.f)) (hy : Sl w 54 15 y 1 (x.cells vf)) (h1 : ∀ b, vf.ownBlock = some b → base ≤ b ∧ ¬ G b ∧ y.ownBlock ≠ some b) (h2 : ∀ b, y.ownBlock = some b → base ≤ b ∧ ¬ G b) : Outs w base G y [x] [(x, vf)] :=
 ⟨rfl, by simpa [outc] using hy, h2, fun z hz => (by simp at hz; subst hz; exact hf), fun z hz b hb => (by simp at hz; subst hz; exact h1 b hb)⟩
def MAddIn (w : World) (F : Nat → Prop) (p : Nat) (x : List Ot × Mkt) (r : Ending) (w' : World) : Prop :=
 ∃ F' v' Z', r = .returned v' ∧ Mk w' F' p x.2 ∧ Outs w' w.heap.size F' v' x.1 Z' ∧ Grow w F F' ∧ Keep F w w'
set_option maxRecDepth 100000 in
set_option maxHeartbeats 3200000 in
theorem madd_any (w : World) (F : Nat → Prop) (p : Nat) (Mm : Mkt) (o : Ord) (h : Mk w F p Mm) (hI : InvK Mm) (hno : Mm.b.no ≤ 900000000000) : Calls Try.prog 24 #[.pointer (some ⟨p, 0, none⟩), o.v] w (MAddIn w F p (Mm.add o)) := by
 have hFl := h.lt
 have HM := Lib.hid h
 have HI := Lib.hid hI
 have HIA := Lib.hid (hI.arrive o)
 have HNA := Lib.hid (arrive_no hI o)
 obtain ⟨x, M2, hx⟩ : ∃ x M2, Mm.arrive o = (x, M2) := ⟨_, _, rfl⟩
 rw [hx] at HIA HNA
 obtain ⟨r, hr⟩ : ∃ r, Mm.add o = r := ⟨_, rfl⟩
 have HR : Hid (r = if x.c.err ≠ 0 then ([x], M2) else (x :: M2.cas.1, M2.cas.2)) := by show _ = _; rw [← hr]; unfold Mkt.add; rw [hx]
 have HX := Lib.hid hx
 rw [hr]
 clear h hI hx hr
 go_enter Try.func24, Try.ntmps24
 go_upto_region 0 with fail
 refine wp_text 2 [.fresh w.heap.size 24 (o.cells), .eq (.slice none 0 0)] rfl (by kernel_rfl) ?_ ?_
 ·refine nW 1 rfl (fun a u E D hk=>⟨_, _, exec_box 24 _ (o.cells) rfl (eE E), ⟨_, rfl, hk.size, Blk.new u _ _⟩, ((Keep.refl _ u).alloc _)⟩) ?_
  refine sW 2 rfl (fun a u E D hk=>exec_assign _ _ rfl rfl) ?_
  exact fz
 intro gv w0 hV k0
 rw [dq 2 [3,4]]
 simp only [Fz7]
 have hv3 : (.fresh w.heap.size 24 (o.cells) : Kn).p (gv 3) w0 := hV 0 3 (by kernel_rfl)
 generalize gv 3 = v3 at hv3 ⊢
 rw [gQ hV 1 4 (.slice none 0 0)]
 clear hV
 obtain ⟨b3, rfl, hb3, hB3⟩ := hv3
 refine wpList_nil ?_
 have HO := Lib.hid (blk_range hB3)
 have l3 := hB3.lt
 have z0 := k0.size
 clear hB3
 go_upto_region 1 with fail
 refine wEp 2 [pV p 0, o.v] [6,7] ?_ ?_
 ·refine mE 1 0 ?_
  refine sE 2 3 b3 0 o.cells Try.underlying24 (fun u hk=>range_kept HO.out hk) (by rw [o.len9]; exact ord_size) ?_
  exact fz
 intro w1 k1
 simp only [F8]
 refine l_call 41 #[.pointer (some ⟨p, 0, none⟩), o.v] rfl (exec_call 41 _ [.tmp 6, .tmp 7] _ _ Try.func41 (by kernel_rfl) (by kernel_rfl) rfl (by kernel_rfl) _) ?_
 refine (arrive_any w1 F p Mm o (HM.out.kept (k0.trans k1)) HI.out (by omega)).mono ?_
 rintro r' w2 ⟨F2, vf, rfl, hM2, hF2, hO2, hG2, hk2⟩
 rw [HX.out] at hM2 hF2 ⊢
 refine ⟨_, rfl, ?_⟩
 simp only [Act.put, sA, sS, sZ]
 refine l_new (.pointer (some ⟨w2.heap.size, 0, none⟩)) (w2.alloc (.cells (zeroC.cells (.slice none 0 0)).toArray 54)) rfl (exec_alc 54 (zeroC.cells (.slice none 0 0)) rfl zC) ?_
 have hNw3 := Blk.new w2 54 (zeroC.cells (.slice none 0 0))
 have kw3 : Kept w2 (w2.alloc (.cells (zeroC.cells (.slice none 0 0)).toArray 54)) := (Keep.refl _ w2).alloc _
 generalize w2.alloc (.cells (zeroC.cells (.slice none 0 0)).toArray 54) = w3 at hNw3 kw3 ⊢
 simp only [Act.put, sA, sS, sZ]
 refine l_setS 54 w2.heap.size 54 (zeroC.cells (.slice none 0 0)) ((x).cells vf) _ _ rfl rfl (by kernel_rfl) (by kernel_rfl) (hNw3) (by rw [Ot.len15]; exact szC) (by rw [Ot.len15]; rfl) (Ot.one _ _ (sl_onec hF2)) ?_
 intro w4 hCw4 hkw4 hsw4
 simp only [Act.put]
 refine wpList_nil ?_
 obtain ⟨b5, h5⟩ : ∃ a, w2.heap.size = a := ⟨_, rfl⟩
 rw [h5] at hNw3 hCw4 hkw4 ⊢
 have z1 := k1.size
 have z2 := hk2.size
 have k24 : Kept w2 w4 := kw3.trans' hkw4 (by omega)
 have z4 := k24.size
 have HX5 := Lib.hid (blk_range hCw4)
 have l5 := hCw4.lt
 have HM4 := Lib.hid (hM2.kept k24)
 have HF4 := Lib.hid (hF2.kept k24)
 have HO4 : Hid (∀ b, vf.ownBlock = some b → w.heap.size ≤ b ∧ ¬ F2 b ∧ b < w4.heap.size) := fun b hb => ⟨by have := (hO2 b hb).1; omega, (hO2 b hb).2, by have := hF2.lt hb; omega⟩
 have HG4 : Hid (Grow w F F2) := hG2.wide (by omega)
 have HK4 : Hid (Keep F w w4) := (Keep.any (k0.trans k1) hk2).kept k24
 have HL4 : Hid (∀ b, F2 b → b < w4.heap.size) := HM4.out.lt
 have zw : w.heap.size ≤ w4.heap.size := by omega
 clear hM2 hF2 hO2 hG2 hk2 hNw3 hCw4 hkw4 hsw4 kw3 k24 k0 k1 HO
 by_cases he : x.c.err ≠ 0
 ·have hre : r = ([x], M2) := by rw [HR.out, if_pos he]
  subst hre
  go_upto_region 2 with fail
  refine wE 3 [pV b5 14, iV x.c.err, bV true] [9,10,11] ?_ ?_
  ·refine fE 1 5 54 6 14 0 ?_
   refine lD 2 9 0 Try.underlying40 (fun u hk=>(range_kept (HX5.out) hk) 14 _ rfl) ?_
   refine aS 3 rfl (fun a u E D hk=>exec_nen rfl (dD D 1) rfl) (decide_eq_true he) ?_
   exact fz
  intro w5 k5
  simp only [F8]
  have HX6 := Lib.hid (range_kept HX5.out k5)
  have z5 := k5.size
  clear he HR HX5
  go_upto_region 3 with fail
  refine wEp 1 [x.v vf] [12] ?_ ?_
  ·refine sE 1 5 b5 0 (x.cells vf) Try.underlying54 (fun u hk=>range_kept (HX6.out) hk) (by rw [Ot.len15]; exact szC) ?_
   exact fz
  intro w6 k6
  simp only [F8]
  refine l_new (.slice (some ⟨w6.heap.size, 0, none⟩) 1 1) (w6.alloc (.cells (x.cells vf).toArray 54)) rfl (exec_oneS slC (.tmp 12) (x.cells vf) (by omega) rfl (by kernel_rfl) (Ot.len15 _ _)) ?_
  have hone := sl_one w6 54 15 (x.cells vf) w6.heap.size (Ot.len15 _ _) (by omega) (Nat.le_refl _)
  have kN : Kept w6 (w6.alloc (.cells (x.cells vf).toArray 54)) := (Keep.refl _ w6).alloc _
  generalize w6.alloc (.cells (x.cells vf).toArray 54) = w7 at hone kN ⊢
  simp only [Act.put, sA, sS, sZ]
  refine l_val (.slice (some ⟨w6.heap.size, 0, none⟩) 1 1) rfl (exec_assign _ _ rfl (by kernel_rfl)) ?_
  simp only [Act.put, sA, sS, sZ]
  refine wpList_nil ?_
  have k47 : Kept w4 w7 := (k5.trans k6).trans kN
  have z6 := k6.size
  go_wp2
  go_ret
  refine ⟨F2, _, [(x, vf)], rfl, HM4.out.kept k47, outs_one (HF4.out.kept k47) hone.1 (fun b hb => ⟨(HO4.out b hb).1, (HO4.out b hb).2.1, fun e => by have := (HO4.out b hb).2.2; have := hone.2 b e; omega⟩) (fun b hb => ⟨by have := hone.2 b hb; omega, fun e => by have := hone.2 b hb; have := HL4.out b e; omega⟩), HG4.out, HK4.out.kept k47⟩
 ·have hre : r = (x :: M2.cas.1, M2.cas.2) := by rw [HR.out, if_neg he]
  subst hre
  go_upto_region 2 with fail
  refine wE 3 [pV b5 14, iV x.c.err, bV false] [9,10,11] ?_ ?_
  ·refine fE 1 5 54 6 14 0 ?_
   refine lD 2 9 0 Try.underlying40 (fun u hk=>(range_kept (HX5.out) hk) 14 _ rfl) ?_
   refine aS 3 rfl (fun a u E D hk=>exec_nen rfl (dD D 1) rfl) (decide_eq_false he) ?_
   exact fz
  intro w5 k5
  simp only [F8]
  have HX6 := Lib.hid (range_kept HX5.out k5)
  have z5 := k5.size
  clear he HR HX5
  go_upto_region 4 with fail
  refine wEp 2 [pV p 0, x.v vf] [14,15] ?_ ?_
  ·refine mE 1 0 ?_
   refine sE 2 5 b5 0 (x.cells vf) Try.underlying54 (fun u hk=>range_kept (HX6.out) hk) (by rw [Ot.len15]; exact szC) ?_
   exact fz
  intro w6 k6
  simp only [F8]
  refine l_new (.slice (some ⟨w6.heap.size, 0, none⟩) 1 1) (w6.alloc (.cells (x.cells vf).toArray 54)) rfl (exec_oneS slC (.tmp 15) (x.cells vf) (by omega) rfl (by kernel_rfl) (Ot.len15 _ _)) ?_
  have hone := sl_one w6 54 15 (x.cells vf) w6.heap.size (Ot.len15 _ _) (by omega) (Nat.le_refl _)
  have kN : Kept w6 (w6.alloc (.cells (x.cells vf).toArray 54)) := (Keep.refl _ w6).alloc _
  generalize w6.alloc (.cells (x.cells vf).toArray 54) = w7 at hone kN ⊢
  have k47 : Kept w4 w7 := (k5.trans k6).trans kN
  have z6 := k6.size
  have z7 := kN.size
  have hone2 := hone.2
  have hOt : Outs w7 w.heap.size F2 (.slice (some ⟨w6.heap.size, 0, none⟩) 1 1) [x] [(x, vf)] := outs_one (HF4.out.kept k47) hone.1 (fun b hb => ⟨(HO4.out b hb).1, (HO4.out b hb).2.1, fun e => by have := (HO4.out b hb).2.2; have := hone2 b e; omega⟩) (fun b hb => ⟨by have := hone2 b hb; omega, fun e => by have := hone2 b hb; have := HL4.out b e; omega⟩)
  simp only [Act.put, sA, sS, sZ]
  refine l_call 42 #[.pointer (some ⟨p, 0, none⟩), .slice (some ⟨w6.heap.size, 0, none⟩) 1 1] rfl (exec_call 42 _ [.tmp 14, .tmp 16] _ _ Try.func42 (by kernel_rfl) (by kernel_rfl) rfl (by kernel_rfl) _) ?_
  refine (cascade_any w7 F2 p w.heap.size (.slice (some ⟨w6.heap.size, 0, none⟩) 1 1) [x] [(x, vf)] M2 (HM4.out.kept k47) HIA.out (by have h1 := HNA.out.2; have h2 := HIA.out.few; simp only at h1 h2; omega) hOt (by simp) (by omega)).mono ?_
  rintro r' w8 ⟨F8, v8, Z8, rfl, hM8, hO8, hG8, hk8⟩
  refine ⟨_, rfl, ?_⟩
  simp only [Act.put, sA, sS, sZ]
  refine l_val (v8) rfl (exec_assign _ _ rfl (by kernel_rfl)) ?_
  simp only [Act.put, sA, sS, sZ]
  refine wpList_nil ?_
  have hk8' : Keep F w w8 := (HK4.out.kept k47).trans hk8 (fun b hb e => e.elim (fun e => (HG4.out b e).elim id (fun e => by omega)) (fun e => by have := hone2 b e; omega))
  have hG8' : Grow w F F8 := fun b hb => (hG8 b hb).elim (HG4.out b) (fun h => .inr (by omega))
  clear hk8 hG8 hOt hone hone2 kN k47 k5 k6
  go_wp2
  go_ret
  exact ⟨F8, v8, Z8, rfl, hM8, hO8, hG8', hk8'⟩
theorem add_go {B : Bok} {o : Ord} {m : Mt} (he : B.err o = 0) (hm : B.matched o = m) : B.add o = (⟨o, m.f, m.left, decide (0 < m.left) && !m.self && (decide (o.k = 1) || decide (o.k = 5)), m.self, 0⟩,
  if (decide (0 < m.left) && !m.self && (decide (o.k = 1) || decide (o.k = 5))) = true then ({ B.put (3 - o.side) m.L with last := lastOf B.last m.f, no := B.no + m.f.length } : Bok).put o.side (restM (o.cut m.left) (({ B.put (3 - o.side) m.L with last := lastOf B.last m.f, no := B.no + m.f.length } : Bok).sd o.side)) else { B.put (3 - o.side) m.L with last := lastOf B.last m.f, no := B.no + m.f.length }) := by
 subst hm
 unfold Bok.add
 rw [if_neg (by simp [he])]
 rfl
theorem madd_enter {M : Mkt} {o : Ord} {y : Oc} {B2 : Bok} (he : M.err o = 0) (hw : M.waits o = false) (hy : M.b.add o.free = (y, B2)) (h0 : y.err = 0) : M.add o = (⟨{ y with o := o }, false⟩ :: (Mkt.mk B2 M.w).cas.1, (Mkt.mk B2 M.w).cas.2) := by
 have ha : M.arrive o = (⟨{ y with o := o }, false⟩, ⟨B2, M.w⟩) := by
  unfold Mkt.arrive
  rw [if_neg (fun h => h he), if_neg (by rw [hw]; decide)]
  unfold Bok.enter
  rw [hy]
 unfold Mkt.add
 rw [ha, if_neg (fun h => h h0)]
def mkS (firm id side price qty stop : Int) : Ord := ⟨firm, id, firm, side, 1, price, qty, 0, stop⟩
def s1 : Ord := mkS 1 1 2 10 5 0
def s2 : Ord := mkS 1 2 2 11 5 0
def s3 : Ord := mkS 2 1 1 12 3 10
def s4 : Ord := mkS 3 1 1 10 5 0
def os2 : Ot := ⟨⟨s2, [], 5, true, false, 0⟩, false⟩
theorem madd_at (w : World) (F : Nat → Prop) (p : Nat) (M : Mkt) (o : Ord) (x : List Ot × Mkt) (hx : M.add o = x) (h : Mk w F p M) (hI : InvK M) (hn : M.b.no ≤ 900000000000) : Calls Try.prog 24 #[.pointer (some ⟨p, 0, none⟩), o.v] w (MAddIn w F p x) := by
 rw [← hx]
 exact madd_any w F p M o h hI hn
theorem map_1 {x : Ot} {Z : List (Ot × Value)} (h : Z.map (·.1) = [x]) : ∃ vf, Z = [(x, vf)] := by
 cases Z with
 | nil => cases h
 | cons z Z =>
  rw [List.map_cons, List.cons.injEq] at h
  rw [List.map_eq_nil_iff.1 h.2, ← h.1]
  exact ⟨z.2, rfl⟩
theorem madd_frame {w0 wa wb wc : World} {F F' : Nat → Prop} (k0 : Kept w0 wa) (hF : ∀ b, F b → w0.heap.size ≤ b) (k1 : Kept wa wb) (hk : Keep F wb wc) (hG : Grow wb F F') : Kept w0 wc ∧ ∀ b, F' b → w0.heap.size ≤ b :=
 ⟨Keep.trans (S := fun _ => False) (T := F) (k0.trans k1) hk (fun b hb h => by have := hF b h; omega), fun b hb => (hG b hb).elim (hF b) (fun h => by have := k0.size; have := k1.size; omega)⟩
def wi (n lo hi : Int) : Int := lo + n % (hi - lo + 1)
theorem wi_in (n lo hi : Int) (h : lo ≤ hi) : lo ≤ wi n lo hi ∧ wi n lo hi ≤ hi := by
 unfold wi
 have p := Int.emod_nonneg n (show hi - lo + 1 ≠ 0 by omega)
 have q := Int.emod_lt_of_pos n (show 0 < hi - lo + 1 by omega)
 omega
theorem within_is (n lo hi : Int) (w : World) (h0 : 0 ≤ lo) (h1 : lo ≤ hi) (h2 : hi ≤ 1099511627776) : Gives 16 #[.int .i64 n, .int .i64 lo, .int .i64 hi] w (.eq (.int .i64 (wi n lo hi))) :=
 gives_eq ((within_any n lo hi w h0 h1 h2).mono fun e w' ⟨he, hw⟩ => ⟨he, by subst hw; exact Kept.refl _⟩)
open Go.RowKit Go.ChangeShapes Go.WideShapes Go.ChangeAt
def Args {α : Type} (k : Nat) (cl : α → List Value) (ok : α → Prop) (W : World) (v : Value) (l : List α) : Prop := ∃ A n c, v = .slice A n c ∧ l.length = n ∧ (∀ q ∈ l, ok q) ∧ n ≤ maxLen ∧ ∀ i q, l[i]? = some q → ∃ b o, A = some ⟨b, o, none⟩ ∧ W.rangeAt b (o + i * k) (cl q)
theorem Args.keep {α : Type} {k : Nat} {cl : α → List Value} {ok : α → Prop} {S : Nat → Prop} {w w' : World} {v : Value} {l : List α} (h : Args k cl ok w v l) (hk : Keep S w w') (hn : ∀ b, b < w.heap.size → ¬ S b) : Args k cl ok w' v l := by
 obtain ⟨A, n, c, rfl, h1, h2, h3, h4⟩ := h
 refine ⟨A, n, c, rfl, h1, h2, h3, fun i q hq => ?_⟩
 obtain ⟨b, o, rfl, hr⟩ := h4 i q hq
 refine ⟨b, o, rfl, fun j v hv => ?_⟩
 have hc := hr j v hv
 exact hk.cell hc (hn _ (World.block_lt_of_cell? w _ hc))
theorem Args.kept {α : Type} {k : Nat} {cl : α → List Value} {ok : α → Prop} {w w' : World} {v : Value} {l : List α} (h : Args k cl ok w v l) (hk : Kept w w') : Args k cl ok w' v l := h.keep hk (fun _ _ h => h)
theorem open_args {α H : Type} [Inhabited α] {enc : TypeId × Value → H} {W : World} {b0 : Nat} {v : Value} {d : DataW H} {p : List MemPlace} {t T : TypeId} (k : Nat) (cl : α → List Value) (ok : α → Prop) (hu : Try.prog.underlying t = some (.slice T)) (hs : Try.prog.cellsOf T = k) (hk : 0 < k)
  (hsh : ∀ (fuel : Nat) (cs : List Value) (x : DataW H × List MemPlace), DataW.trod enc Try.prog W 0 (fun _ => true) true fuel T cs = some x → ∃ q : α, cs = cl q ∧ ok q)
  (hv : Value.okWide Try.prog W .any b0 t v) (h : DataW.Trod enc Try.prog W 0 (fun _ => true) true t v d p) : ∃ l, Args k cl ok W v l := by
 obtain ⟨l, A, n, c, rfl, hl, hA, h1, h2⟩ := open_elems (α := α) (fun cs q => cs = cl q ∧ ok q) hu hs hk hsh hv h (k := k)
 refine ⟨l, A, n, c, rfl, hl.out, fun q hq => ?_, by omega, fun i q hq => ?_⟩
 ·obtain ⟨i, hi, rfl⟩ := List.getElem_of_mem hq
  obtain ⟨b, o, cs, _, ⟨_, hw⟩, _⟩ := hA i _ (List.getElem?_eq_getElem hi)
  exact hw
 ·obtain ⟨b, o, cs, rfl, ⟨rfl, _⟩, _, hc⟩ := hA i q hq
  refine ⟨b, o, rfl, fun j v hv => ?_⟩
  rw [Nat.add_assoc]
  exact hc j v hv
structure Kq where
 t : Int
 i : Int
 s : Int
 p : Int
 q : Int
 h : Int
 x : Int
deriving Inhabited
def Kq.l (q : Kq) : List Int := [q.t, q.i, q.s, q.p, q.q, q.h, q.x]
def Kq.cells (q : Kq) : List Value := stc q.l []
def Kq.v (q : Kq) : Value := .agg q.cells.toArray
theorem Kq.len7 (q : Kq) : q.cells.length = 7 := by unfold Kq.cells; rw [stc_len]; rfl
theorem Kq.one (q : Kq) : ∀ u ∈ q.cells, u.oneCell' = true := stc_one _ _
def zeroK : Kq := ⟨0, 0, 0, 0, 0, 0, 0⟩
theorem slK : SlT 30 64 7 56 := ⟨Try.underlying30, by kernel_rfl, ⟨zeroK.v, by kernel_rfl, rfl, by intro u hu; exact zeroK.one u (by simpa [Kq.v, Value.cells] using hu)⟩, by omega⟩
theorem szK : (Try.prog.info? 64).map (·.size) = some 7 := by kernel_rfl
def Kq.wf (q : Kq) : Prop := ∀ y ∈ q.l, (Lit.int .i64 y).wf = true
abbrev Kqs (W : World) (v : Value) (l : List Kq) : Prop := Args 7 Kq.cells Kq.wf W v l
theorem sh_kq {H : Type} {enc : TypeId × Value → H} {W : World} (fuel : Nat) (cs : List Value) (x : DataW H × List MemPlace) (h : DataW.trod enc Try.prog W 0 (fun _ => true) true fuel 64 cs = some x) : ∃ q : Kq, cs = q.cells ∧ q.wf := by
 obtain ⟨l, rfl, hl, hw⟩ := sh_ints 7 (by kernel_rfl) _ _ _ h
 match l, hl with
 | [x0, x1, x2, x3, x4, x5, x6], _ => exact ⟨⟨x0, x1, x2, x3, x4, x5, x6⟩, rfl, hw⟩
theorem open_kqs {H : Type} {enc : TypeId × Value → H} {W : World} {b0 : Nat} {v : Value} {d : DataW H} {p : List MemPlace} (hv : Value.okWide Try.prog W .any b0 30 v)
  (h : DataW.Trod enc Try.prog W 0 (fun _ => true) true 30 v d p) : ∃ l, Kqs W v l := open_args 7 Kq.cells Kq.wf Try.underlying30 (by kernel_rfl) (by omega) sh_kq hv h
def Kq.k (q : Kq) : Int := 1 + (wi q.s 0 9).tdiv 2
def Kq.o (q : Kq) : Ord := ⟨wi q.t 0 5, wi q.i 0 15, (wi q.t 0 5).tdiv 2, 1 + wi q.s 0 1, q.k, if q.k = 2 then 0 else wi q.p 95 105, wi q.q 1 12, if q.k = 1 ∨ q.k = 5 then wi q.h 0 (wi q.q 1 12) else 0, 0⟩
theorem tdiv2 (t m : Int) (h0 : 0 ≤ t) (h1 : t ≤ 2 * m + 1) : 0 ≤ t.tdiv 2 ∧ t.tdiv 2 ≤ m := by
 rw [Int.tdiv_eq_ediv_of_nonneg h0]
 omega
theorem Kq.k_in (q : Kq) : 1 ≤ q.k ∧ q.k ≤ 5 := by
 have h := wi_in q.s 0 9 (by omega)
 have := tdiv2 (wi q.s 0 9) 4 h.1 (by omega)
 unfold Kq.k
 omega
theorem Kq.right (q : Kq) : q.o.right = true ∧ q.o.stop = 0 ∧ q.o.qty ≤ 12 := by
 have h1 := wi_in q.t 0 5 (by omega)
 have h2 := wi_in q.i 0 15 (by omega)
 have h3 := wi_in q.s 0 1 (by omega)
 have h4 := wi_in q.p 95 105 (by omega)
 have h5 := wi_in q.q 1 12 (by omega)
 have h6 := wi_in q.h 0 (wi q.q 1 12) (by omega)
 have h7 := tdiv2 (wi q.t 0 5) 2 h1.1 (by omega)
 have h8 := q.k_in
 refine ⟨(right_iff _).2 ?_, rfl, h5.2⟩
 unfold Kq.o
 by_cases hk : q.k = 2
 ·simp only [hk]
  simp
  omega
 ·by_cases hk1 : q.k = 1 ∨ q.k = 5
  ·simp only [if_neg hk, if_pos hk1]
   omega
  ·have e1 : (if q.k = 2 then 0 else wi q.p 95 105) = wi q.p 95 105 := if_neg hk
   have e2 : (if q.k = 1 ∨ q.k = 5 then wi q.h 0 (wi q.q 1 12) else 0) = 0 := if_neg hk1
   simp only [e1, e2]
   refine ⟨by omega, by omega, by omega, by omega, by omega, by omega, by omega, by omega, by omega, by omega, by omega, .inr (.inr trivial)⟩
def mkK (t i s k p n : Int) : Ord := ⟨t, i, 0, s, k, p, n, 0, 0⟩
theorem builtK (t i s k p n : Int) : Try.prog.built 24 [(0, .int .i64 t), (1, .int .i64 i), (3, .int .i64 s), (4, .int .i64 k), (5, .int .i64 p), (6, .int .i64 n)] = some (mkK t i s k p n).cells.toArray := by kernel_rfl
theorem exec_mkK {a : Act} {o : Oper} {u : World} (x0 x1 x3 x4 x5 x6 : Operand) (t i s k p n : Int) (hop : o.op = .build 24 #[(0, x0), (1, x1), (3, x3), (4, x4), (5, x5), (6, x6)]) (h0 : a.eval x0 = .int .i64 t) (h1 : a.eval x1 = .int .i64 i) (h3 : a.eval x3 = .int .i64 s) (h4 : a.eval x4 = .int .i64 k) (h5 : a.eval x5 = .int .i64 p) (h6 : a.eval x6 = .int .i64 n) : (execOp a.eval o).run Try.prog u = .ok (.value (mkK t i s k p n).v) u :=
 exec_build _ [(0, x0), (1, x1), (3, x3), (4, x4), (5, x5), (6, x6)] (mkK t i s k p n).cells hop (by
  simp only [List.map_cons, List.map_nil, h0, h1, h3, h4, h5, h6]
  exact builtK t i s k p n)
set_option maxRecDepth 100000 in
set_option maxHeartbeats 1600000 in
theorem korder_any (q : Kq) (w : World) : Gives 45 #[q.v] w (.eq q.o.v) := by
 refine gives_eq ?_
 have HQ : Hid (∀ t i d s k p n h, t = wi q.t 0 5 → i = wi q.i 0 15 → d = (wi q.t 0 5).tdiv 2 → s = wi q.s 0 1 → k = q.k → p = wi q.p 95 105 → n = wi q.q 1 12 → h = wi q.h 0 n → q.o = Ord.mk t i d (1 + s) k (if k = 2 then 0 else p) n (if k = 1 ∨ k = 5 then h else 0) 0) := by
  intro t i d s k p n h h1 h2 h3 h4 h5 h6 h7 h8
  subst h1 h2 h3 h4 h5 h6 h7 h8
  rfl
 obtain ⟨t, ht⟩ : ∃ t, wi q.t 0 5 = t := ⟨_, rfl⟩
 obtain ⟨i, hi⟩ : ∃ i, wi q.i 0 15 = i := ⟨_, rfl⟩
 obtain ⟨s, hs⟩ : ∃ s, wi q.s 0 1 = s := ⟨_, rfl⟩
 obtain ⟨r, hr⟩ : ∃ r, wi q.s 0 9 = r := ⟨_, rfl⟩
 obtain ⟨e, he⟩ : ∃ e, r.tdiv 2 = e := ⟨_, rfl⟩
 obtain ⟨p, hp⟩ : ∃ p, wi q.p 95 105 = p := ⟨_, rfl⟩
 obtain ⟨n, hn⟩ : ∃ n, wi q.q 1 12 = n := ⟨_, rfl⟩
 obtain ⟨h, hh⟩ : ∃ h, wi q.h 0 n = h := ⟨_, rfl⟩
 obtain ⟨d, hd⟩ : ∃ d, t.tdiv 2 = d := ⟨_, rfl⟩
 have ht1 := wi_in q.t 0 5 (by omega)
 have hs1 := wi_in q.s 0 1 (by omega)
 have hr1 := wi_in q.s 0 9 (by omega)
 have hn1 := wi_in q.q 1 12 (by omega)
 rw [ht] at ht1
 rw [hs] at hs1
 rw [hr] at hr1
 rw [hn] at hn1
 have he1 := tdiv2 r 4 hr1.1 (by omega)
 have hd1 := tdiv2 t 2 ht1.1 (by omega)
 rw [he] at he1
 rw [hd] at hd1
 have HK : Hid (q.k = 1 + e) := by show q.k = _; unfold Kq.k; rw [hr, he]
 have HT := Lib.hid ht
 have HI := Lib.hid hi
 have HS := Lib.hid hs
 have HR := Lib.hid hr
 have HE := Lib.hid he
 have HP := Lib.hid hp
 have HN := Lib.hid hn
 have HH := Lib.hid hh
 have HD := Lib.hid hd
 have HQ2 : Hid (q.o = Ord.mk t i d (1 + s) (1 + e) (if 1 + e = 2 then 0 else p) n (if 1 + e = 1 ∨ 1 + e = 5 then h else 0) 0) := HQ.out t i d s (1 + e) p n h ht.symm hi.symm (by rw [ht, hd]) hs.symm HK.out.symm hp.symm hn.symm hh.symm
 clear ht hi hs hr he hp hn hh hd HQ HK
 go_enter Try.func45, Try.ntmps45
 go_upto_region 0 with fail
 refine wp_text 2 [.fresh w.heap.size 64 (q.cells), .fresh w.heap.size 24 zeroO.cells] rfl (by kernel_rfl) ?_ ?_
 ·refine nW 1 rfl (fun a u E D hk=>⟨_, _, exec_box 64 _ (q.cells) rfl (eE E), ⟨_, rfl, hk.size, Blk.new u _ _⟩, ((Keep.refl _ u).alloc _)⟩) ?_
  refine nW 2 rfl (fun a u E D hk=>⟨_, _, exec_alc 24 zeroO.cells rfl zO, ⟨_, rfl, hk.size, Blk.new u _ _⟩, ((Keep.refl _ u).alloc _)⟩) ?_
  exact fz
 intro gv w0 hV k0
 rw [dq 2 [1,2]]
 simp only [Fz7]
 have hv1 : (.fresh w.heap.size 64 (q.cells) : Kn).p (gv 1) w0 := hV 0 1 (by kernel_rfl)
 generalize gv 1 = v1 at hv1 ⊢
 have hv2 : (.fresh w.heap.size 24 zeroO.cells : Kn).p (gv 2) w0 := hV 1 2 (by kernel_rfl)
 generalize gv 2 = v2 at hv2 ⊢
 clear hV
 obtain ⟨g1, rfl, hg1, hB1⟩ := hv1
 obtain ⟨g2, rfl, hg2, hB2⟩ := hv2
 have hne : g1 ≠ g2 := fun e => by subst e; unfold Blk at hB1 hB2; rw [hB1] at hB2; injection hB2 with hB2; injection hB2 with _ hB2; revert hB2; decide
 refine wpList_nil ?_
 have HA := Lib.hid (blk_range hB1)
 have HB2 := Lib.hid hB2
 have l1 := hB1.lt
 have l2 := hB2.lt
 clear hB1 hB2
 go_upto_region 1 with fail
 refine wp_free 23 [pE g1 0, iE q.t, iE t, pE g1 1, iE q.i, iE i, pE g1 2, iE q.s, iE s, iE (1 + s), pE g1 2, iE q.s, iE r, iE e, iE (1 + e), pE g1 3, iE q.p, iE p, pE g1 4, iE q.q, iE n, .eq ((mkK t i (1 + s) (1 + e) p n).v), .fresh w0.heap.size 24 zeroO.cells] (by kernel_rfl) rfl (by kernel_rfl) ?_ ?_
 ·refine fE 1 1 64 0 0 0 ?_
  refine lD 2 4 0 Try.underlying3 (fun u hk=>range_int (range_kept HA.out hk) 0 _ rfl) ?_
  refine cS 3 16 [.int .i64 q.t, .int .i64 0, .int .i64 5] rfl Try.func16 rfl (fun a u E D hk=>⟨ll (dD D 1) (ll rfl (ll rfl rfl)), (by rw [← HT.out]; exact within_is q.t 0 5 u (by omega) (by omega) (by omega))⟩) ?_
  refine fE 4 1 64 1 1 0 ?_
  refine lD 5 7 3 Try.underlying3 (fun u hk=>range_int (range_kept HA.out hk) 1 _ rfl) ?_
  refine cS 6 16 [.int .i64 q.i, .int .i64 0, .int .i64 15] rfl Try.func16 rfl (fun a u E D hk=>⟨ll (dD D 4) (ll rfl (ll rfl rfl)), (by rw [← HI.out]; exact within_is q.i 0 15 u (by omega) (by omega) (by omega))⟩) ?_
  refine fE 7 1 64 2 2 0 ?_
  refine lD 8 10 6 Try.underlying3 (fun u hk=>range_int (range_kept HA.out hk) 2 _ rfl) ?_
  refine cS 9 16 [.int .i64 q.s, .int .i64 0, .int .i64 1] rfl Try.func16 rfl (fun a u E D hk=>⟨ll (dD D 7) (ll rfl (ll rfl rfl)), (by rw [← HS.out]; exact within_is q.s 0 1 u (by omega) (by omega) (by omega))⟩) ?_
  refine sW 10 rfl (fun a u E D hk=>exec_addn (1 + s) rfl rfl (dD D 8) rfl (by omega) (by omega)) ?_
  refine fE 11 1 64 2 2 0 ?_
  refine lD 12 14 10 Try.underlying3 (fun u hk=>range_int (range_kept HA.out hk) 2 _ rfl) ?_
  refine cS 13 16 [.int .i64 q.s, .int .i64 0, .int .i64 9] rfl Try.func16 rfl (fun a u E D hk=>⟨ll (dD D 11) (ll rfl (ll rfl rfl)), (by rw [← HR.out]; exact within_is q.s 0 9 u (by omega) (by omega) (by omega))⟩) ?_
  refine sW 14 rfl (fun a u E D hk=>exec_quon e rfl (dD D 12) rfl (by decide) HE.out (by omega) (by omega)) ?_
  refine sW 15 rfl (fun a u E D hk=>exec_addn (1 + e) rfl rfl (dD D 13) rfl (by omega) (by omega)) ?_
  refine fE 16 1 64 3 3 0 ?_
  refine lD 17 19 15 Try.underlying3 (fun u hk=>range_int (range_kept HA.out hk) 3 _ rfl) ?_
  refine cS 18 16 [.int .i64 q.p, .int .i64 95, .int .i64 105] rfl Try.func16 rfl (fun a u E D hk=>⟨ll (dD D 16) (ll rfl (ll rfl rfl)), (by rw [← HP.out]; exact within_is q.p 95 105 u (by omega) (by omega) (by omega))⟩) ?_
  refine fE 19 1 64 4 4 0 ?_
  refine lD 20 22 18 Try.underlying3 (fun u hk=>range_int (range_kept HA.out hk) 4 _ rfl) ?_
  refine cS 21 16 [.int .i64 q.q, .int .i64 1, .int .i64 12] rfl Try.func16 rfl (fun a u E D hk=>⟨ll (dD D 19) (ll rfl (ll rfl rfl)), (by rw [← HN.out]; exact within_is q.q 1 12 u (by omega) (by omega) (by omega))⟩) ?_
  refine sW 22 rfl (fun a u E D hk=>exec_mkK _ _ _ _ _ _ t i (1 + s) (1 + e) p n rfl (dD D 2) (dD D 5) (dD D 9) (dD D 14) (dD D 17) (dD D 20)) ?_
  refine nW 23 rfl (fun a u E D hk=>⟨_, _, exec_alc 24 zeroO.cells rfl zO, ⟨_, rfl, hk.size, Blk.new u _ _⟩, ((Keep.refl _ u).alloc _)⟩) ?_
  exact fz
 intro gv w1 hV k1
 rw [dq 23 [4,5,6,7,8,9,10,11,12,13,14,15,16,17,18,19,20,21,22,23,24,25,3]]
 simp only [Fz7]
 have hv3 : (.fresh w0.heap.size 24 zeroO.cells : Kn).p (gv 3) w1 := hV 22 3 (by kernel_rfl)
 generalize gv 3 = v3 at hv3 ⊢
 rw [gQ hV 21 25 ((mkK t i (1 + s) (1 + e) p n).v)]
 clear hV
 obtain ⟨g3, rfl, hg3, hB3⟩ := hv3
 refine l_setS 24 g3 24 zeroO.cells (mkK t i (1 + s) (1 + e) p n).cells _ _ rfl rfl (by kernel_rfl) (by kernel_rfl) hB3 (by rw [Ord.len9]; exact ord_size) (by rw [Ord.len9, Ord.len9]) (Ord.one1 _) ?_
 intro w2 hC2 hk2 hs2
 simp only [Act.put]
 refine wpList_nil ?_
 have k02 : Kept w0 w2 := k1.trans' hk2 (by omega)
 have HA2 := Lib.hid (range_kept HA.out k02)
 have HB4 := Lib.hid (HB2.out.kept k02)
 have kw2 := k0.trans k02
 have HC2 := Lib.hid hC2
 have HC2r := Lib.hid (blk_range hC2)
 have z2 := k02.size
 clear hB3 hC2 hk2 k1 HA HB2 k02 hs2
 go_upto_region 2 with fail
 refine wEp 4 [pV g3 0, iV t, iV d, pV g3 2] [26,27,28,29] ?_ ?_
 ·refine fE 1 3 24 0 0 0 ?_
  refine lD 2 26 0 Try.underlying3 (fun u hk=>range_int (range_kept HC2r.out hk) 0 _ rfl) ?_
  refine sW 3 rfl (fun a u E D hk=>exec_quon d rfl (dD D 1) rfl (by decide) HD.out (by omega) (by omega)) ?_
  refine fE 4 3 24 2 2 0 ?_
  exact fz
 intro w3 k3
 simp only [F8]
 refine l_st1 3 g3 2 24 _ (.int .i64 d) _ _ rfl rfl (by kernel_rfl) (by kernel_rfl) (by kernel_rfl) rfl rfl (HC2.out.kept k3) (by rw [Ord.len9]; omega) ?_
 intro w4 hC4 hk4 hs4
 simp only [Act.put]
 refine wpList_nil ?_
 have K4 : Keep (· = g3) w2 w4 := (Keep.mono (T := (· = g3)) k3 (fun _ _ h => h.elim)).trans hk4 (fun _ _ h => h)
 have HC4 : Hid (Blk w4 g3 24 (Ord.mk t i d (1 + s) (1 + e) p n 0 0).cells) := hC4
 have HC4r := Lib.hid (blk_range HC4.out)
 have HA4 := Lib.hid (range_keep HA2.out K4 (by omega))
 have HB5 := Lib.hid (HB4.out.keep K4 (by omega))
 have kw4 : Kept w w4 := kw2.trans' K4 (by omega)
 clear hC4 hk4 K4 HA2 HB4 HC2 HC2r k3 kw2
 go_upto_region 3 with fail
 refine wE 2 [pV g3 4, iV (1 + e)] [30,31] ?_ ?_
 ·refine fE 1 3 24 4 4 0 ?_
  refine lD 2 30 0 Try.underlying3 (fun u hk=>range_int (range_kept HC4r.out hk) 4 _ rfl) ?_
  exact fz
 intro w5 k5
 simp only [F8]
 have HC5 := Lib.hid (HC4.out.kept k5)
 have HC5r := Lib.hid (blk_range HC5.out)
 have HA5 := Lib.hid (range_kept HA4.out k5)
 have HB6 := Lib.hid (HB5.out.kept k5)
 have kw5 := kw4.trans k5
 have z5 := k5.size
 clear HC4 HC4r HA4 HB5 kw4 k5
 have HBX5 := Lib.hid HB6.out
 clear HB6
 by_cases hk1 : 1 + e = 1
 ·go_upto_region 4 with fail
  refine wE 2 [bV true, bV true] [33,32] ?_ ?_
  ·refine aS 1 rfl (fun a u E D hk=>exec_eqn (p := (1 + e)) (q := 1) rfl (eE E) rfl) (decide_eq_true hk1) ?_
   refine mD 2 33 0 ?_
   exact fz
  intro w6 k6
  simp only [F8]
  have HC6 := Lib.hid (HC5.out.kept k6)
  have HC6r := Lib.hid (blk_range HC6.out)
  have HA6 := Lib.hid (range_kept HA5.out k6)
  have HBX6 := Lib.hid (HBX5.out.kept k6)
  have kw6 := kw5.trans k6
  have z6 := k6.size
  clear HC5 HC5r HA5 HBX5 kw5 k6
  go_upto_region 6 with fail
  refine wEp 6 [pV g1 5, iV q.h, pV g3 6, iV n, iV h, pV g3 7] [35,36,37,38,39,40] ?_ ?_
  ·refine fE 1 1 64 5 5 0 ?_
   refine lD 2 35 0 Try.underlying3 (fun u hk=>range_int (range_kept HA6.out hk) 5 _ rfl) ?_
   refine fE 3 3 24 6 6 0 ?_
   refine lD 4 37 2 Try.underlying3 (fun u hk=>range_int (range_kept HC6r.out hk) 6 _ rfl) ?_
   refine cS 5 16 [.int .i64 q.h, .int .i64 0, .int .i64 n] rfl Try.func16 rfl (fun a u E D hk=>⟨ll (dD D 1) (ll rfl (ll (dD D 3) rfl)), (by rw [← HH.out]; exact within_is q.h 0 n u (by omega) (by omega) (by omega))⟩) ?_
   refine fE 6 3 24 7 7 0 ?_
   exact fz
  intro w7a k7a
  simp only [F8]
  refine l_st1 3 g3 7 24 _ (.int .i64 h) _ _ rfl rfl (by kernel_rfl) (by kernel_rfl) (by kernel_rfl) rfl rfl (HC6.out.kept k7a) (by rw [Ord.len9]; omega) ?_
  intro w7 hC7 hk7 hs7
  simp only [Act.put]
  refine wpList_nil ?_
  have K7 : Keep (· = g3) w6 w7 := (Keep.mono (T := (· = g3)) k7a (fun _ _ h => h.elim)).trans hk7 (fun _ _ h => h)
  have HC7 : Hid (Blk w7 g3 24 (Ord.mk t i d (1 + s) (1 + e) p n h 0).cells) := hC7
  have HC7r := Lib.hid (blk_range HC7.out)
  have HA7 := Lib.hid (range_keep HA6.out K7 (by omega))
  have HBX7 := Lib.hid (HBX6.out.keep K7 (by omega))
  have kw7 : Kept w w7 := kw6.trans' K7 (by omega)
  have z7 := K7.size
  clear hC7 hk7 K7 HA6 HBX6 HC6 HC6r k7a kw6
  go_upto_region 9 with fail
  refine wEp 1 [(Ord.mk t i d (1 + s) (1 + e) p n h 0).v] [44] ?_ ?_
  ·refine sE 1 3 g3 0 ((Ord.mk t i d (1 + s) (1 + e) p n h 0).cells) Try.underlying24 (fun u hk=>range_kept HC7r.out hk) (by rw [(Ord.mk t i d (1 + s) (1 + e) p n h 0).len9]; exact ord_size) ?_
   exact fz
  intro w8 k8
  simp only [F8]
  refine l_setS 24 g2 24 zeroO.cells (Ord.mk t i d (1 + s) (1 + e) p n h 0).cells _ _ rfl rfl (by kernel_rfl) (by kernel_rfl) (HBX7.out.kept k8) (by rw [Ord.len9]; exact ord_size) (by rw [Ord.len9, Ord.len9]) (Ord.one1 _) ?_
  intro wz hCz hkz hsz
  simp only [Act.put]
  refine wpList_nil ?_
  go_wp2
  refine bodyPost_ret (results_cell (p := 2) rfl _ _ g2 _ (Ord.mk t i d (1 + s) (1 + e) p n h 0).cells rfl hCz Try.underlying24 (by rw [Ord.len9]; exact ord_size)) rfl ?_
  refine ⟨?_, (kw7.trans k8).trans' hkz (by omega)⟩
  rw [HQ2.out, if_neg (by omega), if_pos (.inl hk1)]
  rfl
 ·go_upto_region 4 with fail
  refine wE 2 [bV false, bV false] [33,32] ?_ ?_
  ·refine aS 1 rfl (fun a u E D hk=>exec_eqn (p := (1 + e)) (q := 1) rfl (eE E) rfl) (decide_eq_false hk1) ?_
   refine mD 2 33 0 ?_
   exact fz
  intro w6 k6
  simp only [F8]
  have HC6 := Lib.hid (HC5.out.kept k6)
  have HC6r := Lib.hid (blk_range HC6.out)
  have HA6 := Lib.hid (range_kept HA5.out k6)
  have HBX6 := Lib.hid (HBX5.out.kept k6)
  have kw6 := kw5.trans k6
  have z6 := k6.size
  clear HC5 HC5r HA5 HBX5 kw5 k6
  by_cases hk5 : 1 + e = 5
  ·go_upto_region 5 with fail
   refine wE 2 [bV true, bV true] [34,32] ?_ ?_
   ·refine aS 1 rfl (fun a u E D hk=>exec_eqn (p := (1 + e)) (q := 5) rfl (eE E) rfl) (decide_eq_true hk5) ?_
    refine mD 2 34 0 ?_
    exact fz
   intro w7 k7
   simp only [F8]
   have HC7 := Lib.hid (HC6.out.kept k7)
   have HC7r := Lib.hid (blk_range HC7.out)
   have HA7 := Lib.hid (range_kept HA6.out k7)
   have HBX7 := Lib.hid (HBX6.out.kept k7)
   have kw7 := kw6.trans k7
   have z7 := k7.size
   clear HC6 HC6r HA6 HBX6 kw6 k7
   go_upto_region 6 with fail
   refine wEp 6 [pV g1 5, iV q.h, pV g3 6, iV n, iV h, pV g3 7] [35,36,37,38,39,40] ?_ ?_
   ·refine fE 1 1 64 5 5 0 ?_
    refine lD 2 35 0 Try.underlying3 (fun u hk=>range_int (range_kept HA7.out hk) 5 _ rfl) ?_
    refine fE 3 3 24 6 6 0 ?_
    refine lD 4 37 2 Try.underlying3 (fun u hk=>range_int (range_kept HC7r.out hk) 6 _ rfl) ?_
    refine cS 5 16 [.int .i64 q.h, .int .i64 0, .int .i64 n] rfl Try.func16 rfl (fun a u E D hk=>⟨ll (dD D 1) (ll rfl (ll (dD D 3) rfl)), (by rw [← HH.out]; exact within_is q.h 0 n u (by omega) (by omega) (by omega))⟩) ?_
    refine fE 6 3 24 7 7 0 ?_
    exact fz
   intro w8a k8a
   simp only [F8]
   refine l_st1 3 g3 7 24 _ (.int .i64 h) _ _ rfl rfl (by kernel_rfl) (by kernel_rfl) (by kernel_rfl) rfl rfl (HC7.out.kept k8a) (by rw [Ord.len9]; omega) ?_
   intro w8 hC8 hk8 hs8
   simp only [Act.put]
   refine wpList_nil ?_
   have K8 : Keep (· = g3) w7 w8 := (Keep.mono (T := (· = g3)) k8a (fun _ _ h => h.elim)).trans hk8 (fun _ _ h => h)
   have HC8 : Hid (Blk w8 g3 24 (Ord.mk t i d (1 + s) (1 + e) p n h 0).cells) := hC8
   have HC8r := Lib.hid (blk_range HC8.out)
   have HA8 := Lib.hid (range_keep HA7.out K8 (by omega))
   have HBX8 := Lib.hid (HBX7.out.keep K8 (by omega))
   have kw8 : Kept w w8 := kw7.trans' K8 (by omega)
   have z8 := K8.size
   clear hC8 hk8 K8 HA7 HBX7 HC7 HC7r k8a kw7
   go_upto_region 9 with fail
   refine wEp 1 [(Ord.mk t i d (1 + s) (1 + e) p n h 0).v] [44] ?_ ?_
   ·refine sE 1 3 g3 0 ((Ord.mk t i d (1 + s) (1 + e) p n h 0).cells) Try.underlying24 (fun u hk=>range_kept HC8r.out hk) (by rw [(Ord.mk t i d (1 + s) (1 + e) p n h 0).len9]; exact ord_size) ?_
    exact fz
   intro w9 k9
   simp only [F8]
   refine l_setS 24 g2 24 zeroO.cells (Ord.mk t i d (1 + s) (1 + e) p n h 0).cells _ _ rfl rfl (by kernel_rfl) (by kernel_rfl) (HBX8.out.kept k9) (by rw [Ord.len9]; exact ord_size) (by rw [Ord.len9, Ord.len9]) (Ord.one1 _) ?_
   intro wz hCz hkz hsz
   simp only [Act.put]
   refine wpList_nil ?_
   go_wp2
   refine bodyPost_ret (results_cell (p := 2) rfl _ _ g2 _ (Ord.mk t i d (1 + s) (1 + e) p n h 0).cells rfl hCz Try.underlying24 (by rw [Ord.len9]; exact ord_size)) rfl ?_
   refine ⟨?_, (kw8.trans k9).trans' hkz (by omega)⟩
   rw [HQ2.out, if_neg (by omega), if_pos (.inr hk5)]
   rfl
  ·go_upto_region 5 with fail
   refine wE 2 [bV false, bV false] [34,32] ?_ ?_
   ·refine aS 1 rfl (fun a u E D hk=>exec_eqn (p := (1 + e)) (q := 5) rfl (eE E) rfl) (decide_eq_false hk5) ?_
    refine mD 2 34 0 ?_
    exact fz
   intro w7 k7
   simp only [F8]
   have HC7 := Lib.hid (HC6.out.kept k7)
   have HC7r := Lib.hid (blk_range HC7.out)
   have HA7 := Lib.hid (range_kept HA6.out k7)
   have HBX7 := Lib.hid (HBX6.out.kept k7)
   have kw7 := kw6.trans k7
   have z7 := k7.size
   clear HC6 HC6r HA6 HBX6 kw6 k7
   by_cases hk2 : 1 + e = 2
   ·go_upto_region 7 with fail
    refine wE 2 [bV true, bV true] [42,41] ?_ ?_
    ·refine aS 1 rfl (fun a u E D hk=>exec_eqn (p := (1 + e)) (q := 2) rfl (eE E) rfl) (decide_eq_true hk2) ?_
     refine mD 2 42 0 ?_
     exact fz
    intro w8 k8
    simp only [F8]
    have HC8 := Lib.hid (HC7.out.kept k8)
    have HC8r := Lib.hid (blk_range HC8.out)
    have HA8 := Lib.hid (range_kept HA7.out k8)
    have HBX8 := Lib.hid (HBX7.out.kept k8)
    have kw8 := kw7.trans k8
    have z8 := k8.size
    clear HC7 HC7r HA7 HBX7 kw7 k8
    go_upto_region 8 with fail
    refine wEp 1 [pV g3 5] [43] ?_ ?_
    ·refine fE 1 3 24 5 5 0 ?_
     exact fz
    intro w9a k9a
    simp only [F8]
    refine l_st1 3 g3 5 24 _ (.int .i64 0) _ (.const (.int .i64 0)) rfl rfl (by kernel_rfl) (by kernel_rfl) rfl rfl rfl (HC8.out.kept k9a) (by rw [Ord.len9]; omega) ?_
    intro w9 hC9 hk9 hs9
    simp only [Act.put]
    refine wpList_nil ?_
    have K9 : Keep (· = g3) w8 w9 := (Keep.mono (T := (· = g3)) k9a (fun _ _ h => h.elim)).trans hk9 (fun _ _ h => h)
    have HC9 : Hid (Blk w9 g3 24 (Ord.mk t i d (1 + s) (1 + e) 0 n 0 0).cells) := hC9
    have HC9r := Lib.hid (blk_range HC9.out)
    have HA9 := Lib.hid (range_keep HA8.out K9 (by omega))
    have HBX9 := Lib.hid (HBX8.out.keep K9 (by omega))
    have kw9 : Kept w w9 := kw8.trans' K9 (by omega)
    have z9 := K9.size
    clear hC9 hk9 K9 HA8 HBX8 HC8 HC8r k9a kw8
    go_upto_region 9 with fail
    refine wEp 1 [(Ord.mk t i d (1 + s) (1 + e) 0 n 0 0).v] [44] ?_ ?_
    ·refine sE 1 3 g3 0 ((Ord.mk t i d (1 + s) (1 + e) 0 n 0 0).cells) Try.underlying24 (fun u hk=>range_kept HC9r.out hk) (by rw [(Ord.mk t i d (1 + s) (1 + e) 0 n 0 0).len9]; exact ord_size) ?_
     exact fz
    intro w10 k10
    simp only [F8]
    refine l_setS 24 g2 24 zeroO.cells (Ord.mk t i d (1 + s) (1 + e) 0 n 0 0).cells _ _ rfl rfl (by kernel_rfl) (by kernel_rfl) (HBX9.out.kept k10) (by rw [Ord.len9]; exact ord_size) (by rw [Ord.len9, Ord.len9]) (Ord.one1 _) ?_
    intro wz hCz hkz hsz
    simp only [Act.put]
    refine wpList_nil ?_
    go_wp2
    refine bodyPost_ret (results_cell (p := 2) rfl _ _ g2 _ (Ord.mk t i d (1 + s) (1 + e) 0 n 0 0).cells rfl hCz Try.underlying24 (by rw [Ord.len9]; exact ord_size)) rfl ?_
    refine ⟨?_, (kw9.trans k10).trans' hkz (by omega)⟩
    rw [HQ2.out, if_pos hk2, if_neg (by omega)]
    rfl
   ·go_upto_region 7 with fail
    refine wE 2 [bV false, bV false] [42,41] ?_ ?_
    ·refine aS 1 rfl (fun a u E D hk=>exec_eqn (p := (1 + e)) (q := 2) rfl (eE E) rfl) (decide_eq_false hk2) ?_
     refine mD 2 42 0 ?_
     exact fz
    intro w8 k8
    simp only [F8]
    have HC8 := Lib.hid (HC7.out.kept k8)
    have HC8r := Lib.hid (blk_range HC8.out)
    have HA8 := Lib.hid (range_kept HA7.out k8)
    have HBX8 := Lib.hid (HBX7.out.kept k8)
    have kw8 := kw7.trans k8
    have z8 := k8.size
    clear HC7 HC7r HA7 HBX7 kw7 k8
    go_upto_region 9 with fail
    refine wEp 1 [(Ord.mk t i d (1 + s) (1 + e) p n 0 0).v] [44] ?_ ?_
    ·refine sE 1 3 g3 0 ((Ord.mk t i d (1 + s) (1 + e) p n 0 0).cells) Try.underlying24 (fun u hk=>range_kept HC8r.out hk) (by rw [(Ord.mk t i d (1 + s) (1 + e) p n 0 0).len9]; exact ord_size) ?_
     exact fz
    intro w9 k9
    simp only [F8]
    refine l_setS 24 g2 24 zeroO.cells (Ord.mk t i d (1 + s) (1 + e) p n 0 0).cells _ _ rfl rfl (by kernel_rfl) (by kernel_rfl) (HBX8.out.kept k9) (by rw [Ord.len9]; exact ord_size) (by rw [Ord.len9, Ord.len9]) (Ord.one1 _) ?_
    intro wz hCz hkz hsz
    simp only [Act.put]
    refine wpList_nil ?_
    go_wp2
    refine bodyPost_ret (results_cell (p := 2) rfl _ _ g2 _ (Ord.mk t i d (1 + s) (1 + e) p n 0 0).cells rfl hCz Try.underlying24 (by rw [Ord.len9]; exact ord_size)) rfl ?_
    refine ⟨?_, (kw8.trans k9).trans' hkz (by omega)⟩
    rw [HQ2.out, if_neg hk2, if_neg (by omega)]
    rfl
def Kq.st (q : Kq) : Int := if wi q.x 0 32 < 11 then 95 + wi q.x 0 32 else 0
def Kq.so (q : Kq) : Ord := { q.o with stop := q.st }
theorem Kq.sright (q : Kq) : q.so.right = true := by
 obtain ⟨h1, h2, h3⟩ := q.right
 have h := (right_iff _).1 h1
 have hx := wi_in q.x 0 32 (by omega)
 refine (right_iff _).2 ?_
 have e : q.so = { q.o with stop := q.st } := rfl
 have hs : 0 ≤ q.st ∧ q.st ≤ 1048576 := by unfold Kq.st; split <;> omega
 rw [e]
 simp only
 omega
def fillM (l : List Kq) : Mkt := l.foldl (fun M q => (M.add q.so).2) Mkt.zero
theorem fillM_snoc (l : List Kq) (q : Kq) : fillM (l ++ [q]) = ((fillM l).add q.so).2 := by simp [fillM]
theorem fillM_next (l : List Kq) (i : Nat) (q : Kq) (h : l[i]? = some q) : fillM (l.take (i + 1)) = ((fillM (l.take i)).add q.so).2 := by
 rw [List.take_add_one, h, ← fillM_snoc]
 rfl
theorem fill_ind {P : Mkt → Prop} (hs : ∀ (M : Mkt) (q : Kq), P M → P (M.add q.so).2) : ∀ (l : List Kq) (M : Mkt), P M → P (l.foldl (fun M (q : Kq) => (M.add q.so).2) M)
 | [], M, h => h
 | q :: l, M, h => fill_ind hs l _ (hs M q h)
theorem fill_no : ∀ (l : List Kq) (M : Mkt) (c : Int), InvK M → M.b.no ≤ c → (l.foldl (fun M (q : Kq) => (M.add q.so).2) M).b.no ≤ c + 70000000 * (l.length : Int)
 | [], M, c, _, h => by simpa using h
 | q :: l, M, c, hI, h => by
  have h1 := (add_no hI q.so).2
  have := fill_no l _ (c + 70000000) (hI.add q.so) (by omega)
  rw [List.foldl_cons, List.length_cons]
  omega
theorem fillM_inv (l : List Kq) : InvK (fillM l) ∧ (fillM l).b.no ≤ 70000000 * (l.length : Int) :=
 ⟨fill_ind (fun M q h => h.add q.so) l _ InvK.zero, by have := fill_no l Mkt.zero 0 InvK.zero (by decide); unfold fillM; omega⟩
theorem arrive_err {M : Mkt} {o : Ord} (h : (M.arrive o).1.c.err ≠ 0) : (M.arrive o).2 = M := by
 unfold Mkt.arrive at h ⊢
 by_cases he : M.err o ≠ 0
 ·rw [if_pos he]
 ·rw [if_neg he] at h ⊢
  by_cases hw : M.waits o = true
  ·rw [if_pos hw] at h
   exact absurd rfl h
  ·rw [if_neg hw] at h ⊢
   have hb : M.b.err o.free ≠ 0 := by
    intro e
    apply h
    show (M.b.add o.free).1.err = 0
    unfold Bok.add
    rw [if_neg (fun h => h e)]
   have : (M.b.enter o).2 = M.b := by unfold Bok.enter; rw [add_err hb]
   simp only [this]
def Quiet (M : Mkt) : Prop := ∀ o ∈ M.w, o.hit M.b.last = false
theorem Quiet.add {M : Mkt} (h : Quiet M) (o : Ord) : Quiet (M.add o).2 := by
 unfold Mkt.add
 by_cases he : (M.arrive o).1.c.err ≠ 0
 ·rw [if_pos he, arrive_err he]
  exact h
 ·rw [if_neg he]
  exact cas_quiet _ _ (Nat.le_refl _)
theorem fillM_quiet (l : List Kq) : Quiet (fillM l) := fill_ind (fun M q h => h.add q.so) l _ (fun o ho => by cases ho)
theorem all_keys (M : Mkt) (k : Int × Int) : (M.all.map Ord.key).count k = cnt k M.b.all + (M.w.map Ord.key).count k := by
 unfold Mkt.all cnt Bok.all ordsL
 simp only [List.map_append, List.count_append, List.map_map]
 rfl
theorem InvK.nodup {M : Mkt} (h : InvK M) : (M.all.map Ord.key).Nodup := List.nodup_iff_count.2 fun k => by
 rw [all_keys]
 exact h.once k
theorem all_len (M : Mkt) : M.all.length = M.len := by
 unfold Mkt.all Mkt.len Bok.len Bok.all ordsL
 simp only [List.length_append, List.length_map]
theorem idx_ords (t i : Int) (X : List Ent) : (X.map (·.o)).findIdx (Ord.is t i) = idxM t i X := by
 unfold idxM
 rw [List.findIdx_map]
 rfl
theorem findE_findO (t i : Int) (X : List Ent) : findE t i X = findO t i (X.map (·.o)) := by
 unfold findE findO
 rw [idx_ords, List.getElem?_map]
 cases X[idxM t i X]? <;> rfl
theorem findO_append (t i : Int) (X Y : List Ord) : findO t i (X ++ Y) = if (findO t i X).2 = true then ((findO t i X).1, true) else findO t i Y := by
 unfold findO
 rw [List.findIdx_append]
 cases e : X[X.findIdx (Ord.is t i)]? with
 | some o =>
  have hl := (List.getElem?_eq_some_iff.1 e).1
  rw [if_pos hl, List.getElem?_append_left hl, e]
  rfl
 | none =>
  have hl := List.getElem?_eq_none_iff.1 e
  rw [if_neg (by omega), List.getElem?_append_right (by omega), Nat.add_sub_cancel]
  rfl
theorem ords_all (M : Mkt) : M.all = M.b.all.map (·.o) ++ M.w := by
 unfold Mkt.all Bok.all ordsL
 rw [List.map_append]
theorem find_all (M : Mkt) (t i : Int) : M.find t i = findO t i M.all := by
 rw [ords_all, findO_append, ← findE_findO]
 rfl
def outO (t i : Int) (X : List Ord) : List Ord := X.eraseIdx (X.findIdx (Ord.is t i))
theorem outO_append (t i : Int) (X Y : List Ord) : outO t i (X ++ Y) = if (findO t i X).2 = true then outO t i X ++ Y else X ++ outO t i Y := by
 unfold outO findO
 rw [List.findIdx_append]
 cases e : X[X.findIdx (Ord.is t i)]? with
 | some o =>
  have hl := (List.getElem?_eq_some_iff.1 e).1
  rw [if_pos hl, List.eraseIdx_append_of_lt_length hl]
  rfl
 | none =>
  have hl := List.getElem?_eq_none_iff.1 e
  rw [if_neg (by omega), List.eraseIdx_append_of_length_le (by omega), Nat.add_sub_cancel]
  rfl
theorem map_erase : ∀ (X : List Ent) (k : Nat), (X.eraseIdx k).map (·.o) = (X.map (·.o)).eraseIdx k
 | [], k => rfl
 | x :: X, 0 => rfl
 | x :: X, k + 1 => by
  rw [List.eraseIdx_cons_succ, List.map_cons, List.map_cons, List.eraseIdx_cons_succ, map_erase X k]
theorem removeL_is (t i : Int) : ∀ (L : List Lev), (removeL t i L).1 = (findO t i (ordsL L)).1 ∧ (removeL t i L).2.1 = (findO t i (ordsL L)).2 ∧ ordsL (removeL t i L).2.2 = outO t i (ordsL L)
 | [] => ⟨rfl, rfl, rfl⟩
 | l :: R => by
  obtain ⟨h1, h2, h3⟩ := removeL_is t i R
  have hm : (removeM t i l.2).1 = (findO t i (l.2.map (·.o))).1 ∧ (removeM t i l.2).2.1 = (findO t i (l.2.map (·.o))).2 ∧ (removeM t i l.2).2.2.map (·.o) = outO t i (l.2.map (·.o)) := by
   unfold removeM findO outO
   rw [idx_ords, List.getElem?_map]
   cases e : l.2[idxM t i l.2]? with
   | none =>
    exact ⟨rfl, rfl, (List.eraseIdx_of_length_le (by rw [List.length_map]; exact List.getElem?_eq_none_iff.1 e)).symm⟩
   | some x => exact ⟨rfl, rfl, map_erase _ _⟩
  have ho : ordsL (l :: R) = l.2.map (·.o) ++ ordsL R := by unfold ordsL; rw [entL_cons, List.map_append]
  rw [ho, findO_append, outO_append, removeL]
  by_cases hb : (removeM t i l.2).2.1 = true
  ·have hf : (findO t i (l.2.map (·.o))).2 = true := by rw [← hm.2.1]; exact hb
   rw [if_pos hb, if_pos hf, if_pos hf]
   refine ⟨hm.1, rfl, ?_⟩
   rw [← hm.2.2]
   by_cases he : (removeM t i l.2).2.2.isEmpty = true
   ·rw [if_pos he, List.isEmpty_iff.1 he]
    rfl
   ·rw [if_neg he]
    unfold ordsL
    rw [entL_cons, List.map_append]
  ·have hf : ¬ (findO t i (l.2.map (·.o))).2 = true := by rw [← hm.2.1]; exact hb
   rw [if_neg hb, if_neg hf, if_neg hf]
   refine ⟨h1, h2, ?_⟩
   rw [← h3]
   show ordsL (l :: (removeL t i R).2.2) = _
   unfold ordsL
   rw [entL_cons, List.map_append]
theorem remove_all (M : Mkt) (t i : Int) : (M.remove t i).1 = (findO t i M.all).1 ∧ (M.remove t i).2.1 = (findO t i M.all).2 ∧ (M.remove t i).2.2.all = outO t i M.all ∧ ((findO t i M.all).2 = false → (M.remove t i).2.2 = M) := by
 obtain ⟨b1, b2, b3⟩ := removeL_is t i M.b.buys
 obtain ⟨s1, s2, s3⟩ := removeL_is t i M.b.sells
 unfold Mkt.all Mkt.remove Bok.remove
 rw [findO_append, findO_append, outO_append, findO_append, outO_append]
 by_cases hb : (removeL t i M.b.buys).2.1 = true
 ·have hf : (findO t i (ordsL M.b.buys)).2 = true := by rw [← b2]; exact hb
  simp only [if_pos hb, if_pos hf, if_true]
  exact ⟨b1, by first | rfl | trivial, by rw [b3], fun h => by cases h⟩
 ·have hf : ¬ (findO t i (ordsL M.b.buys)).2 = true := by rw [← b2]; exact hb
  by_cases hs : (removeL t i M.b.sells).2.1 = true
  ·have hg : (findO t i (ordsL M.b.sells)).2 = true := by rw [← s2]; exact hs
   simp only [if_neg hb, if_neg hf, if_pos hs, if_pos hg, if_true]
   exact ⟨s1, by first | rfl | trivial, by rw [s3], fun h => by cases h⟩
  ·have hg : ¬ (findO t i (ordsL M.b.sells)).2 = true := by rw [← s2]; exact hs
   simp only [if_neg hb, if_neg hf, if_neg hs, if_neg hg, Bool.false_eq_true, if_false]
   unfold findO outO
   cases e : M.w[M.w.findIdx (Ord.is t i)]? with
   | none =>
    refine ⟨rfl, rfl, ?_, fun _ => rfl⟩
    rw [List.eraseIdx_of_length_le (List.getElem?_eq_none_iff.1 e)]
   | some x => exact ⟨rfl, rfl, rfl, fun h => by cases h⟩
theorem idx_at {X : List Ord} (h : (X.map Ord.key).Nodup) {k : Nat} {x : Ord} (hx : X[k]? = some x) : X.findIdx (Ord.is x.tr x.id) = k := by
 obtain ⟨hk, rfl⟩ := List.getElem?_eq_some_iff.1 hx
 rw [List.findIdx_eq hk]
 refine ⟨by simp [Ord.is], fun j hj => ?_⟩
 have := List.pairwise_iff_getElem.1 h j k (by simpa using (by omega : j < X.length)) (by simpa using hk) hj
 simp only [List.getElem_map, Ord.key] at this
 simp only [Ord.is]
 rw [← Bool.decide_and]
 refine decide_eq_false fun e => this ?_
 rw [e.1, e.2]
theorem findO_at {X : List Ord} (h : (X.map Ord.key).Nodup) {k : Nat} {x : Ord} (hx : X[k]? = some x) : findO x.tr x.id X = (x, true) := by
 unfold findO
 rw [idx_at h hx, hx]
def mx (p q : Int) : Int := if p < q then q else p
def Ord.chg (o : Ord) (p n : Int) : Ord := { o with price := p, qty := n, shw := mx 0 (mn o.shw n) }
theorem mn_is (p q : Int) : mn p q = p ∧ p ≤ q ∨ mn p q = q ∧ q < p := by unfold mn; split <;> omega
theorem mx_is (p q : Int) : mx p q = p ∧ q ≤ p ∨ mx p q = q ∧ p < q := by unfold mx; split <;> omega
def Mkt.less (M : Mkt) (t i n : Int) : Bool × Mkt := ((M.b.less t i n).1, ⟨(M.b.less t i n).2, M.w⟩)
def Mkt.back (M : Mkt) (t i : Int) (c : Ord) : List Ot × Mkt := (M.remove t i).2.2.add c
def Mkt.amend (M : Mkt) (t i p n : Int) : List Ot × Int × Mkt :=
 if (M.find t i).2 = false then ([], 6, M)
 else if ((M.find t i).1.chg p n).right = false then ([], 1, M)
 else if p = (M.find t i).1.price ∧ (M.less t i n).1 = true then ([], 0, (M.less t i n).2)
 else ((M.back t i ((M.find t i).1.chg p n)).1, 0, (M.back t i ((M.find t i).1.chg p n)).2)
theorem less_few {B : Bok} (h : Inv B) (t i n : Int) (k : Int × Int) : cnt k (B.less t i n).2.all = cnt k B.all ∧ (B.less t i n).2.len = B.len := by
 have hb := less_facts t i n B.buys h.two.mine
 have hs := less_facts t i n B.sells h.two.theirs
 unfold Bok.less
 split
 ·have := hb.cnts k
  have := hb.len
  simp only [Bok.all, Bok.len, cnt_append, List.length_append]
  omega
 ·split
  ·have := hs.cnts k
   have := hs.len
   simp only [Bok.all, Bok.len, cnt_append, List.length_append]
   omega
  ·exact ⟨rfl, rfl⟩
theorem InvK.less {M : Mkt} (h : InvK M) (t i n : Int) : InvK (M.less t i n).2 ∧ (M.less t i n).2.b.no = M.b.no := by
 obtain ⟨h1, h2⟩ := inv_less h.inv t i n
 refine ⟨⟨h1, ?_, h.good, fun k => ?_⟩, h2⟩
 ·have := (less_few h.inv t i n (0, 0)).2
  have := h.few
  unfold Mkt.less
  simp only
  omega
 ·have := (less_few h.inv t i n k).1
  have := h.once k
  unfold Mkt.less
  simp only
  omega
theorem InvK.back {M : Mkt} (h : InvK M) (t i : Int) (c : Ord) : InvK (M.back t i c).2 ∧ M.b.no ≤ (M.back t i c).2.b.no ∧ (M.back t i c).2.b.no ≤ M.b.no + 70000000 := by
 obtain ⟨h1, h2⟩ := h.remove t i
 have := add_no h1 c
 unfold Mkt.back
 exact ⟨h1.add c, by omega, by omega⟩
theorem InvK.amend {M : Mkt} (h : InvK M) (t i p n : Int) : InvK (M.amend t i p n).2.2 ∧ (M.amend t i p n).2.2.b.no ≤ M.b.no + 70000000 := by
 unfold Mkt.amend
 split
 ·exact ⟨h, by simp only; omega⟩
 ·split
  ·exact ⟨h, by simp only; omega⟩
  ·split
   ·obtain ⟨h1, h2⟩ := h.less t i n
    exact ⟨h1, by simp only; omega⟩
   ·obtain ⟨h1, h2, h3⟩ := h.back t i ((M.find t i).1.chg p n)
    exact ⟨h1, h3⟩
def shrU (T t : Int) : Int := T.fdiv (2 ^ (min t.toNat 64))
def bitB (T t : Int) : Bool := decide (bits .and .u64 (shrU T t) 1 = 1)
def goneM (T : Int) (X : List Ord) : List Ord := X.filter fun o => bitB T o.tr
def stayM (T : Int) (X : List Ord) : List Ord := X.filter fun o => !bitB T o.tr
def massS (T : Int) (M : Mkt) (o : Ord) : Mkt := if bitB T o.tr = true then (M.remove o.tr o.id).2.2 else M
def massL (T : Int) (X : List Ord) (M : Mkt) : Mkt := X.foldl (massS T) M
theorem massL_next (T : Int) (X : List Ord) (M : Mkt) (k : Nat) (o : Ord) (h : X[k]? = some o) : massL T (X.take (k + 1)) M = massS T (massL T (X.take k) M) o := by
 unfold massL
 rw [List.take_add_one, h, Option.toList_some, List.foldl_append]
 rfl
theorem goneM_next (T : Int) (X : List Ord) (k : Nat) (o : Ord) (h : X[k]? = some o) : goneM T (X.take (k + 1)) = goneM T (X.take k) ++ (if bitB T o.tr = true then [o] else []) := by
 unfold goneM
 rw [List.take_add_one, h, Option.toList_some, List.filter_append]
 congr 1
 rw [List.filter_cons]
 cases bitB T o.tr <;> rfl
theorem stayM_next (T : Int) (X : List Ord) (k : Nat) (o : Ord) (h : X[k]? = some o) : stayM T (X.take (k + 1)) = stayM T (X.take k) ++ (if bitB T o.tr = true then [] else [o]) := by
 unfold stayM
 rw [List.take_add_one, h, Option.toList_some, List.filter_append]
 congr 1
 rw [List.filter_cons]
 cases bitB T o.tr <;> rfl
theorem InvK.massS {M : Mkt} (h : InvK M) (T : Int) (o : Ord) : InvK (massS T M o) ∧ (Go.Proofs.Ytklohceombpleaa.massS T M o).b.no = M.b.no := by
 unfold Go.Proofs.Ytklohceombpleaa.massS
 split
 ·exact h.remove _ _
 ·exact ⟨h, rfl⟩
theorem InvK.massL (T : Int) : ∀ (X : List Ord) {M : Mkt}, InvK M → InvK (massL T X M) ∧ (Go.Proofs.Ytklohceombpleaa.massL T X M).b.no = M.b.no
 | [], M, h => ⟨h, rfl⟩
 | o :: X, M, h => by
  obtain ⟨h1, h2⟩ := h.massS T o
  obtain ⟨h3, h4⟩ := InvK.massL T X h1
  exact ⟨h3, h4.trans h2⟩
def qtyOf (t : Int) (o : Ord) : Int := if o.tr = t then o.qty else 0
def openM (t : Int) (X : List Ord) : Int := sumI (X.map (qtyOf t))
theorem openM_next (t : Int) (X : List Ord) (k : Nat) (o : Ord) (h : X[k]? = some o) : openM t (X.take (k + 1)) = openM t (X.take k) + qtyOf t o := by
 unfold openM
 rw [List.take_add_one, h, Option.toList_some, List.map_append, sumI_append]
 simp [sumI]
structure Ord.Fair (o : Ord) : Prop where
 tr0 : 0 ≤ o.tr
 tr1 : o.tr ≤ 31
 qty0 : 1 ≤ o.qty
 qty1 : o.qty ≤ 1048576
 shw0 : 0 ≤ o.shw
theorem ordsL_at {s : Int} {L : List Lev} (h : Sid s L) : ∀ o ∈ ordsL L, ∃ l ∈ L, ∃ e ∈ l.2, e.At s l.1 ∧ e.o = o := by
 intro o ho
 unfold ordsL at ho
 obtain ⟨e, he, rfl⟩ := List.mem_map.1 ho
 unfold entL at he
 obtain ⟨l, hl, he⟩ := List.mem_flatMap.1 he
 exact ⟨l, hl, e, he, h.at_ l hl e he, rfl⟩
theorem at_fair {s p : Int} {e : Ent} (h : e.At s p) : e.o.Fair := by
 have h1 := h.stt
 unfold Ord.stt at h1
 have := h.pos
 have := h.le
 exact ⟨h1.1.1, h1.1.2, by omega, h.few, h.shw0⟩
theorem InvK.fair {M : Mkt} (h : InvK M) : ∀ o ∈ M.all, o.Fair := by
 intro o ho
 unfold Mkt.all at ho
 rcases List.mem_append.1 ho with ho | ho
 ·rcases List.mem_append.1 ho with ho | ho
  ·obtain ⟨l, _, e, _, he, rfl⟩ := ordsL_at h.inv.two.mine o ho
   exact at_fair he
  ·obtain ⟨l, _, e, _, he, rfl⟩ := ordsL_at h.inv.two.theirs o ho
   exact at_fair he
 ·have := (right_iff o).1 (h.good o ho).1
  exact ⟨by omega, by omega, by omega, by omega, by omega⟩
theorem openM_in (t : Int) : ∀ X : List Ord, (∀ o ∈ X, o.Fair) → 0 ≤ openM t X ∧ openM t X ≤ 1048576 * (X.length : Int)
 | [], _ => by simp [openM, sumI]
 | o :: X, h => by
  have ih := openM_in t X (fun x hx => h x (List.mem_cons_of_mem _ hx))
  have ho := h o List.mem_cons_self
  have h1 := ho.qty0
  have h2 := ho.qty1
  have e : openM t (o :: X) = qtyOf t o + openM t X := rfl
  rw [e, List.length_cons]
  unfold qtyOf
  split <;> omega
theorem InvK.all_few {M : Mkt} (h : InvK M) : M.all.length ≤ 64 := by
 rw [all_len]
 exact h.few
theorem ois_key (o : Ord) (t i : Int) : Ord.is t i o = decide (o.key = (t, i)) := by
 unfold Ord.is Ord.key
 rw [← Bool.decide_and]
 simp
theorem filter_idx {X : List Ord} (h : (X.map Ord.key).Nodup) (t i : Int) : outO t i X = X.filter fun o => !Ord.is t i o := by
 induction X with
 | nil => rfl
 | cons x X ih =>
  rw [List.map_cons] at h
  have hx := (List.nodup_cons.1 h).1
  have hX := (List.nodup_cons.1 h).2
  unfold outO
  rw [List.findIdx_cons]
  by_cases hc : Ord.is t i x = true
  ·rw [hc, List.filter_cons, hc]
   simp only [cond_true, List.eraseIdx_cons_zero, Bool.not_true, Bool.false_eq_true, if_false]
   rw [List.filter_eq_self.2]
   intro y hy
   rw [ois_key] at hc ⊢
   have e : x.key = (t, i) := by simpa using hc
   have : y.key ≠ (t, i) := fun h2 => hx (List.mem_map.2 ⟨y, hy, by rw [h2, e]⟩)
   simp [this]
  ·have hc' : Ord.is t i x = false := by simpa using hc
   rw [hc', List.filter_cons, hc']
   simp only [cond_false, List.eraseIdx_cons_succ, Bool.not_false, if_true]
   rw [← ih hX]
   rfl
theorem massS_all {M : Mkt} (h : InvK M) (T : Int) (o : Ord) : (massS T M o).all = M.all.filter fun y => !(bitB T o.tr && Ord.is o.tr o.id y) := by
 unfold massS
 cases hb : bitB T o.tr with
 | false =>
  simp only [Bool.false_eq_true, if_false, Bool.false_and, Bool.not_false]
  exact (List.filter_eq_self.2 (fun _ _ => rfl)).symm
 | true =>
  simp only [if_true, Bool.true_and]
  rw [(remove_all M o.tr o.id).2.2.1, filter_idx h.nodup]
theorem massL_all (T : Int) : ∀ (X : List Ord) {M : Mkt}, InvK M → (massL T X M).all = M.all.filter fun y => !X.any fun o => bitB T o.tr && Ord.is o.tr o.id y
 | [], M, h => (List.filter_eq_self.2 (fun _ _ => rfl)).symm
 | o :: X, M, h => by
  have e : massL T (o :: X) M = massL T X (massS T M o) := rfl
  rw [e, massL_all T X (h.massS T o).1, massS_all h, List.filter_filter]
  congr 1
  funext y
  rw [List.any_cons]
  cases (bitB T o.tr && Ord.is o.tr o.id y) <;> simp
theorem mass_all {M : Mkt} (h : InvK M) (T : Int) : (massL T M.all M).all = stayM T M.all := by
 rw [massL_all T M.all h]
 unfold stayM
 refine List.filter_congr fun y hy => ?_
 congr 1
 cases hb : bitB T y.tr with
 | true =>
  rw [List.any_eq_true]
  exact ⟨y, hy, by simp [hb, Ord.is]⟩
 | false =>
  rw [List.any_eq_false]
  intro o ho
  by_cases hi : Ord.is o.tr o.id y = true
  ·have : y.tr = o.tr := by
    simp only [Ord.is, Bool.and_eq_true, decide_eq_true_eq] at hi
    exact hi.1
   rw [← this, hb]
   simp
  ·simp [hi]
end Go.Proofs.Ytklohceombpleaa
