/-
 Laws and contracts that the walks rest on, part 4. No condition.
-/
import Derived.Test.YtlbeibapbkccfaaGreatQV03
set_option linter.unusedVariables false
set_option maxRecDepth 100000
set_option maxHeartbeats 3200000
namespace Go.Proofs.YtlbeibapbkccfaaGreat
open Go.RowKit
theorem refusal_any (w:World) (F:Nat→Prop) (p:Nat) (B:Bok) (o:Ord) (h:Bk w F p B) (hI:Inv B):Gives 92 #[.pointer (some ⟨p,0,none⟩),o.v] w (.eq (.int .i64 (B.err o))):=by
 refine XJ ?_
 have HB:=Kj h
 have HI:=Kj hI
 clear h hI
 go_enter Tryz.func92,Tryz.ntmps92
 go_upto_region 0 with fail
 refine QZ 2 [.fresh w.heap.size 30 (o.cells),iE 0] rfl (by kernel_rfl) ?_ ?_
 ·refine nW 1 rfl (fun a u E D hk=>⟨_,_,YX 30 _ (o.cells) rfl (eE E),⟨_,rfl,hk.size,Blk.new u _ _⟩,((Keep.refl _ u).alloc _)⟩) ?_
  refine sW 2 rfl (fun a u E D hk=>JQ _ _ rfl rfl) ?_
  exact fz
 intro gv w0 hV k0
 rw [dq 2 [3,4]]
 simp only [Fz7]
 have hv3:(.fresh w.heap.size 30 (o.cells):Kn).p (gv 3) w0:=hV 0 3 (by kernel_rfl)
 generalize gv 3=v3 at hv3 ⊢
 rw [gQ hV 1 4 (.int .i64 0)]
 clear hV
 obtain ⟨g,rfl,hg,hBo⟩:=hv3
 refine Kx ?_
 have HO:=Kj (JW hBo)
 clear hBo
 by_cases hr:o.right=true
 ·have hr1:¬ o.err≠0:=by unfold Ord.err;rw [if_pos hr];simp
  have HR:=Kj hr
  clear hr
  by_cases hst:o.stop≠0
  ·have HE:Hid (B.err o=1):=by show _=_;unfold Bok.err;rw [if_pos (fun h=>hst h.2)]
   go_upto_region 1 with fail
   refine wE 8 [o.v,iV o.err,bV false,bV false,pV g 8,iV o.stop,bV true,bV true] [7,8,9,10,11,12,13,14] ?_ ?_
   ·refine sE 1 3 g 0 o.cells Tryz.underlying30 (fun u hk=>JJ HO.out hk) (by rw [o.len9];exact JX) ?_
    refine cS 2 71 [o.v] rfl Tryz.func71 rfl (fun a u E D hk=>⟨ll (dD D 0) rfl,yy o u⟩) ?_
    refine aS 3 rfl (fun a u E D hk=>YZ rfl (dD D 1) rfl) (Ku hr1) ?_
    refine mD 4 9 2 ?_
    refine fE 5 3 30 8 8 0 ?_
    refine lD 6 11 4 Tryz.underlying3 (fun u hk=>JY (JJ HO.out hk) 8 _ rfl) ?_
    refine aS 7 rfl (fun a u E D hk=>YZ rfl (dD D 5) rfl) (Ky hst) ?_
    refine sW 8 rfl (fun a u E D hk=>Zj _ _ _ _ rfl (dD D 3) (dD D 6)) ?_
    exact fz
   intro w1 k1
   simp only [F8]
   have kx:=k0.trans k1
   clear HO hr1 hst
   go_wp2
   go_ret
   exact ⟨by rw [HE.out];rfl,kx⟩
  skip
  go_upto_region 1 with fail
  refine wE 8 [o.v,iV o.err,bV false,bV false,pV g 8,iV o.stop,bV false,bV false] [7,8,9,10,11,12,13,14] ?_ ?_
  ·refine sE 1 3 g 0 o.cells Tryz.underlying30 (fun u hk=>JJ HO.out hk) (by rw [o.len9];exact JX) ?_
   refine cS 2 71 [o.v] rfl Tryz.func71 rfl (fun a u E D hk=>⟨ll (dD D 0) rfl,yy o u⟩) ?_
   refine aS 3 rfl (fun a u E D hk=>YZ rfl (dD D 1) rfl) (Ku hr1) ?_
   refine mD 4 9 2 ?_
   refine fE 5 3 30 8 8 0 ?_
   refine lD 6 11 4 Tryz.underlying3 (fun u hk=>JY (JJ HO.out hk) 8 _ rfl) ?_
   refine aS 7 rfl (fun a u E D hk=>YZ rfl (dD D 5) rfl) (Ku hst) ?_
   refine sW 8 rfl (fun a u E D hk=>Zj _ _ _ _ rfl (dD D 3) (dD D 6)) ?_
   exact fz
  intro w1 k1
  simp only [F8]
  have kx:=k0.trans k1
  have hst0:o.stop=0:=Classical.not_not.1 hst
  have HST:=Kj hst0
  have HO1:=Kj (JJ HO.out k1)
  have HSD:=Kj (right_side HR.out)
  have HQ:=Kj (JJZ HR.out)
  have HS3:Hid (3-o.side=1∨3-o.side=2):=by have:=HSD.out;show _∨_;omega
  have HSID:=Kj (HI.out.side HSD.out).theirs
  have HL64:Hid ((B.sd (3-o.side)).length≤1000):=by have:=HSID.out.ok.len;show _≤_;omega
  clear HO hr1 hst hst0 k0 k1
  obtain ⟨fo,hfo⟩:∃ x,(B.find o.tr o.id).1=x:=⟨_,rfl⟩
  obtain ⟨hb,hhb⟩:∃ x,(B.find o.tr o.id).2=x:=⟨_,rfl⟩
  have HFO:=Kj hfo
  have HHB:=Kj hhb
  clear hfo hhb
  go_upto_region 3 with fail
  refine QZ 10 [pE p 0,pE g 0,iE o.tr,pE g 1,iE o.id,.eq (.tuple #[fo.v,.bool hb]),.eq (.tuple #[fo.v,.bool hb]),.eq (fo.v),bE hb,.fresh w1.heap.size 30 JV.cells] rfl (by kernel_rfl) ?_ ?_
  ·refine mE 1 0 ?_
   refine fE 2 3 30 0 0 0 ?_
   refine lD 3 17 1 Tryz.underlying3 (fun u hk=>JY (JJ HO1.out hk) 0 _ rfl) ?_
   refine fE 4 3 30 1 1 0 ?_
   refine lD 5 19 3 Tryz.underlying3 (fun u hk=>JY (JJ HO1.out hk) 1 _ rfl) ?_
   refine cS 6 33 [.pointer (some ⟨p,0,none⟩),.int .i64 o.tr,.int .i64 o.id] rfl Tryz.func33 rfl (fun a u E D hk=>⟨ll (dD D 0) (ll (dD D 2) (ll (dD D 4) rfl)),(by rw [← HFO.out,← HHB.out];exact bfind_any u F p B o.tr o.id (HB.out.kept (kx.trans hk)) HI.out)⟩) ?_
   refine mD 7 21 5 ?_
   refine sW 8 rfl (fun a u E D hk=>QU _ [fo.v,.bool hb] 0 (fo.v) rfl (dD D 6) rfl) ?_
   refine sW 9 rfl (fun a u E D hk=>QU _ [fo.v,.bool hb] 1 (.bool hb) rfl (dD D 6) rfl) ?_
   refine nW 10 rfl (fun a u E D hk=>⟨_,_,QW 30 JV.cells rfl zO,⟨_,rfl,hk.size,Blk.new u _ _⟩,((Keep.refl _ u).alloc _)⟩) ?_
   exact fz
  intro gv w2 hV k2
  rw [dq 10 [16,17,18,19,20,21,15,22,23,5]]
  simp only [Fz7]
  have hv5:(.fresh w1.heap.size 30 JV.cells:Kn).p (gv 5) w2:=hV 9 5 (by kernel_rfl)
  generalize gv 5=v5 at hv5 ⊢
  rw [gQ hV 7 22 fo.v]
  rw [gQ hV 8 23 (.bool hb)]
  clear hV
  obtain ⟨b5,rfl,hb5,hB5⟩:=hv5
  refine Qj 30 b5 30 JV.cells fo.cells _ _ rfl rfl (by kernel_rfl) (by kernel_rfl) hB5 (by rw [Ord.len9];exact JX) (by rw [Ord.len9,Ord.len9]) (Ord.one1 _) ?_
  intro w3 hB3 hk3 hs3
  simp only [Act.put]
  refine Jx (.bool hb) rfl (JQ _ _ rfl (by kernel_rfl)) ?_
  simp only [Act.put,sA,sS,sZ]
  refine Kx ?_
  have k13:Kept w1 w3:=k2.trans' hk3 (by omega)
  have kx3:=kx.trans k13
  have HO3:=Kj (JJ HO1.out k13)
  clear hB5 hB3 hk3 hs3 k2 k13 HO1
  cases hb with
  | true=>
   have HE:Hid (B.err o=5):=by show _=_;unfold Bok.err;rw [if_neg (fun h=>h ⟨HR.out,HST.out⟩),if_pos (show B.has o.tr o.id=true from HHB.out)]
   have kx:=kx3
   clear HO3 HFO HHB kx3
   go_wp2
   go_ret
   exact ⟨by rw [HE.out];rfl,kx⟩
  | false=>
   have HNH:Hid (¬ B.has o.tr o.id=true):=by show ¬ _;unfold Bok.has;rw [HHB.out];simp
   clear HFO HHB kx
   obtain ⟨mr,hmr⟩:∃ x,(decide (o.k=1) || decide (o.k=5))=x:=⟨_,rfl⟩
   have HMR:=Kj hmr
   have hmr1:mr=true↔(o.k=1∨o.k=5):=by rw [← hmr];simp
   have HM1:=Kj hmr1
   clear hmr hmr1
   by_cases hfull:mr=true∧64≤B.len
   ·obtain ⟨hm1,hln0⟩:=hfull
    subst hm1
    have hln:(64:Int)≤(B.len:Int):=by omega
    have HE:Hid (B.err o=4):=by show _=_;unfold Bok.err;rw [if_neg (fun h=>h ⟨HR.out,HST.out⟩),if_neg HNH.out,if_pos ⟨HM1.out.1 rfl,hln0⟩]
    go_upto_region 6 with fail
    refine wE 7 [o.v,bV true,bV true,pV p 0,iV (B.len:Int),bV true,bV true] [25,26,27,28,29,30,31] ?_ ?_
    ·refine sE 1 3 g 0 o.cells Tryz.underlying30 (fun u hk=>JJ HO3.out hk) (by rw [o.len9];exact JX) ?_
     refine cS 2 94 [o.v] rfl Tryz.func94 rfl (fun a u E D hk=>⟨ll (dD D 0) rfl,(by rw [← HMR.out];exact JJQ u o)⟩) ?_
     refine mD 3 26 1 ?_
     refine mE 4 0 ?_
     refine cS 5 67 [.pointer (some ⟨p,0,none⟩)] rfl Tryz.func67 rfl (fun a u E D hk=>⟨ll (dD D 3) rfl,blen_any u F p B (HB.out.kept (kx3.trans hk)) HI.out⟩) ?_
     refine aS 6 rfl (fun a u E D hk=>WV rfl (dD D 4) rfl) (Ky hln) ?_
     refine pT 7 27 30 2 5 ?_
     exact fz
    intro w4 k4
    simp only [F8]
    have kx:=kx3.trans k4
    clear HO3 k4 kx3 hln hln0
    go_wp2
    go_ret
    exact ⟨by rw [HE.out];rfl,kx⟩
   have HNF:Hid (¬ ((o.k=1∨o.k=5)∧64≤B.len)):=fun h=>hfull ⟨HM1.out.2 h.1,h.2⟩
   have hE0:B.err o=if o.k=5∧o.meets (B.sd (3-o.side))=true then 11 else if o.k=4∧0<(B.matched o).left then 12 else 0:=by
    unfold Bok.err
    rw [if_neg (fun h=>h ⟨HR.out,HST.out⟩),if_neg HNH.out,if_neg HNF.out]
   have HE0:=Kj hE0
   clear hE0
   have h4:∀ (K:Nat→Prop),True:=fun _=>trivial
   clear h4
   obtain ⟨mb,hmb⟩:∃ x,o.meets (B.sd (3-o.side))=x:=⟨_,rfl⟩
   have HCR:=Kj hmb
   obtain ⟨gv0,hgv0⟩:∃ x,Wz o (B.sd (3-o.side))=x:=⟨_,rfl⟩
   have HGV:=Kj hgv0
   have HGL:Hid (gv0<o.qty↔0<(B.matched o).left):=by
    have h1:=gives_left o (B.sd (3-o.side)) B.no o.qty (by have:=HQ.out;omega) HSID.out
    show _↔_
    rw [hgv0] at h1
    unfold Bok.matched
    omega
   clear hmb hgv0
   cases mr with
   | true=>
    have hln:¬ (64:Int)≤(B.len:Int):=fun h=>hfull ⟨rfl,by omega⟩
    clear hfull
    go_upto_region 6 with fail
    refine wE 7 [o.v,bV true,bV true,pV p 0,iV (B.len:Int),bV false,bV false] [25,26,27,28,29,30,31] ?_ ?_
    ·refine sE 1 3 g 0 o.cells Tryz.underlying30 (fun u hk=>JJ HO3.out hk) (by rw [o.len9];exact JX) ?_
     refine cS 2 94 [o.v] rfl Tryz.func94 rfl (fun a u E D hk=>⟨ll (dD D 0) rfl,(by rw [← HMR.out];exact JJQ u o)⟩) ?_
     refine mD 3 26 1 ?_
     refine mE 4 0 ?_
     refine cS 5 67 [.pointer (some ⟨p,0,none⟩)] rfl Tryz.func67 rfl (fun a u E D hk=>⟨ll (dD D 3) rfl,blen_any u F p B (HB.out.kept (kx3.trans hk)) HI.out⟩) ?_
     refine aS 6 rfl (fun a u E D hk=>WV rfl (dD D 4) rfl) (Ku hln) ?_
     refine pT 7 27 30 2 5 ?_
     exact fz
    intro w4 k4
    simp only [F8]
    clear hln
    have kx4:=kx3.trans k4
    have HO4:=Kj (JJ HO3.out k4)
    clear HO3 k4 kx3
    by_cases hk5:o.k=5
    ·skip
     have HK5:=Kj hk5
     have hk4:¬ o.k=4:=by omega
     cases mb with
     | true=>
      have HE:Hid (B.err o=11):=by show _=_;rw [HE0.out,if_pos ⟨hk5,HCR.out⟩]
      go_upto_region 8 with fail
      refine wG 10 [pV g 4,iV o.k,bV true,bV true,pV p 0,o.v,pV p (Qz (3-o.side)),o.v,bV true,bV true] [32,33,34,35,36,37,38,39,40,41] ?_ ?_
      ·refine fE 1 3 30 4 4 0 ?_
       refine lD 2 32 0 Tryz.underlying3 (fun u hk=>JY (JJ HO4.out hk) 4 _ rfl) ?_
       refine aS 3 rfl (fun a u E D hk=>JU rfl (dD D 1) rfl) (Ky hk5) ?_
       refine mD 4 34 2 ?_
       refine mE 5 0 ?_
       refine sE 6 3 g 0 o.cells Tryz.underlying30 (fun u hk=>JJ HO4.out hk) (by rw [o.len9];exact JX) ?_
       refine cS 7 103 [.pointer (some ⟨p,0,none⟩),o.v] rfl Tryz.func103 rfl (fun a u E D hk=>⟨ll (dD D 4) (ll (dD D 5) rfl),jV u p o HSD.out⟩) ?_
       refine sE 8 3 g 0 o.cells Tryz.underlying30 (fun u hk=>JJ HO4.out hk) (by rw [o.len9];exact JX) ?_
       refine cS 9 104 [.pointer (some ⟨p,Qz (3-o.side),none⟩),o.v] rfl Tryz.func104 rfl (fun a u E D hk=>⟨ll (dD D 6) (ll (dD D 7) rfl),(by obtain ⟨F',hLd⟩:=(HB.out.kept (kx4.trans hk)).lad HS3.out;rw [← HCR.out];exact yV u F' p (Qz (3-o.side)) (3-o.side) _ o hLd HL64.out)⟩) ?_
       refine pT 10 35 40 3 8 ?_
       exact fz
      intro w5 k5
      simp only [F8]
      have kx:=kx4.trans k5
      clear HO4 k5 kx4 hk5 hk4
      go_wp2
      go_ret
      exact ⟨by rw [HE.out];rfl,kx⟩
     | false=>
      have HE:Hid (B.err o=0):=by show _=_;rw [HE0.out,if_neg (fun h=>by rw [HCR.out] at h;cases h.2),if_neg (fun h=>hk4 h.1)]
      go_upto_region 8 with fail
      refine wG 10 [pV g 4,iV o.k,bV true,bV true,pV p 0,o.v,pV p (Qz (3-o.side)),o.v,bV false,bV false] [32,33,34,35,36,37,38,39,40,41] ?_ ?_
      ·refine fE 1 3 30 4 4 0 ?_
       refine lD 2 32 0 Tryz.underlying3 (fun u hk=>JY (JJ HO4.out hk) 4 _ rfl) ?_
       refine aS 3 rfl (fun a u E D hk=>JU rfl (dD D 1) rfl) (Ky hk5) ?_
       refine mD 4 34 2 ?_
       refine mE 5 0 ?_
       refine sE 6 3 g 0 o.cells Tryz.underlying30 (fun u hk=>JJ HO4.out hk) (by rw [o.len9];exact JX) ?_
       refine cS 7 103 [.pointer (some ⟨p,0,none⟩),o.v] rfl Tryz.func103 rfl (fun a u E D hk=>⟨ll (dD D 4) (ll (dD D 5) rfl),jV u p o HSD.out⟩) ?_
       refine sE 8 3 g 0 o.cells Tryz.underlying30 (fun u hk=>JJ HO4.out hk) (by rw [o.len9];exact JX) ?_
       refine cS 9 104 [.pointer (some ⟨p,Qz (3-o.side),none⟩),o.v] rfl Tryz.func104 rfl (fun a u E D hk=>⟨ll (dD D 6) (ll (dD D 7) rfl),(by obtain ⟨F',hLd⟩:=(HB.out.kept (kx4.trans hk)).lad HS3.out;rw [← HCR.out];exact yV u F' p (Qz (3-o.side)) (3-o.side) _ o hLd HL64.out)⟩) ?_
       refine pT 10 35 40 3 8 ?_
       exact fz
      intro w5 k5
      simp only [F8]
      have kx5:=kx4.trans k5
      have HO5:=Kj (JJ HO4.out k5)
      clear HO4 k5 kx4 hk5
      go_upto_region 10 with fail
      refine wG 13 [pV g 4,iV o.k,bV false,bV false,undef,undef,undef,undef,undef,undef,undef,undef,bV false] [42,43,44,45,46,47,48,49,50,51,52,53,54] ?_ ?_
      ·refine fE 1 3 30 4 4 0 ?_
       refine lD 2 42 0 Tryz.underlying3 (fun u hk=>JY (JJ HO5.out hk) 4 _ rfl) ?_
       refine aS 3 rfl (fun a u E D hk=>JU rfl (dD D 1) rfl) (Ku hk4) ?_
       refine mD 4 44 2 ?_
       refine kS 5 3 ?_
       refine kS 6 3 ?_
       refine kS 7 3 ?_
       refine kS 8 3 ?_
       refine kS 9 3 ?_
       refine kS 10 3 ?_
       refine kS 11 3 ?_
       refine kS 12 3 ?_
       refine pF 13 45 3 ?_
       exact fz
      intro w6 k6
      simp only [F8]
      have kx:=kx5.trans k6
      clear HO5 k6 kx5 hk4
      go_wp2
      go_ret
      exact ⟨by rw [HE.out];rfl,kx⟩
    skip
    go_upto_region 8 with fail
    refine wG 10 [pV g 4,iV o.k,bV false,bV false,undef,undef,undef,undef,undef,bV false] [32,33,34,35,36,37,38,39,40,41] ?_ ?_
    ·refine fE 1 3 30 4 4 0 ?_
     refine lD 2 32 0 Tryz.underlying3 (fun u hk=>JY (JJ HO4.out hk) 4 _ rfl) ?_
     refine aS 3 rfl (fun a u E D hk=>JU rfl (dD D 1) rfl) (Ku hk5) ?_
     refine mD 4 34 2 ?_
     refine kS 5 3 ?_
     refine kS 6 3 ?_
     refine kS 7 3 ?_
     refine kS 8 3 ?_
     refine kS 9 3 ?_
     refine pF 10 35 3 ?_
     exact fz
    intro w5 k5
    simp only [F8]
    have kx5:=kx4.trans k5
    have HO5:=Kj (JJ HO4.out k5)
    have HN5:=Kj hk5
    clear HO4 k5 kx4 hk5
    by_cases hk4:o.k=4
    ·skip
     have HK4:=Kj hk4
     by_cases hgv:gv0<o.qty
     ·have HE:Hid (B.err o=12):=by show _=_;rw [HE0.out,if_neg (fun h=>HN5.out h.1),if_pos ⟨hk4,HGL.out.1 hgv⟩]
      go_upto_region 10 with fail
      refine wG 13 [pV g 4,iV o.k,bV true,bV true,pV p 0,o.v,pV p (Qz (3-o.side)),o.v,iV gv0,pV g 6,iV o.qty,bV true,bV true] [42,43,44,45,46,47,48,49,50,51,52,53,54] ?_ ?_
      ·refine fE 1 3 30 4 4 0 ?_
       refine lD 2 42 0 Tryz.underlying3 (fun u hk=>JY (JJ HO5.out hk) 4 _ rfl) ?_
       refine aS 3 rfl (fun a u E D hk=>JU rfl (dD D 1) rfl) (Ky hk4) ?_
       refine mD 4 44 2 ?_
       refine mE 5 0 ?_
       refine sE 6 3 g 0 o.cells Tryz.underlying30 (fun u hk=>JJ HO5.out hk) (by rw [o.len9];exact JX) ?_
       refine cS 7 103 [.pointer (some ⟨p,0,none⟩),o.v] rfl Tryz.func103 rfl (fun a u E D hk=>⟨ll (dD D 4) (ll (dD D 5) rfl),jV u p o HSD.out⟩) ?_
       refine sE 8 3 g 0 o.cells Tryz.underlying30 (fun u hk=>JJ HO5.out hk) (by rw [o.len9];exact JX) ?_
       refine cS 9 105 [.pointer (some ⟨p,Qz (3-o.side),none⟩),o.v] rfl Tryz.func105 rfl (fun a u E D hk=>⟨ll (dD D 6) (ll (dD D 7) rfl),(by obtain ⟨F',hLd⟩:=(HB.out.kept (kx5.trans hk)).lad HS3.out;rw [← HGV.out];exact gives_any u F' p (Qz (3-o.side)) (3-o.side) (3-o.side) _ o hLd HSID.out)⟩) ?_
       refine fE 10 3 30 6 6 0 ?_
       refine lD 11 51 9 Tryz.underlying3 (fun u hk=>JY (JJ HO5.out hk) 6 _ rfl) ?_
       refine aS 12 rfl (fun a u E D hk=>Wq rfl (dD D 8) (dD D 10)) (Ky hgv) ?_
       refine pT 13 45 53 3 11 ?_
       exact fz
      intro w6 k6
      simp only [F8]
      have kx:=kx5.trans k6
      clear HO5 k6 kx5 hk4 hgv
      go_wp2
      go_ret
      exact ⟨by rw [HE.out];rfl,kx⟩
     have HE:Hid (B.err o=0):=by show _=_;rw [HE0.out,if_neg (fun h=>HN5.out h.1),if_neg (fun h=>hgv (HGL.out.2 h.2))]
     go_upto_region 10 with fail
     refine wG 13 [pV g 4,iV o.k,bV true,bV true,pV p 0,o.v,pV p (Qz (3-o.side)),o.v,iV gv0,pV g 6,iV o.qty,bV false,bV false] [42,43,44,45,46,47,48,49,50,51,52,53,54] ?_ ?_
     ·refine fE 1 3 30 4 4 0 ?_
      refine lD 2 42 0 Tryz.underlying3 (fun u hk=>JY (JJ HO5.out hk) 4 _ rfl) ?_
      refine aS 3 rfl (fun a u E D hk=>JU rfl (dD D 1) rfl) (Ky hk4) ?_
      refine mD 4 44 2 ?_
      refine mE 5 0 ?_
      refine sE 6 3 g 0 o.cells Tryz.underlying30 (fun u hk=>JJ HO5.out hk) (by rw [o.len9];exact JX) ?_
      refine cS 7 103 [.pointer (some ⟨p,0,none⟩),o.v] rfl Tryz.func103 rfl (fun a u E D hk=>⟨ll (dD D 4) (ll (dD D 5) rfl),jV u p o HSD.out⟩) ?_
      refine sE 8 3 g 0 o.cells Tryz.underlying30 (fun u hk=>JJ HO5.out hk) (by rw [o.len9];exact JX) ?_
      refine cS 9 105 [.pointer (some ⟨p,Qz (3-o.side),none⟩),o.v] rfl Tryz.func105 rfl (fun a u E D hk=>⟨ll (dD D 6) (ll (dD D 7) rfl),(by obtain ⟨F',hLd⟩:=(HB.out.kept (kx5.trans hk)).lad HS3.out;rw [← HGV.out];exact gives_any u F' p (Qz (3-o.side)) (3-o.side) (3-o.side) _ o hLd HSID.out)⟩) ?_
      refine fE 10 3 30 6 6 0 ?_
      refine lD 11 51 9 Tryz.underlying3 (fun u hk=>JY (JJ HO5.out hk) 6 _ rfl) ?_
      refine aS 12 rfl (fun a u E D hk=>Wq rfl (dD D 8) (dD D 10)) (Ku hgv) ?_
      refine pT 13 45 53 3 11 ?_
      exact fz
     intro w6 k6
     simp only [F8]
     have kx:=kx5.trans k6
     clear HO5 k6 kx5 hk4 hgv
     go_wp2
     go_ret
     exact ⟨by rw [HE.out];rfl,kx⟩
    have HE:Hid (B.err o=0):=by show _=_;rw [HE0.out,if_neg (fun h=>HN5.out h.1),if_neg (fun h=>hk4 h.1)]
    go_upto_region 10 with fail
    refine wG 13 [pV g 4,iV o.k,bV false,bV false,undef,undef,undef,undef,undef,undef,undef,undef,bV false] [42,43,44,45,46,47,48,49,50,51,52,53,54] ?_ ?_
    ·refine fE 1 3 30 4 4 0 ?_
     refine lD 2 42 0 Tryz.underlying3 (fun u hk=>JY (JJ HO5.out hk) 4 _ rfl) ?_
     refine aS 3 rfl (fun a u E D hk=>JU rfl (dD D 1) rfl) (Ku hk4) ?_
     refine mD 4 44 2 ?_
     refine kS 5 3 ?_
     refine kS 6 3 ?_
     refine kS 7 3 ?_
     refine kS 8 3 ?_
     refine kS 9 3 ?_
     refine kS 10 3 ?_
     refine kS 11 3 ?_
     refine kS 12 3 ?_
     refine pF 13 45 3 ?_
     exact fz
    intro w6 k6
    simp only [F8]
    have kx:=kx5.trans k6
    clear HO5 k6 kx5 hk4
    go_wp2
    go_ret
    exact ⟨by rw [HE.out];rfl,kx⟩
   | false=>
    clear hfull
    go_upto_region 6 with fail
    refine wE 7 [o.v,bV false,bV false,undef,undef,undef,bV false] [25,26,27,28,29,30,31] ?_ ?_
    ·refine sE 1 3 g 0 o.cells Tryz.underlying30 (fun u hk=>JJ HO3.out hk) (by rw [o.len9];exact JX) ?_
     refine cS 2 94 [o.v] rfl Tryz.func94 rfl (fun a u E D hk=>⟨ll (dD D 0) rfl,(by rw [← HMR.out];exact JJQ u o)⟩) ?_
     refine mD 3 26 1 ?_
     refine kS 4 2 ?_
     refine kS 5 2 ?_
     refine kS 6 2 ?_
     refine pF 7 27 2 ?_
     exact fz
    intro w4 k4
    simp only [F8]
    have kx4:=kx3.trans k4
    have HO4:=Kj (JJ HO3.out k4)
    clear HO3 k4 kx3
    by_cases hk5:o.k=5
    ·skip
     have HK5:=Kj hk5
     have hk4:¬ o.k=4:=by omega
     cases mb with
     | true=>
      have HE:Hid (B.err o=11):=by show _=_;rw [HE0.out,if_pos ⟨hk5,HCR.out⟩]
      go_upto_region 8 with fail
      refine wG 10 [pV g 4,iV o.k,bV true,bV true,pV p 0,o.v,pV p (Qz (3-o.side)),o.v,bV true,bV true] [32,33,34,35,36,37,38,39,40,41] ?_ ?_
      ·refine fE 1 3 30 4 4 0 ?_
       refine lD 2 32 0 Tryz.underlying3 (fun u hk=>JY (JJ HO4.out hk) 4 _ rfl) ?_
       refine aS 3 rfl (fun a u E D hk=>JU rfl (dD D 1) rfl) (Ky hk5) ?_
       refine mD 4 34 2 ?_
       refine mE 5 0 ?_
       refine sE 6 3 g 0 o.cells Tryz.underlying30 (fun u hk=>JJ HO4.out hk) (by rw [o.len9];exact JX) ?_
       refine cS 7 103 [.pointer (some ⟨p,0,none⟩),o.v] rfl Tryz.func103 rfl (fun a u E D hk=>⟨ll (dD D 4) (ll (dD D 5) rfl),jV u p o HSD.out⟩) ?_
       refine sE 8 3 g 0 o.cells Tryz.underlying30 (fun u hk=>JJ HO4.out hk) (by rw [o.len9];exact JX) ?_
       refine cS 9 104 [.pointer (some ⟨p,Qz (3-o.side),none⟩),o.v] rfl Tryz.func104 rfl (fun a u E D hk=>⟨ll (dD D 6) (ll (dD D 7) rfl),(by obtain ⟨F',hLd⟩:=(HB.out.kept (kx4.trans hk)).lad HS3.out;rw [← HCR.out];exact yV u F' p (Qz (3-o.side)) (3-o.side) _ o hLd HL64.out)⟩) ?_
       refine pT 10 35 40 3 8 ?_
       exact fz
      intro w5 k5
      simp only [F8]
      have kx:=kx4.trans k5
      clear HO4 k5 kx4 hk5 hk4
      go_wp2
      go_ret
      exact ⟨by rw [HE.out];rfl,kx⟩
     | false=>
      have HE:Hid (B.err o=0):=by show _=_;rw [HE0.out,if_neg (fun h=>by rw [HCR.out] at h;cases h.2),if_neg (fun h=>hk4 h.1)]
      go_upto_region 8 with fail
      refine wG 10 [pV g 4,iV o.k,bV true,bV true,pV p 0,o.v,pV p (Qz (3-o.side)),o.v,bV false,bV false] [32,33,34,35,36,37,38,39,40,41] ?_ ?_
      ·refine fE 1 3 30 4 4 0 ?_
       refine lD 2 32 0 Tryz.underlying3 (fun u hk=>JY (JJ HO4.out hk) 4 _ rfl) ?_
       refine aS 3 rfl (fun a u E D hk=>JU rfl (dD D 1) rfl) (Ky hk5) ?_
       refine mD 4 34 2 ?_
       refine mE 5 0 ?_
       refine sE 6 3 g 0 o.cells Tryz.underlying30 (fun u hk=>JJ HO4.out hk) (by rw [o.len9];exact JX) ?_
       refine cS 7 103 [.pointer (some ⟨p,0,none⟩),o.v] rfl Tryz.func103 rfl (fun a u E D hk=>⟨ll (dD D 4) (ll (dD D 5) rfl),jV u p o HSD.out⟩) ?_
       refine sE 8 3 g 0 o.cells Tryz.underlying30 (fun u hk=>JJ HO4.out hk) (by rw [o.len9];exact JX) ?_
       refine cS 9 104 [.pointer (some ⟨p,Qz (3-o.side),none⟩),o.v] rfl Tryz.func104 rfl (fun a u E D hk=>⟨ll (dD D 6) (ll (dD D 7) rfl),(by obtain ⟨F',hLd⟩:=(HB.out.kept (kx4.trans hk)).lad HS3.out;rw [← HCR.out];exact yV u F' p (Qz (3-o.side)) (3-o.side) _ o hLd HL64.out)⟩) ?_
       refine pT 10 35 40 3 8 ?_
       exact fz
      intro w5 k5
      simp only [F8]
      have kx5:=kx4.trans k5
      have HO5:=Kj (JJ HO4.out k5)
      clear HO4 k5 kx4 hk5
      go_upto_region 10 with fail
      refine wG 13 [pV g 4,iV o.k,bV false,bV false,undef,undef,undef,undef,undef,undef,undef,undef,bV false] [42,43,44,45,46,47,48,49,50,51,52,53,54] ?_ ?_
      ·refine fE 1 3 30 4 4 0 ?_
       refine lD 2 42 0 Tryz.underlying3 (fun u hk=>JY (JJ HO5.out hk) 4 _ rfl) ?_
       refine aS 3 rfl (fun a u E D hk=>JU rfl (dD D 1) rfl) (Ku hk4) ?_
       refine mD 4 44 2 ?_
       refine kS 5 3 ?_
       refine kS 6 3 ?_
       refine kS 7 3 ?_
       refine kS 8 3 ?_
       refine kS 9 3 ?_
       refine kS 10 3 ?_
       refine kS 11 3 ?_
       refine kS 12 3 ?_
       refine pF 13 45 3 ?_
       exact fz
      intro w6 k6
      simp only [F8]
      have kx:=kx5.trans k6
      clear HO5 k6 kx5 hk4
      go_wp2
      go_ret
      exact ⟨by rw [HE.out];rfl,kx⟩
    skip
    go_upto_region 8 with fail
    refine wG 10 [pV g 4,iV o.k,bV false,bV false,undef,undef,undef,undef,undef,bV false] [32,33,34,35,36,37,38,39,40,41] ?_ ?_
    ·refine fE 1 3 30 4 4 0 ?_
     refine lD 2 32 0 Tryz.underlying3 (fun u hk=>JY (JJ HO4.out hk) 4 _ rfl) ?_
     refine aS 3 rfl (fun a u E D hk=>JU rfl (dD D 1) rfl) (Ku hk5) ?_
     refine mD 4 34 2 ?_
     refine kS 5 3 ?_
     refine kS 6 3 ?_
     refine kS 7 3 ?_
     refine kS 8 3 ?_
     refine kS 9 3 ?_
     refine pF 10 35 3 ?_
     exact fz
    intro w5 k5
    simp only [F8]
    have kx5:=kx4.trans k5
    have HO5:=Kj (JJ HO4.out k5)
    have HN5:=Kj hk5
    clear HO4 k5 kx4 hk5
    by_cases hk4:o.k=4
    ·skip
     have HK4:=Kj hk4
     by_cases hgv:gv0<o.qty
     ·have HE:Hid (B.err o=12):=by show _=_;rw [HE0.out,if_neg (fun h=>HN5.out h.1),if_pos ⟨hk4,HGL.out.1 hgv⟩]
      go_upto_region 10 with fail
      refine wG 13 [pV g 4,iV o.k,bV true,bV true,pV p 0,o.v,pV p (Qz (3-o.side)),o.v,iV gv0,pV g 6,iV o.qty,bV true,bV true] [42,43,44,45,46,47,48,49,50,51,52,53,54] ?_ ?_
      ·refine fE 1 3 30 4 4 0 ?_
       refine lD 2 42 0 Tryz.underlying3 (fun u hk=>JY (JJ HO5.out hk) 4 _ rfl) ?_
       refine aS 3 rfl (fun a u E D hk=>JU rfl (dD D 1) rfl) (Ky hk4) ?_
       refine mD 4 44 2 ?_
       refine mE 5 0 ?_
       refine sE 6 3 g 0 o.cells Tryz.underlying30 (fun u hk=>JJ HO5.out hk) (by rw [o.len9];exact JX) ?_
       refine cS 7 103 [.pointer (some ⟨p,0,none⟩),o.v] rfl Tryz.func103 rfl (fun a u E D hk=>⟨ll (dD D 4) (ll (dD D 5) rfl),jV u p o HSD.out⟩) ?_
       refine sE 8 3 g 0 o.cells Tryz.underlying30 (fun u hk=>JJ HO5.out hk) (by rw [o.len9];exact JX) ?_
       refine cS 9 105 [.pointer (some ⟨p,Qz (3-o.side),none⟩),o.v] rfl Tryz.func105 rfl (fun a u E D hk=>⟨ll (dD D 6) (ll (dD D 7) rfl),(by obtain ⟨F',hLd⟩:=(HB.out.kept (kx5.trans hk)).lad HS3.out;rw [← HGV.out];exact gives_any u F' p (Qz (3-o.side)) (3-o.side) (3-o.side) _ o hLd HSID.out)⟩) ?_
       refine fE 10 3 30 6 6 0 ?_
       refine lD 11 51 9 Tryz.underlying3 (fun u hk=>JY (JJ HO5.out hk) 6 _ rfl) ?_
       refine aS 12 rfl (fun a u E D hk=>Wq rfl (dD D 8) (dD D 10)) (Ky hgv) ?_
       refine pT 13 45 53 3 11 ?_
       exact fz
      intro w6 k6
      simp only [F8]
      have kx:=kx5.trans k6
      clear HO5 k6 kx5 hk4 hgv
      go_wp2
      go_ret
      exact ⟨by rw [HE.out];rfl,kx⟩
     have HE:Hid (B.err o=0):=by show _=_;rw [HE0.out,if_neg (fun h=>HN5.out h.1),if_neg (fun h=>hgv (HGL.out.2 h.2))]
     go_upto_region 10 with fail
     refine wG 13 [pV g 4,iV o.k,bV true,bV true,pV p 0,o.v,pV p (Qz (3-o.side)),o.v,iV gv0,pV g 6,iV o.qty,bV false,bV false] [42,43,44,45,46,47,48,49,50,51,52,53,54] ?_ ?_
     ·refine fE 1 3 30 4 4 0 ?_
      refine lD 2 42 0 Tryz.underlying3 (fun u hk=>JY (JJ HO5.out hk) 4 _ rfl) ?_
      refine aS 3 rfl (fun a u E D hk=>JU rfl (dD D 1) rfl) (Ky hk4) ?_
      refine mD 4 44 2 ?_
      refine mE 5 0 ?_
      refine sE 6 3 g 0 o.cells Tryz.underlying30 (fun u hk=>JJ HO5.out hk) (by rw [o.len9];exact JX) ?_
      refine cS 7 103 [.pointer (some ⟨p,0,none⟩),o.v] rfl Tryz.func103 rfl (fun a u E D hk=>⟨ll (dD D 4) (ll (dD D 5) rfl),jV u p o HSD.out⟩) ?_
      refine sE 8 3 g 0 o.cells Tryz.underlying30 (fun u hk=>JJ HO5.out hk) (by rw [o.len9];exact JX) ?_
      refine cS 9 105 [.pointer (some ⟨p,Qz (3-o.side),none⟩),o.v] rfl Tryz.func105 rfl (fun a u E D hk=>⟨ll (dD D 6) (ll (dD D 7) rfl),(by obtain ⟨F',hLd⟩:=(HB.out.kept (kx5.trans hk)).lad HS3.out;rw [← HGV.out];exact gives_any u F' p (Qz (3-o.side)) (3-o.side) (3-o.side) _ o hLd HSID.out)⟩) ?_
      refine fE 10 3 30 6 6 0 ?_
      refine lD 11 51 9 Tryz.underlying3 (fun u hk=>JY (JJ HO5.out hk) 6 _ rfl) ?_
      refine aS 12 rfl (fun a u E D hk=>Wq rfl (dD D 8) (dD D 10)) (Ku hgv) ?_
      refine pT 13 45 53 3 11 ?_
      exact fz
     intro w6 k6
     simp only [F8]
     have kx:=kx5.trans k6
     clear HO5 k6 kx5 hk4 hgv
     go_wp2
     go_ret
     exact ⟨by rw [HE.out];rfl,kx⟩
    have HE:Hid (B.err o=0):=by show _=_;rw [HE0.out,if_neg (fun h=>HN5.out h.1),if_neg (fun h=>hk4 h.1)]
    go_upto_region 10 with fail
    refine wG 13 [pV g 4,iV o.k,bV false,bV false,undef,undef,undef,undef,undef,undef,undef,undef,bV false] [42,43,44,45,46,47,48,49,50,51,52,53,54] ?_ ?_
    ·refine fE 1 3 30 4 4 0 ?_
     refine lD 2 42 0 Tryz.underlying3 (fun u hk=>JY (JJ HO5.out hk) 4 _ rfl) ?_
     refine aS 3 rfl (fun a u E D hk=>JU rfl (dD D 1) rfl) (Ku hk4) ?_
     refine mD 4 44 2 ?_
     refine kS 5 3 ?_
     refine kS 6 3 ?_
     refine kS 7 3 ?_
     refine kS 8 3 ?_
     refine kS 9 3 ?_
     refine kS 10 3 ?_
     refine kS 11 3 ?_
     refine kS 12 3 ?_
     refine pF 13 45 3 ?_
     exact fz
    intro w6 k6
    simp only [F8]
    have kx:=kx5.trans k6
    clear HO5 k6 kx5 hk4
    go_wp2
    go_ret
    exact ⟨by rw [HE.out];rfl,kx⟩
 have HE:Hid (B.err o=1):=by show _=_;unfold Bok.err;rw [if_pos (fun h=>hr h.1)]
 have hr1:o.err≠0:=by unfold Ord.err;rw [if_neg hr];decide
 go_upto_region 1 with fail
 refine wE 8 [o.v,iV o.err,bV true,bV true,undef,undef,undef,bV true] [7,8,9,10,11,12,13,14] ?_ ?_
 ·refine sE 1 3 g 0 o.cells Tryz.underlying30 (fun u hk=>JJ HO.out hk) (by rw [o.len9];exact JX) ?_
  refine cS 2 71 [o.v] rfl Tryz.func71 rfl (fun a u E D hk=>⟨ll (dD D 0) rfl,yy o u⟩) ?_
  refine aS 3 rfl (fun a u E D hk=>YZ rfl (dD D 1) rfl) (Ky hr1) ?_
  refine mD 4 9 2 ?_
  refine kS 5 3 ?_
  refine kS 6 3 ?_
  refine kS 7 3 ?_
  refine sW 8 rfl (fun a u E D hk=>qV _ _ _ _ rfl (dD D 3) rfl) ?_
  exact fz
 intro w1 k1
 simp only [F8]
 have kx:=k0.trans k1
 clear HO hr1 hr
 go_wp2
 go_ret
 exact ⟨by rw [HE.out];rfl,kx⟩
def AddIn (w:World) (F:Nat→Prop) (p:Nat) (x:Oc × Bok) (r:Ending) (w':World):Prop:=
 ∃ F' v,r=.returned (x.1.v v)∧Bk w' F' p x.2∧Sl w' 77 21 v x.1.f.length (fls x.1.f)∧(∀ b,v.ownBlock=some b→w.heap.size≤b∧¬ F' b)∧Grow w F F'∧Keep F w w'
theorem built_oce (o:Ord) (n e:Int):Tryz.prog.built 58 [(0,o.v),(2,.int .i64 n),(6,.int .i64 e)]=some ((Oc.mk o [] n false false e).cells (.slice none 0 0)).toArray:=by kernel_rfl
theorem Bok.traded_to (B:Bok) (o:Ord):B.traded o=B.to (3-o.side) (B.matched o).L (VY B.last (B.matched o).f) (B.no+(B.matched o).f.length):=rfl
theorem badd_any (w:World) (F:Nat→Prop) (p:Nat) (B:Bok) (o:Ord) (h:Bk w F p B) (hI:Inv B) (hn:B.no≤1000000000000):Calls Tryz.prog 74 #[.pointer (some ⟨p,0,none⟩),o.v] w (AddIn w F p (B.add o)):=by
 have hFl:=h.lt
 have HB:=Kj h
 have HI:=Kj hI
 have hpF:=h.1
 clear h hI
 go_enter Tryz.func74,Tryz.ntmps74
 go_upto_region 0 with fail
 refine QZ 2 [.fresh w.heap.size 30 (o.cells),.fresh w.heap.size 58 (Xq.cells (.slice none 0 0))] rfl (by kernel_rfl) ?_ ?_
 ·refine nW 1 rfl (fun a u E D hk=>⟨_,_,YX 30 _ (o.cells) rfl (eE E),⟨_,rfl,hk.size,Blk.new u _ _⟩,((Keep.refl _ u).alloc _)⟩) ?_
  refine nW 2 rfl (fun a u E D hk=>⟨_,_,QW 58 (Xq.cells (.slice none 0 0)) rfl zC,⟨_,rfl,hk.size,Blk.new u _ _⟩,((Keep.refl _ u).alloc _)⟩) ?_
  exact fz
 intro gv w0 hV k0
 rw [dq 2 [3,4]]
 simp only [Fz7]
 have hv3:(.fresh w.heap.size 30 (o.cells):Kn).p (gv 3) w0:=hV 0 3 (by kernel_rfl)
 generalize gv 3=v3 at hv3 ⊢
 have hv4:(.fresh w.heap.size 58 (Xq.cells (.slice none 0 0)):Kn).p (gv 4) w0:=hV 1 4 (by kernel_rfl)
 generalize gv 4=v4 at hv4 ⊢
 clear hV
 obtain ⟨bi,rfl,hbi,hBi⟩:=hv3
 obtain ⟨b4,rfl,hb4,hB4⟩:=hv4
 refine Kx ?_
 have HO:=Kj (JW hBi)
 have HB4:=Kj hB4
 have li:=hBi.lt
 have l4:=hB4.lt
 clear hBi hB4
 obtain ⟨e,he⟩:∃ e,B.err o=e:=⟨_,rfl⟩
 have HE:=Kj he
 clear he
 go_upto_region 1 with fail
 refine wE 4 [pV p 0,o.v,iV e,iV e] [7,8,9,5] ?_ ?_
 ·refine mE 1 0 ?_
  refine sE 2 3 bi 0 o.cells Tryz.underlying30 (fun u hk=>JJ HO.out hk) (by rw [o.len9];exact JX) ?_
  refine cS 3 92 [.pointer (some ⟨p,0,none⟩),o.v] rfl Tryz.func92 rfl (fun a u E D hk=>⟨ll (dD D 0) (ll (dD D 1) rfl),(by rw [← HE.out];exact refusal_any u F p B o (HB.out.kept (k0.trans hk)) HI.out)⟩) ?_
  refine mD 4 9 2 ?_
  exact fz
 intro w1 k1
 simp only [F8]
 have k01:=k0.trans k1
 have HO1:=Kj (JJ HO.out k1)
 have HB41:=Kj (HB4.out.kept k1)
 have z0:=k0.size
 have z1:=k1.size
 have h4F:¬ F b4:=fun h=>by have:=hFl b4 h;omega
 have hiF:¬ F bi:=fun h=>by have:=hFl bi h;omega
 clear HO HB4 k0 k1
 by_cases he0:e≠0
 ·have HA:Hid (B.add o=(⟨o,[],o.qty,false,false,e⟩,B)):=by show _=_;rw [yx (by rw [HE.out];exact he0),HE.out]
  go_upto_region 2 with fail
  refine wE 2 [iV e,bV true] [10,11] ?_ ?_
  ·refine mE 1 5 ?_
   refine aS 2 rfl (fun a u E D hk=>YZ rfl (dD D 0) rfl) (Ky he0) ?_
   exact fz
  intro w2 k2
  simp only [F8]
  have HO2:=Kj (JJ HO1.out k2)
  have HB42:=Kj (HB41.out.kept k2)
  clear he0
  go_upto_region 3 with fail
  refine wEp 5 [o.v,pV bi 6,iV o.qty,iV e,(Oc.mk o [] o.qty false false e).v (.slice none 0 0)] [12,13,14,15,16] ?_ ?_
  ·refine sE 1 3 bi 0 o.cells Tryz.underlying30 (fun u hk=>JJ HO2.out hk) (by rw [o.len9];exact JX) ?_
   refine fE 2 3 30 6 6 0 ?_
   refine lD 3 13 1 Tryz.underlying3 (fun u hk=>JY (JJ HO2.out hk) 6 _ rfl) ?_
   refine mE 4 5 ?_
   refine sW 5 rfl (fun a u E D hk=>YJ _ [(0,.tmp 12),(2,.tmp 14),(6,.tmp 15)] ((Oc.mk o [] o.qty false false e).cells (.slice none 0 0)) rfl (by simp only [List.map_cons,List.map_nil];rw [show a.eval (.tmp 12)=o.v from (dD D 0),show a.eval (.tmp 14)=.int .i64 o.qty from (dD D 2),show a.eval (.tmp 15)=.int .i64 e from (dD D 3)];exact built_oce o o.qty e)) ?_
   exact fz
  intro w3 k3
  simp only [F8]
  refine Qj 58 b4 58 (Xq.cells (.slice none 0 0)) ((Oc.mk o [] o.qty false false e).cells (.slice none 0 0)) _ _ rfl rfl (by kernel_rfl) (by kernel_rfl) (HB42.out.kept k3) (by rw [Oc.len15];exact szC) (by rw [Oc.len15,Oc.len15]) (Oc.one _ _ rfl) ?_
  intro w4 hB4 hk4 hs4
  simp only [Act.put]
  refine Kx ?_
  go_wp2
  refine bodyPost_ret (XZ (p:=4) rfl _ _ b4 _ ((Oc.mk o [] o.qty false false e).cells (.slice none 0 0)) rfl hB4 Tryz.underlying58 (by rw [Oc.len15];exact szC)) rfl ?_
  rw [HA.out]
  have kk:Kept w w4:=((k01.trans k2).trans k3).trans' hk4 (by omega)
  exact ⟨F,.slice none 0 0,rfl,HB.out.kept kk,Sl.nil _ _ _,fun b hb=>by simp [Value.ownBlock] at hb,Grow.refl _ _,Keep.mono (T:=F) kk (fun _ _ h=>h.elim)⟩
 have he1:e=0:=Classical.not_not.1 he0
 subst he1
 have HEZ:=Kj (err_zero HE.out)
 have HAI:=Kj (add_is HI.out HE.out)
 go_upto_region 2 with fail
 refine wE 2 [iV 0,bV false] [10,11] ?_ ?_
 ·refine mE 1 5 ?_
  refine aS 2 rfl (fun a u E D hk=>YZ rfl (dD D 0) rfl) (by decide) ?_
  exact fz
 intro w2 k2
 simp only [F8]
 have k02:=k01.trans k2
 have z2:=k2.size
 have HO2:=Kj (JJ HO1.out k2)
 have HB42:=Kj (HB41.out.kept k2)
 clear he0 k01 HO1 HB41
 obtain ⟨m,hm⟩:∃ m,B.matched o=m:=⟨_,rfl⟩
 have HMM:=Kj hm
 clear hm
 go_upto_region 4 with fail
 refine wEp 2 [pV p 0,o.v] [17,18] ?_ ?_
 ·refine mE 1 0 ?_
  refine sE 2 3 bi 0 o.cells Tryz.underlying30 (fun u hk=>JJ HO2.out hk) (by rw [o.len9];exact JX) ?_
  exact fz
 intro w3 k3
 simp only [F8]
 refine Yz 93 #[.pointer (some ⟨p,0,none⟩),o.v] rfl (Jq 93 _ [.tmp 17,.tmp 18] _ _ Tryz.func93 (by kernel_rfl) (by kernel_rfl) rfl (by kernel_rfl) _) ?_
 refine (match_any w3 F p B o (HB.out.kept (k02.trans k3)) HI.out HAI.out.sd (JJZ HAI.out.rt) hn).mono ?_
 rintro r w4 ⟨F4,vf,rfl,hb4',hv4,ho4,hg4,hk4⟩
 rw [HMM.out] at hb4' hv4
 refine ⟨(Oc.mk o m.f m.left false m.self 0).v vf,by rw [HMM.out],?_⟩
 simp only [Act.put,sA,sS,sZ]
 refine ZW (.pointer (some ⟨w4.heap.size,0,none⟩)) (w4.alloc (.cells (Xq.cells (.slice none 0 0)).toArray 58)) rfl (QW 58 (Xq.cells (.slice none 0 0)) rfl zC) ?_
 have hNw5:=Blk.new w4 58 (Xq.cells (.slice none 0 0))
 have kw5:Kept w4 (w4.alloc (.cells (Xq.cells (.slice none 0 0)).toArray 58)):=(Keep.refl _ w4).alloc _
 generalize w4.alloc (.cells (Xq.cells (.slice none 0 0)).toArray 58)=w5 at hNw5 kw5 ⊢
 simp only [Act.put,sA,sS,sZ]
 refine Qj 58 w4.heap.size 58 (Xq.cells (.slice none 0 0)) ((Oc.mk o m.f m.left false m.self 0).cells vf) _ _ rfl rfl (by kernel_rfl) (by kernel_rfl) hNw5 (by rw [Oc.len15];exact szC) (by rw [Oc.len15,Oc.len15]) (Oc.one _ _ (Yq hv4)) ?_
 intro w6 hB6 hk6 hs6
 simp only [Act.put]
 refine Kx ?_
 obtain ⟨bo,hbo⟩:∃ x,w4.heap.size=x:=⟨_,rfl⟩
 rw [hbo] at hNw5 hB6 hk6 ⊢
 have lo:=hB6.lt
 have k46:Kept w4 w6:=kw5.trans' hk6 (by omega)
 have k03:=k02.trans k3
 have z3:=k3.size
 have z4:=hk4.size
 have zz:=k46.size
 have hbw:w.heap.size≤bo:=by have:=k03.size;omega
 have KF6:Keep F w w6:=(Keep.any k03 hk4).kept k46
 have HB6:=Kj (hb4'.kept k46)
 have HV6:=Kj (hv4.kept k46)
 have HOo:=Kj hB6
 have HO6:=Kj (JJ (XW (JJ HO2.out k3) hk4 hiF) k46)
 have HB46:=Kj (((HB42.out.kept k3).keep hk4 h4F).kept k46)
 have HG4:Hid (Grow w F F4):=hg4.wide k03.size
 have hoF4:¬ F4 bo:=fun h=>by have:=hb4'.lt bo h;omega
 have hiF4:¬ F4 bi:=fun h=>(hg4 bi h).elim hiF (fun h=>by omega)
 have h4F4:¬ F4 b4:=fun h=>(hg4 b4 h).elim h4F (fun h=>by omega)
 have HOw:Hid (∀ b,vf.ownBlock=some b→w.heap.size≤b∧¬ F4 b):=fun b hb=>⟨by have:=(ho4 b hb).1;have:=k03.size;omega,(ho4 b hb).2⟩
 have HVL:Hid (∀ b,vf.ownBlock=some b→b<bo):=fun b hb=>by have:=hv4.lt hb;omega
 have hbo4:bo≠b4:=by omega
 have hv4':∀ b,vf.ownBlock=some b→b≠b4:=fun b hb e=>by
  have h1:=(ho4 b hb).1
  omega
 have HV4N:=Kj hv4'
 clear hb4' hv4 ho4 hg4 hk4 hNw5 hB6 hk6 hs6 kw5 k46 HO2 HB42 k3 hbo hv4'
 have HST:Hid (B.stays o=(decide (0<m.left) && !m.self && (decide (o.k=1) || decide (o.k=5)))):=by show _=_;unfold Bok.stays;rw [HMM.out]
 obtain ⟨st,hst⟩:∃ st,B.stays o=st:=⟨_,rfl⟩
 rw [hst] at HST
 have HSTY:=Kj hst
 have hst':(decide (0<m.left) && !m.self && (decide (o.k=1) || decide (o.k=5)))=st:=HST.out.symm
 clear hst HST
 have HADD:Hid (B.add o=(⟨o,m.f,m.left,st,m.self,0⟩,if st=true then (B.traded o).put o.side (Wj (o.cut m.left) ((B.traded o).sd o.side)) else B.traded o)):=by
  show _=_
  unfold Bok.add
  rw [if_neg (by rw [HE.out];simp),HSTY.out,HMM.out]
 have HSTH:=Kj hst'
 clear hst'
 by_cases hl:0<m.left
 ·by_cases hsf0:m.self=true
  ·have hsf:=hsf0
   have hst:st=false:=by rw [← HSTH.out,hsf];simp
   subst hst
   clear hsf0
   go_upto_region 5 with fail
   refine wE 12 [pV bo 10,iV ((Oc.mk o m.f m.left false m.self 0).left),bV true,bV true,pV bo 13,bV ((Oc.mk o m.f m.left false m.self 0).self),bV false,bV false,bV false,undef,undef,bV false] [20,21,22,23,24,25,26,27,28,29,30,31] ?_ ?_
   ·refine fE 1 6 58 2 10 0 ?_
    refine sW 2 rfl (fun a u E D hk=>QX _ Tryz.underlying3 _ _ _ rfl (dD D 0) (by rw [(HOo.out.kept hk).cell];rfl)) ?_
    refine aS 3 rfl (fun a u E D hk=>XX rfl (dD D 1) rfl) (Ky hl) ?_
    refine mD 4 22 2 ?_
    refine fE 5 6 58 5 13 0 ?_
    refine sW 6 rfl (fun a u E D hk=>UY _ Tryz.underlying4 _ _ _ rfl (dD D 4) (by rw [(HOo.out.kept hk).cell];rfl)) ?_
    refine aS 7 rfl (fun a u E D hk=>Yj _ _ (Oc.mk o m.f m.left false m.self 0).self rfl (dD D 5)) (by rw [hsf];rfl) ?_
    refine pT 8 23 26 3 6 ?_
    refine mD 9 27 7 ?_
    refine kS 10 8 ?_
    refine kS 11 8 ?_
    refine pF 12 28 8 ?_
    exact fz
   intro w7 k7
   simp only [F8]
   have HB7:=Kj (HB6.out.kept k7)
   have HV7:=Kj (HV6.out.kept k7)
   have HO7:=Kj (HOo.out.kept k7)
   have HB47:=Kj (HB46.out.kept k7)
   have KF7:=KF6.kept k7
   clear HB6 HV6 HOo HB46 HO6 KF6 k7
   go_upto_region 8 with fail
   refine wEp 1 [(Oc.mk o m.f m.left false m.self 0).v vf] [38] ?_ ?_
   ·refine sE 1 6 bo 0 ((Oc.mk o m.f m.left false m.self 0).cells vf) Tryz.underlying58 (fun u hk=>JW (HO7.out.kept hk)) (by rw [Oc.len15];exact szC) ?_
    exact fz
   intro wy ky
   simp only [F8]
   refine Qj 58 b4 58 (Xq.cells (.slice none 0 0)) ((Oc.mk o m.f m.left false m.self 0).cells vf) _ _ rfl rfl (by kernel_rfl) (by kernel_rfl) (HB47.out.kept ky) (by rw [Oc.len15];exact szC) (by rw [Oc.len15,Oc.len15]) (Oc.one _ _ (Yq HV7.out)) ?_
   intro wx hBx hkx hsx
   simp only [Act.put]
   refine Kx ?_
   go_wp2
   refine bodyPost_ret (XZ (p:=4) rfl _ _ b4 _ ((Oc.mk o m.f m.left false m.self 0).cells vf) rfl hBx Tryz.underlying58 (by rw [Oc.len15];exact szC)) rfl ?_
   rw [HADD.out]
   refine ⟨F4,vf,rfl,?_,(HV7.out.kept ky).keep hkx (fun b hb e=>HV4N.out b hb e),HOw.out,HG4.out,(KF7.kept ky).trans hkx (fun b hb e=>by omega)⟩
   have h1:=(HB7.out.kept ky).keep hkx (fun b hb e=>h4F4 (by rw [← e];exact hb))
   simp only [Bool.false_eq_true,if_false]
   rw [Bok.traded_to,HMM.out]
   exact h1
  have hsf:m.self=false:=by simpa using hsf0
  clear hsf0
  obtain ⟨mr,hmr⟩:∃ x,(decide (o.k=1) || decide (o.k=5))=x:=⟨_,rfl⟩
  have HMR:=Kj hmr
  cases mr with
  | false=>
   have hst:st=false:=by rw [← HSTH.out,hmr];simp
   subst hst
   clear hmr
   go_upto_region 5 with fail
   refine wE 12 [pV bo 10,iV ((Oc.mk o m.f m.left false m.self 0).left),bV true,bV true,pV bo 13,bV ((Oc.mk o m.f m.left false m.self 0).self),bV true,bV true,bV true,o.v,bV false,bV false] [20,21,22,23,24,25,26,27,28,29,30,31] ?_ ?_
   ·refine fE 1 6 58 2 10 0 ?_
    refine sW 2 rfl (fun a u E D hk=>QX _ Tryz.underlying3 _ _ _ rfl (dD D 0) (by rw [(HOo.out.kept hk).cell];rfl)) ?_
    refine aS 3 rfl (fun a u E D hk=>XX rfl (dD D 1) rfl) (Ky hl) ?_
    refine mD 4 22 2 ?_
    refine fE 5 6 58 5 13 0 ?_
    refine sW 6 rfl (fun a u E D hk=>UY _ Tryz.underlying4 _ _ _ rfl (dD D 4) (by rw [(HOo.out.kept hk).cell];rfl)) ?_
    refine aS 7 rfl (fun a u E D hk=>Yj _ _ (Oc.mk o m.f m.left false m.self 0).self rfl (dD D 5)) (by rw [hsf];rfl) ?_
    refine pT 8 23 26 3 6 ?_
    refine mD 9 27 7 ?_
    refine sE 10 3 bi 0 o.cells Tryz.underlying30 (fun u hk=>JJ HO6.out hk) (by rw [o.len9];exact JX) ?_
    refine cS 11 94 [o.v] rfl Tryz.func94 rfl (fun a u E D hk=>⟨ll (dD D 9) rfl,(by rw [← HMR.out];exact JJQ u o)⟩) ?_
    refine pT 12 28 30 8 10 ?_
    exact fz
   intro w7 k7
   simp only [F8]
   have HB7:=Kj (HB6.out.kept k7)
   have HV7:=Kj (HV6.out.kept k7)
   have HO7:=Kj (HOo.out.kept k7)
   have HB47:=Kj (HB46.out.kept k7)
   have KF7:=KF6.kept k7
   clear HB6 HV6 HOo HB46 HO6 KF6 k7
   go_upto_region 8 with fail
   refine wEp 1 [(Oc.mk o m.f m.left false m.self 0).v vf] [38] ?_ ?_
   ·refine sE 1 6 bo 0 ((Oc.mk o m.f m.left false m.self 0).cells vf) Tryz.underlying58 (fun u hk=>JW (HO7.out.kept hk)) (by rw [Oc.len15];exact szC) ?_
    exact fz
   intro wy ky
   simp only [F8]
   refine Qj 58 b4 58 (Xq.cells (.slice none 0 0)) ((Oc.mk o m.f m.left false m.self 0).cells vf) _ _ rfl rfl (by kernel_rfl) (by kernel_rfl) (HB47.out.kept ky) (by rw [Oc.len15];exact szC) (by rw [Oc.len15,Oc.len15]) (Oc.one _ _ (Yq HV7.out)) ?_
   intro wx hBx hkx hsx
   simp only [Act.put]
   refine Kx ?_
   go_wp2
   refine bodyPost_ret (XZ (p:=4) rfl _ _ b4 _ ((Oc.mk o m.f m.left false m.self 0).cells vf) rfl hBx Tryz.underlying58 (by rw [Oc.len15];exact szC)) rfl ?_
   rw [HADD.out]
   refine ⟨F4,vf,rfl,?_,(HV7.out.kept ky).keep hkx (fun b hb e=>HV4N.out b hb e),HOw.out,HG4.out,(KF7.kept ky).trans hkx (fun b hb e=>by omega)⟩
   have h1:=(HB7.out.kept ky).keep hkx (fun b hb e=>h4F4 (by rw [← e];exact hb))
   simp only [Bool.false_eq_true,if_false]
   rw [Bok.traded_to,HMM.out]
   exact h1
  | true=>
   have hst:st=true:=by rw [← HSTH.out,hmr,hsf];simp;exact hl
   subst hst
   clear hmr
   go_upto_region 5 with fail
   refine wE 12 [pV bo 10,iV ((Oc.mk o m.f m.left false m.self 0).left),bV true,bV true,pV bo 13,bV ((Oc.mk o m.f m.left false m.self 0).self),bV true,bV true,bV true,o.v,bV true,bV true] [20,21,22,23,24,25,26,27,28,29,30,31] ?_ ?_
   ·refine fE 1 6 58 2 10 0 ?_
    refine sW 2 rfl (fun a u E D hk=>QX _ Tryz.underlying3 _ _ _ rfl (dD D 0) (by rw [(HOo.out.kept hk).cell];rfl)) ?_
    refine aS 3 rfl (fun a u E D hk=>XX rfl (dD D 1) rfl) (Ky hl) ?_
    refine mD 4 22 2 ?_
    refine fE 5 6 58 5 13 0 ?_
    refine sW 6 rfl (fun a u E D hk=>UY _ Tryz.underlying4 _ _ _ rfl (dD D 4) (by rw [(HOo.out.kept hk).cell];rfl)) ?_
    refine aS 7 rfl (fun a u E D hk=>Yj _ _ (Oc.mk o m.f m.left false m.self 0).self rfl (dD D 5)) (by rw [hsf];rfl) ?_
    refine pT 8 23 26 3 6 ?_
    refine mD 9 27 7 ?_
    refine sE 10 3 bi 0 o.cells Tryz.underlying30 (fun u hk=>JJ HO6.out hk) (by rw [o.len9];exact JX) ?_
    refine cS 11 94 [o.v] rfl Tryz.func94 rfl (fun a u E D hk=>⟨ll (dD D 9) rfl,(by rw [← HMR.out];exact JJQ u o)⟩) ?_
    refine pT 12 28 30 8 10 ?_
    exact fz
   intro w7 k7
   simp only [F8]
   have HB7:=Kj (HB6.out.kept k7)
   have HV7:=Kj (HV6.out.kept k7)
   have HO7:=Kj (HOo.out.kept k7)
   have HI7:=Kj (JJ HO6.out k7)
   have HB47:=Kj (HB46.out.kept k7)
   have KF7:=KF6.kept k7
   have zk7:=k7.size
   have HLO:Hid (LvsOk ((B.to (3-o.side) m.L (VY B.last m.f) (B.no+m.f.length)).sd o.side)):=by
    show LvsOk _
    have h1:=HI.out.ok o.side
    rcases HAI.out.sd with h2 | h2 <;> rw [h2] at h1 ⊢ <;> exact h1
   clear HB6 HV6 HOo HB46 HO6 KF6 k7 hl hsf
   go_upto_region 6 with fail
   refine wEp 4 [pV p 0,o.v,pV bo 10,iV ((Oc.mk o m.f m.left false m.self 0).left)] [32,33,34,35] ?_ ?_
   ·refine mE 1 0 ?_
    refine sE 2 3 bi 0 o.cells Tryz.underlying30 (fun u hk=>JJ HI7.out hk) (by rw [o.len9];exact JX) ?_
    refine fE 3 6 58 2 10 0 ?_
    refine sW 4 rfl (fun a u E D hk=>QX _ Tryz.underlying3 _ _ _ rfl (dD D 2) (by rw [(HO7.out.kept hk).cell];rfl)) ?_
    exact fz
   intro w8 k8
   simp only [F8]
   refine Yz 95 #[.pointer (some ⟨p,0,none⟩),o.v,.int .i64 (Oc.mk o m.f m.left false m.self 0).left] rfl (Jq 95 _ [.tmp 32,.tmp 33,.tmp 35] _ _ Tryz.func95 (by kernel_rfl) (by kernel_rfl) rfl (by kernel_rfl) _) ?_
   refine (rest_any w8 F4 p _ o m.left (HB7.out.kept k8) HAI.out.sd HLO.out).mono ?_
   rintro r w9 ⟨F9,rfl,hb9,hg9,hk9⟩
   refine ⟨_,rfl,?_⟩
   simp only [Act.put,sA,sS,sZ]
   refine Kx ?_
   have zk8:=k8.size
   have zk9:=hk9.size
   have HO9:=Kj ((HO7.out.kept k8).keep hk9 hoF4)
   have HB49:=Kj ((HB47.out.kept k8).keep hk9 h4F4)
   have HV9:=Kj ((HV7.out.kept k8).keep hk9 (fun b hb e=>(HOw.out b hb).2 e))
   have KF9:Keep F w w9:=(KF7.kept k8).trans hk9 (fun b hb e=>(HG4.out b e).elim id (fun e=>by omega))
   have hF9:∀ b,F9 b→F4 b∨w8.heap.size≤b:=hg9
   have ho9:¬ F9 bo:=fun h=>(hF9 bo h).elim hoF4 (fun h=>by omega)
   have h49:¬ F9 b4:=fun h=>(hF9 b4 h).elim h4F4 (fun h=>by omega)
   have HOw9:Hid (∀ b,vf.ownBlock=some b→w.heap.size≤b∧¬ F9 b):=fun b hb=>⟨(HOw.out b hb).1,fun e=>(hF9 b e).elim (HOw.out b hb).2 (fun e=>by have:=HVL.out b hb;omega)⟩
   have HG9:Hid (Grow w F F9):=fun b hb=>by
    rcases hF9 b hb with h | h
    ·exact HG4.out b h
    exact .inr (by have:=KF7.size;omega)
   have HB9:=Kj hb9
   clear hb9 hg9 hk9 k8 HB7 HV7 HO7 HI7 HB47 KF7 hF9
   go_upto_region 7 with fail
   refine wEp 1 [pV bo 11] [37] ?_ ?_
   ·refine fE 1 6 58 3 11 0 ?_
    exact fz
   intro wa ka
   simp only [F8]
   refine Zz 4 bo 11 58 _ (.bool true) _ (.const (.bool true)) rfl rfl (by kernel_rfl) (by kernel_rfl) rfl rfl rfl (HO9.out.kept ka) (by rw [Oc.len15];omega) ?_
   intro wb hOb hkb hsb
   simp only [Act.put]
   refine Kx ?_
   rw [Oc.set_rests] at hOb
   have HOb:=Kj hOb
   have HBb:=Kj ((HB9.out.kept ka).keep hkb (fun b hb e=>ho9 (by rw [← e];exact hb)))
   have HVb:=Kj ((HV9.out.kept ka).keep hkb (fun b hb e=>by have:=HVL.out b hb;omega))
   have HB4b:=Kj ((HB49.out.kept ka).keep hkb (fun e=>hbo4 e.symm))
   have KFb:Keep F w wb:=(KF9.kept ka).trans hkb (fun b hb e=>by omega)
   clear hOb hkb hsb ka HO9 HB9 HV9 HB49 KF9
   go_upto_region 8 with fail
   refine wEp 1 [(Oc.mk o m.f m.left true m.self 0).v vf] [38] ?_ ?_
   ·refine sE 1 6 bo 0 ((Oc.mk o m.f m.left true m.self 0).cells vf) Tryz.underlying58 (fun u hk=>JW (HOb.out.kept hk)) (by rw [Oc.len15];exact szC) ?_
    exact fz
   intro wy ky
   simp only [F8]
   refine Qj 58 b4 58 (Xq.cells (.slice none 0 0)) ((Oc.mk o m.f m.left true m.self 0).cells vf) _ _ rfl rfl (by kernel_rfl) (by kernel_rfl) (HB4b.out.kept ky) (by rw [Oc.len15];exact szC) (by rw [Oc.len15,Oc.len15]) (Oc.one _ _ (Yq HVb.out)) ?_
   intro wx hBx hkx hsx
   simp only [Act.put]
   refine Kx ?_
   go_wp2
   refine bodyPost_ret (XZ (p:=4) rfl _ _ b4 _ ((Oc.mk o m.f m.left true m.self 0).cells vf) rfl hBx Tryz.underlying58 (by rw [Oc.len15];exact szC)) rfl ?_
   rw [HADD.out]
   refine ⟨F9,vf,rfl,?_,(HVb.out.kept ky).keep hkx (fun b hb e=>HV4N.out b hb e),HOw9.out,HG9.out,(KFb.kept ky).trans hkx (fun b hb e=>by omega)⟩
   have h1:=(HBb.out.kept ky).keep hkx (fun b hb e=>h49 (by rw [← e];exact hb))
   simp only [if_true]
   rw [Bok.traded_to,HMM.out]
   rcases HAI.out.sd with h2 | h2
   ·rw [h2] at h1 ⊢
    exact h1
   rw [h2] at h1 ⊢
   exact h1
 have hst:st=false:=by rw [← HSTH.out];simp [hl]
 subst hst
 go_upto_region 5 with fail
 refine wE 12 [pV bo 10,iV ((Oc.mk o m.f m.left false m.self 0).left),bV false,bV false,undef,undef,undef,bV false,bV false,undef,undef,bV false] [20,21,22,23,24,25,26,27,28,29,30,31] ?_ ?_
 ·refine fE 1 6 58 2 10 0 ?_
  refine sW 2 rfl (fun a u E D hk=>QX _ Tryz.underlying3 _ _ _ rfl (dD D 0) (by rw [(HOo.out.kept hk).cell];rfl)) ?_
  refine aS 3 rfl (fun a u E D hk=>XX rfl (dD D 1) rfl) (Ku hl) ?_
  refine mD 4 22 2 ?_
  refine kS 5 3 ?_
  refine kS 6 3 ?_
  refine kS 7 3 ?_
  refine pF 8 23 3 ?_
  refine mD 9 27 7 ?_
  refine kS 10 8 ?_
  refine kS 11 8 ?_
  refine pF 12 28 8 ?_
  exact fz
 intro w7 k7
 simp only [F8]
 have HB7:=Kj (HB6.out.kept k7)
 have HV7:=Kj (HV6.out.kept k7)
 have HO7:=Kj (HOo.out.kept k7)
 have HB47:=Kj (HB46.out.kept k7)
 have KF7:=KF6.kept k7
 clear HB6 HV6 HOo HB46 HO6 KF6 k7
 go_upto_region 8 with fail
 refine wEp 1 [(Oc.mk o m.f m.left false m.self 0).v vf] [38] ?_ ?_
 ·refine sE 1 6 bo 0 ((Oc.mk o m.f m.left false m.self 0).cells vf) Tryz.underlying58 (fun u hk=>JW (HO7.out.kept hk)) (by rw [Oc.len15];exact szC) ?_
  exact fz
 intro wy ky
 simp only [F8]
 refine Qj 58 b4 58 (Xq.cells (.slice none 0 0)) ((Oc.mk o m.f m.left false m.self 0).cells vf) _ _ rfl rfl (by kernel_rfl) (by kernel_rfl) (HB47.out.kept ky) (by rw [Oc.len15];exact szC) (by rw [Oc.len15,Oc.len15]) (Oc.one _ _ (Yq HV7.out)) ?_
 intro wx hBx hkx hsx
 simp only [Act.put]
 refine Kx ?_
 go_wp2
 refine bodyPost_ret (XZ (p:=4) rfl _ _ b4 _ ((Oc.mk o m.f m.left false m.self 0).cells vf) rfl hBx Tryz.underlying58 (by rw [Oc.len15];exact szC)) rfl ?_
 rw [HADD.out]
 refine ⟨F4,vf,rfl,?_,(HV7.out.kept ky).keep hkx (fun b hb e=>HV4N.out b hb e),HOw.out,HG4.out,(KF7.kept ky).trans hkx (fun b hb e=>by omega)⟩
 have h1:=(HB7.out.kept ky).keep hkx (fun b hb e=>h4F4 (by rw [← e];exact hb))
 simp only [Bool.false_eq_true,if_false]
 rw [Bok.traded_to,HMM.out]
 exact h1

theorem Bok.to1 (B:Bok) (L:List Lev):B.to 1 L B.last B.no={ B with buys:=L }:=rfl
theorem Bok.to2 (B:Bok) (L:List Lev):B.to 2 L B.last B.no={ B with sells:=L }:=rfl
theorem bremove_any (w:World) (F:Nat→Prop) (p:Nat) (B:Bok) (t i:Int) (h:Bk w F p B) (hI:Inv B):Calls Tryz.prog 29 #[.pointer (some ⟨p,0,none⟩),.int .i64 t,.int .i64 i] w fun r w'=>∃ F',r=.returned (.tuple #[(B.remove t i).1.v,.bool (B.remove t i).2.1])∧Bk w' F' p (B.remove t i).2.2∧Grow w F F'∧Keep F w w':=by
 have hFl:=h.lt
 have HK:=Kj h
 have HI:=Kj hI
 clear h hI
 go_enter Tryz.func29,Tryz.ntmps29
 go_upto_region 0 with fail
 refine QZ 2 [.fresh w.heap.size 30 JV.cells,bE false] rfl (by kernel_rfl) ?_ ?_
 ·refine nW 1 rfl (fun a u E D hk=>⟨_,_,QW 30 JV.cells rfl zO,⟨_,rfl,hk.size,Blk.new u _ _⟩,((Keep.refl _ u).alloc _)⟩) ?_
  refine sW 2 rfl (fun a u E D hk=>JQ _ _ rfl rfl) ?_
  exact fz
 intro gv w0 hV k0
 rw [dq 2 [6,7]]
 simp only [Fz7]
 have hv6:(.fresh w.heap.size 30 JV.cells:Kn).p (gv 6) w0:=hV 0 6 (by kernel_rfl)
 generalize gv 6=v6 at hv6 ⊢
 rw [gQ hV 1 7 (.bool false)]
 clear hV
 obtain ⟨b6,rfl,hb6,hB6⟩:=hv6
 refine Kx ?_
 have h6F:¬ F b6:=fun h=>by have:=hFl b6 h;omega
 have HB6:=Kj hB6
 have l6:=hB6.lt
 have HK0:=Kj (HK.out.kept k0)
 have z0:=k0.size
 clear hB6 hFl
 obtain ⟨b,hb⟩:∃ b,(Yx t i B.buys).2.1=b:=⟨_,rfl⟩
 obtain ⟨e,he⟩:∃ e,(Yx t i B.buys).1=e:=⟨_,rfl⟩
 have HB:=Kj hb
 have HE:=Kj he
 clear hb he
 go_upto_region 1 with fail
 refine wEp 5 [pV p 0,pV p 0,pV p 0,iV t,iV i] [11,12,13,14,15] ?_ ?_
 ·refine mE 1 0 ?_
  refine nD 2 11 0 ?_
  refine fD 3 12 1 82 0 0 0 ?_
  refine mE 4 1 ?_
  refine mE 5 2 ?_
  exact fz
 intro w1 k1
 simp only [F8]
 refine Yz 57 #[.pointer (some ⟨p,0,none⟩),.int .i64 t,.int .i64 i] rfl (Jq 57 _ [.tmp 13,.tmp 14,.tmp 15] _ _ Tryz.func57 (by kernel_rfl) (by kernel_rfl) rfl (by kernel_rfl) _) ?_
 refine (lremove_any w1 F p B 1 t i (HK0.out.kept k1) (.inl rfl) (HI.out.ok 1)).mono ?_
 rintro r w3 ⟨F1,rfl,h1,g1,q1,n1⟩
 have e1:B.sd 1=B.buys:=rfl
 rw [e1] at h1 n1 ⊢
 rw [Bok.to1] at h1
 refine ⟨.tuple #[e.v,.bool b],by rw [HB.out,HE.out],?_⟩
 rw [HB.out] at n1
 simp only [Act.put,sA,sS,sZ]
 refine Jx (.tuple #[e.v,.bool b]) rfl (Jj _ _ rfl (by kernel_rfl)) ?_
 simp only [Act.put,sA,sS,sZ]
 refine Jx (e.v) rfl (QU (.tmp 10) [e.v,.bool b] 0 (e.v) rfl (by kernel_rfl) rfl) ?_
 simp only [Act.put,sA,sS,sZ]
 refine Jx (.bool b) rfl (QU (.tmp 10) [e.v,.bool b] 1 (.bool b) rfl (by kernel_rfl) rfl) ?_
 simp only [Act.put,sA,sS,sZ]
 refine ZW (.pointer (some ⟨w3.heap.size,0,none⟩)) (w3.alloc (.cells JV.cells.toArray 30)) rfl (QW 30 JV.cells rfl zO) ?_
 have hNw4:=Blk.new w3 30 JV.cells
 have kw4:Kept w3 (w3.alloc (.cells JV.cells.toArray 30)):=(Keep.refl _ w3).alloc _
 generalize w3.alloc (.cells JV.cells.toArray 30)=w4 at hNw4 kw4 ⊢
 simp only [Act.put,sA,sS,sZ]
 refine Qj 30 w3.heap.size 30 JV.cells e.cells _ _ rfl rfl (by kernel_rfl) (by kernel_rfl) hNw4 (by rw [Ord.len9];exact JX) (by rw [Ord.len9,Ord.len9]) (Ord.one1 _) ?_
 intro w5 hB5 hk5 hs5
 simp only [Act.put]
 refine Jx (.bool b) rfl (JQ _ _ rfl (by kernel_rfl)) ?_
 simp only [Act.put,sA,sS,sZ]
 refine Kx ?_
 obtain ⟨b8,hb8⟩:∃ x,w3.heap.size=x:=⟨_,rfl⟩
 rw [hb8] at hNw4 hB5 hk5 ⊢
 have l8:=hB5.lt
 have K35:Kept w3 w5:=kw4.trans' hk5 (by omega)
 have z1:=k1.size
 have z3:=q1.size
 have H1:=Kj h1
 have N1:=Kj n1
 have HB8:=Kj (JW hB5)
 clear hNw4 hB5 hk5 hs5 kw4 h1 n1
 cases b with
 | true=>
  have HR:Hid (B.remove t i=(e,true,{ B with buys:=(Yx t i B.buys).2.2 })):=by show _=_;unfold Bok.remove;rw [if_pos HB.out,HE.out]
  have h6F1:¬ F1 b6:=fun h=>(g1 b6 h).elim h6F (fun h=>by omega)
  have HB65:=Kj (((HB6.out.kept k1).keep q1 h6F).kept K35)
  have H15:=Kj (H1.out.kept K35)
  have KK:Keep F w w5:=(Keep.any (k0.trans k1) q1).kept K35
  have GG:Grow w F F1:=g1.wide (k0.trans k1).size
  have z5:=KK.size
  clear HB6 H1 N1 K35 q1 g1
  go_upto_region 3 with fail
  refine wEp 1 [e.v] [20] ?_ ?_
  ·refine sE 1 8 b8 0 e.cells Tryz.underlying30 (fun u hk=>JJ HB8.out hk) (by rw [e.len9];exact JX) ?_
   exact fz
  intro w6 k6
  simp only [F8]
  refine Qj 30 b6 30 JV.cells e.cells _ _ rfl rfl (by kernel_rfl) (by kernel_rfl) (HB65.out.kept k6) (by rw [Ord.len9];exact JX) (by rw [Ord.len9,Ord.len9]) (Ord.one1 _) ?_
  intro w7 hB7 hk7 hs7
  simp only [Act.put]
  refine Jx (.bool true) rfl (JQ _ _ rfl (by kernel_rfl)) ?_
  simp only [Act.put,sA,sS,sZ]
  refine Kx ?_
  go_wp2
  refine bodyPost_ret (XU (p:=6) (q:=7) rfl _ _ b6 _ e.cells true rfl rfl hB7 Tryz.underlying30 (by rw [Ord.len9];exact JX)) rfl ?_
  rw [HR.out]
  have h9:=(H15.out.kept k6).keep hk7 (fun b hb h=>h6F1 (by subst h;exact hb))
  have k9:Keep F w w7:=(KK.kept k6).trans hk7 (fun b hb h=>by subst h;omega)
  first | exact ⟨rfl,F1,h9,GG,k9⟩ | exact ⟨F1,rfl,h9,GG,k9⟩
 | false=>
  have kk:=(k1.trans (N1.out rfl)).trans K35
  have HK5:=Kj (HK0.out.kept kk)
  have HB65:=Kj (HB6.out.kept kk)
  have zk:=kk.size
  clear H1 N1 K35 HB6 HK0 q1 g1 k1 z1 z3 HB8 l8
  obtain ⟨b,hb⟩:∃ b,(Yx t i B.sells).2.1=b:=⟨_,rfl⟩
  obtain ⟨e2,he⟩:∃ e,(Yx t i B.sells).1=e:=⟨_,rfl⟩
  have HBB:=Kj hb
  have HEE:=Kj he
  clear hb he
  go_upto_region 4 with fail
  refine wEp 5 [pV p 0,pV p 0,pV p 2,iV t,iV i] [21,22,23,24,25] ?_ ?_
  ·refine mE 1 0 ?_
   refine nD 2 21 0 ?_
   refine fD 3 22 1 82 1 2 0 ?_
   refine mE 4 1 ?_
   refine mE 5 2 ?_
   exact fz
  intro w6 k6
  simp only [F8]
  refine Yz 57 #[.pointer (some ⟨p,2,none⟩),.int .i64 t,.int .i64 i] rfl (Jq 57 _ [.tmp 23,.tmp 24,.tmp 25] _ _ Tryz.func57 (by kernel_rfl) (by kernel_rfl) rfl (by kernel_rfl) _) ?_
  refine (lremove_any w6 F p B 2 t i (HK5.out.kept k6) (.inr rfl) (HI.out.ok 2)).mono ?_
  rintro r w7 ⟨F2,rfl,h2,g2,q2,n2⟩
  have es:B.sd 2=B.sells:=rfl
  rw [es] at h2 n2 ⊢
  rw [Bok.to2] at h2
  refine ⟨.tuple #[e2.v,.bool b],by rw [HBB.out,HEE.out],?_⟩
  rw [HBB.out] at n2
  simp only [Act.put,sA,sS,sZ]
  refine Jx (e2.v) rfl (QU (.tmp 26) [e2.v,.bool b] 0 (e2.v) rfl (by kernel_rfl) rfl) ?_
  simp only [Act.put,sA,sS,sZ]
  refine Jx (.bool b) rfl (QU (.tmp 26) [e2.v,.bool b] 1 (.bool b) rfl (by kernel_rfl) rfl) ?_
  simp only [Act.put,sA,sS,sZ]
  refine Qj 30 b6 30 JV.cells e2.cells _ _ rfl rfl (by kernel_rfl) (by kernel_rfl) ((HB65.out.kept k6).keep q2 h6F) (by rw [Ord.len9];exact JX) (by rw [Ord.len9,Ord.len9]) (Ord.one1 _) ?_
  intro w8 hB8 hk8 hs8
  simp only [Act.put]
  refine Jx (.bool b) rfl (JQ _ _ rfl (by kernel_rfl)) ?_
  simp only [Act.put,sA,sS,sZ]
  refine Kx ?_
  have HR:Hid (B.remove t i=(if b=true then (e2,true,{ B with sells:=(Yx t i B.sells).2.2 }) else (JV,false,B))):=by
   show _=_
   unfold Bok.remove
   rw [if_neg (by rw [HB.out];simp),HBB.out,HEE.out]
  have z6:=k6.size
  have h6F2:¬ F2 b6:=fun h=>(g2 b6 h).elim h6F (fun h=>by omega)
  have KW:=(k0.trans kk).trans k6
  have GG:Grow w F F2:=g2.wide KW.size
  have k9:Keep F w w8:=(Keep.any KW q2).trans hk8 (fun b hb h=>by subst h;omega)
  have h9:=Kj (h2.keep hk8 (fun b hb h=>h6F2 (by subst h;exact hb)))
  have N2:=Kj n2
  have HK6:=Kj (HK.out.kept KW)
  have hk8':=hk8
  clear h2 n2 q2 g2
  have hw:b=false→Yx t i B.sells=(JV,false,B.sells):=fun hb=>by
   have h0:=HBB.out
   rw [hb] at h0
   obtain ⟨a1,a2,_⟩:=(xZ t i B.sells HI.out.two.theirs).no h0
   exact Prod.ext a2 (Prod.ext h0 a1)
  have HW:=Kj hw
  clear hw
  go_wp2
  refine bodyPost_ret (XU (p:=6) (q:=7) rfl _ _ b6 _ e2.cells b rfl rfl hB8 Tryz.underlying30 (by rw [Ord.len9];exact JX)) rfl ?_
  rw [HR.out]
  cases b with
  | true=>first | exact ⟨rfl,F2,h9.out,GG,k9⟩ | exact ⟨F2,rfl,h9.out,GG,k9⟩
  | false=>
   have h0:=HW.out rfl
   have he2:e2=JV:=by rw [← HEE.out,h0]
   have h9':=h9.out
   rw [h0] at h9'
   subst he2
   first | exact ⟨rfl,F2,h9',GG,k9⟩ | exact ⟨F2,rfl,h9',GG,k9⟩
structure Mkt where
 b:Bok
 w:List Ord
structure Ot where
 c:Oc
 wt:Bool
def Ord.free (o:Ord):Ord:={ o with stop:=0 }
def Ord.is (t i:Int) (o:Ord):Bool:=decide (o.tr=t) && decide (o.id=i)
def Ord.key (o:Ord):Int × Int:=(o.tr,o.id)
def WU (p:Ord→Bool) (W:List Ord):Int:=if W.findIdx p<W.length then (W.findIdx p:Int) else -1
theorem find_at {p:Ord→Bool} {X:List Ord} {k:Nat} {e:Ord} (h:∀ (j:Nat) (x:Ord),j<k→X[j]?=some x→p x=false) (he:X[k]?=some e) (hm:p e=true):X.findIdx p=k:=by
 obtain ⟨hk,rfl⟩:=List.getElem?_eq_some_iff.1 he
 rw [List.findIdx_eq hk]
 exact ⟨hm,fun j hj=>h j _ hj (List.getElem?_eq_getElem (by omega))⟩
theorem find_no {p:Ord→Bool} {X:List Ord} (h:∀ (j:Nat) (x:Ord),j<X.length→X[j]?=some x→p x=false):X.findIdx p=X.length:=
 List.findIdx_eq_length.2 fun x hx=>by
  obtain ⟨j,hj⟩:=List.getElem?_of_mem hx
  exact h j x (List.getElem?_eq_some_iff.1 hj).1 hj
theorem find_is {p:Ord→Bool} {X:List Ord} {e:Ord} (h:X[X.findIdx p]?=some e):p e=true∧X.findIdx p<X.length:=by
 obtain ⟨hk,rfl⟩:=List.getElem?_eq_some_iff.1 h
 exact ⟨List.findIdx_getElem,hk⟩
theorem find_off {p:Ord→Bool} {X:List Ord} (h:X[X.findIdx p]?=none):∀ x ∈ X,p x=false:=by
 have:=List.getElem?_eq_none_iff.1 h
 exact List.findIdx_eq_length.1 (Nat.le_antisymm List.findIdx_le_length this)
theorem xq {p:Ord→Bool} {X:List Ord} {e:Ord} (h:X[X.findIdx p]?=some e):WU p X=(X.findIdx p:Int):=if_pos (find_is h).2
theorem xU {p:Ord→Bool} {X:List Ord} (h:X[X.findIdx p]?=none):WU p X=-1:=if_neg (by have:=List.getElem?_eq_none_iff.1 h;omega)
def findO (t i:Int) (W:List Ord):Ord × Bool:=match W[W.findIdx (Ord.is t i)]? with
 | none=>(JV,false)
 | some o=>(o,true)
def Mkt.zero:Mkt:=⟨Bok.zero,[]⟩
def Mkt.len (M:Mkt):Nat:=M.b.len+M.w.length
def Mkt.find (M:Mkt) (t i:Int):Ord × Bool:=if (M.b.find t i).2=true then ((M.b.find t i).1,true) else findO t i M.w
def Mkt.remove (M:Mkt) (t i:Int):Ord × Bool × Mkt:=
 if (M.b.remove t i).2.1=true then ((M.b.remove t i).1,true,⟨(M.b.remove t i).2.2,M.w⟩)
 else match M.w[M.w.findIdx (Ord.is t i)]? with
 | none=>(JV,false,M)
 | some o=>(o,true,⟨M.b,M.w.eraseIdx (M.w.findIdx (Ord.is t i))⟩)
def Mkt.all (M:Mkt):List Ord:=(Yy M.b.buys++Yy M.b.sells)++M.w
def Ord.may (o:Ord):Bool:=(decide (0<o.stop) || decide (o.k=1)) || decide (o.k=5)
def Mkt.err (M:Mkt) (o:Ord):Int:=
 if o.right=false then 1 else if (M.find o.tr o.id).2=true then 5 else if o.may=true∧64≤M.len then 4 else 0
def Bok.enter (B:Bok) (o:Ord):Oc × Bok:=({ (B.add o.free).1 with o:=o },(B.add o.free).2)
def Mkt.waits (M:Mkt) (o:Ord):Bool:=decide (0<o.stop) && !o.hit M.b.last
def Mkt.arrive (M:Mkt) (o:Ord):Ot × Mkt:=
 if M.err o≠0 then (⟨⟨o,[],o.qty,false,false,M.err o⟩,false⟩,M)
 else if M.waits o=true then (⟨⟨o,[],o.qty,false,false,0⟩,true⟩,⟨M.b,M.w++[o]⟩)
 else (⟨(M.b.enter o).1,false⟩,⟨(M.b.enter o).2,M.w⟩)
def Mkt.trig (M:Mkt):Nat:=M.w.findIdx fun o=>o.hit M.b.last
def Mkt.next (M:Mkt) (o:Ord):Mkt:=⟨(M.b.enter o).2,M.w.eraseIdx M.trig⟩
def casM:Nat→Mkt→List Ot × Mkt
 | 0,M=>([],M)
 | n+1,M=>match M.w[M.trig]? with
  | none=>([],M)
  | some o=>(⟨(M.b.enter o).1,false⟩::(casM n (M.next o)).1,(casM n (M.next o)).2)
def Mkt.cas (M:Mkt):List Ot × Mkt:=casM M.w.length M
def Mkt.add (M:Mkt) (o:Ord):List Ot × Mkt:=
 if (M.arrive o).1.c.err≠0 then ([(M.arrive o).1],(M.arrive o).2)
 else ((M.arrive o).1::(M.arrive o).2.cas.1,(M.arrive o).2.cas.2)
theorem UX {M:Mkt} (h:M.w[M.trig]?=none):M.cas=([],M):=by
 unfold Mkt.cas
 cases hn:M.w.length with
 | zero=>rfl
 | succ n=>rw [casM,h]
theorem JJX {M:Mkt} {o:Ord} (h:M.w[M.trig]?=some o):M.cas=(⟨(M.b.enter o).1,false⟩::(M.next o).cas.1,(M.next o).cas.2):=by
 have hl:=(List.getElem?_eq_some_iff.1 h).1
 have hn:(M.next o).w.length=M.w.length-1:=by unfold Mkt.next;simp only;rw [List.length_eraseIdx,if_pos hl]
 unfold Mkt.cas
 rw [hn]
 obtain ⟨n,e⟩:∃ n,M.w.length=n+1:=⟨M.w.length-1,by omega⟩
 rw [e,casM,h]
 rfl
theorem cas_ind {P:Mkt→Prop} (hs:∀ M o,P M→M.w[M.trig]?=some o→P (M.next o)):∀ (n:Nat) (M:Mkt),M.w.length≤n→P M→P M.cas.2
 | 0,M,hn,h=>by
  rw [UX (List.getElem?_eq_none (by omega))]
  exact h
 | n+1,M,hn,h=>by
  cases e:M.w[M.trig]? with
  | none=>rw [UX e];exact h
  | some o=>
   rw [JJX e]
   refine cas_ind hs n _ ?_ (hs M o h e)
   have hl:=(List.getElem?_eq_some_iff.1 e).1
   unfold Mkt.next
   simp only
   rw [List.length_eraseIdx,if_pos hl]
   omega
theorem cas_quiet:∀ (n:Nat) (M:Mkt),M.w.length≤n→∀ o ∈ M.cas.2.w,o.hit M.cas.2.b.last=false
 | 0,M,hn=>by
  rw [UX (List.getElem?_eq_none (by omega))]
  have hw:M.w=[]:=List.eq_nil_of_length_eq_zero (by omega)
  intro o ho
  simp only [hw] at ho
  cases ho
 | n+1,M,hn=>by
  cases e:M.w[M.trig]? with
  | none=>rw [UX e];exact find_off (p:=fun o=>o.hit M.b.last) e
  | some o=>
   rw [JJX e]
   refine cas_quiet n _ ?_
   have hl:=(List.getElem?_eq_some_iff.1 e).1
   unfold Mkt.next
   simp only
   rw [List.length_eraseIdx,if_pos hl]
   omega
theorem erase_cnt:∀ {W:List Ord} {i:Nat} {o:Ord},W[i]?=some o→∀ k:Int × Int,(W.map Ord.key).count k=((W.eraseIdx i).map Ord.key).count k+(if o.key=k then 1 else 0)
 | [],i,o,h,k=>by simp at h
 | x::W,0,o,h,k=>by
  simp at h
  subst h
  rw [List.eraseIdx_cons_zero,List.map_cons,List.count_cons]
  simp
 | x::W,i+1,o,h,k=>by
  have:=erase_cnt (W:=W) (i:=i) (o:=o) (by simpa using h) k
  rw [List.eraseIdx_cons_succ,List.map_cons,List.map_cons,List.count_cons,List.count_cons,this]
  omega
structure InvK (M:Mkt):Prop where
 inv:Inv M.b
 few:M.b.len+M.w.length≤64
 good:∀ o ∈ M.w,o.right=true∧0<o.stop
 once:∀ k,cnt k M.b.all+(M.w.map Ord.key).count k≤1
theorem InvK.zero:InvK Mkt.zero:=⟨Inv.zero,by simp [Mkt.zero,Bok.zero,Bok.len,Bok.all,ZX],by simp [Mkt.zero],fun k=>by simp [Mkt.zero,Bok.zero,Bok.all,ZX,cnt]⟩
theorem add_few {B:Bok} {o:Ord} (h:Inv B) (k:Int × Int):cnt k (B.add o).2.all≤cnt k B.all+(if o.key=k∧(o.k=1∨o.k=5) then 1 else 0)∧(B.add o).2.len≤B.len+(if o.k=1∨o.k=5 then 1 else 0):=by
 by_cases he:B.err o=0
 ·have A:=add_is h he
  have hm:=A.m.cnt k
  have hl:=A.m.len
  rw [cnt_all _ A.sd k,cnt_all B A.sd k,len_all _ A.sd,len_all B A.sd,A.theirs,A.mine]
  by_cases hst:B.stays o=true
  ·rw [if_pos hst]
   have hR:=A.rests hst
   have hc:=hR.cnt k
   have hl2:=hR.len
   have hk:=(stays_iff.1 hst).2.2
   rw [hc,hl2,if_pos hk]
   have e:((o.cut (B.matched o).left).tr,(o.cut (B.matched o).left).id)=o.key:=rfl
   rw [e]
   by_cases hkk:o.key=k
   ·rw [if_pos hkk,if_pos ⟨hkk,hk⟩]
    omega
   rw [if_neg hkk,if_neg (fun h=>hkk h.1)]
   omega
  rw [if_neg hst]
  omega
 rw [yx he]
 simp only
 omega
theorem free_key (o:Ord):o.free.key=o.key:=rfl
theorem enter_few {B:Bok} {o:Ord} (h:Inv B) (k:Int × Int):cnt k (B.enter o).2.all≤cnt k B.all+(if o.key=k then 1 else 0)∧(B.enter o).2.len≤B.len+(if o.k=1∨o.k=5 then 1 else 0):=by
 obtain ⟨h1,h2⟩:=add_few (o:=o.free) h k
 refine ⟨Kv h1 (Nat.add_le_add_left ?_ _),h2⟩
 rw [free_key]
 by_cases hk:o.key=k
 ·rw [if_pos hk]
  split <;> omega
 rw [if_neg (fun h=>hk h.1)]
 omega
theorem JJW {B:Bok} {o:Ord} (h:Inv B):Inv (B.enter o).2∧B.no≤(B.enter o).2.no∧(B.enter o).2.no≤B.no+1048576:=inv_add h
theorem InvK.next {M:Mkt} (h:InvK M) {o:Ord} (ho:M.w[M.trig]?=some o):InvK (M.next o):=by
 have hl:=(List.getElem?_eq_some_iff.1 ho).1
 refine ⟨(JJW h.inv).1,?_,fun x hx=>h.good x (List.mem_of_mem_eraseIdx hx),fun k=>?_⟩
 ·have h1:=(enter_few (o:=o) h.inv (0,0)).2
  have h2:=h.few
  unfold Mkt.next
  simp only
  rw [List.length_eraseIdx,if_pos hl]
  have:(if o.k=1∨o.k=5 then 1 else 0)≤1:=by split <;> omega
  omega
 have h1:=(enter_few (o:=o) h.inv k).1
 have h2:=h.once k
 have h3:=erase_cnt ho k
 unfold Mkt.next
 simp only
 omega
theorem find_cnt {W:List Ord} {t i:Int} (h:(findO t i W).2=false):(W.map Ord.key).count (t,i)=0:=by
 unfold findO at h
 cases e:W[W.findIdx (Ord.is t i)]? with
 | some o=>rw [e] at h;cases h
 | none=>
  refine List.count_eq_zero.2 fun hm=>?_
  obtain ⟨x,hx,hk⟩:=List.mem_map.1 hm
  have:=find_off e x hx
  unfold Ord.key at hk
  injection hk with h1 h2
  simp [Ord.is,h1,h2] at this
theorem Mkt.find_no {M:Mkt} {t i:Int} (h:(M.find t i).2=false):cnt (t,i) M.b.all=0∧(M.w.map Ord.key).count (t,i)=0:=by
 unfold Mkt.find at h
 by_cases hb:(M.b.find t i).2=true
 ·rw [if_pos hb] at h
  cases h
 rw [if_neg hb] at h
 exact ⟨(has_iff M.b t i).1 (by unfold Bok.has;simpa using hb),find_cnt h⟩
theorem Mkt.err_zero {M:Mkt} {o:Ord} (h:M.err o=0):o.right=true∧(M.find o.tr o.id).2=false∧(o.may=true→M.len<64):=by
 unfold Mkt.err at h
 split at h
 ·cases h
 rename_i h1
 split at h
 ·cases h
 rename_i h2
 split at h
 ·cases h
 rename_i h3
 exact ⟨by simpa using h1,by simpa using h2,fun hm=>Nat.lt_of_not_le fun h'=>h3 ⟨hm,h'⟩⟩
theorem InvK.arrive {M:Mkt} (h:InvK M) (o:Ord):InvK (M.arrive o).2:=by
 unfold Mkt.arrive
 by_cases he:M.err o=0
 ·rw [if_neg (Classical.not_not.2 he)]
  obtain ⟨e1,e2,e3⟩:=Mkt.err_zero he
  obtain ⟨f1,f2⟩:=Mkt.find_no e2
  by_cases hw:M.waits o=true
  ·rw [if_pos hw]
   have hs:0<o.stop:=by unfold Mkt.waits at hw;simp at hw;exact hw.1
   have hlen:=e3 (by simp [Ord.may,hs])
   unfold Mkt.len at hlen
   refine ⟨h.inv,by simp only [List.length_append,List.length_cons,List.length_nil];omega,fun x hx=>?_,fun k=>?_⟩
   ·rcases List.mem_append.1 hx with hx | hx
    ·exact h.good x hx
    simp at hx
    rw [hx]
    exact ⟨e1,hs⟩
   have h1:=h.once k
   simp only [List.map_append,List.count_append,List.map_cons,List.map_nil]
   by_cases hk:o.key=k
   ·subst hk
    have g1:cnt o.key M.b.all=0:=f1
    have g2:(M.w.map Ord.key).count o.key=0:=f2
    rw [g1,g2]
    simp
   rw [List.count_eq_zero.2 (show k ∉ [o.key] by simpa using fun h=>hk h.symm)]
   exact h1
  rw [if_neg hw]
  have h1:=fun k=>enter_few (o:=o) h.inv k
  refine ⟨(JJW h.inv).1,?_,h.good,fun k=>?_⟩
  ·have h2:=(h1 (0,0)).2
   have h3:=h.few
   by_cases hk:o.k=1∨o.k=5
   ·have:=e3 (by unfold Ord.may;rcases hk with hk | hk <;> simp [hk])
    unfold Mkt.len at this
    rw [if_pos hk] at h2
    simp only
    omega
   rw [if_neg hk] at h2
   simp only
   omega
  have h2:=(h1 k).1
  have h3:=h.once k
  by_cases hk:o.key=k
  ·subst hk
   have g1:cnt o.key M.b.all=0:=f1
   have g2:(M.w.map Ord.key).count o.key=0:=f2
   rw [if_pos rfl] at h2
   simp only
   omega
  rw [if_neg hk] at h2
  simp only
  omega
 rw [if_pos he]
 exact h
theorem InvK.cas {M:Mkt} (h:InvK M):InvK M.cas.2:=cas_ind (P:=InvK) (fun M o h ho=>h.next ho) _ M (Nat.le_refl _) h
theorem InvK.add {M:Mkt} (h:InvK M) (o:Ord):InvK (M.add o).2:=by
 unfold Mkt.add
 split
 ·exact h.arrive o
 exact (h.arrive o).cas
theorem arrive_no {M:Mkt} (h:InvK M) (o:Ord):M.b.no≤(M.arrive o).2.b.no∧(M.arrive o).2.b.no≤M.b.no+1048576:=by
 unfold Mkt.arrive
 split
 ·simp only;omega
 split
 ·simp only;omega
 exact (JJW h.inv).2
theorem cas_no:∀ (n:Nat) (M:Mkt),M.w.length≤n→InvK M→M.b.no≤M.cas.2.b.no∧M.cas.2.b.no≤M.b.no+1048576*M.w.length
 | 0,M,hn,h=>by
  rw [UX (List.getElem?_eq_none (by omega))]
  simp only
  omega
 | n+1,M,hn,h=>by
  cases e:M.w[M.trig]? with
  | none=>rw [UX e];simp only;omega
  | some o=>
   rw [JJX e]
   have hl:=(List.getElem?_eq_some_iff.1 e).1
   have hle:(M.next o).w.length=M.w.length-1:=by unfold Mkt.next;simp only;rw [List.length_eraseIdx,if_pos hl]
   have h1:=cas_no n (M.next o) (by omega) (h.next e)
   have h2:M.b.no≤(M.next o).b.no∧(M.next o).b.no≤M.b.no+1048576:=(JJW (o:=o) h.inv).2
   rw [hle] at h1
   simp only
   omega
theorem add_no {M:Mkt} (h:InvK M) (o:Ord):M.b.no≤(M.add o).2.b.no∧(M.add o).2.b.no≤M.b.no+70000000:=by
 have h1:=arrive_no h o
 unfold Mkt.add
 split
 ·simp only;omega
 have h2:=cas_no _ _ (Nat.le_refl _) (h.arrive o)
 have h3:=(h.arrive o).few
 simp only
 omega
theorem remove_few {B:Bok} (h:Inv B) (t i:Int) (k:Int × Int):cnt k (B.remove t i).2.2.all≤cnt k B.all∧(B.remove t i).2.2.len≤B.len:=by
 unfold Bok.remove
 have h1:=xZ t i B.buys h.two.mine
 have h2:=xZ t i B.sells h.two.theirs
 split
 ·have:=h1.cnts k
  have:=h1.len
  simp only [Bok.all,Bok.len,VZ,List.length_append]
  omega
 split
 ·have:=h2.cnts k
  have:=h2.len
  simp only [Bok.all,Bok.len,VZ,List.length_append]
  omega
 simp only;omega
theorem InvK.remove {M:Mkt} (h:InvK M) (t i:Int):InvK (M.remove t i).2.2∧(M.remove t i).2.2.b.no=M.b.no:=by
 unfold Mkt.remove
 by_cases hb:(M.b.remove t i).2.1=true
 ·rw [if_pos hb]
  obtain ⟨h1,h2⟩:=inv_remove h.inv t i
  refine ⟨⟨h1,?_,h.good,fun k=>?_⟩,h2⟩
  ·have h3:=h.few
   have:=remove_few h.inv t i (0,0)
   simp only
   omega
  have h3:=h.once k
  have:=remove_few h.inv t i k
  simp only
  omega
 rw [if_neg hb]
 cases e:M.w[M.w.findIdx (Ord.is t i)]? with
 | none=>exact ⟨h,rfl⟩
 | some o=>
  have hl:=(List.getElem?_eq_some_iff.1 e).1
  refine ⟨⟨h.inv,?_,fun x hx=>h.good x (List.mem_of_mem_eraseIdx hx),fun k=>?_⟩,rfl⟩
  ·have:=h.few
   simp only
   rw [List.length_eraseIdx,if_pos hl]
   omega
  have:=h.once k
  have:=erase_cnt e k
  simp only
  omega
def Zq (q:Nat) (v:Value):List Value:=[.pointer (some ⟨q,0,none⟩),v]
structure MkP (w:World) (p q:Nat) (v:Value) (Fb:Nat→Prop) (M:Mkt):Prop where
 blk:Blk w p 46 (Zq q v)
 bk:Bk w Fb q M.b
 sl:Sl w 30 9 v M.w.length (ords M.w)
 nb:¬ Fb p
 nv:∀ b,v.ownBlock=some b→b≠p∧¬ Fb b
def foot (p:Nat) (v:Value) (Fb:Nat→Prop):Nat→Prop:=fun b=>(b=p∨v.ownBlock=some b)∨Fb b
def Mk (w:World) (F:Nat→Prop) (p:Nat) (M:Mkt):Prop:=(∀ b,F b→b<w.heap.size)∧∃ q v Fb,MkP w p q v Fb M∧∀ b,foot p v Fb b→F b
theorem MkP.foot_lt {w:World} {p q:Nat} {v:Value} {Fb:Nat→Prop} {M:Mkt} (h:MkP w p q v Fb M):∀ b,foot p v Fb b→b<w.heap.size:=fun b hb=>hb.elim (fun hb=>hb.elim (fun hb=>by rw [hb];exact h.blk.lt) h.sl.lt) (h.bk.lt b)
theorem MkP.close {w:World} {p q:Nat} {v:Value} {Fb:Nat→Prop} {M:Mkt} (h:MkP w p q v Fb M):Mk w (foot p v Fb) p M:=⟨h.foot_lt,q,v,Fb,h,fun _ h=>h⟩
theorem MkP.keep {S:Nat→Prop} {w w':World} {p q:Nat} {v:Value} {Fb:Nat→Prop} {M:Mkt} (h:MkP w p q v Fb M) (hk:Keep S w w') (hn:∀ b,foot p v Fb b→¬ S b):MkP w' p q v Fb M:=
 ⟨h.blk.keep hk (hn p (.inl (.inl rfl))),h.bk.keep hk (fun b hb=>hn b (.inr hb)),h.sl.keep hk (fun b hb=>hn b (.inl (.inr hb))),h.nb,h.nv⟩
theorem MkP.kept {w w':World} {p q:Nat} {v:Value} {Fb:Nat→Prop} {M:Mkt} (h:MkP w p q v Fb M) (hk:Kept w w'):MkP w' p q v Fb M:=h.keep hk (fun _ _ h=>h)
theorem Mk.keep {S F:Nat→Prop} {w w':World} {p:Nat} {M:Mkt} (h:Mk w F p M) (hk:Keep S w w') (hn:∀ b,F b→¬ S b):Mk w' F p M:=by
 obtain ⟨h1,q,v,Fb,h2,h3⟩:=h
 exact ⟨fun b hb=>Nat.lt_of_lt_of_le (h1 b hb) hk.size,q,v,Fb,h2.keep hk (fun b hb=>hn b (h3 b hb)),h3⟩
theorem Mk.kept {F:Nat→Prop} {w w':World} {p:Nat} {M:Mkt} (h:Mk w F p M) (hk:Kept w w'):Mk w' F p M:=h.keep hk (fun _ _ h=>h)
theorem Mk.lt {F:Nat→Prop} {w:World} {p:Nat} {M:Mkt} (h:Mk w F p M):∀ b,F b→b<w.heap.size:=h.1
theorem zeroVO (w:World):(zeroValue 30).run Tryz.prog w=.ok (.agg JV.cells.toArray) w:=by kernel_rfl
theorem append_inO (g off n c k:Nat) (X:List Ord) (v2:Value) (w:World) (hS:Sl w 30 9 (.slice (some ⟨g,off,none⟩) n c) n (ords X)) (hn:X.length=n) (hkn:k<n) (hnc:n≤c) (h2:Sl w 30 9 v2 (n-(k+1)) (ords (X.drop (k+1)))) (ho:v2.ownBlock=some g) (ty:TypeId) :
  (Builtin.append_ #[44,44] ty #[.slice (some ⟨g,off,none⟩) k c,v2]).run Tryz.prog w=.ok (.slice (some ⟨g,off,none⟩) (n-1) c) (w.setCells g (off+k*9) (ords (X.drop (k+1)))):=by
 obtain ⟨z,hz,hz2,_⟩:=slO.info
 obtain ⟨i0,hi,hz0,hz1,hzb⟩:=info_parts hz
 have hl:(ords (X.drop (k+1))).length=(n-(k+1))*9:=by rw [ords_len,List.length_drop,hn]
 obtain ⟨_,_,_,ht⟩:=hS.setCells (k*9) (ords (X.drop (k+1))) (by rw [hl];omega)
 obtain ⟨hl2,A,d,rfl,_,_,_,h4⟩:=h2
 cases A with
 | none=>simp [Value.ownBlock] at ho
 | some ad=>
  obtain ⟨g2,off2,cur2,rfl,hB2,hle2,htk2⟩:=h4 _ rfl
  have hr:=run_append_room_cells (P:=Tryz.prog) w 44 ty 30 i0 slO.und hi g off k c ⟨g2,off2,none⟩ (n-(k+1)) d (ords (X.drop (k+1))) (by rw [hz1,hl]) (fun j u hu=>by rw [Addr.add_mid];exact jY hB2 htk2 j u hu) (qX _) (by omega)
   (fun j hj=>by rw [hz1];exact (ht j hj).1) (fun j hj=>by rw [hz1];exact (ht j hj).2)
  rw [hr,hz1,show k+(n-(k+1))=n-1 by omega]
theorem delO_any (g off n c k:Nat) (X:List Ord) (w:World) (hS:Sl w 30 9 (.slice (some ⟨g,off,none⟩) n c) n (ords X)) (hn:X.length=n) (hkn:k<n) (hlen:n≤100000000) :
  Calls Tryz.prog 60 #[.slice (some ⟨g,off,none⟩) n c,.int .i64 (k:Int),.int .i64 ((k:Int)+1)] w fun r w'=>r=.returned (.slice (some ⟨g,off,none⟩) (n-1) c)∧Sl w' 30 9 (.slice (some ⟨g,off,none⟩) (n-1) c) (n-1) (ords (X.eraseIdx k))∧Keep (·=g) w w':=by
 have hnc:n≤c:=by obtain ⟨_,A,c',e',h1,_⟩:=hS;injection e' with _ _ e3;subst e3;exact h1
 obtain ⟨vx,hvx⟩:=run_lhm slO (some ⟨g,off,none⟩) n c k (k+1) (by omega) (by omega) hnc
 obtain ⟨v1,hv1,ho1,hs1⟩:=yW slO _ n k (by omega) _ w hS
 obtain ⟨v2,hv2,ho2,hs2⟩:=jX slO _ n (k+1) (by omega) _ w hS
 have e1:v1=.slice (some ⟨g,off,none⟩) k c:=by
  obtain ⟨z,hz,hz2,_⟩:=slO.info
  obtain ⟨i0,hi,hz0,hz1,hzb⟩:=info_parts hz
  have:=hv1 w
  rw [run_slice_h (P:=Tryz.prog) (w:=w) 44 (some ⟨g,off,none⟩) n c (by rw [slO.elem];exact slO.und) .i64 (k:Int) (by omega) (by omega),slO.elem] at this
  simp [sizeOf,typeInfo,hi,hz1,sliced,Addr.add] at this
  exact this.symm
 subst e1
 have HX2:Hid (∀ w,Sl w 30 9 (.slice (some ⟨g,off,none⟩) n c) n (ords X)→Sl w 30 9 v2 (n-(k+1)) (ords (X.drop (k+1)))):=fun w h=>by
  have:=hs2 w _ h
  rw [show (ords X).drop ((k+1)*9)=ords (X.drop (k+1)) from Uz Ord.cells 9 Ord.len9 X (k+1)] at this
  exact this
 have HVX:=Kj hvx
 have HV1:=Kj hv1
 have HV2:=Kj hv2
 have HO2:=Kj ho2
 have HS:=Kj hS
 have HN:=Kj hn
 have hcast:((k+1:Nat):Int)=(k:Int)+1:=by omega
 rw [hcast] at HVX HV2
 clear hvx hv1 hv2 ho1 ho2 hs1 hs2 hS hn
 have hne:((k:Int) == (k:Int)+1)=false:=by simp;omega
 go_enter Tryz.func60,Tryz.ntmps60
 go_upto_region 1 with fail
 refine wE 6 [.slice (some ⟨g,off,none⟩) n c,iV (k:Int),iV ((k:Int)+1),.slice (some ⟨g,off,none⟩) n c,iV (n:Int),vx] [8,9,10,11,12,13] ?_ ?_
 ·refine mE 1 0 ?_
  refine mE 2 1 ?_
  refine mE 3 2 ?_
  refine mE 4 0 ?_
  refine sW 5 rfl (fun a u E D hk=>ZZ _ _ _ slO.und (some ⟨g,off,none⟩) n c rfl (dD D 3)) ?_
  refine sW 6 rfl (fun a u E D hk=>exec_slcLHM slO _ _ _ _ _ vx _ _ _ rfl (dD D 0) (dD D 1) (dD D 2) (dD D 4) (HVX.out u)) ?_
  exact fz
 intro w1 k1
 simp only [F8]
 go_upto_region 2 with fail
 refine wE 3 [iV (k:Int),iV ((k:Int)+1),bV false] [14,15,16] ?_ ?_
 ·refine mE 1 1 ?_
  refine mE 2 2 ?_
  refine aS 3 rfl (fun a u E D hk=>JU rfl (dD D 0) (dD D 1)) (Ku (by omega)) ?_
  exact fz
 intro w2 k2
 simp only [F8]
 clear hne
 go_upto_region 4 with fail
 refine wE 3 [.slice (some ⟨g,off,none⟩) n c,iV (n:Int),iV (n:Int)] [18,19,7] ?_ ?_
 ·refine mE 1 0 ?_
  refine sW 2 rfl (fun a u E D hk=>ZZ _ _ _ slO.und (some ⟨g,off,none⟩) n c rfl (dD D 0)) ?_
  refine mD 3 19 1 ?_
  exact fz
 intro w3 k3
 simp only [F8]
 have kw3:=(k1.trans k2).trans k3
 clear k1 k2 k3
 go_upto_region 5 with fail
 refine wGp 6 [.slice (some ⟨g,off,none⟩) n c,iV (k:Int),.slice (some ⟨g,off,none⟩) k c,.slice (some ⟨g,off,none⟩) n c,iV ((k:Int)+1),v2] [20,21,22,23,24,25] ?_ ?_
 ·refine mE 1 0 ?_
  refine mE 2 1 ?_
  refine sW 3 rfl (fun a u E D hk=>Wx slO _ _ _ _ _ rfl (dD D 0) (dD D 1) (HV1.out u)) ?_
  refine mE 4 0 ?_
  refine mE 5 2 ?_
  refine sW 6 rfl (fun a u E D hk=>VX slO _ _ _ v2 _ rfl (dD D 3) (dD D 4) (HV2.out u)) ?_
  exact fz
 intro w4 k4
 simp only [F8]
 have kw4:=kw3.trans k4
 have hS4:=HS.out.kept kw4
 have hX4:=HX2.out w4 hS4
 have hr4:∀ ty,(Builtin.append_ #[44,44] ty #[.slice (some ⟨g,off,none⟩) k c,v2]).run Tryz.prog w4=.ok (.slice (some ⟨g,off,none⟩) (n-1) c) (w4.setCells g (off+k*9) (ords (X.drop (k+1)))):=fun ty=>append_inO g off n c k X v2 w4 hS4 HN.out hkn hnc hX4 (by rw [HO2.out];rfl) ty
 refine ZW (.slice (some ⟨g,off,none⟩) (n-1) c) (w4.setCells g (off+k*9) (ords (X.drop (k+1)))) rfl (XQ slO (.tmp 22) (.tmp 25) (.slice (some ⟨g,off,none⟩) k c) v2 rfl (by kernel_rfl) (by kernel_rfl) _ _ (hr4 _)) ?_
 simp only [Act.put,sA,sS,sZ]
 refine Jx (.slice (some ⟨g,off,none⟩) (n-1) c) rfl (JQ _ _ rfl (by kernel_rfl)) ?_
 simp only [Act.put,List.setIfInBounds_toArray,List.set_cons_zero]
 refine Kx ?_
 have hlenE:(ords (X.drop (k+1))).length=(n-(k+1))*9:=by rw [ords_len,List.length_drop,HN.out]
 obtain ⟨hS5,hk5,hz5,_⟩:=hS4.setCells (k*9) (ords (X.drop (k+1))) (by rw [hlenE];omega)
 have HS5:Hid (Sl (w4.setCells g (off+k*9) (ords (X.drop (k+1)))) 30 9 (.slice (some ⟨g,off,none⟩) n c) n (ords (X.eraseIdx k++X.drop (n-1)))):=by
  rw [show (ords X).take (k*9)=ords (X.take k) from yY Ord.cells 9 Ord.len9 X k,hlenE,show k*9+(n-(k+1))*9=(n-1)*9 by omega,show (ords X).drop ((n-1)*9)=ords (X.drop (n-1)) from Uz Ord.cells 9 Ord.len9 X (n-1)] at hS5
  show Sl _ _ _ _ _ _
  rw [List.eraseIdx_eq_take_drop_succ]
  unfold ords at hS5 ⊢
  rw [List.flatMap_append,List.flatMap_append]
  exact hS5
 have K5:Keep (·=g) w (w4.setCells g (off+k*9) (ords (X.drop (k+1)))):=(Keep.mono (T:=(·=g)) kw4 (fun _ _ h=>h.elim)).trans hk5 (fun _ _ h=>h)
 generalize w4.setCells g (off+k*9) (ords (X.drop (k+1)))=w5 at HS5 K5 ⊢
 clear hr4 hX4 hS4 hS5 hk5 hz5 kw4 kw3 k4 HX2 HV1 HV2 HVX HO2 HS hlenE
 obtain ⟨m,hm⟩:∃ m,n-1=m:=⟨_,rfl⟩
 have hmn:n=m+1:=by omega
 rw [hm] at HS5 ⊢
 go_upto_region 6 with fail
 refine wEp 5 [.slice (some ⟨g,off,none⟩) m c,.slice (some ⟨g,off,none⟩) m c,iV (m:Int),iV (n:Int),.slice (some ⟨g,off+m*9,none⟩) (n-m) (c-m)] [27,28,29,30,31] ?_ ?_
 ·refine mE 1 0 ?_
  refine mE 2 0 ?_
  refine sW 3 rfl (fun a u E D hk=>ZZ _ _ _ slO.und (some ⟨g,off,none⟩) m c rfl (dD D 1)) ?_
  refine mE 4 7 ?_
  refine sW 5 rfl (fun a u E D hk=>exec_slcLH slO _ _ _ _ _ _ _ rfl (dD D 0) (dD D 2) (dD D 3) (run_lh slO g off m c m n (by omega) (by omega) u)) ?_
  exact fz
 intro w6 k6
 simp only [F8]
 obtain ⟨hS6,hk6,hz6,ht6⟩:=(HS5.out.kept k6).setCells (m*9) JV.cells (by rw [Ord.len9];omega)
 rw [Ord.len9] at ht6
 have h1:n-m=1:=by omega
 refine ZW (.tuple #[]) (w6.setCells g (off+m*9) JV.cells) rfl (exec_clr1 slO JV.cells zeroVO JV.len9 JV.one1 (.tmp 31) g (off+m*9) (c-m) rfl (by rw [← h1];kernel_rfl) ht6) ?_
 simp only [Act.put]
 refine Kx ?_
 have hS7:Sl (w6.setCells g (off+m*9) JV.cells) 30 9 (.slice (some ⟨g,off,none⟩) m c) m (ords (X.eraseIdx k)):=by
  have h2:=hS6.shrink (m:=m) (by omega)
  have h3:(X.eraseIdx k).length=m:=by rw [List.length_eraseIdx,if_pos (by rw [HN.out];exact hkn),HN.out];omega
  rw [List.append_assoc,List.take_append_of_le_length (by rw [List.length_take,ords_len,List.length_append,h3];omega),List.take_take,Nat.min_self] at h2
  have h4:(ords (X.eraseIdx k++X.drop m)).take (m*9)=ords (X.eraseIdx k):=by
   rw [show (ords (X.eraseIdx k++X.drop m)).take (m*9)=ords ((X.eraseIdx k++X.drop m).take m) from yY Ord.cells 9 Ord.len9 _ m,List.take_append_of_le_length (by omega),List.take_of_length_le (by omega)]
  rw [h4] at h2
  exact h2
 have HS7:=Kj hS7
 have K7:Keep (·=g) w (w6.setCells g (off+m*9) JV.cells):=(K5.kept k6).trans hk6 (fun _ _ h=>h)
 generalize w6.setCells g (off+m*9) JV.cells=w7 at HS7 K7 ⊢
 clear hS6 hS7 hk6 hz6 ht6 K5 HS5 k6
 go_wp2
 go_ret
 rw [hm]
 exact ⟨rfl,HS7.out,K7⟩
theorem exec_eqS {a:Act} {o:Oper} {u:World} (x:Operand) (t t' e:TypeId) (A:Option Addr) (n c:Nat) (hu:Tryz.prog.underlying t=some (.slice e)) (hop:o.op=.binOp .eql t x (.const (.slice none 0 0)) t') (hx:a.eval x=.slice A n c):(execOp a.eval o).run Tryz.prog u=.ok (.value (.bool A.isNone)) u:=by
 have hc:a.eval (.const (.slice none 0 0))=.slice none 0 0:=rfl
 unfold execOp
 simp only [hop,hx,hc,Sem.run_bind]
 rw [show (eqGuard .eql t x (.const (.slice none 0 0)) (.slice A n c) (.slice none 0 0)).run Tryz.prog u=.ok () u by simp [eqGuard]]
 simp only [Result.andThen_ok]
 rw [show (binOp .eql t (.slice A n c) (.slice none 0 0)).run Tryz.prog u=.ok (.bool A.isNone) u from Lib.run_eql_slice_nil u t e A n c _ _ hu]
 rfl
theorem cloneO_any (v:Value) (n:Nat) (X:List Ord) (w:World) (hS:Sl w 30 9 v n (ords X)) (hn:n≤1000000):Gives 66 #[v] w (.sl w.heap.size 30 9 n (ords X)):=by
 obtain ⟨A,c,rfl⟩:=hS.slice_
 have HS:=Kj hS
 cases A with
 | none=>
  obtain ⟨rfl,hX⟩:n=0∧ords X=[]:=by
   obtain ⟨h1,A,c',e,h2,_,h3,_⟩:=hS
   injection e with e1 e2 e3
   have:=h3 e1.symm
   have hn0:n=0:=by omega
   subst hn0
   exact ⟨rfl,List.eq_nil_of_length_eq_zero (by omega)⟩
  obtain rfl:c=0:=by
   obtain ⟨h1,A,c',e,h2,_,h3,_⟩:=hS
   injection e with e1 e2 e3
   rw [e3]
   exact h3 e1.symm
  rw [hX]
  clear hS HS hX
  go_enter Tryz.func66,Tryz.ntmps66
  go_upto_region 1 with fail
  refine wE 2 [.slice none 0 0,bV true] [3,4] ?_ ?_
  ·refine mE 1 0 ?_
   refine sW 2 rfl (fun a u E D hk=>exec_eqS _ _ _ _ none 0 0 slO.und rfl (dD D 0)) ?_
   exact fz
  intro w1 k1
  simp only [F8]
  go_wp2
  go_ret
  exact ⟨_,rfl,⟨Sl.nil _ _ _,fun b hb=>by simp [Value.ownBlock] at hb⟩,k1⟩
 | some ad=>
  obtain ⟨g,off,rfl⟩:∃ g off,ad=⟨g,off,none⟩:=by
   obtain ⟨h1,A,c',e,h2,_,h3,h4⟩:=hS
   injection e with e1 e2 e3
   obtain ⟨g,off,cur,e,_⟩:=h4 ad e1.symm
   exact ⟨g,off,e⟩
  clear hS
  go_enter Tryz.func66,Tryz.ntmps66
  go_upto_region 1 with fail
  refine wE 2 [.slice (some ⟨g,off,none⟩) n c,bV false] [3,4] ?_ ?_
  ·refine mE 1 0 ?_
   refine sW 2 rfl (fun a u E D hk=>exec_eqS _ _ _ _ (some ⟨g,off,none⟩) n c slO.und rfl (dD D 0)) ?_
   exact fz
  intro w0 k0
  simp only [F8]
  go_upto_region 3 with fail
  refine QZ 3 [.emp w0.heap.size 30,.eq (.slice (some ⟨g,off,none⟩) n c),.sl w0.heap.size 30 9 n (ords X)] rfl (by kernel_rfl) ?_ ?_
  ·refine nW 1 rfl (fun a u E D hk=>⟨_,_,Uy 44 30 9 rfl slO.und JX,⟨_,rfl,hk.size,Blk.new u _ _⟩,((Keep.refl _ u).alloc _)⟩) ?_
   refine mE 2 0 ?_
   refine QY 3 rfl (fun a u hE hD hk=>(by obtain ⟨v',u',hr,hp,hkk⟩:=VW slO _ u (a.eval (.tmp 5)) (.slice (some ⟨g,off,none⟩) n c) n w0.heap.size _ ((dD hD 0)) (HS.out.kept (k0.trans hk)) (qX _) (by omega) (by omega) hk.size;exact jx v' u' rfl (JZ rfl _) (XQ slO (.tmp 5) (.tmp 6) _ _ rfl rfl (dD hD 1) v' u' hr) hp hkk)) ?_
   exact fz
  intro gv w1 hV k1
  rw [dq 3 [5,6,7]]
  simp only [Fz7]
  have hv7:(.sl w0.heap.size 30 9 n (ords X):Kn).p (gv 7) w1:=hV 2 7 (by kernel_rfl)
  generalize gv 7=v7 at hv7 ⊢
  clear hV
  refine Jx (v7) rfl (JQ _ _ rfl (by kernel_rfl)) ?_
  simp only [Act.put,sA,sS,sZ]
  refine Kx ?_
  go_wp2
  go_ret
  exact ⟨_,rfl,⟨hv7.1,fun b hb=>Kv k0.size (hv7.2 b hb)⟩,k0.trans k1⟩
theorem indexO_any (v : Value) (X : List Ord) (p : Ord → Bool) (f : Nat) (fn : Func) (cs : List Value) (w : World) (hS : Sl w 30 9 v X.length (ords X)) (hlen : X.length ≤ 100000000) (hf : Tryz.prog.funcs[f]? = some fn) (hn : (fn.name == "runtime.NumGoroutine") = false) (hb : fn.body.isNone = false)
  (hp:∀ u,Kept w u→∀ o:Ord,Gives f ([o.v]++cs).toArray u (.eq (.bool (p o)))):Gives 58 #[v,.func (.func f) #[] cs.toArray] w (.eq (.int .i64 (WU p X))):=by
 refine XJ ?_
 obtain ⟨n,hnX⟩:∃ n,X.length=n:=⟨_,rfl⟩
 rw [hnX] at hS hlen
 have HN:=Kj hnX
 have HS:=Kj hS
 have HP:=Kj hp
 clear hS hp hnX
 go_enter Tryz.func58,Tryz.ntmps58
 go_upto_region 1 with fail
 refine wE 3 [v,iV (n:Int),iV 0] [6,7,8] ?_ ?_
 ·refine mE 1 0 ?_
  refine sW 2 rfl (fun a u E D hk=>Qq _ slO _ _ _ _ rfl (dD D 0) HS.out) ?_
  refine sW 3 rfl (fun a u E D hk=>Jj _ _ rfl rfl) ?_
  exact fz
 intro w0 k0
 simp only [F8]
 go_wp2_with fail
 go_loopw [8] (fun q wr=>∃ (k:Nat),k≤n∧q=.int .i64 (k:Int)∧Hid (∀ (j:Nat) (x:Ord),j<k→X[j]?=some x→p x=false)∧Kept w wr) (fun q _=>n-(intOf q).toNat)
 case atStart=>exact ⟨0,Nat.zero_le _,rfl,fun j x hj=>(by omega),k0⟩
 obtain ⟨k,hk,rfl,HM,hkr⟩:=hrel
 by_cases hlt:k<n
 ·obtain ⟨g,off,c,rfl⟩:=HS.out.some_ (by omega)
  obtain ⟨e,he⟩:∃ e,X[k]?=some e:=⟨X[k]'(by rw [HN.out];exact hlt),List.getElem?_eq_getElem (by rw [HN.out];exact hlt)⟩
  have HE:Hid (wr.rangeAt g (off+k*9) e.cells):=JJ (HS.out.rngO k e he) hkr
  have HEI:=Kj he
  clear he
  by_cases hm:p e=true
  ·have HR:Hid (WU p X=(k:Int)):=by
    show _=_
    have h1:=find_at HM.out HEI.out hm
    unfold WU
    rw [h1,if_pos (by rw [HN.out];exact hlt)]
   go_upto_region 4 with fail
   refine wE 6 [.func (.func f) #[] cs.toArray,.slice (some ⟨g,off,none⟩) n c,iV (k:Int),pV g (off+k*9),e.v,bV true] [11,12,13,14,15,16] ?_ ?_
   ·refine mE 1 1 ?_
    refine mE 2 0 ?_
    refine mE 3 5 ?_
    refine sW 4 rfl (fun a u E D hk=>Jz slO _ _ (g) (off) n c k (off+k*9) ((k:Int)) rfl (dD D 1) (dD D 2) (by first | rfl | omega) (hlt) (by first | rfl | omega)) ?_
    refine sD 5 14 3 e.cells Tryz.underlying30 (fun u hk=>JJ HE.out hk) (by rw [e.len9];exact JX) ?_
    refine QY 6 rfl (fun a u hE hD hk=>VJ f ([e.v]++cs).toArray rfl (JZ rfl _) (zY f _ (.tmp 11) [.tmp 15] _ [e.v] cs hf hn hb rfl (dD hD 0) (show [a.eval (.tmp 15)]=[e.v] by rw [show a.eval (.tmp 15)=e.v from (dD hD 4)])) (by rw [← hm];exact HP.out u (hkr.trans hk) e)) ?_
    exact fz
   intro w1 k1
   simp only [F8]
   have kw1:=hkr.trans k1
   clear hkr k1 hm
   go_wp2
   go_ret
   exact ⟨by rw [HR.out];rfl,kw1⟩
  have hm':p e=false:=by simpa using hm
  have HM2:Hid (∀ (j:Nat) (x:Ord),j<k+1→X[j]?=some x→p x=false):=by
   intro j x hj hx
   by_cases hjk:j=k
   ·subst hjk
    rw [HEI.out] at hx
    injection hx with hx
    rw [← hx]
    exact hm'
   exact HM.out j x (by omega) hx
  clear hm
  go_upto_region 4 with fail
  refine wE 6 [.func (.func f) #[] cs.toArray,.slice (some ⟨g,off,none⟩) n c,iV (k:Int),pV g (off+k*9),e.v,bV false] [11,12,13,14,15,16] ?_ ?_
  ·refine mE 1 1 ?_
   refine mE 2 0 ?_
   refine mE 3 5 ?_
   refine sW 4 rfl (fun a u E D hk=>Jz slO _ _ (g) (off) n c k (off+k*9) ((k:Int)) rfl (dD D 1) (dD D 2) (by first | rfl | omega) (hlt) (by first | rfl | omega)) ?_
   refine sD 5 14 3 e.cells Tryz.underlying30 (fun u hk=>JJ HE.out hk) (by rw [e.len9];exact JX) ?_
   refine QY 6 rfl (fun a u hE hD hk=>VJ f ([e.v]++cs).toArray rfl (JZ rfl _) (zY f _ (.tmp 11) [.tmp 15] _ [e.v] cs hf hn hb rfl (dD hD 0) (show [a.eval (.tmp 15)]=[e.v] by rw [show a.eval (.tmp 15)=e.v from (dD hD 4)])) (by rw [← hm'];exact HP.out u (hkr.trans hk) e)) ?_
   exact fz
  intro w1 k1
  simp only [F8]
  have kw1:=hkr.trans k1
  clear hkr k1 hm'
  go_wp2
  exact ⟨⟨k+1,by omega,by go_num,HM2,kw1⟩,by simp [intOf];omega⟩
 have HR:Hid (WU p X=-1):=by
  show _=_
  have h1:=find_no (p:=p) (X:=X) (fun j x hj hx=>HM.out j x (by rw [HN.out] at hj;omega) hx)
  unfold WU
  rw [h1,if_neg (by omega)]
 clear HM
 go_wp2
 go_ret
 exact ⟨by rw [HR.out];rfl,hkr⟩
def capP (g1 g2:Nat):List Value:=[.pointer (some ⟨g1,0,none⟩),.pointer (some ⟨g2,0,none⟩)]
def cloP (g1 g2:Nat):Value:=.func (.func 59) #[] (capP g1 g2).toArray
def capT (g:Nat):List Value:=[.pointer (some ⟨g,0,none⟩)]
def cloT (g:Nat):Value:=.func (.func 75) #[] (capT g).toArray
theorem exec_mkP {a:Act} {o:Oper} {u:World} (x y:Operand) (g1 g2:Nat) (hop:o.op=.makeFunc (.func 59) #[] #[x,y]) (hx:a.eval x=.pointer (some ⟨g1,0,none⟩)) (hy:a.eval y=.pointer (some ⟨g2,0,none⟩)):(execOp a.eval o).run Tryz.prog u=.ok (.value (cloP g1 g2)) u:=by
 unfold execOp
 simp only [hop,Instr.makeFunc,List.map_toArray,List.map_cons,List.map_nil,hx,hy]
 rfl
theorem exec_mkT {a:Act} {o:Oper} {u:World} (x:Operand) (g:Nat) (hop:o.op=.makeFunc (.func 75) #[] #[x]) (hx:a.eval x=.pointer (some ⟨g,0,none⟩)):(execOp a.eval o).run Tryz.prog u=.ok (.value (cloT g)) u:=by
 unfold execOp
 simp only [hop,Instr.makeFunc,List.map_toArray,List.map_cons,List.map_nil,hx]
 rfl
theorem isO_any (e:Ord) (t i:Int) (g1 g2:Nat) (w:World) (h1:Blk w g1 3 [.int .i64 t]) (h2:Blk w g2 3 [.int .i64 i]):Gives 59 #[e.v,.pointer (some ⟨g1,0,none⟩),.pointer (some ⟨g2,0,none⟩)] w (.eq (.bool (e.is t i))):=by
 refine XJ ?_
 have H1:=Kj h1
 have H2:=Kj h2
 clear h1 h2
 go_enter Tryz.func59,Tryz.ntmps59
 go_upto_region 0 with fail
 refine QZ 2 [.fresh w.heap.size 30 (e.cells),bE false] rfl (by kernel_rfl) ?_ ?_
 ·refine nW 1 rfl (fun a u E D hk=>⟨_,_,YX 30 _ (e.cells) rfl (eE E),⟨_,rfl,hk.size,Blk.new u _ _⟩,((Keep.refl _ u).alloc _)⟩) ?_
  refine sW 2 rfl (fun a u E D hk=>JQ _ _ rfl rfl) ?_
  exact fz
 intro gv w1 hV k1
 rw [dq 2 [3,4]]
 simp only [Fz7]
 have hv3:(.fresh w.heap.size 30 (e.cells):Kn).p (gv 3) w1:=hV 0 3 (by kernel_rfl)
 generalize gv 3=v3 at hv3 ⊢
 clear hV
 obtain ⟨g,rfl,hg,hB⟩:=hv3
 refine Kx ?_
 have HB:=Kj (JW hB)
 have H11:=Kj (H1.out.kept k1)
 have H21:=Kj (H2.out.kept k1)
 clear hB H1 H2
 go_upto_region 1 with fail
 refine wT 11 [pE g 0,iE e.tr,iE t,bE (decide ((e.tr:Int)=(t:Int))),bE (decide ((e.tr:Int)=(t:Int))),.cond (decide ((e.tr:Int)=(t:Int))) (pE g 1),.cond (decide ((e.tr:Int)=(t:Int))) (iE e.id),.cond (decide ((e.tr:Int)=(t:Int))) (iE i),.cond (decide ((e.tr:Int)=(t:Int))) (bE (decide ((e.id:Int)=(i:Int)))),bE ((decide ((e.tr:Int)=(t:Int))) && (decide ((e.id:Int)=(i:Int)))),bE ((decide ((e.tr:Int)=(t:Int))) && (decide ((e.id:Int)=(i:Int))))] [5,6,7,8,9,10,11,12,13,14,4] ?_ ?_
 ·refine fE 1 3 30 0 0 0 ?_
  refine lD 2 5 0 Tryz.underlying3 (fun u hk=>JY (JJ HB.out hk) 0 _ rfl) ?_
  refine sW 3 rfl (fun a u E D hk=>QX 3 Tryz.underlying3 _ ⟨g1,0,none⟩ (.int .i64 t) rfl (eE E) (by rw [(H11.out.kept hk).cell];rfl)) ?_
  refine sW 4 rfl (fun a u E D hk=>JU rfl (dD D 1) (dD D 2)) ?_
  refine mD 5 8 3 ?_
  refine iC 6 4 rfl (fun a u E D hk hb=>QV 30 1 1 _ (g) (0) (1) rfl (eE E) (by kernel_rfl) rfl) ?_
  refine iC 7 4 rfl (fun a u E D hk hb=>QX _ Tryz.underlying3 _ _ _ rfl ((D 5 10 (by kernel_rfl)).1 hb) (JY (JJ HB.out hk) 1 _ rfl)) ?_
  refine iC 8 4 rfl (fun a u E D hk hb=>QX 3 Tryz.underlying3 _ ⟨g2,0,none⟩ (.int .i64 i) rfl (eE E) (by rw [(H21.out.kept hk).cell];rfl)) ?_
  refine iC 9 4 rfl (fun a u E D hk hb=>JU rfl ((D 6 11 (by kernel_rfl)).1 hb) ((D 7 12 (by kernel_rfl)).1 hb)) ?_
  refine sW 10 rfl (fun a u E D hk=>Xj _ _ _ ((decide ((e.tr:Int)=(t:Int)))) ((decide ((e.id:Int)=(i:Int)))) rfl (dD D 4) (fun hb2=>((D 8 13 (by kernel_rfl)).1 hb2)) rfl) ?_
  refine mD 11 14 9 ?_
  exact fz
 intro gv w2 hV k2
 simp only [Fz7]
 rw [gQ hV 10 4 (.bool ((decide ((e.tr:Int)=(t:Int))) && (decide ((e.id:Int)=(i:Int)))))]
 clear hV
 go_wp2
 go_ret
 exact ⟨rfl,k1.trans k2⟩
theorem trigO_any (e:Ord) (x:Int) (g1:Nat) (w:World) (h1:Blk w g1 3 [.int .i64 x]):Gives 75 #[e.v,.pointer (some ⟨g1,0,none⟩)] w (.eq (.bool (e.hit x))):=by
 refine XJ ?_
 have H1:=Kj h1
 clear h1
 go_enter Tryz.func75,Tryz.ntmps75
 go_upto_region 0 with fail
 refine QZ 2 [.fresh w.heap.size 30 (e.cells),bE false] rfl (by kernel_rfl) ?_ ?_
 ·refine nW 1 rfl (fun a u E D hk=>⟨_,_,YX 30 _ (e.cells) rfl (eE E),⟨_,rfl,hk.size,Blk.new u _ _⟩,((Keep.refl _ u).alloc _)⟩) ?_
  refine sW 2 rfl (fun a u E D hk=>JQ _ _ rfl rfl) ?_
  exact fz
 intro gv w1 hV k1
 rw [dq 2 [2,3]]
 simp only [Fz7]
 have hv2:(.fresh w.heap.size 30 (e.cells):Kn).p (gv 2) w1:=hV 0 2 (by kernel_rfl)
 generalize gv 2=v2 at hv2 ⊢
 clear hV
 obtain ⟨g,rfl,hg,hB⟩:=hv2
 refine Kx ?_
 have HB:=Kj (JW hB)
 have H11:=Kj (H1.out.kept k1)
 clear hB H1
 go_upto_region 1 with fail
 refine wE 4 [e.v,iV x,bV (e.hit x),bV (e.hit x)] [4,5,6,3] ?_ ?_
 ·refine sE 1 2 g 0 e.cells Tryz.underlying30 (fun u hk=>JJ HB.out hk) (by rw [e.len9];exact JX) ?_
  refine sW 2 rfl (fun a u E D hk=>QX 3 Tryz.underlying3 _ ⟨g1,0,none⟩ (.int .i64 x) rfl (eE E) (by rw [(H11.out.kept hk).cell];rfl)) ?_
  refine cS 3 48 [e.v,.int .i64 x] rfl Tryz.func48 rfl (fun a u E D hk=>⟨ll (dD D 0) (ll (dD D 1) rfl),hit_any e x u⟩) ?_
  refine mD 4 6 2 ?_
  exact fz
 intro w2 k2
 simp only [F8]
 go_wp2
 go_ret
 exact ⟨rfl,k1.trans k2⟩
theorem placeO_any (w:World) (p q:Nat) (v:Value) (W:List Ord) (t i:Int) (hB:Blk w p 46 (Zq q v)) (hS:Sl w 30 9 v W.length (ords W)) (hlen:W.length≤100000):Gives 30 #[.pointer (some ⟨p,0,none⟩),.int .i64 t,.int .i64 i] w (.eq (.int .i64 (WU (Ord.is t i) W))):=by
 refine XJ ?_
 have HB:=Kj hB
 have HS:=Kj hS
 clear hB hS
 go_enter Tryz.func30,Tryz.ntmps30
 go_upto_region 0 with fail
 refine QZ 3 [.fresh w.heap.size 3 ([.int .i64 t]),.fresh w.heap.size 3 ([.int .i64 i]),iE 0] rfl (by kernel_rfl) ?_ ?_
 ·refine nW 1 rfl (fun a u E D hk=>⟨_,_,exec_boxi 3 _ (.int .i64 t) rfl (eE E) rfl,⟨_,rfl,hk.size,Blk.new u _ _⟩,((Keep.refl _ u).alloc _)⟩) ?_
  refine nW 2 rfl (fun a u E D hk=>⟨_,_,exec_boxi 3 _ (.int .i64 i) rfl (eE E) rfl,⟨_,rfl,hk.size,Blk.new u _ _⟩,((Keep.refl _ u).alloc _)⟩) ?_
  refine sW 3 rfl (fun a u E D hk=>JQ _ _ rfl rfl) ?_
  exact fz
 intro gv w1 hV k1
 rw [dq 3 [4,5,6]]
 simp only [Fz7]
 have hv4:(.fresh w.heap.size 3 ([.int .i64 t]):Kn).p (gv 4) w1:=hV 0 4 (by kernel_rfl)
 generalize gv 4=v4 at hv4 ⊢
 have hv5:(.fresh w.heap.size 3 ([.int .i64 i]):Kn).p (gv 5) w1:=hV 1 5 (by kernel_rfl)
 generalize gv 5=v5 at hv5 ⊢
 clear hV
 obtain ⟨g1,rfl,hg1,hB1⟩:=hv4
 obtain ⟨g2,rfl,hg2,hB2⟩:=hv5
 refine Kx ?_
 have HB1:=Kj hB1
 have HB2:=Kj hB2
 have HV:Hid (w1.cell? ⟨p,1,none⟩=some v):=(HB.out.kept k1).cell 1
 have HS1:=Kj (HS.out.kept k1)
 clear hB1 hB2 HB HS
 go_upto_region 1 with fail
 refine wEp 6 [pV p 0,pV p 0,pV p 1,v,cloP g1 g2,iV (WU (Ord.is t i) W)] [7,8,9,10,11,12] ?_ ?_
 ·refine mE 1 0 ?_
  refine nD 2 7 0 ?_
  refine fD 3 8 1 46 1 1 0 ?_
  refine sW 4 rfl (fun a u E D hk=>Jy _ _ Tryz.underlying44 _ _ _ rfl (dD D 2) (Kept.cell hk (HV.out))) ?_
  refine sW 5 rfl (fun a u E D hk=>exec_mkP _ _ g1 g2 rfl (eE E) (eE E)) ?_
  refine cS 6 58 [v,cloP g1 g2] rfl Tryz.func58 rfl (fun a u E D hk=>⟨ll (dD D 3) (ll (dD D 4) rfl),indexO_any v W (Ord.is t i) 59 _ (capP g1 g2) u (HS1.out.kept hk) (by omega) Tryz.func59 (by kernel_rfl) (by kernel_rfl) (fun u2 k2 o=>isO_any o t i g1 g2 u2 ((HB1.out.kept hk).kept k2) ((HB2.out.kept hk).kept k2))⟩) ?_
  exact fz
 intro w2 k2
 simp only [F8]
 refine Jx (.int .i64 (WU (Ord.is t i) W)) rfl (JQ _ _ rfl (by kernel_rfl)) ?_
 simp only [Act.put,sA,sS,sZ]
 refine Kx ?_
 go_wp2
 go_ret
 exact ⟨rfl,k1.trans k2⟩
theorem exec_alcI {a:Act} {o:Oper} {u:World} (t:TypeId) (hop:o.op=.alloc t) (hz:(Tryz.prog.info? t).map (·.zero)=some (some (.int .i64 0))):(execOp a.eval o).run Tryz.prog u=.ok (.value (.pointer (some ⟨u.heap.size,0,none⟩))) (u.alloc (.cells [.int .i64 0].toArray t)):=by
 cases hq:Tryz.prog.info? t with
 | none=>simp [hq] at hz
 | some i=>
  have hzz:i.zero=some (.int .i64 0):=by simpa [hq] using hz
  unfold execOp
  simp only [hop]
  simp [Instr.alloc,zeroValue,typeInfo,hq,hzz,newVar,Value.cells,go_sem]
theorem triggered_any (w:World) (F:Nat→Prop) (p q:Nat) (v:Value) (B:Bok) (W:List Ord) (hB:Blk w p 46 (Zq q v)) (hK:Bk w F q B) (hS:Sl w 30 9 v W.length (ords W)) (hlen:W.length≤100000):Gives 50 #[.pointer (some ⟨p,0,none⟩)] w (.eq (.int .i64 (WU (fun o=>o.hit B.last) W))):=by
 refine XJ ?_
 have HB:=Kj hB
 have HK:=Kj hK
 have HS:=Kj hS
 have HQ:Hid (w.cell? ⟨p,0,none⟩=some (.pointer (some ⟨q,0,none⟩))):=HB.out.cell 0
 clear hB hS hK
 go_enter Tryz.func50,Tryz.ntmps50
 go_upto_region 1 with fail
 refine wEp 5 [pV p 0,pV p 0,pV p 0,pV q 0,iV B.last] [4,5,6,7,8] ?_ ?_
 ·refine mE 1 0 ?_
  refine nD 2 4 0 ?_
  refine fD 3 5 1 46 0 0 0 ?_
  refine sW 4 rfl (fun a u E D hk=>XY _ _ Tryz.underlying42 _ _ _ rfl (dD D 2) (Kept.cell hk (HQ.out))) ?_
  refine cS 5 40 [.pointer (some ⟨q,0,none⟩)] rfl Tryz.func40 rfl (fun a u E D hk=>⟨ll (dD D 3) rfl,blast_any u F q B (HK.out.kept hk)⟩) ?_
  exact fz
 intro w1 k1
 simp only [F8]
 refine ZW (.pointer (some ⟨w1.heap.size,0,none⟩)) (w1.alloc (.cells [.int .i64 0].toArray 3)) rfl (exec_alcI 3 rfl (by kernel_rfl)) ?_
 have hN2:=Blk.new w1 3 [.int .i64 0]
 have k2:Kept w1 (w1.alloc (.cells [.int .i64 0].toArray 3)):=(Keep.refl _ w1).alloc _
 generalize w1.alloc (.cells [.int .i64 0].toArray 3)=w2 at hN2 k2 ⊢
 simp only [Act.put,sA,sS,sZ]
 refine Zz 3 w1.heap.size 0 3 _ (.int .i64 B.last) _ _ rfl rfl (by kernel_rfl) (by kernel_rfl) (by kernel_rfl) rfl rfl hN2 (by simp) ?_
 intro w3 hN3 hk3 hs3
 simp only [Act.put]
 refine Kx ?_
 have k3:Kept w w3:=(k1.trans k2).trans' hk3 (by have:=k1.size;omega)
 obtain ⟨g,hg⟩:∃ g,w1.heap.size=g:=⟨_,rfl⟩
 rw [hg] at hN3 ⊢
 have HN:Hid (Blk w3 g 3 [.int .i64 B.last]):=hN3
 have HV:Hid (w3.cell? ⟨p,1,none⟩=some v):=(HB.out.kept k3).cell 1
 have HS1:=Kj (HS.out.kept k3)
 clear hN2 hN3 k2 hk3 hs3 hg HB HS HQ HK
 go_upto_region 2 with fail
 refine wEp 6 [pV p 0,pV p 0,pV p 1,v,cloT g,iV (WU (fun o=>o.hit B.last) W)] [9,10,11,12,13,14] ?_ ?_
 ·refine mE 1 0 ?_
  refine nD 2 9 0 ?_
  refine fD 3 10 1 46 1 1 0 ?_
  refine sW 4 rfl (fun a u E D hk=>Jy _ _ Tryz.underlying44 _ _ _ rfl (dD D 2) (Kept.cell hk (HV.out))) ?_
  refine sW 5 rfl (fun a u E D hk=>exec_mkT _ g rfl (eE E)) ?_
  refine cS 6 58 [v,cloT g] rfl Tryz.func58 rfl (fun a u E D hk=>⟨ll (dD D 3) (ll (dD D 4) rfl),indexO_any v W (fun o=>o.hit B.last) 75 _ (capT g) u (HS1.out.kept hk) (by omega) Tryz.func75 (by kernel_rfl) (by kernel_rfl) (fun u2 k2 o=>trigO_any o B.last g u2 ((HN.out.kept hk).kept k2))⟩) ?_
  exact fz
 intro w4 k4
 simp only [F8]
 refine Jx (.int .i64 (WU (fun o=>o.hit B.last) W)) rfl (JQ _ _ rfl (by kernel_rfl)) ?_
 simp only [Act.put,sA,sS,sZ]
 refine Kx ?_
 go_wp2
 go_ret
 exact ⟨rfl,k3.trans k4⟩
inductive Tr where
 | done:Tr
 | val (i:Nat) (r:Tr):Tr
 | one (i:Nat) (r:Tr):Tr
 | two (i j:Nat) (r s:Tr):Tr
section
variable {P:Program} {ops:Array Oper} {S:World→Prop} {Q:Exit→Act→World→Prop}
def wpTr (P:Program) (ops:Array Oper) (S:World→Prop) (Q:Exit→Act→World→Prop):Tr→Act→World→Prop
 | .done,a,w=>wpList P ops Q [] a w
 | .val i r,a,w=>∃ o v,ops[i]?=some o∧YieldsIf P ops S o v a∧wpTr P ops S Q r (a.put o.dst v) w
 | .one i r,a,w=>wpOp P ops Q i (fun a' w'=>S w'∧wpTr P ops S Q r a' w') a w
 | .two i j r s,a,w=>wpOp P ops Q i (fun a' w'=>S w'∧wpTr P ops S Q r a' w') a w∧wpOp P ops Q j (fun a' w'=>S w'∧wpTr P ops S Q s a' w') a w
def trB (ops:Array Oper):Tr→Nat→Array Bool→Bool
 | .done,n,ls=>n == 0 && (Region.ready .any ops ls).isEmpty
 | .val i r,n,ls=>n != 0 && (Region.ready .any ops ls).contains i && Region.free .any ops ls i && trB ops r (n-1) (ls.setIfInBounds i true)
 | .one i r,n,ls=>n != 0 && (Region.ready .any ops ls == [i]) && trB ops r (n-1) (ls.setIfInBounds i true)
 | .two i j r s,n,ls=>n != 0 && (Region.ready .any ops ls == [i,j]) && trB ops r (n-1) (ls.setIfInBounds i true) && trB ops s (n-1) (ls.setIfInBounds j true)
theorem X_of_tr (hs:Region.noSelect ops=true) (hQ:∀ c a d v w,Q (.panic c) (a.put d v) w→Q (.panic c) a w):∀ (t:Tr) (n:Nat) (ls:Array Bool) (a:Act) (w:World),S w→trB ops t n ls=true→wpTr P ops S Q t a w→wpX P .any ops Q S (fun _=>false) n ls a w
 | .done,n,ls,a,w,hS,hB,h=>by
  simp only [trB,Bool.and_eq_true,beq_iff_eq,List.isEmpty_iff] at hB
  obtain ⟨rfl,hB⟩:=hB
  exact ⟨hB,h⟩
 | .val i r,n,ls,a,w,hS,hB,h=>by
  obtain ⟨o,v,ho,hy,h⟩:=h
  simp only [trB,Bool.and_eq_true,bne_iff_ne] at hB
  obtain ⟨⟨⟨hn,hr⟩,hf⟩,hB⟩:=hB
  obtain ⟨k,rfl⟩:∃ k,n=k+1:=⟨n-1,by omega⟩
  exact wpX_first (Si:=S) ho (Region.noSelect_spec hs) (fun c a w=>hQ c a o.dst v w) (fun _ _ _ _ _ _ hw hT=>hT rfl hw) k ls a w (Region.free_spec ho hf) (by simpa using hr) hy hS (X_of_tr hs hQ r k _ _ w hS hB h)
 | .one i r,n,ls,a,w,hS,hB,h=>by
  simp only [trB,Bool.and_eq_true,bne_iff_ne,beq_iff_eq] at hB
  obtain ⟨⟨hn,hr⟩,hB⟩:=hB
  obtain ⟨k,rfl⟩:∃ k,n=k+1:=⟨n-1,by omega⟩
  refine ⟨fun h0=>(by rw [h0] at hr;cases hr),fun j hj=>?_⟩
  obtain rfl:j=i:=by rw [hr] at hj;simpa using hj
  exact wpOp_mono (fun a' w' ⟨h1,h2⟩=>⟨fun _ _=>h1,X_of_tr hs hQ r k _ a' w' h1 hB h2⟩) h
 | .two i j r s,n,ls,a,w,hS,hB,h=>by
  simp only [trB,Bool.and_eq_true,bne_iff_ne,beq_iff_eq] at hB
  obtain ⟨⟨⟨hn,hr⟩,hB⟩,hC⟩:=hB
  obtain ⟨k,rfl⟩:∃ k,n=k+1:=⟨n-1,by omega⟩
  refine ⟨fun h0=>(by rw [h0] at hr;cases hr),fun q hq=>?_⟩
  rcases (show q=i∨q=j by rw [hr] at hq;simpa using hq) with rfl | rfl
  ·exact wpOp_mono (fun a' w' ⟨h1,h2⟩=>⟨fun _ _=>h1,X_of_tr hs hQ r k _ a' w' h1 hB h2⟩) h.1
  exact wpOp_mono (fun a' w' ⟨h1,h2⟩=>⟨fun _ _=>h1,X_of_tr hs hQ s k _ a' w' h1 hC h2⟩) h.2
theorem wp_tree {id:Nat} {a:Act} {w:World} {l:List Oper} (S:World→Prop) (t:Tr) (hm:P.follows .mixedOrders=true) (hB:(Region.noSelect l.toArray && trB l.toArray t l.length (Array.replicate l.length false))=true)
  (hS:S w.drew) (h:wpTr P l.toArray S (NoPanic Q) t a w.drew):(Code.region id l.toArray true).wp P Q a w:=by
 simp only [Bool.and_eq_true] at hB
 refine wp_region_noPanic (wp_region_any hm ?_)
 have:=X_of_tr (P:=P) (S:=S) hB.1 (fun c a d v w h=>(h:False).elim) t _ _ a w.drew hS hB.2 h
 have h2:=wpAny_of_X _ _ _ _ this
 simpa using h2
end
section
variable {ops:Array Oper} {S:World→Prop} {Q:Exit→Act→World→Prop} {a:Act} {w:World} {i:Nat} {o:Oper} {r:Tr}
theorem t_done (h:wpList Tryz.prog ops Q [] a w):wpTr Tryz.prog ops S (NoPanic Q) .done a w:=NoPanic.normal h
theorem WZ (v:Value) (ho:ops[i]?=some o) (hw:Region.wanted o (yielded ops a.tmps)=true) (h:∀ u,S u→(execOp a.eval o).run Tryz.prog u=.ok (.value v) u) (hK:wpTr Tryz.prog ops S Q r (a.put o.dst v) w):wpTr Tryz.prog ops S Q (.val i r) a w:=
 ⟨o,v,ho,.inl ⟨hw,h⟩,hK⟩
theorem t_op (ho:ops[i]?=some o) (hw:Region.wanted o (yielded ops a.tmps)=true) (h:∀ K:Act→World→Prop,(∀ a' w',S w'→wpTr Tryz.prog ops S Q r a' w'→K a' w')→o.wp Tryz.prog a w K Q):wpOp Tryz.prog ops Q i (fun a' w'=>S w'∧wpTr Tryz.prog ops S Q r a' w') a w:=by
 unfold wpOp
 simp only [ho,hw,if_true]
 exact .inl (h _ (fun a' w' h1 h2=>⟨h1,h2⟩))
theorem t_new (v:Value) (w':World) (ho:ops[i]?=some o) (hw:Region.wanted o (yielded ops a.tmps)=true) (h:(execOp a.eval o).run Tryz.prog w=.ok (.value v) w') (hS:S w') (hK:wpTr Tryz.prog ops S Q r (a.put o.dst v) w'):wpOp Tryz.prog ops Q i (fun a' w'=>S w'∧wpTr Tryz.prog ops S Q r a' w') a w:=
 t_op ho hw fun K hK'=>by
  unfold Oper.wp
  rw [h]
  exact hK' _ _ hS hK
theorem t_call (f:Nat) (args:Array Value) (ho:ops[i]?=some o) (hw:Region.wanted o (yielded ops a.tmps)=true) (h:∀ u,(execOp a.eval o).run Tryz.prog u=.ok (.enter f args) u) (hc:Calls Tryz.prog f args w fun e w'=>∃ v,e=.returned v∧S w'∧wpTr Tryz.prog ops S Q r (a.put o.dst v) w'):wpOp Tryz.prog ops Q i (fun a' w'=>S w'∧wpTr Tryz.prog ops S Q r a' w') a w:=
 t_op ho hw fun K hK'=>by
  unfold Oper.wp
  rw [h]
  refine Calls.mono hc fun e w' he=>?_
  obtain ⟨v,rfl,hS,hK⟩:=he
  exact hK' _ _ hS hK
theorem t_setS (ty:TypeId) (g:Nat) (T:TypeId) (old cells:List Value) (x y:Operand) (ho:ops[i]?=some o) (hw:Region.wanted o (yielded ops a.tmps)=true) (hop:o.op=.store ty x y) (hx:a.eval x=.pointer (some ⟨g,0,none⟩)) (hy:a.eval y=.agg cells.toArray) (hb:Blk w g T old) (hi:(Tryz.prog.info? ty).map (·.size)=some cells.length) (hold:old.length=cells.length) (h1:∀ u ∈ cells,u.oneCell'=true)
  (hK:∀ w',Blk w' g T cells→Keep (·=g) w w'→S w'∧wpTr Tryz.prog ops S Q r (a.put o.dst undef) w'):wpOp Tryz.prog ops Q i (fun a' w'=>S w'∧wpTr Tryz.prog ops S Q r a' w') a w:=
 t_op ho hw fun K hK'=>op_store_row w ty x y hop g cells hx hy T old hb hi hold h1 (fun w' h2 h3 h4=>hK' _ _ (hK w' h2 h3).1 (hK w' h2 h3).2)
end
theorem exec_storeM {a:Act} {o:Oper} {u:World} (ty:TypeId) (x y:Operand) (b of:Nat) (cs:List Value) (hop:o.op=.store ty x y) (hi:(Tryz.prog.info? ty).map (·.size)=some cs.length) (hx:a.eval x=.pointer (some ⟨b,of,none⟩)) (hy:a.eval y=.agg cs.toArray) (h1:∀ v ∈ cs,v.oneCell'=true) (ht:u.there b of cs.length) :
  (execOp a.eval o).run Tryz.prog u=.ok .skip (u.setCells b of cs):=by
 have h:=run_storeCells_cells (P:=Tryz.prog) b of cs 0 u (fun j hj=>by simpa using (ht j (by simpa using hj)).1) (fun j hj=>by simpa using (ht j (by simpa using hj)).2) h1
 cases hq:Tryz.prog.info? ty with
 | none=>simp [hq] at hi
 | some i=>
  have hs:i.size=cs.length:=by simpa [hq] using hi
  simp only [Nat.add_zero] at h
  unfold execOp
  simp only [hop,hx,hy,Instr.storeAt,Instr.sureAddr,Sem.run_bind,Sem.run_pure,Result.andThen_ok]
  simp [storeVar,sizeOf,typeInfo,hq,hs,h,Value.cells]
theorem l_setO {ops:Array Oper} {Q:Exit→Act→World→Prop} {a:Act} {w:World} {o:Oper} {rest:List Oper} (g:Nat) (T:TypeId) (e:Ord) (old:List Value) (x y:Operand) (hw:Region.wanted o (yielded ops a.tmps)=true) (hop:o.op=.store 30 x y) (hx:a.eval x=.pointer (some ⟨g,0,none⟩)) (hy:a.eval y=e.v) (hb:Blk w g T old) (hl:9≤old.length)
  (hK:∀ w',Blk w' g T (e.cells++old.drop 9)→Keep (·=g) w w'→wpList Tryz.prog ops Q rest (a.put o.dst undef) w'):wpList Tryz.prog ops Q (o::rest) a w:=by
 obtain ⟨h1,h2,h3⟩:=Blk.setCells e.cells 0 w old hb (by rw [Ord.len9];omega)
 refine l_store _ hw (exec_storeM 30 x y g 0 e.cells hop (by rw [Ord.len9];exact JX) hx hy (Ord.one1 e) (hb.there 0 _ (by rw [Ord.len9];omega))) (hK _ ?_ h2)
 rw [Ord.len9] at h1
 simpa using h1
theorem mtake_any (w:World) (p q:Nat) (v:Value) (W:List Ord) (k:Nat) (e:Ord) (hB:Blk w p 46 (Zq q v)) (hS:Sl w 30 9 v W.length (ords W)) (he:W[k]?=some e) (hlen:W.length≤100000) (hvp:∀ b,v.ownBlock=some b→b≠p) :
  Calls Tryz.prog 31 #[.pointer (some ⟨p,0,none⟩),.int .i64 (k:Int)] w fun r w'=>∃ v',r=.returned e.v∧Blk w' p 46 (Zq q v')∧Sl w' 30 9 v' (W.eraseIdx k).length (ords (W.eraseIdx k))∧v'.ownBlock=v.ownBlock∧Keep (fun b=>b=p∨v.ownBlock=some b) w w':=by
 obtain ⟨n,hn⟩:∃ n,W.length=n:=⟨_,rfl⟩
 have hkn:k<n:=by rw [← hn];exact (List.getElem?_eq_some_iff.1 he).1
 have hel:(W.eraseIdx k).length=n-1:=by rw [List.length_eraseIdx,if_pos (by omega),hn]
 rw [hel]
 rw [hn] at hS hlen
 have HN:=Kj hn
 obtain ⟨g,off,c,rfl⟩:=hS.some_ (by omega)
 have hgp:g≠p:=hvp g rfl
 have hgl:g<w.heap.size:=hS.lt rfl
 have HS:=Kj hS
 have HB:=Kj hB
 have hpl:=hB.lt
 have HEI:=Kj he
 clear hS hB he hn hel hvp
 go_enter Tryz.func31,Tryz.ntmps31
 go_upto_region 0 with fail
 refine QZ 1 [.fresh w.heap.size 30 JV.cells] rfl (by kernel_rfl) ?_ ?_
 ·refine nW 1 rfl (fun a u E D hk=>⟨_,_,QW 30 JV.cells rfl zO,⟨_,rfl,hk.size,Blk.new u _ _⟩,((Keep.refl _ u).alloc _)⟩) ?_
  exact fz
 intro gv w0 hV k0
 rw [dq 1 [4]]
 simp only [Fz7]
 have hv4:(.fresh w.heap.size 30 JV.cells:Kn).p (gv 4) w0:=hV 0 4 (by kernel_rfl)
 generalize gv 4=v4 at hv4 ⊢
 clear hV
 obtain ⟨b4,rfl,hb4,hB4⟩:=hv4
 refine Kx ?_
 have HB4:=Kj hB4
 have l4:=hB4.lt
 have z0:=k0.size
 have HV0:Hid (w0.cell? ⟨p,1,none⟩=some (.slice (some ⟨g,off,none⟩) n c)):=(HB.out.kept k0).cell 1
 have HE0:Hid (w0.rangeAt g (off+k*9) e.cells):=JJ (HS.out.rngO k e HEI.out) k0
 clear hB4
 go_upto_region 1 with fail
 refine wEp 7 [pV p 0,pV p 0,pV p 1,.slice (some ⟨g,off,none⟩) n c,iV (k:Int),pV g (off+k*9),e.v] [6,7,8,9,10,11,12] ?_ ?_
 ·refine mE 1 0 ?_
  refine nD 2 6 0 ?_
  refine fD 3 7 1 46 1 1 0 ?_
  refine sW 4 rfl (fun a u E D hk=>Jy _ _ Tryz.underlying44 _ _ _ rfl (dD D 2) (Kept.cell hk (HV0.out))) ?_
  refine mE 5 1 ?_
  refine sW 6 rfl (fun a u E D hk=>Jz slO _ _ (g) (off) n c k (off+k*9) ((k:Int)) rfl (dD D 3) (dD D 4) (by first | rfl | omega) (hkn) (by first | rfl | omega)) ?_
  refine sD 7 11 5 e.cells Tryz.underlying30 (fun u hk=>JJ HE0.out hk) (by rw [e.len9];exact JX) ?_
  exact fz
 intro w1 k1
 simp only [F8]
 refine ZW (.pointer (some ⟨w1.heap.size,0,none⟩)) (w1.alloc (.cells JV.cells.toArray 30)) rfl (QW 30 JV.cells rfl zO) ?_
 have hNw2:=Blk.new w1 30 JV.cells
 have kw2:Kept w1 (w1.alloc (.cells JV.cells.toArray 30)):=(Keep.refl _ w1).alloc _
 generalize w1.alloc (.cells JV.cells.toArray 30)=w2 at hNw2 kw2 ⊢
 simp only [Act.put,sA,sS,sZ]
 refine Qj 30 w1.heap.size 30 JV.cells e.cells _ _ rfl rfl (by kernel_rfl) (by kernel_rfl) (hNw2) (by rw [Ord.len9];exact JX) (by rw [Ord.len9,Ord.len9]) (Ord.one1 _) ?_
 intro w3 hCw3 hkw3 hsw3
 simp only [Act.put]
 refine Kx ?_
 obtain ⟨b5,h5⟩:∃ x,w1.heap.size=x:=⟨_,rfl⟩
 rw [h5] at hNw2 hCw3 hkw3 ⊢
 have z1:=k1.size
 have K3:Kept w w3:=((k0.trans k1).trans kw2).trans' hkw3 (by omega)
 have z3:=K3.size
 have HO5:=Kj (JW hCw3)
 have HB43:=Kj ((HB4.out.kept (k1.trans kw2)).keep hkw3 (fun e=>by omega))
 have HV3:Hid (w3.cell? ⟨p,1,none⟩=some (.slice (some ⟨g,off,none⟩) n c)):=(HB.out.kept K3).cell 1
 have HB3:=Kj (HB.out.kept K3)
 have HS3:=Kj (HS.out.kept K3)
 have l5:=hCw3.lt
 clear hNw2 hCw3 hkw3 hsw3 kw2 k0 k1 HB HS HB4 HV0 HE0
 go_upto_region 2 with fail
 refine wEp 8 [pV p 0,pV p 0,pV p 0,pV p 1,.slice (some ⟨g,off,none⟩) n c,iV (k:Int),iV (k:Int),iV (((k:Int):Int)+(1:Int))] [13,14,15,16,17,18,19,20] ?_ ?_
 ·refine mE 1 0 ?_
  refine mE 2 0 ?_
  refine nD 3 14 1 ?_
  refine fD 4 15 2 46 1 1 0 ?_
  refine sW 5 rfl (fun a u E D hk=>Jy _ _ Tryz.underlying44 _ _ _ rfl (dD D 3) (Kept.cell hk (HV3.out))) ?_
  refine mE 6 1 ?_
  refine mE 7 1 ?_
  refine sW 8 rfl (fun a u E D hk=>ZJ (p:=((k:Int))) (q:=(1)) (((k:Int):Int)+(1:Int)) rfl (dD D 6) rfl rfl (by omega) (by omega)) ?_
  exact fz
 intro w4 k4
 simp only [F8]
 refine Yz 60 #[.slice (some ⟨g,off,none⟩) n c,.int .i64 (k:Int),.int .i64 (((k:Int):Int)+(1:Int))] rfl (Jq 60 _ [.tmp 17,.tmp 18,.tmp 20] _ _ Tryz.func60 (by kernel_rfl) (by kernel_rfl) rfl (by kernel_rfl) _) ?_
 refine (delO_any g off n c k W w4 (HS3.out.kept k4) HN.out hkn (by omega)).mono ?_
 rintro r w5 ⟨rfl,hS5,hk5⟩
 refine ⟨_,rfl,?_⟩
 simp only [Act.put,sA,sS,sZ]
 refine Jx (.pointer (some ⟨p,0,none⟩)) rfl (YY (.tmp 13) ⟨p,0,none⟩ rfl (by kernel_rfl)) ?_
 simp only [Act.put,sA,sS,sZ]
 refine Jx (.pointer (some ⟨p,1,none⟩)) rfl (QV 46 1 1 (.tmp 22) (p) (0) (1) rfl (by kernel_rfl) (by kernel_rfl) rfl) ?_
 simp only [Act.put,sA,sS,sZ]
 refine Zz 44 p 1 46 (Zq q (.slice (some ⟨g,off,none⟩) n c)) (.slice (some ⟨g,off,none⟩) (n-1) c) _ _ rfl rfl (by kernel_rfl) (by kernel_rfl) (by kernel_rfl) (VV hS5) (Yq hS5) ((HB3.out.kept k4).keep hk5 (fun e=>hgp e.symm)) (by simp [Zq]) ?_
 intro w6 hB6 hk6 hs6
 simp only [Act.put]
 refine Kx ?_
 have HB6:Hid (Blk w6 p 46 (Zq q (.slice (some ⟨g,off,none⟩) (n-1) c))):=hB6
 have HS6:=Kj (hS5.keep hk6 (fun b hb e=>hgp (by simp [Value.ownBlock] at hb;omega)))
 have k36:Keep (fun b=>b=p∨g=b) w3 w6:=((Keep.any k4 hk5).mono (fun b _ hb=>.inr hb.symm)).trans hk6 (fun b _ hb=>.inl hb)
 have HO6:=Kj (XW HO5.out k36 (fun e=>by omega))
 have HB46:=Kj (HB43.out.keep k36 (fun e=>by omega))
 have z6:=k36.size
 have K6:Keep (fun b=>b=p∨g=b) w w6:=Keep.any K3 k36
 clear hS5 hk5 hB6 hk6 hs6 k4 k36 HO5 HB43 HV3 HB3 HS3 K3
 go_upto_region 3 with fail
 refine wEp 1 [e.v] [24] ?_ ?_
 ·refine sE 1 5 b5 0 e.cells Tryz.underlying30 (fun u hk=>JJ HO6.out hk) (by rw [e.len9];exact JX) ?_
  exact fz
 intro w7 k7
 simp only [F8]
 refine Qj 30 b4 30 JV.cells e.cells _ _ rfl rfl (by kernel_rfl) (by kernel_rfl) (HB46.out.kept k7) (by rw [Ord.len9];exact JX) (by rw [Ord.len9,Ord.len9]) (Ord.one1 _) ?_
 intro w8 hCw8 hkw8 hsw8
 simp only [Act.put]
 refine Kx ?_
 go_wp2
 refine bodyPost_ret (XZ (p:=4) rfl _ _ b4 _ e.cells rfl hCw8 Tryz.underlying30 (by rw [Ord.len9];exact JX)) rfl ?_
 refine ⟨.slice (some ⟨g,off,none⟩) (n-1) c,rfl,(HB6.out.kept k7).keep hkw8 (fun e=>by omega),(HS6.out.kept k7).keep hkw8 (fun b hb e=>by simp [Value.ownBlock] at hb;omega),rfl,((K6.kept k7).trans hkw8 (fun b hb e=>by omega)).mono (fun b _ hb=>hb.elim .inl (fun h=>.inr (by rw [h];rfl)))⟩
theorem waiting_any (w:World) (F:Nat→Prop) (p:Nat) (Mm:Mkt) (h:Mk w F p Mm) (hlen:Mm.w.length≤100000):Gives 38 #[.pointer (some ⟨p,0,none⟩)] w (.sl w.heap.size 30 9 Mm.w.length (ords Mm.w)):=by
 obtain ⟨_,q,v,Fb,hP,_⟩:=h
 have HV:Hid (w.cell? ⟨p,1,none⟩=some v):=hP.blk.cell 1
 have HS:=Kj hP.sl
 clear hP
 go_enter Tryz.func38,Tryz.ntmps38
 go_upto_region 1 with fail
 refine QZ 5 [pE p 0,pE p 0,pE p 1,.eq (v),.sl w.heap.size 30 9 Mm.w.length (ords Mm.w)] rfl (by kernel_rfl) ?_ ?_
 ·refine mE 1 0 ?_
  refine nD 2 3 0 ?_
  refine fD 3 4 1 46 1 1 0 ?_
  refine sW 4 rfl (fun a u E D hk=>Jy _ _ Tryz.underlying44 _ _ _ rfl (dD D 2) (Kept.cell hk (HV.out))) ?_
  refine cS 5 66 [v] rfl Tryz.func66 rfl (fun a u E D hk=>⟨ll (dD D 3) rfl,(cloneO_any v Mm.w.length Mm.w u (HS.out.kept hk) (by omega)).base hk.size⟩) ?_
  exact fz
 intro gv w1 hV k1
 rw [dq 5 [3,4,5,6,7]]
 simp only [Fz7]
 have hv7:(.sl w.heap.size 30 9 Mm.w.length (ords Mm.w):Kn).p (gv 7) w1:=hV 4 7 (by kernel_rfl)
 generalize gv 7=v7 at hv7 ⊢
 clear hV
 refine Jx (v7) rfl (JQ _ _ rfl (by kernel_rfl)) ?_
 simp only [Act.put,sA,sS,sZ]
 refine Kx ?_
 go_wp2
 go_ret
 exact ⟨_,rfl,hv7,k1⟩
theorem mbook_any (w:World) (p q:Nat) (v:Value) (hB:Blk w p 46 (Zq q v)):Gives 34 #[.pointer (some ⟨p,0,none⟩)] w (.eq (.pointer (some ⟨q,0,none⟩))):=by
 refine XJ ?_
 have HV:Hid (w.cell? ⟨p,0,none⟩=some (.pointer (some ⟨q,0,none⟩))):=hB.cell 0
 clear hB
 go_enter Tryz.func34,Tryz.ntmps34
 go_upto_region 1 with fail
 refine wE 5 [pV p 0,pV p 0,pV p 0,pV q 0,pV q 0] [3,4,5,6,2] ?_ ?_
 ·refine mE 1 0 ?_
  refine nD 2 3 0 ?_
  refine fD 3 4 1 46 0 0 0 ?_
  refine sW 4 rfl (fun a u E D hk=>XY _ _ Tryz.underlying42 _ _ _ rfl (dD D 2) (Kept.cell hk (HV.out))) ?_
  refine mD 5 6 3 ?_
  exact fz
 intro w1 k1
 simp only [F8]
 go_wp2
 go_ret
 exact ⟨rfl,k1⟩
theorem mlen_any (w:World) (F:Nat→Prop) (p:Nat) (Mm:Mkt) (h:Mk w F p Mm) (hI:Inv Mm.b) (hlen:Mm.w.length≤100000):Gives 39 #[.pointer (some ⟨p,0,none⟩)] w (.eq (.int .i64 (Mm.len:Int))):=by
 refine XJ ?_
 obtain ⟨_,q,v,Fb,hP,_⟩:=h
 have HQ:Hid (w.cell? ⟨p,0,none⟩=some (.pointer (some ⟨q,0,none⟩))):=hP.blk.cell 0
 have HV:Hid (w.cell? ⟨p,1,none⟩=some v):=hP.blk.cell 1
 have HK:=Kj hP.bk
 obtain ⟨n,hn⟩:∃ n,Mm.w.length=n:=⟨_,rfl⟩
 have HS:=Kj hP.sl
 rw [hn] at HS hlen
 obtain ⟨m,hm⟩:∃ m,Mm.b.len=m:=⟨_,rfl⟩
 have HM:Hid ((m:Int)+(n:Int)=(Mm.len:Int)):=by show _=_;unfold Mkt.len;rw [hm,hn];omega
 have HMe:=Kj hm
 have HI:=Kj hI
 have hm64:m≤128:=by have:=hI.two.few;rw [← hm];unfold Bok.len Bok.all;rw [List.length_append];omega
 clear hP hn hm hI
 go_enter Tryz.func39,Tryz.ntmps39
 go_upto_region 1 with fail
 refine wG 12 [pV p 0,pV p 0,pV p 0,pV q 0,iV (m:Int),pV p 0,pV p 0,pV p 1,v,iV (n:Int),iV (((m:Int):Int)+((n:Int):Int)),iV (((m:Int):Int)+((n:Int):Int))] [3,4,5,6,7,8,9,10,11,12,13,2] ?_ ?_
 ·refine mE 1 0 ?_
  refine nD 2 3 0 ?_
  refine fD 3 4 1 46 0 0 0 ?_
  refine sW 4 rfl (fun a u E D hk=>XY _ _ Tryz.underlying42 _ _ _ rfl (dD D 2) (Kept.cell hk (HQ.out))) ?_
  refine cS 5 67 [.pointer (some ⟨q,0,none⟩)] rfl Tryz.func67 rfl (fun a u E D hk=>⟨ll (dD D 3) rfl,(by rw [← HMe.out];exact blen_any u Fb q Mm.b (HK.out.kept hk) HI.out)⟩) ?_
  refine mE 6 0 ?_
  refine nD 7 8 5 ?_
  refine fD 8 9 6 46 1 1 0 ?_
  refine sW 9 rfl (fun a u E D hk=>Jy _ _ Tryz.underlying44 _ _ _ rfl (dD D 7) (Kept.cell hk (HV.out))) ?_
  refine sW 10 rfl (fun a u E D hk=>Qq _ slO _ _ _ _ rfl (dD D 8) (HS.out.kept hk)) ?_
  refine sW 11 rfl (fun a u E D hk=>ZJ (p:=((m:Int))) (q:=((n:Int))) (((m:Int):Int)+((n:Int):Int)) rfl (dD D 4) (dD D 9) rfl (by omega) (by omega)) ?_
  refine mD 12 13 10 ?_
  exact fz
 intro w1 k1
 simp only [F8]
 go_wp2
 go_ret
 exact ⟨by rw [HM.out];rfl,k1⟩
theorem mayStay_any (w:World) (c:Ord):Gives 72 #[c.v] w (.eq (.bool c.may)):=by
 refine XJ ?_
 go_enter Tryz.func72,Tryz.ntmps72
 go_upto_region 0 with fail
 refine QZ 2 [.fresh w.heap.size 30 (c.cells),bE false] rfl (by kernel_rfl) ?_ ?_
 ·refine nW 1 rfl (fun a u E D hk=>⟨_,_,YX 30 _ (c.cells) rfl (eE E),⟨_,rfl,hk.size,Blk.new u _ _⟩,((Keep.refl _ u).alloc _)⟩) ?_
  refine sW 2 rfl (fun a u E D hk=>JQ _ _ rfl rfl) ?_
  exact fz
 intro gv w1 hV k1
 rw [dq 2 [1,2]]
 simp only [Fz7]
 have hv1:(.fresh w.heap.size 30 (c.cells):Kn).p (gv 1) w1:=hV 0 1 (by kernel_rfl)
 generalize gv 1=v1 at hv1 ⊢
 clear hV
 obtain ⟨g,rfl,hg,hB⟩:=hv1
 refine Kx ?_
 have HB:=Kj (JW hB)
 clear hB
 go_upto_region 1 with fail
 refine wT 14 [pE g 8,iE c.stop,bE (decide ((0:Int)<(c.stop:Int))),bE (decide ((0:Int)<(c.stop:Int))),.cond (!(decide ((0:Int)<(c.stop:Int)))) (pE g 4),.cond (!(decide ((0:Int)<(c.stop:Int)))) (iE c.k),.cond (!(decide ((0:Int)<(c.stop:Int)))) (bE (decide ((c.k:Int)=(1:Int)))),bE ((decide ((0:Int)<(c.stop:Int))) || (decide ((c.k:Int)=(1:Int)))),bE ((decide ((0:Int)<(c.stop:Int))) || (decide ((c.k:Int)=(1:Int)))),.cond (!((decide ((0:Int)<(c.stop:Int))) || (decide ((c.k:Int)=(1:Int))))) (pE g 4),.cond (!((decide ((0:Int)<(c.stop:Int))) || (decide ((c.k:Int)=(1:Int))))) (iE c.k),.cond (!((decide ((0:Int)<(c.stop:Int))) || (decide ((c.k:Int)=(1:Int))))) (bE (decide ((c.k:Int)=(5:Int)))),bE (((decide ((0:Int)<(c.stop:Int))) || (decide ((c.k:Int)=(1:Int)))) || (decide ((c.k:Int)=(5:Int)))),bE (((decide ((0:Int)<(c.stop:Int))) || (decide ((c.k:Int)=(1:Int)))) || (decide ((c.k:Int)=(5:Int))))] [3,4,5,6,7,8,9,10,11,12,13,14,15,2] ?_ ?_
 ·refine fE 1 1 30 8 8 0 ?_
  refine lD 2 3 0 Tryz.underlying3 (fun u hk=>JY (JJ HB.out hk) 8 _ rfl) ?_
  refine sW 3 rfl (fun a u E D hk=>XX rfl (dD D 1) rfl) ?_
  refine mD 4 5 2 ?_
  refine uC 5 3 rfl (fun a u E D hk hb=>QV 30 4 4 _ (g) (0) (4) rfl (eE E) (by kernel_rfl) rfl) ?_
  refine uC 6 3 rfl (fun a u E D hk hb=>QX _ Tryz.underlying3 _ _ _ rfl ((D 4 7 (by kernel_rfl)).1 hb) (JY (JJ HB.out hk) 4 _ rfl)) ?_
  refine uC 7 3 rfl (fun a u E D hk hb=>JU rfl ((D 5 8 (by kernel_rfl)).1 hb) rfl) ?_
  refine sW 8 rfl (fun a u E D hk=>VQ _ _ _ ((decide ((0:Int)<(c.stop:Int)))) ((decide ((c.k:Int)=(1:Int)))) rfl (dD D 3) rfl (fun hb2=>((D 6 9 (by kernel_rfl)).1 hb2))) ?_
  refine mD 9 10 7 ?_
  refine uC 10 8 rfl (fun a u E D hk hb=>QV 30 4 4 _ (g) (0) (4) rfl (eE E) (by kernel_rfl) rfl) ?_
  refine uC 11 8 rfl (fun a u E D hk hb=>QX _ Tryz.underlying3 _ _ _ rfl ((D 9 12 (by kernel_rfl)).1 hb) (JY (JJ HB.out hk) 4 _ rfl)) ?_
  refine uC 12 8 rfl (fun a u E D hk hb=>JU rfl ((D 10 13 (by kernel_rfl)).1 hb) rfl) ?_
  refine sW 13 rfl (fun a u E D hk=>VQ _ _ _ (((decide ((0:Int)<(c.stop:Int))) || (decide ((c.k:Int)=(1:Int))))) ((decide ((c.k:Int)=(5:Int)))) rfl (dD D 8) rfl (fun hb2=>((D 11 14 (by kernel_rfl)).1 hb2))) ?_
  refine mD 14 15 12 ?_
  exact fz
 intro gv w2 hV k2
 simp only [Fz7]
 rw [gQ hV 13 2 (.bool (((decide ((0:Int)<(c.stop:Int))) || (decide ((c.k:Int)=(1:Int)))) || (decide ((c.k:Int)=(5:Int)))))]
 clear hV
 go_wp2
 go_ret
 exact ⟨rfl,k1.trans k2⟩
theorem built_mk (q:Nat):Tryz.prog.built 46 [(0,.pointer (some ⟨q,0,none⟩))]=some (Zq q (.slice none 0 0)).toArray:=by kernel_rfl
theorem mnew_any (w:World):Calls Tryz.prog 4 #[] w fun e w'=>∃ p F,e=.returned (.pointer (some ⟨p,0,none⟩))∧Mk w' F p Mkt.zero∧Grow w (fun _=>False) F∧Kept w w':=by
 go_enter Tryz.func4,Tryz.ntmps4
 go_upto_region 1 with fail
 refine wp_region_lit ?_
 refine Yz 16 #[] rfl (Jq 16 _ [] _ _ Tryz.func16 (by kernel_rfl) (by kernel_rfl) rfl (by kernel_rfl) _) ?_
 refine (bnew_any w).mono ?_
 rintro r w1 ⟨q,F,rfl,hK1,hG1,k1⟩
 refine ⟨_,rfl,?_⟩
 simp only [Act.put,sA,sS,sZ]
 refine Jx (.agg (Zq q (.slice none 0 0)).toArray) rfl (YJ 46 [(0,.tmp 1)] (Zq q (.slice none 0 0)) rfl (by simp only [List.map_cons,List.map_nil];exact built_mk q)) ?_
 simp only [Act.put,sA,sS,sZ]
 refine ZW (.pointer (some ⟨w1.heap.size,0,none⟩)) _ rfl (YX 46 (.tmp 2) (Zq q (.slice none 0 0)) rfl (by kernel_rfl)) ?_
 have hN2:=Blk.new w1 46 (Zq q (.slice none 0 0))
 have k2:Kept w1 (w1.alloc (.cells (Zq q (.slice none 0 0)).toArray 46)):=(Keep.refl _ w1).alloc _
 generalize w1.alloc (.cells (Zq q (.slice none 0 0)).toArray 46)=w2 at hN2 k2 ⊢
 simp only [Act.put,sA,sS,sZ]
 refine Jx (.pointer (some ⟨w1.heap.size,0,none⟩)) rfl (JQ _ _ rfl (by kernel_rfl)) ?_
 simp only [Act.put,List.setIfInBounds_toArray,List.set_cons_zero]
 refine Kx ?_
 obtain ⟨g,hg⟩:∃ x,w1.heap.size=x:=⟨_,rfl⟩
 rw [hg] at hN2 ⊢
 have z1:=k1.size
 have hP:MkP w2 g q (.slice none 0 0) F Mkt.zero:=⟨hN2,hK1.kept k2,Sl.nil _ _ _,fun h=>by have:=hK1.lt g h;omega,fun b hb=>by simp [Value.ownBlock] at hb⟩
 go_wp2
 go_ret
 exact ⟨g,_,rfl,hP.close,fun b hb=>by
  rcases hb with (hb | hb) | hb
  ·exact .inr (by omega)
  ·simp [Value.ownBlock] at hb
  exact hG1 b hb,k1.trans k2⟩
theorem enter_any (w:World) (Fb:Nat→Prop) (p q:Nat) (v:Value) (B:Bok) (e:Ord) (hB:Blk w p 46 (Zq q v)) (hK:Bk w Fb q B) (hp:¬ Fb p) (hI:Inv B) (hno:B.no≤1000000000000) :
  Calls Tryz.prog 49 #[.pointer (some ⟨p,0,none⟩),e.v] w (AddIn w Fb q (B.enter e)):=by
 have hFl:=hK.lt
 have HB:=Kj hB
 have HK:=Kj hK
 have HI:=Kj hI
 have hpl:=hB.lt
 obtain ⟨y,hy⟩:∃ y,B.enter e=y:=⟨_,rfl⟩
 obtain ⟨x,B2,hX⟩:∃ x B2,B.add e.free=(x,B2):=⟨_,_,rfl⟩
 have HY:Hid (y=({ x with o:=e },B2)):=by show _=_;rw [← hy];unfold Bok.enter;rw [hX]
 have HX:=Kj hX
 rw [hy]
 clear hB hK hI hX hy
 go_enter Tryz.func49,Tryz.ntmps49
 go_upto_region 0 with fail
 refine QZ 2 [.fresh w.heap.size 30 (e.cells),.fresh w.heap.size 58 (Xq.cells (.slice none 0 0))] rfl (by kernel_rfl) ?_ ?_
 ·refine nW 1 rfl (fun a u E D hk=>⟨_,_,YX 30 _ (e.cells) rfl (eE E),⟨_,rfl,hk.size,Blk.new u _ _⟩,((Keep.refl _ u).alloc _)⟩) ?_
  refine nW 2 rfl (fun a u E D hk=>⟨_,_,QW 58 (Xq.cells (.slice none 0 0)) rfl zC,⟨_,rfl,hk.size,Blk.new u _ _⟩,((Keep.refl _ u).alloc _)⟩) ?_
  exact fz
 intro gv w0 hV k0
 rw [dq 2 [3,4]]
 simp only [Fz7]
 have hv3:(.fresh w.heap.size 30 (e.cells):Kn).p (gv 3) w0:=hV 0 3 (by kernel_rfl)
 generalize gv 3=v3 at hv3 ⊢
 have hv4:(.fresh w.heap.size 58 (Xq.cells (.slice none 0 0)):Kn).p (gv 4) w0:=hV 1 4 (by kernel_rfl)
 generalize gv 4=v4 at hv4 ⊢
 clear hV
 obtain ⟨b3,rfl,hb3,hB3⟩:=hv3
 obtain ⟨b4,rfl,hb4,hB4⟩:=hv4
 refine Kx ?_
 have HO0:=Kj (JW hB3)
 have HB40:=Kj hB4
 have l3:=hB3.lt
 have l4:=hB4.lt
 have z0:=k0.size
 clear hB3 hB4
 go_upto_region 1 with fail
 refine wEp 1 [e.v] [7] ?_ ?_
 ·refine sE 1 3 b3 0 e.cells Tryz.underlying30 (fun u hk=>JJ HO0.out hk) (by rw [e.len9];exact JX) ?_
  exact fz
 intro w1 k1
 simp only [F8]
 refine ZW (.pointer (some ⟨w1.heap.size,0,none⟩)) (w1.alloc (.cells JV.cells.toArray 30)) rfl (QW 30 JV.cells rfl zO) ?_
 have hNw2:=Blk.new w1 30 JV.cells
 have kw2:Kept w1 (w1.alloc (.cells JV.cells.toArray 30)):=(Keep.refl _ w1).alloc _
 generalize w1.alloc (.cells JV.cells.toArray 30)=w2 at hNw2 kw2 ⊢
 simp only [Act.put,sA,sS,sZ]
 refine Qj 30 w1.heap.size 30 JV.cells e.cells _ _ rfl rfl (by kernel_rfl) (by kernel_rfl) (hNw2) (by rw [Ord.len9];exact JX) (by rw [Ord.len9,Ord.len9]) (Ord.one1 _) ?_
 intro w3 hCw3 hkw3 hsw3
 simp only [Act.put]
 refine Kx ?_
 obtain ⟨b5,h5⟩:∃ x,w1.heap.size=x:=⟨_,rfl⟩
 rw [h5] at hNw2 hCw3 hkw3 ⊢
 have z1:=k1.size
 have k03:Kept w0 w3:=(k1.trans kw2).trans' hkw3 (by omega)
 have l5:=hCw3.lt
 have HB53:=Kj hCw3
 have HB43:=Kj (HB40.out.kept k03)
 have HO3:=Kj (JJ HO0.out k03)
 clear hNw2 hCw3 hkw3 hsw3 kw2 k1 HO0 HB40
 have hfree:stc (e.l.set 8 0) []=e.free.cells:=rfl
 go_upto_region 2 with fail
 refine wEp 1 [pV b5 8] [8] ?_ ?_
 ·refine fE 1 5 30 8 8 0 ?_
  exact fz
 intro w4a kw4a
 simp only [F8]
 refine l_setf b5 8 30 e.l [] 0 _ (.const (.int .i64 0)) rfl rfl (by kernel_rfl) rfl (HB53.out.kept kw4a) (by simp [Ord.l]) ?_
 intro w4 hBw4 hkw4 hsw4
 simp only [Act.put]
 refine Kx ?_
 have HBw4:Hid (Blk w4 b5 30 e.free.cells):=by show Blk _ _ _ _;rw [← hfree];exact hBw4
 have Kw4:Kept w3 w4a:=kw4a
 have K4:Kept w w4:=(k0.trans (k03.trans Kw4)).trans' hkw4 (by omega)
 have hsz4:=K4.size
 have z3:=k03.size
 have zw4:=Kw4.size
 have HB44:=Kj ((HB43.out.kept Kw4).keep hkw4 (fun e=>by omega))
 have HO4:=Kj (XW (JJ HO3.out Kw4) hkw4 (fun e=>by omega))
 have HF4:=Kj (JW HBw4.out)
 have HQ4:Hid (w4.cell? ⟨p,0,none⟩=some (.pointer (some ⟨q,0,none⟩))):=(HB.out.kept K4).cell 0
 have HK4:=Kj (HK.out.kept K4)
 have h5F:¬ Fb b5:=fun h=>by have:=hFl b5 h;omega
 have h3F:¬ Fb b3:=fun h=>by have:=hFl b3 h;omega
 have h4F:¬ Fb b4:=fun h=>by have:=hFl b4 h;omega
 have h34:b3<w4.heap.size:=by omega
 have h44:b4<w4.heap.size:=by omega
 clear HB53 HB43 HO3 hBw4 hkw4 hsw4 Kw4 k03 k0 HBw4
 go_upto_region 3 with fail
 go_cut [9,10,11,12,13,14,6] (fun _ _ _ _ _ _ r6 wx=>∃ b6 F2 vf,r6=.pointer (some ⟨b6,0,none⟩)∧w4.heap.size≤b6∧Blk wx b6 58 (x.cells vf)∧Bk wx F2 q B2∧¬ F2 b6∧Sl wx 77 21 vf x.f.length (fls x.f)∧(∀ b,vf.ownBlock=some b→w4.heap.size≤b∧¬ F2 b∧b≠b6)∧Grow w4 Fb F2∧Keep Fb w4 wx)
 case first=>
  refine wp_tree (fun u=>Keep Fb w4 u) (.val 0 (.val 1 (.val 2 (.val 3 (.val 4 (.two 5 6 (.one 6 (.one 7 .done)) (.one 5 (.one 7 .done)))))))) rfl (by kernel_rfl) (Keep.drew (Keep.refl _ w4)) ?_
  refine WZ (o:=⟨some 9,_,_,_,_,_⟩) (.pointer (some ⟨p,0,none⟩)) rfl rfl (fun u hu=>Jj (.tmp 0) (.pointer (some ⟨p,0,none⟩)) rfl (by kernel_rfl)) ?_
  simp only [Act.put,sA,sS,sZ]
  refine WZ (o:=⟨some 10,_,_,_,_,_⟩) (.pointer (some ⟨p,0,none⟩)) rfl rfl (fun u hu=>YY (.tmp 9) ⟨p,0,none⟩ rfl (by kernel_rfl)) ?_
  simp only [Act.put,sA,sS,sZ]
  refine WZ (o:=⟨some 11,_,_,_,_,_⟩) (.pointer (some ⟨p,0,none⟩)) rfl rfl (fun u hu=>QV 46 0 0 (.tmp 10) p 0 0 rfl (by kernel_rfl) (by kernel_rfl) rfl) ?_
  simp only [Act.put,sA,sS,sZ]
  refine WZ (o:=⟨some 12,_,_,_,_,_⟩) (.pointer (some ⟨q,0,none⟩)) rfl rfl (fun u hu=>XY 42 _ Tryz.underlying42 (.tmp 11) ⟨p,0,none⟩ (.pointer (some ⟨q,0,none⟩)) rfl (by kernel_rfl) (Keep.cell hu HQ4.out hp)) ?_
  simp only [Act.put,sA,sS,sZ]
  refine WZ (o:=⟨some 13,_,_,_,_,_⟩) (e.free.v) rfl rfl (fun u hu=>xJ 30 _ (.tmp 5) b5 0 e.free.cells rfl (by kernel_rfl) (XW HF4.out hu h5F) Tryz.underlying30 (by rw [Ord.len9];exact JX)) ?_
  simp only [Act.put,sA,sS,sZ]
  refine ⟨?_,?_⟩
  ·skip
   refine t_call (o:=⟨some 14,_,_,_,_,_⟩) 74 #[.pointer (some ⟨q,0,none⟩),e.free.v] rfl rfl (Jq 74 _ [.tmp 12,.tmp 13] _ _ Tryz.func74 (by kernel_rfl) (by kernel_rfl) rfl (by kernel_rfl)) ?_
   refine (badd_any w4.drew Fb q B e.free (HK4.out.kept (Keep.drew (Keep.refl _ w4))) HI.out hno).mono ?_
   rintro r w5 ⟨F2,vf,rfl,hKw5,hFw5,hOw5,hGw5,hkw5⟩
   rw [HX.out] at hKw5 hFw5 ⊢
   have HSSw5:Keep Fb w4 w5:=Keep.undrew hkw5
   refine ⟨_,rfl,HSSw5,?_⟩
   simp only [Act.put,sA,sS,sZ]
   refine t_new (o:=⟨some 6,_,_,_,_,_⟩) (.pointer (some ⟨w5.heap.size,0,none⟩)) (w5.alloc (.cells (Xq.cells (.slice none 0 0)).toArray 58)) rfl rfl (QW 58 (Xq.cells (.slice none 0 0)) rfl zC) ?_ ?_
   ·exact (HSSw5).alloc _
   have hN:=Blk.new w5 58 (Xq.cells (.slice none 0 0))
   have kN:Kept w5 (w5.alloc (.cells (Xq.cells (.slice none 0 0)).toArray 58)):=(Keep.refl _ w5).alloc _
   have zN:w5.heap.size<(w5.alloc (.cells (Xq.cells (.slice none 0 0)).toArray 58)).heap.size:=hN.lt
   generalize w5.alloc (.cells (Xq.cells (.slice none 0 0)).toArray 58)=w5b at hN kN zN ⊢
   simp only [Act.put,sA,sS,sZ]
   refine t_setS (o:=⟨none,_,_,_,_,_⟩) 58 w5.heap.size 58 (Xq.cells (.slice none 0 0)) (x.cells vf) (.tmp 6) (.tmp 14) rfl rfl rfl (by kernel_rfl) (by kernel_rfl) (hN) (by rw [Oc.len15];exact szC) (by rw [Oc.len15,Oc.len15]) (Oc.one _ _ (Yq hFw5)) ?_
   intro w6 hC6 hk6
   have K6:Keep (·=w5.heap.size) w5 w6:=Keep.any kN hk6
   have zz:=HSSw5.size
   have hF5:=hKw5.lt
   have K46:Keep Fb w4 w6:=HSSw5.new K6 zz
   refine ⟨K46,t_done ?_⟩
   simp only [Act.put]
   refine Kx ?_
   go_wp2
   go_meet
   case rel=>exact ⟨w5.heap.size,F2,vf,rfl,zz,hC6,hKw5.keep K6 (fun b hb e=>by have:=hF5 b hb;omega),fun h=>by have:=hF5 _ h;omega,hFw5.keep K6 (fun b hb e=>by have:=hFw5.lt hb;omega),fun b hb=>⟨(hOw5 b hb).1,(hOw5 b hb).2,fun e=>by have:=hFw5.lt hb;omega⟩,hGw5,K46⟩
  skip
  have HSSw4:Keep Fb w4 w4.drew:=Keep.drew (Keep.refl _ w4)
  refine t_new (o:=⟨some 6,_,_,_,_,_⟩) (.pointer (some ⟨w4.drew.heap.size,0,none⟩)) (w4.drew.alloc (.cells (Xq.cells (.slice none 0 0)).toArray 58)) rfl rfl (QW 58 (Xq.cells (.slice none 0 0)) rfl zC) ?_ ?_
  ·exact (HSSw4).alloc _
  have hN:=Blk.new w4.drew 58 (Xq.cells (.slice none 0 0))
  have kN:Kept w4.drew (w4.drew.alloc (.cells (Xq.cells (.slice none 0 0)).toArray 58)):=(Keep.refl _ w4.drew).alloc _
  have zN:w4.drew.heap.size<(w4.drew.alloc (.cells (Xq.cells (.slice none 0 0)).toArray 58)).heap.size:=hN.lt
  generalize w4.drew.alloc (.cells (Xq.cells (.slice none 0 0)).toArray 58)=w4b at hN kN zN ⊢
  simp only [Act.put,sA,sS,sZ]
  refine t_call (o:=⟨some 14,_,_,_,_,_⟩) 74 #[.pointer (some ⟨q,0,none⟩),e.free.v] rfl rfl (Jq 74 _ [.tmp 12,.tmp 13] _ _ Tryz.func74 (by kernel_rfl) (by kernel_rfl) rfl (by kernel_rfl)) ?_
  refine (badd_any w4b Fb q B e.free (HK4.out.kept (Kept.trans (Keep.drew (Keep.refl _ w4)) kN)) HI.out hno).mono ?_
  rintro r w5 ⟨F2,vf,rfl,hKw5,hFw5,hOw5,hGw5,hkw5⟩
  rw [HX.out] at hKw5 hFw5 ⊢
  have k44:Kept w4 w4b:=Kept.trans (Keep.drew (Keep.refl _ w4)) kN
  have HSSw5:Keep Fb w4 w5:=Keep.any k44 hkw5
  have hnF:¬ Fb w4.drew.heap.size:=fun h=>by have:=hFl _ h;have:w4.drew.heap.size=w4.heap.size:=rfl;omega
  have hN5:=hN.keep hkw5 hnF
  have hd:w4.drew.heap.size=w4.heap.size:=rfl
  refine ⟨_,rfl,HSSw5,?_⟩
  simp only [Act.put,sA,sS,sZ]
  refine t_setS (o:=⟨none,_,_,_,_,_⟩) 58 w4.drew.heap.size 58 (Xq.cells (.slice none 0 0)) (x.cells vf) (.tmp 6) (.tmp 14) rfl rfl rfl (by kernel_rfl) (by kernel_rfl) (hN5) (by rw [Oc.len15];exact szC) (by rw [Oc.len15,Oc.len15]) (Oc.one _ _ (Yq hFw5)) ?_
  intro w6 hC6 hk6
  have hF2:¬ F2 w4.drew.heap.size:=fun h=>(hGw5 _ h).elim hnF (fun h=>by omega)
  have zz:=HSSw5.size
  have K46:Keep Fb w4 w6:=HSSw5.new hk6 (by omega)
  refine ⟨K46,t_done ?_⟩
  simp only [Act.put]
  refine Kx ?_
  go_wp2
  go_meet
  case rel=>exact ⟨w4.drew.heap.size,F2,vf,rfl,by omega,hC6,hKw5.keep hk6 (fun b hb e=>hF2 (by rw [← e];exact hb)),hF2,hFw5.keep hk6 (fun b hb e=>by have:=(hOw5 b hb).1;omega),fun b hb=>⟨by have:=(hOw5 b hb).1;omega,(hOw5 b hb).2,fun e=>by have:=(hOw5 b hb).1;omega⟩,fun b hb=>(hGw5 b hb).imp id (fun h=>by omega),K46⟩
 obtain ⟨b6,F2,vf,rfl,hb6,hC,hK,hn6,hS,hO,hG,hk⟩:=hcut
 have HCx:=Kj hC
 have HKx:=Kj hK
 have HSx:=Kj hS
 have HOx:=Kj hO
 have h4F2:¬ F2 b4:=fun h=>(hG b4 h).elim h4F (fun h=>by omega)
 have HOo:=Kj (XW HO4.out hk h3F)
 have HB4x:=Kj (HB44.out.keep hk h4F)
 have zx:=hk.size
 have HG:Hid (Grow w Fb F2):=hG.wide hsz4
 have KX:Keep Fb w wc:=Keep.any K4 hk
 clear hC hK hS hO hG hk HO4 HB44 HF4 HQ4 HK4
 go_upto_region 4 with fail
 refine wEp 2 [e.v,pV b6 0] [15,16] ?_ ?_
 ·refine sE 1 3 b3 0 e.cells Tryz.underlying30 (fun u hk=>JJ HOo.out hk) (by rw [e.len9];exact JX) ?_
  refine fE 2 6 58 0 0 0 ?_
  exact fz
 intro wd kd
 simp only [F8]
 refine l_setO b6 58 e (x.cells vf) _ _ rfl rfl (by kernel_rfl) (by kernel_rfl) (HCx.out.kept kd) (by rw [Oc.len15];omega) ?_
 intro we hCe hke
 simp only [Act.put]
 refine Kx ?_
 have hCe':Blk we b6 58 (({ x with o:=e }:Oc).cells vf):=by
  have:(x.cells vf).drop 9=(({ x with o:=e }:Oc).cells vf).drop 9:=by
   unfold Oc.cells
   rw [List.drop_append_of_le_length (by rw [Ord.len9];omega),List.drop_append_of_le_length (by rw [Ord.len9];omega),List.drop_of_length_le (by rw [Ord.len9];omega),List.drop_of_length_le (by rw [Ord.len9];omega)]
  rw [this] at hCe
  have h2:e.cells++(({ x with o:=e }:Oc).cells vf).drop 9=({ x with o:=e }:Oc).cells vf:=by
   unfold Oc.cells
   rw [List.drop_append_of_le_length (by rw [Ord.len9];omega),List.drop_of_length_le (by rw [Ord.len9];omega)]
   rfl
  rw [h2] at hCe
  exact hCe
 have HCE:=Kj hCe'
 have k6e:Keep (·=b6) wc we:=Keep.any kd hke
 have HKe:=Kj (HKx.out.keep k6e (fun b hb e=>hn6 (by rw [← e];exact hb)))
 have HSe:=Kj (HSx.out.keep k6e (fun b hb e=>(HOx.out b hb).2.2 e))
 have HB4e:=Kj (HB4x.out.keep k6e (fun e=>by omega))
 have KE:Keep Fb w we:=KX.new k6e (by omega)
 have z6e:=k6e.size
 clear hCe hCe' hke kd HCx HKx HSx HB4x HOo KX k6e
 go_upto_region 5 with fail
 refine wEp 1 [({ x with o:=e }:Oc).v vf] [17] ?_ ?_
 ·refine sE 1 6 b6 0 (({ x with o:=e }:Oc).cells vf) Tryz.underlying58 (fun u hk=>JW (HCE.out.kept hk)) (by rw [Oc.len15];exact szC) ?_
  exact fz
 intro wf kf
 simp only [F8]
 refine Qj 58 b4 58 (Xq.cells (.slice none 0 0)) (({ x with o:=e }:Oc).cells vf) _ _ rfl rfl (by kernel_rfl) (by kernel_rfl) (HB4e.out.kept kf) (by rw [Oc.len15];exact szC) (by rw [Oc.len15,Oc.len15]) (Oc.one _ _ (Yq HSe.out)) ?_
 intro wg hCwg hkwg hswg
 simp only [Act.put]
 refine Kx ?_
 go_wp2
 refine bodyPost_ret (XZ (p:=4) rfl _ _ b4 _ (({ x with o:=e }:Oc).cells vf) rfl hCwg Tryz.underlying58 (by rw [Oc.len15];exact szC)) rfl ?_
 rw [HY.out]
 exact ⟨F2,vf,rfl,(HKe.out.kept kf).keep hkwg (fun b hb e=>h4F2 (by rw [← e];exact hb)),(HSe.out.kept kf).keep hkwg (fun b hb e=>by have:=(HOx.out b hb).1;omega),fun b hb=>⟨by have:=(HOx.out b hb).1;omega,(HOx.out b hb).2.1⟩,HG.out,(KE.kept kf).new hkwg (by omega)⟩
theorem exec_three1 {a:Act} {o:Oper} {u:World} {t T:TypeId} {bytes:Nat} (ht:SlT t T 1 bytes) (x y s:Operand) (v1 v2 v3:Value) (hop:o.op=.buildSlice t 3 #[(0,x),(1,y),(2,s)]) (hx:a.eval x=v1) (hy:a.eval y=v2) (hs:a.eval s=v3) (h1:v1.cells=#[v1]) (h2:v2.cells=#[v2]) (h3:v3.cells=#[v3]) :
  (execOp a.eval o).run Tryz.prog u=.ok (.value (.slice (some ⟨u.heap.size,0,none⟩) 3 3)) (u.alloc (.cells [v1,v2,v3].toArray T)):=by
 obtain ⟨z,hz,hz2,_⟩:=ht.info
 obtain ⟨i0,hi,hz0,hz1,hzb⟩:=info_parts hz
 unfold execOp
 simp only [hop,List.map_toArray,List.map_cons,List.map_nil,hx,hy,hs]
 have e:Array.map (fun x=>z.cells[x % z.cells.size]!) (Array.range (3*1))=#[z.cells[0 % z.cells.size]!,z.cells[1 % z.cells.size]!,z.cells[2 % z.cells.size]!]:=by
  apply Array.toList_inj.1
  simp [List.range_succ]
 have hr:=run_buildSlice (P:=Tryz.prog) u t T 3 #[(0,v1),(1,v2),(2,v3)] [v1,v2,v3].toArray i0 z ht.und hi hz0 (by rw [hz1];omega) (by rw [hz1];omega) (by
  rw [hz1]
  simp only [Instr.fill,h1,h2,h3,e]
  simp)
 simp only [Sem.run_bind,hr,Result.andThen_ok]
 rfl
def Cat3 (w:World) (g:Nat) (X Y W:List Ord):Prop:=∃ v1 v2 v3,Blk w g 44 [v1,v2,v3]∧Sl w 30 9 v1 X.length (ords X)∧Sl w 30 9 v2 Y.length (ords Y)∧Sl w 30 9 v3 W.length (ords W)
theorem Cat3.kept {w w':World} {g:Nat} {X Y W:List Ord} (h:Cat3 w g X Y W) (hk:Kept w w'):Cat3 w' g X Y W:=by
 obtain ⟨v1,v2,v3,h1,h2,h3,h4⟩:=h
 exact ⟨v1,v2,v3,h1.kept hk,h2.kept hk,h3.kept hk,h4.kept hk⟩
def Kn.cat3 (base:Nat) (X Y W:List Ord):Kn:=⟨fun v w=>∃ g,v=.slice (some ⟨g,0,none⟩) 3 3∧base≤g∧Cat3 w g X Y W,fun _ _ _ ⟨g,h1,h2,h3⟩ hk=>⟨g,h1,h2,h3.kept hk⟩⟩
def cat3P (X Y W:List Ord) (i:Nat):List Ord:=if i=0 then [] else if i=1 then X else if i=2 then X++Y else (X++Y)++W
def cat3E (X Y W:List Ord) (i:Nat):List Ord:=if i=0 then X else if i=1 then Y else W
theorem concat3_any (w:World) (g:Nat) (X Y W:List Ord) (h:Cat3 w g X Y W) (hn:X.length+Y.length+W.length≤1000000):Gives 62 #[.slice (some ⟨g,0,none⟩) 3 3] w (.sl w.heap.size 30 9 ((X++Y)++W).length (ords ((X++Y)++W))):=by
 obtain ⟨v1,v2,v3,hB,h1,h2,h3⟩:=h
 exact concatE_any w g 3 (cat3E X Y W) (cat3P X Y W) (fun i hi=>by
  rcases (by omega:i=0∨i=1∨i=2) with rfl | rfl | rfl
  ·exact ⟨v1,hB.cell 0,h1⟩
  ·exact ⟨v2,hB.cell 1,h2⟩
  ·exact ⟨v3,hB.cell 2,h3⟩) rfl (fun i hi=>by rcases (by omega:i=0∨i=1∨i=2) with rfl | rfl | rfl <;> rfl) (fun i _=>by
  unfold cat3P
  repeat' split
  all_goals (try simp only [List.length_append,List.length_nil])
  all_goals omega) (by omega)
theorem mall_any (w:World) (F:Nat→Prop) (p:Nat) (Mm:Mkt) (h:Mk w F p Mm) (hI:Inv Mm.b) (hlen:Mm.w.length≤100000):Gives 36 #[.pointer (some ⟨p,0,none⟩)] w (.sl w.heap.size 30 9 Mm.all.length (ords Mm.all)):=by
 obtain ⟨_,q,v,Fb,hP,_⟩:=h
 have HQ:Hid (w.cell? ⟨p,0,none⟩=some (.pointer (some ⟨q,0,none⟩))):=hP.blk.cell 0
 have HV:Hid (w.cell? ⟨p,1,none⟩=some v):=hP.blk.cell 1
 have HS:=Kj hP.sl
 have HK:=Kj hP.bk
 have HI:=Kj hI
 have hl1:(Yy Mm.b.buys).length≤64:=by rw [qY];exact hI.two.mine.few
 have hl2:(Yy Mm.b.sells).length≤64:=by rw [qY];exact hI.two.theirs.few
 have HLN:=Kj (And.intro hl1 hl2)
 clear hP hI hl1 hl2
 go_enter Tryz.func36,Tryz.ntmps36
 go_upto_region 1 with fail
 refine qW 16 [pE p 0,pE p 0,pE p 0,pE q 0,.sl w.heap.size 30 9 (Yy (Mm.b.sd 1)).length (ords (Yy (Mm.b.sd 1))),pE p 0,pE p 0,pE p 0,pE q 0,.sl w.heap.size 30 9 (Yy (Mm.b.sd 2)).length (ords (Yy (Mm.b.sd 2))),pE p 0,pE p 0,pE p 1,.eq (v),.cat3 w.heap.size (Yy Mm.b.buys) (Yy Mm.b.sells) Mm.w,.sl w.heap.size 30 9 Mm.all.length (ords Mm.all)] (by kernel_rfl) rfl (by kernel_rfl) ?_ ?_
 ·refine mE 1 0 ?_
  refine nD 2 3 0 ?_
  refine fD 3 4 1 46 0 0 0 ?_
  refine sW 4 rfl (fun a u E D hk=>XY _ _ Tryz.underlying42 _ _ _ rfl (dD D 2) (Kept.cell hk (HQ.out))) ?_
  refine cS 5 64 [.pointer (some ⟨q,0,none⟩),.int .i64 1] rfl Tryz.func64 rfl (fun a u E D hk=>⟨ll (dD D 3) (ll rfl rfl),(borders_any u Fb q Mm.b 1 (HK.out.kept hk) HI.out).base hk.size⟩) ?_
  refine mE 6 0 ?_
  refine nD 7 8 5 ?_
  refine fD 8 9 6 46 0 0 0 ?_
  refine sW 9 rfl (fun a u E D hk=>XY _ _ Tryz.underlying42 _ _ _ rfl (dD D 7) (Kept.cell hk (HQ.out))) ?_
  refine cS 10 64 [.pointer (some ⟨q,0,none⟩),.int .i64 2] rfl Tryz.func64 rfl (fun a u E D hk=>⟨ll (dD D 8) (ll rfl rfl),(borders_any u Fb q Mm.b 2 (HK.out.kept hk) HI.out).base hk.size⟩) ?_
  refine mE 11 0 ?_
  refine nD 12 13 10 ?_
  refine fD 13 14 11 46 1 1 0 ?_
  refine sW 14 rfl (fun a u E D hk=>Jy _ _ Tryz.underlying44 _ _ _ rfl (dD D 12) (Kept.cell hk (HV.out))) ?_
  refine nW 15 rfl (fun a u E D hk=>⟨_,_,exec_three1 slOO _ _ _ _ _ v rfl rfl rfl (dD D 13) (VV (D 4 7 (by kernel_rfl)).1) (VV (D 9 12 (by kernel_rfl)).1) (VV HS.out),⟨u.heap.size,rfl,hk.size,_,_,_,Blk.new u _ _,(D 4 7 (by kernel_rfl)).1.kept ((Keep.refl _ u).alloc _),(D 9 12 (by kernel_rfl)).1.kept ((Keep.refl _ u).alloc _),(HS.out.kept hk).kept ((Keep.refl _ u).alloc _)⟩,((Keep.refl _ u).alloc _)⟩) ?_
  refine QY 16 rfl (fun a u hE hD hk=>VJ 62 #[a.eval (.tmp 17)] rfl (JZ rfl _) (Jq 62 _ [.tmp 17] _ [a.eval (.tmp 17)] Tryz.func62 (by kernel_rfl) (by kernel_rfl) rfl rfl u) ((by obtain ⟨gg,hx,hgb,hcat⟩:=(hD 14 17 (by kernel_rfl));have hd:=xy (concat3_any u gg _ _ _ hcat (by have:=HLN.out;omega)) hk.size;rw [hx];exact hd))) ?_
  exact fz
 intro gv w1 hV k1
 rw [dq 16 [3,4,5,6,7,8,9,10,11,12,13,14,15,16,17,18]]
 simp only [Fz7]
 have hv18:(.sl w.heap.size 30 9 Mm.all.length (ords Mm.all):Kn).p (gv 18) w1:=hV 15 18 (by kernel_rfl)
 generalize gv 18=v18 at hv18 ⊢
 clear hV
 refine Jx (v18) rfl (JQ _ _ rfl (by kernel_rfl)) ?_
 simp only [Act.put,sA,sS,sZ]
 refine Kx ?_
 go_wp2
 go_ret
 exact ⟨_,rfl,hv18,k1⟩
theorem mfind_any (w:World) (F:Nat→Prop) (p:Nat) (Mm:Mkt) (t i:Int) (h:Mk w F p Mm) (hI:Inv Mm.b) (hlen:Mm.w.length≤100000):Gives 12 #[.pointer (some ⟨p,0,none⟩),.int .i64 t,.int .i64 i] w (.eq (.tuple #[(Mm.find t i).1.v,.bool (Mm.find t i).2])):=by
 refine XJ ?_
 obtain ⟨_,q,v,Fb,hP,_⟩:=h
 have HQ:Hid (∀ u,Kept w u→u.cell? ⟨p,0,none⟩=some (.pointer (some ⟨q,0,none⟩))):=fun u k=>(hP.blk.kept k).cell 0
 have HV:Hid (∀ u,Kept w u→u.cell? ⟨p,1,none⟩=some v):=fun u k=>(hP.blk.kept k).cell 1
 have HPB:=Kj hP.blk
 have HS:=Kj hP.sl
 have HK:=Kj hP.bk
 have HI:=Kj hI
 obtain ⟨x,b,hx⟩:∃ x b,Mm.b.find t i=(x,b):=⟨_,_,rfl⟩
 have HX:=Kj hx
 clear hP hI hx
 go_enter Tryz.func12,Tryz.ntmps12
 go_upto_region 0 with fail
 refine QZ 2 [.fresh w.heap.size 30 JV.cells,bE false] rfl (by kernel_rfl) ?_ ?_
 ·refine nW 1 rfl (fun a u E D hk=>⟨_,_,QW 30 JV.cells rfl zO,⟨_,rfl,hk.size,Blk.new u _ _⟩,((Keep.refl _ u).alloc _)⟩) ?_
  refine sW 2 rfl (fun a u E D hk=>JQ _ _ rfl rfl) ?_
  exact fz
 intro gv w0 hV k0
 rw [dq 2 [6,7]]
 simp only [Fz7]
 have hv6:(.fresh w.heap.size 30 JV.cells:Kn).p (gv 6) w0:=hV 0 6 (by kernel_rfl)
 generalize gv 6=v6 at hv6 ⊢
 rw [gQ hV 1 7 (.bool false)]
 clear hV
 obtain ⟨b6,rfl,hb6,hB6⟩:=hv6
 refine Kx ?_
 have HB6:=Kj hB6
 have l6:=hB6.lt
 have z0:=k0.size
 have HQ0:=Kj (HQ.out w0 k0)
 clear hB6
 go_upto_region 1 with fail
 refine wEp 10 [pV p 0,pV p 0,pV p 0,pV q 0,iV t,iV i,.tuple #[x.v,.bool b],.tuple #[x.v,.bool b],x.v,bV b] [12,13,14,15,16,17,18,11,19,20] ?_ ?_
 ·refine mE 1 0 ?_
  refine nD 2 12 0 ?_
  refine fD 3 13 1 46 0 0 0 ?_
  refine sW 4 rfl (fun a u E D hk=>XY _ _ Tryz.underlying42 _ _ _ rfl (dD D 2) (Kept.cell hk (HQ0.out))) ?_
  refine mE 5 1 ?_
  refine mE 6 2 ?_
  refine cS 7 33 [.pointer (some ⟨q,0,none⟩),.int .i64 t,.int .i64 i] rfl Tryz.func33 rfl (fun a u E D hk=>⟨ll (dD D 3) (ll (dD D 4) (ll (dD D 5) rfl)),(by have h:=bfind_any u Fb q Mm.b t i (HK.out.kept (k0.trans hk)) HI.out;rw [HX.out] at h;exact h)⟩) ?_
  refine mD 8 18 6 ?_
  refine sW 9 rfl (fun a u E D hk=>QU _ [x.v,.bool b] 0 (x.v) rfl (dD D 7) rfl) ?_
  refine sW 10 rfl (fun a u E D hk=>QU _ [x.v,.bool b] 1 (.bool b) rfl (dD D 7) rfl) ?_
  exact fz
 intro w1 k1
 simp only [F8]
 refine ZW (.pointer (some ⟨w1.heap.size,0,none⟩)) (w1.alloc (.cells JV.cells.toArray 30)) rfl (QW 30 JV.cells rfl zO) ?_
 have hNw2:=Blk.new w1 30 JV.cells
 have kw2:Kept w1 (w1.alloc (.cells JV.cells.toArray 30)):=(Keep.refl _ w1).alloc _
 generalize w1.alloc (.cells JV.cells.toArray 30)=w2 at hNw2 kw2 ⊢
 simp only [Act.put,sA,sS,sZ]
 refine Qj 30 w1.heap.size 30 JV.cells x.cells _ _ rfl rfl (by kernel_rfl) (by kernel_rfl) (hNw2) (by rw [Ord.len9];exact JX) (by rw [Ord.len9,Ord.len9]) (Ord.one1 _) ?_
 intro w3 hCw3 hkw3 hsw3
 simp only [Act.put]
 refine Jx (.bool b) rfl (JQ _ _ rfl (by kernel_rfl)) ?_
 simp only [Act.put,sA,sS,sZ]
 refine Kx ?_
 obtain ⟨b8,h8⟩:∃ a,w1.heap.size=a:=⟨_,rfl⟩
 rw [h8] at hNw2 hCw3 hkw3 ⊢
 have z1:=k1.size
 have k13:Kept w0 w3:=(k1.trans kw2).trans' hkw3 (by omega)
 have K3:Kept w w3:=k0.trans k13
 have z3:=k13.size
 have HX8:=Kj (JW hCw3)
 have HB63:=Kj (HB6.out.kept k13)
 clear hNw2 hCw3 hkw3 hsw3 kw2 k1 k13 HB6 HQ0
 cases b with
 | true=>
  have HR:Hid (Mm.find t i=(x,true)):=by show _=_;unfold Mkt.find;rw [HX.out];rfl
  go_upto_region 3 with fail
  refine wEp 1 [x.v] [22] ?_ ?_
  ·refine sE 1 8 b8 0 x.cells Tryz.underlying30 (fun u hk=>JJ HX8.out hk) (by rw [x.len9];exact JX) ?_
   exact fz
  intro w4 k4
  simp only [F8]
  refine Qj 30 b6 30 JV.cells x.cells _ _ rfl rfl (by kernel_rfl) (by kernel_rfl) (HB63.out.kept k4) (by rw [Ord.len9];exact JX) (by rw [Ord.len9,Ord.len9]) (Ord.one1 _) ?_
  intro w5 hCw5 hkw5 hsw5
  simp only [Act.put]
  refine Jx (.bool true) rfl (JQ _ _ rfl (by kernel_rfl)) ?_
  simp only [Act.put,sA,sS,sZ]
  refine Kx ?_
  go_wp2
  refine bodyPost_ret (XU (p:=6) (q:=7) rfl _ _ b6 _ x.cells true rfl rfl hCw5 Tryz.underlying30 (by rw [Ord.len9];exact JX)) rfl ?_
  rw [HR.out]
  exact ⟨rfl,(K3.trans k4).trans' hkw5 (by omega)⟩
 | false=>
  have HR:Hid (Mm.find t i=findO t i Mm.w):=by show _=_;unfold Mkt.find;rw [HX.out];rfl
  obtain ⟨j,hj⟩:∃ j,WU (Ord.is t i) Mm.w=j:=⟨_,rfl⟩
  have HJ:=Kj hj
  go_upto_region 4 with fail
  refine wE 5 [pV p 0,iV t,iV i,iV j,iV j] [23,24,25,26,10] ?_ ?_
  ·refine mE 1 0 ?_
   refine mE 2 1 ?_
   refine mE 3 2 ?_
   refine cS 4 30 [.pointer (some ⟨p,0,none⟩),.int .i64 t,.int .i64 i] rfl Tryz.func30 rfl (fun a u E D hk=>⟨ll (dD D 0) (ll (dD D 1) (ll (dD D 2) rfl)),(by rw [← HJ.out];exact placeO_any u p q v Mm.w t i (HPB.out.kept (K3.trans hk)) (HS.out.kept (K3.trans hk)) hlen)⟩) ?_
   refine mD 5 26 3 ?_
   exact fz
  intro w4 k4
  simp only [F8]
  have K4:=K3.trans k4
  have HB64:=Kj (HB63.out.kept k4)
  have z4:=k4.size
  clear HB63 HX8 k4
  cases hw:Mm.w[Mm.w.findIdx (Ord.is t i)]? with
  | none=>
   have hj1:j=-1:=by rw [← hj];exact xU hw
   have HE:Hid (findO t i Mm.w=(JV,false)):=by show _=_;unfold findO;rw [hw]
   subst hj1
   clear hj hw
   go_upto_region 5 with fail
   refine wE 2 [iV (-1),bV false] [27,28] ?_ ?_
   ·refine mE 1 10 ?_
    refine aS 2 rfl (fun a u E D hk=>WV rfl (dD D 0) rfl) (by decide) ?_
    exact fz
   intro w5 k5
   simp only [F8]
   have HB65:=Kj (HB64.out.kept k5)
   have z5:=k5.size
   go_upto_region 7 with fail
   refine wEp 1 [JV.v] [36] ?_ ?_
   ·refine sW 1 rfl (fun a u E D hk=>YJ 30 [] JV.cells rfl (by kernel_rfl)) ?_
    exact fz
   intro w6 k6
   simp only [F8]
   refine Qj 30 b6 30 JV.cells JV.cells _ _ rfl rfl (by kernel_rfl) (by kernel_rfl) (HB65.out.kept k6) (by rw [Ord.len9];exact JX) rfl (Ord.one1 _) ?_
   intro w7 hCw7 hkw7 hsw7
   simp only [Act.put]
   refine Jx (.bool false) rfl (JQ _ _ rfl (by kernel_rfl)) ?_
   simp only [Act.put,sA,sS,sZ]
   refine Kx ?_
   go_wp2
   refine bodyPost_ret (XU (p:=6) (q:=7) rfl _ _ b6 _ JV.cells false rfl rfl hCw7 Tryz.underlying30 (by rw [Ord.len9];exact JX)) rfl ?_
   rw [HR.out,HE.out]
   exact ⟨rfl,((K4.trans k5).trans k6).trans' hkw7 (by omega)⟩
  | some e=>
   have hj1:j=(Mm.w.findIdx (Ord.is t i):Int):=by rw [← hj];exact xq hw
   have HE:Hid (findO t i Mm.w=(e,true)):=by show _=_;unfold findO;rw [hw]
   obtain ⟨n,hn⟩:∃ n,Mm.w.length=n:=⟨_,rfl⟩
   obtain ⟨k,hk⟩:∃ k,Mm.w.findIdx (Ord.is t i)=k:=⟨_,rfl⟩
   rw [hk] at hj1 hw
   have hkn:k<n:=by rw [← hn];exact (List.getElem?_eq_some_iff.1 hw).1
   subst hj1
   rw [hn] at HS
   obtain ⟨g,off,c,rfl⟩:=HS.out.some_ (by omega)
   have HEr:Hid (∀ u,Kept w u→u.rangeAt g (off+k*9) e.cells):=fun u ku=>JJ (HS.out.rngO k e hw) ku
   clear hj hw hk hn
   go_upto_region 5 with fail
   refine wE 2 [iV (k:Int),bV true] [27,28] ?_ ?_
   ·refine mE 1 10 ?_
    refine aS 2 rfl (fun a u E D hk=>WV rfl (dD D 0) rfl) (Ky (by omega)) ?_
    exact fz
   intro w5 k5
   simp only [F8]
   have HB65:=Kj (HB64.out.kept k5)
   have z5:=k5.size
   have K5:=K4.trans k5
   have HV5:=Kj (HV.out w5 K5)
   have HE5:=Kj (HEr.out w5 K5)
   go_upto_region 6 with fail
   refine wEp 7 [pV p 0,pV p 0,pV p 1,.slice (some ⟨g,off,none⟩) n c,iV (k:Int),pV g (off+k*9),e.v] [29,30,31,32,33,34,35] ?_ ?_
   ·refine mE 1 0 ?_
    refine nD 2 29 0 ?_
    refine fD 3 30 1 46 1 1 0 ?_
    refine sW 4 rfl (fun a u E D hk=>Jy _ _ Tryz.underlying44 _ _ _ rfl (dD D 2) (Kept.cell hk (HV5.out))) ?_
    refine mE 5 10 ?_
    refine sW 6 rfl (fun a u E D hk=>Jz slO _ _ (g) (off) n c k (off+k*9) ((k:Int)) rfl (dD D 3) (dD D 4) (by first | rfl | omega) (hkn) (by first | rfl | omega)) ?_
    refine sD 7 34 5 e.cells Tryz.underlying30 (fun u hk=>JJ HE5.out hk) (by rw [e.len9];exact JX) ?_
    exact fz
   intro w6 k6
   simp only [F8]
   refine Qj 30 b6 30 JV.cells e.cells _ _ rfl rfl (by kernel_rfl) (by kernel_rfl) (HB65.out.kept k6) (by rw [Ord.len9];exact JX) (by rw [Ord.len9,Ord.len9]) (Ord.one1 _) ?_
   intro w7 hCw7 hkw7 hsw7
   simp only [Act.put]
   refine Jx (.bool true) rfl (JQ _ _ rfl (by kernel_rfl)) ?_
   simp only [Act.put,sA,sS,sZ]
   refine Kx ?_
   go_wp2
   refine bodyPost_ret (XU (p:=6) (q:=7) rfl _ _ b6 _ e.cells true rfl rfl hCw7 Tryz.underlying30 (by rw [Ord.len9];exact JX)) rfl ?_
   rw [HR.out,HE.out]
   exact ⟨rfl,(K5.trans k6).trans' hkw7 (by omega)⟩
theorem remove_off {B:Bok} {t i:Int} (h:(B.remove t i).2.1=false):(B.remove t i).2.2=B:=by
 unfold Bok.remove at h ⊢
 split
 ·rename_i h1
  rw [if_pos h1] at h
  cases h
 rename_i h1
 rw [if_neg h1] at h
 split
 ·rename_i h2
  rw [if_pos h2] at h
  cases h
 rfl
theorem mremove_any (w:World) (F:Nat→Prop) (p:Nat) (Mm:Mkt) (t i:Int) (h:Mk w F p Mm) (hI:Inv Mm.b) (hlen:Mm.w.length≤100000):Calls Tryz.prog 10 #[.pointer (some ⟨p,0,none⟩),.int .i64 t,.int .i64 i] w fun r w'=>∃ F',r=.returned (.tuple #[(Mm.remove t i).1.v,.bool (Mm.remove t i).2.1])∧Mk w' F' p (Mm.remove t i).2.2∧Grow w F F'∧Keep F w w':=by
 obtain ⟨hFl,q,v,Fb,hP,hfF⟩:=h
 have hft:=hP.foot_lt
 have HPP:=Kj hP
 have HQ:Hid (∀ u,Kept w u→u.cell? ⟨p,0,none⟩=some (.pointer (some ⟨q,0,none⟩))):=fun u k=>(hP.blk.kept k).cell 0
 have HI:=Kj hI
 have HFF:=Kj hfF
 obtain ⟨x,b,B2,hx⟩:∃ x b B2,Mm.b.remove t i=(x,b,B2):=⟨_,_,_,rfl⟩
 have HX:=Kj hx
 have hpl:=hP.blk.lt
 have hFbl:=hP.bk.lt
 clear hP hI hx
 go_enter Tryz.func10,Tryz.ntmps10
 go_upto_region 0 with fail
 refine QZ 2 [.fresh w.heap.size 30 JV.cells,bE false] rfl (by kernel_rfl) ?_ ?_
 ·refine nW 1 rfl (fun a u E D hk=>⟨_,_,QW 30 JV.cells rfl zO,⟨_,rfl,hk.size,Blk.new u _ _⟩,((Keep.refl _ u).alloc _)⟩) ?_
  refine sW 2 rfl (fun a u E D hk=>JQ _ _ rfl rfl) ?_
  exact fz
 intro gv w0 hV k0
 rw [dq 2 [6,7]]
 simp only [Fz7]
 have hv6:(.fresh w.heap.size 30 JV.cells:Kn).p (gv 6) w0:=hV 0 6 (by kernel_rfl)
 generalize gv 6=v6 at hv6 ⊢
 rw [gQ hV 1 7 (.bool false)]
 clear hV
 obtain ⟨b6,rfl,hb6,hB6⟩:=hv6
 refine Kx ?_
 have HB6:=Kj hB6
 have l6:=hB6.lt
 have z0:=k0.size
 have HQ0:=Kj (HQ.out w0 k0)
 have h6F:¬ Fb b6:=fun h=>by have:=hFbl b6 h;omega
 clear hB6
 go_upto_region 1 with fail
 refine wEp 6 [pV p 0,pV p 0,pV p 0,pV q 0,iV t,iV i] [12,13,14,15,16,17] ?_ ?_
 ·refine mE 1 0 ?_
  refine nD 2 12 0 ?_
  refine fD 3 13 1 46 0 0 0 ?_
  refine sW 4 rfl (fun a u E D hk=>XY _ _ Tryz.underlying42 _ _ _ rfl (dD D 2) (Kept.cell hk (HQ0.out))) ?_
  refine mE 5 1 ?_
  refine mE 6 2 ?_
  exact fz
 intro w1 k1
 simp only [F8]
 refine Yz 29 #[.pointer (some ⟨q,0,none⟩),.int .i64 t,.int .i64 i] rfl (Jq 29 _ [.tmp 15,.tmp 16,.tmp 17] _ _ Tryz.func29 (by kernel_rfl) (by kernel_rfl) rfl (by kernel_rfl) _) ?_
 refine (bremove_any w1 Fb q Mm.b t i (HPP.out.bk.kept (k0.trans k1)) HI.out).mono ?_
 rintro r w2 ⟨F2,rfl,hK2,hG2,hk2⟩
 rw [HX.out] at hK2
 refine ⟨.tuple #[x.v,.bool b],by rw [HX.out],?_⟩
 simp only [Act.put,sA,sS,sZ]
 refine Jx (.tuple #[x.v,.bool b]) rfl (Jj _ _ rfl (by kernel_rfl)) ?_
 simp only [Act.put,sA,sS,sZ]
 refine Jx (x.v) rfl (QU (.tmp 11) [x.v,.bool b] 0 (x.v) rfl (by kernel_rfl) rfl) ?_
 simp only [Act.put,sA,sS,sZ]
 refine Jx (.bool b) rfl (QU (.tmp 11) [x.v,.bool b] 1 (.bool b) rfl (by kernel_rfl) rfl) ?_
 simp only [Act.put,sA,sS,sZ]
 refine ZW (.pointer (some ⟨w2.heap.size,0,none⟩)) (w2.alloc (.cells JV.cells.toArray 30)) rfl (QW 30 JV.cells rfl zO) ?_
 have hNw3:=Blk.new w2 30 JV.cells
 have kw3:Kept w2 (w2.alloc (.cells JV.cells.toArray 30)):=(Keep.refl _ w2).alloc _
 generalize w2.alloc (.cells JV.cells.toArray 30)=w3 at hNw3 kw3 ⊢
 simp only [Act.put,sA,sS,sZ]
 refine Qj 30 w2.heap.size 30 JV.cells x.cells _ _ rfl rfl (by kernel_rfl) (by kernel_rfl) (hNw3) (by rw [Ord.len9];exact JX) (by rw [Ord.len9,Ord.len9]) (Ord.one1 _) ?_
 intro w4 hCw4 hkw4 hsw4
 simp only [Act.put]
 refine Jx (.bool b) rfl (JQ _ _ rfl (by kernel_rfl)) ?_
 simp only [Act.put,sA,sS,sZ]
 refine Kx ?_
 obtain ⟨b8,h8⟩:∃ a,w2.heap.size=a:=⟨_,rfl⟩
 rw [h8] at hNw3 hCw4 hkw4 ⊢
 have z1:=k1.size
 have z2:=hk2.size
 have l8:=hCw4.lt
 have k24:Kept w2 w4:=kw3.trans' hkw4 (by omega)
 have HX8:=Kj (JW hCw4)
 have HB64:=Kj (((HB6.out.kept k1).keep hk2 h6F).kept k24)
 have K4:Keep Fb w w4:=(Keep.any (k0.trans k1) hk2).kept k24
 have HG:Hid (Grow w Fb F2):=hG2.wide (k0.trans k1).size
 have hbl:p≠b6:=by omega
 have HB4:=Kj (HPP.out.blk.keep K4 HPP.out.nb)
 have HS4:=Kj (HPP.out.sl.keep K4 (fun b hb=>(HPP.out.nv b hb).2))
 have HK4:=Kj (hK2.kept k24)
 have z4:=K4.size
 have h6F2:¬ F2 b6:=fun h=>(hG2 b6 h).elim h6F (fun h=>by omega)
 have hpF2:¬ F2 p:=fun h=>(HG.out p h).elim HPP.out.nb (fun h=>by omega)
 have hvF2:Hid (∀ b,v.ownBlock=some b→b≠p∧¬ F2 b):=fun b hb=>⟨(HPP.out.nv b hb).1,fun h=>(HG.out b h).elim (HPP.out.nv b hb).2 (fun h=>by have:=HPP.out.sl.lt hb;omega)⟩
 have hGG:Hid (Grow w F (foot p v F2)):=fun b hb=>by
  rcases hb with hb | hb
  ·exact .inl (HFF.out b (.inl hb))
  exact (HG.out b hb).imp (fun h=>HFF.out b (.inr h)) id
 have hKF:Keep F w w4:=K4.mono (fun b _ hb=>HFF.out b (.inr hb))
 have h6v:∀ b,v.ownBlock=some b→b≠b6:=fun b hb e=>by have:=HPP.out.sl.lt hb;omega
 have H6v:=Kj h6v
 clear hK2 hG2 hk2 hNw3 hCw4 hkw4 hsw4 kw3 k24 HB6 HQ0 k1 h6v
 cases b with
 | true=>
  have HR:Hid (Mm.remove t i=(x,true,⟨B2,Mm.w⟩)):=by show _=_;unfold Mkt.remove;rw [HX.out];rfl
  go_upto_region 3 with fail
  refine wEp 1 [x.v] [22] ?_ ?_
  ·refine sE 1 8 b8 0 x.cells Tryz.underlying30 (fun u hk=>JJ HX8.out hk) (by rw [x.len9];exact JX) ?_
   exact fz
  intro w5 k5
  simp only [F8]
  refine Qj 30 b6 30 JV.cells x.cells _ _ rfl rfl (by kernel_rfl) (by kernel_rfl) (HB64.out.kept k5) (by rw [Ord.len9];exact JX) (by rw [Ord.len9,Ord.len9]) (Ord.one1 _) ?_
  intro w6 hCw6 hkw6 hsw6
  simp only [Act.put]
  refine Jx (.bool true) rfl (JQ _ _ rfl (by kernel_rfl)) ?_
  simp only [Act.put,sA,sS,sZ]
  refine Kx ?_
  go_wp2
  refine bodyPost_ret (XU (p:=6) (q:=7) rfl _ _ b6 _ x.cells true rfl rfl hCw6 Tryz.underlying30 (by rw [Ord.len9];exact JX)) rfl ?_
  rw [HR.out]
  have hP:MkP w6 p q v F2 ⟨B2,Mm.w⟩:=⟨(HB4.out.kept k5).keep hkw6 hbl,(HK4.out.kept k5).keep hkw6 (fun b hb e=>h6F2 (by rw [← e];exact hb)),(HS4.out.kept k5).keep hkw6 (fun b hb=>H6v.out b hb),hpF2,hvF2.out⟩
  have z5:=k5.size
  have KF:Keep F w w6:=(hKF.kept k5).new hkw6 (by omega)
  first | exact ⟨rfl,_,hP.close,hGG.out,KF⟩ | exact ⟨_,rfl,hP.close,hGG.out,KF⟩
 | false=>
  have hB2:B2=Mm.b:=by have:=remove_off (B:=Mm.b) (t:=t) (i:=i) (by rw [HX.out]);rw [HX.out] at this;exact this
  subst hB2
  obtain ⟨j,hj⟩:∃ j,WU (Ord.is t i) Mm.w=j:=⟨_,rfl⟩
  have HJ:=Kj hj
  go_upto_region 4 with fail
  refine wE 5 [pV p 0,iV t,iV i,iV j,iV j] [23,24,25,26,10] ?_ ?_
  ·refine mE 1 0 ?_
   refine mE 2 1 ?_
   refine mE 3 2 ?_
   refine cS 4 30 [.pointer (some ⟨p,0,none⟩),.int .i64 t,.int .i64 i] rfl Tryz.func30 rfl (fun a u E D hk=>⟨ll (dD D 0) (ll (dD D 1) (ll (dD D 2) rfl)),(by rw [← HJ.out];exact placeO_any u p q v Mm.w t i (HB4.out.kept hk) (HS4.out.kept hk) hlen)⟩) ?_
   refine mD 5 26 3 ?_
   exact fz
  intro w5 k5
  simp only [F8]
  have HB5:=Kj (HB4.out.kept k5)
  have HS5:=Kj (HS4.out.kept k5)
  have HK5:=Kj (HK4.out.kept k5)
  have HB65:=Kj (HB64.out.kept k5)
  have KF5:=hKF.kept k5
  have K5:=K4.kept k5
  have z5:=k5.size
  clear HB4 HS4 HK4 HB64 HX8 k5 hKF K4
  cases hw:Mm.w[Mm.w.findIdx (Ord.is t i)]? with
  | none=>
   have hj1:j=-1:=by rw [← hj];exact xU hw
   have HR:Hid (Mm.remove t i=(JV,false,Mm)):=by show _=_;unfold Mkt.remove;rw [HX.out,hw];rfl
   subst hj1
   clear hj hw
   go_upto_region 5 with fail
   refine wE 2 [iV (-1),bV false] [27,28] ?_ ?_
   ·refine mE 1 10 ?_
    refine aS 2 rfl (fun a u E D hk=>WV rfl (dD D 0) rfl) (by decide) ?_
    exact fz
   intro w6 k6
   simp only [F8]
   have z6:=k6.size
   go_upto_region 7 with fail
   refine wEp 1 [JV.v] [32] ?_ ?_
   ·refine sW 1 rfl (fun a u E D hk=>YJ 30 [] JV.cells rfl (by kernel_rfl)) ?_
    exact fz
   intro w7 k7
   simp only [F8]
   refine Qj 30 b6 30 JV.cells JV.cells _ _ rfl rfl (by kernel_rfl) (by kernel_rfl) ((HB65.out.kept k6).kept k7) (by rw [Ord.len9];exact JX) rfl (Ord.one1 _) ?_
   intro w8 hCw8 hkw8 hsw8
   simp only [Act.put]
   refine Jx (.bool false) rfl (JQ _ _ rfl (by kernel_rfl)) ?_
   simp only [Act.put,sA,sS,sZ]
   refine Kx ?_
   go_wp2
   refine bodyPost_ret (XU (p:=6) (q:=7) rfl _ _ b6 _ JV.cells false rfl rfl hCw8 Tryz.underlying30 (by rw [Ord.len9];exact JX)) rfl ?_
   rw [HR.out]
   have k67:=k6.trans k7
   have hP:MkP w8 p q v F2 Mm:=⟨(HB5.out.kept k67).keep hkw8 hbl,(HK5.out.kept k67).keep hkw8 (fun b hb e=>h6F2 (by rw [← e];exact hb)),(HS5.out.kept k67).keep hkw8 (fun b hb=>H6v.out b hb),hpF2,hvF2.out⟩
   have z7:=k67.size
   have KF:Keep F w w8:=(KF5.kept k67).new hkw8 (by omega)
   first | exact ⟨rfl,_,hP.close,hGG.out,KF⟩ | exact ⟨_,rfl,hP.close,hGG.out,KF⟩
  | some e=>
   have hj1:j=(Mm.w.findIdx (Ord.is t i):Int):=by rw [← hj];exact xq hw
   obtain ⟨k,hk⟩:∃ k,Mm.w.findIdx (Ord.is t i)=k:=⟨_,rfl⟩
   rw [hk] at hj1
   have HR:Hid (Mm.remove t i=(e,true,⟨Mm.b,Mm.w.eraseIdx k⟩)):=by show _=_;unfold Mkt.remove;rw [HX.out,hw,hk];rfl
   rw [hk] at hw
   have HEI:=Kj hw
   subst hj1
   clear hj hw hk
   go_upto_region 5 with fail
   refine wE 2 [iV (k:Int),bV true] [27,28] ?_ ?_
   ·refine mE 1 10 ?_
    refine aS 2 rfl (fun a u E D hk=>WV rfl (dD D 0) rfl) (Ky (by omega)) ?_
    exact fz
   intro w6 k6
   simp only [F8]
   have z6:=k6.size
   go_upto_region 6 with fail
   refine wEp 2 [pV p 0,iV (k:Int)] [29,30] ?_ ?_
   ·refine mE 1 0 ?_
    refine mE 2 10 ?_
    exact fz
   intro w7 k7
   simp only [F8]
   refine Yz 31 #[.pointer (some ⟨p,0,none⟩),.int .i64 (k:Int)] rfl (Jq 31 _ [.tmp 29,.tmp 30] _ _ Tryz.func31 (by kernel_rfl) (by kernel_rfl) rfl (by kernel_rfl) _) ?_
   refine (mtake_any w7 p q v Mm.w k e (HB5.out.kept (k6.trans k7)) (HS5.out.kept (k6.trans k7)) HEI.out hlen (fun b hb=>(hvF2.out b hb).1)).mono ?_
   rintro r w8 ⟨v',rfl,hB8,hS8,hv8,hk8⟩
   refine ⟨_,rfl,?_⟩
   simp only [Act.put,sA,sS,sZ]
   refine Qj 30 b6 30 JV.cells e.cells _ _ rfl rfl (by kernel_rfl) (by kernel_rfl) (((HB65.out.kept (k6.trans k7)).keep hk8 (fun e=>e.elim (fun e=>hbl e.symm) (fun e=>H6v.out _ e rfl)))) (by rw [Ord.len9];exact JX) (by rw [Ord.len9,Ord.len9]) (Ord.one1 _) ?_
   intro w9 hCw9 hkw9 hsw9
   simp only [Act.put]
   refine Jx (.bool true) rfl (JQ _ _ rfl (by kernel_rfl)) ?_
   simp only [Act.put,sA,sS,sZ]
   refine Kx ?_
   have k67:=k6.trans k7
   have hn8:∀ b,F2 b→¬ (b=p∨v.ownBlock=some b):=fun b hb e=>e.elim (fun e=>hpF2 (by rw [← e];exact hb)) (fun e=>(hvF2.out b e).2 hb)
   go_wp2
   refine bodyPost_ret (XU (p:=6) (q:=7) rfl _ _ b6 _ e.cells true rfl rfl hCw9 Tryz.underlying30 (by rw [Ord.len9];exact JX)) rfl ?_
   rw [HR.out]
   have hP:MkP w9 p q v' F2 ⟨Mm.b,Mm.w.eraseIdx k⟩:=⟨hB8.keep hkw9 hbl,((HK5.out.kept k67).keep hk8 hn8).keep hkw9 (fun b hb e=>h6F2 (by rw [← e];exact hb)),hS8.keep hkw9 (fun b hb=>H6v.out b (by rw [← hv8];exact hb)),hpF2,fun b hb=>hvF2.out b (by rw [← hv8];exact hb)⟩
   have z7:=k67.size
   have z8:=hk8.size
   have KF:Keep F w w9:=((KF5.kept k67).trans hk8 (fun b _ hb=>hb.elim (fun h=>HFF.out b (.inl (.inl h))) (fun h=>HFF.out b (.inl (.inr h))))).new hkw9 (by omega)
   have hGG':Grow w F (foot p v' F2):=fun b hb=>hGG.out b (hb.imp (fun h=>h.imp id (fun h=>by rw [← hv8];exact h)) id)
   first | exact ⟨rfl,_,hP.close,hGG',KF⟩ | exact ⟨_,rfl,hP.close,hGG',KF⟩
theorem mrefusal_any (w:World) (F:Nat→Prop) (p:Nat) (Mm:Mkt) (o:Ord) (h:Mk w F p Mm) (hI:Inv Mm.b) (hlen:Mm.w.length≤100000):Gives 47 #[.pointer (some ⟨p,0,none⟩),o.v] w (.eq (.int .i64 (Mm.err o))):=by
 refine XJ ?_
 have HM:=Kj h
 have HI:=Kj hI
 obtain ⟨e,he⟩:∃ e,Mm.err o=e:=⟨_,rfl⟩
 have HE:=Kj he
 rw [he]
 clear h hI he
 go_enter Tryz.func47,Tryz.ntmps47
 go_upto_region 0 with fail
 refine QZ 2 [.fresh w.heap.size 30 (o.cells),iE 0] rfl (by kernel_rfl) ?_ ?_
 ·refine nW 1 rfl (fun a u E D hk=>⟨_,_,YX 30 _ (o.cells) rfl (eE E),⟨_,rfl,hk.size,Blk.new u _ _⟩,((Keep.refl _ u).alloc _)⟩) ?_
  refine sW 2 rfl (fun a u E D hk=>JQ _ _ rfl rfl) ?_
  exact fz
 intro gv w0 hV k0
 rw [dq 2 [3,4]]
 simp only [Fz7]
 have hv3:(.fresh w.heap.size 30 (o.cells):Kn).p (gv 3) w0:=hV 0 3 (by kernel_rfl)
 generalize gv 3=v3 at hv3 ⊢
 rw [gQ hV 1 4 (.int .i64 0)]
 clear hV
 obtain ⟨b3,rfl,hb3,hB3⟩:=hv3
 refine Kx ?_
 have HO:=Kj (JW hB3)
 have l3:=hB3.lt
 have z0:=k0.size
 clear hB3
 cases hr:o.right with
 | false=>
  have hr1:o.err≠0:=by unfold Ord.err;rw [hr];decide
  have he1:e=1:=by rw [← HE.out];unfold Mkt.err;rw [if_pos hr]
  subst he1
  clear hr
  go_upto_region 1 with fail
  refine wE 3 [o.v,iV o.err,bV true] [7,8,9] ?_ ?_
  ·refine sE 1 3 b3 0 o.cells Tryz.underlying30 (fun u hk=>JJ HO.out hk) (by rw [o.len9];exact JX) ?_
   refine cS 2 71 [o.v] rfl Tryz.func71 rfl (fun a u E D hk=>⟨ll (dD D 0) rfl,yy o u⟩) ?_
   refine aS 3 rfl (fun a u E D hk=>YZ rfl (dD D 1) rfl) (Ky hr1) ?_
   exact fz
  intro w1 k1
  simp only [F8]
  clear HO hr1
  go_wp2
  go_ret
  exact ⟨rfl,k0.trans k1⟩
 | true=>
  have hr1:¬ o.err≠0:=by unfold Ord.err;rw [hr];decide
  have HRT:=Kj hr
  clear hr
  go_upto_region 1 with fail
  refine wE 3 [o.v,iV o.err,bV false] [7,8,9] ?_ ?_
  ·refine sE 1 3 b3 0 o.cells Tryz.underlying30 (fun u hk=>JJ HO.out hk) (by rw [o.len9];exact JX) ?_
   refine cS 2 71 [o.v] rfl Tryz.func71 rfl (fun a u E D hk=>⟨ll (dD D 0) rfl,yy o u⟩) ?_
   refine aS 3 rfl (fun a u E D hk=>YZ rfl (dD D 1) rfl) (Ku hr1) ?_
   exact fz
  intro w1 k1
  simp only [F8]
  have k01:=k0.trans k1
  have z1:=k1.size
  have HO1:=Kj (JJ HO.out k1)
  obtain ⟨x,b,hx⟩:∃ x b,Mm.find o.tr o.id=(x,b):=⟨_,_,rfl⟩
  have HX:=Kj hx
  clear HO hr1 hx
  go_upto_region 3 with fail
  refine wEp 9 [pV p 0,pV b3 0,iV o.tr,pV b3 1,iV o.id,.tuple #[x.v,.bool b],.tuple #[x.v,.bool b],x.v,bV b] [11,12,13,14,15,16,10,17,18] ?_ ?_
  ·refine mE 1 0 ?_
   refine fE 2 3 30 0 0 0 ?_
   refine lD 3 12 1 Tryz.underlying3 (fun u hk=>JY (JJ HO1.out hk) 0 _ rfl) ?_
   refine fE 4 3 30 1 1 0 ?_
   refine lD 5 14 3 Tryz.underlying3 (fun u hk=>JY (JJ HO1.out hk) 1 _ rfl) ?_
   refine cS 6 12 [.pointer (some ⟨p,0,none⟩),.int .i64 o.tr,.int .i64 o.id] rfl Tryz.func12 rfl (fun a u E D hk=>⟨ll (dD D 0) (ll (dD D 2) (ll (dD D 4) rfl)),(by have h:=mfind_any u F p Mm o.tr o.id (HM.out.kept (k01.trans hk)) HI.out hlen;rw [HX.out] at h;exact h)⟩) ?_
   refine mD 7 16 5 ?_
   refine sW 8 rfl (fun a u E D hk=>QU _ [x.v,.bool b] 0 (x.v) rfl (dD D 6) rfl) ?_
   refine sW 9 rfl (fun a u E D hk=>QU _ [x.v,.bool b] 1 (.bool b) rfl (dD D 6) rfl) ?_
   exact fz
  intro w2 k2
  simp only [F8]
  refine ZW (.pointer (some ⟨w2.heap.size,0,none⟩)) (w2.alloc (.cells JV.cells.toArray 30)) rfl (QW 30 JV.cells rfl zO) ?_
  have hNw3:=Blk.new w2 30 JV.cells
  have kw3:Kept w2 (w2.alloc (.cells JV.cells.toArray 30)):=(Keep.refl _ w2).alloc _
  generalize w2.alloc (.cells JV.cells.toArray 30)=w3 at hNw3 kw3 ⊢
  simp only [Act.put,sA,sS,sZ]
  refine Qj 30 w2.heap.size 30 JV.cells x.cells _ _ rfl rfl (by kernel_rfl) (by kernel_rfl) (hNw3) (by rw [Ord.len9];exact JX) (by rw [Ord.len9,Ord.len9]) (Ord.one1 _) ?_
  intro w4 hCw4 hkw4 hsw4
  simp only [Act.put]
  refine Jx (.bool b) rfl (JQ _ _ rfl (by kernel_rfl)) ?_
  simp only [Act.put,sA,sS,sZ]
  refine Kx ?_
  have z2:=k2.size
  have k14:Kept w1 w4:=(k2.trans kw3).trans' hkw4 (by omega)
  have K4:Kept w w4:=k01.trans k14
  have HO4:=Kj (JJ HO1.out k14)
  clear hNw3 hCw4 hkw4 hsw4 kw3 k2 HO1 k14
  cases b with
  | true=>
   have he5:e=5:=by rw [← HE.out];unfold Mkt.err;rw [if_neg (by rw [HRT.out];decide),if_pos (by rw [HX.out])]
   subst he5
   clear HO4
   go_wp2
   go_ret
   exact ⟨rfl,K4⟩
  | false=>
   have HE2:Hid (e=if o.may=true∧64≤Mm.len then 4 else 0):=by show _=_;rw [← HE.out];unfold Mkt.err;rw [if_neg (by rw [HRT.out];decide),if_neg (by rw [HX.out];simp)]
   obtain ⟨m,hm⟩:∃ m,o.may=m:=⟨_,rfl⟩
   have HMY:=Kj hm
   rw [hm] at HE2
   clear hm
   go_upto_region 4 with fail
   refine wE 1 [bV false] [19] ?_ ?_
   ·refine mE 1 6 ?_
    exact fz
   intro w5 k5
   simp only [F8]
   have K5:=K4.trans k5
   have HO5:=Kj (JJ HO4.out k5)
   clear HO4 k5
   cases m with
   | false=>
    have he0:e=0:=by rw [HE2.out,if_neg (by simp)]
    subst he0
    go_upto_region 6 with fail
    refine wE 7 [o.v,bV false,bV false,undef,undef,undef,bV false] [20,21,22,23,24,25,26] ?_ ?_
    ·refine sE 1 3 b3 0 o.cells Tryz.underlying30 (fun u hk=>JJ HO5.out hk) (by rw [o.len9];exact JX) ?_
     refine cS 2 72 [o.v] rfl Tryz.func72 rfl (fun a u E D hk=>⟨ll (dD D 0) rfl,(by rw [← HMY.out];exact mayStay_any u o)⟩) ?_
     refine mD 3 21 1 ?_
     refine kS 4 2 ?_
     refine kS 5 2 ?_
     refine kS 6 2 ?_
     refine pF 7 22 2 ?_
     exact fz
    intro w6 k6
    simp only [F8]
    have K6:=K5.trans k6
    clear HO5 k6
    go_wp2
    go_ret
    exact ⟨rfl,K6⟩
   | true=>
    obtain ⟨n,hn⟩:∃ n,Mm.len=n:=⟨_,rfl⟩
    have HN:=Kj hn
    rw [hn] at HE2
    clear hn
    by_cases hc:64≤n
    ·have he4:e=4:=by rw [HE2.out,if_pos ⟨rfl,hc⟩]
     subst he4
     go_upto_region 6 with fail
     refine wE 7 [o.v,bV true,bV true,pV p 0,iV (n:Int),bV true,bV true] [20,21,22,23,24,25,26] ?_ ?_
     ·refine sE 1 3 b3 0 o.cells Tryz.underlying30 (fun u hk=>JJ HO5.out hk) (by rw [o.len9];exact JX) ?_
      refine cS 2 72 [o.v] rfl Tryz.func72 rfl (fun a u E D hk=>⟨ll (dD D 0) rfl,(by rw [← HMY.out];exact mayStay_any u o)⟩) ?_
      refine mD 3 21 1 ?_
      refine mE 4 0 ?_
      refine cS 5 39 [.pointer (some ⟨p,0,none⟩)] rfl Tryz.func39 rfl (fun a u E D hk=>⟨ll (dD D 3) rfl,(by rw [← HN.out];exact mlen_any u F p Mm (HM.out.kept (K5.trans hk)) HI.out hlen)⟩) ?_
      refine aS 6 rfl (fun a u E D hk=>WV rfl (dD D 4) rfl) (Ky (by omega)) ?_
      refine pT 7 22 25 2 5 ?_
      exact fz
     intro w6 k6
     simp only [F8]
     have K6:=K5.trans k6
     clear HO5 k6
     go_wp2
     go_ret
     exact ⟨rfl,K6⟩
    have he0:e=0:=by rw [HE2.out,if_neg (fun h=>hc h.2)]
    subst he0
    go_upto_region 6 with fail
    refine wE 7 [o.v,bV true,bV true,pV p 0,iV (n:Int),bV false,bV false] [20,21,22,23,24,25,26] ?_ ?_
    ·refine sE 1 3 b3 0 o.cells Tryz.underlying30 (fun u hk=>JJ HO5.out hk) (by rw [o.len9];exact JX) ?_
     refine cS 2 72 [o.v] rfl Tryz.func72 rfl (fun a u E D hk=>⟨ll (dD D 0) rfl,(by rw [← HMY.out];exact mayStay_any u o)⟩) ?_
     refine mD 3 21 1 ?_
     refine mE 4 0 ?_
     refine cS 5 39 [.pointer (some ⟨p,0,none⟩)] rfl Tryz.func39 rfl (fun a u E D hk=>⟨ll (dD D 3) rfl,(by rw [← HN.out];exact mlen_any u F p Mm (HM.out.kept (K5.trans hk)) HI.out hlen)⟩) ?_
     refine aS 6 rfl (fun a u E D hk=>WV rfl (dD D 4) rfl) (Ku (by omega)) ?_
     refine pT 7 22 25 2 5 ?_
     exact fz
    intro w6 k6
    simp only [F8]
    have K6:=K5.trans k6
    clear HO5 k6
    go_wp2
    go_ret
    exact ⟨rfl,K6⟩
def xW (v1 v2:Value) (last no:Int):List Value:=[.slice none 0 0,v1,v2,.int .i64 last,.int .i64 no]
abbrev RWay (w:World) (F:Nat→Prop) (v:Value) (L:List Lev):Prop:=Way 88 90 85 w F v L
def RBk (w:World) (F:Nat→Prop) (p:Nat) (B:Bok):Prop:=F p∧(∀ b,F b→b<w.heap.size)∧∃ v1 v2 F1 F2,Blk w p 51 (xW v1 v2 B.last B.no)∧RWay w F1 v1 B.buys∧RWay w F2 v2 B.sells∧(∀ b,F1 b→F b∧b≠p∧¬ F2 b)∧(∀ b,F2 b→F b∧b≠p)
theorem RBk.keep {S F:Nat→Prop} {w w':World} {p:Nat} {B:Bok} (h:RBk w F p B) (hk:Keep S w w') (hn:∀ b,F b→¬ S b):RBk w' F p B:=by
 obtain ⟨h1,h2,v1,v2,F1,F2,hB,hW1,hW2,h3,h4⟩:=h
 exact ⟨h1,fun b hb=>Nat.lt_of_lt_of_le (h2 b hb) hk.size,v1,v2,F1,F2,hB.keep hk (hn p h1),hW1.keep hk (fun b hb=>hn b (h3 b hb).1),hW2.keep hk (fun b hb=>hn b (h4 b hb).1),h3,h4⟩
theorem RBk.kept {F:Nat→Prop} {w w':World} {p:Nat} {B:Bok} (h:RBk w F p B) (hk:Kept w w'):RBk w' F p B:=h.keep hk (fun _ _ h=>h)
theorem RBk.lt {F:Nat→Prop} {w:World} {p:Nat} {B:Bok} (h:RBk w F p B):∀ b,F b→b<w.heap.size:=h.2.1
theorem RBk.way {F:Nat→Prop} {w:World} {p:Nat} {B:Bok} (h:RBk w F p B) {k:Nat} (hk:k=1∨k=2):∃ v F',w.cell? ⟨p,0+k*1,none⟩=some v∧RWay w F' v (B.sd (k:Int)):=by
 obtain ⟨h1,h2,v1,v2,F1,F2,hB,hW1,hW2,h3,h4⟩:=h
 rcases hk with rfl | rfl
 ·exact ⟨v1,F1,hB.cell 1,hW1⟩
 exact ⟨v2,F2,hB.cell 2,hW2⟩
theorem RBk.cell0 {F:Nat→Prop} {w:World} {p:Nat} {B:Bok} (h:RBk w F p B):w.cell? ⟨p,0,none⟩=some (.slice none 0 0):=by
 obtain ⟨h1,h2,v1,v2,F1,F2,hB,_⟩:=h
 exact hB.cell 0
theorem rborders_in (w:World) (F:Nat→Prop) (p:Nat) (B:Bok) (k:Nat) (h12:k=1∨k=2) (h:RBk w F p B) (hI:Inv B):Gives 65 #[.pointer (some ⟨p,0,none⟩),.int .i64 (k:Int)] w (.sl w.heap.size 30 9 (Yy (B.sd (k:Int))).length (ords (Yy (B.sd (k:Int))))):=by
 obtain ⟨L,hLe⟩:∃ L,B.sd (k:Int)=L:=⟨_,rfl⟩
 have hL:LvsOk L:=by rw [← hLe];exact hI.ok _
 obtain ⟨v,F1,hv0,hW⟩:=h.way h12
 rw [hLe] at hW
 obtain ⟨Z,G,eL,hW⟩:=hW
 have hn64:Z.length≤64:=by have:=hL.len;rw [← eL,YU] at this;exact this
 have HLe:=Kj hLe
 have HV:=Kj hv0
 have HW:=Kj hW
 have HL:=Kj hL
 have EL:=Kj eL
 obtain ⟨n,hn⟩:∃ n,Z.length=n:=⟨_,rfl⟩
 have HSL:=Kj hW.sl
 rw [hn] at HSL hn64
 have HN:=Kj hn
 clear hLe hv0 hW hL eL hn h hI
 go_enter Tryz.func65,Tryz.ntmps65
 go_upto_region 1 with fail
 refine wT 6 [iE (k:Int),bE (decide (((k:Int):Int)≠(1:Int))),bE (decide (((k:Int):Int)≠(1:Int))),.cond (decide (((k:Int):Int)≠(1:Int))) (iE (k:Int)),.cond (decide (((k:Int):Int)≠(1:Int))) (bE (decide (((k:Int):Int)≠(2:Int)))),bE false] [8,9,10,11,12,13] ?_ ?_
 ·refine mE 1 1 ?_
  refine sW 2 rfl (fun a u E D hk=>YZ rfl (dD D 0) rfl) ?_
  refine mD 3 9 1 ?_
  refine iC 4 2 rfl (fun a u E D hk hb=>Jj _ _ rfl (eE E)) ?_
  refine iC 5 2 rfl (fun a u E D hk hb=>YZ rfl ((D 3 11 (by kernel_rfl)).1 hb) rfl) ?_
  refine aS 6 rfl (fun a u E D hk=>Xj _ _ _ ((decide (((k:Int):Int)≠(1:Int)))) ((decide (((k:Int):Int)≠(2:Int)))) rfl (dD D 2) (fun hb2=>((D 4 12 (by kernel_rfl)).1 hb2)) rfl) (by rcases h12 with rfl | rfl <;> rfl) ?_
  exact fz
 intro gv w0 hV k0
 simp only [Fz7]
 rw [gQ hV 5 13 (.bool false)]
 clear hV
 have HV0:=Kj (k0.cell HV.out)
 have HSL0:=Kj (HSL.out.kept k0)
 go_upto_region 4 with fail
 refine wE 8 [pV p 0,iV (k:Int),pV p 0,pV p 0,pV p (0+k*1),v,iV (n:Int),iV 0] [14,15,16,17,18,19,20,21] ?_ ?_
 ·refine mE 1 0 ?_
  refine mE 2 1 ?_
  refine nD 3 14 0 ?_
  refine fD 4 16 2 51 0 0 0 ?_
  refine sW 5 rfl (fun a u E D hk=>VU 49 48 3 1 _ _ p 0 k rfl Tryz.underlying49 (by kernel_rfl) (dD D 3) (dD D 1) (by omega)) ?_
  refine sW 6 rfl (fun a u E D hk=>Jy _ _ Tryz.underlying48 _ _ _ rfl (dD D 4) (Kept.cell hk (HV0.out))) ?_
  refine sW 7 rfl (fun a u E D hk=>Qq _ Vy _ _ _ _ rfl (dD D 5) HSL0.out) ?_
  refine sW 8 rfl (fun a u E D hk=>Jj _ _ rfl rfl) ?_
  exact fz
 intro w1 k1
 simp only [F8]
 have kw1:=k0.trans k1
 clear k0 k1 HV0 HSL0
 go_wp2_with fail
 go_loopw [5,21] (fun t q wr=>∃ (i:Nat),i≤n∧q=.int .i64 i∧Hid ((Kn.sl w.heap.size 30 9 (Yy (L.take i)).length (ords (Yy (L.take i)))).p t wr)∧Kept w wr) (fun _ q _=>n-(intOf q).toNat)
 case atStart=>exact ⟨0,Nat.zero_le _,rfl,⟨by rw [List.take_zero];exact Sl.nil _ _ _,fun b hb=>by simp [Value.ownBlock] at hb⟩,kw1⟩
 obtain ⟨i,hi,rfl,HV2,hkr⟩:=hrel
 obtain ⟨v3,hv3⟩:∃ v3,v3=u5:=⟨_,rfl⟩
 subst hv3
 by_cases hlt:i<n
 ·skip
  obtain ⟨gs,os,c,rfl⟩:=HSL.out.some_ (by omega)
  obtain ⟨z,hz⟩:∃ z,Z[i]?=some z:=⟨Z[i]'(by rw [HN.out];omega),List.getElem?_eq_getElem (by rw [HN.out];omega)⟩
  obtain ⟨q,pr,X⟩:=z
  have hcell:=(HW.out.kept hkr).cell hz
  have HC:=Kj hcell
  have HZ:=Kj hz
  have HLV:=Kj ((HW.out.kept hkr).lv (q,pr,X) (List.mem_of_getElem? hz))
  have HG:Hid (Good X):=HL.out.good (pr,X) (by rw [← EL.out];exact qq (List.mem_of_getElem? hz))
  have HA:Hid (L[i]?=some (pr,X)):=by show _=_;rw [← EL.out];exact qU hz
  clear hcell hz
  go_upto_region 6 with fail
  refine wEp 2 [pV gs (os+i*1),pV q 0] [23,24] ?_ ?_
  ·refine sW 1 rfl (fun a u E D hk=>Jz Vy _ _ (gs) (os) n c i (os+i*1) ((i:Int)) rfl (eE E) (eE E) (by first | rfl | omega) (hlt) (by first | rfl | omega)) ?_
   refine sW 2 rfl (fun a u E D hk=>XY _ _ Tryz.underlying85 _ _ _ rfl (dD D 0) (Kept.cell hk (HC.out))) ?_
   exact fz
  intro w2 k2
  simp only [F8]
  refine Jx (.pointer (some ⟨q,0,none⟩)) rfl (JQ _ _ rfl (by kernel_rfl)) ?_
  simp only [Act.put,sA,sS,sZ]
  refine Kx ?_
  have kw2:=hkr.trans k2
  have HLV2:=Kj (HLV.out.kept k2)
  have HV4:=Kj (HV2.out.1.kept k2)
  have HO4:=Kj HV2.out.2
  have s0:=kw2.size
  have HM1:Hid ((Yy (L.take i)).length+X.length≤64):=by
   show _≤_
   have h1:=entL_part L (i+1)
   rw [jU HA.out,List.length_append] at h1
   simp only at h1
   have:=HL.out.few
   rw [qY]
   omega
  clear HC HLV HV2 k2
  go_upto_region 7 with fail
  refine QZ 3 [.eq (v3),pE q 0,.sl w2.heap.size 30 9 X.length (ords (X.map (·.o)))] rfl (by kernel_rfl) ?_ ?_
  ·refine mE 1 5 ?_
   refine mE 2 7 ?_
   refine cS 3 83 [.pointer (some ⟨q,0,none⟩)] rfl Tryz.func83 rfl (fun a u E D hk=>⟨ll (dD D 1) rfl,(rorders_any u _ q X (HLV2.out.kept hk) HG.out).mono (fun e w' ⟨v,h1,h2,h3⟩=>⟨v,h1,⟨h2.1,fun b hb=>Kv hk.size (h2.2 b hb)⟩,h3⟩)⟩) ?_
   exact fz
  intro gv w5 hV k5
  rw [dq 3 [25,26,27]]
  simp only [Fz7]
  rw [gQ hV 0 25 v3]
  have hv27:(.sl w2.heap.size 30 9 X.length (ords (X.map (·.o))):Kn).p (gv 27) w5:=hV 2 27 (by kernel_rfl)
  generalize gv 27=v27 at hv27 ⊢
  clear hV
  have s2:=k5.size
  have hm1:=HM1.out
  obtain ⟨v4,w4,hr4,hs4,hk4,ho4⟩:=Qy slO _ w5 v3 v27 (Yy (L.take i)).length X.length _ _ (HV4.out.kept k5) hv27.1 (qX _) (by unfold maxLen;omega) (by omega)
  refine ZW v4 w4 rfl (XQ slO (.tmp 25) (.tmp 27) v3 v27 rfl (by kernel_rfl) (by kernel_rfl) v4 w4 hr4) ?_
  simp only [Act.put,sA,sS,sZ]
  refine Jx (v4) rfl (JQ _ _ rfl (by kernel_rfl)) ?_
  simp only [Act.put,sA,sS,sZ]
  refine Kx ?_
  have kw4:Kept w w4:=by
   refine Keep.trans (kw2.trans k5) hk4 (fun b hb hb'=>?_)
   have:=HO4.out b hb'
   omega
  have HV5:Hid ((Kn.sl w.heap.size 30 9 (Yy (L.take (i+1))).length (ords (Yy (L.take (i+1))))).p v4 w4):=by
   refine ⟨?_,fun b hb=>?_⟩
   ·have e:Yy (L.take (i+1))=Yy (L.take i)++X.map (·.o):=by
     unfold Yy
     rw [jU HA.out,List.map_append]
    rw [e,List.length_append,List.length_map]
    unfold ords at hs4 ⊢
    rw [List.flatMap_append]
    exact hs4
   rcases ho4 b hb with h | h
   ·exact HO4.out b h
   omega
  clear hs4 hk4 ho4 HV4 HO4 hv27 hr4 hm1
  go_wp2
  exact ⟨⟨i+1,by omega,by go_num,HV5,kw4⟩,by simp [intOf];omega⟩
 have HF:Hid ((Kn.sl w.heap.size 30 9 (Yy L).length (ords (Yy L))).p v3 wr):=by
  have:=HV2.out
  rw [List.take_of_length_le (by rw [← EL.out,YU,HN.out];omega)] at this
  exact this
 clear HV2
 go_wp2
 go_ret
 exact ⟨v3,rfl,by rw [HLe.out];exact HF.out,hkr⟩
theorem rbdepth_in (w:World) (F:Nat→Prop) (p:Nat) (B:Bok) (k:Nat) (h12:k=1∨k=2) (h:RBk w F p B) (hI:Inv B):Gives 44 #[.pointer (some ⟨p,0,none⟩),.int .i64 (k:Int)] w (.sl w.heap.size 72 10 (Zx (k:Int) (B.sd (k:Int))).length (ents (Zx (k:Int) (B.sd (k:Int))))):=by
 obtain ⟨L,hLe⟩:∃ L,B.sd (k:Int)=L:=⟨_,rfl⟩
 have hL:LvsOk L:=by rw [← hLe];exact hI.ok _
 obtain ⟨v,F1,hv0,hW⟩:=h.way h12
 rw [hLe] at hW
 obtain ⟨Z,G,eL,hW⟩:=hW
 have hn64:Z.length≤64:=by have:=hL.len;rw [← eL,YU] at this;exact this
 have HLe:=Kj hLe
 have HV:=Kj hv0
 have HW:=Kj hW
 have HL:=Kj hL
 have EL:=Kj eL
 obtain ⟨n,hn⟩:∃ n,Z.length=n:=⟨_,rfl⟩
 have HSL:=Kj hW.sl
 rw [hn] at HSL hn64
 have HN:=Kj hn
 clear hLe hv0 hW hL eL hn h hI
 go_enter Tryz.func44,Tryz.ntmps44
 go_upto_region 2 with fail
 refine wT 6 [iE (k:Int),bE (decide (((k:Int):Int)≠(1:Int))),bE (decide (((k:Int):Int)≠(1:Int))),.cond (decide (((k:Int):Int)≠(1:Int))) (iE (k:Int)),.cond (decide (((k:Int):Int)≠(1:Int))) (bE (decide (((k:Int):Int)≠(2:Int)))),bE false] [8,9,10,11,12,13] ?_ ?_
 ·refine mE 1 1 ?_
  refine sW 2 rfl (fun a u E D hk=>YZ rfl (dD D 0) rfl) ?_
  refine mD 3 9 1 ?_
  refine iC 4 2 rfl (fun a u E D hk hb=>Jj _ _ rfl (eE E)) ?_
  refine iC 5 2 rfl (fun a u E D hk hb=>YZ rfl ((D 3 11 (by kernel_rfl)).1 hb) rfl) ?_
  refine aS 6 rfl (fun a u E D hk=>Xj _ _ _ ((decide (((k:Int):Int)≠(1:Int)))) ((decide (((k:Int):Int)≠(2:Int)))) rfl (dD D 2) (fun hb2=>((D 4 12 (by kernel_rfl)).1 hb2)) rfl) (by rcases h12 with rfl | rfl <;> rfl) ?_
  exact fz
 intro gv w0 hV k0
 simp only [Fz7]
 rw [gQ hV 5 13 (.bool false)]
 clear hV
 have HV0:=Kj (k0.cell HV.out)
 have HSL0:=Kj (HSL.out.kept k0)
 go_upto_region 4 with fail
 refine wE 8 [pV p 0,iV (k:Int),pV p 0,pV p 0,pV p (0+k*1),v,iV (n:Int),iV 0] [14,15,16,17,18,19,20,21] ?_ ?_
 ·refine mE 1 0 ?_
  refine mE 2 1 ?_
  refine nD 3 14 0 ?_
  refine fD 4 16 2 51 0 0 0 ?_
  refine sW 5 rfl (fun a u E D hk=>VU 49 48 3 1 _ _ p 0 k rfl Tryz.underlying49 (by kernel_rfl) (dD D 3) (dD D 1) (by omega)) ?_
  refine sW 6 rfl (fun a u E D hk=>Jy _ _ Tryz.underlying48 _ _ _ rfl (dD D 4) (Kept.cell hk (HV0.out))) ?_
  refine sW 7 rfl (fun a u E D hk=>Qq _ Vy _ _ _ _ rfl (dD D 5) HSL0.out) ?_
  refine sW 8 rfl (fun a u E D hk=>Jj _ _ rfl rfl) ?_
  exact fz
 intro w1 k1
 simp only [F8]
 have kw1:=k0.trans k1
 clear k0 k1 HV0 HSL0
 go_wp2_with fail
 go_loopw [5,21] (fun t q wr=>∃ (i:Nat),i≤n∧q=.int .i64 i∧Hid ((Kn.sl w.heap.size 72 10 i (ents (Zx (k:Int) (L.take i)))).p t wr)∧Kept w wr) (fun _ q _=>n-(intOf q).toNat)
 case atStart=>exact ⟨0,Nat.zero_le _,rfl,⟨by rw [List.take_zero];exact Sl.nil _ _ _,fun b hb=>by simp [Value.ownBlock] at hb⟩,kw1⟩
 obtain ⟨i,hi,rfl,HV2,hkr⟩:=hrel
 obtain ⟨v3,hv3⟩:∃ v3,v3=u5:=⟨_,rfl⟩
 subst hv3
 by_cases hlt:i<n
 ·skip
  obtain ⟨gs,os,c,rfl⟩:=HSL.out.some_ (by omega)
  obtain ⟨z,hz⟩:∃ z,Z[i]?=some z:=⟨Z[i]'(by rw [HN.out];omega),List.getElem?_eq_getElem (by rw [HN.out];omega)⟩
  obtain ⟨q,pr,X⟩:=z
  have hcell:=(HW.out.kept hkr).cell hz
  have HC:=Kj hcell
  have HZ:=Kj hz
  have HLV:=Kj ((HW.out.kept hkr).lv (q,pr,X) (List.mem_of_getElem? hz))
  have HG:Hid (Good X):=HL.out.good (pr,X) (by rw [← EL.out];exact qq (List.mem_of_getElem? hz))
  have HA:Hid (L[i]?=some (pr,X)):=by show _=_;rw [← EL.out];exact qU hz
  clear hcell hz
  go_upto_region 6 with fail
  refine wEp 2 [pV gs (os+i*1),pV q 0] [23,24] ?_ ?_
  ·refine sW 1 rfl (fun a u E D hk=>Jz Vy _ _ (gs) (os) n c i (os+i*1) ((i:Int)) rfl (eE E) (eE E) (by first | rfl | omega) (hlt) (by first | rfl | omega)) ?_
   refine sW 2 rfl (fun a u E D hk=>XY _ _ Tryz.underlying85 _ _ _ rfl (dD D 0) (Kept.cell hk (HC.out))) ?_
   exact fz
  intro w2 k2
  simp only [F8]
  refine Jx (.pointer (some ⟨q,0,none⟩)) rfl (JQ _ _ rfl (by kernel_rfl)) ?_
  simp only [Act.put,sA,sS,sZ]
  refine Kx ?_
  have kw2:=hkr.trans k2
  have HLV2:=Kj (HLV.out.kept k2)
  have HV4:=Kj (HV2.out.1.kept k2)
  have HO4:=Kj HV2.out.2
  have s0:=kw2.size
  obtain ⟨_,_,vq,hq1,_⟩:=HLV2.out
  have HQ:=Kj (hq1.cell 0)
  clear HC HLV HV2 k2 hq1
  go_upto_region 7 with fail
  refine qW 11 [.eq (v3),iE (k:Int),pE q 0,pE q 0,pE q 0,iE pr,.eq ((Ord.mk 0 0 0 (k:Int) 0 pr 0 0 0).v),pE q 0,iE (QJ X),.eq ((Ent.mk (Ord.mk 0 0 0 (k:Int) 0 pr 0 0 0) ((QJ X))).v),.sl w2.heap.size 72 10 1 (Ent.mk (Ord.mk 0 0 0 (k:Int) 0 pr 0 0 0) ((QJ X))).cells] (by kernel_rfl) rfl (by kernel_rfl) ?_ ?_
  ·refine mE 1 5 ?_
   refine mE 2 1 ?_
   refine mE 3 7 ?_
   refine nD 4 27 2 ?_
   refine fD 5 28 3 88 0 0 0 ?_
   refine lD 6 29 4 Tryz.underlying3 (fun u hk=>Kept.cell hk (HQ.out)) ?_
   refine sW 7 rfl (fun a u E D hk=>exec_blo _ _ (k:Int) pr rfl (dD D 1) (dD D 5)) ?_
   refine mE 8 7 ?_
   refine cS 9 70 [.pointer (some ⟨q,0,none⟩)] rfl Tryz.func70 rfl (fun a u E D hk=>⟨ll (dD D 7) rfl,rseen_any u _ q X (HLV2.out.kept hk) HG.out⟩) ?_
   refine sW 10 rfl (fun a u E D hk=>yJ 72 builtH _ _ ((Ord.mk 0 0 0 (k:Int) 0 pr 0 0 0)) ((QJ X)) rfl (dD D 6) (dD D 8)) ?_
   refine nW 11 rfl (fun a u E D hk=>⟨_,_,Vz slH _ (Ent.mk (Ord.mk 0 0 0 (k:Int) 0 pr 0 0 0) ((QJ X))).cells (by omega) rfl (dD D 9) ((Ent.mk (Ord.mk 0 0 0 (k:Int) 0 pr 0 0 0) ((QJ X))).len10),(qQ u 72 10 _ w2.heap.size ((Ent.mk (Ord.mk 0 0 0 (k:Int) 0 pr 0 0 0) ((QJ X))).len10) (by omega) hk.size),((Keep.refl _ u).alloc _)⟩) ?_
   exact fz
  intro gv w5 hV k5
  rw [dq 11 [25,26,27,28,29,30,31,32,33,34,35]]
  simp only [Fz7]
  rw [gQ hV 0 25 v3]
  have hv35:(.sl w2.heap.size 72 10 1 (Ent.mk (Ord.mk 0 0 0 (k:Int) 0 pr 0 0 0) ((QJ X))).cells:Kn).p (gv 35) w5:=hV 10 35 (by kernel_rfl)
  generalize gv 35=v35 at hv35 ⊢
  clear hV
  have s2:=k5.size
  obtain ⟨v4,w4,hr4,hs4,hk4,ho4⟩:=Qy slH _ w5 v3 v35 i 1 _ _ (HV4.out.kept k5) hv35.1 (Ent.one _) (by unfold maxLen;omega) (by omega)
  refine ZW v4 w4 rfl (XQ slH (.tmp 25) (.tmp 35) v3 v35 rfl (by kernel_rfl) (by kernel_rfl) v4 w4 hr4) ?_
  simp only [Act.put,sA,sS,sZ]
  refine Jx (v4) rfl (JQ _ _ rfl (by kernel_rfl)) ?_
  simp only [Act.put,sA,sS,sZ]
  refine Kx ?_
  have kw4:Kept w w4:=by
   refine Keep.trans (kw2.trans k5) hk4 (fun b hb hb'=>?_)
   have:=HO4.out b hb'
   omega
  have HV5:Hid ((Kn.sl w.heap.size 72 10 (i+1) (ents (Zx (k:Int) (L.take (i+1))))).p v4 w4):=by
   refine ⟨?_,fun b hb=>?_⟩
   ·have e:Zx (k:Int) (L.take (i+1))=Zx (k:Int) (L.take i)++[Ent.mk (Ord.mk 0 0 0 (k:Int) 0 pr 0 0 0) (QJ X)]:=by
     unfold Zx
     rw [List.take_add_one,HA.out,List.map_append]
     rfl
    rw [e,yz]
    exact hs4
   rcases ho4 b hb with h | h
   ·exact HO4.out b h
   omega
  clear hs4 hk4 ho4 HV4 HO4 hv35 hr4
  go_wp2
  exact ⟨⟨i+1,by omega,by go_num,HV5,kw4⟩,by simp [intOf];omega⟩
 have HF:Hid ((Kn.sl w.heap.size 72 10 (Zx (k:Int) L).length (ents (Zx (k:Int) L))).p v3 wr):=by
  have:=HV2.out
  have e:i=(Zx (k:Int) L).length:=by unfold Zx;rw [List.length_map,← EL.out,YU,HN.out];omega
  rw [List.take_of_length_le (by rw [← EL.out,YU,HN.out];omega),e] at this
  exact this
 clear HV2
 go_wp2
 go_ret
 exact ⟨v3,rfl,by rw [HLe.out];exact HF.out,hkr⟩
theorem RBk.way3 {F:Nat→Prop} {w:World} {p:Nat} {B:Bok} (h:RBk w F p B) {k:Nat} (hk:k<3):∃ v F',w.cell? ⟨p,0+k*1,none⟩=some v∧RWay w F' v (B.sd (k:Int)):=by
 by_cases h0:k=0
 ·subst h0
  exact ⟨_,fun _=>False,h.cell0,Way.nil _⟩
 exact h.way (by omega)
def lenTo (B:Bok) (k:Nat):Nat:=if k≤1 then 0 else if k=2 then (ZX B.buys).length else B.len
theorem lenTo_step (B:Bok) {k:Nat} (h:k<3):lenTo B (k+1)=lenTo B k+(ZX (B.sd (k:Int))).length:=by
 have hk:k=0∨k=1∨k=2:=by omega
 rcases hk with rfl | rfl | rfl
 ·rfl
 ·show (ZX B.buys).length=0+(ZX B.buys).length
  omega
 show (ZX B.buys++ZX B.sells).length=(ZX B.buys).length+(ZX B.sells).length
 rw [List.length_append]
theorem lenTo_few {B:Bok} (h:Inv B) (k:Nat):lenTo B k≤64:=by
 have:=h.two.few
 unfold lenTo Bok.len Bok.all
 rw [List.length_append]
 split
 ·omega
 split <;> omega
theorem rblen_any (w:World) (F:Nat→Prop) (p:Nat) (B:Bok) (h:RBk w F p B) (hI:Inv B):Gives 52 #[.pointer (some ⟨p,0,none⟩)] w (.eq (.int .i64 (B.len:Int))):=by
 refine XJ ?_
 have HB:=Kj h
 have HI:=Kj hI
 clear h hI
 go_enter Tryz.func52,Tryz.ntmps52
 go_upto_region 2 with fail
 go_wp2_with fail
 go_loopw [3,7] (fun t q wr=>∃ (k:Nat),k≤3∧q=.int .i64 (k:Int)∧t=.int .i64 (lenTo B k:Int)∧Kept w wr) (fun _ q _=>3-(intOf q).toNat)
 case atStart=>exact ⟨0,by omega,rfl,rfl,Kept.refl _⟩
 obtain ⟨k,hk3,rfl,rfl,hkr⟩:=hrel
 by_cases hk:k<3
 ·obtain ⟨L,hLe⟩:∃ L,B.sd (k:Int)=L:=⟨_,rfl⟩
  have hL:LvsOk L:=by rw [← hLe];exact HI.out.ok _
  have hst:=lenTo_step B hk
  have hfw:=lenTo_few HI.out (k+1)
  rw [hLe] at hst
  obtain ⟨v,F1,hv0,hW⟩:=(HB.out.kept hkr).way3 hk
  rw [hLe] at hW
  obtain ⟨Z,G,eL,hW⟩:=hW
  have hn64:Z.length≤64:=by have:=hL.len;rw [← eL,YU] at this;exact this
  have HLe:=Kj hLe
  have HV:=Kj hv0
  have HW:=Kj hW
  have HL:=Kj hL
  have EL:=Kj eL
  obtain ⟨n,hn⟩:∃ n,Z.length=n:=⟨_,rfl⟩
  have HSL:=Kj hW.sl
  rw [hn] at HSL hn64
  have HN:=Kj hn
  obtain ⟨N0,hN0⟩:∃ y,lenTo B k=y:=⟨_,rfl⟩
  obtain ⟨N1,hN1⟩:∃ y,lenTo B (k+1)=y:=⟨_,rfl⟩
  rw [hN0,hN1] at hst
  rw [hN1] at hfw
  rw [hN0]
  have HN1:=Kj hN1
  clear hLe hv0 hW hL eL hn hN0 hN1
  go_upto_region 5 with fail
  refine wE 8 [pV p 0,iV (k:Int),pV p 0,pV p 0,pV p (0+k*1),v,iV (n:Int),iV 0] [10,11,12,13,14,15,16,17] ?_ ?_
  ·refine mE 1 0 ?_
   refine mE 2 4 ?_
   refine nD 3 10 0 ?_
   refine fD 4 12 2 51 0 0 0 ?_
   refine sW 5 rfl (fun a u E D hk=>VU 49 48 3 1 _ _ p 0 k rfl Tryz.underlying49 (by kernel_rfl) (dD D 3) (dD D 1) (by omega)) ?_
   refine sW 6 rfl (fun a u E D hk=>Jy _ _ Tryz.underlying48 _ _ _ rfl (dD D 4) (Kept.cell hk (HV.out))) ?_
   refine sW 7 rfl (fun a u E D hk=>Qq _ Vy _ _ _ _ rfl (dD D 5) HSL.out) ?_
   refine sW 8 rfl (fun a u E D hk=>Jj _ _ rfl rfl) ?_
   exact fz
  intro w1 k1
  simp only [F8]
  have kw1:=hkr.trans k1
  have HW1:=Kj (HW.out.kept k1)
  have HSL1:=Kj (HSL.out.kept k1)
  clear HV HW HSL k1 hkr
  go_wp2_with fail
  go_loopw [3,17] (fun t q wr=>∃ (i:Nat),i≤n∧q=.int .i64 (i:Int)∧(∃ c:Nat,t=.int .i64 (c:Int)∧Hid (c=N0+(ZX (L.take i)).length))∧Kept w1 wr) (fun _ q _=>n-(intOf q).toNat)
  case atStart=>exact ⟨0,Nat.zero_le _,rfl,⟨N0,rfl,by show _=_;rw [List.take_zero];rfl⟩,Kept.refl _⟩
  obtain ⟨i,hi,rfl,⟨c,rfl,HC0⟩,hkr⟩:=hrel
  by_cases hlt:i<n
  ·obtain ⟨gs,os,cc,rfl⟩:=HSL1.out.some_ (by omega)
   obtain ⟨z,hz⟩:∃ z,Z[i]?=some z:=⟨Z[i]'(by rw [HN.out];omega),List.getElem?_eq_getElem (by rw [HN.out];omega)⟩
   obtain ⟨q,pr,X⟩:=z
   have hcell:=(HW1.out.kept hkr).cell hz
   have HC:=Kj hcell
   have HLV:=Kj ((HW1.out.kept hkr).lv (q,pr,X) (List.mem_of_getElem? hz))
   have HA:Hid (L[i]?=some (pr,X)):=by show _=_;rw [← EL.out];exact qU hz
   have h1:=entL_part L (i+1)
   rw [jU HA.out,List.length_append] at h1
   simp only at h1
   have hX:c+X.length≤64:=by rw [HC0.out];omega
   have HC1:Hid (c+X.length=N0+(ZX (L.take (i+1))).length):=by show _=_;rw [jU HA.out,List.length_append,HC0.out];simp only;omega
   obtain ⟨_,_,vq,hq1,hq2,_⟩:=HLV.out
   have HQ:=Kj (hq1.cell 1)
   have HQS:=Kj hq2
   clear hcell hz h1 hq1 hq2 HLV HC0
   go_upto_region 7 with fail
   refine wEp 2 [pV gs (os+i*1),pV q 0] [19,20] ?_ ?_
   ·refine sW 1 rfl (fun a u E D hk=>Jz Vy _ _ (gs) (os) n cc i (os+i*1) ((i:Int)) rfl (eE E) (eE E) (by first | rfl | omega) (hlt) (by first | rfl | omega)) ?_
    refine sW 2 rfl (fun a u E D hk=>XY _ _ Tryz.underlying85 _ _ _ rfl (dD D 0) (Kept.cell hk (HC.out))) ?_
    exact fz
   intro w2 k2
   simp only [F8]
   refine Jx (.pointer (some ⟨q,0,none⟩)) rfl (JQ _ _ rfl (by kernel_rfl)) ?_
   simp only [Act.put,sA,sS,sZ]
   refine Kx ?_
   have kw2:=hkr.trans k2
   have HQ2:=Kj (k2.cell HQ.out)
   have HQS2:=Kj (HQS.out.kept k2)
   clear HC HQ HQS k2 hkr
   go_upto_region 8 with fail
   refine wEp 7 [iV (c:Int),pV q 0,pV q 0,pV q 1,vq,iV (X.length:Int),iV ((c+X.length:Nat):Int)] [21,22,23,24,25,26,27] ?_ ?_
   ·refine mE 1 3 ?_
    refine mE 2 6 ?_
    refine nD 3 22 1 ?_
    refine fD 4 23 2 88 1 1 0 ?_
    refine sW 5 rfl (fun a u E D hk=>Jy _ _ Tryz.underlying86 _ _ _ rfl (dD D 3) (Kept.cell hk (HQ2.out))) ?_
    refine sW 6 rfl (fun a u E D hk=>Qq _ slR _ _ _ _ rfl (dD D 4) HQS2.out) ?_
    refine sW 7 rfl (fun a u E D hk=>ZJ ((c+X.length:Nat):Int) (p:=(c:Int)) (q:=(X.length:Int)) rfl (dD D 0) (dD D 5) (by omega) (by omega) (by omega)) ?_
    exact fz
   intro w3 k3
   simp only [F8]
   refine Jx (.int .i64 ((c+X.length:Nat):Int)) rfl (JQ _ _ rfl (by kernel_rfl)) ?_
   simp only [Act.put,sA,sS,sZ]
   refine Kx ?_
   have kw3:=kw2.trans k3
   go_wp2
   exact ⟨⟨i+1,by omega,by go_num,⟨c+X.length,rfl,HC1⟩,kw3⟩,by simp [intOf];omega⟩
  have hc:c=N1:=by
   rw [hst,HC0.out,List.take_of_length_le (by rw [← EL.out,YU,HN.out];omega)]
  have kwr:=kw1.trans hkr
  subst hc
  clear HC0 hkr
  go_wp2
  exact ⟨⟨k+1,by omega,by go_num,by rw [HN1.out],kwr⟩,by simp [intOf];omega⟩
 have hk':k=3:=by omega
 subst hk'
 go_wp2
 go_ret
 exact ⟨rfl,hkr⟩
theorem entL_at {L:List Lev} {i m:Nat} {pr:Int} {X:List Ent} {e:Ent} (h:L[i]?=some (pr,X)) (he:X[m]?=some e):(ZX L)[(ZX (L.take i)).length+m]?=some e:=by
 have e1:L=L.take (i+1)++L.drop (i+1):=(List.take_append_drop _ _).symm
 have hm:=(List.getElem?_eq_some_iff.1 he).1
 rw [e1,JJY,jU h,List.take_append_of_le_length (by have:=(List.getElem?_eq_some_iff.1 h).1;rw [List.length_take];omega),List.take_take,Nat.min_eq_left (by omega)]
 rw [List.append_assoc,List.getElem?_append_right (by omega),Nat.add_sub_cancel_left,List.getElem?_append_left hm]
 exact he
theorem all_at {B:Bok} {k i m:Nat} {pr:Int} {X:List Ent} {e:Ent} (hk:k<3) (h:(B.sd (k:Int))[i]?=some (pr,X)) (he:X[m]?=some e):B.all[lenTo B k+(ZX ((B.sd (k:Int)).take i)).length+m]?=some e:=by
 have h0:=entL_at h he
 have hk3:k=0∨k=1∨k=2:=by omega
 rcases hk3 with rfl | rfl | rfl
 ·cases h
 ·have h1:(ZX B.buys)[(ZX (B.buys.take i)).length+m]?=some e:=h0
  have hl:=(List.getElem?_eq_some_iff.1 h1).1
  show (ZX B.buys++ZX B.sells)[0+(ZX (B.buys.take i)).length+m]?=some e
  rw [Nat.zero_add,List.getElem?_append_left hl]
  exact h1
 show (ZX B.buys++ZX B.sells)[(ZX B.buys).length+(ZX (B.sells.take i)).length+m]?=some e
 rw [Nat.add_assoc,List.getElem?_append_right (by omega),Nat.add_sub_cancel_left]
 exact h0
def zQ (t i:Int) (X:List Ent) (n:Nat):Prop:=∀ (j:Nat) (x:Ent),j<n→X[j]?=some x→x.is t i=false
theorem zQ.step {t i:Int} {X:List Ent} {n:Nat} {e:Ent} (h:zQ t i X n) (he:X[n]?=some e) (hn:¬ (e.o.tr=t∧e.o.id=i)):zQ t i X (n+1):=by
 intro j x hj hx
 by_cases hjn:j=n
 ·subst hjn
  rw [he] at hx
  injection hx with hx
  rw [← hx]
  simp [Ent.is]
  exact fun h1 h2=>hn ⟨h1,h2⟩
 exact h j x (by omega) hx
theorem rbfind_any (w:World) (F:Nat→Prop) (p:Nat) (B:Bok) (t id:Int) (h:RBk w F p B) (hI:Inv B):Gives 22 #[.pointer (some ⟨p,0,none⟩),.int .i64 t,.int .i64 id] w (.eq (.tuple #[(B.find t id).1.v,.bool (B.find t id).2])):=by
 refine XJ ?_
 have HB:=Kj h
 have HI:=Kj hI
 clear h hI
 go_enter Tryz.func22,Tryz.ntmps22
 go_upto_region 0 with fail
 refine QZ 2 [.fresh w.heap.size 30 JV.cells,bE false] rfl (by kernel_rfl) ?_ ?_
 ·refine nW 1 rfl (fun a u E D hk=>⟨_,_,QW 30 JV.cells rfl zO,⟨_,rfl,hk.size,Blk.new u _ _⟩,((Keep.refl _ u).alloc _)⟩) ?_
  refine sW 2 rfl (fun a u E D hk=>JQ _ _ rfl rfl) ?_
  exact fz
 intro gv wz hV kz
 rw [dq 2 [6,7]]
 simp only [Fz7]
 have hv6:(.fresh w.heap.size 30 JV.cells:Kn).p (gv 6) wz:=hV 0 6 (by kernel_rfl)
 generalize gv 6=v6 at hv6 ⊢
 rw [gQ hV 1 7 (.bool false)]
 clear hV
 obtain ⟨b6,rfl,hb6,hB6⟩:=hv6
 refine Kx ?_
 have HB6:=Kj hB6
 have l6:=hB6.lt
 have HBz:=Kj (HB.out.kept kz)
 clear hB6 HB
 go_wp2_with fail
 go_loopw [13] (fun q wr=>∃ (k:Nat),k≤3∧q=.int .i64 (k:Int)∧Hid (zQ t id B.all (lenTo B k))∧Kept wz wr) (fun q _=>3-(intOf q).toNat)
 case atStart=>exact ⟨0,by omega,rfl,fun j x hj=>(by simp [lenTo] at hj),Kept.refl _⟩
 obtain ⟨k,hk3,rfl,HNO,hkr⟩:=hrel
 by_cases hk:k<3
 ·have hst:=lenTo_step B hk
  have HBW:=HBz.out.kept hkr
  obtain ⟨L,hLe⟩:∃ L,B.sd (k:Int)=L:=⟨_,rfl⟩
  have hL:LvsOk L:=by rw [← hLe];exact HI.out.ok _
  obtain ⟨v,F1,hv0,hW⟩:=HBW.way3 hk
  rw [hLe] at hW
  obtain ⟨Z,G,eL,hW⟩:=hW
  have hn64:Z.length≤64:=by have:=hL.len;rw [← eL,YU] at this;exact this
  have HLe:=Kj hLe
  have HV:=Kj hv0
  have HW:=Kj hW
  have HL:=Kj hL
  have EL:=Kj eL
  obtain ⟨n,hn⟩:∃ n,Z.length=n:=⟨_,rfl⟩
  have HSL:=Kj hW.sl
  rw [hn] at HSL hn64
  have HN:=Kj hn
  clear hLe hv0 hW hL eL hn
  have HST:=Kj hst
  clear hst HBW
  go_upto_region 4 with fail
  refine wT 8 [pE p 0,iE (k:Int),pE p 0,pE p 0,pE p (0+k*1),.eq (v),iE (n:Int),iE 0] [16,17,18,19,20,21,22,23] ?_ ?_
  ·refine mE 1 0 ?_
   refine mE 2 8 ?_
   refine nD 3 16 0 ?_
   refine fD 4 18 2 51 0 0 0 ?_
   refine sW 5 rfl (fun a u E D hk=>VU 49 48 3 1 _ _ p 0 k rfl Tryz.underlying49 (by kernel_rfl) (dD D 3) (dD D 1) (by omega)) ?_
   refine sW 6 rfl (fun a u E D hk=>Jy _ _ Tryz.underlying48 _ _ _ rfl (dD D 4) (Kept.cell hk (HV.out))) ?_
   refine sW 7 rfl (fun a u E D hk=>Qq _ Vy _ _ _ _ rfl (dD D 5) HSL.out) ?_
   refine sW 8 rfl (fun a u E D hk=>Jj _ _ rfl rfl) ?_
   exact fz
  intro gv w1 hV k1
  simp only [Fz7]
  rw [gQ hV 5 21 v]
  rw [gQ hV 6 22 (.int .i64 (n:Int))]
  rw [gQ hV 7 23 (.int .i64 0)]
  clear hV
  have kw1:=hkr.trans k1
  have HW1:=Kj (HW.out.kept k1)
  have HSL1:=Kj (HSL.out.kept k1)
  clear HV HW HSL k1 hkr
  go_wp2_with fail
  rw [show (decide ((k:Int)<3))=true from Ky (by omega)]
  go_loopw [23] (fun q wr=>∃ (i:Nat),i≤n∧q=.int .i64 (i:Int)∧Hid (zQ t id B.all (lenTo B k+(ZX (L.take i)).length))∧Kept w1 wr) (fun q _=>n-(intOf q).toNat)
  case atStart=>exact ⟨0,Nat.zero_le _,rfl,by show zQ _ _ _ _;rw [List.take_zero];exact HNO.out,Kept.refl _⟩
  obtain ⟨i,hi,rfl,HNO2,hkr⟩:=hrel
  by_cases hlt:i<n
  ·skip
   obtain ⟨gs,os,cc,rfl⟩:=HSL1.out.some_ (by omega)
   obtain ⟨z,hz⟩:∃ z,Z[i]?=some z:=⟨Z[i]'(by rw [HN.out];omega),List.getElem?_eq_getElem (by rw [HN.out];omega)⟩
   obtain ⟨q,pr,X⟩:=z
   have hcell:=(HW1.out.kept hkr).cell hz
   have HC:=Kj hcell
   have HLV:=Kj ((HW1.out.kept hkr).lv (q,pr,X) (List.mem_of_getElem? hz))
   have HA:Hid (L[i]?=some (pr,X)):=by show _=_;rw [← EL.out];exact qU hz
   have hXl:X.length≤64:=by
    have h1:=entL_part L (i+1)
    rw [jU HA.out,List.length_append] at h1
    simp only at h1
    have:=HL.out.few
    omega
   obtain ⟨_,_,vq,hq1,hq2,_⟩:=HLV.out
   have HQ:=Kj (hq1.cell 1)
   have HQS:=Kj hq2
   obtain ⟨xn,hxn⟩:∃ y,X.length=y:=⟨_,rfl⟩
   rw [hxn] at HQS hXl
   have HXN:=Kj hxn
   clear hcell hz hq1 hq2 HLV hxn
   go_upto_region 6 with fail
   refine QZ 2 [pE gs (os+i*1),pE q 0] rfl (by kernel_rfl) ?_ ?_
   ·refine sW 1 rfl (fun a u E D hk=>Jz Vy _ _ (gs) (os) n cc i (os+i*1) ((i:Int)) rfl (eE E) (eE E) (by first | rfl | omega) (hlt) (by first | rfl | omega)) ?_
    refine sW 2 rfl (fun a u E D hk=>XY _ _ Tryz.underlying85 _ _ _ rfl (dD D 0) (Kept.cell hk (HC.out))) ?_
    exact fz
   intro gv w2 hV k2
   rw [dq 2 [25,26]]
   simp only [Fz7]
   rw [gQ hV 1 26 (.pointer (some ⟨q,0,none⟩))]
   clear hV
   refine Jx (.pointer (some ⟨q,0,none⟩)) rfl (JQ _ _ rfl (by kernel_rfl)) ?_
   simp only [Act.put,sA,sS,sZ]
   refine Kx ?_
   have HQ2:=Kj (k2.cell HQ.out)
   have HQS2:=Kj (HQS.out.kept k2)
   go_upto_region 7 with fail
   refine wT 6 [pE q 0,pE q 0,pE q 1,.eq (vq),iE (xn:Int),iE 0] [27,28,29,30,31,32] ?_ ?_
   ·refine mE 1 10 ?_
    refine nD 2 27 0 ?_
    refine fD 3 28 1 88 1 1 0 ?_
    refine sW 4 rfl (fun a u E D hk=>Jy _ _ Tryz.underlying86 _ _ _ rfl (dD D 2) (Kept.cell hk (HQ2.out))) ?_
    refine sW 5 rfl (fun a u E D hk=>Qq _ slR _ _ _ _ rfl (dD D 3) HQS2.out) ?_
    refine sW 6 rfl (fun a u E D hk=>Jj _ _ rfl rfl) ?_
    exact fz
   intro gv w3 hV k3
   simp only [Fz7]
   rw [gQ hV 3 30 vq]
   rw [gQ hV 4 31 (.int .i64 (xn:Int))]
   rw [gQ hV 5 32 (.int .i64 0)]
   clear hV
   have kw3:=(kw1.trans hkr).trans (k2.trans k3)
   have k13:Kept w1 w3:=hkr.trans (k2.trans k3)
   have HQS3:=Kj (HQS2.out.kept k3)
   clear HC HQ HQS HQ2 HQS2 k2 k3 hkr
   go_wp2_with fail
   go_loopw [32] (fun q wr=>∃ (m:Nat),m≤xn∧q=.int .i64 (m:Int)∧Hid (zQ t id B.all (lenTo B k+(ZX (L.take i)).length+m))∧Kept w3 wr) (fun q _=>xn-(intOf q).toNat)
   case atStart=>exact ⟨0,Nat.zero_le _,rfl,HNO2.out,Kept.refl _⟩
   obtain ⟨m,hm,rfl,HNO3,hkr⟩:=hrel
   by_cases hmt:m<xn
   ·obtain ⟨ge,oe,ce,rfl⟩:=HQS3.out.some_ (by omega)
    obtain ⟨e,he⟩:∃ e,X[m]?=some e:=⟨X[m]'(by rw [HXN.out];exact hmt),List.getElem?_eq_getElem (by rw [HXN.out];exact hmt)⟩
    have HE:Hid (wr.rangeAt ge (oe+m*10) e.cells):=JJ (HQS3.out.rng m e he) hkr
    have HAT:Hid (B.all[lenTo B k+(ZX (L.take i)).length+m]?=some e):=by
     have h1:=HA.out
     show _=_
     rw [← HLe.out] at h1 ⊢
     exact all_at hk h1 he
    have HB6r:=Kj (HB6.out.kept (kw3.trans hkr))
    have zr:=(kw3.trans hkr).size
    clear he
    go_upto_region 9 with fail
    refine QZ 3 [pE ge (oe+m*10),.eq (e.v),.fresh wr.heap.size 90 Xz.cells] rfl (by kernel_rfl) ?_ ?_
    ·refine sW 1 rfl (fun a u E D hk=>Jz slR _ _ (ge) (oe) xn ce m (oe+m*10) ((m:Int)) rfl (eE E) (eE E) (by first | rfl | omega) (hmt) (by first | rfl | omega)) ?_
     refine sD 2 34 0 e.cells Tryz.underlying90 (fun u hk=>JJ HE.out hk) (by rw [e.len10];exact szR) ?_
     refine nW 3 rfl (fun a u E D hk=>⟨_,_,QW 90 Xz.cells rfl zR,⟨_,rfl,hk.size,Blk.new u _ _⟩,((Keep.refl _ u).alloc _)⟩) ?_
     exact fz
    intro gv w4a hV k4a
    rw [dq 3 [34,35,12]]
    simp only [Fz7]
    have hv12:(.fresh wr.heap.size 90 Xz.cells:Kn).p (gv 12) w4a:=hV 2 12 (by kernel_rfl)
    generalize gv 12=v12 at hv12 ⊢
    rw [gQ hV 1 35 e.v]
    clear hV
    obtain ⟨b12,rfl,hb12,hB12⟩:=hv12
    refine Qj 90 b12 90 Xz.cells e.cells _ _ rfl rfl (by kernel_rfl) (by kernel_rfl) hB12 (by rw [Ent.len10];exact szR) (by rw [Ent.len10,Ent.len10]) (Ent.one _) ?_
    intro w4 hB4 hk4 hs4
    simp only [Act.put]
    refine Kx ?_
    have k4:Kept wr w4:=k4a.trans' hk4 (by omega)
    have kw4:=hkr.trans k4
    have HB12:=Kj (JW hB4)
    have HB64:=Kj (HB6r.out.kept k4)
    clear hB12 hB4 hk4 hs4 k4a HE HB6r k4
    by_cases hc1:e.o.tr=t
    ·by_cases hc2:e.o.id=id
     ·have HR:Hid (B.find t id=(e.o,true)):=by
       show _=_
       have h1:=idx_of HNO3.out HAT.out (by simp [Ent.is,hc1,hc2])
       unfold Bok.find findE
       rw [h1,HAT.out]
      go_upto_region 10 with fail
      refine wT 12 [pE b12 0,pE b12 0,iE e.o.tr,iE t,bE true,bE true,pE b12 0,pE b12 1,iE e.o.id,iE id,bE true,bE true] [36,37,38,39,40,41,42,43,44,45,46,47] ?_ ?_
      ·refine fE 1 12 90 0 0 0 ?_
       refine fD 2 36 0 30 0 0 0 ?_
       refine lD 3 37 1 Tryz.underlying3 (fun u hk=>JY (JJ HB12.out hk) 0 _ rfl) ?_
       refine mE 4 1 ?_
       refine aS 5 rfl (fun a u E D hk=>JU rfl (dD D 2) (dD D 3)) (Ky hc1) ?_
       refine mD 6 40 4 ?_
       refine fE 7 12 90 0 0 0 ?_
       refine fD 8 42 6 30 1 1 0 ?_
       refine lD 9 43 7 Tryz.underlying3 (fun u hk=>JY (JJ HB12.out hk) 1 _ rfl) ?_
       refine mE 10 2 ?_
       refine aS 11 rfl (fun a u E D hk=>JU rfl (dD D 8) (dD D 9)) (Ky hc2) ?_
       refine pT 12 41 46 5 10 ?_
       exact fz
      intro gv w5 hV k5
      simp only [Fz7]
      rw [gQ hV 11 47 (.bool true)]
      clear hV
      have HB125:=Kj (JJ HB12.out k5)
      have HB65:=Kj (HB64.out.kept k5)
      clear HB12 HB64 HNO3 HAT hc1 hc2
      go_upto_region 11 with fail
      refine QZ 2 [pE b12 0,.eq (e.o.v)] rfl (by kernel_rfl) ?_ ?_
      ·refine fE 1 12 90 0 0 0 ?_
       refine sD 2 48 0 e.o.cells Tryz.underlying30 (fun u hk=>xQ (JJ HB125.out hk)) (by rw [e.o.len9];exact JX) ?_
       exact fz
      intro gv w6 hV k6
      rw [dq 2 [48,49]]
      simp only [Fz7]
      rw [gQ hV 1 49 e.o.v]
      clear hV
      refine Qj 30 b6 30 JV.cells e.o.cells _ _ rfl rfl (by kernel_rfl) (by kernel_rfl) (HB65.out.kept k6) (by rw [Ord.len9];exact JX) (by rw [Ord.len9,Ord.len9]) (Ord.one1 _) ?_
      intro w7 hB7 hk7 hs7
      simp only [Act.put]
      refine Jx (.bool true) rfl (JQ _ _ rfl (by kernel_rfl)) ?_
      simp only [Act.put,sA,sS,sZ]
      refine Kx ?_
      go_wp2
      refine bodyPost_ret (XU (p:=6) (q:=7) rfl _ _ b6 _ e.o.cells true rfl rfl hB7 Tryz.underlying30 (by rw [Ord.len9];exact JX)) rfl ?_
      rw [HR.out]
      exact ⟨rfl,((((kz.trans kw3).trans kw4).trans k5).trans k6).trans' hk7 (by omega)⟩
     skip
     go_upto_region 10 with fail
     refine wT 12 [pE b12 0,pE b12 0,iE e.o.tr,iE t,bE true,bE true,pE b12 0,pE b12 1,iE e.o.id,iE id,bE false,bE false] [36,37,38,39,40,41,42,43,44,45,46,47] ?_ ?_
     ·refine fE 1 12 90 0 0 0 ?_
      refine fD 2 36 0 30 0 0 0 ?_
      refine lD 3 37 1 Tryz.underlying3 (fun u hk=>JY (JJ HB12.out hk) 0 _ rfl) ?_
      refine mE 4 1 ?_
      refine aS 5 rfl (fun a u E D hk=>JU rfl (dD D 2) (dD D 3)) (Ky hc1) ?_
      refine mD 6 40 4 ?_
      refine fE 7 12 90 0 0 0 ?_
      refine fD 8 42 6 30 1 1 0 ?_
      refine lD 9 43 7 Tryz.underlying3 (fun u hk=>JY (JJ HB12.out hk) 1 _ rfl) ?_
      refine mE 10 2 ?_
      refine aS 11 rfl (fun a u E D hk=>JU rfl (dD D 8) (dD D 9)) (Ku hc2) ?_
      refine pT 12 41 46 5 10 ?_
      exact fz
     intro gv w5 hV k5
     simp only [Fz7]
     rw [gQ hV 11 47 (.bool false)]
     clear hV
     have HN4:Hid (zQ t id B.all (lenTo B k+(ZX (L.take i)).length+(m+1))):=HNO3.out.step HAT.out (fun h=>hc2 h.2)
     clear HNO3 HAT
     go_wp2
     exact ⟨⟨m+1,by omega,by go_num,HN4,kw4.trans k5⟩,by simp [intOf];omega⟩
    skip
    go_upto_region 10 with fail
    refine wT 12 [pE b12 0,pE b12 0,iE e.o.tr,iE t,bE false,bE false,uE,uE,uE,uE,uE,bE false] [36,37,38,39,40,41,42,43,44,45,46,47] ?_ ?_
    ·refine fE 1 12 90 0 0 0 ?_
     refine fD 2 36 0 30 0 0 0 ?_
     refine lD 3 37 1 Tryz.underlying3 (fun u hk=>JY (JJ HB12.out hk) 0 _ rfl) ?_
     refine mE 4 1 ?_
     refine aS 5 rfl (fun a u E D hk=>JU rfl (dD D 2) (dD D 3)) (Ku hc1) ?_
     refine mD 6 40 4 ?_
     refine kS 7 5 ?_
     refine kS 8 5 ?_
     refine kS 9 5 ?_
     refine kS 10 5 ?_
     refine kS 11 5 ?_
     refine pF 12 41 5 ?_
     exact fz
    intro gv w5 hV k5
    simp only [Fz7]
    rw [gQ hV 11 47 (.bool false)]
    clear hV
    have HN4:Hid (zQ t id B.all (lenTo B k+(ZX (L.take i)).length+(m+1))):=HNO3.out.step HAT.out (fun h=>hc1 h.1)
    clear HNO3 HAT
    go_wp2
    exact ⟨⟨m+1,by omega,by go_num,HN4,kw4.trans k5⟩,by simp [intOf];omega⟩
   have HN4:Hid (zQ t id B.all (lenTo B k+(ZX (L.take (i+1))).length)):=by
    show zQ _ _ _ _
    rw [jU HA.out,List.length_append]
    have h1:=HNO3.out
    rw [show m=X.length by rw [HXN.out];omega,Nat.add_assoc] at h1
    exact h1
   have KK:Kept w1 wr:=k13.trans hkr
   clear HNO3 hkr
   go_wp2
   exact ⟨⟨i+1,by omega,by go_num,HN4,KK⟩,by simp [intOf];omega⟩
  have HN4:Hid (zQ t id B.all (lenTo B (k+1))):=by
   show zQ _ _ _ _
   rw [HST.out,HLe.out]
   have h1:=HNO2.out
   rw [List.take_of_length_le (by rw [← EL.out,YU,HN.out];omega)] at h1
   exact h1
  have kwr:=kw1.trans hkr
  clear HNO2 hkr
  go_wp2
  exact ⟨⟨k+1,by omega,by go_num,HN4,kwr⟩,by simp [intOf];omega⟩
 have hk':k=3:=by omega
 subst hk'
 have HR:Hid (B.find t id=(JV,false)):=by
  show _=_
  have h1:idxM t id B.all=B.all.length:=idx_none (fun j' x hj hx=>HNO.out j' x hj hx)
  unfold Bok.find findE
  rw [h1,List.getElem?_eq_none (Nat.le_refl _)]
 have HB6r:=Kj (HB6.out.kept hkr)
 clear HNO
 go_upto_region 15 with fail
 refine QZ 1 [.eq (JV.v)] rfl (by kernel_rfl) ?_ ?_
 ·refine sW 1 rfl (fun a u E D hk=>YJ 30 [] JV.cells rfl (by kernel_rfl)) ?_
  exact fz
 intro gv w4 hV k4
 rw [dq 1 [53]]
 simp only [Fz7]
 rw [gQ hV 0 53 JV.v]
 clear hV
 refine Qj 30 b6 30 JV.cells JV.cells _ _ rfl rfl (by kernel_rfl) (by kernel_rfl) (HB6r.out.kept k4) (by rw [Ord.len9];exact JX) rfl (Ord.one1 _) ?_
 intro w5 hB5 hk5 hs5
 simp only [Act.put]
 refine Jx (.bool false) rfl (JQ _ _ rfl (by kernel_rfl)) ?_
 simp only [Act.put,sA,sS,sZ]
 refine Kx ?_
 go_wp2
 refine bodyPost_ret (XU (p:=6) (q:=7) rfl _ _ b6 _ JV.cells false rfl rfl hB5 Tryz.underlying30 (by rw [Ord.len9];exact JX)) rfl ?_
 rw [HR.out]
 exact ⟨rfl,((kz.trans hkr).trans k4).trans' hk5 (by omega)⟩
end Go.Proofs.YtlbeibapbkccfaaGreat
namespace Go.Proofs.YtlbeibapbkccfaaGreat
open Go.RowKit
variable {pr:Int}
theorem Lvl.renew {T E:TypeId} {w w1 w2:World} {F:Nat→Prop} {p base:Nat} {X Y:List Ent} {v':Value} (h:Lvl pr T E w F p X) (hk:Kept w w1) (hb:w.heap.size≤base) (hs:Sl w1 E 10 v' Y.length (ents Y)) (ho:∀ b,v'.ownBlock=some b→base≤b) (hB:Blk w2 p T [.int .i64 pr,v']) (hk2:Keep (·=p) w1 w2) :
  ∃ F',Lvl pr T E w2 F' p Y∧Grow w F F'∧Keep F w w2:=by
 have hp:p<w.heap.size:=h.2.1 p h.1
 refine ⟨fun b=>F b∨v'.ownBlock=some b,⟨.inl h.1,fun b hb'=>?_,v',hB,hs.keep hk2 (fun b hb' e=>by have:=ho b hb';omega),fun b hb'=>⟨.inr hb',fun e=>by have:=ho b hb';omega⟩⟩,fun b hb'=>?_,(Keep.mono (T:=F) hk (fun _ _ h=>h.elim)).trans hk2 (fun b _ e=>by subst e;exact h.1)⟩
 ·have:=hk2.size
  rcases hb' with h1 | h1
  ·have:=h.2.1 b h1;have:=hk.size;omega
  have:=hs.lt h1;omega
 rcases hb' with h1 | h1
 ·exact .inl h1
 exact .inr (Kv hb (ho b h1))
theorem Lvl.renew2 {T E:TypeId} {w w1 w2:World} {F:Nat→Prop} {p base:Nat} {X Y:List Ent} {v':Value} (h:Lvl pr T E w F p X) (hk:Kept w w1) (hb:w.heap.size≤base) (hs:Sl w1 E 10 v' Y.length (ents Y)) (ho:∀ b,v'.ownBlock=some b→base≤b) (hB:Blk w2 p T [.int .i64 pr,v']) (hk2:Keep (·=p) w1 w2) :
  ∃ F',Lvl pr T E w2 F' p Y∧Grow w F F'∧Keep F w w2∧∀ b,F' b→F b∨base≤b:=by
 have hp:p<w.heap.size:=h.2.1 p h.1
 refine ⟨fun b=>F b∨v'.ownBlock=some b,⟨.inl h.1,fun b hb'=>?_,v',hB,hs.keep hk2 (fun b hb' e=>by have:=ho b hb';omega),fun b hb'=>⟨.inr hb',fun e=>by have:=ho b hb';omega⟩⟩,fun b hb'=>?_,(Keep.mono (T:=F) hk (fun _ _ h=>h.elim)).trans hk2 (fun b _ e=>by subst e;exact h.1),fun b hb'=>hb'.imp id (ho b)⟩
 ·have:=hk2.size
  rcases hb' with h1 | h1
  ·have:=h.2.1 b h1;have:=hk.size;omega
  have:=hs.lt h1;omega
 rcases hb' with h1 | h1
 ·exact .inl h1
 exact .inr (Kv hb (ho b h1))
theorem yZ {w u u':World} {base:Nat} (hk:Kept w u) (h:Keep (fun b=>base≤b) u u') (hb:w.heap.size≤base):Kept w u':=Keep.trans hk h (fun b hb' h'=>by omega)
section
variable {ops:Array Oper} {Q:Exit→Act→World→Prop} {a:Act} {w:World} {o:Oper} {rest:List Oper}
end
theorem radd_any (w:World) (F:Nat→Prop) (p:Nat) (X:List Ent) (c:Ord) (h:Lvl pr 88 90 w F p X) (hn:X.length≤100000000) :
  Calls Tryz.prog 78 #[.pointer (some ⟨p,0,none⟩),c.v] w fun e w'=>∃ F',e=.returned (.tuple #[])∧Lvl pr 88 90 w' F' p (X++[Ent.of c])∧Grow w F F'∧Keep F w w':=by
 have HL:=Kj h
 obtain ⟨h1,h2,v,hB,hS,h5⟩:=h
 have HB:=Kj hB
 have HS:=Kj hS
 clear hB hS h5 h1 h2
 go_enter Tryz.func78,Tryz.ntmps78
 go_upto_region 0 with fail
 refine QZ 1 [.fresh w.heap.size 30 (c.cells)] rfl (by kernel_rfl) ?_ ?_
 ·refine nW 1 rfl (fun a u E D hk=>⟨_,_,YX 30 _ (c.cells) rfl (eE E),⟨_,rfl,hk.size,Blk.new u _ _⟩,((Keep.refl _ u).alloc _)⟩) ?_
  exact fz
 intro gv w0 hV k0
 rw [dq 1 [3]]
 simp only [Fz7]
 have hv3:(.fresh w.heap.size 30 (c.cells):Kn).p (gv 3) w0:=hV 0 3 (by kernel_rfl)
 generalize gv 3=v3 at hv3 ⊢
 clear hV
 obtain ⟨g,rfl,hg,hG⟩:=hv3
 refine Kx ?_
 have HG:=Kj (JW hG)
 have HB0:=Kj (HB.out.kept k0)
 have HS0:=Kj (HS.out.kept k0)
 have z0:=k0.size
 clear hG
 go_upto_region 1 with fail
 refine JJJ 12 [.eq (.pointer (some ⟨p,0,none⟩)),.emp w0.heap.size 90,.eq (.pointer (some ⟨p,0,none⟩)),.eq (.pointer (some ⟨p,0,none⟩)),.eq (.pointer (some ⟨p,1,none⟩)),.eq (v),.sl w0.heap.size 90 10 X.length (ents X),.eq (c.v),.eq (c.v),.eq (.int .i64 c.tip),.eq ((Ent.mk c (c.tip)).v),.sl w0.heap.size 90 10 1 (Ent.mk c (c.tip)).cells] (.pointer (some ⟨p,0,none⟩)) ((fun v' u u'=>Sl u' 90 10 v' (X.length+1) (ents X++(Ent.mk c (c.tip)).cells)∧(∀ b,v'.ownBlock=some b→w0.heap.size≤b)∧Keep (fun b=>w0.heap.size≤b) u u')) (by kernel_rfl) rfl rfl (by kernel_rfl) (by kernel_rfl) (t_zero (d:=4) _ rfl rfl rfl (by kernel_rfl) (by kernel_rfl)) ?_ (fun a u hE hD hk=> (by obtain ⟨v',u',hr,hs',hk',ho'⟩:=Qy slR _ u (a.eval (.tmp 10)) (a.eval (.tmp 15)) X.length 1 (ents X) (Ent.mk c (c.tip)).cells ((hD 6 10 (by kernel_rfl))).1 ((hD 11 15 (by kernel_rfl))).1 (Ent.one _) (by unfold maxLen;omega) (by omega);have hq:=((hD 6 10 (by kernel_rfl))).2;exact t_last (o:=⟨some 16,_,_,_,_,_⟩) (R:=(fun v' u u'=>Sl u' 90 10 v' (X.length+1) (ents X++(Ent.mk c (c.tip)).cells)∧(∀ b,v'.ownBlock=some b→w0.heap.size≤b)∧Keep (fun b=>w0.heap.size≤b) u u')) (m:=12) (v:=v') (w':=u') rfl (JZ rfl _) (XQ slR (.tmp 10) (.tmp 15) _ _ rfl rfl rfl v' u' hr) ⟨hs',fun b hb=>(ho' b hb).elim (hq b) (fun h=>Kv hk.size h),hk'.mono (fun b _ hb=>hq b hb)⟩)) ?_
 ·refine nW 2 rfl (fun a u E D hk=>⟨_,_,Uy 86 90 10 rfl slR.und szR,⟨_,rfl,hk.size,Blk.new u _ _⟩,((Keep.refl _ u).alloc _)⟩) ?_
  refine mE 3 0 ?_
  refine nD 4 6 2 ?_
  refine fD 5 7 3 88 1 1 0 ?_
  refine sW 6 rfl (fun a u E D hk=>Jy _ _ Tryz.underlying86 _ _ _ rfl (dD D 4) (by rw [(HB0.out.kept hk).cell];rfl)) ?_
  refine QY 7 rfl (fun a u hE hD hk=>(by obtain ⟨v',u',hr,hp,hkk⟩:=VW slR _ u (a.eval (.tmp 5)) v X.length w0.heap.size _ ((dD hD 1)) (HS0.out.kept hk) (ents_one _) (by omega) (by omega) hk.size;exact jx v' u' rfl (JZ rfl _) (XQ slR (.tmp 5) (.tmp 9) _ v rfl rfl (dD hD 5) v' u' hr) hp hkk)) ?_
  refine sE 8 3 g 0 c.cells Tryz.underlying30 (fun u hk=>JJ HG.out hk) (by rw [c.len9];exact JX) ?_
  refine sE 9 3 g 0 c.cells Tryz.underlying30 (fun u hk=>JJ HG.out hk) (by rw [c.len9];exact JX) ?_
  refine cS 10 96 [c.v] rfl Tryz.func96 rfl (fun a u E D hk=>⟨ll (dD D 8) rfl,tip_any c u⟩) ?_
  refine sW 11 rfl (fun a u E D hk=>yJ 90 builtR _ _ (c) (c.tip) rfl (dD D 7) (dD D 9)) ?_
  refine nW 12 rfl (fun a u E D hk=>⟨_,_,Vz slR _ (Ent.mk c (c.tip)).cells (by omega) rfl (dD D 10) ((Ent.mk c (c.tip)).len10),(qQ u 90 10 _ w0.heap.size ((Ent.mk c (c.tip)).len10) (by omega) hk.size),((Keep.refl _ u).alloc _)⟩) ?_
  exact fz
 intro gv w1 w2 hV h0 hR hk1
 rw [dq 13 [4,5,6,7,8,9,10,11,12,13,14,15,16]]
 simp only [Fz7]
 have hT:=hR 16 (by kernel_rfl)
 generalize gv 16=v16 at hT ⊢
 rw [show gv 4=.pointer (some ⟨p,0,none⟩) from h0 4 (by kernel_rfl)]
 clear hV h0 hR
 obtain ⟨hs2,ho2,hk2⟩:=hT
 have k02:=yZ hk1 hk2 (Nat.le_refl _)
 have hB2:=HB0.out.kept k02
 refine Jx (.pointer (some ⟨p,0,none⟩)) rfl (YY (.tmp 4) ⟨p,0,none⟩ rfl (by kernel_rfl)) ?_
 simp only [Act.put,sA,sS,sZ]
 refine Jx (.pointer (some ⟨p,1,none⟩)) rfl (QV 88 1 1 (.tmp 17) (p) (0) (1) rfl (by kernel_rfl) (by kernel_rfl) rfl) ?_
 simp only [Act.put,sA,sS,sZ]
 refine Zz 86 p 1 88 _ v16 _ _ rfl rfl (by kernel_rfl) (by kernel_rfl) (by kernel_rfl) (VV hs2) (Yq hs2) hB2 (by simp) ?_
 intro w3 hB3 hk3 hs3
 simp only [Act.put]
 refine Kx ?_
 go_wp2
 go_end0
 obtain ⟨F',q1,q2,q3⟩:=HL.out.renew (k0.trans k02) z0 (Y:=X++[Ent.of c]) (v':=v16) (by rw [List.length_append,yz];exact hs2) ho2 (by simpa using hB3) hk3
 exact ⟨F',rfl,q1,q2,q3⟩
end Go.Proofs.YtlbeibapbkccfaaGreat
namespace Go.Proofs.YtlbeibapbkccfaaGreat
open Go.RowKit
variable {pr:Int}
theorem rremove2_any (w:World) (F:Nat→Prop) (p:Nat) (X:List Ent) (t i:Int) (h:Lvl pr 88 90 w F p X) (hlen:X.length≤100000000):Calls Tryz.prog 61 #[.pointer (some ⟨p,0,none⟩),.int .i64 t,.int .i64 i] w fun r w'=>∃ F',r=.returned (.tuple #[(YQ t i X).1.v,.bool (YQ t i X).2.1])∧Lvl pr 88 90 w' F' p (YQ t i X).2.2∧Grow w F F'∧Keep F w w'∧((YQ t i X).2.1=false→Kept w w'):=by
 have HL:=Kj h
 obtain ⟨h1,h2,v,hB,hS,h5⟩:=h
 obtain ⟨n,hn⟩:∃ n,X.length=n:=⟨_,rfl⟩
 rw [hn] at hS hlen
 have HN:=Kj hn
 have HB:=Kj hB
 have HS:=Kj hS
 have H2:=Kj h2
 have H1:=Kj h1
 clear hB hS h5 h1 h2 hn
 go_enter Tryz.func61,Tryz.ntmps61
 go_upto_region 0 with fail
 refine QZ 2 [.fresh w.heap.size 30 JV.cells,bE false] rfl (by kernel_rfl) ?_ ?_
 ·refine nW 1 rfl (fun a u E D hk=>⟨_,_,QW 30 JV.cells rfl zO,⟨_,rfl,hk.size,Blk.new u _ _⟩,((Keep.refl _ u).alloc _)⟩) ?_
  refine sW 2 rfl (fun a u E D hk=>JQ _ _ rfl rfl) ?_
  exact fz
 intro gv w00 hV k00
 rw [dq 2 [6,7]]
 simp only [Fz7]
 have hv6:(.fresh w.heap.size 30 JV.cells:Kn).p (gv 6) w00:=hV 0 6 (by kernel_rfl)
 generalize gv 6=v6 at hv6 ⊢
 rw [gQ hV 1 7 (.bool false)]
 clear hV
 obtain ⟨b6,rfl,hb6,hB6⟩:=hv6
 refine Kx ?_
 have HB0:=Kj (HB.out.kept k00)
 have HB6:=Kj hB6
 have l6:=hB6.lt
 have z00:=k00.size
 clear hB6
 go_upto_region 1 with fail
 refine wE 6 [pV p 0,pV p 0,pV p 1,v,iV (n:Int),iV 0] [10,11,12,13,14,15] ?_ ?_
 ·refine mE 1 0 ?_
  refine nD 2 10 0 ?_
  refine fD 3 11 1 88 1 1 0 ?_
  refine sW 4 rfl (fun a u E D hk=>Jy _ _ Tryz.underlying86 _ _ _ rfl (dD D 2) (by rw [(HB0.out.kept hk).cell];rfl)) ?_
  refine sW 5 rfl (fun a u E D hk=>Qq _ slR _ _ _ _ rfl (dD D 3) HS.out) ?_
  refine sW 6 rfl (fun a u E D hk=>Jj _ _ rfl rfl) ?_
  exact fz
 intro w0 k0
 simp only [F8]
 have kw0:=k00.trans k0
 clear k00
 go_wp2_with fail
 go_loopw [15] (fun q wr=>∃ (k:Nat),k≤n∧q=.int .i64 (k:Int)∧Hid (∀ (j:Nat) (x:Ent),j<k→X[j]?=some x→x.is t i=false)∧Kept w wr∧Kept w00 wr) (fun q _=>n-(intOf q).toNat)
 case atStart=>exact ⟨0,Nat.zero_le _,rfl,fun j x hj=>(by omega),kw0,k0⟩
 obtain ⟨k,hkn,rfl,HM,hkr,hk0r⟩:=hrel
 have HB6r:=Kj (HB6.out.kept hk0r)
 by_cases hlt:k<n
 ·obtain ⟨g,off,c,rfl⟩:=HS.out.some_ (by omega)
  obtain ⟨e,he⟩:∃ e,X[k]?=some e:=⟨X[k]'(by rw [HN.out];exact hlt),List.getElem?_eq_getElem (by rw [HN.out];exact hlt)⟩
  have HEI:=Kj he
  have HE:Hid (wr.rangeAt g (off+k*10) e.cells):=JJ (HS.out.rng k e he) hkr
  clear he
  go_upto_region 3 with fail
  refine QZ 4 [iE (k:Int),pE g (off+k*10),.eq (e.v),.fresh wr.heap.size 90 Xz.cells] rfl (by kernel_rfl) ?_ ?_
  ·refine mE 1 15 ?_
   refine sW 2 rfl (fun a u E D hk=>Jz slR _ _ (g) (off) n c k (off+k*10) ((k:Int)) rfl (eE E) (eE E) (by first | rfl | omega) (hlt) (by first | rfl | omega)) ?_
   refine sD 3 18 1 e.cells Tryz.underlying90 (fun u hk=>JJ HE.out hk) (by rw [e.len10];exact szR) ?_
   refine nW 4 rfl (fun a u E D hk=>⟨_,_,QW 90 Xz.cells rfl zR,⟨_,rfl,hk.size,Blk.new u _ _⟩,((Keep.refl _ u).alloc _)⟩) ?_
   exact fz
  intro gv w1 hV k1
  rw [dq 4 [17,18,19,9]]
  simp only [Fz7]
  rw [gQ hV 0 17 (.int .i64 (k:Int))]
  have hv9:(.fresh wr.heap.size 90 Xz.cells:Kn).p (gv 9) w1:=hV 3 9 (by kernel_rfl)
  generalize gv 9=v9 at hv9 ⊢
  rw [gQ hV 2 19 e.v]
  clear hV
  obtain ⟨b9,rfl,hb9,hB9⟩:=hv9
  refine Jx (.int .i64 (k:Int)) rfl (JQ _ _ rfl (by kernel_rfl)) ?_
  simp only [Act.put,sA,sS,sZ]
  refine Qj 90 b9 90 Xz.cells e.cells _ _ rfl rfl (by kernel_rfl) (by kernel_rfl) hB9 (by rw [Ent.len10];exact szR) (by rw [Ent.len10,Ent.len10]) (Ent.one _) ?_
  intro w2 hC2 hk2 hs2
  simp only [Act.put]
  refine Kx ?_
  have kr2:Kept wr w2:=k1.trans' hk2 (by omega)
  have kw2:=hkr.trans kr2
  have HC2:=Kj hC2
  have HC2r:=Kj (JW hC2)
  have z2:=kr2.size
  have zr:=hkr.size
  have l9:=hC2.lt
  clear hB9 hC2 hk2 k1 HE hs2
  have HB62:=Kj (HB6r.out.kept kr2)
  have k02:=hk0r.trans kr2
  have z02:=k02.size
  clear HB6r kr2 hkr hk0r
  by_cases hm:e.is t i=true
  ·have HR:Hid (YQ t i X=(e.o,true,X.eraseIdx k)):=by
    show _=_
    unfold YQ
    rw [idx_of HM.out HEI.out hm,HEI.out]
   clear HM
   go_upto_region 4 with fail
   refine wT 12 [pE b9 0,pE b9 0,iE e.o.tr,iE t,bE (decide ((e.o.tr:Int)=(t:Int))),bE (decide ((e.o.tr:Int)=(t:Int))),.cond (decide ((e.o.tr:Int)=(t:Int))) (pE b9 0),.cond (decide ((e.o.tr:Int)=(t:Int))) (pE b9 1),.cond (decide ((e.o.tr:Int)=(t:Int))) (iE e.o.id),.cond (decide ((e.o.tr:Int)=(t:Int))) (iE i),.cond (decide ((e.o.tr:Int)=(t:Int))) (bE (decide ((e.o.id:Int)=(i:Int)))),bE true] [20,21,22,23,24,25,26,27,28,29,30,31] ?_ ?_
   ·refine fE 1 9 90 0 0 0 ?_
    refine fD 2 20 0 30 0 0 0 ?_
    refine lD 3 21 1 Tryz.underlying3 (fun u hk=>JY (JJ HC2r.out hk) 0 _ rfl) ?_
    refine mE 4 1 ?_
    refine sW 5 rfl (fun a u E D hk=>JU rfl (dD D 2) (dD D 3)) ?_
    refine mD 6 24 4 ?_
    refine iC 7 5 rfl (fun a u E D hk hb=>QV 90 0 0 _ (b9) (0) (0) rfl (eE E) (by kernel_rfl) rfl) ?_
    refine iC 8 5 rfl (fun a u E D hk hb=>QV 30 1 1 _ (b9) (0) (1) rfl ((D 6 26 (by kernel_rfl)).1 hb) (by kernel_rfl) rfl) ?_
    refine iC 9 5 rfl (fun a u E D hk hb=>QX _ Tryz.underlying3 _ _ _ rfl ((D 7 27 (by kernel_rfl)).1 hb) (JY (JJ HC2r.out hk) 1 _ rfl)) ?_
    refine iC 10 5 rfl (fun a u E D hk hb=>Jj _ _ rfl (eE E)) ?_
    refine iC 11 5 rfl (fun a u E D hk hb=>JU rfl ((D 8 28 (by kernel_rfl)).1 hb) ((D 9 29 (by kernel_rfl)).1 hb)) ?_
    refine aS 12 rfl (fun a u E D hk=>Xj _ _ _ ((decide ((e.o.tr:Int)=(t:Int)))) ((decide ((e.o.id:Int)=(i:Int)))) rfl (dD D 5) (fun hb2=>((D 10 30 (by kernel_rfl)).1 hb2)) rfl) hm ?_
    exact fz
   intro gv w3 hV k3
   simp only [Fz7]
   rw [gQ hV 11 31 (.bool true)]
   clear hV
   have kw3:=kw2.trans k3
   have HC3:=Kj (HC2.out.kept k3)
   have HC3r:=Kj (JJ HC2r.out k3)
   have z3:=k3.size
   have k23:=k3
   clear HC2 HC2r k3 kw2
   have HS3:=Kj (HS.out.kept kw3)
   have HBp:=Kj (HB.out.kept kw3)
   obtain ⟨va,hva,hoa,hsa⟩:=yW slR _ n k (by omega) _ w3 HS3.out
   obtain ⟨vb,hvb,hob,hsb⟩:=jX slR _ n (k+1) (by omega) _ w3 HS3.out
   have HVA:=Kj hva
   have HVB:=Kj hvb
   have HSA:Hid (∀ u,Kept w3 u→Sl u 90 10 va k (ents (X.take k))):=fun u hk=>by
    have:=hsa u _ (HS3.out.kept hk)
    rw [show (ents X).take (k*10)=ents (X.take k) from yY Ent.cells 10 Ent.len10 _ k] at this
    exact this
   have HSB:Hid (∀ u,Kept w3 u→Sl u 90 10 vb (n-(k+1)) (ents (X.drop (k+1)))):=fun u hk=>by
    have:=hsb u _ (HS3.out.kept hk)
    rw [show (ents X).drop ((k+1)*10)=ents (X.drop (k+1)) from Uz Ent.cells 10 Ent.len10 _ (k+1)] at this
    exact this
   have hcast:((k+1:Nat):Int)=(k:Int)+1:=by omega
   rw [hcast] at HVB
   clear hva hoa hsa hvb hob hsb hm
   go_upto_region 5 with fail
   refine JJJ 16 [.eq (.pointer (some ⟨p,0,none⟩)),.emp w3.heap.size 90,.eq (.pointer (some ⟨p,0,none⟩)),.eq (.pointer (some ⟨p,0,none⟩)),.eq (.pointer (some ⟨p,1,none⟩)),.eq (.slice (some ⟨g,off,none⟩) n c),.eq (.int .i64 (k:Int)),.eq (va),.sl w3.heap.size 90 10 k (ents (X.take k)),.eq (.pointer (some ⟨p,0,none⟩)),.eq (.pointer (some ⟨p,0,none⟩)),.eq (.pointer (some ⟨p,1,none⟩)),.eq (.slice (some ⟨g,off,none⟩) n c),.eq (.int .i64 (k:Int)),.eq (.int .i64 ((k:Int)+1)),.eq (vb)] (.pointer (some ⟨p,0,none⟩)) ((fun v' u u'=>Sl u' 90 10 v' (k+(n-(k+1))) (ents (X.take k)++ents (X.drop (k+1)))∧(∀ b,v'.ownBlock=some b→w3.heap.size≤b)∧Keep (fun b=>w3.heap.size≤b) u u')) (by kernel_rfl) rfl rfl (by kernel_rfl) (by kernel_rfl) (t_zero (d:=32) _ rfl rfl rfl (by kernel_rfl) (by kernel_rfl)) ?_ (fun a u hE hD hk=> (by obtain ⟨v',u',hr,hs',hk',ho'⟩:=Qy slR _ u (a.eval (.tmp 40)) vb k (n-(k+1)) _ _ ((hD 8 40 (by kernel_rfl))).1 (HSB.out u hk) (ents_one _) (by unfold maxLen;omega) (by omega);have hq:=((hD 8 40 (by kernel_rfl))).2;exact t_last (o:=⟨some 48,_,_,_,_,_⟩) (R:=(fun v' u u'=>Sl u' 90 10 v' (k+(n-(k+1))) (ents (X.take k)++ents (X.drop (k+1)))∧(∀ b,v'.ownBlock=some b→w3.heap.size≤b)∧Keep (fun b=>w3.heap.size≤b) u u')) (m:=16) (v:=v') (w':=u') rfl (JZ rfl _) (XQ slR (.tmp 40) (.tmp 47) _ vb rfl rfl (dD hD 15) v' u' hr) ⟨hs',fun b hb=>(ho' b hb).elim (hq b) (fun h=>Kv hk.size h),hk'.mono (fun b _ hb=>hq b hb)⟩)) ?_
   ·refine nW 2 rfl (fun a u E D hk=>⟨_,_,Uy 86 90 10 rfl slR.und szR,⟨_,rfl,hk.size,Blk.new u _ _⟩,((Keep.refl _ u).alloc _)⟩) ?_
    refine mE 3 0 ?_
    refine nD 4 34 2 ?_
    refine fD 5 35 3 88 1 1 0 ?_
    refine sW 6 rfl (fun a u E D hk=>Jy _ _ Tryz.underlying86 _ _ _ rfl (dD D 4) (by rw [(HBp.out.kept hk).cell];rfl)) ?_
    refine mE 7 8 ?_
    refine sW 8 rfl (fun a u E D hk=>Wx slR _ _ _ va _ rfl (dD D 5) (dD D 6) (HVA.out u)) ?_
    refine QY 9 rfl (fun a u hE hD hk=>(by obtain ⟨v',u',hr,hp,hkk⟩:=VW slR _ u (a.eval (.tmp 33)) va k w3.heap.size _ ((dD hD 1)) (HSA.out u hk) (ents_one _) (by omega) (by omega) hk.size;exact jx v' u' rfl (JZ rfl _) (XQ slR (.tmp 33) (.tmp 39) _ va rfl rfl (dD hD 7) v' u' hr) hp hkk)) ?_
    refine mE 10 0 ?_
    refine nD 11 41 9 ?_
    refine fD 12 42 10 88 1 1 0 ?_
    refine sW 13 rfl (fun a u E D hk=>Jy _ _ Tryz.underlying86 _ _ _ rfl (dD D 11) (by rw [(HBp.out.kept hk).cell];rfl)) ?_
    refine mE 14 8 ?_
    refine sW 15 rfl (fun a u E D hk=>ZJ ((k:Int)+1) rfl (dD D 13) rfl rfl (by omega) (by omega)) ?_
    refine sW 16 rfl (fun a u E D hk=>VX slR _ _ _ vb _ rfl (dD D 12) (dD D 14) (HVB.out u)) ?_
    exact fz
   intro gv w1 w4 hV h0 hR hk1
   rw [dq 17 [32,33,34,35,36,37,38,39,40,41,42,43,44,45,46,47,48]]
   simp only [Fz7]
   have hT:=hR 48 (by kernel_rfl)
   generalize gv 48=v48 at hT ⊢
   rw [show gv 32=.pointer (some ⟨p,0,none⟩) from h0 32 (by kernel_rfl)]
   clear hV h0 hR
   obtain ⟨hs4,ho4,hk4⟩:=hT
   have k34:=yZ hk1 hk4 (Nat.le_refl _)
   have hB4:=HBp.out.kept k34
   refine Jx (.pointer (some ⟨p,0,none⟩)) rfl (YY (.tmp 32) ⟨p,0,none⟩ rfl (by kernel_rfl)) ?_
   simp only [Act.put,sA,sS,sZ]
   refine Jx (.pointer (some ⟨p,1,none⟩)) rfl (QV 88 1 1 (.tmp 49) (p) (0) (1) rfl (by kernel_rfl) (by kernel_rfl) rfl) ?_
   simp only [Act.put,sA,sS,sZ]
   refine Zz 86 p 1 88 _ v48 _ _ rfl rfl (by kernel_rfl) (by kernel_rfl) (by kernel_rfl) (VV hs4) (Yq hs4) hB4 (by simp) ?_
   intro w5 hB5 hk5 hs5
   simp only [Act.put]
   refine Kx ?_
   have hpl:=H2.out p H1.out
   have zw3:=kw3.size
   have HY:Hid (Sl w4 90 10 v48 (X.eraseIdx k).length (ents (X.eraseIdx k))):=by
    show Sl _ _ _ _ _ _
    rw [List.length_eraseIdx,if_pos (by rw [HN.out];exact hlt),HN.out,List.eraseIdx_eq_take_drop_succ]
    unfold ents at hs4 ⊢
    rw [List.flatMap_append]
    rw [show k+(n-(k+1))=n-1 by omega] at hs4
    exact hs4
   obtain ⟨F',q1,q2,q3,q4⟩:=HL.out.renew2 (kw3.trans k34) zw3 (Y:=X.eraseIdx k) HY.out ho4 (by simpa using hB5) hk5
   have hF6:¬ F' b6:=fun h=>by
    rcases q4 b6 h with h1 | h1
    ·have:=H2.out b6 h1;omega
    omega
   have HL5:=Kj q1
   have HG5:=Kj q2
   have HF5L:Hid (∀ b,F' b→b<w5.heap.size):=q1.2.1
   have HC5:=Kj (XW (JJ HC3r.out k34) hk5 (by omega))
   have HB65:=Kj (((HB62.out.kept k23).kept k34).keep hk5 (by omega))
   have z4:=k34.size
   have z5:=hk5.size
   clear hs4 ho4 hB5 hk5 hk4 hk1 k34 HY q1 q2 HVA HVB HSA HSB HS3 HBp HC3 HC3r
   go_upto_region 6 with fail
   refine wEp 2 [pV b9 0,e.o.v] [51,52] ?_ ?_
   ·refine fE 1 9 90 0 0 0 ?_
    refine sD 2 51 0 e.o.cells Tryz.underlying30 (fun u hk=>xQ (JJ HC5.out hk)) (by rw [e.o.len9];exact JX) ?_
    exact fz
   intro w6 k6
   simp only [F8]
   refine Qj 30 b6 30 JV.cells e.o.cells _ _ rfl rfl (by kernel_rfl) (by kernel_rfl) (HB65.out.kept k6) (by rw [Ord.len9];exact JX) (by rw [Ord.len9,Ord.len9]) (Ord.one1 _) ?_
   intro w7 hB7 hk7 hs7
   simp only [Act.put]
   refine Jx (.bool true) rfl (JQ _ _ rfl (by kernel_rfl)) ?_
   simp only [Act.put,sA,sS,sZ]
   refine Kx ?_
   go_wp2
   refine bodyPost_ret (XU (p:=6) (q:=7) rfl _ _ b6 _ e.o.cells true rfl rfl hB7 Tryz.underlying30 (by rw [Ord.len9];exact JX)) rfl ?_
   exact ⟨F',by rw [HR.out];rfl,by rw [HR.out];exact (HL5.out.kept k6).keep hk7 (fun b hb e=>hF6 (by rw [← e];exact hb)),HG5.out,(q3.kept k6).trans hk7 (fun b hb e=>by subst e;omega),fun h=>by rw [HR.out] at h;cases h⟩
  have hm':e.is t i=false:=by simpa using hm
  have HM2:Hid (∀ (j:Nat) (x:Ent),j<k+1→X[j]?=some x→x.is t i=false):=by
   intro j x hj hx
   by_cases hjk:j=k
   ·subst hjk
    rw [HEI.out] at hx
    injection hx with hx
    rw [← hx]
    exact hm'
   exact HM.out j x (by omega) hx
  clear hm HM
  go_upto_region 4 with fail
  refine wT 12 [pE b9 0,pE b9 0,iE e.o.tr,iE t,bE (decide ((e.o.tr:Int)=(t:Int))),bE (decide ((e.o.tr:Int)=(t:Int))),.cond (decide ((e.o.tr:Int)=(t:Int))) (pE b9 0),.cond (decide ((e.o.tr:Int)=(t:Int))) (pE b9 1),.cond (decide ((e.o.tr:Int)=(t:Int))) (iE e.o.id),.cond (decide ((e.o.tr:Int)=(t:Int))) (iE i),.cond (decide ((e.o.tr:Int)=(t:Int))) (bE (decide ((e.o.id:Int)=(i:Int)))),bE false] [20,21,22,23,24,25,26,27,28,29,30,31] ?_ ?_
  ·refine fE 1 9 90 0 0 0 ?_
   refine fD 2 20 0 30 0 0 0 ?_
   refine lD 3 21 1 Tryz.underlying3 (fun u hk=>JY (JJ HC2r.out hk) 0 _ rfl) ?_
   refine mE 4 1 ?_
   refine sW 5 rfl (fun a u E D hk=>JU rfl (dD D 2) (dD D 3)) ?_
   refine mD 6 24 4 ?_
   refine iC 7 5 rfl (fun a u E D hk hb=>QV 90 0 0 _ (b9) (0) (0) rfl (eE E) (by kernel_rfl) rfl) ?_
   refine iC 8 5 rfl (fun a u E D hk hb=>QV 30 1 1 _ (b9) (0) (1) rfl ((D 6 26 (by kernel_rfl)).1 hb) (by kernel_rfl) rfl) ?_
   refine iC 9 5 rfl (fun a u E D hk hb=>QX _ Tryz.underlying3 _ _ _ rfl ((D 7 27 (by kernel_rfl)).1 hb) (JY (JJ HC2r.out hk) 1 _ rfl)) ?_
   refine iC 10 5 rfl (fun a u E D hk hb=>Jj _ _ rfl (eE E)) ?_
   refine iC 11 5 rfl (fun a u E D hk hb=>JU rfl ((D 8 28 (by kernel_rfl)).1 hb) ((D 9 29 (by kernel_rfl)).1 hb)) ?_
   refine aS 12 rfl (fun a u E D hk=>Xj _ _ _ ((decide ((e.o.tr:Int)=(t:Int)))) ((decide ((e.o.id:Int)=(i:Int)))) rfl (dD D 5) (fun hb2=>((D 10 30 (by kernel_rfl)).1 hb2)) rfl) hm' ?_
   exact fz
  intro gv w3 hV k3
  simp only [Fz7]
  rw [gQ hV 11 31 (.bool false)]
  clear hV
  have kw3:=kw2.trans k3
  have HC3:=Kj (HC2.out.kept k3)
  have HC3r:=Kj (JJ HC2r.out k3)
  have z3:=k3.size
  have k23:=k3
  clear HC2 HC2r k3 kw2
  have k03:=k02.trans k23
  clear hm' HC3 HC3r
  go_wp2
  exact ⟨⟨k+1,by omega,by go_num,HM2,kw3,k03⟩,by simp [intOf];omega⟩
 have HR:Hid (YQ t i X=(JV,false,X)):=by
  show _=_
  unfold YQ
  rw [idx_none (fun j x hj hx=>HM.out j x (by rw [HN.out] at hj;omega) hx),List.getElem?_eq_none (Nat.le_refl _)]
 clear HM
 go_upto_region 8 with fail
 refine wEp 1 [JV.v] [54] ?_ ?_
 ·refine sW 1 rfl (fun a u E D hk=>YJ 30 [] JV.cells rfl (by kernel_rfl)) ?_
  exact fz
 intro w2 k2
 simp only [F8]
 refine Qj 30 b6 30 JV.cells JV.cells _ _ rfl rfl (by kernel_rfl) (by kernel_rfl) (HB6r.out.kept k2) (by rw [Ord.len9];exact JX) rfl (Ord.one1 _) ?_
 intro w3 hB3 hk3 hs3
 simp only [Act.put]
 refine Jx (.bool false) rfl (JQ _ _ rfl (by kernel_rfl)) ?_
 simp only [Act.put,sA,sS,sZ]
 refine Kx ?_
 go_wp2
 refine bodyPost_ret (XU (p:=6) (q:=7) rfl _ _ b6 _ JV.cells false rfl rfl hB3 Tryz.underlying30 (by rw [Ord.len9];exact JX)) rfl ?_
 have kw3:Kept w w3:=(hkr.trans k2).trans' hk3 (by omega)
 exact ⟨F,by rw [HR.out];rfl,by rw [HR.out];exact HL.out.kept kw3,Grow.refl _ _,Keep.mono (T:=F) kw3 (fun _ _ h=>h.elim),fun _=>kw3⟩
def rsd (s:Int) (v u:Value) (last no:Int):List Value:=if s=1 then xW v u last no else xW u v last no
def RRejoin (w:World) (F:Nat→Prop) (p:Nat) (B:Bok) (s:Int) (u:Value) (Fs:Nat→Prop):Prop:=
 ∀ (w':World) (v':Value) (L':List Lev) (Fs':Nat→Prop) (last no:Int),Keep (fun b=>Fs b∨b=p) w w'→Blk w' p 51 (rsd s v' u last no)→RWay w' Fs' v' L'→Grow w Fs Fs'→∃ F',RBk w' F' p (B.to s L' last no)∧Grow w F F'∧Keep F w w'∧∀ b,F b→F' b
theorem RBk.open_ {w:World} {F:Nat→Prop} {p:Nat} {B:Bok} (h:RBk w F p B) {s:Int} (hs:s=1∨s=2) :
  ∃ v u Z G Fs,levs Z=B.sd s∧WayZ 88 90 85 w Fs v Z G∧Blk w p 51 (rsd s v u B.last B.no)∧(∀ b,Fs b→F b∧b≠p)∧F p∧(∀ b,F b→b<w.heap.size)∧RRejoin w F p B s u Fs:=by
 obtain ⟨h1,h2,v1,v2,F1,F2,hB,hW1,hW2,h3,h4⟩:=h
 have hpl:=h2 p h1
 rcases hs with rfl | rfl
 ·obtain ⟨Z,G,e,hz⟩:=hW1
  refine ⟨v1,v2,Z,G,F1,e,hz,hB,fun b hb=>⟨(h3 b hb).1,(h3 b hb).2.1⟩,h1,h2,?_⟩
  intro w' v' L' Fs' last no hk hB' hW' hG
  have hlt:=hW'.lt
  have hkF:Keep F w w':=hk.mono (fun b _ hb=>hb.elim (fun h=>(h3 b h).1) (fun h=>by subst h;exact h1))
  refine ⟨fun b=>F b∨Fs' b,⟨.inl h1,fun b hb=>hb.elim (fun h=>Nat.lt_of_lt_of_le (h2 b h) hk.size) (hlt b),v',v2,Fs',F2,hB',hW',hW2.keep hk (fun b hb h=>h.elim (fun h=>(h3 b h).2.2 hb) (fun h=>(h4 b hb).2 h)),fun b hb=>?_,fun b hb=>⟨.inl (h4 b hb).1,(h4 b hb).2⟩⟩,fun b hb=>hb.elim .inl (fun h=>(hG b h).imp (fun h=>(h3 b h).1) id),hkF,fun b hb=>.inl hb⟩
  refine ⟨.inr hb,?_,?_⟩
  ·rcases hG b hb with h | h
   ·exact (h3 b h).2.1
   omega
  rcases hG b hb with h | h
  ·exact (h3 b h).2.2
  intro h'
  have:=h2 b (h4 b h').1
  omega
 obtain ⟨Z,G,e,hz⟩:=hW2
 refine ⟨v2,v1,Z,G,F2,e,hz,hB,h4,h1,h2,?_⟩
 intro w' v' L' Fs' last no hk hB' hW' hG
 have hlt:=hW'.lt
 have hkF:Keep F w w':=hk.mono (fun b _ hb=>hb.elim (fun h=>(h4 b h).1) (fun h=>by subst h;exact h1))
 refine ⟨fun b=>F b∨Fs' b,⟨.inl h1,fun b hb=>hb.elim (fun h=>Nat.lt_of_lt_of_le (h2 b h) hk.size) (hlt b),v1,v',F1,Fs',hB',hW1.keep hk (fun b hb h=>h.elim (fun h=>(h3 b hb).2.2 h) (fun h=>(h3 b hb).2.1 h)),hW',fun b hb=>⟨.inl (h3 b hb).1,(h3 b hb).2.1,fun h'=>?_⟩,fun b hb=>⟨.inr hb,?_⟩⟩,fun b hb=>hb.elim .inl (fun h=>(hG b h).imp (fun h=>(h4 b h).1) id),hkF,fun b hb=>.inl hb⟩
 ·rcases hG b h' with h | h
  ·exact (h3 b hb).2.2 h
  have:=h2 b (h3 b hb).1
  omega
 rcases hG b hb with h | h
 ·exact (h4 b h).2
 omega
end Go.Proofs.YtlbeibapbkccfaaGreat
namespace Go.Proofs.YtlbeibapbkccfaaGreat
open Go.RowKit
theorem RBk.open3 {w:World} {F:Nat→Prop} {p:Nat} {B:Bok} (h:RBk w F p B) {k:Nat} (hk:k<3) :
  ∃ v u Z G Fs,levs Z=B.sd (k:Int)∧WayZ 88 90 85 w Fs v Z G∧w.cell? ⟨p,0+k*1,none⟩=some v∧(0<Z.length→(k=1∨k=2)∧Blk w p 51 (rsd (k:Int) v u B.last B.no)∧(∀ b,Fs b→F b∧b≠p)∧RRejoin w F p B (k:Int) u Fs):=by
 by_cases h0:k=0
 ·subst h0
  obtain ⟨Z,G,e,hz⟩:=(Way.nil w:RWay w (fun _=>False) (.slice none 0 0) [])
  refine ⟨_,.slice none 0 0,Z,G,_,e,hz,h.cell0,fun hl=>?_⟩
  have hz0:Z=[]:=by simpa [levs] using e
  rw [hz0] at hl
  simp at hl
 have h12:k=1∨k=2:=by omega
 obtain ⟨v,u,Z,G,Fs,e,hz,hB,hFs,_,_,hJ⟩:=h.open_ (s:=(k:Int)) (by omega)
 refine ⟨v,u,Z,G,Fs,e,hz,?_,fun _=>⟨h12,hB,hFs,hJ⟩⟩
 rcases h12 with rfl | rfl
 ·exact hB.cell 1
 exact hB.cell 2
section
variable {P:Program} {ops:Array Oper} {Q:Exit→Act→World→Prop} {V:List Kn} {m n:Nat} {st:Nat→Bool} {a0:Act} {w0:World} {C:Nat→Value} {R:Value→World→World→Prop}
structure QInv (ops:Array Oper) (V:List Kn) (m n:Nat) (st:Nat→Bool) (a0:Act) (w0:World) (C:Nat→Value) (R:Value→World→World→Prop) (ls:Array Bool) (a:Act) (w:World):Prop where
 head:HeadInv .any ops n ls
 defers:a.defers=a0.defers
 size:a.tmps.size=a0.tmps.size
 env:∀ t,(∀ i,i<n→ls.getD i false=true→Qx ops i≠some t)→a.tmps[t]?=a0.tmps[t]?
 zero:∀ i,i<n→st i=true→ls.getD i false=true→∀ d,Qx ops i=some d→a.tmps.getD d undef=C i
 early:ls.getD m false=false→(∀ i d,i<n→i≠m→ls.getD i false=true→Qx ops i=some d→(jJ V i).p (a.tmps.getD d undef) w)∧Kept w0 w
 late:ls.getD m false=true→(∀ i,i<n→st i=false→ls.getD i false=true)∧∃ w1,Kept w0 w1∧(∀ i d,i<n→st i=false→i≠m→Qx ops i=some d→(jJ V i).p (a.tmps.getD d undef) w1)∧∀ d,Qx ops m=some d→R (a.tmps.getD d undef) w1 w
def QZero (P:Program) (ops:Array Oper) (Q:Exit→Act→World→Prop) (V:List Kn) (n:Nat) (st:Nat→Bool) (a0:Act) (C:Nat→Value):Prop:=∀ i,i<n→st i=true→∀ a w,FEnv ops n a0 a→FDep ops V i a w→wpOp P ops Q i (fun a' w'=>a'=a.put (Qx ops i) (C i)∧w'=w) a w
def sinkQ (ops:Array Oper) (m n:Nat) (st:Nat→Bool):Bool:=(decide (m<n) && !st m) && ((List.range n).all fun i=>st i || (i == m || (decide (i<m) && (List.range n).any fun j=>decide (i<j) && (!st j && Region.waitsFor .any ops j i))))
def strayB (ops:Array Oper) (n:Nat) (st:Nat→Bool):Bool:=(List.range n).all fun i=>!st i || match ops[i]? with
 | none=>false
 | some o=>o.after.all fun e=>!Region.binds .any e || st e.on
def QLast (P:Program) (ops:Array Oper) (Q:Exit→Act→World→Prop) (V:List Kn) (m n:Nat) (a0:Act) (w0:World) (R:Value→World→World→Prop):Prop:=
 ∀ a w,FEnv ops n a0 a→FDep ops V m a w→Kept w0 w→wpOp P ops Q m (fun a' w'=>∃ v,a'=a.put (Qx ops m) v∧R v w w') a w
theorem freeQ_go (hV0:V.length=n) (hK0:∀ i,i<n→st i=true→V[i]?=some (.eq (C i))) (hB:freeB ops n a0.tmps.size=true) (hsk:sinkQ ops m n st=true) (hsb:strayB ops n st=true) (hst:∀ i K,st i=false→i≠m→V[i]?=some K→FStep P ops Q V n a0 w0 i K)
  (hz:QZero P ops Q V n st a0 C) (hm:QLast P ops Q V m n a0 w0 R)
  (hfin:∀ a w,QInv ops V m n st a0 w0 C R (Array.replicate n true++Array.replicate (ops.size-n) false) a w→wpAny P .any ops Q (ops.size-n) (Array.replicate n true++Array.replicate (ops.size-n) false) a w) :
  ∀ (f:Nat) (U:List Nat) (ls:Array Bool) (a:Act) (w:World),U.length=f→U.Nodup→(∀ i,i ∈ U↔i<n∧ls.getD i true=false)→QInv ops V m n st a0 w0 C R ls a w→wpAny P .any ops Q (f+(ops.size-n)) ls a w:=by
 obtain ⟨hn,hsc,hseq,hall⟩:=jj hB
 simp only [sinkQ,Bool.and_eq_true,decide_eq_true_eq,Bool.not_eq_true'] at hsk
 obtain ⟨⟨hmn,hsm⟩,hsk⟩:=hsk
 have hsink:∀ i,i<n→st i=false→i≠m→i<m∧∃ q,q<n∧i<q∧st q=false∧Region.waitsFor .any ops q i=true:=by
  intro i hi hs him
  have h:=List.all_eq_true.1 hsk i (by simpa using hi)
  rw [hs] at h
  simp only [Bool.false_or,Bool.or_eq_true,beq_iff_eq,Bool.and_eq_true,decide_eq_true_eq,List.any_eq_true,List.mem_range,Bool.not_eq_true'] at h
  rcases h with h | ⟨h1,q,h2,h3,h4,h5⟩
  ·exact absurd h him
  exact ⟨h1,q,h2,h3,h4,h5⟩
 have hop:∀ i,i<n→∃ o d,ops[i]?=some o∧o.dst=some d∧d<a0.tmps.size∧(∀ j,j<i→Qx ops j≠some d)∧∀ e ∈ o.after,Region.binds .any e=true→e.on<i:=by
  intro i hi
  have h:=List.all_eq_true.1 hall i (by simpa using hi)
  cases ho:ops[i]? with
  | none=>rw [ho] at h;cases h
  | some o=>
   rw [ho] at h
   simp only [Bool.and_eq_true] at h
   cases hd:o.dst with
   | none=>rw [hd] at h;cases h.1
   | some d=>
    rw [hd] at h
    simp only [Bool.and_eq_true,decide_eq_true_eq,List.all_eq_true,List.mem_range,bne_iff_ne] at h
    refine ⟨o,d,rfl,hd,h.1.1,h.1.2,fun e he hb=>?_⟩
    have h2:=(Array.all_eq_true_iff_forall_mem.1 h.2) e he
    simpa [hb] using h2
 intro f
 induction f with
 | zero=>
  intro U ls a w hU _ hmem inv
  have hnil:U=[]:=List.eq_nil_of_length_eq_zero hU
  have hls:ls=Array.replicate n true++Array.replicate (ops.size-n) false:=by
   apply Array.ext
   ·simp [inv.head.size];omega
   intro i h1 h2
   have hsz:=inv.head.size
   by_cases hi:i<n
   ·have h3:¬ (i<n∧ls.getD i true=false):=by
     intro h
     have:=(hmem i).2 h
     rw [hnil] at this
     cases this
    have h4:ls.getD i true=true:=by
     cases hq:ls.getD i true with
     | true=>rfl
     | false=>exact (h3 ⟨hi,hq⟩).elim
    rw [Array.getElem_append_left (by simpa using hi)]
    simp [h1] at h4
    simp [h4]
   have h4:=inv.head.tail i (by omega) (by omega)
   rw [Array.getElem_append_right (by simpa using hi)]
   simp [h1] at h4
   simp [h4]
  rw [Nat.zero_add]
  subst hls
  exact hfin a w inv
 | succ f ih=>
  intro U ls a w hU hnd hmem inv
  have hsz:=inv.head.size
  rw [show f+1+(ops.size-n)=(f+(ops.size-n))+1 by omega]
  obtain ⟨u,hu⟩:∃ u,u ∈ U:=by
   cases U with
   | nil=>simp at hU
   | cons u U=>exact ⟨u,by simp⟩
  obtain ⟨hun,huf⟩:=(hmem u).1 hu
  refine ⟨fun h0=>?_,fun i hi=>?_⟩
  ·exfalso
   have key:∀ k i,i≤k→i<n→ls.getD i true=true:=by
    intro k
    induction k using Nat.strongRecOn with
    | _ k ihk=>
     intro i hik hin
     cases hq:ls.getD i true with
     | true=>rfl
     | false=>
      obtain ⟨o,d,ho,_,_,_,haft⟩:=hop i hin
      have:i ∈ Region.ready .any ops ls:=mem_ready.2 ⟨hq,o,ho,fun e he hb=>by
       have hlt:=haft e he hb
       have:=ihk (k-1) (by omega) e.on (by omega) (by omega)
       exact getD_tf this (by omega)⟩
      rw [h0] at this
      cases this
   rw [key u u (Nat.le_refl _) hun] at huf
   cases huf
  have hin:i<n:=Nat.lt_of_not_le fun h=>tail_waits (hsc (Nat.lt_of_le_of_lt h (by obtain ⟨_,o1,ho1,_⟩:=mem_ready.1 hi;exact (Array.getElem?_eq_some_iff.1 ho1).1))).1 (hsc (Nat.lt_of_le_of_lt h (by obtain ⟨_,o1,ho1,_⟩:=mem_ready.1 hi;exact (Array.getElem?_eq_some_iff.1 ho1).1))).2 (Nat.lt_of_le_of_lt h (by obtain ⟨_,o1,ho1,_⟩:=mem_ready.1 hi;exact (Array.getElem?_eq_some_iff.1 ho1).1)) inv.head _ u rfl hun huf i h hi
  obtain ⟨hiun,oi,hoi,hdeps⟩:=mem_ready.1 hi
  obtain ⟨o,d,ho,hd,hdlt,hne,haft⟩:=hop i hin
  obtain rfl:oi=o:=Option.some.inj (hoi.symm.trans ho)
  have hdi:Qx ops i=some d:=by simp [Qx,ho,hd]
  have hiff:ls.getD i false=false:=getD_both hiun
  have hne':∀ j,j<n→j≠i→Qx ops j≠some d:=by
   intro j hj hij hjd
   by_cases hji:j<i
   ·exact hne j hji hjd
   obtain ⟨oj,dj,hoj,hdj,_,hnej,_⟩:=hop j hj
   have:dj=d:=by
    have h1:Qx ops j=some dj:=by simp [Qx,hoj,hdj]
    rw [h1] at hjd
    injection hjd
   subst this
   exact hnej i (by omega) hdi
  have hdlt':d<a.tmps.size:=by rw [inv.size];exact hdlt
  have hself:∀ v,(a.put (some d) v).tmps.getD d undef=v:=fun v=>by simp [Act.put,hdlt']
  have hoth:∀ v j e,j<n→j≠i→Qx ops j=some e→(a.put (some d) v).tmps.getD e undef=a.tmps.getD e undef:=by
   intro v j e hj hji he
   have:d≠e:=fun h=>hne' j hj hji (by rw [he,h])
   simp only [Act.put,Array.getD_eq_getD_getElem?,qy]
   rw [if_neg (fun h=>this h.1)]
  have hfe:FEnv ops n a0 a:=by
   intro t v ht hv
   have ht':∀ k,k<n→ls.getD k false=true→Qx ops k≠some t:=fun k hkn _=>by simpa using List.all_eq_true.1 ht k (by simpa using hkn)
   have h1:=inv.env t ht'
   rw [← hv]
   simp only [Act.eval,Array.getD_eq_getD_getElem?,h1]
  have hU':∀ k,k ∈ U.erase i↔k<n∧(ls.setIfInBounds i true).getD k true=false:=by
   intro k
   rw [hnd.mem_erase_iff,hmem k]
   by_cases hki:k=i
   ·subst hki
    simp
   rw [getD_set_ne true (fun h=>hki h.symm)]
   simp [hki]
  have henv:∀ v t,(∀ k,k<n→(ls.setIfInBounds i true).getD k false=true→Qx ops k≠some t)→(a.put (some d) v).tmps[t]?=a0.tmps[t]?:=by
   intro v t ht
   have h1:=inv.env t (fun k hkn hl=>ht k hkn (getD_set_true hl))
   have h2:d≠t:=fun h=>ht i hin (by simp [show i<ls.size by omega]) (by rw [hdi,h])
   simp only [Act.put,qy]
   rw [if_neg (fun h=>h2 h.1),h1]
  have hlen:(U.erase i).length=f:=by rw [List.length_erase_of_mem ((hmem i).2 ⟨hin,hiun⟩)];omega
  have hsetk:∀ k,k≠i→(ls.setIfInBounds i true).getD k false=ls.getD k false:=fun k hk=>getD_set_ne false (fun h=>hk h.symm)
  have hseti:(ls.setIfInBounds i true).getD i false=true:=by simp [show i<ls.size by omega]
  have hdep:ls.getD m false=false→FDep ops V i a w:=by
   intro hme j e hje
   simp only [Bool.and_eq_true,beq_iff_eq,ho,Option.map_some,Option.some.injEq,Array.any_eq_true'] at hje
   obtain ⟨⟨x,hx,hxb,hxj⟩,hdj⟩:=hje
   subst hxj
   have hd1:=hdeps x hx hxb
   exact (inv.early hme).1 x.on e (by have:=haft x hx hxb;omega) (fun e1=>by rw [e1,hme] at hd1;cases hd1) hd1 hdj
  have hdepS:st i=true→FDep ops V i a w:=by
   intro hsi j e hje
   simp only [Bool.and_eq_true,beq_iff_eq,ho,Option.map_some,Option.some.injEq,Array.any_eq_true'] at hje
   obtain ⟨⟨x,hx,hxb,hxj⟩,hdj⟩:=hje
   subst hxj
   have h:=List.all_eq_true.1 hsb i (by simpa using hin)
   rw [hsi,ho] at h
   simp only [Bool.not_true,Bool.false_or] at h
   have h2:=(Array.all_eq_true_iff_forall_mem.1 h) x hx
   rw [hxb] at h2
   have hso:st x.on=true:=by simpa using h2
   have hxn:x.on<n:=by have:=haft x hx hxb;omega
   have h3:=inv.zero x.on hxn hso (hdeps x hx hxb) e hdj
   have:jJ V x.on=.eq (C x.on):=by unfold jJ;rw [List.getD_eq_getElem?_getD,hK0 x.on hxn hso];rfl
   rw [this]
   exact h3
  by_cases him:i=m
  ·subst him
   obtain ⟨hv,hk⟩:=inv.early hiff
   have hlau:∀ k j,j<n→st j=false→j≠i→i≤j+k→ls.getD j false=true:=by
    intro k
    induction k with
    | zero=>intro j hjn hjs hji hjk;have:=(hsink j hjn hjs hji).1;omega
    | succ k ihk=>
     intro j hjn hjs hji hjk
     obtain ⟨_,q,hq1,hq2,hqs,hq3⟩:=hsink j hjn hjs hji
     obtain ⟨oq,dq,hoq,_,_,_,_⟩:=hop q (by omega)
     obtain ⟨e,he,hb,heq⟩:=waits_on hq3 hoq
     by_cases hqi:q=i
     ·subst hqi
      obtain rfl:oq=oi:=Option.some.inj (hoq.symm.trans ho)
      rw [← heq]
      exact hdeps e he hb
     have:=inv.head.closed q oq hoq (ihk q (by omega) hqs hqi (by omega)) e he hb
     rw [← heq]
     exact this
   refine wpOp_mono ?_ (hm a w hfe (hdep hiff) hk)
   rintro a' w' ⟨v,rfl,hR⟩
   rw [hdi]
   refine ih (U.erase i) _ _ w' hlen (hnd.erase _) hU' ⟨inv.head.set hi hin,inv.defers,by simp [Act.put,inv.size],henv v,fun x hx hsx hl e he=>?_,fun hl=>?_,fun _=>⟨fun k hk1 hk2=>?_,w,hk,fun k e hk1 hk2 hk3 he=>?_,fun e he=>?_⟩⟩
   ·have hxi:x≠i:=fun h=>by rw [h,hsm] at hsx;cases hsx
    rw [hsetk x hxi] at hl
    rw [hoth v x e hx hxi he]
    exact inv.zero x hx hsx hl e he
   ·rw [hseti] at hl
    cases hl
   ·by_cases hki:k=i
    ·subst hki;exact hseti
    rw [hsetk k hki]
    exact hlau i k hk1 hk2 hki (by omega)
   ·rw [hoth v k e hk1 hk3 he]
    exact hv k e hk1 hk3 (hlau i k hk1 hk2 hk3 (by omega)) he
   rw [hdi] at he
   injection he with he
   subst he
   rw [hself]
   exact hR
  by_cases hi0:st i=true
  ·refine wpOp_mono ?_ (hz i hin hi0 a w hfe (hdepS hi0))
   rintro a' w' ⟨rfl,rfl⟩
   rw [hdi]
   refine ih (U.erase i) _ _ w' hlen (hnd.erase _) hU' ⟨inv.head.set hi hin,inv.defers,by simp [Act.put,inv.size],henv (C i),fun x hx hsx hl e he=>?_,fun hl=>⟨fun k e hkn hkm hlk he=>?_,?_⟩,fun hl=>?_⟩
   ·by_cases hxi:x=i
    ·subst hxi
     rw [hdi] at he
     injection he with he
     subst he
     exact hself _
    rw [hsetk x hxi] at hl
    rw [hoth _ x e hx hxi he]
    exact inv.zero x hx hsx hl e he
   ·rw [hsetk m (fun h=>him h.symm)] at hl
    by_cases hk0:k=i
    ·subst hk0
     rw [hdi] at he
     injection he with he
     subst he
     rw [hself]
     have:jJ V k=.eq (C k):=by unfold jJ;rw [List.getD_eq_getElem?_getD,hK0 k hin hi0];rfl
     rw [this]
     exact rfl
    rw [hsetk k hk0] at hlk
    rw [hoth _ k e hkn hk0 he]
    exact (inv.early hl).1 k e hkn hkm hlk he
   ·rw [hsetk m (fun h=>him h.symm)] at hl
    exact (inv.early hl).2
   rw [hsetk m (fun h=>him h.symm)] at hl
   obtain ⟨h1,w1,h2,h3,h4⟩:=inv.late hl
   refine ⟨fun k hk1 hk2=>by rw [hsetk k (fun h=>by rw [h,hi0] at hk2;cases hk2)];exact h1 k hk1 hk2,w1,h2,fun k e hk1 hk2 hk3 he=>?_,fun e he=>?_⟩
   ·rw [hoth _ k e hk1 (fun h=>by rw [h,hi0] at hk2;cases hk2) he]
    exact h3 k e hk1 hk2 hk3 he
   rw [hoth _ m e hmn (fun h=>him h.symm) he]
   exact h4 e he
  have hme:ls.getD m false=false:=by
   cases hq:ls.getD m false with
   | false=>rfl
   | true=>
    have:=(inv.late hq).1 i hin (by simpa using hi0)
    rw [hiff] at this
    cases this
  obtain ⟨hv,hk⟩:=inv.early hme
  have hK:V[i]?=some (jJ V i):=by
   unfold jJ
   rw [List.getD_eq_getElem?_getD,List.getElem?_eq_getElem (by omega)]
   rfl
  refine wpOp_mono ?_ (hst i _ (by simpa using hi0) him hK a w hfe (hdep hme) hk)
  rintro a' w' ⟨v,rfl,hv',hk'⟩
  rw [hdi]
  refine ih (U.erase i) _ _ w' hlen (hnd.erase _) hU' ⟨inv.head.set hi hin,inv.defers,by simp [Act.put,inv.size],henv v,fun x hx hsx hl e he=>?_,fun hl=>⟨fun k e hkn hkm hlk he=>?_,hk.trans hk'⟩,fun hl=>?_⟩
  ·have hxi:x≠i:=fun h=>hi0 (by rw [← h];exact hsx)
   rw [hsetk x hxi] at hl
   rw [hoth v x e hx hxi he]
   exact inv.zero x hx hsx hl e he
  ·by_cases hki:k=i
   ·subst hki
    rw [hdi] at he
    injection he with he
    subst he
    rw [hself]
    exact hv'
   rw [hsetk k hki] at hlk
   rw [hoth v k e hkn hki he]
   exact (jJ V k).st _ _ _ (hv k e hkn hkm hlk he) hk'
  rw [hsetk m (fun h=>him h.symm),hme] at hl
  cases hl
theorem actQ_filled {a:Act} {w:World} {ls:Array Bool} (hl:∀ i,i<n→ls.getD i false=true) (inv:QInv ops V m n st a0 w0 C R ls a w):a=⟨(Ux ops n).foldl (fun t d=>t.setIfInBounds d (a.tmps.getD d undef)) a0.tmps,a0.defers⟩:=by
 obtain ⟨t,df⟩:=a
 have h1:=inv.defers
 simp only at h1
 subst h1
 congr 1
 apply Array.ext_getElem?
 intro e
 rw [zU]
 have hsz:=inv.size
 simp only at hsz
 by_cases hm:e ∈ Ux ops n
 ·by_cases hlt:e<a0.tmps.size
  ·rw [if_pos ⟨hm,hlt⟩]
   have:e<t.size:=by omega
   simp [this]
  rw [if_neg (fun h=>hlt h.2),Array.getElem?_eq_none (by omega),Array.getElem?_eq_none (by omega)]
 rw [if_neg (fun h=>hm h.1)]
 exact inv.env e (fun i hi _ h=>hm (List.mem_filterMap.2 ⟨i,by simpa using hi,h⟩))
def QVals (ops:Array Oper) (V:List Kn) (m:Nat) (st:Nat→Bool) (g:Nat→Value) (w:World):Prop:=∀ i d,(!st i && decide (i<V.length) && i != m && Qx ops i == some d)=true→(jJ V i).p (g d) w
def QSteps (P:Program) (ops:Array Oper) (Q:Exit→Act→World→Prop) (V:List Kn) (n m:Nat) (st:Nat→Bool) (a0:Act) (w0:World):Nat→List Kn→Prop
 | _,[]=>True
 | i,K::Ks=>(st i=false→i≠m→FStep P ops Q V n a0 w0 i K)∧QSteps P ops Q V n m st a0 w0 (i+1) Ks
theorem qsteps_nil {i:Nat}:QSteps P ops Q V n m st a0 w0 i []:=trivial
theorem QQ {i:Nat} (j:Nat) {K:Kn} {Ks:List Kn} (hj:j=i+1) (h:FStep P ops Q V n a0 w0 i K) (hr:QSteps P ops Q V n m st a0 w0 j Ks):QSteps P ops Q V n m st a0 w0 i (K::Ks):=⟨fun _ _=>h,by subst hj;exact hr⟩
theorem Zy {i:Nat} (j:Nat) {K:Kn} {Ks:List Kn} (hj:j=i+1) (hm:st i=true∨i=m) (hr:QSteps P ops Q V n m st a0 w0 j Ks):QSteps P ops Q V n m st a0 w0 i (K::Ks):=⟨fun h h2=>(hm.elim (fun h3=>by rw [h3] at h;cases h) (fun h3=>absurd h3 h2)),by subst hj;exact hr⟩
theorem qsteps_at:∀ (Ks:List Kn) (i:Nat),QSteps P ops Q V n m st a0 w0 i Ks→∀ k K,Ks[k]?=some K→st (i+k)=false→i+k≠m→FStep P ops Q V n a0 w0 (i+k) K
 | [],_,_,k,K,h,_,_=>by simp at h
 | K0::Ks,i,h,0,K,hk,hs,hm=>by simp at hk;subst hk;exact h.1 hs hm
 | K0::Ks,i,h,k+1,K,hk,hs,hm=>by
  have e:i+(k+1)=i+1+k:=by omega
  rw [e] at hs hm ⊢
  exact qsteps_at Ks (i+1) h.2 k K (by simpa using hk) hs hm
theorem wp_freeQ {id:Nat} {a:Act} {w:World} {l:List Oper} (n m:Nat) (st:Nat→Bool) (V:List Kn) (C:Nat→Value) (R:Value→World→World→Prop) (hmo:P.follows Departure.mixedOrders=true) (hV:V.length=n) (hK0:∀ i,i<n→st i=true→V[i]?=some (.eq (C i))) (hB:freeB l.toArray n a.tmps.size=true) (hsk:sinkQ l.toArray m n st=true) (hsb:strayB l.toArray n st=true)
  (hz:QZero P l.toArray Q V n st a C) (hs:QSteps P l.toArray Q V n m st a w 0 V) (hm:QLast P l.toArray Q V m n a w R)
  (hf:∀ (g:Nat→Value) w1 w',QVals l.toArray V m st g w1→(∀ i,i<n→st i=true→∀ d,Qx l.toArray i=some d→g d=C i)→(∀ d,Qx l.toArray m=some d→R (g d) w1 w')→Kept w w1→wpList P l.toArray Q (l.drop n) ⟨(Ux l.toArray n).foldl (fun t d=>t.setIfInBounds d (g d)) a.tmps,a.defers⟩ w'):(Code.region id l.toArray true).wp P Q a w:=by
 have hB':=hB
 obtain ⟨hn,_,hseq,_⟩:=jj hB'
 have hn':n≤l.length:=by simpa using hn
 have hdl:(l.drop n).length=l.toArray.size-n:=by simp
 refine wp_region_any hmo ?_
 have:=freeQ_go (P:=P) (Q:=Q) (w0:=w) hV hK0 hB hsk hsb (fun i K hi him hK=>by
  have:=qsteps_at V 0 hs i K hK (by rw [Nat.zero_add];exact hi) (by omega)
  rwa [Nat.zero_add] at this) hz hm (fun b u inv=>?_) n (List.range n) (Array.replicate l.toArray.size false) a w.drew (by simp) List.nodup_range ?_ ?_
 ·have e:n+(l.toArray.size-n)=l.toArray.size:=by omega
  rw [e] at this
  exact this
 ·have hl:∀ i,i<n→(Array.replicate n true++Array.replicate (l.toArray.size-n) false).getD i false=true:=by
   intro i hi
   have hlt:i<(Array.replicate n true++Array.replicate (l.toArray.size-n) false).size:=by simp;omega
   rw [Array.getD,dif_pos hlt]
   show (Array.replicate n true++Array.replicate (l.toArray.size-n) false)[i]=true
   rw [Array.getElem_append_left (by simpa using hi)]
   simp
  have hmn:m<n:=by have:=hsk;simp only [sinkQ,Bool.and_eq_true,decide_eq_true_eq] at this;exact this.1.1
  obtain ⟨_,w1,h1,h2,h3⟩:=inv.late (hl m hmn)
  have h4:=hf (fun d=>b.tmps.getD d undef) w1 u (fun i d hid=>by
   simp only [Bool.and_eq_true,decide_eq_true_eq,beq_iff_eq,bne_iff_ne,Bool.not_eq_true'] at hid
   exact h2 i d (by omega) hid.1.1.1 hid.1.2 hid.2) (fun x hx hsx=>inv.zero x hx hsx (hl x hx)) h3 h1
  rw [← actQ_filled hl inv] at h4
  have:=wpAny_of_seq (P:=P) (md:=.any) (ops:=l.toArray) (Q':=Q) (l.drop n) n _ b u (fun j=>by simp) (by rw [hdl];exact hseq) h4
  rw [hdl] at this
  exact this
 ·intro i
  rw [List.mem_range]
  constructor
  ·intro hi
   exact ⟨hi,getD_in (by simp;omega) (getD_replicate_false _ _)⟩
  exact fun h=>h.1
 refine ⟨⟨by simp,fun j oj _ hl=>(by rw [getD_replicate_false] at hl;cases hl),fun t _ ht=>getD_in (by simpa using ht) (getD_replicate_false _ _)⟩,rfl,rfl,fun _ _=>rfl,fun _ _ _ hl=>(by rw [getD_replicate_false] at hl;cases hl),fun _=>⟨fun i d _ _ hl=>(by rw [getD_replicate_false] at hl;cases hl),Keep.drew (Keep.refl _ w)⟩,fun hl=>(by rw [getD_replicate_false] at hl;cases hl)⟩
theorem yj {i:Nat} {a:Act} {w:World} {o:Oper} (v:Value) (ho:ops[i]?=some o) (hw:Region.wanted o (yielded ops a.tmps)=true) (h:(execOp a.eval o).run P w=.ok (.value v) w):wpOp P ops Q i (fun a' w'=>a'=a.put (Qx ops i) v∧w'=w) a w:=by
 unfold wpOp
 simp only [ho,hw,if_true]
 refine .inl ?_
 unfold Oper.wp
 rw [h]
 exact ⟨by simp [Qx,ho],rfl⟩
end
end Go.Proofs.YtlbeibapbkccfaaGreat
