/-
 Laws and contracts that the walks rest on, part 6. No condition.
-/
import Derived.Test.YtklohceombpleaaGreatQW05
set_option linter.unusedVariables false
set_option maxRecDepth 100000
set_option maxHeartbeats 12800000
namespace Go.Proofs.YtklohceombpleaaGreat
open Go.RowKit
theorem Oc.set_err (x:Oc) (v:Value) (e:Int):(x.cells v).set 14 (.int .i64 e)=({ x with err:=e }:Oc).cells v:=rfl
def RAddIn (w:World) (F:Nat→Prop) (p:Nat) (x:Oc × Bok) (r:Ending) (w':World):Prop:=
 ∃ F' v,r=.returned (x.1.v v)∧RBk w' F' p x.2∧Sl w' 95 21 v x.1.f.length (fls x.1.f)∧(∀ b,v.ownBlock=some b→w.heap.size≤b∧¬ F' b)∧Grow w F F'∧Keep F w w'
theorem rerr_1 {B:Bok} {o:Ord} (h:¬ (o.right=true∧o.stop=0)):B.err o=1:=by unfold Bok.err;rw [if_pos h]
theorem rerr_5 {B:Bok} {o:Ord} (h:o.right=true∧o.stop=0) (j:B.has o.tr o.id=true):B.err o=5:=by unfold Bok.err;rw [if_neg (fun x=>x h),if_pos j]
theorem rerr_4 {B:Bok} {o:Ord} (h:o.right=true∧o.stop=0) (j:B.has o.tr o.id=false) (D:(o.k=1∨o.k=5)∧64≤B.len):B.err o=4:=by unfold Bok.err;rw [if_neg (fun x=>x h),if_neg (by rw [j];simp),if_pos D]
theorem rerr_11 {B:Bok} {o:Ord} (h:o.right=true∧o.stop=0) (j:B.has o.tr o.id=false) (D:¬ ((o.k=1∨o.k=5)∧64≤B.len)) (H:o.k=5∧o.meets (B.sd (3-o.side))=true):B.err o=11:=by unfold Bok.err;rw [if_neg (fun x=>x h),if_neg (by rw [j];simp),if_neg D,if_pos H]
theorem rerr_12 {B:Bok} {o:Ord} (h:o.right=true∧o.stop=0) (j:B.has o.tr o.id=false) (H:¬ ((o.k=1∨o.k=5)∧64≤B.len)) (I:¬ (o.k=5∧o.meets (B.sd (3-o.side))=true)) (D:o.k=4∧0<(B.matched o).left):B.err o=12:=by unfold Bok.err;rw [if_neg (fun x=>x h),if_neg (by rw [j];simp),if_neg H,if_neg I,if_pos D]
theorem rerr_0 {B:Bok} {o:Ord} (h:o.right=true∧o.stop=0) (j:B.has o.tr o.id=false) (H:¬ ((o.k=1∨o.k=5)∧64≤B.len)) (I:¬ (o.k=5∧o.meets (B.sd (3-o.side))=true)) (D:¬ (o.k=4∧0<(B.matched o).left)):B.err o=0:=by unfold Bok.err;rw [if_neg (fun x=>x h),if_neg (by rw [j];simp),if_neg H,if_neg I,if_neg D]
theorem rbadd_any (w:World) (F:Nat→Prop) (p:Nat) (B:Bok) (o:Ord) (h:RBk w F p B) (hI:Inv B) (hn:B.no≤1000000000000):Calls Tryz.prog 31 #[.pointer (some ⟨p,0,none⟩),o.v] w (RAddIn w F p (B.add o)):=by
 have c5:=h.lt
 have HB:=Kj h
 have HI:=Kj hI
 have ed:=h.1
 have hpw:=c5 p ed
 clear h hI
 go_enter Tryz.func31,Tryz.ntmps31
 go_upto_region 0 with fail
 refine tAp 2 [.k (.fresh w.heap.size 35 (o.cells)),.k (.fresh w.heap.size 66 (XU.cells (.slice none 0 0)))] (nS 0 (nV rfl (fun a u E D hk=>⟨_,_,XV 35 _ (o.cells) rfl (eE E),⟨_,rfl,hk.size,Blk.new u _ _⟩,((Keep.refl _ u).alloc _)⟩)) (nS 1 (nV rfl (fun a u E D hk=>⟨_,_,QX 66 (XU.cells (.slice none 0 0)) rfl zC,⟨_,rfl,hk.size,Blk.new u _ _⟩,((Keep.refl _ u).alloc _)⟩)) nZ)) ?_
 intro gv w0 hV k0
 rw [dq 2 [3,4]]
 simp only [Fz7]
 have dR:(.fresh w.heap.size 35 (o.cells):Kn).p (gv 3) w0:=hV 0 3 (by kernel_rfl)
 generalize gv 3=v3 at dR ⊢
 have a9:(.fresh w.heap.size 66 (XU.cells (.slice none 0 0)):Kn).p (gv 4) w0:=hV 1 4 (by kernel_rfl)
 generalize gv 4=v4 at a9 ⊢
 clear hV
 obtain ⟨O,rfl,hbi,ae⟩:=dR
 obtain ⟨b4,rfl,hb4,b9⟩:=a9
 refine Kx ?_
 have bZ:=Kj (JX ae)
 have cC:=Kj ae
 have ce:=Kj b9
 have li:=ae.lt
 have l4:=b9.lt
 have e3:O≠b4:=fun e=>by
  rw [e] at ae
  have:=ae.cell 0
  unfold Blk at ae b9
  rw [b9] at ae
  injection ae with hx
  injection hx with _ hx _
  exact absurd hx (by decide)
 clear ae b9
 go_upto_region 1 with fail
 refine tAp 5 [.v (o.v),pK O 6,iK o.qty,.v ((Oc.mk o [] o.qty false false 0).v (.slice none 0 0)),.k (.fresh w0.heap.size 66 (XU.cells (.slice none 0 0)))] (nS 0 (ldO bZ.out) (nS 2 (ldR bZ.out 6) (nS 3 (sV rfl (fun a u E D hk=>XZ _ [(0,.tmp 13),(2,.tmp 15)] ((Oc.mk o [] o.qty false false 0).cells (.slice none 0 0)) rfl (by simp only [List.map_cons,List.map_nil];rw [show a.eval (.tmp 13)=o.v from (dD D 0),show a.eval (.tmp 15)=.int .i64 o.qty from (dD D 2)];exact built_oc o o.qty))) (nS 4 (nV rfl (fun a u E D hk=>⟨_,_,QX 66 (XU.cells (.slice none 0 0)) rfl zC,⟨_,rfl,hk.size,Blk.new u _ _⟩,((Keep.refl _ u).alloc _)⟩)) nZ)))) ?_
 intro gv wb hV kb
 rw [dq 5 [13,14,15,16,5]]
 simp only [Fz7]
 have df:(.fresh w0.heap.size 66 (XU.cells (.slice none 0 0)):Kn).p (gv 5) wb:=hV 4 5 (by kernel_rfl)
 generalize gv 5=v5 at df ⊢
 rw [gQ hV 3 16 ((Oc.mk o [] o.qty false false 0).v (.slice none 0 0))]
 clear hV
 obtain ⟨I,rfl,hb5,dg⟩:=df
 refine YV 66 I 66 (XU.cells (.slice none 0 0)) ((Oc.mk o [] o.qty false false 0).cells (.slice none 0 0)) _ _ rfl rfl (by kernel_rfl) (by kernel_rfl) dg (by rw [Oc.len15];exact szC) (by rw [Oc.len15,Oc.len15]) (Oc.one _ _ rfl) ?_
 intro w1 d4 bb e5
 simp only [Act.put]
 refine Kx ?_
 have b0:Kept w0 w1:=kb.trans' bb (by omega)
 have k1:Kept w w1:=k0.trans b0
 have cz:=Kj d4
 have cL:=Kj (ce.out.kept b0)
 have cj:=Kj (cC.out.kept b0)
 have cP:=Kj (JJ bZ.out b0)
 have l5:=d4.lt
 have z0:=k0.size
 have z01:=b0.size
 have dB:¬ F b4:=fun h=>by have:=c5 b4 h;omega
 have dI:¬ F O:=fun h=>by have:=c5 O h;omega
 have dk:¬ F I:=fun h=>by have:=c5 I h;omega
 have dK:I≠b4:=by omega
 have dl:I≠O:=by omega
 clear dg d4 bb e5 kb bZ cC ce k0 b0
 obtain ⟨e0,db⟩:∃ e0,o.err=e0:=⟨_,rfl⟩
 have c8:=Kj db
 go_upto_region 2 with fail
 refine wA 3 [o.v,iV e0,iV e0] [17,18,6] (nS 0 (ldO cP.out) (nS 1 (cV Tryz.func27 (fun u hk=>(by have h:=JJx o u;rw [c8.out] at h;exact h))) nZ)) ?_
 intro w2 aw
 simp only [F8]
 have k2:=k1.trans aw
 have z2:=aw.size
 have aU:=Kj (cz.out.kept aw)
 have aQ:=Kj (cL.out.kept aw)
 have cu:=Kj (cj.out.kept aw)
 have bX:=Kj (JJ cP.out aw)
 clear cz cL cj cP aw k1 db
 by_cases hr:o.right=true
 ·have he:e0=0:=by have:=c8.out;unfold Ord.err at this;rw [if_pos hr] at this;exact this.symm
  by_cases al:o.stop=0
  ·have aO:Hid (o.right=true∧o.stop=0):=⟨hr,al⟩
   have dt:=Kj ((UQ o).1 hr)
   go_upto_region 3 with fail
   refine wA 7 [iV e0,bV false,bV false,pV O 8,iV o.stop,bV false,bV false] [19,20,21,22,23,24,25] (nS 1 (aV rfl (fun a u E D hk=>Xj rfl (dD D 0) rfl) (Ku (by omega))) (nS 4 (ldR bX.out 8) (nS 5 (aV rfl (fun a u E D hk=>Xj rfl (dD D 4) rfl) (Ku (by omega))) nZ))) ?_
   intro w3 k3
   simp only [F8]
   have cX:=k2.trans k3
   have z3:=k3.size
   have cl:=Kj (aU.out.kept k3)
   have cr:=Kj (aQ.out.kept k3)
   have cF:=Kj (cu.out.kept k3)
   have bU:=Kj (JJ bX.out k3)
   clear aU aQ cu bX k3 k2 hr al he c8
   obtain ⟨fo,fb,cM⟩:∃ fo fb,B.find o.tr o.id=(fo,fb):=⟨_,_,rfl⟩
   have dE:=Kj cM
   have aY:Hid (B.has o.tr o.id=fb):=by show _=_;unfold Bok.has;rw [cM]
   clear cM
   go_upto_region 6 with fail
   refine tAp 10 [pK p 0,pK O 0,iK o.tr,pK O 1,iK o.id,.v (.tuple #[fo.v,.bool fb]),.v (.tuple #[fo.v,.bool fb]),.v (fo.v),bK fb,.k (.fresh w3.heap.size 35 JV.cells)] (nS 2 (ldR bU.out 0) (nS 4 (ldR bU.out 1) (nS 5 (cV Tryz.func26 (fun u hk=>(by have h:=rbfind_any u F p B o.tr o.id (HB.out.kept (cX.trans hk)) HI.out;rw [dE.out] at h;exact h))) (nS 9 (nV rfl (fun a u E D hk=>⟨_,_,QX 35 JV.cells rfl zO,⟨_,rfl,hk.size,Blk.new u _ _⟩,((Keep.refl _ u).alloc _)⟩)) nZ)))) ?_
   intro gv w4 hV k4
   rw [dq 10 [29,30,31,32,33,34,28,35,36,7]]
   simp only [Fz7]
   have dJ:(.fresh w3.heap.size 35 JV.cells:Kn).p (gv 7) w4:=hV 9 7 (by kernel_rfl)
   generalize gv 7=v7 at dJ ⊢
   rw [gQ hV 7 35 fo.v]
   rw [gQ hV 8 36 (.bool fb)]
   clear hV
   obtain ⟨b7,rfl,hb7,dv⟩:=dJ
   refine sO fo dv ?_
   intro w5 dy a3 ec
   refine aT (.bool fb) ?_
   simp only [Act.put,sA,sS,sZ]
   refine Kx ?_
   have aM:Kept w3 w5:=k4.trans' a3 (by omega)
   have dC:=cX.trans aM
   have z5:=aM.size
   have ch:=Kj (cl.out.kept aM)
   have ci:=Kj (cr.out.kept aM)
   have cf:=Kj (cF.out.kept aM)
   have dT:=Kj (JJ bU.out aM)
   clear cl cr cF bU dv dy a3 ec k4 aM cX dE
   go_upto_region 7 with fail
   refine wA 1 [bV fb] [37] nZ ?_
   intro w6 k6
   simp only [F8]
   have bR:=dC.trans k6
   have z6:=k6.size
   have bM:=Kj (ch.out.kept k6)
   have bJ:=Kj (ci.out.kept k6)
   have cI:=Kj (cf.out.kept k6)
   have bS:=Kj (JJ dT.out k6)
   clear ch ci cf dT k6 dC
   cases fb with
   | true=>
    have j:=Kj (rerr_5 aO.out aY.out)
    have HA:Hid (B.add o=(⟨o,[],o.qty,false,false,5⟩,B)):=by show _=_;rw [yj (by rw [j.out];decide),j.out]
    have kE:Kept w w6:=bR
    have a1:=Kj (bM.out)
    have U:=Kj (bJ.out)
    go_upto_region 8 with fail
    refine wAp 1 [pV I 14] [38] nZ ?_
    intro we ke
    simp only [F8]
    refine ZJ 37 I 14 66 _ (.int .i64 5) _ (.const (.int .i64 5)) rfl rfl (by kernel_rfl) (by kernel_rfl) rfl rfl rfl (a1.out.kept ke) (by rw [Oc.len15];omega) ?_
    intro wf hF J a4
    simp only [Act.put]
    refine Kx ?_
    rw [Oc.set_err] at hF
    have kf:Kept w wf:=(kE.trans ke).trans' J (by omega)
    have a5:Hid (Blk wf I 66 ((Oc.mk o [] o.qty false false 5).cells (.slice none 0 0))):=hF
    have a7:=Kj ((U.out.kept ke).keep J (by omega))
    clear hF J a4 ke a1 U kE j
    go_upto_region 9 with fail
    refine wAp 1 [(Oc.mk o [] o.qty false false 5).v (.slice none 0 0)] [39] (nS 0 (ldS Tryz.underlying66 (fun u hk=>JX (a5.out.kept hk)) (by rw [Oc.len15];exact szC)) nZ) ?_
    intro wy ky
    simp only [F8]
    refine YV 66 b4 66 (XU.cells (.slice none 0 0)) ((Oc.mk o [] o.qty false false 5).cells (.slice none 0 0)) _ _ rfl rfl (by kernel_rfl) (by kernel_rfl) (a7.out.kept ky) (by rw [Oc.len15];exact szC) (by rw [Oc.len15,Oc.len15]) (Oc.one _ _ rfl) ?_
    intro wx a2 N aD
    simp only [Act.put]
    refine Kx ?_
    go_wp2
    refine bodyPost_ret (QU (p:=4) rfl _ _ b4 _ ((Oc.mk o [] o.qty false false 5).cells (.slice none 0 0)) rfl a2 Tryz.underlying66 (by rw [Oc.len15];exact szC)) rfl ?_
    rw [HA.out]
    have kk:Kept w wx:=(kf.trans ky).trans' N (by omega)
    exact ⟨F,.slice none 0 0,rfl,HB.out.kept kk,Sl.nil _ _ _,fun b H=>by simp [Value.ownBlock] at H,Grow.refl _ _,Keep.mono (T:=F) kk (fun _ _ h=>h.elim)⟩
   | false=>
    obtain ⟨bf,dp⟩:∃ bf,((decide ((o.k:Int)=(1:Int)) || decide ((o.k:Int)=(5:Int))) && decide ((64:Int)≤((B.len:Int):Int)))=bf:=⟨_,rfl⟩
    have c7:=Kj dp
    clear dp
    go_upto_region 10 with fail
    refine tA 13 [pK O 4,iK o.k,bK (decide ((o.k:Int)=(1:Int))),bK (decide ((o.k:Int)=(1:Int))),.k (.cond (!(decide ((o.k:Int)=(1:Int)))) (pE O 4)),.k (.cond (!(decide ((o.k:Int)=(1:Int)))) (iE o.k)),.k (.cond (!(decide ((o.k:Int)=(1:Int)))) (bE (decide ((o.k:Int)=(5:Int))))),bK ((decide ((o.k:Int)=(1:Int))) || (decide ((o.k:Int)=(5:Int)))),bK ((decide ((o.k:Int)=(1:Int))) || (decide ((o.k:Int)=(5:Int)))),.k (.cond ((decide ((o.k:Int)=(1:Int))) || (decide ((o.k:Int)=(5:Int)))) (pE p 0)),.k (.cond ((decide ((o.k:Int)=(1:Int))) || (decide ((o.k:Int)=(5:Int)))) (iE (B.len:Int))),.k (.cond ((decide ((o.k:Int)=(1:Int))) || (decide ((o.k:Int)=(5:Int)))) (bE (decide ((64:Int)≤((B.len:Int):Int))))),bK bf] [40,41,42,43,44,45,46,47,48,49,50,51,52] (nS 1 (ldR bS.out 4) (nS 2 (sV rfl (fun a u E D hk=>JY rfl (dD D 1) rfl)) (nS 4 (fS (uC 5 3 rfl (fun a u E D hk H=>Jz 35 4 4 _ (O) (0) (4) rfl (eE E) (by kernel_rfl) rfl) fz)) (nS 5 (fS (uC 6 3 rfl (fun a u E D hk H=>JZ _ Tryz.underlying3 _ _ _ rfl ((D 4 44 (by kernel_rfl)).1 H) (Xx (JJ bS.out hk) 4 _ rfl)) fz)) (nS 6 (fS (uC 7 3 rfl (fun a u E D hk H=>JY rfl ((D 5 45 (by kernel_rfl)).1 H) rfl) fz)) (nS 7 (sV rfl (fun a u E D hk=>ZY _ _ _ ((decide ((o.k:Int)=(1:Int)))) ((decide ((o.k:Int)=(5:Int)))) rfl (dD D 3) rfl (fun d2=>((D 6 46 (by kernel_rfl)).1 d2)))) (nS 9 (fS (iC 10 8 rfl (fun a u E D hk H=>Jq _ _ rfl (eE E)) fz)) (nS 10 ((fun a u hE hD hk=>f_if _ rfl rfl rfl (dD hD 8) (fun H=>Zj 56 #[.pointer (some ⟨p,0,none⟩)] rfl (VY rfl rfl (dD hD 8) (VU H)) (Jy 56 _ [.tmp 49] _ [.pointer (some ⟨p,0,none⟩)] Tryz.func56 (by kernel_rfl) (by kernel_rfl) rfl (show [a.eval (.tmp 49)]=[.pointer (some ⟨p,0,none⟩)] from (by rw [show a.eval (.tmp 49)=.pointer (some ⟨p,0,none⟩) from ((hD 9 49 (by kernel_rfl)).1 H)] <;> rfl)) u) (rblen_any u F p B (HB.out.kept (bR.trans hk)) HI.out)))) (nS 11 (fS (iC 12 8 rfl (fun a u E D hk H=>WJ rfl ((D 10 50 (by kernel_rfl)).1 H) rfl) fz)) (nS 12 (aV rfl (fun a u E D hk=>Qj _ _ _ (((decide ((o.k:Int)=(1:Int))) || (decide ((o.k:Int)=(5:Int))))) ((decide ((64:Int)≤((B.len:Int):Int)))) rfl (dD D 8) (fun d2=>((D 11 51 (by kernel_rfl)).1 d2)) rfl) c7.out) nZ)))))))))) ?_
    intro gv w7 hV k7
    simp only [Fz7]
    rw [gQ hV 12 52 (.bool bf)]
    clear hV
    have bW:=bR.trans k7
    have z7:=k7.size
    have bH:=Kj (bM.out.kept k7)
    have bj:=Kj (bJ.out.kept k7)
    have ca:=Kj (cI.out.kept k7)
    have cQ:=Kj (JJ bS.out k7)
    clear bM bJ cI bS k7 bR
    cases bf with
    | true=>
     have j:=Kj (rerr_4 aO.out aY.out (by have:=c7.out;simp at this;exact ⟨this.1,by omega⟩))
     have HA:Hid (B.add o=(⟨o,[],o.qty,false,false,4⟩,B)):=by show _=_;rw [yj (by rw [j.out];decide),j.out]
     have kE:Kept w w7:=bW
     have a1:=Kj (bH.out)
     have U:=Kj (bj.out)
     go_upto_region 11 with fail
     refine wAp 1 [pV I 14] [53] nZ ?_
     intro we ke
     simp only [F8]
     refine ZJ 37 I 14 66 _ (.int .i64 4) _ (.const (.int .i64 4)) rfl rfl (by kernel_rfl) (by kernel_rfl) rfl rfl rfl (a1.out.kept ke) (by rw [Oc.len15];omega) ?_
     intro wf hF J a4
     simp only [Act.put]
     refine Kx ?_
     rw [Oc.set_err] at hF
     have kf:Kept w wf:=(kE.trans ke).trans' J (by omega)
     have a5:Hid (Blk wf I 66 ((Oc.mk o [] o.qty false false 4).cells (.slice none 0 0))):=hF
     have a7:=Kj ((U.out.kept ke).keep J (by omega))
     clear hF J a4 ke a1 U kE j
     go_upto_region 12 with fail
     refine wAp 1 [(Oc.mk o [] o.qty false false 4).v (.slice none 0 0)] [54] (nS 0 (ldS Tryz.underlying66 (fun u hk=>JX (a5.out.kept hk)) (by rw [Oc.len15];exact szC)) nZ) ?_
     intro wy ky
     simp only [F8]
     refine YV 66 b4 66 (XU.cells (.slice none 0 0)) ((Oc.mk o [] o.qty false false 4).cells (.slice none 0 0)) _ _ rfl rfl (by kernel_rfl) (by kernel_rfl) (a7.out.kept ky) (by rw [Oc.len15];exact szC) (by rw [Oc.len15,Oc.len15]) (Oc.one _ _ rfl) ?_
     intro wx a2 N aD
     simp only [Act.put]
     refine Kx ?_
     go_wp2
     refine bodyPost_ret (QU (p:=4) rfl _ _ b4 _ ((Oc.mk o [] o.qty false false 4).cells (.slice none 0 0)) rfl a2 Tryz.underlying66 (by rw [Oc.len15];exact szC)) rfl ?_
     rw [HA.out]
     have kk:Kept w wx:=(kf.trans ky).trans' N (by omega)
     exact ⟨F,.slice none 0 0,rfl,HB.out.kept kk,Sl.nil _ _ _,fun b H=>by simp [Value.ownBlock] at H,Grow.refl _ _,Keep.mono (T:=F) kk (fun _ _ h=>h.elim)⟩
    | false=>
     have b2:Hid (¬ ((o.k=1∨o.k=5)∧64≤B.len)):=fun h=>by
      have:=c7.out
      simp at this
      have:=this h.1
      omega
     obtain ⟨k,ef,hk⟩:∃ k:Nat,(k=1∨k=2)∧3-o.side=(k:Int):=by
      have h1:=dt.out
      by_cases h2:o.side=1
      ·exact ⟨2,.inr rfl,by omega⟩
      exact ⟨1,.inl rfl,by omega⟩
     have dz:=Kj hk
     obtain ⟨L,bP⟩:∃ L,B.sd (k:Int)=L:=⟨_,rfl⟩
     have hL:LvsOk L:=by rw [← bP];exact HI.out.ok _
     obtain ⟨v,F1,dx,Z,G,eL,hW⟩:=(HB.out.kept bW).way ef
     rw [bP] at eL
     have dN:=Kj bP
     have HV:=Kj dx
     have HW:=Kj hW
     have EL:=Kj eL
     obtain ⟨n,d5⟩:∃ n,Z.length=n:=⟨_,rfl⟩
     have d1:=Kj hW.sl
     rw [d5] at d1
     have HN:=Kj d5
     clear bP hL dx hW eL d5 c7
     go_upto_region 13 with fail
     refine wHp 8 [pV p 0,pV O 3,iV o.side,iV (k:Int),pV p 0,pV p 0,pV p (0+k*1),v] [55,56,57,58,59,60,61,62] (nS 2 (ldR cQ.out 3) (nS 3 (sV rfl (fun a u E D hk=>Zz (k:Int) (p:=(3:Int)) (q:=o.side) rfl rfl (dD D 2) (by omega) (by omega) (by omega))) (nS 6 (sV rfl (fun a u E D hk=>VQ 58 57 3 1 _ _ p 0 k rfl Tryz.underlying58 (by kernel_rfl) (dD D 5) (dD D 3) (by omega))) (nS 7 (ldC HV.out) nZ)))) ?_
     intro d6 ak
     simp only [F8]
     refine aT (v) ?_
     simp only [Act.put,sA,sS,sZ]
     refine Kx ?_
     have cG:=bW.trans ak
     have z13:=ak.size
     have bt:=Kj (bH.out.kept ak)
     have bC:=Kj (bj.out.kept ak)
     have bu:=Kj (ca.out.kept ak)
     have aa:=Kj (JJ cQ.out ak)
     have bs:=Kj (HW.out.kept ak)
     have ah:=Kj (d1.out.kept ak)
     clear bH bj ca cQ ak bW HV HW d1 hk
     obtain ⟨bm,dh⟩:∃ bm,(decide (o.k=5) && o.meets L)=bm:=⟨_,rfl⟩
     have b1:=Kj dh
     clear dh
     go_upto_region 14 with fail
     go_cut [80] (fun a wx=>a=.bool bm∧Kept d6 wx)
     case first=>
      by_cases a3:o.k=5
      ·by_cases hn0:0<n
       ·obtain ⟨gs,os,c,rfl⟩:=ah.out.some_ hn0
        obtain ⟨z,ZR,hZ⟩:∃ z ZR,Z=z::ZR:=by
         cases Z with
         | nil=>have:=HN.out;simp at this;omega
         | cons z ZR=>exact ⟨z,ZR,rfl⟩
        subst hZ
        obtain ⟨q,pr,X⟩:=z
        have HC:Hid (d6.cell? ⟨gs,os,none⟩=some (.pointer (some ⟨q,0,none⟩))):=by
         show _=_
         have hW:=bs.out
         have e:=HN.out
         rw [← e] at hW
         have:=hW.cell (i:=0) (z:=(q,pr,X)) rfl
         simpa using this
        have ee:Hid (d6.cell? ⟨q,0,none⟩=some (.int .i64 pr)):=by
         show _=_
         obtain ⟨_,_,x,hx,_⟩:=bs.out.lv (q,pr,X) (by simp)
         rw [hx.cell]
         rfl
        have dY:Hid (o.crosses pr=bm):=by
         show _=_
         have:=b1.out
         rw [← EL.out,VW] at this
         simpa [a3,Ord.meets] using this
        refine wH 18 [pV O 4,iV o.k,bV true,bV true,.slice (some ⟨gs,os,none⟩) n c,iV (n:Int),bV true,bV true,bV true,o.v,.slice (some ⟨gs,os,none⟩) n c,pV gs os,pV q 0,pV q 0,pV q 0,iV pr,bV bm,bV bm] [63,64,65,66,67,68,69,70,71,72,73,74,75,76,77,78,79,80] (nS 1 (ldR aa.out 4) (nS 2 (aV rfl (fun a u E D hk=>JY rfl (dD D 1) rfl) (Ky (by omega))) (nS 5 (sV rfl (fun a u E D hk=>Jx _ VV _ _ _ _ rfl (dD D 4) ah.out)) (nS 6 (aV rfl (fun a u E D hk=>QZ rfl (dD D 5) rfl) (Ky (by omega))) (nS 9 (ldO aa.out) (nS 11 (ixV VV (os) n 0 (0) ((by omega))) (nS 12 (ldC HC.out) (nS 15 (ldF (fun u hk=>Kept.cell hk (ee.out))) (nS 16 (cV Tryz.func57 (fun u hk=>(by have h:=JQU o pr u;rw [dY.out] at h;exact h))) nZ))))))))) ?_
        intro bT bD
        simp only [F8]
        go_wp2
        go_meet
        case rel=>exact ⟨rfl,bD⟩
       have cN:bm=false:=by
        have hz:Z=[]:=List.eq_nil_of_length_eq_zero (by rw [HN.out];omega)
        rw [← b1.out,← EL.out,hz]
        simp [levs,Ord.meets]
       subst cN
       refine wH 18 [pV O 4,iV o.k,bV true,bV true,v,iV (n:Int),bV false,bV false,bV false,undef,undef,undef,undef,undef,undef,undef,undef,bV false] [63,64,65,66,67,68,69,70,71,72,73,74,75,76,77,78,79,80] (nS 1 (ldR aa.out 4) (nS 2 (aV rfl (fun a u E D hk=>JY rfl (dD D 1) rfl) (Ky (by omega))) (nS 5 (sV rfl (fun a u E D hk=>Jx _ VV _ _ _ _ rfl (dD D 4) ah.out)) (nS 6 (aV rfl (fun a u E D hk=>QZ rfl (dD D 5) rfl) (Ku (by omega))) nZ)))) ?_
       intro bT bD
       simp only [F8]
       go_wp2
       go_meet
       case rel=>exact ⟨rfl,bD⟩
      have cN:bm=false:=by
       rw [← b1.out]
       simp [a3]
      subst cN
      refine wH 18 [pV O 4,iV o.k,bV false,bV false,undef,undef,undef,bV false,bV false,undef,undef,undef,undef,undef,undef,undef,undef,bV false] [63,64,65,66,67,68,69,70,71,72,73,74,75,76,77,78,79,80] (nS 1 (ldR aa.out 4) (nS 2 (aV rfl (fun a u E D hk=>JY rfl (dD D 1) rfl) (Ku (by omega))) nZ)) ?_
      intro bT bD
      simp only [F8]
      go_wp2
      go_meet
      case rel=>exact ⟨rfl,bD⟩
     obtain ⟨rfl,hcut⟩:=hcut
     obtain ⟨bT,dL⟩:∃ y,y=wc:=⟨_,rfl⟩
     subst dL
     have bd:=cG.trans hcut
     have z14:=hcut.size
     have ay:=Kj (bt.out.kept hcut)
     have aN:=Kj (bC.out.kept hcut)
     have bw:=Kj (bu.out.kept hcut)
     have bO:=Kj (JJ aa.out hcut)
     clear bt bC bu aa bs ah EL HN cG hcut
     cases bm with
     | true=>
      have j:=Kj (rerr_11 aO.out aY.out b2.out (by have:=b1.out;simp at this;exact ⟨this.1,by rw [dz.out,dN.out];exact this.2⟩))
      have HA:Hid (B.add o=(⟨o,[],o.qty,false,false,11⟩,B)):=by show _=_;rw [yj (by rw [j.out];decide),j.out]
      have kE:Kept w bT:=bd
      have a1:=Kj (ay.out)
      have U:=Kj (aN.out)
      go_upto_region 15 with fail
      refine wAp 1 [pV I 14] [81] nZ ?_
      intro we ke
      simp only [F8]
      refine ZJ 37 I 14 66 _ (.int .i64 11) _ (.const (.int .i64 11)) rfl rfl (by kernel_rfl) (by kernel_rfl) rfl rfl rfl (a1.out.kept ke) (by rw [Oc.len15];omega) ?_
      intro wf hF J a4
      simp only [Act.put]
      refine Kx ?_
      rw [Oc.set_err] at hF
      have kf:Kept w wf:=(kE.trans ke).trans' J (by omega)
      have a5:Hid (Blk wf I 66 ((Oc.mk o [] o.qty false false 11).cells (.slice none 0 0))):=hF
      have a7:=Kj ((U.out.kept ke).keep J (by omega))
      clear hF J a4 ke a1 U kE j
      go_upto_region 16 with fail
      refine wAp 1 [(Oc.mk o [] o.qty false false 11).v (.slice none 0 0)] [82] (nS 0 (ldS Tryz.underlying66 (fun u hk=>JX (a5.out.kept hk)) (by rw [Oc.len15];exact szC)) nZ) ?_
      intro wy ky
      simp only [F8]
      refine YV 66 b4 66 (XU.cells (.slice none 0 0)) ((Oc.mk o [] o.qty false false 11).cells (.slice none 0 0)) _ _ rfl rfl (by kernel_rfl) (by kernel_rfl) (a7.out.kept ky) (by rw [Oc.len15];exact szC) (by rw [Oc.len15,Oc.len15]) (Oc.one _ _ rfl) ?_
      intro wx a2 N aD
      simp only [Act.put]
      refine Kx ?_
      go_wp2
      refine bodyPost_ret (QU (p:=4) rfl _ _ b4 _ ((Oc.mk o [] o.qty false false 11).cells (.slice none 0 0)) rfl a2 Tryz.underlying66 (by rw [Oc.len15];exact szC)) rfl ?_
      rw [HA.out]
      have kk:Kept w wx:=(kf.trans ky).trans' N (by omega)
      exact ⟨F,.slice none 0 0,rfl,HB.out.kept kk,Sl.nil _ _ _,fun b H=>by simp [Value.ownBlock] at H,Grow.refl _ _,Keep.mono (T:=F) kk (fun _ _ h=>h.elim)⟩
     | false=>
      have c4:Hid (¬ (o.k=5∧o.meets (B.sd (3-o.side))=true)):=fun h=>by
       have:=b1.out
       rw [dz.out,dN.out] at h
       simp [h.1,h.2] at this
      clear b1
      have dw:o.side=1∨o.side=2:=by have:=dt.out;omega
      have an:=Kj dw
      have HQ:=Kj (JJJ aO.out.1)
      obtain ⟨m,hm⟩:∃ m,B.matched o=m:=⟨_,rfl⟩
      have af:=Kj hm
      obtain ⟨bk,dn⟩:∃ bk,decide ((o.k:Int)=(4:Int))=bk:=⟨_,rfl⟩
      have bY:=Kj dn
      clear hm dn dw
      go_upto_region 17 with fail
      refine wA 3 [pV O 4,iV o.k,bV bk] [83,84,85] (nS 1 (ldR bO.out 4) (nS 2 (aV rfl (fun a u E D hk=>JY rfl (dD D 1) rfl) bY.out) nZ)) ?_
      intro aq av
      simp only [F8]
      have aS:=bd.trans av
      have z17:=av.size
      have aH:=Kj (ay.out.kept av)
      have aB:=Kj (aN.out.kept av)
      have bI:=Kj (bw.out.kept av)
      have bp:=Kj (JJ bO.out av)
      clear ay aN bw bO av bd
      go_upto_if 85 with fail
      go_cut [10,11,12] (fun _ _ _ wx=>Hid (B.err o=0)∧Kept aq wx)
      case first=>
       cases bk with
       | false=>
        have bg:=Kj (rerr_0 aO.out aY.out b2.out c4.out (fun h=>by have:=bY.out;simp at this;exact this h.1))
        go_wp2
        go_meet
        case rel=>exact ⟨bg,Kept.refl _⟩
       | true=>
        have zd:=(Keep.drew (Keep.refl (fun _=>False) aq)).size
        go_upto_region 18 with fail
        refine wp_sched (fun u=>Kept aq u) [(0,0),(2,0),(1,1),(3,1),(4,0),(5,0),(6,0),(7,0),(8,0),(9,0),(10,0)] (by kernel_rfl) (by kernel_rfl) (Keep.drew (Keep.refl _ aq)) ?_
        refine qZ (o:=⟨some 87,_,_,_,_,_⟩) (.pointer (some ⟨p,0,none⟩)) rfl (by kernel_rfl) (fun u hu=>Jq (.tmp 0) (.pointer (some ⟨p,0,none⟩)) rfl (by kernel_rfl)) ?_
        simp only [Act.put,sA,sS,sZ]
        refine qZ (o:=⟨some 89,_,_,_,_,_⟩) (o.v) rfl (by kernel_rfl) (fun u hu=>xW 35 _ (.tmp 3) O 0 o.cells rfl (by kernel_rfl) (JJ bp.out hu) Tryz.underlying35 (by rw [o.len9];exact JU)) ?_
        simp only [Act.put,sA,sS,sZ]
        refine s_call (o:=⟨some 88,_,_,_,_,_⟩) 58 #[.pointer (some ⟨p,0,none⟩)] rfl (by kernel_rfl) (Jy 58 _ [.tmp 87] _ _ Tryz.func58 (by kernel_rfl) (by kernel_rfl) rfl (by kernel_rfl)) ?_
        refine (rbcopied_any aq.drew F p B (HB.out.kept (Keep.drew aS)) HI.out).mono ?_
        rintro e dF ⟨r,Fr,rfl,di,dA,dr⟩
        have ba:Kept aq dF:=Kept.trans (Keep.drew (Keep.refl _ aq)) dr
        refine ⟨_,rfl,ba,?_⟩
        simp only [Act.put,sA,sS,sZ]
        refine s_call (o:=⟨some 90,_,_,_,_,_⟩) 59 #[.pointer (some ⟨r,0,none⟩),o.v] rfl (by kernel_rfl) (Jy 59 _ [.tmp 88,.tmp 89] _ _ Tryz.func59 (by kernel_rfl) (by kernel_rfl) rfl (by kernel_rfl)) ?_
        refine (rbmatch_any dF Fr r B o di HI.out an.out HQ.out hn).mono ?_
        rintro e eb ⟨F4,vr,rfl,ao,a9,bQ,aA,ai⟩
        have aE:Kept aq eb:=Keep.trans ba ai (fun b H h=>by have:=dA b h;omega)
        refine ⟨.tuple #[vr,.int .i64 m.left,.bool m.self],by rw [af.out],aE,?_⟩
        simp only [Act.put,sA,sS,sZ]
        refine qZ (o:=⟨some 86,_,_,_,_,_⟩) (.tuple #[vr,.int .i64 m.left,.bool m.self]) rfl (by kernel_rfl) (fun u hu=>Jq (.tmp 90) (.tuple #[vr,.int .i64 m.left,.bool m.self]) rfl (by kernel_rfl)) ?_
        simp only [Act.put,sA,sS,sZ]
        refine qZ (o:=⟨some 91,_,_,_,_,_⟩) (vr) rfl (by kernel_rfl) (fun u hu=>UW (.tmp 86) [vr,.int .i64 m.left,.bool m.self] 0 vr rfl (by kernel_rfl) rfl) ?_
        simp only [Act.put,sA,sS,sZ]
        refine qZ (o:=⟨some 92,_,_,_,_,_⟩) (.int .i64 m.left) rfl (by kernel_rfl) (fun u hu=>UW (.tmp 86) [vr,.int .i64 m.left,.bool m.self] 1 (.int .i64 m.left) rfl (by kernel_rfl) rfl) ?_
        simp only [Act.put,sA,sS,sZ]
        refine qZ (o:=⟨some 93,_,_,_,_,_⟩) (.bool m.self) rfl (by kernel_rfl) (fun u hu=>UW (.tmp 86) [vr,.int .i64 m.left,.bool m.self] 2 (.bool m.self) rfl (by kernel_rfl) rfl) ?_
        simp only [Act.put,sA,sS,sZ]
        refine qZ (o:=⟨some 10,_,_,_,_,_⟩) (vr) rfl (by kernel_rfl) (fun u hu=>Yj (.tmp 91) (vr) rfl (by kernel_rfl)) ?_
        simp only [Act.put,sA,sS,sZ]
        refine qZ (o:=⟨some 11,_,_,_,_,_⟩) (.int .i64 m.left) rfl (by kernel_rfl) (fun u hu=>Yj (.tmp 92) (.int .i64 m.left) rfl (by kernel_rfl)) ?_
        simp only [Act.put,sA,sS,sZ]
        refine qZ (o:=⟨some 12,_,_,_,_,_⟩) (.bool m.self) rfl (by kernel_rfl) (fun u hu=>Yj (.tmp 93) (.bool m.self) rfl (by kernel_rfl)) ?_
        simp only [Act.put,sA,sS,sZ]
        refine s_done ?_
        have z19:=aE.size
        obtain ⟨bl,dj⟩:∃ bl,decide ((0:Int)<(m.left:Int))=bl:=⟨_,rfl⟩
        have d0:=Kj dj
        clear ao a9 bQ aA ai di dA dr ba dj
        go_upto_region 19 with fail
        refine wA 2 [iV m.left,bV bl] [94,95] (nS 1 (aV rfl (fun a u E D hk=>QZ rfl (dD D 0) rfl) d0.out) nZ) ?_
        intro e4 eh
        simp only [F8]
        have ac:=aE.trans eh
        cases bl with
        | false=>
         have bg:=Kj (rerr_0 aO.out aY.out b2.out c4.out (fun h=>by have:=d0.out;rw [af.out] at h;simp at this;have:=h.2;omega))
         go_wp2
         go_meet
         case rel=>exact ⟨bg,ac⟩
        | true=>
         have j:=Kj (rerr_12 aO.out aY.out b2.out c4.out ⟨by have:=bY.out;simpa using this,by have:=d0.out;rw [af.out];simpa using this⟩)
         have HA:Hid (B.add o=(⟨o,[],o.qty,false,false,12⟩,B)):=by show _=_;rw [yj (by rw [j.out];decide),j.out]
         have kE:Kept w e4:=aS.trans ac
         have a1:=Kj (aH.out.kept ac)
         have U:=Kj (aB.out.kept ac)
         go_upto_region 20 with fail
         refine wAp 1 [pV I 14] [96] nZ ?_
         intro we ke
         simp only [F8]
         refine ZJ 37 I 14 66 _ (.int .i64 12) _ (.const (.int .i64 12)) rfl rfl (by kernel_rfl) (by kernel_rfl) rfl rfl rfl (a1.out.kept ke) (by rw [Oc.len15];omega) ?_
         intro wf hF J a4
         simp only [Act.put]
         refine Kx ?_
         rw [Oc.set_err] at hF
         have kf:Kept w wf:=(kE.trans ke).trans' J (by omega)
         have a5:Hid (Blk wf I 66 ((Oc.mk o [] o.qty false false 12).cells (.slice none 0 0))):=hF
         have a7:=Kj ((U.out.kept ke).keep J (by omega))
         clear hF J a4 ke a1 U kE j
         go_upto_region 21 with fail
         refine wAp 1 [(Oc.mk o [] o.qty false false 12).v (.slice none 0 0)] [97] (nS 0 (ldS Tryz.underlying66 (fun u hk=>JX (a5.out.kept hk)) (by rw [Oc.len15];exact szC)) nZ) ?_
         intro wy ky
         simp only [F8]
         refine YV 66 b4 66 (XU.cells (.slice none 0 0)) ((Oc.mk o [] o.qty false false 12).cells (.slice none 0 0)) _ _ rfl rfl (by kernel_rfl) (by kernel_rfl) (a7.out.kept ky) (by rw [Oc.len15];exact szC) (by rw [Oc.len15,Oc.len15]) (Oc.one _ _ rfl) ?_
         intro wx a2 N aD
         simp only [Act.put]
         refine Kx ?_
         go_wp2
         refine bodyPost_ret (QU (p:=4) rfl _ _ b4 _ ((Oc.mk o [] o.qty false false 12).cells (.slice none 0 0)) rfl a2 Tryz.underlying66 (by rw [Oc.len15];exact szC)) rfl ?_
         rw [HA.out]
         have kk:Kept w wx:=(kf.trans ky).trans' N (by omega)
         exact ⟨F,.slice none 0 0,rfl,HB.out.kept kk,Sl.nil _ _ _,fun b H=>by simp [Value.ownBlock] at H,Grow.refl _ _,Keep.mono (T:=F) kk (fun _ _ h=>h.elim)⟩
      obtain ⟨HE,hcut⟩:=hcut
      obtain ⟨w21,dG⟩:∃ y,y=wc:=⟨_,rfl⟩
      subst dG
      have bN:=aS.trans hcut
      have z21:=hcut.size
      have bh:=Kj (aH.out.kept hcut)
      have bn:=Kj (aB.out.kept hcut)
      have bq:=Kj (bI.out.kept hcut)
      have cd:=Kj (JJ bp.out hcut)
      have HAI:=Kj (add_is HI.out HE.out)
      clear aH aB bI bp hcut aS bY c4 b2
      go_upto_region 22 with fail
      refine wAp 2 [pV p 0,o.v] [99,100] (nS 1 (ldO cd.out) nZ) ?_
      intro e8 aK
      simp only [F8]
      refine cT Tryz.func59 [.pointer (some ⟨p,0,none⟩),o.v] ?_
      refine (rbmatch_any e8 F p B o (HB.out.kept (bN.trans aK)) HI.out an.out HQ.out hn).mono ?_
      rintro e e6 ⟨F4,vf,rfl,ao,a9,bQ,aA,ai⟩
      rw [af.out] at ao a9
      refine ⟨.tuple #[vf,.int .i64 m.left,.bool m.self],by rw [af.out],?_⟩
      have cB:=(bh.out.kept aK).keep ai dk
      refine aT (.tuple #[vf,.int .i64 m.left,.bool m.self]) ?_
      refine aT (vf) ?_
      refine aT (.int .i64 m.left) ?_
      refine aT (.bool m.self) ?_
      refine aT (.pointer (some ⟨I,9,none⟩)) ?_
      refine ZJ 64 I 9 66 _ vf _ _ rfl rfl (by kernel_rfl) (by kernel_rfl) (by kernel_rfl) (Zy a9) (Xy a9) cB (by rw [Oc.len15];omega) ?_
      intro w24 cw cA dd
      refine aT (.pointer (some ⟨I,10,none⟩)) ?_
      refine ZJ 3 I 10 66 _ (.int .i64 m.left) _ _ rfl rfl (by kernel_rfl) (by kernel_rfl) (by kernel_rfl) rfl rfl cw (by rw [List.length_set,Oc.len15];omega) ?_
      intro w25 cK co du
      refine aT (.pointer (some ⟨I,13,none⟩)) ?_
      refine ZJ 4 I 13 66 _ (.bool m.self) _ _ rfl rfl (by kernel_rfl) (by kernel_rfl) (by kernel_rfl) rfl rfl cK (by rw [List.length_set,List.length_set,Oc.len15];omega) ?_
      intro aZ ck cv dW
      simp only [Act.put,sA,sS,sZ]
      refine Kx ?_
      have z22:=aK.size
      have z23:=ai.size
      have aF:Keep (·=I) e6 aZ:=(cA.trans co (fun _ _ h=>h)).trans cv (fun _ _ h=>h)
      have z26:=aF.size
      have bo:=bN.trans aK
      have zw:=bo.size
      have h5n:w.heap.size≤I:=by omega
      have KF:Keep F w aZ:=((Keep.any bo ai)).trans aF (fun b H e=>by omega)
      have ag:Hid (Blk aZ I 66 ((Oc.mk o m.f m.left false m.self 0).cells vf)):=ck
      have bA:¬ F4 I:=fun h=>(aA I h).elim dk (fun h=>by omega)
      have bL:¬ F4 b4:=fun h=>(aA b4 h).elim dB (fun h=>by omega)
      have dc:¬ F4 O:=fun h=>(aA O h).elim dI (fun h=>by omega)
      have ct:=Kj (ao.keep aF (fun b H e=>bA (by have e2:b=I:=e;rw [← e2];exact H)))
      have a8:Hid (∀ b,vf.ownBlock=some b→w.heap.size≤b∧¬ F4 b∧b≠I∧b≠b4∧b≠O):=fun b H=>by
       have h1:=bQ b H
       exact ⟨by omega,h1.2,by omega,by omega,by omega⟩
      have cD:=Kj (a9.keep aF (fun b H e=>(a8.out b H).2.2.1 e))
      have bF:=Kj (((bn.out.kept aK).keep ai dB).keep aF (fun e=>dK e.symm))
      have aL:=Kj (((bq.out.kept aK).keep ai dI).keep aF (fun e=>dl e.symm))
      have ab:=Kj (JX aL.out)
      have d3:Hid (Grow w F F4):=aA.wide bo.size
      have a6:Hid (aZ.cell? ⟨I,10,none⟩=some (.int .i64 m.left)):=by show _=_;rw [ag.out.cell];rfl
      have au:Hid (aZ.cell? ⟨I,13,none⟩=some (.bool m.self)):=by show _=_;rw [ag.out.cell];rfl
      obtain ⟨st,al⟩:∃ st,B.stays o=st:=⟨_,rfl⟩
      have aX:Hid ((decide (0<m.left) && !m.self && (decide (o.k=1) || decide (o.k=5)))=st):=by show _=_;rw [← al];unfold Bok.stays;rw [af.out]
      have dH:=Kj al
      have cy:Hid (B.add o=(⟨o,m.f,m.left,st,m.self,0⟩,if st=true then (B.traded o).put o.side (WY (o.cut m.left) ((B.traded o).sd o.side)) else B.traded o)):=by
       show _=_
       unfold Bok.add
       rw [if_neg (by rw [HE.out];simp),dH.out,af.out]
      clear ao a9 bQ ai aA cB cw cK ck cA co cv dd du dW aF aK bN bh bn bq cd al
      go_upto_region 23 with fail
      go_cut [125] (fun a wx=>a=.bool st∧Kept aZ wx)
      case first=>
       by_cases hl:0<m.left
       ·by_cases a4:m.self=true
        ·have aj:st=false:=by rw [← aX.out,a4];simp
         subst aj
         refine wA 18 [pV I 10,iV m.left,bV true,bV true,pV I 13,bV m.self,bV false,bV false,bV false,undef,undef,undef,undef,undef,undef,undef,undef,bV false] [108,109,110,111,112,113,114,115,116,117,118,119,120,121,122,123,124,125] (nS 1 (ldF (fun u hk=>Kept.cell hk (a6.out))) (nS 2 (aV rfl (fun a u E D hk=>QZ rfl (dD D 1) rfl) (Ky hl)) (nS 5 (ldC au.out) (nS 6 (aV rfl (fun a u E D hk=>YX _ _ m.self rfl (dD D 5)) (by rw [a4];rfl)) nZ)))) ?_
         intro aI ad
         simp only [F8]
         go_wp2
         go_meet
         case rel=>exact ⟨rfl,ad⟩
        have am:m.self=false:=by simpa using a4
        by_cases bb:o.k=1
        ·have aj:st=true:=by rw [← aX.out,am];simp [hl,bb]
         subst aj
         refine wA 18 [pV I 10,iV m.left,bV true,bV true,pV I 13,bV m.self,bV true,bV true,bV true,pV O 4,iV o.k,bV true,bV true,undef,undef,undef,bV true,bV true] [108,109,110,111,112,113,114,115,116,117,118,119,120,121,122,123,124,125] (nS 1 (ldF (fun u hk=>Kept.cell hk (a6.out))) (nS 2 (aV rfl (fun a u E D hk=>QZ rfl (dD D 1) rfl) (Ky hl)) (nS 5 (ldC au.out) (nS 6 (aV rfl (fun a u E D hk=>YX _ _ m.self rfl (dD D 5)) (by rw [am];rfl)) (nS 10 (ldR ab.out 4) (nS 11 (aV rfl (fun a u E D hk=>JY rfl (dD D 10) rfl) (Ky (by omega))) nZ)))))) ?_
         intro aI ad
         simp only [F8]
         go_wp2
         go_meet
         case rel=>exact ⟨rfl,ad⟩
        by_cases a3:o.k=5
        ·have aj:st=true:=by rw [← aX.out,am];simp [hl,a3]
         subst aj
         refine wA 18 [pV I 10,iV m.left,bV true,bV true,pV I 13,bV m.self,bV true,bV true,bV true,pV O 4,iV o.k,bV false,bV false,pV O 4,iV o.k,bV true,bV true,bV true] [108,109,110,111,112,113,114,115,116,117,118,119,120,121,122,123,124,125] (nS 1 (ldF (fun u hk=>Kept.cell hk (a6.out))) (nS 2 (aV rfl (fun a u E D hk=>QZ rfl (dD D 1) rfl) (Ky hl)) (nS 5 (ldC au.out) (nS 6 (aV rfl (fun a u E D hk=>YX _ _ m.self rfl (dD D 5)) (by rw [am];rfl)) (nS 10 (ldR ab.out 4) (nS 11 (aV rfl (fun a u E D hk=>JY rfl (dD D 10) rfl) (Ku (by omega))) (nS 14 (ldR ab.out 4) (nS 15 (aV rfl (fun a u E D hk=>JY rfl (dD D 14) rfl) (Ky (by omega))) nZ)))))))) ?_
         intro aI ad
         simp only [F8]
         go_wp2
         go_meet
         case rel=>exact ⟨rfl,ad⟩
        have aj:st=false:=by rw [← aX.out];simp [bb,a3]
        subst aj
        refine wA 18 [pV I 10,iV m.left,bV true,bV true,pV I 13,bV m.self,bV true,bV true,bV true,pV O 4,iV o.k,bV false,bV false,pV O 4,iV o.k,bV false,bV false,bV false] [108,109,110,111,112,113,114,115,116,117,118,119,120,121,122,123,124,125] (nS 1 (ldF (fun u hk=>Kept.cell hk (a6.out))) (nS 2 (aV rfl (fun a u E D hk=>QZ rfl (dD D 1) rfl) (Ky hl)) (nS 5 (ldC au.out) (nS 6 (aV rfl (fun a u E D hk=>YX _ _ m.self rfl (dD D 5)) (by rw [am];rfl)) (nS 10 (ldR ab.out 4) (nS 11 (aV rfl (fun a u E D hk=>JY rfl (dD D 10) rfl) (Ku (by omega))) (nS 14 (ldR ab.out 4) (nS 15 (aV rfl (fun a u E D hk=>JY rfl (dD D 14) rfl) (Ku (by omega))) nZ)))))))) ?_
        intro aI ad
        simp only [F8]
        go_wp2
        go_meet
        case rel=>exact ⟨rfl,ad⟩
       have aj:st=false:=by rw [← aX.out];simp [hl]
       subst aj
       refine wA 18 [pV I 10,iV m.left,bV false,bV false,undef,undef,undef,bV false,bV false,undef,undef,undef,undef,undef,undef,undef,undef,bV false] [108,109,110,111,112,113,114,115,116,117,118,119,120,121,122,123,124,125] (nS 1 (ldF (fun u hk=>Kept.cell hk (a6.out))) (nS 2 (aV rfl (fun a u E D hk=>QZ rfl (dD D 1) rfl) (Ku hl)) nZ)) ?_
       intro aI ad
       simp only [F8]
       go_wp2
       go_meet
       case rel=>exact ⟨rfl,ad⟩
      obtain ⟨rfl,hcut⟩:=hcut
      obtain ⟨aI,dP⟩:∃ y,y=wc:=⟨_,rfl⟩
      subst dP
      have aC:=Kj (ag.out.kept hcut)
      have aJ:=Kj (bF.out.kept hcut)
      have b6:=Kj (aL.out.kept hcut)
      have aR:=Kj (cD.out.kept hcut)
      have bc:=Kj (ct.out.kept hcut)
      have bv:=KF.kept hcut
      have z27:=hcut.size
      have cg:=Kj (hcut.cell a6.out)
      clear ag bF aL cD ct KF hcut a6 au ab aX
      cases st with
      | false=>
       go_upto_region 28 with fail
       refine wAp 1 [(Oc.mk o m.f m.left false m.self 0).v vf] [139] (nS 0 (ldS Tryz.underlying66 (fun u hk=>JX (aC.out.kept hk)) (by rw [Oc.len15];exact szC)) nZ) ?_
       intro wy ky
       simp only [F8]
       refine YV 66 b4 66 (XU.cells (.slice none 0 0)) ((Oc.mk o m.f m.left false m.self 0).cells vf) _ _ rfl rfl (by kernel_rfl) (by kernel_rfl) (aJ.out.kept ky) (by rw [Oc.len15];exact szC) (by rw [Oc.len15,Oc.len15]) (Oc.one _ _ (Xy aR.out)) ?_
       intro wx a2 N aD
       simp only [Act.put]
       refine Kx ?_
       go_wp2
       refine bodyPost_ret (QU (p:=4) rfl _ _ b4 _ ((Oc.mk o m.f m.left false m.self 0).cells vf) rfl a2 Tryz.underlying66 (by rw [Oc.len15];exact szC)) rfl ?_
       rw [cy.out]
       refine ⟨F4,vf,rfl,?_,(aR.out.kept ky).keep N (fun b H e=>(a8.out b H).2.2.2.1 e),fun b H=>⟨(a8.out b H).1,(a8.out b H).2.1⟩,d3.out,(bv.kept ky).trans N (fun b H e=>by omega)⟩
       have h1:=(bc.out.kept ky).keep N (fun b H e=>bL (by have e2:b=b4:=e;rw [← e2];exact H))
       simp only [Bool.false_eq_true,if_false]
       rw [Bok.traded_to,af.out]
       exact h1
      | true=>
       go_upto_region 24 with fail
       refine wAp 3 [pV I 10,iV m.left,pV O 6] [126,127,128] (nS 1 (ldF (fun u hk=>Kept.cell hk (cg.out))) nZ) ?_
       intro w28 cR
       simp only [F8]
       refine xy O 6 35 o.l [] m.left _ _ rfl rfl (by kernel_rfl) (by kernel_rfl) (b6.out.kept cR) (by simp [Ord.l]) ?_
       intro cO aW c9 dU
       simp only [Act.put]
       refine Kx ?_
       have cm:=Kj aW
       have dM:Hid (cO.cell? ⟨O,7,none⟩=some (.int .i64 o.shw)):=by show _=_;rw [aW.cell];rfl
       have dm:Hid (cO.cell? ⟨O,6,none⟩=some (.int .i64 m.left)):=by show _=_;rw [aW.cell];rfl
       have da:Keep (·=O) aI cO:=Keep.any cR c9
       clear aW c9 dU cR
       go_upto_region 25 with fail
       refine wAp 6 [pV O 7,iV o.shw,pV O 6,iV m.left,iV (mn (o.shw) (m.left)),pV O 7] [129,130,131,132,133,134] (nS 1 (ldF (fun u hk=>Kept.cell hk (dM.out))) (nS 3 (ldF (fun u hk=>Kept.cell hk (dm.out))) (nS 4 (sV rfl (fun a u E D hk=>jW _ _ _ (o.shw) (m.left) (mn (o.shw) (m.left)) rfl (dD D 1) (dD D 3) rfl)) nZ))) ?_
       intro w30 cZ
       simp only [F8]
       refine xy O 7 35 (o.l.set 6 m.left) [] (mn o.shw m.left) _ _ rfl rfl (by kernel_rfl) (by kernel_rfl) (cm.out.kept cZ) (by simp [Ord.l]) ?_
       intro d7 b3 cx d8
       simp only [Act.put]
       refine Kx ?_
       rw [cut_l] at b3
       have az:Keep (·=O) aI d7:=(da.kept cZ).trans cx (fun _ _ h=>h)
       have cn:=Kj (JX b3)
       have z31:=az.size
       have br:=Kj (aC.out.keep az dl)
       have bG:=Kj (aJ.out.keep az (fun e=>e3 e.symm))
       have bz:=Kj (aR.out.keep az (fun b H e=>(a8.out b H).2.2.2.2 e))
       have cE:=Kj (bc.out.keep az (fun b H e=>dc (by have e2:b=O:=e;rw [← e2];exact H)))
       have cJ:Keep F w d7:=bv.trans az (fun b H e=>by omega)
       have ds:Hid (LvsOk ((B.to (3-o.side) m.L (Zq B.last m.f) (B.no+m.f.length)).sd (o.cut m.left).side)):=by
        show LvsOk _
        have h1:(B.to (3-o.side) m.L (Zq B.last m.f) (B.no+m.f.length)).sd o.side=B.sd o.side:=by
         rcases an.out with h | h <;> rw [h] <;> rfl
        show LvsOk ((B.to (3-o.side) m.L (Zq B.last m.f) (B.no+m.f.length)).sd o.side)
        rw [h1]
        exact HI.out.ok _
       clear cm dM dm da cZ b3 cx d8 az aC aJ aR bc bv b6 cg
       go_upto_region 26 with fail
       refine wAp 2 [pV p 0,(o.cut m.left).v] [135,136] (nS 1 (ldO cn.out) nZ) ?_
       intro eg aG
       simp only [F8]
       refine cT Tryz.func60 [.pointer (some ⟨p,0,none⟩),(o.cut m.left).v] ?_
       refine (rbrest_any eg F4 p _ (o.cut m.left) (cE.out.kept aG) an.out ds.out).mono ?_
       rintro e dX ⟨F5,rfl,cc,b8,a3⟩
       refine ⟨_,rfl,?_⟩
       simp only [Act.put,sA,sS,sZ]
       refine Kx ?_
       have z32:=aG.size
       have z33:=a3.size
       have e9:¬ F5 b4:=fun h=>(b8 b4 h).elim bL (fun h=>by omega)
       have ea:¬ F5 I:=fun h=>(b8 I h).elim bA (fun h=>by omega)
       have e1:Hid (∀ b,vf.ownBlock=some b→b<d7.heap.size):=fun b H=>bz.out.lt H
       have cp:=Kj ((bz.out.kept aG).keep a3 (fun b H e=>(a8.out b H).2.1 e))
       have bB:=Kj ((br.out.kept aG).keep a3 bA)
       have be:=Kj ((bG.out.kept aG).keep a3 bL)
       have cH:=Kj cc
       have d9:Hid (∀ b,vf.ownBlock=some b→¬ F5 b):=fun b H h=>(b8 b h).elim (a8.out b H).2.1 (fun h=>by have:=e1.out b H;omega)
       have e7:Hid (Grow w F F5):=fun b H=>(b8 b H).elim (fun h=>d3.out b h) (fun h=>.inr (by omega))
       have cq:Keep F w dX:=(cJ.kept aG).trans a3 (fun b H e=>(d3.out b e).elim id (fun h=>by omega))
       clear cc b8 a3 aG bz br bG cE cn cJ ds
       go_upto_region 27 with fail
       refine wAp 1 [pV I 11] [138] nZ ?_
       intro w34 ax
       simp only [F8]
       refine ZJ 4 I 11 66 _ (.bool true) _ (.const (.bool true)) rfl rfl (by kernel_rfl) (by kernel_rfl) rfl rfl rfl (bB.out.kept ax) (by rw [Oc.len15];omega) ?_
       intro dV bx ar dO
       simp only [Act.put]
       refine Kx ?_
       rw [Oc.set_rests] at bx
       have z34:=ax.size
       have cY:Hid (Blk dV I 66 ((Oc.mk o m.f m.left true m.self 0).cells vf)):=bx
       have cU:=Kj ((be.out.kept ax).keep ar (fun e=>dK e.symm))
       have cb:=Kj ((cp.out.kept ax).keep ar (fun b H e=>(a8.out b H).2.2.1 e))
       have de:=Kj ((cH.out.kept ax).keep ar (fun b H e=>ea (by have e2:b=I:=e;rw [← e2];exact H)))
       have dQ:Keep F w dV:=(cq.kept ax).trans ar (fun b H e=>by omega)
       clear bx ar dO ax bB be cp cH cq
       go_upto_region 28 with fail
       refine wAp 1 [(Oc.mk o m.f m.left true m.self 0).v vf] [139] (nS 0 (ldS Tryz.underlying66 (fun u hk=>JX (cY.out.kept hk)) (by rw [Oc.len15];exact szC)) nZ) ?_
       intro wy ky
       simp only [F8]
       refine YV 66 b4 66 (XU.cells (.slice none 0 0)) ((Oc.mk o m.f m.left true m.self 0).cells vf) _ _ rfl rfl (by kernel_rfl) (by kernel_rfl) (cU.out.kept ky) (by rw [Oc.len15];exact szC) (by rw [Oc.len15,Oc.len15]) (Oc.one _ _ (Xy cb.out)) ?_
       intro wx a2 N aD
       simp only [Act.put]
       refine Kx ?_
       go_wp2
       refine bodyPost_ret (QU (p:=4) rfl _ _ b4 _ ((Oc.mk o m.f m.left true m.self 0).cells vf) rfl a2 Tryz.underlying66 (by rw [Oc.len15];exact szC)) rfl ?_
       rw [cy.out]
       refine ⟨F5,vf,rfl,?_,(cb.out.kept ky).keep N (fun b H e=>(a8.out b H).2.2.2.1 e),fun b H=>⟨(a8.out b H).1,d9.out b H⟩,e7.out,(dQ.kept ky).trans N (fun b H e=>by omega)⟩
       have h1:=(de.out.kept ky).keep N (fun b H e=>e9 (by have e2:b=b4:=e;rw [← e2];exact H))
       simp only [if_true]
       rw [Bok.traded_to,af.out]
       rw [← Bok.to_put an.out]
       exact h1
  have j:=Kj (rerr_1 (B:=B) (o:=o) (fun h=>al h.2))
  go_upto_region 3 with fail
  refine wA 7 [iV e0,bV false,bV false,pV O 8,iV o.stop,bV true,bV true] [19,20,21,22,23,24,25] (nS 1 (aV rfl (fun a u E D hk=>Xj rfl (dD D 0) rfl) (Ku (by omega))) (nS 4 (ldR bX.out 8) (nS 5 (aV rfl (fun a u E D hk=>Xj rfl (dD D 4) rfl) (Ky al)) nZ))) ?_
  intro w3 k3
  simp only [F8]
  have HA:Hid (B.add o=(⟨o,[],o.qty,false,false,1⟩,B)):=by show _=_;rw [yj (by rw [j.out];decide),j.out]
  have kE:Kept w w3:=k2.trans k3
  have a1:=Kj (aU.out.kept k3)
  have U:=Kj (aQ.out.kept k3)
  go_upto_region 4 with fail
  refine wAp 1 [pV I 14] [26] nZ ?_
  intro we ke
  simp only [F8]
  refine ZJ 37 I 14 66 _ (.int .i64 1) _ (.const (.int .i64 1)) rfl rfl (by kernel_rfl) (by kernel_rfl) rfl rfl rfl (a1.out.kept ke) (by rw [Oc.len15];omega) ?_
  intro wf hF J a4
  simp only [Act.put]
  refine Kx ?_
  rw [Oc.set_err] at hF
  have kf:Kept w wf:=(kE.trans ke).trans' J (by omega)
  have a5:Hid (Blk wf I 66 ((Oc.mk o [] o.qty false false 1).cells (.slice none 0 0))):=hF
  have a7:=Kj ((U.out.kept ke).keep J (by omega))
  clear hF J a4 ke a1 U kE j
  go_upto_region 5 with fail
  refine wAp 1 [(Oc.mk o [] o.qty false false 1).v (.slice none 0 0)] [27] (nS 0 (ldS Tryz.underlying66 (fun u hk=>JX (a5.out.kept hk)) (by rw [Oc.len15];exact szC)) nZ) ?_
  intro wy ky
  simp only [F8]
  refine YV 66 b4 66 (XU.cells (.slice none 0 0)) ((Oc.mk o [] o.qty false false 1).cells (.slice none 0 0)) _ _ rfl rfl (by kernel_rfl) (by kernel_rfl) (a7.out.kept ky) (by rw [Oc.len15];exact szC) (by rw [Oc.len15,Oc.len15]) (Oc.one _ _ rfl) ?_
  intro wx a2 N aD
  simp only [Act.put]
  refine Kx ?_
  go_wp2
  refine bodyPost_ret (QU (p:=4) rfl _ _ b4 _ ((Oc.mk o [] o.qty false false 1).cells (.slice none 0 0)) rfl a2 Tryz.underlying66 (by rw [Oc.len15];exact szC)) rfl ?_
  rw [HA.out]
  have kk:Kept w wx:=(kf.trans ky).trans' N (by omega)
  exact ⟨F,.slice none 0 0,rfl,HB.out.kept kk,Sl.nil _ _ _,fun b H=>by simp [Value.ownBlock] at H,Grow.refl _ _,Keep.mono (T:=F) kk (fun _ _ h=>h.elim)⟩
 have he:e0=1:=by have:=c8.out;unfold Ord.err at this;rw [if_neg hr] at this;exact this.symm
 have j:=Kj (rerr_1 (B:=B) (o:=o) (fun h=>hr h.1))
 go_upto_region 3 with fail
 refine wA 7 [iV e0,bV true,bV true,undef,undef,undef,bV true] [19,20,21,22,23,24,25] (nS 1 (aV rfl (fun a u E D hk=>Xj rfl (dD D 0) rfl) (Ky (by omega))) nZ) ?_
 intro w3 k3
 simp only [F8]
 have HA:Hid (B.add o=(⟨o,[],o.qty,false,false,1⟩,B)):=by show _=_;rw [yj (by rw [j.out];decide),j.out]
 have kE:Kept w w3:=k2.trans k3
 have a1:=Kj (aU.out.kept k3)
 have U:=Kj (aQ.out.kept k3)
 go_upto_region 4 with fail
 refine wAp 1 [pV I 14] [26] nZ ?_
 intro we ke
 simp only [F8]
 refine ZJ 37 I 14 66 _ (.int .i64 1) _ (.const (.int .i64 1)) rfl rfl (by kernel_rfl) (by kernel_rfl) rfl rfl rfl (a1.out.kept ke) (by rw [Oc.len15];omega) ?_
 intro wf hF J a4
 simp only [Act.put]
 refine Kx ?_
 rw [Oc.set_err] at hF
 have kf:Kept w wf:=(kE.trans ke).trans' J (by omega)
 have a5:Hid (Blk wf I 66 ((Oc.mk o [] o.qty false false 1).cells (.slice none 0 0))):=hF
 have a7:=Kj ((U.out.kept ke).keep J (by omega))
 clear hF J a4 ke a1 U kE j
 go_upto_region 5 with fail
 refine wAp 1 [(Oc.mk o [] o.qty false false 1).v (.slice none 0 0)] [27] (nS 0 (ldS Tryz.underlying66 (fun u hk=>JX (a5.out.kept hk)) (by rw [Oc.len15];exact szC)) nZ) ?_
 intro wy ky
 simp only [F8]
 refine YV 66 b4 66 (XU.cells (.slice none 0 0)) ((Oc.mk o [] o.qty false false 1).cells (.slice none 0 0)) _ _ rfl rfl (by kernel_rfl) (by kernel_rfl) (a7.out.kept ky) (by rw [Oc.len15];exact szC) (by rw [Oc.len15,Oc.len15]) (Oc.one _ _ rfl) ?_
 intro wx a2 N aD
 simp only [Act.put]
 refine Kx ?_
 go_wp2
 refine bodyPost_ret (QU (p:=4) rfl _ _ b4 _ ((Oc.mk o [] o.qty false false 1).cells (.slice none 0 0)) rfl a2 Tryz.underlying66 (by rw [Oc.len15];exact szC)) rfl ?_
 rw [HA.out]
 have kk:Kept w wx:=(kf.trans ky).trans' N (by omega)
 exact ⟨F,.slice none 0 0,rfl,HB.out.kept kk,Sl.nil _ _ _,fun b H=>by simp [Value.ownBlock] at H,Grow.refl _ _,Keep.mono (T:=F) kk (fun _ _ h=>h.elim)⟩
theorem rborders_none (w:World) (p:Nat) (k:Nat) (D:k=0∨k=3):Gives 45 #[.pointer (some ⟨p,0,none⟩),.int .i64 (k:Int)] w (.sl w.heap.size 35 9 0 []):=by
 go_enter Tryz.func45,Tryz.ntmps45
 go_upto_region 1 with fail
 rcases D with rfl | rfl
 ·go_wp2
  go_ret
  exact ⟨.slice none 0 0,rfl,⟨Sl.nil _ _ _,fun b j=>by simp [Value.ownBlock] at j⟩,Kept.refl _⟩
 go_wp2
 go_ret
 exact ⟨.slice none 0 0,rfl,⟨Sl.nil _ _ _,fun b j=>by simp [Value.ownBlock] at j⟩,Kept.refl _⟩
theorem rborders_any (w:World) (F:Nat→Prop) (p:Nat) (B:Bok) (k:Nat) (hk:k≤3) (h:RBk w F p B) (H:Inv B):Gives 45 #[.pointer (some ⟨p,0,none⟩),.int .i64 (k:Int)] w (.sl w.heap.size 35 9 (XJ (B.sd (k:Int))).length (ords (XJ (B.sd (k:Int))))):=by
 by_cases h12:k=1∨k=2
 ·exact rborders_in w F p B k h12 h H
 have j:k=0∨k=3:=by omega
 have D:=rborders_none w p k j
 rcases j with rfl | rfl
 ·exact D
 exact D
structure RkP (w:World) (p q:Nat) (v:Value) (Fb:Nat→Prop) (M:Mkt):Prop where
 blk:Blk w p 62 (Yz q v)
 bk:RBk w Fb q M.b
 sl:Sl w 35 9 v M.w.length (ords M.w)
 nb:¬ Fb p
 nv:∀ b,v.ownBlock=some b→b≠p∧¬ Fb b
def RMk (w:World) (F:Nat→Prop) (p:Nat) (M:Mkt):Prop:=(∀ b,F b→b<w.heap.size)∧∃ q v Fb,RkP w p q v Fb M∧∀ b,foot p v Fb b→F b
theorem RkP.foot_lt {w:World} {p q:Nat} {v:Value} {D:Nat→Prop} {M:Mkt} (h:RkP w p q v D M):∀ b,foot p v D b→b<w.heap.size:=fun b j=>j.elim (fun j=>j.elim (fun j=>by rw [j];exact h.blk.lt) h.sl.lt) (h.bk.lt b)
theorem RkP.close {w:World} {p q:Nat} {v:Value} {j:Nat→Prop} {M:Mkt} (h:RkP w p q v j M):RMk w (foot p v j) p M:=⟨h.foot_lt,q,v,j,h,fun _ h=>h⟩
theorem RkP.keep {S:Nat→Prop} {w w':World} {p q:Nat} {v:Value} {j:Nat→Prop} {M:Mkt} (h:RkP w p q v j M) (hk:Keep S w w') (D:∀ b,foot p v j b→¬ S b):RkP w' p q v j M:=
 ⟨h.blk.keep hk (D p (.inl (.inl rfl))),h.bk.keep hk (fun b H=>D b (.inr H)),h.sl.keep hk (fun b H=>D b (.inl (.inr H))),h.nb,h.nv⟩
theorem RkP.kept {w w':World} {p q:Nat} {v:Value} {j:Nat→Prop} {M:Mkt} (h:RkP w p q v j M) (hk:Kept w w'):RkP w' p q v j M:=h.keep hk (fun _ _ h=>h)
theorem RMk.keep {S F:Nat→Prop} {w w':World} {p:Nat} {M:Mkt} (h:RMk w F p M) (hk:Keep S w w') (J:∀ b,F b→¬ S b):RMk w' F p M:=by
 obtain ⟨N,q,v,I,H,D⟩:=h
 exact ⟨fun b j=>Nat.lt_of_lt_of_le (N b j) hk.size,q,v,I,H.keep hk (fun b j=>J b (D b j)),D⟩
theorem RMk.kept {F:Nat→Prop} {w w':World} {p:Nat} {M:Mkt} (h:RMk w F p M) (hk:Kept w w'):RMk w' F p M:=h.keep hk (fun _ _ h=>h)
theorem RMk.lt {F:Nat→Prop} {w:World} {p:Nat} {M:Mkt} (h:RMk w F p M):∀ b,F b→b<w.heap.size:=h.1
theorem hit_no {c:Ord} {x:Int} (h:(decide (c.stop<1) || decide (x<1))=true):c.hit x=false:=by
 unfold Ord.hit
 simp at h
 rcases h with h | h
 ·rw [Ku (show ¬ 0<c.stop by omega)];rfl
 rw [Ku (show ¬ 0<x by omega)];simp
theorem hit_yes {c:Ord} {x:Int} (h:(decide (c.stop<1) || decide (x<1))=false):c.hit x=!bet c.side c.stop x:=by
 unfold Ord.hit
 simp at h
 rw [Ky (show 0<c.stop by omega),Ky (show 0<x by omega)]
 rfl
theorem rhit_any (c:Ord) (x:Int) (w:World):Gives 30 #[c.v,.int .i64 x] w (.eq (.bool (c.hit x))):=by
 refine QW ?_
 go_enter Tryz.func30,Tryz.ntmps30
 go_upto_region 0 with fail
 refine tAp 2 [.k (.fresh w.heap.size 35 (c.cells)),bK false] (nS 0 (nV rfl (fun a u E D hk=>⟨_,_,XV 35 _ (c.cells) rfl (eE E),⟨_,rfl,hk.size,Blk.new u _ _⟩,((Keep.refl _ u).alloc _)⟩)) nZ) ?_
 intro gv w1 J k1
 rw [dq 2 [2,4]]
 simp only [Fz7]
 have O:(.fresh w.heap.size 35 (c.cells):Kn).p (gv 2) w1:=J 0 2 (by kernel_rfl)
 generalize gv 2=v2 at O ⊢
 rw [gQ J 1 4 (.bool false)]
 clear J
 obtain ⟨g,rfl,hg,hB⟩:=O
 refine Kx ?_
 have HB:=Kj (JX hB)
 clear hB
 obtain ⟨d,hd⟩:∃ d,(decide (c.stop<1) || decide (x<1))=d:=⟨_,rfl⟩
 have U:=Kj hd
 clear hd
 go_upto_region 1 with fail
 refine tA 8 [pK g 8,iK c.stop,bK (decide ((c.stop:Int)<(1:Int))),bK (decide ((c.stop:Int)<(1:Int))),.k (.cond (!(decide ((c.stop:Int)<(1:Int)))) (iE x)),.k (.cond (!(decide ((c.stop:Int)<(1:Int)))) (bE (decide ((x:Int)<(1:Int))))),bK d,bK d] [6,7,8,9,10,11,12,5] (nS 1 (ldR HB.out 8) (nS 2 (sV rfl (fun a u E D hk=>YU rfl (dD D 1) rfl)) (nS 4 (fS (uC 5 3 rfl (fun a u E D hk hb=>Jq _ _ rfl (eE E)) fz)) (nS 5 (fS (uC 6 3 rfl (fun a u E D hk hb=>YU rfl ((D 4 10 (by kernel_rfl)).1 hb) rfl) fz)) (nS 6 (aV rfl (fun a u E D hk=>ZY _ _ _ ((decide ((c.stop:Int)<(1:Int)))) ((decide ((x:Int)<(1:Int)))) rfl (dD D 3) rfl (fun a1=>((D 5 11 (by kernel_rfl)).1 a1))) U.out) nZ))))) ?_
 intro gv w2 J k2
 simp only [Fz7]
 rw [gQ J 7 5 (.bool d)]
 clear J
 have I:=k1.trans k2
 have j:=Kj (JJ HB.out k2)
 clear k1 k2 HB
 cases d with
 | true=>
  go_wp2
  go_ret
  exact ⟨by rw [hit_no U.out];rfl,I⟩
 | false=>
  by_cases hs:c.side=1
  ·have HE:Hid (c.hit x=decide (c.stop≤x)):=by
    show _=_
    rw [hit_yes U.out]
    unfold bet
    rw [if_pos hs]
    by_cases h:x<c.stop
    ·rw [Ky h,Ku (by omega)];rfl
    rw [Ku h,Ky (by omega)];rfl
   go_upto_region 3 with fail
   refine wA 4 [pV g 3,iV c.side,bV true,bV true] [14,15,16,13] (nS 1 (ldR j.out 3) (nS 2 (aV rfl (fun a u E D hk=>JY rfl (dD D 1) rfl) (Ky hs)) nZ)) ?_
   intro w3 N
   simp only [F8]
   have H:=Kj (JJ j.out N)
   clear hs
   go_upto_region 4 with fail
   refine wA 5 [iV x,pV g 8,iV c.stop,bV (decide ((c.stop:Int)≤(x:Int))),bV (decide ((c.stop:Int)≤(x:Int)))] [17,18,19,20,4] (nS 2 (ldR H.out 8) (nS 3 (sV rfl (fun a u E D hk=>WJ rfl (dD D 0) (dD D 2))) nZ)) ?_
   intro w4 k4
   simp only [F8]
   go_wp2
   go_ret
   exact ⟨by rw [HE.out];rfl,(I.trans N).trans k4⟩
  have HE:Hid (c.hit x=decide (x≤c.stop)):=by
   show _=_
   rw [hit_yes U.out]
   unfold bet
   rw [if_neg hs]
   by_cases h:c.stop<x
   ·rw [Ky h,Ku (by omega)];rfl
   rw [Ku h,Ky (by omega)];rfl
  go_upto_region 3 with fail
  refine wA 4 [pV g 3,iV c.side,bV false,bV false] [14,15,16,13] (nS 1 (ldR j.out 3) (nS 2 (aV rfl (fun a u E D hk=>JY rfl (dD D 1) rfl) (Ku hs)) nZ)) ?_
  intro w3 N
  simp only [F8]
  have H:=Kj (JJ j.out N)
  clear hs
  go_upto_region 5 with fail
  refine wA 5 [iV x,pV g 8,iV c.stop,bV (decide ((x:Int)≤(c.stop:Int))),bV (decide ((x:Int)≤(c.stop:Int)))] [21,22,23,24,4] (nS 2 (ldR H.out 8) (nS 3 (sV rfl (fun a u E D hk=>exec_len_ rfl (dD D 0) (dD D 2))) nZ)) ?_
  intro w4 k4
  simp only [F8]
  go_wp2
  go_ret
  exact ⟨by rw [HE.out];rfl,(I.trans N).trans k4⟩
theorem rwaits_any (w:World) (p q:Nat) (v:Value) (W:List Ord) (t i:Int) (hB:Blk w p 62 (Yz q v)) (hS:Sl w 35 9 v W.length (ords W)) (a5:W.length≤100000):Gives 28 #[.pointer (some ⟨p,0,none⟩),.int .i64 t,.int .i64 i] w (.eq (.int .i64 (Vq (Ord.is t i) W))):=by
 refine QW ?_
 obtain ⟨n,hn⟩:∃ n,W.length=n:=⟨_,rfl⟩
 rw [hn] at hS a5
 have HN:=Kj hn
 have HV:Hid (w.cell? ⟨p,1,none⟩=some v):=hB.cell 1
 have HS:=Kj hS
 clear hB hS hn
 go_enter Tryz.func28,Tryz.ntmps28
 go_upto_region 1 with fail
 refine wA 6 [pV p 0,pV p 0,pV p 1,v,iV (n:Int),iV 0] [9,10,11,12,13,14] (nS 3 (ldC HV.out) (nS 4 (sV rfl (fun a u E D hk=>Jx _ slO _ _ _ _ rfl (dD D 3) (HS.out.kept hk))) nZ)) ?_
 intro w0 k0
 simp only [F8]
 go_wp2_with fail
 go_loopw [14] (fun q wr=>∃ (k:Nat),k≤n∧q=.int .i64 (k:Int)∧Hid (∀ (j:Nat) (x:Ord),j<k→W[j]?=some x→Ord.is t i x=false)∧Kept w wr) (fun q _=>n-(intOf q).toNat)
 case atStart=>exact ⟨0,Nat.zero_le _,rfl,fun j x hj=>(by omega),k0⟩
 obtain ⟨k,hkn,rfl,HM,H⟩:=hrel
 by_cases hlt:k<n
 ·obtain ⟨g,off,c,rfl⟩:=HS.out.some_ (by omega)
  obtain ⟨e,he⟩:∃ e,W[k]?=some e:=⟨W[k]'(by rw [HN.out];exact hlt),List.getElem?_eq_getElem (by rw [HN.out];exact hlt)⟩
  have a7:=Kj he
  have HE:Hid (wr.rangeAt g (off+k*9) e.cells):=JJ (HS.out.rngO k e he) H
  clear he
  go_upto_region 3 with fail
  refine tAp 4 [iK (k:Int),pK g (off+k*9),.v (e.v),.k (.fresh wr.heap.size 35 JV.cells)] (nS 1 (ixV slO (off) n k ((k:Int)) (hlt)) (nS 2 (ldO HE.out) (nS 3 (nV rfl (fun a u E D hk=>⟨_,_,QX 35 JV.cells rfl zO,⟨_,rfl,hk.size,Blk.new u _ _⟩,((Keep.refl _ u).alloc _)⟩)) nZ))) ?_
  intro gv w1 N k1
  rw [dq 4 [16,17,18,8]]
  simp only [Fz7]
  rw [gQ N 0 16 (.int .i64 (k:Int))]
  have a9:(.fresh wr.heap.size 35 JV.cells:Kn).p (gv 8) w1:=N 3 8 (by kernel_rfl)
  generalize gv 8=v8 at a9 ⊢
  rw [gQ N 2 18 e.v]
  clear N
  obtain ⟨b8,rfl,hb8,a8⟩:=a9
  refine aT (.int .i64 (k:Int)) ?_
  refine sO e (a8) ?_
  intro w2 a1 U a6
  simp only [Act.put,sA,sS,sZ]
  refine Kx ?_
  have O:Kept w w2:=(H.trans k1).trans' U (by have:=H.size;omega)
  have I:=Kj (JX a1)
  clear a8 a1 U a6 k1 HE
  by_cases hm:Ord.is t i e=true
  ·have HR:Hid (Vq (Ord.is t i) W=(k:Int)):=by
    show _=_
    have h1:=find_at HM.out a7.out hm
    unfold Vq
    rw [h1,if_pos (by rw [HN.out];exact hlt)]
   go_upto_region 4 with fail
   refine tA 10 [pK b8 0,iK e.tr,iK t,bK (decide ((e.tr:Int)=(t:Int))),bK (decide ((e.tr:Int)=(t:Int))),.k (.cond (decide ((e.tr:Int)=(t:Int))) (pE b8 1)),.k (.cond (decide ((e.tr:Int)=(t:Int))) (iE e.id)),.k (.cond (decide ((e.tr:Int)=(t:Int))) (iE i)),.k (.cond (decide ((e.tr:Int)=(t:Int))) (bE (decide ((e.id:Int)=(i:Int))))),bK true] [19,20,21,22,23,24,25,26,27,28] (nS 1 (ldR I.out 0) (nS 3 (sV rfl (fun a u E D hk=>JY rfl (dD D 1) (dD D 2))) (nS 5 (fS (iC 6 4 rfl (fun a u E D hk J=>Jz 35 1 1 _ (b8) (0) (1) rfl (eE E) (by kernel_rfl) rfl) fz)) (nS 6 (fS (iC 7 4 rfl (fun a u E D hk J=>JZ _ Tryz.underlying3 _ _ _ rfl ((D 5 24 (by kernel_rfl)).1 J) (Xx (JJ I.out hk) 1 _ rfl)) fz)) (nS 7 (fS (iC 8 4 rfl (fun a u E D hk J=>Jq _ _ rfl (eE E)) fz)) (nS 8 (fS (iC 9 4 rfl (fun a u E D hk J=>JY rfl ((D 6 25 (by kernel_rfl)).1 J) ((D 7 26 (by kernel_rfl)).1 J)) fz)) (nS 9 (aV rfl (fun a u E D hk=>Qj _ _ _ ((decide ((e.tr:Int)=(t:Int)))) ((decide ((e.id:Int)=(i:Int)))) rfl (dD D 4) (fun a4=>((D 8 27 (by kernel_rfl)).1 a4)) rfl) hm) nZ))))))) ?_
   intro gv w3 N k3
   simp only [Fz7]
   rw [gQ N 9 28 (.bool true)]
   clear N
   have a2:=O.trans k3
   clear I k3 O
   clear hm H
   go_wp2
   go_ret
   exact ⟨by rw [HR.out];rfl,a2⟩
  have a3:Ord.is t i e=false:=by simpa using hm
  have aa:Hid (∀ (j:Nat) (x:Ord),j<k+1→W[j]?=some x→Ord.is t i x=false):=by
   intro j x hj hx
   by_cases hjk:j=k
   ·subst hjk
    rw [a7.out] at hx
    injection hx with hx
    rw [← hx]
    exact a3
   exact HM.out j x (by omega) hx
  clear hm HM
  go_upto_region 4 with fail
  refine tA 10 [pK b8 0,iK e.tr,iK t,bK (decide ((e.tr:Int)=(t:Int))),bK (decide ((e.tr:Int)=(t:Int))),.k (.cond (decide ((e.tr:Int)=(t:Int))) (pE b8 1)),.k (.cond (decide ((e.tr:Int)=(t:Int))) (iE e.id)),.k (.cond (decide ((e.tr:Int)=(t:Int))) (iE i)),.k (.cond (decide ((e.tr:Int)=(t:Int))) (bE (decide ((e.id:Int)=(i:Int))))),bK false] [19,20,21,22,23,24,25,26,27,28] (nS 1 (ldR I.out 0) (nS 3 (sV rfl (fun a u E D hk=>JY rfl (dD D 1) (dD D 2))) (nS 5 (fS (iC 6 4 rfl (fun a u E D hk J=>Jz 35 1 1 _ (b8) (0) (1) rfl (eE E) (by kernel_rfl) rfl) fz)) (nS 6 (fS (iC 7 4 rfl (fun a u E D hk J=>JZ _ Tryz.underlying3 _ _ _ rfl ((D 5 24 (by kernel_rfl)).1 J) (Xx (JJ I.out hk) 1 _ rfl)) fz)) (nS 7 (fS (iC 8 4 rfl (fun a u E D hk J=>Jq _ _ rfl (eE E)) fz)) (nS 8 (fS (iC 9 4 rfl (fun a u E D hk J=>JY rfl ((D 6 25 (by kernel_rfl)).1 J) ((D 7 26 (by kernel_rfl)).1 J)) fz)) (nS 9 (aV rfl (fun a u E D hk=>Qj _ _ _ ((decide ((e.tr:Int)=(t:Int)))) ((decide ((e.id:Int)=(i:Int)))) rfl (dD D 4) (fun a4=>((D 8 27 (by kernel_rfl)).1 a4)) rfl) a3) nZ))))))) ?_
  intro gv w3 N k3
  simp only [Fz7]
  rw [gQ N 9 28 (.bool false)]
  clear N
  have a2:=O.trans k3
  clear I k3 O
  clear a3 H
  go_wp2
  exact ⟨⟨k+1,by omega,by go_num,aa,a2⟩,by simp [intOf];omega⟩
 have HR:Hid (Vq (Ord.is t i) W=-1):=by
  show _=_
  have h1:=find_no (p:=Ord.is t i) (X:=W) (fun j x hj hx=>HM.out j x (by rw [HN.out] at hj;omega) hx)
  unfold Vq
  rw [h1,if_neg (by omega)]
 clear HM
 go_wp2
 go_ret
 exact ⟨by rw [HR.out];rfl,H⟩
theorem rmlen_any (w:World) (F:Nat→Prop) (p:Nat) (j:Mkt) (h:RMk w F p j) (O:Inv j.b) (H:j.w.length≤100000):Gives 29 #[.pointer (some ⟨p,0,none⟩)] w (.eq (.int .i64 (j.len:Int))):=by
 refine QW ?_
 obtain ⟨_,q,v,Fb,I,_⟩:=h
 have HQ:Hid (w.cell? ⟨p,0,none⟩=some (.pointer (some ⟨q,0,none⟩))):=I.blk.cell 0
 have HV:Hid (w.cell? ⟨p,1,none⟩=some v):=I.blk.cell 1
 have HK:=Kj I.bk
 obtain ⟨n,N⟩:∃ n,j.w.length=n:=⟨_,rfl⟩
 have HS:=Kj I.sl
 rw [N] at HS H
 obtain ⟨m,J⟩:∃ m,j.b.len=m:=⟨_,rfl⟩
 have HM:Hid ((m:Int)+(n:Int)=(j.len:Int)):=by show _=_;unfold Mkt.len;rw [J,N];omega
 have U:=Kj J
 have HI:=Kj O
 have hm64:m≤128:=by have:=O.two.few;rw [← J];unfold Bok.len Bok.all;rw [List.length_append];omega
 clear I N J O
 go_enter Tryz.func29,Tryz.ntmps29
 go_upto_region 1 with fail
 refine wH 12 [pV p 0,pV p 0,pV p 0,pV q 0,iV (m:Int),pV p 0,pV p 0,pV p 1,v,iV (n:Int),iV (((m:Int):Int)+((n:Int):Int)),iV (((m:Int):Int)+((n:Int):Int))] [3,4,5,6,7,8,9,10,11,12,13,2] (nS 3 (ldC HQ.out) (nS 4 (cV Tryz.func56 (fun u hk=>(by rw [← U.out];exact rblen_any u Fb q j.b (HK.out.kept hk) HI.out))) (nS 8 (ldC HV.out) (nS 9 (sV rfl (fun a u E D hk=>Jx _ slO _ _ _ _ rfl (dD D 8) (HS.out.kept hk))) (nS 10 (sV rfl (fun a u E D hk=>YQ (p:=((m:Int))) (q:=((n:Int))) (((m:Int):Int)+((n:Int):Int)) rfl (dD D 4) (dD D 9) rfl (by omega) (by omega))) nZ))))) ?_
 intro w1 k1
 simp only [F8]
 go_wp2
 go_ret
 exact ⟨by rw [HM.out];rfl,k1⟩
theorem rmfind_any (w:World) (F:Nat→Prop) (p:Nat) (H:Mkt) (t i:Int) (h:RMk w F p H) (hI:Inv H.b) (aa:H.w.length≤100000):Gives 39 #[.pointer (some ⟨p,0,none⟩),.int .i64 t,.int .i64 i] w (.eq (.tuple #[(H.find t i).1.v,.bool (H.find t i).2])):=by
 refine QW ?_
 obtain ⟨_,q,v,Fb,hP,_⟩:=h
 have HQ:Hid (∀ u,Kept w u→u.cell? ⟨p,0,none⟩=some (.pointer (some ⟨q,0,none⟩))):=fun u k=>(hP.blk.kept k).cell 0
 have HV:Hid (∀ u,Kept w u→u.cell? ⟨p,1,none⟩=some v):=fun u k=>(hP.blk.kept k).cell 1
 have ah:=Kj hP.blk
 have HS:=Kj hP.sl
 have HK:=Kj hP.bk
 have HI:=Kj hI
 obtain ⟨x,b,hx⟩:∃ x b,H.b.find t i=(x,b):=⟨_,_,rfl⟩
 have HX:=Kj hx
 clear hP hI hx
 go_enter Tryz.func39,Tryz.ntmps39
 go_upto_region 0 with fail
 refine tAp 2 [.k (.fresh w.heap.size 35 JV.cells),bK false] (nS 0 (nV rfl (fun a u E D hk=>⟨_,_,QX 35 JV.cells rfl zO,⟨_,rfl,hk.size,Blk.new u _ _⟩,((Keep.refl _ u).alloc _)⟩)) nZ) ?_
 intro gv w0 hV k0
 rw [dq 2 [6,7]]
 simp only [Fz7]
 have ac:(.fresh w.heap.size 35 JV.cells:Kn).p (gv 6) w0:=hV 0 6 (by kernel_rfl)
 generalize gv 6=v6 at ac ⊢
 rw [gQ hV 1 7 (.bool false)]
 clear hV
 obtain ⟨b6,rfl,hb6,a6⟩:=ac
 refine Kx ?_
 have af:=Kj a6
 have l6:=a6.lt
 have z0:=k0.size
 have ab:=Kj (HQ.out w0 k0)
 clear a6
 go_upto_region 1 with fail
 refine wAp 10 [pV p 0,pV p 0,pV p 0,pV q 0,iV t,iV i,.tuple #[x.v,.bool b],.tuple #[x.v,.bool b],x.v,bV b] [12,13,14,15,16,17,18,11,19,20] (nS 3 (ldC ab.out) (nS 6 (cV Tryz.func26 (fun u hk=>(by have h:=rbfind_any u Fb q H.b t i (HK.out.kept (k0.trans hk)) HI.out;rw [HX.out] at h;exact h))) nZ)) ?_
 intro w1 k1
 simp only [F8]
 refine nT zO ?_
 intro w2 a1 ag
 refine sO x (a1) ?_
 intro w3 J a2 a8
 refine aT (.bool b) ?_
 simp only [Act.put,sA,sS,sZ]
 refine Kx ?_
 obtain ⟨b8,h8⟩:∃ a,w1.heap.size=a:=⟨_,rfl⟩
 rw [h8] at a1 J a2 ⊢
 have z1:=k1.size
 have a4:Kept w0 w3:=(k1.trans ag).trans' a2 (by omega)
 have K3:Kept w w3:=k0.trans a4
 have z3:=a4.size
 have ad:=Kj (JX J)
 have O:=Kj (af.out.kept a4)
 clear a1 J a2 a8 ag k1 a4 af ab
 cases b with
 | true=>
  have HR:Hid (H.find t i=(x,true)):=by show _=_;unfold Mkt.find;rw [HX.out];rfl
  go_upto_region 3 with fail
  refine wAp 1 [x.v] [22] (nS 0 (ldO ad.out) nZ) ?_
  intro w4 k4
  simp only [F8]
  refine sO x (O.out.kept k4) ?_
  intro w5 a9 a7 hsw5
  refine aT (.bool true) ?_
  simp only [Act.put,sA,sS,sZ]
  refine Kx ?_
  go_wp2
  refine bodyPost_ret (Qq (p:=6) (q:=7) rfl _ _ b6 _ x.cells true rfl rfl a9 Tryz.underlying35 (by rw [Ord.len9];exact JU)) rfl ?_
  rw [HR.out]
  exact ⟨rfl,(K3.trans k4).trans' a7 (by omega)⟩
 | false=>
  have HR:Hid (H.find t i=qq t i H.w):=by show _=_;unfold Mkt.find;rw [HX.out];rfl
  obtain ⟨j,hj⟩:∃ j,Vq (Ord.is t i) H.w=j:=⟨_,rfl⟩
  have HJ:=Kj hj
  go_upto_region 4 with fail
  refine wA 5 [pV p 0,iV t,iV i,iV j,iV j] [23,24,25,26,10] (nS 3 (cV Tryz.func28 (fun u hk=>(by rw [← HJ.out];exact rwaits_any u p q v H.w t i (ah.out.kept (K3.trans hk)) (HS.out.kept (K3.trans hk)) aa))) nZ) ?_
  intro w4 k4
  simp only [F8]
  have K4:=K3.trans k4
  have a5:=Kj (O.out.kept k4)
  have z4:=k4.size
  clear O ad k4
  cases hw:H.w[H.w.findIdx (Ord.is t i)]? with
  | none=>
   have a3:j=-1:=by rw [← hj];exact xx hw
   have HE:Hid (qq t i H.w=(JV,false)):=by show _=_;unfold qq;rw [hw]
   subst a3
   clear hj hw
   go_upto_region 5 with fail
   refine wA 2 [iV (-1),bV false] [27,28] (nS 1 (aV rfl (fun a u E D hk=>WJ rfl (dD D 0) rfl) (by decide)) nZ) ?_
   intro w5 k5
   simp only [F8]
   have I:=Kj (a5.out.kept k5)
   have z5:=k5.size
   go_upto_region 7 with fail
   refine wAp 1 [JV.v] [36] (nS 0 (sV rfl (fun a u E D hk=>XZ 35 [] JV.cells rfl (by kernel_rfl))) nZ) ?_
   intro w6 k6
   simp only [F8]
   refine sO JV (I.out.kept k6) ?_
   intro w7 U N ae
   refine aT (.bool false) ?_
   simp only [Act.put,sA,sS,sZ]
   refine Kx ?_
   go_wp2
   refine bodyPost_ret (Qq (p:=6) (q:=7) rfl _ _ b6 _ JV.cells false rfl rfl U Tryz.underlying35 (by rw [Ord.len9];exact JU)) rfl ?_
   rw [HR.out,HE.out]
   exact ⟨rfl,((K4.trans k5).trans k6).trans' N (by omega)⟩
  | some e=>
   have a3:j=(H.w.findIdx (Ord.is t i):Int):=by rw [← hj];exact yX hw
   have HE:Hid (qq t i H.w=(e,true)):=by show _=_;unfold qq;rw [hw]
   obtain ⟨n,hn⟩:∃ n,H.w.length=n:=⟨_,rfl⟩
   obtain ⟨k,hk⟩:∃ k,H.w.findIdx (Ord.is t i)=k:=⟨_,rfl⟩
   rw [hk] at a3 hw
   have ak:k<n:=by rw [← hn];exact (List.getElem?_eq_some_iff.1 hw).1
   subst a3
   rw [hn] at HS
   obtain ⟨g,off,c,rfl⟩:=HS.out.some_ (by omega)
   have aj:Hid (∀ u,Kept w u→u.rangeAt g (off+k*9) e.cells):=fun u ku=>JJ (HS.out.rngO k e hw) ku
   clear hj hw hk hn
   go_upto_region 5 with fail
   refine wA 2 [iV (k:Int),bV true] [27,28] (nS 1 (aV rfl (fun a u E D hk=>WJ rfl (dD D 0) rfl) (Ky (by omega))) nZ) ?_
   intro w5 k5
   simp only [F8]
   have I:=Kj (a5.out.kept k5)
   have z5:=k5.size
   have K5:=K4.trans k5
   have ai:=Kj (HV.out w5 K5)
   have al:=Kj (aj.out w5 K5)
   go_upto_region 6 with fail
   refine wAp 7 [pV p 0,pV p 0,pV p 1,.slice (some ⟨g,off,none⟩) n c,iV (k:Int),pV g (off+k*9),e.v] [29,30,31,32,33,34,35] (nS 3 (ldC ai.out) (nS 5 (ixV slO (off) n k ((k:Int)) (ak)) (nS 6 (ldO al.out) nZ))) ?_
   intro w6 k6
   simp only [F8]
   refine sO e (I.out.kept k6) ?_
   intro w7 U N ae
   refine aT (.bool true) ?_
   simp only [Act.put,sA,sS,sZ]
   refine Kx ?_
   go_wp2
   refine bodyPost_ret (Qq (p:=6) (q:=7) rfl _ _ b6 _ e.cells true rfl rfl U Tryz.underlying35 (by rw [Ord.len9];exact JU)) rfl ?_
   rw [HR.out,HE.out]
   exact ⟨rfl,(K5.trans k6).trans' N (by omega)⟩
theorem rmall_any (w:World) (F:Nat→Prop) (p:Nat) (j:Mkt) (h:RMk w F p j) (hI:Inv j.b) (hlen:j.w.length≤100000):Gives 16 #[.pointer (some ⟨p,0,none⟩)] w (.sl w.heap.size 35 9 j.all.length (ords j.all)):=by
 obtain ⟨_,q,v,Fb,hP,_⟩:=h
 have HQ:Hid (w.cell? ⟨p,0,none⟩=some (.pointer (some ⟨q,0,none⟩))):=hP.blk.cell 0
 have HV:Hid (w.cell? ⟨p,1,none⟩=some v):=hP.blk.cell 1
 have a2:Hid (¬ w.heap.size≤p):=by have:=hP.blk.lt;show ¬ _;omega
 have ab:Hid (∀ b,v.ownBlock=some b→¬ w.heap.size≤b):=fun b hb=>by have:=hP.sl.lt hb;omega
 have a4:Hid (∀ b,Fb b→¬ w.heap.size≤b):=fun b hb=>by have:=hP.bk.lt b hb;omega
 have HK:=Kj hP.bk
 have HS:=Kj hP.sl
 have HI:=Kj hI
 have h1l:(XJ j.b.buys).length≤64:=by rw [yV];exact (hI.ok 1).few
 have h2l:(XJ j.b.sells).length≤64:=by rw [yV];exact (hI.ok 2).few
 clear hP hI
 go_enter Tryz.func16,Tryz.ntmps16
 go_upto_region 1 with fail
 refine wp_tree (fun u=>Keep (fun b=>w.heap.size≤b) w u) (.val 0 (.val 1 (.val 2 (.val 3 (.val 5 (.val 6 (.val 7 (.val 8 (.val 11 (.val 12 (.val 13 (.val 14 (.one 4 (.one 9 (.one 10 (.one 15 (.val 16 .done))))))))))))))))) rfl (by kernel_rfl) (Keep.drew (Keep.refl _ w)) ?_
 refine WQ (o:=⟨some 3,_,_,_,_,_⟩) (.pointer (some ⟨p,0,none⟩)) rfl rfl (fun u H=>Jq (.tmp 0) (.pointer (some ⟨p,0,none⟩)) rfl (by kernel_rfl)) ?_
 simp only [Act.put,sA,sS,sZ]
 refine WQ (o:=⟨some 4,_,_,_,_,_⟩) (.pointer (some ⟨p,0,none⟩)) rfl rfl (fun u H=>ZU (.tmp 3) ⟨p,0,none⟩ rfl (by kernel_rfl)) ?_
 simp only [Act.put,sA,sS,sZ]
 refine WQ (o:=⟨some 5,_,_,_,_,_⟩) (.pointer (some ⟨p,0,none⟩)) rfl rfl (fun u H=>Jz 62 0 0 (.tmp 4) (p) (0) (0) rfl (by kernel_rfl) (by kernel_rfl) rfl) ?_
 simp only [Act.put,sA,sS,sZ]
 refine WQ (o:=⟨some 6,_,_,_,_,_⟩) (.pointer (some ⟨q,0,none⟩)) rfl rfl (fun u H=>exec_ldp 56 _ Tryz.underlying56 (.tmp 5) ⟨p,0,none⟩ (.pointer (some ⟨q,0,none⟩)) rfl (by kernel_rfl) (Keep.cell H HQ.out a2.out)) ?_
 simp only [Act.put,sA,sS,sZ]
 refine WQ (o:=⟨some 8,_,_,_,_,_⟩) (.pointer (some ⟨p,0,none⟩)) rfl rfl (fun u H=>Jq (.tmp 0) (.pointer (some ⟨p,0,none⟩)) rfl (by kernel_rfl)) ?_
 simp only [Act.put,sA,sS,sZ]
 refine WQ (o:=⟨some 9,_,_,_,_,_⟩) (.pointer (some ⟨p,0,none⟩)) rfl rfl (fun u H=>ZU (.tmp 8) ⟨p,0,none⟩ rfl (by kernel_rfl)) ?_
 simp only [Act.put,sA,sS,sZ]
 refine WQ (o:=⟨some 10,_,_,_,_,_⟩) (.pointer (some ⟨p,0,none⟩)) rfl rfl (fun u H=>Jz 62 0 0 (.tmp 9) (p) (0) (0) rfl (by kernel_rfl) (by kernel_rfl) rfl) ?_
 simp only [Act.put,sA,sS,sZ]
 refine WQ (o:=⟨some 11,_,_,_,_,_⟩) (.pointer (some ⟨q,0,none⟩)) rfl rfl (fun u H=>exec_ldp 56 _ Tryz.underlying56 (.tmp 10) ⟨p,0,none⟩ (.pointer (some ⟨q,0,none⟩)) rfl (by kernel_rfl) (Keep.cell H HQ.out a2.out)) ?_
 simp only [Act.put,sA,sS,sZ]
 refine WQ (o:=⟨some 14,_,_,_,_,_⟩) (.pointer (some ⟨p,0,none⟩)) rfl rfl (fun u H=>Jq (.tmp 0) (.pointer (some ⟨p,0,none⟩)) rfl (by kernel_rfl)) ?_
 simp only [Act.put,sA,sS,sZ]
 refine WQ (o:=⟨some 15,_,_,_,_,_⟩) (.pointer (some ⟨p,0,none⟩)) rfl rfl (fun u H=>ZU (.tmp 14) ⟨p,0,none⟩ rfl (by kernel_rfl)) ?_
 simp only [Act.put,sA,sS,sZ]
 refine WQ (o:=⟨some 16,_,_,_,_,_⟩) (.pointer (some ⟨p,1,none⟩)) rfl rfl (fun u H=>Jz 62 1 1 (.tmp 15) (p) (0) (1) rfl (by kernel_rfl) (by kernel_rfl) rfl) ?_
 simp only [Act.put,sA,sS,sZ]
 refine WQ (o:=⟨some 17,_,_,_,_,_⟩) (v) rfl rfl (fun u H=>Qx 43 _ Tryz.underlying43 (.tmp 16) ⟨p,1,none⟩ v rfl (by kernel_rfl) (Keep.cell H HV.out a2.out)) ?_
 simp only [Act.put,sA,sS,sZ]
 refine t_call (o:=⟨some 7,_,_,_,_,_⟩) 45 #[.pointer (some ⟨q,0,none⟩),.int .i64 1] rfl rfl (Jy 45 _ [.tmp 6,.const (.int .i64 1)] _ _ Tryz.func45 (by kernel_rfl) (by kernel_rfl) rfl (by kernel_rfl)) ?_
 refine (rborders_any w.drew Fb q j.b 1 (by omega) (HK.out.keep (Keep.drew (Keep.refl _ w)) a4.out) HI.out).mono ?_
 rintro r x1 ⟨va,rfl,D,a6⟩
 have D:(Kn.sl w.drew.heap.size 35 9 (XJ j.b.buys).length (ords (XJ j.b.buys))).p va x1:=D
 have N:Keep (fun b=>w.heap.size≤b) w x1:=Keep.kept (Keep.drew (Keep.refl _ w)) a6
 refine ⟨va,rfl,N,?_⟩
 simp only [Act.put,sA,sS,sZ]
 refine t_call (o:=⟨some 12,_,_,_,_,_⟩) 45 #[.pointer (some ⟨q,0,none⟩),.int .i64 2] rfl rfl (Jy 45 _ [.tmp 11,.const (.int .i64 2)] _ _ Tryz.func45 (by kernel_rfl) (by kernel_rfl) rfl (by kernel_rfl)) ?_
 refine (rborders_any x1 Fb q j.b 2 (by omega) (HK.out.keep (N) a4.out) HI.out).mono ?_
 rintro r x2 ⟨vb,rfl,I,a1⟩
 have I:(Kn.sl x1.heap.size 35 9 (XJ j.b.sells).length (ords (XJ j.b.sells))).p vb x2:=I
 have O:Keep (fun b=>w.heap.size≤b) w x2:=Keep.kept (N) a1
 refine ⟨vb,rfl,O,?_⟩
 simp only [Act.put,sA,sS,sZ]
 obtain ⟨v3,x3,a3,a7,ad,af⟩:=QQ slO 43 x2 va vb _ _ _ _ (D.1.kept a1) I.1 (qx _) (by unfold maxLen;omega) (by omega)
 have hz1:w.heap.size≤x1.heap.size:=N.size
 have hz0:w.drew.heap.size=w.heap.size:=rfl
 have hz2:w.heap.size≤x2.heap.size:=O.size
 have J:Keep (fun b=>w.heap.size≤b) w x3:=O.trans ad (fun b _ e=>by have:=D.2 b e;omega)
 refine t_new (o:=⟨some 13,_,_,_,_,_⟩) v3 x3 rfl rfl (QV slO (.tmp 7) (.tmp 12) va vb rfl (by kernel_rfl) (by kernel_rfl) v3 x3 a3) J ?_
 simp only [Act.put,sA,sS,sZ]
 obtain ⟨v4,x4,a9,a5,aa,ae⟩:=QQ slO 43 x3 v3 v _ _ _ _ a7 (HS.out.keep J ab.out) (qx _) (by unfold maxLen;omega) (by omega)
 have a8:∀ b,v3.ownBlock=some b→w.heap.size≤b:=fun b hb=>(af b hb).elim (fun e=>by have:=D.2 b e;omega) (fun e=>by omega)
 have ac:∀ b,v4.ownBlock=some b→w.heap.size≤b:=fun b hb=>(ae b hb).elim (a8 b) (fun e=>by have:=J.size;omega)
 have U:Keep (fun b=>w.heap.size≤b) w x4:=J.trans aa (fun b _ e=>a8 b e)
 refine t_new (o:=⟨some 18,_,_,_,_,_⟩) v4 x4 rfl rfl (QV slO (.tmp 13) (.tmp 17) v3 v rfl (by kernel_rfl) (by kernel_rfl) v4 x4 a9) U ?_
 simp only [Act.put,sA,sS,sZ]
 refine WQ (o:=⟨some 2,_,_,_,_,_⟩) (v4) rfl rfl (fun u H=>Yj (.tmp 18) (v4) rfl (by kernel_rfl)) ?_
 simp only [Act.put,sA,sS,sZ]
 refine t_done ?_
 refine Kx ?_
 have hZ:Sl x4 35 9 v4 j.all.length (ords j.all):=by
  have e:ords j.all=(ords (XJ j.b.buys)++ords (XJ j.b.sells))++ords j.w:=by unfold Mkt.all ords;rw [List.flatMap_append,List.flatMap_append]
  have e2:j.all.length=((XJ j.b.buys).length+(XJ j.b.sells).length)+j.w.length:=by unfold Mkt.all;rw [List.length_append,List.length_append]
  rw [e,e2]
  exact a5
 have kk:Kept w x4:=U.mono (fun b hb e=>by omega)
 clear a5 a7 D I a3 a9
 go_wp2
 go_ret
 exact ⟨_,rfl,⟨hZ,ac⟩,kk⟩
theorem rmremove_any (w:World) (F:Nat→Prop) (p:Nat) (I:Mkt) (t i:Int) (h:RMk w F p I) (hI:Inv I.b) (ax:I.w.length≤100000):Calls Tryz.prog 41 #[.pointer (some ⟨p,0,none⟩),.int .i64 t,.int .i64 i] w fun r w'=>∃ F',r=.returned (.tuple #[(I.remove t i).1.v,.bool (I.remove t i).2.1])∧RMk w' F' p (I.remove t i).2.2∧Grow w F F'∧Keep F w w':=by
 obtain ⟨hFl,q,v,Fb,U,bz⟩:=h
 have hft:=U.foot_lt
 have J:=Kj U
 have HQ:Hid (∀ u,Kept w u→u.cell? ⟨p,0,none⟩=some (.pointer (some ⟨q,0,none⟩))):=fun u k=>(U.blk.kept k).cell 0
 have HI:=Kj hI
 have ah:=Kj bz
 obtain ⟨x,b,B2,hx⟩:∃ x b B2,I.b.remove t i=(x,b,B2):=⟨_,_,_,rfl⟩
 have HX:=Kj hx
 have hpl:=U.blk.lt
 have aU:=U.bk.lt
 clear U hI hx
 go_enter Tryz.func41,Tryz.ntmps41
 go_upto_region 0 with fail
 refine tAp 2 [.k (.fresh w.heap.size 35 JV.cells),bK false] (nS 0 (nV rfl (fun a u E D hk=>⟨_,_,QX 35 JV.cells rfl zO,⟨_,rfl,hk.size,Blk.new u _ _⟩,((Keep.refl _ u).alloc _)⟩)) nZ) ?_
 intro gv w0 hV k0
 rw [dq 2 [6,7]]
 simp only [Fz7]
 have bh:(.fresh w.heap.size 35 JV.cells:Kn).p (gv 6) w0:=hV 0 6 (by kernel_rfl)
 generalize gv 6=v6 at bh ⊢
 rw [gQ hV 1 7 (.bool false)]
 clear hV
 obtain ⟨b6,rfl,hb6,aN⟩:=bh
 refine Kx ?_
 have bo:=Kj aN
 have l6:=aN.lt
 have z0:=k0.size
 have bf:=Kj (HQ.out w0 k0)
 have bq:¬ Fb b6:=fun h=>by have:=aU b6 h;omega
 clear aN
 go_upto_region 1 with fail
 refine wAp 6 [pV p 0,pV p 0,pV p 0,pV q 0,iV t,iV i] [13,14,15,16,17,18] (nS 3 (ldC bf.out) nZ) ?_
 intro w1 k1
 simp only [F8]
 refine cT Tryz.func70 [.pointer (some ⟨q,0,none⟩),.int .i64 t,.int .i64 i] ?_
 refine (rbremove_any w1 Fb q I.b t i (J.out.bk.kept (k0.trans k1)) HI.out).mono ?_
 rintro r w2 ⟨F2,rfl,aB,aE,ao⟩
 rw [HX.out] at aB
 refine ⟨.tuple #[x.v,.bool b],by rw [HX.out],?_⟩
 refine aT (.tuple #[x.v,.bool b]) ?_
 refine aT (x.v) ?_
 refine aT (.bool b) ?_
 refine nT zO ?_
 intro w3 ae aQ
 refine sO x (ae) ?_
 intro w4 a6 ag b2
 refine aT (.bool b) ?_
 simp only [Act.put,sA,sS,sZ]
 refine Kx ?_
 obtain ⟨b8,h8⟩:∃ a,w2.heap.size=a:=⟨_,rfl⟩
 rw [h8] at ae a6 ag ⊢
 have z1:=k1.size
 have z2:=ao.size
 have l8:=a6.lt
 have aq:Kept w2 w4:=aQ.trans' ag (by omega)
 have bj:=Kj (JX a6)
 have aa:=Kj (((bo.out.kept k1).keep ao bq).kept aq)
 have K4:Keep Fb w w4:=(Keep.any (k0.trans k1) ao).kept aq
 have HG:Hid (Grow w Fb F2):=aE.wide (k0.trans k1).size
 have aH:p≠b6:=by omega
 have am:=Kj (J.out.blk.keep K4 J.out.nb)
 have an:=Kj (J.out.sl.keep K4 (fun b H=>(J.out.nv b H).2))
 have aO:=Kj (aB.kept aq)
 have z4:=K4.size
 have ac:¬ F2 b6:=fun h=>(aE b6 h).elim bq (fun h=>by omega)
 have a4:¬ F2 p:=fun h=>(HG.out p h).elim J.out.nb (fun h=>by omega)
 have ay:Hid (∀ b,v.ownBlock=some b→b≠p∧¬ F2 b):=fun b H=>⟨(J.out.nv b H).1,fun h=>(HG.out b h).elim (J.out.nv b H).2 (fun h=>by have:=J.out.sl.lt H;omega)⟩
 have af:Hid (Grow w F (foot p v F2)):=fun b H=>by
  rcases H with H | H
  ·exact .inl (ah.out b (.inl H))
  exact (HG.out b H).imp (fun h=>ah.out b (.inr h)) id
 have aG:Keep F w w4:=K4.mono (fun b _ H=>ah.out b (.inr H))
 have br:∀ b,v.ownBlock=some b→b≠b6:=fun b H e=>by have:=J.out.sl.lt H;omega
 have aZ:=Kj br
 clear aB aE ao ae a6 ag b2 aQ aq bo bf k1 br
 cases b with
 | true=>
  have HR:Hid (I.remove t i=(x,true,⟨B2,I.w⟩)):=by show _=_;unfold Mkt.remove;rw [HX.out];rfl
  go_upto_region 3 with fail
  refine wAp 1 [x.v] [23] (nS 0 (ldO bj.out) nZ) ?_
  intro w5 k5
  simp only [F8]
  refine sO x (aa.out.kept k5) ?_
  intro w6 b3 a5 hsw6
  refine aT (.bool true) ?_
  simp only [Act.put,sA,sS,sZ]
  refine Kx ?_
  go_wp2
  refine bodyPost_ret (Qq (p:=6) (q:=7) rfl _ _ b6 _ x.cells true rfl rfl b3 Tryz.underlying35 (by rw [Ord.len9];exact JU)) rfl ?_
  rw [HR.out]
  have U:RkP w6 p q v F2 ⟨B2,I.w⟩:=⟨(am.out.kept k5).keep a5 aH,(aO.out.kept k5).keep a5 (fun b H e=>ac (by rw [← e];exact H)),(an.out.kept k5).keep a5 (fun b H=>aZ.out b H),a4,ay.out⟩
  have z5:=k5.size
  have KF:Keep F w w6:=(aG.kept k5).new a5 (by omega)
  first | exact ⟨rfl,_,U.close,af.out,KF⟩ | exact ⟨_,rfl,U.close,af.out,KF⟩
 | false=>
  have bv:B2=I.b:=by have:=remove_off (B:=I.b) (t:=t) (i:=i) (by rw [HX.out]);rw [HX.out] at this;exact this
  subst bv
  obtain ⟨j,hj⟩:∃ j,Vq (Ord.is t i) I.w=j:=⟨_,rfl⟩
  have HJ:=Kj hj
  go_upto_region 4 with fail
  refine wA 5 [pV p 0,iV t,iV i,iV j,iV j] [24,25,26,27,10] (nS 3 (cV Tryz.func28 (fun u hk=>(by rw [← HJ.out];exact rwaits_any u p q v I.w t i (am.out.kept hk) (an.out.kept hk) ax))) nZ) ?_
  intro w5 k5
  simp only [F8]
  have aJ:=Kj (am.out.kept k5)
  have b5:=Kj (an.out.kept k5)
  have aD:=Kj (aO.out.kept k5)
  have av:=Kj (aa.out.kept k5)
  have az:=aG.kept k5
  have K5:=K4.kept k5
  have z5:=k5.size
  clear am an aO aa bj k5 aG K4
  cases hw:I.w[I.w.findIdx (Ord.is t i)]? with
  | none=>
   have aj:j=-1:=by rw [← hj];exact xx hw
   have HR:Hid (I.remove t i=(JV,false,I)):=by show _=_;unfold Mkt.remove;rw [HX.out,hw];rfl
   subst aj
   clear hj hw
   go_upto_region 5 with fail
   refine wA 2 [iV (-1),bV false] [28,29] (nS 1 (aV rfl (fun a u E D hk=>WJ rfl (dD D 0) rfl) (by decide)) nZ) ?_
   intro w6 k6
   simp only [F8]
   have z6:=k6.size
   go_upto_region 9 with fail
   refine wAp 1 [JV.v] [57] (nS 0 (sV rfl (fun a u E D hk=>XZ 35 [] JV.cells rfl (by kernel_rfl))) nZ) ?_
   intro w7 k7
   simp only [F8]
   refine sO JV ((av.out.kept k6).kept k7) ?_
   intro w8 bp a2 hsw8
   refine aT (.bool false) ?_
   simp only [Act.put,sA,sS,sZ]
   refine Kx ?_
   go_wp2
   refine bodyPost_ret (Qq (p:=6) (q:=7) rfl _ _ b6 _ JV.cells false rfl rfl bp Tryz.underlying35 (by rw [Ord.len9];exact JU)) rfl ?_
   rw [HR.out]
   have ab:=k6.trans k7
   have U:RkP w8 p q v F2 I:=⟨(aJ.out.kept ab).keep a2 aH,(aD.out.kept ab).keep a2 (fun b H e=>ac (by rw [← e];exact H)),(b5.out.kept ab).keep a2 (fun b H=>aZ.out b H),a4,ay.out⟩
   have z7:=ab.size
   have KF:Keep F w w8:=(az.kept ab).new a2 (by omega)
   first | exact ⟨rfl,_,U.close,af.out,KF⟩ | exact ⟨_,rfl,U.close,af.out,KF⟩
  | some e=>
   have aj:j=(I.w.findIdx (Ord.is t i):Int):=by rw [← hj];exact yX hw
   obtain ⟨k,hk⟩:∃ k,I.w.findIdx (Ord.is t i)=k:=⟨_,rfl⟩
   rw [hk] at aj
   have HR:Hid (I.remove t i=(e,true,⟨I.b,I.w.eraseIdx k⟩)):=by show _=_;unfold Mkt.remove;rw [HX.out,hw,hk];rfl
   rw [hk] at hw
   have be:=Kj hw
   subst aj
   clear hj hw hk
   go_upto_region 5 with fail
   refine wA 2 [iV (k:Int),bV true] [28,29] (nS 1 (aV rfl (fun a u E D hk=>WJ rfl (dD D 0) rfl) (Ky (by omega))) nZ) ?_
   intro w6 k6
   simp only [F8]
   have z6:=k6.size
   obtain ⟨n,hn⟩:∃ n,I.w.length=n:=⟨_,rfl⟩
   have ba:k<n:=by rw [← hn];exact (List.getElem?_eq_some_iff.1 be.out).1
   have a3:Hid (Sl w5 35 9 v n (ords I.w)):=by show Sl _ _ _ _ _ _;rw [← hn];exact b5.out
   obtain ⟨g,off,c,rfl⟩:=a3.out.some_ (by omega)
   have aX:Hid (w6.cell? ⟨p,1,none⟩=some (.slice (some ⟨g,off,none⟩) n c)):=(aJ.out.kept k6).cell 1
   have b4:Hid (w6.rangeAt g (off+k*9) e.cells):=JJ (a3.out.rngO k e be.out) k6
   go_upto_region 6 with fail
   refine wAp 7 [pV p 0,pV p 0,pV p 1,.slice (some ⟨g,off,none⟩) n c,iV (k:Int),pV g (off+k*9),e.v] [30,31,32,33,34,35,36] (nS 3 (ldC aX.out) (nS 5 (ixV slO (off) n k ((k:Int)) (ba)) (nS 6 (ldO b4.out) nZ))) ?_
   intro w7 k7
   simp only [F8]
   refine nT zO ?_
   intro w8 ad aS
   refine sO e (ad) ?_
   intro O a1 ai bi
   simp only [Act.put,sA,sS,sZ]
   refine Kx ?_
   obtain ⟨b11,bG⟩:∃ a,w7.heap.size=a:=⟨_,rfl⟩
   rw [bG] at ad a1 ai ⊢
   have z7:=k7.size
   have aW:Kept w6 O:=(k7.trans aS).trans' ai (by omega)
   have a9:=k6.trans aW
   have z9:=aW.size
   have aw:=Kj (JX a1)
   have l11:=a1.lt
   obtain ⟨L,hL⟩:∃ L,I.w=L:=⟨_,rfl⟩
   rw [hL] at hn a3 HR
   have bn:=Kj hn
   have aI:=Kj (aJ.out.kept a9)
   have ak:=Kj (a3.out.kept a9)
   have bd:Hid (O.cell? ⟨p,1,none⟩=some (.slice (some ⟨g,off,none⟩) n c)):=aI.out.cell 1
   have hlen9:n≤100000:=by rw [← hn,← hL];exact ax
   clear ad a1 ai bi aS k7 aX b4 hn
   obtain ⟨va,bg,bH,b1⟩:=yU slO _ n k (by omega) _ O ak.out
   obtain ⟨vb,bt,bx,b9⟩:=jX slO _ n (k+1) (by omega) _ O ak.out
   have aR:=Kj bg
   have aM:=Kj bt
   have bb:Hid (∀ u,Kept O u→Sl u 35 9 va k (ords (L.take k))):=fun u hk=>by
    have:=b1 u _ (ak.out.kept hk)
    rw [show (ords L).take (k*9)=ords (L.take k) from yY Ord.cells 9 Ord.len9 _ k] at this
    exact this
   have aY:Hid (∀ u,Kept O u→Sl u 35 9 vb (n-(k+1)) (ords (L.drop (k+1)))):=fun u hk=>by
    have:=b9 u _ (ak.out.kept hk)
    rw [show (ords L).drop ((k+1)*9)=ords (L.drop (k+1)) from Ux Ord.cells 9 Ord.len9 _ (k+1)] at this
    exact this
   have aF:((k+1:Nat):Int)=(k:Int)+1:=by omega
   rw [aF] at aM
   clear bg bH b1 bt bx b9
   go_upto_region 7 with fail
   refine JJZ 16 [.eq (.pointer (some ⟨p,0,none⟩)),.emp O.heap.size 35,.eq (.pointer (some ⟨p,0,none⟩)),.eq (.pointer (some ⟨p,0,none⟩)),.eq (.pointer (some ⟨p,1,none⟩)),.eq (.slice (some ⟨g,off,none⟩) n c),.eq (.int .i64 (k:Int)),.eq (va),.sl O.heap.size 35 9 k (ords (L.take k)),.eq (.pointer (some ⟨p,0,none⟩)),.eq (.pointer (some ⟨p,0,none⟩)),.eq (.pointer (some ⟨p,1,none⟩)),.eq (.slice (some ⟨g,off,none⟩) n c),.eq (.int .i64 (k:Int)),.eq (.int .i64 ((k:Int)+1)),.eq (vb)] (.pointer (some ⟨p,0,none⟩)) ((fun v' u u'=>Sl u' 35 9 v' (k+(n-(k+1))) (ords (L.take k)++ords (L.drop (k+1)))∧(∀ b,v'.ownBlock=some b→O.heap.size≤b)∧Keep (fun b=>O.heap.size≤b) u u')) (by kernel_rfl) rfl rfl (by kernel_rfl) (by kernel_rfl) (t_zero (d:=37) _ rfl rfl rfl (by kernel_rfl) (by kernel_rfl)) ?_ (fun a u hE hD hk=> (by obtain ⟨v',u',hr,bA,bD,bC⟩:=QQ slO _ u (a.eval (.tmp 45)) vb k (n-(k+1)) _ _ ((hD 8 45 (by kernel_rfl))).1 (aY.out u hk) (qx _) (by unfold maxLen;omega) (by omega);have hq:=((hD 8 45 (by kernel_rfl))).2;exact t_last (o:=⟨some 53,_,_,_,_,_⟩) (R:=(fun v' u u'=>Sl u' 35 9 v' (k+(n-(k+1))) (ords (L.take k)++ords (L.drop (k+1)))∧(∀ b,v'.ownBlock=some b→O.heap.size≤b)∧Keep (fun b=>O.heap.size≤b) u u')) (m:=16) (v:=v') (w':=u') rfl (JQ rfl _) (QV slO (.tmp 45) (.tmp 52) _ vb rfl rfl (dD hD 15) v' u' hr) ⟨bA,fun b H=>(bC b H).elim (hq b) (fun h=>Kv hk.size h),bD.mono (fun b _ H=>hq b H)⟩)) ?_
   ·refine nW 2 rfl (fun a u E D hk=>⟨_,_,Uq 43 35 9 rfl slO.und JU,⟨_,rfl,hk.size,Blk.new u _ _⟩,((Keep.refl _ u).alloc _)⟩) ?_
    refine mE 3 0 ?_
    refine nD 4 39 2 ?_
    refine fD 5 40 3 62 1 1 0 ?_
    refine sW 6 rfl (fun a u E D hk=>Qx _ _ Tryz.underlying43 _ _ _ rfl (dD D 4) (Kept.cell hk (bd.out))) ?_
    refine mE 7 10 ?_
    refine sW 8 rfl (fun a u E D hk=>WV slO _ _ _ va _ rfl (dD D 5) (dD D 6) (aR.out u)) ?_
    refine UU 9 rfl (fun a u hE hD hk=>(by obtain ⟨v',u',hr,hp,bI⟩:=Zx slO _ u (a.eval (.tmp 38)) va k O.heap.size _ ((dD hD 1)) (bb.out u hk) (qx _) (by omega) (by omega) hk.size;exact jV v' u' rfl (JQ rfl _) (QV slO (.tmp 38) (.tmp 44) _ va rfl rfl (dD hD 7) v' u' hr) hp bI)) ?_
    refine mE 10 0 ?_
    refine nD 11 46 9 ?_
    refine fD 12 47 10 62 1 1 0 ?_
    refine sW 13 rfl (fun a u E D hk=>Qx _ _ Tryz.underlying43 _ _ _ rfl (dD D 11) (Kept.cell hk (bd.out))) ?_
    refine mE 14 10 ?_
    refine sW 15 rfl (fun a u E D hk=>YQ ((k:Int)+1) rfl (dD D 13) rfl rfl (by omega) (by omega)) ?_
    refine sW 16 rfl (fun a u E D hk=>ZW slO _ _ _ vb _ rfl (dD D 12) (dD D 14) (aM.out u)) ?_
    exact fz
   intro gv w1 wx hV h0 hR bm
   rw [dq 17 [37,38,39,40,41,42,43,44,45,46,47,48,49,50,51,52,53]]
   simp only [Fz7]
   have hT:=hR 53 (by kernel_rfl)
   generalize gv 53=v53 at hT ⊢
   rw [show gv 37=.pointer (some ⟨p,0,none⟩) from h0 37 (by kernel_rfl)]
   clear hV h0 hR
   obtain ⟨a8,aA,bc⟩:=hT
   have al:=yW bm bc (Nat.le_refl _)
   have bs:=aI.out.kept al
   refine aT (.pointer (some ⟨p,0,none⟩)) ?_
   refine aT (.pointer (some ⟨p,1,none⟩)) ?_
   refine ZJ 43 p 1 62 _ v53 _ _ rfl rfl (by kernel_rfl) (by kernel_rfl) (by kernel_rfl) (Zy a8) (Xy a8) bs (by simp [Yz]) ?_
   intro wy aK aL hsy
   simp only [Act.put,sA,sS,sZ]
   refine Kx ?_
   obtain ⟨v',bF⟩:∃ v',v'=v53:=⟨_,rfl⟩
   subst bF
   have hpW:p<O.heap.size:=aI.out.lt
   have zx:=al.size
   have aK:Blk wy p 62 (Yz q v'):=aK
   have bw:(L.eraseIdx k).length=n-1:=by rw [List.length_eraseIdx,if_pos (by rw [bn.out];exact ba),bn.out]
   have bu:Sl wy 35 9 v' (L.eraseIdx k).length (ords (L.eraseIdx k)):=by
    rw [bw,List.eraseIdx_eq_take_drop_succ]
    unfold ords at a8 ⊢
    rw [List.flatMap_append]
    rw [show k+(n-(k+1))=n-1 by omega] at a8
    exact a8.keep aL (fun b H e=>by have:=aA b H;omega)
   have KY:Keep (·=p) O wy:=Keep.any al aL
   have ar:=aA
   clear a8 aA bc bs bm aL aR aM bb aY al
   have bB:=Kj (QJ aw.out KY (by omega))
   have z5w:w.heap.size≤O.heap.size:=by have:=az.size;omega
   have b0:=Kj ((av.out.kept a9).keep KY (by omega))
   have zy:=KY.size
   clear aw
   go_upto_region 8 with fail
   refine wAp 1 [e.v] [56] (nS 0 (ldO bB.out) nZ) ?_
   intro w12 a7
   simp only [F8]
   refine sO e (b0.out.kept a7) ?_
   intro bl aC N hsw13
   refine aT (.bool true) ?_
   simp only [Act.put,sA,sS,sZ]
   refine Kx ?_
   go_wp2
   refine bodyPost_ret (Qq (p:=6) (q:=7) rfl _ _ b6 _ e.cells true rfl rfl aC Tryz.underlying35 (by rw [Ord.len9];exact JU)) rfl ?_
   rw [HR.out]
   have b7:∀ b,v'.ownBlock=some b→b≠b6:=fun b H e=>by have:=ar b H;omega
   have U:RkP bl p q v' F2 ⟨I.b,L.eraseIdx k⟩:=⟨(aK.kept a7).keep N aH,(((aD.out.kept a9).keep KY (fun b H e=>a4 (by rw [← e];exact H))).kept a7).keep N (fun b H e=>ac (by rw [← e];exact H)),(bu.kept a7).keep N (fun b H=>b7 b H),a4,fun b H=>⟨fun e=>by have:=ar b H;omega,fun e=>by have:=aD.out.lt b e;have:=ar b H;have:=a9.size;omega⟩⟩
   have z12:=a7.size
   have KF:Keep F w bl:=(((az.kept a9).trans KY (fun b _ e=>ah.out b (.inl (.inl e)))).kept a7).new N (by omega)
   have au:Grow w F (foot p v' F2):=fun b H=>by
    rcases H with (H | H) | H
    ·exact .inl (ah.out b (.inl (.inl H)))
    ·have:=ar b H;exact .inr (by omega)
    exact af.out b (.inr H)
   first | exact ⟨rfl,_,U.close,au,KF⟩ | exact ⟨_,rfl,U.close,au,KF⟩
theorem RBk.last {w:World} {F:Nat→Prop} {p:Nat} {B:Bok} (h:RBk w F p B):w.cell? ⟨p,3,none⟩=some (.int .i64 B.last):=by
 obtain ⟨_,_,v1,v2,F1,F2,j,_⟩:=h
 exact j.cell 3
def rb0:List Value:=xU (.slice none 0 0) (.slice none 0 0) 0 0
theorem built_rmk (q:Nat):Tryz.prog.built 62 [(0,.pointer (some ⟨q,0,none⟩))]=some (Yz q (.slice none 0 0)).toArray:=by kernel_rfl
theorem rmnew_any (w:World):Calls Tryz.prog 5 #[] w fun e w'=>∃ p F,e=.returned (.pointer (some ⟨p,0,none⟩))∧RMk w' F p Mkt.zero∧Grow w (fun _=>False) F∧Kept w w':=by
 go_enter Tryz.func5,Tryz.ntmps5
 go_upto_region 1 with fail
 refine wp_region_lit ?_
 refine UJ (.agg rb0.toArray) rfl (XZ 60 [] rb0 rfl (by kernel_rfl)) ?_
 simp only [Act.put,sA,sS,sZ]
 refine Vj (.pointer (some ⟨w.heap.size,0,none⟩)) _ rfl (XV 60 (.tmp 1) rb0 rfl (by kernel_rfl)) ?_
 have j:Blk (w.alloc (.cells rb0.toArray 60)) w.heap.size 60 rb0:=Blk.new w 60 rb0
 have J:Kept w (w.alloc (.cells rb0.toArray 60)):=(Keep.refl _ w).alloc _
 generalize w.alloc (.cells rb0.toArray 60)=H at j J ⊢
 obtain ⟨q,hq⟩:∃ x,w.heap.size=x:=⟨_,rfl⟩
 rw [hq] at j ⊢
 simp only [Act.put,sA,sS,sZ]
 refine UJ (.agg (Yz q (.slice none 0 0)).toArray) rfl (XZ 62 [(0,.tmp 2)] (Yz q (.slice none 0 0)) rfl (by simp only [List.map_cons,List.map_nil];exact built_rmk q)) ?_
 simp only [Act.put,sA,sS,sZ]
 refine Vj (.pointer (some ⟨H.heap.size,0,none⟩)) _ rfl (XV 62 (.tmp 3) (Yz q (.slice none 0 0)) rfl (by kernel_rfl)) ?_
 have I:=Blk.new H 62 (Yz q (.slice none 0 0))
 have N:Kept H (H.alloc (.cells (Yz q (.slice none 0 0)).toArray 62)):=(Keep.refl _ H).alloc _
 generalize H.alloc (.cells (Yz q (.slice none 0 0)).toArray 62)=U at I N ⊢
 simp only [Act.put,sA,sS,sZ]
 refine aT (.pointer (some ⟨H.heap.size,0,none⟩)) ?_
 simp only [Act.put,List.setIfInBounds_toArray,List.set_cons_zero]
 refine Kx ?_
 obtain ⟨g,O⟩:∃ x,H.heap.size=x:=⟨_,rfl⟩
 rw [O] at I ⊢
 have z1:=J.size
 have l1:=j.lt
 have hP:RkP U g q (.slice none 0 0) (·=q) Mkt.zero:=⟨I,(rbk_new j).kept N,Sl.nil _ _ _,fun h=>by have e:g=q:=h;omega,fun b D=>by simp [Value.ownBlock] at D⟩
 go_wp2
 go_ret
 exact ⟨g,_,rfl,hP.close,fun b D=>by
  rcases D with (D | D) | D
  ·exact .inr (by omega)
  ·simp [Value.ownBlock] at D
  have e:b=q:=D
  exact .inr (by omega),J.trans N⟩
def Seek (p:Ord→Bool) (W:List Ord) (i:Nat) (k:Int):Prop:=
 (k=-1∧∀ (j:Nat) (x:Ord),i≤j→W[j]?=some x→p x=false)∨∃ (m:Nat) (e:Ord),k=(m:Int)∧i≤m∧W[m]?=some e∧p e=true∧∀ (j:Nat) (x:Ord),i≤j→j<m→W[j]?=some x→p x=false
theorem Seek.off {p:Ord→Bool} {W:List Ord} {i:Nat} {k:Int} {e:Ord} (h:Seek p W (i+1) k) (he:W[i]?=some e) (hp:p e=false):Seek p W i k:=by
 have key:∀ (j:Nat) (x:Ord),i≤j→W[j]?=some x→(i+1≤j→p x=false)→p x=false:=fun j x J H N=>by
  by_cases D:j=i
  ·subst D
   rw [he] at H
   injection H with H
   rw [← H]
   exact hp
  exact N (by omega)
 rcases h with ⟨J,H⟩ | ⟨m,x,J,H,N,h4,U⟩
 ·exact .inl ⟨J,fun j y D I=>key j y D I (fun D=>H j y D I)⟩
 exact .inr ⟨m,x,J,by omega,N,h4,fun j y D O I=>key j y D I (fun D=>U j y D O I)⟩
theorem Seek.on {p:Ord→Bool} {W:List Ord} {i:Nat} {e:Ord} (H:W[i]?=some e) (D:p e=true):Seek p W i (i:Int):=
 .inr ⟨i,e,rfl,Nat.le_refl _,H,D,fun j x h1 h2=>by omega⟩
theorem Seek.start {p:Ord→Bool} {W:List Ord} {n:Nat} (hn:W.length=n):Seek p W n (-1):=
 .inl ⟨rfl,fun j x h1 D=>by have:=(List.getElem?_eq_some_iff.1 D).1;omega⟩
theorem Seek.end_ {p:Ord→Bool} {W:List Ord} {k:Int} (h:Seek p W 0 k):k=Vq p W:=by
 rcases h with ⟨H,N⟩ | ⟨m,x,H,_,I,U,O⟩
 ·have D:W.findIdx p=W.length:=find_no fun j x J hx=>N j x (by omega) hx
  unfold Vq
  rw [D,if_neg (by omega),H]
 have D:=find_at (fun j x J hx=>O j x (by omega) J hx) I U
 have hl:=(List.getElem?_eq_some_iff.1 I).1
 unfold Vq
 rw [D,if_pos hl,H]
theorem oc_set_o (x:Oc) (e:Ord) (v:Value):e.cells++(x.cells v).drop 9=({ x with o:=e }:Oc).cells v:=by
 unfold Oc.cells
 rw [List.drop_append_of_le_length (by rw [Ord.len9];omega),List.drop_of_length_le (by rw [Ord.len9];omega)]
 rfl
def RCasIn (w:World) (F:Nat→Prop) (p:Nat) (L:List Ot) (M:Mkt) (r:Ending) (w':World):Prop:=
 ∃ F' v' Z',r=.returned v'∧RMk w' F' p M∧Outs w' w.heap.size F' v' L Z'∧Grow w F F'∧Keep F w w'
theorem rcascade_any (w:World) (F:Nat→Prop) (p:Nat) (Mm:Mkt) (h:RMk w F p Mm) (hI:InvK Mm) (dh:Mm.b.no+1048576*Mm.w.length≤1000000000000) :
  Calls Tryz.prog 32 #[.pointer (some ⟨p,0,none⟩)] w (RCasIn w F p Mm.cas.1 Mm.cas.2):=by
 have HM:=Kj h
 have HI:=Kj hI
 have hw64:Mm.w.length≤64:=by have:=hI.few;omega
 obtain ⟨N,hN⟩:∃ N,Mm.w.length=N:=⟨_,rfl⟩
 have HN:=Kj hN
 clear h hI
 go_enter Tryz.func32,Tryz.ntmps32
 go_wp2_with fail
 go_loopw [3] (fun x wr=>∃ (O:Mkt) (Fr:Nat→Prop) (Zr:List (Ot × Value)) (D:List Ot),Hid (RMk wr Fr p O)∧Hid (InvK O)∧Hid (O.b.no+1048576*O.w.length≤1000000000000)∧Hid (Outs wr w.heap.size Fr x D Zr)∧Hid (Mm.cas=(D++O.cas.1,O.cas.2))∧Hid (Grow w F Fr)∧Hid (Keep F w wr)∧D.length+O.w.length=N) (fun x _=>N-sliceN x)
 case atStart=>exact ⟨Mm,F,[],[],HM.out,HI.out,dh,⟨rfl,Sl.nil _ _ _,fun b H=>by simp [Value.ownBlock] at H,fun z hz=>by simp at hz,fun z hz=>by simp at hz⟩,by show _=_;rw [List.nil_append],Grow.refl _ _,Keep.refl _ _,by simpa using hN⟩
 obtain ⟨O,Fr,Zr,D,aW,az,aY,ai,HC,ax,aJ,hn⟩:=hrel
 obtain ⟨v3,dn⟩:∃ x,x=u3:=⟨_,rfl⟩
 subst dn
 obtain ⟨ws,d6⟩:∃ x,x=wr:=⟨_,rfl⟩
 subst d6
 have cf:O.w.length≤64:=by have:=az.out.few;omega
 obtain ⟨dl,q,v,Fb,hP,c8⟩:=aW.out
 have a1:=Kj hP
 have aC:=Kj c8
 obtain ⟨L,hL⟩:∃ L,O.w=L:=⟨_,rfl⟩
 have HL:=Kj hL
 rw [hL] at cf
 obtain ⟨n,b0⟩:∃ n,L.length=n:=⟨_,rfl⟩
 have a6:=Kj b0
 have HS:Hid (Sl ws 35 9 v n (ords L)):=by show Sl _ _ _ _ _ _;rw [← b0,← hL];exact hP.sl
 have HV:Hid (ws.cell? ⟨p,1,none⟩=some v):=hP.blk.cell 1
 rw [b0] at cf
 clear hP c8 hL b0 dl
 go_upto_region 3 with fail
 refine wA 7 [pV p 0,pV p 0,pV p 1,v,iV (n:Int),iV (((n:Int):Int)-(1:Int)),iV (((n:Int):Int)-(1:Int))] [9,10,11,12,13,14,5] (nS 3 (ldC HV.out) (nS 4 (sV rfl (fun a u E D hk=>Jx _ slO _ _ _ _ rfl (dD D 3) (HS.out.kept hk))) (nS 5 (sV rfl (fun a u E D hk=>Zz (p:=((n:Int))) (q:=(1)) (((n:Int):Int)-(1:Int)) rfl (dD D 4) rfl rfl (by omega) (by omega))) nZ))) ?_
 intro w1 k1
 simp only [F8]
 obtain ⟨hl,d1⟩:∃ hl:Ord→Bool,(fun o:Ord=>o.hit O.b.last)=hl:=⟨_,rfl⟩
 have bz:=Kj d1
 go_wp2_with fail
 go_loopw [4,5] (fun a b wq=>∃ (i:Nat) (k z:Int),i≤n∧z=(i:Int)-1∧a=.int .i64 k∧b=.int .i64 z∧Hid (Seek hl L i k)∧Kept ws wq) (fun _ b _=>(intOf b+1).toNat)
 case atStart=>exact ⟨n,-1,_,Nat.le_refl _,rfl,rfl,rfl,Seek.start a6.out,k1⟩
 obtain ⟨i,k,z,hin,hz,rfl,rfl,aE,a9⟩:=hrel
 have bo:=Kj (Kept.cell a9 HV.out)
 by_cases hi0:0<i
 ·obtain ⟨j,rfl⟩:∃ j,i=j+1:=⟨i-1,by omega⟩
  obtain rfl:z=(j:Int):=by omega
  have bu:j<n:=by omega
  obtain ⟨e,he⟩:∃ e,L[j]?=some e:=⟨L[j]'(by rw [a6.out];exact bu),List.getElem?_eq_getElem (by rw [a6.out];exact bu)⟩
  have HE:=Kj he
  obtain ⟨g,off,c,rfl⟩:=HS.out.some_ (by omega)
  have cE:Hid (wr.rangeAt g (off+j*9) e.cells):=JJ (HS.out.rngO j e he) a9
  have cw:Hid (wr.cell? ⟨p,0,none⟩=some (.pointer (some ⟨q,0,none⟩))):=(a1.out.blk.kept a9).cell 0
  have ca:Hid (wr.cell? ⟨q,3,none⟩=some (.int .i64 O.b.last)):=(a1.out.bk.kept a9).last
  obtain ⟨d,hd⟩:∃ d,e.hit O.b.last=d:=⟨_,rfl⟩
  have HD:=Kj hd
  have b2:Hid (hl e=d):=by show _=_;rw [← bz.out];exact hd
  clear he hd hi0 hz
  go_upto_region 4 with fail
  refine wA 2 [iV (j:Int),bV true] [15,16] (nS 1 (aV rfl (fun a u E D hk=>WJ rfl (dD D 0) rfl) (Ky (by omega))) nZ) ?_
  intro wa ka
  simp only [F8]
  have bU:=Kj (Kept.cell ka bo.out)
  have cR:=Kj (Kept.cell ka cw.out)
  have ci:=Kj (Kept.cell ka ca.out)
  have cn:=Kj (JJ cE.out ka)
  go_upto_region 6 with fail
  refine wH 15 [pV p 0,pV p 0,pV p 1,.slice (some ⟨g,off,none⟩) n c,iV (j:Int),pV g (off+j*9),e.v,pV p 0,pV p 0,pV p 0,pV q 0,pV q 0,pV q 3,iV O.b.last,bV d] [19,20,21,22,23,24,25,26,27,28,29,30,31,32,33] (nS 3 (ldC bU.out) (nS 5 (ixV slO (off) n j ((j:Int)) (bu)) (nS 6 (ldO cn.out) (nS 10 (ldC cR.out) (nS 13 (ldF (fun u hk=>Kept.cell hk (ci.out))) (nS 14 (cV Tryz.func30 (fun u hk=>(by rw [← HD.out];exact rhit_any e _ u))) nZ)))))) ?_
  intro wb kb
  simp only [F8]
  have cA:=(a9.trans ka).trans kb
  clear a9 ka kb bU cR ci cn bo cw ca cE
  cases d with
  | true=>
   have br:=Kj (Seek.on HE.out b2.out)
   clear aE HE HD b2
   go_wp2
   exact ⟨⟨j,_,(j:Int)-1,by omega,rfl,rfl,by go_num,br,cA⟩,by simp [intOf]⟩
  | false=>
   have br:=Kj (aE.out.off HE.out b2.out)
   clear aE HE HD b2
   go_wp2
   exact ⟨⟨j,_,(j:Int)-1,by omega,rfl,rfl,by go_num,br,cA⟩,by simp [intOf]⟩
 obtain rfl:i=0:=by omega
 obtain rfl:z=-1:=by omega
 have ae:=aE.out.end_
 go_upto_region 4 with fail
 refine wA 2 [iV (-1),bV false] [15,16] (nS 1 (aV rfl (fun a u E D hk=>WJ rfl (dD D 0) rfl) (by decide)) nZ) ?_
 intro wa ka
 simp only [F8]
 have bB:=a9.trans ka
 clear a9 ka aE bo
 cases hw:O.w[O.trig]? with
 | none=>
  have bt:k=-1:=by rw [ae,← bz.out,← HL.out];exact xx hw
  subst bt
  have aN:Hid (Mm.cas=(D,O)):=by show _=_;rw [HC.out,WZ hw,List.append_nil]
  clear hw ae
  go_upto_region 8 with fail
  refine wA 2 [iV (-1),bV true] [35,36] (nS 1 (aV rfl (fun a u E D hk=>YU rfl (dD D 0) rfl) (by decide)) nZ) ?_
  intro w2 k2
  simp only [F8]
  have kk:=bB.trans k2
  go_wp2
  go_ret
  rw [aN.out]
  first | exact ⟨Fr,v3,Zr,rfl,aW.out.kept kk,ai.out.kept kk,ax.out,aJ.out.kept kk⟩ | exact ⟨rfl,Fr,Zr,aW.out.kept kk,ai.out.kept kk,ax.out,aJ.out.kept kk⟩
 | some e=>
  have bt:k=(O.trig:Int):=by rw [ae,← bz.out,← HL.out];exact yX hw
  have aN:Hid (Mm.cas=((D++[⟨(O.b.enter e).1,false⟩])++(O.next e).cas.1,(O.next e).cas.2)):=by show _=_;rw [HC.out,cas_some hw,List.append_assoc];rfl
  have cP:=Kj (az.out.next hw)
  clear ae
  subst bt
  obtain ⟨k,hk⟩:∃ k,O.trig=k:=⟨_,rfl⟩
  have bs:Hid (O.next e=⟨(O.b.enter e).2,L.eraseIdx k⟩):=by show _=_;rw [← hk,← HL.out];rfl
  rw [hk,HL.out] at hw
  rw [hk]
  have bw:k<n:=by rw [← a6.out];exact (List.getElem?_eq_some_iff.1 hw).1
  have bj:(L.eraseIdx k).length=n-1:=by rw [List.length_eraseIdx,if_pos (by rw [a6.out];exact bw),a6.out]
  have d3:=Kj hw
  obtain ⟨x,B2,hX⟩:∃ x B2,O.b.add e.free=(x,B2):=⟨_,_,rfl⟩
  have HX:=Kj hX
  obtain ⟨y,hy⟩:∃ y:Oc,{ x with o:=e }=y:=⟨_,rfl⟩
  have bg:O.b.enter e=(y,B2):=by unfold Bok.enter;rw [hX,← hy]
  have df:Hid (y.f=x.f):=by show _=_;rw [← hy]
  have di:Hid (∀ v,e.cells++(x.cells v).drop 9=y.cells v):=fun v=>by rw [← hy];exact oc_set_o x e v
  have cL:O.w.length=n:=by rw [HL.out];exact a6.out
  have cz:Hid (B2.no+1048576*(L.eraseIdx k).length≤1000000000000):=by
   show _≤_
   have h1:=(JQY (o:=e) az.out.inv).2.2
   have h2:=aY.out
   rw [bg] at h1
   rw [bj]
   have h3:B2.no≤O.b.no+1048576:=h1
   omega
  rw [bg] at bs aN
  rw [bs.out] at cP aN
  have dj:=Kj bj
  have bS:=Kj cL
  clear hw hk hX hy bg HC bs bj cL hz
  go_upto_region 8 with fail
  refine wA 2 [iV (k:Int),bV false] [35,36] (nS 1 (aV rfl (fun a u E D hk=>YU rfl (dD D 0) rfl) (Ku (by omega))) nZ) ?_
  intro w2 k2
  simp only [F8]
  have aL:=bB.trans k2
  clear bB k2
  obtain ⟨g,off,c,rfl⟩:=HS.out.some_ (by omega)
  have cQ:Hid (w2.cell? ⟨p,1,none⟩=some (.slice (some ⟨g,off,none⟩) n c)):=Kept.cell aL HV.out
  have cu:Hid (w2.rangeAt g (off+k*9) e.cells):=JJ (HS.out.rngO k e d3.out) aL
  go_upto_region 10 with fail
  refine wAp 7 [pV p 0,pV p 0,pV p 1,.slice (some ⟨g,off,none⟩) n c,iV (k:Int),pV g (off+k*9),e.v] [38,39,40,41,42,43,44] (nS 3 (ldC cQ.out) (nS 5 (ixV slO (off) n k ((k:Int)) (bw)) (nS 6 (ldO cu.out) nZ))) ?_
  intro wb kb
  simp only [F8]
  refine nT zO ?_
  intro wd a2 av
  refine sO e (a2) ?_
  intro w3 aj aG cH
  simp only [Act.put,sA,sS,sZ]
  refine Kx ?_
  obtain ⟨b6,h6⟩:∃ a,wb.heap.size=a:=⟨_,rfl⟩
  rw [h6] at a2 aj aG ⊢
  have zb:=kb.size
  have c7:Kept w2 w3:=(kb.trans av).trans' aG (by omega)
  have au:=aL.trans c7
  have zs2:=aL.size
  have hb6:ws.heap.size≤b6:=by omega
  have l6:=aj.lt
  have bQ:=Kj (JX aj)
  have a8:=Kj (a1.out.blk.kept au)
  have aa:=Kj (HS.out.kept au)
  have bx:Hid (w3.cell? ⟨p,1,none⟩=some (.slice (some ⟨g,off,none⟩) n c)):=a8.out.cell 1
  have af:=Kj (a1.out.bk.kept au)
  have hlen9:n≤100000:=by omega
  have zs3:=au.size
  clear a2 aj aG cH av kb cQ cu c7 aL h6
  obtain ⟨va,cM,d7,cp⟩:=yU slO _ n k (by omega) _ w3 aa.out
  obtain ⟨vb,cC,d2,c5⟩:=jX slO _ n (k+1) (by omega) _ w3 aa.out
  have cj:=Kj cM
  have bq:=Kj cC
  have c9:Hid (∀ u,Kept w3 u→Sl u 35 9 va k (ords (L.take k))):=fun u hk=>by
   have:=cp u _ (aa.out.kept hk)
   rw [show (ords L).take (k*9)=ords (L.take k) from yY Ord.cells 9 Ord.len9 _ k] at this
   exact this
  have co:Hid (∀ u,Kept w3 u→Sl u 35 9 vb (n-(k+1)) (ords (L.drop (k+1)))):=fun u hk=>by
   have:=c5 u _ (aa.out.kept hk)
   rw [show (ords L).drop ((k+1)*9)=ords (L.drop (k+1)) from Ux Ord.cells 9 Ord.len9 _ (k+1)] at this
   exact this
  have aM:((k+1:Nat):Int)=(k:Int)+1:=by omega
  rw [aM] at bq
  clear cM d7 cp cC d2 c5
  go_upto_region 11 with fail
  refine JJZ 16 [.eq (.pointer (some ⟨p,0,none⟩)),.emp w3.heap.size 35,.eq (.pointer (some ⟨p,0,none⟩)),.eq (.pointer (some ⟨p,0,none⟩)),.eq (.pointer (some ⟨p,1,none⟩)),.eq (.slice (some ⟨g,off,none⟩) n c),.eq (.int .i64 (k:Int)),.eq (va),.sl w3.heap.size 35 9 k (ords (L.take k)),.eq (.pointer (some ⟨p,0,none⟩)),.eq (.pointer (some ⟨p,0,none⟩)),.eq (.pointer (some ⟨p,1,none⟩)),.eq (.slice (some ⟨g,off,none⟩) n c),.eq (.int .i64 (k:Int)),.eq (.int .i64 ((k:Int)+1)),.eq (vb)] (.pointer (some ⟨p,0,none⟩)) ((fun v' u u'=>Sl u' 35 9 v' (k+(n-(k+1))) (ords (L.take k)++ords (L.drop (k+1)))∧(∀ b,v'.ownBlock=some b→w3.heap.size≤b)∧Keep (fun b=>w3.heap.size≤b) u u')) (by kernel_rfl) rfl rfl (by kernel_rfl) (by kernel_rfl) (t_zero (d:=45) _ rfl rfl rfl (by kernel_rfl) (by kernel_rfl)) ?_ (fun a u hE hD hk=> (by obtain ⟨v',u',hr,db,d4,dk⟩:=QQ slO _ u (a.eval (.tmp 53)) vb k (n-(k+1)) _ _ ((hD 8 53 (by kernel_rfl))).1 (co.out u hk) (qx _) (by unfold maxLen;omega) (by omega);have hq:=((hD 8 53 (by kernel_rfl))).2;exact t_last (o:=⟨some 61,_,_,_,_,_⟩) (R:=(fun v' u u'=>Sl u' 35 9 v' (k+(n-(k+1))) (ords (L.take k)++ords (L.drop (k+1)))∧(∀ b,v'.ownBlock=some b→w3.heap.size≤b)∧Keep (fun b=>w3.heap.size≤b) u u')) (m:=16) (v:=v') (w':=u') rfl (JQ rfl _) (QV slO (.tmp 53) (.tmp 60) _ vb rfl rfl (dD hD 15) v' u' hr) ⟨db,fun b H=>(dk b H).elim (hq b) (fun h=>Kv hk.size h),d4.mono (fun b _ H=>hq b H)⟩)) ?_
  ·refine nW 2 rfl (fun a u E D hk=>⟨_,_,Uq 43 35 9 rfl slO.und JU,⟨_,rfl,hk.size,Blk.new u _ _⟩,((Keep.refl _ u).alloc _)⟩) ?_
   refine mE 3 0 ?_
   refine nD 4 47 2 ?_
   refine fD 5 48 3 62 1 1 0 ?_
   refine sW 6 rfl (fun a u E D hk=>Qx _ _ Tryz.underlying43 _ _ _ rfl (dD D 4) (Kept.cell hk (bx.out))) ?_
   refine mE 7 4 ?_
   refine sW 8 rfl (fun a u E D hk=>WV slO _ _ _ va _ rfl (dD D 5) (dD D 6) (cj.out u)) ?_
   refine UU 9 rfl (fun a u hE hD hk=>(by obtain ⟨v',u',hr,hp,dr⟩:=Zx slO _ u (a.eval (.tmp 46)) va k w3.heap.size _ ((dD hD 1)) (c9.out u hk) (qx _) (by omega) (by omega) hk.size;exact jV v' u' rfl (JQ rfl _) (QV slO (.tmp 46) (.tmp 52) _ va rfl rfl (dD hD 7) v' u' hr) hp dr)) ?_
   refine mE 10 0 ?_
   refine nD 11 54 9 ?_
   refine fD 12 55 10 62 1 1 0 ?_
   refine sW 13 rfl (fun a u E D hk=>Qx _ _ Tryz.underlying43 _ _ _ rfl (dD D 11) (Kept.cell hk (bx.out))) ?_
   refine mE 14 4 ?_
   refine sW 15 rfl (fun a u E D hk=>YQ ((k:Int)+1) rfl (dD D 13) rfl rfl (by omega) (by omega)) ?_
   refine sW 16 rfl (fun a u E D hk=>ZW slO _ _ _ vb _ rfl (dD D 12) (dD D 14) (bq.out u)) ?_
   exact fz
  intro gv w1 wx hV h0 hR ae
  rw [dq 17 [45,46,47,48,49,50,51,52,53,54,55,56,57,58,59,60,61]]
  simp only [Fz7]
  have hT:=hR 61 (by kernel_rfl)
  generalize gv 61=v61 at hT ⊢
  rw [show gv 45=.pointer (some ⟨p,0,none⟩) from h0 45 (by kernel_rfl)]
  clear hV h0 hR
  obtain ⟨an,bl,cq⟩:=hT
  have aR:=yW ae cq (Nat.le_refl _)
  have bP:=a8.out.kept aR
  refine aT (.pointer (some ⟨p,0,none⟩)) ?_
  refine aT (.pointer (some ⟨p,1,none⟩)) ?_
  refine ZJ 43 p 1 62 _ v61 _ _ rfl rfl (by kernel_rfl) (by kernel_rfl) (by kernel_rfl) (Zy an) (Xy an) bP (by simp [Yz]) ?_
  intro wy aS bG dg
  simp only [Act.put,sA,sS,sZ]
  refine Kx ?_
  obtain ⟨v',d5⟩:∃ v',v'=v61:=⟨_,rfl⟩
  subst d5
  have hpW:p<w3.heap.size:=a8.out.lt
  have zx:=aR.size
  have aS:Blk wy p 62 (Yz q v'):=aS
  have bJ:(L.eraseIdx k).length=n-1:=by rw [List.length_eraseIdx,if_pos (by rw [a6.out];exact bw),a6.out]
  have bm:Sl wy 35 9 v' (L.eraseIdx k).length (ords (L.eraseIdx k)):=by
   rw [bJ,List.eraseIdx_eq_take_drop_succ]
   unfold ords at an ⊢
   rw [List.flatMap_append]
   rw [show k+(n-(k+1))=n-1 by omega] at an
   exact an.keep bG (fun b H e=>by have:=bl b H;omega)
  have KY:Keep (·=p) w3 wy:=Keep.any aR bG
  have cN:=bl
  clear an bl cq bP ae bG cj bq c9 co aR
  have aZ:¬ Fb p:=a1.out.nb
  have aq:=Kj (QJ bQ.out KY (by have:=a1.out.blk.lt;omega))
  have zy:=KY.size
  have bR:Keep Fr ws wy:=(Keep.any au KY).mono (fun b _ e=>aC.out b (.inl (.inl e)))
  have bO:=Kj aS
  have ct:=Kj bm
  have ao:Hid (∀ b,v'.ownBlock=some b→w3.heap.size≤b∧b<wy.heap.size):=fun b H=>⟨cN b H,bm.lt H⟩
  have bi:=Kj (af.out.keep KY (fun b H e=>aZ (by rw [← e];exact H)))
  clear bQ a8 aa bx af aS bm cN dg KY bJ aM
  go_upto_region 12 with fail
  refine wAp 1 [e.v] [64] (nS 0 (ldO aq.out) nZ) ?_
  intro wb kb
  simp only [F8]
  refine nT zO ?_
  intro wd a2 av
  refine sO e (a2) ?_
  intro w4 aA aO cK
  simp only [Act.put,sA,sS,sZ]
  refine Kx ?_
  obtain ⟨b7,h7⟩:∃ a,wb.heap.size=a:=⟨_,rfl⟩
  rw [h7] at a2 aA aO ⊢
  have zb:=kb.size
  have aX:Kept wy w4:=(kb.trans av).trans' aO (by omega)
  have hb7:wy.heap.size≤b7:=by omega
  have bH:=Kj aA
  have bd:=Kj (JJ aq.out aX)
  clear a2 aA aO cK av kb h7 aq
  have aI:stc (e.l.set 8 0) []=e.free.cells:=rfl
  go_upto_region 13 with fail
  refine wAp 1 [pV b7 8] [65] nZ ?_
  intro wb kb
  simp only [F8]
  refine xy b7 8 35 e.l [] 0 _ (.const (.int .i64 0)) rfl rfl (by kernel_rfl) rfl (bH.out.kept kb) (by simp [Ord.l]) ?_
  intro J b9 ar cD
  simp only [Act.put]
  refine Kx ?_
  have bc:Hid (Blk J b7 35 e.free.cells):=by show Blk _ _ _ _;rw [← aI];exact b9
  have bZ:=Kj (JX bc.out)
  clear aI
  have z4:=aX.size
  have zb5:=kb.size
  have aD:Kept wy J:=(aX.trans kb).trans' ar (by omega)
  have b4:=Kj (QJ (JJ bd.out kb) ar (fun e=>by omega))
  have a8:=Kj (bO.out.kept aD)
  have bM:Hid (J.cell? ⟨p,0,none⟩=some (.pointer (some ⟨q,0,none⟩))):=a8.out.cell 0
  have af:=Kj (bi.out.kept aD)
  have aa:=Kj (ct.out.kept aD)
  have cg:=af.out.lt
  have bf:=bi.out.lt
  have zy5:=aD.size
  have dm:¬ Fb b7:=fun h=>by have:=bf b7 h;omega
  have bb:Hid (∀ b,Fb b→b<ws.heap.size):=a1.out.bk.lt
  have de:¬ Fb b6:=fun h=>by have:=bb.out b6 h;omega
  have cd:Keep Fr ws J:=bR.kept aD
  clear b9 ar cD aX kb bH bd bO ct bi bf
  go_upto_region 14 with fail
  go_cut [66,67,68,69,70,71,8] (fun _ _ _ _ _ _ ra wx=>∃ ba F2 vf,ra=.pointer (some ⟨ba,0,none⟩)∧J.heap.size≤ba∧Blk wx ba 66 (x.cells vf)∧RBk wx F2 q B2∧¬ F2 ba∧Sl wx 95 21 vf x.f.length (fls x.f)∧(∀ b,vf.ownBlock=some b→J.heap.size≤b∧¬ F2 b∧b≠ba)∧Grow J Fb F2∧Keep Fb J wx)
  case first=>
   refine wp_tree (fun u=>Keep Fb J u) (.val 0 (.val 1 (.val 2 (.val 3 (.val 4 (.two 5 6 (.one 6 (.one 7 .done)) (.one 5 (.one 7 .done)))))))) rfl (by kernel_rfl) (Keep.drew (Keep.refl _ J)) ?_
   refine WQ (o:=⟨some 66,_,_,_,_,_⟩) (.pointer (some ⟨p,0,none⟩)) rfl rfl (fun u hu=>Jq (.tmp 0) (.pointer (some ⟨p,0,none⟩)) rfl (by kernel_rfl)) ?_
   simp only [Act.put,sA,sS,sZ]
   refine WQ (o:=⟨some 67,_,_,_,_,_⟩) (.pointer (some ⟨p,0,none⟩)) rfl rfl (fun u hu=>ZU (.tmp 66) ⟨p,0,none⟩ rfl (by kernel_rfl)) ?_
   simp only [Act.put,sA,sS,sZ]
   refine WQ (o:=⟨some 68,_,_,_,_,_⟩) (.pointer (some ⟨p,0,none⟩)) rfl rfl (fun u hu=>Jz 62 0 0 (.tmp 67) (p) (0) (0) rfl (by kernel_rfl) (by kernel_rfl) rfl) ?_
   simp only [Act.put,sA,sS,sZ]
   refine WQ (o:=⟨some 69,_,_,_,_,_⟩) (.pointer (some ⟨q,0,none⟩)) rfl rfl (fun u hu=>exec_ldp 56 _ Tryz.underlying56 (.tmp 68) ⟨p,0,none⟩ (.pointer (some ⟨q,0,none⟩)) rfl (by kernel_rfl) (Keep.cell hu bM.out aZ)) ?_
   simp only [Act.put,sA,sS,sZ]
   refine WQ (o:=⟨some 70,_,_,_,_,_⟩) (e.free.v) rfl rfl (fun u hu=>xW 35 _ (.tmp 7) (b7) (0) e.free.cells rfl (by kernel_rfl) (QJ bZ.out hu dm) Tryz.underlying35 (by rw [Ord.len9];exact JU)) ?_
   simp only [Act.put,sA,sS,sZ]
   refine ⟨?_,?_⟩
   ·skip
    refine t_call (o:=⟨some 71,_,_,_,_,_⟩) 31 #[.pointer (some ⟨q,0,none⟩),e.free.v] rfl rfl (Jy 31 _ [.tmp 69,.tmp 70] _ _ Tryz.func31 (by kernel_rfl) (by kernel_rfl) rfl (by kernel_rfl)) ?_
    refine (rbadd_any J.drew Fb q O.b e.free (af.out.kept (Keep.drew (Keep.refl _ J))) az.out.inv (by have:=aY.out;omega)).mono ?_
    rintro r wm ⟨F2,vf,rfl,a5,U,a3,ak,am⟩
    rw [HX.out] at a5 U ⊢
    have I:Keep Fb J wm:=Keep.undrew am
    refine ⟨_,rfl,I,?_⟩
    simp only [Act.put,sA,sS,sZ]
    refine t_new (o:=⟨some 8,_,_,_,_,_⟩) (.pointer (some ⟨wm.heap.size,0,none⟩)) (wm.alloc (.cells (XU.cells (.slice none 0 0)).toArray 66)) rfl rfl (QX 66 (XU.cells (.slice none 0 0)) rfl zC) ?_ ?_
    ·exact (I).alloc _
    have ac:=Blk.new wm 66 (XU.cells (.slice none 0 0))
    have ay:Kept wm (wm.alloc (.cells (XU.cells (.slice none 0 0)).toArray 66)):=(Keep.refl _ wm).alloc _
    have cG:wm.heap.size<(wm.alloc (.cells (XU.cells (.slice none 0 0)).toArray 66)).heap.size:=ac.lt
    generalize wm.alloc (.cells (XU.cells (.slice none 0 0)).toArray 66)=wmb at ac ay cG ⊢
    simp only [Act.put,sA,sS,sZ]
    refine t_setS (o:=⟨none,_,_,_,_,_⟩) 66 wm.heap.size 66 (XU.cells (.slice none 0 0)) (x.cells vf) (.tmp 8) (.tmp 71) rfl rfl rfl (by kernel_rfl) (by kernel_rfl) (ac) (by rw [Oc.len15];exact szC) (by rw [Oc.len15,Oc.len15]) (Oc.one _ _ (Xy U)) ?_
    intro wn aH a4
    refine ⟨I.new (Keep.any ay a4) I.size,?_⟩
    simp only [Act.put]
    refine t_done ?_
    refine Kx ?_
    go_wp2
    go_meet
    have zz:=I.size
    have ck:=a5.lt
    have K6:Keep (·=wm.heap.size) wm wn:=Keep.any ay a4
    case rel=>exact ⟨wm.heap.size,F2,vf,rfl,zz,aH,a5.keep K6 (fun b H e=>by have:=ck b H;omega),fun h=>by have:=ck _ h;omega,U.keep K6 (fun b H e=>by have:=U.lt H;omega),fun b H=>⟨(a3 b H).1,(a3 b H).2,fun e=>by have:=U.lt H;omega⟩,ak,I.new K6 zz⟩
   skip
   have bp:Keep Fb J J.drew:=Keep.drew (Keep.refl _ J)
   refine t_new (o:=⟨some 8,_,_,_,_,_⟩) (.pointer (some ⟨J.drew.heap.size,0,none⟩)) (J.drew.alloc (.cells (XU.cells (.slice none 0 0)).toArray 66)) rfl rfl (QX 66 (XU.cells (.slice none 0 0)) rfl zC) ?_ ?_
   ·exact (bp).alloc _
   have ag:=Blk.new J.drew 66 (XU.cells (.slice none 0 0))
   have aK:Kept J.drew (J.drew.alloc (.cells (XU.cells (.slice none 0 0)).toArray 66)):=(Keep.refl _ J.drew).alloc _
   have cv:J.drew.heap.size<(J.drew.alloc (.cells (XU.cells (.slice none 0 0)).toArray 66)).heap.size:=ag.lt
   generalize J.drew.alloc (.cells (XU.cells (.slice none 0 0)).toArray 66)=d9 at ag aK cv ⊢
   simp only [Act.put,sA,sS,sZ]
   refine t_call (o:=⟨some 71,_,_,_,_,_⟩) 31 #[.pointer (some ⟨q,0,none⟩),e.free.v] rfl rfl (Jy 31 _ [.tmp 69,.tmp 70] _ _ Tryz.func31 (by kernel_rfl) (by kernel_rfl) rfl (by kernel_rfl)) ?_
   refine (rbadd_any d9 Fb q O.b e.free (af.out.kept (Kept.trans (Keep.drew (Keep.refl _ J)) aK)) az.out.inv (by have:=aY.out;omega)).mono ?_
   rintro r wm ⟨F2,vf,rfl,a5,U,a3,ak,am⟩
   rw [HX.out] at a5 U ⊢
   have I:Keep Fb J wm:=Keep.any (Kept.trans (Keep.drew (Keep.refl _ J)) aK) am
   have hd:J.drew.heap.size=J.heap.size:=rfl
   have cb:¬ Fb J.drew.heap.size:=fun h=>by have:=cg _ h;omega
   have cY:=ag.keep am cb
   have zz:=I.size
   refine ⟨_,rfl,I,?_⟩
   simp only [Act.put,sA,sS,sZ]
   refine t_setS (o:=⟨none,_,_,_,_,_⟩) 66 J.drew.heap.size 66 (XU.cells (.slice none 0 0)) (x.cells vf) (.tmp 8) (.tmp 71) rfl rfl rfl (by kernel_rfl) (by kernel_rfl) (cY) (by rw [Oc.len15];exact szC) (by rw [Oc.len15,Oc.len15]) (Oc.one _ _ (Xy U)) ?_
   intro wn aH a4
   refine ⟨I.new a4 (by omega),?_⟩
   simp only [Act.put]
   refine t_done ?_
   refine Kx ?_
   go_wp2
   go_meet
   have bL:¬ F2 J.drew.heap.size:=fun h=>(ak _ h).elim cb (fun h=>by omega)
   case rel=>exact ⟨J.drew.heap.size,F2,vf,rfl,by omega,aH,a5.keep a4 (fun b H e=>bL (by rw [← e];exact H)),bL,U.keep a4 (fun b H e=>by have:=(a3 b H).1;omega),fun b H=>⟨by have:=(a3 b H).1;omega,(a3 b H).2,fun e=>by have:=(a3 b H).1;omega⟩,fun b H=>(ak b H).imp id (fun h=>by omega),I.new a4 (by omega)⟩
  obtain ⟨b8,F2,vf,rfl,hb8,hC,hK,cU,hS,hO,hG,hk⟩:=hcut
  have zx:=hk.size
  have bW:=Kj hG
  have bY:=cU
  clear cU
  have cc:Keep Fr ws wc:=cd.trans hk (fun b _ H=>aC.out b (.inr H))
  have bT:=Kj hC
  have cI:=Kj hK
  have ch:=Kj hS
  have ab:=Kj hO
  have cO:=Kj (a8.out.keep hk aZ)
  have bN:∀ b,v'.ownBlock=some b→¬ Fb b:=fun b H h=>by have:=(ao.out b H).1;have:=bb.out b h;omega
  have ce:=Kj (aa.out.keep hk bN)
  have be:=Kj (QJ b4.out hk de)
  have l8:=hC.lt
  clear hC hK hS hO hG hk a8 bM af aa b4 bZ bc cd
  go_upto_region 15 with fail
  refine wAp 2 [e.v,pV b8 0] [72,73] (nS 0 (ldO be.out) nZ) ?_
  intro wd kd
  simp only [F8]
  refine l_setO b8 66 e (x.cells vf) _ _ rfl rfl (by kernel_rfl) (by kernel_rfl) (bT.out.kept kd) (by rw [Oc.len15];omega) ?_
  intro we bF cy
  simp only [Act.put]
  refine Kx ?_
  rw [di.out] at bF
  have aQ:Blk we b8 66 ((Ot.mk y false).cells vf):=bF
  have bX:=Kj (JX aQ)
  have ah:Keep (·=b8) wc we:=Keep.any kd cy
  have ze:=ah.size
  have cl:=Kj (cO.out.keep ah (fun e=>by have:=a1.out.blk.lt;omega))
  have cr:=Kj (ce.out.keep ah (fun b H e=>by have:=(ao.out b H).2;omega))
  have bI:=Kj (cI.out.keep ah (fun b H e=>bY (by rw [← e];exact H)))
  have cJ:Hid (Sl we 95 21 vf y.f.length (fls y.f)):=by show Sl _ _ _ _ _ _;rw [df.out];exact ch.out.keep ah (fun b H e=>(ab.out b H).2.2 e)
  have b1:Keep Fr ws we:=cc.new ah (by omega)
  have l8e:=aQ.lt
  clear bF aQ cy kd ah bT cO ce cI ch be cc
  have dd:Hid (Outs we w.heap.size Fr v3 D Zr):=ai.out.keep b1 (fun b da bA cZ e=>bA e)
  have hwws:w.heap.size≤ws.heap.size:=aJ.out.size
  go_upto_region 16 with fail
  refine wAp 2 [v3,(Ot.mk y false).v vf] [74,75] (nS 1 (ldS Tryz.underlying66 (fun u hk=>JJ bX.out hk) (by rw [Ot.len15];exact szC)) nZ) ?_
  intro a7 bC
  simp only [F8]
  refine Vj (.slice (some ⟨a7.heap.size,0,none⟩) 1 1) (a7.alloc (.cells ((Ot.mk y false).cells vf).toArray 66)) rfl (VJ slC (.tmp 75) ((Ot.mk y false).cells vf) (by omega) rfl (by kernel_rfl) (Ot.len15 _ _)) ?_
  have aw:=jY a7 66 15 ((Ot.mk y false).cells vf) a7.heap.size (Ot.len15 _ _) (by omega) (Nat.le_refl _)
  have kN:Kept a7 (a7.alloc (.cells ((Ot.mk y false).cells vf).toArray 66)):=(Keep.refl _ a7).alloc _
  generalize a7.alloc (.cells ((Ot.mk y false).cells vf).toArray 66)=w6 at aw kN ⊢
  have z5b:=bC.size
  have zN:=kN.size
  have ad:=bC.trans kN
  have aB:∀ b,v'.ownBlock=some b→ws.heap.size≤b:=fun b H=>by have:=(ao.out b H).1;omega
  have al:∀ b,F2 b→Fb b∨J.heap.size≤b:=fun b H=>bW.out b H
  have bv:∀ b,foot p v' F2 b→Fr b∨ws.heap.size≤b:=fun b H=>H.elim (fun H=>H.elim (fun H=>.inl (aC.out b (.inl (.inl H)))) (fun H=>.inr (aB b H))) (fun H=>(al b H).imp (fun h=>aC.out b (.inr h)) (fun h=>by omega))
  have bD:RkP w6 p q v' F2 ⟨B2,L.eraseIdx k⟩:=⟨cl.out.kept ad,bI.out.kept ad,cr.out.kept ad,fun e=>(al p e).elim aZ (fun e=>by have:=a1.out.blk.lt;omega),fun b H=>⟨fun e=>by have:=aB b H;have:=a1.out.blk.lt;omega,fun e=>(al b e).elim (bN b H) (fun e=>by have:=(ao.out b H).2;omega)⟩⟩
  have aF:Outs w6 w.heap.size (foot p v' F2) v3 D Zr:=(((ai.out.beside (G':=fun b=>Fr b∨foot p v' F2 b) (n:=ws.heap.size) (fun b H=>H.elim .inl (bv b)) (Nat.le_refl _)).keep b1 (fun b da bA cZ e=>bA (.inl e))).less (fun b H=>.inr H)).kept ad
  have cm:∀ b,vf.ownBlock=some b→w.heap.size≤b∧¬ foot p v' F2 b∧v3.ownBlock≠some b:=fun b H=>⟨by have:=(ab.out b H).1;omega,fun e=>e.elim (fun e=>e.elim (fun e=>by have:=(ab.out b H).1;have:=a1.out.blk.lt;omega) (fun e=>by have:=(ab.out b H).1;have:=(ao.out b e).2;omega)) (ab.out b H).2.1,fun e=>by have:=(ab.out b H).1;have:=ai.out.sl.lt e;omega⟩
  obtain ⟨v7,w7,cB,aU,b3,d0⟩:=aF.snoc (Ot.mk y false) vf (.slice (some ⟨a7.heap.size,0,none⟩) 1 1) 32 (cJ.out.kept ad) cm aw.1 (by omega) (by omega) bD.foot_lt
  refine Vj v7 w7 rfl (QV slC (.tmp 74) (.tmp 76) v3 _ rfl (by kernel_rfl) (by kernel_rfl) v7 w7 cB) ?_
  refine aT (v7) ?_
  simp only [Act.put,sA,sS,sZ]
  refine Kx ?_
  have z7:=b3.size
  have b5:∀ b,v3.ownBlock=some b→¬ foot p v' F2 b:=fun b H=>(aF.own b H).2
  have cx:=bD.keep b3 (fun b H e=>b5 b e H)
  have c4:Grow w F (foot p v' F2):=fun b H=>(bv b H).elim (ax.out b) (fun h=>.inr (by omega))
  have cF:Keep F w w7:=((aJ.out.trans b1 (fun b H e=>(ax.out b e).elim id (fun e=>by omega))).kept ad).trans b3 (fun b H e=>by have:=(ai.out.own b e).1;omega)
  have bh:sliceN v7=D.length+1:=by rw [sliceN_sl aU.sl,aU.len,List.length_append];rfl
  have bn:sliceN v3=D.length:=by rw [sliceN_sl aF.sl,aF.len]
  have dp:=Kj cx.close
  have d8:=Kj aU
  have cX:=Kj c4
  have dc:=Kj cF
  clear b3 b5 cx c4 cF aU d0 cB aF bD bv al aB aw kN ad bC cm dd bX cl cr bI cJ ab ao bW b1 bR a1 aC aW ai ax aJ aY HV HS
  go_wp2
  exact ⟨⟨_,_,_,D++[⟨y,false⟩],dp,cP,cz,d8,aN,cX,dc,by simp only [List.length_append,List.length_cons,List.length_nil];rw [dj.out];have:=bS.out;omega⟩,by rw [bh,bn];have:=bS.out;omega⟩
theorem kstop_any (q:Kq) (w:World):Gives 8 #[q.v] w (.eq q.so.v):=by
 refine QW ?_
 obtain ⟨x,hx⟩:∃ x,wi q.x 0 32=x:=⟨_,rfl⟩
 have ar:=wi_in q.x 0 32 (by omega)
 rw [hx] at ar
 have HX:=Kj hx
 obtain ⟨o,ho⟩:∃ o,q.o=o:=⟨_,rfl⟩
 have aq:o.stop=0:=by rw [← ho];exact q.right.2.1
 have HO:Hid (q.so={ o with stop:=if x<11 then 95+x else 0 }):=by show _=_;rw [← ho,← hx];rfl
 have HG:Hid (∀ u,Gives 24 #[q.v] u (.eq o.v)):=fun u=>by rw [← ho];exact korder_any q u
 clear hx ho
 go_enter Tryz.func8,Tryz.ntmps8
 go_upto_region 0 with fail
 refine tAp 2 [.k (.fresh w.heap.size 28 (q.cells)),.k (.fresh w.heap.size 35 JV.cells)] (nS 0 (nV rfl (fun a u E D hk=>⟨_,_,XV 28 _ (q.cells) rfl (eE E),⟨_,rfl,hk.size,Blk.new u _ _⟩,((Keep.refl _ u).alloc _)⟩)) (nS 1 (nV rfl (fun a u E D hk=>⟨_,_,QX 35 JV.cells rfl zO,⟨_,rfl,hk.size,Blk.new u _ _⟩,((Keep.refl _ u).alloc _)⟩)) nZ)) ?_
 intro gv w0 hV k0
 rw [dq 2 [1,2]]
 simp only [Fz7]
 have ak:(.fresh w.heap.size 28 (q.cells):Kn).p (gv 1) w0:=hV 0 1 (by kernel_rfl)
 generalize gv 1=v1 at ak ⊢
 have ai:(.fresh w.heap.size 35 JV.cells:Kn).p (gv 2) w0:=hV 1 2 (by kernel_rfl)
 generalize gv 2=v2 at ai ⊢
 clear hV
 obtain ⟨g1,rfl,hg1,aa⟩:=ak
 obtain ⟨g2,rfl,hg2,a9⟩:=ai
 refine Kx ?_
 have ab:=Kj (JX aa)
 have a7:=Kj a9
 have l1:=aa.lt
 have l2:=a9.lt
 have z0:=k0.size
 clear aa a9
 go_upto_region 1 with fail
 refine wAp 2 [q.v,o.v] [5,6] (nS 0 (ldS Tryz.underlying28 (fun u hk=>JJ ab.out hk) (by rw [q.len7];exact szK)) (nS 1 (cV Tryz.func24 (fun u hk=>HG.out u)) nZ)) ?_
 intro w1 k1
 simp only [F8]
 refine nT zO ?_
 intro w2 O am
 refine sO o (O) ?_
 intro w3 H a1 af
 simp only [Act.put,sA,sS,sZ]
 refine Kx ?_
 obtain ⟨g3,h3⟩:∃ a,w1.heap.size=a:=⟨_,rfl⟩
 rw [h3] at O H a1 ⊢
 have z1:=k1.size
 have U:Kept w0 w3:=(k1.trans am).trans' a1 (by omega)
 have al:=k0.trans U
 have z3:=U.size
 have l3:=H.lt
 have ad:=Kj (JJ ab.out U)
 have a8:=Kj (a7.out.kept U)
 have a6:=Kj H
 clear O H a1 af am k1 ab a7 U
 go_upto_region 2 with fail
 refine wA 4 [pV g1 6,iV q.x,iV x,iV x] [7,8,9,4] (nS 1 (ldR ad.out 6) (nS 2 (cV Tryz.func25 (fun u hk=>(by rw [← HX.out];exact xZ q.x 0 32 u (by omega) (by omega) (by omega)))) nZ)) ?_
 intro w4 k4
 simp only [F8]
 have j:=Kj (a8.out.kept k4)
 have I:=Kj (a6.out.kept k4)
 have a4:=al.trans k4
 have z4:=k4.size
 clear ad a8 a6 k4 al
 by_cases hc:x<11
 ·have HF:Hid (q.so={ o with stop:=95+x }):=by show _=_;rw [HO.out,if_pos hc]
  go_upto_region 3 with fail
  refine wA 2 [iV x,bV true] [10,11] (nS 1 (aV rfl (fun a u E D hk=>YU rfl (dD D 0) rfl) (Ky hc)) nZ) ?_
  intro w5 k5
  simp only [F8]
  have J:=Kj (j.out.kept k5)
  have a5:=Kj (I.out.kept k5)
  have a3:=a4.trans k5
  have z5:=k5.size
  clear j I k5 a4 hc
  go_upto_region 4 with fail
  refine wAp 3 [iV x,iV ((95:Int)+(x:Int)),pV g3 8] [12,13,14] (nS 1 (sV rfl (fun a u E D hk=>YQ (p:=(95)) (q:=(x)) ((95:Int)+(x:Int)) rfl rfl (dD D 0) rfl (by omega) (by omega))) nZ) ?_
  intro w6 k6
  simp only [F8]
  refine xy g3 8 35 o.l [] (95+x) _ _ rfl rfl (by kernel_rfl) (by kernel_rfl) (a5.out.kept k6) (by simp [Ord.l]) ?_
  intro w7 ae ac an
  simp only [Act.put]
  refine Kx ?_
  have aj:Hid (Blk w7 g3 35 ({ o with stop:=95+x }:Ord).cells):=ae
  have ag:=Kj ((J.out.kept k6).keep ac (fun e=>by omega))
  have av:Kept w w7:=(a3.trans k6).trans' ac (by omega)
  have ao:=Kj (JX aj.out)
  have z6:=k6.size
  clear J a5 ae ac an k6 a3
  go_upto_region 5 with fail
  refine wAp 1 [({ o with stop:=95+x }:Ord).v] [15] (nS 0 (ldO ao.out) nZ) ?_
  intro w8 k8
  simp only [F8]
  refine sO ({ o with stop:=95+x }:Ord) (ag.out.kept k8) ?_
  intro w9 N a2 ah
  simp only [Act.put]
  refine Kx ?_
  go_wp2
  refine bodyPost_ret (QU (p:=2) rfl _ _ g2 _ ({ o with stop:=95+x }:Ord).cells rfl N Tryz.underlying35 (by rw [Ord.len9];exact JU)) rfl ?_
  rw [HF.out]
  exact ⟨rfl,(av.trans k8).trans' a2 (by omega)⟩
 have HF:Hid (q.so=o):=by show _=_;rw [HO.out,if_neg hc,← aq]
 go_upto_region 3 with fail
 refine wA 2 [iV x,bV false] [10,11] (nS 1 (aV rfl (fun a u E D hk=>YU rfl (dD D 0) rfl) (Ku hc)) nZ) ?_
 intro w5 k5
 simp only [F8]
 have J:=Kj (j.out.kept k5)
 have au:=Kj (JX (I.out.kept k5))
 have a3:=a4.trans k5
 have z5:=k5.size
 clear j I k5 a4 hc
 go_upto_region 5 with fail
 refine wAp 1 [o.v] [15] (nS 0 (ldO au.out) nZ) ?_
 intro w8 k8
 simp only [F8]
 refine sO o (J.out.kept k8) ?_
 intro w9 N a2 ah
 simp only [Act.put]
 refine Kx ?_
 go_wp2
 refine bodyPost_ret (QU (p:=2) rfl _ _ g2 _ o.cells rfl N Tryz.underlying35 (by rw [Ord.len9];exact JU)) rfl ?_
 rw [HF.out]
 exact ⟨rfl,(a3.trans k8).trans' a2 (by omega)⟩
section
variable {a:Act} {o:Oper} {u:World}
theorem exec_eqP (x:Operand) (t t':TypeId) (j:Addr) (I:Tryz.prog.underlying t=some (.pointer (Tryz.prog.pointee t))) (D:o.op=.binOp .eql t x (.const (.pointer none)) t') (hx:a.eval x=.pointer (some j)):(execOp a.eval o).run Tryz.prog u=.ok (.value (.bool false)) u:=by
 have H:a.eval (.const (.pointer none))=.pointer none:=rfl
 unfold execOp
 simp only [D,hx,H,Sem.run_bind]
 rw [show (eqGuard .eql t x (.const (.pointer none)) (.pointer (some j)) (.pointer none)).run Tryz.prog u=.ok () u by simp [eqGuard]]
 simp only [Result.andThen_ok]
 rw [show (binOp .eql t (.pointer (some j)) (.pointer none)).run Tryz.prog u=.ok (.bool false) u by simpa using run_eql_pointer_nil (P:=Tryz.prog) (w:=u) t (some j) I]
 rfl
end
theorem cas_len:∀ (n:Nat) (M:Mkt),M.w.length≤n→M.cas.1.length≤M.w.length
 | 0,M,hn=>by
  rw [WZ (List.getElem?_eq_none (by omega))]
  simp
 | n+1,M,hn=>by
  cases e:M.w[M.trig]? with
  | none=>rw [WZ e];simp
  | some o=>
   rw [cas_some e]
   have j:=(List.getElem?_eq_some_iff.1 e).1
   have h2:(M.next o).w.length=M.w.length-1:=by unfold Mkt.next;simp only;rw [List.length_eraseIdx,if_pos j]
   have:=cas_len n (M.next o) (by omega)
   simp only [List.length_cons]
   omega
theorem quiet_cas {M:Mkt} (h:Quiet M):M.cas=([],M):=by
 refine WZ (List.getElem?_eq_none (Nat.le_of_eq (Eq.symm ?_)))
 exact find_no (p:=fun o=>o.hit M.b.last) fun j x hj hx=>h x (List.mem_of_getElem? hx)
theorem quiet_add {M:Mkt} (h:Quiet M) (o:Ord):M.add o=((M.arrive o).1::(M.arrive o).2.cas.1,(M.arrive o).2.cas.2):=by
 unfold Mkt.add
 by_cases he:(M.arrive o).1.c.err≠0
 ·rw [if_pos he]
  have j:=arrive_err he
  rw [j,quiet_cas h]
 rw [if_neg he]
theorem find_snd (M:Mkt) (t i:Int):(M.find t i).2=((M.b.find t i).2 || decide ((0:Int)≤Vq (Ord.is t i) M.w)):=by
 unfold Mkt.find
 by_cases hb:(M.b.find t i).2=true
 ·rw [if_pos hb,hb];rfl
 rw [if_neg hb]
 have j:(M.b.find t i).2=false:=by simpa using hb
 rw [j,Bool.false_or]
 unfold qq
 cases e:M.w[M.w.findIdx (Ord.is t i)]? with
 | none=>rw [xx e];rfl
 | some o=>rw [yX e,Ky (by omega)]
theorem merr_1 {M:Mkt} {o:Ord} (h:o.right=false):M.err o=1:=by unfold Mkt.err;rw [if_pos h]
theorem merr_5 {M:Mkt} {o:Ord} (h:o.right=true) (j:(M.find o.tr o.id).2=true):M.err o=5:=by unfold Mkt.err;rw [if_neg (by rw [h];simp),if_pos j]
theorem merr_4 {M:Mkt} {o:Ord} (h:o.right=true) (j:(M.find o.tr o.id).2=false) (D:o.may=true∧64≤M.len):M.err o=4:=by unfold Mkt.err;rw [if_neg (by rw [h];simp),if_neg (by rw [j];simp),if_pos D]
theorem merr_0 {M:Mkt} {o:Ord} (h:o.right=true) (j:(M.find o.tr o.id).2=false) (D:¬ (o.may=true∧64≤M.len)):M.err o=0:=by unfold Mkt.err;rw [if_neg (by rw [h];simp),if_neg (by rw [j];simp),if_neg D]
theorem arrive_er {M:Mkt} {o:Ord} {e:Int} (h:M.err o=e) (j:e≠0):M.arrive o=(⟨⟨o,[],o.qty,false,false,e⟩,false⟩,M):=by unfold Mkt.arrive;rw [if_pos (by rw [h];exact j),h]
theorem arrive_wt {M:Mkt} {o:Ord} (h:M.err o=0) (j:M.waits o=true):M.arrive o=(⟨⟨o,[],o.qty,false,false,0⟩,true⟩,⟨M.b,M.w++[o]⟩):=by unfold Mkt.arrive;rw [if_neg (fun x=>x h),if_pos j]
theorem arrive_en {M:Mkt} {o:Ord} (h:M.err o=0) (j:M.waits o=false):M.arrive o=(⟨(M.b.enter o).1,false⟩,⟨(M.b.enter o).2,M.w⟩):=by unfold Mkt.arrive;rw [if_neg (fun x=>x h),if_neg (by rw [j];simp)]
theorem built_otl (o:Ord) (n:Int):Tryz.prog.built 66 [(0,o.v),(2,.int .i64 n)]=some ((Oc.mk o [] n false false 0).cells (.slice none 0 0)).toArray:=by kernel_rfl
theorem Outs.app {w:World} {base H:Nat} {G:Nat→Prop} {v v2:Value} {L L2:List Ot} {Z J:List (Ot × Value)} (h:Outs w base G v L Z) (I:Outs w H G v2 L2 J) (ty:TypeId) (hb:base≤H) (hd:∀ b,v.ownBlock=some b→b<H) (hn:L.length+L2.length≤1000000) (hbw:base≤w.heap.size) (hG:∀ b,G b→b<w.heap.size) :
  ∃ v' w',(Builtin.append_ #[32,32] ty #[v,v2]).run Tryz.prog w=.ok v' w'∧Outs w' base G v' (L++L2) (Z++J)∧Keep (fun b=>v.ownBlock=some b) w w'∧∀ b,v'.ownBlock=some b→v.ownBlock=some b∨w.heap.size≤b:=by
 have hl:=h.len
 have hl2:=I.len
 have N:∀ u ∈ outc J,u.oneCell'=true:=fun u hu=>by
  obtain ⟨z,D,hu⟩:=List.mem_flatMap.1 hu
  exact Ot.one _ _ (Xy (I.fl z D)) u hu
 obtain ⟨v',w',hr,hs,hk,U⟩:=QQ slC ty w v v2 Z.length J.length (outc Z) (outc J) h.sl I.sl N (by unfold maxLen;omega) (by omega)
 have key:∀ b,b<w.heap.size→v.ownBlock≠some b→v'.ownBlock≠some b:=fun b h1 I h3=>(U b h3).elim I (fun h4=>by omega)
 have O:∀ z ∈ J,∀ b,z.2.ownBlock=some b→v.ownBlock≠some b:=fun z D b j e=>by have:=(I.flo z D b j).1;have:=hd b e;omega
 refine ⟨v',w',hr,⟨by rw [List.map_append,h.eq,I.eq],by rw [List.length_append,show outc (Z++J)=outc Z++outc J by simp [outc]];exact hs,fun b j=>?_,fun z D=>?_,fun z D b j=>?_⟩,hk,U⟩
 ·rcases U b j with e | e
  ·exact h.own b e
  exact ⟨by omega,fun e'=>by have:=hG b e';omega⟩
 ·rcases List.mem_append.1 D with D | D
  ·exact (h.fl z D).keep hk (fun b j e=>(h.flo z D b j).2.2 e)
  exact (I.fl z D).keep hk (fun b j e=>O z D b j e)
 rcases List.mem_append.1 D with D | D
 ·exact ⟨(h.flo z D b j).1,(h.flo z D b j).2.1,key b ((h.fl z D).lt j) (h.flo z D b j).2.2⟩
 exact ⟨Kv hb (I.flo z D b j).1,(I.flo z D b j).2.1,key b ((I.fl z D).lt j) (O z D b j)⟩
def RMAddIn (w:World) (F:Nat→Prop) (p:Nat) (x:List Ot × Mkt) (r:Ending) (w':World):Prop:=
 ∃ F' v' Z',r=.returned v'∧RMk w' F' p x.2∧Outs w' w.heap.size F' v' x.1 Z'∧Grow w F F'∧Keep F w w'
theorem rmadd_any (w:World) (F:Nat→Prop) (p:Nat) (J:Mkt) (o:Ord) (h:RMk w F p J) (hI:InvK J) (hq:Quiet J) (hno:J.b.no≤900000000000):Calls Tryz.prog 9 #[.pointer (some ⟨p,0,none⟩),o.v] w (RMAddIn w F p (J.add o)):=by
 rw [quiet_add hq]
 have aJ:J.w.length≤100000:=by have:=hI.few;omega
 have HM:=Kj h
 obtain ⟨cw,q,v,Fb,hP,dc⟩:=h
 have I:=Kj hP
 have HI:=Kj hI
 have a8:=Kj dc
 have hpl:=hP.blk.lt
 obtain ⟨x,M2,hx⟩:∃ x M2,J.arrive o=(x,M2):=⟨_,_,rfl⟩
 have HX:=Kj hx
 have bl:Hid (InvK M2):=by have:=hI.arrive o;rw [hx] at this;exact this
 have d3:Hid (M2.b.no≤900001048576):=by have:=(arrive_no hI o).2;rw [hx] at this;show _≤_;simp only at this;omega
 rw [hx]
 clear hP hI hx hq
 go_enter Tryz.func9,Tryz.ntmps9
 go_upto_region 0 with fail
 refine tAp 2 [.k (.fresh w.heap.size 35 (o.cells)),.v (.slice none 0 0)] (nS 0 (nV rfl (fun a u E D hk=>⟨_,_,XV 35 _ (o.cells) rfl (eE E),⟨_,rfl,hk.size,Blk.new u _ _⟩,((Keep.refl _ u).alloc _)⟩)) nZ) ?_
 intro gv w0 hV k0
 rw [dq 2 [3,4]]
 simp only [Fz7]
 have cN:(.fresh w.heap.size 35 (o.cells):Kn).p (gv 3) w0:=hV 0 3 (by kernel_rfl)
 generalize gv 3=v3 at cN ⊢
 rw [gQ hV 1 4 (.slice none 0 0)]
 clear hV
 obtain ⟨b3,rfl,hb3,bF⟩:=cN
 refine Kx ?_
 have b4:=Kj (JX bF)
 have l3:=bF.lt
 have z0:=k0.size
 clear bF
 go_upto_region 1 with fail
 refine tAp 5 [.v (o.v),pK b3 6,iK o.qty,.v ((Oc.mk o [] o.qty false false 0).v (.slice none 0 0)),.k (.fresh w0.heap.size 66 (XU.cells (.slice none 0 0)))] (nS 0 (ldO b4.out) (nS 2 (ldR b4.out 6) (nS 3 (sV rfl (fun a u E D hk=>XZ _ [(0,.tmp 10),(2,.tmp 12)] ((Oc.mk o [] o.qty false false 0).cells (.slice none 0 0)) rfl (by simp only [List.map_cons,List.map_nil];rw [show a.eval (.tmp 10)=o.v from (dD D 0),show a.eval (.tmp 12)=.int .i64 o.qty from (dD D 2)];exact built_otl o o.qty))) (nS 4 (nV rfl (fun a u E D hk=>⟨_,_,QX 66 (XU.cells (.slice none 0 0)) rfl zC,⟨_,rfl,hk.size,Blk.new u _ _⟩,((Keep.refl _ u).alloc _)⟩)) nZ)))) ?_
 intro gv wb hV kb
 rw [dq 5 [10,11,12,13,5]]
 simp only [Fz7]
 have c5:(.fresh w0.heap.size 66 (XU.cells (.slice none 0 0)):Kn).p (gv 5) wb:=hV 4 5 (by kernel_rfl)
 generalize gv 5=v5 at c5 ⊢
 rw [gQ hV 3 13 ((Oc.mk o [] o.qty false false 0).v (.slice none 0 0))]
 clear hV
 obtain ⟨U,rfl,hb5,c9⟩:=c5
 refine YV 66 U 66 (XU.cells (.slice none 0 0)) ((Oc.mk o [] o.qty false false 0).cells (.slice none 0 0)) _ _ rfl rfl (by kernel_rfl) (by kernel_rfl) c9 (by rw [Oc.len15];exact szC) (by rw [Oc.len15,Oc.len15]) (Oc.one _ _ rfl) ?_
 intro N bB an d7
 simp only [Act.put]
 refine Kx ?_
 have b0:Kept w0 N:=kb.trans' an (by omega)
 have k1:Kept w N:=k0.trans b0
 have bg:=Kj bB
 have aQ:=Kj (JJ b4.out b0)
 have l5:=bB.lt
 have z01:=b0.size
 have ax:¬ F U:=fun h=>by have:=cw U h;omega
 have dk:¬ F b3:=fun h=>by have:=cw b3 h;omega
 have az:w.heap.size≤U:=by omega
 have h53:b3<U:=by omega
 clear c9 bB an d7 kb b4 k0 b0
 obtain ⟨fo,fb,bN⟩:∃ fo fb,J.b.find o.tr o.id=(fo,fb):=⟨_,_,rfl⟩
 have bx:=Kj bN
 have cH:Hid (N.cell? ⟨p,0,none⟩=some (.pointer (some ⟨q,0,none⟩))):=(I.out.blk.kept k1).cell 0
 clear bN
 go_upto_region 2 with fail
 go_cut [15,16,17,18,19,20,21,22,23,14,24,25,6,7] (fun _ _ _ _ _ _ _ _ _ _ _ _ ra rb wx=>∃ ba,ra=.pointer (some ⟨ba,0,none⟩)∧rb=.bool fb∧N.heap.size≤ba∧Kept N wx)
 case first=>
  refine wp_tree (fun u=>Kept N u) (.val 0 (.val 1 (.val 2 (.val 3 (.val 4 (.val 5 (.val 6 (.val 7 (.two 8 12 (.val 9 (.val 10 (.val 11 (.one 12 (.one 13 (.val 14 .done)))))) (.one 8 (.val 9 (.val 10 (.val 11 (.one 13 (.val 14 .done))))))))))))))) rfl (by kernel_rfl) (Keep.drew (Keep.refl _ N)) ?_
  refine WQ (o:=⟨some 15,_,_,_,_,_⟩) (.pointer (some ⟨p,0,none⟩)) rfl rfl (fun u hu=>Jq (.tmp 0) (.pointer (some ⟨p,0,none⟩)) rfl (by kernel_rfl)) ?_
  simp only [Act.put,sA,sS,sZ]
  refine WQ (o:=⟨some 16,_,_,_,_,_⟩) (.pointer (some ⟨p,0,none⟩)) rfl rfl (fun u hu=>ZU (.tmp 15) ⟨p,0,none⟩ rfl (by kernel_rfl)) ?_
  simp only [Act.put,sA,sS,sZ]
  refine WQ (o:=⟨some 17,_,_,_,_,_⟩) (.pointer (some ⟨p,0,none⟩)) rfl rfl (fun u hu=>Jz 62 0 0 (.tmp 16) (p) (0) (0) rfl (by kernel_rfl) (by kernel_rfl) rfl) ?_
  simp only [Act.put,sA,sS,sZ]
  refine WQ (o:=⟨some 18,_,_,_,_,_⟩) (.pointer (some ⟨q,0,none⟩)) rfl rfl (fun u hu=>exec_ldp 56 _ Tryz.underlying56 (.tmp 17) ⟨p,0,none⟩ (.pointer (some ⟨q,0,none⟩)) rfl (by kernel_rfl) (Kept.cell hu cH.out)) ?_
  simp only [Act.put,sA,sS,sZ]
  refine WQ (o:=⟨some 19,_,_,_,_,_⟩) (.pointer (some ⟨b3,0,none⟩)) rfl rfl (fun u hu=>Jz 35 0 0 (.tmp 3) (b3) (0) (0) rfl (by kernel_rfl) (by kernel_rfl) rfl) ?_
  simp only [Act.put,sA,sS,sZ]
  refine WQ (o:=⟨some 20,_,_,_,_,_⟩) (.int .i64 (o.tr)) rfl rfl (fun u hu=>JZ 3 Tryz.underlying3 (.tmp 19) ⟨b3,0,none⟩ (.int .i64 (o.tr)) rfl (by kernel_rfl) (Xx (JJ aQ.out hu) 0 _ rfl)) ?_
  simp only [Act.put,sA,sS,sZ]
  refine WQ (o:=⟨some 21,_,_,_,_,_⟩) (.pointer (some ⟨b3,1,none⟩)) rfl rfl (fun u hu=>Jz 35 1 1 (.tmp 3) (b3) (0) (1) rfl (by kernel_rfl) (by kernel_rfl) rfl) ?_
  simp only [Act.put,sA,sS,sZ]
  refine WQ (o:=⟨some 22,_,_,_,_,_⟩) (.int .i64 (o.id)) rfl rfl (fun u hu=>JZ 3 Tryz.underlying3 (.tmp 21) ⟨b3,1,none⟩ (.int .i64 (o.id)) rfl (by kernel_rfl) (Xx (JJ aQ.out hu) 1 _ rfl)) ?_
  simp only [Act.put,sA,sS,sZ]
  refine ⟨?_,?_⟩
  ·skip
   refine t_call (o:=⟨some 23,_,_,_,_,_⟩) 26 #[.pointer (some ⟨q,0,none⟩),.int .i64 o.tr,.int .i64 o.id] rfl rfl (Jy 26 _ [.tmp 18,.tmp 20,.tmp 22] _ _ Tryz.func26 (by kernel_rfl) (by kernel_rfl) rfl (by kernel_rfl)) ?_
   have a6:=rbfind_any N.drew Fb q J.b o.tr o.id (I.out.bk.kept (k1.trans (Keep.drew (Keep.refl _ N)))) HI.out.inv
   rw [bx.out] at a6
   refine a6.mono ?_
   rintro r wq ⟨_,rfl,rfl,b2⟩
   have a7:Kept N wq:=Kept.trans (Keep.drew (Keep.refl _ N)) b2
   refine ⟨.tuple #[fo.v,.bool fb],rfl,a7,?_⟩
   simp only [Act.put,sA,sS,sZ]
   refine WQ (o:=⟨some 14,_,_,_,_,_⟩) (.tuple #[fo.v,.bool fb]) rfl rfl (fun u hu=>Jq (.tmp 23) (.tuple #[fo.v,.bool fb]) rfl (by kernel_rfl)) ?_
   simp only [Act.put,sA,sS,sZ]
   refine WQ (o:=⟨some 24,_,_,_,_,_⟩) (fo.v) rfl rfl (fun u hu=>UW (.tmp 14) [fo.v,.bool fb] 0 (fo.v) rfl (by kernel_rfl) rfl) ?_
   simp only [Act.put,sA,sS,sZ]
   refine WQ (o:=⟨some 25,_,_,_,_,_⟩) (.bool fb) rfl rfl (fun u hu=>UW (.tmp 14) [fo.v,.bool fb] 1 (.bool fb) rfl (by kernel_rfl) rfl) ?_
   simp only [Act.put,sA,sS,sZ]
   refine t_new (o:=⟨some 6,_,_,_,_,_⟩) (.pointer (some ⟨wq.heap.size,0,none⟩)) (wq.alloc (.cells JV.cells.toArray 35)) rfl rfl (QX 35 JV.cells rfl zO) ?_ ?_
   ·exact (a7).alloc _
   have a5:=Blk.new wq 35 JV.cells
   have ag:Kept wq (wq.alloc (.cells JV.cells.toArray 35)):=(Keep.refl _ wq).alloc _
   have bp:wq.heap.size<(wq.alloc (.cells JV.cells.toArray 35)).heap.size:=a5.lt
   generalize wq.alloc (.cells JV.cells.toArray 35)=wz at a5 ag bp ⊢
   simp only [Act.put,sA,sS,sZ]
   refine t_setS (o:=⟨none,_,_,_,_,_⟩) 35 wq.heap.size 35 JV.cells fo.cells (.tmp 6) (.tmp 24) rfl rfl rfl (by kernel_rfl) (by kernel_rfl) (a5) (by rw [Ord.len9];exact JU) (by rw [Ord.len9,Ord.len9]) (Ord.one1 _) ?_
   intro ws cm ab
   refine ⟨a7.trans (ag.trans' ab (by omega)),?_⟩
   simp only [Act.put]
   refine WQ (o:=⟨some 7,_,_,_,_,_⟩) (.bool fb) rfl rfl (fun u hu=>Yj (.tmp 25) (.bool fb) rfl (by kernel_rfl)) ?_
   simp only [Act.put,sA,sS,sZ]
   refine t_done ?_
   refine Kx ?_
   go_wp2
   go_meet
   case rel=>exact ⟨_,rfl,rfl,a7.size,a7.trans (ag.trans' ab (by omega))⟩
  skip
  have cD:Kept N N.drew:=Keep.drew (Keep.refl _ N)
  refine t_new (o:=⟨some 6,_,_,_,_,_⟩) (.pointer (some ⟨N.drew.heap.size,0,none⟩)) (N.drew.alloc (.cells JV.cells.toArray 35)) rfl rfl (QX 35 JV.cells rfl zO) ?_ ?_
  ·exact (cD).alloc _
  have a5:=Blk.new N.drew 35 JV.cells
  have ag:Kept N.drew (N.drew.alloc (.cells JV.cells.toArray 35)):=(Keep.refl _ N.drew).alloc _
  have bp:N.drew.heap.size<(N.drew.alloc (.cells JV.cells.toArray 35)).heap.size:=a5.lt
  generalize N.drew.alloc (.cells JV.cells.toArray 35)=wz at a5 ag bp ⊢
  simp only [Act.put,sA,sS,sZ]
  have cC:Kept N wz:=Kept.trans cD ag
  refine t_call (o:=⟨some 23,_,_,_,_,_⟩) 26 #[.pointer (some ⟨q,0,none⟩),.int .i64 o.tr,.int .i64 o.id] rfl rfl (Jy 26 _ [.tmp 18,.tmp 20,.tmp 22] _ _ Tryz.func26 (by kernel_rfl) (by kernel_rfl) rfl (by kernel_rfl)) ?_
  have a6:=rbfind_any wz Fb q J.b o.tr o.id (I.out.bk.kept (k1.trans cC)) HI.out.inv
  rw [bx.out] at a6
  refine a6.mono ?_
  rintro r wq ⟨_,rfl,rfl,b2⟩
  have a7:Kept N wq:=Kept.trans cC b2
  refine ⟨.tuple #[fo.v,.bool fb],rfl,a7,?_⟩
  simp only [Act.put,sA,sS,sZ]
  refine WQ (o:=⟨some 14,_,_,_,_,_⟩) (.tuple #[fo.v,.bool fb]) rfl rfl (fun u hu=>Jq (.tmp 23) (.tuple #[fo.v,.bool fb]) rfl (by kernel_rfl)) ?_
  simp only [Act.put,sA,sS,sZ]
  refine WQ (o:=⟨some 24,_,_,_,_,_⟩) (fo.v) rfl rfl (fun u hu=>UW (.tmp 14) [fo.v,.bool fb] 0 (fo.v) rfl (by kernel_rfl) rfl) ?_
  simp only [Act.put,sA,sS,sZ]
  refine WQ (o:=⟨some 25,_,_,_,_,_⟩) (.bool fb) rfl rfl (fun u hu=>UW (.tmp 14) [fo.v,.bool fb] 1 (.bool fb) rfl (by kernel_rfl) rfl) ?_
  simp only [Act.put,sA,sS,sZ]
  refine t_setS (o:=⟨none,_,_,_,_,_⟩) 35 N.drew.heap.size 35 JV.cells fo.cells (.tmp 6) (.tmp 24) rfl rfl rfl (by kernel_rfl) (by kernel_rfl) (a5.kept b2) (by rw [Ord.len9];exact JU) (by rw [Ord.len9,Ord.len9]) (Ord.one1 _) ?_
  intro ws cm ab
  refine ⟨a7.trans' ab (by have:N.drew.heap.size=N.heap.size:=rfl;omega),?_⟩
  simp only [Act.put]
  refine WQ (o:=⟨some 7,_,_,_,_,_⟩) (.bool fb) rfl rfl (fun u hu=>Yj (.tmp 25) (.bool fb) rfl (by kernel_rfl)) ?_
  simp only [Act.put,sA,sS,sZ]
  refine t_done ?_
  refine Kx ?_
  go_wp2
  go_meet
  case rel=>exact ⟨_,rfl,rfl,Nat.le_refl _,a7.trans' ab (by have:N.drew.heap.size=N.heap.size:=rfl;omega)⟩
 obtain ⟨w2,cZ⟩:∃ y,y=wc:=⟨_,rfl⟩
 subst cZ
 obtain ⟨b6,rfl,rfl,hb6,ah⟩:=hcut
 have k2:Kept w w2:=k1.trans ah
 have aI:=Kj (bg.out.kept ah)
 have aW:=Kj (JJ aQ.out ah)
 have z2:=ah.size
 clear cH aQ bg k1 ah
 obtain ⟨e0,br⟩:∃ e0,o.err=e0:=⟨_,rfl⟩
 have dw:=Kj br
 obtain ⟨rb,bn⟩:∃ rb,decide (e0≠(0:Int))=rb:=⟨_,rfl⟩
 have dl:=Kj bn
 have bW:Hid (o.right=!rb):=by
  show _=_
  rw [← bn,← br]
  unfold Ord.err
  cases o.right <;> rfl
 clear br bn
 go_upto_block 0 with fail
 go_cut [36,41,53,73] (fun _ _ _ _ wx=>∃ F' vf,Blk wx U 66 (x.cells vf)∧RMk wx F' p M2∧¬ F' U∧Sl wx 95 21 vf x.c.f.length (fls x.c.f)∧(∀ b,vf.ownBlock=some b→w.heap.size≤b∧¬ F' b∧b≠U)∧Grow w F F'∧Keep F w wx)
 case first=>
  go_upto_region 7 with fail
  refine wA 4 [o.v,iV e0,bV rb,bV rb] [37,38,39,36] (nS 0 (ldO aW.out) (nS 1 (cV Tryz.func27 (fun u hk=>(by have h:=JJx o u;rw [dw.out] at h;exact h))) (nS 2 (aV rfl (fun a u E D hk=>Xj rfl (dD D 1) rfl) dl.out) nZ))) ?_
  intro w3 ay
  simp only [F8]
  have k3:=k2.trans ay
  have av:=Kj (aI.out.kept ay)
  have aS:=Kj (JJ aW.out ay)
  have z3:=ay.size
  clear aI aW k2 ay
  cases rb with
  | true=>
   have a2:Hid (J.err o=1):=merr_1 bW.out
   have O:=arrive_er a2.out (by decide)
   rw [HX.out] at O
   injection O with hx1 hx2
   have a1:=Kj hx1
   have a9:=Kj hx2
   clear hx1 hx2
   go_upto_region 8 with fail
   refine wAp 1 [pV U 14] [40] nZ ?_
   intro we ke
   simp only [F8]
   refine ZJ 37 U 14 66 _ (.int .i64 1) _ (.const (.int .i64 1)) rfl rfl (by kernel_rfl) (by kernel_rfl) rfl rfl rfl (av.out.kept ke) (by rw [Oc.len15];omega) ?_
   intro wf hF a3 ac
   simp only [Act.put]
   refine Kx ?_
   rw [Oc.set_err] at hF
   have kk:Kept w wf:=(k3.trans ke).trans' a3 (by omega)
   have a4:=Kj hF
   clear hF a3 ac ke
   go_wp2
   go_meet
   case rel=>exact ⟨F,.slice none 0 0,by rw [a1.out];exact a4.out,by rw [a9.out];exact HM.out.kept kk,ax,by rw [a1.out];exact Sl.nil _ _ _,fun b H=>by simp [Value.ownBlock] at H,Grow.refl _ _,Keep.mono (T:=F) kk (fun _ _ h=>h.elim)⟩
  | false=>
   have hr:o.right=true:=bW.out
   have bC:=Kj hr
   obtain ⟨j,hj⟩:∃ j,Vq (Ord.is o.tr o.id) J.w=j:=⟨_,rfl⟩
   have HJ:=Kj hj
   obtain ⟨th,bv⟩:∃ th,(fb || decide ((0:Int)≤j))=th:=⟨_,rfl⟩
   have bO:=Kj bv
   have bu:Hid ((J.find o.tr o.id).2=th):=by show _=_;rw [find_snd,bx.out,hj];exact bv
   clear hj bv hr
   go_upto_region 9 with fail
   refine tA 11 [bK fb,bK fb,.k (.cond (!fb) (pE p 0)),.k (.cond (!fb) (pE b3 0)),.k (.cond (!fb) (iE o.tr)),.k (.cond (!fb) (pE b3 1)),.k (.cond (!fb) (iE o.id)),.k (.cond (!fb) (iE j)),.k (.cond (!fb) (bE (decide ((0:Int)≤(j:Int))))),bK th,bK th] [42,43,44,45,46,47,48,49,50,51,41] (nS 2 (fS (uC 3 1 rfl (fun a u E D hk H=>Jq _ _ rfl (eE E)) fz)) (nS 3 (fS (uC 4 1 rfl (fun a u E D hk H=>Jz 35 0 0 _ (b3) (0) (0) rfl (eE E) (by kernel_rfl) rfl) fz)) (nS 4 (fS (uC 5 1 rfl (fun a u E D hk H=>JZ _ Tryz.underlying3 _ _ _ rfl ((D 3 45 (by kernel_rfl)).1 H) (Xx (JJ aS.out hk) 0 _ rfl)) fz)) (nS 5 (fS (uC 6 1 rfl (fun a u E D hk H=>Jz 35 1 1 _ (b3) (0) (1) rfl (eE E) (by kernel_rfl) rfl) fz)) (nS 6 (fS (uC 7 1 rfl (fun a u E D hk H=>JZ _ Tryz.underlying3 _ _ _ rfl ((D 5 47 (by kernel_rfl)).1 H) (Xx (JJ aS.out hk) 1 _ rfl)) fz)) (nS 7 ((fun a u hE hD hk=>JJX _ rfl rfl rfl (dD hD 1) (fun H=>Zj 28 #[.pointer (some ⟨p,0,none⟩),.int .i64 o.tr,.int .i64 o.id] rfl (VY rfl rfl (dD hD 1) (jq H)) (Jy 28 _ [.tmp 44,.tmp 46,.tmp 48] _ [.pointer (some ⟨p,0,none⟩),.int .i64 o.tr,.int .i64 o.id] Tryz.func28 (by kernel_rfl) (by kernel_rfl) rfl (show [a.eval (.tmp 44),a.eval (.tmp 46),a.eval (.tmp 48)]=[.pointer (some ⟨p,0,none⟩),.int .i64 o.tr,.int .i64 o.id] from (by rw [show a.eval (.tmp 44)=.pointer (some ⟨p,0,none⟩) from ((hD 2 44 (by kernel_rfl)).1 H),show a.eval (.tmp 46)=.int .i64 o.tr from ((hD 4 46 (by kernel_rfl)).1 H),show a.eval (.tmp 48)=.int .i64 o.id from ((hD 6 48 (by kernel_rfl)).1 H)] <;> rfl)) u) ((by rw [← HJ.out];exact rwaits_any u p q v J.w o.tr o.id (I.out.blk.kept (k3.trans hk)) (I.out.sl.kept (k3.trans hk)) aJ))))) (nS 8 (fS (uC 9 1 rfl (fun a u E D hk H=>WJ rfl ((D 7 49 (by kernel_rfl)).1 H) rfl) fz)) (nS 9 (aV rfl (fun a u E D hk=>ZY _ _ _ (fb) ((decide ((0:Int)≤(j:Int)))) rfl (dD D 1) rfl (fun aa=>((D 8 50 (by kernel_rfl)).1 aa))) bO.out) nZ)))))))) ?_
   intro gv w4 hV ao
   simp only [Fz7]
   rw [gQ hV 10 41 (.bool th)]
   clear hV
   have k4:=k3.trans ao
   have aD:=Kj (av.out.kept ao)
   have aF:=Kj (JJ aS.out ao)
   have z4:=ao.size
   clear av aS k3 ao HJ bO
   cases th with
   | true=>
    have a2:Hid (J.err o=5):=merr_5 bC.out bu.out
    have O:=arrive_er a2.out (by decide)
    rw [HX.out] at O
    injection O with hx1 hx2
    have a1:=Kj hx1
    have a9:=Kj hx2
    clear hx1 hx2
    go_upto_region 10 with fail
    refine wAp 1 [pV U 14] [52] nZ ?_
    intro we ke
    simp only [F8]
    refine ZJ 37 U 14 66 _ (.int .i64 5) _ (.const (.int .i64 5)) rfl rfl (by kernel_rfl) (by kernel_rfl) rfl rfl rfl (aD.out.kept ke) (by rw [Oc.len15];omega) ?_
    intro wf hF a3 ac
    simp only [Act.put]
    refine Kx ?_
    rw [Oc.set_err] at hF
    have kk:Kept w wf:=(k4.trans ke).trans' a3 (by omega)
    have a4:=Kj hF
    clear hF a3 ac ke
    go_wp2
    go_meet
    case rel=>exact ⟨F,.slice none 0 0,by rw [a1.out];exact a4.out,by rw [a9.out];exact HM.out.kept kk,ax,by rw [a1.out];exact Sl.nil _ _ _,fun b H=>by simp [Value.ownBlock] at H,Grow.refl _ _,Keep.mono (T:=F) kk (fun _ _ h=>h.elim)⟩
   | false=>
    obtain ⟨fu,bD⟩:∃ fu,(((decide ((0:Int)<o.stop) || decide (o.k=(1:Int))) || decide (o.k=(5:Int))) && decide ((64:Int)≤(J.len:Int)))=fu:=⟨_,rfl⟩
    have cu:=Kj bD
    have bq:Hid ((o.may && decide ((64:Int)≤(J.len:Int)))=fu):=bD
    clear bD
    go_upto_region 11 with fail
    refine tA 19 [pK b3 8,iK o.stop,bK (decide ((0:Int)<(o.stop:Int))),bK (decide ((0:Int)<(o.stop:Int))),.k (.cond (!(decide ((0:Int)<(o.stop:Int)))) (pE b3 4)),.k (.cond (!(decide ((0:Int)<(o.stop:Int)))) (iE o.k)),.k (.cond (!(decide ((0:Int)<(o.stop:Int)))) (bE (decide ((o.k:Int)=(1:Int))))),bK ((decide ((0:Int)<(o.stop:Int))) || (decide ((o.k:Int)=(1:Int)))),bK ((decide ((0:Int)<(o.stop:Int))) || (decide ((o.k:Int)=(1:Int)))),.k (.cond (!((decide ((0:Int)<(o.stop:Int))) || (decide ((o.k:Int)=(1:Int))))) (pE b3 4)),.k (.cond (!((decide ((0:Int)<(o.stop:Int))) || (decide ((o.k:Int)=(1:Int))))) (iE o.k)),.k (.cond (!((decide ((0:Int)<(o.stop:Int))) || (decide ((o.k:Int)=(1:Int))))) (bE (decide ((o.k:Int)=(5:Int))))),bK (((decide ((0:Int)<(o.stop:Int))) || (decide ((o.k:Int)=(1:Int)))) || (decide ((o.k:Int)=(5:Int)))),bK (((decide ((0:Int)<(o.stop:Int))) || (decide ((o.k:Int)=(1:Int)))) || (decide ((o.k:Int)=(5:Int)))),.k (.cond (((decide ((0:Int)<(o.stop:Int))) || (decide ((o.k:Int)=(1:Int)))) || (decide ((o.k:Int)=(5:Int)))) (pE p 0)),.k (.cond (((decide ((0:Int)<(o.stop:Int))) || (decide ((o.k:Int)=(1:Int)))) || (decide ((o.k:Int)=(5:Int)))) (iE (J.len:Int))),.k (.cond (((decide ((0:Int)<(o.stop:Int))) || (decide ((o.k:Int)=(1:Int)))) || (decide ((o.k:Int)=(5:Int)))) (bE (decide ((64:Int)≤((J.len:Int):Int))))),bK fu,bK fu] [54,55,56,57,58,59,60,61,62,63,64,65,66,67,68,69,70,71,53] (nS 1 (ldR aF.out 8) (nS 2 (sV rfl (fun a u E D hk=>QZ rfl (dD D 1) rfl)) (nS 4 (fS (uC 5 3 rfl (fun a u E D hk H=>Jz 35 4 4 _ (b3) (0) (4) rfl (eE E) (by kernel_rfl) rfl) fz)) (nS 5 (fS (uC 6 3 rfl (fun a u E D hk H=>JZ _ Tryz.underlying3 _ _ _ rfl ((D 4 58 (by kernel_rfl)).1 H) (Xx (JJ aF.out hk) 4 _ rfl)) fz)) (nS 6 (fS (uC 7 3 rfl (fun a u E D hk H=>JY rfl ((D 5 59 (by kernel_rfl)).1 H) rfl) fz)) (nS 7 (sV rfl (fun a u E D hk=>ZY _ _ _ ((decide ((0:Int)<(o.stop:Int)))) ((decide ((o.k:Int)=(1:Int)))) rfl (dD D 3) rfl (fun aa=>((D 6 60 (by kernel_rfl)).1 aa)))) (nS 9 (fS (uC 10 8 rfl (fun a u E D hk H=>Jz 35 4 4 _ (b3) (0) (4) rfl (eE E) (by kernel_rfl) rfl) fz)) (nS 10 (fS (uC 11 8 rfl (fun a u E D hk H=>JZ _ Tryz.underlying3 _ _ _ rfl ((D 9 63 (by kernel_rfl)).1 H) (Xx (JJ aF.out hk) 4 _ rfl)) fz)) (nS 11 (fS (uC 12 8 rfl (fun a u E D hk H=>JY rfl ((D 10 64 (by kernel_rfl)).1 H) rfl) fz)) (nS 12 (sV rfl (fun a u E D hk=>ZY _ _ _ (((decide ((0:Int)<(o.stop:Int))) || (decide ((o.k:Int)=(1:Int))))) ((decide ((o.k:Int)=(5:Int)))) rfl (dD D 8) rfl (fun aa=>((D 11 65 (by kernel_rfl)).1 aa)))) (nS 14 (fS (iC 15 13 rfl (fun a u E D hk H=>Jq _ _ rfl (eE E)) fz)) (nS 15 ((fun a u hE hD hk=>f_if _ rfl rfl rfl (dD hD 13) (fun H=>Zj 29 #[.pointer (some ⟨p,0,none⟩)] rfl (VY rfl rfl (dD hD 13) (VU H)) (Jy 29 _ [.tmp 68] _ [.pointer (some ⟨p,0,none⟩)] Tryz.func29 (by kernel_rfl) (by kernel_rfl) rfl (show [a.eval (.tmp 68)]=[.pointer (some ⟨p,0,none⟩)] from (by rw [show a.eval (.tmp 68)=.pointer (some ⟨p,0,none⟩) from ((hD 14 68 (by kernel_rfl)).1 H)] <;> rfl)) u) (rmlen_any u F p J (HM.out.kept (k4.trans hk)) HI.out.inv aJ)))) (nS 16 (fS (iC 17 13 rfl (fun a u E D hk H=>WJ rfl ((D 15 69 (by kernel_rfl)).1 H) rfl) fz)) (nS 17 (aV rfl (fun a u E D hk=>Qj _ _ _ ((((decide ((0:Int)<(o.stop:Int))) || (decide ((o.k:Int)=(1:Int)))) || (decide ((o.k:Int)=(5:Int))))) ((decide ((64:Int)≤((J.len:Int):Int)))) rfl (dD D 13) (fun aa=>((D 16 70 (by kernel_rfl)).1 aa)) rfl) cu.out) nZ)))))))))))))) ?_
    intro gv w5 hV au
    simp only [Fz7]
    rw [gQ hV 18 53 (.bool fu)]
    clear hV
    have k5:=k4.trans au
    have al:=Kj (aD.out.kept au)
    have b9:=Kj (JJ aF.out au)
    have z5:=au.size
    clear aD aF k4 au cu
    cases fu with
    | true=>
     have a2:Hid (J.err o=4):=merr_4 bC.out bu.out (by have h:=bq.out;rw [Bool.and_eq_true] at h;exact ⟨h.1,by have:=of_decide_eq_true h.2;omega⟩)
     have O:=arrive_er a2.out (by decide)
     rw [HX.out] at O
     injection O with hx1 hx2
     have a1:=Kj hx1
     have a9:=Kj hx2
     clear hx1 hx2
     go_upto_region 12 with fail
     refine wAp 1 [pV U 14] [72] nZ ?_
     intro we ke
     simp only [F8]
     refine ZJ 37 U 14 66 _ (.int .i64 4) _ (.const (.int .i64 4)) rfl rfl (by kernel_rfl) (by kernel_rfl) rfl rfl rfl (al.out.kept ke) (by rw [Oc.len15];omega) ?_
     intro wf hF a3 ac
     simp only [Act.put]
     refine Kx ?_
     rw [Oc.set_err] at hF
     have kk:Kept w wf:=(k5.trans ke).trans' a3 (by omega)
     have a4:=Kj hF
     clear hF a3 ac ke
     go_wp2
     go_meet
     case rel=>exact ⟨F,.slice none 0 0,by rw [a1.out];exact a4.out,by rw [a9.out];exact HM.out.kept kk,ax,by rw [a1.out];exact Sl.nil _ _ _,fun b H=>by simp [Value.ownBlock] at H,Grow.refl _ _,Keep.mono (T:=F) kk (fun _ _ h=>h.elim)⟩
    | false=>
     have a2:Hid (J.err o=0):=merr_0 bC.out bu.out (fun h'=>by have h2:=bq.out;rw [h'.1,Ky (by have:=h'.2;omega)] at h2;cases h2)
     obtain ⟨ht,bL⟩:∃ b,o.hit J.b.last=b:=⟨_,rfl⟩
     have bU:=Kj bL
     obtain ⟨wt,bm⟩:∃ b,(decide ((0:Int)<o.stop) && !ht)=b:=⟨_,rfl⟩
     have cf:=Kj bm
     have HW:Hid (J.waits o=wt):=by show _=_;unfold Mkt.waits;rw [bL];exact bm
     have ce:Hid (w5.cell? ⟨p,0,none⟩=some (.pointer (some ⟨q,0,none⟩))):=(I.out.blk.kept k5).cell 0
     have ck:Hid (w5.cell? ⟨q,3,none⟩=some (.int .i64 J.b.last)):=(I.out.bk.kept k5).last
     clear bL bm bq
     go_upto_region 13 with fail
     refine tH 16 [pK b3 8,iK o.stop,bK (decide ((0:Int)<(o.stop:Int))),bK (decide ((0:Int)<(o.stop:Int))),.k (.cond (decide ((0:Int)<(o.stop:Int))) (.eq (o.v))),.k (.cond (decide ((0:Int)<(o.stop:Int))) (pE p 0)),.k (.cond (decide ((0:Int)<(o.stop:Int))) (pE p 0)),.k (.cond (decide ((0:Int)<(o.stop:Int))) (pE p 0)),.k (.cond (decide ((0:Int)<(o.stop:Int))) (pE q 0)),.k (.cond (decide ((0:Int)<(o.stop:Int))) (pE q 0)),.k (.cond (decide ((0:Int)<(o.stop:Int))) (pE q 3)),.k (.cond (decide ((0:Int)<(o.stop:Int))) (iE J.b.last)),.k (.cond (decide ((0:Int)<(o.stop:Int))) (bE ht)),.k (.cond (decide ((0:Int)<(o.stop:Int))) (bE (!ht))),bK wt,bK wt] [74,75,76,77,78,79,80,81,82,83,84,85,86,87,88,73] (nS 1 (ldR b9.out 8) (nS 2 (sV rfl (fun a u E D hk=>QZ rfl (dD D 1) rfl)) (nS 4 (fS (iC 5 3 rfl (fun a u E D hk H=>xW 35 _ _ (b3) (0) (o.cells) rfl (eE E) (JJ b9.out hk) Tryz.underlying35 (by rw [o.len9];exact JU)) fz)) (nS 5 (fS (iC 6 3 rfl (fun a u E D hk H=>Jq _ _ rfl (eE E)) fz)) (nS 6 (fS (iC 7 3 rfl (fun a u E D hk H=>ZU _ ⟨p,0,none⟩ rfl ((D 5 79 (by kernel_rfl)).1 H)) fz)) (nS 7 (fS (iC 8 3 rfl (fun a u E D hk H=>Jz 62 0 0 _ (p) (0) (0) rfl ((D 6 80 (by kernel_rfl)).1 H) (by kernel_rfl) rfl) fz)) (nS 8 (fS (iC 9 3 rfl (fun a u E D hk H=>exec_ldp _ _ Tryz.underlying56 _ _ _ rfl ((D 7 81 (by kernel_rfl)).1 H) (Kept.cell hk (ce.out))) fz)) (nS 9 (fS (iC 10 3 rfl (fun a u E D hk H=>ZU _ ⟨q,0,none⟩ rfl ((D 8 82 (by kernel_rfl)).1 H)) fz)) (nS 10 (fS (iC 11 3 rfl (fun a u E D hk H=>Jz 60 1 3 _ (q) (0) (3) rfl ((D 9 83 (by kernel_rfl)).1 H) (by kernel_rfl) rfl) fz)) (nS 11 (fS (iC 12 3 rfl (fun a u E D hk H=>JZ _ Tryz.underlying3 _ _ _ rfl ((D 10 84 (by kernel_rfl)).1 H) (Kept.cell hk (ck.out))) fz)) (nS 12 ((fun a u hE hD hk=>f_if _ rfl rfl rfl (dD hD 3) (fun H=>Zj 30 #[o.v,.int .i64 J.b.last] rfl (VY rfl rfl (dD hD 3) (VU H)) (Jy 30 _ [.tmp 78,.tmp 85] _ [o.v,.int .i64 J.b.last] Tryz.func30 (by kernel_rfl) (by kernel_rfl) rfl (show [a.eval (.tmp 78),a.eval (.tmp 85)]=[o.v,.int .i64 J.b.last] from (by rw [show a.eval (.tmp 78)=o.v from ((hD 4 78 (by kernel_rfl)).1 H),show a.eval (.tmp 85)=.int .i64 J.b.last from ((hD 11 85 (by kernel_rfl)).1 H)] <;> rfl)) u) ((by rw [← bU.out];exact rhit_any o _ u))))) (nS 13 (fS (iC 14 3 rfl (fun a u E D hk H=>YX _ _ ht rfl ((D 12 86 (by kernel_rfl)).1 H)) fz)) (nS 14 (aV rfl (fun a u E D hk=>Qj _ _ _ ((decide ((0:Int)<(o.stop:Int)))) ((!ht)) rfl (dD D 3) (fun aa=>((D 13 87 (by kernel_rfl)).1 aa)) rfl) cf.out) nZ))))))))))))) ?_
     intro gv w6 hV aA
     simp only [Fz7]
     rw [gQ hV 15 73 (.bool wt)]
     clear hV
     have k6:=k5.trans aA
     have aK:=Kj (al.out.kept aA)
     have aR:=Kj (JJ b9.out aA)
     have z6:=aA.size
     clear al b9 k5 aA ce ck cf bU
     cases wt with
     | true=>
      have O:=arrive_wt a2.out HW.out
      rw [HX.out] at O
      injection O with hx1 hx2
      have a1:=Kj hx1
      have a9:=Kj hx2
      obtain ⟨n,hn⟩:∃ n,J.w.length=n:=⟨_,rfl⟩
      have de:=Kj hn
      have cj:Hid (Sl w6 35 9 v n (ords J.w)):=by show Sl _ _ _ _ _ _;rw [← hn];exact I.out.sl.kept k6
      have am:=Kj (I.out.blk.kept k6)
      have ct:Hid (w6.cell? ⟨p,1,none⟩=some v):=am.out.cell 1
      rw [hn] at aJ
      clear hx1 hx2 hn
      go_upto_region 14 with fail
      refine JJZ 9 [.eq (.pointer (some ⟨p,0,none⟩)),.emp w6.heap.size 35,.eq (.pointer (some ⟨p,0,none⟩)),.eq (.pointer (some ⟨p,0,none⟩)),.eq (.pointer (some ⟨p,1,none⟩)),.eq (v),.sl w6.heap.size 35 9 n (ords J.w),.eq (o.v),.sl w6.heap.size 35 9 1 o.cells] (.pointer (some ⟨p,0,none⟩)) ((fun v' u u'=>Sl u' 35 9 v' (n+1) (ords J.w++o.cells)∧(∀ b,v'.ownBlock=some b→w6.heap.size≤b)∧Keep (fun b=>w6.heap.size≤b) u u')) (by kernel_rfl) rfl rfl (by kernel_rfl) (by kernel_rfl) (t_zero (d:=89) _ rfl rfl rfl (by kernel_rfl) (by kernel_rfl)) ?_ (fun a u hE hD hk=> (by obtain ⟨v',u',hr,dd,d5,dm⟩:=QQ slO _ u (a.eval (.tmp 95)) (a.eval (.tmp 97)) n 1 (ords J.w) o.cells ((hD 6 95 (by kernel_rfl))).1 ((hD 8 97 (by kernel_rfl))).1 (Ord.one1 _) (by unfold maxLen;omega) (by omega);have hq:=((hD 6 95 (by kernel_rfl))).2;exact t_last (o:=⟨some 98,_,_,_,_,_⟩) (R:=(fun v' u u'=>Sl u' 35 9 v' (n+1) (ords J.w++o.cells)∧(∀ b,v'.ownBlock=some b→w6.heap.size≤b)∧Keep (fun b=>w6.heap.size≤b) u u')) (m:=9) (v:=v') (w':=u') rfl (JQ rfl _) (QV slO (.tmp 95) (.tmp 97) _ _ rfl rfl rfl v' u' hr) ⟨dd,fun b H=>(dm b H).elim (hq b) (fun h=>Kv hk.size h),d5.mono (fun b _ H=>hq b H)⟩)) ?_
      ·refine nW 2 rfl (fun a u E D hk=>⟨_,_,Uq 43 35 9 rfl slO.und JU,⟨_,rfl,hk.size,Blk.new u _ _⟩,((Keep.refl _ u).alloc _)⟩) ?_
       refine mE 3 0 ?_
       refine nD 4 91 2 ?_
       refine fD 5 92 3 62 1 1 0 ?_
       refine sW 6 rfl (fun a u E D hk=>Qx _ _ Tryz.underlying43 _ _ _ rfl (dD D 4) (Kept.cell hk (ct.out))) ?_
       refine UU 7 rfl (fun a u hE hD hk=>(by obtain ⟨v',u',hr,hp,dx⟩:=Zx slO _ u (a.eval (.tmp 90)) v n w6.heap.size _ ((dD hD 1)) (cj.out.kept hk) (qx _) (by omega) (by omega) hk.size;exact jV v' u' rfl (JQ rfl _) (QV slO (.tmp 90) (.tmp 94) _ v rfl rfl (dD hD 5) v' u' hr) hp dx)) ?_
       refine sE 8 3 b3 0 o.cells Tryz.underlying35 (fun u hk=>JJ aR.out hk) (by rw [o.len9];exact JU) ?_
       refine nW 9 rfl (fun a u E D hk=>⟨_,_,VJ slO _ o.cells (by omega) rfl (dD D 7) (o.len9),(jY u 35 9 _ w6.heap.size (o.len9) (by omega) hk.size),((Keep.refl _ u).alloc _)⟩) ?_
       exact fz
      intro gv N wx hV h0 hR an
      rw [dq 10 [89,90,91,92,93,94,95,96,97,98]]
      simp only [Fz7]
      have hT:=hR 98 (by kernel_rfl)
      generalize gv 98=v98 at hT ⊢
      rw [show gv 89=.pointer (some ⟨p,0,none⟩) from h0 89 (by kernel_rfl)]
      clear hV h0 hR
      obtain ⟨aU,ar,cv⟩:=hT
      have aL:=yW an cv (Nat.le_refl _)
      have c7:=am.out.kept aL
      refine aT (.pointer (some ⟨p,0,none⟩)) ?_
      refine aT (.pointer (some ⟨p,1,none⟩)) ?_
      refine ZJ 43 p 1 62 _ v98 _ _ rfl rfl (by kernel_rfl) (by kernel_rfl) (by kernel_rfl) (Zy aU) (Xy aU) c7 (by simp [Yz]) ?_
      intro wy aO bH dg
      simp only [Act.put,sA,sS,sZ]
      refine Kx ?_
      obtain ⟨v',d6⟩:∃ v',v'=v98:=⟨_,rfl⟩
      subst d6
      have d0:=k6.size
      have zx:=aL.size
      have aO:Blk wy p 62 (Yz q v'):=aO
      have KY:Keep (·=p) w6 wy:=Keep.any aL bH
      have cc:Sl wy 35 9 v' (n+1) (ords (J.w++[o])):=by rw [JJz];exact aU.keep bH (fun b H e=>by have:=ar b H;omega)
      have ch:=(I.out.bk.kept k6).keep KY (fun b H e=>I.out.nb (by rw [← e];exact H))
      have zy:=KY.size
      have cQ:RkP wy p q v' Fb ⟨J.b,J.w++[o]⟩:=⟨aO,ch,by rw [List.length_append,de.out];exact cc,I.out.nb,fun b H=>⟨fun e=>by have:=ar b H;omega,fun e=>by have:=I.out.bk.lt b e;have:=ar b H;omega⟩⟩
      have c8:=Kj cQ
      have cr:Hid (∀ b,v'.ownBlock=some b→w6.heap.size≤b):=ar
      have bc:=Kj (aK.out.keep KY (by omega))
      have cR:Keep F w wy:=Keep.any k6 (KY.mono (fun b _ e=>a8.out b (.inl (.inl e))))
      clear aU ar cv c7 an bH aO dg aL cc ch cQ KY am cj ct
      go_upto_region 15 with fail
      refine wAp 1 [pV U 12] [101] nZ ?_
      intro we ke
      simp only [F8]
      refine ZJ 4 U 12 66 _ (.bool true) _ (.const (.bool true)) rfl rfl (by kernel_rfl) (by kernel_rfl) rfl rfl rfl (bc.out.kept ke) (by rw [Oc.len15];omega) ?_
      intro wf hF a3 ac
      simp only [Act.put]
      refine Kx ?_
      have cP:Blk wf U 66 ((Ot.mk (Oc.mk o [] o.qty false false 0) true).cells (.slice none 0 0)):=hF
      have a4:=Kj cP
      have aZ:∀ b,foot p v' Fb b→b≠U:=fun b H e=>by
       rcases H with (H | H) | H
       ·omega
       ·have:=cr.out b H;omega
       exact ax (by rw [← e];exact a8.out b (.inr H))
      have dh:=Kj ((c8.out.kept ke).keep a3 aZ).close
      have ze:=ke.size
      have dp:Keep F w wf:=(cR.kept ke).new a3 az
      have dt:Hid (Grow w F (foot p v' Fb)):=fun b H=>by
       rcases H with (H | H) | H
       ·exact .inl (a8.out b (.inl (.inl H)))
       ·have:=cr.out b H;exact .inr (by omega)
       exact .inl (a8.out b (.inr H))
      clear hF cP a3 ac ke c8 bc cR
      go_wp2
      go_meet
      case rel=>exact ⟨_,.slice none 0 0,by rw [a1.out];exact a4.out,by rw [a9.out];exact dh.out,fun h=>aZ _ h rfl,by rw [a1.out];exact Sl.nil _ _ _,fun b H=>by simp [Value.ownBlock] at H,dt.out,dp⟩
     | false=>
      have O:=arrive_en a2.out HW.out
      rw [HX.out] at O
      injection O with hx1 hx2
      obtain ⟨xa,B2,hX⟩:∃ x B2,J.b.add o.free=(x,B2):=⟨_,_,rfl⟩
      have dv:=Kj hX
      obtain ⟨y,hy⟩:∃ y:Oc,{ xa with o:=o }=y:=⟨_,rfl⟩
      have bR:J.b.enter o=(y,B2):=by unfold Bok.enter;rw [hX,← hy]
      have df:Hid (y.f=xa.f):=by show _=_;rw [← hy]
      have dj:Hid (∀ v,o.cells++(xa.cells v).drop 9=y.cells v):=fun v=>by rw [← hy];exact oc_set_o xa o v
      rw [bR] at hx1 hx2
      have a1:=Kj hx1
      have a9:=Kj hx2
      have am:=Kj (I.out.blk.kept k6)
      have d0:=k6.size
      clear hx1 hx2 hX hy bR
      go_upto_region 3 with fail
      refine wAp 1 [o.v] [26] (nS 0 (ldO aR.out) nZ) ?_
      intro wb kb
      simp only [F8]
      refine nT zO ?_
      intro wd aw bT
      refine sO o (aw) ?_
      intro w7 ak aE cO
      simp only [Act.put,sA,sS,sZ]
      refine Kx ?_
      obtain ⟨b8,h8⟩:∃ a,wb.heap.size=a:=⟨_,rfl⟩
      rw [h8] at aw ak aE ⊢
      have zb:=kb.size
      have b1:Kept w6 w7:=(kb.trans bT).trans' aE (by omega)
      have hb8:w6.heap.size≤b8:=by omega
      have bQ:=Kj ak
      have ca:=Kj (JJ aR.out b1)
      have z7:=b1.size
      clear aw ak aE cO bT kb h8
      have aG:stc (o.l.set 8 0) []=o.free.cells:=rfl
      go_upto_region 4 with fail
      refine wAp 1 [pV b8 8] [27] nZ ?_
      intro wb kb
      simp only [F8]
      refine xy b8 8 35 o.l [] 0 _ (.const (.int .i64 0)) rfl rfl (by kernel_rfl) rfl (bQ.out.kept kb) (by simp [Ord.l]) ?_
      intro w8 bj aH cx
      simp only [Act.put]
      refine Kx ?_
      have bd:Hid (Blk w8 b8 35 o.free.cells):=by show Blk _ _ _ _;rw [← aG];exact bj
      have cb:=Kj (JX bd.out)
      have zb2:=kb.size
      have ai:Kept w6 w8:=(b1.trans kb).trans' aH (by omega)
      have ci:=Kj (QJ (JJ ca.out kb) aH (fun e=>by omega))
      have k8:=k6.trans ai
      have bh:=Kj (aK.out.kept ai)
      have cy:Hid (w8.cell? ⟨p,0,none⟩=some (.pointer (some ⟨q,0,none⟩))):=(am.out.kept ai).cell 0
      have cY:=Kj (I.out.bk.kept k8)
      have cq:=I.out.bk.lt
      have h8F:¬ Fb b8:=fun h=>by have:=cq b8 h;omega
      have bf:¬ Fb U:=fun h=>ax (a8.out U (.inr h))
      have bX:¬ Fb b3:=fun h=>dk (a8.out b3 (.inr h))
      have z8:=ai.size
      clear bj aH cx b1 kb bQ ca aG aK aR
      go_upto_region 5 with fail
      refine wHp 5 [pV p 0,pV p 0,pV p 0,pV q 0,o.free.v] [28,29,30,31,32] (nS 3 (ldC cy.out) (nS 4 (ldO cb.out) nZ)) ?_
      intro wb kb
      simp only [F8]
      refine cT Tryz.func31 [.pointer (some ⟨q,0,none⟩),o.free.v] ?_
      refine (rbadd_any wb Fb q J.b o.free (cY.out.kept kb) HI.out.inv (by omega)).mono ?_
      rintro r wd ⟨F2,vf,rfl,bI,a6,b7,co,aX⟩
      rw [dv.out] at bI a6 ⊢
      refine ⟨_,rfl,?_⟩
      refine YV 66 U 66 ((Oc.mk o [] o.qty false false 0).cells (.slice none 0 0)) (xa.cells vf) _ _ rfl rfl (by kernel_rfl) (by kernel_rfl) ((bh.out.kept kb).keep aX bf) (by rw [Oc.len15];exact szC) (by rw [Oc.len15,Oc.len15]) (Oc.one _ _ (Xy a6)) ?_
      intro w9 cl aj dr
      simp only [Act.put,sA,sS,sZ]
      refine Kx ?_
      have zb3:=kb.size
      have zd:=aX.size
      have bJ:Keep Fb w8 wd:=Keep.any kb aX
      have aN:Grow w8 Fb F2:=co.wide (by omega)
      have aC:¬ F2 U:=fun h=>(aN U h).elim bf (fun h=>by omega)
      have bZ:¬ F2 p:=fun h=>(aN p h).elim I.out.nb (fun h=>by omega)
      have bY:=Kj aN
      have aq:Keep Fb w w9:=(Keep.any k8 bJ).new aj az
      have bb:∀ b,v.ownBlock=some b→b<w.heap.size:=fun b H=>I.out.sl.lt H
      have cp:=Kj (I.out.blk.keep aq I.out.nb)
      have cg:=Kj (I.out.sl.keep aq (fun b H=>(I.out.nv b H).2))
      have cE:=Kj (bI.keep aj (fun b H e=>aC (by rw [← e];exact H)))
      have bP:=Kj (a6.keep aj (fun b H e=>by have:=(b7 b H).1;omega))
      have aY:Hid (∀ b,vf.ownBlock=some b→w8.heap.size≤b∧¬ F2 b):=fun b H=>⟨by have:=(b7 b H).1;omega,(b7 b H).2⟩
      have cA:=Kj cl
      have cU:=Kj (QJ (QJ ci.out bJ bX) aj (fun e=>by omega))
      have zw9:=aq.size
      clear bI a6 b7 co aX cl aj dr bJ kb aN bh cy cY ci cb bd k8 ai k6
      go_upto_region 6 with fail
      refine wAp 2 [o.v,pV U 0] [34,35] (nS 0 (ldO cU.out) nZ) ?_
      intro wd kd
      simp only [F8]
      refine l_setO U 66 o (xa.cells vf) _ _ rfl rfl (by kernel_rfl) (by kernel_rfl) (cA.out.kept kd) (by rw [Oc.len15];omega) ?_
      intro we bG cz
      simp only [Act.put]
      refine Kx ?_
      rw [dj.out] at bG
      have bi:Blk we U 66 ((Ot.mk y false).cells vf):=bG
      have af:Keep (·=U) w9 we:=Keep.any kd cz
      have cX:RkP we p q v F2 ⟨B2,J.w⟩:=⟨cp.out.keep af (fun e=>by omega),cE.out.keep af (fun b H e=>aC (by rw [← e];exact H)),cg.out.keep af (fun b H e=>by have:=bb b H;omega),bZ,fun b H=>⟨(I.out.nv b H).1,fun e=>(bY.out b e).elim (I.out.nv b H).2 (fun e=>by have:=bb b H;omega)⟩⟩
      have di:=Kj cX.close
      have da:=Kj bi
      have ds:Hid (Sl we 95 21 vf y.f.length (fls y.f)):=by show Sl _ _ _ _ _ _;rw [df.out];exact bP.out.keep af (fun b H e=>by have:=(aY.out b H).1;omega)
      have aZ:∀ b,foot p v F2 b→b≠U:=fun b H e=>by
       rcases H with (H | H) | H
       ·omega
       ·have:=bb b H;omega
       exact aC (by rw [← e];exact H)
      have d9:Hid (∀ b,vf.ownBlock=some b→w.heap.size≤b∧¬ foot p v F2 b∧b≠U):=fun b H=>by
       have h1:=aY.out b H
       refine ⟨by omega,fun e=>?_,fun e=>by omega⟩
       rcases e with (e | e) | e
       ·omega
       ·have:=bb b e;omega
       exact h1.2 e
      have d1:Hid (Grow w F (foot p v F2)):=fun b H=>by
       rcases H with H | H
       ·exact .inl (a8.out b (.inl H))
       exact (bY.out b H).imp (fun h=>a8.out b (.inr h)) (fun h=>by omega)
      have dn:Keep F w we:=(aq.mono (fun b _ H=>a8.out b (.inr H))).new af az
      clear bG bi cz kd af cX cp cg cE bP cA cU aq
      go_wp2
      go_meet
      case rel=>exact ⟨_,vf,by rw [a1.out];exact da.out,by rw [a9.out];exact di.out,fun h=>aZ _ h rfl,by rw [a1.out];exact ds.out,d9.out,d1.out,dn⟩
 obtain ⟨F2,vf,hB,hM,hn5,hF,hO,hG,hk⟩:=hcut
 have cJ:=Kj (JX hB)
 have bS:=Kj hM
 have bo:=Kj hF
 have bz:=Kj hO
 have cI:=Kj hG
 have cd:Hid (Keep F w wc):=hk
 have zc:=hk.size
 have d4:=hM.lt
 clear hB hM hF hO hG hk aI aW k2
 go_upto_region 16 with fail
 refine wAp 1 [x.v vf] [102] (nS 0 (ldS Tryz.underlying66 (fun u hk=>JJ (cJ.out) hk) (by rw [Ot.len15];exact szC)) nZ) ?_
 intro wa ka
 simp only [F8]
 refine Vj (.slice (some ⟨wa.heap.size,0,none⟩) 1 1) (wa.alloc (.cells (x.cells vf).toArray 66)) rfl (VJ slC (.tmp 102) (x.cells vf) (by omega) rfl (by kernel_rfl) (Ot.len15 _ _)) ?_
 have ad:=jY wa 66 15 (x.cells vf) wa.heap.size (Ot.len15 _ _) (by omega) (Nat.le_refl _)
 have kN:Kept wa (wa.alloc (.cells (x.cells vf).toArray 66)):=(Keep.refl _ wa).alloc _
 generalize wa.alloc (.cells (x.cells vf).toArray 66)=wb at ad kN ⊢
 refine aT (.slice (some ⟨wa.heap.size,0,none⟩) 1 1) ?_
 simp only [Act.put,sA,sS,sZ]
 refine Kx ?_
 have aB:=ka.trans kN
 have za:=ka.size
 have zb:=aB.size
 obtain ⟨v9,bt⟩:∃ v9,v9=Value.slice (some ⟨wa.heap.size,0,none⟩) 1 1:=⟨_,rfl⟩
 have be:∀ b,v9.ownBlock=some b→b=wa.heap.size:=fun b H=>by rw [bt] at H;simp [Value.ownBlock] at H;exact H.symm
 rw [← bt] at ad ⊢
 have cK:=bS.out.kept aB
 have bA:Outs wb w.heap.size F2 v9 [x] [(x,vf)]:=outs_one (bo.out.kept aB) ad.1 (fun b H=>⟨(bz.out b H).1,(bz.out b H).2.1,fun e=>by have:=be b e;have:=bo.out.lt H;omega⟩) (fun b H=>by have:=be b H;exact ⟨by omega,fun h=>by have:=d4 b h;omega⟩)
 have aY:=Kj bA
 have cG:∀ b,v9.ownBlock=some b→b<wb.heap.size:=fun b H=>bA.sl.lt H
 have du:=Kj cK
 have db:Hid (Keep F w wb):=cd.out.kept aB
 clear bA cK ad kN ka aB bt cJ bS bo bz cd
 have d8:[x].length+M2.cas.1.length≤1000000:=by
  have h1:=cas_len _ M2 (Nat.le_refl _)
  have h2:=bl.out.few
  simp only [List.length_cons,List.length_nil]
  omega
 go_upto_region 17 with fail
 refine wAp 2 [v9,pV p 0] [104,105] nZ ?_
 intro we ke
 simp only [F8]
 refine cT Tryz.func32 [.pointer (some ⟨p,0,none⟩)] ?_
 refine (rcascade_any we F2 p M2 (du.out.kept ke) bl.out (by have h1:=bl.out.few;have h2:=d3.out;omega)).mono ?_
 rintro r wf ⟨F3,v2,Z2,rfl,bw,cn,bs,aM⟩
 refine ⟨_,rfl,?_⟩
 have ze:=ke.size
 have ae:Outs wf w.heap.size F3 v9 [x] [(x,vf)]:=(((aY.out.kept ke).beside (G':=fun b=>F2 b∨F3 b) (n:=we.heap.size) (fun b H=>H.elim .inl (bs b)) (Nat.le_refl _)).keep aM (fun b h1 h2 h3 e=>h2 (.inl e))).less (fun b H=>.inr H)
 have zf:=aM.size
 obtain ⟨v7,w7,cB,c4,bM,d2⟩:=ae.app cn 32 (by omega) (fun b H=>by have:=cG b H;omega) d8 (by omega) bw.lt
 refine Vj v7 w7 rfl (QV slC (.tmp 104) (.tmp 106) v9 v2 rfl (by kernel_rfl) (by kernel_rfl) v7 w7 cB) ?_
 refine aT (v7) ?_
 simp only [Act.put,sA,sS,sZ]
 refine Kx ?_
 have cF:=bw.keep bM (fun b H e=>(ae.own b e).2 H)
 have cL:Grow w F F3:=fun b H=>(bs b H).elim (cI.out b) (fun h=>.inr (by omega))
 have cM:Keep F w w7:=(((db.out.kept ke).trans aM (fun b H e=>(cI.out b e).elim id (fun e=>by omega))).trans bM (fun b H e=>by have:=(ae.own b e).1;omega))
 clear ae bM d2 cB cn aM bs bw ke
 go_wp2
 go_ret
 first | exact ⟨F3,v7,_,rfl,cF,c4,cL,cM⟩ | exact ⟨rfl,F3,_,cF,c4,cL,cM⟩
def MassIn (w:World) (F:Nat→Prop) (p:Nat) (M2:Mkt) (G:List Ord) (r:Ending) (w':World):Prop:=
 ∃ F' v,r=.returned v∧Mk w' F' p M2∧Sl w' 35 9 v G.length (ords G)∧(∀ b,v.ownBlock=some b→w.heap.size≤b∧¬ F' b)∧Grow w F F'∧Keep F w w'
theorem mmass_any (w:World) (F:Nat→Prop) (p:Nat) (I:Mkt) (T:Int) (h:Mk w F p I) (hI:InvK I):Calls Tryz.prog 13 #[.pointer (some ⟨p,0,none⟩),.int .u64 T] w (MassIn w F p (massL T I.all I) (UZ T I.all)):=by
 have aW:=h.lt
 have HM:=Kj h
 have HI:=Kj hI
 obtain ⟨X,hX⟩:∃ X,I.all=X:=⟨_,rfl⟩
 have bc:Hid (∀ o ∈ X,o.Fair):=by rw [← hX];exact Kj hI.fair
 obtain ⟨J,aA⟩:∃ J,X.length=J:=⟨_,rfl⟩
 have hal:J≤64:=by rw [← aA,← hX];exact hI.all_few
 have hwl:I.w.length≤64:=by have:=hI.few;omega
 have az:=Kj aA
 have b5:=Kj hX
 have bj:Hid (∀ k,InvK (massL T (X.take k) I)):=fun k=>(InvK.massL T (X.take k) hI).1
 have bd:Hid (∀ k,(UZ T (X.take k)).length≤64):=fun k=>by
  have h1:(UZ T (X.take k)).length≤(X.take k).length:=List.length_filter_le _ _
  rw [List.length_take] at h1
  omega
 rw [hX]
 clear h hI hX aA
 go_enter Tryz.func13,Tryz.ntmps13
 go_upto_region 2 with fail
 refine tA 4 [pK p 0,.k (.sl w.heap.size 35 9 J (ords X)),iK (J:Int),iK 0] [8,9,10,11] (nS 1 (cV Tryz.func15 (fun u hk=>(by rw [← az.out,← b5.out];exact (mall_any u F p I (HM.out.kept hk) HI.out.inv (by omega)).base hk.size))) (nS 2 (sV rfl (fun a u E D hk=>Jx _ slO _ _ _ _ rfl rfl (D 1 9 (by kernel_rfl)).1)) nZ)) ?_
 intro gv w0 hV k0
 simp only [Fz7]
 have ak:(.sl w.heap.size 35 9 J (ords X):Kn).p (gv 9) w0:=hV 1 9 (by kernel_rfl)
 generalize gv 9=v9 at ak ⊢
 rw [gQ hV 2 10 (.int .i64 (J:Int))]
 rw [gQ hV 3 11 (.int .i64 0)]
 clear hV
 obtain ⟨va,bf⟩:∃ x,x=v9:=⟨_,rfl⟩
 subst bf
 have b3:=Kj ak.1
 have bb:Hid (∀ b,va.ownBlock=some b→w.heap.size≤b):=ak.2
 have aL:Hid (Mk w0 F p (massL T (X.take 0) I)):=by rw [List.take_zero];exact Kj (HM.out.kept k0)
 have b0:Hid (Sl w0 35 9 (.slice none 0 0) (UZ T (X.take 0)).length (ords (UZ T (X.take 0)))):=by rw [List.take_zero];exact Sl.nil _ _ _
 have aO:Hid (∀ b,va.ownBlock=some b→¬ F b):=fun b j hf=>by have:=bb.out b j;have:=aW b hf;omega
 have aN:Hid (Grow w F F):=Grow.refl _ _
 have aU:Hid (Keep F w w0):=k0.mono (fun _ _ h=>h.elim)
 have aJ:Hid (∀ b,(Value.slice none 0 0).ownBlock=some b→w.heap.size≤b∧¬ F b∧va.ownBlock≠some b):=fun b j=>by simp [Value.ownBlock] at j
 clear ak HM k0 aW
 go_wp2_with fail
 go_loopw [5,11] (fun s0 x wr=>∃ (k:Nat) (F':Nat→Prop) (s:Value),k≤J∧s=s0∧x=.int .i64 (k:Int)∧Hid (Mk wr F' p (massL T (X.take k) I))∧Hid (Sl wr 35 9 s (UZ T (X.take k)).length (ords (UZ T (X.take k))))∧Hid (∀ b,s.ownBlock=some b→w.heap.size≤b∧¬ F' b∧va.ownBlock≠some b)∧Hid (Sl wr 35 9 va J (ords X))∧Hid (∀ b,va.ownBlock=some b→¬ F' b)∧Hid (Grow w F F')∧Hid (Keep F w wr)) (fun s x _=>J-(intOf x).toNat)
 case atStart=>exact ⟨0,F,_,Nat.zero_le _,rfl,rfl,aL,b0,aJ,b3,aO,aN,aU⟩
 obtain ⟨k,F',s,hk,rfl,rfl,O,a6,H,aj,ah,aa,ae⟩:=hrel
 clear aL b0 aJ b3 aO aN aU
 have zr:=ae.out.size
 by_cases hkm:k<J
 ·obtain ⟨ga,oa,ca,rfl⟩:=aj.out.some_ (by omega)
  obtain ⟨x,hx⟩:∃ e,X[k]?=some e:=⟨X[k]'(by rw [az.out];exact hkm),List.getElem?_eq_getElem _⟩
  have HX:Hid (wr.rangeAt ga (oa+k*9) x.cells):=aj.out.rngO k x hx
  have ab:=Kj (massL_next T X I k x hx)
  have a3:=Kj (goneM_next T X k x hx)
  have h0:=(bc.out x (List.mem_of_getElem? hx)).tr0
  have ai:=Kj (bj.out k)
  have b8:=bd.out k
  obtain ⟨Mc,aY⟩:∃ M,massL T (X.take k) I=M:=⟨_,rfl⟩
  obtain ⟨G,hG⟩:∃ G,UZ T (X.take k)=G:=⟨_,rfl⟩
  rw [aY] at O ab ai
  rw [hG] at a6 a3 b8
  have hml:Mc.w.length≤64:=by have:=ai.out.few;omega
  have b1:=O.out.lt
  clear hx aY hG
  go_upto_region 4 with fail
  refine wAp 2 [pV ga (oa+k*9),x.v] [13,14] (nS 0 (ixV slO (oa) J k ((k:Int)) (hkm)) (nS 1 (ldO HX.out) nZ)) ?_
  intro w5 k5
  simp only [F8]
  refine nT zO ?_
  intro w6 a4 aG
  refine sO x (a4) ?_
  intro w7 N a7 aX
  simp only [Act.put,sA,sS,sZ]
  refine Kx ?_
  obtain ⟨b7,h7⟩:∃ a,w5.heap.size=a:=⟨_,rfl⟩
  rw [h7] at a4 N a7 ⊢
  have z5:=k5.size
  have a1:Kept wr w7:=(k5.trans aG).trans' a7 (by omega)
  have a8:=Kj (JX N)
  have l7:=N.lt
  have bg:¬ F' b7:=fun h=>by have:=b1 b7 h;omega
  have z7:=a1.size
  have au:=Kj (O.out.kept a1)
  have ao:=Kj (a6.out.kept a1)
  have ad:=Kj (aj.out.kept a1)
  have av:Hid (Keep F w w7):=ae.out.kept a1
  clear a4 N a7 aX aG k5 HX O a6 aj ae b1 a1
  cases j:bitB T x.tr with
  | true=>
   have HB:=Kj j
   have ay:Hid (massL T (X.take (k+1)) I=(Mc.remove x.tr x.id).2.2):=by show _=_;rw [ab.out];unfold massS;rw [if_pos j]
   have aC:Hid (UZ T (X.take (k+1))=G++[x]):=by show _=_;rw [a3.out,if_pos j]
   clear j ab a3
   go_upto_region 5 with fail
   refine wA 4 [.int .u64 T,pV b7 0,iV x.tr,bV true] [15,16,17,18] (nS 2 (ldR a8.out 0) (nS 3 (cV Tryz.func42 (fun u hk=>(by have h:=isIn_any T x.tr u h0;rw [HB.out] at h;exact h))) nZ)) ?_
   intro w8 U
   simp only [F8]
   have al:=Kj (JJ a8.out U)
   have af:=Kj (au.out.kept U)
   have a2:=Kj (ao.out.kept U)
   have ac:=Kj (ad.out.kept U)
   have ar:Hid (Keep F w w8):=av.out.kept U
   have z8:=U.size
   clear a8 au ao ad av U
   go_upto_region 6 with fail
   refine wAp 5 [pV p 0,pV b7 0,iV x.tr,pV b7 1,iV x.id] [19,20,21,22,23] (nS 2 (ldR al.out 0) (nS 4 (ldR al.out 1) nZ)) ?_
   intro w9 k9
   simp only [F8]
   refine cT Tryz.func38 [.pointer (some ⟨p,0,none⟩),.int .i64 x.tr,.int .i64 x.id] ?_
   refine (mremove_any w9 F' p Mc x.tr x.id (af.out.kept k9) ai.out.inv (by omega)).mono ?_
   rintro r wa ⟨F2,rfl,aH,b4,aD⟩
   refine ⟨_,rfl,?_⟩
   simp only [Act.put,sA,sS,sZ]
   refine Kx ?_
   have z9:=k9.size
   have za:=aD.size
   have a5:Keep F' w8 wa:=Keep.any k9 aD
   have aZ:=Kj (QJ al.out a5 bg)
   have aR:=Kj (a2.out.keep a5 (fun b j=>(H.out b j).2.1))
   have aB:=Kj (ac.out.keep a5 (fun b j=>ah.out b j))
   have aq:Hid (Grow w8 F' F2):=b4.wide z9
   have b9:Hid (Grow w F F2):=aa.out.trans aq.out (by omega)
   have aF:Hid (Keep F w wa):=aa.out.keep ar.out a5
   have aS:Hid (∀ b,(Value.slice (some ⟨ga,oa,none⟩) J ca).ownBlock=some b→¬ F2 b):=fun b j h=>(aq.out b h).elim (ah.out b j) (fun h=>by have:=ac.out.lt j;omega)
   have a9:Hid (∀ b,s.ownBlock=some b→w.heap.size≤b∧¬ F2 b∧(Value.slice (some ⟨ga,oa,none⟩) J ca).ownBlock≠some b):=fun b j=>⟨(H.out b j).1,fun h=>(aq.out b h).elim (H.out b j).2.1 (fun h=>by have:=a2.out.lt j;omega),(H.out b j).2.2⟩
   have aE:=Kj aH
   clear aH b4 aD k9 a5 al af a2 ac ar aq H ah aa ai
   go_upto_region 7 with fail
   refine tAp 3 [.v (s),.v (x.v),.k (.sl wa.heap.size 35 9 1 x.cells)] (nS 1 (ldO aZ.out) (nS 2 (nV rfl (fun a u E D hk=>⟨_,_,VJ slO _ x.cells (by omega) rfl (dD D 1) (x.len9),(jY u 35 9 _ wa.heap.size (x.len9) (by omega) hk.size),((Keep.refl _ u).alloc _)⟩)) nZ)) ?_
   intro gv we hV am
   rw [dq 3 [25,26,27]]
   simp only [Fz7]
   rw [gQ hV 0 25 s]
   have ax:(.sl wa.heap.size 35 9 1 x.cells:Kn).p (gv 27) we:=hV 2 27 (by kernel_rfl)
   generalize gv 27=v27 at ax ⊢
   clear hV
   obtain ⟨v',wb,aI,aQ,aK,aw⟩:=QQ slO 43 we s v27 G.length 1 (ords G) x.cells (aR.out.kept am) ax.1 (Ord.one1 _) (by unfold maxLen;omega) (by omega)
   have zb1:=am.size
   have aM:∀ b,v'.ownBlock=some b→s.ownBlock=some b∨wa.heap.size≤b:=fun b j=>(aw b j).imp id (fun h=>by omega)
   refine Vj v' wb rfl (QV slO (.tmp 25) (.tmp 27) s v27 rfl (by kernel_rfl) (by kernel_rfl) v' wb aI) ?_
   refine aT (v') ?_
   simp only [Act.put,sA,sS,sZ]
   refine Kx ?_
   clear aI aw
   have ag:Keep (fun b=>s.ownBlock=some b) wa wb:=Keep.any am aK
   have be:Hid (Mk wb F2 p (massL T (X.take (k+1)) I)):=by rw [ay.out];exact Kj (aE.out.keep ag (fun b j h=>(a9.out b h).2.1 j))
   have bi:Hid (Sl wb 35 9 v' (UZ T (X.take (k+1))).length (ords (UZ T (X.take (k+1))))):=by rw [aC.out,JJz,List.length_append];exact Kj aQ
   have b6:=Kj (aB.out.keep ag (fun b j h=>(a9.out b h).2.2 j))
   have bh:Hid (Keep F w wb):=aF.out.trans ag (fun b j h=>by have:=(a9.out b h).1;omega)
   have ba:Hid (∀ b,v'.ownBlock=some b→w.heap.size≤b∧¬ F2 b∧(Value.slice (some ⟨ga,oa,none⟩) J ca).ownBlock≠some b):=fun b j=>(aM b j).elim (a9.out b) (fun h=>⟨by omega,fun h2=>by have:=aE.out.lt b h2;omega,fun h2=>by have:=aB.out.lt h2;omega⟩)
   clear aQ aK aM ag aE aR aB aF a9 aZ am
   go_wp2
   exact ⟨⟨k+1,F2,v',by omega,rfl,by go_num,be,bi,ba,b6,aS,b9,bh⟩,by simp [intOf];omega⟩
  | false=>
   have HB:=Kj j
   have ay:Hid (massL T (X.take (k+1)) I=Mc):=by show _=_;rw [ab.out];unfold massS;rw [j];rfl
   have aC:Hid (UZ T (X.take (k+1))=G):=by show _=_;rw [a3.out,j];simp
   clear j ab a3
   go_upto_region 5 with fail
   refine wA 4 [.int .u64 T,pV b7 0,iV x.tr,bV false] [15,16,17,18] (nS 2 (ldR a8.out 0) (nS 3 (cV Tryz.func42 (fun u hk=>(by have h:=isIn_any T x.tr u h0;rw [HB.out] at h;exact h))) nZ)) ?_
   intro w8 U
   simp only [F8]
   have af:Hid (Mk w8 F' p (massL T (X.take (k+1)) I)):=by rw [ay.out];exact Kj (au.out.kept U)
   have a2:Hid (Sl w8 35 9 s (UZ T (X.take (k+1))).length (ords (UZ T (X.take (k+1))))):=by rw [aC.out];exact Kj (ao.out.kept U)
   have ac:=Kj (ad.out.kept U)
   have ar:Hid (Keep F w w8):=av.out.kept U
   clear a8 au ao ad av U
   go_wp2
   exact ⟨⟨k+1,F',s,by omega,rfl,by go_num,af,a2,H,ac,ah,aa,ar⟩,by simp [intOf];omega⟩
 have b2:k=X.length:=by rw [az.out];omega
 have HE:Hid (X.take k=X):=by show _=_;rw [b2,List.take_length]
 rw [HE.out] at O a6
 clear b2
 go_wp2
 go_ret
 exact ⟨F',s,rfl,O.out,a6.out,fun b j=>⟨(H.out b j).1,(H.out b j).2.1⟩,aa.out,ae.out⟩


theorem JJW (l:Lev) (R:List Lev):XJ (l::R)=l.2.map (·.o)++XJ R:=by unfold XJ;rw [Qy,List.map_append]
theorem lessM_no2 {t i q:Int} {X:List Ent} (h:(X.map (·.o)).findIdx (Ord.is t i)=X.length):ZQ t i q X=(false,X):=by
 rw [idx_ords] at h
 unfold ZQ
 rw [h,List.getElem?_eq_none (Nat.le_refl _)]
theorem lessO_no {t i q:Int}:∀ {L:List Lev},(XJ L).findIdx (Ord.is t i)=(XJ L).length→VZ t i q L=(false,L)
 | [],_=>rfl
 | l::R,h=>by
  rw [JJW,List.findIdx_append,List.length_append,List.length_map] at h
  by_cases h1:(l.2.map (·.o)).findIdx (Ord.is t i)<l.2.length
  ·rw [if_pos h1] at h
   omega
  rw [if_neg h1] at h
  have j:(l.2.map (·.o)).findIdx (Ord.is t i)=l.2.length:=by
   have:=List.findIdx_le_length (p:=Ord.is t i) (xs:=l.2.map (·.o))
   rw [List.length_map] at this
   omega
  rw [VZ,lessM_no2 j,lessO_no (L:=R) (by omega)]
  rfl
theorem map_set_o2 (X:List Ent) (k:Nat) (e:Ent):(X.set k e).map (·.o)=(X.map (·.o)).set k e.o:=by rw [List.map_set]
theorem lessO_at {t i q:Int} {x:Ord} (D:1≤q) (j:q≤x.qty):∀ {L:List Lev} {k:Nat},(XJ L).findIdx (Ord.is t i)=k→(XJ L)[k]?=some x→(VZ t i q L).1=true∧XJ (VZ t i q L).2=(XJ L).set k (x.q q)
 | [],k,_,hx=>by simp [XJ,YZ] at hx
 | l::R,k,h,hx=>by
  rw [JJW] at h hx ⊢
  rw [List.findIdx_append] at h
  by_cases hl:(l.2.map (·.o)).findIdx (Ord.is t i)<(l.2.map (·.o)).length
  ·rw [if_pos hl] at h
   subst h
   rw [List.getElem?_append_left hl] at hx
   have O:Wj t i l.2=(l.2.map (·.o)).findIdx (Ord.is t i):=(idx_ords t i l.2).symm
   rw [← O] at hx hl ⊢
   rw [List.getElem?_map] at hx
   obtain ⟨e,U,rfl⟩:=Option.map_eq_some_iff.1 hx
   have H:ZQ t i q l.2=(true,l.2.set (Wj t i l.2) ⟨e.o.q q,mn e.n q⟩):=by
    unfold ZQ
    rw [U]
    exact if_pos ⟨D,j⟩
   rw [VZ,H,if_pos rfl]
   refine ⟨rfl,?_⟩
   rw [JJW,map_set_o2,List.set_append_left _ _ hl]
  rw [if_neg hl] at h
  subst h
  have J:(l.2.map (·.o)).findIdx (Ord.is t i)=l.2.length:=by
   have:=List.findIdx_le_length (p:=Ord.is t i) (xs:=l.2.map (·.o))
   rw [List.length_map] at hl this
   omega
  rw [List.getElem?_append_right (by omega),Nat.add_sub_cancel] at hx
  obtain ⟨N,I⟩:=lessO_at D j (L:=R) rfl hx
  rw [VZ,lessM_no2 J,if_neg (by simp)]
  refine ⟨N,?_⟩
  rw [JJW,I,List.set_append_right _ _ (by omega),Nat.add_sub_cancel]
theorem less_book {M:Mkt} (h:InvK M) {k:Nat} {x:Ord} (hx:M.all[k]?=some x) (hk:k+M.w.length<M.all.length) {q:Int} (O:1≤q) (N:q≤x.qty) :
  (M.less x.tr x.id q).1=true∧(M.less x.tr x.id q).2.all=M.all.set k (x.q q)∧(M.less x.tr x.id q).2.w=M.w:=by
 have j:=idx_at h.nodup hx
 unfold Mkt.all at hx hk j ⊢
 rw [List.length_append,List.length_append] at hk
 rw [List.getElem?_append_left (by rw [List.length_append];omega)] at hx
 rw [List.findIdx_append] at j
 have J:(XJ M.b.buys++XJ M.b.sells).findIdx (Ord.is x.tr x.id)<(XJ M.b.buys++XJ M.b.sells).length:=by
  refine Nat.lt_of_not_le fun hn=>?_
  rw [if_neg (by omega)] at j
  rw [List.length_append] at j
  omega
 rw [if_pos J,List.findIdx_append] at j
 unfold Mkt.less Bok.less
 by_cases hb:(XJ M.b.buys).findIdx (Ord.is x.tr x.id)<(XJ M.b.buys).length
 ·rw [if_pos hb] at j
  rw [List.getElem?_append_left (by omega)] at hx
  obtain ⟨D,H⟩:=lessO_at O N j hx
  rw [if_pos D]
  refine ⟨rfl,?_,rfl⟩
  simp only
  rw [H,List.set_append_left _ _ (by rw [List.length_append];omega),List.set_append_left _ _ (by omega)]
 rw [if_neg hb] at j
 have I:(XJ M.b.buys).findIdx (Ord.is x.tr x.id)=(XJ M.b.buys).length:=by
  have:=List.findIdx_le_length (p:=Ord.is x.tr x.id) (xs:=XJ M.b.buys)
  omega
 rw [List.getElem?_append_right (by omega)] at hx
 obtain ⟨D,H⟩:=lessO_at (t:=x.tr) (i:=x.id) O N (k:=k-(XJ M.b.buys).length) (L:=M.b.sells) (by omega) hx
 rw [lessO_no I,if_neg (by simp),if_pos D]
 refine ⟨rfl,?_,rfl⟩
 simp only
 rw [H,List.set_append_left _ _ (by rw [List.length_append];omega),List.set_append_right _ _ (by omega)]
def gX (k:Nat) (x:Ot):Int:=2*sumF x.c.f+(if ((!x.c.rests && !x.wt) && (decide ((0:Int)<(k:Int)) || decide (x.c.err=0)))=true then x.c.left else 0)
theorem quiet_out {M:Mkt} (h:Quiet M) (t i:Int):Quiet (M.remove t i).2.2:=by
 have D:(M.b.remove t i).2.2.last=M.b.last:=by
  unfold Bok.remove
  split
  ·rfl
  split <;> rfl
 unfold Mkt.remove
 split
 ·intro o j
  show o.hit (M.b.remove t i).2.2.last=false
  rw [D]
  exact h o j
 split
 ·exact h
 exact fun o j=>h o (List.mem_of_mem_eraseIdx j)
theorem JQq {t i q:Int}:∀ {L:List Lev},(VZ t i q L).1=true→∃ o ∈ XJ L,o.tr=t∧o.id=i∧q≤o.qty
 | [],h=>by cases h
 | l::R,h=>by
  rw [JJW]
  rw [VZ] at h
  by_cases hb:(ZQ t i q l.2).1=true
  ·unfold ZQ at hb
   cases H:l.2[Wj t i l.2]? with
   | none=>rw [H] at hb;cases hb
   | some e=>
    rw [H] at hb
    simp only at hb
    by_cases hq:1≤q∧q≤e.o.qty
    ·have J:=List.mem_of_getElem? H
     have O:=(List.getElem?_eq_some_iff.1 H).1
     obtain ⟨e2,j,U⟩:=idx_is O
     rw [H] at j
     injection j with j
     subst j
     have D:Ord.is t i e.o=true:=U
     simp only [Ord.is,Bool.and_eq_true,decide_eq_true_eq] at D
     exact ⟨e.o,List.mem_append_left _ (List.mem_map.2 ⟨e,J,rfl⟩),D.1,D.2,hq.2⟩
    rw [if_neg hq] at hb
    cases hb
  rw [if_neg hb] at h
  obtain ⟨o,N,I⟩:=JQq (L:=R) h
  exact ⟨o,List.mem_append_right _ N,I⟩
theorem less_big {M:Mkt} (h:InvK M) {k:Nat} {x:Ord} (hx:M.all[k]?=some x) {q:Int} (hq:x.qty<q):(M.less x.tr x.id q).1=false:=by
 refine Bool.eq_false_iff.2 fun O=>?_
 have J:(VZ x.tr x.id q M.b.buys).1=true∨(VZ x.tr x.id q M.b.sells).1=true:=by
  unfold Mkt.less Bok.less at O
  by_cases N:(VZ x.tr x.id q M.b.buys).1=true
  ·exact .inl N
  rw [if_neg N] at O
  by_cases D:(VZ x.tr x.id q M.b.sells).1=true
  ·exact .inr D
  rw [if_neg D] at O
  cases O
 have hm:∃ o ∈ M.all,o.tr=x.tr∧o.id=x.id∧q≤o.qty:=by
  unfold Mkt.all
  rcases J with J | J
  ·obtain ⟨o,H,D⟩:=JQq J
   exact ⟨o,List.mem_append_left _ (List.mem_append_left _ H),D⟩
  obtain ⟨o,H,D⟩:=JQq J
  exact ⟨o,List.mem_append_left _ (List.mem_append_right _ H),D⟩
 obtain ⟨o,H,N,D,h3⟩:=hm
 obtain ⟨j,I⟩:=List.getElem?_of_mem H
 have e1:=idx_at h.nodup hx
 have U:=idx_at h.nodup I
 rw [N,D,e1] at U
 subst U
 rw [hx] at I
 injection I with I
 subst I
 omega
theorem less_ref {M:Mkt} (h:InvK M) {t i n:Int} {y:Ord} (hy:M.find t i=(y,true)) (hn:1≤n):(M.less t i n).1=(decide (Vq (Ord.is t i) M.w<0) && decide (n≤y.qty)):=by
 obtain ⟨k,hk,e1,e2⟩:=find_mem (M:=M) (t:=t) (i:=i) (by rw [hy])
 rw [hy] at hk e1 e2
 simp only at hk e1 e2
 subst e1 e2
 have hi:=idx_at h.nodup hk
 obtain ⟨A,hA⟩:∃ A,XJ M.b.buys++XJ M.b.sells=A:=⟨_,rfl⟩
 have D:M.all=A++M.w:=by rw [← hA];rfl
 by_cases hb:k+M.w.length<M.all.length
 ·have N:k<A.length:=by rw [D,List.length_append] at hb;omega
  have hp:Vq (Ord.is y.tr y.id) M.w=-1:=by
   refine if_neg (fun H=>?_)
   have hx:=List.findIdx_getElem (w:=H)
   have hj:M.all[A.length+M.w.findIdx (Ord.is y.tr y.id)]?=some (M.w[M.w.findIdx (Ord.is y.tr y.id)]):=by
    rw [D,List.getElem?_append_right (by omega),Nat.add_sub_cancel_left]
    exact List.getElem?_eq_getElem H
   have I:=idx_at h.nodup hj
   simp only [Ord.is,Bool.and_eq_true,decide_eq_true_eq] at hx
   rw [hx.1,hx.2] at I
   omega
  rw [hp,Ky (by decide:(-1:Int)<0),Bool.true_and]
  by_cases hq:n≤y.qty
  ·rw [Ky hq]
   exact (less_book h hk hb hn hq).1
  rw [Ku hq]
  exact less_big h hk (by omega)
 have N:A.length≤k:=by rw [D,List.length_append] at hb;omega
 have hw:M.w[k-A.length]?=some y:=by rw [D,List.getElem?_append_right N] at hk;exact hk
 have hm:=List.mem_of_getElem? hw
 have H:M.w.findIdx (Ord.is y.tr y.id)<M.w.length:=List.findIdx_lt_length_of_exists ⟨y,hm,by simp [Ord.is]⟩
 have hp:Vq (Ord.is y.tr y.id) M.w=((M.w.findIdx (Ord.is y.tr y.id):Nat):Int):=if_pos H
 rw [hp,Ku (by omega),Bool.false_and]
 refine Bool.eq_false_iff.2 fun ht=>?_
 have a3:∃ o ∈ A,o.tr=y.tr∧o.id=y.id:=by
  rw [← hA]
  unfold Mkt.less Bok.less at ht
  by_cases h1:(VZ y.tr y.id n M.b.buys).1=true
  ·obtain ⟨o,J,U,O,_⟩:=JQq h1
   exact ⟨o,List.mem_append_left _ J,U,O⟩
  rw [if_neg h1] at ht
  by_cases h2:(VZ y.tr y.id n M.b.sells).1=true
  ·obtain ⟨o,J,U,O,_⟩:=JQq h2
   exact ⟨o,List.mem_append_right _ J,U,O⟩
  rw [if_neg h2] at ht
  cases ht
 obtain ⟨o,J,U,O⟩:=a3
 obtain ⟨j,hj⟩:=List.getElem?_of_mem J
 have a2:=(List.getElem?_eq_some_iff.1 hj).1
 have a1:M.all[j]?=some o:=by rw [D,List.getElem?_append_left a2];exact hj
 have I:=idx_at h.nodup a1
 rw [U,O] at I
 omega
theorem rmopen_any (w:World) (F:Nat→Prop) (p:Nat) (j:Mkt) (t:Int) (h:RMk w F p j) (hI:InvK j):Gives 18 #[.pointer (some ⟨p,0,none⟩),.int .i64 t] w (.eq (.int .i64 (qy t j.all))):=by
 refine QW ?_
 have HM:=Kj h
 have HI:=Kj hI
 have HF:=Kj hI.fair
 obtain ⟨H,a5⟩:∃ H,j.all.length=H:=⟨_,rfl⟩
 have hal:H≤64:=by rw [← a5];exact hI.all_few
 have hwl:j.w.length≤64:=by have:=hI.few;omega
 have a3:=Kj a5
 clear h hI a5
 go_enter Tryz.func18,Tryz.ntmps18
 go_upto_region 2 with fail
 refine tA 4 [pK p 0,.k (.sl w.heap.size 35 9 H (ords j.all)),iK (H:Int),iK 0] [8,9,10,11] (nS 1 (cV Tryz.func16 (fun u hk=>(by rw [← a3.out];exact (rmall_any u F p j (HM.out.kept hk) HI.out.inv (by omega)).base hk.size))) (nS 2 (sV rfl (fun a u E D hk=>Jx _ slO _ _ _ _ rfl rfl (D 1 9 (by kernel_rfl)).1)) nZ)) ?_
 intro gv w0 hV k0
 simp only [Fz7]
 have a4:(.sl w.heap.size 35 9 H (ords j.all):Kn).p (gv 9) w0:=hV 1 9 (by kernel_rfl)
 generalize gv 9=v9 at a4 ⊢
 rw [gQ hV 2 10 (.int .i64 (H:Int))]
 rw [gQ hV 3 11 (.int .i64 0)]
 clear hV
 obtain ⟨va,af⟩:∃ x,x=v9:=⟨_,rfl⟩
 subst af
 have HA:=Kj a4.1
 clear a4
 go_wp2_with fail
 go_loopw [5,11] (fun s x wr=>∃ (k:Nat),k≤H∧x=.int .i64 (k:Int)∧s=.int .i64 (qy t (j.all.take k))∧Kept w0 wr) (fun s x _=>H-(intOf x).toNat)
 case atStart=>exact ⟨0,Nat.zero_le _,rfl,rfl,Kept.refl _⟩
 obtain ⟨k,hk,rfl,rfl,J⟩:=hrel
 by_cases hkm:k<H
 ·obtain ⟨ga,oa,ca,rfl⟩:=HA.out.some_ (by omega)
  obtain ⟨x,hx⟩:∃ e,j.all[k]?=some e:=⟨j.all[k]'(by rw [a3.out];exact hkm),List.getElem?_eq_getElem _⟩
  have HX:Hid (wr.rangeAt ga (oa+k*9) x.cells):=JJ (HA.out.rngO k x hx) J
  have a7:=Kj (openM_next t j.all k x hx)
  have ae:=openM_in t (j.all.take k) (fun o ho=>HF.out o (List.mem_of_mem_take ho))
  have a1:=HF.out x (List.mem_of_getElem? hx)
  have hq0:=a1.qty0
  have hq1:=a1.qty1
  have hl64:(j.all.take k).length≤64:=by rw [List.length_take];omega
  have HQ:Hid (qtyOf t x=if x.tr=t then x.qty else 0):=rfl
  obtain ⟨s0,a9⟩:∃ s,qy t (j.all.take k)=s:=⟨_,rfl⟩
  rw [a9] at ae a7 ⊢
  clear hx a1 a9
  go_upto_region 4 with fail
  refine wAp 2 [pV ga (oa+k*9),x.v] [13,14] (nS 0 (ixV slO (oa) H k ((k:Int)) (hkm)) (nS 1 (ldO HX.out) nZ)) ?_
  intro w5 k5
  simp only [F8]
  refine nT zO ?_
  intro w6 U k6
  refine sO x U ?_
  intro w7 a2 a8 ac
  simp only [Act.put,sA,sS,sZ]
  refine Kx ?_
  obtain ⟨b7,h7⟩:∃ a,w5.heap.size=a:=⟨_,rfl⟩
  rw [h7] at U a2 a8 ⊢
  have z5:=k5.size
  have N:Kept w0 w7:=J.trans ((k5.trans k6).trans' a8 (by omega))
  have I:=Kj (JX a2)
  clear U a2 a8 ac k6 k5 J HX
  by_cases ht:x.tr=t
  ·have a6:Hid (s0+x.qty=qy t (j.all.take (k+1))):=by show _=_;rw [a7.out,HQ.out,if_pos ht]
   go_upto_region 5 with fail
   refine wA 4 [pV b7 0,iV x.tr,iV t,bV true] [15,16,17,18] (nS 1 (ldR I.out 0) (nS 3 (aV rfl (fun a u E D hk=>JY rfl (dD D 1) (dD D 2)) (Ky ht)) nZ)) ?_
   intro w8 k8
   simp only [F8]
   have aa:=Kj (JJ I.out k8)
   have O:=N.trans k8
   clear I N k8
   go_upto_region 6 with fail
   refine wAp 4 [iV s0,pV b7 6,iV x.qty,iV ((s0:Int)+(x.qty:Int))] [19,20,21,22] (nS 2 (ldR aa.out 6) (nS 3 (sV rfl (fun a u E D hk=>YQ (p:=(s0)) (q:=(x.qty)) ((s0:Int)+(x.qty:Int)) rfl (dD D 0) (dD D 2) rfl (by omega) (by omega))) nZ)) ?_
   intro w9 k9
   simp only [F8]
   refine aT (.int .i64 ((s0:Int)+(x.qty:Int))) ?_
   simp only [Act.put,sA,sS,sZ]
   refine Kx ?_
   rw [a6.out]
   have ad:=O.trans k9
   clear aa O k9
   go_wp2
   exact ⟨⟨k+1,by omega,by go_num,rfl,ad⟩,by simp [intOf];omega⟩
  have a6:Hid (s0=qy t (j.all.take (k+1))):=by show _=_;rw [a7.out,HQ.out,if_neg ht];omega
  go_upto_region 5 with fail
  refine wA 4 [pV b7 0,iV x.tr,iV t,bV false] [15,16,17,18] (nS 1 (ldR I.out 0) (nS 3 (aV rfl (fun a u E D hk=>JY rfl (dD D 1) (dD D 2)) (Ku ht)) nZ)) ?_
  intro w8 k8
  simp only [F8]
  rw [a6.out]
  have O:=N.trans k8
  clear I N k8
  go_wp2
  exact ⟨⟨k+1,by omega,by go_num,rfl,O⟩,by simp [intOf];omega⟩
 have ab:k=j.all.length:=by rw [a3.out];omega
 have HE:Hid (qy t (j.all.take k)=qy t j.all):=by show _=_;rw [ab,List.take_length]
 rw [HE.out]
 have kw:=k0.trans J
 clear ab
 go_wp2
 go_ret
 exact ⟨rfl,kw⟩
def RMassIn (w:World) (F:Nat→Prop) (p:Nat) (M2:Mkt) (G:List Ord) (r:Ending) (w':World):Prop:=
 ∃ F' v,r=.returned v∧RMk w' F' p M2∧Sl w' 35 9 v G.length (ords G)∧(∀ b,v.ownBlock=some b→w.heap.size≤b∧¬ F' b)∧Grow w F F'∧Keep F w w'
theorem rmmass_any (w:World) (F:Nat→Prop) (p:Nat) (I:Mkt) (T:Int) (h:RMk w F p I) (hI:InvK I):Calls Tryz.prog 14 #[.pointer (some ⟨p,0,none⟩),.int .u64 T] w (RMassIn w F p (massL T I.all I) (UZ T I.all)):=by
 have aW:=h.lt
 have HM:=Kj h
 have HI:=Kj hI
 obtain ⟨X,hX⟩:∃ X,I.all=X:=⟨_,rfl⟩
 have bc:Hid (∀ o ∈ X,o.Fair):=by rw [← hX];exact Kj hI.fair
 obtain ⟨J,aA⟩:∃ J,X.length=J:=⟨_,rfl⟩
 have hal:J≤64:=by rw [← aA,← hX];exact hI.all_few
 have hwl:I.w.length≤64:=by have:=hI.few;omega
 have az:=Kj aA
 have b5:=Kj hX
 have bj:Hid (∀ k,InvK (massL T (X.take k) I)):=fun k=>(InvK.massL T (X.take k) hI).1
 have bd:Hid (∀ k,(UZ T (X.take k)).length≤64):=fun k=>by
  have h1:(UZ T (X.take k)).length≤(X.take k).length:=List.length_filter_le _ _
  rw [List.length_take] at h1
  omega
 rw [hX]
 clear h hI hX aA
 go_enter Tryz.func14,Tryz.ntmps14
 go_upto_region 2 with fail
 refine tA 4 [pK p 0,.k (.sl w.heap.size 35 9 J (ords X)),iK (J:Int),iK 0] [8,9,10,11] (nS 1 (cV Tryz.func16 (fun u hk=>(by rw [← az.out,← b5.out];exact (rmall_any u F p I (HM.out.kept hk) HI.out.inv (by omega)).base hk.size))) (nS 2 (sV rfl (fun a u E D hk=>Jx _ slO _ _ _ _ rfl rfl (D 1 9 (by kernel_rfl)).1)) nZ)) ?_
 intro gv w0 hV k0
 simp only [Fz7]
 have ak:(.sl w.heap.size 35 9 J (ords X):Kn).p (gv 9) w0:=hV 1 9 (by kernel_rfl)
 generalize gv 9=v9 at ak ⊢
 rw [gQ hV 2 10 (.int .i64 (J:Int))]
 rw [gQ hV 3 11 (.int .i64 0)]
 clear hV
 obtain ⟨va,bf⟩:∃ x,x=v9:=⟨_,rfl⟩
 subst bf
 have b3:=Kj ak.1
 have bb:Hid (∀ b,va.ownBlock=some b→w.heap.size≤b):=ak.2
 have aL:Hid (RMk w0 F p (massL T (X.take 0) I)):=by rw [List.take_zero];exact Kj (HM.out.kept k0)
 have b0:Hid (Sl w0 35 9 (.slice none 0 0) (UZ T (X.take 0)).length (ords (UZ T (X.take 0)))):=by rw [List.take_zero];exact Sl.nil _ _ _
 have aO:Hid (∀ b,va.ownBlock=some b→¬ F b):=fun b j hf=>by have:=bb.out b j;have:=aW b hf;omega
 have aN:Hid (Grow w F F):=Grow.refl _ _
 have aU:Hid (Keep F w w0):=k0.mono (fun _ _ h=>h.elim)
 have aJ:Hid (∀ b,(Value.slice none 0 0).ownBlock=some b→w.heap.size≤b∧¬ F b∧va.ownBlock≠some b):=fun b j=>by simp [Value.ownBlock] at j
 clear ak HM k0 aW
 go_wp2_with fail
 go_loopw [5,11] (fun s0 x wr=>∃ (k:Nat) (F':Nat→Prop) (s:Value),k≤J∧s=s0∧x=.int .i64 (k:Int)∧Hid (RMk wr F' p (massL T (X.take k) I))∧Hid (Sl wr 35 9 s (UZ T (X.take k)).length (ords (UZ T (X.take k))))∧Hid (∀ b,s.ownBlock=some b→w.heap.size≤b∧¬ F' b∧va.ownBlock≠some b)∧Hid (Sl wr 35 9 va J (ords X))∧Hid (∀ b,va.ownBlock=some b→¬ F' b)∧Hid (Grow w F F')∧Hid (Keep F w wr)) (fun s x _=>J-(intOf x).toNat)
 case atStart=>exact ⟨0,F,_,Nat.zero_le _,rfl,rfl,aL,b0,aJ,b3,aO,aN,aU⟩
 obtain ⟨k,F',s,hk,rfl,rfl,O,a6,H,aj,ah,aa,ae⟩:=hrel
 clear aL b0 aJ b3 aO aN aU
 have zr:=ae.out.size
 by_cases hkm:k<J
 ·obtain ⟨ga,oa,ca,rfl⟩:=aj.out.some_ (by omega)
  obtain ⟨x,hx⟩:∃ e,X[k]?=some e:=⟨X[k]'(by rw [az.out];exact hkm),List.getElem?_eq_getElem _⟩
  have HX:Hid (wr.rangeAt ga (oa+k*9) x.cells):=aj.out.rngO k x hx
  have ab:=Kj (massL_next T X I k x hx)
  have a3:=Kj (goneM_next T X k x hx)
  have h0:=(bc.out x (List.mem_of_getElem? hx)).tr0
  have ai:=Kj (bj.out k)
  have b8:=bd.out k
  obtain ⟨Mc,aY⟩:∃ M,massL T (X.take k) I=M:=⟨_,rfl⟩
  obtain ⟨G,hG⟩:∃ G,UZ T (X.take k)=G:=⟨_,rfl⟩
  rw [aY] at O ab ai
  rw [hG] at a6 a3 b8
  have hml:Mc.w.length≤64:=by have:=ai.out.few;omega
  have b1:=O.out.lt
  clear hx aY hG
  go_upto_region 4 with fail
  refine wAp 2 [pV ga (oa+k*9),x.v] [13,14] (nS 0 (ixV slO (oa) J k ((k:Int)) (hkm)) (nS 1 (ldO HX.out) nZ)) ?_
  intro w5 k5
  simp only [F8]
  refine nT zO ?_
  intro w6 a4 aG
  refine sO x (a4) ?_
  intro w7 N a7 aX
  simp only [Act.put,sA,sS,sZ]
  refine Kx ?_
  obtain ⟨b7,h7⟩:∃ a,w5.heap.size=a:=⟨_,rfl⟩
  rw [h7] at a4 N a7 ⊢
  have z5:=k5.size
  have a1:Kept wr w7:=(k5.trans aG).trans' a7 (by omega)
  have a8:=Kj (JX N)
  have l7:=N.lt
  have bg:¬ F' b7:=fun h=>by have:=b1 b7 h;omega
  have z7:=a1.size
  have au:=Kj (O.out.kept a1)
  have ao:=Kj (a6.out.kept a1)
  have ad:=Kj (aj.out.kept a1)
  have av:Hid (Keep F w w7):=ae.out.kept a1
  clear a4 N a7 aX aG k5 HX O a6 aj ae b1 a1
  cases j:bitB T x.tr with
  | true=>
   have HB:=Kj j
   have ay:Hid (massL T (X.take (k+1)) I=(Mc.remove x.tr x.id).2.2):=by show _=_;rw [ab.out];unfold massS;rw [if_pos j]
   have aC:Hid (UZ T (X.take (k+1))=G++[x]):=by show _=_;rw [a3.out,if_pos j]
   clear j ab a3
   go_upto_region 5 with fail
   refine wA 6 [.int .u64 T,pV b7 0,iV x.tr,.int .u64 (shrU T x.tr),.int .u64 (bits .and .u64 (shrU T x.tr) 1),bV true] [15,16,17,18,19,20] (nS 2 (ldR a8.out 0) (nS 3 (sV rfl (fun a u E D hk=>exec_shrU _ _ _ _ T x.tr rfl (dD D 0) (dD D 2) h0)) (nS 4 (sV rfl (fun a u E D hk=>exec_andU _ _ _ _ (shrU T x.tr) 1 rfl (dD D 3) rfl)) (nS 5 (sV rfl (fun a u E D hk=>exec_eqU _ _ _ _ _ 1 true rfl (dD D 4) rfl HB.out)) nZ)))) ?_
   intro w8 U
   simp only [F8]
   have al:=Kj (JJ a8.out U)
   have af:=Kj (au.out.kept U)
   have a2:=Kj (ao.out.kept U)
   have ac:=Kj (ad.out.kept U)
   have ar:Hid (Keep F w w8):=av.out.kept U
   have z8:=U.size
   clear a8 au ao ad av U
   go_upto_region 6 with fail
   refine wAp 5 [pV p 0,pV b7 0,iV x.tr,pV b7 1,iV x.id] [21,22,23,24,25] (nS 2 (ldR al.out 0) (nS 4 (ldR al.out 1) nZ)) ?_
   intro w9 k9
   simp only [F8]
   refine cT Tryz.func41 [.pointer (some ⟨p,0,none⟩),.int .i64 x.tr,.int .i64 x.id] ?_
   refine (rmremove_any w9 F' p Mc x.tr x.id (af.out.kept k9) ai.out.inv (by omega)).mono ?_
   rintro r wa ⟨F2,rfl,aH,b4,aD⟩
   refine ⟨_,rfl,?_⟩
   simp only [Act.put,sA,sS,sZ]
   refine Kx ?_
   have z9:=k9.size
   have za:=aD.size
   have a5:Keep F' w8 wa:=Keep.any k9 aD
   have aZ:=Kj (QJ al.out a5 bg)
   have aR:=Kj (a2.out.keep a5 (fun b j=>(H.out b j).2.1))
   have aB:=Kj (ac.out.keep a5 (fun b j=>ah.out b j))
   have aq:Hid (Grow w8 F' F2):=b4.wide z9
   have b9:Hid (Grow w F F2):=aa.out.trans aq.out (by omega)
   have aF:Hid (Keep F w wa):=aa.out.keep ar.out a5
   have aS:Hid (∀ b,(Value.slice (some ⟨ga,oa,none⟩) J ca).ownBlock=some b→¬ F2 b):=fun b j h=>(aq.out b h).elim (ah.out b j) (fun h=>by have:=ac.out.lt j;omega)
   have a9:Hid (∀ b,s.ownBlock=some b→w.heap.size≤b∧¬ F2 b∧(Value.slice (some ⟨ga,oa,none⟩) J ca).ownBlock≠some b):=fun b j=>⟨(H.out b j).1,fun h=>(aq.out b h).elim (H.out b j).2.1 (fun h=>by have:=a2.out.lt j;omega),(H.out b j).2.2⟩
   have aE:=Kj aH
   clear aH b4 aD k9 a5 al af a2 ac ar aq H ah aa ai
   go_upto_region 7 with fail
   refine tAp 3 [.v (s),.v (x.v),.k (.sl wa.heap.size 35 9 1 x.cells)] (nS 1 (ldO aZ.out) (nS 2 (nV rfl (fun a u E D hk=>⟨_,_,VJ slO _ x.cells (by omega) rfl (dD D 1) (x.len9),(jY u 35 9 _ wa.heap.size (x.len9) (by omega) hk.size),((Keep.refl _ u).alloc _)⟩)) nZ)) ?_
   intro gv we hV am
   rw [dq 3 [27,28,29]]
   simp only [Fz7]
   rw [gQ hV 0 27 s]
   have ax:(.sl wa.heap.size 35 9 1 x.cells:Kn).p (gv 29) we:=hV 2 29 (by kernel_rfl)
   generalize gv 29=v29 at ax ⊢
   clear hV
   obtain ⟨v',wb,aI,aQ,aK,aw⟩:=QQ slO 43 we s v29 G.length 1 (ords G) x.cells (aR.out.kept am) ax.1 (Ord.one1 _) (by unfold maxLen;omega) (by omega)
   have zb1:=am.size
   have aM:∀ b,v'.ownBlock=some b→s.ownBlock=some b∨wa.heap.size≤b:=fun b j=>(aw b j).imp id (fun h=>by omega)
   refine Vj v' wb rfl (QV slO (.tmp 27) (.tmp 29) s v29 rfl (by kernel_rfl) (by kernel_rfl) v' wb aI) ?_
   refine aT (v') ?_
   simp only [Act.put,sA,sS,sZ]
   refine Kx ?_
   clear aI aw
   have ag:Keep (fun b=>s.ownBlock=some b) wa wb:=Keep.any am aK
   have be:Hid (RMk wb F2 p (massL T (X.take (k+1)) I)):=by rw [ay.out];exact Kj (aE.out.keep ag (fun b j h=>(a9.out b h).2.1 j))
   have bi:Hid (Sl wb 35 9 v' (UZ T (X.take (k+1))).length (ords (UZ T (X.take (k+1))))):=by rw [aC.out,JJz,List.length_append];exact Kj aQ
   have b6:=Kj (aB.out.keep ag (fun b j h=>(a9.out b h).2.2 j))
   have bh:Hid (Keep F w wb):=aF.out.trans ag (fun b j h=>by have:=(a9.out b h).1;omega)
   have ba:Hid (∀ b,v'.ownBlock=some b→w.heap.size≤b∧¬ F2 b∧(Value.slice (some ⟨ga,oa,none⟩) J ca).ownBlock≠some b):=fun b j=>(aM b j).elim (a9.out b) (fun h=>⟨by omega,fun h2=>by have:=aE.out.lt b h2;omega,fun h2=>by have:=aB.out.lt h2;omega⟩)
   clear aQ aK aM ag aE aR aB aF a9 aZ am
   go_wp2
   exact ⟨⟨k+1,F2,v',by omega,rfl,by go_num,be,bi,ba,b6,aS,b9,bh⟩,by simp [intOf];omega⟩
  | false=>
   have HB:=Kj j
   have ay:Hid (massL T (X.take (k+1)) I=Mc):=by show _=_;rw [ab.out];unfold massS;rw [j];rfl
   have aC:Hid (UZ T (X.take (k+1))=G):=by show _=_;rw [a3.out,j];simp
   clear j ab a3
   go_upto_region 5 with fail
   refine wA 6 [.int .u64 T,pV b7 0,iV x.tr,.int .u64 (shrU T x.tr),.int .u64 (bits .and .u64 (shrU T x.tr) 1),bV false] [15,16,17,18,19,20] (nS 2 (ldR a8.out 0) (nS 3 (sV rfl (fun a u E D hk=>exec_shrU _ _ _ _ T x.tr rfl (dD D 0) (dD D 2) h0)) (nS 4 (sV rfl (fun a u E D hk=>exec_andU _ _ _ _ (shrU T x.tr) 1 rfl (dD D 3) rfl)) (nS 5 (sV rfl (fun a u E D hk=>exec_eqU _ _ _ _ _ 1 false rfl (dD D 4) rfl HB.out)) nZ)))) ?_
   intro w8 U
   simp only [F8]
   have af:Hid (RMk w8 F' p (massL T (X.take (k+1)) I)):=by rw [ay.out];exact Kj (au.out.kept U)
   have a2:Hid (Sl w8 35 9 s (UZ T (X.take (k+1))).length (ords (UZ T (X.take (k+1))))):=by rw [aC.out];exact Kj (ao.out.kept U)
   have ac:=Kj (ad.out.kept U)
   have ar:Hid (Keep F w w8):=av.out.kept U
   clear a8 au ao ad av U
   go_wp2
   exact ⟨⟨k+1,F',s,by omega,rfl,by go_num,af,a2,H,ac,ah,aa,ar⟩,by simp [intOf];omega⟩
 have b2:k=X.length:=by rw [az.out];omega
 have HE:Hid (X.take k=X):=by show _=_;rw [b2,List.take_length]
 rw [HE.out] at O a6
 clear b2
 go_wp2
 go_ret
 exact ⟨F',s,rfl,O.out,a6.out,fun b j=>⟨(H.out b j).1,(H.out b j).2.1⟩,aa.out,ae.out⟩
def RAmdIn (w:World) (F:Nat→Prop) (p:Nat) (x:List Ot × Int × Mkt) (r:Ending) (w':World):Prop:=
 ∃ F' v Z,r=.returned (.tuple #[v,.int .i64 x.2.1])∧RMk w' F' p x.2.2∧Outs w' w.heap.size F' v x.1 Z∧Grow w F F'∧Keep F w w'
theorem rmless_at (w:World) (p q:Nat) (v:Value) (I:Nat→Prop) (H:Mkt) (t i n:Int) (j:RkP w p q v I H) (hI:Inv H.b):Calls Tryz.prog 40 #[.pointer (some ⟨q,0,none⟩),.int .i64 t,.int .i64 i,.int .i64 n] w fun r w'=>∃ F',r=.returned (.bool (H.less t i n).1)∧RMk w' F' p (H.less t i n).2∧Grow w (foot p v I) F'∧Keep (foot p v I) w w':=by
 refine (rbless_any w I q H.b t i n j.bk hI).mono ?_
 rintro r w' ⟨N,rfl,h1,U,h3⟩
 have hpl:=j.blk.lt
 have O:¬ N p:=fun h=>(U p h).elim j.nb (fun h=>by omega)
 have hv:∀ b,v.ownBlock=some b→b≠p∧¬ N b:=fun b D=>⟨(j.nv b D).1,fun h=>(U b h).elim (j.nv b D).2 (fun h=>by have:=j.sl.lt D;omega)⟩
 have J:RkP w' p q v N (H.less t i n).2:=⟨j.blk.keep h3 j.nb,h1,j.sl.keep h3 (fun b D=>(j.nv b D).2),O,hv⟩
 exact ⟨_,rfl,J.close,fun b D=>D.elim (fun h=>.inl (.inl h)) (fun h=>(U b h).imp .inr id),h3.mono (fun b _ D=>.inr D)⟩
theorem show_same (s n:Int) (h:0≤s):mn s (mx n 0)=mx 0 (mn s n):=by
 unfold mn mx
 split <;> split <;> omega
theorem chg_ref (y:Ord) (p n:Int) (h:0≤y.shw):stc (((y.l.set 5 p).set 6 n).set 7 (mn y.shw (mx n 0))) []=(y.chg p n).cells:=by
 rw [show_same _ _ h]
 rfl
theorem rmamend_any (w:World) (F:Nat→Prop) (p:Nat) (H:Mkt) (t i pr n:Int) (h:RMk w F p H) (hI:InvK H) (b0:Quiet H) (hno:H.b.no≤800000000000):Calls Tryz.prog 11 #[.pointer (some ⟨p,0,none⟩),.int .i64 t,.int .i64 i,.int .i64 pr,.int .i64 n] w (RAmdIn w F p (H.amend t i pr n)):=by
 have aW:=h.lt
 have HM:=Kj h
 have HI:=Kj hI
 have hwl:H.w.length≤64:=by have:=hI.few;omega
 have aR:=Kj (hI.remove t i)
 have bd:=Kj (quiet_out b0 t i)
 obtain ⟨y,b,hy⟩:∃ y b,H.find t i=(y,b):=⟨_,_,rfl⟩
 have bo:Hid (b=true→0≤y.shw):=fun I=>by
  obtain ⟨k,hk,_⟩:=find_mem (M:=H) (t:=t) (i:=i) (by rw [hy];exact I)
  rw [hy] at hk
  exact (hI.fair y (List.mem_of_getElem? hk)).shw0
 obtain ⟨c,hc⟩:∃ c,y.chg pr n=c:=⟨_,rfl⟩
 have HA:Hid (H.amend t i pr n=if b=false then ([],6,H) else if c.right=false then ([],1,H) else if pr=y.price∧(H.less t i n).1=true then ([],0,(H.less t i n).2) else ((H.back t i c).1,0,(H.back t i c).2)):=by
  show _=_
  unfold Mkt.amend
  rw [hy,hc]
 have HY:=Kj hy
 have bb:Hid (c.qty=n):=by show _=_;rw [← hc];rfl
 have bf:=Kj hc
 clear h hI hy hc b0
 go_enter Tryz.func11,Tryz.ntmps11
 go_upto_region 1 with fail
 refine wAp 7 [pV p 0,iV t,iV i,.tuple #[y.v,.bool b],.tuple #[y.v,.bool b],y.v,bV b] [16,17,18,19,15,20,21] (nS 3 (cV Tryz.func39 (fun u hk=>(by have h:=rmfind_any u F p H t i (HM.out.kept hk) HI.out.inv (by omega);rw [HY.out] at h;exact h))) nZ) ?_
 intro w1 k1
 simp only [F8]
 refine nT zO ?_
 intro w2 ab b5
 refine sO y (ab) ?_
 intro w3 U ac aH
 refine aT (.bool b) ?_
 simp only [Act.put,sA,sS,sZ]
 refine Kx ?_
 obtain ⟨a2,bh⟩:∃ a,w1.heap.size=a:=⟨_,rfl⟩
 rw [bh] at ab U ac ⊢
 have z1:=k1.size
 have a3:Kept w w3:=(k1.trans b5).trans' ac (by omega)
 have ao:=Kj (JX U)
 have l12:=U.lt
 have ax:=Kj (HM.out.kept a3)
 clear ab U ac aH b5 k1 HM
 cases b with
 | false=>
  have HR:Hid (H.amend t i pr n=([],6,H)):=by show _=_;rw [HA.out,if_pos rfl]
  clear HA
  go_wp2
  go_ret2
  rw [HR.out]
  exact ⟨F,_,[],rfl,ax.out,outs_nil _ _ _,Grow.refl _ _,a3.mono (fun _ _ h=>h.elim)⟩
 | true=>
  have bi:=bo.out rfl
  go_upto_region 4 with fail
  refine wAp 1 [y.v] [24] (nS 0 (ldO ao.out) nZ) ?_
  intro w4 k4
  simp only [F8]
  refine nT zO ?_
  intro w5 a7 aL
  refine sO y (a7) ?_
  intro w6 a1 ae b3
  simp only [Act.put,sA,sS,sZ]
  refine Kx ?_
  obtain ⟨J,bn⟩:∃ a,w4.heap.size=a:=⟨_,rfl⟩
  rw [bn] at a7 a1 ae ⊢
  have z4:=k4.size
  have z3:=a3.size
  have ak:Kept w3 w6:=(k4.trans aL).trans' ae (by omega)
  have aZ:=Kj a1
  have l14:=a1.lt
  have a8:¬ F J:=fun h=>by have:=aW J h;omega
  have b2:a2≠J:=by omega
  have aD:=Kj (JJ ao.out ak)
  have b4:=Kj (ax.out.kept ak)
  have aC:=a3.trans ak
  have hFw6:∀ b,F b→b<w3.heap.size:=fun b I=>by have:=aW b I;omega
  clear a7 a1 ae b3 aL k4 ak a3 ao ax
  go_upto_region 5 with fail
  refine wAp 3 [iV pr,iV n,pV J 5] [25,26,27] nZ ?_
  intro w7 k7
  simp only [F8]
  refine xy J 5 35 y.l [] pr _ _ rfl rfl (by kernel_rfl) (by kernel_rfl) (aZ.out.kept k7) (by simp [Ord.l]) ?_
  intro w8 b6 aY b8
  refine aT (.pointer (some ⟨J,6,none⟩)) ?_
  refine xy J 6 35 (y.l.set 5 pr) [] n _ _ rfl rfl (by kernel_rfl) (by kernel_rfl) b6 (by simp [Ord.l]) ?_
  intro w9 aI ai bc
  simp only [Act.put,sA,sS,sZ]
  refine Kx ?_
  have aa:Keep (·=J) w6 w9:=(Keep.any k7 aY).trans ai (fun _ _ h=>h)
  have aE:=Kj aI
  have ay:=Kj (QJ aD.out aa (fun e=>b2 e))
  have aM:=Kj (b4.out.keep aa (fun b I e=>a8 (by rw [← e];exact I)))
  have aG:Kept w w9:=aC.trans' aa (by omega)
  have z9:=aa.size
  clear b6 aY b8 aI ai bc k7 aa aZ aD b4 aC
  go_upto_region 6 with fail
  refine wAp 6 [pV a2 7,iV y.shw,iV n,iV (mx n 0),iV (mn (y.shw) ((mx n 0))),pV J 7] [29,30,31,32,33,34] (nS 1 (ldR ay.out 7) (nS 3 (sV rfl (fun a u E D hk=>exec_mx _ _ _ n 0 rfl (dD D 2) rfl)) (nS 4 (sV rfl (fun a u E D hk=>jW _ _ _ (y.shw) ((mx n 0)) (mn (y.shw) ((mx n 0))) rfl (dD D 1) (dD D 3) rfl)) nZ))) ?_
  intro wa ka
  simp only [F8]
  refine xy J 7 35 ((y.l.set 5 pr).set 6 n) [] (mn y.shw (mx n 0)) _ _ rfl rfl (by kernel_rfl) (by kernel_rfl) (aE.out.kept ka) (by simp [Ord.l]) ?_
  intro wb ar aJ bl
  simp only [Act.put]
  refine Kx ?_
  rw [chg_ref y pr n bi,bf.out] at ar
  have a5:Keep (·=J) w9 wb:=Keep.any ka aJ
  have a4:=Kj (JX ar)
  have am:=Kj (QJ ay.out a5 (fun e=>b2 e))
  have ah:=Kj (aM.out.keep a5 (fun b I e=>a8 (by rw [← e];exact I)))
  have al:Kept w wb:=aG.trans' a5 (by omega)
  have zb:=a5.size
  clear ar aJ bl ka a5 aE ay aM aG
  obtain ⟨e,he⟩:∃ e,c.err=e:=⟨_,rfl⟩
  have HE:=Kj he
  cases N:c.right with
  | false=>
   have aq:e=1:=by rw [← he];unfold Ord.err;rw [N];rfl
   subst aq
   have HR:Hid (H.amend t i pr n=([],1,H)):=by show _=_;rw [HA.out,if_neg (by decide),if_pos N]
   clear HA he N
   go_upto_region 7 with fail
   refine wA 3 [c.v,iV 1,bV true] [35,36,37] (nS 0 (ldO a4.out) (nS 1 (cV Tryz.func27 (fun u hk=>(by rw [← HE.out];exact JJx c u))) (nS 2 (aV rfl (fun a u E D hk=>Xj rfl (dD D 1) rfl) (by decide)) nZ))) ?_
   intro wc kc
   simp only [F8]
   have af:=al.trans kc
   have a6:=Kj (ah.out.kept kc)
   clear ah am a4 al kc
   go_wp2
   go_ret2
   rw [HR.out]
   exact ⟨F,_,[],rfl,a6.out,outs_nil _ _ _,Grow.refl _ _,af.mono (fun _ _ h=>h.elim)⟩
  | true=>
   have aq:e=0:=by rw [← he];unfold Ord.err;rw [N];rfl
   subst aq
   have bs:1≤n:=by have:=(JJJ N).1;rw [bb.out] at this;exact this
   have ad:=Kj (less_ref HI.out HY.out bs)
   have aj:Hid (H.amend t i pr n=if pr=y.price∧(H.less t i n).1=true then ([],0,(H.less t i n).2) else ((H.back t i c).1,0,(H.back t i c).2)):=by show _=_;rw [HA.out,if_neg (by decide),if_neg (by rw [N];decide)]
   clear HA he N
   go_upto_region 7 with fail
   refine wA 3 [c.v,iV 0,bV false] [35,36,37] (nS 0 (ldO a4.out) (nS 1 (cV Tryz.func27 (fun u hk=>(by rw [← HE.out];exact JJx c u))) (nS 2 (aV rfl (fun a u E D hk=>Xj rfl (dD D 1) rfl) (by decide)) nZ))) ?_
   intro wc kc
   simp only [F8]
   have af:=al.trans kc
   have a6:=Kj (ah.out.kept kc)
   have av:=Kj (JJ am.out kc)
   have aQ:=Kj (JJ a4.out kc)
   have zc:=kc.size
   clear ah am a4 al kc
   obtain ⟨aK,q,v,Fb,hP,aN⟩:=a6.out
   have ag:=Kj hP
   have az:=Kj aN
   obtain ⟨j,hj⟩:∃ j,Vq (Ord.is t i) H.w=j:=⟨_,rfl⟩
   have HJ:=Kj hj
   rw [hj] at ad
   obtain ⟨g,hg⟩:∃ g,((decide (j<0) && decide (pr=y.price)) && decide (n≤y.qty))=g:=⟨_,rfl⟩
   have HG:=Kj hg
   clear hP aN hj aK hg
   go_upto_region 9 with fail
   refine tA 17 [pK p 0,iK t,iK i,iK j,bK (decide ((j:Int)<(0:Int))),bK (decide ((j:Int)<(0:Int))),.k (.cond (decide ((j:Int)<(0:Int))) (iE pr)),.k (.cond (decide ((j:Int)<(0:Int))) (pE a2 5)),.k (.cond (decide ((j:Int)<(0:Int))) (iE y.price)),.k (.cond (decide ((j:Int)<(0:Int))) (bE (decide ((pr:Int)=(y.price:Int))))),bK ((decide ((j:Int)<(0:Int))) && (decide ((pr:Int)=(y.price:Int)))),bK ((decide ((j:Int)<(0:Int))) && (decide ((pr:Int)=(y.price:Int)))),.k (.cond ((decide ((j:Int)<(0:Int))) && (decide ((pr:Int)=(y.price:Int)))) (iE n)),.k (.cond ((decide ((j:Int)<(0:Int))) && (decide ((pr:Int)=(y.price:Int)))) (pE a2 6)),.k (.cond ((decide ((j:Int)<(0:Int))) && (decide ((pr:Int)=(y.price:Int)))) (iE y.qty)),.k (.cond ((decide ((j:Int)<(0:Int))) && (decide ((pr:Int)=(y.price:Int)))) (bE (decide ((n:Int)≤(y.qty:Int))))),bK (((decide ((j:Int)<(0:Int))) && (decide ((pr:Int)=(y.price:Int)))) && (decide ((n:Int)≤(y.qty:Int))))] [38,39,40,41,42,43,44,45,46,47,48,49,50,51,52,53,54] (nS 3 (cV Tryz.func28 (fun u hk=>(by rw [← HJ.out];exact rwaits_any u p q v H.w t i (ag.out.blk.kept hk) (ag.out.sl.kept hk) (by omega)))) (nS 4 (sV rfl (fun a u E D hk=>YU rfl (dD D 3) rfl)) (nS 6 (fS (iC 7 5 rfl (fun a u E D hk I=>Jq _ _ rfl (eE E)) fz)) (nS 7 (fS (iC 8 5 rfl (fun a u E D hk I=>Jz 35 5 5 _ (a2) (0) (5) rfl (eE E) (by kernel_rfl) rfl) fz)) (nS 8 (fS (iC 9 5 rfl (fun a u E D hk I=>JZ _ Tryz.underlying3 _ _ _ rfl ((D 7 45 (by kernel_rfl)).1 I) (Xx (JJ av.out hk) 5 _ rfl)) fz)) (nS 9 (fS (iC 10 5 rfl (fun a u E D hk I=>JY rfl ((D 6 44 (by kernel_rfl)).1 I) ((D 8 46 (by kernel_rfl)).1 I)) fz)) (nS 10 (sV rfl (fun a u E D hk=>Qj _ _ _ ((decide ((j:Int)<(0:Int)))) ((decide ((pr:Int)=(y.price:Int)))) rfl (dD D 5) (fun aA=>((D 9 47 (by kernel_rfl)).1 aA)) rfl)) (nS 12 (fS (iC 13 11 rfl (fun a u E D hk I=>Jq _ _ rfl (eE E)) fz)) (nS 13 (fS (iC 14 11 rfl (fun a u E D hk I=>Jz 35 6 6 _ (a2) (0) (6) rfl (eE E) (by kernel_rfl) rfl) fz)) (nS 14 (fS (iC 15 11 rfl (fun a u E D hk I=>JZ _ Tryz.underlying3 _ _ _ rfl ((D 13 51 (by kernel_rfl)).1 I) (Xx (JJ av.out hk) 6 _ rfl)) fz)) (nS 15 (fS (iC 16 11 rfl (fun a u E D hk I=>exec_len_ rfl ((D 12 50 (by kernel_rfl)).1 I) ((D 14 52 (by kernel_rfl)).1 I)) fz)) (nS 16 (sV rfl (fun a u E D hk=>Qj _ _ _ (((decide ((j:Int)<(0:Int))) && (decide ((pr:Int)=(y.price:Int))))) ((decide ((n:Int)≤(y.qty:Int)))) rfl (dD D 11) (fun aA=>((D 15 53 (by kernel_rfl)).1 aA)) rfl)) nZ)))))))))))) ?_
   intro gv wd hV kd
   simp only [Fz7]
   rw [gQ hV 16 54 (.bool (((decide ((j:Int)<(0:Int))) && (decide ((pr:Int)=(y.price:Int)))) && (decide ((n:Int)≤(y.qty:Int)))))]
   clear hV
   rw [HG.out]
   have au:=af.trans kd
   have aw:=Kj (ag.out.kept kd)
   have aB:=Kj (a6.out.kept kd)
   have aS:=Kj (JJ aQ.out kd)
   have zd:=kd.size
   have zw:=au.size
   clear ag a6 av aQ af kd
   cases g with
   | true=>
    have a9:=HG.out
    simp only [Bool.and_eq_true,decide_eq_true_eq] at a9
    have HR:Hid (H.amend t i pr n=([],0,(H.less t i n).2)):=by
     show _=_
     have hl:(H.less t i n).1=true:=by rw [ad.out,Ky a9.1.1,Ky a9.2];rfl
     rw [aj.out,if_pos ⟨a9.1.2,hl⟩]
    have HV:Hid (wd.cell? ⟨p,0,none⟩=some (.pointer (some ⟨q,0,none⟩))):=aw.out.blk.cell 0
    clear aj a9 ad
    go_upto_region 10 with fail
    refine wAp 7 [pV p 0,pV p 0,pV p 0,pV q 0,iV t,iV i,iV n] [55,56,57,58,59,60,61] (nS 3 (ldC HV.out) nZ) ?_
    intro we ke
    simp only [F8]
    refine cT Tryz.func40 [.pointer (some ⟨q,0,none⟩),.int .i64 t,.int .i64 i,.int .i64 n] ?_
    refine (rmless_at we p q v Fb H t i n (aw.out.kept ke) HI.out.inv).mono ?_
    rintro r wf ⟨F9,rfl,bu,bp,ai⟩
    refine ⟨_,rfl,?_⟩
    simp only [Act.put,sA,sS,sZ]
    refine Kx ?_
    have ze:=ke.size
    have bq:Grow w F F9:=fun b I=>(bp b I).imp (az.out b) (fun h=>by omega)
    have be:Keep F w wf:=(Keep.any (au.trans ke) ai).mono (fun b _ I=>az.out b I)
    go_wp2
    go_ret2
    rw [HR.out]
    exact ⟨F9,_,[],rfl,bu,outs_nil _ _ _,bq,be⟩
   | false=>
    have HR:Hid (H.amend t i pr n=(((H.remove t i).2.2.add c).1,0,((H.remove t i).2.2.add c).2)):=by
     show _=_
     rw [aj.out,if_neg ?_]
     ·rfl
     intro hh
     have h1:=hh.2
     rw [ad.out] at h1
     have h2:=HG.out
     rw [Ky hh.1,Bool.and_true] at h2
     rw [h2] at h1
     cases h1
    clear aj ad aw az
    go_upto_region 12 with fail
    refine wAp 3 [pV p 0,iV t,iV i] [63,64,65] nZ ?_
    intro we ke
    simp only [F8]
    refine cT Tryz.func41 [.pointer (some ⟨p,0,none⟩),.int .i64 t,.int .i64 i] ?_
    refine (rmremove_any we F p H t i (aB.out.kept ke) HI.out.inv (by omega)).mono ?_
    rintro r wf ⟨Fe,rfl,aX,aF,b1⟩
    refine ⟨_,rfl,?_⟩
    simp only [Act.put,sA,sS,sZ]
    refine Kx ?_
    have ze:=ke.size
    have an:Keep F wd wf:=Keep.any ke b1
    have bj:=Kj (QJ aS.out an a8)
    have aO:Hid (Grow w F Fe):=aF.wide (by omega)
    have aU:Hid (Keep F w wf):=Keep.any au an
    have b7:=Kj aX
    clear aX aF b1 ke an aB aS
    go_upto_region 13 with fail
    refine wAp 2 [pV p 0,c.v] [67,68] (nS 1 (ldO bj.out) nZ) ?_
    intro wg kg
    simp only [F8]
    refine cT Tryz.func9 [.pointer (some ⟨p,0,none⟩),c.v] ?_
    refine (rmadd_any wg Fe p (H.remove t i).2.2 c (b7.out.kept kg) aR.out.1 bd.out (by have:=aR.out.2;omega)).mono ?_
    rintro r wh ⟨Fg,vz,Zg,rfl,bt,O,bm,ba⟩
    refine ⟨_,rfl,?_⟩
    refine aT (vz) ?_
    refine aT (.int .i64 0) ?_
    simp only [Act.put,sA,sS,sZ]
    refine Kx ?_
    have zg:=kg.size
    have zf:=aU.out.size
    have b9:Grow w F Fg:=aO.out.trans (bm.wide zg) zf
    have bg:Keep F w wh:=aO.out.keep aU.out (Keep.any kg ba)
    have br:Outs wh w.heap.size Fg vz ((H.remove t i).2.2.add c).1 Zg:=⟨O.eq,O.sl,fun b I=>⟨by have:=(O.own b I).1;omega,(O.own b I).2⟩,O.fl,fun z hz b I=>⟨by have:=(O.flo z hz b I).1;omega,(O.flo z hz b I).2⟩⟩
    go_wp2
    go_ret2
    rw [HR.out]
    exact ⟨Fg,vz,Zg,rfl,bt,br,b9,bg⟩

structure Twin (w0 wr:World) (p r:Nat) (F G:Nat→Prop) (M C:Mkt):Prop where
 x:Mk wr F p M
 y:RMk wr G r C
 fg:∀ c,F c→¬ G c
 f0:∀ c,F c→w0.heap.size≤c
 g0:∀ c,G c→w0.heap.size≤c
 k:Kept w0 wr
section
variable {w0 wr w':World} {p r:Nat} {F F' G G':Nat→Prop} {M M' C C':Mkt}
theorem Twin.kept (h:Twin w0 wr p r F G M C) (hk:Kept wr w'):Twin w0 w' p r F G M C:=⟨h.x.kept hk,h.y.kept hk,h.fg,h.f0,h.g0,h.k.trans hk⟩
theorem Twin.stepX (h:Twin w0 wr p r F G M C) (hx:Mk w' F' p M') (J:Grow wr F F') (hk:Keep F wr w'):Twin w0 w' p r F' G M' C:=by
 have hs:=h.k.size
 refine ⟨hx,h.y.keep hk (fun c H j=>h.fg c j H),fun c j I=>?_,fun c j=>?_,h.g0,Keep.trans h.k hk (fun c H j=>by have:=h.f0 c j;omega)⟩
 ·rcases J c j with D | D
  ·exact h.fg c D I
  have:=h.y.lt c I;omega
 rcases J c j with D | D
 ·exact h.f0 c D
 omega
theorem Twin.stepY (h:Twin w0 wr p r F G M C) (N:RMk w' G' r C') (J:Grow wr G G') (hk:Keep G wr w'):Twin w0 w' p r F G' M C':=by
 have hs:=h.k.size
 refine ⟨h.x.keep hk (fun c I j=>h.fg c I j),N,fun c H j=>?_,h.f0,fun c j=>?_,Keep.trans h.k hk (fun c I j=>by have:=h.g0 c j;omega)⟩
 ·rcases J c j with D | D
  ·exact h.fg c H D
  have:=h.x.lt c H;omega
 rcases J c j with D | D
 ·exact h.g0 c D
 omega
end
structure Beside (w:World) (F G:Nat→Prop) (g:Nat) (T:TypeId) (cs:List Value):Prop where
 blk:Blk w g T cs
 nf:¬ F g
 ng:¬ G g
section
variable {w w':World} {F F' G G':Nat→Prop} {g:Nat} {T:TypeId} {cs:List Value}
theorem Beside.kept (h:Beside w F G g T cs) (hk:Kept w w'):Beside w' F G g T cs:=⟨h.blk.kept hk,h.nf,h.ng⟩
theorem Beside.stepX (h:Beside w F G g T cs) (j:Grow w F F') (hk:Keep F w w'):Beside w' F' G g T cs:=⟨h.blk.keep hk h.nf,fun e=>(j g e).elim h.nf (fun e=>by have:=h.blk.lt;omega),h.ng⟩
theorem Beside.stepY (h:Beside w F G g T cs) (j:Grow w G G') (hk:Keep G w w'):Beside w' F G' g T cs:=⟨h.blk.keep hk h.ng,h.nf,fun e=>(j g e).elim h.ng (fun e=>by have:=h.blk.lt;omega)⟩
end
theorem enter_fills {B:Bok} {o:Ord} (h:Inv B):(B.enter o).1.f.length≤1000000+48576:=by
 show (B.add o.free).1.f.length≤_
 by_cases he:B.err o.free=0
 ·have j:=add_is h he
  have h1:=j.few
  have h2:=JJJ j.rt
  rw [j.oc]
  simp only
  omega
 rw [yj he]
 simp
theorem cas_fills:∀ (n:Nat) (M:Mkt),M.w.length≤n→InvK M→∀ x ∈ M.cas.1,x.c.f.length≤2000000
 | 0,M,hn,h=>by
  rw [WZ (List.getElem?_eq_none (by omega))]
  intro x hx
  cases hx
 | n+1,M,hn,h=>by
  cases e:M.w[M.trig]? with
  | none=>rw [WZ e];intro x hx;cases hx
  | some o=>
   rw [cas_some e]
   have j:=(List.getElem?_eq_some_iff.1 e).1
   have hle:(M.next o).w.length=M.w.length-1:=by unfold Mkt.next;simp only;rw [List.length_eraseIdx,if_pos j]
   intro x hx
   rcases List.mem_cons.1 hx with rfl | hx
   ·have:=enter_fills (o:=o) h.inv
    simp only
    omega
   exact cas_fills n (M.next o) (by omega) (h.next e) x hx
theorem add_fills {M:Mkt} (h:InvK M) (o:Ord):(∀ x ∈ (M.add o).1,x.c.f.length≤2000000)∧(M.add o).1.length≤1000000:=by
 have j:(M.arrive o).1.c.f.length≤2000000:=by
  unfold Mkt.arrive
  split
  ·simp
  split
  ·simp
  have:=enter_fills (o:=o) h.inv
  simp only
  omega
 have D:=h.arrive o
 have hf:=D.few
 unfold Mkt.add
 split
 ·exact ⟨fun x hx=>by simp at hx;rw [hx];exact j,by simp⟩
 refine ⟨fun x hx=>?_,?_⟩
 ·rcases List.mem_cons.1 hx with rfl | hx
  ·exact j
  exact cas_fills _ _ (Nat.le_refl _) D x hx
 have:=cas_len _ (M.arrive o).2 (Nat.le_refl _)
 simp only [List.length_cons]
 omega
theorem remove_last (B:Bok) (t i:Int):(B.remove t i).2.2.last=B.last:=by
 unfold Bok.remove
 split
 ·rfl
 split <;> rfl
theorem Quiet.remove {M:Mkt} (h:Quiet M) (t i:Int):Quiet (M.remove t i).2.2:=by
 unfold Mkt.remove
 by_cases hb:(M.b.remove t i).2.1=true
 ·rw [if_pos hb]
  intro o j
  show o.hit (M.b.remove t i).2.2.last=false
  rw [remove_last]
  exact h o j
 rw [if_neg hb]
 cases e:M.w[M.w.findIdx (Ord.is t i)]? with
 | none=>exact h
 | some o=>exact fun x hx=>h x (List.mem_of_mem_eraseIdx hx)
theorem Quiet.zero:Quiet Mkt.zero:=fun o j=>by cases j
theorem exec_convU {a:Act} {o:Oper} {u:World} (x:Operand) (t':TypeId) (p T:Int) (j:o.op=.convert 3 t' x) (hx:a.eval x=.int .i64 p) (D:IntKind.u64.wrap p=T) (H:Tryz.prog.underlying t'=some (.int .u64):=by kernel_rfl):(execOp a.eval o).run Tryz.prog u=.ok (.value (.int .u64 T)) u:=by
 subst D
 unfold execOp
 simp only [j,hx]
 simp [go_sem,H,Tryz.underlying3]
theorem Quiet.less {M:Mkt} (h:Quiet M) (t i n:Int):Quiet (M.less t i n).2:=by
 have e:(M.b.less t i n).2.last=M.b.last:=by
  unfold Bok.less
  split
  ·rfl
  split <;> rfl
 intro o j
 show o.hit (M.b.less t i n).2.last=false
 rw [e]
 exact h o j
theorem Quiet.amend {M:Mkt} (h:Quiet M) (t i p n:Int):Quiet (M.amend t i p n).2.2:=by
 unfold Mkt.amend
 split
 ·exact h
 split
 ·exact h
 split
 ·exact h.less t i n
 exact (Quiet.remove h t i).add _
theorem Quiet.massL (T:Int):∀ (X:List Ord) {M:Mkt},Quiet M→Quiet (Go.Proofs.YtklohceombpleaaGreat.massL T X M)
 | [],M,h=>h
 | o::X,M,h=>by
  have j:Quiet (massS T M o):=by
   unfold massS
   split
   ·exact Quiet.remove h _ _
   exact h
  exact Quiet.massL T X j
theorem amend_fills {M:Mkt} (h:InvK M) (t i p n:Int):(∀ x ∈ (M.amend t i p n).1,x.c.f.length≤2000000)∧(M.amend t i p n).1.length≤1000000:=by
 unfold Mkt.amend
 split
 ·simp
 split
 ·simp
 split
 ·simp
 exact add_fills (h.remove t i).1 _
theorem rmamend_at (w:World) (F:Nat→Prop) (p:Nat) (M:Mkt) (t i pr n:Int) (x:List Ot × Int × Mkt) (hx:M.amend t i pr n=x) (h:RMk w F p M) (H:InvK M) (D:Quiet M) (j:M.b.no≤800000000000):Calls Tryz.prog 11 #[.pointer (some ⟨p,0,none⟩),.int .i64 t,.int .i64 i,.int .i64 pr,.int .i64 n] w (RAmdIn w F p x):=by
 rw [← hx]
 exact rmamend_any w F p M t i pr n h H D j
theorem changePlays_any (v:Value) (l:List Cq) (w:World) (hl:Cqs w v l):Calls Tryz.prog 3 #[v] w fun e w'=>e=.returned (.bool true)∧Kept w w':=by
 have HA:=Kj hl
 obtain ⟨A,n,c,rfl,hn,hm⟩:∃ A n c,v=.slice A n c∧l.length=n∧n≤maxLen:=by
  obtain ⟨A,n,c,h1,h2,_,h3,_⟩:=hl
  exact ⟨A,n,c,h1,h2,h3⟩
 clear hl
 unfold maxLen at hm
 have HN:=Kj hn
 clear hn
 go_enter Tryz.func3,Tryz.ntmps3
 go_upto_region 1 with fail
 refine wp_region_lit ?_
 refine cT Tryz.func4 [] ?_
 refine (mnew_any w).mono ?_
 rintro r0 w1 ⟨p,F0,rfl,aK,b7,k1⟩
 refine ⟨_,rfl,?_⟩
 refine cT Tryz.func5 [] ?_
 refine (rmnew_any w1).mono ?_
 rintro r0 w2 ⟨r,G0,rfl,bc,aO,k2⟩
 refine ⟨_,rfl,?_⟩
 refine aT (.pointer (some ⟨p,0,none⟩)) ?_
 refine aT (.pointer (some ⟨r,0,none⟩)) ?_
 simp only [Act.put,sA,sS,sZ]
 refine Kx ?_
 have b1:Hid (Twin w w2 p r F0 G0 Mkt.zero Mkt.zero):=by
  have z1:=k1.size
  refine ⟨aK.kept k2,bc,fun c hc hd=>?_,fun c hc=>(b7 c hc).elim (fun h=>h.elim) id,fun c hc=>(aO c hc).elim (fun h=>h.elim) (fun h=>by omega),k1.trans k2⟩
  have h1:=aK.lt c hc
  exact (aO c hd).elim (fun h=>h.elim) (fun h=>by omega)
 clear aK b7 k1 bc aO k2
 go_upto_region 2 with fail
 refine wA 2 [pV p 0,bV false] [14,15] (nS 1 (sV rfl (fun a u E D hk=>exec_eqP _ _ _ ⟨p,0,none⟩ (by kernel_rfl) rfl (dD D 0))) nZ) ?_
 intro wz kz
 simp only [F8]
 have aU:=Kj (b1.out.kept kz)
 clear b1 kz
 go_wp2_with fail
 go_loopw [5] (fun t wr=>∃ (i:Nat) (F G:Nat→Prop) (M:Mkt),t=.int .i64 (i:Int)∧i≤60∧i≤n∧Hid (Twin w wr p r F G M M)∧Hid (InvK M)∧Hid (Quiet M)∧Hid (M.b.no≤70000000*(i:Int))) (fun t _=>60-(intOf t).toNat)
 case atStart=>exact ⟨0,F0,G0,Mkt.zero,rfl,by omega,by omega,aU,InvK.zero,Quiet.zero,by show _≤_;simp [Mkt.zero,Bok.zero]⟩
 obtain ⟨i,F,G,M,rfl,hi,hin,HD,HI,am,an⟩:=hrel
 by_cases hlt:i<n∧i<60
 ·obtain ⟨aE,hi60⟩:=hlt
  have bo:i<l.length:=by rw [HN.out];exact aE
  obtain ⟨q,hq⟩:∃ q,l[i]?=some q:=⟨_,List.getElem?_eq_getElem bo⟩
  obtain ⟨A',n',c',e1,_,_,_,h4⟩:=HA.out
  injection e1 with e1 e2 e3
  subst e1 e2 e3
  obtain ⟨gl,off,rfl,hr⟩:=h4 i q hq
  have HE:=Kj (JJ hr HD.out.k)
  have b0:Hid (M.b.no≤900000000000):=by show _≤_;have:=an.out;omega
  clear h4 hr hq bo
  go_upto_region 7 with fail
  refine tAp 5 [.v (.slice (some ⟨gl,off,none⟩) n c),iK (i:Int),pK gl (off+i*12),.v (q.v),.k (.fresh wr.heap.size 30 zeroCq.cells)] (nS 2 (ixV slCq (off) n i ((i:Int)) (aE)) (nS 3 (ldS Tryz.underlying30 (fun u hk=>JJ HE.out hk) (by rw [q.len12];exact szCq)) (nS 4 (nV rfl (fun a u E D hk=>⟨_,_,QX 30 zeroCq.cells rfl zCq,⟨_,rfl,hk.size,Blk.new u _ _⟩,((Keep.refl _ u).alloc _)⟩)) nZ))) ?_
  intro gv w3 hV k3
  rw [dq 5 [26,27,28,29,6]]
  simp only [Fz7]
  have bj:(.fresh wr.heap.size 30 zeroCq.cells:Kn).p (gv 6) w3:=hV 4 6 (by kernel_rfl)
  generalize gv 6=v6 at bj ⊢
  rw [gQ hV 3 29 q.v]
  clear hV
  obtain ⟨j,rfl,hg6,bs⟩:=bj
  refine YV 30 j 30 zeroCq.cells q.cells _ _ rfl rfl (by kernel_rfl) (by kernel_rfl) bs (by rw [Cq.len12];exact szCq) (by rw [Cq.len12,Cq.len12]) (Cq.one _) ?_
  intro w4 bh N bt
  simp only [Act.put]
  refine Kx ?_
  have bp:Kept wr w4:=k3.trans' N (by omega)
  have bl:=Kj (HD.out.kept bp)
  have aN:Hid (Beside w4 F G j 30 q.cells):=⟨bh,fun h=>by have:=HD.out.x.lt j h;omega,fun h=>by have:=HD.out.y.lt j h;omega⟩
  have b4:=an
  clear bs bh N bt k3 bp HD HE an
  have an:=b0
  clear b0
  go_upto_region 9 with fail
  have aI:=Kj (JX aN.out.blk)
  refine wA 2 [pV j 0,iV q.k] [30,31] (nS 1 (ldR aI.out 0) nZ) ?_
  intro w5 k5
  simp only [F8]
  have aa:=Kj (bl.out.kept k5)
  have a9:=Kj (aN.out.kept k5)
  clear bl aN aI k5
  go_upto_block 2 with fail
  go_cut [7,8,9,10,11,32,45,81] (fun ok _ _ _ _ _ _ _ wx=>ok=.bool true∧∃ F' G' M',Hid (Twin w wx p r F' G' M' M')∧Hid (InvK M')∧Hid (Quiet M')∧Hid (M'.b.no≤M.b.no+70000000)∧Hid (Beside wx F' G' j 30 q.cells))
  case first=>
   by_cases hk1:q.k=1
   ·skip
    go_upto_region 10 with fail
    refine wA 2 [bV true,bV true] [33,32] (nS 0 (aV rfl (fun a u E D hk=>JY (p:=q.k) (q:=1) rfl (eE E) rfl) (Ky (by omega))) nZ) ?_
    intro aD O
    simp only [F8]
    have I:=Kj (aa.out.kept O)
    have J:=Kj (a9.out.kept O)
    obtain ⟨ws,a4⟩:∃ y,y=aD:=⟨_,rfl⟩
    rw [← a4] at I J ⊢
    clear aa a9 a4 O
    clear hk1
    obtain ⟨o,ho⟩:∃ o:Ord,q.n.so=o:=⟨_,rfl⟩
    have aL:=Kj ho
    obtain ⟨L,hL⟩:∃ L,(M.add o).1=L:=⟨_,rfl⟩
    have HX:=Kj hL
    have aS:=add_fills HI.out o
    rw [hL] at aS
    have ar:=Kj aS
    clear ho hL aS
    have ag:=Kj (I.out.kept (Keep.drew (Keep.refl _ ws)))
    have aj:=Kj (J.out.kept (Keep.drew (Keep.refl _ ws)))
    clear I J
    go_upto_region 11 with fail
    refine wp_sched (fun u=>Blk u j 30 q.cells) [(0,0),(1,0),(2,0),(5,0),(6,0),(7,0),(3,1),(4,1),(8,1),(9,1),(10,1),(11,0)] (by kernel_rfl) (by kernel_rfl) (aj.out.blk) ?_
    refine qZ (o:=⟨some 34,_,_,_,_,_⟩) (.pointer (some ⟨p,0,none⟩)) rfl (by kernel_rfl) (fun u hu=>Jq (.tmp 3) (.pointer (some ⟨p,0,none⟩)) rfl (by kernel_rfl)) ?_
    simp only [Act.put,sA,sS,sZ]
    refine qZ (o:=⟨some 35,_,_,_,_,_⟩) (.pointer (some ⟨j,5,none⟩)) rfl (by kernel_rfl) (fun u hu=>Jz 30 5 5 (.tmp 6) (j) (0) (5) rfl (by kernel_rfl) (by kernel_rfl) rfl) ?_
    simp only [Act.put,sA,sS,sZ]
    refine qZ (o:=⟨some 36,_,_,_,_,_⟩) (q.n.v) rfl (by kernel_rfl) (fun u hu=>xW 28 _ (.tmp 35) j 5 q.n.cells rfl (by kernel_rfl) (show u.rangeAt j 5 q.n.cells from cq_n (JX hu)) Tryz.underlying28 (by rw [Kq.len7];exact szK)) ?_
    simp only [Act.put,sA,sS,sZ]
    refine qZ (o:=⟨some 39,_,_,_,_,_⟩) (.pointer (some ⟨r,0,none⟩)) rfl (by kernel_rfl) (fun u hu=>Jq (.tmp 4) (.pointer (some ⟨r,0,none⟩)) rfl (by kernel_rfl)) ?_
    simp only [Act.put,sA,sS,sZ]
    refine qZ (o:=⟨some 40,_,_,_,_,_⟩) (.pointer (some ⟨j,5,none⟩)) rfl (by kernel_rfl) (fun u hu=>Jz 30 5 5 (.tmp 6) (j) (0) (5) rfl (by kernel_rfl) (by kernel_rfl) rfl) ?_
    simp only [Act.put,sA,sS,sZ]
    refine qZ (o:=⟨some 41,_,_,_,_,_⟩) (q.n.v) rfl (by kernel_rfl) (fun u hu=>xW 28 _ (.tmp 40) j 5 q.n.cells rfl (by kernel_rfl) (show u.rangeAt j 5 q.n.cells from cq_n (JX hu)) Tryz.underlying28 (by rw [Kq.len7];exact szK)) ?_
    simp only [Act.put,sA,sS,sZ]
    refine s_call (o:=⟨some 37,_,_,_,_,_⟩) 8 #[q.n.v] rfl (by kernel_rfl) (Jy 8 _ [.tmp 36] _ _ Tryz.func8 (by kernel_rfl) (by kernel_rfl) rfl (by kernel_rfl)) ?_
    refine (kstop_any q.n ws.drew).mono ?_
    rintro e wa ⟨vo,rfl,ak,aF⟩
    have aQ:=ag.out.kept aF
    have br:=aj.out.kept aF
    refine ⟨o.v,by have h2:vo=q.n.so.v:=ak;rw [h2,aL.out],br.blk,?_⟩
    simp only [Act.put,sA,sS,sZ]
    refine s_call (o:=⟨some 38,_,_,_,_,_⟩) 7 #[.pointer (some ⟨p,0,none⟩),o.v] rfl (by kernel_rfl) (Jy 7 _ [.tmp 34,.tmp 37] _ _ Tryz.func7 (by kernel_rfl) (by kernel_rfl) rfl (by kernel_rfl)) ?_
    refine (madd_any wa F p M o aQ.x HI.out an.out).mono ?_
    rintro e wb ⟨F2,va,Za,rfl,al,ac,a7,a3⟩
    rw [HX.out] at ac
    have ae:=aQ.stepX al a7 a3
    have ab:=br.stepX a7 a3
    have aq:∀ b,wa.heap.size≤b→¬ G b:=fun b hb h=>by have:=aQ.y.lt b h;omega
    refine ⟨va,rfl,ab.blk,?_⟩
    simp only [Act.put,sA,sS,sZ]
    refine s_call (o:=⟨some 42,_,_,_,_,_⟩) 8 #[q.n.v] rfl (by kernel_rfl) (Jy 8 _ [.tmp 41] _ _ Tryz.func8 (by kernel_rfl) (by kernel_rfl) rfl (by kernel_rfl)) ?_
    refine (kstop_any q.n wb).mono ?_
    rintro e wd ⟨vo,rfl,ak,aw⟩
    have b8:=ae.kept aw
    have b3:=ab.kept aw
    refine ⟨o.v,by have h2:vo=q.n.so.v:=ak;rw [h2,aL.out],b3.blk,?_⟩
    simp only [Act.put,sA,sS,sZ]
    refine s_call (o:=⟨some 43,_,_,_,_,_⟩) 9 #[.pointer (some ⟨r,0,none⟩),o.v] rfl (by kernel_rfl) (Jy 9 _ [.tmp 39,.tmp 42] _ _ Tryz.func9 (by kernel_rfl) (by kernel_rfl) rfl (by kernel_rfl)) ?_
    refine (rmadd_any wd G r M o b8.y HI.out am.out an.out).mono ?_
    rintro e we ⟨G2,vb,Zb,rfl,ah,ad,a8,N⟩
    rw [HX.out] at ad
    have U:=b8.stepY ah a8 N
    have H:=b3.stepY a8 N
    have a6:=(ac.kept aw).keep N (fun b h1 _ _=>aq b h1)
    refine ⟨vb,rfl,H.blk,?_⟩
    simp only [Act.put,sA,sS,sZ]
    refine s_call (o:=⟨some 44,_,_,_,_,_⟩) 6 #[va,vb] rfl (by kernel_rfl) (Jy 6 _ [.tmp 38,.tmp 43] _ _ Tryz.func6 (by kernel_rfl) (by kernel_rfl) rfl (by kernel_rfl)) ?_
    refine (kouts_any va vb L Za Zb we _ _ _ _ a6 ad ar.out.1 ar.out.2).mono ?_
    rintro e wf ⟨vo,rfl,ak,ax⟩
    have U:=U.kept ax
    have H:=H.kept ax
    refine ⟨.bool true,by have h2:vo=.bool true:=ak;rw [h2],H.blk,?_⟩
    simp only [Act.put,sA,sS,sZ]
    refine qZ (o:=⟨some 7,_,_,_,_,_⟩) (.bool true) rfl (by kernel_rfl) (fun u hu=>Yj (.tmp 44) (.bool true) rfl (by kernel_rfl)) ?_
    simp only [Act.put,sA,sS,sZ]
    refine s_done ?_
    have au:=Kj U
    have ao:=Kj H
    have bv:=Kj (HI.out.add o)
    have b2:=Kj (am.out.add o)
    have bA:=Kj (add_no HI.out o).2
    clear ag aj HX aL ar U H
    go_wp2
    go_meet
    case rel=>exact ⟨rfl,_,_,_,au,bv,b2,bA,ao⟩
   by_cases a3:q.k=2
   ·skip
    go_upto_region 10 with fail
    refine wA 2 [bV false,bV false] [33,32] (nS 0 (aV rfl (fun a u E D hk=>JY (p:=q.k) (q:=1) rfl (eE E) rfl) (Ku (by omega))) nZ) ?_
    intro aD O
    simp only [F8]
    go_upto_region 12 with fail
    refine wA 2 [bV true,bV true] [46,45] (nS 0 (aV rfl (fun a u E D hk=>JY (p:=q.k) (q:=2) rfl (eE E) rfl) (Ky (by omega))) nZ) ?_
    intro aM a2
    simp only [F8]
    have I:=Kj (aa.out.kept (O.trans a2))
    have J:=Kj (a9.out.kept (O.trans a2))
    obtain ⟨ws,a4⟩:∃ y,y=aM:=⟨_,rfl⟩
    rw [← a4] at I J ⊢
    clear aa a9 a4 O a2
    clear a3
    obtain ⟨L,en,M2,aB⟩:∃ L en M2,M.amend q.a q.b q.c q.d=(L,en,M2):=⟨_,_,_,rfl⟩
    have bm:=Kj aB
    have aA:Hid (InvK M2∧M2.b.no≤M.b.no+70000000):=by have:=HI.out.amend q.a q.b q.c q.d;rw [aB] at this;exact this
    have ay:Hid (Quiet M2):=by have:=am.out.amend q.a q.b q.c q.d;rw [aB] at this;exact this
    have ar:Hid ((∀ x ∈ L,x.c.f.length≤2000000)∧L.length≤1000000):=by have:=amend_fills HI.out q.a q.b q.c q.d;rw [aB] at this;exact this
    have bd:Hid (M.b.no≤800000000000):=by show _≤_;have:=b4.out;omega
    clear aB
    go_upto_region 13 with fail
    have a5:=Kj (JX J.out.blk)
    refine wAp 9 [pV p 0,pV j 1,iV q.a,pV j 2,iV q.b,pV j 3,iV q.c,pV j 4,iV q.d] [48,49,50,51,52,53,54,55,56] (nS 2 (ldR a5.out 1) (nS 4 (ldR a5.out 2) (nS 6 (ldR a5.out 3) (nS 8 (ldR a5.out 4) nZ)))) ?_
    intro wh kh
    simp only [F8]
    refine cT Tryz.func10 [.pointer (some ⟨p,0,none⟩),.int .i64 q.a,.int .i64 q.b,.int .i64 q.c,.int .i64 q.d] ?_
    refine (mamend_at wh F p M q.a q.b q.c q.d _ bm.out (I.out.x.kept kh) HI.out bd.out).mono ?_
    rintro e wi_ ⟨F2,va,Za,rfl,al,ac,a7,a3⟩
    have ae:=(I.out.kept kh).stepX al a7 a3
    have ab:=(J.out.kept kh).stepX a7 a3
    have aq:∀ b,wh.heap.size≤b→¬ G b:=fun b hb h=>by have:=(I.out.kept kh).y.lt b h;omega
    refine ⟨.tuple #[va,.int .i64 en],rfl,?_⟩
    refine aT (.tuple #[va,.int .i64 en]) ?_
    refine aT (va) ?_
    refine aT (.int .i64 en) ?_
    refine aT (va) ?_
    refine aT (.int .i64 en) ?_
    simp only [Act.put,sA,sS,sZ]
    refine Kx ?_
    have aY:=Kj ae
    have aX:=Kj ab
    have bg:=Kj ac
    have b9:=Kj aq
    clear al a7 a3 ae ab ac aq I J a5 kh
    go_upto_region 14 with fail
    have a1:=Kj (JX aX.out.blk)
    refine wAp 9 [pV r 0,pV j 1,iV q.a,pV j 2,iV q.b,pV j 3,iV q.c,pV j 4,iV q.d] [61,62,63,64,65,66,67,68,69] (nS 2 (ldR a1.out 1) (nS 4 (ldR a1.out 2) (nS 6 (ldR a1.out 3) (nS 8 (ldR a1.out 4) nZ)))) ?_
    intro wj kj
    simp only [F8]
    refine cT Tryz.func11 [.pointer (some ⟨r,0,none⟩),.int .i64 q.a,.int .i64 q.b,.int .i64 q.c,.int .i64 q.d] ?_
    refine (rmamend_at wj G r M q.a q.b q.c q.d _ bm.out (aY.out.y.kept kj) HI.out am.out bd.out).mono ?_
    rintro e wk ⟨G2,vb,Zb,rfl,ah,ad,a8,N⟩
    have U:=(aY.out.kept kj).stepY ah a8 N
    have H:=(aX.out.kept kj).stepY a8 N
    have a6:=(bg.out.kept kj).keep N (fun b h1 _ _=>b9.out b h1)
    refine ⟨.tuple #[vb,.int .i64 en],rfl,?_⟩
    refine aT (.tuple #[vb,.int .i64 en]) ?_
    refine aT (vb) ?_
    refine aT (.int .i64 en) ?_
    refine aT (vb) ?_
    refine aT (.int .i64 en) ?_
    simp only [Act.put,sA,sS,sZ]
    refine Kx ?_
    have au:=Kj U
    have ao:=Kj H
    have aH:=Kj a6
    have aG:=Kj ad
    clear ah a8 N U H a6 ad aY aX bg b9 a1 kj
    go_upto_region 15 with fail
    refine wA 9 [va,vb,bV true,bV true,iV en,iV en,bV true,bV true,bV true] [73,74,75,76,77,78,79,80,7] (nS 2 (cV Tryz.func6 (fun u hk=>kouts_any va vb L Za Zb u _ _ _ _ (aH.out.kept hk) (aG.out.kept hk) ar.out.1 ar.out.2)) (nS 6 (aV rfl (fun a u E D hk=>JY rfl (dD D 4) (dD D 5)) (Ky rfl)) nZ)) ?_
    intro wz kz
    simp only [F8]
    have aU:=Kj (au.out.kept kz)
    have bw:=Kj (ao.out.kept kz)
    clear au ao kz aH aG
    go_wp2
    go_meet
    case rel=>exact ⟨rfl,_,_,M2,aU,aA.out.1,ay,aA.out.2,bw⟩
   by_cases hk3:q.k=3
   ·skip
    go_upto_region 10 with fail
    refine wA 2 [bV false,bV false] [33,32] (nS 0 (aV rfl (fun a u E D hk=>JY (p:=q.k) (q:=1) rfl (eE E) rfl) (Ku (by omega))) nZ) ?_
    intro aD O
    simp only [F8]
    go_upto_region 12 with fail
    refine wA 2 [bV false,bV false] [46,45] (nS 0 (aV rfl (fun a u E D hk=>JY (p:=q.k) (q:=2) rfl (eE E) rfl) (Ku (by omega))) nZ) ?_
    intro aM a2
    simp only [F8]
    go_upto_region 16 with fail
    refine wA 2 [bV true,bV true] [82,81] (nS 0 (aV rfl (fun a u E D hk=>JY (p:=q.k) (q:=3) rfl (eE E) rfl) (Ky (by omega))) nZ) ?_
    intro aW af
    simp only [F8]
    have I:=Kj (aa.out.kept ((O.trans a2).trans af))
    have J:=Kj (a9.out.kept ((O.trans a2).trans af))
    obtain ⟨ws,a4⟩:∃ y,y=aW:=⟨_,rfl⟩
    rw [← a4] at I J ⊢
    clear aa a9 a4 O a2 af
    clear hk3
    obtain ⟨T,hT⟩:∃ T,IntKind.u64.wrap q.a=T:=⟨_,rfl⟩
    have HT:=Kj hT
    obtain ⟨M2,aC⟩:∃ M2,massL T M.all M=M2:=⟨_,rfl⟩
    obtain ⟨Z,hZ⟩:∃ Z,UZ T M.all=Z:=⟨_,rfl⟩
    have aZ:=Kj aC
    have aR:=Kj hZ
    have hzl:Z.length≤64:=by
     have h1:(UZ T M.all).length≤M.all.length:=List.length_filter_le _ _
     have h2:=HI.out.all_few
     rw [hZ] at h1
     omega
    have aA:Hid (InvK M2∧M2.b.no=M.b.no):=by have:=InvK.massL T M.all HI.out;rw [aC] at this;exact this
    have ay:Hid (Quiet M2):=by have:=Quiet.massL T M.all am.out;rw [aC] at this;exact this
    clear hT aC hZ
    have ag:=Kj (I.out.kept (Keep.drew (Keep.refl _ ws)))
    have aj:=Kj (J.out.kept (Keep.drew (Keep.refl _ ws)))
    clear I J
    go_upto_region 17 with fail
    refine wp_sched (fun u=>Blk u j 30 q.cells) [(0,0),(1,0),(2,0),(3,0),(5,0),(6,0),(7,0),(8,0),(4,1),(9,1),(10,1),(11,0)] (by kernel_rfl) (by kernel_rfl) (aj.out.blk) ?_
    refine qZ (o:=⟨some 83,_,_,_,_,_⟩) (.pointer (some ⟨p,0,none⟩)) rfl (by kernel_rfl) (fun u hu=>Jq (.tmp 3) (.pointer (some ⟨p,0,none⟩)) rfl (by kernel_rfl)) ?_
    simp only [Act.put,sA,sS,sZ]
    refine qZ (o:=⟨some 84,_,_,_,_,_⟩) (.pointer (some ⟨j,1,none⟩)) rfl (by kernel_rfl) (fun u hu=>Jz 30 1 1 (.tmp 6) (j) (0) (1) rfl (by kernel_rfl) (by kernel_rfl) rfl) ?_
    simp only [Act.put,sA,sS,sZ]
    refine qZ (o:=⟨some 85,_,_,_,_,_⟩) (.int .i64 q.a) rfl (by kernel_rfl) (fun u hu=>JZ 3 Tryz.underlying3 (.tmp 84) ⟨j,1,none⟩ (.int .i64 q.a) rfl (by kernel_rfl) (Xx (show u.rangeAt j 0 q.cells from JX hu) 1 _ rfl)) ?_
    simp only [Act.put,sA,sS,sZ]
    refine qZ (o:=⟨some 86,_,_,_,_,_⟩) (.int .u64 T) rfl (by kernel_rfl) (fun u hu=>exec_convU (.tmp 85) _ q.a T rfl (by kernel_rfl) HT.out) ?_
    simp only [Act.put,sA,sS,sZ]
    refine qZ (o:=⟨some 88,_,_,_,_,_⟩) (.pointer (some ⟨r,0,none⟩)) rfl (by kernel_rfl) (fun u hu=>Jq (.tmp 4) (.pointer (some ⟨r,0,none⟩)) rfl (by kernel_rfl)) ?_
    simp only [Act.put,sA,sS,sZ]
    refine qZ (o:=⟨some 89,_,_,_,_,_⟩) (.pointer (some ⟨j,1,none⟩)) rfl (by kernel_rfl) (fun u hu=>Jz 30 1 1 (.tmp 6) (j) (0) (1) rfl (by kernel_rfl) (by kernel_rfl) rfl) ?_
    simp only [Act.put,sA,sS,sZ]
    refine qZ (o:=⟨some 90,_,_,_,_,_⟩) (.int .i64 q.a) rfl (by kernel_rfl) (fun u hu=>JZ 3 Tryz.underlying3 (.tmp 89) ⟨j,1,none⟩ (.int .i64 q.a) rfl (by kernel_rfl) (Xx (show u.rangeAt j 0 q.cells from JX hu) 1 _ rfl)) ?_
    simp only [Act.put,sA,sS,sZ]
    refine qZ (o:=⟨some 91,_,_,_,_,_⟩) (.int .u64 T) rfl (by kernel_rfl) (fun u hu=>exec_convU (.tmp 90) _ q.a T rfl (by kernel_rfl) HT.out) ?_
    simp only [Act.put,sA,sS,sZ]
    refine s_call (o:=⟨some 87,_,_,_,_,_⟩) 13 #[.pointer (some ⟨p,0,none⟩),.int .u64 T] rfl (by kernel_rfl) (Jy 13 _ [.tmp 83,.tmp 86] _ _ Tryz.func13 (by kernel_rfl) (by kernel_rfl) rfl (by kernel_rfl)) ?_
    refine (mmass_any ws.drew F p M T ag.out.x HI.out).mono ?_
    rintro e wb ⟨F2,va,rfl,al,ac,bz,a7,a3⟩
    rw [aZ.out] at al
    rw [aR.out] at ac
    have ae:=ag.out.stepX al a7 a3
    have ab:=aj.out.stepX a7 a3
    have aq:∀ b,va.ownBlock=some b→¬ G b:=fun b hb h=>by have h1:=(bz b hb).1;have h2:=ag.out.y.lt b h;omega
    refine ⟨va,rfl,ab.blk,?_⟩
    simp only [Act.put,sA,sS,sZ]
    refine s_call (o:=⟨some 92,_,_,_,_,_⟩) 14 #[.pointer (some ⟨r,0,none⟩),.int .u64 T] rfl (by kernel_rfl) (Jy 14 _ [.tmp 88,.tmp 91] _ _ Tryz.func14 (by kernel_rfl) (by kernel_rfl) rfl (by kernel_rfl)) ?_
    refine (rmmass_any wb G r M T ae.y HI.out).mono ?_
    rintro e we ⟨G2,vb,rfl,ah,ad,hob,a8,N⟩
    rw [aZ.out] at ah
    rw [aR.out] at ad
    have U:=ae.stepY ah a8 N
    have H:=ab.stepY a8 N
    have a6:=ac.keep N (fun b hb=>aq b hb)
    refine ⟨vb,rfl,H.blk,?_⟩
    simp only [Act.put,sA,sS,sZ]
    refine s_call (o:=⟨some 93,_,_,_,_,_⟩) 12 #[va,vb] rfl (by kernel_rfl) (Jy 12 _ [.tmp 87,.tmp 92] _ _ Tryz.func12 (by kernel_rfl) (by kernel_rfl) rfl (by kernel_rfl)) ?_
    have bq:=sameO_any va vb 0 0 Z Z we a6 ad (by omega) (by omega)
    rw [Ky rfl] at bq
    refine bq.mono ?_
    rintro e wf ⟨vo,rfl,ak,ax⟩
    have U:=U.kept ax
    have H:=H.kept ax
    refine ⟨.bool true,by have h2:vo=.bool true:=ak;rw [h2],H.blk,?_⟩
    simp only [Act.put,sA,sS,sZ]
    refine qZ (o:=⟨some 7,_,_,_,_,_⟩) (.bool true) rfl (by kernel_rfl) (fun u hu=>Yj (.tmp 93) (.bool true) rfl (by kernel_rfl)) ?_
    simp only [Act.put,sA,sS,sZ]
    refine s_done ?_
    have au:=Kj U
    have ao:=Kj H
    clear ag aj aZ aR HT U H
    go_wp2
    go_meet
    case rel=>exact ⟨rfl,_,_,M2,au,aA.out.1,ay,by show _≤_;rw [aA.out.2];omega,ao⟩
   skip
   go_upto_region 10 with fail
   refine wA 2 [bV false,bV false] [33,32] (nS 0 (aV rfl (fun a u E D hk=>JY (p:=q.k) (q:=1) rfl (eE E) rfl) (Ku (by omega))) nZ) ?_
   intro aD O
   simp only [F8]
   go_upto_region 12 with fail
   refine wA 2 [bV false,bV false] [46,45] (nS 0 (aV rfl (fun a u E D hk=>JY (p:=q.k) (q:=2) rfl (eE E) rfl) (Ku (by omega))) nZ) ?_
   intro aM a2
   simp only [F8]
   go_upto_region 16 with fail
   refine wA 2 [bV false,bV false] [82,81] (nS 0 (aV rfl (fun a u E D hk=>JY (p:=q.k) (q:=3) rfl (eE E) rfl) (Ku (by omega))) nZ) ?_
   intro aW af
   simp only [F8]
   have I:=Kj (aa.out.kept ((O.trans a2).trans af))
   have J:=Kj (a9.out.kept ((O.trans a2).trans af))
   obtain ⟨ws,a4⟩:∃ y,y=aW:=⟨_,rfl⟩
   rw [← a4] at I J ⊢
   clear aa a9 a4 O a2 af
   go_wp2
   go_meet
   case rel=>exact ⟨rfl,_,_,M,I,HI,am,by show _≤_;omega,J⟩
  obtain ⟨rfl,F1,G1,M1,av,ai,be,aJ,b6⟩:=hcut
  obtain ⟨w6,bu⟩:∃ y,y=wc:=⟨_,rfl⟩
  subst bu
  have az:=Kj (JX b6.out.blk)
  have bb:M1.w.length≤100000:=by have:=ai.out.few;omega
  have hal1:M1.all.length≤64:=ai.out.all_few
  obtain ⟨on,bf⟩:∃ on,qy q.a M1.all=on:=⟨_,rfl⟩
  have b5:=Kj bf
  clear bf aa a9 HI am
  go_upto_region 18 with fail
  refine tH 21 [bK true,bK false,bK false,pK p 0,.k (.sl w6.heap.size 35 9 M1.all.length (ords M1.all)),pK r 0,.k (.sl w6.heap.size 35 9 M1.all.length (ords M1.all)),bK true,bK false,bK false,bK false,pK p 0,pK j 1,iK q.a,iK on,pK r 0,pK j 1,iK q.a,iK on,bK false,bK false] [94,95,96,97,98,99,100,101,102,103,104,105,106,107,108,109,110,111,112,113,114] (nS 1 (sV rfl (fun a u E D hk=>YX _ _ true rfl (dD D 0))) (nS 4 (cV Tryz.func15 (fun u hk=>(mall_any u F1 p M1 (av.out.x.kept hk) ai.out.inv bb).base hk.size)) (nS 6 (cV Tryz.func16 (fun u hk=>(rmall_any u G1 r M1 (av.out.y.kept hk) ai.out.inv bb).base hk.size)) (nS 7 ((fun a u hE hD hk=>Zj 12 #[a.eval (.tmp 98),a.eval (.tmp 100)] rfl (zY (b:=false) false rfl rfl (dD hD 2)) (Jy 12 _ [.tmp 98,.tmp 100] _ [a.eval (.tmp 98),a.eval (.tmp 100)] Tryz.func12 (by kernel_rfl) (by kernel_rfl) rfl rfl u) ((by have h:=sameO_any (a.eval (.tmp 98)) (a.eval (.tmp 100)) 0 0 M1.all M1.all u (hD 4 98 (by kernel_rfl)).1 (hD 6 100 (by kernel_rfl)).1 (by omega) (by omega);rw [Ky rfl] at h;exact h)))) (nS 8 (sV rfl (fun a u E D hk=>YX _ _ true rfl (dD D 7))) (nS 13 (ldR az.out 1) (nS 14 (cV Tryz.func17 (fun u hk=>(by rw [← b5.out];exact mopen_any u F1 p M1 q.a (av.out.x.kept hk) ai.out))) (nS 17 (ldR az.out 1) (nS 18 (cV Tryz.func18 (fun u hk=>(by rw [← b5.out];exact rmopen_any u G1 r M1 q.a (av.out.y.kept hk) ai.out))) (nS 19 (aV rfl (fun a u E D hk=>Xj rfl (dD D 14) (dD D 18)) (Ku (by omega))) nZ)))))))))) ?_
  intro gv w11 hV bi
  simp only [Fz7]
  rw [gQ hV 20 114 (.bool false)]
  clear hV
  have bn:=Kj (av.out.kept bi)
  have bx:Hid (M1.b.no≤70000000*((i+1:Nat):Int)):=by
   show _≤_
   have h1:=aJ.out
   have h2:=b4.out
   omega
  clear av b6 bi aJ az
  go_wp2
  exact ⟨⟨i+1,F1,G1,M1,by go_num,by omega,by omega,bn,ai,be,bx⟩,by simp [intOf];omega⟩
 have ba:=HD
 clear HD
 by_cases h1:i<n
 ·have h2:¬ i<60:=by omega
  clear hlt
  go_wp2_with fail
  refine (changeRuns_any wr).mono ?_
  rintro e wz ⟨rfl,kz⟩
  go_wp2
  go_ret
  exact ⟨rfl,ba.out.k.trans kz⟩
 clear hlt
 go_wp2_with fail
 refine (changeRuns_any wr).mono ?_
 rintro e wz ⟨rfl,kz⟩
 go_wp2
 go_ret
 exact ⟨rfl,ba.out.k.trans kz⟩
end Go.Proofs.YtklohceombpleaaGreat
