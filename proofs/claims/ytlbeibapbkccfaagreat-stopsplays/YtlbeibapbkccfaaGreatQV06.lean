/-
 Laws and contracts that the walks rest on, part 6. No condition.
-/
import Derived.Test.YtlbeibapbkccfaaGreatQV05
set_option linter.unusedVariables false
set_option maxRecDepth 100000
set_option maxHeartbeats 6400000
namespace Go.Proofs.YtlbeibapbkccfaaGreat
open Go.RowKit
theorem Oc.set_err (x:Oc) (v:Value) (e:Int):(x.cells v).set 14 (.int .i64 e)=({ x with err:=e }:Oc).cells v:=rfl
def RAddIn (w:World) (F:Nat→Prop) (p:Nat) (x:Oc × Bok) (r:Ending) (w':World):Prop:=
 ∃ F' v,r=.returned (x.1.v v)∧RBk w' F' p x.2∧Sl w' 77 21 v x.1.f.length (fls x.1.f)∧(∀ b,v.ownBlock=some b→w.heap.size≤b∧¬ F' b)∧Grow w F F'∧Keep F w w'
theorem rerr_1 {B:Bok} {o:Ord} (h:¬ (o.right=true∧o.stop=0)):B.err o=1:=by unfold Bok.err;rw [if_pos h]
theorem rerr_5 {B:Bok} {o:Ord} (h:o.right=true∧o.stop=0) (h2:B.has o.tr o.id=true):B.err o=5:=by unfold Bok.err;rw [if_neg (fun x=>x h),if_pos h2]
theorem rerr_4 {B:Bok} {o:Ord} (h:o.right=true∧o.stop=0) (h2:B.has o.tr o.id=false) (h3:(o.k=1∨o.k=5)∧64≤B.len):B.err o=4:=by unfold Bok.err;rw [if_neg (fun x=>x h),if_neg (by rw [h2];simp),if_pos h3]
theorem rerr_11 {B:Bok} {o:Ord} (h:o.right=true∧o.stop=0) (h2:B.has o.tr o.id=false) (h3:¬ ((o.k=1∨o.k=5)∧64≤B.len)) (h4:o.k=5∧o.meets (B.sd (3-o.side))=true):B.err o=11:=by unfold Bok.err;rw [if_neg (fun x=>x h),if_neg (by rw [h2];simp),if_neg h3,if_pos h4]
theorem rerr_12 {B:Bok} {o:Ord} (h:o.right=true∧o.stop=0) (h2:B.has o.tr o.id=false) (h3:¬ ((o.k=1∨o.k=5)∧64≤B.len)) (h4:¬ (o.k=5∧o.meets (B.sd (3-o.side))=true)) (h5:o.k=4∧0<(B.matched o).left):B.err o=12:=by unfold Bok.err;rw [if_neg (fun x=>x h),if_neg (by rw [h2];simp),if_neg h3,if_neg h4,if_pos h5]
theorem rerr_0 {B:Bok} {o:Ord} (h:o.right=true∧o.stop=0) (h2:B.has o.tr o.id=false) (h3:¬ ((o.k=1∨o.k=5)∧64≤B.len)) (h4:¬ (o.k=5∧o.meets (B.sd (3-o.side))=true)) (h5:¬ (o.k=4∧0<(B.matched o).left)):B.err o=0:=by unfold Bok.err;rw [if_neg (fun x=>x h),if_neg (by rw [h2];simp),if_neg h3,if_neg h4,if_neg h5]
theorem rbadd_any (w:World) (F:Nat→Prop) (p:Nat) (B:Bok) (o:Ord) (h:RBk w F p B) (hI:Inv B) (hn:B.no≤1000000000000):Calls Tryz.prog 27 #[.pointer (some ⟨p,0,none⟩),o.v] w (RAddIn w F p (B.add o)):=by
 have hFl:=h.lt
 have HB:=Kj h
 have HI:=Kj hI
 have hpF:=h.1
 have hpw:=hFl p hpF
 clear h hI
 go_enter Tryz.func27,Tryz.ntmps27
 go_upto_region 0 with fail
 refine QZ 2 [.fresh w.heap.size 30 (o.cells),.fresh w.heap.size 58 (Xq.cells (.slice none 0 0))] rfl (by kernel_rfl) ?_ ?_
 ·refine nW 1 rfl (fun a u E D hk=>⟨_,_,YX 30 _ (o.cells) rfl (eE E),⟨_,rfl,hk.size,Blk.new u _ _⟩,((Keep.refl _ u).alloc _)⟩) ?_
  refine nW 2 rfl (fun a u E D hk=>⟨_,_,QW 58 (Xq.cells (.slice none 0 0)) rfl zC,⟨_,rfl,hk.size,Blk.new u _ _⟩,((Keep.refl _ u).alloc _)⟩) ?_
  exact fz
 intro gv w0 hV k0
 rw [dq 2 [3,4]]
 simp only [Fz7]
 have hv3:(.fresh w.heap.size 30 (o.cells):Kn).p (gv 3) w0:=hV 0 3 (by kernel_rfl)
 generalize gv 3=v3 at hv3 ⊢
 have hv4:(.fresh w.heap.size 58 (Xq.cells (.slice none 0 0)):Kn).p (gv 4) w0:=hV 1 4 (by kernel_rfl)
 generalize gv 4=v4 at hv4 ⊢
 clear hV
 obtain ⟨bi,rfl,hbi,hBi⟩:=hv3
 obtain ⟨b4,rfl,hb4,hB4⟩:=hv4
 refine Kx ?_
 have HO0:=Kj (JW hBi)
 have HBI0:=Kj hBi
 have HB40:=Kj hB4
 have li:=hBi.lt
 have l4:=hB4.lt
 have hi4:bi≠b4:=fun e=>by
  rw [e] at hBi
  have:=hBi.cell 0
  unfold Blk at hBi hB4
  rw [hB4] at hBi
  injection hBi with hx
  injection hx with _ hx _
  exact absurd hx (by decide)
 clear hBi hB4
 go_upto_region 1 with fail
 refine QZ 5 [.eq (o.v),pE bi 6,iE o.qty,.eq ((Oc.mk o [] o.qty false false 0).v (.slice none 0 0)),.fresh w0.heap.size 58 (Xq.cells (.slice none 0 0))] rfl (by kernel_rfl) ?_ ?_
 ·refine sE 1 3 bi 0 o.cells Tryz.underlying30 (fun u hk=>JJ HO0.out hk) (by rw [o.len9];exact JX) ?_
  refine fE 2 3 30 6 6 0 ?_
  refine lD 3 14 1 Tryz.underlying3 (fun u hk=>JY (JJ HO0.out hk) 6 _ rfl) ?_
  refine sW 4 rfl (fun a u E D hk=>YJ _ [(0,.tmp 13),(2,.tmp 15)] ((Oc.mk o [] o.qty false false 0).cells (.slice none 0 0)) rfl (by simp only [List.map_cons,List.map_nil];rw [show a.eval (.tmp 13)=o.v from (dD D 0),show a.eval (.tmp 15)=.int .i64 o.qty from (dD D 2)];exact built_oc o o.qty)) ?_
  refine nW 5 rfl (fun a u E D hk=>⟨_,_,QW 58 (Xq.cells (.slice none 0 0)) rfl zC,⟨_,rfl,hk.size,Blk.new u _ _⟩,((Keep.refl _ u).alloc _)⟩) ?_
  exact fz
 intro gv wb hV kb
 rw [dq 5 [13,14,15,16,5]]
 simp only [Fz7]
 have hv5:(.fresh w0.heap.size 58 (Xq.cells (.slice none 0 0)):Kn).p (gv 5) wb:=hV 4 5 (by kernel_rfl)
 generalize gv 5=v5 at hv5 ⊢
 rw [gQ hV 3 16 ((Oc.mk o [] o.qty false false 0).v (.slice none 0 0))]
 clear hV
 obtain ⟨b5,rfl,hb5,hB5⟩:=hv5
 refine Qj 58 b5 58 (Xq.cells (.slice none 0 0)) ((Oc.mk o [] o.qty false false 0).cells (.slice none 0 0)) _ _ rfl rfl (by kernel_rfl) (by kernel_rfl) hB5 (by rw [Oc.len15];exact szC) (by rw [Oc.len15,Oc.len15]) (Oc.one _ _ rfl) ?_
 intro w1 hB1 hk1 hs1
 simp only [Act.put]
 refine Kx ?_
 have k01:Kept w0 w1:=kb.trans' hk1 (by omega)
 have k1:Kept w w1:=k0.trans k01
 have HB51:=Kj hB1
 have HB41:=Kj (HB40.out.kept k01)
 have HBI1:=Kj (HBI0.out.kept k01)
 have HO1:=Kj (JJ HO0.out k01)
 have l5:=hB1.lt
 have z0:=k0.size
 have z01:=k01.size
 have h4F:¬ F b4:=fun h=>by have:=hFl b4 h;omega
 have hiF:¬ F bi:=fun h=>by have:=hFl bi h;omega
 have h5F:¬ F b5:=fun h=>by have:=hFl b5 h;omega
 have h54:b5≠b4:=by omega
 have h5i:b5≠bi:=by omega
 clear hB5 hB1 hk1 hs1 kb HO0 HBI0 HB40 k0 k01
 obtain ⟨e0,he0⟩:∃ e0,o.err=e0:=⟨_,rfl⟩
 have HE0:=Kj he0
 go_upto_region 2 with fail
 refine wE 3 [o.v,iV e0,iV e0] [17,18,6] ?_ ?_
 ·refine sE 1 3 bi 0 o.cells Tryz.underlying30 (fun u hk=>JJ HO1.out hk) (by rw [o.len9];exact JX) ?_
  refine cS 2 23 [o.v] rfl Tryz.func23 rfl (fun a u E D hk=>⟨ll (dD D 0) rfl,(by have h:=refRight_any o u;rw [HE0.out] at h;exact h)⟩) ?_
  refine mD 3 18 1 ?_
  exact fz
 intro w2 k12
 simp only [F8]
 have k2:=k1.trans k12
 have z2:=k12.size
 have HB52:=Kj (HB51.out.kept k12)
 have HB42:=Kj (HB41.out.kept k12)
 have HBI2:=Kj (HBI1.out.kept k12)
 have HO2:=Kj (JJ HO1.out k12)
 clear HB51 HB41 HBI1 HO1 k12 k1 he0
 by_cases hr:o.right=true
 ·have he:e0=0:=by have:=HE0.out;unfold Ord.err at this;rw [if_pos hr] at this;exact this.symm
  by_cases hst:o.stop=0
  ·have HRS:Hid (o.right=true∧o.stop=0):=⟨hr,hst⟩
   have HRI:=Kj ((Uj o).1 hr)
   go_upto_region 3 with fail
   refine wE 7 [iV e0,bV false,bV false,pV bi 8,iV o.stop,bV false,bV false] [19,20,21,22,23,24,25] ?_ ?_
   ·refine mE 1 6 ?_
    refine aS 2 rfl (fun a u E D hk=>YZ rfl (dD D 0) rfl) (Ku (by omega)) ?_
    refine mD 3 20 1 ?_
    refine fE 4 3 30 8 8 0 ?_
    refine lD 5 22 3 Tryz.underlying3 (fun u hk=>JY (JJ HO2.out hk) 8 _ rfl) ?_
    refine aS 6 rfl (fun a u E D hk=>YZ rfl (dD D 4) rfl) (Ku (by omega)) ?_
    refine sW 7 rfl (fun a u E D hk=>Zj _ _ _ _ rfl (dD D 2) (dD D 5)) ?_
    exact fz
   intro w3 k3
   simp only [F8]
   have kw3:=k2.trans k3
   have z3:=k3.size
   have HB53:=Kj (HB52.out.kept k3)
   have HB43:=Kj (HB42.out.kept k3)
   have HBI3:=Kj (HBI2.out.kept k3)
   have HO3:=Kj (JJ HO2.out k3)
   clear HB52 HB42 HBI2 HO2 k3 k2 hr hst he HE0
   obtain ⟨fo,fb,hfd⟩:∃ fo fb,B.find o.tr o.id=(fo,fb):=⟨_,_,rfl⟩
   have HFD:=Kj hfd
   have HFB:Hid (B.has o.tr o.id=fb):=by show _=_;unfold Bok.has;rw [hfd]
   clear hfd
   go_upto_region 6 with fail
   refine QZ 10 [pE p 0,pE bi 0,iE o.tr,pE bi 1,iE o.id,.eq (.tuple #[fo.v,.bool fb]),.eq (.tuple #[fo.v,.bool fb]),.eq (fo.v),bE fb,.fresh w3.heap.size 30 JV.cells] rfl (by kernel_rfl) ?_ ?_
   ·refine mE 1 0 ?_
    refine fE 2 3 30 0 0 0 ?_
    refine lD 3 30 1 Tryz.underlying3 (fun u hk=>JY (JJ HO3.out hk) 0 _ rfl) ?_
    refine fE 4 3 30 1 1 0 ?_
    refine lD 5 32 3 Tryz.underlying3 (fun u hk=>JY (JJ HO3.out hk) 1 _ rfl) ?_
    refine cS 6 22 [.pointer (some ⟨p,0,none⟩),.int .i64 o.tr,.int .i64 o.id] rfl Tryz.func22 rfl (fun a u E D hk=>⟨ll (dD D 0) (ll (dD D 2) (ll (dD D 4) rfl)),(by have h:=rbfind_any u F p B o.tr o.id (HB.out.kept (kw3.trans hk)) HI.out;rw [HFD.out] at h;exact h)⟩) ?_
    refine mD 7 34 5 ?_
    refine sW 8 rfl (fun a u E D hk=>QU _ [fo.v,.bool fb] 0 (fo.v) rfl (dD D 6) rfl) ?_
    refine sW 9 rfl (fun a u E D hk=>QU _ [fo.v,.bool fb] 1 (.bool fb) rfl (dD D 6) rfl) ?_
    refine nW 10 rfl (fun a u E D hk=>⟨_,_,QW 30 JV.cells rfl zO,⟨_,rfl,hk.size,Blk.new u _ _⟩,((Keep.refl _ u).alloc _)⟩) ?_
    exact fz
   intro gv w4 hV k4
   rw [dq 10 [29,30,31,32,33,34,28,35,36,7]]
   simp only [Fz7]
   have hv7:(.fresh w3.heap.size 30 JV.cells:Kn).p (gv 7) w4:=hV 9 7 (by kernel_rfl)
   generalize gv 7=v7 at hv7 ⊢
   rw [gQ hV 7 35 fo.v]
   rw [gQ hV 8 36 (.bool fb)]
   clear hV
   obtain ⟨b7,rfl,hb7,hB7⟩:=hv7
   refine Qj 30 b7 30 JV.cells fo.cells _ _ rfl rfl (by kernel_rfl) (by kernel_rfl) hB7 (by rw [Ord.len9];exact JX) (by rw [Ord.len9,Ord.len9]) (Ord.one1 _) ?_
   intro w5 hB75 hk5 hs5
   simp only [Act.put]
   refine Jx (.bool fb) rfl (JQ _ _ rfl (by kernel_rfl)) ?_
   simp only [Act.put,sA,sS,sZ]
   refine Kx ?_
   have k35:Kept w3 w5:=k4.trans' hk5 (by omega)
   have kw5:=kw3.trans k35
   have z5:=k35.size
   have HB55:=Kj (HB53.out.kept k35)
   have HB45:=Kj (HB43.out.kept k35)
   have HBI5:=Kj (HBI3.out.kept k35)
   have HO5:=Kj (JJ HO3.out k35)
   clear HB53 HB43 HBI3 HO3 hB7 hB75 hk5 hs5 k4 k35 kw3 HFD
   go_upto_region 7 with fail
   refine wE 1 [bV fb] [37] ?_ ?_
   ·refine mE 1 8 ?_
    exact fz
   intro w6 k6
   simp only [F8]
   have kw6:=kw5.trans k6
   have z6:=k6.size
   have HB56:=Kj (HB55.out.kept k6)
   have HB46:=Kj (HB45.out.kept k6)
   have HBI6:=Kj (HBI5.out.kept k6)
   have HO6:=Kj (JJ HO5.out k6)
   clear HB55 HB45 HBI5 HO5 k6 kw5
   cases fb with
   | true=>
    have HERR:=Kj (rerr_5 HRS.out HFB.out)
    have HA:Hid (B.add o=(⟨o,[],o.qty,false,false,5⟩,B)):=by show _=_;rw [yx (by rw [HERR.out];decide),HERR.out]
    have kE:Kept w w6:=kw6
    have HE5:=Kj (HB56.out)
    have HE4:=Kj (HB46.out)
    go_upto_region 8 with fail
    refine wEp 1 [pV b5 14] [38] ?_ ?_
    ·refine fE 1 5 58 6 14 0 ?_
     exact fz
    intro we ke
    simp only [F8]
    refine Zz 56 b5 14 58 _ (.int .i64 5) _ (.const (.int .i64 5)) rfl rfl (by kernel_rfl) (by kernel_rfl) rfl rfl rfl (HE5.out.kept ke) (by rw [Oc.len15];omega) ?_
    intro wf hF hkf hsf
    simp only [Act.put]
    refine Kx ?_
    rw [Oc.set_err] at hF
    have kf:Kept w wf:=(kE.trans ke).trans' hkf (by omega)
    have HF5:Hid (Blk wf b5 58 ((Oc.mk o [] o.qty false false 5).cells (.slice none 0 0))):=hF
    have HF4:=Kj ((HE4.out.kept ke).keep hkf (by omega))
    clear hF hkf hsf ke HE5 HE4 kE HERR
    go_upto_region 9 with fail
    refine wEp 1 [(Oc.mk o [] o.qty false false 5).v (.slice none 0 0)] [39] ?_ ?_
    ·refine sE 1 5 b5 0 ((Oc.mk o [] o.qty false false 5).cells (.slice none 0 0)) Tryz.underlying58 (fun u hk=>JW (HF5.out.kept hk)) (by rw [Oc.len15];exact szC) ?_
     exact fz
    intro wy ky
    simp only [F8]
    refine Qj 58 b4 58 (Xq.cells (.slice none 0 0)) ((Oc.mk o [] o.qty false false 5).cells (.slice none 0 0)) _ _ rfl rfl (by kernel_rfl) (by kernel_rfl) (HF4.out.kept ky) (by rw [Oc.len15];exact szC) (by rw [Oc.len15,Oc.len15]) (Oc.one _ _ rfl) ?_
    intro wx hBx hkx hsx
    simp only [Act.put]
    refine Kx ?_
    go_wp2
    refine bodyPost_ret (XZ (p:=4) rfl _ _ b4 _ ((Oc.mk o [] o.qty false false 5).cells (.slice none 0 0)) rfl hBx Tryz.underlying58 (by rw [Oc.len15];exact szC)) rfl ?_
    rw [HA.out]
    have kk:Kept w wx:=(kf.trans ky).trans' hkx (by omega)
    exact ⟨F,.slice none 0 0,rfl,HB.out.kept kk,Sl.nil _ _ _,fun b hb=>by simp [Value.ownBlock] at hb,Grow.refl _ _,Keep.mono (T:=F) kk (fun _ _ h=>h.elim)⟩
   | false=>
    obtain ⟨bf,hbf⟩:∃ bf,((decide ((o.k:Int)=(1:Int)) || decide ((o.k:Int)=(5:Int))) && decide ((64:Int)≤((B.len:Int):Int)))=bf:=⟨_,rfl⟩
    have HBF:=Kj hbf
    clear hbf
    go_upto_region 10 with fail
    refine wT 13 [pE bi 4,iE o.k,bE (decide ((o.k:Int)=(1:Int))),bE (decide ((o.k:Int)=(1:Int))),.cond (!(decide ((o.k:Int)=(1:Int)))) (pE bi 4),.cond (!(decide ((o.k:Int)=(1:Int)))) (iE o.k),.cond (!(decide ((o.k:Int)=(1:Int)))) (bE (decide ((o.k:Int)=(5:Int)))),bE ((decide ((o.k:Int)=(1:Int))) || (decide ((o.k:Int)=(5:Int)))),bE ((decide ((o.k:Int)=(1:Int))) || (decide ((o.k:Int)=(5:Int)))),.cond ((decide ((o.k:Int)=(1:Int))) || (decide ((o.k:Int)=(5:Int)))) (pE p 0),.cond ((decide ((o.k:Int)=(1:Int))) || (decide ((o.k:Int)=(5:Int)))) (iE (B.len:Int)),.cond ((decide ((o.k:Int)=(1:Int))) || (decide ((o.k:Int)=(5:Int)))) (bE (decide ((64:Int)≤((B.len:Int):Int)))),bE bf] [40,41,42,43,44,45,46,47,48,49,50,51,52] ?_ ?_
    ·refine fE 1 3 30 4 4 0 ?_
     refine lD 2 40 0 Tryz.underlying3 (fun u hk=>JY (JJ HO6.out hk) 4 _ rfl) ?_
     refine sW 3 rfl (fun a u E D hk=>JU rfl (dD D 1) rfl) ?_
     refine mD 4 42 2 ?_
     refine uC 5 3 rfl (fun a u E D hk hb=>QV 30 4 4 _ (bi) (0) (4) rfl (eE E) (by kernel_rfl) rfl) ?_
     refine uC 6 3 rfl (fun a u E D hk hb=>QX _ Tryz.underlying3 _ _ _ rfl ((D 4 44 (by kernel_rfl)).1 hb) (JY (JJ HO6.out hk) 4 _ rfl)) ?_
     refine uC 7 3 rfl (fun a u E D hk hb=>JU rfl ((D 5 45 (by kernel_rfl)).1 hb) rfl) ?_
     refine sW 8 rfl (fun a u E D hk=>VQ _ _ _ ((decide ((o.k:Int)=(1:Int)))) ((decide ((o.k:Int)=(5:Int)))) rfl (dD D 3) rfl (fun hb2=>((D 6 46 (by kernel_rfl)).1 hb2))) ?_
     refine mD 9 47 7 ?_
     refine iC 10 8 rfl (fun a u E D hk hb=>Jj _ _ rfl (eE E)) ?_
     refine QY 11 rfl (fun a u hE hD hk=>f_if _ rfl rfl rfl (dD hD 8) (fun hb=>VJ 52 #[.pointer (some ⟨p,0,none⟩)] rfl (Vq rfl rfl (dD hD 8) (WJ hb)) (Jq 52 _ [.tmp 49] _ [.pointer (some ⟨p,0,none⟩)] Tryz.func52 (by kernel_rfl) (by kernel_rfl) rfl (show [a.eval (.tmp 49)]=[.pointer (some ⟨p,0,none⟩)] from (by rw [show a.eval (.tmp 49)=.pointer (some ⟨p,0,none⟩) from ((hD 9 49 (by kernel_rfl)).1 hb)] <;> rfl)) u) (rblen_any u F p B (HB.out.kept (kw6.trans hk)) HI.out))) ?_
     refine iC 12 8 rfl (fun a u E D hk hb=>WV rfl ((D 10 50 (by kernel_rfl)).1 hb) rfl) ?_
     refine aS 13 rfl (fun a u E D hk=>Xj _ _ _ (((decide ((o.k:Int)=(1:Int))) || (decide ((o.k:Int)=(5:Int))))) ((decide ((64:Int)≤((B.len:Int):Int)))) rfl (dD D 8) (fun hb2=>((D 11 51 (by kernel_rfl)).1 hb2)) rfl) HBF.out ?_
     exact fz
    intro gv w7 hV k7
    simp only [Fz7]
    rw [gQ hV 12 52 (.bool bf)]
    clear hV
    have kw7:=kw6.trans k7
    have z7:=k7.size
    have HB57:=Kj (HB56.out.kept k7)
    have HB47:=Kj (HB46.out.kept k7)
    have HBI7:=Kj (HBI6.out.kept k7)
    have HO7:=Kj (JJ HO6.out k7)
    clear HB56 HB46 HBI6 HO6 k7 kw6
    cases bf with
    | true=>
     have HERR:=Kj (rerr_4 HRS.out HFB.out (by have:=HBF.out;simp at this;exact ⟨this.1,by omega⟩))
     have HA:Hid (B.add o=(⟨o,[],o.qty,false,false,4⟩,B)):=by show _=_;rw [yx (by rw [HERR.out];decide),HERR.out]
     have kE:Kept w w7:=kw7
     have HE5:=Kj (HB57.out)
     have HE4:=Kj (HB47.out)
     go_upto_region 11 with fail
     refine wEp 1 [pV b5 14] [53] ?_ ?_
     ·refine fE 1 5 58 6 14 0 ?_
      exact fz
     intro we ke
     simp only [F8]
     refine Zz 56 b5 14 58 _ (.int .i64 4) _ (.const (.int .i64 4)) rfl rfl (by kernel_rfl) (by kernel_rfl) rfl rfl rfl (HE5.out.kept ke) (by rw [Oc.len15];omega) ?_
     intro wf hF hkf hsf
     simp only [Act.put]
     refine Kx ?_
     rw [Oc.set_err] at hF
     have kf:Kept w wf:=(kE.trans ke).trans' hkf (by omega)
     have HF5:Hid (Blk wf b5 58 ((Oc.mk o [] o.qty false false 4).cells (.slice none 0 0))):=hF
     have HF4:=Kj ((HE4.out.kept ke).keep hkf (by omega))
     clear hF hkf hsf ke HE5 HE4 kE HERR
     go_upto_region 12 with fail
     refine wEp 1 [(Oc.mk o [] o.qty false false 4).v (.slice none 0 0)] [54] ?_ ?_
     ·refine sE 1 5 b5 0 ((Oc.mk o [] o.qty false false 4).cells (.slice none 0 0)) Tryz.underlying58 (fun u hk=>JW (HF5.out.kept hk)) (by rw [Oc.len15];exact szC) ?_
      exact fz
     intro wy ky
     simp only [F8]
     refine Qj 58 b4 58 (Xq.cells (.slice none 0 0)) ((Oc.mk o [] o.qty false false 4).cells (.slice none 0 0)) _ _ rfl rfl (by kernel_rfl) (by kernel_rfl) (HF4.out.kept ky) (by rw [Oc.len15];exact szC) (by rw [Oc.len15,Oc.len15]) (Oc.one _ _ rfl) ?_
     intro wx hBx hkx hsx
     simp only [Act.put]
     refine Kx ?_
     go_wp2
     refine bodyPost_ret (XZ (p:=4) rfl _ _ b4 _ ((Oc.mk o [] o.qty false false 4).cells (.slice none 0 0)) rfl hBx Tryz.underlying58 (by rw [Oc.len15];exact szC)) rfl ?_
     rw [HA.out]
     have kk:Kept w wx:=(kf.trans ky).trans' hkx (by omega)
     exact ⟨F,.slice none 0 0,rfl,HB.out.kept kk,Sl.nil _ _ _,fun b hb=>by simp [Value.ownBlock] at hb,Grow.refl _ _,Keep.mono (T:=F) kk (fun _ _ h=>h.elim)⟩
    | false=>
     have HNF:Hid (¬ ((o.k=1∨o.k=5)∧64≤B.len)):=fun h=>by
      have:=HBF.out
      simp at this
      have:=this h.1
      omega
     obtain ⟨k,h12,hk⟩:∃ k:Nat,(k=1∨k=2)∧3-o.side=(k:Int):=by
      have h1:=HRI.out
      by_cases h2:o.side=1
      ·exact ⟨2,.inr rfl,by omega⟩
      exact ⟨1,.inl rfl,by omega⟩
     have HSD:=Kj hk
     obtain ⟨L,hLe⟩:∃ L,B.sd (k:Int)=L:=⟨_,rfl⟩
     have hL:LvsOk L:=by rw [← hLe];exact HI.out.ok _
     obtain ⟨v,F1,hv0,Z,G,eL,hW⟩:=(HB.out.kept kw7).way h12
     rw [hLe] at eL
     have HLe:=Kj hLe
     have HV:=Kj hv0
     have HW:=Kj hW
     have EL:=Kj eL
     obtain ⟨n,hnn⟩:∃ n,Z.length=n:=⟨_,rfl⟩
     have HSL:=Kj hW.sl
     rw [hnn] at HSL
     have HN:=Kj hnn
     clear hLe hL hv0 hW eL hnn HBF
     go_upto_region 13 with fail
     refine wGp 8 [pV p 0,pV bi 3,iV o.side,iV (k:Int),pV p 0,pV p 0,pV p (0+k*1),v] [55,56,57,58,59,60,61,62] ?_ ?_
     ·refine mE 1 0 ?_
      refine fE 2 3 30 3 3 0 ?_
      refine lD 3 56 1 Tryz.underlying3 (fun u hk=>JY (JJ HO7.out hk) 3 _ rfl) ?_
      refine sW 4 rfl (fun a u E D hk=>Vj (k:Int) (p:=(3:Int)) (q:=o.side) rfl rfl (dD D 2) (by omega) (by omega) (by omega)) ?_
      refine nD 5 55 0 ?_
      refine fD 6 59 4 51 0 0 0 ?_
      refine sW 7 rfl (fun a u E D hk=>VU 49 48 3 1 _ _ p 0 k rfl Tryz.underlying49 (by kernel_rfl) (dD D 5) (dD D 3) (by omega)) ?_
      refine sW 8 rfl (fun a u E D hk=>Jy _ _ Tryz.underlying48 _ _ _ rfl (dD D 6) (Kept.cell hk (HV.out))) ?_
      exact fz
     intro w13 k13
     simp only [F8]
     refine Jx (v) rfl (JQ _ _ rfl (by kernel_rfl)) ?_
     simp only [Act.put,sA,sS,sZ]
     refine Kx ?_
     have kw13:=kw7.trans k13
     have z13:=k13.size
     have HB513:=Kj (HB57.out.kept k13)
     have HB413:=Kj (HB47.out.kept k13)
     have HBI13:=Kj (HBI7.out.kept k13)
     have HO13:=Kj (JJ HO7.out k13)
     have HW13:=Kj (HW.out.kept k13)
     have HSL13:=Kj (HSL.out.kept k13)
     clear HB57 HB47 HBI7 HO7 k13 kw7 HV HW HSL hk
     obtain ⟨bm,hbm⟩:∃ bm,(decide (o.k=5) && o.meets L)=bm:=⟨_,rfl⟩
     have HBM:=Kj hbm
     clear hbm
     go_upto_region 14 with fail
     go_cut [80] (fun a wx=>a=.bool bm∧Kept w13 wx)
     case first=>
      by_cases hk5:o.k=5
      ·by_cases hn0:0<n
       ·obtain ⟨gs,os,c,rfl⟩:=HSL13.out.some_ hn0
        obtain ⟨z,ZR,hZ⟩:∃ z ZR,Z=z::ZR:=by
         cases Z with
         | nil=>have:=HN.out;simp at this;omega
         | cons z ZR=>exact ⟨z,ZR,rfl⟩
        subst hZ
        obtain ⟨q,pr,X⟩:=z
        have HC:Hid (w13.cell? ⟨gs,os,none⟩=some (.pointer (some ⟨q,0,none⟩))):=by
         show _=_
         have hW:=HW13.out
         have e:=HN.out
         rw [← e] at hW
         have:=hW.cell (i:=0) (z:=(q,pr,X)) rfl
         simpa using this
        have HPC:Hid (w13.cell? ⟨q,0,none⟩=some (.int .i64 pr)):=by
         show _=_
         obtain ⟨_,_,x,hx,_⟩:=HW13.out.lv (q,pr,X) (by simp)
         rw [hx.cell]
         rfl
        have HCR:Hid (o.crosses pr=bm):=by
         show _=_
         have:=HBM.out
         rw [← EL.out,Wy] at this
         simpa [hk5,Ord.meets] using this
        refine wG 18 [pV bi 4,iV o.k,bV true,bV true,.slice (some ⟨gs,os,none⟩) n c,iV (n:Int),bV true,bV true,bV true,o.v,.slice (some ⟨gs,os,none⟩) n c,pV gs os,pV q 0,pV q 0,pV q 0,iV pr,bV bm,bV bm] [63,64,65,66,67,68,69,70,71,72,73,74,75,76,77,78,79,80] ?_ ?_
        ·refine fE 1 3 30 4 4 0 ?_
         refine lD 2 63 0 Tryz.underlying3 (fun u hk=>JY (JJ HO13.out hk) 4 _ rfl) ?_
         refine aS 3 rfl (fun a u E D hk=>JU rfl (dD D 1) rfl) (Ky (by omega)) ?_
         refine mD 4 65 2 ?_
         refine mE 5 9 ?_
         refine sW 6 rfl (fun a u E D hk=>Qq _ Vy _ _ _ _ rfl (dD D 4) HSL13.out) ?_
         refine aS 7 rfl (fun a u E D hk=>XX rfl (dD D 5) rfl) (Ky (by omega)) ?_
         refine pT 8 66 69 3 6 ?_
         refine mD 9 70 7 ?_
         refine sE 10 3 bi 0 o.cells Tryz.underlying30 (fun u hk=>JJ HO13.out hk) (by rw [o.len9];exact JX) ?_
         refine mE 11 9 ?_
         refine sW 12 rfl (fun a u E D hk=>Jz Vy _ _ (gs) (os) n c 0 (os) (0) rfl (dD D 10) rfl (by first | rfl | omega) ((by omega)) (by first | rfl | omega)) ?_
         refine sW 13 rfl (fun a u E D hk=>XY _ _ Tryz.underlying85 _ _ _ rfl (dD D 11) (Kept.cell hk (HC.out))) ?_
         refine nD 14 75 12 ?_
         refine fD 15 76 13 88 0 0 0 ?_
         refine lD 16 77 14 Tryz.underlying3 (fun u hk=>Kept.cell hk (HPC.out)) ?_
         refine cS 17 53 [o.v,.int .i64 pr] rfl Tryz.func53 rfl (fun a u E D hk=>⟨ll (dD D 9) (ll (dD D 15) rfl),(by have h:=JJx o pr u;rw [HCR.out] at h;exact h)⟩) ?_
         refine pT 18 71 79 8 16 ?_
         exact fz
        intro w14 k14
        simp only [F8]
        go_wp2
        go_meet
        case rel=>exact ⟨rfl,k14⟩
       have hb0:bm=false:=by
        have hz:Z=[]:=List.eq_nil_of_length_eq_zero (by rw [HN.out];omega)
        rw [← HBM.out,← EL.out,hz]
        simp [levs,Ord.meets]
       subst hb0
       refine wG 18 [pV bi 4,iV o.k,bV true,bV true,v,iV (n:Int),bV false,bV false,bV false,undef,undef,undef,undef,undef,undef,undef,undef,bV false] [63,64,65,66,67,68,69,70,71,72,73,74,75,76,77,78,79,80] ?_ ?_
       ·refine fE 1 3 30 4 4 0 ?_
        refine lD 2 63 0 Tryz.underlying3 (fun u hk=>JY (JJ HO13.out hk) 4 _ rfl) ?_
        refine aS 3 rfl (fun a u E D hk=>JU rfl (dD D 1) rfl) (Ky (by omega)) ?_
        refine mD 4 65 2 ?_
        refine mE 5 9 ?_
        refine sW 6 rfl (fun a u E D hk=>Qq _ Vy _ _ _ _ rfl (dD D 4) HSL13.out) ?_
        refine aS 7 rfl (fun a u E D hk=>XX rfl (dD D 5) rfl) (Ku (by omega)) ?_
        refine pT 8 66 69 3 6 ?_
        refine mD 9 70 7 ?_
        refine kS 10 8 ?_
        refine kS 11 8 ?_
        refine kS 12 8 ?_
        refine kS 13 8 ?_
        refine kS 14 8 ?_
        refine kS 15 8 ?_
        refine kS 16 8 ?_
        refine kS 17 8 ?_
        refine pF 18 71 8 ?_
        exact fz
       intro w14 k14
       simp only [F8]
       go_wp2
       go_meet
       case rel=>exact ⟨rfl,k14⟩
      have hb0:bm=false:=by
       rw [← HBM.out]
       simp [hk5]
      subst hb0
      refine wG 18 [pV bi 4,iV o.k,bV false,bV false,undef,undef,undef,bV false,bV false,undef,undef,undef,undef,undef,undef,undef,undef,bV false] [63,64,65,66,67,68,69,70,71,72,73,74,75,76,77,78,79,80] ?_ ?_
      ·refine fE 1 3 30 4 4 0 ?_
       refine lD 2 63 0 Tryz.underlying3 (fun u hk=>JY (JJ HO13.out hk) 4 _ rfl) ?_
       refine aS 3 rfl (fun a u E D hk=>JU rfl (dD D 1) rfl) (Ku (by omega)) ?_
       refine mD 4 65 2 ?_
       refine kS 5 3 ?_
       refine kS 6 3 ?_
       refine kS 7 3 ?_
       refine pF 8 66 3 ?_
       refine mD 9 70 7 ?_
       refine kS 10 8 ?_
       refine kS 11 8 ?_
       refine kS 12 8 ?_
       refine kS 13 8 ?_
       refine kS 14 8 ?_
       refine kS 15 8 ?_
       refine kS 16 8 ?_
       refine kS 17 8 ?_
       refine pF 18 71 8 ?_
       exact fz
      intro w14 k14
      simp only [F8]
      go_wp2
      go_meet
      case rel=>exact ⟨rfl,k14⟩
     obtain ⟨rfl,hcut⟩:=hcut
     obtain ⟨w14,hw14⟩:∃ y,y=wc:=⟨_,rfl⟩
     subst hw14
     have kw14:=kw13.trans hcut
     have z14:=hcut.size
     have HB514:=Kj (HB513.out.kept hcut)
     have HB414:=Kj (HB413.out.kept hcut)
     have HBI14:=Kj (HBI13.out.kept hcut)
     have HO14:=Kj (JJ HO13.out hcut)
     clear HB513 HB413 HBI13 HO13 HW13 HSL13 EL HN kw13 hcut
     cases bm with
     | true=>
      have HERR:=Kj (rerr_11 HRS.out HFB.out HNF.out (by have:=HBM.out;simp at this;exact ⟨this.1,by rw [HSD.out,HLe.out];exact this.2⟩))
      have HA:Hid (B.add o=(⟨o,[],o.qty,false,false,11⟩,B)):=by show _=_;rw [yx (by rw [HERR.out];decide),HERR.out]
      have kE:Kept w w14:=kw14
      have HE5:=Kj (HB514.out)
      have HE4:=Kj (HB414.out)
      go_upto_region 15 with fail
      refine wEp 1 [pV b5 14] [81] ?_ ?_
      ·refine fE 1 5 58 6 14 0 ?_
       exact fz
      intro we ke
      simp only [F8]
      refine Zz 56 b5 14 58 _ (.int .i64 11) _ (.const (.int .i64 11)) rfl rfl (by kernel_rfl) (by kernel_rfl) rfl rfl rfl (HE5.out.kept ke) (by rw [Oc.len15];omega) ?_
      intro wf hF hkf hsf
      simp only [Act.put]
      refine Kx ?_
      rw [Oc.set_err] at hF
      have kf:Kept w wf:=(kE.trans ke).trans' hkf (by omega)
      have HF5:Hid (Blk wf b5 58 ((Oc.mk o [] o.qty false false 11).cells (.slice none 0 0))):=hF
      have HF4:=Kj ((HE4.out.kept ke).keep hkf (by omega))
      clear hF hkf hsf ke HE5 HE4 kE HERR
      go_upto_region 16 with fail
      refine wEp 1 [(Oc.mk o [] o.qty false false 11).v (.slice none 0 0)] [82] ?_ ?_
      ·refine sE 1 5 b5 0 ((Oc.mk o [] o.qty false false 11).cells (.slice none 0 0)) Tryz.underlying58 (fun u hk=>JW (HF5.out.kept hk)) (by rw [Oc.len15];exact szC) ?_
       exact fz
      intro wy ky
      simp only [F8]
      refine Qj 58 b4 58 (Xq.cells (.slice none 0 0)) ((Oc.mk o [] o.qty false false 11).cells (.slice none 0 0)) _ _ rfl rfl (by kernel_rfl) (by kernel_rfl) (HF4.out.kept ky) (by rw [Oc.len15];exact szC) (by rw [Oc.len15,Oc.len15]) (Oc.one _ _ rfl) ?_
      intro wx hBx hkx hsx
      simp only [Act.put]
      refine Kx ?_
      go_wp2
      refine bodyPost_ret (XZ (p:=4) rfl _ _ b4 _ ((Oc.mk o [] o.qty false false 11).cells (.slice none 0 0)) rfl hBx Tryz.underlying58 (by rw [Oc.len15];exact szC)) rfl ?_
      rw [HA.out]
      have kk:Kept w wx:=(kf.trans ky).trans' hkx (by omega)
      exact ⟨F,.slice none 0 0,rfl,HB.out.kept kk,Sl.nil _ _ _,fun b hb=>by simp [Value.ownBlock] at hb,Grow.refl _ _,Keep.mono (T:=F) kk (fun _ _ h=>h.elim)⟩
     | false=>
      have HNM:Hid (¬ (o.k=5∧o.meets (B.sd (3-o.side))=true)):=fun h=>by
       have:=HBM.out
       rw [HSD.out,HLe.out] at h
       simp [h.1,h.2] at this
      clear HBM
      have hsd:o.side=1∨o.side=2:=by have:=HRI.out;omega
      have HS12:=Kj hsd
      have HQ:=Kj (JJZ HRS.out.1)
      obtain ⟨m,hm⟩:∃ m,B.matched o=m:=⟨_,rfl⟩
      have HMM:=Kj hm
      obtain ⟨bk,hbk⟩:∃ bk,decide ((o.k:Int)=(4:Int))=bk:=⟨_,rfl⟩
      have HBK:=Kj hbk
      clear hm hbk hsd
      go_upto_region 17 with fail
      refine wE 3 [pV bi 4,iV o.k,bV bk] [83,84,85] ?_ ?_
      ·refine fE 1 3 30 4 4 0 ?_
       refine lD 2 83 0 Tryz.underlying3 (fun u hk=>JY (JJ HO14.out hk) 4 _ rfl) ?_
       refine aS 3 rfl (fun a u E D hk=>JU rfl (dD D 1) rfl) HBK.out ?_
       exact fz
      intro w17 k17
      simp only [F8]
      have kw17:=kw14.trans k17
      have z17:=k17.size
      have HB517:=Kj (HB514.out.kept k17)
      have HB417:=Kj (HB414.out.kept k17)
      have HBI17:=Kj (HBI14.out.kept k17)
      have HO17:=Kj (JJ HO14.out k17)
      clear HB514 HB414 HBI14 HO14 k17 kw14
      go_upto_if 85 with fail
      go_cut [10,11,12] (fun _ _ _ wx=>Hid (B.err o=0)∧Kept w17 wx)
      case first=>
       cases bk with
       | false=>
        have HER0:=Kj (rerr_0 HRS.out HFB.out HNF.out HNM.out (fun h=>by have:=HBK.out;simp at this;exact this h.1))
        go_wp2
        go_meet
        case rel=>exact ⟨HER0,Kept.refl _⟩
       | true=>
        have zd:=(Keep.drew (Keep.refl (fun _=>False) w17)).size
        go_upto_region 18 with fail
        refine wp_sched (fun u=>Kept w17 u) [(0,0),(2,0),(1,1),(3,1),(4,0),(5,0),(6,0),(7,0),(8,0),(9,0),(10,0)] (by kernel_rfl) (by kernel_rfl) (Keep.drew (Keep.refl _ w17)) ?_
        refine qz (o:=⟨some 87,_,_,_,_,_⟩) (.pointer (some ⟨p,0,none⟩)) rfl (by kernel_rfl) (fun u hu=>Jj (.tmp 0) (.pointer (some ⟨p,0,none⟩)) rfl (by kernel_rfl)) ?_
        simp only [Act.put,sA,sS,sZ]
        refine qz (o:=⟨some 89,_,_,_,_,_⟩) (o.v) rfl (by kernel_rfl) (fun u hu=>xJ 30 _ (.tmp 3) bi 0 o.cells rfl (by kernel_rfl) (JJ HO17.out hu) Tryz.underlying30 (by rw [o.len9];exact JX)) ?_
        simp only [Act.put,sA,sS,sZ]
        refine s_call (o:=⟨some 88,_,_,_,_,_⟩) 54 #[.pointer (some ⟨p,0,none⟩)] rfl (by kernel_rfl) (Jq 54 _ [.tmp 87] _ _ Tryz.func54 (by kernel_rfl) (by kernel_rfl) rfl (by kernel_rfl)) ?_
        refine (rbcopied_any w17.drew F p B (HB.out.kept (Keep.drew kw17)) HI.out).mono ?_
        rintro e w18 ⟨r,Fr,rfl,hRr,hFr,k18⟩
        have hk18:Kept w17 w18:=Kept.trans (Keep.drew (Keep.refl _ w17)) k18
        refine ⟨_,rfl,hk18,?_⟩
        simp only [Act.put,sA,sS,sZ]
        refine s_call (o:=⟨some 90,_,_,_,_,_⟩) 55 #[.pointer (some ⟨r,0,none⟩),o.v] rfl (by kernel_rfl) (Jq 55 _ [.tmp 88,.tmp 89] _ _ Tryz.func55 (by kernel_rfl) (by kernel_rfl) rfl (by kernel_rfl)) ?_
        refine (rbmatch_any w18 Fr r B o hRr HI.out HS12.out HQ.out hn).mono ?_
        rintro e w19 ⟨F4,vr,rfl,hb4',hv4,ho4,hg4,hk4⟩
        have k1719:Kept w17 w19:=Keep.trans hk18 hk4 (fun b hb h=>by have:=hFr b h;omega)
        refine ⟨.tuple #[vr,.int .i64 m.left,.bool m.self],by rw [HMM.out],k1719,?_⟩
        simp only [Act.put,sA,sS,sZ]
        refine qz (o:=⟨some 86,_,_,_,_,_⟩) (.tuple #[vr,.int .i64 m.left,.bool m.self]) rfl (by kernel_rfl) (fun u hu=>Jj (.tmp 90) (.tuple #[vr,.int .i64 m.left,.bool m.self]) rfl (by kernel_rfl)) ?_
        simp only [Act.put,sA,sS,sZ]
        refine qz (o:=⟨some 91,_,_,_,_,_⟩) (vr) rfl (by kernel_rfl) (fun u hu=>QU (.tmp 86) [vr,.int .i64 m.left,.bool m.self] 0 vr rfl (by kernel_rfl) rfl) ?_
        simp only [Act.put,sA,sS,sZ]
        refine qz (o:=⟨some 92,_,_,_,_,_⟩) (.int .i64 m.left) rfl (by kernel_rfl) (fun u hu=>QU (.tmp 86) [vr,.int .i64 m.left,.bool m.self] 1 (.int .i64 m.left) rfl (by kernel_rfl) rfl) ?_
        simp only [Act.put,sA,sS,sZ]
        refine qz (o:=⟨some 93,_,_,_,_,_⟩) (.bool m.self) rfl (by kernel_rfl) (fun u hu=>QU (.tmp 86) [vr,.int .i64 m.left,.bool m.self] 2 (.bool m.self) rfl (by kernel_rfl) rfl) ?_
        simp only [Act.put,sA,sS,sZ]
        refine qz (o:=⟨some 10,_,_,_,_,_⟩) (vr) rfl (by kernel_rfl) (fun u hu=>JQ (.tmp 91) (vr) rfl (by kernel_rfl)) ?_
        simp only [Act.put,sA,sS,sZ]
        refine qz (o:=⟨some 11,_,_,_,_,_⟩) (.int .i64 m.left) rfl (by kernel_rfl) (fun u hu=>JQ (.tmp 92) (.int .i64 m.left) rfl (by kernel_rfl)) ?_
        simp only [Act.put,sA,sS,sZ]
        refine qz (o:=⟨some 12,_,_,_,_,_⟩) (.bool m.self) rfl (by kernel_rfl) (fun u hu=>JQ (.tmp 93) (.bool m.self) rfl (by kernel_rfl)) ?_
        simp only [Act.put,sA,sS,sZ]
        refine s_done ?_
        have z19:=k1719.size
        obtain ⟨bl,hbl⟩:∃ bl,decide ((0:Int)<(m.left:Int))=bl:=⟨_,rfl⟩
        have HBL:=Kj hbl
        clear hb4' hv4 ho4 hg4 hk4 hRr hFr k18 hk18 hbl
        go_upto_region 19 with fail
        refine wE 2 [iV m.left,bV bl] [94,95] ?_ ?_
        ·refine mE 1 11 ?_
         refine aS 2 rfl (fun a u E D hk=>XX rfl (dD D 0) rfl) HBL.out ?_
         exact fz
        intro w20 k20
        simp only [F8]
        have k1720:=k1719.trans k20
        cases bl with
        | false=>
         have HER0:=Kj (rerr_0 HRS.out HFB.out HNF.out HNM.out (fun h=>by have:=HBL.out;rw [HMM.out] at h;simp at this;have:=h.2;omega))
         go_wp2
         go_meet
         case rel=>exact ⟨HER0,k1720⟩
        | true=>
         have HERR:=Kj (rerr_12 HRS.out HFB.out HNF.out HNM.out ⟨by have:=HBK.out;simpa using this,by have:=HBL.out;rw [HMM.out];simpa using this⟩)
         have HA:Hid (B.add o=(⟨o,[],o.qty,false,false,12⟩,B)):=by show _=_;rw [yx (by rw [HERR.out];decide),HERR.out]
         have kE:Kept w w20:=kw17.trans k1720
         have HE5:=Kj (HB517.out.kept k1720)
         have HE4:=Kj (HB417.out.kept k1720)
         go_upto_region 20 with fail
         refine wEp 1 [pV b5 14] [96] ?_ ?_
         ·refine fE 1 5 58 6 14 0 ?_
          exact fz
         intro we ke
         simp only [F8]
         refine Zz 56 b5 14 58 _ (.int .i64 12) _ (.const (.int .i64 12)) rfl rfl (by kernel_rfl) (by kernel_rfl) rfl rfl rfl (HE5.out.kept ke) (by rw [Oc.len15];omega) ?_
         intro wf hF hkf hsf
         simp only [Act.put]
         refine Kx ?_
         rw [Oc.set_err] at hF
         have kf:Kept w wf:=(kE.trans ke).trans' hkf (by omega)
         have HF5:Hid (Blk wf b5 58 ((Oc.mk o [] o.qty false false 12).cells (.slice none 0 0))):=hF
         have HF4:=Kj ((HE4.out.kept ke).keep hkf (by omega))
         clear hF hkf hsf ke HE5 HE4 kE HERR
         go_upto_region 21 with fail
         refine wEp 1 [(Oc.mk o [] o.qty false false 12).v (.slice none 0 0)] [97] ?_ ?_
         ·refine sE 1 5 b5 0 ((Oc.mk o [] o.qty false false 12).cells (.slice none 0 0)) Tryz.underlying58 (fun u hk=>JW (HF5.out.kept hk)) (by rw [Oc.len15];exact szC) ?_
          exact fz
         intro wy ky
         simp only [F8]
         refine Qj 58 b4 58 (Xq.cells (.slice none 0 0)) ((Oc.mk o [] o.qty false false 12).cells (.slice none 0 0)) _ _ rfl rfl (by kernel_rfl) (by kernel_rfl) (HF4.out.kept ky) (by rw [Oc.len15];exact szC) (by rw [Oc.len15,Oc.len15]) (Oc.one _ _ rfl) ?_
         intro wx hBx hkx hsx
         simp only [Act.put]
         refine Kx ?_
         go_wp2
         refine bodyPost_ret (XZ (p:=4) rfl _ _ b4 _ ((Oc.mk o [] o.qty false false 12).cells (.slice none 0 0)) rfl hBx Tryz.underlying58 (by rw [Oc.len15];exact szC)) rfl ?_
         rw [HA.out]
         have kk:Kept w wx:=(kf.trans ky).trans' hkx (by omega)
         exact ⟨F,.slice none 0 0,rfl,HB.out.kept kk,Sl.nil _ _ _,fun b hb=>by simp [Value.ownBlock] at hb,Grow.refl _ _,Keep.mono (T:=F) kk (fun _ _ h=>h.elim)⟩
      obtain ⟨HE,hcut⟩:=hcut
      obtain ⟨w21,hw21⟩:∃ y,y=wc:=⟨_,rfl⟩
      subst hw21
      have kw21:=kw17.trans hcut
      have z21:=hcut.size
      have HB521:=Kj (HB517.out.kept hcut)
      have HB421:=Kj (HB417.out.kept hcut)
      have HBI21:=Kj (HBI17.out.kept hcut)
      have HO21:=Kj (JJ HO17.out hcut)
      have HAI:=Kj (add_is HI.out HE.out)
      clear HB517 HB417 HBI17 HO17 hcut kw17 HBK HNM HNF
      go_upto_region 22 with fail
      refine wEp 2 [pV p 0,o.v] [99,100] ?_ ?_
      ·refine mE 1 0 ?_
       refine sE 2 3 bi 0 o.cells Tryz.underlying30 (fun u hk=>JJ HO21.out hk) (by rw [o.len9];exact JX) ?_
       exact fz
      intro w22 k22
      simp only [F8]
      refine Yz 55 #[.pointer (some ⟨p,0,none⟩),o.v] rfl (Jq 55 _ [.tmp 99,.tmp 100] _ _ Tryz.func55 (by kernel_rfl) (by kernel_rfl) rfl (by kernel_rfl) _) ?_
      refine (rbmatch_any w22 F p B o (HB.out.kept (kw21.trans k22)) HI.out HS12.out HQ.out hn).mono ?_
      rintro e w23 ⟨F4,vf,rfl,hb4',hv4,ho4,hg4,hk4⟩
      rw [HMM.out] at hb4' hv4
      refine ⟨.tuple #[vf,.int .i64 m.left,.bool m.self],by rw [HMM.out],?_⟩
      have hO23:=(HB521.out.kept k22).keep hk4 h5F
      simp only [Act.put,sA,sS,sZ]
      refine Jx (.tuple #[vf,.int .i64 m.left,.bool m.self]) rfl (Jj _ _ rfl (by kernel_rfl)) ?_
      simp only [Act.put,sA,sS,sZ]
      refine Jx (vf) rfl (QU (.tmp 98) [vf,.int .i64 m.left,.bool m.self] 0 (vf) rfl (by kernel_rfl) rfl) ?_
      simp only [Act.put,sA,sS,sZ]
      refine Jx (.int .i64 m.left) rfl (QU (.tmp 98) [vf,.int .i64 m.left,.bool m.self] 1 (.int .i64 m.left) rfl (by kernel_rfl) rfl) ?_
      simp only [Act.put,sA,sS,sZ]
      refine Jx (.bool m.self) rfl (QU (.tmp 98) [vf,.int .i64 m.left,.bool m.self] 2 (.bool m.self) rfl (by kernel_rfl) rfl) ?_
      simp only [Act.put,sA,sS,sZ]
      refine Jx (.pointer (some ⟨b5,9,none⟩)) rfl (QV 58 1 9 (.tmp 5) (b5) (0) (9) rfl (by kernel_rfl) (by kernel_rfl) rfl) ?_
      simp only [Act.put,sA,sS,sZ]
      refine Zz 55 b5 9 58 _ vf _ _ rfl rfl (by kernel_rfl) (by kernel_rfl) (by kernel_rfl) (VV hv4) (Yq hv4) hO23 (by rw [Oc.len15];omega) ?_
      intro w24 hO24 hk24 hs24
      simp only [Act.put]
      refine Jx (.pointer (some ⟨b5,10,none⟩)) rfl (QV 58 2 10 (.tmp 5) (b5) (0) (10) rfl (by kernel_rfl) (by kernel_rfl) rfl) ?_
      simp only [Act.put,sA,sS,sZ]
      refine Zz 3 b5 10 58 _ (.int .i64 m.left) _ _ rfl rfl (by kernel_rfl) (by kernel_rfl) (by kernel_rfl) rfl rfl hO24 (by rw [List.length_set,Oc.len15];omega) ?_
      intro w25 hO25 hk25 hs25
      simp only [Act.put]
      refine Jx (.pointer (some ⟨b5,13,none⟩)) rfl (QV 58 5 13 (.tmp 5) (b5) (0) (13) rfl (by kernel_rfl) (by kernel_rfl) rfl) ?_
      simp only [Act.put,sA,sS,sZ]
      refine Zz 4 b5 13 58 _ (.bool m.self) _ _ rfl rfl (by kernel_rfl) (by kernel_rfl) (by kernel_rfl) rfl rfl hO25 (by rw [List.length_set,List.length_set,Oc.len15];omega) ?_
      intro w26 hO26 hk26 hs26
      simp only [Act.put]
      refine Kx ?_
      have z22:=k22.size
      have z23:=hk4.size
      have K26:Keep (·=b5) w23 w26:=(hk24.trans hk25 (fun _ _ h=>h)).trans hk26 (fun _ _ h=>h)
      have z26:=K26.size
      have kw22:=kw21.trans k22
      have zw:=kw22.size
      have h5n:w.heap.size≤b5:=by omega
      have KF:Keep F w w26:=((Keep.any kw22 hk4)).trans K26 (fun b hb e=>by omega)
      have HB526:Hid (Blk w26 b5 58 ((Oc.mk o m.f m.left false m.self 0).cells vf)):=hO26
      have hF45:¬ F4 b5:=fun h=>(hg4 b5 h).elim h5F (fun h=>by omega)
      have hF44:¬ F4 b4:=fun h=>(hg4 b4 h).elim h4F (fun h=>by omega)
      have hF4i:¬ F4 bi:=fun h=>(hg4 bi h).elim hiF (fun h=>by omega)
      have HR26:=Kj (hb4'.keep K26 (fun b hb e=>hF45 (by have e2:b=b5:=e;rw [← e2];exact hb)))
      have HVN:Hid (∀ b,vf.ownBlock=some b→w.heap.size≤b∧¬ F4 b∧b≠b5∧b≠b4∧b≠bi):=fun b hb=>by
       have h1:=ho4 b hb
       exact ⟨by omega,h1.2,by omega,by omega,by omega⟩
      have HV26:=Kj (hv4.keep K26 (fun b hb e=>(HVN.out b hb).2.2.1 e))
      have HB426:=Kj (((HB421.out.kept k22).keep hk4 h4F).keep K26 (fun e=>h54 e.symm))
      have HBI26:=Kj (((HBI21.out.kept k22).keep hk4 hiF).keep K26 (fun e=>h5i e.symm))
      have HO26:=Kj (JW HBI26.out)
      have HG4:Hid (Grow w F F4):=hg4.wide kw22.size
      have HL26:Hid (w26.cell? ⟨b5,10,none⟩=some (.int .i64 m.left)):=by show _=_;rw [HB526.out.cell];rfl
      have HS26:Hid (w26.cell? ⟨b5,13,none⟩=some (.bool m.self)):=by show _=_;rw [HB526.out.cell];rfl
      obtain ⟨st,hst⟩:∃ st,B.stays o=st:=⟨_,rfl⟩
      have HST:Hid ((decide (0<m.left) && !m.self && (decide (o.k=1) || decide (o.k=5)))=st):=by show _=_;rw [← hst];unfold Bok.stays;rw [HMM.out]
      have HSTY:=Kj hst
      have HADD:Hid (B.add o=(⟨o,m.f,m.left,st,m.self,0⟩,if st=true then (B.traded o).put o.side (Wj (o.cut m.left) ((B.traded o).sd o.side)) else B.traded o)):=by
       show _=_
       unfold Bok.add
       rw [if_neg (by rw [HE.out];simp),HSTY.out,HMM.out]
      clear hb4' hv4 ho4 hk4 hg4 hO23 hO24 hO25 hO26 hk24 hk25 hk26 hs24 hs25 hs26 K26 k22 kw21 HB521 HB421 HBI21 HO21 hst
      go_upto_region 23 with fail
      go_cut [125] (fun a wx=>a=.bool st∧Kept w26 wx)
      case first=>
       by_cases hl:0<m.left
       ·by_cases hsf:m.self=true
        ·have hs0:st=false:=by rw [← HST.out,hsf];simp
         subst hs0
         refine wE 18 [pV b5 10,iV m.left,bV true,bV true,pV b5 13,bV m.self,bV false,bV false,bV false,undef,undef,undef,undef,undef,undef,undef,undef,bV false] [108,109,110,111,112,113,114,115,116,117,118,119,120,121,122,123,124,125] ?_ ?_
         ·refine fE 1 5 58 2 10 0 ?_
          refine lD 2 108 0 Tryz.underlying3 (fun u hk=>Kept.cell hk (HL26.out)) ?_
          refine aS 3 rfl (fun a u E D hk=>XX rfl (dD D 1) rfl) (Ky hl) ?_
          refine mD 4 110 2 ?_
          refine fE 5 5 58 5 13 0 ?_
          refine sW 6 rfl (fun a u E D hk=>UY _ Tryz.underlying4 _ _ _ rfl (dD D 4) (Kept.cell hk (HS26.out))) ?_
          refine aS 7 rfl (fun a u E D hk=>Yj _ _ m.self rfl (dD D 5)) (by rw [hsf];rfl) ?_
          refine pT 8 111 114 3 6 ?_
          refine mD 9 115 7 ?_
          refine kS 10 8 ?_
          refine kS 11 8 ?_
          refine kS 12 8 ?_
          refine kS 13 8 ?_
          refine uS 14 12 ?_
          refine uS 15 12 ?_
          refine uS 16 12 ?_
          refine kS 17 8 ?_
          refine pF 18 116 8 ?_
          exact fz
         intro w27 k27
         simp only [F8]
         go_wp2
         go_meet
         case rel=>exact ⟨rfl,k27⟩
        have hsf0:m.self=false:=by simpa using hsf
        by_cases hk1:o.k=1
        ·have hs0:st=true:=by rw [← HST.out,hsf0];simp [hl,hk1]
         subst hs0
         refine wE 18 [pV b5 10,iV m.left,bV true,bV true,pV b5 13,bV m.self,bV true,bV true,bV true,pV bi 4,iV o.k,bV true,bV true,undef,undef,undef,bV true,bV true] [108,109,110,111,112,113,114,115,116,117,118,119,120,121,122,123,124,125] ?_ ?_
         ·refine fE 1 5 58 2 10 0 ?_
          refine lD 2 108 0 Tryz.underlying3 (fun u hk=>Kept.cell hk (HL26.out)) ?_
          refine aS 3 rfl (fun a u E D hk=>XX rfl (dD D 1) rfl) (Ky hl) ?_
          refine mD 4 110 2 ?_
          refine fE 5 5 58 5 13 0 ?_
          refine sW 6 rfl (fun a u E D hk=>UY _ Tryz.underlying4 _ _ _ rfl (dD D 4) (Kept.cell hk (HS26.out))) ?_
          refine aS 7 rfl (fun a u E D hk=>Yj _ _ m.self rfl (dD D 5)) (by rw [hsf0];rfl) ?_
          refine pT 8 111 114 3 6 ?_
          refine mD 9 115 7 ?_
          refine fE 10 3 30 4 4 0 ?_
          refine lD 11 117 9 Tryz.underlying3 (fun u hk=>JY (JJ HO26.out hk) 4 _ rfl) ?_
          refine aS 12 rfl (fun a u E D hk=>JU rfl (dD D 10) rfl) (Ky (by omega)) ?_
          refine mD 13 119 11 ?_
          refine kS 14 12 ?_
          refine kS 15 12 ?_
          refine kS 16 12 ?_
          refine sW 17 rfl (fun a u E D hk=>qV _ _ _ _ rfl (dD D 12) rfl) ?_
          refine pT 18 116 124 8 16 ?_
          exact fz
         intro w27 k27
         simp only [F8]
         go_wp2
         go_meet
         case rel=>exact ⟨rfl,k27⟩
        by_cases hk5:o.k=5
        ·have hs0:st=true:=by rw [← HST.out,hsf0];simp [hl,hk5]
         subst hs0
         refine wE 18 [pV b5 10,iV m.left,bV true,bV true,pV b5 13,bV m.self,bV true,bV true,bV true,pV bi 4,iV o.k,bV false,bV false,pV bi 4,iV o.k,bV true,bV true,bV true] [108,109,110,111,112,113,114,115,116,117,118,119,120,121,122,123,124,125] ?_ ?_
         ·refine fE 1 5 58 2 10 0 ?_
          refine lD 2 108 0 Tryz.underlying3 (fun u hk=>Kept.cell hk (HL26.out)) ?_
          refine aS 3 rfl (fun a u E D hk=>XX rfl (dD D 1) rfl) (Ky hl) ?_
          refine mD 4 110 2 ?_
          refine fE 5 5 58 5 13 0 ?_
          refine sW 6 rfl (fun a u E D hk=>UY _ Tryz.underlying4 _ _ _ rfl (dD D 4) (Kept.cell hk (HS26.out))) ?_
          refine aS 7 rfl (fun a u E D hk=>Yj _ _ m.self rfl (dD D 5)) (by rw [hsf0];rfl) ?_
          refine pT 8 111 114 3 6 ?_
          refine mD 9 115 7 ?_
          refine fE 10 3 30 4 4 0 ?_
          refine lD 11 117 9 Tryz.underlying3 (fun u hk=>JY (JJ HO26.out hk) 4 _ rfl) ?_
          refine aS 12 rfl (fun a u E D hk=>JU rfl (dD D 10) rfl) (Ku (by omega)) ?_
          refine mD 13 119 11 ?_
          refine fE 14 3 30 4 4 0 ?_
          refine lD 15 121 13 Tryz.underlying3 (fun u hk=>JY (JJ HO26.out hk) 4 _ rfl) ?_
          refine aS 16 rfl (fun a u E D hk=>JU rfl (dD D 14) rfl) (Ky (by omega)) ?_
          refine sW 17 rfl (fun a u E D hk=>Zj _ _ _ _ rfl (dD D 12) (dD D 15)) ?_
          refine pT 18 116 124 8 16 ?_
          exact fz
         intro w27 k27
         simp only [F8]
         go_wp2
         go_meet
         case rel=>exact ⟨rfl,k27⟩
        have hs0:st=false:=by rw [← HST.out];simp [hk1,hk5]
        subst hs0
        refine wE 18 [pV b5 10,iV m.left,bV true,bV true,pV b5 13,bV m.self,bV true,bV true,bV true,pV bi 4,iV o.k,bV false,bV false,pV bi 4,iV o.k,bV false,bV false,bV false] [108,109,110,111,112,113,114,115,116,117,118,119,120,121,122,123,124,125] ?_ ?_
        ·refine fE 1 5 58 2 10 0 ?_
         refine lD 2 108 0 Tryz.underlying3 (fun u hk=>Kept.cell hk (HL26.out)) ?_
         refine aS 3 rfl (fun a u E D hk=>XX rfl (dD D 1) rfl) (Ky hl) ?_
         refine mD 4 110 2 ?_
         refine fE 5 5 58 5 13 0 ?_
         refine sW 6 rfl (fun a u E D hk=>UY _ Tryz.underlying4 _ _ _ rfl (dD D 4) (Kept.cell hk (HS26.out))) ?_
         refine aS 7 rfl (fun a u E D hk=>Yj _ _ m.self rfl (dD D 5)) (by rw [hsf0];rfl) ?_
         refine pT 8 111 114 3 6 ?_
         refine mD 9 115 7 ?_
         refine fE 10 3 30 4 4 0 ?_
         refine lD 11 117 9 Tryz.underlying3 (fun u hk=>JY (JJ HO26.out hk) 4 _ rfl) ?_
         refine aS 12 rfl (fun a u E D hk=>JU rfl (dD D 10) rfl) (Ku (by omega)) ?_
         refine mD 13 119 11 ?_
         refine fE 14 3 30 4 4 0 ?_
         refine lD 15 121 13 Tryz.underlying3 (fun u hk=>JY (JJ HO26.out hk) 4 _ rfl) ?_
         refine aS 16 rfl (fun a u E D hk=>JU rfl (dD D 14) rfl) (Ku (by omega)) ?_
         refine sW 17 rfl (fun a u E D hk=>Zj _ _ _ _ rfl (dD D 12) (dD D 15)) ?_
         refine pT 18 116 124 8 16 ?_
         exact fz
        intro w27 k27
        simp only [F8]
        go_wp2
        go_meet
        case rel=>exact ⟨rfl,k27⟩
       have hs0:st=false:=by rw [← HST.out];simp [hl]
       subst hs0
       refine wE 18 [pV b5 10,iV m.left,bV false,bV false,undef,undef,undef,bV false,bV false,undef,undef,undef,undef,undef,undef,undef,undef,bV false] [108,109,110,111,112,113,114,115,116,117,118,119,120,121,122,123,124,125] ?_ ?_
       ·refine fE 1 5 58 2 10 0 ?_
        refine lD 2 108 0 Tryz.underlying3 (fun u hk=>Kept.cell hk (HL26.out)) ?_
        refine aS 3 rfl (fun a u E D hk=>XX rfl (dD D 1) rfl) (Ku hl) ?_
        refine mD 4 110 2 ?_
        refine kS 5 3 ?_
        refine kS 6 3 ?_
        refine kS 7 3 ?_
        refine pF 8 111 3 ?_
        refine mD 9 115 7 ?_
        refine kS 10 8 ?_
        refine kS 11 8 ?_
        refine kS 12 8 ?_
        refine kS 13 8 ?_
        refine uS 14 12 ?_
        refine uS 15 12 ?_
        refine uS 16 12 ?_
        refine kS 17 8 ?_
        refine pF 18 116 8 ?_
        exact fz
       intro w27 k27
       simp only [F8]
       go_wp2
       go_meet
       case rel=>exact ⟨rfl,k27⟩
      obtain ⟨rfl,hcut⟩:=hcut
      obtain ⟨w27,hw27⟩:∃ y,y=wc:=⟨_,rfl⟩
      subst hw27
      have HB527:=Kj (HB526.out.kept hcut)
      have HB427:=Kj (HB426.out.kept hcut)
      have HBI27:=Kj (HBI26.out.kept hcut)
      have HV27:=Kj (HV26.out.kept hcut)
      have HR27:=Kj (HR26.out.kept hcut)
      have KF27:=KF.kept hcut
      have z27:=hcut.size
      have HL27:=Kj (hcut.cell HL26.out)
      clear HB526 HB426 HBI26 HV26 HR26 KF hcut HL26 HS26 HO26 HST
      cases st with
      | false=>
       go_upto_region 28 with fail
       refine wEp 1 [(Oc.mk o m.f m.left false m.self 0).v vf] [139] ?_ ?_
       ·refine sE 1 5 b5 0 ((Oc.mk o m.f m.left false m.self 0).cells vf) Tryz.underlying58 (fun u hk=>JW (HB527.out.kept hk)) (by rw [Oc.len15];exact szC) ?_
        exact fz
       intro wy ky
       simp only [F8]
       refine Qj 58 b4 58 (Xq.cells (.slice none 0 0)) ((Oc.mk o m.f m.left false m.self 0).cells vf) _ _ rfl rfl (by kernel_rfl) (by kernel_rfl) (HB427.out.kept ky) (by rw [Oc.len15];exact szC) (by rw [Oc.len15,Oc.len15]) (Oc.one _ _ (Yq HV27.out)) ?_
       intro wx hBx hkx hsx
       simp only [Act.put]
       refine Kx ?_
       go_wp2
       refine bodyPost_ret (XZ (p:=4) rfl _ _ b4 _ ((Oc.mk o m.f m.left false m.self 0).cells vf) rfl hBx Tryz.underlying58 (by rw [Oc.len15];exact szC)) rfl ?_
       rw [HADD.out]
       refine ⟨F4,vf,rfl,?_,(HV27.out.kept ky).keep hkx (fun b hb e=>(HVN.out b hb).2.2.2.1 e),fun b hb=>⟨(HVN.out b hb).1,(HVN.out b hb).2.1⟩,HG4.out,(KF27.kept ky).trans hkx (fun b hb e=>by omega)⟩
       have h1:=(HR27.out.kept ky).keep hkx (fun b hb e=>hF44 (by have e2:b=b4:=e;rw [← e2];exact hb))
       simp only [Bool.false_eq_true,if_false]
       rw [Bok.traded_to,HMM.out]
       exact h1
      | true=>
       go_upto_region 24 with fail
       refine wEp 3 [pV b5 10,iV m.left,pV bi 6] [126,127,128] ?_ ?_
       ·refine fE 1 5 58 2 10 0 ?_
        refine lD 2 126 0 Tryz.underlying3 (fun u hk=>Kept.cell hk (HL27.out)) ?_
        refine fE 3 3 30 6 6 0 ?_
        exact fz
       intro w28 k28
       simp only [F8]
       refine l_setf bi 6 30 o.l [] m.left _ _ rfl rfl (by kernel_rfl) (by kernel_rfl) (HBI27.out.kept k28) (by simp [Ord.l]) ?_
       intro w29 hB29 hk29 hs29
       simp only [Act.put]
       refine Kx ?_
       have HB29:=Kj hB29
       have HSH:Hid (w29.cell? ⟨bi,7,none⟩=some (.int .i64 o.shw)):=by show _=_;rw [hB29.cell];rfl
       have HSQ:Hid (w29.cell? ⟨bi,6,none⟩=some (.int .i64 m.left)):=by show _=_;rw [hB29.cell];rfl
       have K29:Keep (·=bi) w27 w29:=Keep.any k28 hk29
       clear hB29 hk29 hs29 k28
       go_upto_region 25 with fail
       refine wEp 6 [pV bi 7,iV o.shw,pV bi 6,iV m.left,iV (mn (o.shw) (m.left)),pV bi 7] [129,130,131,132,133,134] ?_ ?_
       ·refine fE 1 3 30 7 7 0 ?_
        refine lD 2 129 0 Tryz.underlying3 (fun u hk=>Kept.cell hk (HSH.out)) ?_
        refine fE 3 3 30 6 6 0 ?_
        refine lD 4 131 2 Tryz.underlying3 (fun u hk=>Kept.cell hk (HSQ.out)) ?_
        refine sW 5 rfl (fun a u E D hk=>yU _ _ _ (o.shw) (m.left) (mn (o.shw) (m.left)) rfl (dD D 1) (dD D 3) rfl) ?_
        refine fE 6 3 30 7 7 0 ?_
        exact fz
       intro w30 k30
       simp only [F8]
       refine l_setf bi 7 30 (o.l.set 6 m.left) [] (mn o.shw m.left) _ _ rfl rfl (by kernel_rfl) (by kernel_rfl) (HB29.out.kept k30) (by simp [Ord.l]) ?_
       intro w31 hB31 hk31 hs31
       simp only [Act.put]
       refine Kx ?_
       rw [cut_l] at hB31
       have K31:Keep (·=bi) w27 w31:=(K29.kept k30).trans hk31 (fun _ _ h=>h)
       have HO31:=Kj (JW hB31)
       have z31:=K31.size
       have HB531:=Kj (HB527.out.keep K31 h5i)
       have HB431:=Kj (HB427.out.keep K31 (fun e=>hi4 e.symm))
       have HV31:=Kj (HV27.out.keep K31 (fun b hb e=>(HVN.out b hb).2.2.2.2 e))
       have HR31:=Kj (HR27.out.keep K31 (fun b hb e=>hF4i (by have e2:b=bi:=e;rw [← e2];exact hb)))
       have KF31:Keep F w w31:=KF27.trans K31 (fun b hb e=>by omega)
       have HLO:Hid (LvsOk ((B.to (3-o.side) m.L (VY B.last m.f) (B.no+m.f.length)).sd (o.cut m.left).side)):=by
        show LvsOk _
        have h1:(B.to (3-o.side) m.L (VY B.last m.f) (B.no+m.f.length)).sd o.side=B.sd o.side:=by
         rcases HS12.out with h | h <;> rw [h] <;> rfl
        show LvsOk ((B.to (3-o.side) m.L (VY B.last m.f) (B.no+m.f.length)).sd o.side)
        rw [h1]
        exact HI.out.ok _
       clear HB29 HSH HSQ K29 k30 hB31 hk31 hs31 K31 HB527 HB427 HV27 HR27 KF27 HBI27 HL27
       go_upto_region 26 with fail
       refine wEp 2 [pV p 0,(o.cut m.left).v] [135,136] ?_ ?_
       ·refine mE 1 0 ?_
        refine sE 2 3 bi 0 ((o.cut m.left).cells) Tryz.underlying30 (fun u hk=>JJ HO31.out hk) (by rw [(o.cut m.left).len9];exact JX) ?_
        exact fz
       intro w32 k32
       simp only [F8]
       refine Yz 56 #[.pointer (some ⟨p,0,none⟩),(o.cut m.left).v] rfl (Jq 56 _ [.tmp 135,.tmp 136] _ _ Tryz.func56 (by kernel_rfl) (by kernel_rfl) rfl (by kernel_rfl) _) ?_
       refine (rbrest_any w32 F4 p _ (o.cut m.left) (HR31.out.kept k32) HS12.out HLO.out).mono ?_
       rintro e w33 ⟨F5,rfl,hb5',hg5,hk5⟩
       refine ⟨_,rfl,?_⟩
       simp only [Act.put,sA,sS,sZ]
       refine Kx ?_
       have z32:=k32.size
       have z33:=hk5.size
       have h45:¬ F5 b4:=fun h=>(hg5 b4 h).elim hF44 (fun h=>by omega)
       have h55:¬ F5 b5:=fun h=>(hg5 b5 h).elim hF45 (fun h=>by omega)
       have HVL:Hid (∀ b,vf.ownBlock=some b→b<w31.heap.size):=fun b hb=>HV31.out.lt hb
       have HV33:=Kj ((HV31.out.kept k32).keep hk5 (fun b hb e=>(HVN.out b hb).2.1 e))
       have HB533:=Kj ((HB531.out.kept k32).keep hk5 hF45)
       have HB433:=Kj ((HB431.out.kept k32).keep hk5 hF44)
       have HR33:=Kj hb5'
       have HVN5:Hid (∀ b,vf.ownBlock=some b→¬ F5 b):=fun b hb h=>(hg5 b h).elim (HVN.out b hb).2.1 (fun h=>by have:=HVL.out b hb;omega)
       have HG5:Hid (Grow w F F5):=fun b hb=>(hg5 b hb).elim (fun h=>HG4.out b h) (fun h=>.inr (by omega))
       have KF33:Keep F w w33:=(KF31.kept k32).trans hk5 (fun b hb e=>(HG4.out b e).elim id (fun h=>by omega))
       clear hb5' hg5 hk5 k32 HV31 HB531 HB431 HR31 HO31 KF31 HLO
       go_upto_region 27 with fail
       refine wEp 1 [pV b5 11] [138] ?_ ?_
       ·refine fE 1 5 58 3 11 0 ?_
        exact fz
       intro w34 k34
       simp only [F8]
       refine Zz 4 b5 11 58 _ (.bool true) _ (.const (.bool true)) rfl rfl (by kernel_rfl) (by kernel_rfl) rfl rfl rfl (HB533.out.kept k34) (by rw [Oc.len15];omega) ?_
       intro w35 hB35 hk35 hs35
       simp only [Act.put]
       refine Kx ?_
       rw [Oc.set_rests] at hB35
       have z34:=k34.size
       have HB535:Hid (Blk w35 b5 58 ((Oc.mk o m.f m.left true m.self 0).cells vf)):=hB35
       have HB435:=Kj ((HB433.out.kept k34).keep hk35 (fun e=>h54 e.symm))
       have HV35:=Kj ((HV33.out.kept k34).keep hk35 (fun b hb e=>(HVN.out b hb).2.2.1 e))
       have HR35:=Kj ((HR33.out.kept k34).keep hk35 (fun b hb e=>h55 (by have e2:b=b5:=e;rw [← e2];exact hb)))
       have KF35:Keep F w w35:=(KF33.kept k34).trans hk35 (fun b hb e=>by omega)
       clear hB35 hk35 hs35 k34 HB533 HB433 HV33 HR33 KF33
       go_upto_region 28 with fail
       refine wEp 1 [(Oc.mk o m.f m.left true m.self 0).v vf] [139] ?_ ?_
       ·refine sE 1 5 b5 0 ((Oc.mk o m.f m.left true m.self 0).cells vf) Tryz.underlying58 (fun u hk=>JW (HB535.out.kept hk)) (by rw [Oc.len15];exact szC) ?_
        exact fz
       intro wy ky
       simp only [F8]
       refine Qj 58 b4 58 (Xq.cells (.slice none 0 0)) ((Oc.mk o m.f m.left true m.self 0).cells vf) _ _ rfl rfl (by kernel_rfl) (by kernel_rfl) (HB435.out.kept ky) (by rw [Oc.len15];exact szC) (by rw [Oc.len15,Oc.len15]) (Oc.one _ _ (Yq HV35.out)) ?_
       intro wx hBx hkx hsx
       simp only [Act.put]
       refine Kx ?_
       go_wp2
       refine bodyPost_ret (XZ (p:=4) rfl _ _ b4 _ ((Oc.mk o m.f m.left true m.self 0).cells vf) rfl hBx Tryz.underlying58 (by rw [Oc.len15];exact szC)) rfl ?_
       rw [HADD.out]
       refine ⟨F5,vf,rfl,?_,(HV35.out.kept ky).keep hkx (fun b hb e=>(HVN.out b hb).2.2.2.1 e),fun b hb=>⟨(HVN.out b hb).1,HVN5.out b hb⟩,HG5.out,(KF35.kept ky).trans hkx (fun b hb e=>by omega)⟩
       have h1:=(HR35.out.kept ky).keep hkx (fun b hb e=>h45 (by have e2:b=b4:=e;rw [← e2];exact hb))
       simp only [if_true]
       rw [Bok.traded_to,HMM.out]
       rw [← Bok.to_put HS12.out]
       exact h1
  have HERR:=Kj (rerr_1 (B:=B) (o:=o) (fun h=>hst h.2))
  go_upto_region 3 with fail
  refine wE 7 [iV e0,bV false,bV false,pV bi 8,iV o.stop,bV true,bV true] [19,20,21,22,23,24,25] ?_ ?_
  ·refine mE 1 6 ?_
   refine aS 2 rfl (fun a u E D hk=>YZ rfl (dD D 0) rfl) (Ku (by omega)) ?_
   refine mD 3 20 1 ?_
   refine fE 4 3 30 8 8 0 ?_
   refine lD 5 22 3 Tryz.underlying3 (fun u hk=>JY (JJ HO2.out hk) 8 _ rfl) ?_
   refine aS 6 rfl (fun a u E D hk=>YZ rfl (dD D 4) rfl) (Ky hst) ?_
   refine sW 7 rfl (fun a u E D hk=>Zj _ _ _ _ rfl (dD D 2) (dD D 5)) ?_
   exact fz
  intro w3 k3
  simp only [F8]
  have HA:Hid (B.add o=(⟨o,[],o.qty,false,false,1⟩,B)):=by show _=_;rw [yx (by rw [HERR.out];decide),HERR.out]
  have kE:Kept w w3:=k2.trans k3
  have HE5:=Kj (HB52.out.kept k3)
  have HE4:=Kj (HB42.out.kept k3)
  go_upto_region 4 with fail
  refine wEp 1 [pV b5 14] [26] ?_ ?_
  ·refine fE 1 5 58 6 14 0 ?_
   exact fz
  intro we ke
  simp only [F8]
  refine Zz 56 b5 14 58 _ (.int .i64 1) _ (.const (.int .i64 1)) rfl rfl (by kernel_rfl) (by kernel_rfl) rfl rfl rfl (HE5.out.kept ke) (by rw [Oc.len15];omega) ?_
  intro wf hF hkf hsf
  simp only [Act.put]
  refine Kx ?_
  rw [Oc.set_err] at hF
  have kf:Kept w wf:=(kE.trans ke).trans' hkf (by omega)
  have HF5:Hid (Blk wf b5 58 ((Oc.mk o [] o.qty false false 1).cells (.slice none 0 0))):=hF
  have HF4:=Kj ((HE4.out.kept ke).keep hkf (by omega))
  clear hF hkf hsf ke HE5 HE4 kE HERR
  go_upto_region 5 with fail
  refine wEp 1 [(Oc.mk o [] o.qty false false 1).v (.slice none 0 0)] [27] ?_ ?_
  ·refine sE 1 5 b5 0 ((Oc.mk o [] o.qty false false 1).cells (.slice none 0 0)) Tryz.underlying58 (fun u hk=>JW (HF5.out.kept hk)) (by rw [Oc.len15];exact szC) ?_
   exact fz
  intro wy ky
  simp only [F8]
  refine Qj 58 b4 58 (Xq.cells (.slice none 0 0)) ((Oc.mk o [] o.qty false false 1).cells (.slice none 0 0)) _ _ rfl rfl (by kernel_rfl) (by kernel_rfl) (HF4.out.kept ky) (by rw [Oc.len15];exact szC) (by rw [Oc.len15,Oc.len15]) (Oc.one _ _ rfl) ?_
  intro wx hBx hkx hsx
  simp only [Act.put]
  refine Kx ?_
  go_wp2
  refine bodyPost_ret (XZ (p:=4) rfl _ _ b4 _ ((Oc.mk o [] o.qty false false 1).cells (.slice none 0 0)) rfl hBx Tryz.underlying58 (by rw [Oc.len15];exact szC)) rfl ?_
  rw [HA.out]
  have kk:Kept w wx:=(kf.trans ky).trans' hkx (by omega)
  exact ⟨F,.slice none 0 0,rfl,HB.out.kept kk,Sl.nil _ _ _,fun b hb=>by simp [Value.ownBlock] at hb,Grow.refl _ _,Keep.mono (T:=F) kk (fun _ _ h=>h.elim)⟩
 have he:e0=1:=by have:=HE0.out;unfold Ord.err at this;rw [if_neg hr] at this;exact this.symm
 have HERR:=Kj (rerr_1 (B:=B) (o:=o) (fun h=>hr h.1))
 go_upto_region 3 with fail
 refine wE 7 [iV e0,bV true,bV true,undef,undef,undef,bV true] [19,20,21,22,23,24,25] ?_ ?_
 ·refine mE 1 6 ?_
  refine aS 2 rfl (fun a u E D hk=>YZ rfl (dD D 0) rfl) (Ky (by omega)) ?_
  refine mD 3 20 1 ?_
  refine kS 4 2 ?_
  refine kS 5 2 ?_
  refine kS 6 2 ?_
  refine sW 7 rfl (fun a u E D hk=>qV _ _ _ _ rfl (dD D 2) rfl) ?_
  exact fz
 intro w3 k3
 simp only [F8]
 have HA:Hid (B.add o=(⟨o,[],o.qty,false,false,1⟩,B)):=by show _=_;rw [yx (by rw [HERR.out];decide),HERR.out]
 have kE:Kept w w3:=k2.trans k3
 have HE5:=Kj (HB52.out.kept k3)
 have HE4:=Kj (HB42.out.kept k3)
 go_upto_region 4 with fail
 refine wEp 1 [pV b5 14] [26] ?_ ?_
 ·refine fE 1 5 58 6 14 0 ?_
  exact fz
 intro we ke
 simp only [F8]
 refine Zz 56 b5 14 58 _ (.int .i64 1) _ (.const (.int .i64 1)) rfl rfl (by kernel_rfl) (by kernel_rfl) rfl rfl rfl (HE5.out.kept ke) (by rw [Oc.len15];omega) ?_
 intro wf hF hkf hsf
 simp only [Act.put]
 refine Kx ?_
 rw [Oc.set_err] at hF
 have kf:Kept w wf:=(kE.trans ke).trans' hkf (by omega)
 have HF5:Hid (Blk wf b5 58 ((Oc.mk o [] o.qty false false 1).cells (.slice none 0 0))):=hF
 have HF4:=Kj ((HE4.out.kept ke).keep hkf (by omega))
 clear hF hkf hsf ke HE5 HE4 kE HERR
 go_upto_region 5 with fail
 refine wEp 1 [(Oc.mk o [] o.qty false false 1).v (.slice none 0 0)] [27] ?_ ?_
 ·refine sE 1 5 b5 0 ((Oc.mk o [] o.qty false false 1).cells (.slice none 0 0)) Tryz.underlying58 (fun u hk=>JW (HF5.out.kept hk)) (by rw [Oc.len15];exact szC) ?_
  exact fz
 intro wy ky
 simp only [F8]
 refine Qj 58 b4 58 (Xq.cells (.slice none 0 0)) ((Oc.mk o [] o.qty false false 1).cells (.slice none 0 0)) _ _ rfl rfl (by kernel_rfl) (by kernel_rfl) (HF4.out.kept ky) (by rw [Oc.len15];exact szC) (by rw [Oc.len15,Oc.len15]) (Oc.one _ _ rfl) ?_
 intro wx hBx hkx hsx
 simp only [Act.put]
 refine Kx ?_
 go_wp2
 refine bodyPost_ret (XZ (p:=4) rfl _ _ b4 _ ((Oc.mk o [] o.qty false false 1).cells (.slice none 0 0)) rfl hBx Tryz.underlying58 (by rw [Oc.len15];exact szC)) rfl ?_
 rw [HA.out]
 have kk:Kept w wx:=(kf.trans ky).trans' hkx (by omega)
 exact ⟨F,.slice none 0 0,rfl,HB.out.kept kk,Sl.nil _ _ _,fun b hb=>by simp [Value.ownBlock] at hb,Grow.refl _ _,Keep.mono (T:=F) kk (fun _ _ h=>h.elim)⟩
theorem sameF_any (va vb:Value) (na nb:Nat) (A B:List Fl) (w:World) (ha:Sl w 77 21 va A.length (fls A)) (hb:Sl w 77 21 vb B.length (fls B)) (hna:A.length≤1000000000) (hnb:B.length≤1000000000):Gives 46 #[va,vb] w (.eq (.bool (decide (A=B)))):=by
 refine XJ ?_
 obtain ⟨n,hn⟩:∃ n,A.length=n:=⟨_,rfl⟩
 obtain ⟨m,hm⟩:∃ m,B.length=m:=⟨_,rfl⟩
 rw [hn] at ha hna
 rw [hm] at hb hnb
 have HA:=Kj ha
 have HB:=Kj hb
 have HN:=Kj hn
 have HM:=Kj hm
 obtain ⟨_,A1,c1,rfl,_⟩:=ha
 obtain ⟨_,A2,c2,rfl,_⟩:=hb
 clear hn hm
 by_cases hnm:n=m
 ·subst hnm
  go_enter Tryz.func46,Tryz.ntmps46
  go_wp2_with fail
  go_loopw [5] (fun v wr=>∃ i:Nat,i≤n∧v=.int .i64 i∧Kept w wr∧Hid (A.take i=B.take i)) (fun v _=>n-(intOf v).toNat)
  case atStart=>exact ⟨0,Nat.zero_le _,rfl,Kept.refl _,rfl⟩
  obtain ⟨i,hi,rfl,hkr,HT⟩:=hrel
  by_cases hlt:i<n
  ·have hia:i<A.length:=by rw [HN.out];omega
   have hib:i<B.length:=by rw [HM.out];omega
   obtain ⟨ea,hea⟩:∃ e,A[i]?=some e:=⟨_,List.getElem?_eq_getElem hia⟩
   obtain ⟨eb,heb⟩:∃ e,B[i]?=some e:=⟨_,List.getElem?_eq_getElem hib⟩
   obtain ⟨g1,o1,_,e1⟩:=HA.out.some_ (by omega)
   injection e1 with e1 _ e1'
   subst e1 e1'
   obtain ⟨g2,o2,_,e2⟩:=HB.out.some_ (by omega)
   injection e2 with e2 _ e2'
   subst e2 e2'
   have HE1:Hid (wr.rangeAt g1 (o1+i*21) ea.cells):=JJ (HA.out.rngF i ea hea) hkr
   have HE2:Hid (wr.rangeAt g2 (o2+i*21) eb.cells):=JJ (HB.out.rngF i eb heb) hkr
   have HEQ:Hid (A[i]?=B[i]?↔ea=eb):=by
    show _↔_
    rw [hea,heb]
    simp
   clear hia hib hea heb
   by_cases hx:ea=eb
   ·skip
    go_upto_region 6 with fail
    refine wGp 8 [.slice (some ⟨g1,o1,none⟩) n c1,iV (i:Int),pV g1 (o1+i*21),ea.v,.slice (some ⟨g2,o2,none⟩) n c2,iV (i:Int),pV g2 (o2+i*21),eb.v] [17,18,19,20,21,22,23,24] ?_ ?_
    ·refine mE 1 0 ?_
     refine mE 2 5 ?_
     refine sW 3 rfl (fun a u E D hk=>Jz slF _ _ (g1) (o1) n c1 i (o1+i*21) ((i:Int)) rfl (dD D 0) (dD D 1) (by first | rfl | omega) (hlt) (by first | rfl | omega)) ?_
     refine sD 4 19 2 ea.cells Tryz.underlying77 (fun u hk=>JJ HE1.out hk) (by rw [ea.len21];exact szF) ?_
     refine mE 5 1 ?_
     refine mE 6 5 ?_
     refine sW 7 rfl (fun a u E D hk=>Jz slF _ _ (g2) (o2) n c2 i (o2+i*21) ((i:Int)) rfl (dD D 4) (dD D 5) (by first | rfl | omega) (hlt) (by first | rfl | omega)) ?_
     refine sD 8 23 6 eb.cells Tryz.underlying77 (fun u hk=>JJ HE2.out hk) (by rw [eb.len21];exact szF) ?_
     exact fz
    intro w1 k1
    simp only [F8]
    refine Jx (.bool false) rfl (exec_neFb false (.tmp 20) (.tmp 24) _ ea eb rfl (by kernel_rfl) (by kernel_rfl) (by rw [hx];simp)) ?_
    simp only [Act.put,sA,sS,sZ]
    refine Kx ?_
    have HT2:=Kj (take_next HT.out (HEQ.out.2 hx))
    have hk3:=hkr.trans k1
    clear hkr hx k1
    go_wp2
    exact ⟨⟨i+1,by omega,by go_num,hk3,HT2⟩,by simp [intOf];omega⟩
   skip
   go_upto_region 6 with fail
   refine wGp 8 [.slice (some ⟨g1,o1,none⟩) n c1,iV (i:Int),pV g1 (o1+i*21),ea.v,.slice (some ⟨g2,o2,none⟩) n c2,iV (i:Int),pV g2 (o2+i*21),eb.v] [17,18,19,20,21,22,23,24] ?_ ?_
   ·refine mE 1 0 ?_
    refine mE 2 5 ?_
    refine sW 3 rfl (fun a u E D hk=>Jz slF _ _ (g1) (o1) n c1 i (o1+i*21) ((i:Int)) rfl (dD D 0) (dD D 1) (by first | rfl | omega) (hlt) (by first | rfl | omega)) ?_
    refine sD 4 19 2 ea.cells Tryz.underlying77 (fun u hk=>JJ HE1.out hk) (by rw [ea.len21];exact szF) ?_
    refine mE 5 1 ?_
    refine mE 6 5 ?_
    refine sW 7 rfl (fun a u E D hk=>Jz slF _ _ (g2) (o2) n c2 i (o2+i*21) ((i:Int)) rfl (dD D 4) (dD D 5) (by first | rfl | omega) (hlt) (by first | rfl | omega)) ?_
    refine sD 8 23 6 eb.cells Tryz.underlying77 (fun u hk=>JJ HE2.out hk) (by rw [eb.len21];exact szF) ?_
    exact fz
   intro w1 k1
   simp only [F8]
   refine Jx (.bool true) rfl (exec_neFb true (.tmp 20) (.tmp 24) _ ea eb rfl (by kernel_rfl) (by kernel_rfl) (by simp [hx])) ?_
   simp only [Act.put,sA,sS,sZ]
   refine Kx ?_
   have HF:Hid (A≠B):=fun h=>hx (HEQ.out.1 (by rw [h]))
   have hk3:=hkr.trans k1
   clear hkr hx k1
   go_wp2
   go_ret
   exact ⟨UQ (Ku HF.out).symm,hk3⟩
  go_wp2
  go_ret
  exact ⟨UQ (Ky (take_whole HT.out (by have:=HN.out;omega) (by have:=HM.out;omega))).symm,hkr⟩
 have hne:((n:Int) != (m:Int))=true:=by rw [bne_iff_ne];omega
 have HF:Hid (A≠B):=fun h=>hnm (by have h1:=HN.out;have h2:=HM.out;rw [h] at h1;omega)
 clear hnm
 go_enter Tryz.func46,Tryz.ntmps46
 go_wp2
 go_ret
 exact ⟨UQ (Ku HF.out).symm,Kept.refl _⟩

section
variable {a:Act} {o:Oper} {u:World}
theorem exec_eqb (x y:Operand) (t':TypeId) (p q b:Bool) (hop:o.op=.binOp .eql 4 x y t') (hx:a.eval x=.bool p) (hy:a.eval y=.bool q) (hb:(p == q)=b):(execOp a.eval o).run Tryz.prog u=.ok (.value (.bool b)) u:=by
 subst hb
 exact exec_eqlb x y t' p q hop hx hy
theorem exec_neb (x y:Operand) (t':TypeId) (p q b:Bool) (hop:o.op=.binOp .neq 4 x y t') (hx:a.eval x=.bool p) (hy:a.eval y=.bool q) (hb:(p != q)=b):(execOp a.eval o).run Tryz.prog u=.ok (.value (.bool b)) u:=by
 subst hb
 unfold execOp
 simp only [hop,hx,hy]
 simp [go_sem]
 cases p <;> cases q <;> rfl
end
theorem rbdepth_none (w:World) (p:Nat) (k:Nat) (h03:k=0∨k=3):Gives 44 #[.pointer (some ⟨p,0,none⟩),.int .i64 (k:Int)] w (.sl w.heap.size 72 10 0 []):=by
 go_enter Tryz.func44,Tryz.ntmps44
 go_upto_region 2 with fail
 rcases h03 with rfl | rfl
 ·go_wp2
  go_ret
  exact ⟨.slice none 0 0,rfl,⟨Sl.nil _ _ _,fun b hb=>by simp [Value.ownBlock] at hb⟩,Kept.refl _⟩
 go_wp2
 go_ret
 exact ⟨.slice none 0 0,rfl,⟨Sl.nil _ _ _,fun b hb=>by simp [Value.ownBlock] at hb⟩,Kept.refl _⟩
theorem rborders_none (w:World) (p:Nat) (k:Nat) (h03:k=0∨k=3):Gives 65 #[.pointer (some ⟨p,0,none⟩),.int .i64 (k:Int)] w (.sl w.heap.size 30 9 0 []):=by
 go_enter Tryz.func65,Tryz.ntmps65
 go_upto_region 1 with fail
 rcases h03 with rfl | rfl
 ·go_wp2
  go_ret
  exact ⟨.slice none 0 0,rfl,⟨Sl.nil _ _ _,fun b hb=>by simp [Value.ownBlock] at hb⟩,Kept.refl _⟩
 go_wp2
 go_ret
 exact ⟨.slice none 0 0,rfl,⟨Sl.nil _ _ _,fun b hb=>by simp [Value.ownBlock] at hb⟩,Kept.refl _⟩
theorem rbdepth_any (w:World) (F:Nat→Prop) (p:Nat) (B:Bok) (k:Nat) (hk:k≤3) (h:RBk w F p B) (hI:Inv B):Gives 44 #[.pointer (some ⟨p,0,none⟩),.int .i64 (k:Int)] w (.sl w.heap.size 72 10 (Zx (k:Int) (B.sd (k:Int))).length (ents (Zx (k:Int) (B.sd (k:Int))))):=by
 by_cases h12:k=1∨k=2
 ·exact rbdepth_in w F p B k h12 h hI
 have h03:k=0∨k=3:=by omega
 have h1:=rbdepth_none w p k h03
 rcases h03 with rfl | rfl
 ·exact h1
 exact h1
theorem rborders_any (w:World) (F:Nat→Prop) (p:Nat) (B:Bok) (k:Nat) (hk:k≤3) (h:RBk w F p B) (hI:Inv B):Gives 65 #[.pointer (some ⟨p,0,none⟩),.int .i64 (k:Int)] w (.sl w.heap.size 30 9 (Yy (B.sd (k:Int))).length (ords (Yy (B.sd (k:Int))))):=by
 by_cases h12:k=1∨k=2
 ·exact rborders_in w F p B k h12 h hI
 have h03:k=0∨k=3:=by omega
 have h1:=rborders_none w p k h03
 rcases h03 with rfl | rfl
 ·exact h1
 exact h1
structure RkP (w:World) (p q:Nat) (v:Value) (Fb:Nat→Prop) (M:Mkt):Prop where
 blk:Blk w p 53 (Zq q v)
 bk:RBk w Fb q M.b
 sl:Sl w 30 9 v M.w.length (ords M.w)
 nb:¬ Fb p
 nv:∀ b,v.ownBlock=some b→b≠p∧¬ Fb b
def RMk (w:World) (F:Nat→Prop) (p:Nat) (M:Mkt):Prop:=(∀ b,F b→b<w.heap.size)∧∃ q v Fb,RkP w p q v Fb M∧∀ b,foot p v Fb b→F b
theorem RkP.foot_lt {w:World} {p q:Nat} {v:Value} {Fb:Nat→Prop} {M:Mkt} (h:RkP w p q v Fb M):∀ b,foot p v Fb b→b<w.heap.size:=fun b hb=>hb.elim (fun hb=>hb.elim (fun hb=>by rw [hb];exact h.blk.lt) h.sl.lt) (h.bk.lt b)
theorem RkP.close {w:World} {p q:Nat} {v:Value} {Fb:Nat→Prop} {M:Mkt} (h:RkP w p q v Fb M):RMk w (foot p v Fb) p M:=⟨h.foot_lt,q,v,Fb,h,fun _ h=>h⟩
theorem RkP.keep {S:Nat→Prop} {w w':World} {p q:Nat} {v:Value} {Fb:Nat→Prop} {M:Mkt} (h:RkP w p q v Fb M) (hk:Keep S w w') (hn:∀ b,foot p v Fb b→¬ S b):RkP w' p q v Fb M:=
 ⟨h.blk.keep hk (hn p (.inl (.inl rfl))),h.bk.keep hk (fun b hb=>hn b (.inr hb)),h.sl.keep hk (fun b hb=>hn b (.inl (.inr hb))),h.nb,h.nv⟩
theorem RkP.kept {w w':World} {p q:Nat} {v:Value} {Fb:Nat→Prop} {M:Mkt} (h:RkP w p q v Fb M) (hk:Kept w w'):RkP w' p q v Fb M:=h.keep hk (fun _ _ h=>h)
theorem RMk.keep {S F:Nat→Prop} {w w':World} {p:Nat} {M:Mkt} (h:RMk w F p M) (hk:Keep S w w') (hn:∀ b,F b→¬ S b):RMk w' F p M:=by
 obtain ⟨h1,q,v,Fb,h2,h3⟩:=h
 exact ⟨fun b hb=>Nat.lt_of_lt_of_le (h1 b hb) hk.size,q,v,Fb,h2.keep hk (fun b hb=>hn b (h3 b hb)),h3⟩
theorem RMk.kept {F:Nat→Prop} {w w':World} {p:Nat} {M:Mkt} (h:RMk w F p M) (hk:Kept w w'):RMk w' F p M:=h.keep hk (fun _ _ h=>h)
theorem RMk.lt {F:Nat→Prop} {w:World} {p:Nat} {M:Mkt} (h:RMk w F p M):∀ b,F b→b<w.heap.size:=h.1
theorem hit_no {c:Ord} {x:Int} (h:(decide (c.stop<1) || decide (x<1))=true):c.hit x=false:=by
 unfold Ord.hit
 simp at h
 rcases h with h | h
 ·rw [Ku (show ¬ 0<c.stop by omega)];rfl
 rw [Ku (show ¬ 0<x by omega)];simp
theorem hit_yes {c:Ord} {x:Int} (h:(decide (c.stop<1) || decide (x<1))=false):c.hit x=!bet c.side c.stop x:=by
 unfold Ord.hit
 simp at h
 rw [Ky (show 0<c.stop by omega),Ky (show 0<x by omega)]
 rfl
theorem rhit_any (c:Ord) (x:Int) (w:World):Gives 26 #[c.v,.int .i64 x] w (.eq (.bool (c.hit x))):=by
 refine XJ ?_
 go_enter Tryz.func26,Tryz.ntmps26
 go_upto_region 0 with fail
 refine QZ 2 [.fresh w.heap.size 30 (c.cells),bE false] rfl (by kernel_rfl) ?_ ?_
 ·refine nW 1 rfl (fun a u E D hk=>⟨_,_,YX 30 _ (c.cells) rfl (eE E),⟨_,rfl,hk.size,Blk.new u _ _⟩,((Keep.refl _ u).alloc _)⟩) ?_
  refine sW 2 rfl (fun a u E D hk=>JQ _ _ rfl rfl) ?_
  exact fz
 intro gv w1 hV k1
 rw [dq 2 [2,4]]
 simp only [Fz7]
 have hv2:(.fresh w.heap.size 30 (c.cells):Kn).p (gv 2) w1:=hV 0 2 (by kernel_rfl)
 generalize gv 2=v2 at hv2 ⊢
 rw [gQ hV 1 4 (.bool false)]
 clear hV
 obtain ⟨g,rfl,hg,hB⟩:=hv2
 refine Kx ?_
 have HB:=Kj (JW hB)
 clear hB
 obtain ⟨d,hd⟩:∃ d,(decide (c.stop<1) || decide (x<1))=d:=⟨_,rfl⟩
 have HD:=Kj hd
 clear hd
 go_upto_region 1 with fail
 refine wT 8 [pE g 8,iE c.stop,bE (decide ((c.stop:Int)<(1:Int))),bE (decide ((c.stop:Int)<(1:Int))),.cond (!(decide ((c.stop:Int)<(1:Int)))) (iE x),.cond (!(decide ((c.stop:Int)<(1:Int)))) (bE (decide ((x:Int)<(1:Int)))),bE d,bE d] [6,7,8,9,10,11,12,5] ?_ ?_
 ·refine fE 1 2 30 8 8 0 ?_
  refine lD 2 6 0 Tryz.underlying3 (fun u hk=>JY (JJ HB.out hk) 8 _ rfl) ?_
  refine sW 3 rfl (fun a u E D hk=>Wq rfl (dD D 1) rfl) ?_
  refine mD 4 8 2 ?_
  refine uC 5 3 rfl (fun a u E D hk hb=>Jj _ _ rfl (eE E)) ?_
  refine uC 6 3 rfl (fun a u E D hk hb=>Wq rfl ((D 4 10 (by kernel_rfl)).1 hb) rfl) ?_
  refine aS 7 rfl (fun a u E D hk=>VQ _ _ _ ((decide ((c.stop:Int)<(1:Int)))) ((decide ((x:Int)<(1:Int)))) rfl (dD D 3) rfl (fun hb2=>((D 5 11 (by kernel_rfl)).1 hb2))) HD.out ?_
  refine mD 8 12 6 ?_
  exact fz
 intro gv w2 hV k2
 simp only [Fz7]
 rw [gQ hV 7 5 (.bool d)]
 clear hV
 have kw2:=k1.trans k2
 have HB2:=Kj (JJ HB.out k2)
 clear k1 k2 HB
 cases d with
 | true=>
  go_wp2
  go_ret
  exact ⟨by rw [hit_no HD.out];rfl,kw2⟩
 | false=>
  by_cases hs:c.side=1
  ·have HE:Hid (c.hit x=decide (c.stop≤x)):=by
    show _=_
    rw [hit_yes HD.out]
    unfold bet
    rw [if_pos hs]
    by_cases h:x<c.stop
    ·rw [Ky h,Ku (by omega)];rfl
    rw [Ku h,Ky (by omega)];rfl
   go_upto_region 3 with fail
   refine wE 4 [pV g 3,iV c.side,bV true,bV true] [14,15,16,13] ?_ ?_
   ·refine fE 1 2 30 3 3 0 ?_
    refine lD 2 14 0 Tryz.underlying3 (fun u hk=>JY (JJ HB2.out hk) 3 _ rfl) ?_
    refine aS 3 rfl (fun a u E D hk=>JU rfl (dD D 1) rfl) (Ky hs) ?_
    refine mD 4 16 2 ?_
    exact fz
   intro w3 k3
   simp only [F8]
   have HB3:=Kj (JJ HB2.out k3)
   clear hs
   go_upto_region 4 with fail
   refine wE 5 [iV x,pV g 8,iV c.stop,bV (decide ((c.stop:Int)≤(x:Int))),bV (decide ((c.stop:Int)≤(x:Int)))] [17,18,19,20,4] ?_ ?_
   ·refine mE 1 1 ?_
    refine fE 2 2 30 8 8 0 ?_
    refine lD 3 18 1 Tryz.underlying3 (fun u hk=>JY (JJ HB3.out hk) 8 _ rfl) ?_
    refine sW 4 rfl (fun a u E D hk=>WV rfl (dD D 0) (dD D 2)) ?_
    refine mD 5 20 3 ?_
    exact fz
   intro w4 k4
   simp only [F8]
   go_wp2
   go_ret
   exact ⟨by rw [HE.out];rfl,(kw2.trans k3).trans k4⟩
  have HE:Hid (c.hit x=decide (x≤c.stop)):=by
   show _=_
   rw [hit_yes HD.out]
   unfold bet
   rw [if_neg hs]
   by_cases h:c.stop<x
   ·rw [Ky h,Ku (by omega)];rfl
   rw [Ku h,Ky (by omega)];rfl
  go_upto_region 3 with fail
  refine wE 4 [pV g 3,iV c.side,bV false,bV false] [14,15,16,13] ?_ ?_
  ·refine fE 1 2 30 3 3 0 ?_
   refine lD 2 14 0 Tryz.underlying3 (fun u hk=>JY (JJ HB2.out hk) 3 _ rfl) ?_
   refine aS 3 rfl (fun a u E D hk=>JU rfl (dD D 1) rfl) (Ku hs) ?_
   refine mD 4 16 2 ?_
   exact fz
  intro w3 k3
  simp only [F8]
  have HB3:=Kj (JJ HB2.out k3)
  clear hs
  go_upto_region 5 with fail
  refine wE 5 [iV x,pV g 8,iV c.stop,bV (decide ((x:Int)≤(c.stop:Int))),bV (decide ((x:Int)≤(c.stop:Int)))] [21,22,23,24,4] ?_ ?_
  ·refine mE 1 1 ?_
   refine fE 2 2 30 8 8 0 ?_
   refine lD 3 22 1 Tryz.underlying3 (fun u hk=>JY (JJ HB3.out hk) 8 _ rfl) ?_
   refine sW 4 rfl (fun a u E D hk=>exec_len_ rfl (dD D 0) (dD D 2)) ?_
   refine mD 5 24 3 ?_
   exact fz
  intro w4 k4
  simp only [F8]
  go_wp2
  go_ret
  exact ⟨by rw [HE.out];rfl,(kw2.trans k3).trans k4⟩
theorem rwaits_any (w:World) (p q:Nat) (v:Value) (W:List Ord) (t i:Int) (hB:Blk w p 53 (Zq q v)) (hS:Sl w 30 9 v W.length (ords W)) (hlen:W.length≤100000):Gives 24 #[.pointer (some ⟨p,0,none⟩),.int .i64 t,.int .i64 i] w (.eq (.int .i64 (WU (Ord.is t i) W))):=by
 refine XJ ?_
 obtain ⟨n,hn⟩:∃ n,W.length=n:=⟨_,rfl⟩
 rw [hn] at hS hlen
 have HN:=Kj hn
 have HV:Hid (w.cell? ⟨p,1,none⟩=some v):=hB.cell 1
 have HS:=Kj hS
 clear hB hS hn
 go_enter Tryz.func24,Tryz.ntmps24
 go_upto_region 1 with fail
 refine wE 6 [pV p 0,pV p 0,pV p 1,v,iV (n:Int),iV 0] [9,10,11,12,13,14] ?_ ?_
 ·refine mE 1 0 ?_
  refine nD 2 9 0 ?_
  refine fD 3 10 1 53 1 1 0 ?_
  refine sW 4 rfl (fun a u E D hk=>Jy _ _ Tryz.underlying44 _ _ _ rfl (dD D 2) (Kept.cell hk (HV.out))) ?_
  refine sW 5 rfl (fun a u E D hk=>Qq _ slO _ _ _ _ rfl (dD D 3) (HS.out.kept hk)) ?_
  refine sW 6 rfl (fun a u E D hk=>Jj _ _ rfl rfl) ?_
  exact fz
 intro w0 k0
 simp only [F8]
 go_wp2_with fail
 go_loopw [14] (fun q wr=>∃ (k:Nat),k≤n∧q=.int .i64 (k:Int)∧Hid (∀ (j:Nat) (x:Ord),j<k→W[j]?=some x→Ord.is t i x=false)∧Kept w wr) (fun q _=>n-(intOf q).toNat)
 case atStart=>exact ⟨0,Nat.zero_le _,rfl,fun j x hj=>(by omega),k0⟩
 obtain ⟨k,hkn,rfl,HM,hkr⟩:=hrel
 by_cases hlt:k<n
 ·obtain ⟨g,off,c,rfl⟩:=HS.out.some_ (by omega)
  obtain ⟨e,he⟩:∃ e,W[k]?=some e:=⟨W[k]'(by rw [HN.out];exact hlt),List.getElem?_eq_getElem (by rw [HN.out];exact hlt)⟩
  have HEI:=Kj he
  have HE:Hid (wr.rangeAt g (off+k*9) e.cells):=JJ (HS.out.rngO k e he) hkr
  clear he
  go_upto_region 3 with fail
  refine QZ 4 [iE (k:Int),pE g (off+k*9),.eq (e.v),.fresh wr.heap.size 30 JV.cells] rfl (by kernel_rfl) ?_ ?_
  ·refine mE 1 14 ?_
   refine sW 2 rfl (fun a u E D hk=>Jz slO _ _ (g) (off) n c k (off+k*9) ((k:Int)) rfl (eE E) (eE E) (by first | rfl | omega) (hlt) (by first | rfl | omega)) ?_
   refine sD 3 17 1 e.cells Tryz.underlying30 (fun u hk=>JJ HE.out hk) (by rw [e.len9];exact JX) ?_
   refine nW 4 rfl (fun a u E D hk=>⟨_,_,QW 30 JV.cells rfl zO,⟨_,rfl,hk.size,Blk.new u _ _⟩,((Keep.refl _ u).alloc _)⟩) ?_
   exact fz
  intro gv w1 hV k1
  rw [dq 4 [16,17,18,8]]
  simp only [Fz7]
  rw [gQ hV 0 16 (.int .i64 (k:Int))]
  have hv8:(.fresh wr.heap.size 30 JV.cells:Kn).p (gv 8) w1:=hV 3 8 (by kernel_rfl)
  generalize gv 8=v8 at hv8 ⊢
  rw [gQ hV 2 18 e.v]
  clear hV
  obtain ⟨b8,rfl,hb8,hB8⟩:=hv8
  refine Jx (.int .i64 (k:Int)) rfl (JQ _ _ rfl (by kernel_rfl)) ?_
  simp only [Act.put,sA,sS,sZ]
  refine Qj 30 b8 30 JV.cells e.cells _ _ rfl rfl (by kernel_rfl) (by kernel_rfl) (hB8) (by rw [Ord.len9];exact JX) (by rw [Ord.len9,Ord.len9]) (Ord.one1 _) ?_
  intro w2 hCw2 hkw2 hsw2
  simp only [Act.put]
  refine Kx ?_
  have kw2:Kept w w2:=(hkr.trans k1).trans' hkw2 (by have:=hkr.size;omega)
  have HC2:=Kj (JW hCw2)
  clear hB8 hCw2 hkw2 hsw2 k1 HE
  by_cases hm:Ord.is t i e=true
  ·have HR:Hid (WU (Ord.is t i) W=(k:Int)):=by
    show _=_
    have h1:=find_at HM.out HEI.out hm
    unfold WU
    rw [h1,if_pos (by rw [HN.out];exact hlt)]
   go_upto_region 4 with fail
   refine wT 10 [pE b8 0,iE e.tr,iE t,bE (decide ((e.tr:Int)=(t:Int))),bE (decide ((e.tr:Int)=(t:Int))),.cond (decide ((e.tr:Int)=(t:Int))) (pE b8 1),.cond (decide ((e.tr:Int)=(t:Int))) (iE e.id),.cond (decide ((e.tr:Int)=(t:Int))) (iE i),.cond (decide ((e.tr:Int)=(t:Int))) (bE (decide ((e.id:Int)=(i:Int)))),bE true] [19,20,21,22,23,24,25,26,27,28] ?_ ?_
   ·refine fE 1 8 30 0 0 0 ?_
    refine lD 2 19 0 Tryz.underlying3 (fun u hk=>JY (JJ HC2.out hk) 0 _ rfl) ?_
    refine mE 3 1 ?_
    refine sW 4 rfl (fun a u E D hk=>JU rfl (dD D 1) (dD D 2)) ?_
    refine mD 5 22 3 ?_
    refine iC 6 4 rfl (fun a u E D hk hb=>QV 30 1 1 _ (b8) (0) (1) rfl (eE E) (by kernel_rfl) rfl) ?_
    refine iC 7 4 rfl (fun a u E D hk hb=>QX _ Tryz.underlying3 _ _ _ rfl ((D 5 24 (by kernel_rfl)).1 hb) (JY (JJ HC2.out hk) 1 _ rfl)) ?_
    refine iC 8 4 rfl (fun a u E D hk hb=>Jj _ _ rfl (eE E)) ?_
    refine iC 9 4 rfl (fun a u E D hk hb=>JU rfl ((D 6 25 (by kernel_rfl)).1 hb) ((D 7 26 (by kernel_rfl)).1 hb)) ?_
    refine aS 10 rfl (fun a u E D hk=>Xj _ _ _ ((decide ((e.tr:Int)=(t:Int)))) ((decide ((e.id:Int)=(i:Int)))) rfl (dD D 4) (fun hb2=>((D 8 27 (by kernel_rfl)).1 hb2)) rfl) hm ?_
    exact fz
   intro gv w3 hV k3
   simp only [Fz7]
   rw [gQ hV 9 28 (.bool true)]
   clear hV
   have kw3:=kw2.trans k3
   clear HC2 k3 kw2
   clear hm hkr
   go_wp2
   go_ret
   exact ⟨by rw [HR.out];rfl,kw3⟩
  have hm':Ord.is t i e=false:=by simpa using hm
  have HM2:Hid (∀ (j:Nat) (x:Ord),j<k+1→W[j]?=some x→Ord.is t i x=false):=by
   intro j x hj hx
   by_cases hjk:j=k
   ·subst hjk
    rw [HEI.out] at hx
    injection hx with hx
    rw [← hx]
    exact hm'
   exact HM.out j x (by omega) hx
  clear hm HM
  go_upto_region 4 with fail
  refine wT 10 [pE b8 0,iE e.tr,iE t,bE (decide ((e.tr:Int)=(t:Int))),bE (decide ((e.tr:Int)=(t:Int))),.cond (decide ((e.tr:Int)=(t:Int))) (pE b8 1),.cond (decide ((e.tr:Int)=(t:Int))) (iE e.id),.cond (decide ((e.tr:Int)=(t:Int))) (iE i),.cond (decide ((e.tr:Int)=(t:Int))) (bE (decide ((e.id:Int)=(i:Int)))),bE false] [19,20,21,22,23,24,25,26,27,28] ?_ ?_
  ·refine fE 1 8 30 0 0 0 ?_
   refine lD 2 19 0 Tryz.underlying3 (fun u hk=>JY (JJ HC2.out hk) 0 _ rfl) ?_
   refine mE 3 1 ?_
   refine sW 4 rfl (fun a u E D hk=>JU rfl (dD D 1) (dD D 2)) ?_
   refine mD 5 22 3 ?_
   refine iC 6 4 rfl (fun a u E D hk hb=>QV 30 1 1 _ (b8) (0) (1) rfl (eE E) (by kernel_rfl) rfl) ?_
   refine iC 7 4 rfl (fun a u E D hk hb=>QX _ Tryz.underlying3 _ _ _ rfl ((D 5 24 (by kernel_rfl)).1 hb) (JY (JJ HC2.out hk) 1 _ rfl)) ?_
   refine iC 8 4 rfl (fun a u E D hk hb=>Jj _ _ rfl (eE E)) ?_
   refine iC 9 4 rfl (fun a u E D hk hb=>JU rfl ((D 6 25 (by kernel_rfl)).1 hb) ((D 7 26 (by kernel_rfl)).1 hb)) ?_
   refine aS 10 rfl (fun a u E D hk=>Xj _ _ _ ((decide ((e.tr:Int)=(t:Int)))) ((decide ((e.id:Int)=(i:Int)))) rfl (dD D 4) (fun hb2=>((D 8 27 (by kernel_rfl)).1 hb2)) rfl) hm' ?_
   exact fz
  intro gv w3 hV k3
  simp only [Fz7]
  rw [gQ hV 9 28 (.bool false)]
  clear hV
  have kw3:=kw2.trans k3
  clear HC2 k3 kw2
  clear hm' hkr
  go_wp2
  exact ⟨⟨k+1,by omega,by go_num,HM2,kw3⟩,by simp [intOf];omega⟩
 have HR:Hid (WU (Ord.is t i) W=-1):=by
  show _=_
  have h1:=find_no (p:=Ord.is t i) (X:=W) (fun j x hj hx=>HM.out j x (by rw [HN.out] at hj;omega) hx)
  unfold WU
  rw [h1,if_neg (by omega)]
 clear HM
 go_wp2
 go_ret
 exact ⟨by rw [HR.out];rfl,hkr⟩
theorem rmlen_any (w:World) (F:Nat→Prop) (p:Nat) (Mm:Mkt) (h:RMk w F p Mm) (hI:Inv Mm.b) (hlen:Mm.w.length≤100000):Gives 25 #[.pointer (some ⟨p,0,none⟩)] w (.eq (.int .i64 (Mm.len:Int))):=by
 refine XJ ?_
 obtain ⟨_,q,v,Fb,hP,_⟩:=h
 have HQ:Hid (w.cell? ⟨p,0,none⟩=some (.pointer (some ⟨q,0,none⟩))):=hP.blk.cell 0
 have HV:Hid (w.cell? ⟨p,1,none⟩=some v):=hP.blk.cell 1
 have HK:=Kj hP.bk
 obtain ⟨n,hn⟩:∃ n,Mm.w.length=n:=⟨_,rfl⟩
 have HS:=Kj hP.sl
 rw [hn] at HS hlen
 obtain ⟨m,hm⟩:∃ m,Mm.b.len=m:=⟨_,rfl⟩
 have HM:Hid ((m:Int)+(n:Int)=(Mm.len:Int)):=by show _=_;unfold Mkt.len;rw [hm,hn];omega
 have HMe:=Kj hm
 have HI:=Kj hI
 have hm64:m≤128:=by have:=hI.two.few;rw [← hm];unfold Bok.len Bok.all;rw [List.length_append];omega
 clear hP hn hm hI
 go_enter Tryz.func25,Tryz.ntmps25
 go_upto_region 1 with fail
 refine wG 12 [pV p 0,pV p 0,pV p 0,pV q 0,iV (m:Int),pV p 0,pV p 0,pV p 1,v,iV (n:Int),iV (((m:Int):Int)+((n:Int):Int)),iV (((m:Int):Int)+((n:Int):Int))] [3,4,5,6,7,8,9,10,11,12,13,2] ?_ ?_
 ·refine mE 1 0 ?_
  refine nD 2 3 0 ?_
  refine fD 3 4 1 53 0 0 0 ?_
  refine sW 4 rfl (fun a u E D hk=>XY _ _ Tryz.underlying47 _ _ _ rfl (dD D 2) (Kept.cell hk (HQ.out))) ?_
  refine cS 5 52 [.pointer (some ⟨q,0,none⟩)] rfl Tryz.func52 rfl (fun a u E D hk=>⟨ll (dD D 3) rfl,(by rw [← HMe.out];exact rblen_any u Fb q Mm.b (HK.out.kept hk) HI.out)⟩) ?_
  refine mE 6 0 ?_
  refine nD 7 8 5 ?_
  refine fD 8 9 6 53 1 1 0 ?_
  refine sW 9 rfl (fun a u E D hk=>Jy _ _ Tryz.underlying44 _ _ _ rfl (dD D 7) (Kept.cell hk (HV.out))) ?_
  refine sW 10 rfl (fun a u E D hk=>Qq _ slO _ _ _ _ rfl (dD D 8) (HS.out.kept hk)) ?_
  refine sW 11 rfl (fun a u E D hk=>ZJ (p:=((m:Int))) (q:=((n:Int))) (((m:Int):Int)+((n:Int):Int)) rfl (dD D 4) (dD D 9) rfl (by omega) (by omega)) ?_
  refine mD 12 13 10 ?_
  exact fz
 intro w1 k1
 simp only [F8]
 go_wp2
 go_ret
 exact ⟨by rw [HM.out];rfl,k1⟩
theorem rmfind_any (w:World) (F:Nat→Prop) (p:Nat) (Mm:Mkt) (t i:Int) (h:RMk w F p Mm) (hI:Inv Mm.b) (hlen:Mm.w.length≤100000):Gives 13 #[.pointer (some ⟨p,0,none⟩),.int .i64 t,.int .i64 i] w (.eq (.tuple #[(Mm.find t i).1.v,.bool (Mm.find t i).2])):=by
 refine XJ ?_
 obtain ⟨_,q,v,Fb,hP,_⟩:=h
 have HQ:Hid (∀ u,Kept w u→u.cell? ⟨p,0,none⟩=some (.pointer (some ⟨q,0,none⟩))):=fun u k=>(hP.blk.kept k).cell 0
 have HV:Hid (∀ u,Kept w u→u.cell? ⟨p,1,none⟩=some v):=fun u k=>(hP.blk.kept k).cell 1
 have HPB:=Kj hP.blk
 have HS:=Kj hP.sl
 have HK:=Kj hP.bk
 have HI:=Kj hI
 obtain ⟨x,b,hx⟩:∃ x b,Mm.b.find t i=(x,b):=⟨_,_,rfl⟩
 have HX:=Kj hx
 clear hP hI hx
 go_enter Tryz.func13,Tryz.ntmps13
 go_upto_region 0 with fail
 refine QZ 2 [.fresh w.heap.size 30 JV.cells,bE false] rfl (by kernel_rfl) ?_ ?_
 ·refine nW 1 rfl (fun a u E D hk=>⟨_,_,QW 30 JV.cells rfl zO,⟨_,rfl,hk.size,Blk.new u _ _⟩,((Keep.refl _ u).alloc _)⟩) ?_
  refine sW 2 rfl (fun a u E D hk=>JQ _ _ rfl rfl) ?_
  exact fz
 intro gv w0 hV k0
 rw [dq 2 [6,7]]
 simp only [Fz7]
 have hv6:(.fresh w.heap.size 30 JV.cells:Kn).p (gv 6) w0:=hV 0 6 (by kernel_rfl)
 generalize gv 6=v6 at hv6 ⊢
 rw [gQ hV 1 7 (.bool false)]
 clear hV
 obtain ⟨b6,rfl,hb6,hB6⟩:=hv6
 refine Kx ?_
 have HB6:=Kj hB6
 have l6:=hB6.lt
 have z0:=k0.size
 have HQ0:=Kj (HQ.out w0 k0)
 clear hB6
 go_upto_region 1 with fail
 refine wEp 10 [pV p 0,pV p 0,pV p 0,pV q 0,iV t,iV i,.tuple #[x.v,.bool b],.tuple #[x.v,.bool b],x.v,bV b] [12,13,14,15,16,17,18,11,19,20] ?_ ?_
 ·refine mE 1 0 ?_
  refine nD 2 12 0 ?_
  refine fD 3 13 1 53 0 0 0 ?_
  refine sW 4 rfl (fun a u E D hk=>XY _ _ Tryz.underlying47 _ _ _ rfl (dD D 2) (Kept.cell hk (HQ0.out))) ?_
  refine mE 5 1 ?_
  refine mE 6 2 ?_
  refine cS 7 22 [.pointer (some ⟨q,0,none⟩),.int .i64 t,.int .i64 i] rfl Tryz.func22 rfl (fun a u E D hk=>⟨ll (dD D 3) (ll (dD D 4) (ll (dD D 5) rfl)),(by have h:=rbfind_any u Fb q Mm.b t i (HK.out.kept (k0.trans hk)) HI.out;rw [HX.out] at h;exact h)⟩) ?_
  refine mD 8 18 6 ?_
  refine sW 9 rfl (fun a u E D hk=>QU _ [x.v,.bool b] 0 (x.v) rfl (dD D 7) rfl) ?_
  refine sW 10 rfl (fun a u E D hk=>QU _ [x.v,.bool b] 1 (.bool b) rfl (dD D 7) rfl) ?_
  exact fz
 intro w1 k1
 simp only [F8]
 refine ZW (.pointer (some ⟨w1.heap.size,0,none⟩)) (w1.alloc (.cells JV.cells.toArray 30)) rfl (QW 30 JV.cells rfl zO) ?_
 have hNw2:=Blk.new w1 30 JV.cells
 have kw2:Kept w1 (w1.alloc (.cells JV.cells.toArray 30)):=(Keep.refl _ w1).alloc _
 generalize w1.alloc (.cells JV.cells.toArray 30)=w2 at hNw2 kw2 ⊢
 simp only [Act.put,sA,sS,sZ]
 refine Qj 30 w1.heap.size 30 JV.cells x.cells _ _ rfl rfl (by kernel_rfl) (by kernel_rfl) (hNw2) (by rw [Ord.len9];exact JX) (by rw [Ord.len9,Ord.len9]) (Ord.one1 _) ?_
 intro w3 hCw3 hkw3 hsw3
 simp only [Act.put]
 refine Jx (.bool b) rfl (JQ _ _ rfl (by kernel_rfl)) ?_
 simp only [Act.put,sA,sS,sZ]
 refine Kx ?_
 obtain ⟨b8,h8⟩:∃ a,w1.heap.size=a:=⟨_,rfl⟩
 rw [h8] at hNw2 hCw3 hkw3 ⊢
 have z1:=k1.size
 have k13:Kept w0 w3:=(k1.trans kw2).trans' hkw3 (by omega)
 have K3:Kept w w3:=k0.trans k13
 have z3:=k13.size
 have HX8:=Kj (JW hCw3)
 have HB63:=Kj (HB6.out.kept k13)
 clear hNw2 hCw3 hkw3 hsw3 kw2 k1 k13 HB6 HQ0
 cases b with
 | true=>
  have HR:Hid (Mm.find t i=(x,true)):=by show _=_;unfold Mkt.find;rw [HX.out];rfl
  go_upto_region 3 with fail
  refine wEp 1 [x.v] [22] ?_ ?_
  ·refine sE 1 8 b8 0 x.cells Tryz.underlying30 (fun u hk=>JJ HX8.out hk) (by rw [x.len9];exact JX) ?_
   exact fz
  intro w4 k4
  simp only [F8]
  refine Qj 30 b6 30 JV.cells x.cells _ _ rfl rfl (by kernel_rfl) (by kernel_rfl) (HB63.out.kept k4) (by rw [Ord.len9];exact JX) (by rw [Ord.len9,Ord.len9]) (Ord.one1 _) ?_
  intro w5 hCw5 hkw5 hsw5
  simp only [Act.put]
  refine Jx (.bool true) rfl (JQ _ _ rfl (by kernel_rfl)) ?_
  simp only [Act.put,sA,sS,sZ]
  refine Kx ?_
  go_wp2
  refine bodyPost_ret (XU (p:=6) (q:=7) rfl _ _ b6 _ x.cells true rfl rfl hCw5 Tryz.underlying30 (by rw [Ord.len9];exact JX)) rfl ?_
  rw [HR.out]
  exact ⟨rfl,(K3.trans k4).trans' hkw5 (by omega)⟩
 | false=>
  have HR:Hid (Mm.find t i=findO t i Mm.w):=by show _=_;unfold Mkt.find;rw [HX.out];rfl
  obtain ⟨j,hj⟩:∃ j,WU (Ord.is t i) Mm.w=j:=⟨_,rfl⟩
  have HJ:=Kj hj
  go_upto_region 4 with fail
  refine wE 5 [pV p 0,iV t,iV i,iV j,iV j] [23,24,25,26,10] ?_ ?_
  ·refine mE 1 0 ?_
   refine mE 2 1 ?_
   refine mE 3 2 ?_
   refine cS 4 24 [.pointer (some ⟨p,0,none⟩),.int .i64 t,.int .i64 i] rfl Tryz.func24 rfl (fun a u E D hk=>⟨ll (dD D 0) (ll (dD D 1) (ll (dD D 2) rfl)),(by rw [← HJ.out];exact rwaits_any u p q v Mm.w t i (HPB.out.kept (K3.trans hk)) (HS.out.kept (K3.trans hk)) hlen)⟩) ?_
   refine mD 5 26 3 ?_
   exact fz
  intro w4 k4
  simp only [F8]
  have K4:=K3.trans k4
  have HB64:=Kj (HB63.out.kept k4)
  have z4:=k4.size
  clear HB63 HX8 k4
  cases hw:Mm.w[Mm.w.findIdx (Ord.is t i)]? with
  | none=>
   have hj1:j=-1:=by rw [← hj];exact xU hw
   have HE:Hid (findO t i Mm.w=(JV,false)):=by show _=_;unfold findO;rw [hw]
   subst hj1
   clear hj hw
   go_upto_region 5 with fail
   refine wE 2 [iV (-1),bV false] [27,28] ?_ ?_
   ·refine mE 1 10 ?_
    refine aS 2 rfl (fun a u E D hk=>WV rfl (dD D 0) rfl) (by decide) ?_
    exact fz
   intro w5 k5
   simp only [F8]
   have HB65:=Kj (HB64.out.kept k5)
   have z5:=k5.size
   go_upto_region 7 with fail
   refine wEp 1 [JV.v] [36] ?_ ?_
   ·refine sW 1 rfl (fun a u E D hk=>YJ 30 [] JV.cells rfl (by kernel_rfl)) ?_
    exact fz
   intro w6 k6
   simp only [F8]
   refine Qj 30 b6 30 JV.cells JV.cells _ _ rfl rfl (by kernel_rfl) (by kernel_rfl) (HB65.out.kept k6) (by rw [Ord.len9];exact JX) rfl (Ord.one1 _) ?_
   intro w7 hCw7 hkw7 hsw7
   simp only [Act.put]
   refine Jx (.bool false) rfl (JQ _ _ rfl (by kernel_rfl)) ?_
   simp only [Act.put,sA,sS,sZ]
   refine Kx ?_
   go_wp2
   refine bodyPost_ret (XU (p:=6) (q:=7) rfl _ _ b6 _ JV.cells false rfl rfl hCw7 Tryz.underlying30 (by rw [Ord.len9];exact JX)) rfl ?_
   rw [HR.out,HE.out]
   exact ⟨rfl,((K4.trans k5).trans k6).trans' hkw7 (by omega)⟩
  | some e=>
   have hj1:j=(Mm.w.findIdx (Ord.is t i):Int):=by rw [← hj];exact xq hw
   have HE:Hid (findO t i Mm.w=(e,true)):=by show _=_;unfold findO;rw [hw]
   obtain ⟨n,hn⟩:∃ n,Mm.w.length=n:=⟨_,rfl⟩
   obtain ⟨k,hk⟩:∃ k,Mm.w.findIdx (Ord.is t i)=k:=⟨_,rfl⟩
   rw [hk] at hj1 hw
   have hkn:k<n:=by rw [← hn];exact (List.getElem?_eq_some_iff.1 hw).1
   subst hj1
   rw [hn] at HS
   obtain ⟨g,off,c,rfl⟩:=HS.out.some_ (by omega)
   have HEr:Hid (∀ u,Kept w u→u.rangeAt g (off+k*9) e.cells):=fun u ku=>JJ (HS.out.rngO k e hw) ku
   clear hj hw hk hn
   go_upto_region 5 with fail
   refine wE 2 [iV (k:Int),bV true] [27,28] ?_ ?_
   ·refine mE 1 10 ?_
    refine aS 2 rfl (fun a u E D hk=>WV rfl (dD D 0) rfl) (Ky (by omega)) ?_
    exact fz
   intro w5 k5
   simp only [F8]
   have HB65:=Kj (HB64.out.kept k5)
   have z5:=k5.size
   have K5:=K4.trans k5
   have HV5:=Kj (HV.out w5 K5)
   have HE5:=Kj (HEr.out w5 K5)
   go_upto_region 6 with fail
   refine wEp 7 [pV p 0,pV p 0,pV p 1,.slice (some ⟨g,off,none⟩) n c,iV (k:Int),pV g (off+k*9),e.v] [29,30,31,32,33,34,35] ?_ ?_
   ·refine mE 1 0 ?_
    refine nD 2 29 0 ?_
    refine fD 3 30 1 53 1 1 0 ?_
    refine sW 4 rfl (fun a u E D hk=>Jy _ _ Tryz.underlying44 _ _ _ rfl (dD D 2) (Kept.cell hk (HV5.out))) ?_
    refine mE 5 10 ?_
    refine sW 6 rfl (fun a u E D hk=>Jz slO _ _ (g) (off) n c k (off+k*9) ((k:Int)) rfl (dD D 3) (dD D 4) (by first | rfl | omega) (hkn) (by first | rfl | omega)) ?_
    refine sD 7 34 5 e.cells Tryz.underlying30 (fun u hk=>JJ HE5.out hk) (by rw [e.len9];exact JX) ?_
    exact fz
   intro w6 k6
   simp only [F8]
   refine Qj 30 b6 30 JV.cells e.cells _ _ rfl rfl (by kernel_rfl) (by kernel_rfl) (HB65.out.kept k6) (by rw [Ord.len9];exact JX) (by rw [Ord.len9,Ord.len9]) (Ord.one1 _) ?_
   intro w7 hCw7 hkw7 hsw7
   simp only [Act.put]
   refine Jx (.bool true) rfl (JQ _ _ rfl (by kernel_rfl)) ?_
   simp only [Act.put,sA,sS,sZ]
   refine Kx ?_
   go_wp2
   refine bodyPost_ret (XU (p:=6) (q:=7) rfl _ _ b6 _ e.cells true rfl rfl hCw7 Tryz.underlying30 (by rw [Ord.len9];exact JX)) rfl ?_
   rw [HR.out,HE.out]
   exact ⟨rfl,(K5.trans k6).trans' hkw7 (by omega)⟩
theorem rmall_any (w:World) (F:Nat→Prop) (p:Nat) (Mm:Mkt) (h:RMk w F p Mm) (hI:Inv Mm.b) (hlen:Mm.w.length≤100000):Gives 37 #[.pointer (some ⟨p,0,none⟩)] w (.sl w.heap.size 30 9 Mm.all.length (ords Mm.all)):=by
 obtain ⟨_,q,v,Fb,hP,_⟩:=h
 have HQ:Hid (w.cell? ⟨p,0,none⟩=some (.pointer (some ⟨q,0,none⟩))):=hP.blk.cell 0
 have HV:Hid (w.cell? ⟨p,1,none⟩=some v):=hP.blk.cell 1
 have HPl:Hid (¬ w.heap.size≤p):=by have:=hP.blk.lt;show ¬ _;omega
 have HVl:Hid (∀ b,v.ownBlock=some b→¬ w.heap.size≤b):=fun b hb=>by have:=hP.sl.lt hb;omega
 have HFl:Hid (∀ b,Fb b→¬ w.heap.size≤b):=fun b hb=>by have:=hP.bk.lt b hb;omega
 have HK:=Kj hP.bk
 have HS:=Kj hP.sl
 have HI:=Kj hI
 have h1l:(Yy Mm.b.buys).length≤64:=by rw [qY];exact (hI.ok 1).few
 have h2l:(Yy Mm.b.sells).length≤64:=by rw [qY];exact (hI.ok 2).few
 clear hP hI
 go_enter Tryz.func37,Tryz.ntmps37
 go_upto_region 1 with fail
 refine wp_tree (fun u=>Keep (fun b=>w.heap.size≤b) w u) (.val 0 (.val 1 (.val 2 (.val 3 (.val 5 (.val 6 (.val 7 (.val 8 (.val 11 (.val 12 (.val 13 (.val 14 (.one 4 (.one 9 (.one 10 (.one 15 (.val 16 .done))))))))))))))))) rfl (by kernel_rfl) (Keep.drew (Keep.refl _ w)) ?_
 refine WZ (o:=⟨some 3,_,_,_,_,_⟩) (.pointer (some ⟨p,0,none⟩)) rfl rfl (fun u hu=>Jj (.tmp 0) (.pointer (some ⟨p,0,none⟩)) rfl (by kernel_rfl)) ?_
 simp only [Act.put,sA,sS,sZ]
 refine WZ (o:=⟨some 4,_,_,_,_,_⟩) (.pointer (some ⟨p,0,none⟩)) rfl rfl (fun u hu=>YY (.tmp 3) ⟨p,0,none⟩ rfl (by kernel_rfl)) ?_
 simp only [Act.put,sA,sS,sZ]
 refine WZ (o:=⟨some 5,_,_,_,_,_⟩) (.pointer (some ⟨p,0,none⟩)) rfl rfl (fun u hu=>QV 53 0 0 (.tmp 4) (p) (0) (0) rfl (by kernel_rfl) (by kernel_rfl) rfl) ?_
 simp only [Act.put,sA,sS,sZ]
 refine WZ (o:=⟨some 6,_,_,_,_,_⟩) (.pointer (some ⟨q,0,none⟩)) rfl rfl (fun u hu=>XY 47 _ Tryz.underlying47 (.tmp 5) ⟨p,0,none⟩ (.pointer (some ⟨q,0,none⟩)) rfl (by kernel_rfl) (Keep.cell hu HQ.out HPl.out)) ?_
 simp only [Act.put,sA,sS,sZ]
 refine WZ (o:=⟨some 8,_,_,_,_,_⟩) (.pointer (some ⟨p,0,none⟩)) rfl rfl (fun u hu=>Jj (.tmp 0) (.pointer (some ⟨p,0,none⟩)) rfl (by kernel_rfl)) ?_
 simp only [Act.put,sA,sS,sZ]
 refine WZ (o:=⟨some 9,_,_,_,_,_⟩) (.pointer (some ⟨p,0,none⟩)) rfl rfl (fun u hu=>YY (.tmp 8) ⟨p,0,none⟩ rfl (by kernel_rfl)) ?_
 simp only [Act.put,sA,sS,sZ]
 refine WZ (o:=⟨some 10,_,_,_,_,_⟩) (.pointer (some ⟨p,0,none⟩)) rfl rfl (fun u hu=>QV 53 0 0 (.tmp 9) (p) (0) (0) rfl (by kernel_rfl) (by kernel_rfl) rfl) ?_
 simp only [Act.put,sA,sS,sZ]
 refine WZ (o:=⟨some 11,_,_,_,_,_⟩) (.pointer (some ⟨q,0,none⟩)) rfl rfl (fun u hu=>XY 47 _ Tryz.underlying47 (.tmp 10) ⟨p,0,none⟩ (.pointer (some ⟨q,0,none⟩)) rfl (by kernel_rfl) (Keep.cell hu HQ.out HPl.out)) ?_
 simp only [Act.put,sA,sS,sZ]
 refine WZ (o:=⟨some 14,_,_,_,_,_⟩) (.pointer (some ⟨p,0,none⟩)) rfl rfl (fun u hu=>Jj (.tmp 0) (.pointer (some ⟨p,0,none⟩)) rfl (by kernel_rfl)) ?_
 simp only [Act.put,sA,sS,sZ]
 refine WZ (o:=⟨some 15,_,_,_,_,_⟩) (.pointer (some ⟨p,0,none⟩)) rfl rfl (fun u hu=>YY (.tmp 14) ⟨p,0,none⟩ rfl (by kernel_rfl)) ?_
 simp only [Act.put,sA,sS,sZ]
 refine WZ (o:=⟨some 16,_,_,_,_,_⟩) (.pointer (some ⟨p,1,none⟩)) rfl rfl (fun u hu=>QV 53 1 1 (.tmp 15) (p) (0) (1) rfl (by kernel_rfl) (by kernel_rfl) rfl) ?_
 simp only [Act.put,sA,sS,sZ]
 refine WZ (o:=⟨some 17,_,_,_,_,_⟩) (v) rfl rfl (fun u hu=>Jy 44 _ Tryz.underlying44 (.tmp 16) ⟨p,1,none⟩ v rfl (by kernel_rfl) (Keep.cell hu HV.out HPl.out)) ?_
 simp only [Act.put,sA,sS,sZ]
 refine t_call (o:=⟨some 7,_,_,_,_,_⟩) 65 #[.pointer (some ⟨q,0,none⟩),.int .i64 1] rfl rfl (Jq 65 _ [.tmp 6,.const (.int .i64 1)] _ _ Tryz.func65 (by kernel_rfl) (by kernel_rfl) rfl (by kernel_rfl)) ?_
 refine (rborders_any w.drew Fb q Mm.b 1 (by omega) (HK.out.keep (Keep.drew (Keep.refl _ w)) HFl.out) HI.out).mono ?_
 rintro r x1 ⟨va,rfl,hsva,hkva⟩
 have hsva:(Kn.sl w.drew.heap.size 30 9 (Yy Mm.b.buys).length (ords (Yy Mm.b.buys))).p va x1:=hsva
 have hSx1:Keep (fun b=>w.heap.size≤b) w x1:=Keep.kept (Keep.drew (Keep.refl _ w)) hkva
 refine ⟨va,rfl,hSx1,?_⟩
 simp only [Act.put,sA,sS,sZ]
 refine t_call (o:=⟨some 12,_,_,_,_,_⟩) 65 #[.pointer (some ⟨q,0,none⟩),.int .i64 2] rfl rfl (Jq 65 _ [.tmp 11,.const (.int .i64 2)] _ _ Tryz.func65 (by kernel_rfl) (by kernel_rfl) rfl (by kernel_rfl)) ?_
 refine (rborders_any x1 Fb q Mm.b 2 (by omega) (HK.out.keep (hSx1) HFl.out) HI.out).mono ?_
 rintro r x2 ⟨vb,rfl,hsvb,hkvb⟩
 have hsvb:(Kn.sl x1.heap.size 30 9 (Yy Mm.b.sells).length (ords (Yy Mm.b.sells))).p vb x2:=hsvb
 have hSx2:Keep (fun b=>w.heap.size≤b) w x2:=Keep.kept (hSx1) hkvb
 refine ⟨vb,rfl,hSx2,?_⟩
 simp only [Act.put,sA,sS,sZ]
 obtain ⟨v3,x3,hr3,hs3,hk3,ho3⟩:=Qy slO 44 x2 va vb _ _ _ _ (hsva.1.kept hkvb) hsvb.1 (qX _) (by unfold maxLen;omega) (by omega)
 have hz1:w.heap.size≤x1.heap.size:=hSx1.size
 have hz0:w.drew.heap.size=w.heap.size:=rfl
 have hz2:w.heap.size≤x2.heap.size:=hSx2.size
 have hSx3:Keep (fun b=>w.heap.size≤b) w x3:=hSx2.trans hk3 (fun b _ e=>by have:=hsva.2 b e;omega)
 refine t_new (o:=⟨some 13,_,_,_,_,_⟩) v3 x3 rfl rfl (XQ slO (.tmp 7) (.tmp 12) va vb rfl (by kernel_rfl) (by kernel_rfl) v3 x3 hr3) hSx3 ?_
 simp only [Act.put,sA,sS,sZ]
 obtain ⟨v4,x4,hr4,hs4,hk4,ho4⟩:=Qy slO 44 x3 v3 v _ _ _ _ hs3 (HS.out.keep hSx3 HVl.out) (qX _) (by unfold maxLen;omega) (by omega)
 have hO3:∀ b,v3.ownBlock=some b→w.heap.size≤b:=fun b hb=>(ho3 b hb).elim (fun e=>by have:=hsva.2 b e;omega) (fun e=>by omega)
 have hO4:∀ b,v4.ownBlock=some b→w.heap.size≤b:=fun b hb=>(ho4 b hb).elim (hO3 b) (fun e=>by have:=hSx3.size;omega)
 have hSx4:Keep (fun b=>w.heap.size≤b) w x4:=hSx3.trans hk4 (fun b _ e=>hO3 b e)
 refine t_new (o:=⟨some 18,_,_,_,_,_⟩) v4 x4 rfl rfl (XQ slO (.tmp 13) (.tmp 17) v3 v rfl (by kernel_rfl) (by kernel_rfl) v4 x4 hr4) hSx4 ?_
 simp only [Act.put,sA,sS,sZ]
 refine WZ (o:=⟨some 2,_,_,_,_,_⟩) (v4) rfl rfl (fun u hu=>JQ (.tmp 18) (v4) rfl (by kernel_rfl)) ?_
 simp only [Act.put,sA,sS,sZ]
 refine t_done ?_
 refine Kx ?_
 have hZ:Sl x4 30 9 v4 Mm.all.length (ords Mm.all):=by
  have e:ords Mm.all=(ords (Yy Mm.b.buys)++ords (Yy Mm.b.sells))++ords Mm.w:=by unfold Mkt.all ords;rw [List.flatMap_append,List.flatMap_append]
  have e2:Mm.all.length=((Yy Mm.b.buys).length+(Yy Mm.b.sells).length)+Mm.w.length:=by unfold Mkt.all;rw [List.length_append,List.length_append]
  rw [e,e2]
  exact hs4
 have kk:Kept w x4:=hSx4.mono (fun b hb e=>by omega)
 clear hs4 hs3 hsva hsvb hr3 hr4
 go_wp2
 go_ret
 exact ⟨_,rfl,⟨hZ,hO4⟩,kk⟩
theorem rmremove_any (w:World) (F:Nat→Prop) (p:Nat) (Mm:Mkt) (t i:Int) (h:RMk w F p Mm) (hI:Inv Mm.b) (hlen:Mm.w.length≤100000):Calls Tryz.prog 11 #[.pointer (some ⟨p,0,none⟩),.int .i64 t,.int .i64 i] w fun r w'=>∃ F',r=.returned (.tuple #[(Mm.remove t i).1.v,.bool (Mm.remove t i).2.1])∧RMk w' F' p (Mm.remove t i).2.2∧Grow w F F'∧Keep F w w':=by
 obtain ⟨hFl,q,v,Fb,hP,hfF⟩:=h
 have hft:=hP.foot_lt
 have HPP:=Kj hP
 have HQ:Hid (∀ u,Kept w u→u.cell? ⟨p,0,none⟩=some (.pointer (some ⟨q,0,none⟩))):=fun u k=>(hP.blk.kept k).cell 0
 have HI:=Kj hI
 have HFF:=Kj hfF
 obtain ⟨x,b,B2,hx⟩:∃ x b B2,Mm.b.remove t i=(x,b,B2):=⟨_,_,_,rfl⟩
 have HX:=Kj hx
 have hpl:=hP.blk.lt
 have hFbl:=hP.bk.lt
 clear hP hI hx
 go_enter Tryz.func11,Tryz.ntmps11
 go_upto_region 0 with fail
 refine QZ 2 [.fresh w.heap.size 30 JV.cells,bE false] rfl (by kernel_rfl) ?_ ?_
 ·refine nW 1 rfl (fun a u E D hk=>⟨_,_,QW 30 JV.cells rfl zO,⟨_,rfl,hk.size,Blk.new u _ _⟩,((Keep.refl _ u).alloc _)⟩) ?_
  refine sW 2 rfl (fun a u E D hk=>JQ _ _ rfl rfl) ?_
  exact fz
 intro gv w0 hV k0
 rw [dq 2 [6,7]]
 simp only [Fz7]
 have hv6:(.fresh w.heap.size 30 JV.cells:Kn).p (gv 6) w0:=hV 0 6 (by kernel_rfl)
 generalize gv 6=v6 at hv6 ⊢
 rw [gQ hV 1 7 (.bool false)]
 clear hV
 obtain ⟨b6,rfl,hb6,hB6⟩:=hv6
 refine Kx ?_
 have HB6:=Kj hB6
 have l6:=hB6.lt
 have z0:=k0.size
 have HQ0:=Kj (HQ.out w0 k0)
 have h6F:¬ Fb b6:=fun h=>by have:=hFbl b6 h;omega
 clear hB6
 go_upto_region 1 with fail
 refine wEp 6 [pV p 0,pV p 0,pV p 0,pV q 0,iV t,iV i] [13,14,15,16,17,18] ?_ ?_
 ·refine mE 1 0 ?_
  refine nD 2 13 0 ?_
  refine fD 3 14 1 53 0 0 0 ?_
  refine sW 4 rfl (fun a u E D hk=>XY _ _ Tryz.underlying47 _ _ _ rfl (dD D 2) (Kept.cell hk (HQ0.out))) ?_
  refine mE 5 1 ?_
  refine mE 6 2 ?_
  exact fz
 intro w1 k1
 simp only [F8]
 refine Yz 32 #[.pointer (some ⟨q,0,none⟩),.int .i64 t,.int .i64 i] rfl (Jq 32 _ [.tmp 16,.tmp 17,.tmp 18] _ _ Tryz.func32 (by kernel_rfl) (by kernel_rfl) rfl (by kernel_rfl) _) ?_
 refine (rbremove_any w1 Fb q Mm.b t i (HPP.out.bk.kept (k0.trans k1)) HI.out).mono ?_
 rintro r w2 ⟨F2,rfl,hK2,hG2,hk2⟩
 rw [HX.out] at hK2
 refine ⟨.tuple #[x.v,.bool b],by rw [HX.out],?_⟩
 simp only [Act.put,sA,sS,sZ]
 refine Jx (.tuple #[x.v,.bool b]) rfl (Jj _ _ rfl (by kernel_rfl)) ?_
 simp only [Act.put,sA,sS,sZ]
 refine Jx (x.v) rfl (QU (.tmp 12) [x.v,.bool b] 0 (x.v) rfl (by kernel_rfl) rfl) ?_
 simp only [Act.put,sA,sS,sZ]
 refine Jx (.bool b) rfl (QU (.tmp 12) [x.v,.bool b] 1 (.bool b) rfl (by kernel_rfl) rfl) ?_
 simp only [Act.put,sA,sS,sZ]
 refine ZW (.pointer (some ⟨w2.heap.size,0,none⟩)) (w2.alloc (.cells JV.cells.toArray 30)) rfl (QW 30 JV.cells rfl zO) ?_
 have hNw3:=Blk.new w2 30 JV.cells
 have kw3:Kept w2 (w2.alloc (.cells JV.cells.toArray 30)):=(Keep.refl _ w2).alloc _
 generalize w2.alloc (.cells JV.cells.toArray 30)=w3 at hNw3 kw3 ⊢
 simp only [Act.put,sA,sS,sZ]
 refine Qj 30 w2.heap.size 30 JV.cells x.cells _ _ rfl rfl (by kernel_rfl) (by kernel_rfl) (hNw3) (by rw [Ord.len9];exact JX) (by rw [Ord.len9,Ord.len9]) (Ord.one1 _) ?_
 intro w4 hCw4 hkw4 hsw4
 simp only [Act.put]
 refine Jx (.bool b) rfl (JQ _ _ rfl (by kernel_rfl)) ?_
 simp only [Act.put,sA,sS,sZ]
 refine Kx ?_
 obtain ⟨b8,h8⟩:∃ a,w2.heap.size=a:=⟨_,rfl⟩
 rw [h8] at hNw3 hCw4 hkw4 ⊢
 have z1:=k1.size
 have z2:=hk2.size
 have l8:=hCw4.lt
 have k24:Kept w2 w4:=kw3.trans' hkw4 (by omega)
 have HX8:=Kj (JW hCw4)
 have HB64:=Kj (((HB6.out.kept k1).keep hk2 h6F).kept k24)
 have K4:Keep Fb w w4:=(Keep.any (k0.trans k1) hk2).kept k24
 have HG:Hid (Grow w Fb F2):=hG2.wide (k0.trans k1).size
 have hbl:p≠b6:=by omega
 have HB4:=Kj (HPP.out.blk.keep K4 HPP.out.nb)
 have HS4:=Kj (HPP.out.sl.keep K4 (fun b hb=>(HPP.out.nv b hb).2))
 have HK4:=Kj (hK2.kept k24)
 have z4:=K4.size
 have h6F2:¬ F2 b6:=fun h=>(hG2 b6 h).elim h6F (fun h=>by omega)
 have hpF2:¬ F2 p:=fun h=>(HG.out p h).elim HPP.out.nb (fun h=>by omega)
 have hvF2:Hid (∀ b,v.ownBlock=some b→b≠p∧¬ F2 b):=fun b hb=>⟨(HPP.out.nv b hb).1,fun h=>(HG.out b h).elim (HPP.out.nv b hb).2 (fun h=>by have:=HPP.out.sl.lt hb;omega)⟩
 have hGG:Hid (Grow w F (foot p v F2)):=fun b hb=>by
  rcases hb with hb | hb
  ·exact .inl (HFF.out b (.inl hb))
  exact (HG.out b hb).imp (fun h=>HFF.out b (.inr h)) id
 have hKF:Keep F w w4:=K4.mono (fun b _ hb=>HFF.out b (.inr hb))
 have h6v:∀ b,v.ownBlock=some b→b≠b6:=fun b hb e=>by have:=HPP.out.sl.lt hb;omega
 have H6v:=Kj h6v
 clear hK2 hG2 hk2 hNw3 hCw4 hkw4 hsw4 kw3 k24 HB6 HQ0 k1 h6v
 cases b with
 | true=>
  have HR:Hid (Mm.remove t i=(x,true,⟨B2,Mm.w⟩)):=by show _=_;unfold Mkt.remove;rw [HX.out];rfl
  go_upto_region 3 with fail
  refine wEp 1 [x.v] [23] ?_ ?_
  ·refine sE 1 8 b8 0 x.cells Tryz.underlying30 (fun u hk=>JJ HX8.out hk) (by rw [x.len9];exact JX) ?_
   exact fz
  intro w5 k5
  simp only [F8]
  refine Qj 30 b6 30 JV.cells x.cells _ _ rfl rfl (by kernel_rfl) (by kernel_rfl) (HB64.out.kept k5) (by rw [Ord.len9];exact JX) (by rw [Ord.len9,Ord.len9]) (Ord.one1 _) ?_
  intro w6 hCw6 hkw6 hsw6
  simp only [Act.put]
  refine Jx (.bool true) rfl (JQ _ _ rfl (by kernel_rfl)) ?_
  simp only [Act.put,sA,sS,sZ]
  refine Kx ?_
  go_wp2
  refine bodyPost_ret (XU (p:=6) (q:=7) rfl _ _ b6 _ x.cells true rfl rfl hCw6 Tryz.underlying30 (by rw [Ord.len9];exact JX)) rfl ?_
  rw [HR.out]
  have hP:RkP w6 p q v F2 ⟨B2,Mm.w⟩:=⟨(HB4.out.kept k5).keep hkw6 hbl,(HK4.out.kept k5).keep hkw6 (fun b hb e=>h6F2 (by rw [← e];exact hb)),(HS4.out.kept k5).keep hkw6 (fun b hb=>H6v.out b hb),hpF2,hvF2.out⟩
  have z5:=k5.size
  have KF:Keep F w w6:=(hKF.kept k5).new hkw6 (by omega)
  first | exact ⟨rfl,_,hP.close,hGG.out,KF⟩ | exact ⟨_,rfl,hP.close,hGG.out,KF⟩
 | false=>
  have hB2:B2=Mm.b:=by have:=remove_off (B:=Mm.b) (t:=t) (i:=i) (by rw [HX.out]);rw [HX.out] at this;exact this
  subst hB2
  obtain ⟨j,hj⟩:∃ j,WU (Ord.is t i) Mm.w=j:=⟨_,rfl⟩
  have HJ:=Kj hj
  go_upto_region 4 with fail
  refine wE 5 [pV p 0,iV t,iV i,iV j,iV j] [24,25,26,27,10] ?_ ?_
  ·refine mE 1 0 ?_
   refine mE 2 1 ?_
   refine mE 3 2 ?_
   refine cS 4 24 [.pointer (some ⟨p,0,none⟩),.int .i64 t,.int .i64 i] rfl Tryz.func24 rfl (fun a u E D hk=>⟨ll (dD D 0) (ll (dD D 1) (ll (dD D 2) rfl)),(by rw [← HJ.out];exact rwaits_any u p q v Mm.w t i (HB4.out.kept hk) (HS4.out.kept hk) hlen)⟩) ?_
   refine mD 5 27 3 ?_
   exact fz
  intro w5 k5
  simp only [F8]
  have HB5:=Kj (HB4.out.kept k5)
  have HS5:=Kj (HS4.out.kept k5)
  have HK5:=Kj (HK4.out.kept k5)
  have HB65:=Kj (HB64.out.kept k5)
  have KF5:=hKF.kept k5
  have K5:=K4.kept k5
  have z5:=k5.size
  clear HB4 HS4 HK4 HB64 HX8 k5 hKF K4
  cases hw:Mm.w[Mm.w.findIdx (Ord.is t i)]? with
  | none=>
   have hj1:j=-1:=by rw [← hj];exact xU hw
   have HR:Hid (Mm.remove t i=(JV,false,Mm)):=by show _=_;unfold Mkt.remove;rw [HX.out,hw];rfl
   subst hj1
   clear hj hw
   go_upto_region 5 with fail
   refine wE 2 [iV (-1),bV false] [28,29] ?_ ?_
   ·refine mE 1 10 ?_
    refine aS 2 rfl (fun a u E D hk=>WV rfl (dD D 0) rfl) (by decide) ?_
    exact fz
   intro w6 k6
   simp only [F8]
   have z6:=k6.size
   go_upto_region 9 with fail
   refine wEp 1 [JV.v] [57] ?_ ?_
   ·refine sW 1 rfl (fun a u E D hk=>YJ 30 [] JV.cells rfl (by kernel_rfl)) ?_
    exact fz
   intro w7 k7
   simp only [F8]
   refine Qj 30 b6 30 JV.cells JV.cells _ _ rfl rfl (by kernel_rfl) (by kernel_rfl) ((HB65.out.kept k6).kept k7) (by rw [Ord.len9];exact JX) rfl (Ord.one1 _) ?_
   intro w8 hCw8 hkw8 hsw8
   simp only [Act.put]
   refine Jx (.bool false) rfl (JQ _ _ rfl (by kernel_rfl)) ?_
   simp only [Act.put,sA,sS,sZ]
   refine Kx ?_
   go_wp2
   refine bodyPost_ret (XU (p:=6) (q:=7) rfl _ _ b6 _ JV.cells false rfl rfl hCw8 Tryz.underlying30 (by rw [Ord.len9];exact JX)) rfl ?_
   rw [HR.out]
   have k67:=k6.trans k7
   have hP:RkP w8 p q v F2 Mm:=⟨(HB5.out.kept k67).keep hkw8 hbl,(HK5.out.kept k67).keep hkw8 (fun b hb e=>h6F2 (by rw [← e];exact hb)),(HS5.out.kept k67).keep hkw8 (fun b hb=>H6v.out b hb),hpF2,hvF2.out⟩
   have z7:=k67.size
   have KF:Keep F w w8:=(KF5.kept k67).new hkw8 (by omega)
   first | exact ⟨rfl,_,hP.close,hGG.out,KF⟩ | exact ⟨_,rfl,hP.close,hGG.out,KF⟩
  | some e=>
   have hj1:j=(Mm.w.findIdx (Ord.is t i):Int):=by rw [← hj];exact xq hw
   obtain ⟨k,hk⟩:∃ k,Mm.w.findIdx (Ord.is t i)=k:=⟨_,rfl⟩
   rw [hk] at hj1
   have HR:Hid (Mm.remove t i=(e,true,⟨Mm.b,Mm.w.eraseIdx k⟩)):=by show _=_;unfold Mkt.remove;rw [HX.out,hw,hk];rfl
   rw [hk] at hw
   have HEI:=Kj hw
   subst hj1
   clear hj hw hk
   go_upto_region 5 with fail
   refine wE 2 [iV (k:Int),bV true] [28,29] ?_ ?_
   ·refine mE 1 10 ?_
    refine aS 2 rfl (fun a u E D hk=>WV rfl (dD D 0) rfl) (Ky (by omega)) ?_
    exact fz
   intro w6 k6
   simp only [F8]
   have z6:=k6.size
   obtain ⟨n,hn⟩:∃ n,Mm.w.length=n:=⟨_,rfl⟩
   have hkn:k<n:=by rw [← hn];exact (List.getElem?_eq_some_iff.1 HEI.out).1
   have HS5n:Hid (Sl w5 30 9 v n (ords Mm.w)):=by show Sl _ _ _ _ _ _;rw [← hn];exact HS5.out
   obtain ⟨g,off,c,rfl⟩:=HS5n.out.some_ (by omega)
   have HV6:Hid (w6.cell? ⟨p,1,none⟩=some (.slice (some ⟨g,off,none⟩) n c)):=(HB5.out.kept k6).cell 1
   have HE6:Hid (w6.rangeAt g (off+k*9) e.cells):=JJ (HS5n.out.rngO k e HEI.out) k6
   go_upto_region 6 with fail
   refine wEp 7 [pV p 0,pV p 0,pV p 1,.slice (some ⟨g,off,none⟩) n c,iV (k:Int),pV g (off+k*9),e.v] [30,31,32,33,34,35,36] ?_ ?_
   ·refine mE 1 0 ?_
    refine nD 2 30 0 ?_
    refine fD 3 31 1 53 1 1 0 ?_
    refine sW 4 rfl (fun a u E D hk=>Jy _ _ Tryz.underlying44 _ _ _ rfl (dD D 2) (Kept.cell hk (HV6.out))) ?_
    refine mE 5 10 ?_
    refine sW 6 rfl (fun a u E D hk=>Jz slO _ _ (g) (off) n c k (off+k*9) ((k:Int)) rfl (dD D 3) (dD D 4) (by first | rfl | omega) (hkn) (by first | rfl | omega)) ?_
    refine sD 7 35 5 e.cells Tryz.underlying30 (fun u hk=>JJ HE6.out hk) (by rw [e.len9];exact JX) ?_
    exact fz
   intro w7 k7
   simp only [F8]
   refine ZW (.pointer (some ⟨w7.heap.size,0,none⟩)) (w7.alloc (.cells JV.cells.toArray 30)) rfl (QW 30 JV.cells rfl zO) ?_
   have hNw8:=Blk.new w7 30 JV.cells
   have kw8:Kept w7 (w7.alloc (.cells JV.cells.toArray 30)):=(Keep.refl _ w7).alloc _
   generalize w7.alloc (.cells JV.cells.toArray 30)=w8 at hNw8 kw8 ⊢
   simp only [Act.put,sA,sS,sZ]
   refine Qj 30 w7.heap.size 30 JV.cells e.cells _ _ rfl rfl (by kernel_rfl) (by kernel_rfl) (hNw8) (by rw [Ord.len9];exact JX) (by rw [Ord.len9,Ord.len9]) (Ord.one1 _) ?_
   intro w9 hCw9 hkw9 hsw9
   simp only [Act.put]
   refine Kx ?_
   obtain ⟨b11,h11⟩:∃ a,w7.heap.size=a:=⟨_,rfl⟩
   rw [h11] at hNw8 hCw9 hkw9 ⊢
   have z7:=k7.size
   have k69:Kept w6 w9:=(k7.trans kw8).trans' hkw9 (by omega)
   have k59:=k6.trans k69
   have z9:=k69.size
   have HC11:=Kj (JW hCw9)
   have l11:=hCw9.lt
   obtain ⟨L,hL⟩:∃ L,Mm.w=L:=⟨_,rfl⟩
   rw [hL] at hn HS5n HR
   have HNL:=Kj hn
   have HBp:=Kj (HB5.out.kept k59)
   have HSp:=Kj (HS5n.out.kept k59)
   have HVp:Hid (w9.cell? ⟨p,1,none⟩=some (.slice (some ⟨g,off,none⟩) n c)):=HBp.out.cell 1
   have hlen9:n≤100000:=by rw [← hn,← hL];exact hlen
   clear hNw8 hCw9 hkw9 hsw9 kw8 k7 HV6 HE6 hn
   obtain ⟨va,hva,hoa,hsa⟩:=yW slO _ n k (by omega) _ w9 HSp.out
   obtain ⟨vb,hvb,hob,hsb⟩:=jX slO _ n (k+1) (by omega) _ w9 HSp.out
   have HVA:=Kj hva
   have HVB:=Kj hvb
   have HSA:Hid (∀ u,Kept w9 u→Sl u 30 9 va k (ords (L.take k))):=fun u hk=>by
    have:=hsa u _ (HSp.out.kept hk)
    rw [show (ords L).take (k*9)=ords (L.take k) from yY Ord.cells 9 Ord.len9 _ k] at this
    exact this
   have HSB:Hid (∀ u,Kept w9 u→Sl u 30 9 vb (n-(k+1)) (ords (L.drop (k+1)))):=fun u hk=>by
    have:=hsb u _ (HSp.out.kept hk)
    rw [show (ords L).drop ((k+1)*9)=ords (L.drop (k+1)) from Uz Ord.cells 9 Ord.len9 _ (k+1)] at this
    exact this
   have hcast:((k+1:Nat):Int)=(k:Int)+1:=by omega
   rw [hcast] at HVB
   clear hva hoa hsa hvb hob hsb
   go_upto_region 7 with fail
   refine JJJ 16 [.eq (.pointer (some ⟨p,0,none⟩)),.emp w9.heap.size 30,.eq (.pointer (some ⟨p,0,none⟩)),.eq (.pointer (some ⟨p,0,none⟩)),.eq (.pointer (some ⟨p,1,none⟩)),.eq (.slice (some ⟨g,off,none⟩) n c),.eq (.int .i64 (k:Int)),.eq (va),.sl w9.heap.size 30 9 k (ords (L.take k)),.eq (.pointer (some ⟨p,0,none⟩)),.eq (.pointer (some ⟨p,0,none⟩)),.eq (.pointer (some ⟨p,1,none⟩)),.eq (.slice (some ⟨g,off,none⟩) n c),.eq (.int .i64 (k:Int)),.eq (.int .i64 ((k:Int)+1)),.eq (vb)] (.pointer (some ⟨p,0,none⟩)) ((fun v' u u'=>Sl u' 30 9 v' (k+(n-(k+1))) (ords (L.take k)++ords (L.drop (k+1)))∧(∀ b,v'.ownBlock=some b→w9.heap.size≤b)∧Keep (fun b=>w9.heap.size≤b) u u')) (by kernel_rfl) rfl rfl (by kernel_rfl) (by kernel_rfl) (t_zero (d:=37) _ rfl rfl rfl (by kernel_rfl) (by kernel_rfl)) ?_ (fun a u hE hD hk=> (by obtain ⟨v',u',hr,hs',hk',ho'⟩:=Qy slO _ u (a.eval (.tmp 45)) vb k (n-(k+1)) _ _ ((hD 8 45 (by kernel_rfl))).1 (HSB.out u hk) (qX _) (by unfold maxLen;omega) (by omega);have hq:=((hD 8 45 (by kernel_rfl))).2;exact t_last (o:=⟨some 53,_,_,_,_,_⟩) (R:=(fun v' u u'=>Sl u' 30 9 v' (k+(n-(k+1))) (ords (L.take k)++ords (L.drop (k+1)))∧(∀ b,v'.ownBlock=some b→w9.heap.size≤b)∧Keep (fun b=>w9.heap.size≤b) u u')) (m:=16) (v:=v') (w':=u') rfl (JZ rfl _) (XQ slO (.tmp 45) (.tmp 52) _ vb rfl rfl (dD hD 15) v' u' hr) ⟨hs',fun b hb=>(ho' b hb).elim (hq b) (fun h=>Kv hk.size h),hk'.mono (fun b _ hb=>hq b hb)⟩)) ?_
   ·refine nW 2 rfl (fun a u E D hk=>⟨_,_,Uy 44 30 9 rfl slO.und JX,⟨_,rfl,hk.size,Blk.new u _ _⟩,((Keep.refl _ u).alloc _)⟩) ?_
    refine mE 3 0 ?_
    refine nD 4 39 2 ?_
    refine fD 5 40 3 53 1 1 0 ?_
    refine sW 6 rfl (fun a u E D hk=>Jy _ _ Tryz.underlying44 _ _ _ rfl (dD D 4) (Kept.cell hk (HVp.out))) ?_
    refine mE 7 10 ?_
    refine sW 8 rfl (fun a u E D hk=>Wx slO _ _ _ va _ rfl (dD D 5) (dD D 6) (HVA.out u)) ?_
    refine QY 9 rfl (fun a u hE hD hk=>(by obtain ⟨v',u',hr,hp,hkk⟩:=VW slO _ u (a.eval (.tmp 38)) va k w9.heap.size _ ((dD hD 1)) (HSA.out u hk) (qX _) (by omega) (by omega) hk.size;exact jx v' u' rfl (JZ rfl _) (XQ slO (.tmp 38) (.tmp 44) _ va rfl rfl (dD hD 7) v' u' hr) hp hkk)) ?_
    refine mE 10 0 ?_
    refine nD 11 46 9 ?_
    refine fD 12 47 10 53 1 1 0 ?_
    refine sW 13 rfl (fun a u E D hk=>Jy _ _ Tryz.underlying44 _ _ _ rfl (dD D 11) (Kept.cell hk (HVp.out))) ?_
    refine mE 14 10 ?_
    refine sW 15 rfl (fun a u E D hk=>ZJ ((k:Int)+1) rfl (dD D 13) rfl rfl (by omega) (by omega)) ?_
    refine sW 16 rfl (fun a u E D hk=>VX slO _ _ _ vb _ rfl (dD D 12) (dD D 14) (HVB.out u)) ?_
    exact fz
   intro gv w1 wx hV h0 hR hk1
   rw [dq 17 [37,38,39,40,41,42,43,44,45,46,47,48,49,50,51,52,53]]
   simp only [Fz7]
   have hT:=hR 53 (by kernel_rfl)
   generalize gv 53=v53 at hT ⊢
   rw [show gv 37=.pointer (some ⟨p,0,none⟩) from h0 37 (by kernel_rfl)]
   clear hV h0 hR
   obtain ⟨hsx,hox,hkx⟩:=hT
   have kxx:=yZ hk1 hkx (Nat.le_refl _)
   have hBx:=HBp.out.kept kxx
   refine Jx (.pointer (some ⟨p,0,none⟩)) rfl (YY (.tmp 37) ⟨p,0,none⟩ rfl (by kernel_rfl)) ?_
   simp only [Act.put,sA,sS,sZ]
   refine Jx (.pointer (some ⟨p,1,none⟩)) rfl (QV 53 1 1 (.tmp 54) (p) (0) (1) rfl (by kernel_rfl) (by kernel_rfl) rfl) ?_
   simp only [Act.put,sA,sS,sZ]
   refine Zz 44 p 1 53 _ v53 _ _ rfl rfl (by kernel_rfl) (by kernel_rfl) (by kernel_rfl) (VV hsx) (Yq hsx) hBx (by simp [Zq]) ?_
   intro wy hBy hky hsy
   simp only [Act.put]
   refine Kx ?_
   obtain ⟨v',hv'⟩:∃ v',v'=v53:=⟨_,rfl⟩
   subst hv'
   have hpW:p<w9.heap.size:=HBp.out.lt
   have zx:=kxx.size
   have hBy:Blk wy p 53 (Zq q v'):=hBy
   have hLe:(L.eraseIdx k).length=n-1:=by rw [List.length_eraseIdx,if_pos (by rw [HNL.out];exact hkn),HNL.out]
   have hSy:Sl wy 30 9 v' (L.eraseIdx k).length (ords (L.eraseIdx k)):=by
    rw [hLe,List.eraseIdx_eq_take_drop_succ]
    unfold ords at hsx ⊢
    rw [List.flatMap_append]
    rw [show k+(n-(k+1))=n-1 by omega] at hsx
    exact hsx.keep hky (fun b hb e=>by have:=hox b hb;omega)
   have KY:Keep (·=p) w9 wy:=Keep.any kxx hky
   have hoy:=hox
   clear hsx hox hkx hBx hk1 hky HVA HVB HSA HSB kxx
   have HCy:=Kj (XW HC11.out KY (by omega))
   have z5w:w.heap.size≤w9.heap.size:=by have:=KF5.size;omega
   have HB6y:=Kj ((HB65.out.kept k59).keep KY (by omega))
   have zy:=KY.size
   clear HC11
   go_upto_region 8 with fail
   refine wEp 1 [e.v] [56] ?_ ?_
   ·refine sE 1 11 b11 0 e.cells Tryz.underlying30 (fun u hk=>JJ HCy.out hk) (by rw [e.len9];exact JX) ?_
    exact fz
   intro w12 k12
   simp only [F8]
   refine Qj 30 b6 30 JV.cells e.cells _ _ rfl rfl (by kernel_rfl) (by kernel_rfl) (HB6y.out.kept k12) (by rw [Ord.len9];exact JX) (by rw [Ord.len9,Ord.len9]) (Ord.one1 _) ?_
   intro w13 hCw13 hkw13 hsw13
   simp only [Act.put]
   refine Jx (.bool true) rfl (JQ _ _ rfl (by kernel_rfl)) ?_
   simp only [Act.put,sA,sS,sZ]
   refine Kx ?_
   go_wp2
   refine bodyPost_ret (XU (p:=6) (q:=7) rfl _ _ b6 _ e.cells true rfl rfl hCw13 Tryz.underlying30 (by rw [Ord.len9];exact JX)) rfl ?_
   rw [HR.out]
   have h6v':∀ b,v'.ownBlock=some b→b≠b6:=fun b hb e=>by have:=hoy b hb;omega
   have hP:RkP w13 p q v' F2 ⟨Mm.b,L.eraseIdx k⟩:=⟨(hBy.kept k12).keep hkw13 hbl,(((HK5.out.kept k59).keep KY (fun b hb e=>hpF2 (by rw [← e];exact hb))).kept k12).keep hkw13 (fun b hb e=>h6F2 (by rw [← e];exact hb)),(hSy.kept k12).keep hkw13 (fun b hb=>h6v' b hb),hpF2,fun b hb=>⟨fun e=>by have:=hoy b hb;omega,fun e=>by have:=HK5.out.lt b e;have:=hoy b hb;have:=k59.size;omega⟩⟩
   have z12:=k12.size
   have KF:Keep F w w13:=(((KF5.kept k59).trans KY (fun b _ e=>HFF.out b (.inl (.inl e)))).kept k12).new hkw13 (by omega)
   have hGG':Grow w F (foot p v' F2):=fun b hb=>by
    rcases hb with (hb | hb) | hb
    ·exact .inl (HFF.out b (.inl (.inl hb)))
    ·have:=hoy b hb;exact .inr (by omega)
    exact hGG.out b (.inr hb)
   first | exact ⟨rfl,_,hP.close,hGG',KF⟩ | exact ⟨_,rfl,hP.close,hGG',KF⟩
def Ot.cells (x:Ot) (v:Value):List Value:=x.c.o.cells++[v,.int .i64 x.c.left,.bool x.c.rests,.bool x.wt,.bool x.c.self,.int .i64 x.c.err]
def Ot.v (x:Ot) (v:Value):Value:=.agg (x.cells v).toArray
theorem Ot.len15 (x:Ot) (v:Value):(x.cells v).length=15:=by unfold Ot.cells;rw [List.length_append,Ord.len9];rfl
theorem Ot.one (x:Ot) (v:Value) (hv:v.oneCell'=true):∀ u ∈ x.cells v,u.oneCell'=true:=by
 intro u hu
 unfold Ot.cells at hu
 rcases List.mem_append.1 hu with hu | hu
 ·exact x.c.o.one1 u hu
 simp at hu
 rcases hu with rfl | rfl | rfl | rfl | rfl | rfl
 ·exact hv
 all_goals rfl
theorem ot_ord {w:World} {g off:Nat} {x:Ot} {v:Value} (h:w.rangeAt g off (x.cells v)):w.rangeAt g off x.c.o.cells:=jW h 9
theorem slC:SlT 34 58 15 120:=⟨Tryz.underlying34,by kernel_rfl,⟨Xq.v (.slice none 0 0),by kernel_rfl,rfl,by intro u hu;exact Xq.one _ rfl u (by simpa [Oc.v,Value.cells] using hu)⟩,by omega⟩
def outc (Z:List (Ot × Value)):List Value:=Z.flatMap fun z=>z.1.cells z.2
theorem outc_snoc (Z:List (Ot × Value)) (x:Ot) (v:Value):outc (Z++[(x,v)])=outc Z++x.cells v:=by simp [outc]
structure Outs (w:World) (base:Nat) (G:Nat→Prop) (v:Value) (L:List Ot) (Z:List (Ot × Value)):Prop where
 eq:Z.map (·.1)=L
 sl:Sl w 58 15 v Z.length (outc Z)
 own:∀ b,v.ownBlock=some b→base≤b∧¬ G b
 fl:∀ z ∈ Z,Sl w 77 21 z.2 z.1.c.f.length (fls z.1.c.f)
 flo:∀ z ∈ Z,∀ b,z.2.ownBlock=some b→base≤b∧¬ G b∧v.ownBlock≠some b
theorem Outs.len {w:World} {base:Nat} {G:Nat→Prop} {v:Value} {L:List Ot} {Z:List (Ot × Value)} (h:Outs w base G v L Z):Z.length=L.length:=by rw [← h.eq,List.length_map]
theorem Outs.keep {S:Nat→Prop} {w w':World} {base:Nat} {G:Nat→Prop} {v:Value} {L:List Ot} {Z:List (Ot × Value)} (h:Outs w base G v L Z) (hk:Keep S w w') (hn:∀ b,base≤b→¬ G b→b<w.heap.size→¬ S b):Outs w' base G v L Z:=
 ⟨h.eq,h.sl.keep hk (fun b hb=>hn b (h.own b hb).1 (h.own b hb).2 (h.sl.lt hb)),h.own,fun z hz=>(h.fl z hz).keep hk (fun b hb=>hn b (h.flo z hz b hb).1 (h.flo z hz b hb).2.1 ((h.fl z hz).lt hb)),h.flo⟩
theorem Outs.kept {w w':World} {base:Nat} {G:Nat→Prop} {v:Value} {L:List Ot} {Z:List (Ot × Value)} (h:Outs w base G v L Z) (hk:Kept w w'):Outs w' base G v L Z:=h.keep hk (fun _ _ _ _ h=>h)
theorem Outs.beside {w:World} {base n:Nat} {G G':Nat→Prop} {v:Value} {L:List Ot} {Z:List (Ot × Value)} (h:Outs w base G v L Z) (hg:∀ b,G' b→G b∨n≤b) (hl:w.heap.size≤n):Outs w base G' v L Z:=
 ⟨h.eq,h.sl,fun b hb=>⟨(h.own b hb).1,fun e=>(hg b e).elim (h.own b hb).2 (fun e=>by have:=h.sl.lt hb;omega)⟩,h.fl,fun z hz b hb=>⟨(h.flo z hz b hb).1,fun e=>(hg b e).elim (h.flo z hz b hb).2.1 (fun e=>by have:=(h.fl z hz).lt hb;omega),(h.flo z hz b hb).2.2⟩⟩
theorem Outs.less {w:World} {base:Nat} {G G':Nat→Prop} {v:Value} {L:List Ot} {Z:List (Ot × Value)} (h:Outs w base G v L Z) (hg:∀ b,G' b→G b):Outs w base G' v L Z:=
 ⟨h.eq,h.sl,fun b hb=>⟨(h.own b hb).1,fun e=>(h.own b hb).2 (hg b e)⟩,h.fl,fun z hz b hb=>⟨(h.flo z hz b hb).1,fun e=>(h.flo z hz b hb).2.1 (hg b e),(h.flo z hz b hb).2.2⟩⟩
theorem outc_at (Z:List (Ot × Value)) (i:Nat) (z:Ot × Value) (h:Z[i]?=some z):((outc Z).drop (i*15)).take 15=z.1.cells z.2:=
 flat_at (fun z:Ot × Value=>z.1.cells z.2) 15 (fun z=>Ot.len15 z.1 z.2) Z i z h
theorem Sl.rngC {w:World} {T:TypeId} {n c g off:Nat} {Z:List (Ot × Value)} (h:Sl w T 15 (.slice (some ⟨g,off,none⟩) n c) n (outc Z)) (i:Nat) (z:Ot × Value) (hz:Z[i]?=some z):w.rangeAt g (off+i*15) (z.1.cells z.2):=by
 obtain ⟨hl,A,c',e',h1,h2,h3,h4⟩:=h
 injection e' with e1 e2 e3
 subst e1 e3
 obtain ⟨g',off',cur,e,hB,h5,h6⟩:=h4 _ rfl
 injection e with e1 e2
 subst e1 e2
 have:=jW (qx (jY hB h6) (i*15)) 15
 rw [outc_at Z i z hz] at this
 exact this
theorem Outs.snoc {w:World} {base:Nat} {G:Nat→Prop} {v:Value} {L:List Ot} {Z:List (Ot × Value)} (h:Outs w base G v L Z) (x:Ot) (vf y:Value) (ty:TypeId) (hf:Sl w 77 21 vf x.c.f.length (fls x.c.f)) (hfo:∀ b,vf.ownBlock=some b→base≤b∧¬ G b∧v.ownBlock≠some b) (hy:Sl w 58 15 y 1 (x.cells vf)) (hn:L.length≤1000000) (hb:base≤w.heap.size) (hG:∀ b,G b→b<w.heap.size) :
  ∃ v' w',(Builtin.append_ #[34,34] ty #[v,y]).run Tryz.prog w=.ok v' w'∧Outs w' base G v' (L++[x]) (Z++[(x,vf)])∧Keep (fun b=>v.ownBlock=some b) w w'∧∀ b,v'.ownBlock=some b→v.ownBlock=some b∨w.heap.size≤b:=by
 have hl:=h.len
 obtain ⟨v',w',hr,hs,hk,ho⟩:=Qy slC ty w v y Z.length 1 (outc Z) (x.cells vf) h.sl hy (Ot.one _ _ (Yq hf)) (by unfold maxLen;omega) (by omega)
 refine ⟨v',w',hr,⟨by rw [List.map_append,h.eq];rfl,by rw [List.length_append,outc_snoc];exact hs,fun b hb'=>?_,fun z hz=>?_,fun z hz b hb'=>?_⟩,hk,ho⟩
 ·rcases ho b hb' with e | e
  ·exact h.own b e
  exact ⟨by omega,fun e'=>by have:=hG b e';omega⟩
 ·rcases List.mem_append.1 hz with hz | hz
  ·exact (h.fl z hz).keep hk (fun b hb' e=>(h.flo z hz b hb').2.2 e)
  simp at hz
  subst hz
  exact hf.keep hk (fun b hb' e=>(hfo b hb').2.2 e)
 have key:∀ b,b<w.heap.size→v.ownBlock≠some b→v'.ownBlock≠some b:=fun b h1 h2 h3=>(ho b h3).elim h2 (fun h4=>by omega)
 rcases List.mem_append.1 hz with hz | hz
 ·exact ⟨(h.flo z hz b hb').1,(h.flo z hz b hb').2.1,key b ((h.fl z hz).lt hb') (h.flo z hz b hb').2.2⟩
 simp at hz
 subst hz
 exact ⟨(hfo b hb').1,(hfo b hb').2.1,key b (hf.lt hb') (hfo b hb').2.2⟩
theorem built_ote (o:Ord) (n e:Int):Tryz.prog.built 58 [(0,o.v),(2,.int .i64 n),(6,.int .i64 e)]=some ((Ot.mk (Oc.mk o [] n false false e) false).cells (.slice none 0 0)).toArray:=by kernel_rfl
theorem built_otw (o:Ord) (n:Int):Tryz.prog.built 58 [(0,o.v),(2,.int .i64 n),(4,.bool true)]=some ((Ot.mk (Oc.mk o [] n false false 0) true).cells (.slice none 0 0)).toArray:=by kernel_rfl
def ArrIn (w:World) (F:Nat→Prop) (p:Nat) (x:Ot × Mkt) (r:Ending) (w':World):Prop:=
 ∃ F' vf,r=.returned (x.1.v vf)∧Mk w' F' p x.2∧Sl w' 77 21 vf x.1.c.f.length (fls x.1.c.f)∧(∀ b,vf.ownBlock=some b→w.heap.size≤b∧¬ F' b)∧Grow w F F'∧Keep F w w'
theorem arrive_any (w:World) (F:Nat→Prop) (p:Nat) (Mm:Mkt) (o:Ord) (h:Mk w F p Mm) (hI:InvK Mm) (hno:Mm.b.no≤1000000000000):Calls Tryz.prog 18 #[.pointer (some ⟨p,0,none⟩),o.v] w (ArrIn w F p (Mm.arrive o)):=by
 have hlen:Mm.w.length≤100000:=by have:=hI.few;omega
 have HM:=Kj h
 obtain ⟨hFl,q,v,Fb,hP,hfF⟩:=h
 have HPP:=Kj hP
 have HI:=Kj hI
 have HFF:=Kj hfF
 have hpl:=hP.blk.lt
 obtain ⟨x,hx⟩:∃ x,Mm.arrive o=x:=⟨_,rfl⟩
 have HX:=Kj hx
 obtain ⟨e,he⟩:∃ e,Mm.err o=e:=⟨_,rfl⟩
 have HE:=Kj he
 rw [hx]
 clear hP hI hx he
 go_enter Tryz.func18,Tryz.ntmps18
 go_upto_region 0 with fail
 refine QZ 2 [.fresh w.heap.size 30 (o.cells),.fresh w.heap.size 58 (Xq.cells (.slice none 0 0))] rfl (by kernel_rfl) ?_ ?_
 ·refine nW 1 rfl (fun a u E D hk=>⟨_,_,YX 30 _ (o.cells) rfl (eE E),⟨_,rfl,hk.size,Blk.new u _ _⟩,((Keep.refl _ u).alloc _)⟩) ?_
  refine nW 2 rfl (fun a u E D hk=>⟨_,_,QW 58 (Xq.cells (.slice none 0 0)) rfl zC,⟨_,rfl,hk.size,Blk.new u _ _⟩,((Keep.refl _ u).alloc _)⟩) ?_
  exact fz
 intro gv w0 hV k0
 rw [dq 2 [3,4]]
 simp only [Fz7]
 have hv3:(.fresh w.heap.size 30 (o.cells):Kn).p (gv 3) w0:=hV 0 3 (by kernel_rfl)
 generalize gv 3=v3 at hv3 ⊢
 have hv4:(.fresh w.heap.size 58 (Xq.cells (.slice none 0 0)):Kn).p (gv 4) w0:=hV 1 4 (by kernel_rfl)
 generalize gv 4=v4 at hv4 ⊢
 clear hV
 obtain ⟨b3,rfl,hb3,hB3⟩:=hv3
 obtain ⟨b4,rfl,hb4,hB4⟩:=hv4
 refine Kx ?_
 have HO0:=Kj (JW hB3)
 have HB40:=Kj hB4
 have l3:=hB3.lt
 have l4:=hB4.lt
 have z0:=k0.size
 have h3F:¬ F b3:=fun h=>by have:=hFl b3 h;omega
 have h4F:¬ F b4:=fun h=>by have:=hFl b4 h;omega
 clear hB3 hB4
 go_upto_region 1 with fail
 refine wE 4 [pV p 0,o.v,iV e,iV e] [6,7,8,5] ?_ ?_
 ·refine mE 1 0 ?_
  refine sE 2 3 b3 0 o.cells Tryz.underlying30 (fun u hk=>JJ HO0.out hk) (by rw [o.len9];exact JX) ?_
  refine cS 3 47 [.pointer (some ⟨p,0,none⟩),o.v] rfl Tryz.func47 rfl (fun a u E D hk=>⟨ll (dD D 0) (ll (dD D 1) rfl),(by rw [← HE.out];exact mrefusal_any u F p Mm o (HM.out.kept (k0.trans hk)) HI.out.inv hlen)⟩) ?_
  refine mD 4 8 2 ?_
  exact fz
 intro w1 k1
 simp only [F8]
 have k01:=k0.trans k1
 have HO1:=Kj (JJ HO0.out k1)
 have HB41:=Kj (HB40.out.kept k1)
 have z1:=k1.size
 clear HO0 HB40 k0 k1
 by_cases he0:e≠0
 ·have hxe:x=(⟨⟨o,[],o.qty,false,false,e⟩,false⟩,Mm):=by rw [← HX.out];unfold Mkt.arrive;rw [if_pos (by rw [HE.out];exact he0),HE.out]
  subst hxe
  go_upto_region 2 with fail
  refine wE 2 [iV e,bV true] [9,10] ?_ ?_
  ·refine mE 1 5 ?_
   refine aS 2 rfl (fun a u E D hk=>YZ rfl (dD D 0) rfl) (Ky he0) ?_
   exact fz
  intro w2 k2
  simp only [F8]
  have HO2:=Kj (JJ HO1.out k2)
  have HB42:=Kj (HB41.out.kept k2)
  clear he0
  go_upto_region 3 with fail
  refine wEp 5 [o.v,pV b3 6,iV o.qty,iV e,(Ot.mk (Oc.mk o [] o.qty false false e) false).v (.slice none 0 0)] [11,12,13,14,15] ?_ ?_
  ·refine sE 1 3 b3 0 o.cells Tryz.underlying30 (fun u hk=>JJ HO2.out hk) (by rw [o.len9];exact JX) ?_
   refine fE 2 3 30 6 6 0 ?_
   refine lD 3 12 1 Tryz.underlying3 (fun u hk=>JY (JJ HO2.out hk) 6 _ rfl) ?_
   refine mE 4 5 ?_
   refine sW 5 rfl (fun a u E D hk=>YJ _ [(0,.tmp 11),(2,.tmp 13),(6,.tmp 14)] ((Ot.mk (Oc.mk o [] o.qty false false e) false).cells (.slice none 0 0)) rfl (by simp only [List.map_cons,List.map_nil];rw [show a.eval (.tmp 11)=o.v from (dD D 0),show a.eval (.tmp 13)=.int .i64 o.qty from (dD D 2),show a.eval (.tmp 14)=.int .i64 e from (dD D 3)];exact built_ote o o.qty e)) ?_
   exact fz
  intro w3 k3
  simp only [F8]
  refine Qj 58 b4 58 (Xq.cells (.slice none 0 0)) ((Ot.mk (Oc.mk o [] o.qty false false e) false).cells (.slice none 0 0)) _ _ rfl rfl (by kernel_rfl) (by kernel_rfl) (HB42.out.kept k3) (by rw [Ot.len15];exact szC) (by rw [Ot.len15];rfl) (Ot.one _ _ rfl) ?_
  intro w4 hCw4 hkw4 hsw4
  simp only [Act.put]
  refine Kx ?_
  go_wp2
  refine bodyPost_ret (XZ (p:=4) rfl _ _ b4 _ ((Ot.mk (Oc.mk o [] o.qty false false e) false).cells (.slice none 0 0)) rfl hCw4 Tryz.underlying58 (by rw [Ot.len15];exact szC)) rfl ?_
  have kk:Kept w w4:=((k01.trans k2).trans k3).trans' hkw4 (by omega)
  exact ⟨F,.slice none 0 0,rfl,HM.out.kept kk,Sl.nil _ _ _,fun b hb=>by simp [Value.ownBlock] at hb,Grow.refl _ _,Keep.mono (T:=F) kk (fun _ _ h=>h.elim)⟩
 have he1:e=0:=Classical.not_not.1 he0
 subst he1
 have HX1:Hid (x=if Mm.waits o=true then (⟨⟨o,[],o.qty,false,false,0⟩,true⟩,⟨Mm.b,Mm.w++[o]⟩) else (⟨(Mm.b.enter o).1,false⟩,⟨(Mm.b.enter o).2,Mm.w⟩)):=by show _=_;rw [← HX.out];unfold Mkt.arrive;rw [if_neg (fun h=>h HE.out)]
 go_upto_region 2 with fail
 refine wE 2 [iV 0,bV false] [9,10] ?_ ?_
 ·refine mE 1 5 ?_
  refine aS 2 rfl (fun a u E D hk=>YZ rfl (dD D 0) rfl) (by decide) ?_
  exact fz
 intro w2 k2
 simp only [F8]
 have k02:=k01.trans k2
 have HO2:=Kj (JJ HO1.out k2)
 have HB42:=Kj (HB41.out.kept k2)
 have HQ2:Hid (w2.cell? ⟨p,0,none⟩=some (.pointer (some ⟨q,0,none⟩))):=(HPP.out.blk.kept k02).cell 0
 have HK2:=Kj (HPP.out.bk.kept k02)
 have z2:=k2.size
 clear he0 k01 HO1 HB41
 obtain ⟨ht,hht⟩:∃ b,o.hit Mm.b.last=b:=⟨_,rfl⟩
 have HHT:=Kj hht
 obtain ⟨s,hs⟩:∃ s,decide (0<o.stop)=s:=⟨_,rfl⟩
 have HST:=Kj hs
 have HW:Hid (Mm.waits o=(s && !ht)):=by show _=_;unfold Mkt.waits;rw [hs,hht]
 clear hs hht
 go_upto_region 4 with fail
 go_cut [16,17,18,19,20,21,22,23,24,25,26,27,28] (fun _ _ _ _ _ _ _ _ _ _ _ _ r28 wx=>r28=.bool (s && !ht)∧Kept w2 wx)
 case first=>
  cases s with
  | false=>
   refine wG 13 [pV b3 8,iV o.stop,bV false,bV false,undef,undef,undef,undef,undef,undef,undef,undef,bV false] [16,17,18,19,20,21,22,23,24,25,26,27,28] ?_ ?_
   ·refine fE 1 3 30 8 8 0 ?_
    refine lD 2 16 0 Tryz.underlying3 (fun u hk=>JY (JJ HO2.out hk) 8 _ rfl) ?_
    refine aS 3 rfl (fun a u E D hk=>XX rfl (dD D 1) rfl) HST.out ?_
    refine mD 4 18 2 ?_
    refine kS 5 3 ?_
    refine kS 6 3 ?_
    refine kS 7 3 ?_
    refine kS 8 3 ?_
    refine kS 9 3 ?_
    refine kS 10 3 ?_
    refine kS 11 3 ?_
    refine kS 12 3 ?_
    refine pF 13 19 3 ?_
    exact fz
   intro w3 k3
   simp only [F8]
   go_wp2
   go_meet
   case rel=>exact ⟨rfl,k3⟩
  | true=>
   cases ht with
   | false=>
    refine wG 13 [pV b3 8,iV o.stop,bV true,bV true,o.v,pV p 0,pV p 0,pV p 0,pV q 0,iV Mm.b.last,bV false,bV true,bV true] [16,17,18,19,20,21,22,23,24,25,26,27,28] ?_ ?_
    ·refine fE 1 3 30 8 8 0 ?_
     refine lD 2 16 0 Tryz.underlying3 (fun u hk=>JY (JJ HO2.out hk) 8 _ rfl) ?_
     refine aS 3 rfl (fun a u E D hk=>XX rfl (dD D 1) rfl) HST.out ?_
     refine mD 4 18 2 ?_
     refine sE 5 3 b3 0 o.cells Tryz.underlying30 (fun u hk=>JJ HO2.out hk) (by rw [o.len9];exact JX) ?_
     refine mE 6 0 ?_
     refine nD 7 21 5 ?_
     refine fD 8 22 6 46 0 0 0 ?_
     refine sW 9 rfl (fun a u E D hk=>XY _ _ Tryz.underlying42 _ _ _ rfl (dD D 7) (Kept.cell hk (HQ2.out))) ?_
     refine cS 10 40 [.pointer (some ⟨q,0,none⟩)] rfl Tryz.func40 rfl (fun a u E D hk=>⟨ll (dD D 8) rfl,blast_any u Fb q Mm.b (HK2.out.kept hk)⟩) ?_
     refine cS 11 48 [o.v,.int .i64 Mm.b.last] rfl Tryz.func48 rfl (fun a u E D hk=>⟨ll (dD D 4) (ll (dD D 9) rfl),(by rw [← HHT.out];exact hit_any o _ u)⟩) ?_
     refine sW 12 rfl (fun a u E D hk=>Yj _ _ false rfl (dD D 10)) ?_
     refine pT 13 19 27 3 11 ?_
     exact fz
    intro w3 k3
    simp only [F8]
    go_wp2
    go_meet
    case rel=>exact ⟨rfl,k3⟩
   | true=>
    refine wG 13 [pV b3 8,iV o.stop,bV true,bV true,o.v,pV p 0,pV p 0,pV p 0,pV q 0,iV Mm.b.last,bV true,bV false,bV false] [16,17,18,19,20,21,22,23,24,25,26,27,28] ?_ ?_
    ·refine fE 1 3 30 8 8 0 ?_
     refine lD 2 16 0 Tryz.underlying3 (fun u hk=>JY (JJ HO2.out hk) 8 _ rfl) ?_
     refine aS 3 rfl (fun a u E D hk=>XX rfl (dD D 1) rfl) HST.out ?_
     refine mD 4 18 2 ?_
     refine sE 5 3 b3 0 o.cells Tryz.underlying30 (fun u hk=>JJ HO2.out hk) (by rw [o.len9];exact JX) ?_
     refine mE 6 0 ?_
     refine nD 7 21 5 ?_
     refine fD 8 22 6 46 0 0 0 ?_
     refine sW 9 rfl (fun a u E D hk=>XY _ _ Tryz.underlying42 _ _ _ rfl (dD D 7) (Kept.cell hk (HQ2.out))) ?_
     refine cS 10 40 [.pointer (some ⟨q,0,none⟩)] rfl Tryz.func40 rfl (fun a u E D hk=>⟨ll (dD D 8) rfl,blast_any u Fb q Mm.b (HK2.out.kept hk)⟩) ?_
     refine cS 11 48 [o.v,.int .i64 Mm.b.last] rfl Tryz.func48 rfl (fun a u E D hk=>⟨ll (dD D 4) (ll (dD D 9) rfl),(by rw [← HHT.out];exact hit_any o _ u)⟩) ?_
     refine sW 12 rfl (fun a u E D hk=>Yj _ _ true rfl (dD D 10)) ?_
     refine pT 13 19 27 3 11 ?_
     exact fz
    intro w3 k3
    simp only [F8]
    go_wp2
    go_meet
    case rel=>exact ⟨rfl,k3⟩
 obtain ⟨rfl,k3⟩:=hcut
 have k03:=k02.trans k3
 have HO3:=Kj (JJ HO2.out k3)
 have HB43:=Kj (HB42.out.kept k3)
 have HP3:=Kj (HPP.out.kept k03)
 have z3:=k3.size
 clear HO2 HB42 HQ2 HK2 k3
 cases hw:(s && !ht) with
 | true=>
  have hxe:x=(⟨⟨o,[],o.qty,false,false,0⟩,true⟩,⟨Mm.b,Mm.w++[o]⟩):=by rw [HX1.out,if_pos (by rw [HW.out];exact hw)]
  subst hxe
  have HV3:Hid (wc.cell? ⟨p,1,none⟩=some v):=HP3.out.blk.cell 1
  clear hw
  go_upto_region 5 with fail
  refine JJJ 7 [.eq (.pointer (some ⟨p,0,none⟩)),.eq (.pointer (some ⟨p,0,none⟩)),.eq (.pointer (some ⟨p,0,none⟩)),.eq (.pointer (some ⟨p,1,none⟩)),.eq (v),.eq (o.v),.sl wc.heap.size 30 9 1 o.cells] (.pointer (some ⟨p,0,none⟩)) ((fun v' u u'=>Sl u' 30 9 v' (Mm.w.length+1) (ords Mm.w++o.cells)∧Keep (fun b=>v.ownBlock=some b) u u'∧∀ b,v'.ownBlock=some b→v.ownBlock=some b∨wc.heap.size≤b)) (by kernel_rfl) rfl rfl (by kernel_rfl) (by kernel_rfl) (t_zero (d:=29) _ rfl rfl rfl (by kernel_rfl) (by kernel_rfl)) ?_ (fun a u hE hD hk=> (by obtain ⟨v',u',hr,hs',hk',ho'⟩:=Qy slO _ u v (a.eval (.tmp 35)) Mm.w.length 1 (ords Mm.w) o.cells (HP3.out.sl.kept hk) ((hD 6 35 (by kernel_rfl))).1 (Ord.one1 _) (by unfold maxLen;omega) (by omega);exact t_last (o:=⟨some 36,_,_,_,_,_⟩) (R:=(fun v' u u'=>Sl u' 30 9 v' (Mm.w.length+1) (ords Mm.w++o.cells)∧Keep (fun b=>v.ownBlock=some b) u u'∧∀ b,v'.ownBlock=some b→v.ownBlock=some b∨wc.heap.size≤b)) (m:=7) (v:=v') (w':=u') rfl (JZ rfl _) (XQ slO (.tmp 33) (.tmp 35) v _ rfl (dD hD 4) rfl v' u' hr) ⟨hs',hk',fun b hb=>(ho' b hb).imp id (fun h=>Kv hk.size h)⟩)) ?_
  ·refine mE 2 0 ?_
   refine nD 3 30 1 ?_
   refine fD 4 31 2 46 1 1 0 ?_
   refine sW 5 rfl (fun a u E D hk=>Jy _ _ Tryz.underlying44 _ _ _ rfl (dD D 3) (Kept.cell hk (HV3.out))) ?_
   refine sE 6 3 b3 0 o.cells Tryz.underlying30 (fun u hk=>JJ HO3.out hk) (by rw [o.len9];exact JX) ?_
   refine nW 7 rfl (fun a u E D hk=>⟨_,_,Vz slO _ o.cells (by omega) rfl (dD D 5) (o.len9),(qQ u 30 9 _ wc.heap.size (o.len9) (by omega) hk.size),((Keep.refl _ u).alloc _)⟩) ?_
   exact fz
  intro gv w1 w4 hV h0 hR hk1
  rw [dq 8 [29,30,31,32,33,34,35,36]]
  simp only [Fz7]
  have hT:=hR 36 (by kernel_rfl)
  generalize gv 36=v36 at hT ⊢
  rw [show gv 29=.pointer (some ⟨p,0,none⟩) from h0 29 (by kernel_rfl)]
  clear hV h0 hR
  obtain ⟨hs4,hk4,ho4⟩:=hT
  have hB4:=(HP3.out.blk.kept hk1).keep hk4 (fun hb=>(HP3.out.nv p hb).1 rfl)
  have hv4p:∀ b,v36.ownBlock=some b→b≠p:=fun b hb e=>(ho4 b hb).elim (fun h=>(HP3.out.nv b h).1 e) (fun h=>by omega)
  refine Jx (.pointer (some ⟨p,0,none⟩)) rfl (YY (.tmp 29) ⟨p,0,none⟩ rfl (by kernel_rfl)) ?_
  simp only [Act.put,sA,sS,sZ]
  refine Jx (.pointer (some ⟨p,1,none⟩)) rfl (QV 46 1 1 (.tmp 37) (p) (0) (1) rfl (by kernel_rfl) (by kernel_rfl) rfl) ?_
  simp only [Act.put,sA,sS,sZ]
  refine Zz 44 p 1 46 _ v36 _ _ rfl rfl (by kernel_rfl) (by kernel_rfl) (by kernel_rfl) (VV hs4) (Yq hs4) hB4 (by simp [Zq]) ?_
  intro w5 hB5 hk5 hs5
  simp only [Act.put]
  refine Kx ?_
  obtain ⟨v',hv'⟩:∃ v',v'=v36:=⟨_,rfl⟩
  subst hv'
  have hB5':Blk w5 p 46 (Zq q v'):=hB5
  have z4:=hk1.size
  have z5:=hk4.size
  have z6:=hk5.size
  have HO5:=Kj (XW (XW (JJ HO3.out hk1) hk4 (fun e=>by have:=HPP.out.sl.lt e;omega)) hk5 (fun e=>by omega))
  have HB45:=Kj (((HB43.out.kept hk1).keep hk4 (fun e=>by have:=HPP.out.sl.lt e;omega)).keep hk5 (fun e=>by omega))
  have hBk5:=((HP3.out.bk.kept hk1).keep hk4 (fun b hb e=>(HP3.out.nv b e).2 hb)).keep hk5 (fun b hb e=>HP3.out.nb (by rw [← e];exact hb))
  have hS5:=hs4.keep hk5 (fun b hb e=>hv4p b hb e)
  have hP5:MkP w5 p q v' Fb ⟨Mm.b,Mm.w++[o]⟩:=⟨hB5',hBk5,by rw [List.length_append,ords_snoc];exact hS5,HP3.out.nb,fun b hb=>⟨hv4p b hb,fun e=>(ho4 b hb).elim (fun h=>(HP3.out.nv b h).2 e) (fun h=>by have:=HP3.out.bk.lt b e;omega)⟩⟩
  have HP5:=Kj hP5
  have KF5:Keep F w w5:=((Keep.any (k03.trans hk1) hk4).mono (fun b _ hb=>HFF.out b (.inl (.inr hb)))).trans hk5 (fun b _ hb=>HFF.out b (.inl (.inl hb)))
  have zw:=k03.size
  have HG:Hid (Grow w F (foot p v' Fb)):=fun b hb=>by
   rcases hb with (hb | hb) | hb
   ·exact .inl (HFF.out b (.inl (.inl hb)))
   ·exact (ho4 b hb).imp (fun h=>HFF.out b (.inl (.inr h))) (fun h=>by omega)
   exact .inl (HFF.out b (.inr hb))
  have HV4:Hid (∀ b,v'.ownBlock=some b→F b∨wc.heap.size≤b):=fun b hb=>(ho4 b hb).imp (fun h=>HFF.out b (.inl (.inr h))) id
  clear hs4 hk4 ho4 hB4 hv4p hB5 hB5' hk5 hs5 hBk5 hS5 hP5 HO3 HB43 HV3 HP3 hk1
  go_upto_region 6 with fail
  refine wEp 4 [o.v,pV b3 6,iV o.qty,(Ot.mk (Oc.mk o [] o.qty false false 0) true).v (.slice none 0 0)] [39,40,41,42] ?_ ?_
  ·refine sE 1 3 b3 0 o.cells Tryz.underlying30 (fun u hk=>JJ HO5.out hk) (by rw [o.len9];exact JX) ?_
   refine fE 2 3 30 6 6 0 ?_
   refine lD 3 40 1 Tryz.underlying3 (fun u hk=>JY (JJ HO5.out hk) 6 _ rfl) ?_
   refine sW 4 rfl (fun a u E D hk=>YJ _ [(0,.tmp 39),(2,.tmp 41),(4,.const (.bool true))] ((Ot.mk (Oc.mk o [] o.qty false false 0) true).cells (.slice none 0 0)) rfl (by simp only [List.map_cons,List.map_nil];rw [show a.eval (.tmp 39)=o.v from (dD D 0),show a.eval (.tmp 41)=.int .i64 o.qty from (dD D 2)];exact built_otw o o.qty)) ?_
   exact fz
  intro w6 k6
  simp only [F8]
  refine Qj 58 b4 58 (Xq.cells (.slice none 0 0)) ((Ot.mk (Oc.mk o [] o.qty false false 0) true).cells (.slice none 0 0)) _ _ rfl rfl (by kernel_rfl) (by kernel_rfl) (HB45.out.kept k6) (by rw [Ot.len15];exact szC) (by rw [Ot.len15];rfl) (Ot.one _ _ rfl) ?_
  intro w7 hCw7 hkw7 hsw7
  simp only [Act.put]
  refine Kx ?_
  go_wp2
  refine bodyPost_ret (XZ (p:=4) rfl _ _ b4 _ ((Ot.mk (Oc.mk o [] o.qty false false 0) true).cells (.slice none 0 0)) rfl hCw7 Tryz.underlying58 (by rw [Ot.len15];exact szC)) rfl ?_
  have h4f:∀ b,foot p v' Fb b→b≠b4:=fun b hb e=>by
   rcases hb with (hb | hb) | hb
   ·omega
   ·exact (HV4.out b hb).elim (fun h=>h4F (by rw [← e];exact h)) (fun h=>by omega)
   exact h4F (by rw [← e];exact HFF.out b (.inr hb))
  exact ⟨_,.slice none 0 0,rfl,((HP5.out.kept k6).keep hkw7 h4f).close,Sl.nil _ _ _,fun b hb=>by simp [Value.ownBlock] at hb,HG.out,(KF5.kept k6).new hkw7 (by omega)⟩
 | false=>
  have hxe:x=(⟨(Mm.b.enter o).1,false⟩,⟨(Mm.b.enter o).2,Mm.w⟩):=by rw [HX1.out,if_neg (by rw [HW.out,hw];simp)]
  obtain ⟨y,B2,hy⟩:∃ y B2,Mm.b.enter o=(y,B2):=⟨_,_,rfl⟩
  rw [hy] at hxe
  have HY:=Kj hy
  subst hxe
  clear hw hy
  go_upto_region 7 with fail
  refine wEp 2 [pV p 0,o.v] [43,44] ?_ ?_
  ·refine mE 1 0 ?_
   refine sE 2 3 b3 0 o.cells Tryz.underlying30 (fun u hk=>JJ HO3.out hk) (by rw [o.len9];exact JX) ?_
   exact fz
  intro w4 k4
  simp only [F8]
  refine Yz 49 #[.pointer (some ⟨p,0,none⟩),o.v] rfl (Jq 49 _ [.tmp 43,.tmp 44] _ _ Tryz.func49 (by kernel_rfl) (by kernel_rfl) rfl (by kernel_rfl) _) ?_
  refine (enter_any w4 Fb p q v Mm.b o (HP3.out.blk.kept k4) (HP3.out.bk.kept k4) HP3.out.nb HI.out.inv hno).mono ?_
  rintro r w5 ⟨F2,vf,rfl,hK5,hF5,hO5,hG5,hk5⟩
  rw [HY.out] at hK5 hF5 ⊢
  refine ⟨_,rfl,?_⟩
  simp only [Act.put,sA,sS,sZ]
  refine Qj 58 b4 58 (Xq.cells (.slice none 0 0)) ((Ot.mk y false).cells vf) _ _ rfl rfl (by kernel_rfl) (by kernel_rfl) (((HB43.out.kept k4).keep hk5 (fun e=>h4F (HFF.out _ (.inr e))))) (by rw [Ot.len15];exact szC) (by rw [Ot.len15];rfl) (Ot.one _ _ (Yq hF5)) ?_
  intro w6 hCw6 hkw6 hsw6
  simp only [Act.put]
  refine Kx ?_
  have h4Fb:¬ Fb b4:=fun e=>h4F (HFF.out _ (.inr e))
  have z4:=k4.size
  have z5:=hk5.size
  have zw:=k03.size
  have h4F2:¬ F2 b4:=fun e=>(hG5 _ e).elim h4Fb (fun e=>by omega)
  have KF:Keep Fb w w5:=Keep.any (k03.trans k4) hk5
  have hpF2:¬ F2 p:=fun e=>(hG5 _ e).elim HP3.out.nb (fun e=>by omega)
  have hvl:∀ b,v.ownBlock=some b→b<w.heap.size:=fun b hb=>HPP.out.sl.lt hb
  have hP6:MkP w6 p q v F2 ⟨B2,Mm.w⟩:=⟨(HPP.out.blk.keep KF HPP.out.nb).keep hkw6 (fun e=>by omega),hK5.keep hkw6 (fun b hb e=>h4F2 (by rw [← e];exact hb)),(HPP.out.sl.keep KF (fun b hb=>(HPP.out.nv b hb).2)).keep hkw6 (fun b hb e=>by have:=hvl b hb;omega),hpF2,fun b hb=>⟨(HPP.out.nv b hb).1,fun e=>(hG5 b e).elim (HPP.out.nv b hb).2 (fun e=>by have:=hvl b hb;omega)⟩⟩
  go_wp2
  refine bodyPost_ret (XZ (p:=4) rfl _ _ b4 _ ((Ot.mk y false).cells vf) rfl hCw6 Tryz.underlying58 (by rw [Ot.len15];exact szC)) rfl ?_
  refine ⟨_,vf,rfl,hP6.close,hF5.keep hkw6 (fun b hb e=>by have:=(hO5 b hb).1;omega),fun b hb=>⟨by have:=(hO5 b hb).1;omega,fun e=>?_⟩,fun b hb=>?_,(KF.mono (fun b _ hb=>HFF.out b (.inr hb))).new hkw6 (by omega)⟩
  ·have h1:=hO5 b hb
   rcases e with (e | e) | e
   ·omega
   ·have:=hvl b e;omega
   exact h1.2 e
  rcases hb with hb | hb
  ·exact .inl (HFF.out b (.inl hb))
  exact (hG5 b hb).imp (fun h=>HFF.out b (.inr h)) (fun h=>by omega)
def sliceN:Value→Nat | .slice _ n _=>n | _=>0
theorem sliceN_sl {w:World} {T:TypeId} {k n:Nat} {v:Value} {cs:List Value} (h:Sl w T k v n cs):sliceN v=n:=by
 obtain ⟨A,c,rfl⟩:=h.slice_
 rfl
def CasIn (w:World) (F:Nat→Prop) (p base:Nat) (v0:Value) (L:List Ot) (M:Mkt) (r:Ending) (w':World):Prop:=
 ∃ F' v' Z',r=.returned v'∧Mk w' F' p M∧Outs w' base F' v' L Z'∧Grow w F F'∧Keep (fun b=>F b∨v0.ownBlock=some b) w w'
theorem cascade_any (w:World) (F:Nat→Prop) (p base:Nat) (v0:Value) (L:List Ot) (Z:List (Ot × Value)) (Mm:Mkt) (h:Mk w F p Mm) (hI:InvK Mm) (hno:Mm.b.no+1048576*Mm.w.length≤1000000000000) (hO:Outs w base F v0 L Z) (hL:L.length≤1000) (hb:base≤w.heap.size) :
  Calls Tryz.prog 19 #[.pointer (some ⟨p,0,none⟩),v0] w (CasIn w F p base v0 (L++Mm.cas.1) Mm.cas.2):=by
 have HM:=Kj h
 have HI:=Kj hI
 have HO:=Kj hO
 have hw64:Mm.w.length≤64:=by have:=hI.few;omega
 obtain ⟨N,hN⟩:∃ N,L.length+Mm.w.length=N:=⟨_,rfl⟩
 have HN:=Kj hN
 clear h hI hO
 go_enter Tryz.func19,Tryz.ntmps19
 go_wp2_with fail
 go_loopw [1] (fun x wr=>∃ (Mr:Mkt) (Fr:Nat→Prop) (Zr:List (Ot × Value)) (D:List Ot),Hid (Mk wr Fr p Mr)∧Hid (InvK Mr)∧Hid (Mr.b.no+1048576*Mr.w.length≤1000000000000)∧Hid (Outs wr base Fr x (L++D) Zr)∧Hid (Mm.cas=(D++Mr.cas.1,Mr.cas.2))∧Hid (Grow w F Fr)∧Hid (Keep (fun b=>F b∨v0.ownBlock=some b) w wr)∧Hid (∀ b,x.ownBlock=some b→v0.ownBlock=some b∨w.heap.size≤b)∧L.length+D.length+Mr.w.length=N) (fun x _=>N-sliceN x)
 case atStart=>exact ⟨Mm,F,Z,[],HM.out,HI.out,hno,by show Outs _ _ _ _ _ _;rw [List.append_nil];exact HO.out,by show _=_;rw [List.nil_append],Grow.refl _ _,Keep.refl _ _,fun b hb=>.inl hb,by simpa using hN⟩
 obtain ⟨Mr,Fr,Zr,D,HMr,HIr,HNo,HOr,HC,HGr,HKr,HVr,hn⟩:=hrel
 obtain ⟨v1,hv1⟩:∃ x,x=u1:=⟨_,rfl⟩
 subst hv1
 have hlr:Mr.w.length≤64:=by have:=HIr.out.few;omega
 obtain ⟨j,hj⟩:∃ j,WU (fun o=>o.hit Mr.b.last) Mr.w=j:=⟨_,rfl⟩
 have HJ:=Kj hj
 go_upto_region 1 with fail
 refine wE 3 [pV p 0,iV j,iV j] [6,7,5] ?_ ?_
 ·refine mE 1 0 ?_
  refine cS 2 50 [.pointer (some ⟨p,0,none⟩)] rfl Tryz.func50 rfl (fun a u E D hk=>⟨ll (dD D 0) rfl,(by rw [← HJ.out];obtain ⟨_,q,v,Fb,hP,_⟩:=HMr.out.kept hk;exact triggered_any u Fb p q v Mr.b Mr.w hP.blk hP.bk hP.sl (by omega))⟩) ?_
  refine mD 3 7 1 ?_
  exact fz
 intro w1 k1
 simp only [F8]
 have HM1:=Kj (HMr.out.kept k1)
 have HO1:=Kj (HOr.out.kept k1)
 have HK1:Hid (Keep (fun b=>F b∨v0.ownBlock=some b) w w1):=HKr.out.kept k1
 clear HMr HOr HKr k1
 cases hw:Mr.w[Mr.trig]? with
 | none=>
  have hj1:j=-1:=by rw [← hj];exact xU hw
  subst hj1
  have HC2:Hid (Mm.cas=(D,Mr)):=by show _=_;rw [HC.out,UX hw,List.append_nil]
  clear hj hw HJ
  go_upto_region 2 with fail
  refine wE 2 [iV (-1),bV true] [8,9] ?_ ?_
  ·refine mE 1 5 ?_
   refine aS 2 rfl (fun a u E D hk=>Wq rfl (dD D 0) rfl) (by decide) ?_
   exact fz
  intro w2 k2
  simp only [F8]
  go_wp2
  go_ret
  rw [HC2.out]
  first | exact ⟨rfl,Fr,Zr,HM1.out.kept k2,HO1.out.kept k2,HGr.out,HK1.out.kept k2⟩ | exact ⟨Fr,v1,Zr,rfl,HM1.out.kept k2,HO1.out.kept k2,HGr.out,HK1.out.kept k2⟩
 | some e=>
  have hj1:j=(Mr.trig:Int):=by rw [← hj];exact xq hw
  have HC2:Hid (Mm.cas=((D++[⟨(Mr.b.enter e).1,false⟩])++(Mr.next e).cas.1,(Mr.next e).cas.2)):=by show _=_;rw [HC.out,JJX hw,List.append_assoc];rfl
  have HIn:=Kj (HIr.out.next hw)
  obtain ⟨k,hk⟩:∃ k,Mr.trig=k:=⟨_,rfl⟩
  have HNX:Hid (Mr.next e=⟨(Mr.b.enter e).2,Mr.w.eraseIdx k⟩):=by show _=_;rw [← hk];rfl
  rw [hk] at hj1 hw
  have hkl:k<Mr.w.length:=(List.getElem?_eq_some_iff.1 hw).1
  have hle:(Mr.w.eraseIdx k).length=Mr.w.length-1:=by rw [List.length_eraseIdx,if_pos hkl]
  have HEI:=Kj hw
  subst hj1
  obtain ⟨y,B2,hy⟩:∃ y B2,Mr.b.enter e=(y,B2):=⟨_,_,rfl⟩
  have HNo2:Hid (B2.no+1048576*(Mr.w.eraseIdx k).length≤1000000000000):=by
   show _≤_
   have h1:=(JJW (o:=e) HIr.out.inv).2.2
   have h2:=HNo.out
   rw [hy] at h1
   rw [hle]
   have h3:B2.no≤Mr.b.no+1048576:=h1
   omega
  rw [hy] at HNX HC2
  rw [HNX.out] at HIn HC2
  have HY:=Kj hy
  clear hj hw HJ hk hy HC
  go_upto_region 2 with fail
  refine wE 2 [iV (k:Int),bV false] [8,9] ?_ ?_
  ·refine mE 1 5 ?_
   refine aS 2 rfl (fun a u E D hk=>Wq rfl (dD D 0) rfl) (Ku (by omega)) ?_
   exact fz
  intro w2 k2
  simp only [F8]
  have HM2:=Kj (HM1.out.kept k2)
  have HO2:=Kj (HO1.out.kept k2)
  have HK2:Hid (Keep (fun b=>F b∨v0.ownBlock=some b) w w2):=HK1.out.kept k2
  clear HM1 HO1 HK1 k2
  obtain ⟨hFl,q,v,Fb,hP,hfF⟩:=HM2.out
  have HPP:=Kj hP
  have HFF:=Kj hfF
  have HFL:=Kj hFl
  have hz2:w.heap.size≤w2.heap.size:=HK2.out.size
  clear hP hfF HM2
  go_upto_region 4 with fail
  refine wEp 4 [v1,pV p 0,pV p 0,iV (k:Int)] [11,12,13,14] ?_ ?_
  ·refine mE 1 1 ?_
   refine mE 2 0 ?_
   refine mE 3 0 ?_
   refine mE 4 5 ?_
   exact fz
  intro w3 k3
  simp only [F8]
  refine Yz 31 #[.pointer (some ⟨p,0,none⟩),.int .i64 (k:Int)] rfl (Jq 31 _ [.tmp 13,.tmp 14] _ _ Tryz.func31 (by kernel_rfl) (by kernel_rfl) rfl (by kernel_rfl) _) ?_
  refine (mtake_any w3 p q v Mr.w k e (HPP.out.blk.kept k3) (HPP.out.sl.kept k3) HEI.out (by omega) (fun b hb=>(HPP.out.nv b hb).1)).mono ?_
  rintro r w4 ⟨v',rfl,hB4,hS4,hv4,hk4⟩
  refine ⟨_,rfl,?_⟩
  have hK4:=(HPP.out.bk.kept k3).keep hk4 (fun b hb e=>e.elim (fun e=>HPP.out.nb (by rw [← e];exact hb)) (fun e=>(HPP.out.nv b e).2 hb))
  simp only [Act.put,sA,sS,sZ]
  refine Yz 49 #[.pointer (some ⟨p,0,none⟩),e.v] rfl (Jq 49 _ [.tmp 12,.tmp 15] _ _ Tryz.func49 (by kernel_rfl) (by kernel_rfl) rfl (by kernel_rfl) _) ?_
  refine (enter_any w4 Fb p q v' Mr.b e hB4 hK4 HPP.out.nb HIr.out.inv (by have:=HNo.out;omega)).mono ?_
  rintro r w5 ⟨F2,vf,rfl,hK5,hF5,hO5,hG5,hk5⟩
  rw [HY.out] at hK5 hF5 ⊢
  refine ⟨_,rfl,?_⟩
  simp only [Act.put,sA,sS,sZ]
  refine ZW (.slice (some ⟨w5.heap.size,0,none⟩) 1 1) (w5.alloc (.cells ((Ot.mk y false).cells vf).toArray 58)) rfl (Vz slC (.tmp 16) ((Ot.mk y false).cells vf) (by omega) rfl (by kernel_rfl) (Ot.len15 _ _)) ?_
  have hone:=qQ w5 58 15 ((Ot.mk y false).cells vf) w5.heap.size (Ot.len15 _ _) (by omega) (Nat.le_refl _)
  have kN:Kept w5 (w5.alloc (.cells ((Ot.mk y false).cells vf).toArray 58)):=(Keep.refl _ w5).alloc _
  generalize w5.alloc (.cells ((Ot.mk y false).cells vf).toArray 58)=w6 at hone kN ⊢
  have z3:=k3.size
  have z4:=hk4.size
  have z5:=hk5.size
  have zN:=kN.size
  have hFoot:∀ b,foot p v Fb b→Fr b:=HFF.out
  have K25:Keep Fr w2 w5:=((Keep.any k3 hk4).mono (fun b _ hb=>hb.elim (fun h=>hFoot b (.inl (.inl h))) (fun h=>hFoot b (.inl (.inr h))))).trans hk5 (fun b _ hb=>hFoot b (.inr hb))
  have hG2:∀ b,foot p v' F2 b→Fr b∨w2.heap.size≤b:=fun b hb=>hb.elim (fun hb=>hb.elim (fun hb=>.inl (hFoot b (.inl (.inl hb)))) (fun hb=>.inl (hFoot b (.inl (.inr (by rw [← hv4];exact hb)))))) (fun hb=>(hG5 b hb).imp (fun h=>hFoot b (.inr h)) (fun h=>by omega))
  have hP6:MkP w6 p q v' F2 ⟨B2,Mr.w.eraseIdx k⟩:=⟨(hB4.keep hk5 HPP.out.nb).kept kN,hK5.kept kN,(hS4.keep hk5 (fun b hb=>(HPP.out.nv b (by rw [← hv4];exact hb)).2)).kept kN,fun e=>(hG5 p e).elim HPP.out.nb (fun e=>by have:=HPP.out.blk.lt;omega),fun b hb=>⟨(HPP.out.nv b (by rw [← hv4];exact hb)).1,fun e=>(hG5 b e).elim (HPP.out.nv b (by rw [← hv4];exact hb)).2 (fun e=>by have:=hS4.lt hb;omega)⟩⟩
  have hO6:Outs w6 base (foot p v' F2) v1 (L++D) Zr:=((((HO2.out.beside (G':=fun b=>Fr b∨foot p v' F2 b) (n:=w2.heap.size) (fun b hb=>hb.elim .inl (hG2 b)) (Nat.le_refl _)).keep K25 (fun b hb1 hb2 hb3 e=>hb2 (.inl e)))).less (fun b hb=>.inr hb)).kept kN
  have hvf:∀ b,vf.ownBlock=some b→base≤b∧¬ foot p v' F2 b∧v1.ownBlock≠some b:=fun b hb=>⟨by have:=(hO5 b hb).1;omega,fun e=>e.elim (fun e=>e.elim (fun e=>by have:=(hO5 b hb).1;have:=HPP.out.blk.lt;omega) (fun e=>by have:=(hO5 b hb).1;have:=hS4.lt e;omega)) (hO5 b hb).2,fun e=>by have:=(hO5 b hb).1;have:=HO2.out.sl.lt e;omega⟩
  simp only [Act.put,sA,sS,sZ]
  obtain ⟨v7,w7,hr7,hO7,hk7,ho7⟩:=hO6.snoc (Ot.mk y false) vf (.slice (some ⟨w5.heap.size,0,none⟩) 1 1) 34 (hF5.kept kN) hvf hone.1 (by rw [List.length_append];omega) (by omega) hP6.foot_lt
  refine ZW v7 w7 rfl (XQ slC (.tmp 11) (.tmp 17) v1 _ rfl (by kernel_rfl) (by kernel_rfl) v7 w7 hr7) ?_
  simp only [Act.put,sA,sS,sZ]
  refine Jx (v7) rfl (JQ _ _ rfl (by kernel_rfl)) ?_
  simp only [Act.put,sA,sS,sZ]
  refine Kx ?_
  have z7:=hk7.size
  have hv1G:∀ b,v1.ownBlock=some b→¬ foot p v' F2 b:=fun b hb=>(hO6.own b hb).2
  have hP7:=hP6.keep hk7 (fun b hb e=>hv1G b e hb)
  have hGn:Grow w F (foot p v' F2):=fun b hb=>(hG2 b hb).elim (HGr.out b) (fun h=>.inr (by omega))
  have hKn:Keep (fun b=>F b∨v0.ownBlock=some b) w w7:=((HK2.out.trans K25 (fun b hb e=>(HGr.out b e).elim .inl (fun e=>by omega))).kept kN).trans hk7 (fun b hb e=>(HVr.out b e).elim .inr (fun e=>by omega))
  have hVn:∀ b,v7.ownBlock=some b→v0.ownBlock=some b∨w.heap.size≤b:=fun b hb=>(ho7 b hb).elim (HVr.out b) (fun h=>.inr (by omega))
  have hlen7:sliceN v7=L.length+D.length+1:=by rw [sliceN_sl hO7.sl,hO7.len,List.length_append,List.length_append];rfl
  have hlen1:sliceN v1=L.length+D.length:=by rw [sliceN_sl hO6.sl,hO6.len,List.length_append]
  have HP7:=Kj hP7.close
  have HO7:Hid (Outs w7 base (foot p v' F2) v7 (L++(D++[⟨y,false⟩])) (Zr++[(Ot.mk y false,vf)])):=by show Outs _ _ _ _ _ _;rw [← List.append_assoc];exact hO7
  have HGn:=Kj hGn
  have HKn:=Kj hKn
  have HVn:=Kj hVn
  clear hk7 hv1G hP7 hGn hKn hVn hO7 ho7 hr7 hO6 hP6 hG2 K25 hFoot hone kN hK5 hF5 hO5 hG5 hk5 hB4 hS4 hv4 hk4 hK4 k3 HPP HFF HFL hvf
  go_wp2
  exact ⟨⟨_,_,_,D++[⟨y,false⟩],HP7,HIn,HNo2,HO7,HC2,HGn,HKn,HVn,by simp only [List.length_append,List.length_cons,List.length_nil];rw [hle];omega⟩,by rw [hlen7,hlen1];omega⟩
theorem outs_one {w:World} {base:Nat} {G:Nat→Prop} {x:Ot} {vf y:Value} (hf:Sl w 77 21 vf x.c.f.length (fls x.c.f)) (hy:Sl w 58 15 y 1 (x.cells vf)) (h1:∀ b,vf.ownBlock=some b→base≤b∧¬ G b∧y.ownBlock≠some b) (h2:∀ b,y.ownBlock=some b→base≤b∧¬ G b):Outs w base G y [x] [(x,vf)]:=
 ⟨rfl,by simpa [outc] using hy,h2,fun z hz=>(by simp at hz;subst hz;exact hf),fun z hz b hb=>(by simp at hz;subst hz;exact h1 b hb)⟩
def MAddIn (w:World) (F:Nat→Prop) (p:Nat) (x:List Ot × Mkt) (r:Ending) (w':World):Prop:=
 ∃ F' v' Z',r=.returned v'∧Mk w' F' p x.2∧Outs w' w.heap.size F' v' x.1 Z'∧Grow w F F'∧Keep F w w'
theorem madd_any (w:World) (F:Nat→Prop) (p:Nat) (Mm:Mkt) (o:Ord) (h:Mk w F p Mm) (hI:InvK Mm) (hno:Mm.b.no≤900000000000):Calls Tryz.prog 7 #[.pointer (some ⟨p,0,none⟩),o.v] w (MAddIn w F p (Mm.add o)):=by
 have hFl:=h.lt
 have HM:=Kj h
 have HI:=Kj hI
 have HIA:=Kj (hI.arrive o)
 have HNA:=Kj (arrive_no hI o)
 obtain ⟨x,M2,hx⟩:∃ x M2,Mm.arrive o=(x,M2):=⟨_,_,rfl⟩
 rw [hx] at HIA HNA
 obtain ⟨r,hr⟩:∃ r,Mm.add o=r:=⟨_,rfl⟩
 have HR:Hid (r=if x.c.err≠0 then ([x],M2) else (x::M2.cas.1,M2.cas.2)):=by show _=_;rw [← hr];unfold Mkt.add;rw [hx]
 have HX:=Kj hx
 rw [hr]
 clear h hI hx hr
 go_enter Tryz.func7,Tryz.ntmps7
 go_upto_region 0 with fail
 refine QZ 2 [.fresh w.heap.size 30 (o.cells),.eq (.slice none 0 0)] rfl (by kernel_rfl) ?_ ?_
 ·refine nW 1 rfl (fun a u E D hk=>⟨_,_,YX 30 _ (o.cells) rfl (eE E),⟨_,rfl,hk.size,Blk.new u _ _⟩,((Keep.refl _ u).alloc _)⟩) ?_
  refine sW 2 rfl (fun a u E D hk=>JQ _ _ rfl rfl) ?_
  exact fz
 intro gv w0 hV k0
 rw [dq 2 [3,4]]
 simp only [Fz7]
 have hv3:(.fresh w.heap.size 30 (o.cells):Kn).p (gv 3) w0:=hV 0 3 (by kernel_rfl)
 generalize gv 3=v3 at hv3 ⊢
 rw [gQ hV 1 4 (.slice none 0 0)]
 clear hV
 obtain ⟨b3,rfl,hb3,hB3⟩:=hv3
 refine Kx ?_
 have HO:=Kj (JW hB3)
 have l3:=hB3.lt
 have z0:=k0.size
 clear hB3
 go_upto_region 1 with fail
 refine wEp 2 [pV p 0,o.v] [6,7] ?_ ?_
 ·refine mE 1 0 ?_
  refine sE 2 3 b3 0 o.cells Tryz.underlying30 (fun u hk=>JJ HO.out hk) (by rw [o.len9];exact JX) ?_
  exact fz
 intro w1 k1
 simp only [F8]
 refine Yz 18 #[.pointer (some ⟨p,0,none⟩),o.v] rfl (Jq 18 _ [.tmp 6,.tmp 7] _ _ Tryz.func18 (by kernel_rfl) (by kernel_rfl) rfl (by kernel_rfl) _) ?_
 refine (arrive_any w1 F p Mm o (HM.out.kept (k0.trans k1)) HI.out (by omega)).mono ?_
 rintro r' w2 ⟨F2,vf,rfl,hM2,hF2,hO2,hG2,hk2⟩
 rw [HX.out] at hM2 hF2 ⊢
 refine ⟨_,rfl,?_⟩
 simp only [Act.put,sA,sS,sZ]
 refine ZW (.pointer (some ⟨w2.heap.size,0,none⟩)) (w2.alloc (.cells (Xq.cells (.slice none 0 0)).toArray 58)) rfl (QW 58 (Xq.cells (.slice none 0 0)) rfl zC) ?_
 have hNw3:=Blk.new w2 58 (Xq.cells (.slice none 0 0))
 have kw3:Kept w2 (w2.alloc (.cells (Xq.cells (.slice none 0 0)).toArray 58)):=(Keep.refl _ w2).alloc _
 generalize w2.alloc (.cells (Xq.cells (.slice none 0 0)).toArray 58)=w3 at hNw3 kw3 ⊢
 simp only [Act.put,sA,sS,sZ]
 refine Qj 58 w2.heap.size 58 (Xq.cells (.slice none 0 0)) ((x).cells vf) _ _ rfl rfl (by kernel_rfl) (by kernel_rfl) (hNw3) (by rw [Ot.len15];exact szC) (by rw [Ot.len15];rfl) (Ot.one _ _ (Yq hF2)) ?_
 intro w4 hCw4 hkw4 hsw4
 simp only [Act.put]
 refine Kx ?_
 obtain ⟨b5,h5⟩:∃ a,w2.heap.size=a:=⟨_,rfl⟩
 rw [h5] at hNw3 hCw4 hkw4 ⊢
 have z1:=k1.size
 have z2:=hk2.size
 have k24:Kept w2 w4:=kw3.trans' hkw4 (by omega)
 have z4:=k24.size
 have HX5:=Kj (JW hCw4)
 have l5:=hCw4.lt
 have HM4:=Kj (hM2.kept k24)
 have HF4:=Kj (hF2.kept k24)
 have HO4:Hid (∀ b,vf.ownBlock=some b→w.heap.size≤b∧¬ F2 b∧b<w4.heap.size):=fun b hb=>⟨by have:=(hO2 b hb).1;omega,(hO2 b hb).2,by have:=hF2.lt hb;omega⟩
 have HG4:Hid (Grow w F F2):=hG2.wide (by omega)
 have HK4:Hid (Keep F w w4):=(Keep.any (k0.trans k1) hk2).kept k24
 have HL4:Hid (∀ b,F2 b→b<w4.heap.size):=HM4.out.lt
 have zw:w.heap.size≤w4.heap.size:=by omega
 clear hM2 hF2 hO2 hG2 hk2 hNw3 hCw4 hkw4 hsw4 kw3 k24 k0 k1 HO
 by_cases he:x.c.err≠0
 ·have hre:r=([x],M2):=by rw [HR.out,if_pos he]
  subst hre
  go_upto_region 2 with fail
  refine wE 3 [pV b5 14,iV x.c.err,bV true] [9,10,11] ?_ ?_
  ·refine fE 1 5 58 6 14 0 ?_
   refine lD 2 9 0 Tryz.underlying56 (fun u hk=>(JJ (HX5.out) hk) 14 _ rfl) ?_
   refine aS 3 rfl (fun a u E D hk=>YZ rfl (dD D 1) rfl) (Ky he) ?_
   exact fz
  intro w5 k5
  simp only [F8]
  have HX6:=Kj (JJ HX5.out k5)
  have z5:=k5.size
  clear he HR HX5
  go_upto_region 3 with fail
  refine wEp 1 [x.v vf] [12] ?_ ?_
  ·refine sE 1 5 b5 0 (x.cells vf) Tryz.underlying58 (fun u hk=>JJ (HX6.out) hk) (by rw [Ot.len15];exact szC) ?_
   exact fz
  intro w6 k6
  simp only [F8]
  refine ZW (.slice (some ⟨w6.heap.size,0,none⟩) 1 1) (w6.alloc (.cells (x.cells vf).toArray 58)) rfl (Vz slC (.tmp 12) (x.cells vf) (by omega) rfl (by kernel_rfl) (Ot.len15 _ _)) ?_
  have hone:=qQ w6 58 15 (x.cells vf) w6.heap.size (Ot.len15 _ _) (by omega) (Nat.le_refl _)
  have kN:Kept w6 (w6.alloc (.cells (x.cells vf).toArray 58)):=(Keep.refl _ w6).alloc _
  generalize w6.alloc (.cells (x.cells vf).toArray 58)=w7 at hone kN ⊢
  simp only [Act.put,sA,sS,sZ]
  refine Jx (.slice (some ⟨w6.heap.size,0,none⟩) 1 1) rfl (JQ _ _ rfl (by kernel_rfl)) ?_
  simp only [Act.put,sA,sS,sZ]
  refine Kx ?_
  have k47:Kept w4 w7:=(k5.trans k6).trans kN
  have z6:=k6.size
  go_wp2
  go_ret
  refine ⟨F2,_,[(x,vf)],rfl,HM4.out.kept k47,outs_one (HF4.out.kept k47) hone.1 (fun b hb=>⟨(HO4.out b hb).1,(HO4.out b hb).2.1,fun e=>by have:=(HO4.out b hb).2.2;have:=hone.2 b e;omega⟩) (fun b hb=>⟨by have:=hone.2 b hb;omega,fun e=>by have:=hone.2 b hb;have:=HL4.out b e;omega⟩),HG4.out,HK4.out.kept k47⟩
 have hre:r=(x::M2.cas.1,M2.cas.2):=by rw [HR.out,if_neg he]
 subst hre
 go_upto_region 2 with fail
 refine wE 3 [pV b5 14,iV x.c.err,bV false] [9,10,11] ?_ ?_
 ·refine fE 1 5 58 6 14 0 ?_
  refine lD 2 9 0 Tryz.underlying56 (fun u hk=>(JJ (HX5.out) hk) 14 _ rfl) ?_
  refine aS 3 rfl (fun a u E D hk=>YZ rfl (dD D 1) rfl) (Ku he) ?_
  exact fz
 intro w5 k5
 simp only [F8]
 have HX6:=Kj (JJ HX5.out k5)
 have z5:=k5.size
 clear he HR HX5
 go_upto_region 4 with fail
 refine wEp 2 [pV p 0,x.v vf] [14,15] ?_ ?_
 ·refine mE 1 0 ?_
  refine sE 2 5 b5 0 (x.cells vf) Tryz.underlying58 (fun u hk=>JJ (HX6.out) hk) (by rw [Ot.len15];exact szC) ?_
  exact fz
 intro w6 k6
 simp only [F8]
 refine ZW (.slice (some ⟨w6.heap.size,0,none⟩) 1 1) (w6.alloc (.cells (x.cells vf).toArray 58)) rfl (Vz slC (.tmp 15) (x.cells vf) (by omega) rfl (by kernel_rfl) (Ot.len15 _ _)) ?_
 have hone:=qQ w6 58 15 (x.cells vf) w6.heap.size (Ot.len15 _ _) (by omega) (Nat.le_refl _)
 have kN:Kept w6 (w6.alloc (.cells (x.cells vf).toArray 58)):=(Keep.refl _ w6).alloc _
 generalize w6.alloc (.cells (x.cells vf).toArray 58)=w7 at hone kN ⊢
 have k47:Kept w4 w7:=(k5.trans k6).trans kN
 have z6:=k6.size
 have z7:=kN.size
 have hone2:=hone.2
 have hOt:Outs w7 w.heap.size F2 (.slice (some ⟨w6.heap.size,0,none⟩) 1 1) [x] [(x,vf)]:=outs_one (HF4.out.kept k47) hone.1 (fun b hb=>⟨(HO4.out b hb).1,(HO4.out b hb).2.1,fun e=>by have:=(HO4.out b hb).2.2;have:=hone2 b e;omega⟩) (fun b hb=>⟨by have:=hone2 b hb;omega,fun e=>by have:=hone2 b hb;have:=HL4.out b e;omega⟩)
 simp only [Act.put,sA,sS,sZ]
 refine Yz 19 #[.pointer (some ⟨p,0,none⟩),.slice (some ⟨w6.heap.size,0,none⟩) 1 1] rfl (Jq 19 _ [.tmp 14,.tmp 16] _ _ Tryz.func19 (by kernel_rfl) (by kernel_rfl) rfl (by kernel_rfl) _) ?_
 refine (cascade_any w7 F2 p w.heap.size (.slice (some ⟨w6.heap.size,0,none⟩) 1 1) [x] [(x,vf)] M2 (HM4.out.kept k47) HIA.out (by have h1:=HNA.out.2;have h2:=HIA.out.few;simp only at h1 h2;omega) hOt (by simp) (by omega)).mono ?_
 rintro r' w8 ⟨F8,v8,Z8,rfl,hM8,hO8,hG8,hk8⟩
 refine ⟨_,rfl,?_⟩
 simp only [Act.put,sA,sS,sZ]
 refine Jx (v8) rfl (JQ _ _ rfl (by kernel_rfl)) ?_
 simp only [Act.put,sA,sS,sZ]
 refine Kx ?_
 have hk8':Keep F w w8:=(HK4.out.kept k47).trans hk8 (fun b hb e=>e.elim (fun e=>(HG4.out b e).elim id (fun e=>by omega)) (fun e=>by have:=hone2 b e;omega))
 have hG8':Grow w F F8:=fun b hb=>(hG8 b hb).elim (HG4.out b) (fun h=>.inr (by omega))
 clear hk8 hG8 hOt hone hone2 kN k47 k5 k6
 go_wp2
 go_ret
 exact ⟨F8,v8,Z8,rfl,hM8,hO8,hG8',hk8'⟩
theorem RBk.last {w:World} {F:Nat→Prop} {p:Nat} {B:Bok} (h:RBk w F p B):w.cell? ⟨p,3,none⟩=some (.int .i64 B.last):=by
 obtain ⟨_,_,v1,v2,F1,F2,hB,_⟩:=h
 exact hB.cell 3
theorem RBk.no {w:World} {F:Nat→Prop} {p:Nat} {B:Bok} (h:RBk w F p B):w.cell? ⟨p,4,none⟩=some (.int .i64 B.no):=by
 obtain ⟨_,_,v1,v2,F1,F2,hB,_⟩:=h
 exact hB.cell 4
def rb0:List Value:=xW (.slice none 0 0) (.slice none 0 0) 0 0
theorem built_rmk (q:Nat):Tryz.prog.built 53 [(0,.pointer (some ⟨q,0,none⟩))]=some (Zq q (.slice none 0 0)).toArray:=by kernel_rfl
theorem rmnew_any (w:World):Calls Tryz.prog 5 #[] w fun e w'=>∃ p F,e=.returned (.pointer (some ⟨p,0,none⟩))∧RMk w' F p Mkt.zero∧Grow w (fun _=>False) F∧Kept w w':=by
 go_enter Tryz.func5,Tryz.ntmps5
 go_upto_region 1 with fail
 refine wp_region_lit ?_
 refine Jx (.agg rb0.toArray) rfl (YJ 51 [] rb0 rfl (by kernel_rfl)) ?_
 simp only [Act.put,sA,sS,sZ]
 refine ZW (.pointer (some ⟨w.heap.size,0,none⟩)) _ rfl (YX 51 (.tmp 1) rb0 rfl (by kernel_rfl)) ?_
 have hN1:Blk (w.alloc (.cells rb0.toArray 51)) w.heap.size 51 rb0:=Blk.new w 51 rb0
 have k1:Kept w (w.alloc (.cells rb0.toArray 51)):=(Keep.refl _ w).alloc _
 generalize w.alloc (.cells rb0.toArray 51)=w1 at hN1 k1 ⊢
 obtain ⟨q,hq⟩:∃ x,w.heap.size=x:=⟨_,rfl⟩
 rw [hq] at hN1 ⊢
 simp only [Act.put,sA,sS,sZ]
 refine Jx (.agg (Zq q (.slice none 0 0)).toArray) rfl (YJ 53 [(0,.tmp 2)] (Zq q (.slice none 0 0)) rfl (by simp only [List.map_cons,List.map_nil];exact built_rmk q)) ?_
 simp only [Act.put,sA,sS,sZ]
 refine ZW (.pointer (some ⟨w1.heap.size,0,none⟩)) _ rfl (YX 53 (.tmp 3) (Zq q (.slice none 0 0)) rfl (by kernel_rfl)) ?_
 have hN2:=Blk.new w1 53 (Zq q (.slice none 0 0))
 have k2:Kept w1 (w1.alloc (.cells (Zq q (.slice none 0 0)).toArray 53)):=(Keep.refl _ w1).alloc _
 generalize w1.alloc (.cells (Zq q (.slice none 0 0)).toArray 53)=w2 at hN2 k2 ⊢
 simp only [Act.put,sA,sS,sZ]
 refine Jx (.pointer (some ⟨w1.heap.size,0,none⟩)) rfl (JQ _ _ rfl (by kernel_rfl)) ?_
 simp only [Act.put,List.setIfInBounds_toArray,List.set_cons_zero]
 refine Kx ?_
 obtain ⟨g,hg⟩:∃ x,w1.heap.size=x:=⟨_,rfl⟩
 rw [hg] at hN2 ⊢
 have z1:=k1.size
 have l1:=hN1.lt
 have hP:RkP w2 g q (.slice none 0 0) (·=q) Mkt.zero:=⟨hN2,(rbk_new hN1).kept k2,Sl.nil _ _ _,fun h=>by have e:g=q:=h;omega,fun b hb=>by simp [Value.ownBlock] at hb⟩
 go_wp2
 go_ret
 exact ⟨g,_,rfl,hP.close,fun b hb=>by
  rcases hb with (hb | hb) | hb
  ·exact .inr (by omega)
  ·simp [Value.ownBlock] at hb
  have e:b=q:=hb
  exact .inr (by omega),k1.trans k2⟩
def Seek (p:Ord→Bool) (W:List Ord) (i:Nat) (k:Int):Prop:=
 (k=-1∧∀ (j:Nat) (x:Ord),i≤j→W[j]?=some x→p x=false)∨∃ (m:Nat) (e:Ord),k=(m:Int)∧i≤m∧W[m]?=some e∧p e=true∧∀ (j:Nat) (x:Ord),i≤j→j<m→W[j]?=some x→p x=false
theorem Seek.off {p:Ord→Bool} {W:List Ord} {i:Nat} {k:Int} {e:Ord} (h:Seek p W (i+1) k) (he:W[i]?=some e) (hp:p e=false):Seek p W i k:=by
 have key:∀ (j:Nat) (x:Ord),i≤j→W[j]?=some x→(i+1≤j→p x=false)→p x=false:=fun j x h1 h2 h3=>by
  by_cases hj:j=i
  ·subst hj
   rw [he] at h2
   injection h2 with h2
   rw [← h2]
   exact hp
  exact h3 (by omega)
 rcases h with ⟨h1,h2⟩ | ⟨m,x,h1,h2,h3,h4,h5⟩
 ·exact .inl ⟨h1,fun j y hj hy=>key j y hj hy (fun hj=>h2 j y hj hy)⟩
 exact .inr ⟨m,x,h1,by omega,h3,h4,fun j y hj hm hy=>key j y hj hy (fun hj=>h5 j y hj hm hy)⟩
theorem Seek.on {p:Ord→Bool} {W:List Ord} {i:Nat} {e:Ord} (he:W[i]?=some e) (hp:p e=true):Seek p W i (i:Int):=
 .inr ⟨i,e,rfl,Nat.le_refl _,he,hp,fun j x h1 h2=>by omega⟩
theorem Seek.start {p:Ord→Bool} {W:List Ord} {n:Nat} (hn:W.length=n):Seek p W n (-1):=
 .inl ⟨rfl,fun j x h1 h2=>by have:=(List.getElem?_eq_some_iff.1 h2).1;omega⟩
theorem Seek.end_ {p:Ord→Bool} {W:List Ord} {k:Int} (h:Seek p W 0 k):k=WU p W:=by
 rcases h with ⟨h1,h2⟩ | ⟨m,x,h1,_,h3,h4,h5⟩
 ·have hf:W.findIdx p=W.length:=find_no fun j x hj hx=>h2 j x (by omega) hx
  unfold WU
  rw [hf,if_neg (by omega),h1]
 have hf:=find_at (fun j x hj hx=>h5 j x (by omega) hj hx) h3 h4
 have hl:=(List.getElem?_eq_some_iff.1 h3).1
 unfold WU
 rw [hf,if_pos hl,h1]
theorem oc_set_o (x:Oc) (e:Ord) (v:Value):e.cells++(x.cells v).drop 9=({ x with o:=e }:Oc).cells v:=by
 unfold Oc.cells
 rw [List.drop_append_of_le_length (by rw [Ord.len9];omega),List.drop_of_length_le (by rw [Ord.len9];omega)]
 rfl
def RCasIn (w:World) (F:Nat→Prop) (p:Nat) (L:List Ot) (M:Mkt) (r:Ending) (w':World):Prop:=
 ∃ F' v' Z',r=.returned v'∧RMk w' F' p M∧Outs w' w.heap.size F' v' L Z'∧Grow w F F'∧Keep F w w'
theorem rcascade_any (w:World) (F:Nat→Prop) (p:Nat) (Mm:Mkt) (h:RMk w F p Mm) (hI:InvK Mm) (hno:Mm.b.no+1048576*Mm.w.length≤1000000000000) :
  Calls Tryz.prog 28 #[.pointer (some ⟨p,0,none⟩)] w (RCasIn w F p Mm.cas.1 Mm.cas.2):=by
 have HM:=Kj h
 have HI:=Kj hI
 have hw64:Mm.w.length≤64:=by have:=hI.few;omega
 obtain ⟨N,hN⟩:∃ N,Mm.w.length=N:=⟨_,rfl⟩
 have HN:=Kj hN
 clear h hI
 go_enter Tryz.func28,Tryz.ntmps28
 go_wp2_with fail
 go_loopw [3] (fun x wr=>∃ (Mr:Mkt) (Fr:Nat→Prop) (Zr:List (Ot × Value)) (D:List Ot),Hid (RMk wr Fr p Mr)∧Hid (InvK Mr)∧Hid (Mr.b.no+1048576*Mr.w.length≤1000000000000)∧Hid (Outs wr w.heap.size Fr x D Zr)∧Hid (Mm.cas=(D++Mr.cas.1,Mr.cas.2))∧Hid (Grow w F Fr)∧Hid (Keep F w wr)∧D.length+Mr.w.length=N) (fun x _=>N-sliceN x)
 case atStart=>exact ⟨Mm,F,[],[],HM.out,HI.out,hno,⟨rfl,Sl.nil _ _ _,fun b hb=>by simp [Value.ownBlock] at hb,fun z hz=>by simp at hz,fun z hz=>by simp at hz⟩,by show _=_;rw [List.nil_append],Grow.refl _ _,Keep.refl _ _,by simpa using hN⟩
 obtain ⟨Mr,Fr,Zr,D,HMr,HIr,HNo,HOr,HC,HGr,HKr,hn⟩:=hrel
 obtain ⟨v3,hv3⟩:∃ x,x=u3:=⟨_,rfl⟩
 subst hv3
 obtain ⟨ws,hws⟩:∃ x,x=wr:=⟨_,rfl⟩
 subst hws
 have hlr:Mr.w.length≤64:=by have:=HIr.out.few;omega
 obtain ⟨hFl,q,v,Fb,hP,hfF⟩:=HMr.out
 have HPP:=Kj hP
 have HFF:=Kj hfF
 obtain ⟨L,hL⟩:∃ L,Mr.w=L:=⟨_,rfl⟩
 have HL:=Kj hL
 rw [hL] at hlr
 obtain ⟨n,hnl⟩:∃ n,L.length=n:=⟨_,rfl⟩
 have HNL:=Kj hnl
 have HS:Hid (Sl ws 30 9 v n (ords L)):=by show Sl _ _ _ _ _ _;rw [← hnl,← hL];exact hP.sl
 have HV:Hid (ws.cell? ⟨p,1,none⟩=some v):=hP.blk.cell 1
 rw [hnl] at hlr
 clear hP hfF hL hnl hFl
 go_upto_region 3 with fail
 refine wE 7 [pV p 0,pV p 0,pV p 1,v,iV (n:Int),iV (((n:Int):Int)-(1:Int)),iV (((n:Int):Int)-(1:Int))] [9,10,11,12,13,14,5] ?_ ?_
 ·refine mE 1 0 ?_
  refine nD 2 9 0 ?_
  refine fD 3 10 1 53 1 1 0 ?_
  refine sW 4 rfl (fun a u E D hk=>Jy _ _ Tryz.underlying44 _ _ _ rfl (dD D 2) (Kept.cell hk (HV.out))) ?_
  refine sW 5 rfl (fun a u E D hk=>Qq _ slO _ _ _ _ rfl (dD D 3) (HS.out.kept hk)) ?_
  refine sW 6 rfl (fun a u E D hk=>Vj (p:=((n:Int))) (q:=(1)) (((n:Int):Int)-(1:Int)) rfl (dD D 4) rfl rfl (by omega) (by omega)) ?_
  refine mD 7 14 5 ?_
  exact fz
 intro w1 k1
 simp only [F8]
 obtain ⟨hl,hhl⟩:∃ hl:Ord→Bool,(fun o:Ord=>o.hit Mr.b.last)=hl:=⟨_,rfl⟩
 have HHL:=Kj hhl
 go_wp2_with fail
 go_loopw [4,5] (fun a b wq=>∃ (i:Nat) (k z:Int),i≤n∧z=(i:Int)-1∧a=.int .i64 k∧b=.int .i64 z∧Hid (Seek hl L i k)∧Kept ws wq) (fun _ b _=>(intOf b+1).toNat)
 case atStart=>exact ⟨n,-1,_,Nat.le_refl _,rfl,rfl,rfl,Seek.start HNL.out,k1⟩
 obtain ⟨i,k,z,hin,hz,rfl,rfl,HSk,hkr⟩:=hrel
 have HVr:=Kj (Kept.cell hkr HV.out)
 by_cases hi0:0<i
 ·obtain ⟨j,rfl⟩:∃ j,i=j+1:=⟨i-1,by omega⟩
  obtain rfl:z=(j:Int):=by omega
  have hjn:j<n:=by omega
  obtain ⟨e,he⟩:∃ e,L[j]?=some e:=⟨L[j]'(by rw [HNL.out];exact hjn),List.getElem?_eq_getElem (by rw [HNL.out];exact hjn)⟩
  have HE:=Kj he
  obtain ⟨g,off,c,rfl⟩:=HS.out.some_ (by omega)
  have HER:Hid (wr.rangeAt g (off+j*9) e.cells):=JJ (HS.out.rngO j e he) hkr
  have HQr:Hid (wr.cell? ⟨p,0,none⟩=some (.pointer (some ⟨q,0,none⟩))):=(HPP.out.blk.kept hkr).cell 0
  have HLr:Hid (wr.cell? ⟨q,3,none⟩=some (.int .i64 Mr.b.last)):=(HPP.out.bk.kept hkr).last
  obtain ⟨d,hd⟩:∃ d,e.hit Mr.b.last=d:=⟨_,rfl⟩
  have HD:=Kj hd
  have HHd:Hid (hl e=d):=by show _=_;rw [← HHL.out];exact hd
  clear he hd hi0 hz
  go_upto_region 4 with fail
  refine wE 2 [iV (j:Int),bV true] [15,16] ?_ ?_
  ·refine mE 1 5 ?_
   refine aS 2 rfl (fun a u E D hk=>WV rfl (dD D 0) rfl) (Ky (by omega)) ?_
   exact fz
  intro wa ka
  simp only [F8]
  have HVa:=Kj (Kept.cell ka HVr.out)
  have HQa:=Kj (Kept.cell ka HQr.out)
  have HLa:=Kj (Kept.cell ka HLr.out)
  have HEa:=Kj (JJ HER.out ka)
  go_upto_region 6 with fail
  refine wG 15 [pV p 0,pV p 0,pV p 1,.slice (some ⟨g,off,none⟩) n c,iV (j:Int),pV g (off+j*9),e.v,pV p 0,pV p 0,pV p 0,pV q 0,pV q 0,pV q 3,iV Mr.b.last,bV d] [19,20,21,22,23,24,25,26,27,28,29,30,31,32,33] ?_ ?_
  ·refine mE 1 0 ?_
   refine nD 2 19 0 ?_
   refine fD 3 20 1 53 1 1 0 ?_
   refine sW 4 rfl (fun a u E D hk=>Jy _ _ Tryz.underlying44 _ _ _ rfl (dD D 2) (Kept.cell hk (HVa.out))) ?_
   refine mE 5 5 ?_
   refine sW 6 rfl (fun a u E D hk=>Jz slO _ _ (g) (off) n c j (off+j*9) ((j:Int)) rfl (dD D 3) (dD D 4) (by first | rfl | omega) (hjn) (by first | rfl | omega)) ?_
   refine sD 7 24 5 e.cells Tryz.underlying30 (fun u hk=>JJ HEa.out hk) (by rw [e.len9];exact JX) ?_
   refine mE 8 0 ?_
   refine nD 9 26 7 ?_
   refine fD 10 27 8 53 0 0 0 ?_
   refine sW 11 rfl (fun a u E D hk=>XY _ _ Tryz.underlying47 _ _ _ rfl (dD D 9) (Kept.cell hk (HQa.out))) ?_
   refine nD 12 29 10 ?_
   refine fD 13 30 11 51 1 3 0 ?_
   refine lD 14 31 12 Tryz.underlying3 (fun u hk=>Kept.cell hk (HLa.out)) ?_
   refine cS 15 26 [e.v,.int .i64 Mr.b.last] rfl Tryz.func26 rfl (fun a u E D hk=>⟨ll (dD D 6) (ll (dD D 13) rfl),(by rw [← HD.out];exact rhit_any e _ u)⟩) ?_
   exact fz
  intro wb kb
  simp only [F8]
  have kwb:=(hkr.trans ka).trans kb
  clear hkr ka kb HVa HQa HLa HEa HVr HQr HLr HER
  cases d with
  | true=>
   have HS2:=Kj (Seek.on HE.out HHd.out)
   clear HSk HE HD HHd
   go_wp2
   exact ⟨⟨j,_,(j:Int)-1,by omega,rfl,rfl,by go_num,HS2,kwb⟩,by simp [intOf]⟩
  | false=>
   have HS2:=Kj (HSk.out.off HE.out HHd.out)
   clear HSk HE HD HHd
   go_wp2
   exact ⟨⟨j,_,(j:Int)-1,by omega,rfl,rfl,by go_num,HS2,kwb⟩,by simp [intOf]⟩
 obtain rfl:i=0:=by omega
 obtain rfl:z=-1:=by omega
 have hk1:=HSk.out.end_
 go_upto_region 4 with fail
 refine wE 2 [iV (-1),bV false] [15,16] ?_ ?_
 ·refine mE 1 5 ?_
  refine aS 2 rfl (fun a u E D hk=>WV rfl (dD D 0) rfl) (by decide) ?_
  exact fz
 intro wa ka
 simp only [F8]
 have kwa:=hkr.trans ka
 clear hkr ka HSk HVr
 cases hw:Mr.w[Mr.trig]? with
 | none=>
  have hkm:k=-1:=by rw [hk1,← HHL.out,← HL.out];exact xU hw
  subst hkm
  have HC2:Hid (Mm.cas=(D,Mr)):=by show _=_;rw [HC.out,UX hw,List.append_nil]
  clear hw hk1
  go_upto_region 8 with fail
  refine wE 2 [iV (-1),bV true] [35,36] ?_ ?_
  ·refine mE 1 4 ?_
   refine aS 2 rfl (fun a u E D hk=>Wq rfl (dD D 0) rfl) (by decide) ?_
   exact fz
  intro w2 k2
  simp only [F8]
  have kk:=kwa.trans k2
  go_wp2
  go_ret
  rw [HC2.out]
  first | exact ⟨Fr,v3,Zr,rfl,HMr.out.kept kk,HOr.out.kept kk,HGr.out,HKr.out.kept kk⟩ | exact ⟨rfl,Fr,Zr,HMr.out.kept kk,HOr.out.kept kk,HGr.out,HKr.out.kept kk⟩
 | some e=>
  have hkm:k=(Mr.trig:Int):=by rw [hk1,← HHL.out,← HL.out];exact xq hw
  have HC2:Hid (Mm.cas=((D++[⟨(Mr.b.enter e).1,false⟩])++(Mr.next e).cas.1,(Mr.next e).cas.2)):=by show _=_;rw [HC.out,JJX hw,List.append_assoc];rfl
  have HIn:=Kj (HIr.out.next hw)
  clear hk1
  subst hkm
  obtain ⟨k,hk⟩:∃ k,Mr.trig=k:=⟨_,rfl⟩
  have HNX:Hid (Mr.next e=⟨(Mr.b.enter e).2,L.eraseIdx k⟩):=by show _=_;rw [← hk,← HL.out];rfl
  rw [hk,HL.out] at hw
  rw [hk]
  have hkn:k<n:=by rw [← HNL.out];exact (List.getElem?_eq_some_iff.1 hw).1
  have hle:(L.eraseIdx k).length=n-1:=by rw [List.length_eraseIdx,if_pos (by rw [HNL.out];exact hkn),HNL.out]
  have HEI:=Kj hw
  obtain ⟨x,B2,hX⟩:∃ x B2,Mr.b.add e.free=(x,B2):=⟨_,_,rfl⟩
  have HX:=Kj hX
  obtain ⟨y,hy⟩:∃ y:Oc,{ x with o:=e }=y:=⟨_,rfl⟩
  have hye:Mr.b.enter e=(y,B2):=by unfold Bok.enter;rw [hX,← hy]
  have HYf:Hid (y.f=x.f):=by show _=_;rw [← hy]
  have HYc:Hid (∀ v,e.cells++(x.cells v).drop 9=y.cells v):=fun v=>by rw [← hy];exact oc_set_o x e v
  have hnn:Mr.w.length=n:=by rw [HL.out];exact HNL.out
  have HNo2:Hid (B2.no+1048576*(L.eraseIdx k).length≤1000000000000):=by
   show _≤_
   have h1:=(JJW (o:=e) HIr.out.inv).2.2
   have h2:=HNo.out
   rw [hye] at h1
   rw [hle]
   have h3:B2.no≤Mr.b.no+1048576:=h1
   omega
  rw [hye] at HNX HC2
  rw [HNX.out] at HIn HC2
  have HLE:=Kj hle
  have HNN:=Kj hnn
  clear hw hk hX hy hye HC HNX hle hnn hz
  go_upto_region 8 with fail
  refine wE 2 [iV (k:Int),bV false] [35,36] ?_ ?_
  ·refine mE 1 4 ?_
   refine aS 2 rfl (fun a u E D hk=>Wq rfl (dD D 0) rfl) (Ku (by omega)) ?_
   exact fz
  intro w2 k2
  simp only [F8]
  have ks2:=kwa.trans k2
  clear kwa k2
  obtain ⟨g,off,c,rfl⟩:=HS.out.some_ (by omega)
  have HV2:Hid (w2.cell? ⟨p,1,none⟩=some (.slice (some ⟨g,off,none⟩) n c)):=Kept.cell ks2 HV.out
  have HE2:Hid (w2.rangeAt g (off+k*9) e.cells):=JJ (HS.out.rngO k e HEI.out) ks2
  go_upto_region 10 with fail
  refine wEp 7 [pV p 0,pV p 0,pV p 1,.slice (some ⟨g,off,none⟩) n c,iV (k:Int),pV g (off+k*9),e.v] [38,39,40,41,42,43,44] ?_ ?_
  ·refine mE 1 0 ?_
   refine nD 2 38 0 ?_
   refine fD 3 39 1 53 1 1 0 ?_
   refine sW 4 rfl (fun a u E D hk=>Jy _ _ Tryz.underlying44 _ _ _ rfl (dD D 2) (Kept.cell hk (HV2.out))) ?_
   refine mE 5 4 ?_
   refine sW 6 rfl (fun a u E D hk=>Jz slO _ _ (g) (off) n c k (off+k*9) ((k:Int)) rfl (dD D 3) (dD D 4) (by first | rfl | omega) (hkn) (by first | rfl | omega)) ?_
   refine sD 7 43 5 e.cells Tryz.underlying30 (fun u hk=>JJ HE2.out hk) (by rw [e.len9];exact JX) ?_
   exact fz
  intro wb kb
  simp only [F8]
  refine ZW (.pointer (some ⟨wb.heap.size,0,none⟩)) (wb.alloc (.cells JV.cells.toArray 30)) rfl (QW 30 JV.cells rfl zO) ?_
  have hNwd:=Blk.new wb 30 JV.cells
  have kwd:Kept wb (wb.alloc (.cells JV.cells.toArray 30)):=(Keep.refl _ wb).alloc _
  generalize wb.alloc (.cells JV.cells.toArray 30)=wd at hNwd kwd ⊢
  simp only [Act.put,sA,sS,sZ]
  refine Qj 30 wb.heap.size 30 JV.cells e.cells _ _ rfl rfl (by kernel_rfl) (by kernel_rfl) (hNwd) (by rw [Ord.len9];exact JX) (by rw [Ord.len9,Ord.len9]) (Ord.one1 _) ?_
  intro w3 hCw3 hkw3 hsw3
  simp only [Act.put]
  refine Kx ?_
  obtain ⟨b6,h6⟩:∃ a,wb.heap.size=a:=⟨_,rfl⟩
  rw [h6] at hNwd hCw3 hkw3 ⊢
  have zb:=kb.size
  have k23:Kept w2 w3:=(kb.trans kwd).trans' hkw3 (by omega)
  have ks3:=ks2.trans k23
  have zs2:=ks2.size
  have hb6:ws.heap.size≤b6:=by omega
  have l6:=hCw3.lt
  have HC6:=Kj (JW hCw3)
  have HBp:=Kj (HPP.out.blk.kept ks3)
  have HSp:=Kj (HS.out.kept ks3)
  have HVp:Hid (w3.cell? ⟨p,1,none⟩=some (.slice (some ⟨g,off,none⟩) n c)):=HBp.out.cell 1
  have HKp:=Kj (HPP.out.bk.kept ks3)
  have hlen9:n≤100000:=by omega
  have zs3:=ks3.size
  clear hNwd hCw3 hkw3 hsw3 kwd kb HV2 HE2 k23 ks2 h6
  obtain ⟨va,hva,hoa,hsa⟩:=yW slO _ n k (by omega) _ w3 HSp.out
  obtain ⟨vb,hvb,hob,hsb⟩:=jX slO _ n (k+1) (by omega) _ w3 HSp.out
  have HVA:=Kj hva
  have HVB:=Kj hvb
  have HSA:Hid (∀ u,Kept w3 u→Sl u 30 9 va k (ords (L.take k))):=fun u hk=>by
   have:=hsa u _ (HSp.out.kept hk)
   rw [show (ords L).take (k*9)=ords (L.take k) from yY Ord.cells 9 Ord.len9 _ k] at this
   exact this
  have HSB:Hid (∀ u,Kept w3 u→Sl u 30 9 vb (n-(k+1)) (ords (L.drop (k+1)))):=fun u hk=>by
   have:=hsb u _ (HSp.out.kept hk)
   rw [show (ords L).drop ((k+1)*9)=ords (L.drop (k+1)) from Uz Ord.cells 9 Ord.len9 _ (k+1)] at this
   exact this
  have hcast:((k+1:Nat):Int)=(k:Int)+1:=by omega
  rw [hcast] at HVB
  clear hva hoa hsa hvb hob hsb
  go_upto_region 11 with fail
  refine JJJ 16 [.eq (.pointer (some ⟨p,0,none⟩)),.emp w3.heap.size 30,.eq (.pointer (some ⟨p,0,none⟩)),.eq (.pointer (some ⟨p,0,none⟩)),.eq (.pointer (some ⟨p,1,none⟩)),.eq (.slice (some ⟨g,off,none⟩) n c),.eq (.int .i64 (k:Int)),.eq (va),.sl w3.heap.size 30 9 k (ords (L.take k)),.eq (.pointer (some ⟨p,0,none⟩)),.eq (.pointer (some ⟨p,0,none⟩)),.eq (.pointer (some ⟨p,1,none⟩)),.eq (.slice (some ⟨g,off,none⟩) n c),.eq (.int .i64 (k:Int)),.eq (.int .i64 ((k:Int)+1)),.eq (vb)] (.pointer (some ⟨p,0,none⟩)) ((fun v' u u'=>Sl u' 30 9 v' (k+(n-(k+1))) (ords (L.take k)++ords (L.drop (k+1)))∧(∀ b,v'.ownBlock=some b→w3.heap.size≤b)∧Keep (fun b=>w3.heap.size≤b) u u')) (by kernel_rfl) rfl rfl (by kernel_rfl) (by kernel_rfl) (t_zero (d:=45) _ rfl rfl rfl (by kernel_rfl) (by kernel_rfl)) ?_ (fun a u hE hD hk=> (by obtain ⟨v',u',hr,hs',hk',ho'⟩:=Qy slO _ u (a.eval (.tmp 53)) vb k (n-(k+1)) _ _ ((hD 8 53 (by kernel_rfl))).1 (HSB.out u hk) (qX _) (by unfold maxLen;omega) (by omega);have hq:=((hD 8 53 (by kernel_rfl))).2;exact t_last (o:=⟨some 61,_,_,_,_,_⟩) (R:=(fun v' u u'=>Sl u' 30 9 v' (k+(n-(k+1))) (ords (L.take k)++ords (L.drop (k+1)))∧(∀ b,v'.ownBlock=some b→w3.heap.size≤b)∧Keep (fun b=>w3.heap.size≤b) u u')) (m:=16) (v:=v') (w':=u') rfl (JZ rfl _) (XQ slO (.tmp 53) (.tmp 60) _ vb rfl rfl (dD hD 15) v' u' hr) ⟨hs',fun b hb=>(ho' b hb).elim (hq b) (fun h=>Kv hk.size h),hk'.mono (fun b _ hb=>hq b hb)⟩)) ?_
  ·refine nW 2 rfl (fun a u E D hk=>⟨_,_,Uy 44 30 9 rfl slO.und JX,⟨_,rfl,hk.size,Blk.new u _ _⟩,((Keep.refl _ u).alloc _)⟩) ?_
   refine mE 3 0 ?_
   refine nD 4 47 2 ?_
   refine fD 5 48 3 53 1 1 0 ?_
   refine sW 6 rfl (fun a u E D hk=>Jy _ _ Tryz.underlying44 _ _ _ rfl (dD D 4) (Kept.cell hk (HVp.out))) ?_
   refine mE 7 4 ?_
   refine sW 8 rfl (fun a u E D hk=>Wx slO _ _ _ va _ rfl (dD D 5) (dD D 6) (HVA.out u)) ?_
   refine QY 9 rfl (fun a u hE hD hk=>(by obtain ⟨v',u',hr,hp,hkk⟩:=VW slO _ u (a.eval (.tmp 46)) va k w3.heap.size _ ((dD hD 1)) (HSA.out u hk) (qX _) (by omega) (by omega) hk.size;exact jx v' u' rfl (JZ rfl _) (XQ slO (.tmp 46) (.tmp 52) _ va rfl rfl (dD hD 7) v' u' hr) hp hkk)) ?_
   refine mE 10 0 ?_
   refine nD 11 54 9 ?_
   refine fD 12 55 10 53 1 1 0 ?_
   refine sW 13 rfl (fun a u E D hk=>Jy _ _ Tryz.underlying44 _ _ _ rfl (dD D 11) (Kept.cell hk (HVp.out))) ?_
   refine mE 14 4 ?_
   refine sW 15 rfl (fun a u E D hk=>ZJ ((k:Int)+1) rfl (dD D 13) rfl rfl (by omega) (by omega)) ?_
   refine sW 16 rfl (fun a u E D hk=>VX slO _ _ _ vb _ rfl (dD D 12) (dD D 14) (HVB.out u)) ?_
   exact fz
  intro gv w1 wx hV h0 hR hk1
  rw [dq 17 [45,46,47,48,49,50,51,52,53,54,55,56,57,58,59,60,61]]
  simp only [Fz7]
  have hT:=hR 61 (by kernel_rfl)
  generalize gv 61=v61 at hT ⊢
  rw [show gv 45=.pointer (some ⟨p,0,none⟩) from h0 45 (by kernel_rfl)]
  clear hV h0 hR
  obtain ⟨hsx,hox,hkx⟩:=hT
  have kxx:=yZ hk1 hkx (Nat.le_refl _)
  have hBx:=HBp.out.kept kxx
  refine Jx (.pointer (some ⟨p,0,none⟩)) rfl (YY (.tmp 45) ⟨p,0,none⟩ rfl (by kernel_rfl)) ?_
  simp only [Act.put,sA,sS,sZ]
  refine Jx (.pointer (some ⟨p,1,none⟩)) rfl (QV 53 1 1 (.tmp 62) (p) (0) (1) rfl (by kernel_rfl) (by kernel_rfl) rfl) ?_
  simp only [Act.put,sA,sS,sZ]
  refine Zz 44 p 1 53 _ v61 _ _ rfl rfl (by kernel_rfl) (by kernel_rfl) (by kernel_rfl) (VV hsx) (Yq hsx) hBx (by simp [Zq]) ?_
  intro wy hBy hky hsy
  simp only [Act.put]
  refine Kx ?_
  obtain ⟨v',hv'⟩:∃ v',v'=v61:=⟨_,rfl⟩
  subst hv'
  have hpW:p<w3.heap.size:=HBp.out.lt
  have zx:=kxx.size
  have hBy:Blk wy p 53 (Zq q v'):=hBy
  have hLe:(L.eraseIdx k).length=n-1:=by rw [List.length_eraseIdx,if_pos (by rw [HNL.out];exact hkn),HNL.out]
  have hSy:Sl wy 30 9 v' (L.eraseIdx k).length (ords (L.eraseIdx k)):=by
   rw [hLe,List.eraseIdx_eq_take_drop_succ]
   unfold ords at hsx ⊢
   rw [List.flatMap_append]
   rw [show k+(n-(k+1))=n-1 by omega] at hsx
   exact hsx.keep hky (fun b hb e=>by have:=hox b hb;omega)
  have KY:Keep (·=p) w3 wy:=Keep.any kxx hky
  have hoy:=hox
  clear hsx hox hkx hBx hk1 hky HVA HVB HSA HSB kxx
  have hpF:¬ Fb p:=HPP.out.nb
  have HC6y:=Kj (XW HC6.out KY (by have:=HPP.out.blk.lt;omega))
  have zy:=KY.size
  have KSy:Keep Fr ws wy:=(Keep.any ks3 KY).mono (fun b _ e=>HFF.out b (.inl (.inl e)))
  have HBy:=Kj hBy
  have HSy:=Kj hSy
  have HOy:Hid (∀ b,v'.ownBlock=some b→w3.heap.size≤b∧b<wy.heap.size):=fun b hb=>⟨hoy b hb,hSy.lt hb⟩
  have HKy:=Kj (HKp.out.keep KY (fun b hb e=>hpF (by rw [← e];exact hb)))
  clear HC6 HBp HSp HVp HKp hBy hSy hoy hsy KY hLe hcast
  go_upto_region 12 with fail
  refine wEp 1 [e.v] [64] ?_ ?_
  ·refine sE 1 6 b6 0 e.cells Tryz.underlying30 (fun u hk=>JJ HC6y.out hk) (by rw [e.len9];exact JX) ?_
   exact fz
  intro wb kb
  simp only [F8]
  refine ZW (.pointer (some ⟨wb.heap.size,0,none⟩)) (wb.alloc (.cells JV.cells.toArray 30)) rfl (QW 30 JV.cells rfl zO) ?_
  have hNwd:=Blk.new wb 30 JV.cells
  have kwd:Kept wb (wb.alloc (.cells JV.cells.toArray 30)):=(Keep.refl _ wb).alloc _
  generalize wb.alloc (.cells JV.cells.toArray 30)=wd at hNwd kwd ⊢
  simp only [Act.put,sA,sS,sZ]
  refine Qj 30 wb.heap.size 30 JV.cells e.cells _ _ rfl rfl (by kernel_rfl) (by kernel_rfl) (hNwd) (by rw [Ord.len9];exact JX) (by rw [Ord.len9,Ord.len9]) (Ord.one1 _) ?_
  intro w4 hCw4 hkw4 hsw4
  simp only [Act.put]
  refine Kx ?_
  obtain ⟨b7,h7⟩:∃ a,wb.heap.size=a:=⟨_,rfl⟩
  rw [h7] at hNwd hCw4 hkw4 ⊢
  have zb:=kb.size
  have ky4:Kept wy w4:=(kb.trans kwd).trans' hkw4 (by omega)
  have hb7:wy.heap.size≤b7:=by omega
  have HB7:=Kj hCw4
  have HC64:=Kj (JJ HC6y.out ky4)
  clear hNwd hCw4 hkw4 hsw4 kwd kb h7 HC6y
  have hfree:stc (e.l.set 8 0) []=e.free.cells:=rfl
  go_upto_region 13 with fail
  refine wEp 1 [pV b7 8] [65] ?_ ?_
  ·refine fE 1 7 30 8 8 0 ?_
   exact fz
  intro wb kb
  simp only [F8]
  refine l_setf b7 8 30 e.l [] 0 _ (.const (.int .i64 0)) rfl rfl (by kernel_rfl) rfl (HB7.out.kept kb) (by simp [Ord.l]) ?_
  intro w5 hBw5 hkw5 hsw5
  simp only [Act.put]
  refine Kx ?_
  have HB75:Hid (Blk w5 b7 30 e.free.cells):=by show Blk _ _ _ _;rw [← hfree];exact hBw5
  have HF7:=Kj (JW HB75.out)
  clear hfree
  have z4:=ky4.size
  have zb5:=kb.size
  have ky5:Kept wy w5:=(ky4.trans kb).trans' hkw5 (by omega)
  have HC65:=Kj (XW (JJ HC64.out kb) hkw5 (fun e=>by omega))
  have HBp:=Kj (HBy.out.kept ky5)
  have HQp:Hid (w5.cell? ⟨p,0,none⟩=some (.pointer (some ⟨q,0,none⟩))):=HBp.out.cell 0
  have HKp:=Kj (HKy.out.kept ky5)
  have HSp:=Kj (HSy.out.kept ky5)
  have hFl5:=HKp.out.lt
  have hFly:=HKy.out.lt
  have zy5:=ky5.size
  have h7F:¬ Fb b7:=fun h=>by have:=hFly b7 h;omega
  have HFbs:Hid (∀ b,Fb b→b<ws.heap.size):=HPP.out.bk.lt
  have h6F:¬ Fb b6:=fun h=>by have:=HFbs.out b6 h;omega
  have KS5:Keep Fr ws w5:=KSy.kept ky5
  clear hBw5 hkw5 hsw5 ky4 kb HB7 HC64 HBy HSy HKy hFly
  go_upto_region 14 with fail
  go_cut [66,67,68,69,70,71,8] (fun _ _ _ _ _ _ ra wx=>∃ ba F2 vf,ra=.pointer (some ⟨ba,0,none⟩)∧w5.heap.size≤ba∧Blk wx ba 58 (x.cells vf)∧RBk wx F2 q B2∧¬ F2 ba∧Sl wx 77 21 vf x.f.length (fls x.f)∧(∀ b,vf.ownBlock=some b→w5.heap.size≤b∧¬ F2 b∧b≠ba)∧Grow w5 Fb F2∧Keep Fb w5 wx)
  case first=>
   refine wp_tree (fun u=>Keep Fb w5 u) (.val 0 (.val 1 (.val 2 (.val 3 (.val 4 (.two 5 6 (.one 6 (.one 7 .done)) (.one 5 (.one 7 .done)))))))) rfl (by kernel_rfl) (Keep.drew (Keep.refl _ w5)) ?_
   refine WZ (o:=⟨some 66,_,_,_,_,_⟩) (.pointer (some ⟨p,0,none⟩)) rfl rfl (fun u hu=>Jj (.tmp 0) (.pointer (some ⟨p,0,none⟩)) rfl (by kernel_rfl)) ?_
   simp only [Act.put,sA,sS,sZ]
   refine WZ (o:=⟨some 67,_,_,_,_,_⟩) (.pointer (some ⟨p,0,none⟩)) rfl rfl (fun u hu=>YY (.tmp 66) ⟨p,0,none⟩ rfl (by kernel_rfl)) ?_
   simp only [Act.put,sA,sS,sZ]
   refine WZ (o:=⟨some 68,_,_,_,_,_⟩) (.pointer (some ⟨p,0,none⟩)) rfl rfl (fun u hu=>QV 53 0 0 (.tmp 67) (p) (0) (0) rfl (by kernel_rfl) (by kernel_rfl) rfl) ?_
   simp only [Act.put,sA,sS,sZ]
   refine WZ (o:=⟨some 69,_,_,_,_,_⟩) (.pointer (some ⟨q,0,none⟩)) rfl rfl (fun u hu=>XY 47 _ Tryz.underlying47 (.tmp 68) ⟨p,0,none⟩ (.pointer (some ⟨q,0,none⟩)) rfl (by kernel_rfl) (Keep.cell hu HQp.out hpF)) ?_
   simp only [Act.put,sA,sS,sZ]
   refine WZ (o:=⟨some 70,_,_,_,_,_⟩) (e.free.v) rfl rfl (fun u hu=>xJ 30 _ (.tmp 7) (b7) (0) e.free.cells rfl (by kernel_rfl) (XW HF7.out hu h7F) Tryz.underlying30 (by rw [Ord.len9];exact JX)) ?_
   simp only [Act.put,sA,sS,sZ]
   refine ⟨?_,?_⟩
   ·skip
    refine t_call (o:=⟨some 71,_,_,_,_,_⟩) 27 #[.pointer (some ⟨q,0,none⟩),e.free.v] rfl rfl (Jq 27 _ [.tmp 69,.tmp 70] _ _ Tryz.func27 (by kernel_rfl) (by kernel_rfl) rfl (by kernel_rfl)) ?_
    refine (rbadd_any w5.drew Fb q Mr.b e.free (HKp.out.kept (Keep.drew (Keep.refl _ w5))) HIr.out.inv (by have:=HNo.out;omega)).mono ?_
    rintro r wm ⟨F2,vf,rfl,hKwm,hFwm,hOwm,hGwm,hkwm⟩
    rw [HX.out] at hKwm hFwm ⊢
    have HSSwm:Keep Fb w5 wm:=Keep.undrew hkwm
    refine ⟨_,rfl,HSSwm,?_⟩
    simp only [Act.put,sA,sS,sZ]
    refine t_new (o:=⟨some 8,_,_,_,_,_⟩) (.pointer (some ⟨wm.heap.size,0,none⟩)) (wm.alloc (.cells (Xq.cells (.slice none 0 0)).toArray 58)) rfl rfl (QW 58 (Xq.cells (.slice none 0 0)) rfl zC) ?_ ?_
    ·exact (HSSwm).alloc _
    have hNwmb:=Blk.new wm 58 (Xq.cells (.slice none 0 0))
    have kwmb:Kept wm (wm.alloc (.cells (Xq.cells (.slice none 0 0)).toArray 58)):=(Keep.refl _ wm).alloc _
    have zwmb:wm.heap.size<(wm.alloc (.cells (Xq.cells (.slice none 0 0)).toArray 58)).heap.size:=hNwmb.lt
    generalize wm.alloc (.cells (Xq.cells (.slice none 0 0)).toArray 58)=wmb at hNwmb kwmb zwmb ⊢
    simp only [Act.put,sA,sS,sZ]
    refine t_setS (o:=⟨none,_,_,_,_,_⟩) 58 wm.heap.size 58 (Xq.cells (.slice none 0 0)) (x.cells vf) (.tmp 8) (.tmp 71) rfl rfl rfl (by kernel_rfl) (by kernel_rfl) (hNwmb) (by rw [Oc.len15];exact szC) (by rw [Oc.len15,Oc.len15]) (Oc.one _ _ (Yq hFwm)) ?_
    intro wn hCwn hkwn
    refine ⟨HSSwm.new (Keep.any kwmb hkwn) HSSwm.size,?_⟩
    simp only [Act.put]
    refine t_done ?_
    refine Kx ?_
    go_wp2
    go_meet
    have zz:=HSSwm.size
    have hF5:=hKwm.lt
    have K6:Keep (·=wm.heap.size) wm wn:=Keep.any kwmb hkwn
    case rel=>exact ⟨wm.heap.size,F2,vf,rfl,zz,hCwn,hKwm.keep K6 (fun b hb e=>by have:=hF5 b hb;omega),fun h=>by have:=hF5 _ h;omega,hFwm.keep K6 (fun b hb e=>by have:=hFwm.lt hb;omega),fun b hb=>⟨(hOwm b hb).1,(hOwm b hb).2,fun e=>by have:=hFwm.lt hb;omega⟩,hGwm,HSSwm.new K6 zz⟩
   skip
   have HSSw4:Keep Fb w5 w5.drew:=Keep.drew (Keep.refl _ w5)
   refine t_new (o:=⟨some 8,_,_,_,_,_⟩) (.pointer (some ⟨w5.drew.heap.size,0,none⟩)) (w5.drew.alloc (.cells (Xq.cells (.slice none 0 0)).toArray 58)) rfl rfl (QW 58 (Xq.cells (.slice none 0 0)) rfl zC) ?_ ?_
   ·exact (HSSw4).alloc _
   have hNwlb:=Blk.new w5.drew 58 (Xq.cells (.slice none 0 0))
   have kwlb:Kept w5.drew (w5.drew.alloc (.cells (Xq.cells (.slice none 0 0)).toArray 58)):=(Keep.refl _ w5.drew).alloc _
   have zwlb:w5.drew.heap.size<(w5.drew.alloc (.cells (Xq.cells (.slice none 0 0)).toArray 58)).heap.size:=hNwlb.lt
   generalize w5.drew.alloc (.cells (Xq.cells (.slice none 0 0)).toArray 58)=wlb at hNwlb kwlb zwlb ⊢
   simp only [Act.put,sA,sS,sZ]
   refine t_call (o:=⟨some 71,_,_,_,_,_⟩) 27 #[.pointer (some ⟨q,0,none⟩),e.free.v] rfl rfl (Jq 27 _ [.tmp 69,.tmp 70] _ _ Tryz.func27 (by kernel_rfl) (by kernel_rfl) rfl (by kernel_rfl)) ?_
   refine (rbadd_any wlb Fb q Mr.b e.free (HKp.out.kept (Kept.trans (Keep.drew (Keep.refl _ w5)) kwlb)) HIr.out.inv (by have:=HNo.out;omega)).mono ?_
   rintro r wm ⟨F2,vf,rfl,hKwm,hFwm,hOwm,hGwm,hkwm⟩
   rw [HX.out] at hKwm hFwm ⊢
   have HSSwm:Keep Fb w5 wm:=Keep.any (Kept.trans (Keep.drew (Keep.refl _ w5)) kwlb) hkwm
   have hd:w5.drew.heap.size=w5.heap.size:=rfl
   have hnF:¬ Fb w5.drew.heap.size:=fun h=>by have:=hFl5 _ h;omega
   have hN5:=hNwlb.keep hkwm hnF
   have zz:=HSSwm.size
   refine ⟨_,rfl,HSSwm,?_⟩
   simp only [Act.put,sA,sS,sZ]
   refine t_setS (o:=⟨none,_,_,_,_,_⟩) 58 w5.drew.heap.size 58 (Xq.cells (.slice none 0 0)) (x.cells vf) (.tmp 8) (.tmp 71) rfl rfl rfl (by kernel_rfl) (by kernel_rfl) (hN5) (by rw [Oc.len15];exact szC) (by rw [Oc.len15,Oc.len15]) (Oc.one _ _ (Yq hFwm)) ?_
   intro wn hCwn hkwn
   refine ⟨HSSwm.new hkwn (by omega),?_⟩
   simp only [Act.put]
   refine t_done ?_
   refine Kx ?_
   go_wp2
   go_meet
   have hF2:¬ F2 w5.drew.heap.size:=fun h=>(hGwm _ h).elim hnF (fun h=>by omega)
   case rel=>exact ⟨w5.drew.heap.size,F2,vf,rfl,by omega,hCwn,hKwm.keep hkwn (fun b hb e=>hF2 (by rw [← e];exact hb)),hF2,hFwm.keep hkwn (fun b hb e=>by have:=(hOwm b hb).1;omega),fun b hb=>⟨by have:=(hOwm b hb).1;omega,(hOwm b hb).2,fun e=>by have:=(hOwm b hb).1;omega⟩,fun b hb=>(hGwm b hb).imp id (fun h=>by omega),HSSwm.new hkwn (by omega)⟩
  obtain ⟨b8,F2,vf,rfl,hb8,hC,hK,hnb,hS,hO,hG,hk⟩:=hcut
  have zx:=hk.size
  have HG5:=Kj hG
  have hn_8:=hnb
  clear hnb
  have KSc:Keep Fr ws wc:=KS5.trans hk (fun b _ hb=>HFF.out b (.inr hb))
  have HCx:=Kj hC
  have HKx:=Kj hK
  have HFx:=Kj hS
  have HOx:=Kj hO
  have HBx:=Kj (HBp.out.keep hk hpF)
  have hv5:∀ b,v'.ownBlock=some b→¬ Fb b:=fun b hb h=>by have:=(HOy.out b hb).1;have:=HFbs.out b h;omega
  have HSx:=Kj (HSp.out.keep hk hv5)
  have HC6x:=Kj (XW HC65.out hk h6F)
  have l8:=hC.lt
  clear hC hK hS hO hG hk HBp HQp HKp HSp HC65 HF7 HB75 KS5
  go_upto_region 15 with fail
  refine wEp 2 [e.v,pV b8 0] [72,73] ?_ ?_
  ·refine sE 1 6 b6 0 e.cells Tryz.underlying30 (fun u hk=>JJ HC6x.out hk) (by rw [e.len9];exact JX) ?_
   refine fE 2 8 58 0 0 0 ?_
   exact fz
  intro wd kd
  simp only [F8]
  refine l_setO b8 58 e (x.cells vf) _ _ rfl rfl (by kernel_rfl) (by kernel_rfl) (HCx.out.kept kd) (by rw [Oc.len15];omega) ?_
  intro we hCe hke
  simp only [Act.put]
  refine Kx ?_
  rw [HYc.out] at hCe
  have hCe':Blk we b8 58 ((Ot.mk y false).cells vf):=hCe
  have HCe:=Kj (JW hCe')
  have k8e:Keep (·=b8) wc we:=Keep.any kd hke
  have ze:=k8e.size
  have HBe:=Kj (HBx.out.keep k8e (fun e=>by have:=HPP.out.blk.lt;omega))
  have HSe:=Kj (HSx.out.keep k8e (fun b hb e=>by have:=(HOy.out b hb).2;omega))
  have HKe:=Kj (HKx.out.keep k8e (fun b hb e=>hn_8 (by rw [← e];exact hb)))
  have HFe:Hid (Sl we 77 21 vf y.f.length (fls y.f)):=by show Sl _ _ _ _ _ _;rw [HYf.out];exact HFx.out.keep k8e (fun b hb e=>(HOx.out b hb).2.2 e)
  have KSe:Keep Fr ws we:=KSc.new k8e (by omega)
  have l8e:=hCe'.lt
  clear hCe hCe' hke kd k8e HCx HBx HSx HKx HFx HC6x KSc
  have HO2:Hid (Outs we w.heap.size Fr v3 D Zr):=HOr.out.keep KSe (fun b hb1 hb2 hb3 e=>hb2 e)
  have hwws:w.heap.size≤ws.heap.size:=HKr.out.size
  go_upto_region 16 with fail
  refine wEp 2 [v3,(Ot.mk y false).v vf] [74,75] ?_ ?_
  ·refine mE 1 3 ?_
   refine sE 2 8 b8 0 ((Ot.mk y false).cells vf) Tryz.underlying58 (fun u hk=>JJ HCe.out hk) (by rw [Ot.len15];exact szC) ?_
   exact fz
  intro w5b k5b
  simp only [F8]
  refine ZW (.slice (some ⟨w5b.heap.size,0,none⟩) 1 1) (w5b.alloc (.cells ((Ot.mk y false).cells vf).toArray 58)) rfl (Vz slC (.tmp 75) ((Ot.mk y false).cells vf) (by omega) rfl (by kernel_rfl) (Ot.len15 _ _)) ?_
  have hone:=qQ w5b 58 15 ((Ot.mk y false).cells vf) w5b.heap.size (Ot.len15 _ _) (by omega) (Nat.le_refl _)
  have kN:Kept w5b (w5b.alloc (.cells ((Ot.mk y false).cells vf).toArray 58)):=(Keep.refl _ w5b).alloc _
  generalize w5b.alloc (.cells ((Ot.mk y false).cells vf).toArray 58)=w6 at hone kN ⊢
  have z5b:=k5b.size
  have zN:=kN.size
  have ke6:=k5b.trans kN
  have hvlt:∀ b,v'.ownBlock=some b→ws.heap.size≤b:=fun b hb=>by have:=(HOy.out b hb).1;omega
  have hF2y:∀ b,F2 b→Fb b∨w5.heap.size≤b:=fun b hb=>HG5.out b hb
  have hG2:∀ b,foot p v' F2 b→Fr b∨ws.heap.size≤b:=fun b hb=>hb.elim (fun hb=>hb.elim (fun hb=>.inl (HFF.out b (.inl (.inl hb)))) (fun hb=>.inr (hvlt b hb))) (fun hb=>(hF2y b hb).imp (fun h=>HFF.out b (.inr h)) (fun h=>by omega))
  have hP6:RkP w6 p q v' F2 ⟨B2,L.eraseIdx k⟩:=⟨HBe.out.kept ke6,HKe.out.kept ke6,HSe.out.kept ke6,fun e=>(hF2y p e).elim hpF (fun e=>by have:=HPP.out.blk.lt;omega),fun b hb=>⟨fun e=>by have:=hvlt b hb;have:=HPP.out.blk.lt;omega,fun e=>(hF2y b e).elim (hv5 b hb) (fun e=>by have:=(HOy.out b hb).2;omega)⟩⟩
  have hO6:Outs w6 w.heap.size (foot p v' F2) v3 D Zr:=(((HOr.out.beside (G':=fun b=>Fr b∨foot p v' F2 b) (n:=ws.heap.size) (fun b hb=>hb.elim .inl (hG2 b)) (Nat.le_refl _)).keep KSe (fun b hb1 hb2 hb3 e=>hb2 (.inl e))).less (fun b hb=>.inr hb)).kept ke6
  have hvf:∀ b,vf.ownBlock=some b→w.heap.size≤b∧¬ foot p v' F2 b∧v3.ownBlock≠some b:=fun b hb=>⟨by have:=(HOx.out b hb).1;omega,fun e=>e.elim (fun e=>e.elim (fun e=>by have:=(HOx.out b hb).1;have:=HPP.out.blk.lt;omega) (fun e=>by have:=(HOx.out b hb).1;have:=(HOy.out b e).2;omega)) (HOx.out b hb).2.1,fun e=>by have:=(HOx.out b hb).1;have:=HOr.out.sl.lt e;omega⟩
  simp only [Act.put,sA,sS,sZ]
  obtain ⟨v7,w7,hr7,hO7,hk7,ho7⟩:=hO6.snoc (Ot.mk y false) vf (.slice (some ⟨w5b.heap.size,0,none⟩) 1 1) 34 (HFe.out.kept ke6) hvf hone.1 (by omega) (by omega) hP6.foot_lt
  refine ZW v7 w7 rfl (XQ slC (.tmp 74) (.tmp 76) v3 _ rfl (by kernel_rfl) (by kernel_rfl) v7 w7 hr7) ?_
  simp only [Act.put,sA,sS,sZ]
  refine Jx (v7) rfl (JQ _ _ rfl (by kernel_rfl)) ?_
  simp only [Act.put,sA,sS,sZ]
  refine Kx ?_
  have z7:=hk7.size
  have hv1G:∀ b,v3.ownBlock=some b→¬ foot p v' F2 b:=fun b hb=>(hO6.own b hb).2
  have hP7:=hP6.keep hk7 (fun b hb e=>hv1G b e hb)
  have hGn:Grow w F (foot p v' F2):=fun b hb=>(hG2 b hb).elim (HGr.out b) (fun h=>.inr (by omega))
  have hKn:Keep F w w7:=((HKr.out.trans KSe (fun b hb e=>(HGr.out b e).elim id (fun e=>by omega))).kept ke6).trans hk7 (fun b hb e=>by have:=(HOr.out.own b e).1;omega)
  have hlen7:sliceN v7=D.length+1:=by rw [sliceN_sl hO7.sl,hO7.len,List.length_append];rfl
  have hlen1:sliceN v3=D.length:=by rw [sliceN_sl hO6.sl,hO6.len]
  have HP7:=Kj hP7.close
  have HO7:=Kj hO7
  have HGn:=Kj hGn
  have HKn:=Kj hKn
  clear hk7 hv1G hP7 hGn hKn hO7 ho7 hr7 hO6 hP6 hG2 hF2y hvlt hone kN ke6 k5b hvf HO2 HCe HBe HSe HKe HFe HOx HOy HG5 KSe KSy HPP HFF HMr HOr HGr HKr HNo HV HS
  go_wp2
  exact ⟨⟨_,_,_,D++[⟨y,false⟩],HP7,HIn,HNo2,HO7,HC2,HGn,HKn,by simp only [List.length_append,List.length_cons,List.length_nil];rw [HLE.out];have:=HNN.out;omega⟩,by rw [hlen7,hlen1];have:=HNN.out;omega⟩
def Kq.st (q:Kq):Int:=if wi q.x 0 32<11 then 95+wi q.x 0 32 else 0
def Kq.so (q:Kq):Ord:={ q.o with stop:=q.st }
theorem arrive_err {M:Mkt} {o:Ord} (h:(M.arrive o).1.c.err≠0):(M.arrive o).2=M:=by
 unfold Mkt.arrive at h ⊢
 by_cases he:M.err o≠0
 ·rw [if_pos he]
 rw [if_neg he] at h ⊢
 by_cases hw:M.waits o=true
 ·rw [if_pos hw] at h
  exact absurd rfl h
 rw [if_neg hw] at h ⊢
 have hb:M.b.err o.free≠0:=by
  intro e
  apply h
  show (M.b.add o.free).1.err=0
  unfold Bok.add
  rw [if_neg (fun h=>h e)]
 have:(M.b.enter o).2=M.b:=by unfold Bok.enter;rw [yx hb]
 simp only [this]
def Quiet (M:Mkt):Prop:=∀ o ∈ M.w,o.hit M.b.last=false
theorem Quiet.add {M:Mkt} (h:Quiet M) (o:Ord):Quiet (M.add o).2:=by
 unfold Mkt.add
 by_cases he:(M.arrive o).1.c.err≠0
 ·rw [if_pos he,arrive_err he]
  exact h
 rw [if_neg he]
 exact cas_quiet _ _ (Nat.le_refl _)
theorem kstop_any (q:Kq) (w:World):Gives 8 #[q.v] w (.eq q.so.v):=by
 refine XJ ?_
 obtain ⟨x,hx⟩:∃ x,wi q.x 0 32=x:=⟨_,rfl⟩
 have hx0:=wi_in q.x 0 32 (by omega)
 rw [hx] at hx0
 have HX:=Kj hx
 obtain ⟨o,ho⟩:∃ o,q.o=o:=⟨_,rfl⟩
 have hs0:o.stop=0:=by rw [← ho];exact q.right.2.1
 have HO:Hid (q.so={ o with stop:=if x<11 then 95+x else 0 }):=by show _=_;rw [← ho,← hx];rfl
 have HG:Hid (∀ u,Gives 20 #[q.v] u (.eq o.v)):=fun u=>by rw [← ho];exact korder_any q u
 clear hx ho
 go_enter Tryz.func8,Tryz.ntmps8
 go_upto_region 0 with fail
 refine QZ 2 [.fresh w.heap.size 28 (q.cells),.fresh w.heap.size 30 JV.cells] rfl (by kernel_rfl) ?_ ?_
 ·refine nW 1 rfl (fun a u E D hk=>⟨_,_,YX 28 _ (q.cells) rfl (eE E),⟨_,rfl,hk.size,Blk.new u _ _⟩,((Keep.refl _ u).alloc _)⟩) ?_
  refine nW 2 rfl (fun a u E D hk=>⟨_,_,QW 30 JV.cells rfl zO,⟨_,rfl,hk.size,Blk.new u _ _⟩,((Keep.refl _ u).alloc _)⟩) ?_
  exact fz
 intro gv w0 hV k0
 rw [dq 2 [1,2]]
 simp only [Fz7]
 have hv1:(.fresh w.heap.size 28 (q.cells):Kn).p (gv 1) w0:=hV 0 1 (by kernel_rfl)
 generalize gv 1=v1 at hv1 ⊢
 have hv2:(.fresh w.heap.size 30 JV.cells:Kn).p (gv 2) w0:=hV 1 2 (by kernel_rfl)
 generalize gv 2=v2 at hv2 ⊢
 clear hV
 obtain ⟨g1,rfl,hg1,hB1⟩:=hv1
 obtain ⟨g2,rfl,hg2,hB2⟩:=hv2
 refine Kx ?_
 have HQ0:=Kj (JW hB1)
 have HB20:=Kj hB2
 have l1:=hB1.lt
 have l2:=hB2.lt
 have z0:=k0.size
 clear hB1 hB2
 go_upto_region 1 with fail
 refine wEp 2 [q.v,o.v] [5,6] ?_ ?_
 ·refine sE 1 1 g1 0 q.cells Tryz.underlying28 (fun u hk=>JJ HQ0.out hk) (by rw [q.len7];exact szK) ?_
  refine cS 2 20 [q.v] rfl Tryz.func20 rfl (fun a u E D hk=>⟨ll (dD D 0) rfl,HG.out u⟩) ?_
  exact fz
 intro w1 k1
 simp only [F8]
 refine ZW (.pointer (some ⟨w1.heap.size,0,none⟩)) (w1.alloc (.cells JV.cells.toArray 30)) rfl (QW 30 JV.cells rfl zO) ?_
 have hNw2:=Blk.new w1 30 JV.cells
 have kw2:Kept w1 (w1.alloc (.cells JV.cells.toArray 30)):=(Keep.refl _ w1).alloc _
 generalize w1.alloc (.cells JV.cells.toArray 30)=w2 at hNw2 kw2 ⊢
 simp only [Act.put,sA,sS,sZ]
 refine Qj 30 w1.heap.size 30 JV.cells o.cells _ _ rfl rfl (by kernel_rfl) (by kernel_rfl) (hNw2) (by rw [Ord.len9];exact JX) (by rw [Ord.len9,Ord.len9]) (Ord.one1 _) ?_
 intro w3 hCw3 hkw3 hsw3
 simp only [Act.put]
 refine Kx ?_
 obtain ⟨g3,h3⟩:∃ a,w1.heap.size=a:=⟨_,rfl⟩
 rw [h3] at hNw2 hCw3 hkw3 ⊢
 have z1:=k1.size
 have k13:Kept w0 w3:=(k1.trans kw2).trans' hkw3 (by omega)
 have k03:=k0.trans k13
 have z3:=k13.size
 have l3:=hCw3.lt
 have HQ3:=Kj (JJ HQ0.out k13)
 have HB23:=Kj (HB20.out.kept k13)
 have HB33:=Kj hCw3
 clear hNw2 hCw3 hkw3 hsw3 kw2 k1 HQ0 HB20 k13
 go_upto_region 2 with fail
 refine wE 4 [pV g1 6,iV q.x,iV x,iV x] [7,8,9,4] ?_ ?_
 ·refine fE 1 1 28 6 6 0 ?_
  refine lD 2 7 0 Tryz.underlying3 (fun u hk=>JY (JJ HQ3.out hk) 6 _ rfl) ?_
  refine cS 3 21 [.int .i64 q.x,.int .i64 0,.int .i64 32] rfl Tryz.func21 rfl (fun a u E D hk=>⟨ll (dD D 1) (ll rfl (ll rfl rfl)),(by rw [← HX.out];exact xY q.x 0 32 u (by omega) (by omega) (by omega))⟩) ?_
  refine mD 4 9 2 ?_
  exact fz
 intro w4 k4
 simp only [F8]
 have HB24:=Kj (HB23.out.kept k4)
 have HB34:=Kj (HB33.out.kept k4)
 have k04:=k03.trans k4
 have z4:=k4.size
 clear HQ3 HB23 HB33 k4 k03
 by_cases hc:x<11
 ·have HF:Hid (q.so={ o with stop:=95+x }):=by show _=_;rw [HO.out,if_pos hc]
  go_upto_region 3 with fail
  refine wE 2 [iV x,bV true] [10,11] ?_ ?_
  ·refine mE 1 4 ?_
   refine aS 2 rfl (fun a u E D hk=>Wq rfl (dD D 0) rfl) (Ky hc) ?_
   exact fz
  intro w5 k5
  simp only [F8]
  have HB25:=Kj (HB24.out.kept k5)
  have HB35:=Kj (HB34.out.kept k5)
  have k05:=k04.trans k5
  have z5:=k5.size
  clear HB24 HB34 k5 k04 hc
  go_upto_region 4 with fail
  refine wEp 3 [iV x,iV ((95:Int)+(x:Int)),pV g3 8] [12,13,14] ?_ ?_
  ·refine mE 1 4 ?_
   refine sW 2 rfl (fun a u E D hk=>ZJ (p:=(95)) (q:=(x)) ((95:Int)+(x:Int)) rfl rfl (dD D 0) rfl (by omega) (by omega)) ?_
   refine fE 3 3 30 8 8 0 ?_
   exact fz
  intro w6 k6
  simp only [F8]
  refine l_setf g3 8 30 o.l [] (95+x) _ _ rfl rfl (by kernel_rfl) (by kernel_rfl) (HB35.out.kept k6) (by simp [Ord.l]) ?_
  intro w7 hB7 hk7 hs7
  simp only [Act.put]
  refine Kx ?_
  have HB37:Hid (Blk w7 g3 30 ({ o with stop:=95+x }:Ord).cells):=hB7
  have HB27:=Kj ((HB25.out.kept k6).keep hk7 (fun e=>by omega))
  have k07:Kept w w7:=(k05.trans k6).trans' hk7 (by omega)
  have HO7:=Kj (JW HB37.out)
  have z6:=k6.size
  clear HB25 HB35 hB7 hk7 hs7 k6 k05
  go_upto_region 5 with fail
  refine wEp 1 [({ o with stop:=95+x }:Ord).v] [15] ?_ ?_
  ·refine sE 1 3 g3 0 (({ o with stop:=95+x }:Ord).cells) Tryz.underlying30 (fun u hk=>JJ HO7.out hk) (by rw [({ o with stop:=95+x }:Ord).len9];exact JX) ?_
   exact fz
  intro w8 k8
  simp only [F8]
  refine Qj 30 g2 30 JV.cells ({ o with stop:=95+x }:Ord).cells _ _ rfl rfl (by kernel_rfl) (by kernel_rfl) (HB27.out.kept k8) (by rw [Ord.len9];exact JX) (by rw [Ord.len9,Ord.len9]) (Ord.one1 _) ?_
  intro w9 hCw9 hkw9 hsw9
  simp only [Act.put]
  refine Kx ?_
  go_wp2
  refine bodyPost_ret (XZ (p:=2) rfl _ _ g2 _ ({ o with stop:=95+x }:Ord).cells rfl hCw9 Tryz.underlying30 (by rw [Ord.len9];exact JX)) rfl ?_
  rw [HF.out]
  exact ⟨rfl,(k07.trans k8).trans' hkw9 (by omega)⟩
 have HF:Hid (q.so=o):=by show _=_;rw [HO.out,if_neg hc,← hs0]
 go_upto_region 3 with fail
 refine wE 2 [iV x,bV false] [10,11] ?_ ?_
 ·refine mE 1 4 ?_
  refine aS 2 rfl (fun a u E D hk=>Wq rfl (dD D 0) rfl) (Ku hc) ?_
  exact fz
 intro w5 k5
 simp only [F8]
 have HB25:=Kj (HB24.out.kept k5)
 have HO5:=Kj (JW (HB34.out.kept k5))
 have k05:=k04.trans k5
 have z5:=k5.size
 clear HB24 HB34 k5 k04 hc
 go_upto_region 5 with fail
 refine wEp 1 [o.v] [15] ?_ ?_
 ·refine sE 1 3 g3 0 o.cells Tryz.underlying30 (fun u hk=>JJ HO5.out hk) (by rw [o.len9];exact JX) ?_
  exact fz
 intro w8 k8
 simp only [F8]
 refine Qj 30 g2 30 JV.cells o.cells _ _ rfl rfl (by kernel_rfl) (by kernel_rfl) (HB25.out.kept k8) (by rw [Ord.len9];exact JX) (by rw [Ord.len9,Ord.len9]) (Ord.one1 _) ?_
 intro w9 hCw9 hkw9 hsw9
 simp only [Act.put]
 refine Kx ?_
 go_wp2
 refine bodyPost_ret (XZ (p:=2) rfl _ _ g2 _ o.cells rfl hCw9 Tryz.underlying30 (by rw [Ord.len9];exact JX)) rfl ?_
 rw [HF.out]
 exact ⟨rfl,(k05.trans k8).trans' hkw9 (by omega)⟩
section
variable {a:Act} {o:Oper} {u:World}
theorem exec_eqP (x:Operand) (t t':TypeId) (ad:Addr) (hu:Tryz.prog.underlying t=some (.pointer (Tryz.prog.pointee t))) (hop:o.op=.binOp .eql t x (.const (.pointer none)) t') (hx:a.eval x=.pointer (some ad)):(execOp a.eval o).run Tryz.prog u=.ok (.value (.bool false)) u:=by
 have hc:a.eval (.const (.pointer none))=.pointer none:=rfl
 unfold execOp
 simp only [hop,hx,hc,Sem.run_bind]
 rw [show (eqGuard .eql t x (.const (.pointer none)) (.pointer (some ad)) (.pointer none)).run Tryz.prog u=.ok () u by simp [eqGuard]]
 simp only [Result.andThen_ok]
 rw [show (binOp .eql t (.pointer (some ad)) (.pointer none)).run Tryz.prog u=.ok (.bool false) u by simpa using run_eql_pointer_nil (P:=Tryz.prog) (w:=u) t (some ad) hu]
 rfl
theorem exec_neP (x:Operand) (t t':TypeId) (ad:Addr) (hu:Tryz.prog.underlying t=some (.pointer (Tryz.prog.pointee t))) (hop:o.op=.binOp .neq t x (.const (.pointer none)) t') (hx:a.eval x=.pointer (some ad)):(execOp a.eval o).run Tryz.prog u=.ok (.value (.bool true)) u:=by
 have hc:a.eval (.const (.pointer none))=.pointer none:=rfl
 unfold execOp
 simp only [hop,hx,hc,Sem.run_bind]
 rw [show (eqGuard .neq t x (.const (.pointer none)) (.pointer (some ad)) (.pointer none)).run Tryz.prog u=.ok () u by simp [eqGuard]]
 simp only [Result.andThen_ok]
 rw [show (binOp .neq t (.pointer (some ad)) (.pointer none)).run Tryz.prog u=.ok (.bool true) u by simpa using run_neq_pointer_nil (P:=Tryz.prog) (w:=u) t (some ad) hu]
 rfl
end
theorem cas_len:∀ (n:Nat) (M:Mkt),M.w.length≤n→M.cas.1.length≤M.w.length
 | 0,M,hn=>by
  rw [UX (List.getElem?_eq_none (by omega))]
  simp
 | n+1,M,hn=>by
  cases e:M.w[M.trig]? with
  | none=>rw [UX e];simp
  | some o=>
   rw [JJX e]
   have hl:=(List.getElem?_eq_some_iff.1 e).1
   have h2:(M.next o).w.length=M.w.length-1:=by unfold Mkt.next;simp only;rw [List.length_eraseIdx,if_pos hl]
   have:=cas_len n (M.next o) (by omega)
   simp only [List.length_cons]
   omega
theorem quiet_cas {M:Mkt} (h:Quiet M):M.cas=([],M):=by
 refine UX (List.getElem?_eq_none (Nat.le_of_eq (Eq.symm ?_)))
 exact find_no (p:=fun o=>o.hit M.b.last) fun j x hj hx=>h x (List.mem_of_getElem? hx)
theorem quiet_add {M:Mkt} (h:Quiet M) (o:Ord):M.add o=((M.arrive o).1::(M.arrive o).2.cas.1,(M.arrive o).2.cas.2):=by
 unfold Mkt.add
 by_cases he:(M.arrive o).1.c.err≠0
 ·rw [if_pos he]
  have h2:=arrive_err he
  rw [h2,quiet_cas h]
 rw [if_neg he]
theorem find_snd (M:Mkt) (t i:Int):(M.find t i).2=((M.b.find t i).2 || decide ((0:Int)≤WU (Ord.is t i) M.w)):=by
 unfold Mkt.find
 by_cases hb:(M.b.find t i).2=true
 ·rw [if_pos hb,hb];rfl
 rw [if_neg hb]
 have hb':(M.b.find t i).2=false:=by simpa using hb
 rw [hb',Bool.false_or]
 unfold findO
 cases e:M.w[M.w.findIdx (Ord.is t i)]? with
 | none=>rw [xU e];rfl
 | some o=>rw [xq e,Ky (by omega)]
theorem merr_1 {M:Mkt} {o:Ord} (h:o.right=false):M.err o=1:=by unfold Mkt.err;rw [if_pos h]
theorem merr_5 {M:Mkt} {o:Ord} (h:o.right=true) (h2:(M.find o.tr o.id).2=true):M.err o=5:=by unfold Mkt.err;rw [if_neg (by rw [h];simp),if_pos h2]
theorem merr_4 {M:Mkt} {o:Ord} (h:o.right=true) (h2:(M.find o.tr o.id).2=false) (h3:o.may=true∧64≤M.len):M.err o=4:=by unfold Mkt.err;rw [if_neg (by rw [h];simp),if_neg (by rw [h2];simp),if_pos h3]
theorem merr_0 {M:Mkt} {o:Ord} (h:o.right=true) (h2:(M.find o.tr o.id).2=false) (h3:¬ (o.may=true∧64≤M.len)):M.err o=0:=by unfold Mkt.err;rw [if_neg (by rw [h];simp),if_neg (by rw [h2];simp),if_neg h3]
theorem arrive_er {M:Mkt} {o:Ord} {e:Int} (h:M.err o=e) (h0:e≠0):M.arrive o=(⟨⟨o,[],o.qty,false,false,e⟩,false⟩,M):=by unfold Mkt.arrive;rw [if_pos (by rw [h];exact h0),h]
theorem arrive_wt {M:Mkt} {o:Ord} (h:M.err o=0) (hw:M.waits o=true):M.arrive o=(⟨⟨o,[],o.qty,false,false,0⟩,true⟩,⟨M.b,M.w++[o]⟩):=by unfold Mkt.arrive;rw [if_neg (fun x=>x h),if_pos hw]
theorem arrive_en {M:Mkt} {o:Ord} (h:M.err o=0) (hw:M.waits o=false):M.arrive o=(⟨(M.b.enter o).1,false⟩,⟨(M.b.enter o).2,M.w⟩):=by unfold Mkt.arrive;rw [if_neg (fun x=>x h),if_neg (by rw [hw];simp)]
theorem built_otl (o:Ord) (n:Int):Tryz.prog.built 58 [(0,o.v),(2,.int .i64 n)]=some ((Oc.mk o [] n false false 0).cells (.slice none 0 0)).toArray:=by kernel_rfl
theorem Outs.app {w:World} {base base2:Nat} {G:Nat→Prop} {v v2:Value} {L L2:List Ot} {Z Z2:List (Ot × Value)} (h:Outs w base G v L Z) (h2:Outs w base2 G v2 L2 Z2) (ty:TypeId) (hb:base≤base2) (hd:∀ b,v.ownBlock=some b→b<base2) (hn:L.length+L2.length≤1000000) (hbw:base≤w.heap.size) (hG:∀ b,G b→b<w.heap.size) :
  ∃ v' w',(Builtin.append_ #[34,34] ty #[v,v2]).run Tryz.prog w=.ok v' w'∧Outs w' base G v' (L++L2) (Z++Z2)∧Keep (fun b=>v.ownBlock=some b) w w'∧∀ b,v'.ownBlock=some b→v.ownBlock=some b∨w.heap.size≤b:=by
 have hl:=h.len
 have hl2:=h2.len
 have hone:∀ u ∈ outc Z2,u.oneCell'=true:=fun u hu=>by
  obtain ⟨z,hz,hu⟩:=List.mem_flatMap.1 hu
  exact Ot.one _ _ (Yq (h2.fl z hz)) u hu
 obtain ⟨v',w',hr,hs,hk,ho⟩:=Qy slC ty w v v2 Z.length Z2.length (outc Z) (outc Z2) h.sl h2.sl hone (by unfold maxLen;omega) (by omega)
 have key:∀ b,b<w.heap.size→v.ownBlock≠some b→v'.ownBlock≠some b:=fun b h1 h2 h3=>(ho b h3).elim h2 (fun h4=>by omega)
 have hne:∀ z ∈ Z2,∀ b,z.2.ownBlock=some b→v.ownBlock≠some b:=fun z hz b hb' e=>by have:=(h2.flo z hz b hb').1;have:=hd b e;omega
 refine ⟨v',w',hr,⟨by rw [List.map_append,h.eq,h2.eq],by rw [List.length_append,show outc (Z++Z2)=outc Z++outc Z2 by simp [outc]];exact hs,fun b hb'=>?_,fun z hz=>?_,fun z hz b hb'=>?_⟩,hk,ho⟩
 ·rcases ho b hb' with e | e
  ·exact h.own b e
  exact ⟨by omega,fun e'=>by have:=hG b e';omega⟩
 ·rcases List.mem_append.1 hz with hz | hz
  ·exact (h.fl z hz).keep hk (fun b hb' e=>(h.flo z hz b hb').2.2 e)
  exact (h2.fl z hz).keep hk (fun b hb' e=>hne z hz b hb' e)
 rcases List.mem_append.1 hz with hz | hz
 ·exact ⟨(h.flo z hz b hb').1,(h.flo z hz b hb').2.1,key b ((h.fl z hz).lt hb') (h.flo z hz b hb').2.2⟩
 exact ⟨Kv hb (h2.flo z hz b hb').1,(h2.flo z hz b hb').2.1,key b ((h2.fl z hz).lt hb') (hne z hz b hb')⟩
def RMAddIn (w:World) (F:Nat→Prop) (p:Nat) (x:List Ot × Mkt) (r:Ending) (w':World):Prop:=
 ∃ F' v' Z',r=.returned v'∧RMk w' F' p x.2∧Outs w' w.heap.size F' v' x.1 Z'∧Grow w F F'∧Keep F w w'
theorem rmadd_any (w:World) (F:Nat→Prop) (p:Nat) (Mm:Mkt) (o:Ord) (h:RMk w F p Mm) (hI:InvK Mm) (hq:Quiet Mm) (hno:Mm.b.no≤900000000000):Calls Tryz.prog 9 #[.pointer (some ⟨p,0,none⟩),o.v] w (RMAddIn w F p (Mm.add o)):=by
 rw [quiet_add hq]
 have hlen:Mm.w.length≤100000:=by have:=hI.few;omega
 have HM:=Kj h
 obtain ⟨hFl,q,v,Fb,hP,hfF⟩:=h
 have HPP:=Kj hP
 have HI:=Kj hI
 have HFF:=Kj hfF
 have hpl:=hP.blk.lt
 obtain ⟨x,M2,hx⟩:∃ x M2,Mm.arrive o=(x,M2):=⟨_,_,rfl⟩
 have HX:=Kj hx
 have HIA:Hid (InvK M2):=by have:=hI.arrive o;rw [hx] at this;exact this
 have HNA:Hid (M2.b.no≤900001048576):=by have:=(arrive_no hI o).2;rw [hx] at this;show _≤_;simp only at this;omega
 rw [hx]
 clear hP hI hx hq
 go_enter Tryz.func9,Tryz.ntmps9
 go_upto_region 0 with fail
 refine QZ 2 [.fresh w.heap.size 30 (o.cells),.eq (.slice none 0 0)] rfl (by kernel_rfl) ?_ ?_
 ·refine nW 1 rfl (fun a u E D hk=>⟨_,_,YX 30 _ (o.cells) rfl (eE E),⟨_,rfl,hk.size,Blk.new u _ _⟩,((Keep.refl _ u).alloc _)⟩) ?_
  refine sW 2 rfl (fun a u E D hk=>JQ _ _ rfl rfl) ?_
  exact fz
 intro gv w0 hV k0
 rw [dq 2 [3,4]]
 simp only [Fz7]
 have hv3:(.fresh w.heap.size 30 (o.cells):Kn).p (gv 3) w0:=hV 0 3 (by kernel_rfl)
 generalize gv 3=v3 at hv3 ⊢
 rw [gQ hV 1 4 (.slice none 0 0)]
 clear hV
 obtain ⟨b3,rfl,hb3,hB3⟩:=hv3
 refine Kx ?_
 have HO0:=Kj (JW hB3)
 have l3:=hB3.lt
 have z0:=k0.size
 clear hB3
 go_upto_region 1 with fail
 refine QZ 5 [.eq (o.v),pE b3 6,iE o.qty,.eq ((Oc.mk o [] o.qty false false 0).v (.slice none 0 0)),.fresh w0.heap.size 58 (Xq.cells (.slice none 0 0))] rfl (by kernel_rfl) ?_ ?_
 ·refine sE 1 3 b3 0 o.cells Tryz.underlying30 (fun u hk=>JJ HO0.out hk) (by rw [o.len9];exact JX) ?_
  refine fE 2 3 30 6 6 0 ?_
  refine lD 3 11 1 Tryz.underlying3 (fun u hk=>JY (JJ HO0.out hk) 6 _ rfl) ?_
  refine sW 4 rfl (fun a u E D hk=>YJ _ [(0,.tmp 10),(2,.tmp 12)] ((Oc.mk o [] o.qty false false 0).cells (.slice none 0 0)) rfl (by simp only [List.map_cons,List.map_nil];rw [show a.eval (.tmp 10)=o.v from (dD D 0),show a.eval (.tmp 12)=.int .i64 o.qty from (dD D 2)];exact built_otl o o.qty)) ?_
  refine nW 5 rfl (fun a u E D hk=>⟨_,_,QW 58 (Xq.cells (.slice none 0 0)) rfl zC,⟨_,rfl,hk.size,Blk.new u _ _⟩,((Keep.refl _ u).alloc _)⟩) ?_
  exact fz
 intro gv wb hV kb
 rw [dq 5 [10,11,12,13,5]]
 simp only [Fz7]
 have hv5:(.fresh w0.heap.size 58 (Xq.cells (.slice none 0 0)):Kn).p (gv 5) wb:=hV 4 5 (by kernel_rfl)
 generalize gv 5=v5 at hv5 ⊢
 rw [gQ hV 3 13 ((Oc.mk o [] o.qty false false 0).v (.slice none 0 0))]
 clear hV
 obtain ⟨b5,rfl,hb5,hB5⟩:=hv5
 refine Qj 58 b5 58 (Xq.cells (.slice none 0 0)) ((Oc.mk o [] o.qty false false 0).cells (.slice none 0 0)) _ _ rfl rfl (by kernel_rfl) (by kernel_rfl) hB5 (by rw [Oc.len15];exact szC) (by rw [Oc.len15,Oc.len15]) (Oc.one _ _ rfl) ?_
 intro w1 hB1 hk1 hs1
 simp only [Act.put]
 refine Kx ?_
 have k01:Kept w0 w1:=kb.trans' hk1 (by omega)
 have k1:Kept w w1:=k0.trans k01
 have HB51:=Kj hB1
 have HO1:=Kj (JJ HO0.out k01)
 have l5:=hB1.lt
 have z01:=k01.size
 have h5F:¬ F b5:=fun h=>by have:=hFl b5 h;omega
 have h3F:¬ F b3:=fun h=>by have:=hFl b3 h;omega
 have hb5w:w.heap.size≤b5:=by omega
 have h53:b3<b5:=by omega
 clear hB5 hB1 hk1 hs1 kb HO0 k0 k01
 obtain ⟨fo,fb,hfd⟩:∃ fo fb,Mm.b.find o.tr o.id=(fo,fb):=⟨_,_,rfl⟩
 have HFD:=Kj hfd
 have HQ1:Hid (w1.cell? ⟨p,0,none⟩=some (.pointer (some ⟨q,0,none⟩))):=(HPP.out.blk.kept k1).cell 0
 clear hfd
 go_upto_region 2 with fail
 go_cut [15,16,17,18,19,20,21,22,23,14,24,25,6,7] (fun _ _ _ _ _ _ _ _ _ _ _ _ ra rb wx=>∃ ba,ra=.pointer (some ⟨ba,0,none⟩)∧rb=.bool fb∧w1.heap.size≤ba∧Kept w1 wx)
 case first=>
  refine wp_tree (fun u=>Kept w1 u) (.val 0 (.val 1 (.val 2 (.val 3 (.val 4 (.val 5 (.val 6 (.val 7 (.two 8 12 (.val 9 (.val 10 (.val 11 (.one 12 (.one 13 (.val 14 .done)))))) (.one 8 (.val 9 (.val 10 (.val 11 (.one 13 (.val 14 .done))))))))))))))) rfl (by kernel_rfl) (Keep.drew (Keep.refl _ w1)) ?_
  refine WZ (o:=⟨some 15,_,_,_,_,_⟩) (.pointer (some ⟨p,0,none⟩)) rfl rfl (fun u hu=>Jj (.tmp 0) (.pointer (some ⟨p,0,none⟩)) rfl (by kernel_rfl)) ?_
  simp only [Act.put,sA,sS,sZ]
  refine WZ (o:=⟨some 16,_,_,_,_,_⟩) (.pointer (some ⟨p,0,none⟩)) rfl rfl (fun u hu=>YY (.tmp 15) ⟨p,0,none⟩ rfl (by kernel_rfl)) ?_
  simp only [Act.put,sA,sS,sZ]
  refine WZ (o:=⟨some 17,_,_,_,_,_⟩) (.pointer (some ⟨p,0,none⟩)) rfl rfl (fun u hu=>QV 53 0 0 (.tmp 16) (p) (0) (0) rfl (by kernel_rfl) (by kernel_rfl) rfl) ?_
  simp only [Act.put,sA,sS,sZ]
  refine WZ (o:=⟨some 18,_,_,_,_,_⟩) (.pointer (some ⟨q,0,none⟩)) rfl rfl (fun u hu=>XY 47 _ Tryz.underlying47 (.tmp 17) ⟨p,0,none⟩ (.pointer (some ⟨q,0,none⟩)) rfl (by kernel_rfl) (Kept.cell hu HQ1.out)) ?_
  simp only [Act.put,sA,sS,sZ]
  refine WZ (o:=⟨some 19,_,_,_,_,_⟩) (.pointer (some ⟨b3,0,none⟩)) rfl rfl (fun u hu=>QV 30 0 0 (.tmp 3) (b3) (0) (0) rfl (by kernel_rfl) (by kernel_rfl) rfl) ?_
  simp only [Act.put,sA,sS,sZ]
  refine WZ (o:=⟨some 20,_,_,_,_,_⟩) (.int .i64 (o.tr)) rfl rfl (fun u hu=>QX 3 Tryz.underlying3 (.tmp 19) ⟨b3,0,none⟩ (.int .i64 (o.tr)) rfl (by kernel_rfl) (JY (JJ HO1.out hu) 0 _ rfl)) ?_
  simp only [Act.put,sA,sS,sZ]
  refine WZ (o:=⟨some 21,_,_,_,_,_⟩) (.pointer (some ⟨b3,1,none⟩)) rfl rfl (fun u hu=>QV 30 1 1 (.tmp 3) (b3) (0) (1) rfl (by kernel_rfl) (by kernel_rfl) rfl) ?_
  simp only [Act.put,sA,sS,sZ]
  refine WZ (o:=⟨some 22,_,_,_,_,_⟩) (.int .i64 (o.id)) rfl rfl (fun u hu=>QX 3 Tryz.underlying3 (.tmp 21) ⟨b3,1,none⟩ (.int .i64 (o.id)) rfl (by kernel_rfl) (JY (JJ HO1.out hu) 1 _ rfl)) ?_
  simp only [Act.put,sA,sS,sZ]
  refine ⟨?_,?_⟩
  ·skip
   refine t_call (o:=⟨some 23,_,_,_,_,_⟩) 22 #[.pointer (some ⟨q,0,none⟩),.int .i64 o.tr,.int .i64 o.id] rfl rfl (Jq 22 _ [.tmp 18,.tmp 20,.tmp 22] _ _ Tryz.func22 (by kernel_rfl) (by kernel_rfl) rfl (by kernel_rfl)) ?_
   have hFd:=rbfind_any w1.drew Fb q Mm.b o.tr o.id (HPP.out.bk.kept (k1.trans (Keep.drew (Keep.refl _ w1)))) HI.out.inv
   rw [HFD.out] at hFd
   refine hFd.mono ?_
   rintro r wq ⟨_,rfl,rfl,hkq⟩
   have hSq:Kept w1 wq:=Kept.trans (Keep.drew (Keep.refl _ w1)) hkq
   refine ⟨.tuple #[fo.v,.bool fb],rfl,hSq,?_⟩
   simp only [Act.put,sA,sS,sZ]
   refine WZ (o:=⟨some 14,_,_,_,_,_⟩) (.tuple #[fo.v,.bool fb]) rfl rfl (fun u hu=>Jj (.tmp 23) (.tuple #[fo.v,.bool fb]) rfl (by kernel_rfl)) ?_
   simp only [Act.put,sA,sS,sZ]
   refine WZ (o:=⟨some 24,_,_,_,_,_⟩) (fo.v) rfl rfl (fun u hu=>QU (.tmp 14) [fo.v,.bool fb] 0 (fo.v) rfl (by kernel_rfl) rfl) ?_
   simp only [Act.put,sA,sS,sZ]
   refine WZ (o:=⟨some 25,_,_,_,_,_⟩) (.bool fb) rfl rfl (fun u hu=>QU (.tmp 14) [fo.v,.bool fb] 1 (.bool fb) rfl (by kernel_rfl) rfl) ?_
   simp only [Act.put,sA,sS,sZ]
   refine t_new (o:=⟨some 6,_,_,_,_,_⟩) (.pointer (some ⟨wq.heap.size,0,none⟩)) (wq.alloc (.cells JV.cells.toArray 30)) rfl rfl (QW 30 JV.cells rfl zO) ?_ ?_
   ·exact (hSq).alloc _
   have hNwz:=Blk.new wq 30 JV.cells
   have kwz:Kept wq (wq.alloc (.cells JV.cells.toArray 30)):=(Keep.refl _ wq).alloc _
   have zwz:wq.heap.size<(wq.alloc (.cells JV.cells.toArray 30)).heap.size:=hNwz.lt
   generalize wq.alloc (.cells JV.cells.toArray 30)=wz at hNwz kwz zwz ⊢
   simp only [Act.put,sA,sS,sZ]
   refine t_setS (o:=⟨none,_,_,_,_,_⟩) 30 wq.heap.size 30 JV.cells fo.cells (.tmp 6) (.tmp 24) rfl rfl rfl (by kernel_rfl) (by kernel_rfl) (hNwz) (by rw [Ord.len9];exact JX) (by rw [Ord.len9,Ord.len9]) (Ord.one1 _) ?_
   intro ws hCws hkws
   refine ⟨hSq.trans (kwz.trans' hkws (by omega)),?_⟩
   simp only [Act.put]
   refine WZ (o:=⟨some 7,_,_,_,_,_⟩) (.bool fb) rfl rfl (fun u hu=>JQ (.tmp 25) (.bool fb) rfl (by kernel_rfl)) ?_
   simp only [Act.put,sA,sS,sZ]
   refine t_done ?_
   refine Kx ?_
   go_wp2
   go_meet
   case rel=>exact ⟨_,rfl,rfl,hSq.size,hSq.trans (kwz.trans' hkws (by omega))⟩
  skip
  have hS0:Kept w1 w1.drew:=Keep.drew (Keep.refl _ w1)
  refine t_new (o:=⟨some 6,_,_,_,_,_⟩) (.pointer (some ⟨w1.drew.heap.size,0,none⟩)) (w1.drew.alloc (.cells JV.cells.toArray 30)) rfl rfl (QW 30 JV.cells rfl zO) ?_ ?_
  ·exact (hS0).alloc _
  have hNwz:=Blk.new w1.drew 30 JV.cells
  have kwz:Kept w1.drew (w1.drew.alloc (.cells JV.cells.toArray 30)):=(Keep.refl _ w1.drew).alloc _
  have zwz:w1.drew.heap.size<(w1.drew.alloc (.cells JV.cells.toArray 30)).heap.size:=hNwz.lt
  generalize w1.drew.alloc (.cells JV.cells.toArray 30)=wz at hNwz kwz zwz ⊢
  simp only [Act.put,sA,sS,sZ]
  have hSz:Kept w1 wz:=Kept.trans hS0 kwz
  refine t_call (o:=⟨some 23,_,_,_,_,_⟩) 22 #[.pointer (some ⟨q,0,none⟩),.int .i64 o.tr,.int .i64 o.id] rfl rfl (Jq 22 _ [.tmp 18,.tmp 20,.tmp 22] _ _ Tryz.func22 (by kernel_rfl) (by kernel_rfl) rfl (by kernel_rfl)) ?_
  have hFd:=rbfind_any wz Fb q Mm.b o.tr o.id (HPP.out.bk.kept (k1.trans hSz)) HI.out.inv
  rw [HFD.out] at hFd
  refine hFd.mono ?_
  rintro r wq ⟨_,rfl,rfl,hkq⟩
  have hSq:Kept w1 wq:=Kept.trans hSz hkq
  refine ⟨.tuple #[fo.v,.bool fb],rfl,hSq,?_⟩
  simp only [Act.put,sA,sS,sZ]
  refine WZ (o:=⟨some 14,_,_,_,_,_⟩) (.tuple #[fo.v,.bool fb]) rfl rfl (fun u hu=>Jj (.tmp 23) (.tuple #[fo.v,.bool fb]) rfl (by kernel_rfl)) ?_
  simp only [Act.put,sA,sS,sZ]
  refine WZ (o:=⟨some 24,_,_,_,_,_⟩) (fo.v) rfl rfl (fun u hu=>QU (.tmp 14) [fo.v,.bool fb] 0 (fo.v) rfl (by kernel_rfl) rfl) ?_
  simp only [Act.put,sA,sS,sZ]
  refine WZ (o:=⟨some 25,_,_,_,_,_⟩) (.bool fb) rfl rfl (fun u hu=>QU (.tmp 14) [fo.v,.bool fb] 1 (.bool fb) rfl (by kernel_rfl) rfl) ?_
  simp only [Act.put,sA,sS,sZ]
  refine t_setS (o:=⟨none,_,_,_,_,_⟩) 30 w1.drew.heap.size 30 JV.cells fo.cells (.tmp 6) (.tmp 24) rfl rfl rfl (by kernel_rfl) (by kernel_rfl) (hNwz.kept hkq) (by rw [Ord.len9];exact JX) (by rw [Ord.len9,Ord.len9]) (Ord.one1 _) ?_
  intro ws hCws hkws
  refine ⟨hSq.trans' hkws (by have:w1.drew.heap.size=w1.heap.size:=rfl;omega),?_⟩
  simp only [Act.put]
  refine WZ (o:=⟨some 7,_,_,_,_,_⟩) (.bool fb) rfl rfl (fun u hu=>JQ (.tmp 25) (.bool fb) rfl (by kernel_rfl)) ?_
  simp only [Act.put,sA,sS,sZ]
  refine t_done ?_
  refine Kx ?_
  go_wp2
  go_meet
  case rel=>exact ⟨_,rfl,rfl,Nat.le_refl _,hSq.trans' hkws (by have:w1.drew.heap.size=w1.heap.size:=rfl;omega)⟩
 obtain ⟨w2,hw2⟩:∃ y,y=wc:=⟨_,rfl⟩
 subst hw2
 obtain ⟨b6,rfl,rfl,hb6,k12⟩:=hcut
 have k2:Kept w w2:=k1.trans k12
 have HB52:=Kj (HB51.out.kept k12)
 have HO2:=Kj (JJ HO1.out k12)
 have z2:=k12.size
 clear HQ1 HO1 HB51 k1 k12
 obtain ⟨e0,he0⟩:∃ e0,o.err=e0:=⟨_,rfl⟩
 have HE0:=Kj he0
 obtain ⟨rb,hrb⟩:∃ rb,decide (e0≠(0:Int))=rb:=⟨_,rfl⟩
 have HRB:=Kj hrb
 have HRT:Hid (o.right=!rb):=by
  show _=_
  rw [← hrb,← he0]
  unfold Ord.err
  cases o.right <;> rfl
 clear he0 hrb
 go_upto_block 0 with fail
 go_cut [36,41,53,73] (fun _ _ _ _ wx=>∃ F' vf,Blk wx b5 58 (x.cells vf)∧RMk wx F' p M2∧¬ F' b5∧Sl wx 77 21 vf x.c.f.length (fls x.c.f)∧(∀ b,vf.ownBlock=some b→w.heap.size≤b∧¬ F' b∧b≠b5)∧Grow w F F'∧Keep F w wx)
 case first=>
  go_upto_region 7 with fail
  refine wE 4 [o.v,iV e0,bV rb,bV rb] [37,38,39,36] ?_ ?_
  ·refine sE 1 3 b3 0 o.cells Tryz.underlying30 (fun u hk=>JJ HO2.out hk) (by rw [o.len9];exact JX) ?_
   refine cS 2 23 [o.v] rfl Tryz.func23 rfl (fun a u E D hk=>⟨ll (dD D 0) rfl,(by have h:=refRight_any o u;rw [HE0.out] at h;exact h)⟩) ?_
   refine aS 3 rfl (fun a u E D hk=>YZ rfl (dD D 1) rfl) HRB.out ?_
   refine mD 4 39 2 ?_
   exact fz
  intro w3 k23
  simp only [F8]
  have k3:=k2.trans k23
  have HB53:=Kj (HB52.out.kept k23)
  have HO3:=Kj (JJ HO2.out k23)
  have z3:=k23.size
  clear HB52 HO2 k2 k23
  cases rb with
  | true=>
   have HERR:Hid (Mm.err o=1):=merr_1 HRT.out
   have hxe:=arrive_er HERR.out (by decide)
   rw [HX.out] at hxe
   injection hxe with hx1 hx2
   have HX1:=Kj hx1
   have HX2:=Kj hx2
   clear hx1 hx2
   go_upto_region 8 with fail
   refine wEp 1 [pV b5 14] [40] ?_ ?_
   ·refine fE 1 5 58 6 14 0 ?_
    exact fz
   intro we ke
   simp only [F8]
   refine Zz 56 b5 14 58 _ (.int .i64 1) _ (.const (.int .i64 1)) rfl rfl (by kernel_rfl) (by kernel_rfl) rfl rfl rfl (HB53.out.kept ke) (by rw [Oc.len15];omega) ?_
   intro wf hF hkf hsf
   simp only [Act.put]
   refine Kx ?_
   rw [Oc.set_err] at hF
   have kk:Kept w wf:=(k3.trans ke).trans' hkf (by omega)
   have HFF5:=Kj hF
   clear hF hkf hsf ke
   go_wp2
   go_meet
   case rel=>exact ⟨F,.slice none 0 0,by rw [HX1.out];exact HFF5.out,by rw [HX2.out];exact HM.out.kept kk,h5F,by rw [HX1.out];exact Sl.nil _ _ _,fun b hb=>by simp [Value.ownBlock] at hb,Grow.refl _ _,Keep.mono (T:=F) kk (fun _ _ h=>h.elim)⟩
  | false=>
   have hr:o.right=true:=HRT.out
   have HRR:=Kj hr
   obtain ⟨j,hj⟩:∃ j,WU (Ord.is o.tr o.id) Mm.w=j:=⟨_,rfl⟩
   have HJ:=Kj hj
   obtain ⟨th,hth⟩:∃ th,(fb || decide ((0:Int)≤j))=th:=⟨_,rfl⟩
   have HTH:=Kj hth
   have HFT:Hid ((Mm.find o.tr o.id).2=th):=by show _=_;rw [find_snd,HFD.out,hj];exact hth
   clear hj hth hr
   go_upto_region 9 with fail
   refine wT 11 [bE fb,bE fb,.cond (!fb) (pE p 0),.cond (!fb) (pE b3 0),.cond (!fb) (iE o.tr),.cond (!fb) (pE b3 1),.cond (!fb) (iE o.id),.cond (!fb) (iE j),.cond (!fb) (bE (decide ((0:Int)≤(j:Int)))),bE th,bE th] [42,43,44,45,46,47,48,49,50,51,41] ?_ ?_
   ·refine mE 1 7 ?_
    refine mD 2 42 0 ?_
    refine uC 3 1 rfl (fun a u E D hk hb=>Jj _ _ rfl (eE E)) ?_
    refine uC 4 1 rfl (fun a u E D hk hb=>QV 30 0 0 _ (b3) (0) (0) rfl (eE E) (by kernel_rfl) rfl) ?_
    refine uC 5 1 rfl (fun a u E D hk hb=>QX _ Tryz.underlying3 _ _ _ rfl ((D 3 45 (by kernel_rfl)).1 hb) (JY (JJ HO3.out hk) 0 _ rfl)) ?_
    refine uC 6 1 rfl (fun a u E D hk hb=>QV 30 1 1 _ (b3) (0) (1) rfl (eE E) (by kernel_rfl) rfl) ?_
    refine uC 7 1 rfl (fun a u E D hk hb=>QX _ Tryz.underlying3 _ _ _ rfl ((D 5 47 (by kernel_rfl)).1 hb) (JY (JJ HO3.out hk) 1 _ rfl)) ?_
    refine QY 8 rfl (fun a u hE hD hk=>zj _ rfl rfl rfl (dD hD 1) (fun hb=>VJ 24 #[.pointer (some ⟨p,0,none⟩),.int .i64 o.tr,.int .i64 o.id] rfl (Vq rfl rfl (dD hD 1) (jq hb)) (Jq 24 _ [.tmp 44,.tmp 46,.tmp 48] _ [.pointer (some ⟨p,0,none⟩),.int .i64 o.tr,.int .i64 o.id] Tryz.func24 (by kernel_rfl) (by kernel_rfl) rfl (show [a.eval (.tmp 44),a.eval (.tmp 46),a.eval (.tmp 48)]=[.pointer (some ⟨p,0,none⟩),.int .i64 o.tr,.int .i64 o.id] from (by rw [show a.eval (.tmp 44)=.pointer (some ⟨p,0,none⟩) from ((hD 2 44 (by kernel_rfl)).1 hb),show a.eval (.tmp 46)=.int .i64 o.tr from ((hD 4 46 (by kernel_rfl)).1 hb),show a.eval (.tmp 48)=.int .i64 o.id from ((hD 6 48 (by kernel_rfl)).1 hb)] <;> rfl)) u) ((by rw [← HJ.out];exact rwaits_any u p q v Mm.w o.tr o.id (HPP.out.blk.kept (k3.trans hk)) (HPP.out.sl.kept (k3.trans hk)) hlen)))) ?_
    refine uC 9 1 rfl (fun a u E D hk hb=>WV rfl ((D 7 49 (by kernel_rfl)).1 hb) rfl) ?_
    refine aS 10 rfl (fun a u E D hk=>VQ _ _ _ (fb) ((decide ((0:Int)≤(j:Int)))) rfl (dD D 1) rfl (fun hb2=>((D 8 50 (by kernel_rfl)).1 hb2))) HTH.out ?_
    refine mD 11 51 9 ?_
    exact fz
   intro gv w4 hV k34
   simp only [Fz7]
   rw [gQ hV 10 41 (.bool th)]
   clear hV
   have k4:=k3.trans k34
   have HB54:=Kj (HB53.out.kept k34)
   have HO4:=Kj (JJ HO3.out k34)
   have z4:=k34.size
   clear HB53 HO3 k3 k34 HJ HTH
   cases th with
   | true=>
    have HERR:Hid (Mm.err o=5):=merr_5 HRR.out HFT.out
    have hxe:=arrive_er HERR.out (by decide)
    rw [HX.out] at hxe
    injection hxe with hx1 hx2
    have HX1:=Kj hx1
    have HX2:=Kj hx2
    clear hx1 hx2
    go_upto_region 10 with fail
    refine wEp 1 [pV b5 14] [52] ?_ ?_
    ·refine fE 1 5 58 6 14 0 ?_
     exact fz
    intro we ke
    simp only [F8]
    refine Zz 56 b5 14 58 _ (.int .i64 5) _ (.const (.int .i64 5)) rfl rfl (by kernel_rfl) (by kernel_rfl) rfl rfl rfl (HB54.out.kept ke) (by rw [Oc.len15];omega) ?_
    intro wf hF hkf hsf
    simp only [Act.put]
    refine Kx ?_
    rw [Oc.set_err] at hF
    have kk:Kept w wf:=(k4.trans ke).trans' hkf (by omega)
    have HFF5:=Kj hF
    clear hF hkf hsf ke
    go_wp2
    go_meet
    case rel=>exact ⟨F,.slice none 0 0,by rw [HX1.out];exact HFF5.out,by rw [HX2.out];exact HM.out.kept kk,h5F,by rw [HX1.out];exact Sl.nil _ _ _,fun b hb=>by simp [Value.ownBlock] at hb,Grow.refl _ _,Keep.mono (T:=F) kk (fun _ _ h=>h.elim)⟩
   | false=>
    obtain ⟨fu,hfu⟩:∃ fu,(((decide ((0:Int)<o.stop) || decide (o.k=(1:Int))) || decide (o.k=(5:Int))) && decide ((64:Int)≤(Mm.len:Int)))=fu:=⟨_,rfl⟩
    have HFU:=Kj hfu
    have HFM:Hid ((o.may && decide ((64:Int)≤(Mm.len:Int)))=fu):=hfu
    clear hfu
    go_upto_region 11 with fail
    refine wT 19 [pE b3 8,iE o.stop,bE (decide ((0:Int)<(o.stop:Int))),bE (decide ((0:Int)<(o.stop:Int))),.cond (!(decide ((0:Int)<(o.stop:Int)))) (pE b3 4),.cond (!(decide ((0:Int)<(o.stop:Int)))) (iE o.k),.cond (!(decide ((0:Int)<(o.stop:Int)))) (bE (decide ((o.k:Int)=(1:Int)))),bE ((decide ((0:Int)<(o.stop:Int))) || (decide ((o.k:Int)=(1:Int)))),bE ((decide ((0:Int)<(o.stop:Int))) || (decide ((o.k:Int)=(1:Int)))),.cond (!((decide ((0:Int)<(o.stop:Int))) || (decide ((o.k:Int)=(1:Int))))) (pE b3 4),.cond (!((decide ((0:Int)<(o.stop:Int))) || (decide ((o.k:Int)=(1:Int))))) (iE o.k),.cond (!((decide ((0:Int)<(o.stop:Int))) || (decide ((o.k:Int)=(1:Int))))) (bE (decide ((o.k:Int)=(5:Int)))),bE (((decide ((0:Int)<(o.stop:Int))) || (decide ((o.k:Int)=(1:Int)))) || (decide ((o.k:Int)=(5:Int)))),bE (((decide ((0:Int)<(o.stop:Int))) || (decide ((o.k:Int)=(1:Int)))) || (decide ((o.k:Int)=(5:Int)))),.cond (((decide ((0:Int)<(o.stop:Int))) || (decide ((o.k:Int)=(1:Int)))) || (decide ((o.k:Int)=(5:Int)))) (pE p 0),.cond (((decide ((0:Int)<(o.stop:Int))) || (decide ((o.k:Int)=(1:Int)))) || (decide ((o.k:Int)=(5:Int)))) (iE (Mm.len:Int)),.cond (((decide ((0:Int)<(o.stop:Int))) || (decide ((o.k:Int)=(1:Int)))) || (decide ((o.k:Int)=(5:Int)))) (bE (decide ((64:Int)≤((Mm.len:Int):Int)))),bE fu,bE fu] [54,55,56,57,58,59,60,61,62,63,64,65,66,67,68,69,70,71,53] ?_ ?_
    ·refine fE 1 3 30 8 8 0 ?_
     refine lD 2 54 0 Tryz.underlying3 (fun u hk=>JY (JJ HO4.out hk) 8 _ rfl) ?_
     refine sW 3 rfl (fun a u E D hk=>XX rfl (dD D 1) rfl) ?_
     refine mD 4 56 2 ?_
     refine uC 5 3 rfl (fun a u E D hk hb=>QV 30 4 4 _ (b3) (0) (4) rfl (eE E) (by kernel_rfl) rfl) ?_
     refine uC 6 3 rfl (fun a u E D hk hb=>QX _ Tryz.underlying3 _ _ _ rfl ((D 4 58 (by kernel_rfl)).1 hb) (JY (JJ HO4.out hk) 4 _ rfl)) ?_
     refine uC 7 3 rfl (fun a u E D hk hb=>JU rfl ((D 5 59 (by kernel_rfl)).1 hb) rfl) ?_
     refine sW 8 rfl (fun a u E D hk=>VQ _ _ _ ((decide ((0:Int)<(o.stop:Int)))) ((decide ((o.k:Int)=(1:Int)))) rfl (dD D 3) rfl (fun hb2=>((D 6 60 (by kernel_rfl)).1 hb2))) ?_
     refine mD 9 61 7 ?_
     refine uC 10 8 rfl (fun a u E D hk hb=>QV 30 4 4 _ (b3) (0) (4) rfl (eE E) (by kernel_rfl) rfl) ?_
     refine uC 11 8 rfl (fun a u E D hk hb=>QX _ Tryz.underlying3 _ _ _ rfl ((D 9 63 (by kernel_rfl)).1 hb) (JY (JJ HO4.out hk) 4 _ rfl)) ?_
     refine uC 12 8 rfl (fun a u E D hk hb=>JU rfl ((D 10 64 (by kernel_rfl)).1 hb) rfl) ?_
     refine sW 13 rfl (fun a u E D hk=>VQ _ _ _ (((decide ((0:Int)<(o.stop:Int))) || (decide ((o.k:Int)=(1:Int))))) ((decide ((o.k:Int)=(5:Int)))) rfl (dD D 8) rfl (fun hb2=>((D 11 65 (by kernel_rfl)).1 hb2))) ?_
     refine mD 14 66 12 ?_
     refine iC 15 13 rfl (fun a u E D hk hb=>Jj _ _ rfl (eE E)) ?_
     refine QY 16 rfl (fun a u hE hD hk=>f_if _ rfl rfl rfl (dD hD 13) (fun hb=>VJ 25 #[.pointer (some ⟨p,0,none⟩)] rfl (Vq rfl rfl (dD hD 13) (WJ hb)) (Jq 25 _ [.tmp 68] _ [.pointer (some ⟨p,0,none⟩)] Tryz.func25 (by kernel_rfl) (by kernel_rfl) rfl (show [a.eval (.tmp 68)]=[.pointer (some ⟨p,0,none⟩)] from (by rw [show a.eval (.tmp 68)=.pointer (some ⟨p,0,none⟩) from ((hD 14 68 (by kernel_rfl)).1 hb)] <;> rfl)) u) (rmlen_any u F p Mm (HM.out.kept (k4.trans hk)) HI.out.inv hlen))) ?_
     refine iC 17 13 rfl (fun a u E D hk hb=>WV rfl ((D 15 69 (by kernel_rfl)).1 hb) rfl) ?_
     refine aS 18 rfl (fun a u E D hk=>Xj _ _ _ ((((decide ((0:Int)<(o.stop:Int))) || (decide ((o.k:Int)=(1:Int)))) || (decide ((o.k:Int)=(5:Int))))) ((decide ((64:Int)≤((Mm.len:Int):Int)))) rfl (dD D 13) (fun hb2=>((D 16 70 (by kernel_rfl)).1 hb2)) rfl) HFU.out ?_
     refine mD 19 71 17 ?_
     exact fz
    intro gv w5 hV k45
    simp only [Fz7]
    rw [gQ hV 18 53 (.bool fu)]
    clear hV
    have k5:=k4.trans k45
    have HB55:=Kj (HB54.out.kept k45)
    have HO5:=Kj (JJ HO4.out k45)
    have z5:=k45.size
    clear HB54 HO4 k4 k45 HFU
    cases fu with
    | true=>
     have HERR:Hid (Mm.err o=4):=merr_4 HRR.out HFT.out (by have h:=HFM.out;rw [Bool.and_eq_true] at h;exact ⟨h.1,by have:=of_decide_eq_true h.2;omega⟩)
     have hxe:=arrive_er HERR.out (by decide)
     rw [HX.out] at hxe
     injection hxe with hx1 hx2
     have HX1:=Kj hx1
     have HX2:=Kj hx2
     clear hx1 hx2
     go_upto_region 12 with fail
     refine wEp 1 [pV b5 14] [72] ?_ ?_
     ·refine fE 1 5 58 6 14 0 ?_
      exact fz
     intro we ke
     simp only [F8]
     refine Zz 56 b5 14 58 _ (.int .i64 4) _ (.const (.int .i64 4)) rfl rfl (by kernel_rfl) (by kernel_rfl) rfl rfl rfl (HB55.out.kept ke) (by rw [Oc.len15];omega) ?_
     intro wf hF hkf hsf
     simp only [Act.put]
     refine Kx ?_
     rw [Oc.set_err] at hF
     have kk:Kept w wf:=(k5.trans ke).trans' hkf (by omega)
     have HFF5:=Kj hF
     clear hF hkf hsf ke
     go_wp2
     go_meet
     case rel=>exact ⟨F,.slice none 0 0,by rw [HX1.out];exact HFF5.out,by rw [HX2.out];exact HM.out.kept kk,h5F,by rw [HX1.out];exact Sl.nil _ _ _,fun b hb=>by simp [Value.ownBlock] at hb,Grow.refl _ _,Keep.mono (T:=F) kk (fun _ _ h=>h.elim)⟩
    | false=>
     have HERR:Hid (Mm.err o=0):=merr_0 HRR.out HFT.out (fun h'=>by have h2:=HFM.out;rw [h'.1,Ky (by have:=h'.2;omega)] at h2;cases h2)
     obtain ⟨ht,hht⟩:∃ b,o.hit Mm.b.last=b:=⟨_,rfl⟩
     have HHT:=Kj hht
     obtain ⟨wt,hwt⟩:∃ b,(decide ((0:Int)<o.stop) && !ht)=b:=⟨_,rfl⟩
     have HWT:=Kj hwt
     have HW:Hid (Mm.waits o=wt):=by show _=_;unfold Mkt.waits;rw [hht];exact hwt
     have HQ5:Hid (w5.cell? ⟨p,0,none⟩=some (.pointer (some ⟨q,0,none⟩))):=(HPP.out.blk.kept k5).cell 0
     have HL5:Hid (w5.cell? ⟨q,3,none⟩=some (.int .i64 Mm.b.last)):=(HPP.out.bk.kept k5).last
     clear hht hwt HFM
     go_upto_region 13 with fail
     refine wF 16 [pE b3 8,iE o.stop,bE (decide ((0:Int)<(o.stop:Int))),bE (decide ((0:Int)<(o.stop:Int))),.cond (decide ((0:Int)<(o.stop:Int))) (.eq (o.v)),.cond (decide ((0:Int)<(o.stop:Int))) (pE p 0),.cond (decide ((0:Int)<(o.stop:Int))) (pE p 0),.cond (decide ((0:Int)<(o.stop:Int))) (pE p 0),.cond (decide ((0:Int)<(o.stop:Int))) (pE q 0),.cond (decide ((0:Int)<(o.stop:Int))) (pE q 0),.cond (decide ((0:Int)<(o.stop:Int))) (pE q 3),.cond (decide ((0:Int)<(o.stop:Int))) (iE Mm.b.last),.cond (decide ((0:Int)<(o.stop:Int))) (bE ht),.cond (decide ((0:Int)<(o.stop:Int))) (bE (!ht)),bE wt,bE wt] [74,75,76,77,78,79,80,81,82,83,84,85,86,87,88,73] ?_ ?_
     ·refine fE 1 3 30 8 8 0 ?_
      refine lD 2 74 0 Tryz.underlying3 (fun u hk=>JY (JJ HO5.out hk) 8 _ rfl) ?_
      refine sW 3 rfl (fun a u E D hk=>XX rfl (dD D 1) rfl) ?_
      refine mD 4 76 2 ?_
      refine iC 5 3 rfl (fun a u E D hk hb=>xJ 30 _ _ (b3) (0) (o.cells) rfl (eE E) (JJ HO5.out hk) Tryz.underlying30 (by rw [o.len9];exact JX)) ?_
      refine iC 6 3 rfl (fun a u E D hk hb=>Jj _ _ rfl (eE E)) ?_
      refine iC 7 3 rfl (fun a u E D hk hb=>YY _ ⟨p,0,none⟩ rfl ((D 5 79 (by kernel_rfl)).1 hb)) ?_
      refine iC 8 3 rfl (fun a u E D hk hb=>QV 53 0 0 _ (p) (0) (0) rfl ((D 6 80 (by kernel_rfl)).1 hb) (by kernel_rfl) rfl) ?_
      refine iC 9 3 rfl (fun a u E D hk hb=>XY _ _ Tryz.underlying47 _ _ _ rfl ((D 7 81 (by kernel_rfl)).1 hb) (Kept.cell hk (HQ5.out))) ?_
      refine iC 10 3 rfl (fun a u E D hk hb=>YY _ ⟨q,0,none⟩ rfl ((D 8 82 (by kernel_rfl)).1 hb)) ?_
      refine iC 11 3 rfl (fun a u E D hk hb=>QV 51 1 3 _ (q) (0) (3) rfl ((D 9 83 (by kernel_rfl)).1 hb) (by kernel_rfl) rfl) ?_
      refine iC 12 3 rfl (fun a u E D hk hb=>QX _ Tryz.underlying3 _ _ _ rfl ((D 10 84 (by kernel_rfl)).1 hb) (Kept.cell hk (HL5.out))) ?_
      refine QY 13 rfl (fun a u hE hD hk=>f_if _ rfl rfl rfl (dD hD 3) (fun hb=>VJ 26 #[o.v,.int .i64 Mm.b.last] rfl (Vq rfl rfl (dD hD 3) (WJ hb)) (Jq 26 _ [.tmp 78,.tmp 85] _ [o.v,.int .i64 Mm.b.last] Tryz.func26 (by kernel_rfl) (by kernel_rfl) rfl (show [a.eval (.tmp 78),a.eval (.tmp 85)]=[o.v,.int .i64 Mm.b.last] from (by rw [show a.eval (.tmp 78)=o.v from ((hD 4 78 (by kernel_rfl)).1 hb),show a.eval (.tmp 85)=.int .i64 Mm.b.last from ((hD 11 85 (by kernel_rfl)).1 hb)] <;> rfl)) u) ((by rw [← HHT.out];exact rhit_any o _ u)))) ?_
      refine iC 14 3 rfl (fun a u E D hk hb=>Yj _ _ ht rfl ((D 12 86 (by kernel_rfl)).1 hb)) ?_
      refine aS 15 rfl (fun a u E D hk=>Xj _ _ _ ((decide ((0:Int)<(o.stop:Int)))) ((!ht)) rfl (dD D 3) (fun hb2=>((D 13 87 (by kernel_rfl)).1 hb2)) rfl) HWT.out ?_
      refine mD 16 88 14 ?_
      exact fz
     intro gv w6 hV k56
     simp only [Fz7]
     rw [gQ hV 15 73 (.bool wt)]
     clear hV
     have k6:=k5.trans k56
     have HB56:=Kj (HB55.out.kept k56)
     have HO6:=Kj (JJ HO5.out k56)
     have z6:=k56.size
     clear HB55 HO5 k5 k56 HQ5 HL5 HWT HHT
     cases wt with
     | true=>
      have hxe:=arrive_wt HERR.out HW.out
      rw [HX.out] at hxe
      injection hxe with hx1 hx2
      have HX1:=Kj hx1
      have HX2:=Kj hx2
      obtain ⟨n,hn⟩:∃ n,Mm.w.length=n:=⟨_,rfl⟩
      have HNL:=Kj hn
      have HS6:Hid (Sl w6 30 9 v n (ords Mm.w)):=by show Sl _ _ _ _ _ _;rw [← hn];exact HPP.out.sl.kept k6
      have HBp:=Kj (HPP.out.blk.kept k6)
      have HV6:Hid (w6.cell? ⟨p,1,none⟩=some v):=HBp.out.cell 1
      rw [hn] at hlen
      clear hx1 hx2 hn
      go_upto_region 14 with fail
      refine JJJ 9 [.eq (.pointer (some ⟨p,0,none⟩)),.emp w6.heap.size 30,.eq (.pointer (some ⟨p,0,none⟩)),.eq (.pointer (some ⟨p,0,none⟩)),.eq (.pointer (some ⟨p,1,none⟩)),.eq (v),.sl w6.heap.size 30 9 n (ords Mm.w),.eq (o.v),.sl w6.heap.size 30 9 1 o.cells] (.pointer (some ⟨p,0,none⟩)) ((fun v' u u'=>Sl u' 30 9 v' (n+1) (ords Mm.w++o.cells)∧(∀ b,v'.ownBlock=some b→w6.heap.size≤b)∧Keep (fun b=>w6.heap.size≤b) u u')) (by kernel_rfl) rfl rfl (by kernel_rfl) (by kernel_rfl) (t_zero (d:=89) _ rfl rfl rfl (by kernel_rfl) (by kernel_rfl)) ?_ (fun a u hE hD hk=> (by obtain ⟨v',u',hr,hs',hk',ho'⟩:=Qy slO _ u (a.eval (.tmp 95)) (a.eval (.tmp 97)) n 1 (ords Mm.w) o.cells ((hD 6 95 (by kernel_rfl))).1 ((hD 8 97 (by kernel_rfl))).1 (Ord.one1 _) (by unfold maxLen;omega) (by omega);have hq:=((hD 6 95 (by kernel_rfl))).2;exact t_last (o:=⟨some 98,_,_,_,_,_⟩) (R:=(fun v' u u'=>Sl u' 30 9 v' (n+1) (ords Mm.w++o.cells)∧(∀ b,v'.ownBlock=some b→w6.heap.size≤b)∧Keep (fun b=>w6.heap.size≤b) u u')) (m:=9) (v:=v') (w':=u') rfl (JZ rfl _) (XQ slO (.tmp 95) (.tmp 97) _ _ rfl rfl rfl v' u' hr) ⟨hs',fun b hb=>(ho' b hb).elim (hq b) (fun h=>Kv hk.size h),hk'.mono (fun b _ hb=>hq b hb)⟩)) ?_
      ·refine nW 2 rfl (fun a u E D hk=>⟨_,_,Uy 44 30 9 rfl slO.und JX,⟨_,rfl,hk.size,Blk.new u _ _⟩,((Keep.refl _ u).alloc _)⟩) ?_
       refine mE 3 0 ?_
       refine nD 4 91 2 ?_
       refine fD 5 92 3 53 1 1 0 ?_
       refine sW 6 rfl (fun a u E D hk=>Jy _ _ Tryz.underlying44 _ _ _ rfl (dD D 4) (Kept.cell hk (HV6.out))) ?_
       refine QY 7 rfl (fun a u hE hD hk=>(by obtain ⟨v',u',hr,hp,hkk⟩:=VW slO _ u (a.eval (.tmp 90)) v n w6.heap.size _ ((dD hD 1)) (HS6.out.kept hk) (qX _) (by omega) (by omega) hk.size;exact jx v' u' rfl (JZ rfl _) (XQ slO (.tmp 90) (.tmp 94) _ v rfl rfl (dD hD 5) v' u' hr) hp hkk)) ?_
       refine sE 8 3 b3 0 o.cells Tryz.underlying30 (fun u hk=>JJ HO6.out hk) (by rw [o.len9];exact JX) ?_
       refine nW 9 rfl (fun a u E D hk=>⟨_,_,Vz slO _ o.cells (by omega) rfl (dD D 7) (o.len9),(qQ u 30 9 _ w6.heap.size (o.len9) (by omega) hk.size),((Keep.refl _ u).alloc _)⟩) ?_
       exact fz
      intro gv w1 wx hV h0 hR hk1
      rw [dq 10 [89,90,91,92,93,94,95,96,97,98]]
      simp only [Fz7]
      have hT:=hR 98 (by kernel_rfl)
      generalize gv 98=v98 at hT ⊢
      rw [show gv 89=.pointer (some ⟨p,0,none⟩) from h0 89 (by kernel_rfl)]
      clear hV h0 hR
      obtain ⟨hsx,hox,hkx⟩:=hT
      have kxx:=yZ hk1 hkx (Nat.le_refl _)
      have hBx:=HBp.out.kept kxx
      refine Jx (.pointer (some ⟨p,0,none⟩)) rfl (YY (.tmp 89) ⟨p,0,none⟩ rfl (by kernel_rfl)) ?_
      simp only [Act.put,sA,sS,sZ]
      refine Jx (.pointer (some ⟨p,1,none⟩)) rfl (QV 53 1 1 (.tmp 99) (p) (0) (1) rfl (by kernel_rfl) (by kernel_rfl) rfl) ?_
      simp only [Act.put,sA,sS,sZ]
      refine Zz 44 p 1 53 _ v98 _ _ rfl rfl (by kernel_rfl) (by kernel_rfl) (by kernel_rfl) (VV hsx) (Yq hsx) hBx (by simp [Zq]) ?_
      intro wy hBy hky hsy
      simp only [Act.put]
      refine Kx ?_
      obtain ⟨v',hv'⟩:∃ v',v'=v98:=⟨_,rfl⟩
      subst hv'
      have z6w:=k6.size
      have zx:=kxx.size
      have hBy:Blk wy p 53 (Zq q v'):=hBy
      have KY:Keep (·=p) w6 wy:=Keep.any kxx hky
      have hSy:Sl wy 30 9 v' (n+1) (ords (Mm.w++[o])):=by rw [ords_snoc];exact hsx.keep hky (fun b hb e=>by have:=hox b hb;omega)
      have hKy:=(HPP.out.bk.kept k6).keep KY (fun b hb e=>HPP.out.nb (by rw [← e];exact hb))
      have zy:=KY.size
      have hPy:RkP wy p q v' Fb ⟨Mm.b,Mm.w++[o]⟩:=⟨hBy,hKy,by rw [List.length_append,HNL.out];exact hSy,HPP.out.nb,fun b hb=>⟨fun e=>by have:=hox b hb;omega,fun e=>by have:=HPP.out.bk.lt b e;have:=hox b hb;omega⟩⟩
      have HPy:=Kj hPy
      have HOy:Hid (∀ b,v'.ownBlock=some b→w6.heap.size≤b):=hox
      have HB5y:=Kj (HB56.out.keep KY (by omega))
      have KFy:Keep F w wy:=Keep.any k6 (KY.mono (fun b _ e=>HFF.out b (.inl (.inl e))))
      clear hsx hox hkx hBx hk1 hky hBy hsy kxx hSy hKy hPy KY HBp HS6 HV6
      go_upto_region 15 with fail
      refine wEp 1 [pV b5 12] [101] ?_ ?_
      ·refine fE 1 5 58 4 12 0 ?_
       exact fz
      intro we ke
      simp only [F8]
      refine Zz 4 b5 12 58 _ (.bool true) _ (.const (.bool true)) rfl rfl (by kernel_rfl) (by kernel_rfl) rfl rfl rfl (HB5y.out.kept ke) (by rw [Oc.len15];omega) ?_
      intro wf hF hkf hsf
      simp only [Act.put]
      refine Kx ?_
      have hF':Blk wf b5 58 ((Ot.mk (Oc.mk o [] o.qty false false 0) true).cells (.slice none 0 0)):=hF
      have HFF5:=Kj hF'
      have h5f:∀ b,foot p v' Fb b→b≠b5:=fun b hb e=>by
       rcases hb with (hb | hb) | hb
       ·omega
       ·have:=HOy.out b hb;omega
       exact h5F (by rw [← e];exact HFF.out b (.inr hb))
      have HMf:=Kj ((HPy.out.kept ke).keep hkf h5f).close
      have ze:=ke.size
      have KFf:Keep F w wf:=(KFy.kept ke).new hkf hb5w
      have HGf:Hid (Grow w F (foot p v' Fb)):=fun b hb=>by
       rcases hb with (hb | hb) | hb
       ·exact .inl (HFF.out b (.inl (.inl hb)))
       ·have:=HOy.out b hb;exact .inr (by omega)
       exact .inl (HFF.out b (.inr hb))
      clear hF hF' hkf hsf ke HPy HB5y KFy
      go_wp2
      go_meet
      case rel=>exact ⟨_,.slice none 0 0,by rw [HX1.out];exact HFF5.out,by rw [HX2.out];exact HMf.out,fun h=>h5f _ h rfl,by rw [HX1.out];exact Sl.nil _ _ _,fun b hb=>by simp [Value.ownBlock] at hb,HGf.out,KFf⟩
     | false=>
      have hxe:=arrive_en HERR.out HW.out
      rw [HX.out] at hxe
      injection hxe with hx1 hx2
      obtain ⟨xa,B2,hX⟩:∃ x B2,Mm.b.add o.free=(x,B2):=⟨_,_,rfl⟩
      have HXA:=Kj hX
      obtain ⟨y,hy⟩:∃ y:Oc,{ xa with o:=o }=y:=⟨_,rfl⟩
      have hye:Mm.b.enter o=(y,B2):=by unfold Bok.enter;rw [hX,← hy]
      have HYf:Hid (y.f=xa.f):=by show _=_;rw [← hy]
      have HYc:Hid (∀ v,o.cells++(xa.cells v).drop 9=y.cells v):=fun v=>by rw [← hy];exact oc_set_o xa o v
      rw [hye] at hx1 hx2
      have HX1:=Kj hx1
      have HX2:=Kj hx2
      have HBp:=Kj (HPP.out.blk.kept k6)
      have z6w:=k6.size
      clear hx1 hx2 hX hy hye
      go_upto_region 3 with fail
      refine wEp 1 [o.v] [26] ?_ ?_
      ·refine sE 1 3 b3 0 o.cells Tryz.underlying30 (fun u hk=>JJ HO6.out hk) (by rw [o.len9];exact JX) ?_
       exact fz
      intro wb kb
      simp only [F8]
      refine ZW (.pointer (some ⟨wb.heap.size,0,none⟩)) (wb.alloc (.cells JV.cells.toArray 30)) rfl (QW 30 JV.cells rfl zO) ?_
      have hNwd:=Blk.new wb 30 JV.cells
      have kwd:Kept wb (wb.alloc (.cells JV.cells.toArray 30)):=(Keep.refl _ wb).alloc _
      generalize wb.alloc (.cells JV.cells.toArray 30)=wd at hNwd kwd ⊢
      simp only [Act.put,sA,sS,sZ]
      refine Qj 30 wb.heap.size 30 JV.cells o.cells _ _ rfl rfl (by kernel_rfl) (by kernel_rfl) (hNwd) (by rw [Ord.len9];exact JX) (by rw [Ord.len9,Ord.len9]) (Ord.one1 _) ?_
      intro w7 hCw7 hkw7 hsw7
      simp only [Act.put]
      refine Kx ?_
      obtain ⟨b8,h8⟩:∃ a,wb.heap.size=a:=⟨_,rfl⟩
      rw [h8] at hNwd hCw7 hkw7 ⊢
      have zb:=kb.size
      have k67:Kept w6 w7:=(kb.trans kwd).trans' hkw7 (by omega)
      have hb8:w6.heap.size≤b8:=by omega
      have HB8:=Kj hCw7
      have HO7:=Kj (JJ HO6.out k67)
      have z7:=k67.size
      clear hNwd hCw7 hkw7 hsw7 kwd kb h8
      have hfree:stc (o.l.set 8 0) []=o.free.cells:=rfl
      go_upto_region 4 with fail
      refine wEp 1 [pV b8 8] [27] ?_ ?_
      ·refine fE 1 8 30 8 8 0 ?_
       exact fz
      intro wb kb
      simp only [F8]
      refine l_setf b8 8 30 o.l [] 0 _ (.const (.int .i64 0)) rfl rfl (by kernel_rfl) rfl (HB8.out.kept kb) (by simp [Ord.l]) ?_
      intro w8 hBw8 hkw8 hsw8
      simp only [Act.put]
      refine Kx ?_
      have HB88:Hid (Blk w8 b8 30 o.free.cells):=by show Blk _ _ _ _;rw [← hfree];exact hBw8
      have HF8:=Kj (JW HB88.out)
      have zb2:=kb.size
      have k68:Kept w6 w8:=(k67.trans kb).trans' hkw8 (by omega)
      have HO8:=Kj (XW (JJ HO7.out kb) hkw8 (fun e=>by omega))
      have k8:=k6.trans k68
      have HB58:=Kj (HB56.out.kept k68)
      have HQ8:Hid (w8.cell? ⟨p,0,none⟩=some (.pointer (some ⟨q,0,none⟩))):=(HBp.out.kept k68).cell 0
      have HK8:=Kj (HPP.out.bk.kept k8)
      have hFbl:=HPP.out.bk.lt
      have h8F:¬ Fb b8:=fun h=>by have:=hFbl b8 h;omega
      have h5Fb:¬ Fb b5:=fun h=>h5F (HFF.out b5 (.inr h))
      have h3Fb:¬ Fb b3:=fun h=>h3F (HFF.out b3 (.inr h))
      have z8:=k68.size
      clear hBw8 hkw8 hsw8 k67 kb HB8 HO7 hfree HB56 HO6
      go_upto_region 5 with fail
      refine wGp 5 [pV p 0,pV p 0,pV p 0,pV q 0,o.free.v] [28,29,30,31,32] ?_ ?_
      ·refine mE 1 0 ?_
       refine nD 2 28 0 ?_
       refine fD 3 29 1 53 0 0 0 ?_
       refine sW 4 rfl (fun a u E D hk=>XY _ _ Tryz.underlying47 _ _ _ rfl (dD D 2) (Kept.cell hk (HQ8.out))) ?_
       refine sE 5 8 b8 0 o.free.cells Tryz.underlying30 (fun u hk=>JJ HF8.out hk) (by rw [o.free.len9];exact JX) ?_
       exact fz
      intro wb kb
      simp only [F8]
      refine Yz 27 #[.pointer (some ⟨q,0,none⟩),o.free.v] rfl (Jq 27 _ [.tmp 31,.tmp 32] _ _ Tryz.func27 (by kernel_rfl) (by kernel_rfl) rfl (by kernel_rfl) _) ?_
      refine (rbadd_any wb Fb q Mm.b o.free (HK8.out.kept kb) HI.out.inv (by omega)).mono ?_
      rintro r wd ⟨F2,vf,rfl,hKd,hFd,hOd,hGd,hkd⟩
      rw [HXA.out] at hKd hFd ⊢
      refine ⟨_,rfl,?_⟩
      simp only [Act.put,sA,sS,sZ]
      refine Qj 58 b5 58 ((Oc.mk o [] o.qty false false 0).cells (.slice none 0 0)) (xa.cells vf) _ _ rfl rfl (by kernel_rfl) (by kernel_rfl) ((HB58.out.kept kb).keep hkd h5Fb) (by rw [Oc.len15];exact szC) (by rw [Oc.len15,Oc.len15]) (Oc.one _ _ (Yq hFd)) ?_
      intro w9 hC9 hk9 hs9
      simp only [Act.put]
      refine Kx ?_
      have zb3:=kb.size
      have zd:=hkd.size
      have KFd:Keep Fb w8 wd:=Keep.any kb hkd
      have hG9:Grow w8 Fb F2:=hGd.wide (by omega)
      have h5F2:¬ F2 b5:=fun h=>(hG9 b5 h).elim h5Fb (fun h=>by omega)
      have hpF2:¬ F2 p:=fun h=>(hG9 p h).elim HPP.out.nb (fun h=>by omega)
      have HG9:=Kj hG9
      have K89:Keep Fb w w9:=(Keep.any k8 KFd).new hk9 hb5w
      have hvl:∀ b,v.ownBlock=some b→b<w.heap.size:=fun b hb=>HPP.out.sl.lt hb
      have HB9:=Kj (HPP.out.blk.keep K89 HPP.out.nb)
      have HS9:=Kj (HPP.out.sl.keep K89 (fun b hb=>(HPP.out.nv b hb).2))
      have HK9:=Kj (hKd.keep hk9 (fun b hb e=>h5F2 (by rw [← e];exact hb)))
      have HF9:=Kj (hFd.keep hk9 (fun b hb e=>by have:=(hOd b hb).1;omega))
      have HO9:Hid (∀ b,vf.ownBlock=some b→w8.heap.size≤b∧¬ F2 b):=fun b hb=>⟨by have:=(hOd b hb).1;omega,(hOd b hb).2⟩
      have HC9:=Kj hC9
      have HOo:=Kj (XW (XW HO8.out KFd h3Fb) hk9 (fun e=>by omega))
      have zw9:=K89.size
      clear hKd hFd hOd hGd hkd hC9 hk9 hs9 KFd kb hG9 HB58 HQ8 HK8 HO8 HF8 HB88 k8 k68 k6
      go_upto_region 6 with fail
      refine wEp 2 [o.v,pV b5 0] [34,35] ?_ ?_
      ·refine sE 1 3 b3 0 o.cells Tryz.underlying30 (fun u hk=>JJ HOo.out hk) (by rw [o.len9];exact JX) ?_
       refine fE 2 5 58 0 0 0 ?_
       exact fz
      intro wd kd
      simp only [F8]
      refine l_setO b5 58 o (xa.cells vf) _ _ rfl rfl (by kernel_rfl) (by kernel_rfl) (HC9.out.kept kd) (by rw [Oc.len15];omega) ?_
      intro we hCe hke
      simp only [Act.put]
      refine Kx ?_
      rw [HYc.out] at hCe
      have hCe':Blk we b5 58 ((Ot.mk y false).cells vf):=hCe
      have k5e:Keep (·=b5) w9 we:=Keep.any kd hke
      have hPe:RkP we p q v F2 ⟨B2,Mm.w⟩:=⟨HB9.out.keep k5e (fun e=>by omega),HK9.out.keep k5e (fun b hb e=>h5F2 (by rw [← e];exact hb)),HS9.out.keep k5e (fun b hb e=>by have:=hvl b hb;omega),hpF2,fun b hb=>⟨(HPP.out.nv b hb).1,fun e=>(HG9.out b e).elim (HPP.out.nv b hb).2 (fun e=>by have:=hvl b hb;omega)⟩⟩
      have HMe:=Kj hPe.close
      have HCe:=Kj hCe'
      have HFe:Hid (Sl we 77 21 vf y.f.length (fls y.f)):=by show Sl _ _ _ _ _ _;rw [HYf.out];exact HF9.out.keep k5e (fun b hb e=>by have:=(HO9.out b hb).1;omega)
      have h5f:∀ b,foot p v F2 b→b≠b5:=fun b hb e=>by
       rcases hb with (hb | hb) | hb
       ·omega
       ·have:=hvl b hb;omega
       exact h5F2 (by rw [← e];exact hb)
      have HOe:Hid (∀ b,vf.ownBlock=some b→w.heap.size≤b∧¬ foot p v F2 b∧b≠b5):=fun b hb=>by
       have h1:=HO9.out b hb
       refine ⟨by omega,fun e=>?_,fun e=>by omega⟩
       rcases e with (e | e) | e
       ·omega
       ·have:=hvl b e;omega
       exact h1.2 e
      have HGe:Hid (Grow w F (foot p v F2)):=fun b hb=>by
       rcases hb with hb | hb
       ·exact .inl (HFF.out b (.inl hb))
       exact (HG9.out b hb).imp (fun h=>HFF.out b (.inr h)) (fun h=>by omega)
      have KFe:Keep F w we:=(K89.mono (fun b _ hb=>HFF.out b (.inr hb))).new k5e hb5w
      clear hCe hCe' hke kd k5e hPe HB9 HS9 HK9 HF9 HC9 HOo K89
      go_wp2
      go_meet
      case rel=>exact ⟨_,vf,by rw [HX1.out];exact HCe.out,by rw [HX2.out];exact HMe.out,fun h=>h5f _ h rfl,by rw [HX1.out];exact HFe.out,HOe.out,HGe.out,KFe⟩
 obtain ⟨F2,vf,hB,hM,hn5,hF,hO,hG,hk⟩:=hcut
 have HBc:=Kj (JW hB)
 have HMc:=Kj hM
 have HFc:=Kj hF
 have HOc:=Kj hO
 have HGc:=Kj hG
 have HKc:Hid (Keep F w wc):=hk
 have zc:=hk.size
 have hlc:=hM.lt
 clear hB hM hF hO hG hk HB52 HO2 k2
 go_upto_region 16 with fail
 refine wEp 1 [x.v vf] [102] ?_ ?_
 ·refine sE 1 5 b5 0 (x.cells vf) Tryz.underlying58 (fun u hk=>JJ (HBc.out) hk) (by rw [Ot.len15];exact szC) ?_
  exact fz
 intro wa ka
 simp only [F8]
 refine ZW (.slice (some ⟨wa.heap.size,0,none⟩) 1 1) (wa.alloc (.cells (x.cells vf).toArray 58)) rfl (Vz slC (.tmp 102) (x.cells vf) (by omega) rfl (by kernel_rfl) (Ot.len15 _ _)) ?_
 have hone:=qQ wa 58 15 (x.cells vf) wa.heap.size (Ot.len15 _ _) (by omega) (Nat.le_refl _)
 have kN:Kept wa (wa.alloc (.cells (x.cells vf).toArray 58)):=(Keep.refl _ wa).alloc _
 generalize wa.alloc (.cells (x.cells vf).toArray 58)=wb at hone kN ⊢
 simp only [Act.put,sA,sS,sZ]
 refine Jx (.slice (some ⟨wa.heap.size,0,none⟩) 1 1) rfl (JQ _ _ rfl (by kernel_rfl)) ?_
 simp only [Act.put,sA,sS,sZ]
 refine Kx ?_
 have kcb:=ka.trans kN
 have za:=ka.size
 have zb:=kcb.size
 obtain ⟨v9,hv9⟩:∃ v9,v9=Value.slice (some ⟨wa.heap.size,0,none⟩) 1 1:=⟨_,rfl⟩
 have hown:∀ b,v9.ownBlock=some b→b=wa.heap.size:=fun b hb=>by rw [hv9] at hb;simp [Value.ownBlock] at hb;exact hb.symm
 rw [← hv9] at hone ⊢
 have hmB:=HMc.out.kept kcb
 have hO9:Outs wb w.heap.size F2 v9 [x] [(x,vf)]:=outs_one (HFc.out.kept kcb) hone.1 (fun b hb=>⟨(HOc.out b hb).1,(HOc.out b hb).2.1,fun e=>by have:=hown b e;have:=HFc.out.lt hb;omega⟩) (fun b hb=>by have:=hown b hb;exact ⟨by omega,fun h=>by have:=hlc b h;omega⟩)
 have HO9:=Kj hO9
 have hlt9:∀ b,v9.ownBlock=some b→b<wb.heap.size:=fun b hb=>hO9.sl.lt hb
 have HMB:=Kj hmB
 have HKB:Hid (Keep F w wb):=HKc.out.kept kcb
 clear hO9 hmB hone kN ka kcb hv9 HBc HMc HFc HOc HKc
 have hcl:[x].length+M2.cas.1.length≤1000000:=by
  have h1:=cas_len _ M2 (Nat.le_refl _)
  have h2:=HIA.out.few
  simp only [List.length_cons,List.length_nil]
  omega
 go_upto_region 17 with fail
 refine wEp 2 [v9,pV p 0] [104,105] ?_ ?_
 ·refine mE 1 9 ?_
  refine mE 2 0 ?_
  exact fz
 intro we ke
 simp only [F8]
 refine Yz 28 #[.pointer (some ⟨p,0,none⟩)] rfl (Jq 28 _ [.tmp 105] _ _ Tryz.func28 (by kernel_rfl) (by kernel_rfl) rfl (by kernel_rfl) _) ?_
 refine (rcascade_any we F2 p M2 (HMB.out.kept ke) HIA.out (by have h1:=HIA.out.few;have h2:=HNA.out;omega)).mono ?_
 rintro r wf ⟨F3,v2,Z2,rfl,hM3,hO3,hG3,hk3⟩
 refine ⟨_,rfl,?_⟩
 have ze:=ke.size
 have hO9f:Outs wf w.heap.size F3 v9 [x] [(x,vf)]:=(((HO9.out.kept ke).beside (G':=fun b=>F2 b∨F3 b) (n:=we.heap.size) (fun b hb=>hb.elim .inl (hG3 b)) (Nat.le_refl _)).keep hk3 (fun b h1 h2 h3 e=>h2 (.inl e))).less (fun b hb=>.inr hb)
 have zf:=hk3.size
 simp only [Act.put,sA,sS,sZ]
 obtain ⟨v7,w7,hr7,hO7,hk7,ho7⟩:=hO9f.app hO3 34 (by omega) (fun b hb=>by have:=hlt9 b hb;omega) hcl (by omega) hM3.lt
 refine ZW v7 w7 rfl (XQ slC (.tmp 104) (.tmp 106) v9 v2 rfl (by kernel_rfl) (by kernel_rfl) v7 w7 hr7) ?_
 simp only [Act.put,sA,sS,sZ]
 refine Jx (v7) rfl (JQ _ _ rfl (by kernel_rfl)) ?_
 simp only [Act.put,sA,sS,sZ]
 refine Kx ?_
 have hM7:=hM3.keep hk7 (fun b hb e=>(hO9f.own b e).2 hb)
 have hG7:Grow w F F3:=fun b hb=>(hG3 b hb).elim (HGc.out b) (fun h=>.inr (by omega))
 have hK7:Keep F w w7:=(((HKB.out.kept ke).trans hk3 (fun b hb e=>(HGc.out b e).elim id (fun e=>by omega))).trans hk7 (fun b hb e=>by have:=(hO9f.own b e).1;omega))
 clear hO9f hk7 ho7 hr7 hO3 hk3 hG3 hM3 ke
 go_wp2
 go_ret
 first | exact ⟨F3,v7,_,rfl,hM7,hO7,hG7,hK7⟩ | exact ⟨rfl,F3,_,hM7,hO7,hG7,hK7⟩
end Go.Proofs.YtlbeibapbkccfaaGreat
