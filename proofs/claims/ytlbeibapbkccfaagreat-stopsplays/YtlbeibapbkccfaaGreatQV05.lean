/-
 Laws and contracts that the walks rest on, part 5. No condition.
-/
import Derived.Test.YtlbeibapbkccfaaGreatQV04
set_option linter.unusedVariables false
set_option maxRecDepth 100000
set_option maxHeartbeats 6400000
namespace Go.Proofs.YtlbeibapbkccfaaGreat
open Go.RowKit
theorem remove_side {B:Bok} {t j:Int} {k:Nat} {e:Ord} {L':List Lev} (h12:k=1∨k=2) (hp:∀ s:Nat,s<k→(Yx t j (B.sd (s:Int))).2.1=false) (h:Yx t j (B.sd (k:Int))=(e,true,L')):B.remove t j=(e,true,B.to (k:Int) L' B.last B.no):=by
 unfold Bok.remove
 rcases h12 with rfl | rfl
 ·have h1:Yx t j B.buys=(e,true,L'):=h
  rw [h1]
  rfl
 have h1:Yx t j B.sells=(e,true,L'):=h
 have h2:(Yx t j B.buys).2.1=false:=hp 1 (by omega)
 rw [if_neg (by rw [h2];simp),h1]
 rfl
theorem bremove_none {B:Bok} {t j:Int} (hp:∀ s:Nat,s<3→(Yx t j (B.sd (s:Int))).2.1=false):B.remove t j=(JV,false,B):=by
 unfold Bok.remove
 have h1:(Yx t j B.buys).2.1=false:=hp 1 (by omega)
 have h2:(Yx t j B.sells).2.1=false:=hp 2 (by omega)
 rw [if_neg (by rw [h1];simp),if_neg (by rw [h2];simp)]
theorem drop_past (A R:List Lev) (l:Lev):(A++l::R).drop (A.length+1)=R:=by rw [List.drop_append];simp
theorem rsd_cell {w:World} {p k:Nat} {v u:Value} {last no:Int} (h12:k=1∨k=2) (h:Blk w p 51 (rsd (k:Int) v u last no)):w.cell? ⟨p,0+k*1,none⟩=some v:=by
 rcases h12 with rfl | rfl
 ·exact h.cell 1
 exact h.cell 2
theorem rsd_set {k:Nat} {v v' u:Value} {last no:Int} (h12:k=1∨k=2):(rsd (k:Int) v u last no).set (0+k*1) v'=rsd (k:Int) v' u last no:=by
 rcases h12 with rfl | rfl <;> rfl
theorem rsd_len {k:Nat} {v u:Value} {last no:Int} (h12:k=1∨k=2):(rsd (k:Int) v u last no).length=5:=by
 rcases h12 with rfl | rfl <;> rfl
theorem rbremove_any (w:World) (F:Nat→Prop) (p:Nat) (B:Bok) (t j:Int) (h:RBk w F p B) (hI:Inv B):Calls Tryz.prog 32 #[.pointer (some ⟨p,0,none⟩),.int .i64 t,.int .i64 j] w fun r w'=>∃ F',r=.returned (.tuple #[(B.remove t j).1.v,.bool (B.remove t j).2.1])∧RBk w' F' p (B.remove t j).2.2∧Grow w F F'∧Keep F w w':=by
 have hFl:=h.lt
 have HB:=Kj h
 have HI:=Kj hI
 clear h hI
 go_enter Tryz.func32,Tryz.ntmps32
 go_upto_region 0 with fail
 refine QZ 2 [.fresh w.heap.size 30 JV.cells,bE false] rfl (by kernel_rfl) ?_ ?_
 ·refine nW 1 rfl (fun a u E D hk=>⟨_,_,QW 30 JV.cells rfl zO,⟨_,rfl,hk.size,Blk.new u _ _⟩,((Keep.refl _ u).alloc _)⟩) ?_
  refine sW 2 rfl (fun a u E D hk=>JQ _ _ rfl rfl) ?_
  exact fz
 intro gv wz hV kz
 rw [dq 2 [6,7]]
 simp only [Fz7]
 have hv6:(.fresh w.heap.size 30 JV.cells:Kn).p (gv 6) wz:=hV 0 6 (by kernel_rfl)
 generalize gv 6=v6 at hv6 ⊢
 rw [gQ hV 1 7 (.bool false)]
 clear hV
 obtain ⟨b6,rfl,hb6,hB6⟩:=hv6
 refine Kx ?_
 have HB6:=Kj hB6
 have l6:=hB6.lt
 have h6F:¬ F b6:=fun h=>by have:=hFl b6 h;omega
 have HBz:=Kj (HB.out.kept kz)
 have zz:=kz.size
 clear hB6 HB hFl
 go_wp2_with fail
 go_loopw [13] (fun q wr=>∃ (k:Nat),k≤3∧q=.int .i64 (k:Int)∧Hid (∀ s:Nat,s<k→(Yx t j (B.sd (s:Int))).2.1=false)∧Kept wz wr) (fun q _=>3-(intOf q).toNat)
 case atStart=>exact ⟨0,by omega,rfl,fun s hs=>(by omega),Kept.refl _⟩
 obtain ⟨k,hk3,rfl,HNO,hkr⟩:=hrel
 by_cases hk:k<3
 ·obtain ⟨L,hLe⟩:∃ L,B.sd (k:Int)=L:=⟨_,rfl⟩
  have hL:LvsOk L:=by rw [← hLe];exact HI.out.ok _
  obtain ⟨v,uo,Z,G,Fs,eL,hW,hv0,hop⟩:=(HBz.out.kept hkr).open3 hk
  rw [hLe] at eL
  have hn64:Z.length≤64:=by have:=hL.len;rw [← eL,YU] at this;exact this
  have HLe:=Kj hLe
  have HV:=Kj hv0
  have HW:=Kj hW
  have HL:=Kj hL
  have EL:=Kj eL
  have HOP:=Kj hop
  obtain ⟨n,hn⟩:∃ n,Z.length=n:=⟨_,rfl⟩
  have HSL:=Kj hW.sl
  rw [hn] at HSL hn64
  have HN:=Kj hn
  have zo:=hkr.size
  obtain ⟨wo,hwo⟩:∃ x,x=wr:=⟨_,rfl⟩
  subst hwo
  have HB6o:=Kj (HB6.out.kept hkr)
  clear hLe hv0 hW hL eL hn hop
  go_upto_region 4 with fail
  refine wE 8 [pV p 0,iV (k:Int),pV p 0,pV p 0,pV p (0+k*1),v,iV (n:Int),iV 0] [16,17,18,19,20,21,22,23] ?_ ?_
  ·refine mE 1 0 ?_
   refine mE 2 8 ?_
   refine nD 3 16 0 ?_
   refine fD 4 18 2 51 0 0 0 ?_
   refine sW 5 rfl (fun a u E D hk=>VU 49 48 3 1 _ _ p 0 k rfl Tryz.underlying49 (by kernel_rfl) (dD D 3) (dD D 1) (by omega)) ?_
   refine sW 6 rfl (fun a u E D hk=>Jy _ _ Tryz.underlying48 _ _ _ rfl (dD D 4) (Kept.cell hk (HV.out))) ?_
   refine sW 7 rfl (fun a u E D hk=>Qq _ Vy _ _ _ _ rfl (dD D 5) HSL.out) ?_
   refine sW 8 rfl (fun a u E D hk=>Jj _ _ rfl rfl) ?_
   exact fz
  intro w1 k1
  simp only [F8]
  clear HV
  go_wp2_with fail
  rw [show (decide ((k:Int)<3))=true from Ky (by omega)]
  go_loopw [23] (fun q wr=>∃ (i:Nat),i≤n∧q=.int .i64 (i:Int)∧Hid (∀ x ∈ L.take i,(YQ t j x.2).2.1=false)∧Kept wo wr) (fun q _=>n-(intOf q).toNat)
  case atStart=>exact ⟨0,Nat.zero_le _,rfl,by intro x hx;simp at hx,k1⟩
  obtain ⟨i,hi,rfl,HM,hkr2⟩:=hrel
  by_cases hlt:i<n
  ·obtain ⟨gs,os,c,rfl⟩:=HSL.out.some_ (by omega)
   obtain ⟨z,hz⟩:∃ z,Z[i]?=some z:=⟨Z[i]'(by rw [HN.out];omega),List.getElem?_eq_getElem (by rw [HN.out];omega)⟩
   obtain ⟨q,pr,X⟩:=z
   have HC:=Kj ((HW.out.kept hkr2).cell hz)
   have HZ:=Kj (split_at hz)
   have HLV:=Kj ((HW.out.kept hkr2).lv (q,pr,X) (List.mem_of_getElem? hz))
   have HX:=Kj (HL.out.one (l:=(pr,X)) (by rw [← EL.out];exact qq (List.mem_of_getElem? hz)))
   have HA:Hid (L[i]?=some (pr,X)):=by show _=_;rw [← EL.out];exact qU hz
   clear hz
   go_upto_region 6 with fail
   refine wEp 3 [iV (i:Int),pV gs (os+i*1),pV q 0] [25,26,27] ?_ ?_
   ·refine mE 1 23 ?_
    refine sW 2 rfl (fun a u E D hk=>Jz Vy _ _ (gs) (os) n c i (os+i*1) ((i:Int)) rfl (eE E) (eE E) (by first | rfl | omega) (hlt) (by first | rfl | omega)) ?_
    refine sW 3 rfl (fun a u E D hk=>XY _ _ Tryz.underlying85 _ _ _ rfl (dD D 1) (Kept.cell hk (HC.out))) ?_
    exact fz
   intro w1 k2
   simp only [F8]
   refine Jx (.int .i64 (i:Int)) rfl (JQ _ _ rfl (by kernel_rfl)) ?_
   simp only [Act.put,sA,sS,sZ]
   refine Jx (.pointer (some ⟨q,0,none⟩)) rfl (JQ _ _ rfl (by kernel_rfl)) ?_
   simp only [Act.put,sA,sS,sZ]
   refine Kx ?_
   have HLV1:=Kj (HLV.out.kept k2)
   have kw1:=hkr2.trans k2
   clear HC HLV k2
   obtain ⟨b,hb⟩:∃ b,(YQ t j X).2.1=b:=⟨_,rfl⟩
   obtain ⟨e,he⟩:∃ e,(YQ t j X).1=e:=⟨_,rfl⟩
   have HBB:=Kj hb
   have HEE:=Kj he
   clear hb he
   go_upto_region 7 with fail
   refine wEp 3 [pV q 0,iV t,iV j] [29,30,31] ?_ ?_
   ·refine mE 1 10 ?_
    refine mE 2 1 ?_
    refine mE 3 2 ?_
    exact fz
   intro w2 k2
   simp only [F8]
   refine Yz 61 #[.pointer (some ⟨q,0,none⟩),.int .i64 t,.int .i64 j] rfl (Jq 61 _ [.tmp 29,.tmp 30,.tmp 31] _ _ Tryz.func61 (by kernel_rfl) (by kernel_rfl) rfl (by kernel_rfl) _) ?_
   refine (rremove2_any w2 _ q X t j (HLV1.out.kept k2) (by have:=HX.out;simp only at this;omega)).mono ?_
   rintro r w3 ⟨Gq,rfl,hl3,hg3,hk3,hq3⟩
   refine ⟨.tuple #[e.v,.bool b],by rw [HBB.out,HEE.out],?_⟩
   rw [HBB.out] at hq3
   simp only [Act.put,sA,sS,sZ]
   refine Jx (.tuple #[e.v,.bool b]) rfl (Jj _ _ rfl (by kernel_rfl)) ?_
   simp only [Act.put,sA,sS,sZ]
   refine Jx (e.v) rfl (QU (.tmp 28) [e.v,.bool b] 0 (e.v) rfl (by kernel_rfl) rfl) ?_
   simp only [Act.put,sA,sS,sZ]
   refine Jx (.bool b) rfl (QU (.tmp 28) [e.v,.bool b] 1 (.bool b) rfl (by kernel_rfl) rfl) ?_
   simp only [Act.put,sA,sS,sZ]
   refine ZW (.pointer (some ⟨w3.heap.size,0,none⟩)) (w3.alloc (.cells JV.cells.toArray 30)) rfl (QW 30 JV.cells rfl zO) ?_
   have hNw4:=Blk.new w3 30 JV.cells
   have kw4:Kept w3 (w3.alloc (.cells JV.cells.toArray 30)):=(Keep.refl _ w3).alloc _
   generalize w3.alloc (.cells JV.cells.toArray 30)=w4 at hNw4 kw4 ⊢
   simp only [Act.put,sA,sS,sZ]
   refine Qj 30 w3.heap.size 30 JV.cells e.cells _ _ rfl rfl (by kernel_rfl) (by kernel_rfl) hNw4 (by rw [Ord.len9];exact JX) (by rw [Ord.len9,Ord.len9]) (Ord.one1 _) ?_
   intro w5 hB5 hk5 hs5
   simp only [Act.put]
   refine Jx (.bool b) rfl (JQ _ _ rfl (by kernel_rfl)) ?_
   simp only [Act.put,sA,sS,sZ]
   refine Kx ?_
   obtain ⟨b11,hb11⟩:∃ x,w3.heap.size=x:=⟨_,rfl⟩
   rw [hb11] at hNw4 hB5 hk5 ⊢
   have l11:=hB5.lt
   have K35:Kept w3 w5:=kw4.trans' hk5 (by omega)
   have kw2:=kw1.trans k2
   have HL3:=Kj hl3
   have HG3:=Kj hg3
   have HK3:=Kj hk3
   have HQ3:=Kj hq3
   have HB11:=Kj (JW hB5)
   have z2:=kw2.size
   have z3:=hk3.size
   have z5:=K35.size
   clear hl3 hk3 hq3 hg3 HLV1 k2 kw1 hNw4 hB5 hk5 hs5 kw4
   cases b with
   | true=>
    obtain ⟨h12,hB,hFs,hJ⟩:=HOP.out (by rw [HN.out];omega)
    obtain ⟨X',hX'⟩:∃ y,(YQ t j X).2.2=y:=⟨_,rfl⟩
    have HXe:=Kj hX'
    rw [hX'] at HL3
    have hXl:X'.length≤64:=by
     have h1:=HX.out
     simp only at h1
     rw [← hX']
     unfold YQ
     split
     ·exact h1
     simp only
     rw [List.length_eraseIdx]
     split <;> omega
    have HR:Hid (Yx t j L=(e,true,Vx (levs (Z.take i)) (levs (Z.drop (i+1))) (pr,X'))):=by
     show _=_
     have e1:L=levs (Z.take i)++(pr,X)::levs (Z.drop (i+1)):=by
      rw [← EL.out]
      conv=>lhs;rw [HZ.out]
      rw [WX,Wy]
     have e2:L.take i=levs (Z.take i):=by rw [← EL.out];simp [levs,List.map_take]
     rw [e2] at HM
     conv=>lhs;rw [e1]
     rw [removeL_at HM.out HBB.out,HEE.out,HXe.out]
    have HS:Hid (B.remove t j=(e,true,B.to (k:Int) (Vx (levs (Z.take i)) (levs (Z.drop (i+1))) (pr,X')) B.last B.no)):=remove_side h12 HNO.out (by rw [HLe.out];exact HR.out)
    obtain ⟨Fs',G',hW',hG',hk',_⟩:=WayZ.turn (A:=Z.take i) (R:=Z.drop (i+1)) (q:=q) (pr:=pr) (X:=X) (by rw [← HZ.out];exact HW.out.kept kw2) HK3.out HL3.out HG3.out
    have K3:Keep (fun b=>Fs b∨b=p) wo w3:=(Keep.mono (T:=fun b=>Fs b∨b=p) kw2 (fun _ _ h=>h.elim)).trans hk' (fun b _ hb=>.inl hb)
    have hB3:=(hB.kept kw2).keep hk' (fun h=>(hFs p h).2 rfl)
    obtain ⟨F',q1,q2,q3,_⟩:=hJ w3 _ _ _ _ _ K3 hB3 ⟨_,_,rfl,hW'⟩ (hG'.wide kw2.size)
    have h6F':¬ F' b6:=fun h=>(q2 b6 h).elim h6F (fun h=>by omega)
    have h11F':¬ F' b11:=fun h=>by have:=q1.lt b11 h;omega
    have Q5:=Kj (q1.kept K35)
    have HB65:Hid (Blk w5 b6 30 JV.cells):=(HB6o.out.keep q3 h6F).kept K35
    have g5:Grow w F F':=q2.wide (by omega)
    have k5:Keep F w w5:=((Keep.mono (T:=F) (kz.trans hkr) (fun _ _ h=>h.elim)).trans q3 (fun _ _ h=>h)).kept K35
    obtain ⟨_,_,vq,hq1,hq2,_⟩:=HL3.out.kept K35
    have HQ:=Kj (hq1.cell 1)
    have HQS:=Kj hq2
    have hli:(levs (Z.take i)).length=i:=by rw [YU,List.length_take,HN.out];omega
    have HLI:=Kj hli
    have hl2:(levs (Z.drop (i+1))).length=n-(i+1):=by rw [YU,List.length_drop,HN.out]
    have HLJ:=Kj hl2
    obtain ⟨A,hA⟩:∃ y,levs (Z.take i)=y:=⟨_,rfl⟩
    obtain ⟨R,hR⟩:∃ y,levs (Z.drop (i+1))=y:=⟨_,rfl⟩
    have hLS:levs (Z.take i++(q,pr,X')::Z.drop (i+1))=A++(pr,X')::R:=by rw [WX,Wy,hA,hR]
    rw [hLS] at Q5
    rw [hA,hR] at HS HR
    rw [hA] at HLI
    rw [hR] at HLJ
    clear HL3 HK3 HQ3 HG3 hW' hG' hk' K3 hB3 hB q1 q2 q3 hJ hFs hq1 hq2 hA hR hLS hli hl2 HZ HM hX' HXe HR HB6o HB6 HSL
    go_upto_region 9 with fail
    by_cases hem:X'.length=0
    ·skip
     refine wE 6 [pV q 0,pV q 0,pV q 1,vq,iV (X'.length:Int),bV true] [36,37,38,39,40,41] ?_ ?_
     ·refine mE 1 10 ?_
      refine nD 2 36 0 ?_
      refine fD 3 37 1 88 1 1 0 ?_
      refine sW 4 rfl (fun a u E D hk=>Jy _ _ Tryz.underlying86 _ _ _ rfl (dD D 2) (Kept.cell hk (HQ.out))) ?_
      refine sW 5 rfl (fun a u E D hk=>Qq _ slR _ _ _ _ rfl (dD D 3) HQS.out) ?_
      refine aS 6 rfl (fun a u E D hk=>JU rfl (dD D 4) rfl) (Ky (by omega)) ?_
      exact fz
     intro w6 k6
     simp only [F8]
     have HS2:Hid (B.remove t j=(e,true,B.to (k:Int) (A++R) B.last B.no)):=by
      show _=_
      rw [HS.out]
      unfold Vx
      rw [if_pos (by rw [List.eq_nil_of_length_eq_zero hem];rfl)]
     clear HS
     have HS:=HS2
     have hs12:(k:Int)=1∨(k:Int)=2:=by omega
     obtain ⟨v1,u1,Z1,G1,Fs1,e1,hW1,hB1,hFs1,hp1,hlt1,hJ1⟩:=(Q5.out.kept k6).open_ hs12
     rw [Bok.to_sd hs12] at e1
     have hZ1:Z1.length=n:=by
      have:=congrArg List.length e1
      rw [YU,List.length_append,List.length_cons,HLI.out,HLJ.out] at this
      omega
     have HS6:=Kj hW1.sl
     rw [hZ1] at HS6
     have HV6:=Kj (rsd_cell h12 hB1)
     have HB1:=Kj hB1
     have HW1:=Kj hW1
     have HJ1:=Kj hJ1
     have HF1:=Kj hFs1
     have E1:=Kj e1
     have HZ1:=Kj hZ1
     have H66:=Kj (HB65.out.kept k6)
     have HB116:=Kj (JJ HB11.out k6)
     have K6:=k5.kept k6
     have z6:=k6.size
     have hpl:=hlt1 p hp1
     obtain ⟨va,hva,hoa,hsa⟩:=yW Vy _ n i (by omega) _ w6 HS6.out
     obtain ⟨vb,hvb,hob,hsb⟩:=jX Vy _ n (i+1) (by omega) _ w6 HS6.out
     have HVA:=Kj hva
     have HVB:=Kj hvb
     have HSA:Hid (∀ u,Kept w6 u→Sl u 85 1 va i (ptrs (Z1.take i))):=fun u hk=>by
      have:=hsa u _ (HS6.out.kept hk)
      rwa [ptrs_take] at this
     have HSB:Hid (∀ u,Kept w6 u→Sl u 85 1 vb (n-(i+1)) (ptrs (Z1.drop (i+1)))):=fun u hk=>by
      have:=hsb u _ (HS6.out.kept hk)
      rwa [JJq] at this
     have hcast:((i+1:Nat):Int)=(i:Int)+1:=by omega
     rw [hcast] at HVB
     clear hva hoa hsa hvb hob hsb hB1 hW1 hJ1 hFs1 hlt1 e1 hZ1 Q5 HB65 HB11
     go_upto_region 10 with fail
     refine wp_freeQ 24 21 (fun i_:Nat=>i_ == 0 || i_ == 1 || i_ == 22 || i_ == 23) [.eq (.pointer (some ⟨p,0,none⟩)),.eq (.int .i64 (k:Int)),.emp w6.heap.size 85,.eq (.pointer (some ⟨p,0,none⟩)),.eq (.int .i64 (k:Int)),.eq (.pointer (some ⟨p,0,none⟩)),.eq (.pointer (some ⟨p,0,none⟩)),.eq (.pointer (some ⟨p,0+k*1,none⟩)),.eq (v1),.eq (.int .i64 (i:Int)),.eq (va),.sl w6.heap.size 85 1 i (ptrs (Z1.take i)),.eq (.pointer (some ⟨p,0,none⟩)),.eq (.int .i64 (k:Int)),.eq (.pointer (some ⟨p,0,none⟩)),.eq (.pointer (some ⟨p,0,none⟩)),.eq (.pointer (some ⟨p,0+k*1,none⟩)),.eq (v1),.eq (.int .i64 (i:Int)),.eq (.int .i64 ((i:Int)+1)),.eq (vb),.any,.eq (.pointer (some ⟨p,0,none⟩)),.eq (.pointer (some ⟨p,0,none⟩))] (fun i_:Nat=>if i_=0 then .pointer (some ⟨p,0,none⟩) else if i_=1 then .int .i64 (k:Int) else if i_=22 then .pointer (some ⟨p,0,none⟩) else if i_=23 then .pointer (some ⟨p,0,none⟩) else undef) ((fun v' u u'=>Sl u' 85 1 v' (i+(n-(i+1))) (ptrs (Z1.take i)++ptrs (Z1.drop (i+1)))∧(∀ b,v'.ownBlock=some b→w6.heap.size≤b)∧Keep (fun b=>w6.heap.size≤b) u u')) (by kernel_rfl) rfl (fun i_ hi_ hs_=>by have h_:i_=0∨i_=1∨i_=22∨i_=23:=(by simp at hs_;omega);rcases h_ with rfl | rfl | rfl | rfl <;> rfl) (by kernel_rfl) (by kernel_rfl) (by kernel_rfl) (fun i_ hi_ hs_=>by have h_:i_=0∨i_=1∨i_=22∨i_=23:=(by simp at hs_;omega);rcases h_ with rfl | rfl | rfl | rfl;exact (fun a u hE hD=>yj (o:=⟨some 42,_,_,_,_,_⟩) (.pointer (some ⟨p,0,none⟩)) rfl (JZ rfl _) (Jj (.tmp 0) _ rfl (eE hE)));exact (fun a u hE hD=>yj (o:=⟨some 43,_,_,_,_,_⟩) (.int .i64 (k:Int)) rfl (JZ rfl _) (Jj (.tmp 8) _ rfl (eE hE)));exact (fun a u hE hD=>yj (o:=⟨some 64,_,_,_,_,_⟩) (.pointer (some ⟨p,0,none⟩)) rfl (JZ rfl _) (YY (.tmp 42) ⟨p,0,none⟩ rfl (dD hD 0)));exact (fun a u hE hD=>yj (o:=⟨some 65,_,_,_,_,_⟩) (.pointer (some ⟨p,0,none⟩)) rfl (JZ rfl _) (QV 51 0 0 (.tmp 64) (p) (0) (0) rfl (dD hD 22) (by kernel_rfl) rfl))) ?_ (fun a u hE hD hk=> (by obtain ⟨v',u',hr,hs',hk',ho'⟩:=Qy Vy _ u (a.eval (.tmp 53)) vb i (n-(i+1)) _ _ ((hD 11 53 (by kernel_rfl))).1 (HSB.out u hk) (xV _) (by unfold maxLen;omega) (by omega);have hq:=((hD 11 53 (by kernel_rfl))).2;exact t_last (o:=⟨some 63,_,_,_,_,_⟩) (R:=(fun v' u u'=>Sl u' 85 1 v' (i+(n-(i+1))) (ptrs (Z1.take i)++ptrs (Z1.drop (i+1)))∧(∀ b,v'.ownBlock=some b→w6.heap.size≤b)∧Keep (fun b=>w6.heap.size≤b) u u')) (m:=21) (v:=v') (w':=u') rfl (JZ rfl _) (XQ Vy (.tmp 53) (.tmp 62) _ vb rfl rfl (dD hD 20) v' u' hr) ⟨hs',fun b hb=>(ho' b hb).elim (hq b) (fun h=>Kv hk.size h),hk'.mono (fun b _ hb=>hq b hb)⟩)) ?_
     ·refine Zy 1 rfl (by first | exact .inl rfl | exact .inr rfl) ?_
      refine Zy 2 rfl (by first | exact .inl rfl | exact .inr rfl) ?_
      refine QQ 3 rfl (fun a u hE hD hk=>jx (.slice (some ⟨u.heap.size,0,none⟩) 0 0) _ rfl (JZ rfl _) (Uy 48 85 1 rfl Vy.und (by kernel_rfl)) ⟨_,rfl,hk.size,Blk.new u _ _⟩ ((Keep.refl _ u).alloc _)) ?_
      refine QQ 4 rfl (fun a u hE hD hk=>YW _ rfl (JZ rfl _) (Jj (.tmp 0) _ rfl (eE hE)) rfl) ?_
      refine QQ 5 rfl (fun a u hE hD hk=>YW _ rfl (JZ rfl _) (Jj (.tmp 8) _ rfl (eE hE)) rfl) ?_
      refine QQ 6 rfl (fun a u hE hD hk=>YW _ rfl (JZ rfl _) (YY (.tmp 45) ⟨p,0,none⟩ rfl (dD hD 3)) rfl) ?_
      refine QQ 7 rfl (fun a u hE hD hk=>YW _ rfl (JZ rfl _) (QV 51 0 0 (.tmp 47) (p) (0) (0) rfl (dD hD 5) (by kernel_rfl) rfl) rfl) ?_
      refine QQ 8 rfl (fun a u hE hD hk=>YW _ rfl (JZ rfl _) (VU 49 48 3 1 (.tmp 48) (.tmp 46) p 0 k rfl Tryz.underlying49 (by kernel_rfl) (dD hD 6) (dD hD 4) (by omega)) rfl) ?_
      refine QQ 9 rfl (fun a u hE hD hk=>YW _ rfl (JZ rfl _) (Jy 48 _ Tryz.underlying48 (.tmp 49) ⟨p,0+k*1,none⟩ (v1) rfl (dD hD 7) (Kept.cell hk (HV6.out))) rfl) ?_
      refine QQ 10 rfl (fun a u hE hD hk=>YW _ rfl (JZ rfl _) (Jj (.tmp 9) _ rfl (eE hE)) rfl) ?_
      refine QQ 11 rfl (fun a u hE hD hk=>YW _ rfl (JZ rfl _) (Wx Vy (.tmp 50) (.tmp 51) _ va _ rfl (dD hD 8) (dD hD 9) (HVA.out u)) rfl) ?_
      refine QQ 12 rfl (fun a u hE hD hk=>(by obtain ⟨v',u',hr,hp,hkk⟩:=VW Vy _ u (a.eval (.tmp 44)) va i w6.heap.size _ ((dD hD 2)) (HSA.out u hk) (xV _) (by omega) (by omega) hk.size;exact jx v' u' rfl (JZ rfl _) (XQ Vy (.tmp 44) (.tmp 52) _ va rfl rfl (dD hD 10) v' u' hr) hp hkk)) ?_
      refine QQ 13 rfl (fun a u hE hD hk=>YW _ rfl (JZ rfl _) (Jj (.tmp 0) _ rfl (eE hE)) rfl) ?_
      refine QQ 14 rfl (fun a u hE hD hk=>YW _ rfl (JZ rfl _) (Jj (.tmp 8) _ rfl (eE hE)) rfl) ?_
      refine QQ 15 rfl (fun a u hE hD hk=>YW _ rfl (JZ rfl _) (YY (.tmp 54) ⟨p,0,none⟩ rfl (dD hD 12)) rfl) ?_
      refine QQ 16 rfl (fun a u hE hD hk=>YW _ rfl (JZ rfl _) (QV 51 0 0 (.tmp 56) (p) (0) (0) rfl (dD hD 14) (by kernel_rfl) rfl) rfl) ?_
      refine QQ 17 rfl (fun a u hE hD hk=>YW _ rfl (JZ rfl _) (VU 49 48 3 1 (.tmp 57) (.tmp 55) p 0 k rfl Tryz.underlying49 (by kernel_rfl) (dD hD 15) (dD hD 13) (by omega)) rfl) ?_
      refine QQ 18 rfl (fun a u hE hD hk=>YW _ rfl (JZ rfl _) (Jy 48 _ Tryz.underlying48 (.tmp 58) ⟨p,0+k*1,none⟩ (v1) rfl (dD hD 16) (Kept.cell hk (HV6.out))) rfl) ?_
      refine QQ 19 rfl (fun a u hE hD hk=>YW _ rfl (JZ rfl _) (Jj (.tmp 9) _ rfl (eE hE)) rfl) ?_
      refine QQ 20 rfl (fun a u hE hD hk=>YW _ rfl (JZ rfl _) (ZJ ((i:Int)+1) rfl (dD hD 18) rfl rfl (by omega) (by omega)) rfl) ?_
      refine QQ 21 rfl (fun a u hE hD hk=>YW _ rfl (JZ rfl _) (VX Vy (.tmp 59) (.tmp 61) _ vb _ rfl (dD hD 17) (dD hD 19) (HVB.out u)) rfl) ?_
      refine Zy 22 rfl (by first | exact .inl rfl | exact .inr rfl) ?_
      refine Zy 23 rfl (by first | exact .inl rfl | exact .inr rfl) ?_
      refine Zy 24 rfl (by first | exact .inl rfl | exact .inr rfl) ?_
      exact qsteps_nil
     intro gv w1 w7 hV h0 hR hk1
     rw [dq 24 [42,43,44,45,46,47,48,49,50,51,52,53,54,55,56,57,58,59,60,61,62,63,64,65]]
     simp only [Fz7]
     have hT:=hR 63 (by kernel_rfl)
     generalize gv 63=v63 at hT ⊢
     rw [show gv 42=.pointer (some ⟨p,0,none⟩) from h0 0 (by omega) rfl 42 (by kernel_rfl)]
     rw [show gv 43=.int .i64 (k:Int) from h0 1 (by omega) rfl 43 (by kernel_rfl)]
     rw [show gv 64=.pointer (some ⟨p,0,none⟩) from h0 22 (by omega) rfl 64 (by kernel_rfl)]
     rw [show gv 65=.pointer (some ⟨p,0,none⟩) from h0 23 (by omega) rfl 65 (by kernel_rfl)]
     clear hV h0 hR
     obtain ⟨hs7,ho7,hk7⟩:=hT
     have k67:=yZ hk1 hk7 (Nat.le_refl _)
     have hB7:=HB1.out.kept k67
     refine Jx (.pointer (some ⟨p,0+k*1,none⟩)) rfl (VU 49 48 3 1 (.tmp 65) (.tmp 43) p 0 k rfl Tryz.underlying49 (by kernel_rfl) rfl rfl (by omega)) ?_
     simp only [Act.put,sA,sS,sZ]
     refine Zz 48 p (0+k*1) 51 _ v63 _ _ rfl rfl (by kernel_rfl) (by kernel_rfl) (by kernel_rfl) (VV hs7) (Yq hs7) hB7 (by rw [rsd_len h12];omega) ?_
     intro w8 hB8 hk8 hs8
     simp only [Act.put]
     refine Kx ?_
     rw [rsd_set h12] at hB8
     have hsl:Sl w7 85 1 v63 (Z1.take i++Z1.drop (i+1)).length (ptrs (Z1.take i++Z1.drop (i+1))):=by
      rw [jz]
      rw [List.length_append,List.length_take,List.length_drop,HZ1.out,Nat.min_eq_left (by omega)]
      exact hs7
     have hk68:Keep (fun b=>Fs1 b∨b=p) w6 w8:=(Keep.mono (T:=fun b=>Fs1 b∨b=p) k67 (fun _ _ h=>h.elim)).trans hk8 (fun b _ e'=>.inr e')
     obtain ⟨Fs2,hW2,hG2,_,_⟩:=HW1.out.fewer (w':=w7) (Z':=Z1.take i++Z1.drop (i+1)) (v':=v63) (by rw [← List.eraseIdx_eq_take_drop_succ];exact List.eraseIdx_sublist _ _) (Keep.mono k67 (fun _ _ h=>h.elim)) hsl (fun b hb=>.inr (ho7 b hb))
     have hW3:=hW2.keep hk8 (fun b hb e'=>(hG2 b hb).elim (fun h=>(HF1.out b h).2 e') (fun h=>by have e2:b=p:=e';omega))
     have hLv:levs (Z1.take i++Z1.drop (i+1))=A++R:=by
      have a1:levs (Z1.take i)=A:=by
       have:levs (Z1.take i)=(levs Z1).take i:=by simp [levs,List.map_take]
       rw [this,E1.out,List.take_append_of_le_length (by have:=HLI.out;omega),List.take_of_length_le (by have:=HLI.out;omega)]
      have a2:levs (Z1.drop (i+1))=R:=by
       have:levs (Z1.drop (i+1))=(levs Z1).drop (i+1):=by simp [levs,List.map_drop]
       rw [this,E1.out,← HLI.out,drop_past]
      rw [WX,a1,a2]
     obtain ⟨F2,q1,q2,q3,_⟩:=HJ1.out w8 _ _ _ _ _ hk68 hB8 ⟨_,_,rfl,hW3⟩ hG2
     rw [hLv,Bok.to_to hs12] at q1
     have Q8:=Kj q1
     have z67:=k67.size
     have hF2:¬ F2 b6:=fun h=>(q2 b6 h).elim h6F' (fun h=>by omega)
     have hb6p:b6≠p:=fun e'=>h6F' (by rw [e'];exact hp1)
     have hb11p:b11≠p:=fun e'=>h11F' (by rw [e'];exact hp1)
     have HB118:=Kj (XW (JJ HB116.out k67) hk8 hb11p)
     have H68:=Kj ((H66.out.kept k67).keep hk8 hb6p)
     have g8:Grow w F F2:=g5.trans q2 (by omega)
     have K8:Keep F w w8:=Keep.trans K6 q3 (fun b hb h=>(g5 b h).elim id (fun h=>by omega))
     have z8:=q3.size
     clear hs7 ho7 hk7 hk1 k67 hB7 hB8 hk8 hs8 hsl hk68 hW2 hG2 hW3 q1 q2 q3 HVA HVB HSA HSB HB116 H66
     go_upto_region 11 with fail
     refine wEp 1 [e.v] [67] ?_ ?_
     ·refine sE 1 11 b11 0 e.cells Tryz.underlying30 (fun u hk=>JJ HB118.out hk) (by rw [e.len9];exact JX) ?_
      exact fz
     intro wy ky
     simp only [F8]
     refine Qj 30 b6 30 JV.cells e.cells _ _ rfl rfl (by kernel_rfl) (by kernel_rfl) (H68.out.kept ky) (by rw [Ord.len9];exact JX) (by rw [Ord.len9,Ord.len9]) (Ord.one1 _) ?_
     intro wv hBv hkv hsv
     simp only [Act.put]
     refine Jx (.bool true) rfl (JQ _ _ rfl (by kernel_rfl)) ?_
     simp only [Act.put,sA,sS,sZ]
     refine Kx ?_
     go_wp2
     refine bodyPost_ret (XU (p:=6) (q:=7) rfl _ _ b6 _ e.cells true rfl rfl hBv Tryz.underlying30 (by rw [Ord.len9];exact JX)) rfl ?_
     rw [HS.out]
     exact ⟨rfl,F2,(Q8.out.kept ky).keep hkv (fun b hb e'=>hF2 (by have e2:b=b6:=e';rw [← e2];exact hb)),g8,(K8.kept ky).new hkv (by omega)⟩
    skip
    refine wE 6 [pV q 0,pV q 0,pV q 1,vq,iV (X'.length:Int),bV false] [36,37,38,39,40,41] ?_ ?_
    ·refine mE 1 10 ?_
     refine nD 2 36 0 ?_
     refine fD 3 37 1 88 1 1 0 ?_
     refine sW 4 rfl (fun a u E D hk=>Jy _ _ Tryz.underlying86 _ _ _ rfl (dD D 2) (Kept.cell hk (HQ.out))) ?_
     refine sW 5 rfl (fun a u E D hk=>Qq _ slR _ _ _ _ rfl (dD D 3) HQS.out) ?_
     refine aS 6 rfl (fun a u E D hk=>JU rfl (dD D 4) rfl) (Ku (by omega)) ?_
     exact fz
    intro w6 k6
    simp only [F8]
    have HS2:Hid (B.remove t j=(e,true,B.to (k:Int) (A++(pr,X')::R) B.last B.no)):=by
     show _=_
     rw [HS.out]
     unfold Vx
     rw [if_neg (by cases X' with | nil=>exact absurd rfl hem | cons a b=>simp)]
    clear HS
    have HS:=HS2
    have Q6:=Kj (Q5.out.kept k6)
    have H66:=Kj (HB65.out.kept k6)
    have HB116:=Kj (JJ HB11.out k6)
    have K6:=k5.kept k6
    have z6:=k6.size
    go_upto_region 11 with fail
    refine wEp 1 [e.v] [67] ?_ ?_
    ·refine sE 1 11 b11 0 e.cells Tryz.underlying30 (fun u hk=>JJ HB116.out hk) (by rw [e.len9];exact JX) ?_
     exact fz
    intro wy ky
    simp only [F8]
    refine Qj 30 b6 30 JV.cells e.cells _ _ rfl rfl (by kernel_rfl) (by kernel_rfl) (H66.out.kept ky) (by rw [Ord.len9];exact JX) (by rw [Ord.len9,Ord.len9]) (Ord.one1 _) ?_
    intro wv hBv hkv hsv
    simp only [Act.put]
    refine Jx (.bool true) rfl (JQ _ _ rfl (by kernel_rfl)) ?_
    simp only [Act.put,sA,sS,sZ]
    refine Kx ?_
    go_wp2
    refine bodyPost_ret (XU (p:=6) (q:=7) rfl _ _ b6 _ e.cells true rfl rfl hBv Tryz.underlying30 (by rw [Ord.len9];exact JX)) rfl ?_
    rw [HS.out]
    exact ⟨rfl,F',(Q6.out.kept ky).keep hkv (fun b hb e'=>h6F' (by have e2:b=b6:=e';rw [← e2];exact hb)),g5,(K6.kept ky).new hkv (by omega)⟩
   | false=>
    have kw3:=(kw2.trans (HQ3.out rfl)).trans K35
    have HM1:Hid (∀ x ∈ L.take (i+1),(YQ t j x.2).2.1=false):=by
     intro x hx
     rw [List.take_add_one,HA.out] at hx
     rcases List.mem_append.1 hx with hx | hx
     ·exact HM.out x hx
     simp at hx
     subst hx
     exact HBB.out
    clear HL3 HK3 HQ3 HM HG3 K35
    go_wp2
    exact ⟨⟨i+1,by omega,by go_num,HM1,kw3⟩,by simp [intOf];omega⟩
  have HN4:Hid (∀ s:Nat,s<k+1→(Yx t j (B.sd (s:Int))).2.1=false):=by
   intro s hs
   by_cases hsk:s=k
   ·subst hsk
    rw [HLe.out,removeL_no fun x hx=>HM.out x (by rw [List.take_of_length_le (by rw [← EL.out,YU,HN.out];omega)];exact hx)]
   exact HNO.out s (by omega)
  have kwr:=hkr.trans hkr2
  clear HM
  go_wp2
  exact ⟨⟨k+1,by omega,by go_num,HN4,kwr⟩,by simp [intOf];omega⟩
 have hk':k=3:=by omega
 subst hk'
 have HS:Hid (B.remove t j=(JV,false,B)):=bremove_none HNO.out
 have HB6r:=Kj (HB6.out.kept hkr)
 have zr:=hkr.size
 clear HNO
 go_upto_region 14 with fail
 refine wEp 1 [JV.v] [70] ?_ ?_
 ·refine sW 1 rfl (fun a u E D hk=>YJ 30 [] JV.cells rfl (by kernel_rfl)) ?_
  exact fz
 intro w4 k4
 simp only [F8]
 refine Qj 30 b6 30 JV.cells JV.cells _ _ rfl rfl (by kernel_rfl) (by kernel_rfl) (HB6r.out.kept k4) (by rw [Ord.len9];exact JX) rfl (Ord.one1 _) ?_
 intro w5 hB5 hk5 hs5
 simp only [Act.put]
 refine Jx (.bool false) rfl (JQ _ _ rfl (by kernel_rfl)) ?_
 simp only [Act.put,sA,sS,sZ]
 refine Kx ?_
 go_wp2
 refine bodyPost_ret (XU (p:=6) (q:=7) rfl _ _ b6 _ JV.cells false rfl rfl hB5 Tryz.underlying30 (by rw [Ord.len9];exact JX)) rfl ?_
 rw [HS.out]
 exact ⟨F,rfl,((HBz.out.kept hkr).kept k4).keep hk5 (fun b hb e=>h6F (by have e2:b=b6:=e;rw [← e2];exact hb)),Grow.refl _ _,((Keep.mono (T:=F) ((kz.trans hkr).trans k4) (fun _ _ h=>h.elim))).new hk5 (by omega)⟩
theorem sl_ne {w:World} {T T':TypeId} {k n q:Nat} {v:Value} {cs ds:List Value} (h:Sl w T k v n cs) (hb:Blk w q T' ds) (ht:T'≠T):∀ b,v.ownBlock=some b→b≠q:=by
 intro b hv e
 obtain ⟨_,A,c,rfl,_,_,_,h4⟩:=h
 cases A with
 | none=>simp [Value.ownBlock] at hv
 | some ad=>
  obtain ⟨g,off,cur,rfl,hB,_⟩:=h4 _ rfl
  simp [Value.ownBlock] at hv
  subst hv
  subst e
  unfold Blk at hB hb
  rw [hB] at hb
  injection hb with hb
  injection hb with _ hb _
  exact ht hb.symm
def Kn.oner (base:Nat) (pr:Int):Kn:=⟨fun v w=>∃ g q,v=.slice (some ⟨g,0,none⟩) 1 1∧Blk w g 85 [.pointer (some ⟨q,0,none⟩)]∧Blk w q 88 [.int .i64 pr,.slice none 0 0]∧base≤q∧base≤g,fun _ _ _ ⟨g,q,h1,h2,h3,h4⟩ hk=>⟨g,q,h1,h2.kept hk,h3.kept hk,h4⟩⟩
def OneIn (base:Nat) (pr:Int) (i:Nat) (A:List Value):Value→World→World→Prop:=fun v' u u'=>∃ q,base≤q∧Blk u' q 88 [.int .i64 pr,.slice none 0 0]∧Sl u' 85 1 v' (i+1) (A++[.pointer (some ⟨q,0,none⟩)])∧(∀ b,v'.ownBlock=some b→base≤b)∧Keep (fun b=>base≤b) u u'
def yq (x:Int):List Value:=[.int .i64 x,.slice none 0 0]
theorem built_rl (x:Int):Tryz.prog.built 88 [(0,.int .i64 x)]=some (yq x).toArray:=by kernel_rfl
theorem exec_brl {a:Act} {o:Oper} {u:World} (x:Operand) (p:Int) (hop:o.op=.build 88 #[(0,x)]) (hx:a.eval x=.int .i64 p):(execOp a.eval o).run Tryz.prog u=.ok (.value (.agg (yq p).toArray)) u:=
 YJ _ [(0,x)] (yq p) hop (by simp only [List.map_cons,List.map_nil,hx];exact built_rl p)
theorem lvl_new {w:World} {q:Nat} {pr:Int} (h:Blk w q 88 [.int .i64 pr,.slice none 0 0]):Lvl pr 88 90 w (·=q) q []:=
 ⟨rfl,fun b e=>by rw [e];exact h.lt,_,h,Sl.nil _ _ _,fun b hb=>by simp [Value.ownBlock] at hb⟩
theorem sl_one1 {w:World} {g:Nat} {T:TypeId} {x:Value} (h:Blk w g T [x]):Sl w T 1 (.slice (some ⟨g,0,none⟩) 1 1) 1 [x]:=
 ⟨rfl,_,1,rfl,Nat.le_refl _,by unfold maxLen;omega,fun h=>(by cases h),fun ad had=>by injection had with had;subst had;exact ⟨g,0,[x],rfl,h,by simp,by simp⟩⟩
theorem ptr_one (q:Nat):∀ u ∈ [Value.pointer (some ⟨q,0,none⟩)],u.oneCell'=true:=by intro u hu;simp at hu;subst hu;rfl
theorem rbrest_any (w:World) (F:Nat→Prop) (p:Nat) (B:Bok) (o:Ord) (h:RBk w F p B) (hs:o.side=1∨o.side=2) (hL:LvsOk (B.sd o.side)) :
  Calls Tryz.prog 56 #[.pointer (some ⟨p,0,none⟩),o.v] w fun r w'=>∃ F',r=.returned (.tuple #[])∧RBk w' F' p (B.to o.side (Wj o (B.sd o.side)) B.last B.no)∧Grow w F F'∧Keep F w w':=by
 obtain ⟨k,h12,hk⟩:∃ k:Nat,(k=1∨k=2)∧o.side=(k:Int):=by
  rcases hs with hs | hs
  ·exact ⟨1,.inl rfl,hs⟩
  exact ⟨2,.inr rfl,hs⟩
 have hs12:(k:Int)=1∨(k:Int)=2:=by omega
 obtain ⟨L,hLe⟩:∃ L,B.sd o.side=L:=⟨_,rfl⟩
 rw [hLe] at hL ⊢
 have HLE:Hid (B.sd (k:Int)=L):=by show _=_;rw [← hk];exact hLe
 have HSD:=Kj hk
 have hFl:=h.lt
 have HK:=Kj h
 have HL:=Kj hL
 have hpF:=h.1
 clear h hL hLe hk hs
 go_enter Tryz.func56,Tryz.ntmps56
 go_upto_region 0 with fail
 refine QZ 1 [.fresh w.heap.size 30 (o.cells)] rfl (by kernel_rfl) ?_ ?_
 ·refine nW 1 rfl (fun a u E D hk=>⟨_,_,YX 30 _ (o.cells) rfl (eE E),⟨_,rfl,hk.size,Blk.new u _ _⟩,((Keep.refl _ u).alloc _)⟩) ?_
  exact fz
 intro gv w0 hV k0
 rw [dq 1 [3]]
 simp only [Fz7]
 have hv3:(.fresh w.heap.size 30 (o.cells):Kn).p (gv 3) w0:=hV 0 3 (by kernel_rfl)
 generalize gv 3=v3 at hv3 ⊢
 clear hV
 obtain ⟨g,rfl,hg,hB⟩:=hv3
 refine Kx ?_
 have z0:=k0.size
 have lg:=hB.lt
 have HO:=Kj (JW hB)
 have HOS:Hid (w0.cell? ⟨g,3,none⟩=some (.int .i64 (k:Int))):=by show _=_;rw [hB.cell,← HSD.out];rfl
 obtain ⟨v,u0,Z,G,Fs,eL,hW,hBk,hFs,hp,hlt,hJ⟩:=(HK.out.kept k0).open_ hs12
 rw [HLE.out] at eL
 have hn64:Z.length≤64:=by have:=HL.out.len;rw [← eL,YU] at this;exact this
 obtain ⟨n,hn⟩:∃ n,Z.length=n:=⟨_,rfl⟩
 rw [hn] at hn64
 have HN:=Kj hn
 have HV:=Kj (rsd_cell h12 hBk)
 have HW:=Kj hW
 have HBk:=Kj hBk
 have EL:=Kj eL
 have HJ:=Kj hJ
 have hgS:¬ (Fs g∨g=p):=fun h=>by
  rcases h with h | h
  ·have:=hFl g (hFs g h).1;omega
  have:=hFl p hpF;omega
 have HGS:=Kj hgS
 have hpl:=hFl p hpF
 have hpFs:¬ Fs p:=fun h=>(hFs p h).2 rfl
 have HFs:=Kj hFs
 have HPF:=Kj hpFs
 clear hW hBk eL hJ hFs hB hgS hn hlt hpFs
 go_upto_region 1 with fail
 refine wGp 7 [pV p 0,pV g 3,iV (k:Int),pV p 0,pV p 0,pV p (0+k*1),v] [6,7,8,9,10,11,12] ?_ ?_
 ·refine mE 1 0 ?_
  refine fE 2 3 30 3 3 0 ?_
  refine lD 3 7 1 Tryz.underlying3 (fun u hk=>Kept.cell hk (HOS.out)) ?_
  refine nD 4 6 0 ?_
  refine fD 5 9 3 51 0 0 0 ?_
  refine sW 6 rfl (fun a u E D hk=>VU 49 48 3 1 _ _ p 0 k rfl Tryz.underlying49 (by kernel_rfl) (dD D 4) (dD D 2) (by omega)) ?_
  refine sW 7 rfl (fun a u E D hk=>Jy _ _ Tryz.underlying48 _ _ _ rfl (dD D 5) (Kept.cell hk (HV.out))) ?_
  exact fz
 intro w1 k1
 simp only [F8]
 refine Jx (v) rfl (JQ _ _ rfl (by kernel_rfl)) ?_
 simp only [Act.put,sA,sS,sZ]
 refine Kx ?_
 go_wp2_with fail
 go_loopw [5] (fun x wr=>∃ (i:Nat),i≤n∧x=.int .i64 (i:Int)∧Hid (∀ x ∈ L.take i,bet o.side x.1 o.price=true)∧Kept w0 wr) (fun x _=>n-(intOf x).toNat)
 case atStart=>exact ⟨0,Nat.zero_le _,rfl,by intro x hx;simp at hx,k1⟩
 obtain ⟨i,hi,rfl,HM,hkr⟩:=hrel
 have HOr:=Kj (JJ HO.out hkr)
 have HSLr:Hid (Sl wr 85 1 v n (ptrs Z)):=by show Sl _ _ _ _ _ _;have:=(HW.out.kept hkr).sl;rw [HN.out] at this;exact this
 by_cases hlt:i<n
 ·obtain ⟨gs,os,c,rfl⟩:=HSLr.out.some_ (by omega)
  obtain ⟨z,hz⟩:∃ z,Z[i]?=some z:=⟨Z[i]'(by rw [HN.out];omega),List.getElem?_eq_getElem (by rw [HN.out];omega)⟩
  obtain ⟨q,pr,X⟩:=z
  have HC:=Kj ((HW.out.kept hkr).cell hz)
  have HZ:=Kj (split_at hz)
  have HPC:Hid (wr.cell? ⟨q,0,none⟩=some (.int .i64 pr)):=by
   show _=_
   obtain ⟨_,_,x,hx,_⟩:=(HW.out.kept hkr).lv (q,pr,X) (List.mem_of_getElem? hz)
   rw [hx.cell]
   rfl
  have HX:=Kj (HL.out.one (l:=(pr,X)) (by rw [← EL.out];exact qq (List.mem_of_getElem? hz)))
  have HA:Hid (L[i]?=some (pr,X)):=by show _=_;rw [← EL.out];exact qU hz
  clear hz
  go_upto_region 3 with fail
  refine wG 18 [iV (i:Int),.slice (some ⟨gs,os,none⟩) n c,iV (n:Int),bV true,bV true,pV g 3,iV o.side,.slice (some ⟨gs,os,none⟩) n c,iV (i:Int),pV gs (os+i*1),pV q 0,pV q 0,pV q 0,iV pr,pV g 5,iV o.price,bV (bet o.side pr o.price),bV (bet o.side pr o.price)] [13,14,15,16,17,18,19,20,21,22,23,24,25,26,27,28,29,30] ?_ ?_
  ·refine mE 1 5 ?_
   refine mE 2 4 ?_
   refine sW 3 rfl (fun a u E D hk=>Qq _ Vy _ _ _ _ rfl (dD D 1) HSLr.out) ?_
   refine aS 4 rfl (fun a u E D hk=>Wq rfl (dD D 0) (dD D 2)) (Ky (by omega)) ?_
   refine mD 5 16 3 ?_
   refine fE 6 3 30 3 3 0 ?_
   refine lD 7 18 5 Tryz.underlying3 (fun u hk=>JY (JJ HOr.out hk) 3 _ rfl) ?_
   refine mE 8 4 ?_
   refine mE 9 5 ?_
   refine sW 10 rfl (fun a u E D hk=>Jz Vy _ _ (gs) (os) n c i (os+i*1) ((i:Int)) rfl (dD D 7) (dD D 8) (by first | rfl | omega) (hlt) (by first | rfl | omega)) ?_
   refine sW 11 rfl (fun a u E D hk=>XY _ _ Tryz.underlying85 _ _ _ rfl (dD D 9) (Kept.cell hk (HC.out))) ?_
   refine nD 12 23 10 ?_
   refine fD 13 24 11 88 0 0 0 ?_
   refine lD 14 25 12 Tryz.underlying3 (fun u hk=>Kept.cell hk (HPC.out)) ?_
   refine fE 15 3 30 5 5 0 ?_
   refine lD 16 27 14 Tryz.underlying3 (fun u hk=>JY (JJ HOr.out hk) 5 _ rfl) ?_
   refine cS 17 77 [.int .i64 o.side,.int .i64 pr,.int .i64 o.price] rfl Tryz.func77 rfl (fun a u E D hk=>⟨ll (dD D 6) (ll (dD D 13) (ll (dD D 15) rfl)),refBetter_any o.side pr o.price u⟩) ?_
   refine pT 18 17 29 4 16 ?_
   exact fz
  intro w2 k2
  simp only [F8]
  have kw2:=hkr.trans k2
  have HO2:=Kj (JJ HOr.out k2)
  have HC2:=Kj (k2.cell HC.out)
  have HPC2:=Kj (k2.cell HPC.out)
  have HSL2:=Kj (HSLr.out.kept k2)
  clear HC HPC HSLr HOr k2 hkr
  cases hb:bet o.side pr o.price with
  | true=>
   have HM1:Hid (∀ x ∈ L.take (i+1),bet o.side x.1 o.price=true):=by
    intro x hx
    rw [List.take_add_one,HA.out] at hx
    rcases List.mem_append.1 hx with hx | hx
    ·exact HM.out x hx
    simp at hx
    subst hx
    exact hb
   clear HM hb
   go_wp2
   exact ⟨⟨i+1,by omega,by go_num,HM1,kw2⟩,by simp [intOf];omega⟩
  | false=>
   have HD:Hid (L=levs (Z.take i)++(pr,X)::levs (Z.drop (i+1))):=by
    show _=_
    rw [← EL.out]
    conv=>lhs;rw [HZ.out]
    rw [WX,Wy]
   have HT:Hid (∀ x ∈ levs (Z.take i),bet o.side x.1 o.price=true):=by
    have e2:L.take i=levs (Z.take i):=by rw [← EL.out];simp [levs,List.map_take]
    rw [e2] at HM
    exact HM.out
   have HBF:=Kj hb
   clear hb HM
   by_cases hpr:pr=o.price
   ·have HPR:=Kj hpr
    clear hpr
    go_upto_region 5 with fail
    refine wG 16 [iV (i:Int),.slice (some ⟨gs,os,none⟩) n c,iV (n:Int),bV false,bV false,.slice (some ⟨gs,os,none⟩) n c,iV (i:Int),pV gs (os+i*1),pV q 0,pV q 0,pV q 0,iV pr,pV g 5,iV o.price,bV false,bV false] [33,34,35,36,37,38,39,40,41,42,43,44,45,46,47,48] ?_ ?_
    ·refine mE 1 5 ?_
     refine mE 2 4 ?_
     refine sW 3 rfl (fun a u E D hk=>Qq _ Vy _ _ _ _ rfl (dD D 1) HSL2.out) ?_
     refine aS 4 rfl (fun a u E D hk=>JU rfl (dD D 0) (dD D 2)) (Ku (by omega)) ?_
     refine mD 5 36 3 ?_
     refine mE 6 4 ?_
     refine mE 7 5 ?_
     refine sW 8 rfl (fun a u E D hk=>Jz Vy _ _ (gs) (os) n c i (os+i*1) ((i:Int)) rfl (dD D 5) (dD D 6) (by first | rfl | omega) (hlt) (by first | rfl | omega)) ?_
     refine sW 9 rfl (fun a u E D hk=>XY _ _ Tryz.underlying85 _ _ _ rfl (dD D 7) (Kept.cell hk (HC2.out))) ?_
     refine nD 10 41 8 ?_
     refine fD 11 42 9 88 0 0 0 ?_
     refine lD 12 43 10 Tryz.underlying3 (fun u hk=>Kept.cell hk (HPC2.out)) ?_
     refine fE 13 3 30 5 5 0 ?_
     refine lD 14 45 12 Tryz.underlying3 (fun u hk=>JY (JJ HO2.out hk) 5 _ rfl) ?_
     refine aS 15 rfl (fun a u E D hk=>YZ rfl (dD D 11) (dD D 13)) (Ku (by have:=HPR.out;omega)) ?_
     refine sW 16 rfl (fun a u E D hk=>Zj _ _ _ _ rfl (dD D 4) (dD D 14)) ?_
     exact fz
    intro w3 k3
    simp only [F8]
    have kw3:=kw2.trans k3
    have HRM:Hid (Wj o L=levs (Z.take i)++(o.price,X++[Ent.of o])::levs (Z.drop (i+1))):=by
     show _=_
     rw [HD.out,restM_at HT.out,Wj,if_neg (by rw [HBF.out];simp),if_pos HPR.out,HPR.out]
    have HWX:Hid (WayZ 88 90 85 w3 Fs (.slice (some ⟨gs,os,none⟩) n c) (Z.take i++(q,o.price,X)::Z.drop (i+1)) G):=by show WayZ _ _ _ _ _ _ _ _;rw [← HPR.out,← HZ.out];exact HW.out.kept kw3
    have HCX:=Kj (k3.cell HC2.out)
    have HBX:=Kj (HBk.out.kept kw3)
    have HOX:=Kj (JJ HO2.out k3)
    have gX:Grow w0 Fs Fs:=Grow.refl _ _
    have kX:Keep (fun b=>Fs b∨b=p) w0 w3:=Keep.mono (T:=fun b=>Fs b∨b=p) kw3 (fun _ _ h=>h.elim)
    clear HO2 HC2 HPC2 HSL2 k3 kw2 kw3 HD HT HBF HA HZ
    have zX:=kX.size
    go_upto_region 7 with fail
    refine wGp 5 [.slice (some ⟨gs,os,none⟩) n c,iV (i:Int),pV gs (os+i*1),pV q 0,o.v] [64,65,66,67,68] ?_ ?_
    ·refine mE 1 4 ?_
     refine mE 2 5 ?_
     refine sW 3 rfl (fun a u E D hk=>Jz Vy _ _ (gs) (os) n c i (os+i*1) ((i:Int)) rfl (dD D 0) (dD D 1) (by first | rfl | omega) (hlt) (by first | rfl | omega)) ?_
     refine sW 4 rfl (fun a u E D hk=>XY _ _ Tryz.underlying85 _ _ _ rfl (dD D 2) (Kept.cell hk (HCX.out))) ?_
     refine sE 5 3 g 0 o.cells Tryz.underlying30 (fun u hk=>JJ HOX.out hk) (by rw [o.len9];exact JX) ?_
     exact fz
    intro wa ka
    simp only [F8]
    have hWa:=HWX.out.kept ka
    refine Yz 78 #[.pointer (some ⟨q,0,none⟩),o.v] rfl (Jq 78 _ [.tmp 67,.tmp 68] _ _ Tryz.func78 (by kernel_rfl) (by kernel_rfl) rfl (by kernel_rfl) _) ?_
    refine (radd_any wa _ q X o (hWa.lv (q,o.price,X) (by simp)) (by have:=HX.out;simp only at this;omega)).mono ?_
    rintro r wb ⟨F6,rfl,hl6,hg6,hk6⟩
    refine ⟨_,rfl,?_⟩
    simp only [Act.put,sA,sS,sZ]
    refine Kx ?_
    obtain ⟨Fs2,G2,hWb,hGb,hkb,_⟩:=hWa.turn hk6 hl6 hg6
    have za:=ka.size
    have zb:=hkb.size
    have hpX:¬ Fs p:=fun h=>(gX p h).elim HPF.out (fun h=>by omega)
    have hgX2:¬ Fs g:=fun h=>(gX g h).elim (fun h=>HGS.out (.inl h)) (fun h=>by omega)
    have HBb:=Kj ((HBX.out.kept ka).keep hkb hpX)
    have HOb:=Kj (XW (JJ HOX.out ka) hkb hgX2)
    have kb:Keep (fun b=>Fs b∨b=p) w0 wb:=(kX.kept ka).trans hkb (fun b hb h=>(gX b h).elim .inl (fun h=>by omega))
    have gb:Grow w0 Fs Fs2:=gX.trans hGb (by omega)
    have HWb:=Kj hWb
    have HOSb:Hid (wb.cell? ⟨g,3,none⟩=some (.int .i64 (k:Int))):=by show _=_;rw [← HSD.out];exact JY HOb.out 3 _ rfl
    clear hWa hl6 hg6 hk6 hWb hGb hkb HWX HBX HOX HCX ka hpX
    go_upto_region 8 with fail
    refine wGp 7 [pV p 0,pV g 3,iV (k:Int),.slice (some ⟨gs,os,none⟩) n c,pV p 0,pV p 0,pV p (0+k*1)] [70,71,72,73,74,75,76] ?_ ?_
    ·refine mE 1 0 ?_
     refine fE 2 3 30 3 3 0 ?_
     refine lD 3 71 1 Tryz.underlying3 (fun u hk=>Kept.cell hk (HOSb.out)) ?_
     refine mE 4 4 ?_
     refine nD 5 70 0 ?_
     refine fD 6 74 4 51 0 0 0 ?_
     refine sW 7 rfl (fun a u E D hk=>VU 49 48 3 1 _ _ p 0 k rfl Tryz.underlying49 (by kernel_rfl) (dD D 5) (dD D 2) (by omega)) ?_
     exact fz
    intro wc kc
    simp only [F8]
    refine Zz 48 p (0+k*1) 51 _ (.slice (some ⟨gs,os,none⟩) n c) _ _ rfl rfl (by kernel_rfl) (by kernel_rfl) (by kernel_rfl) rfl rfl (HBb.out.kept kc) (by rw [rsd_len h12];omega) ?_
    intro wd hBd hkd hsd
    simp only [Act.put]
    refine Kx ?_
    rw [rsd_set h12] at hBd
    have hpb:¬ Fs2 p:=fun h=>(gb p h).elim HPF.out (fun h=>by omega)
    have hWd:=(HWb.out.kept kc).keep hkd (fun b hb e=>hpb (by have e2:b=p:=e;rw [← e2];exact hb))
    have kd:Keep (fun b=>Fs b∨b=p) w0 wd:=(kb.kept kc).trans hkd (fun b _ e=>.inr e)
    obtain ⟨F',q1,q2,q3,_⟩:=HJ.out wd _ _ _ _ _ kd hBd ⟨_,_,rfl,hWd⟩ gb
    have HR:Hid (RBk wd F' p (B.to o.side (Wj o L) B.last B.no)):=by
     show RBk _ _ _ _
     rw [HRM.out,HSD.out]
     rw [WX,Wy] at q1
     exact q1
    have Q2:Grow w F F':=q2.wide z0
    have Q3:Keep F w wd:=Keep.any k0 q3
    clear q1 q2 q3 hWd hBd hkd kd kc kb gb HWb HBb HOb HOSb hpb
    go_wp2
    go_end0
    first | exact ⟨rfl,F',HR.out,Q2,Q3⟩ | exact ⟨F',rfl,HR.out,Q2,Q3⟩
   go_upto_region 5 with fail
   refine wG 16 [iV (i:Int),.slice (some ⟨gs,os,none⟩) n c,iV (n:Int),bV false,bV false,.slice (some ⟨gs,os,none⟩) n c,iV (i:Int),pV gs (os+i*1),pV q 0,pV q 0,pV q 0,iV pr,pV g 5,iV o.price,bV true,bV true] [33,34,35,36,37,38,39,40,41,42,43,44,45,46,47,48] ?_ ?_
   ·refine mE 1 5 ?_
    refine mE 2 4 ?_
    refine sW 3 rfl (fun a u E D hk=>Qq _ Vy _ _ _ _ rfl (dD D 1) HSL2.out) ?_
    refine aS 4 rfl (fun a u E D hk=>JU rfl (dD D 0) (dD D 2)) (Ku (by omega)) ?_
    refine mD 5 36 3 ?_
    refine mE 6 4 ?_
    refine mE 7 5 ?_
    refine sW 8 rfl (fun a u E D hk=>Jz Vy _ _ (gs) (os) n c i (os+i*1) ((i:Int)) rfl (dD D 5) (dD D 6) (by first | rfl | omega) (hlt) (by first | rfl | omega)) ?_
    refine sW 9 rfl (fun a u E D hk=>XY _ _ Tryz.underlying85 _ _ _ rfl (dD D 7) (Kept.cell hk (HC2.out))) ?_
    refine nD 10 41 8 ?_
    refine fD 11 42 9 88 0 0 0 ?_
    refine lD 12 43 10 Tryz.underlying3 (fun u hk=>Kept.cell hk (HPC2.out)) ?_
    refine fE 13 3 30 5 5 0 ?_
    refine lD 14 45 12 Tryz.underlying3 (fun u hk=>JY (JJ HO2.out hk) 5 _ rfl) ?_
    refine aS 15 rfl (fun a u E D hk=>YZ rfl (dD D 11) (dD D 13)) (Ky hpr) ?_
    refine sW 16 rfl (fun a u E D hk=>Zj _ _ _ _ rfl (dD D 4) (dD D 14)) ?_
    exact fz
   intro w3 k3
   simp only [F8]
   have kw3:=kw2.trans k3
   have HRM:Hid (Wj o L=levs (Z.take i)++(o.price,[]++[Ent.of o])::levs (Z.drop i)):=by
    show _=_
    have e5:levs (Z.drop i)=(pr,X)::levs (Z.drop (i+1)):=by
     have:Z.drop i=(q,pr,X)::Z.drop (i+1):=by
      conv=>lhs;rw [HZ.out]
      rw [List.drop_append,List.drop_of_length_le (by rw [List.length_take];omega),List.nil_append,List.length_take,HN.out,Nat.min_eq_left (by omega),Nat.sub_self]
      rfl
     rw [this]
     rfl
    rw [e5,HD.out,restM_at HT.out,Wj,if_neg (by rw [HBF.out];simp),if_neg (fun h=>hpr h)]
    rfl
   have HO3:=Kj (JJ HO2.out k3)
   clear HO2 HC2 HPC2 HSL2 k3 kw2 HD HT HBF HA HZ hpr HX
   have HWW:=Kj (HW.out.kept kw3)
   have HBW:=Kj (HBk.out.kept kw3)
   have HSW:Hid (Sl w3 85 1 (.slice (some ⟨gs,os,none⟩) n c) n (ptrs Z)):=by show Sl _ _ _ _ _ _;have:=HWW.out.sl;rw [HN.out] at this;exact this
   have z3:=kw3.size
   obtain ⟨va,hva,hoa,hsa⟩:=yW Vy _ n i (by omega) _ w3 HSW.out
   obtain ⟨vb,hvb,hob,hsb⟩:=jX Vy _ n i (by omega) _ w3 HSW.out
   have HVA:=Kj hva
   have HVB:=Kj hvb
   have HSA:Hid (∀ u,Kept w3 u→Sl u 85 1 va i (ptrs (Z.take i))):=fun u hk=>by
    have:=hsa u _ (HSW.out.kept hk)
    rwa [ptrs_take] at this
   have HSB:Hid (∀ u,Kept w3 u→Sl u 85 1 vb (n-i) (ptrs (Z.drop i))):=fun u hk=>by
    have:=hsb u _ (HSW.out.kept hk)
    rwa [JJq] at this
   have lp3:p<w3.heap.size:=by omega
   have lg3:g<w3.heap.size:=by omega
   clear hva hoa hsa hvb hob hsb HSW
   go_upto_region 6 with fail
   refine wp_freeQ 14 10 (fun i_:Nat=>i_ == 11 || i_ == 12 || i_ == 13) [.emp w3.heap.size 85,.eq ((.slice (some ⟨gs,os,none⟩) n c)),.eq (.int .i64 (i:Int)),.eq (va),.sl w3.heap.size 85 1 i (ptrs (Z.take i)),.eq (.pointer (some ⟨g,5,none⟩)),.eq (.int .i64 o.price),.eq (.agg (yq o.price).toArray),.fresh w3.heap.size 88 (yq o.price),.oner w3.heap.size o.price,.any,.eq ((.slice (some ⟨gs,os,none⟩) n c)),.eq (.int .i64 (i:Int)),.eq (vb)] (fun i_:Nat=>if i_=11 then (.slice (some ⟨gs,os,none⟩) n c) else if i_=12 then .int .i64 (i:Int) else if i_=13 then vb else undef) ((OneIn w3.heap.size o.price i (ptrs (Z.take i)))) (by kernel_rfl) rfl (fun i_ hi_ hs_=>by have h_:i_=11∨i_=12∨i_=13:=(by simp at hs_;omega);rcases h_ with rfl | rfl | rfl <;> rfl) (by kernel_rfl) (by kernel_rfl) (by kernel_rfl) (fun i_ hi_ hs_=>by have h_:i_=11∨i_=12∨i_=13:=(by simp at hs_;omega);rcases h_ with rfl | rfl | rfl;exact (fun a u hE hD=>yj (o:=⟨some 60,_,_,_,_,_⟩) ((.slice (some ⟨gs,os,none⟩) n c)) rfl (JZ rfl _) (Jj (.tmp 4) _ rfl (eE hE)));exact (fun a u hE hD=>yj (o:=⟨some 61,_,_,_,_,_⟩) (.int .i64 (i:Int)) rfl (JZ rfl _) (Jj (.tmp 5) _ rfl (eE hE)));exact (fun a u hE hD=>yj (o:=⟨some 62,_,_,_,_,_⟩) (vb) rfl (JZ rfl _) (VX Vy (.tmp 60) (.tmp 61) _ vb _ rfl (dD hD 11) (dD hD 12) (HVB.out u)))) ?_ (fun a u hE hD hk=> (by obtain ⟨g1,q,hx,hb1,hbq,hqg,hgg⟩:=(hD 9 58 (by kernel_rfl));obtain ⟨v',u',hr,hs',hk',ho'⟩:=Qy Vy _ u (a.eval (.tmp 53)) (a.eval (.tmp 58)) i 1 _ _ ((hD 4 53 (by kernel_rfl))).1 (by rw [hx];exact sl_one1 hb1) (ptr_one _) (by unfold maxLen;omega) (by omega);have hq:=((hD 4 53 (by kernel_rfl))).2;refine t_last (o:=⟨some 59,_,_,_,_,_⟩) (R:=(OneIn w3.heap.size o.price i (ptrs (Z.take i)))) (m:=10) (v:=v') (w':=u') rfl (JZ rfl _) (XQ Vy (.tmp 53) (.tmp 58) _ _ rfl rfl rfl v' u' hr) ?_;exact ⟨q,hqg,hbq.keep hk' (fun h=>sl_ne ((hD 4 53 (by kernel_rfl))).1 hbq (by decide) q h rfl),hs',fun b hb=>(ho' b hb).elim (hq b) (fun h=>Kv hk.size h),hk'.mono (fun b _ hb=>hq b hb)⟩)) ?_
   ·refine QQ 1 rfl (fun a u hE hD hk=>jx (o:=⟨some 49,_,_,_,_,_⟩) (.slice (some ⟨u.heap.size,0,none⟩) 0 0) _ rfl (JZ rfl _) (Uy 48 85 1 rfl Vy.und (by kernel_rfl)) ⟨_,rfl,hk.size,Blk.new u _ _⟩ ((Keep.refl _ u).alloc _)) ?_
    refine QQ 2 rfl (fun a u hE hD hk=>YW _ rfl (JZ rfl _) (Jj (.tmp 4) _ rfl (eE hE)) rfl) ?_
    refine QQ 3 rfl (fun a u hE hD hk=>YW _ rfl (JZ rfl _) (Jj (.tmp 5) _ rfl (eE hE)) rfl) ?_
    refine QQ 4 rfl (fun a u hE hD hk=>YW _ rfl (JZ rfl _) (Wx Vy (.tmp 50) (.tmp 51) _ va _ rfl (dD hD 1) (dD hD 2) (HVA.out u)) rfl) ?_
    refine QQ 5 rfl (fun a u hE hD hk=>(by obtain ⟨v',u',hr,hp,hkk⟩:=VW Vy _ u (a.eval (.tmp 49)) va i w3.heap.size _ ((dD hD 0)) (HSA.out u hk) (xV _) (by omega) (by omega) hk.size;exact jx v' u' rfl (JZ rfl _) (XQ Vy (.tmp 49) (.tmp 52) _ va rfl rfl (dD hD 3) v' u' hr) hp hkk)) ?_
    refine QQ 6 rfl (fun a u hE hD hk=>YW _ rfl (JZ rfl _) (QV 30 5 5 (.tmp 3) (g) (0) (5) rfl (eE hE) (by kernel_rfl) rfl) rfl) ?_
    refine QQ 7 rfl (fun a u hE hD hk=>YW _ rfl (JZ rfl _) (QX 3 Tryz.underlying3 (.tmp 54) ⟨g,5,none⟩ (.int .i64 o.price) rfl (dD hD 5) (JY (JJ HO3.out hk) 5 _ rfl)) rfl) ?_
    refine QQ 8 rfl (fun a u hE hD hk=>YW _ rfl (JZ rfl _) (exec_brl (.tmp 55) o.price rfl (dD hD 6)) rfl) ?_
    refine QQ 9 rfl (fun a u hE hD hk=>jx (.pointer (some ⟨u.heap.size,0,none⟩)) _ rfl (JZ rfl _) (YX 88 (.tmp 56) (yq o.price) rfl (dD hD 7)) ⟨_,rfl,hk.size,Blk.new u _ _⟩ ((Keep.refl _ u).alloc _)) ?_
    refine QQ 10 rfl (fun a u hE hD hk=>(by obtain ⟨q,hx,h2,h3⟩:=(hD 8 57 (by kernel_rfl));exact jx (.slice (some ⟨u.heap.size,0,none⟩) 1 1) _ rfl (JZ rfl _) (exec_oneP Vy (.tmp 57) q rfl hx) ⟨u.heap.size,q,rfl,Blk.new u _ _,h3.kept ((Keep.refl _ u).alloc _),h2,hk.size⟩ ((Keep.refl _ u).alloc _))) ?_
    refine Zy 11 rfl (by first | exact .inl rfl | exact .inr rfl) ?_
    refine Zy 12 rfl (by first | exact .inl rfl | exact .inr rfl) ?_
    refine Zy 13 rfl (by first | exact .inl rfl | exact .inr rfl) ?_
    refine Zy 14 rfl (by first | exact .inl rfl | exact .inr rfl) ?_
    exact qsteps_nil
   intro gv w1 w7 hV h0 hR hk1
   rw [dq 14 [49,50,51,52,53,54,55,56,57,58,59,60,61,62]]
   simp only [Fz7]
   have hT:=hR 59 (by kernel_rfl)
   generalize gv 59=v59 at hT ⊢
   rw [show gv 60=(.slice (some ⟨gs,os,none⟩) n c) from h0 11 (by omega) rfl 60 (by kernel_rfl)]
   rw [show gv 61=.int .i64 (i:Int) from h0 12 (by omega) rfl 61 (by kernel_rfl)]
   rw [show gv 62=vb from h0 13 (by omega) rfl 62 (by kernel_rfl)]
   clear hV h0 hR
   obtain ⟨q,hqb,hbq,hs7,ho7,hk7⟩:=hT
   have k67:=yZ hk1 hk7 (Nat.le_refl _)
   have hne7:=sl_ne hs7 hbq (by decide)
   obtain ⟨v8,w8,hr8,hs8,hk8,ho8⟩:=Qy Vy _ w7 v59 vb (i+1) (n-i) _ _ hs7 (HSB.out w7 k67) (xV _) (by unfold maxLen;omega) (by omega)
   refine ZW v8 w8 rfl (XQ Vy (.tmp 59) (.tmp 62) v59 vb rfl (by kernel_rfl) (by kernel_rfl) v8 w8 hr8) ?_
   simp only [Act.put,sA,sS,sZ]
   refine Jx (v8) rfl (JQ _ _ rfl (by kernel_rfl)) ?_
   simp only [Act.put,sA,sS,sZ]
   refine Kx ?_
   have k38:Kept w3 w8:=Keep.trans k67 hk8 (fun b hb h=>by have:=ho7 b h;omega)
   have hbq8:Blk w8 q 88 [.int .i64 o.price,.slice none 0 0]:=hbq.keep hk8 (fun h=>hne7 q h rfl)
   have hAl:(Z.take i).length=i:=by rw [List.length_take,HN.out];omega
   have hRl:(Z.drop i).length=n-i:=by rw [List.length_drop,HN.out]
   have hWi:WayZ 88 90 85 w3 Fs (.slice (some ⟨gs,os,none⟩) n c) (Z.take i++Z.drop i) G:=by rw [List.take_append_drop];exact HWW.out
   have hpt:ptrs (Z.take i++(q,o.price,([]:List Ent))::Z.drop i)=(ptrs (Z.take i)++[.pointer (some ⟨q,0,none⟩)])++ptrs (Z.drop i):=by rw [jz,List.append_assoc];rfl
   have hv8:Sl w8 85 1 v8 ((Z.take i).length+1+(Z.drop i).length) (ptrs (Z.take i++(q,o.price,([]:List Ent))::Z.drop i)):=by rw [hAl,hRl,hpt];exact hs8
   have z8:=k38.size
   have z7:=k67.size
   obtain ⟨FX,GX,hWX,hgX,hkX,_⟩:=hWi.more (w':=w8) (v':=v8) (q:=q) (pr:=o.price) (F1:=(·=q)) (Keep.mono k38 (fun _ _ h=>h.elim)) hv8 (fun b hb=>⟨.inr ((ho8 b hb).elim (ho7 b) (fun h=>by omega)),fun e=>sl_ne hs8 hbq8 (by decide) b hb e⟩) (lvl_new hbq8) (fun b e=>by have e2:b=q:=e;rw [e2];exact hqb)
   obtain ⟨m,hm⟩:∃ m,n+1=m:=⟨_,rfl⟩
   have him:i<m:=by omega
   have hlen:(Z.take i++(q,o.price,([]:List Ent))::Z.drop i).length=m:=by rw [List.length_append,List.length_cons,hAl,hRl];omega
   obtain ⟨gs2,os2,c2,hv8e⟩:=hWX.some_ (by rw [hlen];omega)
   rw [hlen] at hv8e
   subst hv8e
   have HWX:=Kj hWX
   have HCX:=Kj (hWX.cell (i:=i) (z:=(q,o.price,[])) (by rw [List.getElem?_append_right (by omega),hAl,Nat.sub_self];rfl))
   have HBX:=Kj (HBW.out.kept k38)
   have HOX:=Kj (JJ HO3.out k38)
   have gX:Grow w0 Fs FX:=hgX.wide z3
   have kX:Keep (fun b=>Fs b∨b=p) w0 w8:=Keep.mono (T:=fun b=>Fs b∨b=p) (kw3.trans k38) (fun _ _ h=>h.elim)
   clear hWX hkX hgX hbq8 hbq hs8 hk8 ho8 hr8 hs7 ho7 hk7 hk1 k67 k38 hne7 hWi hpt hv8 HWW HBW HO3 HVA HVB HSA HSB
   have zX:=kX.size
   go_upto_region 7 with fail
   refine wGp 5 [.slice (some ⟨gs2,os2,none⟩) m c2,iV (i:Int),pV gs2 (os2+i*1),pV q 0,o.v] [64,65,66,67,68] ?_ ?_
   ·refine mE 1 4 ?_
    refine mE 2 5 ?_
    refine sW 3 rfl (fun a u E D hk=>Jz Vy _ _ (gs2) (os2) m c2 i (os2+i*1) ((i:Int)) rfl (dD D 0) (dD D 1) (by first | rfl | omega) (him) (by first | rfl | omega)) ?_
    refine sW 4 rfl (fun a u E D hk=>XY _ _ Tryz.underlying85 _ _ _ rfl (dD D 2) (Kept.cell hk (HCX.out))) ?_
    refine sE 5 3 g 0 o.cells Tryz.underlying30 (fun u hk=>JJ HOX.out hk) (by rw [o.len9];exact JX) ?_
    exact fz
   intro wa ka
   simp only [F8]
   have hWa:=HWX.out.kept ka
   refine Yz 78 #[.pointer (some ⟨q,0,none⟩),o.v] rfl (Jq 78 _ [.tmp 67,.tmp 68] _ _ Tryz.func78 (by kernel_rfl) (by kernel_rfl) rfl (by kernel_rfl) _) ?_
   refine (radd_any wa _ q [] o (hWa.lv (q,o.price,[]) (by simp)) (by simp)).mono ?_
   rintro r wb ⟨F6,rfl,hl6,hg6,hk6⟩
   refine ⟨_,rfl,?_⟩
   simp only [Act.put,sA,sS,sZ]
   refine Kx ?_
   obtain ⟨Fs2,G2,hWb,hGb,hkb,_⟩:=hWa.turn hk6 hl6 hg6
   have za:=ka.size
   have zb:=hkb.size
   have hpX:¬ FX p:=fun h=>(gX p h).elim HPF.out (fun h=>by omega)
   have hgX2:¬ FX g:=fun h=>(gX g h).elim (fun h=>HGS.out (.inl h)) (fun h=>by omega)
   have HBb:=Kj ((HBX.out.kept ka).keep hkb hpX)
   have HOb:=Kj (XW (JJ HOX.out ka) hkb hgX2)
   have kb:Keep (fun b=>Fs b∨b=p) w0 wb:=(kX.kept ka).trans hkb (fun b hb h=>(gX b h).elim .inl (fun h=>by omega))
   have gb:Grow w0 Fs Fs2:=gX.trans hGb (by omega)
   have HWb:=Kj hWb
   have HOSb:Hid (wb.cell? ⟨g,3,none⟩=some (.int .i64 (k:Int))):=by show _=_;rw [← HSD.out];exact JY HOb.out 3 _ rfl
   clear hWa hl6 hg6 hk6 hWb hGb hkb HWX HBX HOX HCX ka hpX
   go_upto_region 8 with fail
   refine wGp 7 [pV p 0,pV g 3,iV (k:Int),.slice (some ⟨gs2,os2,none⟩) m c2,pV p 0,pV p 0,pV p (0+k*1)] [70,71,72,73,74,75,76] ?_ ?_
   ·refine mE 1 0 ?_
    refine fE 2 3 30 3 3 0 ?_
    refine lD 3 71 1 Tryz.underlying3 (fun u hk=>Kept.cell hk (HOSb.out)) ?_
    refine mE 4 4 ?_
    refine nD 5 70 0 ?_
    refine fD 6 74 4 51 0 0 0 ?_
    refine sW 7 rfl (fun a u E D hk=>VU 49 48 3 1 _ _ p 0 k rfl Tryz.underlying49 (by kernel_rfl) (dD D 5) (dD D 2) (by omega)) ?_
    exact fz
   intro wc kc
   simp only [F8]
   refine Zz 48 p (0+k*1) 51 _ (.slice (some ⟨gs2,os2,none⟩) m c2) _ _ rfl rfl (by kernel_rfl) (by kernel_rfl) (by kernel_rfl) rfl rfl (HBb.out.kept kc) (by rw [rsd_len h12];omega) ?_
   intro wd hBd hkd hsd
   simp only [Act.put]
   refine Kx ?_
   rw [rsd_set h12] at hBd
   have hpb:¬ Fs2 p:=fun h=>(gb p h).elim HPF.out (fun h=>by omega)
   have hWd:=(HWb.out.kept kc).keep hkd (fun b hb e=>hpb (by have e2:b=p:=e;rw [← e2];exact hb))
   have kd:Keep (fun b=>Fs b∨b=p) w0 wd:=(kb.kept kc).trans hkd (fun b _ e=>.inr e)
   obtain ⟨F',q1,q2,q3,_⟩:=HJ.out wd _ _ _ _ _ kd hBd ⟨_,_,rfl,hWd⟩ gb
   have HR:Hid (RBk wd F' p (B.to o.side (Wj o L) B.last B.no)):=by
    show RBk _ _ _ _
    rw [HRM.out,HSD.out]
    rw [WX,Wy] at q1
    exact q1
   have Q2:Grow w F F':=q2.wide z0
   have Q3:Keep F w wd:=Keep.any k0 q3
   clear q1 q2 q3 hWd hBd hkd kd kc kb gb HWb HBb HOb HOSb hpb
   go_wp2
   go_end0
   first | exact ⟨rfl,F',HR.out,Q2,Q3⟩ | exact ⟨F',rfl,HR.out,Q2,Q3⟩
 have hin:i=n:=by omega
 subst hin
 go_upto_region 3 with fail
 refine wG 18 [iV (i:Int),v,iV (i:Int),bV false,bV false,undef,undef,undef,undef,undef,undef,undef,undef,undef,undef,undef,undef,bV false] [13,14,15,16,17,18,19,20,21,22,23,24,25,26,27,28,29,30] ?_ ?_
 ·refine mE 1 5 ?_
  refine mE 2 4 ?_
  refine sW 3 rfl (fun a u E D hk=>Qq _ Vy _ _ _ _ rfl (dD D 1) HSLr.out) ?_
  refine aS 4 rfl (fun a u E D hk=>Wq rfl (dD D 0) (dD D 2)) (Ku (by omega)) ?_
  refine mD 5 16 3 ?_
  refine kS 6 4 ?_
  refine kS 7 4 ?_
  refine kS 8 4 ?_
  refine kS 9 4 ?_
  refine kS 10 4 ?_
  refine kS 11 4 ?_
  refine kS 12 4 ?_
  refine kS 13 4 ?_
  refine kS 14 4 ?_
  refine kS 15 4 ?_
  refine kS 16 4 ?_
  refine kS 17 4 ?_
  refine pF 18 17 4 ?_
  exact fz
 intro w2 k2
 simp only [F8]
 have kw2:=hkr.trans k2
 have HSL2:=Kj (HSLr.out.kept k2)
 go_upto_region 5 with fail
 refine wG 16 [iV (i:Int),v,iV (i:Int),bV true,bV true,undef,undef,undef,undef,undef,undef,undef,undef,undef,undef,bV true] [33,34,35,36,37,38,39,40,41,42,43,44,45,46,47,48] ?_ ?_
 ·refine mE 1 5 ?_
  refine mE 2 4 ?_
  refine sW 3 rfl (fun a u E D hk=>Qq _ Vy _ _ _ _ rfl (dD D 1) HSL2.out) ?_
  refine aS 4 rfl (fun a u E D hk=>JU rfl (dD D 0) (dD D 2)) (Ky (by omega)) ?_
  refine mD 5 36 3 ?_
  refine kS 6 4 ?_
  refine kS 7 4 ?_
  refine kS 8 4 ?_
  refine kS 9 4 ?_
  refine kS 10 4 ?_
  refine kS 11 4 ?_
  refine kS 12 4 ?_
  refine kS 13 4 ?_
  refine kS 14 4 ?_
  refine kS 15 4 ?_
  refine sW 16 rfl (fun a u E D hk=>qV _ _ _ _ rfl (dD D 4) rfl) ?_
  exact fz
 intro w3 k3
 simp only [F8]
 have kw3:=kw2.trans k3
 have HRM:Hid (Wj o L=levs (Z.take i)++(o.price,[]++[Ent.of o])::levs (Z.drop i)):=by
  show _=_
  have e5:Z.drop i=[]:=List.drop_of_length_le (by rw [HN.out];omega)
  have e6:L=levs (Z.take i):=by rw [← EL.out,List.take_of_length_le (by rw [HN.out];omega)]
  rw [e5]
  have h3:=restM_at (o:=o) (R:=[]) (A:=L) (by
   have e2:L.take i=L:=List.take_of_length_le (by rw [← EL.out,YU,HN.out];omega)
   rw [e2] at HM
   exact HM.out)
  rw [List.append_nil] at h3
  rw [h3,Wj]
  conv=>lhs;rw [e6]
  rfl
 have HO3:=Kj (JJ HOr.out (k2.trans k3))
 clear HM HSL2 HSLr HOr k2 k3 hkr kw2 hlt
 obtain ⟨n,hnn⟩:∃ n,n=i:=⟨_,rfl⟩
 have hn64:n≤64:=by omega
 have hin2:i≤n:=by omega
 have HN2:Hid (Z.length=n):=by show _=_;rw [hnn];exact HN.out
 clear HN
 have HN:=HN2
 clear HN2
 have HWW:=Kj (HW.out.kept kw3)
 have HBW:=Kj (HBk.out.kept kw3)
 have HSW:Hid (Sl w3 85 1 v n (ptrs Z)):=by show Sl _ _ _ _ _ _;have:=HWW.out.sl;rw [HN.out] at this;exact this
 have z3:=kw3.size
 obtain ⟨va,hva,hoa,hsa⟩:=yW Vy _ n i (by omega) _ w3 HSW.out
 obtain ⟨vb,hvb,hob,hsb⟩:=jX Vy _ n i (by omega) _ w3 HSW.out
 have HVA:=Kj hva
 have HVB:=Kj hvb
 have HSA:Hid (∀ u,Kept w3 u→Sl u 85 1 va i (ptrs (Z.take i))):=fun u hk=>by
  have:=hsa u _ (HSW.out.kept hk)
  rwa [ptrs_take] at this
 have HSB:Hid (∀ u,Kept w3 u→Sl u 85 1 vb (n-i) (ptrs (Z.drop i))):=fun u hk=>by
  have:=hsb u _ (HSW.out.kept hk)
  rwa [JJq] at this
 have lp3:p<w3.heap.size:=by omega
 have lg3:g<w3.heap.size:=by omega
 clear hva hoa hsa hvb hob hsb HSW
 go_upto_region 6 with fail
 refine wp_freeQ 14 10 (fun i_:Nat=>i_ == 11 || i_ == 12 || i_ == 13) [.emp w3.heap.size 85,.eq (v),.eq (.int .i64 (i:Int)),.eq (va),.sl w3.heap.size 85 1 i (ptrs (Z.take i)),.eq (.pointer (some ⟨g,5,none⟩)),.eq (.int .i64 o.price),.eq (.agg (yq o.price).toArray),.fresh w3.heap.size 88 (yq o.price),.oner w3.heap.size o.price,.any,.eq (v),.eq (.int .i64 (i:Int)),.eq (vb)] (fun i_:Nat=>if i_=11 then v else if i_=12 then .int .i64 (i:Int) else if i_=13 then vb else undef) ((OneIn w3.heap.size o.price i (ptrs (Z.take i)))) (by kernel_rfl) rfl (fun i_ hi_ hs_=>by have h_:i_=11∨i_=12∨i_=13:=(by simp at hs_;omega);rcases h_ with rfl | rfl | rfl <;> rfl) (by kernel_rfl) (by kernel_rfl) (by kernel_rfl) (fun i_ hi_ hs_=>by have h_:i_=11∨i_=12∨i_=13:=(by simp at hs_;omega);rcases h_ with rfl | rfl | rfl;exact (fun a u hE hD=>yj (o:=⟨some 60,_,_,_,_,_⟩) (v) rfl (JZ rfl _) (Jj (.tmp 4) _ rfl (eE hE)));exact (fun a u hE hD=>yj (o:=⟨some 61,_,_,_,_,_⟩) (.int .i64 (i:Int)) rfl (JZ rfl _) (Jj (.tmp 5) _ rfl (eE hE)));exact (fun a u hE hD=>yj (o:=⟨some 62,_,_,_,_,_⟩) (vb) rfl (JZ rfl _) (VX Vy (.tmp 60) (.tmp 61) _ vb _ rfl (dD hD 11) (dD hD 12) (HVB.out u)))) ?_ (fun a u hE hD hk=> (by obtain ⟨g1,q,hx,hb1,hbq,hqg,hgg⟩:=(hD 9 58 (by kernel_rfl));obtain ⟨v',u',hr,hs',hk',ho'⟩:=Qy Vy _ u (a.eval (.tmp 53)) (a.eval (.tmp 58)) i 1 _ _ ((hD 4 53 (by kernel_rfl))).1 (by rw [hx];exact sl_one1 hb1) (ptr_one _) (by unfold maxLen;omega) (by omega);have hq:=((hD 4 53 (by kernel_rfl))).2;refine t_last (o:=⟨some 59,_,_,_,_,_⟩) (R:=(OneIn w3.heap.size o.price i (ptrs (Z.take i)))) (m:=10) (v:=v') (w':=u') rfl (JZ rfl _) (XQ Vy (.tmp 53) (.tmp 58) _ _ rfl rfl rfl v' u' hr) ?_;exact ⟨q,hqg,hbq.keep hk' (fun h=>sl_ne ((hD 4 53 (by kernel_rfl))).1 hbq (by decide) q h rfl),hs',fun b hb=>(ho' b hb).elim (hq b) (fun h=>Kv hk.size h),hk'.mono (fun b _ hb=>hq b hb)⟩)) ?_
 ·refine QQ 1 rfl (fun a u hE hD hk=>jx (o:=⟨some 49,_,_,_,_,_⟩) (.slice (some ⟨u.heap.size,0,none⟩) 0 0) _ rfl (JZ rfl _) (Uy 48 85 1 rfl Vy.und (by kernel_rfl)) ⟨_,rfl,hk.size,Blk.new u _ _⟩ ((Keep.refl _ u).alloc _)) ?_
  refine QQ 2 rfl (fun a u hE hD hk=>YW _ rfl (JZ rfl _) (Jj (.tmp 4) _ rfl (eE hE)) rfl) ?_
  refine QQ 3 rfl (fun a u hE hD hk=>YW _ rfl (JZ rfl _) (Jj (.tmp 5) _ rfl (eE hE)) rfl) ?_
  refine QQ 4 rfl (fun a u hE hD hk=>YW _ rfl (JZ rfl _) (Wx Vy (.tmp 50) (.tmp 51) _ va _ rfl (dD hD 1) (dD hD 2) (HVA.out u)) rfl) ?_
  refine QQ 5 rfl (fun a u hE hD hk=>(by obtain ⟨v',u',hr,hp,hkk⟩:=VW Vy _ u (a.eval (.tmp 49)) va i w3.heap.size _ ((dD hD 0)) (HSA.out u hk) (xV _) (by omega) (by omega) hk.size;exact jx v' u' rfl (JZ rfl _) (XQ Vy (.tmp 49) (.tmp 52) _ va rfl rfl (dD hD 3) v' u' hr) hp hkk)) ?_
  refine QQ 6 rfl (fun a u hE hD hk=>YW _ rfl (JZ rfl _) (QV 30 5 5 (.tmp 3) (g) (0) (5) rfl (eE hE) (by kernel_rfl) rfl) rfl) ?_
  refine QQ 7 rfl (fun a u hE hD hk=>YW _ rfl (JZ rfl _) (QX 3 Tryz.underlying3 (.tmp 54) ⟨g,5,none⟩ (.int .i64 o.price) rfl (dD hD 5) (JY (JJ HO3.out hk) 5 _ rfl)) rfl) ?_
  refine QQ 8 rfl (fun a u hE hD hk=>YW _ rfl (JZ rfl _) (exec_brl (.tmp 55) o.price rfl (dD hD 6)) rfl) ?_
  refine QQ 9 rfl (fun a u hE hD hk=>jx (.pointer (some ⟨u.heap.size,0,none⟩)) _ rfl (JZ rfl _) (YX 88 (.tmp 56) (yq o.price) rfl (dD hD 7)) ⟨_,rfl,hk.size,Blk.new u _ _⟩ ((Keep.refl _ u).alloc _)) ?_
  refine QQ 10 rfl (fun a u hE hD hk=>(by obtain ⟨q,hx,h2,h3⟩:=(hD 8 57 (by kernel_rfl));exact jx (.slice (some ⟨u.heap.size,0,none⟩) 1 1) _ rfl (JZ rfl _) (exec_oneP Vy (.tmp 57) q rfl hx) ⟨u.heap.size,q,rfl,Blk.new u _ _,h3.kept ((Keep.refl _ u).alloc _),h2,hk.size⟩ ((Keep.refl _ u).alloc _))) ?_
  refine Zy 11 rfl (by first | exact .inl rfl | exact .inr rfl) ?_
  refine Zy 12 rfl (by first | exact .inl rfl | exact .inr rfl) ?_
  refine Zy 13 rfl (by first | exact .inl rfl | exact .inr rfl) ?_
  refine Zy 14 rfl (by first | exact .inl rfl | exact .inr rfl) ?_
  exact qsteps_nil
 intro gv w1 w7 hV h0 hR hk1
 rw [dq 14 [49,50,51,52,53,54,55,56,57,58,59,60,61,62]]
 simp only [Fz7]
 have hT:=hR 59 (by kernel_rfl)
 generalize gv 59=v59 at hT ⊢
 rw [show gv 60=v from h0 11 (by omega) rfl 60 (by kernel_rfl)]
 rw [show gv 61=.int .i64 (i:Int) from h0 12 (by omega) rfl 61 (by kernel_rfl)]
 rw [show gv 62=vb from h0 13 (by omega) rfl 62 (by kernel_rfl)]
 clear hV h0 hR
 obtain ⟨q,hqb,hbq,hs7,ho7,hk7⟩:=hT
 have k67:=yZ hk1 hk7 (Nat.le_refl _)
 have hne7:=sl_ne hs7 hbq (by decide)
 obtain ⟨v8,w8,hr8,hs8,hk8,ho8⟩:=Qy Vy _ w7 v59 vb (i+1) (n-i) _ _ hs7 (HSB.out w7 k67) (xV _) (by unfold maxLen;omega) (by omega)
 refine ZW v8 w8 rfl (XQ Vy (.tmp 59) (.tmp 62) v59 vb rfl (by kernel_rfl) (by kernel_rfl) v8 w8 hr8) ?_
 simp only [Act.put,sA,sS,sZ]
 refine Jx (v8) rfl (JQ _ _ rfl (by kernel_rfl)) ?_
 simp only [Act.put,sA,sS,sZ]
 refine Kx ?_
 have k38:Kept w3 w8:=Keep.trans k67 hk8 (fun b hb h=>by have:=ho7 b h;omega)
 have hbq8:Blk w8 q 88 [.int .i64 o.price,.slice none 0 0]:=hbq.keep hk8 (fun h=>hne7 q h rfl)
 have hAl:(Z.take i).length=i:=by rw [List.length_take,HN.out];omega
 have hRl:(Z.drop i).length=n-i:=by rw [List.length_drop,HN.out]
 have hWi:WayZ 88 90 85 w3 Fs v (Z.take i++Z.drop i) G:=by rw [List.take_append_drop];exact HWW.out
 have hpt:ptrs (Z.take i++(q,o.price,([]:List Ent))::Z.drop i)=(ptrs (Z.take i)++[.pointer (some ⟨q,0,none⟩)])++ptrs (Z.drop i):=by rw [jz,List.append_assoc];rfl
 have hv8:Sl w8 85 1 v8 ((Z.take i).length+1+(Z.drop i).length) (ptrs (Z.take i++(q,o.price,([]:List Ent))::Z.drop i)):=by rw [hAl,hRl,hpt];exact hs8
 have z8:=k38.size
 have z7:=k67.size
 obtain ⟨FX,GX,hWX,hgX,hkX,_⟩:=hWi.more (w':=w8) (v':=v8) (q:=q) (pr:=o.price) (F1:=(·=q)) (Keep.mono k38 (fun _ _ h=>h.elim)) hv8 (fun b hb=>⟨.inr ((ho8 b hb).elim (ho7 b) (fun h=>by omega)),fun e=>sl_ne hs8 hbq8 (by decide) b hb e⟩) (lvl_new hbq8) (fun b e=>by have e2:b=q:=e;rw [e2];exact hqb)
 obtain ⟨m,hm⟩:∃ m,n+1=m:=⟨_,rfl⟩
 have him:i<m:=by omega
 have hlen:(Z.take i++(q,o.price,([]:List Ent))::Z.drop i).length=m:=by rw [List.length_append,List.length_cons,hAl,hRl];omega
 obtain ⟨gs2,os2,c2,hv8e⟩:=hWX.some_ (by rw [hlen];omega)
 rw [hlen] at hv8e
 subst hv8e
 have HWX:=Kj hWX
 have HCX:=Kj (hWX.cell (i:=i) (z:=(q,o.price,[])) (by rw [List.getElem?_append_right (by omega),hAl,Nat.sub_self];rfl))
 have HBX:=Kj (HBW.out.kept k38)
 have HOX:=Kj (JJ HO3.out k38)
 have gX:Grow w0 Fs FX:=hgX.wide z3
 have kX:Keep (fun b=>Fs b∨b=p) w0 w8:=Keep.mono (T:=fun b=>Fs b∨b=p) (kw3.trans k38) (fun _ _ h=>h.elim)
 clear hWX hkX hgX hbq8 hbq hs8 hk8 ho8 hr8 hs7 ho7 hk7 hk1 k67 k38 hne7 hWi hpt hv8 HWW HBW HO3 HVA HVB HSA HSB
 have zX:=kX.size
 go_upto_region 7 with fail
 refine wGp 5 [.slice (some ⟨gs2,os2,none⟩) m c2,iV (i:Int),pV gs2 (os2+i*1),pV q 0,o.v] [64,65,66,67,68] ?_ ?_
 ·refine mE 1 4 ?_
  refine mE 2 5 ?_
  refine sW 3 rfl (fun a u E D hk=>Jz Vy _ _ (gs2) (os2) m c2 i (os2+i*1) ((i:Int)) rfl (dD D 0) (dD D 1) (by first | rfl | omega) (him) (by first | rfl | omega)) ?_
  refine sW 4 rfl (fun a u E D hk=>XY _ _ Tryz.underlying85 _ _ _ rfl (dD D 2) (Kept.cell hk (HCX.out))) ?_
  refine sE 5 3 g 0 o.cells Tryz.underlying30 (fun u hk=>JJ HOX.out hk) (by rw [o.len9];exact JX) ?_
  exact fz
 intro wa ka
 simp only [F8]
 have hWa:=HWX.out.kept ka
 refine Yz 78 #[.pointer (some ⟨q,0,none⟩),o.v] rfl (Jq 78 _ [.tmp 67,.tmp 68] _ _ Tryz.func78 (by kernel_rfl) (by kernel_rfl) rfl (by kernel_rfl) _) ?_
 refine (radd_any wa _ q [] o (hWa.lv (q,o.price,[]) (by simp)) (by simp)).mono ?_
 rintro r wb ⟨F6,rfl,hl6,hg6,hk6⟩
 refine ⟨_,rfl,?_⟩
 simp only [Act.put,sA,sS,sZ]
 refine Kx ?_
 obtain ⟨Fs2,G2,hWb,hGb,hkb,_⟩:=hWa.turn hk6 hl6 hg6
 have za:=ka.size
 have zb:=hkb.size
 have hpX:¬ FX p:=fun h=>(gX p h).elim HPF.out (fun h=>by omega)
 have hgX2:¬ FX g:=fun h=>(gX g h).elim (fun h=>HGS.out (.inl h)) (fun h=>by omega)
 have HBb:=Kj ((HBX.out.kept ka).keep hkb hpX)
 have HOb:=Kj (XW (JJ HOX.out ka) hkb hgX2)
 have kb:Keep (fun b=>Fs b∨b=p) w0 wb:=(kX.kept ka).trans hkb (fun b hb h=>(gX b h).elim .inl (fun h=>by omega))
 have gb:Grow w0 Fs Fs2:=gX.trans hGb (by omega)
 have HWb:=Kj hWb
 have HOSb:Hid (wb.cell? ⟨g,3,none⟩=some (.int .i64 (k:Int))):=by show _=_;rw [← HSD.out];exact JY HOb.out 3 _ rfl
 clear hWa hl6 hg6 hk6 hWb hGb hkb HWX HBX HOX HCX ka hpX
 go_upto_region 8 with fail
 refine wGp 7 [pV p 0,pV g 3,iV (k:Int),.slice (some ⟨gs2,os2,none⟩) m c2,pV p 0,pV p 0,pV p (0+k*1)] [70,71,72,73,74,75,76] ?_ ?_
 ·refine mE 1 0 ?_
  refine fE 2 3 30 3 3 0 ?_
  refine lD 3 71 1 Tryz.underlying3 (fun u hk=>Kept.cell hk (HOSb.out)) ?_
  refine mE 4 4 ?_
  refine nD 5 70 0 ?_
  refine fD 6 74 4 51 0 0 0 ?_
  refine sW 7 rfl (fun a u E D hk=>VU 49 48 3 1 _ _ p 0 k rfl Tryz.underlying49 (by kernel_rfl) (dD D 5) (dD D 2) (by omega)) ?_
  exact fz
 intro wc kc
 simp only [F8]
 refine Zz 48 p (0+k*1) 51 _ (.slice (some ⟨gs2,os2,none⟩) m c2) _ _ rfl rfl (by kernel_rfl) (by kernel_rfl) (by kernel_rfl) rfl rfl (HBb.out.kept kc) (by rw [rsd_len h12];omega) ?_
 intro wd hBd hkd hsd
 simp only [Act.put]
 refine Kx ?_
 rw [rsd_set h12] at hBd
 have hpb:¬ Fs2 p:=fun h=>(gb p h).elim HPF.out (fun h=>by omega)
 have hWd:=(HWb.out.kept kc).keep hkd (fun b hb e=>hpb (by have e2:b=p:=e;rw [← e2];exact hb))
 have kd:Keep (fun b=>Fs b∨b=p) w0 wd:=(kb.kept kc).trans hkd (fun b _ e=>.inr e)
 obtain ⟨F',q1,q2,q3,_⟩:=HJ.out wd _ _ _ _ _ kd hBd ⟨_,_,rfl,hWd⟩ gb
 have HR:Hid (RBk wd F' p (B.to o.side (Wj o L) B.last B.no)):=by
  show RBk _ _ _ _
  rw [HRM.out,HSD.out]
  rw [WX,Wy] at q1
  exact q1
 have Q2:Grow w F F':=q2.wide z0
 have Q3:Keep F w wd:=Keep.any k0 q3
 clear q1 q2 q3 hWd hBd hkd kd kc kb gb HWb HBb HOb HOSb hpb
 go_wp2
 go_end0
 first | exact ⟨rfl,F',HR.out,Q2,Q3⟩ | exact ⟨F',rfl,HR.out,Q2,Q3⟩
section
variable {T E P:TypeId} {w w':World} {F:Nat→Prop} {v:Value} {Z:Zs} {G:Nat→Nat→Prop}
theorem WayZ.moreX {A R:Zs} {v':Value} {q:Nat} {pr:Int} {X:List Ent} {F1:Nat→Prop} (h:WayZ T E P w F v (A++R) G) (hk:Keep (fun b=>v.ownBlock=some b) w w') (hv:Sl w' P 1 v' (A.length+1+R.length) (ptrs (A++(q,pr,X)::R))) (ho:∀ b,v'.ownBlock=some b→(v.ownBlock=some b∨w.heap.size≤b)∧¬ F1 b)
  (h1:Lvl pr T E w' F1 q X) (hn:∀ b,F1 b→w.heap.size≤b) :
  ∃ F' G',WayZ T E P w' F' v' (A++(q,pr,X)::R) G'∧Grow w F F'∧Keep F w w'∧∀ b,F b→F' b:=by
 have hmq:∀ x ∈ A++R,x.1≠q:=fun x hx e=>by
  have h2:=h.lt x.1 (h.in_ x hx _ (h.lv x hx).1)
  have h3:=hn q h1.1
  omega
 have hmem:∀ x ∈ A++(q,pr,X)::R,x=(q,pr,X)∨x ∈ A++R:=fun x hx=>by
  rcases List.mem_append.1 hx with hx | hx
  ·exact .inr (by simp [hx])
  rcases List.mem_cons.1 hx with hx | hx
  ·exact .inl hx
  exact .inr (by simp [hx])
 have hdis:∀ x ∈ A++R,∀ b,G x.1 b→¬ F1 b:=fun x hx b hb hF=>by
  have h2:=h.lt b (h.in_ x hx b hb)
  have h3:=hn b hF
  omega
 refine ⟨fun b=>F b∨v'.ownBlock=some b∨F1 b,fun p b=>if p=q then F1 b else G p b,⟨?_,?_,?_,?_,?_,?_⟩,?_,hk.mono (fun b _ hb=>(h.own b hb).1),fun b hb=>.inl hb⟩
 ·rw [show (A++(q,pr,X)::R).length=A.length+1+R.length by simp;omega]
  exact hv
 ·intro x hx
  rcases hmem x hx with rfl | hx
  ·simp only [if_true]
   exact h1
  simp only [if_neg (hmq x hx)]
  exact (h.lv x hx).keep hk (fun b hb hb'=>(h.own b hb').2 x hx hb)
 ·have h2:=h.ap
  rw [List.pairwise_append] at h2
  rw [List.pairwise_append,List.pairwise_cons]
  obtain ⟨p1,p3,p4⟩:=h2
  have hA:∀ x ∈ A,x.1≠q:=fun x hx=>hmq x (by simp [hx])
  have hR:∀ x ∈ R,x.1≠q:=fun x hx=>hmq x (by simp [hx])
  refine ⟨?_,⟨?_,?_⟩,?_⟩
  ·refine p1.imp_of_mem ?_
   intro x y hx hy hxy
   simp only [if_neg (hA x hx),if_neg (hA y hy)]
   exact hxy
  ·intro x hx b
   simp only [if_true,if_neg (hR x hx)]
   intro hb hb'
   exact hdis x (by simp [hx]) b hb' hb
  ·refine p3.imp_of_mem ?_
   intro x y hx hy hxy
   simp only [if_neg (hR x hx),if_neg (hR y hy)]
   exact hxy
  intro x hx y hy b
  simp only [if_neg (hA x hx)]
  rcases List.mem_cons.1 hy with rfl | hy
  ·simp only [if_true]
   exact hdis x (by simp [hx]) b
  simp only [if_neg (hR y hy)]
  exact p4 x hx y hy b
 ·intro x hx b hb
  rcases hmem x hx with rfl | hx
  ·simp only [if_true] at hb
   exact .inr (.inr hb)
  simp only [if_neg (hmq x hx)] at hb
  exact .inl (h.in_ x hx b hb)
 ·intro b hb
  refine ⟨.inr (.inl hb),fun x hx hx'=>?_⟩
  rcases hmem x hx with rfl | hx
  ·simp only [if_true] at hx'
   exact (ho b hb).2 hx'
  simp only [if_neg (hmq x hx)] at hx'
  rcases (ho b hb).1 with h' | h'
  ·exact (h.own b h').2 x hx hx'
  have:=h.lt b (h.in_ x hx b hx');omega
 ·intro b hb
  rcases hb with hb | hb | hb
  ·exact Nat.lt_of_lt_of_le (h.lt b hb) hk.size
  ·exact hv.lt hb
  exact h1.2.1 b hb
 intro b hb
 rcases hb with hb | hb | hb
 ·exact .inl hb
 ·rcases (ho b hb).1 with h' | h'
  ·exact .inl (h.own b h').1
  exact .inr h'
 exact .inr (hn b hb)
end
def partB (B:Bok) (k:Nat):Bok:=⟨if 1<k then B.buys else [],if 2<k then B.sells else [],B.last,B.no⟩
theorem part_start (B:Bok) {k:Nat} (hk:k<3):(partB B k).to (k:Int) [] B.last B.no=partB B k:=by
 have h:k=0∨k=1∨k=2:=by omega
 rcases h with rfl | rfl | rfl <;> rfl
theorem part_end (B:Bok) {k:Nat} (hk:k<3):(partB B k).to (k:Int) (B.sd (k:Int)) B.last B.no=partB B (k+1):=by
 have h:k=0∨k=1∨k=2:=by omega
 rcases h with rfl | rfl | rfl <;> rfl
theorem lvl_copy {u:World} {v:Value} {pr:Int} {X:List Ent} (hs:Sl u 90 10 v X.length (ents X)):Lvl pr 88 90 (u.alloc (.cells [.int .i64 pr,v].toArray 88)) (fun b=>b=u.heap.size∨v.ownBlock=some b) u.heap.size X:=
 ⟨.inl rfl,fun b hb=>hb.elim (fun e=>by rw [e];exact (Blk.new u 88 [.int .i64 pr,v]).lt) (fun h=>Nat.lt_trans (hs.lt h) (Blk.new u 88 [.int .i64 pr,v]).lt),v,Blk.new u _ _,hs.kept ((Keep.refl _ u).alloc _),fun b hb=>⟨.inr hb,fun e=>by have:=hs.lt hb;omega⟩⟩
def Kn.lvb (base:Nat) (pr:Int) (X:List Ent):Kn:=⟨fun x w=>∃ v,x=.agg [.int .i64 pr,v].toArray∧Sl w 90 10 v X.length (ents X)∧∀ b,v.ownBlock=some b→base≤b,fun _ _ _ ⟨v,h1,h2,h3⟩ hk=>⟨v,h1,h2.kept hk,h3⟩⟩
def Kn.lvn (base:Nat) (pr:Int) (X:List Ent):Kn:=⟨fun x w=>∃ q F,x=.pointer (some ⟨q,0,none⟩)∧Lvl pr 88 90 w F q X∧∀ b,F b→base≤b,fun _ _ _ ⟨q,F,h1,h2,h3⟩ hk=>⟨q,F,h1,h2.kept hk,h3⟩⟩
def Kn.lvo (base:Nat) (pr:Int) (X:List Ent):Kn:=⟨fun x w=>∃ g q F,x=.slice (some ⟨g,0,none⟩) 1 1∧Blk w g 85 [.pointer (some ⟨q,0,none⟩)]∧Lvl pr 88 90 w F q X∧(∀ b,F b→base≤b)∧base≤g∧¬ F g,fun _ _ _ ⟨g,q,F,h1,h2,h3,h4⟩ hk=>⟨g,q,F,h1,h2.kept hk,h3.kept hk,h4⟩⟩
def CopyIn (base:Nat) (pr:Int) (X:List Ent) (v:Value) (n:Nat) (A:List Value):Value→World→World→Prop:=fun v' u u'=>∃ q F1,Lvl pr 88 90 u' F1 q X∧(∀ b,F1 b→base≤b)∧Sl u' 85 1 v' (n+1) (A++[.pointer (some ⟨q,0,none⟩)])∧(∀ b,v'.ownBlock=some b→(v.ownBlock=some b∨base≤b)∧¬ F1 b)∧Keep (fun b=>v.ownBlock=some b) u u'
theorem built_rl2 (x:Int) (A:Option Addr) (n c:Nat):Tryz.prog.built 88 [(0,.int .i64 x),(1,.slice A n c)]=some [.int .i64 x,.slice A n c].toArray:=by kernel_rfl
theorem sl_shape {w:World} {T:TypeId} {k n:Nat} {v:Value} {cs:List Value} (h:Sl w T k v n cs):∃ A n c,v=.slice A n c:=by
 obtain ⟨_,A,c,rfl,_⟩:=h
 exact ⟨A,n,c,rfl⟩
theorem exec_brl2 {a:Act} {o:Oper} {u:World} (x y:Operand) (p:Int) (v:Value) (hop:o.op=.build 88 #[(0,x),(1,y)]) (hx:a.eval x=.int .i64 p) (hy:a.eval y=v) (hc:∃ A n c,v=.slice A n c):(execOp a.eval o).run Tryz.prog u=.ok (.value (.agg [.int .i64 p,v].toArray)) u:=by
 obtain ⟨A,n,c,rfl⟩:=hc
 exact YJ _ [(0,x),(1,y)] [.int .i64 p,.slice A n c] hop (by simp only [List.map_cons,List.map_nil,hx,hy];exact built_rl2 p A n c)
theorem built_bo (x y:Int):Tryz.prog.built 51 [(1,.int .i64 x),(2,.int .i64 y)]=some (xW (.slice none 0 0) (.slice none 0 0) x y).toArray:=by kernel_rfl
theorem exec_bbo {a:Act} {o:Oper} {u:World} (x y:Operand) (p q:Int) (hop:o.op=.build 51 #[(1,x),(2,y)]) (hx:a.eval x=.int .i64 p) (hy:a.eval y=.int .i64 q):(execOp a.eval o).run Tryz.prog u=.ok (.value (.agg (xW (.slice none 0 0) (.slice none 0 0) p q).toArray)) u:=
 YJ _ [(1,x),(2,y)] (xW (.slice none 0 0) (.slice none 0 0) p q) hop (by simp only [List.map_cons,List.map_nil,hx,hy];exact built_bo p q)
theorem rbk_new {w:World} {r:Nat} {x y:Int} (h:Blk w r 51 (xW (.slice none 0 0) (.slice none 0 0) x y)):RBk w (·=r) r ⟨[],[],x,y⟩:=
 ⟨rfl,fun b e=>by rw [e];exact h.lt,_,_,fun _=>False,fun _=>False,h,Way.nil w,Way.nil w,fun b h=>h.elim,fun b h=>h.elim⟩
theorem rbcopied_any (w:World) (F:Nat→Prop) (p:Nat) (B:Bok) (h:RBk w F p B) (hI:Inv B) :
  Calls Tryz.prog 54 #[.pointer (some ⟨p,0,none⟩)] w fun e w'=>∃ r F',e=.returned (.pointer (some ⟨r,0,none⟩))∧RBk w' F' r B∧(∀ b,F' b→w.heap.size≤b)∧Kept w w':=by
 have HB:=Kj h
 have HI:=Kj hI
 have hlast:w.cell? ⟨p,3,none⟩=some (.int .i64 B.last)∧w.cell? ⟨p,4,none⟩=some (.int .i64 B.no):=by
  obtain ⟨_,_,v1,v2,_,_,hB,_⟩:=h
  exact ⟨hB.cell 3,hB.cell 4⟩
 have HL3:=Kj hlast.1
 have HL4:=Kj hlast.2
 clear h hI hlast
 go_enter Tryz.func54,Tryz.ntmps54
 go_upto_region 1 with fail
 refine qW 10 [pE p 0,pE p 0,pE p 3,iE B.last,pE p 0,pE p 0,pE p 4,iE B.no,.eq (.agg (xW (.slice none 0 0) (.slice none 0 0) B.last B.no).toArray),.fresh w.heap.size 51 (xW (.slice none 0 0) (.slice none 0 0) B.last B.no)] (by kernel_rfl) rfl (by kernel_rfl) ?_ ?_
 ·refine mE 1 0 ?_
  refine nD 2 7 0 ?_
  refine fD 3 8 1 51 1 3 0 ?_
  refine lD 4 9 2 Tryz.underlying3 (fun u hk=>Kept.cell hk (HL3.out)) ?_
  refine mE 5 0 ?_
  refine nD 6 11 4 ?_
  refine fD 7 12 5 51 2 4 0 ?_
  refine lD 8 13 6 Tryz.underlying3 (fun u hk=>Kept.cell hk (HL4.out)) ?_
  refine sW 9 rfl (fun a u E D hk=>exec_bbo _ _ B.last B.no rfl (dD D 3) (dD D 7)) ?_
  refine nW 10 rfl (fun a u E D hk=>⟨_,_,YX 51 _ (xW (.slice none 0 0) (.slice none 0 0) B.last B.no) rfl (dD D 8),⟨_,rfl,hk.size,Blk.new u _ _⟩,((Keep.refl _ u).alloc _)⟩) ?_
  exact fz
 intro gv w1 hV k1
 rw [dq 10 [7,8,9,10,11,12,13,14,15,16]]
 simp only [Fz7]
 have hv16:(.fresh w.heap.size 51 (xW (.slice none 0 0) (.slice none 0 0) B.last B.no):Kn).p (gv 16) w1:=hV 9 16 (by kernel_rfl)
 generalize gv 16=v16 at hv16 ⊢
 clear hV
 obtain ⟨r,rfl,hr,hBr⟩:=hv16
 refine Jx (.pointer (some ⟨r,0,none⟩)) rfl (JQ _ _ rfl (by kernel_rfl)) ?_
 simp only [Act.put,sA,sS,sZ]
 refine Kx ?_
 have HR0:Hid (RBk w1 (·=r) r (partB B 0)):=rbk_new hBr
 clear hBr
 go_wp2_with fail
 go_loopw [17] (fun q wr=>∃ (k:Nat) (F':Nat→Prop),k≤3∧q=.int .i64 (k:Int)∧Hid (RBk wr F' r (partB B k))∧Hid (∀ b,F' b→w.heap.size≤b)∧Kept w wr) (fun q _=>3-(intOf q).toNat)
 case atStart=>exact ⟨0,_,by omega,rfl,HR0,(fun b e=>by have e2:b=r:=e;omega),k1⟩
 obtain ⟨k,F',hk3,rfl,HR,HF,hkr⟩:=hrel
 by_cases hk:k<3
 ·obtain ⟨L,hLe⟩:∃ L,B.sd (k:Int)=L:=⟨_,rfl⟩
  have hL:LvsOk L:=by rw [← hLe];exact HI.out.ok _
  obtain ⟨v,F1,hv0,hW⟩:=HB.out.way3 hk
  rw [hLe] at hW
  obtain ⟨Z,G,eL,hW⟩:=hW
  have hn64:Z.length≤64:=by have:=hL.len;rw [← eL,YU] at this;exact this
  have HLe:=Kj hLe
  have HV:=Kj (hkr.cell hv0)
  have HW:=Kj hW
  have HL:=Kj hL
  have EL:=Kj eL
  obtain ⟨n,hn⟩:∃ n,Z.length=n:=⟨_,rfl⟩
  have HSL:=Kj hW.sl
  rw [hn] at HSL hn64
  have HN:=Kj hn
  have HSLr:=Kj (HSL.out.kept hkr)
  clear hLe hv0 hW hL eL hn
  go_upto_region 5 with fail
  refine wE 8 [pV p 0,iV (k:Int),pV p 0,pV p 0,pV p (0+k*1),v,iV (n:Int),iV 0] [20,21,22,23,24,25,26,27] ?_ ?_
  ·refine mE 1 0 ?_
   refine mE 2 4 ?_
   refine nD 3 20 0 ?_
   refine fD 4 22 2 51 0 0 0 ?_
   refine sW 5 rfl (fun a u E D hk=>VU 49 48 3 1 _ _ p 0 k rfl Tryz.underlying49 (by kernel_rfl) (dD D 3) (dD D 1) (by omega)) ?_
   refine sW 6 rfl (fun a u E D hk=>Jy _ _ Tryz.underlying48 _ _ _ rfl (dD D 4) (Kept.cell hk (HV.out))) ?_
   refine sW 7 rfl (fun a u E D hk=>Qq _ Vy _ _ _ _ rfl (dD D 5) HSLr.out) ?_
   refine sW 8 rfl (fun a u E D hk=>Jj _ _ rfl rfl) ?_
   exact fz
  intro w1 k1
  simp only [F8]
  have kw1:=hkr.trans k1
  clear HV HSLr hkr
  go_wp2_with fail
  go_loopw [27] (fun q wr=>∃ (i:Nat) (F':Nat→Prop),i≤n∧q=.int .i64 (i:Int)∧Hid (RBk wr F' r ((partB B k).to (k:Int) (L.take i) B.last B.no))∧Hid (∀ b,F' b→w.heap.size≤b)∧Kept w wr) (fun q _=>n-(intOf q).toNat)
  case atStart=>exact ⟨0,F',Nat.zero_le _,rfl,(by show RBk _ _ _ _;rw [List.take_zero,part_start B hk];exact HR.out.kept k1),HF,kw1⟩
  obtain ⟨i,F2,hi,rfl,HR2,HF2,hkr2⟩:=hrel
  by_cases hlt:i<n
  ·obtain ⟨gs,os,cc,rfl⟩:=HSL.out.some_ (by omega)
   obtain ⟨z,hz⟩:∃ z,Z[i]?=some z:=⟨Z[i]'(by rw [HN.out];omega),List.getElem?_eq_getElem (by rw [HN.out];omega)⟩
   obtain ⟨q,pr,X⟩:=z
   have HC:=Kj ((HW.out.kept hkr2).cell hz)
   have HLV:=Kj (HW.out.lv (q,pr,X) (List.mem_of_getElem? hz))
   have HX:=Kj (HL.out.one (l:=(pr,X)) (by rw [← EL.out];exact qq (List.mem_of_getElem? hz)))
   have HA:Hid (L[i]?=some (pr,X)):=by show _=_;rw [← EL.out];exact qU hz
   have h12:k=1∨k=2:=by
    by_cases h0:k=0
    ·exfalso
     subst h0
     have e0:L=[]:=by rw [← HLe.out];rfl
     have:=HA.out
     rw [e0] at this
     simp at this
    omega
   clear hz
   go_upto_region 7 with fail
   refine wE 3 [pV gs (os+i*1),pV q 0,pV q 0] [29,30,6] ?_ ?_
   ·refine sW 1 rfl (fun a u E D hk=>Jz Vy _ _ (gs) (os) n cc i (os+i*1) ((i:Int)) rfl (eE E) (eE E) (by first | rfl | omega) (hlt) (by first | rfl | omega)) ?_
    refine sW 2 rfl (fun a u E D hk=>XY _ _ Tryz.underlying85 _ _ _ rfl (dD D 0) (Kept.cell hk (HC.out))) ?_
    refine mD 3 30 1 ?_
    exact fz
   intro w2 k2
   simp only [F8]
   have kw2:=hkr2.trans k2
   have hs12:(k:Int)=1∨(k:Int)=2:=by omega
   obtain ⟨v2,u2,Z2,G2,Fs2,e2,hW2,hB2,hFs2,hr2,hlt2,hJ2⟩:=(HR2.out.kept k2).open_ hs12
   rw [Bok.to_sd hs12] at e2
   have hZ2:Z2.length=i:=by
    have:=congrArg List.length e2
    rw [YU,List.length_take,← EL.out,YU,HN.out] at this
    omega
   have hS2:=hW2.sl
   rw [hZ2] at hS2
   have HS2:=Kj hS2
   have HV2:=Kj (rsd_cell h12 hB2)
   have HB2:=Kj hB2
   have HW2:=Kj hW2
   have HJ2:=Kj hJ2
   have HFs2:=Kj hFs2
   have HE2:=Kj e2
   have HZ2:=Kj hZ2
   have HSo:Hid (∀ b,v2.ownBlock=some b→b<w2.heap.size):=fun b hb=>hS2.lt hb
   have hrl:=hlt2 r hr2
   have hHr:=HF2.out r hr2
   have hrF:¬ Fs2 r:=fun h=>(hFs2 r h).2 rfl
   obtain ⟨_,_,vq,hq1,hq2,_⟩:=HLV.out.kept kw2
   have HQ0:=Kj (hq1.cell 0)
   have HQ1:=Kj (hq1.cell 1)
   have HQS:=Kj hq2
   have HX64:Hid (X.length≤64):=HX.out
   have hi64:i≤64:=by omega
   clear HC hkr2 hW2 hB2 hJ2 hFs2 e2 hZ2 hS2 hlt2 hq1 hq2
   go_upto_region 8 with fail
   refine wp_freeQ 24 21 (fun i_:Nat=>i_ == 0 || i_ == 1 || i_ == 22 || i_ == 23) [.eq (.pointer (some ⟨r,0,none⟩)),.eq (.int .i64 (k:Int)),.eq (.pointer (some ⟨r,0,none⟩)),.eq (.int .i64 (k:Int)),.eq (.pointer (some ⟨r,0,none⟩)),.eq (.pointer (some ⟨r,0,none⟩)),.eq (.pointer (some ⟨r,0+k*1,none⟩)),.eq (v2),.eq (.pointer (some ⟨q,0,none⟩)),.eq (.pointer (some ⟨q,0,none⟩)),.eq (.pointer (some ⟨q,0,none⟩)),.eq (.int .i64 pr),.emp w2.heap.size 90,.eq (.pointer (some ⟨q,0,none⟩)),.eq (.pointer (some ⟨q,0,none⟩)),.eq (.pointer (some ⟨q,1,none⟩)),.eq (vq),.sl w2.heap.size 90 10 X.length (ents X),.lvb w2.heap.size pr X,.lvn w2.heap.size pr X,.lvo w2.heap.size pr X,.any,.eq (.pointer (some ⟨r,0,none⟩)),.eq (.pointer (some ⟨r,0,none⟩))] (fun i_:Nat=>if i_=0 then .pointer (some ⟨r,0,none⟩) else if i_=1 then .int .i64 (k:Int) else if i_=22 then .pointer (some ⟨r,0,none⟩) else if i_=23 then .pointer (some ⟨r,0,none⟩) else undef) ((CopyIn w2.heap.size pr X v2 i (ptrs Z2))) (by kernel_rfl) rfl (fun i_ hi_ hs_=>by have h_:i_=0∨i_=1∨i_=22∨i_=23:=(by simp at hs_;omega);rcases h_ with rfl | rfl | rfl | rfl <;> rfl) (by kernel_rfl) (by kernel_rfl) (by kernel_rfl) (fun i_ hi_ hs_=>by have h_:i_=0∨i_=1∨i_=22∨i_=23:=(by simp at hs_;omega);rcases h_ with rfl | rfl | rfl | rfl;exact (fun a u hE hD=>yj (o:=⟨some 31,_,_,_,_,_⟩) (.pointer (some ⟨r,0,none⟩)) rfl (JZ rfl _) (Jj (.tmp 3) _ rfl (eE hE)));exact (fun a u hE hD=>yj (o:=⟨some 32,_,_,_,_,_⟩) (.int .i64 (k:Int)) rfl (JZ rfl _) (Jj (.tmp 4) _ rfl (eE hE)));exact (fun a u hE hD=>yj (o:=⟨some 53,_,_,_,_,_⟩) (.pointer (some ⟨r,0,none⟩)) rfl (JZ rfl _) (YY (.tmp 31) ⟨r,0,none⟩ rfl (dD hD 0)));exact (fun a u hE hD=>yj (o:=⟨some 54,_,_,_,_,_⟩) (.pointer (some ⟨r,0,none⟩)) rfl (JZ rfl _) (QV 51 0 0 (.tmp 53) (r) (0) (0) rfl (dD hD 22) (by kernel_rfl) rfl))) ?_ (fun a u hE hD hk=> (by obtain ⟨g1,q1,F1,hx,hb1,hl1,hf1,hg1,hn1⟩:=(hD 20 51 (by kernel_rfl));obtain ⟨v',u',hr,hs',hk',ho'⟩:=Qy Vy _ u v2 (a.eval (.tmp 51)) i 1 _ _ (HS2.out.kept hk) (by rw [hx];exact sl_one1 hb1) (ptr_one _) (by unfold maxLen;omega) (by omega);refine t_last (o:=⟨some 52,_,_,_,_,_⟩) (R:=(CopyIn w2.heap.size pr X v2 i (ptrs Z2))) (m:=21) (v:=v') (w':=u') rfl (JZ rfl _) (XQ Vy (.tmp 38) (.tmp 51) _ _ rfl (dD hD 7) rfl v' u' hr) ?_;exact ⟨q1,F1,hl1.keep hk' (fun b hb h=>by have:=HSo.out b h;have:=hf1 b hb;omega),hf1,hs',fun b hb=>⟨(ho' b hb).imp id (fun h=>Kv hk.size h),fun hF=>(ho' b hb).elim (fun h=>by have:=HSo.out b h;have:=hf1 b hF;omega) (fun h=>by have:=hl1.2.1 b hF;omega)⟩,hk'⟩)) ?_
   ·refine Zy 1 rfl (by first | exact .inl rfl | exact .inr rfl) ?_
    refine Zy 2 rfl (by first | exact .inl rfl | exact .inr rfl) ?_
    refine QQ 3 rfl (fun a u hE hD hk=>YW _ rfl (JZ rfl _) (Jj (.tmp 3) _ rfl (eE hE)) rfl) ?_
    refine QQ 4 rfl (fun a u hE hD hk=>YW _ rfl (JZ rfl _) (Jj (.tmp 4) _ rfl (eE hE)) rfl) ?_
    refine QQ 5 rfl (fun a u hE hD hk=>YW _ rfl (JZ rfl _) (YY (.tmp 33) ⟨r,0,none⟩ rfl (dD hD 2)) rfl) ?_
    refine QQ 6 rfl (fun a u hE hD hk=>YW _ rfl (JZ rfl _) (QV 51 0 0 (.tmp 35) (r) (0) (0) rfl (dD hD 4) (by kernel_rfl) rfl) rfl) ?_
    refine QQ 7 rfl (fun a u hE hD hk=>YW _ rfl (JZ rfl _) (VU 49 48 3 1 (.tmp 36) (.tmp 34) r 0 k rfl Tryz.underlying49 (by kernel_rfl) (dD hD 5) (dD hD 3) (by omega)) rfl) ?_
    refine QQ 8 rfl (fun a u hE hD hk=>YW _ rfl (JZ rfl _) (Jy 48 _ Tryz.underlying48 (.tmp 37) ⟨r,0+k*1,none⟩ (v2) rfl (dD hD 6) (Kept.cell hk (HV2.out))) rfl) ?_
    refine QQ 9 rfl (fun a u hE hD hk=>YW _ rfl (JZ rfl _) (Jj (.tmp 6) _ rfl (eE hE)) rfl) ?_
    refine QQ 10 rfl (fun a u hE hD hk=>YW _ rfl (JZ rfl _) (YY (.tmp 39) ⟨q,0,none⟩ rfl (dD hD 8)) rfl) ?_
    refine QQ 11 rfl (fun a u hE hD hk=>YW _ rfl (JZ rfl _) (QV 88 0 0 (.tmp 40) (q) (0) (0) rfl (dD hD 9) (by kernel_rfl) rfl) rfl) ?_
    refine QQ 12 rfl (fun a u hE hD hk=>YW _ rfl (JZ rfl _) (QX 3 Tryz.underlying3 (.tmp 41) ⟨q,0,none⟩ (.int .i64 pr) rfl (dD hD 10) (Kept.cell hk (HQ0.out))) rfl) ?_
    refine QQ 13 rfl (fun a u hE hD hk=>jx (.slice (some ⟨u.heap.size,0,none⟩) 0 0) _ rfl (JZ rfl _) (Uy 86 90 10 rfl slR.und szR) ⟨_,rfl,hk.size,Blk.new u _ _⟩ ((Keep.refl _ u).alloc _)) ?_
    refine QQ 14 rfl (fun a u hE hD hk=>YW _ rfl (JZ rfl _) (Jj (.tmp 6) _ rfl (eE hE)) rfl) ?_
    refine QQ 15 rfl (fun a u hE hD hk=>YW _ rfl (JZ rfl _) (YY (.tmp 44) ⟨q,0,none⟩ rfl (dD hD 13)) rfl) ?_
    refine QQ 16 rfl (fun a u hE hD hk=>YW _ rfl (JZ rfl _) (QV 88 1 1 (.tmp 45) (q) (0) (1) rfl (dD hD 14) (by kernel_rfl) rfl) rfl) ?_
    refine QQ 17 rfl (fun a u hE hD hk=>YW _ rfl (JZ rfl _) (Jy 86 _ Tryz.underlying86 (.tmp 46) ⟨q,1,none⟩ (vq) rfl (dD hD 15) (Kept.cell hk (HQ1.out))) rfl) ?_
    refine QQ 18 rfl (fun a u hE hD hk=>(by obtain ⟨v',u',hr,hp,hkk⟩:=VW slR _ u (a.eval (.tmp 43)) vq X.length w2.heap.size _ ((dD hD 12)) (HQS.out.kept hk) (ents_one _) (by have:=HX64.out;omega) (by omega) hk.size;exact jx v' u' rfl (JZ rfl _) (XQ slR (.tmp 43) (.tmp 47) _ vq rfl rfl (dD hD 16) v' u' hr) hp hkk)) ?_
    refine QQ 19 rfl (fun a u hE hD hk=>YW _ rfl (JZ rfl _) (exec_brl2 (.tmp 42) (.tmp 48) pr _ rfl (dD hD 11) rfl (sl_shape ((hD 17 48 (by kernel_rfl))).1)) ⟨_,rfl,(dD hD 17)⟩) ?_
    refine QQ 20 rfl (fun a u hE hD hk=>(by obtain ⟨v48,hx,hs,ho⟩:=(hD 18 49 (by kernel_rfl));exact jx (.pointer (some ⟨u.heap.size,0,none⟩)) _ rfl (JZ rfl _) (YX 88 (.tmp 49) [.int .i64 pr,v48] rfl hx) ⟨u.heap.size,_,rfl,lvl_copy hs,fun b hb=>hb.elim (fun e=>by rw [e];exact hk.size) (ho b)⟩ ((Keep.refl _ u).alloc _))) ?_
    refine QQ 21 rfl (fun a u hE hD hk=>(by obtain ⟨q1,F1,hx,hl1,hf1⟩:=(hD 19 50 (by kernel_rfl));exact jx (.slice (some ⟨u.heap.size,0,none⟩) 1 1) _ rfl (JZ rfl _) (exec_oneP Vy (.tmp 50) q1 rfl hx) ⟨u.heap.size,q1,F1,rfl,Blk.new u _ _,hl1.kept ((Keep.refl _ u).alloc _),hf1,hk.size,fun h=>by have:=hl1.2.1 _ h;omega⟩ ((Keep.refl _ u).alloc _))) ?_
    refine Zy 22 rfl (by first | exact .inl rfl | exact .inr rfl) ?_
    refine Zy 23 rfl (by first | exact .inl rfl | exact .inr rfl) ?_
    refine Zy 24 rfl (by first | exact .inl rfl | exact .inr rfl) ?_
    exact qsteps_nil
   intro gv w1 w7 hV h0 hR hk1
   rw [dq 24 [31,32,33,34,35,36,37,38,39,40,41,42,43,44,45,46,47,48,49,50,51,52,53,54]]
   simp only [Fz7]
   have hT:=hR 52 (by kernel_rfl)
   generalize gv 52=v52 at hT ⊢
   rw [show gv 31=.pointer (some ⟨r,0,none⟩) from h0 0 (by omega) rfl 31 (by kernel_rfl)]
   rw [show gv 32=.int .i64 (k:Int) from h0 1 (by omega) rfl 32 (by kernel_rfl)]
   rw [show gv 53=.pointer (some ⟨r,0,none⟩) from h0 22 (by omega) rfl 53 (by kernel_rfl)]
   rw [show gv 54=.pointer (some ⟨r,0,none⟩) from h0 23 (by omega) rfl 54 (by kernel_rfl)]
   clear hV h0 hR
   obtain ⟨q1,F1,hl7,hf7,hs7,ho7,hk7⟩:=hT
   have k67:Keep (fun b=>v2.ownBlock=some b) w2 w7:=(Keep.mono (T:=fun b=>v2.ownBlock=some b) hk1 (fun _ _ h=>h.elim)).trans hk7 (fun _ _ h=>h)
   have hB7:=HB2.out.keep k67 (fun h=>hrF ((HW2.out.own r h).1))
   refine Jx (.pointer (some ⟨r,0+k*1,none⟩)) rfl (VU 49 48 3 1 (.tmp 54) (.tmp 32) r 0 k rfl Tryz.underlying49 (by kernel_rfl) rfl rfl (by omega)) ?_
   simp only [Act.put,sA,sS,sZ]
   refine Zz 48 r (0+k*1) 51 _ v52 _ _ rfl rfl (by kernel_rfl) (by kernel_rfl) (by kernel_rfl) (VV hs7) (Yq hs7) hB7 (by rw [rsd_len h12];omega) ?_
   intro w8 hB8 hk8 hs8
   simp only [Act.put]
   refine Kx ?_
   rw [rsd_set h12] at hB8
   have hWi:WayZ 88 90 85 w2 Fs2 v2 (Z2++[]) G2:=by rw [List.append_nil];exact HW2.out
   obtain ⟨FX,GX,hWX,hgX,hkX,_⟩:=hWi.moreX (w':=w7) (v':=v52) (q:=q1) (pr:=pr) (X:=X) (F1:=F1) k67 (by rw [HZ2.out,List.length_nil,jz];exact hs7) ho7 hl7 hf7
   have zX:=hkX.size
   have hpX:¬ FX r:=fun h=>(hgX r h).elim hrF (fun h=>by omega)
   have hW8:=hWX.keep hk8 (fun b hb e=>hpX (by have e3:b=r:=e;rw [← e3];exact hb))
   have k28:Keep (fun b=>Fs2 b∨b=r) w2 w8:=(Keep.mono (T:=fun b=>Fs2 b∨b=r) k67 (fun b _ h=>.inl (HW2.out.own b h).1)).trans hk8 (fun b _ e=>.inr e)
   obtain ⟨F3,q3,q4,q5,_⟩:=HJ2.out w8 _ _ _ _ _ k28 hB8 ⟨_,_,rfl,hW8⟩ hgX
   have HR3:Hid (RBk w8 F3 r ((partB B k).to (k:Int) (L.take (i+1)) B.last B.no)):=by
    show RBk _ _ _ _
    rw [WX,HE2.out,Bok.to_to hs12] at q3
    rw [List.take_add_one,HA.out]
    exact q3
   have z2:=kw2.size
   have HF3:Hid (∀ b,F3 b→w.heap.size≤b):=fun b hb=>(q4 b hb).elim (HF2.out b) (fun h=>by omega)
   have kw8:Kept w w8:=Keep.trans kw2 q5 (fun b hb h=>by have:=HF2.out b h;omega)
   clear q3 q4 q5 hW8 k28 hWX hgX hkX hWi hB8 hk8 hs8 hl7 hf7 hs7 ho7 hk7 k67 hB7 HV2 HB2 HW2 HJ2 HS2 HR2 kw2 hk1
   go_wp2
   exact ⟨⟨i+1,F3,by omega,by go_num,HR3,HF3,kw8⟩,by simp [intOf];omega⟩
  have HR3:Hid (RBk wr F2 r (partB B (k+1))):=by
   show RBk _ _ _ _
   rw [← part_end B hk,HLe.out]
   have:=HR2.out
   rw [List.take_of_length_le (by rw [← EL.out,YU,HN.out];omega)] at this
   exact this
  clear HR2
  go_wp2
  exact ⟨⟨k+1,F2,by omega,by go_num,HR3,HF2,hkr2⟩,by simp [intOf];omega⟩
 have hk':k=3:=by omega
 subst hk'
 go_wp2
 go_ret
 exact ⟨r,F',rfl,HR.out,HF.out,hkr⟩
end Go.Proofs.YtlbeibapbkccfaaGreat
namespace Go.Proofs.YtlbeibapbkccfaaGreat
open Go.RowKit
variable {pr:Int}
theorem Lvl.renew3 {T E:TypeId} {w1 w2:World} {F:Nat→Prop} {p base:Nat} {X Y:List Ent} {v':Value} (h:Lvl pr T E w1 F p X) (hb:p<base) (hs:Sl w1 E 10 v' Y.length (ents Y)) (ho:∀ b,v'.ownBlock=some b→base≤b) (hB:Blk w2 p T [.int .i64 pr,v']) (hk2:Keep (·=p) w1 w2) :
  ∃ F',Lvl pr T E w2 F' p Y∧True∧Keep F w1 w2∧∀ b,F' b→F b∨base≤b:=by
 refine ⟨fun b=>F b∨v'.ownBlock=some b,⟨.inl h.1,fun b hb'=>?_,v',hB,hs.keep hk2 (fun b hb' e=>by have:=ho b hb';omega),fun b hb'=>⟨.inr hb',fun e=>by have:=ho b hb';omega⟩⟩,trivial,hk2.mono (fun b _ e=>by subst e;exact h.1),fun b hb'=>hb'.imp id (ho b)⟩
 have:=hk2.size
 rcases hb' with h1 | h1
 ·have:=h.2.1 b h1;omega
 have:=hs.lt h1;omega
theorem rtake_any (w:World) (F:Nat→Prop) (p:Nat) (X:List Ent) (firm q:Int) (h:Lvl pr 88 90 w F p X) (hX:Good X) (hq:q≤9223372036854775807) :
  Calls Tryz.prog 76 #[.pointer (some ⟨p,0,none⟩),.int .i64 firm,.int .i64 q] w (TakeIn pr 88 90 w F p X (takeM firm q X)):=by
 have HL0:=Kj h
 have HX0:=Kj hX
 clear h hX
 go_enter Tryz.func76,Tryz.ntmps76
 go_wp2_with fail
 go_loopw [2,8] (fun t h wr=>∃ (q':Int) (H X':List Ent) (F':Nat→Prop),t=.int .i64 q'∧q'≤9223372036854775807∧Hid (Sl wr 72 10 h H.length (ents H))∧Hid (∀ b,h.ownBlock=some b→w.heap.size≤b∧¬ F' b)∧Hid (Lvl pr 88 90 wr F' p X')∧Hid (Good X')∧Hid (Grow w F F')∧Keep F w wr∧Hid ((H.length:Int)+Xy X'≤Xy X)∧Hid (takeM firm q X=(H++(takeM firm q' X').1,(takeM firm q' X').2))) (fun t _ _=>(intOf t).toNat)
 case atStart=>exact ⟨q,[],X,F,rfl,hq,Sl.nil _ _ _,fun b hb=>(by simp [Value.ownBlock] at hb),HL0.out,HX0.out,Grow.refl _ _,Keep.refl _ _,by show _≤_;simp,by show _=_;simp⟩
 obtain ⟨q',H,X',F',rfl,hq',HV,HO,HL,HX,HG,hkF,HW,HT⟩:=hrel
 obtain ⟨v8,hv8⟩:∃ v8,v8=u8:=⟨_,rfl⟩
 subst hv8
 by_cases hq0:0<q'
 ·cases X' with
  | nil=>
   obtain ⟨h1,h2,v,hB,hS,h5⟩:=HL.out
   obtain ⟨m,hm⟩:∃ m,([]:List Ent).length=m:=⟨_,rfl⟩
   rw [hm] at hS
   have HB:=Kj hB
   have HS:=Kj hS
   have hpl:=h2 p h1
   clear hB hS h1 h2 h5
   have HD:=Kj (JJV (t:=takeM firm q X) HT.out (yQ firm q'))
   have hm0:m=0:=by simpa using hm.symm
   clear HT
   go_upto_region 2 with fail
   refine wE 10 [iV q',bV true,bV true,pV p 0,pV p 0,pV p 1,v,iV (m:Int),bV false,bV false] [12,13,14,15,16,17,18,19,20,21] ?_ ?_
   ·refine mE 1 2 ?_
    refine aS 2 rfl (fun a u E D hk=>XX rfl (dD D 0) rfl) (Ky hq0) ?_
    refine mD 3 13 1 ?_
    refine mE 4 0 ?_
    refine nD 5 15 3 ?_
    refine fD 6 16 4 88 1 1 0 ?_
    refine sW 7 rfl (fun a u E D hk=>Jy _ _ Tryz.underlying86 _ _ _ rfl (dD D 5) (by rw [(HB.out.kept hk).cell];rfl)) ?_
    refine sW 8 rfl (fun a u E D hk=>Qq _ slR _ _ _ _ rfl (dD D 6) HS.out) ?_
    refine aS 9 rfl (fun a u E D hk=>XX rfl (dD D 7) rfl) (Ku (by omega)) ?_
    refine pT 10 14 20 2 8 ?_
    exact fz
   intro w1 k1
   simp only [F8]
   have kF1:=hkF.kept k1
   have s1:=k1.size
   go_wp2
   go_ret2
   refine ⟨F',v8,?_,?_,?_,HO.out,HG.out,kF1⟩
   ·rw [HD.out];rfl
   ·rw [HD.out];exact HL.out.kept k1
   rw [HD.out];exact HV.out.kept k1
  | cons e R=>
   obtain ⟨h1,h2,v,hB,hS,h5⟩:=HL.out
   obtain ⟨m,hm⟩:∃ m,(e::R).length=m:=⟨_,rfl⟩
   rw [hm] at hS
   have HB:=Kj hB
   have HS:=Kj hS
   have hpl:=h2 p h1
   clear hB hS h1 h2 h5
   have hm0:0<m:=by rw [← hm];simp
   have hmR:m=R.length+1:=by rw [← hm];simp
   obtain ⟨g,off,c,rfl⟩:=HS.out.some_ hm0
   have HE:Hid (wr.rangeAt g off e.cells):=HS.out.rng 0 e rfl
   have hb:=HX.out.bound (e:=e) (by simp)
   go_upto_region 2 with fail
   refine wE 10 [iV q',bV true,bV true,pV p 0,pV p 0,pV p 1,.slice (some ⟨g,off,none⟩) m c,iV (m:Int),bV true,bV true] [12,13,14,15,16,17,18,19,20,21] ?_ ?_
   ·refine mE 1 2 ?_
    refine aS 2 rfl (fun a u E D hk=>XX rfl (dD D 0) rfl) (Ky hq0) ?_
    refine mD 3 13 1 ?_
    refine mE 4 0 ?_
    refine nD 5 15 3 ?_
    refine fD 6 16 4 88 1 1 0 ?_
    refine sW 7 rfl (fun a u E D hk=>Jy _ _ Tryz.underlying86 _ _ _ rfl (dD D 5) (by rw [(HB.out.kept hk).cell];rfl)) ?_
    refine sW 8 rfl (fun a u E D hk=>ZZ _ _ _ slR.und (some ⟨g,off,none⟩) m c rfl (dD D 6)) ?_
    refine aS 9 rfl (fun a u E D hk=>XX rfl (dD D 7) rfl) (Ky (by omega)) ?_
    refine pT 10 14 20 2 8 ?_
    exact fz
   intro w1 k1
   simp only [F8]
   have kF1:=hkF.kept k1
   have s1:=k1.size
   have HB1:=Kj (HB.out.kept k1)
   have HE1:=Kj (JJ HE.out k1)
   by_cases hf:e.o.firm=firm
   ·have HD:=Kj (JJV (t:=takeM firm q X) HT.out (JJj firm q' e R hq0 (by omega) hf))
    clear HT
    go_upto_region 3 with fail
    refine QZ 7 [pE p 0,pE p 0,pE p 1,.eq (.slice (some ⟨g,off,none⟩) m c),pE g off,.eq (e.v),.fresh w1.heap.size 90 Xz.cells] rfl (by kernel_rfl) ?_ ?_
    ·refine mE 1 0 ?_
     refine nD 2 22 0 ?_
     refine fD 3 23 1 88 1 1 0 ?_
     refine sW 4 rfl (fun a u E D hk=>Jy _ _ Tryz.underlying86 _ _ _ rfl (dD D 2) (by rw [(HB1.out.kept hk).cell];rfl)) ?_
     refine sW 5 rfl (fun a u E D hk=>Jz slR _ _ (g) (off) m c 0 (off) (0) rfl (dD D 3) rfl (by first | rfl | omega) ((by omega)) (by first | rfl | omega)) ?_
     refine sD 6 26 4 e.cells Tryz.underlying90 (fun u hk=>JJ HE1.out hk) (by rw [e.len10];exact szR) ?_
     refine nW 7 rfl (fun a u E D hk=>⟨_,_,QW 90 Xz.cells rfl zR,⟨_,rfl,hk.size,Blk.new u _ _⟩,((Keep.refl _ u).alloc _)⟩) ?_
     exact fz
    intro gv w2 hV k2
    rw [dq 7 [22,23,24,25,26,27,9]]
    simp only [Fz7]
    have hv9:(.fresh w1.heap.size 90 Xz.cells:Kn).p (gv 9) w2:=hV 6 9 (by kernel_rfl)
    generalize gv 9=v9 at hv9 ⊢
    rw [gQ hV 5 27 e.v]
    clear hV
    obtain ⟨b9,rfl,hb9,hB9⟩:=hv9
    refine Qj 90 b9 90 Xz.cells e.cells _ _ rfl rfl (by kernel_rfl) (by kernel_rfl) hB9 (by rw [Ent.len10];exact szR) (by rw [Ent.len10,Ent.len10]) (Ent.one _) ?_
    intro w3 hC3 hk3 hs3
    simp only [Act.put]
    refine Kx ?_
    have k13:Kept w1 w3:=k2.trans' hk3 (by omega)
    have kr3:=k1.trans k13
    have HC3:=Kj hC3
    have HC3r:=Kj (JW hC3)
    have l9:=hC3.lt
    have s3:=k13.size
    clear hB9 hC3 hk3 k2 hs3
    go_upto_region 4 with fail
    refine wE 5 [pV b9 0,pV b9 2,iV e.o.firm,iV firm,bV true] [28,29,30,31,32] ?_ ?_
    ·refine fE 1 9 90 0 0 0 ?_
     refine fD 2 28 0 30 2 2 0 ?_
     refine lD 3 29 1 Tryz.underlying3 (fun u hk=>JY (JJ HC3r.out hk) 2 _ rfl) ?_
     refine mE 4 1 ?_
     refine aS 5 rfl (fun a u E D hk=>JU rfl (dD D 2) (dD D 3)) (Ky hf) ?_
     exact fz
    intro w4 k4
    simp only [F8]
    have kr4:=kr3.trans k4
    have HC4:=Kj (HC3.out.kept k4)
    have HC4r:=Kj (JJ HC3r.out k4)
    have s4:=k4.size
    clear HC3 HC3r k4 k13 kr3
    go_wp2
    go_ret2
    refine ⟨F',v8,?_,?_,?_,HO.out,HG.out,hkF.kept kr4⟩
    ·rw [HD.out];rfl
    ·rw [HD.out];exact HL.out.kept kr4
    rw [HD.out];exact HV.out.kept kr4
   have hmn1:=mn_le q' e.n
   have hmn2:=mn_pos q' e.n hq0 (by omega)
   have hD0:=take_next_ HT.out hq0 (by omega) hf
   obtain ⟨n,hn⟩:∃ n,mn q' e.n=n:=⟨_,rfl⟩
   rw [hn] at hmn1 hmn2 hD0
   have HN:Hid ((if e.n<q' then e.n else q')=n):=hn
   have HD:=Kj hD0
   clear HT hn hD0
   go_upto_region 3 with fail
   refine QZ 7 [pE p 0,pE p 0,pE p 1,.eq (.slice (some ⟨g,off,none⟩) m c),pE g off,.eq (e.v),.fresh w1.heap.size 90 Xz.cells] rfl (by kernel_rfl) ?_ ?_
   ·refine mE 1 0 ?_
    refine nD 2 22 0 ?_
    refine fD 3 23 1 88 1 1 0 ?_
    refine sW 4 rfl (fun a u E D hk=>Jy _ _ Tryz.underlying86 _ _ _ rfl (dD D 2) (by rw [(HB1.out.kept hk).cell];rfl)) ?_
    refine sW 5 rfl (fun a u E D hk=>Jz slR _ _ (g) (off) m c 0 (off) (0) rfl (dD D 3) rfl (by first | rfl | omega) ((by omega)) (by first | rfl | omega)) ?_
    refine sD 6 26 4 e.cells Tryz.underlying90 (fun u hk=>JJ HE1.out hk) (by rw [e.len10];exact szR) ?_
    refine nW 7 rfl (fun a u E D hk=>⟨_,_,QW 90 Xz.cells rfl zR,⟨_,rfl,hk.size,Blk.new u _ _⟩,((Keep.refl _ u).alloc _)⟩) ?_
    exact fz
   intro gv w2 hV k2
   rw [dq 7 [22,23,24,25,26,27,9]]
   simp only [Fz7]
   have hv9:(.fresh w1.heap.size 90 Xz.cells:Kn).p (gv 9) w2:=hV 6 9 (by kernel_rfl)
   generalize gv 9=v9 at hv9 ⊢
   rw [gQ hV 5 27 e.v]
   clear hV
   obtain ⟨b9,rfl,hb9,hB9⟩:=hv9
   refine Qj 90 b9 90 Xz.cells e.cells _ _ rfl rfl (by kernel_rfl) (by kernel_rfl) hB9 (by rw [Ent.len10];exact szR) (by rw [Ent.len10,Ent.len10]) (Ent.one _) ?_
   intro w3 hC3 hk3 hs3
   simp only [Act.put]
   refine Kx ?_
   have k13:Kept w1 w3:=k2.trans' hk3 (by omega)
   have kr3:=k1.trans k13
   have HC3:=Kj hC3
   have HC3r:=Kj (JW hC3)
   have l9:=hC3.lt
   have s3:=k13.size
   clear hB9 hC3 hk3 k2 hs3
   go_upto_region 4 with fail
   refine wE 5 [pV b9 0,pV b9 2,iV e.o.firm,iV firm,bV false] [28,29,30,31,32] ?_ ?_
   ·refine fE 1 9 90 0 0 0 ?_
    refine fD 2 28 0 30 2 2 0 ?_
    refine lD 3 29 1 Tryz.underlying3 (fun u hk=>JY (JJ HC3r.out hk) 2 _ rfl) ?_
    refine mE 4 1 ?_
    refine aS 5 rfl (fun a u E D hk=>JU rfl (dD D 2) (dD D 3)) (Ku hf) ?_
    exact fz
   intro w4 k4
   simp only [F8]
   have kr4:=kr3.trans k4
   have HC4:=Kj (HC3.out.kept k4)
   have HC4r:=Kj (JJ HC3r.out k4)
   have s4:=k4.size
   clear HC3 HC3r k4 k13 kr3
   have HLN:Hid (H.length≤99999999):=by
    show _≤_
    have h1:=HW.out
    have h2:=HX0.out.few
    have h3:=ZQ HX.out.ok
    simp only [List.length_cons] at h3
    omega
   have s0:=hkF.size
   have HVL:Hid (∀ b,v8.ownBlock=some b→b<wr.heap.size):=fun b hb=>HV.out.lt hb
   have HFL:Hid (∀ b,F' b→b<wr.heap.size):=HL.out.2.1
   clear HB1 HE1 HB HE HS k1
   go_upto_region 6 with fail
   refine wEp 4 [iV q',pV b9 9,iV e.n,iV n] [34,35,36,37] ?_ ?_
   ·refine mE 1 2 ?_
    refine fE 2 9 90 1 9 0 ?_
    refine lD 3 35 1 Tryz.underlying3 (fun u hk=>JY (JJ HC4r.out hk) 9 _ rfl) ?_
    refine sW 4 rfl (fun a u E D hk=>yU _ _ _ q' e.n n rfl (dD D 0) (dD D 2) HN.out) ?_
    exact fz
   intro w5 k5
   simp only [F8]
   refine Jx (.int .i64 n) rfl (JQ _ _ rfl (by kernel_rfl)) ?_
   simp only [Act.put,sA,sS,sZ]
   refine Kx ?_
   have kr5:=kr4.trans k5
   have HC5:=Kj (HC4.out.kept k5)
   have HC5r:=Kj (JJ HC4r.out k5)
   have s5:=k5.size
   clear HC4 HC4r k5 kr4 HN
   go_upto_region 7 with fail
   refine QZ 6 [.eq (v8),pE b9 0,.eq (e.o.v),iE n,.eq ((Ent.mk e.o (n)).v),.sl w5.heap.size 72 10 1 (Ent.mk e.o (n)).cells] rfl (by kernel_rfl) ?_ ?_
   ·refine mE 1 8 ?_
    refine fE 2 9 90 0 0 0 ?_
    refine sD 3 39 1 e.o.cells Tryz.underlying30 (fun u hk=>xQ (JJ HC5r.out hk)) (by rw [e.o.len9];exact JX) ?_
    refine mE 4 10 ?_
    refine sW 5 rfl (fun a u E D hk=>yJ 72 builtH _ _ (e.o) (n) rfl (dD D 2) (dD D 3)) ?_
    refine nW 6 rfl (fun a u E D hk=>⟨_,_,Vz slH _ (Ent.mk e.o (n)).cells (by omega) rfl (dD D 4) ((Ent.mk e.o (n)).len10),(qQ u 72 10 _ w5.heap.size ((Ent.mk e.o (n)).len10) (by omega) hk.size),((Keep.refl _ u).alloc _)⟩) ?_
    exact fz
   intro gv w6 hV k6
   rw [dq 6 [38,39,40,41,42,43]]
   simp only [Fz7]
   rw [gQ hV 0 38 v8]
   have hv43:(.sl w5.heap.size 72 10 1 (Ent.mk e.o (n)).cells:Kn).p (gv 43) w6:=hV 5 43 (by kernel_rfl)
   generalize gv 43=v43 at hv43 ⊢
   clear hV
   have hln:=HLN.out
   obtain ⟨v7,w7,hr7,hs7,hk7,ho7⟩:=Qy slH 73 w6 v8 v43 H.length 1 _ _ (HV.out.kept (kr5.trans k6)) hv43.1 (Ent.one _) (by unfold maxLen;omega) (by omega)
   refine ZW v7 w7 rfl (XQ slH (.tmp 38) (.tmp 43) v8 v43 rfl (by kernel_rfl) (by kernel_rfl) v7 w7 hr7) ?_
   simp only [Act.put,sA,sS,sZ]
   refine Jx (v7) rfl (JQ _ _ rfl (by kernel_rfl)) ?_
   simp only [Act.put,sA,sS,sZ]
   refine Kx ?_
   have s6:=k6.size
   have s7:=hk7.size
   have kr6:=kr5.trans k6
   have HL7:=Kj ((HL.out.kept kr6).keep hk7 (fun b hb hv=>(HO.out b hv).2 hb))
   have kF7:Keep F w w7:=(hkF.kept kr6).trans hk7 (fun b hb hv=>by have:=(HO.out b hv).1;omega)
   have hb9n:¬ v8.ownBlock=some b9:=fun h=>by have:=HVL.out b9 h;omega
   have HC7:=Kj ((HC5.out.kept k6).keep hk7 hb9n)
   have HC7r:=Kj (JW HC7.out)
   have HO7:Hid (∀ b,v7.ownBlock=some b→w.heap.size≤b∧¬ F' b):=fun b hb=>by
    rcases ho7 b hb with h | h
    ·exact HO.out b h
    exact ⟨by omega,fun hF=>by have:=HFL.out b hF;omega⟩
   have HO7b:Hid (∀ b,v7.ownBlock=some b→b≠b9):=fun b hb e=>by
    rcases ho7 b hb with h | h
    ·have:=HVL.out b h;omega
    omega
   have HV7:Hid (Sl w7 72 10 v7 (H++[Ent.mk e.o n]).length (ents (H++[Ent.mk e.o n]))):=by
    show Sl _ _ _ _ _ _
    rw [List.length_append,yz]
    exact hs7
   have HV7L:Hid (∀ b,v7.ownBlock=some b→b<w7.heap.size):=fun b hb=>hs7.lt hb
   clear hs7 hk7 ho7 hr7 hv43 HC5 HC5r kr5 kr6 k6 HV HO HL hln hb9n hkF
   go_upto_region 8 with fail
   refine wEp 3 [iV q',iV n,iV (q'-n)] [45,46,47] ?_ ?_
   ·refine mE 1 2 ?_
    refine mE 2 10 ?_
    refine sW 3 rfl (fun a u E D hk=>Vj (q'-n) rfl (dD D 0) (dD D 1) rfl (by omega) (by omega)) ?_
    exact fz
   intro w8 k8
   simp only [F8]
   refine Jx (.int .i64 (q'-n)) rfl (JQ _ _ rfl (by kernel_rfl)) ?_
   simp only [Act.put,sA,sS,sZ]
   refine Kx ?_
   have HC8:=Kj (HC7.out.kept k8)
   have HC8r:=Kj (JJ HC7r.out k8)
   have s8:=k8.size
   clear HC7 HC7r
   go_upto_region 9 with fail
   refine wEp 9 [pV b9 0,pV b9 6,iV e.o.qty,iV n,iV (e.o.qty-n),pV b9 9,iV e.n,iV n,iV (e.n-n)] [48,49,50,51,52,53,54,55,56] ?_ ?_
   ·refine fE 1 9 90 0 0 0 ?_
    refine fD 2 48 0 30 6 6 0 ?_
    refine lD 3 49 1 Tryz.underlying3 (fun u hk=>JY (JJ HC8r.out hk) 6 _ rfl) ?_
    refine mE 4 10 ?_
    refine sW 5 rfl (fun a u E D hk=>Vj (e.o.qty-n) rfl (dD D 2) (dD D 3) rfl (by omega) (by omega)) ?_
    refine fE 6 9 90 1 9 0 ?_
    refine lD 7 53 5 Tryz.underlying3 (fun u hk=>JY (JJ HC8r.out hk) 9 _ rfl) ?_
    refine mE 8 10 ?_
    refine sW 9 rfl (fun a u E D hk=>Vj (e.n-n) rfl (dD D 6) (dD D 7) rfl (by omega) (by omega)) ?_
    exact fz
   intro w9 k9
   simp only [F8]
   refine Jx (.pointer (some ⟨b9,0,none⟩)) rfl (QV 90 0 0 (.tmp 9) (b9) (0) (0) rfl (by kernel_rfl) (by kernel_rfl) rfl) ?_
   simp only [Act.put,sA,sS,sZ]
   refine Jx (.pointer (some ⟨b9,6,none⟩)) rfl (QV 30 6 6 (.tmp 57) (b9) (0) (6) rfl (by kernel_rfl) (by kernel_rfl) rfl) ?_
   simp only [Act.put,sA,sS,sZ]
   refine Zz 3 b9 6 90 _ (.int .i64 (e.o.qty-n)) _ _ rfl rfl (by kernel_rfl) (by kernel_rfl) (by kernel_rfl) rfl rfl (HC8.out.kept k9) (by rw [Ent.len10];omega) ?_
   intro w10 hC10 hk10 hs10
   simp only [Act.put]
   refine Jx (.pointer (some ⟨b9,9,none⟩)) rfl (QV 90 1 9 (.tmp 9) (b9) (0) (9) rfl (by kernel_rfl) (by kernel_rfl) rfl) ?_
   simp only [Act.put,sA,sS,sZ]
   refine Zz 3 b9 9 90 _ (.int .i64 (e.n-n)) _ _ rfl rfl (by kernel_rfl) (by kernel_rfl) (by kernel_rfl) rfl rfl hC10 (by rw [List.length_set,Ent.len10];omega) ?_
   intro w11 hC11 hk11 hs11
   simp only [Act.put]
   refine Kx ?_
   have s9:=k9.size
   have HC11:Hid (Blk w11 b9 90 (e.sub n).cells):=hC11
   have HC11r:=Kj (JW HC11.out)
   have K11:Keep (·=b9) w7 w11:=((Keep.mono (T:=(·=b9)) (k8.trans k9) (fun _ _ h=>h.elim)).trans hk10 (fun _ _ h=>h)).trans hk11 (fun _ _ h=>h)
   have hbF:¬ F' b9:=fun h=>by have:=HFL.out b9 h;omega
   have HL11:=Kj (HL7.out.keep K11 (fun b hb e=>hbF (by rw [← e];exact hb)))
   have HV11:=Kj (HV7.out.keep K11 (fun b hb e=>HO7b.out b hb e))
   have kF11:Keep F w w11:=kF7.trans K11 (fun b hb e=>by subst e;omega)
   have s11:=K11.size
   clear hC10 hC11 hk10 hk11 K11 HC8 HC8r k8 k9 HL7 HV7 kF7
   obtain ⟨h1,h2,v,hB,hS,h5⟩:=HL11.out
   rw [hm] at hS
   obtain ⟨vr,hvr,hor,hsr⟩:=jX slR v m 1 (by omega) _ w11 hS
   have HVR:=Kj hvr
   have HSR:Hid (∀ u,Kept w11 u→Sl u 90 10 vr R.length (ents R)):=fun u hk=>by
    have:=hsr u _ (hS.kept hk)
    rw [show (ents (e::R)).drop (1*10)=ents R from Uz Ent.cells 10 Ent.len10 (e::R) 1,show m-1=R.length by omega] at this
    exact this
   have HB11:=Kj hB
   have hRl:R.length≤100000000:=by have:=HX.out.len;simp at this;omega
   clear h1 h2 hB hS h5 hvr hor hsr
   go_upto_region 10 with fail
   refine QZ 7 [.emp w11.heap.size 90,pE p 0,pE p 0,pE p 1,.eq (v),.eq (vr),.sl w11.heap.size 90 10 R.length (ents R)] rfl (by kernel_rfl) ?_ ?_
   ·refine nW 1 rfl (fun a u E D hk=>⟨_,_,Uy 86 90 10 rfl slR.und szR,⟨_,rfl,hk.size,Blk.new u _ _⟩,((Keep.refl _ u).alloc _)⟩) ?_
    refine mE 2 0 ?_
    refine nD 3 61 1 ?_
    refine fD 4 62 2 88 1 1 0 ?_
    refine sW 5 rfl (fun a u E D hk=>Jy _ _ Tryz.underlying86 _ _ _ rfl (dD D 3) (by rw [(HB11.out.kept hk).cell];rfl)) ?_
    refine sW 6 rfl (fun a u E D hk=>VX slR _ _ v vr 1 rfl (dD D 4) rfl (HVR.out u)) ?_
    refine QY 7 rfl (fun a u hE hD hk=>(by obtain ⟨v',u',hr,hp,hkk⟩:=VW slR _ u (a.eval (.tmp 60)) vr R.length w11.heap.size _ ((dD hD 0)) (HSR.out u hk) (ents_one _) (by omega) (by omega) hk.size;exact jx v' u' rfl (JZ rfl _) (XQ slR (.tmp 60) (.tmp 65) _ vr rfl rfl (dD hD 5) v' u' hr) hp hkk)) ?_
    exact fz
   intro gv w12 hV k12
   rw [dq 7 [60,61,62,63,64,65,66]]
   simp only [Fz7]
   have hv66:(.sl w11.heap.size 90 10 R.length (ents R):Kn).p (gv 66) w12:=hV 6 66 (by kernel_rfl)
   generalize gv 66=v66 at hv66 ⊢
   clear hV
   refine Jx (v66) rfl (JQ _ _ rfl (by kernel_rfl)) ?_
   simp only [Act.put,sA,sS,sZ]
   refine Kx ?_
   have HRS:=Kj hv66.1
   have HRO:=Kj hv66.2
   have HC12:=Kj (HC11.out.kept k12)
   have HC12r:=Kj (JJ HC11r.out k12)
   have s12:=k12.size
   clear hv66 HC11 HC11r HVR HSR
   by_cases hc:e.o.qty-n=0
   ·have hnext:ZU e n R=R:=by unfold ZU;rw [if_pos hc]
    go_upto_region 12 with fail
    refine wEp 4 [pV b9 0,pV b9 6,iV ((e.sub n).o.qty),bV true] [75,76,77,78] ?_ ?_
    ·refine fE 1 9 90 0 0 0 ?_
     refine fD 2 75 0 30 6 6 0 ?_
     refine lD 3 76 1 Tryz.underlying3 (fun u hk=>JY (JJ HC12r.out hk) 6 _ rfl) ?_
     refine aS 4 rfl (fun a u E D hk=>JU rfl (dD D 2) rfl) (Ky hc) ?_
     exact fz
    intro w13 k13
    simp only [F8]
    refine Jx (.bool true) rfl (JQ _ _ rfl (by kernel_rfl)) ?_
    simp only [Act.put,sA,sS,sZ]
    refine Kx ?_
    clear hc
    go_upto_region 13 with fail
    refine wEp 4 [pV p 0,v66,pV p 0,pV p 1] [79,80,81,82] ?_ ?_
    ·refine mE 1 0 ?_
     refine mE 2 11 ?_
     refine nD 3 79 0 ?_
     refine fD 4 81 2 88 1 1 0 ?_
     exact fz
    intro w14 k14
    simp only [F8]
    have k1114:=(k12.trans k13).trans k14
    refine Zz 86 p 1 88 _ v66 _ _ rfl rfl (by kernel_rfl) (by kernel_rfl) (by kernel_rfl) (VV HRS.out) (Yq HRS.out) (HB11.out.kept k1114) (by simp) ?_
    intro w15 hB15 hk15 hs15
    simp only [Act.put]
    refine Kx ?_
    have hpF:F' p:=HL11.out.1
    have hpl2:=HFL.out p hpF
    have s14:=k1114.size
    obtain ⟨F2,q1,q2,q3,q4⟩:=HL11.out.renew2 k1114 (Nat.le_refl _) (Y:=R) ((HRS.out.kept k13).kept k14) HRO.out (by simpa using hB15) hk15
    have q2':Grow wr F' F2:=fun b hb=>(q4 b hb).imp id (fun h=>by omega)
    have hkF9:Keep F w w15:=Grow.keep HG.out kF11 q3
    have hV9:=(HV11.out.kept k1114).keep hk15 (fun b hb e=>(HO7.out b hb).2 (by rw [e];exact hpF))
    clear hB15 hk15 k1114 k12 k13 k14 q3 HRS HRO
    have HX8:=Kj (zZ HX.out (n:=n) (by omega) hmn1.2)
    have HW8:Hid (((H++[Ent.mk e.o n]).length:Int)+Xy (ZU e n R)≤Xy X):=by
     show _≤_
     have h1:=HW.out
     rw [xz,List.length_append]
     rw [WY] at h1
     simp only [List.length_cons,List.length_nil]
     omega
    rw [← hnext] at q1
    have HL9:=Kj q1
    have HG9:Hid (Grow w F F2):=Grow.trans HG.out q2' (by omega)
    have HO9:Hid (∀ b,v7.ownBlock=some b→w.heap.size≤b∧¬ F2 b):=fun b hb=>⟨(HO7.out b hb).1,fun h=>by
     rcases q4 b h with h1 | h1
     ·exact (HO7.out b hb).2 h1
     have:=HV7L.out b hb;omega⟩
    have HV9:=Kj hV9
    have kF9:=hkF9
    clear q1 q2 q2' q4 hV9 hkF9 HW HX hnext
    go_wp2
    exact ⟨⟨q'-n,H++[Ent.mk e.o n],ZU e n R,F2,rfl,by omega,HV9,HO9,HL9,HX8,HG9,kF9,HW8,HD⟩,by simp [intOf];omega⟩
   by_cases hd:e.n-n=0
   ·have hnext:ZU e n R=R++[Ent.of (e.sub n).o]:=by unfold ZU;rw [if_neg hc,if_pos hd]
    go_upto_region 12 with fail
    refine wEp 4 [pV b9 0,pV b9 6,iV ((e.sub n).o.qty),bV false] [75,76,77,78] ?_ ?_
    ·refine fE 1 9 90 0 0 0 ?_
     refine fD 2 75 0 30 6 6 0 ?_
     refine lD 3 76 1 Tryz.underlying3 (fun u hk=>JY (JJ HC12r.out hk) 6 _ rfl) ?_
     refine aS 4 rfl (fun a u E D hk=>JU rfl (dD D 2) rfl) (Ku hc) ?_
     exact fz
    intro w13 k13
    simp only [F8]
    refine Jx (.bool false) rfl (JQ _ _ rfl (by kernel_rfl)) ?_
    simp only [Act.put,sA,sS,sZ]
    refine Kx ?_
    have HC13:=Kj (HC12.out.kept k13)
    have HC13r:=Kj (JJ HC12r.out k13)
    clear hc HC12 HC12r
    go_upto_region 14 with fail
    refine wEp 3 [pV b9 9,iV ((e.sub n).n),bV true] [84,85,86] ?_ ?_
    ·refine fE 1 9 90 1 9 0 ?_
     refine lD 2 84 0 Tryz.underlying3 (fun u hk=>JY (JJ HC13r.out hk) 9 _ rfl) ?_
     refine aS 3 rfl (fun a u E D hk=>JU rfl (dD D 1) rfl) (Ky hd) ?_
     exact fz
    intro w14 k14
    simp only [F8]
    refine Jx (.bool true) rfl (JQ _ _ rfl (by kernel_rfl)) ?_
    simp only [Act.put,sA,sS,sZ]
    refine Kx ?_
    have k1114:=(k12.trans k13).trans k14
    have HC14:=Kj (HC13.out.kept k14)
    have HC14r:=Kj (JJ HC13r.out k14)
    have HRS14:=Kj (HRS.out.kept (k13.trans k14))
    have s14:=k1114.size
    clear hd HC13 HC13r k12 k13 k14 HRS
    go_upto_region 15 with fail
    refine wEp 4 [pV b9 0,(e.sub n).o.v,iV ((e.sub n).o.tip),pV b9 9] [87,88,89,90] ?_ ?_
    ·refine fE 1 9 90 0 0 0 ?_
     refine sD 2 87 0 ((e.sub n).o.cells) Tryz.underlying30 (fun u hk=>xQ (JJ HC14r.out hk)) (by rw [(e.sub n).o.len9];exact JX) ?_
     refine cS 3 96 [(e.sub n).o.v] rfl Tryz.func96 rfl (fun a u E D hk=>⟨ll (dD D 1) rfl,tip_any (e.sub n).o u⟩) ?_
     refine fE 4 9 90 1 9 0 ?_
     exact fz
    intro w15 k15
    simp only [F8]
    refine Zz 3 b9 9 90 _ (.int .i64 (e.sub n).o.tip) _ _ rfl rfl (by kernel_rfl) (by kernel_rfl) (by kernel_rfl) rfl rfl (HC14.out.kept k15) (by rw [Ent.len10];omega) ?_
    intro w16 hC16 hk16 hs16
    simp only [Act.put]
    refine Kx ?_
    have HC16r:Hid (w16.rangeAt b9 0 (Ent.of (e.sub n).o).cells):=JW (show Blk w16 b9 _ (Ent.of (e.sub n).o).cells from hC16)
    have K16:Keep (·=b9) w11 w16:=((Keep.mono (T:=(·=b9)) (k1114.trans k15) (fun _ _ h=>h.elim))).trans hk16 (fun _ _ h=>h)
    have hpF:F' p:=HL11.out.1
    have hpl2:=HFL.out p hpF
    have HL16:=Kj (HL11.out.keep K16 (fun b hb e=>hbF (by rw [← e];exact hb)))
    have HB16:=Kj (HB11.out.keep K16 (by omega))
    have HV16:=Kj (HV11.out.keep K16 (fun b hb e=>HO7b.out b hb e))
    have kF16:Keep F w w16:=kF11.trans K16 (fun b hb e=>by subst e;omega)
    have HRS16:=Kj ((HRS14.out.kept k15).keep hk16 (fun b hb e=>by have:=HRO.out b hb;omega))
    have s16:=K16.size
    obtain ⟨e2,he2⟩:∃ e2,Ent.of (e.sub n).o=e2:=⟨_,rfl⟩
    rw [he2] at HC16r hnext
    clear hC16 hk16 K16 k1114 k15 HC14 HC14r HRS14 HL11 HV11 kF11 HB11 he2
    go_upto_region 16 with fail
    refine QZ 4 [pE p 0,.eq (v66),.eq (e2.v),.sl w16.heap.size 90 10 1 e2.cells] rfl (by kernel_rfl) ?_ ?_
    ·refine mE 1 0 ?_
     refine mE 2 11 ?_
     refine sE 3 9 b9 0 e2.cells Tryz.underlying90 (fun u hk=>JJ HC16r.out hk) (by rw [e2.len10];exact szR) ?_
     refine nW 4 rfl (fun a u E D hk=>⟨_,_,Vz slR _ e2.cells (by omega) rfl (dD D 2) (e2.len10),(qQ u 90 10 _ w16.heap.size (e2.len10) (by omega) hk.size),((Keep.refl _ u).alloc _)⟩) ?_
     exact fz
    intro gv w17 hV k17
    rw [dq 4 [91,92,93,94]]
    simp only [Fz7]
    rw [gQ hV 1 92 v66]
    have hv94:(.sl w16.heap.size 90 10 1 e2.cells:Kn).p (gv 94) w17:=hV 3 94 (by kernel_rfl)
    generalize gv 94=v94 at hv94 ⊢
    rw [gQ hV 0 91 (.pointer (some ⟨p,0,none⟩))]
    clear hV
    obtain ⟨v95,w18,hr18,hs18,hk18,ho18⟩:=Qy slR 86 w17 v66 v94 R.length 1 _ _ (HRS16.out.kept k17) hv94.1 (Ent.one _) (by unfold maxLen;omega) (by omega)
    have s17:=k17.size
    have hpn:¬ v66.ownBlock=some p:=fun h=>by have:=HRO.out p h;omega
    refine ZW v95 w18 rfl (XQ slR (.tmp 92) (.tmp 94) v66 v94 rfl (by kernel_rfl) (by kernel_rfl) v95 w18 hr18) ?_
    simp only [Act.put,sA,sS,sZ]
    refine Jx (.pointer (some ⟨p,0,none⟩)) rfl (YY (.tmp 91) ⟨p,0,none⟩ rfl (by kernel_rfl)) ?_
    simp only [Act.put,sA,sS,sZ]
    refine Jx (.pointer (some ⟨p,1,none⟩)) rfl (QV 88 1 1 (.tmp 96) (p) (0) (1) rfl (by kernel_rfl) (by kernel_rfl) rfl) ?_
    simp only [Act.put,sA,sS,sZ]
    refine Zz 86 p 1 88 _ v95 _ _ rfl rfl (by kernel_rfl) (by kernel_rfl) (by kernel_rfl) (VV hs18) (Yq hs18) ((HB16.out.kept k17).keep hk18 hpn) (by simp) ?_
    intro w19 hB19 hk19 hs19
    simp only [Act.put]
    refine Kx ?_
    have HRL:Hid (∀ b,v66.ownBlock=some b→w11.heap.size≤b):=HRO.out
    have K18:Keep (fun b=>w11.heap.size≤b) w16 w18:=(Keep.mono (T:=fun b=>w11.heap.size≤b) k17 (fun _ _ h=>h.elim)).trans hk18 (fun b _ hb=>HRL.out b hb)
    have HL18:=Kj (HL16.out.keep K18 (fun b hb h=>by have:=HFL.out b hb;omega))
    have HV18:=Kj (HV16.out.keep K18 (fun b hb h=>by have:=HV7L.out b hb;omega))
    have kF18:Keep F w w18:=kF16.trans K18 (fun b hb h=>by omega)
    obtain ⟨F2,q1,q2,q3,q4⟩:=HL18.out.renew3 (base:=w11.heap.size) (Y:=R++[e2]) (v':=v95) (by omega) (by rw [List.length_append,yz];exact hs18) (fun b hb=>(ho18 b hb).elim (HRL.out b) (fun h=>by omega)) (by simpa using hB19) hk19
    have q2':Grow wr F' F2:=fun b hb=>(q4 b hb).imp id (fun h=>by omega)
    have hkF9:Keep F w w19:=Grow.keep HG.out kF18 q3
    have hV9:=HV18.out.keep hk19 (fun b hb e=>(HO7.out b hb).2 (by rw [e];exact hpF))
    clear hB19 hk19 hs18 hk18 hr18 ho18 k17 K18 q3 HRS16 HRO hv94
    have HX8:=Kj (zZ HX.out (n:=n) (by omega) hmn1.2)
    have HW8:Hid (((H++[Ent.mk e.o n]).length:Int)+Xy (ZU e n R)≤Xy X):=by
     show _≤_
     have h1:=HW.out
     rw [xz,List.length_append]
     rw [WY] at h1
     simp only [List.length_cons,List.length_nil]
     omega
    rw [← hnext] at q1
    have HL9:=Kj q1
    have HG9:Hid (Grow w F F2):=Grow.trans HG.out q2' (by omega)
    have HO9:Hid (∀ b,v7.ownBlock=some b→w.heap.size≤b∧¬ F2 b):=fun b hb=>⟨(HO7.out b hb).1,fun h=>by
     rcases q4 b h with h1 | h1
     ·exact (HO7.out b hb).2 h1
     have:=HV7L.out b hb;omega⟩
    have HV9:=Kj hV9
    have kF9:=hkF9
    clear q1 q2 q2' q4 hV9 hkF9 HW HX hnext
    go_wp2
    exact ⟨⟨q'-n,H++[Ent.mk e.o n],ZU e n R,F2,rfl,by omega,HV9,HO9,HL9,HX8,HG9,kF9,HW8,HD⟩,by simp [intOf];omega⟩
   have hnext:ZU e n R=e.sub n::R:=by unfold ZU;rw [if_neg hc,if_neg hd]
   go_upto_region 12 with fail
   refine wEp 4 [pV b9 0,pV b9 6,iV ((e.sub n).o.qty),bV false] [75,76,77,78] ?_ ?_
   ·refine fE 1 9 90 0 0 0 ?_
    refine fD 2 75 0 30 6 6 0 ?_
    refine lD 3 76 1 Tryz.underlying3 (fun u hk=>JY (JJ HC12r.out hk) 6 _ rfl) ?_
    refine aS 4 rfl (fun a u E D hk=>JU rfl (dD D 2) rfl) (Ku hc) ?_
    exact fz
   intro w13 k13
   simp only [F8]
   refine Jx (.bool false) rfl (JQ _ _ rfl (by kernel_rfl)) ?_
   simp only [Act.put,sA,sS,sZ]
   refine Kx ?_
   have HC13r:=Kj (JJ HC12r.out k13)
   clear hc HC12 HC12r
   go_upto_region 14 with fail
   refine wEp 3 [pV b9 9,iV ((e.sub n).n),bV false] [84,85,86] ?_ ?_
   ·refine fE 1 9 90 1 9 0 ?_
    refine lD 2 84 0 Tryz.underlying3 (fun u hk=>JY (JJ HC13r.out hk) 9 _ rfl) ?_
    refine aS 3 rfl (fun a u E D hk=>JU rfl (dD D 1) rfl) (Ku hd) ?_
    exact fz
   intro w14 k14
   simp only [F8]
   refine Jx (.bool false) rfl (JQ _ _ rfl (by kernel_rfl)) ?_
   simp only [Act.put,sA,sS,sZ]
   refine Kx ?_
   have k1114:=(k12.trans k13).trans k14
   have HC14r:=Kj (JJ HC13r.out k14)
   have HRS14:=Kj (HRS.out.kept (k13.trans k14))
   have s14:=k1114.size
   have HB14:=Kj (HB11.out.kept k1114)
   have HL14:=Kj (HL11.out.kept k1114)
   have HV14:=Kj (HV11.out.kept k1114)
   have kF14:=kF11.kept k1114
   have hpF:F' p:=HL11.out.1
   have hpl2:=HFL.out p hpF
   obtain ⟨e2,he2⟩:∃ e2,e.sub n=e2:=⟨_,rfl⟩
   rw [he2] at HC14r hnext
   clear hd HC13r k12 k13 k14 HRS k1114 HB11 HL11 HV11 kF11 he2
   go_upto_region 11 with fail
   refine QZ 4 [pE p 0,.eq (e2.v),.sl w14.heap.size 90 10 1 e2.cells,.eq (v66)] rfl (by kernel_rfl) ?_ ?_
   ·refine mE 1 0 ?_
    refine sE 2 9 b9 0 e2.cells Tryz.underlying90 (fun u hk=>JJ HC14r.out hk) (by rw [e2.len10];exact szR) ?_
    refine nW 3 rfl (fun a u E D hk=>⟨_,_,Vz slR _ e2.cells (by omega) rfl (dD D 1) (e2.len10),(qQ u 90 10 _ w14.heap.size (e2.len10) (by omega) hk.size),((Keep.refl _ u).alloc _)⟩) ?_
    refine mE 4 11 ?_
    exact fz
   intro gv w17 hV k17
   rw [dq 4 [67,68,69,70]]
   simp only [Fz7]
   have hv69:(.sl w14.heap.size 90 10 1 e2.cells:Kn).p (gv 69) w17:=hV 2 69 (by kernel_rfl)
   generalize gv 69=v69 at hv69 ⊢
   rw [gQ hV 3 70 v66]
   rw [gQ hV 0 67 (.pointer (some ⟨p,0,none⟩))]
   clear hV
   obtain ⟨v71,w18,hr18,hs18,hk18,ho18⟩:=Qy slR 86 w17 v69 v66 1 R.length _ _ hv69.1 (HRS14.out.kept k17) (ents_one _) (by unfold maxLen;omega) (by omega)
   have s17:=k17.size
   have hpn:¬ v69.ownBlock=some p:=fun h=>by have:=hv69.2 p h;omega
   refine ZW v71 w18 rfl (XQ slR (.tmp 69) (.tmp 70) v69 v66 rfl (by kernel_rfl) (by kernel_rfl) v71 w18 hr18) ?_
   simp only [Act.put,sA,sS,sZ]
   refine Jx (.pointer (some ⟨p,0,none⟩)) rfl (YY (.tmp 67) ⟨p,0,none⟩ rfl (by kernel_rfl)) ?_
   simp only [Act.put,sA,sS,sZ]
   refine Jx (.pointer (some ⟨p,1,none⟩)) rfl (QV 88 1 1 (.tmp 72) (p) (0) (1) rfl (by kernel_rfl) (by kernel_rfl) rfl) ?_
   simp only [Act.put,sA,sS,sZ]
   refine Zz 86 p 1 88 _ v71 _ _ rfl rfl (by kernel_rfl) (by kernel_rfl) (by kernel_rfl) (VV hs18) (Yq hs18) ((HB14.out.kept k17).keep hk18 hpn) (by simp) ?_
   intro w19 hB19 hk19 hs19
   simp only [Act.put]
   refine Kx ?_
   have HRL:Hid (∀ b,v69.ownBlock=some b→w14.heap.size≤b):=hv69.2
   have K18:Keep (fun b=>w11.heap.size≤b) w14 w18:=(Keep.mono (T:=fun b=>w11.heap.size≤b) k17 (fun _ _ h=>h.elim)).trans hk18 (fun b _ hb=>by have:=HRL.out b hb;omega)
   have HL18:=Kj (HL14.out.keep K18 (fun b hb h=>by have:=HFL.out b hb;omega))
   have HV18:=Kj (HV14.out.keep K18 (fun b hb h=>by have:=HV7L.out b hb;omega))
   have kF18:Keep F w w18:=kF14.trans K18 (fun b hb h=>by omega)
   obtain ⟨F2,q1,q2,q3,q4⟩:=HL18.out.renew3 (base:=w11.heap.size) (Y:=e2::R) (v':=v71) (by omega) (by rw [List.length_cons,Nat.add_comm,show ents (e2::R)=e2.cells++ents R from List.flatMap_cons];exact hs18) (fun b hb=>(ho18 b hb).elim (fun h=>by have:=HRL.out b h;omega) (fun h=>by omega)) (by simpa using hB19) hk19
   have q2':Grow wr F' F2:=fun b hb=>(q4 b hb).imp id (fun h=>by omega)
   have hkF9:Keep F w w19:=Grow.keep HG.out kF18 q3
   have hV9:=HV18.out.keep hk19 (fun b hb e=>(HO7.out b hb).2 (by rw [e];exact hpF))
   clear hB19 hk19 hs18 hk18 hr18 ho18 k17 K18 q3 HRS14 HRO hv69
   have HX8:=Kj (zZ HX.out (n:=n) (by omega) hmn1.2)
   have HW8:Hid (((H++[Ent.mk e.o n]).length:Int)+Xy (ZU e n R)≤Xy X):=by
    show _≤_
    have h1:=HW.out
    rw [xz,List.length_append]
    rw [WY] at h1
    simp only [List.length_cons,List.length_nil]
    omega
   rw [← hnext] at q1
   have HL9:=Kj q1
   have HG9:Hid (Grow w F F2):=Grow.trans HG.out q2' (by omega)
   have HO9:Hid (∀ b,v7.ownBlock=some b→w.heap.size≤b∧¬ F2 b):=fun b hb=>⟨(HO7.out b hb).1,fun h=>by
    rcases q4 b h with h1 | h1
    ·exact (HO7.out b hb).2 h1
    have:=HV7L.out b hb;omega⟩
   have HV9:=Kj hV9
   have kF9:=hkF9
   clear q1 q2 q2' q4 hV9 hkF9 HW HX hnext
   go_wp2
   exact ⟨⟨q'-n,H++[Ent.mk e.o n],ZU e n R,F2,rfl,by omega,HV9,HO9,HL9,HX8,HG9,kF9,HW8,HD⟩,by simp [intOf];omega⟩
 skip
 obtain ⟨h1,h2,v,hB,hS,h5⟩:=HL.out
 obtain ⟨m,hm⟩:∃ m,X'.length=m:=⟨_,rfl⟩
 rw [hm] at hS
 have HB:=Kj hB
 have HS:=Kj hS
 have hpl:=h2 p h1
 clear hB hS h1 h2 h5
 have HD:=Kj (JJV (t:=takeM firm q X) HT.out (Uq firm q' X' (by omega)))
 clear HT
 go_upto_region 2 with fail
 refine wE 10 [iV q',bV false,bV false,undef,undef,undef,undef,undef,undef,bV false] [12,13,14,15,16,17,18,19,20,21] ?_ ?_
 ·refine mE 1 2 ?_
  refine aS 2 rfl (fun a u E D hk=>XX rfl (dD D 0) rfl) (Ku hq0) ?_
  refine mD 3 13 1 ?_
  refine kS 4 2 ?_
  refine kS 5 2 ?_
  refine kS 6 2 ?_
  refine kS 7 2 ?_
  refine kS 8 2 ?_
  refine kS 9 2 ?_
  refine pF 10 14 2 ?_
  exact fz
 intro w1 k1
 simp only [F8]
 have kF1:=hkF.kept k1
 have s1:=k1.size
 go_wp2
 go_ret2
 refine ⟨F',v8,?_,?_,?_,HO.out,HG.out,kF1⟩
 ·rw [HD.out];rfl
 ·rw [HD.out];exact HL.out.kept k1
 rw [HD.out];exact HV.out.kept k1
end Go.Proofs.YtlbeibapbkccfaaGreat
namespace Go.Proofs.YtlbeibapbkccfaaGreat
open Go.RowKit
def RRejoin4 (w:World) (F:Nat→Prop) (p:Nat) (B:Bok) (s:Int) (u:Value) (Fs:Nat→Prop):Prop:=
 ∀ (w':World) (v':Value) (L':List Lev) (Fs':Nat→Prop) (last no:Int) (S:Nat→Prop),Keep S w w'→(∀ b,F b→S b→Fs b∨b=p)→Blk w' p 51 (rsd s v' u last no)→Way 88 90 85 w' Fs' v' L'→Grow w Fs Fs'→∃ F',RBk w' F' p (B.to s L' last no)∧Grow w F F'∧∀ b,F' b↔F b∨Fs' b
theorem RBk.open4 {w:World} {F:Nat→Prop} {p:Nat} {B:Bok} (h:RBk w F p B) {s:Int} (hs:s=1∨s=2) :
  ∃ v u Z G Fs,levs Z=B.sd s∧WayZ 88 90 85 w Fs v Z G∧Blk w p 51 (rsd s v u B.last B.no)∧(∀ b,Fs b→F b∧b≠p)∧F p∧(∀ b,F b→b<w.heap.size)∧RRejoin4 w F p B s u Fs:=by
 obtain ⟨h1,h2,v1,v2,F1,F2,hB,hW1,hW2,h3,h4⟩:=h
 have hpl:=h2 p h1
 rcases hs with rfl | rfl
 ·obtain ⟨Z,G,e,hz⟩:=hW1
  refine ⟨v1,v2,Z,G,F1,e,hz,hB,fun b hb=>⟨(h3 b hb).1,(h3 b hb).2.1⟩,h1,h2,?_⟩
  intro w' v' L' Fs' last no S hk hS hB' hW' hG
  have hlt:=hW'.lt
  refine ⟨fun b=>F b∨Fs' b,⟨.inl h1,fun b hb=>hb.elim (fun h=>Nat.lt_of_lt_of_le (h2 b h) hk.size) (hlt b),v',v2,Fs',F2,hB',hW',hW2.keep hk (fun b hb h=>(hS b (h4 b hb).1 h).elim (fun h=>(h3 b h).2.2 hb) (fun h=>(h4 b hb).2 h)),fun b hb=>?_,fun b hb=>⟨.inl (h4 b hb).1,(h4 b hb).2⟩⟩,fun b hb=>hb.elim .inl (fun h=>(hG b h).imp (fun h=>(h3 b h).1) id),fun b=>Iff.rfl⟩
  refine ⟨.inr hb,?_,?_⟩
  ·rcases hG b hb with h | h
   ·exact (h3 b h).2.1
   omega
  rcases hG b hb with h | h
  ·exact (h3 b h).2.2
  intro h'
  have:=h2 b (h4 b h').1
  omega
 obtain ⟨Z,G,e,hz⟩:=hW2
 refine ⟨v2,v1,Z,G,F2,e,hz,hB,h4,h1,h2,?_⟩
 intro w' v' L' Fs' last no S hk hS hB' hW' hG
 have hlt:=hW'.lt
 refine ⟨fun b=>F b∨Fs' b,⟨.inl h1,fun b hb=>hb.elim (fun h=>Nat.lt_of_lt_of_le (h2 b h) hk.size) (hlt b),v1,v',F1,Fs',hB',hW1.keep hk (fun b hb h=>(hS b (h3 b hb).1 h).elim (fun h=>(h3 b hb).2.2 h) (fun h=>(h3 b hb).2.1 h)),hW',fun b hb=>⟨.inl (h3 b hb).1,(h3 b hb).2.1,fun h'=>?_⟩,fun b hb=>⟨.inr hb,?_⟩⟩,fun b hb=>hb.elim .inl (fun h=>(hG b h).imp (fun h=>(h4 b h).1) id),fun b=>Iff.rfl⟩
 ·rcases hG b h' with h | h
  ·exact (h3 b hb).2.2 h
  have:=h2 b (h3 b hb).1
  omega
 rcases hG b hb with h | h
 ·exact (h4 b h).2
 omega
theorem rsd_last (s:Int) (v u:Value) (last no x:Int):(rsd s v u last no).set 3 (.int .i64 x)=rsd s v u x no:=by unfold rsd;split <;> rfl
theorem rsd_no (s:Int) (v u:Value) (last no x:Int):(rsd s v u last no).set 4 (.int .i64 x)=rsd s v u last x:=by unfold rsd;split <;> rfl
def mQ (g:Nat) (w:World):Nat:=match w.cell? ⟨g,6,none⟩ with
 | some (.int _ l)=>l.toNat
 | _=>0
theorem mQ_is {w:World} {g:Nat} {o:Ord} {n:Int} {T:TypeId} (h:Blk w g T (o.q n).cells):mQ g w=n.toNat:=by
 unfold mQ
 rw [h.cell]
 rfl
def UV (w:World) (F:Nat→Prop) (p:Nat) (B:Bok) (o:Ord) (m:Mt) (r:Ending) (w':World):Prop:=
 ∃ F' vf,r=.returned (.tuple #[vf,.int .i64 m.left,.bool m.self])∧RBk w' F' p (B.to (3-o.side) m.L (VY B.last m.f) (B.no+m.f.length))∧Sl w' 77 21 vf m.f.length (fls m.f)∧(∀ b,vf.ownBlock=some b→w.heap.size≤b∧¬ F' b)∧Grow w F F'∧Keep F w w'
theorem rbmatch_any (w:World) (F:Nat→Prop) (p:Nat) (B:Bok) (o:Ord) (h:RBk w F p B) (hI:Inv B) (hs:o.side=1∨o.side=2) (hq:1≤o.qty∧o.qty≤1048576) (hn:B.no≤1000000000000) :
  Calls Tryz.prog 55 #[.pointer (some ⟨p,0,none⟩),o.v] w (UV w F p B o (B.matched o)):=by
 have hSid:Sid (3-o.side) (B.sd (3-o.side)):=(hI.side hs).theirs
 have hno0:=hI.no0
 have HSD:=Kj hSid
 have hFl:=h.lt
 have HK:=Kj h
 have hpF:=h.1
 obtain ⟨k,h12,hk⟩:∃ k:Nat,(k=1∨k=2)∧3-o.side=(k:Int):=by
  rcases hs with hs | hs
  ·exact ⟨2,.inr rfl,by omega⟩
  exact ⟨1,.inl rfl,by omega⟩
 have hs12:(k:Int)=1∨(k:Int)=2:=by omega
 have HSE:=Kj hk
 rw [hk] at HSD
 clear hSid h hI hs
 go_enter Tryz.func55,Tryz.ntmps55
 go_upto_region 0 with fail
 refine QZ 4 [.fresh w.heap.size 30 (o.cells),.eq (.slice none 0 0),iE 0,bE false] rfl (by kernel_rfl) ?_ ?_
 ·refine nW 1 rfl (fun a u E D hk=>⟨_,_,YX 30 _ (o.cells) rfl (eE E),⟨_,rfl,hk.size,Blk.new u _ _⟩,((Keep.refl _ u).alloc _)⟩) ?_
  refine sW 2 rfl (fun a u E D hk=>JQ _ _ rfl rfl) ?_
  refine sW 3 rfl (fun a u E D hk=>JQ _ _ rfl rfl) ?_
  refine sW 4 rfl (fun a u E D hk=>JQ _ _ rfl rfl) ?_
  exact fz
 intro gv w0 hV k0
 rw [dq 4 [3,4,5,6]]
 simp only [Fz7]
 have hv3:(.fresh w.heap.size 30 (o.cells):Kn).p (gv 3) w0:=hV 0 3 (by kernel_rfl)
 generalize gv 3=v3 at hv3 ⊢
 rw [gQ hV 1 4 (.slice none 0 0)]
 rw [gQ hV 2 5 (.int .i64 0)]
 rw [gQ hV 3 6 (.bool false)]
 clear hV
 obtain ⟨g,rfl,hg,hB⟩:=hv3
 refine Kx ?_
 have HOa:=Kj (JW hB)
 have HQa:=Kj hB
 have lg:=hB.lt
 clear hB
 go_upto_region 1 with fail
 refine wE 4 [pV g 3,iV o.side,iV (k:Int),iV (k:Int)] [14,15,16,7] ?_ ?_
 ·refine fE 1 3 30 3 3 0 ?_
  refine lD 2 14 0 Tryz.underlying3 (fun u hk=>JY (JJ HOa.out hk) 3 _ rfl) ?_
  refine sW 3 rfl (fun a u E D hk=>Vj (k:Int) (p:=(3:Int)) (q:=o.side) rfl rfl (dD D 1) (by omega) (by omega) (by omega)) ?_
  refine mD 4 16 2 ?_
  exact fz
 intro w1 kb
 simp only [F8]
 have k1:=k0.trans kb
 have HQ1:Hid (Blk w1 g 30 (o.q o.qty).cells):=HQa.out.kept kb
 have HK1:=Kj (HK.out.kept k1)
 have z1:=k1.size
 have zb:=kb.size
 have hFl1:∀ b,F b→b<w1.heap.size:=fun b hb=>Nat.lt_of_lt_of_le (hFl b hb) z1
 have hgF:¬ F g:=fun e=>by have:=hFl g e;omega
 have hg1:g<w1.heap.size:=by omega
 have hpw:=hFl p hpF
 clear HOa HQa HK k0 kb hk
 go_wp2_with fail
 go_loopw [8] (fun x wr=>∃ (L:List Lev) (last no left:Int) (fs:List Fl) (Fc:Nat→Prop),Hid (RBk wr Fc p (B.to (k:Int) L last no))∧Hid (Blk wr g 30 (o.q left).cells)∧Hid (Sl wr 77 21 x fs.length (fls fs))∧Hid (∀ b,x.ownBlock=some b→w1.heap.size≤b∧¬ Fc b∧b≠g)∧Hid (Grow w1 F Fc)∧Keep (fun b=>F b∨b=g) w1 wr∧Hid (Sid (k:Int) L)∧Hid (last=VY B.last fs∧no=B.no+fs.length)∧(0≤left∧(fs.length:Int)+left≤o.qty)∧Hid (B.matched o=⟨fs++(ZY o no left L).f,(ZY o no left L).left,(ZY o no left L).self,(ZY o no left L).L⟩)) (fun _ wr=>mQ g wr)
 case atStart=>
  refine ⟨B.sd (k:Int),B.last,B.no,o.qty,[],F,by show RBk _ _ _ _;rw [Bok.to_self hs12];exact HK1.out,HQ1.out,Sl.nil _ _ _,fun b hb=>by simp [Value.ownBlock] at hb,Grow.refl _ _,Keep.refl _ _,HSD.out,⟨rfl,by simp⟩,⟨by omega,by simp⟩,?_⟩
  show _=_
  unfold Bok.matched
  rw [HSE.out]
  simp
 obtain ⟨wo,hwo⟩:∃ y,y=wr:=⟨_,rfl⟩
 subst hwo
 obtain ⟨L,last,no,left,fs,Fc,HBr,HQr,HVr,HVn,HGr,hkr,HSr,HLN,hlf,HM⟩:=hrel
 obtain ⟨vf,hvf⟩:∃ y,y=u8:=⟨_,rfl⟩
 subst hvf
 have zr:=hkr.size
 have HMO:=Kj (mQ_is HQr.out)
 have HL6:Hid (wo.cell? ⟨g,6,none⟩=some (.int .i64 left)):=by show _=_;rw [HQr.out.cell];rfl
 by_cases hl0:0<left
 ·obtain ⟨v,u0,Z,G,Fs,eL,hW,hB,hFs,hp,hlt,hJ⟩:=HBr.out.open4 hs12
  rw [Bok.to_sd hs12] at eL
  have HV:=Kj (rsd_cell h12 hB)
  have HSL0:=Kj hW.sl
  cases L with
  | nil=>
   have hz0:Z=[]:=by simpa [levs] using eL
   obtain ⟨n,hn⟩:∃ n,Z.length=n:=⟨_,rfl⟩
   have HSL:=HSL0
   rw [hn] at HSL
   have hn0:n=0:=by rw [← hn,hz0];rfl
   have HFIN:Hid (B.matched o=⟨fs,left,false,[]⟩):=by show _=_;rw [HM.out];simp [ZY]
   clear HM eL hW hB hFs hp hlt hJ hn hz0 HSL0
   go_upto_region 3 with fail
   refine wE 13 [pV g 6,iV left,bV true,bV true,pV p 0,iV (k:Int),pV p 0,pV p 0,pV p (0+k*1),v,iV (n:Int),bV false,bV false] [17,18,19,20,21,22,23,24,25,26,27,28,29] ?_ ?_
   ·refine fE 1 3 30 6 6 0 ?_
    refine lD 2 17 0 Tryz.underlying3 (fun u hk=>Kept.cell hk (HL6.out)) ?_
    refine aS 3 rfl (fun a u E D hk=>XX rfl (dD D 1) rfl) (Ky hl0) ?_
    refine mD 4 19 2 ?_
    refine mE 5 0 ?_
    refine mE 6 7 ?_
    refine nD 7 21 4 ?_
    refine fD 8 23 6 51 0 0 0 ?_
    refine sW 9 rfl (fun a u E D hk=>VU 49 48 3 1 _ _ p 0 k rfl Tryz.underlying49 (by kernel_rfl) (dD D 7) (dD D 5) (by omega)) ?_
    refine sW 10 rfl (fun a u E D hk=>Jy _ _ Tryz.underlying48 _ _ _ rfl (dD D 8) (Kept.cell hk (HV.out))) ?_
    refine sW 11 rfl (fun a u E D hk=>Qq _ Vy _ _ _ _ rfl (dD D 9) HSL.out) ?_
    refine aS 12 rfl (fun a u E D hk=>XX rfl (dD D 10) rfl) (Ku (by omega)) ?_
    refine pT 13 20 28 3 11 ?_
    exact fz
   intro wq kq
   simp only [F8]
   have HLq:=Kj (kq.cell HL6.out)
   go_upto_region 19 with fail
   refine wG 6 [vf,pV g 6,iV left,vf,iV left,bV false] [122,123,124,4,5,6] ?_ ?_
   ·refine mE 1 8 ?_
    refine fE 2 3 30 6 6 0 ?_
    refine lD 3 123 1 Tryz.underlying3 (fun u hk=>Kept.cell hk (HLq.out)) ?_
    refine mD 4 122 0 ?_
    refine mD 5 124 2 ?_
    refine sW 6 rfl (fun a u E D hk=>JQ _ _ rfl rfl) ?_
    exact fz
   intro wy ky
   simp only [F8]
   have kry:=kq.trans ky
   have HEND:Hid (UV w F p B o (B.matched o) (.returned (.tuple #[vf,.int .i64 left,.bool false])) wy):=by
    show UV _ _ _ _ _ _ _ _
    rw [HFIN.out]
    unfold UV
    rw [HSE.out]
    have hl:=HLN.out
    have hb:=HBr.out.kept kry
    rw [hl.1,hl.2] at hb
    exact ⟨Fc,vf,rfl,hb,HVr.out.kept kry,fun b hb=>⟨by have:=(HVn.out b hb).1;omega,(HVn.out b hb).2.1⟩,fun b hb=>(HGr.out b hb).imp id (fun h=>by omega),((Keep.any k1 hkr).mono (fun b hb e=>e.elim id (fun e=>by omega))).kept kry⟩
   clear HBr HVr HVn HFIN
   go_wp2
   go_ret3
   exact HEND.out
  | cons l R=>
   obtain ⟨pr,X⟩:=l
   obtain ⟨z,ZR,hZ⟩:∃ z ZR,Z=z::ZR:=by
    cases Z with
    | nil=>cases eL
    | cons z ZR=>exact ⟨z,ZR,rfl⟩
   subst hZ
   obtain ⟨q,pr',X'⟩:=z
   rw [Wy] at eL
   obtain ⟨e1,eR⟩:=List.cons.inj eL
   simp only [Prod.mk.injEq] at e1
   obtain ⟨rfl,rfl⟩:=e1
   have HPC:Hid (wo.cell? ⟨q,0,none⟩=some (.int .i64 pr')):=by
    show _=_
    obtain ⟨_,_,x,hx,_⟩:=hW.lv (q,pr',X') (by simp)
    rw [hx.cell]
    rfl
   obtain ⟨gs,os,c,rfl⟩:=hW.some_ (by simp)
   obtain ⟨n,hnn⟩:∃ n,List.length ((q,pr',X')::ZR)=n:=⟨_,rfl⟩
   have hn0:0<n:=by rw [← hnn];simp
   have HC:Hid (wo.cell? ⟨gs,os,none⟩=some (.pointer (some ⟨q,0,none⟩))):=by show _=_;have:=hW.cell (i:=0) (z:=(q,pr',X')) rfl;simpa using this
   rw [hnn] at hW hB
   have HSL:=HSL0
   rw [hnn] at HSL HV
   have HNZ:Hid (((q,pr',X')::ZR).length=n):=hnn
   have HER:=Kj eR
   have HJ:=Kj hJ
   have HFs:=Kj hFs
   have HW:=Kj hW
   have HBB:=Kj hB
   have HLTF:=Kj hlt
   have hpFc:=hp
   clear hW hB eL hJ hFs hlt hnn eR HSL0 hp
   go_upto_region 3 with fail
   refine wE 13 [pV g 6,iV left,bV true,bV true,pV p 0,iV (k:Int),pV p 0,pV p 0,pV p (0+k*1),.slice (some ⟨gs,os,none⟩) n c,iV (n:Int),bV true,bV true] [17,18,19,20,21,22,23,24,25,26,27,28,29] ?_ ?_
   ·refine fE 1 3 30 6 6 0 ?_
    refine lD 2 17 0 Tryz.underlying3 (fun u hk=>Kept.cell hk (HL6.out)) ?_
    refine aS 3 rfl (fun a u E D hk=>XX rfl (dD D 1) rfl) (Ky hl0) ?_
    refine mD 4 19 2 ?_
    refine mE 5 0 ?_
    refine mE 6 7 ?_
    refine nD 7 21 4 ?_
    refine fD 8 23 6 51 0 0 0 ?_
    refine sW 9 rfl (fun a u E D hk=>VU 49 48 3 1 _ _ p 0 k rfl Tryz.underlying49 (by kernel_rfl) (dD D 7) (dD D 5) (by omega)) ?_
    refine sW 10 rfl (fun a u E D hk=>Jy _ _ Tryz.underlying48 _ _ _ rfl (dD D 8) (Kept.cell hk (HV.out))) ?_
    refine sW 11 rfl (fun a u E D hk=>Qq _ Vy _ _ _ _ rfl (dD D 9) HSL.out) ?_
    refine aS 12 rfl (fun a u E D hk=>XX rfl (dD D 10) rfl) (Ky (by omega)) ?_
    refine pT 13 20 28 3 11 ?_
    exact fz
   intro wq kq
   simp only [F8]
   have HPCq:=Kj (kq.cell HPC.out)
   have HCq:=Kj (kq.cell HC.out)
   have HVq:=Kj (kq.cell HV.out)
   go_upto_region 4 with fail
   refine wE 9 [pV p 0,iV (k:Int),pV p 0,pV p 0,pV p (0+k*1),.slice (some ⟨gs,os,none⟩) n c,pV gs os,pV q 0,pV q 0] [30,31,32,33,34,35,36,37,9] ?_ ?_
   ·refine mE 1 0 ?_
    refine mE 2 7 ?_
    refine nD 3 30 0 ?_
    refine fD 4 32 2 51 0 0 0 ?_
    refine sW 5 rfl (fun a u E D hk=>VU 49 48 3 1 _ _ p 0 k rfl Tryz.underlying49 (by kernel_rfl) (dD D 3) (dD D 1) (by omega)) ?_
    refine sW 6 rfl (fun a u E D hk=>Jy _ _ Tryz.underlying48 _ _ _ rfl (dD D 4) (Kept.cell hk (HVq.out))) ?_
    refine sW 7 rfl (fun a u E D hk=>Jz Vy _ _ (gs) (os) n c 0 (os) (0) rfl (dD D 5) rfl (by first | rfl | omega) ((by omega)) (by first | rfl | omega)) ?_
    refine sW 8 rfl (fun a u E D hk=>XY _ _ Tryz.underlying85 _ _ _ rfl (dD D 6) (Kept.cell hk (HCq.out))) ?_
    refine mD 9 37 7 ?_
    exact fz
   intro w2 k2
   simp only [F8]
   have kr2:=kq.trans k2
   have HO2:=Kj (JW (HQr.out.kept kr2))
   have HPC2:=Kj (k2.cell HPCq.out)
   clear HPCq HCq HVq k2
   cases hcr:o.crosses pr' with
   | false=>
    have HCR:Hid ((o.q left).crosses pr'=false):=hcr
    have HFIN:Hid (B.matched o=⟨fs,left,false,(pr',X')::R⟩):=by show _=_;rw [HM.out,match_none (show o.meets ((pr',X')::R)=false from hcr)];simp
    clear HM hcr
    go_upto_region 5 with fail
    refine wG 7 [(o.q left).v,pV q 0,pV q 0,pV q 0,iV pr',bV false,bV true] [38,39,40,41,42,43,44] ?_ ?_
    ·refine sE 1 3 g 0 ((o.q left).cells) Tryz.underlying30 (fun u hk=>JJ HO2.out hk) (by rw [(o.q left).len9];exact JX) ?_
     refine mE 2 9 ?_
     refine nD 3 39 1 ?_
     refine fD 4 40 2 88 0 0 0 ?_
     refine lD 5 41 3 Tryz.underlying3 (fun u hk=>Kept.cell hk (HPC2.out)) ?_
     refine cS 6 53 [(o.q left).v,.int .i64 pr'] rfl Tryz.func53 rfl (fun a u E D hk=>⟨ll (dD D 0) (ll (dD D 4) rfl),(by have h:=JJx (o.q left) pr' u;rw [HCR.out] at h;exact h)⟩) ?_
     refine sW 7 rfl (fun a u E D hk=>Yj _ _ false rfl (dD D 5)) ?_
     exact fz
    intro w3 k3
    simp only [F8]
    have kq0:=kq
    clear kq
    have kq:=kr2.trans k3
    have HLq:=Kj (kq.cell HL6.out)
    go_upto_region 19 with fail
    refine wG 6 [vf,pV g 6,iV left,vf,iV left,bV false] [122,123,124,4,5,6] ?_ ?_
    ·refine mE 1 8 ?_
     refine fE 2 3 30 6 6 0 ?_
     refine lD 3 123 1 Tryz.underlying3 (fun u hk=>Kept.cell hk (HLq.out)) ?_
     refine mD 4 122 0 ?_
     refine mD 5 124 2 ?_
     refine sW 6 rfl (fun a u E D hk=>JQ _ _ rfl rfl) ?_
     exact fz
    intro wy ky
    simp only [F8]
    have kry:=kq.trans ky
    have HEND:Hid (UV w F p B o (B.matched o) (.returned (.tuple #[vf,.int .i64 left,.bool false])) wy):=by
     show UV _ _ _ _ _ _ _ _
     rw [HFIN.out]
     unfold UV
     rw [HSE.out]
     have hl:=HLN.out
     have hb:=HBr.out.kept kry
     rw [hl.1,hl.2] at hb
     exact ⟨Fc,vf,rfl,hb,HVr.out.kept kry,fun b hb=>⟨by have:=(HVn.out b hb).1;omega,(HVn.out b hb).2.1⟩,fun b hb=>(HGr.out b hb).imp id (fun h=>by omega),((Keep.any k1 hkr).mono (fun b hb e=>e.elim id (fun e=>by omega))).kept kry⟩
    clear HBr HVr HVn HFIN
    go_wp2
    go_ret3
    exact HEND.out
   | true=>
    have HCR:Hid ((o.q left).crosses pr'=true):=hcr
    have HRD:=Kj (match_round (no:=no) HSr.out hl0 hcr)
    have HRI:=Kj (round_is (o:=o) HSr.out hl0)
    have HGD:=Kj (HSr.out.good (l:=(pr',X')) (by simp)).1
    clear hcr
    go_upto_region 5 with fail
    refine wG 7 [(o.q left).v,pV q 0,pV q 0,pV q 0,iV pr',bV true,bV false] [38,39,40,41,42,43,44] ?_ ?_
    ·refine sE 1 3 g 0 ((o.q left).cells) Tryz.underlying30 (fun u hk=>JJ HO2.out hk) (by rw [(o.q left).len9];exact JX) ?_
     refine mE 2 9 ?_
     refine nD 3 39 1 ?_
     refine fD 4 40 2 88 0 0 0 ?_
     refine lD 5 41 3 Tryz.underlying3 (fun u hk=>Kept.cell hk (HPC2.out)) ?_
     refine cS 6 53 [(o.q left).v,.int .i64 pr'] rfl Tryz.func53 rfl (fun a u E D hk=>⟨ll (dD D 0) (ll (dD D 4) rfl),(by have h:=JJx (o.q left) pr' u;rw [HCR.out] at h;exact h)⟩) ?_
     refine sW 7 rfl (fun a u E D hk=>Yj _ _ true rfl (dD D 5)) ?_
     exact fz
    intro w3 k3
    simp only [F8]
    have kr3:=kr2.trans k3
    obtain ⟨t,ht⟩:∃ t,takeM o.firm left X'=t:=⟨_,rfl⟩
    obtain ⟨H,ow,X2⟩:=t
    rw [ht] at HRI
    have HTT:=Kj ht
    have HF3:Hid (w3.cell? ⟨g,2,none⟩=some (.int .i64 o.firm)):=by show _=_;rw [(HQr.out.kept kr3).cell];rfl
    have HL3:=Kj (kr3.cell HL6.out)
    have HW3:=Kj (HW.out.kept kr3)
    clear ht HPC2 HO2 k3 kr2 HCR
    go_upto_region 6 with fail
    refine wEp 5 [pV q 0,pV g 2,iV o.firm,pV g 6,iV left] [46,47,48,49,50] ?_ ?_
    ·refine mE 1 9 ?_
     refine fE 2 3 30 2 2 0 ?_
     refine lD 3 47 1 Tryz.underlying3 (fun u hk=>Kept.cell hk (HF3.out)) ?_
     refine fE 4 3 30 6 6 0 ?_
     refine lD 5 49 3 Tryz.underlying3 (fun u hk=>Kept.cell hk (HL3.out)) ?_
     exact fz
    intro wa ka
    simp only [F8]
    have hWa:=HW3.out.kept ka
    have hLa:=hWa.lv (q,pr',X') (by simp)
    refine Yz 76 #[.pointer (some ⟨q,0,none⟩),.int .i64 o.firm,.int .i64 left] rfl (Jq 76 _ [.tmp 46,.tmp 48,.tmp 50] _ _ Tryz.func76 (by kernel_rfl) (by kernel_rfl) rfl (by kernel_rfl) _) ?_
    refine (rtake_any wa _ q X' o.firm left hLa HGD.out (by omega)).mono ?_
    rintro r w4 ⟨F4,vh,rfl,hl4,hs4,hv4,hg4,hk4⟩
    rw [HTT.out] at hl4 hs4
    refine ⟨.tuple #[vh,.bool ow],by rw [HTT.out],?_⟩
    simp only [Act.put,sA,sS,sZ]
    refine Jx (.tuple #[vh,.bool ow]) rfl (Jj _ _ rfl (by kernel_rfl)) ?_
    simp only [Act.put,sA,sS,sZ]
    refine Jx (vh) rfl (QU (.tmp 45) [vh,.bool ow] 0 (vh) rfl (by kernel_rfl) rfl) ?_
    simp only [Act.put,sA,sS,sZ]
    refine Jx (.bool ow) rfl (QU (.tmp 45) [vh,.bool ow] 1 (.bool ow) rfl (by kernel_rfl) rfl) ?_
    simp only [Act.put,sA,sS,sZ]
    refine Jx (vh) rfl (JQ _ _ rfl (by kernel_rfl)) ?_
    simp only [Act.put,sA,sS,sZ]
    refine Jx (.bool ow) rfl (JQ _ _ rfl (by kernel_rfl)) ?_
    simp only [Act.put,sA,sS,sZ]
    refine Kx ?_
    have k03:Kept wo wa:=kr3.trans ka
    have z3:=k03.size
    have hgFc:¬ Fc g:=fun e=>(HGr.out g e).elim hgF (fun e=>by omega)
    obtain ⟨Fs4,G4,hW4,hG4,hk4',_⟩:=WayZ.turn (A:=[]) (R:=ZR) (q:=q) (pr:=pr') (X:=X') hWa hk4 hl4 hg4
    have z4:=hk4.size
    have hFg:¬ Fs g:=fun e=>hgFc (HFs.out g e).1
    have hFp:¬ Fs p:=fun e=>(HFs.out p e).2 rfl
    have HQ4:=Kj ((HQr.out.kept k03).keep hk4' hFg)
    have HP4:=Kj ((HBB.out.kept k03).keep hk4' hFp)
    have HV4:=Kj ((HVr.out.kept k03).keep hk4' (fun b hb e=>(HVn.out b hb).2.1 (HFs.out b e).1))
    have hvl:∀ b,vf.ownBlock=some b→b<wo.heap.size:=fun b hb=>HVr.out.lt hb
    have HVL:=Kj hvl
    have HW4:=Kj hW4
    have HHV:Hid (∀ b,vh.ownBlock=some b→wa.heap.size≤b):=fun b hb=>(hv4 b hb).1
    have HHL:Hid (∀ b,vh.ownBlock=some b→b<w4.heap.size):=fun b hb=>hs4.lt hb
    have K4:Keep Fs wo w4:=Keep.any k03 hk4'
    have HW4L:Hid (∀ b,Fs4 b→b<w4.heap.size):=hW4.lt
    have HG3:Hid (∀ b,Fs4 b→Fs b∨wo.heap.size≤b):=fun b hb=>(hG4 b hb).imp id (fun e=>by omega)
    obtain ⟨nh,hnh⟩:∃ m,H.length=m:=⟨_,rfl⟩
    rw [hnh] at hs4
    have HS4:=Kj hs4
    have HNH:=Kj hnh
    have hbn:0≤no∧no≤2000000000000:=by have:=HLN.out.2;omega
    have hsum:=HRI.out.sum
    have hlen:=HRI.out.len
    simp only at hsum hlen
    have hnh2:(nh:Int)≤left:=by rw [← hnh];omega
    have HSUM:=Kj hsum
    have HPOS:=Kj HRI.out.pos
    have kwq:=hkr
    have hgp:g≠p:=fun e=>hgF (by rw [e];exact hpF)
    have hSn:∀ b,Fs4 b→¬ (b=g∨b=p∨vf.ownBlock=some b):=fun b hb e=>by
     rcases e with e | e | e
     ·rcases HG3.out b hb with h | h
      ·exact hFg (by rw [← e];exact h)
      omega
     ·rcases HG3.out b hb with h | h
      ·exact hFp (by rw [← e];exact h)
      omega
     rcases HG3.out b hb with h | h
     ·exact (HVn.out b e).2.1 (HFs.out b h).1
     have:=hvl b e;omega
    have HSN:=Kj hSn
    have hHH:∀ b,vh.ownBlock=some b→b≠g∧b≠p∧vf.ownBlock≠some b:=fun b hb=>⟨fun e=>by have:=HHV.out b hb;omega,fun e=>by have:=HHV.out b hb;omega,fun e=>by have:=HHV.out b hb;have:=hvl b e;omega⟩
    have HHO:=Kj hHH
    clear hvl hW4 hs4 hv4 hg4 hk4 hl4 hG4 hk4' hWa hLa ka kr3 hnh hsum hlen hSn hHH HW3 HL3 HF3 HV HC HPC HSL HK1
    go_upto_region 7 with fail
    refine wE 3 [vh,iV (nh:Int),iV 0] [54,55,56] ?_ ?_
    ·refine mE 1 10 ?_
     refine sW 2 rfl (fun a u E D hk=>Qq _ slH _ _ _ _ rfl (dD D 0) HS4.out) ?_
     refine sW 3 rfl (fun a u E D hk=>Jj _ _ rfl rfl) ?_
     exact fz
    intro w5 k5
    simp only [F8]
    have z5:=k5.size
    have HQ5:=Kj (HQ4.out.kept k5)
    have HP5:=Kj (HP4.out.kept k5)
    have HV5:=Kj (HV4.out.kept k5)
    have HS5:=Kj (HS4.out.kept k5)
    have HW5:=Kj (HW4.out.kept k5)
    have K5:=K4.kept k5
    clear HQ4 HP4 HV4 HS4 HW4 K4 k5
    go_wp2_with fail
    go_loopw [8,56] (fun vv t wz=>∃ (i:Nat),i≤nh∧t=.int .i64 (i:Int)∧Hid (Blk wz g 30 (o.q ((Oc.mk o fs left false false 0).more pr' no (H.take i)).left).cells)∧Hid (Sl wz 77 21 vv ((Oc.mk o fs left false false 0).more pr' no (H.take i)).f.length (fls ((Oc.mk o fs left false false 0).more pr' no (H.take i)).f))∧Hid (Blk wz p 51 (rsd (k:Int) (.slice (some ⟨gs,os,none⟩) n c) u0 (VY last (fillsOf o pr' no left (H.take i))) (no+(i:Int))))∧Hid (∀ b,vv.ownBlock=some b→vf.ownBlock=some b∨w5.heap.size≤b)∧Keep (fun b=>b=g∨b=p∨vf.ownBlock=some b) w5 wz) (fun _ t _=>nh-(intOf t).toNat)
    case atStart=>exact ⟨0,Nat.zero_le _,rfl,by rw [List.take_zero,Oc.more_nil];exact HQ5.out,by rw [List.take_zero,Oc.more_nil];exact HV5.out,by rw [List.take_zero];simp only [fillsOf,VY,Int.ofNat_zero,Int.add_zero];exact HP5.out,fun b hb=>.inl hb,Keep.refl _ _⟩
    obtain ⟨i,hi,rfl,HQz,HVz,HPz,HVG,hkz⟩:=hrel
    obtain ⟨vv,hvv⟩:∃ y,y=u8:=⟨_,rfl⟩
    subst hvv
    obtain ⟨wz,hwz⟩:∃ y,y=wr:=⟨_,rfl⟩
    subst hwz
    have zz:=hkz.size
    have HVZ:Hid (∀ b,vv.ownBlock=some b→b<wz.heap.size):=fun b hb=>HVz.out.lt hb
    by_cases hlt:i<nh
    ·obtain ⟨gh,off,ch,rfl⟩:=HS5.out.some_ (by omega)
     obtain ⟨h,hh⟩:∃ h,H[i]?=some h:=⟨H[i]'(by rw [HNH.out];omega),List.getElem?_eq_getElem (by rw [HNH.out];omega)⟩
     have hgs:=HHO.out gh rfl
     have HE:Hid (wz.rangeAt gh (off+i*10) h.cells):=XW (HS5.out.rng i h hh) hkz (fun e=>by
      rcases e with e | e | e
      ·exact hgs.1 e
      ·exact hgs.2.1 e
      exact hgs.2.2 e)
     have HTK:Hid (H.take (i+1)=H.take i++[h]):=by show _=_;rw [List.take_add_one,hh];rfl
     have hh1:1≤h.n:=HPOS.out h (List.mem_of_getElem? hh)
     have hlb:QJ (H.take i)+h.n≤left∧0≤QJ (H.take i):=by
      have e1:QJ H=QJ (H.take i)+h.n+QJ (H.drop (i+1)):=by
       rw [← seenM_snoc,← HTK.out,← jZ,List.take_append_drop]
      have hnn:∀ Y:List Ent,(∀ y ∈ Y,1≤y.n)→0≤QJ Y:=fun Y=>by
       induction Y with
       | nil=>intro _;simp [QJ,UW]
       | cons y Y ih=>intro hy;rw [WQ];have:=ih (fun z hz=>hy z (by simp [hz]));have:=hy y (by simp);omega
      have e2:=hnn (H.drop (i+1)) (fun y hy=>HPOS.out y (List.mem_of_mem_drop hy))
      have e3:=hnn (H.take i) (fun y hy=>HPOS.out y (List.mem_of_mem_take hy))
      have e4:=HSUM.out
      omega
     clear hh
     obtain ⟨xi,hxi⟩:∃ xi,(Oc.mk o fs left false false 0).more pr' no (H.take i)=xi:=⟨_,rfl⟩
     obtain ⟨la,hla⟩:∃ la,VY last (fillsOf o pr' no left (H.take i))=la:=⟨_,rfl⟩
     have hxl:xi.left=left-QJ (H.take i):=by rw [← hxi];rfl
     have hxf:xi.f.length=fs.length+i:=by rw [← hxi];show (fs++_).length=_;rw [List.length_append,jy,List.length_take,HNH.out];omega
     have HNX:Hid ((Oc.mk o fs left false false 0).more pr' no (H.take (i+1))={ xi with f:=xi.f++[⟨h.o,o.q xi.left,pr',h.n,no+i+1⟩],left:=xi.left-h.n }):=by
      show _=_
      rw [← hxi,HTK.out]
      unfold Oc.more
      simp only
      rw [qj,seenM_snoc,List.length_take,HNH.out,Nat.min_eq_left hi]
      simp only [fillsOf,List.append_assoc]
      congr 1
      omega
     have HNF:Hid (VY last (fillsOf o pr' no left (H.take (i+1)))=pr'):=by
      show _=_
      rw [HTK.out,qj]
      simp only [fillsOf]
      exact lastOf_snoc _ _ _
     rw [hxi] at HQz HVz
     rw [hla] at HPz
     have hlb2:h.n≤xi.left∧xi.left≤2000000:=by omega
     have hxfl:xi.f.length≤4000001:=by omega
     have hni:0≤no+(i:Int)∧no+(i:Int)≤3000000000000:=by omega
     have HVN2:Hid (∀ b,vv.ownBlock=some b→b≠g∧b≠p):=fun b hb=>by
      rcases HVG.out b hb with e | e
      ·exact ⟨(HVn.out b e).2.2,fun e'=>(HVn.out b e).2.1 (by rw [e'];exact hpFc)⟩
      omega
     clear hxi hla hxl hlb hxf
     go_upto_region 9 with fail
     refine QZ 3 [pE gh (off+i*10),.eq (h.v),.fresh wz.heap.size 72 Xz.cells] rfl (by kernel_rfl) ?_ ?_
     ·refine sW 1 rfl (fun a u E D hk=>Jz slH _ _ (gh) (off) nh ch i (off+i*10) ((i:Int)) rfl (eE E) (eE E) (by first | rfl | omega) (hlt) (by first | rfl | omega)) ?_
      refine sD 2 58 0 h.cells Tryz.underlying72 (fun u hk=>JJ HE.out hk) (by rw [h.len10];exact szH) ?_
      refine nW 3 rfl (fun a u E D hk=>⟨_,_,QW 72 Xz.cells rfl zH,⟨_,rfl,hk.size,Blk.new u _ _⟩,((Keep.refl _ u).alloc _)⟩) ?_
      exact fz
     intro gv w6 hV k6
     rw [dq 3 [58,59,13]]
     simp only [Fz7]
     have hv13:(.fresh wz.heap.size 72 Xz.cells:Kn).p (gv 13) w6:=hV 2 13 (by kernel_rfl)
     generalize gv 13=v13 at hv13 ⊢
     rw [gQ hV 1 59 h.v]
     clear hV
     obtain ⟨b13,rfl,hb13,hB13⟩:=hv13
     refine Qj 72 b13 72 Xz.cells h.cells _ _ rfl rfl (by kernel_rfl) (by kernel_rfl) hB13 (by rw [Ent.len10];exact szH) (by rw [Ent.len10,Ent.len10]) (Ent.one _) ?_
     intro w7 hB7 hk7 hs7
     simp only [Act.put]
     refine Kx ?_
     have k7:Kept wz w7:=k6.trans' hk7 (by omega)
     have z7:=k7.size
     have HB7:=Kj hB7
     have l7:=hB7.lt
     have HP7:=Kj (HPz.out.kept k7)
     have HN7:Hid (w7.cell? ⟨p,4,none⟩=some (.int .i64 (no+(i:Int)))):=by show _=_;rw [HP7.out.cell];unfold rsd;split <;> rfl
     have hpz:p<wz.heap.size:=by omega
     have hgz:g<wz.heap.size:=by omega
     clear hB13 hB7 hk7 hs7 k6 HE HPz
     go_upto_region 10 with fail
     refine wEp 7 [pV p 0,pV p 0,pV p 4,iV (no+(i:Int)),iV (no+(i:Int)+1),pV p 0,pV p 4] [60,61,62,63,64,65,66] ?_ ?_
     ·refine mE 1 0 ?_
      refine nD 2 60 0 ?_
      refine fD 3 61 1 51 2 4 0 ?_
      refine lD 4 62 2 Tryz.underlying3 (fun u hk=>Kept.cell hk (HN7.out)) ?_
      refine sW 5 rfl (fun a u E D hk=>ZJ (no+(i:Int)+1) (p:=no+(i:Int)) (q:=1) rfl (dD D 3) rfl rfl (by omega) (by omega)) ?_
      refine nD 6 60 0 ?_
      refine fD 7 65 5 51 2 4 0 ?_
      exact fz
     intro w8 k8
     simp only [F8]
     refine Zz 3 p 4 51 _ (.int .i64 (no+(i:Int)+1)) _ _ rfl rfl (by kernel_rfl) (by kernel_rfl) (by kernel_rfl) rfl rfl (HP7.out.kept k8) (by rw [rsd_len h12];omega) ?_
     intro w9 hP9 hk9 hs9
     simp only [Act.put]
     refine Kx ?_
     rw [rsd_no] at hP9
     have kp9:Keep (·=p) w7 w9:=Keep.any k8 hk9
     have HP9:=Kj hP9
     obtain ⟨_,_,vq9,hq9,_,_⟩:=HW5.out.lv (q,pr',X2) (by simp)
     have hqz:=hq9.keep hkz (HSN.out q ((HW5.out.in_ (q,pr',X2) (by simp)) q (HW5.out.lv (q,pr',X2) (by simp)).1))
     have hqp:q≠p:=fun e=>HSN.out q ((HW5.out.in_ (q,pr',X2) (by simp)) q (HW5.out.lv (q,pr',X2) (by simp)).1) (.inr (.inl e))
     have HQP:=Kj hqp
     have HC9:Hid (w9.cell? ⟨q,0,none⟩=some (.int .i64 pr')):=by show _=_;rw [((hqz.kept k7).keep kp9 hqp).cell];rfl
     clear hP9 hk9 hs9 k8 HP7 HN7 hq9 hqz hqp
     go_upto_region 11 with fail
     refine wEp 7 [pV p 0,pV q 0,pV q 0,pV q 0,iV pr',pV p 0,pV p 3] [67,68,69,70,71,72,73] ?_ ?_
     ·refine mE 1 0 ?_
      refine mE 2 9 ?_
      refine nD 3 68 1 ?_
      refine fD 4 69 2 88 0 0 0 ?_
      refine lD 5 70 3 Tryz.underlying3 (fun u hk=>Kept.cell hk (HC9.out)) ?_
      refine nD 6 67 0 ?_
      refine fD 7 72 5 51 1 3 0 ?_
      exact fz
     intro w10 k10
     simp only [F8]
     refine Zz 3 p 3 51 _ (.int .i64 pr') _ _ rfl rfl (by kernel_rfl) (by kernel_rfl) (by kernel_rfl) rfl rfl (HP9.out.kept k10) (by rw [rsd_len h12];omega) ?_
     intro w11 hP11 hk11 hs11
     simp only [Act.put]
     refine Kx ?_
     rw [rsd_last] at hP11
     have kp11:Keep (·=p) w7 w11:=(kp9.kept k10).trans hk11 (fun _ _ h=>h)
     have z11:=kp11.size
     have HP11:=Kj hP11
     have HQ11:=Kj ((HQz.out.kept k7).keep kp11 hgp)
     have HV11:=Kj ((HVz.out.kept k7).keep kp11 (fun b hb=>(HVN2.out b hb).2))
     have HB11:=Kj (HB7.out.keep kp11 (by omega))
     have HR11:=Kj (JW HB11.out)
     have HO11:=Kj (JW HQ11.out)
     have HC11:Hid (w11.cell? ⟨q,0,none⟩=some (.int .i64 pr')):=Keep.cell hk11 (k10.cell HC9.out) HQP.out
     have HN11:Hid (w11.cell? ⟨p,4,none⟩=some (.int .i64 (no+(i:Int)+1))):=by show _=_;rw [HP11.out.cell];unfold rsd;split <;> rfl
     clear hP11 hk11 hs11 k10 kp9 HP9 HQz HVz HB7 HC9
     go_upto_region 12 with fail
     refine qW 16 [.eq (vv),pE b13 0,.eq (h.o.v),.eq ((o.q xi.left).v),pE q 0,pE q 0,pE q 0,iE pr',pE b13 9,iE h.n,pE p 0,pE p 0,pE p 4,iE (no+(i:Int)+1),.eq ((Fl.mk h.o (o.q xi.left) pr' h.n (no+(i:Int)+1)).v),.sl w11.heap.size 77 21 1 (Fl.mk h.o (o.q xi.left) pr' h.n (no+(i:Int)+1)).cells] (by kernel_rfl) rfl (by kernel_rfl) ?_ ?_
     ·refine mE 1 8 ?_
      refine fE 2 13 72 0 0 0 ?_
      refine sD 3 75 1 h.o.cells Tryz.underlying30 (fun u hk=>xQ (JJ HR11.out hk)) (by rw [h.o.len9];exact JX) ?_
      refine sE 4 3 g 0 ((o.q xi.left).cells) Tryz.underlying30 (fun u hk=>JJ HO11.out hk) (by rw [(o.q xi.left).len9];exact JX) ?_
      refine mE 5 9 ?_
      refine nD 6 78 4 ?_
      refine fD 7 79 5 88 0 0 0 ?_
      refine lD 8 80 6 Tryz.underlying3 (fun u hk=>Kept.cell hk (HC11.out)) ?_
      refine fE 9 13 72 1 9 0 ?_
      refine lD 10 82 8 Tryz.underlying3 (fun u hk=>JY (JJ HR11.out hk) 9 _ rfl) ?_
      refine mE 11 0 ?_
      refine nD 12 84 10 ?_
      refine fD 13 85 11 51 2 4 0 ?_
      refine lD 14 86 12 Tryz.underlying3 (fun u hk=>Kept.cell hk (HN11.out)) ?_
      refine sW 15 rfl (fun a u E D hk=>exec_bF _ _ _ _ _ h.o (o.q xi.left) pr' h.n (no+(i:Int)+1) rfl (dD D 2) (dD D 3) (dD D 7) (dD D 9) (dD D 13)) ?_
      refine nW 16 rfl (fun a u E D hk=>⟨_,_,Vz slF _ (Fl.mk h.o (o.q xi.left) pr' h.n (no+(i:Int)+1)).cells (by omega) rfl (dD D 14) ((Fl.mk h.o (o.q xi.left) pr' h.n (no+(i:Int)+1)).len21),(qQ u 77 21 _ w11.heap.size ((Fl.mk h.o (o.q xi.left) pr' h.n (no+(i:Int)+1)).len21) (by omega) hk.size),((Keep.refl _ u).alloc _)⟩) ?_
      exact fz
     intro gv w12 hV k12
     rw [dq 16 [74,75,76,77,78,79,80,81,82,83,84,85,86,87,88,89]]
     simp only [Fz7]
     rw [gQ hV 0 74 vv]
     have hv89:(.sl w11.heap.size 77 21 1 (Fl.mk h.o (o.q xi.left) pr' h.n (no+(i:Int)+1)).cells:Kn).p (gv 89) w12:=hV 15 89 (by kernel_rfl)
     generalize gv 89=v89 at hv89 ⊢
     clear hV
     obtain ⟨v13,w13,hr13,hs13,hk13,ho13⟩:=Qy slF _ w12 vv v89 xi.f.length 1 (fls xi.f) (Fl.mk h.o (o.q xi.left) pr' h.n (no+(i:Int)+1)).cells (HV11.out.kept k12) hv89.1 (Fl.one _) (by unfold maxLen;omega) (by omega)
     refine ZW v13 w13 rfl (XQ slF (.tmp 74) (.tmp 89) vv v89 rfl (by kernel_rfl) (by kernel_rfl) v13 w13 hr13) ?_
     simp only [Act.put,sA,sS,sZ]
     refine Jx (v13) rfl (JQ _ _ rfl (by kernel_rfl)) ?_
     simp only [Act.put,sA,sS,sZ]
     refine Kx ?_
     have z12:=k12.size
     have z13:=hk13.size
     have k1113:Keep (fun b=>vv.ownBlock=some b) w11 w13:=Keep.any k12 hk13
     have HV13:=Kj hs13
     have HVN13:Hid (∀ b,v13.ownBlock=some b→b≠g∧b≠p):=fun b hb=>by
      rcases ho13 b hb with e | e
      ·exact HVN2.out b e
      omega
     have HVG13:Hid (∀ b,v13.ownBlock=some b→vf.ownBlock=some b∨w5.heap.size≤b):=fun b hb=>by
      rcases ho13 b hb with e | e
      ·exact HVG.out b e
      exact .inr (by omega)
     have HQ13:=Kj (HQ11.out.keep k1113 (fun e=>(HVN2.out g e).1 rfl))
     have HP13:=Kj (HP11.out.keep k1113 (fun e=>(HVN2.out p e).2 rfl))
     have HN13:Hid (w13.cell? ⟨b13,9,none⟩=some (.int .i64 h.n)):=JY (JW (HB11.out.keep k1113 (fun e=>by have:=HVZ.out b13 e;omega))) 9 _ rfl
     have HL13:Hid (w13.cell? ⟨g,6,none⟩=some (.int .i64 xi.left)):=by show _=_;rw [HQ13.out.cell];rfl
     have K13:Keep (fun b=>b=g∨b=p∨vf.ownBlock=some b) w5 w13:=by
      refine (Keep.trans (hkz.kept k7) kp11 (fun b _ e=>.inr (.inl e))).trans k1113 (fun b hb e=>?_)
      rcases HVG.out b e with e | e
      ·exact .inr (.inr e)
      omega
     clear hs13 hk13 ho13 hr13 hv89 HQ11 HV11 HP11 HB11 HR11 HO11 HC11 HN11 k12 k1113 kp11 k7
     go_upto_region 13 with fail
     refine wEp 6 [pV g 6,iV xi.left,pV b13 9,iV h.n,iV (xi.left-h.n),pV g 6] [91,92,93,94,95,96] ?_ ?_
     ·refine fE 1 3 30 6 6 0 ?_
      refine lD 2 91 0 Tryz.underlying3 (fun u hk=>Kept.cell hk (HL13.out)) ?_
      refine fE 3 13 72 1 9 0 ?_
      refine lD 4 93 2 Tryz.underlying3 (fun u hk=>Kept.cell hk (HN13.out)) ?_
      refine sW 5 rfl (fun a u E D hk=>Vj (xi.left-h.n) (p:=xi.left) (q:=h.n) rfl (dD D 1) (dD D 3) rfl (by omega) (by omega)) ?_
      refine fE 6 3 30 6 6 0 ?_
      exact fz
     intro w14 k14
     simp only [F8]
     refine Zz 3 g 6 30 _ (.int .i64 (xi.left-h.n)) _ _ rfl rfl (by kernel_rfl) (by kernel_rfl) (by kernel_rfl) rfl rfl (HQ13.out.kept k14) (by rw [Ord.len9];omega) ?_
     intro w15 hQ15 hk15 hs15
     simp only [Act.put]
     refine Kx ?_
     have HQ15:Hid (Blk w15 g 30 (o.q ((Oc.mk o fs left false false 0).more pr' no (H.take (i+1))).left).cells):=by
      show Blk _ _ _ _
      rw [HNX.out]
      exact hQ15
     have HV15:Hid (Sl w15 77 21 v13 ((Oc.mk o fs left false false 0).more pr' no (H.take (i+1))).f.length (fls ((Oc.mk o fs left false false 0).more pr' no (H.take (i+1))).f)):=by
      show Sl _ _ _ _ _ _
      rw [HNX.out]
      simp only
      rw [List.length_append,fls_snoc]
      exact (HV13.out.kept k14).keep hk15 (fun b hb e=>(HVN13.out b hb).1 e)
     have HP15:Hid (Blk w15 p 51 (rsd (k:Int) (.slice (some ⟨gs,os,none⟩) n c) u0 (VY last (fillsOf o pr' no left (H.take (i+1)))) (no+((i+1:Nat):Int)))):=by
      show Blk _ _ _ _
      rw [HNF.out,show no+((i+1:Nat):Int)=no+(i:Int)+1 by omega]
      exact (HP13.out.kept k14).keep hk15 (fun e=>hgp e.symm)
     have K15:Keep (fun b=>b=g∨b=p∨vf.ownBlock=some b) w5 w15:=(K13.kept k14).trans hk15 (fun b _ e=>.inl e)
     clear hQ15 hk15 hs15 HQ13 HV13 HP13 K13 k14 HN13 HL13 HNX HNF
     go_wp2
     exact ⟨⟨i+1,by omega,by go_num,HQ15,HV15,HP15,HVG13,K15⟩,by simp [intOf];omega⟩
    have hin:i=nh:=by omega
    subst hin
    have HT:Hid (H.take i=H):=by show _=_;exact List.take_of_length_le (by rw [HNH.out];omega)
    rw [HT.out] at HQz HVz HPz
    obtain ⟨la,hla⟩:∃ la,VY last (fillsOf o pr' no left H)=la:=⟨_,rfl⟩
    have HLA:=Kj hla
    rw [hla] at HPz
    have HWz:=Kj (HW5.out.keep hkz HSN.out)
    have Kz:Keep (fun b=>Fs b∨b=g∨b=p∨vf.ownBlock=some b) wo wz:=(Keep.mono (T:=fun b=>Fs b∨b=g∨b=p∨vf.ownBlock=some b) K5 (fun _ _ e=>.inl e)).trans hkz (fun b _ e=>.inr e)
    have HLF:Hid ((Oc.mk o fs left false false 0).more pr' no H=⟨o,fs++fillsOf o pr' no left H,left-QJ H,false,false,0⟩):=rfl
    rw [HLF.out] at HQz HVz
    simp only at HQz HVz
    have HM10:Hid (B.matched o=⟨(fs++fillsOf o pr' no left H)++(if ow=true then Mt.mk [] (left-QJ H) true (Vx [] R (pr',X2)) else ZY o (no+H.length) (left-QJ H) (Vx [] R (pr',X2))).f,(if ow=true then Mt.mk [] (left-QJ H) true (Vx [] R (pr',X2)) else ZY o (no+H.length) (left-QJ H) (Vx [] R (pr',X2))).left,(if ow=true then Mt.mk [] (left-QJ H) true (Vx [] R (pr',X2)) else ZY o (no+H.length) (left-QJ H) (Vx [] R (pr',X2))).self,(if ow=true then Mt.mk [] (left-QJ H) true (Vx [] R (pr',X2)) else ZY o (no+H.length) (left-QJ H) (Vx [] R (pr',X2))).L⟩):=by
     show _=_
     rw [HM.out,HRD.out]
     unfold roundM
     simp only
     rw [HTT.out]
     simp only [List.append_assoc]
    have HS10:=Kj HRI.out.sid
    have HLN10:Hid (la=VY B.last (fs++fillsOf o pr' no left H)∧no+(H.length:Int)=B.no+((fs++fillsOf o pr' no left H).length:Nat)):=by
     refine ⟨by rw [lastOf_append,← HLN.out.1,HLA.out],?_⟩
     rw [List.length_append,jy,HLN.out.2]
     omega
    have hlf10:0≤left-QJ H∧(((fs++fillsOf o pr' no left H).length:Nat):Int)+(left-QJ H)≤o.qty:=by
     have h1:=HRI.out.sum
     have h2:=HRI.out.len
     rw [List.length_append,jy]
     simp only at h1 h2
     omega
    obtain ⟨_,_,vq,hq0,hq1,_⟩:=HWz.out.lv (q,pr',X2) (by simp)
    have HQC:=Kj (hq0.cell 1)
    obtain ⟨m,hm⟩:∃ m,X2.length=m:=⟨_,rfl⟩
    simp only at hq1
    rw [hm] at hq1
    have HQS:=Kj hq1
    have hNH:=HNH.out
    rw [← hNH] at HPz
    have HPV:=Kj (rsd_cell h12 HPz.out)
    clear hq0 hq1 HM HRD HT hla HW5 HQ5 HP5 HV5 HS5 hlt hkz
    by_cases hm0:m=0
    ·have hX2:X2=[]:=List.eq_nil_of_length_eq_zero (by omega)
     go_upto_region 15 with fail
     refine wE 6 [pV q 0,pV q 0,pV q 1,vq,iV (m:Int),bV true] [98,99,100,101,102,103] ?_ ?_
     ·refine mE 1 9 ?_
      refine nD 2 98 0 ?_
      refine fD 3 99 1 88 1 1 0 ?_
      refine sW 4 rfl (fun a u E D hk=>Jy _ _ Tryz.underlying86 _ _ _ rfl (dD D 2) (Kept.cell hk (HQC.out))) ?_
      refine sW 5 rfl (fun a u E D hk=>Qq _ slR _ _ _ _ rfl (dD D 3) HQS.out) ?_
      refine aS 6 rfl (fun a u E D hk=>JU rfl (dD D 4) rfl) (Ky (by omega)) ?_
      exact fz
     intro w20 k20
     simp only [F8]
     have HWw:=HWz.out.kept k20
     have HSW:Hid (Sl w20 85 1 (.slice (some ⟨gs,os,none⟩) n c) n (ptrs ((q,pr',X2)::ZR))):=by show Sl _ _ _ _ _ _;have:=HWw.sl;rw [List.nil_append] at this;simp only [List.length_cons] at this;have e:=HNZ.out;simp only [List.length_cons] at e;rw [e] at this;exact this
     have HPV20:=Kj (k20.cell HPV.out)
     obtain ⟨vb,hvb,hob,hsb⟩:=jX Vy _ n 1 (by omega) _ w20 HSW.out
     rw [show ((1:Nat):Int)=1 from rfl] at hvb
     have HVB:=Kj hvb
     have hZl:ZR.length=n-1:=by have e:=HNZ.out;simp only [List.length_cons] at e;omega
     have HSB:Hid (∀ u,Kept w20 u→Sl u 85 1 vb (n-1) (ptrs ZR)):=fun u hk=>by
      have:=hsb u _ (HSW.out.kept hk)
      rwa [JJq] at this
     have z20:=k20.size
     have hn64:n≤70:=by
      have h1:=HSr.out.ok.len
      have h2:(levs ZR).length=R.length:=by rw [HER.out]
      rw [YU] at h2
      simp only [List.length_cons] at h1
      omega
     clear hvb hob hsb HSW HPV
     go_upto_region 16 with fail
     refine qW 13 [pE p 0,iE (k:Int),.emp w20.heap.size 85,pE p 0,iE (k:Int),pE p 0,pE p 0,pE p (0+k*1),.eq (.slice (some ⟨gs,os,none⟩) n c),.eq (vb),.sl w20.heap.size 85 1 (n-1) (ptrs ZR),pE p 0,pE p 0] (by kernel_rfl) rfl (by kernel_rfl) ?_ ?_
     ·refine mE 1 0 ?_
      refine mE 2 7 ?_
      refine nW 3 rfl (fun a u E D hk=>⟨_,_,Uy 48 85 1 rfl Vy.und (by kernel_rfl),⟨_,rfl,hk.size,Blk.new u _ _⟩,((Keep.refl _ u).alloc _)⟩) ?_
      refine mE 4 0 ?_
      refine mE 5 7 ?_
      refine nD 6 107 3 ?_
      refine fD 7 109 5 51 0 0 0 ?_
      refine sW 8 rfl (fun a u E D hk=>VU 49 48 3 1 _ _ p 0 k rfl Tryz.underlying49 (by kernel_rfl) (dD D 6) (dD D 4) (by omega)) ?_
      refine sW 9 rfl (fun a u E D hk=>Jy _ _ Tryz.underlying48 _ _ _ rfl (dD D 7) (Kept.cell hk (HPV20.out))) ?_
      refine sW 10 rfl (fun a u E D hk=>VX Vy _ _ _ vb _ rfl (dD D 8) rfl (HVB.out u)) ?_
      refine QY 11 rfl (fun a u hE hD hk=>(by obtain ⟨v',u',hr,hp,hkk⟩:=VW Vy _ u (a.eval (.tmp 106)) vb (n-1) w20.heap.size _ ((dD hD 2)) (HSB.out u hk) (xV _) (by omega) (by omega) hk.size;exact jx v' u' rfl (JZ rfl _) (XQ Vy (.tmp 106) (.tmp 113) _ vb rfl rfl (dD hD 9) v' u' hr) hp hkk)) ?_
      refine nD 12 104 0 ?_
      refine fD 13 115 11 51 0 0 0 ?_
      exact fz
     intro gv w21 hV k21
     rw [dq 13 [104,105,106,107,108,109,110,111,112,113,114,115,116]]
     simp only [Fz7]
     rw [gQ hV 12 116 (.pointer (some ⟨p,0,none⟩))]
     rw [gQ hV 1 105 (.int .i64 (k:Int))]
     have hv114:(.sl w20.heap.size 85 1 (n-1) (ptrs ZR):Kn).p (gv 114) w21:=hV 10 114 (by kernel_rfl)
     generalize gv 114=v114 at hv114 ⊢
     clear hV
     refine Jx (.pointer (some ⟨p,0+k*1,none⟩)) rfl (VU 49 48 3 1 (.tmp 116) (.tmp 105) p 0 k rfl Tryz.underlying49 (by kernel_rfl) rfl rfl (by omega)) ?_
     simp only [Act.put,sA,sS,sZ]
     refine Zz 48 p (0+k*1) 51 _ v114 _ _ rfl rfl (by kernel_rfl) (by kernel_rfl) (by kernel_rfl) (VV hv114.1) (Yq hv114.1) ((HPz.out.kept k20).kept k21) (by rw [rsd_len h12];omega) ?_
     intro w22 hP22 hk22 hs22
     simp only [Act.put]
     refine Kx ?_
     rw [rsd_set h12] at hP22
     have z21:=k21.size
     have z22:=hk22.size
     obtain ⟨FX,hWX,hgX,hkX,_⟩:=HWw.fewer (w':=w21) (Z':=ZR) (v':=v114) (by rw [List.nil_append];exact List.sublist_cons_self _ _) (Keep.mono k21 (fun _ _ h=>h.elim)) (by rw [hZl];exact hv114.1) (fun b hb=>.inr (hv114.2 b hb))
     have hpX:¬ FX p:=fun h=>(hgX p h).elim (fun h=>HSN.out p h (.inr (.inl rfl))) (fun h=>by omega)
     have hgX2:¬ FX g:=fun h=>(hgX g h).elim (fun h=>HSN.out g h (.inl rfl)) (fun h=>by omega)
     have HWX:Hid (RWay w22 FX v114 (Vx [] R (pr',X2))):=by
      show Way _ _ _ _ _ _ _
      refine ⟨ZR,G4,?_,hWX.keep hk22 (fun b hb e=>hpX (by have e2:b=p:=e;rw [← e2];exact hb))⟩
      rw [HER.out,hX2]
      rfl
     have HPX:=Kj hP22
     have kz2:Keep (fun b=>b=p) wz w22:=(Keep.mono (T:=fun b=>b=p) (k20.trans k21) (fun _ _ e=>e.elim)).trans hk22 (fun _ _ e=>e)
     have HQX:=Kj (HQz.out.keep kz2 hgp)
     have HVX:=Kj (HVz.out.keep kz2 (fun b hb e=>by
      have e2:b=p:=e
      rcases HVG.out b hb with h | h
      ·exact (HVn.out b h).2.1 (by rw [e2];exact hpFc)
      omega))
     have HGX:Hid (∀ b,FX b→Fs4 b∨wz.heap.size≤b):=fun b hb=>(hgX b hb).imp id (fun h=>by omega)
     have KX:Keep (fun b=>Fs b∨b=g∨b=p∨vf.ownBlock=some b) wo w22:=Kz.trans kz2 (fun b _ e=>.inr (.inr (.inl e)))
     clear hP22 hk22 hs22 hv114 hWX hgX hkX kz2 HWz HPz HQz HVz HVB HSB k21 HWw HQC HQS HPV20 k20
     obtain ⟨F10,hb10,hg10,hi10⟩:=HJ.out w22 _ _ _ _ _ _ KX (fun b hb e=>by
      rcases e with e | e | e | e
      ·exact .inl e
      ·exact absurd (by rw [← e];exact hb) hgFc
      ·exact .inr e
      exact absurd hb (HVn.out b e).2.1) HPX.out HWX.out (fun b hb=>(HGX.out b hb).elim (fun h=>HG3.out b h) (fun h=>.inr (by omega)))
     rw [Bok.to_to hs12] at hb10
     have HB10:=Kj hb10
     have HI10:=Kj hi10
     have HVN10:Hid (∀ b,vv.ownBlock=some b→w1.heap.size≤b∧¬ F10 b∧b≠g):=fun b hb=>by
      rcases HVG.out b hb with h | h
      ·refine ⟨(HVn.out b h).1,fun e=>?_,(HVn.out b h).2.2⟩
       have hvl:=HVL.out b h
       rcases (HI10.out b).1 e with e | e
       ·exact (HVn.out b h).2.1 e
       rcases HGX.out b e with e | e
       ·rcases HG3.out b e with e | e
        ·exact (HVn.out b h).2.1 (HFs.out b e).1
        omega
       omega
      refine ⟨by omega,fun e=>?_,by omega⟩
      have hvz:=HVZ.out b hb
      rcases (HI10.out b).1 e with e | e
      ·have:=HLTF.out b e;omega
      rcases HGX.out b e with e | e
      ·have:=HW4L.out b e;omega
      omega
     have HG10:Hid (Grow w1 F F10):=fun b hb=>by
      rcases (HI10.out b).1 hb with h | h
      ·exact HGr.out b h
      rcases HGX.out b h with h | h
      ·rcases HG3.out b h with h | h
       ·exact HGr.out b (HFs.out b h).1
       exact .inr (by omega)
      exact .inr (by omega)
     have K10:Keep (fun b=>F b∨b=g) w1 w22:=by
      refine Keep.trans kwq KX (fun b hb e=>?_)
      rcases e with e | e | e | e
      ·exact (HGr.out b (HFs.out b e).1).elim .inl (fun e=>by omega)
      ·exact .inr e
      ·rw [e];exact .inl hpF
      have:=(HVn.out b e).1;omega
     have HME:Hid (ow=false→mQ g w22<mQ g wo):=fun ho=>by
      have h1:=HRI.out.prog
      have h2:=HRI.out.sum
      have e1:=mQ_is HQX.out
      have e2:=HMO.out
      simp only at h1 h2
      rw [ho] at h1
      simp at h1
      omega
     have zX2:=K10.size
     clear hb10 hg10 hi10 KX HPX HWX HGX HJ HBr HVr HVn HGr kwq
     cases how:ow with
     | true=>
      have HFIN:Hid (B.matched o=⟨fs++fillsOf o pr' no left H,left-QJ H,true,Vx [] R (pr',X2)⟩):=by
       show _=_
       rw [HM10.out,how]
       simp
      have HLX:Hid (w22.cell? ⟨g,6,none⟩=some (.int .i64 (left-QJ H))):=by show _=_;rw [HQX.out.cell];rfl
      clear HM10 how
      go_upto_region 18 with fail
      refine wG 6 [vv,pV g 6,iV (left-QJ H),vv,iV (left-QJ H),bV true] [119,120,121,4,5,6] ?_ ?_
      ·refine mE 1 8 ?_
       refine fE 2 3 30 6 6 0 ?_
       refine lD 3 120 1 Tryz.underlying3 (fun u hk=>Kept.cell hk (HLX.out)) ?_
       refine mD 4 119 0 ?_
       refine mD 5 121 2 ?_
       refine sW 6 rfl (fun a u E D hk=>JQ _ _ rfl rfl) ?_
       exact fz
      intro wy ky
      simp only [F8]
      have HEND:Hid (UV w F p B o (B.matched o) (.returned (.tuple #[vv,.int .i64 (left-QJ H),.bool true])) wy):=by
       show UV _ _ _ _ _ _ _ _
       rw [HFIN.out]
       unfold UV
       rw [HSE.out]
       have hl:=HLN10.out
       have hb:=HB10.out.kept ky
       rw [hl.1,hl.2] at hb
       exact ⟨F10,vv,rfl,hb,HVX.out.kept ky,fun b hb=>⟨by have:=(HVN10.out b hb).1;omega,(HVN10.out b hb).2.1⟩,fun b hb=>(HG10.out b hb).imp id (fun h=>by omega),((Keep.any k1 K10).mono (fun b hb e=>e.elim id (fun e=>by omega))).kept ky⟩
      clear HB10 HVX HVN10 HFIN
      go_wp2
      go_ret3
      exact HEND.out
     | false=>
      have HM11:Hid (B.matched o=⟨(fs++fillsOf o pr' no left H)++(ZY o (no+H.length) (left-QJ H) (Vx [] R (pr',X2))).f,(ZY o (no+H.length) (left-QJ H) (Vx [] R (pr',X2))).left,(ZY o (no+H.length) (left-QJ H) (Vx [] R (pr',X2))).self,(ZY o (no+H.length) (left-QJ H) (Vx [] R (pr',X2))).L⟩):=by
       show _=_
       rw [HM10.out,how]
       simp
      have HME2:=Kj (HME.out how)
      have HLF10:=Kj hlf10
      clear HM10 how HME
      go_wp2
      exact ⟨⟨Vx [] R (pr',X2),_,_,_,_,F10,HB10,HQX,HVX,HVN10,HG10,K10,HS10,HLN10,HLF10.out,HM11⟩,HME2.out⟩
    go_upto_region 15 with fail
    refine wE 6 [pV q 0,pV q 0,pV q 1,vq,iV (m:Int),bV false] [98,99,100,101,102,103] ?_ ?_
    ·refine mE 1 9 ?_
     refine nD 2 98 0 ?_
     refine fD 3 99 1 88 1 1 0 ?_
     refine sW 4 rfl (fun a u E D hk=>Jy _ _ Tryz.underlying86 _ _ _ rfl (dD D 2) (Kept.cell hk (HQC.out))) ?_
     refine sW 5 rfl (fun a u E D hk=>Qq _ slR _ _ _ _ rfl (dD D 3) HQS.out) ?_
     refine aS 6 rfl (fun a u E D hk=>JU rfl (dD D 4) rfl) (Ku (by omega)) ?_
     exact fz
    intro w20 k20
    simp only [F8]
    have z20:=k20.size
    have hX2:¬ X2.isEmpty=true:=fun h=>hm0 (by rw [← hm,List.isEmpty_iff.1 h];rfl)
    have HWX:Hid (RWay w20 Fs4 (.slice (some ⟨gs,os,none⟩) n c) (Vx [] R (pr',X2))):=by
     show Way _ _ _ _ _ _ _
     refine ⟨[]++(q,pr',X2)::ZR,G4,?_,HWz.out.kept k20⟩
     unfold Vx
     rw [if_neg hX2,List.nil_append,Wy,HER.out]
     rfl
    have HPX:=Kj (HPz.out.kept k20)
    have HQX:=Kj (HQz.out.kept k20)
    have HVX:=Kj (HVz.out.kept k20)
    have HGX:Hid (∀ b,Fs4 b→Fs4 b∨wz.heap.size≤b):=fun b hb=>.inl hb
    have KX:=Kz.kept k20
    clear HWz HPz HQz HVz HQC HQS HPV k20
    obtain ⟨F10,hb10,hg10,hi10⟩:=HJ.out w20 _ _ _ _ _ _ KX (fun b hb e=>by
     rcases e with e | e | e | e
     ·exact .inl e
     ·exact absurd (by rw [← e];exact hb) hgFc
     ·exact .inr e
     exact absurd hb (HVn.out b e).2.1) HPX.out HWX.out (fun b hb=>(HGX.out b hb).elim (fun h=>HG3.out b h) (fun h=>.inr (by omega)))
    rw [Bok.to_to hs12] at hb10
    have HB10:=Kj hb10
    have HI10:=Kj hi10
    have HVN10:Hid (∀ b,vv.ownBlock=some b→w1.heap.size≤b∧¬ F10 b∧b≠g):=fun b hb=>by
     rcases HVG.out b hb with h | h
     ·refine ⟨(HVn.out b h).1,fun e=>?_,(HVn.out b h).2.2⟩
      have hvl:=HVL.out b h
      rcases (HI10.out b).1 e with e | e
      ·exact (HVn.out b h).2.1 e
      rcases HGX.out b e with e | e
      ·rcases HG3.out b e with e | e
       ·exact (HVn.out b h).2.1 (HFs.out b e).1
       omega
      omega
     refine ⟨by omega,fun e=>?_,by omega⟩
     have hvz:=HVZ.out b hb
     rcases (HI10.out b).1 e with e | e
     ·have:=HLTF.out b e;omega
     rcases HGX.out b e with e | e
     ·have:=HW4L.out b e;omega
     omega
    have HG10:Hid (Grow w1 F F10):=fun b hb=>by
     rcases (HI10.out b).1 hb with h | h
     ·exact HGr.out b h
     rcases HGX.out b h with h | h
     ·rcases HG3.out b h with h | h
      ·exact HGr.out b (HFs.out b h).1
      exact .inr (by omega)
     exact .inr (by omega)
    have K10:Keep (fun b=>F b∨b=g) w1 w20:=by
     refine Keep.trans kwq KX (fun b hb e=>?_)
     rcases e with e | e | e | e
     ·exact (HGr.out b (HFs.out b e).1).elim .inl (fun e=>by omega)
     ·exact .inr e
     ·rw [e];exact .inl hpF
     have:=(HVn.out b e).1;omega
    have HME:Hid (ow=false→mQ g w20<mQ g wo):=fun ho=>by
     have h1:=HRI.out.prog
     have h2:=HRI.out.sum
     have e1:=mQ_is HQX.out
     have e2:=HMO.out
     simp only at h1 h2
     rw [ho] at h1
     simp at h1
     omega
    have zX2:=K10.size
    clear hb10 hg10 hi10 KX HPX HWX HGX HJ HBr HVr HVn HGr kwq
    cases how:ow with
    | true=>
     have HFIN:Hid (B.matched o=⟨fs++fillsOf o pr' no left H,left-QJ H,true,Vx [] R (pr',X2)⟩):=by
      show _=_
      rw [HM10.out,how]
      simp
     have HLX:Hid (w20.cell? ⟨g,6,none⟩=some (.int .i64 (left-QJ H))):=by show _=_;rw [HQX.out.cell];rfl
     clear HM10 how
     go_upto_region 18 with fail
     refine wG 6 [vv,pV g 6,iV (left-QJ H),vv,iV (left-QJ H),bV true] [119,120,121,4,5,6] ?_ ?_
     ·refine mE 1 8 ?_
      refine fE 2 3 30 6 6 0 ?_
      refine lD 3 120 1 Tryz.underlying3 (fun u hk=>Kept.cell hk (HLX.out)) ?_
      refine mD 4 119 0 ?_
      refine mD 5 121 2 ?_
      refine sW 6 rfl (fun a u E D hk=>JQ _ _ rfl rfl) ?_
      exact fz
     intro wy ky
     simp only [F8]
     have HEND:Hid (UV w F p B o (B.matched o) (.returned (.tuple #[vv,.int .i64 (left-QJ H),.bool true])) wy):=by
      show UV _ _ _ _ _ _ _ _
      rw [HFIN.out]
      unfold UV
      rw [HSE.out]
      have hl:=HLN10.out
      have hb:=HB10.out.kept ky
      rw [hl.1,hl.2] at hb
      exact ⟨F10,vv,rfl,hb,HVX.out.kept ky,fun b hb=>⟨by have:=(HVN10.out b hb).1;omega,(HVN10.out b hb).2.1⟩,fun b hb=>(HG10.out b hb).imp id (fun h=>by omega),((Keep.any k1 K10).mono (fun b hb e=>e.elim id (fun e=>by omega))).kept ky⟩
     clear HB10 HVX HVN10 HFIN
     go_wp2
     go_ret3
     exact HEND.out
    | false=>
     have HM11:Hid (B.matched o=⟨(fs++fillsOf o pr' no left H)++(ZY o (no+H.length) (left-QJ H) (Vx [] R (pr',X2))).f,(ZY o (no+H.length) (left-QJ H) (Vx [] R (pr',X2))).left,(ZY o (no+H.length) (left-QJ H) (Vx [] R (pr',X2))).self,(ZY o (no+H.length) (left-QJ H) (Vx [] R (pr',X2))).L⟩):=by
      show _=_
      rw [HM10.out,how]
      simp
     have HME2:=Kj (HME.out how)
     have HLF10:=Kj hlf10
     clear HM10 how HME
     go_wp2
     exact ⟨⟨Vx [] R (pr',X2),_,_,_,_,F10,HB10,HQX,HVX,HVN10,HG10,K10,HS10,HLN10,HLF10.out,HM11⟩,HME2.out⟩
 have HFIN:Hid (B.matched o=⟨fs,left,false,L⟩):=by show _=_;rw [HM.out,match_zero (by omega)];simp
 clear HM
 go_upto_region 3 with fail
 refine wE 13 [pV g 6,iV left,bV false,bV false,undef,undef,undef,undef,undef,undef,undef,undef,bV false] [17,18,19,20,21,22,23,24,25,26,27,28,29] ?_ ?_
 ·refine fE 1 3 30 6 6 0 ?_
  refine lD 2 17 0 Tryz.underlying3 (fun u hk=>Kept.cell hk (HL6.out)) ?_
  refine aS 3 rfl (fun a u E D hk=>XX rfl (dD D 1) rfl) (Ku hl0) ?_
  refine mD 4 19 2 ?_
  refine kS 5 3 ?_
  refine kS 6 3 ?_
  refine kS 7 3 ?_
  refine kS 8 3 ?_
  refine kS 9 3 ?_
  refine kS 10 3 ?_
  refine kS 11 3 ?_
  refine kS 12 3 ?_
  refine pF 13 20 3 ?_
  exact fz
 intro wq kq
 simp only [F8]
 have HLq:=Kj (kq.cell HL6.out)
 go_upto_region 19 with fail
 refine wG 6 [vf,pV g 6,iV left,vf,iV left,bV false] [122,123,124,4,5,6] ?_ ?_
 ·refine mE 1 8 ?_
  refine fE 2 3 30 6 6 0 ?_
  refine lD 3 123 1 Tryz.underlying3 (fun u hk=>Kept.cell hk (HLq.out)) ?_
  refine mD 4 122 0 ?_
  refine mD 5 124 2 ?_
  refine sW 6 rfl (fun a u E D hk=>JQ _ _ rfl rfl) ?_
  exact fz
 intro wy ky
 simp only [F8]
 have kry:=kq.trans ky
 have HEND:Hid (UV w F p B o (B.matched o) (.returned (.tuple #[vf,.int .i64 left,.bool false])) wy):=by
  show UV _ _ _ _ _ _ _ _
  rw [HFIN.out]
  unfold UV
  rw [HSE.out]
  have hl:=HLN.out
  have hb:=HBr.out.kept kry
  rw [hl.1,hl.2] at hb
  exact ⟨Fc,vf,rfl,hb,HVr.out.kept kry,fun b hb=>⟨by have:=(HVn.out b hb).1;omega,(HVn.out b hb).2.1⟩,fun b hb=>(HGr.out b hb).imp id (fun h=>by omega),((Keep.any k1 hkr).mono (fun b hb e=>e.elim id (fun e=>by omega))).kept kry⟩
 clear HBr HVr HVn HFIN
 go_wp2
 go_ret3
 exact HEND.out
theorem refRight_any (c:Ord) (w:World):Gives 23 #[c.v] w (.eq (.int .i64 c.err)):=by
 unfold Gives Ord.v
 have HT:Hid True:=trivial
 have HB0:Hid (Blk (w.alloc (.cells c.cells.toArray 30)) w.heap.size 30 c.cells):=Blk.new w _ _
 have kw0:Kept w (w.alloc (.cells c.cells.toArray 30)):=(Keep.refl _ w).alloc _
 go_enter Tryz.func23,Tryz.ntmps23
 go_upto_region 1 with fail
 generalize w.alloc (.cells c.cells.toArray 30)=w0 at HB0 kw0 ⊢
 generalize w.heap.size=g at HB0 ⊢
 obtain ⟨bA,hA⟩:∃ b,(((((!rng c.tr 0 31) || (!rng c.firm 0 7)) || (!rng c.id 0 1073741824)) || (!rng c.side 1 2)) || (!rng c.k 1 5))=b:=⟨_,rfl⟩
 have HA:=Kj hA
 clear hA
 refine wT 28 [pE g 0,iE c.tr,bE (rng c.tr 0 31),bE (!(rng c.tr 0 31)),bE (!(rng c.tr 0 31)),.cond (!(!(rng c.tr 0 31))) (pE g 2),.cond (!(!(rng c.tr 0 31))) (iE c.firm),.cond (!(!(rng c.tr 0 31))) (bE (rng c.firm 0 7)),.cond (!(!(rng c.tr 0 31))) (bE (!(rng c.firm 0 7))),bE ((!(rng c.tr 0 31)) || (!(rng c.firm 0 7))),bE ((!(rng c.tr 0 31)) || (!(rng c.firm 0 7))),.cond (!((!(rng c.tr 0 31)) || (!(rng c.firm 0 7)))) (pE g 1),.cond (!((!(rng c.tr 0 31)) || (!(rng c.firm 0 7)))) (iE c.id),.cond (!((!(rng c.tr 0 31)) || (!(rng c.firm 0 7)))) (bE (rng c.id 0 1073741824)),.cond (!((!(rng c.tr 0 31)) || (!(rng c.firm 0 7)))) (bE (!(rng c.id 0 1073741824))),bE (((!(rng c.tr 0 31)) || (!(rng c.firm 0 7))) || (!(rng c.id 0 1073741824))),bE (((!(rng c.tr 0 31)) || (!(rng c.firm 0 7))) || (!(rng c.id 0 1073741824))),.cond (!(((!(rng c.tr 0 31)) || (!(rng c.firm 0 7))) || (!(rng c.id 0 1073741824)))) (pE g 3),.cond (!(((!(rng c.tr 0 31)) || (!(rng c.firm 0 7))) || (!(rng c.id 0 1073741824)))) (iE c.side),.cond (!(((!(rng c.tr 0 31)) || (!(rng c.firm 0 7))) || (!(rng c.id 0 1073741824)))) (bE (rng c.side 1 2)),.cond (!(((!(rng c.tr 0 31)) || (!(rng c.firm 0 7))) || (!(rng c.id 0 1073741824)))) (bE (!(rng c.side 1 2))),bE ((((!(rng c.tr 0 31)) || (!(rng c.firm 0 7))) || (!(rng c.id 0 1073741824))) || (!(rng c.side 1 2))),bE ((((!(rng c.tr 0 31)) || (!(rng c.firm 0 7))) || (!(rng c.id 0 1073741824))) || (!(rng c.side 1 2))),.cond (!((((!(rng c.tr 0 31)) || (!(rng c.firm 0 7))) || (!(rng c.id 0 1073741824))) || (!(rng c.side 1 2)))) (pE g 4),.cond (!((((!(rng c.tr 0 31)) || (!(rng c.firm 0 7))) || (!(rng c.id 0 1073741824))) || (!(rng c.side 1 2)))) (iE c.k),.cond (!((((!(rng c.tr 0 31)) || (!(rng c.firm 0 7))) || (!(rng c.id 0 1073741824))) || (!(rng c.side 1 2)))) (bE (rng c.k 1 5)),.cond (!((((!(rng c.tr 0 31)) || (!(rng c.firm 0 7))) || (!(rng c.id 0 1073741824))) || (!(rng c.side 1 2)))) (bE (!(rng c.k 1 5))),bE bA] [3,4,5,6,7,8,9,10,11,12,13,14,15,16,17,18,19,20,21,22,23,24,25,26,27,28,29,30] ?_ ?_
 ·refine sW 1 rfl (fun a u E D hk=>XV 30 0 0 _ (g) rfl (eE E) (by kernel_rfl)) ?_
  refine lD 2 3 0 Tryz.underlying3 (fun u hk=>(HB0.out.kept hk).fld 0 _ rfl) ?_
  refine cS 3 51 [.int .i64 c.tr,.int .i64 0,.int .i64 31] rfl Tryz.func51 rfl (fun a u E D hk=>⟨ll (dD D 1) (ll rfl (ll rfl rfl)),in_any _ _ _ u⟩) ?_
  refine sW 4 rfl (fun a u E D hk=>Yj _ _ (rng c.tr 0 31) rfl (dD D 2)) ?_
  refine mD 5 6 3 ?_
  refine uC 6 4 rfl (fun a u E D hk hb=>XV 30 2 2 _ (g) rfl (eE E) (by kernel_rfl)) ?_
  refine uC 7 4 rfl (fun a u E D hk hb=>QX _ Tryz.underlying3 _ _ _ rfl ((D 5 8 (by kernel_rfl)).1 hb) ((HB0.out.kept hk).fld 2 _ rfl)) ?_
  refine QY 8 rfl (fun a u hE hD hk=>zj _ rfl rfl rfl (dD hD 4) (fun hb=>VJ 51 #[.int .i64 c.firm,.int .i64 0,.int .i64 7] rfl (Vq rfl rfl (dD hD 4) (jq hb)) (Jq 51 _ [.tmp 9,.const (.int .i64 0),.const (.int .i64 7)] _ [.int .i64 c.firm,.int .i64 0,.int .i64 7] Tryz.func51 (by kernel_rfl) (by kernel_rfl) rfl (show [a.eval (.tmp 9),a.eval (.const (.int .i64 0)),a.eval (.const (.int .i64 7))]=[.int .i64 c.firm,.int .i64 0,.int .i64 7] from (by rw [show a.eval (.tmp 9)=.int .i64 c.firm from ((hD 6 9 (by kernel_rfl)).1 hb)] <;> rfl)) u) (in_any _ _ _ u))) ?_
  refine uC 9 4 rfl (fun a u E D hk hb=>Yj _ _ (rng c.firm 0 7) rfl ((D 7 10 (by kernel_rfl)).1 hb)) ?_
  refine sW 10 rfl (fun a u E D hk=>VQ _ _ _ ((!(rng c.tr 0 31))) ((!(rng c.firm 0 7))) rfl (dD D 4) rfl (fun hb2=>((D 8 11 (by kernel_rfl)).1 hb2))) ?_
  refine mD 11 12 9 ?_
  refine uC 12 10 rfl (fun a u E D hk hb=>XV 30 1 1 _ (g) rfl (eE E) (by kernel_rfl)) ?_
  refine uC 13 10 rfl (fun a u E D hk hb=>QX _ Tryz.underlying3 _ _ _ rfl ((D 11 14 (by kernel_rfl)).1 hb) ((HB0.out.kept hk).fld 1 _ rfl)) ?_
  refine QY 14 rfl (fun a u hE hD hk=>zj _ rfl rfl rfl (dD hD 10) (fun hb=>VJ 51 #[.int .i64 c.id,.int .i64 0,.int .i64 1073741824] rfl (Vq rfl rfl (dD hD 10) (jq hb)) (Jq 51 _ [.tmp 15,.const (.int .i64 0),.const (.int .i64 1073741824)] _ [.int .i64 c.id,.int .i64 0,.int .i64 1073741824] Tryz.func51 (by kernel_rfl) (by kernel_rfl) rfl (show [a.eval (.tmp 15),a.eval (.const (.int .i64 0)),a.eval (.const (.int .i64 1073741824))]=[.int .i64 c.id,.int .i64 0,.int .i64 1073741824] from (by rw [show a.eval (.tmp 15)=.int .i64 c.id from ((hD 12 15 (by kernel_rfl)).1 hb)] <;> rfl)) u) (in_any _ _ _ u))) ?_
  refine uC 15 10 rfl (fun a u E D hk hb=>Yj _ _ (rng c.id 0 1073741824) rfl ((D 13 16 (by kernel_rfl)).1 hb)) ?_
  refine sW 16 rfl (fun a u E D hk=>VQ _ _ _ (((!(rng c.tr 0 31)) || (!(rng c.firm 0 7)))) ((!(rng c.id 0 1073741824))) rfl (dD D 10) rfl (fun hb2=>((D 14 17 (by kernel_rfl)).1 hb2))) ?_
  refine mD 17 18 15 ?_
  refine uC 18 16 rfl (fun a u E D hk hb=>XV 30 3 3 _ (g) rfl (eE E) (by kernel_rfl)) ?_
  refine uC 19 16 rfl (fun a u E D hk hb=>QX _ Tryz.underlying3 _ _ _ rfl ((D 17 20 (by kernel_rfl)).1 hb) ((HB0.out.kept hk).fld 3 _ rfl)) ?_
  refine QY 20 rfl (fun a u hE hD hk=>zj _ rfl rfl rfl (dD hD 16) (fun hb=>VJ 51 #[.int .i64 c.side,.int .i64 1,.int .i64 2] rfl (Vq rfl rfl (dD hD 16) (jq hb)) (Jq 51 _ [.tmp 21,.const (.int .i64 1),.const (.int .i64 2)] _ [.int .i64 c.side,.int .i64 1,.int .i64 2] Tryz.func51 (by kernel_rfl) (by kernel_rfl) rfl (show [a.eval (.tmp 21),a.eval (.const (.int .i64 1)),a.eval (.const (.int .i64 2))]=[.int .i64 c.side,.int .i64 1,.int .i64 2] from (by rw [show a.eval (.tmp 21)=.int .i64 c.side from ((hD 18 21 (by kernel_rfl)).1 hb)] <;> rfl)) u) (in_any _ _ _ u))) ?_
  refine uC 21 16 rfl (fun a u E D hk hb=>Yj _ _ (rng c.side 1 2) rfl ((D 19 22 (by kernel_rfl)).1 hb)) ?_
  refine sW 22 rfl (fun a u E D hk=>VQ _ _ _ ((((!(rng c.tr 0 31)) || (!(rng c.firm 0 7))) || (!(rng c.id 0 1073741824)))) ((!(rng c.side 1 2))) rfl (dD D 16) rfl (fun hb2=>((D 20 23 (by kernel_rfl)).1 hb2))) ?_
  refine mD 23 24 21 ?_
  refine uC 24 22 rfl (fun a u E D hk hb=>XV 30 4 4 _ (g) rfl (eE E) (by kernel_rfl)) ?_
  refine uC 25 22 rfl (fun a u E D hk hb=>QX _ Tryz.underlying3 _ _ _ rfl ((D 23 26 (by kernel_rfl)).1 hb) ((HB0.out.kept hk).fld 4 _ rfl)) ?_
  refine QY 26 rfl (fun a u hE hD hk=>zj _ rfl rfl rfl (dD hD 22) (fun hb=>VJ 51 #[.int .i64 c.k,.int .i64 1,.int .i64 5] rfl (Vq rfl rfl (dD hD 22) (jq hb)) (Jq 51 _ [.tmp 27,.const (.int .i64 1),.const (.int .i64 5)] _ [.int .i64 c.k,.int .i64 1,.int .i64 5] Tryz.func51 (by kernel_rfl) (by kernel_rfl) rfl (show [a.eval (.tmp 27),a.eval (.const (.int .i64 1)),a.eval (.const (.int .i64 5))]=[.int .i64 c.k,.int .i64 1,.int .i64 5] from (by rw [show a.eval (.tmp 27)=.int .i64 c.k from ((hD 24 27 (by kernel_rfl)).1 hb)] <;> rfl)) u) (in_any _ _ _ u))) ?_
  refine uC 27 22 rfl (fun a u E D hk hb=>Yj _ _ (rng c.k 1 5) rfl ((D 25 28 (by kernel_rfl)).1 hb)) ?_
  refine aS 28 rfl (fun a u E D hk=>VQ _ _ _ (((((!(rng c.tr 0 31)) || (!(rng c.firm 0 7))) || (!(rng c.id 0 1073741824))) || (!(rng c.side 1 2)))) ((!(rng c.k 1 5))) rfl (dD D 22) rfl (fun hb2=>((D 26 29 (by kernel_rfl)).1 hb2))) HA.out ?_
  exact fz
 intro gv w1 hV k1
 simp only [Fz7]
 rw [gQ hV 27 30 (.bool bA)]
 clear hV
 have HB1:=Kj (HB0.out.kept k1)
 have kw1:=kw0.trans k1
 clear k1 kw0 HB0
 cases bA with
 | true=>
  have he:c.err=1:=by
   unfold Ord.err
   have hA:=HA.out
   simp [rng] at hA
   rw [if_neg]
   rw [Uj]
   omega
  have HE:=Kj he
  clear he
  go_wp2
  go_ret
  exact ⟨_,rfl,by rw [HE.out];rfl,kw1⟩
 | false=>
  obtain ⟨bB,hB⟩:∃ b,(((!rng c.qty 1 1048576) || (!rng c.shw 0 c.qty)) || (!rng c.stop 0 1048576))=b:=⟨_,rfl⟩
  have HB:=Kj hB
  clear hB
  go_upto_region 3 with fail
  refine wT 18 [pE g 6,iE c.qty,bE (rng c.qty 1 1048576),bE (!(rng c.qty 1 1048576)),bE (!(rng c.qty 1 1048576)),.cond (!(!(rng c.qty 1 1048576))) (pE g 7),.cond (!(!(rng c.qty 1 1048576))) (iE c.shw),.cond (!(!(rng c.qty 1 1048576))) (pE g 6),.cond (!(!(rng c.qty 1 1048576))) (iE c.qty),.cond (!(!(rng c.qty 1 1048576))) (bE (rng c.shw 0 c.qty)),.cond (!(!(rng c.qty 1 1048576))) (bE (!(rng c.shw 0 c.qty))),bE ((!(rng c.qty 1 1048576)) || (!(rng c.shw 0 c.qty))),bE ((!(rng c.qty 1 1048576)) || (!(rng c.shw 0 c.qty))),.cond (!((!(rng c.qty 1 1048576)) || (!(rng c.shw 0 c.qty)))) (pE g 8),.cond (!((!(rng c.qty 1 1048576)) || (!(rng c.shw 0 c.qty)))) (iE c.stop),.cond (!((!(rng c.qty 1 1048576)) || (!(rng c.shw 0 c.qty)))) (bE (rng c.stop 0 1048576)),.cond (!((!(rng c.qty 1 1048576)) || (!(rng c.shw 0 c.qty)))) (bE (!(rng c.stop 0 1048576))),bE bB] [31,32,33,34,35,36,37,38,39,40,41,42,43,44,45,46,47,48] ?_ ?_
  ·refine sW 1 rfl (fun a u E D hk=>XV 30 6 6 _ (g) rfl (eE E) (by kernel_rfl)) ?_
   refine lD 2 31 0 Tryz.underlying3 (fun u hk=>(HB1.out.kept hk).fld 6 _ rfl) ?_
   refine cS 3 51 [.int .i64 c.qty,.int .i64 1,.int .i64 1048576] rfl Tryz.func51 rfl (fun a u E D hk=>⟨ll (dD D 1) (ll rfl (ll rfl rfl)),in_any _ _ _ u⟩) ?_
   refine sW 4 rfl (fun a u E D hk=>Yj _ _ (rng c.qty 1 1048576) rfl (dD D 2)) ?_
   refine mD 5 34 3 ?_
   refine uC 6 4 rfl (fun a u E D hk hb=>XV 30 7 7 _ (g) rfl (eE E) (by kernel_rfl)) ?_
   refine uC 7 4 rfl (fun a u E D hk hb=>QX _ Tryz.underlying3 _ _ _ rfl ((D 5 36 (by kernel_rfl)).1 hb) ((HB1.out.kept hk).fld 7 _ rfl)) ?_
   refine uC 8 4 rfl (fun a u E D hk hb=>XV 30 6 6 _ (g) rfl (eE E) (by kernel_rfl)) ?_
   refine uC 9 4 rfl (fun a u E D hk hb=>QX _ Tryz.underlying3 _ _ _ rfl ((D 7 38 (by kernel_rfl)).1 hb) ((HB1.out.kept hk).fld 6 _ rfl)) ?_
   refine QY 10 rfl (fun a u hE hD hk=>zj _ rfl rfl rfl (dD hD 4) (fun hb=>VJ 51 #[.int .i64 c.shw,.int .i64 0,.int .i64 c.qty] rfl (Vq rfl rfl (dD hD 4) (jq hb)) (Jq 51 _ [.tmp 37,.const (.int .i64 0),.tmp 39] _ [.int .i64 c.shw,.int .i64 0,.int .i64 c.qty] Tryz.func51 (by kernel_rfl) (by kernel_rfl) rfl (show [a.eval (.tmp 37),a.eval (.const (.int .i64 0)),a.eval (.tmp 39)]=[.int .i64 c.shw,.int .i64 0,.int .i64 c.qty] from (by rw [show a.eval (.tmp 37)=.int .i64 c.shw from ((hD 6 37 (by kernel_rfl)).1 hb),show a.eval (.tmp 39)=.int .i64 c.qty from ((hD 8 39 (by kernel_rfl)).1 hb)] <;> rfl)) u) (in_any _ _ _ u))) ?_
   refine uC 11 4 rfl (fun a u E D hk hb=>Yj _ _ (rng c.shw 0 c.qty) rfl ((D 9 40 (by kernel_rfl)).1 hb)) ?_
   refine sW 12 rfl (fun a u E D hk=>VQ _ _ _ ((!(rng c.qty 1 1048576))) ((!(rng c.shw 0 c.qty))) rfl (dD D 4) rfl (fun hb2=>((D 10 41 (by kernel_rfl)).1 hb2))) ?_
   refine mD 13 42 11 ?_
   refine uC 14 12 rfl (fun a u E D hk hb=>XV 30 8 8 _ (g) rfl (eE E) (by kernel_rfl)) ?_
   refine uC 15 12 rfl (fun a u E D hk hb=>QX _ Tryz.underlying3 _ _ _ rfl ((D 13 44 (by kernel_rfl)).1 hb) ((HB1.out.kept hk).fld 8 _ rfl)) ?_
   refine QY 16 rfl (fun a u hE hD hk=>zj _ rfl rfl rfl (dD hD 12) (fun hb=>VJ 51 #[.int .i64 c.stop,.int .i64 0,.int .i64 1048576] rfl (Vq rfl rfl (dD hD 12) (jq hb)) (Jq 51 _ [.tmp 45,.const (.int .i64 0),.const (.int .i64 1048576)] _ [.int .i64 c.stop,.int .i64 0,.int .i64 1048576] Tryz.func51 (by kernel_rfl) (by kernel_rfl) rfl (show [a.eval (.tmp 45),a.eval (.const (.int .i64 0)),a.eval (.const (.int .i64 1048576))]=[.int .i64 c.stop,.int .i64 0,.int .i64 1048576] from (by rw [show a.eval (.tmp 45)=.int .i64 c.stop from ((hD 14 45 (by kernel_rfl)).1 hb)] <;> rfl)) u) (in_any _ _ _ u))) ?_
   refine uC 17 12 rfl (fun a u E D hk hb=>Yj _ _ (rng c.stop 0 1048576) rfl ((D 15 46 (by kernel_rfl)).1 hb)) ?_
   refine aS 18 rfl (fun a u E D hk=>VQ _ _ _ (((!(rng c.qty 1 1048576)) || (!(rng c.shw 0 c.qty)))) ((!(rng c.stop 0 1048576))) rfl (dD D 12) rfl (fun hb2=>((D 16 47 (by kernel_rfl)).1 hb2))) HB.out ?_
   exact fz
  intro gv w2 hV k2
  simp only [Fz7]
  rw [gQ hV 17 48 (.bool bB)]
  clear hV
  have HB2:=Kj (HB1.out.kept k2)
  have kw2:=kw1.trans k2
  clear k2 kw1 HB1
  cases bB with
  | true=>
   have he:c.err=1:=by
    unfold Ord.err
    have hA:=HA.out
    have hB:=HB.out
    simp [rng] at hA hB
    rw [if_neg]
    rw [Uj]
    omega
   have HE:=Kj he
   clear he
   go_wp2
   go_ret
   exact ⟨_,rfl,by rw [HE.out];rfl,kw2⟩
  | false=>
   obtain ⟨bK,hK⟩:∃ b,decide (c.k=2)=b:=⟨_,rfl⟩
   have HK:=Kj hK
   clear hK
   go_upto_region 5 with fail
   refine wE 3 [pV g 4,iV c.k,bV bK] [49,50,51] ?_ ?_
   ·refine sW 1 rfl (fun a u E D hk=>XV 30 4 4 _ (g) rfl (eE E) (by kernel_rfl)) ?_
    refine lD 2 49 0 Tryz.underlying3 (fun u hk=>(HB2.out.kept hk).fld 4 _ rfl) ?_
    refine aS 3 rfl (fun a u E D hk=>JU rfl (dD D 1) rfl) HK.out ?_
    exact fz
   intro w3 k3
   simp only [F8]
   have HB3:=Kj (HB2.out.kept k3)
   have kw3:=kw2.trans k3
   clear k3 kw2 HB2
   cases bK with
   | true=>
    obtain ⟨bM,hM⟩:∃ b,(decide (c.price≠0) || decide (c.shw≠0))=b:=⟨_,rfl⟩
    have HM:=Kj hM
    clear hM
    go_upto_region 6 with fail
    refine wT 8 [pE g 5,iE c.price,bE (decide ((c.price:Int)≠(0:Int))),bE (decide ((c.price:Int)≠(0:Int))),.cond (!(decide ((c.price:Int)≠(0:Int)))) (pE g 7),.cond (!(decide ((c.price:Int)≠(0:Int)))) (iE c.shw),.cond (!(decide ((c.price:Int)≠(0:Int)))) (bE (decide ((c.shw:Int)≠(0:Int)))),bE bM] [52,53,54,55,56,57,58,59] ?_ ?_
    ·refine sW 1 rfl (fun a u E D hk=>XV 30 5 5 _ (g) rfl (eE E) (by kernel_rfl)) ?_
     refine lD 2 52 0 Tryz.underlying3 (fun u hk=>(HB3.out.kept hk).fld 5 _ rfl) ?_
     refine sW 3 rfl (fun a u E D hk=>YZ rfl (dD D 1) rfl) ?_
     refine mD 4 54 2 ?_
     refine uC 5 3 rfl (fun a u E D hk hb=>XV 30 7 7 _ (g) rfl (eE E) (by kernel_rfl)) ?_
     refine uC 6 3 rfl (fun a u E D hk hb=>QX _ Tryz.underlying3 _ _ _ rfl ((D 4 56 (by kernel_rfl)).1 hb) ((HB3.out.kept hk).fld 7 _ rfl)) ?_
     refine uC 7 3 rfl (fun a u E D hk hb=>YZ rfl ((D 5 57 (by kernel_rfl)).1 hb) rfl) ?_
     refine aS 8 rfl (fun a u E D hk=>VQ _ _ _ ((decide ((c.price:Int)≠(0:Int)))) ((decide ((c.shw:Int)≠(0:Int)))) rfl (dD D 3) rfl (fun hb2=>((D 6 58 (by kernel_rfl)).1 hb2))) HM.out ?_
     exact fz
    intro gv w4 hV k4
    simp only [Fz7]
    rw [gQ hV 7 59 (.bool bM)]
    clear hV
    have HB4:=Kj (HB3.out.kept k4)
    have kw4:=kw3.trans k4
    clear k4 kw3 HB3
    cases bM with
    | true=>
     have he:c.err=1:=by
      unfold Ord.err
      have hA:=HA.out
      have hB:=HB.out
      have hK:=HK.out
      have hM:=HM.out
      simp [rng] at hA hB hK hM
      rw [if_neg]
      rw [Uj]
      omega
     have HE:=Kj he
     clear he
     go_wp2
     go_ret
     exact ⟨_,rfl,by rw [HE.out];rfl,kw4⟩
    | false=>
     obtain ⟨bS,hS⟩:∃ b,((decide (c.shw≠0) && decide (c.k≠1)) && decide (c.k≠5))=b:=⟨_,rfl⟩
     have HS:=Kj hS
     clear hS
     go_upto_region 10 with fail
     refine wT 13 [pE g 7,iE c.shw,bE (decide ((c.shw:Int)≠(0:Int))),bE (decide ((c.shw:Int)≠(0:Int))),.cond (decide ((c.shw:Int)≠(0:Int))) (pE g 4),.cond (decide ((c.shw:Int)≠(0:Int))) (iE c.k),.cond (decide ((c.shw:Int)≠(0:Int))) (bE (decide ((c.k:Int)≠(1:Int)))),bE ((decide ((c.shw:Int)≠(0:Int))) && (decide ((c.k:Int)≠(1:Int)))),bE ((decide ((c.shw:Int)≠(0:Int))) && (decide ((c.k:Int)≠(1:Int)))),.cond ((decide ((c.shw:Int)≠(0:Int))) && (decide ((c.k:Int)≠(1:Int)))) (pE g 4),.cond ((decide ((c.shw:Int)≠(0:Int))) && (decide ((c.k:Int)≠(1:Int)))) (iE c.k),.cond ((decide ((c.shw:Int)≠(0:Int))) && (decide ((c.k:Int)≠(1:Int)))) (bE (decide ((c.k:Int)≠(5:Int)))),bE bS] [64,65,66,67,68,69,70,71,72,73,74,75,76] ?_ ?_
     ·refine sW 1 rfl (fun a u E D hk=>XV 30 7 7 _ (g) rfl (eE E) (by kernel_rfl)) ?_
      refine lD 2 64 0 Tryz.underlying3 (fun u hk=>(HB4.out.kept hk).fld 7 _ rfl) ?_
      refine sW 3 rfl (fun a u E D hk=>YZ rfl (dD D 1) rfl) ?_
      refine mD 4 66 2 ?_
      refine iC 5 3 rfl (fun a u E D hk hb=>XV 30 4 4 _ (g) rfl (eE E) (by kernel_rfl)) ?_
      refine iC 6 3 rfl (fun a u E D hk hb=>QX _ Tryz.underlying3 _ _ _ rfl ((D 4 68 (by kernel_rfl)).1 hb) ((HB4.out.kept hk).fld 4 _ rfl)) ?_
      refine iC 7 3 rfl (fun a u E D hk hb=>YZ rfl ((D 5 69 (by kernel_rfl)).1 hb) rfl) ?_
      refine sW 8 rfl (fun a u E D hk=>Xj _ _ _ ((decide ((c.shw:Int)≠(0:Int)))) ((decide ((c.k:Int)≠(1:Int)))) rfl (dD D 3) (fun hb2=>((D 6 70 (by kernel_rfl)).1 hb2)) rfl) ?_
      refine mD 9 71 7 ?_
      refine iC 10 8 rfl (fun a u E D hk hb=>XV 30 4 4 _ (g) rfl (eE E) (by kernel_rfl)) ?_
      refine iC 11 8 rfl (fun a u E D hk hb=>QX _ Tryz.underlying3 _ _ _ rfl ((D 9 73 (by kernel_rfl)).1 hb) ((HB4.out.kept hk).fld 4 _ rfl)) ?_
      refine iC 12 8 rfl (fun a u E D hk hb=>YZ rfl ((D 10 74 (by kernel_rfl)).1 hb) rfl) ?_
      refine aS 13 rfl (fun a u E D hk=>Xj _ _ _ (((decide ((c.shw:Int)≠(0:Int))) && (decide ((c.k:Int)≠(1:Int))))) ((decide ((c.k:Int)≠(5:Int)))) rfl (dD D 8) (fun hb2=>((D 11 75 (by kernel_rfl)).1 hb2)) rfl) HS.out ?_
      exact fz
     intro gv w5 hV k5
     simp only [Fz7]
     rw [gQ hV 12 76 (.bool bS)]
     clear hV
     have HB5:=Kj (HB4.out.kept k5)
     have kw5:=kw4.trans k5
     clear k5 kw4 HB4
     cases bS with
     | true=>
      have he:c.err=1:=by
       unfold Ord.err
       have hA:=HA.out
       have hB:=HB.out
       have hK:=HK.out
       have hM:=HM.out
       have hS:=HS.out
       simp [rng] at hA hB hK hM hS
       rw [if_neg]
       rw [Uj]
       omega
      have HE:=Kj he
      clear he
      go_wp2
      go_ret
      exact ⟨_,rfl,by rw [HE.out];rfl,kw5⟩
     | false=>
      have he:c.err=0:=by
       unfold Ord.err
       have hA:=HA.out
       have hB:=HB.out
       have hK:=HK.out
       have hM:=HM.out
       have hS:=HS.out
       simp [rng] at hA hB hK hM hS
       rw [if_pos]
       rw [Uj]
       omega
      have HE:=Kj he
      clear he
      go_wp2
      go_ret
      exact ⟨_,rfl,by rw [HE.out];rfl,kw5⟩
   | false=>
    obtain ⟨bP,hP⟩:∃ b,(!rng c.price 1 1048576)=b:=⟨_,rfl⟩
    have HP:=Kj hP
    clear hP
    go_upto_region 8 with fail
    refine wE 4 [pV g 5,iV c.price,bV (rng c.price 1 1048576),bV bP] [60,61,62,63] ?_ ?_
    ·refine sW 1 rfl (fun a u E D hk=>XV 30 5 5 _ (g) rfl (eE E) (by kernel_rfl)) ?_
     refine lD 2 60 0 Tryz.underlying3 (fun u hk=>(HB3.out.kept hk).fld 5 _ rfl) ?_
     refine cS 3 51 [.int .i64 c.price,.int .i64 1,.int .i64 1048576] rfl Tryz.func51 rfl (fun a u E D hk=>⟨ll (dD D 1) (ll rfl (ll rfl rfl)),in_any _ _ _ u⟩) ?_
     refine aS 4 rfl (fun a u E D hk=>Yj _ _ (rng c.price 1 1048576) rfl (dD D 2)) HP.out ?_
     exact fz
    intro w4 k4
    simp only [F8]
    have HB4:=Kj (HB3.out.kept k4)
    have kw4:=kw3.trans k4
    clear k4 kw3 HB3
    cases bP with
    | true=>
     have he:c.err=1:=by
      unfold Ord.err
      have hA:=HA.out
      have hB:=HB.out
      have hK:=HK.out
      have hP:=HP.out
      simp [rng] at hA hB hK hP
      rw [if_neg]
      rw [Uj]
      omega
     have HE:=Kj he
     clear he
     go_wp2
     go_ret
     exact ⟨_,rfl,by rw [HE.out];rfl,kw4⟩
    | false=>
     obtain ⟨bS,hS⟩:∃ b,((decide (c.shw≠0) && decide (c.k≠1)) && decide (c.k≠5))=b:=⟨_,rfl⟩
     have HS:=Kj hS
     clear hS
     go_upto_region 10 with fail
     refine wT 13 [pE g 7,iE c.shw,bE (decide ((c.shw:Int)≠(0:Int))),bE (decide ((c.shw:Int)≠(0:Int))),.cond (decide ((c.shw:Int)≠(0:Int))) (pE g 4),.cond (decide ((c.shw:Int)≠(0:Int))) (iE c.k),.cond (decide ((c.shw:Int)≠(0:Int))) (bE (decide ((c.k:Int)≠(1:Int)))),bE ((decide ((c.shw:Int)≠(0:Int))) && (decide ((c.k:Int)≠(1:Int)))),bE ((decide ((c.shw:Int)≠(0:Int))) && (decide ((c.k:Int)≠(1:Int)))),.cond ((decide ((c.shw:Int)≠(0:Int))) && (decide ((c.k:Int)≠(1:Int)))) (pE g 4),.cond ((decide ((c.shw:Int)≠(0:Int))) && (decide ((c.k:Int)≠(1:Int)))) (iE c.k),.cond ((decide ((c.shw:Int)≠(0:Int))) && (decide ((c.k:Int)≠(1:Int)))) (bE (decide ((c.k:Int)≠(5:Int)))),bE bS] [64,65,66,67,68,69,70,71,72,73,74,75,76] ?_ ?_
     ·refine sW 1 rfl (fun a u E D hk=>XV 30 7 7 _ (g) rfl (eE E) (by kernel_rfl)) ?_
      refine lD 2 64 0 Tryz.underlying3 (fun u hk=>(HB4.out.kept hk).fld 7 _ rfl) ?_
      refine sW 3 rfl (fun a u E D hk=>YZ rfl (dD D 1) rfl) ?_
      refine mD 4 66 2 ?_
      refine iC 5 3 rfl (fun a u E D hk hb=>XV 30 4 4 _ (g) rfl (eE E) (by kernel_rfl)) ?_
      refine iC 6 3 rfl (fun a u E D hk hb=>QX _ Tryz.underlying3 _ _ _ rfl ((D 4 68 (by kernel_rfl)).1 hb) ((HB4.out.kept hk).fld 4 _ rfl)) ?_
      refine iC 7 3 rfl (fun a u E D hk hb=>YZ rfl ((D 5 69 (by kernel_rfl)).1 hb) rfl) ?_
      refine sW 8 rfl (fun a u E D hk=>Xj _ _ _ ((decide ((c.shw:Int)≠(0:Int)))) ((decide ((c.k:Int)≠(1:Int)))) rfl (dD D 3) (fun hb2=>((D 6 70 (by kernel_rfl)).1 hb2)) rfl) ?_
      refine mD 9 71 7 ?_
      refine iC 10 8 rfl (fun a u E D hk hb=>XV 30 4 4 _ (g) rfl (eE E) (by kernel_rfl)) ?_
      refine iC 11 8 rfl (fun a u E D hk hb=>QX _ Tryz.underlying3 _ _ _ rfl ((D 9 73 (by kernel_rfl)).1 hb) ((HB4.out.kept hk).fld 4 _ rfl)) ?_
      refine iC 12 8 rfl (fun a u E D hk hb=>YZ rfl ((D 10 74 (by kernel_rfl)).1 hb) rfl) ?_
      refine aS 13 rfl (fun a u E D hk=>Xj _ _ _ (((decide ((c.shw:Int)≠(0:Int))) && (decide ((c.k:Int)≠(1:Int))))) ((decide ((c.k:Int)≠(5:Int)))) rfl (dD D 8) (fun hb2=>((D 11 75 (by kernel_rfl)).1 hb2)) rfl) HS.out ?_
      exact fz
     intro gv w5 hV k5
     simp only [Fz7]
     rw [gQ hV 12 76 (.bool bS)]
     clear hV
     have HB5:=Kj (HB4.out.kept k5)
     have kw5:=kw4.trans k5
     clear k5 kw4 HB4
     cases bS with
     | true=>
      have he:c.err=1:=by
       unfold Ord.err
       have hA:=HA.out
       have hB:=HB.out
       have hK:=HK.out
       have hP:=HP.out
       have hS:=HS.out
       simp [rng] at hA hB hK hP hS
       rw [if_neg]
       rw [Uj]
       omega
      have HE:=Kj he
      clear he
      go_wp2
      go_ret
      exact ⟨_,rfl,by rw [HE.out];rfl,kw5⟩
     | false=>
      have he:c.err=0:=by
       unfold Ord.err
       have hA:=HA.out
       have hB:=HB.out
       have hK:=HK.out
       have hP:=HP.out
       have hS:=HS.out
       simp [rng] at hA hB hK hP hS
       rw [if_pos]
       rw [Uj]
       omega
      have HE:=Kj he
      clear he
      go_wp2
      go_ret
      exact ⟨_,rfl,by rw [HE.out];rfl,kw5⟩
end Go.Proofs.YtlbeibapbkccfaaGreat
