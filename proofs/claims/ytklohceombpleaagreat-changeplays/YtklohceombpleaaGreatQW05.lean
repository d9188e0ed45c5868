/-
 Laws and contracts that the walks rest on, part 5. No condition.
-/
import Derived.Test.YtklohceombpleaaGreatQW04
set_option linter.unusedVariables false
set_option maxRecDepth 100000
set_option maxHeartbeats 6400000
namespace Go.Proofs.YtklohceombpleaaGreat
open Go.RowKit
variable {pr:Int}
theorem rless2_any (w:World) (F:Nat→Prop) (p:Nat) (X:List Ent) (t i q:Int) (h:Lvl pr 100 102 w F p X) (aC:X.length≤100000000):Calls Tryz.prog 69 #[.pointer (some ⟨p,0,none⟩),.int .i64 t,.int .i64 i,.int .i64 q] w fun r w'=>∃ F',r=.returned (.bool (ZQ t i q X).1)∧Lvl pr 100 102 w' F' p (ZQ t i q X).2∧Grow w F F'∧Keep F w w'∧((ZQ t i q X).1=false→Kept w w'):=by
 have HL:=Kj h
 obtain ⟨h1,h2,v,hB,hS,h5⟩:=h
 obtain ⟨n,hn⟩:∃ n,X.length=n:=⟨_,rfl⟩
 rw [hn] at hS aC
 have HN:=Kj hn
 have HB:=Kj hB
 have HS:=Kj hS
 have H2:=Kj h2
 have H1:=Kj h1
 clear hB hS h5 h1 h2 hn
 go_enter Tryz.func69,Tryz.ntmps69
 go_upto_region 1 with fail
 refine wA 6 [pV p 0,pV p 0,pV p 1,v,iV (n:Int),iV 0] [12,13,14,15,16,17] (nS 3 (sV rfl (fun a u E D hk=>Qx _ _ Tryz.underlying98 _ _ _ rfl (dD D 2) (by rw [(HB.out.kept hk).cell];rfl))) (nS 4 (sV rfl (fun a u E D hk=>Jx _ slR _ _ _ _ rfl (dD D 3) HS.out)) nZ)) ?_
 intro w0 k0
 simp only [F8]
 go_wp2_with fail
 go_loopw [17] (fun z wr=>∃ (k:Nat),k≤n∧z=.int .i64 (k:Int)∧Hid (∀ (j:Nat) (x:Ent),j<k→X[j]?=some x→x.is t i=false)∧Kept w wr) (fun z _=>n-(intOf z).toNat)
 case atStart=>exact ⟨0,Nat.zero_le _,rfl,fun j x hj=>(by omega),k0⟩
 obtain ⟨k,hkn,rfl,HM,a1⟩:=hrel
 by_cases hlt:k<n
 ·obtain ⟨g,off,c,rfl⟩:=HS.out.some_ (by omega)
  obtain ⟨e,he⟩:∃ e,X[k]?=some e:=⟨X[k]'(by rw [HN.out];exact hlt),List.getElem?_eq_getElem (by rw [HN.out];exact hlt)⟩
  have am:=Kj he
  have HE:Hid (wr.rangeAt g (off+k*10) e.cells):=JJ (HS.out.rng k e he) a1
  clear he
  go_upto_region 3 with fail
  refine tAp 4 [iK (k:Int),pK g (off+k*10),.v (e.v),.k (.fresh wr.heap.size 102 XY.cells)] (nS 1 (ixV slR (off) n k ((k:Int)) (hlt)) (nS 2 (ldS Tryz.underlying102 (fun u hk=>JJ HE.out hk) (by rw [e.len10];exact szR)) (nS 3 (nV rfl (fun a u E D hk=>⟨_,_,QX 102 XY.cells rfl zR,⟨_,rfl,hk.size,Blk.new u _ _⟩,((Keep.refl _ u).alloc _)⟩)) nZ))) ?_
  intro gv w1 hV k1
  rw [dq 4 [19,20,21,10]]
  simp only [Fz7]
  rw [gQ hV 0 19 (.int .i64 (k:Int))]
  have af:(.fresh wr.heap.size 102 XY.cells:Kn).p (gv 10) w1:=hV 3 10 (by kernel_rfl)
  generalize gv 10=v10 at af ⊢
  rw [gQ hV 2 21 e.v]
  clear hV
  obtain ⟨H,rfl,hb9,ay⟩:=af
  refine aT (.int .i64 (k:Int)) ?_
  refine YV 102 H 102 XY.cells e.cells _ _ rfl rfl (by kernel_rfl) (by kernel_rfl) ay (by rw [Ent.len10];exact szR) (by rw [Ent.len10,Ent.len10]) (Ent.one _) ?_
  intro w2 a8 aE aK
  simp only [Act.put,sA,sS,sZ]
  refine Kx ?_
  have ao:Kept wr w2:=k1.trans' aE (by omega)
  have a9:=a1.trans ao
  have a7:=Kj a8
  have J:=Kj (JX a8)
  have z2:=ao.size
  have zr:=a1.size
  have l9:=a8.lt
  clear ay a8 aE k1 HE aK
  clear ao a1
  by_cases hm:e.is t i=true
  ·have a2:Hid (X[Wj t i X]?=some e∧Wj t i X=k):=by
    have h1:=idx_of HM.out am.out hm
    exact ⟨by rw [h1];exact am.out,h1⟩
   clear HM
   go_upto_region 4 with fail
   refine tA 12 [pK H 0,pK H 0,iK e.o.tr,iK t,bK (decide ((e.o.tr:Int)=(t:Int))),bK (decide ((e.o.tr:Int)=(t:Int))),.k (.cond (decide ((e.o.tr:Int)=(t:Int))) (pE H 0)),.k (.cond (decide ((e.o.tr:Int)=(t:Int))) (pE H 1)),.k (.cond (decide ((e.o.tr:Int)=(t:Int))) (iE e.o.id)),.k (.cond (decide ((e.o.tr:Int)=(t:Int))) (iE i)),.k (.cond (decide ((e.o.tr:Int)=(t:Int))) (bE (decide ((e.o.id:Int)=(i:Int))))),bK true] [22,23,24,25,26,27,28,29,30,31,32,33] (nS 2 (ldR J.out 0) (nS 4 (sV rfl (fun a u E D hk=>JY rfl (dD D 2) (dD D 3))) (nS 6 (fS (iC 7 5 rfl (fun a u E D hk U=>Jz 102 0 0 _ (H) (0) (0) rfl (eE E) (by kernel_rfl) rfl) fz)) (nS 7 (fS (iC 8 5 rfl (fun a u E D hk U=>Jz 35 1 1 _ (H) (0) (1) rfl ((D 6 28 (by kernel_rfl)).1 U) (by kernel_rfl) rfl) fz)) (nS 8 (fS (iC 9 5 rfl (fun a u E D hk U=>JZ _ Tryz.underlying3 _ _ _ rfl ((D 7 29 (by kernel_rfl)).1 U) (Xx (JJ J.out hk) 1 _ rfl)) fz)) (nS 9 (fS (iC 10 5 rfl (fun a u E D hk U=>Jq _ _ rfl (eE E)) fz)) (nS 10 (fS (iC 11 5 rfl (fun a u E D hk U=>JY rfl ((D 8 30 (by kernel_rfl)).1 U) ((D 9 31 (by kernel_rfl)).1 U)) fz)) (nS 11 (aV rfl (fun a u E D hk=>Qj _ _ _ ((decide ((e.o.tr:Int)=(t:Int)))) ((decide ((e.o.id:Int)=(i:Int)))) rfl (dD D 5) (fun aq=>((D 10 32 (by kernel_rfl)).1 aq)) rfl) hm) nZ)))))))) ?_
   intro gv w3 hV k3
   simp only [Fz7]
   rw [gQ hV 11 33 (.bool true)]
   clear hV
   have a4:=a9.trans k3
   have a6:=Kj (a7.out.kept k3)
   have O:=Kj (JJ J.out k3)
   have z3:=k3.size
   have al:=k3
   clear a7 J k3 a9
   clear hm
   by_cases hq1:1≤q
   ·by_cases hq2:q≤e.o.qty
    ·have HR:Hid (ZQ t i q X=(true,X.set k ⟨e.o.q q,mn e.n q⟩)):=by
      show _=_
      unfold ZQ
      rw [a2.out.1]
      simp only
      rw [if_pos ⟨hq1,hq2⟩,a2.out.2]
     go_upto_region 5 with fail
     refine wA 9 [iV q,bV false,bV false,iV q,pV H 0,pV H 6,iV e.o.qty,bV false,bV false] [34,35,36,37,38,39,40,41,42] (nS 1 (aV rfl (fun a u E D hk=>YU rfl (dD D 0) rfl) (Ku (by omega))) (nS 6 (ldR O.out 6) (nS 7 (aV rfl (fun a u E D hk=>QZ rfl (dD D 3) (dD D 6)) (Ku (by omega))) nZ))) ?_
     intro w4 k4
     simp only [F8]
     have aG:=Kj (a6.out.kept k4)
     have ab:=Kj (JJ O.out k4)
     have N:=a4.trans k4
     have z4:=k4.size
     clear a6 O k4 a4 hq1 hq2 a2 al
     go_upto_region 7 with fail
     refine wAp 5 [iV q,pV H 9,iV e.n,iV q,iV (mn e.n q)] [43,44,45,46,47] (nS 2 (ldR ab.out 9) (nS 4 (sV rfl (fun a u E D hk=>jW _ _ _ e.n q (mn e.n q) rfl (dD D 2) (dD D 3) rfl)) nZ)) ?_
     intro w5 k5
     simp only [F8]
     refine aT (.pointer (some ⟨H,0,none⟩)) ?_
     refine aT (.pointer (some ⟨H,6,none⟩)) ?_
     refine ZJ 3 H 6 102 _ (.int .i64 q) _ _ rfl rfl (by kernel_rfl) (by kernel_rfl) (by kernel_rfl) rfl rfl (aG.out.kept k5) (by rw [Ent.len10];omega) ?_
     intro w6 av aD hs6
     refine aT (.pointer (some ⟨H,9,none⟩)) ?_
     refine ZJ 3 H 9 102 _ (.int .i64 (mn e.n q)) _ _ rfl rfl (by kernel_rfl) (by kernel_rfl) (by kernel_rfl) rfl rfl av (by rw [List.length_set,Ent.len10];omega) ?_
     intro w7 aB aH hs7
     simp only [Act.put,sA,sS,sZ]
     refine Kx ?_
     have aj:Hid (w7.rangeAt H 0 (Ent.mk (e.o.q q) (mn e.n q)).cells):=JX (show Blk w7 H _ (Ent.mk (e.o.q q) (mn e.n q)).cells from aB)
     have K7:Keep (·=H) w4 w7:=((Keep.mono (T:=(·=H)) k5 (fun _ _ h=>h.elim)).trans aD (fun _ _ h=>h)).trans aH (fun _ _ h=>h)
     have a5:Kept w w7:=N.trans' K7 (by omega)
     have ak:=Kj (HB.out.kept a5)
     have aF:=Kj (HS.out.kept a5)
     have z7:=a5.size
     have z47:=K7.size
     clear av aB aD aH K7 k5 aG ab N
     obtain ⟨e2,ax⟩:∃ e2,Ent.mk (e.o.q q) (mn e.n q)=e2:=⟨_,rfl⟩
     rw [ax] at aj HR
     clear ax
     go_upto_region 8 with fail
     refine tAp 6 [.k (.emp w7.heap.size 102),pK p 0,pK p 0,pK p 1,.v (.slice (some ⟨g,off,none⟩) n c),.k (.sl w7.heap.size 102 10 n (ents X))] (nS 0 (nV rfl (fun a u E D hk=>⟨_,_,Uq 98 102 10 rfl slR.und szR,⟨_,rfl,hk.size,Blk.new u _ _⟩,((Keep.refl _ u).alloc _)⟩)) (nS 4 (sV rfl (fun a u E D hk=>Qx _ _ Tryz.underlying98 _ _ _ rfl (dD D 3) (by rw [(ak.out.kept hk).cell];rfl))) (nS 5 ((fun a u hE hD hk=>(by obtain ⟨v',u',hr,hp,aM⟩:=Zx slR _ u (a.eval (.tmp 51)) (.slice (some ⟨g,off,none⟩) n c) n w7.heap.size _ ((dD hD 0)) (aF.out.kept hk) (JJj _) (by omega) (by omega) hk.size;exact jV v' u' rfl (JQ rfl _) (QV slR (.tmp 51) (.tmp 55) _ _ rfl rfl (dD hD 4) v' u' hr) hp aM))) nZ))) ?_
     intro gv w8 hV k8
     rw [dq 6 [51,52,53,54,55,56]]
     simp only [Fz7]
     have a3:(.sl w7.heap.size 102 10 n (ents X):Kn).p (gv 56) w8:=hV 5 56 (by kernel_rfl)
     generalize gv 56=v56 at a3 ⊢
     clear hV
     refine aT (v56) ?_
     simp only [Act.put,sA,sS,sZ]
     refine Kx ?_
     have ah:=Kj a3.1
     have aA:=Kj a3.2
     have aw:=Kj (JJ aj.out k8)
     have aJ:=Kj (ak.out.kept k8)
     have ar:=a5.trans k8
     clear a3 k8 a5 aj ak aF
     obtain ⟨g2,I,c2,rfl⟩:=ah.out.some_ (by omega)
     have hg2:w7.heap.size≤g2:=aA.out g2 rfl
     go_upto_region 9 with fail
     refine wAp 4 [.slice (some ⟨g2,I,none⟩) n c2,iV (k:Int),e2.v,pV g2 (I+k*10)] [57,58,59,60] (nS 2 (ldS Tryz.underlying102 (fun u hk=>JJ aw.out hk) (by rw [e2.len10];exact szR)) (nS 3 (ixV slR (I) n k ((k:Int)) (hlt)) nZ)) ?_
     intro w9 k9
     simp only [F8]
     refine l_rowS g2 I n c2 k X e2 ⟨g2,I+k*10,none⟩ _ _ rfl rfl (by kernel_rfl) (by kernel_rfl) rfl (ah.out.kept k9) HN.out.symm hlt ?_
     intro aL ag aa hs10
     simp only [Act.put]
     refine Kx ?_
     have hpl:=H2.out p H1.out
     have ac:Kept w aL:=(ar.trans k9).trans' aa (by omega)
     have au:=Kj (HB.out.kept ac)
     have az:=Kj ag
     clear ag aa k9 ah aw aJ ar
     go_upto_region 10 with fail
     refine wAp 4 [pV p 0,.slice (some ⟨g2,I,none⟩) n c2,pV p 0,pV p 1] [61,62,63,64] nZ ?_
     intro w11 an
     simp only [F8]
     refine ZJ 98 p 1 100 _ (.slice (some ⟨g2,I,none⟩) n c2) _ _ rfl rfl (by kernel_rfl) (by kernel_rfl) (by kernel_rfl) rfl rfl (au.out.kept an) (by simp) ?_
     intro w12 ae ad hs12
     simp only [Act.put]
     refine Kx ?_
     obtain ⟨F',q1,q2,q3⟩:=HL.out.renew (ac.trans an) z7 (Y:=X.set k e2) (v':=.slice (some ⟨g2,I,none⟩) n c2) (by rw [List.length_set,HN.out];exact az.out.kept an) aA.out (by simpa using ae) ad
     have HF:=Kj q1
     have HG:=Kj q2
     clear q1 q2 ae ad
     go_wp2
     go_ret
     exact ⟨F',by rw [HR.out];rfl,by rw [HR.out];exact HF.out,HG.out,q3,fun h=>by rw [HR.out] at h;cases h⟩
    have HR:Hid (ZQ t i q X=(false,X)):=by
     show _=_
     unfold ZQ
     rw [a2.out.1]
     simp only
     rw [if_neg (fun h=>hq2 h.2)]
    go_upto_region 5 with fail
    refine wA 9 [iV q,bV false,bV false,iV q,pV H 0,pV H 6,iV e.o.qty,bV true,bV true] [34,35,36,37,38,39,40,41,42] (nS 1 (aV rfl (fun a u E D hk=>YU rfl (dD D 0) rfl) (Ku (by omega))) (nS 6 (ldR O.out 6) (nS 7 (aV rfl (fun a u E D hk=>QZ rfl (dD D 3) (dD D 6)) (Ky (by omega))) nZ))) ?_
    intro w4 k4
    simp only [F8]
    have N:=a4.trans k4
    clear a2 hq1 hq2
    go_wp2
    go_ret
    exact ⟨F,by rw [HR.out];rfl,by rw [HR.out];exact HL.out.kept N,Grow.refl _ _,Keep.mono (T:=F) N (fun _ _ h=>h.elim),fun _=>N⟩
   have HR:Hid (ZQ t i q X=(false,X)):=by
    show _=_
    unfold ZQ
    rw [a2.out.1]
    simp only
    rw [if_neg (fun h=>hq1 h.1)]
   go_upto_region 5 with fail
   refine wA 9 [iV q,bV true,bV true,undef,undef,undef,undef,undef,bV true] [34,35,36,37,38,39,40,41,42] (nS 1 (aV rfl (fun a u E D hk=>YU rfl (dD D 0) rfl) (Ky (by omega))) nZ) ?_
   intro w4 k4
   simp only [F8]
   have N:=a4.trans k4
   clear a2 hq1
   go_wp2
   go_ret
   exact ⟨F,by rw [HR.out];rfl,by rw [HR.out];exact HL.out.kept N,Grow.refl _ _,Keep.mono (T:=F) N (fun _ _ h=>h.elim),fun _=>N⟩
  have ai:e.is t i=false:=by simpa using hm
  have aI:Hid (∀ (j:Nat) (x:Ent),j<k+1→X[j]?=some x→x.is t i=false):=by
   intro j x hj hx
   by_cases hjk:j=k
   ·subst hjk
    rw [am.out] at hx
    injection hx with hx
    rw [← hx]
    exact ai
   exact HM.out j x (by omega) hx
  clear hm HM
  go_upto_region 4 with fail
  refine tA 12 [pK H 0,pK H 0,iK e.o.tr,iK t,bK (decide ((e.o.tr:Int)=(t:Int))),bK (decide ((e.o.tr:Int)=(t:Int))),.k (.cond (decide ((e.o.tr:Int)=(t:Int))) (pE H 0)),.k (.cond (decide ((e.o.tr:Int)=(t:Int))) (pE H 1)),.k (.cond (decide ((e.o.tr:Int)=(t:Int))) (iE e.o.id)),.k (.cond (decide ((e.o.tr:Int)=(t:Int))) (iE i)),.k (.cond (decide ((e.o.tr:Int)=(t:Int))) (bE (decide ((e.o.id:Int)=(i:Int))))),bK false] [22,23,24,25,26,27,28,29,30,31,32,33] (nS 2 (ldR J.out 0) (nS 4 (sV rfl (fun a u E D hk=>JY rfl (dD D 2) (dD D 3))) (nS 6 (fS (iC 7 5 rfl (fun a u E D hk U=>Jz 102 0 0 _ (H) (0) (0) rfl (eE E) (by kernel_rfl) rfl) fz)) (nS 7 (fS (iC 8 5 rfl (fun a u E D hk U=>Jz 35 1 1 _ (H) (0) (1) rfl ((D 6 28 (by kernel_rfl)).1 U) (by kernel_rfl) rfl) fz)) (nS 8 (fS (iC 9 5 rfl (fun a u E D hk U=>JZ _ Tryz.underlying3 _ _ _ rfl ((D 7 29 (by kernel_rfl)).1 U) (Xx (JJ J.out hk) 1 _ rfl)) fz)) (nS 9 (fS (iC 10 5 rfl (fun a u E D hk U=>Jq _ _ rfl (eE E)) fz)) (nS 10 (fS (iC 11 5 rfl (fun a u E D hk U=>JY rfl ((D 8 30 (by kernel_rfl)).1 U) ((D 9 31 (by kernel_rfl)).1 U)) fz)) (nS 11 (aV rfl (fun a u E D hk=>Qj _ _ _ ((decide ((e.o.tr:Int)=(t:Int)))) ((decide ((e.o.id:Int)=(i:Int)))) rfl (dD D 5) (fun aq=>((D 10 32 (by kernel_rfl)).1 aq)) rfl) ai) nZ)))))))) ?_
  intro gv w3 hV k3
  simp only [Fz7]
  rw [gQ hV 11 33 (.bool false)]
  clear hV
  have a4:=a9.trans k3
  have a6:=Kj (a7.out.kept k3)
  have O:=Kj (JJ J.out k3)
  have z3:=k3.size
  have al:=k3
  clear a7 J k3 a9
  clear ai a6 O al
  go_wp2
  exact ⟨⟨k+1,by omega,by go_num,aI,a4⟩,by simp [intOf];omega⟩
 have HR:Hid (ZQ t i q X=(false,X)):=by
  show _=_
  unfold ZQ
  rw [idx_none (fun j x hj hx=>HM.out j x (by rw [HN.out] at hj;omega) hx),List.getElem?_eq_none (Nat.le_refl _)]
 clear HM
 go_wp2
 go_ret
 exact ⟨F,by rw [HR.out];rfl,by rw [HR.out];exact HL.out.kept a1,Grow.refl _ _,Keep.mono (T:=F) a1 (fun _ _ h=>h.elim),fun _=>a1⟩
theorem rremove2_any (w:World) (F:Nat→Prop) (p:Nat) (X:List Ent) (t i:Int) (h:Lvl pr 100 102 w F p X) (ax:X.length≤100000000):Calls Tryz.prog 91 #[.pointer (some ⟨p,0,none⟩),.int .i64 t,.int .i64 i] w fun r w'=>∃ F',r=.returned (.tuple #[(XW t i X).1.v,.bool (XW t i X).2.1])∧Lvl pr 100 102 w' F' p (XW t i X).2.2∧Grow w F F'∧Keep F w w'∧((XW t i X).2.1=false→Kept w w'):=by
 have HL:=Kj h
 obtain ⟨h1,h2,v,hB,hS,h5⟩:=h
 obtain ⟨n,hn⟩:∃ n,X.length=n:=⟨_,rfl⟩
 rw [hn] at hS ax
 have HN:=Kj hn
 have HB:=Kj hB
 have HS:=Kj hS
 have H2:=Kj h2
 have H1:=Kj h1
 clear hB hS h5 h1 h2 hn
 go_enter Tryz.func91,Tryz.ntmps91
 go_upto_region 0 with fail
 refine tAp 2 [.k (.fresh w.heap.size 35 JV.cells),bK false] (nS 0 (nV rfl (fun a u E D hk=>⟨_,_,QX 35 JV.cells rfl zO,⟨_,rfl,hk.size,Blk.new u _ _⟩,((Keep.refl _ u).alloc _)⟩)) nZ) ?_
 intro gv aF N ab
 rw [dq 2 [6,7]]
 simp only [Fz7]
 have aD:(.fresh w.heap.size 35 JV.cells:Kn).p (gv 6) aF:=N 0 6 (by kernel_rfl)
 generalize gv 6=v6 at aD ⊢
 rw [gQ N 1 7 (.bool false)]
 clear N
 obtain ⟨b6,rfl,hb6,ak⟩:=aD
 refine Kx ?_
 have aU:=Kj (HB.out.kept ab)
 have b4:=Kj ak
 have l6:=ak.lt
 have z00:=ab.size
 clear ak
 go_upto_region 1 with fail
 refine wA 6 [pV p 0,pV p 0,pV p 1,v,iV (n:Int),iV 0] [10,11,12,13,14,15] (nS 3 (sV rfl (fun a u E D hk=>Qx _ _ Tryz.underlying98 _ _ _ rfl (dD D 2) (by rw [(aU.out.kept hk).cell];rfl))) (nS 4 (sV rfl (fun a u E D hk=>Jx _ slR _ _ _ _ rfl (dD D 3) HS.out)) nZ)) ?_
 intro w0 k0
 simp only [F8]
 have aM:=ab.trans k0
 clear ab
 go_wp2_with fail
 go_loopw [15] (fun q wr=>∃ (k:Nat),k≤n∧q=.int .i64 (k:Int)∧Hid (∀ (j:Nat) (x:Ent),j<k→X[j]?=some x→x.is t i=false)∧Kept w wr∧Kept aF wr) (fun q _=>n-(intOf q).toNat)
 case atStart=>exact ⟨0,Nat.zero_le _,rfl,fun j x hj=>(by omega),aM,k0⟩
 obtain ⟨k,hkn,rfl,HM,a4,a3⟩:=hrel
 have a6:=Kj (b4.out.kept a3)
 by_cases hlt:k<n
 ·obtain ⟨g,off,c,rfl⟩:=HS.out.some_ (by omega)
  obtain ⟨e,he⟩:∃ e,X[k]?=some e:=⟨X[k]'(by rw [HN.out];exact hlt),List.getElem?_eq_getElem (by rw [HN.out];exact hlt)⟩
  have ai:=Kj he
  have HE:Hid (wr.rangeAt g (off+k*10) e.cells):=JJ (HS.out.rng k e he) a4
  clear he
  go_upto_region 3 with fail
  refine tAp 4 [iK (k:Int),pK g (off+k*10),.v (e.v),.k (.fresh wr.heap.size 102 XY.cells)] (nS 1 (ixV slR (off) n k ((k:Int)) (hlt)) (nS 2 (ldS Tryz.underlying102 (fun u hk=>JJ HE.out hk) (by rw [e.len10];exact szR)) (nS 3 (nV rfl (fun a u E D hk=>⟨_,_,QX 102 XY.cells rfl zR,⟨_,rfl,hk.size,Blk.new u _ _⟩,((Keep.refl _ u).alloc _)⟩)) nZ))) ?_
  intro gv w1 N k1
  rw [dq 4 [17,18,19,9]]
  simp only [Fz7]
  rw [gQ N 0 17 (.int .i64 (k:Int))]
  have aA:(.fresh wr.heap.size 102 XY.cells:Kn).p (gv 9) w1:=N 3 9 (by kernel_rfl)
  generalize gv 9=v9 at aA ⊢
  rw [gQ N 2 19 e.v]
  clear N
  obtain ⟨O,rfl,hb9,ar⟩:=aA
  refine aT (.int .i64 (k:Int)) ?_
  refine YV 102 O 102 XY.cells e.cells _ _ rfl rfl (by kernel_rfl) (by kernel_rfl) ar (by rw [Ent.len10];exact szR) (by rw [Ent.len10,Ent.len10]) (Ent.one _) ?_
  intro w2 ac aB aQ
  simp only [Act.put,sA,sS,sZ]
  refine Kx ?_
  have a8:Kept wr w2:=k1.trans' aB (by omega)
  have ad:=a4.trans a8
  have a9:=Kj ac
  have H:=Kj (JX ac)
  have z2:=a8.size
  have zr:=a4.size
  have l9:=ac.lt
  clear ar ac aB k1 HE aQ
  have aw:=Kj (a6.out.kept a8)
  have au:=a3.trans a8
  have z02:=au.size
  clear a6 a8 a4 a3
  by_cases hm:e.is t i=true
  ·have HR:Hid (XW t i X=(e.o,true,X.eraseIdx k)):=by
    show _=_
    unfold XW
    rw [idx_of HM.out ai.out hm,ai.out]
   clear HM
   go_upto_region 4 with fail
   refine tA 12 [pK O 0,pK O 0,iK e.o.tr,iK t,bK (decide ((e.o.tr:Int)=(t:Int))),bK (decide ((e.o.tr:Int)=(t:Int))),.k (.cond (decide ((e.o.tr:Int)=(t:Int))) (pE O 0)),.k (.cond (decide ((e.o.tr:Int)=(t:Int))) (pE O 1)),.k (.cond (decide ((e.o.tr:Int)=(t:Int))) (iE e.o.id)),.k (.cond (decide ((e.o.tr:Int)=(t:Int))) (iE i)),.k (.cond (decide ((e.o.tr:Int)=(t:Int))) (bE (decide ((e.o.id:Int)=(i:Int))))),bK true] [20,21,22,23,24,25,26,27,28,29,30,31] (nS 2 (ldR H.out 0) (nS 4 (sV rfl (fun a u E D hk=>JY rfl (dD D 2) (dD D 3))) (nS 6 (fS (iC 7 5 rfl (fun a u E D hk I=>Jz 102 0 0 _ (O) (0) (0) rfl (eE E) (by kernel_rfl) rfl) fz)) (nS 7 (fS (iC 8 5 rfl (fun a u E D hk I=>Jz 35 1 1 _ (O) (0) (1) rfl ((D 6 26 (by kernel_rfl)).1 I) (by kernel_rfl) rfl) fz)) (nS 8 (fS (iC 9 5 rfl (fun a u E D hk I=>JZ _ Tryz.underlying3 _ _ _ rfl ((D 7 27 (by kernel_rfl)).1 I) (Xx (JJ H.out hk) 1 _ rfl)) fz)) (nS 9 (fS (iC 10 5 rfl (fun a u E D hk I=>Jq _ _ rfl (eE E)) fz)) (nS 10 (fS (iC 11 5 rfl (fun a u E D hk I=>JY rfl ((D 8 28 (by kernel_rfl)).1 I) ((D 9 29 (by kernel_rfl)).1 I)) fz)) (nS 11 (aV rfl (fun a u E D hk=>Qj _ _ _ ((decide ((e.o.tr:Int)=(t:Int)))) ((decide ((e.o.id:Int)=(i:Int)))) rfl (dD D 5) (fun al=>((D 10 30 (by kernel_rfl)).1 al)) rfl) hm) nZ)))))))) ?_
   intro gv w3 N k3
   simp only [Fz7]
   rw [gQ N 11 31 (.bool true)]
   clear N
   have J:=ad.trans k3
   have af:=Kj (a9.out.kept k3)
   have U:=Kj (JJ H.out k3)
   have z3:=k3.size
   have ah:=k3
   clear a9 H k3 ad
   have a5:=Kj (HS.out.kept J)
   have aa:=Kj (HB.out.kept J)
   obtain ⟨va,aC,b2,av⟩:=yU slR _ n k (by omega) _ w3 a5.out
   obtain ⟨vb,aI,aR,ay⟩:=jX slR _ n (k+1) (by omega) _ w3 a5.out
   have am:=Kj aC
   have aj:=Kj aI
   have az:Hid (∀ u,Kept w3 u→Sl u 102 10 va k (ents (X.take k))):=fun u hk=>by
    have:=av u _ (a5.out.kept hk)
    rw [show (ents X).take (k*10)=ents (X.take k) from yY Ent.cells 10 Ent.len10 _ k] at this
    exact this
   have aq:Hid (∀ u,Kept w3 u→Sl u 102 10 vb (n-(k+1)) (ents (X.drop (k+1)))):=fun u hk=>by
    have:=ay u _ (a5.out.kept hk)
    rw [show (ents X).drop ((k+1)*10)=ents (X.drop (k+1)) from Ux Ent.cells 10 Ent.len10 _ (k+1)] at this
    exact this
   have ag:((k+1:Nat):Int)=(k:Int)+1:=by omega
   rw [ag] at aj
   clear aC b2 av aI aR ay hm
   go_upto_region 5 with fail
   refine JJZ 16 [.eq (.pointer (some ⟨p,0,none⟩)),.emp w3.heap.size 102,.eq (.pointer (some ⟨p,0,none⟩)),.eq (.pointer (some ⟨p,0,none⟩)),.eq (.pointer (some ⟨p,1,none⟩)),.eq (.slice (some ⟨g,off,none⟩) n c),.eq (.int .i64 (k:Int)),.eq (va),.sl w3.heap.size 102 10 k (ents (X.take k)),.eq (.pointer (some ⟨p,0,none⟩)),.eq (.pointer (some ⟨p,0,none⟩)),.eq (.pointer (some ⟨p,1,none⟩)),.eq (.slice (some ⟨g,off,none⟩) n c),.eq (.int .i64 (k:Int)),.eq (.int .i64 ((k:Int)+1)),.eq (vb)] (.pointer (some ⟨p,0,none⟩)) ((fun v' u u'=>Sl u' 102 10 v' (k+(n-(k+1))) (ents (X.take k)++ents (X.drop (k+1)))∧(∀ b,v'.ownBlock=some b→w3.heap.size≤b)∧Keep (fun b=>w3.heap.size≤b) u u')) (by kernel_rfl) rfl rfl (by kernel_rfl) (by kernel_rfl) (t_zero (d:=32) _ rfl rfl rfl (by kernel_rfl) (by kernel_rfl)) ?_ (fun a u hE hD hk=> (by obtain ⟨v',u',hr,aW,b1,aZ⟩:=QQ slR _ u (a.eval (.tmp 40)) vb k (n-(k+1)) _ _ ((hD 8 40 (by kernel_rfl))).1 (aq.out u hk) (JJj _) (by unfold maxLen;omega) (by omega);have hq:=((hD 8 40 (by kernel_rfl))).2;exact t_last (o:=⟨some 48,_,_,_,_,_⟩) (R:=(fun v' u u'=>Sl u' 102 10 v' (k+(n-(k+1))) (ents (X.take k)++ents (X.drop (k+1)))∧(∀ b,v'.ownBlock=some b→w3.heap.size≤b)∧Keep (fun b=>w3.heap.size≤b) u u')) (m:=16) (v:=v') (w':=u') rfl (JQ rfl _) (QV slR (.tmp 40) (.tmp 47) _ vb rfl rfl (dD hD 15) v' u' hr) ⟨aW,fun b I=>(aZ b I).elim (hq b) (fun h=>Kv hk.size h),b1.mono (fun b _ I=>hq b I)⟩)) ?_
   ·refine nW 2 rfl (fun a u E D hk=>⟨_,_,Uq 98 102 10 rfl slR.und szR,⟨_,rfl,hk.size,Blk.new u _ _⟩,((Keep.refl _ u).alloc _)⟩) ?_
    refine mE 3 0 ?_
    refine nD 4 34 2 ?_
    refine fD 5 35 3 100 1 1 0 ?_
    refine sW 6 rfl (fun a u E D hk=>Qx _ _ Tryz.underlying98 _ _ _ rfl (dD D 4) (by rw [(aa.out.kept hk).cell];rfl)) ?_
    refine mE 7 8 ?_
    refine sW 8 rfl (fun a u E D hk=>WV slR _ _ _ va _ rfl (dD D 5) (dD D 6) (am.out u)) ?_
    refine UU 9 rfl (fun a u hE hD hk=>(by obtain ⟨v',u',hr,hp,b8⟩:=Zx slR _ u (a.eval (.tmp 33)) va k w3.heap.size _ ((dD hD 1)) (az.out u hk) (JJj _) (by omega) (by omega) hk.size;exact jV v' u' rfl (JQ rfl _) (QV slR (.tmp 33) (.tmp 39) _ va rfl rfl (dD hD 7) v' u' hr) hp b8)) ?_
    refine mE 10 0 ?_
    refine nD 11 41 9 ?_
    refine fD 12 42 10 100 1 1 0 ?_
    refine sW 13 rfl (fun a u E D hk=>Qx _ _ Tryz.underlying98 _ _ _ rfl (dD D 11) (by rw [(aa.out.kept hk).cell];rfl)) ?_
    refine mE 14 8 ?_
    refine sW 15 rfl (fun a u E D hk=>YQ ((k:Int)+1) rfl (dD D 13) rfl rfl (by omega) (by omega)) ?_
    refine sW 16 rfl (fun a u E D hk=>ZW slR _ _ _ vb _ rfl (dD D 12) (dD D 14) (aj.out u)) ?_
    exact fz
   intro gv w1 w4 N h0 hR aE
   rw [dq 17 [32,33,34,35,36,37,38,39,40,41,42,43,44,45,46,47,48]]
   simp only [Fz7]
   have hT:=hR 48 (by kernel_rfl)
   generalize gv 48=v48 at hT ⊢
   rw [show gv 32=.pointer (some ⟨p,0,none⟩) from h0 32 (by kernel_rfl)]
   clear N h0 hR
   obtain ⟨a1,aG,ao⟩:=hT
   have a2:=yW aE ao (Nat.le_refl _)
   have aX:=aa.out.kept a2
   refine aT (.pointer (some ⟨p,0,none⟩)) ?_
   refine aT (.pointer (some ⟨p,1,none⟩)) ?_
   refine ZJ 98 p 1 100 _ v48 _ _ rfl rfl (by kernel_rfl) (by kernel_rfl) (by kernel_rfl) (Zy a1) (Xy a1) aX (by simp) ?_
   intro w5 aH a7 hs5
   simp only [Act.put,sA,sS,sZ]
   refine Kx ?_
   have hpl:=H2.out p H1.out
   have b5:=J.size
   have HY:Hid (Sl w4 102 10 v48 (X.eraseIdx k).length (ents (X.eraseIdx k))):=by
    show Sl _ _ _ _ _ _
    rw [List.length_eraseIdx,if_pos (by rw [HN.out];exact hlt),HN.out,List.eraseIdx_eq_take_drop_succ]
    unfold ents at a1 ⊢
    rw [List.flatMap_append]
    rw [show k+(n-(k+1))=n-1 by omega] at a1
    exact a1
   obtain ⟨F',q1,q2,q3,q4⟩:=HL.out.renew2 (J.trans a2) b5 (Y:=X.eraseIdx k) HY.out aG (by simpa using aH) a7
   have aO:¬ F' b6:=fun h=>by
    rcases q4 b6 h with h1 | h1
    ·have:=H2.out b6 h1;omega
    omega
   have b0:=Kj q1
   have aN:=Kj q2
   have HF5L:Hid (∀ b,F' b→b<w5.heap.size):=q1.2.1
   have aS:=Kj (QJ (JJ U.out a2) a7 (by omega))
   have an:=Kj (((aw.out.kept ah).kept a2).keep a7 (by omega))
   have z4:=a2.size
   have z5:=a7.size
   clear a1 aG aH a7 ao aE a2 HY q1 q2 am aj az aq a5 aa af U
   go_upto_region 6 with fail
   refine wAp 2 [pV O 0,e.o.v] [51,52] (nS 1 (ldS Tryz.underlying35 (fun u hk=>xX (JJ aS.out hk)) (by rw [e.o.len9];exact JU)) nZ) ?_
   intro w6 k6
   simp only [F8]
   refine sO e.o (an.out.kept k6) ?_
   intro w7 aL aJ hs7
   refine aT (.bool true) ?_
   simp only [Act.put,sA,sS,sZ]
   refine Kx ?_
   go_wp2
   refine bodyPost_ret (Qq (p:=6) (q:=7) rfl _ _ b6 _ e.o.cells true rfl rfl aL Tryz.underlying35 (by rw [Ord.len9];exact JU)) rfl ?_
   exact ⟨F',by rw [HR.out];rfl,by rw [HR.out];exact (b0.out.kept k6).keep aJ (fun b I e=>aO (by rw [← e];exact I)),aN.out,(q3.kept k6).trans aJ (fun b I e=>by subst e;omega),fun h=>by rw [HR.out] at h;cases h⟩
  have ae:e.is t i=false:=by simpa using hm
  have aK:Hid (∀ (j:Nat) (x:Ent),j<k+1→X[j]?=some x→x.is t i=false):=by
   intro j x hj hx
   by_cases hjk:j=k
   ·subst hjk
    rw [ai.out] at hx
    injection hx with hx
    rw [← hx]
    exact ae
   exact HM.out j x (by omega) hx
  clear hm HM
  go_upto_region 4 with fail
  refine tA 12 [pK O 0,pK O 0,iK e.o.tr,iK t,bK (decide ((e.o.tr:Int)=(t:Int))),bK (decide ((e.o.tr:Int)=(t:Int))),.k (.cond (decide ((e.o.tr:Int)=(t:Int))) (pE O 0)),.k (.cond (decide ((e.o.tr:Int)=(t:Int))) (pE O 1)),.k (.cond (decide ((e.o.tr:Int)=(t:Int))) (iE e.o.id)),.k (.cond (decide ((e.o.tr:Int)=(t:Int))) (iE i)),.k (.cond (decide ((e.o.tr:Int)=(t:Int))) (bE (decide ((e.o.id:Int)=(i:Int))))),bK false] [20,21,22,23,24,25,26,27,28,29,30,31] (nS 2 (ldR H.out 0) (nS 4 (sV rfl (fun a u E D hk=>JY rfl (dD D 2) (dD D 3))) (nS 6 (fS (iC 7 5 rfl (fun a u E D hk I=>Jz 102 0 0 _ (O) (0) (0) rfl (eE E) (by kernel_rfl) rfl) fz)) (nS 7 (fS (iC 8 5 rfl (fun a u E D hk I=>Jz 35 1 1 _ (O) (0) (1) rfl ((D 6 26 (by kernel_rfl)).1 I) (by kernel_rfl) rfl) fz)) (nS 8 (fS (iC 9 5 rfl (fun a u E D hk I=>JZ _ Tryz.underlying3 _ _ _ rfl ((D 7 27 (by kernel_rfl)).1 I) (Xx (JJ H.out hk) 1 _ rfl)) fz)) (nS 9 (fS (iC 10 5 rfl (fun a u E D hk I=>Jq _ _ rfl (eE E)) fz)) (nS 10 (fS (iC 11 5 rfl (fun a u E D hk I=>JY rfl ((D 8 28 (by kernel_rfl)).1 I) ((D 9 29 (by kernel_rfl)).1 I)) fz)) (nS 11 (aV rfl (fun a u E D hk=>Qj _ _ _ ((decide ((e.o.tr:Int)=(t:Int)))) ((decide ((e.o.id:Int)=(i:Int)))) rfl (dD D 5) (fun al=>((D 10 30 (by kernel_rfl)).1 al)) rfl) ae) nZ)))))))) ?_
  intro gv w3 N k3
  simp only [Fz7]
  rw [gQ N 11 31 (.bool false)]
  clear N
  have J:=ad.trans k3
  have af:=Kj (a9.out.kept k3)
  have U:=Kj (JJ H.out k3)
  have z3:=k3.size
  have ah:=k3
  clear a9 H k3 ad
  have b7:=au.trans ah
  clear ae af U
  go_wp2
  exact ⟨⟨k+1,by omega,by go_num,aK,J,b7⟩,by simp [intOf];omega⟩
 have HR:Hid (XW t i X=(JV,false,X)):=by
  show _=_
  unfold XW
  rw [idx_none (fun j x hj hx=>HM.out j x (by rw [HN.out] at hj;omega) hx),List.getElem?_eq_none (Nat.le_refl _)]
 clear HM
 go_upto_region 8 with fail
 refine wAp 1 [JV.v] [54] (nS 0 (sV rfl (fun a u E D hk=>XZ 35 [] JV.cells rfl (by kernel_rfl))) nZ) ?_
 intro w2 k2
 simp only [F8]
 refine sO JV (a6.out.kept k2) ?_
 intro w3 b3 aY hs3
 refine aT (.bool false) ?_
 simp only [Act.put,sA,sS,sZ]
 refine Kx ?_
 go_wp2
 refine bodyPost_ret (Qq (p:=6) (q:=7) rfl _ _ b6 _ JV.cells false rfl rfl b3 Tryz.underlying35 (by rw [Ord.len9];exact JU)) rfl ?_
 have J:Kept w w3:=(a4.trans k2).trans' aY (by omega)
 exact ⟨F,by rw [HR.out];rfl,by rw [HR.out];exact HL.out.kept J,Grow.refl _ _,Keep.mono (T:=F) J (fun _ _ h=>h.elim),fun _=>J⟩
def rsd (s:Int) (v u:Value) (last no:Int):List Value:=if s=1 then xU v u last no else xU u v last no
def RRejoin (w:World) (F:Nat→Prop) (p:Nat) (B:Bok) (s:Int) (u:Value) (Fs:Nat→Prop):Prop:=
 ∀ (w':World) (v':Value) (L':List Lev) (Fs':Nat→Prop) (last no:Int),Keep (fun b=>Fs b∨b=p) w w'→Blk w' p 60 (rsd s v' u last no)→RWay w' Fs' v' L'→Grow w Fs Fs'→∃ F',RBk w' F' p (B.to s L' last no)∧Grow w F F'∧Keep F w w'∧∀ b,F b→F' b
theorem RBk.open_ {w:World} {F:Nat→Prop} {p:Nat} {B:Bok} (h:RBk w F p B) {s:Int} (hs:s=1∨s=2) :
  ∃ v u Z G Fs,levs Z=B.sd s∧WayZ 100 102 97 w Fs v Z G∧Blk w p 60 (rsd s v u B.last B.no)∧(∀ b,Fs b→F b∧b≠p)∧F p∧(∀ b,F b→b<w.heap.size)∧RRejoin w F p B s u Fs:=by
 obtain ⟨N,h2,v1,v2,F1,F2,hB,a2,a3,D,J⟩:=h
 have hpl:=h2 p N
 rcases hs with rfl | rfl
 ·obtain ⟨Z,G,e,hz⟩:=a2
  refine ⟨v1,v2,Z,G,F1,e,hz,hB,fun b j=>⟨(D b j).1,(D b j).2.1⟩,N,h2,?_⟩
  intro w' v' L' I last no hk O H hG
  have U:=H.lt
  have a1:Keep F w w':=hk.mono (fun b _ j=>j.elim (fun h=>(D b h).1) (fun h=>by subst h;exact N))
  refine ⟨fun b=>F b∨I b,⟨.inl N,fun b j=>j.elim (fun h=>Nat.lt_of_lt_of_le (h2 b h) hk.size) (U b),v',v2,I,F2,O,H,a3.keep hk (fun b j h=>h.elim (fun h=>(D b h).2.2 j) (fun h=>(J b j).2 h)),fun b j=>?_,fun b j=>⟨.inl (J b j).1,(J b j).2⟩⟩,fun b j=>j.elim .inl (fun h=>(hG b h).imp (fun h=>(D b h).1) id),a1,fun b j=>.inl j⟩
  refine ⟨.inr j,?_,?_⟩
  ·rcases hG b j with h | h
   ·exact (D b h).2.1
   omega
  rcases hG b j with h | h
  ·exact (D b h).2.2
  intro h'
  have:=h2 b (J b h').1
  omega
 obtain ⟨Z,G,e,hz⟩:=a3
 refine ⟨v2,v1,Z,G,F2,e,hz,hB,J,N,h2,?_⟩
 intro w' v' L' I last no hk O H hG
 have U:=H.lt
 have a1:Keep F w w':=hk.mono (fun b _ j=>j.elim (fun h=>(J b h).1) (fun h=>by subst h;exact N))
 refine ⟨fun b=>F b∨I b,⟨.inl N,fun b j=>j.elim (fun h=>Nat.lt_of_lt_of_le (h2 b h) hk.size) (U b),v1,v',F1,I,O,a2.keep hk (fun b j h=>h.elim (fun h=>(D b j).2.2 h) (fun h=>(D b j).2.1 h)),H,fun b j=>⟨.inl (D b j).1,(D b j).2.1,fun h'=>?_⟩,fun b j=>⟨.inr j,?_⟩⟩,fun b j=>j.elim .inl (fun h=>(hG b h).imp (fun h=>(J b h).1) id),a1,fun b j=>.inl j⟩
 ·rcases hG b h' with h | h
  ·exact (D b j).2.2 h
  have:=h2 b (D b j).1
  omega
 rcases hG b j with h | h
 ·exact (J b h).2
 omega
end Go.Proofs.YtklohceombpleaaGreat
namespace Go.Proofs.YtklohceombpleaaGreat
open Go.RowKit
theorem RBk.open3 {w:World} {F:Nat→Prop} {p:Nat} {B:Bok} (h:RBk w F p B) {k:Nat} (hk:k<3) :
  ∃ v u Z G j,levs Z=B.sd (k:Int)∧WayZ 100 102 97 w j v Z G∧w.cell? ⟨p,0+k*1,none⟩=some v∧(0<Z.length→(k=1∨k=2)∧Blk w p 60 (rsd (k:Int) v u B.last B.no)∧(∀ b,j b→F b∧b≠p)∧RRejoin w F p B (k:Int) u j):=by
 by_cases h0:k=0
 ·subst h0
  obtain ⟨Z,G,e,N⟩:=(Way.nil w:RWay w (fun _=>False) (.slice none 0 0) [])
  refine ⟨_,.slice none 0 0,Z,G,_,e,N,h.cell0,fun O=>?_⟩
  have J:Z=[]:=by simpa [levs] using e
  rw [J] at O
  simp at O
 have D:k=1∨k=2:=by omega
 obtain ⟨v,u,Z,G,j,e,N,I,H,_,_,U⟩:=h.open_ (s:=(k:Int)) (by omega)
 refine ⟨v,u,Z,G,j,e,N,?_,fun _=>⟨D,I,H,U⟩⟩
 rcases D with rfl | rfl
 ·exact I.cell 1
 exact I.cell 2
theorem less_side {B:Bok} {t j y:Int} {k:Nat} {D:List Lev} (I:k=1∨k=2) (N:∀ s:Nat,s<k→(VZ t j y (B.sd (s:Int))).1=false) (h:VZ t j y (B.sd (k:Int))=(true,D)):B.less t j y=(true,B.to (k:Int) D B.last B.no):=by
 unfold Bok.less
 rcases I with rfl | rfl
 ·have H:VZ t j y B.buys=(true,D):=h
  rw [H]
  rfl
 have H:VZ t j y B.sells=(true,D):=h
 have J:(VZ t j y B.buys).1=false:=N 1 (by omega)
 rw [if_neg (by rw [J];simp),H]
 rfl
theorem bless_none {B:Bok} {t j y:Int} (D:∀ s:Nat,s<3→(VZ t j y (B.sd (s:Int))).1=false):B.less t j y=(false,B):=by
 unfold Bok.less
 have I:(VZ t j y B.buys).1=false:=D 1 (by omega)
 have H:(VZ t j y B.sells).1=false:=D 2 (by omega)
 rw [if_neg (by rw [I];simp),if_neg (by rw [H];simp)]
theorem rbless_any (w:World) (F:Nat→Prop) (p:Nat) (B:Bok) (t j y:Int) (h:RBk w F p B) (hI:Inv B):Calls Tryz.prog 40 #[.pointer (some ⟨p,0,none⟩),.int .i64 t,.int .i64 j,.int .i64 y] w fun r w'=>∃ F',r=.returned (.bool (B.less t j y).1)∧RBk w' F' p (B.less t j y).2∧Grow w F F'∧Keep F w w':=by
 have HB:=Kj h
 have HI:=Kj hI
 clear h hI
 go_enter Tryz.func40,Tryz.ntmps40
 go_upto_region 1 with fail
 go_wp2_with fail
 go_loopw [12] (fun q wr=>∃ (k:Nat),k≤3∧q=.int .i64 (k:Int)∧Hid (∀ s:Nat,s<k→(VZ t j y (B.sd (s:Int))).1=false)∧Kept w wr) (fun q _=>3-(intOf q).toNat)
 case atStart=>exact ⟨0,by omega,rfl,fun s hs=>(by omega),Kept.refl _⟩
 obtain ⟨k,a6,rfl,a1,I⟩:=hrel
 by_cases hk:k<3
 ·obtain ⟨L,O⟩:∃ L,B.sd (k:Int)=L:=⟨_,rfl⟩
  have hL:LvsOk L:=by rw [← O];exact HI.out.ok _
  obtain ⟨v,uo,Z,G,Fs,eL,hW,ae,ak⟩:=(HB.out.kept I).open3 hk
  rw [O] at eL
  have ai:Z.length≤64:=by have:=hL.len;rw [← eL,Xz] at this;exact this
  have ac:=Kj O
  have HV:=Kj ae
  have HW:=Kj hW
  have HL:=Kj hL
  have EL:=Kj eL
  have ax:=Kj ak
  obtain ⟨n,hn⟩:∃ n,Z.length=n:=⟨_,rfl⟩
  have a9:=Kj hW.sl
  rw [hn] at a9 ai
  have HN:=Kj hn
  have zo:=I.size
  obtain ⟨wo,aw⟩:∃ x,x=wr:=⟨_,rfl⟩
  subst aw
  clear O ae hW hL eL hn ak
  go_upto_region 4 with fail
  refine wA 8 [pV p 0,iV (k:Int),pV p 0,pV p 0,pV p (0+k*1),v,iV (n:Int),iV 0] [15,16,17,18,19,20,21,22] (nS 4 (sV rfl (fun a u E D hk=>VQ 58 57 3 1 _ _ p 0 k rfl Tryz.underlying58 (by kernel_rfl) (dD D 3) (dD D 1) (by omega))) (nS 5 (ldC HV.out) (nS 6 (sV rfl (fun a u E D hk=>Jx _ VV _ _ _ _ rfl (dD D 5) a9.out)) nZ))) ?_
  intro w1 k1
  simp only [F8]
  clear HV
  go_wp2_with fail
  rw [show (decide ((k:Int)<3))=true from Ky (by omega)]
  go_loopw [22] (fun q wr=>∃ (i:Nat),i≤n∧q=.int .i64 (i:Int)∧Hid (∀ x ∈ L.take i,(ZQ t j y x.2).1=false)∧Kept wo wr) (fun q _=>n-(intOf q).toNat)
  case atStart=>exact ⟨0,Nat.zero_le _,rfl,by intro x hx;simp at hx,k1⟩
  obtain ⟨i,hi,rfl,HM,H⟩:=hrel
  by_cases hlt:i<n
  ·obtain ⟨gs,os,c,rfl⟩:=a9.out.some_ (by omega)
   obtain ⟨z,hz⟩:∃ z,Z[i]?=some z:=⟨Z[i]'(by rw [HN.out];omega),List.getElem?_eq_getElem (by rw [HN.out];omega)⟩
   obtain ⟨q,pr,X⟩:=z
   have HC:=Kj ((HW.out.kept H).cell hz)
   have HZ:=Kj (split_at hz)
   have ah:=Kj ((HW.out.kept H).lv (q,pr,X) (List.mem_of_getElem? hz))
   have HX:=Kj (HL.out.one (l:=(pr,X)) (by rw [← EL.out];exact qz (List.mem_of_getElem? hz)))
   have HA:Hid (L[i]?=some (pr,X)):=by show _=_;rw [← EL.out];exact qj hz
   clear hz
   go_upto_region 6 with fail
   refine wAp 2 [pV gs (os+i*1),pV q 0] [24,25] (nS 0 (ixV VV (os) n i ((i:Int)) (hlt)) (nS 1 (ldC HC.out) nZ)) ?_
   intro w1 k2
   simp only [F8]
   refine aT (.pointer (some ⟨q,0,none⟩)) ?_
   simp only [Act.put,sA,sS,sZ]
   refine Kx ?_
   have a2:=Kj (ah.out.kept k2)
   have ag:=H.trans k2
   clear HC ah k2
   obtain ⟨b,hb⟩:∃ b,(ZQ t j y X).1=b:=⟨_,rfl⟩
   have U:=Kj hb
   clear hb
   go_upto_region 7 with fail
   refine wAp 4 [pV q 0,iV t,iV j,iV y] [26,27,28,29] nZ ?_
   intro w2 k2
   simp only [F8]
   refine cT Tryz.func69 [.pointer (some ⟨q,0,none⟩),.int .i64 t,.int .i64 j,.int .i64 y] ?_
   refine (rless2_any w2 _ q X t j y (a2.out.kept k2) (by have:=HX.out;simp only at this;omega)).mono ?_
   rintro r w3 ⟨Gq,rfl,ad,ab,a6,a8⟩
   refine ⟨.bool b,by rw [U.out],?_⟩
   rw [U.out] at a8
   simp only [Act.put,sA,sS,sZ]
   refine Kx ?_
   have N:=ag.trans k2
   have a4:=Kj ad
   have a7:=Kj ab
   have a5:=Kj a6
   have a3:=Kj a8
   clear ad a6 a8 ab a2 k2 ag
   cases b with
   | true=>
    have HR:Hid (VZ t j y L=(true,levs (Z.take i++(q,pr,(ZQ t j y X).2)::Z.drop (i+1)))):=by
     show _=_
     have e1:L=levs (Z.take i)++(pr,X)::levs (Z.drop (i+1)):=by
      rw [← EL.out]
      conv=>lhs;rw [HZ.out]
      rw [ZZ,VW]
     have e2:L.take i=levs (Z.take i):=by rw [← EL.out];simp [levs,List.map_take]
     rw [e2] at HM
     conv=>lhs;rw [e1]
     rw [lessL_at HM.out U.out,ZZ,VW]
    obtain ⟨ar,hB,al,hJ⟩:=ax.out (by rw [HN.out];omega)
    obtain ⟨Fs',G',aa,af,J,_⟩:=WayZ.turn (A:=Z.take i) (R:=Z.drop (i+1)) (q:=q) (pr:=pr) (X:=X) (by rw [← HZ.out];exact HW.out.kept N) a5.out a4.out a7.out
    have K3:Keep (fun b=>Fs b∨b=p) wo w3:=(Keep.mono (T:=fun b=>Fs b∨b=p) N (fun _ _ h=>h.elim)).trans J (fun b _ hb=>.inl hb)
    have aj:=(hB.kept N).keep J (fun h=>(al p h).2 rfl)
    obtain ⟨F',q1,q2,q3,_⟩:=hJ w3 _ _ _ _ _ K3 aj ⟨_,_,rfl,aa⟩ (af.wide N.size)
    have HS:Hid (B.less t j y=(true,B.to (k:Int) (levs (Z.take i++(q,pr,(ZQ t j y X).2)::Z.drop (i+1))) B.last B.no)):=less_side ar a1.out (by rw [ac.out];exact HR.out)
    have Q1:=Kj q1
    have av:=q2.wide zo
    have ao:Keep F w w3:=(Keep.mono (T:=F) I (fun _ _ h=>h.elim)).trans q3 (fun _ _ h=>h)
    clear a4 a5 a3 a7 aa af J K3 aj hB q1 q2 q3 HR hJ al
    go_wp2
    go_ret
    rw [HS.out]
    exact ⟨rfl,F',Q1.out,av,ao⟩
   | false=>
    have am:=N.trans (a3.out rfl)
    have aq:Hid (∀ x ∈ L.take (i+1),(ZQ t j y x.2).1=false):=by
     intro x hx
     rw [List.take_add_one,HA.out] at hx
     rcases List.mem_append.1 hx with hx | hx
     ·exact HM.out x hx
     simp at hx
     subst hx
     exact U.out
    clear a4 a5 a3 HM a7
    go_wp2
    exact ⟨⟨i+1,by omega,by go_num,aq,am⟩,by simp [intOf];omega⟩
  have au:Hid (∀ s:Nat,s<k+1→(VZ t j y (B.sd (s:Int))).1=false):=by
   intro s hs
   by_cases hsk:s=k
   ·subst hsk
    rw [ac.out,lessL_none fun x hx=>HM.out x (by rw [List.take_of_length_le (by rw [← EL.out,Xz,HN.out];omega)];exact hx)]
   exact a1.out s (by omega)
  have an:=I.trans H
  clear HM
  go_wp2
  exact ⟨⟨k+1,by omega,by go_num,au,an⟩,by simp [intOf];omega⟩
 have J:k=3:=by omega
 subst J
 have HS:Hid (B.less t j y=(false,B)):=bless_none a1.out
 clear a1
 go_wp2
 go_ret
 rw [HS.out]
 exact ⟨F,rfl,HB.out.kept I,Grow.refl _ _,Keep.mono (T:=F) I (fun _ _ h=>h.elim)⟩
section
variable {P:Program} {ops:Array Oper} {Q:Exit→Act→World→Prop} {V:List Kn} {m n:Nat} {st:Nat→Bool} {a0:Act} {w0:World} {C:Nat→Value} {R:Value→World→World→Prop}
structure QInv (ops:Array Oper) (V:List Kn) (m n:Nat) (st:Nat→Bool) (a0:Act) (w0:World) (C:Nat→Value) (R:Value→World→World→Prop) (ls:Array Bool) (a:Act) (w:World):Prop where
 head:HeadInv .any ops n ls
 defers:a.defers=a0.defers
 size:a.tmps.size=a0.tmps.size
 env:∀ t,(∀ i,i<n→ls.getD i false=true→QY ops i≠some t)→a.tmps[t]?=a0.tmps[t]?
 zero:∀ i,i<n→st i=true→ls.getD i false=true→∀ d,QY ops i=some d→a.tmps.getD d undef=C i
 early:ls.getD m false=false→(∀ i d,i<n→i≠m→ls.getD i false=true→QY ops i=some d→(UY V i).p (a.tmps.getD d undef) w)∧Kept w0 w
 late:ls.getD m false=true→(∀ i,i<n→st i=false→ls.getD i false=true)∧∃ w1,Kept w0 w1∧(∀ i d,i<n→st i=false→i≠m→QY ops i=some d→(UY V i).p (a.tmps.getD d undef) w1)∧∀ d,QY ops m=some d→R (a.tmps.getD d undef) w1 w
def QZero (P:Program) (ops:Array Oper) (Q:Exit→Act→World→Prop) (V:List Kn) (n:Nat) (st:Nat→Bool) (a0:Act) (C:Nat→Value):Prop:=∀ i,i<n→st i=true→∀ a w,FEnv ops n a0 a→FDep ops V i a w→wpOp P ops Q i (fun a' w'=>a'=a.put (QY ops i) (C i)∧w'=w) a w
def sinkQ (ops:Array Oper) (m n:Nat) (st:Nat→Bool):Bool:=(decide (m<n) && !st m) && ((List.range n).all fun i=>st i || (i == m || (decide (i<m) && (List.range n).any fun j=>decide (i<j) && (!st j && Region.waitsFor .any ops j i))))
def strayB (ops:Array Oper) (n:Nat) (st:Nat→Bool):Bool:=(List.range n).all fun i=>!st i || match ops[i]? with
 | none=>false
 | some o=>o.after.all fun e=>!Region.binds .any e || st e.on
def QLast (P:Program) (ops:Array Oper) (Q:Exit→Act→World→Prop) (V:List Kn) (m n:Nat) (a0:Act) (w0:World) (R:Value→World→World→Prop):Prop:=
 ∀ a w,FEnv ops n a0 a→FDep ops V m a w→Kept w0 w→wpOp P ops Q m (fun a' w'=>∃ v,a'=a.put (QY ops m) v∧R v w w') a w
theorem freeQ_go (hV0:V.length=n) (aQ:∀ i,i<n→st i=true→V[i]?=some (.eq (C i))) (hB:freeB ops n a0.tmps.size=true) (aq:sinkQ ops m n st=true) (b4:strayB ops n st=true) (b0:∀ i K,st i=false→i≠m→V[i]?=some K→FStep P ops Q V n a0 w0 i K)
  (hz:QZero P ops Q V n st a0 C) (hm:QLast P ops Q V m n a0 w0 R)
  (aR:∀ a w,QInv ops V m n st a0 w0 C R (Array.replicate n true++Array.replicate (ops.size-n) false) a w→wpAny P .any ops Q (ops.size-n) (Array.replicate n true++Array.replicate (ops.size-n) false) a w) :
  ∀ (f:Nat) (U:List Nat) (N:Array Bool) (a:Act) (w:World),U.length=f→U.Nodup→(∀ i,i ∈ U↔i<n∧N.getD i true=false)→QInv ops V m n st a0 w0 C R N a w→wpAny P .any ops Q (f+(ops.size-n)) N a w:=by
 obtain ⟨hn,aZ,hseq,aO⟩:=jj hB
 simp only [sinkQ,Bool.and_eq_true,decide_eq_true_eq,Bool.not_eq_true'] at aq
 obtain ⟨⟨b5,ba⟩,aq⟩:=aq
 have al:∀ i,i<n→st i=false→i≠m→i<m∧∃ q,q<n∧i<q∧st q=false∧Region.waitsFor .any ops q i=true:=by
  intro i hi hs a3
  have h:=List.all_eq_true.1 aq i (by simpa using hi)
  rw [hs] at h
  simp only [Bool.false_or,Bool.or_eq_true,beq_iff_eq,Bool.and_eq_true,decide_eq_true_eq,List.any_eq_true,List.mem_range,Bool.not_eq_true'] at h
  rcases h with h | ⟨h1,q,h2,h3,h4,h5⟩
  ·exact absurd h a3
  exact ⟨h1,q,h2,h3,h4,h5⟩
 have au:∀ i,i<n→∃ o d,ops[i]?=some o∧o.dst=some d∧d<a0.tmps.size∧(∀ j,j<i→QY ops j≠some d)∧∀ e ∈ o.after,Region.binds .any e=true→e.on<i:=by
  intro i hi
  have h:=List.all_eq_true.1 aO i (by simpa using hi)
  cases ho:ops[i]? with
  | none=>rw [ho] at h;cases h
  | some o=>
   rw [ho] at h
   simp only [Bool.and_eq_true] at h
   cases hd:o.dst with
   | none=>rw [hd] at h;cases h.1
   | some d=>
    rw [hd] at h
    simp only [Bool.and_eq_true,decide_eq_true_eq,List.all_eq_true,List.mem_range,bne_iff_ne] at h
    refine ⟨o,d,rfl,hd,h.1.1,h.1.2,fun e D hb=>?_⟩
    have h2:=(Array.all_eq_true_iff_forall_mem.1 h.2) e D
    simpa [hb] using h2
 intro f
 induction f with
 | zero=>
  intro U N a w hU _ a9 inv
  have aY:U=[]:=List.eq_nil_of_length_eq_zero hU
  have b3:N=Array.replicate n true++Array.replicate (ops.size-n) false:=by
   apply Array.ext
   ·simp [inv.head.size];omega
   intro i h1 h2
   have b1:=inv.head.size
   by_cases hi:i<n
   ·have h3:¬ (i<n∧N.getD i true=false):=by
     intro h
     have:=(a9 i).2 h
     rw [aY] at this
     cases this
    have h4:N.getD i true=true:=by
     cases hq:N.getD i true with
     | true=>rfl
     | false=>exact (h3 ⟨hi,hq⟩).elim
    rw [Array.getElem_append_left (by simpa using hi)]
    simp [h1] at h4
    simp [h4]
   have h4:=inv.head.tail i (by omega) (by omega)
   rw [Array.getElem_append_right (by simpa using hi)]
   simp [h1] at h4
   simp [h4]
  rw [Nat.zero_add]
  subst b3
  exact aR a w inv
 | succ f ih=>
  intro U N a w hU ar a9 inv
  have b1:=inv.head.size
  rw [show f+1+(ops.size-n)=(f+(ops.size-n))+1 by omega]
  obtain ⟨u,hu⟩:∃ u,u ∈ U:=by
   cases U with
   | nil=>simp at hU
   | cons u U=>exact ⟨u,by simp⟩
  obtain ⟨aK,aD⟩:=(a9 u).1 hu
  refine ⟨fun h0=>?_,fun i hi=>?_⟩
  ·exfalso
   have key:∀ k i,i≤k→i<n→N.getD i true=true:=by
    intro k
    induction k using Nat.strongRecOn with
    | _ k ihk=>
     intro i hik J
     cases hq:N.getD i true with
     | true=>rfl
     | false=>
      obtain ⟨o,d,ho,_,_,_,ac⟩:=au i J
      have:i ∈ Region.ready .any ops N:=mem_ready.2 ⟨hq,o,ho,fun e D hb=>by
       have hlt:=ac e D hb
       have:=ihk (k-1) (by omega) e.on (by omega) (by omega)
       exact getD_tf this (by omega)⟩
      rw [h0] at this
      cases this
   rw [key u u (Nat.le_refl _) aK] at aD
   cases aD
  have J:i<n:=Nat.lt_of_not_le fun h=>tail_waits (aZ (Nat.lt_of_le_of_lt h (by obtain ⟨_,o1,ao,_⟩:=mem_ready.1 hi;exact (Array.getElem?_eq_some_iff.1 ao).1))).1 (aZ (Nat.lt_of_le_of_lt h (by obtain ⟨_,o1,ao,_⟩:=mem_ready.1 hi;exact (Array.getElem?_eq_some_iff.1 ao).1))).2 (Nat.lt_of_le_of_lt h (by obtain ⟨_,o1,ao,_⟩:=mem_ready.1 hi;exact (Array.getElem?_eq_some_iff.1 ao).1)) inv.head _ u rfl aK aD i h hi
  obtain ⟨ax,oi,bd,ab⟩:=mem_ready.1 hi
  obtain ⟨o,d,ho,hd,aX,b8,ac⟩:=au i J
  obtain rfl:oi=o:=Option.some.inj (bd.symm.trans ho)
  have a5:QY ops i=some d:=by simp [QY,ho,hd]
  have an:N.getD i false=false:=getD_both ax
  have aL:∀ j,j<n→j≠i→QY ops j≠some d:=by
   intro j hj hij aF
   by_cases aa:j<i
   ·exact b8 j aa aF
   obtain ⟨oj,dj,bc,af,_,aW,_⟩:=au j hj
   have:dj=d:=by
    have h1:QY ops j=some dj:=by simp [QY,bc,af]
    rw [h1] at aF
    injection aF
   subst this
   exact aW i (by omega) a5
  have aG:d<a.tmps.size:=by rw [inv.size];exact aX
  have a4:∀ v,(a.put (some d) v).tmps.getD d undef=v:=fun v=>by simp [Act.put,aG]
  have I:∀ v j e,j<n→j≠i→QY ops j=some e→(a.put (some d) v).tmps.getD e undef=a.tmps.getD e undef:=by
   intro v j e hj aa D
   have:d≠e:=fun h=>aL j hj aa (by rw [D,h])
   simp only [Act.put,Array.getD_eq_getD_getElem?,xJ]
   rw [if_neg (fun h=>this h.1)]
  have aH:FEnv ops n a0 a:=by
   intro t v ht hv
   have b7:∀ k,k<n→N.getD k false=true→QY ops k≠some t:=fun k a6 _=>by simpa using List.all_eq_true.1 ht k (by simpa using a6)
   have h1:=inv.env t b7
   rw [← hv]
   simp only [Act.eval,Array.getD_eq_getD_getElem?,h1]
  have aC:∀ k,k ∈ U.erase i↔k<n∧(N.setIfInBounds i true).getD k true=false:=by
   intro k
   rw [ar.mem_erase_iff,a9 k]
   by_cases hki:k=i
   ·subst hki
    simp
   rw [getD_set_ne true (fun h=>hki h.symm)]
   simp [hki]
  have am:∀ v t,(∀ k,k<n→(N.setIfInBounds i true).getD k false=true→QY ops k≠some t)→(a.put (some d) v).tmps[t]?=a0.tmps[t]?:=by
   intro v t ht
   have h1:=inv.env t (fun k a6 O=>ht k a6 (getD_set_true O))
   have h2:d≠t:=fun h=>ht i J (by simp [show i<N.size by omega]) (by rw [a5,h])
   simp only [Act.put,xJ]
   rw [if_neg (fun h=>h2 h.1),h1]
  have ah:(U.erase i).length=f:=by rw [List.length_erase_of_mem ((a9 i).2 ⟨J,ax⟩)];omega
  have H:∀ k,k≠i→(N.setIfInBounds i true).getD k false=N.getD k false:=fun k hk=>getD_set_ne false (fun h=>hk h.symm)
  have ag:(N.setIfInBounds i true).getD i false=true:=by simp [show i<N.size by omega]
  have aw:N.getD m false=false→FDep ops V i a w:=by
   intro ae j e ai
   simp only [Bool.and_eq_true,beq_iff_eq,ho,Option.map_some,Option.some.injEq,Array.any_eq_true'] at ai
   obtain ⟨⟨x,hx,ad,ay⟩,af⟩:=ai
   subst ay
   have aA:=ab x hx ad
   exact (inv.early ae).1 x.on e (by have:=ac x hx ad;omega) (fun e1=>by rw [e1,ae] at aA;cases aA) aA af
  have aI:st i=true→FDep ops V i a w:=by
   intro b2 j e ai
   simp only [Bool.and_eq_true,beq_iff_eq,ho,Option.map_some,Option.some.injEq,Array.any_eq_true'] at ai
   obtain ⟨⟨x,hx,ad,ay⟩,af⟩:=ai
   subst ay
   have h:=List.all_eq_true.1 b4 i (by simpa using J)
   rw [b2,ho] at h
   simp only [Bool.not_true,Bool.false_or] at h
   have h2:=(Array.all_eq_true_iff_forall_mem.1 h) x hx
   rw [ad] at h2
   have aM:st x.on=true:=by simpa using h2
   have aU:x.on<n:=by have:=ac x hx ad;omega
   have h3:=inv.zero x.on aU aM (ab x hx ad) e af
   have:UY V x.on=.eq (C x.on):=by unfold UY;rw [List.getD_eq_getElem?_getD,aQ x.on aU aM];rfl
   rw [this]
   exact h3
  by_cases a3:i=m
  ·subst a3
   obtain ⟨hv,hk⟩:=inv.early an
   have av:∀ k j,j<n→st j=false→j≠i→i≤j+k→N.getD j false=true:=by
    intro k
    induction k with
    | zero=>intro j az aE aa be;have:=(al j az aE aa).1;omega
    | succ k ihk=>
     intro j az aE aa be
     obtain ⟨_,q,hq1,hq2,b9,bb⟩:=al j az aE aa
     obtain ⟨oq,dq,aB,_,_,_,_⟩:=au q (by omega)
     obtain ⟨e,D,hb,aN⟩:=waits_on bb aB
     by_cases hqi:q=i
     ·subst hqi
      obtain rfl:oq=oi:=Option.some.inj (aB.symm.trans ho)
      rw [← aN]
      exact ab e D hb
     have:=inv.head.closed q oq aB (ihk q (by omega) b9 hqi (by omega)) e D hb
     rw [← aN]
     exact this
   refine wpOp_mono ?_ (hm a w aH (aw an) hk)
   rintro a' w' ⟨v,rfl,hR⟩
   rw [a5]
   refine ih (U.erase i) _ _ w' ah (ar.erase _) aC ⟨inv.head.set hi J,inv.defers,by simp [Act.put,inv.size],am v,fun x hx a8 O e D=>?_,fun O=>?_,fun _=>⟨fun k a2 a1=>?_,w,hk,fun k e a2 a1 aj D=>?_,fun e D=>?_⟩⟩
   ·have a7:x≠i:=fun h=>by rw [h,ba] at a8;cases a8
    rw [H x a7] at O
    rw [I v x e hx a7 D]
    exact inv.zero x hx a8 O e D
   ·rw [ag] at O
    cases O
   ·by_cases hki:k=i
    ·subst hki;exact ag
    rw [H k hki]
    exact av i k a2 a1 hki (by omega)
   ·rw [I v k e a2 aj D]
    exact hv k e a2 aj (av i k a2 a1 aj (by omega)) D
   rw [a5] at D
   injection D with D
   subst D
   rw [a4]
   exact hR
  by_cases hi0:st i=true
  ·refine wpOp_mono ?_ (hz i J hi0 a w aH (aI hi0))
   rintro a' w' ⟨rfl,rfl⟩
   rw [a5]
   refine ih (U.erase i) _ _ w' ah (ar.erase _) aC ⟨inv.head.set hi J,inv.defers,by simp [Act.put,inv.size],am (C i),fun x hx a8 O e D=>?_,fun O=>⟨fun k e a6 aJ ak D=>?_,?_⟩,fun O=>?_⟩
   ·by_cases a7:x=i
    ·subst a7
     rw [a5] at D
     injection D with D
     subst D
     exact a4 _
    rw [H x a7] at O
    rw [I _ x e hx a7 D]
    exact inv.zero x hx a8 O e D
   ·rw [H m (fun h=>a3 h.symm)] at O
    by_cases hk0:k=i
    ·subst hk0
     rw [a5] at D
     injection D with D
     subst D
     rw [a4]
     have:UY V k=.eq (C k):=by unfold UY;rw [List.getD_eq_getElem?_getD,aQ k J hi0];rfl
     rw [this]
     exact rfl
    rw [H k hk0] at ak
    rw [I _ k e a6 hk0 D]
    exact (inv.early O).1 k e a6 aJ ak D
   ·rw [H m (fun h=>a3 h.symm)] at O
    exact (inv.early O).2
   rw [H m (fun h=>a3 h.symm)] at O
   obtain ⟨h1,w1,h2,h3,h4⟩:=inv.late O
   refine ⟨fun k a2 a1=>by rw [H k (fun h=>by rw [h,hi0] at a1;cases a1)];exact h1 k a2 a1,w1,h2,fun k e a2 a1 aj D=>?_,fun e D=>?_⟩
   ·rw [I _ k e a2 (fun h=>by rw [h,hi0] at a1;cases a1) D]
    exact h3 k e a2 a1 aj D
   rw [I _ m e b5 (fun h=>a3 h.symm) D]
   exact h4 e D
  have ae:N.getD m false=false:=by
   cases hq:N.getD m false with
   | false=>rfl
   | true=>
    have:=(inv.late hq).1 i J (by simpa using hi0)
    rw [an] at this
    cases this
  obtain ⟨hv,hk⟩:=inv.early ae
  have hK:V[i]?=some (UY V i):=by
   unfold UY
   rw [List.getD_eq_getElem?_getD,List.getElem?_eq_getElem (by omega)]
   rfl
  refine wpOp_mono ?_ (b0 i _ (by simpa using hi0) a3 hK a w aH (aw ae) hk)
  rintro a' w' ⟨v,rfl,b6,aS⟩
  rw [a5]
  refine ih (U.erase i) _ _ w' ah (ar.erase _) aC ⟨inv.head.set hi J,inv.defers,by simp [Act.put,inv.size],am v,fun x hx a8 O e D=>?_,fun O=>⟨fun k e a6 aJ ak D=>?_,hk.trans aS⟩,fun O=>?_⟩
  ·have a7:x≠i:=fun h=>hi0 (by rw [← h];exact a8)
   rw [H x a7] at O
   rw [I v x e hx a7 D]
   exact inv.zero x hx a8 O e D
  ·by_cases hki:k=i
   ·subst hki
    rw [a5] at D
    injection D with D
    subst D
    rw [a4]
    exact b6
   rw [H k hki] at ak
   rw [I v k e a6 hki D]
   exact (UY V k).st _ _ _ (hv k e a6 aJ ak D) aS
  rw [H m (fun h=>a3 h.symm),ae] at O
  cases O
theorem actQ_filled {a:Act} {w:World} {H:Array Bool} (hl:∀ i,i<n→H.getD i false=true) (inv:QInv ops V m n st a0 w0 C R H a w):a=⟨(Wy ops n).foldl (fun t d=>t.setIfInBounds d (a.tmps.getD d undef)) a0.tmps,a0.defers⟩:=by
 obtain ⟨t,df⟩:=a
 have D:=inv.defers
 simp only at D
 subst D
 congr 1
 apply Array.ext_getElem?
 intro e
 rw [JJQ]
 have j:=inv.size
 simp only at j
 by_cases hm:e ∈ Wy ops n
 ·by_cases hlt:e<a0.tmps.size
  ·rw [if_pos ⟨hm,hlt⟩]
   have:e<t.size:=by omega
   simp [this]
  rw [if_neg (fun h=>hlt h.2),Array.getElem?_eq_none (by omega),Array.getElem?_eq_none (by omega)]
 rw [if_neg (fun h=>hm h.1)]
 exact inv.env e (fun i I _ h=>hm (List.mem_filterMap.2 ⟨i,by simpa using I,h⟩))
def QVals (ops:Array Oper) (V:List Kn) (m:Nat) (st:Nat→Bool) (g:Nat→Value) (w:World):Prop:=∀ i d,(!st i && decide (i<V.length) && i != m && QY ops i == some d)=true→(UY V i).p (g d) w
def QSteps (P:Program) (ops:Array Oper) (Q:Exit→Act→World→Prop) (V:List Kn) (n m:Nat) (st:Nat→Bool) (a0:Act) (w0:World):Nat→List Kn→Prop
 | _,[]=>True
 | i,K::Ks=>(st i=false→i≠m→FStep P ops Q V n a0 w0 i K)∧QSteps P ops Q V n m st a0 w0 (i+1) Ks
theorem qsteps_nil {i:Nat}:QSteps P ops Q V n m st a0 w0 i []:=trivial
theorem JW {i:Nat} (j:Nat) {K:Kn} {Ks:List Kn} (H:j=i+1) (h:FStep P ops Q V n a0 w0 i K) (D:QSteps P ops Q V n m st a0 w0 j Ks):QSteps P ops Q V n m st a0 w0 i (K::Ks):=⟨fun _ _=>h,by subst H;exact D⟩
theorem ZX {i:Nat} (j:Nat) {K:Kn} {Ks:List Kn} (N:j=i+1) (I:st i=true∨i=m) (J:QSteps P ops Q V n m st a0 w0 j Ks):QSteps P ops Q V n m st a0 w0 i (K::Ks):=⟨fun h H=>(I.elim (fun D=>by rw [D] at h;cases h) (fun D=>absurd D H)),by subst N;exact J⟩
theorem qsteps_at:∀ (Ks:List Kn) (i:Nat),QSteps P ops Q V n m st a0 w0 i Ks→∀ k K,Ks[k]?=some K→st (i+k)=false→i+k≠m→FStep P ops Q V n a0 w0 (i+k) K
 | [],_,_,k,K,h,_,_=>by simp at h
 | K0::Ks,i,h,0,K,hk,hs,hm=>by simp at hk;subst hk;exact h.1 hs hm
 | K0::Ks,i,h,k+1,K,hk,hs,hm=>by
  have e:i+(k+1)=i+1+k:=by omega
  rw [e] at hs hm ⊢
  exact qsteps_at Ks (i+1) h.2 k K (by simpa using hk) hs hm
theorem wp_freeQ {id:Nat} {a:Act} {w:World} {l:List Oper} (n m:Nat) (st:Nat→Bool) (V:List Kn) (C:Nat→Value) (R:Value→World→World→Prop) (a6:P.follows Departure.mixedOrders=true) (hV:V.length=n) (a2:∀ i,i<n→st i=true→V[i]?=some (.eq (C i))) (hB:freeB l.toArray n a.tmps.size=true) (N:sinkQ l.toArray m n st=true) (a1:strayB l.toArray n st=true)
  (hz:QZero P l.toArray Q V n st a C) (hs:QSteps P l.toArray Q V n m st a w 0 V) (hm:QLast P l.toArray Q V m n a w R)
  (hf:∀ (g:Nat→Value) U w',QVals l.toArray V m st g U→(∀ i,i<n→st i=true→∀ d,QY l.toArray i=some d→g d=C i)→(∀ d,QY l.toArray m=some d→R (g d) U w')→Kept w U→wpList P l.toArray Q (l.drop n) ⟨(Wy l.toArray n).foldl (fun t d=>t.setIfInBounds d (g d)) a.tmps,a.defers⟩ w'):(Code.region id l.toArray true).wp P Q a w:=by
 have a5:=hB
 obtain ⟨hn,_,J,_⟩:=jj a5
 have hn':n≤l.length:=by simpa using hn
 have I:(l.drop n).length=l.toArray.size-n:=by simp
 refine wp_region_any a6 ?_
 have:=freeQ_go (P:=P) (Q:=Q) (w0:=w) hV a2 hB N a1 (fun i K O him hK=>by
  have:=qsteps_at V 0 hs i K hK (by rw [Nat.zero_add];exact O) (by omega)
  rwa [Nat.zero_add] at this) hz hm (fun b u inv=>?_) n (List.range n) (Array.replicate l.toArray.size false) a w.drew (by simp) List.nodup_range ?_ ?_
 ·have e:n+(l.toArray.size-n)=l.toArray.size:=by omega
  rw [e] at this
  exact this
 ·have D:∀ i,i<n→(Array.replicate n true++Array.replicate (l.toArray.size-n) false).getD i false=true:=by
   intro i O
   have a7:i<(Array.replicate n true++Array.replicate (l.toArray.size-n) false).size:=by simp;omega
   rw [Array.getD,dif_pos a7]
   show (Array.replicate n true++Array.replicate (l.toArray.size-n) false)[i]=true
   rw [Array.getElem_append_left (by simpa using O)]
   simp
  have a3:m<n:=by have:=N;simp only [sinkQ,Bool.and_eq_true,decide_eq_true_eq] at this;exact this.1.1
  obtain ⟨_,U,h1,h2,h3⟩:=inv.late (D m a3)
  have h4:=hf (fun d=>b.tmps.getD d undef) U u (fun i d H=>by
   simp only [Bool.and_eq_true,decide_eq_true_eq,beq_iff_eq,bne_iff_ne,Bool.not_eq_true'] at H
   exact h2 i d (by omega) H.1.1.1 H.1.2 H.2) (fun x hx a4=>inv.zero x hx a4 (D x hx)) h3 h1
  rw [← actQ_filled D inv] at h4
  have:=wpAny_of_seq (P:=P) (md:=.any) (ops:=l.toArray) (Q':=Q) (l.drop n) n _ b u (fun j=>by simp) (by rw [I];exact J) h4
  rw [I] at this
  exact this
 ·intro i
  rw [List.mem_range]
  constructor
  ·intro O
   exact ⟨O,getD_in (by simp;omega) (getD_replicate_false _ _)⟩
  exact fun h=>h.1
 refine ⟨⟨by simp,fun j oj _ D=>(by rw [getD_replicate_false] at D;cases D),fun t _ ht=>getD_in (by simpa using ht) (getD_replicate_false _ _)⟩,rfl,rfl,fun _ _=>rfl,fun _ _ _ D=>(by rw [getD_replicate_false] at D;cases D),fun _=>⟨fun i d _ _ D=>(by rw [getD_replicate_false] at D;cases D),Keep.drew (Keep.refl _ w)⟩,fun D=>(by rw [getD_replicate_false] at D;cases D)⟩
theorem yx {i:Nat} {a:Act} {w:World} {o:Oper} (v:Value) (j:ops[i]?=some o) (D:Region.wanted o (yielded ops a.tmps)=true) (h:(execOp a.eval o).run P w=.ok (.value v) w):wpOp P ops Q i (fun H w'=>H=a.put (QY ops i) v∧w'=w) a w:=by
 unfold wpOp
 simp only [j,D,if_true]
 refine .inl ?_
 unfold Oper.wp
 rw [h]
 exact ⟨by simp [QY,j],rfl⟩
end
theorem remove_side {B:Bok} {t j:Int} {k:Nat} {e:Ord} {D:List Lev} (I:k=1∨k=2) (N:∀ s:Nat,s<k→(YJ t j (B.sd (s:Int))).2.1=false) (h:YJ t j (B.sd (k:Int))=(e,true,D)):B.remove t j=(e,true,B.to (k:Int) D B.last B.no):=by
 unfold Bok.remove
 rcases I with rfl | rfl
 ·have H:YJ t j B.buys=(e,true,D):=h
  rw [H]
  rfl
 have H:YJ t j B.sells=(e,true,D):=h
 have J:(YJ t j B.buys).2.1=false:=N 1 (by omega)
 rw [if_neg (by rw [J];simp),H]
 rfl
theorem bremove_none {B:Bok} {t j:Int} (D:∀ s:Nat,s<3→(YJ t j (B.sd (s:Int))).2.1=false):B.remove t j=(JV,false,B):=by
 unfold Bok.remove
 have I:(YJ t j B.buys).2.1=false:=D 1 (by omega)
 have H:(YJ t j B.sells).2.1=false:=D 2 (by omega)
 rw [if_neg (by rw [I];simp),if_neg (by rw [H];simp)]
theorem drop_past (A R:List Lev) (l:Lev):(A++l::R).drop (A.length+1)=R:=by rw [List.drop_append];simp
theorem rsd_cell {w:World} {p k:Nat} {v u:Value} {last no:Int} (j:k=1∨k=2) (h:Blk w p 60 (rsd (k:Int) v u last no)):w.cell? ⟨p,0+k*1,none⟩=some v:=by
 rcases j with rfl | rfl
 ·exact h.cell 1
 exact h.cell 2
theorem rsd_set {k:Nat} {v v' u:Value} {last no:Int} (j:k=1∨k=2):(rsd (k:Int) v u last no).set (0+k*1) v'=rsd (k:Int) v' u last no:=by
 rcases j with rfl | rfl <;> rfl
theorem rsd_len {k:Nat} {v u:Value} {last no:Int} (j:k=1∨k=2):(rsd (k:Int) v u last no).length=5:=by
 rcases j with rfl | rfl <;> rfl
theorem rbremove_any (w:World) (F:Nat→Prop) (p:Nat) (B:Bok) (t j:Int) (h:RBk w F p B) (hI:Inv B):Calls Tryz.prog 70 #[.pointer (some ⟨p,0,none⟩),.int .i64 t,.int .i64 j] w fun r w'=>∃ F',r=.returned (.tuple #[(B.remove t j).1.v,.bool (B.remove t j).2.1])∧RBk w' F' p (B.remove t j).2.2∧Grow w F F'∧Keep F w w':=by
 have bA:=h.lt
 have HB:=Kj h
 have HI:=Kj hI
 clear h hI
 go_enter Tryz.func70,Tryz.ntmps70
 go_upto_region 0 with fail
 refine tAp 2 [.k (.fresh w.heap.size 35 JV.cells),bK false] (nS 0 (nV rfl (fun a u E D hk=>⟨_,_,QX 35 JV.cells rfl zO,⟨_,rfl,hk.size,Blk.new u _ _⟩,((Keep.refl _ u).alloc _)⟩)) nZ) ?_
 intro gv wz hV kz
 rw [dq 2 [6,7]]
 simp only [Fz7]
 have bz:(.fresh w.heap.size 35 JV.cells:Kn).p (gv 6) wz:=hV 0 6 (by kernel_rfl)
 generalize gv 6=v6 at bz ⊢
 rw [gQ hV 1 7 (.bool false)]
 clear hV
 obtain ⟨b6,rfl,hb6,aY⟩:=bz
 refine Kx ?_
 have aO:=Kj aY
 have l6:=aY.lt
 have aS:¬ F b6:=fun h=>by have:=bA b6 h;omega
 have bb:=Kj (HB.out.kept kz)
 have zz:=kz.size
 clear aY HB bA
 go_wp2_with fail
 go_loopw [13] (fun q wr=>∃ (k:Nat),k≤3∧q=.int .i64 (k:Int)∧Hid (∀ s:Nat,s<k→(YJ t j (B.sd (s:Int))).2.1=false)∧Kept wz wr) (fun q _=>3-(intOf q).toNat)
 case atStart=>exact ⟨0,by omega,rfl,fun s hs=>(by omega),Kept.refl _⟩
 obtain ⟨k,ao,rfl,av,O⟩:=hrel
 by_cases hk:k<3
 ·obtain ⟨L,al⟩:∃ L,B.sd (k:Int)=L:=⟨_,rfl⟩
  have hL:LvsOk L:=by rw [← al];exact HI.out.ok _
  obtain ⟨v,uo,Z,G,Fs,eL,hW,be,bD⟩:=(bb.out.kept O).open3 hk
  rw [al] at eL
  have bt:Z.length≤64:=by have:=hL.len;rw [← eL,Xz] at this;exact this
  have b5:=Kj al
  have HV:=Kj be
  have HW:=Kj hW
  have HL:=Kj hL
  have EL:=Kj eL
  have ce:=Kj bD
  obtain ⟨n,hn⟩:∃ n,Z.length=n:=⟨_,rfl⟩
  have au:=Kj hW.sl
  rw [hn] at au bt
  have HN:=Kj hn
  have zo:=O.size
  obtain ⟨wo,cc⟩:∃ x,x=wr:=⟨_,rfl⟩
  subst cc
  have az:=Kj (aO.out.kept O)
  clear al be hW hL eL hn bD
  go_upto_region 4 with fail
  refine wA 8 [pV p 0,iV (k:Int),pV p 0,pV p 0,pV p (0+k*1),v,iV (n:Int),iV 0] [16,17,18,19,20,21,22,23] (nS 4 (sV rfl (fun a u E D hk=>VQ 58 57 3 1 _ _ p 0 k rfl Tryz.underlying58 (by kernel_rfl) (dD D 3) (dD D 1) (by omega))) (nS 5 (ldC HV.out) (nS 6 (sV rfl (fun a u E D hk=>Jx _ VV _ _ _ _ rfl (dD D 5) au.out)) nZ))) ?_
  intro w1 k1
  simp only [F8]
  clear HV
  go_wp2_with fail
  rw [show (decide ((k:Int)<3))=true from Ky (by omega)]
  go_loopw [23] (fun q wr=>∃ (i:Nat),i≤n∧q=.int .i64 (i:Int)∧Hid (∀ x ∈ L.take i,(XW t j x.2).2.1=false)∧Kept wo wr) (fun q _=>n-(intOf q).toNat)
  case atStart=>exact ⟨0,Nat.zero_le _,rfl,by intro x hx;simp at hx,k1⟩
  obtain ⟨i,hi,rfl,HM,a6⟩:=hrel
  by_cases hlt:i<n
  ·obtain ⟨gs,os,c,rfl⟩:=au.out.some_ (by omega)
   obtain ⟨z,hz⟩:∃ z,Z[i]?=some z:=⟨Z[i]'(by rw [HN.out];omega),List.getElem?_eq_getElem (by rw [HN.out];omega)⟩
   obtain ⟨q,pr,X⟩:=z
   have HC:=Kj ((HW.out.kept a6).cell hz)
   have HZ:=Kj (split_at hz)
   have bp:=Kj ((HW.out.kept a6).lv (q,pr,X) (List.mem_of_getElem? hz))
   have HX:=Kj (HL.out.one (l:=(pr,X)) (by rw [← EL.out];exact qz (List.mem_of_getElem? hz)))
   have HA:Hid (L[i]?=some (pr,X)):=by show _=_;rw [← EL.out];exact qj hz
   clear hz
   go_upto_region 6 with fail
   refine wAp 3 [iV (i:Int),pV gs (os+i*1),pV q 0] [25,26,27] (nS 1 (ixV VV (os) n i ((i:Int)) (hlt)) (nS 2 (ldC HC.out) nZ)) ?_
   intro w1 k2
   simp only [F8]
   refine aT (.int .i64 (i:Int)) ?_
   refine aT (.pointer (some ⟨q,0,none⟩)) ?_
   simp only [Act.put,sA,sS,sZ]
   refine Kx ?_
   have ay:=Kj (bp.out.kept k2)
   have bo:=a6.trans k2
   clear HC bp k2
   obtain ⟨b,hb⟩:∃ b,(XW t j X).2.1=b:=⟨_,rfl⟩
   obtain ⟨e,he⟩:∃ e,(XW t j X).1=e:=⟨_,rfl⟩
   have am:=Kj hb
   have bw:=Kj he
   clear hb he
   go_upto_region 7 with fail
   refine wAp 3 [pV q 0,iV t,iV j] [29,30,31] nZ ?_
   intro w2 k2
   simp only [F8]
   refine cT Tryz.func91 [.pointer (some ⟨q,0,none⟩),.int .i64 t,.int .i64 j] ?_
   refine (rremove2_any w2 _ q X t j (ay.out.kept k2) (by have:=HX.out;simp only at this;omega)).mono ?_
   rintro r w3 ⟨Gq,rfl,b9,b4,ao,aW⟩
   refine ⟨.tuple #[e.v,.bool b],by rw [am.out,bw.out],?_⟩
   rw [am.out] at aW
   refine aT (.tuple #[e.v,.bool b]) ?_
   refine aT (e.v) ?_
   refine aT (.bool b) ?_
   refine nT zO ?_
   intro w4 ae bg
   refine sO e ae ?_
   intro w5 a8 a7 bM
   refine aT (.bool b) ?_
   simp only [Act.put,sA,sS,sZ]
   refine Kx ?_
   obtain ⟨aE,bI⟩:∃ x,w3.heap.size=x:=⟨_,rfl⟩
   rw [bI] at ae a8 a7 ⊢
   have l11:=a8.lt
   have a3:Kept w3 w5:=bg.trans' a7 (by omega)
   have a9:=bo.trans k2
   have ad:=Kj b9
   have aM:=Kj b4
   have aI:=Kj ao
   have aB:=Kj aW
   have aa:=Kj (JX a8)
   have z2:=a9.size
   have z3:=ao.size
   have z5:=a3.size
   clear b9 ao aW b4 ay k2 bo ae a8 a7 bM bg
   cases b with
   | true=>
    obtain ⟨an,hB,bF,hJ⟩:=ce.out (by rw [HN.out];omega)
    obtain ⟨X',ar⟩:∃ y,(XW t j X).2.2=y:=⟨_,rfl⟩
    have b1:=Kj ar
    rw [ar] at ad
    have hXl:X'.length≤64:=by
     have h1:=HX.out
     simp only at h1
     rw [← ar]
     unfold XW
     split
     ·exact h1
     simp only
     rw [List.length_eraseIdx]
     split <;> omega
    have HR:Hid (YJ t j L=(e,true,VX (levs (Z.take i)) (levs (Z.drop (i+1))) (pr,X'))):=by
     show _=_
     have e1:L=levs (Z.take i)++(pr,X)::levs (Z.drop (i+1)):=by
      rw [← EL.out]
      conv=>lhs;rw [HZ.out]
      rw [ZZ,VW]
     have e2:L.take i=levs (Z.take i):=by rw [← EL.out];simp [levs,List.map_take]
     rw [e2] at HM
     conv=>lhs;rw [e1]
     rw [removeL_at HM.out am.out,bw.out,b1.out]
    have HS:Hid (B.remove t j=(e,true,B.to (k:Int) (VX (levs (Z.take i)) (levs (Z.drop (i+1))) (pr,X')) B.last B.no)):=remove_side an av.out (by rw [b5.out];exact HR.out)
    obtain ⟨Fs',G',b3,bl,a5,_⟩:=WayZ.turn (A:=Z.take i) (R:=Z.drop (i+1)) (q:=q) (pr:=pr) (X:=X) (by rw [← HZ.out];exact HW.out.kept a9) aI.out ad.out aM.out
    have K3:Keep (fun b=>Fs b∨b=p) wo w3:=(Keep.mono (T:=fun b=>Fs b∨b=p) a9 (fun _ _ h=>h.elim)).trans a5 (fun b _ hb=>.inl hb)
    have bC:=(hB.kept a9).keep a5 (fun h=>(bF p h).2 rfl)
    obtain ⟨F',q1,q2,q3,_⟩:=hJ w3 _ _ _ _ _ K3 bC ⟨_,_,rfl,b3⟩ (bl.wide a9.size)
    have ah:¬ F' b6:=fun h=>(q2 b6 h).elim aS (fun h=>by omega)
    have aQ:¬ F' aE:=fun h=>by have:=q1.lt aE h;omega
    have Q5:=Kj (q1.kept a3)
    have ac:Hid (Blk w5 b6 35 JV.cells):=(az.out.keep q3 aS).kept a3
    have g5:Grow w F F':=q2.wide (by omega)
    have k5:Keep F w w5:=((Keep.mono (T:=F) (kz.trans O) (fun _ _ h=>h.elim)).trans q3 (fun _ _ h=>h)).kept a3
    obtain ⟨_,_,vq,br,bf,_⟩:=ad.out.kept a3
    have HQ:=Kj (br.cell 1)
    have bq:=Kj bf
    have b8:(levs (Z.take i)).length=i:=by rw [Xz,List.length_take,HN.out];omega
    have aj:=Kj b8
    have bv:(levs (Z.drop (i+1))).length=n-(i+1):=by rw [Xz,List.length_drop,HN.out]
    have bx:=Kj bv
    obtain ⟨A,hA⟩:∃ y,levs (Z.take i)=y:=⟨_,rfl⟩
    obtain ⟨R,hR⟩:∃ y,levs (Z.drop (i+1))=y:=⟨_,rfl⟩
    have bL:levs (Z.take i++(q,pr,X')::Z.drop (i+1))=A++(pr,X')::R:=by rw [ZZ,VW,hA,hR]
    rw [bL] at Q5
    rw [hA,hR] at HS HR
    rw [hA] at aj
    rw [hR] at bx
    clear ad aI aB aM b3 bl a5 K3 bC hB q1 q2 q3 hJ bF br bf hA hR bL b8 bv HZ HM ar b1 HR az aO au
    go_upto_region 9 with fail
    by_cases hem:X'.length=0
    ·skip
     refine wA 6 [pV q 0,pV q 0,pV q 1,vq,iV (X'.length:Int),bV true] [36,37,38,39,40,41] (nS 3 (ldC HQ.out) (nS 4 (sV rfl (fun a u E D hk=>Jx _ slR _ _ _ _ rfl (dD D 3) bq.out)) (nS 5 (aV rfl (fun a u E D hk=>JY rfl (dD D 4) rfl) (Ky (by omega))) nZ))) ?_
     intro w6 k6
     simp only [F8]
     have aU:Hid (B.remove t j=(e,true,B.to (k:Int) (A++R) B.last B.no)):=by
      show _=_
      rw [HS.out]
      unfold VX
      rw [if_pos (by rw [List.eq_nil_of_length_eq_zero hem];rfl)]
     clear HS
     have HS:=aU
     have af:(k:Int)=1∨(k:Int)=2:=by omega
     obtain ⟨v1,u1,J,G1,bi,e1,aN,aK,aA,aL,ax,bH⟩:=(Q5.out.kept k6).open_ af
     rw [Bok.to_sd af] at e1
     have aD:J.length=n:=by
      have:=congrArg List.length e1
      rw [Xz,List.length_append,List.length_cons,aj.out,bx.out] at this
      omega
     have ag:=Kj aN.sl
     rw [aD] at ag
     have bc:=Kj (rsd_cell an aK)
     have bS:=Kj aK
     have ca:=Kj aN
     have cd:=Kj bH
     have bW:=Kj aA
     have E1:=Kj e1
     have c7:=Kj aD
     have aq:=Kj (ac.out.kept k6)
     have N:=Kj (JJ aa.out k6)
     have K6:=k5.kept k6
     have z6:=k6.size
     have hpl:=ax p aL
     obtain ⟨va,bj,cb,bn⟩:=yU VV _ n i (by omega) _ w6 ag.out
     obtain ⟨vb,bN,bU,bs⟩:=jX VV _ n (i+1) (by omega) _ w6 ag.out
     have b2:=Kj bj
     have aR:=Kj bN
     have bu:Hid (∀ u,Kept w6 u→Sl u 97 1 va i (ptrs (J.take i))):=fun u hk=>by
      have:=bn u _ (ag.out.kept hk)
      rwa [ptrs_take] at this
     have bd:Hid (∀ u,Kept w6 u→Sl u 97 1 vb (n-(i+1)) (ptrs (J.drop (i+1)))):=fun u hk=>by
      have:=bs u _ (ag.out.kept hk)
      rwa [JQQ] at this
     have aJ:((i+1:Nat):Int)=(i:Int)+1:=by omega
     rw [aJ] at aR
     clear bj cb bn bN bU bs aK aN bH aA ax e1 aD Q5 ac aa
     go_upto_region 10 with fail
     refine wp_freeQ 24 21 (fun U:Nat=>U == 0 || U == 1 || U == 22 || U == 23) [.eq (.pointer (some ⟨p,0,none⟩)),.eq (.int .i64 (k:Int)),.emp w6.heap.size 97,.eq (.pointer (some ⟨p,0,none⟩)),.eq (.int .i64 (k:Int)),.eq (.pointer (some ⟨p,0,none⟩)),.eq (.pointer (some ⟨p,0,none⟩)),.eq (.pointer (some ⟨p,0+k*1,none⟩)),.eq (v1),.eq (.int .i64 (i:Int)),.eq (va),.sl w6.heap.size 97 1 i (ptrs (J.take i)),.eq (.pointer (some ⟨p,0,none⟩)),.eq (.int .i64 (k:Int)),.eq (.pointer (some ⟨p,0,none⟩)),.eq (.pointer (some ⟨p,0,none⟩)),.eq (.pointer (some ⟨p,0+k*1,none⟩)),.eq (v1),.eq (.int .i64 (i:Int)),.eq (.int .i64 ((i:Int)+1)),.eq (vb),.any,.eq (.pointer (some ⟨p,0,none⟩)),.eq (.pointer (some ⟨p,0,none⟩))] (fun U:Nat=>if U=0 then .pointer (some ⟨p,0,none⟩) else if U=1 then .int .i64 (k:Int) else if U=22 then .pointer (some ⟨p,0,none⟩) else if U=23 then .pointer (some ⟨p,0,none⟩) else undef) ((fun v' u u'=>Sl u' 97 1 v' (i+(n-(i+1))) (ptrs (J.take i)++ptrs (J.drop (i+1)))∧(∀ b,v'.ownBlock=some b→w6.heap.size≤b)∧Keep (fun b=>w6.heap.size≤b) u u')) (by kernel_rfl) rfl (fun U c4 aX=>by have h_:U=0∨U=1∨U=22∨U=23:=(by simp at aX;omega);rcases h_ with rfl | rfl | rfl | rfl <;> rfl) (by kernel_rfl) (by kernel_rfl) (by kernel_rfl) (fun U c4 aX=>by have h_:U=0∨U=1∨U=22∨U=23:=(by simp at aX;omega);rcases h_ with rfl | rfl | rfl | rfl;exact (fun a u I H=>yx (o:=⟨some 42,_,_,_,_,_⟩) (.pointer (some ⟨p,0,none⟩)) rfl (JQ rfl _) (Jq (.tmp 0) _ rfl (eE I)));exact (fun a u I H=>yx (o:=⟨some 43,_,_,_,_,_⟩) (.int .i64 (k:Int)) rfl (JQ rfl _) (Jq (.tmp 8) _ rfl (eE I)));exact (fun a u I H=>yx (o:=⟨some 64,_,_,_,_,_⟩) (.pointer (some ⟨p,0,none⟩)) rfl (JQ rfl _) (ZU (.tmp 42) ⟨p,0,none⟩ rfl (dD H 0)));exact (fun a u I H=>yx (o:=⟨some 65,_,_,_,_,_⟩) (.pointer (some ⟨p,0,none⟩)) rfl (JQ rfl _) (Jz 60 0 0 (.tmp 64) (p) (0) (0) rfl (dD H 22) (by kernel_rfl) rfl))) ?_ (fun a u I H hk=> (by obtain ⟨v',u',hr,bY,a5,c5⟩:=QQ VV _ u (a.eval (.tmp 53)) vb i (n-(i+1)) _ _ ((H 11 53 (by kernel_rfl))).1 (bd.out u hk) (xV _) (by unfold maxLen;omega) (by omega);have hq:=((H 11 53 (by kernel_rfl))).2;exact t_last (o:=⟨some 63,_,_,_,_,_⟩) (R:=(fun v' u u'=>Sl u' 97 1 v' (i+(n-(i+1))) (ptrs (J.take i)++ptrs (J.drop (i+1)))∧(∀ b,v'.ownBlock=some b→w6.heap.size≤b)∧Keep (fun b=>w6.heap.size≤b) u u')) (m:=21) (v:=v') (w':=u') rfl (JQ rfl _) (QV VV (.tmp 53) (.tmp 62) _ vb rfl rfl (dD H 20) v' u' hr) ⟨bY,fun b hb=>(c5 b hb).elim (hq b) (fun h=>Kv hk.size h),a5.mono (fun b _ hb=>hq b hb)⟩)) ?_
     ·refine ZX 1 rfl (by first | exact .inl rfl | exact .inr rfl) ?_
      refine ZX 2 rfl (by first | exact .inl rfl | exact .inr rfl) ?_
      refine JW 3 rfl (fun a u I H hk=>jV (.slice (some ⟨u.heap.size,0,none⟩) 0 0) _ rfl (JQ rfl _) (Uq 57 97 1 rfl VV.und (by kernel_rfl)) ⟨_,rfl,hk.size,Blk.new u _ _⟩ ((Keep.refl _ u).alloc _)) ?_
      refine JW 4 rfl (fun a u I H hk=>Xq _ rfl (JQ rfl _) (Jq (.tmp 0) _ rfl (eE I)) rfl) ?_
      refine JW 5 rfl (fun a u I H hk=>Xq _ rfl (JQ rfl _) (Jq (.tmp 8) _ rfl (eE I)) rfl) ?_
      refine JW 6 rfl (fun a u I H hk=>Xq _ rfl (JQ rfl _) (ZU (.tmp 45) ⟨p,0,none⟩ rfl (dD H 3)) rfl) ?_
      refine JW 7 rfl (fun a u I H hk=>Xq _ rfl (JQ rfl _) (Jz 60 0 0 (.tmp 47) (p) (0) (0) rfl (dD H 5) (by kernel_rfl) rfl) rfl) ?_
      refine JW 8 rfl (fun a u I H hk=>Xq _ rfl (JQ rfl _) (VQ 58 57 3 1 (.tmp 48) (.tmp 46) p 0 k rfl Tryz.underlying58 (by kernel_rfl) (dD H 6) (dD H 4) (by omega)) rfl) ?_
      refine JW 9 rfl (fun a u I H hk=>Xq _ rfl (JQ rfl _) (Qx 57 _ Tryz.underlying57 (.tmp 49) ⟨p,0+k*1,none⟩ (v1) rfl (dD H 7) (Kept.cell hk (bc.out))) rfl) ?_
      refine JW 10 rfl (fun a u I H hk=>Xq _ rfl (JQ rfl _) (Jq (.tmp 9) _ rfl (eE I)) rfl) ?_
      refine JW 11 rfl (fun a u I H hk=>Xq _ rfl (JQ rfl _) (WV VV (.tmp 50) (.tmp 51) _ va _ rfl (dD H 8) (dD H 9) (b2.out u)) rfl) ?_
      refine JW 12 rfl (fun a u I H hk=>(by obtain ⟨v',u',hr,hp,cg⟩:=Zx VV _ u (a.eval (.tmp 44)) va i w6.heap.size _ ((dD H 2)) (bu.out u hk) (xV _) (by omega) (by omega) hk.size;exact jV v' u' rfl (JQ rfl _) (QV VV (.tmp 44) (.tmp 52) _ va rfl rfl (dD H 10) v' u' hr) hp cg)) ?_
      refine JW 13 rfl (fun a u I H hk=>Xq _ rfl (JQ rfl _) (Jq (.tmp 0) _ rfl (eE I)) rfl) ?_
      refine JW 14 rfl (fun a u I H hk=>Xq _ rfl (JQ rfl _) (Jq (.tmp 8) _ rfl (eE I)) rfl) ?_
      refine JW 15 rfl (fun a u I H hk=>Xq _ rfl (JQ rfl _) (ZU (.tmp 54) ⟨p,0,none⟩ rfl (dD H 12)) rfl) ?_
      refine JW 16 rfl (fun a u I H hk=>Xq _ rfl (JQ rfl _) (Jz 60 0 0 (.tmp 56) (p) (0) (0) rfl (dD H 14) (by kernel_rfl) rfl) rfl) ?_
      refine JW 17 rfl (fun a u I H hk=>Xq _ rfl (JQ rfl _) (VQ 58 57 3 1 (.tmp 57) (.tmp 55) p 0 k rfl Tryz.underlying58 (by kernel_rfl) (dD H 15) (dD H 13) (by omega)) rfl) ?_
      refine JW 18 rfl (fun a u I H hk=>Xq _ rfl (JQ rfl _) (Qx 57 _ Tryz.underlying57 (.tmp 58) ⟨p,0+k*1,none⟩ (v1) rfl (dD H 16) (Kept.cell hk (bc.out))) rfl) ?_
      refine JW 19 rfl (fun a u I H hk=>Xq _ rfl (JQ rfl _) (Jq (.tmp 9) _ rfl (eE I)) rfl) ?_
      refine JW 20 rfl (fun a u I H hk=>Xq _ rfl (JQ rfl _) (YQ ((i:Int)+1) rfl (dD H 18) rfl rfl (by omega) (by omega)) rfl) ?_
      refine JW 21 rfl (fun a u I H hk=>Xq _ rfl (JQ rfl _) (ZW VV (.tmp 59) (.tmp 61) _ vb _ rfl (dD H 17) (dD H 19) (aR.out u)) rfl) ?_
      refine ZX 22 rfl (by first | exact .inl rfl | exact .inr rfl) ?_
      refine ZX 23 rfl (by first | exact .inl rfl | exact .inr rfl) ?_
      refine ZX 24 rfl (by first | exact .inl rfl | exact .inr rfl) ?_
      exact qsteps_nil
     intro gv w1 w7 hV h0 hR bB
     rw [dq 24 [42,43,44,45,46,47,48,49,50,51,52,53,54,55,56,57,58,59,60,61,62,63,64,65]]
     simp only [Fz7]
     have hT:=hR 63 (by kernel_rfl)
     generalize gv 63=v63 at hT ⊢
     rw [show gv 42=.pointer (some ⟨p,0,none⟩) from h0 0 (by omega) rfl 42 (by kernel_rfl)]
     rw [show gv 43=.int .i64 (k:Int) from h0 1 (by omega) rfl 43 (by kernel_rfl)]
     rw [show gv 64=.pointer (some ⟨p,0,none⟩) from h0 22 (by omega) rfl 64 (by kernel_rfl)]
     rw [show gv 65=.pointer (some ⟨p,0,none⟩) from h0 23 (by omega) rfl 65 (by kernel_rfl)]
     clear hV h0 hR
     obtain ⟨ak,bm,bO⟩:=hT
     have a4:=yW bB bO (Nat.le_refl _)
     have b7:=bS.out.kept a4
     refine UJ (.pointer (some ⟨p,0+k*1,none⟩)) rfl (VQ 58 57 3 1 (.tmp 65) (.tmp 43) p 0 k rfl Tryz.underlying58 (by kernel_rfl) rfl rfl (by omega)) ?_
     refine ZJ 57 p (0+k*1) 60 _ v63 _ _ rfl rfl (by kernel_rfl) (by kernel_rfl) (by kernel_rfl) (Zy ak) (Xy ak) b7 (by rw [rsd_len an];omega) ?_
     intro w8 aZ ai bQ
     simp only [Act.put,sA,sS,sZ]
     refine Kx ?_
     rw [rsd_set an] at aZ
     have ba:Sl w7 97 1 v63 (J.take i++J.drop (i+1)).length (ptrs (J.take i++J.drop (i+1))):=by
      rw [jx]
      rw [List.length_append,List.length_take,List.length_drop,c7.out,Nat.min_eq_left (by omega)]
      exact ak
     have aw:Keep (fun b=>bi b∨b=p) w6 w8:=(Keep.mono (T:=fun b=>bi b∨b=p) a4 (fun _ _ h=>h.elim)).trans ai (fun b _ e'=>.inr e')
     obtain ⟨Fs2,bJ,aH,_,_⟩:=ca.out.fewer (w':=w7) (Z':=J.take i++J.drop (i+1)) (v':=v63) (by rw [← List.eraseIdx_eq_take_drop_succ];exact List.eraseIdx_sublist _ _) (Keep.mono a4 (fun _ _ h=>h.elim)) ba (fun b hb=>.inr (bm b hb))
     have b0:=bJ.keep ai (fun b hb e'=>(aH b hb).elim (fun h=>(bW.out b h).2 e') (fun h=>by have e2:b=p:=e';omega))
     have cf:levs (J.take i++J.drop (i+1))=A++R:=by
      have a1:levs (J.take i)=A:=by
       have:levs (J.take i)=(levs J).take i:=by simp [levs,List.map_take]
       rw [this,E1.out,List.take_append_of_le_length (by have:=aj.out;omega),List.take_of_length_le (by have:=aj.out;omega)]
      have a2:levs (J.drop (i+1))=R:=by
       have:levs (J.drop (i+1))=(levs J).drop (i+1):=by simp [levs,List.map_drop]
       rw [this,E1.out,← aj.out,drop_past]
      rw [ZZ,a1,a2]
     obtain ⟨F2,q1,q2,q3,_⟩:=cd.out w8 _ _ _ _ _ aw aZ ⟨_,_,rfl,b0⟩ aH
     rw [cf,Bok.to_to af] at q1
     have Q8:=Kj q1
     have z67:=a4.size
     have c9:¬ F2 b6:=fun h=>(q2 b6 h).elim ah (fun h=>by omega)
     have bh:b6≠p:=fun e'=>ah (by rw [e'];exact aL)
     have aF:aE≠p:=fun e'=>aQ (by rw [e'];exact aL)
     have aC:=Kj (QJ (JJ N.out a4) ai aF)
     have c8:=Kj ((aq.out.kept a4).keep ai bh)
     have g8:Grow w F F2:=g5.trans q2 (by omega)
     have K8:Keep F w w8:=Keep.trans K6 q3 (fun b hb h=>(g5 b h).elim id (fun h=>by omega))
     have z8:=q3.size
     clear ak bm bO bB a4 b7 aZ ai bQ ba aw bJ aH b0 q1 q2 q3 b2 aR bu bd N aq
     go_upto_region 11 with fail
     refine wAp 1 [e.v] [67] (nS 0 (ldO aC.out) nZ) ?_
     intro wy ky
     simp only [F8]
     refine sO e (c8.out.kept ky) ?_
     intro wv aG ab bZ
     refine aT (.bool true) ?_
     simp only [Act.put,sA,sS,sZ]
     refine Kx ?_
     go_wp2
     refine bodyPost_ret (Qq (p:=6) (q:=7) rfl _ _ b6 _ e.cells true rfl rfl aG Tryz.underlying35 (by rw [Ord.len9];exact JU)) rfl ?_
     rw [HS.out]
     exact ⟨rfl,F2,(Q8.out.kept ky).keep ab (fun b hb e'=>c9 (by have e2:b=b6:=e';rw [← e2];exact hb)),g8,(K8.kept ky).new ab (by omega)⟩
    skip
    refine wA 6 [pV q 0,pV q 0,pV q 1,vq,iV (X'.length:Int),bV false] [36,37,38,39,40,41] (nS 3 (ldC HQ.out) (nS 4 (sV rfl (fun a u E D hk=>Jx _ slR _ _ _ _ rfl (dD D 3) bq.out)) (nS 5 (aV rfl (fun a u E D hk=>JY rfl (dD D 4) rfl) (Ku (by omega))) nZ))) ?_
    intro w6 k6
    simp only [F8]
    have aU:Hid (B.remove t j=(e,true,B.to (k:Int) (A++(pr,X')::R) B.last B.no)):=by
     show _=_
     rw [HS.out]
     unfold VX
     rw [if_neg (by cases X' with | nil=>exact absurd rfl hem | cons a b=>simp)]
    clear HS
    have HS:=aU
    have Q6:=Kj (Q5.out.kept k6)
    have aq:=Kj (ac.out.kept k6)
    have N:=Kj (JJ aa.out k6)
    have K6:=k5.kept k6
    have z6:=k6.size
    go_upto_region 11 with fail
    refine wAp 1 [e.v] [67] (nS 0 (ldO N.out) nZ) ?_
    intro wy ky
    simp only [F8]
    refine sO e (aq.out.kept ky) ?_
    intro wv aG ab bZ
    refine aT (.bool true) ?_
    simp only [Act.put,sA,sS,sZ]
    refine Kx ?_
    go_wp2
    refine bodyPost_ret (Qq (p:=6) (q:=7) rfl _ _ b6 _ e.cells true rfl rfl aG Tryz.underlying35 (by rw [Ord.len9];exact JU)) rfl ?_
    rw [HS.out]
    exact ⟨rfl,F',(Q6.out.kept ky).keep ab (fun b hb e'=>ah (by have e2:b=b6:=e';rw [← e2];exact hb)),g5,(K6.kept ky).new ab (by omega)⟩
   | false=>
    have bP:=(a9.trans (aB.out rfl)).trans a3
    have bT:Hid (∀ x ∈ L.take (i+1),(XW t j x.2).2.1=false):=by
     intro x hx
     rw [List.take_add_one,HA.out] at hx
     rcases List.mem_append.1 hx with hx | hx
     ·exact HM.out x hx
     simp at hx
     subst hx
     exact am.out
    clear ad aI aB HM aM a3
    go_wp2
    exact ⟨⟨i+1,by omega,by go_num,bT,bP⟩,by simp [intOf];omega⟩
  have bX:Hid (∀ s:Nat,s<k+1→(YJ t j (B.sd (s:Int))).2.1=false):=by
   intro s hs
   by_cases hsk:s=k
   ·subst hsk
    rw [b5.out,removeL_no fun x hx=>HM.out x (by rw [List.take_of_length_le (by rw [← EL.out,Xz,HN.out];omega)];exact hx)]
   exact av.out s (by omega)
  have bR:=O.trans a6
  clear HM
  go_wp2
  exact ⟨⟨k+1,by omega,by go_num,bX,bR⟩,by simp [intOf];omega⟩
 have a5:k=3:=by omega
 subst a5
 have HS:Hid (B.remove t j=(JV,false,B)):=bremove_none av.out
 have bG:=Kj (aO.out.kept O)
 have zr:=O.size
 clear av
 go_upto_region 14 with fail
 refine wAp 1 [JV.v] [70] (nS 0 (sV rfl (fun a u E D hk=>XZ 35 [] JV.cells rfl (by kernel_rfl))) nZ) ?_
 intro w4 k4
 simp only [F8]
 refine sO JV (bG.out.kept k4) ?_
 intro w5 a8 a7 bM
 refine aT (.bool false) ?_
 simp only [Act.put,sA,sS,sZ]
 refine Kx ?_
 go_wp2
 refine bodyPost_ret (Qq (p:=6) (q:=7) rfl _ _ b6 _ JV.cells false rfl rfl a8 Tryz.underlying35 (by rw [Ord.len9];exact JU)) rfl ?_
 rw [HS.out]
 exact ⟨F,rfl,((bb.out.kept O).kept k4).keep a7 (fun b hb e=>aS (by have e2:b=b6:=e;rw [← e2];exact hb)),Grow.refl _ _,((Keep.mono (T:=F) ((kz.trans O).trans k4) (fun _ _ h=>h.elim))).new a7 (by omega)⟩
theorem sl_ne {w:World} {T H:TypeId} {k n q:Nat} {v:Value} {cs O:List Value} (h:Sl w T k v n cs) (j:Blk w q H O) (J:H≠T):∀ b,v.ownBlock=some b→b≠q:=by
 intro b D e
 obtain ⟨_,A,c,rfl,_,_,_,N⟩:=h
 cases A with
 | none=>simp [Value.ownBlock] at D
 | some ad=>
  obtain ⟨g,off,cur,rfl,I,_⟩:=N _ rfl
  simp [Value.ownBlock] at D
  subst D
  subst e
  unfold Blk at I j
  rw [I] at j
  injection j with j
  injection j with _ j _
  exact J j.symm
def Kn.oner (base:Nat) (pr:Int):Kn:=⟨fun v w=>∃ g q,v=.slice (some ⟨g,0,none⟩) 1 1∧Blk w g 97 [.pointer (some ⟨q,0,none⟩)]∧Blk w q 100 [.int .i64 pr,.slice none 0 0]∧base≤q∧base≤g,fun _ _ _ ⟨g,q,h1,h2,h3,h4⟩ hk=>⟨g,q,h1,h2.kept hk,h3.kept hk,h4⟩⟩
def OneIn (base:Nat) (pr:Int) (i:Nat) (A:List Value):Value→World→World→Prop:=fun v' u u'=>∃ q,base≤q∧Blk u' q 100 [.int .i64 pr,.slice none 0 0]∧Sl u' 97 1 v' (i+1) (A++[.pointer (some ⟨q,0,none⟩)])∧(∀ b,v'.ownBlock=some b→base≤b)∧Keep (fun b=>base≤b) u u'
def yq (x:Int):List Value:=[.int .i64 x,.slice none 0 0]
theorem built_rl (x:Int):Tryz.prog.built 100 [(0,.int .i64 x)]=some (yq x).toArray:=by kernel_rfl
theorem exec_brl {a:Act} {o:Oper} {u:World} (x:Operand) (p:Int) (j:o.op=.build 100 #[(0,x)]) (hx:a.eval x=.int .i64 p):(execOp a.eval o).run Tryz.prog u=.ok (.value (.agg (yq p).toArray)) u:=
 XZ _ [(0,x)] (yq p) j (by simp only [List.map_cons,List.map_nil,hx];exact built_rl p)
theorem lvl_new {w:World} {q:Nat} {pr:Int} (h:Blk w q 100 [.int .i64 pr,.slice none 0 0]):Lvl pr 100 102 w (·=q) q []:=
 ⟨rfl,fun b e=>by rw [e];exact h.lt,_,h,Sl.nil _ _ _,fun b j=>by simp [Value.ownBlock] at j⟩
theorem sl_one1 {w:World} {g:Nat} {T:TypeId} {x:Value} (h:Blk w g T [x]):Sl w T 1 (.slice (some ⟨g,0,none⟩) 1 1) 1 [x]:=
 ⟨rfl,_,1,rfl,Nat.le_refl _,by unfold maxLen;omega,fun h=>(by cases h),fun ad j=>by injection j with j;subst j;exact ⟨g,0,[x],rfl,h,by simp,by simp⟩⟩
theorem ptr_one (q:Nat):∀ u ∈ [Value.pointer (some ⟨q,0,none⟩)],u.oneCell'=true:=by intro u j;simp at j;subst j;rfl
theorem rbrest_any (w:World) (F:Nat→Prop) (p:Nat) (B:Bok) (o:Ord) (h:RBk w F p B) (hs:o.side=1∨o.side=2) (hL:LvsOk (B.sd o.side)) :
  Calls Tryz.prog 60 #[.pointer (some ⟨p,0,none⟩),o.v] w fun r w'=>∃ F',r=.returned (.tuple #[])∧RBk w' F' p (B.to o.side (WY o (B.sd o.side)) B.last B.no)∧Grow w F F'∧Keep F w w':=by
 obtain ⟨k,aK,hk⟩:∃ k:Nat,(k=1∨k=2)∧o.side=(k:Int):=by
  rcases hs with hs | hs
  ·exact ⟨1,.inl rfl,hs⟩
  exact ⟨2,.inr rfl,hs⟩
 have bI:(k:Int)=1∨(k:Int)=2:=by omega
 obtain ⟨L,bp⟩:∃ L,B.sd o.side=L:=⟨_,rfl⟩
 rw [bp] at hL ⊢
 have bQ:Hid (B.sd (k:Int)=L):=by show _=_;rw [← hk];exact bp
 have aH:=Kj hk
 have bA:=h.lt
 have HK:=Kj h
 have HL:=Kj hL
 have bL:=h.1
 clear h hL bp hk hs
 go_enter Tryz.func60,Tryz.ntmps60
 go_upto_region 0 with fail
 refine tAp 1 [.k (.fresh w.heap.size 35 (o.cells))] (nS 0 (nV rfl (fun a u E D hk=>⟨_,_,XV 35 _ (o.cells) rfl (eE E),⟨_,rfl,hk.size,Blk.new u _ _⟩,((Keep.refl _ u).alloc _)⟩)) nZ) ?_
 intro gv w0 hV k0
 rw [dq 1 [3]]
 simp only [Fz7]
 have bJ:(.fresh w.heap.size 35 (o.cells):Kn).p (gv 3) w0:=hV 0 3 (by kernel_rfl)
 generalize gv 3=v3 at bJ ⊢
 clear hV
 obtain ⟨g,rfl,hg,hB⟩:=bJ
 refine Kx ?_
 have z0:=k0.size
 have lg:=hB.lt
 have HO:=Kj (JX hB)
 have bT:Hid (w0.cell? ⟨g,3,none⟩=some (.int .i64 (k:Int))):=by show _=_;rw [hB.cell,← aH.out];rfl
 obtain ⟨v,u0,Z,G,Fs,eL,hW,bt,bi,hp,aJ,hJ⟩:=(HK.out.kept k0).open_ bI
 rw [bQ.out] at eL
 have bj:Z.length≤64:=by have:=HL.out.len;rw [← eL,Xz] at this;exact this
 obtain ⟨n,hn⟩:∃ n,Z.length=n:=⟨_,rfl⟩
 rw [hn] at bj
 have HN:=Kj hn
 have HV:=Kj (rsd_cell aK bt)
 have HW:=Kj hW
 have bm:=Kj bt
 have EL:=Kj eL
 have HJ:=Kj hJ
 have bG:¬ (Fs g∨g=p):=fun h=>by
  rcases h with h | h
  ·have:=bA g (bi g h).1;omega
  have:=bA p bL;omega
 have bw:=Kj bG
 have hpl:=bA p bL
 have bl:¬ Fs p:=fun h=>(bi p h).2 rfl
 have HFs:=Kj bi
 have aQ:=Kj bl
 clear hW bt eL hJ bi hB bG hn aJ bl
 go_upto_region 1 with fail
 refine wHp 7 [pV p 0,pV g 3,iV (k:Int),pV p 0,pV p 0,pV p (0+k*1),v] [6,7,8,9,10,11,12] (nS 2 (ldF (fun u hk=>Kept.cell hk (bT.out))) (nS 5 (sV rfl (fun a u E D hk=>VQ 58 57 3 1 _ _ p 0 k rfl Tryz.underlying58 (by kernel_rfl) (dD D 4) (dD D 2) (by omega))) (nS 6 (ldC HV.out) nZ))) ?_
 intro w1 k1
 simp only [F8]
 refine aT (v) ?_
 simp only [Act.put,sA,sS,sZ]
 refine Kx ?_
 go_wp2_with fail
 go_loopw [5] (fun x wr=>∃ (i:Nat),i≤n∧x=.int .i64 (i:Int)∧Hid (∀ x ∈ L.take i,bet o.side x.1 o.price=true)∧Kept w0 wr) (fun x _=>n-(intOf x).toNat)
 case atStart=>exact ⟨0,Nat.zero_le _,rfl,by intro x hx;simp at hx,k1⟩
 obtain ⟨i,hi,rfl,HM,ak⟩:=hrel
 have aR:=Kj (JJ HO.out ak)
 have a5:Hid (Sl wr 97 1 v n (ptrs Z)):=by show Sl _ _ _ _ _ _;have:=(HW.out.kept ak).sl;rw [HN.out] at this;exact this
 by_cases aJ:i<n
 ·obtain ⟨gs,os,c,rfl⟩:=a5.out.some_ (by omega)
  obtain ⟨z,hz⟩:∃ z,Z[i]?=some z:=⟨Z[i]'(by rw [HN.out];omega),List.getElem?_eq_getElem (by rw [HN.out];omega)⟩
  obtain ⟨q,pr,X⟩:=z
  have HC:=Kj ((HW.out.kept ak).cell hz)
  have HZ:=Kj (split_at hz)
  have bn:Hid (wr.cell? ⟨q,0,none⟩=some (.int .i64 pr)):=by
   show _=_
   obtain ⟨_,_,x,hx,_⟩:=(HW.out.kept ak).lv (q,pr,X) (List.mem_of_getElem? hz)
   rw [hx.cell]
   rfl
  have HX:=Kj (HL.out.one (l:=(pr,X)) (by rw [← EL.out];exact qz (List.mem_of_getElem? hz)))
  have HA:Hid (L[i]?=some (pr,X)):=by show _=_;rw [← EL.out];exact qj hz
  clear hz
  go_upto_region 3 with fail
  refine wH 18 [iV (i:Int),.slice (some ⟨gs,os,none⟩) n c,iV (n:Int),bV true,bV true,pV g 3,iV o.side,.slice (some ⟨gs,os,none⟩) n c,iV (i:Int),pV gs (os+i*1),pV q 0,pV q 0,pV q 0,iV pr,pV g 5,iV o.price,bV (bet o.side pr o.price),bV (bet o.side pr o.price)] [13,14,15,16,17,18,19,20,21,22,23,24,25,26,27,28,29,30] (nS 2 (sV rfl (fun a u E D hk=>Jx _ VV _ _ _ _ rfl (dD D 1) a5.out)) (nS 3 (aV rfl (fun a u E D hk=>YU rfl (dD D 0) (dD D 2)) (Ky (by omega))) (nS 6 (ldR aR.out 3) (nS 9 (ixV VV (os) n i ((i:Int)) (aJ)) (nS 10 (ldC HC.out) (nS 13 (ldF (fun u hk=>Kept.cell hk (bn.out))) (nS 15 (ldR aR.out 5) (nS 16 (cV Tryz.func84 (fun u hk=>refBetter_any o.side pr o.price u)) nZ)))))))) ?_
  intro w2 k2
  simp only [F8]
  have aB:=ak.trans k2
  have aS:=Kj (JJ aR.out k2)
  have aZ:=Kj (k2.cell HC.out)
  have aO:=Kj (k2.cell bn.out)
  have a6:=Kj (a5.out.kept k2)
  clear HC bn a5 aR k2 ak
  cases U:bet o.side pr o.price with
  | true=>
   have bN:Hid (∀ x ∈ L.take (i+1),bet o.side x.1 o.price=true):=by
    intro x hx
    rw [List.take_add_one,HA.out] at hx
    rcases List.mem_append.1 hx with hx | hx
    ·exact HM.out x hx
    simp at hx
    subst hx
    exact U
   clear HM U
   go_wp2
   exact ⟨⟨i+1,by omega,by go_num,bN,aB⟩,by simp [intOf];omega⟩
  | false=>
   have HD:Hid (L=levs (Z.take i)++(pr,X)::levs (Z.drop (i+1))):=by
    show _=_
    rw [← EL.out]
    conv=>lhs;rw [HZ.out]
    rw [ZZ,VW]
   have HT:Hid (∀ x ∈ levs (Z.take i),bet o.side x.1 o.price=true):=by
    have e2:L.take i=levs (Z.take i):=by rw [← EL.out];simp [levs,List.map_take]
    rw [e2] at HM
    exact HM.out
   have bh:=Kj U
   clear U HM
   by_cases hpr:pr=o.price
   ·have bg:=Kj hpr
    clear hpr
    go_upto_region 5 with fail
    refine wH 16 [iV (i:Int),.slice (some ⟨gs,os,none⟩) n c,iV (n:Int),bV false,bV false,.slice (some ⟨gs,os,none⟩) n c,iV (i:Int),pV gs (os+i*1),pV q 0,pV q 0,pV q 0,iV pr,pV g 5,iV o.price,bV false,bV false] [33,34,35,36,37,38,39,40,41,42,43,44,45,46,47,48] (nS 2 (sV rfl (fun a u E D hk=>Jx _ VV _ _ _ _ rfl (dD D 1) a6.out)) (nS 3 (aV rfl (fun a u E D hk=>JY rfl (dD D 0) (dD D 2)) (Ku (by omega))) (nS 7 (ixV VV (os) n i ((i:Int)) (aJ)) (nS 8 (ldC aZ.out) (nS 11 (ldF (fun u hk=>Kept.cell hk (aO.out))) (nS 13 (ldR aS.out 5) (nS 14 (aV rfl (fun a u E D hk=>Xj rfl (dD D 11) (dD D 13)) (Ku (by have:=bg.out;omega))) nZ))))))) ?_
    intro I k3
    simp only [F8]
    have O:=aB.trans k3
    have b5:Hid (WY o L=levs (Z.take i)++(o.price,X++[Ent.of o])::levs (Z.drop (i+1))):=by
     show _=_
     rw [HD.out,restM_at HT.out,WY,if_neg (by rw [bh.out];simp),if_pos bg.out,bg.out]
    have ar:Hid (WayZ 100 102 97 I Fs (.slice (some ⟨gs,os,none⟩) n c) (Z.take i++(q,o.price,X)::Z.drop (i+1)) G):=by show WayZ _ _ _ _ _ _ _ _;rw [← bg.out,← HZ.out];exact HW.out.kept O
    have az:=Kj (k3.cell aZ.out)
    have ah:=Kj (bm.out.kept O)
    have aa:=Kj (JJ aS.out k3)
    have gX:Grow w0 Fs Fs:=Grow.refl _ _
    have kX:Keep (fun b=>Fs b∨b=p) w0 I:=Keep.mono (T:=fun b=>Fs b∨b=p) O (fun _ _ h=>h.elim)
    clear aS aZ aO a6 k3 aB O HD HT bh HA HZ
    have zX:=kX.size
    go_upto_region 7 with fail
    refine wHp 5 [.slice (some ⟨gs,os,none⟩) n c,iV (i:Int),pV gs (os+i*1),pV q 0,o.v] [64,65,66,67,68] (nS 2 (ixV VV (os) n i ((i:Int)) (aJ)) (nS 3 (ldC az.out) (nS 4 (ldO aa.out) nZ))) ?_
    intro wa ka
    simp only [F8]
    have a8:=ar.out.kept ka
    refine cT Tryz.func85 [.pointer (some ⟨q,0,none⟩),o.v] ?_
    refine (radd_any wa _ q X o (a8.lv (q,o.price,X) (by simp)) (by have:=HX.out;simp only at this;omega)).mono ?_
    rintro r wb ⟨F6,rfl,al,aw,au⟩
    refine ⟨_,rfl,?_⟩
    simp only [Act.put,sA,sS,sZ]
    refine Kx ?_
    obtain ⟨an,G2,ai,ax,J,_⟩:=a8.turn au al aw
    have za:=ka.size
    have zb:=J.size
    have av:¬ Fs p:=fun h=>(gX p h).elim aQ.out (fun h=>by omega)
    have ay:¬ Fs g:=fun h=>(gX g h).elim (fun h=>bw.out (.inl h)) (fun h=>by omega)
    have am:=Kj ((ah.out.kept ka).keep J av)
    have aj:=Kj (QJ (JJ aa.out ka) J ay)
    have kb:Keep (fun b=>Fs b∨b=p) w0 wb:=(kX.kept ka).trans J (fun b U h=>(gX b h).elim .inl (fun h=>by omega))
    have gb:Grow w0 Fs an:=gX.trans ax (by omega)
    have ag:=Kj ai
    have a3:Hid (wb.cell? ⟨g,3,none⟩=some (.int .i64 (k:Int))):=by show _=_;rw [← aH.out];exact Xx aj.out 3 _ rfl
    clear a8 al aw au ai ax J ar ah aa az ka av
    go_upto_region 8 with fail
    refine wHp 7 [pV p 0,pV g 3,iV (k:Int),.slice (some ⟨gs,os,none⟩) n c,pV p 0,pV p 0,pV p (0+k*1)] [70,71,72,73,74,75,76] (nS 2 (ldF (fun u hk=>Kept.cell hk (a3.out))) (nS 6 (sV rfl (fun a u E D hk=>VQ 58 57 3 1 _ _ p 0 k rfl Tryz.underlying58 (by kernel_rfl) (dD D 5) (dD D 2) (by omega))) nZ)) ?_
    intro wc kc
    simp only [F8]
    refine ZJ 57 p (0+k*1) 60 _ (.slice (some ⟨gs,os,none⟩) n c) _ _ rfl rfl (by kernel_rfl) (by kernel_rfl) (by kernel_rfl) rfl rfl (am.out.kept kc) (by rw [rsd_len aK];omega) ?_
    intro wd a7 ab bF
    simp only [Act.put]
    refine Kx ?_
    rw [rsd_set aK] at a7
    have af:¬ an p:=fun h=>(gb p h).elim aQ.out (fun h=>by omega)
    have ao:=(ag.out.kept kc).keep ab (fun b U e=>af (by have e2:b=p:=e;rw [← e2];exact U))
    have kd:Keep (fun b=>Fs b∨b=p) w0 wd:=(kb.kept kc).trans ab (fun b _ e=>.inr e)
    obtain ⟨F',q1,q2,q3,_⟩:=HJ.out wd _ _ _ _ _ kd a7 ⟨_,_,rfl,ao⟩ gb
    have HR:Hid (RBk wd F' p (B.to o.side (WY o L) B.last B.no)):=by
     show RBk _ _ _ _
     rw [b5.out,aH.out]
     rw [ZZ,VW] at q1
     exact q1
    have Q2:Grow w F F':=q2.wide z0
    have Q3:Keep F w wd:=Keep.any k0 q3
    clear q1 q2 q3 ao a7 ab kd kc kb gb ag am aj a3 af
    go_wp2
    go_end0
    first | exact ⟨rfl,F',HR.out,Q2,Q3⟩ | exact ⟨F',rfl,HR.out,Q2,Q3⟩
   go_upto_region 5 with fail
   refine wH 16 [iV (i:Int),.slice (some ⟨gs,os,none⟩) n c,iV (n:Int),bV false,bV false,.slice (some ⟨gs,os,none⟩) n c,iV (i:Int),pV gs (os+i*1),pV q 0,pV q 0,pV q 0,iV pr,pV g 5,iV o.price,bV true,bV true] [33,34,35,36,37,38,39,40,41,42,43,44,45,46,47,48] (nS 2 (sV rfl (fun a u E D hk=>Jx _ VV _ _ _ _ rfl (dD D 1) a6.out)) (nS 3 (aV rfl (fun a u E D hk=>JY rfl (dD D 0) (dD D 2)) (Ku (by omega))) (nS 7 (ixV VV (os) n i ((i:Int)) (aJ)) (nS 8 (ldC aZ.out) (nS 11 (ldF (fun u hk=>Kept.cell hk (aO.out))) (nS 13 (ldR aS.out 5) (nS 14 (aV rfl (fun a u E D hk=>Xj rfl (dD D 11) (dD D 13)) (Ky hpr)) nZ))))))) ?_
   intro I k3
   simp only [F8]
   have O:=aB.trans k3
   have b5:Hid (WY o L=levs (Z.take i)++(o.price,[]++[Ent.of o])::levs (Z.drop i)):=by
    show _=_
    have e5:levs (Z.drop i)=(pr,X)::levs (Z.drop (i+1)):=by
     have:Z.drop i=(q,pr,X)::Z.drop (i+1):=by
      conv=>lhs;rw [HZ.out]
      rw [List.drop_append,List.drop_of_length_le (by rw [List.length_take];omega),List.nil_append,List.length_take,HN.out,Nat.min_eq_left (by omega),Nat.sub_self]
      rfl
     rw [this]
     rfl
    rw [e5,HD.out,restM_at HT.out,WY,if_neg (by rw [bh.out];simp),if_neg (fun h=>hpr h)]
    rfl
   have aL:=Kj (JJ aS.out k3)
   clear aS aZ aO a6 k3 aB HD HT bh HA HZ hpr HX
   have aG:=Kj (HW.out.kept O)
   have bb:=Kj (bm.out.kept O)
   have a9:Hid (Sl I 97 1 (.slice (some ⟨gs,os,none⟩) n c) n (ptrs Z)):=by show Sl _ _ _ _ _ _;have:=aG.out.sl;rw [HN.out] at this;exact this
   have z3:=O.size
   obtain ⟨va,b3,bB,aY⟩:=yU VV _ n i (by omega) _ I a9.out
   obtain ⟨vb,bd,bq,b0⟩:=jX VV _ n i (by omega) _ I a9.out
   have aW:=Kj b3
   have b8:=Kj bd
   have b1:Hid (∀ u,Kept I u→Sl u 97 1 va i (ptrs (Z.take i))):=fun u hk=>by
    have:=aY u _ (a9.out.kept hk)
    rwa [ptrs_take] at this
   have aX:Hid (∀ u,Kept I u→Sl u 97 1 vb (n-i) (ptrs (Z.drop i))):=fun u hk=>by
    have:=b0 u _ (a9.out.kept hk)
    rwa [JQQ] at this
   have bS:p<I.heap.size:=by omega
   have bO:g<I.heap.size:=by omega
   clear b3 bB aY bd bq b0 a9
   go_upto_region 6 with fail
   refine wp_freeQ 14 10 (fun N:Nat=>N == 11 || N == 12 || N == 13) [.emp I.heap.size 97,.eq ((.slice (some ⟨gs,os,none⟩) n c)),.eq (.int .i64 (i:Int)),.eq (va),.sl I.heap.size 97 1 i (ptrs (Z.take i)),.eq (.pointer (some ⟨g,5,none⟩)),.eq (.int .i64 o.price),.eq (.agg (yq o.price).toArray),.fresh I.heap.size 100 (yq o.price),.oner I.heap.size o.price,.any,.eq ((.slice (some ⟨gs,os,none⟩) n c)),.eq (.int .i64 (i:Int)),.eq (vb)] (fun N:Nat=>if N=11 then (.slice (some ⟨gs,os,none⟩) n c) else if N=12 then .int .i64 (i:Int) else if N=13 then vb else undef) ((OneIn I.heap.size o.price i (ptrs (Z.take i)))) (by kernel_rfl) rfl (fun N bz aN=>by have h_:N=11∨N=12∨N=13:=(by simp at aN;omega);rcases h_ with rfl | rfl | rfl <;> rfl) (by kernel_rfl) (by kernel_rfl) (by kernel_rfl) (fun N bz aN=>by have h_:N=11∨N=12∨N=13:=(by simp at aN;omega);rcases h_ with rfl | rfl | rfl;exact (fun a u H j=>yx (o:=⟨some 60,_,_,_,_,_⟩) ((.slice (some ⟨gs,os,none⟩) n c)) rfl (JQ rfl _) (Jq (.tmp 4) _ rfl (eE H)));exact (fun a u H j=>yx (o:=⟨some 61,_,_,_,_,_⟩) (.int .i64 (i:Int)) rfl (JQ rfl _) (Jq (.tmp 5) _ rfl (eE H)));exact (fun a u H j=>yx (o:=⟨some 62,_,_,_,_,_⟩) (vb) rfl (JQ rfl _) (ZW VV (.tmp 60) (.tmp 61) _ vb _ rfl (dD j 11) (dD j 12) (b8.out u)))) ?_ (fun a u H j hk=> (by obtain ⟨g1,q,hx,bu,a2,bD,bP⟩:=(j 9 58 (by kernel_rfl));obtain ⟨v',u',hr,bv,b4,bx⟩:=QQ VV _ u (a.eval (.tmp 53)) (a.eval (.tmp 58)) i 1 _ _ ((j 4 53 (by kernel_rfl))).1 (by rw [hx];exact sl_one1 bu) (ptr_one _) (by unfold maxLen;omega) (by omega);have hq:=((j 4 53 (by kernel_rfl))).2;refine t_last (o:=⟨some 59,_,_,_,_,_⟩) (R:=(OneIn I.heap.size o.price i (ptrs (Z.take i)))) (m:=10) (v:=v') (w':=u') rfl (JQ rfl _) (QV VV (.tmp 53) (.tmp 58) _ _ rfl rfl rfl v' u' hr) ?_;exact ⟨q,bD,a2.keep b4 (fun h=>sl_ne ((j 4 53 (by kernel_rfl))).1 a2 (by decide) q h rfl),bv,fun b U=>(bx b U).elim (hq b) (fun h=>Kv hk.size h),b4.mono (fun b _ U=>hq b U)⟩)) ?_
   ·refine JW 1 rfl (fun a u H j hk=>jV (o:=⟨some 49,_,_,_,_,_⟩) (.slice (some ⟨u.heap.size,0,none⟩) 0 0) _ rfl (JQ rfl _) (Uq 57 97 1 rfl VV.und (by kernel_rfl)) ⟨_,rfl,hk.size,Blk.new u _ _⟩ ((Keep.refl _ u).alloc _)) ?_
    refine JW 2 rfl (fun a u H j hk=>Xq _ rfl (JQ rfl _) (Jq (.tmp 4) _ rfl (eE H)) rfl) ?_
    refine JW 3 rfl (fun a u H j hk=>Xq _ rfl (JQ rfl _) (Jq (.tmp 5) _ rfl (eE H)) rfl) ?_
    refine JW 4 rfl (fun a u H j hk=>Xq _ rfl (JQ rfl _) (WV VV (.tmp 50) (.tmp 51) _ va _ rfl (dD j 1) (dD j 2) (aW.out u)) rfl) ?_
    refine JW 5 rfl (fun a u H j hk=>(by obtain ⟨v',u',hr,hp,bC⟩:=Zx VV _ u (a.eval (.tmp 49)) va i I.heap.size _ ((dD j 0)) (b1.out u hk) (xV _) (by omega) (by omega) hk.size;exact jV v' u' rfl (JQ rfl _) (QV VV (.tmp 49) (.tmp 52) _ va rfl rfl (dD j 3) v' u' hr) hp bC)) ?_
    refine JW 6 rfl (fun a u H j hk=>Xq _ rfl (JQ rfl _) (Jz 35 5 5 (.tmp 3) (g) (0) (5) rfl (eE H) (by kernel_rfl) rfl) rfl) ?_
    refine JW 7 rfl (fun a u H j hk=>Xq _ rfl (JQ rfl _) (JZ 3 Tryz.underlying3 (.tmp 54) ⟨g,5,none⟩ (.int .i64 o.price) rfl (dD j 5) (Xx (JJ aL.out hk) 5 _ rfl)) rfl) ?_
    refine JW 8 rfl (fun a u H j hk=>Xq _ rfl (JQ rfl _) (exec_brl (.tmp 55) o.price rfl (dD j 6)) rfl) ?_
    refine JW 9 rfl (fun a u H j hk=>jV (.pointer (some ⟨u.heap.size,0,none⟩)) _ rfl (JQ rfl _) (XV 100 (.tmp 56) (yq o.price) rfl (dD j 7)) ⟨_,rfl,hk.size,Blk.new u _ _⟩ ((Keep.refl _ u).alloc _)) ?_
    refine JW 10 rfl (fun a u H j hk=>(by obtain ⟨q,hx,h2,h3⟩:=(j 8 57 (by kernel_rfl));exact jV (.slice (some ⟨u.heap.size,0,none⟩) 1 1) _ rfl (JQ rfl _) (exec_oneP VV (.tmp 57) q rfl hx) ⟨u.heap.size,q,rfl,Blk.new u _ _,h3.kept ((Keep.refl _ u).alloc _),h2,hk.size⟩ ((Keep.refl _ u).alloc _))) ?_
    refine ZX 11 rfl (by first | exact .inl rfl | exact .inr rfl) ?_
    refine ZX 12 rfl (by first | exact .inl rfl | exact .inr rfl) ?_
    refine ZX 13 rfl (by first | exact .inl rfl | exact .inr rfl) ?_
    refine ZX 14 rfl (by first | exact .inl rfl | exact .inr rfl) ?_
    exact qsteps_nil
   intro gv w1 w7 hV h0 hR b6
   rw [dq 14 [49,50,51,52,53,54,55,56,57,58,59,60,61,62]]
   simp only [Fz7]
   have hT:=hR 59 (by kernel_rfl)
   generalize gv 59=v59 at hT ⊢
   rw [show gv 60=(.slice (some ⟨gs,os,none⟩) n c) from h0 11 (by omega) rfl 60 (by kernel_rfl)]
   rw [show gv 61=.int .i64 (i:Int) from h0 12 (by omega) rfl 61 (by kernel_rfl)]
   rw [show gv 62=vb from h0 13 (by omega) rfl 62 (by kernel_rfl)]
   clear hV h0 hR
   obtain ⟨q,bs,a2,aD,aI,bf⟩:=hT
   have ac:=yW b6 bf (Nat.le_refl _)
   have aC:=sl_ne aD a2 (by decide)
   obtain ⟨v8,w8,b9,aE,aM,b2⟩:=QQ VV _ w7 v59 vb (i+1) (n-i) _ _ aD (aX.out w7 ac) (xV _) (by unfold maxLen;omega) (by omega)
   refine Vj v8 w8 rfl (QV VV (.tmp 59) (.tmp 62) v59 vb rfl (by kernel_rfl) (by kernel_rfl) v8 w8 b9) ?_
   refine aT (v8) ?_
   simp only [Act.put,sA,sS,sZ]
   refine Kx ?_
   have a1:Kept I w8:=Keep.trans ac aM (fun b U h=>by have:=aI b h;omega)
   have a4:Blk w8 q 100 [.int .i64 o.price,.slice none 0 0]:=a2.keep aM (fun h=>aC q h rfl)
   have aF:(Z.take i).length=i:=by rw [List.length_take,HN.out];omega
   have b7:(Z.drop i).length=n-i:=by rw [List.length_drop,HN.out]
   have be:WayZ 100 102 97 I Fs (.slice (some ⟨gs,os,none⟩) n c) (Z.take i++Z.drop i) G:=by rw [List.take_append_drop];exact aG.out
   have ba:ptrs (Z.take i++(q,o.price,([]:List Ent))::Z.drop i)=(ptrs (Z.take i)++[.pointer (some ⟨q,0,none⟩)])++ptrs (Z.drop i):=by rw [jx,List.append_assoc];rfl
   have bc:Sl w8 97 1 v8 ((Z.take i).length+1+(Z.drop i).length) (ptrs (Z.take i++(q,o.price,([]:List Ent))::Z.drop i)):=by rw [aF,b7,ba];exact aE
   have z8:=a1.size
   have z7:=ac.size
   obtain ⟨FX,GX,ae,aU,br,_⟩:=be.more (w':=w8) (v':=v8) (q:=q) (pr:=o.price) (F1:=(·=q)) (Keep.mono a1 (fun _ _ h=>h.elim)) bc (fun b U=>⟨.inr ((b2 b U).elim (aI b) (fun h=>by omega)),fun e=>sl_ne aE a4 (by decide) b U e⟩) (lvl_new a4) (fun b e=>by have e2:b=q:=e;rw [e2];exact bs)
   obtain ⟨m,hm⟩:∃ m,n+1=m:=⟨_,rfl⟩
   have bo:i<m:=by omega
   have aq:(Z.take i++(q,o.price,([]:List Ent))::Z.drop i).length=m:=by rw [List.length_append,List.length_cons,aF,b7];omega
   obtain ⟨ad,os2,c2,aA⟩:=ae.some_ (by rw [aq];omega)
   rw [aq] at aA
   subst aA
   have ar:=Kj ae
   have az:=Kj (ae.cell (i:=i) (z:=(q,o.price,[])) (by rw [List.getElem?_append_right (by omega),aF,Nat.sub_self];rfl))
   have ah:=Kj (bb.out.kept a1)
   have aa:=Kj (JJ aL.out a1)
   have gX:Grow w0 Fs FX:=aU.wide z3
   have kX:Keep (fun b=>Fs b∨b=p) w0 w8:=Keep.mono (T:=fun b=>Fs b∨b=p) (O.trans a1) (fun _ _ h=>h.elim)
   clear ae br aU a4 a2 aE aM b2 b9 aD aI bf b6 ac a1 aC be ba bc aG bb aL aW b8 b1 aX
   have zX:=kX.size
   go_upto_region 7 with fail
   refine wHp 5 [.slice (some ⟨ad,os2,none⟩) m c2,iV (i:Int),pV ad (os2+i*1),pV q 0,o.v] [64,65,66,67,68] (nS 2 (ixV VV (os2) m i ((i:Int)) (bo)) (nS 3 (ldC az.out) (nS 4 (ldO aa.out) nZ))) ?_
   intro wa ka
   simp only [F8]
   have a8:=ar.out.kept ka
   refine cT Tryz.func85 [.pointer (some ⟨q,0,none⟩),o.v] ?_
   refine (radd_any wa _ q [] o (a8.lv (q,o.price,[]) (by simp)) (by simp)).mono ?_
   rintro r wb ⟨F6,rfl,al,aw,au⟩
   refine ⟨_,rfl,?_⟩
   simp only [Act.put,sA,sS,sZ]
   refine Kx ?_
   obtain ⟨an,G2,ai,ax,J,_⟩:=a8.turn au al aw
   have za:=ka.size
   have zb:=J.size
   have av:¬ FX p:=fun h=>(gX p h).elim aQ.out (fun h=>by omega)
   have ay:¬ FX g:=fun h=>(gX g h).elim (fun h=>bw.out (.inl h)) (fun h=>by omega)
   have am:=Kj ((ah.out.kept ka).keep J av)
   have aj:=Kj (QJ (JJ aa.out ka) J ay)
   have kb:Keep (fun b=>Fs b∨b=p) w0 wb:=(kX.kept ka).trans J (fun b U h=>(gX b h).elim .inl (fun h=>by omega))
   have gb:Grow w0 Fs an:=gX.trans ax (by omega)
   have ag:=Kj ai
   have a3:Hid (wb.cell? ⟨g,3,none⟩=some (.int .i64 (k:Int))):=by show _=_;rw [← aH.out];exact Xx aj.out 3 _ rfl
   clear a8 al aw au ai ax J ar ah aa az ka av
   go_upto_region 8 with fail
   refine wHp 7 [pV p 0,pV g 3,iV (k:Int),.slice (some ⟨ad,os2,none⟩) m c2,pV p 0,pV p 0,pV p (0+k*1)] [70,71,72,73,74,75,76] (nS 2 (ldF (fun u hk=>Kept.cell hk (a3.out))) (nS 6 (sV rfl (fun a u E D hk=>VQ 58 57 3 1 _ _ p 0 k rfl Tryz.underlying58 (by kernel_rfl) (dD D 5) (dD D 2) (by omega))) nZ)) ?_
   intro wc kc
   simp only [F8]
   refine ZJ 57 p (0+k*1) 60 _ (.slice (some ⟨ad,os2,none⟩) m c2) _ _ rfl rfl (by kernel_rfl) (by kernel_rfl) (by kernel_rfl) rfl rfl (am.out.kept kc) (by rw [rsd_len aK];omega) ?_
   intro wd a7 ab bF
   simp only [Act.put]
   refine Kx ?_
   rw [rsd_set aK] at a7
   have af:¬ an p:=fun h=>(gb p h).elim aQ.out (fun h=>by omega)
   have ao:=(ag.out.kept kc).keep ab (fun b U e=>af (by have e2:b=p:=e;rw [← e2];exact U))
   have kd:Keep (fun b=>Fs b∨b=p) w0 wd:=(kb.kept kc).trans ab (fun b _ e=>.inr e)
   obtain ⟨F',q1,q2,q3,_⟩:=HJ.out wd _ _ _ _ _ kd a7 ⟨_,_,rfl,ao⟩ gb
   have HR:Hid (RBk wd F' p (B.to o.side (WY o L) B.last B.no)):=by
    show RBk _ _ _ _
    rw [b5.out,aH.out]
    rw [ZZ,VW] at q1
    exact q1
   have Q2:Grow w F F':=q2.wide z0
   have Q3:Keep F w wd:=Keep.any k0 q3
   clear q1 q2 q3 ao a7 ab kd kc kb gb ag am aj a3 af
   go_wp2
   go_end0
   first | exact ⟨rfl,F',HR.out,Q2,Q3⟩ | exact ⟨F',rfl,HR.out,Q2,Q3⟩
 have bM:i=n:=by omega
 subst bM
 go_upto_region 3 with fail
 refine wH 18 [iV (i:Int),v,iV (i:Int),bV false,bV false,undef,undef,undef,undef,undef,undef,undef,undef,undef,undef,undef,undef,bV false] [13,14,15,16,17,18,19,20,21,22,23,24,25,26,27,28,29,30] (nS 2 (sV rfl (fun a u E D hk=>Jx _ VV _ _ _ _ rfl (dD D 1) a5.out)) (nS 3 (aV rfl (fun a u E D hk=>YU rfl (dD D 0) (dD D 2)) (Ku (by omega))) nZ)) ?_
 intro w2 k2
 simp only [F8]
 have aB:=ak.trans k2
 have a6:=Kj (a5.out.kept k2)
 go_upto_region 5 with fail
 refine wH 16 [iV (i:Int),v,iV (i:Int),bV true,bV true,undef,undef,undef,undef,undef,undef,undef,undef,undef,undef,bV true] [33,34,35,36,37,38,39,40,41,42,43,44,45,46,47,48] (nS 2 (sV rfl (fun a u E D hk=>Jx _ VV _ _ _ _ rfl (dD D 1) a6.out)) (nS 3 (aV rfl (fun a u E D hk=>JY rfl (dD D 0) (dD D 2)) (Ky (by omega))) nZ)) ?_
 intro I k3
 simp only [F8]
 have O:=aB.trans k3
 have b5:Hid (WY o L=levs (Z.take i)++(o.price,[]++[Ent.of o])::levs (Z.drop i)):=by
  show _=_
  have e5:Z.drop i=[]:=List.drop_of_length_le (by rw [HN.out];omega)
  have e6:L=levs (Z.take i):=by rw [← EL.out,List.take_of_length_le (by rw [HN.out];omega)]
  rw [e5]
  have h3:=restM_at (o:=o) (R:=[]) (A:=L) (by
   have e2:L.take i=L:=List.take_of_length_le (by rw [← EL.out,Xz,HN.out];omega)
   rw [e2] at HM
   exact HM.out)
  rw [List.append_nil] at h3
  rw [h3,WY]
  conv=>lhs;rw [e6]
  rfl
 have aL:=Kj (JJ aR.out (k2.trans k3))
 clear HM a6 a5 aR k2 k3 ak aB aJ
 obtain ⟨n,bR⟩:∃ n,n=i:=⟨_,rfl⟩
 have bj:n≤64:=by omega
 have hin2:i≤n:=by omega
 have bH:Hid (Z.length=n):=by show _=_;rw [bR];exact HN.out
 clear HN
 have HN:=bH
 clear bH
 have aG:=Kj (HW.out.kept O)
 have bb:=Kj (bm.out.kept O)
 have a9:Hid (Sl I 97 1 v n (ptrs Z)):=by show Sl _ _ _ _ _ _;have:=aG.out.sl;rw [HN.out] at this;exact this
 have z3:=O.size
 obtain ⟨va,b3,bB,aY⟩:=yU VV _ n i (by omega) _ I a9.out
 obtain ⟨vb,bd,bq,b0⟩:=jX VV _ n i (by omega) _ I a9.out
 have aW:=Kj b3
 have b8:=Kj bd
 have b1:Hid (∀ u,Kept I u→Sl u 97 1 va i (ptrs (Z.take i))):=fun u hk=>by
  have:=aY u _ (a9.out.kept hk)
  rwa [ptrs_take] at this
 have aX:Hid (∀ u,Kept I u→Sl u 97 1 vb (n-i) (ptrs (Z.drop i))):=fun u hk=>by
  have:=b0 u _ (a9.out.kept hk)
  rwa [JQQ] at this
 have bS:p<I.heap.size:=by omega
 have bO:g<I.heap.size:=by omega
 clear b3 bB aY bd bq b0 a9
 go_upto_region 6 with fail
 refine wp_freeQ 14 10 (fun N:Nat=>N == 11 || N == 12 || N == 13) [.emp I.heap.size 97,.eq (v),.eq (.int .i64 (i:Int)),.eq (va),.sl I.heap.size 97 1 i (ptrs (Z.take i)),.eq (.pointer (some ⟨g,5,none⟩)),.eq (.int .i64 o.price),.eq (.agg (yq o.price).toArray),.fresh I.heap.size 100 (yq o.price),.oner I.heap.size o.price,.any,.eq (v),.eq (.int .i64 (i:Int)),.eq (vb)] (fun N:Nat=>if N=11 then v else if N=12 then .int .i64 (i:Int) else if N=13 then vb else undef) ((OneIn I.heap.size o.price i (ptrs (Z.take i)))) (by kernel_rfl) rfl (fun N bz aN=>by have h_:N=11∨N=12∨N=13:=(by simp at aN;omega);rcases h_ with rfl | rfl | rfl <;> rfl) (by kernel_rfl) (by kernel_rfl) (by kernel_rfl) (fun N bz aN=>by have h_:N=11∨N=12∨N=13:=(by simp at aN;omega);rcases h_ with rfl | rfl | rfl;exact (fun a u H j=>yx (o:=⟨some 60,_,_,_,_,_⟩) (v) rfl (JQ rfl _) (Jq (.tmp 4) _ rfl (eE H)));exact (fun a u H j=>yx (o:=⟨some 61,_,_,_,_,_⟩) (.int .i64 (i:Int)) rfl (JQ rfl _) (Jq (.tmp 5) _ rfl (eE H)));exact (fun a u H j=>yx (o:=⟨some 62,_,_,_,_,_⟩) (vb) rfl (JQ rfl _) (ZW VV (.tmp 60) (.tmp 61) _ vb _ rfl (dD j 11) (dD j 12) (b8.out u)))) ?_ (fun a u H j hk=> (by obtain ⟨g1,q,hx,bu,a2,bD,bP⟩:=(j 9 58 (by kernel_rfl));obtain ⟨v',u',hr,bv,b4,bx⟩:=QQ VV _ u (a.eval (.tmp 53)) (a.eval (.tmp 58)) i 1 _ _ ((j 4 53 (by kernel_rfl))).1 (by rw [hx];exact sl_one1 bu) (ptr_one _) (by unfold maxLen;omega) (by omega);have hq:=((j 4 53 (by kernel_rfl))).2;refine t_last (o:=⟨some 59,_,_,_,_,_⟩) (R:=(OneIn I.heap.size o.price i (ptrs (Z.take i)))) (m:=10) (v:=v') (w':=u') rfl (JQ rfl _) (QV VV (.tmp 53) (.tmp 58) _ _ rfl rfl rfl v' u' hr) ?_;exact ⟨q,bD,a2.keep b4 (fun h=>sl_ne ((j 4 53 (by kernel_rfl))).1 a2 (by decide) q h rfl),bv,fun b U=>(bx b U).elim (hq b) (fun h=>Kv hk.size h),b4.mono (fun b _ U=>hq b U)⟩)) ?_
 ·refine JW 1 rfl (fun a u H j hk=>jV (o:=⟨some 49,_,_,_,_,_⟩) (.slice (some ⟨u.heap.size,0,none⟩) 0 0) _ rfl (JQ rfl _) (Uq 57 97 1 rfl VV.und (by kernel_rfl)) ⟨_,rfl,hk.size,Blk.new u _ _⟩ ((Keep.refl _ u).alloc _)) ?_
  refine JW 2 rfl (fun a u H j hk=>Xq _ rfl (JQ rfl _) (Jq (.tmp 4) _ rfl (eE H)) rfl) ?_
  refine JW 3 rfl (fun a u H j hk=>Xq _ rfl (JQ rfl _) (Jq (.tmp 5) _ rfl (eE H)) rfl) ?_
  refine JW 4 rfl (fun a u H j hk=>Xq _ rfl (JQ rfl _) (WV VV (.tmp 50) (.tmp 51) _ va _ rfl (dD j 1) (dD j 2) (aW.out u)) rfl) ?_
  refine JW 5 rfl (fun a u H j hk=>(by obtain ⟨v',u',hr,hp,bC⟩:=Zx VV _ u (a.eval (.tmp 49)) va i I.heap.size _ ((dD j 0)) (b1.out u hk) (xV _) (by omega) (by omega) hk.size;exact jV v' u' rfl (JQ rfl _) (QV VV (.tmp 49) (.tmp 52) _ va rfl rfl (dD j 3) v' u' hr) hp bC)) ?_
  refine JW 6 rfl (fun a u H j hk=>Xq _ rfl (JQ rfl _) (Jz 35 5 5 (.tmp 3) (g) (0) (5) rfl (eE H) (by kernel_rfl) rfl) rfl) ?_
  refine JW 7 rfl (fun a u H j hk=>Xq _ rfl (JQ rfl _) (JZ 3 Tryz.underlying3 (.tmp 54) ⟨g,5,none⟩ (.int .i64 o.price) rfl (dD j 5) (Xx (JJ aL.out hk) 5 _ rfl)) rfl) ?_
  refine JW 8 rfl (fun a u H j hk=>Xq _ rfl (JQ rfl _) (exec_brl (.tmp 55) o.price rfl (dD j 6)) rfl) ?_
  refine JW 9 rfl (fun a u H j hk=>jV (.pointer (some ⟨u.heap.size,0,none⟩)) _ rfl (JQ rfl _) (XV 100 (.tmp 56) (yq o.price) rfl (dD j 7)) ⟨_,rfl,hk.size,Blk.new u _ _⟩ ((Keep.refl _ u).alloc _)) ?_
  refine JW 10 rfl (fun a u H j hk=>(by obtain ⟨q,hx,h2,h3⟩:=(j 8 57 (by kernel_rfl));exact jV (.slice (some ⟨u.heap.size,0,none⟩) 1 1) _ rfl (JQ rfl _) (exec_oneP VV (.tmp 57) q rfl hx) ⟨u.heap.size,q,rfl,Blk.new u _ _,h3.kept ((Keep.refl _ u).alloc _),h2,hk.size⟩ ((Keep.refl _ u).alloc _))) ?_
  refine ZX 11 rfl (by first | exact .inl rfl | exact .inr rfl) ?_
  refine ZX 12 rfl (by first | exact .inl rfl | exact .inr rfl) ?_
  refine ZX 13 rfl (by first | exact .inl rfl | exact .inr rfl) ?_
  refine ZX 14 rfl (by first | exact .inl rfl | exact .inr rfl) ?_
  exact qsteps_nil
 intro gv w1 w7 hV h0 hR b6
 rw [dq 14 [49,50,51,52,53,54,55,56,57,58,59,60,61,62]]
 simp only [Fz7]
 have hT:=hR 59 (by kernel_rfl)
 generalize gv 59=v59 at hT ⊢
 rw [show gv 60=v from h0 11 (by omega) rfl 60 (by kernel_rfl)]
 rw [show gv 61=.int .i64 (i:Int) from h0 12 (by omega) rfl 61 (by kernel_rfl)]
 rw [show gv 62=vb from h0 13 (by omega) rfl 62 (by kernel_rfl)]
 clear hV h0 hR
 obtain ⟨q,bs,a2,aD,aI,bf⟩:=hT
 have ac:=yW b6 bf (Nat.le_refl _)
 have aC:=sl_ne aD a2 (by decide)
 obtain ⟨v8,w8,b9,aE,aM,b2⟩:=QQ VV _ w7 v59 vb (i+1) (n-i) _ _ aD (aX.out w7 ac) (xV _) (by unfold maxLen;omega) (by omega)
 refine Vj v8 w8 rfl (QV VV (.tmp 59) (.tmp 62) v59 vb rfl (by kernel_rfl) (by kernel_rfl) v8 w8 b9) ?_
 refine aT (v8) ?_
 simp only [Act.put,sA,sS,sZ]
 refine Kx ?_
 have a1:Kept I w8:=Keep.trans ac aM (fun b U h=>by have:=aI b h;omega)
 have a4:Blk w8 q 100 [.int .i64 o.price,.slice none 0 0]:=a2.keep aM (fun h=>aC q h rfl)
 have aF:(Z.take i).length=i:=by rw [List.length_take,HN.out];omega
 have b7:(Z.drop i).length=n-i:=by rw [List.length_drop,HN.out]
 have be:WayZ 100 102 97 I Fs v (Z.take i++Z.drop i) G:=by rw [List.take_append_drop];exact aG.out
 have ba:ptrs (Z.take i++(q,o.price,([]:List Ent))::Z.drop i)=(ptrs (Z.take i)++[.pointer (some ⟨q,0,none⟩)])++ptrs (Z.drop i):=by rw [jx,List.append_assoc];rfl
 have bc:Sl w8 97 1 v8 ((Z.take i).length+1+(Z.drop i).length) (ptrs (Z.take i++(q,o.price,([]:List Ent))::Z.drop i)):=by rw [aF,b7,ba];exact aE
 have z8:=a1.size
 have z7:=ac.size
 obtain ⟨FX,GX,ae,aU,br,_⟩:=be.more (w':=w8) (v':=v8) (q:=q) (pr:=o.price) (F1:=(·=q)) (Keep.mono a1 (fun _ _ h=>h.elim)) bc (fun b U=>⟨.inr ((b2 b U).elim (aI b) (fun h=>by omega)),fun e=>sl_ne aE a4 (by decide) b U e⟩) (lvl_new a4) (fun b e=>by have e2:b=q:=e;rw [e2];exact bs)
 obtain ⟨m,hm⟩:∃ m,n+1=m:=⟨_,rfl⟩
 have bo:i<m:=by omega
 have aq:(Z.take i++(q,o.price,([]:List Ent))::Z.drop i).length=m:=by rw [List.length_append,List.length_cons,aF,b7];omega
 obtain ⟨ad,os2,c2,aA⟩:=ae.some_ (by rw [aq];omega)
 rw [aq] at aA
 subst aA
 have ar:=Kj ae
 have az:=Kj (ae.cell (i:=i) (z:=(q,o.price,[])) (by rw [List.getElem?_append_right (by omega),aF,Nat.sub_self];rfl))
 have ah:=Kj (bb.out.kept a1)
 have aa:=Kj (JJ aL.out a1)
 have gX:Grow w0 Fs FX:=aU.wide z3
 have kX:Keep (fun b=>Fs b∨b=p) w0 w8:=Keep.mono (T:=fun b=>Fs b∨b=p) (O.trans a1) (fun _ _ h=>h.elim)
 clear ae br aU a4 a2 aE aM b2 b9 aD aI bf b6 ac a1 aC be ba bc aG bb aL aW b8 b1 aX
 have zX:=kX.size
 go_upto_region 7 with fail
 refine wHp 5 [.slice (some ⟨ad,os2,none⟩) m c2,iV (i:Int),pV ad (os2+i*1),pV q 0,o.v] [64,65,66,67,68] (nS 2 (ixV VV (os2) m i ((i:Int)) (bo)) (nS 3 (ldC az.out) (nS 4 (ldO aa.out) nZ))) ?_
 intro wa ka
 simp only [F8]
 have a8:=ar.out.kept ka
 refine cT Tryz.func85 [.pointer (some ⟨q,0,none⟩),o.v] ?_
 refine (radd_any wa _ q [] o (a8.lv (q,o.price,[]) (by simp)) (by simp)).mono ?_
 rintro r wb ⟨F6,rfl,al,aw,au⟩
 refine ⟨_,rfl,?_⟩
 simp only [Act.put,sA,sS,sZ]
 refine Kx ?_
 obtain ⟨an,G2,ai,ax,J,_⟩:=a8.turn au al aw
 have za:=ka.size
 have zb:=J.size
 have av:¬ FX p:=fun h=>(gX p h).elim aQ.out (fun h=>by omega)
 have ay:¬ FX g:=fun h=>(gX g h).elim (fun h=>bw.out (.inl h)) (fun h=>by omega)
 have am:=Kj ((ah.out.kept ka).keep J av)
 have aj:=Kj (QJ (JJ aa.out ka) J ay)
 have kb:Keep (fun b=>Fs b∨b=p) w0 wb:=(kX.kept ka).trans J (fun b U h=>(gX b h).elim .inl (fun h=>by omega))
 have gb:Grow w0 Fs an:=gX.trans ax (by omega)
 have ag:=Kj ai
 have a3:Hid (wb.cell? ⟨g,3,none⟩=some (.int .i64 (k:Int))):=by show _=_;rw [← aH.out];exact Xx aj.out 3 _ rfl
 clear a8 al aw au ai ax J ar ah aa az ka av
 go_upto_region 8 with fail
 refine wHp 7 [pV p 0,pV g 3,iV (k:Int),.slice (some ⟨ad,os2,none⟩) m c2,pV p 0,pV p 0,pV p (0+k*1)] [70,71,72,73,74,75,76] (nS 2 (ldF (fun u hk=>Kept.cell hk (a3.out))) (nS 6 (sV rfl (fun a u E D hk=>VQ 58 57 3 1 _ _ p 0 k rfl Tryz.underlying58 (by kernel_rfl) (dD D 5) (dD D 2) (by omega))) nZ)) ?_
 intro wc kc
 simp only [F8]
 refine ZJ 57 p (0+k*1) 60 _ (.slice (some ⟨ad,os2,none⟩) m c2) _ _ rfl rfl (by kernel_rfl) (by kernel_rfl) (by kernel_rfl) rfl rfl (am.out.kept kc) (by rw [rsd_len aK];omega) ?_
 intro wd a7 ab bF
 simp only [Act.put]
 refine Kx ?_
 rw [rsd_set aK] at a7
 have af:¬ an p:=fun h=>(gb p h).elim aQ.out (fun h=>by omega)
 have ao:=(ag.out.kept kc).keep ab (fun b U e=>af (by have e2:b=p:=e;rw [← e2];exact U))
 have kd:Keep (fun b=>Fs b∨b=p) w0 wd:=(kb.kept kc).trans ab (fun b _ e=>.inr e)
 obtain ⟨F',q1,q2,q3,_⟩:=HJ.out wd _ _ _ _ _ kd a7 ⟨_,_,rfl,ao⟩ gb
 have HR:Hid (RBk wd F' p (B.to o.side (WY o L) B.last B.no)):=by
  show RBk _ _ _ _
  rw [b5.out,aH.out]
  rw [ZZ,VW] at q1
  exact q1
 have Q2:Grow w F F':=q2.wide z0
 have Q3:Keep F w wd:=Keep.any k0 q3
 clear q1 q2 q3 ao a7 ab kd kc kb gb ag am aj a3 af
 go_wp2
 go_end0
 first | exact ⟨rfl,F',HR.out,Q2,Q3⟩ | exact ⟨F',rfl,HR.out,Q2,Q3⟩
section
variable {T E P:TypeId} {w w':World} {F:Nat→Prop} {v:Value} {Z:Zs} {G:Nat→Nat→Prop}
theorem WayZ.moreX {A R:Zs} {v':Value} {q:Nat} {pr:Int} {X:List Ent} {F1:Nat→Prop} (h:WayZ T E P w F v (A++R) G) (hk:Keep (fun b=>v.ownBlock=some b) w w') (hv:Sl w' P 1 v' (A.length+1+R.length) (ptrs (A++(q,pr,X)::R))) (ho:∀ b,v'.ownBlock=some b→(v.ownBlock=some b∨w.heap.size≤b)∧¬ F1 b)
  (h1:Lvl pr T E w' F1 q X) (hn:∀ b,F1 b→w.heap.size≤b) :
  ∃ F' G',WayZ T E P w' F' v' (A++(q,pr,X)::R) G'∧Grow w F F'∧Keep F w w'∧∀ b,F b→F' b:=by
 have H:∀ x ∈ A++R,x.1≠q:=fun x hx e=>by
  have h2:=h.lt x.1 (h.in_ x hx _ (h.lv x hx).1)
  have h3:=hn q h1.1
  omega
 have I:∀ x ∈ A++(q,pr,X)::R,x=(q,pr,X)∨x ∈ A++R:=fun x hx=>by
  rcases List.mem_append.1 hx with hx | hx
  ·exact .inr (by simp [hx])
  rcases List.mem_cons.1 hx with hx | hx
  ·exact .inl hx
  exact .inr (by simp [hx])
 have J:∀ x ∈ A++R,∀ b,G x.1 b→¬ F1 b:=fun x hx b j hF=>by
  have h2:=h.lt b (h.in_ x hx b j)
  have h3:=hn b hF
  omega
 refine ⟨fun b=>F b∨v'.ownBlock=some b∨F1 b,fun p b=>if p=q then F1 b else G p b,⟨?_,?_,?_,?_,?_,?_⟩,?_,hk.mono (fun b _ j=>(h.own b j).1),fun b j=>.inl j⟩
 ·rw [show (A++(q,pr,X)::R).length=A.length+1+R.length by simp;omega]
  exact hv
 ·intro x hx
  rcases I x hx with rfl | hx
  ·simp only [if_true]
   exact h1
  simp only [if_neg (H x hx)]
  exact (h.lv x hx).keep hk (fun b j O=>(h.own b O).2 x hx j)
 ·have h2:=h.ap
  rw [List.pairwise_append] at h2
  rw [List.pairwise_append,List.pairwise_cons]
  obtain ⟨p1,p3,p4⟩:=h2
  have hA:∀ x ∈ A,x.1≠q:=fun x hx=>H x (by simp [hx])
  have hR:∀ x ∈ R,x.1≠q:=fun x hx=>H x (by simp [hx])
  refine ⟨?_,⟨?_,?_⟩,?_⟩
  ·refine p1.imp_of_mem ?_
   intro x y hx N U
   simp only [if_neg (hA x hx),if_neg (hA y N)]
   exact U
  ·intro x hx b
   simp only [if_true,if_neg (hR x hx)]
   intro j O
   exact J x (by simp [hx]) b O j
  ·refine p3.imp_of_mem ?_
   intro x y hx N U
   simp only [if_neg (hR x hx),if_neg (hR y N)]
   exact U
  intro x hx y N b
  simp only [if_neg (hA x hx)]
  rcases List.mem_cons.1 N with rfl | N
  ·simp only [if_true]
   exact J x (by simp [hx]) b
  simp only [if_neg (hR y N)]
  exact p4 x hx y N b
 ·intro x hx b j
  rcases I x hx with rfl | hx
  ·simp only [if_true] at j
   exact .inr (.inr j)
  simp only [if_neg (H x hx)] at j
  exact .inl (h.in_ x hx b j)
 ·intro b j
  refine ⟨.inr (.inl j),fun x hx D=>?_⟩
  rcases I x hx with rfl | hx
  ·simp only [if_true] at D
   exact (ho b j).2 D
  simp only [if_neg (H x hx)] at D
  rcases (ho b j).1 with h' | h'
  ·exact (h.own b h').2 x hx D
  have:=h.lt b (h.in_ x hx b D);omega
 ·intro b j
  rcases j with j | j | j
  ·exact Nat.lt_of_lt_of_le (h.lt b j) hk.size
  ·exact hv.lt j
  exact h1.2.1 b j
 intro b j
 rcases j with j | j | j
 ·exact .inl j
 ·rcases (ho b j).1 with h' | h'
  ·exact .inl (h.own b h').1
  exact .inr h'
 exact .inr (hn b j)
end
def partB (B:Bok) (k:Nat):Bok:=⟨if 1<k then B.buys else [],if 2<k then B.sells else [],B.last,B.no⟩
theorem part_start (B:Bok) {k:Nat} (hk:k<3):(partB B k).to (k:Int) [] B.last B.no=partB B k:=by
 have h:k=0∨k=1∨k=2:=by omega
 rcases h with rfl | rfl | rfl <;> rfl
theorem part_end (B:Bok) {k:Nat} (hk:k<3):(partB B k).to (k:Int) (B.sd (k:Int)) B.last B.no=partB B (k+1):=by
 have h:k=0∨k=1∨k=2:=by omega
 rcases h with rfl | rfl | rfl <;> rfl
theorem lvl_copy {u:World} {v:Value} {pr:Int} {X:List Ent} (D:Sl u 102 10 v X.length (ents X)):Lvl pr 100 102 (u.alloc (.cells [.int .i64 pr,v].toArray 100)) (fun b=>b=u.heap.size∨v.ownBlock=some b) u.heap.size X:=
 ⟨.inl rfl,fun b j=>j.elim (fun e=>by rw [e];exact (Blk.new u 100 [.int .i64 pr,v]).lt) (fun h=>Nat.lt_trans (D.lt h) (Blk.new u 100 [.int .i64 pr,v]).lt),v,Blk.new u _ _,D.kept ((Keep.refl _ u).alloc _),fun b j=>⟨.inr j,fun e=>by have:=D.lt j;omega⟩⟩
def Kn.lvb (base:Nat) (pr:Int) (X:List Ent):Kn:=⟨fun x w=>∃ v,x=.agg [.int .i64 pr,v].toArray∧Sl w 102 10 v X.length (ents X)∧∀ b,v.ownBlock=some b→base≤b,fun _ _ _ ⟨v,h1,h2,h3⟩ hk=>⟨v,h1,h2.kept hk,h3⟩⟩
def Kn.lvn (base:Nat) (pr:Int) (X:List Ent):Kn:=⟨fun x w=>∃ q F,x=.pointer (some ⟨q,0,none⟩)∧Lvl pr 100 102 w F q X∧∀ b,F b→base≤b,fun _ _ _ ⟨q,F,h1,h2,h3⟩ hk=>⟨q,F,h1,h2.kept hk,h3⟩⟩
def Kn.lvo (base:Nat) (pr:Int) (X:List Ent):Kn:=⟨fun x w=>∃ g q F,x=.slice (some ⟨g,0,none⟩) 1 1∧Blk w g 97 [.pointer (some ⟨q,0,none⟩)]∧Lvl pr 100 102 w F q X∧(∀ b,F b→base≤b)∧base≤g∧¬ F g,fun _ _ _ ⟨g,q,F,h1,h2,h3,h4⟩ hk=>⟨g,q,F,h1,h2.kept hk,h3.kept hk,h4⟩⟩
def CopyIn (base:Nat) (pr:Int) (X:List Ent) (v:Value) (n:Nat) (A:List Value):Value→World→World→Prop:=fun v' u u'=>∃ q F1,Lvl pr 100 102 u' F1 q X∧(∀ b,F1 b→base≤b)∧Sl u' 97 1 v' (n+1) (A++[.pointer (some ⟨q,0,none⟩)])∧(∀ b,v'.ownBlock=some b→(v.ownBlock=some b∨base≤b)∧¬ F1 b)∧Keep (fun b=>v.ownBlock=some b) u u'
theorem built_rl2 (x:Int) (A:Option Addr) (n c:Nat):Tryz.prog.built 100 [(0,.int .i64 x),(1,.slice A n c)]=some [.int .i64 x,.slice A n c].toArray:=by kernel_rfl
theorem sl_shape {w:World} {T:TypeId} {k n:Nat} {v:Value} {cs:List Value} (h:Sl w T k v n cs):∃ A n c,v=.slice A n c:=by
 obtain ⟨_,A,c,rfl,_⟩:=h
 exact ⟨A,n,c,rfl⟩
theorem exec_brl2 {a:Act} {o:Oper} {u:World} (x y:Operand) (p:Int) (v:Value) (j:o.op=.build 100 #[(0,x),(1,y)]) (hx:a.eval x=.int .i64 p) (H:a.eval y=v) (D:∃ A n c,v=.slice A n c):(execOp a.eval o).run Tryz.prog u=.ok (.value (.agg [.int .i64 p,v].toArray)) u:=by
 obtain ⟨A,n,c,rfl⟩:=D
 exact XZ _ [(0,x),(1,y)] [.int .i64 p,.slice A n c] j (by simp only [List.map_cons,List.map_nil,hx,H];exact built_rl2 p A n c)
theorem built_bo (x y:Int):Tryz.prog.built 60 [(1,.int .i64 x),(2,.int .i64 y)]=some (xU (.slice none 0 0) (.slice none 0 0) x y).toArray:=by kernel_rfl
theorem exec_bbo {a:Act} {o:Oper} {u:World} (x y:Operand) (p q:Int) (j:o.op=.build 60 #[(1,x),(2,y)]) (hx:a.eval x=.int .i64 p) (D:a.eval y=.int .i64 q):(execOp a.eval o).run Tryz.prog u=.ok (.value (.agg (xU (.slice none 0 0) (.slice none 0 0) p q).toArray)) u:=
 XZ _ [(1,x),(2,y)] (xU (.slice none 0 0) (.slice none 0 0) p q) j (by simp only [List.map_cons,List.map_nil,hx,D];exact built_bo p q)
theorem rbk_new {w:World} {r:Nat} {x y:Int} (h:Blk w r 60 (xU (.slice none 0 0) (.slice none 0 0) x y)):RBk w (·=r) r ⟨[],[],x,y⟩:=
 ⟨rfl,fun b e=>by rw [e];exact h.lt,_,_,fun _=>False,fun _=>False,h,Way.nil w,Way.nil w,fun b h=>h.elim,fun b h=>h.elim⟩
theorem rbcopied_any (w:World) (F:Nat→Prop) (p:Nat) (B:Bok) (h:RBk w F p B) (hI:Inv B) :
  Calls Tryz.prog 58 #[.pointer (some ⟨p,0,none⟩)] w fun e w'=>∃ r F',e=.returned (.pointer (some ⟨r,0,none⟩))∧RBk w' F' r B∧(∀ b,F' b→w.heap.size≤b)∧Kept w w':=by
 have HB:=Kj h
 have HI:=Kj hI
 have J:w.cell? ⟨p,3,none⟩=some (.int .i64 B.last)∧w.cell? ⟨p,4,none⟩=some (.int .i64 B.no):=by
  obtain ⟨_,_,v1,v2,_,_,hB,_⟩:=h
  exact ⟨hB.cell 3,hB.cell 4⟩
 have b5:=Kj J.1
 have b3:=Kj J.2
 clear h hI J
 go_enter Tryz.func58,Tryz.ntmps58
 go_upto_region 1 with fail
 refine tHp 10 [pK p 0,pK p 0,pK p 3,iK B.last,pK p 0,pK p 0,pK p 4,iK B.no,.v (.agg (xU (.slice none 0 0) (.slice none 0 0) B.last B.no).toArray),.k (.fresh w.heap.size 60 (xU (.slice none 0 0) (.slice none 0 0) B.last B.no))] (nS 3 (ldF (fun u hk=>Kept.cell hk (b5.out))) (nS 7 (ldF (fun u hk=>Kept.cell hk (b3.out))) (nS 8 (sV rfl (fun a u E D hk=>exec_bbo _ _ B.last B.no rfl (dD D 3) (dD D 7))) (nS 9 (nV rfl (fun a u E D hk=>⟨_,_,XV 60 _ (xU (.slice none 0 0) (.slice none 0 0) B.last B.no) rfl (dD D 8),⟨_,rfl,hk.size,Blk.new u _ _⟩,((Keep.refl _ u).alloc _)⟩)) nZ)))) ?_
 intro gv w1 hV k1
 rw [dq 10 [7,8,9,10,11,12,13,14,15,16]]
 simp only [Fz7]
 have ag:(.fresh w.heap.size 60 (xU (.slice none 0 0) (.slice none 0 0) B.last B.no):Kn).p (gv 16) w1:=hV 9 16 (by kernel_rfl)
 generalize gv 16=v16 at ag ⊢
 clear hV
 obtain ⟨r,rfl,hr,aS⟩:=ag
 refine aT (.pointer (some ⟨r,0,none⟩)) ?_
 simp only [Act.put,sA,sS,sZ]
 refine Kx ?_
 have b6:Hid (RBk w1 (·=r) r (partB B 0)):=rbk_new aS
 clear aS
 go_wp2_with fail
 go_loopw [17] (fun q wr=>∃ (k:Nat) (F':Nat→Prop),k≤3∧q=.int .i64 (k:Int)∧Hid (RBk wr F' r (partB B k))∧Hid (∀ b,F' b→w.heap.size≤b)∧Kept w wr) (fun q _=>3-(intOf q).toNat)
 case atStart=>exact ⟨0,_,by omega,rfl,b6,(fun b e=>by have e2:b=r:=e;omega),k1⟩
 obtain ⟨k,F',hk3,rfl,HR,HF,a2⟩:=hrel
 by_cases hk:k<3
 ·obtain ⟨L,aa⟩:∃ L,B.sd (k:Int)=L:=⟨_,rfl⟩
  have hL:LvsOk L:=by rw [← aa];exact HI.out.ok _
  obtain ⟨v,F1,aF,hW⟩:=HB.out.way3 hk
  rw [aa] at hW
  obtain ⟨Z,G,eL,hW⟩:=hW
  have aM:Z.length≤64:=by have:=hL.len;rw [← eL,Xz] at this;exact this
  have az:=Kj aa
  have HV:=Kj (a2.cell aF)
  have HW:=Kj hW
  have HL:=Kj hL
  have EL:=Kj eL
  obtain ⟨n,hn⟩:∃ n,Z.length=n:=⟨_,rfl⟩
  have au:=Kj hW.sl
  rw [hn] at au aM
  have HN:=Kj hn
  have ah:=Kj (au.out.kept a2)
  clear aa aF hW hL eL hn
  go_upto_region 5 with fail
  refine wA 8 [pV p 0,iV (k:Int),pV p 0,pV p 0,pV p (0+k*1),v,iV (n:Int),iV 0] [20,21,22,23,24,25,26,27] (nS 4 (sV rfl (fun a u E D hk=>VQ 58 57 3 1 _ _ p 0 k rfl Tryz.underlying58 (by kernel_rfl) (dD D 3) (dD D 1) (by omega))) (nS 5 (ldC HV.out) (nS 6 (sV rfl (fun a u E D hk=>Jx _ VV _ _ _ _ rfl (dD D 5) ah.out)) nZ))) ?_
  intro w1 k1
  simp only [F8]
  have b7:=a2.trans k1
  clear HV ah a2
  go_wp2_with fail
  go_loopw [27] (fun q wr=>∃ (i:Nat) (F':Nat→Prop),i≤n∧q=.int .i64 (i:Int)∧Hid (RBk wr F' r ((partB B k).to (k:Int) (L.take i) B.last B.no))∧Hid (∀ b,F' b→w.heap.size≤b)∧Kept w wr) (fun q _=>n-(intOf q).toNat)
  case atStart=>exact ⟨0,F',Nat.zero_le _,rfl,(by show RBk _ _ _ _;rw [List.take_zero,part_start B hk];exact HR.out.kept k1),HF,b7⟩
  obtain ⟨i,F2,hi,rfl,a8,ae,N⟩:=hrel
  by_cases hlt:i<n
  ·obtain ⟨gs,os,cc,rfl⟩:=au.out.some_ (by omega)
   obtain ⟨z,hz⟩:∃ z,Z[i]?=some z:=⟨Z[i]'(by rw [HN.out];omega),List.getElem?_eq_getElem (by rw [HN.out];omega)⟩
   obtain ⟨q,pr,X⟩:=z
   have HC:=Kj ((HW.out.kept N).cell hz)
   have b8:=Kj (HW.out.lv (q,pr,X) (List.mem_of_getElem? hz))
   have HX:=Kj (HL.out.one (l:=(pr,X)) (by rw [← EL.out];exact qz (List.mem_of_getElem? hz)))
   have HA:Hid (L[i]?=some (pr,X)):=by show _=_;rw [← EL.out];exact qj hz
   have am:k=1∨k=2:=by
    by_cases h0:k=0
    ·exfalso
     subst h0
     have e0:L=[]:=by rw [← az.out];rfl
     have:=HA.out
     rw [e0] at this
     simp at this
    omega
   clear hz
   go_upto_region 7 with fail
   refine wA 3 [pV gs (os+i*1),pV q 0,pV q 0] [29,30,6] (nS 0 (ixV VV (os) n i ((i:Int)) (hlt)) (nS 1 (ldC HC.out) nZ)) ?_
   intro U k2
   simp only [F8]
   have af:=N.trans k2
   have a4:(k:Int)=1∨(k:Int)=2:=by omega
   obtain ⟨v2,u2,Z2,G2,a9,e2,ar,al,a3,aC,ai,aL⟩:=(a8.out.kept k2).open_ a4
   rw [Bok.to_sd a4] at e2
   have aj:Z2.length=i:=by
    have:=congrArg List.length e2
    rw [Xz,List.length_take,← EL.out,Xz,HN.out] at this
    omega
   have ab:=ar.sl
   rw [aj] at ab
   have aU:=Kj ab
   have aW:=Kj (rsd_cell am al)
   have aI:=Kj al
   have ac:=Kj ar
   have ax:=Kj aL
   have HFs2:=Kj a3
   have bf:=Kj e2
   have b0:=Kj aj
   have aE:Hid (∀ b,v2.ownBlock=some b→b<U.heap.size):=fun b O=>ab.lt O
   have hrl:=ai r aC
   have hHr:=ae.out r aC
   have aD:¬ a9 r:=fun h=>(a3 r h).2 rfl
   obtain ⟨_,_,vq,an,aG,_⟩:=b8.out.kept af
   have bd:=Kj (an.cell 0)
   have b4:=Kj (an.cell 1)
   have ba:=Kj aG
   have ay:Hid (X.length≤64):=HX.out
   have hi64:i≤64:=by omega
   clear HC N ar al aL a3 e2 aj ab ai an aG
   go_upto_region 8 with fail
   refine wp_freeQ 24 21 (fun I:Nat=>I == 0 || I == 1 || I == 22 || I == 23) [.eq (.pointer (some ⟨r,0,none⟩)),.eq (.int .i64 (k:Int)),.eq (.pointer (some ⟨r,0,none⟩)),.eq (.int .i64 (k:Int)),.eq (.pointer (some ⟨r,0,none⟩)),.eq (.pointer (some ⟨r,0,none⟩)),.eq (.pointer (some ⟨r,0+k*1,none⟩)),.eq (v2),.eq (.pointer (some ⟨q,0,none⟩)),.eq (.pointer (some ⟨q,0,none⟩)),.eq (.pointer (some ⟨q,0,none⟩)),.eq (.int .i64 pr),.emp U.heap.size 102,.eq (.pointer (some ⟨q,0,none⟩)),.eq (.pointer (some ⟨q,0,none⟩)),.eq (.pointer (some ⟨q,1,none⟩)),.eq (vq),.sl U.heap.size 102 10 X.length (ents X),.lvb U.heap.size pr X,.lvn U.heap.size pr X,.lvo U.heap.size pr X,.any,.eq (.pointer (some ⟨r,0,none⟩)),.eq (.pointer (some ⟨r,0,none⟩))] (fun I:Nat=>if I=0 then .pointer (some ⟨r,0,none⟩) else if I=1 then .int .i64 (k:Int) else if I=22 then .pointer (some ⟨r,0,none⟩) else if I=23 then .pointer (some ⟨r,0,none⟩) else undef) ((CopyIn U.heap.size pr X v2 i (ptrs Z2))) (by kernel_rfl) rfl (fun I be av=>by have h_:I=0∨I=1∨I=22∨I=23:=(by simp at av;omega);rcases h_ with rfl | rfl | rfl | rfl <;> rfl) (by kernel_rfl) (by kernel_rfl) (by kernel_rfl) (fun I be av=>by have h_:I=0∨I=1∨I=22∨I=23:=(by simp at av;omega);rcases h_ with rfl | rfl | rfl | rfl;exact (fun a u H j=>yx (o:=⟨some 31,_,_,_,_,_⟩) (.pointer (some ⟨r,0,none⟩)) rfl (JQ rfl _) (Jq (.tmp 3) _ rfl (eE H)));exact (fun a u H j=>yx (o:=⟨some 32,_,_,_,_,_⟩) (.int .i64 (k:Int)) rfl (JQ rfl _) (Jq (.tmp 4) _ rfl (eE H)));exact (fun a u H j=>yx (o:=⟨some 53,_,_,_,_,_⟩) (.pointer (some ⟨r,0,none⟩)) rfl (JQ rfl _) (ZU (.tmp 31) ⟨r,0,none⟩ rfl (dD j 0)));exact (fun a u H j=>yx (o:=⟨some 54,_,_,_,_,_⟩) (.pointer (some ⟨r,0,none⟩)) rfl (JQ rfl _) (Jz 60 0 0 (.tmp 53) (r) (0) (0) rfl (dD j 22) (by kernel_rfl) rfl))) ?_ (fun a u H j hk=> (by obtain ⟨g1,q1,F1,hx,bb,a1,a5,hg1,hn1⟩:=(j 20 51 (by kernel_rfl));obtain ⟨v',u',hr,bc,ad,aN⟩:=QQ VV _ u v2 (a.eval (.tmp 51)) i 1 _ _ (aU.out.kept hk) (by rw [hx];exact sl_one1 bb) (ptr_one _) (by unfold maxLen;omega) (by omega);refine t_last (o:=⟨some 52,_,_,_,_,_⟩) (R:=(CopyIn U.heap.size pr X v2 i (ptrs Z2))) (m:=21) (v:=v') (w':=u') rfl (JQ rfl _) (QV VV (.tmp 38) (.tmp 51) _ _ rfl (dD j 7) rfl v' u' hr) ?_;exact ⟨q1,F1,a1.keep ad (fun b O h=>by have:=aE.out b h;have:=a5 b O;omega),a5,bc,fun b O=>⟨(aN b O).imp id (fun h=>Kv hk.size h),fun hF=>(aN b O).elim (fun h=>by have:=aE.out b h;have:=a5 b hF;omega) (fun h=>by have:=a1.2.1 b hF;omega)⟩,ad⟩)) ?_
   ·refine ZX 1 rfl (by first | exact .inl rfl | exact .inr rfl) ?_
    refine ZX 2 rfl (by first | exact .inl rfl | exact .inr rfl) ?_
    refine JW 3 rfl (fun a u H j hk=>Xq _ rfl (JQ rfl _) (Jq (.tmp 3) _ rfl (eE H)) rfl) ?_
    refine JW 4 rfl (fun a u H j hk=>Xq _ rfl (JQ rfl _) (Jq (.tmp 4) _ rfl (eE H)) rfl) ?_
    refine JW 5 rfl (fun a u H j hk=>Xq _ rfl (JQ rfl _) (ZU (.tmp 33) ⟨r,0,none⟩ rfl (dD j 2)) rfl) ?_
    refine JW 6 rfl (fun a u H j hk=>Xq _ rfl (JQ rfl _) (Jz 60 0 0 (.tmp 35) (r) (0) (0) rfl (dD j 4) (by kernel_rfl) rfl) rfl) ?_
    refine JW 7 rfl (fun a u H j hk=>Xq _ rfl (JQ rfl _) (VQ 58 57 3 1 (.tmp 36) (.tmp 34) r 0 k rfl Tryz.underlying58 (by kernel_rfl) (dD j 5) (dD j 3) (by omega)) rfl) ?_
    refine JW 8 rfl (fun a u H j hk=>Xq _ rfl (JQ rfl _) (Qx 57 _ Tryz.underlying57 (.tmp 37) ⟨r,0+k*1,none⟩ (v2) rfl (dD j 6) (Kept.cell hk (aW.out))) rfl) ?_
    refine JW 9 rfl (fun a u H j hk=>Xq _ rfl (JQ rfl _) (Jq (.tmp 6) _ rfl (eE H)) rfl) ?_
    refine JW 10 rfl (fun a u H j hk=>Xq _ rfl (JQ rfl _) (ZU (.tmp 39) ⟨q,0,none⟩ rfl (dD j 8)) rfl) ?_
    refine JW 11 rfl (fun a u H j hk=>Xq _ rfl (JQ rfl _) (Jz 100 0 0 (.tmp 40) (q) (0) (0) rfl (dD j 9) (by kernel_rfl) rfl) rfl) ?_
    refine JW 12 rfl (fun a u H j hk=>Xq _ rfl (JQ rfl _) (JZ 3 Tryz.underlying3 (.tmp 41) ⟨q,0,none⟩ (.int .i64 pr) rfl (dD j 10) (Kept.cell hk (bd.out))) rfl) ?_
    refine JW 13 rfl (fun a u H j hk=>jV (.slice (some ⟨u.heap.size,0,none⟩) 0 0) _ rfl (JQ rfl _) (Uq 98 102 10 rfl slR.und szR) ⟨_,rfl,hk.size,Blk.new u _ _⟩ ((Keep.refl _ u).alloc _)) ?_
    refine JW 14 rfl (fun a u H j hk=>Xq _ rfl (JQ rfl _) (Jq (.tmp 6) _ rfl (eE H)) rfl) ?_
    refine JW 15 rfl (fun a u H j hk=>Xq _ rfl (JQ rfl _) (ZU (.tmp 44) ⟨q,0,none⟩ rfl (dD j 13)) rfl) ?_
    refine JW 16 rfl (fun a u H j hk=>Xq _ rfl (JQ rfl _) (Jz 100 1 1 (.tmp 45) (q) (0) (1) rfl (dD j 14) (by kernel_rfl) rfl) rfl) ?_
    refine JW 17 rfl (fun a u H j hk=>Xq _ rfl (JQ rfl _) (Qx 98 _ Tryz.underlying98 (.tmp 46) ⟨q,1,none⟩ (vq) rfl (dD j 15) (Kept.cell hk (b4.out))) rfl) ?_
    refine JW 18 rfl (fun a u H j hk=>(by obtain ⟨v',u',hr,hp,bh⟩:=Zx slR _ u (a.eval (.tmp 43)) vq X.length U.heap.size _ ((dD j 12)) (ba.out.kept hk) (JJj _) (by have:=ay.out;omega) (by omega) hk.size;exact jV v' u' rfl (JQ rfl _) (QV slR (.tmp 43) (.tmp 47) _ vq rfl rfl (dD j 16) v' u' hr) hp bh)) ?_
    refine JW 19 rfl (fun a u H j hk=>Xq _ rfl (JQ rfl _) (exec_brl2 (.tmp 42) (.tmp 48) pr _ rfl (dD j 11) rfl (sl_shape ((j 17 48 (by kernel_rfl))).1)) ⟨_,rfl,(dD j 17)⟩) ?_
    refine JW 20 rfl (fun a u H j hk=>(by obtain ⟨v48,hx,hs,ho⟩:=(j 18 49 (by kernel_rfl));exact jV (.pointer (some ⟨u.heap.size,0,none⟩)) _ rfl (JQ rfl _) (XV 100 (.tmp 49) [.int .i64 pr,v48] rfl hx) ⟨u.heap.size,_,rfl,lvl_copy hs,fun b O=>O.elim (fun e=>by rw [e];exact hk.size) (ho b)⟩ ((Keep.refl _ u).alloc _))) ?_
    refine JW 21 rfl (fun a u H j hk=>(by obtain ⟨q1,F1,hx,a1,a5⟩:=(j 19 50 (by kernel_rfl));exact jV (.slice (some ⟨u.heap.size,0,none⟩) 1 1) _ rfl (JQ rfl _) (exec_oneP VV (.tmp 50) q1 rfl hx) ⟨u.heap.size,q1,F1,rfl,Blk.new u _ _,a1.kept ((Keep.refl _ u).alloc _),a5,hk.size,fun h=>by have:=a1.2.1 _ h;omega⟩ ((Keep.refl _ u).alloc _))) ?_
    refine ZX 22 rfl (by first | exact .inl rfl | exact .inr rfl) ?_
    refine ZX 23 rfl (by first | exact .inl rfl | exact .inr rfl) ?_
    refine ZX 24 rfl (by first | exact .inl rfl | exact .inr rfl) ?_
    exact qsteps_nil
   intro gv w1 w7 hV h0 hR aO
   rw [dq 24 [31,32,33,34,35,36,37,38,39,40,41,42,43,44,45,46,47,48,49,50,51,52,53,54]]
   simp only [Fz7]
   have hT:=hR 52 (by kernel_rfl)
   generalize gv 52=v52 at hT ⊢
   rw [show gv 31=.pointer (some ⟨r,0,none⟩) from h0 0 (by omega) rfl 31 (by kernel_rfl)]
   rw [show gv 32=.int .i64 (k:Int) from h0 1 (by omega) rfl 32 (by kernel_rfl)]
   rw [show gv 53=.pointer (some ⟨r,0,none⟩) from h0 22 (by omega) rfl 53 (by kernel_rfl)]
   rw [show gv 54=.pointer (some ⟨r,0,none⟩) from h0 23 (by omega) rfl 54 (by kernel_rfl)]
   clear hV h0 hR
   obtain ⟨q1,F1,aH,aZ,a6,aJ,aQ⟩:=hT
   have a7:Keep (fun b=>v2.ownBlock=some b) U w7:=(Keep.mono (T:=fun b=>v2.ownBlock=some b) aO (fun _ _ h=>h.elim)).trans aQ (fun _ _ h=>h)
   have aB:=aI.out.keep a7 (fun h=>aD ((ac.out.own r h).1))
   refine UJ (.pointer (some ⟨r,0+k*1,none⟩)) rfl (VQ 58 57 3 1 (.tmp 54) (.tmp 32) r 0 k rfl Tryz.underlying58 (by kernel_rfl) rfl rfl (by omega)) ?_
   refine ZJ 57 r (0+k*1) 60 _ v52 _ _ rfl rfl (by kernel_rfl) (by kernel_rfl) (by kernel_rfl) (Zy a6) (Xy a6) aB (by rw [rsd_len am];omega) ?_
   intro w8 aw ao b1
   simp only [Act.put,sA,sS,sZ]
   refine Kx ?_
   rw [rsd_set am] at aw
   have aY:WayZ 100 102 97 U a9 v2 (Z2++[]) G2:=by rw [List.append_nil];exact ac.out
   obtain ⟨FX,GX,aR,ak,aK,_⟩:=aY.moreX (w':=w7) (v':=v52) (q:=q1) (pr:=pr) (X:=X) (F1:=F1) a7 (by rw [b0.out,List.length_nil,jx];exact a6) aJ aH aZ
   have zX:=aK.size
   have bg:¬ FX r:=fun h=>(ak r h).elim aD (fun h=>by omega)
   have aX:=aR.keep ao (fun b O e=>bg (by have e3:b=r:=e;rw [← e3];exact O))
   have aA:Keep (fun b=>a9 b∨b=r) U w8:=(Keep.mono (T:=fun b=>a9 b∨b=r) a7 (fun b _ h=>.inl (ac.out.own b h).1)).trans ao (fun b _ e=>.inr e)
   obtain ⟨F3,q3,q4,q5,_⟩:=ax.out w8 _ _ _ _ _ aA aw ⟨_,_,rfl,aX⟩ ak
   have aq:Hid (RBk w8 F3 r ((partB B k).to (k:Int) (L.take (i+1)) B.last B.no)):=by
    show RBk _ _ _ _
    rw [ZZ,bf.out,Bok.to_to a4] at q3
    rw [List.take_add_one,HA.out]
    exact q3
   have z2:=af.size
   have b9:Hid (∀ b,F3 b→w.heap.size≤b):=fun b O=>(q4 b O).elim (ae.out b) (fun h=>by omega)
   have b2:Kept w w8:=Keep.trans af q5 (fun b O h=>by have:=ae.out b h;omega)
   clear q3 q4 q5 aX aA aR ak aK aY aw ao b1 aH aZ a6 aJ aQ a7 aB aW aI ac ax aU a8 af aO
   go_wp2
   exact ⟨⟨i+1,F3,by omega,by go_num,aq,b9,b2⟩,by simp [intOf];omega⟩
  have aq:Hid (RBk wr F2 r (partB B (k+1))):=by
   show RBk _ _ _ _
   rw [← part_end B hk,az.out]
   have:=a8.out
   rw [List.take_of_length_le (by rw [← EL.out,Xz,HN.out];omega)] at this
   exact this
  clear a8
  go_wp2
  exact ⟨⟨k+1,F2,by omega,by go_num,aq,ae,N⟩,by simp [intOf];omega⟩
 have ad:k=3:=by omega
 subst ad
 go_wp2
 go_ret
 exact ⟨r,F',rfl,HR.out,HF.out,a2⟩
end Go.Proofs.YtklohceombpleaaGreat
namespace Go.Proofs.YtklohceombpleaaGreat
open Go.RowKit
variable {pr:Int}
theorem Lvl.renew3 {T E:TypeId} {I H:World} {F:Nat→Prop} {p base:Nat} {X Y:List Ent} {v':Value} (h:Lvl pr T E I F p X) (hb:p<base) (O:Sl I E 10 v' Y.length (ents Y)) (J:∀ b,v'.ownBlock=some b→base≤b) (U:Blk H p T [.int .i64 pr,v']) (D:Keep (·=p) I H) :
  ∃ F',Lvl pr T E H F' p Y∧True∧Keep F I H∧∀ b,F' b→F b∨base≤b:=by
 refine ⟨fun b=>F b∨v'.ownBlock=some b,⟨.inl h.1,fun b j=>?_,v',U,O.keep D (fun b j e=>by have:=J b j;omega),fun b j=>⟨.inr j,fun e=>by have:=J b j;omega⟩⟩,trivial,D.mono (fun b _ e=>by subst e;exact h.1),fun b j=>j.imp id (J b)⟩
 have:=D.size
 rcases j with N | N
 ·have:=h.2.1 b N;omega
 have:=O.lt N;omega
theorem rtake_any (w:World) (F:Nat→Prop) (p:Nat) (X:List Ent) (firm q:Int) (h:Lvl pr 100 102 w F p X) (hX:Good X) (hq:q≤9223372036854775807) :
  Calls Tryz.prog 83 #[.pointer (some ⟨p,0,none⟩),.int .i64 firm,.int .i64 q] w (TakeIn pr 100 102 w F p X (takeM firm q X)):=by
 have ck:=Kj h
 have cg:=Kj hX
 clear h hX
 go_enter Tryz.func83,Tryz.ntmps83
 go_wp2_with fail
 go_loopw [2,8] (fun t h wr=>∃ (q':Int) (H X':List Ent) (F':Nat→Prop),t=.int .i64 q'∧q'≤9223372036854775807∧Hid (Sl wr 85 10 h H.length (ents H))∧Hid (∀ b,h.ownBlock=some b→w.heap.size≤b∧¬ F' b)∧Hid (Lvl pr 100 102 wr F' p X')∧Hid (Good X')∧Hid (Grow w F F')∧Keep F w wr∧Hid ((H.length:Int)+XX X'≤XX X)∧Hid (takeM firm q X=(H++(takeM firm q' X').1,(takeM firm q' X').2))) (fun t _ _=>(intOf t).toNat)
 case atStart=>exact ⟨q,[],X,F,rfl,hq,Sl.nil _ _ _,fun b I=>(by simp [Value.ownBlock] at I),ck.out,cg.out,Grow.refl _ _,Keep.refl _ _,by show _≤_;simp,by show _=_;simp⟩
 obtain ⟨q',H,X',F',rfl,hq',HV,HO,HL,HX,HG,aA,HW,HT⟩:=hrel
 obtain ⟨v8,cp⟩:∃ v8,v8=u8:=⟨_,rfl⟩
 subst cp
 by_cases hq0:0<q'
 ·cases X' with
  | nil=>
   obtain ⟨h1,h2,v,hB,hS,h5⟩:=HL.out
   obtain ⟨m,hm⟩:∃ m,([]:List Ent).length=m:=⟨_,rfl⟩
   rw [hm] at hS
   have HB:=Kj hB
   have HS:=Kj hS
   have bR:=h2 p h1
   clear hB hS h1 h2 h5
   have HD:=Kj (JJy (t:=takeM firm q X) HT.out (zJ firm q'))
   have ce:m=0:=by simpa using hm.symm
   clear HT
   go_upto_region 2 with fail
   refine wA 10 [iV q',bV true,bV true,pV p 0,pV p 0,pV p 1,v,iV (m:Int),bV false,bV false] [12,13,14,15,16,17,18,19,20,21] (nS 1 (aV rfl (fun a u E D hk=>QZ rfl (dD D 0) rfl) (Ky hq0)) (nS 6 (sV rfl (fun a u E D hk=>Qx _ _ Tryz.underlying98 _ _ _ rfl (dD D 5) (by rw [(HB.out.kept hk).cell];rfl))) (nS 7 (sV rfl (fun a u E D hk=>Jx _ slR _ _ _ _ rfl (dD D 6) HS.out)) (nS 8 (aV rfl (fun a u E D hk=>QZ rfl (dD D 7) rfl) (Ku (by omega))) nZ)))) ?_
   intro w1 k1
   simp only [F8]
   have bg:=aA.kept k1
   have s1:=k1.size
   go_wp2
   go_ret2
   refine ⟨F',v8,?_,?_,?_,HO.out,HG.out,bg⟩
   ·rw [HD.out];rfl
   ·rw [HD.out];exact HL.out.kept k1
   rw [HD.out];exact HV.out.kept k1
  | cons e R=>
   obtain ⟨h1,h2,v,hB,hS,h5⟩:=HL.out
   obtain ⟨m,hm⟩:∃ m,(e::R).length=m:=⟨_,rfl⟩
   rw [hm] at hS
   have HB:=Kj hB
   have HS:=Kj hS
   have bR:=h2 p h1
   clear hB hS h1 h2 h5
   have ce:0<m:=by rw [← hm];simp
   have hmR:m=R.length+1:=by rw [← hm];simp
   obtain ⟨g,off,c,rfl⟩:=HS.out.some_ ce
   have HE:Hid (wr.rangeAt g off e.cells):=HS.out.rng 0 e rfl
   have I:=HX.out.bound (e:=e) (by simp)
   go_upto_region 2 with fail
   refine wA 10 [iV q',bV true,bV true,pV p 0,pV p 0,pV p 1,.slice (some ⟨g,off,none⟩) m c,iV (m:Int),bV true,bV true] [12,13,14,15,16,17,18,19,20,21] (nS 1 (aV rfl (fun a u E D hk=>QZ rfl (dD D 0) rfl) (Ky hq0)) (nS 6 (sV rfl (fun a u E D hk=>Qx _ _ Tryz.underlying98 _ _ _ rfl (dD D 5) (by rw [(HB.out.kept hk).cell];rfl))) (nS 7 (sV rfl (fun a u E D hk=>ZV _ _ _ slR.und (some ⟨g,off,none⟩) m c rfl (dD D 6))) (nS 8 (aV rfl (fun a u E D hk=>QZ rfl (dD D 7) rfl) (Ky (by omega))) nZ)))) ?_
   intro w1 k1
   simp only [F8]
   have bg:=aA.kept k1
   have s1:=k1.size
   have bA:=Kj (HB.out.kept k1)
   have bD:=Kj (JJ HE.out k1)
   by_cases hf:e.o.firm=firm
   ·have HD:=Kj (JJy (t:=takeM firm q X) HT.out (JQJ firm q' e R hq0 (by omega) hf))
    clear HT
    go_upto_region 3 with fail
    refine tAp 7 [pK p 0,pK p 0,pK p 1,.v (.slice (some ⟨g,off,none⟩) m c),pK g off,.v (e.v),.k (.fresh w1.heap.size 102 XY.cells)] (nS 3 (sV rfl (fun a u E D hk=>Qx _ _ Tryz.underlying98 _ _ _ rfl (dD D 2) (by rw [(bA.out.kept hk).cell];rfl))) (nS 4 (ixV slR (off) m 0 (0) ((by omega))) (nS 5 (ldS Tryz.underlying102 (fun u hk=>JJ bD.out hk) (by rw [e.len10];exact szR)) (nS 6 (nV rfl (fun a u E D hk=>⟨_,_,QX 102 XY.cells rfl zR,⟨_,rfl,hk.size,Blk.new u _ _⟩,((Keep.refl _ u).alloc _)⟩)) nZ)))) ?_
    intro gv w2 hV k2
    rw [dq 7 [22,23,24,25,26,27,9]]
    simp only [Fz7]
    have aZ:(.fresh w1.heap.size 102 XY.cells:Kn).p (gv 9) w2:=hV 6 9 (by kernel_rfl)
    generalize gv 9=v9 at aZ ⊢
    rw [gQ hV 5 27 e.v]
    clear hV
    obtain ⟨O,rfl,cl,aN⟩:=aZ
    refine YV 102 O 102 XY.cells e.cells _ _ rfl rfl (by kernel_rfl) (by kernel_rfl) aN (by rw [Ent.len10];exact szR) (by rw [Ent.len10,Ent.len10]) (Ent.one _) ?_
    intro w3 ah aY bB
    simp only [Act.put]
    refine Kx ?_
    have J:Kept w1 w3:=k2.trans' aY (by omega)
    have aS:=k1.trans J
    have aM:=Kj ah
    have aa:=Kj (JX ah)
    have l9:=ah.lt
    have s3:=J.size
    clear aN ah aY k2 bB
    go_upto_region 4 with fail
    refine wA 5 [pV O 0,pV O 2,iV e.o.firm,iV firm,bV true] [28,29,30,31,32] (nS 2 (ldR aa.out 2) (nS 4 (aV rfl (fun a u E D hk=>JY rfl (dD D 2) (dD D 3)) (Ky hf)) nZ)) ?_
    intro w4 k4
    simp only [F8]
    have aF:=aS.trans k4
    have bI:=Kj (aM.out.kept k4)
    have aC:=Kj (JJ aa.out k4)
    have s4:=k4.size
    clear aM aa k4 J aS
    go_wp2
    go_ret2
    refine ⟨F',v8,?_,?_,?_,HO.out,HG.out,aA.kept aF⟩
    ·rw [HD.out];rfl
    ·rw [HD.out];exact HL.out.kept aF
    rw [HD.out];exact HV.out.kept aF
   have aD:=mn_le q' e.n
   have bU:=mn_pos q' e.n hq0 (by omega)
   have bF:=take_next_ HT.out hq0 (by omega) hf
   obtain ⟨n,hn⟩:∃ n,mn q' e.n=n:=⟨_,rfl⟩
   rw [hn] at aD bU bF
   have HN:Hid ((if e.n<q' then e.n else q')=n):=hn
   have HD:=Kj bF
   clear HT hn bF
   go_upto_region 3 with fail
   refine tAp 7 [pK p 0,pK p 0,pK p 1,.v (.slice (some ⟨g,off,none⟩) m c),pK g off,.v (e.v),.k (.fresh w1.heap.size 102 XY.cells)] (nS 3 (sV rfl (fun a u E D hk=>Qx _ _ Tryz.underlying98 _ _ _ rfl (dD D 2) (by rw [(bA.out.kept hk).cell];rfl))) (nS 4 (ixV slR (off) m 0 (0) ((by omega))) (nS 5 (ldS Tryz.underlying102 (fun u hk=>JJ bD.out hk) (by rw [e.len10];exact szR)) (nS 6 (nV rfl (fun a u E D hk=>⟨_,_,QX 102 XY.cells rfl zR,⟨_,rfl,hk.size,Blk.new u _ _⟩,((Keep.refl _ u).alloc _)⟩)) nZ)))) ?_
   intro gv w2 hV k2
   rw [dq 7 [22,23,24,25,26,27,9]]
   simp only [Fz7]
   have aZ:(.fresh w1.heap.size 102 XY.cells:Kn).p (gv 9) w2:=hV 6 9 (by kernel_rfl)
   generalize gv 9=v9 at aZ ⊢
   rw [gQ hV 5 27 e.v]
   clear hV
   obtain ⟨O,rfl,cl,aN⟩:=aZ
   refine YV 102 O 102 XY.cells e.cells _ _ rfl rfl (by kernel_rfl) (by kernel_rfl) aN (by rw [Ent.len10];exact szR) (by rw [Ent.len10,Ent.len10]) (Ent.one _) ?_
   intro w3 ah aY bB
   simp only [Act.put]
   refine Kx ?_
   have J:Kept w1 w3:=k2.trans' aY (by omega)
   have aS:=k1.trans J
   have aM:=Kj ah
   have aa:=Kj (JX ah)
   have l9:=ah.lt
   have s3:=J.size
   clear aN ah aY k2 bB
   go_upto_region 4 with fail
   refine wA 5 [pV O 0,pV O 2,iV e.o.firm,iV firm,bV false] [28,29,30,31,32] (nS 2 (ldR aa.out 2) (nS 4 (aV rfl (fun a u E D hk=>JY rfl (dD D 2) (dD D 3)) (Ku hf)) nZ)) ?_
   intro w4 k4
   simp only [F8]
   have aF:=aS.trans k4
   have bI:=Kj (aM.out.kept k4)
   have aC:=Kj (JJ aa.out k4)
   have s4:=k4.size
   clear aM aa k4 J aS
   have cm:Hid (H.length≤99999999):=by
    show _≤_
    have h1:=HW.out
    have h2:=cg.out.few
    have h3:=YW HX.out.ok
    simp only [List.length_cons] at h3
    omega
   have s0:=aA.size
   have bY:Hid (∀ b,v8.ownBlock=some b→b<wr.heap.size):=fun b I=>HV.out.lt I
   have az:Hid (∀ b,F' b→b<wr.heap.size):=HL.out.2.1
   clear bA bD HB HE HS k1
   go_upto_region 6 with fail
   refine wAp 4 [iV q',pV O 9,iV e.n,iV n] [34,35,36,37] (nS 2 (ldR aC.out 9) (nS 3 (sV rfl (fun a u E D hk=>jW _ _ _ q' e.n n rfl (dD D 0) (dD D 2) HN.out)) nZ)) ?_
   intro w5 k5
   simp only [F8]
   refine aT (.int .i64 n) ?_
   simp only [Act.put,sA,sS,sZ]
   refine Kx ?_
   have bx:=aF.trans k5
   have bZ:=Kj (bI.out.kept k5)
   have bj:=Kj (JJ aC.out k5)
   have s5:=k5.size
   clear bI aC k5 aF HN
   go_upto_region 7 with fail
   refine tAp 6 [.v (v8),pK O 0,.v (e.o.v),iK n,.v ((Ent.mk e.o (n)).v),.k (.sl w5.heap.size 85 10 1 (Ent.mk e.o (n)).cells)] (nS 2 (ldS Tryz.underlying35 (fun u hk=>xX (JJ bj.out hk)) (by rw [e.o.len9];exact JU)) (nS 4 (sV rfl (fun a u E D hk=>qW 85 builtH _ _ (e.o) (n) rfl (dD D 2) (dD D 3))) (nS 5 (nV rfl (fun a u E D hk=>⟨_,_,VJ slH _ (Ent.mk e.o (n)).cells (by omega) rfl (dD D 4) ((Ent.mk e.o (n)).len10),(jY u 85 10 _ w5.heap.size ((Ent.mk e.o (n)).len10) (by omega) hk.size),((Keep.refl _ u).alloc _)⟩)) nZ))) ?_
   intro gv w6 hV k6
   rw [dq 6 [38,39,40,41,42,43]]
   simp only [Fz7]
   rw [gQ hV 0 38 v8]
   have bb:(.sl w5.heap.size 85 10 1 (Ent.mk e.o (n)).cells:Kn).p (gv 43) w6:=hV 5 43 (by kernel_rfl)
   generalize gv 43=v43 at bb ⊢
   clear hV
   have cj:=cm.out
   obtain ⟨v7,w7,cd,bv,be,bC⟩:=QQ slH 86 w6 v8 v43 H.length 1 _ _ (HV.out.kept (bx.trans k6)) bb.1 (Ent.one _) (by unfold maxLen;omega) (by omega)
   refine Vj v7 w7 rfl (QV slH (.tmp 38) (.tmp 43) v8 v43 rfl (by kernel_rfl) (by kernel_rfl) v7 w7 cd) ?_
   refine aT (v7) ?_
   simp only [Act.put,sA,sS,sZ]
   refine Kx ?_
   have s6:=k6.size
   have s7:=be.size
   have bz:=bx.trans k6
   have ch:=Kj ((HL.out.kept bz).keep be (fun b I hv=>(HO.out b hv).2 I))
   have bP:Keep F w w7:=(aA.kept bz).trans be (fun b I hv=>by have:=(HO.out b hv).1;omega)
   have bo:¬ v8.ownBlock=some O:=fun h=>by have:=bY.out O h;omega
   have bw:=Kj ((bZ.out.kept k6).keep be bo)
   have bp:=Kj (JX bw.out)
   have ae:Hid (∀ b,v7.ownBlock=some b→w.heap.size≤b∧¬ F' b):=fun b I=>by
    rcases bC b I with h | h
    ·exact HO.out b h
    exact ⟨by omega,fun hF=>by have:=az.out b hF;omega⟩
   have bl:Hid (∀ b,v7.ownBlock=some b→b≠O):=fun b I e=>by
    rcases bC b I with h | h
    ·have:=bY.out b h;omega
    omega
   have bJ:Hid (Sl w7 85 10 v7 (H++[Ent.mk e.o n]).length (ents (H++[Ent.mk e.o n]))):=by
    show Sl _ _ _ _ _ _
    rw [List.length_append,ents_snoc]
    exact bv
   have ak:Hid (∀ b,v7.ownBlock=some b→b<w7.heap.size):=fun b I=>bv.lt I
   clear bv be bC cd bb bZ bj bx bz k6 HV HO HL cj bo aA
   go_upto_region 8 with fail
   refine wAp 3 [iV q',iV n,iV (q'-n)] [45,46,47] (nS 2 (sV rfl (fun a u E D hk=>Zz (q'-n) rfl (dD D 0) (dD D 1) rfl (by omega) (by omega))) nZ) ?_
   intro w8 k8
   simp only [F8]
   refine aT (.int .i64 (q'-n)) ?_
   simp only [Act.put,sA,sS,sZ]
   refine Kx ?_
   have bQ:=Kj (bw.out.kept k8)
   have aW:=Kj (JJ bp.out k8)
   have s8:=k8.size
   clear bw bp
   go_upto_region 9 with fail
   refine wAp 9 [pV O 0,pV O 6,iV e.o.qty,iV n,iV (e.o.qty-n),pV O 9,iV e.n,iV n,iV (e.n-n)] [48,49,50,51,52,53,54,55,56] (nS 2 (ldR aW.out 6) (nS 4 (sV rfl (fun a u E D hk=>Zz (e.o.qty-n) rfl (dD D 2) (dD D 3) rfl (by omega) (by omega))) (nS 6 (ldR aW.out 9) (nS 8 (sV rfl (fun a u E D hk=>Zz (e.n-n) rfl (dD D 6) (dD D 7) rfl (by omega) (by omega))) nZ)))) ?_
   intro w9 k9
   simp only [F8]
   refine aT (.pointer (some ⟨O,0,none⟩)) ?_
   refine aT (.pointer (some ⟨O,6,none⟩)) ?_
   refine ZJ 3 O 6 102 _ (.int .i64 (e.o.qty-n)) _ _ rfl rfl (by kernel_rfl) (by kernel_rfl) (by kernel_rfl) rfl rfl (bQ.out.kept k9) (by rw [Ent.len10];omega) ?_
   intro w10 bs bi hs10
   refine aT (.pointer (some ⟨O,9,none⟩)) ?_
   refine ZJ 3 O 9 102 _ (.int .i64 (e.n-n)) _ _ rfl rfl (by kernel_rfl) (by kernel_rfl) (by kernel_rfl) rfl rfl bs (by rw [List.length_set,Ent.len10];omega) ?_
   intro U bm bt hs11
   simp only [Act.put,sA,sS,sZ]
   refine Kx ?_
   have s9:=k9.size
   have aR:Hid (Blk U O 102 (e.sub n).cells):=bm
   have b2:=Kj (JX aR.out)
   have bd:Keep (·=O) w7 U:=((Keep.mono (T:=(·=O)) (k8.trans k9) (fun _ _ h=>h.elim)).trans bi (fun _ _ h=>h)).trans bt (fun _ _ h=>h)
   have bM:¬ F' O:=fun h=>by have:=az.out O h;omega
   have a4:=Kj (ch.out.keep bd (fun b I e=>bM (by rw [← e];exact I)))
   have am:=Kj (bJ.out.keep bd (fun b I e=>bl.out b I e))
   have al:Keep F w U:=bP.trans bd (fun b I e=>by subst e;omega)
   have s11:=bd.size
   clear bs bm bi bt bd bQ aW k8 k9 ch bJ bP
   obtain ⟨h1,h2,v,hB,hS,h5⟩:=a4.out
   rw [hm] at hS
   obtain ⟨vr,cf,cn,bT⟩:=jX slR v m 1 (by omega) _ U hS
   have bW:=Kj cf
   have c9:Hid (∀ u,Kept U u→Sl u 102 10 vr R.length (ents R)):=fun u hk=>by
    have:=bT u _ (hS.kept hk)
    rw [show (ents (e::R)).drop (1*10)=ents R from Ux Ent.cells 10 Ent.len10 (e::R) 1,show m-1=R.length by omega] at this
    exact this
   have ad:=Kj hB
   have hRl:R.length≤100000000:=by have:=HX.out.len;simp at this;omega
   clear h1 h2 hB hS h5 cf cn bT
   go_upto_region 10 with fail
   refine tAp 7 [.k (.emp U.heap.size 102),pK p 0,pK p 0,pK p 1,.v (v),.v (vr),.k (.sl U.heap.size 102 10 R.length (ents R))] (nS 0 (nV rfl (fun a u E D hk=>⟨_,_,Uq 98 102 10 rfl slR.und szR,⟨_,rfl,hk.size,Blk.new u _ _⟩,((Keep.refl _ u).alloc _)⟩)) (nS 4 (sV rfl (fun a u E D hk=>Qx _ _ Tryz.underlying98 _ _ _ rfl (dD D 3) (by rw [(ad.out.kept hk).cell];rfl))) (nS 5 (sV rfl (fun a u E D hk=>ZW slR _ _ v vr 1 rfl (dD D 4) rfl (bW.out u))) (nS 6 ((fun a u hE hD hk=>(by obtain ⟨v',u',hr,hp,cq⟩:=Zx slR _ u (a.eval (.tmp 60)) vr R.length U.heap.size _ ((dD hD 0)) (c9.out u hk) (JJj _) (by omega) (by omega) hk.size;exact jV v' u' rfl (JQ rfl _) (QV slR (.tmp 60) (.tmp 65) _ vr rfl rfl (dD hD 5) v' u' hr) hp cq))) nZ)))) ?_
   intro gv co hV af
   rw [dq 7 [60,61,62,63,64,65,66]]
   simp only [Fz7]
   have aE:(.sl U.heap.size 102 10 R.length (ents R):Kn).p (gv 66) co:=hV 6 66 (by kernel_rfl)
   generalize gv 66=v66 at aE ⊢
   clear hV
   refine aT (v66) ?_
   simp only [Act.put,sA,sS,sZ]
   refine Kx ?_
   have ao:=Kj aE.1
   have aB:=Kj aE.2
   have b3:=Kj (aR.out.kept af)
   have a2:=Kj (JJ b2.out af)
   have s12:=af.size
   clear aE aR b2 bW c9
   by_cases hc:e.o.qty-n=0
   ·have N:Yx e n R=R:=by unfold Yx;rw [if_pos hc]
    go_upto_region 12 with fail
    refine wAp 4 [pV O 0,pV O 6,iV ((e.sub n).o.qty),bV true] [75,76,77,78] (nS 2 (ldR a2.out 6) (nS 3 (aV rfl (fun a u E D hk=>JY rfl (dD D 2) rfl) (Ky hc)) nZ)) ?_
    intro ca J
    simp only [F8]
    refine aT (.bool true) ?_
    simp only [Act.put,sA,sS,sZ]
    refine Kx ?_
    clear hc
    go_upto_region 13 with fail
    refine wAp 4 [pV p 0,v66,pV p 0,pV p 1] [79,80,81,82] nZ ?_
    intro ay a5
    simp only [F8]
    have j:=(af.trans J).trans a5
    refine ZJ 98 p 1 100 _ v66 _ _ rfl rfl (by kernel_rfl) (by kernel_rfl) (by kernel_rfl) (Zy ao.out) (Xy ao.out) (ad.out.kept j) (by simp) ?_
    intro c5 bu aH hs15
    simp only [Act.put]
    refine Kx ?_
    have aw:F' p:=a4.out.1
    have bh:=az.out p aw
    have bS:=j.size
    obtain ⟨F2,q1,q2,q3,q4⟩:=a4.out.renew2 j (Nat.le_refl _) (Y:=R) ((ao.out.kept J).kept a5) aB.out (by simpa using bu) aH
    have au:Grow wr F' F2:=fun b I=>(q4 b I).imp id (fun h=>by omega)
    have a6:Keep F w c5:=Grow.keep HG.out al q3
    have av:=(am.out.kept j).keep aH (fun b I e=>(ae.out b I).2 (by rw [e];exact aw))
    clear bu aH j af J a5 q3 ao aB
    have b1:=Kj (zQ HX.out (n:=n) (by omega) aD.2)
    have b4:Hid (((H++[Ent.mk e.o n]).length:Int)+XX (Yx e n R)≤XX X):=by
     show _≤_
     have h1:=HW.out
     rw [yQ,List.length_append]
     rw [Vz] at h1
     simp only [List.length_cons,List.length_nil]
     omega
    rw [← N] at q1
    have b7:=Kj q1
    have b5:Hid (Grow w F F2):=Grow.trans HG.out au (by omega)
    have b6:Hid (∀ b,v7.ownBlock=some b→w.heap.size≤b∧¬ F2 b):=fun b I=>⟨(ae.out b I).1,fun h=>by
     rcases q4 b h with h1 | h1
     ·exact (ae.out b I).2 h1
     have:=ak.out b I;omega⟩
    have b8:=Kj av
    have aK:=a6
    clear q1 q2 au q4 av a6 HW HX N
    go_wp2
    exact ⟨⟨q'-n,H++[Ent.mk e.o n],Yx e n R,F2,rfl,by omega,b8,b6,b7,b1,b5,aK,b4,HD⟩,by simp [intOf];omega⟩
   by_cases hd:e.n-n=0
   ·have N:Yx e n R=R++[Ent.of (e.sub n).o]:=by unfold Yx;rw [if_neg hc,if_pos hd]
    go_upto_region 12 with fail
    refine wAp 4 [pV O 0,pV O 6,iV ((e.sub n).o.qty),bV false] [75,76,77,78] (nS 2 (ldR a2.out 6) (nS 3 (aV rfl (fun a u E D hk=>JY rfl (dD D 2) rfl) (Ku hc)) nZ)) ?_
    intro ca J
    simp only [F8]
    refine aT (.bool false) ?_
    simp only [Act.put,sA,sS,sZ]
    refine Kx ?_
    have bq:=Kj (b3.out.kept J)
    have a1:=Kj (JJ a2.out J)
    clear hc b3 a2
    go_upto_region 14 with fail
    refine wAp 3 [pV O 9,iV ((e.sub n).n),bV true] [84,85,86] (nS 1 (ldR a1.out 9) (nS 2 (aV rfl (fun a u E D hk=>JY rfl (dD D 1) rfl) (Ky hd)) nZ)) ?_
    intro ay a5
    simp only [F8]
    refine aT (.bool true) ?_
    simp only [Act.put,sA,sS,sZ]
    refine Kx ?_
    have j:=(af.trans J).trans a5
    have br:=Kj (bq.out.kept a5)
    have ac:=Kj (JJ a1.out a5)
    have a8:=Kj (ao.out.kept (J.trans a5))
    have bS:=j.size
    clear hd bq a1 af J a5 ao
    go_upto_region 15 with fail
    refine wAp 4 [pV O 0,(e.sub n).o.v,iV ((e.sub n).o.tip),pV O 9] [87,88,89,90] (nS 1 (ldS Tryz.underlying35 (fun u hk=>xX (JJ ac.out hk)) (by rw [(e.sub n).o.len9];exact JU)) (nS 2 (cV Tryz.func99 (fun u hk=>tip_any (e.sub n).o u)) nZ)) ?_
    intro c5 bf
    simp only [F8]
    refine ZJ 3 O 9 102 _ (.int .i64 (e.sub n).o.tip) _ _ rfl rfl (by kernel_rfl) (by kernel_rfl) (by kernel_rfl) rfl rfl (br.out.kept bf) (by rw [Ent.len10];omega) ?_
    intro ax bn ba hs16
    simp only [Act.put]
    refine Kx ?_
    have aO:Hid (ax.rangeAt O 0 (Ent.of (e.sub n).o).cells):=JX (show Blk ax O _ (Ent.of (e.sub n).o).cells from bn)
    have aG:Keep (·=O) U ax:=((Keep.mono (T:=(·=O)) (j.trans bf) (fun _ _ h=>h.elim))).trans ba (fun _ _ h=>h)
    have aw:F' p:=a4.out.1
    have bh:=az.out p aw
    have bN:=Kj (a4.out.keep aG (fun b I e=>bM (by rw [← e];exact I)))
    have c7:=Kj (ad.out.keep aG (by omega))
    have cc:=Kj (am.out.keep aG (fun b I e=>bl.out b I e))
    have bO:Keep F w ax:=al.trans aG (fun b I e=>by subst e;omega)
    have aI:=Kj ((a8.out.kept bf).keep ba (fun b I e=>by have:=aB.out b I;omega))
    have s16:=aG.size
    obtain ⟨e2,aL⟩:∃ e2,Ent.of (e.sub n).o=e2:=⟨_,rfl⟩
    rw [aL] at aO N
    clear bn ba aG j bf br ac a8 a4 am al ad aL
    go_upto_region 16 with fail
    refine tAp 4 [pK p 0,.v (v66),.v (e2.v),.k (.sl ax.heap.size 102 10 1 e2.cells)] (nS 2 (ldS Tryz.underlying102 (fun u hk=>JJ aO.out hk) (by rw [e2.len10];exact szR)) (nS 3 (nV rfl (fun a u E D hk=>⟨_,_,VJ slR _ e2.cells (by omega) rfl (dD D 2) (e2.len10),(jY u 102 10 _ ax.heap.size (e2.len10) (by omega) hk.size),((Keep.refl _ u).alloc _)⟩)) nZ)) ?_
    intro gv aQ hV a7
    rw [dq 4 [91,92,93,94]]
    simp only [Fz7]
    rw [gQ hV 1 92 v66]
    have aX:(.sl ax.heap.size 102 10 1 e2.cells:Kn).p (gv 94) aQ:=hV 3 94 (by kernel_rfl)
    generalize gv 94=v94 at aX ⊢
    rw [gQ hV 0 91 (.pointer (some ⟨p,0,none⟩))]
    clear hV
    obtain ⟨v95,ai,aq,a3,ab,aj⟩:=QQ slR 98 aQ v66 v94 R.length 1 _ _ (aI.out.kept a7) aX.1 (Ent.one _) (by unfold maxLen;omega) (by omega)
    have ci:=a7.size
    have bH:¬ v66.ownBlock=some p:=fun h=>by have:=aB.out p h;omega
    refine Vj v95 ai rfl (QV slR (.tmp 92) (.tmp 94) v66 v94 rfl (by kernel_rfl) (by kernel_rfl) v95 ai aq) ?_
    refine aT (.pointer (some ⟨p,0,none⟩)) ?_
    refine aT (.pointer (some ⟨p,1,none⟩)) ?_
    refine ZJ 98 p 1 100 _ v95 _ _ rfl rfl (by kernel_rfl) (by kernel_rfl) (by kernel_rfl) (Zy a3) (Xy a3) ((c7.out.kept a7).keep ab bH) (by simp) ?_
    intro bG ar a9 c8
    simp only [Act.put,sA,sS,sZ]
    refine Kx ?_
    have bc:Hid (∀ b,v66.ownBlock=some b→U.heap.size≤b):=aB.out
    have ag:Keep (fun b=>U.heap.size≤b) ax ai:=(Keep.mono (T:=fun b=>U.heap.size≤b) a7 (fun _ _ h=>h.elim)).trans ab (fun b _ I=>bc.out b I)
    have aJ:=Kj (bN.out.keep ag (fun b I h=>by have:=az.out b I;omega))
    have b0:=Kj (cc.out.keep ag (fun b I h=>by have:=ak.out b I;omega))
    have aU:Keep F w ai:=bO.trans ag (fun b I h=>by omega)
    obtain ⟨F2,q1,q2,q3,q4⟩:=aJ.out.renew3 (base:=U.heap.size) (Y:=R++[e2]) (v':=v95) (by omega) (by rw [List.length_append,ents_snoc];exact a3) (fun b I=>(aj b I).elim (bc.out b) (fun h=>by omega)) (by simpa using ar) a9
    have au:Grow wr F' F2:=fun b I=>(q4 b I).imp id (fun h=>by omega)
    have a6:Keep F w bG:=Grow.keep HG.out aU q3
    have av:=b0.out.keep a9 (fun b I e=>(ae.out b I).2 (by rw [e];exact aw))
    clear ar a9 a3 ab aq aj a7 ag q3 aI aB aX
    have b1:=Kj (zQ HX.out (n:=n) (by omega) aD.2)
    have b4:Hid (((H++[Ent.mk e.o n]).length:Int)+XX (Yx e n R)≤XX X):=by
     show _≤_
     have h1:=HW.out
     rw [yQ,List.length_append]
     rw [Vz] at h1
     simp only [List.length_cons,List.length_nil]
     omega
    rw [← N] at q1
    have b7:=Kj q1
    have b5:Hid (Grow w F F2):=Grow.trans HG.out au (by omega)
    have b6:Hid (∀ b,v7.ownBlock=some b→w.heap.size≤b∧¬ F2 b):=fun b I=>⟨(ae.out b I).1,fun h=>by
     rcases q4 b h with h1 | h1
     ·exact (ae.out b I).2 h1
     have:=ak.out b I;omega⟩
    have b8:=Kj av
    have aK:=a6
    clear q1 q2 au q4 av a6 HW HX N
    go_wp2
    exact ⟨⟨q'-n,H++[Ent.mk e.o n],Yx e n R,F2,rfl,by omega,b8,b6,b7,b1,b5,aK,b4,HD⟩,by simp [intOf];omega⟩
   have N:Yx e n R=e.sub n::R:=by unfold Yx;rw [if_neg hc,if_neg hd]
   go_upto_region 12 with fail
   refine wAp 4 [pV O 0,pV O 6,iV ((e.sub n).o.qty),bV false] [75,76,77,78] (nS 2 (ldR a2.out 6) (nS 3 (aV rfl (fun a u E D hk=>JY rfl (dD D 2) rfl) (Ku hc)) nZ)) ?_
   intro ca J
   simp only [F8]
   refine aT (.bool false) ?_
   simp only [Act.put,sA,sS,sZ]
   refine Kx ?_
   have a1:=Kj (JJ a2.out J)
   clear hc b3 a2
   go_upto_region 14 with fail
   refine wAp 3 [pV O 9,iV ((e.sub n).n),bV false] [84,85,86] (nS 1 (ldR a1.out 9) (nS 2 (aV rfl (fun a u E D hk=>JY rfl (dD D 1) rfl) (Ku hd)) nZ)) ?_
   intro ay a5
   simp only [F8]
   refine aT (.bool false) ?_
   simp only [Act.put,sA,sS,sZ]
   refine Kx ?_
   have j:=(af.trans J).trans a5
   have ac:=Kj (JJ a1.out a5)
   have a8:=Kj (ao.out.kept (J.trans a5))
   have bS:=j.size
   have bL:=Kj (ad.out.kept j)
   have bX:=Kj (a4.out.kept j)
   have cb:=Kj (am.out.kept j)
   have c4:=al.kept j
   have aw:F' p:=a4.out.1
   have bh:=az.out p aw
   obtain ⟨e2,aL⟩:∃ e2,e.sub n=e2:=⟨_,rfl⟩
   rw [aL] at ac N
   clear hd a1 af J a5 ao j ad a4 am al aL
   go_upto_region 11 with fail
   refine tAp 4 [pK p 0,.v (e2.v),.k (.sl ay.heap.size 102 10 1 e2.cells),.v (v66)] (nS 1 (ldS Tryz.underlying102 (fun u hk=>JJ ac.out hk) (by rw [e2.len10];exact szR)) (nS 2 (nV rfl (fun a u E D hk=>⟨_,_,VJ slR _ e2.cells (by omega) rfl (dD D 1) (e2.len10),(jY u 102 10 _ ay.heap.size (e2.len10) (by omega) hk.size),((Keep.refl _ u).alloc _)⟩)) nZ)) ?_
   intro gv aQ hV a7
   rw [dq 4 [67,68,69,70]]
   simp only [Fz7]
   have an:(.sl ay.heap.size 102 10 1 e2.cells:Kn).p (gv 69) aQ:=hV 2 69 (by kernel_rfl)
   generalize gv 69=v69 at an ⊢
   rw [gQ hV 3 70 v66]
   rw [gQ hV 0 67 (.pointer (some ⟨p,0,none⟩))]
   clear hV
   obtain ⟨v71,ai,aq,a3,ab,aj⟩:=QQ slR 98 aQ v69 v66 1 R.length _ _ an.1 (a8.out.kept a7) (JJj _) (by unfold maxLen;omega) (by omega)
   have ci:=a7.size
   have bH:¬ v69.ownBlock=some p:=fun h=>by have:=an.2 p h;omega
   refine Vj v71 ai rfl (QV slR (.tmp 69) (.tmp 70) v69 v66 rfl (by kernel_rfl) (by kernel_rfl) v71 ai aq) ?_
   refine aT (.pointer (some ⟨p,0,none⟩)) ?_
   refine aT (.pointer (some ⟨p,1,none⟩)) ?_
   refine ZJ 98 p 1 100 _ v71 _ _ rfl rfl (by kernel_rfl) (by kernel_rfl) (by kernel_rfl) (Zy a3) (Xy a3) ((bL.out.kept a7).keep ab bH) (by simp) ?_
   intro bG ar a9 c8
   simp only [Act.put,sA,sS,sZ]
   refine Kx ?_
   have bc:Hid (∀ b,v69.ownBlock=some b→ay.heap.size≤b):=an.2
   have ag:Keep (fun b=>U.heap.size≤b) ay ai:=(Keep.mono (T:=fun b=>U.heap.size≤b) a7 (fun _ _ h=>h.elim)).trans ab (fun b _ I=>by have:=bc.out b I;omega)
   have aJ:=Kj (bX.out.keep ag (fun b I h=>by have:=az.out b I;omega))
   have b0:=Kj (cb.out.keep ag (fun b I h=>by have:=ak.out b I;omega))
   have aU:Keep F w ai:=c4.trans ag (fun b I h=>by omega)
   obtain ⟨F2,q1,q2,q3,q4⟩:=aJ.out.renew3 (base:=U.heap.size) (Y:=e2::R) (v':=v71) (by omega) (by rw [List.length_cons,Nat.add_comm,show ents (e2::R)=e2.cells++ents R from List.flatMap_cons];exact a3) (fun b I=>(aj b I).elim (fun h=>by have:=bc.out b h;omega) (fun h=>by omega)) (by simpa using ar) a9
   have au:Grow wr F' F2:=fun b I=>(q4 b I).imp id (fun h=>by omega)
   have a6:Keep F w bG:=Grow.keep HG.out aU q3
   have av:=b0.out.keep a9 (fun b I e=>(ae.out b I).2 (by rw [e];exact aw))
   clear ar a9 a3 ab aq aj a7 ag q3 a8 aB an
   have b1:=Kj (zQ HX.out (n:=n) (by omega) aD.2)
   have b4:Hid (((H++[Ent.mk e.o n]).length:Int)+XX (Yx e n R)≤XX X):=by
    show _≤_
    have h1:=HW.out
    rw [yQ,List.length_append]
    rw [Vz] at h1
    simp only [List.length_cons,List.length_nil]
    omega
   rw [← N] at q1
   have b7:=Kj q1
   have b5:Hid (Grow w F F2):=Grow.trans HG.out au (by omega)
   have b6:Hid (∀ b,v7.ownBlock=some b→w.heap.size≤b∧¬ F2 b):=fun b I=>⟨(ae.out b I).1,fun h=>by
    rcases q4 b h with h1 | h1
    ·exact (ae.out b I).2 h1
    have:=ak.out b I;omega⟩
   have b8:=Kj av
   have aK:=a6
   clear q1 q2 au q4 av a6 HW HX N
   go_wp2
   exact ⟨⟨q'-n,H++[Ent.mk e.o n],Yx e n R,F2,rfl,by omega,b8,b6,b7,b1,b5,aK,b4,HD⟩,by simp [intOf];omega⟩
 skip
 obtain ⟨h1,h2,v,hB,hS,h5⟩:=HL.out
 obtain ⟨m,hm⟩:∃ m,X'.length=m:=⟨_,rfl⟩
 rw [hm] at hS
 have HB:=Kj hB
 have HS:=Kj hS
 have bR:=h2 p h1
 clear hB hS h1 h2 h5
 have HD:=Kj (JJy (t:=takeM firm q X) HT.out (UX firm q' X' (by omega)))
 clear HT
 go_upto_region 2 with fail
 refine wA 10 [iV q',bV false,bV false,undef,undef,undef,undef,undef,undef,bV false] [12,13,14,15,16,17,18,19,20,21] (nS 1 (aV rfl (fun a u E D hk=>QZ rfl (dD D 0) rfl) (Ku hq0)) nZ) ?_
 intro w1 k1
 simp only [F8]
 have bg:=aA.kept k1
 have s1:=k1.size
 go_wp2
 go_ret2
 refine ⟨F',v8,?_,?_,?_,HO.out,HG.out,bg⟩
 ·rw [HD.out];rfl
 ·rw [HD.out];exact HL.out.kept k1
 rw [HD.out];exact HV.out.kept k1
end Go.Proofs.YtklohceombpleaaGreat
namespace Go.Proofs.YtklohceombpleaaGreat
open Go.RowKit
def RRejoin4 (w:World) (F:Nat→Prop) (p:Nat) (B:Bok) (s:Int) (u:Value) (Fs:Nat→Prop):Prop:=
 ∀ (w':World) (v':Value) (L':List Lev) (Fs':Nat→Prop) (last no:Int) (S:Nat→Prop),Keep S w w'→(∀ b,F b→S b→Fs b∨b=p)→Blk w' p 60 (rsd s v' u last no)→Way 100 102 97 w' Fs' v' L'→Grow w Fs Fs'→∃ F',RBk w' F' p (B.to s L' last no)∧Grow w F F'∧∀ b,F' b↔F b∨Fs' b
theorem RBk.open4 {w:World} {F:Nat→Prop} {p:Nat} {B:Bok} (h:RBk w F p B) {s:Int} (hs:s=1∨s=2) :
  ∃ v u Z G Fs,levs Z=B.sd s∧WayZ 100 102 97 w Fs v Z G∧Blk w p 60 (rsd s v u B.last B.no)∧(∀ b,Fs b→F b∧b≠p)∧F p∧(∀ b,F b→b<w.heap.size)∧RRejoin4 w F p B s u Fs:=by
 obtain ⟨h1,U,v1,v2,F1,F2,hB,a1,a2,D,J⟩:=h
 have hpl:=U p h1
 rcases hs with rfl | rfl
 ·obtain ⟨Z,G,e,hz⟩:=a1
  refine ⟨v1,v2,Z,G,F1,e,hz,hB,fun b j=>⟨(D b j).1,(D b j).2.1⟩,h1,U,?_⟩
  intro w' v' L' I last no S hk hS N H hG
  have O:=H.lt
  refine ⟨fun b=>F b∨I b,⟨.inl h1,fun b j=>j.elim (fun h=>Nat.lt_of_lt_of_le (U b h) hk.size) (O b),v',v2,I,F2,N,H,a2.keep hk (fun b j h=>(hS b (J b j).1 h).elim (fun h=>(D b h).2.2 j) (fun h=>(J b j).2 h)),fun b j=>?_,fun b j=>⟨.inl (J b j).1,(J b j).2⟩⟩,fun b j=>j.elim .inl (fun h=>(hG b h).imp (fun h=>(D b h).1) id),fun b=>Iff.rfl⟩
  refine ⟨.inr j,?_,?_⟩
  ·rcases hG b j with h | h
   ·exact (D b h).2.1
   omega
  rcases hG b j with h | h
  ·exact (D b h).2.2
  intro h'
  have:=U b (J b h').1
  omega
 obtain ⟨Z,G,e,hz⟩:=a2
 refine ⟨v2,v1,Z,G,F2,e,hz,hB,J,h1,U,?_⟩
 intro w' v' L' I last no S hk hS N H hG
 have O:=H.lt
 refine ⟨fun b=>F b∨I b,⟨.inl h1,fun b j=>j.elim (fun h=>Nat.lt_of_lt_of_le (U b h) hk.size) (O b),v1,v',F1,I,N,a1.keep hk (fun b j h=>(hS b (D b j).1 h).elim (fun h=>(D b j).2.2 h) (fun h=>(D b j).2.1 h)),H,fun b j=>⟨.inl (D b j).1,(D b j).2.1,fun h'=>?_⟩,fun b j=>⟨.inr j,?_⟩⟩,fun b j=>j.elim .inl (fun h=>(hG b h).imp (fun h=>(J b h).1) id),fun b=>Iff.rfl⟩
 ·rcases hG b h' with h | h
  ·exact (D b j).2.2 h
  have:=U b (D b j).1
  omega
 rcases hG b j with h | h
 ·exact (J b h).2
 omega
theorem rsd_last (s:Int) (v u:Value) (last no x:Int):(rsd s v u last no).set 3 (.int .i64 x)=rsd s v u x no:=by unfold rsd;split <;> rfl
theorem rsd_no (s:Int) (v u:Value) (last no x:Int):(rsd s v u last no).set 4 (.int .i64 x)=rsd s v u last x:=by unfold rsd;split <;> rfl
def mQ (g:Nat) (w:World):Nat:=match w.cell? ⟨g,6,none⟩ with
 | some (.int _ l)=>l.toNat
 | _=>0
theorem mQ_is {w:World} {g:Nat} {o:Ord} {n:Int} {T:TypeId} (h:Blk w g T (o.q n).cells):mQ g w=n.toNat:=by
 unfold mQ
 rw [h.cell]
 rfl
def UV (w:World) (F:Nat→Prop) (p:Nat) (B:Bok) (o:Ord) (m:Mt) (r:Ending) (w':World):Prop:=
 ∃ F' vf,r=.returned (.tuple #[vf,.int .i64 m.left,.bool m.self])∧RBk w' F' p (B.to (3-o.side) m.L (Zq B.last m.f) (B.no+m.f.length))∧Sl w' 95 21 vf m.f.length (fls m.f)∧(∀ b,vf.ownBlock=some b→w.heap.size≤b∧¬ F' b)∧Grow w F F'∧Keep F w w'
theorem rbmatch_any (w:World) (F:Nat→Prop) (p:Nat) (B:Bok) (o:Ord) (h:RBk w F p B) (hI:Inv B) (hs:o.side=1∨o.side=2) (hq:1≤o.qty∧o.qty≤1048576) (hn:B.no≤1000000000000) :
  Calls Tryz.prog 59 #[.pointer (some ⟨p,0,none⟩),o.v] w (UV w F p B o (B.matched o)):=by
 have cb:Sid (3-o.side) (B.sd (3-o.side)):=(hI.side hs).theirs
 have hno0:=hI.no0
 have du:=Kj cb
 have cB:=h.lt
 have HK:=Kj h
 have bM:=h.1
 obtain ⟨k,aX,hk⟩:∃ k:Nat,(k=1∨k=2)∧3-o.side=(k:Int):=by
  rcases hs with hs | hs
  ·exact ⟨2,.inr rfl,by omega⟩
  exact ⟨1,.inl rfl,by omega⟩
 have au:(k:Int)=1∨(k:Int)=2:=by omega
 have aW:=Kj hk
 rw [hk] at du
 clear cb h hI hs
 go_enter Tryz.func59,Tryz.ntmps59
 go_upto_region 0 with fail
 refine tAp 4 [.k (.fresh w.heap.size 35 (o.cells)),.v (.slice none 0 0),iK 0,bK false] (nS 0 (nV rfl (fun a u E D hk=>⟨_,_,XV 35 _ (o.cells) rfl (eE E),⟨_,rfl,hk.size,Blk.new u _ _⟩,((Keep.refl _ u).alloc _)⟩)) nZ) ?_
 intro gv w0 hV k0
 rw [dq 4 [3,4,5,6]]
 simp only [Fz7]
 have dJ:(.fresh w.heap.size 35 (o.cells):Kn).p (gv 3) w0:=hV 0 3 (by kernel_rfl)
 generalize gv 3=v3 at dJ ⊢
 rw [gQ hV 1 4 (.slice none 0 0)]
 rw [gQ hV 2 5 (.int .i64 0)]
 rw [gQ hV 3 6 (.bool false)]
 clear hV
 obtain ⟨g,rfl,hg,hB⟩:=dJ
 refine Kx ?_
 have dw:=Kj (JX hB)
 have dL:=Kj hB
 have lg:=hB.lt
 clear hB
 go_upto_region 1 with fail
 refine wA 4 [pV g 3,iV o.side,iV (k:Int),iV (k:Int)] [14,15,16,7] (nS 1 (ldR dw.out 3) (nS 2 (sV rfl (fun a u E D hk=>Zz (k:Int) (p:=(3:Int)) (q:=o.side) rfl rfl (dD D 1) (by omega) (by omega) (by omega))) nZ)) ?_
 intro w1 kb
 simp only [F8]
 have k1:=k0.trans kb
 have ef:Hid (Blk w1 g 35 (o.q o.qty).cells):=dL.out.kept kb
 have dx:=Kj (HK.out.kept k1)
 have z1:=k1.size
 have zb:=kb.size
 have hFl1:∀ b,F b→b<w1.heap.size:=fun b I=>Nat.lt_of_lt_of_le (cB b I) z1
 have dv:¬ F g:=fun e=>by have:=cB g e;omega
 have hg1:g<w1.heap.size:=by omega
 have hpw:=cB p bM
 clear dw dL HK k0 kb hk
 go_wp2_with fail
 go_loopw [8] (fun x wr=>∃ (L:List Lev) (last no left:Int) (fs:List Fl) (Fc:Nat→Prop),Hid (RBk wr Fc p (B.to (k:Int) L last no))∧Hid (Blk wr g 35 (o.q left).cells)∧Hid (Sl wr 95 21 x fs.length (fls fs))∧Hid (∀ b,x.ownBlock=some b→w1.heap.size≤b∧¬ Fc b∧b≠g)∧Hid (Grow w1 F Fc)∧Keep (fun b=>F b∨b=g) w1 wr∧Hid (Sid (k:Int) L)∧Hid (last=Zq B.last fs∧no=B.no+fs.length)∧(0≤left∧(fs.length:Int)+left≤o.qty)∧Hid (B.matched o=⟨fs++(Yq o no left L).f,(Yq o no left L).left,(Yq o no left L).self,(Yq o no left L).L⟩)) (fun _ wr=>mQ g wr)
 case atStart=>
  refine ⟨B.sd (k:Int),B.last,B.no,o.qty,[],F,by show RBk _ _ _ _;rw [Bok.to_self au];exact dx.out,ef.out,Sl.nil _ _ _,fun b I=>by simp [Value.ownBlock] at I,Grow.refl _ _,Keep.refl _ _,du.out,⟨rfl,by simp⟩,⟨by omega,by simp⟩,?_⟩
  show _=_
  unfold Bok.matched
  rw [aW.out]
  simp
 obtain ⟨wo,ei⟩:∃ y,y=wr:=⟨_,rfl⟩
 subst ei
 obtain ⟨L,last,no,left,fs,Fc,an,bm,ah,J,a6,ba,bC,aN,hlf,HM⟩:=hrel
 obtain ⟨vf,e8⟩:∃ y,y=u8:=⟨_,rfl⟩
 subst e8
 have zr:=ba.size
 have dG:=Kj (mQ_is bm.out)
 have aG:Hid (wo.cell? ⟨g,6,none⟩=some (.int .i64 left)):=by show _=_;rw [bm.out.cell];rfl
 by_cases hl0:0<left
 ·obtain ⟨v,u0,Z,G,Fs,eL,hW,hB,cK,hp,aM,hJ⟩:=an.out.open4 au
  rw [Bok.to_sd au] at eL
  have HV:=Kj (rsd_cell aX hB)
  have aK:=Kj hW.sl
  cases L with
  | nil=>
   have db:Z=[]:=by simpa [levs] using eL
   obtain ⟨n,hn⟩:∃ n,Z.length=n:=⟨_,rfl⟩
   have aU:=aK
   rw [hn] at aU
   have dU:n=0:=by rw [← hn,db];rfl
   have N:Hid (B.matched o=⟨fs,left,false,[]⟩):=by show _=_;rw [HM.out];simp [Yq]
   clear HM eL hW hB cK hp aM hJ hn db aK
   go_upto_region 3 with fail
   refine wA 13 [pV g 6,iV left,bV true,bV true,pV p 0,iV (k:Int),pV p 0,pV p 0,pV p (0+k*1),v,iV (n:Int),bV false,bV false] [17,18,19,20,21,22,23,24,25,26,27,28,29] (nS 1 (ldF (fun u hk=>Kept.cell hk (aG.out))) (nS 2 (aV rfl (fun a u E D hk=>QZ rfl (dD D 1) rfl) (Ky hl0)) (nS 8 (sV rfl (fun a u E D hk=>VQ 58 57 3 1 _ _ p 0 k rfl Tryz.underlying58 (by kernel_rfl) (dD D 7) (dD D 5) (by omega))) (nS 9 (ldC HV.out) (nS 10 (sV rfl (fun a u E D hk=>Jx _ VV _ _ _ _ rfl (dD D 9) aU.out)) (nS 11 (aV rfl (fun a u E D hk=>QZ rfl (dD D 10) rfl) (Ku (by omega))) nZ)))))) ?_
   intro wq kq
   simp only [F8]
   have bj:=Kj (kq.cell aG.out)
   go_upto_region 19 with fail
   refine wH 6 [vf,pV g 6,iV left,vf,iV left,bV false] [122,123,124,4,5,6] (nS 2 (ldF (fun u hk=>Kept.cell hk (bj.out))) nZ) ?_
   intro wy ky
   simp only [F8]
   have af:=kq.trans ky
   have a1:Hid (UV w F p B o (B.matched o) (.returned (.tuple #[vf,.int .i64 left,.bool false])) wy):=by
    show UV _ _ _ _ _ _ _ _
    rw [N.out]
    unfold UV
    rw [aW.out]
    have hl:=aN.out
    have I:=an.out.kept af
    rw [hl.1,hl.2] at I
    exact ⟨Fc,vf,rfl,I,ah.out.kept af,fun b I=>⟨by have:=(J.out b I).1;omega,(J.out b I).2.1⟩,fun b I=>(a6.out b I).imp id (fun h=>by omega),((Keep.any k1 ba).mono (fun b I e=>e.elim id (fun e=>by omega))).kept af⟩
   clear an ah J N
   go_wp2
   go_ret3
   exact a1.out
  | cons l R=>
   obtain ⟨pr,X⟩:=l
   obtain ⟨z,ZR,hZ⟩:∃ z ZR,Z=z::ZR:=by
    cases Z with
    | nil=>cases eL
    | cons z ZR=>exact ⟨z,ZR,rfl⟩
   subst hZ
   obtain ⟨q,j,X'⟩:=z
   rw [VW] at eL
   obtain ⟨e1,eR⟩:=List.cons.inj eL
   simp only [Prod.mk.injEq] at e1
   obtain ⟨rfl,rfl⟩:=e1
   have dB:Hid (wo.cell? ⟨q,0,none⟩=some (.int .i64 j)):=by
    show _=_
    obtain ⟨_,_,x,hx,_⟩:=hW.lv (q,j,X') (by simp)
    rw [hx.cell]
    rfl
   obtain ⟨gs,os,c,rfl⟩:=hW.some_ (by simp)
   obtain ⟨n,aw⟩:∃ n,List.length ((q,j,X')::ZR)=n:=⟨_,rfl⟩
   have dU:0<n:=by rw [← aw];simp
   have HC:Hid (wo.cell? ⟨gs,os,none⟩=some (.pointer (some ⟨q,0,none⟩))):=by show _=_;have:=hW.cell (i:=0) (z:=(q,j,X')) rfl;simpa using this
   rw [aw] at hW hB
   have aU:=aK
   rw [aw] at aU HV
   have df:Hid (((q,j,X')::ZR).length=n):=aw
   have cE:=Kj eR
   have HJ:=Kj hJ
   have aj:=Kj cK
   have HW:=Kj hW
   have eg:=Kj hB
   have c5:=Kj aM
   have c4:=hp
   clear hW hB eL hJ cK aM aw eR aK hp
   go_upto_region 3 with fail
   refine wA 13 [pV g 6,iV left,bV true,bV true,pV p 0,iV (k:Int),pV p 0,pV p 0,pV p (0+k*1),.slice (some ⟨gs,os,none⟩) n c,iV (n:Int),bV true,bV true] [17,18,19,20,21,22,23,24,25,26,27,28,29] (nS 1 (ldF (fun u hk=>Kept.cell hk (aG.out))) (nS 2 (aV rfl (fun a u E D hk=>QZ rfl (dD D 1) rfl) (Ky hl0)) (nS 8 (sV rfl (fun a u E D hk=>VQ 58 57 3 1 _ _ p 0 k rfl Tryz.underlying58 (by kernel_rfl) (dD D 7) (dD D 5) (by omega))) (nS 9 (ldC HV.out) (nS 10 (sV rfl (fun a u E D hk=>Jx _ VV _ _ _ _ rfl (dD D 9) aU.out)) (nS 11 (aV rfl (fun a u E D hk=>QZ rfl (dD D 10) rfl) (Ky (by omega))) nZ)))))) ?_
   intro wq kq
   simp only [F8]
   have bS:=Kj (kq.cell dB.out)
   have d7:=Kj (kq.cell HC.out)
   have dH:=Kj (kq.cell HV.out)
   go_upto_region 4 with fail
   refine wA 9 [pV p 0,iV (k:Int),pV p 0,pV p 0,pV p (0+k*1),.slice (some ⟨gs,os,none⟩) n c,pV gs os,pV q 0,pV q 0] [30,31,32,33,34,35,36,37,9] (nS 4 (sV rfl (fun a u E D hk=>VQ 58 57 3 1 _ _ p 0 k rfl Tryz.underlying58 (by kernel_rfl) (dD D 3) (dD D 1) (by omega))) (nS 5 (ldC dH.out) (nS 6 (ixV VV (os) n 0 (0) ((by omega))) (nS 7 (ldC d7.out) nZ)))) ?_
   intro w2 k2
   simp only [F8]
   have bP:=kq.trans k2
   have cv:=Kj (JX (bm.out.kept bP))
   have b3:=Kj (k2.cell bS.out)
   clear bS d7 dH k2
   cases aQ:o.crosses j with
   | false=>
    have bD:Hid ((o.q left).crosses j=false):=aQ
    have N:Hid (B.matched o=⟨fs,left,false,(j,X')::R⟩):=by show _=_;rw [HM.out,match_none (show o.meets ((j,X')::R)=false from aQ)];simp
    clear HM aQ
    go_upto_region 5 with fail
    refine wH 7 [(o.q left).v,pV q 0,pV q 0,pV q 0,iV j,bV false,bV true] [38,39,40,41,42,43,44] (nS 0 (ldO cv.out) (nS 4 (ldF (fun u hk=>Kept.cell hk (b3.out))) (nS 5 (cV Tryz.func57 (fun u hk=>(by have h:=JQU (o.q left) j u;rw [bD.out] at h;exact h))) (nS 6 (sV rfl (fun a u E D hk=>YX _ _ false rfl (dD D 5))) nZ)))) ?_
    intro w3 k3
    simp only [F8]
    have kq0:=kq
    clear kq
    have kq:=bP.trans k3
    have bj:=Kj (kq.cell aG.out)
    go_upto_region 19 with fail
    refine wH 6 [vf,pV g 6,iV left,vf,iV left,bV false] [122,123,124,4,5,6] (nS 2 (ldF (fun u hk=>Kept.cell hk (bj.out))) nZ) ?_
    intro wy ky
    simp only [F8]
    have af:=kq.trans ky
    have a1:Hid (UV w F p B o (B.matched o) (.returned (.tuple #[vf,.int .i64 left,.bool false])) wy):=by
     show UV _ _ _ _ _ _ _ _
     rw [N.out]
     unfold UV
     rw [aW.out]
     have hl:=aN.out
     have I:=an.out.kept af
     rw [hl.1,hl.2] at I
     exact ⟨Fc,vf,rfl,I,ah.out.kept af,fun b I=>⟨by have:=(J.out b I).1;omega,(J.out b I).2.1⟩,fun b I=>(a6.out b I).imp id (fun h=>by omega),((Keep.any k1 ba).mono (fun b I e=>e.elim id (fun e=>by omega))).kept af⟩
    clear an ah J N
    go_wp2
    go_ret3
    exact a1.out
   | true=>
    have bD:Hid ((o.q left).crosses j=true):=aQ
    have cP:=Kj (match_round (no:=no) bC.out hl0 aQ)
    have ac:=Kj (round_is (o:=o) bC.out hl0)
    have eb:=Kj (bC.out.good (l:=(j,X')) (by simp)).1
    clear aQ
    go_upto_region 5 with fail
    refine wH 7 [(o.q left).v,pV q 0,pV q 0,pV q 0,iV j,bV true,bV false] [38,39,40,41,42,43,44] (nS 0 (ldO cv.out) (nS 4 (ldF (fun u hk=>Kept.cell hk (b3.out))) (nS 5 (cV Tryz.func57 (fun u hk=>(by have h:=JQU (o.q left) j u;rw [bD.out] at h;exact h))) (nS 6 (sV rfl (fun a u E D hk=>YX _ _ true rfl (dD D 5))) nZ)))) ?_
    intro w3 k3
    simp only [F8]
    have bh:=bP.trans k3
    obtain ⟨t,ht⟩:∃ t,takeM o.firm left X'=t:=⟨_,rfl⟩
    obtain ⟨H,ow,U⟩:=t
    rw [ht] at ac
    have cG:=Kj ht
    have dc:Hid (w3.cell? ⟨g,2,none⟩=some (.int .i64 o.firm)):=by show _=_;rw [(bm.out.kept bh).cell];rfl
    have cX:=Kj (bh.cell aG.out)
    have d8:=Kj (HW.out.kept bh)
    clear ht b3 cv k3 bP bD
    go_upto_region 6 with fail
    refine wAp 5 [pV q 0,pV g 2,iV o.firm,pV g 6,iV left] [46,47,48,49,50] (nS 2 (ldF (fun u hk=>Kept.cell hk (dc.out))) (nS 4 (ldF (fun u hk=>Kept.cell hk (cX.out))) nZ)) ?_
    intro wa ka
    simp only [F8]
    have cJ:=d8.out.kept ka
    have dk:=cJ.lv (q,j,X') (by simp)
    refine cT Tryz.func83 [.pointer (some ⟨q,0,none⟩),.int .i64 o.firm,.int .i64 left] ?_
    refine (rtake_any wa _ q X' o.firm left dk eb.out (by omega)).mono ?_
    rintro r w4 ⟨F4,vh,rfl,cl,b0,dE,d9,cH⟩
    rw [cG.out] at cl b0
    refine ⟨.tuple #[vh,.bool ow],by rw [cG.out],?_⟩
    refine aT (.tuple #[vh,.bool ow]) ?_
    refine aT (vh) ?_
    refine aT (.bool ow) ?_
    refine aT (vh) ?_
    refine aT (.bool ow) ?_
    simp only [Act.put,sA,sS,sZ]
    refine Kx ?_
    have bn:Kept wo wa:=bh.trans ka
    have z3:=bn.size
    have bs:¬ Fc g:=fun e=>(a6.out g e).elim dv (fun e=>by omega)
    obtain ⟨aE,G4,cA,ds,aq,_⟩:=WayZ.turn (A:=[]) (R:=ZR) (q:=q) (pr:=j) (X:=X') cJ cH cl d9
    have z4:=cH.size
    have d6:¬ Fs g:=fun e=>bs (aj.out g e).1
    have dr:¬ Fs p:=fun e=>(aj.out p e).2 rfl
    have dF:=Kj ((bm.out.kept bn).keep aq d6)
    have dj:=Kj ((eg.out.kept bn).keep aq dr)
    have cY:=Kj ((ah.out.kept bn).keep aq (fun b I e=>(J.out b I).2.1 (aj.out b e).1))
    have aZ:∀ b,vf.ownBlock=some b→b<wo.heap.size:=fun b I=>ah.out.lt I
    have cZ:=Kj aZ
    have dg:=Kj cA
    have ck:Hid (∀ b,vh.ownBlock=some b→wa.heap.size≤b):=fun b I=>(dE b I).1
    have HHL:Hid (∀ b,vh.ownBlock=some b→b<w4.heap.size):=fun b I=>b0.lt I
    have K4:Keep Fs wo w4:=Keep.any bn aq
    have bW:Hid (∀ b,aE b→b<w4.heap.size):=cA.lt
    have am:Hid (∀ b,aE b→Fs b∨wo.heap.size≤b):=fun b I=>(ds b I).imp id (fun e=>by omega)
    obtain ⟨nh,bI⟩:∃ m,H.length=m:=⟨_,rfl⟩
    rw [bI] at b0
    have cq:=Kj b0
    have aO:=Kj bI
    have hbn:0≤no∧no≤2000000000000:=by have:=aN.out.2;omega
    have bc:=ac.out.sum
    have cf:=ac.out.len
    simp only at bc cf
    have hnh2:(nh:Int)≤left:=by rw [← bI];omega
    have dm:=Kj bc
    have bq:=Kj ac.out.pos
    have bJ:=ba
    have ci:g≠p:=fun e=>dv (by rw [e];exact bM)
    have cN:∀ b,aE b→¬ (b=g∨b=p∨vf.ownBlock=some b):=fun b I e=>by
     rcases e with e | e | e
     ·rcases am.out b I with h | h
      ·exact d6 (by rw [← e];exact h)
      omega
     ·rcases am.out b I with h | h
      ·exact dr (by rw [← e];exact h)
      omega
     rcases am.out b I with h | h
     ·exact (J.out b e).2.1 (aj.out b h).1
     have:=aZ b e;omega
    have bz:=Kj cN
    have cO:∀ b,vh.ownBlock=some b→b≠g∧b≠p∧vf.ownBlock≠some b:=fun b I=>⟨fun e=>by have:=ck.out b I;omega,fun e=>by have:=ck.out b I;omega,fun e=>by have:=ck.out b I;have:=aZ b e;omega⟩
    have ec:=Kj cO
    clear aZ cA b0 dE d9 cH cl ds aq cJ dk ka bh bI bc cf cN cO d8 cX dc HV HC dB aU dx
    go_upto_region 7 with fail
    refine wA 3 [vh,iV (nh:Int),iV 0] [54,55,56] (nS 1 (sV rfl (fun a u E D hk=>Jx _ slH _ _ _ _ rfl (dD D 0) cq.out)) nZ) ?_
    intro w5 k5
    simp only [F8]
    have z5:=k5.size
    have da:=Kj (dF.out.kept k5)
    have dh:=Kj (dj.out.kept k5)
    have cQ:=Kj (cY.out.kept k5)
    have cr:=Kj (cq.out.kept k5)
    have ax:=Kj (dg.out.kept k5)
    have K5:=K4.kept k5
    clear dF dj cY cq dg K4 k5
    go_wp2_with fail
    go_loopw [8,56] (fun vv t wz=>∃ (i:Nat),i≤nh∧t=.int .i64 (i:Int)∧Hid (Blk wz g 35 (o.q ((Oc.mk o fs left false false 0).more j no (H.take i)).left).cells)∧Hid (Sl wz 95 21 vv ((Oc.mk o fs left false false 0).more j no (H.take i)).f.length (fls ((Oc.mk o fs left false false 0).more j no (H.take i)).f))∧Hid (Blk wz p 60 (rsd (k:Int) (.slice (some ⟨gs,os,none⟩) n c) u0 (Zq last (fillsOf o j no left (H.take i))) (no+(i:Int))))∧Hid (∀ b,vv.ownBlock=some b→vf.ownBlock=some b∨w5.heap.size≤b)∧Keep (fun b=>b=g∨b=p∨vf.ownBlock=some b) w5 wz) (fun _ t _=>nh-(intOf t).toNat)
    case atStart=>exact ⟨0,Nat.zero_le _,rfl,by rw [List.take_zero,Oc.more_nil];exact da.out,by rw [List.take_zero,Oc.more_nil];exact cQ.out,by rw [List.take_zero];simp only [fillsOf,Zq,Int.ofNat_zero,Int.add_zero];exact dh.out,fun b I=>.inl I,Keep.refl _ _⟩
    obtain ⟨i,hi,rfl,ai,ab,ag,aS,ay⟩:=hrel
    obtain ⟨vv,dT⟩:∃ y,y=u8:=⟨_,rfl⟩
    subst dT
    obtain ⟨wz,dN⟩:∃ y,y=wr:=⟨_,rfl⟩
    subst dN
    have zz:=ay.size
    have cz:Hid (∀ b,vv.ownBlock=some b→b<wz.heap.size):=fun b I=>ab.out.lt I
    by_cases aM:i<nh
    ·obtain ⟨gh,off,ch,rfl⟩:=cr.out.some_ (by omega)
     obtain ⟨h,hh⟩:∃ h,H[i]?=some h:=⟨H[i]'(by rw [aO.out];omega),List.getElem?_eq_getElem (by rw [aO.out];omega)⟩
     have cw:=ec.out gh rfl
     have HE:Hid (wz.rangeAt gh (off+i*10) h.cells):=QJ (cr.out.rng i h hh) ay (fun e=>by
      rcases e with e | e | e
      ·exact cw.1 e
      ·exact cw.2.1 e
      exact cw.2.2 e)
     have cI:Hid (H.take (i+1)=H.take i++[h]):=by show _=_;rw [List.take_add_one,hh];rfl
     have hh1:1≤h.n:=bq.out h (List.mem_of_getElem? hh)
     have dP:Jj (H.take i)+h.n≤left∧0≤Jj (H.take i):=by
      have e1:Jj H=Jj (H.take i)+h.n+Jj (H.drop (i+1)):=by
       rw [← seenM_snoc,← cI.out,← Uy,List.take_append_drop]
      have aw:∀ Y:List Ent,(∀ y ∈ Y,1≤y.n)→0≤Jj Y:=fun Y=>by
       induction Y with
       | nil=>intro _;simp [Jj,Wx]
       | cons y Y ih=>intro hy;rw [Vx];have:=ih (fun z hz=>hy z (by simp [hz]));have:=hy y (by simp);omega
      have e2:=aw (H.drop (i+1)) (fun y hy=>bq.out y (List.mem_of_mem_drop hy))
      have e3:=aw (H.take i) (fun y hy=>bq.out y (List.mem_of_mem_take hy))
      have e4:=dm.out
      omega
     clear hh
     obtain ⟨xi,bl⟩:∃ xi,(Oc.mk o fs left false false 0).more j no (H.take i)=xi:=⟨_,rfl⟩
     obtain ⟨la,aL⟩:∃ la,Zq last (fillsOf o j no left (H.take i))=la:=⟨_,rfl⟩
     have e5:xi.left=left-Jj (H.take i):=by rw [← bl];rfl
     have ea:xi.f.length=fs.length+i:=by rw [← bl];show (fs++_).length=_;rw [List.length_append,jy,List.length_take,aO.out];omega
     have cx:Hid ((Oc.mk o fs left false false 0).more j no (H.take (i+1))={ xi with f:=xi.f++[⟨h.o,o.q xi.left,j,h.n,no+i+1⟩],left:=xi.left-h.n }):=by
      show _=_
      rw [← bl,cI.out]
      unfold Oc.more
      simp only
      rw [xQ,seenM_snoc,List.length_take,aO.out,Nat.min_eq_left hi]
      simp only [fillsOf,List.append_assoc]
      congr 1
      omega
     have cR:Hid (Zq last (fillsOf o j no left (H.take (i+1)))=j):=by
      show _=_
      rw [cI.out,xQ]
      simp only [fillsOf]
      exact lastOf_snoc _ _ _
     rw [bl] at ai ab
     rw [aL] at ag
     have hlb2:h.n≤xi.left∧xi.left≤2000000:=by omega
     have hxfl:xi.f.length≤4000001:=by omega
     have hni:0≤no+(i:Int)∧no+(i:Int)≤3000000000000:=by omega
     have aH:Hid (∀ b,vv.ownBlock=some b→b≠g∧b≠p):=fun b I=>by
      rcases aS.out b I with e | e
      ·exact ⟨(J.out b e).2.2,fun e'=>(J.out b e).2.1 (by rw [e'];exact c4)⟩
      omega
     clear bl aL e5 dP ea
     go_upto_region 9 with fail
     refine tAp 3 [pK gh (off+i*10),.v (h.v),.k (.fresh wz.heap.size 85 XY.cells)] (nS 0 (ixV slH (off) nh i ((i:Int)) (aM)) (nS 1 (ldS Tryz.underlying85 (fun u hk=>JJ HE.out hk) (by rw [h.len10];exact szH)) (nS 2 (nV rfl (fun a u E D hk=>⟨_,_,QX 85 XY.cells rfl zH,⟨_,rfl,hk.size,Blk.new u _ _⟩,((Keep.refl _ u).alloc _)⟩)) nZ))) ?_
     intro gv w6 hV k6
     rw [dq 3 [58,59,13]]
     simp only [Fz7]
     have c9:(.fresh wz.heap.size 85 XY.cells:Kn).p (gv 13) w6:=hV 2 13 (by kernel_rfl)
     generalize gv 13=v13 at c9 ⊢
     rw [gQ hV 1 59 h.v]
     clear hV
     obtain ⟨aR,rfl,hb13,ca⟩:=c9
     refine YV 85 aR 85 XY.cells h.cells _ _ rfl rfl (by kernel_rfl) (by kernel_rfl) ca (by rw [Ent.len10];exact szH) (by rw [Ent.len10,Ent.len10]) (Ent.one _) ?_
     intro w7 cy dM dW
     simp only [Act.put]
     refine Kx ?_
     have k7:Kept wz w7:=k6.trans' dM (by omega)
     have z7:=k7.size
     have cU:=Kj cy
     have l7:=cy.lt
     have cL:=Kj (ag.out.kept k7)
     have dd:Hid (w7.cell? ⟨p,4,none⟩=some (.int .i64 (no+(i:Int)))):=by show _=_;rw [cL.out.cell];unfold rsd;split <;> rfl
     have hpz:p<wz.heap.size:=by omega
     have hgz:g<wz.heap.size:=by omega
     clear ca cy dM dW k6 HE ag
     go_upto_region 10 with fail
     refine wAp 7 [pV p 0,pV p 0,pV p 4,iV (no+(i:Int)),iV (no+(i:Int)+1),pV p 0,pV p 4] [60,61,62,63,64,65,66] (nS 3 (ldF (fun u hk=>Kept.cell hk (dd.out))) (nS 4 (sV rfl (fun a u E D hk=>YQ (no+(i:Int)+1) (p:=no+(i:Int)) (q:=1) rfl (dD D 3) rfl rfl (by omega) (by omega))) nZ)) ?_
     intro w8 k8
     simp only [F8]
     refine ZJ 3 p 4 60 _ (.int .i64 (no+(i:Int)+1)) _ _ rfl rfl (by kernel_rfl) (by kernel_rfl) (by kernel_rfl) rfl rfl (cL.out.kept k8) (by rw [rsd_len aX];omega) ?_
     intro w9 cn d2 ed
     simp only [Act.put]
     refine Kx ?_
     rw [rsd_no] at cn
     have co:Keep (·=p) w7 w9:=Keep.any k8 d2
     have dn:=Kj cn
     obtain ⟨_,_,vq9,dC,_,_⟩:=ax.out.lv (q,j,U) (by simp)
     have dz:=dC.keep ay (bz.out q ((ax.out.in_ (q,j,U) (by simp)) q (ax.out.lv (q,j,U) (by simp)).1))
     have cp:q≠p:=fun e=>bz.out q ((ax.out.in_ (q,j,U) (by simp)) q (ax.out.lv (q,j,U) (by simp)).1) (.inr (.inl e))
     have dQ:=Kj cp
     have cC:Hid (w9.cell? ⟨q,0,none⟩=some (.int .i64 j)):=by show _=_;rw [((dz.kept k7).keep co cp).cell];rfl
     clear cn d2 ed k8 cL dd dC dz cp
     go_upto_region 11 with fail
     refine wAp 7 [pV p 0,pV q 0,pV q 0,pV q 0,iV j,pV p 0,pV p 3] [67,68,69,70,71,72,73] (nS 4 (ldF (fun u hk=>Kept.cell hk (cC.out))) nZ) ?_
     intro w10 bG
     simp only [F8]
     refine ZJ 3 p 3 60 _ (.int .i64 j) _ _ rfl rfl (by kernel_rfl) (by kernel_rfl) (by kernel_rfl) rfl rfl (dn.out.kept bG) (by rw [rsd_len aX];omega) ?_
     intro aD bd be d5
     simp only [Act.put]
     refine Kx ?_
     rw [rsd_last] at bd
     have ak:Keep (·=p) w7 aD:=(co.kept bG).trans be (fun _ _ h=>h)
     have z11:=ak.size
     have bx:=Kj bd
     have b2:=Kj ((ai.out.kept k7).keep ak ci)
     have bR:=Kj ((ab.out.kept k7).keep ak (fun b I=>(aH.out b I).2))
     have b7:=Kj (cU.out.keep ak (by omega))
     have bv:=Kj (JX b7.out)
     have cc:=Kj (JX b2.out)
     have bT:Hid (aD.cell? ⟨q,0,none⟩=some (.int .i64 j)):=Keep.cell be (bG.cell cC.out) dQ.out
     have bY:Hid (aD.cell? ⟨p,4,none⟩=some (.int .i64 (no+(i:Int)+1))):=by show _=_;rw [bx.out.cell];unfold rsd;split <;> rfl
     clear bd be d5 bG co dn ai ab cU cC
     go_upto_region 12 with fail
     refine tHp 16 [.v (vv),pK aR 0,.v (h.o.v),.v ((o.q xi.left).v),pK q 0,pK q 0,pK q 0,iK j,pK aR 9,iK h.n,pK p 0,pK p 0,pK p 4,iK (no+(i:Int)+1),.v ((Fl.mk h.o (o.q xi.left) j h.n (no+(i:Int)+1)).v),.k (.sl aD.heap.size 95 21 1 (Fl.mk h.o (o.q xi.left) j h.n (no+(i:Int)+1)).cells)] (nS 2 (ldS Tryz.underlying35 (fun u hk=>xX (JJ bv.out hk)) (by rw [h.o.len9];exact JU)) (nS 3 (ldO cc.out) (nS 7 (ldF (fun u hk=>Kept.cell hk (bT.out))) (nS 9 (ldR bv.out 9) (nS 13 (ldF (fun u hk=>Kept.cell hk (bY.out))) (nS 14 (sV rfl (fun a u E D hk=>exec_bF _ _ _ _ _ h.o (o.q xi.left) j h.n (no+(i:Int)+1) rfl (dD D 2) (dD D 3) (dD D 7) (dD D 9) (dD D 13))) (nS 15 (nV rfl (fun a u E D hk=>⟨_,_,VJ slF _ (Fl.mk h.o (o.q xi.left) j h.n (no+(i:Int)+1)).cells (by omega) rfl (dD D 14) ((Fl.mk h.o (o.q xi.left) j h.n (no+(i:Int)+1)).len21),(jY u 95 21 _ aD.heap.size ((Fl.mk h.o (o.q xi.left) j h.n (no+(i:Int)+1)).len21) (by omega) hk.size),((Keep.refl _ u).alloc _)⟩)) nZ))))))) ?_
     intro gv di hV bB
     rw [dq 16 [74,75,76,77,78,79,80,81,82,83,84,85,86,87,88,89]]
     simp only [Fz7]
     rw [gQ hV 0 74 vv]
     have br:(.sl aD.heap.size 95 21 1 (Fl.mk h.o (o.q xi.left) j h.n (no+(i:Int)+1)).cells:Kn).p (gv 89) di:=hV 15 89 (by kernel_rfl)
     generalize gv 89=v89 at br ⊢
     clear hV
     obtain ⟨v13,aY,bX,cd,bw,b5⟩:=QQ slF _ di vv v89 xi.f.length 1 (fls xi.f) (Fl.mk h.o (o.q xi.left) j h.n (no+(i:Int)+1)).cells (bR.out.kept bB) br.1 (Fl.one _) (by unfold maxLen;omega) (by omega)
     refine Vj v13 aY rfl (QV slF (.tmp 74) (.tmp 89) vv v89 rfl (by kernel_rfl) (by kernel_rfl) v13 aY bX) ?_
     refine aT (v13) ?_
     simp only [Act.put,sA,sS,sZ]
     refine Kx ?_
     have z12:=bB.size
     have z13:=bw.size
     have a9:Keep (fun b=>vv.ownBlock=some b) aD aY:=Keep.any bB bw
     have bQ:=Kj cd
     have cg:Hid (∀ b,v13.ownBlock=some b→b≠g∧b≠p):=fun b I=>by
      rcases b5 b I with e | e
      ·exact aH.out b e
      omega
     have cm:Hid (∀ b,v13.ownBlock=some b→vf.ownBlock=some b∨w5.heap.size≤b):=fun b I=>by
      rcases b5 b I with e | e
      ·exact aS.out b e
      exact .inr (by omega)
     have bf:=Kj (b2.out.keep a9 (fun e=>(aH.out g e).1 rfl))
     have c8:=Kj (bx.out.keep a9 (fun e=>(aH.out p e).2 rfl))
     have bZ:Hid (aY.cell? ⟨aR,9,none⟩=some (.int .i64 h.n)):=Xx (JX (b7.out.keep a9 (fun e=>by have:=cz.out aR e;omega))) 9 _ rfl
     have c7:Hid (aY.cell? ⟨g,6,none⟩=some (.int .i64 xi.left)):=by show _=_;rw [bf.out.cell];rfl
     have d1:Keep (fun b=>b=g∨b=p∨vf.ownBlock=some b) w5 aY:=by
      refine (Keep.trans (ay.kept k7) ak (fun b _ e=>.inr (.inl e))).trans a9 (fun b I e=>?_)
      rcases aS.out b e with e | e
      ·exact .inr (.inr e)
      omega
     clear cd bw b5 bX br b2 bR bx b7 bv cc bT bY bB a9 ak k7
     go_upto_region 13 with fail
     refine wAp 6 [pV g 6,iV xi.left,pV aR 9,iV h.n,iV (xi.left-h.n),pV g 6] [91,92,93,94,95,96] (nS 1 (ldF (fun u hk=>Kept.cell hk (c7.out))) (nS 3 (ldF (fun u hk=>Kept.cell hk (bZ.out))) (nS 4 (sV rfl (fun a u E D hk=>Zz (xi.left-h.n) (p:=xi.left) (q:=h.n) rfl (dD D 1) (dD D 3) rfl (by omega) (by omega))) nZ))) ?_
     intro w14 bi
     simp only [F8]
     refine ZJ 3 g 6 35 _ (.int .i64 (xi.left-h.n)) _ _ rfl rfl (by kernel_rfl) (by kernel_rfl) (by kernel_rfl) rfl rfl (bf.out.kept bi) (by rw [Ord.len9];omega) ?_
     intro bF bU aI dA
     simp only [Act.put]
     refine Kx ?_
     have d0:Hid (Blk bF g 35 (o.q ((Oc.mk o fs left false false 0).more j no (H.take (i+1))).left).cells):=by
      show Blk _ _ _ _
      rw [cx.out]
      exact bU
     have dy:Hid (Sl bF 95 21 v13 ((Oc.mk o fs left false false 0).more j no (H.take (i+1))).f.length (fls ((Oc.mk o fs left false false 0).more j no (H.take (i+1))).f)):=by
      show Sl _ _ _ _ _ _
      rw [cx.out]
      simp only
      rw [List.length_append,fls_snoc]
      exact (bQ.out.kept bi).keep aI (fun b I e=>(cg.out b I).1 e)
     have dI:Hid (Blk bF p 60 (rsd (k:Int) (.slice (some ⟨gs,os,none⟩) n c) u0 (Zq last (fillsOf o j no left (H.take (i+1)))) (no+((i+1:Nat):Int)))):=by
      show Blk _ _ _ _
      rw [cR.out,show no+((i+1:Nat):Int)=no+(i:Int)+1 by omega]
      exact (c8.out.kept bi).keep aI (fun e=>ci e.symm)
     have ej:Keep (fun b=>b=g∨b=p∨vf.ownBlock=some b) w5 bF:=(d1.kept bi).trans aI (fun b _ e=>.inl e)
     clear bU aI dA bf bQ c8 d1 bi bZ c7 cx cR
     go_wp2
     exact ⟨⟨i+1,by omega,by go_num,d0,dy,dI,cm,ej⟩,by simp [intOf];omega⟩
    have ee:i=nh:=by omega
    subst ee
    have HT:Hid (H.take i=H):=by show _=_;exact List.take_of_length_le (by rw [aO.out];omega)
    rw [HT.out] at ai ab ag
    obtain ⟨la,aL⟩:∃ la,Zq last (fillsOf o j no left H)=la:=⟨_,rfl⟩
    have e0:=Kj aL
    rw [aL] at ag
    have b9:=Kj (ax.out.keep ay bz.out)
    have Kz:Keep (fun b=>Fs b∨b=g∨b=p∨vf.ownBlock=some b) wo wz:=(Keep.mono (T:=fun b=>Fs b∨b=g∨b=p∨vf.ownBlock=some b) K5 (fun _ _ e=>.inl e)).trans ay (fun b _ e=>.inr e)
    have e7:Hid ((Oc.mk o fs left false false 0).more j no H=⟨o,fs++fillsOf o j no left H,left-Jj H,false,false,0⟩):=rfl
    rw [e7.out] at ai ab
    simp only at ai ab
    have a5:Hid (B.matched o=⟨(fs++fillsOf o j no left H)++(if ow=true then Mt.mk [] (left-Jj H) true (VX [] R (j,U)) else Yq o (no+H.length) (left-Jj H) (VX [] R (j,U))).f,(if ow=true then Mt.mk [] (left-Jj H) true (VX [] R (j,U)) else Yq o (no+H.length) (left-Jj H) (VX [] R (j,U))).left,(if ow=true then Mt.mk [] (left-Jj H) true (VX [] R (j,U)) else Yq o (no+H.length) (left-Jj H) (VX [] R (j,U))).self,(if ow=true then Mt.mk [] (left-Jj H) true (VX [] R (j,U)) else Yq o (no+H.length) (left-Jj H) (VX [] R (j,U))).L⟩):=by
     show _=_
     rw [HM.out,cP.out]
     unfold roundM
     simp only
     rw [cG.out]
     simp only [List.append_assoc]
    have ce:=Kj ac.out.sid
    have al:Hid (la=Zq B.last (fs++fillsOf o j no left H)∧no+(H.length:Int)=B.no+((fs++fillsOf o j no left H).length:Nat)):=by
     refine ⟨by rw [lastOf_append,← aN.out.1,e0.out],?_⟩
     rw [List.length_append,jy,aN.out.2]
     omega
    have bo:0≤left-Jj H∧(((fs++fillsOf o j no left H).length:Nat):Int)+(left-Jj H)≤o.qty:=by
     have h1:=ac.out.sum
     have h2:=ac.out.len
     rw [List.length_append,jy]
     simp only at h1 h2
     omega
    obtain ⟨_,_,vq,d4,bH,_⟩:=b9.out.lv (q,j,U) (by simp)
    have bL:=Kj (d4.cell 1)
    obtain ⟨m,hm⟩:∃ m,U.length=m:=⟨_,rfl⟩
    simp only at bH
    rw [hm] at bH
    have bN:=Kj bH
    have dR:=aO.out
    rw [← dR] at ag
    have ct:=Kj (rsd_cell aX ag.out)
    clear d4 bH HM cP HT aL ax da dh cQ cr aM ay
    by_cases hm0:m=0
    ·have cj:U=[]:=List.eq_nil_of_length_eq_zero (by omega)
     go_upto_region 15 with fail
     refine wA 6 [pV q 0,pV q 0,pV q 1,vq,iV (m:Int),bV true] [98,99,100,101,102,103] (nS 3 (ldC bL.out) (nS 4 (sV rfl (fun a u E D hk=>Jx _ slR _ _ _ _ rfl (dD D 3) bN.out)) (nS 5 (aV rfl (fun a u E D hk=>JY rfl (dD D 4) rfl) (Ky (by omega))) nZ))) ?_
     intro a3 a2
     simp only [F8]
     have cF:=b9.out.kept a2
     have cu:Hid (Sl a3 97 1 (.slice (some ⟨gs,os,none⟩) n c) n (ptrs ((q,j,U)::ZR))):=by show Sl _ _ _ _ _ _;have:=cF.sl;rw [List.nil_append] at this;simp only [List.length_cons] at this;have e:=df.out;simp only [List.length_cons] at e;rw [e] at this;exact this
     have bg:=Kj (a2.cell ct.out)
     obtain ⟨vb,cD,dO,de⟩:=jX VV _ n 1 (by omega) _ a3 cu.out
     rw [show ((1:Nat):Int)=1 from rfl] at cD
     have dl:=Kj cD
     have dX:ZR.length=n-1:=by have e:=df.out;simp only [List.length_cons] at e;omega
     have dt:Hid (∀ u,Kept a3 u→Sl u 97 1 vb (n-1) (ptrs ZR)):=fun u hk=>by
      have:=de u _ (cu.out.kept hk)
      rwa [JQQ] at this
     have dV:=a2.size
     have hn64:n≤70:=by
      have h1:=bC.out.ok.len
      have h2:(levs ZR).length=R.length:=by rw [cE.out]
      rw [Xz] at h2
      simp only [List.length_cons] at h1
      omega
     clear cD dO de cu ct
     go_upto_region 16 with fail
     refine tHp 13 [pK p 0,iK (k:Int),.k (.emp a3.heap.size 97),pK p 0,iK (k:Int),pK p 0,pK p 0,pK p (0+k*1),.v (.slice (some ⟨gs,os,none⟩) n c),.v (vb),.k (.sl a3.heap.size 97 1 (n-1) (ptrs ZR)),pK p 0,pK p 0] (nS 2 (nV rfl (fun a u E D hk=>⟨_,_,Uq 57 97 1 rfl VV.und (by kernel_rfl),⟨_,rfl,hk.size,Blk.new u _ _⟩,((Keep.refl _ u).alloc _)⟩)) (nS 7 (sV rfl (fun a u E D hk=>VQ 58 57 3 1 _ _ p 0 k rfl Tryz.underlying58 (by kernel_rfl) (dD D 6) (dD D 4) (by omega))) (nS 8 (ldC bg.out) (nS 9 (sV rfl (fun a u E D hk=>ZW VV _ _ _ vb _ rfl (dD D 8) rfl (dl.out u))) (nS 10 ((fun a u hE hD hk=>(by obtain ⟨v',u',hr,hp,ek⟩:=Zx VV _ u (a.eval (.tmp 106)) vb (n-1) a3.heap.size _ ((dD hD 2)) (dt.out u hk) (xV _) (by omega) (by omega) hk.size;exact jV v' u' rfl (JQ rfl _) (QV VV (.tmp 106) (.tmp 113) _ vb rfl rfl (dD hD 9) v' u' hr) hp ek))) nZ))))) ?_
     intro gv d3 hV bt
     rw [dq 13 [104,105,106,107,108,109,110,111,112,113,114,115,116]]
     simp only [Fz7]
     rw [gQ hV 12 116 (.pointer (some ⟨p,0,none⟩))]
     rw [gQ hV 1 105 (.int .i64 (k:Int))]
     have a4:(.sl a3.heap.size 97 1 (n-1) (ptrs ZR):Kn).p (gv 114) d3:=hV 10 114 (by kernel_rfl)
     generalize gv 114=v114 at a4 ⊢
     clear hV
     refine UJ (.pointer (some ⟨p,0+k*1,none⟩)) rfl (VQ 58 57 3 1 (.tmp 116) (.tmp 105) p 0 k rfl Tryz.underlying58 (by kernel_rfl) rfl rfl (by omega)) ?_
     refine ZJ 57 p (0+k*1) 60 _ v114 _ _ rfl rfl (by kernel_rfl) (by kernel_rfl) (by kernel_rfl) (Zy a4.1) (Xy a4.1) ((ag.out.kept a2).kept bt) (by rw [rsd_len aX];omega) ?_
     intro az b4 aJ dp
     simp only [Act.put,sA,sS,sZ]
     refine Kx ?_
     rw [rsd_set aX] at b4
     have z21:=bt.size
     have z22:=aJ.size
     obtain ⟨FX,dK,bA,e9,_⟩:=cF.fewer (w':=d3) (Z':=ZR) (v':=v114) (by rw [List.nil_append];exact List.sublist_cons_self _ _) (Keep.mono bt (fun _ _ h=>h.elim)) (by rw [dX];exact a4.1) (fun b I=>.inr (a4.2 b I))
     have eh:¬ FX p:=fun h=>(bA p h).elim (fun h=>bz.out p h (.inr (.inl rfl))) (fun h=>by omega)
     have hgX2:¬ FX g:=fun h=>(bA g h).elim (fun h=>bz.out g h (.inl rfl)) (fun h=>by omega)
     have bu:Hid (RWay az FX v114 (VX [] R (j,U))):=by
      show Way _ _ _ _ _ _ _
      refine ⟨ZR,G4,?_,dK.keep aJ (fun b I e=>eh (by have e2:b=p:=e;rw [← e2];exact I))⟩
      rw [cE.out,cj]
      rfl
     have bp:=Kj b4
     have bO:Keep (fun b=>b=p) wz az:=(Keep.mono (T:=fun b=>b=p) (a2.trans bt) (fun _ _ e=>e.elim)).trans aJ (fun _ _ e=>e)
     have aB:=Kj (ai.out.keep bO ci)
     have aF:=Kj (ab.out.keep bO (fun b I e=>by
      have e2:b=p:=e
      rcases aS.out b I with h | h
      ·exact (J.out b h).2.1 (by rw [e2];exact c4)
      omega))
     have ad:Hid (∀ b,FX b→aE b∨wz.heap.size≤b):=fun b I=>(bA b I).imp id (fun h=>by omega)
     have KX:Keep (fun b=>Fs b∨b=g∨b=p∨vf.ownBlock=some b) wo az:=Kz.trans bO (fun b _ e=>.inr (.inr (.inl e)))
     clear b4 aJ dp a4 dK bA e9 bO b9 ag ai ab dl dt bt cF bL bN bg a2
     obtain ⟨ao,a8,b8,ar⟩:=HJ.out az _ _ _ _ _ _ KX (fun b I e=>by
      rcases e with e | e | e | e
      ·exact .inl e
      ·exact absurd (by rw [← e];exact I) bs
      ·exact .inr e
      exact absurd I (J.out b e).2.1) bp.out bu.out (fun b I=>(ad.out b I).elim (fun h=>am.out b h) (fun h=>.inr (by omega)))
     rw [Bok.to_to au] at a8
     have a7:=Kj a8
     have aa:=Kj ar
     have O:Hid (∀ b,vv.ownBlock=some b→w1.heap.size≤b∧¬ ao b∧b≠g):=fun b I=>by
      rcases aS.out b I with h | h
      ·refine ⟨(J.out b h).1,fun e=>?_,(J.out b h).2.2⟩
       have aZ:=cZ.out b h
       rcases (aa.out b).1 e with e | e
       ·exact (J.out b h).2.1 e
       rcases ad.out b e with e | e
       ·rcases am.out b e with e | e
        ·exact (J.out b h).2.1 (aj.out b e).1
        omega
       omega
      refine ⟨by omega,fun e=>?_,by omega⟩
      have e6:=cz.out b I
      rcases (aa.out b).1 e with e | e
      ·have:=c5.out b e;omega
      rcases ad.out b e with e | e
      ·have:=bW.out b e;omega
      omega
     have av:Hid (Grow w1 F ao):=fun b I=>by
      rcases (aa.out b).1 I with h | h
      ·exact a6.out b h
      rcases ad.out b h with h | h
      ·rcases am.out b h with h | h
       ·exact a6.out b (aj.out b h).1
       exact .inr (by omega)
      exact .inr (by omega)
     have aA:Keep (fun b=>F b∨b=g) w1 az:=by
      refine Keep.trans bJ KX (fun b I e=>?_)
      rcases e with e | e | e | e
      ·exact (a6.out b (aj.out b e).1).elim .inl (fun e=>by omega)
      ·exact .inr e
      ·rw [e];exact .inl bM
      have:=(J.out b e).1;omega
     have bb:Hid (ow=false→mQ g az<mQ g wo):=fun ho=>by
      have h1:=ac.out.prog
      have h2:=ac.out.sum
      have e1:=mQ_is aB.out
      have e2:=dG.out
      simp only at h1 h2
      rw [ho] at h1
      simp at h1
      omega
     have dY:=aA.size
     clear a8 b8 ar KX bp bu ad HJ an ah J a6 bJ
     cases ae:ow with
     | true=>
      have N:Hid (B.matched o=⟨fs++fillsOf o j no left H,left-Jj H,true,VX [] R (j,U)⟩):=by
       show _=_
       rw [a5.out,ae]
       simp
      have cM:Hid (az.cell? ⟨g,6,none⟩=some (.int .i64 (left-Jj H))):=by show _=_;rw [aB.out.cell];rfl
      clear a5 ae
      go_upto_region 18 with fail
      refine wH 6 [vv,pV g 6,iV (left-Jj H),vv,iV (left-Jj H),bV true] [119,120,121,4,5,6] (nS 2 (ldF (fun u hk=>Kept.cell hk (cM.out))) nZ) ?_
      intro wy ky
      simp only [F8]
      have a1:Hid (UV w F p B o (B.matched o) (.returned (.tuple #[vv,.int .i64 (left-Jj H),.bool true])) wy):=by
       show UV _ _ _ _ _ _ _ _
       rw [N.out]
       unfold UV
       rw [aW.out]
       have hl:=al.out
       have I:=a7.out.kept ky
       rw [hl.1,hl.2] at I
       exact ⟨ao,vv,rfl,I,aF.out.kept ky,fun b I=>⟨by have:=(O.out b I).1;omega,(O.out b I).2.1⟩,fun b I=>(av.out b I).imp id (fun h=>by omega),((Keep.any k1 aA).mono (fun b I e=>e.elim id (fun e=>by omega))).kept ky⟩
      clear a7 aF O N
      go_wp2
      go_ret3
      exact a1.out
     | false=>
      have b6:Hid (B.matched o=⟨(fs++fillsOf o j no left H)++(Yq o (no+H.length) (left-Jj H) (VX [] R (j,U))).f,(Yq o (no+H.length) (left-Jj H) (VX [] R (j,U))).left,(Yq o (no+H.length) (left-Jj H) (VX [] R (j,U))).self,(Yq o (no+H.length) (left-Jj H) (VX [] R (j,U))).L⟩):=by
       show _=_
       rw [a5.out,ae]
       simp
      have b1:=Kj (bb.out ae)
      have aC:=Kj bo
      clear a5 ae bb
      go_wp2
      exact ⟨⟨VX [] R (j,U),_,_,_,_,ao,a7,aB,aF,O,av,aA,ce,al,aC.out,b6⟩,b1.out⟩
    go_upto_region 15 with fail
    refine wA 6 [pV q 0,pV q 0,pV q 1,vq,iV (m:Int),bV false] [98,99,100,101,102,103] (nS 3 (ldC bL.out) (nS 4 (sV rfl (fun a u E D hk=>Jx _ slR _ _ _ _ rfl (dD D 3) bN.out)) (nS 5 (aV rfl (fun a u E D hk=>JY rfl (dD D 4) rfl) (Ku (by omega))) nZ))) ?_
    intro a3 a2
    simp only [F8]
    have dV:=a2.size
    have cj:¬ U.isEmpty=true:=fun h=>hm0 (by rw [← hm,List.isEmpty_iff.1 h];rfl)
    have bu:Hid (RWay a3 aE (.slice (some ⟨gs,os,none⟩) n c) (VX [] R (j,U))):=by
     show Way _ _ _ _ _ _ _
     refine ⟨[]++(q,j,U)::ZR,G4,?_,b9.out.kept a2⟩
     unfold VX
     rw [if_neg cj,List.nil_append,VW,cE.out]
     rfl
    have bp:=Kj (ag.out.kept a2)
    have aB:=Kj (ai.out.kept a2)
    have aF:=Kj (ab.out.kept a2)
    have ad:Hid (∀ b,aE b→aE b∨wz.heap.size≤b):=fun b I=>.inl I
    have KX:=Kz.kept a2
    clear b9 ag ai ab bL bN ct a2
    obtain ⟨ao,a8,b8,ar⟩:=HJ.out a3 _ _ _ _ _ _ KX (fun b I e=>by
     rcases e with e | e | e | e
     ·exact .inl e
     ·exact absurd (by rw [← e];exact I) bs
     ·exact .inr e
     exact absurd I (J.out b e).2.1) bp.out bu.out (fun b I=>(ad.out b I).elim (fun h=>am.out b h) (fun h=>.inr (by omega)))
    rw [Bok.to_to au] at a8
    have a7:=Kj a8
    have aa:=Kj ar
    have O:Hid (∀ b,vv.ownBlock=some b→w1.heap.size≤b∧¬ ao b∧b≠g):=fun b I=>by
     rcases aS.out b I with h | h
     ·refine ⟨(J.out b h).1,fun e=>?_,(J.out b h).2.2⟩
      have aZ:=cZ.out b h
      rcases (aa.out b).1 e with e | e
      ·exact (J.out b h).2.1 e
      rcases ad.out b e with e | e
      ·rcases am.out b e with e | e
       ·exact (J.out b h).2.1 (aj.out b e).1
       omega
      omega
     refine ⟨by omega,fun e=>?_,by omega⟩
     have e6:=cz.out b I
     rcases (aa.out b).1 e with e | e
     ·have:=c5.out b e;omega
     rcases ad.out b e with e | e
     ·have:=bW.out b e;omega
     omega
    have av:Hid (Grow w1 F ao):=fun b I=>by
     rcases (aa.out b).1 I with h | h
     ·exact a6.out b h
     rcases ad.out b h with h | h
     ·rcases am.out b h with h | h
      ·exact a6.out b (aj.out b h).1
      exact .inr (by omega)
     exact .inr (by omega)
    have aA:Keep (fun b=>F b∨b=g) w1 a3:=by
     refine Keep.trans bJ KX (fun b I e=>?_)
     rcases e with e | e | e | e
     ·exact (a6.out b (aj.out b e).1).elim .inl (fun e=>by omega)
     ·exact .inr e
     ·rw [e];exact .inl bM
     have:=(J.out b e).1;omega
    have bb:Hid (ow=false→mQ g a3<mQ g wo):=fun ho=>by
     have h1:=ac.out.prog
     have h2:=ac.out.sum
     have e1:=mQ_is aB.out
     have e2:=dG.out
     simp only at h1 h2
     rw [ho] at h1
     simp at h1
     omega
    have dY:=aA.size
    clear a8 b8 ar KX bp bu ad HJ an ah J a6 bJ
    cases ae:ow with
    | true=>
     have N:Hid (B.matched o=⟨fs++fillsOf o j no left H,left-Jj H,true,VX [] R (j,U)⟩):=by
      show _=_
      rw [a5.out,ae]
      simp
     have cM:Hid (a3.cell? ⟨g,6,none⟩=some (.int .i64 (left-Jj H))):=by show _=_;rw [aB.out.cell];rfl
     clear a5 ae
     go_upto_region 18 with fail
     refine wH 6 [vv,pV g 6,iV (left-Jj H),vv,iV (left-Jj H),bV true] [119,120,121,4,5,6] (nS 2 (ldF (fun u hk=>Kept.cell hk (cM.out))) nZ) ?_
     intro wy ky
     simp only [F8]
     have a1:Hid (UV w F p B o (B.matched o) (.returned (.tuple #[vv,.int .i64 (left-Jj H),.bool true])) wy):=by
      show UV _ _ _ _ _ _ _ _
      rw [N.out]
      unfold UV
      rw [aW.out]
      have hl:=al.out
      have I:=a7.out.kept ky
      rw [hl.1,hl.2] at I
      exact ⟨ao,vv,rfl,I,aF.out.kept ky,fun b I=>⟨by have:=(O.out b I).1;omega,(O.out b I).2.1⟩,fun b I=>(av.out b I).imp id (fun h=>by omega),((Keep.any k1 aA).mono (fun b I e=>e.elim id (fun e=>by omega))).kept ky⟩
     clear a7 aF O N
     go_wp2
     go_ret3
     exact a1.out
    | false=>
     have b6:Hid (B.matched o=⟨(fs++fillsOf o j no left H)++(Yq o (no+H.length) (left-Jj H) (VX [] R (j,U))).f,(Yq o (no+H.length) (left-Jj H) (VX [] R (j,U))).left,(Yq o (no+H.length) (left-Jj H) (VX [] R (j,U))).self,(Yq o (no+H.length) (left-Jj H) (VX [] R (j,U))).L⟩):=by
      show _=_
      rw [a5.out,ae]
      simp
     have b1:=Kj (bb.out ae)
     have aC:=Kj bo
     clear a5 ae bb
     go_wp2
     exact ⟨⟨VX [] R (j,U),_,_,_,_,ao,a7,aB,aF,O,av,aA,ce,al,aC.out,b6⟩,b1.out⟩
 have N:Hid (B.matched o=⟨fs,left,false,L⟩):=by show _=_;rw [HM.out,match_zero (by omega)];simp
 clear HM
 go_upto_region 3 with fail
 refine wA 13 [pV g 6,iV left,bV false,bV false,undef,undef,undef,undef,undef,undef,undef,undef,bV false] [17,18,19,20,21,22,23,24,25,26,27,28,29] (nS 1 (ldF (fun u hk=>Kept.cell hk (aG.out))) (nS 2 (aV rfl (fun a u E D hk=>QZ rfl (dD D 1) rfl) (Ku hl0)) nZ)) ?_
 intro wq kq
 simp only [F8]
 have bj:=Kj (kq.cell aG.out)
 go_upto_region 19 with fail
 refine wH 6 [vf,pV g 6,iV left,vf,iV left,bV false] [122,123,124,4,5,6] (nS 2 (ldF (fun u hk=>Kept.cell hk (bj.out))) nZ) ?_
 intro wy ky
 simp only [F8]
 have af:=kq.trans ky
 have a1:Hid (UV w F p B o (B.matched o) (.returned (.tuple #[vf,.int .i64 left,.bool false])) wy):=by
  show UV _ _ _ _ _ _ _ _
  rw [N.out]
  unfold UV
  rw [aW.out]
  have hl:=aN.out
  have I:=an.out.kept af
  rw [hl.1,hl.2] at I
  exact ⟨Fc,vf,rfl,I,ah.out.kept af,fun b I=>⟨by have:=(J.out b I).1;omega,(J.out b I).2.1⟩,fun b I=>(a6.out b I).imp id (fun h=>by omega),((Keep.any k1 ba).mono (fun b I e=>e.elim id (fun e=>by omega))).kept af⟩
 clear an ah J N
 go_wp2
 go_ret3
 exact a1.out
theorem JJx (c:Ord) (w:World):Gives 27 #[c.v] w (.eq (.int .i64 c.err)):=by
 unfold Gives Ord.v
 have HT:Hid True:=trivial
 have O:Hid (Blk (w.alloc (.cells c.cells.toArray 35)) w.heap.size 35 c.cells):=Blk.new w _ _
 have a6:Kept w (w.alloc (.cells c.cells.toArray 35)):=(Keep.refl _ w).alloc _
 go_enter Tryz.func27,Tryz.ntmps27
 go_upto_region 1 with fail
 generalize w.alloc (.cells c.cells.toArray 35)=w0 at O a6 ⊢
 generalize w.heap.size=g at O ⊢
 obtain ⟨bA,U⟩:∃ b,(((((!rng c.tr 0 31) || (!rng c.firm 0 7)) || (!rng c.id 0 1073741824)) || (!rng c.side 1 2)) || (!rng c.k 1 5))=b:=⟨_,rfl⟩
 have HA:=Kj U
 clear U
 refine tA 28 [pK g 0,iK c.tr,bK (rng c.tr 0 31),bK (!(rng c.tr 0 31)),bK (!(rng c.tr 0 31)),.k (.cond (!(!(rng c.tr 0 31))) (pE g 2)),.k (.cond (!(!(rng c.tr 0 31))) (iE c.firm)),.k (.cond (!(!(rng c.tr 0 31))) (bE (rng c.firm 0 7))),.k (.cond (!(!(rng c.tr 0 31))) (bE (!(rng c.firm 0 7)))),bK ((!(rng c.tr 0 31)) || (!(rng c.firm 0 7))),bK ((!(rng c.tr 0 31)) || (!(rng c.firm 0 7))),.k (.cond (!((!(rng c.tr 0 31)) || (!(rng c.firm 0 7)))) (pE g 1)),.k (.cond (!((!(rng c.tr 0 31)) || (!(rng c.firm 0 7)))) (iE c.id)),.k (.cond (!((!(rng c.tr 0 31)) || (!(rng c.firm 0 7)))) (bE (rng c.id 0 1073741824))),.k (.cond (!((!(rng c.tr 0 31)) || (!(rng c.firm 0 7)))) (bE (!(rng c.id 0 1073741824)))),bK (((!(rng c.tr 0 31)) || (!(rng c.firm 0 7))) || (!(rng c.id 0 1073741824))),bK (((!(rng c.tr 0 31)) || (!(rng c.firm 0 7))) || (!(rng c.id 0 1073741824))),.k (.cond (!(((!(rng c.tr 0 31)) || (!(rng c.firm 0 7))) || (!(rng c.id 0 1073741824)))) (pE g 3)),.k (.cond (!(((!(rng c.tr 0 31)) || (!(rng c.firm 0 7))) || (!(rng c.id 0 1073741824)))) (iE c.side)),.k (.cond (!(((!(rng c.tr 0 31)) || (!(rng c.firm 0 7))) || (!(rng c.id 0 1073741824)))) (bE (rng c.side 1 2))),.k (.cond (!(((!(rng c.tr 0 31)) || (!(rng c.firm 0 7))) || (!(rng c.id 0 1073741824)))) (bE (!(rng c.side 1 2)))),bK ((((!(rng c.tr 0 31)) || (!(rng c.firm 0 7))) || (!(rng c.id 0 1073741824))) || (!(rng c.side 1 2))),bK ((((!(rng c.tr 0 31)) || (!(rng c.firm 0 7))) || (!(rng c.id 0 1073741824))) || (!(rng c.side 1 2))),.k (.cond (!((((!(rng c.tr 0 31)) || (!(rng c.firm 0 7))) || (!(rng c.id 0 1073741824))) || (!(rng c.side 1 2)))) (pE g 4)),.k (.cond (!((((!(rng c.tr 0 31)) || (!(rng c.firm 0 7))) || (!(rng c.id 0 1073741824))) || (!(rng c.side 1 2)))) (iE c.k)),.k (.cond (!((((!(rng c.tr 0 31)) || (!(rng c.firm 0 7))) || (!(rng c.id 0 1073741824))) || (!(rng c.side 1 2)))) (bE (rng c.k 1 5))),.k (.cond (!((((!(rng c.tr 0 31)) || (!(rng c.firm 0 7))) || (!(rng c.id 0 1073741824))) || (!(rng c.side 1 2)))) (bE (!(rng c.k 1 5)))),bK bA] [3,4,5,6,7,8,9,10,11,12,13,14,15,16,17,18,19,20,21,22,23,24,25,26,27,28,29,30] (nS 1 (ldF (fun u hk=>(O.out.kept hk).fld 0 _ rfl)) (nS 2 (cV Tryz.func55 (fun u hk=>in_any _ _ _ u)) (nS 3 (sV rfl (fun a u E D hk=>YX _ _ (rng c.tr 0 31) rfl (dD D 2))) (nS 5 (fS (uC 6 4 rfl (fun a u E D hk j=>Vy 35 2 2 _ (g) rfl (eE E) (by kernel_rfl)) fz)) (nS 6 (fS (uC 7 4 rfl (fun a u E D hk j=>JZ _ Tryz.underlying3 _ _ _ rfl ((D 5 8 (by kernel_rfl)).1 j) ((O.out.kept hk).fld 2 _ rfl)) fz)) (nS 7 ((fun a u hE I hk=>JJX _ rfl rfl rfl (dD I 4) (fun j=>Zj 55 #[.int .i64 c.firm,.int .i64 0,.int .i64 7] rfl (VY rfl rfl (dD I 4) (jq j)) (Jy 55 _ [.tmp 9,.const (.int .i64 0),.const (.int .i64 7)] _ [.int .i64 c.firm,.int .i64 0,.int .i64 7] Tryz.func55 (by kernel_rfl) (by kernel_rfl) rfl (show [a.eval (.tmp 9),a.eval (.const (.int .i64 0)),a.eval (.const (.int .i64 7))]=[.int .i64 c.firm,.int .i64 0,.int .i64 7] from (by rw [show a.eval (.tmp 9)=.int .i64 c.firm from ((I 6 9 (by kernel_rfl)).1 j)] <;> rfl)) u) (in_any _ _ _ u)))) (nS 8 (fS (uC 9 4 rfl (fun a u E D hk j=>YX _ _ (rng c.firm 0 7) rfl ((D 7 10 (by kernel_rfl)).1 j)) fz)) (nS 9 (sV rfl (fun a u E D hk=>ZY _ _ _ ((!(rng c.tr 0 31))) ((!(rng c.firm 0 7))) rfl (dD D 4) rfl (fun H=>((D 8 11 (by kernel_rfl)).1 H)))) (nS 11 (fS (uC 12 10 rfl (fun a u E D hk j=>Vy 35 1 1 _ (g) rfl (eE E) (by kernel_rfl)) fz)) (nS 12 (fS (uC 13 10 rfl (fun a u E D hk j=>JZ _ Tryz.underlying3 _ _ _ rfl ((D 11 14 (by kernel_rfl)).1 j) ((O.out.kept hk).fld 1 _ rfl)) fz)) (nS 13 ((fun a u hE I hk=>JJX _ rfl rfl rfl (dD I 10) (fun j=>Zj 55 #[.int .i64 c.id,.int .i64 0,.int .i64 1073741824] rfl (VY rfl rfl (dD I 10) (jq j)) (Jy 55 _ [.tmp 15,.const (.int .i64 0),.const (.int .i64 1073741824)] _ [.int .i64 c.id,.int .i64 0,.int .i64 1073741824] Tryz.func55 (by kernel_rfl) (by kernel_rfl) rfl (show [a.eval (.tmp 15),a.eval (.const (.int .i64 0)),a.eval (.const (.int .i64 1073741824))]=[.int .i64 c.id,.int .i64 0,.int .i64 1073741824] from (by rw [show a.eval (.tmp 15)=.int .i64 c.id from ((I 12 15 (by kernel_rfl)).1 j)] <;> rfl)) u) (in_any _ _ _ u)))) (nS 14 (fS (uC 15 10 rfl (fun a u E D hk j=>YX _ _ (rng c.id 0 1073741824) rfl ((D 13 16 (by kernel_rfl)).1 j)) fz)) (nS 15 (sV rfl (fun a u E D hk=>ZY _ _ _ (((!(rng c.tr 0 31)) || (!(rng c.firm 0 7)))) ((!(rng c.id 0 1073741824))) rfl (dD D 10) rfl (fun H=>((D 14 17 (by kernel_rfl)).1 H)))) (nS 17 (fS (uC 18 16 rfl (fun a u E D hk j=>Vy 35 3 3 _ (g) rfl (eE E) (by kernel_rfl)) fz)) (nS 18 (fS (uC 19 16 rfl (fun a u E D hk j=>JZ _ Tryz.underlying3 _ _ _ rfl ((D 17 20 (by kernel_rfl)).1 j) ((O.out.kept hk).fld 3 _ rfl)) fz)) (nS 19 ((fun a u hE I hk=>JJX _ rfl rfl rfl (dD I 16) (fun j=>Zj 55 #[.int .i64 c.side,.int .i64 1,.int .i64 2] rfl (VY rfl rfl (dD I 16) (jq j)) (Jy 55 _ [.tmp 21,.const (.int .i64 1),.const (.int .i64 2)] _ [.int .i64 c.side,.int .i64 1,.int .i64 2] Tryz.func55 (by kernel_rfl) (by kernel_rfl) rfl (show [a.eval (.tmp 21),a.eval (.const (.int .i64 1)),a.eval (.const (.int .i64 2))]=[.int .i64 c.side,.int .i64 1,.int .i64 2] from (by rw [show a.eval (.tmp 21)=.int .i64 c.side from ((I 18 21 (by kernel_rfl)).1 j)] <;> rfl)) u) (in_any _ _ _ u)))) (nS 20 (fS (uC 21 16 rfl (fun a u E D hk j=>YX _ _ (rng c.side 1 2) rfl ((D 19 22 (by kernel_rfl)).1 j)) fz)) (nS 21 (sV rfl (fun a u E D hk=>ZY _ _ _ ((((!(rng c.tr 0 31)) || (!(rng c.firm 0 7))) || (!(rng c.id 0 1073741824)))) ((!(rng c.side 1 2))) rfl (dD D 16) rfl (fun H=>((D 20 23 (by kernel_rfl)).1 H)))) (nS 23 (fS (uC 24 22 rfl (fun a u E D hk j=>Vy 35 4 4 _ (g) rfl (eE E) (by kernel_rfl)) fz)) (nS 24 (fS (uC 25 22 rfl (fun a u E D hk j=>JZ _ Tryz.underlying3 _ _ _ rfl ((D 23 26 (by kernel_rfl)).1 j) ((O.out.kept hk).fld 4 _ rfl)) fz)) (nS 25 ((fun a u hE I hk=>JJX _ rfl rfl rfl (dD I 22) (fun j=>Zj 55 #[.int .i64 c.k,.int .i64 1,.int .i64 5] rfl (VY rfl rfl (dD I 22) (jq j)) (Jy 55 _ [.tmp 27,.const (.int .i64 1),.const (.int .i64 5)] _ [.int .i64 c.k,.int .i64 1,.int .i64 5] Tryz.func55 (by kernel_rfl) (by kernel_rfl) rfl (show [a.eval (.tmp 27),a.eval (.const (.int .i64 1)),a.eval (.const (.int .i64 5))]=[.int .i64 c.k,.int .i64 1,.int .i64 5] from (by rw [show a.eval (.tmp 27)=.int .i64 c.k from ((I 24 27 (by kernel_rfl)).1 j)] <;> rfl)) u) (in_any _ _ _ u)))) (nS 26 (fS (uC 27 22 rfl (fun a u E D hk j=>YX _ _ (rng c.k 1 5) rfl ((D 25 28 (by kernel_rfl)).1 j)) fz)) (nS 27 (aV rfl (fun a u E D hk=>ZY _ _ _ (((((!(rng c.tr 0 31)) || (!(rng c.firm 0 7))) || (!(rng c.id 0 1073741824))) || (!(rng c.side 1 2)))) ((!(rng c.k 1 5))) rfl (dD D 22) rfl (fun H=>((D 26 29 (by kernel_rfl)).1 H))) HA.out) nZ))))))))))))))))))))))) ?_
 intro gv w1 hV k1
 simp only [Fz7]
 rw [gQ hV 27 30 (.bool bA)]
 clear hV
 have a3:=Kj (O.out.kept k1)
 have a8:=a6.trans k1
 clear k1 a6 O
 cases bA with
 | true=>
  have N:c.err=1:=by
   unfold Ord.err
   have U:=HA.out
   simp [rng] at U
   rw [if_neg]
   rw [UQ]
   omega
  have HE:=Kj N
  clear N
  go_wp2
  go_ret
  exact ⟨_,rfl,by rw [HE.out];rfl,a8⟩
 | false=>
  obtain ⟨bB,hB⟩:∃ b,(((!rng c.qty 1 1048576) || (!rng c.shw 0 c.qty)) || (!rng c.stop 0 1048576))=b:=⟨_,rfl⟩
  have HB:=Kj hB
  clear hB
  go_upto_region 3 with fail
  refine tA 18 [pK g 6,iK c.qty,bK (rng c.qty 1 1048576),bK (!(rng c.qty 1 1048576)),bK (!(rng c.qty 1 1048576)),.k (.cond (!(!(rng c.qty 1 1048576))) (pE g 7)),.k (.cond (!(!(rng c.qty 1 1048576))) (iE c.shw)),.k (.cond (!(!(rng c.qty 1 1048576))) (pE g 6)),.k (.cond (!(!(rng c.qty 1 1048576))) (iE c.qty)),.k (.cond (!(!(rng c.qty 1 1048576))) (bE (rng c.shw 0 c.qty))),.k (.cond (!(!(rng c.qty 1 1048576))) (bE (!(rng c.shw 0 c.qty)))),bK ((!(rng c.qty 1 1048576)) || (!(rng c.shw 0 c.qty))),bK ((!(rng c.qty 1 1048576)) || (!(rng c.shw 0 c.qty))),.k (.cond (!((!(rng c.qty 1 1048576)) || (!(rng c.shw 0 c.qty)))) (pE g 8)),.k (.cond (!((!(rng c.qty 1 1048576)) || (!(rng c.shw 0 c.qty)))) (iE c.stop)),.k (.cond (!((!(rng c.qty 1 1048576)) || (!(rng c.shw 0 c.qty)))) (bE (rng c.stop 0 1048576))),.k (.cond (!((!(rng c.qty 1 1048576)) || (!(rng c.shw 0 c.qty)))) (bE (!(rng c.stop 0 1048576)))),bK bB] [31,32,33,34,35,36,37,38,39,40,41,42,43,44,45,46,47,48] (nS 1 (ldF (fun u hk=>(a3.out.kept hk).fld 6 _ rfl)) (nS 2 (cV Tryz.func55 (fun u hk=>in_any _ _ _ u)) (nS 3 (sV rfl (fun a u E D hk=>YX _ _ (rng c.qty 1 1048576) rfl (dD D 2))) (nS 5 (fS (uC 6 4 rfl (fun a u E D hk j=>Vy 35 7 7 _ (g) rfl (eE E) (by kernel_rfl)) fz)) (nS 6 (fS (uC 7 4 rfl (fun a u E D hk j=>JZ _ Tryz.underlying3 _ _ _ rfl ((D 5 36 (by kernel_rfl)).1 j) ((a3.out.kept hk).fld 7 _ rfl)) fz)) (nS 7 (fS (uC 8 4 rfl (fun a u E D hk j=>Vy 35 6 6 _ (g) rfl (eE E) (by kernel_rfl)) fz)) (nS 8 (fS (uC 9 4 rfl (fun a u E D hk j=>JZ _ Tryz.underlying3 _ _ _ rfl ((D 7 38 (by kernel_rfl)).1 j) ((a3.out.kept hk).fld 6 _ rfl)) fz)) (nS 9 ((fun a u hE I hk=>JJX _ rfl rfl rfl (dD I 4) (fun j=>Zj 55 #[.int .i64 c.shw,.int .i64 0,.int .i64 c.qty] rfl (VY rfl rfl (dD I 4) (jq j)) (Jy 55 _ [.tmp 37,.const (.int .i64 0),.tmp 39] _ [.int .i64 c.shw,.int .i64 0,.int .i64 c.qty] Tryz.func55 (by kernel_rfl) (by kernel_rfl) rfl (show [a.eval (.tmp 37),a.eval (.const (.int .i64 0)),a.eval (.tmp 39)]=[.int .i64 c.shw,.int .i64 0,.int .i64 c.qty] from (by rw [show a.eval (.tmp 37)=.int .i64 c.shw from ((I 6 37 (by kernel_rfl)).1 j),show a.eval (.tmp 39)=.int .i64 c.qty from ((I 8 39 (by kernel_rfl)).1 j)] <;> rfl)) u) (in_any _ _ _ u)))) (nS 10 (fS (uC 11 4 rfl (fun a u E D hk j=>YX _ _ (rng c.shw 0 c.qty) rfl ((D 9 40 (by kernel_rfl)).1 j)) fz)) (nS 11 (sV rfl (fun a u E D hk=>ZY _ _ _ ((!(rng c.qty 1 1048576))) ((!(rng c.shw 0 c.qty))) rfl (dD D 4) rfl (fun H=>((D 10 41 (by kernel_rfl)).1 H)))) (nS 13 (fS (uC 14 12 rfl (fun a u E D hk j=>Vy 35 8 8 _ (g) rfl (eE E) (by kernel_rfl)) fz)) (nS 14 (fS (uC 15 12 rfl (fun a u E D hk j=>JZ _ Tryz.underlying3 _ _ _ rfl ((D 13 44 (by kernel_rfl)).1 j) ((a3.out.kept hk).fld 8 _ rfl)) fz)) (nS 15 ((fun a u hE I hk=>JJX _ rfl rfl rfl (dD I 12) (fun j=>Zj 55 #[.int .i64 c.stop,.int .i64 0,.int .i64 1048576] rfl (VY rfl rfl (dD I 12) (jq j)) (Jy 55 _ [.tmp 45,.const (.int .i64 0),.const (.int .i64 1048576)] _ [.int .i64 c.stop,.int .i64 0,.int .i64 1048576] Tryz.func55 (by kernel_rfl) (by kernel_rfl) rfl (show [a.eval (.tmp 45),a.eval (.const (.int .i64 0)),a.eval (.const (.int .i64 1048576))]=[.int .i64 c.stop,.int .i64 0,.int .i64 1048576] from (by rw [show a.eval (.tmp 45)=.int .i64 c.stop from ((I 14 45 (by kernel_rfl)).1 j)] <;> rfl)) u) (in_any _ _ _ u)))) (nS 16 (fS (uC 17 12 rfl (fun a u E D hk j=>YX _ _ (rng c.stop 0 1048576) rfl ((D 15 46 (by kernel_rfl)).1 j)) fz)) (nS 17 (aV rfl (fun a u E D hk=>ZY _ _ _ (((!(rng c.qty 1 1048576)) || (!(rng c.shw 0 c.qty)))) ((!(rng c.stop 0 1048576))) rfl (dD D 12) rfl (fun H=>((D 16 47 (by kernel_rfl)).1 H))) HB.out) nZ))))))))))))))) ?_
  intro gv w2 hV k2
  simp only [Fz7]
  rw [gQ hV 17 48 (.bool bB)]
  clear hV
  have a7:=Kj (a3.out.kept k2)
  have a9:=a8.trans k2
  clear k2 a8 a3
  cases bB with
  | true=>
   have N:c.err=1:=by
    unfold Ord.err
    have U:=HA.out
    have hB:=HB.out
    simp [rng] at U hB
    rw [if_neg]
    rw [UQ]
    omega
   have HE:=Kj N
   clear N
   go_wp2
   go_ret
   exact ⟨_,rfl,by rw [HE.out];rfl,a9⟩
  | false=>
   obtain ⟨bK,hK⟩:∃ b,decide (c.k=2)=b:=⟨_,rfl⟩
   have HK:=Kj hK
   clear hK
   go_upto_region 5 with fail
   refine wA 3 [pV g 4,iV c.k,bV bK] [49,50,51] (nS 1 (ldF (fun u hk=>(a7.out.kept hk).fld 4 _ rfl)) (nS 2 (aV rfl (fun a u E D hk=>JY rfl (dD D 1) rfl) HK.out) nZ)) ?_
   intro w3 k3
   simp only [F8]
   have a1:=Kj (a7.out.kept k3)
   have a5:=a9.trans k3
   clear k3 a9 a7
   cases bK with
   | true=>
    obtain ⟨bM,hM⟩:∃ b,(decide (c.price≠0) || decide (c.shw≠0))=b:=⟨_,rfl⟩
    have HM:=Kj hM
    clear hM
    go_upto_region 6 with fail
    refine tA 8 [pK g 5,iK c.price,bK (decide ((c.price:Int)≠(0:Int))),bK (decide ((c.price:Int)≠(0:Int))),.k (.cond (!(decide ((c.price:Int)≠(0:Int)))) (pE g 7)),.k (.cond (!(decide ((c.price:Int)≠(0:Int)))) (iE c.shw)),.k (.cond (!(decide ((c.price:Int)≠(0:Int)))) (bE (decide ((c.shw:Int)≠(0:Int))))),bK bM] [52,53,54,55,56,57,58,59] (nS 1 (ldF (fun u hk=>(a1.out.kept hk).fld 5 _ rfl)) (nS 2 (sV rfl (fun a u E D hk=>Xj rfl (dD D 1) rfl)) (nS 4 (fS (uC 5 3 rfl (fun a u E D hk j=>Vy 35 7 7 _ (g) rfl (eE E) (by kernel_rfl)) fz)) (nS 5 (fS (uC 6 3 rfl (fun a u E D hk j=>JZ _ Tryz.underlying3 _ _ _ rfl ((D 4 56 (by kernel_rfl)).1 j) ((a1.out.kept hk).fld 7 _ rfl)) fz)) (nS 6 (fS (uC 7 3 rfl (fun a u E D hk j=>Xj rfl ((D 5 57 (by kernel_rfl)).1 j) rfl) fz)) (nS 7 (aV rfl (fun a u E D hk=>ZY _ _ _ ((decide ((c.price:Int)≠(0:Int)))) ((decide ((c.shw:Int)≠(0:Int)))) rfl (dD D 3) rfl (fun H=>((D 6 58 (by kernel_rfl)).1 H))) HM.out) nZ)))))) ?_
    intro gv w4 hV k4
    simp only [Fz7]
    rw [gQ hV 7 59 (.bool bM)]
    clear hV
    have J:=Kj (a1.out.kept k4)
    have a2:=a5.trans k4
    clear k4 a5 a1
    cases bM with
    | true=>
     have N:c.err=1:=by
      unfold Ord.err
      have U:=HA.out
      have hB:=HB.out
      have hK:=HK.out
      have hM:=HM.out
      simp [rng] at U hB hK hM
      rw [if_neg]
      rw [UQ]
      omega
     have HE:=Kj N
     clear N
     go_wp2
     go_ret
     exact ⟨_,rfl,by rw [HE.out];rfl,a2⟩
    | false=>
     obtain ⟨bS,hS⟩:∃ b,((decide (c.shw≠0) && decide (c.k≠1)) && decide (c.k≠5))=b:=⟨_,rfl⟩
     have HS:=Kj hS
     clear hS
     go_upto_region 10 with fail
     refine tA 13 [pK g 7,iK c.shw,bK (decide ((c.shw:Int)≠(0:Int))),bK (decide ((c.shw:Int)≠(0:Int))),.k (.cond (decide ((c.shw:Int)≠(0:Int))) (pE g 4)),.k (.cond (decide ((c.shw:Int)≠(0:Int))) (iE c.k)),.k (.cond (decide ((c.shw:Int)≠(0:Int))) (bE (decide ((c.k:Int)≠(1:Int))))),bK ((decide ((c.shw:Int)≠(0:Int))) && (decide ((c.k:Int)≠(1:Int)))),bK ((decide ((c.shw:Int)≠(0:Int))) && (decide ((c.k:Int)≠(1:Int)))),.k (.cond ((decide ((c.shw:Int)≠(0:Int))) && (decide ((c.k:Int)≠(1:Int)))) (pE g 4)),.k (.cond ((decide ((c.shw:Int)≠(0:Int))) && (decide ((c.k:Int)≠(1:Int)))) (iE c.k)),.k (.cond ((decide ((c.shw:Int)≠(0:Int))) && (decide ((c.k:Int)≠(1:Int)))) (bE (decide ((c.k:Int)≠(5:Int))))),bK bS] [64,65,66,67,68,69,70,71,72,73,74,75,76] (nS 1 (ldF (fun u hk=>(J.out.kept hk).fld 7 _ rfl)) (nS 2 (sV rfl (fun a u E D hk=>Xj rfl (dD D 1) rfl)) (nS 4 (fS (iC 5 3 rfl (fun a u E D hk j=>Vy 35 4 4 _ (g) rfl (eE E) (by kernel_rfl)) fz)) (nS 5 (fS (iC 6 3 rfl (fun a u E D hk j=>JZ _ Tryz.underlying3 _ _ _ rfl ((D 4 68 (by kernel_rfl)).1 j) ((J.out.kept hk).fld 4 _ rfl)) fz)) (nS 6 (fS (iC 7 3 rfl (fun a u E D hk j=>Xj rfl ((D 5 69 (by kernel_rfl)).1 j) rfl) fz)) (nS 7 (sV rfl (fun a u E D hk=>Qj _ _ _ ((decide ((c.shw:Int)≠(0:Int)))) ((decide ((c.k:Int)≠(1:Int)))) rfl (dD D 3) (fun H=>((D 6 70 (by kernel_rfl)).1 H)) rfl)) (nS 9 (fS (iC 10 8 rfl (fun a u E D hk j=>Vy 35 4 4 _ (g) rfl (eE E) (by kernel_rfl)) fz)) (nS 10 (fS (iC 11 8 rfl (fun a u E D hk j=>JZ _ Tryz.underlying3 _ _ _ rfl ((D 9 73 (by kernel_rfl)).1 j) ((J.out.kept hk).fld 4 _ rfl)) fz)) (nS 11 (fS (iC 12 8 rfl (fun a u E D hk j=>Xj rfl ((D 10 74 (by kernel_rfl)).1 j) rfl) fz)) (nS 12 (aV rfl (fun a u E D hk=>Qj _ _ _ (((decide ((c.shw:Int)≠(0:Int))) && (decide ((c.k:Int)≠(1:Int))))) ((decide ((c.k:Int)≠(5:Int)))) rfl (dD D 8) (fun H=>((D 11 75 (by kernel_rfl)).1 H)) rfl) HS.out) nZ)))))))))) ?_
     intro gv w5 hV k5
     simp only [Fz7]
     rw [gQ hV 12 76 (.bool bS)]
     clear hV
     have aa:=Kj (J.out.kept k5)
     have a4:=a2.trans k5
     clear k5 a2 J
     cases bS with
     | true=>
      have N:c.err=1:=by
       unfold Ord.err
       have U:=HA.out
       have hB:=HB.out
       have hK:=HK.out
       have hM:=HM.out
       have hS:=HS.out
       simp [rng] at U hB hK hM hS
       rw [if_neg]
       rw [UQ]
       omega
      have HE:=Kj N
      clear N
      go_wp2
      go_ret
      exact ⟨_,rfl,by rw [HE.out];rfl,a4⟩
     | false=>
      have N:c.err=0:=by
       unfold Ord.err
       have U:=HA.out
       have hB:=HB.out
       have hK:=HK.out
       have hM:=HM.out
       have hS:=HS.out
       simp [rng] at U hB hK hM hS
       rw [if_pos]
       rw [UQ]
       omega
      have HE:=Kj N
      clear N
      go_wp2
      go_ret
      exact ⟨_,rfl,by rw [HE.out];rfl,a4⟩
   | false=>
    obtain ⟨bP,hP⟩:∃ b,(!rng c.price 1 1048576)=b:=⟨_,rfl⟩
    have HP:=Kj hP
    clear hP
    go_upto_region 8 with fail
    refine wA 4 [pV g 5,iV c.price,bV (rng c.price 1 1048576),bV bP] [60,61,62,63] (nS 1 (ldF (fun u hk=>(a1.out.kept hk).fld 5 _ rfl)) (nS 2 (cV Tryz.func55 (fun u hk=>in_any _ _ _ u)) (nS 3 (aV rfl (fun a u E D hk=>YX _ _ (rng c.price 1 1048576) rfl (dD D 2)) HP.out) nZ))) ?_
    intro w4 k4
    simp only [F8]
    have J:=Kj (a1.out.kept k4)
    have a2:=a5.trans k4
    clear k4 a5 a1
    cases bP with
    | true=>
     have N:c.err=1:=by
      unfold Ord.err
      have U:=HA.out
      have hB:=HB.out
      have hK:=HK.out
      have hP:=HP.out
      simp [rng] at U hB hK hP
      rw [if_neg]
      rw [UQ]
      omega
     have HE:=Kj N
     clear N
     go_wp2
     go_ret
     exact ⟨_,rfl,by rw [HE.out];rfl,a2⟩
    | false=>
     obtain ⟨bS,hS⟩:∃ b,((decide (c.shw≠0) && decide (c.k≠1)) && decide (c.k≠5))=b:=⟨_,rfl⟩
     have HS:=Kj hS
     clear hS
     go_upto_region 10 with fail
     refine tA 13 [pK g 7,iK c.shw,bK (decide ((c.shw:Int)≠(0:Int))),bK (decide ((c.shw:Int)≠(0:Int))),.k (.cond (decide ((c.shw:Int)≠(0:Int))) (pE g 4)),.k (.cond (decide ((c.shw:Int)≠(0:Int))) (iE c.k)),.k (.cond (decide ((c.shw:Int)≠(0:Int))) (bE (decide ((c.k:Int)≠(1:Int))))),bK ((decide ((c.shw:Int)≠(0:Int))) && (decide ((c.k:Int)≠(1:Int)))),bK ((decide ((c.shw:Int)≠(0:Int))) && (decide ((c.k:Int)≠(1:Int)))),.k (.cond ((decide ((c.shw:Int)≠(0:Int))) && (decide ((c.k:Int)≠(1:Int)))) (pE g 4)),.k (.cond ((decide ((c.shw:Int)≠(0:Int))) && (decide ((c.k:Int)≠(1:Int)))) (iE c.k)),.k (.cond ((decide ((c.shw:Int)≠(0:Int))) && (decide ((c.k:Int)≠(1:Int)))) (bE (decide ((c.k:Int)≠(5:Int))))),bK bS] [64,65,66,67,68,69,70,71,72,73,74,75,76] (nS 1 (ldF (fun u hk=>(J.out.kept hk).fld 7 _ rfl)) (nS 2 (sV rfl (fun a u E D hk=>Xj rfl (dD D 1) rfl)) (nS 4 (fS (iC 5 3 rfl (fun a u E D hk j=>Vy 35 4 4 _ (g) rfl (eE E) (by kernel_rfl)) fz)) (nS 5 (fS (iC 6 3 rfl (fun a u E D hk j=>JZ _ Tryz.underlying3 _ _ _ rfl ((D 4 68 (by kernel_rfl)).1 j) ((J.out.kept hk).fld 4 _ rfl)) fz)) (nS 6 (fS (iC 7 3 rfl (fun a u E D hk j=>Xj rfl ((D 5 69 (by kernel_rfl)).1 j) rfl) fz)) (nS 7 (sV rfl (fun a u E D hk=>Qj _ _ _ ((decide ((c.shw:Int)≠(0:Int)))) ((decide ((c.k:Int)≠(1:Int)))) rfl (dD D 3) (fun H=>((D 6 70 (by kernel_rfl)).1 H)) rfl)) (nS 9 (fS (iC 10 8 rfl (fun a u E D hk j=>Vy 35 4 4 _ (g) rfl (eE E) (by kernel_rfl)) fz)) (nS 10 (fS (iC 11 8 rfl (fun a u E D hk j=>JZ _ Tryz.underlying3 _ _ _ rfl ((D 9 73 (by kernel_rfl)).1 j) ((J.out.kept hk).fld 4 _ rfl)) fz)) (nS 11 (fS (iC 12 8 rfl (fun a u E D hk j=>Xj rfl ((D 10 74 (by kernel_rfl)).1 j) rfl) fz)) (nS 12 (aV rfl (fun a u E D hk=>Qj _ _ _ (((decide ((c.shw:Int)≠(0:Int))) && (decide ((c.k:Int)≠(1:Int))))) ((decide ((c.k:Int)≠(5:Int)))) rfl (dD D 8) (fun H=>((D 11 75 (by kernel_rfl)).1 H)) rfl) HS.out) nZ)))))))))) ?_
     intro gv w5 hV k5
     simp only [Fz7]
     rw [gQ hV 12 76 (.bool bS)]
     clear hV
     have aa:=Kj (J.out.kept k5)
     have a4:=a2.trans k5
     clear k5 a2 J
     cases bS with
     | true=>
      have N:c.err=1:=by
       unfold Ord.err
       have U:=HA.out
       have hB:=HB.out
       have hK:=HK.out
       have hP:=HP.out
       have hS:=HS.out
       simp [rng] at U hB hK hP hS
       rw [if_neg]
       rw [UQ]
       omega
      have HE:=Kj N
      clear N
      go_wp2
      go_ret
      exact ⟨_,rfl,by rw [HE.out];rfl,a4⟩
     | false=>
      have N:c.err=0:=by
       unfold Ord.err
       have U:=HA.out
       have hB:=HB.out
       have hK:=HK.out
       have hP:=HP.out
       have hS:=HS.out
       simp [rng] at U hB hK hP hS
       rw [if_pos]
       rw [UQ]
       omega
      have HE:=Kj N
      clear N
      go_wp2
      go_ret
      exact ⟨_,rfl,by rw [HE.out];rfl,a4⟩
end Go.Proofs.YtklohceombpleaaGreat
