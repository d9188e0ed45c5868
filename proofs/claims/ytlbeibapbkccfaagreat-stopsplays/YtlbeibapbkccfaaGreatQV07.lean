/-
 Laws and contracts that the walks rest on, part 7. No condition.
-/
import Derived.Test.YtlbeibapbkccfaaGreatQV06
set_option linter.unusedVariables false
set_option maxRecDepth 100000
set_option maxHeartbeats 12800000
namespace Go.Proofs.YtlbeibapbkccfaaGreat
open Go.RowKit
theorem msame_any (w:World) (F G:Nat→Prop) (p r:Nat) (Mm:Mkt) (ha:Mk w F p Mm) (hb:RMk w G r Mm) (hI:InvK Mm):Gives 14 #[.pointer (some ⟨p,0,none⟩),.pointer (some ⟨r,0,none⟩)] w (.eq (.bool true)):=by
 refine XJ ?_
 have HA:=Kj ha
 have HB:=Kj hb
 obtain ⟨_,qa,va,Fa,hPa,_⟩:=ha
 obtain ⟨_,qb,vb,Fb,hPb,_⟩:=hb
 have HPA:=Kj hPa
 have HPB:=Kj hPb
 have HI:=Kj hI
 have hwl:Mm.w.length≤64:=by have:=hI.few;omega
 have hal:Mm.all.length≤1000:=by
  have h1:=(hI.inv.ok 1).few
  have h2:=(hI.inv.ok 2).few
  have e1:(Yy Mm.b.buys).length≤64:=by rw [qY];exact h1
  have e2:(Yy Mm.b.sells).length≤64:=by rw [qY];exact h2
  unfold Mkt.all
  rw [List.length_append,List.length_append]
  omega
 obtain ⟨W,hW⟩:∃ W,Mm.w=W:=⟨_,rfl⟩
 obtain ⟨A,hA⟩:∃ A,Mm.all=A:=⟨_,rfl⟩
 obtain ⟨D1,hD1⟩:∃ D,Zx 1 (Mm.b.sd 1)=D:=⟨_,rfl⟩
 obtain ⟨D2,hD2⟩:∃ D,Zx 2 (Mm.b.sd 2)=D:=⟨_,rfl⟩
 have hd1:D1.length≤64:=by rw [← hD1];unfold Zx;rw [List.length_map];exact (hI.inv.ok _).len
 have hd2:D2.length≤64:=by rw [← hD2];unfold Zx;rw [List.length_map];exact (hI.inv.ok _).len
 have HWe:=Kj hW
 have HAe:=Kj hA
 have HD1:=Kj hD1
 have HD2:=Kj hD2
 have HE1:Hid (Zx ((1:Nat):Int) (Mm.b.sd ((1:Nat):Int))=D1):=hD1
 have HE2:Hid (Zx ((2:Nat):Int) (Mm.b.sd ((2:Nat):Int))=D2):=hD2
 have HSW:Hid (Sl w 30 9 vb W.length (ords W)):=by show Sl _ _ _ _ _ _;rw [← hW];exact hPb.sl
 have HQ0:Hid (w.cell? ⟨r,0,none⟩=some (.pointer (some ⟨qb,0,none⟩))):=hPb.blk.cell 0
 have HQ1:Hid (w.cell? ⟨r,1,none⟩=some vb):=hPb.blk.cell 1
 have HQ3:Hid (w.cell? ⟨qb,3,none⟩=some (.int .i64 Mm.b.last)):=hPb.bk.last
 have HQ4:Hid (w.cell? ⟨qb,4,none⟩=some (.int .i64 Mm.b.no)):=hPb.bk.no
 have hAl:A.length≤1000:=by rw [← hA];exact hal
 have hWl:W.length≤64:=by rw [← hW];exact hwl
 clear hPa hPb hI hW hA hD1 hD2
 go_enter Tryz.func14,Tryz.ntmps14
 go_upto_region 1 with fail
 refine wE 3 [pV p 0,pV qa 0,pV qa 0] [6,7,5] ?_ ?_
 ·refine mE 1 0 ?_
  refine cS 2 34 [.pointer (some ⟨p,0,none⟩)] rfl Tryz.func34 rfl (fun a u E D hk=>⟨ll (dD D 0) rfl,mbook_any u p qa va (HPA.out.blk.kept hk)⟩) ?_
  refine mD 3 7 1 ?_
  exact fz
 intro w0 k0
 simp only [F8]
 have HA0:=Kj (HA.out.kept k0)
 have HB0:=Kj (HB.out.kept k0)
 have HK0:=Kj (HPA.out.bk.kept k0)
 have HR0:=Kj (HPB.out.bk.kept k0)
 have HSW0:=Kj (HSW.out.kept k0)
 have HQ00:=Kj (Kept.cell k0 HQ0.out)
 have HQ10:=Kj (Kept.cell k0 HQ1.out)
 have HQ30:=Kj (Kept.cell k0 HQ3.out)
 have HQ40:=Kj (Kept.cell k0 HQ4.out)
 clear HA HB HPA HPB HSW HQ0 HQ1 HQ3 HQ4
 go_upto_region 2 with fail
 refine qW 70 [pE qa 0,bE true,bE true,pE p 0,.sl 0 30 9 A.length (ords A),pE r 0,.sl 0 30 9 A.length (ords A),bE true,bE true,bE true,pE p 0,.sl 0 30 9 W.length (ords W),pE r 0,pE r 0,pE r 1,.eq (vb),bE true,bE true,bE true,pE p 0,iE (Mm.len:Int),pE r 0,iE (Mm.len:Int),bE true,bE true,bE true,pE qa 0,iE Mm.b.last,pE r 0,pE r 0,pE r 0,pE qb 0,pE qb 0,pE qb 3,iE Mm.b.last,bE true,bE true,bE true,pE qa 0,iE Mm.b.no,pE r 0,pE r 0,pE r 0,pE qb 0,pE qb 0,pE qb 4,iE Mm.b.no,bE true,bE true,bE true,pE qa 0,.sl 0 72 10 D1.length (ents D1),pE r 0,pE r 0,pE r 0,pE qb 0,.sl 0 72 10 D1.length (ents D1),bE true,bE true,bE true,pE qa 0,.sl 0 72 10 D2.length (ents D2),pE r 0,pE r 0,pE r 0,pE qb 0,.sl 0 72 10 D2.length (ents D2),bE true,bE true,bE true] (by kernel_rfl) rfl (by kernel_rfl) ?_ ?_
 ·refine mE 1 5 ?_
  refine sW 2 rfl (fun a u E D hk=>exec_neP _ _ _ ⟨qa,0,none⟩ (by kernel_rfl) rfl (dD D 0)) ?_
  refine mD 3 9 1 ?_
  refine mE 4 0 ?_
  refine cS 5 36 [.pointer (some ⟨p,0,none⟩)] rfl Tryz.func36 rfl (fun a u E D hk=>⟨ll (dD D 3) rfl,(by have h:=(mall_any u F p Mm (HA0.out.kept hk) HI.out.inv (by omega)).base (Nat.zero_le _);rw [HAe.out] at h;exact h)⟩) ?_
  refine mE 6 1 ?_
  refine cS 7 37 [.pointer (some ⟨r,0,none⟩)] rfl Tryz.func37 rfl (fun a u E D hk=>⟨ll (dD D 5) rfl,(by have h:=(rmall_any u G r Mm (HB0.out.kept hk) HI.out.inv (by omega)).base (Nat.zero_le _);rw [HAe.out] at h;exact h)⟩) ?_
  refine QY 8 rfl (fun a u hE hD hk=>VJ 35 #[a.eval (.tmp 12),a.eval (.tmp 14)] rfl (xX (b:=true) true rfl rfl (dD hD 2)) (Jq 35 _ [.tmp 12,.tmp 14] _ [a.eval (.tmp 12),a.eval (.tmp 14)] Tryz.func35 (by kernel_rfl) (by kernel_rfl) rfl rfl u) ((by have h:=sameO_any (a.eval (.tmp 12)) (a.eval (.tmp 14)) 0 0 A A u (hD 4 12 (by kernel_rfl)).1 (hD 6 14 (by kernel_rfl)).1 (by omega) (by omega);rwa [Ky rfl] at h))) ?_
  refine pT 9 10 15 2 7 ?_
  refine mD 10 16 8 ?_
  refine mE 11 0 ?_
  refine cS 12 38 [.pointer (some ⟨p,0,none⟩)] rfl Tryz.func38 rfl (fun a u E D hk=>⟨ll (dD D 10) rfl,(by have h:=(waiting_any u F p Mm (HA0.out.kept hk) (by omega)).base (Nat.zero_le _);rw [HWe.out] at h;exact h)⟩) ?_
  refine mE 13 1 ?_
  refine nD 14 20 12 ?_
  refine fD 15 21 13 53 1 1 0 ?_
  refine sW 16 rfl (fun a u E D hk=>Jy _ _ Tryz.underlying44 _ _ _ rfl (dD D 14) (Kept.cell hk (HQ10.out))) ?_
  refine QY 17 rfl (fun a u hE hD hk=>VJ 35 #[a.eval (.tmp 19),vb] rfl (xX (b:=true) true rfl rfl (dD hD 9)) (Jq 35 _ [.tmp 19,.tmp 23] _ [a.eval (.tmp 19),vb] Tryz.func35 (by kernel_rfl) (by kernel_rfl) rfl (show [a.eval (.tmp 19),a.eval (.tmp 23)]=[a.eval (.tmp 19),vb] from (by rw [show a.eval (.tmp 23)=vb from (dD hD 15)] <;> rfl)) u) ((by have h:=sameO_any (a.eval (.tmp 19)) (vb) 0 0 W W u (hD 11 19 (by kernel_rfl)).1 (HSW0.out.kept hk) (by omega) (by omega);rwa [Ky rfl] at h))) ?_
  refine pT 18 17 24 9 16 ?_
  refine mD 19 25 17 ?_
  refine mE 20 0 ?_
  refine cS 21 39 [.pointer (some ⟨p,0,none⟩)] rfl Tryz.func39 rfl (fun a u E D hk=>⟨ll (dD D 19) rfl,mlen_any u F p Mm (HA0.out.kept hk) HI.out.inv (by omega)⟩) ?_
  refine mE 22 1 ?_
  refine cS 23 25 [.pointer (some ⟨r,0,none⟩)] rfl Tryz.func25 rfl (fun a u E D hk=>⟨ll (dD D 21) rfl,rmlen_any u G r Mm (HB0.out.kept hk) HI.out.inv (by omega)⟩) ?_
  refine aS 24 rfl (fun a u E D hk=>JU rfl (dD D 20) (dD D 22)) (Ky rfl) ?_
  refine pT 25 26 31 18 23 ?_
  refine mD 26 32 24 ?_
  refine mE 27 5 ?_
  refine cS 28 40 [.pointer (some ⟨qa,0,none⟩)] rfl Tryz.func40 rfl (fun a u E D hk=>⟨ll (dD D 26) rfl,blast_any u Fa qa Mm.b (HK0.out.kept hk)⟩) ?_
  refine mE 29 1 ?_
  refine nD 30 36 28 ?_
  refine fD 31 37 29 53 0 0 0 ?_
  refine sW 32 rfl (fun a u E D hk=>XY _ _ Tryz.underlying47 _ _ _ rfl (dD D 30) (Kept.cell hk (HQ00.out))) ?_
  refine nD 33 39 31 ?_
  refine fD 34 40 32 51 1 3 0 ?_
  refine lD 35 41 33 Tryz.underlying3 (fun u hk=>Kept.cell hk (HQ30.out)) ?_
  refine aS 36 rfl (fun a u E D hk=>JU rfl (dD D 27) (dD D 34)) (Ky rfl) ?_
  refine pT 37 33 43 25 35 ?_
  refine mD 38 44 36 ?_
  refine mE 39 5 ?_
  refine cS 40 41 [.pointer (some ⟨qa,0,none⟩)] rfl Tryz.func41 rfl (fun a u E D hk=>⟨ll (dD D 38) rfl,bno_any u Fa qa Mm.b (HK0.out.kept hk)⟩) ?_
  refine mE 41 1 ?_
  refine nD 42 48 40 ?_
  refine fD 43 49 41 53 0 0 0 ?_
  refine sW 44 rfl (fun a u E D hk=>XY _ _ Tryz.underlying47 _ _ _ rfl (dD D 42) (Kept.cell hk (HQ00.out))) ?_
  refine nD 45 51 43 ?_
  refine fD 46 52 44 51 2 4 0 ?_
  refine lD 47 53 45 Tryz.underlying3 (fun u hk=>Kept.cell hk (HQ40.out)) ?_
  refine aS 48 rfl (fun a u E D hk=>JU rfl (dD D 39) (dD D 46)) (Ky rfl) ?_
  refine pT 49 45 55 37 47 ?_
  refine mD 50 56 48 ?_
  refine mE 51 5 ?_
  refine cS 52 43 [.pointer (some ⟨qa,0,none⟩),.int .i64 1] rfl Tryz.func43 rfl (fun a u E D hk=>⟨ll (dD D 50) (ll rfl rfl),(by have h:=(bdepth_any u Fa qa Mm.b 1 (HK0.out.kept hk) HI.out.inv).base (Nat.zero_le _);rw [HD1.out] at h;exact h)⟩) ?_
  refine mE 53 1 ?_
  refine nD 54 60 52 ?_
  refine fD 55 61 53 53 0 0 0 ?_
  refine sW 56 rfl (fun a u E D hk=>XY _ _ Tryz.underlying47 _ _ _ rfl (dD D 54) (Kept.cell hk (HQ00.out))) ?_
  refine cS 57 44 [.pointer (some ⟨qb,0,none⟩),.int .i64 1] rfl Tryz.func44 rfl (fun a u E D hk=>⟨ll (dD D 55) (ll rfl rfl),(by have h:=(rbdepth_any u Fb qb Mm.b 1 (by omega) (HR0.out.kept hk) HI.out.inv).base (Nat.zero_le _);rw [HE1.out] at h;exact h)⟩) ?_
  refine QY 58 rfl (fun a u hE hD hk=>VJ 42 #[a.eval (.tmp 59),a.eval (.tmp 64)] rfl (xX (b:=true) true rfl rfl (dD hD 49)) (Jq 42 _ [.tmp 59,.tmp 64] _ [a.eval (.tmp 59),a.eval (.tmp 64)] Tryz.func42 (by kernel_rfl) (by kernel_rfl) rfl rfl u) ((by have h:=sameH_any (a.eval (.tmp 59)) (a.eval (.tmp 64)) 0 0 D1 D1 u (hD 51 59 (by kernel_rfl)).1 (hD 56 64 (by kernel_rfl)).1 (by omega) (by omega);rwa [Ky rfl] at h))) ?_
  refine pT 59 57 65 49 57 ?_
  refine mD 60 66 58 ?_
  refine mE 61 5 ?_
  refine cS 62 43 [.pointer (some ⟨qa,0,none⟩),.int .i64 2] rfl Tryz.func43 rfl (fun a u E D hk=>⟨ll (dD D 60) (ll rfl rfl),(by have h:=(bdepth_any u Fa qa Mm.b 2 (HK0.out.kept hk) HI.out.inv).base (Nat.zero_le _);rw [HD2.out] at h;exact h)⟩) ?_
  refine mE 63 1 ?_
  refine nD 64 70 62 ?_
  refine fD 65 71 63 53 0 0 0 ?_
  refine sW 66 rfl (fun a u E D hk=>XY _ _ Tryz.underlying47 _ _ _ rfl (dD D 64) (Kept.cell hk (HQ00.out))) ?_
  refine cS 67 44 [.pointer (some ⟨qb,0,none⟩),.int .i64 2] rfl Tryz.func44 rfl (fun a u E D hk=>⟨ll (dD D 65) (ll rfl rfl),(by have h:=(rbdepth_any u Fb qb Mm.b 2 (by omega) (HR0.out.kept hk) HI.out.inv).base (Nat.zero_le _);rw [HE2.out] at h;exact h)⟩) ?_
  refine QY 68 rfl (fun a u hE hD hk=>VJ 42 #[a.eval (.tmp 69),a.eval (.tmp 74)] rfl (xX (b:=true) true rfl rfl (dD hD 59)) (Jq 42 _ [.tmp 69,.tmp 74] _ [a.eval (.tmp 69),a.eval (.tmp 74)] Tryz.func42 (by kernel_rfl) (by kernel_rfl) rfl rfl u) ((by have h:=sameH_any (a.eval (.tmp 69)) (a.eval (.tmp 74)) 0 0 D2 D2 u (hD 61 69 (by kernel_rfl)).1 (hD 66 74 (by kernel_rfl)).1 (by omega) (by omega);rwa [Ky rfl] at h))) ?_
  refine pT 69 67 75 59 67 ?_
  refine mD 70 76 68 ?_
  exact fz
 intro gv w1 hV k1
 rw [dq 70 [8,9,10,11,12,13,14,15,16,17,18,19,20,21,22,23,24,25,26,27,28,29,30,31,32,33,34,35,36,37,38,39,40,41,42,43,44,45,46,47,48,49,50,51,52,53,54,55,56,57,58,59,60,61,62,63,64,65,66,67,68,69,70,71,72,73,74,75,76,4]]
 simp only [List.append_eq,List.cons_append,List.nil_append]
 simp only [Fz7]
 rw [gQ hV 69 4 (.bool true)]
 clear hV
 refine Kx ?_
 go_wp2
 go_ret
 exact ⟨rfl,k0.trans k1⟩
theorem koutT_any (x:Ot) (va vb:Value) (w:World) (ha:Sl w 77 21 va x.c.f.length (fls x.c.f)) (hb:Sl w 77 21 vb x.c.f.length (fls x.c.f)) (hl:x.c.f.length≤2000000):Gives 17 #[x.v va,x.v vb] w (.eq (.bool true)):=by
 refine XJ ?_
 have HA:=Kj ha
 have HB:=Kj hb
 have h1a:=Yq ha
 have h1b:=Yq hb
 clear ha hb
 go_enter Tryz.func17,Tryz.ntmps17
 go_upto_region 0 with fail
 refine QZ 2 [.fresh w.heap.size 58 (x.cells va),.fresh w.heap.size 58 (x.cells vb)] rfl (by kernel_rfl) ?_ ?_
 ·refine nW 1 rfl (fun a u E D hk=>⟨_,_,YX 58 _ (x.cells va) rfl (eE E),⟨_,rfl,hk.size,Blk.new u _ _⟩,((Keep.refl _ u).alloc _)⟩) ?_
  refine nW 2 rfl (fun a u E D hk=>⟨_,_,YX 58 _ (x.cells vb) rfl (eE E),⟨_,rfl,hk.size,Blk.new u _ _⟩,((Keep.refl _ u).alloc _)⟩) ?_
  exact fz
 intro gv w0 hV k0
 rw [dq 2 [2,3]]
 simp only [Fz7]
 have hv2:(.fresh w.heap.size 58 (x.cells va):Kn).p (gv 2) w0:=hV 0 2 (by kernel_rfl)
 generalize gv 2=v2 at hv2 ⊢
 have hv3:(.fresh w.heap.size 58 (x.cells vb):Kn).p (gv 3) w0:=hV 1 3 (by kernel_rfl)
 generalize gv 3=v3 at hv3 ⊢
 clear hV
 obtain ⟨g2,rfl,hg2,hB2⟩:=hv2
 obtain ⟨g3,rfl,hg3,hB3⟩:=hv3
 refine Jx (.bool false) rfl (JQ _ _ rfl (by kernel_rfl)) ?_
 simp only [Act.put,sA,sS,sZ]
 refine Kx ?_
 have H2:=Kj (JW hB2)
 have H3:=Kj (JW hB3)
 have HA0:=Kj (HA.out.kept k0)
 have HB0:=Kj (HB.out.kept k0)
 clear hB2 hB3 HA HB
 go_upto_region 1 with fail
 refine wEp 47 [pV g2 0,x.c.o.v,pV g3 0,x.c.o.v,bV true,bV true,pV g2 9,va,pV g3 9,vb,bV true,bV true,bV true,pV g2 10,iV x.c.left,pV g3 10,iV x.c.left,bV true,bV true,bV true,pV g2 11,bV x.c.rests,pV g3 11,bV x.c.rests,bV true,bV true,bV true,pV g2 12,bV x.wt,pV g3 12,bV x.wt,bV true,bV true,bV true,pV g2 13,bV x.c.self,pV g3 13,bV x.c.self,bV true,bV true,bV true,pV g2 14,iV x.c.err,pV g3 14,iV x.c.err,bV true,bV true] [5,6,7,8,9,10,11,12,13,14,15,16,17,18,19,20,21,22,23,24,25,26,27,28,29,30,31,32,33,34,35,36,37,38,39,40,41,42,43,44,45,46,47,48,49,50,51] ?_ ?_
 ·refine fE 1 2 58 0 0 0 ?_
  refine sD 2 5 0 x.c.o.cells Tryz.underlying30 (fun u hk=>ot_ord (JJ (H2.out) hk)) (by rw [Ord.len9];exact JX) ?_
  refine fE 3 3 58 0 0 0 ?_
  refine sD 4 7 2 x.c.o.cells Tryz.underlying30 (fun u hk=>ot_ord (JJ (H3.out) hk)) (by rw [Ord.len9];exact JX) ?_
  refine sW 5 rfl (fun a u E D hk=>exec_eqOb' true _ _ _ x.c.o x.c.o rfl (dD D 1) (dD D 3) (Ky rfl)) ?_
  refine mD 6 9 4 ?_
  refine fE 7 2 58 1 9 0 ?_
  refine sW 8 rfl (fun a u E D hk=>Jy _ _ Tryz.underlying55 _ _ _ rfl (dD D 6) ((JJ (H2.out) hk) 9 _ rfl)) ?_
  refine fE 9 3 58 1 9 0 ?_
  refine sW 10 rfl (fun a u E D hk=>Jy _ _ Tryz.underlying55 _ _ _ rfl (dD D 8) ((JJ (H3.out) hk) 9 _ rfl)) ?_
  refine cS 11 46 [va,vb] rfl Tryz.func46 rfl (fun a u E D hk=>⟨ll (dD D 7) (ll (dD D 9) rfl),(by have h:=sameF_any va vb 0 0 x.c.f x.c.f u (HA0.out.kept hk) (HB0.out.kept hk) (by omega) (by omega);rwa [Ky rfl] at h)⟩) ?_
  refine pT 12 10 15 5 10 ?_
  refine mD 13 16 11 ?_
  refine fE 14 2 58 2 10 0 ?_
  refine lD 15 18 13 Tryz.underlying3 (fun u hk=>(JJ (H2.out) hk) 10 _ rfl) ?_
  refine fE 16 3 58 2 10 0 ?_
  refine lD 17 20 15 Tryz.underlying3 (fun u hk=>(JJ (H3.out) hk) 10 _ rfl) ?_
  refine aS 18 rfl (fun a u E D hk=>JU rfl (dD D 14) (dD D 16)) (Ky rfl) ?_
  refine pT 19 17 22 12 17 ?_
  refine mD 20 23 18 ?_
  refine fE 21 2 58 3 11 0 ?_
  refine sW 22 rfl (fun a u E D hk=>UY _ Tryz.underlying4 _ _ _ rfl (dD D 20) ((JJ (H2.out) hk) 11 _ rfl)) ?_
  refine fE 23 3 58 3 11 0 ?_
  refine sW 24 rfl (fun a u E D hk=>UY _ Tryz.underlying4 _ _ _ rfl (dD D 22) ((JJ (H3.out) hk) 11 _ rfl)) ?_
  refine sW 25 rfl (fun a u E D hk=>exec_eqb _ _ _ _ _ true rfl (dD D 21) (dD D 23) (by simp)) ?_
  refine pT 26 24 29 19 24 ?_
  refine mD 27 30 25 ?_
  refine fE 28 2 58 4 12 0 ?_
  refine sW 29 rfl (fun a u E D hk=>UY _ Tryz.underlying4 _ _ _ rfl (dD D 27) ((JJ (H2.out) hk) 12 _ rfl)) ?_
  refine fE 30 3 58 4 12 0 ?_
  refine sW 31 rfl (fun a u E D hk=>UY _ Tryz.underlying4 _ _ _ rfl (dD D 29) ((JJ (H3.out) hk) 12 _ rfl)) ?_
  refine sW 32 rfl (fun a u E D hk=>exec_eqb _ _ _ _ _ true rfl (dD D 28) (dD D 30) (by simp)) ?_
  refine pT 33 31 36 26 31 ?_
  refine mD 34 37 32 ?_
  refine fE 35 2 58 5 13 0 ?_
  refine sW 36 rfl (fun a u E D hk=>UY _ Tryz.underlying4 _ _ _ rfl (dD D 34) ((JJ (H2.out) hk) 13 _ rfl)) ?_
  refine fE 37 3 58 5 13 0 ?_
  refine sW 38 rfl (fun a u E D hk=>UY _ Tryz.underlying4 _ _ _ rfl (dD D 36) ((JJ (H3.out) hk) 13 _ rfl)) ?_
  refine sW 39 rfl (fun a u E D hk=>exec_eqb _ _ _ _ _ true rfl (dD D 35) (dD D 37) (by simp)) ?_
  refine pT 40 38 43 33 38 ?_
  refine mD 41 44 39 ?_
  refine fE 42 2 58 6 14 0 ?_
  refine lD 43 46 41 Tryz.underlying56 (fun u hk=>(JJ (H2.out) hk) 14 _ rfl) ?_
  refine fE 44 3 58 6 14 0 ?_
  refine lD 45 48 43 Tryz.underlying56 (fun u hk=>(JJ (H3.out) hk) 14 _ rfl) ?_
  refine aS 46 rfl (fun a u E D hk=>JU rfl (dD D 42) (dD D 44)) (Ky rfl) ?_
  refine pT 47 45 50 40 45 ?_
  exact fz
 intro w1 k1
 simp only [F8]
 refine Jx (.bool true) rfl (JQ _ _ rfl (by kernel_rfl)) ?_
 simp only [Act.put,sA,sS,sZ]
 refine Kx ?_
 go_wp2
 go_ret
 exact ⟨rfl,k0.trans k1⟩
theorem outs_at {w:World} {base:Nat} {G:Nat→Prop} {v:Value} {L:List Ot} {Z:List (Ot × Value)} (h:Outs w base G v L Z) {i:Nat} {x:Ot} (hx:L[i]?=some x):∃ y,Z[i]?=some (x,y):=by
 rw [← h.eq,List.getElem?_map] at hx
 cases e:Z[i]? with
 | none=>rw [e] at hx;cases hx
 | some z=>
  rw [e] at hx
  injection hx with hx
  obtain ⟨a,b⟩:=z
  exact ⟨b,by rw [← hx]⟩
theorem kouts_any (va vb:Value) (L:List Ot) (Za Zb:List (Ot × Value)) (w:World) (ba bb:Nat) (Ga Gb:Nat→Prop) (ha:Outs w ba Ga va L Za) (hb:Outs w bb Gb vb L Zb) (hl:∀ x ∈ L,x.c.f.length≤2000000) (hL:L.length≤1000000):Gives 6 #[va,vb] w (.eq (.bool true)):=by
 refine XJ ?_
 obtain ⟨n,hn⟩:∃ n,L.length=n:=⟨_,rfl⟩
 have HN:=Kj hn
 have HA:=Kj ha
 have HB:=Kj hb
 have HSA:Hid (Sl w 58 15 va n (outc Za)):=by show Sl _ _ _ _ _ _;rw [← hn,← ha.len];exact ha.sl
 have HSB:Hid (Sl w 58 15 vb n (outc Zb)):=by show Sl _ _ _ _ _ _;rw [← hn,← hb.len];exact hb.sl
 have HF:=Kj hl
 rw [hn] at hL
 clear ha hb hl hn
 go_enter Tryz.func6,Tryz.ntmps6
 go_upto_region 1 with fail
 refine wE 5 [va,iV (n:Int),vb,iV (n:Int),bV false] [6,7,8,9,10] ?_ ?_
 ·refine mE 1 0 ?_
  refine sW 2 rfl (fun a u E D hk=>Qq _ slC _ _ _ _ rfl (dD D 0) (HSA.out.kept hk)) ?_
  refine mE 3 1 ?_
  refine sW 4 rfl (fun a u E D hk=>Qq _ slC _ _ _ _ rfl (dD D 2) (HSB.out.kept hk)) ?_
  refine aS 5 rfl (fun a u E D hk=>YZ rfl (dD D 1) (dD D 3)) (by simp) ?_
  exact fz
 intro w0 k0
 simp only [F8]
 go_upto_region 3 with fail
 refine wE 3 [va,iV (n:Int),iV 0] [11,12,13] ?_ ?_
 ·refine mE 1 0 ?_
  refine sW 2 rfl (fun a u E D hk=>Qq _ slC _ _ _ _ rfl (dD D 0) ((HSA.out.kept k0).kept hk)) ?_
  refine sW 3 rfl (fun a u E D hk=>Jj _ _ rfl rfl) ?_
  exact fz
 intro w1 k1
 simp only [F8]
 have kw1:=k0.trans k1
 clear k0 k1
 go_wp2_with fail
 go_loopw [13] (fun q wr=>∃ (i:Nat),i≤n∧q=.int .i64 (i:Int)∧Kept w wr) (fun q _=>n-(intOf q).toNat)
 case atStart=>exact ⟨0,Nat.zero_le _,rfl,kw1⟩
 obtain ⟨i,hi,rfl,hkr⟩:=hrel
 by_cases hlt:i<n
 ·obtain ⟨x,hx⟩:∃ x,L[i]?=some x:=⟨L[i]'(by rw [HN.out];exact hlt),List.getElem?_eq_getElem (by rw [HN.out];exact hlt)⟩
  obtain ⟨ya,hya⟩:=outs_at HA.out hx
  obtain ⟨yb,hyb⟩:=outs_at HB.out hx
  have hxl:=HF.out x (List.mem_of_getElem? hx)
  obtain ⟨ga,oa,ca,rfl⟩:=HSA.out.some_ (by omega)
  obtain ⟨gb,ob,cb,rfl⟩:=HSB.out.some_ (by omega)
  have HEA:Hid (wr.rangeAt ga (oa+i*15) (x.cells ya)):=JJ (HSA.out.rngC i (x,ya) hya) hkr
  have HEB:Hid (wr.rangeAt gb (ob+i*15) (x.cells yb)):=JJ (HSB.out.rngC i (x,yb) hyb) hkr
  have HFA:=Kj ((HA.out.fl (x,ya) (List.mem_of_getElem? hya)).kept hkr)
  have HFB:=Kj ((HB.out.fl (x,yb) (List.mem_of_getElem? hyb)).kept hkr)
  clear hx hya hyb
  go_upto_region 5 with fail
  refine wE 2 [iV (i:Int),iV (i:Int)] [15,5] ?_ ?_
  ·refine mE 1 13 ?_
   refine mD 2 15 0 ?_
   exact fz
  intro wa ka
  simp only [F8]
  have HEA1:=Kj (JJ HEA.out ka)
  have HEB1:=Kj (JJ HEB.out ka)
  have HFA1:=Kj (HFA.out.kept ka)
  have HFB1:=Kj (HFB.out.kept ka)
  go_upto_region 6 with fail
  refine wG 10 [.slice (some ⟨ga,oa,none⟩) n ca,iV (i:Int),pV ga (oa+i*15),x.v ya,.slice (some ⟨gb,ob,none⟩) n cb,iV (i:Int),pV gb (ob+i*15),x.v yb,bV true,bV false] [16,17,18,19,20,21,22,23,24,25] ?_ ?_
  ·refine mE 1 0 ?_
   refine mE 2 5 ?_
   refine sW 3 rfl (fun a u E D hk=>Jz slC _ _ (ga) (oa) n ca i (oa+i*15) ((i:Int)) rfl (dD D 0) (dD D 1) (by first | rfl | omega) (hlt) (by first | rfl | omega)) ?_
   refine sD 4 18 2 (x.cells ya) Tryz.underlying58 (fun u hk=>JJ (HEA1.out) hk) (by rw [Ot.len15];exact szC) ?_
   refine mE 5 1 ?_
   refine mE 6 5 ?_
   refine sW 7 rfl (fun a u E D hk=>Jz slC _ _ (gb) (ob) n cb i (ob+i*15) ((i:Int)) rfl (dD D 4) (dD D 5) (by first | rfl | omega) (hlt) (by first | rfl | omega)) ?_
   refine sD 8 22 6 (x.cells yb) Tryz.underlying58 (fun u hk=>JJ (HEB1.out) hk) (by rw [Ot.len15];exact szC) ?_
   refine cS 9 17 [x.v ya,x.v yb] rfl Tryz.func17 rfl (fun a u E D hk=>⟨ll (dD D 3) (ll (dD D 7) rfl),koutT_any x ya yb u (HFA1.out.kept hk) (HFB1.out.kept hk) hxl⟩) ?_
   refine sW 10 rfl (fun a u E D hk=>Yj _ _ true rfl (dD D 8)) ?_
   exact fz
  intro wb kb
  simp only [F8]
  have kk:=(hkr.trans ka).trans kb
  clear ka kb hkr
  go_wp2
  exact ⟨⟨i+1,by omega,by go_num,kk⟩,by simp [intOf];omega⟩
 go_wp2
 go_ret
 exact ⟨rfl,hkr⟩
theorem add_go {B:Bok} {o:Ord} {m:Mt} (he:B.err o=0) (hm:B.matched o=m):B.add o=(⟨o,m.f,m.left,decide (0<m.left) && !m.self && (decide (o.k=1) || decide (o.k=5)),m.self,0⟩,
  if (decide (0<m.left) && !m.self && (decide (o.k=1) || decide (o.k=5)))=true then ({ B.put (3-o.side) m.L with last:=VY B.last m.f,no:=B.no+m.f.length }:Bok).put o.side (Wj (o.cut m.left) (({ B.put (3-o.side) m.L with last:=VY B.last m.f,no:=B.no+m.f.length }:Bok).sd o.side)) else { B.put (3-o.side) m.L with last:=VY B.last m.f,no:=B.no+m.f.length }):=by
 subst hm
 unfold Bok.add
 rw [if_neg (by simp [he])]
 rfl
theorem madd_enter {M:Mkt} {o:Ord} {y:Oc} {B2:Bok} (he:M.err o=0) (hw:M.waits o=false) (hy:M.b.add o.free=(y,B2)) (h0:y.err=0):M.add o=(⟨{ y with o:=o },false⟩::(Mkt.mk B2 M.w).cas.1,(Mkt.mk B2 M.w).cas.2):=by
 have ha:M.arrive o=(⟨{ y with o:=o },false⟩,⟨B2,M.w⟩):=by
  unfold Mkt.arrive
  rw [if_neg (fun h=>h he),if_neg (by rw [hw];decide)]
  unfold Bok.enter
  rw [hy]
 unfold Mkt.add
 rw [ha,if_neg (fun h=>h h0)]
theorem madd_wait {M:Mkt} {o:Ord} (he:M.err o=0) (hw:M.waits o=true):M.add o=(⟨⟨o,[],o.qty,false,false,0⟩,true⟩::(Mkt.mk M.b (M.w++[o])).cas.1,(Mkt.mk M.b (M.w++[o])).cas.2):=by
 have ha:M.arrive o=(⟨⟨o,[],o.qty,false,false,0⟩,true⟩,⟨M.b,M.w++[o]⟩):=by
  unfold Mkt.arrive
  rw [if_neg (fun h=>h he),if_pos hw]
 unfold Mkt.add
 rw [ha]
 exact if_neg (fun h=>h rfl)
def mkS (firm id side price qty stop:Int):Ord:=⟨firm,id,firm,side,1,price,qty,0,stop⟩
def s1:Ord:=mkS 1 1 2 10 5 0
def s2:Ord:=mkS 1 2 2 11 5 0
def s3:Ord:=mkS 2 1 1 12 3 10
def s4:Ord:=mkS 3 1 1 10 5 0
def SB1:Bok:=⟨[],[(10,[⟨s1,5⟩])],0,0⟩
def SB2:Bok:=⟨[],[(10,[⟨s1,5⟩]),(11,[⟨s2,5⟩])],0,0⟩
def SB4:Bok:=⟨[],[(11,[⟨s2,5⟩])],10,1⟩
def SB5:Bok:=⟨[],[(11,[⟨s2.q 2,2⟩])],11,2⟩
def fs1:Fl:=⟨s1,s4,10,5,1⟩
def fs2:Fl:=⟨s2,s3.free,11,3,2⟩
def os1:Ot:=⟨⟨s1,[],5,true,false,0⟩,false⟩
def os2:Ot:=⟨⟨s2,[],5,true,false,0⟩,false⟩
def os3:Ot:=⟨⟨s3,[],3,false,false,0⟩,true⟩
def os4:Ot:=⟨⟨s4,[fs1],0,false,false,0⟩,false⟩
def os5:Ot:=⟨⟨s3,[fs2],0,false,false,0⟩,false⟩
theorem sadd1:Bok.zero.add s1.free=(⟨s1,[],5,true,false,0⟩,SB1):=by
 rw [add_go (m:=⟨[],5,false,[]⟩) (by decide) rfl]
 rfl
theorem sadd2:SB1.add s2.free=(⟨s2,[],5,true,false,0⟩,SB2):=by
 rw [add_go (m:=⟨[],5,false,[]⟩) (by decide) rfl]
 rfl
theorem sadd4:SB2.add s4.free=(⟨s4,[fs1],0,false,false,0⟩,SB4):=by
 have t1:takeM 3 5 [⟨s1,5⟩]=([⟨s1,5⟩],false,[]):=by
  rw [takeM_go 3 5 ⟨s1,5⟩ [] (by decide) (by decide) (by decide)]
  rw [show ZU ⟨s1,5⟩ (mn 5 (⟨s1,5⟩:Ent).n) []=[] by decide,yQ]
  rfl
 have hm:SB2.matched s4.free=⟨[fs1],0,false,[(11,[⟨s2,5⟩])]⟩:=by
  show ZY s4.free 0 5 [(10,[⟨s1,5⟩]),(11,[⟨s2,5⟩])]=_
  rw [ZY,if_pos (by decide)]
  simp only [show s4.free.firm=3 from rfl,t1]
  rw [if_pos (by decide)]
  simp only [show (5:Int)-QJ [⟨s1,5⟩]=0 by decide]
  rw [ZY,if_neg (by decide)]
  rfl
 rw [add_go (by decide) hm]
 rfl
theorem sadd5:SB4.add s3.free=(⟨s3.free,[fs2],0,false,false,0⟩,SB5):=by
 have t1:takeM 2 3 [⟨s2,5⟩]=([⟨s2,3⟩],false,[⟨s2.q 2,2⟩]):=by
  rw [takeM_go 2 3 ⟨s2,5⟩ [] (by decide) (by decide) (by decide)]
  rw [show ZU ⟨s2,5⟩ (mn 3 (⟨s2,5⟩:Ent).n) []=[⟨s2.q 2,2⟩] by decide,Uq _ _ _ (by decide)]
  rfl
 have hm:SB4.matched s3.free=⟨[fs2],0,false,[(11,[⟨s2.q 2,2⟩])]⟩:=by
  show ZY s3.free 1 3 [(11,[⟨s2,5⟩])]=_
  rw [ZY,if_pos (by decide)]
  simp only [show s3.free.firm=2 from rfl,t1]
  rw [if_neg (by decide)]
  rfl
 rw [add_go (by decide) hm]
 rfl
theorem srun1:Mkt.zero.add s1=([os1],⟨SB1,[]⟩):=by
 rw [madd_enter (by decide) (by decide) sadd1 rfl]
 rw [show Mkt.zero.w=[] from rfl,UX (M:=⟨SB1,[]⟩) rfl]
 rfl
theorem srun2:(Mkt.mk SB1 []).add s2=([os2],⟨SB2,[]⟩):=by
 rw [madd_enter (by decide) (by decide) sadd2 rfl,UX (M:=⟨SB2,[]⟩) rfl]
 rfl
theorem srun3:(Mkt.mk SB2 []).add s3=([os3],⟨SB2,[s3]⟩):=by
 rw [madd_wait (by decide) (by decide),show (Mkt.mk SB2 []).w++[s3]=[s3] from rfl,UX (M:=⟨SB2,[s3]⟩) (by decide)]
 rfl
theorem srun4:(Mkt.mk SB2 [s3]).add s4=([os4,os5],⟨SB5,[]⟩):=by
 have hn:(Mkt.mk SB4 [s3]).next s3=⟨SB5,[]⟩:=by
  unfold Mkt.next Bok.enter
  rw [sadd5]
  rfl
 have he:(SB4.enter s3).1=⟨s3,[fs2],0,false,false,0⟩:=by unfold Bok.enter;rw [sadd5]
 rw [madd_enter (by decide) (by decide) sadd4 rfl,JJX (M:=⟨SB4,[s3]⟩) (o:=s3) (by decide),hn,UX (M:=⟨SB5,[]⟩) rfl,he]
 rfl
theorem sinv1:InvK ⟨SB1,[]⟩:=by have:=InvK.zero.add s1;rw [srun1] at this;exact this
theorem sinv2:InvK ⟨SB2,[]⟩:=by have:=sinv1.add s2;rw [srun2] at this;exact this
theorem sinv3:InvK ⟨SB2,[s3]⟩:=by have:=sinv2.add s3;rw [srun3] at this;exact this
theorem builtS (a b c d f g h:Int):Tryz.prog.built 30 [(0,.int .i64 a),(1,.int .i64 b),(2,.int .i64 c),(3,.int .i64 d),(4,.int .i64 1),(5,.int .i64 f),(6,.int .i64 g),(8,.int .i64 h)]=some (Ord.mk a b c d 1 f g 0 h).cells.toArray:=by kernel_rfl
theorem so_any (f i s p n t:Int) (w:World):Gives 45 #[.int .i64 f,.int .i64 i,.int .i64 s,.int .i64 p,.int .i64 n,.int .i64 t] w (.eq (mkS f i s p n t).v):=by
 refine XJ ?_
 go_enter Tryz.func45,Tryz.ntmps45
 go_upto_region 0 with fail
 refine QZ 1 [.fresh w.heap.size 30 JV.cells] rfl (by kernel_rfl) ?_ ?_
 ·refine nW 1 rfl (fun a u E D hk=>⟨_,_,QW 30 JV.cells rfl zO,⟨_,rfl,hk.size,Blk.new u _ _⟩,((Keep.refl _ u).alloc _)⟩) ?_
  exact fz
 intro gv w0 hV k0
 rw [dq 1 [12]]
 simp only [Fz7]
 have hv12:(.fresh w.heap.size 30 JV.cells:Kn).p (gv 12) w0:=hV 0 12 (by kernel_rfl)
 generalize gv 12=v12 at hv12 ⊢
 clear hV
 obtain ⟨g,rfl,hg,hB⟩:=hv12
 refine Kx ?_
 have HB:=Kj hB
 have l1:=hB.lt
 clear hB
 go_upto_region 1 with fail
 refine wEp 8 [iV f,iV i,iV f,iV s,iV p,iV n,iV t,(Ord.mk f i f s 1 p n 0 t).v] [13,14,15,16,17,18,19,20] ?_ ?_
 ·refine mE 1 0 ?_
  refine mE 2 1 ?_
  refine mE 3 0 ?_
  refine mE 4 2 ?_
  refine mE 5 3 ?_
  refine mE 6 4 ?_
  refine mE 7 5 ?_
  refine sW 8 rfl (fun a u E D hk=>YJ _ [(0,.tmp 13),(1,.tmp 14),(2,.tmp 15),(3,.tmp 16),(4,.const (.int .i64 1)),(5,.tmp 17),(6,.tmp 18),(8,.tmp 19)] (Ord.mk f i f s 1 p n 0 t).cells rfl (by simp only [List.map_cons,List.map_nil];rw [show a.eval (.tmp 13)=_ from (dD D 0),show a.eval (.tmp 14)=_ from (dD D 1),show a.eval (.tmp 15)=_ from (dD D 2),show a.eval (.tmp 16)=_ from (dD D 3),show a.eval (.tmp 17)=_ from (dD D 4),show a.eval (.tmp 18)=_ from (dD D 5),show a.eval (.tmp 19)=_ from (dD D 6)];exact builtS _ _ _ _ _ _ _)) ?_
  exact fz
 intro w1 k1
 simp only [F8]
 refine Qj 30 g 30 JV.cells (Ord.mk f i f s 1 p n 0 t).cells _ _ rfl rfl (by kernel_rfl) (by kernel_rfl) (HB.out.kept k1) (by rw [Ord.len9];exact JX) (by rw [Ord.len9,Ord.len9]) (Ord.one1 _) ?_
 intro w2 hCw2 hkw2 hsw2
 simp only [Act.put]
 refine Kx ?_
 go_wp2
 refine bodyPost_ret (XZ (p:=12) rfl _ _ g _ (Ord.mk f i f s 1 p n 0 t).cells rfl hCw2 Tryz.underlying30 (by rw [Ord.len9];exact JX)) rfl ?_
 exact ⟨rfl,(k0.trans k1).trans' hkw2 (by omega)⟩
theorem madd_at (w:World) (F:Nat→Prop) (p:Nat) (M:Mkt) (o:Ord) (x:List Ot × Mkt) (hx:M.add o=x) (h:Mk w F p M) (hI:InvK M) (hn:M.b.no≤900000000000):Calls Tryz.prog 7 #[.pointer (some ⟨p,0,none⟩),o.v] w (MAddIn w F p x):=by
 rw [← hx]
 exact madd_any w F p M o h hI hn
theorem map_1 {x:Ot} {Z:List (Ot × Value)} (h:Z.map (·.1)=[x]):∃ vf,Z=[(x,vf)]:=by
 cases Z with
 | nil=>cases h
 | cons z Z=>
  rw [List.map_cons,List.cons.injEq] at h
  rw [List.map_eq_nil_iff.1 h.2,← h.1]
  exact ⟨z.2,rfl⟩
theorem map_2 {x y:Ot} {Z:List (Ot × Value)} (h:Z.map (·.1)=[x,y]):∃ vf vg,Z=[(x,vf),(y,vg)]:=by
 cases Z with
 | nil=>cases h
 | cons z Z=>
  rw [List.map_cons,List.cons.injEq] at h
  obtain ⟨vg,e⟩:=map_1 h.2
  rw [e,← h.1]
  exact ⟨z.2,vg,rfl⟩
theorem madd_frame {w0 wa wb wc:World} {F F':Nat→Prop} (k0:Kept w0 wa) (hF:∀ b,F b→w0.heap.size≤b) (k1:Kept wa wb) (hk:Keep F wb wc) (hG:Grow wb F F'):Kept w0 wc∧∀ b,F' b→w0.heap.size≤b:=
 ⟨Keep.trans (S:=fun _=>False) (T:=F) (k0.trans k1) hk (fun b hb h=>by have:=hF b h;omega),fun b hb=>(hG b hb).elim (hF b) (fun h=>by have:=k0.size;have:=k1.size;omega)⟩
theorem stopsRuns_any (w:World):Calls Tryz.prog 15 #[] w fun e w'=>e=.returned (.bool true)∧Kept w w':=by
 go_enter Tryz.func15,Tryz.ntmps15
 go_upto_region 1 with fail
 refine wp_region_lit ?_
 refine Yz 4 #[] rfl (Jq 4 _ [] _ _ Tryz.func4 (by kernel_rfl) (by kernel_rfl) rfl (by kernel_rfl) _) ?_
 refine (mnew_any w).mono ?_
 rintro r w1 ⟨p,F1,rfl,hM1,hG1,k1⟩
 refine ⟨_,rfl,?_⟩
 simp only [Act.put,sA,sS,sZ]
 refine Jx (.pointer (some ⟨p,0,none⟩)) rfl (JQ _ _ rfl (by kernel_rfl)) ?_
 simp only [Act.put,sA,sS,sZ]
 refine Kx ?_
 have hF1:∀ b,F1 b→w.heap.size≤b:=fun b hb=>(hG1 b hb).elim (fun h=>h.elim) id
 go_upto_region 4 with fail
 refine wp_region_lit ?_
 refine Jx (.pointer (some ⟨p,0,none⟩)) rfl (Jj _ _ rfl (by kernel_rfl)) ?_
 simp only [Act.put,sA,sS,sZ]
 refine Yz 45 #[.int .i64 1,.int .i64 1,.int .i64 2,.int .i64 10,.int .i64 5,.int .i64 0] rfl (Jq 45 _ [.const (.int .i64 1),.const (.int .i64 1),.const (.int .i64 2),.const (.int .i64 10),.const (.int .i64 5),.const (.int .i64 0)] _ _ Tryz.func45 (by kernel_rfl) (by kernel_rfl) rfl (by kernel_rfl) _) ?_
 refine (so_any 1 1 2 10 5 0 w1).mono ?_
 rintro r w2 ⟨_,rfl,rfl,kw2⟩
 refine ⟨_,rfl,?_⟩
 simp only [Act.put,sA,sS,sZ]
 refine Yz 7 #[.pointer (some ⟨p,0,none⟩),s1.v] rfl (Jq 7 _ [.tmp 7,.tmp 8] _ _ Tryz.func7 (by kernel_rfl) (by kernel_rfl) rfl (by kernel_rfl) _) ?_
 refine (madd_at w2 F1 p Mkt.zero s1 _ srun1 (hM1.kept kw2) InvK.zero (by decide)).mono ?_
 rintro r w3 ⟨F3,v1,Z1,rfl,hM3,hOw3,hGw3,hkw3⟩
 refine ⟨_,rfl,?_⟩
 simp only [Act.put,sA,sS,sZ]
 refine Kx ?_
 obtain ⟨kw3,hF3⟩:=madd_frame k1 hF1 kw2 hkw3 hGw3
 clear hM1 hG1 hF1 k1 kw2 hGw3 hkw3 hOw3
 go_upto_region 5 with fail
 refine wp_region_lit ?_
 refine Jx (.pointer (some ⟨p,0,none⟩)) rfl (Jj _ _ rfl (by kernel_rfl)) ?_
 simp only [Act.put,sA,sS,sZ]
 refine Yz 45 #[.int .i64 1,.int .i64 2,.int .i64 2,.int .i64 11,.int .i64 5,.int .i64 0] rfl (Jq 45 _ [.const (.int .i64 1),.const (.int .i64 2),.const (.int .i64 2),.const (.int .i64 11),.const (.int .i64 5),.const (.int .i64 0)] _ _ Tryz.func45 (by kernel_rfl) (by kernel_rfl) rfl (by kernel_rfl) _) ?_
 refine (so_any 1 2 2 11 5 0 w3).mono ?_
 rintro r w4 ⟨_,rfl,rfl,kw4⟩
 refine ⟨_,rfl,?_⟩
 simp only [Act.put,sA,sS,sZ]
 refine Yz 7 #[.pointer (some ⟨p,0,none⟩),s2.v] rfl (Jq 7 _ [.tmp 10,.tmp 11] _ _ Tryz.func7 (by kernel_rfl) (by kernel_rfl) rfl (by kernel_rfl) _) ?_
 refine (madd_at w4 F3 p ⟨SB1,[]⟩ s2 _ srun2 (hM3.kept kw4) sinv1 (by decide)).mono ?_
 rintro r w5 ⟨F5,v2,Z2,rfl,hM5,hOw5,hGw5,hkw5⟩
 refine ⟨_,rfl,?_⟩
 simp only [Act.put,sA,sS,sZ]
 refine Kx ?_
 obtain ⟨kw5,hF5⟩:=madd_frame kw3 hF3 kw4 hkw5 hGw5
 clear hM3 hF3 kw3 kw4 hGw5 hkw5 hOw5
 go_upto_region 6 with fail
 refine wp_region_lit ?_
 refine Jx (.pointer (some ⟨p,0,none⟩)) rfl (Jj _ _ rfl (by kernel_rfl)) ?_
 simp only [Act.put,sA,sS,sZ]
 refine Yz 45 #[.int .i64 2,.int .i64 1,.int .i64 1,.int .i64 12,.int .i64 3,.int .i64 10] rfl (Jq 45 _ [.const (.int .i64 2),.const (.int .i64 1),.const (.int .i64 1),.const (.int .i64 12),.const (.int .i64 3),.const (.int .i64 10)] _ _ Tryz.func45 (by kernel_rfl) (by kernel_rfl) rfl (by kernel_rfl) _) ?_
 refine (so_any 2 1 1 12 3 10 w5).mono ?_
 rintro r w6 ⟨_,rfl,rfl,kw6⟩
 refine ⟨_,rfl,?_⟩
 simp only [Act.put,sA,sS,sZ]
 refine Yz 7 #[.pointer (some ⟨p,0,none⟩),s3.v] rfl (Jq 7 _ [.tmp 13,.tmp 14] _ _ Tryz.func7 (by kernel_rfl) (by kernel_rfl) rfl (by kernel_rfl) _) ?_
 refine (madd_at w6 F5 p ⟨SB2,[]⟩ s3 _ srun3 (hM5.kept kw6) sinv2 (by decide)).mono ?_
 rintro r w7 ⟨F7,v3,Z3,rfl,hM7,hOw7,hGw7,hkw7⟩
 refine ⟨_,rfl,?_⟩
 simp only [Act.put,sA,sS,sZ]
 refine Jx (v3) rfl (JQ _ _ rfl (by kernel_rfl)) ?_
 simp only [Act.put,sA,sS,sZ]
 refine Kx ?_
 obtain ⟨kw7,hF7⟩:=madd_frame kw5 hF5 kw6 hkw7 hGw7
 have z7:=kw7.size
 have hl7:=hM7.lt
 clear hM5 hF5 kw5 kw6 hGw7 hkw7
 go_upto_region 7 with fail
 refine wp_region_lit ?_
 refine Jx (.pointer (some ⟨p,0,none⟩)) rfl (Jj _ _ rfl (by kernel_rfl)) ?_
 simp only [Act.put,sA,sS,sZ]
 refine Yz 45 #[.int .i64 3,.int .i64 1,.int .i64 1,.int .i64 10,.int .i64 5,.int .i64 0] rfl (Jq 45 _ [.const (.int .i64 3),.const (.int .i64 1),.const (.int .i64 1),.const (.int .i64 10),.const (.int .i64 5),.const (.int .i64 0)] _ _ Tryz.func45 (by kernel_rfl) (by kernel_rfl) rfl (by kernel_rfl) _) ?_
 refine (so_any 3 1 1 10 5 0 w7).mono ?_
 rintro r w8 ⟨_,rfl,rfl,kw8⟩
 refine ⟨_,rfl,?_⟩
 simp only [Act.put,sA,sS,sZ]
 refine Yz 7 #[.pointer (some ⟨p,0,none⟩),s4.v] rfl (Jq 7 _ [.tmp 16,.tmp 17] _ _ Tryz.func7 (by kernel_rfl) (by kernel_rfl) rfl (by kernel_rfl) _) ?_
 refine (madd_at w8 F7 p ⟨SB2,[s3]⟩ s4 _ srun4 (hM7.kept kw8) sinv3 (by decide)).mono ?_
 rintro r w9 ⟨F9,v4,Z4,rfl,hM9,hOw9,hGw9,hkw9⟩
 refine ⟨_,rfl,?_⟩
 simp only [Act.put,sA,sS,sZ]
 refine Jx (v4) rfl (JQ _ _ rfl (by kernel_rfl)) ?_
 simp only [Act.put,sA,sS,sZ]
 refine Kx ?_
 obtain ⟨kw9,hF9⟩:=madd_frame kw7 hF7 kw8 hkw9 hGw9
 have hO3:=(hOw7.kept kw8).keep hkw9 (fun b _ h _=>h)
 obtain ⟨vf3,rfl⟩:=map_1 hO3.eq
 obtain ⟨vf4,vf5,rfl⟩:=map_2 hOw9.eq
 obtain ⟨g3,o3,c3,rfl⟩:=hO3.sl.some_ (Nat.succ_pos _)
 obtain ⟨g4,o4,c4,rfl⟩:=hOw9.sl.some_ (Nat.succ_pos _)
 have hf4:Sl w9 77 21 vf4 1 (fls [fs1]):=hOw9.fl (os4,vf4) (by simp)
 have hf5:Sl w9 77 21 vf5 1 (fls [fs2]):=hOw9.fl (os5,vf5) (by simp)
 obtain ⟨j4,i4,d4,rfl⟩:=hf4.some_ (by decide)
 obtain ⟨j5,i5,d5,rfl⟩:=hf5.some_ (by decide)
 have H3:Hid (w9.rangeAt g3 o3 (os3.cells vf3)):=by have:=hO3.sl.rngC 0 (os3,vf3) rfl;rw [Nat.zero_mul,Nat.add_zero] at this;exact this
 have H4:Hid (w9.rangeAt g4 o4 (os4.cells (.slice (some ⟨j4,i4,none⟩) 1 d4))):=by have:=hOw9.sl.rngC 0 (os4,_) rfl;rw [Nat.zero_mul,Nat.add_zero] at this;exact this
 have H5:Hid (w9.rangeAt g4 (o4+1*15) (os5.cells (.slice (some ⟨j5,i5,none⟩) 1 d5))):=hOw9.sl.rngC 1 (os5,_) rfl
 have HF4:Hid (w9.rangeAt j4 i4 fs1.cells):=by have:=hf4.rngF 0 fs1 rfl;rw [Nat.zero_mul,Nat.add_zero] at this;exact this
 have HF5:Hid (w9.rangeAt j5 i5 fs2.cells):=by have:=hf5.rngF 0 fs2 rfl;rw [Nat.zero_mul,Nat.add_zero] at this;exact this
 have HM9:=Kj hM9
 clear hO3 hOw9 hOw7 hf4 hf5 hM7 hM9 hF7 hF9 hl7 kw7 kw8 hGw9 hkw9 z7
 go_upto_region 8 with fail
 refine wE 31 [.slice (some ⟨g3,o3,none⟩) 1 c3,iV (1:Int),bV false,bV false,.slice (some ⟨g3,o3,none⟩) 1 c3,pV g3 o3,pV g3 (o3+12),bV true,bV false,bV false,bV false,.slice (some ⟨g4,o4,none⟩) 2 c4,iV (2:Int),bV false,bV false,bV false,.slice (some ⟨g4,o4,none⟩) 2 c4,pV g4 o4,pV g4 (o4+9),.slice (some ⟨j4,i4,none⟩) 1 d4,iV (1:Int),bV false,bV false,bV false,.slice (some ⟨g4,o4,none⟩) 2 c4,pV g4 (o4+1*15),pV g4 (o4+1*15+9),.slice (some ⟨j5,i5,none⟩) 1 d5,iV (1:Int),bV false,bV false] [19,20,21,22,23,24,25,26,27,28,29,30,31,32,33,34,35,36,37,38,39,40,41,42,43,44,45,46,47,48,49] ?_ ?_
 ·refine mE 1 2 ?_
  refine sW 2 rfl (fun a u E D hk=>ZZ _ _ _ slC.und (some ⟨g3,o3,none⟩) 1 c3 rfl (dD D 0)) ?_
  refine aS 3 rfl (fun a u E D hk=>YZ rfl (dD D 1) rfl) rfl ?_
  refine mD 4 21 2 ?_
  refine mE 5 2 ?_
  refine sW 6 rfl (fun a u E D hk=>Jz slC _ _ (g3) (o3) 1 c3 0 (o3) (0) rfl (dD D 4) rfl (by first | rfl | omega) ((by omega)) (by first | rfl | omega)) ?_
  refine fD 7 24 5 58 4 12 o3 ?_
  refine sW 8 rfl (fun a u E D hk=>UY _ Tryz.underlying4 _ _ _ rfl (dD D 6) ((JJ H3.out hk) 12 _ rfl)) ?_
  refine sW 9 rfl (fun a u E D hk=>Yj _ _ true rfl (dD D 7)) ?_
  refine sW 10 rfl (fun a u E D hk=>Zj _ _ _ _ rfl (dD D 3) (dD D 8)) ?_
  refine mD 11 28 9 ?_
  refine mE 12 3 ?_
  refine sW 13 rfl (fun a u E D hk=>ZZ _ _ _ slC.und (some ⟨g4,o4,none⟩) 2 c4 rfl (dD D 11)) ?_
  refine aS 14 rfl (fun a u E D hk=>YZ rfl (dD D 12) rfl) rfl ?_
  refine sW 15 rfl (fun a u E D hk=>Zj _ _ _ _ rfl (dD D 10) (dD D 13)) ?_
  refine mD 16 33 14 ?_
  refine mE 17 3 ?_
  refine sW 18 rfl (fun a u E D hk=>Jz slC _ _ (g4) (o4) 2 c4 0 (o4) (0) rfl (dD D 16) rfl (by first | rfl | omega) ((by omega)) (by first | rfl | omega)) ?_
  refine fD 19 36 17 58 1 9 o4 ?_
  refine sW 20 rfl (fun a u E D hk=>Jy _ _ Tryz.underlying55 _ _ _ rfl (dD D 18) ((JJ (H4.out) hk) 9 _ rfl)) ?_
  refine sW 21 rfl (fun a u E D hk=>ZZ _ _ _ slF.und (some ⟨j4,i4,none⟩) 1 d4 rfl (dD D 19)) ?_
  refine aS 22 rfl (fun a u E D hk=>YZ rfl (dD D 20) rfl) rfl ?_
  refine sW 23 rfl (fun a u E D hk=>Zj _ _ _ _ rfl (dD D 15) (dD D 21)) ?_
  refine mD 24 41 22 ?_
  refine mE 25 3 ?_
  refine sW 26 rfl (fun a u E D hk=>Jz slC _ _ (g4) (o4) 2 c4 1 (o4+1*15) (1) rfl (dD D 24) rfl (by first | rfl | omega) ((by omega)) (by first | rfl | omega)) ?_
  refine fD 27 44 25 58 1 9 (o4+1*15) ?_
  refine sW 28 rfl (fun a u E D hk=>Jy _ _ Tryz.underlying55 _ _ _ rfl (dD D 26) ((JJ (H5.out) hk) 9 _ rfl)) ?_
  refine sW 29 rfl (fun a u E D hk=>ZZ _ _ _ slF.und (some ⟨j5,i5,none⟩) 1 d5 rfl (dD D 27)) ?_
  refine aS 30 rfl (fun a u E D hk=>YZ rfl (dD D 28) rfl) rfl ?_
  refine sW 31 rfl (fun a u E D hk=>Zj _ _ _ _ rfl (dD D 23) (dD D 29)) ?_
  exact fz
 intro wa ka
 simp only [F8]
 have kwa:=kw9.trans ka
 have H4a:=Kj (JJ H4.out ka)
 have H5a:=Kj (JJ H5.out ka)
 have HF4a:=Kj (JJ HF4.out ka)
 have HF5a:=Kj (JJ HF5.out ka)
 have HMa:=Kj (HM9.out.kept ka)
 clear H3 H4 H5 HF4 HF5 HM9 ka kw9
 go_upto_region 10 with fail
 refine wF 50 [.eq (.slice (some ⟨g4,o4,none⟩) 2 c4),pE g4 o4,pE g4 (o4+9),.eq (.slice (some ⟨j4,i4,none⟩) 1 d4),pE j4 i4,pE j4 (i4+18),iE fs1.price,bE true,bE true,.eq (.slice (some ⟨g4,o4,none⟩) 2 c4),pE g4 o4,pE g4 (o4+10),iE os4.c.left,bE true,bE true,bE true,.eq (.slice (some ⟨g4,o4,none⟩) 2 c4),pE g4 (o4+1*15),pE g4 (o4+1*15),.eq (os5.c.o.v),.eq (s3.v),bE true,bE true,bE true,.eq (.slice (some ⟨g4,o4,none⟩) 2 c4),pE g4 (o4+1*15),pE g4 (o4+1*15+9),.eq (.slice (some ⟨j5,i5,none⟩) 1 d5),pE j5 i5,pE j5 (i5+18),iE fs2.price,bE true,bE true,bE true,.eq (.slice (some ⟨g4,o4,none⟩) 2 c4),pE g4 (o4+1*15),pE g4 (o4+1*15+9),.eq (.slice (some ⟨j5,i5,none⟩) 1 d5),pE j5 i5,pE j5 (i5+19),iE fs2.qty,bE true,bE true,bE true,pE p 0,.sl wa.heap.size 30 9 0 (ords []),iE (0:Int),bE true,bE true,bE true] [50,51,52,53,54,55,56,57,58,59,60,61,62,63,64,65,66,67,68,69,70,71,72,73,74,75,76,77,78,79,80,81,82,83,84,85,86,87,88,89,90,91,92,93,94,95,96,97,98,0] ?_ ?_
 ·refine mE 1 3 ?_
  refine sW 2 rfl (fun a u E D hk=>Jz slC _ _ (g4) (o4) 2 c4 0 (o4) (0) rfl (dD D 0) rfl (by first | rfl | omega) ((by omega)) (by first | rfl | omega)) ?_
  refine fD 3 51 1 58 1 9 o4 ?_
  refine sW 4 rfl (fun a u E D hk=>Jy _ _ Tryz.underlying55 _ _ _ rfl (dD D 2) ((JJ (H4a.out) hk) 9 _ rfl)) ?_
  refine sW 5 rfl (fun a u E D hk=>Jz slF _ _ (j4) (i4) 1 d4 0 (i4) (0) rfl (dD D 3) rfl (by first | rfl | omega) ((by omega)) (by first | rfl | omega)) ?_
  refine fD 6 54 4 77 2 18 i4 ?_
  refine lD 7 55 5 Tryz.underlying3 (fun u hk=>JY (JJ HF4a.out hk) 18 _ rfl) ?_
  refine aS 8 rfl (fun a u E D hk=>JU rfl (dD D 6) rfl) rfl ?_
  refine mD 9 57 7 ?_
  refine mE 10 3 ?_
  refine sW 11 rfl (fun a u E D hk=>Jz slC _ _ (g4) (o4) 2 c4 0 (o4) (0) rfl (dD D 9) rfl (by first | rfl | omega) ((by omega)) (by first | rfl | omega)) ?_
  refine fD 12 60 10 58 2 10 o4 ?_
  refine lD 13 61 11 Tryz.underlying3 (fun u hk=>(JJ (H4a.out) hk) 10 _ rfl) ?_
  refine aS 14 rfl (fun a u E D hk=>JU rfl (dD D 12) rfl) rfl ?_
  refine pT 15 58 63 8 13 ?_
  refine mD 16 64 14 ?_
  refine mE 17 3 ?_
  refine sW 18 rfl (fun a u E D hk=>Jz slC _ _ (g4) (o4) 2 c4 1 (o4+1*15) (1) rfl (dD D 16) rfl (by first | rfl | omega) ((by omega)) (by first | rfl | omega)) ?_
  refine fD 19 67 17 58 0 0 (o4+1*15) ?_
  refine sD 20 68 18 os5.c.o.cells Tryz.underlying30 (fun u hk=>ot_ord (JJ (H5a.out) hk)) (by rw [Ord.len9];exact JX) ?_
  refine cS 21 45 [.int .i64 2,.int .i64 1,.int .i64 1,.int .i64 12,.int .i64 3,.int .i64 10] rfl Tryz.func45 rfl (fun a u E D hk=>⟨ll rfl (ll rfl (ll rfl (ll rfl (ll rfl (ll rfl rfl))))),so_any 2 1 1 12 3 10 u⟩) ?_
  refine sW 22 rfl (fun a u E D hk=>exec_eqOb' true _ _ _ s3 s3 rfl (dD D 19) (dD D 20) (by decide)) ?_
  refine pT 23 65 71 15 21 ?_
  refine mD 24 72 22 ?_
  refine mE 25 3 ?_
  refine sW 26 rfl (fun a u E D hk=>Jz slC _ _ (g4) (o4) 2 c4 1 (o4+1*15) (1) rfl (dD D 24) rfl (by first | rfl | omega) ((by omega)) (by first | rfl | omega)) ?_
  refine fD 27 75 25 58 1 9 (o4+1*15) ?_
  refine sW 28 rfl (fun a u E D hk=>Jy _ _ Tryz.underlying55 _ _ _ rfl (dD D 26) ((JJ (H5a.out) hk) 9 _ rfl)) ?_
  refine sW 29 rfl (fun a u E D hk=>Jz slF _ _ (j5) (i5) 1 d5 0 (i5) (0) rfl (dD D 27) rfl (by first | rfl | omega) ((by omega)) (by first | rfl | omega)) ?_
  refine fD 30 78 28 77 2 18 i5 ?_
  refine lD 31 79 29 Tryz.underlying3 (fun u hk=>JY (JJ HF5a.out hk) 18 _ rfl) ?_
  refine aS 32 rfl (fun a u E D hk=>JU rfl (dD D 30) rfl) rfl ?_
  refine pT 33 73 81 23 31 ?_
  refine mD 34 82 32 ?_
  refine mE 35 3 ?_
  refine sW 36 rfl (fun a u E D hk=>Jz slC _ _ (g4) (o4) 2 c4 1 (o4+1*15) (1) rfl (dD D 34) rfl (by first | rfl | omega) ((by omega)) (by first | rfl | omega)) ?_
  refine fD 37 85 35 58 1 9 (o4+1*15) ?_
  refine sW 38 rfl (fun a u E D hk=>Jy _ _ Tryz.underlying55 _ _ _ rfl (dD D 36) ((JJ (H5a.out) hk) 9 _ rfl)) ?_
  refine sW 39 rfl (fun a u E D hk=>Jz slF _ _ (j5) (i5) 1 d5 0 (i5) (0) rfl (dD D 37) rfl (by first | rfl | omega) ((by omega)) (by first | rfl | omega)) ?_
  refine fD 40 88 38 77 3 19 i5 ?_
  refine lD 41 89 39 Tryz.underlying3 (fun u hk=>JY (JJ HF5a.out hk) 19 _ rfl) ?_
  refine aS 42 rfl (fun a u E D hk=>JU rfl (dD D 40) rfl) rfl ?_
  refine pT 43 83 91 33 41 ?_
  refine mD 44 92 42 ?_
  refine mE 45 1 ?_
  refine cS 46 38 [.pointer (some ⟨p,0,none⟩)] rfl Tryz.func38 rfl (fun a u E D hk=>⟨ll (dD D 44) rfl,(waiting_any u F9 p ⟨SB5,[]⟩ (HMa.out.kept hk) (by decide)).base hk.size⟩) ?_
  refine sW 47 rfl (fun a u E D hk=>Qq _ slO _ _ _ _ rfl rfl (D 45 95 (by kernel_rfl)).1) ?_
  refine aS 48 rfl (fun a u E D hk=>JU rfl (dD D 46) rfl) rfl ?_
  refine pT 49 93 97 43 47 ?_
  refine mD 50 98 48 ?_
  exact fz
 intro gv wb hV kb
 simp only [Fz7]
 rw [gQ hV 49 0 (.bool true)]
 clear hV
 go_wp2
 go_ret
 exact ⟨rfl,kwa.trans kb⟩
structure Twin (w0 wr:World) (p r:Nat) (F G:Nat→Prop) (M C:Mkt):Prop where
 x:Mk wr F p M
 y:RMk wr G r C
 fg:∀ c,F c→¬ G c
 f0:∀ c,F c→w0.heap.size≤c
 g0:∀ c,G c→w0.heap.size≤c
 k:Kept w0 wr
section
variable {w0 wr w':World} {p r:Nat} {F F' G G':Nat→Prop} {M M' C C':Mkt}
theorem Twin.kept (h:Twin w0 wr p r F G M C) (hk:Kept wr w'):Twin w0 w' p r F G M C:=⟨h.x.kept hk,h.y.kept hk,h.fg,h.f0,h.g0,h.k.trans hk⟩
theorem Twin.stepX (h:Twin w0 wr p r F G M C) (hx:Mk w' F' p M') (hg:Grow wr F F') (hk:Keep F wr w'):Twin w0 w' p r F' G M' C:=by
 have hs:=h.k.size
 refine ⟨hx,h.y.keep hk (fun c hc hF=>h.fg c hF hc),fun c hF hG=>?_,fun c hF=>?_,h.g0,Keep.trans h.k hk (fun c hc hF=>by have:=h.f0 c hF;omega)⟩
 ·rcases hg c hF with h1 | h1
  ·exact h.fg c h1 hG
  have:=h.y.lt c hG;omega
 rcases hg c hF with h1 | h1
 ·exact h.f0 c h1
 omega
theorem Twin.stepY (h:Twin w0 wr p r F G M C) (hy:RMk w' G' r C') (hg:Grow wr G G') (hk:Keep G wr w'):Twin w0 w' p r F G' M C':=by
 have hs:=h.k.size
 refine ⟨h.x.keep hk (fun c hc hG=>h.fg c hc hG),hy,fun c hF hG=>?_,h.f0,fun c hG=>?_,Keep.trans h.k hk (fun c hc hG=>by have:=h.g0 c hG;omega)⟩
 ·rcases hg c hG with h1 | h1
  ·exact h.fg c hF h1
  have:=h.x.lt c hF;omega
 rcases hg c hG with h1 | h1
 ·exact h.g0 c h1
 omega
end
structure Beside (w:World) (F G:Nat→Prop) (g:Nat) (T:TypeId) (cs:List Value):Prop where
 blk:Blk w g T cs
 nf:¬ F g
 ng:¬ G g
section
variable {w w':World} {F F' G G':Nat→Prop} {g:Nat} {T:TypeId} {cs:List Value}
theorem Beside.kept (h:Beside w F G g T cs) (hk:Kept w w'):Beside w' F G g T cs:=⟨h.blk.kept hk,h.nf,h.ng⟩
theorem Beside.stepX (h:Beside w F G g T cs) (hg:Grow w F F') (hk:Keep F w w'):Beside w' F' G g T cs:=⟨h.blk.keep hk h.nf,fun e=>(hg g e).elim h.nf (fun e=>by have:=h.blk.lt;omega),h.ng⟩
theorem Beside.stepY (h:Beside w F G g T cs) (hg:Grow w G G') (hk:Keep G w w'):Beside w' F G' g T cs:=⟨h.blk.keep hk h.ng,h.nf,fun e=>(hg g e).elim h.ng (fun e=>by have:=h.blk.lt;omega)⟩
end
theorem enter_fills {B:Bok} {o:Ord} (h:Inv B):(B.enter o).1.f.length≤1000000+48576:=by
 show (B.add o.free).1.f.length≤_
 by_cases he:B.err o.free=0
 ·have ha:=add_is h he
  have h1:=ha.few
  have h2:=JJZ ha.rt
  rw [ha.oc]
  simp only
  omega
 rw [yx he]
 simp
theorem cas_fills:∀ (n:Nat) (M:Mkt),M.w.length≤n→InvK M→∀ x ∈ M.cas.1,x.c.f.length≤2000000
 | 0,M,hn,h=>by
  rw [UX (List.getElem?_eq_none (by omega))]
  intro x hx
  cases hx
 | n+1,M,hn,h=>by
  cases e:M.w[M.trig]? with
  | none=>rw [UX e];intro x hx;cases hx
  | some o=>
   rw [JJX e]
   have hl:=(List.getElem?_eq_some_iff.1 e).1
   have hle:(M.next o).w.length=M.w.length-1:=by unfold Mkt.next;simp only;rw [List.length_eraseIdx,if_pos hl]
   intro x hx
   rcases List.mem_cons.1 hx with rfl | hx
   ·have:=enter_fills (o:=o) h.inv
    simp only
    omega
   exact cas_fills n (M.next o) (by omega) (h.next e) x hx
theorem add_fills {M:Mkt} (h:InvK M) (o:Ord):(∀ x ∈ (M.add o).1,x.c.f.length≤2000000)∧(M.add o).1.length≤1000000:=by
 have ha:(M.arrive o).1.c.f.length≤2000000:=by
  unfold Mkt.arrive
  split
  ·simp
  split
  ·simp
  have:=enter_fills (o:=o) h.inv
  simp only
  omega
 have hI:=h.arrive o
 have hf:=hI.few
 unfold Mkt.add
 split
 ·exact ⟨fun x hx=>by simp at hx;rw [hx];exact ha,by simp⟩
 refine ⟨fun x hx=>?_,?_⟩
 ·rcases List.mem_cons.1 hx with rfl | hx
  ·exact ha
  exact cas_fills _ _ (Nat.le_refl _) hI x hx
 have:=cas_len _ (M.arrive o).2 (Nat.le_refl _)
 simp only [List.length_cons]
 omega
theorem remove_last (B:Bok) (t i:Int):(B.remove t i).2.2.last=B.last:=by
 unfold Bok.remove
 split
 ·rfl
 split <;> rfl
theorem Quiet.remove {M:Mkt} (h:Quiet M) (t i:Int):Quiet (M.remove t i).2.2:=by
 unfold Mkt.remove
 by_cases hb:(M.b.remove t i).2.1=true
 ·rw [if_pos hb]
  intro o ho
  show o.hit (M.b.remove t i).2.2.last=false
  rw [remove_last]
  exact h o ho
 rw [if_neg hb]
 cases e:M.w[M.w.findIdx (Ord.is t i)]? with
 | none=>exact h
 | some o=>exact fun x hx=>h x (List.mem_of_mem_eraseIdx hx)
theorem Quiet.zero:Quiet Mkt.zero:=fun o ho=>by cases ho
theorem stopsPlays_any (v:Value) (l:List Sq) (w:World) (hl:Sqs w v l):Calls Tryz.prog 3 #[v] w fun e w'=>e=.returned (.bool true)∧Kept w w':=by
 have HA:=Kj hl
 obtain ⟨A,n,c,rfl,hn,hm⟩:∃ A n c,v=.slice A n c∧l.length=n∧n≤maxLen:=by
  obtain ⟨A,n,c,h1,h2,_,h3,_⟩:=hl
  exact ⟨A,n,c,h1,h2,h3⟩
 clear hl
 unfold maxLen at hm
 have HN:=Kj hn
 clear hn
 go_enter Tryz.func3,Tryz.ntmps3
 go_upto_region 1 with fail
 refine wp_region_lit ?_
 refine Yz 4 #[] rfl (Jq 4 _ [] _ _ Tryz.func4 (by kernel_rfl) (by kernel_rfl) rfl (by kernel_rfl) _) ?_
 refine (mnew_any w).mono ?_
 rintro r0 w1 ⟨p,F0,rfl,hL1,hG1,k1⟩
 refine ⟨_,rfl,?_⟩
 simp only [Act.put,sA,sS,sZ]
 refine Yz 5 #[] rfl (Jq 5 _ [] _ _ Tryz.func5 (by kernel_rfl) (by kernel_rfl) rfl (by kernel_rfl) _) ?_
 refine (rmnew_any w1).mono ?_
 rintro r0 w2 ⟨r,G0,rfl,hL2,hG2,k2⟩
 refine ⟨_,rfl,?_⟩
 simp only [Act.put,sA,sS,sZ]
 refine Jx (.pointer (some ⟨p,0,none⟩)) rfl (JQ _ _ rfl (by kernel_rfl)) ?_
 simp only [Act.put,sA,sS,sZ]
 refine Jx (.pointer (some ⟨r,0,none⟩)) rfl (JQ _ _ rfl (by kernel_rfl)) ?_
 simp only [Act.put,sA,sS,sZ]
 refine Kx ?_
 have HD0:Hid (Twin w w2 p r F0 G0 Mkt.zero Mkt.zero):=by
  have z1:=k1.size
  refine ⟨hL1.kept k2,hL2,fun c hc hd=>?_,fun c hc=>(hG1 c hc).elim (fun h=>h.elim) id,fun c hc=>(hG2 c hc).elim (fun h=>h.elim) (fun h=>by omega),k1.trans k2⟩
  have h1:=hL1.lt c hc
  exact (hG2 c hd).elim (fun h=>h.elim) (fun h=>by omega)
 clear hL1 hG1 k1 hL2 hG2 k2
 go_upto_region 2 with fail
 refine wE 2 [pV p 0,bV false] [18,19] ?_ ?_
 ·refine mE 1 3 ?_
  refine sW 2 rfl (fun a u E D hk=>exec_eqP _ _ _ ⟨p,0,none⟩ (by kernel_rfl) rfl (dD D 0)) ?_
  exact fz
 intro wz kz
 simp only [F8]
 have HDz:=Kj (HD0.out.kept kz)
 clear HD0 kz
 go_wp2_with fail
 go_loopw [5] (fun t wr=>∃ (i:Nat) (F G:Nat→Prop) (M:Mkt),t=.int .i64 (i:Int)∧i≤60∧i≤n∧Hid (Twin w wr p r F G M M)∧Hid (InvK M)∧Hid (Quiet M)∧Hid (M.b.no≤70000000*(i:Int))) (fun t _=>60-(intOf t).toNat)
 case atStart=>exact ⟨0,F0,G0,Mkt.zero,rfl,by omega,by omega,HDz,InvK.zero,Quiet.zero,by show _≤_;simp [Mkt.zero,Bok.zero]⟩
 obtain ⟨i,F,G,M,rfl,hi,hin,HD,HI,HQu,HNo⟩:=hrel
 by_cases hlt:i<n∧i<60
 ·obtain ⟨hin',hi60⟩:=hlt
  have hil:i<l.length:=by rw [HN.out];exact hin'
  obtain ⟨q,hq⟩:∃ q,l[i]?=some q:=⟨_,List.getElem?_eq_getElem hil⟩
  obtain ⟨A',n',c',e1,_,_,_,h4⟩:=HA.out
  injection e1 with e1 e2 e3
  subst e1 e2 e3
  obtain ⟨gl,off,rfl,hr⟩:=h4 i q hq
  have HE:=Kj (JJ hr HD.out.k)
  have HNB:Hid (M.b.no≤900000000000):=by show _≤_;have:=HNo.out;omega
  clear h4 hr hq hil
  go_upto_region 7 with fail
  refine QZ 5 [.eq (.slice (some ⟨gl,off,none⟩) n c),iE (i:Int),pE gl (off+i*19),.eq (q.v),.fresh wr.heap.size 32 zeroSq.cells] rfl (by kernel_rfl) ?_ ?_
  ·refine mE 1 0 ?_
   refine mE 2 5 ?_
   refine sW 3 rfl (fun a u E D hk=>Jz slSq _ _ (gl) (off) n c i (off+i*19) ((i:Int)) rfl (dD D 0) (dD D 1) (by first | rfl | omega) (hin') (by first | rfl | omega)) ?_
   refine sD 4 32 2 q.cells Tryz.underlying32 (fun u hk=>JJ HE.out hk) (by rw [q.len19];exact szSq) ?_
   refine nW 5 rfl (fun a u E D hk=>⟨_,_,QW 32 zeroSq.cells rfl zSq,⟨_,rfl,hk.size,Blk.new u _ _⟩,((Keep.refl _ u).alloc _)⟩) ?_
   exact fz
  intro gv w3 hV k3
  rw [dq 5 [30,31,32,33,6]]
  simp only [Fz7]
  have hv6:(.fresh wr.heap.size 32 zeroSq.cells:Kn).p (gv 6) w3:=hV 4 6 (by kernel_rfl)
  generalize gv 6=v6 at hv6 ⊢
  rw [gQ hV 3 33 q.v]
  clear hV
  obtain ⟨g6,rfl,hg6,hB6⟩:=hv6
  refine Qj 32 g6 32 zeroSq.cells q.cells _ _ rfl rfl (by kernel_rfl) (by kernel_rfl) hB6 (by rw [Sq.len19];exact szSq) (by rw [Sq.len19,Sq.len19]) (Sq.one _) ?_
  intro w4 hB4 hk4 hs4
  simp only [Act.put]
  refine Kx ?_
  have k34:Kept wr w4:=k3.trans' hk4 (by omega)
  have HD4:=Kj (HD.out.kept k34)
  have HQ4:Hid (Beside w4 F G g6 32 q.cells):=⟨hB4,fun h=>by have:=HD.out.x.lt g6 h;omega,fun h=>by have:=HD.out.y.lt g6 h;omega⟩
  have HNi:=HNo
  clear hB6 hB4 hk4 hs4 k3 k34 HD HE HNo
  have HNo:=HNB
  clear HNB
  go_upto_region 9 with fail
  have HQR4:=Kj (JW HQ4.out.blk)
  refine wE 2 [pV g6 0,iV q.k] [34,35] ?_ ?_
  ·refine fE 1 6 32 0 0 0 ?_
   refine lD 2 34 0 Tryz.underlying3 (fun u hk=>JY (JJ HQR4.out hk) 0 _ rfl) ?_
   exact fz
  intro w5 k5
  simp only [F8]
  have HD5:=Kj (HD4.out.kept k5)
  have HQ5:=Kj (HQ4.out.kept k5)
  clear HD4 HQ4 HQR4 k5
  go_upto_block 2 with fail
  go_cut [7,9,11,36,49,77] (fun ok _ _ _ _ _ wx=>ok=.bool true∧∃ F' G' M',Hid (Twin w wx p r F' G' M' M')∧Hid (InvK M')∧Hid (Quiet M')∧Hid (M'.b.no≤M.b.no+70000000)∧Hid (Beside wx F' G' g6 32 q.cells))
  case first=>
   by_cases hk1:q.k=1
   ·skip
    go_upto_region 10 with fail
    refine wE 2 [bV true,bV true] [37,36] ?_ ?_
    ·refine aS 1 rfl (fun a u E D hk=>JU (p:=q.k) (q:=1) rfl (eE E) rfl) (Ky (by omega)) ?_
     refine mD 2 37 0 ?_
     exact fz
    intro ws1 ks1
    simp only [F8]
    have HDs:=Kj (HD5.out.kept ks1)
    have HQs:=Kj (HQ5.out.kept ks1)
    obtain ⟨ws,hws⟩:∃ y,y=ws1:=⟨_,rfl⟩
    rw [← hws] at HDs HQs ⊢
    clear HD5 HQ5 hws ks1
    clear hk1
    obtain ⟨o,ho⟩:∃ o:Ord,q.n.so=o:=⟨_,rfl⟩
    have HOE:=Kj ho
    obtain ⟨L,hL⟩:∃ L,(M.add o).1=L:=⟨_,rfl⟩
    have HX:=Kj hL
    have hff:=add_fills HI.out o
    rw [hL] at hff
    have HFW:=Kj hff
    clear ho hL hff
    have HDd:=Kj (HDs.out.kept (Keep.drew (Keep.refl _ ws)))
    have HQd:=Kj (HQs.out.kept (Keep.drew (Keep.refl _ ws)))
    clear HDs HQs
    go_upto_region 11 with fail
    refine wp_sched (fun u=>Blk u g6 32 q.cells) [(0,0),(1,0),(2,0),(5,0),(6,0),(7,0),(3,1),(4,1),(8,1),(9,1),(10,1),(11,0)] (by kernel_rfl) (by kernel_rfl) (HQd.out.blk) ?_
    refine qz (o:=⟨some 38,_,_,_,_,_⟩) (.pointer (some ⟨p,0,none⟩)) rfl (by kernel_rfl) (fun u hu=>Jj (.tmp 3) (.pointer (some ⟨p,0,none⟩)) rfl (by kernel_rfl)) ?_
    simp only [Act.put,sA,sS,sZ]
    refine qz (o:=⟨some 39,_,_,_,_,_⟩) (.pointer (some ⟨g6,3,none⟩)) rfl (by kernel_rfl) (fun u hu=>QV 32 3 3 (.tmp 6) (g6) (0) (3) rfl (by kernel_rfl) (by kernel_rfl) rfl) ?_
    simp only [Act.put,sA,sS,sZ]
    refine qz (o:=⟨some 40,_,_,_,_,_⟩) (q.n.v) rfl (by kernel_rfl) (fun u hu=>xJ 28 _ (.tmp 39) g6 3 q.n.cells rfl (by kernel_rfl) (show u.rangeAt g6 3 q.n.cells from sq_n (JW hu)) Tryz.underlying28 (by rw [Kq.len7];exact szK)) ?_
    simp only [Act.put,sA,sS,sZ]
    refine qz (o:=⟨some 43,_,_,_,_,_⟩) (.pointer (some ⟨r,0,none⟩)) rfl (by kernel_rfl) (fun u hu=>Jj (.tmp 4) (.pointer (some ⟨r,0,none⟩)) rfl (by kernel_rfl)) ?_
    simp only [Act.put,sA,sS,sZ]
    refine qz (o:=⟨some 44,_,_,_,_,_⟩) (.pointer (some ⟨g6,3,none⟩)) rfl (by kernel_rfl) (fun u hu=>QV 32 3 3 (.tmp 6) (g6) (0) (3) rfl (by kernel_rfl) (by kernel_rfl) rfl) ?_
    simp only [Act.put,sA,sS,sZ]
    refine qz (o:=⟨some 45,_,_,_,_,_⟩) (q.n.v) rfl (by kernel_rfl) (fun u hu=>xJ 28 _ (.tmp 44) g6 3 q.n.cells rfl (by kernel_rfl) (show u.rangeAt g6 3 q.n.cells from sq_n (JW hu)) Tryz.underlying28 (by rw [Kq.len7];exact szK)) ?_
    simp only [Act.put,sA,sS,sZ]
    refine s_call (o:=⟨some 41,_,_,_,_,_⟩) 8 #[q.n.v] rfl (by kernel_rfl) (Jq 8 _ [.tmp 40] _ _ Tryz.func8 (by kernel_rfl) (by kernel_rfl) rfl (by kernel_rfl)) ?_
    refine (kstop_any q.n ws.drew).mono ?_
    rintro e wa ⟨vo,rfl,hvo,ko41⟩
    have hD1:=HDd.out.kept ko41
    have hQ1:=HQd.out.kept ko41
    refine ⟨o.v,by have h2:vo=q.n.so.v:=hvo;rw [h2,HOE.out],hQ1.blk,?_⟩
    simp only [Act.put,sA,sS,sZ]
    refine s_call (o:=⟨some 42,_,_,_,_,_⟩) 7 #[.pointer (some ⟨p,0,none⟩),o.v] rfl (by kernel_rfl) (Jq 7 _ [.tmp 38,.tmp 41] _ _ Tryz.func7 (by kernel_rfl) (by kernel_rfl) rfl (by kernel_rfl)) ?_
    refine (madd_any wa F p M o hD1.x HI.out HNo.out).mono ?_
    rintro e wb ⟨F2,va,Za,rfl,hb2,hsa,hg2,hk2⟩
    rw [HX.out] at hsa
    have hD2:=hD1.stepX hb2 hg2 hk2
    have hQ2:=hQ1.stepX hg2 hk2
    have hal:∀ b,wa.heap.size≤b→¬ G b:=fun b hb h=>by have:=hD1.y.lt b h;omega
    refine ⟨va,rfl,hQ2.blk,?_⟩
    simp only [Act.put,sA,sS,sZ]
    refine s_call (o:=⟨some 46,_,_,_,_,_⟩) 8 #[q.n.v] rfl (by kernel_rfl) (Jq 8 _ [.tmp 45] _ _ Tryz.func8 (by kernel_rfl) (by kernel_rfl) rfl (by kernel_rfl)) ?_
    refine (kstop_any q.n wb).mono ?_
    rintro e wd ⟨vo,rfl,hvo,ko46⟩
    have hD3:=hD2.kept ko46
    have hQ3:=hQ2.kept ko46
    refine ⟨o.v,by have h2:vo=q.n.so.v:=hvo;rw [h2,HOE.out],hQ3.blk,?_⟩
    simp only [Act.put,sA,sS,sZ]
    refine s_call (o:=⟨some 47,_,_,_,_,_⟩) 9 #[.pointer (some ⟨r,0,none⟩),o.v] rfl (by kernel_rfl) (Jq 9 _ [.tmp 43,.tmp 46] _ _ Tryz.func9 (by kernel_rfl) (by kernel_rfl) rfl (by kernel_rfl)) ?_
    refine (rmadd_any wd G r M o hD3.y HI.out HQu.out HNo.out).mono ?_
    rintro e we ⟨G2,vb,Zb,rfl,hb4,hsb,hg4,hk4⟩
    rw [HX.out] at hsb
    have hDe:=hD3.stepY hb4 hg4 hk4
    have hQe:=hQ3.stepY hg4 hk4
    have hsa4:=(hsa.kept ko46).keep hk4 (fun b h1 _ _=>hal b h1)
    refine ⟨vb,rfl,hQe.blk,?_⟩
    simp only [Act.put,sA,sS,sZ]
    refine s_call (o:=⟨some 48,_,_,_,_,_⟩) 6 #[va,vb] rfl (by kernel_rfl) (Jq 6 _ [.tmp 42,.tmp 47] _ _ Tryz.func6 (by kernel_rfl) (by kernel_rfl) rfl (by kernel_rfl)) ?_
    refine (kouts_any va vb L Za Zb we _ _ _ _ hsa4 hsb HFW.out.1 HFW.out.2).mono ?_
    rintro e wf ⟨vo,rfl,hvo,kof⟩
    have hDe:=hDe.kept kof
    have hQe:=hQe.kept kof
    refine ⟨.bool true,by have h2:vo=.bool true:=hvo;rw [h2],hQe.blk,?_⟩
    simp only [Act.put,sA,sS,sZ]
    refine qz (o:=⟨some 7,_,_,_,_,_⟩) (.bool true) rfl (by kernel_rfl) (fun u hu=>JQ (.tmp 48) (.bool true) rfl (by kernel_rfl)) ?_
    simp only [Act.put,sA,sS,sZ]
    refine s_done ?_
    have HDe:=Kj hDe
    have HQe:=Kj hQe
    have HIe:=Kj (HI.out.add o)
    have HQue:=Kj (HQu.out.add o)
    have HNe:=Kj (add_no HI.out o).2
    clear HDd HQd HX HOE HFW hDe hQe
    go_wp2
    go_meet
    case rel=>exact ⟨rfl,_,_,_,HDe,HIe,HQue,HNe,HQe⟩
   by_cases hk2:q.k=2
   ·skip
    go_upto_region 10 with fail
    refine wE 2 [bV false,bV false] [37,36] ?_ ?_
    ·refine aS 1 rfl (fun a u E D hk=>JU (p:=q.k) (q:=1) rfl (eE E) rfl) (Ku (by omega)) ?_
     refine mD 2 37 0 ?_
     exact fz
    intro ws1 ks1
    simp only [F8]
    go_upto_region 12 with fail
    refine wE 2 [bV true,bV true] [50,49] ?_ ?_
    ·refine aS 1 rfl (fun a u E D hk=>JU (p:=q.k) (q:=2) rfl (eE E) rfl) (Ky (by omega)) ?_
     refine mD 2 50 0 ?_
     exact fz
    intro ws2 ks2
    simp only [F8]
    have HDs:=Kj (HD5.out.kept (ks1.trans ks2))
    have HQs:=Kj (HQ5.out.kept (ks1.trans ks2))
    obtain ⟨ws,hws⟩:∃ y,y=ws2:=⟨_,rfl⟩
    rw [← hws] at HDs HQs ⊢
    clear HD5 HQ5 hws ks1 ks2
    clear hk2
    obtain ⟨eo,eb,M2,hrm⟩:∃ eo eb M2,M.remove q.a q.b=(eo,eb,M2):=⟨_,_,_,rfl⟩
    have HRM:=Kj hrm
    have hwl:M.w.length≤100000:=by have:=HI.out.few;omega
    have HI2:Hid (InvK M2∧M2.b.no=M.b.no):=by have:=HI.out.remove q.a q.b;rw [hrm] at this;exact this
    have HQu2:Hid (Quiet M2):=by have:=HQu.out.remove q.a q.b;rw [hrm] at this;exact this
    clear hrm
    go_upto_region 13 with fail
    have HQR13:=Kj (JW HQs.out.blk)
    refine wEp 5 [pV p 0,pV g6 1,iV q.a,pV g6 2,iV q.b] [52,53,54,55,56] ?_ ?_
    ·refine mE 1 3 ?_
     refine fE 2 6 32 1 1 0 ?_
     refine lD 3 53 1 Tryz.underlying3 (fun u hk=>JY (JJ HQR13.out hk) 1 _ rfl) ?_
     refine fE 4 6 32 2 2 0 ?_
     refine lD 5 55 3 Tryz.underlying3 (fun u hk=>JY (JJ HQR13.out hk) 2 _ rfl) ?_
     exact fz
    intro wh13 kh13
    simp only [F8]
    refine Yz 10 #[.pointer (some ⟨p,0,none⟩),.int .i64 q.a,.int .i64 q.b] rfl (Jq 10 _ [.tmp 52,.tmp 54,.tmp 56] _ _ Tryz.func10 (by kernel_rfl) (by kernel_rfl) rfl (by kernel_rfl) _) ?_
    refine (mremove_any wh13 F p M q.a q.b (HDs.out.x.kept kh13) HI.out.inv hwl).mono ?_
    rintro e wi13 ⟨Fr,rfl,hb2,hg2,hk2⟩
    rw [HRM.out] at hb2
    have hD2:=(HDs.out.kept kh13).stepX hb2 hg2 hk2
    have hQ2:=(HQs.out.kept kh13).stepX hg2 hk2
    refine ⟨.tuple #[eo.v,.bool eb],by rw [HRM.out],?_⟩
    simp only [Act.put,sA,sS,sZ]
    refine Jx (.tuple #[eo.v,.bool eb]) rfl (Jj _ _ rfl (by kernel_rfl)) ?_
    simp only [Act.put,sA,sS,sZ]
    refine Jx (eo.v) rfl (QU (.tmp 51) [eo.v,.bool eb] 0 (eo.v) rfl (by kernel_rfl) rfl) ?_
    simp only [Act.put,sA,sS,sZ]
    refine Jx (.bool eb) rfl (QU (.tmp 51) [eo.v,.bool eb] 1 (.bool eb) rfl (by kernel_rfl) rfl) ?_
    simp only [Act.put,sA,sS,sZ]
    refine ZW (.pointer (some ⟨wi13.heap.size,0,none⟩)) (wi13.alloc (.cells JV.cells.toArray 30)) rfl (QW 30 JV.cells rfl zO) ?_
    have hNw:=Blk.new wi13 30 JV.cells
    have kw4:Kept wi13 (wi13.alloc (.cells JV.cells.toArray 30)):=(Keep.refl _ wi13).alloc _
    generalize wi13.alloc (.cells JV.cells.toArray 30)=wj13 at hNw kw4 ⊢
    simp only [Act.put,sA,sS,sZ]
    refine Qj 30 wi13.heap.size 30 JV.cells eo.cells _ _ rfl rfl (by kernel_rfl) (by kernel_rfl) hNw (by rw [Ord.len9];exact JX) (by rw [Ord.len9,Ord.len9]) (Ord.one1 _) ?_
    intro wk13 hB5 hk5 hs5
    simp only [Act.put]
    refine Jx (.bool eb) rfl (JQ _ _ rfl (by kernel_rfl)) ?_
    simp only [Act.put,sA,sS,sZ]
    refine Kx ?_
    obtain ⟨b8,hb8⟩:∃ y,wi13.heap.size=y:=⟨_,rfl⟩
    rw [hb8] at hNw hB5 hk5 ⊢
    have ke13:Kept wi13 wk13:=kw4.trans' hk5 (by omega)
    have HB8:=Kj hB5
    have HDt:=Kj (hD2.kept ke13)
    have HQt:=Kj (hQ2.kept ke13)
    have lb8:=hB5.lt
    have hG8:¬ G b8:=fun h=>by have h1:=HDs.out.y.lt b8 h;have h2:=kh13.size;have h3:=hk2.size;omega
    clear hNw hB5 hk5 hs5 kw4 hb2 hg2 hk2 hD2 hQ2 HDs HQs kh13 hb8
    go_upto_region 14 with fail
    have HQR14:=Kj (JW HQt.out.blk)
    refine wEp 5 [pV r 0,pV g6 1,iV q.a,pV g6 2,iV q.b] [61,62,63,64,65] ?_ ?_
    ·refine mE 1 4 ?_
     refine fE 2 6 32 1 1 0 ?_
     refine lD 3 62 1 Tryz.underlying3 (fun u hk=>JY (JJ HQR14.out hk) 1 _ rfl) ?_
     refine fE 4 6 32 2 2 0 ?_
     refine lD 5 64 3 Tryz.underlying3 (fun u hk=>JY (JJ HQR14.out hk) 2 _ rfl) ?_
     exact fz
    intro wh14 kh14
    simp only [F8]
    refine Yz 11 #[.pointer (some ⟨r,0,none⟩),.int .i64 q.a,.int .i64 q.b] rfl (Jq 11 _ [.tmp 61,.tmp 63,.tmp 65] _ _ Tryz.func11 (by kernel_rfl) (by kernel_rfl) rfl (by kernel_rfl) _) ?_
    refine (rmremove_any wh14 G r M q.a q.b (HDt.out.y.kept kh14) HI.out.inv hwl).mono ?_
    rintro e wi14 ⟨Fr,rfl,hb2,hg2,hk2⟩
    rw [HRM.out] at hb2
    have hD2:=(HDt.out.kept kh14).stepY hb2 hg2 hk2
    have hQ2:=(HQt.out.kept kh14).stepY hg2 hk2
    refine ⟨.tuple #[eo.v,.bool eb],by rw [HRM.out],?_⟩
    simp only [Act.put,sA,sS,sZ]
    refine Jx (.tuple #[eo.v,.bool eb]) rfl (Jj _ _ rfl (by kernel_rfl)) ?_
    simp only [Act.put,sA,sS,sZ]
    refine Jx (eo.v) rfl (QU (.tmp 60) [eo.v,.bool eb] 0 (eo.v) rfl (by kernel_rfl) rfl) ?_
    simp only [Act.put,sA,sS,sZ]
    refine Jx (.bool eb) rfl (QU (.tmp 60) [eo.v,.bool eb] 1 (.bool eb) rfl (by kernel_rfl) rfl) ?_
    simp only [Act.put,sA,sS,sZ]
    refine ZW (.pointer (some ⟨wi14.heap.size,0,none⟩)) (wi14.alloc (.cells JV.cells.toArray 30)) rfl (QW 30 JV.cells rfl zO) ?_
    have hNw:=Blk.new wi14 30 JV.cells
    have kw4:Kept wi14 (wi14.alloc (.cells JV.cells.toArray 30)):=(Keep.refl _ wi14).alloc _
    generalize wi14.alloc (.cells JV.cells.toArray 30)=wj14 at hNw kw4 ⊢
    simp only [Act.put,sA,sS,sZ]
    refine Qj 30 wi14.heap.size 30 JV.cells eo.cells _ _ rfl rfl (by kernel_rfl) (by kernel_rfl) hNw (by rw [Ord.len9];exact JX) (by rw [Ord.len9,Ord.len9]) (Ord.one1 _) ?_
    intro wk14 hB5 hk5 hs5
    simp only [Act.put]
    refine Jx (.bool eb) rfl (JQ _ _ rfl (by kernel_rfl)) ?_
    simp only [Act.put,sA,sS,sZ]
    refine Kx ?_
    obtain ⟨b10,hb10⟩:∃ y,wi14.heap.size=y:=⟨_,rfl⟩
    rw [hb10] at hNw hB5 hk5 ⊢
    have ke14:Kept wi14 wk14:=kw4.trans' hk5 (by omega)
    have HB10:=Kj hB5
    have HDe:=Kj (hD2.kept ke14)
    have HQe:=Kj (hQ2.kept ke14)
    have lb10:=hB5.lt
    have HB8e:=Kj (JW (((HB8.out.kept kh14).keep hk2 hG8).kept ke14))
    have HB10e:=Kj (JW HB10.out)
    clear hNw hB5 hk5 hs5 kw4 hb2 hg2 hk2 hD2 hQ2 HDt HQt kh14 hb10 HB8 HB10
    go_upto_region 15 with fail
    refine wE 9 [eo.v,eo.v,bV true,bV true,bV eb,bV eb,bV true,bV true,bV true] [69,70,71,72,73,74,75,76,7] ?_ ?_
    ·refine sE 1 8 b8 0 eo.cells Tryz.underlying30 (fun u hk=>JJ HB8e.out hk) (by rw [eo.len9];exact JX) ?_
     refine sE 2 10 b10 0 eo.cells Tryz.underlying30 (fun u hk=>JJ HB10e.out hk) (by rw [eo.len9];exact JX) ?_
     refine sW 3 rfl (fun a u E D hk=>exec_eqOb' true _ _ _ eo eo rfl (dD D 0) (dD D 1) (by simp)) ?_
     refine mD 4 71 2 ?_
     refine mE 5 9 ?_
     refine mE 6 11 ?_
     refine sW 7 rfl (fun a u E D hk=>exec_eqb _ _ _ eb eb true rfl (dD D 4) (dD D 5) (by cases eb <;> rfl)) ?_
     refine pT 8 72 75 3 6 ?_
     refine mD 9 76 7 ?_
     exact fz
    intro wz kz
    simp only [F8]
    have HDz:=Kj (HDe.out.kept kz)
    have HQz:=Kj (HQe.out.kept kz)
    clear HDe HQe kz HB8e HB10e
    go_wp2
    go_meet
    case rel=>exact ⟨rfl,_,_,M2,HDz,HI2.out.1,HQu2,by show _≤_;rw [HI2.out.2];omega,HQz⟩
   by_cases hk3:q.k=3
   ·skip
    go_upto_region 10 with fail
    refine wE 2 [bV false,bV false] [37,36] ?_ ?_
    ·refine aS 1 rfl (fun a u E D hk=>JU (p:=q.k) (q:=1) rfl (eE E) rfl) (Ku (by omega)) ?_
     refine mD 2 37 0 ?_
     exact fz
    intro ws1 ks1
    simp only [F8]
    go_upto_region 12 with fail
    refine wE 2 [bV false,bV false] [50,49] ?_ ?_
    ·refine aS 1 rfl (fun a u E D hk=>JU (p:=q.k) (q:=2) rfl (eE E) rfl) (Ku (by omega)) ?_
     refine mD 2 50 0 ?_
     exact fz
    intro ws2 ks2
    simp only [F8]
    go_upto_region 16 with fail
    refine wE 2 [bV true,bV true] [78,77] ?_ ?_
    ·refine aS 1 rfl (fun a u E D hk=>JU (p:=q.k) (q:=3) rfl (eE E) rfl) (Ky (by omega)) ?_
     refine mD 2 78 0 ?_
     exact fz
    intro ws3 ks3
    simp only [F8]
    have HDs:=Kj (HD5.out.kept ((ks1.trans ks2).trans ks3))
    have HQs:=Kj (HQ5.out.kept ((ks1.trans ks2).trans ks3))
    obtain ⟨ws,hws⟩:∃ y,y=ws3:=⟨_,rfl⟩
    rw [← hws] at HDs HQs ⊢
    clear HD5 HQ5 hws ks1 ks2 ks3
    clear hk3
    obtain ⟨o,ho⟩:∃ o:Ord,q.raw=o:=⟨_,rfl⟩
    have HOE:=Kj ho
    obtain ⟨L,hL⟩:∃ L,(M.add o).1=L:=⟨_,rfl⟩
    have HX:=Kj hL
    have hff:=add_fills HI.out o
    rw [hL] at hff
    have HFW:=Kj hff
    clear ho hL hff
    have HDd:=Kj (HDs.out.kept (Keep.drew (Keep.refl _ ws)))
    have HQd:=Kj (HQs.out.kept (Keep.drew (Keep.refl _ ws)))
    clear HDs HQs
    go_upto_region 17 with fail
    refine wp_sched (fun u=>Blk u g6 32 q.cells) [(0,0),(1,0),(2,0),(4,0),(5,0),(6,0),(3,1),(7,1),(8,1),(9,0)] (by kernel_rfl) (by kernel_rfl) (HQd.out.blk) ?_
    refine qz (o:=⟨some 79,_,_,_,_,_⟩) (.pointer (some ⟨p,0,none⟩)) rfl (by kernel_rfl) (fun u hu=>Jj (.tmp 3) (.pointer (some ⟨p,0,none⟩)) rfl (by kernel_rfl)) ?_
    simp only [Act.put,sA,sS,sZ]
    refine qz (o:=⟨some 80,_,_,_,_,_⟩) (.pointer (some ⟨g6,10,none⟩)) rfl (by kernel_rfl) (fun u hu=>QV 32 4 10 (.tmp 6) (g6) (0) (10) rfl (by kernel_rfl) (by kernel_rfl) rfl) ?_
    simp only [Act.put,sA,sS,sZ]
    refine qz (o:=⟨some 81,_,_,_,_,_⟩) (o.v) rfl (by kernel_rfl) (fun u hu=>by rw [← HOE.out];exact xJ 30 _ (.tmp 80) g6 10 q.raw.cells rfl (by kernel_rfl) (show u.rangeAt g6 10 q.raw.cells from sq_raw (JW hu)) Tryz.underlying30 (by rw [Ord.len9];exact JX)) ?_
    simp only [Act.put,sA,sS,sZ]
    refine qz (o:=⟨some 83,_,_,_,_,_⟩) (.pointer (some ⟨r,0,none⟩)) rfl (by kernel_rfl) (fun u hu=>Jj (.tmp 4) (.pointer (some ⟨r,0,none⟩)) rfl (by kernel_rfl)) ?_
    simp only [Act.put,sA,sS,sZ]
    refine qz (o:=⟨some 84,_,_,_,_,_⟩) (.pointer (some ⟨g6,10,none⟩)) rfl (by kernel_rfl) (fun u hu=>QV 32 4 10 (.tmp 6) (g6) (0) (10) rfl (by kernel_rfl) (by kernel_rfl) rfl) ?_
    simp only [Act.put,sA,sS,sZ]
    refine qz (o:=⟨some 85,_,_,_,_,_⟩) (o.v) rfl (by kernel_rfl) (fun u hu=>by rw [← HOE.out];exact xJ 30 _ (.tmp 84) g6 10 q.raw.cells rfl (by kernel_rfl) (show u.rangeAt g6 10 q.raw.cells from sq_raw (JW hu)) Tryz.underlying30 (by rw [Ord.len9];exact JX)) ?_
    simp only [Act.put,sA,sS,sZ]
    refine s_call (o:=⟨some 82,_,_,_,_,_⟩) 7 #[.pointer (some ⟨p,0,none⟩),o.v] rfl (by kernel_rfl) (Jq 7 _ [.tmp 79,.tmp 81] _ _ Tryz.func7 (by kernel_rfl) (by kernel_rfl) rfl (by kernel_rfl)) ?_
    refine (madd_any ws.drew F p M o HDd.out.x HI.out HNo.out).mono ?_
    rintro e wb ⟨F2,va,Za,rfl,hb2,hsa,hg2,hk2⟩
    rw [HX.out] at hsa
    have hD2:=HDd.out.stepX hb2 hg2 hk2
    have hQ2:=HQd.out.stepX hg2 hk2
    have hal:∀ b,ws.drew.heap.size≤b→¬ G b:=fun b hb h=>by have:=HDd.out.y.lt b h;omega
    refine ⟨va,rfl,hQ2.blk,?_⟩
    simp only [Act.put,sA,sS,sZ]
    refine s_call (o:=⟨some 86,_,_,_,_,_⟩) 9 #[.pointer (some ⟨r,0,none⟩),o.v] rfl (by kernel_rfl) (Jq 9 _ [.tmp 83,.tmp 85] _ _ Tryz.func9 (by kernel_rfl) (by kernel_rfl) rfl (by kernel_rfl)) ?_
    refine (rmadd_any wb G r M o hD2.y HI.out HQu.out HNo.out).mono ?_
    rintro e we ⟨G2,vb,Zb,rfl,hb4,hsb,hg4,hk4⟩
    rw [HX.out] at hsb
    have hDe:=hD2.stepY hb4 hg4 hk4
    have hQe:=hQ2.stepY hg4 hk4
    have hsa4:=hsa.keep hk4 (fun b h1 _ _=>hal b h1)
    refine ⟨vb,rfl,hQe.blk,?_⟩
    simp only [Act.put,sA,sS,sZ]
    refine s_call (o:=⟨some 87,_,_,_,_,_⟩) 6 #[va,vb] rfl (by kernel_rfl) (Jq 6 _ [.tmp 82,.tmp 86] _ _ Tryz.func6 (by kernel_rfl) (by kernel_rfl) rfl (by kernel_rfl)) ?_
    refine (kouts_any va vb L Za Zb we _ _ _ _ hsa4 hsb HFW.out.1 HFW.out.2).mono ?_
    rintro e wf ⟨vo,rfl,hvo,kof⟩
    have hDe:=hDe.kept kof
    have hQe:=hQe.kept kof
    refine ⟨.bool true,by have h2:vo=.bool true:=hvo;rw [h2],hQe.blk,?_⟩
    simp only [Act.put,sA,sS,sZ]
    refine qz (o:=⟨some 7,_,_,_,_,_⟩) (.bool true) rfl (by kernel_rfl) (fun u hu=>JQ (.tmp 87) (.bool true) rfl (by kernel_rfl)) ?_
    simp only [Act.put,sA,sS,sZ]
    refine s_done ?_
    have HDe:=Kj hDe
    have HQe:=Kj hQe
    have HIe:=Kj (HI.out.add o)
    have HQue:=Kj (HQu.out.add o)
    have HNe:=Kj (add_no HI.out o).2
    clear HDd HQd HX HOE HFW hDe hQe
    go_wp2
    go_meet
    case rel=>exact ⟨rfl,_,_,_,HDe,HIe,HQue,HNe,HQe⟩
   skip
   go_upto_region 10 with fail
   refine wE 2 [bV false,bV false] [37,36] ?_ ?_
   ·refine aS 1 rfl (fun a u E D hk=>JU (p:=q.k) (q:=1) rfl (eE E) rfl) (Ku (by omega)) ?_
    refine mD 2 37 0 ?_
    exact fz
   intro ws1 ks1
   simp only [F8]
   go_upto_region 12 with fail
   refine wE 2 [bV false,bV false] [50,49] ?_ ?_
   ·refine aS 1 rfl (fun a u E D hk=>JU (p:=q.k) (q:=2) rfl (eE E) rfl) (Ku (by omega)) ?_
    refine mD 2 50 0 ?_
    exact fz
   intro ws2 ks2
   simp only [F8]
   go_upto_region 16 with fail
   refine wE 2 [bV false,bV false] [78,77] ?_ ?_
   ·refine aS 1 rfl (fun a u E D hk=>JU (p:=q.k) (q:=3) rfl (eE E) rfl) (Ku (by omega)) ?_
    refine mD 2 78 0 ?_
    exact fz
   intro ws3 ks3
   simp only [F8]
   have HDs:=Kj (HD5.out.kept ((ks1.trans ks2).trans ks3))
   have HQs:=Kj (HQ5.out.kept ((ks1.trans ks2).trans ks3))
   obtain ⟨ws,hws⟩:∃ y,y=ws3:=⟨_,rfl⟩
   rw [← hws] at HDs HQs ⊢
   clear HD5 HQ5 hws ks1 ks2 ks3
   go_wp2
   go_meet
   case rel=>exact ⟨rfl,_,_,M,HDs,HI,HQu,by show _≤_;omega,HQs⟩
  obtain ⟨rfl,F1,G1,M1,HD1,HI1,HQu1,HNo1,HQ1⟩:=hcut
  obtain ⟨w6,hw6⟩:∃ y,y=wc:=⟨_,rfl⟩
  subst hw6
  have HQR1:=Kj (JW HQ1.out.blk)
  have hwl:M1.w.length≤100000:=by have:=HI1.out.few;omega
  obtain ⟨fo,fb,hfd⟩:∃ fo fb,M1.find q.a q.b=(fo,fb):=⟨_,_,rfl⟩
  have HFD:=Kj hfd
  clear hfd HD5 HQ5 HI HQu
  go_upto_region 18 with fail
  refine QZ 10 [pE p 0,pE g6 1,iE q.a,pE g6 2,iE q.b,.eq (.tuple #[fo.v,.bool fb]),.eq (.tuple #[fo.v,.bool fb]),.eq (fo.v),bE fb,.fresh w6.heap.size 30 JV.cells] rfl (by kernel_rfl) ?_ ?_
  ·refine mE 1 3 ?_
   refine fE 2 6 32 1 1 0 ?_
   refine lD 3 90 1 Tryz.underlying3 (fun u hk=>JY (JJ HQR1.out hk) 1 _ rfl) ?_
   refine fE 4 6 32 2 2 0 ?_
   refine lD 5 92 3 Tryz.underlying3 (fun u hk=>JY (JJ HQR1.out hk) 2 _ rfl) ?_
   refine cS 6 12 [.pointer (some ⟨p,0,none⟩),.int .i64 q.a,.int .i64 q.b] rfl Tryz.func12 rfl (fun a u E D hk=>⟨ll (dD D 0) (ll (dD D 2) (ll (dD D 4) rfl)),(by have h:=mfind_any u F1 p M1 q.a q.b (HD1.out.x.kept hk) HI1.out.inv hwl;rw [HFD.out] at h;exact h)⟩) ?_
   refine mD 7 94 5 ?_
   refine sW 8 rfl (fun a u E D hk=>QU _ [fo.v,.bool fb] 0 (fo.v) rfl (dD D 6) rfl) ?_
   refine sW 9 rfl (fun a u E D hk=>QU _ [fo.v,.bool fb] 1 (.bool fb) rfl (dD D 6) rfl) ?_
   refine nW 10 rfl (fun a u E D hk=>⟨_,_,QW 30 JV.cells rfl zO,⟨_,rfl,hk.size,Blk.new u _ _⟩,((Keep.refl _ u).alloc _)⟩) ?_
   exact fz
  intro gv w7 hV k7
  rw [dq 10 [89,90,91,92,93,94,88,95,96,12]]
  simp only [Fz7]
  have hv12:(.fresh w6.heap.size 30 JV.cells:Kn).p (gv 12) w7:=hV 9 12 (by kernel_rfl)
  generalize gv 12=v12 at hv12 ⊢
  rw [gQ hV 7 95 fo.v]
  rw [gQ hV 8 96 (.bool fb)]
  clear hV
  obtain ⟨b12,rfl,hb12,hB12⟩:=hv12
  refine Qj 30 b12 30 JV.cells fo.cells _ _ rfl rfl (by kernel_rfl) (by kernel_rfl) hB12 (by rw [Ord.len9];exact JX) (by rw [Ord.len9,Ord.len9]) (Ord.one1 _) ?_
  intro w8 hB8 hk8 hs8
  simp only [Act.put]
  refine Jx (.bool fb) rfl (JQ _ _ rfl (by kernel_rfl)) ?_
  simp only [Act.put,sA,sS,sZ]
  refine Kx ?_
  have k68:Kept w6 w8:=k7.trans' hk8 (by omega)
  have HB8:=Kj hB8
  have HQR8:=Kj (JJ HQR1.out k68)
  have l8:=hB8.lt
  clear hB12 hB8 hk8 hs8 k7
  go_upto_region 19 with fail
  refine QZ 10 [pE r 0,pE g6 1,iE q.a,pE g6 2,iE q.b,.eq (.tuple #[fo.v,.bool fb]),.eq (.tuple #[fo.v,.bool fb]),.eq (fo.v),bE fb,.fresh w8.heap.size 30 JV.cells] rfl (by kernel_rfl) ?_ ?_
  ·refine mE 1 4 ?_
   refine fE 2 6 32 1 1 0 ?_
   refine lD 3 99 1 Tryz.underlying3 (fun u hk=>JY (JJ HQR8.out hk) 1 _ rfl) ?_
   refine fE 4 6 32 2 2 0 ?_
   refine lD 5 101 3 Tryz.underlying3 (fun u hk=>JY (JJ HQR8.out hk) 2 _ rfl) ?_
   refine cS 6 13 [.pointer (some ⟨r,0,none⟩),.int .i64 q.a,.int .i64 q.b] rfl Tryz.func13 rfl (fun a u E D hk=>⟨ll (dD D 0) (ll (dD D 2) (ll (dD D 4) rfl)),(by have h:=rmfind_any u G1 r M1 q.a q.b (HD1.out.y.kept (k68.trans hk)) HI1.out.inv hwl;rw [HFD.out] at h;exact h)⟩) ?_
   refine mD 7 103 5 ?_
   refine sW 8 rfl (fun a u E D hk=>QU _ [fo.v,.bool fb] 0 (fo.v) rfl (dD D 6) rfl) ?_
   refine sW 9 rfl (fun a u E D hk=>QU _ [fo.v,.bool fb] 1 (.bool fb) rfl (dD D 6) rfl) ?_
   refine nW 10 rfl (fun a u E D hk=>⟨_,_,QW 30 JV.cells rfl zO,⟨_,rfl,hk.size,Blk.new u _ _⟩,((Keep.refl _ u).alloc _)⟩) ?_
   exact fz
  intro gv w9 hV k9
  rw [dq 10 [98,99,100,101,102,103,97,104,105,14]]
  simp only [Fz7]
  have hv14:(.fresh w8.heap.size 30 JV.cells:Kn).p (gv 14) w9:=hV 9 14 (by kernel_rfl)
  generalize gv 14=v14 at hv14 ⊢
  rw [gQ hV 7 104 fo.v]
  rw [gQ hV 8 105 (.bool fb)]
  clear hV
  obtain ⟨b14,rfl,hb14,hB14⟩:=hv14
  refine Qj 30 b14 30 JV.cells fo.cells _ _ rfl rfl (by kernel_rfl) (by kernel_rfl) hB14 (by rw [Ord.len9];exact JX) (by rw [Ord.len9,Ord.len9]) (Ord.one1 _) ?_
  intro w10 hB10 hk10 hs10
  simp only [Act.put]
  refine Jx (.bool fb) rfl (JQ _ _ rfl (by kernel_rfl)) ?_
  simp only [Act.put,sA,sS,sZ]
  refine Kx ?_
  have k810:Kept w8 w10:=k9.trans' hk10 (by omega)
  have HB10:=Kj (JW hB10)
  have HB810:=Kj (JW (HB8.out.kept k810))
  have k610:=k68.trans k810
  clear hB14 hB10 hk10 hs10 k9 HB8 k68 k810 HQR8 HQR1
  go_upto_region 20 with fail
  refine wE 18 [bV true,bV false,bV false,fo.v,fo.v,bV false,bV false,bV false,bV fb,bV fb,bV false,bV false,bV false,pV p 0,pV r 0,bV true,bV false,bV false] [106,107,108,109,110,111,112,113,114,115,116,117,118,119,120,121,122,123] ?_ ?_
  ·refine mE 1 7 ?_
   refine sW 2 rfl (fun a u E D hk=>Yj _ _ true rfl (dD D 0)) ?_
   refine mD 3 107 1 ?_
   refine sE 4 12 b12 0 fo.cells Tryz.underlying30 (fun u hk=>JJ HB810.out hk) (by rw [fo.len9];exact JX) ?_
   refine sE 5 14 b14 0 fo.cells Tryz.underlying30 (fun u hk=>JJ HB10.out hk) (by rw [fo.len9];exact JX) ?_
   refine sW 6 rfl (fun a u E D hk=>exec_neOb false _ _ _ fo fo rfl (dD D 3) (dD D 4) (by simp)) ?_
   refine sW 7 rfl (fun a u E D hk=>Zj _ _ _ _ rfl (dD D 2) (dD D 5)) ?_
   refine mD 8 112 6 ?_
   refine mE 9 13 ?_
   refine mE 10 15 ?_
   refine sW 11 rfl (fun a u E D hk=>exec_neb _ _ _ fb fb false rfl (dD D 8) (dD D 9) (by cases fb <;> rfl)) ?_
   refine sW 12 rfl (fun a u E D hk=>Zj _ _ _ _ rfl (dD D 7) (dD D 10)) ?_
   refine mD 13 117 11 ?_
   refine mE 14 3 ?_
   refine mE 15 4 ?_
   refine cS 16 14 [.pointer (some ⟨p,0,none⟩),.pointer (some ⟨r,0,none⟩)] rfl Tryz.func14 rfl (fun a u E D hk=>⟨ll (dD D 13) (ll (dD D 14) rfl),msame_any u F1 G1 p r M1 (HD1.out.x.kept (k610.trans hk)) (HD1.out.y.kept (k610.trans hk)) HI1.out⟩) ?_
   refine sW 17 rfl (fun a u E D hk=>Yj _ _ true rfl (dD D 15)) ?_
   refine sW 18 rfl (fun a u E D hk=>Zj _ _ _ _ rfl (dD D 12) (dD D 16)) ?_
   exact fz
  intro w11 k11
  simp only [F8]
  have HD11:=Kj (HD1.out.kept (k610.trans k11))
  have HNx:Hid (M1.b.no≤70000000*((i+1:Nat):Int)):=by
   show _≤_
   have h1:=HNo1.out
   have h2:=HNi.out
   omega
  clear HD1 HQ1 k610 k11 HB10 HB810 HNo1
  go_wp2
  exact ⟨⟨i+1,F1,G1,M1,by go_num,by omega,by omega,HD11,HI1,HQu1,HNx⟩,by simp [intOf];omega⟩
 have HD9:=HD
 clear HD
 by_cases h1:i<n
 ·have h2:¬ i<60:=by omega
  clear hlt
  go_wp2_with fail
  refine (stopsRuns_any wr).mono ?_
  rintro e wz ⟨rfl,kz⟩
  go_wp2
  go_ret
  exact ⟨rfl,HD9.out.k.trans kz⟩
 clear hlt
 go_wp2_with fail
 refine (stopsRuns_any wr).mono ?_
 rintro e wz ⟨rfl,kz⟩
 go_wp2
 go_ret
 exact ⟨rfl,HD9.out.k.trans kz⟩
end Go.Proofs.YtlbeibapbkccfaaGreat
