/-
 Laws and contracts that the walks rest on, part 3. No condition.
-/
import Derived.Test.YtlbeibapbkccfaaGreatQV02
set_option linter.unusedVariables false
set_option maxRecDepth 100000
set_option maxHeartbeats 3200000
namespace Go.Proofs.YtlbeibapbkccfaaGreat
open Go.RowKit
theorem exec_ovl {a:Act} {o:Oper} {u:World} (x y:Operand) (ts:Array TypeId) (g1 off1 l1 c1 g2 off2 l2 c2:Nat) (T1 T2:TypeId) (cs1 cs2:List Value) (hop:o.op=.call { callee:=.value (.func 124),args:=#[x,y],argTypes:=ts }) (hx:a.eval x=.slice (some ⟨g1,off1,none⟩) l1 c1) (hy:a.eval y=.slice (some ⟨g2,off2,none⟩) l2 c2)
  (h1:Blk u g1 T1 cs1) (h2:Blk u g2 T2 cs2) (hne:g1≠g2) (h0:cs2.length≠0):(execOp a.eval o).run Tryz.prog u=.ok (.value (.bool false)) u:=by
 have hz:∀ w,(Go.sizeOf 107).run Tryz.prog w=.ok 1 w:=by
  intro w
  obtain ⟨z,hz,hz2,_⟩:=slQ.info
  obtain ⟨i0,hi,hz0,hz1,hzb⟩:=info_parts hz
  simp [Go.sizeOf,typeInfo,hi,hz1]
 have hov:(callFunc 124 #[.slice (some ⟨g1,off1,none⟩) l1 c1,.slice (some ⟨g2,off2,none⟩) l2 c2]).run Tryz.prog u=.ok (.value (.bool false)) u:=by
  rw [run_callFunc_extern Tryz.func124 (by kernel_rfl) (by kernel_rfl) (by kernel_rfl) (e:=Extern.SlicesOverlaps.overlaps #[78,78] #[4]) (by kernel_rfl),
   Lib.run_overlaps_apart u 78 4 107 slQ.und 1 hz ⟨g1,off1,none⟩ ⟨g2,off2,none⟩ l1 c1 l2 c2 hne T1 T2 cs1.length cs2.length h1.shape h2.shape h0 (h1.frozen _) (h1.frozen _)]
  rfl
 have e:a.eval (.func 124)=.func (.func 124) #[] #[]:=rfl
 unfold execOp
 simp only [hop,resolve,invoke,e,List.map_toArray,List.map_cons,List.map_nil,hx,hy,Sem.run_bind]
 simp [Deferred.ofValue,hov]
def insP (Z:Zs) (i:Nat) (q:Nat):List Value:=(ptrs Z).take i++[.pointer (some ⟨q,0,none⟩)]++(ptrs Z).drop i
def InsIn (w:World) (v:Value) (n:Nat) (Z:Zs) (i q:Nat) (r:Ending) (w':World):Prop:=∃ v',r=.returned v'∧Sl w' 107 1 v' (n+1) (insP Z i q)∧Keep (fun b=>v.ownBlock=some b) w w'∧∀ b,v'.ownBlock=some b→v.ownBlock=some b∨w.heap.size≤b
theorem linsert_end (w:World) (v:Value) (n:Nat) (Z:Zs) (g1 q:Nat) (hS:Sl w 107 1 v n (ptrs Z)) (hn:n≤1000) (h1:Blk w g1 107 [.pointer (some ⟨q,0,none⟩)]) :
  Calls Tryz.prog 116 #[v,.int .i64 (n:Int),.slice (some ⟨g1,0,none⟩) 1 1] w (InsIn w v n Z n q):=by
 obtain ⟨vx,hvx,_,_⟩:=jX slQ v n n (Nat.le_refl _) _ w hS
 have HVX:=Kj hvx
 have HS:=Kj hS
 have H1:=Kj h1
 have HX:Hid (∀ u,Kept w u→Sl u 107 1 (.slice (some ⟨g1,0,none⟩) 1 1) 1 [.pointer (some ⟨q,0,none⟩)]):=fun u k=>⟨rfl,_,1,rfl,Nat.le_refl _,by decide,fun h=>(by cases h),fun ad had=>(by
  injection had with had
  subst had
  exact ⟨g1,0,_,rfl,h1.kept k,by simp,rfl⟩)⟩
 clear hvx hS h1
 go_enter Tryz.func116,Tryz.ntmps116
 go_upto_region 1 with fail
 refine wE 3 [v,iV (n:Int),vx] [10,11,12] ?_ ?_
 ·refine mE 1 0 ?_
  refine mE 2 1 ?_
  refine sW 3 rfl (fun a u E D hk=>VX slQ _ _ v vx _ rfl (dD D 0) (dD D 1) (HVX.out u)) ?_
  exact fz
 intro wa ka
 simp only [F8]
 have HSa:=Kj (HS.out.kept ka)
 go_upto_region 2 with fail
 refine wE 3 [.slice (some ⟨g1,0,none⟩) 1 1,iV (1:Int),iV (1:Int)] [13,14,7] ?_ ?_
 ·refine mE 1 2 ?_
  refine sW 2 rfl (fun a u E D hk=>ZZ _ _ _ slQ.und (some ⟨g1,0,none⟩) 1 1 rfl (dD D 0)) ?_
  refine mD 3 14 1 ?_
  exact fz
 intro wb kb
 simp only [F8]
 have HSb:=Kj (HSa.out.kept kb)
 have kab:=ka.trans kb
 clear ka kb HSa HVX
 go_upto_region 5 with fail
 refine wE 3 [v,iV (n:Int),iV (n:Int)] [18,19,8] ?_ ?_
 ·refine mE 1 0 ?_
  refine sW 2 rfl (fun a u E D hk=>Qq _ slQ _ _ _ _ rfl (dD D 0) HSb.out) ?_
  refine mD 3 19 1 ?_
  exact fz
 intro wc kc
 simp only [F8]
 have kac:=kab.trans kc
 have HSc:=Kj (HS.out.kept kac)
 clear kab kc HSb
 go_upto_region 6 with fail
 refine wE 3 [iV (n:Int),iV (n:Int),bV true] [20,21,22] ?_ ?_
 ·refine mE 1 1 ?_
  refine mE 2 8 ?_
  refine aS 3 rfl (fun a u E D hk=>JU rfl (dD D 0) (dD D 1)) (Ky rfl) ?_
  exact fz
 intro wd kd
 simp only [F8]
 have kad:=kac.trans kd
 have HSd:=Kj (HS.out.kept kad)
 clear kac kd HSc
 go_upto_region 7 with fail
 refine wEp 2 [v,.slice (some ⟨g1,0,none⟩) 1 1] [23,24] ?_ ?_
 ·refine mE 1 0 ?_
  refine mE 2 2 ?_
  exact fz
 intro we ke
 simp only [F8]
 have kae:=kad.trans ke
 obtain ⟨v4,w4,hr4,hs4,hk4,ho4⟩:=Qy slQ 78 we v (.slice (some ⟨g1,0,none⟩) 1 1) n 1 _ _ (HSd.out.kept ke) (HX.out _ kae) (by intro u hu;simp at hu;subst hu;rfl) (by unfold maxLen;omega) (by omega)
 refine ZW v4 w4 rfl (XQ slQ (.tmp 23) (.tmp 24) v (.slice (some ⟨g1,0,none⟩) 1 1) rfl (by kernel_rfl) (by kernel_rfl) v4 w4 hr4) ?_
 simp only [Act.put,sA,sS,sZ]
 refine Jx (v4) rfl (JQ _ _ rfl (by kernel_rfl)) ?_
 simp only [Act.put,sA,sS,sZ]
 refine Kx ?_
 have zz:=kae.size
 have HR:Hid (InsIn w v n Z n q (.returned v4) w4):=by
  refine ⟨v4,rfl,?_,(Keep.mono (T:=fun b=>v.ownBlock=some b) kae (fun _ _ h=>h.elim)).trans hk4 (fun _ _ h=>h),fun b hb=>(ho4 b hb).imp id (fun h=>by omega)⟩
  have hl:(ptrs Z).length=n:=by have:=HS.out.len;omega
  unfold insP
  rw [List.take_of_length_le (by omega),List.drop_of_length_le (by omega),List.append_nil]
  exact hs4
 clear hs4 hk4 ho4
 go_wp2
 go_ret
 exact HR.out
theorem linsert_grow (w:World) (v:Value) (n i:Nat) (Z:Zs) (g1 q:Nat) (hS:Sl w 107 1 v n (ptrs Z)) (hn:n≤1000) (hi:i<n) (h1:Blk w g1 107 [.pointer (some ⟨q,0,none⟩)]) (hne:∀ b,v.ownBlock=some b→b≠g1) (hc:∀ A c,v=.slice A n c→c<n+1) :
  Calls Tryz.prog 116 #[v,.int .i64 (i:Int),.slice (some ⟨g1,0,none⟩) 1 1] w (InsIn w v n Z i q):=by
 have hv0:=hS.some_ (by omega:0<n)
 obtain ⟨g,off,c,rfl⟩:=hv0
 obtain ⟨hnc,hcm,_⟩:=hS.cap
 have hcm':c≤9223372036854775807:=by unfold maxLen at hcm;omega
 have hgg:g≠g1:=fun e=>hne g rfl e
 have hroom:=hc _ _ rfl
 have HS:=Kj hS
 clear hc
 have H1:=Kj h1
 have hl:(ptrs Z).length=n:=by have:=hS.len;omega
 clear hS h1 hne
 go_enter Tryz.func116,Tryz.ntmps116
 go_upto_region 1 with fail
 refine wE 3 [.slice (some ⟨g,off,none⟩) n c,iV (i:Int),.slice (some ⟨g,off+i*1,none⟩) (n-i) (c-i)] [10,11,12] ?_ ?_
 ·refine mE 1 0 ?_
  refine mE 2 1 ?_
  refine sW 3 rfl (fun a u E D hk=>VX slQ _ _ _ _ _ rfl (dD D 0) (dD D 1) (run_l slQ g off n c i (by omega) (by omega) u)) ?_
  exact fz
 intro wa ka
 simp only [F8]
 go_upto_region 2 with fail
 refine wE 3 [.slice (some ⟨g1,0,none⟩) 1 1,iV (1:Int),iV (1:Int)] [13,14,7] ?_ ?_
 ·refine mE 1 2 ?_
  refine sW 2 rfl (fun a u E D hk=>ZZ _ _ _ slQ.und (some ⟨g1,0,none⟩) 1 1 rfl (dD D 0)) ?_
  refine mD 3 14 1 ?_
  exact fz
 intro wb kb
 simp only [F8]
 have kab:=ka.trans kb
 clear ka kb
 go_upto_region 5 with fail
 refine wE 3 [.slice (some ⟨g,off,none⟩) n c,iV (n:Int),iV (n:Int)] [18,19,8] ?_ ?_
 ·refine mE 1 0 ?_
  refine sW 2 rfl (fun a u E D hk=>ZZ _ _ _ slQ.und (some ⟨g,off,none⟩) n c rfl (dD D 0)) ?_
  refine mD 3 19 1 ?_
  exact fz
 intro wc kc
 simp only [F8]
 have kac:=kab.trans kc
 clear kab kc
 go_upto_region 6 with fail
 refine wE 3 [iV (i:Int),iV (n:Int),bV false] [20,21,22] ?_ ?_
 ·refine mE 1 1 ?_
  refine mE 2 8 ?_
  refine aS 3 rfl (fun a u E D hk=>JU rfl (dD D 0) (dD D 1)) (Ku (by omega)) ?_
  exact fz
 intro wd kd
 simp only [F8]
 have kad:=kac.trans kd
 clear kac kd
 go_upto_region 8 with fail
 refine wE 6 [iV (n:Int),iV 1,iV (((n:Int):Int)+(1:Int)),.slice (some ⟨g,off,none⟩) n c,iV (c:Int),bV true] [26,27,28,29,30,31] ?_ ?_
 ·refine mE 1 8 ?_
  refine mE 2 7 ?_
  refine sW 3 rfl (fun a u E D hk=>ZJ (p:=((n:Int))) (q:=(1)) (((n:Int):Int)+(1:Int)) rfl (dD D 0) (dD D 1) rfl (by omega) (by omega)) ?_
  refine mE 4 0 ?_
  refine sW 5 rfl (fun a u E D hk=>JJU _ (some ⟨g,off,none⟩) n c slQ.und rfl (dD D 3)) ?_
  refine aS 6 rfl (fun a u E D hk=>XX rfl (dD D 2) (dD D 4)) (Ky (by omega)) ?_
  exact fz
 intro we ke
 simp only [F8]
 have kae:=kad.trans ke
 clear kad ke
 have HSe:=Kj (HS.out.kept kae)
 have H1e:=Kj (H1.out.kept kae)
 have hgl:g<w.heap.size:=HS.out.lt rfl
 have hcast:(n:Int)+1-(i:Int)=((n+1-i:Nat):Int):=by omega
 go_upto_region 9 with fail
 refine wEp 8 [.slice (some ⟨g,off,none⟩) n c,iV (i:Int),.slice (some ⟨g,off,none⟩) i c,iV (n:Int),iV 1,iV (((n:Int):Int)+(1:Int)),iV (i:Int),iV ((n+1-i:Nat):Int)] [32,33,34,35,36,37,38,39] ?_ ?_
 ·refine mE 1 0 ?_
  refine mE 2 1 ?_
  refine sW 3 rfl (fun a u E D hk=>Wx slQ _ _ _ _ _ rfl (dD D 0) (dD D 1) (run_h slQ (some ⟨g,off,none⟩) n c i (by omega) (fun h=>by cases h) u)) ?_
  refine mE 4 8 ?_
  refine mE 5 7 ?_
  refine sW 6 rfl (fun a u E D hk=>ZJ (p:=((n:Int))) (q:=(1)) (((n:Int):Int)+(1:Int)) rfl (dD D 3) (dD D 4) rfl (by omega) (by omega)) ?_
  refine mE 7 1 ?_
  refine sW 8 rfl (fun a u E D hk=>Vj ((n+1-i:Nat):Int) (p:=(n:Int)+1) (q:=(i:Int)) rfl (dD D 5) (dD D 6) hcast (by omega) (by omega)) ?_
  exact fz
 intro wf kf
 simp only [F8]
 have kaf:=kae.trans kf
 obtain ⟨gn,cn,wg,zs,hrz,hsz,hzl,hkz,hgn⟩:=zJ slQ Tryz.underlying3 78 wf (some ⟨g,off,none⟩) i c (n+1-i) _ ((HSe.out.kept kf).shrink (m:=i) (by omega)) (by omega) (by omega) (by unfold maxLen;omega) (by omega) (by omega)
 have hrz2:∀ ty,(Builtin.append_ #[78,3] ty #[.slice (some ⟨g,off,none⟩) i c,.int .i64 ((n+1-i:Nat):Int)]).run Tryz.prog wf=.ok (.slice (some ⟨gn,0,none⟩) (n+1) cn) wg:=fun ty=>by rw [show i+(n+1-i)=n+1 by omega] at hrz;exact hrz
 refine ZW _ wg rfl (exec_appZ slQ 3 (.tmp 34) (.tmp 39) _ _ rfl (by kernel_rfl) (by kernel_rfl) _ wg (hrz2 _)) ?_
 simp only [Act.put,sA,sS,sZ]
 refine Jx (.slice (some ⟨gn,0,none⟩) (n+1) cn) rfl (JQ _ _ rfl (by kernel_rfl)) ?_
 simp only [Act.put,sA,sS,sZ]
 refine Kx ?_
 rw [show i+(n+1-i)=n+1 by omega] at hsz
 have kag:=kaf.trans hkz
 have HSg:=Kj hsz
 have H1g:=Kj (H1.out.kept kag)
 have HS0:=Kj (HS.out.kept kag)
 have zf:=kaf.size
 have zg:=hkz.size
 have hcn:=HSg.out.cap.1
 have hzl1:zs.length=n+1-i:=by omega
 have hgn1:gn≠g1:=fun e=>by have:=(H1.out.lt);omega
 have hgng:gn≠g:=by omega
 clear hsz hrz hrz2 hkz H1e HSe kf hzl
 have hti:((ptrs Z).take (i*1)).length=i:=by rw [List.length_take];omega
 go_upto_region 10 with fail
 refine wEp 4 [.slice (some ⟨gn,0,none⟩) (n+1) cn,iV (i:Int),.slice (some ⟨gn,0+i*1,none⟩) (n+1-i) (cn-i),.slice (some ⟨g1,0,none⟩) 1 1] [41,42,43,44] ?_ ?_
 ·refine mE 1 9 ?_
  refine mE 2 1 ?_
  refine sW 3 rfl (fun a u E D hk=>VX slQ _ _ _ _ _ rfl (dD D 0) (dD D 1) (run_l slQ gn 0 (n+1) cn i (by omega) (by omega) u)) ?_
  refine mE 4 2 ?_
  exact fz
 intro wh kh
 simp only [F8]
 have hcpy:=run_copy_sl slQ 3 gn 0 (n+1) cn i (n+1-i) (cn-i) _ [.pointer (some ⟨q,0,none⟩)] wh (HSg.out.kept kh) g1 0 1 1 (JW (H1g.out.kept kh)) (by simp [Nat.min_def];omega) (by simp;omega) (by intro u hu;simp at hu;subst hu;rfl)
 rw [show 0+i=0+i*1 by omega] at hcpy
 obtain ⟨hcr,hcs,hck⟩:=hcpy
 refine ZW (goInt 1) _ rfl (exec_cpyS (.tmp 43) (.tmp 44) _ _ rfl (by kernel_rfl) (by kernel_rfl) _ _ hcr) ?_
 simp only [Act.put,sA,sS,sZ]
 refine Kx ?_
 generalize wh.setCells gn (0+i*1) [.pointer (some ⟨q,0,none⟩)]=wi at hcs hck ⊢
 have e1:((ptrs Z).take (i*1)++zs).take i=(ptrs Z).take i:=by rw [List.take_append_of_le_length (by omega),List.take_of_length_le (by omega),Nat.mul_one]
 have e2:((ptrs Z).take (i*1)++zs).drop (i+[Value.pointer (some ⟨q,0,none⟩)].length)=zs.drop 1:=by
  rw [List.drop_append,List.drop_of_length_le (by simp;omega),List.nil_append,hti]
  congr 1
  simp
 rw [e1,e2] at hcs
 have HSi:=Kj hcs
 have HS0i:=Kj ((HS0.out.kept kh).keep hck (fun b hb e=>by simp [Value.ownBlock] at hb;omega))
 have K1:Keep (·=gn) wg wi:=Keep.any kh hck
 have hgi:gn≠g:=hgng
 clear hcs hck hcr kh HSg H1g HS0 e1 e2
 obtain ⟨dd,hdd⟩:∃ dd,(ptrs Z).drop i=dd:=⟨_,rfl⟩
 have hdl:dd.length=n-i:=by rw [← hdd,List.length_drop];omega
 have HDR:Hid (∀ u,Sl u 107 1 (.slice (some ⟨g,off,none⟩) n c) n (ptrs Z)→u.rangeAt g (off+i*1) dd):=fun u h=>by
  obtain ⟨_,A,c',e',_,_,_,h4⟩:=h
  injection e' with e1 e2 e3
  subst e1 e3
  obtain ⟨g',off',cur,e,hB,h5,h6⟩:=h4 _ rfl
  injection e with e1 e2
  subst e1 e2
  have:=qx (jY hB h6) i
  rw [hdd] at this
  rw [Nat.mul_one]
  exact this
 go_upto_region 11 with fail
 refine wGp 8 [.slice (some ⟨gn,0,none⟩) (n+1) cn,iV (i:Int),iV 1,iV ((i+1:Nat):Int),.slice (some ⟨gn,0+(i+1)*1,none⟩) (n+1-(i+1)) (cn-(i+1)),.slice (some ⟨g,off,none⟩) n c,iV (i:Int),.slice (some ⟨g,off+i*1,none⟩) (n-i) (c-i)] [46,47,48,49,50,51,52,53] ?_ ?_
 ·refine mE 1 9 ?_
  refine mE 2 1 ?_
  refine mE 3 7 ?_
  refine sW 4 rfl (fun a u E D hk=>ZJ ((i+1:Nat):Int) (p:=(i:Int)) (q:=1) rfl (dD D 1) (dD D 2) (by omega) (by omega) (by omega)) ?_
  refine sW 5 rfl (fun a u E D hk=>VX slQ _ _ _ _ _ rfl (dD D 0) (dD D 3) (run_l slQ gn 0 (n+1) cn (i+1) (by omega) (by omega) u)) ?_
  refine mE 6 0 ?_
  refine mE 7 1 ?_
  refine sW 8 rfl (fun a u E D hk=>VX slQ _ _ _ _ _ rfl (dD D 5) (dD D 6) (run_l slQ g off n c i (by omega) (by omega) u)) ?_
  exact fz
 intro wj kj
 simp only [F8]
 have hcpy:=run_copy_sl slQ 3 gn 0 (n+1) cn (i+1) (n+1-(i+1)) (cn-(i+1)) _ dd wj (HSi.out.kept kj) g (off+i*1) (n-i) (c-i) (HDR.out wj (HS0i.out.kept kj)) (by rw [hdl];simp only [Nat.min_def];split <;> omega) (by omega) (fun u hu=>xV Z u (by rw [← hdd] at hu;exact List.mem_of_mem_drop hu))
 rw [show 0+(i+1)=0+(i+1)*1 by omega] at hcpy
 obtain ⟨hcr,hcs,hck⟩:=hcpy
 refine ZW (goInt dd.length) _ rfl (exec_cpyS (.tmp 50) (.tmp 53) _ _ rfl (by kernel_rfl) (by kernel_rfl) _ _ hcr) ?_
 simp only [Act.put,sA,sS,sZ]
 refine Kx ?_
 generalize wj.setCells gn (0+(i+1)*1) dd=wk at hcs hck ⊢
 have hti2:((ptrs Z).take i).length=i:=by rw [List.length_take];omega
 have HR:Hid (InsIn w (.slice (some ⟨g,off,none⟩) n c) n Z i q (.returned (.slice (some ⟨gn,0,none⟩) (n+1) cn)) wk):=by
  refine ⟨_,rfl,?_,?_,fun b hb=>.inr (by simp [Value.ownBlock] at hb;omega)⟩
  ·have e3:((ptrs Z).take i++[Value.pointer (some ⟨q,0,none⟩)]++zs.drop 1).take (i+1)=(ptrs Z).take i++[Value.pointer (some ⟨q,0,none⟩)]:=by
    rw [List.take_append_of_le_length (by simp only [List.length_append,hti2,List.length_cons,List.length_nil];omega),List.take_of_length_le (by simp only [List.length_append,hti2,List.length_cons,List.length_nil];omega)]
   have e4:((ptrs Z).take i++[Value.pointer (some ⟨q,0,none⟩)]++zs.drop 1).drop (i+1+dd.length)=[]:=by
    rw [List.drop_of_length_le]
    simp only [List.length_append,hti2,List.length_drop,List.length_cons,List.length_nil]
    omega
   rw [e3,e4,List.append_nil] at hcs
   unfold insP
   rw [hdd]
   exact hcs
  have k2:Keep (·=gn) wg wk:=(K1.kept kj).trans hck (fun _ _ h=>h)
  exact (Keep.mono (T:=fun b=>(Value.slice (some ⟨g,off,none⟩) n c).ownBlock=some b) kag (fun _ _ h=>h.elim)).trans k2 (fun b hb h=>by omega)
 clear hcs hck hcr
 go_wp2
 go_ret
 exact HR.out
theorem linsert_room (w:World) (v:Value) (n i:Nat) (Z:Zs) (g1 q:Nat) (hS:Sl w 107 1 v n (ptrs Z)) (hn:n≤1000) (hi:i<n) (h1:Blk w g1 107 [.pointer (some ⟨q,0,none⟩)]) (hne:∀ b,v.ownBlock=some b→b≠g1) (hc:∀ A c,v=.slice A n c→n+1≤c) :
  Calls Tryz.prog 116 #[v,.int .i64 (i:Int),.slice (some ⟨g1,0,none⟩) 1 1] w (InsIn w v n Z i q):=by
 have hv0:=hS.some_ (by omega:0<n)
 obtain ⟨g,off,c,rfl⟩:=hv0
 obtain ⟨hnc,hcm,_⟩:=hS.cap
 have hcm':c≤9223372036854775807:=by unfold maxLen at hcm;omega
 have hgg:g≠g1:=fun e=>hne g rfl e
 have hroom:=hc _ _ rfl
 have HS:=Kj hS
 clear hc
 have H1:=Kj h1
 have hl:(ptrs Z).length=n:=by have:=hS.len;omega
 clear hS h1 hne
 go_enter Tryz.func116,Tryz.ntmps116
 go_upto_region 1 with fail
 refine wE 3 [.slice (some ⟨g,off,none⟩) n c,iV (i:Int),.slice (some ⟨g,off+i*1,none⟩) (n-i) (c-i)] [10,11,12] ?_ ?_
 ·refine mE 1 0 ?_
  refine mE 2 1 ?_
  refine sW 3 rfl (fun a u E D hk=>VX slQ _ _ _ _ _ rfl (dD D 0) (dD D 1) (run_l slQ g off n c i (by omega) (by omega) u)) ?_
  exact fz
 intro wa ka
 simp only [F8]
 go_upto_region 2 with fail
 refine wE 3 [.slice (some ⟨g1,0,none⟩) 1 1,iV (1:Int),iV (1:Int)] [13,14,7] ?_ ?_
 ·refine mE 1 2 ?_
  refine sW 2 rfl (fun a u E D hk=>ZZ _ _ _ slQ.und (some ⟨g1,0,none⟩) 1 1 rfl (dD D 0)) ?_
  refine mD 3 14 1 ?_
  exact fz
 intro wb kb
 simp only [F8]
 have kab:=ka.trans kb
 clear ka kb
 go_upto_region 5 with fail
 refine wE 3 [.slice (some ⟨g,off,none⟩) n c,iV (n:Int),iV (n:Int)] [18,19,8] ?_ ?_
 ·refine mE 1 0 ?_
  refine sW 2 rfl (fun a u E D hk=>ZZ _ _ _ slQ.und (some ⟨g,off,none⟩) n c rfl (dD D 0)) ?_
  refine mD 3 19 1 ?_
  exact fz
 intro wc kc
 simp only [F8]
 have kac:=kab.trans kc
 clear kab kc
 go_upto_region 6 with fail
 refine wE 3 [iV (i:Int),iV (n:Int),bV false] [20,21,22] ?_ ?_
 ·refine mE 1 1 ?_
  refine mE 2 8 ?_
  refine aS 3 rfl (fun a u E D hk=>JU rfl (dD D 0) (dD D 1)) (Ku (by omega)) ?_
  exact fz
 intro wd kd
 simp only [F8]
 have kad:=kac.trans kd
 clear kac kd
 go_upto_region 8 with fail
 refine wE 6 [iV (n:Int),iV 1,iV (((n:Int):Int)+(1:Int)),.slice (some ⟨g,off,none⟩) n c,iV (c:Int),bV false] [26,27,28,29,30,31] ?_ ?_
 ·refine mE 1 8 ?_
  refine mE 2 7 ?_
  refine sW 3 rfl (fun a u E D hk=>ZJ (p:=((n:Int))) (q:=(1)) (((n:Int):Int)+(1:Int)) rfl (dD D 0) (dD D 1) rfl (by omega) (by omega)) ?_
  refine mE 4 0 ?_
  refine sW 5 rfl (fun a u E D hk=>JJU _ (some ⟨g,off,none⟩) n c slQ.und rfl (dD D 3)) ?_
  refine aS 6 rfl (fun a u E D hk=>XX rfl (dD D 2) (dD D 4)) (Ku (by omega)) ?_
  exact fz
 intro we ke
 simp only [F8]
 have kae:=kad.trans ke
 clear kad ke
 have HSe:=Kj (HS.out.kept kae)
 have H1e:=Kj (H1.out.kept kae)
 have hgl:g<w.heap.size:=HS.out.lt rfl
 obtain ⟨ds,hdsl,hS1,hds⟩:=HSe.out.longer (m:=n+1) hroom (by omega)
 have HSL:=Kj hS1
 have HDS:=Kj hds
 have hcur:∃ T cs,Blk we g T cs∧cs.length≠0:=by
  obtain ⟨_,A,c',e',_,_,_,h4⟩:=hS1
  injection e' with e1 e2 e3
  subst e1 e3
  obtain ⟨g',off',cur,e,hB,h5,h6⟩:=h4 _ rfl
  injection e with e1 e2
  subst e1 e2
  exact ⟨_,cur,hB,by omega⟩
 obtain ⟨TG,cg,hBg,hcg0⟩:=hcur
 have HBG:=Kj hBg
 have hdsl:ds.length=n+1:=by omega
 clear hS1 hds HSe hBg
 go_upto_region 13 with fail
 refine wEp 5 [.slice (some ⟨g,off,none⟩) n c,iV (n:Int),iV 1,iV ((n+1:Nat):Int),.slice (some ⟨g,off,none⟩) (n+1) c] [56,57,58,59,60] ?_ ?_
 ·refine mE 1 0 ?_
  refine mE 2 8 ?_
  refine mE 3 7 ?_
  refine sW 4 rfl (fun a u E D hk=>ZJ ((n+1:Nat):Int) (p:=(n:Int)) (q:=1) rfl (dD D 1) (dD D 2) (by omega) (by omega) (by omega)) ?_
  refine sW 5 rfl (fun a u E D hk=>Wx slQ _ _ _ _ _ rfl (dD D 0) (dD D 3) (run_h slQ (some ⟨g,off,none⟩) n c (n+1) (by omega) (fun h=>by cases h) u)) ?_
  exact fz
 intro wf kf
 simp only [F8]
 refine Jx (.slice (some ⟨g,off,none⟩) (n+1) c) rfl (JQ _ _ rfl (by kernel_rfl)) ?_
 simp only [Act.put,List.setIfInBounds_toArray,List.set_cons_zero]
 refine Kx ?_
 have kaf:=kae.trans kf
 have HSf:=Kj (HSL.out.kept kf)
 have HBf:=Kj (HBG.out.kept kf)
 have H1f:=Kj (H1.out.kept kaf)
 clear HSL HBG H1e kf
 obtain ⟨m,hm⟩:∃ m,n+1=m:=⟨_,rfl⟩
 rw [hm] at HSf hdsl ⊢
 go_upto_region 14 with fail
 refine wEp 7 [.slice (some ⟨g1,0,none⟩) 1 1,.slice (some ⟨g,off,none⟩) m c,iV (i:Int),iV 1,iV ((i+1:Nat):Int),.slice (some ⟨g,off+(i+1)*1,none⟩) (m-(i+1)) (c-(i+1)),bV false] [61,62,63,64,65,66,67] ?_ ?_
 ·refine mE 1 2 ?_
  refine mE 2 0 ?_
  refine mE 3 1 ?_
  refine mE 4 7 ?_
  refine sW 5 rfl (fun a u E D hk=>ZJ ((i+1:Nat):Int) (p:=(i:Int)) (q:=1) rfl (dD D 2) (dD D 3) (by omega) (by omega) (by omega)) ?_
  refine sW 6 rfl (fun a u E D hk=>VX slQ _ _ _ _ _ rfl (dD D 1) (dD D 4) (run_l slQ g off m c (i+1) (by omega) (by omega) u)) ?_
  refine sW 7 rfl (fun a u E D hk=>exec_ovl _ _ _ g1 0 1 1 g (off+(i+1)*1) (m-(i+1)) (c-(i+1)) _ _ _ _ rfl (dD D 0) (dD D 5) (H1f.out.kept hk) (HBf.out.kept hk) (fun e=>hgg e.symm) hcg0) ?_
  exact fz
 intro wg kg
 simp only [F8]
 refine Jx (.bool true) rfl (Yj _ (.tmp 67) false rfl (by kernel_rfl)) ?_
 simp only [Act.put,sA,sS,sZ]
 refine Kx ?_
 have kag:=kaf.trans kg
 have HSg:=Kj (HSf.out.kept kg)
 have H1g:=Kj (H1.out.kept kag)
 clear HSf HBf H1f kg
 obtain ⟨dd,hdd⟩:∃ dd,(ptrs Z).drop i=dd:=⟨_,rfl⟩
 have hdl:dd.length=n-i:=by rw [← hdd,List.length_drop];omega
 have HD1:Hid ((ds.drop i).take (n-i)=dd):=by
  show _=_
  rw [← hdd,← HDS.out,List.drop_take,Nat.mul_one]
 have HDT:Hid (ds.take i=(ptrs Z).take i):=by
  show _=_
  rw [← HDS.out,List.take_take,Nat.min_eq_left (by omega)]
 have HDR:Hid (∀ u,Sl u 107 1 (.slice (some ⟨g,off,none⟩) m c) m ds→u.rangeAt g (off+i*1) dd):=fun u h=>by
  obtain ⟨_,A,c',e',_,_,_,h4⟩:=h
  injection e' with e1 e2 e3
  subst e1 e3
  obtain ⟨g',off',cur,e,hB,h5,h6⟩:=h4 _ rfl
  injection e with e1 e2
  subst e1 e2
  have:=jW (qx (jY hB h6) i) (n-i)
  rw [HD1.out] at this
  rw [Nat.mul_one]
  exact this
 go_upto_region 15 with fail
 refine wGp 8 [.slice (some ⟨g,off,none⟩) m c,iV (i:Int),iV 1,iV ((i+1:Nat):Int),.slice (some ⟨g,off+(i+1)*1,none⟩) (m-(i+1)) (c-(i+1)),.slice (some ⟨g,off,none⟩) m c,iV (i:Int),.slice (some ⟨g,off+i*1,none⟩) (m-i) (c-i)] [69,70,71,72,73,74,75,76] ?_ ?_
 ·refine mE 1 0 ?_
  refine mE 2 1 ?_
  refine mE 3 7 ?_
  refine sW 4 rfl (fun a u E D hk=>ZJ ((i+1:Nat):Int) (p:=(i:Int)) (q:=1) rfl (dD D 1) (dD D 2) (by omega) (by omega) (by omega)) ?_
  refine sW 5 rfl (fun a u E D hk=>VX slQ _ _ _ _ _ rfl (dD D 0) (dD D 3) (run_l slQ g off m c (i+1) (by omega) (by omega) u)) ?_
  refine mE 6 0 ?_
  refine mE 7 1 ?_
  refine sW 8 rfl (fun a u E D hk=>VX slQ _ _ _ _ _ rfl (dD D 5) (dD D 6) (run_l slQ g off m c i (by omega) (by omega) u)) ?_
  exact fz
 intro wj kj
 simp only [F8]
 have hcpy:=run_copy_sl slQ 3 g off m c (i+1) (m-(i+1)) (c-(i+1)) _ dd wj (HSg.out.kept kj) g (off+i*1) (m-i) (c-i) (HDR.out wj (HSg.out.kept kj)) (by rw [hdl];simp only [Nat.min_def];split <;> omega) (by omega) (fun u hu=>xV Z u (by rw [← hdd] at hu;exact List.mem_of_mem_drop hu))
 rw [show off+(i+1)=off+(i+1)*1 by omega] at hcpy
 obtain ⟨hcr,hcs,hck⟩:=hcpy
 refine ZW (goInt dd.length) _ rfl (exec_cpyS (.tmp 73) (.tmp 76) _ _ rfl (by kernel_rfl) (by kernel_rfl) _ _ hcr) ?_
 simp only [Act.put,sA,sS,sZ]
 refine Kx ?_
 generalize wj.setCells g (off+(i+1)*1) dd=wk at hcs hck ⊢
 have HSk:=Kj hcs
 have H1k:=Kj ((H1g.out.kept kj).keep hck (fun e=>hgg e.symm))
 have K1:Keep (·=g) wg wk:=Keep.any kj hck
 clear hcs hck hcr kj HSg H1g
 go_upto_region 16 with fail
 refine wEp 4 [.slice (some ⟨g,off,none⟩) m c,iV (i:Int),.slice (some ⟨g,off+i*1,none⟩) (m-i) (c-i),.slice (some ⟨g1,0,none⟩) 1 1] [78,79,80,81] ?_ ?_
 ·refine mE 1 0 ?_
  refine mE 2 1 ?_
  refine sW 3 rfl (fun a u E D hk=>VX slQ _ _ _ _ _ rfl (dD D 0) (dD D 1) (run_l slQ g off m c i (by omega) (by omega) u)) ?_
  refine mE 4 2 ?_
  exact fz
 intro wh kh
 simp only [F8]
 have hcpy:=run_copy_sl slQ 3 g off m c i (m-i) (c-i) _ [.pointer (some ⟨q,0,none⟩)] wh (HSk.out.kept kh) g1 0 1 1 (JW (H1k.out.kept kh)) (by simp [Nat.min_def];omega) (by simp;omega) (by intro u hu;simp at hu;subst hu;rfl)
 rw [show off+i=off+i*1 by omega] at hcpy
 obtain ⟨hcr,hcs,hck⟩:=hcpy
 refine ZW (goInt 1) _ rfl (exec_cpyS (.tmp 80) (.tmp 81) _ _ rfl (by kernel_rfl) (by kernel_rfl) _ _ hcr) ?_
 simp only [Act.put,sA,sS,sZ]
 refine Kx ?_
 generalize wh.setCells g (off+i*1) [.pointer (some ⟨q,0,none⟩)]=wi at hcs hck ⊢
 have HR:Hid (InsIn w (.slice (some ⟨g,off,none⟩) n c) n Z i q (.returned (.slice (some ⟨g,off,none⟩) m c)) wi):=by
  refine ⟨_,rfl,?_,?_,fun b hb=>.inl hb⟩
  ·have hti:(ds.take (i+1)).length=i+1:=by rw [List.length_take];omega
   have e3:(ds.take (i+1)++dd++ds.drop (i+1+dd.length)).take i=(ptrs Z).take i:=by
    rw [List.append_assoc,List.take_append_of_le_length (by omega),List.take_take,Nat.min_eq_left (by omega)]
    exact HDT.out
   have e4:(ds.take (i+1)++dd++ds.drop (i+1+dd.length)).drop (i+[Value.pointer (some ⟨q,0,none⟩)].length)=dd:=by
    rw [show ds.drop (i+1+dd.length)=[] from List.drop_of_length_le (by omega),List.append_nil,List.drop_append,List.drop_of_length_le (by simp;omega),List.nil_append,hti]
    simp
   rw [e3,e4,← hm] at hcs
   unfold insP
   rw [hdd,← hm]
   exact hcs
  have k2:Keep (·=g) wg wi:=(K1.kept kh).trans hck (fun _ _ h=>h)
  exact (Keep.mono (T:=fun b=>(Value.slice (some ⟨g,off,none⟩) n c).ownBlock=some b) kag (fun _ _ h=>h.elim)).trans k2 (fun b hb h=>by subst h;rfl)
 clear hcs hck hcr
 go_wp2
 go_ret
 exact HR.out
theorem linsert_any (w:World) (v:Value) (n i:Nat) (Z:Zs) (g1 q:Nat) (hS:Sl w 107 1 v n (ptrs Z)) (hn:n≤1000) (hi:i≤n) (h1:Blk w g1 107 [.pointer (some ⟨q,0,none⟩)]) (hne:∀ b,v.ownBlock=some b→b≠g1) :
  Calls Tryz.prog 116 #[v,.int .i64 (i:Int),.slice (some ⟨g1,0,none⟩) 1 1] w (InsIn w v n Z i q):=by
 by_cases h:i=n
 ·subst h
  exact linsert_end w v i Z g1 q hS hn h1
 obtain ⟨A,c,rfl⟩:=hS.slice_
 by_cases hc:n+1≤c
 ·exact linsert_room w _ n i Z g1 q hS hn (by omega) h1 hne (fun A' c' e=>by injection e with _ _ e3;omega)
 exact linsert_grow w _ n i Z g1 q hS hn (by omega) h1 hne (fun A' c' e=>by injection e with _ _ e3;omega)
theorem removeL_at {t i:Int} {l:Lev} {R:List Lev}:∀ {A:List Lev},(∀ x ∈ A,(YQ t i x.2).2.1=false)→(YQ t i l.2).2.1=true→Yx t i (A++l::R)=((YQ t i l.2).1,true,Vx A R (l.1,(YQ t i l.2).2.2))
 | [],_,h=>by
  rw [List.nil_append,Yx,if_pos h]
  unfold Vx
  rfl
 | a::A,hA,h=>by
  have ih:=removeL_at (A:=A) (l:=l) (R:=R) (fun x hx=>hA x (by simp [hx])) h
  rw [List.cons_append,Yx,if_neg (by rw [hA a (by simp)];simp),ih]
  unfold Vx
  split <;> rfl
theorem removeL_no {t i:Int}:∀ {L:List Lev},(∀ x ∈ L,(YQ t i x.2).2.1=false)→Yx t i L=(JV,false,L)
 | [],_=>rfl
 | a::A,hA=>by
  have ih:=removeL_no (L:=A) (fun x hx=>hA x (by simp [hx]))
  rw [Yx,if_neg (by rw [hA a (by simp)];simp),ih]
theorem LvsOk.one {L:List Lev} (h:LvsOk L) {l:Lev} (hl:l ∈ L):l.2.length≤64:=by
 obtain ⟨a,b,rfl⟩:=List.append_of_mem hl
 have:=h.few
 rw [JJY,YV,List.length_append,List.length_append] at this
 omega
theorem split_at {Z:Zs} {k:Nat} {z:Nat × Lev} (h:Z[k]?=some z):Z=Z.take k++z::Z.drop (k+1):=by
 obtain ⟨hk,rfl⟩:=List.getElem?_eq_some_iff.1 h
 rw [← List.drop_eq_getElem_cons hk,List.take_append_drop]
theorem lremove_any (w:World) (F:Nat→Prop) (p:Nat) (B:Bok) (s t j:Int) (h:Bk w F p B) (hs:s=1∨s=2) (hL:LvsOk (B.sd s)) :
  Calls Tryz.prog 57 #[.pointer (some ⟨p,Qz s,none⟩),.int .i64 t,.int .i64 j] w fun r w'=>∃ F',r=.returned (.tuple #[(Yx t j (B.sd s)).1.v,.bool (Yx t j (B.sd s)).2.1])∧Bk w' F' p (B.to s (Yx t j (B.sd s)).2.2 B.last B.no)∧Grow w F F'∧Keep F w w'∧((Yx t j (B.sd s)).2.1=false→Kept w w'):=by
 have hFl:=h.lt
 obtain ⟨L,hLe⟩:∃ L,B.sd s=L:=⟨_,rfl⟩
 rw [hLe] at hL ⊢
 go_enter Tryz.func57,Tryz.ntmps57
 go_upto_region 0 with fail
 refine QZ 2 [.fresh w.heap.size 30 JV.cells,bE false] rfl (by kernel_rfl) ?_ ?_
 ·refine nW 1 rfl (fun a u E D hk=>⟨_,_,QW 30 JV.cells rfl zO,⟨_,rfl,hk.size,Blk.new u _ _⟩,((Keep.refl _ u).alloc _)⟩) ?_
  refine sW 2 rfl (fun a u E D hk=>JQ _ _ rfl rfl) ?_
  exact fz
 intro gv wz hV kz
 rw [dq 2 [6,7]]
 simp only [Fz7]
 have hv6:(.fresh w.heap.size 30 JV.cells:Kn).p (gv 6) wz:=hV 0 6 (by kernel_rfl)
 generalize gv 6=v6 at hv6 ⊢
 rw [gQ hV 1 7 (.bool false)]
 clear hV
 obtain ⟨b6,rfl,hb6,hB6⟩:=hv6
 refine Kx ?_
 have HB6:=Kj hB6
 have l6:=hB6.lt
 have h6F:¬ F b6:=fun h=>by have:=hFl b6 h;omega
 clear hB6 hFl
 replace h:=h.kept kz
 have HK:=Kj h
 obtain ⟨v,u0,Z,G,Fs,eL,hW,hB,hFs,hp,hlt,hJ⟩:=h.open_ hs
 rw [hLe] at eL
 have HLE:=Kj hLe
 have HJ:=Kj hJ
 have hn64:Z.length≤64:=by have:=hL.len;rw [← eL,YU] at this;exact this
 have HV:Hid (wz.cell? ⟨p,Qz s+1,none⟩=some v):=by show _=_;rw [hB.cell];exact zV s _ _ _ _
 have HB:=Kj hB
 have HW:=Kj hW
 have HL:=Kj hL
 have EL:=Kj eL
 have HFs:=Kj hFs
 have HLT:=Kj hlt
 obtain ⟨n,hn⟩:∃ n,Z.length=n:=⟨_,rfl⟩
 have HSL:=Kj hW.sl
 rw [hn] at HSL hn64
 have HN:=Kj hn
 have hpl:=hlt p hp
 clear hB hW hL eL hFs hn h hlt hJ hLe
 go_upto_region 1 with fail
 refine wE 6 [pV p (Qz s),pV p (Qz s),pV p (Qz s+1),v,iV (n:Int),iV 0] [12,13,14,15,16,17] ?_ ?_
 ·refine mE 1 0 ?_
  refine nD 2 12 0 ?_
  refine fD 3 13 1 80 1 1 (Qz s) ?_
  refine sW 4 rfl (fun a u E D hk=>Jy _ _ Tryz.underlying78 _ _ _ rfl (dD D 2) (Kept.cell hk (HV.out))) ?_
  refine sW 5 rfl (fun a u E D hk=>Qq _ slQ _ _ _ _ rfl (dD D 3) HSL.out) ?_
  refine sW 6 rfl (fun a u E D hk=>Jj _ _ rfl rfl) ?_
  exact fz
 intro w0 k0
 simp only [F8]
 go_wp2_with fail
 go_loopw [17] (fun x wr=>∃ (k:Nat),k≤n∧x=.int .i64 k∧Hid (∀ x ∈ L.take k,(YQ t j x.2).2.1=false)∧Kept wz wr) (fun x _=>n-(intOf x).toNat)
 case atStart=>exact ⟨0,Nat.zero_le _,rfl,by intro x hx;simp at hx,k0⟩
 obtain ⟨i,hi,rfl,HM,hkr⟩:=hrel
 by_cases hlt:i<n
 ·skip
  obtain ⟨gs,os,c,rfl⟩:=HSL.out.some_ (by omega)
  obtain ⟨z,hz⟩:∃ z,Z[i]?=some z:=⟨Z[i]'(by rw [HN.out];omega),List.getElem?_eq_getElem (by rw [HN.out];omega)⟩
  obtain ⟨q,pr,X⟩:=z
  have HC:=Kj ((HW.out.kept hkr).cell hz)
  have HZ:=Kj (split_at hz)
  have HLV:=Kj ((HW.out.kept hkr).lv (q,pr,X) (List.mem_of_getElem? hz))
  have HX:=Kj (HL.out.one (l:=(pr,X)) (by rw [← EL.out];exact qq (List.mem_of_getElem? hz)))
  have HA:Hid (L[i]?=some (pr,X)):=by show _=_;rw [← EL.out];exact qU hz
  clear hz
  go_upto_region 3 with fail
  refine wE 5 [iV (i:Int),pV gs (os+i*1),pV q 0,iV (i:Int),pV q 0] [19,20,21,8,9] ?_ ?_
  ·refine mE 1 17 ?_
   refine sW 2 rfl (fun a u E D hk=>Jz slQ _ _ (gs) (os) n c i (os+i*1) ((i:Int)) rfl (eE E) (eE E) (by first | rfl | omega) (hlt) (by first | rfl | omega)) ?_
   refine sW 3 rfl (fun a u E D hk=>XY _ _ Tryz.underlying107 _ _ _ rfl (dD D 1) (Kept.cell hk (HC.out))) ?_
   refine mD 4 19 0 ?_
   refine mD 5 21 2 ?_
   exact fz
  intro w1 k1
  simp only [F8]
  have HLV1:=Kj (HLV.out.kept k1)
  have kw1:=hkr.trans k1
  clear HC HLV k1
  obtain ⟨b,hb⟩:∃ b,(YQ t j X).2.1=b:=⟨_,rfl⟩
  obtain ⟨e,he⟩:∃ e,(YQ t j X).1=e:=⟨_,rfl⟩
  have HBB:=Kj hb
  have HEE:=Kj he
  clear hb he
  go_upto_region 4 with fail
  refine wEp 3 [pV q 0,iV t,iV j] [23,24,25] ?_ ?_
  ·refine mE 1 9 ?_
   refine mE 2 1 ?_
   refine mE 3 2 ?_
   exact fz
  intro w2 k2
  simp only [F8]
  refine Yz 79 #[.pointer (some ⟨q,0,none⟩),.int .i64 t,.int .i64 j] rfl (Jq 79 _ [.tmp 23,.tmp 24,.tmp 25] _ _ Tryz.func79 (by kernel_rfl) (by kernel_rfl) rfl (by kernel_rfl) _) ?_
  refine (remove_any w2 _ q X t j (HLV1.out.kept k2) (by have:=HX.out;simp only at this;omega)).mono ?_
  rintro r w3 ⟨rfl,hl3,hk3,hq3⟩
  refine ⟨.tuple #[e.v,.bool b],by rw [HBB.out,HEE.out],?_⟩
  rw [HBB.out] at hq3
  simp only [Act.put,sA,sS,sZ]
  refine Jx (.tuple #[e.v,.bool b]) rfl (Jj _ _ rfl (by kernel_rfl)) ?_
  simp only [Act.put,sA,sS,sZ]
  refine Jx (e.v) rfl (QU (.tmp 22) [e.v,.bool b] 0 (e.v) rfl (by kernel_rfl) rfl) ?_
  simp only [Act.put,sA,sS,sZ]
  refine Jx (.bool b) rfl (QU (.tmp 22) [e.v,.bool b] 1 (.bool b) rfl (by kernel_rfl) rfl) ?_
  simp only [Act.put,sA,sS,sZ]
  refine ZW (.pointer (some ⟨w3.heap.size,0,none⟩)) (w3.alloc (.cells JV.cells.toArray 30)) rfl (QW 30 JV.cells rfl zO) ?_
  have hNw4:=Blk.new w3 30 JV.cells
  have kw4:Kept w3 (w3.alloc (.cells JV.cells.toArray 30)):=(Keep.refl _ w3).alloc _
  generalize w3.alloc (.cells JV.cells.toArray 30)=w4 at hNw4 kw4 ⊢
  simp only [Act.put,sA,sS,sZ]
  refine Qj 30 w3.heap.size 30 JV.cells e.cells _ _ rfl rfl (by kernel_rfl) (by kernel_rfl) hNw4 (by rw [Ord.len9];exact JX) (by rw [Ord.len9,Ord.len9]) (Ord.one1 _) ?_
  intro w5 hB5 hk5 hs5
  simp only [Act.put]
  refine Jx (.bool b) rfl (JQ _ _ rfl (by kernel_rfl)) ?_
  simp only [Act.put,sA,sS,sZ]
  refine Kx ?_
  obtain ⟨b10,hb10⟩:∃ x,w3.heap.size=x:=⟨_,rfl⟩
  rw [hb10] at hNw4 hB5 hk5 ⊢
  have l10:=hB5.lt
  have K35:Kept w3 w5:=kw4.trans' hk5 (by omega)
  have kw2:=kw1.trans k2
  have HL3:=Kj hl3
  have HK3:=Kj hk3
  have HQ3:=Kj hq3
  have HB10:=Kj hB5
  have z2:=kw2.size
  have z3:=hk3.size
  clear hl3 hk3 hq3 HLV1 k2 kw1 hNw4 hB5 hk5 hs5 kw4
  cases b with
  | true=>
   have HR:Hid (Yx t j L=(e,true,Vx (levs (Z.take i)) (levs (Z.drop (i+1))) (pr,(YQ t j X).2.2))):=by
    show _=_
    have e1:L=levs (Z.take i)++(pr,X)::levs (Z.drop (i+1)):=by
     rw [← EL.out]
     conv=>lhs;rw [HZ.out]
     rw [WX,Wy]
    have e2:L.take i=levs (Z.take i):=by rw [← EL.out];simp [levs,List.map_take]
    rw [e2] at HM
    conv=>lhs;rw [e1]
    rw [removeL_at HM.out HBB.out,HEE.out]
   have HX':Hid ((YQ t j X).2.2.length≤64):=by
    have h1:=HX.out
    simp only at h1
    show _≤_
    unfold YQ
    split
    ·exact h1
    simp only
    rw [List.length_eraseIdx]
    split <;> omega
   obtain ⟨Fs',G',hW',hG',hk',_⟩:=WayZ.turn (A:=Z.take i) (R:=Z.drop (i+1)) (q:=q) (pr:=pr) (X:=X) (by rw [← HZ.out];exact HW.out.kept kw2) HK3.out HL3.out (Grow.refl _ _)
   have K3:Keep (fun b=>Fs b∨b=p) wz w3:=(Keep.mono (T:=fun b=>Fs b∨b=p) kw2 (fun _ _ h=>h.elim)).trans hk' (fun b _ hb=>.inl hb)
   have hB3:=(HB.out.kept kw2).keep hk' (fun h=>(HFs.out p h).2 rfl)
   obtain ⟨F',q1,q2,q3,q4⟩:=HJ.out w3 _ _ _ _ _ K3 hB3 ⟨_,_,rfl,hW'⟩ (hG'.wide kw2.size)
   have h6F':¬ F' b6:=fun h=>(q2 b6 h).elim h6F (fun h=>by omega)
   have h10F':¬ F' b10:=fun h=>by have:=q1.lt b10 h;omega
   have Q5:=Kj (q1.kept K35)
   have HB65:=Kj (((HB6.out.kept kw2).keep HK3.out (fun h=>h6F (HFs.out b6 ((HW.out.in_ (q,pr,X) (by rw [HZ.out];simp)) b6 h)).1)).kept K35)
   have q3':=q3.kept K35
   have q2':=q2
   clear HL3 HK3 HQ3 hW' hG' hk' K3 hB3 HB q1 HB6
   have hlen1:(levs (Z.take i)).length=i:=by rw [YU,List.length_take,HN.out];omega
   have hlen2:(levs (Z.drop (i+1))).length≤64:=by rw [YU,List.length_drop,HN.out];omega
   have HLN:=Kj hlen1
   have HLN2:=Kj hlen2
   clear hlen1 hlen2
   go_upto_region 6 with fail
   refine wEp 2 [pV p (Qz s),iV (i:Int)] [30,31] ?_ ?_
   ·refine mE 1 0 ?_
    refine mE 2 8 ?_
    exact fz
   intro w6 k6
   simp only [F8]
   refine Yz 80 #[.pointer (some ⟨p,Qz s,none⟩),.int .i64 (i:Int)] rfl (Jq 80 _ [.tmp 30,.tmp 31] _ _ Tryz.func80 (by kernel_rfl) (by kernel_rfl) rfl (by kernel_rfl) _) ?_
   refine (drop_if_any w6 F' p _ s (levs (Z.take i)) (levs (Z.drop (i+1))) (pr,(YQ t j X).2.2) i (Q5.out.kept k6) hs (by rw [Bok.to_sd hs,WX,Wy]) HLN.out (by rw [HLN.out];have:=HLN2.out;omega) (by have:=HX'.out;simp only;omega)).mono ?_
   rintro r w7 ⟨F2,rfl,h7,g7,k7,s7⟩
   refine ⟨_,rfl,?_⟩
   simp only [Act.put,sA,sS,sZ]
   refine Kx ?_
   have K57:Keep F' w5 w7:=Keep.any k6 k7
   have HB67:=Kj (HB65.out.keep K57 h6F')
   have HB107:=Kj (JW (HB10.out.keep K57 h10F'))
   have z5:=K35.size
   have z6:=k6.size
   have z7:=k7.size
   have h6F2:¬ F2 b6:=fun h=>(g7 b6 h).elim h6F' (fun h=>by omega)
   have HK7:=Kj h7
   have HG7:Hid (Grow wz F F2):=by
    show Grow _ _ _
    exact q2'.trans (g7.wide (Kv (by omega) z6)) (by omega)
   have HKK:Hid (Keep F w w7):=(Keep.mono (T:=F) kz (fun _ _ h=>h.elim)).trans (q3'.trans K57 (fun b hb h=>(q2' b h).elim id (fun h'=>by omega))) (fun _ _ h=>h)
   clear h7 g7 k7 s7 HB10 HB65 K57 k6 Q5 q3' q3 K35
   go_upto_region 7 with fail
   refine wEp 1 [e.v] [33] ?_ ?_
   ·refine sE 1 10 b10 0 e.cells Tryz.underlying30 (fun u hk=>JJ HB107.out hk) (by rw [e.len9];exact JX) ?_
    exact fz
   intro w8 k8
   simp only [F8]
   refine Qj 30 b6 30 JV.cells e.cells _ _ rfl rfl (by kernel_rfl) (by kernel_rfl) (HB67.out.kept k8) (by rw [Ord.len9];exact JX) (by rw [Ord.len9,Ord.len9]) (Ord.one1 _) ?_
   intro w9 hB9 hk9 hs9
   simp only [Act.put]
   refine Jx (.bool true) rfl (JQ _ _ rfl (by kernel_rfl)) ?_
   simp only [Act.put,sA,sS,sZ]
   refine Kx ?_
   go_wp2
   refine bodyPost_ret (XU (p:=6) (q:=7) rfl _ _ b6 _ e.cells true rfl rfl hB9 Tryz.underlying30 (by rw [Ord.len9];exact JX)) rfl ?_
   rw [HR.out]
   have zz:=kz.size
   refine ⟨rfl,F2,?_,HG7.out.wide zz,(HKK.out.kept k8).trans hk9 (fun b hb h=>by subst h;omega),fun h=>by cases h⟩
   have h9:=(HK7.out.kept k8).keep hk9 (fun b hb h=>h6F2 (by subst h;exact hb))
   rw [Bok.to_to hs] at h9
   exact h9
  | false=>
   have kw3:=(kw2.trans (HQ3.out rfl)).trans K35
   have HM1:Hid (∀ x ∈ L.take (i+1),(YQ t j x.2).2.1=false):=by
    intro x hx
    rw [List.take_add_one,HA.out] at hx
    rcases List.mem_append.1 hx with hx | hx
    ·exact HM.out x hx
    simp at hx
    subst hx
    exact HBB.out
   clear HL3 HK3 HQ3 HM K35 kw2 z2 z3 l10 hb10 HB10
   go_wp2
   exact ⟨⟨i+1,by omega,by go_num,HM1,kw3⟩,by simp [intOf];omega⟩
 have HF:Hid (Yx t j L=(JV,false,L)):=by
  show _=_
  refine removeL_no fun x hx=>HM.out x ?_
  rw [List.take_of_length_le (by rw [← EL.out,YU,HN.out];omega)]
  exact hx
 have HE:Hid (B.to s L B.last B.no=B):=by show _=_;rw [← HLE.out];exact Bok.to_self hs
 clear HM
 go_upto_region 9 with fail
 refine wEp 1 [JV.v] [35] ?_ ?_
 ·refine sW 1 rfl (fun a u E D hk=>YJ 30 [] JV.cells rfl (by kernel_rfl)) ?_
  exact fz
 intro w2 k2
 simp only [F8]
 refine Qj 30 b6 30 JV.cells JV.cells _ _ rfl rfl (by kernel_rfl) (by kernel_rfl) ((HB6.out.kept hkr).kept k2) (by rw [Ord.len9];exact JX) rfl (Ord.one1 _) ?_
 intro w3 hB3 hk3 hs3
 simp only [Act.put]
 refine Jx (.bool false) rfl (JQ _ _ rfl (by kernel_rfl)) ?_
 simp only [Act.put,sA,sS,sZ]
 refine Kx ?_
 go_wp2
 refine bodyPost_ret (XU (p:=6) (q:=7) rfl _ _ b6 _ JV.cells false rfl rfl hB3 Tryz.underlying30 (by rw [Ord.len9];exact JX)) rfl ?_
 rw [HF.out]
 have k13:Kept w w3:=((kz.trans hkr).trans k2).trans' hk3 (by omega)
 exact ⟨F,rfl,by rw [HE.out];exact ((HK.out.kept hkr).kept k2).keep hk3 (fun b hb h=>h6F (by subst h;exact hb)),Grow.refl _ _,Keep.mono (T:=F) k13 (fun _ _ h=>h.elim),fun _=>k13⟩
section
variable {P:Program} {ops:Array Oper} {Q:Exit→Act→World→Prop} {V:List Kn} {n m:Nat} {a0:Act} {w0:World} {S:Nat→Prop}
def Kn.safe (S:Nat→Prop) (K:Kn):Prop:=∀ v w w',K.p v w→Keep S w w'→K.p v w'
theorem Kn.safe_eq (S:Nat→Prop) (c:Value):(Kn.eq c).safe S:=fun _ _ _ h _=>h
structure VInv (ops:Array Oper) (V:List Kn) (n m:Nat) (a0:Act) (w0:World) (S:Nat→Prop) (ls:Array Bool) (a:Act) (w:World):Prop where
 head:HeadInv .any ops n ls
 defers:a.defers=a0.defers
 size:a.tmps.size=a0.tmps.size
 env:∀ t,(∀ i,i<n→ls.getD i false=true→Qx ops i≠some t)→a.tmps[t]?=a0.tmps[t]?
 vals:∀ i d,i<n→ls.getD i false=true→Qx ops i=some d→(jJ V i).p (a.tmps.getD d undef) w
 keep:Keep S w0 w
 kept:ls.getD m false=false→Kept w0 w
def VStep (P:Program) (ops:Array Oper) (Q:Exit→Act→World→Prop) (V:List Kn) (n:Nat) (a0:Act) (w0:World) (S:Nat→Prop) (i:Nat) (K:Kn):Prop:=
 ∀ a w,FEnv ops n a0 a→FDep ops V i a w→Keep S w0 w→wpOp P ops Q i (FPost ops i K a w) a w
def VTurn (P:Program) (ops:Array Oper) (Q:Exit→Act→World→Prop) (V:List Kn) (n:Nat) (a0:Act) (w0:World) (S:Nat→Prop) (m:Nat) (K:Kn):Prop:=
 ∀ a w,FEnv ops n a0 a→FDep ops V m a w→Kept w0 w→wpOp P ops Q m (fun a' w'=>∃ v,a'=a.put (Qx ops m) v∧K.p v w'∧Keep S w w') a w
def VSteps (P:Program) (ops:Array Oper) (Q:Exit→Act→World→Prop) (V:List Kn) (n m:Nat) (a0:Act) (w0:World) (S:Nat→Prop):Nat→List Kn→Prop
 | _,[]=>True
 | i,K::Ks=>(i≠m→VStep P ops Q V n a0 w0 S i K)∧VSteps P ops Q V n m a0 w0 S (i+1) Ks
theorem vsteps_nil {i:Nat}:VSteps P ops Q V n m a0 w0 S i []:=trivial
theorem Xx {i:Nat} (j:Nat) {K:Kn} {Ks:List Kn} (hj:j=i+1) (h:VStep P ops Q V n a0 w0 S i K) (hr:VSteps P ops Q V n m a0 w0 S j Ks):VSteps P ops Q V n m a0 w0 S i (K::Ks):=⟨fun _=>h,by subst hj;exact hr⟩
theorem vsteps_turn {i:Nat} (j:Nat) {K:Kn} {Ks:List Kn} (hj:j=i+1) (hm:i=m) (hr:VSteps P ops Q V n m a0 w0 S j Ks):VSteps P ops Q V n m a0 w0 S i (K::Ks):=⟨fun h=>(h hm).elim,by subst hj;exact hr⟩
theorem vsteps_at:∀ (Ks:List Kn) (i:Nat),VSteps P ops Q V n m a0 w0 S i Ks→∀ k K,Ks[k]?=some K→i+k≠m→VStep P ops Q V n a0 w0 S (i+k) K
 | [],_,_,k,K,h,_=>by simp at h
 | K0::Ks,i,h,0,K,hk,hm=>by simp at hk;subst hk;exact h.1 hm
 | K0::Ks,i,h,k+1,K,hk,hm=>by
  have:=vsteps_at Ks (i+1) h.2 k K (by simpa using hk) (by omega)
  rw [show i+(k+1)=i+1+k by omega]
  exact this
def lateB (ops:Array Oper) (n m:Nat) (early:List Nat):Bool:=(List.range n).all fun i=>i == m || early.contains i || (List.range i).any fun j=>(j == m || !early.contains j) && Region.waitsFor .any ops i j
theorem freeV_go (early:List Nat) (hnV:V.length=n) (hmn:m<n) (hB:freeB ops n a0.tmps.size=true) (hL:lateB ops n m early=true) (hsafe:∀ i,i ∈ early→(jJ V i).safe S) (hst:∀ i K,V[i]?=some K→i≠m→VStep P ops Q V n a0 w0 S i K) (htn:VTurn P ops Q V n a0 w0 S m (jJ V m))
  (hfin:∀ a w,VInv ops V n m a0 w0 S (Array.replicate n true++Array.replicate (ops.size-n) false) a w→wpAny P .any ops Q (ops.size-n) (Array.replicate n true++Array.replicate (ops.size-n) false) a w) :
  ∀ (f:Nat) (U:List Nat) (ls:Array Bool) (a:Act) (w:World),U.length=f→U.Nodup→(∀ i,i ∈ U↔i<n∧ls.getD i true=false)→VInv ops V n m a0 w0 S ls a w→wpAny P .any ops Q (f+(ops.size-n)) ls a w:=by
 obtain ⟨hn,hsc,hseq,hall⟩:=jj hB
 have hop:∀ i,i<n→∃ o d,ops[i]?=some o∧o.dst=some d∧d<a0.tmps.size∧(∀ j,j<i→Qx ops j≠some d)∧∀ e ∈ o.after,Region.binds .any e=true→e.on<i:=by
  intro i hi
  have h:=List.all_eq_true.1 hall i (by simpa using hi)
  cases ho:ops[i]? with
  | none=>rw [ho] at h;cases h
  | some o=>
   rw [ho] at h
   simp only [Bool.and_eq_true] at h
   cases hd:o.dst with
   | none=>rw [hd] at h;cases h.1
   | some d=>
    rw [hd] at h
    simp only [Bool.and_eq_true,decide_eq_true_eq,List.all_eq_true,List.mem_range,bne_iff_ne] at h
    refine ⟨o,d,rfl,hd,h.1.1,h.1.2,fun e he hb=>?_⟩
    have h2:=(Array.all_eq_true_iff_forall_mem.1 h.2) e he
    simpa [hb] using h2
 intro f
 induction f with
 | zero=>
  intro U ls a w hU _ hmem inv
  have hnil:U=[]:=List.eq_nil_of_length_eq_zero hU
  have hls:ls=Array.replicate n true++Array.replicate (ops.size-n) false:=by
   apply Array.ext
   ·simp [inv.head.size];omega
   intro i h1 h2
   have hsz:=inv.head.size
   by_cases hi:i<n
   ·have h3:¬ (i<n∧ls.getD i true=false):=by
     intro h
     have:=(hmem i).2 h
     rw [hnil] at this
     cases this
    have h4:ls.getD i true=true:=by
     cases hq:ls.getD i true with
     | true=>rfl
     | false=>exact (h3 ⟨hi,hq⟩).elim
    rw [Array.getElem_append_left (by simpa using hi)]
    simp [h1] at h4
    simp [h4]
   have h4:=inv.head.tail i (by omega) (by omega)
   rw [Array.getElem_append_right (by simpa using hi)]
   simp [h1] at h4
   simp [h4]
  rw [Nat.zero_add]
  subst hls
  exact hfin a w inv
 | succ f ih=>
  intro U ls a w hU hnd hmem inv
  have hsz:=inv.head.size
  rw [show f+1+(ops.size-n)=(f+(ops.size-n))+1 by omega]
  obtain ⟨u,hu⟩:∃ u,u ∈ U:=by
   cases U with
   | nil=>simp at hU
   | cons u U=>exact ⟨u,by simp⟩
  obtain ⟨hun,huf⟩:=(hmem u).1 hu
  refine ⟨fun h0=>?_,fun i hi=>?_⟩
  ·exfalso
   have key:∀ k i,i≤k→i<n→ls.getD i true=true:=by
    intro k
    induction k using Nat.strongRecOn with
    | _ k ihk=>
     intro i hik hin
     cases hq:ls.getD i true with
     | true=>rfl
     | false=>
      obtain ⟨o,d,ho,_,_,_,haft⟩:=hop i hin
      have:i ∈ Region.ready .any ops ls:=mem_ready.2 ⟨hq,o,ho,fun e he hb=>by
       have hlt:=haft e he hb
       have:=ihk (k-1) (by omega) e.on (by omega) (by omega)
       exact getD_tf this (by omega)⟩
      rw [h0] at this
      cases this
   rw [key u u (Nat.le_refl _) hun] at huf
   cases huf
  have hin:i<n:=Nat.lt_of_not_le fun h=>tail_waits (hsc (Nat.lt_of_le_of_lt h (by obtain ⟨_,o1,ho1,_⟩:=mem_ready.1 hi;exact (Array.getElem?_eq_some_iff.1 ho1).1))).1 (hsc (Nat.lt_of_le_of_lt h (by obtain ⟨_,o1,ho1,_⟩:=mem_ready.1 hi;exact (Array.getElem?_eq_some_iff.1 ho1).1))).2 (Nat.lt_of_le_of_lt h (by obtain ⟨_,o1,ho1,_⟩:=mem_ready.1 hi;exact (Array.getElem?_eq_some_iff.1 ho1).1)) inv.head _ u rfl hun huf i h hi
  obtain ⟨hiun,oi,hoi,hdeps⟩:=mem_ready.1 hi
  obtain ⟨o,d,ho,hd,hdlt,hne,haft⟩:=hop i hin
  obtain rfl:oi=o:=Option.some.inj (hoi.symm.trans ho)
  have hdi:Qx ops i=some d:=by simp [Qx,ho,hd]
  have hiff:ls.getD i false=false:=getD_both hiun
  have hne':∀ j,j<n→j≠i→Qx ops j≠some d:=by
   intro j hj hij hjd
   by_cases hji:j<i
   ·exact hne j hji hjd
   obtain ⟨oj,dj,hoj,hdj,_,hnej,_⟩:=hop j hj
   have:dj=d:=by
    have h1:Qx ops j=some dj:=by simp [Qx,hoj,hdj]
    rw [h1] at hjd
    injection hjd
   subst this
   exact hnej i (by omega) hdi
  have hdlt':d<a.tmps.size:=by rw [inv.size];exact hdlt
  have hself:∀ v,(a.put (some d) v).tmps.getD d undef=v:=fun v=>by simp [Act.put,hdlt']
  have hoth:∀ v j e,j<n→j≠i→Qx ops j=some e→(a.put (some d) v).tmps.getD e undef=a.tmps.getD e undef:=by
   intro v j e hj hji he
   have:d≠e:=fun h=>hne' j hj hji (by rw [he,h])
   simp only [Act.put,Array.getD_eq_getD_getElem?,qy]
   rw [if_neg (fun h=>this h.1)]
  have hfe:FEnv ops n a0 a:=by
   intro t v ht hv
   have ht':∀ k,k<n→ls.getD k false=true→Qx ops k≠some t:=fun k hkn _=>by simpa using List.all_eq_true.1 ht k (by simpa using hkn)
   have h1:=inv.env t ht'
   rw [← hv]
   simp only [Act.eval,Array.getD_eq_getD_getElem?,h1]
  have hU':∀ k,k ∈ U.erase i↔k<n∧(ls.setIfInBounds i true).getD k true=false:=by
   intro k
   rw [hnd.mem_erase_iff,hmem k]
   by_cases hki:k=i
   ·subst hki
    simp
   rw [getD_set_ne true (fun h=>hki h.symm)]
   simp [hki]
  have henv:∀ v t,(∀ k,k<n→(ls.setIfInBounds i true).getD k false=true→Qx ops k≠some t)→(a.put (some d) v).tmps[t]?=a0.tmps[t]?:=by
   intro v t ht
   have h1:=inv.env t (fun k hkn hl=>ht k hkn (getD_set_true hl))
   have h2:d≠t:=fun h=>ht i hin (by simp [show i<ls.size by omega]) (by rw [hdi,h])
   simp only [Act.put,qy]
   rw [if_neg (fun h=>h2 h.1),h1]
  have hlen:(U.erase i).length=f:=by rw [List.length_erase_of_mem ((hmem i).2 ⟨hin,hiun⟩)];omega
  have hsetk:∀ k,k≠i→(ls.setIfInBounds i true).getD k false=ls.getD k false:=fun k hk=>getD_set_ne false (fun h=>hk h.symm)
  have hseti:(ls.setIfInBounds i true).getD i false=true:=by simp [show i<ls.size by omega]
  have hdep:FDep ops V i a w:=by
   intro j e hje
   simp only [Bool.and_eq_true,beq_iff_eq,ho,Option.map_some,Option.some.injEq,Array.any_eq_true'] at hje
   obtain ⟨⟨x,hx,hxb,hxj⟩,hdj⟩:=hje
   subst hxj
   exact inv.vals x.on e (by have:=haft x hx hxb;omega) (hdeps x hx hxb) hdj
  have hK:V[i]?=some (jJ V i):=by
   unfold jJ
   rw [List.getD_eq_getElem?_getD,List.getElem?_eq_getElem (by omega)]
   rfl
  by_cases him:i=m
  ·subst him
   have hk:=inv.kept hiff
   have hlate:∀ j,j<n→ls.getD j false=true→j ∈ early:=by
    intro j
    induction j using Nat.strongRecOn with
    | _ j ihj=>
     intro hj hlj
     have h:=List.all_eq_true.1 hL j (by simpa using hj)
     simp only [Bool.or_eq_true,beq_iff_eq,List.any_eq_true,List.mem_range,Bool.and_eq_true,Bool.not_eq_true',List.contains_iff_mem] at h
     rcases h with (h | h) | ⟨q,hq1,hq2,hq3⟩
     ·subst h
      rw [hiff] at hlj
      cases hlj
     ·exact h
     exfalso
     obtain ⟨oj,dj,hoj,_,_,_,_⟩:=hop j hj
     obtain ⟨e,he,hb,heq⟩:=waits_on hq3 hoj
     have hlq:=inv.head.closed j oj hoj hlj e he hb
     rw [heq] at hlq
     rcases hq2 with h | h
     ·subst h
      rw [hiff] at hlq
      cases hlq
     have:=ihj q hq1 (by omega) hlq
     have h':early.contains q=true:=by simpa using this
     rw [h'] at h
     cases h
   refine wpOp_mono ?_ (htn a w hfe hdep hk)
   rintro a' w' ⟨v,rfl,hKp,hkS⟩
   rw [hdi]
   refine ih (U.erase i) _ _ w' hlen (hnd.erase _) hU' ⟨inv.head.set hi hin,inv.defers,by simp [Act.put,inv.size],henv v,fun k e hkn hlk he=>?_,inv.keep.trans hkS (fun _ _ h=>h),fun hl=>?_⟩
   ·by_cases hki:k=i
    ·subst hki
     rw [hdi] at he
     injection he with he
     subst he
     rw [hself]
     exact hKp
    rw [hsetk k hki] at hlk
    rw [hoth v k e hkn hki he]
    exact hsafe k (hlate k hkn hlk) _ _ _ (inv.vals k e hkn hlk he) hkS
   rw [hseti] at hl
   cases hl
  refine wpOp_mono ?_ (hst i _ hK him a w hfe hdep inv.keep)
  rintro a' w' ⟨v,rfl,hv,hk⟩
  rw [hdi]
  refine ih (U.erase i) _ _ w' hlen (hnd.erase _) hU' ⟨inv.head.set hi hin,inv.defers,by simp [Act.put,inv.size],henv v,fun k e hkn hlk he=>?_,inv.keep.kept hk,fun hl=>?_⟩
  ·by_cases hki:k=i
   ·subst hki
    rw [hdi] at he
    injection he with he
    subst he
    rw [hself]
    exact hv
   rw [hsetk k hki] at hlk
   rw [hoth v k e hkn hki he]
   exact (jJ V k).st _ _ _ (inv.vals k e hkn hlk he) hk
  rw [hsetk m (fun h=>him h.symm)] at hl
  exact (inv.kept hl).trans hk
theorem actV_filled {a:Act} {w:World} {ls:Array Bool} (hl:∀ i,i<n→ls.getD i false=true) (inv:VInv ops V n m a0 w0 S ls a w):a=⟨(Ux ops n).foldl (fun t d=>t.setIfInBounds d (a.tmps.getD d undef)) a0.tmps,a0.defers⟩:=by
 obtain ⟨t,df⟩:=a
 have h1:=inv.defers
 simp only at h1
 subst h1
 congr 1
 apply Array.ext_getElem?
 intro e
 rw [zU]
 have hsz:=inv.size
 simp only at hsz
 by_cases hm:e ∈ Ux ops n
 ·by_cases hlt:e<a0.tmps.size
  ·rw [if_pos ⟨hm,hlt⟩]
   have:e<t.size:=by omega
   simp [this]
  rw [if_neg (fun h=>hlt h.2),Array.getElem?_eq_none (by omega),Array.getElem?_eq_none (by omega)]
 rw [if_neg (fun h=>hm h.1)]
 exact inv.env e (fun i hi _ h=>hm (List.mem_filterMap.2 ⟨i,by simpa using hi,h⟩))
theorem wp_freeV {id:Nat} {a:Act} {w:World} {l:List Oper} (n m:Nat) (early:List Nat) (V:List Kn) (S:Nat→Prop) (hmo:P.follows Departure.mixedOrders=true) (hV:V.length=n) (hmn:m<n) (hB:freeB l.toArray n a.tmps.size=true) (hL:lateB l.toArray n m early=true)
  (hsafe:∀ i,i ∈ early→(jJ V i).safe S) (hs:VSteps P l.toArray Q V n m a w S 0 V) (hm:VTurn P l.toArray Q V n a w S m (jJ V m))
  (hf:∀ (g:Nat→Value) w',FVals l.toArray V g w'→Keep S w w'→wpList P l.toArray Q (l.drop n) ⟨(Ux l.toArray n).foldl (fun t d=>t.setIfInBounds d (g d)) a.tmps,a.defers⟩ w'):(Code.region id l.toArray true).wp P Q a w:=by
 have hB':=hB
 obtain ⟨hn,_,hseq,_⟩:=jj hB'
 have hn':n≤l.length:=by simpa using hn
 have hdl:(l.drop n).length=l.toArray.size-n:=by simp
 refine wp_region_any hmo ?_
 have:=freeV_go (P:=P) (Q:=Q) (w0:=w) early hV hmn hB hL hsafe (fun i K hK him=>by
  have:=vsteps_at V 0 hs i K hK (by omega)
  rwa [Nat.zero_add] at this) hm (fun b u inv=>?_) n (List.range n) (Array.replicate l.toArray.size false) a w.drew (by simp) List.nodup_range ?_ ?_
 ·have e:n+(l.toArray.size-n)=l.toArray.size:=by omega
  rw [e] at this
  exact this
 ·have hl:∀ i,i<n→(Array.replicate n true++Array.replicate (l.toArray.size-n) false).getD i false=true:=by
   intro i hi
   have hlt:i<(Array.replicate n true++Array.replicate (l.toArray.size-n) false).size:=by simp;omega
   rw [Array.getD,dif_pos hlt]
   show (Array.replicate n true++Array.replicate (l.toArray.size-n) false)[i]=true
   rw [Array.getElem_append_left (by simpa using hi)]
   simp
  have h4:=hf (fun d=>b.tmps.getD d undef) u (fun i d hid=>by
   simp only [Bool.and_eq_true,decide_eq_true_eq,beq_iff_eq] at hid
   exact inv.vals i d (by omega) (hl i (by omega)) hid.2) inv.keep
  rw [← actV_filled hl inv] at h4
  have:=wpAny_of_seq (P:=P) (md:=.any) (ops:=l.toArray) (Q':=Q) (l.drop n) n _ b u (fun j=>by simp) (by rw [hdl];exact hseq) h4
  rw [hdl] at this
  exact this
 ·intro i
  rw [List.mem_range]
  constructor
  ·intro hi
   exact ⟨hi,getD_in (by simp;omega) (getD_replicate_false _ _)⟩
  exact fun h=>h.1
 refine ⟨⟨by simp,fun j oj _ hl=>(by rw [getD_replicate_false] at hl;cases hl),fun t _ ht=>getD_in (by simpa using ht) (getD_replicate_false _ _)⟩,rfl,rfl,fun _ _=>rfl,fun i d _ hl=>(by rw [getD_replicate_false] at hl;cases hl),Keep.drew (Keep.refl _ w),fun _=>Keep.drew (Keep.refl _ w)⟩
variable {a:Act} {w:World} {o:Oper} {K:Kn}
theorem v_call (f:Nat) (args:Array Value) (ho:ops[m]?=some o) (hw:Region.wanted o (yielded ops a.tmps)=true) (h:(execOp a.eval o).run P w=.ok (.enter f args) w)
  (hc:Calls P f args w fun e w'=>∃ v,e=.returned v∧K.p v w'∧Keep S w w'):wpOp P ops Q m (fun a' w'=>∃ v,a'=a.put (Qx ops m) v∧K.p v w'∧Keep S w w') a w:=by
 unfold wpOp
 simp only [ho,hw,if_true]
 refine .inl ?_
 unfold Oper.wp
 rw [h,Oper.upon_enter]
 refine hc.mono ?_
 rintro e w' ⟨v,rfl,hv,hk⟩
 exact ⟨v,by simp [Qx,ho],hv,hk⟩
end
theorem restM_at {o:Ord} {R:List Lev}:∀ {A:List Lev},(∀ x ∈ A,bet o.side x.1 o.price=true)→Wj o (A++R)=A++Wj o R
 | [],_=>rfl
 | a::A,hA=>by
  rw [List.cons_append,Wj,if_pos (hA a (by simp)),restM_at (fun x hx=>hA x (by simp [hx]))]
  rfl
def Kn.newl (base:Nat) (pr:Int):Kn:=⟨fun v w=>∃ q F,v=.pointer (some ⟨q,0,none⟩)∧Lvl pr 116 113 w F q []∧∀ b,F b→base≤b,fun _ _ _ ⟨q,F,h1,h2,h3⟩ hk=>⟨q,F,h1,h2.kept hk,h3⟩⟩
def Kn.onel (base:Nat) (pr:Int):Kn:=⟨fun v w=>∃ g q F,v=.slice (some ⟨g,0,none⟩) 1 1∧Blk w g 107 [.pointer (some ⟨q,0,none⟩)]∧Lvl pr 116 113 w F q []∧(∀ b,F b→base≤b)∧base≤g∧¬ F g,fun _ _ _ ⟨g,q,F,h1,h2,h3,h4⟩ hk=>⟨g,q,F,h1,h2.kept hk,h3.kept hk,h4⟩⟩
theorem Kn.safe_newl {S:Nat→Prop} {base:Nat} {pr:Int} (h:∀ b,base≤b→¬ S b):(Kn.newl base pr).safe S:=fun _ _ _ ⟨q,F,h1,h2,h3⟩ hk=>⟨q,F,h1,h2.keep hk (fun b hb=>h b (h3 b hb)),h3⟩
theorem Kn.safe_onel {S:Nat→Prop} {base:Nat} {pr:Int} (h:∀ b,base≤b→¬ S b):(Kn.onel base pr).safe S:=fun _ _ _ ⟨g,q,F,h1,h2,h3,h4,h5,h6⟩ hk=>⟨g,q,F,h1,h2.keep hk (h g h5),h3.keep hk (fun b hb=>h b (h4 b hb)),h4,h5,h6⟩
def Kn.ins (base:Nat) (pr:Int) (v:Value) (n:Nat) (Z:Zs) (i:Nat):Kn:=⟨fun v' w=>∃ q F,Sl w 107 1 v' (n+1) (insP Z i q)∧Lvl pr 116 113 w F q []∧(∀ b,F b→base≤b)∧∀ b,v'.ownBlock=some b→(v.ownBlock=some b∨base≤b)∧¬ F b,fun _ _ _ ⟨q,F,h1,h2,h3⟩ hk=>⟨q,F,h1.kept hk,h2.kept hk,h3⟩⟩
theorem ins_kn (u W:World) (v:Value) (n i:Nat) (Z:Zs) (g1 q:Nat) (pr:Int) (F:Nat→Prop) (hk:Kept W u) (hS:Sl W 107 1 v n (ptrs Z)) (hn:n≤1000) (hi:i≤n) (h1:Blk u g1 107 [.pointer (some ⟨q,0,none⟩)]) (hl:Lvl pr 116 113 u F q []) (hf:∀ b,F b→W.heap.size≤b) (hg:W.heap.size≤g1) (ho:∀ b,v.ownBlock=some b→b<W.heap.size) :
  Calls Tryz.prog 116 #[v,.int .i64 (i:Int),.slice (some ⟨g1,0,none⟩) 1 1] u fun e w'=>∃ v',e=.returned v'∧(Kn.ins W.heap.size pr v n Z i).p v' w'∧Keep (fun b=>v.ownBlock=some b) u w':=by
 have hz:=hk.size
 refine (linsert_any u v n i Z g1 q (hS.kept hk) hn hi h1 (fun b hb e=>by have:=ho b hb;omega)).mono ?_
 rintro r w' ⟨v',rfl,h2,h3,h4⟩
 refine ⟨v',rfl,⟨q,F,h2,hl.keep h3 (fun b hb h=>by have:=ho b h;have:=hf b hb;omega),hf,fun b hb=>⟨(h4 b hb).imp id (fun h=>by omega),fun h=>?_⟩⟩,h3⟩
 rcases h4 b hb with h5 | h5
 ·have:=ho b h5
  have:=hf b h
  omega
 have:=hl.2.1 b h
 omega
def AtIn (w:World) (Fs:Nat→Prop) (p:Nat) (s:Int) (u0:Value) (last no:Int) (L:List Lev) (price:Int) (r:Ending) (w':World):Prop:=
 ∃ q X ZA ZR v' Fs' G',r=.returned (.pointer (some ⟨q,0,none⟩))∧WayZ 116 113 107 w' Fs' v' (ZA++(q,price,X)::ZR) G'∧Blk w' p 82 (WW s v' u0 last no)∧Grow w Fs Fs'∧Keep (fun b=>Fs b∨b=p) w w'∧X.length≤64∧∀ o:Ord,o.side=s→o.price=price→Wj o L=levs ZA++(price,X++[Ent.of o])::levs ZR
theorem at_any (w:World) (Fs:Nat→Prop) (p:Nat) (s price:Int) (v u0:Value) (last no:Int) (Z:Zs) (G:Nat→Nat→Prop) (L:List Lev) (hs:s=1∨s=2) (hW:WayZ 116 113 107 w Fs v Z G) (hB:Blk w p 82 (WW s v u0 last no)) (hFs:∀ b,Fs b→b≠p) (eL:levs Z=L) (hL:LvsOk L) :
  Calls Tryz.prog 108 #[.pointer (some ⟨p,Qz s,none⟩),.int .i64 price] w (AtIn w Fs p s u0 last no L price):=by
 have hn64:Z.length≤64:=by have:=hL.len;rw [← eL,YU] at this;exact this
 have HV:Hid (w.cell? ⟨p,Qz s+1,none⟩=some v):=by show _=_;rw [hB.cell];exact zV s _ _ _ _
 have HS:Hid (w.cell? ⟨p,Qz s,none⟩=some (.int .i64 s)):=by show _=_;rw [hB.cell];exact sideCs_side hs _ _ _ _
 have HB:=Kj hB
 have HW:=Kj hW
 have HL:=Kj hL
 have EL:=Kj eL
 obtain ⟨n,hn⟩:∃ n,Z.length=n:=⟨_,rfl⟩
 have HSL:=Kj hW.sl
 rw [hn] at HSL hn64
 have HN:=Kj hn
 have hpl:=hB.lt
 have ho3:=offS_le s
 clear hB hW hL eL hn
 go_enter Tryz.func108,Tryz.ntmps108
 go_upto_region 1 with fail
 refine wE 1 [iV 0] [5] ?_ ?_
 ·refine sW 1 rfl (fun a u E D hk=>JQ _ _ rfl rfl) ?_
  exact fz
 intro w0 k0
 simp only [F8]
 go_wp2_with fail
 go_loopw [5] (fun x wr=>∃ (k:Nat),k≤n∧x=.int .i64 k∧Hid (∀ x ∈ L.take k,bet s x.1 price=true)∧Kept w wr) (fun x _=>n-(intOf x).toNat)
 case atStart=>exact ⟨0,Nat.zero_le _,rfl,by intro x hx;simp at hx,k0⟩
 obtain ⟨i,hi,rfl,HM,hkr⟩:=hrel
 have HVr:=Kj (hkr.cell HV.out)
 have HSr:=Kj (hkr.cell HS.out)
 by_cases hlt:i<n
 ·skip
  obtain ⟨gs,os,c,rfl⟩:=HSL.out.some_ (by omega)
  obtain ⟨z,hz⟩:∃ z,Z[i]?=some z:=⟨Z[i]'(by rw [HN.out];omega),List.getElem?_eq_getElem (by rw [HN.out];omega)⟩
  obtain ⟨q,pr,X⟩:=z
  have HC:=Kj ((HW.out.kept hkr).cell hz)
  have HZ:=Kj (split_at hz)
  have HLV:=Kj ((HW.out.kept hkr).lv (q,pr,X) (List.mem_of_getElem? hz))
  have HX:=Kj (HL.out.one (l:=(pr,X)) (by rw [← EL.out];exact qq (List.mem_of_getElem? hz)))
  have HA:Hid (L[i]?=some (pr,X)):=by show _=_;rw [← EL.out];exact qU hz
  clear hz
  go_upto_region 2 with fail
  refine wGp 22 [iV (i:Int),pV p (Qz s),pV p (Qz s),pV p (Qz s+1),.slice (some ⟨gs,os,none⟩) n c,iV (n:Int),bV true,bV true,pV p (Qz s),pV p (Qz s),pV p (Qz s),iV s,pV p (Qz s),pV p (Qz s),pV p (Qz s+1),.slice (some ⟨gs,os,none⟩) n c,iV (i:Int),pV gs (os+i*1),pV q 0,iV pr,iV price,bV (bet s pr price)] [6,7,8,9,10,11,12,13,14,15,16,17,18,19,20,21,22,23,24,25,26,27] ?_ ?_
  ·refine mE 1 5 ?_
   refine mE 2 0 ?_
   refine nD 3 7 1 ?_
   refine fD 4 8 2 80 1 1 (Qz s) ?_
   refine sW 5 rfl (fun a u E D hk=>Jy _ _ Tryz.underlying78 _ _ _ rfl (dD D 3) (Kept.cell hk (HVr.out))) ?_
   refine sW 6 rfl (fun a u E D hk=>ZZ _ _ _ slQ.und (some ⟨gs,os,none⟩) n c rfl (dD D 4)) ?_
   refine aS 7 rfl (fun a u E D hk=>Wq rfl (dD D 0) (dD D 5)) (Ky (by omega)) ?_
   refine mD 8 12 6 ?_
   refine mE 9 0 ?_
   refine nD 10 14 8 ?_
   refine fD 11 15 9 80 0 0 (Qz s) ?_
   refine lD 12 16 10 Tryz.underlying3 (fun u hk=>Kept.cell hk (HSr.out)) ?_
   refine mE 13 0 ?_
   refine nD 14 18 12 ?_
   refine fD 15 19 13 80 1 1 (Qz s) ?_
   refine sW 16 rfl (fun a u E D hk=>Jy _ _ Tryz.underlying78 _ _ _ rfl (dD D 14) (Kept.cell hk (HVr.out))) ?_
   refine mE 17 5 ?_
   refine sW 18 rfl (fun a u E D hk=>Jz slQ _ _ (gs) (os) n c i (os+i*1) ((i:Int)) rfl (dD D 15) (dD D 16) (by first | rfl | omega) (hlt) (by first | rfl | omega)) ?_
   refine sW 19 rfl (fun a u E D hk=>XY _ _ Tryz.underlying107 _ _ _ rfl (dD D 17) (Kept.cell hk (HC.out))) ?_
   refine cS 20 85 [.pointer (some ⟨q,0,none⟩)] rfl Tryz.func85 rfl (fun a u E D hk=>⟨ll (dD D 18) rfl,yX u _ q X (HLV.out.kept hk)⟩) ?_
   refine mE 21 1 ?_
   refine cS 22 91 [.int .i64 s,.int .i64 pr,.int .i64 price] rfl Tryz.func91 rfl (fun a u E D hk=>⟨ll (dD D 11) (ll (dD D 19) (ll (dD D 20) rfl)),better_any s pr price u⟩) ?_
   exact fz
  intro w1 k1
  simp only [F8]
  refine Jx (.bool (bet s pr price)) rfl (qV (.tmp 13) (.tmp 27) (.const (.bool false)) (.bool (bet s pr price)) rfl (by kernel_rfl) (by kernel_rfl)) ?_
  simp only [Act.put,sA,sS,sZ]
  refine Kx ?_
  have kw1:=hkr.trans k1
  have HC1:=Kj (k1.cell HC.out)
  have HLV1:=Kj (HLV.out.kept k1)
  have HV1:=Kj (kw1.cell HV.out)
  have HSL1:=Kj (HSL.out.kept kw1)
  clear HC HLV HVr HSr k1
  cases hb:bet s pr price with
  | true=>
   have HM1:Hid (∀ x ∈ L.take (i+1),bet s x.1 price=true):=by
    intro x hx
    rw [List.take_add_one,HA.out] at hx
    rcases List.mem_append.1 hx with hx | hx
    ·exact HM.out x hx
    simp at hx
    subst hx
    exact hb
   clear HM hb
   go_wp2
   exact ⟨⟨i+1,by omega,by go_num,HM1,kw1⟩,by simp [intOf];omega⟩
  | false=>
   have HD:Hid (L=levs (Z.take i)++(pr,X)::levs (Z.drop (i+1))):=by
    show _=_
    rw [← EL.out]
    conv=>lhs;rw [HZ.out]
    rw [WX,Wy]
   have HT:Hid (∀ x ∈ levs (Z.take i),bet s x.1 price=true):=by
    have e2:L.take i=levs (Z.take i):=by rw [← EL.out];simp [levs,List.map_take]
    rw [e2] at HM
    exact HM.out
   have HBF:=Kj hb
   clear hb HM
   by_cases hpr:pr=price
   ·have HPR:=Kj hpr
    clear hpr
    go_upto_region 4 with fail
    refine wE 19 [iV (i:Int),pV p (Qz s),pV p (Qz s),pV p (Qz s+1),.slice (some ⟨gs,os,none⟩) n c,iV (n:Int),bV false,bV false,pV p (Qz s),pV p (Qz s),pV p (Qz s+1),.slice (some ⟨gs,os,none⟩) n c,iV (i:Int),pV gs (os+i*1),pV q 0,iV pr,iV price,bV false,bV false] [31,32,33,34,35,36,37,38,39,40,41,42,43,44,45,46,47,48,49] ?_ ?_
    ·refine mE 1 5 ?_
     refine mE 2 0 ?_
     refine nD 3 32 1 ?_
     refine fD 4 33 2 80 1 1 (Qz s) ?_
     refine sW 5 rfl (fun a u E D hk=>Jy _ _ Tryz.underlying78 _ _ _ rfl (dD D 3) (Kept.cell hk (HV1.out))) ?_
     refine sW 6 rfl (fun a u E D hk=>Qq _ slQ _ _ _ _ rfl (dD D 4) HSL1.out) ?_
     refine aS 7 rfl (fun a u E D hk=>JU rfl (dD D 0) (dD D 5)) (Ku (by omega)) ?_
     refine mD 8 37 6 ?_
     refine mE 9 0 ?_
     refine nD 10 39 8 ?_
     refine fD 11 40 9 80 1 1 (Qz s) ?_
     refine sW 12 rfl (fun a u E D hk=>Jy _ _ Tryz.underlying78 _ _ _ rfl (dD D 10) (Kept.cell hk (HV1.out))) ?_
     refine mE 13 5 ?_
     refine sW 14 rfl (fun a u E D hk=>Jz slQ _ _ (gs) (os) n c i (os+i*1) ((i:Int)) rfl (dD D 11) (dD D 12) (by first | rfl | omega) (hlt) (by first | rfl | omega)) ?_
     refine sW 15 rfl (fun a u E D hk=>XY _ _ Tryz.underlying107 _ _ _ rfl (dD D 13) (Kept.cell hk (HC1.out))) ?_
     refine cS 16 85 [.pointer (some ⟨q,0,none⟩)] rfl Tryz.func85 rfl (fun a u E D hk=>⟨ll (dD D 14) rfl,yX u _ q X (HLV1.out.kept hk)⟩) ?_
     refine mE 17 1 ?_
     refine aS 18 rfl (fun a u E D hk=>YZ rfl (dD D 15) (dD D 16)) (Ku (by have:=HPR.out;omega)) ?_
     refine sW 19 rfl (fun a u E D hk=>Zj _ _ _ _ rfl (dD D 7) (dD D 17)) ?_
     exact fz
    intro w2 kw2
    simp only [F8]
    have kw2:=kw1.trans kw2
    have HV2:=Kj (kw2.cell HV.out)
    have HC2:=Kj ((HW.out.kept kw2).cell (z:=(q,pr,X)) (i:=i) (by rw [HZ.out,List.getElem?_append_right (by rw [List.length_take];omega),List.length_take,HN.out,Nat.min_eq_left (by omega),Nat.sub_self];rfl))
    clear HV1 HC1 HLV1 HSL1
    go_upto_region 6 with fail
    refine wE 8 [pV p (Qz s),pV p (Qz s),pV p (Qz s+1),.slice (some ⟨gs,os,none⟩) n c,iV (i:Int),pV gs (os+i*1),pV q 0,pV q 0] [62,63,64,65,66,67,68,4] ?_ ?_
    ·refine mE 1 0 ?_
     refine nD 2 62 0 ?_
     refine fD 3 63 1 80 1 1 (Qz s) ?_
     refine sW 4 rfl (fun a u E D hk=>Jy _ _ Tryz.underlying78 _ _ _ rfl (dD D 2) (Kept.cell hk (HV2.out))) ?_
     refine mE 5 5 ?_
     refine sW 6 rfl (fun a u E D hk=>Jz slQ _ _ (gs) (os) n c i (os+i*1) ((i:Int)) rfl (dD D 3) (dD D 4) (by first | rfl | omega) (hlt) (by first | rfl | omega)) ?_
     refine sW 7 rfl (fun a u E D hk=>XY _ _ Tryz.underlying107 _ _ _ rfl (dD D 5) (Kept.cell hk (HC2.out))) ?_
     refine mD 8 68 6 ?_
     exact fz
    intro wz kz
    simp only [F8]
    have kwz:=kw2.trans kz
    have HR:Hid (∀ o:Ord,o.side=s→o.price=price→Wj o L=levs (Z.take i)++(price,X++[Ent.of o])::levs (Z.drop (i+1))):=fun o h1 h2=>by
     rw [HD.out,restM_at (by rw [h1,h2];exact HT.out),Wj,h1,h2,if_neg (by rw [HBF.out];simp),if_pos HPR.out,HPR.out]
    have HWz:Hid (WayZ 116 113 107 wz Fs (.slice (some ⟨gs,os,none⟩) n c) (Z.take i++(q,price,X)::Z.drop (i+1)) G):=by show WayZ _ _ _ _ _ _ _ _;rw [← HPR.out,← HZ.out];exact HW.out.kept kwz
    have HBz:=Kj (HB.out.kept kwz)
    clear kz
    go_wp2
    go_ret
    exact ⟨q,X,Z.take i,Z.drop (i+1),_,Fs,G,rfl,HWz.out,HBz.out,Grow.refl _ _,Keep.mono (T:=fun b=>Fs b∨b=p) kwz (fun _ _ h=>h.elim),HX.out,HR.out⟩
   skip
   go_upto_region 4 with fail
   refine wE 19 [iV (i:Int),pV p (Qz s),pV p (Qz s),pV p (Qz s+1),.slice (some ⟨gs,os,none⟩) n c,iV (n:Int),bV false,bV false,pV p (Qz s),pV p (Qz s),pV p (Qz s+1),.slice (some ⟨gs,os,none⟩) n c,iV (i:Int),pV gs (os+i*1),pV q 0,iV pr,iV price,bV true,bV true] [31,32,33,34,35,36,37,38,39,40,41,42,43,44,45,46,47,48,49] ?_ ?_
   ·refine mE 1 5 ?_
    refine mE 2 0 ?_
    refine nD 3 32 1 ?_
    refine fD 4 33 2 80 1 1 (Qz s) ?_
    refine sW 5 rfl (fun a u E D hk=>Jy _ _ Tryz.underlying78 _ _ _ rfl (dD D 3) (Kept.cell hk (HV1.out))) ?_
    refine sW 6 rfl (fun a u E D hk=>Qq _ slQ _ _ _ _ rfl (dD D 4) HSL1.out) ?_
    refine aS 7 rfl (fun a u E D hk=>JU rfl (dD D 0) (dD D 5)) (Ku (by omega)) ?_
    refine mD 8 37 6 ?_
    refine mE 9 0 ?_
    refine nD 10 39 8 ?_
    refine fD 11 40 9 80 1 1 (Qz s) ?_
    refine sW 12 rfl (fun a u E D hk=>Jy _ _ Tryz.underlying78 _ _ _ rfl (dD D 10) (Kept.cell hk (HV1.out))) ?_
    refine mE 13 5 ?_
    refine sW 14 rfl (fun a u E D hk=>Jz slQ _ _ (gs) (os) n c i (os+i*1) ((i:Int)) rfl (dD D 11) (dD D 12) (by first | rfl | omega) (hlt) (by first | rfl | omega)) ?_
    refine sW 15 rfl (fun a u E D hk=>XY _ _ Tryz.underlying107 _ _ _ rfl (dD D 13) (Kept.cell hk (HC1.out))) ?_
    refine cS 16 85 [.pointer (some ⟨q,0,none⟩)] rfl Tryz.func85 rfl (fun a u E D hk=>⟨ll (dD D 14) rfl,yX u _ q X (HLV1.out.kept hk)⟩) ?_
    refine mE 17 1 ?_
    refine aS 18 rfl (fun a u E D hk=>YZ rfl (dD D 15) (dD D 16)) (Ky hpr) ?_
    refine sW 19 rfl (fun a u E D hk=>Zj _ _ _ _ rfl (dD D 7) (dD D 17)) ?_
    exact fz
   intro w2 kw2
   simp only [F8]
   have kW:=kw1.trans kw2
   have HRM:∀ o:Ord,o.side=s→o.price=price→Wj o L=levs (Z.take i)++(price,[]++[Ent.of o])::levs (Z.drop i):=fun o h1 h2=>by
    have e5:levs (Z.drop i)=(pr,X)::levs (Z.drop (i+1)):=by
     have:Z.drop i=(q,pr,X)::Z.drop (i+1):=by
      conv=>lhs;rw [HZ.out]
      rw [List.drop_append,List.drop_of_length_le (by rw [List.length_take];omega),List.nil_append,List.length_take,HN.out,Nat.min_eq_left (by omega),Nat.sub_self]
      rfl
     rw [this]
     rfl
    rw [e5,HD.out,restM_at (by rw [h1,h2];exact HT.out),Wj,h1,h2,if_neg (by rw [HBF.out];simp),if_neg (fun h=>hpr h)]
    rfl
   clear HV1 HC1 HLV1 HSL1
   have HWW:=Kj (HW.out.kept kW)
   have HBW:=Kj (HB.out.kept kW)
   have HVW:=Kj (kW.cell HV.out)
   have zW:=kW.size
   have hSo:∀ b,((.slice (some ⟨gs,os,none⟩) n c):Value).ownBlock=some b→b<w2.heap.size:=fun b hb=>HWW.out.sl.lt hb
   have HSo:=Kj hSo
   clear hSo
   go_upto_region 5 with fail
   refine wp_freeV 12 9 [0,1,2,3,4,5,6,7,8] [.eq (.pointer (some ⟨p,Qz s,none⟩)),.eq (.pointer (some ⟨p,Qz s,none⟩)),.eq (.pointer (some ⟨p,Qz s,none⟩)),.eq (.pointer (some ⟨p,Qz s+1,none⟩)),.eq (.slice (some ⟨gs,os,none⟩) n c),.eq (.int .i64 (i:Int)),.eq (.int .i64 price),.newl w2.heap.size price,.onel w2.heap.size price,.ins w2.heap.size price (.slice (some ⟨gs,os,none⟩) n c) n Z i,.eq (.pointer (some ⟨p,Qz s,none⟩)),.eq (.pointer (some ⟨p,Qz s+1,none⟩))] ((fun b=>((.slice (some ⟨gs,os,none⟩) n c):Value).ownBlock=some b)) (by kernel_rfl) rfl (by omega) (by kernel_rfl) (by kernel_rfl) ?_ ?_ (fun a u hE hD hk=>v_call (o:=⟨some 59,_,_,_,_,_⟩) 116 #[.slice (some ⟨gs,os,none⟩) n c,.int .i64 (i:Int),a.eval (.tmp 58)] rfl (JZ rfl _) (Jq 116 _ [.tmp 54,.tmp 55,.tmp 58] _ [.slice (some ⟨gs,os,none⟩) n c,.int .i64 (i:Int),a.eval (.tmp 58)] Tryz.func116 (by kernel_rfl) (by kernel_rfl) rfl (show [a.eval (.tmp 54),a.eval (.tmp 55),a.eval (.tmp 58)]=[.slice (some ⟨gs,os,none⟩) n c,.int .i64 (i:Int),a.eval (.tmp 58)] from (by rw [show a.eval (.tmp 54)=.slice (some ⟨gs,os,none⟩) n c from (dD hD 4),show a.eval (.tmp 55)=.int .i64 (i:Int) from (dD hD 5)] <;> rfl)) u) ((by obtain ⟨g1,q1,F1,hx,hb1,hl1,hf1,hg1,hn1⟩:=(hD 8 58 (by kernel_rfl));rw [hx];exact ins_kn u w2 (.slice (some ⟨gs,os,none⟩) n c) n i Z g1 q1 price F1 hk (by have h:=HWW.out.sl;rw [HN.out] at h;exact h) (by omega) (by omega) hb1 hl1 hf1 hg1 HSo.out))) ?_
   ·intro i hi
    have hi2:i=0∨i=1∨i=2∨i=3∨i=4∨i=5∨i=6∨i=7∨i=8:=by simpa using hi
    rcases hi2 with rfl | rfl | rfl | rfl | rfl | rfl | rfl | rfl | rfl
    ·exact Kn.safe_eq _ _
    ·exact Kn.safe_eq _ _
    ·exact Kn.safe_eq _ _
    ·exact Kn.safe_eq _ _
    ·exact Kn.safe_eq _ _
    ·exact Kn.safe_eq _ _
    ·exact Kn.safe_eq _ _
    ·exact Kn.safe_newl (fun b hb h=>by have:=HSo.out b h;omega)
    exact Kn.safe_onel (fun b hb h=>by have:=HSo.out b h;omega)
   ·refine Xx 1 rfl (fun a u hE hD hk=>YW (o:=⟨some 50,_,_,_,_,_⟩) (.pointer (some ⟨p,Qz s,none⟩)) rfl (JZ rfl _) (Jj (.tmp 0) _ rfl (eE hE)) rfl) ?_
    refine Xx 2 rfl (fun a u hE hD hk=>YW _ rfl (JZ rfl _) (Jj (.tmp 0) _ rfl (eE hE)) rfl) ?_
    refine Xx 3 rfl (fun a u hE hD hk=>YW _ rfl (JZ rfl _) (YY (.tmp 51) ⟨p,Qz s,none⟩ rfl (dD hD 1)) rfl) ?_
    refine Xx 4 rfl (fun a u hE hD hk=>YW _ rfl (JZ rfl _) (QV 80 1 1 (.tmp 52) (p) (Qz s) (Qz s+1) rfl (dD hD 2) (by kernel_rfl) rfl) rfl) ?_
    refine Xx 5 rfl (fun a u hE hD hk=>YW _ rfl (JZ rfl _) (Jy 78 _ Tryz.underlying78 (.tmp 53) ⟨p,Qz s+1,none⟩ (.slice (some ⟨gs,os,none⟩) n c) rfl (dD hD 3) (Keep.cell hk (HVW.out) ((fun e=>(hFs p (HWW.out.own p e).1) rfl)))) rfl) ?_
    refine Xx 6 rfl (fun a u hE hD hk=>YW _ rfl (JZ rfl _) (Jj (.tmp 5) _ rfl (eE hE)) rfl) ?_
    refine Xx 7 rfl (fun a u hE hD hk=>YW _ rfl (JZ rfl _) (Jj (.tmp 1) _ rfl (eE hE)) rfl) ?_
    refine Xx 8 rfl (fun a u hE hD hk=>VJ 117 #[.int .i64 price] rfl (JZ rfl _) (Jq 117 _ [.tmp 56] _ [.int .i64 price] Tryz.func117 (by kernel_rfl) (by kernel_rfl) rfl (show [a.eval (.tmp 56)]=[.int .i64 price] from (by rw [show a.eval (.tmp 56)=.int .i64 price from (dD hD 6)] <;> rfl)) u) ((lnew_any price u).mono (fun e w' ⟨q,F,h1,h2,h3,h4⟩=>⟨_,h1,⟨q,F,rfl,h2,fun b hb=>(h3 b hb).elim (fun h=>h.elim) (fun h=>Kv hk.size h)⟩,h4⟩))) ?_
    refine Xx 9 rfl (fun a u hE hD hk=>(by obtain ⟨q,F,hx,h2,h3⟩:=(hD 7 57 (by kernel_rfl));exact jx (.slice (some ⟨u.heap.size,0,none⟩) 1 1) _ rfl (JZ rfl _) (exec_oneP slQ (.tmp 57) q rfl hx) ⟨u.heap.size,q,F,rfl,Blk.new u _ _,h2.kept ((Keep.refl _ u).alloc _),h3,hk.size,fun h=>by have:=h2.2.1 _ h;omega⟩ ((Keep.refl _ u).alloc _))) ?_
    refine vsteps_turn 10 rfl rfl ?_
    refine Xx 11 rfl (fun a u hE hD hk=>YW _ rfl (JZ rfl _) (YY (.tmp 50) ⟨p,Qz s,none⟩ rfl (dD hD 0)) rfl) ?_
    refine Xx 12 rfl (fun a u hE hD hk=>YW _ rfl (JZ rfl _) (QV 80 1 1 (.tmp 60) (p) (Qz s) (Qz s+1) rfl (dD hD 10) (by kernel_rfl) rfl) rfl) ?_
    exact vsteps_nil
   intro gv wn hV ki
   rw [dq 12 [50,51,52,53,54,55,56,57,58,59,60,61]]
   simp only [Fz7]
   rw [show gv 61=.pointer (some ⟨p,Qz s+1,none⟩) from hV 11 61 (by kernel_rfl)]
   have hv59:(.ins w2.heap.size price (.slice (some ⟨gs,os,none⟩) n c) n Z i:Kn).p (gv 59) wn:=hV 9 59 (by kernel_rfl)
   generalize gv 59=v59 at hv59 ⊢
   clear hV
   obtain ⟨q1,F1,hSn,hl1,hf1,hon⟩:=hv59
   obtain ⟨vn,hvn⟩:∃ x,x=v59:=⟨_,rfl⟩
   subst hvn
   refine Zz 78 p (Qz s+1) 82 _ vn _ _ rfl rfl (by kernel_rfl) (by kernel_rfl) (by kernel_rfl) (VV hSn) (Yq hSn) (HBW.out.keep ki (fun e=>(hFs p (HWW.out.own p e).1) rfl)) (by rw [JJy];omega) ?_
   intro ws hBs hks hss
   simp only [Act.put]
   refine Kx ?_
   rw [sideCs_set] at hBs
   have hZ:Z=Z.take i++Z.drop i:=(List.take_append_drop i Z).symm
   have hAl:(Z.take i).length=i:=by rw [List.length_take,HN.out];omega
   have hins:insP Z i q1=ptrs (Z.take i++(q1,price,([]:List Ent))::Z.drop i):=by
    unfold insP
    rw [jz]
    simp [ptrs,List.map_take,List.map_drop]
   have hWi:WayZ 116 113 107 w2 Fs (.slice (some ⟨gs,os,none⟩) n c) (Z.take i++Z.drop i) G:=by rw [← hZ];exact HWW.out
   obtain ⟨Fs',G',hW',hG',hk',_⟩:=hWi.more (w':=wn) (v':=vn) (q:=q1) (pr:=price) (F1:=F1) ki
    (by rw [← hins,hAl,List.length_drop,HN.out,show i+1+(n-i)=n+1 by omega];exact hSn) hon hl1 hf1
   have hGw:Grow w Fs Fs':=hG'.wide zW
   have hpF:¬ Fs' p:=fun h=>(hGw p h).elim (fun h=>hFs p h rfl) (fun h=>by omega)
   have hW6:=hW'.keep hks (fun b hb e=>hpF (by rw [← e];exact hb))
   have K6:Keep (fun b=>Fs b∨b=p) w ws:=((Keep.mono (T:=fun b=>Fs b∨b=p) kW (fun _ _ h=>h.elim)).trans hk' (fun b _ h=>.inl h)).trans hks (fun b _ h=>.inr h)
   have HW6:=Kj hW6
   have HB6:=Kj hBs
   have hzi:(Z.take i++(q1,price,([]:List Ent))::Z.drop i)[i]?=some (q1,price,[]):=by
    rw [List.getElem?_append_right (by omega),hAl,Nat.sub_self]
    rfl
   have hlen6:(Z.take i++(q1,price,([]:List Ent))::Z.drop i).length=n+1:=by
    rw [List.length_append,List.length_cons,hAl,List.length_drop,HN.out]
    omega
   obtain ⟨gs2,os2,c2,rfl⟩:=hW6.some_ (by rw [hlen6];omega)
   rw [hlen6] at HW6 HB6 ⊢
   have HV6:Hid (ws.cell? ⟨p,Qz s+1,none⟩=some (.slice (some ⟨gs2,os2,none⟩) (n+1) c2)):=by show _=_;rw [HB6.out.cell];exact zV s _ _ _ _
   have HC6:=Kj (HW6.out.cell hzi)
   clear hBs hW' hW6 hk' hks hss hSn hon hl1 hWi hG' hins HWW HBW HVW ki HSo
   obtain ⟨m,hm⟩:∃ m,n+1=m:=⟨_,rfl⟩
   have him:i<m:=by omega
   rw [hm] at HW6 HB6 HV6 hlen6 ⊢
   go_upto_region 6 with fail
   refine wE 8 [pV p (Qz s),pV p (Qz s),pV p (Qz s+1),.slice (some ⟨gs2,os2,none⟩) m c2,iV (i:Int),pV gs2 (os2+i*1),pV q1 0,pV q1 0] [62,63,64,65,66,67,68,4] ?_ ?_
   ·refine mE 1 0 ?_
    refine nD 2 62 0 ?_
    refine fD 3 63 1 80 1 1 (Qz s) ?_
    refine sW 4 rfl (fun a u E D hk=>Jy _ _ Tryz.underlying78 _ _ _ rfl (dD D 2) (Kept.cell hk (HV6.out))) ?_
    refine mE 5 5 ?_
    refine sW 6 rfl (fun a u E D hk=>Jz slQ _ _ (gs2) (os2) m c2 i (os2+i*1) ((i:Int)) rfl (dD D 3) (dD D 4) (by first | rfl | omega) (him) (by first | rfl | omega)) ?_
    refine sW 7 rfl (fun a u E D hk=>XY _ _ Tryz.underlying107 _ _ _ rfl (dD D 5) (Kept.cell hk (HC6.out))) ?_
    refine mD 8 68 6 ?_
    exact fz
   intro wz kz
   simp only [F8]
   have HR:=Kj (HRM)
   go_wp2
   go_ret
   exact ⟨q1,[],Z.take i,Z.drop i,_,Fs',G',rfl,HW6.out.kept kz,HB6.out.kept kz,hGw,K6.kept kz,by simp,HR.out⟩
 have hin:i=n:=by omega
 subst hin
 have HT:Hid (∀ x ∈ levs (Z.take i),bet s x.1 price=true):=by
  have e2:L.take i=levs (Z.take i):=by rw [← EL.out];simp [levs,List.map_take]
  rw [e2] at HM
  exact HM.out
 clear HM
 have HSLr:=Kj (HSL.out.kept hkr)
 go_upto_region 2 with fail
 refine wGp 22 [iV (i:Int),pV p (Qz s),pV p (Qz s),pV p (Qz s+1),v,iV (i:Int),bV false,bV false,undef,undef,undef,undef,undef,undef,undef,undef,undef,undef,undef,undef,undef,undef] [6,7,8,9,10,11,12,13,14,15,16,17,18,19,20,21,22,23,24,25,26,27] ?_ ?_
 ·refine mE 1 5 ?_
  refine mE 2 0 ?_
  refine nD 3 7 1 ?_
  refine fD 4 8 2 80 1 1 (Qz s) ?_
  refine sW 5 rfl (fun a u E D hk=>Jy _ _ Tryz.underlying78 _ _ _ rfl (dD D 3) (Kept.cell hk (HVr.out))) ?_
  refine sW 6 rfl (fun a u E D hk=>Qq _ slQ _ _ _ _ rfl (dD D 4) HSLr.out) ?_
  refine aS 7 rfl (fun a u E D hk=>Wq rfl (dD D 0) (dD D 5)) (Ku (by omega)) ?_
  refine mD 8 12 6 ?_
  refine kS 9 7 ?_
  refine kS 10 7 ?_
  refine kS 11 7 ?_
  refine kS 12 7 ?_
  refine kS 13 7 ?_
  refine kS 14 7 ?_
  refine kS 15 7 ?_
  refine kS 16 7 ?_
  refine kS 17 7 ?_
  refine kS 18 7 ?_
  refine kS 19 7 ?_
  refine kS 20 7 ?_
  refine kS 21 7 ?_
  refine kS 22 7 ?_
  exact fz
 intro w1 k1
 simp only [F8]
 refine Jx (.bool false) rfl (Zj (.tmp 13) (.tmp 27) (.const (.bool false)) (.bool false) rfl (by kernel_rfl) rfl) ?_
 simp only [Act.put,sA,sS,sZ]
 refine Kx ?_
 have kw1:=hkr.trans k1
 have HV1:=Kj (kw1.cell HV.out)
 have HSL1:=Kj (HSL.out.kept kw1)
 clear HVr HSr k1 HSLr
 go_upto_region 4 with fail
 refine wE 19 [iV (i:Int),pV p (Qz s),pV p (Qz s),pV p (Qz s+1),v,iV (i:Int),bV true,bV true,undef,undef,undef,undef,undef,undef,undef,undef,undef,undef,bV true] [31,32,33,34,35,36,37,38,39,40,41,42,43,44,45,46,47,48,49] ?_ ?_
 ·refine mE 1 5 ?_
  refine mE 2 0 ?_
  refine nD 3 32 1 ?_
  refine fD 4 33 2 80 1 1 (Qz s) ?_
  refine sW 5 rfl (fun a u E D hk=>Jy _ _ Tryz.underlying78 _ _ _ rfl (dD D 3) (Kept.cell hk (HV1.out))) ?_
  refine sW 6 rfl (fun a u E D hk=>Qq _ slQ _ _ _ _ rfl (dD D 4) HSL1.out) ?_
  refine aS 7 rfl (fun a u E D hk=>JU rfl (dD D 0) (dD D 5)) (Ky (by omega)) ?_
  refine mD 8 37 6 ?_
  refine kS 9 7 ?_
  refine kS 10 7 ?_
  refine kS 11 7 ?_
  refine kS 12 7 ?_
  refine kS 13 7 ?_
  refine kS 14 7 ?_
  refine kS 15 7 ?_
  refine kS 16 7 ?_
  refine kS 17 7 ?_
  refine kS 18 7 ?_
  refine sW 19 rfl (fun a u E D hk=>qV _ _ _ _ rfl (dD D 7) rfl) ?_
  exact fz
 intro w2 kw2
 simp only [F8]
 have kW:=kw1.trans kw2
 have HRM:∀ o:Ord,o.side=s→o.price=price→Wj o L=levs (Z.take i)++(price,[]++[Ent.of o])::levs (Z.drop i):=fun o h1 h2=>by
  have e5:Z.drop i=[]:=List.drop_of_length_le (by rw [HN.out];omega)
  have e6:L=levs (Z.take i):=by rw [← EL.out,List.take_of_length_le (by rw [HN.out];omega)]
  rw [e5]
  have h3:=restM_at (o:=o) (R:=[]) (A:=L) (by rw [h1,h2,e6];exact HT.out)
  rw [List.append_nil] at h3
  rw [h3,Wj,h2,e6]
  rfl
 clear HV1 HSL1
 obtain ⟨n,hnn⟩:∃ n,n=i:=⟨_,rfl⟩
 have hn64:n≤64:=by omega
 have hin2:i≤n:=by omega
 have HN:Hid (Z.length=n):=by rw [hnn];exact HN.out
 have HWW:=Kj (HW.out.kept kW)
 have HBW:=Kj (HB.out.kept kW)
 have HVW:=Kj (kW.cell HV.out)
 have zW:=kW.size
 have hSo:∀ b,(v:Value).ownBlock=some b→b<w2.heap.size:=fun b hb=>HWW.out.sl.lt hb
 have HSo:=Kj hSo
 clear hSo
 go_upto_region 5 with fail
 refine wp_freeV 12 9 [0,1,2,3,4,5,6,7,8] [.eq (.pointer (some ⟨p,Qz s,none⟩)),.eq (.pointer (some ⟨p,Qz s,none⟩)),.eq (.pointer (some ⟨p,Qz s,none⟩)),.eq (.pointer (some ⟨p,Qz s+1,none⟩)),.eq (v),.eq (.int .i64 (i:Int)),.eq (.int .i64 price),.newl w2.heap.size price,.onel w2.heap.size price,.ins w2.heap.size price v n Z i,.eq (.pointer (some ⟨p,Qz s,none⟩)),.eq (.pointer (some ⟨p,Qz s+1,none⟩))] ((fun b=>(v:Value).ownBlock=some b)) (by kernel_rfl) rfl (by omega) (by kernel_rfl) (by kernel_rfl) ?_ ?_ (fun a u hE hD hk=>v_call (o:=⟨some 59,_,_,_,_,_⟩) 116 #[v,.int .i64 (i:Int),a.eval (.tmp 58)] rfl (JZ rfl _) (Jq 116 _ [.tmp 54,.tmp 55,.tmp 58] _ [v,.int .i64 (i:Int),a.eval (.tmp 58)] Tryz.func116 (by kernel_rfl) (by kernel_rfl) rfl (show [a.eval (.tmp 54),a.eval (.tmp 55),a.eval (.tmp 58)]=[v,.int .i64 (i:Int),a.eval (.tmp 58)] from (by rw [show a.eval (.tmp 54)=v from (dD hD 4),show a.eval (.tmp 55)=.int .i64 (i:Int) from (dD hD 5)] <;> rfl)) u) ((by obtain ⟨g1,q1,F1,hx,hb1,hl1,hf1,hg1,hn1⟩:=(hD 8 58 (by kernel_rfl));rw [hx];exact ins_kn u w2 v n i Z g1 q1 price F1 hk (by have h:=HWW.out.sl;rw [HN.out] at h;exact h) (by omega) (by omega) hb1 hl1 hf1 hg1 HSo.out))) ?_
 ·intro i hi
  have hi2:i=0∨i=1∨i=2∨i=3∨i=4∨i=5∨i=6∨i=7∨i=8:=by simpa using hi
  rcases hi2 with rfl | rfl | rfl | rfl | rfl | rfl | rfl | rfl | rfl
  ·exact Kn.safe_eq _ _
  ·exact Kn.safe_eq _ _
  ·exact Kn.safe_eq _ _
  ·exact Kn.safe_eq _ _
  ·exact Kn.safe_eq _ _
  ·exact Kn.safe_eq _ _
  ·exact Kn.safe_eq _ _
  ·exact Kn.safe_newl (fun b hb h=>by have:=HSo.out b h;omega)
  exact Kn.safe_onel (fun b hb h=>by have:=HSo.out b h;omega)
 ·refine Xx 1 rfl (fun a u hE hD hk=>YW (o:=⟨some 50,_,_,_,_,_⟩) (.pointer (some ⟨p,Qz s,none⟩)) rfl (JZ rfl _) (Jj (.tmp 0) _ rfl (eE hE)) rfl) ?_
  refine Xx 2 rfl (fun a u hE hD hk=>YW _ rfl (JZ rfl _) (Jj (.tmp 0) _ rfl (eE hE)) rfl) ?_
  refine Xx 3 rfl (fun a u hE hD hk=>YW _ rfl (JZ rfl _) (YY (.tmp 51) ⟨p,Qz s,none⟩ rfl (dD hD 1)) rfl) ?_
  refine Xx 4 rfl (fun a u hE hD hk=>YW _ rfl (JZ rfl _) (QV 80 1 1 (.tmp 52) (p) (Qz s) (Qz s+1) rfl (dD hD 2) (by kernel_rfl) rfl) rfl) ?_
  refine Xx 5 rfl (fun a u hE hD hk=>YW _ rfl (JZ rfl _) (Jy 78 _ Tryz.underlying78 (.tmp 53) ⟨p,Qz s+1,none⟩ (v) rfl (dD hD 3) (Keep.cell hk (HVW.out) ((fun e=>(hFs p (HWW.out.own p e).1) rfl)))) rfl) ?_
  refine Xx 6 rfl (fun a u hE hD hk=>YW _ rfl (JZ rfl _) (Jj (.tmp 5) _ rfl (eE hE)) rfl) ?_
  refine Xx 7 rfl (fun a u hE hD hk=>YW _ rfl (JZ rfl _) (Jj (.tmp 1) _ rfl (eE hE)) rfl) ?_
  refine Xx 8 rfl (fun a u hE hD hk=>VJ 117 #[.int .i64 price] rfl (JZ rfl _) (Jq 117 _ [.tmp 56] _ [.int .i64 price] Tryz.func117 (by kernel_rfl) (by kernel_rfl) rfl (show [a.eval (.tmp 56)]=[.int .i64 price] from (by rw [show a.eval (.tmp 56)=.int .i64 price from (dD hD 6)] <;> rfl)) u) ((lnew_any price u).mono (fun e w' ⟨q,F,h1,h2,h3,h4⟩=>⟨_,h1,⟨q,F,rfl,h2,fun b hb=>(h3 b hb).elim (fun h=>h.elim) (fun h=>Kv hk.size h)⟩,h4⟩))) ?_
  refine Xx 9 rfl (fun a u hE hD hk=>(by obtain ⟨q,F,hx,h2,h3⟩:=(hD 7 57 (by kernel_rfl));exact jx (.slice (some ⟨u.heap.size,0,none⟩) 1 1) _ rfl (JZ rfl _) (exec_oneP slQ (.tmp 57) q rfl hx) ⟨u.heap.size,q,F,rfl,Blk.new u _ _,h2.kept ((Keep.refl _ u).alloc _),h3,hk.size,fun h=>by have:=h2.2.1 _ h;omega⟩ ((Keep.refl _ u).alloc _))) ?_
  refine vsteps_turn 10 rfl rfl ?_
  refine Xx 11 rfl (fun a u hE hD hk=>YW _ rfl (JZ rfl _) (YY (.tmp 50) ⟨p,Qz s,none⟩ rfl (dD hD 0)) rfl) ?_
  refine Xx 12 rfl (fun a u hE hD hk=>YW _ rfl (JZ rfl _) (QV 80 1 1 (.tmp 60) (p) (Qz s) (Qz s+1) rfl (dD hD 10) (by kernel_rfl) rfl) rfl) ?_
  exact vsteps_nil
 intro gv wn hV ki
 rw [dq 12 [50,51,52,53,54,55,56,57,58,59,60,61]]
 simp only [Fz7]
 rw [show gv 61=.pointer (some ⟨p,Qz s+1,none⟩) from hV 11 61 (by kernel_rfl)]
 have hv59:(.ins w2.heap.size price v n Z i:Kn).p (gv 59) wn:=hV 9 59 (by kernel_rfl)
 generalize gv 59=v59 at hv59 ⊢
 clear hV
 obtain ⟨q1,F1,hSn,hl1,hf1,hon⟩:=hv59
 obtain ⟨vn,hvn⟩:∃ x,x=v59:=⟨_,rfl⟩
 subst hvn
 refine Zz 78 p (Qz s+1) 82 _ vn _ _ rfl rfl (by kernel_rfl) (by kernel_rfl) (by kernel_rfl) (VV hSn) (Yq hSn) (HBW.out.keep ki (fun e=>(hFs p (HWW.out.own p e).1) rfl)) (by rw [JJy];omega) ?_
 intro ws hBs hks hss
 simp only [Act.put]
 refine Kx ?_
 rw [sideCs_set] at hBs
 have hZ:Z=Z.take i++Z.drop i:=(List.take_append_drop i Z).symm
 have hAl:(Z.take i).length=i:=by rw [List.length_take,HN.out];omega
 have hins:insP Z i q1=ptrs (Z.take i++(q1,price,([]:List Ent))::Z.drop i):=by
  unfold insP
  rw [jz]
  simp [ptrs,List.map_take,List.map_drop]
 have hWi:WayZ 116 113 107 w2 Fs v (Z.take i++Z.drop i) G:=by rw [← hZ];exact HWW.out
 obtain ⟨Fs',G',hW',hG',hk',_⟩:=hWi.more (w':=wn) (v':=vn) (q:=q1) (pr:=price) (F1:=F1) ki
  (by rw [← hins,hAl,List.length_drop,HN.out,show i+1+(n-i)=n+1 by omega];exact hSn) hon hl1 hf1
 have hGw:Grow w Fs Fs':=hG'.wide zW
 have hpF:¬ Fs' p:=fun h=>(hGw p h).elim (fun h=>hFs p h rfl) (fun h=>by omega)
 have hW6:=hW'.keep hks (fun b hb e=>hpF (by rw [← e];exact hb))
 have K6:Keep (fun b=>Fs b∨b=p) w ws:=((Keep.mono (T:=fun b=>Fs b∨b=p) kW (fun _ _ h=>h.elim)).trans hk' (fun b _ h=>.inl h)).trans hks (fun b _ h=>.inr h)
 have HW6:=Kj hW6
 have HB6:=Kj hBs
 have hzi:(Z.take i++(q1,price,([]:List Ent))::Z.drop i)[i]?=some (q1,price,[]):=by
  rw [List.getElem?_append_right (by omega),hAl,Nat.sub_self]
  rfl
 have hlen6:(Z.take i++(q1,price,([]:List Ent))::Z.drop i).length=n+1:=by
  rw [List.length_append,List.length_cons,hAl,List.length_drop,HN.out]
  omega
 obtain ⟨gs2,os2,c2,rfl⟩:=hW6.some_ (by rw [hlen6];omega)
 rw [hlen6] at HW6 HB6 ⊢
 have HV6:Hid (ws.cell? ⟨p,Qz s+1,none⟩=some (.slice (some ⟨gs2,os2,none⟩) (n+1) c2)):=by show _=_;rw [HB6.out.cell];exact zV s _ _ _ _
 have HC6:=Kj (HW6.out.cell hzi)
 clear hBs hW' hW6 hk' hks hss hSn hon hl1 hWi hG' hins HWW HBW HVW ki HSo
 obtain ⟨m,hm⟩:∃ m,n+1=m:=⟨_,rfl⟩
 have him:i<m:=by omega
 rw [hm] at HW6 HB6 HV6 hlen6 ⊢
 go_upto_region 6 with fail
 refine wE 8 [pV p (Qz s),pV p (Qz s),pV p (Qz s+1),.slice (some ⟨gs2,os2,none⟩) m c2,iV (i:Int),pV gs2 (os2+i*1),pV q1 0,pV q1 0] [62,63,64,65,66,67,68,4] ?_ ?_
 ·refine mE 1 0 ?_
  refine nD 2 62 0 ?_
  refine fD 3 63 1 80 1 1 (Qz s) ?_
  refine sW 4 rfl (fun a u E D hk=>Jy _ _ Tryz.underlying78 _ _ _ rfl (dD D 2) (Kept.cell hk (HV6.out))) ?_
  refine mE 5 5 ?_
  refine sW 6 rfl (fun a u E D hk=>Jz slQ _ _ (gs2) (os2) m c2 i (os2+i*1) ((i:Int)) rfl (dD D 3) (dD D 4) (by first | rfl | omega) (him) (by first | rfl | omega)) ?_
  refine sW 7 rfl (fun a u E D hk=>XY _ _ Tryz.underlying107 _ _ _ rfl (dD D 5) (Kept.cell hk (HC6.out))) ?_
  refine mD 8 68 6 ?_
  exact fz
 intro wz kz
 simp only [F8]
 have HR:=Kj (HRM)
 go_wp2
 go_ret
 exact ⟨q1,[],Z.take i,Z.drop i,_,Fs',G',rfl,HW6.out.kept kz,HB6.out.kept kz,hGw,K6.kept kz,by simp,HR.out⟩
theorem of_eq (w:World) (p:Nat) (s:Int) (hs:s=1∨s=2):Gives 68 #[.pointer (some ⟨p,0,none⟩),.int .i64 s] w (.eq (.pointer (some ⟨p,Qz s,none⟩))):=by
 refine XJ ?_
 rcases hs with rfl | rfl
 ·have HR:Hid (Qz 1=0):=rfl
  go_enter Tryz.func68,Tryz.ntmps68
  go_upto_region 1 with fail
  refine wE 1 [iV 1] [5] ?_ ?_
  ·refine mE 1 1 ?_
   exact fz
  intro w1 k1
  simp only [F8]
  go_upto_region 2 with fail
  refine wE 2 [bV true,bV true] [7,6] ?_ ?_
  ·refine aS 1 rfl (fun a u E D hk=>JU (p:=1) (q:=1) rfl (eE E) rfl) (Ky rfl) ?_
   refine mD 2 7 0 ?_
   exact fz
  intro w2 k2
  simp only [F8]
  go_upto_region 3 with fail
  refine wE 4 [pV p 0,pV p 0,pV p 0,pV p 0] [8,9,10,4] ?_ ?_
  ·refine mE 1 0 ?_
   refine nD 2 8 0 ?_
   refine fD 3 9 1 82 0 0 0 ?_
   refine mD 4 10 2 ?_
   exact fz
  intro w3 k3
  simp only [F8]
  have kw:=(k1.trans k2).trans k3
  clear k1 k2 k3
  go_wp2
  go_ret
  exact ⟨by rw [HR.out];rfl,kw⟩
 have HR:Hid (Qz 2=2):=rfl
 go_enter Tryz.func68,Tryz.ntmps68
 go_upto_region 1 with fail
 refine wE 1 [iV 2] [5] ?_ ?_
 ·refine mE 1 1 ?_
  exact fz
 intro w1 k1
 simp only [F8]
 go_upto_region 2 with fail
 refine wE 2 [bV false,bV false] [7,6] ?_ ?_
 ·refine aS 1 rfl (fun a u E D hk=>JU (p:=2) (q:=1) rfl (eE E) rfl) (Ku (by decide)) ?_
  refine mD 2 7 0 ?_
  exact fz
 intro w2 k2
 simp only [F8]
 go_upto_region 4 with fail
 refine wE 2 [bV true,bV true] [12,11] ?_ ?_
 ·refine aS 1 rfl (fun a u E D hk=>JU (p:=2) (q:=2) rfl (eE E) rfl) (Ky rfl) ?_
  refine mD 2 12 0 ?_
  exact fz
 intro w3 k3
 simp only [F8]
 go_upto_region 5 with fail
 refine wE 4 [pV p 0,pV p 0,pV p 2,pV p 2] [13,14,15,4] ?_ ?_
 ·refine mE 1 0 ?_
  refine nD 2 13 0 ?_
  refine fD 3 14 1 82 1 2 0 ?_
  refine mD 4 15 2 ?_
  exact fz
 intro w4 k4
 simp only [F8]
 have kw:=((k1.trans k2).trans k3).trans k4
 clear k1 k2 k3 k4
 go_wp2
 go_ret
 exact ⟨by rw [HR.out];rfl,kw⟩
theorem jV (w:World) (p:Nat) (c:Ord) (hs:c.side=1∨c.side=2):Gives 103 #[.pointer (some ⟨p,0,none⟩),c.v] w (.eq (.pointer (some ⟨p,Qz (3-c.side),none⟩))):=by
 refine XJ ?_
 go_enter Tryz.func103,Tryz.ntmps103
 go_upto_region 0 with fail
 refine QZ 2 [.fresh w.heap.size 30 (c.cells),.eq (.pointer none)] rfl (by kernel_rfl) ?_ ?_
 ·refine nW 1 rfl (fun a u E D hk=>⟨_,_,YX 30 _ (c.cells) rfl (eE E),⟨_,rfl,hk.size,Blk.new u _ _⟩,((Keep.refl _ u).alloc _)⟩) ?_
  refine sW 2 rfl (fun a u E D hk=>JQ _ _ rfl rfl) ?_
  exact fz
 intro gv w1 hV k1
 rw [dq 2 [3,4]]
 simp only [Fz7]
 have hv3:(.fresh w.heap.size 30 (c.cells):Kn).p (gv 3) w1:=hV 0 3 (by kernel_rfl)
 generalize gv 3=v3 at hv3 ⊢
 rw [gQ hV 1 4 (.pointer none)]
 clear hV
 obtain ⟨g,rfl,hg,hB⟩:=hv3
 refine Kx ?_
 have HB:=Kj (JW hB)
 clear hB
 rcases hs with hs | hs
 ·skip
  have HR:Hid (Qz (3-c.side)=2):=by show _=_;rw [hs] <;> rfl
  go_upto_region 1 with fail
  refine wE 3 [pV g 3,iV c.side,bV true] [5,6,7] ?_ ?_
  ·refine fE 1 3 30 3 3 0 ?_
   refine lD 2 5 0 Tryz.underlying3 (fun u hk=>JY (JJ HB.out hk) 3 _ rfl) ?_
   refine aS 3 rfl (fun a u E D hk=>JU rfl (dD D 1) rfl) (Ky (by omega)) ?_
   exact fz
  intro w2 k2
  simp only [F8]
  clear hs
  go_upto_region 2 with fail
  refine wE 4 [pV p 0,pV p 0,pV p 2,pV p 2] [8,9,10,4] ?_ ?_
  ·refine mE 1 0 ?_
   refine nD 2 8 0 ?_
   refine fD 3 9 1 82 1 2 0 ?_
   refine mD 4 10 2 ?_
   exact fz
  intro w3 k3
  simp only [F8]
  have kw:=(k1.trans k2).trans k3
  clear k1 k2 k3
  go_wp2
  go_ret
  exact ⟨by rw [HR.out];rfl,kw⟩
 skip
 have HR:Hid (Qz (3-c.side)=0):=by show _=_;rw [hs] <;> rfl
 go_upto_region 1 with fail
 refine wE 3 [pV g 3,iV c.side,bV false] [5,6,7] ?_ ?_
 ·refine fE 1 3 30 3 3 0 ?_
  refine lD 2 5 0 Tryz.underlying3 (fun u hk=>JY (JJ HB.out hk) 3 _ rfl) ?_
  refine aS 3 rfl (fun a u E D hk=>JU rfl (dD D 1) rfl) (Ku (by omega)) ?_
  exact fz
 intro w2 k2
 simp only [F8]
 clear hs
 go_upto_region 3 with fail
 refine wE 4 [pV p 0,pV p 0,pV p 0,pV p 0] [11,12,13,4] ?_ ?_
 ·refine mE 1 0 ?_
  refine nD 2 11 0 ?_
  refine fD 3 12 1 82 0 0 0 ?_
  refine mD 4 13 2 ?_
  exact fz
 intro w3 k3
 simp only [F8]
 have kw:=(k1.trans k2).trans k3
 clear k1 k2 k3
 go_wp2
 go_ret
 exact ⟨by rw [HR.out];rfl,kw⟩
theorem JJQ (w:World) (c:Ord):Gives 94 #[c.v] w (.eq (.bool (decide (c.k=1) || decide (c.k=5)))):=by
 refine XJ ?_
 go_enter Tryz.func94,Tryz.ntmps94
 go_upto_region 0 with fail
 refine QZ 2 [.fresh w.heap.size 30 (c.cells),bE false] rfl (by kernel_rfl) ?_ ?_
 ·refine nW 1 rfl (fun a u E D hk=>⟨_,_,YX 30 _ (c.cells) rfl (eE E),⟨_,rfl,hk.size,Blk.new u _ _⟩,((Keep.refl _ u).alloc _)⟩) ?_
  refine sW 2 rfl (fun a u E D hk=>JQ _ _ rfl rfl) ?_
  exact fz
 intro gv w1 hV k1
 rw [dq 2 [1,2]]
 simp only [Fz7]
 have hv1:(.fresh w.heap.size 30 (c.cells):Kn).p (gv 1) w1:=hV 0 1 (by kernel_rfl)
 generalize gv 1=v1 at hv1 ⊢
 rw [gQ hV 1 2 (.bool false)]
 clear hV
 obtain ⟨g,rfl,hg,hB⟩:=hv1
 refine Kx ?_
 have HB:=Kj (JW hB)
 clear hB
 go_upto_region 1 with fail
 refine wT 9 [pE g 4,iE c.k,bE (decide ((c.k:Int)=(1:Int))),bE (decide ((c.k:Int)=(1:Int))),.cond (!(decide ((c.k:Int)=(1:Int)))) (pE g 4),.cond (!(decide ((c.k:Int)=(1:Int)))) (iE c.k),.cond (!(decide ((c.k:Int)=(1:Int)))) (bE (decide ((c.k:Int)=(5:Int)))),bE ((decide ((c.k:Int)=(1:Int))) || (decide ((c.k:Int)=(5:Int)))),bE ((decide ((c.k:Int)=(1:Int))) || (decide ((c.k:Int)=(5:Int))))] [3,4,5,6,7,8,9,10,2] ?_ ?_
 ·refine fE 1 1 30 4 4 0 ?_
  refine lD 2 3 0 Tryz.underlying3 (fun u hk=>JY (JJ HB.out hk) 4 _ rfl) ?_
  refine sW 3 rfl (fun a u E D hk=>JU rfl (dD D 1) rfl) ?_
  refine mD 4 5 2 ?_
  refine uC 5 3 rfl (fun a u E D hk hb=>QV 30 4 4 _ (g) (0) (4) rfl (eE E) (by kernel_rfl) rfl) ?_
  refine uC 6 3 rfl (fun a u E D hk hb=>QX _ Tryz.underlying3 _ _ _ rfl ((D 4 7 (by kernel_rfl)).1 hb) (JY (JJ HB.out hk) 4 _ rfl)) ?_
  refine uC 7 3 rfl (fun a u E D hk hb=>JU rfl ((D 5 8 (by kernel_rfl)).1 hb) rfl) ?_
  refine sW 8 rfl (fun a u E D hk=>VQ _ _ _ ((decide ((c.k:Int)=(1:Int)))) ((decide ((c.k:Int)=(5:Int)))) rfl (dD D 3) rfl (fun hb2=>((D 6 9 (by kernel_rfl)).1 hb2))) ?_
  refine mD 9 10 7 ?_
  exact fz
 intro gv w2 hV k2
 simp only [Fz7]
 rw [gQ hV 8 2 (.bool ((decide ((c.k:Int)=(1:Int))) || (decide ((c.k:Int)=(5:Int)))))]
 clear hV
 have kw:=k1.trans k2
 clear k1 k2
 go_wp2
 go_ret
 exact ⟨rfl,kw⟩
def Kn.at_ (base:Nat) (Fs:Nat→Prop) (p:Nat) (s:Int) (u0:Value) (last no:Int) (L:List Lev) (price:Int):Kn:=⟨fun v w=>∃ q X ZA ZR v' Fs' G',v=.pointer (some ⟨q,0,none⟩)∧WayZ 116 113 107 w Fs' v' (ZA++(q,price,X)::ZR) G'∧Blk w p 82 (WW s v' u0 last no)∧(∀ b,Fs' b→Fs b∨base≤b)∧X.length≤64∧∀ o:Ord,o.side=s→o.price=price→Wj o L=levs ZA++(price,X++[Ent.of o])::levs ZR,
 fun _ _ _ ⟨q,X,ZA,ZR,v',Fs',G',h1,h2,h3,h4⟩ hk=>⟨q,X,ZA,ZR,v',Fs',G',h1,h2.kept hk,h3.kept hk,h4⟩⟩
theorem at_kn (u W:World) (Fs:Nat→Prop) (p:Nat) (s price:Int) (v u0:Value) (last no:Int) (Z:Zs) (G:Nat→Nat→Prop) (L:List Lev) (hk:Kept W u) (hs:s=1∨s=2) (hW:WayZ 116 113 107 W Fs v Z G) (hB:Blk W p 82 (WW s v u0 last no)) (hFs:∀ b,Fs b→b≠p) (eL:levs Z=L) (hL:LvsOk L) :
  Calls Tryz.prog 108 #[.pointer (some ⟨p,Qz s,none⟩),.int .i64 price] u fun e w'=>∃ v,e=.returned v∧(Kn.at_ W.heap.size Fs p s u0 last no L price).p v w'∧Keep (fun b=>Fs b∨b=p) u w':=by
 refine (at_any u Fs p s price v u0 last no Z G L hs (hW.kept hk) (hB.kept hk) hFs eL hL).mono ?_
 rintro r w' ⟨q,X,ZA,ZR,v',Fs',G',h1,h2,h3,h4,h5,h6,h7⟩
 exact ⟨_,h1,⟨q,X,ZA,ZR,v',Fs',G',rfl,h2,h3,fun b hb=>(h4 b hb).imp id (fun h=>Kv hk.size h),h6,h7⟩,h5⟩
theorem cut_l (o:Ord) (n:Int):(stc ((o.l.set 6 n).set 7 (mn o.shw n)) [])=(o.cut n).cells:=rfl
theorem rest_any (w:World) (F:Nat→Prop) (p:Nat) (B:Bok) (o:Ord) (n:Int) (h:Bk w F p B) (hs:o.side=1∨o.side=2) (hL:LvsOk (B.sd o.side)) :
  Calls Tryz.prog 95 #[.pointer (some ⟨p,0,none⟩),o.v,.int .i64 n] w fun r w'=>∃ F',r=.returned (.tuple #[])∧Bk w' F' p (B.to o.side (Wj (o.cut n) (B.sd o.side)) B.last B.no)∧Grow w F F'∧Keep F w w':=by
 obtain ⟨L,hLe⟩:∃ L,B.sd o.side=L:=⟨_,rfl⟩
 rw [hLe] at hL ⊢
 have HLE:=Kj hLe
 have hFl:=h.lt
 have HK:=Kj h
 have HL:=Kj hL
 have hpF:=h.1
 clear h hL hLe
 go_enter Tryz.func95,Tryz.ntmps95
 go_upto_region 0 with fail
 refine QZ 1 [.fresh w.heap.size 30 (o.cells)] rfl (by kernel_rfl) ?_ ?_
 ·refine nW 1 rfl (fun a u E D hk=>⟨_,_,YX 30 _ (o.cells) rfl (eE E),⟨_,rfl,hk.size,Blk.new u _ _⟩,((Keep.refl _ u).alloc _)⟩) ?_
  exact fz
 intro gv w0 hV k0
 rw [dq 1 [4]]
 simp only [Fz7]
 have hv4:(.fresh w.heap.size 30 (o.cells):Kn).p (gv 4) w0:=hV 0 4 (by kernel_rfl)
 generalize gv 4=v4 at hv4 ⊢
 clear hV
 obtain ⟨g,rfl,hg,hB⟩:=hv4
 refine Kx ?_
 have z0:=k0.size
 have lg:=hB.lt
 go_upto_region 1 with fail
 refine wEp 2 [iV n,pV g 6] [6,7] ?_ ?_
 ·refine mE 1 2 ?_
  refine fE 2 4 30 6 6 0 ?_
  exact fz
 intro w1 k1
 simp only [F8]
 refine l_setf g 6 30 o.l [] n _ _ rfl rfl (by kernel_rfl) (by kernel_rfl) (hB.kept k1) (by simp [Ord.l]) ?_
 intro w2 hB2 hk2 hs2
 simp only [Act.put]
 refine Kx ?_
 have k02:Kept w w2:=(k0.trans k1).trans' hk2 (by omega)
 have HB2:=Kj (JW hB2)
 have z2:=k1.size
 go_upto_region 2 with fail
 refine wEp 5 [pV g 7,iV o.shw,iV n,iV (mn (o.shw) (n)),pV g 7] [8,9,10,11,12] ?_ ?_
 ·refine fE 1 4 30 7 7 0 ?_
  refine sW 2 rfl (fun a u E D hk=>QX _ Tryz.underlying3 _ _ _ rfl (dD D 0) (by rw [(hB2.kept hk).cell];rfl)) ?_
  refine mE 3 2 ?_
  refine sW 4 rfl (fun a u E D hk=>yU _ _ _ (o.shw) (n) (mn (o.shw) (n)) rfl (dD D 1) (dD D 2) rfl) ?_
  refine fE 5 4 30 7 7 0 ?_
  exact fz
 intro w3 k3
 simp only [F8]
 refine l_setf g 7 30 (o.l.set 6 n) [] (mn o.shw n) _ _ rfl rfl (by kernel_rfl) (by kernel_rfl) (hB2.kept k3) (by simp [Ord.l]) ?_
 intro w4 hB4 hk4 hs4
 simp only [Act.put]
 refine Kx ?_
 rw [cut_l] at hB4
 have k04:Kept w w4:=(k02.trans k3).trans' hk4 (by omega)
 have HO:=Kj (JW hB4)
 have lg4:=hB4.lt
 clear hB hB2 hB4 hk2 hk4 hs2 hs4 k0 k1 k3 HB2 k02
 obtain ⟨c,hc⟩:∃ c,o.cut n=c:=⟨_,rfl⟩
 have hcs:c.side=o.side:=by rw [← hc];rfl
 have hcp:c.price=o.price:=by rw [← hc];rfl
 rw [hc] at HO
 obtain ⟨s,hse⟩:∃ s,o.side=s:=⟨_,rfl⟩
 have HSE:Hid (c.side=s):=by show _=_;rw [hcs,hse]
 have HOS:=Kj hse
 have HCC:=Kj hc
 rw [hse] at hs HLE
 have HCP:=Kj hcp
 obtain ⟨v,u0,Z,G,Fs,eL,hW,hBk,hFs,hp,hlt,hJ⟩:=(HK.out.kept k04).open_ hs
 rw [HLE.out] at eL
 have HW:=Kj hW
 have HBk:=Kj hBk
 have EL:=Kj eL
 have HJ:=Kj hJ
 have hgS:¬ (Fs g∨g=p):=fun h=>by
  rcases h with h | h
  ·have:=hFl g (hFs g h).1;omega
  have:=hFl p hpF;omega
 have HFs:=Kj hFs
 clear hW hBk eL hJ hcs hcp hse hc hFs
 go_upto_region 3 with fail
 refine wp_freeV 8 6 [0,1,2,3,4,5,7] [.eq (.pointer (some ⟨p,0,none⟩)),.eq (.pointer (some ⟨g,3,none⟩)),.eq (.int .i64 c.side),.eq (.pointer (some ⟨p,Qz s,none⟩)),.eq (.pointer (some ⟨g,5,none⟩)),.eq (.int .i64 c.price),.at_ w4.heap.size Fs p s u0 B.last B.no L c.price,.eq (c.v)] ((fun b=>Fs b∨b=p)) (by kernel_rfl) rfl (by omega) (by kernel_rfl) (by kernel_rfl) ?_ ?_ (fun a u hE hD hk=>v_call (o:=⟨some 19,_,_,_,_,_⟩) 108 #[.pointer (some ⟨p,Qz s,none⟩),.int .i64 c.price] rfl (JZ rfl _) (Jq 108 _ [.tmp 16,.tmp 18] _ [.pointer (some ⟨p,Qz s,none⟩),.int .i64 c.price] Tryz.func108 (by kernel_rfl) (by kernel_rfl) rfl (show [a.eval (.tmp 16),a.eval (.tmp 18)]=[.pointer (some ⟨p,Qz s,none⟩),.int .i64 c.price] from (by rw [show a.eval (.tmp 16)=.pointer (some ⟨p,Qz s,none⟩) from (dD hD 3),show a.eval (.tmp 18)=.int .i64 c.price from (dD hD 5)] <;> rfl)) u) (at_kn u w4 Fs p s c.price v u0 B.last B.no Z G L hk hs HW.out HBk.out (fun b hb=>(HFs.out b hb).2) EL.out HL.out)) ?_
 ·intro i hi
  have hi2:i=0∨i=1∨i=2∨i=3∨i=4∨i=5∨i=7:=by simpa using hi
  rcases hi2 with rfl | rfl | rfl | rfl | rfl | rfl | rfl
  ·exact Kn.safe_eq _ _
  ·exact Kn.safe_eq _ _
  ·exact Kn.safe_eq _ _
  ·exact Kn.safe_eq _ _
  ·exact Kn.safe_eq _ _
  ·exact Kn.safe_eq _ _
  exact Kn.safe_eq _ _
 ·refine Xx 1 rfl (fun a u hE hD hk=>YW (o:=⟨some 13,_,_,_,_,_⟩) (.pointer (some ⟨p,0,none⟩)) rfl (JZ rfl _) (Jj (.tmp 0) _ rfl (eE hE)) rfl) ?_
  refine Xx 2 rfl (fun a u hE hD hk=>YW _ rfl (JZ rfl _) (QV 30 3 3 (.tmp 4) (g) (0) (3) rfl (eE hE) (by kernel_rfl) rfl) rfl) ?_
  refine Xx 3 rfl (fun a u hE hD hk=>YW _ rfl (JZ rfl _) (QX 3 Tryz.underlying3 (.tmp 14) ⟨g,3,none⟩ (.int .i64 c.side) rfl (dD hD 1) (JY (XW HO.out hk (hgS)) 3 _ rfl)) rfl) ?_
  refine Xx 4 rfl (fun a u hE hD hk=>VJ 68 #[.pointer (some ⟨p,0,none⟩),.int .i64 c.side] rfl (JZ rfl _) (Jq 68 _ [.tmp 13,.tmp 15] _ [.pointer (some ⟨p,0,none⟩),.int .i64 c.side] Tryz.func68 (by kernel_rfl) (by kernel_rfl) rfl (show [a.eval (.tmp 13),a.eval (.tmp 15)]=[.pointer (some ⟨p,0,none⟩),.int .i64 c.side] from (by rw [show a.eval (.tmp 13)=.pointer (some ⟨p,0,none⟩) from (dD hD 0),show a.eval (.tmp 15)=.int .i64 c.side from (dD hD 2)] <;> rfl)) u) ((by rw [HSE.out];exact of_eq u p s hs))) ?_
  refine Xx 5 rfl (fun a u hE hD hk=>YW _ rfl (JZ rfl _) (QV 30 5 5 (.tmp 4) (g) (0) (5) rfl (eE hE) (by kernel_rfl) rfl) rfl) ?_
  refine Xx 6 rfl (fun a u hE hD hk=>YW _ rfl (JZ rfl _) (QX 3 Tryz.underlying3 (.tmp 17) ⟨g,5,none⟩ (.int .i64 c.price) rfl (dD hD 4) (JY (XW HO.out hk (hgS)) 5 _ rfl)) rfl) ?_
  refine vsteps_turn 7 rfl rfl ?_
  refine Xx 8 rfl (fun a u hE hD hk=>YW _ rfl (JZ rfl _) (xJ 30 _ (.tmp 4) (g) (0) (c.cells) rfl (eE hE) (XW HO.out hk (hgS)) Tryz.underlying30 (by rw [c.len9];exact JX)) rfl) ?_
  exact vsteps_nil
 intro gv w5 hV k5
 rw [dq 8 [13,14,15,16,17,18,19,20]]
 simp only [Fz7]
 have hv19:(.at_ w4.heap.size Fs p s u0 B.last B.no L c.price:Kn).p (gv 19) w5:=hV 6 19 (by kernel_rfl)
 generalize gv 19=v19 at hv19 ⊢
 rw [show gv 20=c.v from hV 7 20 (by kernel_rfl)]
 clear hV
 obtain ⟨q,X,ZA,ZR,v',Fs',G',rfl,hW5,hB5,hG5,hX5,hM5⟩:=hv19
 have hq:=hW5.lv (q,c.price,X) (by simp)
 have hqF:=hW5.in_ (q,c.price,X) (by simp)
 refine Yz 109 #[.pointer (some ⟨q,0,none⟩),c.v] rfl (Jq 109 _ [.tmp 19,.tmp 20] _ _ Tryz.func109 (by kernel_rfl) (by kernel_rfl) rfl (by kernel_rfl) _) ?_
 refine (add_any w5 _ q X c hq (by omega)).mono ?_
 rintro r w6 ⟨F6,rfl,hl6,hg6,hk6⟩
 refine ⟨_,rfl,?_⟩
 simp only [Act.put,sA,sS,sZ]
 refine Kx ?_
 obtain ⟨Fs2,G2,hW6,hG6,hk6',_⟩:=hW5.turn hk6 hl6 hg6
 have z5:=k5.size
 have hpF5:¬ Fs' p:=fun h=>(hG5 p h).elim (fun h=>(HFs.out p h).2 rfl) (fun h=>by have:=hFl p hpF;have:=k04.size;omega)
 have hB6:=hB5.keep hk6' hpF5
 have K6:Keep (fun b=>Fs b∨b=p) w4 w6:=k5.trans hk6' (fun b hb h=>(hG5 b h).elim .inl (fun h=>by omega))
 have G6:Grow w4 Fs Fs2:=fun b hb=>(hG6 b hb).elim (fun h=>hG5 b h) (fun h=>.inr (by omega))
 obtain ⟨F',q1,q2,q3,_⟩:=HJ.out w6 _ _ _ _ _ K6 hB6 ⟨_,_,rfl,hW6⟩ G6
 have HR:Hid (Bk w6 F' p (B.to s (Wj c L) B.last B.no)):=by
  show Bk _ _ _ _
  rw [hM5 c HSE.out rfl]
  rw [WX,Wy] at q1
  exact q1
 have Q2:Grow w F F':=q2.wide k04.size
 have Q3:Keep F w w6:=Keep.any k04 q3
 clear q1 hW6 hB6 K6 G6 hW5 hB5 hM5 hq hl6 hk6 hg6 hk6' hG6 q2 q3
 go_wp2
 go_end0
 rw [HCC.out,HOS.out]
 first | exact ⟨rfl,F',HR.out,Q2,Q3⟩ | exact ⟨F',rfl,HR.out,Q2,Q3⟩
theorem growO_any (w:World) (v:Value) (n m:Nat) (cs:List Value) (hS:Sl w 30 9 v n cs) (hn:n+m≤100000000) :
  Calls Tryz.prog 81 #[v,.int .i64 (m:Int)] w fun r w'=>∃ v',r=.returned v'∧Sl w' 30 9 v' n cs∧Kept w w'∧∀ b,v'.ownBlock=some b→v.ownBlock=some b∨w.heap.size≤b:=by
 obtain ⟨A,c,rfl⟩:=hS.slice_
 obtain ⟨hnc,hcm,hA⟩:=hS.cap
 have hcm':c≤9223372036854775807:=by unfold maxLen at hcm;omega
 have HS:=Kj hS
 have HA:=Kj hA
 clear hS hA hcm
 go_enter Tryz.func81,Tryz.ntmps81
 go_upto_region 1 with fail
 refine wE 2 [iV (m:Int),bV false] [5,6] ?_ ?_
 ·refine mE 1 1 ?_
  refine aS 2 rfl (fun a u E D hk=>Wq rfl (dD D 0) rfl) (Ku (by omega)) ?_
  exact fz
 intro w1 k1
 simp only [F8]
 go_upto_region 3 with fail
 refine wEp 7 [iV (m:Int),.slice A n c,iV (c:Int),.slice A n c,iV (n:Int),iV (((c:Int):Int)-((n:Int):Int)),iV (((m:Int):Int)-((((c:Int):Int)-((n:Int):Int)):Int))] [8,9,10,11,12,13,14] ?_ ?_
 ·refine mE 1 1 ?_
  refine mE 2 0 ?_
  refine sW 3 rfl (fun a u E D hk=>JJU _ A n c slO.und rfl (dD D 1)) ?_
  refine mE 4 0 ?_
  refine sW 5 rfl (fun a u E D hk=>ZZ _ _ _ slO.und A n c rfl (dD D 3)) ?_
  refine sW 6 rfl (fun a u E D hk=>Vj (p:=((c:Int))) (q:=((n:Int))) (((c:Int):Int)-((n:Int):Int)) rfl (dD D 2) (dD D 4) rfl (by omega) (by omega)) ?_
  refine sW 7 rfl (fun a u E D hk=>Vj (p:=((m:Int))) (q:=((((c:Int):Int)-((n:Int):Int)))) (((m:Int):Int)-((((c:Int):Int)-((n:Int):Int)):Int)) rfl (dD D 0) (dD D 5) rfl (by omega) (by omega)) ?_
  exact fz
 intro w2 k2
 simp only [F8]
 refine Jx (.int .i64 (((m:Int):Int)-((((c:Int):Int)-((n:Int):Int)):Int))) rfl (JQ _ _ rfl (by kernel_rfl)) ?_
 simp only [Act.put,sA,sS,sZ]
 refine Kx ?_
 have k02:=k1.trans k2
 clear k1 k2
 by_cases hr:(m:Int)-((c:Int)-(n:Int)) > 0
 ·skip
  obtain ⟨ds,hds,hSL,hdt⟩:∃ ds:List Value,ds.length=c*9∧Sl w 30 9 (.slice A c c) c ds∧ds.take (n*9)=cs:=by
   cases A with
   | none=>
    have h0:=HA.out rfl
    subst h0
    have hn0:n=0:=by omega
    subst hn0
    have:=HS.out.len
    exact ⟨cs,by omega,HS.out,by rw [List.take_of_length_le (by omega)]⟩
   | some ad=>
    obtain ⟨g,off,c',e⟩:∃ g off c',Value.slice (some ad) n c=.slice (some ⟨g,off,none⟩) n c':=by
     obtain ⟨_,A',c2,e',_,_,_,h4⟩:=HS.out
     injection e' with e1 e2 e3
     subst e1 e3
     obtain ⟨g,off,cur,rfl,_⟩:=h4 _ rfl
     exact ⟨g,off,c,rfl⟩
    injection e with e1 e2 e3
    injection e1 with e1
    subst e1
    exact HS.out.longer (Nat.le_refl c) hnc
  have HSL:=Kj hSL
  have HDT:=Kj hdt
  obtain ⟨j,hj⟩:∃ j:Nat,(m:Int)-((c:Int)-(n:Int))=(j:Int):=⟨(m-(c-n)),by omega⟩
  rw [hj] at hr ⊢
  have hcj:c+j=n+m:=by omega
  have hj0:0<j:=by omega
  clear hSL hdt hj
  go_upto_region 4 with fail
  refine wE 2 [iV (j:Int),bV true] [15,16] ?_ ?_
  ·refine mE 1 1 ?_
   refine aS 2 rfl (fun a u E D hk=>XX rfl (dD D 0) rfl) (Ky (by omega)) ?_
   exact fz
  intro w3 k3
  simp only [F8]
  have k03:=k02.trans k3
  clear k02 k3
  go_upto_region 5 with fail
  refine wEp 5 [.slice A n c,.slice A n c,iV (c:Int),.slice A c c,iV (j:Int)] [17,18,19,20,21] ?_ ?_
  ·refine mE 1 0 ?_
   refine mE 2 0 ?_
   refine sW 3 rfl (fun a u E D hk=>JJU _ A n c slO.und rfl (dD D 1)) ?_
   refine sW 4 rfl (fun a u E D hk=>Wx slO _ _ _ _ _ rfl (dD D 0) (dD D 2) (run_h slO A n c c (Nat.le_refl _) HA.out u)) ?_
   refine mE 5 1 ?_
   exact fz
  intro w4 k4
  simp only [F8]
  have k04:=k03.trans k4
  obtain ⟨gn,cn,w5,zs,hrz,hsz,hzl,hkz,hgn⟩:=zJ slO Tryz.underlying3 44 w4 A c c j _ (HSL.out.kept k04) hj0 (by omega) (by unfold maxLen;omega) (by omega) (by omega)
  refine ZW _ w5 rfl (exec_appZ slO 3 (.tmp 20) (.tmp 21) _ _ rfl (by kernel_rfl) (by kernel_rfl) _ w5 hrz) ?_
  simp only [Act.put,sA,sS,sZ]
  refine Jx (.slice A n c) rfl (Jj _ _ rfl (by kernel_rfl)) ?_
  simp only [Act.put,sA,sS,sZ]
  refine Jx (.int .i64 (n:Int)) rfl (ZZ (.tmp 23) _ _ slO.und A n c rfl (by kernel_rfl)) ?_
  simp only [Act.put,sA,sS,sZ]
  refine Jx (.slice (some ⟨gn,0,none⟩) n cn) rfl (Wx slO (.tmp 22) (.tmp 24) _ _ _ rfl (by kernel_rfl) (by kernel_rfl) (run_h slO (some ⟨gn,0,none⟩) (c+j) cn n (by have:=hsz.cap.1;omega) (fun h=>by cases h) w5)) ?_
  simp only [Act.put,sA,sS,sZ]
  refine Jx (.slice (some ⟨gn,0,none⟩) n cn) rfl (JQ _ _ rfl (by kernel_rfl)) ?_
  simp only [Act.put,List.setIfInBounds_toArray,List.set_cons_zero]
  refine Kx ?_
  have zz:=k04.size
  have HR:Hid (Sl w5 30 9 (.slice (some ⟨gn,0,none⟩) n cn) n cs):=by
   have h1:=hsz.shrink (m:=n) (by omega)
   have h2:=HS.out.len
   rw [List.take_append_of_le_length (by rw [hds];exact Nat.mul_le_mul_right _ hnc),HDT.out] at h1
   exact h1
  have k05:=k04.trans hkz
  clear hsz hrz hkz k4 k03
  go_wp2
  go_ret
  exact ⟨_,rfl,HR.out,k05,fun b hb=>.inr (by simp [Value.ownBlock] at hb;omega)⟩
 skip
 go_upto_region 4 with fail
 refine wE 2 [iV ((m:Int)-((c:Int)-(n:Int))),bV false] [15,16] ?_ ?_
 ·refine mE 1 1 ?_
  refine aS 2 rfl (fun a u E D hk=>XX rfl (dD D 0) rfl) (Ku (by omega)) ?_
  exact fz
 intro w3 k3
 simp only [F8]
 have k03:=k02.trans k3
 have HR:=Kj (HS.out.kept k03)
 clear k02 k3
 go_wp2
 go_ret
 exact ⟨_,rfl,HR.out,k03,fun b hb=>.inl hb⟩
theorem growF_any (w:World) (v:Value) (n m:Nat) (cs:List Value) (hS:Sl w 77 21 v n cs) (hn:n+m≤100000000) :
  Calls Tryz.prog 115 #[v,.int .i64 (m:Int)] w fun r w'=>∃ v',r=.returned v'∧Sl w' 77 21 v' n cs∧Kept w w'∧∀ b,v'.ownBlock=some b→v.ownBlock=some b∨w.heap.size≤b:=by
 obtain ⟨A,c,rfl⟩:=hS.slice_
 obtain ⟨hnc,hcm,hA⟩:=hS.cap
 have hcm':c≤9223372036854775807:=by unfold maxLen at hcm;omega
 have HS:=Kj hS
 have HA:=Kj hA
 clear hS hA hcm
 go_enter Tryz.func115,Tryz.ntmps115
 go_upto_region 1 with fail
 refine wE 2 [iV (m:Int),bV false] [5,6] ?_ ?_
 ·refine mE 1 1 ?_
  refine aS 2 rfl (fun a u E D hk=>Wq rfl (dD D 0) rfl) (Ku (by omega)) ?_
  exact fz
 intro w1 k1
 simp only [F8]
 go_upto_region 3 with fail
 refine wEp 7 [iV (m:Int),.slice A n c,iV (c:Int),.slice A n c,iV (n:Int),iV (((c:Int):Int)-((n:Int):Int)),iV (((m:Int):Int)-((((c:Int):Int)-((n:Int):Int)):Int))] [8,9,10,11,12,13,14] ?_ ?_
 ·refine mE 1 1 ?_
  refine mE 2 0 ?_
  refine sW 3 rfl (fun a u E D hk=>JJU _ A n c slF.und rfl (dD D 1)) ?_
  refine mE 4 0 ?_
  refine sW 5 rfl (fun a u E D hk=>ZZ _ _ _ slF.und A n c rfl (dD D 3)) ?_
  refine sW 6 rfl (fun a u E D hk=>Vj (p:=((c:Int))) (q:=((n:Int))) (((c:Int):Int)-((n:Int):Int)) rfl (dD D 2) (dD D 4) rfl (by omega) (by omega)) ?_
  refine sW 7 rfl (fun a u E D hk=>Vj (p:=((m:Int))) (q:=((((c:Int):Int)-((n:Int):Int)))) (((m:Int):Int)-((((c:Int):Int)-((n:Int):Int)):Int)) rfl (dD D 0) (dD D 5) rfl (by omega) (by omega)) ?_
  exact fz
 intro w2 k2
 simp only [F8]
 refine Jx (.int .i64 (((m:Int):Int)-((((c:Int):Int)-((n:Int):Int)):Int))) rfl (JQ _ _ rfl (by kernel_rfl)) ?_
 simp only [Act.put,sA,sS,sZ]
 refine Kx ?_
 have k02:=k1.trans k2
 clear k1 k2
 by_cases hr:(m:Int)-((c:Int)-(n:Int)) > 0
 ·skip
  obtain ⟨ds,hds,hSL,hdt⟩:∃ ds:List Value,ds.length=c*21∧Sl w 77 21 (.slice A c c) c ds∧ds.take (n*21)=cs:=by
   cases A with
   | none=>
    have h0:=HA.out rfl
    subst h0
    have hn0:n=0:=by omega
    subst hn0
    have:=HS.out.len
    exact ⟨cs,by omega,HS.out,by rw [List.take_of_length_le (by omega)]⟩
   | some ad=>
    obtain ⟨g,off,c',e⟩:∃ g off c',Value.slice (some ad) n c=.slice (some ⟨g,off,none⟩) n c':=by
     obtain ⟨_,A',c2,e',_,_,_,h4⟩:=HS.out
     injection e' with e1 e2 e3
     subst e1 e3
     obtain ⟨g,off,cur,rfl,_⟩:=h4 _ rfl
     exact ⟨g,off,c,rfl⟩
    injection e with e1 e2 e3
    injection e1 with e1
    subst e1
    exact HS.out.longer (Nat.le_refl c) hnc
  have HSL:=Kj hSL
  have HDT:=Kj hdt
  obtain ⟨j,hj⟩:∃ j:Nat,(m:Int)-((c:Int)-(n:Int))=(j:Int):=⟨(m-(c-n)),by omega⟩
  rw [hj] at hr ⊢
  have hcj:c+j=n+m:=by omega
  have hj0:0<j:=by omega
  clear hSL hdt hj
  go_upto_region 4 with fail
  refine wE 2 [iV (j:Int),bV true] [15,16] ?_ ?_
  ·refine mE 1 1 ?_
   refine aS 2 rfl (fun a u E D hk=>XX rfl (dD D 0) rfl) (Ky (by omega)) ?_
   exact fz
  intro w3 k3
  simp only [F8]
  have k03:=k02.trans k3
  clear k02 k3
  go_upto_region 5 with fail
  refine wEp 5 [.slice A n c,.slice A n c,iV (c:Int),.slice A c c,iV (j:Int)] [17,18,19,20,21] ?_ ?_
  ·refine mE 1 0 ?_
   refine mE 2 0 ?_
   refine sW 3 rfl (fun a u E D hk=>JJU _ A n c slF.und rfl (dD D 1)) ?_
   refine sW 4 rfl (fun a u E D hk=>Wx slF _ _ _ _ _ rfl (dD D 0) (dD D 2) (run_h slF A n c c (Nat.le_refl _) HA.out u)) ?_
   refine mE 5 1 ?_
   exact fz
  intro w4 k4
  simp only [F8]
  have k04:=k03.trans k4
  obtain ⟨gn,cn,w5,zs,hrz,hsz,hzl,hkz,hgn⟩:=zJ slF Tryz.underlying3 55 w4 A c c j _ (HSL.out.kept k04) hj0 (by omega) (by unfold maxLen;omega) (by omega) (by omega)
  refine ZW _ w5 rfl (exec_appZ slF 3 (.tmp 20) (.tmp 21) _ _ rfl (by kernel_rfl) (by kernel_rfl) _ w5 hrz) ?_
  simp only [Act.put,sA,sS,sZ]
  refine Jx (.slice A n c) rfl (Jj _ _ rfl (by kernel_rfl)) ?_
  simp only [Act.put,sA,sS,sZ]
  refine Jx (.int .i64 (n:Int)) rfl (ZZ (.tmp 23) _ _ slF.und A n c rfl (by kernel_rfl)) ?_
  simp only [Act.put,sA,sS,sZ]
  refine Jx (.slice (some ⟨gn,0,none⟩) n cn) rfl (Wx slF (.tmp 22) (.tmp 24) _ _ _ rfl (by kernel_rfl) (by kernel_rfl) (run_h slF (some ⟨gn,0,none⟩) (c+j) cn n (by have:=hsz.cap.1;omega) (fun h=>by cases h) w5)) ?_
  simp only [Act.put,sA,sS,sZ]
  refine Jx (.slice (some ⟨gn,0,none⟩) n cn) rfl (JQ _ _ rfl (by kernel_rfl)) ?_
  simp only [Act.put,List.setIfInBounds_toArray,List.set_cons_zero]
  refine Kx ?_
  have zz:=k04.size
  have HR:Hid (Sl w5 77 21 (.slice (some ⟨gn,0,none⟩) n cn) n cs):=by
   have h1:=hsz.shrink (m:=n) (by omega)
   have h2:=HS.out.len
   rw [List.take_append_of_le_length (by rw [hds];exact Nat.mul_le_mul_right _ hnc),HDT.out] at h1
   exact h1
  have k05:=k04.trans hkz
  clear hsz hrz hkz k4 k03
  go_wp2
  go_ret
  exact ⟨_,rfl,HR.out,k05,fun b hb=>.inr (by simp [Value.ownBlock] at hb;omega)⟩
 skip
 go_upto_region 4 with fail
 refine wE 2 [iV ((m:Int)-((c:Int)-(n:Int))),bV false] [15,16] ?_ ?_
 ·refine mE 1 1 ?_
  refine aS 2 rfl (fun a u E D hk=>XX rfl (dD D 0) rfl) (Ku (by omega)) ?_
  exact fz
 intro w3 k3
 simp only [F8]
 have k03:=k02.trans k3
 have HR:=Kj (HS.out.kept k03)
 clear k02 k3
 go_wp2
 go_ret
 exact ⟨_,rfl,HR.out,k03,fun b hb=>.inl hb⟩
theorem slOO:SlT 109 44 1 24:=⟨Tryz.underlying109,by kernel_rfl,⟨.slice none 0 0,by kernel_rfl,rfl,by intro u hu;simp [Value.cells] at hu;subst hu;rfl⟩,by omega⟩
theorem exec_two1 {a:Act} {o:Oper} {u:World} {t T:TypeId} {bytes:Nat} (ht:SlT t T 1 bytes) (x y:Operand) (v1 v2:Value) (hop:o.op=.buildSlice t 2 #[(0,x),(1,y)]) (hx:a.eval x=v1) (hy:a.eval y=v2) (h1:v1.cells=#[v1]) (h2:v2.cells=#[v2]) :
  (execOp a.eval o).run Tryz.prog u=.ok (.value (.slice (some ⟨u.heap.size,0,none⟩) 2 2)) (u.alloc (.cells [v1,v2].toArray T)):=by
 obtain ⟨z,hz,hz2,_⟩:=ht.info
 obtain ⟨i0,hi,hz0,hz1,hzb⟩:=info_parts hz
 unfold execOp
 simp only [hop,List.map_toArray,List.map_cons,List.map_nil,hx,hy]
 have e:Array.map (fun x=>z.cells[x % z.cells.size]!) (Array.range (2*1))=#[z.cells[0 % z.cells.size]!,z.cells[1 % z.cells.size]!]:=by
  apply Array.toList_inj.1
  simp [List.range_succ]
 have hr:=run_buildSlice (P:=Tryz.prog) u t T 2 #[(0,v1),(1,v2)] [v1,v2].toArray i0 z ht.und hi hz0 (by rw [hz1];omega) (by rw [hz1];omega) (by
  rw [hz1]
  simp only [Instr.fill,h1,h2,e]
  simp)
 simp only [Sem.run_bind,hr,Result.andThen_ok]
 rfl
def Cat (w:World) (g:Nat) (X Y:List Ord):Prop:=∃ v1 v2,Blk w g 44 [v1,v2]∧Sl w 30 9 v1 X.length (ords X)∧Sl w 30 9 v2 Y.length (ords Y)
theorem Cat.kept {w w':World} {g:Nat} {X Y:List Ord} (h:Cat w g X Y) (hk:Kept w w'):Cat w' g X Y:=by
 obtain ⟨v1,v2,h1,h2,h3⟩:=h
 exact ⟨v1,v2,h1.kept hk,h2.kept hk,h3.kept hk⟩
def catP (X Y:List Ord) (i:Nat):List Ord:=if i=0 then [] else if i=1 then X else X++Y
def catE (X Y:List Ord) (i:Nat):List Ord:=if i=0 then X else Y
theorem catP_next (X Y:List Ord) (i:Nat) (h:i<2):catP X Y (i+1)=catP X Y i++catE X Y i:=by
 rcases (by omega:i=0∨i=1) with rfl | rfl <;> rfl
theorem catP_len (X Y:List Ord) (i:Nat):(catP X Y i).length≤X.length+Y.length:=by
 unfold catP
 repeat' split
 all_goals simp
def Kn.cat (base:Nat) (X Y:List Ord):Kn:=⟨fun v w=>∃ g,v=.slice (some ⟨g,0,none⟩) 2 2∧base≤g∧Cat w g X Y,fun _ _ _ ⟨g,h1,h2,h3⟩ hk=>⟨g,h1,h2,h3.kept hk⟩⟩
theorem concatE_any (w:World) (g N:Nat) (E P:Nat→List Ord) (h:∀ i,i<N→∃ v,w.cell? ⟨g,0+i*1,none⟩=some v∧Sl w 30 9 v (E i).length (ords (E i))) (h0:P 0=[]) (hs:∀ i,i<N→P (i+1)=P i++E i) (hl:∀ i,i≤N→(P i).length≤1000000) (hN1:N≤1000):Gives 62 #[.slice (some ⟨g,0,none⟩) N N] w (.sl w.heap.size 30 9 (P N).length (ords (P N))):=by
 have HE:=Kj h
 have HP0:=Kj h0
 have HPS:=Kj hs
 have HN:=Kj hl
 have hEl:∀ i,i<N→(E i).length≤1000000:=fun i hi=>by
  have:=hl (i+1) (by omega)
  rw [hs i hi,List.length_append] at this
  omega
 have HEL:=Kj hEl
 clear h h0 hs hl hEl
 go_enter Tryz.func62,Tryz.ntmps62
 go_upto_region 1 with fail
 refine wE 1 [iV 0] [3] ?_ ?_
 ·refine sW 1 rfl (fun a u E D hk=>JQ _ _ rfl rfl) ?_
  exact fz
 intro wa ka
 simp only [F8]
 go_upto_region 2 with fail
 refine wE 3 [.slice (some ⟨g,0,none⟩) N N,iV (N:Int),iV 0] [9,10,11] ?_ ?_
 ·refine mE 1 0 ?_
  refine sW 2 rfl (fun a u E D hk=>ZZ _ _ _ slOO.und (some ⟨g,0,none⟩) N N rfl (dD D 0)) ?_
  refine sW 3 rfl (fun a u E D hk=>Jj _ _ rfl rfl) ?_
  exact fz
 intro w0 k0
 simp only [F8]
 have k00:=ka.trans k0
 clear ka k0
 go_wp2_with fail
 go_loopw [3,11] (fun t x wr=>∃ (i:Nat) (m:Nat),i≤N∧x=.int .i64 (i:Int)∧t=.int .i64 (m:Int)∧Hid (m=(P i).length)∧Kept w wr) (fun _ x _=>N-(intOf x).toNat)
 case atStart=>exact ⟨0,0,by omega,rfl,rfl,by show _=_;rw [HP0.out];rfl,k00⟩
 obtain ⟨i,m,hi,rfl,rfl,HM,hkr⟩:=hrel
 by_cases hlt:i<N
 ·skip
  obtain ⟨ve,hve,hse⟩:=HE.out i hlt
  have HC:=Kj (hkr.cell hve)
  have HSE:=Kj (hse.kept hkr)
  clear hve hse
  obtain ⟨e,he⟩:∃ e,(E i).length=e:=⟨_,rfl⟩
  have heN:e≤1000000:=by have:=HEL.out i hlt;omega
  have HM2:Hid (m+e=(P (i+1)).length):=by show _=_;rw [HPS.out i hlt,List.length_append,HM.out,he]
  have hmN:m≤1000000:=by have:=HN.out i (by omega);have:=HM.out;omega
  rw [he] at HSE
  clear he HM
  go_upto_region 4 with fail
  refine wE 3 [pV g (0+i*1),ve,ve] [13,14,5] ?_ ?_
  ·refine sW 1 rfl (fun a u E D hk=>Jz slOO _ _ (g) (0) N N i (0+i*1) ((i:Int)) rfl (eE E) (eE E) (by first | rfl | omega) (hlt) (by first | rfl | omega)) ?_
   refine sW 2 rfl (fun a u E D hk=>Jy _ _ Tryz.underlying44 _ _ _ rfl (dD D 0) (Kept.cell hk (HC.out))) ?_
   refine mD 3 14 1 ?_
   exact fz
  intro w1 k1
  simp only [F8]
  have kw1:=hkr.trans k1
  have HSE1:=Kj (HSE.out.kept k1)
  clear k1 HC HSE
  go_upto_region 5 with fail
  refine wEp 4 [iV (m:Int),ve,iV (e:Int),iV (((m:Int):Int)+((e:Int):Int))] [15,16,17,18] ?_ ?_
  ·refine mE 1 3 ?_
   refine mE 2 5 ?_
   refine sW 3 rfl (fun a u E D hk=>Qq _ slO _ _ _ _ rfl (dD D 1) HSE1.out) ?_
   refine sW 4 rfl (fun a u E D hk=>ZJ (p:=((m:Int))) (q:=((e:Int))) (((m:Int):Int)+((e:Int):Int)) rfl (dD D 0) (dD D 2) rfl (by omega) (by omega)) ?_
   exact fz
  intro w2 k2
  simp only [F8]
  refine Jx (.int .i64 (((m:Int):Int)+((e:Int):Int))) rfl (JQ _ _ rfl (by kernel_rfl)) ?_
  simp only [Act.put,sA,sS,sZ]
  refine Kx ?_
  have kw2:=kw1.trans k2
  clear k2 kw1 HSE1
  have hnn:¬ ((m:Int)+(e:Int)<0):=by omega
  go_wp2
  exact ⟨⟨i+1,m+e,by omega,by go_num,by go_num,HM2,kw2⟩,by simp [intOf];omega⟩
 have hi2:N=i:=by omega
 subst hi2
 have hm:m=(P N).length:=HM.out
 have hmN:m≤1000000:=by rw [hm];exact HN.out N (Nat.le_refl _)
 have HMM:=Kj hm
 clear HM hm
 go_upto_region 9 with fail
 refine wT 3 [iE (m:Int),.sl wr.heap.size 30 9 0 [],.sl wr.heap.size 30 9 0 []] [23,24,6] ?_ ?_
 ·refine mE 1 3 ?_
  refine cS 2 81 [.slice none 0 0,.int .i64 (m:Int)] rfl Tryz.func81 rfl (fun a u E D hk=>⟨ll rfl (ll (dD D 0) rfl),(growO_any u (.slice none 0 0) 0 m [] (Sl.nil _ _ _) (by omega)).mono (fun e w' ⟨v,h1,h2,h3,h4⟩=>⟨v,h1,⟨h2,fun b hb=>(h4 b hb).elim (fun h=>by simp [Value.ownBlock] at h) (fun h=>Kv hk.size h)⟩,h3⟩)⟩) ?_
  refine QY 3 rfl (fun a u hE hD hk=>YW _ rfl (JZ rfl _) (JQ (.tmp 24) _ rfl rfl) (dD hD 1)) ?_
  exact fz
 intro gv w1 hV k1
 simp only [Fz7]
 have hv6:(.sl wr.heap.size 30 9 0 []:Kn).p (gv 6) w1:=hV 2 6 (by kernel_rfl)
 generalize gv 6=v6 at hv6 ⊢
 clear hV
 have kw1:=hkr.trans k1
 have zr:=hkr.size
 have HV1:Hid ((Kn.sl w.heap.size 30 9 (P 0).length (ords (P 0))).p v6 w1):=by rw [HP0.out];exact ⟨hv6.1,fun b hb=>Kv zr (hv6.2 b hb)⟩
 clear hv6 k1 hkr zr
 go_upto_region 10 with fail
 refine wE 3 [.slice (some ⟨g,0,none⟩) N N,iV (N:Int),iV 0] [25,26,27] ?_ ?_
 ·refine mE 1 0 ?_
  refine sW 2 rfl (fun a u E D hk=>ZZ _ _ _ slOO.und (some ⟨g,0,none⟩) N N rfl (dD D 0)) ?_
  refine sW 3 rfl (fun a u E D hk=>Jj _ _ rfl rfl) ?_
  exact fz
 intro w2 k2
 simp only [F8]
 have kw2:=kw1.trans k2
 have HV2:=Kj ((Kn.sl w.heap.size 30 9 (P 0).length (ords (P 0))).st _ _ _ HV1.out k2)
 clear HV1 k2 kw1
 go_wp2_with fail
 go_loopw [6,27] (fun t x wr=>∃ (i:Nat),i≤N∧x=.int .i64 (i:Int)∧Hid ((Kn.sl w.heap.size 30 9 (P i).length (ords (P i))).p t wr)∧Kept w wr) (fun _ x _=>N-(intOf x).toNat)
 case atStart=>exact ⟨0,by omega,rfl,HV2.out,kw2⟩
 obtain ⟨i,hi,rfl,HV,hkr⟩:=hrel
 obtain ⟨vv,hvv⟩:∃ x,x=u6:=⟨_,rfl⟩
 subst hvv
 by_cases hlt:i<N
 ·skip
  obtain ⟨ve,hve,hse⟩:=HE.out i hlt
  have HC:=Kj (hkr.cell hve)
  have HSE:=Kj (hse.kept hkr)
  clear hve hse
  go_upto_region 12 with fail
  refine wE 3 [pV g (0+i*1),ve,ve] [29,30,8] ?_ ?_
  ·refine sW 1 rfl (fun a u E D hk=>Jz slOO _ _ (g) (0) N N i (0+i*1) ((i:Int)) rfl (eE E) (eE E) (by first | rfl | omega) (hlt) (by first | rfl | omega)) ?_
   refine sW 2 rfl (fun a u E D hk=>Jy _ _ Tryz.underlying44 _ _ _ rfl (dD D 0) (Kept.cell hk (HC.out))) ?_
   refine mD 3 30 1 ?_
   exact fz
  intro w3 k3
  simp only [F8]
  have kw3:=hkr.trans k3
  have HSE3:=Kj (HSE.out.kept k3)
  have HV3:=Kj ((Kn.sl w.heap.size 30 9 (P i).length (ords (P i))).st _ _ _ HV.out k3)
  have z3:=kw3.size
  clear k3 HC HSE HV
  go_upto_region 13 with fail
  refine wEp 2 [vv,ve] [31,32] ?_ ?_
  ·refine mE 1 6 ?_
   refine mE 2 8 ?_
   exact fz
  intro w4 k4
  simp only [F8]
  have hl1:=HEL.out i hlt
  have hl2:=HN.out i (by omega)
  have hl3:=hlt
  obtain ⟨v5,w5,hr5,hs5,hk5,ho5⟩:=Qy slO 44 w4 vv ve _ _ _ _ (HV3.out.1.kept k4) (HSE3.out.kept k4) (qX _) (by unfold maxLen;omega) (by omega)
  refine ZW v5 w5 rfl (XQ slO (.tmp 31) (.tmp 32) vv ve rfl (by kernel_rfl) (by kernel_rfl) v5 w5 hr5) ?_
  simp only [Act.put,sA,sS,sZ]
  refine Jx (v5) rfl (JQ _ _ rfl (by kernel_rfl)) ?_
  simp only [Act.put,sA,sS,sZ]
  refine Kx ?_
  have z4:=k4.size
  have kw5:Kept w w5:=Keep.trans (kw3.trans k4) hk5 (fun b hb hb'=>by have:=HV3.out.2 b hb';omega)
  have HV5:Hid ((Kn.sl w.heap.size 30 9 (P (i+1)).length (ords (P (i+1)))).p v5 w5):=by
   refine ⟨?_,fun b hb=>?_⟩
   ·rw [HPS.out i hlt,List.length_append]
    unfold ords at hs5 ⊢
    rw [List.flatMap_append]
    exact hs5
   rcases ho5 b hb with h | h
   ·exact HV3.out.2 b h
   omega
  clear hs5 hk5 ho5 HV3 HSE3 hr5 hl1 hl2 hl3 k4 kw3
  go_wp2
  exact ⟨⟨i+1,by omega,by go_num,HV5,kw5⟩,by simp [intOf];omega⟩
 have hi2:N=i:=by omega
 subst hi2
 have HF:Hid ((Kn.sl w.heap.size 30 9 (P N).length (ords (P N))).p vv wr):=HV.out
 clear HV
 go_wp2
 go_ret
 exact ⟨vv,rfl,HF.out,hkr⟩
theorem concat_any (w:World) (g:Nat) (X Y:List Ord) (h:Cat w g X Y) (hn:X.length+Y.length≤1000000):Gives 62 #[.slice (some ⟨g,0,none⟩) 2 2] w (.sl w.heap.size 30 9 (X++Y).length (ords (X++Y))):=by
 obtain ⟨v1,v2,hB,h1,h2⟩:=h
 exact concatE_any w g 2 (catE X Y) (catP X Y) (fun i hi=>by
  rcases (by omega:i=0∨i=1) with rfl | rfl
  ·exact ⟨v1,hB.cell 0,h1⟩
  exact ⟨v2,hB.cell 1,h2⟩) rfl (fun i hi=>catP_next X Y i hi) (fun i _=>by have:=catP_len X Y i;omega) (by omega)
theorem bfind_any (w:World) (F:Nat→Prop) (p:Nat) (B:Bok) (t j:Int) (h:Bk w F p B) (hI:Inv B):Gives 33 #[.pointer (some ⟨p,0,none⟩),.int .i64 t,.int .i64 j] w (.eq (.tuple #[(B.find t j).1.v,.bool (B.find t j).2])):=by
 refine XJ ?_
 have HK:=Kj h
 have HI:=Kj hI
 have hlen:(Yy B.buys).length≤64∧(Yy B.sells).length≤64:=by
  have h1:=hI.two.mine.few
  have h2:=hI.two.theirs.few
  rw [qY,qY]
  exact ⟨h1,h2⟩
 have HLN:=Kj hlen
 have HAL:Hid (Yy B.buys++Yy B.sells=B.all.map (·.o)):=by show _=_;unfold Yy Bok.all;rw [List.map_append]
 clear h hI hlen
 go_enter Tryz.func33,Tryz.ntmps33
 go_upto_region 0 with fail
 refine QZ 2 [.fresh w.heap.size 30 JV.cells,bE false] rfl (by kernel_rfl) ?_ ?_
 ·refine nW 1 rfl (fun a u E D hk=>⟨_,_,QW 30 JV.cells rfl zO,⟨_,rfl,hk.size,Blk.new u _ _⟩,((Keep.refl _ u).alloc _)⟩) ?_
  refine sW 2 rfl (fun a u E D hk=>JQ _ _ rfl rfl) ?_
  exact fz
 intro gv wz hV kz
 rw [dq 2 [6,7]]
 simp only [Fz7]
 have hv6:(.fresh w.heap.size 30 JV.cells:Kn).p (gv 6) wz:=hV 0 6 (by kernel_rfl)
 generalize gv 6=v6 at hv6 ⊢
 rw [gQ hV 1 7 (.bool false)]
 clear hV
 obtain ⟨b6,rfl,hb6,hB6⟩:=hv6
 refine Kx ?_
 have HB6:=Kj hB6
 have l6:=hB6.lt
 have HKz:=Kj (HK.out.kept kz)
 clear hB6
 obtain ⟨X,hX⟩:∃ X,Yy B.buys=X:=⟨_,rfl⟩
 obtain ⟨Y,hY⟩:∃ Y,Yy B.sells=Y:=⟨_,rfl⟩
 rw [hX,hY] at HLN HAL
 have HX:=Kj hX
 have HY:=Kj hY
 clear hX hY
 obtain ⟨n,hn⟩:∃ n,(X++Y).length=n:=⟨_,rfl⟩
 have hn1:n≤128:=by rw [← hn,List.length_append];have:=HLN.out;omega
 have HN:=Kj hn
 clear hn
 go_upto_region 1 with fail
 refine wF 12 [pE p 0,pE p 0,pE p 0,.sl wz.heap.size 30 9 X.length (ords X),pE p 0,pE p 0,pE p 2,.sl wz.heap.size 30 9 Y.length (ords Y),.cat wz.heap.size X Y,.sl wz.heap.size 30 9 n (ords (X++Y)),iE (n:Int),iE 0] [10,11,12,13,14,15,16,17,18,19,20,21] ?_ ?_
 ·refine mE 1 0 ?_
  refine nD 2 10 0 ?_
  refine fD 3 11 1 82 0 0 0 ?_
  refine cS 4 63 [.pointer (some ⟨p,0,none⟩)] rfl Tryz.func63 rfl (fun a u E D hk=>⟨ll (dD D 2) rfl,(by obtain ⟨F',hL⟩:=(HKz.out.kept hk).lad (.inl rfl:(1:Int)=1∨(1:Int)=2);have hd:=xy (lorders_any u F' p 0 1 _ hL (HI.out.ok 1)) hk.size;rw [show Yy (B.sd 1)=X from HX.out] at hd;exact hd)⟩) ?_
  refine mE 5 0 ?_
  refine nD 6 14 4 ?_
  refine fD 7 15 5 82 1 2 0 ?_
  refine cS 8 63 [.pointer (some ⟨p,2,none⟩)] rfl Tryz.func63 rfl (fun a u E D hk=>⟨ll (dD D 6) rfl,(by obtain ⟨F',hL⟩:=(HKz.out.kept hk).lad (.inr rfl:(2:Int)=1∨(2:Int)=2);have hd:=xy (lorders_any u F' p 2 2 _ hL (HI.out.ok 2)) hk.size;rw [show Yy (B.sd 2)=Y from HY.out] at hd;exact hd)⟩) ?_
  refine nW 9 rfl (fun a u E D hk=>⟨_,_,exec_two1 slOO _ _ _ _ rfl rfl rfl (VV (D 3 13 (by kernel_rfl)).1) (VV (D 7 17 (by kernel_rfl)).1),⟨u.heap.size,rfl,hk.size,_,_,Blk.new u _ _,(D 3 13 (by kernel_rfl)).1.kept ((Keep.refl _ u).alloc _),(D 7 17 (by kernel_rfl)).1.kept ((Keep.refl _ u).alloc _)⟩,((Keep.refl _ u).alloc _)⟩) ?_
  refine QY 10 rfl (fun a u hE hD hk=>VJ 62 #[a.eval (.tmp 18)] rfl (JZ rfl _) (Jq 62 _ [.tmp 18] _ [a.eval (.tmp 18)] Tryz.func62 (by kernel_rfl) (by kernel_rfl) rfl rfl u) ((by obtain ⟨gg,hx,hgb,hcat⟩:=(hD 8 18 (by kernel_rfl));have hd:=xy (concat_any u gg X Y hcat (by have:=HLN.out;omega)) hk.size;rw [HN.out] at hd;rw [hx];exact hd))) ?_
  refine sW 11 rfl (fun a u E D hk=>Qq _ slO _ _ _ _ rfl rfl (D 9 19 (by kernel_rfl)).1) ?_
  refine sW 12 rfl (fun a u E D hk=>Jj _ _ rfl rfl) ?_
  exact fz
 intro gv w0 hV k0
 simp only [Fz7]
 have hv19:(.sl wz.heap.size 30 9 n (ords (X++Y)):Kn).p (gv 19) w0:=hV 9 19 (by kernel_rfl)
 generalize gv 19=v19 at hv19 ⊢
 rw [gQ hV 10 20 (.int .i64 (n:Int))]
 rw [gQ hV 11 21 (.int .i64 0)]
 clear hV
 have HS0:=Kj hv19.1
 have HB60:=Kj (HB6.out.kept k0)
 have z0:=k0.size
 have k00:=kz.trans k0
 obtain ⟨vs,hvs⟩:∃ x,x=v19:=⟨_,rfl⟩
 subst hvs
 clear hv19 HB6 HKz kz k0
 go_wp2_with fail
 go_loopw [21] (fun x wr=>∃ (i:Nat),i≤n∧x=.int .i64 (i:Int)∧Hid (∀ (j':Nat) (x:Ent),j'<i→B.all[j']?=some x→x.is t j=false)∧Kept w0 wr) (fun x _=>n-(intOf x).toNat)
 case atStart=>exact ⟨0,Nat.zero_le _,rfl,fun j' x hj=>(by omega),Kept.refl _⟩
 obtain ⟨i,hi,rfl,HM,hkr⟩:=hrel
 have HAN:Hid (B.all.length=n):=by show _=_;rw [← HN.out,HAL.out,List.length_map]
 by_cases hlt:i<n
 ·skip
  obtain ⟨g,off,c,rfl⟩:=HS0.out.some_ (by omega)
  obtain ⟨E,hE⟩:∃ E,B.all[i]?=some E:=⟨B.all[i]'(by rw [HAN.out];exact hlt),List.getElem?_eq_getElem (by rw [HAN.out];exact hlt)⟩
  obtain ⟨e,he⟩:∃ e,E.o=e:=⟨_,rfl⟩
  have HE:Hid (wr.rangeAt g (off+i*9) e.cells):=JJ (HS0.out.rngO i e (by rw [HAL.out,List.getElem?_map,hE,← he];rfl)) hkr
  have HEI:=Kj hE
  have HEO:=Kj he
  have HB6r:=Kj (HB60.out.kept hkr)
  clear hE he
  go_upto_region 3 with fail
  refine QZ 3 [pE g (off+i*9),.eq (e.v),.fresh wr.heap.size 30 JV.cells] rfl (by kernel_rfl) ?_ ?_
  ·refine sW 1 rfl (fun a u E D hk=>Jz slO _ _ (g) (off) n c i (off+i*9) ((i:Int)) rfl (eE E) (eE E) (by first | rfl | omega) (hlt) (by first | rfl | omega)) ?_
   refine sD 2 23 0 e.cells Tryz.underlying30 (fun u hk=>JJ HE.out hk) (by rw [e.len9];exact JX) ?_
   refine nW 3 rfl (fun a u E D hk=>⟨_,_,QW 30 JV.cells rfl zO,⟨_,rfl,hk.size,Blk.new u _ _⟩,((Keep.refl _ u).alloc _)⟩) ?_
   exact fz
  intro gv w1 hV k1
  rw [dq 3 [23,24,9]]
  simp only [Fz7]
  have hv9:(.fresh wr.heap.size 30 JV.cells:Kn).p (gv 9) w1:=hV 2 9 (by kernel_rfl)
  generalize gv 9=v9 at hv9 ⊢
  rw [gQ hV 1 24 e.v]
  clear hV
  obtain ⟨b9,rfl,hb9,hB9⟩:=hv9
  refine Qj 30 b9 30 JV.cells e.cells _ _ rfl rfl (by kernel_rfl) (by kernel_rfl) hB9 (by rw [Ord.len9];exact JX) (by rw [Ord.len9,Ord.len9]) (Ord.one1 _) ?_
  intro w2 hB2 hk2 hs2
  simp only [Act.put]
  refine Kx ?_
  have k12:Kept wr w2:=k1.trans' hk2 (by omega)
  have kw2:=hkr.trans k12
  have HB9:=Kj (JW hB2)
  have HB62:=Kj (HB6r.out.kept k12)
  have zr:=hkr.size
  clear hB9 hB2 hk2 hs2 k1 HE HB6r k12
  by_cases hc1:e.tr=t
  ·by_cases hc2:e.id=j
   ·have HR:Hid (B.find t j=(e,true)):=by
     show _=_
     have h1:=idx_of HM.out HEI.out (by rw [← HEO.out] at hc1 hc2;simp [Ent.is,hc1,hc2])
     unfold Bok.find findE
     rw [h1,HEI.out]
     simp only
     rw [HEO.out]
    go_upto_region 4 with fail
    refine wEp 9 [pV b9 0,iV e.tr,iV t,bV true,bV true,pV b9 1,iV e.id,iV j,bV true] [25,26,27,28,29,30,31,32,33] ?_ ?_
    ·refine fE 1 9 30 0 0 0 ?_
     refine lD 2 25 0 Tryz.underlying3 (fun u hk=>JY (JJ HB9.out hk) 0 _ rfl) ?_
     refine mE 3 1 ?_
     refine aS 4 rfl (fun a u E D hk=>JU rfl (dD D 1) (dD D 2)) (Ky hc1) ?_
     refine mD 5 28 3 ?_
     refine fE 6 9 30 1 1 0 ?_
     refine lD 7 30 5 Tryz.underlying3 (fun u hk=>JY (JJ HB9.out hk) 1 _ rfl) ?_
     refine mE 8 2 ?_
     refine aS 9 rfl (fun a u E D hk=>JU rfl (dD D 6) (dD D 7)) (Ky hc2) ?_
     exact fz
    intro w3 k3
    simp only [F8]
    refine Jx (.bool true) rfl (qV (.tmp 29) (.tmp 33) (.const (.bool false)) (.bool true) rfl (by kernel_rfl) (by kernel_rfl)) ?_
    simp only [Act.put,sA,sS,sZ]
    refine Kx ?_
    have kw3:=kw2.trans k3
    have HB93:=Kj (JJ HB9.out k3)
    have HB63:=Kj (HB62.out.kept k3)
    clear HM HB9 HB62 kw2 k3 hc1 hc2
    go_upto_region 5 with fail
    refine wEp 1 [e.v] [35] ?_ ?_
    ·refine sE 1 9 b9 0 e.cells Tryz.underlying30 (fun u hk=>JJ HB93.out hk) (by rw [e.len9];exact JX) ?_
     exact fz
    intro w4 k4
    simp only [F8]
    refine Qj 30 b6 30 JV.cells e.cells _ _ rfl rfl (by kernel_rfl) (by kernel_rfl) (HB63.out.kept k4) (by rw [Ord.len9];exact JX) (by rw [Ord.len9,Ord.len9]) (Ord.one1 _) ?_
    intro w5 hB5 hk5 hs5
    simp only [Act.put]
    refine Jx (.bool true) rfl (JQ _ _ rfl (by kernel_rfl)) ?_
    simp only [Act.put,sA,sS,sZ]
    refine Kx ?_
    go_wp2
    refine bodyPost_ret (XU (p:=6) (q:=7) rfl _ _ b6 _ e.cells true rfl rfl hB5 Tryz.underlying30 (by rw [Ord.len9];exact JX)) rfl ?_
    rw [HR.out]
    exact ⟨rfl,((k00.trans kw3).trans k4).trans' hk5 (by omega)⟩
   skip
   go_upto_region 4 with fail
   refine wEp 9 [pV b9 0,iV e.tr,iV t,bV true,bV true,pV b9 1,iV e.id,iV j,bV false] [25,26,27,28,29,30,31,32,33] ?_ ?_
   ·refine fE 1 9 30 0 0 0 ?_
    refine lD 2 25 0 Tryz.underlying3 (fun u hk=>JY (JJ HB9.out hk) 0 _ rfl) ?_
    refine mE 3 1 ?_
    refine aS 4 rfl (fun a u E D hk=>JU rfl (dD D 1) (dD D 2)) (Ky hc1) ?_
    refine mD 5 28 3 ?_
    refine fE 6 9 30 1 1 0 ?_
    refine lD 7 30 5 Tryz.underlying3 (fun u hk=>JY (JJ HB9.out hk) 1 _ rfl) ?_
    refine mE 8 2 ?_
    refine aS 9 rfl (fun a u E D hk=>JU rfl (dD D 6) (dD D 7)) (Ku hc2) ?_
    exact fz
   intro w3 k3
   simp only [F8]
   refine Jx (.bool false) rfl (qV (.tmp 29) (.tmp 33) (.const (.bool false)) (.bool false) rfl (by kernel_rfl) (by kernel_rfl)) ?_
   simp only [Act.put,sA,sS,sZ]
   refine Kx ?_
   have kw3:=kw2.trans k3
   have HM2:Hid (∀ (j':Nat) (x:Ent),j'<i+1→B.all[j']?=some x→x.is t j=false):=by
    intro j' x hj hx
    by_cases hjk:j'=i
    ·subst hjk
     rw [HEI.out] at hx
     injection hx with hx
     rw [← hx]
     have hE1:=HEO.out
     subst hE1
     simp [Ent.is]
     exact fun _=>hc2
    exact HM.out j' x (by omega) hx
   clear HM k3
   go_wp2
   exact ⟨⟨i+1,by omega,by go_num,HM2,kw3⟩,by simp [intOf];omega⟩
  skip
  go_upto_region 4 with fail
  refine wEp 9 [pV b9 0,iV e.tr,iV t,bV false,bV false,undef,undef,undef,undef] [25,26,27,28,29,30,31,32,33] ?_ ?_
  ·refine fE 1 9 30 0 0 0 ?_
   refine lD 2 25 0 Tryz.underlying3 (fun u hk=>JY (JJ HB9.out hk) 0 _ rfl) ?_
   refine mE 3 1 ?_
   refine aS 4 rfl (fun a u E D hk=>JU rfl (dD D 1) (dD D 2)) (Ku hc1) ?_
   refine mD 5 28 3 ?_
   refine kS 6 4 ?_
   refine kS 7 4 ?_
   refine kS 8 4 ?_
   refine kS 9 4 ?_
   exact fz
  intro w3 k3
  simp only [F8]
  refine Jx (.bool false) rfl (Zj (.tmp 29) (.tmp 33) (.const (.bool false)) (.bool false) rfl (by kernel_rfl) rfl) ?_
  simp only [Act.put,sA,sS,sZ]
  refine Kx ?_
  have kw3:=kw2.trans k3
  have HM2:Hid (∀ (j':Nat) (x:Ent),j'<i+1→B.all[j']?=some x→x.is t j=false):=by
   intro j' x hj hx
   by_cases hjk:j'=i
   ·subst hjk
    rw [HEI.out] at hx
    injection hx with hx
    rw [← hx]
    have hE1:=HEO.out
    subst hE1
    simp [Ent.is]
    exact fun h=>absurd h hc1
   exact HM.out j' x (by omega) hx
  clear HM k3
  go_wp2
  exact ⟨⟨i+1,by omega,by go_num,HM2,kw3⟩,by simp [intOf];omega⟩
 have HR:Hid (B.find t j=(JV,false)):=by
  show _=_
  have h1:idxM t j B.all=B.all.length:=idx_none (fun j' x hj hx=>HM.out j' x (by rw [HAN.out] at hj;omega) hx)
  unfold Bok.find findE
  rw [h1,List.getElem?_eq_none (Nat.le_refl _)]
 have HB6r:=Kj (HB60.out.kept hkr)
 clear HM
 go_upto_region 7 with fail
 refine wEp 1 [JV.v] [37] ?_ ?_
 ·refine sW 1 rfl (fun a u E D hk=>YJ 30 [] JV.cells rfl (by kernel_rfl)) ?_
  exact fz
 intro w4 k4
 simp only [F8]
 refine Qj 30 b6 30 JV.cells JV.cells _ _ rfl rfl (by kernel_rfl) (by kernel_rfl) (HB6r.out.kept k4) (by rw [Ord.len9];exact JX) rfl (Ord.one1 _) ?_
 intro w5 hB5 hk5 hs5
 simp only [Act.put]
 refine Jx (.bool false) rfl (JQ _ _ rfl (by kernel_rfl)) ?_
 simp only [Act.put,sA,sS,sZ]
 refine Kx ?_
 go_wp2
 refine bodyPost_ret (XU (p:=6) (q:=7) rfl _ _ b6 _ JV.cells false rfl rfl hB5 Tryz.underlying30 (by rw [Ord.len9];exact JX)) rfl ?_
 rw [HR.out]
 exact ⟨rfl,((k00.trans hkr).trans k4).trans' hk5 (by omega)⟩
theorem visible_any (c:Ord) (w:World):Gives 121 #[c.v] w (.eq (.int .i64 c.tip)):=by
 refine XJ ?_
 go_enter Tryz.func121,Tryz.ntmps121
 go_upto_region 0 with fail
 refine QZ 2 [.fresh w.heap.size 30 (c.cells),iE 0] rfl (by kernel_rfl) ?_ ?_
 ·refine nW 1 rfl (fun a u E D hk=>⟨_,_,YX 30 _ (c.cells) rfl (eE E),⟨_,rfl,hk.size,Blk.new u _ _⟩,((Keep.refl _ u).alloc _)⟩) ?_
  refine sW 2 rfl (fun a u E D hk=>JQ _ _ rfl rfl) ?_
  exact fz
 intro gv w1 hV k1
 rw [dq 2 [1,2]]
 simp only [Fz7]
 have hv1:(.fresh w.heap.size 30 (c.cells):Kn).p (gv 1) w1:=hV 0 1 (by kernel_rfl)
 generalize gv 1=v1 at hv1 ⊢
 rw [gQ hV 1 2 (.int .i64 0)]
 clear hV
 obtain ⟨g,rfl,hg,hB⟩:=hv1
 refine Kx ?_
 have HB:=Kj (JW hB)
 clear hB
 by_cases hs:0<c.shw
 ·have HT:Hid (c.tip=mn c.shw c.qty):=by show _=_;unfold Ord.tip;rw [if_pos hs]
  go_upto_region 1 with fail
  refine wE 3 [pV g 7,iV c.shw,bV true] [3,4,5] ?_ ?_
  ·refine fE 1 1 30 7 7 0 ?_
   refine lD 2 3 0 Tryz.underlying3 (fun u hk=>JY (JJ HB.out hk) 7 _ rfl) ?_
   refine aS 3 rfl (fun a u E D hk=>XX rfl (dD D 1) rfl) (Ky hs) ?_
   exact fz
  intro w2 k2
  simp only [F8]
  have HB2:=Kj (JJ HB.out k2)
  clear HB hs
  go_upto_region 2 with fail
  refine wE 6 [pV g 7,iV c.shw,pV g 6,iV c.qty,iV (mn (c.shw) (c.qty)),iV (mn (c.shw) (c.qty))] [6,7,8,9,10,2] ?_ ?_
  ·refine fE 1 1 30 7 7 0 ?_
   refine lD 2 6 0 Tryz.underlying3 (fun u hk=>JY (JJ HB2.out hk) 7 _ rfl) ?_
   refine fE 3 1 30 6 6 0 ?_
   refine lD 4 8 2 Tryz.underlying3 (fun u hk=>JY (JJ HB2.out hk) 6 _ rfl) ?_
   refine sW 5 rfl (fun a u E D hk=>yU _ _ _ (c.shw) (c.qty) (mn (c.shw) (c.qty)) rfl (dD D 1) (dD D 3) rfl) ?_
   refine mD 6 10 4 ?_
   exact fz
  intro w3 k3
  simp only [F8]
  go_wp2
  go_ret
  exact ⟨by rw [HT.out];rfl,(k1.trans k2).trans k3⟩
 have HT:Hid (c.tip=c.qty):=by show _=_;unfold Ord.tip;rw [if_neg hs]
 go_upto_region 1 with fail
 refine wE 3 [pV g 7,iV c.shw,bV false] [3,4,5] ?_ ?_
 ·refine fE 1 1 30 7 7 0 ?_
  refine lD 2 3 0 Tryz.underlying3 (fun u hk=>JY (JJ HB.out hk) 7 _ rfl) ?_
  refine aS 3 rfl (fun a u E D hk=>XX rfl (dD D 1) rfl) (Ku hs) ?_
  exact fz
 intro w2 k2
 simp only [F8]
 have HB2:=Kj (JJ HB.out k2)
 clear HB hs
 go_upto_region 3 with fail
 refine wE 3 [pV g 6,iV c.qty,iV c.qty] [11,12,2] ?_ ?_
 ·refine fE 1 1 30 6 6 0 ?_
  refine lD 2 11 0 Tryz.underlying3 (fun u hk=>JY (JJ HB2.out hk) 6 _ rfl) ?_
  refine mD 3 12 1 ?_
  exact fz
 intro w3 k3
 simp only [F8]
 go_wp2
 go_ret
 exact ⟨by rw [HT.out];rfl,(k1.trans k2).trans k3⟩
def capo (g:Nat):List Value:=[.pointer (some ⟨g,0,none⟩)]
def cloO (g:Nat):Value:=.func (.func 119) #[] (capo g).toArray
theorem exec_mkfO {a:Act} {o:Oper} {u:World} (x:Operand) (g:Nat) (hop:o.op=.makeFunc (.func 119) #[] #[x]) (hx:a.eval x=.pointer (some ⟨g,0,none⟩)):(execOp a.eval o).run Tryz.prog u=.ok (.value (cloO g)) u:=by
 unfold execOp
 simp only [hop,Instr.makeFunc,List.map_toArray,List.map_cons,List.map_nil,hx]
 rfl
theorem own_any (c:Ord) (firm:Int) (g1:Nat) (w:World) (h1:Blk w g1 3 [.int .i64 firm]):Gives 119 #[c.v,.pointer (some ⟨g1,0,none⟩)] w (.eq (.bool (decide (c.firm=firm)))):=by
 refine XJ ?_
 have H1:=Kj h1
 clear h1
 go_enter Tryz.func119,Tryz.ntmps119
 go_upto_region 0 with fail
 refine QZ 2 [.fresh w.heap.size 30 (c.cells),bE false] rfl (by kernel_rfl) ?_ ?_
 ·refine nW 1 rfl (fun a u E D hk=>⟨_,_,YX 30 _ (c.cells) rfl (eE E),⟨_,rfl,hk.size,Blk.new u _ _⟩,((Keep.refl _ u).alloc _)⟩) ?_
  refine sW 2 rfl (fun a u E D hk=>JQ _ _ rfl rfl) ?_
  exact fz
 intro gv w1 hV k1
 rw [dq 2 [2,3]]
 simp only [Fz7]
 have hv2:(.fresh w.heap.size 30 (c.cells):Kn).p (gv 2) w1:=hV 0 2 (by kernel_rfl)
 generalize gv 2=v2 at hv2 ⊢
 clear hV
 obtain ⟨g,rfl,hg,hB⟩:=hv2
 refine Kx ?_
 have HB:=Kj (JW hB)
 have H11:=Kj (H1.out.kept k1)
 clear hB H1
 go_upto_region 1 with fail
 refine wE 5 [pV g 2,iV c.firm,iV firm,bV (decide ((c.firm:Int)=(firm:Int))),bV (decide ((c.firm:Int)=(firm:Int)))] [4,5,6,7,3] ?_ ?_
 ·refine fE 1 2 30 2 2 0 ?_
  refine lD 2 4 0 Tryz.underlying3 (fun u hk=>JY (JJ HB.out hk) 2 _ rfl) ?_
  refine sW 3 rfl (fun a u E D hk=>QX 3 Tryz.underlying3 _ ⟨g1,0,none⟩ (.int .i64 firm) rfl (eE E) (by rw [(H11.out.kept hk).cell];rfl)) ?_
  refine sW 4 rfl (fun a u E D hk=>JU rfl (dD D 1) (dD D 2)) ?_
  refine mD 5 7 3 ?_
  exact fz
 intro w2 k2
 simp only [F8]
 go_wp2
 go_ret
 exact ⟨rfl,k1.trans k2⟩
def ownP (firm:Int) (X:List Ent):Int:=if UJ firm X<X.length then (UJ firm X:Int) else -1
theorem ownAt_of {firm:Int} {X:List Ent} {k:Nat} {e:Ent} (h:∀ (j:Nat) (x:Ent),j<k→X[j]?=some x→decide (x.o.firm=firm)=false) (he:X[k]?=some e) (hm:decide (e.o.firm=firm)=true):UJ firm X=k:=by
 obtain ⟨hk,he'⟩:=List.getElem?_eq_some_iff.1 he
 unfold UJ
 rw [List.findIdx_eq hk]
 refine ⟨by rw [he'];exact hm,fun j hj=>?_⟩
 have:=h j X[j] hj (List.getElem?_eq_getElem (by omega))
 simpa using this
theorem ownAt_none {firm:Int} {X:List Ent} (h:∀ (j:Nat) (x:Ent),j<X.length→X[j]?=some x→decide (x.o.firm=firm)=false):UJ firm X=X.length:=by
 unfold UJ
 rw [List.findIdx_eq_length]
 intro x hx
 obtain ⟨j,hj,rfl⟩:=List.getElem_of_mem hx
 exact h j _ hj (List.getElem?_eq_getElem hj)
theorem oidx_any (v:Value) (X:List Ent) (firm:Int) (g1:Nat) (w:World) (hS:Sl w 30 9 v X.length (ords (X.map (·.o)))) (hlen:X.length≤100000000) (h1:Blk w g1 3 [.int .i64 firm]) :
  Gives 58 #[v,cloO g1] w (.eq (.int .i64 (ownP firm X))):=by
 refine XJ ?_
 obtain ⟨n,hn⟩:∃ n,X.length=n:=⟨_,rfl⟩
 rw [hn] at hS hlen
 have HN:=Kj hn
 have HS:=Kj hS
 have H1:=Kj h1
 clear hS h1 hn
 go_enter Tryz.func58,Tryz.ntmps58
 go_upto_region 1 with fail
 refine wE 3 [v,iV (n:Int),iV 0] [6,7,8] ?_ ?_
 ·refine mE 1 0 ?_
  refine sW 2 rfl (fun a u E D hk=>Qq _ slO _ _ _ _ rfl (dD D 0) HS.out) ?_
  refine sW 3 rfl (fun a u E D hk=>Jj _ _ rfl rfl) ?_
  exact fz
 intro w0 k0
 simp only [F8]
 go_wp2_with fail
 go_loopw [8] (fun q wr=>∃ (k:Nat),k≤n∧q=.int .i64 (k:Int)∧Hid (∀ (j:Nat) (x:Ent),j<k→X[j]?=some x→decide (x.o.firm=firm)=false)∧Kept w wr) (fun q _=>n-(intOf q).toNat)
 case atStart=>exact ⟨0,Nat.zero_le _,rfl,fun j x hj=>(by omega),k0⟩
 obtain ⟨k,hk,rfl,HM,hkr⟩:=hrel
 by_cases hlt:k<n
 ·obtain ⟨g,off,c,rfl⟩:=HS.out.some_ (by omega)
  obtain ⟨e,he⟩:∃ e,X[k]?=some e:=⟨X[k]'(by rw [HN.out];exact hlt),List.getElem?_eq_getElem (by rw [HN.out];exact hlt)⟩
  have HE:Hid (wr.rangeAt g (off+k*9) e.o.cells):=JJ (HS.out.rngO k e.o (by rw [List.getElem?_map,he];rfl)) hkr
  have H1r:=Kj (H1.out.kept hkr)
  have HEI:=Kj he
  clear he
  by_cases hm:decide (e.o.firm=firm)=true
  ·have HP:Hid (ownP firm X=(k:Int)):=by
    show _=_
    have h1:=ownAt_of HM.out HEI.out hm
    unfold ownP
    rw [h1,if_pos (by rw [HN.out];exact hlt)]
   go_upto_region 4 with fail
   refine wE 6 [cloO g1,.slice (some ⟨g,off,none⟩) n c,iV (k:Int),pV g (off+k*9),e.o.v,bV true] [11,12,13,14,15,16] ?_ ?_
   ·refine mE 1 1 ?_
    refine mE 2 0 ?_
    refine mE 3 5 ?_
    refine sW 4 rfl (fun a u E D hk=>Jz slO _ _ (g) (off) n c k (off+k*9) ((k:Int)) rfl (dD D 1) (dD D 2) (by first | rfl | omega) (hlt) (by first | rfl | omega)) ?_
    refine sD 5 14 3 e.o.cells Tryz.underlying30 (fun u hk=>JJ HE.out hk) (by rw [e.o.len9];exact JX) ?_
    refine QY 6 rfl (fun a u hE hD hk=>VJ 119 #[e.o.v,.pointer (some ⟨g1,0,none⟩)] rfl (JZ rfl _) (zY 119 _ (.tmp 11) [.tmp 15] _ [e.o.v] (capo g1) Tryz.func119 (by kernel_rfl) (by kernel_rfl) rfl (dD hD 0) (show [a.eval (.tmp 15)]=[e.o.v] by rw [show a.eval (.tmp 15)=e.o.v from (dD hD 4)])) (by rw [← hm];exact own_any e.o firm g1 u (H1r.out.kept hk))) ?_
    exact fz
   intro w1 k1
   simp only [F8]
   have kw1:=hkr.trans k1
   clear hkr k1 hm
   go_wp2
   go_ret
   exact ⟨by rw [HP.out];rfl,kw1⟩
  have hm':decide (e.o.firm=firm)=false:=by simpa using hm
  have HM2:Hid (∀ (j:Nat) (x:Ent),j<k+1→X[j]?=some x→decide (x.o.firm=firm)=false):=by
   intro j x hj hx
   by_cases hjk:j=k
   ·subst hjk
    rw [HEI.out] at hx
    injection hx with hx
    rw [← hx]
    exact hm'
   exact HM.out j x (by omega) hx
  clear hm
  go_upto_region 4 with fail
  refine wE 6 [cloO g1,.slice (some ⟨g,off,none⟩) n c,iV (k:Int),pV g (off+k*9),e.o.v,bV false] [11,12,13,14,15,16] ?_ ?_
  ·refine mE 1 1 ?_
   refine mE 2 0 ?_
   refine mE 3 5 ?_
   refine sW 4 rfl (fun a u E D hk=>Jz slO _ _ (g) (off) n c k (off+k*9) ((k:Int)) rfl (dD D 1) (dD D 2) (by first | rfl | omega) (hlt) (by first | rfl | omega)) ?_
   refine sD 5 14 3 e.o.cells Tryz.underlying30 (fun u hk=>JJ HE.out hk) (by rw [e.o.len9];exact JX) ?_
   refine QY 6 rfl (fun a u hE hD hk=>VJ 119 #[e.o.v,.pointer (some ⟨g1,0,none⟩)] rfl (JZ rfl _) (zY 119 _ (.tmp 11) [.tmp 15] _ [e.o.v] (capo g1) Tryz.func119 (by kernel_rfl) (by kernel_rfl) rfl (dD hD 0) (show [a.eval (.tmp 15)]=[e.o.v] by rw [show a.eval (.tmp 15)=e.o.v from (dD hD 4)])) (by rw [← hm'];exact own_any e.o firm g1 u (H1r.out.kept hk))) ?_
   exact fz
  intro w1 k1
  simp only [F8]
  have kw1:=hkr.trans k1
  clear hkr k1 hm'
  go_wp2
  exact ⟨⟨k+1,by omega,by go_num,HM2,kw1⟩,by simp [intOf];omega⟩
 have HP:Hid (ownP firm X=-1):=by
  show _=_
  have h1:UJ firm X=X.length:=ownAt_none (fun j x hj hx=>HM.out j x (by rw [HN.out] at hj;omega) hx)
  unfold ownP
  rw [h1,if_neg (by omega)]
 clear HM
 go_wp2
 go_ret
 exact ⟨by rw [HP.out];rfl,hkr⟩
def reachV (firm:Int) (X:List Ent):Value:=.tuple #[.int .i64 (ZV firm X).1,.bool (ZV firm X).2]
theorem tip_bound {X:List Ent} (hX:Good X) {e:Ent} (he:e ∈ X):e.o.tip≤100000000∧-100000000≤e.o.tip:=by
 have h1:=hX.ok e he
 have h2:=hX.few
 obtain ⟨i,hi,he'⟩:=List.getElem_of_mem he
 have h3:=wholeM_le hX.ok i e (by rw [List.getElem?_eq_getElem hi,he'])
 unfold Ord.tip mn
 split
 ·split <;> omega
 omega
theorem reach_any (pr:Int) (w:World) (F:Nat→Prop) (q:Nat) (X:List Ent) (firm:Int) (h:Lvl pr 116 113 w F q X) (hX:Good X) (hf:Fresh X):Gives 113 #[.pointer (some ⟨q,0,none⟩),.int .i64 firm] w (.eq (reachV firm X)):=by
 refine XJ ?_
 have HLV:=Kj h
 have HX:=Kj hX
 have HF:=Kj hf
 have hlen:=hX.len
 have hfew:=hX.few
 have HW:Hid (0≤QJ X∧QJ X≤100000000):=by
  have:=ZQ hX.ok
  show _∧_
  omega
 clear h hX hf hfew
 go_enter Tryz.func113,Tryz.ntmps113
 go_upto_region 0 with fail
 refine QZ 3 [.fresh w.heap.size 3 ([.int .i64 firm]),iE 0,bE false] rfl (by kernel_rfl) ?_ ?_
 ·refine nW 1 rfl (fun a u E D hk=>⟨_,_,exec_boxi 3 _ (.int .i64 firm) rfl (eE E) rfl,⟨_,rfl,hk.size,Blk.new u _ _⟩,((Keep.refl _ u).alloc _)⟩) ?_
  refine sW 2 rfl (fun a u E D hk=>JQ _ _ rfl rfl) ?_
  refine sW 3 rfl (fun a u E D hk=>JQ _ _ rfl rfl) ?_
  exact fz
 intro gv w0 hV k0
 rw [dq 3 [3,4,5]]
 simp only [Fz7]
 have hv3:(.fresh w.heap.size 3 ([.int .i64 firm]):Kn).p (gv 3) w0:=hV 0 3 (by kernel_rfl)
 generalize gv 3=v3 at hv3 ⊢
 rw [gQ hV 1 4 (.int .i64 0)]
 rw [gQ hV 2 5 (.bool false)]
 clear hV
 obtain ⟨g1,rfl,hg1,hB1⟩:=hv3
 refine Kx ?_
 have HB1:=Kj hB1
 have HL0:=Kj (HLV.out.kept k0)
 clear hB1 HLV
 obtain ⟨n,hn⟩:∃ n,X.length=n:=⟨_,rfl⟩
 have HN:=Kj hn
 go_upto_region 1 with fail
 refine QZ 3 [pE q 0,.sl w0.heap.size 30 9 n (ords (X.map (·.o))),.sl w0.heap.size 30 9 n (ords (X.map (·.o)))] rfl (by kernel_rfl) ?_ ?_
 ·refine mE 1 0 ?_
  refine cS 2 82 [.pointer (some ⟨q,0,none⟩)] rfl Tryz.func82 rfl (fun a u E D hk=>⟨ll (dD D 0) rfl,(by rw [← HN.out];exact xy (orders_any u F q X (HL0.out.kept hk) HX.out) hk.size)⟩) ?_
  refine QY 3 rfl (fun a u hE hD hk=>YW _ rfl (JZ rfl _) (JQ (.tmp 12) _ rfl rfl) (dD hD 1)) ?_
  exact fz
 intro gv w1 hV k1
 rw [dq 3 [11,12,6]]
 simp only [Fz7]
 have hv6:(.sl w0.heap.size 30 9 n (ords (X.map (·.o))):Kn).p (gv 6) w1:=hV 2 6 (by kernel_rfl)
 generalize gv 6=v6 at hv6 ⊢
 clear hV
 obtain ⟨v,hv⟩:∃ v,v=v6:=⟨_,rfl⟩
 subst hv
 refine Kx ?_
 have HS1:=Kj hv6.1
 have HL1:=Kj (HL0.out.kept k1)
 have HB11:=Kj (HB1.out.kept k1)
 have kw1:=k0.trans k1
 rw [hn] at hlen
 clear HL0 HB1 k0 k1 hv6 hn
 go_upto_region 2 with fail
 refine wE 4 [v,cloO g1,iV (ownP firm X),iV (ownP firm X)] [13,14,15,7] ?_ ?_
 ·refine mE 1 6 ?_
  refine sW 2 rfl (fun a u E D hk=>exec_mkfO _ g1 rfl (eE E)) ?_
  refine cS 3 58 [v,cloO g1] rfl Tryz.func58 rfl (fun a u E D hk=>⟨ll (dD D 0) (ll (dD D 1) rfl),oidx_any v X firm g1 u (by rw [HN.out];exact HS1.out.kept hk) (by rw [HN.out];exact hlen) (HB11.out.kept hk)⟩) ?_
  refine mD 4 15 2 ?_
  exact fz
 intro w2 k2
 simp only [F8]
 have kw2:=kw1.trans k2
 have HL2:=Kj (HL1.out.kept k2)
 have HS2:=Kj (HS1.out.kept k2)
 clear HL1 HS1 HB11 kw1
 by_cases hown:UJ firm X<n
 ·skip
  obtain ⟨k,hk0⟩:∃ k,UJ firm X=k:=⟨_,rfl⟩
  have hP:ownP firm X=(k:Int):=by unfold ownP;rw [if_pos (by rw [HN.out];exact hown),hk0]
  rw [hP]
  have HR:Hid (ZV firm X=(QJ (X.take k),true)):=by show _=_;unfold ZV;rw [if_pos (by rw [HN.out];exact hown),hk0]
  rw [hk0] at hown
  clear hP hk0
  by_cases hz:k=0
  ·subst hz
   have HR0:Hid (reachV firm X=.tuple #[.int .i64 0,.bool true]):=by show _=_;unfold reachV;rw [HR.out];rfl
   clear HR
   go_wp2
   go_ret2
   rw [HR0.out]
   exact ⟨rfl,kw2⟩
  have hz1:¬ ((k:Int)=0):=by omega
  have hz2:¬ ((k:Int)=-1):=by omega
  have d1:decide ((k:Int)=0)=false:=Ku hz1
  have d2:decide ((k:Int)=-1)=false:=Ku hz2
  obtain ⟨vs,hvs,hvo,hvS⟩:=jX slO v n k (by omega) _ w2 HS2.out
  have HVS:=Kj hvs
  have HVT:Hid (∀ u,Kept w2 u→Sl u 30 9 vs (n-k) (ords ((X.drop k).map (·.o)))):=fun u hk=>by
   have:=hvS u _ (HS2.out.kept hk)
   rw [show (ords (X.map (·.o))).drop (k*9)=ords ((X.map (·.o)).drop k) from Uz Ord.cells 9 Ord.len9 _ k,← List.map_drop] at this
   exact this
  clear hvs hvo hvS
  go_upto_region 8 with fail
  refine wE 3 [pV q 0,iV (QJ X),iV (QJ X)] [23,24,8] ?_ ?_
  ·refine mE 1 0 ?_
   refine cS 2 86 [.pointer (some ⟨q,0,none⟩)] rfl Tryz.func86 rfl (fun a u E D hk=>⟨ll (dD D 0) rfl,seen_any u F q X (HL2.out.kept hk) HX.out⟩) ?_
   refine mD 3 24 1 ?_
   exact fz
  intro w3 k3
  simp only [F8]
  have HV3:=Kj (HVT.out w3 k3)
  have kw3:=kw2.trans k3
  obtain ⟨m,hm⟩:∃ m,n-k=m:=⟨_,rfl⟩
  have hmn:k+m=n:=by omega
  rw [hm] at HV3
  clear hm
  go_upto_region 9 with fail
  refine wE 5 [v,iV (k:Int),vs,iV (m:Int),iV 0] [25,26,27,28,29] ?_ ?_
  ·refine mE 1 6 ?_
   refine mE 2 7 ?_
   refine sW 3 rfl (fun a u E D hk=>VX slO _ _ v vs _ rfl (dD D 0) (dD D 1) (HVS.out u)) ?_
   refine sW 4 rfl (fun a u E D hk=>Qq _ slO _ _ _ _ rfl (dD D 2) HV3.out) ?_
   refine sW 5 rfl (fun a u E D hk=>Jj _ _ rfl rfl) ?_
   exact fz
  intro w4 k4
  simp only [F8]
  have kw4:=kw3.trans k4
  have HV4:=Kj (HV3.out.kept k4)
  clear HVS HVT HV3 HL2 HS2 kw2 kw3 k3 k4
  go_wp2_with fail
  go_loopw [8,29] (fun t x wr=>∃ (i:Nat) (s:Int),i≤m∧x=.int .i64 i∧t=.int .i64 s∧Hid (s=QJ X-QJ ((X.drop k).take i))∧Kept w4 wr) (fun _ x _=>m-(intOf x).toNat)
  case atStart=>exact ⟨0,QJ X,Nat.zero_le _,rfl,rfl,by show _=_;rw [List.take_zero];simp [QJ,UW],Kept.refl _⟩
  obtain ⟨i,s,hi,rfl,rfl,HSM,hkr⟩:=hrel
  by_cases hlt:i<m
  ·skip
   obtain ⟨g,off,c,rfl⟩:=HV4.out.some_ (by omega)
   obtain ⟨e,he⟩:∃ e,X[k+i]?=some e:=⟨X[k+i]'(by rw [HN.out];omega),List.getElem?_eq_getElem (by rw [HN.out];omega)⟩
   have HE:Hid (wr.rangeAt g (off+i*9) e.o.cells):=JJ (HV4.out.rngO i e.o (by rw [List.getElem?_map,List.getElem?_drop,he];rfl)) hkr
   have HEI:=Kj he
   clear he
   go_upto_region 11 with fail
   refine QZ 3 [pE g (off+i*9),.eq (e.o.v),.fresh wr.heap.size 30 JV.cells] rfl (by kernel_rfl) ?_ ?_
   ·refine sW 1 rfl (fun a u E D hk=>Jz slO _ _ (g) (off) m c i (off+i*9) ((i:Int)) rfl (eE E) (eE E) (by first | rfl | omega) (hlt) (by first | rfl | omega)) ?_
    refine sD 2 31 0 e.o.cells Tryz.underlying30 (fun u hk=>JJ HE.out hk) (by rw [e.o.len9];exact JX) ?_
    refine nW 3 rfl (fun a u E D hk=>⟨_,_,QW 30 JV.cells rfl zO,⟨_,rfl,hk.size,Blk.new u _ _⟩,((Keep.refl _ u).alloc _)⟩) ?_
    exact fz
   intro gv w5 hV k5
   rw [dq 3 [31,32,10]]
   simp only [Fz7]
   have hv10:(.fresh wr.heap.size 30 JV.cells:Kn).p (gv 10) w5:=hV 2 10 (by kernel_rfl)
   generalize gv 10=v10 at hv10 ⊢
   rw [gQ hV 1 32 e.o.v]
   clear hV
   obtain ⟨b5,rfl,hb5,hB5⟩:=hv10
   refine Qj 30 b5 30 JV.cells e.o.cells _ _ rfl rfl (by kernel_rfl) (by kernel_rfl) hB5 (by rw [Ord.len9];exact JX) (by rw [Ord.len9,Ord.len9]) (Ord.one1 _) ?_
   intro w6 hB6 hk6 hs6
   simp only [Act.put]
   refine Kx ?_
   have kw6:Kept wr w6:=k5.trans' hk6 (by omega)
   have HB6:=Kj (JW hB6)
   clear hB5 hB6 hk6 HE k5 hs6
   have HM1:Hid (s-e.o.tip=QJ X-QJ ((X.drop k).take (i+1))):=by
    show _=_
    rw [HSM.out,List.take_add_one,List.getElem?_drop,HEI.out,jZ]
    have h1:e.n=e.o.tip:=HF.out e (by
     rw [← List.drop_one,List.mem_iff_getElem?]
     exact ⟨k+i-1,by rw [List.getElem?_drop,show 1+(k+i-1)=k+i by omega];exact HEI.out⟩)
    simp [QJ,UW,h1]
    omega
   have hs1:-100000000≤s∧s≤100000000:=by
    have h1:=HW.out
    have h2:QJ X=QJ (X.take k)+QJ ((X.drop k).take i)+QJ ((X.drop k).drop i):=by
     rw [← jZ,← jZ,List.append_assoc,List.take_append_drop,List.take_append_drop]
    have h3:=ZQ (X:=X.take k) (fun x hx=>HX.out.ok x (List.mem_of_mem_take hx))
    have h4:=ZQ (X:=(X.drop k).take i) (fun x hx=>HX.out.ok x (List.mem_of_mem_drop (List.mem_of_mem_take hx)))
    have h5:=ZQ (X:=(X.drop k).drop i) (fun x hx=>HX.out.ok x (List.mem_of_mem_drop (List.mem_of_mem_drop hx)))
    have h6:=HSM.out
    omega
   have ht:=tip_bound HX.out (List.mem_of_getElem? HEI.out)
   clear HSM
   go_upto_region 12 with fail
   refine wEp 4 [iV s,e.o.v,iV e.o.tip,iV ((s:Int)-(e.o.tip:Int))] [33,34,35,36] ?_ ?_
   ·refine mE 1 8 ?_
    refine sE 2 10 b5 0 e.o.cells Tryz.underlying30 (fun u hk=>JJ HB6.out hk) (by rw [e.o.len9];exact JX) ?_
    refine cS 3 121 [e.o.v] rfl Tryz.func121 rfl (fun a u E D hk=>⟨ll (dD D 1) rfl,visible_any e.o u⟩) ?_
    refine sW 4 rfl (fun a u E D hk=>Vj (p:=(s)) (q:=(e.o.tip)) ((s:Int)-(e.o.tip:Int)) rfl (dD D 0) (dD D 2) rfl (by omega) (by omega)) ?_
    exact fz
   intro w7 k7
   simp only [F8]
   refine Jx (.int .i64 ((s:Int)-(e.o.tip:Int))) rfl (JQ _ _ rfl (by kernel_rfl)) ?_
   simp only [Act.put,sA,sS,sZ]
   refine Kx ?_
   have kw7:=(hkr.trans kw6).trans k7
   clear hs1 ht
   go_wp2
   exact ⟨⟨i+1,s-e.o.tip,by omega,by go_num,rfl,HM1,kw7⟩,by simp [intOf];omega⟩
  have HFN:Hid (reachV firm X=.tuple #[.int .i64 s,.bool true]):=by
   show _=_
   unfold reachV
   rw [HR.out,HSM.out,List.take_of_length_le (l:=X.drop k) (by rw [List.length_drop,HN.out];omega)]
   have h2:QJ X=QJ (X.take k)+QJ (X.drop k):=by rw [← jZ,List.take_append_drop]
   simp only [h2]
   rw [show QJ (X.take k)+QJ (X.drop k)-QJ (X.drop k)=QJ (X.take k) by omega]
  have kw9:=kw4.trans hkr
  clear HSM
  go_wp2
  go_ret2
  rw [HFN.out]
  exact ⟨rfl,kw9⟩
 have hP:ownP firm X=-1:=by unfold ownP;rw [if_neg (by rw [HN.out];exact hown)]
 rw [hP]
 have HR:Hid (reachV firm X=.tuple #[.int .i64 (Xy X),.bool false]):=by show _=_;unfold reachV ZV;rw [if_neg (by rw [HN.out];exact hown)]
 clear hP hown
 go_upto_region 5 with fail
 refine wE 4 [pV q 0,iV (Xy X),iV (Xy X),bV false] [19,20,4,5] ?_ ?_
 ·refine mE 1 0 ?_
  refine cS 2 120 [.pointer (some ⟨q,0,none⟩)] rfl Tryz.func120 rfl (fun a u E D hk=>⟨ll (dD D 0) rfl,whole_any u F q X (HL2.out.kept hk) HX.out⟩) ?_
  refine mD 3 20 1 ?_
  refine sW 4 rfl (fun a u E D hk=>JQ _ _ rfl rfl) ?_
  exact fz
 intro w3 k3
 simp only [F8]
 have kw3:=kw2.trans k3
 go_wp2
 go_ret2
 rw [HR.out]
 exact ⟨rfl,kw3⟩
theorem Sid.drop {s:Int} {L:List Lev} (h:Sid s L):∀ (i:Nat),Sid s (L.drop i):=by
 intro i
 induction i generalizing L with
 | zero=>exact h
 | succ i ih=>
  cases L with
  | nil=>exact h
  | cons l L=>exact ih h.tail
theorem reach_nn {X:List Ent} (hX:Good X) (firm:Int):0≤(ZV firm X).1:=by
 have hw:=ZQ hX.ok
 have hge:=ZQ (X:=X.take (UJ firm X)) (fun x hx=>hX.ok x (List.mem_of_mem_take hx))
 unfold ZV
 split <;> simp only <;> omega
theorem gives_any (w:World) (F:Nat→Prop) (g off:Nat) (s s0:Int) (L:List Lev) (o:Ord) (h:Lad w F g off s L) (hL:Sid s0 L):Gives 105 #[.pointer (some ⟨g,off,none⟩),o.v] w (.eq (.int .i64 (Wz o L))):=by
 refine XJ ?_
 have HTOT:Hid (Wz o L≤67108864):=by
  have h1:=gives_le o L hL
  have h2:=wholeL_le hL
  show _≤_
  omega
 obtain ⟨v,hs0,hv0,Z,G,eL,hW⟩:=h
 have hn64:Z.length≤64:=by have:=hL.ok.len;rw [← eL,YU] at this;exact this
 have HS:=Kj hs0
 have HV:=Kj hv0
 have HW:=Kj hW
 have HL:=Kj hL
 have EL:=Kj eL
 obtain ⟨n,hn⟩:∃ n,Z.length=n:=⟨_,rfl⟩
 have HSL:=Kj hW.sl
 rw [hn] at HSL hn64
 have HN:=Kj hn
 clear hs0 hv0 hW hL eL hn
 go_enter Tryz.func105,Tryz.ntmps105
 go_upto_region 0 with fail
 refine QZ 2 [.fresh w.heap.size 30 (o.cells),iE 0] rfl (by kernel_rfl) ?_ ?_
 ·refine nW 1 rfl (fun a u E D hk=>⟨_,_,YX 30 _ (o.cells) rfl (eE E),⟨_,rfl,hk.size,Blk.new u _ _⟩,((Keep.refl _ u).alloc _)⟩) ?_
  refine sW 2 rfl (fun a u E D hk=>JQ _ _ rfl rfl) ?_
  exact fz
 intro gv wa hV ka
 rw [dq 2 [3,4]]
 simp only [Fz7]
 have hv3:(.fresh w.heap.size 30 (o.cells):Kn).p (gv 3) wa:=hV 0 3 (by kernel_rfl)
 generalize gv 3=v3 at hv3 ⊢
 rw [gQ hV 1 4 (.int .i64 0)]
 clear hV
 obtain ⟨g3,rfl,hg3,hB3⟩:=hv3
 refine Kx ?_
 have HO:=Kj (JW hB3)
 clear hB3
 go_upto_region 1 with fail
 refine wE 1 [iV 0] [5] ?_ ?_
 ·refine sW 1 rfl (fun a u E D hk=>JQ _ _ rfl rfl) ?_
  exact fz
 intro wb kb
 simp only [F8]
 have kab:=ka.trans kb
 have HOb:=Kj (JJ HO.out kb)
 have HVb:=Kj (kab.cell HV.out)
 clear HO ka kb
 go_upto_region 2 with fail
 refine wE 6 [pV g off,pV g off,pV g (off+1),v,iV (n:Int),iV 0] [10,11,12,13,14,15] ?_ ?_
 ·refine mE 1 0 ?_
  refine nD 2 10 0 ?_
  refine fD 3 11 1 80 1 1 off ?_
  refine sW 4 rfl (fun a u E D hk=>Jy _ _ Tryz.underlying78 _ _ _ rfl (dD D 2) (Kept.cell hk (HVb.out))) ?_
  refine sW 5 rfl (fun a u E D hk=>Qq _ slQ _ _ _ _ rfl (dD D 3) HSL.out) ?_
  refine sW 6 rfl (fun a u E D hk=>Jj _ _ rfl rfl) ?_
  exact fz
 intro w0 k0
 simp only [F8]
 have HO0:=Kj (JJ HOb.out k0)
 have k0:=kab.trans k0
 clear HOb HVb kab HV HS
 go_wp2_with fail
 go_loopw [5,15] (fun t x wr=>∃ (i:Nat) (a:Int),i≤n∧x=.int .i64 i∧t=.int .i64 a∧Hid (Wz o L=a+Wz o (L.drop i))∧0≤a∧Kept w wr∧Kept w0 wr) (fun _ x _=>n-(intOf x).toNat)
 case atStart=>exact ⟨0,0,Nat.zero_le _,rfl,rfl,by show _=_;rw [List.drop_zero];omega,Int.le_refl _,k0,Kept.refl _⟩
 obtain ⟨i,s,hi,rfl,rfl,HM,hs0,hkr,hk0⟩:=hrel
 by_cases hlt:i<n
 ·skip
  obtain ⟨gs,os,c,rfl⟩:=HSL.out.some_ (by omega)
  obtain ⟨z,hz⟩:∃ z,Z[i]?=some z:=⟨Z[i]'(by rw [HN.out];omega),List.getElem?_eq_getElem (by rw [HN.out];omega)⟩
  obtain ⟨q,pr,X⟩:=z
  have hcell:=(HW.out.kept hkr).cell hz
  have HC:=Kj hcell
  have HZ:=Kj hz
  have HLV:=Kj ((HW.out.kept hkr).lv (q,pr,X) (List.mem_of_getElem? hz))
  have HLM:Hid ((pr,X) ∈ L):=by show _ ∈ _;rw [← EL.out];exact qq (List.mem_of_getElem? hz)
  have HA:Hid (L[i]?=some (pr,X)):=by show _=_;rw [← EL.out];exact qU hz
  clear hcell hz
  go_upto_region 4 with fail
  refine wE 3 [pV gs (os+i*1),pV q 0,pV q 0] [17,18,7] ?_ ?_
  ·refine sW 1 rfl (fun a u E D hk=>Jz slQ _ _ (gs) (os) n c i (os+i*1) ((i:Int)) rfl (eE E) (eE E) (by first | rfl | omega) (hlt) (by first | rfl | omega)) ?_
   refine sW 2 rfl (fun a u E D hk=>XY _ _ Tryz.underlying107 _ _ _ rfl (dD D 0) (Kept.cell hk (HC.out))) ?_
   refine mD 3 18 1 ?_
   exact fz
  intro w1 k1
  simp only [F8]
  have kw1:=hkr.trans k1
  have HLV1:=Kj (HLV.out.kept k1)
  have HO1:=Kj (JJ HO0.out (hk0.trans k1))
  have k01:=hk0.trans k1
  have HGD:=Kj (HL.out.good HLM.out).1
  have HFR:=Kj (HL.out.fr _ HLM.out)
  have HD:Hid (L.drop i=(pr,X)::L.drop (i+1)):=by
   obtain ⟨hi',he⟩:=List.getElem?_eq_some_iff.1 HA.out
   show _=_
   rw [List.drop_eq_getElem_cons hi',he]
  have HNN:=Kj (reach_nn HGD.out o.firm)
  have HG2:=Kj (gives_nn o _ (HL.out.drop (i+1)))
  clear HC HLV k1 hk0
  by_cases hcr:o.crosses pr=true
  ·have HCR:=Kj hcr
   have HM1:Hid (Wz o L=s+(if (ZV o.firm X).2=true then (ZV o.firm X).1 else (ZV o.firm X).1+Wz o (L.drop (i+1)))):=by
    show _=_
    rw [HM.out,HD.out,Wz]
    simp only
    rw [if_pos hcr]
   clear hcr HM
   go_upto_region 5 with fail
   refine wGp 4 [o.v,pV q 0,iV pr,bV true] [19,20,21,22] ?_ ?_
   ·refine sE 1 3 g3 0 o.cells Tryz.underlying30 (fun u hk=>JJ HO1.out hk) (by rw [o.len9];exact JX) ?_
    refine mE 2 7 ?_
    refine cS 3 85 [.pointer (some ⟨q,0,none⟩)] rfl Tryz.func85 rfl (fun a u E D hk=>⟨ll (dD D 1) rfl,yX u _ q X (HLV1.out.kept hk)⟩) ?_
    refine cS 4 112 [o.v,.int .i64 pr] rfl Tryz.func112 rfl (fun a u E D hk=>⟨ll (dD D 0) (ll (dD D 2) rfl),(by rw [← HCR.out];exact crosses_any o pr u)⟩) ?_
    exact fz
   intro w2 k2
   simp only [F8]
   refine Jx (.bool false) rfl (Yj _ (.tmp 22) true rfl (by kernel_rfl)) ?_
   simp only [Act.put,sA,sS,sZ]
   refine Kx ?_
   have HLV2:=Kj (HLV1.out.kept k2)
   have HO2:=Kj (JJ HO1.out k2)
   have kw2:=kw1.trans k2
   have k02:=k01.trans k2
   clear HLV1 HO1 HCR k2 kw1 k01
   obtain ⟨rq,hrq⟩:∃ x,(ZV o.firm X).1=x:=⟨_,rfl⟩
   obtain ⟨rb,hrb⟩:∃ x,(ZV o.firm X).2=x:=⟨_,rfl⟩
   have HRV:Hid (reachV o.firm X=.tuple #[.int .i64 rq,.bool rb]):=by show _=_;unfold reachV;rw [hrq,hrb]
   rw [hrq] at HNN
   rw [hrq,hrb] at HM1
   clear hrq hrb
   go_upto_region 6 with fail
   refine wE 9 [pV q 0,pV g3 2,iV o.firm,.tuple #[.int .i64 rq,.bool rb],.tuple #[.int .i64 rq,.bool rb],iV rq,bV rb,iV rq,bV rb] [25,26,27,28,24,29,30,8,9] ?_ ?_
   ·refine mE 1 7 ?_
    refine fE 2 3 30 2 2 0 ?_
    refine lD 3 26 1 Tryz.underlying3 (fun u hk=>JY (JJ HO2.out hk) 2 _ rfl) ?_
    refine cS 4 113 [.pointer (some ⟨q,0,none⟩),.int .i64 o.firm] rfl Tryz.func113 rfl (fun a u E D hk=>⟨ll (dD D 0) (ll (dD D 2) rfl),(by rw [← HRV.out];exact reach_any pr u _ q X o.firm (HLV2.out.kept hk) HGD.out HFR.out)⟩) ?_
    refine mD 5 28 3 ?_
    refine sW 6 rfl (fun a u E D hk=>QU _ [.int .i64 rq,.bool rb] 0 (.int .i64 rq) rfl (dD D 4) rfl) ?_
    refine sW 7 rfl (fun a u E D hk=>QU _ [.int .i64 rq,.bool rb] 1 (.bool rb) rfl (dD D 4) rfl) ?_
    refine mD 8 29 5 ?_
    refine mD 9 30 6 ?_
    exact fz
   intro w3 k3
   simp only [F8]
   have kw3:=kw2.trans k3
   have k03:=k02.trans k3
   have hb1:0≤rq:=HNN.out
   have hb2:s+rq≤67108864:=by
    have h1:=HM1.out
    have h2:=HTOT.out
    have h3:=HG2.out
    split at h1 <;> omega
   clear HLV2 HO2 HRV HNN k3 kw2 k02
   cases rb with
   | true=>
    have HF:Hid (Wz o L=s+rq):=by show _=_;rw [HM1.out];rfl
    clear HM1
    go_wp2
    go_ret
    exact ⟨by rw [HF.out];rfl,kw3⟩
   | false=>
    have HF:Hid (Wz o L=s+rq+Wz o (L.drop (i+1))):=by show _=_;rw [HM1.out];simp only [Bool.false_eq_true,if_false];omega
    clear HM1
    go_wp2
    exact ⟨⟨i+1,s+rq,by omega,by go_num,rfl,HF,by omega,kw3,k03⟩,by simp [intOf];omega⟩
  have hcr':o.crosses pr=false:=by simpa using hcr
  have HCR:=Kj hcr'
  have HF:Hid (Wz o L=s):=by
   show _=_
   rw [HM.out,HD.out,Wz]
   simp only
   rw [if_neg hcr]
   omega
  clear hcr hcr' HM
  go_upto_region 5 with fail
  refine wGp 4 [o.v,pV q 0,iV pr,bV false] [19,20,21,22] ?_ ?_
  ·refine sE 1 3 g3 0 o.cells Tryz.underlying30 (fun u hk=>JJ HO1.out hk) (by rw [o.len9];exact JX) ?_
   refine mE 2 7 ?_
   refine cS 3 85 [.pointer (some ⟨q,0,none⟩)] rfl Tryz.func85 rfl (fun a u E D hk=>⟨ll (dD D 1) rfl,yX u _ q X (HLV1.out.kept hk)⟩) ?_
   refine cS 4 112 [o.v,.int .i64 pr] rfl Tryz.func112 rfl (fun a u E D hk=>⟨ll (dD D 0) (ll (dD D 2) rfl),(by rw [← HCR.out];exact crosses_any o pr u)⟩) ?_
   exact fz
  intro w2 k2
  simp only [F8]
  refine Jx (.bool true) rfl (Yj _ (.tmp 22) false rfl (by kernel_rfl)) ?_
  simp only [Act.put,sA,sS,sZ]
  refine Kx ?_
  have kw2:=kw1.trans k2
  clear HLV1 HO1 HCR k2 kw1 k01
  go_wp2
  go_ret
  exact ⟨by rw [HF.out];rfl,kw2⟩
 have HF:Hid (Wz o L=s):=by
  show _=_
  rw [HM.out,List.drop_of_length_le (by rw [← EL.out,YU,HN.out];omega)]
  simp [Wz]
 clear HM
 go_wp2
 go_ret
 exact ⟨by rw [HF.out];rfl,hkr⟩
theorem yV (w:World) (F:Nat→Prop) (g off:Nat) (s:Int) (L:List Lev) (o:Ord) (h:Lad w F g off s L) (hl:L.length≤1000):Gives 104 #[.pointer (some ⟨g,off,none⟩),o.v] w (.eq (.bool (o.meets L))):=by
 refine XJ ?_
 obtain ⟨v,hs0,hv0,Z,G,eL,hW⟩:=h
 have HV:=Kj hv0
 have HW:=Kj hW
 have EL:=Kj eL
 have HSL:=Kj hW.sl
 clear hs0 hv0 hW eL
 cases Z with
 | nil=>
  have HM:Hid (o.meets L=false):=by show _=_;rw [← EL.out];rfl
  go_enter Tryz.func104,Tryz.ntmps104
  go_upto_region 0 with fail
  refine QZ 2 [.fresh w.heap.size 30 (o.cells),bE false] rfl (by kernel_rfl) ?_ ?_
  ·refine nW 1 rfl (fun a u E D hk=>⟨_,_,YX 30 _ (o.cells) rfl (eE E),⟨_,rfl,hk.size,Blk.new u _ _⟩,((Keep.refl _ u).alloc _)⟩) ?_
   refine sW 2 rfl (fun a u E D hk=>JQ _ _ rfl rfl) ?_
   exact fz
  intro gv wa hV ka
  rw [dq 2 [3,4]]
  simp only [Fz7]
  have hv3:(.fresh w.heap.size 30 (o.cells):Kn).p (gv 3) wa:=hV 0 3 (by kernel_rfl)
  generalize gv 3=v3 at hv3 ⊢
  rw [gQ hV 1 4 (.bool false)]
  clear hV
  obtain ⟨g3,rfl,hg3,hB3⟩:=hv3
  refine Kx ?_
  have HVa:=Kj (ka.cell HV.out)
  clear hB3
  go_upto_region 1 with fail
  refine wGp 16 [pV g off,pV g off,pV g (off+1),v,iV (0:Int),bV false,bV false,undef,undef,undef,undef,undef,undef,undef,undef,undef] [5,6,7,8,9,10,11,12,13,14,15,16,17,18,19,20] ?_ ?_
  ·refine mE 1 0 ?_
   refine nD 2 5 0 ?_
   refine fD 3 6 1 80 1 1 off ?_
   refine sW 4 rfl (fun a u E D hk=>Jy _ _ Tryz.underlying78 _ _ _ rfl (dD D 2) (Kept.cell hk (HVa.out))) ?_
   refine sW 5 rfl (fun a u E D hk=>Qq _ slQ _ _ _ _ rfl (dD D 3) HSL.out) ?_
   refine aS 6 rfl (fun a u E D hk=>XX rfl (dD D 4) rfl) (by decide) ?_
   refine mD 7 10 5 ?_
   refine kS 8 6 ?_
   refine kS 9 6 ?_
   refine kS 10 6 ?_
   refine kS 11 6 ?_
   refine kS 12 6 ?_
   refine kS 13 6 ?_
   refine kS 14 6 ?_
   refine kS 15 6 ?_
   refine kS 16 6 ?_
   exact fz
  intro w1 k1
  simp only [F8]
  refine Jx (.bool false) rfl (Zj (.tmp 11) (.tmp 20) (.const (.bool false)) (.bool false) rfl (by kernel_rfl) rfl) ?_
  simp only [Act.put,sA,sS,sZ]
  refine Jx (.bool false) rfl (JQ _ _ rfl (by kernel_rfl)) ?_
  simp only [Act.put,sA,sS,sZ]
  refine Kx ?_
  go_wp2
  go_ret
  exact ⟨by rw [HM.out];rfl,ka.trans k1⟩
 | cons z Z=>
  obtain ⟨q,pr,X⟩:=z
  have HM:Hid (o.meets L=o.crosses pr):=by show _=_;rw [← EL.out];rfl
  have hl:Z.length+1≤1000:=by rw [← EL.out,YU] at hl;exact hl
  obtain ⟨gs,os,c,rfl⟩:=HSL.out.some_ (by simp)
  have HC:=Kj (HW.out.cell (i:=0) (z:=(q,pr,X)) rfl)
  have HLV:=Kj (HW.out.lv (q,pr,X) (by simp))
  obtain ⟨n,hn⟩:∃ n,Z.length+1=n:=⟨_,rfl⟩
  have hnz:0<n:=by omega
  rw [show ((q,pr,X)::Z).length=n from hn] at HSL HV
  rw [hn] at hl
  clear HW hn
  go_enter Tryz.func104,Tryz.ntmps104
  go_upto_region 0 with fail
  refine QZ 2 [.fresh w.heap.size 30 (o.cells),bE false] rfl (by kernel_rfl) ?_ ?_
  ·refine nW 1 rfl (fun a u E D hk=>⟨_,_,YX 30 _ (o.cells) rfl (eE E),⟨_,rfl,hk.size,Blk.new u _ _⟩,((Keep.refl _ u).alloc _)⟩) ?_
   refine sW 2 rfl (fun a u E D hk=>JQ _ _ rfl rfl) ?_
   exact fz
  intro gv wa hV ka
  rw [dq 2 [3,4]]
  simp only [Fz7]
  have hv3:(.fresh w.heap.size 30 (o.cells):Kn).p (gv 3) wa:=hV 0 3 (by kernel_rfl)
  generalize gv 3=v3 at hv3 ⊢
  rw [gQ hV 1 4 (.bool false)]
  clear hV
  obtain ⟨g3,rfl,hg3,hB3⟩:=hv3
  refine Kx ?_
  have HVa:=Kj (ka.cell HV.out)
  have HCa:=Kj (ka.cell HC.out)
  have HLVa:=Kj (HLV.out.kept ka)
  have HO:=Kj (JW hB3)
  clear hB3 HV HC HLV
  go_upto_region 1 with fail
  refine wGp 16 [pV g off,pV g off,pV g (off+1),.slice (some ⟨gs,os,none⟩) n c,iV (n:Int),bV true,bV true,o.v,pV g off,pV g off,pV g (off+1),.slice (some ⟨gs,os,none⟩) n c,pV gs os,pV q 0,iV pr,bV (o.crosses pr)] [5,6,7,8,9,10,11,12,13,14,15,16,17,18,19,20] ?_ ?_
  ·refine mE 1 0 ?_
   refine nD 2 5 0 ?_
   refine fD 3 6 1 80 1 1 off ?_
   refine sW 4 rfl (fun a u E D hk=>Jy _ _ Tryz.underlying78 _ _ _ rfl (dD D 2) (Kept.cell hk (HVa.out))) ?_
   refine sW 5 rfl (fun a u E D hk=>ZZ _ _ _ slQ.und (some ⟨gs,os,none⟩) n c rfl (dD D 3)) ?_
   refine aS 6 rfl (fun a u E D hk=>XX rfl (dD D 4) rfl) (Ky (by omega)) ?_
   refine mD 7 10 5 ?_
   refine sE 8 3 g3 0 o.cells Tryz.underlying30 (fun u hk=>JJ HO.out hk) (by rw [o.len9];exact JX) ?_
   refine mE 9 0 ?_
   refine nD 10 13 8 ?_
   refine fD 11 14 9 80 1 1 off ?_
   refine sW 12 rfl (fun a u E D hk=>Jy _ _ Tryz.underlying78 _ _ _ rfl (dD D 10) (Kept.cell hk (HVa.out))) ?_
   refine sW 13 rfl (fun a u E D hk=>Jz slQ _ _ (gs) (os) n c 0 (os) (0) rfl (dD D 11) rfl (by first | rfl | omega) ((by omega)) (by first | rfl | omega)) ?_
   refine sW 14 rfl (fun a u E D hk=>XY _ _ Tryz.underlying107 _ _ _ rfl (dD D 12) (Kept.cell hk ((by simpa using HCa.out)))) ?_
   refine cS 15 85 [.pointer (some ⟨q,0,none⟩)] rfl Tryz.func85 rfl (fun a u E D hk=>⟨ll (dD D 13) rfl,yX u _ q X (HLVa.out.kept hk)⟩) ?_
   refine cS 16 112 [o.v,.int .i64 pr] rfl Tryz.func112 rfl (fun a u E D hk=>⟨ll (dD D 7) (ll (dD D 14) rfl),crosses_any o pr u⟩) ?_
   exact fz
  intro w1 k1
  simp only [F8]
  refine Jx (.bool (o.crosses pr)) rfl (qV (.tmp 11) (.tmp 20) (.const (.bool false)) (.bool (o.crosses pr)) rfl (by kernel_rfl) (by kernel_rfl)) ?_
  simp only [Act.put,sA,sS,sZ]
  refine Jx (.bool (o.crosses pr)) rfl (JQ _ _ rfl (by kernel_rfl)) ?_
  simp only [Act.put,sA,sS,sZ]
  refine Kx ?_
  go_wp2
  go_ret
  exact ⟨by rw [HM.out];rfl,ka.trans k1⟩
theorem lastOf_snoc (p:Int) (f:Fl):∀ (F:List Fl),VY p (F++[f])=f.price
 | []=>rfl
 | [g]=>rfl
 | g::g'::F=>by
  rw [List.cons_append,VY]
  exact lastOf_snoc g.price f (g'::F)
theorem lastOf_append:∀ (F G:List Fl) (p:Int),VY p (F++G)=VY (VY p F) G
 | [],G,p=>rfl
 | f::F,G,p=>by rw [List.cons_append,VY,VY,lastOf_append F G]
theorem seenM_snoc (H:List Ent) (h:Ent):QJ (H++[h])=QJ H+h.n:=by rw [jZ];simp [QJ,UW]
def Oc.more (x:Oc) (pr no:Int) (H:List Ent):Oc:={ x with f:=x.f++fillsOf x.o pr no x.left H,left:=x.left-QJ H }
theorem Oc.more_nil (x:Oc) (pr no:Int):x.more pr no []=x:=by unfold Oc.more;simp [fillsOf,QJ,UW]
theorem Oc.set_fills (x:Oc) (v v':Value):(x.cells v).set 9 v'=x.cells v':=rfl
theorem Oc.set_left (x:Oc) (v:Value) (n:Int):(x.cells v).set 10 (.int .i64 n)=({ x with left:=n }:Oc).cells v:=rfl
theorem Oc.set_self (x:Oc) (v:Value) (b:Bool):(x.cells v).set 13 (.bool b)=({ x with self:=b }:Oc).cells v:=rfl
theorem Oc.set_rests (x:Oc) (v:Value) (b:Bool):(x.cells v).set 11 (.bool b)=({ x with rests:=b }:Oc).cells v:=rfl
theorem q_l (o:Ord) (n:Int):stc (o.l.set 6 n) []=(o.q n).cells:=rfl
theorem exec_bF {a:Act} {o:Oper} {u:World} (x y z t n:Operand) (m k:Ord) (p q r:Int) (hop:o.op=.build 77 #[(0,x),(1,y),(2,z),(3,t),(4,n)]) (hx:a.eval x=m.v) (hy:a.eval y=k.v) (hz:a.eval z=.int .i64 p) (ht:a.eval t=.int .i64 q) (hn:a.eval n=.int .i64 r):(execOp a.eval o).run Tryz.prog u=.ok (.value (Fl.mk m k p q r).v) u:=
 YJ _ [(0,x),(1,y),(2,z),(3,t),(4,n)] (Fl.mk m k p q r).cells hop (by simp only [List.map_cons,List.map_nil,hx,hy,hz,ht,hn];exact builtF m k p q r)
def TradeIn (w:World) (go p:Nat) (s:Int) (v u0 vf:Value) (last no pr:Int) (x:Oc) (H:List Ent) (r:Ending) (w':World):Prop:=
 ∃ vf',r=.returned (.tuple #[])∧Blk w' go 58 ((x.more pr no H).cells vf')∧Sl w' 77 21 vf' (x.more pr no H).f.length (fls (x.more pr no H).f)∧Blk w' p 82 (WW s v u0 (VY last (fillsOf x.o pr no x.left H)) (no+H.length))∧Keep (fun b=>b=go∨b=p∨vf.ownBlock=some b) w w'∧∀ b,vf'.ownBlock=some b→vf.ownBlock=some b∨w.heap.size≤b
theorem trade_any (w:World) (go p:Nat) (s:Int) (v u0 vf vh:Value) (last no pr:Int) (x:Oc) (H:List Ent) (hO:Blk w go 58 (x.cells vf)) (hF:Sl w 77 21 vf x.f.length (fls x.f)) (hB:Blk w p 82 (WW s v u0 last no)) (hH:Sl w 72 10 vh H.length (ents H)) (hgp:go≠p) (hfo:∀ b,vf.ownBlock=some b→b≠go∧b≠p) (hho:∀ b,vh.ownBlock=some b→b≠go∧b≠p∧vf.ownBlock≠some b)
  (hpos:∀ h ∈ H,1≤h.n) (hsum:QJ H≤x.left) (hl:x.left≤2000000) (hfl:x.f.length≤2000000) (hno:0≤no) (hno2:no≤2000000000000) :
  Calls Tryz.prog 107 #[.pointer (some ⟨p,0,none⟩),.pointer (some ⟨go,0,none⟩),.int .i64 pr,vh] w (TradeIn w go p s v u0 vf last no pr x H):=by
 have hpl:=hB.lt
 have hgl:=hO.lt
 have hHl:(H.length:Int)≤QJ H:=by
  have:=ZQ (X:=H.map fun h=>⟨{ h.o with qty:=h.n },h.n⟩) (by intro e he;obtain ⟨h,hh,rfl⟩:=List.mem_map.1 he;exact ⟨hpos h hh,Int.le_refl _⟩)
  have h1:=this.1
  rw [List.length_map] at h1
  have h2:QJ (H.map fun h=>(⟨{ h.o with qty:=h.n },h.n⟩:Ent))=QJ H:=by unfold QJ;rw [List.map_map];rfl
  omega
 obtain ⟨n,hn⟩:∃ n,H.length=n:=⟨_,rfl⟩
 have hn2:(n:Int)≤2000000:=by omega
 have HN:=Kj hn
 have HP:=Kj hpos
 have HSUM:=Kj hsum
 have HO:=Kj hO
 have HF:=Kj hF
 have HB:=Kj hB
 have HH:=Kj hH
 have HHO:=Kj hho
 have HFO:=Kj hfo
 rw [hn] at HH
 have hfl0:∀ b,vf.ownBlock=some b→b<w.heap.size:=fun b hb=>hF.lt hb
 have HFL:=Kj hfl0
 have HHB:Hid (∀ b,vh.ownBlock=some b→b<w.heap.size):=fun b hb=>hH.lt hb
 clear hO hF hB hH hho hfo hpos hn hfl0 hHl hsum
 go_enter Tryz.func107,Tryz.ntmps107
 go_upto_region 0 with fail
 refine wEp 7 [pV go 0,pV go 0,pV go 0,pV go 9,vf,vh,iV (n:Int)] [11,12,13,14,15,16,17] ?_ ?_
 ·refine mE 1 1 ?_
  refine mE 2 1 ?_
  refine nD 3 12 1 ?_
  refine fD 4 13 2 58 1 9 0 ?_
  refine sW 5 rfl (fun a u E D hk=>Jy _ _ Tryz.underlying55 _ _ _ rfl (dD D 3) (by rw [(HO.out.kept hk).cell];rfl)) ?_
  refine mE 6 3 ?_
  refine sW 7 rfl (fun a u E D hk=>Qq _ slH _ _ _ _ rfl (dD D 5) HH.out) ?_
  exact fz
 intro w1 k1
 simp only [F8]
 refine Yz 115 #[vf,.int .i64 (n:Int)] rfl (Jq 115 _ [.tmp 15,.tmp 17] _ _ Tryz.func115 (by kernel_rfl) (by kernel_rfl) rfl (by kernel_rfl) _) ?_
 refine (growF_any w1 vf x.f.length n _ (HF.out.kept k1) (by omega)).mono ?_
 rintro r w2 ⟨vg,rfl,hS2,k2,ho2⟩
 refine ⟨_,rfl,?_⟩
 simp only [Act.put,sA,sS,sZ]
 refine Jx (.pointer (some ⟨go,0,none⟩)) rfl (YY (.tmp 11) ⟨go,0,none⟩ rfl (by kernel_rfl)) ?_
 simp only [Act.put,sA,sS,sZ]
 refine Jx (.pointer (some ⟨go,9,none⟩)) rfl (QV 58 1 9 (.tmp 19) (go) (0) (9) rfl (by kernel_rfl) (by kernel_rfl) rfl) ?_
 simp only [Act.put,sA,sS,sZ]
 refine Zz 55 go 9 58 _ vg _ _ rfl rfl (by kernel_rfl) (by kernel_rfl) (by kernel_rfl) (VV hS2) (Yq hS2) ((HO.out.kept k1).kept k2) (by rw [Oc.len15];omega) ?_
 intro w3 hB3 hk3 hs3
 simp only [Act.put]
 refine Kx ?_
 rw [Oc.set_fills] at hB3
 have k12:=k1.trans k2
 have z12:=k12.size
 have K3:Keep (fun b=>b=go∨b=p∨vf.ownBlock=some b) w w3:=(Keep.mono (T:=(fun b=>b=go∨b=p∨vf.ownBlock=some b)) k12 (fun _ _ h=>h.elim)).trans hk3 (fun b _ h=>.inl h)
 have ho3:∀ b,vg.ownBlock=some b→vf.ownBlock=some b∨w.heap.size≤b:=fun b hb=>(ho2 b hb).imp id (fun h=>Kv k1.size h)
 have hgne:∀ b,vg.ownBlock=some b→b≠go∧b≠p:=fun b hb=>by
  rcases ho3 b hb with h | h
  ·exact HFO.out b h
  omega
 have HO3:=Kj hB3
 have HF3:=Kj (hS2.keep hk3 (fun b hb e=>(hgne b hb).1 e))
 have HB3:=Kj ((HB.out.kept k12).keep hk3 (fun e=>hgp e.symm))
 have HG3:=Kj ho3
 clear hB3 hS2 hk3 hs3 k1 k2 ho2 ho3 k12 hgne
 go_upto_region 1 with fail
 refine wE 3 [vh,iV (n:Int),iV 0] [21,22,23] ?_ ?_
 ·refine mE 1 3 ?_
  refine sW 2 rfl (fun a u E D hk=>Qq _ slH _ _ _ _ rfl (dD D 0) HH.out) ?_
  refine sW 3 rfl (fun a u E D hk=>Jj _ _ rfl rfl) ?_
  exact fz
 intro w4 k4
 simp only [F8]
 have K4:=K3.kept k4
 have HO4:=Kj (HO3.out.kept k4)
 have HF4:=Kj (HF3.out.kept k4)
 have HB4:=Kj (HB3.out.kept k4)
 clear HO3 HF3 HB3 K3 k4
 go_wp2_with fail
 go_loopw [23] (fun t wr=>∃ (i:Nat) (vv:Value),i≤n∧t=.int .i64 (i:Int)∧Hid (Blk wr go 58 ((x.more pr no (H.take i)).cells vv))∧Hid (Sl wr 77 21 vv (x.more pr no (H.take i)).f.length (fls (x.more pr no (H.take i)).f))∧Hid (Blk wr p 82 (WW s v u0 (VY last (fillsOf x.o pr no x.left (H.take i))) (no+i)))∧Hid (∀ b,vv.ownBlock=some b→vf.ownBlock=some b∨w.heap.size≤b)∧Keep (fun b=>b=go∨b=p∨vf.ownBlock=some b) w wr) (fun t _=>n-(intOf t).toNat)
 case atStart=>exact ⟨0,vg,Nat.zero_le _,rfl,by rw [List.take_zero,Oc.more_nil];exact HO4.out,by rw [List.take_zero,Oc.more_nil];exact HF4.out,by rw [List.take_zero];simp only [fillsOf,VY,Int.ofNat_zero,Int.add_zero];exact HB4.out,HG3.out,K4⟩
 obtain ⟨i,vv,hi,rfl,HOr,HFr,HBr,HGr,hkr⟩:=hrel
 have zr:=hkr.size
 by_cases hlt:i<n
 ·skip
  obtain ⟨gs,off,c,rfl⟩:=HH.out.some_ (by omega)
  obtain ⟨h,hh⟩:∃ h,H[i]?=some h:=⟨H[i]'(by rw [HN.out];omega),List.getElem?_eq_getElem (by rw [HN.out];omega)⟩
  have hgs:=HHO.out gs rfl
  have HE:Hid (wr.rangeAt gs (off+i*10) h.cells):=XW (HH.out.rng i h hh) hkr (fun e=>by
   rcases e with e | e | e
   ·exact hgs.1 e
   ·exact hgs.2.1 e
   exact hgs.2.2 e)
  have HHI:=Kj hh
  have HTK:Hid (H.take (i+1)=H.take i++[h]):=by show _=_;rw [List.take_add_one,hh];rfl
  have hh1:1≤h.n:=HP.out h (List.mem_of_getElem? hh)
  have hlb:QJ (H.take i)+h.n≤x.left∧0≤QJ (H.take i):=by
   have e1:QJ H=QJ (H.take i)+h.n+QJ (H.drop (i+1)):=by
    rw [← seenM_snoc,← HTK.out,← jZ,List.take_append_drop]
   have hnn:∀ Y:List Ent,(∀ y ∈ Y,1≤y.n)→0≤QJ Y:=fun Y=>by
    induction Y with
    | nil=>intro _;simp [QJ,UW]
    | cons y Y ih=>intro hy;rw [WQ];have:=ih (fun z hz=>hy z (by simp [hz]));have:=hy y (by simp);omega
   have e2:=hnn (H.drop (i+1)) (fun y hy=>HP.out y (List.mem_of_mem_drop hy))
   have e3:=hnn (H.take i) (fun y hy=>HP.out y (List.mem_of_mem_take hy))
   have e4:=HSUM.out
   omega
  clear hh
  obtain ⟨xi,hxi⟩:∃ xi,x.more pr no (H.take i)=xi:=⟨_,rfl⟩
  obtain ⟨la,hla⟩:∃ la,VY last (fillsOf x.o pr no x.left (H.take i))=la:=⟨_,rfl⟩
  have hxo:xi.o=x.o:=by rw [← hxi];rfl
  have hxl:xi.left=x.left-QJ (H.take i):=by rw [← hxi];rfl
  have hxf:xi.f.length=x.f.length+i:=by rw [← hxi];show (x.f++_).length=_;rw [List.length_append,jy,List.length_take,HN.out];omega
  have HNX:Hid (x.more pr no (H.take (i+1))={ xi with f:=xi.f++[⟨h.o,x.o.q xi.left,pr,h.n,no+i+1⟩],left:=xi.left-h.n }):=by
   show _=_
   rw [← hxi,HTK.out]
   unfold Oc.more
   simp only
   rw [qj,seenM_snoc,List.length_take,HN.out,Nat.min_eq_left hi]
   simp only [fillsOf,List.append_assoc]
   congr 1
   omega
  have HNF:Hid (VY last (fillsOf x.o pr no x.left (H.take (i+1)))=pr):=by
   show _=_
   rw [HTK.out,qj]
   simp only [fillsOf]
   exact lastOf_snoc _ _ _
  rw [hxi] at HOr HFr
  rw [hla] at HBr
  have HXO:=Kj hxo
  have hlb2:h.n≤xi.left∧xi.left≤2000000:=by omega
  have hxfl:xi.f.length≤4000001:=by omega
  have hni:0≤no+(i:Int)∧no+(i:Int)≤3000000000000:=by omega
  have hvg:∀ b,vv.ownBlock=some b→b<wr.heap.size:=fun b hb=>HFr.out.lt hb
  have HVG:=Kj hvg
  have hvn:∀ b,vv.ownBlock=some b→b≠go∧b≠p:=fun b hb=>by
   rcases HGr.out b hb with e | e
   ·exact HFO.out b e
   omega
  have HVN:=Kj hvn
  clear hxi hla hxo hxl hvg hvn hlb hxf
  go_upto_region 3 with fail
  refine QZ 3 [pE gs (off+i*10),.eq (h.v),.fresh wr.heap.size 72 Xz.cells] rfl (by kernel_rfl) ?_ ?_
  ·refine sW 1 rfl (fun a u E D hk=>Jz slH _ _ (gs) (off) n c i (off+i*10) ((i:Int)) rfl (eE E) (eE E) (by first | rfl | omega) (hlt) (by first | rfl | omega)) ?_
   refine sD 2 25 0 h.cells Tryz.underlying72 (fun u hk=>JJ HE.out hk) (by rw [h.len10];exact szH) ?_
   refine nW 3 rfl (fun a u E D hk=>⟨_,_,QW 72 Xz.cells rfl zH,⟨_,rfl,hk.size,Blk.new u _ _⟩,((Keep.refl _ u).alloc _)⟩) ?_
   exact fz
  intro gv w5 hV k5
  rw [dq 3 [25,26,9]]
  simp only [Fz7]
  have hv9:(.fresh wr.heap.size 72 Xz.cells:Kn).p (gv 9) w5:=hV 2 9 (by kernel_rfl)
  generalize gv 9=v9 at hv9 ⊢
  rw [gQ hV 1 26 h.v]
  clear hV
  obtain ⟨b9,rfl,hb9,hB9⟩:=hv9
  refine Qj 72 b9 72 Xz.cells h.cells _ _ rfl rfl (by kernel_rfl) (by kernel_rfl) hB9 (by rw [Ent.len10];exact szH) (by rw [Ent.len10,Ent.len10]) (Ent.one _) ?_
  intro w6 hB6 hk6 hs6
  simp only [Act.put]
  refine Kx ?_
  have k6:Kept wr w6:=k5.trans' hk6 (by omega)
  have HB9:=Kj hB6
  have l9:=hB6.lt
  have HO6:=Kj (HOr.out.kept k6)
  clear hB9 hB6 hk6 hs6 k5 HE
  go_upto_region 4 with fail
  refine QZ 5 [pE go 0,pE go 0,pE go 0,.eq (xi.o.v),.fresh w6.heap.size 30 JV.cells] rfl (by kernel_rfl) ?_ ?_
  ·refine mE 1 1 ?_
   refine nD 2 27 0 ?_
   refine fD 3 28 1 58 0 0 0 ?_
   refine sD 4 29 2 xi.o.cells Tryz.underlying30 (fun u hk=>oc_ord (HO6.out.kept hk)) (by rw [xi.o.len9];exact JX) ?_
   refine nW 5 rfl (fun a u E D hk=>⟨_,_,QW 30 JV.cells rfl zO,⟨_,rfl,hk.size,Blk.new u _ _⟩,((Keep.refl _ u).alloc _)⟩) ?_
   exact fz
  intro gv w7 hV k7
  rw [dq 5 [27,28,29,30,10]]
  simp only [Fz7]
  have hv10:(.fresh w6.heap.size 30 JV.cells:Kn).p (gv 10) w7:=hV 4 10 (by kernel_rfl)
  generalize gv 10=v10 at hv10 ⊢
  rw [gQ hV 3 30 xi.o.v]
  clear hV
  obtain ⟨b10,rfl,hb10,hB10⟩:=hv10
  refine Qj 30 b10 30 JV.cells xi.o.cells _ _ rfl rfl (by kernel_rfl) (by kernel_rfl) hB10 (by rw [Ord.len9];exact JX) (by rw [Ord.len9,Ord.len9]) (Ord.one1 _) ?_
  intro w8 hB8 hk8 hs8
  simp only [Act.put]
  refine Kx ?_
  have k8:Kept w6 w8:=k7.trans' hk8 (by omega)
  have z6:=k6.size
  have HO8:=Kj (HO6.out.kept k8)
  have HB98:=Kj (HB9.out.kept k8)
  have l10:=hB8.lt
  clear hB10 hk8 hs8 k7 HO6 HB9
  go_upto_region 5 with fail
  refine wEp 5 [pV go 0,pV go 0,pV go 10,iV xi.left,pV b10 6] [31,32,33,34,35] ?_ ?_
  ·refine mE 1 1 ?_
   refine nD 2 31 0 ?_
   refine fD 3 32 1 58 2 10 0 ?_
   refine sW 4 rfl (fun a u E D hk=>QX _ Tryz.underlying3 _ _ _ rfl (dD D 2) (by rw [(HO8.out.kept hk).cell];rfl)) ?_
   refine fE 5 10 30 6 6 0 ?_
   exact fz
  intro w9 k9
  simp only [F8]
  refine l_setf b10 6 30 xi.o.l [] xi.left _ _ rfl rfl (by kernel_rfl) (by kernel_rfl) (hB8.kept k9) (by simp [Ord.l]) ?_
  intro w10 hB10 hk10 hs10
  simp only [Act.put]
  refine Kx ?_
  rw [q_l] at hB10
  have k10:Kept wr w10:=((k6.trans k8).trans k9).trans' hk10 (by omega)
  have HB10:=Kj hB10
  have HB910:=Kj ((HB98.out.kept k9).keep hk10 (by omega))
  have HP10:=Kj (HBr.out.kept k10)
  have HO10:=Kj (HOr.out.kept k10)
  have HF10:=Kj (HFr.out.kept k10)
  have z10:=k10.size
  clear hB8 hB10 hk10 hs10 k9 HO8 HB98 k6 k8 HOr HBr HFr
  go_upto_region 6 with fail
  refine wEp 4 [pV p 0,iV pr,pV p 0,pV p 4] [36,37,38,39] ?_ ?_
  ·refine mE 1 0 ?_
   refine mE 2 2 ?_
   refine nD 3 36 0 ?_
   refine fD 4 38 2 82 2 4 0 ?_
   exact fz
  intro w11 k11
  simp only [F8]
  refine Zz 3 p 4 82 _ (.int .i64 pr) _ _ rfl rfl (by kernel_rfl) (by kernel_rfl) (by kernel_rfl) rfl rfl (HP10.out.kept k11) (by rw [JJy];omega) ?_
  intro w12 hP12 hk12 hs12
  simp only [Act.put]
  refine Kx ?_
  rw [sideCs_last] at hP12
  have kp12:Keep (·=p) w10 w12:=Keep.any k11 hk12
  have HP12:=Kj hP12
  clear hP12 hk12 hs12 k11 HP10
  go_upto_region 7 with fail
  refine wEp 7 [pV p 0,pV p 0,pV p 5,iV (no+(i:Int)),iV (no+(i:Int)+1),pV p 0,pV p 5] [40,41,42,43,44,45,46] ?_ ?_
  ·refine mE 1 0 ?_
   refine nD 2 40 0 ?_
   refine fD 3 41 1 82 3 5 0 ?_
   refine sW 4 rfl (fun a u E D hk=>QX _ Tryz.underlying3 _ _ _ rfl (dD D 2) (Kept.cell hk ((HP12.out.cell 5).trans (by unfold WW;split <;> rfl)))) ?_
   refine sW 5 rfl (fun a u E D hk=>ZJ (no+(i:Int)+1) (p:=no+(i:Int)) (q:=1) rfl (dD D 3) rfl rfl (by omega) (by omega)) ?_
   refine nD 6 40 0 ?_
   refine fD 7 45 5 82 3 5 0 ?_
   exact fz
  intro w13 k13
  simp only [F8]
  refine Zz 3 p 5 82 _ (.int .i64 (no+(i:Int)+1)) _ _ rfl rfl (by kernel_rfl) (by kernel_rfl) (by kernel_rfl) rfl rfl (HP12.out.kept k13) (by rw [JJy];omega) ?_
  intro w14 hP14 hk14 hs14
  simp only [Act.put]
  refine Kx ?_
  rw [sideCs_no] at hP14
  have kp14:Keep (·=p) w10 w14:=(kp12.kept k13).trans hk14 (fun _ _ h=>h)
  have z14:=kp14.size
  have hpl':p<wr.heap.size:=by omega
  have HP14:=Kj hP14
  have HO14:=Kj (HO10.out.keep kp14 hgp)
  have HF14:=Kj (HF10.out.keep kp14 (fun b hb=>(HVN.out b hb).2))
  have HB914:=Kj (HB910.out.keep kp14 (by omega))
  have HB1014:=Kj (HB10.out.keep kp14 (by omega))
  have HR9:=Kj (JW HB914.out)
  have HR10:=Kj (JW HB1014.out)
  clear hP14 hk14 hs14 k13 kp12 HP12 HO10 HF10 HB910 HB10
  go_upto_region 8 with fail
  refine JJJ 17 [.eq (.pointer (some ⟨go,0,none⟩)),.eq (.pointer (some ⟨go,0,none⟩)),.eq (.pointer (some ⟨go,0,none⟩)),.eq (.pointer (some ⟨go,9,none⟩)),.eq (vv),.eq (.pointer (some ⟨b9,0,none⟩)),.eq (h.o.v),.eq ((xi.o.q xi.left).v),.eq (.int .i64 pr),.eq (.pointer (some ⟨b9,9,none⟩)),.eq (.int .i64 h.n),.eq (.pointer (some ⟨p,0,none⟩)),.eq (.pointer (some ⟨p,0,none⟩)),.eq (.pointer (some ⟨p,5,none⟩)),.eq (.int .i64 (no+(i:Int)+1)),.eq ((Fl.mk h.o (xi.o.q xi.left) pr h.n (no+(i:Int)+1)).v),.sl w14.heap.size 77 21 1 (Fl.mk h.o (xi.o.q xi.left) pr h.n (no+(i:Int)+1)).cells] (.pointer (some ⟨go,0,none⟩)) ((fun v' u u'=>Sl u' 77 21 v' (xi.f.length+1) (fls xi.f++(Fl.mk h.o (xi.o.q xi.left) pr h.n (no+(i:Int)+1)).cells)∧Keep (fun b=>vv.ownBlock=some b) u u'∧∀ b,v'.ownBlock=some b→vv.ownBlock=some b∨w14.heap.size≤b)) (by kernel_rfl) rfl rfl (by kernel_rfl) (by kernel_rfl) (t_zero (d:=47) _ rfl rfl rfl (by kernel_rfl) (by kernel_rfl)) ?_ (fun a u hE hD hk=> (by obtain ⟨v',u',hr,hs',hk',ho'⟩:=Qy slF _ u vv (a.eval (.tmp 63)) xi.f.length 1 (fls xi.f) (Fl.mk h.o (xi.o.q xi.left) pr h.n (no+(i:Int)+1)).cells (HF14.out.kept hk) ((hD 16 63 (by kernel_rfl))).1 (Fl.one _) (by unfold maxLen;omega) (by omega);exact t_last (o:=⟨some 64,_,_,_,_,_⟩) (R:=(fun v' u u'=>Sl u' 77 21 v' (xi.f.length+1) (fls xi.f++(Fl.mk h.o (xi.o.q xi.left) pr h.n (no+(i:Int)+1)).cells)∧Keep (fun b=>vv.ownBlock=some b) u u'∧∀ b,v'.ownBlock=some b→vv.ownBlock=some b∨w14.heap.size≤b)) (m:=17) (v:=v') (w':=u') rfl (JZ rfl _) (XQ slF (.tmp 51) (.tmp 63) vv _ rfl (dD hD 4) rfl v' u' hr) ⟨hs',hk',fun b hb=>(ho' b hb).imp id (fun h=>Kv hk.size h)⟩)) ?_
  ·refine mE 2 1 ?_
   refine nD 3 48 1 ?_
   refine fD 4 49 2 58 1 9 0 ?_
   refine sW 5 rfl (fun a u E D hk=>Jy _ _ Tryz.underlying55 _ _ _ rfl (dD D 3) (by rw [(HO14.out.kept hk).cell];rfl)) ?_
   refine fE 6 9 72 0 0 0 ?_
   refine sD 7 52 5 h.o.cells Tryz.underlying30 (fun u hk=>xQ (JJ HR9.out hk)) (by rw [h.o.len9];exact JX) ?_
   refine sE 8 10 b10 0 ((xi.o.q xi.left).cells) Tryz.underlying30 (fun u hk=>JJ HR10.out hk) (by rw [(xi.o.q xi.left).len9];exact JX) ?_
   refine mE 9 2 ?_
   refine fE 10 9 72 1 9 0 ?_
   refine lD 11 56 9 Tryz.underlying3 (fun u hk=>JY (JJ HR9.out hk) 9 _ rfl) ?_
   refine mE 12 0 ?_
   refine nD 13 58 11 ?_
   refine fD 14 59 12 82 3 5 0 ?_
   refine sW 15 rfl (fun a u E D hk=>QX _ Tryz.underlying3 _ _ _ rfl (dD D 13) (Kept.cell hk ((HP14.out.cell 5).trans (by unfold WW;split <;> rfl)))) ?_
   refine sW 16 rfl (fun a u E D hk=>exec_bF _ _ _ _ _ h.o (xi.o.q xi.left) pr h.n (no+(i:Int)+1) rfl (dD D 6) (dD D 7) (dD D 8) (dD D 10) (dD D 14)) ?_
   refine nW 17 rfl (fun a u E D hk=>⟨_,_,Vz slF _ (Fl.mk h.o (xi.o.q xi.left) pr h.n (no+(i:Int)+1)).cells (by omega) rfl (dD D 15) ((Fl.mk h.o (xi.o.q xi.left) pr h.n (no+(i:Int)+1)).len21),(qQ u 77 21 _ w14.heap.size ((Fl.mk h.o (xi.o.q xi.left) pr h.n (no+(i:Int)+1)).len21) (by omega) hk.size),((Keep.refl _ u).alloc _)⟩) ?_
   exact fz
  intro gv w1 w15 hV h0 hR hk1
  rw [dq 18 [47,48,49,50,51,52,53,54,55,56,57,58,59,60,61,62,63,64]]
  simp only [Fz7]
  have hT:=hR 64 (by kernel_rfl)
  generalize gv 64=v64 at hT ⊢
  rw [show gv 47=.pointer (some ⟨go,0,none⟩) from h0 47 (by kernel_rfl)]
  clear hV h0 hR
  obtain ⟨hs15,hk15,ho15⟩:=hT
  have hO15:=(HO14.out.kept hk1).keep hk15 (fun e=>(HVN.out go e).1 rfl)
  refine Jx (.pointer (some ⟨go,0,none⟩)) rfl (YY (.tmp 47) ⟨go,0,none⟩ rfl (by kernel_rfl)) ?_
  simp only [Act.put,sA,sS,sZ]
  refine Jx (.pointer (some ⟨go,9,none⟩)) rfl (QV 58 1 9 (.tmp 65) (go) (0) (9) rfl (by kernel_rfl) (by kernel_rfl) rfl) ?_
  simp only [Act.put,sA,sS,sZ]
  refine Zz 55 go 9 58 _ v64 _ _ rfl rfl (by kernel_rfl) (by kernel_rfl) (by kernel_rfl) (VV hs15) (Yq hs15) hO15 (by rw [Oc.len15];omega) ?_
  intro w16 hO16 hk16 hs16
  simp only [Act.put]
  refine Kx ?_
  obtain ⟨vn,hvn⟩:∃ y,y=v64:=⟨_,rfl⟩
  subst hvn
  rw [Oc.set_fills] at hO16
  have zk1:=hk1.size
  have z15:=hk15.size
  have hvn1:∀ b,vn.ownBlock=some b→b≠go∧b≠p:=fun b hb=>by
   rcases ho15 b hb with e | e
   ·exact HVN.out b e
   omega
  have HVN1:=Kj hvn1
  have hvn2:∀ b,vn.ownBlock=some b→vf.ownBlock=some b∨w.heap.size≤b:=fun b hb=>by
   rcases ho15 b hb with e | e
   ·exact HGr.out b e
   exact .inr (by omega)
  have HVN2:=Kj hvn2
  have K16:Keep (fun b=>b=go∨vv.ownBlock=some b) w14 w16:=(Keep.mono (T:=fun b=>b=go∨vv.ownBlock=some b) (Keep.any hk1 hk15) (fun _ _ e=>.inr e)).trans hk16 (fun b _ e=>.inl e)
  have HO16:=Kj hO16
  have HF16:=Kj (hs15.keep hk16 (fun b hb e=>(hvn1 b hb).1 e))
  have HR916:=Kj (JW (HB914.out.keep K16 (fun e=>by
   rcases e with e | e
   ·omega
   have:=HVG.out _ e;omega)))
  have HP16:=Kj (HP14.out.keep K16 (fun e=>by
   rcases e with e | e
   ·exact hgp e.symm
   exact (HVN.out _ e).2 rfl))
  have KW16:Keep (fun b=>b=go∨b=p∨vf.ownBlock=some b) w w16:=by
   refine (Keep.trans (hkr.kept k10) kp14 (fun b _ e=>.inr (.inl e))).trans K16 (fun b hb e=>?_)
   rcases e with e | e
   ·exact .inl e
   rcases HGr.out b e with e | e
   ·exact .inr (.inr e)
   omega
  clear hO16 hs15 hk15 ho15 hk16 hs16 hO15 hk1 HO14 HF14 HB914 HB1014 HR9 HR10 HP14 K16 kp14 k10 hvn1 hvn2
  obtain ⟨xj,hxj⟩:∃ xj:Oc,xj=xi:=⟨_,rfl⟩
  go_upto_region 9 with fail
  refine wGp 7 [pV go 0,pV go 0,pV go 10,iV xi.left,pV b9 9,iV h.n,iV (xi.left-h.n)] [67,68,69,70,71,72,73] ?_ ?_
  ·refine mE 1 1 ?_
   refine nD 2 67 0 ?_
   refine fD 3 68 1 58 2 10 0 ?_
   refine sW 4 rfl (fun a u E D hk=>QX _ Tryz.underlying3 _ _ _ rfl (dD D 2) (by rw [(HO16.out.kept hk).cell];rfl)) ?_
   refine fE 5 9 72 1 9 0 ?_
   refine lD 6 71 4 Tryz.underlying3 (fun u hk=>JY (JJ HR916.out hk) 9 _ rfl) ?_
   refine sW 7 rfl (fun a u E D hk=>Vj (xi.left-h.n) (p:=xi.left) (q:=h.n) rfl (dD D 3) (dD D 5) rfl (by omega) (by omega)) ?_
   exact fz
  intro w17 k17
  simp only [F8]
  refine Jx (.pointer (some ⟨go,0,none⟩)) rfl (YY (.tmp 67) ⟨go,0,none⟩ rfl (by kernel_rfl)) ?_
  simp only [Act.put,sA,sS,sZ]
  refine Jx (.pointer (some ⟨go,10,none⟩)) rfl (QV 58 2 10 (.tmp 74) (go) (0) (10) rfl (by kernel_rfl) (by kernel_rfl) rfl) ?_
  simp only [Act.put,sA,sS,sZ]
  refine Zz 3 go 10 58 _ (.int .i64 (xi.left-h.n)) _ _ rfl rfl (by kernel_rfl) (by kernel_rfl) (by kernel_rfl) rfl rfl (HO16.out.kept k17) (by rw [Oc.len15];omega) ?_
  intro w18 hO18 hk18 hs18
  simp only [Act.put]
  refine Kx ?_
  rw [Oc.set_left] at hO18
  have HO18:Hid (Blk w18 go 58 ((x.more pr no (H.take (i+1))).cells vn)):=by
   show Blk _ _ _ _
   rw [HNX.out]
   exact hO18
  have HF18:Hid (Sl w18 77 21 vn (x.more pr no (H.take (i+1))).f.length (fls (x.more pr no (H.take (i+1))).f)):=by
   show Sl _ _ _ _ _ _
   rw [HNX.out]
   simp only
   rw [List.length_append,fls_snoc,← HXO.out]
   exact (HF16.out.kept k17).keep hk18 (fun b hb e=>(HVN1.out b hb).1 e)
  have HP18:Hid (Blk w18 p 82 (WW s v u0 (VY last (fillsOf x.o pr no x.left (H.take (i+1)))) (no+((i+1:Nat):Int)))):=by
   show Blk _ _ _ _
   rw [HNF.out,show no+((i+1:Nat):Int)=no+(i:Int)+1 by omega]
   exact (HP16.out.kept k17).keep hk18 (fun e=>hgp e.symm)
  have KW18:Keep (fun b=>b=go∨b=p∨vf.ownBlock=some b) w w18:=(KW16.kept k17).trans hk18 (fun b _ e=>.inl e)
  clear hO18 hk18 hs18 HO16 HF16 HP16 KW16 k17 HR916 hxj HNX HNF
  go_wp2
  exact ⟨⟨i+1,vn,by omega,by go_num,HO18,HF18,HP18,HVN2,KW18⟩,by simp [intOf];omega⟩
 have hin:i=n:=by omega
 subst hin
 have HT:Hid (H.take i=H):=by show _=_;exact List.take_of_length_le (by rw [HN.out];omega)
 have HR:Hid (TradeIn w go p s v u0 vf last no pr x H (.returned (.tuple #[])) wr):=by
  rw [HT.out] at HOr HFr HBr
  exact ⟨vv,rfl,HOr.out,HFr.out,by rw [HN.out];exact HBr.out,hkr,HGr.out⟩
 clear HOr HFr HBr HGr
 go_wp2
 go_end0
 exact HR.out
def Rejoin3 (w:World) (F:Nat→Prop) (p:Nat) (B:Bok) (s:Int) (u:Value) (Fs:Nat→Prop):Prop:=
 ∀ (w':World) (v':Value) (L':List Lev) (Fs':Nat→Prop) (last no:Int) (S:Nat→Prop),Keep S w w'→(∀ b,F b→S b→Fs b∨b=p)→Blk w' p 82 (WW s v' u last no)→Way 116 113 107 w' Fs' v' L'→Grow w Fs Fs'→∃ F',Bk w' F' p (B.to s L' last no)∧Grow w F F'∧∀ b,F' b↔F b∨Fs' b
theorem Bk.open3 {w:World} {F:Nat→Prop} {p:Nat} {B:Bok} (h:Bk w F p B) {s:Int} (hs:s=1∨s=2) :
  ∃ v u Z G Fs,levs Z=B.sd s∧WayZ 116 113 107 w Fs v Z G∧Blk w p 82 (WW s v u B.last B.no)∧(∀ b,Fs b→F b∧b≠p)∧F p∧(∀ b,F b→b<w.heap.size)∧Rejoin3 w F p B s u Fs:=by
 obtain ⟨h1,h2,v1,v2,F1,F2,hB,hW1,hW2,h3,h4⟩:=h
 have hpl:=h2 p h1
 rcases hs with rfl | rfl
 ·obtain ⟨Z,G,e,hz⟩:=hW1
  refine ⟨v1,v2,Z,G,F1,e,hz,hB,fun b hb=>⟨(h3 b hb).1,(h3 b hb).2.1⟩,h1,h2,?_⟩
  intro w' v' L' Fs' last no S hk hS hB' hW' hG
  have hlt:=hW'.lt
  refine ⟨fun b=>F b∨Fs' b,⟨.inl h1,fun b hb=>hb.elim (fun h=>Nat.lt_of_lt_of_le (h2 b h) hk.size) (hlt b),v',v2,Fs',F2,hB',hW',hW2.keep hk (fun b hb h=>(hS b (h4 b hb).1 h).elim (fun h=>(h3 b h).2.2 hb) (fun h=>(h4 b hb).2 h)),fun b hb=>?_,fun b hb=>⟨.inl (h4 b hb).1,(h4 b hb).2⟩⟩,fun b hb=>hb.elim .inl (fun h=>(hG b h).imp (fun h=>(h3 b h).1) id),fun b=>Iff.rfl⟩
  refine ⟨.inr hb,?_,?_⟩
  ·rcases hG b hb with h | h
   ·exact (h3 b h).2.1
   omega
  rcases hG b hb with h | h
  ·exact (h3 b h).2.2
  intro h'
  have:=h2 b (h4 b h').1
  omega
 obtain ⟨Z,G,e,hz⟩:=hW2
 refine ⟨v2,v1,Z,G,F2,e,hz,hB,h4,h1,h2,?_⟩
 intro w' v' L' Fs' last no S hk hS hB' hW' hG
 have hlt:=hW'.lt
 refine ⟨fun b=>F b∨Fs' b,⟨.inl h1,fun b hb=>hb.elim (fun h=>Nat.lt_of_lt_of_le (h2 b h) hk.size) (hlt b),v1,v',F1,Fs',hB',hW1.keep hk (fun b hb h=>(hS b (h3 b hb).1 h).elim (fun h=>(h3 b hb).2.2 h) (fun h=>(h3 b hb).2.1 h)),hW',fun b hb=>⟨.inl (h3 b hb).1,(h3 b hb).2.1,fun h'=>?_⟩,fun b hb=>⟨.inr hb,?_⟩⟩,fun b hb=>hb.elim .inl (fun h=>(hG b h).imp (fun h=>(h4 b h).1) id),fun b=>Iff.rfl⟩
 ·rcases hG b h' with h | h
  ·exact (h3 b hb).2.2 h
  have:=h2 b (h3 b hb).1
  omega
 rcases hG b hb with h | h
 ·exact (h4 b h).2
 omega
theorem match_zero {o:Ord} {no q:Int} (h:q≤0):∀ (L:List Lev),ZY o no q L=⟨[],q,false,L⟩
 | []=>rfl
 | l::R=>by rw [ZY,if_neg (fun h'=>by omega)]
def roundM (o:Ord) (no q:Int) (l:Lev) (R:List Lev):Mt:=
 if (takeM o.firm q l.2).2.1=true then ⟨[],q-QJ (takeM o.firm q l.2).1,true,Vx [] R (l.1,(takeM o.firm q l.2).2.2)⟩ else ZY o (no+(takeM o.firm q l.2).1.length) (q-QJ (takeM o.firm q l.2).1) (Vx [] R (l.1,(takeM o.firm q l.2).2.2))
theorem match_round {s:Int} {o:Ord} {no q:Int} {l:Lev} {R:List Lev} (hL:Sid s (l::R)) (hq:0<q) (hc:o.crosses l.1=true) :
  ZY o no q (l::R)=⟨fillsOf o l.1 no q (takeM o.firm q l.2).1++(roundM o no q l R).f,(roundM o no q l R).left,(roundM o no q l R).self,(roundM o no q l R).L⟩:=by
 obtain ⟨hg,hy⟩:=hL.good (l:=l) (by simp)
 obtain ⟨u1,u2,u3⟩:=takeM_end o.firm _ q l.2 (Nat.le_refl _) (by omega) hg hy
 rw [ZY,if_pos ⟨hq,hc⟩]
 unfold roundM Vx
 generalize takeM o.firm q l.2=t at *
 obtain ⟨H,b,X⟩:=t
 simp only at *
 by_cases he:X.isEmpty=true
 ·rw [if_pos he,if_pos he]
  have he':X=[]:=by simpa using he
  subst he'
  have hb:b=false:=by
   cases b with
   | false=>rfl
   | true=>obtain ⟨e,E,q1,_⟩:=u2 rfl;cases q1
  subst hb
  simp
 rw [if_neg he,if_neg he]
 cases b with
 | true=>simp
 | false=>
  rcases u3 rfl with q1 | q1
  ·rw [if_neg (by simp),match_zero (by omega)]
   simp
  rw [q1] at he;exact absurd rfl he
structure RoundIs (s:Int) (o:Ord) (q:Int) (l:Lev) (R:List Lev) (t:List Ent × Bool × List Ent):Prop where
 sid:Sid s (Vx [] R (l.1,t.2.2))
 pos:∀ h ∈ t.1,1≤h.n
 sum:QJ t.1≤q
 len:(t.1.length:Int)≤QJ t.1
 prog:t.2.1=true∨1≤QJ t.1
 few:t.2.2.length≤64
theorem round_is {s:Int} {o:Ord} {q:Int} {l:Lev} {R:List Lev} (hL:Sid s (l::R)) (hq:0<q):RoundIs s o q l R (takeM o.firm q l.2):=by
 obtain ⟨hg,hy⟩:=hL.good (l:=l) (by simp)
 obtain ⟨t1,t2,t3,t4,t5⟩:=takeM_facts o.firm _ q l.2 (Nat.le_refl _) hg
 obtain ⟨u1,u2,u3⟩:=takeM_end o.firm _ q l.2 (Nat.le_refl _) (by omega) hg hy
 have hle:=take_len o.firm q l.2
 have h64:l.2.length≤64:=by
  have:=hL.few
  rw [YV,List.length_append] at this
  omega
 refine ⟨?_,fun h hh=>(t3 h hh).1,t5 (by omega),t4,?_,by omega⟩
 ·unfold Vx
  split
  ·exact hL.tail
  rename_i he
  exact hL.with_ (by simpa using he) (take_at o.firm q (hL.at_ l (by simp))).1 hle (take_fresh o.firm q (hL.fr l (by simp)))
 cases hb:(takeM o.firm q l.2).2.1 with
 | true=>exact .inl rfl
 | false=>
  right
  rcases u3 hb with q1 | q1
  ·omega
  rw [q1] at t2
  have h1:=ZQ hg.ok
  have h2:=List.length_pos_iff.2 (hL.ne l (by simp))
  rw [show Xy ([]:List Ent)=0 from rfl] at t2
  omega
def mOut (bo:Nat) (w:World):Nat:=match w.cell? ⟨bo,10,none⟩,w.cell? ⟨bo,13,none⟩ with
 | some (.int _ l),some (.bool b)=>2*l.toNat+(if b=true then 0 else 1)
 | _,_=>0
theorem mOut_is {w:World} {bo:Nat} {x:Oc} {v:Value} {T:TypeId} (h:Blk w bo T (x.cells v)):mOut bo w=2*x.left.toNat+(if x.self=true then 0 else 1):=by
 unfold mOut
 rw [h.cell,h.cell]
 rfl
def MatchIn (w:World) (F:Nat→Prop) (p:Nat) (B:Bok) (o:Ord) (m:Mt) (r:Ending) (w':World):Prop:=
 ∃ F' vf,r=.returned ((Oc.mk o m.f m.left false m.self 0).v vf)∧Bk w' F' p (B.to (3-o.side) m.L (VY B.last m.f) (B.no+m.f.length))∧Sl w' 77 21 vf m.f.length (fls m.f)∧(∀ b,vf.ownBlock=some b→w.heap.size≤b∧¬ F' b)∧Grow w F F'∧Keep F w w'
theorem built_oc (o:Ord) (n:Int):Tryz.prog.built 58 [(0,o.v),(2,.int .i64 n)]=some ((Oc.mk o [] n false false 0).cells (.slice none 0 0)).toArray:=by kernel_rfl
theorem match_any (w:World) (F:Nat→Prop) (p:Nat) (B:Bok) (o:Ord) (h:Bk w F p B) (hI:Inv B) (hs:o.side=1∨o.side=2) (hq:1≤o.qty∧o.qty≤1048576) (hn:B.no≤1000000000000) :
  Calls Tryz.prog 93 #[.pointer (some ⟨p,0,none⟩),o.v] w (MatchIn w F p B o (B.matched o)):=by
 have hSid:Sid (3-o.side) (B.sd (3-o.side)):=(hI.side hs).theirs
 have hno0:=hI.no0
 have HSD:=Kj hSid
 have hFl:=h.lt
 have HK:=Kj h
 have hpF:=h.1
 obtain ⟨s,hse⟩:∃ s,3-o.side=s:=⟨_,rfl⟩
 have HSE:=Kj hse
 have HSO:=Kj hs
 have hs:s=1∨s=2:=by omega
 rw [hse] at HSD
 clear hSid h hI hse
 go_enter Tryz.func93,Tryz.ntmps93
 go_upto_region 0 with fail
 refine QZ 2 [.fresh w.heap.size 30 (o.cells),.fresh w.heap.size 58 (Xq.cells (.slice none 0 0))] rfl (by kernel_rfl) ?_ ?_
 ·refine nW 1 rfl (fun a u E D hk=>⟨_,_,YX 30 _ (o.cells) rfl (eE E),⟨_,rfl,hk.size,Blk.new u _ _⟩,((Keep.refl _ u).alloc _)⟩) ?_
  refine nW 2 rfl (fun a u E D hk=>⟨_,_,QW 58 (Xq.cells (.slice none 0 0)) rfl zC,⟨_,rfl,hk.size,Blk.new u _ _⟩,((Keep.refl _ u).alloc _)⟩) ?_
  exact fz
 intro gv wa hV ka
 rw [dq 2 [3,4]]
 simp only [Fz7]
 have hv3:(.fresh w.heap.size 30 (o.cells):Kn).p (gv 3) wa:=hV 0 3 (by kernel_rfl)
 generalize gv 3=v3 at hv3 ⊢
 have hv4:(.fresh w.heap.size 58 (Xq.cells (.slice none 0 0)):Kn).p (gv 4) wa:=hV 1 4 (by kernel_rfl)
 generalize gv 4=v4 at hv4 ⊢
 clear hV
 obtain ⟨bi,rfl,hbi,hBi⟩:=hv3
 obtain ⟨b4,rfl,hb4,hB4⟩:=hv4
 refine Kx ?_
 have HIa:=Kj (JW hBi)
 have HB4a:=Kj hB4
 have l4:=hB4.lt
 have li:=hBi.lt
 clear hBi hB4
 go_upto_region 1 with fail
 refine QZ 5 [.eq (o.v),pE bi 6,iE o.qty,.eq ((Oc.mk o [] o.qty false false 0).v (.slice none 0 0)),.fresh wa.heap.size 58 (Xq.cells (.slice none 0 0))] rfl (by kernel_rfl) ?_ ?_
 ·refine sE 1 3 bi 0 o.cells Tryz.underlying30 (fun u hk=>JJ HIa.out hk) (by rw [o.len9];exact JX) ?_
  refine fE 2 3 30 6 6 0 ?_
  refine lD 3 11 1 Tryz.underlying3 (fun u hk=>JY (JJ HIa.out hk) 6 _ rfl) ?_
  refine sW 4 rfl (fun a u E D hk=>YJ _ [(0,.tmp 10),(2,.tmp 12)] ((Oc.mk o [] o.qty false false 0).cells (.slice none 0 0)) rfl (by simp only [List.map_cons,List.map_nil];rw [show a.eval (.tmp 10)=o.v from (dD D 0),show a.eval (.tmp 12)=.int .i64 o.qty from (dD D 2)];exact built_oc o o.qty)) ?_
  refine nW 5 rfl (fun a u E D hk=>⟨_,_,QW 58 (Xq.cells (.slice none 0 0)) rfl zC,⟨_,rfl,hk.size,Blk.new u _ _⟩,((Keep.refl _ u).alloc _)⟩) ?_
  exact fz
 intro gv wb hV kb
 rw [dq 5 [10,11,12,13,5]]
 simp only [Fz7]
 have hv5:(.fresh wa.heap.size 58 (Xq.cells (.slice none 0 0)):Kn).p (gv 5) wb:=hV 4 5 (by kernel_rfl)
 generalize gv 5=v5 at hv5 ⊢
 rw [gQ hV 3 13 ((Oc.mk o [] o.qty false false 0).v (.slice none 0 0))]
 clear hV
 obtain ⟨bo,rfl,hbo,hBo⟩:=hv5
 refine Qj 58 bo 58 (Xq.cells (.slice none 0 0)) ((Oc.mk o [] o.qty false false 0).cells (.slice none 0 0)) _ _ rfl rfl (by kernel_rfl) (by kernel_rfl) hBo (by rw [Oc.len15];exact szC) (by rw [Oc.len15,Oc.len15]) (Oc.one _ _ rfl) ?_
 intro wc hBc hkc hsc
 simp only [Act.put]
 refine Kx ?_
 have kac:Kept wa wc:=kb.trans' hkc (by omega)
 have HOc:=Kj hBc
 have lo:=hBc.lt
 have HIc:=Kj (JJ HIa.out kac)
 have HB4c:=Kj (HB4a.out.kept kac)
 clear hBo hBc hkc hsc kb HIa HB4a
 have kwc:=ka.trans kac
 clear ka kac
 go_upto_region 2 with fail
 refine wE 4 [pV p 0,o.v,pV p (Qz s),pV p (Qz s)] [14,15,16,6] ?_ ?_
 ·refine mE 1 0 ?_
  refine sE 2 3 bi 0 o.cells Tryz.underlying30 (fun u hk=>JJ HIc.out hk) (by rw [o.len9];exact JX) ?_
  refine cS 3 103 [.pointer (some ⟨p,0,none⟩),o.v] rfl Tryz.func103 rfl (fun a u E D hk=>⟨ll (dD D 0) (ll (dD D 1) rfl),(by have h:=jV u p o HSO.out;rw [HSE.out] at h;exact h)⟩) ?_
  refine mD 4 16 2 ?_
  exact fz
 intro w1 kd
 simp only [F8]
 have k1:=kwc.trans kd
 have HI:=Kj (JJ HIc.out kd)
 have HB4:=Kj (HB4c.out.kept kd)
 have HO1:=Kj (HOc.out.kept kd)
 have HK1:=Kj (HK.out.kept k1)
 have zd:=kd.size
 have z1:=k1.size
 have hFl1:∀ b,F b→b<w1.heap.size:=fun b hb=>Nat.lt_of_lt_of_le (hFl b hb) z1
 have h4F:¬ F b4:=fun e=>by have:=hFl b4 e;omega
 have hoF:¬ F bo:=fun e=>by have:=hFl bo e;omega
 have hiF:¬ F bi:=fun e=>by have:=hFl bi e;omega
 have h4o:b4≠bo:=by omega
 have hio:bi≠bo:=by omega
 clear HIc HB4c HOc HK kd kwc
 go_wp2_with fail
 go_loopw [7] (fun _ wr=>∃ (L:List Lev) (last no left:Int) (self:Bool) (fs:List Fl) (Fc:Nat→Prop) (vf:Value),Hid (Bk wr Fc p (B.to s L last no))∧Hid (Blk wr bo 58 ((Oc.mk o fs left false self 0).cells vf))∧Hid (Sl wr 77 21 vf fs.length (fls fs))∧Hid (∀ b,vf.ownBlock=some b→w1.heap.size≤b∧¬ Fc b∧b≠bo)∧Hid (Grow w1 F Fc)∧Keep (fun b=>F b∨b=bo) w1 wr∧Hid (Sid s L)∧Hid (last=VY B.last fs∧no=B.no+fs.length)∧(0≤left∧(fs.length:Int)+left≤o.qty)∧Hid (B.matched o=⟨fs++(if self=true then Mt.mk [] left true L else ZY o no left L).f,(if self=true then Mt.mk [] left true L else ZY o no left L).left,(if self=true then Mt.mk [] left true L else ZY o no left L).self,(if self=true then Mt.mk [] left true L else ZY o no left L).L⟩)) (fun _ wr=>mOut bo wr)
 case atStart=>
  refine ⟨B.sd s,B.last,B.no,o.qty,false,[],F,.slice none 0 0,by show Bk _ _ _ _;rw [Bok.to_self hs];exact HK1.out,HO1.out,Sl.nil _ _ _,fun b hb=>by simp [Value.ownBlock] at hb,Grow.refl _ _,Keep.refl _ _,HSD.out,⟨rfl,by simp⟩,⟨by omega,by simp⟩,?_⟩
  show _=_
  unfold Bok.matched
  rw [HSE.out]
  simp
 obtain ⟨L,last,no,left,self,fs,Fc,vf,HBr,HOr,HVr,HVn,HGr,hkr,HSr,HLN,hlf,HM⟩:=hrel
 have HIr:=Kj (XW HI.out hkr (fun e=>e.elim hiF hio))
 have hL64:L.length≤1000:=by have:=HSr.out.ok.len;omega
 have zr:=hkr.size
 have hmo:=mOut_is HOr.out
 by_cases hl0:0<left
 ·by_cases hsf:self=true
  ·skip
   have HFIN:Hid (B.matched o=⟨fs,left,self,L⟩):=by show _=_;rw [HM.out,hsf];simp
   clear HM
   go_upto_region 3 with fail
   refine wE 13 [pV bo 10,iV ((Oc.mk o fs left false self 0).left),bV true,bV true,pV bo 13,bV ((Oc.mk o fs left false self 0).self),bV false,bV false,bV false,undef,undef,undef,bV false] [17,18,19,20,21,22,23,24,25,26,27,28,29] ?_ ?_
   ·refine fE 1 5 58 2 10 0 ?_
    refine sW 2 rfl (fun a u E D hk=>QX _ Tryz.underlying3 _ _ _ rfl (dD D 0) (by rw [(HOr.out.kept hk).cell];rfl)) ?_
    refine aS 3 rfl (fun a u E D hk=>XX rfl (dD D 1) rfl) (Ky hl0) ?_
    refine mD 4 19 2 ?_
    refine fE 5 5 58 5 13 0 ?_
    refine sW 6 rfl (fun a u E D hk=>UY _ Tryz.underlying4 _ _ _ rfl (dD D 4) (by rw [(HOr.out.kept hk).cell];rfl)) ?_
    refine aS 7 rfl (fun a u E D hk=>Yj _ _ (Oc.mk o fs left false self 0).self rfl (dD D 5)) (by rw [hsf];rfl) ?_
    refine pT 8 20 23 3 6 ?_
    refine mD 9 24 7 ?_
    refine kS 10 8 ?_
    refine kS 11 8 ?_
    refine kS 12 8 ?_
    refine pF 13 25 8 ?_
    exact fz
   intro wq kq
   simp only [F8]
   clear hsf
   have kwq:=hkr.kept kq
   have HB4q:=Kj (HB4.out.keep kwq (fun e=>e.elim h4F (fun e=>h4o e)))
   have HOq:=Kj (HOr.out.kept kq)
   have HBq:=Kj (HBr.out.kept kq)
   have HVq:=Kj (HVr.out.kept kq)
   go_upto_region 9 with fail
   refine wEp 1 [(Oc.mk o fs left false self 0).v vf] [54] ?_ ?_
   ·refine sE 1 5 bo 0 ((Oc.mk o fs left false self 0).cells vf) Tryz.underlying58 (fun u hk=>JW (HOq.out.kept hk)) (by rw [Oc.len15];exact szC) ?_
    exact fz
   intro wy ky
   simp only [F8]
   refine Qj 58 b4 58 (Xq.cells (.slice none 0 0)) ((Oc.mk o fs left false self 0).cells vf) _ _ rfl rfl (by kernel_rfl) (by kernel_rfl) (HB4q.out.kept ky) (by rw [Oc.len15];exact szC) (by rw [Oc.len15,Oc.len15]) (Oc.one _ _ (Yq HVq.out)) ?_
   intro wx hBx hkx hsx
   simp only [Act.put]
   refine Kx ?_
   go_wp2
   refine bodyPost_ret (XZ (p:=4) rfl _ _ b4 _ ((Oc.mk o fs left false self 0).cells vf) rfl hBx Tryz.underlying58 (by rw [Oc.len15];exact szC)) rfl ?_
   rw [HFIN.out]
   unfold MatchIn
   rw [HSE.out]
   have hx4:¬ Fc b4:=fun e=>(HGr.out b4 e).elim h4F (fun e=>by omega)
   have hv4:∀ b,vf.ownBlock=some b→b≠b4:=fun b hb e=>by have:=(HVn.out b hb).1;omega
   have zq:=kq.size
   have zy:=ky.size
   have hlast:=HLN.out
   refine ⟨Fc,vf,rfl,?_,?_,fun b hb=>⟨by have:=(HVn.out b hb).1;omega,(HVn.out b hb).2.1⟩,fun b hb=>(HGr.out b hb).imp id (fun h=>by omega),?_⟩
   ·have h1:=((HBq.out.kept ky).keep hkx (fun b hb e=>hx4 (by rw [← e];exact hb)))
    rw [hlast.1,hlast.2] at h1
    exact h1
   ·exact (HVq.out.kept ky).keep hkx (fun b hb e=>hv4 b hb e)
   exact ((Keep.any k1 kwq).mono (fun b hb e=>e.elim id (fun e=>by omega))).kept ky |>.trans hkx (fun b hb e=>by omega)
  have hsf:self=false:=by simpa using hsf
  cases hmt:o.meets L with
  | false=>
   have HCR:=Kj hmt
   have HFIN:Hid (B.matched o=⟨fs,left,self,L⟩):=by show _=_;rw [HM.out,hsf,match_none hmt];simp
   clear HM hmt
   go_upto_region 3 with fail
   refine wE 13 [pV bo 10,iV ((Oc.mk o fs left false self 0).left),bV true,bV true,pV bo 13,bV ((Oc.mk o fs left false self 0).self),bV true,bV true,bV true,pV p (Qz s),o.v,bV false,bV false] [17,18,19,20,21,22,23,24,25,26,27,28,29] ?_ ?_
   ·refine fE 1 5 58 2 10 0 ?_
    refine sW 2 rfl (fun a u E D hk=>QX _ Tryz.underlying3 _ _ _ rfl (dD D 0) (by rw [(HOr.out.kept hk).cell];rfl)) ?_
    refine aS 3 rfl (fun a u E D hk=>XX rfl (dD D 1) rfl) (Ky hl0) ?_
    refine mD 4 19 2 ?_
    refine fE 5 5 58 5 13 0 ?_
    refine sW 6 rfl (fun a u E D hk=>UY _ Tryz.underlying4 _ _ _ rfl (dD D 4) (by rw [(HOr.out.kept hk).cell];rfl)) ?_
    refine aS 7 rfl (fun a u E D hk=>Yj _ _ (Oc.mk o fs left false self 0).self rfl (dD D 5)) (by rw [hsf];rfl) ?_
    refine pT 8 20 23 3 6 ?_
    refine mD 9 24 7 ?_
    refine mE 10 6 ?_
    refine sE 11 3 bi 0 o.cells Tryz.underlying30 (fun u hk=>JJ HIr.out hk) (by rw [o.len9];exact JX) ?_
    refine cS 12 104 [.pointer (some ⟨p,Qz s,none⟩),o.v] rfl Tryz.func104 rfl (fun a u E D hk=>⟨ll (dD D 9) (ll (dD D 10) rfl),(by obtain ⟨F',hLd⟩:=(HBr.out.kept hk).lad hs;rw [Bok.to_sd hs] at hLd;rw [← HCR.out];exact yV u F' p (Qz s) s L o hLd hL64)⟩) ?_
    refine pT 13 25 28 8 11 ?_
    exact fz
   intro wq kq
   simp only [F8]
   clear hsf
   have kwq:=hkr.kept kq
   have HB4q:=Kj (HB4.out.keep kwq (fun e=>e.elim h4F (fun e=>h4o e)))
   have HOq:=Kj (HOr.out.kept kq)
   have HBq:=Kj (HBr.out.kept kq)
   have HVq:=Kj (HVr.out.kept kq)
   go_upto_region 9 with fail
   refine wEp 1 [(Oc.mk o fs left false self 0).v vf] [54] ?_ ?_
   ·refine sE 1 5 bo 0 ((Oc.mk o fs left false self 0).cells vf) Tryz.underlying58 (fun u hk=>JW (HOq.out.kept hk)) (by rw [Oc.len15];exact szC) ?_
    exact fz
   intro wy ky
   simp only [F8]
   refine Qj 58 b4 58 (Xq.cells (.slice none 0 0)) ((Oc.mk o fs left false self 0).cells vf) _ _ rfl rfl (by kernel_rfl) (by kernel_rfl) (HB4q.out.kept ky) (by rw [Oc.len15];exact szC) (by rw [Oc.len15,Oc.len15]) (Oc.one _ _ (Yq HVq.out)) ?_
   intro wx hBx hkx hsx
   simp only [Act.put]
   refine Kx ?_
   go_wp2
   refine bodyPost_ret (XZ (p:=4) rfl _ _ b4 _ ((Oc.mk o fs left false self 0).cells vf) rfl hBx Tryz.underlying58 (by rw [Oc.len15];exact szC)) rfl ?_
   rw [HFIN.out]
   unfold MatchIn
   rw [HSE.out]
   have hx4:¬ Fc b4:=fun e=>(HGr.out b4 e).elim h4F (fun e=>by omega)
   have hv4:∀ b,vf.ownBlock=some b→b≠b4:=fun b hb e=>by have:=(HVn.out b hb).1;omega
   have zq:=kq.size
   have zy:=ky.size
   have hlast:=HLN.out
   refine ⟨Fc,vf,rfl,?_,?_,fun b hb=>⟨by have:=(HVn.out b hb).1;omega,(HVn.out b hb).2.1⟩,fun b hb=>(HGr.out b hb).imp id (fun h=>by omega),?_⟩
   ·have h1:=((HBq.out.kept ky).keep hkx (fun b hb e=>hx4 (by rw [← e];exact hb)))
    rw [hlast.1,hlast.2] at h1
    exact h1
   ·exact (HVq.out.kept ky).keep hkx (fun b hb e=>hv4 b hb e)
   exact ((Keep.any k1 kwq).mono (fun b hb e=>e.elim id (fun e=>by omega))).kept ky |>.trans hkx (fun b hb e=>by omega)
  | true=>
   have HCR:=Kj hmt
   go_upto_region 3 with fail
   refine wE 13 [pV bo 10,iV ((Oc.mk o fs left false self 0).left),bV true,bV true,pV bo 13,bV ((Oc.mk o fs left false self 0).self),bV true,bV true,bV true,pV p (Qz s),o.v,bV true,bV true] [17,18,19,20,21,22,23,24,25,26,27,28,29] ?_ ?_
   ·refine fE 1 5 58 2 10 0 ?_
    refine sW 2 rfl (fun a u E D hk=>QX _ Tryz.underlying3 _ _ _ rfl (dD D 0) (by rw [(HOr.out.kept hk).cell];rfl)) ?_
    refine aS 3 rfl (fun a u E D hk=>XX rfl (dD D 1) rfl) (Ky hl0) ?_
    refine mD 4 19 2 ?_
    refine fE 5 5 58 5 13 0 ?_
    refine sW 6 rfl (fun a u E D hk=>UY _ Tryz.underlying4 _ _ _ rfl (dD D 4) (by rw [(HOr.out.kept hk).cell];rfl)) ?_
    refine aS 7 rfl (fun a u E D hk=>Yj _ _ (Oc.mk o fs left false self 0).self rfl (dD D 5)) (by rw [hsf];rfl) ?_
    refine pT 8 20 23 3 6 ?_
    refine mD 9 24 7 ?_
    refine mE 10 6 ?_
    refine sE 11 3 bi 0 o.cells Tryz.underlying30 (fun u hk=>JJ HIr.out hk) (by rw [o.len9];exact JX) ?_
    refine cS 12 104 [.pointer (some ⟨p,Qz s,none⟩),o.v] rfl Tryz.func104 rfl (fun a u E D hk=>⟨ll (dD D 9) (ll (dD D 10) rfl),(by obtain ⟨F',hLd⟩:=(HBr.out.kept hk).lad hs;rw [Bok.to_sd hs] at hLd;rw [← HCR.out];exact yV u F' p (Qz s) s L o hLd hL64)⟩) ?_
    refine pT 13 25 28 8 11 ?_
    exact fz
   intro wq kq
   simp only [F8]
   clear HCR
   obtain ⟨l,R,hLR⟩:∃ l R,L=l::R:=by
    cases L with
    | nil=>cases hmt
    | cons l R=>exact ⟨l,R,rfl⟩
   subst hLR
   obtain ⟨pr,X⟩:=l
   have hcr:o.crosses pr=true:=hmt
   have HRD:=Kj (match_round (no:=no) HSr.out hl0 hcr)
   have HRI:=Kj (round_is (o:=o) HSr.out hl0)
   have HGD:=Kj (HSr.out.good (l:=(pr,X)) (by simp)).1
   rw [hsf] at HM
   clear hmt
   obtain ⟨v,u0,Z,G,Fs,eL,hW,hB,hFs,hp,hlt,hJ⟩:=(HBr.out.kept kq).open3 hs
   rw [Bok.to_sd hs] at eL
   obtain ⟨z,ZR,hZ⟩:∃ z ZR,Z=z::ZR:=by
    cases Z with
    | nil=>cases eL
    | cons z ZR=>exact ⟨z,ZR,rfl⟩
   subst hZ
   obtain ⟨q,pr',X'⟩:=z
   rw [Wy] at eL
   obtain ⟨e1,eR⟩:=List.cons.inj eL
   simp only [Prod.mk.injEq] at e1
   obtain ⟨rfl,rfl⟩:=e1
   have ER:=Kj eR
   have HJ:=Kj hJ
   have HFs:=Kj hFs
   have HW:=Kj hW
   have hLv:=hW.lv (q,pr',X') (by simp)
   have hGF:=hW.in_ (q,pr',X') (by simp)
   simp only at hLv hGF
   obtain ⟨gs,os,c,rfl⟩:=hW.some_ (by simp)
   obtain ⟨n,hnn⟩:∃ n,List.length ((q,pr',X')::ZR)=n:=⟨_,rfl⟩
   have hn0:0<n:=by rw [← hnn];simp
   have HC:=Kj (hW.cell (i:=0) (z:=(q,pr',X')) rfl)
   rw [hnn] at HW hB
   have HVV:Hid (wq.cell? ⟨p,Qz s+1,none⟩=some (.slice (some ⟨gs,os,none⟩) n c)):=by show _=_;rw [hB.cell];exact zV s _ _ _ _
   have HBB:=Kj hB
   have HLv:=Kj hLv
   have HGF:=Kj hGF
   have hpl:=hlt p hp
   have HLTF:=Kj hlt
   clear hB hW eL hJ hFs hLv hGF hnn eR
   have HOq:=Kj (HOr.out.kept kq)
   have HVq:=Kj (HVr.out.kept kq)
   have HIq:=Kj (JJ HIr.out kq)
   have kwq:=hkr.kept kq
   have zq:=kwq.size
   have hoFc:¬ Fc bo:=fun e=>(HGr.out bo e).elim hoF (fun e=>by omega)
   have HSF:=Kj hsf
   have HMO:=Kj hmo
   clear HOr HVr HIr kq hsf hmo
   go_upto_region 4 with fail
   refine wE 7 [pV p (Qz s),pV p (Qz s),pV p (Qz s+1),.slice (some ⟨gs,os,none⟩) n c,pV gs os,pV q 0,pV q 0] [30,31,32,33,34,35,7] ?_ ?_
   ·refine mE 1 6 ?_
    refine nD 2 30 0 ?_
    refine fD 3 31 1 80 1 1 (Qz s) ?_
    refine sW 4 rfl (fun a u E D hk=>Jy _ _ Tryz.underlying78 _ _ _ rfl (dD D 2) (Kept.cell hk (HVV.out))) ?_
    refine sW 5 rfl (fun a u E D hk=>Jz slQ _ _ (gs) (os) n c 0 (os) (0) rfl (dD D 3) rfl (by first | rfl | omega) ((by omega)) (by first | rfl | omega)) ?_
    refine sW 6 rfl (fun a u E D hk=>XY _ _ Tryz.underlying107 _ _ _ rfl (dD D 4) (Kept.cell hk ((by simpa using HC.out)))) ?_
    refine mD 7 35 5 ?_
    exact fz
   intro w2 k2
   simp only [F8]
   have HO2:=Kj (HOq.out.kept k2)
   have HI2:=Kj (JJ HIq.out k2)
   have HLv2:=Kj (HLv.out.kept k2)
   obtain ⟨t,ht⟩:∃ t,takeM o.firm left X'=t:=⟨_,rfl⟩
   obtain ⟨H,ow,X2⟩:=t
   rw [ht] at HRI
   have HTT:=Kj ht
   clear HC HVV HLv ht
   go_upto_region 5 with fail
   refine wEp 5 [pV q 0,pV bi 2,iV o.firm,pV bo 10,iV ((Oc.mk o fs left false self 0).left)] [37,38,39,40,41] ?_ ?_
   ·refine mE 1 7 ?_
    refine fE 2 3 30 2 2 0 ?_
    refine lD 3 38 1 Tryz.underlying3 (fun u hk=>JY (JJ HI2.out hk) 2 _ rfl) ?_
    refine fE 4 5 58 2 10 0 ?_
    refine sW 5 rfl (fun a u E D hk=>QX _ Tryz.underlying3 _ _ _ rfl (dD D 3) (by rw [(HO2.out.kept hk).cell];rfl)) ?_
    exact fz
   intro w3 k3
   simp only [F8]
   refine Yz 106 #[.pointer (some ⟨q,0,none⟩),.int .i64 o.firm,.int .i64 (Oc.mk o fs left false self 0).left] rfl (Jq 106 _ [.tmp 37,.tmp 39,.tmp 41] _ _ Tryz.func106 (by kernel_rfl) (by kernel_rfl) rfl (by kernel_rfl) _) ?_
   refine (take_any w3 _ q X' o.firm left (HLv2.out.kept k3) HGD.out (by omega)).mono ?_
   rintro r w4 ⟨F4,vh,rfl,hl4,hs4,hv4,hg4,hk4⟩
   rw [HTT.out] at hl4 hs4
   refine ⟨.tuple #[vh,.bool ow],by rw [HTT.out],?_⟩
   simp only [Act.put,sA,sS,sZ]
   refine Jx (.tuple #[vh,.bool ow]) rfl (Jj _ _ rfl (by kernel_rfl)) ?_
   simp only [Act.put,sA,sS,sZ]
   refine Jx (vh) rfl (QU (.tmp 36) [vh,.bool ow] 0 (vh) rfl (by kernel_rfl) rfl) ?_
   simp only [Act.put,sA,sS,sZ]
   refine Jx (.bool ow) rfl (QU (.tmp 36) [vh,.bool ow] 1 (.bool ow) rfl (by kernel_rfl) rfl) ?_
   simp only [Act.put,sA,sS,sZ]
   refine Jx (vh) rfl (JQ _ _ rfl (by kernel_rfl)) ?_
   simp only [Act.put,sA,sS,sZ]
   refine Jx (.bool ow) rfl (JQ _ _ rfl (by kernel_rfl)) ?_
   simp only [Act.put,sA,sS,sZ]
   refine Kx ?_
   have k03:=k2.trans k3
   have z3:=k03.size
   obtain ⟨Fs4,G4,hW4,hG4,hk4',_⟩:=WayZ.turn (A:=[]) (R:=ZR) (q:=q) (pr:=pr') (X:=X') (HW.out.kept k03) hk4 hl4 hg4
   have z4:=hk4.size
   have hFo:¬ Fs bo:=fun e=>hoFc (HFs.out bo e).1
   have HO4:=Kj ((HOq.out.kept k03).keep hk4' hFo)
   have HP4:=Kj ((HBB.out.kept k03).keep hk4' (fun e=>(HFs.out p e).2 rfl))
   have HI4:=Kj (XW (JJ HIq.out k03) hk4' (fun e=>hiF ((HGr.out bi (HFs.out bi e).1).elim id (fun e=>by omega))))
   have HV4:=Kj ((HVq.out.kept k03).keep hk4' (fun b hb e=>(HVn.out b hb).2.1 (HFs.out b e).1))
   have hvl:∀ b,vf.ownBlock=some b→b<wq.heap.size:=fun b hb=>HVq.out.lt hb
   have HVL:=Kj hvl
   have HW4:=Kj hW4
   have HS4:=Kj hs4
   have HHV:Hid (∀ b,vh.ownBlock=some b→w3.heap.size≤b):=fun b hb=>(hv4 b hb).1
   have HG4:=Kj hG4
   have K4:Keep Fs wq w4:=Keep.any k03 hk4'
   have hq4:=HW4.out.lv (q,pr',X2) (by simp)
   have HQ4:=Kj hq4
   have hop:bo≠p:=fun e=>hoFc (by rw [e];exact hp)
   have hW4l:∀ b,Fs4 b→b<w4.heap.size:=HW4.out.lt
   have HW4L:=Kj hW4l
   have HG3:Hid (∀ b,Fs4 b→Fs b∨wq.heap.size≤b):=fun b hb=>(HG4.out b hb).imp id (fun e=>by omega)
   clear hq4 hvl hW4 hs4 hv4 hg4 hk4 hl4 hG4 hk4' k2 k3 HO2 HI2 HLv2 HOq HVq HIq HBB HW hW4l
   have hfl:fs.length≤2000000:=by omega
   have hbn:0≤no∧no≤2000000000000:=by have:=HLN.out.2;omega
   go_upto_region 6 with fail
   refine wEp 4 [pV p 0,pV q 0,iV pr',vh] [45,46,47,48] ?_ ?_
   ·refine mE 1 0 ?_
    refine mE 2 7 ?_
    refine cS 3 85 [.pointer (some ⟨q,0,none⟩)] rfl Tryz.func85 rfl (fun a u E D hk=>⟨ll (dD D 1) rfl,yX u _ q X2 (HQ4.out.kept hk)⟩) ?_
    refine mE 4 8 ?_
    exact fz
   intro w5 k5
   simp only [F8]
   refine Yz 107 #[.pointer (some ⟨p,0,none⟩),.pointer (some ⟨bo,0,none⟩),.int .i64 pr',vh] rfl (Jq 107 _ [.tmp 45,.tmp 5,.tmp 47,.tmp 48] _ _ Tryz.func107 (by kernel_rfl) (by kernel_rfl) rfl (by kernel_rfl) _) ?_
   refine (trade_any w5 bo p s (.slice (some ⟨gs,os,none⟩) n c) u0 vf vh last no pr' (Oc.mk o fs left false self 0) H (HO4.out.kept k5) (HV4.out.kept k5) (HP4.out.kept k5) (HS4.out.kept k5) hop (fun b hb=>⟨(HVn.out b hb).2.2,fun e=>(HVn.out b hb).2.1 (by rw [e];exact hp)⟩) (fun b hb=>⟨fun e=>by have:=HHV.out b hb;omega,fun e=>by have:=HHV.out b hb;omega,fun e=>by have:=HHV.out b hb;have:=HVL.out b e;omega⟩) HRI.out.pos HRI.out.sum (by simp only;omega) hfl hbn.1 hbn.2).mono ?_
   rintro r w6 ⟨vg,rfl,hO6,hV6,hP6,hk6,hv6⟩
   refine ⟨_,rfl,?_⟩
   simp only [Act.put,sA,sS,sZ]
   refine Kx ?_
   have z5:=k5.size
   have z6:=hk6.size
   have hSn:∀ b,Fs4 b→¬ (b=bo∨b=p∨vf.ownBlock=some b):=fun b hb e=>by
    rcases e with e | e | e
    ·rcases HG3.out b hb with h | h
     ·exact hoFc (by rw [← e];exact (HFs.out b h).1)
     omega
    ·rcases HG3.out b hb with h | h
     ·exact (HFs.out b h).2 e
     omega
    rcases HG3.out b hb with h | h
    ·exact (HVn.out b e).2.1 (HFs.out b h).1
    have:=HVL.out b e;omega
   have hW6:=(HW4.out.kept k5).keep hk6 hSn
   have K6:Keep (fun b=>Fs b∨b=bo∨b=p∨vf.ownBlock=some b) wq w6:=((Keep.mono (T:=fun b=>Fs b∨b=bo∨b=p∨vf.ownBlock=some b) K4 (fun _ _ e=>.inl e)).kept k5).trans hk6 (fun b _ e=>.inr e)
   obtain ⟨F6,hb6,hg6,hi6⟩:=HJ.out w6 _ _ _ _ _ _ K6 (fun b hb e=>by
    rcases e with e | e | e | e
    ·exact .inl e
    ·exact absurd (by rw [← e];exact hb) hoFc
    ·exact .inr e
    exact absurd hb (HVn.out b e).2.1) hP6 ⟨_,_,rfl,hW6⟩ (fun b hb=>HG3.out b hb)
   rw [Bok.to_to hs,WX,Wy,ER.out] at hb6
   have HB6:=Kj hb6
   have HI6:=Kj hi6
   have HO6:=Kj hO6
   have HV6:=Kj hV6
   have hoF6:¬ F6 bo:=fun e=>((hi6 bo).1 e).elim hoFc (fun e=>hSn bo e (.inl rfl))
   have HVG:Hid (∀ b,vg.ownBlock=some b→vf.ownBlock=some b∨w5.heap.size≤b):=hv6
   have HVGL:Hid (∀ b,vg.ownBlock=some b→b<w6.heap.size):=fun b hb=>hV6.lt hb
   have hgo:∀ b,vg.ownBlock=some b→b≠bo:=fun b hb e=>by
    rcases HVG.out b hb with h | h
    ·exact (HVn.out b h).2.2 e
    omega
   have HGO:=Kj hgo
   clear hW6 hO6 hV6 hP6 hk6 hv6 hb6 hg6 hi6 K4 k5 HO4 HV4 HP4 HS4 HQ4 HW4 HJ hSn hgo
   go_upto_region 7 with fail
   refine wEp 2 [bV ow,pV bo 13] [50,51] ?_ ?_
   ·refine mE 1 9 ?_
    refine fE 2 5 58 5 13 0 ?_
    exact fz
   intro w7 k7
   simp only [F8]
   refine Zz 4 bo 13 58 _ (.bool ow) _ _ rfl rfl (by kernel_rfl) (by kernel_rfl) (by kernel_rfl) rfl rfl (HO6.out.kept k7) (by rw [Oc.len15];omega) ?_
   intro w8 hO8 hk8 hs8
   simp only [Act.put]
   refine Kx ?_
   rw [Oc.set_self] at hO8
   have z7:=k7.size
   have z8:=hk8.size
   have HO8:=Kj hO8
   have HB8:=Kj ((HB6.out.kept k7).keep hk8 (fun b hb e=>hoF6 (by rw [← e];exact hb)))
   have HV8:=Kj ((HV6.out.kept k7).keep hk8 (fun b hb e=>HGO.out b hb e))
   have K8:Keep (fun b=>Fs b∨b=bo∨b=p∨vf.ownBlock=some b) wq w8:=(K6.kept k7).trans hk8 (fun b _ e=>.inr (.inl e))
   clear hO8 hk8 hs8 k7 HO6 HB6 HV6 K6
   have hRl:R.length≤64:=by have:=HSr.out.ok.len;simp at this;omega
   have HRL:=Kj hRl
   clear hRl
   go_upto_region 8 with fail
   refine wEp 1 [pV p (Qz s)] [52] ?_ ?_
   ·refine mE 1 6 ?_
    exact fz
   intro w9 k9
   simp only [F8]
   refine Yz 80 #[.pointer (some ⟨p,Qz s,none⟩),.int .i64 0] rfl (Jq 80 _ [.tmp 52,.const (.int .i64 0)] _ _ Tryz.func80 (by kernel_rfl) (by kernel_rfl) rfl (by kernel_rfl) _) ?_
   refine (drop_if_any w9 F6 p _ s [] R (pr',X2) 0 (HB8.out.kept k9) hs (by rw [Bok.to_sd hs];rfl) rfl (by have:=HRL.out;simp;omega) (by have:=HRI.out.few;simp only at this ⊢;omega)).mono ?_
   rintro r w10 ⟨F10,rfl,hb10,hg10,hk10,hi10⟩
   refine ⟨_,rfl,?_⟩
   simp only [Act.put,sA,sS,sZ]
   refine Kx ?_
   rw [Bok.to_to hs] at hb10
   have z9:=k9.size
   have z10:=hk10.size
   have HO10:=Kj ((HO8.out.kept k9).keep hk10 hoF6)
   have hVF6:∀ b,vg.ownBlock=some b→¬ F6 b:=fun b hb e=>by
    rcases (HI6.out b).1 e with h | h
    ·rcases HVG.out b hb with h' | h'
     ·exact (HVn.out b h').2.1 h
     have:=HLTF.out b h;omega
    rcases HVG.out b hb with h' | h'
    ·rcases HG3.out b h with h2 | h2
     ·exact (HVn.out b h').2.1 (HFs.out b h2).1
     have:=HVL.out b h';omega
    have:=HW4L.out b h;omega
   have HV10:=Kj ((HV8.out.kept k9).keep hk10 (fun b hb e=>hVF6 b hb e))
   have HVN10:Hid (∀ b,vg.ownBlock=some b→w1.heap.size≤b∧¬ F10 b∧b≠bo):=fun b hb=>by
    refine ⟨?_,fun e=>?_,HGO.out b hb⟩
    ·rcases HVG.out b hb with h | h
     ·exact (HVn.out b h).1
     omega
    rcases hg10 b e with h | h
    ·exact hVF6 b hb h
    have:=HVGL.out b hb;omega
   have hF6:∀ b,F6 b→F b∨w1.heap.size≤b:=fun b hb=>by
    rcases (HI6.out b).1 hb with h | h
    ·exact HGr.out b h
    rcases HG3.out b h with h2 | h2
    ·exact HGr.out b (HFs.out b h2).1
    exact .inr (by omega)
   have HG10:Hid (Grow w1 F F10):=fun b hb=>by
    rcases hg10 b hb with h | h
    ·exact hF6 b h
    exact .inr (by omega)
   have K10:Keep (fun b=>F b∨b=bo) w1 w10:=by
    refine (Keep.trans kwq K8 (fun b hb e=>?_)).kept k9 |>.trans hk10 (fun b hb e=>?_)
    ·rcases e with e | e | e | e
     ·exact (HGr.out b (HFs.out b e).1).elim .inl (fun e=>by omega)
     ·exact .inr e
     ·rw [e];exact .inl hpF
     have:=(HVn.out b e).1;omega
    exact (hF6 b e).elim .inl (fun e=>by omega)
   have HB10:=Kj hb10
   have HM10:Hid (B.matched o=⟨(fs++fillsOf o pr' no left H)++(if ow=true then Mt.mk [] (left-QJ H) true (Vx [] R (pr',X2)) else ZY o (no+H.length) (left-QJ H) (Vx [] R (pr',X2))).f,(if ow=true then Mt.mk [] (left-QJ H) true (Vx [] R (pr',X2)) else ZY o (no+H.length) (left-QJ H) (Vx [] R (pr',X2))).left,(if ow=true then Mt.mk [] (left-QJ H) true (Vx [] R (pr',X2)) else ZY o (no+H.length) (left-QJ H) (Vx [] R (pr',X2))).self,(if ow=true then Mt.mk [] (left-QJ H) true (Vx [] R (pr',X2)) else ZY o (no+H.length) (left-QJ H) (Vx [] R (pr',X2))).L⟩):=by
    show _=_
    rw [HM.out]
    simp only [Bool.false_eq_true,if_false]
    rw [HRD.out]
    unfold roundM
    simp only
    rw [HTT.out]
    simp only [List.append_assoc]
   have HS10:=Kj HRI.out.sid
   have HLN10:Hid (VY last (fillsOf o pr' no left H)=VY B.last (fs++fillsOf o pr' no left H)∧no+(H.length:Int)=B.no+((fs++fillsOf o pr' no left H).length:Nat)):=by
    refine ⟨by rw [lastOf_append,← HLN.out.1],?_⟩
    rw [List.length_append,jy,HLN.out.2]
    omega
   have hlf10:0≤left-QJ H∧(((fs++fillsOf o pr' no left H).length:Nat):Int)+(left-QJ H)≤o.qty:=by
    have h1:=HRI.out.sum
    have h2:=HRI.out.len
    rw [List.length_append,jy]
    simp only at h1 h2
    omega
   have HLF10:=Kj hlf10
   have HME:Hid (mOut bo w10<mOut bo wr):=by
    show _<_
    rw [HMO.out,mOut_is HO10.out]
    have h1:=HRI.out.prog
    have h2:=HRI.out.sum
    simp only at h1 h2
    show 2*(left-QJ H).toNat+(if ow=true then 0 else 1)<2*left.toNat+(if self=true then 0 else 1)
    have e0:(if self=true then (0:Nat) else 1)=1:=by rw [HSF.out];rfl
    rw [e0]
    rcases h1 with h1 | h1
    ·rw [if_pos h1]
     have h3:=HRI.out.len
     simp only at h3
     omega
    split <;> omega
   clear hb10 hg10 hk10 hi10 k9 HO8 HB8 HV8 K8 hVF6 hF6 hlf10 HM HRD HRI HTT HGD HLN
   go_wp2
   exact ⟨⟨_,_,_,left-QJ H,ow,_,F10,vg,HB10.out,HO10.out,HV10.out,HVN10.out,HG10.out,K10,HS10.out,HLN10.out,HLF10.out,HM10.out⟩,HME.out⟩
 have HFIN:Hid (B.matched o=⟨fs,left,self,L⟩):=by
  show _=_
  rw [HM.out]
  cases self with
  | true=>simp
  | false=>rw [if_neg (by simp),match_zero (by omega)];simp
 clear HM
 go_upto_region 3 with fail
 refine wE 13 [pV bo 10,iV ((Oc.mk o fs left false self 0).left),bV false,bV false,undef,undef,undef,bV false,bV false,undef,undef,undef,bV false] [17,18,19,20,21,22,23,24,25,26,27,28,29] ?_ ?_
 ·refine fE 1 5 58 2 10 0 ?_
  refine sW 2 rfl (fun a u E D hk=>QX _ Tryz.underlying3 _ _ _ rfl (dD D 0) (by rw [(HOr.out.kept hk).cell];rfl)) ?_
  refine aS 3 rfl (fun a u E D hk=>XX rfl (dD D 1) rfl) (Ku (by omega)) ?_
  refine mD 4 19 2 ?_
  refine kS 5 3 ?_
  refine kS 6 3 ?_
  refine kS 7 3 ?_
  refine pF 8 20 3 ?_
  refine mD 9 24 7 ?_
  refine kS 10 8 ?_
  refine kS 11 8 ?_
  refine kS 12 8 ?_
  refine pF 13 25 8 ?_
  exact fz
 intro wq kq
 simp only [F8]
 have kwq:=hkr.kept kq
 have HB4q:=Kj (HB4.out.keep kwq (fun e=>e.elim h4F (fun e=>h4o e)))
 have HOq:=Kj (HOr.out.kept kq)
 have HBq:=Kj (HBr.out.kept kq)
 have HVq:=Kj (HVr.out.kept kq)
 go_upto_region 9 with fail
 refine wEp 1 [(Oc.mk o fs left false self 0).v vf] [54] ?_ ?_
 ·refine sE 1 5 bo 0 ((Oc.mk o fs left false self 0).cells vf) Tryz.underlying58 (fun u hk=>JW (HOq.out.kept hk)) (by rw [Oc.len15];exact szC) ?_
  exact fz
 intro wy ky
 simp only [F8]
 refine Qj 58 b4 58 (Xq.cells (.slice none 0 0)) ((Oc.mk o fs left false self 0).cells vf) _ _ rfl rfl (by kernel_rfl) (by kernel_rfl) (HB4q.out.kept ky) (by rw [Oc.len15];exact szC) (by rw [Oc.len15,Oc.len15]) (Oc.one _ _ (Yq HVq.out)) ?_
 intro wx hBx hkx hsx
 simp only [Act.put]
 refine Kx ?_
 go_wp2
 refine bodyPost_ret (XZ (p:=4) rfl _ _ b4 _ ((Oc.mk o fs left false self 0).cells vf) rfl hBx Tryz.underlying58 (by rw [Oc.len15];exact szC)) rfl ?_
 rw [HFIN.out]
 unfold MatchIn
 rw [HSE.out]
 have hx4:¬ Fc b4:=fun e=>(HGr.out b4 e).elim h4F (fun e=>by omega)
 have hv4:∀ b,vf.ownBlock=some b→b≠b4:=fun b hb e=>by have:=(HVn.out b hb).1;omega
 have zq:=kq.size
 have zy:=ky.size
 have hlast:=HLN.out
 refine ⟨Fc,vf,rfl,?_,?_,fun b hb=>⟨by have:=(HVn.out b hb).1;omega,(HVn.out b hb).2.1⟩,fun b hb=>(HGr.out b hb).imp id (fun h=>by omega),?_⟩
 ·have h1:=((HBq.out.kept ky).keep hkx (fun b hb e=>hx4 (by rw [← e];exact hb)))
  rw [hlast.1,hlast.2] at h1
  exact h1
 ·exact (HVq.out.kept ky).keep hkx (fun b hb e=>hv4 b hb e)
 exact ((Keep.any k1 kwq).mono (fun b hb e=>e.elim id (fun e=>by omega))).kept ky |>.trans hkx (fun b hb e=>by omega)
end Go.Proofs.YtlbeibapbkccfaaGreat
