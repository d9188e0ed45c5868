/-
 Laws and contracts that the walks rest on, part 3. No condition.
-/
import Derived.Test.YtklohceombpleaaGreatQW02
set_option linter.unusedVariables false
set_option maxRecDepth 100000
set_option maxHeartbeats 3200000
namespace Go.Proofs.YtklohceombpleaaGreat
open Go.RowKit
theorem exec_ovl {a:Act} {o:Oper} {u:World} (x y:Operand) (ts:Array TypeId) (N j l1 c1 I D l2 c2:Nat) (T1 T2:TypeId) (J H:List Value) (a2:o.op=.call { callee:=.value (.func 130),args:=#[x,y],argTypes:=ts }) (hx:a.eval x=.slice (some ⟨N,j,none⟩) l1 c1) (hy:a.eval y=.slice (some ⟨I,D,none⟩) l2 c2)
  (h1:Blk u N T1 J) (h2:Blk u I T2 H) (a1:N≠I) (h0:H.length≠0):(execOp a.eval o).run Tryz.prog u=.ok (.value (.bool false)) u:=by
 have hz:∀ w,(Go.sizeOf 117).run Tryz.prog w=.ok 1 w:=by
  intro w
  obtain ⟨z,hz,hz2,_⟩:=slQ.info
  obtain ⟨i0,hi,hz0,U,hzb⟩:=info_parts hz
  simp [Go.sizeOf,typeInfo,hi,U]
 have O:(callFunc 130 #[.slice (some ⟨N,j,none⟩) l1 c1,.slice (some ⟨I,D,none⟩) l2 c2]).run Tryz.prog u=.ok (.value (.bool false)) u:=by
  rw [run_callFunc_extern Tryz.func130 (by kernel_rfl) (by kernel_rfl) (by kernel_rfl) (e:=Extern.SlicesOverlaps.overlaps #[88,88] #[4]) (by kernel_rfl),
   Lib.run_overlaps_apart u 88 4 117 slQ.und 1 hz ⟨N,j,none⟩ ⟨I,D,none⟩ l1 c1 l2 c2 a1 T1 T2 J.length H.length h1.shape h2.shape h0 (h1.frozen _) (h1.frozen _)]
  rfl
 have e:a.eval (.func 130)=.func (.func 130) #[] #[]:=rfl
 unfold execOp
 simp only [a2,resolve,invoke,e,List.map_toArray,List.map_cons,List.map_nil,hx,hy,Sem.run_bind]
 simp [Deferred.ofValue,O]
def insP (Z:Zs) (i:Nat) (q:Nat):List Value:=(ptrs Z).take i++[.pointer (some ⟨q,0,none⟩)]++(ptrs Z).drop i
def InsIn (w:World) (v:Value) (n:Nat) (Z:Zs) (i q:Nat) (r:Ending) (w':World):Prop:=∃ v',r=.returned v'∧Sl w' 117 1 v' (n+1) (insP Z i q)∧Keep (fun b=>v.ownBlock=some b) w w'∧∀ b,v'.ownBlock=some b→v.ownBlock=some b∨w.heap.size≤b
theorem linsert_end (w:World) (v:Value) (n:Nat) (Z:Zs) (j q:Nat) (hS:Sl w 117 1 v n (ptrs Z)) (hn:n≤1000) (h1:Blk w j 117 [.pointer (some ⟨q,0,none⟩)]) :
  Calls Tryz.prog 121 #[v,.int .i64 (n:Int),.slice (some ⟨j,0,none⟩) 1 1] w (InsIn w v n Z n q):=by
 obtain ⟨vx,a5,_,_⟩:=jX slQ v n n (Nat.le_refl _) _ w hS
 have U:=Kj a5
 have HS:=Kj hS
 have H1:=Kj h1
 have HX:Hid (∀ u,Kept w u→Sl u 117 1 (.slice (some ⟨j,0,none⟩) 1 1) 1 [.pointer (some ⟨q,0,none⟩)]):=fun u k=>⟨rfl,_,1,rfl,Nat.le_refl _,by decide,fun h=>(by cases h),fun ad I=>(by
  injection I with I
  subst I
  exact ⟨j,0,_,rfl,h1.kept k,by simp,rfl⟩)⟩
 clear a5 hS h1
 go_enter Tryz.func121,Tryz.ntmps121
 go_upto_region 1 with fail
 refine wA 3 [v,iV (n:Int),vx] [10,11,12] (nS 2 (sV rfl (fun a u E D hk=>ZW slQ _ _ v vx _ rfl (dD D 0) (dD D 1) (U.out u))) nZ) ?_
 intro wa ka
 simp only [F8]
 have a1:=Kj (HS.out.kept ka)
 go_upto_region 2 with fail
 refine wA 3 [.slice (some ⟨j,0,none⟩) 1 1,iV (1:Int),iV (1:Int)] [13,14,7] (nS 1 (sV rfl (fun a u E D hk=>ZV _ _ _ slQ.und (some ⟨j,0,none⟩) 1 1 rfl (dD D 0))) nZ) ?_
 intro wb kb
 simp only [F8]
 have N:=Kj (a1.out.kept kb)
 have a4:=ka.trans kb
 clear ka kb a1 U
 go_upto_region 5 with fail
 refine wA 3 [v,iV (n:Int),iV (n:Int)] [18,19,8] (nS 1 (sV rfl (fun a u E D hk=>Jx _ slQ _ _ _ _ rfl (dD D 0) N.out)) nZ) ?_
 intro wc kc
 simp only [F8]
 have H:=a4.trans kc
 have a8:=Kj (HS.out.kept H)
 clear a4 kc N
 go_upto_region 6 with fail
 refine wA 3 [iV (n:Int),iV (n:Int),bV true] [20,21,22] (nS 2 (aV rfl (fun a u E D hk=>JY rfl (dD D 0) (dD D 1)) (Ky rfl)) nZ) ?_
 intro wd kd
 simp only [F8]
 have a3:=H.trans kd
 have a9:=Kj (HS.out.kept a3)
 clear H kd a8
 go_upto_region 7 with fail
 refine wAp 2 [v,.slice (some ⟨j,0,none⟩) 1 1] [23,24] nZ ?_
 intro we ke
 simp only [F8]
 have J:=a3.trans ke
 obtain ⟨v4,w4,a7,a2,O,a6⟩:=QQ slQ 88 we v (.slice (some ⟨j,0,none⟩) 1 1) n 1 _ _ (a9.out.kept ke) (HX.out _ J) (by intro u hu;simp at hu;subst hu;rfl) (by unfold maxLen;omega) (by omega)
 refine Vj v4 w4 rfl (QV slQ (.tmp 23) (.tmp 24) v (.slice (some ⟨j,0,none⟩) 1 1) rfl (by kernel_rfl) (by kernel_rfl) v4 w4 a7) ?_
 refine aT (v4) ?_
 simp only [Act.put,sA,sS,sZ]
 refine Kx ?_
 have zz:=J.size
 have HR:Hid (InsIn w v n Z n q (.returned v4) w4):=by
  refine ⟨v4,rfl,?_,(Keep.mono (T:=fun b=>v.ownBlock=some b) J (fun _ _ h=>h.elim)).trans O (fun _ _ h=>h),fun b hb=>(a6 b hb).imp id (fun h=>by omega)⟩
  have hl:(ptrs Z).length=n:=by have:=HS.out.len;omega
  unfold insP
  rw [List.take_of_length_le (by omega),List.drop_of_length_le (by omega),List.append_nil]
  exact a2
 clear a2 O a6
 go_wp2
 go_ret
 exact HR.out
theorem linsert_grow (w:World) (v:Value) (n i:Nat) (Z:Zs) (g1 q:Nat) (hS:Sl w 117 1 v n (ptrs Z)) (hn:n≤1000) (hi:i<n) (h1:Blk w g1 117 [.pointer (some ⟨q,0,none⟩)]) (aj:∀ b,v.ownBlock=some b→b≠g1) (hc:∀ A c,v=.slice A n c→c<n+1) :
  Calls Tryz.prog 121 #[v,.int .i64 (i:Int),.slice (some ⟨g1,0,none⟩) 1 1] w (InsIn w v n Z i q):=by
 have aq:=hS.some_ (by omega:0<n)
 obtain ⟨g,off,c,rfl⟩:=aq
 obtain ⟨hnc,au,_⟩:=hS.cap
 have hcm':c≤9223372036854775807:=by unfold maxLen at au;omega
 have hgg:g≠g1:=fun e=>aj g rfl e
 have hroom:=hc _ _ rfl
 have HS:=Kj hS
 clear hc
 have H1:=Kj h1
 have hl:(ptrs Z).length=n:=by have:=hS.len;omega
 clear hS h1 aj
 go_enter Tryz.func121,Tryz.ntmps121
 go_upto_region 1 with fail
 refine wA 3 [.slice (some ⟨g,off,none⟩) n c,iV (i:Int),.slice (some ⟨g,off+i*1,none⟩) (n-i) (c-i)] [10,11,12] (nS 2 (sV rfl (fun a u E D hk=>ZW slQ _ _ _ _ _ rfl (dD D 0) (dD D 1) (run_l slQ g off n c i (by omega) (by omega) u))) nZ) ?_
 intro wa ka
 simp only [F8]
 go_upto_region 2 with fail
 refine wA 3 [.slice (some ⟨g1,0,none⟩) 1 1,iV (1:Int),iV (1:Int)] [13,14,7] (nS 1 (sV rfl (fun a u E D hk=>ZV _ _ _ slQ.und (some ⟨g1,0,none⟩) 1 1 rfl (dD D 0))) nZ) ?_
 intro wb kb
 simp only [F8]
 have ab:=ka.trans kb
 clear ka kb
 go_upto_region 5 with fail
 refine wA 3 [.slice (some ⟨g,off,none⟩) n c,iV (n:Int),iV (n:Int)] [18,19,8] (nS 1 (sV rfl (fun a u E D hk=>ZV _ _ _ slQ.und (some ⟨g,off,none⟩) n c rfl (dD D 0))) nZ) ?_
 intro wc kc
 simp only [F8]
 have af:=ab.trans kc
 clear ab kc
 go_upto_region 6 with fail
 refine wA 3 [iV (i:Int),iV (n:Int),bV false] [20,21,22] (nS 2 (aV rfl (fun a u E D hk=>JY rfl (dD D 0) (dD D 1)) (Ku (by omega))) nZ) ?_
 intro wd kd
 simp only [F8]
 have ad:=af.trans kd
 clear af kd
 go_upto_region 8 with fail
 refine wA 6 [iV (n:Int),iV 1,iV (((n:Int):Int)+(1:Int)),.slice (some ⟨g,off,none⟩) n c,iV (c:Int),bV true] [26,27,28,29,30,31] (nS 2 (sV rfl (fun a u E D hk=>YQ (p:=((n:Int))) (q:=(1)) (((n:Int):Int)+(1:Int)) rfl (dD D 0) (dD D 1) rfl (by omega) (by omega))) (nS 4 (sV rfl (fun a u E D hk=>JQX _ (some ⟨g,off,none⟩) n c slQ.und rfl (dD D 3))) (nS 5 (aV rfl (fun a u E D hk=>QZ rfl (dD D 2) (dD D 4)) (Ky (by omega))) nZ))) ?_
 intro we ke
 simp only [F8]
 have a9:=ad.trans ke
 clear ad ke
 have ae:=Kj (HS.out.kept a9)
 have ak:=Kj (H1.out.kept a9)
 have hgl:g<w.heap.size:=HS.out.lt rfl
 have a7:(n:Int)+1-(i:Int)=((n+1-i:Nat):Int):=by omega
 go_upto_region 9 with fail
 refine wAp 8 [.slice (some ⟨g,off,none⟩) n c,iV (i:Int),.slice (some ⟨g,off,none⟩) i c,iV (n:Int),iV 1,iV (((n:Int):Int)+(1:Int)),iV (i:Int),iV ((n+1-i:Nat):Int)] [32,33,34,35,36,37,38,39] (nS 2 (sV rfl (fun a u E D hk=>WV slQ _ _ _ _ _ rfl (dD D 0) (dD D 1) (run_h slQ (some ⟨g,off,none⟩) n c i (by omega) (fun h=>by cases h) u))) (nS 5 (sV rfl (fun a u E D hk=>YQ (p:=((n:Int))) (q:=(1)) (((n:Int):Int)+(1:Int)) rfl (dD D 3) (dD D 4) rfl (by omega) (by omega))) (nS 7 (sV rfl (fun a u E D hk=>Zz ((n+1-i:Nat):Int) (p:=(n:Int)+1) (q:=(i:Int)) rfl (dD D 5) (dD D 6) a7 (by omega) (by omega))) nZ))) ?_
 intro wf kf
 simp only [F8]
 have aa:=a9.trans kf
 obtain ⟨H,N,wg,zs,a3,a5,ao,a8,hgn⟩:=zZ slQ Tryz.underlying3 88 wf (some ⟨g,off,none⟩) i c (n+1-i) _ ((ae.out.kept kf).shrink (m:=i) (by omega)) (by omega) (by omega) (by unfold maxLen;omega) (by omega) (by omega)
 have a2:∀ ty,(Builtin.append_ #[88,3] ty #[.slice (some ⟨g,off,none⟩) i c,.int .i64 ((n+1-i:Nat):Int)]).run Tryz.prog wf=.ok (.slice (some ⟨H,0,none⟩) (n+1) N) wg:=fun ty=>by rw [show i+(n+1-i)=n+1 by omega] at a3;exact a3
 refine Vj _ wg rfl (exec_appZ slQ 3 (.tmp 34) (.tmp 39) _ _ rfl (by kernel_rfl) (by kernel_rfl) _ wg (a2 _)) ?_
 refine aT (.slice (some ⟨H,0,none⟩) (n+1) N) ?_
 simp only [Act.put,sA,sS,sZ]
 refine Kx ?_
 rw [show i+(n+1-i)=n+1 by omega] at a5
 have a6:=aa.trans a8
 have a4:=Kj a5
 have ac:=Kj (H1.out.kept a6)
 have ah:=Kj (HS.out.kept a6)
 have zf:=aa.size
 have zg:=a8.size
 have hcn:=a4.out.cap.1
 have hzl1:zs.length=n+1-i:=by omega
 have hgn1:H≠g1:=fun e=>by have:=(H1.out.lt);omega
 have ai:H≠g:=by omega
 clear a5 a3 a2 a8 ak ae kf ao
 have ar:((ptrs Z).take (i*1)).length=i:=by rw [List.length_take];omega
 go_upto_region 10 with fail
 refine wAp 4 [.slice (some ⟨H,0,none⟩) (n+1) N,iV (i:Int),.slice (some ⟨H,0+i*1,none⟩) (n+1-i) (N-i),.slice (some ⟨g1,0,none⟩) 1 1] [41,42,43,44] (nS 2 (sV rfl (fun a u E D hk=>ZW slQ _ _ _ _ _ rfl (dD D 0) (dD D 1) (run_l slQ H 0 (n+1) N i (by omega) (by omega) u))) nZ) ?_
 intro wh kh
 simp only [F8]
 have I:=run_copy_sl slQ 3 H 0 (n+1) N i (n+1-i) (N-i) _ [.pointer (some ⟨q,0,none⟩)] wh (a4.out.kept kh) g1 0 1 1 (JX (ac.out.kept kh)) (by simp [Nat.min_def];omega) (by simp;omega) (by intro u hu;simp at hu;subst hu;rfl)
 rw [show 0+i=0+i*1 by omega] at I
 obtain ⟨O,j,J⟩:=I
 refine Vj (goInt 1) _ rfl (exec_cpyS (.tmp 43) (.tmp 44) _ _ rfl (by kernel_rfl) (by kernel_rfl) _ _ O) ?_
 simp only [Act.put,sA,sS,sZ]
 refine Kx ?_
 generalize wh.setCells H (0+i*1) [.pointer (some ⟨q,0,none⟩)]=wi at j J ⊢
 have e1:((ptrs Z).take (i*1)++zs).take i=(ptrs Z).take i:=by rw [List.take_append_of_le_length (by omega),List.take_of_length_le (by omega),Nat.mul_one]
 have e2:((ptrs Z).take (i*1)++zs).drop (i+[Value.pointer (some ⟨q,0,none⟩)].length)=zs.drop 1:=by
  rw [List.drop_append,List.drop_of_length_le (by simp;omega),List.nil_append,ar]
  congr 1
  simp
 rw [e1,e2] at j
 have an:=Kj j
 have ag:=Kj ((ah.out.kept kh).keep J (fun b hb e=>by simp [Value.ownBlock] at hb;omega))
 have K1:Keep (·=H) wg wi:=Keep.any kh J
 have hgi:H≠g:=ai
 clear j J O kh a4 ac ah e1 e2
 obtain ⟨dd,a1⟩:∃ dd,(ptrs Z).drop i=dd:=⟨_,rfl⟩
 have al:dd.length=n-i:=by rw [← a1,List.length_drop];omega
 have am:Hid (∀ u,Sl u 117 1 (.slice (some ⟨g,off,none⟩) n c) n (ptrs Z)→u.rangeAt g (off+i*1) dd):=fun u h=>by
  obtain ⟨_,A,c',e',_,_,_,h4⟩:=h
  injection e' with e1 e2 e3
  subst e1 e3
  obtain ⟨g',off',cur,e,hB,h5,h6⟩:=h4 _ rfl
  injection e with e1 e2
  subst e1 e2
  have:=xz (jJ hB h6) i
  rw [a1] at this
  rw [Nat.mul_one]
  exact this
 go_upto_region 11 with fail
 refine wHp 8 [.slice (some ⟨H,0,none⟩) (n+1) N,iV (i:Int),iV 1,iV ((i+1:Nat):Int),.slice (some ⟨H,0+(i+1)*1,none⟩) (n+1-(i+1)) (N-(i+1)),.slice (some ⟨g,off,none⟩) n c,iV (i:Int),.slice (some ⟨g,off+i*1,none⟩) (n-i) (c-i)] [46,47,48,49,50,51,52,53] (nS 3 (sV rfl (fun a u E D hk=>YQ ((i+1:Nat):Int) (p:=(i:Int)) (q:=1) rfl (dD D 1) (dD D 2) (by omega) (by omega) (by omega))) (nS 4 (sV rfl (fun a u E D hk=>ZW slQ _ _ _ _ _ rfl (dD D 0) (dD D 3) (run_l slQ H 0 (n+1) N (i+1) (by omega) (by omega) u))) (nS 7 (sV rfl (fun a u E D hk=>ZW slQ _ _ _ _ _ rfl (dD D 5) (dD D 6) (run_l slQ g off n c i (by omega) (by omega) u))) nZ))) ?_
 intro wj kj
 simp only [F8]
 have I:=run_copy_sl slQ 3 H 0 (n+1) N (i+1) (n+1-(i+1)) (N-(i+1)) _ dd wj (an.out.kept kj) g (off+i*1) (n-i) (c-i) (am.out wj (ag.out.kept kj)) (by rw [al];simp only [Nat.min_def];split <;> omega) (by omega) (fun u hu=>xV Z u (by rw [← a1] at hu;exact List.mem_of_mem_drop hu))
 rw [show 0+(i+1)=0+(i+1)*1 by omega] at I
 obtain ⟨O,j,J⟩:=I
 refine Vj (goInt dd.length) _ rfl (exec_cpyS (.tmp 50) (.tmp 53) _ _ rfl (by kernel_rfl) (by kernel_rfl) _ _ O) ?_
 simp only [Act.put,sA,sS,sZ]
 refine Kx ?_
 generalize wj.setCells H (0+(i+1)*1) dd=wk at j J ⊢
 have U:((ptrs Z).take i).length=i:=by rw [List.length_take];omega
 have HR:Hid (InsIn w (.slice (some ⟨g,off,none⟩) n c) n Z i q (.returned (.slice (some ⟨H,0,none⟩) (n+1) N)) wk):=by
  refine ⟨_,rfl,?_,?_,fun b hb=>.inr (by simp [Value.ownBlock] at hb;omega)⟩
  ·have e3:((ptrs Z).take i++[Value.pointer (some ⟨q,0,none⟩)]++zs.drop 1).take (i+1)=(ptrs Z).take i++[Value.pointer (some ⟨q,0,none⟩)]:=by
    rw [List.take_append_of_le_length (by simp only [List.length_append,U,List.length_cons,List.length_nil];omega),List.take_of_length_le (by simp only [List.length_append,U,List.length_cons,List.length_nil];omega)]
   have e4:((ptrs Z).take i++[Value.pointer (some ⟨q,0,none⟩)]++zs.drop 1).drop (i+1+dd.length)=[]:=by
    rw [List.drop_of_length_le]
    simp only [List.length_append,U,List.length_drop,List.length_cons,List.length_nil]
    omega
   rw [e3,e4,List.append_nil] at j
   unfold insP
   rw [a1]
   exact j
  have k2:Keep (·=H) wg wk:=(K1.kept kj).trans J (fun _ _ h=>h)
  exact (Keep.mono (T:=fun b=>(Value.slice (some ⟨g,off,none⟩) n c).ownBlock=some b) a6 (fun _ _ h=>h.elim)).trans k2 (fun b hb h=>by omega)
 clear j J O
 go_wp2
 go_ret
 exact HR.out
theorem linsert_room (w:World) (v:Value) (n i:Nat) (Z:Zs) (O q:Nat) (hS:Sl w 117 1 v n (ptrs Z)) (hn:n≤1000) (hi:i<n) (h1:Blk w O 117 [.pointer (some ⟨q,0,none⟩)]) (ao:∀ b,v.ownBlock=some b→b≠O) (hc:∀ A c,v=.slice A n c→n+1≤c) :
  Calls Tryz.prog 121 #[v,.int .i64 (i:Int),.slice (some ⟨O,0,none⟩) 1 1] w (InsIn w v n Z i q):=by
 have az:=hS.some_ (by omega:0<n)
 obtain ⟨g,off,c,rfl⟩:=az
 obtain ⟨hnc,aD,_⟩:=hS.cap
 have hcm':c≤9223372036854775807:=by unfold maxLen at aD;omega
 have ad:g≠O:=fun e=>ao g rfl e
 have a4:=hc _ _ rfl
 have HS:=Kj hS
 clear hc
 have H1:=Kj h1
 have hl:(ptrs Z).length=n:=by have:=hS.len;omega
 clear hS h1 ao
 go_enter Tryz.func121,Tryz.ntmps121
 go_upto_region 1 with fail
 refine wA 3 [.slice (some ⟨g,off,none⟩) n c,iV (i:Int),.slice (some ⟨g,off+i*1,none⟩) (n-i) (c-i)] [10,11,12] (nS 2 (sV rfl (fun a u E D hk=>ZW slQ _ _ _ _ _ rfl (dD D 0) (dD D 1) (run_l slQ g off n c i (by omega) (by omega) u))) nZ) ?_
 intro wa ka
 simp only [F8]
 go_upto_region 2 with fail
 refine wA 3 [.slice (some ⟨O,0,none⟩) 1 1,iV (1:Int),iV (1:Int)] [13,14,7] (nS 1 (sV rfl (fun a u E D hk=>ZV _ _ _ slQ.und (some ⟨O,0,none⟩) 1 1 rfl (dD D 0))) nZ) ?_
 intro wb kb
 simp only [F8]
 have af:=ka.trans kb
 clear ka kb
 go_upto_region 5 with fail
 refine wA 3 [.slice (some ⟨g,off,none⟩) n c,iV (n:Int),iV (n:Int)] [18,19,8] (nS 1 (sV rfl (fun a u E D hk=>ZV _ _ _ slQ.und (some ⟨g,off,none⟩) n c rfl (dD D 0))) nZ) ?_
 intro wc kc
 simp only [F8]
 have am:=af.trans kc
 clear af kc
 go_upto_region 6 with fail
 refine wA 3 [iV (i:Int),iV (n:Int),bV false] [20,21,22] (nS 2 (aV rfl (fun a u E D hk=>JY rfl (dD D 0) (dD D 1)) (Ku (by omega))) nZ) ?_
 intro wd kd
 simp only [F8]
 have aj:=am.trans kd
 clear am kd
 go_upto_region 8 with fail
 refine wA 6 [iV (n:Int),iV 1,iV (((n:Int):Int)+(1:Int)),.slice (some ⟨g,off,none⟩) n c,iV (c:Int),bV false] [26,27,28,29,30,31] (nS 2 (sV rfl (fun a u E D hk=>YQ (p:=((n:Int))) (q:=(1)) (((n:Int):Int)+(1:Int)) rfl (dD D 0) (dD D 1) rfl (by omega) (by omega))) (nS 4 (sV rfl (fun a u E D hk=>JQX _ (some ⟨g,off,none⟩) n c slQ.und rfl (dD D 3))) (nS 5 (aV rfl (fun a u E D hk=>QZ rfl (dD D 2) (dD D 4)) (Ku (by omega))) nZ))) ?_
 intro we ke
 simp only [F8]
 have a5:=aj.trans ke
 clear aj ke
 have al:=Kj (HS.out.kept a5)
 have av:=Kj (H1.out.kept a5)
 have hgl:g<w.heap.size:=HS.out.lt rfl
 obtain ⟨U,a2,a6,an⟩:=al.out.longer (m:=n+1) a4 (by omega)
 have ar:=Kj a6
 have au:=Kj an
 have ae:∃ T cs,Blk we g T cs∧cs.length≠0:=by
  obtain ⟨_,A,c',e',_,_,_,h4⟩:=a6
  injection e' with e1 e2 e3
  subst e1 e3
  obtain ⟨g',ai,a8,e,hB,h5,h6⟩:=h4 _ rfl
  injection e with e1 e2
  subst e1 e2
  exact ⟨_,a8,hB,by omega⟩
 obtain ⟨TG,cg,a9,ak⟩:=ae
 have aq:=Kj a9
 have a2:U.length=n+1:=by omega
 clear a6 an al a9
 go_upto_region 13 with fail
 refine wAp 5 [.slice (some ⟨g,off,none⟩) n c,iV (n:Int),iV 1,iV ((n+1:Nat):Int),.slice (some ⟨g,off,none⟩) (n+1) c] [56,57,58,59,60] (nS 3 (sV rfl (fun a u E D hk=>YQ ((n+1:Nat):Int) (p:=(n:Int)) (q:=1) rfl (dD D 1) (dD D 2) (by omega) (by omega) (by omega))) (nS 4 (sV rfl (fun a u E D hk=>WV slQ _ _ _ _ _ rfl (dD D 0) (dD D 3) (run_h slQ (some ⟨g,off,none⟩) n c (n+1) (by omega) (fun h=>by cases h) u))) nZ)) ?_
 intro wf kf
 simp only [F8]
 refine aT (.slice (some ⟨g,off,none⟩) (n+1) c) ?_
 simp only [Act.put,List.setIfInBounds_toArray,List.set_cons_zero]
 refine Kx ?_
 have aa:=a5.trans kf
 have a7:=Kj (ar.out.kept kf)
 have ag:=Kj (aq.out.kept kf)
 have ab:=Kj (H1.out.kept aa)
 clear ar aq av kf
 obtain ⟨m,hm⟩:∃ m,n+1=m:=⟨_,rfl⟩
 rw [hm] at a7 a2 ⊢
 go_upto_region 14 with fail
 refine wAp 7 [.slice (some ⟨O,0,none⟩) 1 1,.slice (some ⟨g,off,none⟩) m c,iV (i:Int),iV 1,iV ((i+1:Nat):Int),.slice (some ⟨g,off+(i+1)*1,none⟩) (m-(i+1)) (c-(i+1)),bV false] [61,62,63,64,65,66,67] (nS 4 (sV rfl (fun a u E D hk=>YQ ((i+1:Nat):Int) (p:=(i:Int)) (q:=1) rfl (dD D 2) (dD D 3) (by omega) (by omega) (by omega))) (nS 5 (sV rfl (fun a u E D hk=>ZW slQ _ _ _ _ _ rfl (dD D 1) (dD D 4) (run_l slQ g off m c (i+1) (by omega) (by omega) u))) (nS 6 (sV rfl (fun a u E D hk=>exec_ovl _ _ _ O 0 1 1 g (off+(i+1)*1) (m-(i+1)) (c-(i+1)) _ _ _ _ rfl (dD D 0) (dD D 5) (ab.out.kept hk) (ag.out.kept hk) (fun e=>ad e.symm) ak)) nZ))) ?_
 intro wg kg
 simp only [F8]
 refine UJ (.bool true) rfl (YX _ (.tmp 67) false rfl (by kernel_rfl)) ?_
 simp only [Act.put,sA,sS,sZ]
 refine Kx ?_
 have ac:=aa.trans kg
 have a3:=Kj (a7.out.kept kg)
 have ah:=Kj (H1.out.kept ac)
 clear a7 ag ab kg
 obtain ⟨J,a1⟩:∃ J,(ptrs Z).drop i=J:=⟨_,rfl⟩
 have aw:J.length=n-i:=by rw [← a1,List.length_drop];omega
 have aE:Hid ((U.drop i).take (n-i)=J):=by
  show _=_
  rw [← a1,← au.out,List.drop_take,Nat.mul_one]
 have aB:Hid (U.take i=(ptrs Z).take i):=by
  show _=_
  rw [← au.out,List.take_take,Nat.min_eq_left (by omega)]
 have ax:Hid (∀ u,Sl u 117 1 (.slice (some ⟨g,off,none⟩) m c) m U→u.rangeAt g (off+i*1) J):=fun u h=>by
  obtain ⟨_,A,c',e',_,_,_,h4⟩:=h
  injection e' with e1 e2 e3
  subst e1 e3
  obtain ⟨g',ai,a8,e,hB,h5,h6⟩:=h4 _ rfl
  injection e with e1 e2
  subst e1 e2
  have:=qX (xz (jJ hB h6) i) (n-i)
  rw [aE.out] at this
  rw [Nat.mul_one]
  exact this
 go_upto_region 15 with fail
 refine wHp 8 [.slice (some ⟨g,off,none⟩) m c,iV (i:Int),iV 1,iV ((i+1:Nat):Int),.slice (some ⟨g,off+(i+1)*1,none⟩) (m-(i+1)) (c-(i+1)),.slice (some ⟨g,off,none⟩) m c,iV (i:Int),.slice (some ⟨g,off+i*1,none⟩) (m-i) (c-i)] [69,70,71,72,73,74,75,76] (nS 3 (sV rfl (fun a u E D hk=>YQ ((i+1:Nat):Int) (p:=(i:Int)) (q:=1) rfl (dD D 1) (dD D 2) (by omega) (by omega) (by omega))) (nS 4 (sV rfl (fun a u E D hk=>ZW slQ _ _ _ _ _ rfl (dD D 0) (dD D 3) (run_l slQ g off m c (i+1) (by omega) (by omega) u))) (nS 7 (sV rfl (fun a u E D hk=>ZW slQ _ _ _ _ _ rfl (dD D 5) (dD D 6) (run_l slQ g off m c i (by omega) (by omega) u))) nZ))) ?_
 intro wj kj
 simp only [F8]
 have H:=run_copy_sl slQ 3 g off m c (i+1) (m-(i+1)) (c-(i+1)) _ J wj (a3.out.kept kj) g (off+i*1) (m-i) (c-i) (ax.out wj (a3.out.kept kj)) (by rw [aw];simp only [Nat.min_def];split <;> omega) (by omega) (fun u hu=>xV Z u (by rw [← a1] at hu;exact List.mem_of_mem_drop hu))
 rw [show off+(i+1)=off+(i+1)*1 by omega] at H
 obtain ⟨N,j,I⟩:=H
 refine Vj (goInt J.length) _ rfl (exec_cpyS (.tmp 73) (.tmp 76) _ _ rfl (by kernel_rfl) (by kernel_rfl) _ _ N) ?_
 simp only [Act.put,sA,sS,sZ]
 refine Kx ?_
 generalize wj.setCells g (off+(i+1)*1) J=wk at j I ⊢
 have aA:=Kj j
 have ay:=Kj ((ah.out.kept kj).keep I (fun e=>ad e.symm))
 have K1:Keep (·=g) wg wk:=Keep.any kj I
 clear j I N kj a3 ah
 go_upto_region 16 with fail
 refine wAp 4 [.slice (some ⟨g,off,none⟩) m c,iV (i:Int),.slice (some ⟨g,off+i*1,none⟩) (m-i) (c-i),.slice (some ⟨O,0,none⟩) 1 1] [78,79,80,81] (nS 2 (sV rfl (fun a u E D hk=>ZW slQ _ _ _ _ _ rfl (dD D 0) (dD D 1) (run_l slQ g off m c i (by omega) (by omega) u))) nZ) ?_
 intro wh kh
 simp only [F8]
 have H:=run_copy_sl slQ 3 g off m c i (m-i) (c-i) _ [.pointer (some ⟨q,0,none⟩)] wh (aA.out.kept kh) O 0 1 1 (JX (ay.out.kept kh)) (by simp [Nat.min_def];omega) (by simp;omega) (by intro u hu;simp at hu;subst hu;rfl)
 rw [show off+i=off+i*1 by omega] at H
 obtain ⟨N,j,I⟩:=H
 refine Vj (goInt 1) _ rfl (exec_cpyS (.tmp 80) (.tmp 81) _ _ rfl (by kernel_rfl) (by kernel_rfl) _ _ N) ?_
 simp only [Act.put,sA,sS,sZ]
 refine Kx ?_
 generalize wh.setCells g (off+i*1) [.pointer (some ⟨q,0,none⟩)]=wi at j I ⊢
 have HR:Hid (InsIn w (.slice (some ⟨g,off,none⟩) n c) n Z i q (.returned (.slice (some ⟨g,off,none⟩) m c)) wi):=by
  refine ⟨_,rfl,?_,?_,fun b hb=>.inl hb⟩
  ·have aC:(U.take (i+1)).length=i+1:=by rw [List.length_take];omega
   have e3:(U.take (i+1)++J++U.drop (i+1+J.length)).take i=(ptrs Z).take i:=by
    rw [List.append_assoc,List.take_append_of_le_length (by omega),List.take_take,Nat.min_eq_left (by omega)]
    exact aB.out
   have e4:(U.take (i+1)++J++U.drop (i+1+J.length)).drop (i+[Value.pointer (some ⟨q,0,none⟩)].length)=J:=by
    rw [show U.drop (i+1+J.length)=[] from List.drop_of_length_le (by omega),List.append_nil,List.drop_append,List.drop_of_length_le (by simp;omega),List.nil_append,aC]
    simp
   rw [e3,e4,← hm] at j
   unfold insP
   rw [a1,← hm]
   exact j
  have k2:Keep (·=g) wg wi:=(K1.kept kh).trans I (fun _ _ h=>h)
  exact (Keep.mono (T:=fun b=>(Value.slice (some ⟨g,off,none⟩) n c).ownBlock=some b) ac (fun _ _ h=>h.elim)).trans k2 (fun b hb h=>by subst h;rfl)
 clear j I N
 go_wp2
 go_ret
 exact HR.out
theorem linsert_any (w:World) (v:Value) (n i:Nat) (Z:Zs) (j q:Nat) (H:Sl w 117 1 v n (ptrs Z)) (I:n≤1000) (hi:i≤n) (J:Blk w j 117 [.pointer (some ⟨q,0,none⟩)]) (D:∀ b,v.ownBlock=some b→b≠j) :
  Calls Tryz.prog 121 #[v,.int .i64 (i:Int),.slice (some ⟨j,0,none⟩) 1 1] w (InsIn w v n Z i q):=by
 by_cases h:i=n
 ·subst h
  exact linsert_end w v i Z j q H I J
 obtain ⟨A,c,rfl⟩:=H.slice_
 by_cases hc:n+1≤c
 ·exact linsert_room w _ n i Z j q H I (by omega) J D (fun N O e=>by injection e with _ _ e3;omega)
 exact linsert_grow w _ n i Z j q H I (by omega) J D (fun N O e=>by injection e with _ _ e3;omega)
theorem lessL_at {t i q:Int} {l:Lev} {R:List Lev}:∀ {A:List Lev},(∀ x ∈ A,(ZQ t i q x.2).1=false)→(ZQ t i q l.2).1=true→VZ t i q (A++l::R)=(true,A++(l.1,(ZQ t i q l.2).2)::R)
 | [],_,h=>by rw [List.nil_append,VZ,if_pos h];rfl
 | a::A,hA,h=>by
  have j:=lessL_at (A:=A) (l:=l) (R:=R) (fun x hx=>hA x (by simp [hx])) h
  rw [List.cons_append,VZ,if_neg (by rw [hA a (by simp)];simp),j]
  rfl
theorem lessL_none {t i q:Int}:∀ {L:List Lev},(∀ x ∈ L,(ZQ t i q x.2).1=false)→VZ t i q L=(false,L)
 | [],_=>rfl
 | a::A,hA=>by
  have j:=lessL_none (L:=A) (fun x hx=>hA x (by simp [hx]))
  rw [VZ,if_neg (by rw [hA a (by simp)];simp),j]
theorem removeL_at {t i:Int} {l:Lev} {R:List Lev}:∀ {A:List Lev},(∀ x ∈ A,(XW t i x.2).2.1=false)→(XW t i l.2).2.1=true→YJ t i (A++l::R)=((XW t i l.2).1,true,VX A R (l.1,(XW t i l.2).2.2))
 | [],_,h=>by
  rw [List.nil_append,YJ,if_pos h]
  unfold VX
  rfl
 | a::A,hA,h=>by
  have j:=removeL_at (A:=A) (l:=l) (R:=R) (fun x hx=>hA x (by simp [hx])) h
  rw [List.cons_append,YJ,if_neg (by rw [hA a (by simp)];simp),j]
  unfold VX
  split <;> rfl
theorem removeL_no {t i:Int}:∀ {L:List Lev},(∀ x ∈ L,(XW t i x.2).2.1=false)→YJ t i L=(JV,false,L)
 | [],_=>rfl
 | a::A,hA=>by
  have j:=removeL_no (L:=A) (fun x hx=>hA x (by simp [hx]))
  rw [YJ,if_neg (by rw [hA a (by simp)];simp),j]
theorem LvsOk.one {L:List Lev} (h:LvsOk L) {l:Lev} (j:l ∈ L):l.2.length≤64:=by
 obtain ⟨a,b,rfl⟩:=List.append_of_mem j
 have:=h.few
 rw [JJY,Qy,List.length_append,List.length_append] at this
 omega
theorem split_at {Z:Zs} {k:Nat} {z:Nat × Lev} (h:Z[k]?=some z):Z=Z.take k++z::Z.drop (k+1):=by
 obtain ⟨hk,rfl⟩:=List.getElem?_eq_some_iff.1 h
 rw [← List.drop_eq_getElem_cons hk,List.take_append_drop]
theorem lless_any (w:World) (F:Nat→Prop) (p:Nat) (B:Bok) (s t j y:Int) (h:Bk w F p B) (hs:s=1∨s=2) (hL:LvsOk (B.sd s)) :
  Calls Tryz.prog 67 #[.pointer (some ⟨p,Qz s,none⟩),.int .i64 t,.int .i64 j,.int .i64 y] w fun r w'=>∃ F',r=.returned (.bool (VZ t j y (B.sd s)).1)∧Bk w' F' p (B.to s (VZ t j y (B.sd s)).2 B.last B.no)∧Grow w F F'∧Keep F w w'∧((VZ t j y (B.sd s)).1=false→Kept w w'):=by
 have HK:=Kj h
 obtain ⟨v,u0,Z,G,Fs,eL,hW,hB,ag,hp,I,hJ⟩:=h.open_ hs
 obtain ⟨L,a4⟩:∃ L,B.sd s=L:=⟨_,rfl⟩
 rw [a4] at eL hL ⊢
 have ak:=Kj a4
 have HJ:=Kj hJ
 have ad:Z.length≤64:=by have:=hL.len;rw [← eL,Xz] at this;exact this
 have HV:Hid (w.cell? ⟨p,Qz s+1,none⟩=some v):=by show _=_;rw [hB.cell];exact xq s _ _ _ _
 have HB:=Kj hB
 have HW:=Kj hW
 have HL:=Kj hL
 have EL:=Kj eL
 have ai:=Kj ag
 have HLT:=Kj I
 obtain ⟨n,hn⟩:∃ n,Z.length=n:=⟨_,rfl⟩
 have a7:=Kj hW.sl
 rw [hn] at a7 ad
 have HN:=Kj hn
 have hpl:=I p hp
 clear hB hW hL eL ag hn h I hJ a4
 go_enter Tryz.func67,Tryz.ntmps67
 go_upto_region 1 with fail
 refine wA 6 [pV p (Qz s),pV p (Qz s),pV p (Qz s+1),v,iV (n:Int),iV 0] [11,12,13,14,15,16] (nS 3 (ldC HV.out) (nS 4 (sV rfl (fun a u E D hk=>Jx _ slQ _ _ _ _ rfl (dD D 3) a7.out)) nZ)) ?_
 intro w0 k0
 simp only [F8]
 go_wp2_with fail
 go_loopw [16] (fun x wr=>∃ (k:Nat),k≤n∧x=.int .i64 k∧Hid (∀ x ∈ L.take k,(ZQ t j y x.2).1=false)∧Kept w wr) (fun x _=>n-(intOf x).toNat)
 case atStart=>exact ⟨0,Nat.zero_le _,rfl,by intro x hx;simp at hx,k0⟩
 obtain ⟨i,hi,rfl,HM,H⟩:=hrel
 by_cases I:i<n
 ·skip
  obtain ⟨gs,os,c,rfl⟩:=a7.out.some_ (by omega)
  obtain ⟨z,O⟩:∃ z,Z[i]?=some z:=⟨Z[i]'(by rw [HN.out];omega),List.getElem?_eq_getElem (by rw [HN.out];omega)⟩
  obtain ⟨q,pr,X⟩:=z
  have HC:=Kj ((HW.out.kept H).cell O)
  have HZ:=Kj (split_at O)
  have al:=O
  have ac:=Kj ((HW.out.kept H).lv (q,pr,X) (List.mem_of_getElem? O))
  have HGF:=Kj (HW.out.in_ (q,pr,X) (List.mem_of_getElem? O))
  have HX:=Kj (HL.out.one (l:=(pr,X)) (by rw [← EL.out];exact qz (List.mem_of_getElem? O)))
  have HA:Hid (L[i]?=some (pr,X)):=by show _=_;rw [← EL.out];exact qj O
  clear O al
  go_upto_region 3 with fail
  refine wA 3 [pV gs (os+i*1),pV q 0,pV q 0] [18,19,10] (nS 0 (ixV slQ (os) n i ((i:Int)) (I)) (nS 1 (ldC HC.out) nZ)) ?_
  intro w1 k1
  simp only [F8]
  have U:=Kj (ac.out.kept k1)
  have ab:=H.trans k1
  clear HC ac k1
  obtain ⟨b,hb⟩:∃ b,(ZQ t j y X).1=b:=⟨_,rfl⟩
  have N:=Kj hb
  clear hb
  go_upto_region 4 with fail
  refine wAp 4 [pV q 0,iV t,iV j,iV y] [20,21,22,23] nZ ?_
  intro w2 k2
  simp only [F8]
  refine cT Tryz.func89 [.pointer (some ⟨q,0,none⟩),.int .i64 t,.int .i64 j,.int .i64 y] ?_
  refine (less_any w2 _ q X t j y (U.out.kept k2) (by have:=HX.out;simp only at this;omega)).mono ?_
  rintro r w3 ⟨rfl,a9,ae,a6⟩
  refine ⟨.bool b,by rw [N.out],?_⟩
  rw [N.out] at a6
  simp only [Act.put,sA,sS,sZ]
  refine Kx ?_
  have J:=ab.trans k2
  have a2:=Kj a9
  have a3:=Kj ae
  have a1:=Kj a6
  clear a9 ae a6 U k2 ab
  cases b with
  | true=>
   have HR:Hid (VZ t j y L=(true,levs (Z.take i++(q,pr,(ZQ t j y X).2)::Z.drop (i+1)))):=by
    show _=_
    have e1:L=levs (Z.take i)++(pr,X)::levs (Z.drop (i+1)):=by
     rw [← EL.out]
     conv=>lhs;rw [HZ.out]
     rw [ZZ,VW]
    have e2:L.take i=levs (Z.take i):=by rw [← EL.out];simp [levs,List.map_take]
    rw [e2] at HM
    conv=>lhs;rw [e1]
    rw [lessL_at HM.out N.out,ZZ,VW]
   obtain ⟨Fs',G',a8,aa,a5,_⟩:=WayZ.turn (A:=Z.take i) (R:=Z.drop (i+1)) (q:=q) (pr:=pr) (X:=X) (by rw [← HZ.out];exact HW.out.kept J) a3.out a2.out (Grow.refl _ _)
   have K3:Keep (fun b=>Fs b∨b=p) w w3:=(Keep.mono (T:=fun b=>Fs b∨b=p) J (fun _ _ h=>h.elim)).trans a5 (fun b _ hb=>.inl hb)
   have af:=(HB.out.kept J).keep a5 (fun h=>(ai.out p h).2 rfl)
   obtain ⟨F',q1,q2,q3,_⟩:=HJ.out w3 _ _ _ _ _ K3 af ⟨_,_,rfl,a8⟩ (aa.wide J.size)
   have Q1:=Kj q1
   clear a2 a3 a1 a8 aa a5 K3 af HB q1
   go_wp2
   go_ret
   rw [HR.out]
   exact ⟨rfl,F',Q1.out,q2,q3,fun h=>by cases h⟩
  | false=>
   have ah:=J.trans (a1.out rfl)
   have aj:Hid (∀ x ∈ L.take (i+1),(ZQ t j y x.2).1=false):=by
    intro x hx
    rw [List.take_add_one,HA.out] at hx
    rcases List.mem_append.1 hx with hx | hx
    ·exact HM.out x hx
    simp at hx
    subst hx
    exact N.out
   clear a2 a3 a1 HM
   go_wp2
   exact ⟨⟨i+1,by omega,by go_num,aj,ah⟩,by simp [intOf];omega⟩
 have HF:Hid (VZ t j y L=(false,L)):=by
  show _=_
  refine lessL_none fun x hx=>HM.out x ?_
  rw [List.take_of_length_le (by rw [← EL.out,Xz,HN.out];omega)]
  exact hx
 have HE:Hid (B.to s L B.last B.no=B):=by show _=_;rw [← ak.out];exact Bok.to_self hs
 clear HM
 go_wp2
 go_ret
 rw [HF.out]
 exact ⟨F,rfl,by rw [HE.out];exact HK.out.kept H,Grow.refl _ _,Keep.mono (T:=F) H (fun _ _ h=>h.elim),fun _=>H⟩
theorem lremove_any (w:World) (F:Nat→Prop) (p:Nat) (B:Bok) (s t j:Int) (h:Bk w F p B) (hs:s=1∨s=2) (hL:LvsOk (B.sd s)) :
  Calls Tryz.prog 90 #[.pointer (some ⟨p,Qz s,none⟩),.int .i64 t,.int .i64 j] w fun r w'=>∃ F',r=.returned (.tuple #[(YJ t j (B.sd s)).1.v,.bool (YJ t j (B.sd s)).2.1])∧Bk w' F' p (B.to s (YJ t j (B.sd s)).2.2 B.last B.no)∧Grow w F F'∧Keep F w w'∧((YJ t j (B.sd s)).2.1=false→Kept w w'):=by
 have aI:=h.lt
 obtain ⟨L,a6⟩:∃ L,B.sd s=L:=⟨_,rfl⟩
 rw [a6] at hL ⊢
 go_enter Tryz.func90,Tryz.ntmps90
 go_upto_region 0 with fail
 refine tAp 2 [.k (.fresh w.heap.size 35 JV.cells),bK false] (nS 0 (nV rfl (fun a u E D hk=>⟨_,_,QX 35 JV.cells rfl zO,⟨_,rfl,hk.size,Blk.new u _ _⟩,((Keep.refl _ u).alloc _)⟩)) nZ) ?_
 intro gv wz hV kz
 rw [dq 2 [6,7]]
 simp only [Fz7]
 have aH:(.fresh w.heap.size 35 JV.cells:Kn).p (gv 6) wz:=hV 0 6 (by kernel_rfl)
 generalize gv 6=v6 at aH ⊢
 rw [gQ hV 1 7 (.bool false)]
 clear hV
 obtain ⟨b6,rfl,hb6,ao⟩:=aH
 refine Kx ?_
 have aj:=Kj ao
 have l6:=ao.lt
 have ak:¬ F b6:=fun h=>by have:=aI b6 h;omega
 clear ao aI
 replace h:=h.kept kz
 have HK:=Kj h
 obtain ⟨v,u0,Z,G,Fs,eL,hW,hB,aK,hp,a2,hJ⟩:=h.open_ hs
 rw [a6] at eL
 have aU:=Kj a6
 have HJ:=Kj hJ
 have aD:Z.length≤64:=by have:=hL.len;rw [← eL,Xz] at this;exact this
 have HV:Hid (wz.cell? ⟨p,Qz s+1,none⟩=some v):=by show _=_;rw [hB.cell];exact xq s _ _ _ _
 have HB:=Kj hB
 have HW:=Kj hW
 have HL:=Kj hL
 have EL:=Kj eL
 have av:=Kj aK
 have HLT:=Kj a2
 obtain ⟨n,hn⟩:∃ n,Z.length=n:=⟨_,rfl⟩
 have am:=Kj hW.sl
 rw [hn] at am aD
 have HN:=Kj hn
 have hpl:=a2 p hp
 clear hB hW hL eL aK hn h a2 hJ a6
 go_upto_region 1 with fail
 refine wA 6 [pV p (Qz s),pV p (Qz s),pV p (Qz s+1),v,iV (n:Int),iV 0] [12,13,14,15,16,17] (nS 3 (ldC HV.out) (nS 4 (sV rfl (fun a u E D hk=>Jx _ slQ _ _ _ _ rfl (dD D 3) am.out)) nZ)) ?_
 intro w0 k0
 simp only [F8]
 go_wp2_with fail
 go_loopw [17] (fun x wr=>∃ (k:Nat),k≤n∧x=.int .i64 k∧Hid (∀ x ∈ L.take k,(XW t j x.2).2.1=false)∧Kept wz wr) (fun x _=>n-(intOf x).toNat)
 case atStart=>exact ⟨0,Nat.zero_le _,rfl,by intro x hx;simp at hx,k0⟩
 obtain ⟨i,hi,rfl,HM,J⟩:=hrel
 by_cases a2:i<n
 ·skip
  obtain ⟨gs,os,c,rfl⟩:=am.out.some_ (by omega)
  obtain ⟨z,hz⟩:∃ z,Z[i]?=some z:=⟨Z[i]'(by rw [HN.out];omega),List.getElem?_eq_getElem (by rw [HN.out];omega)⟩
  obtain ⟨q,pr,X⟩:=z
  have HC:=Kj ((HW.out.kept J).cell hz)
  have HZ:=Kj (split_at hz)
  have aC:=Kj ((HW.out.kept J).lv (q,pr,X) (List.mem_of_getElem? hz))
  have HX:=Kj (HL.out.one (l:=(pr,X)) (by rw [← EL.out];exact qz (List.mem_of_getElem? hz)))
  have HA:Hid (L[i]?=some (pr,X)):=by show _=_;rw [← EL.out];exact qj hz
  clear hz
  go_upto_region 3 with fail
  refine wA 5 [iV (i:Int),pV gs (os+i*1),pV q 0,iV (i:Int),pV q 0] [19,20,21,8,9] (nS 1 (ixV slQ (os) n i ((i:Int)) (a2)) (nS 2 (ldC HC.out) nZ)) ?_
  intro w1 k1
  simp only [F8]
  have ad:=Kj (aC.out.kept k1)
  have aB:=J.trans k1
  clear HC aC k1
  obtain ⟨b,hb⟩:∃ b,(XW t j X).2.1=b:=⟨_,rfl⟩
  obtain ⟨e,he⟩:∃ e,(XW t j X).1=e:=⟨_,rfl⟩
  have a7:=Kj hb
  have aG:=Kj he
  clear hb he
  go_upto_region 4 with fail
  refine wAp 3 [pV q 0,iV t,iV j] [23,24,25] nZ ?_
  intro w2 k2
  simp only [F8]
  refine cT Tryz.func101 [.pointer (some ⟨q,0,none⟩),.int .i64 t,.int .i64 j] ?_
  refine (remove_any w2 _ q X t j (ad.out.kept k2) (by have:=HX.out;simp only at this;omega)).mono ?_
  rintro r w3 ⟨rfl,ar,N,al⟩
  refine ⟨.tuple #[e.v,.bool b],by rw [a7.out,aG.out],?_⟩
  rw [a7.out] at al
  refine aT (.tuple #[e.v,.bool b]) ?_
  refine aT (e.v) ?_
  refine aT (.bool b) ?_
  refine nT zO ?_
  intro w4 a1 ay
  refine sO e a1 ?_
  intro w5 a9 an aX
  refine aT (.bool b) ?_
  simp only [Act.put,sA,sS,sZ]
  refine Kx ?_
  obtain ⟨az,ab⟩:∃ x,w3.heap.size=x:=⟨_,rfl⟩
  rw [ab] at a1 a9 an ⊢
  have aS:=a9.lt
  have I:Kept w3 w5:=ay.trans' an (by omega)
  have H:=aB.trans k2
  have ag:=Kj ar
  have a5:=Kj N
  have af:=Kj al
  have O:=Kj a9
  have z2:=H.size
  have z3:=N.size
  clear ar N al ad k2 aB a1 a9 an aX ay
  cases b with
  | true=>
   have HR:Hid (YJ t j L=(e,true,VX (levs (Z.take i)) (levs (Z.drop (i+1))) (pr,(XW t j X).2.2))):=by
    show _=_
    have e1:L=levs (Z.take i)++(pr,X)::levs (Z.drop (i+1)):=by
     rw [← EL.out]
     conv=>lhs;rw [HZ.out]
     rw [ZZ,VW]
    have e2:L.take i=levs (Z.take i):=by rw [← EL.out];simp [levs,List.map_take]
    rw [e2] at HM
    conv=>lhs;rw [e1]
    rw [removeL_at HM.out a7.out,aG.out]
   have aW:Hid ((XW t j X).2.2.length≤64):=by
    have h1:=HX.out
    simp only at h1
    show _≤_
    unfold XW
    split
    ·exact h1
    simp only
    rw [List.length_eraseIdx]
    split <;> omega
   obtain ⟨Fs',G',aq,aA,ai,_⟩:=WayZ.turn (A:=Z.take i) (R:=Z.drop (i+1)) (q:=q) (pr:=pr) (X:=X) (by rw [← HZ.out];exact HW.out.kept H) a5.out ag.out (Grow.refl _ _)
   have K3:Keep (fun b=>Fs b∨b=p) wz w3:=(Keep.mono (T:=fun b=>Fs b∨b=p) H (fun _ _ h=>h.elim)).trans ai (fun b _ hb=>.inl hb)
   have a8:=(HB.out.kept H).keep ai (fun h=>(av.out p h).2 rfl)
   obtain ⟨F',q1,q2,q3,q4⟩:=HJ.out w3 _ _ _ _ _ K3 a8 ⟨_,_,rfl,aq⟩ (aA.wide H.size)
   have ac:¬ F' b6:=fun h=>(q2 b6 h).elim ak (fun h=>by omega)
   have ah:¬ F' az:=fun h=>by have:=q1.lt az h;omega
   have Q5:=Kj (q1.kept I)
   have aa:=Kj (((aj.out.kept H).keep a5.out (fun h=>ak (av.out b6 ((HW.out.in_ (q,pr,X) (by rw [HZ.out];simp)) b6 h)).1)).kept I)
   have au:=q3.kept I
   have aJ:=q2
   clear ag a5 af aq aA ai K3 a8 HB q1 aj
   have U:(levs (Z.take i)).length=i:=by rw [Xz,List.length_take,HN.out];omega
   have a3:(levs (Z.drop (i+1))).length≤64:=by rw [Xz,List.length_drop,HN.out];omega
   have aF:=Kj U
   have aM:=Kj a3
   clear U a3
   go_upto_region 6 with fail
   refine wAp 2 [pV p (Qz s),iV (i:Int)] [30,31] nZ ?_
   intro w6 k6
   simp only [F8]
   refine cT Tryz.func102 [.pointer (some ⟨p,Qz s,none⟩),.int .i64 (i:Int)] ?_
   refine (drop_if_any w6 F' p _ s (levs (Z.take i)) (levs (Z.drop (i+1))) (pr,(XW t j X).2.2) i (Q5.out.kept k6) hs (by rw [Bok.to_sd hs,ZZ,VW]) aF.out (by rw [aF.out];have:=aM.out;omega) (by have:=aW.out;simp only;omega)).mono ?_
   rintro r w7 ⟨F2,rfl,h7,g7,k7,s7⟩
   refine ⟨_,rfl,?_⟩
   simp only [Act.put,sA,sS,sZ]
   refine Kx ?_
   have a4:Keep F' w5 w7:=Keep.any k6 k7
   have aw:=Kj (aa.out.keep a4 ac)
   have ae:=Kj (JX (O.out.keep a4 ah))
   have z5:=I.size
   have z6:=k6.size
   have z7:=k7.size
   have ax:¬ F2 b6:=fun h=>(g7 b6 h).elim ac (fun h=>by omega)
   have aZ:=Kj h7
   have aY:Hid (Grow wz F F2):=by
    show Grow _ _ _
    exact aJ.trans (g7.wide (Kv (by omega) z6)) (by omega)
   have aQ:Hid (Keep F w w7):=(Keep.mono (T:=F) kz (fun _ _ h=>h.elim)).trans (au.trans a4 (fun b hb h=>(aJ b h).elim id (fun h'=>by omega))) (fun _ _ h=>h)
   clear h7 g7 k7 s7 O aa a4 k6 Q5 au q3 I
   go_upto_region 7 with fail
   refine wAp 1 [e.v] [33] (nS 0 (ldO ae.out) nZ) ?_
   intro w8 k8
   simp only [F8]
   refine sO e (aw.out.kept k8) ?_
   intro w9 aR aE hs9
   refine aT (.bool true) ?_
   simp only [Act.put,sA,sS,sZ]
   refine Kx ?_
   go_wp2
   refine bodyPost_ret (Qq (p:=6) (q:=7) rfl _ _ b6 _ e.cells true rfl rfl aR Tryz.underlying35 (by rw [Ord.len9];exact JU)) rfl ?_
   rw [HR.out]
   have zz:=kz.size
   refine ⟨rfl,F2,?_,aY.out.wide zz,(aQ.out.kept k8).trans aE (fun b hb h=>by subst h;omega),fun h=>by cases h⟩
   have h9:=(aZ.out.kept k8).keep aE (fun b hb h=>ax (by subst h;exact hb))
   rw [Bok.to_to hs] at h9
   exact h9
  | false=>
   have aN:=(H.trans (af.out rfl)).trans I
   have aO:Hid (∀ x ∈ L.take (i+1),(XW t j x.2).2.1=false):=by
    intro x hx
    rw [List.take_add_one,HA.out] at hx
    rcases List.mem_append.1 hx with hx | hx
    ·exact HM.out x hx
    simp at hx
    subst hx
    exact a7.out
   clear ag a5 af HM I H z2 z3 aS ab O
   go_wp2
   exact ⟨⟨i+1,by omega,by go_num,aO,aN⟩,by simp [intOf];omega⟩
 have HF:Hid (YJ t j L=(JV,false,L)):=by
  show _=_
  refine removeL_no fun x hx=>HM.out x ?_
  rw [List.take_of_length_le (by rw [← EL.out,Xz,HN.out];omega)]
  exact hx
 have HE:Hid (B.to s L B.last B.no=B):=by show _=_;rw [← aU.out];exact Bok.to_self hs
 clear HM
 go_upto_region 9 with fail
 refine wAp 1 [JV.v] [35] (nS 0 (sV rfl (fun a u E D hk=>XZ 35 [] JV.cells rfl (by kernel_rfl))) nZ) ?_
 intro w2 k2
 simp only [F8]
 refine sO JV ((aj.out.kept J).kept k2) ?_
 intro w3 a8 N hs3
 refine aT (.bool false) ?_
 simp only [Act.put,sA,sS,sZ]
 refine Kx ?_
 go_wp2
 refine bodyPost_ret (Qq (p:=6) (q:=7) rfl _ _ b6 _ JV.cells false rfl rfl a8 Tryz.underlying35 (by rw [Ord.len9];exact JU)) rfl ?_
 rw [HF.out]
 have aL:Kept w w3:=((kz.trans J).trans k2).trans' N (by omega)
 exact ⟨F,rfl,by rw [HE.out];exact ((HK.out.kept J).kept k2).keep N (fun b hb h=>ak (by subst h;exact hb)),Grow.refl _ _,Keep.mono (T:=F) aL (fun _ _ h=>h.elim),fun _=>aL⟩
section
variable {P:Program} {ops:Array Oper} {Q:Exit→Act→World→Prop} {V:List Kn} {n m:Nat} {a0:Act} {w0:World} {S:Nat→Prop}
def Kn.safe (S:Nat→Prop) (K:Kn):Prop:=∀ v w w',K.p v w→Keep S w w'→K.p v w'
theorem Kn.safe_eq (S:Nat→Prop) (c:Value):(Kn.eq c).safe S:=fun _ _ _ h _=>h
structure VInv (ops:Array Oper) (V:List Kn) (n m:Nat) (a0:Act) (w0:World) (S:Nat→Prop) (ls:Array Bool) (a:Act) (w:World):Prop where
 head:HeadInv .any ops n ls
 defers:a.defers=a0.defers
 size:a.tmps.size=a0.tmps.size
 env:∀ t,(∀ i,i<n→ls.getD i false=true→QY ops i≠some t)→a.tmps[t]?=a0.tmps[t]?
 vals:∀ i d,i<n→ls.getD i false=true→QY ops i=some d→(UY V i).p (a.tmps.getD d undef) w
 keep:Keep S w0 w
 kept:ls.getD m false=false→Kept w0 w
def VStep (P:Program) (ops:Array Oper) (Q:Exit→Act→World→Prop) (V:List Kn) (n:Nat) (a0:Act) (w0:World) (S:Nat→Prop) (i:Nat) (K:Kn):Prop:=
 ∀ a w,FEnv ops n a0 a→FDep ops V i a w→Keep S w0 w→wpOp P ops Q i (FPost ops i K a w) a w
def VTurn (P:Program) (ops:Array Oper) (Q:Exit→Act→World→Prop) (V:List Kn) (n:Nat) (a0:Act) (w0:World) (S:Nat→Prop) (m:Nat) (K:Kn):Prop:=
 ∀ a w,FEnv ops n a0 a→FDep ops V m a w→Kept w0 w→wpOp P ops Q m (fun a' w'=>∃ v,a'=a.put (QY ops m) v∧K.p v w'∧Keep S w w') a w
def VSteps (P:Program) (ops:Array Oper) (Q:Exit→Act→World→Prop) (V:List Kn) (n m:Nat) (a0:Act) (w0:World) (S:Nat→Prop):Nat→List Kn→Prop
 | _,[]=>True
 | i,K::Ks=>(i≠m→VStep P ops Q V n a0 w0 S i K)∧VSteps P ops Q V n m a0 w0 S (i+1) Ks
theorem vsteps_nil {i:Nat}:VSteps P ops Q V n m a0 w0 S i []:=trivial
theorem XQ {i:Nat} (j:Nat) {K:Kn} {Ks:List Kn} (H:j=i+1) (h:VStep P ops Q V n a0 w0 S i K) (D:VSteps P ops Q V n m a0 w0 S j Ks):VSteps P ops Q V n m a0 w0 S i (K::Ks):=⟨fun _=>h,by subst H;exact D⟩
theorem vsteps_turn {i:Nat} (j:Nat) {K:Kn} {Ks:List Kn} (I:j=i+1) (D:i=m) (H:VSteps P ops Q V n m a0 w0 S j Ks):VSteps P ops Q V n m a0 w0 S i (K::Ks):=⟨fun h=>(h D).elim,by subst I;exact H⟩
theorem vsteps_at:∀ (Ks:List Kn) (i:Nat),VSteps P ops Q V n m a0 w0 S i Ks→∀ k K,Ks[k]?=some K→i+k≠m→VStep P ops Q V n a0 w0 S (i+k) K
 | [],_,_,k,K,h,_=>by simp at h
 | K0::Ks,i,h,0,K,hk,hm=>by simp at hk;subst hk;exact h.1 hm
 | K0::Ks,i,h,k+1,K,hk,hm=>by
  have:=vsteps_at Ks (i+1) h.2 k K (by simpa using hk) (by omega)
  rw [show i+(k+1)=i+1+k by omega]
  exact this
def lateB (ops:Array Oper) (n m:Nat) (early:List Nat):Bool:=(List.range n).all fun i=>i == m || early.contains i || (List.range i).any fun j=>(j == m || !early.contains j) && Region.waitsFor .any ops i j
theorem freeV_go (early:List Nat) (hnV:V.length=n) (hmn:m<n) (hB:freeB ops n a0.tmps.size=true) (hL:lateB ops n m early=true) (ao:∀ i,i ∈ early→(UY V i).safe S) (aG:∀ i K,V[i]?=some K→i≠m→VStep P ops Q V n a0 w0 S i K) (aJ:VTurn P ops Q V n a0 w0 S m (UY V m))
  (aA:∀ a w,VInv ops V n m a0 w0 S (Array.replicate n true++Array.replicate (ops.size-n) false) a w→wpAny P .any ops Q (ops.size-n) (Array.replicate n true++Array.replicate (ops.size-n) false) a w) :
  ∀ (f:Nat) (U:List Nat) (D:Array Bool) (a:Act) (w:World),U.length=f→U.Nodup→(∀ i,i ∈ U↔i<n∧D.getD i true=false)→VInv ops V n m a0 w0 S D a w→wpAny P .any ops Q (f+(ops.size-n)) D a w:=by
 obtain ⟨hn,aF,hseq,ay⟩:=jj hB
 have a8:∀ i,i<n→∃ o d,ops[i]?=some o∧o.dst=some d∧d<a0.tmps.size∧(∀ j,j<i→QY ops j≠some d)∧∀ e ∈ o.after,Region.binds .any e=true→e.on<i:=by
  intro i hi
  have h:=List.all_eq_true.1 ay i (by simpa using hi)
  cases ho:ops[i]? with
  | none=>rw [ho] at h;cases h
  | some o=>
   rw [ho] at h
   simp only [Bool.and_eq_true] at h
   cases hd:o.dst with
   | none=>rw [hd] at h;cases h.1
   | some d=>
    rw [hd] at h
    simp only [Bool.and_eq_true,decide_eq_true_eq,List.all_eq_true,List.mem_range,bne_iff_ne] at h
    refine ⟨o,d,rfl,hd,h.1.1,h.1.2,fun e H hb=>?_⟩
    have h2:=(Array.all_eq_true_iff_forall_mem.1 h.2) e H
    simpa [hb] using h2
 intro f
 induction f with
 | zero=>
  intro U D a w hU _ J inv
  have aE:U=[]:=List.eq_nil_of_length_eq_zero hU
  have aM:D=Array.replicate n true++Array.replicate (ops.size-n) false:=by
   apply Array.ext
   ·simp [inv.head.size];omega
   intro i h1 h2
   have aI:=inv.head.size
   by_cases hi:i<n
   ·have h3:¬ (i<n∧D.getD i true=false):=by
     intro h
     have:=(J i).2 h
     rw [aE] at this
     cases this
    have h4:D.getD i true=true:=by
     cases hq:D.getD i true with
     | true=>rfl
     | false=>exact (h3 ⟨hi,hq⟩).elim
    rw [Array.getElem_append_left (by simpa using hi)]
    simp [h1] at h4
    simp [h4]
   have h4:=inv.head.tail i (by omega) (by omega)
   rw [Array.getElem_append_right (by simpa using hi)]
   simp [h1] at h4
   simp [h4]
  rw [Nat.zero_add]
  subst aM
  exact aA a w inv
 | succ f ih=>
  intro U D a w hU al J inv
  have aI:=inv.head.size
  rw [show f+1+(ops.size-n)=(f+(ops.size-n))+1 by omega]
  obtain ⟨u,hu⟩:∃ u,u ∈ U:=by
   cases U with
   | nil=>simp at hU
   | cons u U=>exact ⟨u,by simp⟩
  obtain ⟨ar,ai⟩:=(J u).1 hu
  refine ⟨fun h0=>?_,fun i hi=>?_⟩
  ·exfalso
   have key:∀ k i,i≤k→i<n→D.getD i true=true:=by
    intro k
    induction k using Nat.strongRecOn with
    | _ k ihk=>
     intro i hik N
     cases hq:D.getD i true with
     | true=>rfl
     | false=>
      obtain ⟨o,d,ho,_,_,_,a4⟩:=a8 i N
      have:i ∈ Region.ready .any ops D:=mem_ready.2 ⟨hq,o,ho,fun e H hb=>by
       have hlt:=a4 e H hb
       have:=ihk (k-1) (by omega) e.on (by omega) (by omega)
       exact getD_tf this (by omega)⟩
      rw [h0] at this
      cases this
   rw [key u u (Nat.le_refl _) ar] at ai
   cases ai
  have N:i<n:=Nat.lt_of_not_le fun h=>tail_waits (aF (Nat.lt_of_le_of_lt h (by obtain ⟨_,o1,a6,_⟩:=mem_ready.1 hi;exact (Array.getElem?_eq_some_iff.1 a6).1))).1 (aF (Nat.lt_of_le_of_lt h (by obtain ⟨_,o1,a6,_⟩:=mem_ready.1 hi;exact (Array.getElem?_eq_some_iff.1 a6).1))).2 (Nat.lt_of_le_of_lt h (by obtain ⟨_,o1,a6,_⟩:=mem_ready.1 hi;exact (Array.getElem?_eq_some_iff.1 a6).1)) inv.head _ u rfl ar ai i h hi
  obtain ⟨ae,oi,aU,ak⟩:=mem_ready.1 hi
  obtain ⟨o,d,ho,hd,aC,aR,a4⟩:=a8 i N
  obtain rfl:oi=o:=Option.some.inj (aU.symm.trans ho)
  have a1:QY ops i=some d:=by simp [QY,ho,hd]
  have a5:D.getD i false=false:=getD_both ae
  have aw:∀ j,j<n→j≠i→QY ops j≠some d:=by
   intro j hj hij am
   by_cases af:j<i
   ·exact aR j af am
   obtain ⟨oj,dj,a9,ag,_,aB,_⟩:=a8 j hj
   have:dj=d:=by
    have h1:QY ops j=some dj:=by simp [QY,a9,ag]
    rw [h1] at am
    injection am
   subst this
   exact aB i (by omega) a1
  have an:d<a.tmps.size:=by rw [inv.size];exact aC
  have a3:∀ v,(a.put (some d) v).tmps.getD d undef=v:=fun v=>by simp [Act.put,an]
  have ad:∀ v j e,j<n→j≠i→QY ops j=some e→(a.put (some d) v).tmps.getD e undef=a.tmps.getD e undef:=by
   intro v j e hj af H
   have:d≠e:=fun h=>aw j hj af (by rw [H,h])
   simp only [Act.put,Array.getD_eq_getD_getElem?,xJ]
   rw [if_neg (fun h=>this h.1)]
  have aD:FEnv ops n a0 a:=by
   intro t v ht hv
   have aQ:∀ k,k<n→D.getD k false=true→QY ops k≠some t:=fun k I _=>by simpa using List.all_eq_true.1 ht k (by simpa using I)
   have h1:=inv.env t aQ
   rw [← hv]
   simp only [Act.eval,Array.getD_eq_getD_getElem?,h1]
  have ax:∀ k,k ∈ U.erase i↔k<n∧(D.setIfInBounds i true).getD k true=false:=by
   intro k
   rw [al.mem_erase_iff,J k]
   by_cases hki:k=i
   ·subst hki
    simp
   rw [getD_set_ne true (fun h=>hki h.symm)]
   simp [hki]
  have ac:∀ v t,(∀ k,k<n→(D.setIfInBounds i true).getD k false=true→QY ops k≠some t)→(a.put (some d) v).tmps[t]?=a0.tmps[t]?:=by
   intro v t ht
   have h1:=inv.env t (fun k I hl=>ht k I (getD_set_true hl))
   have h2:d≠t:=fun h=>ht i N (by simp [show i<D.size by omega]) (by rw [a1,h])
   simp only [Act.put,xJ]
   rw [if_neg (fun h=>h2 h.1),h1]
  have aa:(U.erase i).length=f:=by rw [List.length_erase_of_mem ((J i).2 ⟨N,ae⟩)];omega
  have O:∀ k,k≠i→(D.setIfInBounds i true).getD k false=D.getD k false:=fun k hk=>getD_set_ne false (fun h=>hk h.symm)
  have ah:(D.setIfInBounds i true).getD i false=true:=by simp [show i<D.size by omega]
  have ab:FDep ops V i a w:=by
   intro j e az
   simp only [Bool.and_eq_true,beq_iff_eq,ho,Option.map_some,Option.some.injEq,Array.any_eq_true'] at az
   obtain ⟨⟨x,hx,au,aH⟩,ag⟩:=az
   subst aH
   exact inv.vals x.on e (by have:=a4 x hx au;omega) (ak x hx au) ag
  have hK:V[i]?=some (UY V i):=by
   unfold UY
   rw [List.getD_eq_getElem?_getD,List.getElem?_eq_getElem (by omega)]
   rfl
  by_cases him:i=m
  ·subst him
   have hk:=inv.kept a5
   have aj:∀ j,j<n→D.getD j false=true→j ∈ early:=by
    intro j
    induction j using Nat.strongRecOn with
    | _ j ihj=>
     intro hj aq
     have h:=List.all_eq_true.1 hL j (by simpa using hj)
     simp only [Bool.or_eq_true,beq_iff_eq,List.any_eq_true,List.mem_range,Bool.and_eq_true,Bool.not_eq_true',List.contains_iff_mem] at h
     rcases h with (h | h) | ⟨q,aO,aK,aS⟩
     ·subst h
      rw [a5] at aq
      cases aq
     ·exact h
     exfalso
     obtain ⟨oj,dj,a9,_,_,_,_⟩:=a8 j hj
     obtain ⟨e,H,hb,aN⟩:=waits_on aS a9
     have a7:=inv.head.closed j oj a9 aq e H hb
     rw [aN] at a7
     rcases aK with h | h
     ·subst h
      rw [a5] at a7
      cases a7
     have:=ihj q aO (by omega) a7
     have h':early.contains q=true:=by simpa using this
     rw [h'] at h
     cases h
   refine wpOp_mono ?_ (aJ a w aD ab hk)
   rintro a' w' ⟨v,rfl,aL,av⟩
   rw [a1]
   refine ih (U.erase i) _ _ w' aa (al.erase _) ax ⟨inv.head.set hi N,inv.defers,by simp [Act.put,inv.size],ac v,fun k e I a2 H=>?_,inv.keep.trans av (fun _ _ h=>h),fun hl=>?_⟩
   ·by_cases hki:k=i
    ·subst hki
     rw [a1] at H
     injection H with H
     subst H
     rw [a3]
     exact aL
    rw [O k hki] at a2
    rw [ad v k e I hki H]
    exact ao k (aj k I a2) _ _ _ (inv.vals k e I a2 H) av
   rw [ah] at hl
   cases hl
  refine wpOp_mono ?_ (aG i _ hK him a w aD ab inv.keep)
  rintro a' w' ⟨v,rfl,hv,hk⟩
  rw [a1]
  refine ih (U.erase i) _ _ w' aa (al.erase _) ax ⟨inv.head.set hi N,inv.defers,by simp [Act.put,inv.size],ac v,fun k e I a2 H=>?_,inv.keep.kept hk,fun hl=>?_⟩
  ·by_cases hki:k=i
   ·subst hki
    rw [a1] at H
    injection H with H
    subst H
    rw [a3]
    exact hv
   rw [O k hki] at a2
   rw [ad v k e I hki H]
   exact (UY V k).st _ _ _ (inv.vals k e I a2 H) hk
  rw [O m (fun h=>him h.symm)] at hl
  exact (inv.kept hl).trans hk
theorem actV_filled {a:Act} {w:World} {H:Array Bool} (hl:∀ i,i<n→H.getD i false=true) (inv:VInv ops V n m a0 w0 S H a w):a=⟨(Wy ops n).foldl (fun t d=>t.setIfInBounds d (a.tmps.getD d undef)) a0.tmps,a0.defers⟩:=by
 obtain ⟨t,df⟩:=a
 have D:=inv.defers
 simp only at D
 subst D
 congr 1
 apply Array.ext_getElem?
 intro e
 rw [JJQ]
 have j:=inv.size
 simp only at j
 by_cases hm:e ∈ Wy ops n
 ·by_cases hlt:e<a0.tmps.size
  ·rw [if_pos ⟨hm,hlt⟩]
   have:e<t.size:=by omega
   simp [this]
  rw [if_neg (fun h=>hlt h.2),Array.getElem?_eq_none (by omega),Array.getElem?_eq_none (by omega)]
 rw [if_neg (fun h=>hm h.1)]
 exact inv.env e (fun i I _ h=>hm (List.mem_filterMap.2 ⟨i,by simpa using I,h⟩))
theorem wp_freeV {id:Nat} {a:Act} {w:World} {l:List Oper} (n m:Nat) (early:List Nat) (V:List Kn) (S:Nat→Prop) (a1:P.follows Departure.mixedOrders=true) (hV:V.length=n) (O:m<n) (hB:freeB l.toArray n a.tmps.size=true) (hL:lateB l.toArray n m early=true)
  (H:∀ i,i ∈ early→(UY V i).safe S) (hs:VSteps P l.toArray Q V n m a w S 0 V) (hm:VTurn P l.toArray Q V n a w S m (UY V m))
  (hf:∀ (g:Nat→Value) w',FVals l.toArray V g w'→Keep S w w'→wpList P l.toArray Q (l.drop n) ⟨(Wy l.toArray n).foldl (fun t d=>t.setIfInBounds d (g d)) a.tmps,a.defers⟩ w'):(Code.region id l.toArray true).wp P Q a w:=by
 have U:=hB
 obtain ⟨hn,_,J,_⟩:=jj U
 have hn':n≤l.length:=by simpa using hn
 have I:(l.drop n).length=l.toArray.size-n:=by simp
 refine wp_region_any a1 ?_
 have:=freeV_go (P:=P) (Q:=Q) (w0:=w) early hV O hB hL H (fun i K hK him=>by
  have:=vsteps_at V 0 hs i K hK (by omega)
  rwa [Nat.zero_add] at this) hm (fun b u inv=>?_) n (List.range n) (Array.replicate l.toArray.size false) a w.drew (by simp) List.nodup_range ?_ ?_
 ·have e:n+(l.toArray.size-n)=l.toArray.size:=by omega
  rw [e] at this
  exact this
 ·have D:∀ i,i<n→(Array.replicate n true++Array.replicate (l.toArray.size-n) false).getD i false=true:=by
   intro i hi
   have a2:i<(Array.replicate n true++Array.replicate (l.toArray.size-n) false).size:=by simp;omega
   rw [Array.getD,dif_pos a2]
   show (Array.replicate n true++Array.replicate (l.toArray.size-n) false)[i]=true
   rw [Array.getElem_append_left (by simpa using hi)]
   simp
  have h4:=hf (fun d=>b.tmps.getD d undef) u (fun i d N=>by
   simp only [Bool.and_eq_true,decide_eq_true_eq,beq_iff_eq] at N
   exact inv.vals i d (by omega) (D i (by omega)) N.2) inv.keep
  rw [← actV_filled D inv] at h4
  have:=wpAny_of_seq (P:=P) (md:=.any) (ops:=l.toArray) (Q':=Q) (l.drop n) n _ b u (fun j=>by simp) (by rw [I];exact J) h4
  rw [I] at this
  exact this
 ·intro i
  rw [List.mem_range]
  constructor
  ·intro hi
   exact ⟨hi,getD_in (by simp;omega) (getD_replicate_false _ _)⟩
  exact fun h=>h.1
 refine ⟨⟨by simp,fun j oj _ D=>(by rw [getD_replicate_false] at D;cases D),fun t _ ht=>getD_in (by simpa using ht) (getD_replicate_false _ _)⟩,rfl,rfl,fun _ _=>rfl,fun i d _ D=>(by rw [getD_replicate_false] at D;cases D),Keep.drew (Keep.refl _ w),fun _=>Keep.drew (Keep.refl _ w)⟩
variable {a:Act} {w:World} {o:Oper} {K:Kn}
theorem v_call (f:Nat) (args:Array Value) (j:ops[m]?=some o) (H:Region.wanted o (yielded ops a.tmps)=true) (h:(execOp a.eval o).run P w=.ok (.enter f args) w)
  (D:Calls P f args w fun e w'=>∃ v,e=.returned v∧K.p v w'∧Keep S w w'):wpOp P ops Q m (fun J w'=>∃ v,J=a.put (QY ops m) v∧K.p v w'∧Keep S w w') a w:=by
 unfold wpOp
 simp only [j,H,if_true]
 refine .inl ?_
 unfold Oper.wp
 rw [h,Oper.upon_enter]
 refine D.mono ?_
 rintro e w' ⟨v,rfl,I,hk⟩
 exact ⟨v,by simp [QY,j],I,hk⟩
end
theorem restM_at {o:Ord} {R:List Lev}:∀ {A:List Lev},(∀ x ∈ A,bet o.side x.1 o.price=true)→WY o (A++R)=A++WY o R
 | [],_=>rfl
 | a::A,hA=>by
  rw [List.cons_append,WY,if_pos (hA a (by simp)),restM_at (fun x hx=>hA x (by simp [hx]))]
  rfl
def Kn.newl (base:Nat) (pr:Int):Kn:=⟨fun v w=>∃ q F,v=.pointer (some ⟨q,0,none⟩)∧Lvl pr 123 120 w F q []∧∀ b,F b→base≤b,fun _ _ _ ⟨q,F,h1,h2,h3⟩ hk=>⟨q,F,h1,h2.kept hk,h3⟩⟩
def Kn.onel (base:Nat) (pr:Int):Kn:=⟨fun v w=>∃ g q F,v=.slice (some ⟨g,0,none⟩) 1 1∧Blk w g 117 [.pointer (some ⟨q,0,none⟩)]∧Lvl pr 123 120 w F q []∧(∀ b,F b→base≤b)∧base≤g∧¬ F g,fun _ _ _ ⟨g,q,F,h1,h2,h3,h4⟩ hk=>⟨g,q,F,h1,h2.kept hk,h3.kept hk,h4⟩⟩
theorem Kn.safe_newl {S:Nat→Prop} {base:Nat} {pr:Int} (h:∀ b,base≤b→¬ S b):(Kn.newl base pr).safe S:=fun _ _ _ ⟨q,F,H,D,j⟩ hk=>⟨q,F,H,D.keep hk (fun b I=>h b (j b I)),j⟩
theorem Kn.safe_onel {S:Nat→Prop} {base:Nat} {pr:Int} (h:∀ b,base≤b→¬ S b):(Kn.onel base pr).safe S:=fun _ _ _ ⟨g,q,F,J,H,N,D,j,I⟩ hk=>⟨g,q,F,J,H.keep hk (h g j),N.keep hk (fun b O=>h b (D b O)),D,j,I⟩
def Kn.ins (base:Nat) (pr:Int) (v:Value) (n:Nat) (Z:Zs) (i:Nat):Kn:=⟨fun v' w=>∃ q F,Sl w 117 1 v' (n+1) (insP Z i q)∧Lvl pr 123 120 w F q []∧(∀ b,F b→base≤b)∧∀ b,v'.ownBlock=some b→(v.ownBlock=some b∨base≤b)∧¬ F b,fun _ _ _ ⟨q,F,h1,h2,h3⟩ hk=>⟨q,F,h1.kept hk,h2.kept hk,h3⟩⟩
theorem ins_kn (u W:World) (v:Value) (n i:Nat) (Z:Zs) (D q:Nat) (pr:Int) (F:Nat→Prop) (hk:Kept W u) (hS:Sl W 117 1 v n (ptrs Z)) (hn:n≤1000) (hi:i≤n) (h1:Blk u D 117 [.pointer (some ⟨q,0,none⟩)]) (U:Lvl pr 123 120 u F q []) (I:∀ b,F b→W.heap.size≤b) (hg:W.heap.size≤D) (H:∀ b,v.ownBlock=some b→b<W.heap.size) :
  Calls Tryz.prog 121 #[v,.int .i64 (i:Int),.slice (some ⟨D,0,none⟩) 1 1] u fun e w'=>∃ v',e=.returned v'∧(Kn.ins W.heap.size pr v n Z i).p v' w'∧Keep (fun b=>v.ownBlock=some b) u w':=by
 have hz:=hk.size
 refine (linsert_any u v n i Z D q (hS.kept hk) hn hi h1 (fun b j e=>by have:=H b j;omega)).mono ?_
 rintro r w' ⟨v',rfl,h2,N,O⟩
 refine ⟨v',rfl,⟨q,F,h2,U.keep N (fun b j h=>by have:=H b h;have:=I b j;omega),I,fun b j=>⟨(O b j).imp id (fun h=>by omega),fun h=>?_⟩⟩,N⟩
 rcases O b j with J | J
 ·have:=H b J
  have:=I b h
  omega
 have:=U.2.1 b h
 omega
def AtIn (w:World) (Fs:Nat→Prop) (p:Nat) (s:Int) (u0:Value) (last no:Int) (L:List Lev) (price:Int) (r:Ending) (w':World):Prop:=
 ∃ q X ZA ZR v' Fs' G',r=.returned (.pointer (some ⟨q,0,none⟩))∧WayZ 123 120 117 w' Fs' v' (ZA++(q,price,X)::ZR) G'∧Blk w' p 92 (WX s v' u0 last no)∧Grow w Fs Fs'∧Keep (fun b=>Fs b∨b=p) w w'∧X.length≤64∧∀ o:Ord,o.side=s→o.price=price→WY o L=levs ZA++(price,X++[Ent.of o])::levs ZR
theorem at_any (w:World) (Fs:Nat→Prop) (p:Nat) (s price:Int) (v u0:Value) (last no:Int) (Z:Zs) (G:Nat→Nat→Prop) (L:List Lev) (hs:s=1∨s=2) (hW:WayZ 123 120 117 w Fs v Z G) (hB:Blk w p 92 (WX s v u0 last no)) (ak:∀ b,Fs b→b≠p) (eL:levs Z=L) (hL:LvsOk L) :
  Calls Tryz.prog 110 #[.pointer (some ⟨p,Qz s,none⟩),.int .i64 price] w (AtIn w Fs p s u0 last no L price):=by
 have aD:Z.length≤64:=by have:=hL.len;rw [← eL,Xz] at this;exact this
 have HV:Hid (w.cell? ⟨p,Qz s+1,none⟩=some v):=by show _=_;rw [hB.cell];exact xq s _ _ _ _
 have HS:Hid (w.cell? ⟨p,Qz s,none⟩=some (.int .i64 s)):=by show _=_;rw [hB.cell];exact sideCs_side hs _ _ _ _
 have HB:=Kj hB
 have HW:=Kj hW
 have HL:=Kj hL
 have EL:=Kj eL
 obtain ⟨n,hn⟩:∃ n,Z.length=n:=⟨_,rfl⟩
 have ax:=Kj hW.sl
 rw [hn] at ax aD
 have HN:=Kj hn
 have hpl:=hB.lt
 have ho3:=offS_le s
 clear hB hW hL eL hn
 go_enter Tryz.func110,Tryz.ntmps110
 go_upto_region 1 with fail
 refine wA 1 [iV 0] [5] nZ ?_
 intro w0 k0
 simp only [F8]
 go_wp2_with fail
 go_loopw [5] (fun x wr=>∃ (k:Nat),k≤n∧x=.int .i64 k∧Hid (∀ x ∈ L.take k,bet s x.1 price=true)∧Kept w wr) (fun x _=>n-(intOf x).toNat)
 case atStart=>exact ⟨0,Nat.zero_le _,rfl,by intro x hx;simp at hx,k0⟩
 obtain ⟨i,hi,rfl,HM,ad⟩:=hrel
 have aq:=Kj (ad.cell HV.out)
 have aG:=Kj (ad.cell HS.out)
 by_cases hlt:i<n
 ·skip
  obtain ⟨N,os,c,rfl⟩:=ax.out.some_ (by omega)
  obtain ⟨z,hz⟩:∃ z,Z[i]?=some z:=⟨Z[i]'(by rw [HN.out];omega),List.getElem?_eq_getElem (by rw [HN.out];omega)⟩
  obtain ⟨q,pr,X⟩:=z
  have HC:=Kj ((HW.out.kept ad).cell hz)
  have HZ:=Kj (split_at hz)
  have aI:=Kj ((HW.out.kept ad).lv (q,pr,X) (List.mem_of_getElem? hz))
  have HX:=Kj (HL.out.one (l:=(pr,X)) (by rw [← EL.out];exact qz (List.mem_of_getElem? hz)))
  have HA:Hid (L[i]?=some (pr,X)):=by show _=_;rw [← EL.out];exact qj hz
  clear hz
  go_upto_region 2 with fail
  refine wHp 22 [iV (i:Int),pV p (Qz s),pV p (Qz s),pV p (Qz s+1),.slice (some ⟨N,os,none⟩) n c,iV (n:Int),bV true,bV true,pV p (Qz s),pV p (Qz s),pV p (Qz s),iV s,pV p (Qz s),pV p (Qz s),pV p (Qz s+1),.slice (some ⟨N,os,none⟩) n c,iV (i:Int),pV N (os+i*1),pV q 0,iV pr,iV price,bV (bet s pr price)] [6,7,8,9,10,11,12,13,14,15,16,17,18,19,20,21,22,23,24,25,26,27] (nS 4 (ldC aq.out) (nS 5 (sV rfl (fun a u E D hk=>ZV _ _ _ slQ.und (some ⟨N,os,none⟩) n c rfl (dD D 4))) (nS 6 (aV rfl (fun a u E D hk=>YU rfl (dD D 0) (dD D 5)) (Ky (by omega))) (nS 11 (ldF (fun u hk=>Kept.cell hk (aG.out))) (nS 15 (ldC aq.out) (nS 17 (ixV slQ (os) n i ((i:Int)) (hlt)) (nS 18 (ldC HC.out) (nS 19 (cV Tryz.func109 (fun u hk=>yz u _ q X (aI.out.kept hk))) (nS 21 (cV Tryz.func94 (fun u hk=>better_any s pr price u)) nZ))))))))) ?_
  intro w1 k1
  simp only [F8]
  refine UJ (.bool (bet s pr price)) rfl (JQZ (.tmp 13) (.tmp 27) (.const (.bool false)) (.bool (bet s pr price)) rfl (by kernel_rfl) (by kernel_rfl)) ?_
  simp only [Act.put,sA,sS,sZ]
  refine Kx ?_
  have a4:=ad.trans k1
  have aB:=Kj (k1.cell HC.out)
  have aj:=Kj (aI.out.kept k1)
  have a6:=Kj (a4.cell HV.out)
  have O:=Kj (ax.out.kept a4)
  clear HC aI aq aG k1
  cases hb:bet s pr price with
  | true=>
   have aY:Hid (∀ x ∈ L.take (i+1),bet s x.1 price=true):=by
    intro x hx
    rw [List.take_add_one,HA.out] at hx
    rcases List.mem_append.1 hx with hx | hx
    ·exact HM.out x hx
    simp at hx
    subst hx
    exact hb
   clear HM hb
   go_wp2
   exact ⟨⟨i+1,by omega,by go_num,aY,a4⟩,by simp [intOf];omega⟩
  | false=>
   have HD:Hid (L=levs (Z.take i)++(pr,X)::levs (Z.drop (i+1))):=by
    show _=_
    rw [← EL.out]
    conv=>lhs;rw [HZ.out]
    rw [ZZ,VW]
   have HT:Hid (∀ x ∈ levs (Z.take i),bet s x.1 price=true):=by
    have e2:L.take i=levs (Z.take i):=by rw [← EL.out];simp [levs,List.map_take]
    rw [e2] at HM
    exact HM.out
   have aS:=Kj hb
   clear hb HM
   by_cases hpr:pr=price
   ·have aA:=Kj hpr
    clear hpr
    go_upto_region 4 with fail
    refine wA 19 [iV (i:Int),pV p (Qz s),pV p (Qz s),pV p (Qz s+1),.slice (some ⟨N,os,none⟩) n c,iV (n:Int),bV false,bV false,pV p (Qz s),pV p (Qz s),pV p (Qz s+1),.slice (some ⟨N,os,none⟩) n c,iV (i:Int),pV N (os+i*1),pV q 0,iV pr,iV price,bV false,bV false] [31,32,33,34,35,36,37,38,39,40,41,42,43,44,45,46,47,48,49] (nS 4 (ldC a6.out) (nS 5 (sV rfl (fun a u E D hk=>Jx _ slQ _ _ _ _ rfl (dD D 4) O.out)) (nS 6 (aV rfl (fun a u E D hk=>JY rfl (dD D 0) (dD D 5)) (Ku (by omega))) (nS 11 (ldC a6.out) (nS 13 (ixV slQ (os) n i ((i:Int)) (hlt)) (nS 14 (ldC aB.out) (nS 15 (cV Tryz.func109 (fun u hk=>yz u _ q X (aj.out.kept hk))) (nS 17 (aV rfl (fun a u E D hk=>Xj rfl (dD D 15) (dD D 16)) (Ku (by have:=aA.out;omega))) nZ)))))))) ?_
    intro w2 a8
    simp only [F8]
    have a8:=a4.trans a8
    have b2:=Kj (a8.cell HV.out)
    have aZ:=Kj ((HW.out.kept a8).cell (z:=(q,pr,X)) (i:=i) (by rw [HZ.out,List.getElem?_append_right (by rw [List.length_take];omega),List.length_take,HN.out,Nat.min_eq_left (by omega),Nat.sub_self];rfl))
    clear a6 aB aj O
    go_upto_region 6 with fail
    refine wA 8 [pV p (Qz s),pV p (Qz s),pV p (Qz s+1),.slice (some ⟨N,os,none⟩) n c,iV (i:Int),pV N (os+i*1),pV q 0,pV q 0] [62,63,64,65,66,67,68,4] (nS 3 (ldC b2.out) (nS 5 (ixV slQ (os) n i ((i:Int)) (hlt)) (nS 6 (ldC aZ.out) nZ))) ?_
    intro wz kz
    simp only [F8]
    have aN:=a8.trans kz
    have HR:Hid (∀ o:Ord,o.side=s→o.price=price→WY o L=levs (Z.take i)++(price,X++[Ent.of o])::levs (Z.drop (i+1))):=fun o h1 h2=>by
     rw [HD.out,restM_at (by rw [h1,h2];exact HT.out),WY,h1,h2,if_neg (by rw [aS.out];simp),if_pos aA.out,aA.out]
    have aU:Hid (WayZ 123 120 117 wz Fs (.slice (some ⟨N,os,none⟩) n c) (Z.take i++(q,price,X)::Z.drop (i+1)) G):=by show WayZ _ _ _ _ _ _ _ _;rw [← aA.out,← HZ.out];exact HW.out.kept aN
    have aX:=Kj (HB.out.kept aN)
    clear kz
    go_wp2
    go_ret
    exact ⟨q,X,Z.take i,Z.drop (i+1),_,Fs,G,rfl,aU.out,aX.out,Grow.refl _ _,Keep.mono (T:=fun b=>Fs b∨b=p) aN (fun _ _ h=>h.elim),HX.out,HR.out⟩
   skip
   go_upto_region 4 with fail
   refine wA 19 [iV (i:Int),pV p (Qz s),pV p (Qz s),pV p (Qz s+1),.slice (some ⟨N,os,none⟩) n c,iV (n:Int),bV false,bV false,pV p (Qz s),pV p (Qz s),pV p (Qz s+1),.slice (some ⟨N,os,none⟩) n c,iV (i:Int),pV N (os+i*1),pV q 0,iV pr,iV price,bV true,bV true] [31,32,33,34,35,36,37,38,39,40,41,42,43,44,45,46,47,48,49] (nS 4 (ldC a6.out) (nS 5 (sV rfl (fun a u E D hk=>Jx _ slQ _ _ _ _ rfl (dD D 4) O.out)) (nS 6 (aV rfl (fun a u E D hk=>JY rfl (dD D 0) (dD D 5)) (Ku (by omega))) (nS 11 (ldC a6.out) (nS 13 (ixV slQ (os) n i ((i:Int)) (hlt)) (nS 14 (ldC aB.out) (nS 15 (cV Tryz.func109 (fun u hk=>yz u _ q X (aj.out.kept hk))) (nS 17 (aV rfl (fun a u E D hk=>Xj rfl (dD D 15) (dD D 16)) (Ky hpr)) nZ)))))))) ?_
   intro w2 a8
   simp only [F8]
   have kW:=a4.trans a8
   have aM:∀ o:Ord,o.side=s→o.price=price→WY o L=levs (Z.take i)++(price,[]++[Ent.of o])::levs (Z.drop i):=fun o h1 h2=>by
    have e5:levs (Z.drop i)=(pr,X)::levs (Z.drop (i+1)):=by
     have:Z.drop i=(q,pr,X)::Z.drop (i+1):=by
      conv=>lhs;rw [HZ.out]
      rw [List.drop_append,List.drop_of_length_le (by rw [List.length_take];omega),List.nil_append,List.length_take,HN.out,Nat.min_eq_left (by omega),Nat.sub_self]
      rfl
     rw [this]
     rfl
    rw [e5,HD.out,restM_at (by rw [h1,h2];exact HT.out),WY,h1,h2,if_neg (by rw [aS.out];simp),if_neg (fun h=>hpr h)]
    rfl
   clear a6 aB aj O
   have J:=Kj (HW.out.kept kW)
   have ay:=Kj (HB.out.kept kW)
   have am:=Kj (kW.cell HV.out)
   have zW:=kW.size
   have au:∀ b,((.slice (some ⟨N,os,none⟩) n c):Value).ownBlock=some b→b<w2.heap.size:=fun b hb=>J.out.sl.lt hb
   have a3:=Kj au
   clear au
   go_upto_region 5 with fail
   refine wp_freeV 12 9 [0,1,2,3,4,5,6,7,8] [.eq (.pointer (some ⟨p,Qz s,none⟩)),.eq (.pointer (some ⟨p,Qz s,none⟩)),.eq (.pointer (some ⟨p,Qz s,none⟩)),.eq (.pointer (some ⟨p,Qz s+1,none⟩)),.eq (.slice (some ⟨N,os,none⟩) n c),.eq (.int .i64 (i:Int)),.eq (.int .i64 price),.newl w2.heap.size price,.onel w2.heap.size price,.ins w2.heap.size price (.slice (some ⟨N,os,none⟩) n c) n Z i,.eq (.pointer (some ⟨p,Qz s,none⟩)),.eq (.pointer (some ⟨p,Qz s+1,none⟩))] ((fun b=>((.slice (some ⟨N,os,none⟩) n c):Value).ownBlock=some b)) (by kernel_rfl) rfl (by omega) (by kernel_rfl) (by kernel_rfl) ?_ ?_ (fun a u I j hk=>v_call (o:=⟨some 59,_,_,_,_,_⟩) 121 #[.slice (some ⟨N,os,none⟩) n c,.int .i64 (i:Int),a.eval (.tmp 58)] rfl (JQ rfl _) (Jy 121 _ [.tmp 54,.tmp 55,.tmp 58] _ [.slice (some ⟨N,os,none⟩) n c,.int .i64 (i:Int),a.eval (.tmp 58)] Tryz.func121 (by kernel_rfl) (by kernel_rfl) rfl (show [a.eval (.tmp 54),a.eval (.tmp 55),a.eval (.tmp 58)]=[.slice (some ⟨N,os,none⟩) n c,.int .i64 (i:Int),a.eval (.tmp 58)] from (by rw [show a.eval (.tmp 54)=.slice (some ⟨N,os,none⟩) n c from (dD j 4),show a.eval (.tmp 55)=.int .i64 (i:Int) from (dD j 5)] <;> rfl)) u) ((by obtain ⟨g1,U,F1,hx,aJ,a2,ai,aH,b1⟩:=(j 8 58 (by kernel_rfl));rw [hx];exact ins_kn u w2 (.slice (some ⟨N,os,none⟩) n c) n i Z g1 U price F1 hk (by have h:=J.out.sl;rw [HN.out] at h;exact h) (by omega) (by omega) aJ a2 ai aH a3.out))) ?_
   ·intro i hi
    have aO:i=0∨i=1∨i=2∨i=3∨i=4∨i=5∨i=6∨i=7∨i=8:=by simpa using hi
    rcases aO with rfl | rfl | rfl | rfl | rfl | rfl | rfl | rfl | rfl
    ·exact Kn.safe_eq _ _
    ·exact Kn.safe_eq _ _
    ·exact Kn.safe_eq _ _
    ·exact Kn.safe_eq _ _
    ·exact Kn.safe_eq _ _
    ·exact Kn.safe_eq _ _
    ·exact Kn.safe_eq _ _
    ·exact Kn.safe_newl (fun b hb h=>by have:=a3.out b h;omega)
    exact Kn.safe_onel (fun b hb h=>by have:=a3.out b h;omega)
   ·refine XQ 1 rfl (fun a u I j hk=>Xq (o:=⟨some 50,_,_,_,_,_⟩) (.pointer (some ⟨p,Qz s,none⟩)) rfl (JQ rfl _) (Jq (.tmp 0) _ rfl (eE I)) rfl) ?_
    refine XQ 2 rfl (fun a u I j hk=>Xq _ rfl (JQ rfl _) (Jq (.tmp 0) _ rfl (eE I)) rfl) ?_
    refine XQ 3 rfl (fun a u I j hk=>Xq _ rfl (JQ rfl _) (ZU (.tmp 51) ⟨p,Qz s,none⟩ rfl (dD j 1)) rfl) ?_
    refine XQ 4 rfl (fun a u I j hk=>Xq _ rfl (JQ rfl _) (Jz 90 1 1 (.tmp 52) (p) (Qz s) (Qz s+1) rfl (dD j 2) (by kernel_rfl) rfl) rfl) ?_
    refine XQ 5 rfl (fun a u I j hk=>Xq _ rfl (JQ rfl _) (Qx 88 _ Tryz.underlying88 (.tmp 53) ⟨p,Qz s+1,none⟩ (.slice (some ⟨N,os,none⟩) n c) rfl (dD j 3) (Keep.cell hk (am.out) ((fun e=>(ak p (J.out.own p e).1) rfl)))) rfl) ?_
    refine XQ 6 rfl (fun a u I j hk=>Xq _ rfl (JQ rfl _) (Jq (.tmp 5) _ rfl (eE I)) rfl) ?_
    refine XQ 7 rfl (fun a u I j hk=>Xq _ rfl (JQ rfl _) (Jq (.tmp 1) _ rfl (eE I)) rfl) ?_
    refine XQ 8 rfl (fun a u I j hk=>Zj 122 #[.int .i64 price] rfl (JQ rfl _) (Jy 122 _ [.tmp 56] _ [.int .i64 price] Tryz.func122 (by kernel_rfl) (by kernel_rfl) rfl (show [a.eval (.tmp 56)]=[.int .i64 price] from (by rw [show a.eval (.tmp 56)=.int .i64 price from (dD j 6)] <;> rfl)) u) ((lnew_any price u).mono (fun e w' ⟨q,F,h1,h2,h3,h4⟩=>⟨_,h1,⟨q,F,rfl,h2,fun b hb=>(h3 b hb).elim (fun h=>h.elim) (fun h=>Kv hk.size h)⟩,h4⟩))) ?_
    refine XQ 9 rfl (fun a u I j hk=>(by obtain ⟨q,F,hx,h2,h3⟩:=(j 7 57 (by kernel_rfl));exact jV (.slice (some ⟨u.heap.size,0,none⟩) 1 1) _ rfl (JQ rfl _) (exec_oneP slQ (.tmp 57) q rfl hx) ⟨u.heap.size,q,F,rfl,Blk.new u _ _,h2.kept ((Keep.refl _ u).alloc _),h3,hk.size,fun h=>by have:=h2.2.1 _ h;omega⟩ ((Keep.refl _ u).alloc _))) ?_
    refine vsteps_turn 10 rfl rfl ?_
    refine XQ 11 rfl (fun a u I j hk=>Xq _ rfl (JQ rfl _) (ZU (.tmp 50) ⟨p,Qz s,none⟩ rfl (dD j 0)) rfl) ?_
    refine XQ 12 rfl (fun a u I j hk=>Xq _ rfl (JQ rfl _) (Jz 90 1 1 (.tmp 60) (p) (Qz s) (Qz s+1) rfl (dD j 10) (by kernel_rfl) rfl) rfl) ?_
    exact vsteps_nil
   intro gv wn hV ki
   rw [dq 12 [50,51,52,53,54,55,56,57,58,59,60,61]]
   simp only [Fz7]
   rw [show gv 61=.pointer (some ⟨p,Qz s+1,none⟩) from hV 11 61 (by kernel_rfl)]
   have aa:(.ins w2.heap.size price (.slice (some ⟨N,os,none⟩) n c) n Z i:Kn).p (gv 59) wn:=hV 9 59 (by kernel_rfl)
   generalize gv 59=v59 at aa ⊢
   clear hV
   obtain ⟨U,F1,a1,a2,ai,av⟩:=aa
   obtain ⟨vn,aE⟩:∃ x,x=v59:=⟨_,rfl⟩
   subst aE
   refine ZJ 88 p (Qz s+1) 92 _ vn _ _ rfl rfl (by kernel_rfl) (by kernel_rfl) (by kernel_rfl) (Zy a1) (Xy a1) (ay.out.keep ki (fun e=>(ak p (J.out.own p e).1) rfl)) (by rw [JQx];omega) ?_
   intro ws ae ag aK
   simp only [Act.put]
   refine Kx ?_
   rw [sideCs_set] at ae
   have hZ:Z=Z.take i++Z.drop i:=(List.take_append_drop i Z).symm
   have ab:(Z.take i).length=i:=by rw [List.length_take,HN.out];omega
   have a9:insP Z i U=ptrs (Z.take i++(U,price,([]:List Ent))::Z.drop i):=by
    unfold insP
    rw [jx]
    simp [ptrs,List.map_take,List.map_drop]
   have az:WayZ 123 120 117 w2 Fs (.slice (some ⟨N,os,none⟩) n c) (Z.take i++Z.drop i) G:=by rw [← hZ];exact J.out
   obtain ⟨ah,G',al,ar,aw,_⟩:=az.more (w':=wn) (v':=vn) (q:=U) (pr:=price) (F1:=F1) ki
    (by rw [← a9,ab,List.length_drop,HN.out,show i+1+(n-i)=n+1 by omega];exact a1) av a2 ai
   have an:Grow w Fs ah:=ar.wide zW
   have aQ:¬ ah p:=fun h=>(an p h).elim (fun h=>ak p h rfl) (fun h=>by omega)
   have ac:=al.keep ag (fun b hb e=>aQ (by rw [← e];exact hb))
   have K6:Keep (fun b=>Fs b∨b=p) w ws:=((Keep.mono (T:=fun b=>Fs b∨b=p) kW (fun _ _ h=>h.elim)).trans aw (fun b _ h=>.inl h)).trans ag (fun b _ h=>.inr h)
   have a5:=Kj ac
   have a7:=Kj ae
   have aL:(Z.take i++(U,price,([]:List Ent))::Z.drop i)[i]?=some (U,price,[]):=by
    rw [List.getElem?_append_right (by omega),ab,Nat.sub_self]
    rfl
   have H:(Z.take i++(U,price,([]:List Ent))::Z.drop i).length=n+1:=by
    rw [List.length_append,List.length_cons,ab,List.length_drop,HN.out]
    omega
   obtain ⟨af,os2,c2,rfl⟩:=ac.some_ (by rw [H];omega)
   rw [H] at a5 a7 ⊢
   have ao:Hid (ws.cell? ⟨p,Qz s+1,none⟩=some (.slice (some ⟨af,os2,none⟩) (n+1) c2)):=by show _=_;rw [a7.out.cell];exact xq s _ _ _ _
   have aR:=Kj (a5.out.cell aL)
   clear ae al ac aw ag aK a1 av a2 az ar a9 J ay am ki a3
   obtain ⟨m,hm⟩:∃ m,n+1=m:=⟨_,rfl⟩
   have aF:i<m:=by omega
   rw [hm] at a5 a7 ao H ⊢
   go_upto_region 6 with fail
   refine wA 8 [pV p (Qz s),pV p (Qz s),pV p (Qz s+1),.slice (some ⟨af,os2,none⟩) m c2,iV (i:Int),pV af (os2+i*1),pV U 0,pV U 0] [62,63,64,65,66,67,68,4] (nS 3 (ldC ao.out) (nS 5 (ixV slQ (os2) m i ((i:Int)) (aF)) (nS 6 (ldC aR.out) nZ))) ?_
   intro wz kz
   simp only [F8]
   have HR:=Kj (aM)
   go_wp2
   go_ret
   exact ⟨U,[],Z.take i,Z.drop i,_,ah,G',rfl,a5.out.kept kz,a7.out.kept kz,an,K6.kept kz,by simp,HR.out⟩
 have aW:i=n:=by omega
 subst aW
 have HT:Hid (∀ x ∈ levs (Z.take i),bet s x.1 price=true):=by
  have e2:L.take i=levs (Z.take i):=by rw [← EL.out];simp [levs,List.map_take]
  rw [e2] at HM
  exact HM.out
 clear HM
 have aC:=Kj (ax.out.kept ad)
 go_upto_region 2 with fail
 refine wHp 22 [iV (i:Int),pV p (Qz s),pV p (Qz s),pV p (Qz s+1),v,iV (i:Int),bV false,bV false,undef,undef,undef,undef,undef,undef,undef,undef,undef,undef,undef,undef,undef,undef] [6,7,8,9,10,11,12,13,14,15,16,17,18,19,20,21,22,23,24,25,26,27] (nS 4 (ldC aq.out) (nS 5 (sV rfl (fun a u E D hk=>Jx _ slQ _ _ _ _ rfl (dD D 4) aC.out)) (nS 6 (aV rfl (fun a u E D hk=>YU rfl (dD D 0) (dD D 5)) (Ku (by omega))) nZ))) ?_
 intro w1 k1
 simp only [F8]
 refine UJ (.bool false) rfl (exec_pickF (.tmp 13) (.tmp 27) (.const (.bool false)) (.bool false) rfl (by kernel_rfl) rfl) ?_
 simp only [Act.put,sA,sS,sZ]
 refine Kx ?_
 have a4:=ad.trans k1
 have a6:=Kj (a4.cell HV.out)
 have O:=Kj (ax.out.kept a4)
 clear aq aG k1 aC
 go_upto_region 4 with fail
 refine wA 19 [iV (i:Int),pV p (Qz s),pV p (Qz s),pV p (Qz s+1),v,iV (i:Int),bV true,bV true,undef,undef,undef,undef,undef,undef,undef,undef,undef,undef,bV true] [31,32,33,34,35,36,37,38,39,40,41,42,43,44,45,46,47,48,49] (nS 4 (ldC a6.out) (nS 5 (sV rfl (fun a u E D hk=>Jx _ slQ _ _ _ _ rfl (dD D 4) O.out)) (nS 6 (aV rfl (fun a u E D hk=>JY rfl (dD D 0) (dD D 5)) (Ky (by omega))) nZ))) ?_
 intro w2 a8
 simp only [F8]
 have kW:=a4.trans a8
 have aM:∀ o:Ord,o.side=s→o.price=price→WY o L=levs (Z.take i)++(price,[]++[Ent.of o])::levs (Z.drop i):=fun o h1 h2=>by
  have e5:Z.drop i=[]:=List.drop_of_length_le (by rw [HN.out];omega)
  have e6:L=levs (Z.take i):=by rw [← EL.out,List.take_of_length_le (by rw [HN.out];omega)]
  rw [e5]
  have h3:=restM_at (o:=o) (R:=[]) (A:=L) (by rw [h1,h2,e6];exact HT.out)
  rw [List.append_nil] at h3
  rw [h3,WY,h2,e6]
  rfl
 clear a6 O
 obtain ⟨n,b0⟩:∃ n,n=i:=⟨_,rfl⟩
 have aD:n≤64:=by omega
 have hin2:i≤n:=by omega
 have HN:Hid (Z.length=n):=by rw [b0];exact HN.out
 have J:=Kj (HW.out.kept kW)
 have ay:=Kj (HB.out.kept kW)
 have am:=Kj (kW.cell HV.out)
 have zW:=kW.size
 have au:∀ b,(v:Value).ownBlock=some b→b<w2.heap.size:=fun b hb=>J.out.sl.lt hb
 have a3:=Kj au
 clear au
 go_upto_region 5 with fail
 refine wp_freeV 12 9 [0,1,2,3,4,5,6,7,8] [.eq (.pointer (some ⟨p,Qz s,none⟩)),.eq (.pointer (some ⟨p,Qz s,none⟩)),.eq (.pointer (some ⟨p,Qz s,none⟩)),.eq (.pointer (some ⟨p,Qz s+1,none⟩)),.eq (v),.eq (.int .i64 (i:Int)),.eq (.int .i64 price),.newl w2.heap.size price,.onel w2.heap.size price,.ins w2.heap.size price v n Z i,.eq (.pointer (some ⟨p,Qz s,none⟩)),.eq (.pointer (some ⟨p,Qz s+1,none⟩))] ((fun b=>(v:Value).ownBlock=some b)) (by kernel_rfl) rfl (by omega) (by kernel_rfl) (by kernel_rfl) ?_ ?_ (fun a u I j hk=>v_call (o:=⟨some 59,_,_,_,_,_⟩) 121 #[v,.int .i64 (i:Int),a.eval (.tmp 58)] rfl (JQ rfl _) (Jy 121 _ [.tmp 54,.tmp 55,.tmp 58] _ [v,.int .i64 (i:Int),a.eval (.tmp 58)] Tryz.func121 (by kernel_rfl) (by kernel_rfl) rfl (show [a.eval (.tmp 54),a.eval (.tmp 55),a.eval (.tmp 58)]=[v,.int .i64 (i:Int),a.eval (.tmp 58)] from (by rw [show a.eval (.tmp 54)=v from (dD j 4),show a.eval (.tmp 55)=.int .i64 (i:Int) from (dD j 5)] <;> rfl)) u) ((by obtain ⟨g1,U,F1,hx,aJ,a2,ai,aH,b1⟩:=(j 8 58 (by kernel_rfl));rw [hx];exact ins_kn u w2 v n i Z g1 U price F1 hk (by have h:=J.out.sl;rw [HN.out] at h;exact h) (by omega) (by omega) aJ a2 ai aH a3.out))) ?_
 ·intro i hi
  have aO:i=0∨i=1∨i=2∨i=3∨i=4∨i=5∨i=6∨i=7∨i=8:=by simpa using hi
  rcases aO with rfl | rfl | rfl | rfl | rfl | rfl | rfl | rfl | rfl
  ·exact Kn.safe_eq _ _
  ·exact Kn.safe_eq _ _
  ·exact Kn.safe_eq _ _
  ·exact Kn.safe_eq _ _
  ·exact Kn.safe_eq _ _
  ·exact Kn.safe_eq _ _
  ·exact Kn.safe_eq _ _
  ·exact Kn.safe_newl (fun b hb h=>by have:=a3.out b h;omega)
  exact Kn.safe_onel (fun b hb h=>by have:=a3.out b h;omega)
 ·refine XQ 1 rfl (fun a u I j hk=>Xq (o:=⟨some 50,_,_,_,_,_⟩) (.pointer (some ⟨p,Qz s,none⟩)) rfl (JQ rfl _) (Jq (.tmp 0) _ rfl (eE I)) rfl) ?_
  refine XQ 2 rfl (fun a u I j hk=>Xq _ rfl (JQ rfl _) (Jq (.tmp 0) _ rfl (eE I)) rfl) ?_
  refine XQ 3 rfl (fun a u I j hk=>Xq _ rfl (JQ rfl _) (ZU (.tmp 51) ⟨p,Qz s,none⟩ rfl (dD j 1)) rfl) ?_
  refine XQ 4 rfl (fun a u I j hk=>Xq _ rfl (JQ rfl _) (Jz 90 1 1 (.tmp 52) (p) (Qz s) (Qz s+1) rfl (dD j 2) (by kernel_rfl) rfl) rfl) ?_
  refine XQ 5 rfl (fun a u I j hk=>Xq _ rfl (JQ rfl _) (Qx 88 _ Tryz.underlying88 (.tmp 53) ⟨p,Qz s+1,none⟩ (v) rfl (dD j 3) (Keep.cell hk (am.out) ((fun e=>(ak p (J.out.own p e).1) rfl)))) rfl) ?_
  refine XQ 6 rfl (fun a u I j hk=>Xq _ rfl (JQ rfl _) (Jq (.tmp 5) _ rfl (eE I)) rfl) ?_
  refine XQ 7 rfl (fun a u I j hk=>Xq _ rfl (JQ rfl _) (Jq (.tmp 1) _ rfl (eE I)) rfl) ?_
  refine XQ 8 rfl (fun a u I j hk=>Zj 122 #[.int .i64 price] rfl (JQ rfl _) (Jy 122 _ [.tmp 56] _ [.int .i64 price] Tryz.func122 (by kernel_rfl) (by kernel_rfl) rfl (show [a.eval (.tmp 56)]=[.int .i64 price] from (by rw [show a.eval (.tmp 56)=.int .i64 price from (dD j 6)] <;> rfl)) u) ((lnew_any price u).mono (fun e w' ⟨q,F,h1,h2,h3,h4⟩=>⟨_,h1,⟨q,F,rfl,h2,fun b hb=>(h3 b hb).elim (fun h=>h.elim) (fun h=>Kv hk.size h)⟩,h4⟩))) ?_
  refine XQ 9 rfl (fun a u I j hk=>(by obtain ⟨q,F,hx,h2,h3⟩:=(j 7 57 (by kernel_rfl));exact jV (.slice (some ⟨u.heap.size,0,none⟩) 1 1) _ rfl (JQ rfl _) (exec_oneP slQ (.tmp 57) q rfl hx) ⟨u.heap.size,q,F,rfl,Blk.new u _ _,h2.kept ((Keep.refl _ u).alloc _),h3,hk.size,fun h=>by have:=h2.2.1 _ h;omega⟩ ((Keep.refl _ u).alloc _))) ?_
  refine vsteps_turn 10 rfl rfl ?_
  refine XQ 11 rfl (fun a u I j hk=>Xq _ rfl (JQ rfl _) (ZU (.tmp 50) ⟨p,Qz s,none⟩ rfl (dD j 0)) rfl) ?_
  refine XQ 12 rfl (fun a u I j hk=>Xq _ rfl (JQ rfl _) (Jz 90 1 1 (.tmp 60) (p) (Qz s) (Qz s+1) rfl (dD j 10) (by kernel_rfl) rfl) rfl) ?_
  exact vsteps_nil
 intro gv wn hV ki
 rw [dq 12 [50,51,52,53,54,55,56,57,58,59,60,61]]
 simp only [Fz7]
 rw [show gv 61=.pointer (some ⟨p,Qz s+1,none⟩) from hV 11 61 (by kernel_rfl)]
 have aa:(.ins w2.heap.size price v n Z i:Kn).p (gv 59) wn:=hV 9 59 (by kernel_rfl)
 generalize gv 59=v59 at aa ⊢
 clear hV
 obtain ⟨U,F1,a1,a2,ai,av⟩:=aa
 obtain ⟨vn,aE⟩:∃ x,x=v59:=⟨_,rfl⟩
 subst aE
 refine ZJ 88 p (Qz s+1) 92 _ vn _ _ rfl rfl (by kernel_rfl) (by kernel_rfl) (by kernel_rfl) (Zy a1) (Xy a1) (ay.out.keep ki (fun e=>(ak p (J.out.own p e).1) rfl)) (by rw [JQx];omega) ?_
 intro ws ae ag aK
 simp only [Act.put]
 refine Kx ?_
 rw [sideCs_set] at ae
 have hZ:Z=Z.take i++Z.drop i:=(List.take_append_drop i Z).symm
 have ab:(Z.take i).length=i:=by rw [List.length_take,HN.out];omega
 have a9:insP Z i U=ptrs (Z.take i++(U,price,([]:List Ent))::Z.drop i):=by
  unfold insP
  rw [jx]
  simp [ptrs,List.map_take,List.map_drop]
 have az:WayZ 123 120 117 w2 Fs v (Z.take i++Z.drop i) G:=by rw [← hZ];exact J.out
 obtain ⟨ah,G',al,ar,aw,_⟩:=az.more (w':=wn) (v':=vn) (q:=U) (pr:=price) (F1:=F1) ki
  (by rw [← a9,ab,List.length_drop,HN.out,show i+1+(n-i)=n+1 by omega];exact a1) av a2 ai
 have an:Grow w Fs ah:=ar.wide zW
 have aQ:¬ ah p:=fun h=>(an p h).elim (fun h=>ak p h rfl) (fun h=>by omega)
 have ac:=al.keep ag (fun b hb e=>aQ (by rw [← e];exact hb))
 have K6:Keep (fun b=>Fs b∨b=p) w ws:=((Keep.mono (T:=fun b=>Fs b∨b=p) kW (fun _ _ h=>h.elim)).trans aw (fun b _ h=>.inl h)).trans ag (fun b _ h=>.inr h)
 have a5:=Kj ac
 have a7:=Kj ae
 have aL:(Z.take i++(U,price,([]:List Ent))::Z.drop i)[i]?=some (U,price,[]):=by
  rw [List.getElem?_append_right (by omega),ab,Nat.sub_self]
  rfl
 have H:(Z.take i++(U,price,([]:List Ent))::Z.drop i).length=n+1:=by
  rw [List.length_append,List.length_cons,ab,List.length_drop,HN.out]
  omega
 obtain ⟨af,os2,c2,rfl⟩:=ac.some_ (by rw [H];omega)
 rw [H] at a5 a7 ⊢
 have ao:Hid (ws.cell? ⟨p,Qz s+1,none⟩=some (.slice (some ⟨af,os2,none⟩) (n+1) c2)):=by show _=_;rw [a7.out.cell];exact xq s _ _ _ _
 have aR:=Kj (a5.out.cell aL)
 clear ae al ac aw ag aK a1 av a2 az ar a9 J ay am ki a3
 obtain ⟨m,hm⟩:∃ m,n+1=m:=⟨_,rfl⟩
 have aF:i<m:=by omega
 rw [hm] at a5 a7 ao H ⊢
 go_upto_region 6 with fail
 refine wA 8 [pV p (Qz s),pV p (Qz s),pV p (Qz s+1),.slice (some ⟨af,os2,none⟩) m c2,iV (i:Int),pV af (os2+i*1),pV U 0,pV U 0] [62,63,64,65,66,67,68,4] (nS 3 (ldC ao.out) (nS 5 (ixV slQ (os2) m i ((i:Int)) (aF)) (nS 6 (ldC aR.out) nZ))) ?_
 intro wz kz
 simp only [F8]
 have HR:=Kj (aM)
 go_wp2
 go_ret
 exact ⟨U,[],Z.take i,Z.drop i,_,ah,G',rfl,a5.out.kept kz,a7.out.kept kz,an,K6.kept kz,by simp,HR.out⟩
theorem of_eq (w:World) (p:Nat) (s:Int) (hs:s=1∨s=2):Gives 72 #[.pointer (some ⟨p,0,none⟩),.int .i64 s] w (.eq (.pointer (some ⟨p,Qz s,none⟩))):=by
 refine QW ?_
 rcases hs with rfl | rfl
 ·have J:Hid (Qz 1=0):=rfl
  go_enter Tryz.func72,Tryz.ntmps72
  go_upto_region 1 with fail
  refine wA 1 [iV 1] [5] nZ ?_
  intro w1 j
  simp only [F8]
  go_upto_region 2 with fail
  refine wA 2 [bV true,bV true] [7,6] (nS 0 (aV rfl (fun a u E D hk=>JY (p:=1) (q:=1) rfl (eE E) rfl) (Ky rfl)) nZ) ?_
  intro U I
  simp only [F8]
  go_upto_region 3 with fail
  refine wA 4 [pV p 0,pV p 0,pV p 0,pV p 0] [8,9,10,4] nZ ?_
  intro w3 H
  simp only [F8]
  have N:=(j.trans I).trans H
  clear j I H
  go_wp2
  go_ret
  exact ⟨by rw [J.out];rfl,N⟩
 have J:Hid (Qz 2=2):=rfl
 go_enter Tryz.func72,Tryz.ntmps72
 go_upto_region 1 with fail
 refine wA 1 [iV 2] [5] nZ ?_
 intro w1 j
 simp only [F8]
 go_upto_region 2 with fail
 refine wA 2 [bV false,bV false] [7,6] (nS 0 (aV rfl (fun a u E D hk=>JY (p:=2) (q:=1) rfl (eE E) rfl) (Ku (by decide))) nZ) ?_
 intro U I
 simp only [F8]
 go_upto_region 4 with fail
 refine wA 2 [bV true,bV true] [12,11] (nS 0 (aV rfl (fun a u E D hk=>JY (p:=2) (q:=2) rfl (eE E) rfl) (Ky rfl)) nZ) ?_
 intro w3 H
 simp only [F8]
 go_upto_region 5 with fail
 refine wA 4 [pV p 0,pV p 0,pV p 2,pV p 2] [13,14,15,4] nZ ?_
 intro w4 O
 simp only [F8]
 have N:=((j.trans I).trans H).trans O
 clear j I H O
 go_wp2
 go_ret
 exact ⟨by rw [J.out];rfl,N⟩
theorem jQ (w:World) (p:Nat) (c:Ord) (j:c.side=1∨c.side=2):Gives 104 #[.pointer (some ⟨p,0,none⟩),c.v] w (.eq (.pointer (some ⟨p,Qz (3-c.side),none⟩))):=by
 refine QW ?_
 go_enter Tryz.func104,Tryz.ntmps104
 go_upto_region 0 with fail
 refine tAp 2 [.k (.fresh w.heap.size 35 (c.cells)),.v (.pointer none)] (nS 0 (nV rfl (fun a u E D hk=>⟨_,_,XV 35 _ (c.cells) rfl (eE E),⟨_,rfl,hk.size,Blk.new u _ _⟩,((Keep.refl _ u).alloc _)⟩)) nZ) ?_
 intro gv w1 hV N
 rw [dq 2 [3,4]]
 simp only [Fz7]
 have J:(.fresh w.heap.size 35 (c.cells):Kn).p (gv 3) w1:=hV 0 3 (by kernel_rfl)
 generalize gv 3=v3 at J ⊢
 rw [gQ hV 1 4 (.pointer none)]
 clear hV
 obtain ⟨g,rfl,hg,hB⟩:=J
 refine Kx ?_
 have HB:=Kj (JX hB)
 clear hB
 rcases j with j | j
 ·skip
  have O:Hid (Qz (3-c.side)=2):=by show _=_;rw [j] <;> rfl
  go_upto_region 1 with fail
  refine wA 3 [pV g 3,iV c.side,bV true] [5,6,7] (nS 1 (ldR HB.out 3) (nS 2 (aV rfl (fun a u E D hk=>JY rfl (dD D 1) rfl) (Ky (by omega))) nZ)) ?_
  intro w2 I
  simp only [F8]
  clear j
  go_upto_region 2 with fail
  refine wA 4 [pV p 0,pV p 0,pV p 2,pV p 2] [8,9,10,4] nZ ?_
  intro w3 H
  simp only [F8]
  have U:=(N.trans I).trans H
  clear N I H
  go_wp2
  go_ret
  exact ⟨by rw [O.out];rfl,U⟩
 skip
 have O:Hid (Qz (3-c.side)=0):=by show _=_;rw [j] <;> rfl
 go_upto_region 1 with fail
 refine wA 3 [pV g 3,iV c.side,bV false] [5,6,7] (nS 1 (ldR HB.out 3) (nS 2 (aV rfl (fun a u E D hk=>JY rfl (dD D 1) rfl) (Ku (by omega))) nZ)) ?_
 intro w2 I
 simp only [F8]
 clear j
 go_upto_region 3 with fail
 refine wA 4 [pV p 0,pV p 0,pV p 0,pV p 0] [11,12,13,4] nZ ?_
 intro w3 H
 simp only [F8]
 have U:=(N.trans I).trans H
 clear N I H
 go_wp2
 go_ret
 exact ⟨by rw [O.out];rfl,U⟩
theorem JJU (w:World) (c:Ord):Gives 97 #[c.v] w (.eq (.bool (decide (c.k=1) || decide (c.k=5)))):=by
 refine QW ?_
 go_enter Tryz.func97,Tryz.ntmps97
 go_upto_region 0 with fail
 refine tAp 2 [.k (.fresh w.heap.size 35 (c.cells)),bK false] (nS 0 (nV rfl (fun a u E D hk=>⟨_,_,XV 35 _ (c.cells) rfl (eE E),⟨_,rfl,hk.size,Blk.new u _ _⟩,((Keep.refl _ u).alloc _)⟩)) nZ) ?_
 intro gv w1 j N
 rw [dq 2 [1,2]]
 simp only [Fz7]
 have H:(.fresh w.heap.size 35 (c.cells):Kn).p (gv 1) w1:=j 0 1 (by kernel_rfl)
 generalize gv 1=v1 at H ⊢
 rw [gQ j 1 2 (.bool false)]
 clear j
 obtain ⟨g,rfl,hg,U⟩:=H
 refine Kx ?_
 have HB:=Kj (JX U)
 clear U
 go_upto_region 1 with fail
 refine tA 9 [pK g 4,iK c.k,bK (decide ((c.k:Int)=(1:Int))),bK (decide ((c.k:Int)=(1:Int))),.k (.cond (!(decide ((c.k:Int)=(1:Int)))) (pE g 4)),.k (.cond (!(decide ((c.k:Int)=(1:Int)))) (iE c.k)),.k (.cond (!(decide ((c.k:Int)=(1:Int)))) (bE (decide ((c.k:Int)=(5:Int))))),bK ((decide ((c.k:Int)=(1:Int))) || (decide ((c.k:Int)=(5:Int)))),bK ((decide ((c.k:Int)=(1:Int))) || (decide ((c.k:Int)=(5:Int))))] [3,4,5,6,7,8,9,10,2] (nS 1 (ldR HB.out 4) (nS 2 (sV rfl (fun a u E D hk=>JY rfl (dD D 1) rfl)) (nS 4 (fS (uC 5 3 rfl (fun a u E D hk I=>Jz 35 4 4 _ (g) (0) (4) rfl (eE E) (by kernel_rfl) rfl) fz)) (nS 5 (fS (uC 6 3 rfl (fun a u E D hk I=>JZ _ Tryz.underlying3 _ _ _ rfl ((D 4 7 (by kernel_rfl)).1 I) (Xx (JJ HB.out hk) 4 _ rfl)) fz)) (nS 6 (fS (uC 7 3 rfl (fun a u E D hk I=>JY rfl ((D 5 8 (by kernel_rfl)).1 I) rfl) fz)) (nS 7 (sV rfl (fun a u E D hk=>ZY _ _ _ ((decide ((c.k:Int)=(1:Int)))) ((decide ((c.k:Int)=(5:Int)))) rfl (dD D 3) rfl (fun J=>((D 6 9 (by kernel_rfl)).1 J)))) nZ)))))) ?_
 intro gv w2 j O
 simp only [Fz7]
 rw [gQ j 8 2 (.bool ((decide ((c.k:Int)=(1:Int))) || (decide ((c.k:Int)=(5:Int)))))]
 clear j
 have kw:=N.trans O
 clear N O
 go_wp2
 go_ret
 exact ⟨rfl,kw⟩
def Kn.at_ (base:Nat) (Fs:Nat→Prop) (p:Nat) (s:Int) (u0:Value) (last no:Int) (L:List Lev) (price:Int):Kn:=⟨fun v w=>∃ q X ZA ZR v' Fs' G',v=.pointer (some ⟨q,0,none⟩)∧WayZ 123 120 117 w Fs' v' (ZA++(q,price,X)::ZR) G'∧Blk w p 92 (WX s v' u0 last no)∧(∀ b,Fs' b→Fs b∨base≤b)∧X.length≤64∧∀ o:Ord,o.side=s→o.price=price→WY o L=levs ZA++(price,X++[Ent.of o])::levs ZR,
 fun _ _ _ ⟨q,X,ZA,ZR,v',Fs',G',h1,h2,h3,h4⟩ hk=>⟨q,X,ZA,ZR,v',Fs',G',h1,h2.kept hk,h3.kept hk,h4⟩⟩
theorem at_kn (u W:World) (j:Nat→Prop) (p:Nat) (s price:Int) (v u0:Value) (last no:Int) (Z:Zs) (G:Nat→Nat→Prop) (L:List Lev) (hk:Kept W u) (hs:s=1∨s=2) (hW:WayZ 123 120 117 W j v Z G) (hB:Blk W p 92 (WX s v u0 last no)) (D:∀ b,j b→b≠p) (J:levs Z=L) (U:LvsOk L) :
  Calls Tryz.prog 110 #[.pointer (some ⟨p,Qz s,none⟩),.int .i64 price] u fun e w'=>∃ v,e=.returned v∧(Kn.at_ W.heap.size j p s u0 last no L price).p v w'∧Keep (fun b=>j b∨b=p) u w':=by
 refine (at_any u j p s price v u0 last no Z G L hs (hW.kept hk) (hB.kept hk) D J U).mono ?_
 rintro r w' ⟨q,X,ZA,N,v',H,G',h1,h2,h3,h4,I,h6,O⟩
 exact ⟨_,h1,⟨q,X,ZA,N,v',H,G',rfl,h2,h3,fun b hb=>(h4 b hb).imp id (fun h=>Kv hk.size h),h6,O⟩,I⟩
theorem cut_l (o:Ord) (n:Int):(stc ((o.l.set 6 n).set 7 (mn o.shw n)) [])=(o.cut n).cells:=rfl
theorem rest_any (w:World) (F:Nat→Prop) (p:Nat) (B:Bok) (o:Ord) (n:Int) (h:Bk w F p B) (hs:o.side=1∨o.side=2) (hL:LvsOk (B.sd o.side)) :
  Calls Tryz.prog 98 #[.pointer (some ⟨p,0,none⟩),o.v,.int .i64 n] w fun r w'=>∃ F',r=.returned (.tuple #[])∧Bk w' F' p (B.to o.side (WY (o.cut n) (B.sd o.side)) B.last B.no)∧Grow w F F'∧Keep F w w':=by
 obtain ⟨L,a4⟩:∃ L,B.sd o.side=L:=⟨_,rfl⟩
 rw [a4] at hL ⊢
 have ai:=Kj a4
 have a6:=h.lt
 have HK:=Kj h
 have HL:=Kj hL
 have aq:=h.1
 clear h hL a4
 go_enter Tryz.func98,Tryz.ntmps98
 go_upto_region 0 with fail
 refine tAp 1 [.k (.fresh w.heap.size 35 (o.cells))] (nS 0 (nV rfl (fun a u E D hk=>⟨_,_,XV 35 _ (o.cells) rfl (eE E),⟨_,rfl,hk.size,Blk.new u _ _⟩,((Keep.refl _ u).alloc _)⟩)) nZ) ?_
 intro gv w0 hV k0
 rw [dq 1 [4]]
 simp only [Fz7]
 have a9:(.fresh w.heap.size 35 (o.cells):Kn).p (gv 4) w0:=hV 0 4 (by kernel_rfl)
 generalize gv 4=v4 at a9 ⊢
 clear hV
 obtain ⟨g,rfl,hg,hB⟩:=a9
 refine Kx ?_
 have z0:=k0.size
 have lg:=hB.lt
 go_upto_region 1 with fail
 refine wAp 2 [iV n,pV g 6] [6,7] nZ ?_
 intro w1 k1
 simp only [F8]
 refine xy g 6 35 o.l [] n _ _ rfl rfl (by kernel_rfl) (by kernel_rfl) (hB.kept k1) (by simp [Ord.l]) ?_
 intro w2 J aj ax
 simp only [Act.put]
 refine Kx ?_
 have ae:Kept w w2:=(k0.trans k1).trans' aj (by omega)
 have aA:=Kj (JX J)
 have z2:=k1.size
 go_upto_region 2 with fail
 refine wAp 5 [pV g 7,iV o.shw,iV n,iV (mn (o.shw) (n)),pV g 7] [8,9,10,11,12] (nS 1 (sV rfl (fun a u E D hk=>JZ _ Tryz.underlying3 _ _ _ rfl (dD D 0) (by rw [(J.kept hk).cell];rfl))) (nS 3 (sV rfl (fun a u E D hk=>jW _ _ _ (o.shw) (n) (mn (o.shw) (n)) rfl (dD D 1) (dD D 2) rfl)) nZ)) ?_
 intro w3 k3
 simp only [F8]
 refine xy g 7 35 (o.l.set 6 n) [] (mn o.shw n) _ _ rfl rfl (by kernel_rfl) (by kernel_rfl) (J.kept k3) (by simp [Ord.l]) ?_
 intro w4 O ac aw
 simp only [Act.put]
 refine Kx ?_
 rw [cut_l] at O
 have U:Kept w w4:=(ae.trans k3).trans' ac (by omega)
 have HO:=Kj (JX O)
 have lg4:=O.lt
 clear hB J O aj ac ax aw k0 k1 k3 aA ae
 obtain ⟨c,hc⟩:∃ c,o.cut n=c:=⟨_,rfl⟩
 have af:c.side=o.side:=by rw [← hc];rfl
 have ak:c.price=o.price:=by rw [← hc];rfl
 rw [hc] at HO
 obtain ⟨s,N⟩:∃ s,o.side=s:=⟨_,rfl⟩
 have a8:Hid (c.side=s):=by show _=_;rw [af,N]
 have aB:=Kj N
 have ay:=Kj hc
 rw [N] at hs ai
 have HCP:=Kj ak
 obtain ⟨v,u0,Z,G,Fs,eL,hW,ag,a7,hp,hlt,hJ⟩:=(HK.out.kept U).open_ hs
 rw [ai.out] at eL
 have HW:=Kj hW
 have av:=Kj ag
 have EL:=Kj eL
 have HJ:=Kj hJ
 have a3:¬ (Fs g∨g=p):=fun h=>by
  rcases h with h | h
  ·have:=a6 g (a7 g h).1;omega
  have:=a6 p aq;omega
 have aa:=Kj a7
 clear hW ag eL hJ af ak N hc a7
 go_upto_region 3 with fail
 refine wp_freeV 8 6 [0,1,2,3,4,5,7] [.eq (.pointer (some ⟨p,0,none⟩)),.eq (.pointer (some ⟨g,3,none⟩)),.eq (.int .i64 c.side),.eq (.pointer (some ⟨p,Qz s,none⟩)),.eq (.pointer (some ⟨g,5,none⟩)),.eq (.int .i64 c.price),.at_ w4.heap.size Fs p s u0 B.last B.no L c.price,.eq (c.v)] ((fun b=>Fs b∨b=p)) (by kernel_rfl) rfl (by omega) (by kernel_rfl) (by kernel_rfl) ?_ ?_ (fun a u I j hk=>v_call (o:=⟨some 19,_,_,_,_,_⟩) 110 #[.pointer (some ⟨p,Qz s,none⟩),.int .i64 c.price] rfl (JQ rfl _) (Jy 110 _ [.tmp 16,.tmp 18] _ [.pointer (some ⟨p,Qz s,none⟩),.int .i64 c.price] Tryz.func110 (by kernel_rfl) (by kernel_rfl) rfl (show [a.eval (.tmp 16),a.eval (.tmp 18)]=[.pointer (some ⟨p,Qz s,none⟩),.int .i64 c.price] from (by rw [show a.eval (.tmp 16)=.pointer (some ⟨p,Qz s,none⟩) from (dD j 3),show a.eval (.tmp 18)=.int .i64 c.price from (dD j 5)] <;> rfl)) u) (at_kn u w4 Fs p s c.price v u0 B.last B.no Z G L hk hs HW.out av.out (fun b hb=>(aa.out b hb).2) EL.out HL.out)) ?_
 ·intro i hi
  have aD:i=0∨i=1∨i=2∨i=3∨i=4∨i=5∨i=7:=by simpa using hi
  rcases aD with rfl | rfl | rfl | rfl | rfl | rfl | rfl
  ·exact Kn.safe_eq _ _
  ·exact Kn.safe_eq _ _
  ·exact Kn.safe_eq _ _
  ·exact Kn.safe_eq _ _
  ·exact Kn.safe_eq _ _
  ·exact Kn.safe_eq _ _
  exact Kn.safe_eq _ _
 ·refine XQ 1 rfl (fun a u I j hk=>Xq (o:=⟨some 13,_,_,_,_,_⟩) (.pointer (some ⟨p,0,none⟩)) rfl (JQ rfl _) (Jq (.tmp 0) _ rfl (eE I)) rfl) ?_
  refine XQ 2 rfl (fun a u I j hk=>Xq _ rfl (JQ rfl _) (Jz 35 3 3 (.tmp 4) (g) (0) (3) rfl (eE I) (by kernel_rfl) rfl) rfl) ?_
  refine XQ 3 rfl (fun a u I j hk=>Xq _ rfl (JQ rfl _) (JZ 3 Tryz.underlying3 (.tmp 14) ⟨g,3,none⟩ (.int .i64 c.side) rfl (dD j 1) (Xx (QJ HO.out hk (a3)) 3 _ rfl)) rfl) ?_
  refine XQ 4 rfl (fun a u I j hk=>Zj 72 #[.pointer (some ⟨p,0,none⟩),.int .i64 c.side] rfl (JQ rfl _) (Jy 72 _ [.tmp 13,.tmp 15] _ [.pointer (some ⟨p,0,none⟩),.int .i64 c.side] Tryz.func72 (by kernel_rfl) (by kernel_rfl) rfl (show [a.eval (.tmp 13),a.eval (.tmp 15)]=[.pointer (some ⟨p,0,none⟩),.int .i64 c.side] from (by rw [show a.eval (.tmp 13)=.pointer (some ⟨p,0,none⟩) from (dD j 0),show a.eval (.tmp 15)=.int .i64 c.side from (dD j 2)] <;> rfl)) u) ((by rw [a8.out];exact of_eq u p s hs))) ?_
  refine XQ 5 rfl (fun a u I j hk=>Xq _ rfl (JQ rfl _) (Jz 35 5 5 (.tmp 4) (g) (0) (5) rfl (eE I) (by kernel_rfl) rfl) rfl) ?_
  refine XQ 6 rfl (fun a u I j hk=>Xq _ rfl (JQ rfl _) (JZ 3 Tryz.underlying3 (.tmp 17) ⟨g,5,none⟩ (.int .i64 c.price) rfl (dD j 4) (Xx (QJ HO.out hk (a3)) 5 _ rfl)) rfl) ?_
  refine vsteps_turn 7 rfl rfl ?_
  refine XQ 8 rfl (fun a u I j hk=>Xq _ rfl (JQ rfl _) (xW 35 _ (.tmp 4) (g) (0) (c.cells) rfl (eE I) (QJ HO.out hk (a3)) Tryz.underlying35 (by rw [c.len9];exact JU)) rfl) ?_
  exact vsteps_nil
 intro gv w5 hV k5
 rw [dq 8 [13,14,15,16,17,18,19,20]]
 simp only [Fz7]
 have a2:(.at_ w4.heap.size Fs p s u0 B.last B.no L c.price:Kn).p (gv 19) w5:=hV 6 19 (by kernel_rfl)
 generalize gv 19=v19 at a2 ⊢
 rw [show gv 20=c.v from hV 7 20 (by kernel_rfl)]
 clear hV
 obtain ⟨q,X,ZA,ZR,v',aC,G',rfl,a1,au,a5,hX5,al⟩:=a2
 have hq:=a1.lv (q,c.price,X) (by simp)
 have hqF:=a1.in_ (q,c.price,X) (by simp)
 refine cT Tryz.func111 [.pointer (some ⟨q,0,none⟩),c.v] ?_
 refine (add_any w5 _ q X c hq (by omega)).mono ?_
 rintro r w6 ⟨F6,rfl,ad,am,ah⟩
 refine ⟨_,rfl,?_⟩
 simp only [Act.put,sA,sS,sZ]
 refine Kx ?_
 obtain ⟨az,G2,ab,an,H,_⟩:=a1.turn ah ad am
 have z5:=k5.size
 have ao:¬ aC p:=fun h=>(a5 p h).elim (fun h=>(aa.out p h).2 rfl) (fun h=>by have:=a6 p aq;have:=U.size;omega)
 have ar:=au.keep H ao
 have K6:Keep (fun b=>Fs b∨b=p) w4 w6:=k5.trans H (fun b hb h=>(a5 b h).elim .inl (fun h=>by omega))
 have G6:Grow w4 Fs az:=fun b hb=>(an b hb).elim (fun h=>a5 b h) (fun h=>.inr (by omega))
 obtain ⟨F',q1,q2,q3,_⟩:=HJ.out w6 _ _ _ _ _ K6 ar ⟨_,_,rfl,ab⟩ G6
 have HR:Hid (Bk w6 F' p (B.to s (WY c L) B.last B.no)):=by
  show Bk _ _ _ _
  rw [al c a8.out rfl]
  rw [ZZ,VW] at q1
  exact q1
 have Q2:Grow w F F':=q2.wide U.size
 have Q3:Keep F w w6:=Keep.any U q3
 clear q1 ab ar K6 G6 a1 au al hq ad ah am H an q2 q3
 go_wp2
 go_end0
 rw [ay.out,aB.out]
 first | exact ⟨rfl,F',HR.out,Q2,Q3⟩ | exact ⟨F',rfl,HR.out,Q2,Q3⟩
theorem growO_any (w:World) (v:Value) (n m:Nat) (cs:List Value) (hS:Sl w 35 9 v n cs) (hn:n+m≤100000000) :
  Calls Tryz.prog 71 #[v,.int .i64 (m:Int)] w fun r w'=>∃ v',r=.returned v'∧Sl w' 35 9 v' n cs∧Kept w w'∧∀ b,v'.ownBlock=some b→v.ownBlock=some b∨w.heap.size≤b:=by
 obtain ⟨A,c,rfl⟩:=hS.slice_
 obtain ⟨a2,U,hA⟩:=hS.cap
 have hcm':c≤9223372036854775807:=by unfold maxLen at U;omega
 have O:=Kj hS
 have HA:=Kj hA
 clear hS hA U
 go_enter Tryz.func71,Tryz.ntmps71
 go_upto_region 1 with fail
 refine wA 2 [iV (m:Int),bV false] [5,6] (nS 1 (aV rfl (fun a u E D hk=>YU rfl (dD D 0) rfl) (Ku (by omega))) nZ) ?_
 intro w1 k1
 simp only [F8]
 go_upto_region 3 with fail
 refine wAp 7 [iV (m:Int),.slice A n c,iV (c:Int),.slice A n c,iV (n:Int),iV (((c:Int):Int)-((n:Int):Int)),iV (((m:Int):Int)-((((c:Int):Int)-((n:Int):Int)):Int))] [8,9,10,11,12,13,14] (nS 2 (sV rfl (fun a u E D hk=>JQX _ A n c slO.und rfl (dD D 1))) (nS 4 (sV rfl (fun a u E D hk=>ZV _ _ _ slO.und A n c rfl (dD D 3))) (nS 5 (sV rfl (fun a u E D hk=>Zz (p:=((c:Int))) (q:=((n:Int))) (((c:Int):Int)-((n:Int):Int)) rfl (dD D 2) (dD D 4) rfl (by omega) (by omega))) (nS 6 (sV rfl (fun a u E D hk=>Zz (p:=((m:Int))) (q:=((((c:Int):Int)-((n:Int):Int)))) (((m:Int):Int)-((((c:Int):Int)-((n:Int):Int)):Int)) rfl (dD D 0) (dD D 5) rfl (by omega) (by omega))) nZ)))) ?_
 intro w2 k2
 simp only [F8]
 refine aT (.int .i64 (((m:Int):Int)-((((c:Int):Int)-((n:Int):Int)):Int))) ?_
 simp only [Act.put,sA,sS,sZ]
 refine Kx ?_
 have I:=k1.trans k2
 clear k1 k2
 by_cases hr:(m:Int)-((c:Int)-(n:Int)) > 0
 ·skip
  obtain ⟨ds,a6,a5,a4⟩:∃ ds:List Value,ds.length=c*9∧Sl w 35 9 (.slice A c c) c ds∧ds.take (n*9)=cs:=by
   cases A with
   | none=>
    have h0:=HA.out rfl
    subst h0
    have a8:n=0:=by omega
    subst a8
    have:=O.out.len
    exact ⟨cs,by omega,O.out,by rw [List.take_of_length_le (by omega)]⟩
   | some ad=>
    obtain ⟨g,off,c',e⟩:∃ g off c',Value.slice (some ad) n c=.slice (some ⟨g,off,none⟩) n c':=by
     obtain ⟨_,A',c2,e',_,_,_,h4⟩:=O.out
     injection e' with e1 e2 e3
     subst e1 e3
     obtain ⟨g,off,cur,rfl,_⟩:=h4 _ rfl
     exact ⟨g,off,c,rfl⟩
    injection e with e1 e2 e3
    injection e1 with e1
    subst e1
    exact O.out.longer (Nat.le_refl c) a2
  have aa:=Kj a5
  have ab:=Kj a4
  obtain ⟨j,hj⟩:∃ j:Nat,(m:Int)-((c:Int)-(n:Int))=(j:Int):=⟨(m-(c-n)),by omega⟩
  rw [hj] at hr ⊢
  have hcj:c+j=n+m:=by omega
  have a9:0<j:=by omega
  clear a5 a4 hj
  go_upto_region 4 with fail
  refine wA 2 [iV (j:Int),bV true] [15,16] (nS 1 (aV rfl (fun a u E D hk=>QZ rfl (dD D 0) rfl) (Ky (by omega))) nZ) ?_
  intro w3 k3
  simp only [F8]
  have H:=I.trans k3
  clear I k3
  go_upto_region 5 with fail
  refine wAp 5 [.slice A n c,.slice A n c,iV (c:Int),.slice A c c,iV (j:Int)] [17,18,19,20,21] (nS 2 (sV rfl (fun a u E D hk=>JQX _ A n c slO.und rfl (dD D 1))) (nS 3 (sV rfl (fun a u E D hk=>WV slO _ _ _ _ _ rfl (dD D 0) (dD D 2) (run_h slO A n c c (Nat.le_refl _) HA.out u))) nZ)) ?_
  intro w4 k4
  simp only [F8]
  have J:=H.trans k4
  obtain ⟨gn,cn,w5,zs,a1,N,hzl,a3,hgn⟩:=zZ slO Tryz.underlying3 43 w4 A c c j _ (aa.out.kept J) a9 (by omega) (by unfold maxLen;omega) (by omega) (by omega)
  refine Vj _ w5 rfl (exec_appZ slO 3 (.tmp 20) (.tmp 21) _ _ rfl (by kernel_rfl) (by kernel_rfl) _ w5 a1) ?_
  simp only [Act.put,sA,sS,sZ]
  refine aT (.slice A n c) ?_
  simp only [Act.put,sA,sS,sZ]
  refine UJ (.int .i64 (n:Int)) rfl (ZV (.tmp 23) _ _ slO.und A n c rfl (by kernel_rfl)) ?_
  simp only [Act.put,sA,sS,sZ]
  refine UJ (.slice (some ⟨gn,0,none⟩) n cn) rfl (WV slO (.tmp 22) (.tmp 24) _ _ _ rfl (by kernel_rfl) (by kernel_rfl) (run_h slO (some ⟨gn,0,none⟩) (c+j) cn n (by have:=N.cap.1;omega) (fun h=>by cases h) w5)) ?_
  simp only [Act.put,sA,sS,sZ]
  refine aT (.slice (some ⟨gn,0,none⟩) n cn) ?_
  simp only [Act.put,List.setIfInBounds_toArray,List.set_cons_zero]
  refine Kx ?_
  have zz:=J.size
  have HR:Hid (Sl w5 35 9 (.slice (some ⟨gn,0,none⟩) n cn) n cs):=by
   have h1:=N.shrink (m:=n) (by omega)
   have h2:=O.out.len
   rw [List.take_append_of_le_length (by rw [a6];exact Nat.mul_le_mul_right _ a2),ab.out] at h1
   exact h1
  have a7:=J.trans a3
  clear N a1 a3 k4 H
  go_wp2
  go_ret
  exact ⟨_,rfl,HR.out,a7,fun b hb=>.inr (by simp [Value.ownBlock] at hb;omega)⟩
 skip
 go_upto_region 4 with fail
 refine wA 2 [iV ((m:Int)-((c:Int)-(n:Int))),bV false] [15,16] (nS 1 (aV rfl (fun a u E D hk=>QZ rfl (dD D 0) rfl) (Ku (by omega))) nZ) ?_
 intro w3 k3
 simp only [F8]
 have H:=I.trans k3
 have HR:=Kj (O.out.kept H)
 clear I k3
 go_wp2
 go_ret
 exact ⟨_,rfl,HR.out,H,fun b hb=>.inl hb⟩
theorem growF_any (w:World) (v:Value) (n m:Nat) (cs:List Value) (hS:Sl w 95 21 v n cs) (hn:n+m≤100000000) :
  Calls Tryz.prog 120 #[v,.int .i64 (m:Int)] w fun r w'=>∃ v',r=.returned v'∧Sl w' 95 21 v' n cs∧Kept w w'∧∀ b,v'.ownBlock=some b→v.ownBlock=some b∨w.heap.size≤b:=by
 obtain ⟨A,c,rfl⟩:=hS.slice_
 obtain ⟨a2,U,hA⟩:=hS.cap
 have hcm':c≤9223372036854775807:=by unfold maxLen at U;omega
 have O:=Kj hS
 have HA:=Kj hA
 clear hS hA U
 go_enter Tryz.func120,Tryz.ntmps120
 go_upto_region 1 with fail
 refine wA 2 [iV (m:Int),bV false] [5,6] (nS 1 (aV rfl (fun a u E D hk=>YU rfl (dD D 0) rfl) (Ku (by omega))) nZ) ?_
 intro w1 k1
 simp only [F8]
 go_upto_region 3 with fail
 refine wAp 7 [iV (m:Int),.slice A n c,iV (c:Int),.slice A n c,iV (n:Int),iV (((c:Int):Int)-((n:Int):Int)),iV (((m:Int):Int)-((((c:Int):Int)-((n:Int):Int)):Int))] [8,9,10,11,12,13,14] (nS 2 (sV rfl (fun a u E D hk=>JQX _ A n c slF.und rfl (dD D 1))) (nS 4 (sV rfl (fun a u E D hk=>ZV _ _ _ slF.und A n c rfl (dD D 3))) (nS 5 (sV rfl (fun a u E D hk=>Zz (p:=((c:Int))) (q:=((n:Int))) (((c:Int):Int)-((n:Int):Int)) rfl (dD D 2) (dD D 4) rfl (by omega) (by omega))) (nS 6 (sV rfl (fun a u E D hk=>Zz (p:=((m:Int))) (q:=((((c:Int):Int)-((n:Int):Int)))) (((m:Int):Int)-((((c:Int):Int)-((n:Int):Int)):Int)) rfl (dD D 0) (dD D 5) rfl (by omega) (by omega))) nZ)))) ?_
 intro w2 k2
 simp only [F8]
 refine aT (.int .i64 (((m:Int):Int)-((((c:Int):Int)-((n:Int):Int)):Int))) ?_
 simp only [Act.put,sA,sS,sZ]
 refine Kx ?_
 have I:=k1.trans k2
 clear k1 k2
 by_cases hr:(m:Int)-((c:Int)-(n:Int)) > 0
 ·skip
  obtain ⟨ds,a6,a5,a4⟩:∃ ds:List Value,ds.length=c*21∧Sl w 95 21 (.slice A c c) c ds∧ds.take (n*21)=cs:=by
   cases A with
   | none=>
    have h0:=HA.out rfl
    subst h0
    have a8:n=0:=by omega
    subst a8
    have:=O.out.len
    exact ⟨cs,by omega,O.out,by rw [List.take_of_length_le (by omega)]⟩
   | some ad=>
    obtain ⟨g,off,c',e⟩:∃ g off c',Value.slice (some ad) n c=.slice (some ⟨g,off,none⟩) n c':=by
     obtain ⟨_,A',c2,e',_,_,_,h4⟩:=O.out
     injection e' with e1 e2 e3
     subst e1 e3
     obtain ⟨g,off,cur,rfl,_⟩:=h4 _ rfl
     exact ⟨g,off,c,rfl⟩
    injection e with e1 e2 e3
    injection e1 with e1
    subst e1
    exact O.out.longer (Nat.le_refl c) a2
  have aa:=Kj a5
  have ab:=Kj a4
  obtain ⟨j,hj⟩:∃ j:Nat,(m:Int)-((c:Int)-(n:Int))=(j:Int):=⟨(m-(c-n)),by omega⟩
  rw [hj] at hr ⊢
  have hcj:c+j=n+m:=by omega
  have a9:0<j:=by omega
  clear a5 a4 hj
  go_upto_region 4 with fail
  refine wA 2 [iV (j:Int),bV true] [15,16] (nS 1 (aV rfl (fun a u E D hk=>QZ rfl (dD D 0) rfl) (Ky (by omega))) nZ) ?_
  intro w3 k3
  simp only [F8]
  have H:=I.trans k3
  clear I k3
  go_upto_region 5 with fail
  refine wAp 5 [.slice A n c,.slice A n c,iV (c:Int),.slice A c c,iV (j:Int)] [17,18,19,20,21] (nS 2 (sV rfl (fun a u E D hk=>JQX _ A n c slF.und rfl (dD D 1))) (nS 3 (sV rfl (fun a u E D hk=>WV slF _ _ _ _ _ rfl (dD D 0) (dD D 2) (run_h slF A n c c (Nat.le_refl _) HA.out u))) nZ)) ?_
  intro w4 k4
  simp only [F8]
  have J:=H.trans k4
  obtain ⟨gn,cn,w5,zs,a1,N,hzl,a3,hgn⟩:=zZ slF Tryz.underlying3 64 w4 A c c j _ (aa.out.kept J) a9 (by omega) (by unfold maxLen;omega) (by omega) (by omega)
  refine Vj _ w5 rfl (exec_appZ slF 3 (.tmp 20) (.tmp 21) _ _ rfl (by kernel_rfl) (by kernel_rfl) _ w5 a1) ?_
  simp only [Act.put,sA,sS,sZ]
  refine aT (.slice A n c) ?_
  simp only [Act.put,sA,sS,sZ]
  refine UJ (.int .i64 (n:Int)) rfl (ZV (.tmp 23) _ _ slF.und A n c rfl (by kernel_rfl)) ?_
  simp only [Act.put,sA,sS,sZ]
  refine UJ (.slice (some ⟨gn,0,none⟩) n cn) rfl (WV slF (.tmp 22) (.tmp 24) _ _ _ rfl (by kernel_rfl) (by kernel_rfl) (run_h slF (some ⟨gn,0,none⟩) (c+j) cn n (by have:=N.cap.1;omega) (fun h=>by cases h) w5)) ?_
  simp only [Act.put,sA,sS,sZ]
  refine aT (.slice (some ⟨gn,0,none⟩) n cn) ?_
  simp only [Act.put,List.setIfInBounds_toArray,List.set_cons_zero]
  refine Kx ?_
  have zz:=J.size
  have HR:Hid (Sl w5 95 21 (.slice (some ⟨gn,0,none⟩) n cn) n cs):=by
   have h1:=N.shrink (m:=n) (by omega)
   have h2:=O.out.len
   rw [List.take_append_of_le_length (by rw [a6];exact Nat.mul_le_mul_right _ a2),ab.out] at h1
   exact h1
  have a7:=J.trans a3
  clear N a1 a3 k4 H
  go_wp2
  go_ret
  exact ⟨_,rfl,HR.out,a7,fun b hb=>.inr (by simp [Value.ownBlock] at hb;omega)⟩
 skip
 go_upto_region 4 with fail
 refine wA 2 [iV ((m:Int)-((c:Int)-(n:Int))),bV false] [15,16] (nS 1 (aV rfl (fun a u E D hk=>QZ rfl (dD D 0) rfl) (Ku (by omega))) nZ) ?_
 intro w3 k3
 simp only [F8]
 have H:=I.trans k3
 have HR:=Kj (O.out.kept H)
 clear I k3
 go_wp2
 go_ret
 exact ⟨_,rfl,HR.out,H,fun b hb=>.inl hb⟩
theorem slOO:SlT 108 43 1 24:=⟨Tryz.underlying108,by kernel_rfl,⟨.slice none 0 0,by kernel_rfl,rfl,by intro u j;simp [Value.cells] at j;subst j;rfl⟩,by omega⟩
theorem exec_two1 {a:Act} {o:Oper} {u:World} {t T:TypeId} {bytes:Nat} (I:SlT t T 1 bytes) (x y:Operand) (v1 v2:Value) (H:o.op=.buildSlice t 2 #[(0,x),(1,y)]) (hx:a.eval x=v1) (O:a.eval y=v2) (U:v1.cells=#[v1]) (h2:v2.cells=#[v2]) :
  (execOp a.eval o).run Tryz.prog u=.ok (.value (.slice (some ⟨u.heap.size,0,none⟩) 2 2)) (u.alloc (.cells [v1,v2].toArray T)):=by
 obtain ⟨z,hz,hz2,_⟩:=I.info
 obtain ⟨J,hi,D,j,hzb⟩:=info_parts hz
 unfold execOp
 simp only [H,List.map_toArray,List.map_cons,List.map_nil,hx,O]
 have e:Array.map (fun x=>z.cells[x % z.cells.size]!) (Array.range (2*1))=#[z.cells[0 % z.cells.size]!,z.cells[1 % z.cells.size]!]:=by
  apply Array.toList_inj.1
  simp [List.range_succ]
 have N:=run_buildSlice (P:=Tryz.prog) u t T 2 #[(0,v1),(1,v2)] [v1,v2].toArray J z I.und hi D (by rw [j];omega) (by rw [j];omega) (by
  rw [j]
  simp only [Instr.fill,U,h2,e]
  simp)
 simp only [Sem.run_bind,N,Result.andThen_ok]
 rfl
def Cat (w:World) (g:Nat) (X Y:List Ord):Prop:=∃ v1 v2,Blk w g 43 [v1,v2]∧Sl w 35 9 v1 X.length (ords X)∧Sl w 35 9 v2 Y.length (ords Y)
theorem Cat.kept {w w':World} {g:Nat} {X Y:List Ord} (h:Cat w g X Y) (hk:Kept w w'):Cat w' g X Y:=by
 obtain ⟨v1,v2,H,j,D⟩:=h
 exact ⟨v1,v2,H.kept hk,j.kept hk,D.kept hk⟩
def catP (X Y:List Ord) (i:Nat):List Ord:=if i=0 then [] else if i=1 then X else X++Y
def catE (X Y:List Ord) (i:Nat):List Ord:=if i=0 then X else Y
theorem catP_next (X Y:List Ord) (i:Nat) (h:i<2):catP X Y (i+1)=catP X Y i++catE X Y i:=by
 rcases (by omega:i=0∨i=1) with rfl | rfl <;> rfl
theorem catP_len (X Y:List Ord) (i:Nat):(catP X Y i).length≤X.length+Y.length:=by
 unfold catP
 repeat' split
 all_goals simp
def Kn.cat (base:Nat) (X Y:List Ord):Kn:=⟨fun v w=>∃ g,v=.slice (some ⟨g,0,none⟩) 2 2∧base≤g∧Cat w g X Y,fun _ _ _ ⟨g,h1,h2,h3⟩ hk=>⟨g,h1,h2,h3.kept hk⟩⟩
theorem concatE_any (w:World) (g N:Nat) (E P:Nat→List Ord) (h:∀ i,i<N→∃ v,w.cell? ⟨g,0+i*1,none⟩=some v∧Sl w 35 9 v (E i).length (ords (E i))) (h0:P 0=[]) (hs:∀ i,i<N→P (i+1)=P i++E i) (hl:∀ i,i≤N→(P i).length≤1000000) (hN1:N≤1000):Gives 43 #[.slice (some ⟨g,0,none⟩) N N] w (.sl w.heap.size 35 9 (P N).length (ords (P N))):=by
 have HE:=Kj h
 have a9:=Kj h0
 have aa:=Kj hs
 have HN:=Kj hl
 have ac:∀ i,i<N→(E i).length≤1000000:=fun i hi=>by
  have:=hl (i+1) (by omega)
  rw [hs i hi,List.length_append] at this
  omega
 have ab:=Kj ac
 clear h h0 hs hl ac
 go_enter Tryz.func43,Tryz.ntmps43
 go_upto_region 1 with fail
 refine wA 1 [iV 0] [3] nZ ?_
 intro wa ka
 simp only [F8]
 go_upto_region 2 with fail
 refine wA 3 [.slice (some ⟨g,0,none⟩) N N,iV (N:Int),iV 0] [9,10,11] (nS 1 (sV rfl (fun a u E D hk=>ZV _ _ _ slOO.und (some ⟨g,0,none⟩) N N rfl (dD D 0))) nZ) ?_
 intro w0 k0
 simp only [F8]
 have an:=ka.trans k0
 clear ka k0
 go_wp2_with fail
 go_loopw [3,11] (fun t x wr=>∃ (i:Nat) (m:Nat),i≤N∧x=.int .i64 (i:Int)∧t=.int .i64 (m:Int)∧Hid (m=(P i).length)∧Kept w wr) (fun _ x _=>N-(intOf x).toNat)
 case atStart=>exact ⟨0,0,by omega,rfl,rfl,by show _=_;rw [a9.out];rfl,an⟩
 obtain ⟨i,m,hi,rfl,rfl,HM,j⟩:=hrel
 by_cases hlt:i<N
 ·skip
  obtain ⟨U,I,J⟩:=HE.out i hlt
  have HC:=Kj (j.cell I)
  have H:=Kj (J.kept j)
  clear I J
  obtain ⟨e,he⟩:∃ e,(E i).length=e:=⟨_,rfl⟩
  have heN:e≤1000000:=by have:=ab.out i hlt;omega
  have ah:Hid (m+e=(P (i+1)).length):=by show _=_;rw [aa.out i hlt,List.length_append,HM.out,he]
  have ar:m≤1000000:=by have:=HN.out i (by omega);have:=HM.out;omega
  rw [he] at H
  clear he HM
  go_upto_region 4 with fail
  refine wA 3 [pV g (0+i*1),U,U] [13,14,5] (nS 0 (ixV slOO (0) N i ((i:Int)) (hlt)) (nS 1 (ldC HC.out) nZ)) ?_
  intro w1 k1
  simp only [F8]
  have O:=j.trans k1
  have a3:=Kj (H.out.kept k1)
  clear k1 HC H
  go_upto_region 5 with fail
  refine wAp 4 [iV (m:Int),U,iV (e:Int),iV (((m:Int):Int)+((e:Int):Int))] [15,16,17,18] (nS 2 (sV rfl (fun a u E D hk=>Jx _ slO _ _ _ _ rfl (dD D 1) a3.out)) (nS 3 (sV rfl (fun a u E D hk=>YQ (p:=((m:Int))) (q:=((e:Int))) (((m:Int):Int)+((e:Int):Int)) rfl (dD D 0) (dD D 2) rfl (by omega) (by omega))) nZ)) ?_
  intro w2 k2
  simp only [F8]
  refine aT (.int .i64 (((m:Int):Int)+((e:Int):Int))) ?_
  simp only [Act.put,sA,sS,sZ]
  refine Kx ?_
  have a8:=O.trans k2
  clear k2 O a3
  have hnn:¬ ((m:Int)+(e:Int)<0):=by omega
  go_wp2
  exact ⟨⟨i+1,m+e,by omega,by go_num,by go_num,ah,a8⟩,by simp [intOf];omega⟩
 have a6:N=i:=by omega
 subst a6
 have hm:m=(P N).length:=HM.out
 have ar:m≤1000000:=by rw [hm];exact HN.out N (Nat.le_refl _)
 have HMM:=Kj hm
 clear HM hm
 go_upto_region 9 with fail
 refine tA 3 [iK (m:Int),.k (.sl wr.heap.size 35 9 0 []),.k (.sl wr.heap.size 35 9 0 [])] [23,24,6] (nS 1 (cV Tryz.func71 (fun u hk=>(growO_any u (.slice none 0 0) 0 m [] (Sl.nil _ _ _) (by omega)).mono (fun e w' ⟨v,h1,h2,h3,h4⟩=>⟨v,h1,⟨h2,fun b hb=>(h4 b hb).elim (fun h=>by simp [Value.ownBlock] at h) (fun h=>Kv hk.size h)⟩,h3⟩))) (nS 2 ((fun a u hE hD hk=>Xq _ rfl (JQ rfl _) (Yj (.tmp 24) _ rfl rfl) (dD hD 1))) nZ)) ?_
 intro gv w1 hV k1
 simp only [Fz7]
 have a1:(.sl wr.heap.size 35 9 0 []:Kn).p (gv 6) w1:=hV 2 6 (by kernel_rfl)
 generalize gv 6=v6 at a1 ⊢
 clear hV
 have O:=j.trans k1
 have zr:=j.size
 have ae:Hid ((Kn.sl w.heap.size 35 9 (P 0).length (ords (P 0))).p v6 w1):=by rw [a9.out];exact ⟨a1.1,fun b hb=>Kv zr (a1.2 b hb)⟩
 clear a1 k1 j zr
 go_upto_region 10 with fail
 refine wA 3 [.slice (some ⟨g,0,none⟩) N N,iV (N:Int),iV 0] [25,26,27] (nS 1 (sV rfl (fun a u E D hk=>ZV _ _ _ slOO.und (some ⟨g,0,none⟩) N N rfl (dD D 0))) nZ) ?_
 intro w2 k2
 simp only [F8]
 have a8:=O.trans k2
 have aq:=Kj ((Kn.sl w.heap.size 35 9 (P 0).length (ords (P 0))).st _ _ _ ae.out k2)
 clear ae k2 O
 go_wp2_with fail
 go_loopw [6,27] (fun t x wr=>∃ (i:Nat),i≤N∧x=.int .i64 (i:Int)∧Hid ((Kn.sl w.heap.size 35 9 (P i).length (ords (P i))).p t wr)∧Kept w wr) (fun _ x _=>N-(intOf x).toNat)
 case atStart=>exact ⟨0,by omega,rfl,aq.out,a8⟩
 obtain ⟨i,hi,rfl,HV,j⟩:=hrel
 obtain ⟨vv,ao⟩:∃ x,x=u6:=⟨_,rfl⟩
 subst ao
 by_cases hlt:i<N
 ·skip
  obtain ⟨U,I,J⟩:=HE.out i hlt
  have HC:=Kj (j.cell I)
  have H:=Kj (J.kept j)
  clear I J
  go_upto_region 12 with fail
  refine wA 3 [pV g (0+i*1),U,U] [29,30,8] (nS 0 (ixV slOO (0) N i ((i:Int)) (hlt)) (nS 1 (ldC HC.out) nZ)) ?_
  intro w3 k3
  simp only [F8]
  have a5:=j.trans k3
  have a4:=Kj (H.out.kept k3)
  have a2:=Kj ((Kn.sl w.heap.size 35 9 (P i).length (ords (P i))).st _ _ _ HV.out k3)
  have z3:=a5.size
  clear k3 HC H HV
  go_upto_region 13 with fail
  refine wAp 2 [vv,U] [31,32] nZ ?_
  intro w4 k4
  simp only [F8]
  have ai:=ab.out i hlt
  have am:=HN.out i (by omega)
  have ak:=hlt
  obtain ⟨v5,w5,af,a7,ag,ad⟩:=QQ slO 43 w4 vv U _ _ _ _ (a2.out.1.kept k4) (a4.out.kept k4) (qx _) (by unfold maxLen;omega) (by omega)
  refine Vj v5 w5 rfl (QV slO (.tmp 31) (.tmp 32) vv U rfl (by kernel_rfl) (by kernel_rfl) v5 w5 af) ?_
  refine aT (v5) ?_
  simp only [Act.put,sA,sS,sZ]
  refine Kx ?_
  have z4:=k4.size
  have al:Kept w w5:=Keep.trans (a5.trans k4) ag (fun b hb au=>by have:=a2.out.2 b au;omega)
  have aj:Hid ((Kn.sl w.heap.size 35 9 (P (i+1)).length (ords (P (i+1)))).p v5 w5):=by
   refine ⟨?_,fun b hb=>?_⟩
   ·rw [aa.out i hlt,List.length_append]
    unfold ords at a7 ⊢
    rw [List.flatMap_append]
    exact a7
   rcases ad b hb with h | h
   ·exact a2.out.2 b h
   omega
  clear a7 ag ad a2 a4 af ai am ak k4 a5
  go_wp2
  exact ⟨⟨i+1,by omega,by go_num,aj,al⟩,by simp [intOf];omega⟩
 have a6:N=i:=by omega
 subst a6
 have HF:Hid ((Kn.sl w.heap.size 35 9 (P N).length (ords (P N))).p vv wr):=HV.out
 clear HV
 go_wp2
 go_ret
 exact ⟨vv,rfl,HF.out,j⟩
theorem concat_any (w:World) (g:Nat) (X Y:List Ord) (h:Cat w g X Y) (hn:X.length+Y.length≤1000000):Gives 43 #[.slice (some ⟨g,0,none⟩) 2 2] w (.sl w.heap.size 35 9 (X++Y).length (ords (X++Y))):=by
 obtain ⟨v1,v2,j,I,H⟩:=h
 exact concatE_any w g 2 (catE X Y) (catP X Y) (fun i D=>by
  rcases (by omega:i=0∨i=1) with rfl | rfl
  ·exact ⟨v1,j.cell 0,I⟩
  exact ⟨v2,j.cell 1,H⟩) rfl (fun i D=>catP_next X Y i D) (fun i _=>by have:=catP_len X Y i;omega) (by omega)
theorem bfind_any (w:World) (F:Nat→Prop) (p:Nat) (B:Bok) (t j:Int) (h:Bk w F p B) (hI:Inv B):Gives 61 #[.pointer (some ⟨p,0,none⟩),.int .i64 t,.int .i64 j] w (.eq (.tuple #[(B.find t j).1.v,.bool (B.find t j).2])):=by
 refine QW ?_
 have HK:=Kj h
 have HI:=Kj hI
 have a7:(XJ B.buys).length≤64∧(XJ B.sells).length≤64:=by
  have h1:=hI.two.mine.few
  have h2:=hI.two.theirs.few
  rw [yV,yV]
  exact ⟨h1,h2⟩
 have ab:=Kj a7
 have aa:Hid (XJ B.buys++XJ B.sells=B.all.map (·.o)):=by show _=_;unfold XJ Bok.all;rw [List.map_append]
 clear h hI a7
 go_enter Tryz.func61,Tryz.ntmps61
 go_upto_region 0 with fail
 refine tAp 2 [.k (.fresh w.heap.size 35 JV.cells),bK false] (nS 0 (nV rfl (fun a u E D hk=>⟨_,_,QX 35 JV.cells rfl zO,⟨_,rfl,hk.size,Blk.new u _ _⟩,((Keep.refl _ u).alloc _)⟩)) nZ) ?_
 intro gv wz O kz
 rw [dq 2 [6,7]]
 simp only [Fz7]
 have ar:(.fresh w.heap.size 35 JV.cells:Kn).p (gv 6) wz:=O 0 6 (by kernel_rfl)
 generalize gv 6=v6 at ar ⊢
 rw [gQ O 1 7 (.bool false)]
 clear O
 obtain ⟨b6,rfl,hb6,af⟩:=ar
 refine Kx ?_
 have av:=Kj af
 have l6:=af.lt
 have ah:=Kj (HK.out.kept kz)
 clear af
 obtain ⟨X,hX⟩:∃ X,XJ B.buys=X:=⟨_,rfl⟩
 obtain ⟨Y,hY⟩:∃ Y,XJ B.sells=Y:=⟨_,rfl⟩
 rw [hX,hY] at ab aa
 have HX:=Kj hX
 have HY:=Kj hY
 clear hX hY
 obtain ⟨n,hn⟩:∃ n,(X++Y).length=n:=⟨_,rfl⟩
 have hn1:n≤128:=by rw [← hn,List.length_append];have:=ab.out;omega
 have HN:=Kj hn
 clear hn
 go_upto_region 1 with fail
 refine tH 12 [pK p 0,pK p 0,pK p 0,.k (.sl wz.heap.size 35 9 X.length (ords X)),pK p 0,pK p 0,pK p 2,.k (.sl wz.heap.size 35 9 Y.length (ords Y)),.k (.cat wz.heap.size X Y),.k (.sl wz.heap.size 35 9 n (ords (X++Y))),iK (n:Int),iK 0] [10,11,12,13,14,15,16,17,18,19,20,21] (nS 3 (cV Tryz.func73 (fun u hk=>(by obtain ⟨F',hL⟩:=(ah.out.kept hk).lad (.inl rfl:(1:Int)=1∨(1:Int)=2);have hd:=zU (lorders_any u F' p 0 1 _ hL (HI.out.ok 1)) hk.size;rw [show XJ (B.sd 1)=X from HX.out] at hd;exact hd))) (nS 7 (cV Tryz.func73 (fun u hk=>(by obtain ⟨F',hL⟩:=(ah.out.kept hk).lad (.inr rfl:(2:Int)=1∨(2:Int)=2);have hd:=zU (lorders_any u F' p 2 2 _ hL (HI.out.ok 2)) hk.size;rw [show XJ (B.sd 2)=Y from HY.out] at hd;exact hd))) (nS 8 (nV rfl (fun a u E D hk=>⟨_,_,exec_two1 slOO _ _ _ _ rfl rfl rfl (Zy (D 3 13 (by kernel_rfl)).1) (Zy (D 7 17 (by kernel_rfl)).1),⟨u.heap.size,rfl,hk.size,_,_,Blk.new u _ _,(D 3 13 (by kernel_rfl)).1.kept ((Keep.refl _ u).alloc _),(D 7 17 (by kernel_rfl)).1.kept ((Keep.refl _ u).alloc _)⟩,((Keep.refl _ u).alloc _)⟩)) (nS 9 ((fun a u hE hD hk=>Zj 43 #[a.eval (.tmp 18)] rfl (JQ rfl _) (Jy 43 _ [.tmp 18] _ [a.eval (.tmp 18)] Tryz.func43 (by kernel_rfl) (by kernel_rfl) rfl rfl u) ((by obtain ⟨gg,hx,hgb,am⟩:=(hD 8 18 (by kernel_rfl));have hd:=zU (concat_any u gg X Y am (by have:=ab.out;omega)) hk.size;rw [HN.out] at hd;rw [hx];exact hd)))) (nS 10 (sV rfl (fun a u E D hk=>Jx _ slO _ _ _ _ rfl rfl (D 9 19 (by kernel_rfl)).1)) nZ))))) ?_
 intro gv w0 O k0
 simp only [Fz7]
 have a1:(.sl wz.heap.size 35 9 n (ords (X++Y)):Kn).p (gv 19) w0:=O 9 19 (by kernel_rfl)
 generalize gv 19=v19 at a1 ⊢
 rw [gQ O 10 20 (.int .i64 (n:Int))]
 rw [gQ O 11 21 (.int .i64 0)]
 clear O
 have au:=Kj a1.1
 have a5:=Kj (av.out.kept k0)
 have z0:=k0.size
 have ao:=kz.trans k0
 obtain ⟨vs,ax⟩:∃ x,x=v19:=⟨_,rfl⟩
 subst ax
 clear a1 av ah kz k0
 go_wp2_with fail
 go_loopw [21] (fun x wr=>∃ (i:Nat),i≤n∧x=.int .i64 (i:Int)∧Hid (∀ (H:Nat) (x:Ent),H<i→B.all[H]?=some x→x.is t j=false)∧Kept w0 wr) (fun x _=>n-(intOf x).toNat)
 case atStart=>exact ⟨0,Nat.zero_le _,rfl,fun H x hj=>(by omega),Kept.refl _⟩
 obtain ⟨i,hi,rfl,HM,N⟩:=hrel
 have ac:Hid (B.all.length=n):=by show _=_;rw [← HN.out,aa.out,List.length_map]
 by_cases hlt:i<n
 ·skip
  obtain ⟨g,off,c,rfl⟩:=au.out.some_ (by omega)
  obtain ⟨E,hE⟩:∃ E,B.all[i]?=some E:=⟨B.all[i]'(by rw [ac.out];exact hlt),List.getElem?_eq_getElem (by rw [ac.out];exact hlt)⟩
  obtain ⟨e,he⟩:∃ e,E.o=e:=⟨_,rfl⟩
  have HE:Hid (wr.rangeAt g (off+i*9) e.cells):=JJ (au.out.rngO i e (by rw [aa.out,List.getElem?_map,hE,← he];rfl)) N
  have a2:=Kj hE
  have a3:=Kj he
  have J:=Kj (a5.out.kept N)
  clear hE he
  go_upto_region 3 with fail
  refine tAp 3 [pK g (off+i*9),.v (e.v),.k (.fresh wr.heap.size 35 JV.cells)] (nS 0 (ixV slO (off) n i ((i:Int)) (hlt)) (nS 1 (ldO HE.out) (nS 2 (nV rfl (fun a u E D hk=>⟨_,_,QX 35 JV.cells rfl zO,⟨_,rfl,hk.size,Blk.new u _ _⟩,((Keep.refl _ u).alloc _)⟩)) nZ))) ?_
  intro gv w1 O k1
  rw [dq 3 [23,24,9]]
  simp only [Fz7]
  have an:(.fresh wr.heap.size 35 JV.cells:Kn).p (gv 9) w1:=O 2 9 (by kernel_rfl)
  generalize gv 9=v9 at an ⊢
  rw [gQ O 1 24 e.v]
  clear O
  obtain ⟨b9,rfl,hb9,ak⟩:=an
  refine sO e ak ?_
  intro w2 ai aq aw
  simp only [Act.put]
  refine Kx ?_
  have a9:Kept wr w2:=k1.trans' aq (by omega)
  have a4:=N.trans a9
  have I:=Kj (JX ai)
  have a6:=Kj (J.out.kept a9)
  have zr:=N.size
  clear ak ai aq aw k1 HE J a9
  by_cases hc1:e.tr=t
  ·by_cases hc2:e.id=j
   ·have HR:Hid (B.find t j=(e,true)):=by
     show _=_
     have h1:=idx_of HM.out a2.out (by rw [← a3.out] at hc1 hc2;simp [Ent.is,hc1,hc2])
     unfold Bok.find findE
     rw [h1,a2.out]
     simp only
     rw [a3.out]
    go_upto_region 4 with fail
    refine wAp 9 [pV b9 0,iV e.tr,iV t,bV true,bV true,pV b9 1,iV e.id,iV j,bV true] [25,26,27,28,29,30,31,32,33] (nS 1 (ldR I.out 0) (nS 3 (aV rfl (fun a u E D hk=>JY rfl (dD D 1) (dD D 2)) (Ky hc1)) (nS 6 (ldR I.out 1) (nS 8 (aV rfl (fun a u E D hk=>JY rfl (dD D 6) (dD D 7)) (Ky hc2)) nZ)))) ?_
    intro w3 k3
    simp only [F8]
    refine UJ (.bool true) rfl (JQZ (.tmp 29) (.tmp 33) (.const (.bool false)) (.bool true) rfl (by kernel_rfl) (by kernel_rfl)) ?_
    simp only [Act.put,sA,sS,sZ]
    refine Kx ?_
    have U:=a4.trans k3
    have aj:=Kj (JJ I.out k3)
    have al:=Kj (a6.out.kept k3)
    clear HM I a6 a4 k3 hc1 hc2
    go_upto_region 5 with fail
    refine wAp 1 [e.v] [35] (nS 0 (ldO aj.out) nZ) ?_
    intro w4 k4
    simp only [F8]
    refine sO e (al.out.kept k4) ?_
    intro w5 ag ae ay
    refine aT (.bool true) ?_
    simp only [Act.put,sA,sS,sZ]
    refine Kx ?_
    go_wp2
    refine bodyPost_ret (Qq (p:=6) (q:=7) rfl _ _ b6 _ e.cells true rfl rfl ag Tryz.underlying35 (by rw [Ord.len9];exact JU)) rfl ?_
    rw [HR.out]
    exact ⟨rfl,((ao.trans U).trans k4).trans' ae (by omega)⟩
   skip
   go_upto_region 4 with fail
   refine wAp 9 [pV b9 0,iV e.tr,iV t,bV true,bV true,pV b9 1,iV e.id,iV j,bV false] [25,26,27,28,29,30,31,32,33] (nS 1 (ldR I.out 0) (nS 3 (aV rfl (fun a u E D hk=>JY rfl (dD D 1) (dD D 2)) (Ky hc1)) (nS 6 (ldR I.out 1) (nS 8 (aV rfl (fun a u E D hk=>JY rfl (dD D 6) (dD D 7)) (Ku hc2)) nZ)))) ?_
   intro w3 k3
   simp only [F8]
   refine UJ (.bool false) rfl (JQZ (.tmp 29) (.tmp 33) (.const (.bool false)) (.bool false) rfl (by kernel_rfl) (by kernel_rfl)) ?_
   simp only [Act.put,sA,sS,sZ]
   refine Kx ?_
   have U:=a4.trans k3
   have a8:Hid (∀ (H:Nat) (x:Ent),H<i+1→B.all[H]?=some x→x.is t j=false):=by
    intro H x hj hx
    by_cases hjk:H=i
    ·subst hjk
     rw [a2.out] at hx
     injection hx with hx
     rw [← hx]
     have ad:=a3.out
     subst ad
     simp [Ent.is]
     exact fun _=>hc2
    exact HM.out H x (by omega) hx
   clear HM k3
   go_wp2
   exact ⟨⟨i+1,by omega,by go_num,a8,U⟩,by simp [intOf];omega⟩
  skip
  go_upto_region 4 with fail
  refine wAp 9 [pV b9 0,iV e.tr,iV t,bV false,bV false,undef,undef,undef,undef] [25,26,27,28,29,30,31,32,33] (nS 1 (ldR I.out 0) (nS 3 (aV rfl (fun a u E D hk=>JY rfl (dD D 1) (dD D 2)) (Ku hc1)) nZ)) ?_
  intro w3 k3
  simp only [F8]
  refine UJ (.bool false) rfl (exec_pickF (.tmp 29) (.tmp 33) (.const (.bool false)) (.bool false) rfl (by kernel_rfl) rfl) ?_
  simp only [Act.put,sA,sS,sZ]
  refine Kx ?_
  have U:=a4.trans k3
  have a8:Hid (∀ (H:Nat) (x:Ent),H<i+1→B.all[H]?=some x→x.is t j=false):=by
   intro H x hj hx
   by_cases hjk:H=i
   ·subst hjk
    rw [a2.out] at hx
    injection hx with hx
    rw [← hx]
    have ad:=a3.out
    subst ad
    simp [Ent.is]
    exact fun h=>absurd h hc1
   exact HM.out H x (by omega) hx
  clear HM k3
  go_wp2
  exact ⟨⟨i+1,by omega,by go_num,a8,U⟩,by simp [intOf];omega⟩
 have HR:Hid (B.find t j=(JV,false)):=by
  show _=_
  have h1:Wj t j B.all=B.all.length:=idx_none (fun H x hj hx=>HM.out H x (by rw [ac.out] at hj;omega) hx)
  unfold Bok.find findE
  rw [h1,List.getElem?_eq_none (Nat.le_refl _)]
 have J:=Kj (a5.out.kept N)
 clear HM
 go_upto_region 7 with fail
 refine wAp 1 [JV.v] [37] (nS 0 (sV rfl (fun a u E D hk=>XZ 35 [] JV.cells rfl (by kernel_rfl))) nZ) ?_
 intro w4 k4
 simp only [F8]
 refine sO JV (J.out.kept k4) ?_
 intro w5 ag ae ay
 refine aT (.bool false) ?_
 simp only [Act.put,sA,sS,sZ]
 refine Kx ?_
 go_wp2
 refine bodyPost_ret (Qq (p:=6) (q:=7) rfl _ _ b6 _ JV.cells false rfl rfl ag Tryz.underlying35 (by rw [Ord.len9];exact JU)) rfl ?_
 rw [HR.out]
 exact ⟨rfl,((ao.trans N).trans k4).trans' ae (by omega)⟩
theorem visible_any (c:Ord) (w:World):Gives 127 #[c.v] w (.eq (.int .i64 c.tip)):=by
 refine QW ?_
 go_enter Tryz.func127,Tryz.ntmps127
 go_upto_region 0 with fail
 refine tAp 2 [.k (.fresh w.heap.size 35 (c.cells)),iK 0] (nS 0 (nV rfl (fun a u E D hk=>⟨_,_,XV 35 _ (c.cells) rfl (eE E),⟨_,rfl,hk.size,Blk.new u _ _⟩,((Keep.refl _ u).alloc _)⟩)) nZ) ?_
 intro gv w1 O k1
 rw [dq 2 [1,2]]
 simp only [Fz7]
 have I:(.fresh w.heap.size 35 (c.cells):Kn).p (gv 1) w1:=O 0 1 (by kernel_rfl)
 generalize gv 1=v1 at I ⊢
 rw [gQ O 1 2 (.int .i64 0)]
 clear O
 obtain ⟨g,rfl,hg,hB⟩:=I
 refine Kx ?_
 have H:=Kj (JX hB)
 clear hB
 by_cases hs:0<c.shw
 ·have U:Hid (c.tip=mn c.shw c.qty):=by show _=_;unfold Ord.tip;rw [if_pos hs]
  go_upto_region 1 with fail
  refine wA 3 [pV g 7,iV c.shw,bV true] [3,4,5] (nS 1 (ldR H.out 7) (nS 2 (aV rfl (fun a u E D hk=>QZ rfl (dD D 1) rfl) (Ky hs)) nZ)) ?_
  intro w2 J
  simp only [F8]
  have j:=Kj (JJ H.out J)
  clear H hs
  go_upto_region 2 with fail
  refine wA 6 [pV g 7,iV c.shw,pV g 6,iV c.qty,iV (mn (c.shw) (c.qty)),iV (mn (c.shw) (c.qty))] [6,7,8,9,10,2] (nS 1 (ldR j.out 7) (nS 3 (ldR j.out 6) (nS 4 (sV rfl (fun a u E D hk=>jW _ _ _ (c.shw) (c.qty) (mn (c.shw) (c.qty)) rfl (dD D 1) (dD D 3) rfl)) nZ))) ?_
  intro w3 N
  simp only [F8]
  go_wp2
  go_ret
  exact ⟨by rw [U.out];rfl,(k1.trans J).trans N⟩
 have U:Hid (c.tip=c.qty):=by show _=_;unfold Ord.tip;rw [if_neg hs]
 go_upto_region 1 with fail
 refine wA 3 [pV g 7,iV c.shw,bV false] [3,4,5] (nS 1 (ldR H.out 7) (nS 2 (aV rfl (fun a u E D hk=>QZ rfl (dD D 1) rfl) (Ku hs)) nZ)) ?_
 intro w2 J
 simp only [F8]
 have j:=Kj (JJ H.out J)
 clear H hs
 go_upto_region 3 with fail
 refine wA 3 [pV g 6,iV c.qty,iV c.qty] [11,12,2] (nS 1 (ldR j.out 6) nZ) ?_
 intro w3 N
 simp only [F8]
 go_wp2
 go_ret
 exact ⟨by rw [U.out];rfl,(k1.trans J).trans N⟩
def capo (g:Nat):List Value:=[.pointer (some ⟨g,0,none⟩)]
def cloO (g:Nat):Value:=.func (.func 124) #[] (capo g).toArray
theorem exec_mkfO {a:Act} {o:Oper} {u:World} (x:Operand) (g:Nat) (j:o.op=.makeFunc (.func 124) #[] #[x]) (hx:a.eval x=.pointer (some ⟨g,0,none⟩)):(execOp a.eval o).run Tryz.prog u=.ok (.value (cloO g)) u:=by
 unfold execOp
 simp only [j,Instr.makeFunc,List.map_toArray,List.map_cons,List.map_nil,hx]
 rfl
theorem own_any (c:Ord) (firm:Int) (I:Nat) (w:World) (U:Blk w I 3 [.int .i64 firm]):Gives 124 #[c.v,.pointer (some ⟨I,0,none⟩)] w (.eq (.bool (decide (c.firm=firm)))):=by
 refine QW ?_
 have H1:=Kj U
 clear U
 go_enter Tryz.func124,Tryz.ntmps124
 go_upto_region 0 with fail
 refine tAp 2 [.k (.fresh w.heap.size 35 (c.cells)),bK false] (nS 0 (nV rfl (fun a u E D hk=>⟨_,_,XV 35 _ (c.cells) rfl (eE E),⟨_,rfl,hk.size,Blk.new u _ _⟩,((Keep.refl _ u).alloc _)⟩)) nZ) ?_
 intro gv w1 N J
 rw [dq 2 [2,3]]
 simp only [Fz7]
 have j:(.fresh w.heap.size 35 (c.cells):Kn).p (gv 2) w1:=N 0 2 (by kernel_rfl)
 generalize gv 2=v2 at j ⊢
 clear N
 obtain ⟨g,rfl,hg,O⟩:=j
 refine Kx ?_
 have HB:=Kj (JX O)
 have H:=Kj (H1.out.kept J)
 clear O H1
 go_upto_region 1 with fail
 refine wA 5 [pV g 2,iV c.firm,iV firm,bV (decide ((c.firm:Int)=(firm:Int))),bV (decide ((c.firm:Int)=(firm:Int)))] [4,5,6,7,3] (nS 1 (ldR HB.out 2) (nS 2 (sV rfl (fun a u E D hk=>JZ 3 Tryz.underlying3 _ ⟨I,0,none⟩ (.int .i64 firm) rfl (eE E) (by rw [(H.out.kept hk).cell];rfl))) (nS 3 (sV rfl (fun a u E D hk=>JY rfl (dD D 1) (dD D 2))) nZ))) ?_
 intro w2 k2
 simp only [F8]
 go_wp2
 go_ret
 exact ⟨rfl,J.trans k2⟩
def ownP (firm:Int) (X:List Ent):Int:=if WU firm X<X.length then (WU firm X:Int) else -1
theorem ownAt_of {firm:Int} {X:List Ent} {k:Nat} {e:Ent} (h:∀ (j:Nat) (x:Ent),j<k→X[j]?=some x→decide (x.o.firm=firm)=false) (J:X[k]?=some e) (I:decide (e.o.firm=firm)=true):WU firm X=k:=by
 obtain ⟨hk,D⟩:=List.getElem?_eq_some_iff.1 J
 unfold WU
 rw [List.findIdx_eq hk]
 refine ⟨by rw [D];exact I,fun j H=>?_⟩
 have:=h j X[j] H (List.getElem?_eq_getElem (by omega))
 simpa using this
theorem ownAt_none {firm:Int} {X:List Ent} (h:∀ (j:Nat) (x:Ent),j<X.length→X[j]?=some x→decide (x.o.firm=firm)=false):WU firm X=X.length:=by
 unfold WU
 rw [List.findIdx_eq_length]
 intro x hx
 obtain ⟨j,D,rfl⟩:=List.getElem_of_mem hx
 exact h j _ D (List.getElem?_eq_getElem D)
theorem oidx_any (v:Value) (X:List Ent) (firm:Int) (I:Nat) (w:World) (hS:Sl w 35 9 v X.length (ords (X.map (·.o)))) (U:X.length≤100000000) (O:Blk w I 3 [.int .i64 firm]) :
  Gives 80 #[v,cloO I] w (.eq (.int .i64 (ownP firm X))):=by
 refine QW ?_
 obtain ⟨n,hn⟩:∃ n,X.length=n:=⟨_,rfl⟩
 rw [hn] at hS U
 have HN:=Kj hn
 have HS:=Kj hS
 have H1:=Kj O
 clear hS O hn
 go_enter Tryz.func80,Tryz.ntmps80
 go_upto_region 1 with fail
 refine wA 3 [v,iV (n:Int),iV 0] [6,7,8] (nS 1 (sV rfl (fun a u E D hk=>Jx _ slO _ _ _ _ rfl (dD D 0) HS.out)) nZ) ?_
 intro w0 k0
 simp only [F8]
 go_wp2_with fail
 go_loopw [8] (fun q wr=>∃ (k:Nat),k≤n∧q=.int .i64 (k:Int)∧Hid (∀ (j:Nat) (x:Ent),j<k→X[j]?=some x→decide (x.o.firm=firm)=false)∧Kept w wr) (fun q _=>n-(intOf q).toNat)
 case atStart=>exact ⟨0,Nat.zero_le _,rfl,fun j x hj=>(by omega),k0⟩
 obtain ⟨k,hk,rfl,HM,H⟩:=hrel
 by_cases hlt:k<n
 ·obtain ⟨g,off,c,rfl⟩:=HS.out.some_ (by omega)
  obtain ⟨e,he⟩:∃ e,X[k]?=some e:=⟨X[k]'(by rw [HN.out];exact hlt),List.getElem?_eq_getElem (by rw [HN.out];exact hlt)⟩
  have HE:Hid (wr.rangeAt g (off+k*9) e.o.cells):=JJ (HS.out.rngO k e.o (by rw [List.getElem?_map,he];rfl)) H
  have a1:=Kj (H1.out.kept H)
  have a2:=Kj he
  clear he
  by_cases hm:decide (e.o.firm=firm)=true
  ·have HP:Hid (ownP firm X=(k:Int)):=by
    show _=_
    have O:=ownAt_of HM.out a2.out hm
    unfold ownP
    rw [O,if_pos (by rw [HN.out];exact hlt)]
   go_upto_region 4 with fail
   refine wA 6 [cloO I,.slice (some ⟨g,off,none⟩) n c,iV (k:Int),pV g (off+k*9),e.o.v,bV true] [11,12,13,14,15,16] (nS 3 (ixV slO (off) n k ((k:Int)) (hlt)) (nS 4 (ldO HE.out) (nS 5 ((fun a u hE hD hk=>Zj 124 #[e.o.v,.pointer (some ⟨I,0,none⟩)] rfl (JQ rfl _) (zV 124 _ (.tmp 11) [.tmp 15] _ [e.o.v] (capo I) Tryz.func124 (by kernel_rfl) (by kernel_rfl) rfl (dD hD 0) (show [a.eval (.tmp 15)]=[e.o.v] by rw [show a.eval (.tmp 15)=e.o.v from (dD hD 4)])) (by rw [← hm];exact own_any e.o firm I u (a1.out.kept hk)))) nZ))) ?_
   intro w1 k1
   simp only [F8]
   have N:=H.trans k1
   clear H k1 hm
   go_wp2
   go_ret
   exact ⟨by rw [HP.out];rfl,N⟩
  have J:decide (e.o.firm=firm)=false:=by simpa using hm
  have a3:Hid (∀ (j:Nat) (x:Ent),j<k+1→X[j]?=some x→decide (x.o.firm=firm)=false):=by
   intro j x hj hx
   by_cases hjk:j=k
   ·subst hjk
    rw [a2.out] at hx
    injection hx with hx
    rw [← hx]
    exact J
   exact HM.out j x (by omega) hx
  clear hm
  go_upto_region 4 with fail
  refine wA 6 [cloO I,.slice (some ⟨g,off,none⟩) n c,iV (k:Int),pV g (off+k*9),e.o.v,bV false] [11,12,13,14,15,16] (nS 3 (ixV slO (off) n k ((k:Int)) (hlt)) (nS 4 (ldO HE.out) (nS 5 ((fun a u hE hD hk=>Zj 124 #[e.o.v,.pointer (some ⟨I,0,none⟩)] rfl (JQ rfl _) (zV 124 _ (.tmp 11) [.tmp 15] _ [e.o.v] (capo I) Tryz.func124 (by kernel_rfl) (by kernel_rfl) rfl (dD hD 0) (show [a.eval (.tmp 15)]=[e.o.v] by rw [show a.eval (.tmp 15)=e.o.v from (dD hD 4)])) (by rw [← J];exact own_any e.o firm I u (a1.out.kept hk)))) nZ))) ?_
  intro w1 k1
  simp only [F8]
  have N:=H.trans k1
  clear H k1 J
  go_wp2
  exact ⟨⟨k+1,by omega,by go_num,a3,N⟩,by simp [intOf];omega⟩
 have HP:Hid (ownP firm X=-1):=by
  show _=_
  have O:WU firm X=X.length:=ownAt_none (fun j x hj hx=>HM.out j x (by rw [HN.out] at hj;omega) hx)
  unfold ownP
  rw [O,if_neg (by omega)]
 clear HM
 go_wp2
 go_ret
 exact ⟨by rw [HP.out];rfl,H⟩
def reachV (firm:Int) (X:List Ent):Value:=.tuple #[.int .i64 (Yy firm X).1,.bool (Yy firm X).2]
theorem tip_bound {X:List Ent} (j:Good X) {e:Ent} (H:e ∈ X):e.o.tip≤100000000∧-100000000≤e.o.tip:=by
 have h1:=j.ok e H
 have h2:=j.few
 obtain ⟨i,I,D⟩:=List.getElem_of_mem H
 have h3:=wholeM_le j.ok i e (by rw [List.getElem?_eq_getElem I,D])
 unfold Ord.tip mn
 split
 ·split <;> omega
 omega
theorem reach_any (pr:Int) (w:World) (F:Nat→Prop) (q:Nat) (X:List Ent) (firm:Int) (h:Lvl pr 123 120 w F q X) (hX:Good X) (hf:Fresh X):Gives 118 #[.pointer (some ⟨q,0,none⟩),.int .i64 firm] w (.eq (reachV firm X)):=by
 refine QW ?_
 have ah:=Kj h
 have HX:=Kj hX
 have HF:=Kj hf
 have a2:=hX.len
 have ab:=hX.few
 have HW:Hid (0≤Jj X∧Jj X≤100000000):=by
  have:=YW hX.ok
  show _∧_
  omega
 clear h hX hf ab
 go_enter Tryz.func118,Tryz.ntmps118
 go_upto_region 0 with fail
 refine tAp 3 [.k (.fresh w.heap.size 3 ([.int .i64 firm])),iK 0,bK false] (nS 0 (nV rfl (fun a u E D hk=>⟨_,_,exec_boxi 3 _ (.int .i64 firm) rfl (eE E) rfl,⟨_,rfl,hk.size,Blk.new u _ _⟩,((Keep.refl _ u).alloc _)⟩)) nZ) ?_
 intro gv w0 j k0
 rw [dq 3 [3,4,5]]
 simp only [Fz7]
 have al:(.fresh w.heap.size 3 ([.int .i64 firm]):Kn).p (gv 3) w0:=j 0 3 (by kernel_rfl)
 generalize gv 3=v3 at al ⊢
 rw [gQ j 1 4 (.int .i64 0)]
 rw [gQ j 2 5 (.bool false)]
 clear j
 obtain ⟨g1,rfl,hg1,af⟩:=al
 refine Kx ?_
 have ac:=Kj af
 have a5:=Kj (ah.out.kept k0)
 clear af ah
 obtain ⟨n,hn⟩:∃ n,X.length=n:=⟨_,rfl⟩
 have I:=Kj hn
 go_upto_region 1 with fail
 refine tAp 3 [pK q 0,.k (.sl w0.heap.size 35 9 n (ords (X.map Ent.o))),.k (.sl w0.heap.size 35 9 n (ords (X.map Ent.o)))] (nS 1 (cV Tryz.func92 (fun u hk=>(by rw [← I.out];exact zU (orders_any u F q X (a5.out.kept hk) HX.out) hk.size))) (nS 2 ((fun a u hE hD hk=>Xq _ rfl (JQ rfl _) (Yj (.tmp 12) _ rfl rfl) (dD hD 1))) nZ)) ?_
 intro gv w1 j k1
 rw [dq 3 [11,12,6]]
 simp only [Fz7]
 have a7:(.sl w0.heap.size 35 9 n (ords (X.map (·.o))):Kn).p (gv 6) w1:=j 2 6 (by kernel_rfl)
 generalize gv 6=v6 at a7 ⊢
 clear j
 obtain ⟨v,hv⟩:∃ v,v=v6:=⟨_,rfl⟩
 subst hv
 refine Kx ?_
 have aa:=Kj a7.1
 have ag:=Kj (a5.out.kept k1)
 have a1:=Kj (ac.out.kept k1)
 have ae:=k0.trans k1
 rw [hn] at a2
 clear a5 ac k0 k1 a7 hn
 go_upto_region 2 with fail
 refine wA 4 [v,cloO g1,iV (ownP firm X),iV (ownP firm X)] [13,14,15,7] (nS 1 (sV rfl (fun a u E D hk=>exec_mkfO _ g1 rfl (eE E))) (nS 2 (cV Tryz.func80 (fun u hk=>oidx_any v X firm g1 u (by rw [I.out];exact aa.out.kept hk) (by rw [I.out];exact a2) (a1.out.kept hk))) nZ)) ?_
 intro w2 k2
 simp only [F8]
 have U:=ae.trans k2
 have a9:=Kj (ag.out.kept k2)
 have a8:=Kj (aa.out.kept k2)
 clear ag aa a1 ae
 by_cases hown:WU firm X<n
 ·skip
  obtain ⟨k,N⟩:∃ k,WU firm X=k:=⟨_,rfl⟩
  have hP:ownP firm X=(k:Int):=by unfold ownP;rw [if_pos (by rw [I.out];exact hown),N]
  rw [hP]
  have HR:Hid (Yy firm X=(Jj (X.take k),true)):=by show _=_;unfold Yy;rw [if_pos (by rw [I.out];exact hown),N]
  rw [N] at hown
  clear hP N
  by_cases hz:k=0
  ·subst hz
   have aA:Hid (reachV firm X=.tuple #[.int .i64 0,.bool true]):=by show _=_;unfold reachV;rw [HR.out];rfl
   clear HR
   go_wp2
   go_ret2
   rw [aA.out]
   exact ⟨rfl,U⟩
  have av:¬ ((k:Int)=0):=by omega
  have aw:¬ ((k:Int)=-1):=by omega
  have d1:decide ((k:Int)=0)=false:=Ku av
  have d2:decide ((k:Int)=-1)=false:=Ku aw
  obtain ⟨vs,ai,aF,an⟩:=jX slO v n k (by omega) _ w2 a8.out
  have aj:=Kj ai
  have am:Hid (∀ u,Kept w2 u→Sl u 35 9 vs (n-k) (ords ((X.drop k).map (·.o)))):=fun u hk=>by
   have:=an u _ (a8.out.kept hk)
   rw [show (ords (X.map (·.o))).drop (k*9)=ords ((X.map (·.o)).drop k) from Ux Ord.cells 9 Ord.len9 _ k,← List.map_drop] at this
   exact this
  clear ai aF an
  go_upto_region 8 with fail
  refine wA 3 [pV q 0,iV (Jj X),iV (Jj X)] [23,24,8] (nS 1 (cV Tryz.func126 (fun u hk=>seen_any u F q X (a9.out.kept hk) HX.out)) nZ) ?_
  intro w3 k3
  simp only [F8]
  have O:=Kj (am.out w3 k3)
  have J:=U.trans k3
  obtain ⟨m,hm⟩:∃ m,n-k=m:=⟨_,rfl⟩
  have hmn:k+m=n:=by omega
  rw [hm] at O
  clear hm
  go_upto_region 9 with fail
  refine wA 5 [v,iV (k:Int),vs,iV (m:Int),iV 0] [25,26,27,28,29] (nS 2 (sV rfl (fun a u E D hk=>ZW slO _ _ v vs _ rfl (dD D 0) (dD D 1) (aj.out u))) (nS 3 (sV rfl (fun a u E D hk=>Jx _ slO _ _ _ _ rfl (dD D 2) O.out)) nZ)) ?_
  intro w4 k4
  simp only [F8]
  have az:=J.trans k4
  have ad:=Kj (O.out.kept k4)
  clear aj am O a9 a8 U J k3 k4
  go_wp2_with fail
  go_loopw [8,29] (fun t x wr=>∃ (i:Nat) (s:Int),i≤m∧x=.int .i64 i∧t=.int .i64 s∧Hid (s=Jj X-Jj ((X.drop k).take i))∧Kept w4 wr) (fun _ x _=>m-(intOf x).toNat)
  case atStart=>exact ⟨0,Jj X,Nat.zero_le _,rfl,rfl,by show _=_;rw [List.take_zero];simp [Jj,Wx],Kept.refl _⟩
  obtain ⟨i,s,hi,rfl,rfl,H,a4⟩:=hrel
  by_cases hlt:i<m
  ·skip
   obtain ⟨g,off,c,rfl⟩:=ad.out.some_ (by omega)
   obtain ⟨e,he⟩:∃ e,X[k+i]?=some e:=⟨X[k+i]'(by rw [I.out];omega),List.getElem?_eq_getElem (by rw [I.out];omega)⟩
   have HE:Hid (wr.rangeAt g (off+i*9) e.o.cells):=JJ (ad.out.rngO i e.o (by rw [List.getElem?_map,List.getElem?_drop,he];rfl)) a4
   have a6:=Kj he
   clear he
   go_upto_region 11 with fail
   refine tAp 3 [pK g (off+i*9),.v (e.o.v),.k (.fresh wr.heap.size 35 JV.cells)] (nS 0 (ixV slO (off) m i ((i:Int)) (hlt)) (nS 1 (ldO HE.out) (nS 2 (nV rfl (fun a u E D hk=>⟨_,_,QX 35 JV.cells rfl zO,⟨_,rfl,hk.size,Blk.new u _ _⟩,((Keep.refl _ u).alloc _)⟩)) nZ))) ?_
   intro gv w5 j k5
   rw [dq 3 [31,32,10]]
   simp only [Fz7]
   have a3:(.fresh wr.heap.size 35 JV.cells:Kn).p (gv 10) w5:=j 2 10 (by kernel_rfl)
   generalize gv 10=v10 at a3 ⊢
   rw [gQ j 1 32 e.o.v]
   clear j
   obtain ⟨b5,rfl,hb5,aq⟩:=a3
   refine sO e.o aq ?_
   intro w6 ao ak aC
   simp only [Act.put]
   refine Kx ?_
   have au:Kept wr w6:=k5.trans' ak (by omega)
   have aD:=Kj (JX ao)
   clear aq ao ak HE k5 aC
   have ay:Hid (s-e.o.tip=Jj X-Jj ((X.drop k).take (i+1))):=by
    show _=_
    rw [H.out,List.take_add_one,List.getElem?_drop,a6.out,Uy]
    have h1:e.n=e.o.tip:=HF.out e (by
     rw [← List.drop_one,List.mem_iff_getElem?]
     exact ⟨k+i-1,by rw [List.getElem?_drop,show 1+(k+i-1)=k+i by omega];exact a6.out⟩)
    simp [Jj,Wx,h1]
    omega
   have aE:-100000000≤s∧s≤100000000:=by
    have h1:=HW.out
    have h2:Jj X=Jj (X.take k)+Jj ((X.drop k).take i)+Jj ((X.drop k).drop i):=by
     rw [← Uy,← Uy,List.append_assoc,List.take_append_drop,List.take_append_drop]
    have h3:=YW (X:=X.take k) (fun x hx=>HX.out.ok x (List.mem_of_mem_take hx))
    have h4:=YW (X:=(X.drop k).take i) (fun x hx=>HX.out.ok x (List.mem_of_mem_drop (List.mem_of_mem_take hx)))
    have h5:=YW (X:=(X.drop k).drop i) (fun x hx=>HX.out.ok x (List.mem_of_mem_drop (List.mem_of_mem_drop hx)))
    have h6:=H.out
    omega
   have ht:=tip_bound HX.out (List.mem_of_getElem? a6.out)
   clear H
   go_upto_region 12 with fail
   refine wAp 4 [iV s,e.o.v,iV e.o.tip,iV ((s:Int)-(e.o.tip:Int))] [33,34,35,36] (nS 1 (ldO aD.out) (nS 2 (cV Tryz.func127 (fun u hk=>visible_any e.o u)) (nS 3 (sV rfl (fun a u E D hk=>Zz (p:=(s)) (q:=(e.o.tip)) ((s:Int)-(e.o.tip:Int)) rfl (dD D 0) (dD D 2) rfl (by omega) (by omega))) nZ))) ?_
   intro w7 k7
   simp only [F8]
   refine aT (.int .i64 ((s:Int)-(e.o.tip:Int))) ?_
   simp only [Act.put,sA,sS,sZ]
   refine Kx ?_
   have aB:=(a4.trans au).trans k7
   clear aE ht
   go_wp2
   exact ⟨⟨i+1,s-e.o.tip,by omega,by go_num,rfl,ay,aB⟩,by simp [intOf];omega⟩
  have ar:Hid (reachV firm X=.tuple #[.int .i64 s,.bool true]):=by
   show _=_
   unfold reachV
   rw [HR.out,H.out,List.take_of_length_le (l:=X.drop k) (by rw [List.length_drop,I.out];omega)]
   have h2:Jj X=Jj (X.take k)+Jj (X.drop k):=by rw [← Uy,List.take_append_drop]
   simp only [h2]
   rw [show Jj (X.take k)+Jj (X.drop k)-Jj (X.drop k)=Jj (X.take k) by omega]
  have ax:=az.trans a4
  clear H
  go_wp2
  go_ret2
  rw [ar.out]
  exact ⟨rfl,ax⟩
 have hP:ownP firm X=-1:=by unfold ownP;rw [if_neg (by rw [I.out];exact hown)]
 rw [hP]
 have HR:Hid (reachV firm X=.tuple #[.int .i64 (XX X),.bool false]):=by show _=_;unfold reachV Yy;rw [if_neg (by rw [I.out];exact hown)]
 clear hP hown
 go_upto_region 5 with fail
 refine wA 4 [pV q 0,iV (XX X),iV (XX X),bV false] [19,20,4,5] (nS 1 (cV Tryz.func125 (fun u hk=>whole_any u F q X (a9.out.kept hk) HX.out)) nZ) ?_
 intro w3 k3
 simp only [F8]
 have J:=U.trans k3
 go_wp2
 go_ret2
 rw [HR.out]
 exact ⟨rfl,J⟩
theorem Sid.drop {s:Int} {L:List Lev} (h:Sid s L):∀ (i:Nat),Sid s (L.drop i):=by
 intro i
 induction i generalizing L with
 | zero=>exact h
 | succ i ih=>
  cases L with
  | nil=>exact h
  | cons l L=>exact ih h.tail
theorem reach_nn {X:List Ent} (j:Good X) (firm:Int):0≤(Yy firm X).1:=by
 have hw:=YW j.ok
 have hge:=YW (X:=X.take (WU firm X)) (fun x hx=>j.ok x (List.mem_of_mem_take hx))
 unfold Yy
 split <;> simp only <;> omega
theorem gives_any (w:World) (F:Nat→Prop) (g off:Nat) (s s0:Int) (L:List Lev) (o:Ord) (h:Lad w F g off s L) (hL:Sid s0 L):Gives 106 #[.pointer (some ⟨g,off,none⟩),o.v] w (.eq (.int .i64 (WW o L))):=by
 refine QW ?_
 have ah:Hid (WW o L≤67108864):=by
  have h1:=gives_le o L hL
  have h2:=wholeL_le hL
  show _≤_
  omega
 obtain ⟨v,aa,ag,Z,G,eL,hW⟩:=h
 have ak:Z.length≤64:=by have:=hL.ok.len;rw [← eL,Xz] at this;exact this
 have HS:=Kj aa
 have HV:=Kj ag
 have HW:=Kj hW
 have HL:=Kj hL
 have EL:=Kj eL
 obtain ⟨n,hn⟩:∃ n,Z.length=n:=⟨_,rfl⟩
 have ac:=Kj hW.sl
 rw [hn] at ac ak
 have HN:=Kj hn
 clear aa ag hW hL eL hn
 go_enter Tryz.func106,Tryz.ntmps106
 go_upto_region 0 with fail
 refine tAp 2 [.k (.fresh w.heap.size 35 (o.cells)),iK 0] (nS 0 (nV rfl (fun a u E D hk=>⟨_,_,XV 35 _ (o.cells) rfl (eE E),⟨_,rfl,hk.size,Blk.new u _ _⟩,((Keep.refl _ u).alloc _)⟩)) nZ) ?_
 intro gv wa hV ka
 rw [dq 2 [3,4]]
 simp only [Fz7]
 have an:(.fresh w.heap.size 35 (o.cells):Kn).p (gv 3) wa:=hV 0 3 (by kernel_rfl)
 generalize gv 3=v3 at an ⊢
 rw [gQ hV 1 4 (.int .i64 0)]
 clear hV
 obtain ⟨g3,rfl,hg3,aq⟩:=an
 refine Kx ?_
 have HO:=Kj (JX aq)
 clear aq
 go_upto_region 1 with fail
 refine wA 1 [iV 0] [5] nZ ?_
 intro wb kb
 simp only [F8]
 have a9:=ka.trans kb
 have af:=Kj (JJ HO.out kb)
 have al:=Kj (a9.cell HV.out)
 clear HO ka kb
 go_upto_region 2 with fail
 refine wA 6 [pV g off,pV g off,pV g (off+1),v,iV (n:Int),iV 0] [10,11,12,13,14,15] (nS 3 (ldC al.out) (nS 4 (sV rfl (fun a u E D hk=>Jx _ slQ _ _ _ _ rfl (dD D 3) ac.out)) nZ)) ?_
 intro w0 k0
 simp only [F8]
 have au:=Kj (JJ af.out k0)
 have k0:=a9.trans k0
 clear af al a9 HV HS
 go_wp2_with fail
 go_loopw [5,15] (fun t x wr=>∃ (i:Nat) (a:Int),i≤n∧x=.int .i64 i∧t=.int .i64 a∧Hid (WW o L=a+WW o (L.drop i))∧0≤a∧Kept w wr∧Kept w0 wr) (fun _ x _=>n-(intOf x).toNat)
 case atStart=>exact ⟨0,0,Nat.zero_le _,rfl,rfl,by show _=_;rw [List.drop_zero];omega,Int.le_refl _,k0,Kept.refl _⟩
 obtain ⟨i,s,hi,rfl,rfl,HM,aa,a1,ab⟩:=hrel
 by_cases hlt:i<n
 ·skip
  obtain ⟨gs,os,c,rfl⟩:=ac.out.some_ (by omega)
  obtain ⟨z,hz⟩:∃ z,Z[i]?=some z:=⟨Z[i]'(by rw [HN.out];omega),List.getElem?_eq_getElem (by rw [HN.out];omega)⟩
  obtain ⟨q,pr,X⟩:=z
  have N:=(HW.out.kept a1).cell hz
  have HC:=Kj N
  have HZ:=Kj hz
  have aj:=Kj ((HW.out.kept a1).lv (q,pr,X) (List.mem_of_getElem? hz))
  have am:Hid ((pr,X) ∈ L):=by show _ ∈ _;rw [← EL.out];exact qz (List.mem_of_getElem? hz)
  have HA:Hid (L[i]?=some (pr,X)):=by show _=_;rw [← EL.out];exact qj hz
  clear N hz
  go_upto_region 4 with fail
  refine wA 3 [pV gs (os+i*1),pV q 0,pV q 0] [17,18,7] (nS 0 (ixV slQ (os) n i ((i:Int)) (hlt)) (nS 1 (ldC HC.out) nZ)) ?_
  intro w1 k1
  simp only [F8]
  have a2:=a1.trans k1
  have j:=Kj (aj.out.kept k1)
  have I:=Kj (JJ au.out (ab.trans k1))
  have a6:=ab.trans k1
  have ar:=Kj (HL.out.good am.out).1
  have av:=Kj (HL.out.fr _ am.out)
  have HD:Hid (L.drop i=(pr,X)::L.drop (i+1)):=by
   obtain ⟨aw,he⟩:=List.getElem?_eq_some_iff.1 HA.out
   show _=_
   rw [List.drop_eq_getElem_cons aw,he]
  have a7:=Kj (reach_nn ar.out o.firm)
  have ay:=Kj (gives_nn o _ (HL.out.drop (i+1)))
  clear HC aj k1 ab
  by_cases hcr:o.crosses pr=true
  ·have J:=Kj hcr
   have H:Hid (WW o L=s+(if (Yy o.firm X).2=true then (Yy o.firm X).1 else (Yy o.firm X).1+WW o (L.drop (i+1)))):=by
    show _=_
    rw [HM.out,HD.out,WW]
    simp only
    rw [if_pos hcr]
   clear hcr HM
   go_upto_region 5 with fail
   refine wHp 4 [o.v,pV q 0,iV pr,bV true] [19,20,21,22] (nS 0 (ldO I.out) (nS 2 (cV Tryz.func109 (fun u hk=>yz u _ q X (j.out.kept hk))) (nS 3 (cV Tryz.func117 (fun u hk=>(by rw [← J.out];exact crosses_any o pr u))) nZ))) ?_
   intro w2 k2
   simp only [F8]
   refine UJ (.bool false) rfl (YX _ (.tmp 22) true rfl (by kernel_rfl)) ?_
   simp only [Act.put,sA,sS,sZ]
   refine Kx ?_
   have a5:=Kj (j.out.kept k2)
   have ao:=Kj (JJ I.out k2)
   have a3:=a2.trans k2
   have ai:=a6.trans k2
   clear j I J k2 a2 a6
   obtain ⟨O,U⟩:∃ x,(Yy o.firm X).1=x:=⟨_,rfl⟩
   obtain ⟨rb,a8⟩:∃ x,(Yy o.firm X).2=x:=⟨_,rfl⟩
   have ae:Hid (reachV o.firm X=.tuple #[.int .i64 O,.bool rb]):=by show _=_;unfold reachV;rw [U,a8]
   rw [U] at a7
   rw [U,a8] at H
   clear U a8
   go_upto_region 6 with fail
   refine wA 9 [pV q 0,pV g3 2,iV o.firm,.tuple #[.int .i64 O,.bool rb],.tuple #[.int .i64 O,.bool rb],iV O,bV rb,iV O,bV rb] [25,26,27,28,24,29,30,8,9] (nS 2 (ldR ao.out 2) (nS 3 (cV Tryz.func118 (fun u hk=>(by rw [← ae.out];exact reach_any pr u _ q X o.firm (a5.out.kept hk) ar.out av.out))) nZ)) ?_
   intro w3 k3
   simp only [F8]
   have ad:=a3.trans k3
   have ax:=ai.trans k3
   have hb1:0≤O:=a7.out
   have hb2:s+O≤67108864:=by
    have h1:=H.out
    have h2:=ah.out
    have h3:=ay.out
    split at h1 <;> omega
   clear a5 ao ae a7 k3 a3 ai
   cases rb with
   | true=>
    have HF:Hid (WW o L=s+O):=by show _=_;rw [H.out];rfl
    clear H
    go_wp2
    go_ret
    exact ⟨by rw [HF.out];rfl,ad⟩
   | false=>
    have HF:Hid (WW o L=s+O+WW o (L.drop (i+1))):=by show _=_;rw [H.out];simp only [Bool.false_eq_true,if_false];omega
    clear H
    go_wp2
    exact ⟨⟨i+1,s+O,by omega,by go_num,rfl,HF,by omega,ad,ax⟩,by simp [intOf];omega⟩
  have a4:o.crosses pr=false:=by simpa using hcr
  have J:=Kj a4
  have HF:Hid (WW o L=s):=by
   show _=_
   rw [HM.out,HD.out,WW]
   simp only
   rw [if_neg hcr]
   omega
  clear hcr a4 HM
  go_upto_region 5 with fail
  refine wHp 4 [o.v,pV q 0,iV pr,bV false] [19,20,21,22] (nS 0 (ldO I.out) (nS 2 (cV Tryz.func109 (fun u hk=>yz u _ q X (j.out.kept hk))) (nS 3 (cV Tryz.func117 (fun u hk=>(by rw [← J.out];exact crosses_any o pr u))) nZ))) ?_
  intro w2 k2
  simp only [F8]
  refine UJ (.bool true) rfl (YX _ (.tmp 22) false rfl (by kernel_rfl)) ?_
  simp only [Act.put,sA,sS,sZ]
  refine Kx ?_
  have a3:=a2.trans k2
  clear j I J k2 a2 a6
  go_wp2
  go_ret
  exact ⟨by rw [HF.out];rfl,a3⟩
 have HF:Hid (WW o L=s):=by
  show _=_
  rw [HM.out,List.drop_of_length_le (by rw [← EL.out,Xz,HN.out];omega)]
  simp [WW]
 clear HM
 go_wp2
 go_ret
 exact ⟨by rw [HF.out];rfl,a1⟩
theorem yZ (w:World) (F:Nat→Prop) (g off:Nat) (s:Int) (L:List Lev) (o:Ord) (h:Lad w F g off s L) (hl:L.length≤1000):Gives 105 #[.pointer (some ⟨g,off,none⟩),o.v] w (.eq (.bool (o.meets L))):=by
 refine QW ?_
 obtain ⟨v,a5,a1,Z,G,eL,hW⟩:=h
 have HV:=Kj a1
 have HW:=Kj hW
 have EL:=Kj eL
 have O:=Kj hW.sl
 clear a5 a1 hW eL
 cases Z with
 | nil=>
  have HM:Hid (o.meets L=false):=by show _=_;rw [← EL.out];rfl
  go_enter Tryz.func105,Tryz.ntmps105
  go_upto_region 0 with fail
  refine tAp 2 [.k (.fresh w.heap.size 35 (o.cells)),bK false] (nS 0 (nV rfl (fun a u E D hk=>⟨_,_,XV 35 _ (o.cells) rfl (eE E),⟨_,rfl,hk.size,Blk.new u _ _⟩,((Keep.refl _ u).alloc _)⟩)) nZ) ?_
  intro gv wa J N
  rw [dq 2 [3,4]]
  simp only [Fz7]
  have j:(.fresh w.heap.size 35 (o.cells):Kn).p (gv 3) wa:=J 0 3 (by kernel_rfl)
  generalize gv 3=v3 at j ⊢
  rw [gQ J 1 4 (.bool false)]
  clear J
  obtain ⟨g3,rfl,a3,H⟩:=j
  refine Kx ?_
  have I:=Kj (N.cell HV.out)
  clear H
  go_upto_region 1 with fail
  refine wHp 16 [pV g off,pV g off,pV g (off+1),v,iV (0:Int),bV false,bV false,undef,undef,undef,undef,undef,undef,undef,undef,undef] [5,6,7,8,9,10,11,12,13,14,15,16,17,18,19,20] (nS 3 (ldC I.out) (nS 4 (sV rfl (fun a u E D hk=>Jx _ slQ _ _ _ _ rfl (dD D 3) O.out)) (nS 5 (aV rfl (fun a u E D hk=>QZ rfl (dD D 4) rfl) (by decide)) nZ))) ?_
  intro w1 k1
  simp only [F8]
  refine UJ (.bool false) rfl (exec_pickF (.tmp 11) (.tmp 20) (.const (.bool false)) (.bool false) rfl (by kernel_rfl) rfl) ?_
  refine aT (.bool false) ?_
  simp only [Act.put,sA,sS,sZ]
  refine Kx ?_
  go_wp2
  go_ret
  exact ⟨by rw [HM.out];rfl,N.trans k1⟩
 | cons z Z=>
  obtain ⟨q,pr,X⟩:=z
  have HM:Hid (o.meets L=o.crosses pr):=by show _=_;rw [← EL.out];rfl
  have hl:Z.length+1≤1000:=by rw [← EL.out,Xz] at hl;exact hl
  obtain ⟨gs,os,c,rfl⟩:=O.out.some_ (by simp)
  have HC:=Kj (HW.out.cell (i:=0) (z:=(q,pr,X)) rfl)
  have a2:=Kj (HW.out.lv (q,pr,X) (by simp))
  obtain ⟨n,hn⟩:∃ n,Z.length+1=n:=⟨_,rfl⟩
  have hnz:0<n:=by omega
  rw [show ((q,pr,X)::Z).length=n from hn] at O HV
  rw [hn] at hl
  clear HW hn
  go_enter Tryz.func105,Tryz.ntmps105
  go_upto_region 0 with fail
  refine tAp 2 [.k (.fresh w.heap.size 35 (o.cells)),bK false] (nS 0 (nV rfl (fun a u E D hk=>⟨_,_,XV 35 _ (o.cells) rfl (eE E),⟨_,rfl,hk.size,Blk.new u _ _⟩,((Keep.refl _ u).alloc _)⟩)) nZ) ?_
  intro gv wa J N
  rw [dq 2 [3,4]]
  simp only [Fz7]
  have j:(.fresh w.heap.size 35 (o.cells):Kn).p (gv 3) wa:=J 0 3 (by kernel_rfl)
  generalize gv 3=v3 at j ⊢
  rw [gQ J 1 4 (.bool false)]
  clear J
  obtain ⟨g3,rfl,a3,H⟩:=j
  refine Kx ?_
  have I:=Kj (N.cell HV.out)
  have a4:=Kj (N.cell HC.out)
  have U:=Kj (a2.out.kept N)
  have HO:=Kj (JX H)
  clear H HV HC a2
  go_upto_region 1 with fail
  refine wHp 16 [pV g off,pV g off,pV g (off+1),.slice (some ⟨gs,os,none⟩) n c,iV (n:Int),bV true,bV true,o.v,pV g off,pV g off,pV g (off+1),.slice (some ⟨gs,os,none⟩) n c,pV gs os,pV q 0,iV pr,bV (o.crosses pr)] [5,6,7,8,9,10,11,12,13,14,15,16,17,18,19,20] (nS 3 (ldC I.out) (nS 4 (sV rfl (fun a u E D hk=>ZV _ _ _ slQ.und (some ⟨gs,os,none⟩) n c rfl (dD D 3))) (nS 5 (aV rfl (fun a u E D hk=>QZ rfl (dD D 4) rfl) (Ky (by omega))) (nS 7 (ldO HO.out) (nS 11 (ldC I.out) (nS 12 (ixV slQ (os) n 0 (0) ((by omega))) (nS 13 (ldC (by simpa using a4.out)) (nS 14 (cV Tryz.func109 (fun u hk=>yz u _ q X (U.out.kept hk))) (nS 15 (cV Tryz.func117 (fun u hk=>crosses_any o pr u)) nZ))))))))) ?_
  intro w1 k1
  simp only [F8]
  refine UJ (.bool (o.crosses pr)) rfl (JQZ (.tmp 11) (.tmp 20) (.const (.bool false)) (.bool (o.crosses pr)) rfl (by kernel_rfl) (by kernel_rfl)) ?_
  refine aT (.bool (o.crosses pr)) ?_
  simp only [Act.put,sA,sS,sZ]
  refine Kx ?_
  go_wp2
  go_ret
  exact ⟨by rw [HM.out];rfl,N.trans k1⟩
theorem lastOf_snoc (p:Int) (f:Fl):∀ (F:List Fl),Zq p (F++[f])=f.price
 | []=>rfl
 | [g]=>rfl
 | g::j::F=>by
  rw [List.cons_append,Zq]
  exact lastOf_snoc g.price f (j::F)
theorem lastOf_append:∀ (F G:List Fl) (p:Int),Zq p (F++G)=Zq (Zq p F) G
 | [],G,p=>rfl
 | f::F,G,p=>by rw [List.cons_append,Zq,Zq,lastOf_append F G]
theorem seenM_snoc (H:List Ent) (h:Ent):Jj (H++[h])=Jj H+h.n:=by rw [Uy];simp [Jj,Wx]
def Oc.more (x:Oc) (pr no:Int) (H:List Ent):Oc:={ x with f:=x.f++fillsOf x.o pr no x.left H,left:=x.left-Jj H }
theorem Oc.more_nil (x:Oc) (pr no:Int):x.more pr no []=x:=by unfold Oc.more;simp [fillsOf,Jj,Wx]
theorem Oc.set_fills (x:Oc) (v v':Value):(x.cells v).set 9 v'=x.cells v':=rfl
theorem Oc.set_left (x:Oc) (v:Value) (n:Int):(x.cells v).set 10 (.int .i64 n)=({ x with left:=n }:Oc).cells v:=rfl
theorem Oc.set_self (x:Oc) (v:Value) (b:Bool):(x.cells v).set 13 (.bool b)=({ x with self:=b }:Oc).cells v:=rfl
theorem Oc.set_rests (x:Oc) (v:Value) (b:Bool):(x.cells v).set 11 (.bool b)=({ x with rests:=b }:Oc).cells v:=rfl
theorem q_l (o:Ord) (n:Int):stc (o.l.set 6 n) []=(o.q n).cells:=rfl
theorem exec_bF {a:Act} {o:Oper} {u:World} (x y z t n:Operand) (m k:Ord) (p q r:Int) (j:o.op=.build 95 #[(0,x),(1,y),(2,z),(3,t),(4,n)]) (hx:a.eval x=m.v) (H:a.eval y=k.v) (I:a.eval z=.int .i64 p) (J:a.eval t=.int .i64 q) (D:a.eval n=.int .i64 r):(execOp a.eval o).run Tryz.prog u=.ok (.value (Fl.mk m k p q r).v) u:=
 XZ _ [(0,x),(1,y),(2,z),(3,t),(4,n)] (Fl.mk m k p q r).cells j (by simp only [List.map_cons,List.map_nil,hx,H,I,J,D];exact builtF m k p q r)
def TradeIn (w:World) (go p:Nat) (s:Int) (v u0 vf:Value) (last no pr:Int) (x:Oc) (H:List Ent) (r:Ending) (w':World):Prop:=
 ∃ vf',r=.returned (.tuple #[])∧Blk w' go 66 ((x.more pr no H).cells vf')∧Sl w' 95 21 vf' (x.more pr no H).f.length (fls (x.more pr no H).f)∧Blk w' p 92 (WX s v u0 (Zq last (fillsOf x.o pr no x.left H)) (no+H.length))∧Keep (fun b=>b=go∨b=p∨vf.ownBlock=some b) w w'∧∀ b,vf'.ownBlock=some b→vf.ownBlock=some b∨w.heap.size≤b
theorem trade_any (w:World) (I p:Nat) (s:Int) (v u0 U vh:Value) (last no pr:Int) (x:Oc) (H:List Ent) (hO:Blk w I 66 (x.cells U)) (hF:Sl w 95 21 U x.f.length (fls x.f)) (hB:Blk w p 92 (WX s v u0 last no)) (hH:Sl w 85 10 vh H.length (ents H)) (az:I≠p) (bo:∀ b,U.ownBlock=some b→b≠I∧b≠p) (bn:∀ b,vh.ownBlock=some b→b≠I∧b≠p∧U.ownBlock≠some b)
  (av:∀ h ∈ H,1≤h.n) (b1:Jj H≤x.left) (hl:x.left≤2000000) (hfl:x.f.length≤2000000) (hno:0≤no) (hno2:no≤2000000000000) :
  Calls Tryz.prog 108 #[.pointer (some ⟨p,0,none⟩),.pointer (some ⟨I,0,none⟩),.int .i64 pr,vh] w (TradeIn w I p s v u0 U last no pr x H):=by
 have hpl:=hB.lt
 have hgl:=hO.lt
 have ca:(H.length:Int)≤Jj H:=by
  have:=YW (X:=H.map fun h=>⟨{ h.o with qty:=h.n },h.n⟩) (by intro e he;obtain ⟨h,hh,rfl⟩:=List.mem_map.1 he;exact ⟨av h hh,Int.le_refl _⟩)
  have h1:=this.1
  rw [List.length_map] at h1
  have h2:Jj (H.map fun h=>(⟨{ h.o with qty:=h.n },h.n⟩:Ent))=Jj H:=by unfold Jj;rw [List.map_map];rfl
  omega
 obtain ⟨n,hn⟩:∃ n,H.length=n:=⟨_,rfl⟩
 have hn2:(n:Int)≤2000000:=by omega
 have HN:=Kj hn
 have HP:=Kj av
 have bN:=Kj b1
 have HO:=Kj hO
 have HF:=Kj hF
 have HB:=Kj hB
 have HH:=Kj hH
 have bP:=Kj bn
 have bu:=Kj bo
 rw [hn] at HH
 have b0:∀ b,U.ownBlock=some b→b<w.heap.size:=fun b J=>hF.lt J
 have HFL:=Kj b0
 have HHB:Hid (∀ b,vh.ownBlock=some b→b<w.heap.size):=fun b J=>hH.lt J
 clear hO hF hB hH bn bo av hn b0 ca b1
 go_enter Tryz.func108,Tryz.ntmps108
 go_upto_region 0 with fail
 refine wAp 7 [pV I 0,pV I 0,pV I 0,pV I 9,U,vh,iV (n:Int)] [11,12,13,14,15,16,17] (nS 4 (sV rfl (fun a u E D hk=>Qx _ _ Tryz.underlying64 _ _ _ rfl (dD D 3) (by rw [(HO.out.kept hk).cell];rfl))) (nS 6 (sV rfl (fun a u E D hk=>Jx _ slH _ _ _ _ rfl (dD D 5) HH.out)) nZ)) ?_
 intro w1 k1
 simp only [F8]
 refine cT Tryz.func120 [U,.int .i64 (n:Int)] ?_
 refine (growF_any w1 U x.f.length n _ (HF.out.kept k1) (by omega)).mono ?_
 rintro r w2 ⟨vg,rfl,aB,k2,bG⟩
 refine ⟨_,rfl,?_⟩
 refine aT (.pointer (some ⟨I,0,none⟩)) ?_
 refine aT (.pointer (some ⟨I,9,none⟩)) ?_
 refine ZJ 64 I 9 66 _ vg _ _ rfl rfl (by kernel_rfl) (by kernel_rfl) (by kernel_rfl) (Zy aB) (Xy aB) ((HO.out.kept k1).kept k2) (by rw [Oc.len15];omega) ?_
 intro w3 b8 aC bS
 simp only [Act.put,sA,sS,sZ]
 refine Kx ?_
 rw [Oc.set_fills] at b8
 have ax:=k1.trans k2
 have z12:=ax.size
 have K3:Keep (fun b=>b=I∨b=p∨U.ownBlock=some b) w w3:=(Keep.mono (T:=(fun b=>b=I∨b=p∨U.ownBlock=some b)) ax (fun _ _ h=>h.elim)).trans aC (fun b _ h=>.inl h)
 have ba:∀ b,vg.ownBlock=some b→U.ownBlock=some b∨w.heap.size≤b:=fun b J=>(bG b J).imp id (fun h=>Kv k1.size h)
 have aS:∀ b,vg.ownBlock=some b→b≠I∧b≠p:=fun b J=>by
  rcases ba b J with h | h
  ·exact bu.out b h
  omega
 have bw:=Kj b8
 have bv:=Kj (aB.keep aC (fun b J e=>(aS b J).1 e))
 have bL:=Kj ((HB.out.kept ax).keep aC (fun e=>az e.symm))
 have c8:=Kj ba
 clear b8 aB aC bS k1 k2 bG ba ax aS
 go_upto_region 1 with fail
 refine wA 3 [vh,iV (n:Int),iV 0] [21,22,23] (nS 1 (sV rfl (fun a u E D hk=>Jx _ slH _ _ _ _ rfl (dD D 0) HH.out)) nZ) ?_
 intro w4 k4
 simp only [F8]
 have K4:=K3.kept k4
 have cb:=Kj (bw.out.kept k4)
 have cd:=Kj (bv.out.kept k4)
 have bU:=Kj (bL.out.kept k4)
 clear bw bv bL K3 k4
 go_wp2_with fail
 go_loopw [23] (fun t wr=>∃ (i:Nat) (vv:Value),i≤n∧t=.int .i64 (i:Int)∧Hid (Blk wr I 66 ((x.more pr no (H.take i)).cells vv))∧Hid (Sl wr 95 21 vv (x.more pr no (H.take i)).f.length (fls (x.more pr no (H.take i)).f))∧Hid (Blk wr p 92 (WX s v u0 (Zq last (fillsOf x.o pr no x.left (H.take i))) (no+i)))∧Hid (∀ b,vv.ownBlock=some b→U.ownBlock=some b∨w.heap.size≤b)∧Keep (fun b=>b=I∨b=p∨U.ownBlock=some b) w wr) (fun t _=>n-(intOf t).toNat)
 case atStart=>exact ⟨0,vg,Nat.zero_le _,rfl,by rw [List.take_zero,Oc.more_nil];exact cb.out,by rw [List.take_zero,Oc.more_nil];exact cd.out,by rw [List.take_zero];simp only [fillsOf,Zq,Int.ofNat_zero,Int.add_zero];exact bU.out,c8.out,K4⟩
 obtain ⟨i,vv,hi,rfl,a2,a3,a9,am,ay⟩:=hrel
 have zr:=ay.size
 by_cases hlt:i<n
 ·skip
  obtain ⟨gs,off,c,rfl⟩:=HH.out.some_ (by omega)
  obtain ⟨h,hh⟩:∃ h,H[i]?=some h:=⟨H[i]'(by rw [HN.out];omega),List.getElem?_eq_getElem (by rw [HN.out];omega)⟩
  have bc:=bP.out gs rfl
  have HE:Hid (wr.rangeAt gs (off+i*10) h.cells):=QJ (HH.out.rng i h hh) ay (fun e=>by
   rcases e with e | e | e
   ·exact bc.1 e
   ·exact bc.2.1 e
   exact bc.2.2 e)
  have HHI:=Kj hh
  have b3:Hid (H.take (i+1)=H.take i++[h]):=by show _=_;rw [List.take_add_one,hh];rfl
  have hh1:1≤h.n:=HP.out h (List.mem_of_getElem? hh)
  have bW:Jj (H.take i)+h.n≤x.left∧0≤Jj (H.take i):=by
   have e1:Jj H=Jj (H.take i)+h.n+Jj (H.drop (i+1)):=by
    rw [← seenM_snoc,← b3.out,← Uy,List.take_append_drop]
   have bC:∀ Y:List Ent,(∀ y ∈ Y,1≤y.n)→0≤Jj Y:=fun Y=>by
    induction Y with
    | nil=>intro _;simp [Jj,Wx]
    | cons y Y ih=>intro hy;rw [Vx];have:=ih (fun z hz=>hy z (by simp [hz]));have:=hy y (by simp);omega
   have e2:=bC (H.drop (i+1)) (fun y hy=>HP.out y (List.mem_of_mem_drop hy))
   have e3:=bC (H.take i) (fun y hy=>HP.out y (List.mem_of_mem_take hy))
   have e4:=bN.out
   omega
  clear hh
  obtain ⟨j,aa⟩:∃ j,x.more pr no (H.take i)=j:=⟨_,rfl⟩
  obtain ⟨la,bm⟩:∃ la,Zq last (fillsOf x.o pr no x.left (H.take i))=la:=⟨_,rfl⟩
  have bI:j.o=x.o:=by rw [← aa];rfl
  have bX:j.left=x.left-Jj (H.take i):=by rw [← aa];rfl
  have bY:j.f.length=x.f.length+i:=by rw [← aa];show (x.f++_).length=_;rw [List.length_append,jy,List.length_take,HN.out];omega
  have bd:Hid (x.more pr no (H.take (i+1))={ j with f:=j.f++[⟨h.o,x.o.q j.left,pr,h.n,no+i+1⟩],left:=j.left-h.n }):=by
   show _=_
   rw [← aa,b3.out]
   unfold Oc.more
   simp only
   rw [xQ,seenM_snoc,List.length_take,HN.out,Nat.min_eq_left hi]
   simp only [fillsOf,List.append_assoc]
   congr 1
   omega
  have bl:Hid (Zq last (fillsOf x.o pr no x.left (H.take (i+1)))=pr):=by
   show _=_
   rw [b3.out,xQ]
   simp only [fillsOf]
   exact lastOf_snoc _ _ _
  rw [aa] at a2 a3
  rw [bm] at a9
  have ce:=Kj bI
  have hlb2:h.n≤j.left∧j.left≤2000000:=by omega
  have hxfl:j.f.length≤4000001:=by omega
  have hni:0≤no+(i:Int)∧no+(i:Int)≤3000000000000:=by omega
  have bt:∀ b,vv.ownBlock=some b→b<wr.heap.size:=fun b J=>a3.out.lt J
  have cc:=Kj bt
  have aw:∀ b,vv.ownBlock=some b→b≠I∧b≠p:=fun b J=>by
   rcases am.out b J with e | e
   ·exact bu.out b e
   omega
  have aD:=Kj aw
  clear aa bm bI bX bt aw bW bY
  go_upto_region 3 with fail
  refine tAp 3 [pK gs (off+i*10),.v (h.v),.k (.fresh wr.heap.size 85 XY.cells)] (nS 0 (ixV slH (off) n i ((i:Int)) (hlt)) (nS 1 (ldS Tryz.underlying85 (fun u hk=>JJ HE.out hk) (by rw [h.len10];exact szH)) (nS 2 (nV rfl (fun a u E D hk=>⟨_,_,QX 85 XY.cells rfl zH,⟨_,rfl,hk.size,Blk.new u _ _⟩,((Keep.refl _ u).alloc _)⟩)) nZ))) ?_
  intro gv w5 hV k5
  rw [dq 3 [25,26,9]]
  simp only [Fz7]
  have bD:(.fresh wr.heap.size 85 XY.cells:Kn).p (gv 9) w5:=hV 2 9 (by kernel_rfl)
  generalize gv 9=v9 at bD ⊢
  rw [gQ hV 1 26 h.v]
  clear hV
  obtain ⟨b9,rfl,hb9,bq⟩:=bD
  refine YV 85 b9 85 XY.cells h.cells _ _ rfl rfl (by kernel_rfl) (by kernel_rfl) bq (by rw [Ent.len10];exact szH) (by rw [Ent.len10,Ent.len10]) (Ent.one _) ?_
  intro w6 be bA c7
  simp only [Act.put]
  refine Kx ?_
  have k6:Kept wr w6:=k5.trans' bA (by omega)
  have bh:=Kj be
  have l9:=be.lt
  have b2:=Kj (a2.out.kept k6)
  clear bq be bA c7 k5 HE
  go_upto_region 4 with fail
  refine tAp 5 [pK I 0,pK I 0,pK I 0,.v (j.o.v),.k (.fresh w6.heap.size 35 JV.cells)] (nS 3 (ldS Tryz.underlying35 (fun u hk=>oc_ord (b2.out.kept hk)) (by rw [j.o.len9];exact JU)) (nS 4 (nV rfl (fun a u E D hk=>⟨_,_,QX 35 JV.cells rfl zO,⟨_,rfl,hk.size,Blk.new u _ _⟩,((Keep.refl _ u).alloc _)⟩)) nZ)) ?_
  intro gv w7 hV k7
  rw [dq 5 [27,28,29,30,10]]
  simp only [Fz7]
  have aX:(.fresh w6.heap.size 35 JV.cells:Kn).p (gv 10) w7:=hV 4 10 (by kernel_rfl)
  generalize gv 10=v10 at aX ⊢
  rw [gQ hV 3 30 j.o.v]
  clear hV
  obtain ⟨b4,rfl,hb10,O⟩:=aX
  refine sO j.o O ?_
  intro w8 bf bJ bQ
  simp only [Act.put]
  refine Kx ?_
  have k8:Kept w6 w8:=k7.trans' bJ (by omega)
  have z6:=k6.size
  have bs:=Kj (b2.out.kept k8)
  have aU:=Kj (bh.out.kept k8)
  have l10:=bf.lt
  clear O bJ bQ k7 b2 bh
  go_upto_region 5 with fail
  refine wAp 5 [pV I 0,pV I 0,pV I 10,iV j.left,pV b4 6] [31,32,33,34,35] (nS 3 (sV rfl (fun a u E D hk=>JZ _ Tryz.underlying3 _ _ _ rfl (dD D 2) (by rw [(bs.out.kept hk).cell];rfl))) nZ) ?_
  intro w9 k9
  simp only [F8]
  refine xy b4 6 35 j.o.l [] j.left _ _ rfl rfl (by kernel_rfl) (by kernel_rfl) (bf.kept k9) (by simp [Ord.l]) ?_
  intro b5 O af bB
  simp only [Act.put]
  refine Kx ?_
  rw [q_l] at O
  have ab:Kept wr b5:=((k6.trans k8).trans k9).trans' af (by omega)
  have aI:=Kj O
  have aj:=Kj ((aU.out.kept k9).keep af (by omega))
  have aK:=Kj (a9.out.kept ab)
  have aO:=Kj (a2.out.kept ab)
  have aQ:=Kj (a3.out.kept ab)
  have z10:=ab.size
  clear bf O af bB k9 bs aU k6 k8 a2 a9 a3
  go_upto_region 6 with fail
  refine wAp 4 [pV p 0,iV pr,pV p 0,pV p 4] [36,37,38,39] nZ ?_
  intro w11 b6
  simp only [F8]
  refine ZJ 3 p 4 92 _ (.int .i64 pr) _ _ rfl rfl (by kernel_rfl) (by kernel_rfl) (by kernel_rfl) rfl rfl (aK.out.kept b6) (by rw [JQx];omega) ?_
  intro c9 ak aM bx
  simp only [Act.put]
  refine Kx ?_
  rw [sideCs_last] at ak
  have aN:Keep (·=p) b5 c9:=Keep.any b6 aM
  have ai:=Kj ak
  clear ak aM bx b6 aK
  go_upto_region 7 with fail
  refine wAp 7 [pV p 0,pV p 0,pV p 5,iV (no+(i:Int)),iV (no+(i:Int)+1),pV p 0,pV p 5] [40,41,42,43,44,45,46] (nS 3 (ldC ((ai.out.cell 5).trans (by unfold WX;split <;> rfl))) (nS 4 (sV rfl (fun a u E D hk=>YQ (no+(i:Int)+1) (p:=no+(i:Int)) (q:=1) rfl (dD D 3) rfl rfl (by omega) (by omega))) nZ)) ?_
  intro w13 b7
  simp only [F8]
  refine ZJ 3 p 5 92 _ (.int .i64 (no+(i:Int)+1)) _ _ rfl rfl (by kernel_rfl) (by kernel_rfl) (by kernel_rfl) rfl rfl (ai.out.kept b7) (by rw [JQx];omega) ?_
  intro a8 aq aZ bH
  simp only [Act.put]
  refine Kx ?_
  rw [sideCs_no] at aq
  have N:Keep (·=p) b5 a8:=(aN.kept b7).trans aZ (fun _ _ h=>h)
  have z14:=N.size
  have hpl':p<wr.heap.size:=by omega
  have ac:=Kj aq
  have ar:=Kj (aO.out.keep N az)
  have aY:=Kj (aQ.out.keep N (fun b J=>(aD.out b J).2))
  have a1:=Kj (aj.out.keep N (by omega))
  have a5:=Kj (aI.out.keep N (by omega))
  have bb:=Kj (JX a1.out)
  have aW:=Kj (JX a5.out)
  clear aq aZ bH b7 aN ai aO aQ aj aI
  go_upto_region 8 with fail
  refine JJZ 17 [.eq (.pointer (some ⟨I,0,none⟩)),.eq (.pointer (some ⟨I,0,none⟩)),.eq (.pointer (some ⟨I,0,none⟩)),.eq (.pointer (some ⟨I,9,none⟩)),.eq (vv),.eq (.pointer (some ⟨b9,0,none⟩)),.eq (h.o.v),.eq ((j.o.q j.left).v),.eq (.int .i64 pr),.eq (.pointer (some ⟨b9,9,none⟩)),.eq (.int .i64 h.n),.eq (.pointer (some ⟨p,0,none⟩)),.eq (.pointer (some ⟨p,0,none⟩)),.eq (.pointer (some ⟨p,5,none⟩)),.eq (.int .i64 (no+(i:Int)+1)),.eq ((Fl.mk h.o (j.o.q j.left) pr h.n (no+(i:Int)+1)).v),.sl a8.heap.size 95 21 1 (Fl.mk h.o (j.o.q j.left) pr h.n (no+(i:Int)+1)).cells] (.pointer (some ⟨I,0,none⟩)) ((fun v' u u'=>Sl u' 95 21 v' (j.f.length+1) (fls j.f++(Fl.mk h.o (j.o.q j.left) pr h.n (no+(i:Int)+1)).cells)∧Keep (fun b=>vv.ownBlock=some b) u u'∧∀ b,v'.ownBlock=some b→vv.ownBlock=some b∨a8.heap.size≤b)) (by kernel_rfl) rfl rfl (by kernel_rfl) (by kernel_rfl) (t_zero (d:=47) _ rfl rfl rfl (by kernel_rfl) (by kernel_rfl)) ?_ (fun a u hE hD hk=> (by obtain ⟨v',u',hr,bZ,c5,c4⟩:=QQ slF _ u vv (a.eval (.tmp 63)) j.f.length 1 (fls j.f) (Fl.mk h.o (j.o.q j.left) pr h.n (no+(i:Int)+1)).cells (aY.out.kept hk) ((hD 16 63 (by kernel_rfl))).1 (Fl.one _) (by unfold maxLen;omega) (by omega);exact t_last (o:=⟨some 64,_,_,_,_,_⟩) (R:=(fun v' u u'=>Sl u' 95 21 v' (j.f.length+1) (fls j.f++(Fl.mk h.o (j.o.q j.left) pr h.n (no+(i:Int)+1)).cells)∧Keep (fun b=>vv.ownBlock=some b) u u'∧∀ b,v'.ownBlock=some b→vv.ownBlock=some b∨a8.heap.size≤b)) (m:=17) (v:=v') (w':=u') rfl (JQ rfl _) (QV slF (.tmp 51) (.tmp 63) vv _ rfl (dD hD 4) rfl v' u' hr) ⟨bZ,c5,fun b J=>(c4 b J).imp id (fun h=>Kv hk.size h)⟩)) ?_
  ·refine mE 2 1 ?_
   refine nD 3 48 1 ?_
   refine fD 4 49 2 66 1 9 0 ?_
   refine sW 5 rfl (fun a u E D hk=>Qx _ _ Tryz.underlying64 _ _ _ rfl (dD D 3) (by rw [(ar.out.kept hk).cell];rfl)) ?_
   refine fE 6 9 85 0 0 0 ?_
   refine sD 7 52 5 h.o.cells Tryz.underlying35 (fun u hk=>xX (JJ bb.out hk)) (by rw [h.o.len9];exact JU) ?_
   refine sE 8 10 b4 0 ((j.o.q j.left).cells) Tryz.underlying35 (fun u hk=>JJ aW.out hk) (by rw [(j.o.q j.left).len9];exact JU) ?_
   refine mE 9 2 ?_
   refine fE 10 9 85 1 9 0 ?_
   refine lD 11 56 9 Tryz.underlying3 (fun u hk=>Xx (JJ bb.out hk) 9 _ rfl) ?_
   refine mE 12 0 ?_
   refine nD 13 58 11 ?_
   refine fD 14 59 12 92 3 5 0 ?_
   refine sW 15 rfl (fun a u E D hk=>JZ _ Tryz.underlying3 _ _ _ rfl (dD D 13) (Kept.cell hk ((ac.out.cell 5).trans (by unfold WX;split <;> rfl)))) ?_
   refine sW 16 rfl (fun a u E D hk=>exec_bF _ _ _ _ _ h.o (j.o.q j.left) pr h.n (no+(i:Int)+1) rfl (dD D 6) (dD D 7) (dD D 8) (dD D 10) (dD D 14)) ?_
   refine nW 17 rfl (fun a u E D hk=>⟨_,_,VJ slF _ (Fl.mk h.o (j.o.q j.left) pr h.n (no+(i:Int)+1)).cells (by omega) rfl (dD D 15) ((Fl.mk h.o (j.o.q j.left) pr h.n (no+(i:Int)+1)).len21),(jY u 95 21 _ a8.heap.size ((Fl.mk h.o (j.o.q j.left) pr h.n (no+(i:Int)+1)).len21) (by omega) hk.size),((Keep.refl _ u).alloc _)⟩) ?_
   exact fz
  intro gv w1 w15 hV h0 hR aE
  rw [dq 18 [47,48,49,50,51,52,53,54,55,56,57,58,59,60,61,62,63,64]]
  simp only [Fz7]
  have hT:=hR 64 (by kernel_rfl)
  generalize gv 64=v64 at hT ⊢
  rw [show gv 47=.pointer (some ⟨I,0,none⟩) from h0 47 (by kernel_rfl)]
  clear hV h0 hR
  obtain ⟨a7,a4,an⟩:=hT
  have aR:=(ar.out.kept aE).keep a4 (fun e=>(aD.out I e).1 rfl)
  refine aT (.pointer (some ⟨I,0,none⟩)) ?_
  refine aT (.pointer (some ⟨I,9,none⟩)) ?_
  refine ZJ 64 I 9 66 _ v64 _ _ rfl rfl (by kernel_rfl) (by kernel_rfl) (by kernel_rfl) (Zy a7) (Xy a7) aR (by rw [Oc.len15];omega) ?_
  intro bO ag au bi
  simp only [Act.put,sA,sS,sZ]
  refine Kx ?_
  obtain ⟨vn,aw⟩:∃ y,y=v64:=⟨_,rfl⟩
  subst aw
  rw [Oc.set_fills] at ag
  have zk1:=aE.size
  have z15:=a4.size
  have al:∀ b,vn.ownBlock=some b→b≠I∧b≠p:=fun b J=>by
   rcases an b J with e | e
   ·exact aD.out b e
   omega
  have bF:=Kj al
  have aG:∀ b,vn.ownBlock=some b→U.ownBlock=some b∨w.heap.size≤b:=fun b J=>by
   rcases an b J with e | e
   ·exact am.out b e
   exact .inr (by omega)
  have bz:=Kj aG
  have aF:Keep (fun b=>b=I∨vv.ownBlock=some b) a8 bO:=(Keep.mono (T:=fun b=>b=I∨vv.ownBlock=some b) (Keep.any aE a4) (fun _ _ e=>.inr e)).trans au (fun b _ e=>.inl e)
  have ah:=Kj ag
  have aJ:=Kj (a7.keep au (fun b J e=>(al b J).1 e))
  have ao:=Kj (JX (a1.out.keep aF (fun e=>by
   rcases e with e | e
   ·omega
   have:=cc.out _ e;omega)))
  have aL:=Kj (ac.out.keep aF (fun e=>by
   rcases e with e | e
   ·exact az e.symm
   exact (aD.out _ e).2 rfl))
  have aH:Keep (fun b=>b=I∨b=p∨U.ownBlock=some b) w bO:=by
   refine (Keep.trans (ay.kept ab) N (fun b _ e=>.inr (.inl e))).trans aF (fun b J e=>?_)
   rcases e with e | e
   ·exact .inl e
   rcases am.out b e with e | e
   ·exact .inr (.inr e)
   omega
  clear ag a7 a4 an au bi aR aE ar aY a1 a5 bb aW ac aF N ab al aG
  obtain ⟨xj,bR⟩:∃ xj:Oc,xj=j:=⟨_,rfl⟩
  go_upto_region 9 with fail
  refine wHp 7 [pV I 0,pV I 0,pV I 10,iV j.left,pV b9 9,iV h.n,iV (j.left-h.n)] [67,68,69,70,71,72,73] (nS 3 (sV rfl (fun a u E D hk=>JZ _ Tryz.underlying3 _ _ _ rfl (dD D 2) (by rw [(ah.out.kept hk).cell];rfl))) (nS 5 (ldR ao.out 9) (nS 6 (sV rfl (fun a u E D hk=>Zz (j.left-h.n) (p:=j.left) (q:=h.n) rfl (dD D 3) (dD D 5) rfl (by omega) (by omega))) nZ))) ?_
  intro w17 ad
  simp only [F8]
  refine aT (.pointer (some ⟨I,0,none⟩)) ?_
  refine aT (.pointer (some ⟨I,10,none⟩)) ?_
  refine ZJ 3 I 10 66 _ (.int .i64 (j.left-h.n)) _ _ rfl rfl (by kernel_rfl) (by kernel_rfl) (by kernel_rfl) rfl rfl (ah.out.kept ad) (by rw [Oc.len15];omega) ?_
  intro aA ae a6 bj
  simp only [Act.put,sA,sS,sZ]
  refine Kx ?_
  rw [Oc.set_left] at ae
  have bp:Hid (Blk aA I 66 ((x.more pr no (H.take (i+1))).cells vn)):=by
   show Blk _ _ _ _
   rw [bd.out]
   exact ae
  have bM:Hid (Sl aA 95 21 vn (x.more pr no (H.take (i+1))).f.length (fls (x.more pr no (H.take (i+1))).f)):=by
   show Sl _ _ _ _ _ _
   rw [bd.out]
   simp only
   rw [List.length_append,fls_snoc,← ce.out]
   exact (aJ.out.kept ad).keep a6 (fun b J e=>(bF.out b J).1 e)
  have br:Hid (Blk aA p 92 (WX s v u0 (Zq last (fillsOf x.o pr no x.left (H.take (i+1)))) (no+((i+1:Nat):Int)))):=by
   show Blk _ _ _ _
   rw [bl.out,show no+((i+1:Nat):Int)=no+(i:Int)+1 by omega]
   exact (aL.out.kept ad).keep a6 (fun e=>az e.symm)
  have bg:Keep (fun b=>b=I∨b=p∨U.ownBlock=some b) w aA:=(aH.kept ad).trans a6 (fun b _ e=>.inl e)
  clear ae a6 bj ah aJ aL aH ad ao bR bd bl
  go_wp2
  exact ⟨⟨i+1,vn,by omega,by go_num,bp,bM,br,bz,bg⟩,by simp [intOf];omega⟩
 have bT:i=n:=by omega
 subst bT
 have HT:Hid (H.take i=H):=by show _=_;exact List.take_of_length_le (by rw [HN.out];omega)
 have HR:Hid (TradeIn w I p s v u0 U last no pr x H (.returned (.tuple #[])) wr):=by
  rw [HT.out] at a2 a3 a9
  exact ⟨vv,rfl,a2.out,a3.out,by rw [HN.out];exact a9.out,ay,am.out⟩
 clear a2 a3 a9 am
 go_wp2
 go_end0
 exact HR.out
def Rejoin3 (w:World) (F:Nat→Prop) (p:Nat) (B:Bok) (s:Int) (u:Value) (Fs:Nat→Prop):Prop:=
 ∀ (w':World) (v':Value) (L':List Lev) (Fs':Nat→Prop) (last no:Int) (S:Nat→Prop),Keep S w w'→(∀ b,F b→S b→Fs b∨b=p)→Blk w' p 92 (WX s v' u last no)→Way 123 120 117 w' Fs' v' L'→Grow w Fs Fs'→∃ F',Bk w' F' p (B.to s L' last no)∧Grow w F F'∧∀ b,F' b↔F b∨Fs' b
theorem Bk.open3 {w:World} {F:Nat→Prop} {p:Nat} {B:Bok} (h:Bk w F p B) {s:Int} (hs:s=1∨s=2) :
  ∃ v u Z G Fs,levs Z=B.sd s∧WayZ 123 120 117 w Fs v Z G∧Blk w p 92 (WX s v u B.last B.no)∧(∀ b,Fs b→F b∧b≠p)∧F p∧(∀ b,F b→b<w.heap.size)∧Rejoin3 w F p B s u Fs:=by
 obtain ⟨h1,U,v1,v2,F1,F2,hB,a1,a2,D,J⟩:=h
 have hpl:=U p h1
 rcases hs with rfl | rfl
 ·obtain ⟨Z,G,e,hz⟩:=a1
  refine ⟨v1,v2,Z,G,F1,e,hz,hB,fun b j=>⟨(D b j).1,(D b j).2.1⟩,h1,U,?_⟩
  intro w' v' L' I last no S hk hS N H hG
  have O:=H.lt
  refine ⟨fun b=>F b∨I b,⟨.inl h1,fun b j=>j.elim (fun h=>Nat.lt_of_lt_of_le (U b h) hk.size) (O b),v',v2,I,F2,N,H,a2.keep hk (fun b j h=>(hS b (J b j).1 h).elim (fun h=>(D b h).2.2 j) (fun h=>(J b j).2 h)),fun b j=>?_,fun b j=>⟨.inl (J b j).1,(J b j).2⟩⟩,fun b j=>j.elim .inl (fun h=>(hG b h).imp (fun h=>(D b h).1) id),fun b=>Iff.rfl⟩
  refine ⟨.inr j,?_,?_⟩
  ·rcases hG b j with h | h
   ·exact (D b h).2.1
   omega
  rcases hG b j with h | h
  ·exact (D b h).2.2
  intro h'
  have:=U b (J b h').1
  omega
 obtain ⟨Z,G,e,hz⟩:=a2
 refine ⟨v2,v1,Z,G,F2,e,hz,hB,J,h1,U,?_⟩
 intro w' v' L' I last no S hk hS N H hG
 have O:=H.lt
 refine ⟨fun b=>F b∨I b,⟨.inl h1,fun b j=>j.elim (fun h=>Nat.lt_of_lt_of_le (U b h) hk.size) (O b),v1,v',F1,I,N,a1.keep hk (fun b j h=>(hS b (D b j).1 h).elim (fun h=>(D b j).2.2 h) (fun h=>(D b j).2.1 h)),H,fun b j=>⟨.inl (D b j).1,(D b j).2.1,fun h'=>?_⟩,fun b j=>⟨.inr j,?_⟩⟩,fun b j=>j.elim .inl (fun h=>(hG b h).imp (fun h=>(J b h).1) id),fun b=>Iff.rfl⟩
 ·rcases hG b h' with h | h
  ·exact (D b j).2.2 h
  have:=U b (D b j).1
  omega
 rcases hG b j with h | h
 ·exact (J b h).2
 omega
theorem match_zero {o:Ord} {no q:Int} (h:q≤0):∀ (L:List Lev),Yq o no q L=⟨[],q,false,L⟩
 | []=>rfl
 | l::R=>by rw [Yq,if_neg (fun h'=>by omega)]
def roundM (o:Ord) (no q:Int) (l:Lev) (R:List Lev):Mt:=
 if (takeM o.firm q l.2).2.1=true then ⟨[],q-Jj (takeM o.firm q l.2).1,true,VX [] R (l.1,(takeM o.firm q l.2).2.2)⟩ else Yq o (no+(takeM o.firm q l.2).1.length) (q-Jj (takeM o.firm q l.2).1) (VX [] R (l.1,(takeM o.firm q l.2).2.2))
theorem match_round {s:Int} {o:Ord} {no q:Int} {l:Lev} {R:List Lev} (N:Sid s (l::R)) (O:0<q) (J:o.crosses l.1=true) :
  Yq o no q (l::R)=⟨fillsOf o l.1 no q (takeM o.firm q l.2).1++(roundM o no q l R).f,(roundM o no q l R).left,(roundM o no q l R).self,(roundM o no q l R).L⟩:=by
 obtain ⟨I,U⟩:=N.good (l:=l) (by simp)
 obtain ⟨u1,u2,u3⟩:=takeM_end o.firm _ q l.2 (Nat.le_refl _) (by omega) I U
 rw [Yq,if_pos ⟨O,J⟩]
 unfold roundM VX
 generalize takeM o.firm q l.2=t at *
 obtain ⟨H,b,X⟩:=t
 simp only at *
 by_cases he:X.isEmpty=true
 ·rw [if_pos he,if_pos he]
  have D:X=[]:=by simpa using he
  subst D
  have hb:b=false:=by
   cases b with
   | false=>rfl
   | true=>obtain ⟨e,E,j,_⟩:=u2 rfl;cases j
  subst hb
  simp
 rw [if_neg he,if_neg he]
 cases b with
 | true=>simp
 | false=>
  rcases u3 rfl with j | j
  ·rw [if_neg (by simp),match_zero (by omega)]
   simp
  rw [j] at he;exact absurd rfl he
structure RoundIs (s:Int) (o:Ord) (q:Int) (l:Lev) (R:List Lev) (t:List Ent × Bool × List Ent):Prop where
 sid:Sid s (VX [] R (l.1,t.2.2))
 pos:∀ h ∈ t.1,1≤h.n
 sum:Jj t.1≤q
 len:(t.1.length:Int)≤Jj t.1
 prog:t.2.1=true∨1≤Jj t.1
 few:t.2.2.length≤64
theorem round_is {s:Int} {o:Ord} {q:Int} {l:Lev} {R:List Lev} (j:Sid s (l::R)) (hq:0<q):RoundIs s o q l R (takeM o.firm q l.2):=by
 obtain ⟨D,hy⟩:=j.good (l:=l) (by simp)
 obtain ⟨t1,I,U,O,N⟩:=takeM_facts o.firm _ q l.2 (Nat.le_refl _) D
 obtain ⟨u1,u2,u3⟩:=takeM_end o.firm _ q l.2 (Nat.le_refl _) (by omega) D hy
 have H:=take_len o.firm q l.2
 have h64:l.2.length≤64:=by
  have:=j.few
  rw [Qy,List.length_append] at this
  omega
 refine ⟨?_,fun h hh=>(U h hh).1,N (by omega),O,?_,by omega⟩
 ·unfold VX
  split
  ·exact j.tail
  rename_i he
  exact j.with_ (by simpa using he) (take_at o.firm q (j.at_ l (by simp))).1 H (take_fresh o.firm q (j.fr l (by simp)))
 cases hb:(takeM o.firm q l.2).2.1 with
 | true=>exact .inl rfl
 | false=>
  right
  rcases u3 hb with J | J
  ·omega
  rw [J] at I
  have h1:=YW D.ok
  have h2:=List.length_pos_iff.2 (j.ne l (by simp))
  rw [show XX ([]:List Ent)=0 from rfl] at I
  omega
def mOut (bo:Nat) (w:World):Nat:=match w.cell? ⟨bo,10,none⟩,w.cell? ⟨bo,13,none⟩ with
 | some (.int _ l),some (.bool b)=>2*l.toNat+(if b=true then 0 else 1)
 | _,_=>0
theorem mOut_is {w:World} {j:Nat} {x:Oc} {v:Value} {T:TypeId} (h:Blk w j T (x.cells v)):mOut j w=2*x.left.toNat+(if x.self=true then 0 else 1):=by
 unfold mOut
 rw [h.cell,h.cell]
 rfl
def MatchIn (w:World) (F:Nat→Prop) (p:Nat) (B:Bok) (o:Ord) (m:Mt) (r:Ending) (w':World):Prop:=
 ∃ F' vf,r=.returned ((Oc.mk o m.f m.left false m.self 0).v vf)∧Bk w' F' p (B.to (3-o.side) m.L (Zq B.last m.f) (B.no+m.f.length))∧Sl w' 95 21 vf m.f.length (fls m.f)∧(∀ b,vf.ownBlock=some b→w.heap.size≤b∧¬ F' b)∧Grow w F F'∧Keep F w w'
theorem built_oc (o:Ord) (n:Int):Tryz.prog.built 66 [(0,o.v),(2,.int .i64 n)]=some ((Oc.mk o [] n false false 0).cells (.slice none 0 0)).toArray:=by kernel_rfl
theorem match_any (w:World) (F:Nat→Prop) (p:Nat) (B:Bok) (o:Ord) (h:Bk w F p B) (hI:Inv B) (hs:o.side=1∨o.side=2) (hq:1≤o.qty∧o.qty≤1048576) (hn:B.no≤1000000000000) :
  Calls Tryz.prog 96 #[.pointer (some ⟨p,0,none⟩),o.v] w (MatchIn w F p B o (B.matched o)):=by
 have aU:Sid (3-o.side) (B.sd (3-o.side)):=(hI.side hs).theirs
 have hno0:=hI.no0
 have bI:=Kj aU
 have aI:=h.lt
 have HK:=Kj h
 have cL:=h.1
 obtain ⟨s,b2⟩:∃ s,3-o.side=s:=⟨_,rfl⟩
 have ao:=Kj b2
 have cu:=Kj hs
 have hs:s=1∨s=2:=by omega
 rw [b2] at bI
 clear aU h hI b2
 go_enter Tryz.func96,Tryz.ntmps96
 go_upto_region 0 with fail
 refine tAp 2 [.k (.fresh w.heap.size 35 (o.cells)),.k (.fresh w.heap.size 66 (XU.cells (.slice none 0 0)))] (nS 0 (nV rfl (fun a u E D hk=>⟨_,_,XV 35 _ (o.cells) rfl (eE E),⟨_,rfl,hk.size,Blk.new u _ _⟩,((Keep.refl _ u).alloc _)⟩)) (nS 1 (nV rfl (fun a u E D hk=>⟨_,_,QX 66 (XU.cells (.slice none 0 0)) rfl zC,⟨_,rfl,hk.size,Blk.new u _ _⟩,((Keep.refl _ u).alloc _)⟩)) nZ)) ?_
 intro gv wa hV ka
 rw [dq 2 [3,4]]
 simp only [Fz7]
 have cb:(.fresh w.heap.size 35 (o.cells):Kn).p (gv 3) wa:=hV 0 3 (by kernel_rfl)
 generalize gv 3=v3 at cb ⊢
 have a4:(.fresh w.heap.size 66 (XU.cells (.slice none 0 0)):Kn).p (gv 4) wa:=hV 1 4 (by kernel_rfl)
 generalize gv 4=v4 at a4 ⊢
 clear hV
 obtain ⟨bi,rfl,hbi,b9⟩:=cb
 obtain ⟨b4,rfl,hb4,be⟩:=a4
 refine Kx ?_
 have aE:=Kj (JX b9)
 have aS:=Kj be
 have l4:=be.lt
 have li:=b9.lt
 clear b9 be
 go_upto_region 1 with fail
 refine tAp 5 [.v (o.v),pK bi 6,iK o.qty,.v ((Oc.mk o [] o.qty false false 0).v (.slice none 0 0)),.k (.fresh wa.heap.size 66 (XU.cells (.slice none 0 0)))] (nS 0 (ldO aE.out) (nS 2 (ldR aE.out 6) (nS 3 (sV rfl (fun a u E D hk=>XZ _ [(0,.tmp 10),(2,.tmp 12)] ((Oc.mk o [] o.qty false false 0).cells (.slice none 0 0)) rfl (by simp only [List.map_cons,List.map_nil];rw [show a.eval (.tmp 10)=o.v from (dD D 0),show a.eval (.tmp 12)=.int .i64 o.qty from (dD D 2)];exact built_oc o o.qty))) (nS 4 (nV rfl (fun a u E D hk=>⟨_,_,QX 66 (XU.cells (.slice none 0 0)) rfl zC,⟨_,rfl,hk.size,Blk.new u _ _⟩,((Keep.refl _ u).alloc _)⟩)) nZ)))) ?_
 intro gv wb hV kb
 rw [dq 5 [10,11,12,13,5]]
 simp only [Fz7]
 have cn:(.fresh wa.heap.size 66 (XU.cells (.slice none 0 0)):Kn).p (gv 5) wb:=hV 4 5 (by kernel_rfl)
 generalize gv 5=v5 at cn ⊢
 rw [gQ hV 3 13 ((Oc.mk o [] o.qty false false 0).v (.slice none 0 0))]
 clear hV
 obtain ⟨O,rfl,hbo,bA⟩:=cn
 refine YV 66 O 66 (XU.cells (.slice none 0 0)) ((Oc.mk o [] o.qty false false 0).cells (.slice none 0 0)) _ _ rfl rfl (by kernel_rfl) (by kernel_rfl) bA (by rw [Oc.len15];exact szC) (by rw [Oc.len15,Oc.len15]) (Oc.one _ _ rfl) ?_
 intro wc bm bG cM
 simp only [Act.put]
 refine Kx ?_
 have aH:Kept wa wc:=kb.trans' bG (by omega)
 have bW:=Kj bm
 have lo:=bm.lt
 have bc:=Kj (JJ aE.out aH)
 have aR:=Kj (aS.out.kept aH)
 clear bA bm bG cM kb aE aS
 have br:=ka.trans aH
 clear ka aH
 go_upto_region 2 with fail
 refine wA 4 [pV p 0,o.v,pV p (Qz s),pV p (Qz s)] [14,15,16,6] (nS 1 (ldO bc.out) (nS 2 (cV Tryz.func104 (fun u hk=>(by have h:=jQ u p o cu.out;rw [ao.out] at h;exact h))) nZ)) ?_
 intro w1 kd
 simp only [F8]
 have k1:=br.trans kd
 have HI:=Kj (JJ bc.out kd)
 have b6:=Kj (aR.out.kept kd)
 have ct:=Kj (bW.out.kept kd)
 have cG:=Kj (HK.out.kept k1)
 have zd:=kd.size
 have z1:=k1.size
 have hFl1:∀ b,F b→b<w1.heap.size:=fun b j=>Nat.lt_of_lt_of_le (aI b j) z1
 have ak:¬ F b4:=fun e=>by have:=aI b4 e;omega
 have cE:¬ F O:=fun e=>by have:=aI O e;omega
 have c4:¬ F bi:=fun e=>by have:=aI bi e;omega
 have b7:b4≠O:=by omega
 have cA:bi≠O:=by omega
 clear bc aR bW HK kd br
 go_wp2_with fail
 go_loopw [7] (fun _ wr=>∃ (L:List Lev) (last no left:Int) (self:Bool) (N:List Fl) (Fc:Nat→Prop) (vf:Value),Hid (Bk wr Fc p (B.to s L last no))∧Hid (Blk wr O 66 ((Oc.mk o N left false self 0).cells vf))∧Hid (Sl wr 95 21 vf N.length (fls N))∧Hid (∀ b,vf.ownBlock=some b→w1.heap.size≤b∧¬ Fc b∧b≠O)∧Hid (Grow w1 F Fc)∧Keep (fun b=>F b∨b=O) w1 wr∧Hid (Sid s L)∧Hid (last=Zq B.last N∧no=B.no+N.length)∧(0≤left∧(N.length:Int)+left≤o.qty)∧Hid (B.matched o=⟨N++(if self=true then Mt.mk [] left true L else Yq o no left L).f,(if self=true then Mt.mk [] left true L else Yq o no left L).left,(if self=true then Mt.mk [] left true L else Yq o no left L).self,(if self=true then Mt.mk [] left true L else Yq o no left L).L⟩)) (fun _ wr=>mOut O wr)
 case atStart=>
  refine ⟨B.sd s,B.last,B.no,o.qty,false,[],F,.slice none 0 0,by show Bk _ _ _ _;rw [Bok.to_self hs];exact cG.out,ct.out,Sl.nil _ _ _,fun b j=>by simp [Value.ownBlock] at j,Grow.refl _ _,Keep.refl _ _,bI.out,⟨rfl,by simp⟩,⟨by omega,by simp⟩,?_⟩
  show _=_
  unfold Bok.matched
  rw [ao.out]
  simp
 obtain ⟨L,last,no,left,self,N,Fc,vf,al,a1,au,J,a7,aj,ar,ah,hlf,HM⟩:=hrel
 have aJ:=Kj (QJ HI.out aj (fun e=>e.elim c4 cA))
 have aL:L.length≤1000:=by have:=ar.out.ok.len;omega
 have zr:=aj.size
 have cq:=mOut_is a1.out
 by_cases hl0:0<left
 ·by_cases a3:self=true
  ·skip
   have af:Hid (B.matched o=⟨N,left,self,L⟩):=by show _=_;rw [HM.out,a3];simp
   clear HM
   go_upto_region 3 with fail
   refine wA 13 [pV O 10,iV ((Oc.mk o N left false self 0).left),bV true,bV true,pV O 13,bV ((Oc.mk o N left false self 0).self),bV false,bV false,bV false,undef,undef,undef,bV false] [17,18,19,20,21,22,23,24,25,26,27,28,29] (nS 1 (sV rfl (fun a u E D hk=>JZ _ Tryz.underlying3 _ _ _ rfl (dD D 0) (by rw [(a1.out.kept hk).cell];rfl))) (nS 2 (aV rfl (fun a u E D hk=>QZ rfl (dD D 1) rfl) (Ky hl0)) (nS 5 (sV rfl (fun a u E D hk=>qY _ Tryz.underlying4 _ _ _ rfl (dD D 4) (by rw [(a1.out.kept hk).cell];rfl))) (nS 6 (aV rfl (fun a u E D hk=>YX _ _ (Oc.mk o N left false self 0).self rfl (dD D 5)) (by rw [a3];rfl)) nZ)))) ?_
   intro wq kq
   simp only [F8]
   clear a3
   have a5:=aj.kept kq
   have ac:=Kj (b6.out.keep a5 (fun e=>e.elim ak (fun e=>b7 e)))
   have ab:=Kj (a1.out.kept kq)
   have aw:=Kj (al.out.kept kq)
   have a2:=Kj (au.out.kept kq)
   go_upto_region 9 with fail
   refine wAp 1 [(Oc.mk o N left false self 0).v vf] [54] (nS 0 (ldS Tryz.underlying66 (fun u hk=>JX (ab.out.kept hk)) (by rw [Oc.len15];exact szC)) nZ) ?_
   intro wy ky
   simp only [F8]
   refine YV 66 b4 66 (XU.cells (.slice none 0 0)) ((Oc.mk o N left false self 0).cells vf) _ _ rfl rfl (by kernel_rfl) (by kernel_rfl) (ac.out.kept ky) (by rw [Oc.len15];exact szC) (by rw [Oc.len15,Oc.len15]) (Oc.one _ _ (Xy a2.out)) ?_
   intro wx aA a6 bY
   simp only [Act.put]
   refine Kx ?_
   go_wp2
   refine bodyPost_ret (QU (p:=4) rfl _ _ b4 _ ((Oc.mk o N left false self 0).cells vf) rfl aA Tryz.underlying66 (by rw [Oc.len15];exact szC)) rfl ?_
   rw [af.out]
   unfold MatchIn
   rw [ao.out]
   have av:¬ Fc b4:=fun e=>(a7.out b4 e).elim ak (fun e=>by omega)
   have a4:∀ b,vf.ownBlock=some b→b≠b4:=fun b j e=>by have:=(J.out b j).1;omega
   have zq:=kq.size
   have zy:=ky.size
   have U:=ah.out
   refine ⟨Fc,vf,rfl,?_,?_,fun b j=>⟨by have:=(J.out b j).1;omega,(J.out b j).2.1⟩,fun b j=>(a7.out b j).imp id (fun h=>by omega),?_⟩
   ·have h1:=((aw.out.kept ky).keep a6 (fun b j e=>av (by rw [← e];exact j)))
    rw [U.1,U.2] at h1
    exact h1
   ·exact (a2.out.kept ky).keep a6 (fun b j e=>a4 b j e)
   exact ((Keep.any k1 a5).mono (fun b j e=>e.elim id (fun e=>by omega))).kept ky |>.trans a6 (fun b j e=>by omega)
  have a3:self=false:=by simpa using a3
  cases ag:o.meets L with
  | false=>
   have aD:=Kj ag
   have af:Hid (B.matched o=⟨N,left,self,L⟩):=by show _=_;rw [HM.out,a3,match_none ag];simp
   clear HM ag
   go_upto_region 3 with fail
   refine wA 13 [pV O 10,iV ((Oc.mk o N left false self 0).left),bV true,bV true,pV O 13,bV ((Oc.mk o N left false self 0).self),bV true,bV true,bV true,pV p (Qz s),o.v,bV false,bV false] [17,18,19,20,21,22,23,24,25,26,27,28,29] (nS 1 (sV rfl (fun a u E D hk=>JZ _ Tryz.underlying3 _ _ _ rfl (dD D 0) (by rw [(a1.out.kept hk).cell];rfl))) (nS 2 (aV rfl (fun a u E D hk=>QZ rfl (dD D 1) rfl) (Ky hl0)) (nS 5 (sV rfl (fun a u E D hk=>qY _ Tryz.underlying4 _ _ _ rfl (dD D 4) (by rw [(a1.out.kept hk).cell];rfl))) (nS 6 (aV rfl (fun a u E D hk=>YX _ _ (Oc.mk o N left false self 0).self rfl (dD D 5)) (by rw [a3];rfl)) (nS 10 (ldO aJ.out) (nS 11 (cV Tryz.func105 (fun u hk=>(by obtain ⟨F',ax⟩:=(al.out.kept hk).lad hs;rw [Bok.to_sd hs] at ax;rw [← aD.out];exact yZ u F' p (Qz s) s L o ax aL))) nZ)))))) ?_
   intro wq kq
   simp only [F8]
   clear a3
   have a5:=aj.kept kq
   have ac:=Kj (b6.out.keep a5 (fun e=>e.elim ak (fun e=>b7 e)))
   have ab:=Kj (a1.out.kept kq)
   have aw:=Kj (al.out.kept kq)
   have a2:=Kj (au.out.kept kq)
   go_upto_region 9 with fail
   refine wAp 1 [(Oc.mk o N left false self 0).v vf] [54] (nS 0 (ldS Tryz.underlying66 (fun u hk=>JX (ab.out.kept hk)) (by rw [Oc.len15];exact szC)) nZ) ?_
   intro wy ky
   simp only [F8]
   refine YV 66 b4 66 (XU.cells (.slice none 0 0)) ((Oc.mk o N left false self 0).cells vf) _ _ rfl rfl (by kernel_rfl) (by kernel_rfl) (ac.out.kept ky) (by rw [Oc.len15];exact szC) (by rw [Oc.len15,Oc.len15]) (Oc.one _ _ (Xy a2.out)) ?_
   intro wx aA a6 bY
   simp only [Act.put]
   refine Kx ?_
   go_wp2
   refine bodyPost_ret (QU (p:=4) rfl _ _ b4 _ ((Oc.mk o N left false self 0).cells vf) rfl aA Tryz.underlying66 (by rw [Oc.len15];exact szC)) rfl ?_
   rw [af.out]
   unfold MatchIn
   rw [ao.out]
   have av:¬ Fc b4:=fun e=>(a7.out b4 e).elim ak (fun e=>by omega)
   have a4:∀ b,vf.ownBlock=some b→b≠b4:=fun b j e=>by have:=(J.out b j).1;omega
   have zq:=kq.size
   have zy:=ky.size
   have U:=ah.out
   refine ⟨Fc,vf,rfl,?_,?_,fun b j=>⟨by have:=(J.out b j).1;omega,(J.out b j).2.1⟩,fun b j=>(a7.out b j).imp id (fun h=>by omega),?_⟩
   ·have h1:=((aw.out.kept ky).keep a6 (fun b j e=>av (by rw [← e];exact j)))
    rw [U.1,U.2] at h1
    exact h1
   ·exact (a2.out.kept ky).keep a6 (fun b j e=>a4 b j e)
   exact ((Keep.any k1 a5).mono (fun b j e=>e.elim id (fun e=>by omega))).kept ky |>.trans a6 (fun b j e=>by omega)
  | true=>
   have aD:=Kj ag
   go_upto_region 3 with fail
   refine wA 13 [pV O 10,iV ((Oc.mk o N left false self 0).left),bV true,bV true,pV O 13,bV ((Oc.mk o N left false self 0).self),bV true,bV true,bV true,pV p (Qz s),o.v,bV true,bV true] [17,18,19,20,21,22,23,24,25,26,27,28,29] (nS 1 (sV rfl (fun a u E D hk=>JZ _ Tryz.underlying3 _ _ _ rfl (dD D 0) (by rw [(a1.out.kept hk).cell];rfl))) (nS 2 (aV rfl (fun a u E D hk=>QZ rfl (dD D 1) rfl) (Ky hl0)) (nS 5 (sV rfl (fun a u E D hk=>qY _ Tryz.underlying4 _ _ _ rfl (dD D 4) (by rw [(a1.out.kept hk).cell];rfl))) (nS 6 (aV rfl (fun a u E D hk=>YX _ _ (Oc.mk o N left false self 0).self rfl (dD D 5)) (by rw [a3];rfl)) (nS 10 (ldO aJ.out) (nS 11 (cV Tryz.func105 (fun u hk=>(by obtain ⟨F',ax⟩:=(al.out.kept hk).lad hs;rw [Bok.to_sd hs] at ax;rw [← aD.out];exact yZ u F' p (Qz s) s L o ax aL))) nZ)))))) ?_
   intro wq kq
   simp only [F8]
   clear aD
   obtain ⟨l,R,cz⟩:∃ l R,L=l::R:=by
    cases L with
    | nil=>cases ag
    | cons l R=>exact ⟨l,R,rfl⟩
   subst cz
   obtain ⟨pr,X⟩:=l
   have cy:o.crosses pr=true:=ag
   have bs:=Kj (match_round (no:=no) ar.out hl0 cy)
   have a8:=Kj (round_is (o:=o) ar.out hl0)
   have co:=Kj (ar.out.good (l:=(pr,X)) (by simp)).1
   rw [a3] at HM
   clear ag
   obtain ⟨v,u0,Z,G,Fs,eL,hW,hB,cf,hp,bP,hJ⟩:=(al.out.kept kq).open3 hs
   rw [Bok.to_sd hs] at eL
   obtain ⟨z,ZR,hZ⟩:∃ z ZR,Z=z::ZR:=by
    cases Z with
    | nil=>cases eL
    | cons z ZR=>exact ⟨z,ZR,rfl⟩
   subst hZ
   obtain ⟨q,I,X'⟩:=z
   rw [VW] at eL
   obtain ⟨e1,eR⟩:=List.cons.inj eL
   simp only [Prod.mk.injEq] at e1
   obtain ⟨rfl,rfl⟩:=e1
   have ER:=Kj eR
   have HJ:=Kj hJ
   have a9:=Kj cf
   have HW:=Kj hW
   have bn:=hW.lv (q,I,X') (by simp)
   have b0:=hW.in_ (q,I,X') (by simp)
   simp only at bn b0
   obtain ⟨gs,os,c,rfl⟩:=hW.some_ (by simp)
   obtain ⟨n,bf⟩:∃ n,List.length ((q,I,X')::ZR)=n:=⟨_,rfl⟩
   have hn0:0<n:=by rw [← bf];simp
   have HC:=Kj (hW.cell (i:=0) (z:=(q,I,X')) rfl)
   rw [bf] at HW hB
   have cg:Hid (wq.cell? ⟨p,Qz s+1,none⟩=some (.slice (some ⟨gs,os,none⟩) n c)):=by show _=_;rw [hB.cell];exact xq s _ _ _ _
   have bO:=Kj hB
   have bT:=Kj bn
   have HGF:=Kj b0
   have hpl:=bP p hp
   have c7:=Kj bP
   clear hB hW eL hJ cf bn b0 bf eR
   have ab:=Kj (a1.out.kept kq)
   have a2:=Kj (au.out.kept kq)
   have aX:=Kj (JJ aJ.out kq)
   have a5:=aj.kept kq
   have zq:=a5.size
   have ae:¬ Fc O:=fun e=>(a7.out O e).elim cE (fun e=>by omega)
   have cJ:=Kj a3
   have cC:=Kj cq
   clear a1 au aJ kq a3 cq
   go_upto_region 4 with fail
   refine wA 7 [pV p (Qz s),pV p (Qz s),pV p (Qz s+1),.slice (some ⟨gs,os,none⟩) n c,pV gs os,pV q 0,pV q 0] [30,31,32,33,34,35,7] (nS 3 (ldC cg.out) (nS 4 (ixV slQ (os) n 0 (0) ((by omega))) (nS 5 (ldC (by simpa using HC.out)) nZ))) ?_
   intro w2 k2
   simp only [F8]
   have cc:=Kj (ab.out.kept k2)
   have cr:=Kj (JJ aX.out k2)
   have aN:=Kj (bT.out.kept k2)
   obtain ⟨t,ht⟩:∃ t,takeM o.firm left X'=t:=⟨_,rfl⟩
   obtain ⟨H,ow,X2⟩:=t
   rw [ht] at a8
   have aC:=Kj ht
   clear HC cg bT ht
   go_upto_region 5 with fail
   refine wAp 5 [pV q 0,pV bi 2,iV o.firm,pV O 10,iV ((Oc.mk o N left false self 0).left)] [37,38,39,40,41] (nS 2 (ldR cr.out 2) (nS 4 (sV rfl (fun a u E D hk=>JZ _ Tryz.underlying3 _ _ _ rfl (dD D 3) (by rw [(cc.out.kept hk).cell];rfl))) nZ)) ?_
   intro w3 k3
   simp only [F8]
   refine cT Tryz.func107 [.pointer (some ⟨q,0,none⟩),.int .i64 o.firm,.int .i64 (Oc.mk o N left false self 0).left] ?_
   refine (take_any w3 _ q X' o.firm left (aN.out.kept k3) co.out (by omega)).mono ?_
   rintro r w4 ⟨F4,vh,rfl,bh,aY,a4,bB,b1⟩
   rw [aC.out] at bh aY
   refine ⟨.tuple #[vh,.bool ow],by rw [aC.out],?_⟩
   refine aT (.tuple #[vh,.bool ow]) ?_
   refine aT (vh) ?_
   refine aT (.bool ow) ?_
   refine aT (vh) ?_
   refine aT (.bool ow) ?_
   simp only [Act.put,sA,sS,sZ]
   refine Kx ?_
   have ai:=k2.trans k3
   have z3:=ai.size
   obtain ⟨bq,G4,c9,bw,aa,_⟩:=WayZ.turn (A:=[]) (R:=ZR) (q:=q) (pr:=I) (X:=X') (HW.out.kept ai) b1 bh bB
   have z4:=b1.size
   have cx:¬ Fs O:=fun e=>ae (a9.out O e).1
   have cm:=Kj ((ab.out.kept ai).keep aa cx)
   have ci:=Kj ((bO.out.kept ai).keep aa (fun e=>(a9.out p e).2 rfl))
   have HI4:=Kj (QJ (JJ aX.out ai) aa (fun e=>c4 ((a7.out bi (a9.out bi e).1).elim id (fun e=>by omega))))
   have bH:=Kj ((a2.out.kept ai).keep aa (fun b j e=>(J.out b j).2.1 (a9.out b e).1))
   have cl:∀ b,vf.ownBlock=some b→b<wq.heap.size:=fun b j=>a2.out.lt j
   have b8:=Kj cl
   have aF:=Kj c9
   have bR:=Kj aY
   have ba:Hid (∀ b,vh.ownBlock=some b→w3.heap.size≤b):=fun b j=>(a4 b j).1
   have cw:=Kj bw
   have K4:Keep Fs wq w4:=Keep.any ai aa
   have bQ:=aF.out.lv (q,I,X2) (by simp)
   have bC:=Kj bQ
   have cH:O≠p:=fun e=>ae (by rw [e];exact hp)
   have aQ:∀ b,bq b→b<w4.heap.size:=aF.out.lt
   have bZ:=Kj aQ
   have am:Hid (∀ b,bq b→Fs b∨wq.heap.size≤b):=fun b j=>(cw.out b j).imp id (fun e=>by omega)
   clear bQ cl c9 aY a4 bB b1 bh bw aa k2 k3 cc cr aN ab a2 aX bO HW aQ
   have cD:N.length≤2000000:=by omega
   have cd:0≤no∧no≤2000000000000:=by have:=ah.out.2;omega
   go_upto_region 6 with fail
   refine wAp 4 [pV p 0,pV q 0,iV I,vh] [45,46,47,48] (nS 2 (cV Tryz.func109 (fun u hk=>yz u _ q X2 (bC.out.kept hk))) nZ) ?_
   intro w5 k5
   simp only [F8]
   refine cT Tryz.func108 [.pointer (some ⟨p,0,none⟩),.pointer (some ⟨O,0,none⟩),.int .i64 I,vh] ?_
   refine (trade_any w5 O p s (.slice (some ⟨gs,os,none⟩) n c) u0 vf vh last no I (Oc.mk o N left false self 0) H (cm.out.kept k5) (bH.out.kept k5) (ci.out.kept k5) (bR.out.kept k5) cH (fun b j=>⟨(J.out b j).2.2,fun e=>(J.out b j).2.1 (by rw [e];exact hp)⟩) (fun b j=>⟨fun e=>by have:=ba.out b j;omega,fun e=>by have:=ba.out b j;omega,fun e=>by have:=ba.out b j;have:=b8.out b e;omega⟩) a8.out.pos a8.out.sum (by simp only;omega) cD cd.1 cd.2).mono ?_
   rintro r w6 ⟨vg,rfl,c5,bg,bX,aG,c8⟩
   refine ⟨_,rfl,?_⟩
   simp only [Act.put,sA,sS,sZ]
   refine Kx ?_
   have z5:=k5.size
   have z6:=aG.size
   have aW:∀ b,bq b→¬ (b=O∨b=p∨vf.ownBlock=some b):=fun b j e=>by
    rcases e with e | e | e
    ·rcases am.out b j with h | h
     ·exact ae (by rw [← e];exact (a9.out b h).1)
     omega
    ·rcases am.out b j with h | h
     ·exact (a9.out b h).2 e
     omega
    rcases am.out b j with h | h
    ·exact (J.out b e).2.1 (a9.out b h).1
    have:=b8.out b e;omega
   have bz:=(aF.out.kept k5).keep aG aW
   have K6:Keep (fun b=>Fs b∨b=O∨b=p∨vf.ownBlock=some b) wq w6:=((Keep.mono (T:=fun b=>Fs b∨b=O∨b=p∨vf.ownBlock=some b) K4 (fun _ _ e=>.inl e)).kept k5).trans aG (fun b _ e=>.inr e)
   obtain ⟨F6,bl,cI,bj⟩:=HJ.out w6 _ _ _ _ _ _ K6 (fun b j e=>by
    rcases e with e | e | e | e
    ·exact .inl e
    ·exact absurd (by rw [← e];exact j) ae
    ·exact .inr e
    exact absurd j (J.out b e).2.1) bX ⟨_,_,rfl,bz⟩ (fun b j=>am.out b j)
   rw [Bok.to_to hs,ZZ,VW,ER.out] at bl
   have ch:=Kj bl
   have cj:=Kj bj
   have bt:=Kj c5
   have bF:=Kj bg
   have aO:¬ F6 O:=fun e=>((bj O).1 e).elim ae (fun e=>aW O e (.inl rfl))
   have aK:Hid (∀ b,vg.ownBlock=some b→vf.ownBlock=some b∨w5.heap.size≤b):=c8
   have cp:Hid (∀ b,vg.ownBlock=some b→b<w6.heap.size):=fun b j=>bg.lt j
   have bL:∀ b,vg.ownBlock=some b→b≠O:=fun b j e=>by
    rcases aK.out b j with h | h
    ·exact (J.out b h).2.2 e
    omega
   have ck:=Kj bL
   clear bz c5 bg bX aG c8 bl cI bj K4 k5 cm bH ci bR bC aF HJ aW bL
   go_upto_region 7 with fail
   refine wAp 2 [bV ow,pV O 13] [50,51] nZ ?_
   intro w7 k7
   simp only [F8]
   refine ZJ 4 O 13 66 _ (.bool ow) _ _ rfl rfl (by kernel_rfl) (by kernel_rfl) (by kernel_rfl) rfl rfl (bt.out.kept k7) (by rw [Oc.len15];omega) ?_
   intro w8 bp ay cv
   simp only [Act.put]
   refine Kx ?_
   rw [Oc.set_self] at bp
   have z7:=k7.size
   have z8:=ay.size
   have bM:=Kj bp
   have bu:=Kj ((ch.out.kept k7).keep ay (fun b j e=>aO (by rw [← e];exact j)))
   have bU:=Kj ((bF.out.kept k7).keep ay (fun b j e=>ck.out b j e))
   have K8:Keep (fun b=>Fs b∨b=O∨b=p∨vf.ownBlock=some b) wq w8:=(K6.kept k7).trans ay (fun b _ e=>.inr (.inl e))
   clear bp ay cv k7 bt ch bF K6
   have ce:R.length≤64:=by have:=ar.out.ok.len;simp at this;omega
   have cK:=Kj ce
   clear ce
   go_upto_region 8 with fail
   refine wAp 1 [pV p (Qz s)] [52] nZ ?_
   intro w9 k9
   simp only [F8]
   refine cT Tryz.func102 [.pointer (some ⟨p,Qz s,none⟩),.int .i64 0] ?_
   refine (drop_if_any w9 F6 p _ s [] R (I,X2) 0 (bu.out.kept k9) hs (by rw [Bok.to_sd hs];rfl) rfl (by have:=cK.out;simp;omega) (by have:=a8.out.few;simp only at this ⊢;omega)).mono ?_
   rintro r bS ⟨bd,rfl,aq,an,ad,bD⟩
   refine ⟨_,rfl,?_⟩
   simp only [Act.put,sA,sS,sZ]
   refine Kx ?_
   rw [Bok.to_to hs] at aq
   have z9:=k9.size
   have z10:=ad.size
   have aM:=Kj ((bM.out.kept k9).keep ad aO)
   have az:∀ b,vg.ownBlock=some b→¬ F6 b:=fun b j e=>by
    rcases (cj.out b).1 e with h | h
    ·rcases aK.out b j with h' | h'
     ·exact (J.out b h').2.1 h
     have:=c7.out b h;omega
    rcases aK.out b j with h' | h'
    ·rcases am.out b h with h2 | h2
     ·exact (J.out b h').2.1 (a9.out b h2).1
     have:=b8.out b h';omega
    have:=bZ.out b h;omega
   have bv:=Kj ((bU.out.kept k9).keep ad (fun b j e=>az b j e))
   have aZ:Hid (∀ b,vg.ownBlock=some b→w1.heap.size≤b∧¬ bd b∧b≠O):=fun b j=>by
    refine ⟨?_,fun e=>?_,ck.out b j⟩
    ·rcases aK.out b j with h | h
     ·exact (J.out b h).1
     omega
    rcases an b e with h | h
    ·exact az b j h
    have:=cp.out b j;omega
   have b3:∀ b,F6 b→F b∨w1.heap.size≤b:=fun b j=>by
    rcases (cj.out b).1 j with h | h
    ·exact a7.out b h
    rcases am.out b h with h2 | h2
    ·exact a7.out b (a9.out b h2).1
    exact .inr (by omega)
   have ca:Hid (Grow w1 F bd):=fun b j=>by
    rcases an b j with h | h
    ·exact b3 b h
    exact .inr (by omega)
   have cB:Keep (fun b=>F b∨b=O) w1 bS:=by
    refine (Keep.trans a5 K8 (fun b j e=>?_)).kept k9 |>.trans ad (fun b j e=>?_)
    ·rcases e with e | e | e | e
     ·exact (a7.out b (a9.out b e).1).elim .inl (fun e=>by omega)
     ·exact .inr e
     ·rw [e];exact .inl cL
     have:=(J.out b e).1;omega
    exact (b3 b e).elim .inl (fun e=>by omega)
   have bx:=Kj aq
   have bN:Hid (B.matched o=⟨(N++fillsOf o I no left H)++(if ow=true then Mt.mk [] (left-Jj H) true (VX [] R (I,X2)) else Yq o (no+H.length) (left-Jj H) (VX [] R (I,X2))).f,(if ow=true then Mt.mk [] (left-Jj H) true (VX [] R (I,X2)) else Yq o (no+H.length) (left-Jj H) (VX [] R (I,X2))).left,(if ow=true then Mt.mk [] (left-Jj H) true (VX [] R (I,X2)) else Yq o (no+H.length) (left-Jj H) (VX [] R (I,X2))).self,(if ow=true then Mt.mk [] (left-Jj H) true (VX [] R (I,X2)) else Yq o (no+H.length) (left-Jj H) (VX [] R (I,X2))).L⟩):=by
    show _=_
    rw [HM.out]
    simp only [Bool.false_eq_true,if_false]
    rw [bs.out]
    unfold roundM
    simp only
    rw [aC.out]
    simp only [List.append_assoc]
   have bJ:=Kj a8.out.sid
   have b5:Hid (Zq last (fillsOf o I no left H)=Zq B.last (N++fillsOf o I no left H)∧no+(H.length:Int)=B.no+((N++fillsOf o I no left H).length:Nat)):=by
    refine ⟨by rw [lastOf_append,← ah.out.1],?_⟩
    rw [List.length_append,jy,ah.out.2]
    omega
   have aB:0≤left-Jj H∧(((N++fillsOf o I no left H).length:Nat):Int)+(left-Jj H)≤o.qty:=by
    have h1:=a8.out.sum
    have h2:=a8.out.len
    rw [List.length_append,jy]
    simp only at h1 h2
    omega
   have bb:=Kj aB
   have cF:Hid (mOut O bS<mOut O wr):=by
    show _<_
    rw [cC.out,mOut_is aM.out]
    have h1:=a8.out.prog
    have h2:=a8.out.sum
    simp only at h1 h2
    show 2*(left-Jj H).toNat+(if ow=true then 0 else 1)<2*left.toNat+(if self=true then 0 else 1)
    have e0:(if self=true then (0:Nat) else 1)=1:=by rw [cJ.out];rfl
    rw [e0]
    rcases h1 with h1 | h1
    ·rw [if_pos h1]
     have h3:=a8.out.len
     simp only at h3
     omega
    split <;> omega
   clear aq an ad bD k9 bM bu bU K8 az b3 aB HM bs a8 aC co ah
   go_wp2
   exact ⟨⟨_,_,_,left-Jj H,ow,_,bd,vg,bx.out,aM.out,bv.out,aZ.out,ca.out,cB,bJ.out,b5.out,bb.out,bN.out⟩,cF.out⟩
 have af:Hid (B.matched o=⟨N,left,self,L⟩):=by
  show _=_
  rw [HM.out]
  cases self with
  | true=>simp
  | false=>rw [if_neg (by simp),match_zero (by omega)];simp
 clear HM
 go_upto_region 3 with fail
 refine wA 13 [pV O 10,iV ((Oc.mk o N left false self 0).left),bV false,bV false,undef,undef,undef,bV false,bV false,undef,undef,undef,bV false] [17,18,19,20,21,22,23,24,25,26,27,28,29] (nS 1 (sV rfl (fun a u E D hk=>JZ _ Tryz.underlying3 _ _ _ rfl (dD D 0) (by rw [(a1.out.kept hk).cell];rfl))) (nS 2 (aV rfl (fun a u E D hk=>QZ rfl (dD D 1) rfl) (Ku (by omega))) nZ)) ?_
 intro wq kq
 simp only [F8]
 have a5:=aj.kept kq
 have ac:=Kj (b6.out.keep a5 (fun e=>e.elim ak (fun e=>b7 e)))
 have ab:=Kj (a1.out.kept kq)
 have aw:=Kj (al.out.kept kq)
 have a2:=Kj (au.out.kept kq)
 go_upto_region 9 with fail
 refine wAp 1 [(Oc.mk o N left false self 0).v vf] [54] (nS 0 (ldS Tryz.underlying66 (fun u hk=>JX (ab.out.kept hk)) (by rw [Oc.len15];exact szC)) nZ) ?_
 intro wy ky
 simp only [F8]
 refine YV 66 b4 66 (XU.cells (.slice none 0 0)) ((Oc.mk o N left false self 0).cells vf) _ _ rfl rfl (by kernel_rfl) (by kernel_rfl) (ac.out.kept ky) (by rw [Oc.len15];exact szC) (by rw [Oc.len15,Oc.len15]) (Oc.one _ _ (Xy a2.out)) ?_
 intro wx aA a6 bY
 simp only [Act.put]
 refine Kx ?_
 go_wp2
 refine bodyPost_ret (QU (p:=4) rfl _ _ b4 _ ((Oc.mk o N left false self 0).cells vf) rfl aA Tryz.underlying66 (by rw [Oc.len15];exact szC)) rfl ?_
 rw [af.out]
 unfold MatchIn
 rw [ao.out]
 have av:¬ Fc b4:=fun e=>(a7.out b4 e).elim ak (fun e=>by omega)
 have a4:∀ b,vf.ownBlock=some b→b≠b4:=fun b j e=>by have:=(J.out b j).1;omega
 have zq:=kq.size
 have zy:=ky.size
 have U:=ah.out
 refine ⟨Fc,vf,rfl,?_,?_,fun b j=>⟨by have:=(J.out b j).1;omega,(J.out b j).2.1⟩,fun b j=>(a7.out b j).imp id (fun h=>by omega),?_⟩
 ·have h1:=((aw.out.kept ky).keep a6 (fun b j e=>av (by rw [← e];exact j)))
  rw [U.1,U.2] at h1
  exact h1
 ·exact (a2.out.kept ky).keep a6 (fun b j e=>a4 b j e)
 exact ((Keep.any k1 a5).mono (fun b j e=>e.elim id (fun e=>by omega))).kept ky |>.trans a6 (fun b j e=>by omega)
theorem refusal_any (w:World) (F:Nat→Prop) (p:Nat) (B:Bok) (o:Ord) (h:Bk w F p B) (hI:Inv B):Gives 95 #[.pointer (some ⟨p,0,none⟩),o.v] w (.eq (.int .i64 (B.err o))):=by
 refine QW ?_
 have HB:=Kj h
 have HI:=Kj hI
 clear h hI
 go_enter Tryz.func95,Tryz.ntmps95
 go_upto_region 0 with fail
 refine tAp 2 [.k (.fresh w.heap.size 35 (o.cells)),iK 0] (nS 0 (nV rfl (fun a u E D hk=>⟨_,_,XV 35 _ (o.cells) rfl (eE E),⟨_,rfl,hk.size,Blk.new u _ _⟩,((Keep.refl _ u).alloc _)⟩)) nZ) ?_
 intro gv w0 hV k0
 rw [dq 2 [3,4]]
 simp only [Fz7]
 have ay:(.fresh w.heap.size 35 (o.cells):Kn).p (gv 3) w0:=hV 0 3 (by kernel_rfl)
 generalize gv 3=v3 at ay ⊢
 rw [gQ hV 1 4 (.int .i64 0)]
 clear hV
 obtain ⟨g,rfl,hg,au⟩:=ay
 refine Kx ?_
 have HO:=Kj (JX au)
 clear au
 by_cases hr:o.right=true
 ·have a8:¬ o.err≠0:=by unfold Ord.err;rw [if_pos hr];simp
  have HR:=Kj hr
  clear hr
  by_cases hst:o.stop≠0
  ·have HE:Hid (B.err o=1):=by show _=_;unfold Bok.err;rw [if_pos (fun h=>hst h.2)]
   go_upto_region 1 with fail
   refine wA 8 [o.v,iV o.err,bV false,bV false,pV g 8,iV o.stop,bV true,bV true] [7,8,9,10,11,12,13,14] (nS 0 (ldO HO.out) (nS 1 (cV Tryz.func35 (fun u hk=>qJ o u)) (nS 2 (aV rfl (fun a u E D hk=>Xj rfl (dD D 1) rfl) (Ku a8)) (nS 5 (ldR HO.out 8) (nS 6 (aV rfl (fun a u E D hk=>Xj rfl (dD D 5) rfl) (Ky hst)) nZ))))) ?_
   intro w1 k1
   simp only [F8]
   have O:=k0.trans k1
   clear HO a8 hst
   go_wp2
   go_ret
   exact ⟨by rw [HE.out];rfl,O⟩
  skip
  go_upto_region 1 with fail
  refine wA 8 [o.v,iV o.err,bV false,bV false,pV g 8,iV o.stop,bV false,bV false] [7,8,9,10,11,12,13,14] (nS 0 (ldO HO.out) (nS 1 (cV Tryz.func35 (fun u hk=>qJ o u)) (nS 2 (aV rfl (fun a u E D hk=>Xj rfl (dD D 1) rfl) (Ku a8)) (nS 5 (ldR HO.out 8) (nS 6 (aV rfl (fun a u E D hk=>Xj rfl (dD D 5) rfl) (Ku hst)) nZ))))) ?_
  intro w1 k1
  simp only [F8]
  have O:=k0.trans k1
  have aj:o.stop=0:=Classical.not_not.1 hst
  have aq:=Kj aj
  have af:=Kj (JJ HO.out k1)
  have a1:=Kj (right_side HR.out)
  have HQ:=Kj (JJJ HR.out)
  have a6:Hid (3-o.side=1∨3-o.side=2):=by have:=a1.out;show _∨_;omega
  have a4:=Kj (HI.out.side a1.out).theirs
  have ab:Hid ((B.sd (3-o.side)).length≤1000):=by have:=a4.out.ok.len;show _≤_;omega
  clear HO a8 hst aj k0 k1
  obtain ⟨fo,av⟩:∃ x,(B.find o.tr o.id).1=x:=⟨_,rfl⟩
  obtain ⟨hb,az⟩:∃ x,(B.find o.tr o.id).2=x:=⟨_,rfl⟩
  have an:=Kj av
  have ae:=Kj az
  clear av az
  go_upto_region 3 with fail
  refine tAp 10 [pK p 0,pK g 0,iK o.tr,pK g 1,iK o.id,.v (.tuple #[fo.v,.bool hb]),.v (.tuple #[fo.v,.bool hb]),.v (fo.v),bK hb,.k (.fresh w1.heap.size 35 JV.cells)] (nS 2 (ldR af.out 0) (nS 4 (ldR af.out 1) (nS 5 (cV Tryz.func61 (fun u hk=>(by rw [← an.out,← ae.out];exact bfind_any u F p B o.tr o.id (HB.out.kept (O.trans hk)) HI.out))) (nS 9 (nV rfl (fun a u E D hk=>⟨_,_,QX 35 JV.cells rfl zO,⟨_,rfl,hk.size,Blk.new u _ _⟩,((Keep.refl _ u).alloc _)⟩)) nZ)))) ?_
  intro gv w2 hV k2
  rw [dq 10 [16,17,18,19,20,21,15,22,23,5]]
  simp only [Fz7]
  have aB:(.fresh w1.heap.size 35 JV.cells:Kn).p (gv 5) w2:=hV 9 5 (by kernel_rfl)
  generalize gv 5=v5 at aB ⊢
  rw [gQ hV 7 22 fo.v]
  rw [gQ hV 8 23 (.bool hb)]
  clear hV
  obtain ⟨b5,rfl,hb5,aD⟩:=aB
  refine sO fo aD ?_
  intro w3 aI ax aH
  refine aT (.bool hb) ?_
  simp only [Act.put,sA,sS,sZ]
  refine Kx ?_
  have ao:Kept w1 w3:=k2.trans' ax (by omega)
  have a2:=O.trans ao
  have a5:=Kj (JJ af.out ao)
  clear aD aI ax aH k2 ao af
  cases hb with
  | true=>
   have HE:Hid (B.err o=5):=by show _=_;unfold Bok.err;rw [if_neg (fun h=>h ⟨HR.out,aq.out⟩),if_pos (show B.has o.tr o.id=true from ae.out)]
   have O:=a2
   clear a5 an ae a2
   go_wp2
   go_ret
   exact ⟨by rw [HE.out];rfl,O⟩
  | false=>
   have ar:Hid (¬ B.has o.tr o.id=true):=by show ¬ _;unfold Bok.has;rw [ae.out];simp
   clear an ae O
   obtain ⟨mr,al⟩:∃ x,(decide (o.k=1) || decide (o.k=5))=x:=⟨_,rfl⟩
   have am:=Kj al
   have ak:mr=true↔(o.k=1∨o.k=5):=by rw [← al];simp
   have aw:=Kj ak
   clear al ak
   by_cases hfull:mr=true∧64≤B.len
   ·obtain ⟨aE,ai⟩:=hfull
    subst aE
    have ac:(64:Int)≤(B.len:Int):=by omega
    have HE:Hid (B.err o=4):=by show _=_;unfold Bok.err;rw [if_neg (fun h=>h ⟨HR.out,aq.out⟩),if_neg ar.out,if_pos ⟨aw.out.1 rfl,ai⟩]
    go_upto_region 6 with fail
    refine wA 7 [o.v,bV true,bV true,pV p 0,iV (B.len:Int),bV true,bV true] [25,26,27,28,29,30,31] (nS 0 (ldO a5.out) (nS 1 (cV Tryz.func97 (fun u hk=>(by rw [← am.out];exact JJU u o))) (nS 4 (cV Tryz.func93 (fun u hk=>blen_any u F p B (HB.out.kept (a2.trans hk)) HI.out)) (nS 5 (aV rfl (fun a u E D hk=>WJ rfl (dD D 4) rfl) (Ky ac)) nZ)))) ?_
    intro w4 k4
    simp only [F8]
    have O:=a2.trans k4
    clear a5 k4 a2 ac ai
    go_wp2
    go_ret
    exact ⟨by rw [HE.out];rfl,O⟩
   have aG:Hid (¬ ((o.k=1∨o.k=5)∧64≤B.len)):=fun h=>hfull ⟨aw.out.2 h.1,h.2⟩
   have aA:B.err o=if o.k=5∧o.meets (B.sd (3-o.side))=true then 11 else if o.k=4∧0<(B.matched o).left then 12 else 0:=by
    unfold Bok.err
    rw [if_neg (fun h=>h ⟨HR.out,aq.out⟩),if_neg ar.out,if_neg aG.out]
   have a3:=Kj aA
   clear aA
   have h4:∀ (K:Nat→Prop),True:=fun _=>trivial
   clear h4
   obtain ⟨mb,aC⟩:∃ x,o.meets (B.sd (3-o.side))=x:=⟨_,rfl⟩
   have a7:=Kj aC
   obtain ⟨a9,ad⟩:∃ x,WW o (B.sd (3-o.side))=x:=⟨_,rfl⟩
   have ag:=Kj ad
   have ah:Hid (a9<o.qty↔0<(B.matched o).left):=by
    have h1:=gives_left o (B.sd (3-o.side)) B.no o.qty (by have:=HQ.out;omega) a4.out
    show _↔_
    rw [ad] at h1
    unfold Bok.matched
    omega
   clear aC ad
   cases mr with
   | true=>
    have ac:¬ (64:Int)≤(B.len:Int):=fun h=>hfull ⟨rfl,by omega⟩
    clear hfull
    go_upto_region 6 with fail
    refine wA 7 [o.v,bV true,bV true,pV p 0,iV (B.len:Int),bV false,bV false] [25,26,27,28,29,30,31] (nS 0 (ldO a5.out) (nS 1 (cV Tryz.func97 (fun u hk=>(by rw [← am.out];exact JJU u o))) (nS 4 (cV Tryz.func93 (fun u hk=>blen_any u F p B (HB.out.kept (a2.trans hk)) HI.out)) (nS 5 (aV rfl (fun a u E D hk=>WJ rfl (dD D 4) rfl) (Ku ac)) nZ)))) ?_
    intro w4 k4
    simp only [F8]
    clear ac
    have N:=a2.trans k4
    have I:=Kj (JJ a5.out k4)
    clear a5 k4 a2
    by_cases hk5:o.k=5
    ·skip
     have aF:=Kj hk5
     have H:¬ o.k=4:=by omega
     cases mb with
     | true=>
      have HE:Hid (B.err o=11):=by show _=_;rw [a3.out,if_pos ⟨hk5,a7.out⟩]
      go_upto_region 8 with fail
      refine wH 10 [pV g 4,iV o.k,bV true,bV true,pV p 0,o.v,pV p (Qz (3-o.side)),o.v,bV true,bV true] [32,33,34,35,36,37,38,39,40,41] (nS 1 (ldR I.out 4) (nS 2 (aV rfl (fun a u E D hk=>JY rfl (dD D 1) rfl) (Ky hk5)) (nS 5 (ldO I.out) (nS 6 (cV Tryz.func104 (fun u hk=>jQ u p o a1.out)) (nS 7 (ldO I.out) (nS 8 (cV Tryz.func105 (fun u hk=>(by obtain ⟨F',U⟩:=(HB.out.kept (N.trans hk)).lad a6.out;rw [← a7.out];exact yZ u F' p (Qz (3-o.side)) (3-o.side) _ o U ab.out))) nZ)))))) ?_
      intro w5 k5
      simp only [F8]
      have O:=N.trans k5
      clear I k5 N hk5 H
      go_wp2
      go_ret
      exact ⟨by rw [HE.out];rfl,O⟩
     | false=>
      have HE:Hid (B.err o=0):=by show _=_;rw [a3.out,if_neg (fun h=>by rw [a7.out] at h;cases h.2),if_neg (fun h=>H h.1)]
      go_upto_region 8 with fail
      refine wH 10 [pV g 4,iV o.k,bV true,bV true,pV p 0,o.v,pV p (Qz (3-o.side)),o.v,bV false,bV false] [32,33,34,35,36,37,38,39,40,41] (nS 1 (ldR I.out 4) (nS 2 (aV rfl (fun a u E D hk=>JY rfl (dD D 1) rfl) (Ky hk5)) (nS 5 (ldO I.out) (nS 6 (cV Tryz.func104 (fun u hk=>jQ u p o a1.out)) (nS 7 (ldO I.out) (nS 8 (cV Tryz.func105 (fun u hk=>(by obtain ⟨F',U⟩:=(HB.out.kept (N.trans hk)).lad a6.out;rw [← a7.out];exact yZ u F' p (Qz (3-o.side)) (3-o.side) _ o U ab.out))) nZ)))))) ?_
      intro w5 k5
      simp only [F8]
      have J:=N.trans k5
      have j:=Kj (JJ I.out k5)
      clear I k5 N hk5
      go_upto_region 10 with fail
      refine wH 13 [pV g 4,iV o.k,bV false,bV false,undef,undef,undef,undef,undef,undef,undef,undef,bV false] [42,43,44,45,46,47,48,49,50,51,52,53,54] (nS 1 (ldR j.out 4) (nS 2 (aV rfl (fun a u E D hk=>JY rfl (dD D 1) rfl) (Ku H)) nZ)) ?_
      intro w6 k6
      simp only [F8]
      have O:=J.trans k6
      clear j k6 J H
      go_wp2
      go_ret
      exact ⟨by rw [HE.out];rfl,O⟩
    skip
    go_upto_region 8 with fail
    refine wH 10 [pV g 4,iV o.k,bV false,bV false,undef,undef,undef,undef,undef,bV false] [32,33,34,35,36,37,38,39,40,41] (nS 1 (ldR I.out 4) (nS 2 (aV rfl (fun a u E D hk=>JY rfl (dD D 1) rfl) (Ku hk5)) nZ)) ?_
    intro w5 k5
    simp only [F8]
    have J:=N.trans k5
    have j:=Kj (JJ I.out k5)
    have aa:=Kj hk5
    clear I k5 N hk5
    by_cases H:o.k=4
    ·skip
     have aJ:=Kj H
     by_cases hgv:a9<o.qty
     ·have HE:Hid (B.err o=12):=by show _=_;rw [a3.out,if_neg (fun h=>aa.out h.1),if_pos ⟨H,ah.out.1 hgv⟩]
      go_upto_region 10 with fail
      refine wH 13 [pV g 4,iV o.k,bV true,bV true,pV p 0,o.v,pV p (Qz (3-o.side)),o.v,iV a9,pV g 6,iV o.qty,bV true,bV true] [42,43,44,45,46,47,48,49,50,51,52,53,54] (nS 1 (ldR j.out 4) (nS 2 (aV rfl (fun a u E D hk=>JY rfl (dD D 1) rfl) (Ky H)) (nS 5 (ldO j.out) (nS 6 (cV Tryz.func104 (fun u hk=>jQ u p o a1.out)) (nS 7 (ldO j.out) (nS 8 (cV Tryz.func106 (fun u hk=>(by obtain ⟨F',U⟩:=(HB.out.kept (J.trans hk)).lad a6.out;rw [← ag.out];exact gives_any u F' p (Qz (3-o.side)) (3-o.side) (3-o.side) _ o U a4.out))) (nS 10 (ldR j.out 6) (nS 11 (aV rfl (fun a u E D hk=>YU rfl (dD D 8) (dD D 10)) (Ky hgv)) nZ)))))))) ?_
      intro w6 k6
      simp only [F8]
      have O:=J.trans k6
      clear j k6 J H hgv
      go_wp2
      go_ret
      exact ⟨by rw [HE.out];rfl,O⟩
     have HE:Hid (B.err o=0):=by show _=_;rw [a3.out,if_neg (fun h=>aa.out h.1),if_neg (fun h=>hgv (ah.out.2 h.2))]
     go_upto_region 10 with fail
     refine wH 13 [pV g 4,iV o.k,bV true,bV true,pV p 0,o.v,pV p (Qz (3-o.side)),o.v,iV a9,pV g 6,iV o.qty,bV false,bV false] [42,43,44,45,46,47,48,49,50,51,52,53,54] (nS 1 (ldR j.out 4) (nS 2 (aV rfl (fun a u E D hk=>JY rfl (dD D 1) rfl) (Ky H)) (nS 5 (ldO j.out) (nS 6 (cV Tryz.func104 (fun u hk=>jQ u p o a1.out)) (nS 7 (ldO j.out) (nS 8 (cV Tryz.func106 (fun u hk=>(by obtain ⟨F',U⟩:=(HB.out.kept (J.trans hk)).lad a6.out;rw [← ag.out];exact gives_any u F' p (Qz (3-o.side)) (3-o.side) (3-o.side) _ o U a4.out))) (nS 10 (ldR j.out 6) (nS 11 (aV rfl (fun a u E D hk=>YU rfl (dD D 8) (dD D 10)) (Ku hgv)) nZ)))))))) ?_
     intro w6 k6
     simp only [F8]
     have O:=J.trans k6
     clear j k6 J H hgv
     go_wp2
     go_ret
     exact ⟨by rw [HE.out];rfl,O⟩
    have HE:Hid (B.err o=0):=by show _=_;rw [a3.out,if_neg (fun h=>aa.out h.1),if_neg (fun h=>H h.1)]
    go_upto_region 10 with fail
    refine wH 13 [pV g 4,iV o.k,bV false,bV false,undef,undef,undef,undef,undef,undef,undef,undef,bV false] [42,43,44,45,46,47,48,49,50,51,52,53,54] (nS 1 (ldR j.out 4) (nS 2 (aV rfl (fun a u E D hk=>JY rfl (dD D 1) rfl) (Ku H)) nZ)) ?_
    intro w6 k6
    simp only [F8]
    have O:=J.trans k6
    clear j k6 J H
    go_wp2
    go_ret
    exact ⟨by rw [HE.out];rfl,O⟩
   | false=>
    clear hfull
    go_upto_region 6 with fail
    refine wA 7 [o.v,bV false,bV false,undef,undef,undef,bV false] [25,26,27,28,29,30,31] (nS 0 (ldO a5.out) (nS 1 (cV Tryz.func97 (fun u hk=>(by rw [← am.out];exact JJU u o))) nZ)) ?_
    intro w4 k4
    simp only [F8]
    have N:=a2.trans k4
    have I:=Kj (JJ a5.out k4)
    clear a5 k4 a2
    by_cases hk5:o.k=5
    ·skip
     have aF:=Kj hk5
     have H:¬ o.k=4:=by omega
     cases mb with
     | true=>
      have HE:Hid (B.err o=11):=by show _=_;rw [a3.out,if_pos ⟨hk5,a7.out⟩]
      go_upto_region 8 with fail
      refine wH 10 [pV g 4,iV o.k,bV true,bV true,pV p 0,o.v,pV p (Qz (3-o.side)),o.v,bV true,bV true] [32,33,34,35,36,37,38,39,40,41] (nS 1 (ldR I.out 4) (nS 2 (aV rfl (fun a u E D hk=>JY rfl (dD D 1) rfl) (Ky hk5)) (nS 5 (ldO I.out) (nS 6 (cV Tryz.func104 (fun u hk=>jQ u p o a1.out)) (nS 7 (ldO I.out) (nS 8 (cV Tryz.func105 (fun u hk=>(by obtain ⟨F',U⟩:=(HB.out.kept (N.trans hk)).lad a6.out;rw [← a7.out];exact yZ u F' p (Qz (3-o.side)) (3-o.side) _ o U ab.out))) nZ)))))) ?_
      intro w5 k5
      simp only [F8]
      have O:=N.trans k5
      clear I k5 N hk5 H
      go_wp2
      go_ret
      exact ⟨by rw [HE.out];rfl,O⟩
     | false=>
      have HE:Hid (B.err o=0):=by show _=_;rw [a3.out,if_neg (fun h=>by rw [a7.out] at h;cases h.2),if_neg (fun h=>H h.1)]
      go_upto_region 8 with fail
      refine wH 10 [pV g 4,iV o.k,bV true,bV true,pV p 0,o.v,pV p (Qz (3-o.side)),o.v,bV false,bV false] [32,33,34,35,36,37,38,39,40,41] (nS 1 (ldR I.out 4) (nS 2 (aV rfl (fun a u E D hk=>JY rfl (dD D 1) rfl) (Ky hk5)) (nS 5 (ldO I.out) (nS 6 (cV Tryz.func104 (fun u hk=>jQ u p o a1.out)) (nS 7 (ldO I.out) (nS 8 (cV Tryz.func105 (fun u hk=>(by obtain ⟨F',U⟩:=(HB.out.kept (N.trans hk)).lad a6.out;rw [← a7.out];exact yZ u F' p (Qz (3-o.side)) (3-o.side) _ o U ab.out))) nZ)))))) ?_
      intro w5 k5
      simp only [F8]
      have J:=N.trans k5
      have j:=Kj (JJ I.out k5)
      clear I k5 N hk5
      go_upto_region 10 with fail
      refine wH 13 [pV g 4,iV o.k,bV false,bV false,undef,undef,undef,undef,undef,undef,undef,undef,bV false] [42,43,44,45,46,47,48,49,50,51,52,53,54] (nS 1 (ldR j.out 4) (nS 2 (aV rfl (fun a u E D hk=>JY rfl (dD D 1) rfl) (Ku H)) nZ)) ?_
      intro w6 k6
      simp only [F8]
      have O:=J.trans k6
      clear j k6 J H
      go_wp2
      go_ret
      exact ⟨by rw [HE.out];rfl,O⟩
    skip
    go_upto_region 8 with fail
    refine wH 10 [pV g 4,iV o.k,bV false,bV false,undef,undef,undef,undef,undef,bV false] [32,33,34,35,36,37,38,39,40,41] (nS 1 (ldR I.out 4) (nS 2 (aV rfl (fun a u E D hk=>JY rfl (dD D 1) rfl) (Ku hk5)) nZ)) ?_
    intro w5 k5
    simp only [F8]
    have J:=N.trans k5
    have j:=Kj (JJ I.out k5)
    have aa:=Kj hk5
    clear I k5 N hk5
    by_cases H:o.k=4
    ·skip
     have aJ:=Kj H
     by_cases hgv:a9<o.qty
     ·have HE:Hid (B.err o=12):=by show _=_;rw [a3.out,if_neg (fun h=>aa.out h.1),if_pos ⟨H,ah.out.1 hgv⟩]
      go_upto_region 10 with fail
      refine wH 13 [pV g 4,iV o.k,bV true,bV true,pV p 0,o.v,pV p (Qz (3-o.side)),o.v,iV a9,pV g 6,iV o.qty,bV true,bV true] [42,43,44,45,46,47,48,49,50,51,52,53,54] (nS 1 (ldR j.out 4) (nS 2 (aV rfl (fun a u E D hk=>JY rfl (dD D 1) rfl) (Ky H)) (nS 5 (ldO j.out) (nS 6 (cV Tryz.func104 (fun u hk=>jQ u p o a1.out)) (nS 7 (ldO j.out) (nS 8 (cV Tryz.func106 (fun u hk=>(by obtain ⟨F',U⟩:=(HB.out.kept (J.trans hk)).lad a6.out;rw [← ag.out];exact gives_any u F' p (Qz (3-o.side)) (3-o.side) (3-o.side) _ o U a4.out))) (nS 10 (ldR j.out 6) (nS 11 (aV rfl (fun a u E D hk=>YU rfl (dD D 8) (dD D 10)) (Ky hgv)) nZ)))))))) ?_
      intro w6 k6
      simp only [F8]
      have O:=J.trans k6
      clear j k6 J H hgv
      go_wp2
      go_ret
      exact ⟨by rw [HE.out];rfl,O⟩
     have HE:Hid (B.err o=0):=by show _=_;rw [a3.out,if_neg (fun h=>aa.out h.1),if_neg (fun h=>hgv (ah.out.2 h.2))]
     go_upto_region 10 with fail
     refine wH 13 [pV g 4,iV o.k,bV true,bV true,pV p 0,o.v,pV p (Qz (3-o.side)),o.v,iV a9,pV g 6,iV o.qty,bV false,bV false] [42,43,44,45,46,47,48,49,50,51,52,53,54] (nS 1 (ldR j.out 4) (nS 2 (aV rfl (fun a u E D hk=>JY rfl (dD D 1) rfl) (Ky H)) (nS 5 (ldO j.out) (nS 6 (cV Tryz.func104 (fun u hk=>jQ u p o a1.out)) (nS 7 (ldO j.out) (nS 8 (cV Tryz.func106 (fun u hk=>(by obtain ⟨F',U⟩:=(HB.out.kept (J.trans hk)).lad a6.out;rw [← ag.out];exact gives_any u F' p (Qz (3-o.side)) (3-o.side) (3-o.side) _ o U a4.out))) (nS 10 (ldR j.out 6) (nS 11 (aV rfl (fun a u E D hk=>YU rfl (dD D 8) (dD D 10)) (Ku hgv)) nZ)))))))) ?_
     intro w6 k6
     simp only [F8]
     have O:=J.trans k6
     clear j k6 J H hgv
     go_wp2
     go_ret
     exact ⟨by rw [HE.out];rfl,O⟩
    have HE:Hid (B.err o=0):=by show _=_;rw [a3.out,if_neg (fun h=>aa.out h.1),if_neg (fun h=>H h.1)]
    go_upto_region 10 with fail
    refine wH 13 [pV g 4,iV o.k,bV false,bV false,undef,undef,undef,undef,undef,undef,undef,undef,bV false] [42,43,44,45,46,47,48,49,50,51,52,53,54] (nS 1 (ldR j.out 4) (nS 2 (aV rfl (fun a u E D hk=>JY rfl (dD D 1) rfl) (Ku H)) nZ)) ?_
    intro w6 k6
    simp only [F8]
    have O:=J.trans k6
    clear j k6 J H
    go_wp2
    go_ret
    exact ⟨by rw [HE.out];rfl,O⟩
 have HE:Hid (B.err o=1):=by show _=_;unfold Bok.err;rw [if_pos (fun h=>hr h.1)]
 have a8:o.err≠0:=by unfold Ord.err;rw [if_neg hr];decide
 go_upto_region 1 with fail
 refine wA 8 [o.v,iV o.err,bV true,bV true,undef,undef,undef,bV true] [7,8,9,10,11,12,13,14] (nS 0 (ldO HO.out) (nS 1 (cV Tryz.func35 (fun u hk=>qJ o u)) (nS 2 (aV rfl (fun a u E D hk=>Xj rfl (dD D 1) rfl) (Ky a8)) nZ))) ?_
 intro w1 k1
 simp only [F8]
 have O:=k0.trans k1
 clear HO a8 hr
 go_wp2
 go_ret
 exact ⟨by rw [HE.out];rfl,O⟩
def AddIn (w:World) (F:Nat→Prop) (p:Nat) (x:Oc × Bok) (r:Ending) (w':World):Prop:=
 ∃ F' v,r=.returned (x.1.v v)∧Bk w' F' p x.2∧Sl w' 95 21 v x.1.f.length (fls x.1.f)∧(∀ b,v.ownBlock=some b→w.heap.size≤b∧¬ F' b)∧Grow w F F'∧Keep F w w'
theorem built_oce (o:Ord) (n e:Int):Tryz.prog.built 66 [(0,o.v),(2,.int .i64 n),(6,.int .i64 e)]=some ((Oc.mk o [] n false false e).cells (.slice none 0 0)).toArray:=by kernel_rfl
theorem Bok.traded_to (B:Bok) (o:Ord):B.traded o=B.to (3-o.side) (B.matched o).L (Zq B.last (B.matched o).f) (B.no+(B.matched o).f.length):=rfl
theorem badd_any (w:World) (F:Nat→Prop) (p:Nat) (B:Bok) (o:Ord) (h:Bk w F p B) (hI:Inv B) (hn:B.no≤1000000000000):Calls Tryz.prog 79 #[.pointer (some ⟨p,0,none⟩),o.v] w (AddIn w F p (B.add o)):=by
 have b9:=h.lt
 have HB:=Kj h
 have HI:=Kj hI
 have hpF:=h.1
 clear h hI
 go_enter Tryz.func79,Tryz.ntmps79
 go_upto_region 0 with fail
 refine tAp 2 [.k (.fresh w.heap.size 35 (o.cells)),.k (.fresh w.heap.size 66 (XU.cells (.slice none 0 0)))] (nS 0 (nV rfl (fun a u E D hk=>⟨_,_,XV 35 _ (o.cells) rfl (eE E),⟨_,rfl,hk.size,Blk.new u _ _⟩,((Keep.refl _ u).alloc _)⟩)) (nS 1 (nV rfl (fun a u E D hk=>⟨_,_,QX 66 (XU.cells (.slice none 0 0)) rfl zC,⟨_,rfl,hk.size,Blk.new u _ _⟩,((Keep.refl _ u).alloc _)⟩)) nZ)) ?_
 intro gv w0 hV k0
 rw [dq 2 [3,4]]
 simp only [Fz7]
 have b8:(.fresh w.heap.size 35 (o.cells):Kn).p (gv 3) w0:=hV 0 3 (by kernel_rfl)
 generalize gv 3=v3 at b8 ⊢
 have a4:(.fresh w.heap.size 66 (XU.cells (.slice none 0 0)):Kn).p (gv 4) w0:=hV 1 4 (by kernel_rfl)
 generalize gv 4=v4 at a4 ⊢
 clear hV
 obtain ⟨bi,rfl,hbi,aJ⟩:=b8
 obtain ⟨b4,rfl,hb4,ax⟩:=a4
 refine Kx ?_
 have HO:=Kj (JX aJ)
 have aY:=Kj ax
 have li:=aJ.lt
 have l4:=ax.lt
 clear aJ ax
 obtain ⟨e,he⟩:∃ e,B.err o=e:=⟨_,rfl⟩
 have HE:=Kj he
 clear he
 go_upto_region 1 with fail
 refine wA 4 [pV p 0,o.v,iV e,iV e] [7,8,9,5] (nS 1 (ldO HO.out) (nS 2 (cV Tryz.func95 (fun u hk=>(by rw [← HE.out];exact refusal_any u F p B o (HB.out.kept (k0.trans hk)) HI.out))) nZ)) ?_
 intro w1 k1
 simp only [F8]
 have aI:=k0.trans k1
 have aH:=Kj (JJ HO.out k1)
 have ay:=Kj (aY.out.kept k1)
 have z0:=k0.size
 have z1:=k1.size
 have aZ:¬ F b4:=fun h=>by have:=b9 b4 h;omega
 have b7:¬ F bi:=fun h=>by have:=b9 bi h;omega
 clear HO aY k0 k1
 by_cases he0:e≠0
 ·have HA:Hid (B.add o=(⟨o,[],o.qty,false,false,e⟩,B)):=by show _=_;rw [yj (by rw [HE.out];exact he0),HE.out]
  go_upto_region 2 with fail
  refine wA 2 [iV e,bV true] [10,11] (nS 1 (aV rfl (fun a u E D hk=>Xj rfl (dD D 0) rfl) (Ky he0)) nZ) ?_
  intro w2 k2
  simp only [F8]
  have an:=Kj (JJ aH.out k2)
  have ai:=Kj (ay.out.kept k2)
  clear he0
  go_upto_region 3 with fail
  refine wAp 5 [o.v,pV bi 6,iV o.qty,iV e,(Oc.mk o [] o.qty false false e).v (.slice none 0 0)] [12,13,14,15,16] (nS 0 (ldO an.out) (nS 2 (ldR an.out 6) (nS 4 (sV rfl (fun a u E D hk=>XZ _ [(0,.tmp 12),(2,.tmp 14),(6,.tmp 15)] ((Oc.mk o [] o.qty false false e).cells (.slice none 0 0)) rfl (by simp only [List.map_cons,List.map_nil];rw [show a.eval (.tmp 12)=o.v from (dD D 0),show a.eval (.tmp 14)=.int .i64 o.qty from (dD D 2),show a.eval (.tmp 15)=.int .i64 e from (dD D 3)];exact built_oce o o.qty e))) nZ))) ?_
  intro w3 k3
  simp only [F8]
  refine YV 66 b4 66 (XU.cells (.slice none 0 0)) ((Oc.mk o [] o.qty false false e).cells (.slice none 0 0)) _ _ rfl rfl (by kernel_rfl) (by kernel_rfl) (ai.out.kept k3) (by rw [Oc.len15];exact szC) (by rw [Oc.len15,Oc.len15]) (Oc.one _ _ rfl) ?_
  intro w4 ax ac hs4
  simp only [Act.put]
  refine Kx ?_
  go_wp2
  refine bodyPost_ret (QU (p:=4) rfl _ _ b4 _ ((Oc.mk o [] o.qty false false e).cells (.slice none 0 0)) rfl ax Tryz.underlying66 (by rw [Oc.len15];exact szC)) rfl ?_
  rw [HA.out]
  have kk:Kept w w4:=((aI.trans k2).trans k3).trans' ac (by omega)
  exact ⟨F,.slice none 0 0,rfl,HB.out.kept kk,Sl.nil _ _ _,fun b j=>by simp [Value.ownBlock] at j,Grow.refl _ _,Keep.mono (T:=F) kk (fun _ _ h=>h.elim)⟩
 have bf:e=0:=Classical.not_not.1 he0
 subst bf
 have HEZ:=Kj (err_zero HE.out)
 have aw:=Kj (add_is HI.out HE.out)
 go_upto_region 2 with fail
 refine wA 2 [iV 0,bV false] [10,11] (nS 1 (aV rfl (fun a u E D hk=>Xj rfl (dD D 0) rfl) (by decide)) nZ) ?_
 intro w2 k2
 simp only [F8]
 have aX:=aI.trans k2
 have z2:=k2.size
 have an:=Kj (JJ aH.out k2)
 have ai:=Kj (ay.out.kept k2)
 clear he0 aI aH ay
 obtain ⟨m,hm⟩:∃ m,B.matched o=m:=⟨_,rfl⟩
 have aa:=Kj hm
 clear hm
 go_upto_region 4 with fail
 refine wAp 2 [pV p 0,o.v] [17,18] (nS 1 (ldO an.out) nZ) ?_
 intro w3 k3
 simp only [F8]
 refine cT Tryz.func96 [.pointer (some ⟨p,0,none⟩),o.v] ?_
 refine (match_any w3 F p B o (HB.out.kept (aX.trans k3)) HI.out aw.out.sd (JJJ aw.out.rt) hn).mono ?_
 rintro r w4 ⟨F4,vf,rfl,aj,a4,aB,az,ac⟩
 rw [aa.out] at aj a4
 refine ⟨(Oc.mk o m.f m.left false m.self 0).v vf,by rw [aa.out],?_⟩
 refine nT zC ?_
 intro w5 ar b1
 refine YV 66 w4.heap.size 66 (XU.cells (.slice none 0 0)) ((Oc.mk o m.f m.left false m.self 0).cells vf) _ _ rfl rfl (by kernel_rfl) (by kernel_rfl) ar (by rw [Oc.len15];exact szC) (by rw [Oc.len15,Oc.len15]) (Oc.one _ _ (Xy a4)) ?_
 intro w6 aC aL bm
 simp only [Act.put,sA,sS,sZ]
 refine Kx ?_
 obtain ⟨bo,aR⟩:∃ x,w4.heap.size=x:=⟨_,rfl⟩
 rw [aR] at ar aC aL ⊢
 have lo:=aC.lt
 have ad:Kept w4 w6:=b1.trans' aL (by omega)
 have aA:=aX.trans k3
 have z3:=k3.size
 have z4:=ac.size
 have zz:=ad.size
 have hbw:w.heap.size≤bo:=by have:=aA.size;omega
 have a7:Keep F w w6:=(Keep.any aA ac).kept ad
 have a8:=Kj (aj.kept ad)
 have a6:=Kj (a4.kept ad)
 have I:=Kj aC
 have ab:=Kj (JJ (QJ (JJ an.out k3) ac b7) ad)
 have N:=Kj (((ai.out.kept k3).keep ac aZ).kept ad)
 have ao:Hid (Grow w F F4):=az.wide aA.size
 have aF:¬ F4 bo:=fun h=>by have:=aj.lt bo h;omega
 have hiF4:¬ F4 bi:=fun h=>(az bi h).elim b7 (fun h=>by omega)
 have a9:¬ F4 b4:=fun h=>(az b4 h).elim aZ (fun h=>by omega)
 have al:Hid (∀ b,vf.ownBlock=some b→w.heap.size≤b∧¬ F4 b):=fun b j=>⟨by have:=(aB b j).1;have:=aA.size;omega,(aB b j).2⟩
 have b0:Hid (∀ b,vf.ownBlock=some b→b<bo):=fun b j=>by have:=a4.lt j;omega
 have aO:bo≠b4:=by omega
 have aD:∀ b,vf.ownBlock=some b→b≠b4:=fun b j e=>by
  have h1:=(aB b j).1
  omega
 have ak:=Kj aD
 clear aj a4 aB az ac ar aC aL bm b1 ad an ai k3 aR aD
 have aN:Hid (B.stays o=(decide (0<m.left) && !m.self && (decide (o.k=1) || decide (o.k=5)))):=by show _=_;unfold Bok.stays;rw [aa.out]
 obtain ⟨st,a1⟩:∃ st,B.stays o=st:=⟨_,rfl⟩
 rw [a1] at aN
 have b5:=Kj a1
 have aG:(decide (0<m.left) && !m.self && (decide (o.k=1) || decide (o.k=5)))=st:=aN.out.symm
 clear a1 aN
 have ah:Hid (B.add o=(⟨o,m.f,m.left,st,m.self,0⟩,if st=true then (B.traded o).put o.side (WY (o.cut m.left) ((B.traded o).sd o.side)) else B.traded o)):=by
  show _=_
  unfold Bok.add
  rw [if_neg (by rw [HE.out];simp),b5.out,aa.out]
 have ag:=Kj aG
 clear aG
 by_cases hl:0<m.left
 ·by_cases hsf0:m.self=true
  ·have ae:=hsf0
   have a1:st=false:=by rw [← ag.out,ae];simp
   subst a1
   clear hsf0
   go_upto_region 5 with fail
   refine wA 12 [pV bo 10,iV ((Oc.mk o m.f m.left false m.self 0).left),bV true,bV true,pV bo 13,bV ((Oc.mk o m.f m.left false m.self 0).self),bV false,bV false,bV false,undef,undef,bV false] [20,21,22,23,24,25,26,27,28,29,30,31] (nS 1 (sV rfl (fun a u E D hk=>JZ _ Tryz.underlying3 _ _ _ rfl (dD D 0) (by rw [(I.out.kept hk).cell];rfl))) (nS 2 (aV rfl (fun a u E D hk=>QZ rfl (dD D 1) rfl) (Ky hl)) (nS 5 (sV rfl (fun a u E D hk=>qY _ Tryz.underlying4 _ _ _ rfl (dD D 4) (by rw [(I.out.kept hk).cell];rfl))) (nS 6 (aV rfl (fun a u E D hk=>YX _ _ (Oc.mk o m.f m.left false m.self 0).self rfl (dD D 5)) (by rw [ae];rfl)) nZ)))) ?_
   intro w7 J
   simp only [F8]
   have a5:=Kj (a8.out.kept J)
   have U:=Kj (a6.out.kept J)
   have a2:=Kj (I.out.kept J)
   have O:=Kj (N.out.kept J)
   have a3:=a7.kept J
   clear a8 a6 I N ab a7 J
   go_upto_region 8 with fail
   refine wAp 1 [(Oc.mk o m.f m.left false m.self 0).v vf] [38] (nS 0 (ldS Tryz.underlying66 (fun u hk=>JX (a2.out.kept hk)) (by rw [Oc.len15];exact szC)) nZ) ?_
   intro wy ky
   simp only [F8]
   refine YV 66 b4 66 (XU.cells (.slice none 0 0)) ((Oc.mk o m.f m.left false m.self 0).cells vf) _ _ rfl rfl (by kernel_rfl) (by kernel_rfl) (O.out.kept ky) (by rw [Oc.len15];exact szC) (by rw [Oc.len15,Oc.len15]) (Oc.one _ _ (Xy U.out)) ?_
   intro wx af H aK
   simp only [Act.put]
   refine Kx ?_
   go_wp2
   refine bodyPost_ret (QU (p:=4) rfl _ _ b4 _ ((Oc.mk o m.f m.left false m.self 0).cells vf) rfl af Tryz.underlying66 (by rw [Oc.len15];exact szC)) rfl ?_
   rw [ah.out]
   refine ⟨F4,vf,rfl,?_,(U.out.kept ky).keep H (fun b j e=>ak.out b j e),al.out,ao.out,(a3.kept ky).trans H (fun b j e=>by omega)⟩
   have h1:=(a5.out.kept ky).keep H (fun b j e=>a9 (by rw [← e];exact j))
   simp only [Bool.false_eq_true,if_false]
   rw [Bok.traded_to,aa.out]
   exact h1
  have ae:m.self=false:=by simpa using hsf0
  clear hsf0
  obtain ⟨mr,aq⟩:∃ x,(decide (o.k=1) || decide (o.k=5))=x:=⟨_,rfl⟩
  have aU:=Kj aq
  cases mr with
  | false=>
   have a1:st=false:=by rw [← ag.out,aq];simp
   subst a1
   clear aq
   go_upto_region 5 with fail
   refine wA 12 [pV bo 10,iV ((Oc.mk o m.f m.left false m.self 0).left),bV true,bV true,pV bo 13,bV ((Oc.mk o m.f m.left false m.self 0).self),bV true,bV true,bV true,o.v,bV false,bV false] [20,21,22,23,24,25,26,27,28,29,30,31] (nS 1 (sV rfl (fun a u E D hk=>JZ _ Tryz.underlying3 _ _ _ rfl (dD D 0) (by rw [(I.out.kept hk).cell];rfl))) (nS 2 (aV rfl (fun a u E D hk=>QZ rfl (dD D 1) rfl) (Ky hl)) (nS 5 (sV rfl (fun a u E D hk=>qY _ Tryz.underlying4 _ _ _ rfl (dD D 4) (by rw [(I.out.kept hk).cell];rfl))) (nS 6 (aV rfl (fun a u E D hk=>YX _ _ (Oc.mk o m.f m.left false m.self 0).self rfl (dD D 5)) (by rw [ae];rfl)) (nS 9 (ldO ab.out) (nS 10 (cV Tryz.func97 (fun u hk=>(by rw [← aU.out];exact JJU u o))) nZ)))))) ?_
   intro w7 J
   simp only [F8]
   have a5:=Kj (a8.out.kept J)
   have U:=Kj (a6.out.kept J)
   have a2:=Kj (I.out.kept J)
   have O:=Kj (N.out.kept J)
   have a3:=a7.kept J
   clear a8 a6 I N ab a7 J
   go_upto_region 8 with fail
   refine wAp 1 [(Oc.mk o m.f m.left false m.self 0).v vf] [38] (nS 0 (ldS Tryz.underlying66 (fun u hk=>JX (a2.out.kept hk)) (by rw [Oc.len15];exact szC)) nZ) ?_
   intro wy ky
   simp only [F8]
   refine YV 66 b4 66 (XU.cells (.slice none 0 0)) ((Oc.mk o m.f m.left false m.self 0).cells vf) _ _ rfl rfl (by kernel_rfl) (by kernel_rfl) (O.out.kept ky) (by rw [Oc.len15];exact szC) (by rw [Oc.len15,Oc.len15]) (Oc.one _ _ (Xy U.out)) ?_
   intro wx af H aK
   simp only [Act.put]
   refine Kx ?_
   go_wp2
   refine bodyPost_ret (QU (p:=4) rfl _ _ b4 _ ((Oc.mk o m.f m.left false m.self 0).cells vf) rfl af Tryz.underlying66 (by rw [Oc.len15];exact szC)) rfl ?_
   rw [ah.out]
   refine ⟨F4,vf,rfl,?_,(U.out.kept ky).keep H (fun b j e=>ak.out b j e),al.out,ao.out,(a3.kept ky).trans H (fun b j e=>by omega)⟩
   have h1:=(a5.out.kept ky).keep H (fun b j e=>a9 (by rw [← e];exact j))
   simp only [Bool.false_eq_true,if_false]
   rw [Bok.traded_to,aa.out]
   exact h1
  | true=>
   have a1:st=true:=by rw [← ag.out,aq,ae];simp;exact hl
   subst a1
   clear aq
   go_upto_region 5 with fail
   refine wA 12 [pV bo 10,iV ((Oc.mk o m.f m.left false m.self 0).left),bV true,bV true,pV bo 13,bV ((Oc.mk o m.f m.left false m.self 0).self),bV true,bV true,bV true,o.v,bV true,bV true] [20,21,22,23,24,25,26,27,28,29,30,31] (nS 1 (sV rfl (fun a u E D hk=>JZ _ Tryz.underlying3 _ _ _ rfl (dD D 0) (by rw [(I.out.kept hk).cell];rfl))) (nS 2 (aV rfl (fun a u E D hk=>QZ rfl (dD D 1) rfl) (Ky hl)) (nS 5 (sV rfl (fun a u E D hk=>qY _ Tryz.underlying4 _ _ _ rfl (dD D 4) (by rw [(I.out.kept hk).cell];rfl))) (nS 6 (aV rfl (fun a u E D hk=>YX _ _ (Oc.mk o m.f m.left false m.self 0).self rfl (dD D 5)) (by rw [ae];rfl)) (nS 9 (ldO ab.out) (nS 10 (cV Tryz.func97 (fun u hk=>(by rw [← aU.out];exact JJU u o))) nZ)))))) ?_
   intro w7 J
   simp only [F8]
   have a5:=Kj (a8.out.kept J)
   have U:=Kj (a6.out.kept J)
   have a2:=Kj (I.out.kept J)
   have bd:=Kj (JJ ab.out J)
   have O:=Kj (N.out.kept J)
   have a3:=a7.kept J
   have zk7:=J.size
   have bq:Hid (LvsOk ((B.to (3-o.side) m.L (Zq B.last m.f) (B.no+m.f.length)).sd o.side)):=by
    show LvsOk _
    have h1:=HI.out.ok o.side
    rcases aw.out.sd with h2 | h2 <;> rw [h2] at h1 ⊢ <;> exact h1
   clear a8 a6 I N ab a7 J hl ae
   go_upto_region 6 with fail
   refine wAp 4 [pV p 0,o.v,pV bo 10,iV ((Oc.mk o m.f m.left false m.self 0).left)] [32,33,34,35] (nS 1 (ldO bd.out) (nS 3 (sV rfl (fun a u E D hk=>JZ _ Tryz.underlying3 _ _ _ rfl (dD D 2) (by rw [(a2.out.kept hk).cell];rfl))) nZ)) ?_
   intro w8 k8
   simp only [F8]
   refine cT Tryz.func98 [.pointer (some ⟨p,0,none⟩),o.v,.int .i64 (Oc.mk o m.f m.left false m.self 0).left] ?_
   refine (rest_any w8 F4 p _ o m.left (a5.out.kept k8) aw.out.sd bq.out).mono ?_
   rintro r w9 ⟨F9,rfl,aW,b6,am⟩
   refine ⟨_,rfl,?_⟩
   simp only [Act.put,sA,sS,sZ]
   refine Kx ?_
   have zk8:=k8.size
   have zk9:=am.size
   have ba:=Kj ((a2.out.kept k8).keep am aF)
   have aE:=Kj ((O.out.kept k8).keep am a9)
   have bb:=Kj ((U.out.kept k8).keep am (fun b j e=>(al.out b j).2 e))
   have b2:Keep F w w9:=(a3.kept k8).trans am (fun b j e=>(ao.out b e).elim id (fun e=>by omega))
   have au:∀ b,F9 b→F4 b∨w8.heap.size≤b:=b6
   have bl:¬ F9 bo:=fun h=>(au bo h).elim aF (fun h=>by omega)
   have bn:¬ F9 b4:=fun h=>(au b4 h).elim a9 (fun h=>by omega)
   have bc:Hid (∀ b,vf.ownBlock=some b→w.heap.size≤b∧¬ F9 b):=fun b j=>⟨(al.out b j).1,fun e=>(au b e).elim (al.out b j).2 (fun e=>by have:=b0.out b j;omega)⟩
   have bp:Hid (Grow w F F9):=fun b j=>by
    rcases au b j with h | h
    ·exact ao.out b h
    exact .inr (by have:=a3.size;omega)
   have aQ:=Kj aW
   clear aW b6 am k8 a5 U a2 bd O a3 au
   go_upto_region 7 with fail
   refine wAp 1 [pV bo 11] [37] nZ ?_
   intro wa ka
   simp only [F8]
   refine ZJ 4 bo 11 66 _ (.bool true) _ (.const (.bool true)) rfl rfl (by kernel_rfl) (by kernel_rfl) rfl rfl rfl (ba.out.kept ka) (by rw [Oc.len15];omega) ?_
   intro wb aM av bh
   simp only [Act.put]
   refine Kx ?_
   rw [Oc.set_rests] at aM
   have be:=Kj aM
   have bg:=Kj ((aQ.out.kept ka).keep av (fun b j e=>bl (by rw [← e];exact j)))
   have b3:=Kj ((bb.out.kept ka).keep av (fun b j e=>by have:=b0.out b j;omega))
   have aS:=Kj ((aE.out.kept ka).keep av (fun e=>aO e.symm))
   have bj:Keep F w wb:=(b2.kept ka).trans av (fun b j e=>by omega)
   clear aM av bh ka ba aQ bb aE b2
   go_upto_region 8 with fail
   refine wAp 1 [(Oc.mk o m.f m.left true m.self 0).v vf] [38] (nS 0 (ldS Tryz.underlying66 (fun u hk=>JX (be.out.kept hk)) (by rw [Oc.len15];exact szC)) nZ) ?_
   intro wy ky
   simp only [F8]
   refine YV 66 b4 66 (XU.cells (.slice none 0 0)) ((Oc.mk o m.f m.left true m.self 0).cells vf) _ _ rfl rfl (by kernel_rfl) (by kernel_rfl) (aS.out.kept ky) (by rw [Oc.len15];exact szC) (by rw [Oc.len15,Oc.len15]) (Oc.one _ _ (Xy b3.out)) ?_
   intro wx af H aK
   simp only [Act.put]
   refine Kx ?_
   go_wp2
   refine bodyPost_ret (QU (p:=4) rfl _ _ b4 _ ((Oc.mk o m.f m.left true m.self 0).cells vf) rfl af Tryz.underlying66 (by rw [Oc.len15];exact szC)) rfl ?_
   rw [ah.out]
   refine ⟨F9,vf,rfl,?_,(b3.out.kept ky).keep H (fun b j e=>ak.out b j e),bc.out,bp.out,(bj.kept ky).trans H (fun b j e=>by omega)⟩
   have h1:=(bg.out.kept ky).keep H (fun b j e=>bn (by rw [← e];exact j))
   simp only [if_true]
   rw [Bok.traded_to,aa.out]
   rcases aw.out.sd with h2 | h2
   ·rw [h2] at h1 ⊢
    exact h1
   rw [h2] at h1 ⊢
   exact h1
 have a1:st=false:=by rw [← ag.out];simp [hl]
 subst a1
 go_upto_region 5 with fail
 refine wA 12 [pV bo 10,iV ((Oc.mk o m.f m.left false m.self 0).left),bV false,bV false,undef,undef,undef,bV false,bV false,undef,undef,bV false] [20,21,22,23,24,25,26,27,28,29,30,31] (nS 1 (sV rfl (fun a u E D hk=>JZ _ Tryz.underlying3 _ _ _ rfl (dD D 0) (by rw [(I.out.kept hk).cell];rfl))) (nS 2 (aV rfl (fun a u E D hk=>QZ rfl (dD D 1) rfl) (Ku hl)) nZ)) ?_
 intro w7 J
 simp only [F8]
 have a5:=Kj (a8.out.kept J)
 have U:=Kj (a6.out.kept J)
 have a2:=Kj (I.out.kept J)
 have O:=Kj (N.out.kept J)
 have a3:=a7.kept J
 clear a8 a6 I N ab a7 J
 go_upto_region 8 with fail
 refine wAp 1 [(Oc.mk o m.f m.left false m.self 0).v vf] [38] (nS 0 (ldS Tryz.underlying66 (fun u hk=>JX (a2.out.kept hk)) (by rw [Oc.len15];exact szC)) nZ) ?_
 intro wy ky
 simp only [F8]
 refine YV 66 b4 66 (XU.cells (.slice none 0 0)) ((Oc.mk o m.f m.left false m.self 0).cells vf) _ _ rfl rfl (by kernel_rfl) (by kernel_rfl) (O.out.kept ky) (by rw [Oc.len15];exact szC) (by rw [Oc.len15,Oc.len15]) (Oc.one _ _ (Xy U.out)) ?_
 intro wx af H aK
 simp only [Act.put]
 refine Kx ?_
 go_wp2
 refine bodyPost_ret (QU (p:=4) rfl _ _ b4 _ ((Oc.mk o m.f m.left false m.self 0).cells vf) rfl af Tryz.underlying66 (by rw [Oc.len15];exact szC)) rfl ?_
 rw [ah.out]
 refine ⟨F4,vf,rfl,?_,(U.out.kept ky).keep H (fun b j e=>ak.out b j e),al.out,ao.out,(a3.kept ky).trans H (fun b j e=>by omega)⟩
 have h1:=(a5.out.kept ky).keep H (fun b j e=>a9 (by rw [← e];exact j))
 simp only [Bool.false_eq_true,if_false]
 rw [Bok.traded_to,aa.out]
 exact h1
section
variable {P:Program} {ops:Array Oper} {Q:Exit→Act→World→Prop} {V:List Kn} {n m m2:Nat} {a0:Act} {w0:World} {S S2:Nat→Prop}
end

theorem Bok.to1 (B:Bok) (L:List Lev):B.to 1 L B.last B.no={ B with buys:=L }:=rfl
theorem Bok.to2 (B:Bok) (L:List Lev):B.to 2 L B.last B.no={ B with sells:=L }:=rfl
theorem bless_any (w:World) (F:Nat→Prop) (p:Nat) (B:Bok) (t i q:Int) (h:Bk w F p B) (hI:Inv B):Calls Tryz.prog 37 #[.pointer (some ⟨p,0,none⟩),.int .i64 t,.int .i64 i,.int .i64 q] w fun r w'=>∃ F',r=.returned (.bool (B.less t i q).1)∧Bk w' F' p (B.less t i q).2∧Grow w F F'∧Keep F w w':=by
 have HK:=Kj h
 have HI:=Kj hI
 clear h hI
 go_enter Tryz.func37,Tryz.ntmps37
 go_wp2_with fail
 refine (lless_any w F p B 1 t i q HK.out (.inl rfl) (HI.out.ok 1)).mono ?_
 rintro r w1 ⟨F1,rfl,N,g1,k1,O⟩
 have e1:B.sd 1=B.buys:=rfl
 rw [e1] at N O ⊢
 rw [Bok.to1] at N
 obtain ⟨b,j⟩:∃ b,(VZ t i q B.buys).1=b:=⟨_,rfl⟩
 rw [j] at O ⊢
 have HB:=Kj j
 have H1:=Kj N
 have N1:=Kj O
 clear N O j
 cases b with
 | true=>
  have D:Hid (B.less t i q=(true,{ B with buys:=(VZ t i q B.buys).2 })):=by show _=_;unfold Bok.less;rw [if_pos HB.out]
  go_wp2
  go_ret
  rw [D.out]
  first | exact ⟨rfl,F1,H1.out,g1,k1⟩ | exact ⟨F1,rfl,H1.out,g1,k1⟩
 | false=>
  have I:=N1.out rfl
  have a1:=Kj (HK.out.kept I)
  clear H1 N1
  go_wp2_with fail
  refine (lless_any w1 F p B 2 t i q a1.out (.inr rfl) (HI.out.ok 2)).mono ?_
  rintro r w2 ⟨F2,rfl,U,g2,k2,J⟩
  have e2:B.sd 2=B.sells:=rfl
  rw [e2] at U J ⊢
  rw [Bok.to2] at U
  obtain ⟨b,j⟩:∃ b,(VZ t i q B.sells).1=b:=⟨_,rfl⟩
  rw [j] at J ⊢
  have H:=Kj j
  have H2:=Kj U
  have N2:=Kj J
  clear U J j
  have G2:=g2.wide I.size
  have K2:=Keep.any I k2
  cases b with
  | true=>
   have D:Hid (B.less t i q=(true,{ B with sells:=(VZ t i q B.sells).2 })):=by show _=_;unfold Bok.less;rw [if_neg (by rw [HB.out];simp),if_pos H.out]
   go_wp2
   go_ret
   rw [D.out]
   first | exact ⟨rfl,F2,H2.out,G2,K2⟩ | exact ⟨F2,rfl,H2.out,G2,K2⟩
  | false=>
   have D:Hid (B.less t i q=(false,B)):=by show _=_;unfold Bok.less;rw [if_neg (by rw [HB.out];simp),if_neg (by rw [H.out];simp)]
   have k3:=I.trans (N2.out rfl)
   have H3:=Kj (HK.out.kept k3)
   have K3:Keep F w w2:=Keep.mono (T:=F) k3 (fun _ _ h=>h.elim)
   go_wp2
   go_ret
   rw [D.out]
   first | exact ⟨rfl,F,H3.out,Grow.refl _ _,K3⟩ | exact ⟨F,rfl,H3.out,Grow.refl _ _,K3⟩
theorem bremove_any (w:World) (F:Nat→Prop) (p:Nat) (B:Bok) (t i:Int) (h:Bk w F p B) (hI:Inv B):Calls Tryz.prog 68 #[.pointer (some ⟨p,0,none⟩),.int .i64 t,.int .i64 i] w fun r w'=>∃ F',r=.returned (.tuple #[(B.remove t i).1.v,.bool (B.remove t i).2.1])∧Bk w' F' p (B.remove t i).2.2∧Grow w F F'∧Keep F w w':=by
 have ae:=h.lt
 have HK:=Kj h
 have HI:=Kj hI
 clear h hI
 go_enter Tryz.func68,Tryz.ntmps68
 go_upto_region 0 with fail
 refine tAp 2 [.k (.fresh w.heap.size 35 JV.cells),bK false] (nS 0 (nV rfl (fun a u E D hk=>⟨_,_,QX 35 JV.cells rfl zO,⟨_,rfl,hk.size,Blk.new u _ _⟩,((Keep.refl _ u).alloc _)⟩)) nZ) ?_
 intro gv w0 hV k0
 rw [dq 2 [6,7]]
 simp only [Fz7]
 have ad:(.fresh w.heap.size 35 JV.cells:Kn).p (gv 6) w0:=hV 0 6 (by kernel_rfl)
 generalize gv 6=v6 at ad ⊢
 rw [gQ hV 1 7 (.bool false)]
 clear hV
 obtain ⟨b6,rfl,hb6,a9⟩:=ad
 refine Kx ?_
 have U:¬ F b6:=fun h=>by have:=ae b6 h;omega
 have O:=Kj a9
 have l6:=a9.lt
 have a6:=Kj (HK.out.kept k0)
 have z0:=k0.size
 clear a9 ae
 obtain ⟨b,H⟩:∃ b,(YJ t i B.buys).2.1=b:=⟨_,rfl⟩
 obtain ⟨e,he⟩:∃ e,(YJ t i B.buys).1=e:=⟨_,rfl⟩
 have HB:=Kj H
 have HE:=Kj he
 clear H he
 go_upto_region 1 with fail
 refine wAp 5 [pV p 0,pV p 0,pV p 0,iV t,iV i] [11,12,13,14,15] nZ ?_
 intro w1 k1
 simp only [F8]
 refine cT Tryz.func90 [.pointer (some ⟨p,0,none⟩),.int .i64 t,.int .i64 i] ?_
 refine (lremove_any w1 F p B 1 t i (a6.out.kept k1) (.inl rfl) (HI.out.ok 1)).mono ?_
 rintro r w3 ⟨F1,rfl,h1,g1,q1,n1⟩
 have e1:B.sd 1=B.buys:=rfl
 rw [e1] at h1 n1 ⊢
 rw [Bok.to1] at h1
 refine ⟨.tuple #[e.v,.bool b],by rw [HB.out,HE.out],?_⟩
 rw [HB.out] at n1
 refine aT (.tuple #[e.v,.bool b]) ?_
 refine aT (e.v) ?_
 refine aT (.bool b) ?_
 refine nT zO ?_
 intro w4 J ac
 refine sO e J ?_
 intro w5 a3 a8 an
 refine aT (.bool b) ?_
 simp only [Act.put,sA,sS,sZ]
 refine Kx ?_
 obtain ⟨b8,ak⟩:∃ x,w3.heap.size=x:=⟨_,rfl⟩
 rw [ak] at J a3 a8 ⊢
 have l8:=a3.lt
 have j:Kept w3 w5:=ac.trans' a8 (by omega)
 have z1:=k1.size
 have z3:=q1.size
 have H1:=Kj h1
 have N1:=Kj n1
 have aa:=Kj (JX a3)
 clear J a3 a8 an ac h1 n1
 cases b with
 | true=>
  have HR:Hid (B.remove t i=(e,true,{ B with buys:=(YJ t i B.buys).2.2 })):=by show _=_;unfold Bok.remove;rw [if_pos HB.out,HE.out]
  have af:¬ F1 b6:=fun h=>(g1 b6 h).elim U (fun h=>by omega)
  have I:=Kj (((O.out.kept k1).keep q1 U).kept j)
  have am:=Kj (H1.out.kept j)
  have KK:Keep F w w5:=(Keep.any (k0.trans k1) q1).kept j
  have GG:Grow w F F1:=g1.wide (k0.trans k1).size
  have z5:=KK.size
  clear O H1 N1 j q1 g1
  go_upto_region 3 with fail
  refine wAp 1 [e.v] [20] (nS 0 (ldO aa.out) nZ) ?_
  intro w6 k6
  simp only [F8]
  refine sO e (I.out.kept k6) ?_
  intro w7 ah ag hs7
  refine aT (.bool true) ?_
  simp only [Act.put,sA,sS,sZ]
  refine Kx ?_
  go_wp2
  refine bodyPost_ret (Qq (p:=6) (q:=7) rfl _ _ b6 _ e.cells true rfl rfl ah Tryz.underlying35 (by rw [Ord.len9];exact JU)) rfl ?_
  rw [HR.out]
  have h9:=(am.out.kept k6).keep ag (fun b H h=>af (by subst h;exact H))
  have k9:Keep F w w7:=(KK.kept k6).trans ag (fun b H h=>by subst h;omega)
  first | exact ⟨rfl,F1,h9,GG,k9⟩ | exact ⟨F1,rfl,h9,GG,k9⟩
 | false=>
  have kk:=(k1.trans (N1.out rfl)).trans j
  have ai:=Kj (a6.out.kept kk)
  have I:=Kj (O.out.kept kk)
  have zk:=kk.size
  clear H1 N1 j O a6 q1 g1 k1 z1 z3 aa l8
  obtain ⟨b,H⟩:∃ b,(YJ t i B.sells).2.1=b:=⟨_,rfl⟩
  obtain ⟨e2,he⟩:∃ e,(YJ t i B.sells).1=e:=⟨_,rfl⟩
  have N:=Kj H
  have a5:=Kj he
  clear H he
  go_upto_region 4 with fail
  refine wAp 5 [pV p 0,pV p 0,pV p 2,iV t,iV i] [21,22,23,24,25] nZ ?_
  intro w6 k6
  simp only [F8]
  refine cT Tryz.func90 [.pointer (some ⟨p,2,none⟩),.int .i64 t,.int .i64 i] ?_
  refine (lremove_any w6 F p B 2 t i (ai.out.kept k6) (.inr rfl) (HI.out.ok 2)).mono ?_
  rintro r w7 ⟨F2,rfl,h2,g2,q2,n2⟩
  have es:B.sd 2=B.sells:=rfl
  rw [es] at h2 n2 ⊢
  rw [Bok.to2] at h2
  refine ⟨.tuple #[e2.v,.bool b],by rw [N.out,a5.out],?_⟩
  rw [N.out] at n2
  refine aT (e2.v) ?_
  refine aT (.bool b) ?_
  refine sO e2 ((I.out.kept k6).keep q2 U) ?_
  intro w8 al a7 hs8
  refine aT (.bool b) ?_
  simp only [Act.put,sA,sS,sZ]
  refine Kx ?_
  have HR:Hid (B.remove t i=(if b=true then (e2,true,{ B with sells:=(YJ t i B.sells).2.2 }) else (JV,false,B))):=by
   show _=_
   unfold Bok.remove
   rw [if_neg (by rw [HB.out];simp),N.out,a5.out]
  have z6:=k6.size
  have ab:¬ F2 b6:=fun h=>(g2 b6 h).elim U (fun h=>by omega)
  have KW:=(k0.trans kk).trans k6
  have GG:Grow w F F2:=g2.wide KW.size
  have k9:Keep F w w8:=(Keep.any KW q2).trans a7 (fun b H h=>by subst h;omega)
  have h9:=Kj (h2.keep a7 (fun b H h=>ab (by subst h;exact H)))
  have N2:=Kj n2
  have HK6:=Kj (HK.out.kept KW)
  have hk8':=a7
  clear h2 n2 q2 g2
  have hw:b=false→YJ t i B.sells=(JV,false,B.sells):=fun H=>by
   have h0:=N.out
   rw [H] at h0
   obtain ⟨a1,a2,_⟩:=(xY t i B.sells HI.out.two.theirs).no h0
   exact Prod.ext a2 (Prod.ext h0 a1)
  have HW:=Kj hw
  clear hw
  go_wp2
  refine bodyPost_ret (Qq (p:=6) (q:=7) rfl _ _ b6 _ e2.cells b rfl rfl al Tryz.underlying35 (by rw [Ord.len9];exact JU)) rfl ?_
  rw [HR.out]
  cases b with
  | true=>first | exact ⟨rfl,F2,h9.out,GG,k9⟩ | exact ⟨F2,rfl,h9.out,GG,k9⟩
  | false=>
   have h0:=HW.out rfl
   have aj:e2=JV:=by rw [← a5.out,h0]
   have a4:=h9.out
   rw [h0] at a4
   subst aj
   first | exact ⟨rfl,F2,a4,GG,k9⟩ | exact ⟨F2,rfl,a4,GG,k9⟩
end Go.Proofs.YtklohceombpleaaGreat
