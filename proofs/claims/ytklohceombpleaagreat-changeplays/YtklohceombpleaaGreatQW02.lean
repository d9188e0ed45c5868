/-
 Laws and contracts that the walks rest on, part 2. No condition.
-/
import Derived.Test.YtklohceombpleaaGreatQW01
set_option linter.unusedVariables false
set_option maxRecDepth 100000
set_option maxHeartbeats 1600000
namespace Go.Proofs.YtklohceombpleaaGreat
open Go.RowKit Go.ChangeShapes Go.WideShapes Go.ChangeAt
structure Pq where
 k:Int
 a:Int
 b:Int
 c:Int
 n:Kq
 raw:Ord
instance:Inhabited Pq:=⟨⟨0,0,0,0,default,JV⟩⟩
theorem ints_cells {n:Nat} {cs:List Value} (hl:cs.length=n) (J:∀ i,i<n→∃ a:Int,cs[i]?=some (.int .i64 a)∧(Lit.int .i64 a).wf=true):∃ l:List Int,cs=stc l []∧l.length=n∧∀ y ∈ l,(Lit.int .i64 y).wf=true:=by
 refine ⟨cs.map intOf,?_,by simp;omega,?_⟩
 ·unfold stc
  rw [show cells8 []=[] from rfl,List.append_nil]
  apply List.ext_getElem?
  intro i
  by_cases hin:i<n
  ·obtain ⟨a,e,_⟩:=J i hin
   simp [i64s,e,intOf]
  rw [List.getElem?_eq_none (by omega),List.getElem?_eq_none (by rw [i64s_len];simp;omega)]
 intro y I
 simp only [List.mem_map] at I
 obtain ⟨u,H,rfl⟩:=I
 obtain ⟨i,j,D⟩:=List.getElem_of_mem H
 obtain ⟨a,e,N⟩:=J i (by omega)
 have:u=.int .i64 a:=by
  rw [List.getElem?_eq_getElem j,D] at e
  injection e
 rw [this]
 exact N
theorem stc_at {l:List Int} {i:Nat} (j:i<l.length):∃ a:Int,(stc l [])[i]?=some (.int .i64 a)∧a ∈ l:=by
 refine ⟨l[i],?_,List.getElem_mem j⟩
 unfold stc
 rw [show cells8 []=[] from rfl,List.append_nil]
 simp [i64s,j]
structure Cq where
 k:Int
 a:Int
 b:Int
 c:Int
 d:Int
 n:Kq
instance:Inhabited Cq:=⟨⟨0,0,0,0,0,default⟩⟩
def Cq.l (q:Cq):List Int:=[q.k,q.a,q.b,q.c,q.d]++q.n.l
def Cq.cells (q:Cq):List Value:=stc q.l []
def Cq.v (q:Cq):Value:=.agg q.cells.toArray
theorem Cq.len12 (q:Cq):q.cells.length=12:=by unfold Cq.cells;rw [stc_len];rfl
theorem Cq.one (q:Cq):∀ u ∈ q.cells,u.oneCell'=true:=stc_one _ _
def zeroCq:Cq:=⟨0,0,0,0,0,zeroK⟩
theorem slCq:SlT 22 30 12 96:=⟨Tryz.underlying22,by kernel_rfl,⟨zeroCq.v,by kernel_rfl,rfl,by intro u j;exact zeroCq.one u (by simpa [Cq.v,Value.cells] using j)⟩,by omega⟩
theorem zCq:(Tryz.prog.info? 30).map (·.zero)=some (some (.agg zeroCq.cells.toArray)):=by kernel_rfl
theorem szCq:(Tryz.prog.info? 30).map (·.size)=some 12:=by kernel_rfl
theorem cq_n {w:World} {g off:Nat} {q:Cq} (h:w.rangeAt g off q.cells):w.rangeAt g (off+5) q.n.cells:=qX (xz h 5) 7
def Cq.wf (q:Cq):Prop:=∀ y ∈ q.l,(Lit.int .i64 y).wf=true
abbrev Cqs (W:World) (v:Value) (l:List Cq):Prop:=Args 12 Cq.cells Cq.wf W v l
def cqB (P:Program) (t:TypeId):Bool:=match P.underlying t with
 | some (.struct fs)=>P.cellsOf t == 12 && ((List.range 5).all fun i=>match fs[i]? with
   | some f=>f.offset == i && P.cellsOf f.type == 1 && (match P.underlying f.type with | some (.int .i64)=>true | _=>false)
   | none=>false)
  && (match fs[5]? with | some f=>f.offset == 5 && P.cellsOf f.type == 7 && intsB P f.type 7 | none=>false)
 | _=>false
theorem sh_cq {H:Type} {enc:TypeId × Value→H} {W:World} (a2:Nat) (cs:List Value) (x:DataW H × List MemPlace) (h:DataW.trod enc Tryz.prog W 0 (fun _=>true) true a2 30 cs=some x):∃ q:Cq,cs=q.cells∧q.wf:=by
 have U:cqB Tryz.prog 30=true:=by kernel_rfl
 unfold cqB at U
 cases hu:Tryz.prog.underlying 30 with
 | none=>rw [hu] at U;cases U
 | some d=>
  rw [hu] at U
  cases d <;> try (cases U;done)
  rename_i fs
  simp only [Bool.and_eq_true,beq_iff_eq,List.all_eq_true,List.mem_range] at U
  obtain ⟨⟨D,O⟩,a3⟩:=U
  obtain ⟨ys,m,_,_,N,hyl,hf⟩:=DataW.trod_struct hu h
  rw [D] at N
  have a1:∀ (j off c:Nat),(match fs[j]? with | some f=>f.offset == off && Tryz.prog.cellsOf f.type == c && intsB Tryz.prog f.type c | none=>false)=true→off+c≤12→∀ i,i<c→∃ a:Int,cs[off+i]?=some (.int .i64 a)∧(Lit.int .i64 a).wf=true:=by
   intro j off c hj hoc i a7
   cases J:fs[j]? with
   | none=>rw [J] at hj;cases hj
   | some f=>
    rw [J] at hj
    simp only [Bool.and_eq_true,beq_iff_eq] at hj
    obtain ⟨⟨ho,hc⟩,hb⟩:=hj
    have g:=hf j f J
    have a4:j<ys.length:=by
     have:=(Array.getElem?_eq_some_iff.1 J).1
     omega
    rw [ho,hc,List.getElem?_eq_getElem a4] at g
    obtain ⟨l,e,hl,hw⟩:=sh_ints c hb _ _ _ g
    obtain ⟨a,ha,hm⟩:=stc_at (l:=l) (i:=i) (by omega)
    refine ⟨a,?_,hw a hm⟩
    rw [← e,List.getElem?_take,if_pos a7,List.getElem?_drop] at ha
    exact ha
  have hi:∀ i,i<12→∃ a:Int,cs[i]?=some (.int .i64 a)∧(Lit.int .i64 a).wf=true:=by
   intro i hin
   by_cases h4:i<5
   ·have h1:=O i h4
    cases I:fs[i]? with
    | none=>rw [I] at h1;cases h1
    | some f=>
     rw [I] at h1
     simp only [Bool.and_eq_true,beq_iff_eq] at h1
     obtain ⟨⟨ho,hc⟩,hk⟩:=h1
     have a6:Tryz.prog.underlying f.type=some (.int .i64):=by
      cases hq:Tryz.prog.underlying f.type with
      | none=>rw [hq] at hk;cases hk
      | some d=>
       rw [hq] at hk
       cases d <;> try (cases hk;done)
       rename_i k
       cases k <;> first | rfl | (cases hk;done)
     have g:=hf i f I
     have a5:i<ys.length:=by
      have:=(Array.getElem?_eq_some_iff.1 I).1
      omega
     rw [ho,hc,List.getElem?_eq_getElem a5] at g
     obtain ⟨a,e,_,wa⟩:=DataW.trod_int a6 g
     refine ⟨a,?_,wa⟩
     have:=congrArg (·[0]?) e
     simpa [List.getElem?_take,List.getElem?_drop] using this
   have:=a1 5 5 7 a3 (by omega) (i-5) (by omega)
   rwa [show 5+(i-5)=i by omega] at this
  obtain ⟨l,rfl,hl,hw⟩:=ints_cells N hi
  match l,hl with
  | [x0,x1,x2,x3,x4,x5,x6,x7,x8,x9,x10,x11],_=>exact ⟨⟨x0,x1,x2,x3,x4,⟨x5,x6,x7,x8,x9,x10,x11⟩⟩,rfl,hw⟩
theorem open_cqs {H:Type} {enc:TypeId × Value→H} {W:World} {j:Nat} {v:Value} {d:DataW H} {p:List MemPlace} (D:Value.okWide Tryz.prog W .any j 22 v)
  (h:DataW.Trod enc Tryz.prog W 0 (fun _=>true) true 22 v d p):∃ l,Cqs W v l:=open_args 12 Cq.cells Cq.wf Tryz.underlying22 (by kernel_rfl) (by omega) sh_cq D h
open Go.RowKit
def WU (firm:Int) (X:List Ent):Nat:=X.findIdx fun e=>decide (e.o.firm=firm)
def Yy (firm:Int) (X:List Ent):Int × Bool:=if WU firm X<X.length then (Jj (X.take (WU firm X)),true) else (XX X,false)
def WW (o:Ord):List Lev→Int
 | []=>0
 | l::R=>if o.crosses l.1=true then (if (Yy o.firm l.2).2=true then (Yy o.firm l.2).1 else (Yy o.firm l.2).1+WW o R) else 0
theorem own_here {firm:Int} {e:Ent} {R:List Ent} (h:e.o.firm=firm):WU firm (e::R)=0:=by simp [WU,List.findIdx_cons,h]
theorem own_next {firm:Int} {e:Ent} {R:List Ent} (h:e.o.firm≠firm):WU firm (e::R)=WU firm R+1:=by simp [WU,List.findIdx_cons,h]
theorem own_snoc {firm:Int} {R:List Ent} {x:Ent} (h:WU firm R<R.length):WU firm (R++[x])=WU firm R:=by
 unfold WU at *
 rw [List.findIdx_append,if_pos h]
theorem own_snoc' {firm:Int} {R:List Ent} {x:Ent} (h:¬ WU firm R<R.length) (hx:x.o.firm≠firm):¬ WU firm (R++[x])<(R++[x]).length:=by
 unfold WU at *
 rw [List.findIdx_append,if_neg h]
 simp [List.findIdx_cons,hx]
 omega
theorem take_reach (firm:Int):∀ (k:Nat) (q:Int) (X:List Ent),q.toNat≤k→0≤q→Good X →
  ((takeM firm q X).2.1=true→(Yy firm X).2=true∧Jj (takeM firm q X).1=(Yy firm X).1∧(Yy firm X).1<q) ∧
  ((takeM firm q X).2.1=false→Jj (takeM firm q X).1=q∧q≤(Yy firm X).1∨(takeM firm q X).2.2=[]∧(Yy firm X).2=false∧Jj (takeM firm q X).1=(Yy firm X).1):=by
 intro k
 induction k with
 | zero=>
  intro q X hk hq j
  rw [UX firm q X (by omega)]
  refine ⟨by simp,fun _=>.inl ⟨by simp [Jj,Wx];omega,?_⟩⟩
  have O:=YW j.ok
  have h2:=YW (X:=X.take (WU firm X)) (fun x hx=>j.ok x (List.mem_of_mem_take hx))
  unfold Yy
  split <;> simp only <;> omega
 | succ k ih=>
  intro q X hk hq0 j
  by_cases hq:q≤0
  ·rw [UX firm q X hq]
   refine ⟨by simp,fun _=>.inl ⟨by simp [Jj,Wx];omega,?_⟩⟩
   have O:=YW j.ok
   have h2:=YW (X:=X.take (WU firm X)) (fun x hx=>j.ok x (List.mem_of_mem_take hx))
   unfold Yy
   split <;> simp only <;> omega
  cases X with
  | nil=>rw [zJ];exact ⟨by simp,fun _=>.inr ⟨rfl,rfl,rfl⟩⟩
  | cons e R=>
   have hb:=j.bound (e:=e) (by simp)
   by_cases hf:e.o.firm=firm
   ·rw [JQJ firm q e R (by omega) (by omega) hf]
    have D:Yy firm (e::R)=(0,true):=by
     unfold Yy
     rw [own_here hf,if_pos (by simp)]
     rfl
    rw [D]
    exact ⟨fun _=>⟨rfl,rfl,by simp only;omega⟩,by simp⟩
   rw [JJq firm q e R (by omega) (by omega) hf]
   have O:=mn_le q e.n
   have h2:=mn_pos q e.n (by omega) (by omega)
   have hg:=zQ j (n:=mn q e.n) (by omega) O.2
   obtain ⟨i1,i2⟩:=ih (q-mn q e.n) (Yx e (mn q e.n) R) (by omega) (by omega) hg
   have hn:(Yy firm (Yx e (mn q e.n) R)).2=(Yy firm (e::R)).2∧(Yy firm (Yx e (mn q e.n) R)).1=(Yy firm (e::R)).1-mn q e.n∨mn q e.n=q∧q≤(Yy firm (e::R)).1:=by
    have hw:=yQ e (mn q e.n) R
    have hs:∀ n:Int,(e.sub n).o.firm≠firm:=fun n=>hf
    have I:∀ n:Int,(Ent.of (e.sub n).o).o.firm≠firm:=fun n=>hf
    by_cases hr:WU firm R<R.length
    ·have D:Yy firm (e::R)=(e.n+Jj (R.take (WU firm R)),true):=by
      unfold Yy
      rw [own_next hf,if_pos (by simp only [List.length_cons];omega)]
      rfl
     have N:Yy firm R=(Jj (R.take (WU firm R)),true):=by unfold Yy;rw [if_pos hr]
     rw [D]
     have hge:=YW (X:=R.take (WU firm R)) (fun x hx=>j.ok x (by simp [List.mem_of_mem_take hx]))
     unfold Yx
     split
     ·left
      rw [N]
      refine ⟨rfl,?_⟩
      simp only
      omega
     split
     ·left
      unfold Yy
      rw [own_snoc hr,if_pos (by simp only [List.length_append];omega),List.take_append_of_le_length (by omega)]
      refine ⟨rfl,?_⟩
      simp only
      omega
     left
     unfold Yy
     rw [own_next (hs _),if_pos (by simp only [List.length_cons];omega)]
     refine ⟨rfl,?_⟩
     rw [List.take_succ_cons,Vx]
     simp only [Ent.sub]
     omega
    have D:Yy firm (e::R)=(XX (e::R),false):=by
     unfold Yy
     rw [own_next hf,if_neg (by simp only [List.length_cons];omega)]
    have N:Yy firm (Yx e (mn q e.n) R)=(XX (Yx e (mn q e.n) R),false):=by
     unfold Yy
     rw [if_neg]
     unfold Yx
     split
     ·exact hr
     split
     ·exact own_snoc' hr (I _)
     rw [own_next (hs _)]
     simp only [List.length_cons]
     omega
    left
    rw [D,N,hw,Vz]
    refine ⟨rfl,?_⟩
    simp only
    omega
   rcases hn with ⟨n1,J⟩ | ⟨n1,J⟩
   ·rw [n1,J] at i1 i2
    refine ⟨fun h=>?_,fun h=>?_⟩
    ·obtain ⟨H,U,q3⟩:=i1 h
     refine ⟨H,?_,by omega⟩
     simp only [Vx]
     omega
    rcases i2 h with ⟨H,U⟩ | ⟨H,U,q3⟩
    ·left
     simp only [Vx]
     omega
    right
    refine ⟨H,U,?_⟩
    simp only [Vx]
    omega
   have hz:q-mn q e.n=0:=by omega
   rw [hz,UX firm 0 _ (by omega)]
   refine ⟨by simp,fun _=>.inl ⟨?_,J⟩⟩
   simp only [Vx]
   simp [Jj,Wx]
   omega
theorem gives_nn {s:Int} (o:Ord):∀ (L:List Lev),Sid s L→0≤WW o L
 | [],_=>by simp [WW]
 | l::R,hL=>by
  have ih:=gives_nn o R hL.tail
  obtain ⟨j,hy⟩:=hL.good (l:=l) (by simp)
  have hw:=YW j.ok
  have hge:=YW (X:=l.2.take (WU o.firm l.2)) (fun x hx=>j.ok x (List.mem_of_mem_take hx))
  rw [WW]
  unfold Yy
  repeat' split
  all_goals first | omega | (simp only at *;omega)
theorem gives_left {s:Int} (o:Ord):∀ (L:List Lev) (no q:Int),0≤q→Sid s L→((Yq o no q L).left≤0↔q≤WW o L)
 | [],no,q,hq,hL=>by simp [Yq,WW]
 | l::R,no,q,hq,hL=>by
  rw [Yq,WW]
  obtain ⟨D,hy⟩:=hL.good (l:=l) (by simp)
  obtain ⟨t1,t2,t3,t4,U⟩:=takeM_facts o.firm _ q l.2 (Nat.le_refl _) D
  obtain ⟨u1,u2,u3⟩:=takeM_end o.firm _ q l.2 (Nat.le_refl _) hq D hy
  obtain ⟨r1,O⟩:=take_reach o.firm _ q l.2 (Nat.le_refl _) hq D
  have hw:=YW D.ok
  have hge:=YW (X:=l.2.take (WU o.firm l.2)) (fun x hx=>D.ok x (List.mem_of_mem_take hx))
  have hr0:0≤(Yy o.firm l.2).1:=by unfold Yy;split <;> simp only <;> omega
  have hgn:0≤WW o R:=gives_nn o R hL.tail
  by_cases hc:o.crosses l.1=true
  ·rw [if_pos hc]
   by_cases hq0:0<q
   ·rw [if_pos ⟨hq0,hc⟩]
    have ih:=gives_left (s:=s) o R (no+((takeM o.firm q l.2).1.length:Int)) (q-Jj (takeM o.firm q l.2).1) (by have:=U hq;omega) hL.tail
    generalize takeM o.firm q l.2=t at *
    obtain ⟨H,b,X⟩:=t
    simp only at *
    by_cases he:X.isEmpty=true
    ·rw [if_pos he]
     have J:X=[]:=by simpa using he
     subst J
     have hb:b=false:=by
      cases b with
      | false=>rfl
      | true=>obtain ⟨e,E,j,_⟩:=u2 rfl;cases j
     subst hb
     simp only
     rw [ih]
     rcases O rfl with ⟨j,I⟩ | ⟨_,I,N⟩
     ·have:q-Jj H=0:=by omega
      rw [this]
      split <;> constructor <;> intro _ <;> omega
     rw [if_neg (by rw [I];simp)]
     constructor <;> intro _ <;> omega
    rw [if_neg he]
    simp only
    cases b with
    | true=>
     obtain ⟨j,I,N⟩:=r1 rfl
     rw [if_pos j]
     constructor <;> intro _ <;> omega
    | false=>
     rcases O rfl with ⟨j,I⟩ | ⟨j,I,N⟩
     ·split <;> constructor <;> intro _ <;> omega
     rw [j] at he;exact absurd rfl he
   rw [if_neg (fun h=>hq0 h.1)]
   simp only
   split <;> constructor <;> intro _ <;> omega
  rw [if_neg hc,if_neg (fun h=>hc h.2)]
theorem gives_le {s:Int} (o:Ord):∀ (L:List Lev),Sid s L→0≤WW o L∧WW o L≤yJ L
 | [],_=>by simp [WW,yJ,XX,Wx,YZ]
 | l::R,hL=>by
  have ih:=gives_le o R hL.tail
  obtain ⟨j,hy⟩:=hL.good (l:=l) (by simp)
  have hw:=YW j.ok
  have h1:=YW (X:=l.2.take (WU o.firm l.2)) (fun x hx=>j.ok x (List.mem_of_mem_take hx))
  have h2:=YW (X:=l.2.drop (WU o.firm l.2)) (fun x hx=>j.ok x (List.mem_of_mem_drop hx))
  have h3:XX l.2=XX (l.2.take (WU o.firm l.2))+XX (l.2.drop (WU o.firm l.2)):=by rw [← Uj,List.take_append_drop]
  rw [WW,Uz]
  unfold Yy
  repeat' split
  all_goals first | omega | (simp only at *;omega)
theorem wholeL_le {s:Int} {L:List Lev} (h:Sid s L):0≤yJ L∧yJ L≤67108864:=by
 unfold yJ
 have D:∀ e ∈ YZ L,e.ok∧e.o.qty≤1048576:=fun e j=>by
  unfold YZ at j
  obtain ⟨l,H,j⟩:=List.mem_flatMap.1 j
  have:=h.at_ l H e j
  exact ⟨⟨this.pos,this.le⟩,this.few⟩
 have h2:=YW (fun e j=>(D e j).1)
 have I:∀ X:List Ent,(∀ e ∈ X,e.o.qty≤1048576)→XX X≤1048576*X.length:=fun X=>by
  induction X with
  | nil=>intro _;simp [XX,Wx]
  | cons e X ih=>
   intro h
   have q1:=ih (fun x hx=>h x (by simp [hx]))
   have q2:=h e (by simp)
   rw [Vz]
   simp only [List.length_cons]
   omega
 have h4:=I _ (fun e j=>(D e j).2)
 have:=h.few
 omega
end Go.Proofs.YtklohceombpleaaGreat
namespace Go.Proofs.YtklohceombpleaaGreat
open Go.RowKit
variable {pr:Int}
theorem shown_any (c:Ord) (w:World):Gives 123 #[c.v] w (.eq (.int .i64 c.tip)):=by
 refine QW ?_
 go_enter Tryz.func123,Tryz.ntmps123
 go_upto_region 0 with fail
 refine tAp 2 [.k (.fresh w.heap.size 35 (c.cells)),iK 0] (nS 0 (nV rfl (fun a u E D hk=>⟨_,_,XV 35 _ (c.cells) rfl (eE E),⟨_,rfl,hk.size,Blk.new u _ _⟩,((Keep.refl _ u).alloc _)⟩)) nZ) ?_
 intro gv w1 O k1
 rw [dq 2 [1,2]]
 simp only [Fz7]
 have I:(.fresh w.heap.size 35 (c.cells):Kn).p (gv 1) w1:=O 0 1 (by kernel_rfl)
 generalize gv 1=v1 at I ⊢
 rw [gQ O 1 2 (.int .i64 0)]
 clear O
 obtain ⟨g,rfl,hg,hB⟩:=I
 refine Kx ?_
 have H:=Kj (JX hB)
 clear hB
 by_cases hs:0<c.shw
 ·have U:Hid (c.tip=mn c.shw c.qty):=by show _=_;unfold Ord.tip;rw [if_pos hs]
  go_upto_region 1 with fail
  refine wA 3 [pV g 7,iV c.shw,bV true] [3,4,5] (nS 1 (ldR H.out 7) (nS 2 (aV rfl (fun a u E D hk=>QZ rfl (dD D 1) rfl) (Ky hs)) nZ)) ?_
  intro w2 J
  simp only [F8]
  have j:=Kj (JJ H.out J)
  clear H hs
  go_upto_region 2 with fail
  refine wA 6 [pV g 7,iV c.shw,pV g 6,iV c.qty,iV (mn (c.shw) (c.qty)),iV (mn (c.shw) (c.qty))] [6,7,8,9,10,2] (nS 1 (ldR j.out 7) (nS 3 (ldR j.out 6) (nS 4 (sV rfl (fun a u E D hk=>jW _ _ _ (c.shw) (c.qty) (mn (c.shw) (c.qty)) rfl (dD D 1) (dD D 3) rfl)) nZ))) ?_
  intro w3 N
  simp only [F8]
  go_wp2
  go_ret
  exact ⟨by rw [U.out];rfl,(k1.trans J).trans N⟩
 have U:Hid (c.tip=c.qty):=by show _=_;unfold Ord.tip;rw [if_neg hs]
 go_upto_region 1 with fail
 refine wA 3 [pV g 7,iV c.shw,bV false] [3,4,5] (nS 1 (ldR H.out 7) (nS 2 (aV rfl (fun a u E D hk=>QZ rfl (dD D 1) rfl) (Ku hs)) nZ)) ?_
 intro w2 J
 simp only [F8]
 have j:=Kj (JJ H.out J)
 clear H hs
 go_upto_region 3 with fail
 refine wA 3 [pV g 6,iV c.qty,iV c.qty] [11,12,2] (nS 1 (ldR j.out 6) nZ) ?_
 intro w3 N
 simp only [F8]
 go_wp2
 go_ret
 exact ⟨by rw [U.out];rfl,(k1.trans J).trans N⟩
theorem tip_any (c:Ord) (w:World):Gives 99 #[c.v] w (.eq (.int .i64 c.tip)):=by
 refine QW ?_
 go_enter Tryz.func99,Tryz.ntmps99
 go_upto_region 0 with fail
 refine tAp 2 [.k (.fresh w.heap.size 35 (c.cells)),iK 0] (nS 0 (nV rfl (fun a u E D hk=>⟨_,_,XV 35 _ (c.cells) rfl (eE E),⟨_,rfl,hk.size,Blk.new u _ _⟩,((Keep.refl _ u).alloc _)⟩)) nZ) ?_
 intro gv w1 O k1
 rw [dq 2 [1,2]]
 simp only [Fz7]
 have I:(.fresh w.heap.size 35 (c.cells):Kn).p (gv 1) w1:=O 0 1 (by kernel_rfl)
 generalize gv 1=v1 at I ⊢
 rw [gQ O 1 2 (.int .i64 0)]
 clear O
 obtain ⟨g,rfl,hg,hB⟩:=I
 refine Kx ?_
 have H:=Kj (JX hB)
 clear hB
 by_cases hs:0<c.shw
 ·have U:Hid (c.tip=mn c.shw c.qty):=by show _=_;unfold Ord.tip;rw [if_pos hs]
  go_upto_region 1 with fail
  refine wA 3 [pV g 7,iV c.shw,bV true] [3,4,5] (nS 1 (ldR H.out 7) (nS 2 (aV rfl (fun a u E D hk=>QZ rfl (dD D 1) rfl) (Ky hs)) nZ)) ?_
  intro w2 J
  simp only [F8]
  have j:=Kj (JJ H.out J)
  clear H hs
  go_upto_region 2 with fail
  refine wA 6 [pV g 7,iV c.shw,pV g 6,iV c.qty,iV (mn (c.shw) (c.qty)),iV (mn (c.shw) (c.qty))] [6,7,8,9,10,2] (nS 1 (ldR j.out 7) (nS 3 (ldR j.out 6) (nS 4 (sV rfl (fun a u E D hk=>jW _ _ _ (c.shw) (c.qty) (mn (c.shw) (c.qty)) rfl (dD D 1) (dD D 3) rfl)) nZ))) ?_
  intro w3 N
  simp only [F8]
  go_wp2
  go_ret
  exact ⟨by rw [U.out];rfl,(k1.trans J).trans N⟩
 have U:Hid (c.tip=c.qty):=by show _=_;unfold Ord.tip;rw [if_neg hs]
 go_upto_region 1 with fail
 refine wA 3 [pV g 7,iV c.shw,bV false] [3,4,5] (nS 1 (ldR H.out 7) (nS 2 (aV rfl (fun a u E D hk=>QZ rfl (dD D 1) rfl) (Ku hs)) nZ)) ?_
 intro w2 J
 simp only [F8]
 have j:=Kj (JJ H.out J)
 clear H hs
 go_upto_region 3 with fail
 refine wA 3 [pV g 6,iV c.qty,iV c.qty] [11,12,2] (nS 1 (ldR j.out 6) nZ) ?_
 intro w3 N
 simp only [F8]
 go_wp2
 go_ret
 exact ⟨by rw [U.out];rfl,(k1.trans J).trans N⟩
theorem lnew_any (pr:Int) (w:World):Calls Tryz.prog 122 #[.int .i64 pr] w fun e w'=>∃ p F,e=.returned (.pointer (some ⟨p,0,none⟩))∧Lvl pr 123 120 w' F p []∧Grow w (fun _=>False) F∧Kept w w':=by
 go_enter Tryz.func122,Tryz.ntmps122
 go_upto_region 1 with fail
 refine tAp 3 [iK pr,.v (.agg (lv0 pr).toArray),.k (.fresh w.heap.size 123 (lv0 pr))] (nS 1 (sV rfl (fun a u E D hk=>exec_blvl pr _ rfl (dD D 0))) (nS 2 (nV rfl (fun a u E D hk=>⟨_,_,XV 123 _ (lv0 pr) rfl (dD D 1),⟨_,rfl,hk.size,Blk.new u _ _⟩,((Keep.refl _ u).alloc _)⟩)) nZ)) ?_
 intro gv O I N
 rw [dq 3 [3,4,5]]
 simp only [Fz7]
 have j:(.fresh w.heap.size 123 (lv0 pr):Kn).p (gv 5) O:=I 2 5 (by kernel_rfl)
 generalize gv 5=v5 at j ⊢
 clear I
 obtain ⟨g,rfl,hg,J⟩:=j
 refine aT (.pointer (some ⟨g,0,none⟩)) ?_
 simp only [Act.put,sA,sS,sZ]
 refine Kx ?_
 go_wp2
 go_ret
 refine ⟨g,(·=g),rfl,⟨rfl,fun b H=>by subst H;exact J.lt,_,J,Sl.nil _ _ _,fun b H=>by simp [Value.ownBlock] at H⟩,fun b H=>.inr (by omega),N⟩
theorem yz (w:World) (F:Nat→Prop) (p:Nat) (X:List Ent) (h:Lvl pr 123 120 w F p X):Gives 109 #[.pointer (some ⟨p,0,none⟩)] w (.eq (.int .i64 pr)):=by
 refine QW ?_
 obtain ⟨h1,h2,v,j,H,J⟩:=h
 have N:=Kj j
 have HS:=Kj H
 clear j H J
 go_enter Tryz.func109,Tryz.ntmps109
 go_upto_region 1 with fail
 refine wA 5 [pV p 0,pV p 0,pV p 0,iV pr,iV pr] [3,4,5,6,2] (nS 3 (sV rfl (fun a u E D hk=>JZ _ Tryz.underlying3 _ _ _ rfl (dD D 2) (by rw [(N.out.kept hk).cell];rfl))) nZ) ?_
 intro w1 I
 simp only [F8]
 go_wp2
 go_ret
 exact ⟨rfl,I⟩
theorem len_any (w:World) (F:Nat→Prop) (p:Nat) (X:List Ent) (h:Lvl pr 123 120 w F p X):Gives 115 #[.pointer (some ⟨p,0,none⟩)] w (.eq (.int .i64 (X.length:Int))):=by
 refine QW ?_
 obtain ⟨h1,h2,v,j,H,J⟩:=h
 have O:=Kj j
 have N:=Kj H
 clear j H J
 go_enter Tryz.func115,Tryz.ntmps115
 go_upto_region 1 with fail
 refine wA 6 [pV p 0,pV p 0,pV p 1,v,iV (X.length:Int),iV (X.length:Int)] [3,4,5,6,7,2] (nS 3 (sV rfl (fun a u E D hk=>Qx _ _ Tryz.underlying121 _ _ _ rfl (dD D 2) (by rw [(O.out.kept hk).cell];rfl))) (nS 4 (sV rfl (fun a u E D hk=>Jx _ slE _ _ _ _ rfl (dD D 3) N.out)) nZ)) ?_
 intro w1 I
 simp only [F8]
 go_wp2
 go_ret
 exact ⟨rfl,I⟩
theorem add_any (w:World) (F:Nat→Prop) (p:Nat) (X:List Ent) (c:Ord) (h:Lvl pr 123 120 w F p X) (hn:X.length≤100000000) :
  Calls Tryz.prog 111 #[.pointer (some ⟨p,0,none⟩),c.v] w fun e w'=>∃ F',e=.returned (.tuple #[])∧Lvl pr 123 120 w' F' p (X++[Ent.of c])∧Grow w F F'∧Keep F w w':=by
 obtain ⟨h1,h2,v,hB,hS,h5⟩:=h
 have HB:=Kj hB
 have HS:=Kj hS
 have H1:=Kj h1
 have H2:=Kj h2
 have H5:=Kj h5
 clear hB hS h5 h1 h2
 go_enter Tryz.func111,Tryz.ntmps111
 go_upto_region 0 with fail
 refine tAp 1 [.k (.fresh w.heap.size 35 (c.cells))] (nS 0 (nV rfl (fun a u E D hk=>⟨_,_,XV 35 _ (c.cells) rfl (eE E),⟨_,rfl,hk.size,Blk.new u _ _⟩,((Keep.refl _ u).alloc _)⟩)) nZ) ?_
 intro gv w0 hV k0
 rw [dq 1 [3]]
 simp only [Fz7]
 have a2:(.fresh w.heap.size 35 (c.cells):Kn).p (gv 3) w0:=hV 0 3 (by kernel_rfl)
 generalize gv 3=v3 at a2 ⊢
 clear hV
 obtain ⟨g,rfl,hg,hG⟩:=a2
 refine Kx ?_
 have HG:=Kj (JX hG)
 have H:=Kj (HB.out.kept k0)
 have a8:=Kj (HS.out.kept k0)
 clear hG
 go_upto_region 1 with fail
 refine JJZ 10 [.eq (.pointer (some ⟨p,0,none⟩)),.eq (.pointer (some ⟨p,0,none⟩)),.eq (.pointer (some ⟨p,0,none⟩)),.eq (.pointer (some ⟨p,1,none⟩)),.eq (v),.eq (c.v),.eq (c.v),.eq (.int .i64 c.tip),.eq ((Ent.mk c (c.tip)).v),.sl w0.heap.size 120 10 1 (Ent.mk c (c.tip)).cells] (.pointer (some ⟨p,0,none⟩)) ((fun v' u J=>Sl J 120 10 v' (X.length+1) (ents X++(Ent.mk c (c.tip)).cells)∧Keep (fun b=>v.ownBlock=some b) u J∧∀ b,v'.ownBlock=some b→v.ownBlock=some b∨w0.heap.size≤b)) (by kernel_rfl) rfl rfl (by kernel_rfl) (by kernel_rfl) (t_zero (d:=4) _ rfl rfl rfl (by kernel_rfl) (by kernel_rfl)) ?_ (fun a u hE hD hk=> (by obtain ⟨v',J,hr,a4,a6,a5⟩:=QQ slE _ u v (a.eval (.tmp 13)) X.length 1 (ents X) (Ent.mk c (c.tip)).cells (a8.out.kept hk) ((hD 9 13 (by kernel_rfl))).1 (Ent.one _) (by unfold maxLen;omega) (by omega);exact t_last (o:=⟨some 14,_,_,_,_,_⟩) (R:=(fun v' u J=>Sl J 120 10 v' (X.length+1) (ents X++(Ent.mk c (c.tip)).cells)∧Keep (fun b=>v.ownBlock=some b) u J∧∀ b,v'.ownBlock=some b→v.ownBlock=some b∨w0.heap.size≤b)) (m:=10) (v:=v') (w':=J) rfl (JQ rfl _) (QV slE (.tmp 8) (.tmp 13) v _ rfl (dD hD 4) rfl v' J hr) ⟨a4,a6,fun b j=>(a5 b j).imp id (fun h=>Kv hk.size h)⟩)) ?_
 ·refine mE 2 0 ?_
  refine nD 3 5 1 ?_
  refine fD 4 6 2 123 1 1 0 ?_
  refine sW 5 rfl (fun a u E D hk=>Qx _ _ Tryz.underlying121 _ _ _ rfl (dD D 3) (by rw [(H.out.kept hk).cell];rfl)) ?_
  refine sE 6 3 g 0 c.cells Tryz.underlying35 (fun u hk=>JJ HG.out hk) (by rw [c.len9];exact JU) ?_
  refine sE 7 3 g 0 c.cells Tryz.underlying35 (fun u hk=>JJ HG.out hk) (by rw [c.len9];exact JU) ?_
  refine cS 8 123 [c.v] rfl Tryz.func123 rfl (fun a u E D hk=>⟨ll (dD D 6) rfl,shown_any c u⟩) ?_
  refine sW 9 rfl (fun a u E D hk=>qW 120 builtE _ _ (c) (c.tip) rfl (dD D 5) (dD D 7)) ?_
  refine nW 10 rfl (fun a u E D hk=>⟨_,_,VJ slE _ (Ent.mk c (c.tip)).cells (by omega) rfl (dD D 8) ((Ent.mk c (c.tip)).len10),(jY u 120 10 _ w0.heap.size ((Ent.mk c (c.tip)).len10) (by omega) hk.size),((Keep.refl _ u).alloc _)⟩) ?_
  exact fz
 intro gv w1 w2 hV h0 hR U
 rw [dq 11 [4,5,6,7,8,9,10,11,12,13,14]]
 simp only [Fz7]
 have hT:=hR 14 (by kernel_rfl)
 generalize gv 14=v14 at hT ⊢
 rw [show gv 4=.pointer (some ⟨p,0,none⟩) from h0 4 (by kernel_rfl)]
 clear hV h0 hR
 obtain ⟨I,N,O⟩:=hT
 have a3:=(H.out.kept U).keep N (fun j=>(H5.out p j).2 rfl)
 have hsz:=N.size
 have hsz1:=U.size
 have hsz0:=k0.size
 refine aT (.pointer (some ⟨p,0,none⟩)) ?_
 refine aT (.pointer (some ⟨p,1,none⟩)) ?_
 refine ZJ 121 p 1 123 _ v14 _ _ rfl rfl (by kernel_rfl) (by kernel_rfl) (by kernel_rfl) (Zy I) (Xy I) a3 (by simp) ?_
 intro w3 a7 a1 hs3
 simp only [Act.put,sA,sS,sZ]
 refine Kx ?_
 go_wp2
 go_end0
 have a9:Keep F w w2:=((Keep.mono (T:=F) (k0.trans U) (fun _ _ h=>h.elim))).trans N (fun b _ j=>(H5.out b j).1)
 refine ⟨fun b=>F b∨v14.ownBlock=some b,rfl,⟨.inl H1.out,fun b j=>?_,v14,by simpa using a7,?_,fun b j=>⟨.inr j,fun e=>?_⟩⟩,fun b j=>?_,a9.trans a1 (fun b _ j=>by subst j;exact H1.out)⟩
 ·rcases j with j | j
  ·have:=H2.out b j;omega
  have:=I.lt j;omega
 ·rw [List.length_append,ents_snoc]
  refine I.keep a1 (fun b j e=>?_)
  subst e
  rcases O b j with h | h
  ·exact (H5.out b h).2 rfl
  have:=H.out.lt;omega
 ·subst e
  rcases O b j with h | h
  ·exact (H5.out b h).2 rfl
  have:=H.out.lt;omega
 rcases j with j | j
 ·exact .inl j
 rcases O b j with h | h
 ·exact .inl (H5.out b h).1
 exact .inr (by omega)
end Go.Proofs.YtklohceombpleaaGreat
namespace Go.Proofs.YtklohceombpleaaGreat
open Go.RowKit
variable {pr:Int}
theorem drop_any (w:World) (F:Nat→Prop) (p:Nat) (e:Ent) (R:List Ent) (h:Lvl pr 123 120 w F p (e::R)) :
  Calls Tryz.prog 128 #[.pointer (some ⟨p,0,none⟩)] w fun r w'=>r=.returned (.tuple #[])∧Lvl pr 123 120 w' F p R∧Keep F w w':=by
 obtain ⟨h1,h2,v,hB,hS,h5⟩:=h
 obtain ⟨v',j,H,O⟩:=jX slE v (R.length+1) 1 (by omega) _ w hS
 have I:Hid (Sl w 120 10 v' R.length (ents R)):=by
  have:=O w _ hS
  rw [show (ents (e::R)).drop (1*10)=ents R from Ux Ent.cells 10 Ent.len10 (e::R) 1] at this
  exact this
 have HB:=Kj hB
 have HR:=Kj j
 have H1:=Kj h1
 have H2:=Kj h2
 have H5:=Kj h5
 have HO:=Kj H
 clear hB hS h5 h1 h2 j O H
 go_enter Tryz.func128,Tryz.ntmps128
 go_upto_region 0 with fail
 refine wAp 8 [pV p 0,pV p 0,pV p 0,pV p 1,v,v',pV p 0,pV p 1] [2,3,4,5,6,7,8,9] (nS 4 (sV rfl (fun a u E D hk=>Qx _ _ Tryz.underlying121 _ _ _ rfl (dD D 3) (by rw [(HB.out.kept hk).cell];rfl))) (nS 5 (sV rfl (fun a u E D hk=>exec_slcS slE _ (some (.const (.int .i64 1))) none none v v' rfl (dD D 4) (HR.out u))) nZ)) ?_
 intro w1 U
 simp only [F8]
 refine ZJ 121 p 1 123 _ v' _ _ rfl rfl (by kernel_rfl) (by kernel_rfl) (by kernel_rfl) (Zy I.out) (Xy I.out) (HB.out.kept U) (by simp) ?_
 intro w3 a2 N hs3
 simp only [Act.put]
 refine Kx ?_
 go_wp2
 go_end0
 have hsz:=U.size
 have a1:Keep F w w3:=(Keep.mono (T:=F) U (fun _ _ h=>h.elim)).trans N (fun b _ J=>by subst J;exact H1.out)
 refine ⟨rfl,⟨H1.out,fun b J=>?_,v',by simpa using a2,?_,fun b J=>H5.out b (by rw [← HO.out];exact J)⟩,a1⟩
 ·have:=H2.out b J;omega
 refine (I.out.kept U).keep N (fun b J e=>?_)
 subst e
 exact (H5.out b (by rw [← HO.out];exact J)).2 rfl
theorem anew_any (w:World) (F:Nat→Prop) (p:Nat) (e:Ent) (R:List Ent) (h:Lvl pr 123 120 w F p (e::R)) (hn:R.length≤100000000) :
  Calls Tryz.prog 129 #[.pointer (some ⟨p,0,none⟩)] w fun r w'=>∃ F',r=.returned (.tuple #[])∧Lvl pr 123 120 w' F' p (R++[Ent.of e.o])∧Grow w F F'∧Keep F w w':=by
 have HL:=Kj h
 obtain ⟨h1,h2,v,hB,hS,h5⟩:=h
 obtain ⟨g,off,c,rfl⟩:=hS.some_ (by simp)
 have HR:Hid (w.rangeAt g off e.cells):=hS.rng 0 e rfl
 have HB:=Kj hB
 have H2:=Kj h2
 clear hB hS h5 h1 h2
 go_enter Tryz.func129,Tryz.ntmps129
 go_upto_region 0 with fail
 refine tAp 8 [pK p 0,pK p 0,pK p 1,.v (.slice (some ⟨g,off,none⟩) (R.length+1) c),pK g off,pK g off,.v (e.o.v),.k (.fresh w.heap.size 35 JV.cells)] (nS 3 (sV rfl (fun a u E D hk=>Qx _ _ Tryz.underlying121 _ _ _ rfl (dD D 2) (by rw [(HB.out.kept hk).cell];rfl))) (nS 4 (ixV slE (off) (R.length+1) 0 (0) ((by omega))) (nS 6 (ldS Tryz.underlying35 (fun u hk=>xX (JJ HR.out hk)) (by rw [e.o.len9];exact JU)) (nS 7 (nV rfl (fun a u E D hk=>⟨_,_,QX 35 JV.cells rfl zO,⟨_,rfl,hk.size,Blk.new u _ _⟩,((Keep.refl _ u).alloc _)⟩)) nZ)))) ?_
 intro gv w1 hV k1
 rw [dq 8 [3,4,5,6,7,8,9,2]]
 simp only [Fz7]
 have O:(.fresh w.heap.size 35 JV.cells:Kn).p (gv 2) w1:=hV 7 2 (by kernel_rfl)
 generalize gv 2=v2 at O ⊢
 rw [gQ hV 6 9 e.o.v]
 clear hV
 obtain ⟨b2,rfl,hb2,I⟩:=O
 refine sO e.o I ?_
 intro w2 a1 j a8
 simp only [Act.put]
 refine Kx ?_
 have H:Kept w w2:=k1.trans' j (by omega)
 have U:=Kj (HL.out.kept H)
 have J:=Kj (a1)
 clear HL HR HB I a1 j a8 k1
 go_upto_region 1 with fail
 refine wp_region_lit ?_
 refine aT (.pointer (some ⟨p,0,none⟩)) ?_
 refine cT Tryz.func128 [.pointer (some ⟨p,0,none⟩)] ?_
 refine (drop_any w2 F p e R U.out).mono ?_
 rintro r w3 ⟨rfl,N,j⟩
 refine ⟨_,rfl,?_⟩
 simp only [Act.put,sA,sS,sZ]
 refine Kx ?_
 have a4:¬ F b2:=fun hb=>by have:=H2.out b2 hb;omega
 have a6:=Kj (JX (J.out.keep j a4))
 have a2:=Kj N
 clear N U J
 go_upto_region 2 with fail
 refine wAp 2 [pV p 0,e.o.v] [12,13] (nS 1 (ldO a6.out) nZ) ?_
 intro w4 k4
 simp only [F8]
 refine cT Tryz.func111 [.pointer (some ⟨p,0,none⟩),e.o.v] ?_
 refine (add_any w4 F p R e.o (a2.out.kept k4) hn).mono ?_
 rintro r w5 ⟨F',rfl,a5,a3,a7⟩
 refine ⟨_,rfl,?_⟩
 simp only [Act.put,sA,sS,sZ]
 refine Kx ?_
 go_wp2
 go_end0
 have s1:=H.size
 have s2:=j.size
 have s3:=k4.size
 refine ⟨F',rfl,a5,fun b hb=>(a3 b hb).imp id (fun h=>by omega),(((Keep.mono (T:=F) H (fun _ _ h=>h.elim)).trans j (fun _ _ h=>h)).kept k4).trans a7 (fun _ _ h=>h)⟩
def HitIn (pr:Int) (w:World) (F:Nat→Prop) (p:Nat) (e:Ent) (q:Int) (R:List Ent) (r:Ending) (w':World):Prop:=
 ∃ F',r=.returned (Ent.mk e.o (mn q e.n)).v∧Lvl pr 123 120 w' F' p (Yx e (mn q e.n) R)∧Grow w F F'∧Keep F w w'
theorem hit_all (w:World) (F:Nat→Prop) (p:Nat) (e:Ent) (q:Int) (R:List Ent) (h:Lvl pr 123 120 w F p (e::R)) (hX:Good (e::R)) (hq:0<q) (hc:e.o.qty-mn q e.n=0):Calls Tryz.prog 119 #[.pointer (some ⟨p,0,none⟩),.int .i64 q] w (HitIn pr w F p e q R):=by
 have j:=hX.bound (e:=e) (by simp)
 have hlen:R.length≤100000000:=by have:=hX.len;simp at this;omega
 have aO:=mn_le q e.n
 have aY:=mn_pos q e.n hq (by omega)
 have ar:Hid (∀ r w',(∃ F',r=.returned (Ent.mk e.o (mn q e.n)).v∧Lvl pr 123 120 w' F' p (Yx e (mn q e.n) R)∧Grow w F F'∧Keep F w w')→HitIn pr w F p e q R r w'):=fun r w' h=>h
 obtain ⟨n,hn⟩:∃ n,mn q e.n=n:=⟨_,rfl⟩
 rw [hn] at aO aY ar hc
 have HN:Hid ((if e.n<q then e.n else q)=n):=hn
 clear hn hX
 obtain ⟨h1,h2,v,hB,hS,h5⟩:=h
 obtain ⟨g,off,c,rfl⟩:=hS.some_ (by simp)
 have HR:Hid (w.rangeAt g off e.cells):=hS.rng 0 e rfl
 have HB:=Kj hB
 have HS:=Kj hS
 have H1:=Kj h1
 have H2:=Kj h2
 have H5:=Kj h5
 have aS:g≠p:=(h5 g rfl).2
 have ao:Hid (F g):=(h5 g rfl).1
 have hgl:g<w.heap.size:=h2 g ao.out
 have hpl:p<w.heap.size:=h2 p h1
 clear hB hS h5 h1 h2
 go_enter Tryz.func119,Tryz.ntmps119
 go_upto_region 0 with fail
 refine tAp 1 [.k (.fresh w.heap.size 85 XY.cells)] (nS 0 (nV rfl (fun a u E D hk=>⟨_,_,QX 85 XY.cells rfl zH,⟨_,rfl,hk.size,Blk.new u _ _⟩,((Keep.refl _ u).alloc _)⟩)) nZ) ?_
 intro gv w0 hV k0
 rw [dq 1 [4]]
 simp only [Fz7]
 have am:(.fresh w.heap.size 85 XY.cells:Kn).p (gv 4) w0:=hV 0 4 (by kernel_rfl)
 generalize gv 4=v4 at am ⊢
 clear hV
 obtain ⟨r,rfl,hr,af⟩:=am
 refine Kx ?_
 have s0:=k0.size
 have hrl:=af.lt
 have aw:=Kj (HB.out.kept k0)
 go_upto_region 1 with fail
 refine wA 6 [pV p 0,pV p 0,pV p 1,.slice (some ⟨g,off,none⟩) (R.length+1) c,pV g off,pV g off] [7,8,9,10,11,5] (nS 3 (sV rfl (fun a u E D hk=>Qx _ _ Tryz.underlying121 _ _ _ rfl (dD D 2) (by rw [(aw.out.kept hk).cell];rfl))) (nS 4 (ixV slE (off) (R.length+1) 0 (0) ((by omega))) nZ)) ?_
 intro w1 k1
 simp only [F8]
 have ac:=k0.trans k1
 have s1:=k1.size
 have U:=Kj (JJ HR.out ac)
 have au:=Kj (af.kept k1)
 clear HR aw af k0 k1
 go_upto_region 2 with fail
 refine tHp 12 [pK g off,pK g off,pK g off,.v (e.o.v),iK q,pK g off,pK g off,pK g (off+9),iK e.n,iK n,.v ((Ent.mk e.o (n)).v),.k (.fresh w1.heap.size 85 XY.cells)] (nS 3 (ldS Tryz.underlying35 (fun u hk=>xX (JJ U.out hk)) (by rw [e.o.len9];exact JU)) (nS 8 (ldR U.out 9) (nS 9 (sV rfl (fun a u E D hk=>jW _ _ _ q e.n n rfl (dD D 4) (dD D 8) HN.out)) (nS 10 (sV rfl (fun a u E D hk=>qW 85 builtH _ _ (e.o) (n) rfl (dD D 3) (dD D 9))) (nS 11 (nV rfl (fun a u E D hk=>⟨_,_,QX 85 XY.cells rfl zH,⟨_,rfl,hk.size,Blk.new u _ _⟩,((Keep.refl _ u).alloc _)⟩)) nZ))))) ?_
 intro gv w2 hV k2
 rw [dq 12 [12,13,14,15,16,17,18,19,20,21,22,6]]
 simp only [Fz7]
 have az:(.fresh w1.heap.size 85 XY.cells:Kn).p (gv 6) w2:=hV 11 6 (by kernel_rfl)
 generalize gv 6=v6 at az ⊢
 rw [gQ hV 10 22 ((Ent.mk e.o (n)).v)]
 clear hV
 obtain ⟨h6,rfl,hh6,aK⟩:=az
 refine YV 85 h6 85 XY.cells (Ent.mk e.o n).cells _ _ rfl rfl (by kernel_rfl) (by kernel_rfl) aK (by rw [Ent.len10];exact szH) (by rw [Ent.len10,Ent.len10]) (Ent.one _) ?_
 intro w3 J O aQ
 simp only [Act.put]
 refine Kx ?_
 have I:Kept w w3:=(ac.trans k2).trans' O (by omega)
 have s3:=I.size
 have h6l:=J.lt
 have s2:=k2.size
 have aC:=Kj (QJ (JJ U.out k2) O (by omega))
 have a3:=Kj ((au.out.kept k2).keep O (by omega))
 have ay:=Kj J
 have ag:=Kj (JX J)
 have an:=Kj (HS.out.kept I)
 have aD:=Kj (HB.out.kept I)
 clear U au HS HB aK J O k2 aQ
 clear ac
 go_upto_region 3 with fail
 refine wHp 11 [pV g off,pV g off,pV g off,pV g (off+6),iV e.o.qty,pV h6 9,iV ((Ent.mk e.o n).n),iV (e.o.qty-n),pV g off,pV g off,pV g (off+6)] [23,24,25,26,27,28,29,30,31,32,33] (nS 4 (ldR aC.out 6) (nS 6 (ldR ag.out 9) (nS 7 (sV rfl (fun a u E D hk=>Zz (e.o.qty-n) rfl (dD D 4) (dD D 6) rfl (by omega) (by omega))) nZ))) ?_
 intro w4 k4
 simp only [F8]
 refine l_rowi 120 g off (R.length+1) c 0 6 (e::R) e ⟨e.o.q (e.o.qty-n),e.n⟩ (e.o.qty-n) ⟨g,off+6,none⟩ _ _ rfl rfl (by kernel_rfl) (by kernel_rfl) rfl (an.out.kept k4) rfl rfl (by omega) rfl ?_
 intro w5 al aJ hs5
 simp only [Act.put]
 refine Kx ?_
 have s4:=k4.size
 have K5:Keep (·=g) w3 w5:=(Keep.mono (T:=(·=g)) k4 (fun _ _ h=>h.elim)).trans aJ (fun _ _ h=>h)
 have ad:Hid (Sl w5 120 10 (.slice (some ⟨g,off,none⟩) (R.length+1) c) (R.length+1) (ents (⟨e.o.q (e.o.qty-n),e.n⟩::R))):=al
 have aG:Hid (w5.rangeAt g off (Ent.mk (e.o.q (e.o.qty-n)) e.n).cells):=ad.out.rng 0 _ rfl
 have a1:=Kj (QJ ag.out K5 (by omega))
 clear al aJ k4 aC
 go_upto_region 4 with fail
 refine wHp 9 [pV g off,pV g off,pV g (off+9),iV ((Ent.mk (e.o.q (e.o.qty-n)) e.n).n),pV h6 9,iV ((Ent.mk e.o n).n),iV (e.n-n),pV g off,pV g (off+9)] [34,35,36,37,38,39,40,41,42] (nS 3 (ldR aG.out 9) (nS 5 (ldR a1.out 9) (nS 6 (sV rfl (fun a u E D hk=>Zz (e.n-n) rfl (dD D 3) (dD D 5) rfl (by omega) (by omega))) nZ))) ?_
 intro w6 k6
 simp only [F8]
 refine l_rowi 120 g off (R.length+1) c 0 9 (⟨e.o.q (e.o.qty-n),e.n⟩::R) ⟨e.o.q (e.o.qty-n),e.n⟩ (e.sub n) (e.n-n) ⟨g,off+9,none⟩ _ _ rfl rfl (by kernel_rfl) (by kernel_rfl) rfl (ad.out.kept k6) rfl rfl (by omega) rfl ?_
 intro w7 ai aM hs7
 simp only [Act.put]
 refine Kx ?_
 have s6:=k6.size
 have K7:Keep (·=g) w3 w7:=(K5.kept k6).trans aM (fun _ _ h=>h)
 have ah:Hid (Sl w7 120 10 (.slice (some ⟨g,off,none⟩) (R.length+1) c) (R.length+1) (ents (e.sub n::R))):=ai
 have ab:Hid (w7.rangeAt g off (e.sub n).cells):=ah.out.rng 0 _ rfl
 have aN:Hid (Lvl pr 123 120 w7 F p (e.sub n::R)):=⟨H1.out,fun b j=>by have:=H2.out b j;omega,_,aD.out.keep K7 (fun e=>aS e.symm),ah.out,H5.out⟩
 have aA:=Kj (ay.out.keep K7 (by omega))
 have a2:=Kj (a3.out.keep K7 (by omega))
 have aL:Keep F w w7:=(Keep.mono (T:=F) I (fun _ _ h=>h.elim)).trans K7 (fun b _ j=>by subst j;exact ao.out)
 clear ai aM k6 K5 ad aG a1 ag an aD ay a3 K7 ah I HN
 go_upto_region 5 with fail
 refine wA 6 [pV g off,pV g off,pV g off,pV g (off+6),iV ((e.sub n).o.qty),bV true] [43,44,45,46,47,48] (nS 4 (ldR ab.out 6) (nS 5 (aV rfl (fun a u E D hk=>JY rfl (dD D 4) rfl) (Ky hc)) nZ)) ?_
 intro w8 k8
 simp only [F8]
 have s8:=k8.size
 have aU:=Kj (JJ ab.out k8)
 have aF:=Kj (aN.out.kept k8)
 have ak:=Kj (aA.out.kept k8)
 have a5:=Kj (a2.out.kept k8)
 have aB:=aL.kept k8
 clear ab aN aA a2 aL k8
 have aE:=aF
 have aj:=ak
 have a8:=a5
 have av:=aB
 obtain ⟨w9,aR⟩:∃ w9,w9=w8:=⟨_,rfl⟩
 subst aR
 have s9:w9.heap.size≤w9.heap.size:=Nat.le_refl _
 clear aU aF ak a5 aB
 go_upto_region 6 with fail
 refine wp_region_lit ?_
 refine aT (.pointer (some ⟨p,0,none⟩)) ?_
 refine cT Tryz.func128 [.pointer (some ⟨p,0,none⟩)] ?_
 refine (drop_any w9 F p (e.sub n) R aE.out).mono ?_
 rintro r0 aW ⟨rfl,a6,H⟩
 refine ⟨_,rfl,?_⟩
 simp only [Act.put,sA,sS,sZ]
 refine Kx ?_
 have a7:Grow w9 F F:=Grow.refl _ _
 have N:¬ F r:=fun j=>by have:=H2.out r j;omega
 have aX:¬ F h6:=fun j=>by have:=H2.out h6 j;omega
 have s10:=H.size
 have aI:=Kj (JX (aj.out.keep H aX))
 have aa:=Kj (a8.out.keep H N)
 have aq:Keep F w aW:=av.trans H (fun _ _ h=>h)
 have aH:=Kj a6
 have a9:=Kj a7
 clear a6 aj a8 av aE a7
 go_upto_region 9 with fail
 refine wAp 1 [(Ent.mk e.o n).v] [58] (nS 0 (ldS Tryz.underlying85 (fun u hk=>JJ aI.out hk) (by rw [(Ent.mk e.o n).len10];exact szH)) nZ) ?_
 intro w11 ae
 simp only [F8]
 refine YV 85 r 85 XY.cells (Ent.mk e.o n).cells _ _ rfl rfl (by kernel_rfl) (by kernel_rfl) (aa.out.kept ae) (by rw [Ent.len10];exact szH) (by rw [Ent.len10,Ent.len10]) (Ent.one _) ?_
 intro w12 ax a4 hs12
 simp only [Act.put]
 refine Kx ?_
 go_wp2
 refine bodyPost_ret (QU (p:=4) rfl _ _ r _ (Ent.mk e.o n).cells rfl ax Tryz.underlying85 (by rw [Ent.len10];exact szH)) rfl ?_
 refine ar.out _ _ ⟨F,rfl,?_,fun b j=>(a9.out b j).imp id (fun h=>by omega),(aq.kept ae).trans a4 (fun b j e=>by subst e;omega)⟩
 have N:¬ F r:=fun j=>by
  rcases a9.out r j with h | h
  ·exact N h
  omega
 have hL:=(aH.out.kept ae).keep a4 (fun b j e=>N (by rw [← e];exact j))
 rw [show Yx e n R=R by unfold Yx;rw [if_pos hc]]
 exact hL
theorem hit_anew (w:World) (F:Nat→Prop) (p:Nat) (e:Ent) (q:Int) (R:List Ent) (h:Lvl pr 123 120 w F p (e::R)) (hX:Good (e::R)) (hq:0<q) (hc:e.o.qty-mn q e.n≠0) (hd:e.n-mn q e.n=0):Calls Tryz.prog 119 #[.pointer (some ⟨p,0,none⟩),.int .i64 q] w (HitIn pr w F p e q R):=by
 have j:=hX.bound (e:=e) (by simp)
 have ax:R.length≤100000000:=by have:=hX.len;simp at this;omega
 have aS:=mn_le q e.n
 have aZ:=mn_pos q e.n hq (by omega)
 have au:Hid (∀ r w',(∃ F',r=.returned (Ent.mk e.o (mn q e.n)).v∧Lvl pr 123 120 w' F' p (Yx e (mn q e.n) R)∧Grow w F F'∧Keep F w w')→HitIn pr w F p e q R r w'):=fun r w' h=>h
 obtain ⟨n,hn⟩:∃ n,mn q e.n=n:=⟨_,rfl⟩
 rw [hn] at aS aZ au hc hd
 have HN:Hid ((if e.n<q then e.n else q)=n):=hn
 clear hn hX
 obtain ⟨h1,h2,v,hB,hS,h5⟩:=h
 obtain ⟨g,off,c,rfl⟩:=hS.some_ (by simp)
 have HR:Hid (w.rangeAt g off e.cells):=hS.rng 0 e rfl
 have HB:=Kj hB
 have HS:=Kj hS
 have H1:=Kj h1
 have H2:=Kj h2
 have H5:=Kj h5
 have aW:g≠p:=(h5 g rfl).2
 have aq:Hid (F g):=(h5 g rfl).1
 have hgl:g<w.heap.size:=h2 g aq.out
 have hpl:p<w.heap.size:=h2 p h1
 clear hB hS h5 h1 h2
 go_enter Tryz.func119,Tryz.ntmps119
 go_upto_region 0 with fail
 refine tAp 1 [.k (.fresh w.heap.size 85 XY.cells)] (nS 0 (nV rfl (fun a u E D hk=>⟨_,_,QX 85 XY.cells rfl zH,⟨_,rfl,hk.size,Blk.new u _ _⟩,((Keep.refl _ u).alloc _)⟩)) nZ) ?_
 intro gv w0 hV k0
 rw [dq 1 [4]]
 simp only [Fz7]
 have al:(.fresh w.heap.size 85 XY.cells:Kn).p (gv 4) w0:=hV 0 4 (by kernel_rfl)
 generalize gv 4=v4 at al ⊢
 clear hV
 obtain ⟨r,rfl,hr,ae⟩:=al
 refine Kx ?_
 have s0:=k0.size
 have hrl:=ae.lt
 have ay:=Kj (HB.out.kept k0)
 go_upto_region 1 with fail
 refine wA 6 [pV p 0,pV p 0,pV p 1,.slice (some ⟨g,off,none⟩) (R.length+1) c,pV g off,pV g off] [7,8,9,10,11,5] (nS 3 (sV rfl (fun a u E D hk=>Qx _ _ Tryz.underlying121 _ _ _ rfl (dD D 2) (by rw [(ay.out.kept hk).cell];rfl))) (nS 4 (ixV slE (off) (R.length+1) 0 (0) ((by omega))) nZ)) ?_
 intro w1 k1
 simp only [F8]
 have ab:=k0.trans k1
 have s1:=k1.size
 have O:=Kj (JJ HR.out ab)
 have av:=Kj (ae.kept k1)
 clear HR ay ae k0 k1
 go_upto_region 2 with fail
 refine tHp 12 [pK g off,pK g off,pK g off,.v (e.o.v),iK q,pK g off,pK g off,pK g (off+9),iK e.n,iK n,.v ((Ent.mk e.o (n)).v),.k (.fresh w1.heap.size 85 XY.cells)] (nS 3 (ldS Tryz.underlying35 (fun u hk=>xX (JJ O.out hk)) (by rw [e.o.len9];exact JU)) (nS 8 (ldR O.out 9) (nS 9 (sV rfl (fun a u E D hk=>jW _ _ _ q e.n n rfl (dD D 4) (dD D 8) HN.out)) (nS 10 (sV rfl (fun a u E D hk=>qW 85 builtH _ _ (e.o) (n) rfl (dD D 3) (dD D 9))) (nS 11 (nV rfl (fun a u E D hk=>⟨_,_,QX 85 XY.cells rfl zH,⟨_,rfl,hk.size,Blk.new u _ _⟩,((Keep.refl _ u).alloc _)⟩)) nZ))))) ?_
 intro gv w2 hV k2
 rw [dq 12 [12,13,14,15,16,17,18,19,20,21,22,6]]
 simp only [Fz7]
 have aC:(.fresh w1.heap.size 85 XY.cells:Kn).p (gv 6) w2:=hV 11 6 (by kernel_rfl)
 generalize gv 6=v6 at aC ⊢
 rw [gQ hV 10 22 ((Ent.mk e.o (n)).v)]
 clear hV
 obtain ⟨h6,rfl,hh6,aN⟩:=aC
 refine YV 85 h6 85 XY.cells (Ent.mk e.o n).cells _ _ rfl rfl (by kernel_rfl) (by kernel_rfl) aN (by rw [Ent.len10];exact szH) (by rw [Ent.len10,Ent.len10]) (Ent.one _) ?_
 intro w3 J N aU
 simp only [Act.put]
 refine Kx ?_
 have I:Kept w w3:=(ab.trans k2).trans' N (by omega)
 have s3:=I.size
 have h6l:=J.lt
 have s2:=k2.size
 have aF:=Kj (QJ (JJ O.out k2) N (by omega))
 have a2:=Kj ((av.out.kept k2).keep N (by omega))
 have aB:=Kj J
 have af:=Kj (JX J)
 have an:=Kj (HS.out.kept I)
 have aG:=Kj (HB.out.kept I)
 clear O av HS HB aN J N k2 aU
 clear ab
 go_upto_region 3 with fail
 refine wHp 11 [pV g off,pV g off,pV g off,pV g (off+6),iV e.o.qty,pV h6 9,iV ((Ent.mk e.o n).n),iV (e.o.qty-n),pV g off,pV g off,pV g (off+6)] [23,24,25,26,27,28,29,30,31,32,33] (nS 4 (ldR aF.out 6) (nS 6 (ldR af.out 9) (nS 7 (sV rfl (fun a u E D hk=>Zz (e.o.qty-n) rfl (dD D 4) (dD D 6) rfl (by omega) (by omega))) nZ))) ?_
 intro w4 k4
 simp only [F8]
 refine l_rowi 120 g off (R.length+1) c 0 6 (e::R) e ⟨e.o.q (e.o.qty-n),e.n⟩ (e.o.qty-n) ⟨g,off+6,none⟩ _ _ rfl rfl (by kernel_rfl) (by kernel_rfl) rfl (an.out.kept k4) rfl rfl (by omega) rfl ?_
 intro w5 ak aM hs5
 simp only [Act.put]
 refine Kx ?_
 have s4:=k4.size
 have K5:Keep (·=g) w3 w5:=(Keep.mono (T:=(·=g)) k4 (fun _ _ h=>h.elim)).trans aM (fun _ _ h=>h)
 have ac:Hid (Sl w5 120 10 (.slice (some ⟨g,off,none⟩) (R.length+1) c) (R.length+1) (ents (⟨e.o.q (e.o.qty-n),e.n⟩::R))):=ak
 have aJ:Hid (w5.rangeAt g off (Ent.mk (e.o.q (e.o.qty-n)) e.n).cells):=ac.out.rng 0 _ rfl
 have U:=Kj (QJ af.out K5 (by omega))
 clear ak aM k4 aF
 go_upto_region 4 with fail
 refine wHp 9 [pV g off,pV g off,pV g (off+9),iV ((Ent.mk (e.o.q (e.o.qty-n)) e.n).n),pV h6 9,iV ((Ent.mk e.o n).n),iV (e.n-n),pV g off,pV g (off+9)] [34,35,36,37,38,39,40,41,42] (nS 3 (ldR aJ.out 9) (nS 5 (ldR U.out 9) (nS 6 (sV rfl (fun a u E D hk=>Zz (e.n-n) rfl (dD D 3) (dD D 5) rfl (by omega) (by omega))) nZ))) ?_
 intro w6 k6
 simp only [F8]
 refine l_rowi 120 g off (R.length+1) c 0 9 (⟨e.o.q (e.o.qty-n),e.n⟩::R) ⟨e.o.q (e.o.qty-n),e.n⟩ (e.sub n) (e.n-n) ⟨g,off+9,none⟩ _ _ rfl rfl (by kernel_rfl) (by kernel_rfl) rfl (ac.out.kept k6) rfl rfl (by omega) rfl ?_
 intro w7 ah aQ hs7
 simp only [Act.put]
 refine Kx ?_
 have s6:=k6.size
 have K7:Keep (·=g) w3 w7:=(K5.kept k6).trans aQ (fun _ _ h=>h)
 have ag:Hid (Sl w7 120 10 (.slice (some ⟨g,off,none⟩) (R.length+1) c) (R.length+1) (ents (e.sub n::R))):=ah
 have aa:Hid (w7.rangeAt g off (e.sub n).cells):=ag.out.rng 0 _ rfl
 have aR:Hid (Lvl pr 123 120 w7 F p (e.sub n::R)):=⟨H1.out,fun b j=>by have:=H2.out b j;omega,_,aG.out.keep K7 (fun e=>aW e.symm),ag.out,H5.out⟩
 have aD:=Kj (aB.out.keep K7 (by omega))
 have a1:=Kj (a2.out.keep K7 (by omega))
 have aO:Keep F w w7:=(Keep.mono (T:=F) I (fun _ _ h=>h.elim)).trans K7 (fun b _ j=>by subst j;exact aq.out)
 clear ah aQ k6 K5 ac aJ U af an aG aB a2 K7 ag I HN
 go_upto_region 5 with fail
 refine wA 6 [pV g off,pV g off,pV g off,pV g (off+6),iV ((e.sub n).o.qty),bV false] [43,44,45,46,47,48] (nS 4 (ldR aa.out 6) (nS 5 (aV rfl (fun a u E D hk=>JY rfl (dD D 4) rfl) (Ku hc)) nZ)) ?_
 intro w8 k8
 simp only [F8]
 have s8:=k8.size
 have ao:=Kj (JJ aa.out k8)
 have aI:=Kj (aR.out.kept k8)
 have aj:=Kj (aD.out.kept k8)
 have a4:=Kj (a1.out.kept k8)
 have aE:=aO.kept k8
 clear aa aR aD a1 aO k8
 go_upto_region 7 with fail
 refine wA 5 [pV g off,pV g off,pV g (off+9),iV ((e.sub n).n),bV true] [51,52,53,54,55] (nS 3 (ldR ao.out 9) (nS 4 (aV rfl (fun a u E D hk=>JY rfl (dD D 3) rfl) (Ky hd)) nZ)) ?_
 intro w9 k9
 simp only [F8]
 have s9:=k9.size
 have aH:=Kj (aI.out.kept k9)
 have ai:=Kj (aj.out.kept k9)
 have a7:=Kj (a4.out.kept k9)
 have aw:=aE.kept k9
 clear ao aI aj a4 aE k9
 go_upto_region 8 with fail
 refine wp_region_lit ?_
 refine aT (.pointer (some ⟨p,0,none⟩)) ?_
 refine cT Tryz.func129 [.pointer (some ⟨p,0,none⟩)] ?_
 refine (anew_any w9 F p (e.sub n) R aH.out ax).mono ?_
 rintro r0 aX ⟨F',rfl,a5,a6,H⟩
 refine ⟨_,rfl,?_⟩
 simp only [Act.put,sA,sS,sZ]
 refine Kx ?_
 have am:¬ F r:=fun j=>by have:=H2.out r j;omega
 have aY:¬ F h6:=fun j=>by have:=H2.out h6 j;omega
 have s10:=H.size
 have aL:=Kj (JX (ai.out.keep H aY))
 have a9:=Kj (a7.out.keep H am)
 have ar:Keep F w aX:=aw.trans H (fun _ _ h=>h)
 have aK:=Kj a5
 have a8:=Kj a6
 clear a5 ai a7 aw aH a6
 go_upto_region 9 with fail
 refine wAp 1 [(Ent.mk e.o n).v] [58] (nS 0 (ldS Tryz.underlying85 (fun u hk=>JJ aL.out hk) (by rw [(Ent.mk e.o n).len10];exact szH)) nZ) ?_
 intro w11 ad
 simp only [F8]
 refine YV 85 r 85 XY.cells (Ent.mk e.o n).cells _ _ rfl rfl (by kernel_rfl) (by kernel_rfl) (a9.out.kept ad) (by rw [Ent.len10];exact szH) (by rw [Ent.len10,Ent.len10]) (Ent.one _) ?_
 intro w12 az a3 hs12
 simp only [Act.put]
 refine Kx ?_
 go_wp2
 refine bodyPost_ret (QU (p:=4) rfl _ _ r _ (Ent.mk e.o n).cells rfl az Tryz.underlying85 (by rw [Ent.len10];exact szH)) rfl ?_
 refine au.out _ _ ⟨F',rfl,?_,fun b j=>(a8.out b j).imp id (fun h=>by omega),(ar.kept ad).trans a3 (fun b j e=>by subst e;omega)⟩
 have aA:¬ F' r:=fun j=>by
  rcases a8.out r j with h | h
  ·exact am h
  omega
 have hL:=(aK.out.kept ad).keep a3 (fun b j e=>aA (by rw [← e];exact j))
 rw [show Yx e n R=R++[Ent.of (e.sub n).o] by unfold Yx;rw [if_neg hc,if_pos hd]]
 exact hL
theorem hit_part (w:World) (F:Nat→Prop) (p:Nat) (e:Ent) (q:Int) (R:List Ent) (h:Lvl pr 123 120 w F p (e::R)) (hX:Good (e::R)) (hq:0<q) (hc:e.o.qty-mn q e.n≠0) (hd:e.n-mn q e.n≠0):Calls Tryz.prog 119 #[.pointer (some ⟨p,0,none⟩),.int .i64 q] w (HitIn pr w F p e q R):=by
 have j:=hX.bound (e:=e) (by simp)
 have hlen:R.length≤100000000:=by have:=hX.len;simp at this;omega
 have aS:=mn_le q e.n
 have aY:=mn_pos q e.n hq (by omega)
 have av:Hid (∀ r w',(∃ F',r=.returned (Ent.mk e.o (mn q e.n)).v∧Lvl pr 123 120 w' F' p (Yx e (mn q e.n) R)∧Grow w F F'∧Keep F w w')→HitIn pr w F p e q R r w'):=fun r w' h=>h
 obtain ⟨n,hn⟩:∃ n,mn q e.n=n:=⟨_,rfl⟩
 rw [hn] at aS aY av hc hd
 have HN:Hid ((if e.n<q then e.n else q)=n):=hn
 clear hn hX
 obtain ⟨h1,h2,v,hB,hS,h5⟩:=h
 obtain ⟨g,off,c,rfl⟩:=hS.some_ (by simp)
 have HR:Hid (w.rangeAt g off e.cells):=hS.rng 0 e rfl
 have HB:=Kj hB
 have HS:=Kj hS
 have H1:=Kj h1
 have H2:=Kj h2
 have H5:=Kj h5
 have aW:g≠p:=(h5 g rfl).2
 have ar:Hid (F g):=(h5 g rfl).1
 have hgl:g<w.heap.size:=h2 g ar.out
 have hpl:p<w.heap.size:=h2 p h1
 clear hB hS h5 h1 h2
 go_enter Tryz.func119,Tryz.ntmps119
 go_upto_region 0 with fail
 refine tAp 1 [.k (.fresh w.heap.size 85 XY.cells)] (nS 0 (nV rfl (fun a u E D hk=>⟨_,_,QX 85 XY.cells rfl zH,⟨_,rfl,hk.size,Blk.new u _ _⟩,((Keep.refl _ u).alloc _)⟩)) nZ) ?_
 intro gv w0 hV k0
 rw [dq 1 [4]]
 simp only [Fz7]
 have an:(.fresh w.heap.size 85 XY.cells:Kn).p (gv 4) w0:=hV 0 4 (by kernel_rfl)
 generalize gv 4=v4 at an ⊢
 clear hV
 obtain ⟨r,rfl,hr,ag⟩:=an
 refine Kx ?_
 have s0:=k0.size
 have hrl:=ag.lt
 have ay:=Kj (HB.out.kept k0)
 go_upto_region 1 with fail
 refine wA 6 [pV p 0,pV p 0,pV p 1,.slice (some ⟨g,off,none⟩) (R.length+1) c,pV g off,pV g off] [7,8,9,10,11,5] (nS 3 (sV rfl (fun a u E D hk=>Qx _ _ Tryz.underlying121 _ _ _ rfl (dD D 2) (by rw [(ay.out.kept hk).cell];rfl))) (nS 4 (ixV slE (off) (R.length+1) 0 (0) ((by omega))) nZ)) ?_
 intro w1 k1
 simp only [F8]
 have ad:=k0.trans k1
 have s1:=k1.size
 have a1:=Kj (JJ HR.out ad)
 have aw:=Kj (ag.kept k1)
 clear HR ay ag k0 k1
 go_upto_region 2 with fail
 refine tHp 12 [pK g off,pK g off,pK g off,.v (e.o.v),iK q,pK g off,pK g off,pK g (off+9),iK e.n,iK n,.v ((Ent.mk e.o (n)).v),.k (.fresh w1.heap.size 85 XY.cells)] (nS 3 (ldS Tryz.underlying35 (fun u hk=>xX (JJ a1.out hk)) (by rw [e.o.len9];exact JU)) (nS 8 (ldR a1.out 9) (nS 9 (sV rfl (fun a u E D hk=>jW _ _ _ q e.n n rfl (dD D 4) (dD D 8) HN.out)) (nS 10 (sV rfl (fun a u E D hk=>qW 85 builtH _ _ (e.o) (n) rfl (dD D 3) (dD D 9))) (nS 11 (nV rfl (fun a u E D hk=>⟨_,_,QX 85 XY.cells rfl zH,⟨_,rfl,hk.size,Blk.new u _ _⟩,((Keep.refl _ u).alloc _)⟩)) nZ))))) ?_
 intro gv w2 hV k2
 rw [dq 12 [12,13,14,15,16,17,18,19,20,21,22,6]]
 simp only [Fz7]
 have aB:(.fresh w1.heap.size 85 XY.cells:Kn).p (gv 6) w2:=hV 11 6 (by kernel_rfl)
 generalize gv 6=v6 at aB ⊢
 rw [gQ hV 10 22 ((Ent.mk e.o (n)).v)]
 clear hV
 obtain ⟨h6,rfl,hh6,aN⟩:=aB
 refine YV 85 h6 85 XY.cells (Ent.mk e.o n).cells _ _ rfl rfl (by kernel_rfl) (by kernel_rfl) aN (by rw [Ent.len10];exact szH) (by rw [Ent.len10,Ent.len10]) (Ent.one _) ?_
 intro w3 N U aU
 simp only [Act.put]
 refine Kx ?_
 have J:Kept w w3:=(ad.trans k2).trans' U (by omega)
 have s3:=J.size
 have h6l:=N.lt
 have s2:=k2.size
 have aE:=Kj (QJ (JJ a1.out k2) U (by omega))
 have a4:=Kj ((aw.out.kept k2).keep U (by omega))
 have aA:=Kj N
 have ah:=Kj (JX N)
 have ao:=Kj (HS.out.kept J)
 have aF:=Kj (HB.out.kept J)
 clear a1 aw HS HB aN N U k2 aU
 clear ad
 go_upto_region 3 with fail
 refine wHp 11 [pV g off,pV g off,pV g off,pV g (off+6),iV e.o.qty,pV h6 9,iV ((Ent.mk e.o n).n),iV (e.o.qty-n),pV g off,pV g off,pV g (off+6)] [23,24,25,26,27,28,29,30,31,32,33] (nS 4 (ldR aE.out 6) (nS 6 (ldR ah.out 9) (nS 7 (sV rfl (fun a u E D hk=>Zz (e.o.qty-n) rfl (dD D 4) (dD D 6) rfl (by omega) (by omega))) nZ))) ?_
 intro w4 k4
 simp only [F8]
 refine l_rowi 120 g off (R.length+1) c 0 6 (e::R) e ⟨e.o.q (e.o.qty-n),e.n⟩ (e.o.qty-n) ⟨g,off+6,none⟩ _ _ rfl rfl (by kernel_rfl) (by kernel_rfl) rfl (ao.out.kept k4) rfl rfl (by omega) rfl ?_
 intro w5 am aM hs5
 simp only [Act.put]
 refine Kx ?_
 have s4:=k4.size
 have K5:Keep (·=g) w3 w5:=(Keep.mono (T:=(·=g)) k4 (fun _ _ h=>h.elim)).trans aM (fun _ _ h=>h)
 have ae:Hid (Sl w5 120 10 (.slice (some ⟨g,off,none⟩) (R.length+1) c) (R.length+1) (ents (⟨e.o.q (e.o.qty-n),e.n⟩::R))):=am
 have aJ:Hid (w5.rangeAt g off (Ent.mk (e.o.q (e.o.qty-n)) e.n).cells):=ae.out.rng 0 _ rfl
 have a2:=Kj (QJ ah.out K5 (by omega))
 clear am aM k4 aE
 go_upto_region 4 with fail
 refine wHp 9 [pV g off,pV g off,pV g (off+9),iV ((Ent.mk (e.o.q (e.o.qty-n)) e.n).n),pV h6 9,iV ((Ent.mk e.o n).n),iV (e.n-n),pV g off,pV g (off+9)] [34,35,36,37,38,39,40,41,42] (nS 3 (ldR aJ.out 9) (nS 5 (ldR a2.out 9) (nS 6 (sV rfl (fun a u E D hk=>Zz (e.n-n) rfl (dD D 3) (dD D 5) rfl (by omega) (by omega))) nZ))) ?_
 intro w6 k6
 simp only [F8]
 refine l_rowi 120 g off (R.length+1) c 0 9 (⟨e.o.q (e.o.qty-n),e.n⟩::R) ⟨e.o.q (e.o.qty-n),e.n⟩ (e.sub n) (e.n-n) ⟨g,off+9,none⟩ _ _ rfl rfl (by kernel_rfl) (by kernel_rfl) rfl (ae.out.kept k6) rfl rfl (by omega) rfl ?_
 intro w7 aj aQ hs7
 simp only [Act.put]
 refine Kx ?_
 have s6:=k6.size
 have K7:Keep (·=g) w3 w7:=(K5.kept k6).trans aQ (fun _ _ h=>h)
 have ai:Hid (Sl w7 120 10 (.slice (some ⟨g,off,none⟩) (R.length+1) c) (R.length+1) (ents (e.sub n::R))):=aj
 have ac:Hid (w7.rangeAt g off (e.sub n).cells):=ai.out.rng 0 _ rfl
 have aR:Hid (Lvl pr 123 120 w7 F p (e.sub n::R)):=⟨H1.out,fun b j=>by have:=H2.out b j;omega,_,aF.out.keep K7 (fun e=>aW e.symm),ai.out,H5.out⟩
 have aC:=Kj (aA.out.keep K7 (by omega))
 have a3:=Kj (a4.out.keep K7 (by omega))
 have aO:Keep F w w7:=(Keep.mono (T:=F) J (fun _ _ h=>h.elim)).trans K7 (fun b _ j=>by subst j;exact ar.out)
 clear aj aQ k6 K5 ae aJ a2 ah ao aF aA a4 K7 ai J HN
 go_upto_region 5 with fail
 refine wA 6 [pV g off,pV g off,pV g off,pV g (off+6),iV ((e.sub n).o.qty),bV false] [43,44,45,46,47,48] (nS 4 (ldR ac.out 6) (nS 5 (aV rfl (fun a u E D hk=>JY rfl (dD D 4) rfl) (Ku hc)) nZ)) ?_
 intro w8 k8
 simp only [F8]
 have s8:=k8.size
 have aq:=Kj (JJ ac.out k8)
 have aI:=Kj (aR.out.kept k8)
 have al:=Kj (aC.out.kept k8)
 have a6:=Kj (a3.out.kept k8)
 have aD:=aO.kept k8
 clear ac aR aC a3 aO k8
 go_upto_region 7 with fail
 refine wA 5 [pV g off,pV g off,pV g (off+9),iV ((e.sub n).n),bV false] [51,52,53,54,55] (nS 3 (ldR aq.out 9) (nS 4 (aV rfl (fun a u E D hk=>JY rfl (dD D 3) rfl) (Ku hd)) nZ)) ?_
 intro w9 k9
 simp only [F8]
 have s9:=k9.size
 have aG:=Kj (aI.out.kept k9)
 have ak:=Kj (al.out.kept k9)
 have a9:=Kj (a6.out.kept k9)
 have ax:=aD.kept k9
 clear aq aI al a6 aD k9
 obtain ⟨I,aH⟩:∃ I,I=w9:=⟨_,rfl⟩
 subst aH
 have H:Keep F I I:=Keep.refl _ _
 have a7:=aG.out
 have a8:Grow I F F:=Grow.refl _ _
 have O:¬ F r:=fun j=>by have:=H2.out r j;omega
 have aX:¬ F h6:=fun j=>by have:=H2.out h6 j;omega
 have s10:=H.size
 have aL:=Kj (JX (ak.out.keep H aX))
 have ab:=Kj (a9.out.keep H O)
 have au:Keep F w I:=ax.trans H (fun _ _ h=>h)
 have aK:=Kj a7
 have aa:=Kj a8
 clear a7 ak a9 ax aG a8
 go_upto_region 9 with fail
 refine wAp 1 [(Ent.mk e.o n).v] [58] (nS 0 (ldS Tryz.underlying85 (fun u hk=>JJ aL.out hk) (by rw [(Ent.mk e.o n).len10];exact szH)) nZ) ?_
 intro w11 af
 simp only [F8]
 refine YV 85 r 85 XY.cells (Ent.mk e.o n).cells _ _ rfl rfl (by kernel_rfl) (by kernel_rfl) (ab.out.kept af) (by rw [Ent.len10];exact szH) (by rw [Ent.len10,Ent.len10]) (Ent.one _) ?_
 intro w12 az a5 hs12
 simp only [Act.put]
 refine Kx ?_
 go_wp2
 refine bodyPost_ret (QU (p:=4) rfl _ _ r _ (Ent.mk e.o n).cells rfl az Tryz.underlying85 (by rw [Ent.len10];exact szH)) rfl ?_
 refine av.out _ _ ⟨F,rfl,?_,fun b j=>(aa.out b j).imp id (fun h=>by omega),(au.kept af).trans a5 (fun b j e=>by subst e;omega)⟩
 have O:¬ F r:=fun j=>by
  rcases aa.out r j with h | h
  ·exact O h
  omega
 have hL:=(aK.out.kept af).keep a5 (fun b j e=>O (by rw [← e];exact j))
 rw [show Yx e n R=e.sub n::R by unfold Yx;rw [if_neg hc,if_neg hd]]
 exact hL
theorem hitFirst_any (w:World) (F:Nat→Prop) (p:Nat) (e:Ent) (q:Int) (R:List Ent) (h:Lvl pr 123 120 w F p (e::R)) (D:Good (e::R)) (j:0<q):Calls Tryz.prog 119 #[.pointer (some ⟨p,0,none⟩),.int .i64 q] w (HitIn pr w F p e q R):=by
 by_cases hc:e.o.qty-mn q e.n=0
 ·exact hit_all w F p e q R h D j hc
 by_cases hd:e.n-mn q e.n=0
 ·exact hit_anew w F p e q R h D j hc hd
 exact hit_part w F p e q R h D j hc hd
end Go.Proofs.YtklohceombpleaaGreat
namespace Go.Proofs.YtklohceombpleaaGreat
open Go.RowKit
theorem sameH_any (va vb:Value) (na nb:Nat) (A B:List Ent) (w:World) (ha:Sl w 85 10 va A.length (ents A)) (hb:Sl w 85 10 vb B.length (ents B)) (a6:A.length≤1000000000) (a8:B.length≤1000000000):Gives 46 #[va,vb] w (.eq (.bool (decide (A=B)))):=by
 refine QW ?_
 obtain ⟨n,hn⟩:∃ n,A.length=n:=⟨_,rfl⟩
 obtain ⟨m,hm⟩:∃ m,B.length=m:=⟨_,rfl⟩
 rw [hn] at ha a6
 rw [hm] at hb a8
 have HA:=Kj ha
 have HB:=Kj hb
 have HN:=Kj hn
 have HM:=Kj hm
 obtain ⟨_,A1,c1,rfl,_⟩:=ha
 obtain ⟨_,A2,c2,rfl,_⟩:=hb
 clear hn hm
 by_cases hnm:n=m
 ·subst hnm
  go_enter Tryz.func46,Tryz.ntmps46
  go_wp2_with fail
  go_loopw [5] (fun v wr=>∃ i:Nat,i≤n∧v=.int .i64 i∧Kept w wr∧Hid (A.take i=B.take i)) (fun v _=>n-(intOf v).toNat)
  case atStart=>exact ⟨0,Nat.zero_le _,rfl,Kept.refl _,rfl⟩
  obtain ⟨i,hi,rfl,j,HT⟩:=hrel
  by_cases hlt:i<n
  ·have a1:i<A.length:=by rw [HN.out];omega
   have a3:i<B.length:=by rw [HM.out];omega
   obtain ⟨D,O⟩:∃ e,A[i]?=some e:=⟨_,List.getElem?_eq_getElem a1⟩
   obtain ⟨H,N⟩:∃ e,B[i]?=some e:=⟨_,List.getElem?_eq_getElem a3⟩
   obtain ⟨g1,I,_,e1⟩:=HA.out.some_ (by omega)
   injection e1 with e1 _ e1'
   subst e1 e1'
   obtain ⟨g2,U,_,e2⟩:=HB.out.some_ (by omega)
   injection e2 with e2 _ e2'
   subst e2 e2'
   have a2:Hid (wr.rangeAt g1 (I+i*10) D.cells):=JJ (HA.out.rng i D O) j
   have a5:Hid (wr.rangeAt g2 (U+i*10) H.cells):=JJ (HB.out.rng i H N) j
   have a4:Hid (A[i]?=B[i]?↔D=H):=by
    show _↔_
    rw [O,N]
    simp
   clear a1 a3 O N
   by_cases hx:D=H
   ·skip
    go_upto_region 6 with fail
    refine wHp 8 [.slice (some ⟨g1,I,none⟩) n c1,iV (i:Int),pV g1 (I+i*10),D.v,.slice (some ⟨g2,U,none⟩) n c2,iV (i:Int),pV g2 (U+i*10),H.v] [17,18,19,20,21,22,23,24] (nS 2 (ixV slH (I) n i ((i:Int)) (hlt)) (nS 3 (ldS Tryz.underlying85 (fun u hk=>JJ a2.out hk) (by rw [D.len10];exact szH)) (nS 6 (ixV slH (U) n i ((i:Int)) (hlt)) (nS 7 (ldS Tryz.underlying85 (fun u hk=>JJ a5.out hk) (by rw [H.len10];exact szH)) nZ)))) ?_
    intro w1 k1
    simp only [F8]
    refine UJ (.bool false) rfl (exec_neHb false (.tmp 20) (.tmp 24) _ D H rfl (by kernel_rfl) (by kernel_rfl) (by rw [hx];simp)) ?_
    simp only [Act.put,sA,sS,sZ]
    refine Kx ?_
    have a7:=Kj (take_next HT.out (a4.out.2 hx))
    have J:=j.trans k1
    clear j hx k1
    go_wp2
    exact ⟨⟨i+1,by omega,by go_num,J,a7⟩,by simp [intOf];omega⟩
   skip
   go_upto_region 6 with fail
   refine wHp 8 [.slice (some ⟨g1,I,none⟩) n c1,iV (i:Int),pV g1 (I+i*10),D.v,.slice (some ⟨g2,U,none⟩) n c2,iV (i:Int),pV g2 (U+i*10),H.v] [17,18,19,20,21,22,23,24] (nS 2 (ixV slH (I) n i ((i:Int)) (hlt)) (nS 3 (ldS Tryz.underlying85 (fun u hk=>JJ a2.out hk) (by rw [D.len10];exact szH)) (nS 6 (ixV slH (U) n i ((i:Int)) (hlt)) (nS 7 (ldS Tryz.underlying85 (fun u hk=>JJ a5.out hk) (by rw [H.len10];exact szH)) nZ)))) ?_
   intro w1 k1
   simp only [F8]
   refine UJ (.bool true) rfl (exec_neHb true (.tmp 20) (.tmp 24) _ D H rfl (by kernel_rfl) (by kernel_rfl) (by simp [hx])) ?_
   simp only [Act.put,sA,sS,sZ]
   refine Kx ?_
   have HF:Hid (A≠B):=fun h=>hx (a4.out.1 (by rw [h]))
   have J:=j.trans k1
   clear j hx k1
   go_wp2
   go_ret
   exact ⟨Wz (Ku HF.out).symm,J⟩
  go_wp2
  go_ret
  exact ⟨Wz (Ky (take_whole HT.out (by have:=HN.out;omega) (by have:=HM.out;omega))).symm,j⟩
 have hne:((n:Int) != (m:Int))=true:=by rw [bne_iff_ne];omega
 have HF:Hid (A≠B):=fun h=>hnm (by have h1:=HN.out;have h2:=HM.out;rw [h] at h1;omega)
 clear hnm
 go_enter Tryz.func46,Tryz.ntmps46
 go_wp2
 go_ret
 exact ⟨Wz (Ku HF.out).symm,Kept.refl _⟩
theorem sameO_any (va vb:Value) (na nb:Nat) (A B:List Ord) (w:World) (ha:Sl w 35 9 va A.length (ords A)) (hb:Sl w 35 9 vb B.length (ords B)) (a6:A.length≤1000000000) (a8:B.length≤1000000000):Gives 12 #[va,vb] w (.eq (.bool (decide (A=B)))):=by
 refine QW ?_
 obtain ⟨n,hn⟩:∃ n,A.length=n:=⟨_,rfl⟩
 obtain ⟨m,hm⟩:∃ m,B.length=m:=⟨_,rfl⟩
 rw [hn] at ha a6
 rw [hm] at hb a8
 have HA:=Kj ha
 have HB:=Kj hb
 have HN:=Kj hn
 have HM:=Kj hm
 obtain ⟨_,A1,c1,rfl,_⟩:=ha
 obtain ⟨_,A2,c2,rfl,_⟩:=hb
 clear hn hm
 by_cases hnm:n=m
 ·subst hnm
  go_enter Tryz.func12,Tryz.ntmps12
  go_wp2_with fail
  go_loopw [5] (fun v wr=>∃ i:Nat,i≤n∧v=.int .i64 i∧Kept w wr∧Hid (A.take i=B.take i)) (fun v _=>n-(intOf v).toNat)
  case atStart=>exact ⟨0,Nat.zero_le _,rfl,Kept.refl _,rfl⟩
  obtain ⟨i,hi,rfl,j,HT⟩:=hrel
  by_cases hlt:i<n
  ·have a1:i<A.length:=by rw [HN.out];omega
   have a3:i<B.length:=by rw [HM.out];omega
   obtain ⟨D,O⟩:∃ e,A[i]?=some e:=⟨_,List.getElem?_eq_getElem a1⟩
   obtain ⟨H,N⟩:∃ e,B[i]?=some e:=⟨_,List.getElem?_eq_getElem a3⟩
   obtain ⟨g1,I,_,e1⟩:=HA.out.some_ (by omega)
   injection e1 with e1 _ e1'
   subst e1 e1'
   obtain ⟨g2,U,_,e2⟩:=HB.out.some_ (by omega)
   injection e2 with e2 _ e2'
   subst e2 e2'
   have a2:Hid (wr.rangeAt g1 (I+i*9) D.cells):=JJ (HA.out.rngO i D O) j
   have a5:Hid (wr.rangeAt g2 (U+i*9) H.cells):=JJ (HB.out.rngO i H N) j
   have a4:Hid (A[i]?=B[i]?↔D=H):=by
    show _↔_
    rw [O,N]
    simp
   clear a1 a3 O N
   by_cases hx:D=H
   ·skip
    go_upto_region 6 with fail
    refine wHp 8 [.slice (some ⟨g1,I,none⟩) n c1,iV (i:Int),pV g1 (I+i*9),D.v,.slice (some ⟨g2,U,none⟩) n c2,iV (i:Int),pV g2 (U+i*9),H.v] [17,18,19,20,21,22,23,24] (nS 2 (ixV slO (I) n i ((i:Int)) (hlt)) (nS 3 (ldO a2.out) (nS 6 (ixV slO (U) n i ((i:Int)) (hlt)) (nS 7 (ldO a5.out) nZ)))) ?_
    intro w1 k1
    simp only [F8]
    refine UJ (.bool false) rfl (exec_neOb false (.tmp 20) (.tmp 24) _ D H rfl (by kernel_rfl) (by kernel_rfl) (by rw [hx];simp)) ?_
    simp only [Act.put,sA,sS,sZ]
    refine Kx ?_
    have a7:=Kj (take_next HT.out (a4.out.2 hx))
    have J:=j.trans k1
    clear j hx k1
    go_wp2
    exact ⟨⟨i+1,by omega,by go_num,J,a7⟩,by simp [intOf];omega⟩
   skip
   go_upto_region 6 with fail
   refine wHp 8 [.slice (some ⟨g1,I,none⟩) n c1,iV (i:Int),pV g1 (I+i*9),D.v,.slice (some ⟨g2,U,none⟩) n c2,iV (i:Int),pV g2 (U+i*9),H.v] [17,18,19,20,21,22,23,24] (nS 2 (ixV slO (I) n i ((i:Int)) (hlt)) (nS 3 (ldO a2.out) (nS 6 (ixV slO (U) n i ((i:Int)) (hlt)) (nS 7 (ldO a5.out) nZ)))) ?_
   intro w1 k1
   simp only [F8]
   refine UJ (.bool true) rfl (exec_neOb true (.tmp 20) (.tmp 24) _ D H rfl (by kernel_rfl) (by kernel_rfl) (by simp [hx])) ?_
   simp only [Act.put,sA,sS,sZ]
   refine Kx ?_
   have HF:Hid (A≠B):=fun h=>hx (a4.out.1 (by rw [h]))
   have J:=j.trans k1
   clear j hx k1
   go_wp2
   go_ret
   exact ⟨Wz (Ku HF.out).symm,J⟩
  go_wp2
  go_ret
  exact ⟨Wz (Ky (take_whole HT.out (by have:=HN.out;omega) (by have:=HM.out;omega))).symm,j⟩
 have hne:((n:Int) != (m:Int))=true:=by rw [bne_iff_ne];omega
 have HF:Hid (A≠B):=fun h=>hnm (by have h1:=HN.out;have h2:=HM.out;rw [h] at h1;omega)
 clear hnm
 go_enter Tryz.func12,Tryz.ntmps12
 go_wp2
 go_ret
 exact ⟨Wz (Ku HF.out).symm,Kept.refl _⟩
end Go.Proofs.YtklohceombpleaaGreat
namespace Go.Proofs.YtklohceombpleaaGreat
open Go.RowKit
variable {pr:Int}
theorem seenM_le {X:List Ent} (h:∀ e ∈ X,e.ok) (i:Nat) (e:Ent) (j:X[i]?=some e):0≤Jj (X.take i)∧Jj (X.take i)+e.n=Jj (X.take (i+1))∧Jj (X.take (i+1))≤XX X∧1≤e.n:=by
 have h1:=YW (X:=X.take i) (fun x hx=>h x (List.mem_of_mem_take hx))
 have h2:=YW (X:=X.drop (i+1)) (fun x hx=>h x (List.mem_of_mem_drop hx))
 have h3:=YW (X:=X.take (i+1)) (fun x hx=>h x (List.mem_of_mem_take hx))
 have D:=h e (List.mem_of_getElem? j)
 unfold Ent.ok at D
 have h5:XX X=XX (X.take (i+1))+XX (X.drop (i+1)):=by rw [← Uj,List.take_append_drop]
 have h6:Jj (X.take (i+1))=Jj (X.take i)+e.n:=by
  rw [List.take_add_one,j,Uy]
  simp [Jj,Wx]
 omega
theorem wholeM_le {X:List Ent} (h:∀ e ∈ X,e.ok) (i:Nat) (e:Ent) (j:X[i]?=some e):0≤XX (X.take i)∧XX (X.take i)+e.o.qty=XX (X.take (i+1))∧XX (X.take (i+1))≤XX X∧1≤e.o.qty:=by
 have h1:=YW (X:=X.take i) (fun x hx=>h x (List.mem_of_mem_take hx))
 have h2:=YW (X:=X.drop (i+1)) (fun x hx=>h x (List.mem_of_mem_drop hx))
 have h3:=YW (X:=X.take (i+1)) (fun x hx=>h x (List.mem_of_mem_take hx))
 have D:=h e (List.mem_of_getElem? j)
 unfold Ent.ok at D
 have h5:XX X=XX (X.take (i+1))+XX (X.drop (i+1)):=by rw [← Uj,List.take_append_drop]
 have h6:XX (X.take (i+1))=XX (X.take i)+e.o.qty:=by
  rw [List.take_add_one,j,Uj]
  simp [XX,Wx]
 omega
theorem seen_any (w:World) (F:Nat→Prop) (p:Nat) (X:List Ent) (h:Lvl pr 123 120 w F p X) (hX:Good X):Gives 126 #[.pointer (some ⟨p,0,none⟩)] w (.eq (.int .i64 (Jj X))):=by
 refine QW ?_
 obtain ⟨h1,h2,v,hB,hS,h5⟩:=h
 have I:=hX.len
 have HB:=Kj hB
 have HS:=Kj hS
 have HX:=Kj hX
 clear hB hS h5 h1 h2 hX
 obtain ⟨n,hn⟩:∃ n,X.length=n:=⟨_,rfl⟩
 rw [hn] at HS I
 have HN:=Kj hn
 go_enter Tryz.func126,Tryz.ntmps126
 go_upto_region 2 with fail
 refine wA 6 [pV p 0,pV p 0,pV p 1,v,iV (n:Int),iV 0] [6,7,8,9,10,11] (nS 3 (sV rfl (fun a u E D hk=>Qx _ _ Tryz.underlying121 _ _ _ rfl (dD D 2) (by rw [(HB.out.kept hk).cell];rfl))) (nS 4 (sV rfl (fun a u E D hk=>Jx _ slE _ _ _ _ rfl (dD D 3) HS.out)) nZ)) ?_
 intro w0 k0
 simp only [F8]
 go_wp2_with fail
 go_loopw [3,11] (fun t q wr=>∃ (i:Nat) (s:Int),i≤n∧q=.int .i64 i∧t=.int .i64 s∧Hid (s=Jj (X.take i))∧Kept w wr) (fun _ q _=>n-(intOf q).toNat)
 case atStart=>exact ⟨0,0,Nat.zero_le _,rfl,rfl,by show _=_;rw [List.take_zero];rfl,k0⟩
 obtain ⟨i,s,hi,rfl,rfl,j,H⟩:=hrel
 by_cases hlt:i<n
 ·skip
  obtain ⟨g,off,c,rfl⟩:=HS.out.some_ (by omega)
  obtain ⟨e,he⟩:∃ e,X[i]?=some e:=⟨X[i]'(by omega),List.getElem?_eq_getElem (by omega)⟩
  have HE:Hid (wr.rangeAt g (off+i*10) e.cells):=JJ (HS.out.rng i e he) H
  have a4:=Kj he
  clear he
  go_upto_region 4 with fail
  refine tAp 3 [pK g (off+i*10),.v (e.v),.k (.fresh wr.heap.size 120 XY.cells)] (nS 0 (ixV slE (off) n i ((i:Int)) (hlt)) (nS 1 (ldS Tryz.underlying120 (fun u hk=>JJ HE.out hk) (by rw [e.len10];exact szE)) (nS 2 (nV rfl (fun a u E D hk=>⟨_,_,QX 120 XY.cells rfl zE,⟨_,rfl,hk.size,Blk.new u _ _⟩,((Keep.refl _ u).alloc _)⟩)) nZ))) ?_
  intro gv w1 hV k1
  rw [dq 3 [13,14,5]]
  simp only [Fz7]
  have J:(.fresh wr.heap.size 120 XY.cells:Kn).p (gv 5) w1:=hV 2 5 (by kernel_rfl)
  generalize gv 5=v5 at J ⊢
  rw [gQ hV 1 14 e.v]
  clear hV
  obtain ⟨b5,rfl,hb5,U⟩:=J
  refine YV 120 b5 120 XY.cells e.cells _ _ rfl rfl (by kernel_rfl) (by kernel_rfl) U (by rw [Ent.len10];exact szE) (by rw [Ent.len10,Ent.len10]) (Ent.one _) ?_
  intro w2 O N hs2
  simp only [Act.put]
  refine Kx ?_
  have a7:Kept wr w2:=k1.trans' N (by omega)
  have a3:=Kj (JX O)
  clear U O N HE k1
  obtain ⟨q1,q2,q3,q4⟩:=seenM_le HX.out.ok i e a4.out
  have q5:=HX.out.few
  rw [← j.out] at q1 q2
  have a5:0≤s:=q1
  have a6:s+e.n≤100000000:=by omega
  have a2:1≤e.n:=q4
  have Q2:=Kj q2
  clear q1 q2 q3 q4 q5 j
  go_upto_region 5 with fail
  refine wAp 4 [iV s,pV b5 9,iV e.n,iV ((s:Int)+(e.n:Int))] [15,16,17,18] (nS 2 (ldR a3.out 9) (nS 3 (sV rfl (fun a u E D hk=>YQ (p:=(s)) (q:=(e.n)) ((s:Int)+(e.n:Int)) rfl (dD D 0) (dD D 2) rfl (by omega) (by omega))) nZ)) ?_
  intro w3 k3
  simp only [F8]
  refine aT (.int .i64 ((s:Int)+(e.n:Int))) ?_
  simp only [Act.put,sA,sS,sZ]
  refine Kx ?_
  have a1:=(H.trans a7).trans k3
  clear a5 a6 a2
  go_wp2
  exact ⟨⟨i+1,s+e.n,by omega,by go_num,rfl,Q2.out,a1⟩,by simp [intOf];omega⟩
 have HF:Hid (s=Jj X):=by
  show _=_
  rw [j.out,List.take_of_length_le (by rw [HN.out];omega)]
 clear j
 go_wp2
 go_ret
 exact ⟨by rw [← HF.out];rfl,H⟩
theorem whole_any (w:World) (F:Nat→Prop) (p:Nat) (X:List Ent) (h:Lvl pr 123 120 w F p X) (hX:Good X):Gives 125 #[.pointer (some ⟨p,0,none⟩)] w (.eq (.int .i64 (XX X))):=by
 refine QW ?_
 obtain ⟨h1,h2,v,hB,hS,h5⟩:=h
 have I:=hX.len
 have HB:=Kj hB
 have HS:=Kj hS
 have HX:=Kj hX
 clear hB hS h5 h1 h2 hX
 obtain ⟨n,hn⟩:∃ n,X.length=n:=⟨_,rfl⟩
 rw [hn] at HS I
 have HN:=Kj hn
 go_enter Tryz.func125,Tryz.ntmps125
 go_upto_region 2 with fail
 refine wA 6 [pV p 0,pV p 0,pV p 1,v,iV (n:Int),iV 0] [6,7,8,9,10,11] (nS 3 (sV rfl (fun a u E D hk=>Qx _ _ Tryz.underlying121 _ _ _ rfl (dD D 2) (by rw [(HB.out.kept hk).cell];rfl))) (nS 4 (sV rfl (fun a u E D hk=>Jx _ slE _ _ _ _ rfl (dD D 3) HS.out)) nZ)) ?_
 intro w0 k0
 simp only [F8]
 go_wp2_with fail
 go_loopw [3,11] (fun t q wr=>∃ (i:Nat) (s:Int),i≤n∧q=.int .i64 i∧t=.int .i64 s∧Hid (s=XX (X.take i))∧Kept w wr) (fun _ q _=>n-(intOf q).toNat)
 case atStart=>exact ⟨0,0,Nat.zero_le _,rfl,rfl,by show _=_;rw [List.take_zero];rfl,k0⟩
 obtain ⟨i,s,hi,rfl,rfl,j,H⟩:=hrel
 by_cases hlt:i<n
 ·skip
  obtain ⟨g,off,c,rfl⟩:=HS.out.some_ (by omega)
  obtain ⟨e,he⟩:∃ e,X[i]?=some e:=⟨X[i]'(by omega),List.getElem?_eq_getElem (by omega)⟩
  have HE:Hid (wr.rangeAt g (off+i*10) e.cells):=JJ (HS.out.rng i e he) H
  have a4:=Kj he
  clear he
  go_upto_region 4 with fail
  refine tAp 3 [pK g (off+i*10),.v (e.v),.k (.fresh wr.heap.size 120 XY.cells)] (nS 0 (ixV slE (off) n i ((i:Int)) (hlt)) (nS 1 (ldS Tryz.underlying120 (fun u hk=>JJ HE.out hk) (by rw [e.len10];exact szE)) (nS 2 (nV rfl (fun a u E D hk=>⟨_,_,QX 120 XY.cells rfl zE,⟨_,rfl,hk.size,Blk.new u _ _⟩,((Keep.refl _ u).alloc _)⟩)) nZ))) ?_
  intro gv w1 hV k1
  rw [dq 3 [13,14,5]]
  simp only [Fz7]
  have J:(.fresh wr.heap.size 120 XY.cells:Kn).p (gv 5) w1:=hV 2 5 (by kernel_rfl)
  generalize gv 5=v5 at J ⊢
  rw [gQ hV 1 14 e.v]
  clear hV
  obtain ⟨b5,rfl,hb5,U⟩:=J
  refine YV 120 b5 120 XY.cells e.cells _ _ rfl rfl (by kernel_rfl) (by kernel_rfl) U (by rw [Ent.len10];exact szE) (by rw [Ent.len10,Ent.len10]) (Ent.one _) ?_
  intro w2 O N hs2
  simp only [Act.put]
  refine Kx ?_
  have a7:Kept wr w2:=k1.trans' N (by omega)
  have a3:=Kj (JX O)
  clear U O N HE k1
  obtain ⟨q1,q2,q3,q4⟩:=wholeM_le HX.out.ok i e a4.out
  have q5:=HX.out.few
  rw [← j.out] at q1 q2
  have a5:0≤s:=q1
  have a6:s+e.o.qty≤100000000:=by omega
  have a2:1≤e.o.qty:=q4
  have Q2:=Kj q2
  clear q1 q2 q3 q4 q5 j
  go_upto_region 5 with fail
  refine wAp 5 [iV s,pV b5 0,pV b5 6,iV e.o.qty,iV ((s:Int)+(e.o.qty:Int))] [15,16,17,18,19] (nS 3 (ldR a3.out 6) (nS 4 (sV rfl (fun a u E D hk=>YQ (p:=(s)) (q:=(e.o.qty)) ((s:Int)+(e.o.qty:Int)) rfl (dD D 0) (dD D 3) rfl (by omega) (by omega))) nZ)) ?_
  intro w3 k3
  simp only [F8]
  refine aT (.int .i64 ((s:Int)+(e.o.qty:Int))) ?_
  simp only [Act.put,sA,sS,sZ]
  refine Kx ?_
  have a1:=(H.trans a7).trans k3
  clear a5 a6 a2
  go_wp2
  exact ⟨⟨i+1,s+e.o.qty,by omega,by go_num,rfl,Q2.out,a1⟩,by simp [intOf];omega⟩
 have HF:Hid (s=XX X):=by
  show _=_
  rw [j.out,List.take_of_length_le (by rw [HN.out];omega)]
 clear j
 go_wp2
 go_ret
 exact ⟨by rw [← HF.out];rfl,H⟩
theorem orders_any (w:World) (F:Nat→Prop) (p:Nat) (X:List Ent) (h:Lvl pr 123 120 w F p X) (hX:Good X):Gives 92 #[.pointer (some ⟨p,0,none⟩)] w (.sl w.heap.size 35 9 X.length (ords (X.map (·.o)))):=by
 obtain ⟨h1,h2,v,hB,hS,h5⟩:=h
 have a3:=hX.len
 have HB:=Kj hB
 have HS:=Kj hS
 have HX:=Kj hX
 clear hB hS h5 h1 h2 hX
 obtain ⟨n,hn⟩:∃ n,X.length=n:=⟨_,rfl⟩
 rw [hn] at HS a3
 have HN:=Kj hn
 go_enter Tryz.func92,Tryz.ntmps92
 go_upto_region 2 with fail
 refine wA 6 [pV p 0,pV p 0,pV p 1,v,iV (n:Int),iV 0] [6,7,8,9,10,11] (nS 3 (sV rfl (fun a u E D hk=>Qx _ _ Tryz.underlying121 _ _ _ rfl (dD D 2) (by rw [(HB.out.kept hk).cell];rfl))) (nS 4 (sV rfl (fun a u E D hk=>Jx _ slE _ _ _ _ rfl (dD D 3) HS.out)) nZ)) ?_
 intro w0 k0
 simp only [F8]
 go_wp2_with fail
 go_loopw [3,11] (fun t q wr=>∃ (i:Nat),i≤n∧q=.int .i64 i∧Hid ((Kn.sl w.heap.size 35 9 i (ords ((X.take i).map (·.o)))).p t wr)∧Kept w wr) (fun _ q _=>n-(intOf q).toNat)
 case atStart=>exact ⟨0,Nat.zero_le _,rfl,⟨by rw [List.take_zero];exact Sl.nil _ _ _,fun b hb=>by simp [Value.ownBlock] at hb⟩,k0⟩
 obtain ⟨i,hi,rfl,HV,H⟩:=hrel
 by_cases hlt:i<n
 ·skip
  obtain ⟨g,off,c,rfl⟩:=HS.out.some_ (by omega)
  obtain ⟨e,he⟩:∃ e,X[i]?=some e:=⟨X[i]'(by omega),List.getElem?_eq_getElem (by omega)⟩
  have HE:Hid (wr.rangeAt g (off+i*10) e.cells):=JJ (HS.out.rng i e he) H
  have ac:=Kj he
  clear he
  go_upto_region 4 with fail
  refine tAp 3 [pK g (off+i*10),.v (e.v),.k (.fresh wr.heap.size 120 XY.cells)] (nS 0 (ixV slE (off) n i ((i:Int)) (hlt)) (nS 1 (ldS Tryz.underlying120 (fun u hk=>JJ HE.out hk) (by rw [e.len10];exact szE)) (nS 2 (nV rfl (fun a u E D hk=>⟨_,_,QX 120 XY.cells rfl zE,⟨_,rfl,hk.size,Blk.new u _ _⟩,((Keep.refl _ u).alloc _)⟩)) nZ))) ?_
  intro gv w1 I k1
  rw [dq 3 [13,14,5]]
  simp only [Fz7]
  have a6:(.fresh wr.heap.size 120 XY.cells:Kn).p (gv 5) w1:=I 2 5 (by kernel_rfl)
  generalize gv 5=v5 at a6 ⊢
  rw [gQ I 1 14 e.v]
  clear I
  obtain ⟨b5,rfl,hb5,a9⟩:=a6
  refine YV 120 b5 120 XY.cells e.cells _ _ rfl rfl (by kernel_rfl) (by kernel_rfl) a9 (by rw [Ent.len10];exact szE) (by rw [Ent.len10,Ent.len10]) (Ent.one _) ?_
  intro w2 a8 a4 hs2
  simp only [Act.put]
  refine Kx ?_
  have O:Kept wr w2:=k1.trans' a4 (by omega)
  have ad:=Kj (JX a8)
  clear a9 a8 a4 HE k1
  obtain ⟨v3,J⟩:∃ v3,v3=u3:=⟨_,rfl⟩
  subst J
  have a5:=Kj (HV.out.1.kept O)
  have N:=Kj HV.out.2
  have s2:=O.size
  have s1:=H.size
  clear HV
  go_upto_region 5 with fail
  refine tAp 4 [.v (v3),pK b5 0,.v (e.o.v),.k (.sl w2.heap.size 35 9 1 e.o.cells)] (nS 2 (ldS Tryz.underlying35 (fun u hk=>xX (JJ ad.out hk)) (by rw [e.o.len9];exact JU)) (nS 3 (nV rfl (fun a u E D hk=>⟨_,_,VJ slO _ e.o.cells (by omega) rfl (dD D 2) (e.o.len9),(jY u 35 9 _ w2.heap.size (e.o.len9) (by omega) hk.size),((Keep.refl _ u).alloc _)⟩)) nZ)) ?_
  intro gv w3 I k3
  rw [dq 4 [15,16,17,18]]
  simp only [Fz7]
  rw [gQ I 0 15 v3]
  have j:(.sl w2.heap.size 35 9 1 e.o.cells:Kn).p (gv 18) w3:=I 3 18 (by kernel_rfl)
  generalize gv 18=v18 at j ⊢
  clear I
  have s3:=k3.size
  obtain ⟨v4,w4,a2,U,a1,a7⟩:=QQ slO _ w3 v3 v18 i 1 _ _ (a5.out.kept k3) j.1 (Ord.one1 _) (by unfold maxLen;omega) (by omega)
  refine Vj v4 w4 rfl (QV slO (.tmp 15) (.tmp 18) v3 v18 rfl (by kernel_rfl) (by kernel_rfl) v4 w4 a2) ?_
  refine aT (v4) ?_
  simp only [Act.put,sA,sS,sZ]
  refine Kx ?_
  have ab:Kept w w4:=by
   refine Keep.trans ((H.trans O).trans k3) a1 (fun b hb ae=>?_)
   have:=N.out b ae
   omega
  have aa:Hid ((Kn.sl w.heap.size 35 9 (i+1) (ords ((X.take (i+1)).map (·.o)))).p v4 w4):=by
   refine ⟨?_,fun b hb=>?_⟩
   ·rw [List.take_add_one,ac.out,Option.toList_some,List.map_append,List.map_cons,List.map_nil,JJz]
    exact U
   rcases a7 b hb with h | h
   ·exact N.out b h
   omega
  clear U a1 a7 a5 N j a2
  go_wp2
  exact ⟨⟨i+1,by omega,by go_num,aa,ab⟩,by simp [intOf];omega⟩
 obtain ⟨v3,J⟩:∃ v3,v3=u3:=⟨_,rfl⟩
 subst J
 have HF:Hid ((Kn.sl w.heap.size 35 9 X.length (ords (X.map (·.o)))).p v3 wr):=by
  have:=HV.out
  rw [show i=n by omega,List.take_of_length_le (by rw [HN.out];omega)] at this
  rw [HN.out]
  exact this
 clear HV
 go_wp2
 go_ret
 exact ⟨v3,rfl,HF.out,H⟩
theorem rorders_any (w:World) (F:Nat→Prop) (p:Nat) (X:List Ent) (h:Lvl pr 100 102 w F p X) (hX:Good X):Gives 74 #[.pointer (some ⟨p,0,none⟩)] w (.sl w.heap.size 35 9 X.length (ords (X.map (·.o)))):=by
 obtain ⟨h1,h2,v,hB,hS,h5⟩:=h
 have a3:=hX.len
 have HB:=Kj hB
 have HS:=Kj hS
 have HX:=Kj hX
 clear hB hS h5 h1 h2 hX
 obtain ⟨n,hn⟩:∃ n,X.length=n:=⟨_,rfl⟩
 rw [hn] at HS a3
 have HN:=Kj hn
 go_enter Tryz.func74,Tryz.ntmps74
 go_upto_region 2 with fail
 refine wA 6 [pV p 0,pV p 0,pV p 1,v,iV (n:Int),iV 0] [6,7,8,9,10,11] (nS 3 (sV rfl (fun a u E D hk=>Qx _ _ Tryz.underlying98 _ _ _ rfl (dD D 2) (by rw [(HB.out.kept hk).cell];rfl))) (nS 4 (sV rfl (fun a u E D hk=>Jx _ slR _ _ _ _ rfl (dD D 3) HS.out)) nZ)) ?_
 intro w0 k0
 simp only [F8]
 go_wp2_with fail
 go_loopw [3,11] (fun t q wr=>∃ (i:Nat),i≤n∧q=.int .i64 i∧Hid ((Kn.sl w.heap.size 35 9 i (ords ((X.take i).map (·.o)))).p t wr)∧Kept w wr) (fun _ q _=>n-(intOf q).toNat)
 case atStart=>exact ⟨0,Nat.zero_le _,rfl,⟨by rw [List.take_zero];exact Sl.nil _ _ _,fun b hb=>by simp [Value.ownBlock] at hb⟩,k0⟩
 obtain ⟨i,hi,rfl,HV,H⟩:=hrel
 by_cases hlt:i<n
 ·skip
  obtain ⟨g,off,c,rfl⟩:=HS.out.some_ (by omega)
  obtain ⟨e,he⟩:∃ e,X[i]?=some e:=⟨X[i]'(by omega),List.getElem?_eq_getElem (by omega)⟩
  have HE:Hid (wr.rangeAt g (off+i*10) e.cells):=JJ (HS.out.rng i e he) H
  have ac:=Kj he
  clear he
  go_upto_region 4 with fail
  refine tAp 3 [pK g (off+i*10),.v (e.v),.k (.fresh wr.heap.size 102 XY.cells)] (nS 0 (ixV slR (off) n i ((i:Int)) (hlt)) (nS 1 (ldS Tryz.underlying102 (fun u hk=>JJ HE.out hk) (by rw [e.len10];exact szR)) (nS 2 (nV rfl (fun a u E D hk=>⟨_,_,QX 102 XY.cells rfl zR,⟨_,rfl,hk.size,Blk.new u _ _⟩,((Keep.refl _ u).alloc _)⟩)) nZ))) ?_
  intro gv w1 I k1
  rw [dq 3 [13,14,5]]
  simp only [Fz7]
  have a6:(.fresh wr.heap.size 102 XY.cells:Kn).p (gv 5) w1:=I 2 5 (by kernel_rfl)
  generalize gv 5=v5 at a6 ⊢
  rw [gQ I 1 14 e.v]
  clear I
  obtain ⟨b5,rfl,hb5,a9⟩:=a6
  refine YV 102 b5 102 XY.cells e.cells _ _ rfl rfl (by kernel_rfl) (by kernel_rfl) a9 (by rw [Ent.len10];exact szR) (by rw [Ent.len10,Ent.len10]) (Ent.one _) ?_
  intro w2 a8 a4 hs2
  simp only [Act.put]
  refine Kx ?_
  have O:Kept wr w2:=k1.trans' a4 (by omega)
  have ad:=Kj (JX a8)
  clear a9 a8 a4 HE k1
  obtain ⟨v3,J⟩:∃ v3,v3=u3:=⟨_,rfl⟩
  subst J
  have a5:=Kj (HV.out.1.kept O)
  have N:=Kj HV.out.2
  have s2:=O.size
  have s1:=H.size
  clear HV
  go_upto_region 5 with fail
  refine tAp 4 [.v (v3),pK b5 0,.v (e.o.v),.k (.sl w2.heap.size 35 9 1 e.o.cells)] (nS 2 (ldS Tryz.underlying35 (fun u hk=>xX (JJ ad.out hk)) (by rw [e.o.len9];exact JU)) (nS 3 (nV rfl (fun a u E D hk=>⟨_,_,VJ slO _ e.o.cells (by omega) rfl (dD D 2) (e.o.len9),(jY u 35 9 _ w2.heap.size (e.o.len9) (by omega) hk.size),((Keep.refl _ u).alloc _)⟩)) nZ)) ?_
  intro gv w3 I k3
  rw [dq 4 [15,16,17,18]]
  simp only [Fz7]
  rw [gQ I 0 15 v3]
  have j:(.sl w2.heap.size 35 9 1 e.o.cells:Kn).p (gv 18) w3:=I 3 18 (by kernel_rfl)
  generalize gv 18=v18 at j ⊢
  clear I
  have s3:=k3.size
  obtain ⟨v4,w4,a2,U,a1,a7⟩:=QQ slO _ w3 v3 v18 i 1 _ _ (a5.out.kept k3) j.1 (Ord.one1 _) (by unfold maxLen;omega) (by omega)
  refine Vj v4 w4 rfl (QV slO (.tmp 15) (.tmp 18) v3 v18 rfl (by kernel_rfl) (by kernel_rfl) v4 w4 a2) ?_
  refine aT (v4) ?_
  simp only [Act.put,sA,sS,sZ]
  refine Kx ?_
  have ab:Kept w w4:=by
   refine Keep.trans ((H.trans O).trans k3) a1 (fun b hb ae=>?_)
   have:=N.out b ae
   omega
  have aa:Hid ((Kn.sl w.heap.size 35 9 (i+1) (ords ((X.take (i+1)).map (·.o)))).p v4 w4):=by
   refine ⟨?_,fun b hb=>?_⟩
   ·rw [List.take_add_one,ac.out,Option.toList_some,List.map_append,List.map_cons,List.map_nil,JJz]
    exact U
   rcases a7 b hb with h | h
   ·exact N.out b h
   omega
  clear U a1 a7 a5 N j a2
  go_wp2
  exact ⟨⟨i+1,by omega,by go_num,aa,ab⟩,by simp [intOf];omega⟩
 obtain ⟨v3,J⟩:∃ v3,v3=u3:=⟨_,rfl⟩
 subst J
 have HF:Hid ((Kn.sl w.heap.size 35 9 X.length (ords (X.map (·.o)))).p v3 wr):=by
  have:=HV.out
  rw [show i=n by omega,List.take_of_length_le (by rw [HN.out];omega)] at this
  rw [HN.out]
  exact this
 clear HV
 go_wp2
 go_ret
 exact ⟨v3,rfl,HF.out,H⟩
end Go.Proofs.YtklohceombpleaaGreat
namespace Go.Proofs.YtklohceombpleaaGreat
open Go.RowKit
variable {pr:Int}
def TakeIn (pr:Int) (T E:TypeId) (w:World) (F:Nat→Prop) (p:Nat) (X:List Ent) (t:List Ent × Bool × List Ent) (r:Ending) (w':World):Prop:=
 ∃ F' v,r=.returned (.tuple #[v,.bool t.2.1])∧Lvl pr T E w' F' p t.2.2∧Sl w' 85 10 v t.1.length (ents t.1)∧(∀ b,v.ownBlock=some b→w.heap.size≤b∧¬ F' b)∧Grow w F F'∧Keep F w w'
theorem JJy {firm q D:Int} {X j H:List Ent} {t:List Ent × Bool × List Ent} (h:takeM firm q X=(H++(takeM firm D j).1,(takeM firm D j).2)) {b:Bool} (I:takeM firm D j=([],b,j)):takeM firm q X=(H,b,j):=by
 rw [h,I]
 simp
theorem take_next_ {firm q j:Int} {X R H:List Ent} {e:Ent} (h:takeM firm q X=(H++(takeM firm j (e::R)).1,(takeM firm j (e::R)).2)) (J:0<j) (I:0<e.n) (D:e.o.firm≠firm) :
  takeM firm q X=((H++[⟨e.o,mn j e.n⟩])++(takeM firm (j-mn j e.n) (Yx e (mn j e.n) R)).1,(takeM firm (j-mn j e.n) (Yx e (mn j e.n) R)).2):=by
 rw [h,JJq firm j e R J I D]
 simp
theorem take_any (w:World) (F:Nat→Prop) (p:Nat) (X:List Ent) (firm q:Int) (h:Lvl pr 123 120 w F p X) (hX:Good X) (hq:q≤9223372036854775807) :
  Calls Tryz.prog 107 #[.pointer (some ⟨p,0,none⟩),.int .i64 firm,.int .i64 q] w (TakeIn pr 123 120 w F p X (takeM firm q X)):=by
 have aE:=Kj h
 have ay:=Kj hX
 clear h hX
 go_enter Tryz.func107,Tryz.ntmps107
 go_wp2_with fail
 go_loopw [2,8] (fun t h wr=>∃ (j:Int) (H X':List Ent) (F':Nat→Prop),t=.int .i64 j∧j≤9223372036854775807∧Hid (Sl wr 85 10 h H.length (ents H))∧Hid (∀ b,h.ownBlock=some b→w.heap.size≤b∧¬ F' b)∧Hid (Lvl pr 123 120 wr F' p X')∧Hid (Good X')∧Hid (Grow w F F')∧Keep F w wr∧Hid ((H.length:Int)+XX X'≤XX X)∧Hid (takeM firm q X=(H++(takeM firm j X').1,(takeM firm j X').2))) (fun t _ _=>(intOf t).toNat)
 case atStart=>exact ⟨q,[],X,F,rfl,hq,Sl.nil _ _ _,fun b J=>(by simp [Value.ownBlock] at J),aE.out,ay.out,Grow.refl _ _,Keep.refl _ _,by show _≤_;simp,by show _=_;simp⟩
 obtain ⟨j,H,X',F',rfl,hq',HV,HO,HL,HX,HG,a5,HW,HT⟩:=hrel
 obtain ⟨v8,aO⟩:∃ v8,v8=u8:=⟨_,rfl⟩
 subst aO
 by_cases hq0:0<j
 ·cases X' with
  | nil=>
   obtain ⟨U,h2,v,hB,hS,h5⟩:=HL.out
   obtain ⟨m,hm⟩:∃ m,([]:List Ent).length=m:=⟨_,rfl⟩
   rw [hm] at hS
   have HB:=Kj hB
   have HS:=Kj hS
   have an:=h2 p U
   clear hB hS U h2 h5
   have O:=Kj (JJy (t:=takeM firm q X) HT.out (zJ firm j))
   have av:m=0:=by simpa using hm.symm
   clear HT
   go_upto_region 2 with fail
   refine wA 10 [iV j,bV true,bV true,pV p 0,pV p 0,pV p 1,v,iV (m:Int),bV false,bV false] [10,11,12,13,14,15,16,17,18,19] (nS 1 (aV rfl (fun a u E D hk=>QZ rfl (dD D 0) rfl) (Ky hq0)) (nS 6 (sV rfl (fun a u E D hk=>Qx _ _ Tryz.underlying121 _ _ _ rfl (dD D 5) (by rw [(HB.out.kept hk).cell];rfl))) (nS 7 (sV rfl (fun a u E D hk=>Jx _ slE _ _ _ _ rfl (dD D 6) HS.out)) (nS 8 (aV rfl (fun a u E D hk=>QZ rfl (dD D 7) rfl) (Ku (by omega))) nZ)))) ?_
   intro w1 I
   simp only [F8]
   have N:=a5.kept I
   have s1:=I.size
   go_wp2
   go_ret2
   refine ⟨F',v8,?_,?_,?_,HO.out,HG.out,N⟩
   ·rw [O.out];rfl
   ·rw [O.out];exact HL.out.kept I
   rw [O.out];exact HV.out.kept I
  | cons e R=>
   obtain ⟨U,h2,v,hB,hS,h5⟩:=HL.out
   obtain ⟨m,hm⟩:∃ m,(e::R).length=m:=⟨_,rfl⟩
   rw [hm] at hS
   have HB:=Kj hB
   have HS:=Kj hS
   have an:=h2 p U
   clear hB hS U h2 h5
   have av:0<m:=by rw [← hm];simp
   obtain ⟨g,off,c,rfl⟩:=HS.out.some_ av
   have HE:Hid (wr.rangeAt g off e.cells):=HS.out.rng 0 e rfl
   have J:=HX.out.bound (e:=e) (by simp)
   go_upto_region 2 with fail
   refine wA 10 [iV j,bV true,bV true,pV p 0,pV p 0,pV p 1,.slice (some ⟨g,off,none⟩) m c,iV (m:Int),bV true,bV true] [10,11,12,13,14,15,16,17,18,19] (nS 1 (aV rfl (fun a u E D hk=>QZ rfl (dD D 0) rfl) (Ky hq0)) (nS 6 (sV rfl (fun a u E D hk=>Qx _ _ Tryz.underlying121 _ _ _ rfl (dD D 5) (by rw [(HB.out.kept hk).cell];rfl))) (nS 7 (sV rfl (fun a u E D hk=>ZV _ _ _ slE.und (some ⟨g,off,none⟩) m c rfl (dD D 6))) (nS 8 (aV rfl (fun a u E D hk=>QZ rfl (dD D 7) rfl) (Ky (by omega))) nZ)))) ?_
   intro w1 I
   simp only [F8]
   have N:=a5.kept I
   have s1:=I.size
   have aa:=Kj (HB.out.kept I)
   have ac:=Kj (JJ HE.out I)
   clear HB HE HS
   by_cases hf:e.o.firm=firm
   ·have O:=Kj (JJy (t:=takeM firm q X) HT.out (JQJ firm j e R hq0 (by omega) hf))
    clear HT
    go_upto_region 3 with fail
    refine wA 10 [pV p 0,pV p 0,pV p 1,.slice (some ⟨g,off,none⟩) m c,pV g off,pV g off,pV g (off+2),iV e.o.firm,iV firm,bV true] [20,21,22,23,24,25,26,27,28,29] (nS 3 (sV rfl (fun a u E D hk=>Qx _ _ Tryz.underlying121 _ _ _ rfl (dD D 2) (by rw [(aa.out.kept hk).cell];rfl))) (nS 4 (ixV slE (off) m 0 (0) ((by omega))) (nS 7 (ldR ac.out 2) (nS 9 (aV rfl (fun a u E D hk=>JY rfl (dD D 7) (dD D 8)) (Ky hf)) nZ)))) ?_
    intro w2 k2
    simp only [F8]
    have a4:=N.kept k2
    go_wp2
    go_ret2
    refine ⟨F',v8,?_,?_,?_,HO.out,HG.out,a4⟩
    ·rw [O.out];rfl
    ·rw [O.out];exact HL.out.kept (I.trans k2)
    rw [O.out];exact HV.out.kept (I.trans k2)
   have O:=Kj (take_next_ HT.out hq0 (by omega) hf)
   clear HT
   go_upto_region 3 with fail
   refine wA 10 [pV p 0,pV p 0,pV p 1,.slice (some ⟨g,off,none⟩) m c,pV g off,pV g off,pV g (off+2),iV e.o.firm,iV firm,bV false] [20,21,22,23,24,25,26,27,28,29] (nS 3 (sV rfl (fun a u E D hk=>Qx _ _ Tryz.underlying121 _ _ _ rfl (dD D 2) (by rw [(aa.out.kept hk).cell];rfl))) (nS 4 (ixV slE (off) m 0 (0) ((by omega))) (nS 7 (ldR ac.out 2) (nS 9 (aV rfl (fun a u E D hk=>JY rfl (dD D 7) (dD D 8)) (Ku hf)) nZ)))) ?_
   intro w2 k2
   simp only [F8]
   have a2:=I.trans k2
   have a4:=N.kept k2
   have s2:=k2.size
   have s0:=a5.size
   have ak:=mn_le j e.n
   have hmn2:=mn_pos j e.n hq0 (by omega)
   have aJ:Hid (H.length≤99999999):=by
    show _≤_
    have U:=HW.out
    have h2:=ay.out.few
    have h3:=YW HX.out.ok
    simp only [List.length_cons] at h3
    omega
   have aw:=Kj (HL.out.kept a2)
   have af:=Kj (HV.out.kept a2)
   have aH:Hid (∀ b,v8.ownBlock=some b→b<w2.heap.size):=fun b J=>(HV.out.kept a2).lt J
   clear aa ac I k2 a2 HL HV N
   go_upto_region 5 with fail
   refine wp_region_lit ?_
   refine aT (.pointer (some ⟨p,0,none⟩)) ?_
   refine aT (.int .i64 j) ?_
   refine cT Tryz.func119 [.pointer (some ⟨p,0,none⟩),.int .i64 j] ?_
   refine (hitFirst_any w2 F' p e j R aw.out HX.out hq0).mono ?_
   rintro r w3 ⟨F2,rfl,a9,ab,a6⟩
   refine ⟨_,rfl,?_⟩
   refine l_alloc 85 XY.cells rfl rfl zH ?_
   intro w4 ad z4 k4
   obtain ⟨b9,aG⟩:∃ b,b=w3.heap.size:=⟨_,rfl⟩
   rw [← aG] at ad ⊢
   refine YV 85 b9 85 XY.cells (Ent.mk e.o (mn j e.n)).cells _ _ rfl rfl (by kernel_rfl) (by kernel_rfl) ad (by rw [Ent.len10];exact szH) (by rw [Ent.len10,Ent.len10]) (Ent.one _) ?_
   intro w5 ag ax hs5
   simp only [Act.put,sA,sS,sZ]
   refine Kx ?_
   have a3:Kept w3 w5:=k4.trans' ax (by omega)
   have s3:=a6.size
   have s5:=a3.size
   have aD:Hid (Grow w F F2):=Grow.trans HG.out ab (by omega)
   have aF:Keep F w w5:=(Grow.keep HG.out a4 a6).kept a3
   have ar:=Kj (a9.kept a3)
   have al:=Kj ((af.out.keep a6 (fun b J hF=>(HO.out b J).2 hF)).kept a3)
   have a7:Hid (∀ b,v8.ownBlock=some b→w.heap.size≤b∧¬ F2 b):=fun b J=>⟨(HO.out b J).1,fun h=>by
    rcases ab b h with h | h
    ·exact (HO.out b J).2 h
    have:=af.out.lt J;omega⟩
   have aN:Hid (∀ b,F2 b→b<w3.heap.size):=a9.2.1
   have ae:=Kj (JX ag)
   have hb9l:=ag.lt
   clear a9 ab a6 ad ag k4 ax aw af HO HG a4
   go_upto_region 6 with fail
   refine tAp 3 [.v (v8),.v ((Ent.mk e.o (mn j e.n)).v),.k (.sl w5.heap.size 85 10 1 (Ent.mk e.o (mn j e.n)).cells)] (nS 1 (ldS Tryz.underlying85 (fun u hk=>JJ ae.out hk) (by rw [(Ent.mk e.o (mn j e.n)).len10];exact szH)) (nS 2 (nV rfl (fun a u E D hk=>⟨_,_,VJ slH _ (Ent.mk e.o (mn j e.n)).cells (by omega) rfl (dD D 1) ((Ent.mk e.o (mn j e.n)).len10),(jY u 85 10 _ w5.heap.size ((Ent.mk e.o (mn j e.n)).len10) (by omega) hk.size),((Keep.refl _ u).alloc _)⟩)) nZ)) ?_
   intro gv w6 hV k6
   rw [dq 3 [34,35,36]]
   simp only [Fz7]
   rw [gQ hV 0 34 v8]
   have a1:(.sl w5.heap.size 85 10 1 (Ent.mk e.o (mn j e.n)).cells:Kn).p (gv 36) w6:=hV 2 36 (by kernel_rfl)
   generalize gv 36=v36 at a1 ⊢
   clear hV
   have aB:=aJ.out
   obtain ⟨v7,w7,au,ai,ah,ao⟩:=QQ slH _ w6 v8 v36 H.length 1 _ _ (al.out.kept k6) a1.1 (Ent.one _) (by unfold maxLen;omega) (by omega)
   refine Vj v7 w7 rfl (QV slH (.tmp 34) (.tmp 36) v8 v36 rfl (by kernel_rfl) (by kernel_rfl) v7 w7 au) ?_
   refine aT (v7) ?_
   simp only [Act.put,sA,sS,sZ]
   refine Kx ?_
   have s6:=k6.size
   have s7:=ah.size
   have K7:Keep (fun b=>v8.ownBlock=some b) w5 w7:=(Keep.mono (T:=fun b=>v8.ownBlock=some b) k6 (fun _ _ h=>h.elim)).trans ah (fun _ _ h=>h)
   have az:=Kj (ar.out.keep K7 (fun b J hv=>(a7.out b hv).2 J))
   have am:Keep F w w7:=aF.trans K7 (fun b J hv=>by have:=(a7.out b hv).1;omega)
   have aC:Hid (∀ b,v7.ownBlock=some b→w.heap.size≤b∧¬ F2 b):=fun b J=>by
    rcases ao b J with h | h
    ·exact a7.out b h
    exact ⟨by omega,fun hF=>by have:=aN.out b hF;omega⟩
   have aj:Hid (Sl w7 85 10 v7 (H++[Ent.mk e.o (mn j e.n)]).length (ents (H++[Ent.mk e.o (mn j e.n)]))):=by
    show Sl _ _ _ _ _ _
    rw [List.length_append,ents_snoc]
    exact ai
   have a8:¬ v8.ownBlock=some b9:=fun h=>by have:=aH.out b9 h;omega
   have aq:=Kj (QJ ae.out K7 a8)
   clear ai ah ao au a1 ar a7 al ae k6 K7 a8
   go_upto_region 7 with fail
   refine wAp 4 [iV j,pV b9 9,iV ((Ent.mk e.o (mn j e.n)).n),iV (j-mn j e.n)] [38,39,40,41] (nS 2 (ldR aq.out 9) (nS 3 (sV rfl (fun a u E D hk=>Zz (j-mn j e.n) rfl (dD D 0) (dD D 2) rfl (by omega) (by omega))) nZ)) ?_
   intro w8 k8
   simp only [F8]
   refine aT (.int .i64 (j-mn j e.n)) ?_
   simp only [Act.put,sA,sS,sZ]
   refine Kx ?_
   have aL:Hid (((H++[Ent.mk e.o (mn j e.n)]).length:Int)+XX (Yx e (mn j e.n) R)≤XX X):=by
    show _≤_
    have U:=HW.out
    rw [yQ,List.length_append]
    rw [Vz] at U
    simp only [List.length_cons,List.length_nil]
    omega
   have aK:=Kj (zQ HX.out (n:=mn j e.n) (by omega) ak.2)
   have aM:=Kj (az.out.kept k8)
   have aI:=Kj (aj.out.kept k8)
   have aA:=am.kept k8
   clear HW HX az aj am k8 aB
   go_wp2
   exact ⟨⟨j-mn j e.n,H++[Ent.mk e.o (mn j e.n)],Yx e (mn j e.n) R,F2,rfl,by omega,aI,aC,aM,aK,aD,aA,aL,O⟩,by simp [intOf];omega⟩
 skip
 obtain ⟨U,h2,v,hB,hS,h5⟩:=HL.out
 obtain ⟨m,hm⟩:∃ m,X'.length=m:=⟨_,rfl⟩
 rw [hm] at hS
 have HB:=Kj hB
 have HS:=Kj hS
 have an:=h2 p U
 clear hB hS U h2 h5
 have O:=Kj (JJy (t:=takeM firm q X) HT.out (UX firm j X' (by omega)))
 clear HT
 go_upto_region 2 with fail
 refine wA 10 [iV j,bV false,bV false,undef,undef,undef,undef,undef,undef,bV false] [10,11,12,13,14,15,16,17,18,19] (nS 1 (aV rfl (fun a u E D hk=>QZ rfl (dD D 0) rfl) (Ku hq0)) nZ) ?_
 intro w1 I
 simp only [F8]
 have N:=a5.kept I
 have s1:=I.size
 go_wp2
 go_ret2
 refine ⟨F',v8,?_,?_,?_,HO.out,HG.out,N⟩
 ·rw [O.out];rfl
 ·rw [O.out];exact HL.out.kept I
 rw [O.out];exact HV.out.kept I
end Go.Proofs.YtklohceombpleaaGreat
namespace Go.Proofs.YtklohceombpleaaGreat
open Go.RowKit
variable {pr:Int}
def caps (g1 g2:Nat):List Value:=[.pointer (some ⟨g1,0,none⟩),.pointer (some ⟨g2,0,none⟩)]
def clo (g1 g2:Nat):Value:=.func (.func 113) #[] (caps g1 g2).toArray
section
variable {a:Act} {o:Oper} {u:World}
theorem zV (f : Nat) (j : Func) (x : Operand) (xs : List Operand) (ts : Array TypeId) (args caps : List Value) (O : Tryz.prog.funcs[f]? = some j) (U : (j.name == "runtime.NumGoroutine") = false) (J : j.body.isNone = false) (D : o.op = .call { callee := .value x, args := xs.toArray, argTypes := ts }) (hv : a.eval x = .func (.func f) #[] caps.toArray) (hx : xs.map a.eval = args) :
  (execOp a.eval o).run Tryz.prog u=.ok (.enter f (args++caps).toArray) u:=by
 have N:(callFunc f (args++caps).toArray).run Tryz.prog u=.ok (.enter f (args++caps).toArray) u:=by
  have H : ¬ j.name = "runtime.NumGoroutine" := by simpa using U
  have I:¬ j.body=none:=by
   intro h
   rw [h] at J
   cases J
  simp [callFunc,O,H,I]
 unfold execOp
 simp only [D,resolve,invoke,hv,List.map_toArray,hx,Sem.run_bind]
 simp [Deferred.ofValue,N]
theorem exec_mkf (x y:Operand) (H D:Nat) (j:o.op=.makeFunc (.func 113) #[] #[x,y]) (hx:a.eval x=.pointer (some ⟨H,0,none⟩)) (I:a.eval y=.pointer (some ⟨D,0,none⟩)):(execOp a.eval o).run Tryz.prog u=.ok (.value (clo H D)) u:=by
 unfold execOp
 simp only [j,Instr.makeFunc,List.map_toArray,List.map_cons,List.map_nil,hx,I]
 rfl
end
theorem is_any (e:Ent) (t i:Int) (g1 O:Nat) (w:World) (h1:Blk w g1 3 [.int .i64 t]) (h2:Blk w O 3 [.int .i64 i]):Gives 113 #[e.v,.pointer (some ⟨g1,0,none⟩),.pointer (some ⟨O,0,none⟩)] w (.eq (.bool (e.is t i))):=by
 refine QW ?_
 have H1:=Kj h1
 have H2:=Kj h2
 clear h1 h2
 go_enter Tryz.func113,Tryz.ntmps113
 go_upto_region 0 with fail
 refine tAp 2 [.k (.fresh w.heap.size 120 (e.cells)),bK false] (nS 0 (nV rfl (fun a u E D hk=>⟨_,_,XV 120 _ (e.cells) rfl (eE E),⟨_,rfl,hk.size,Blk.new u _ _⟩,((Keep.refl _ u).alloc _)⟩)) nZ) ?_
 intro gv w1 H J
 rw [dq 2 [3,4]]
 simp only [Fz7]
 have I:(.fresh w.heap.size 120 (e.cells):Kn).p (gv 3) w1:=H 0 3 (by kernel_rfl)
 generalize gv 3=v3 at I ⊢
 clear H
 obtain ⟨g,rfl,hg,hB⟩:=I
 refine Kx ?_
 have HB:=Kj (JX hB)
 have a1:=Kj (H1.out.kept J)
 have N:=Kj (H2.out.kept J)
 clear hB H1 H2
 go_upto_region 1 with fail
 refine tA 13 [pK g 0,pK g 0,iK e.o.tr,iK t,bK (decide ((e.o.tr:Int)=(t:Int))),bK (decide ((e.o.tr:Int)=(t:Int))),.k (.cond (decide ((e.o.tr:Int)=(t:Int))) (pE g 0)),.k (.cond (decide ((e.o.tr:Int)=(t:Int))) (pE g 1)),.k (.cond (decide ((e.o.tr:Int)=(t:Int))) (iE e.o.id)),.k (.cond (decide ((e.o.tr:Int)=(t:Int))) (iE i)),.k (.cond (decide ((e.o.tr:Int)=(t:Int))) (bE (decide ((e.o.id:Int)=(i:Int))))),bK ((decide ((e.o.tr:Int)=(t:Int))) && (decide ((e.o.id:Int)=(i:Int)))),bK ((decide ((e.o.tr:Int)=(t:Int))) && (decide ((e.o.id:Int)=(i:Int))))] [5,6,7,8,9,10,11,12,13,14,15,16,4] (nS 2 (ldR HB.out 0) (nS 3 (sV rfl (fun a u E D hk=>JZ 3 Tryz.underlying3 _ ⟨g1,0,none⟩ (.int .i64 t) rfl (eE E) (by rw [(a1.out.kept hk).cell];rfl))) (nS 4 (sV rfl (fun a u E D hk=>JY rfl (dD D 2) (dD D 3))) (nS 6 (fS (iC 7 5 rfl (fun a u E D hk j=>Jz 120 0 0 _ (g) (0) (0) rfl (eE E) (by kernel_rfl) rfl) fz)) (nS 7 (fS (iC 8 5 rfl (fun a u E D hk j=>Jz 35 1 1 _ (g) (0) (1) rfl ((D 6 11 (by kernel_rfl)).1 j) (by kernel_rfl) rfl) fz)) (nS 8 (fS (iC 9 5 rfl (fun a u E D hk j=>JZ _ Tryz.underlying3 _ _ _ rfl ((D 7 12 (by kernel_rfl)).1 j) (Xx (JJ HB.out hk) 1 _ rfl)) fz)) (nS 9 (fS (iC 10 5 rfl (fun a u E D hk j=>JZ 3 Tryz.underlying3 _ ⟨O,0,none⟩ (.int .i64 i) rfl (eE E) (by rw [(N.out.kept hk).cell];rfl)) fz)) (nS 10 (fS (iC 11 5 rfl (fun a u E D hk j=>JY rfl ((D 8 13 (by kernel_rfl)).1 j) ((D 9 14 (by kernel_rfl)).1 j)) fz)) (nS 11 (sV rfl (fun a u E D hk=>Qj _ _ _ ((decide ((e.o.tr:Int)=(t:Int)))) ((decide ((e.o.id:Int)=(i:Int)))) rfl (dD D 5) (fun U=>((D 10 15 (by kernel_rfl)).1 U)) rfl)) nZ))))))))) ?_
 intro gv w2 H k2
 simp only [Fz7]
 rw [gQ H 12 4 (.bool ((decide ((e.o.tr:Int)=(t:Int))) && (decide ((e.o.id:Int)=(i:Int)))))]
 clear H
 go_wp2
 go_ret
 exact ⟨rfl,J.trans k2⟩
theorem index_any (v:Value) (X:List Ent) (t i:Int) (J I:Nat) (w:World) (hS:Sl w 120 10 v X.length (ents X)) (a1:X.length≤100000000) (U:Blk w J 3 [.int .i64 t]) (h2:Blk w I 3 [.int .i64 i]) :
  Gives 112 #[v,clo J I] w (.eq (.int .i64 (jZ t i X))):=by
 refine QW ?_
 obtain ⟨n,hn⟩:∃ n,X.length=n:=⟨_,rfl⟩
 rw [hn] at hS a1
 have HN:=Kj hn
 have HS:=Kj hS
 have H1:=Kj U
 have H2:=Kj h2
 clear hS U h2 hn
 go_enter Tryz.func112,Tryz.ntmps112
 go_upto_region 1 with fail
 refine wA 3 [v,iV (n:Int),iV 0] [6,7,8] (nS 1 (sV rfl (fun a u E D hk=>Jx _ slE _ _ _ _ rfl (dD D 0) HS.out)) nZ) ?_
 intro w0 k0
 simp only [F8]
 go_wp2_with fail
 go_loopw [8] (fun q wr=>∃ (k:Nat),k≤n∧q=.int .i64 (k:Int)∧Hid (∀ (j:Nat) (x:Ent),j<k→X[j]?=some x→x.is t i=false)∧Kept w wr) (fun q _=>n-(intOf q).toNat)
 case atStart=>exact ⟨0,Nat.zero_le _,rfl,fun j x hj=>(by omega),k0⟩
 obtain ⟨k,hk,rfl,HM,H⟩:=hrel
 by_cases hlt:k<n
 ·obtain ⟨g,off,c,rfl⟩:=HS.out.some_ (by omega)
  obtain ⟨e,he⟩:∃ e,X[k]?=some e:=⟨X[k]'(by rw [HN.out];exact hlt),List.getElem?_eq_getElem (by rw [HN.out];exact hlt)⟩
  have HE:Hid (wr.rangeAt g (off+k*10) e.cells):=JJ (HS.out.rng k e he) H
  have a2:=Kj (H1.out.kept H)
  have a4:=Kj (H2.out.kept H)
  have a3:=Kj he
  clear he
  by_cases hm:e.is t i=true
  ·have HP:Hid (jZ t i X=(k:Int)):=by
    show _=_
    have U:=idx_of HM.out a3.out hm
    unfold jZ
    rw [U,if_pos (by rw [HN.out];exact hlt)]
   go_upto_region 4 with fail
   refine wA 6 [clo J I,.slice (some ⟨g,off,none⟩) n c,iV (k:Int),pV g (off+k*10),e.v,bV true] [11,12,13,14,15,16] (nS 3 (ixV slE (off) n k ((k:Int)) (hlt)) (nS 4 (ldS Tryz.underlying120 (fun u hk=>JJ HE.out hk) (by rw [e.len10];exact szE)) (nS 5 ((fun a u hE hD hk=>Zj 113 #[e.v,.pointer (some ⟨J,0,none⟩),.pointer (some ⟨I,0,none⟩)] rfl (JQ rfl _) (zV 113 _ (.tmp 11) [.tmp 15] _ [e.v] (caps J I) Tryz.func113 (by kernel_rfl) (by kernel_rfl) rfl (dD hD 0) (show [a.eval (.tmp 15)]=[e.v] by rw [show a.eval (.tmp 15)=e.v from (dD hD 4)])) (by rw [← hm];exact is_any e t i J I u (a2.out.kept hk) (a4.out.kept hk)))) nZ))) ?_
   intro w1 k1
   simp only [F8]
   have O:=H.trans k1
   clear H k1 hm
   go_wp2
   go_ret
   exact ⟨by rw [HP.out];rfl,O⟩
  have N:e.is t i=false:=by simpa using hm
  have a5:Hid (∀ (j:Nat) (x:Ent),j<k+1→X[j]?=some x→x.is t i=false):=by
   intro j x hj hx
   by_cases hjk:j=k
   ·subst hjk
    rw [a3.out] at hx
    injection hx with hx
    rw [← hx]
    exact N
   exact HM.out j x (by omega) hx
  clear hm
  go_upto_region 4 with fail
  refine wA 6 [clo J I,.slice (some ⟨g,off,none⟩) n c,iV (k:Int),pV g (off+k*10),e.v,bV false] [11,12,13,14,15,16] (nS 3 (ixV slE (off) n k ((k:Int)) (hlt)) (nS 4 (ldS Tryz.underlying120 (fun u hk=>JJ HE.out hk) (by rw [e.len10];exact szE)) (nS 5 ((fun a u hE hD hk=>Zj 113 #[e.v,.pointer (some ⟨J,0,none⟩),.pointer (some ⟨I,0,none⟩)] rfl (JQ rfl _) (zV 113 _ (.tmp 11) [.tmp 15] _ [e.v] (caps J I) Tryz.func113 (by kernel_rfl) (by kernel_rfl) rfl (dD hD 0) (show [a.eval (.tmp 15)]=[e.v] by rw [show a.eval (.tmp 15)=e.v from (dD hD 4)])) (by rw [← N];exact is_any e t i J I u (a2.out.kept hk) (a4.out.kept hk)))) nZ))) ?_
  intro w1 k1
  simp only [F8]
  have O:=H.trans k1
  clear H k1 N
  go_wp2
  exact ⟨⟨k+1,by omega,by go_num,a5,O⟩,by simp [intOf];omega⟩
 have HP:Hid (jZ t i X=-1):=by
  show _=_
  have U:Wj t i X=X.length:=idx_none (fun j x hj hx=>HM.out j x (by rw [HN.out] at hj;omega) hx)
  unfold jZ
  rw [U,if_neg (by omega)]
 clear HM
 go_wp2
 go_ret
 exact ⟨by rw [HP.out];rfl,H⟩
theorem JQV (w:World) (F:Nat→Prop) (p:Nat) (X:List Ent) (t i:Int) (h:Lvl pr 123 120 w F p X) (H:X.length≤100000000):Gives 100 #[.pointer (some ⟨p,0,none⟩),.int .i64 t,.int .i64 i] w (.eq (.int .i64 (jZ t i X))):=by
 refine QW ?_
 obtain ⟨h1,h2,v,hB,hS,h5⟩:=h
 have HB:=Kj hB
 have HS:=Kj hS
 clear hB hS h5 h1 h2
 go_enter Tryz.func100,Tryz.ntmps100
 go_upto_region 0 with fail
 refine tAp 3 [.k (.fresh w.heap.size 3 ([.int .i64 t])),.k (.fresh w.heap.size 3 ([.int .i64 i])),iK 0] (nS 0 (nV rfl (fun a u E D hk=>⟨_,_,exec_boxi 3 _ (.int .i64 t) rfl (eE E) rfl,⟨_,rfl,hk.size,Blk.new u _ _⟩,((Keep.refl _ u).alloc _)⟩)) (nS 1 (nV rfl (fun a u E D hk=>⟨_,_,exec_boxi 3 _ (.int .i64 i) rfl (eE E) rfl,⟨_,rfl,hk.size,Blk.new u _ _⟩,((Keep.refl _ u).alloc _)⟩)) nZ)) ?_
 intro gv w1 hV O
 rw [dq 3 [4,5,6]]
 simp only [Fz7]
 have J:(.fresh w.heap.size 3 ([.int .i64 t]):Kn).p (gv 4) w1:=hV 0 4 (by kernel_rfl)
 generalize gv 4=v4 at J ⊢
 have I:(.fresh w.heap.size 3 ([.int .i64 i]):Kn).p (gv 5) w1:=hV 1 5 (by kernel_rfl)
 generalize gv 5=v5 at I ⊢
 clear hV
 obtain ⟨g1,rfl,hg1,N⟩:=J
 obtain ⟨g2,rfl,hg2,j⟩:=I
 refine Kx ?_
 have a2:=Kj N
 have a1:=Kj j
 have U:=Kj (HB.out.kept O)
 have a3:=Kj (HS.out.kept O)
 clear N j HB HS
 go_upto_region 1 with fail
 refine wAp 6 [pV p 0,pV p 0,pV p 1,v,clo g1 g2,iV (jZ t i X)] [7,8,9,10,11,12] (nS 3 (sV rfl (fun a u E D hk=>Qx _ _ Tryz.underlying121 _ _ _ rfl (dD D 2) (by rw [(U.out.kept hk).cell];rfl))) (nS 4 (sV rfl (fun a u E D hk=>exec_mkf _ _ g1 g2 rfl (eE E) (eE E))) (nS 5 (cV Tryz.func112 (fun u hk=>index_any v X t i g1 g2 u (a3.out.kept hk) H (a2.out.kept hk) (a1.out.kept hk))) nZ))) ?_
 intro w2 k2
 simp only [F8]
 refine aT (.int .i64 (jZ t i X)) ?_
 simp only [Act.put,sA,sS,sZ]
 refine Kx ?_
 go_wp2
 go_ret
 exact ⟨rfl,O.trans k2⟩
theorem less_none (w:World) (F:Nat→Prop) (p:Nat) (X:List Ent) (t i q:Int) (h:Lvl pr 123 120 w F p X) (j:X.length≤100000000) (O:¬ Wj t i X<X.length):Calls Tryz.prog 89 #[.pointer (some ⟨p,0,none⟩),.int .i64 t,.int .i64 i,.int .i64 q] w fun r w'=>r=.returned (.bool (ZQ t i q X).1)∧Lvl pr 123 120 w' F p (ZQ t i q X).2∧Keep F w w'∧((ZQ t i q X).1=false→Kept w w'):=by
 have U:Hid (ZQ t i q X=(false,X)):=by
  show _=_
  unfold ZQ
  rw [List.getElem?_eq_none (by omega)]
 have N:Hid (jZ t i X=-1):=by show _=_;unfold jZ;rw [if_neg O]
 have H:=Kj h
 clear h O
 go_enter Tryz.func89,Tryz.ntmps89
 go_upto_region 1 with fail
 refine wAp 4 [pV p 0,iV t,iV i,iV (-1)] [11,12,13,14] (nS 3 (cV Tryz.func100 (fun u hk=>(by rw [← N.out];exact JQV u F p X t i (H.out.kept hk) j))) nZ) ?_
 intro w1 I
 simp only [F8]
 refine aT (.int .i64 (-1)) ?_
 simp only [Act.put,sA,sS,sZ]
 refine Kx ?_
 go_upto_region 2 with fail
 refine wA 19 [iV (-1),bV true,bV true,undef,undef,bV true,bV true,undef,undef,undef,undef,undef,undef,undef,undef,undef,undef,undef,bV true] [15,16,17,18,19,20,21,22,23,24,25,26,27,28,29,30,31,32,33] (nS 1 (aV rfl (fun a u E D hk=>YU rfl (dD D 0) rfl) rfl) nZ) ?_
 intro w2 J
 simp only [F8]
 go_wp2
 go_ret
 exact ⟨by rw [U.out];rfl,by rw [U.out];exact H.out.kept (I.trans J),(Keep.mono (T:=F) (I.trans J) (fun _ _ h=>h.elim)),fun _=>I.trans J⟩
theorem less_low (w:World) (F:Nat→Prop) (p:Nat) (X:List Ent) (t i q:Int) (h:Lvl pr 123 120 w F p X) (H:X.length≤100000000) (e:Ent) (j:X[Wj t i X]?=some e) (hq:¬ 1≤q):Calls Tryz.prog 89 #[.pointer (some ⟨p,0,none⟩),.int .i64 t,.int .i64 i,.int .i64 q] w fun r w'=>r=.returned (.bool (ZQ t i q X).1)∧Lvl pr 123 120 w' F p (ZQ t i q X).2∧Keep F w w'∧((ZQ t i q X).1=false→Kept w w'):=by
 have HR:Hid (ZQ t i q X=(false,X)):=by
  show _=_
  unfold ZQ
  rw [j]
  simp only
  rw [if_neg (fun h=>hq h.1)]
 obtain ⟨k,O⟩:∃ k,Wj t i X=k:=⟨_,rfl⟩
 rw [O] at j
 obtain ⟨n,N⟩:∃ n,X.length=n:=⟨_,rfl⟩
 have a1:k<n:=by rw [← N];exact (List.getElem?_eq_some_iff.1 j).1
 have a2:Hid (jZ t i X=(k:Int)):=by show _=_;unfold jZ;rw [O,if_pos (by rw [N];exact a1)]
 have hn1:n≤100000000:=by omega
 have J:=Kj h
 obtain ⟨h1,h2,v,hB,U,h5⟩:=h
 rw [N] at U
 obtain ⟨g,off,c,rfl⟩:=U.some_ (by omega)
 have HE:Hid (w.rangeAt g (off+k*10) e.cells):=U.rng k e j
 have HB:=Kj hB
 have HS:=Kj U
 have H1:=Kj h1
 have H2:=Kj h2
 have H5:=Kj h5
 have HEI:=Kj j
 have HN:=Kj N
 clear hB U h5 h1 h2 j N
 go_enter Tryz.func89,Tryz.ntmps89
 go_upto_region 1 with fail
 refine wAp 4 [pV p 0,iV t,iV i,iV (k:Int)] [11,12,13,14] (nS 3 (cV Tryz.func100 (fun u hk=>(by rw [← a2.out];exact JQV u F p X t i (J.out.kept hk) H))) nZ) ?_
 intro w1 I
 simp only [F8]
 refine aT (.int .i64 (k:Int)) ?_
 simp only [Act.put,sA,sS,sZ]
 refine Kx ?_
 have HB1:=Kj (HB.out.kept I)
 have HE1:=Kj (JJ HE.out I)
 go_upto_region 2 with fail
 refine wA 19 [iV (k:Int),bV false,bV false,iV q,bV true,bV true,bV true,undef,undef,undef,undef,undef,undef,undef,undef,undef,undef,undef,bV true] [15,16,17,18,19,20,21,22,23,24,25,26,27,28,29,30,31,32,33] (nS 1 (aV rfl (fun a u E D hk=>YU rfl (dD D 0) rfl) (Ku (by omega))) (nS 4 (aV rfl (fun a u E D hk=>YU rfl (dD D 3) rfl) (Ky (by omega))) nZ)) ?_
 intro w2 k2
 simp only [F8]
 go_wp2
 go_ret
 exact ⟨by rw [HR.out];rfl,by rw [HR.out];exact J.out.kept (I.trans k2),(Keep.mono (T:=F) (I.trans k2) (fun _ _ h=>h.elim)),fun _=>I.trans k2⟩
theorem less_high (w:World) (F:Nat→Prop) (p:Nat) (X:List Ent) (t i q:Int) (h:Lvl pr 123 120 w F p X) (H:X.length≤100000000) (e:Ent) (j:X[Wj t i X]?=some e) (hq:1≤q) (a2:¬ q≤e.o.qty):Calls Tryz.prog 89 #[.pointer (some ⟨p,0,none⟩),.int .i64 t,.int .i64 i,.int .i64 q] w fun r w'=>r=.returned (.bool (ZQ t i q X).1)∧Lvl pr 123 120 w' F p (ZQ t i q X).2∧Keep F w w'∧((ZQ t i q X).1=false→Kept w w'):=by
 have HR:Hid (ZQ t i q X=(false,X)):=by
  show _=_
  unfold ZQ
  rw [j]
  simp only
  rw [if_neg (fun h=>a2 h.2)]
 obtain ⟨k,U⟩:∃ k,Wj t i X=k:=⟨_,rfl⟩
 rw [U] at j
 obtain ⟨n,O⟩:∃ n,X.length=n:=⟨_,rfl⟩
 have J:k<n:=by rw [← O];exact (List.getElem?_eq_some_iff.1 j).1
 have a4:Hid (jZ t i X=(k:Int)):=by show _=_;unfold jZ;rw [U,if_pos (by rw [O];exact J)]
 have hn1:n≤100000000:=by omega
 have N:=Kj h
 obtain ⟨h1,h2,v,hB,hS,h5⟩:=h
 rw [O] at hS
 obtain ⟨g,off,c,rfl⟩:=hS.some_ (by omega)
 have HE:Hid (w.rangeAt g (off+k*10) e.cells):=hS.rng k e j
 have HB:=Kj hB
 have HS:=Kj hS
 have H1:=Kj h1
 have H2:=Kj h2
 have H5:=Kj h5
 have HEI:=Kj j
 have HN:=Kj O
 clear hB hS h5 h1 h2 j O
 go_enter Tryz.func89,Tryz.ntmps89
 go_upto_region 1 with fail
 refine wAp 4 [pV p 0,iV t,iV i,iV (k:Int)] [11,12,13,14] (nS 3 (cV Tryz.func100 (fun u hk=>(by rw [← a4.out];exact JQV u F p X t i (N.out.kept hk) H))) nZ) ?_
 intro w1 I
 simp only [F8]
 refine aT (.int .i64 (k:Int)) ?_
 simp only [Act.put,sA,sS,sZ]
 refine Kx ?_
 have a3:=Kj (HB.out.kept I)
 have a1:=Kj (JJ HE.out I)
 go_upto_region 2 with fail
 refine wA 19 [iV (k:Int),bV false,bV false,iV q,bV false,bV false,bV false,iV q,pV p 0,pV p 0,pV p 1,.slice (some ⟨g,off,none⟩) n c,iV (k:Int),pV g (off+k*10),pV g (off+k*10),pV g (off+k*10+6),iV e.o.qty,bV true,bV true] [15,16,17,18,19,20,21,22,23,24,25,26,27,28,29,30,31,32,33] (nS 1 (aV rfl (fun a u E D hk=>YU rfl (dD D 0) rfl) (Ku (by omega))) (nS 4 (aV rfl (fun a u E D hk=>YU rfl (dD D 3) rfl) (Ku (by omega))) (nS 11 (sV rfl (fun a u E D hk=>Qx _ _ Tryz.underlying121 _ _ _ rfl (dD D 10) (by rw [(a3.out.kept hk).cell];rfl))) (nS 13 (ixV slE (off) n k ((k:Int)) (J)) (nS 16 (ldR a1.out 6) (nS 17 (aV rfl (fun a u E D hk=>QZ rfl (dD D 7) (dD D 16)) (Ky (by omega))) nZ)))))) ?_
 intro w2 k2
 simp only [F8]
 go_wp2
 go_ret
 exact ⟨by rw [HR.out];rfl,by rw [HR.out];exact N.out.kept (I.trans k2),(Keep.mono (T:=F) (I.trans k2) (fun _ _ h=>h.elim)),fun _=>I.trans k2⟩
theorem less_yes (w:World) (F:Nat→Prop) (p:Nat) (X:List Ent) (t i q:Int) (h:Lvl pr 123 120 w F p X) (a6:X.length≤100000000) (e:Ent) (U:X[Wj t i X]?=some e) (hq:1≤q) (ac:q≤e.o.qty):Calls Tryz.prog 89 #[.pointer (some ⟨p,0,none⟩),.int .i64 t,.int .i64 i,.int .i64 q] w fun r w'=>r=.returned (.bool (ZQ t i q X).1)∧Lvl pr 123 120 w' F p (ZQ t i q X).2∧Keep F w w'∧((ZQ t i q X).1=false→Kept w w'):=by
 have HR:Hid (ZQ t i q X=(true,X.set (Wj t i X) ⟨e.o.q q,mn e.n q⟩)):=by
  show _=_
  unfold ZQ
  rw [U]
  simp only
  rw [if_pos ⟨hq,ac⟩]
 obtain ⟨k,a9⟩:∃ k,Wj t i X=k:=⟨_,rfl⟩
 rw [a9] at U HR
 obtain ⟨n,hn⟩:∃ n,X.length=n:=⟨_,rfl⟩
 have H:k<n:=by rw [← hn];exact (List.getElem?_eq_some_iff.1 U).1
 have ah:Hid (jZ t i X=(k:Int)):=by show _=_;unfold jZ;rw [a9,if_pos (by rw [hn];exact H)]
 have hn1:n≤100000000:=by omega
 have ab:=Kj h
 obtain ⟨h1,h2,v,hB,hS,h5⟩:=h
 rw [hn] at hS
 obtain ⟨g,off,c,rfl⟩:=hS.some_ (by omega)
 have HE:Hid (w.rangeAt g (off+k*10) e.cells):=hS.rng k e U
 have HB:=Kj hB
 have HS:=Kj hS
 have H1:=Kj h1
 have H2:=Kj h2
 have H5:=Kj h5
 have af:=Kj U
 have HN:=Kj hn
 clear hB hS h5 h1 h2 U hn
 have a4:g≠p:=(H5.out g rfl).2
 go_enter Tryz.func89,Tryz.ntmps89
 go_upto_region 1 with fail
 refine wAp 4 [pV p 0,iV t,iV i,iV (k:Int)] [11,12,13,14] (nS 3 (cV Tryz.func100 (fun u hk=>(by rw [← ah.out];exact JQV u F p X t i (ab.out.kept hk) a6))) nZ) ?_
 intro w1 k1
 simp only [F8]
 refine aT (.int .i64 (k:Int)) ?_
 simp only [Act.put,sA,sS,sZ]
 refine Kx ?_
 have a2:=Kj (HB.out.kept k1)
 have a7:=Kj (JJ HE.out k1)
 go_upto_region 2 with fail
 refine wA 19 [iV (k:Int),bV false,bV false,iV q,bV false,bV false,bV false,iV q,pV p 0,pV p 0,pV p 1,.slice (some ⟨g,off,none⟩) n c,iV (k:Int),pV g (off+k*10),pV g (off+k*10),pV g (off+k*10+6),iV e.o.qty,bV false,bV false] [15,16,17,18,19,20,21,22,23,24,25,26,27,28,29,30,31,32,33] (nS 1 (aV rfl (fun a u E D hk=>YU rfl (dD D 0) rfl) (Ku (by omega))) (nS 4 (aV rfl (fun a u E D hk=>YU rfl (dD D 3) rfl) (Ku (by omega))) (nS 11 (sV rfl (fun a u E D hk=>Qx _ _ Tryz.underlying121 _ _ _ rfl (dD D 10) (by rw [(a2.out.kept hk).cell];rfl))) (nS 13 (ixV slE (off) n k ((k:Int)) (H)) (nS 16 (ldR a7.out 6) (nS 17 (aV rfl (fun a u E D hk=>QZ rfl (dD D 7) (dD D 16)) (Ku (by omega))) nZ)))))) ?_
 intro w2 k2
 simp only [F8]
 have J:=k1.trans k2
 have a5:=Kj (HB.out.kept J)
 clear a2 a7 k1 k2 HE
 go_upto_region 4 with fail
 refine wA 7 [pV p 0,pV p 0,pV p 1,.slice (some ⟨g,off,none⟩) n c,iV (k:Int),pV g (off+k*10),pV g (off+k*10)] [34,35,36,37,38,39,10] (nS 3 (sV rfl (fun a u E D hk=>Qx _ _ Tryz.underlying121 _ _ _ rfl (dD D 2) (by rw [(a5.out.kept hk).cell];rfl))) (nS 5 (ixV slE (off) n k ((k:Int)) (H)) nZ)) ?_
 intro w3 k3
 simp only [F8]
 have j:=J.trans k3
 have a3:=Kj (HS.out.kept j)
 have a8:=Kj (HB.out.kept j)
 have z3:=j.size
 clear HS HB a5 J k3
 go_upto_region 5 with fail
 refine wAp 5 [pV g (off+k*10),iV q,pV g (off+k*10),pV g (off+k*10),pV g (off+k*10+6)] [40,41,42,43,44] nZ ?_
 intro w4 k4
 simp only [F8]
 refine l_rowi 120 g off n c k 6 X e ⟨e.o.q q,e.n⟩ q ⟨g,off+k*10+6,none⟩ _ _ rfl rfl (by kernel_rfl) (by kernel_rfl) (by rw [Nat.add_assoc]) (a3.out.kept k4) HN.out.symm af.out (by omega) rfl ?_
 intro w5 N O hs5
 simp only [Act.put]
 refine Kx ?_
 have I:Hid ((X.set k ⟨e.o.q q,e.n⟩)[k]?=some ⟨e.o.q q,e.n⟩):=by
  show _=_
  rw [List.getElem?_set_self (by rw [HN.out];exact H)]
 have ae:=Kj N
 have ai:Hid (w5.rangeAt g (off+k*10) (Ent.mk (e.o.q q) e.n).cells):=N.rng k _ I.out
 have z5:w.heap.size≤w5.heap.size:=by have:=k4.size;omega
 have K5:Keep (·=g) w w5:=(Keep.mono (T:=(·=g)) (j.trans k4) (fun _ _ h=>h.elim)).trans O (fun _ _ h=>h)
 have ag:=Kj ((a8.out.kept k4).keep O (fun e=>a4 e.symm))
 clear N O k4 j a3 a8
 go_upto_region 6 with fail
 refine wAp 9 [pV g (off+k*10),pV g (off+k*10),pV g (off+k*10),pV g (off+k*10+9),iV ((Ent.mk (e.o.q q) e.n).n),iV q,iV (mn e.n q),pV g (off+k*10),pV g (off+k*10+9)] [45,46,47,48,49,50,51,52,53] (nS 4 (ldR ai.out 9) (nS 6 (sV rfl (fun a u E D hk=>jW _ _ _ e.n q (mn e.n q) rfl (dD D 4) (dD D 5) rfl)) nZ)) ?_
 intro w6 k6
 simp only [F8]
 refine l_rowi 120 g off n c k 9 (X.set k ⟨e.o.q q,e.n⟩) ⟨e.o.q q,e.n⟩ ⟨e.o.q q,mn e.n q⟩ (mn e.n q) ⟨g,off+k*10+9,none⟩ _ _ rfl rfl (by kernel_rfl) (by kernel_rfl) (by rw [Nat.add_assoc]) (ae.out.kept k6) (by rw [List.length_set];exact HN.out.symm) I.out (by omega) rfl ?_
 intro w7 a1 aa hs7
 simp only [Act.put]
 refine Kx ?_
 go_wp2
 go_ret
 have z7:=k6.size
 have K7:Keep (·=g) w w7:=(K5.kept k6).trans aa (fun _ _ h=>h)
 have ad:=(H5.out g rfl).1
 refine ⟨by rw [HR.out];rfl,?_,K7.mono (fun b _ hb=>by subst hb;exact ad),fun h=>by rw [HR.out] at h;cases h⟩
 rw [HR.out]
 refine ⟨H1.out,fun b hb=>by have:=H2.out b hb;omega,_,(ag.out.kept k6).keep aa (fun e=>a4 e.symm),?_,H5.out⟩
 rw [List.length_set,HN.out]
 rw [List.set_set] at a1
 exact a1
theorem less_any (w:World) (F:Nat→Prop) (p:Nat) (X:List Ent) (t i q:Int) (h:Lvl pr 123 120 w F p X) (j:X.length≤100000000):Calls Tryz.prog 89 #[.pointer (some ⟨p,0,none⟩),.int .i64 t,.int .i64 i,.int .i64 q] w fun r w'=>r=.returned (.bool (ZQ t i q X).1)∧Lvl pr 123 120 w' F p (ZQ t i q X).2∧Keep F w w'∧((ZQ t i q X).1=false→Kept w w'):=by
 cases D:X[Wj t i X]? with
 | none=>exact less_none w F p X t i q h j (fun h=>by rw [List.getElem?_eq_getElem h] at D;cases D)
 | some e=>
  by_cases hq:1≤q
  ·by_cases hq2:q≤e.o.qty
   ·exact less_yes w F p X t i q h j e D hq hq2
   exact less_high w F p X t i q h j e D hq hq2
  exact less_low w F p X t i q h j e D hq
end Go.Proofs.YtklohceombpleaaGreat
namespace Go.Proofs.YtklohceombpleaaGreat
open Go.RowKit
variable {pr:Int}
theorem Sl.shrink {w:World} {T:TypeId} {k n c m:Nat} {A:Option Addr} {cs:List Value} (h:Sl w T k (.slice A n c) n cs) (J:m≤n):Sl w T k (.slice A m c) m (cs.take (m*k)):=by
 obtain ⟨j,A',c',U,h1,h2,h3,h4⟩:=h
 injection U with e1 e2 e3
 subst e1 e3
 have I:m*k≤n*k:=Nat.mul_le_mul_right k J
 refine ⟨by rw [List.length_take,j];omega,_,c,rfl,by omega,h2,h3,fun ad H=>?_⟩
 obtain ⟨g,off,D,rfl,hB,N,O⟩:=h4 ad H
 refine ⟨g,off,D,rfl,hB,N,?_⟩
 rw [← O,List.take_take,Nat.min_eq_left I]
section
variable {a:Act} {o:Oper} {u:World} {t T:TypeId} {k bytes:Nat}
theorem ZW (H:SlT t T k bytes) (x y:Operand) (v j:Value) (L:Int) (D:o.op=.slice t x (some y) none none) (hx:a.eval x=v) (I:a.eval y=.int .i64 L) (h:(Instr.slice t v (some (.int .i64 L)) none none).run Tryz.prog u=.ok j u):(execOp a.eval o).run Tryz.prog u=.ok (.value j) u:=
 exec_slcS H x (some y) none none v j D hx (by simp only [Option.map_some,Option.map_none,I];exact h)
theorem WV (H:SlT t T k bytes) (x y:Operand) (v j:Value) (L:Int) (D:o.op=.slice t x none (some y) none) (hx:a.eval x=v) (I:a.eval y=.int .i64 L) (h:(Instr.slice t v none (some (.int .i64 L)) none).run Tryz.prog u=.ok j u):(execOp a.eval o).run Tryz.prog u=.ok (.value j) u:=
 exec_slcS H x none (some y) none v j D hx (by simp only [Option.map_some,Option.map_none,I];exact h)
theorem exec_slcLH (I:SlT t T k bytes) (x y z:Operand) (v j:Value) (L H:Int) (D:o.op=.slice t x (some y) (some z) none) (hx:a.eval x=v) (J:a.eval y=.int .i64 L) (N:a.eval z=.int .i64 H) (h:(Instr.slice t v (some (.int .i64 L)) (some (.int .i64 H)) none).run Tryz.prog u=.ok j u):(execOp a.eval o).run Tryz.prog u=.ok (.value j) u:=
 exec_slcS I x (some y) (some z) none v j D hx (by simp only [Option.map_some,Option.map_none,J,N];exact h)
theorem exec_slcLHM (J:SlT t T k bytes) (x y z m:Operand) (v j:Value) (L H M:Int) (D:o.op=.slice t x (some y) (some z) (some m)) (hx:a.eval x=v) (N:a.eval y=.int .i64 L) (O:a.eval z=.int .i64 H) (I:a.eval m=.int .i64 M) (h:(Instr.slice t v (some (.int .i64 L)) (some (.int .i64 H)) (some (.int .i64 M))).run Tryz.prog u=.ok j u):(execOp a.eval o).run Tryz.prog u=.ok (.value j) u:=
 exec_slcS J x (some y) (some z) (some m) v j D hx (by simp only [Option.map_some,N,O,I];exact h)
theorem run_lhm (j:SlT t T k bytes) (A:Option Addr) (n c l h:Nat) (h1:l≤h) (h2:h≤n) (h3:n≤c):∃ v,∀ u,(Instr.slice t (.slice A n c) (some (.int .i64 (l:Int))) (some (.int .i64 (h:Int))) (some (.int .i64 (n:Int)))).run Tryz.prog u=.ok v u:=by
 obtain ⟨z,I,hz2,_⟩:=j.info
 obtain ⟨i0,J,hz0,D,hzb⟩:=info_parts I
 have H:=fun u=>run_slice_lhm (P:=Tryz.prog) (w:=u) t A n c (by rw [j.elem];exact j.und) .i64 .i64 .i64 (l:Int) (h:Int) (n:Int) (by omega) (by omega) (by omega) (by omega)
 refine ⟨sliced A l h n k,fun u=>?_⟩
 rw [H,j.elem]
 simp [sizeOf,typeInfo,J,D]
theorem run_lh (j:SlT t T k bytes) (g off n c l h:Nat) (h1:l<h) (h3:h≤c) (u:World):(Instr.slice t (.slice (some ⟨g,off,none⟩) n c) (some (.int .i64 (l:Int))) (some (.int .i64 (h:Int))) none).run Tryz.prog u=.ok (.slice (some ⟨g,off+l*k,none⟩) (h-l) (c-l)) u:=by
 obtain ⟨z,H,hz2,_⟩:=j.info
 obtain ⟨i0,I,hz0,D,hzb⟩:=info_parts H
 rw [run_slice_lh (P:=Tryz.prog) (w:=u) t (some ⟨g,off,none⟩) n c (by rw [j.elem];exact j.und) .i64 .i64 (l:Int) (h:Int) (by omega) (by omega) (by omega),j.elem]
 have:¬ c=l:=by omega
 simp [sizeOf,typeInfo,I,D,sliced,this,Addr.add_mid]
theorem exec_clr1 (ht:SlT t T k bytes) (z:List Value) (N:∀ w,(zeroValue T).run Tryz.prog w=.ok (.agg z.toArray) w) (hzl:z.length=k) (I:∀ u ∈ z,u.oneCell'=true) (x:Operand) (g off c:Nat) (U:o.op=.call { callee:=.builtin .clear,args:=#[x],argTypes:=#[t] }) (hx:a.eval x=.slice (some ⟨g,off,none⟩) 1 c) (D:u.there g off k) :
  (execOp a.eval o).run Tryz.prog u=.ok (.value (.tuple #[])) (u.setCells g off z):=by
 have J:(Builtin.zeroCells z.toArray 1).toList=z:=by
  have hp:=ht.pos
  apply List.ext_getElem
  ·simp [Builtin.zeroCells]
  intro i O h2
  simp [Builtin.zeroCells] at O ⊢
  simp [Nat.mod_eq_of_lt O,O]
 have H:=run_storeCells_cells (P:=Tryz.prog) g off z 0 u (fun j hj=>by simpa using (D j (by omega)).1) (fun j hj=>by simpa using (D j (by omega)).2) I
 simp only [Nat.add_zero] at H
 have hr:(Builtin.clear_ #[t] o.type #[.slice (some ⟨g,off,none⟩) 1 c]).run Tryz.prog u=.ok (.tuple #[]) (u.setCells g off z):=by
  simp [Builtin.clear_,run_underlying ht.und,N,Value.cells,J,H]
 unfold execOp
 simp only [U,resolve,invoke,builtin,Sem.run_bind,Sem.run_pure,Result.andThen_ok,List.map_toArray,List.map_cons,List.map_nil,hx,hr]
end
theorem zeroVE (w:World):(zeroValue 120).run Tryz.prog w=.ok (.agg XY.cells.toArray) w:=by kernel_rfl
theorem append_in (g off n c k:Nat) (X:List Ent) (v2:Value) (w:World) (hS:Sl w 120 10 (.slice (some ⟨g,off,none⟩) n c) n (ents X)) (hn:X.length=n) (hkn:k<n) (hnc:n≤c) (h2:Sl w 120 10 v2 (n-(k+1)) (ents (X.drop (k+1)))) (ho:v2.ownBlock=some g) (O:TypeId) :
  (Builtin.append_ #[121,121] O #[.slice (some ⟨g,off,none⟩) k c,v2]).run Tryz.prog w=.ok (.slice (some ⟨g,off,none⟩) (n-1) c) (w.setCells g (off+k*10) (ents (X.drop (k+1)))):=by
 obtain ⟨z,hz,hz2,_⟩:=slE.info
 obtain ⟨i0,hi,hz0,D,hzb⟩:=info_parts hz
 have hl:(ents (X.drop (k+1))).length=(n-(k+1))*10:=by rw [ents_len,List.length_drop,hn]
 obtain ⟨_,_,_,U⟩:=hS.setCells (k*10) (ents (X.drop (k+1))) (by rw [hl];omega)
 obtain ⟨hl2,A,d,rfl,_,_,_,h4⟩:=h2
 cases A with
 | none=>simp [Value.ownBlock] at ho
 | some ad=>
  obtain ⟨g2,H,cur2,rfl,J,hle2,I⟩:=h4 _ rfl
  have hr:=run_append_room_cells (P:=Tryz.prog) w 121 O 120 i0 slE.und hi g off k c ⟨g2,H,none⟩ (n-(k+1)) d (ents (X.drop (k+1))) (by rw [D,hl]) (fun j u hu=>by rw [Addr.add_mid];exact jJ J I j u hu) (JJj _) (by omega)
   (fun j N=>by rw [D];exact (U j N).1) (fun j N=>by rw [D];exact (U j N).2)
  rw [hr,D,show k+(n-(k+1))=n-1 by omega]
theorem delete_any (g off n c k:Nat) (X:List Ent) (w:World) (hS:Sl w 120 10 (.slice (some ⟨g,off,none⟩) n c) n (ents X)) (hn:X.length=n) (ab:k<n) (hlen:n≤100000000) :
  Calls Tryz.prog 114 #[.slice (some ⟨g,off,none⟩) n c,.int .i64 (k:Int),.int .i64 ((k:Int)+1)] w fun r w'=>r=.returned (.slice (some ⟨g,off,none⟩) (n-1) c)∧Sl w' 120 10 (.slice (some ⟨g,off,none⟩) (n-1) c) (n-1) (ents (X.eraseIdx k))∧Keep (·=g) w w':=by
 have ad:n≤c:=by obtain ⟨_,A,c',e',h1,_⟩:=hS;injection e' with _ _ e3;subst e3;exact h1
 obtain ⟨vx,ak⟩:=run_lhm slE (some ⟨g,off,none⟩) n c k (k+1) (by omega) (by omega) ad
 obtain ⟨v1,a3,au,aq⟩:=yU slE _ n k (by omega) _ w hS
 obtain ⟨v2,af,ae,a7⟩:=jX slE _ n (k+1) (by omega) _ w hS
 have e1:v1=.slice (some ⟨g,off,none⟩) k c:=by
  obtain ⟨z,hz,hz2,_⟩:=slE.info
  obtain ⟨i0,hi,hz0,am,hzb⟩:=info_parts hz
  have:=a3 w
  rw [run_slice_h (P:=Tryz.prog) (w:=w) 121 (some ⟨g,off,none⟩) n c (by rw [slE.elem];exact slE.und) .i64 (k:Int) (by omega) (by omega),slE.elem] at this
  simp [sizeOf,typeInfo,hi,am,sliced,Addr.add] at this
  exact this.symm
 subst e1
 have aa:Hid (∀ w,Sl w 120 10 (.slice (some ⟨g,off,none⟩) n c) n (ents X)→Sl w 120 10 v2 (n-(k+1)) (ents (X.drop (k+1)))):=fun w h=>by
  have:=a7 w _ h
  rw [show (ents X).drop ((k+1)*10)=ents (X.drop (k+1)) from Ux Ent.cells 10 Ent.len10 X (k+1)] at this
  exact this
 have U:=Kj ak
 have ai:=Kj a3
 have a4:=Kj af
 have ag:=Kj ae
 have HS:=Kj hS
 have HN:=Kj hn
 have a1:((k+1:Nat):Int)=(k:Int)+1:=by omega
 rw [a1] at U a4
 clear ak a3 af au ae aq a7 hS hn
 have ar:((k:Int) == (k:Int)+1)=false:=by simp;omega
 go_enter Tryz.func114,Tryz.ntmps114
 go_upto_region 1 with fail
 refine wA 6 [.slice (some ⟨g,off,none⟩) n c,iV (k:Int),iV ((k:Int)+1),.slice (some ⟨g,off,none⟩) n c,iV (n:Int),vx] [8,9,10,11,12,13] (nS 4 (sV rfl (fun a u E D hk=>ZV _ _ _ slE.und (some ⟨g,off,none⟩) n c rfl (dD D 3))) (nS 5 (sV rfl (fun a u E D hk=>exec_slcLHM slE _ _ _ _ _ vx _ _ _ rfl (dD D 0) (dD D 1) (dD D 2) (dD D 4) (U.out u))) nZ)) ?_
 intro w1 k1
 simp only [F8]
 go_upto_region 2 with fail
 refine wA 3 [iV (k:Int),iV ((k:Int)+1),bV false] [14,15,16] (nS 2 (aV rfl (fun a u E D hk=>JY rfl (dD D 0) (dD D 1)) (Ku (by omega))) nZ) ?_
 intro w2 k2
 simp only [F8]
 clear ar
 go_upto_region 4 with fail
 refine wA 3 [.slice (some ⟨g,off,none⟩) n c,iV (n:Int),iV (n:Int)] [18,19,7] (nS 1 (sV rfl (fun a u E D hk=>ZV _ _ _ slE.und (some ⟨g,off,none⟩) n c rfl (dD D 0))) nZ) ?_
 intro w3 k3
 simp only [F8]
 have a5:=(k1.trans k2).trans k3
 clear k1 k2 k3
 go_upto_region 5 with fail
 refine wHp 6 [.slice (some ⟨g,off,none⟩) n c,iV (k:Int),.slice (some ⟨g,off,none⟩) k c,.slice (some ⟨g,off,none⟩) n c,iV ((k:Int)+1),v2] [20,21,22,23,24,25] (nS 2 (sV rfl (fun a u E D hk=>WV slE _ _ _ _ _ rfl (dD D 0) (dD D 1) (ai.out u))) (nS 5 (sV rfl (fun a u E D hk=>ZW slE _ _ _ v2 _ rfl (dD D 3) (dD D 4) (a4.out u))) nZ)) ?_
 intro N k4
 simp only [F8]
 have a2:=a5.trans k4
 have I:=HS.out.kept a2
 have ah:=aa.out N I
 have a9:∀ ty,(Builtin.append_ #[121,121] ty #[.slice (some ⟨g,off,none⟩) k c,v2]).run Tryz.prog N=.ok (.slice (some ⟨g,off,none⟩) (n-1) c) (N.setCells g (off+k*10) (ents (X.drop (k+1)))):=fun ty=>append_in g off n c k X v2 N I HN.out ab ad ah (by rw [ag.out];rfl) ty
 refine Vj (.slice (some ⟨g,off,none⟩) (n-1) c) (N.setCells g (off+k*10) (ents (X.drop (k+1)))) rfl (QV slE (.tmp 22) (.tmp 25) (.slice (some ⟨g,off,none⟩) k c) v2 rfl (by kernel_rfl) (by kernel_rfl) _ _ (a9 _)) ?_
 simp only [Act.put,sA,sS,sZ]
 refine aT (.slice (some ⟨g,off,none⟩) (n-1) c) ?_
 simp only [Act.put,List.setIfInBounds_toArray,List.set_cons_zero]
 refine Kx ?_
 have j:(ents (X.drop (k+1))).length=(n-(k+1))*10:=by rw [ents_len,List.length_drop,HN.out]
 obtain ⟨H,al,ao,_⟩:=I.setCells (k*10) (ents (X.drop (k+1))) (by rw [j];omega)
 have J:Hid (Sl (N.setCells g (off+k*10) (ents (X.drop (k+1)))) 120 10 (.slice (some ⟨g,off,none⟩) n c) n (ents (X.eraseIdx k++X.drop (n-1)))):=by
  rw [show (ents X).take (k*10)=ents (X.take k) from yY Ent.cells 10 Ent.len10 X k,j,show k*10+(n-(k+1))*10=(n-1)*10 by omega,show (ents X).drop ((n-1)*10)=ents (X.drop (n-1)) from Ux Ent.cells 10 Ent.len10 X (n-1)] at H
  show Sl _ _ _ _ _ _
  rw [List.eraseIdx_eq_take_drop_succ]
  unfold ents at H ⊢
  rw [List.flatMap_append,List.flatMap_append]
  exact H
 have K5:Keep (·=g) w (N.setCells g (off+k*10) (ents (X.drop (k+1)))):=(Keep.mono (T:=(·=g)) a2 (fun _ _ h=>h.elim)).trans al (fun _ _ h=>h)
 generalize N.setCells g (off+k*10) (ents (X.drop (k+1)))=w5 at J K5 ⊢
 clear a9 ah I H al ao a2 a5 k4 aa ai a4 U ag HS j
 obtain ⟨m,hm⟩:∃ m,n-1=m:=⟨_,rfl⟩
 have hmn:n=m+1:=by omega
 rw [hm] at J ⊢
 go_upto_region 6 with fail
 refine wAp 5 [.slice (some ⟨g,off,none⟩) m c,.slice (some ⟨g,off,none⟩) m c,iV (m:Int),iV (n:Int),.slice (some ⟨g,off+m*10,none⟩) (n-m) (c-m)] [27,28,29,30,31] (nS 2 (sV rfl (fun a u E D hk=>ZV _ _ _ slE.und (some ⟨g,off,none⟩) m c rfl (dD D 1))) (nS 4 (sV rfl (fun a u E D hk=>exec_slcLH slE _ _ _ _ _ _ _ rfl (dD D 0) (dD D 2) (dD D 3) (run_lh slE g off m c m n (by omega) (by omega) u))) nZ)) ?_
 intro w6 k6
 simp only [F8]
 obtain ⟨a8,ac,an,O⟩:=(J.out.kept k6).setCells (m*10) XY.cells (by rw [Ent.len10];omega)
 rw [Ent.len10] at O
 have h1:n-m=1:=by omega
 refine Vj (.tuple #[]) (w6.setCells g (off+m*10) XY.cells) rfl (exec_clr1 slE XY.cells zeroVE XY.len10 XY.one (.tmp 31) g (off+m*10) (c-m) rfl (by rw [← h1];kernel_rfl) O) ?_
 simp only [Act.put]
 refine Kx ?_
 have a6:Sl (w6.setCells g (off+m*10) XY.cells) 120 10 (.slice (some ⟨g,off,none⟩) m c) m (ents (X.eraseIdx k)):=by
  have h2:=a8.shrink (m:=m) (by omega)
  have h3:(X.eraseIdx k).length=m:=by rw [List.length_eraseIdx,if_pos (by rw [HN.out];exact ab),HN.out];omega
  rw [List.append_assoc,List.take_append_of_le_length (by rw [List.length_take,ents_len,List.length_append,h3];omega),List.take_take,Nat.min_self] at h2
  have h4:(ents (X.eraseIdx k++X.drop m)).take (m*10)=ents (X.eraseIdx k):=by
   rw [show (ents (X.eraseIdx k++X.drop m)).take (m*10)=ents ((X.eraseIdx k++X.drop m).take m) from yY Ent.cells 10 Ent.len10 _ m,List.take_append_of_le_length (by omega),List.take_of_length_le (by omega)]
  rw [h4] at h2
  exact h2
 have aj:=Kj a6
 have K7:Keep (·=g) w (w6.setCells g (off+m*10) XY.cells):=(K5.kept k6).trans ac (fun _ _ h=>h)
 generalize w6.setCells g (off+m*10) XY.cells=w7 at aj K7 ⊢
 clear a8 a6 ac an O K5 J k6
 go_wp2
 go_ret
 rw [hm]
 exact ⟨rfl,aj.out,K7⟩
theorem remove_none (w:World) (F:Nat→Prop) (p:Nat) (X:List Ent) (t i:Int) (h:Lvl pr 123 120 w F p X) (I:X.length≤100000000) (hc:¬ Wj t i X<X.length):Calls Tryz.prog 101 #[.pointer (some ⟨p,0,none⟩),.int .i64 t,.int .i64 i] w fun r w'=>r=.returned (.tuple #[(XW t i X).1.v,.bool (XW t i X).2.1])∧Lvl pr 123 120 w' F p (XW t i X).2.2∧Keep F w w'∧((XW t i X).2.1=false→Kept w w'):=by
 have HR:Hid (XW t i X=(JV,false,X)):=by
  show _=_
  unfold XW
  rw [List.getElem?_eq_none (by omega)]
 have a3:Hid (jZ t i X=-1):=by show _=_;unfold jZ;rw [if_neg hc]
 have HL:=Kj h
 clear h hc
 go_enter Tryz.func101,Tryz.ntmps101
 go_upto_region 0 with fail
 refine tAp 2 [.k (.fresh w.heap.size 35 JV.cells),bK false] (nS 0 (nV rfl (fun a u E D hk=>⟨_,_,QX 35 JV.cells rfl zO,⟨_,rfl,hk.size,Blk.new u _ _⟩,((Keep.refl _ u).alloc _)⟩)) nZ) ?_
 intro gv w0 hV k0
 rw [dq 2 [6,7]]
 simp only [Fz7]
 have U:(.fresh w.heap.size 35 JV.cells:Kn).p (gv 6) w0:=hV 0 6 (by kernel_rfl)
 generalize gv 6=v6 at U ⊢
 rw [gQ hV 1 7 (.bool false)]
 clear hV
 obtain ⟨b6,rfl,hb6,H⟩:=U
 refine Kx ?_
 have N:=Kj (HL.out.kept k0)
 have J:=Kj H
 have l6:=H.lt
 clear H
 go_upto_region 1 with fail
 refine wAp 4 [pV p 0,iV t,iV i,iV (-1)] [10,11,12,13] (nS 3 (cV Tryz.func100 (fun u hk=>(by rw [← a3.out];exact JQV u F p X t i (N.out.kept hk) I))) nZ) ?_
 intro w1 k1
 simp only [F8]
 refine aT (.int .i64 (-1)) ?_
 simp only [Act.put,sA,sS,sZ]
 refine Kx ?_
 have O:=Kj (J.out.kept k1)
 have a2:=k0.trans k1
 have z1:=k1.size
 clear J N
 go_upto_region 3 with fail
 refine wAp 1 [JV.v] [16] (nS 0 (sV rfl (fun a u E D hk=>XZ 35 [] JV.cells rfl (by kernel_rfl))) nZ) ?_
 intro w2 k2
 simp only [F8]
 refine sO JV (O.out.kept k2) ?_
 intro w3 a4 a1 hs3
 refine aT (.bool false) ?_
 simp only [Act.put,sA,sS,sZ]
 refine Kx ?_
 go_wp2
 refine bodyPost_ret (Qq (p:=6) (q:=7) rfl _ _ b6 _ JV.cells false rfl rfl a4 Tryz.underlying35 (by rw [Ord.len9];exact JU)) rfl ?_
 have j:Kept w w3:=(a2.trans k2).trans' a1 (by omega)
 exact ⟨by rw [HR.out];rfl,by rw [HR.out];exact HL.out.kept j,Keep.mono (T:=F) j (fun _ _ h=>h.elim),fun _=>j⟩
theorem remove_yes (w:World) (F:Nat→Prop) (p:Nat) (X:List Ent) (t i:Int) (h:Lvl pr 123 120 w F p X) (ae:X.length≤100000000) (e:Ent) (he:X[Wj t i X]?=some e):Calls Tryz.prog 101 #[.pointer (some ⟨p,0,none⟩),.int .i64 t,.int .i64 i] w fun r w'=>r=.returned (.tuple #[(XW t i X).1.v,.bool (XW t i X).2.1])∧Lvl pr 123 120 w' F p (XW t i X).2.2∧Keep F w w'∧((XW t i X).2.1=false→Kept w w'):=by
 have HR:Hid (XW t i X=(e.o,true,X.eraseIdx (Wj t i X))):=by
  show _=_
  unfold XW
  rw [he]
 obtain ⟨k,al⟩:∃ k,Wj t i X=k:=⟨_,rfl⟩
 rw [al] at he HR
 obtain ⟨n,hn⟩:∃ n,X.length=n:=⟨_,rfl⟩
 have O:k<n:=by rw [← hn];exact (List.getElem?_eq_some_iff.1 he).1
 have av:Hid (jZ t i X=(k:Int)):=by show _=_;unfold jZ;rw [al,if_pos (by rw [hn];exact O)]
 have aw:n≤100000000:=by omega
 have HL:=Kj h
 obtain ⟨h1,h2,v,hB,hS,h5⟩:=h
 rw [hn] at hS
 obtain ⟨g,off,c,rfl⟩:=hS.some_ (by omega)
 have HE:Hid (w.rangeAt g (off+k*10) e.cells):=hS.rng k e he
 have HB:=Kj hB
 have HS:=Kj hS
 have H1:=Kj h1
 have H2:=Kj h2
 have H5:=Kj h5
 have HN:=Kj hn
 have ao:g≠p:=(h5 g rfl).2
 have hgl:g<w.heap.size:=h2 g (h5 g rfl).1
 have hpl:p<w.heap.size:=h2 p h1
 clear hB hS h5 h1 h2 he hn
 go_enter Tryz.func101,Tryz.ntmps101
 go_upto_region 0 with fail
 refine tAp 2 [.k (.fresh w.heap.size 35 JV.cells),bK false] (nS 0 (nV rfl (fun a u E D hk=>⟨_,_,QX 35 JV.cells rfl zO,⟨_,rfl,hk.size,Blk.new u _ _⟩,((Keep.refl _ u).alloc _)⟩)) nZ) ?_
 intro gv w0 hV k0
 rw [dq 2 [6,7]]
 simp only [Fz7]
 have ai:(.fresh w.heap.size 35 JV.cells:Kn).p (gv 6) w0:=hV 0 6 (by kernel_rfl)
 generalize gv 6=v6 at ai ⊢
 rw [gQ hV 1 7 (.bool false)]
 clear hV
 obtain ⟨b6,rfl,hb6,a6⟩:=ai
 refine Kx ?_
 have a9:=Kj (HL.out.kept k0)
 have ak:=Kj a6
 have l6:=a6.lt
 clear a6
 go_upto_region 1 with fail
 refine wAp 4 [pV p 0,iV t,iV i,iV (k:Int)] [10,11,12,13] (nS 3 (cV Tryz.func100 (fun u hk=>(by rw [← av.out];exact JQV u F p X t i (a9.out.kept hk) ae))) nZ) ?_
 intro w1 k1
 simp only [F8]
 refine aT (.int .i64 (k:Int)) ?_
 simp only [Act.put,sA,sS,sZ]
 refine Kx ?_
 have a2:=Kj (ak.out.kept k1)
 have H:=k0.trans k1
 have z1:=k1.size
 clear ak a9
 have a8:=Kj (HB.out.kept H)
 have af:=Kj (JJ HE.out H)
 have z0:=H.size
 go_upto_region 4 with fail
 refine tAp 9 [pK p 0,pK p 0,pK p 1,.v (.slice (some ⟨g,off,none⟩) n c),iK (k:Int),pK g (off+k*10),pK g (off+k*10),.v (e.o.v),.k (.fresh w1.heap.size 35 JV.cells)] (nS 3 (sV rfl (fun a u E D hk=>Qx _ _ Tryz.underlying121 _ _ _ rfl (dD D 2) (by rw [(a8.out.kept hk).cell];rfl))) (nS 5 (ixV slE (off) n k ((k:Int)) (O)) (nS 7 (ldS Tryz.underlying35 (fun u hk=>xX (JJ af.out hk)) (by rw [e.o.len9];exact JU)) (nS 8 (nV rfl (fun a u E D hk=>⟨_,_,QX 35 JV.cells rfl zO,⟨_,rfl,hk.size,Blk.new u _ _⟩,((Keep.refl _ u).alloc _)⟩)) nZ)))) ?_
 intro gv w2 hV k2
 rw [dq 9 [17,18,19,20,21,22,23,24,9]]
 simp only [Fz7]
 have ah:(.fresh w1.heap.size 35 JV.cells:Kn).p (gv 9) w2:=hV 8 9 (by kernel_rfl)
 generalize gv 9=v9 at ah ⊢
 rw [gQ hV 7 24 e.o.v]
 clear hV
 obtain ⟨b9,rfl,hb9,ad⟩:=ah
 refine sO e.o ad ?_
 intro w3 a4 ag an
 simp only [Act.put]
 refine Kx ?_
 have U:Kept w1 w3:=k2.trans' ag (by omega)
 have N:=H.trans U
 have a5:=Kj (HB.out.kept N)
 have ab:=Kj (HS.out.kept N)
 have aa:=Kj a4
 have a1:=Kj (a2.out.kept U)
 have l9:=a4.lt
 have z3:=U.size
 clear ad a4 ag k2 a8 af HE HB HS H a2 U an
 go_upto_region 5 with fail
 refine wAp 8 [pV p 0,pV p 0,pV p 0,pV p 1,.slice (some ⟨g,off,none⟩) n c,iV (k:Int),iV (k:Int),iV ((k:Int)+1)] [25,26,27,28,29,30,31,32] (nS 4 (sV rfl (fun a u E D hk=>Qx _ _ Tryz.underlying121 _ _ _ rfl (dD D 3) (by rw [(a5.out.kept hk).cell];rfl))) (nS 7 (sV rfl (fun a u E D hk=>YQ ((k:Int)+1) rfl (dD D 6) rfl rfl (by omega) (by omega))) nZ)) ?_
 intro w4 k4
 simp only [F8]
 refine cT Tryz.func114 [.slice (some ⟨g,off,none⟩) n c,.int .i64 (k:Int),.int .i64 ((k:Int)+1)] ?_
 refine (delete_any g off n c k X w4 (ab.out.kept k4) HN.out O aw).mono ?_
 rintro r w5 ⟨rfl,a7,j⟩
 refine ⟨_,rfl,?_⟩
 refine aT (.pointer (some ⟨p,0,none⟩)) ?_
 refine aT (.pointer (some ⟨p,1,none⟩)) ?_
 refine ZJ 121 p 1 123 _ (.slice (some ⟨g,off,none⟩) (n-1) c) _ _ rfl rfl (by kernel_rfl) (by kernel_rfl) (by kernel_rfl) rfl rfl ((a5.out.kept k4).keep j (fun e=>ao e.symm)) (by simp) ?_
 intro w6 a3 I hs6
 simp only [Act.put,sA,sS,sZ]
 refine Kx ?_
 have z4:=k4.size
 have z5:=j.size
 have K5:Keep (·=g) w w5:=(Keep.mono (T:=(·=g)) (N.trans k4) (fun _ _ h=>h.elim)).trans j (fun _ _ h=>h)
 have aq:=(H5.out g rfl).1
 have K6:Keep F w w6:=(Keep.mono (T:=F) K5 (fun b _ J=>by subst J;exact aq)).trans I (fun b _ J=>by subst J;exact H1.out)
 have au:Hid ((X.eraseIdx k).length=n-1):=by show _=_;rw [List.length_eraseIdx,if_pos (by rw [HN.out];exact O),HN.out]
 have ar:Hid (Lvl pr 123 120 w6 F p (X.eraseIdx k)):=⟨H1.out,fun b J=>by have:=H2.out b J;omega,_,a3,by rw [au.out];exact a7.keep I (fun b J e=>by simp [Value.ownBlock] at J;omega),H5.out⟩
 have ax:=Kj (JX (((aa.out.kept k4).keep j (by omega)).keep I (by omega)))
 have ac:=Kj (((a1.out.kept k4).keep j (by omega)).keep I (by omega))
 clear a7 j a3 I K5 a5 ab aa a1 k4 N
 go_upto_region 6 with fail
 refine wAp 1 [e.o.v] [36] (nS 0 (ldO ax.out) nZ) ?_
 intro w7 k7
 simp only [F8]
 refine sO e.o (ac.out.kept k7) ?_
 intro w8 ay aj hs8
 refine aT (.bool true) ?_
 simp only [Act.put,sA,sS,sZ]
 refine Kx ?_
 go_wp2
 refine bodyPost_ret (Qq (p:=6) (q:=7) rfl _ _ b6 _ e.o.cells true rfl rfl ay Tryz.underlying35 (by rw [Ord.len9];exact JU)) rfl ?_
 have am:¬ F b6:=fun h=>by have:=H2.out b6 h;omega
 refine ⟨by rw [HR.out];rfl,by rw [HR.out];exact (ar.out.kept k7).keep aj (fun b J e=>am (by rw [← e];exact J)),(K6.kept k7).trans aj (fun b J e=>by subst e;omega),fun h=>by rw [HR.out] at h;cases h⟩
theorem remove_any (w:World) (F:Nat→Prop) (p:Nat) (X:List Ent) (t i:Int) (h:Lvl pr 123 120 w F p X) (j:X.length≤100000000):Calls Tryz.prog 101 #[.pointer (some ⟨p,0,none⟩),.int .i64 t,.int .i64 i] w fun r w'=>r=.returned (.tuple #[(XW t i X).1.v,.bool (XW t i X).2.1])∧Lvl pr 123 120 w' F p (XW t i X).2.2∧Keep F w w'∧((XW t i X).2.1=false→Kept w w'):=by
 cases D:X[Wj t i X]? with
 | none=>exact remove_none w F p X t i h j (fun h=>by rw [List.getElem?_eq_getElem h] at D;cases D)
 | some e=>exact remove_yes w F p X t i h j e D
end Go.Proofs.YtklohceombpleaaGreat
namespace Go.Proofs.YtklohceombpleaaGreat
open Go.RowKit
abbrev Zs:=List (Nat × Lev)
def ptrs (Z:Zs):List Value:=Z.map fun z=>.pointer (some ⟨z.1,0,none⟩)
def levs (Z:Zs):List Lev:=Z.map (·.2)
theorem ptrs_len (Z:Zs):(ptrs Z).length=Z.length:=by simp [ptrs]
theorem xV (Z:Zs):∀ u ∈ ptrs Z,u.oneCell'=true:=by
 intro u j
 obtain ⟨z,_,rfl⟩:=List.mem_map.1 j
 rfl
theorem jx (A B:Zs):ptrs (A++B)=ptrs A++ptrs B:=by simp [ptrs]
theorem ZZ (A B:Zs):levs (A++B)=levs A++levs B:=by simp [levs]
theorem VW (z:Nat × Lev) (B:Zs):levs (z::B)=z.2::levs B:=rfl
theorem Xz (Z:Zs):(levs Z).length=Z.length:=by simp [levs]
structure WayZ (T E P:TypeId) (w:World) (F:Nat→Prop) (v:Value) (Z:Zs) (G:Nat→Nat→Prop):Prop where
 sl:Sl w P 1 v Z.length (ptrs Z)
 lv:∀ z ∈ Z,Lvl z.2.1 T E w (G z.1) z.1 z.2.2
 ap:Z.Pairwise fun x y=>∀ b,G x.1 b→¬ G y.1 b
 in_:∀ z ∈ Z,∀ b,G z.1 b→F b
 own:∀ b,v.ownBlock=some b→F b∧∀ z ∈ Z,¬ G z.1 b
 lt:∀ b,F b→b<w.heap.size
def Way (T E P:TypeId) (w:World) (F:Nat→Prop) (v:Value) (L:List Lev):Prop:=∃ Z G,levs Z=L∧WayZ T E P w F v Z G
section
variable {T E P:TypeId} {w w':World} {F:Nat→Prop} {v:Value} {Z:Zs} {G:Nat→Nat→Prop}
theorem WayZ.keep {S:Nat→Prop} (h:WayZ T E P w F v Z G) (hk:Keep S w w') (D:∀ b,F b→¬ S b):WayZ T E P w' F v Z G:=
 ⟨h.sl.keep hk (fun b j=>D b (h.own b j).1),fun z H=>(h.lv z H).keep hk (fun b j=>D b (h.in_ z H b j)),h.ap,h.in_,h.own,fun b j=>Nat.lt_of_lt_of_le (h.lt b j) hk.size⟩
theorem WayZ.kept (h:WayZ T E P w F v Z G) (hk:Kept w w'):WayZ T E P w' F v Z G:=h.keep hk (fun _ _ h=>h)
theorem Way.keep {S:Nat→Prop} {L:List Lev} (h:Way T E P w F v L) (hk:Keep S w w') (j:∀ b,F b→¬ S b):Way T E P w' F v L:=by
 obtain ⟨Z,G,e,h⟩:=h
 exact ⟨Z,G,e,h.keep hk j⟩
theorem Way.kept {L:List Lev} (h:Way T E P w F v L) (hk:Kept w w'):Way T E P w' F v L:=h.keep hk (fun _ _ h=>h)
theorem Way.lt {L:List Lev} (h:Way T E P w F v L):∀ b,F b→b<w.heap.size:=by
 obtain ⟨Z,G,e,h⟩:=h
 exact h.lt
theorem WayZ.nil (w:World):WayZ T E P w (fun _=>False) (.slice none 0 0) [] G:=⟨Sl.nil _ _ _,by simp,List.Pairwise.nil,by simp,fun b j=>by simp [Value.ownBlock] at j,fun b h=>h.elim⟩
theorem Way.nil (w:World):Way T E P w (fun _=>False) (.slice none 0 0) []:=⟨[],fun _ _=>False,rfl,WayZ.nil w⟩
theorem WayZ.cell {j os n c:Nat} (h:WayZ T E P w F (.slice (some ⟨j,os,none⟩) n c) Z G) {i:Nat} {z:Nat × Lev} (J:Z[i]?=some z):w.cell? ⟨j,os+i*1,none⟩=some (.pointer (some ⟨z.1,0,none⟩)):=by
 obtain ⟨hl,A,c',H,h1,h2,h3,N⟩:=h.sl
 injection H with e1 e2 e3
 subst e1 e3
 obtain ⟨g',off',cur,e,I,h5,D⟩:=N _ rfl
 injection e with e1 e2
 subst e1 e2
 rw [Nat.mul_one]
 exact jJ I D i _ (by rw [ptrs,List.getElem?_map,J];rfl)
theorem WayZ.some_ (h:WayZ T E P w F v Z G) (j:0<Z.length):∃ g off c,v=.slice (some ⟨g,off,none⟩) Z.length c:=h.sl.some_ j
theorem WayZ.apart {A R:Zs} {z:Nat × Lev} (h:WayZ T E P w F v (A++z::R) G):∀ x ∈ A++R,∀ b,G x.1 b→¬ G z.1 b:=by
 have j:=h.ap
 rw [List.pairwise_append,List.pairwise_cons] at j
 obtain ⟨_,⟨I,_⟩,J⟩:=j
 intro x hx b D H
 rcases List.mem_append.1 hx with hx | hx
 ·exact J x hx z (by simp) b D H
 exact I x hx b H D
theorem WayZ.ne_ {A R:Zs} {z:Nat × Lev} (h:WayZ T E P w F v (A++z::R) G):∀ x ∈ A++R,x.1≠z.1:=fun x hx e=>by
 have j:=(h.lv x (by rcases List.mem_append.1 hx with hx | hx <;> simp [hx])).1
 exact h.apart x hx x.1 j (by rw [e];exact (h.lv z (by simp)).1)
theorem WayZ.turn {A R:Zs} {q:Nat} {pr:Int} {X X':List Ent} {F1:Nat→Prop} (h:WayZ T E P w F v (A++(q,pr,X)::R) G) (hk:Keep (G q) w w') (h1:Lvl pr T E w' F1 q X') (hg:Grow w (G q) F1) :
  ∃ F' G',WayZ T E P w' F' v (A++(q,pr,X')::R) G'∧Grow w F F'∧Keep F w w'∧(∀ b,F b→F' b):=by
 have hq:=h.lv (q,pr,X) (by simp)
 have O:=h.apart
 have I:=h.ne_
 simp only at O I
 have a1:∀ b,G q b→F b:=h.in_ (q,pr,X) (by simp)
 have H:∀ x ∈ A++R,x ∈ A++(q,pr,X)::R:=fun x hx=>by rcases List.mem_append.1 hx with hx | hx <;> simp [hx]
 have J:∀ x ∈ A++R,∀ b,G x.1 b→¬ F1 b:=fun x hx b j hF=>by
  rcases hg b hF with h' | h'
  ·exact O x hx b j h'
  have:=h.lt b (h.in_ x (H x hx) b j);omega
 refine ⟨fun b=>F b∨F1 b,fun p b=>if p=q then F1 b else G p b,⟨?_,?_,?_,?_,?_,?_⟩,?_,hk.mono (fun b _ j=>a1 b j),fun b j=>.inl j⟩
 ·have e:ptrs (A++(q,pr,X')::R)=ptrs (A++(q,pr,X)::R):=by simp [ptrs]
  have e2:(A++(q,pr,X')::R).length=(A++(q,pr,X)::R).length:=by simp
  rw [e,e2]
  exact h.sl.keep hk (fun b j=>(h.own b j).2 (q,pr,X) (by simp))
 ·intro x hx
  by_cases hxe:x=(q,pr,X')
  ·subst hxe
   simp only [if_true]
   exact h1
  have D:x ∈ A++R:=by
   rcases List.mem_append.1 hx with hx | hx
   ·simp [hx]
   rcases List.mem_cons.1 hx with hx | hx
   ·exact absurd hx hxe
   simp [hx]
  simp only [if_neg (I x D)]
  exact (h.lv x (H x D)).keep hk (O x D)
 ·have h2:=h.ap
  rw [List.pairwise_append,List.pairwise_cons] at h2 ⊢
  obtain ⟨p1,⟨p2,p3⟩,p4⟩:=h2
  have hA:∀ x ∈ A,x.1≠q:=fun x hx=>I x (by simp [hx])
  have hR:∀ x ∈ R,x.1≠q:=fun x hx=>I x (by simp [hx])
  refine ⟨?_,⟨?_,?_⟩,?_⟩
  ·refine p1.imp_of_mem ?_
   intro x y hx N U
   simp only [if_neg (hA x hx),if_neg (hA y N)]
   exact U
  ·intro x hx b
   simp only [if_true,if_neg (hR x hx)]
   intro j a3
   exact J x (by simp [hx]) b a3 j
  ·refine p3.imp_of_mem ?_
   intro x y hx N U
   simp only [if_neg (hR x hx),if_neg (hR y N)]
   exact U
  intro x hx y N b
  simp only [if_neg (hA x hx)]
  rcases List.mem_cons.1 N with rfl | N
  ·simp only [if_true]
   exact J x (by simp [hx]) b
  simp only [if_neg (hR y N)]
  exact p4 x hx y (by simp [N]) b
 ·intro x hx b j
  by_cases hxq:x.1=q
  ·simp only [if_pos hxq] at j
   exact .inr j
  simp only [if_neg hxq] at j
  have D:x ∈ A++R:=by
   rcases List.mem_append.1 hx with hx | hx
   ·simp [hx]
   rcases List.mem_cons.1 hx with hx | hx
   ·exact absurd (by rw [hx]) hxq
   simp [hx]
  exact .inl (h.in_ x (H x D) b j)
 ·intro b j
  refine ⟨.inl (h.own b j).1,fun x hx D=>?_⟩
  by_cases hxq:x.1=q
  ·simp only [if_pos hxq] at D
   rcases hg b D with h' | h'
   ·exact (h.own b j).2 (q,pr,X) (by simp) h'
   have:=h.sl.lt j;omega
  simp only [if_neg hxq] at D
  have a2:x ∈ A++R:=by
   rcases List.mem_append.1 hx with hx | hx
   ·simp [hx]
   rcases List.mem_cons.1 hx with hx | hx
   ·exact absurd (by rw [hx]) hxq
   simp [hx]
  exact (h.own b j).2 x (H x a2) D
 ·intro b j
  rcases j with j | j
  ·exact Nat.lt_of_lt_of_le (h.lt b j) hk.size
  exact h1.2.1 b j
 intro b j
 rcases j with j | j
 ·exact .inl j
 exact (hg b j).imp (a1 b) id
theorem WayZ.fewer {Z':Zs} {v':Value} (h:WayZ T E P w F v Z G) (H:Z'.Sublist Z) (hk:Keep (fun b=>v.ownBlock=some b) w w') (U:Sl w' P 1 v' Z'.length (ptrs Z')) (O:∀ b,v'.ownBlock=some b→v.ownBlock=some b∨w.heap.size≤b) :
  ∃ F',WayZ T E P w' F' v' Z' G∧Grow w F F'∧Keep F w w'∧∀ b,F b→F' b:=by
 refine ⟨fun b=>F b∨v'.ownBlock=some b,⟨U,fun z D=>(h.lv z (H.subset D)).keep hk (fun b j N=>(h.own b N).2 z (H.subset D) j),h.ap.sublist H,fun z D b j=>.inl (h.in_ z (H.subset D) b j),fun b j=>⟨.inr j,fun z D J=>?_⟩,fun b j=>?_⟩,fun b j=>?_,hk.mono (fun b _ j=>(h.own b j).1),fun b j=>.inl j⟩
 ·rcases O b j with I | I
  ·exact (h.own b I).2 z (H.subset D) J
  have:=h.lt b (h.in_ z (H.subset D) b J);omega
 ·rcases j with j | j
  ·exact Nat.lt_of_lt_of_le (h.lt b j) hk.size
  exact U.lt j
 rcases j with j | j
 ·exact .inl j
 rcases O b j with I | I
 ·exact .inl (h.own b I).1
 exact .inr I
theorem WayZ.more {A R:Zs} {v':Value} {q:Nat} {pr:Int} {F1:Nat→Prop} (h:WayZ T E P w F v (A++R) G) (hk:Keep (fun b=>v.ownBlock=some b) w w') (hv:Sl w' P 1 v' (A.length+1+R.length) (ptrs (A++(q,pr,[])::R))) (ho:∀ b,v'.ownBlock=some b→(v.ownBlock=some b∨w.heap.size≤b)∧¬ F1 b)
  (h1:Lvl pr T E w' F1 q []) (hn:∀ b,F1 b→w.heap.size≤b) :
  ∃ F' G',WayZ T E P w' F' v' (A++(q,pr,[])::R) G'∧Grow w F F'∧Keep F w w'∧∀ b,F b→F' b:=by
 have H:∀ x ∈ A++R,x.1≠q:=fun x hx e=>by
  have h2:=h.lt x.1 (h.in_ x hx _ (h.lv x hx).1)
  have h3:=hn q h1.1
  omega
 have I:∀ x ∈ A++(q,pr,([]:List Ent))::R,x=(q,pr,[])∨x ∈ A++R:=fun x hx=>by
  rcases List.mem_append.1 hx with hx | hx
  ·exact .inr (by simp [hx])
  rcases List.mem_cons.1 hx with hx | hx
  ·exact .inl hx
  exact .inr (by simp [hx])
 have J:∀ x ∈ A++R,∀ b,G x.1 b→¬ F1 b:=fun x hx b j hF=>by
  have h2:=h.lt b (h.in_ x hx b j)
  have h3:=hn b hF
  omega
 refine ⟨fun b=>F b∨v'.ownBlock=some b∨F1 b,fun p b=>if p=q then F1 b else G p b,⟨?_,?_,?_,?_,?_,?_⟩,?_,hk.mono (fun b _ j=>(h.own b j).1),fun b j=>.inl j⟩
 ·rw [show (A++(q,pr,([]:List Ent))::R).length=A.length+1+R.length by simp;omega]
  exact hv
 ·intro x hx
  rcases I x hx with rfl | hx
  ·simp only [if_true]
   exact h1
  simp only [if_neg (H x hx)]
  exact (h.lv x hx).keep hk (fun b j O=>(h.own b O).2 x hx j)
 ·have h2:=h.ap
  rw [List.pairwise_append] at h2
  rw [List.pairwise_append,List.pairwise_cons]
  obtain ⟨p1,p3,p4⟩:=h2
  have hA:∀ x ∈ A,x.1≠q:=fun x hx=>H x (by simp [hx])
  have hR:∀ x ∈ R,x.1≠q:=fun x hx=>H x (by simp [hx])
  refine ⟨?_,⟨?_,?_⟩,?_⟩
  ·refine p1.imp_of_mem ?_
   intro x y hx N U
   simp only [if_neg (hA x hx),if_neg (hA y N)]
   exact U
  ·intro x hx b
   simp only [if_true,if_neg (hR x hx)]
   intro j O
   exact J x (by simp [hx]) b O j
  ·refine p3.imp_of_mem ?_
   intro x y hx N U
   simp only [if_neg (hR x hx),if_neg (hR y N)]
   exact U
  intro x hx y N b
  simp only [if_neg (hA x hx)]
  rcases List.mem_cons.1 N with rfl | N
  ·simp only [if_true]
   exact J x (by simp [hx]) b
  simp only [if_neg (hR y N)]
  exact p4 x hx y N b
 ·intro x hx b j
  rcases I x hx with rfl | hx
  ·simp only [if_true] at j
   exact .inr (.inr j)
  simp only [if_neg (H x hx)] at j
  exact .inl (h.in_ x hx b j)
 ·intro b j
  refine ⟨.inr (.inl j),fun x hx D=>?_⟩
  rcases I x hx with rfl | hx
  ·simp only [if_true] at D
   exact (ho b j).2 D
  simp only [if_neg (H x hx)] at D
  rcases (ho b j).1 with h' | h'
  ·exact (h.own b h').2 x hx D
  have:=h.lt b (h.in_ x hx b D);omega
 ·intro b j
  rcases j with j | j | j
  ·exact Nat.lt_of_lt_of_le (h.lt b j) hk.size
  ·exact hv.lt j
  exact h1.2.1 b j
 intro b j
 rcases j with j | j | j
 ·exact .inl j
 ·rcases (ho b j).1 with h' | h'
  ·exact .inl (h.own b h').1
  exact .inr h'
 exact .inr (hn b j)
end
theorem slQ:SlT 88 117 1 8:=⟨Tryz.underlying88,by kernel_rfl,⟨.pointer none,by kernel_rfl,rfl,by intro u j;simp [Value.cells] at j;subst j;rfl⟩,by omega⟩
theorem VV:SlT 57 97 1 8:=⟨Tryz.underlying57,by kernel_rfl,⟨.pointer none,by kernel_rfl,rfl,by intro u j;simp [Value.cells] at j;subst j;rfl⟩,by omega⟩
section
variable {a:Act} {o:Oper} {u:World}
theorem exec_ldp (t e:TypeId) (I:Tryz.prog.underlying t=some (.pointer e)) (x:Operand) (D:Addr) (v:Value) (j:o.op=.load t x) (hx:a.eval x=.pointer (some D)) (H:u.cell? D=some v) :
  (execOp a.eval o).run Tryz.prog u=.ok (.value v) u:=by
 unfold execOp
 simp only [j,hx,Instr.loadAt,Instr.sureAddr,Sem.run_bind,Sem.run_pure,Result.andThen_ok]
 simp [loadVar,isAgg,run_underlying I,Sem.run_bind,H,go_sem]
theorem exec_oneP {t T:TypeId} {bytes:Nat} (I:SlT t T 1 bytes) (x:Operand) (p:Nat) (D:o.op=.buildSlice t 1 #[(0,x)]) (hx:a.eval x=.pointer (some ⟨p,0,none⟩)) :
  (execOp a.eval o).run Tryz.prog u=.ok (.value (.slice (some ⟨u.heap.size,0,none⟩) 1 1)) (u.alloc (.cells [.pointer (some ⟨p,0,none⟩)].toArray T)):=by
 obtain ⟨z,N,hz2,_⟩:=I.info
 obtain ⟨i0,J,H,j,hzb⟩:=info_parts N
 unfold execOp
 simp only [D,List.map_toArray,List.map_cons,List.map_nil,hx]
 simp [Instr.buildSlice,run_underlying I.und,sizeOf,typeInfo,zeroValue,J,H,j,Sem.run_bind,Value.cells,go_sem]
end
def Lad (w:World) (F:Nat→Prop) (g off:Nat) (s:Int) (L:List Lev):Prop:=∃ v,w.cell? ⟨g,off,none⟩=some (.int .i64 s)∧w.cell? ⟨g,off+1,none⟩=some v∧Way 123 120 117 w F v L
theorem Lad.kept {w w':World} {F:Nat→Prop} {g off:Nat} {s:Int} {L:List Lev} (h:Lad w F g off s L) (hk:Kept w w'):Lad w' F g off s L:=by
 obtain ⟨v,D,j,H⟩:=h
 exact ⟨v,hk.cell D,hk.cell j,H.kept hk⟩
structure LvsOk (L:List Lev):Prop where
 good:∀ l ∈ L,Good l.2
 few:(YZ L).length≤64
 len:L.length≤64
 whole:yJ L≤67108864
theorem Sid.len {s:Int}:∀ {L:List Lev},Sid s L→L.length≤(YZ L).length
 | [],_=>by simp
 | l::L,h=>by
  have h1:=h.tail.len
  have h2:=List.length_pos_iff.2 (h.ne l (by simp))
  rw [Qy,List.length_append,List.length_cons]
  omega
theorem Sid.ok {s:Int} {L:List Lev} (h:Sid s L):LvsOk L:=⟨fun l j=>(h.good j).1,h.few,Kv h.len h.few,(wholeL_le h).2⟩
theorem qj {Z:Zs} {i:Nat} {z:Nat × Lev} (h:Z[i]?=some z):(levs Z)[i]?=some z.2:=by rw [levs,List.getElem?_map,h];rfl
theorem qz {Z:Zs} {z:Nat × Lev} (h:z ∈ Z):z.2 ∈ levs Z:=List.mem_map.2 ⟨z,h,rfl⟩
theorem jU {L:List Lev} {i:Nat} {l:Lev} (h:L[i]?=some l):YZ (L.take (i+1))=YZ (L.take i)++l.2:=by
 rw [List.take_add_one,h,JJY]
 simp [YZ]
theorem entL_part (L:List Lev) (i:Nat):(YZ (L.take i)).length≤(YZ L).length:=by
 have:YZ L=YZ (L.take i)++YZ (L.drop i):=by rw [← JJY,List.take_append_drop]
 rw [this,List.length_append]
 omega
theorem count_any (w:World) (F:Nat→Prop) (g off:Nat) (s:Int) (L:List Lev) (h:Lad w F g off s L) (hL:LvsOk L):Gives 103 #[.pointer (some ⟨g,off,none⟩)] w (.eq (.int .i64 ((YZ L).length:Int))):=by
 refine QW ?_
 obtain ⟨v,a3,a1,Z,G,eL,hW⟩:=h
 have U:Z.length≤64:=by have:=hL.len;rw [← eL,Xz] at this;exact this
 have HS:=Kj a3
 have HV:=Kj a1
 have HW:=Kj hW
 have HL:=Kj hL
 have EL:=Kj eL
 obtain ⟨n,hn⟩:∃ n,Z.length=n:=⟨_,rfl⟩
 have J:=Kj hW.sl
 rw [hn] at J U
 have HN:=Kj hn
 clear a3 a1 hW hL eL hn
 go_enter Tryz.func103,Tryz.ntmps103
 go_upto_region 2 with fail
 refine wA 6 [pV g off,pV g off,pV g (off+1),v,iV (n:Int),iV 0] [6,7,8,9,10,11] (nS 3 (ldC HV.out) (nS 4 (sV rfl (fun a u E D hk=>Jx _ slQ _ _ _ _ rfl (dD D 3) J.out)) nZ)) ?_
 intro w0 k0
 simp only [F8]
 go_wp2_with fail
 go_loopw [3,11] (fun t q wr=>∃ (i:Nat) (m:Nat),i≤n∧q=.int .i64 i∧t=.int .i64 (m:Int)∧Hid (m=(YZ (L.take i)).length)∧Kept w wr) (fun _ q _=>n-(intOf q).toNat)
 case atStart=>exact ⟨0,0,Nat.zero_le _,rfl,rfl,by show _=_;rw [List.take_zero];rfl,k0⟩
 obtain ⟨i,m,hi,rfl,rfl,HM,H⟩:=hrel
 by_cases hlt:i<n
 ·skip
  obtain ⟨gs,os,c,rfl⟩:=J.out.some_ (by omega)
  obtain ⟨z,N⟩:∃ z,Z[i]?=some z:=⟨Z[i]'(by rw [HN.out];omega),List.getElem?_eq_getElem (by rw [HN.out];omega)⟩
  obtain ⟨q,pr,X⟩:=z
  have j:=(HW.out.kept H).cell N
  have HC:=Kj j
  have HZ:=Kj N
  have a2:=Kj ((HW.out.kept H).lv (q,pr,X) (List.mem_of_getElem? N))
  have HG:Hid (Good X):=HL.out.good (pr,X) (by rw [← EL.out];exact qz (List.mem_of_getElem? N))
  have HA:Hid (L[i]?=some (pr,X)):=by show _=_;rw [← EL.out];exact qj N
  clear j N
  go_upto_region 4 with fail
  refine wA 3 [pV gs (os+i*1),pV q 0,pV q 0] [13,14,5] (nS 0 (ixV slQ (os) n i ((i:Int)) (hlt)) (nS 1 (ldC HC.out) nZ)) ?_
  intro w1 k1
  simp only [F8]
  have a5:=H.trans k1
  have I:=Kj (a2.out.kept k1)
  clear HC a2 k1
  have a4:m+X.length≤64:=by
   have h1:=entL_part L (i+1)
   rw [jU HA.out,List.length_append,← HM.out] at h1
   simp only at h1
   have:=HL.out.few
   omega
  have O:Hid (m+X.length=(YZ (L.take (i+1))).length):=by
   show _=_
   rw [jU HA.out,List.length_append,← HM.out]
  obtain ⟨x,hx⟩:∃ x,X.length=x:=⟨_,rfl⟩
  have HX:=Kj hx
  rw [hx] at a4 O
  clear HM hx
  go_upto_region 5 with fail
  refine wAp 4 [iV (m:Int),pV q 0,iV (x:Int),iV (((m:Int):Int)+((x:Int):Int))] [15,16,17,18] (nS 2 (cV Tryz.func115 (fun u hk=>(by have h:=len_any u _ q X (I.out.kept hk);rw [HX.out] at h;exact h))) (nS 3 (sV rfl (fun a u E D hk=>YQ (p:=((m:Int))) (q:=((x:Int))) (((m:Int):Int)+((x:Int):Int)) rfl (dD D 0) (dD D 2) rfl (by omega) (by omega))) nZ)) ?_
  intro w2 k2
  simp only [F8]
  refine aT (.int .i64 (((m:Int):Int)+((x:Int):Int))) ?_
  simp only [Act.put,sA,sS,sZ]
  refine Kx ?_
  have a6:=a5.trans k2
  clear I k2
  go_wp2
  exact ⟨⟨i+1,m+x,by omega,by go_num,by go_num,O,a6⟩,by simp [intOf];omega⟩
 have HF:Hid (m=(YZ L).length):=by
  show _=_
  rw [HM.out,List.take_of_length_le (by rw [← EL.out,Xz,HN.out];omega)]
 clear HM
 go_wp2
 go_ret
 exact ⟨by rw [← HF.out];rfl,H⟩
theorem lorders_any (w:World) (F:Nat→Prop) (g off:Nat) (s:Int) (L:List Lev) (h:Lad w F g off s L) (hL:LvsOk L):Gives 73 #[.pointer (some ⟨g,off,none⟩)] w (.sl w.heap.size 35 9 (XJ L).length (ords (XJ L))):=by
 obtain ⟨v,a6,a2,Z,G,eL,hW⟩:=h
 have a9:Z.length≤64:=by have:=hL.len;rw [← eL,Xz] at this;exact this
 have HS:=Kj a6
 have HV:=Kj a2
 have HW:=Kj hW
 have HL:=Kj hL
 have EL:=Kj eL
 obtain ⟨n,hn⟩:∃ n,Z.length=n:=⟨_,rfl⟩
 have U:=Kj hW.sl
 rw [hn] at U a9
 have HN:=Kj hn
 clear a6 a2 hW hL eL hn
 go_enter Tryz.func73,Tryz.ntmps73
 go_upto_region 2 with fail
 refine wA 6 [pV g off,pV g off,pV g (off+1),v,iV (n:Int),iV 0] [6,7,8,9,10,11] (nS 3 (ldC HV.out) (nS 4 (sV rfl (fun a u E D hk=>Jx _ slQ _ _ _ _ rfl (dD D 3) U.out)) nZ)) ?_
 intro w0 k0
 simp only [F8]
 go_wp2_with fail
 go_loopw [3,11] (fun t q wr=>∃ (i:Nat),i≤n∧q=.int .i64 i∧Hid ((Kn.sl w.heap.size 35 9 (XJ (L.take i)).length (ords (XJ (L.take i)))).p t wr)∧Kept w wr) (fun _ q _=>n-(intOf q).toNat)
 case atStart=>exact ⟨0,Nat.zero_le _,rfl,⟨by rw [List.take_zero];exact Sl.nil _ _ _,fun b hb=>by simp [Value.ownBlock] at hb⟩,k0⟩
 obtain ⟨i,hi,rfl,H,J⟩:=hrel
 obtain ⟨v3,ag⟩:∃ v3,v3=u3:=⟨_,rfl⟩
 subst ag
 by_cases hlt:i<n
 ·skip
  obtain ⟨gs,os,c,rfl⟩:=U.out.some_ (by omega)
  obtain ⟨z,hz⟩:∃ z,Z[i]?=some z:=⟨Z[i]'(by rw [HN.out];omega),List.getElem?_eq_getElem (by rw [HN.out];omega)⟩
  obtain ⟨q,pr,X⟩:=z
  have I:=(HW.out.kept J).cell hz
  have HC:=Kj I
  have HZ:=Kj hz
  have a5:=Kj ((HW.out.kept J).lv (q,pr,X) (List.mem_of_getElem? hz))
  have HG:Hid (Good X):=HL.out.good (pr,X) (by rw [← EL.out];exact qz (List.mem_of_getElem? hz))
  have HA:Hid (L[i]?=some (pr,X)):=by show _=_;rw [← EL.out];exact qj hz
  clear I hz
  go_upto_region 4 with fail
  refine wA 3 [pV gs (os+i*1),pV q 0,pV q 0] [13,14,5] (nS 0 (ixV slQ (os) n i ((i:Int)) (hlt)) (nS 1 (ldC HC.out) nZ)) ?_
  intro w1 k1
  simp only [F8]
  have a4:=J.trans k1
  have aa:=Kj (a5.out.kept k1)
  have a8:=k1
  clear HC a5 k1
  have ae:Hid ((XJ (L.take i)).length+X.length≤64):=by
   show _≤_
   have h1:=entL_part L (i+1)
   rw [jU HA.out,List.length_append] at h1
   simp only at h1
   have:=HL.out.few
   rw [yV]
   omega
  have a3:=Kj (H.out.1.kept a8)
  have O:=Kj H.out.2
  have s0:=a4.size
  clear H a8
  go_upto_region 5 with fail
  refine tAp 3 [.v (v3),pK q 0,.k (.sl w1.heap.size 35 9 X.length (ords (X.map Ent.o)))] (nS 2 (cV Tryz.func92 (fun u hk=>(orders_any u _ q X (aa.out.kept hk) HG.out).mono (fun e w' ⟨v,h1,h2,h3⟩=>⟨v,h1,⟨h2.1,fun b hb=>Kv hk.size (h2.2 b hb)⟩,h3⟩))) nZ) ?_
  intro gv w2 hV k2
  rw [dq 3 [15,16,17]]
  simp only [Fz7]
  rw [gQ hV 0 15 v3]
  have j:(.sl w1.heap.size 35 9 X.length (ords (X.map (·.o))):Kn).p (gv 17) w2:=hV 2 17 (by kernel_rfl)
  generalize gv 17=v17 at j ⊢
  clear hV
  have s2:=k2.size
  have ac:=ae.out
  obtain ⟨v4,w4,a7,N,a1,ab⟩:=QQ slO _ w2 v3 v17 (XJ (L.take i)).length X.length _ _ (a3.out.kept k2) j.1 (qx _) (by unfold maxLen;omega) (by omega)
  refine Vj v4 w4 rfl (QV slO (.tmp 15) (.tmp 17) v3 v17 rfl (by kernel_rfl) (by kernel_rfl) v4 w4 a7) ?_
  refine aT (v4) ?_
  simp only [Act.put,sA,sS,sZ]
  refine Kx ?_
  have af:Kept w w4:=by
   refine Keep.trans (a4.trans k2) a1 (fun b hb ah=>?_)
   have:=O.out b ah
   omega
  have ad:Hid ((Kn.sl w.heap.size 35 9 (XJ (L.take (i+1))).length (ords (XJ (L.take (i+1))))).p v4 w4):=by
   refine ⟨?_,fun b hb=>?_⟩
   ·have e:XJ (L.take (i+1))=XJ (L.take i)++X.map (·.o):=by
     unfold XJ
     rw [jU HA.out,List.map_append]
    rw [e,List.length_append,List.length_map]
    unfold ords at N ⊢
    rw [List.flatMap_append]
    exact N
   rcases ab b hb with h | h
   ·exact O.out b h
   omega
  clear N a1 ab a3 O j a7 ac
  go_wp2
  exact ⟨⟨i+1,by omega,by go_num,ad,af⟩,by simp [intOf];omega⟩
 have HF:Hid ((Kn.sl w.heap.size 35 9 (XJ L).length (ords (XJ L))).p v3 wr):=by
  have:=H.out
  rw [List.take_of_length_le (by rw [← EL.out,Xz,HN.out];omega)] at this
  exact this
 clear H
 go_wp2
 go_ret
 exact ⟨v3,rfl,HF.out,J⟩
def two (p:Int × Int):Value:=.tuple #[.int .i64 p.1,.int .i64 p.2]
theorem Wq (n j H:Int) (w:World):Gives 87 #[.int .i64 n,.int .i64 j,.int .i64 H] w (.eq (.bool (rng n j H))):=by
 refine QW ?_
 unfold rng
 by_cases h:j≤n
 ·have D:decide (j≤n)=true:=by simpa using h
  rw [D]
  go_enter Tryz.func87,Tryz.ntmps87
  go_wp2
  go_ret
  exact ⟨Wz (by simp),Kept.refl w⟩
 have D:decide (j≤n)=false:=by simpa using h
 rw [D]
 go_enter Tryz.func87,Tryz.ntmps87
 go_wp2
 go_ret
 exact ⟨Wz (by simp),Kept.refl w⟩
theorem better_any (side x y:Int) (w:World):Gives 94 #[.int .i64 side,.int .i64 x,.int .i64 y] w (.eq (.bool (bet side x y))):=by
 refine QW ?_
 unfold bet
 by_cases h:side=1
 ·have j:((side:Int) == 1)=true:=by simpa using h
  rw [if_pos h];clear h
  go_enter Tryz.func94,Tryz.ntmps94
  go_wp2
  go_ret
  exact ⟨Wz (by simp),Kept.refl w⟩
 have j:((side:Int) == 1)=false:=by simpa using h
 rw [if_neg h];clear h
 go_enter Tryz.func94,Tryz.ntmps94
 go_wp2
 go_ret
 exact ⟨Wz (by simp),Kept.refl w⟩
theorem refBetter_any (side x y:Int) (w:World):Gives 84 #[.int .i64 side,.int .i64 x,.int .i64 y] w (.eq (.bool (bet side x y))):=by
 refine QW ?_
 unfold bet
 by_cases h:side=1
 ·have j:((side:Int) == 1)=true:=by simpa using h
  rw [if_pos h];clear h
  go_enter Tryz.func84,Tryz.ntmps84
  go_wp2
  go_ret
  exact ⟨Wz (by simp),Kept.refl w⟩
 have j:((side:Int) == 1)=false:=by simpa using h
 rw [if_neg h];clear h
 go_enter Tryz.func84,Tryz.ntmps84
 go_wp2
 go_ret
 exact ⟨Wz (by simp),Kept.refl w⟩
theorem reaches_any (side x y:Int) (w:World):Gives 78 #[.int .i64 side,.int .i64 x,.int .i64 y] w (.eq (.bool (!bet side y x))):=by
 unfold Gives
 go_enter Tryz.func78,Tryz.ntmps78
 go_upto_region 1 with fail
 refine wAp 5 [iV side,iV y,iV x,bV (bet side y x),bV (!(bet side y x))] [7,8,9,10,11] (nS 3 (cV Tryz.func94 (fun u hk=>better_any _ _ _ u)) (nS 4 (sV rfl (fun a u E D hk=>YX _ _ (bet side y x) rfl (dD D 3))) nZ)) ?_
 intro w1 j
 simp only [F8]
 go_wp2
 go_ret
 exact ⟨_,rfl,rfl,j⟩
theorem isOwned_any (c:Ord) (w:World):Gives 63 #[c.v] w (.eq (.bool c.owned)):=by
 unfold Gives Ord.v
 have HT:Hid True:=trivial
 have j:Hid (Blk (w.alloc (.cells c.cells.toArray 35)) w.heap.size 35 c.cells):=Blk.new w _ _
 have N:Kept w (w.alloc (.cells c.cells.toArray 35)):=(Keep.refl _ w).alloc _
 go_enter Tryz.func63,Tryz.ntmps63
 go_upto_region 1 with fail
 generalize w.alloc (.cells c.cells.toArray 35)=w0 at j N ⊢
 generalize w.heap.size=g at j ⊢
 refine tAp 13 [pK g 0,iK c.tr,bK (rng c.tr 0 31),bK (rng c.tr 0 31),.k (.cond (rng c.tr 0 31) (pE g 2)),.k (.cond (rng c.tr 0 31) (iE c.firm)),.k (.cond (rng c.tr 0 31) (bE (rng c.firm 0 7))),bK ((rng c.tr 0 31) && (rng c.firm 0 7)),bK ((rng c.tr 0 31) && (rng c.firm 0 7)),.k (.cond ((rng c.tr 0 31) && (rng c.firm 0 7)) (pE g 1)),.k (.cond ((rng c.tr 0 31) && (rng c.firm 0 7)) (iE c.id)),.k (.cond ((rng c.tr 0 31) && (rng c.firm 0 7)) (bE (rng c.id 0 1073741824))),bK (((rng c.tr 0 31) && (rng c.firm 0 7)) && (rng c.id 0 1073741824))] (nS 1 (ldF (fun u hk=>(j.out.kept hk).fld 0 _ rfl)) (nS 2 (cV Tryz.func87 (fun u hk=>Wq _ _ _ u)) (nS 4 (fS (iC 5 3 rfl (fun a u E D hk H=>Vy 35 2 2 _ (g) rfl (eE E) (by kernel_rfl)) fz)) (nS 5 (fS (iC 6 3 rfl (fun a u E D hk H=>JZ _ Tryz.underlying3 _ _ _ rfl ((D 4 7 (by kernel_rfl)).1 H) ((j.out.kept hk).fld 2 _ rfl)) fz)) (nS 6 ((fun a u hE I hk=>f_if _ rfl rfl rfl (dD I 3) (fun H=>Zj 87 #[.int .i64 c.firm,.int .i64 0,.int .i64 7] rfl (VY rfl rfl (dD I 3) (VU H)) (Jy 87 _ [.tmp 8,.const (.int .i64 0),.const (.int .i64 7)] _ [.int .i64 c.firm,.int .i64 0,.int .i64 7] Tryz.func87 (by kernel_rfl) (by kernel_rfl) rfl (show [a.eval (.tmp 8),a.eval (.const (.int .i64 0)),a.eval (.const (.int .i64 7))]=[.int .i64 c.firm,.int .i64 0,.int .i64 7] from (by rw [show a.eval (.tmp 8)=.int .i64 c.firm from ((I 5 8 (by kernel_rfl)).1 H)] <;> rfl)) u) (Wq _ _ _ u)))) (nS 7 (sV rfl (fun a u E D hk=>Qj _ _ _ ((rng c.tr 0 31)) ((rng c.firm 0 7)) rfl (dD D 3) (fun J=>((D 6 9 (by kernel_rfl)).1 J)) rfl)) (nS 9 (fS (iC 10 8 rfl (fun a u E D hk H=>Vy 35 1 1 _ (g) rfl (eE E) (by kernel_rfl)) fz)) (nS 10 (fS (iC 11 8 rfl (fun a u E D hk H=>JZ _ Tryz.underlying3 _ _ _ rfl ((D 9 12 (by kernel_rfl)).1 H) ((j.out.kept hk).fld 1 _ rfl)) fz)) (nS 11 ((fun a u hE I hk=>f_if _ rfl rfl rfl (dD I 8) (fun H=>Zj 87 #[.int .i64 c.id,.int .i64 0,.int .i64 1073741824] rfl (VY rfl rfl (dD I 8) (VU H)) (Jy 87 _ [.tmp 13,.const (.int .i64 0),.const (.int .i64 1073741824)] _ [.int .i64 c.id,.int .i64 0,.int .i64 1073741824] Tryz.func87 (by kernel_rfl) (by kernel_rfl) rfl (show [a.eval (.tmp 13),a.eval (.const (.int .i64 0)),a.eval (.const (.int .i64 1073741824))]=[.int .i64 c.id,.int .i64 0,.int .i64 1073741824] from (by rw [show a.eval (.tmp 13)=.int .i64 c.id from ((I 10 13 (by kernel_rfl)).1 H)] <;> rfl)) u) (Wq _ _ _ u)))) (nS 12 (sV rfl (fun a u E D hk=>Qj _ _ _ (((rng c.tr 0 31) && (rng c.firm 0 7))) ((rng c.id 0 1073741824)) rfl (dD D 8) (fun J=>((D 11 14 (by kernel_rfl)).1 J)) rfl)) nZ)))))))))) ?_
 intro gv w1 O U
 rw [dq 13 [3,4,5,6,7,8,9,10,11,12,13,14,15]]
 simp only [Fz7]
 rw [gQ O 12 15 (.bool (((rng c.tr 0 31) && (rng c.firm 0 7)) && (rng c.id 0 1073741824)))]
 clear O
 go_wp2
 go_ret
 exact ⟨_,rfl,rfl,N.trans U⟩
theorem isOfApi_any (c:Ord) (w:World):Gives 64 #[c.v] w (.eq (.bool c.ofApi)):=by
 unfold Gives Ord.v
 have HT:Hid True:=trivial
 have j:Hid (Blk (w.alloc (.cells c.cells.toArray 35)) w.heap.size 35 c.cells):=Blk.new w _ _
 have H:Kept w (w.alloc (.cells c.cells.toArray 35)):=(Keep.refl _ w).alloc _
 go_enter Tryz.func64,Tryz.ntmps64
 go_upto_region 1 with fail
 generalize w.alloc (.cells c.cells.toArray 35)=w0 at j H ⊢
 generalize w.heap.size=g at j ⊢
 refine tAp 8 [pK g 3,iK c.side,bK (rng c.side 1 2),bK (rng c.side 1 2),.k (.cond (rng c.side 1 2) (pE g 4)),.k (.cond (rng c.side 1 2) (iE c.k)),.k (.cond (rng c.side 1 2) (bE (rng c.k 1 5))),bK ((rng c.side 1 2) && (rng c.k 1 5))] (nS 1 (ldF (fun u hk=>(j.out.kept hk).fld 3 _ rfl)) (nS 2 (cV Tryz.func87 (fun u hk=>Wq _ _ _ u)) (nS 4 (fS (iC 5 3 rfl (fun a u E D hk I=>Vy 35 4 4 _ (g) rfl (eE E) (by kernel_rfl)) fz)) (nS 5 (fS (iC 6 3 rfl (fun a u E D hk I=>JZ _ Tryz.underlying3 _ _ _ rfl ((D 4 7 (by kernel_rfl)).1 I) ((j.out.kept hk).fld 4 _ rfl)) fz)) (nS 6 ((fun a u hE J hk=>f_if _ rfl rfl rfl (dD J 3) (fun I=>Zj 87 #[.int .i64 c.k,.int .i64 1,.int .i64 5] rfl (VY rfl rfl (dD J 3) (VU I)) (Jy 87 _ [.tmp 8,.const (.int .i64 1),.const (.int .i64 5)] _ [.int .i64 c.k,.int .i64 1,.int .i64 5] Tryz.func87 (by kernel_rfl) (by kernel_rfl) rfl (show [a.eval (.tmp 8),a.eval (.const (.int .i64 1)),a.eval (.const (.int .i64 5))]=[.int .i64 c.k,.int .i64 1,.int .i64 5] from (by rw [show a.eval (.tmp 8)=.int .i64 c.k from ((J 5 8 (by kernel_rfl)).1 I)] <;> rfl)) u) (Wq _ _ _ u)))) (nS 7 (sV rfl (fun a u E D hk=>Qj _ _ _ ((rng c.side 1 2)) ((rng c.k 1 5)) rfl (dD D 3) (fun N=>((D 6 9 (by kernel_rfl)).1 N)) rfl)) nZ)))))) ?_
 intro gv w1 O U
 rw [dq 8 [3,4,5,6,7,8,9,10]]
 simp only [Fz7]
 rw [gQ O 7 10 (.bool ((rng c.side 1 2) && (rng c.k 1 5)))]
 clear O
 go_wp2
 go_ret
 exact ⟨_,rfl,rfl,H.trans U⟩
theorem mostShown_t (c:Ord) (O:(decide (c.k=1) || decide (c.k=5))=true) (w:World):Gives 88 #[c.v] w (.eq (.int .i64 c.qty)):=by
 unfold Gives Ord.v
 have HT:Hid True:=trivial
 have j:Hid (Blk (w.alloc (.cells c.cells.toArray 35)) w.heap.size 35 c.cells):=Blk.new w _ _
 have H:Kept w (w.alloc (.cells c.cells.toArray 35)):=(Keep.refl _ w).alloc _
 go_enter Tryz.func88,Tryz.ntmps88
 go_upto_region 1 with fail
 generalize w.alloc (.cells c.cells.toArray 35)=w0 at j H ⊢
 generalize w.heap.size=g at j ⊢
 refine tA 8 [pK g 4,iK c.k,bK (decide ((c.k:Int)=(1:Int))),bK (decide ((c.k:Int)=(1:Int))),.k (.cond (!(decide ((c.k:Int)=(1:Int)))) (pE g 4)),.k (.cond (!(decide ((c.k:Int)=(1:Int)))) (iE c.k)),.k (.cond (!(decide ((c.k:Int)=(1:Int)))) (bE (decide ((c.k:Int)=(5:Int))))),bK true] [3,4,5,6,7,8,9,10] (nS 1 (ldF (fun u hk=>(j.out.kept hk).fld 4 _ rfl)) (nS 2 (sV rfl (fun a u E D hk=>JY rfl (dD D 1) rfl)) (nS 4 (fS (uC 5 3 rfl (fun a u E D hk N=>Vy 35 4 4 _ (g) rfl (eE E) (by kernel_rfl)) fz)) (nS 5 (fS (uC 6 3 rfl (fun a u E D hk N=>JZ _ Tryz.underlying3 _ _ _ rfl ((D 4 7 (by kernel_rfl)).1 N) ((j.out.kept hk).fld 4 _ rfl)) fz)) (nS 6 (fS (uC 7 3 rfl (fun a u E D hk N=>JY rfl ((D 5 8 (by kernel_rfl)).1 N) rfl) fz)) (nS 7 (aV rfl (fun a u E D hk=>ZY _ _ _ ((decide ((c.k:Int)=(1:Int)))) ((decide ((c.k:Int)=(5:Int)))) rfl (dD D 3) rfl (fun a1=>((D 6 9 (by kernel_rfl)).1 a1))) O) nZ)))))) ?_
 intro gv w1 hV U
 simp only [Fz7]
 rw [gQ hV 7 10 (.bool true)]
 clear hV
 have J:=Kj (j.out.kept U)
 have I:=H.trans U
 clear U H
 go_upto_region 2 with fail
 refine wAp 2 [pV g 6,iV c.qty] [11,12] (nS 1 (ldF (fun u hk=>(J.out.kept hk).fld 6 _ rfl)) nZ) ?_
 intro w2 k2
 simp only [F8]
 have HB2:=Kj (J.out.kept k2)
 have a2:=I.trans k2
 clear k2 I
 go_wp2
 go_ret
 exact ⟨_,rfl,rfl,a2⟩
theorem mostShown_f (c:Ord) (J:(decide (c.k=1) || decide (c.k=5))=false) (w:World):Gives 88 #[c.v] w (.eq (.int .i64 0)):=by
 unfold Gives Ord.v
 have HT:Hid True:=trivial
 have j:Hid (Blk (w.alloc (.cells c.cells.toArray 35)) w.heap.size 35 c.cells):=Blk.new w _ _
 have H:Kept w (w.alloc (.cells c.cells.toArray 35)):=(Keep.refl _ w).alloc _
 go_enter Tryz.func88,Tryz.ntmps88
 go_upto_region 1 with fail
 generalize w.alloc (.cells c.cells.toArray 35)=w0 at j H ⊢
 generalize w.heap.size=g at j ⊢
 refine tA 8 [pK g 4,iK c.k,bK (decide ((c.k:Int)=(1:Int))),bK (decide ((c.k:Int)=(1:Int))),.k (.cond (!(decide ((c.k:Int)=(1:Int)))) (pE g 4)),.k (.cond (!(decide ((c.k:Int)=(1:Int)))) (iE c.k)),.k (.cond (!(decide ((c.k:Int)=(1:Int)))) (bE (decide ((c.k:Int)=(5:Int))))),bK false] [3,4,5,6,7,8,9,10] (nS 1 (ldF (fun u hk=>(j.out.kept hk).fld 4 _ rfl)) (nS 2 (sV rfl (fun a u E D hk=>JY rfl (dD D 1) rfl)) (nS 4 (fS (uC 5 3 rfl (fun a u E D hk I=>Vy 35 4 4 _ (g) rfl (eE E) (by kernel_rfl)) fz)) (nS 5 (fS (uC 6 3 rfl (fun a u E D hk I=>JZ _ Tryz.underlying3 _ _ _ rfl ((D 4 7 (by kernel_rfl)).1 I) ((j.out.kept hk).fld 4 _ rfl)) fz)) (nS 6 (fS (uC 7 3 rfl (fun a u E D hk I=>JY rfl ((D 5 8 (by kernel_rfl)).1 I) rfl) fz)) (nS 7 (aV rfl (fun a u E D hk=>ZY _ _ _ ((decide ((c.k:Int)=(1:Int)))) ((decide ((c.k:Int)=(5:Int)))) rfl (dD D 3) rfl (fun U=>((D 6 9 (by kernel_rfl)).1 U))) J) nZ)))))) ?_
 intro gv w1 hV N
 simp only [Fz7]
 rw [gQ hV 7 10 (.bool false)]
 clear hV
 have HB1:=Kj (j.out.kept N)
 have O:=H.trans N
 clear N H
 go_wp2
 go_ret
 exact ⟨_,rfl,rfl,O⟩
theorem mostShown_any (c:Ord) (w:World):Gives 88 #[c.v] w (.eq (.int .i64 c.shown)):=by
 unfold Ord.shown
 by_cases h:c.k=1∨c.k=5
 ·rw [if_pos h]
  exact mostShown_t c (by simpa using h) w
 rw [if_neg h]
 exact mostShown_f c (by simpa using h) w
theorem hasPrices_s (c:Ord) (N:rng c.stop 0 1048576=false) (w:World):Gives 65 #[c.v] w (.eq (.bool false)):=by
 unfold Gives Ord.v
 have HT:Hid True:=trivial
 have j:Hid (Blk (w.alloc (.cells c.cells.toArray 35)) w.heap.size 35 c.cells):=Blk.new w _ _
 have H:Kept w (w.alloc (.cells c.cells.toArray 35)):=(Keep.refl _ w).alloc _
 go_enter Tryz.func65,Tryz.ntmps65
 go_upto_region 1 with fail
 generalize w.alloc (.cells c.cells.toArray 35)=w0 at j H ⊢
 generalize w.heap.size=g at j ⊢
 refine wA 4 [pV g 8,iV c.stop,bV (rng c.stop 0 1048576),bV true] [3,4,5,6] (nS 1 (ldF (fun u hk=>(j.out.kept hk).fld 8 _ rfl)) (nS 2 (cV Tryz.func87 (fun u hk=>Wq _ _ _ u)) (nS 3 (aV rfl (fun a u E D hk=>YX _ _ (rng c.stop 0 1048576) rfl (dD D 2)) (by rw [N];rfl)) nZ))) ?_
 intro w1 I
 simp only [F8]
 have HB1:=Kj (j.out.kept I)
 have J:=H.trans I
 clear I H
 go_wp2
 go_ret
 exact ⟨_,rfl,rfl,J⟩
theorem hasPrices_m (c:Ord) (hS:rng c.stop 0 1048576=true) (hK:decide (c.k=2)=true) (w:World):Gives 65 #[c.v] w (.eq (.bool (decide (c.price=0)))):=by
 unfold Gives Ord.v
 have HT:Hid True:=trivial
 have j:Hid (Blk (w.alloc (.cells c.cells.toArray 35)) w.heap.size 35 c.cells):=Blk.new w _ _
 have H:Kept w (w.alloc (.cells c.cells.toArray 35)):=(Keep.refl _ w).alloc _
 go_enter Tryz.func65,Tryz.ntmps65
 go_upto_region 1 with fail
 generalize w.alloc (.cells c.cells.toArray 35)=w0 at j H ⊢
 generalize w.heap.size=g at j ⊢
 refine wA 4 [pV g 8,iV c.stop,bV (rng c.stop 0 1048576),bV false] [3,4,5,6] (nS 1 (ldF (fun u hk=>(j.out.kept hk).fld 8 _ rfl)) (nS 2 (cV Tryz.func87 (fun u hk=>Wq _ _ _ u)) (nS 3 (aV rfl (fun a u E D hk=>YX _ _ (rng c.stop 0 1048576) rfl (dD D 2)) (by rw [hS];rfl)) nZ))) ?_
 intro w1 k1
 simp only [F8]
 have N:=Kj (j.out.kept k1)
 have J:=H.trans k1
 clear k1 H
 go_upto_region 3 with fail
 refine wA 3 [pV g 4,iV c.k,bV true] [7,8,9] (nS 1 (ldF (fun u hk=>(N.out.kept hk).fld 4 _ rfl)) (nS 2 (aV rfl (fun a u E D hk=>JY rfl (dD D 1) rfl) hK) nZ)) ?_
 intro w2 k2
 simp only [F8]
 have I:=Kj (N.out.kept k2)
 have O:=J.trans k2
 clear k2 J
 go_upto_region 4 with fail
 refine wAp 3 [pV g 5,iV c.price,bV (decide ((c.price:Int)=(0:Int)))] [10,11,12] (nS 1 (ldF (fun u hk=>(I.out.kept hk).fld 5 _ rfl)) (nS 2 (sV rfl (fun a u E D hk=>JY rfl (dD D 1) rfl)) nZ)) ?_
 intro w3 k3
 simp only [F8]
 have HB3:=Kj (I.out.kept k3)
 have U:=O.trans k3
 clear k3 O
 go_wp2
 go_ret
 exact ⟨_,rfl,rfl,U⟩
theorem hasPrices_o (c:Ord) (hS:rng c.stop 0 1048576=true) (hK:decide (c.k=2)=false) (w:World):Gives 65 #[c.v] w (.eq (.bool (rng c.price 1 1048576))):=by
 unfold Gives Ord.v
 have HT:Hid True:=trivial
 have j:Hid (Blk (w.alloc (.cells c.cells.toArray 35)) w.heap.size 35 c.cells):=Blk.new w _ _
 have H:Kept w (w.alloc (.cells c.cells.toArray 35)):=(Keep.refl _ w).alloc _
 go_enter Tryz.func65,Tryz.ntmps65
 go_upto_region 1 with fail
 generalize w.alloc (.cells c.cells.toArray 35)=w0 at j H ⊢
 generalize w.heap.size=g at j ⊢
 refine wA 4 [pV g 8,iV c.stop,bV (rng c.stop 0 1048576),bV false] [3,4,5,6] (nS 1 (ldF (fun u hk=>(j.out.kept hk).fld 8 _ rfl)) (nS 2 (cV Tryz.func87 (fun u hk=>Wq _ _ _ u)) (nS 3 (aV rfl (fun a u E D hk=>YX _ _ (rng c.stop 0 1048576) rfl (dD D 2)) (by rw [hS];rfl)) nZ))) ?_
 intro w1 k1
 simp only [F8]
 have N:=Kj (j.out.kept k1)
 have J:=H.trans k1
 clear k1 H
 go_upto_region 3 with fail
 refine wA 3 [pV g 4,iV c.k,bV false] [7,8,9] (nS 1 (ldF (fun u hk=>(N.out.kept hk).fld 4 _ rfl)) (nS 2 (aV rfl (fun a u E D hk=>JY rfl (dD D 1) rfl) hK) nZ)) ?_
 intro w2 k2
 simp only [F8]
 have I:=Kj (N.out.kept k2)
 have O:=J.trans k2
 clear k2 J
 go_upto_region 5 with fail
 refine wAp 3 [pV g 5,iV c.price,bV (rng c.price 1 1048576)] [13,14,15] (nS 1 (ldF (fun u hk=>(I.out.kept hk).fld 5 _ rfl)) (nS 2 (cV Tryz.func87 (fun u hk=>Wq _ _ _ u)) nZ)) ?_
 intro w3 k3
 simp only [F8]
 have HB3:=Kj (I.out.kept k3)
 have U:=O.trans k3
 clear k3 O
 go_wp2
 go_ret
 exact ⟨_,rfl,rfl,U⟩
theorem hasPrices_any (c:Ord) (w:World):Gives 65 #[c.v] w (.eq (.bool c.prices)):=by
 unfold Ord.prices
 cases j:rng c.stop 0 1048576 with
 | false=>exact hasPrices_s c j w
 | true=>
  by_cases hK:c.k=2
  ·rw [if_pos hK]
   exact hasPrices_m c j (by simpa using hK) w
  rw [if_neg hK]
  exact hasPrices_o c j (by simpa using hK) w
theorem JQz (c:Ord) (w:World):Gives 66 #[c.v] w (.eq (.bool c.amounts)):=by
 unfold Gives Ord.v
 have HT:Hid True:=trivial
 have j:Hid (Blk (w.alloc (.cells c.cells.toArray 35)) w.heap.size 35 c.cells):=Blk.new w _ _
 have J:Kept w (w.alloc (.cells c.cells.toArray 35)):=(Keep.refl _ w).alloc _
 go_enter Tryz.func66,Tryz.ntmps66
 go_upto_region 1 with fail
 generalize w.alloc (.cells c.cells.toArray 35)=w0 at j J ⊢
 generalize w.heap.size=g at j ⊢
 refine tHp 10 [pK g 6,iK c.qty,bK (rng c.qty 1 1048576),bK (rng c.qty 1 1048576),.k (.cond (rng c.qty 1 1048576) (pE g 7)),.k (.cond (rng c.qty 1 1048576) (iE c.shw)),.k (.cond (rng c.qty 1 1048576) (.eq (c.v))),.k (.cond (rng c.qty 1 1048576) (iE c.shown)),.k (.cond (rng c.qty 1 1048576) (bE (rng c.shw 0 c.shown))),bK ((rng c.qty 1 1048576) && (rng c.shw 0 c.shown))] (nS 1 (ldF (fun u hk=>(j.out.kept hk).fld 6 _ rfl)) (nS 2 (cV Tryz.func87 (fun u hk=>Wq _ _ _ u)) (nS 4 (fS (iC 5 3 rfl (fun a u E D hk H=>Vy 35 7 7 _ (g) rfl (eE E) (by kernel_rfl)) fz)) (nS 5 (fS (iC 6 3 rfl (fun a u E D hk H=>JZ _ Tryz.underlying3 _ _ _ rfl ((D 4 7 (by kernel_rfl)).1 H) ((j.out.kept hk).fld 7 _ rfl)) fz)) (nS 6 (fS (iC 7 3 rfl (fun a u E D hk H=>jz 35 _ (g) _ c.cells _ rfl (eE E) (j.out.kept hk) Tryz.underlying35 (by rw [Ord.cells_len _ HT.out];exact JU)) fz)) (nS 7 ((fun a u hE I hk=>f_if _ rfl rfl rfl (dD I 3) (fun H=>Zj 88 #[c.v] rfl (VY rfl rfl (dD I 3) (VU H)) (Jy 88 _ [.tmp 9] _ [c.v] Tryz.func88 (by kernel_rfl) (by kernel_rfl) rfl (show [a.eval (.tmp 9)]=[c.v] from (by rw [show a.eval (.tmp 9)=c.v from ((I 6 9 (by kernel_rfl)).1 H)] <;> rfl)) u) (mostShown_any c u)))) (nS 8 ((fun a u hE I hk=>f_if _ rfl rfl rfl (dD I 3) (fun H=>Zj 87 #[.int .i64 c.shw,.int .i64 0,.int .i64 c.shown] rfl (VY rfl rfl (dD I 3) (VU H)) (Jy 87 _ [.tmp 8,.const (.int .i64 0),.tmp 10] _ [.int .i64 c.shw,.int .i64 0,.int .i64 c.shown] Tryz.func87 (by kernel_rfl) (by kernel_rfl) rfl (show [a.eval (.tmp 8),a.eval (.const (.int .i64 0)),a.eval (.tmp 10)]=[.int .i64 c.shw,.int .i64 0,.int .i64 c.shown] from (by rw [show a.eval (.tmp 8)=.int .i64 c.shw from ((I 5 8 (by kernel_rfl)).1 H),show a.eval (.tmp 10)=.int .i64 c.shown from ((I 7 10 (by kernel_rfl)).1 H)] <;> rfl)) u) (Wq _ _ _ u)))) (nS 9 (sV rfl (fun a u E D hk=>Qj _ _ _ ((rng c.qty 1 1048576)) ((rng c.shw 0 c.shown)) rfl (dD D 3) (fun U=>((D 8 11 (by kernel_rfl)).1 U)) rfl)) nZ)))))))) ?_
 intro gv w1 hV N
 rw [dq 10 [3,4,5,6,7,8,9,10,11,12]]
 simp only [Fz7]
 rw [gQ hV 9 12 (.bool ((rng c.qty 1 1048576) && (rng c.shw 0 c.shown)))]
 clear hV
 have HB1:=Kj (j.out.kept N)
 have O:=J.trans N
 clear N J
 go_wp2
 go_ret
 exact ⟨_,rfl,rfl,O⟩
theorem right_t (c:Ord) (hR:c.right=true) (w:World):Gives 35 #[c.v] w (.eq (.int .i64 0)):=by
 unfold Gives Ord.v
 have O:Hid True:=trivial
 have j:Hid (Blk (w.alloc (.cells c.cells.toArray 35)) w.heap.size 35 c.cells):=Blk.new w _ _
 have N:Kept w (w.alloc (.cells c.cells.toArray 35)):=(Keep.refl _ w).alloc _
 go_enter Tryz.func35,Tryz.ntmps35
 go_upto_region 1 with fail
 generalize w.alloc (.cells c.cells.toArray 35)=w0 at j N ⊢
 generalize w.heap.size=g at j ⊢
 refine tA 14 [.v (c.v),bK c.owned,bK c.owned,.k (.cond c.owned (.eq (c.v))),.k (.cond c.owned (bE c.ofApi)),bK (c.owned && c.ofApi),bK (c.owned && c.ofApi),.k (.cond (c.owned && c.ofApi) (.eq (c.v))),.k (.cond (c.owned && c.ofApi) (bE c.prices)),bK ((c.owned && c.ofApi) && c.prices),bK ((c.owned && c.ofApi) && c.prices),.k (.cond ((c.owned && c.ofApi) && c.prices) (.eq (c.v))),.k (.cond ((c.owned && c.ofApi) && c.prices) (bE c.amounts)),bK true] [3,4,5,6,7,8,9,10,11,12,13,14,15,16] (nS 0 (sV rfl (fun a u E D hk=>jz 35 _ (g) _ c.cells _ rfl (eE E) (j.out.kept hk) Tryz.underlying35 (by rw [Ord.cells_len _ O.out];exact JU))) (nS 1 (cV Tryz.func63 (fun u hk=>isOwned_any c u)) (nS 3 (fS (iC 4 2 rfl (fun a u E D hk J=>jz 35 _ (g) _ c.cells _ rfl (eE E) (j.out.kept hk) Tryz.underlying35 (by rw [Ord.cells_len _ O.out];exact JU)) fz)) (nS 4 ((fun a u hE H hk=>f_if _ rfl rfl rfl (dD H 2) (fun J=>Zj 64 #[c.v] rfl (VY rfl rfl (dD H 2) (VU J)) (Jy 64 _ [.tmp 6] _ [c.v] Tryz.func64 (by kernel_rfl) (by kernel_rfl) rfl (show [a.eval (.tmp 6)]=[c.v] from (by rw [show a.eval (.tmp 6)=c.v from ((H 3 6 (by kernel_rfl)).1 J)] <;> rfl)) u) (isOfApi_any c u)))) (nS 5 (sV rfl (fun a u E D hk=>Qj _ _ _ (c.owned) (c.ofApi) rfl (dD D 2) (fun I=>((D 4 7 (by kernel_rfl)).1 I)) rfl)) (nS 7 (fS (iC 8 6 rfl (fun a u E D hk J=>jz 35 _ (g) _ c.cells _ rfl (eE E) (j.out.kept hk) Tryz.underlying35 (by rw [Ord.cells_len _ O.out];exact JU)) fz)) (nS 8 ((fun a u hE H hk=>f_if _ rfl rfl rfl (dD H 6) (fun J=>Zj 65 #[c.v] rfl (VY rfl rfl (dD H 6) (VU J)) (Jy 65 _ [.tmp 10] _ [c.v] Tryz.func65 (by kernel_rfl) (by kernel_rfl) rfl (show [a.eval (.tmp 10)]=[c.v] from (by rw [show a.eval (.tmp 10)=c.v from ((H 7 10 (by kernel_rfl)).1 J)] <;> rfl)) u) (hasPrices_any c u)))) (nS 9 (sV rfl (fun a u E D hk=>Qj _ _ _ ((c.owned && c.ofApi)) (c.prices) rfl (dD D 6) (fun I=>((D 8 11 (by kernel_rfl)).1 I)) rfl)) (nS 11 (fS (iC 12 10 rfl (fun a u E D hk J=>jz 35 _ (g) _ c.cells _ rfl (eE E) (j.out.kept hk) Tryz.underlying35 (by rw [Ord.cells_len _ O.out];exact JU)) fz)) (nS 12 ((fun a u hE H hk=>f_if _ rfl rfl rfl (dD H 10) (fun J=>Zj 66 #[c.v] rfl (VY rfl rfl (dD H 10) (VU J)) (Jy 66 _ [.tmp 14] _ [c.v] Tryz.func66 (by kernel_rfl) (by kernel_rfl) rfl (show [a.eval (.tmp 14)]=[c.v] from (by rw [show a.eval (.tmp 14)=c.v from ((H 11 14 (by kernel_rfl)).1 J)] <;> rfl)) u) (JQz c u)))) (nS 13 (aV rfl (fun a u E D hk=>Qj _ _ _ (((c.owned && c.ofApi) && c.prices)) (c.amounts) rfl (dD D 10) (fun I=>((D 12 15 (by kernel_rfl)).1 I)) rfl) hR) nZ))))))))))) ?_
 intro gv w1 hV U
 simp only [Fz7]
 rw [gQ hV 13 16 (.bool true)]
 clear hV
 have HB1:=Kj (j.out.kept U)
 have a1:=N.trans U
 clear U N
 go_wp2
 go_ret
 exact ⟨_,rfl,rfl,a1⟩
theorem right_f (c:Ord) (hR:c.right=false) (w:World):Gives 35 #[c.v] w (.eq (.int .i64 1)):=by
 unfold Gives Ord.v
 have O:Hid True:=trivial
 have j:Hid (Blk (w.alloc (.cells c.cells.toArray 35)) w.heap.size 35 c.cells):=Blk.new w _ _
 have N:Kept w (w.alloc (.cells c.cells.toArray 35)):=(Keep.refl _ w).alloc _
 go_enter Tryz.func35,Tryz.ntmps35
 go_upto_region 1 with fail
 generalize w.alloc (.cells c.cells.toArray 35)=w0 at j N ⊢
 generalize w.heap.size=g at j ⊢
 refine tA 14 [.v (c.v),bK c.owned,bK c.owned,.k (.cond c.owned (.eq (c.v))),.k (.cond c.owned (bE c.ofApi)),bK (c.owned && c.ofApi),bK (c.owned && c.ofApi),.k (.cond (c.owned && c.ofApi) (.eq (c.v))),.k (.cond (c.owned && c.ofApi) (bE c.prices)),bK ((c.owned && c.ofApi) && c.prices),bK ((c.owned && c.ofApi) && c.prices),.k (.cond ((c.owned && c.ofApi) && c.prices) (.eq (c.v))),.k (.cond ((c.owned && c.ofApi) && c.prices) (bE c.amounts)),bK false] [3,4,5,6,7,8,9,10,11,12,13,14,15,16] (nS 0 (sV rfl (fun a u E D hk=>jz 35 _ (g) _ c.cells _ rfl (eE E) (j.out.kept hk) Tryz.underlying35 (by rw [Ord.cells_len _ O.out];exact JU))) (nS 1 (cV Tryz.func63 (fun u hk=>isOwned_any c u)) (nS 3 (fS (iC 4 2 rfl (fun a u E D hk J=>jz 35 _ (g) _ c.cells _ rfl (eE E) (j.out.kept hk) Tryz.underlying35 (by rw [Ord.cells_len _ O.out];exact JU)) fz)) (nS 4 ((fun a u hE H hk=>f_if _ rfl rfl rfl (dD H 2) (fun J=>Zj 64 #[c.v] rfl (VY rfl rfl (dD H 2) (VU J)) (Jy 64 _ [.tmp 6] _ [c.v] Tryz.func64 (by kernel_rfl) (by kernel_rfl) rfl (show [a.eval (.tmp 6)]=[c.v] from (by rw [show a.eval (.tmp 6)=c.v from ((H 3 6 (by kernel_rfl)).1 J)] <;> rfl)) u) (isOfApi_any c u)))) (nS 5 (sV rfl (fun a u E D hk=>Qj _ _ _ (c.owned) (c.ofApi) rfl (dD D 2) (fun I=>((D 4 7 (by kernel_rfl)).1 I)) rfl)) (nS 7 (fS (iC 8 6 rfl (fun a u E D hk J=>jz 35 _ (g) _ c.cells _ rfl (eE E) (j.out.kept hk) Tryz.underlying35 (by rw [Ord.cells_len _ O.out];exact JU)) fz)) (nS 8 ((fun a u hE H hk=>f_if _ rfl rfl rfl (dD H 6) (fun J=>Zj 65 #[c.v] rfl (VY rfl rfl (dD H 6) (VU J)) (Jy 65 _ [.tmp 10] _ [c.v] Tryz.func65 (by kernel_rfl) (by kernel_rfl) rfl (show [a.eval (.tmp 10)]=[c.v] from (by rw [show a.eval (.tmp 10)=c.v from ((H 7 10 (by kernel_rfl)).1 J)] <;> rfl)) u) (hasPrices_any c u)))) (nS 9 (sV rfl (fun a u E D hk=>Qj _ _ _ ((c.owned && c.ofApi)) (c.prices) rfl (dD D 6) (fun I=>((D 8 11 (by kernel_rfl)).1 I)) rfl)) (nS 11 (fS (iC 12 10 rfl (fun a u E D hk J=>jz 35 _ (g) _ c.cells _ rfl (eE E) (j.out.kept hk) Tryz.underlying35 (by rw [Ord.cells_len _ O.out];exact JU)) fz)) (nS 12 ((fun a u hE H hk=>f_if _ rfl rfl rfl (dD H 10) (fun J=>Zj 66 #[c.v] rfl (VY rfl rfl (dD H 10) (VU J)) (Jy 66 _ [.tmp 14] _ [c.v] Tryz.func66 (by kernel_rfl) (by kernel_rfl) rfl (show [a.eval (.tmp 14)]=[c.v] from (by rw [show a.eval (.tmp 14)=c.v from ((H 11 14 (by kernel_rfl)).1 J)] <;> rfl)) u) (JQz c u)))) (nS 13 (aV rfl (fun a u E D hk=>Qj _ _ _ (((c.owned && c.ofApi) && c.prices)) (c.amounts) rfl (dD D 10) (fun I=>((D 12 15 (by kernel_rfl)).1 I)) rfl) hR) nZ))))))))))) ?_
 intro gv w1 hV U
 simp only [Fz7]
 rw [gQ hV 13 16 (.bool false)]
 clear hV
 have HB1:=Kj (j.out.kept U)
 have a1:=N.trans U
 clear U N
 go_wp2
 go_ret
 exact ⟨_,rfl,rfl,a1⟩
theorem qJ (c:Ord) (w:World):Gives 35 #[c.v] w (.eq (.int .i64 c.err)):=by
 unfold Ord.err
 cases h:c.right with
 | true=>exact right_t c h w
 | false=>exact right_f c h w
theorem crosses_m (c:Ord) (x:Int) (N:decide (c.k=2)=true) (w:World):Gives 117 #[c.v,.int .i64 x] w (.eq (.bool true)):=by
 unfold Gives Ord.v
 have HT:Hid True:=trivial
 have j:Hid (Blk (w.alloc (.cells c.cells.toArray 35)) w.heap.size 35 c.cells):=Blk.new w _ _
 have H:Kept w (w.alloc (.cells c.cells.toArray 35)):=(Keep.refl _ w).alloc _
 go_enter Tryz.func117,Tryz.ntmps117
 go_upto_region 1 with fail
 generalize w.alloc (.cells c.cells.toArray 35)=w0 at j H ⊢
 generalize w.heap.size=g at j ⊢
 refine wA 3 [pV g 4,iV c.k,bV true] [5,6,7] (nS 1 (ldF (fun u hk=>(j.out.kept hk).fld 4 _ rfl)) (nS 2 (aV rfl (fun a u E D hk=>JY rfl (dD D 1) rfl) N) nZ)) ?_
 intro w1 I
 simp only [F8]
 have HB1:=Kj (j.out.kept I)
 have J:=H.trans I
 clear I H
 go_wp2
 go_ret
 exact ⟨_,rfl,rfl,J⟩
theorem crosses_o (c:Ord) (x:Int) (hK:decide (c.k=2)=false) (w:World):Gives 117 #[c.v,.int .i64 x] w (.eq (.bool (!bet c.side x c.price))):=by
 unfold Gives Ord.v
 have HT:Hid True:=trivial
 have j:Hid (Blk (w.alloc (.cells c.cells.toArray 35)) w.heap.size 35 c.cells):=Blk.new w _ _
 have H:Kept w (w.alloc (.cells c.cells.toArray 35)):=(Keep.refl _ w).alloc _
 go_enter Tryz.func117,Tryz.ntmps117
 go_upto_region 1 with fail
 generalize w.alloc (.cells c.cells.toArray 35)=w0 at j H ⊢
 generalize w.heap.size=g at j ⊢
 refine wA 3 [pV g 4,iV c.k,bV false] [5,6,7] (nS 1 (ldF (fun u hk=>(j.out.kept hk).fld 4 _ rfl)) (nS 2 (aV rfl (fun a u E D hk=>JY rfl (dD D 1) rfl) hK) nZ)) ?_
 intro w1 N
 simp only [F8]
 have I:=Kj (j.out.kept N)
 have J:=H.trans N
 clear N H
 go_upto_region 3 with fail
 refine wAp 6 [pV g 3,iV c.side,pV g 5,iV c.price,iV x,bV (!bet c.side x c.price)] [8,9,10,11,12,13] (nS 1 (ldF (fun u hk=>(I.out.kept hk).fld 3 _ rfl)) (nS 3 (ldF (fun u hk=>(I.out.kept hk).fld 5 _ rfl)) (nS 5 (cV Tryz.func78 (fun u hk=>reaches_any _ _ _ u)) nZ))) ?_
 intro w2 O
 simp only [F8]
 have HB2:=Kj (I.out.kept O)
 have U:=J.trans O
 clear O J
 go_wp2
 go_ret
 exact ⟨_,rfl,rfl,U⟩
theorem crosses_any (c:Ord) (x:Int) (w:World):Gives 117 #[c.v,.int .i64 x] w (.eq (.bool (c.crosses x))):=by
 unfold Ord.crosses
 cases j:decide (c.k=2) with
 | true=>exact crosses_m c x j w
 | false=>exact crosses_o c x j w
theorem hit_any (c:Ord) (x:Int) (w:World):Gives 50 #[c.v,.int .i64 x] w (.eq (.bool (c.hit x))):=by
 unfold Gives Ord.v
 have HT:Hid True:=trivial
 have H:Hid (Blk (w.alloc (.cells c.cells.toArray 35)) w.heap.size 35 c.cells):=Blk.new w _ _
 have I:Kept w (w.alloc (.cells c.cells.toArray 35)):=(Keep.refl _ w).alloc _
 go_enter Tryz.func50,Tryz.ntmps50
 go_upto_region 1 with fail
 generalize w.alloc (.cells c.cells.toArray 35)=w0 at H I ⊢
 generalize w.heap.size=g at H ⊢
 refine tAp 15 [pK g 8,iK c.stop,bK (decide ((0:Int)<(c.stop:Int))),bK (decide ((0:Int)<(c.stop:Int))),.k (.cond (decide ((0:Int)<(c.stop:Int))) (iE x)),.k (.cond (decide ((0:Int)<(c.stop:Int))) (bE (decide ((0:Int)<(x:Int))))),bK ((decide ((0:Int)<(c.stop:Int))) && (decide ((0:Int)<(x:Int)))),bK ((decide ((0:Int)<(c.stop:Int))) && (decide ((0:Int)<(x:Int)))),.k (.cond ((decide ((0:Int)<(c.stop:Int))) && (decide ((0:Int)<(x:Int)))) (pE g 3)),.k (.cond ((decide ((0:Int)<(c.stop:Int))) && (decide ((0:Int)<(x:Int)))) (iE c.side)),.k (.cond ((decide ((0:Int)<(c.stop:Int))) && (decide ((0:Int)<(x:Int)))) (iE x)),.k (.cond ((decide ((0:Int)<(c.stop:Int))) && (decide ((0:Int)<(x:Int)))) (pE g 8)),.k (.cond ((decide ((0:Int)<(c.stop:Int))) && (decide ((0:Int)<(x:Int)))) (iE c.stop)),.k (.cond ((decide ((0:Int)<(c.stop:Int))) && (decide ((0:Int)<(x:Int)))) (bE (!bet c.side c.stop x))),bK (((decide ((0:Int)<(c.stop:Int))) && (decide ((0:Int)<(x:Int)))) && (!bet c.side c.stop x))] (nS 1 (ldF (fun u hk=>(H.out.kept hk).fld 8 _ rfl)) (nS 2 (sV rfl (fun a u E D hk=>QZ rfl (dD D 1) rfl)) (nS 4 (fS (iC 5 3 rfl (fun a u E D hk j=>Jq _ (.int .i64 x) rfl (eE E)) fz)) (nS 5 (fS (iC 6 3 rfl (fun a u E D hk j=>QZ rfl ((D 4 9 (by kernel_rfl)).1 j) rfl) fz)) (nS 6 (sV rfl (fun a u E D hk=>Qj _ _ _ ((decide ((0:Int)<(c.stop:Int)))) ((decide ((0:Int)<(x:Int)))) rfl (dD D 3) (fun J=>((D 5 10 (by kernel_rfl)).1 J)) rfl)) (nS 8 (fS (iC 9 7 rfl (fun a u E D hk j=>Vy 35 3 3 _ (g) rfl (eE E) (by kernel_rfl)) fz)) (nS 9 (fS (iC 10 7 rfl (fun a u E D hk j=>JZ _ Tryz.underlying3 _ _ _ rfl ((D 8 13 (by kernel_rfl)).1 j) ((H.out.kept hk).fld 3 _ rfl)) fz)) (nS 10 (fS (iC 11 7 rfl (fun a u E D hk j=>Jq _ (.int .i64 x) rfl (eE E)) fz)) (nS 11 (fS (iC 12 7 rfl (fun a u E D hk j=>Vy 35 8 8 _ (g) rfl (eE E) (by kernel_rfl)) fz)) (nS 12 (fS (iC 13 7 rfl (fun a u E D hk j=>JZ _ Tryz.underlying3 _ _ _ rfl ((D 11 16 (by kernel_rfl)).1 j) ((H.out.kept hk).fld 8 _ rfl)) fz)) (nS 13 ((fun a u hE N hk=>f_if _ rfl rfl rfl (dD N 7) (fun j=>Zj 78 #[.int .i64 c.side,.int .i64 x,.int .i64 c.stop] rfl (VY rfl rfl (dD N 7) (VU j)) (Jy 78 _ [.tmp 14,.tmp 15,.tmp 17] _ [.int .i64 c.side,.int .i64 x,.int .i64 c.stop] Tryz.func78 (by kernel_rfl) (by kernel_rfl) rfl (show [a.eval (.tmp 14),a.eval (.tmp 15),a.eval (.tmp 17)]=[.int .i64 c.side,.int .i64 x,.int .i64 c.stop] from (by rw [show a.eval (.tmp 14)=.int .i64 c.side from ((N 9 14 (by kernel_rfl)).1 j),show a.eval (.tmp 15)=.int .i64 x from ((N 10 15 (by kernel_rfl)).1 j),show a.eval (.tmp 17)=.int .i64 c.stop from ((N 12 17 (by kernel_rfl)).1 j)] <;> rfl)) u) (reaches_any _ _ _ u)))) (nS 14 (sV rfl (fun a u E D hk=>Qj _ _ _ (((decide ((0:Int)<(c.stop:Int))) && (decide ((0:Int)<(x:Int))))) ((!bet c.side c.stop x)) rfl (dD D 7) (fun J=>((D 13 18 (by kernel_rfl)).1 J)) rfl)) nZ)))))))))))) ?_
 intro gv w1 hV O
 rw [dq 15 [5,6,7,8,9,10,11,12,13,14,15,16,17,18,19]]
 simp only [Fz7]
 rw [gQ hV 14 19 (.bool (((decide ((0:Int)<(c.stop:Int))) && (decide ((0:Int)<(x:Int)))) && (!bet c.side c.stop x)))]
 clear hV
 have HB1:=Kj (H.out.kept O)
 have U:=I.trans O
 clear O I
 go_wp2
 go_ret
 exact ⟨_,rfl,rfl,U⟩
theorem refCrosses_m (c:Ord) (x:Int) (N:decide (c.k=2)=true) (w:World):Gives 57 #[c.v,.int .i64 x] w (.eq (.bool true)):=by
 unfold Gives Ord.v
 have HT:Hid True:=trivial
 have j:Hid (Blk (w.alloc (.cells c.cells.toArray 35)) w.heap.size 35 c.cells):=Blk.new w _ _
 have H:Kept w (w.alloc (.cells c.cells.toArray 35)):=(Keep.refl _ w).alloc _
 go_enter Tryz.func57,Tryz.ntmps57
 go_upto_region 1 with fail
 generalize w.alloc (.cells c.cells.toArray 35)=w0 at j H ⊢
 generalize w.heap.size=g at j ⊢
 refine wA 4 [pV g 4,iV c.k,bV true,bV true] [6,7,8,5] (nS 1 (ldF (fun u hk=>(j.out.kept hk).fld 4 _ rfl)) (nS 2 (aV rfl (fun a u E D hk=>JY rfl (dD D 1) rfl) N) nZ)) ?_
 intro w1 I
 simp only [F8]
 have HB1:=Kj (j.out.kept I)
 have J:=H.trans I
 clear I H
 go_wp2
 go_ret
 exact ⟨_,rfl,rfl,J⟩
theorem refCrosses_b (c:Ord) (x:Int) (hK:decide (c.k=2)=false) (hS:decide (c.side=1)=true) (w:World):Gives 57 #[c.v,.int .i64 x] w (.eq (.bool (decide (x≤c.price)))):=by
 unfold Gives Ord.v
 have HT:Hid True:=trivial
 have j:Hid (Blk (w.alloc (.cells c.cells.toArray 35)) w.heap.size 35 c.cells):=Blk.new w _ _
 have H:Kept w (w.alloc (.cells c.cells.toArray 35)):=(Keep.refl _ w).alloc _
 go_enter Tryz.func57,Tryz.ntmps57
 go_upto_region 1 with fail
 generalize w.alloc (.cells c.cells.toArray 35)=w0 at j H ⊢
 generalize w.heap.size=g at j ⊢
 refine wA 4 [pV g 4,iV c.k,bV false,bV false] [6,7,8,5] (nS 1 (ldF (fun u hk=>(j.out.kept hk).fld 4 _ rfl)) (nS 2 (aV rfl (fun a u E D hk=>JY rfl (dD D 1) rfl) hK) nZ)) ?_
 intro w1 k1
 simp only [F8]
 have N:=Kj (j.out.kept k1)
 have J:=H.trans k1
 clear k1 H
 go_upto_region 3 with fail
 refine wA 4 [pV g 3,iV c.side,bV true,bV true] [10,11,12,9] (nS 1 (ldF (fun u hk=>(N.out.kept hk).fld 3 _ rfl)) (nS 2 (aV rfl (fun a u E D hk=>JY rfl (dD D 1) rfl) hS) nZ)) ?_
 intro w2 k2
 simp only [F8]
 have I:=Kj (N.out.kept k2)
 have O:=J.trans k2
 clear k2 J
 go_upto_region 4 with fail
 refine wAp 4 [pV g 5,iV c.price,iV x,bV (decide ((x:Int)≤(c.price:Int)))] [13,14,15,16] (nS 1 (ldF (fun u hk=>(I.out.kept hk).fld 5 _ rfl)) (nS 3 (sV rfl (fun a u E D hk=>WJ rfl (dD D 1) (dD D 2))) nZ)) ?_
 intro w3 k3
 simp only [F8]
 have HB3:=Kj (I.out.kept k3)
 have U:=O.trans k3
 clear k3 O
 go_wp2
 go_ret
 exact ⟨_,rfl,rfl,U⟩
theorem refCrosses_s (c:Ord) (x:Int) (hK:decide (c.k=2)=false) (hS:decide (c.side=1)=false) (w:World):Gives 57 #[c.v,.int .i64 x] w (.eq (.bool (decide (c.price≤x)))):=by
 unfold Gives Ord.v
 have HT:Hid True:=trivial
 have j:Hid (Blk (w.alloc (.cells c.cells.toArray 35)) w.heap.size 35 c.cells):=Blk.new w _ _
 have H:Kept w (w.alloc (.cells c.cells.toArray 35)):=(Keep.refl _ w).alloc _
 go_enter Tryz.func57,Tryz.ntmps57
 go_upto_region 1 with fail
 generalize w.alloc (.cells c.cells.toArray 35)=w0 at j H ⊢
 generalize w.heap.size=g at j ⊢
 refine wA 4 [pV g 4,iV c.k,bV false,bV false] [6,7,8,5] (nS 1 (ldF (fun u hk=>(j.out.kept hk).fld 4 _ rfl)) (nS 2 (aV rfl (fun a u E D hk=>JY rfl (dD D 1) rfl) hK) nZ)) ?_
 intro w1 k1
 simp only [F8]
 have N:=Kj (j.out.kept k1)
 have J:=H.trans k1
 clear k1 H
 go_upto_region 3 with fail
 refine wA 4 [pV g 3,iV c.side,bV false,bV false] [10,11,12,9] (nS 1 (ldF (fun u hk=>(N.out.kept hk).fld 3 _ rfl)) (nS 2 (aV rfl (fun a u E D hk=>JY rfl (dD D 1) rfl) hS) nZ)) ?_
 intro w2 k2
 simp only [F8]
 have I:=Kj (N.out.kept k2)
 have O:=J.trans k2
 clear k2 J
 go_upto_region 5 with fail
 refine wAp 4 [pV g 5,iV c.price,iV x,bV (decide ((c.price:Int)≤(x:Int)))] [17,18,19,20] (nS 1 (ldF (fun u hk=>(I.out.kept hk).fld 5 _ rfl)) (nS 3 (sV rfl (fun a u E D hk=>exec_len_ rfl (dD D 1) (dD D 2))) nZ)) ?_
 intro w3 k3
 simp only [F8]
 have HB3:=Kj (I.out.kept k3)
 have U:=O.trans k3
 clear k3 O
 go_wp2
 go_ret
 exact ⟨_,rfl,rfl,U⟩
theorem not_bet_buy (s x y:Int) (h:decide (s=1)=true):(!bet s x y)=decide (x≤y):=by
 unfold bet
 rw [if_pos (by simpa using h)]
 by_cases hx:x≤y
 ·rw [Ky hx,Ku (by omega)];rfl
 rw [Ku hx,Ky (by omega)];rfl
theorem not_bet_sell (s x y:Int) (h:decide (s=1)=false):(!bet s x y)=decide (y≤x):=by
 unfold bet
 rw [if_neg (by simpa using h)]
 by_cases hx:y≤x
 ·rw [Ky hx,Ku (by omega)];rfl
 rw [Ku hx,Ky (by omega)];rfl
theorem JQU (c:Ord) (x:Int) (w:World):Gives 57 #[c.v,.int .i64 x] w (.eq (.bool (c.crosses x))):=by
 unfold Ord.crosses
 cases D:decide (c.k=2) with
 | true=>exact refCrosses_m c x D w
 | false=>
  rw [Bool.false_or]
  cases j:decide (c.side=1) with
  | true=>rw [not_bet_buy _ _ _ j];exact refCrosses_b c x D j w
  | false=>rw [not_bet_sell _ _ _ j];exact refCrosses_s c x D j w
def bkCells (v1 v2:Value) (last no:Int):List Value:=[.int .i64 1,v1,.int .i64 2,v2,.int .i64 last,.int .i64 no]
def Bk (w:World) (F:Nat→Prop) (p:Nat) (B:Bok):Prop:=F p∧(∀ b,F b→b<w.heap.size)∧∃ v1 v2 F1 F2,Blk w p 92 (bkCells v1 v2 B.last B.no)∧Way 123 120 117 w F1 v1 B.buys∧Way 123 120 117 w F2 v2 B.sells∧(∀ b,F1 b→F b∧b≠p∧¬ F2 b)∧(∀ b,F2 b→F b∧b≠p)
theorem Bk.keep {S F:Nat→Prop} {w w':World} {p:Nat} {B:Bok} (h:Bk w F p B) (hk:Keep S w w') (H:∀ b,F b→¬ S b):Bk w' F p B:=by
 obtain ⟨J,h2,v1,v2,F1,U,hB,D,I,N,O⟩:=h
 exact ⟨J,fun b j=>Nat.lt_of_lt_of_le (h2 b j) hk.size,v1,v2,F1,U,hB.keep hk (H p J),D.keep hk (fun b j=>H b (N b j).1),I.keep hk (fun b j=>H b (O b j).1),N,O⟩
theorem Bk.kept {F:Nat→Prop} {w w':World} {p:Nat} {B:Bok} (h:Bk w F p B) (hk:Kept w w'):Bk w' F p B:=h.keep hk (fun _ _ h=>h)
theorem Bk.lt {F:Nat→Prop} {w:World} {p:Nat} {B:Bok} (h:Bk w F p B):∀ b,F b→b<w.heap.size:=h.2.1
def Qz (s:Int):Nat:=if s=1 then 0 else 2
theorem Bk.lad {F:Nat→Prop} {w:World} {p:Nat} {B:Bok} (h:Bk w F p B) {s:Int} (J:s=1∨s=2):∃ F',Lad w F' p (Qz s) s (B.sd s):=by
 obtain ⟨h1,h2,v1,v2,F1,I,j,D,H,h3,h4⟩:=h
 rcases J with rfl | rfl
 ·exact ⟨F1,v1,j.cell 0,j.cell 1,D⟩
 exact ⟨I,v2,j.cell 2,j.cell 3,H⟩
def Kn.lad (s:Int) (L:List Lev):Kn:=⟨fun v w=>∃ F g off s',v=.pointer (some ⟨g,off,none⟩)∧Lad w F g off s' L∧(s'=s∨L=[]),fun _ _ _ ⟨F,g,off,s',h1,h2,h3⟩ hk=>⟨F,g,off,s',h1,h2.kept hk,h3⟩⟩
theorem zU {f:Nat} {args:Array Value} {u:World} {T:TypeId} {k n base:Nat} {cs:List Value} (h:Gives f args u (.sl u.heap.size T k n cs)) (H:base≤u.heap.size):Gives f args u (.sl base T k n cs):=
 h.mono fun e w' ⟨v,I,D,J⟩=>⟨v,I,⟨D.1,fun b j=>Kv H (D.2 b j)⟩,J⟩
theorem LvsOk.nil:LvsOk []:=⟨by simp,by simp [YZ],by simp,by simp [yJ,YZ,XX,Wx]⟩
theorem Inv.ok {B:Bok} (h:Inv B) (s:Int):LvsOk (B.sd s):=by
 unfold Bok.sd
 split
 ·exact h.two.mine.ok
 split
 ·exact h.two.theirs.ok
 exact LvsOk.nil
def lad0:List Value:=[.int .i64 0,.slice none 0 0]
def lad1 (s:Int):List Value:=[.int .i64 s,.slice none 0 0]
theorem built_lad0:Tryz.prog.built 90 []=some lad0.toArray:=by kernel_rfl
theorem built_lad1 (s:Int):Tryz.prog.built 90 [(0,.int .i64 s)]=some (lad1 s).toArray:=by kernel_rfl
theorem built_bk:Tryz.prog.built 92 [(0,.agg (lad1 1).toArray),(1,.agg (lad1 2).toArray)]=some (bkCells (.slice none 0 0) (.slice none 0 0) 0 0).toArray:=by kernel_rfl
theorem bnew_any (w:World):Calls Tryz.prog 20 #[] w fun e w'=>∃ p F,e=.returned (.pointer (some ⟨p,0,none⟩))∧Bk w' F p Bok.zero∧Grow w (fun _=>False) F∧Kept w w':=by
 go_enter Tryz.func20,Tryz.ntmps20
 go_upto_region 1 with fail
 refine tAp 4 [.v (.agg (lad1 1).toArray),.v (.agg (lad1 2).toArray),.v (.agg (bkCells (.slice none 0 0) (.slice none 0 0) 0 0).toArray),.k (.fresh w.heap.size 92 (bkCells (.slice none 0 0) (.slice none 0 0) 0 0))] (nS 0 (sV rfl (fun a u E D hk=>XZ 90 [(0,.const (.int .i64 1))] (lad1 1) rfl (built_lad1 1))) (nS 1 (sV rfl (fun a u E D hk=>XZ 90 [(0,.const (.int .i64 2))] (lad1 2) rfl (built_lad1 2))) (nS 2 (sV rfl (fun a u E D hk=>XZ 92 [(0,.tmp 1),(1,.tmp 2)] (bkCells (.slice none 0 0) (.slice none 0 0) 0 0) rfl (by simp only [List.map_cons,List.map_nil];rw [show a.eval (.tmp 1)=.agg (lad1 1).toArray from (dD D 0),show a.eval (.tmp 2)=.agg (lad1 2).toArray from (dD D 1)];exact built_bk))) (nS 3 (nV rfl (fun a u E D hk=>⟨_,_,XV 92 _ (bkCells (.slice none 0 0) (.slice none 0 0) 0 0) rfl (dD D 2),⟨_,rfl,hk.size,Blk.new u _ _⟩,((Keep.refl _ u).alloc _)⟩)) nZ)))) ?_
 intro gv O I N
 rw [dq 4 [1,2,3,4]]
 simp only [Fz7]
 have H:(.fresh w.heap.size 92 (bkCells (.slice none 0 0) (.slice none 0 0) 0 0):Kn).p (gv 4) O:=I 3 4 (by kernel_rfl)
 generalize gv 4=v4 at H ⊢
 clear I
 obtain ⟨g,rfl,hg,J⟩:=H
 refine aT (.pointer (some ⟨g,0,none⟩)) ?_
 simp only [Act.put,List.setIfInBounds_toArray,List.set_cons_zero]
 refine Kx ?_
 go_wp2
 go_ret
 exact ⟨g,(·=g),rfl,⟨rfl,fun b j=>by subst j;exact J.lt,_,_,_,_,J,Way.nil _,Way.nil _,fun b j=>j.elim,fun b j=>j.elim⟩,fun b j=>.inr (by omega),N⟩
theorem blast_any (w:World) (F:Nat→Prop) (p:Nat) (B:Bok) (h:Bk w F p B):Gives 51 #[.pointer (some ⟨p,0,none⟩)] w (.eq (.int .i64 B.last)):=by
 refine QW ?_
 obtain ⟨I,D,v1,v2,F1,F2,j,_⟩:=h
 have J:=Kj j
 clear j I D
 go_enter Tryz.func51,Tryz.ntmps51
 go_upto_region 1 with fail
 refine wA 5 [pV p 0,pV p 0,pV p 4,iV B.last,iV B.last] [3,4,5,6,2] (nS 3 (ldF (fun u hk=>Kept.cell hk (J.out.cell 4))) nZ) ?_
 intro w1 H
 simp only [F8]
 go_wp2
 go_ret
 exact ⟨rfl,H⟩
theorem of_any (w:World) (F:Nat→Prop) (p:Nat) (B:Bok) (s:Int) (h:Bk w F p B):Gives 72 #[.pointer (some ⟨p,0,none⟩),.int .i64 s] w (.lad s (B.sd s)):=by
 have HB:=Kj h
 clear h
 by_cases hs1:s=1
 ·have O:Hid (∀ u,Kept w u→(Kn.lad s (B.sd s)).p (.pointer (some ⟨p,0,none⟩)) u):=fun u k=>by
   obtain ⟨F',hL⟩:=(HB.out.kept k).lad (.inl hs1)
   rw [hs1] at hL ⊢
   exact ⟨F',p,0,1,rfl,hL,.inl rfl⟩
  go_enter Tryz.func72,Tryz.ntmps72
  go_upto_region 1 with fail
  refine wA 1 [iV s] [5] nZ ?_
  intro w1 j
  simp only [F8]
  go_upto_region 2 with fail
  refine wA 2 [bV true,bV true] [7,6] (nS 0 (aV rfl (fun a u E D hk=>JY (p:=s) (q:=1) rfl (eE E) rfl) (Ky hs1)) nZ) ?_
  intro w2 J
  simp only [F8]
  go_upto_region 3 with fail
  refine wA 4 [pV p 0,pV p 0,pV p 0,pV p 0] [8,9,10,4] nZ ?_
  intro w3 I
  simp only [F8]
  have N:=(j.trans J).trans I
  clear j J I hs1
  go_wp2
  go_ret
  exact ⟨_,rfl,O.out _ N,N⟩
 by_cases hs2:s=2
 ·have O:Hid (∀ u,Kept w u→(Kn.lad s (B.sd s)).p (.pointer (some ⟨p,2,none⟩)) u):=fun u k=>by
   obtain ⟨F',hL⟩:=(HB.out.kept k).lad (.inr hs2)
   rw [hs2] at hL ⊢
   exact ⟨F',p,2,2,rfl,hL,.inl rfl⟩
  go_enter Tryz.func72,Tryz.ntmps72
  go_upto_region 1 with fail
  refine wA 1 [iV s] [5] nZ ?_
  intro w1 j
  simp only [F8]
  go_upto_region 2 with fail
  refine wA 2 [bV false,bV false] [7,6] (nS 0 (aV rfl (fun a u E D hk=>JY (p:=s) (q:=1) rfl (eE E) rfl) (Ku hs1)) nZ) ?_
  intro w2 J
  simp only [F8]
  go_upto_region 4 with fail
  refine wA 2 [bV true,bV true] [12,11] (nS 0 (aV rfl (fun a u E D hk=>JY (p:=s) (q:=2) rfl (eE E) rfl) (Ky hs2)) nZ) ?_
  intro w3 I
  simp only [F8]
  go_upto_region 5 with fail
  refine wA 4 [pV p 0,pV p 0,pV p 2,pV p 2] [13,14,15,4] nZ ?_
  intro w4 U
  simp only [F8]
  have N:=((j.trans J).trans I).trans U
  clear j J I U hs1 hs2
  go_wp2
  go_ret
  exact ⟨_,rfl,O.out _ N,N⟩
 have O:Hid (B.sd s=[]):=by show _=_;unfold Bok.sd;rw [if_neg hs1,if_neg hs2]
 go_enter Tryz.func72,Tryz.ntmps72
 go_upto_region 1 with fail
 refine wA 1 [iV s] [5] nZ ?_
 intro w1 j
 simp only [F8]
 go_upto_region 2 with fail
 refine wA 2 [bV false,bV false] [7,6] (nS 0 (aV rfl (fun a u E D hk=>JY (p:=s) (q:=1) rfl (eE E) rfl) (Ku hs1)) nZ) ?_
 intro w2 J
 simp only [F8]
 go_upto_region 4 with fail
 refine wA 2 [bV false,bV false] [12,11] (nS 0 (aV rfl (fun a u E D hk=>JY (p:=s) (q:=2) rfl (eE E) rfl) (Ku hs2)) nZ) ?_
 intro w3 I
 simp only [F8]
 go_upto_region 6 with fail
 refine tAp 2 [.v (.agg lad0.toArray),.k (.fresh w3.heap.size 90 lad0)] (nS 0 (sV rfl (fun a u E D hk=>XZ 90 [] lad0 rfl built_lad0)) (nS 1 (nV rfl (fun a u E D hk=>⟨_,_,XV 90 _ lad0 rfl (dD D 0),⟨_,rfl,hk.size,Blk.new u _ _⟩,((Keep.refl _ u).alloc _)⟩)) nZ)) ?_
 intro gv w4 hV U
 rw [dq 2 [16,17]]
 simp only [Fz7]
 have H:(.fresh w3.heap.size 90 lad0:Kn).p (gv 17) w4:=hV 1 17 (by kernel_rfl)
 generalize gv 17=v17 at H ⊢
 clear hV
 obtain ⟨g,rfl,hg,hB⟩:=H
 refine aT (.pointer (some ⟨g,0,none⟩)) ?_
 simp only [Act.put,sA,sS,sZ]
 refine Kx ?_
 have N:=((j.trans J).trans I).trans U
 clear j J I U hs1 hs2
 go_wp2
 go_ret
 exact ⟨_,rfl,⟨fun _=>False,g,0,0,rfl,⟨.slice none 0 0,hB.cell 0,hB.cell 1,by rw [O.out];exact Way.nil _⟩,.inr O.out⟩,N⟩
theorem borders_any (w:World) (F:Nat→Prop) (p:Nat) (B:Bok) (s:Int) (h:Bk w F p B) (I:Inv B):Gives 44 #[.pointer (some ⟨p,0,none⟩),.int .i64 s] w (.sl w.heap.size 35 9 (XJ (B.sd s)).length (ords (XJ (B.sd s)))):=by
 have HB:=Kj h
 have U:=Kj I
 clear h I
 go_enter Tryz.func44,Tryz.ntmps44
 go_upto_region 1 with fail
 refine tA 5 [pK p 0,iK s,.k (.lad s (B.sd s)),.k (.sl w.heap.size 35 9 (XJ (B.sd s)).length (ords (XJ (B.sd s)))),.k (.sl w.heap.size 35 9 (XJ (B.sd s)).length (ords (XJ (B.sd s))))] [5,6,7,8,4] (nS 2 (cV Tryz.func72 (fun u hk=>of_any u F p B s (HB.out.kept hk))) (nS 3 ((fun a u N D hk=>Zj 73 #[a.eval (.tmp 7)] rfl (JQ rfl _) (Jy 73 _ [.tmp 7] _ [a.eval (.tmp 7)] Tryz.func73 (by kernel_rfl) (by kernel_rfl) rfl rfl u) ((by obtain ⟨F',g,off,s',e,O,hs⟩:=(D 2 7 (by kernel_rfl));rw [e];exact zU (lorders_any u F' g off s' _ O (U.out.ok s)) hk.size)))) (nS 4 ((fun a u N D hk=>Xq _ rfl (JQ rfl _) (Yj (.tmp 8) _ rfl rfl) (dD D 3))) nZ))) ?_
 intro gv w1 H J
 simp only [Fz7]
 have j:(.sl w.heap.size 35 9 (XJ (B.sd s)).length (ords (XJ (B.sd s))):Kn).p (gv 4) w1:=H 4 4 (by kernel_rfl)
 generalize gv 4=v4 at j ⊢
 clear H
 go_wp2
 go_ret
 exact ⟨_,rfl,j,J⟩
theorem blen_any (w:World) (F:Nat→Prop) (p:Nat) (B:Bok) (h:Bk w F p B) (I:Inv B):Gives 93 #[.pointer (some ⟨p,0,none⟩)] w (.eq (.int .i64 (B.len:Int))):=by
 refine QW ?_
 have U:=Kj h
 have O:=Kj I
 have hb:=I.two.mine.few
 have hs:=I.two.theirs.few
 have j:Hid (((YZ B.buys).length:Int)+((YZ B.sells).length:Int)=(B.len:Int)):=by
  show _=_
  unfold Bok.len Bok.all
  rw [List.length_append]
  omega
 obtain ⟨x,hx⟩:∃ x,(YZ B.buys).length=x:=⟨_,rfl⟩
 obtain ⟨y,N⟩:∃ y,(YZ B.sells).length=y:=⟨_,rfl⟩
 have HX:=Kj hx
 have HY:=Kj N
 rw [hx] at hb j
 rw [N] at hs j
 clear h I hx N
 go_enter Tryz.func93,Tryz.ntmps93
 go_upto_region 1 with fail
 refine wHp 9 [pV p 0,pV p 0,pV p 0,iV (x:Int),pV p 0,pV p 0,pV p 2,iV (y:Int),iV (((x:Int):Int)+((y:Int):Int))] [3,4,5,6,7,8,9,10,11] (nS 3 (cV Tryz.func103 (fun u hk=>(by obtain ⟨F',J⟩:=(U.out.kept hk).lad (.inl rfl:(1:Int)=1∨(1:Int)=2);have H:=count_any u F' p 0 1 _ J (O.out.ok 1);rw [show (YZ (B.sd 1)).length=x from HX.out] at H;exact H))) (nS 7 (cV Tryz.func103 (fun u hk=>(by obtain ⟨F',J⟩:=(U.out.kept hk).lad (.inr rfl:(2:Int)=1∨(2:Int)=2);have H:=count_any u F' p 2 2 _ J (O.out.ok 2);rw [show (YZ (B.sd 2)).length=y from HY.out] at H;exact H))) (nS 8 (sV rfl (fun a u E D hk=>YQ (p:=((x:Int))) (q:=((y:Int))) (((x:Int):Int)+((y:Int):Int)) rfl (dD D 3) (dD D 7) rfl (by omega) (by omega))) nZ))) ?_
 intro w1 k1
 simp only [F8]
 refine aT (.int .i64 (((x:Int):Int)+((y:Int):Int))) ?_
 simp only [Act.put,sA,sS,sZ]
 refine Kx ?_
 go_wp2
 go_ret
 exact ⟨by rw [← j.out];rfl,k1⟩
def WX (s:Int) (v u:Value) (last no:Int):List Value:=if s=1 then bkCells v u last no else bkCells u v last no
theorem JQx (s:Int) (v u:Value) (last no:Int):(WX s v u last no).length=6:=by unfold WX;split <;> rfl
theorem sideCs_side {s:Int} (j:s=1∨s=2) (v u:Value) (last no:Int):(WX s v u last no)[Qz s]?=some (.int .i64 s):=by rcases j with rfl | rfl <;> rfl
theorem xq (s:Int) (v u:Value) (last no:Int):(WX s v u last no)[Qz s+1]?=some v:=by unfold WX Qz;split <;> rfl
theorem sideCs_set (s:Int) (v v' u:Value) (last no:Int):(WX s v u last no).set (Qz s+1) v'=WX s v' u last no:=by unfold WX Qz;split <;> rfl
theorem sideCs_last (s:Int) (v u:Value) (last no x:Int):(WX s v u last no).set 4 (.int .i64 x)=WX s v u x no:=by unfold WX;split <;> rfl
theorem sideCs_no (s:Int) (v u:Value) (last no x:Int):(WX s v u last no).set 5 (.int .i64 x)=WX s v u last x:=by unfold WX;split <;> rfl
theorem offS_le (s:Int):Qz s+1≤3:=by unfold Qz;split <;> omega
def Bok.to (B:Bok) (s:Int) (L:List Lev) (last no:Int):Bok:={ B.put s L with last:=last,no:=no }
theorem Bok.to_self {B:Bok} {s:Int} (j:s=1∨s=2):B.to s (B.sd s) B.last B.no=B:=by rcases j with rfl | rfl <;> rfl
theorem Bok.to_to {B:Bok} {s:Int} (H:s=1∨s=2) (L M:List Lev) (l n j D:Int):(B.to s L l n).to s M j D=B.to s M j D:=by rcases H with rfl | rfl <;> rfl
theorem Bok.to_sd {B:Bok} {s:Int} (j:s=1∨s=2) (L:List Lev) (l n:Int):(B.to s L l n).sd s=L:=by rcases j with rfl | rfl <;> rfl
theorem Bok.to_put {B:Bok} {s:Int} (j:s=1∨s=2) (L:List Lev):B.to s L B.last B.no=B.put s L:=by rcases j with rfl | rfl <;> rfl
def Rejoin (w:World) (F:Nat→Prop) (p:Nat) (B:Bok) (s:Int) (u:Value) (Fs:Nat→Prop):Prop:=
 ∀ (w':World) (v':Value) (L':List Lev) (Fs':Nat→Prop) (last no:Int),Keep (fun b=>Fs b∨b=p) w w'→Blk w' p 92 (WX s v' u last no)→Way 123 120 117 w' Fs' v' L'→Grow w Fs Fs'→∃ F',Bk w' F' p (B.to s L' last no)∧Grow w F F'∧Keep F w w'∧∀ b,F b→F' b
theorem Bk.open_ {w:World} {F:Nat→Prop} {p:Nat} {B:Bok} (h:Bk w F p B) {s:Int} (hs:s=1∨s=2) :
  ∃ v u Z G Fs,levs Z=B.sd s∧WayZ 123 120 117 w Fs v Z G∧Blk w p 92 (WX s v u B.last B.no)∧(∀ b,Fs b→F b∧b≠p)∧F p∧(∀ b,F b→b<w.heap.size)∧Rejoin w F p B s u Fs:=by
 obtain ⟨N,h2,v1,v2,F1,F2,hB,a2,a3,D,J⟩:=h
 have hpl:=h2 p N
 rcases hs with rfl | rfl
 ·obtain ⟨Z,G,e,hz⟩:=a2
  refine ⟨v1,v2,Z,G,F1,e,hz,hB,fun b j=>⟨(D b j).1,(D b j).2.1⟩,N,h2,?_⟩
  intro w' v' L' I last no hk O H hG
  have U:=H.lt
  have a1:Keep F w w':=hk.mono (fun b _ j=>j.elim (fun h=>(D b h).1) (fun h=>by subst h;exact N))
  refine ⟨fun b=>F b∨I b,⟨.inl N,fun b j=>j.elim (fun h=>Nat.lt_of_lt_of_le (h2 b h) hk.size) (U b),v',v2,I,F2,O,H,a3.keep hk (fun b j h=>h.elim (fun h=>(D b h).2.2 j) (fun h=>(J b j).2 h)),fun b j=>?_,fun b j=>⟨.inl (J b j).1,(J b j).2⟩⟩,fun b j=>j.elim .inl (fun h=>(hG b h).imp (fun h=>(D b h).1) id),a1,fun b j=>.inl j⟩
  refine ⟨.inr j,?_,?_⟩
  ·rcases hG b j with h | h
   ·exact (D b h).2.1
   omega
  rcases hG b j with h | h
  ·exact (D b h).2.2
  intro h'
  have:=h2 b (J b h').1
  omega
 obtain ⟨Z,G,e,hz⟩:=a3
 refine ⟨v2,v1,Z,G,F2,e,hz,hB,J,N,h2,?_⟩
 intro w' v' L' I last no hk O H hG
 have U:=H.lt
 have a1:Keep F w w':=hk.mono (fun b _ j=>j.elim (fun h=>(J b h).1) (fun h=>by subst h;exact N))
 refine ⟨fun b=>F b∨I b,⟨.inl N,fun b j=>j.elim (fun h=>Nat.lt_of_lt_of_le (h2 b h) hk.size) (U b),v1,v',F1,I,O,a2.keep hk (fun b j h=>h.elim (fun h=>(D b j).2.2 h) (fun h=>(D b j).2.1 h)),H,fun b j=>⟨.inl (D b j).1,(D b j).2.1,fun h'=>?_⟩,fun b j=>⟨.inr j,?_⟩⟩,fun b j=>j.elim .inl (fun h=>(hG b h).imp (fun h=>(J b h).1) id),a1,fun b j=>.inl j⟩
 ·rcases hG b h' with h | h
  ·exact (D b j).2.2 h
  have:=h2 b (D b j).1
  omega
 rcases hG b j with h | h
 ·exact (J b h).2
 omega
theorem JQQ (X:Zs) (i:Nat):(ptrs X).drop (i*1)=ptrs (X.drop i):=by rw [Nat.mul_one,ptrs,ptrs,List.map_drop]
theorem ptrs_take (X:Zs) (i:Nat):(ptrs X).take (i*1)=ptrs (X.take i):=by rw [Nat.mul_one,ptrs,ptrs,List.map_take]
theorem ptrs_len1 (X:Zs):(ptrs X).length=X.length*1:=by rw [ptrs_len,Nat.mul_one]
def zP1:List Value:=[.pointer none]
theorem zP1_len:zP1.length=1:=rfl
theorem zP1_one:∀ u ∈ zP1,u.oneCell'=true:=by intro u j;simp [zP1] at j;subst j;rfl
theorem zeroVP (w:World):(zeroValue 117).run Tryz.prog w=.ok (.pointer none) w:=by kernel_rfl
theorem exec_clrP {a:Act} {o:Oper} {u:World} {t T:TypeId} {bytes:Nat} (ht:SlT t T 1 bytes) (N:∀ w,(zeroValue T).run Tryz.prog w=.ok (.pointer none) w) (x:Operand) (g off c:Nat) (O:o.op=.call { callee:=.builtin .clear,args:=#[x],argTypes:=#[t] }) (hx:a.eval x=.slice (some ⟨g,off,none⟩) 1 c) (D:u.there g off 1) :
  (execOp a.eval o).run Tryz.prog u=.ok (.value (.tuple #[])) (u.setCells g off zP1):=by
 have J:(Builtin.zeroCells #[Value.pointer none] 1).toList=zP1:=by simp [Builtin.zeroCells,zP1]
 have H:=run_storeCells_cells (P:=Tryz.prog) g off zP1 0 u (fun j I=>by simpa using (D j (by simpa [zP1] using I)).1) (fun j I=>by simpa using (D j (by simpa [zP1] using I)).2) zP1_one
 simp only [Nat.add_zero] at H
 have U:(Builtin.clear_ #[t] o.type #[.slice (some ⟨g,off,none⟩) 1 c]).run Tryz.prog u=.ok (.tuple #[]) (u.setCells g off zP1):=by
  simp [Builtin.clear_,run_underlying ht.und,N,Value.cells,J,H]
 unfold execOp
 simp only [O,resolve,invoke,builtin,Sem.run_bind,Sem.run_pure,Result.andThen_ok,List.map_toArray,List.map_cons,List.map_nil,hx,U]
theorem append_inP (g off n c k:Nat) (X:Zs) (v2:Value) (w:World) (hS:Sl w 117 1 (.slice (some ⟨g,off,none⟩) n c) n (ptrs X)) (hn:X.length=n) (hkn:k<n) (hnc:n≤c) (h2:Sl w 117 1 v2 (n-(k+1)) (ptrs (X.drop (k+1)))) (ho:v2.ownBlock=some g) (O:TypeId) :
  (Builtin.append_ #[88,88] O #[.slice (some ⟨g,off,none⟩) k c,v2]).run Tryz.prog w=.ok (.slice (some ⟨g,off,none⟩) (n-1) c) (w.setCells g (off+k*1) (ptrs (X.drop (k+1)))):=by
 obtain ⟨z,hz,hz2,_⟩:=slQ.info
 obtain ⟨i0,hi,hz0,D,hzb⟩:=info_parts hz
 have hl:(ptrs (X.drop (k+1))).length=(n-(k+1))*1:=by rw [ptrs_len1,List.length_drop,hn]
 obtain ⟨_,_,_,U⟩:=hS.setCells (k*1) (ptrs (X.drop (k+1))) (by rw [hl];omega)
 obtain ⟨hl2,A,d,rfl,_,_,_,h4⟩:=h2
 cases A with
 | none=>simp [Value.ownBlock] at ho
 | some ad=>
  obtain ⟨g2,H,cur2,rfl,J,hle2,I⟩:=h4 _ rfl
  have hr:=run_append_room_cells (P:=Tryz.prog) w 88 O 117 i0 slQ.und hi g off k c ⟨g2,H,none⟩ (n-(k+1)) d (ptrs (X.drop (k+1))) (by rw [D,hl]) (fun j u hu=>by rw [Addr.add_mid];exact jJ J I j u hu) (xV _) (by omega)
   (fun j N=>by rw [D];exact (U j N).1) (fun j N=>by rw [D];exact (U j N).2)
  rw [hr,D,show k+(n-(k+1))=n-1 by omega]
theorem ldelete_any (g off n c k:Nat) (X:Zs) (w:World) (hS:Sl w 117 1 (.slice (some ⟨g,off,none⟩) n c) n (ptrs X)) (hn:X.length=n) (ab:k<n) (hlen:n≤100000000) :
  Calls Tryz.prog 116 #[.slice (some ⟨g,off,none⟩) n c,.int .i64 (k:Int),.int .i64 ((k:Int)+1)] w fun r w'=>r=.returned (.slice (some ⟨g,off,none⟩) (n-1) c)∧Sl w' 117 1 (.slice (some ⟨g,off,none⟩) (n-1) c) (n-1) (ptrs (X.eraseIdx k))∧Keep (·=g) w w':=by
 have ad:n≤c:=by obtain ⟨_,A,c',e',h1,_⟩:=hS;injection e' with _ _ e3;subst e3;exact h1
 obtain ⟨vx,ak⟩:=run_lhm slQ (some ⟨g,off,none⟩) n c k (k+1) (by omega) (by omega) ad
 obtain ⟨v1,a3,au,aq⟩:=yU slQ _ n k (by omega) _ w hS
 obtain ⟨v2,af,ae,a7⟩:=jX slQ _ n (k+1) (by omega) _ w hS
 have e1:v1=.slice (some ⟨g,off,none⟩) k c:=by
  obtain ⟨z,hz,hz2,_⟩:=slQ.info
  obtain ⟨i0,hi,hz0,am,hzb⟩:=info_parts hz
  have:=a3 w
  rw [run_slice_h (P:=Tryz.prog) (w:=w) 88 (some ⟨g,off,none⟩) n c (by rw [slQ.elem];exact slQ.und) .i64 (k:Int) (by omega) (by omega),slQ.elem] at this
  simp [sizeOf,typeInfo,hi,am,sliced,Addr.add] at this
  exact this.symm
 subst e1
 have aa:Hid (∀ w,Sl w 117 1 (.slice (some ⟨g,off,none⟩) n c) n (ptrs X)→Sl w 117 1 v2 (n-(k+1)) (ptrs (X.drop (k+1)))):=fun w h=>by
  have:=a7 w _ h
  rw [show (ptrs X).drop ((k+1)*1)=ptrs (X.drop (k+1)) from JQQ X (k+1)] at this
  exact this
 have U:=Kj ak
 have ai:=Kj a3
 have a4:=Kj af
 have ag:=Kj ae
 have HS:=Kj hS
 have HN:=Kj hn
 have a1:((k+1:Nat):Int)=(k:Int)+1:=by omega
 rw [a1] at U a4
 clear ak a3 af au ae aq a7 hS hn
 have ar:((k:Int) == (k:Int)+1)=false:=by simp;omega
 go_enter Tryz.func116,Tryz.ntmps116
 go_upto_region 1 with fail
 refine wA 6 [.slice (some ⟨g,off,none⟩) n c,iV (k:Int),iV ((k:Int)+1),.slice (some ⟨g,off,none⟩) n c,iV (n:Int),vx] [8,9,10,11,12,13] (nS 4 (sV rfl (fun a u E D hk=>ZV _ _ _ slQ.und (some ⟨g,off,none⟩) n c rfl (dD D 3))) (nS 5 (sV rfl (fun a u E D hk=>exec_slcLHM slQ _ _ _ _ _ vx _ _ _ rfl (dD D 0) (dD D 1) (dD D 2) (dD D 4) (U.out u))) nZ)) ?_
 intro w1 k1
 simp only [F8]
 go_upto_region 2 with fail
 refine wA 3 [iV (k:Int),iV ((k:Int)+1),bV false] [14,15,16] (nS 2 (aV rfl (fun a u E D hk=>JY rfl (dD D 0) (dD D 1)) (Ku (by omega))) nZ) ?_
 intro w2 k2
 simp only [F8]
 clear ar
 go_upto_region 4 with fail
 refine wA 3 [.slice (some ⟨g,off,none⟩) n c,iV (n:Int),iV (n:Int)] [18,19,7] (nS 1 (sV rfl (fun a u E D hk=>ZV _ _ _ slQ.und (some ⟨g,off,none⟩) n c rfl (dD D 0))) nZ) ?_
 intro w3 k3
 simp only [F8]
 have a5:=(k1.trans k2).trans k3
 clear k1 k2 k3
 go_upto_region 5 with fail
 refine wHp 6 [.slice (some ⟨g,off,none⟩) n c,iV (k:Int),.slice (some ⟨g,off,none⟩) k c,.slice (some ⟨g,off,none⟩) n c,iV ((k:Int)+1),v2] [20,21,22,23,24,25] (nS 2 (sV rfl (fun a u E D hk=>WV slQ _ _ _ _ _ rfl (dD D 0) (dD D 1) (ai.out u))) (nS 5 (sV rfl (fun a u E D hk=>ZW slQ _ _ _ v2 _ rfl (dD D 3) (dD D 4) (a4.out u))) nZ)) ?_
 intro J k4
 simp only [F8]
 have a2:=a5.trans k4
 have H:=HS.out.kept a2
 have ah:=aa.out J H
 have a9:∀ ty,(Builtin.append_ #[88,88] ty #[.slice (some ⟨g,off,none⟩) k c,v2]).run Tryz.prog J=.ok (.slice (some ⟨g,off,none⟩) (n-1) c) (J.setCells g (off+k*1) (ptrs (X.drop (k+1)))):=fun ty=>append_inP g off n c k X v2 J H HN.out ab ad ah (by rw [ag.out];rfl) ty
 refine Vj (.slice (some ⟨g,off,none⟩) (n-1) c) (J.setCells g (off+k*1) (ptrs (X.drop (k+1)))) rfl (QV slQ (.tmp 22) (.tmp 25) (.slice (some ⟨g,off,none⟩) k c) v2 rfl (by kernel_rfl) (by kernel_rfl) _ _ (a9 _)) ?_
 simp only [Act.put,sA,sS,sZ]
 refine aT (.slice (some ⟨g,off,none⟩) (n-1) c) ?_
 simp only [Act.put,List.setIfInBounds_toArray,List.set_cons_zero]
 refine Kx ?_
 have j:(ptrs (X.drop (k+1))).length=(n-(k+1))*1:=by rw [ptrs_len1,List.length_drop,HN.out]
 obtain ⟨N,al,ao,_⟩:=H.setCells (k*1) (ptrs (X.drop (k+1))) (by rw [j];omega)
 have I:Hid (Sl (J.setCells g (off+k*1) (ptrs (X.drop (k+1)))) 117 1 (.slice (some ⟨g,off,none⟩) n c) n (ptrs (X.eraseIdx k++X.drop (n-1)))):=by
  rw [show (ptrs X).take (k*1)=ptrs (X.take k) from ptrs_take X k,j,show k*1+(n-(k+1))*1=(n-1)*1 by omega,show (ptrs X).drop ((n-1)*1)=ptrs (X.drop (n-1)) from JQQ X (n-1)] at N
  show Sl _ _ _ _ _ _
  rw [List.eraseIdx_eq_take_drop_succ]
  rw [jx,jx]
  exact N
 have K5:Keep (·=g) w (J.setCells g (off+k*1) (ptrs (X.drop (k+1)))):=(Keep.mono (T:=(·=g)) a2 (fun _ _ h=>h.elim)).trans al (fun _ _ h=>h)
 generalize J.setCells g (off+k*1) (ptrs (X.drop (k+1)))=w5 at I K5 ⊢
 clear a9 ah H N al ao a2 a5 k4 aa ai a4 U ag HS j
 obtain ⟨m,hm⟩:∃ m,n-1=m:=⟨_,rfl⟩
 have hmn:n=m+1:=by omega
 rw [hm] at I ⊢
 go_upto_region 6 with fail
 refine wAp 5 [.slice (some ⟨g,off,none⟩) m c,.slice (some ⟨g,off,none⟩) m c,iV (m:Int),iV (n:Int),.slice (some ⟨g,off+m*1,none⟩) (n-m) (c-m)] [27,28,29,30,31] (nS 2 (sV rfl (fun a u E D hk=>ZV _ _ _ slQ.und (some ⟨g,off,none⟩) m c rfl (dD D 1))) (nS 4 (sV rfl (fun a u E D hk=>exec_slcLH slQ _ _ _ _ _ _ _ rfl (dD D 0) (dD D 2) (dD D 3) (run_lh slQ g off m c m n (by omega) (by omega) u))) nZ)) ?_
 intro w6 k6
 simp only [F8]
 obtain ⟨a8,ac,an,O⟩:=(I.out.kept k6).setCells (m*1) zP1 (by rw [zP1_len];omega)
 rw [zP1_len] at O
 have h1:n-m=1:=by omega
 refine Vj (.tuple #[]) (w6.setCells g (off+m*1) zP1) rfl (exec_clrP slQ zeroVP (.tmp 31) g (off+m*1) (c-m) rfl (by rw [← h1];kernel_rfl) O) ?_
 simp only [Act.put]
 refine Kx ?_
 have a6:Sl (w6.setCells g (off+m*1) zP1) 117 1 (.slice (some ⟨g,off,none⟩) m c) m (ptrs (X.eraseIdx k)):=by
  have h2:=a8.shrink (m:=m) (by omega)
  have h3:(X.eraseIdx k).length=m:=by rw [List.length_eraseIdx,if_pos (by rw [HN.out];exact ab),HN.out];omega
  rw [List.append_assoc,List.take_append_of_le_length (by rw [List.length_take,ptrs_len1,List.length_append,h3];omega),List.take_take,Nat.min_self] at h2
  have h4:(ptrs (X.eraseIdx k++X.drop m)).take (m*1)=ptrs (X.eraseIdx k):=by
   rw [show (ptrs (X.eraseIdx k++X.drop m)).take (m*1)=ptrs ((X.eraseIdx k++X.drop m).take m) from ptrs_take _ m,List.take_append_of_le_length (by omega),List.take_of_length_le (by omega)]
  rw [h4] at h2
  exact h2
 have aj:=Kj a6
 have K7:Keep (·=g) w (w6.setCells g (off+m*1) zP1):=(K5.kept k6).trans ac (fun _ _ h=>h)
 generalize w6.setCells g (off+m*1) zP1=w7 at aj K7 ⊢
 clear a8 a6 ac an O K5 I k6
 go_wp2
 go_ret
 rw [hm]
 exact ⟨rfl,aj.out,K7⟩
def VX (A R:List Lev) (l:Lev):List Lev:=if l.2.isEmpty=true then A++R else A++l::R
theorem drop_if_any (w:World) (F:Nat→Prop) (p:Nat) (B:Bok) (s:Int) (A R:List Lev) (l:Lev) (i:Nat) (h:Bk w F p B) (hs:s=1∨s=2) (hL:B.sd s=A++l::R) (hi:A.length=i) (hn:A.length+1+R.length≤1000) (hX:l.2.length≤100000000) :
  Calls Tryz.prog 102 #[.pointer (some ⟨p,Qz s,none⟩),.int .i64 (i:Int)] w fun r w'=>∃ F',r=.returned (.tuple #[])∧Bk w' F' p (B.to s (VX A R l) B.last B.no)∧Grow w F F'∧Keep F w w'∧∀ b,F b→F' b:=by
 obtain ⟨v,u0,Z,G,Fs,eL,O,hB,N,hp,a2,hJ⟩:=h.open_ hs
 have HJ:=Kj hJ
 have HK:=Kj h
 obtain ⟨n,H⟩:∃ n,Z.length=n:=⟨_,rfl⟩
 have a9:A.length+1+R.length=n:=by
  rw [← H,← Xz,eL,hL]
  simp
  omega
 have I:i<n:=by omega
 obtain ⟨j,os,c,rfl⟩:=O.some_ (by omega)
 rw [H] at O hB
 obtain ⟨z,hz⟩:∃ z,Z[i]?=some z:=⟨Z[i]'(by omega),List.getElem?_eq_getElem (by omega)⟩
 have af:z.2=l:=by
  have h1:=qj hz
  rw [eL,hL,← hi,List.getElem?_append_right (Nat.le_refl _),Nat.sub_self] at h1
  simpa using h1.symm
 obtain ⟨q,pr,X⟩:=z
 subst af
 have hnZ1:n≤1000:=by omega
 have am:Hid (levs (Z.eraseIdx i)=A++R):=by
  show _=_
  have e0:levs (Z.eraseIdx i)=(levs Z).eraseIdx i:=by simp [levs,List.eraseIdx_eq_take_drop_succ,List.map_take,List.map_drop]
  rw [e0,eL,hL,← hi,List.eraseIdx_append_of_length_le (Nat.le_refl _),Nat.sub_self]
  rfl
 have HV:Hid (w.cell? ⟨p,Qz s+1,none⟩=some (.slice (some ⟨j,os,none⟩) n c)):=by
  show _=_
  rw [hB.cell]
  exact xq s _ _ _ _
 have HC:=Kj (O.cell hz)
 have a3:=Kj (O.lv (q,pr,X) (List.mem_of_getElem? hz))
 have HB:=Kj hB
 have HW:=Kj O
 have a6:=Kj O.sl
 rw [H] at a6
 have HN:=Kj H
 have HL:=Kj hL
 have ae:=Kj N
 have a5:Fs j:=(O.own j rfl).1
 have ag:j≠p:=(N j a5).2
 have hpl:=a2 p hp
 have hgl:=a2 j (N j a5).1
 have ho3:=offS_le s
 clear O hB eL hJ hz N hL h a2 a9 hi hn H
 obtain ⟨x,hx⟩:∃ x,X.length=x:=⟨_,rfl⟩
 have HX:=Kj hx
 have hX:x≤100000000:=by rw [← hx];exact hX
 clear hx
 by_cases hx0:x=0
 ·have HE:Hid (VX A R (pr,X)=A++R):=by
   show _=_
   unfold VX
   rw [if_pos (by simp only [List.isEmpty_iff];exact List.eq_nil_of_length_eq_zero (by rw [HX.out];exact hx0))]
  go_enter Tryz.func102,Tryz.ntmps102
  go_upto_region 0 with fail
  refine wA 9 [pV p (Qz s),pV p (Qz s),pV p (Qz s+1),.slice (some ⟨j,os,none⟩) n c,iV (i:Int),pV j (os+i*1),pV q 0,iV (x:Int),bV true] [4,5,6,7,8,9,10,11,12] (nS 3 (ldC HV.out) (nS 5 (ixV slQ (os) n i ((i:Int)) (I)) (nS 6 (ldC HC.out) (nS 7 (cV Tryz.func115 (fun u hk=>(by rw [← HX.out];exact len_any u _ q X (a3.out.kept hk)))) (nS 8 (aV rfl (fun a u E D hk=>JY rfl (dD D 7) rfl) (Ky (by omega))) nZ))))) ?_
  intro w1 U
  simp only [F8]
  have ad:=Kj (HB.out.kept U)
  have al:=Kj (U.cell HV.out)
  have an:=Kj (a6.out.kept U)
  have HW1:=Kj (HW.out.kept U)
  clear HB HV HC a3 a6
  go_upto_region 1 with fail
  refine wAp 8 [pV p (Qz s),pV p (Qz s),pV p (Qz s),pV p (Qz s+1),.slice (some ⟨j,os,none⟩) n c,iV (i:Int),iV (i:Int),iV (((i:Int):Int)+(1:Int))] [13,14,15,16,17,18,19,20] (nS 4 (ldC al.out) (nS 7 (sV rfl (fun a u E D hk=>YQ (p:=((i:Int))) (q:=(1)) (((i:Int):Int)+(1:Int)) rfl (dD D 6) rfl rfl (by omega) (by omega))) nZ)) ?_
  intro w2 k2
  simp only [F8]
  refine cT Tryz.func116 [.slice (some ⟨j,os,none⟩) n c,.int .i64 (i:Int),.int .i64 (((i:Int):Int)+(1:Int))] ?_
  refine (ldelete_any j os n c i Z w2 (an.out.kept k2) HN.out I (by omega)).mono ?_
  rintro r w3 ⟨rfl,aj,a4⟩
  refine ⟨_,rfl,?_⟩
  refine aT (.pointer (some ⟨p,Qz s,none⟩)) ?_
  refine aT (.pointer (some ⟨p,Qz s+1,none⟩)) ?_
  refine ZJ 88 p (Qz s+1) 92 _ (.slice (some ⟨j,os,none⟩) (n-1) c) _ _ rfl rfl (by kernel_rfl) (by kernel_rfl) (by kernel_rfl) rfl rfl ((ad.out.kept k2).keep a4 (fun e=>ag e.symm)) (by rw [JQx];omega) ?_
  intro w4 aa a7 hs4
  simp only [Act.put,sA,sS,sZ]
  refine Kx ?_
  rw [sideCs_set] at aa
  have a1:=U.trans k2
  have K4:Keep (fun b=>Fs b∨b=p) w w4:=(((Keep.mono (T:=fun b=>Fs b∨b=p) a1 (fun _ _ h=>h.elim)).trans a4 (fun b _ J=>by subst J;exact .inl a5))).trans a7 (fun b _ J=>by subst J;exact .inr rfl)
  have ac:(Z.eraseIdx i).length=n-1:=by rw [List.length_eraseIdx,if_pos (by rw [HN.out];exact I),HN.out]
  obtain ⟨Fs',ab,ah,hk',_⟩:=(HW.out.kept a1).fewer (w':=w3) (v':=.slice (some ⟨j,os,none⟩) (n-1) c) (Z':=Z.eraseIdx i) (List.eraseIdx_sublist Z i)
   (a4.mono (fun b _ J=>by subst J;rfl)) (by rw [ac];exact aj) (fun b J=>.inl J)
  have a8:=ah.wide a1.size
  have ai:=ab.keep a7 (fun b J e=>by
   subst e
   rcases a8 b J with h | h
   ·exact (ae.out b h).2 rfl
   omega)
  obtain ⟨F',q1,q2,q3,q4⟩:=HJ.out w4 _ _ _ _ _ K4 aa ⟨_,_,am.out,ai⟩ a8
  go_wp2
  go_end0
  exact ⟨rfl,F',by rw [HE.out];exact q1,q2,q3,q4⟩
 have HE:Hid (B.to s (VX A R (pr,X)) B.last B.no=B):=by
  show _=_
  unfold VX
  rw [if_neg (fun h=>hx0 (by have h':X=[]:=List.isEmpty_iff.1 h;rw [← HX.out,h'];rfl)),← HL.out,Bok.to_self hs]
 go_enter Tryz.func102,Tryz.ntmps102
 go_upto_region 0 with fail
 refine wA 9 [pV p (Qz s),pV p (Qz s),pV p (Qz s+1),.slice (some ⟨j,os,none⟩) n c,iV (i:Int),pV j (os+i*1),pV q 0,iV (x:Int),bV false] [4,5,6,7,8,9,10,11,12] (nS 3 (ldC HV.out) (nS 5 (ixV slQ (os) n i ((i:Int)) (I)) (nS 6 (ldC HC.out) (nS 7 (cV Tryz.func115 (fun u hk=>(by rw [← HX.out];exact len_any u _ q X (a3.out.kept hk)))) (nS 8 (aV rfl (fun a u E D hk=>JY rfl (dD D 7) rfl) (Ku (by omega))) nZ))))) ?_
 intro w1 U
 simp only [F8]
 have ak:=HK.out.kept U
 go_wp2
 go_end0
 exact ⟨rfl,F,by rw [HE.out];exact ak,Grow.refl _ _,Keep.mono (T:=F) U (fun _ _ h=>h.elim),fun _ h=>h⟩
theorem Blk.shape {w:World} {g:Nat} {t:TypeId} {cs:List Value} (h:Blk w g t cs):w.shape? g=some (t,cs.length):=by
 unfold Blk at h
 unfold World.shape?
 rw [h]
 simp
theorem Sl.longer {w:World} {T:TypeId} {k n c m g off:Nat} {cs:List Value} (h:Sl w T k (.slice (some ⟨g,off,none⟩) n c) n cs) (J:m≤c) (O:n≤m):∃ I,I.length=m*k∧Sl w T k (.slice (some ⟨g,off,none⟩) m c) m I∧I.take (n*k)=cs:=by
 obtain ⟨hl1,A',c',e',h1,h2,h3,h4⟩:=h
 injection e' with e1 e2 e3
 subst e1 e3
 obtain ⟨g',off',D,e,hB,N,U⟩:=h4 _ rfl
 injection e with e1 e2
 subst e1 e2
 have hmc:m*k≤c*k:=Nat.mul_le_mul_right k J
 have H:n*k≤m*k:=Nat.mul_le_mul_right k O
 refine ⟨(D.drop off).take (m*k),by rw [List.length_take,List.length_drop];omega,⟨by rw [List.length_take,List.length_drop];omega,_,c,rfl,J,h2,fun h=>(by cases h),fun ad j=>?_⟩,by rw [List.take_take,Nat.min_eq_left H];exact U⟩
 injection j with j
 subst j
 exact ⟨g,off,D,rfl,hB,N,rfl⟩
theorem Sl.cap {w:World} {T:TypeId} {k n c:Nat} {A:Option Addr} {cs:List Value} (h:Sl w T k (.slice A n c) n cs):n≤c∧c≤maxLen∧(A=none→c=0):=by
 obtain ⟨_,A',c',D,H,j,I,_⟩:=h
 injection D with e1 e2 e3
 subst e1 e3
 exact ⟨H,j,I⟩
theorem Sl.slice_ {w:World} {T:TypeId} {k n:Nat} {v:Value} {cs:List Value} (h:Sl w T k v n cs):∃ A c,v=.slice A n c:=by
 obtain ⟨_,A,c,e,_⟩:=h
 exact ⟨A,c,e⟩
theorem zeros_len {z:Value} {k:Nat} (j:z.cells.size=k) (m:Nat):(Builtin.zeroCells z.cells m).toList.length=m*k:=by simp [Builtin.zeroCells,j]
theorem zZ {t tn T:TypeId} {k bytes:Nat} (ht:SlT t T k bytes) (a5:Tryz.prog.underlying tn=some (.int .i64)) (ty:TypeId) (w:World) (A:Option Addr) (n c m:Nat) (cs:List Value) (h:Sl w T k (.slice A n c) n cs) (hm:0<m) (hc:c<n+m) (a1:n+m≤maxLen) (O:(n+m)*bytes≤140737488355328) (hpos:0<bytes) :
  ∃ g' c' w' zs,(Builtin.append_ #[t,tn] ty #[.slice A n c,.int .i64 (m:Int)]).run Tryz.prog w=.ok (.slice (some ⟨g',0,none⟩) (n+m) c') w'∧Sl w' T k (.slice (some ⟨g',0,none⟩) (n+m) c') (n+m) (cs++zs)∧zs.length=m*k∧Kept w w'∧w.heap.size≤g':=by
 obtain ⟨z,hz,D,_⟩:=ht.info
 obtain ⟨i0,hi,a4,I,U⟩:=info_parts hz
 obtain ⟨hl,A',c2,e',h1,h2,h3,h4⟩:=h
 injection e' with e1 e2 e3
 subst e1 e3
 have a2:(Builtin.firstCells i0.size n (.slice A n c)).run Tryz.prog w.drew=.ok cs.toArray w.drew:=by
  cases A with
  | none=>
   have:=h3 rfl
   have a3:n=0:=by omega
   subst a3
   have:cs=[]:=List.eq_nil_of_length_eq_zero (by omega)
   subst this
   exact run_firstCells_none w.drew i0.size 0 0 c
  | some ad=>
   obtain ⟨g,off,cur,rfl,hB,h5,h6⟩:=h4 _ rfl
   exact run_firstCells_some w.drew i0.size n ⟨g,off,none⟩ n c cs (by rw [I];exact hl) (fun j v hj=>by rw [Addr.add_lit];exact jJ hB h6 j v hj)
 have hmb:m*bytes≤(n+m)*bytes:=Nat.mul_le_mul_right _ (by omega)
 have hr:=Lib.run_append_grow_zeros (P:=Tryz.prog) w t tn ty T i0 z .i64 .i64 ht.und a5 hi a4 A n c cs a2 m hm (by rw [I];exact ht.pos) hc (by unfold maxLen at a1;omega) (by rw [U];omega) (by rw [U];exact growslice_fits hc O)
 have J:=grownCap_ge w (n+m) c T
 have N:=grownCap_le_maxLen w (n+m) c T a1
 generalize grownCap w (n+m) c T=G at hr J N
 refine ⟨w.heap.size,G,_,(Builtin.zeroCells z.cells m).toList,hr,⟨by rw [List.length_append,hl,zeros_len D,Nat.add_mul],_,G,rfl,J,N,fun h=>(by cases h),fun ad H=>?_⟩,zeros_len D m,((Keep.refl _ w).drew).alloc _,Nat.le_refl _⟩
 injection H with H
 subst H
 refine ⟨w.heap.size,0,(cs.toArray++Builtin.zeroCells z.cells m++Builtin.zeroCells z.cells (G-(n+m))).toList,rfl,?_,?_,?_⟩
 ·have:=Blk.new w.drew T (cs.toArray++Builtin.zeroCells z.cells m++Builtin.zeroCells z.cells (G-(n+m))).toList
  rw [Array.toArray_toList] at this
  exact this
 ·simp only [Array.toList_append,List.length_append,zeros_len D,hl,Nat.zero_add,← Nat.add_mul]
  exact Nat.mul_le_mul_right k (by omega)
 rw [List.drop_zero,Array.toList_append,Array.toList_append,List.take_append_of_le_length (by simp only [List.length_append,zeros_len D,hl,← Nat.add_mul];exact Nat.le_refl _),List.take_of_length_le (by simp only [List.length_append,zeros_len D,hl,← Nat.add_mul];exact Nat.le_refl _)]
section
variable {a:Act} {o:Oper} {u:World} {t T:TypeId} {k bytes:Nat}
theorem exec_appZ (ht:SlT t T k bytes) (D:TypeId) (s x:Operand) (v:Value) (m:Int) (j:o.op=Op.call { callee:=Callee.builtin Builtin.append,args:=#[s,x],argTypes:=#[t,D] }) (I:a.eval s=v) (hx:a.eval x=.int .i64 m) (v':Value) (H:World)
  (h:(Builtin.append_ #[t,D] o.type #[v,.int .i64 m]).run Tryz.prog u=.ok v' H):(execOp a.eval o).run Tryz.prog u=.ok (.value v') H:=by
 unfold execOp
 simp only [j,resolve,invoke,builtin,Sem.run_bind,Sem.run_pure,Result.andThen_ok,List.map_toArray,List.map_cons,List.map_nil,I,hx,h]
theorem JQX (x:Operand) (A:Option Addr) (n c:Nat) (D:Tryz.prog.underlying t=some (.slice T)) (j:o.op=.call { callee:=.builtin .cap,args:=#[x],argTypes:=#[t] }) (hx:a.eval x=.slice A n c):(execOp a.eval o).run Tryz.prog u=.ok (.value (.int .i64 (c:Int))) u:=by
 unfold execOp
 simp only [j,resolve,invoke,builtin,Sem.run_bind,Sem.run_pure,Result.andThen_ok,List.map_toArray,List.map_cons,List.map_nil,hx]
 simp [Builtin.cap_,run_underlying D,go_sem]
theorem run_h (D:SlT t T k bytes) (A:Option Addr) (n c h:Nat) (h3:h≤c) (hA:A=none→c=0) (u:World):(Instr.slice t (.slice A n c) none (some (.int .i64 (h:Int))) none).run Tryz.prog u=.ok (.slice A h c) u:=by
 obtain ⟨z,I,hz2,_⟩:=D.info
 obtain ⟨i0,H,hz0,j,hzb⟩:=info_parts I
 rw [run_slice_h (P:=Tryz.prog) (w:=u) t A n c (by rw [D.elem];exact D.und) .i64 (h:Int) (by omega) (by omega),D.elem]
 cases A with
 | none=>simp [sizeOf,typeInfo,H,j,sliced]
 | some ad=>simp [sizeOf,typeInfo,H,j,sliced,Addr.add]
theorem run_l (j:SlT t T k bytes) (g off n c l:Nat) (h1:l≤n) (h3:l<c) (u:World):(Instr.slice t (.slice (some ⟨g,off,none⟩) n c) (some (.int .i64 (l:Int))) none none).run Tryz.prog u=.ok (.slice (some ⟨g,off+l*k,none⟩) (n-l) (c-l)) u:=by
 obtain ⟨z,I,hz2,_⟩:=j.info
 obtain ⟨i0,H,hz0,D,hzb⟩:=info_parts I
 rw [run_slice_l (P:=Tryz.prog) (w:=u) t (some ⟨g,off,none⟩) n c (by rw [j.elem];exact j.und) .i64 (l:Int) (by omega) (by omega),j.elem]
 have:¬ c=l:=by omega
 simp [sizeOf,typeInfo,H,D,sliced,this,Addr.add_mid]
theorem exec_cpyS (d x:Operand) (v y:Value) (j:o.op=Op.call { callee:=Callee.builtin Builtin.copy,args:=#[d,x],argTypes:=#[t,t] }) (H:a.eval d=v) (hx:a.eval x=y) (v':Value) (D:World)
  (h:(Builtin.copy_ #[t,t] o.type #[v,y]).run Tryz.prog u=.ok v' D):(execOp a.eval o).run Tryz.prog u=.ok (.value v') D:=by
 unfold execOp
 simp only [j,resolve,invoke,builtin,Sem.run_bind,Sem.run_pure,Result.andThen_ok,List.map_toArray,List.map_cons,List.map_nil,H,hx,h]
theorem run_copy_sl (ht:SlT t T 1 bytes) (ty:TypeId) (g off n c i l d:Nat) (cs D:List Value) (w:World) (h:Sl w T 1 (.slice (some ⟨g,off,none⟩) n c) n cs) (N H O c2:Nat) (hd:w.rangeAt N H D) (hl:D.length=Nat.min O l) (hi:i+D.length≤n) (h1:∀ u ∈ D,u.oneCell'=true) :
  (Builtin.copy_ #[t,t] ty #[.slice (some ⟨g,off+i,none⟩) l d,.slice (some ⟨N,H,none⟩) O c2]).run Tryz.prog w=.ok (goInt D.length) (w.setCells g (off+i) D) ∧
  Sl (w.setCells g (off+i) D) T 1 (.slice (some ⟨g,off,none⟩) n c) n (cs.take i++D++cs.drop (i+D.length))∧Keep (·=g) w (w.setCells g (off+i) D):=by
 obtain ⟨z,hz,hz2,_⟩:=ht.info
 obtain ⟨i0,U,hz0,J,hzb⟩:=info_parts hz
 obtain ⟨q1,q2,q3,q4⟩:=h.setCells i D (by omega)
 refine ⟨?_,q1,q2⟩
 exact run_copy_cells w t t ty T g (off+i) l d ⟨N,H,none⟩ O c2 D ht.und (by rw [U];simp [J]) hl (fun j v I=>by rw [Addr.add_lit];exact hd j v I) (fun j I=>(q4 j I).1) (fun j I=>(q4 j I).2) h1
end
end Go.Proofs.YtklohceombpleaaGreat
