/-
 Laws and contracts that the walks rest on, part 4. No condition.
-/
import Derived.Test.YtklohceombpleaaGreatQW03
set_option linter.unusedVariables false
set_option maxRecDepth 100000
set_option maxHeartbeats 3200000
namespace Go.Proofs.YtklohceombpleaaGreat
open Go.RowKit
structure Mkt where
 b:Bok
 w:List Ord
structure Ot where
 c:Oc
 wt:Bool
def Ord.free (o:Ord):Ord:={ o with stop:=0 }
def Ord.is (t i:Int) (o:Ord):Bool:=decide (o.tr=t) && decide (o.id=i)
def Ord.key (o:Ord):Int × Int:=(o.tr,o.id)
def Vq (p:Ord→Bool) (W:List Ord):Int:=if W.findIdx p<W.length then (W.findIdx p:Int) else -1
theorem find_at {p:Ord→Bool} {X:List Ord} {k:Nat} {e:Ord} (h:∀ (j:Nat) (x:Ord),j<k→X[j]?=some x→p x=false) (I:X[k]?=some e) (H:p e=true):X.findIdx p=k:=by
 obtain ⟨hk,rfl⟩:=List.getElem?_eq_some_iff.1 I
 rw [List.findIdx_eq hk]
 exact ⟨H,fun j D=>h j _ D (List.getElem?_eq_getElem (by omega))⟩
theorem find_no {p:Ord→Bool} {X:List Ord} (h:∀ (j:Nat) (x:Ord),j<X.length→X[j]?=some x→p x=false):X.findIdx p=X.length:=
 List.findIdx_eq_length.2 fun x hx=>by
  obtain ⟨j,D⟩:=List.getElem?_of_mem hx
  exact h j x (List.getElem?_eq_some_iff.1 D).1 D
theorem find_is {p:Ord→Bool} {X:List Ord} {e:Ord} (h:X[X.findIdx p]?=some e):p e=true∧X.findIdx p<X.length:=by
 obtain ⟨hk,rfl⟩:=List.getElem?_eq_some_iff.1 h
 exact ⟨List.findIdx_getElem,hk⟩
theorem find_off {p:Ord→Bool} {X:List Ord} (h:X[X.findIdx p]?=none):∀ x ∈ X,p x=false:=by
 have:=List.getElem?_eq_none_iff.1 h
 exact List.findIdx_eq_length.1 (Nat.le_antisymm List.findIdx_le_length this)
theorem yX {p:Ord→Bool} {X:List Ord} {e:Ord} (h:X[X.findIdx p]?=some e):Vq p X=(X.findIdx p:Int):=if_pos (find_is h).2
theorem xx {p:Ord→Bool} {X:List Ord} (h:X[X.findIdx p]?=none):Vq p X=-1:=if_neg (by have:=List.getElem?_eq_none_iff.1 h;omega)
def qq (t i:Int) (W:List Ord):Ord × Bool:=match W[W.findIdx (Ord.is t i)]? with
 | none=>(JV,false)
 | some o=>(o,true)
def Mkt.zero:Mkt:=⟨Bok.zero,[]⟩
def Mkt.len (M:Mkt):Nat:=M.b.len+M.w.length
def Mkt.find (M:Mkt) (t i:Int):Ord × Bool:=if (M.b.find t i).2=true then ((M.b.find t i).1,true) else qq t i M.w
def Mkt.remove (M:Mkt) (t i:Int):Ord × Bool × Mkt:=
 if (M.b.remove t i).2.1=true then ((M.b.remove t i).1,true,⟨(M.b.remove t i).2.2,M.w⟩)
 else match M.w[M.w.findIdx (Ord.is t i)]? with
 | none=>(JV,false,M)
 | some o=>(o,true,⟨M.b,M.w.eraseIdx (M.w.findIdx (Ord.is t i))⟩)
def Mkt.all (M:Mkt):List Ord:=(XJ M.b.buys++XJ M.b.sells)++M.w
def Ord.may (o:Ord):Bool:=(decide (0<o.stop) || decide (o.k=1)) || decide (o.k=5)
def Mkt.err (M:Mkt) (o:Ord):Int:=
 if o.right=false then 1 else if (M.find o.tr o.id).2=true then 5 else if o.may=true∧64≤M.len then 4 else 0
def Bok.enter (B:Bok) (o:Ord):Oc × Bok:=({ (B.add o.free).1 with o:=o },(B.add o.free).2)
def Mkt.waits (M:Mkt) (o:Ord):Bool:=decide (0<o.stop) && !o.hit M.b.last
def Mkt.arrive (M:Mkt) (o:Ord):Ot × Mkt:=
 if M.err o≠0 then (⟨⟨o,[],o.qty,false,false,M.err o⟩,false⟩,M)
 else if M.waits o=true then (⟨⟨o,[],o.qty,false,false,0⟩,true⟩,⟨M.b,M.w++[o]⟩)
 else (⟨(M.b.enter o).1,false⟩,⟨(M.b.enter o).2,M.w⟩)
def Mkt.trig (M:Mkt):Nat:=M.w.findIdx fun o=>o.hit M.b.last
def Mkt.next (M:Mkt) (o:Ord):Mkt:=⟨(M.b.enter o).2,M.w.eraseIdx M.trig⟩
def casM:Nat→Mkt→List Ot × Mkt
 | 0,M=>([],M)
 | n+1,M=>match M.w[M.trig]? with
  | none=>([],M)
  | some o=>(⟨(M.b.enter o).1,false⟩::(casM n (M.next o)).1,(casM n (M.next o)).2)
def Mkt.cas (M:Mkt):List Ot × Mkt:=casM M.w.length M
def Mkt.add (M:Mkt) (o:Ord):List Ot × Mkt:=
 if (M.arrive o).1.c.err≠0 then ([(M.arrive o).1],(M.arrive o).2)
 else ((M.arrive o).1::(M.arrive o).2.cas.1,(M.arrive o).2.cas.2)
theorem WZ {M:Mkt} (h:M.w[M.trig]?=none):M.cas=([],M):=by
 unfold Mkt.cas
 cases hn:M.w.length with
 | zero=>rfl
 | succ n=>rw [casM,h]
theorem cas_some {M:Mkt} {o:Ord} (h:M.w[M.trig]?=some o):M.cas=(⟨(M.b.enter o).1,false⟩::(M.next o).cas.1,(M.next o).cas.2):=by
 have j:=(List.getElem?_eq_some_iff.1 h).1
 have D:(M.next o).w.length=M.w.length-1:=by unfold Mkt.next;simp only;rw [List.length_eraseIdx,if_pos j]
 unfold Mkt.cas
 rw [D]
 obtain ⟨n,e⟩:∃ n,M.w.length=n+1:=⟨M.w.length-1,by omega⟩
 rw [e,casM,h]
 rfl
theorem cas_ind {P:Mkt→Prop} (j:∀ M o,P M→M.w[M.trig]?=some o→P (M.next o)):∀ (n:Nat) (M:Mkt),M.w.length≤n→P M→P M.cas.2
 | 0,M,hn,h=>by
  rw [WZ (List.getElem?_eq_none (by omega))]
  exact h
 | n+1,M,hn,h=>by
  cases e:M.w[M.trig]? with
  | none=>rw [WZ e];exact h
  | some o=>
   rw [cas_some e]
   refine cas_ind j n _ ?_ (j M o h e)
   have D:=(List.getElem?_eq_some_iff.1 e).1
   unfold Mkt.next
   simp only
   rw [List.length_eraseIdx,if_pos D]
   omega
theorem cas_quiet:∀ (n:Nat) (M:Mkt),M.w.length≤n→∀ o ∈ M.cas.2.w,o.hit M.cas.2.b.last=false
 | 0,M,hn=>by
  rw [WZ (List.getElem?_eq_none (by omega))]
  have D:M.w=[]:=List.eq_nil_of_length_eq_zero (by omega)
  intro o j
  simp only [D] at j
  cases j
 | n+1,M,hn=>by
  cases e:M.w[M.trig]? with
  | none=>rw [WZ e];exact find_off (p:=fun o=>o.hit M.b.last) e
  | some o=>
   rw [cas_some e]
   refine cas_quiet n _ ?_
   have H:=(List.getElem?_eq_some_iff.1 e).1
   unfold Mkt.next
   simp only
   rw [List.length_eraseIdx,if_pos H]
   omega
theorem erase_cnt:∀ {W:List Ord} {i:Nat} {o:Ord},W[i]?=some o→∀ k:Int × Int,(W.map Ord.key).count k=((W.eraseIdx i).map Ord.key).count k+(if o.key=k then 1 else 0)
 | [],i,o,h,k=>by simp at h
 | x::W,0,o,h,k=>by
  simp at h
  subst h
  rw [List.eraseIdx_cons_zero,List.map_cons,List.count_cons]
  simp
 | x::W,i+1,o,h,k=>by
  have:=erase_cnt (W:=W) (i:=i) (o:=o) (by simpa using h) k
  rw [List.eraseIdx_cons_succ,List.map_cons,List.map_cons,List.count_cons,List.count_cons,this]
  omega
structure InvK (M:Mkt):Prop where
 inv:Inv M.b
 few:M.b.len+M.w.length≤64
 good:∀ o ∈ M.w,o.right=true∧0<o.stop
 once:∀ k,cnt k M.b.all+(M.w.map Ord.key).count k≤1
theorem InvK.zero:InvK Mkt.zero:=⟨Inv.zero,by simp [Mkt.zero,Bok.zero,Bok.len,Bok.all,YZ],by simp [Mkt.zero],fun k=>by simp [Mkt.zero,Bok.zero,Bok.all,YZ,cnt]⟩
theorem add_few {B:Bok} {o:Ord} (h:Inv B) (k:Int × Int):cnt k (B.add o).2.all≤cnt k B.all+(if o.key=k∧(o.k=1∨o.k=5) then 1 else 0)∧(B.add o).2.len≤B.len+(if o.k=1∨o.k=5 then 1 else 0):=by
 by_cases he:B.err o=0
 ·have A:=add_is h he
  have hm:=A.m.cnt k
  have hl:=A.m.len
  rw [cnt_all _ A.sd k,cnt_all B A.sd k,len_all _ A.sd,len_all B A.sd,A.theirs,A.mine]
  by_cases hst:B.stays o=true
  ·rw [if_pos hst]
   have D:=A.rests hst
   have H:=D.cnt k
   have j:=D.len
   have hk:=(stays_iff.1 hst).2.2
   rw [H,j,if_pos hk]
   have e:((o.cut (B.matched o).left).tr,(o.cut (B.matched o).left).id)=o.key:=rfl
   rw [e]
   by_cases hkk:o.key=k
   ·rw [if_pos hkk,if_pos ⟨hkk,hk⟩]
    omega
   rw [if_neg hkk,if_neg (fun h=>hkk h.1)]
   omega
  rw [if_neg hst]
  omega
 rw [yj he]
 simp only
 omega
theorem free_key (o:Ord):o.free.key=o.key:=rfl
theorem enter_few {B:Bok} {o:Ord} (h:Inv B) (k:Int × Int):cnt k (B.enter o).2.all≤cnt k B.all+(if o.key=k then 1 else 0)∧(B.enter o).2.len≤B.len+(if o.k=1∨o.k=5 then 1 else 0):=by
 obtain ⟨D,j⟩:=add_few (o:=o.free) h k
 refine ⟨Kv D (Nat.add_le_add_left ?_ _),j⟩
 rw [free_key]
 by_cases hk:o.key=k
 ·rw [if_pos hk]
  split <;> omega
 rw [if_neg (fun h=>hk h.1)]
 omega
theorem JQY {B:Bok} {o:Ord} (h:Inv B):Inv (B.enter o).2∧B.no≤(B.enter o).2.no∧(B.enter o).2.no≤B.no+1048576:=inv_add h
theorem InvK.next {M:Mkt} (h:InvK M) {o:Ord} (j:M.w[M.trig]?=some o):InvK (M.next o):=by
 have H:=(List.getElem?_eq_some_iff.1 j).1
 refine ⟨(JQY h.inv).1,?_,fun x hx=>h.good x (List.mem_of_mem_eraseIdx hx),fun k=>?_⟩
 ·have I:=(enter_few (o:=o) h.inv (0,0)).2
  have D:=h.few
  unfold Mkt.next
  simp only
  rw [List.length_eraseIdx,if_pos H]
  have:(if o.k=1∨o.k=5 then 1 else 0)≤1:=by split <;> omega
  omega
 have I:=(enter_few (o:=o) h.inv k).1
 have D:=h.once k
 have h3:=erase_cnt j k
 unfold Mkt.next
 simp only
 omega
theorem find_cnt {W:List Ord} {t i:Int} (h:(qq t i W).2=false):(W.map Ord.key).count (t,i)=0:=by
 unfold qq at h
 cases e:W[W.findIdx (Ord.is t i)]? with
 | some o=>rw [e] at h;cases h
 | none=>
  refine List.count_eq_zero.2 fun j=>?_
  obtain ⟨x,hx,hk⟩:=List.mem_map.1 j
  have:=find_off e x hx
  unfold Ord.key at hk
  injection hk with h1 h2
  simp [Ord.is,h1,h2] at this
theorem Mkt.find_no {M:Mkt} {t i:Int} (h:(M.find t i).2=false):cnt (t,i) M.b.all=0∧(M.w.map Ord.key).count (t,i)=0:=by
 unfold Mkt.find at h
 by_cases hb:(M.b.find t i).2=true
 ·rw [if_pos hb] at h
  cases h
 rw [if_neg hb] at h
 exact ⟨(has_iff M.b t i).1 (by unfold Bok.has;simpa using hb),find_cnt h⟩
theorem Mkt.err_zero {M:Mkt} {o:Ord} (h:M.err o=0):o.right=true∧(M.find o.tr o.id).2=false∧(o.may=true→M.len<64):=by
 unfold Mkt.err at h
 split at h
 ·cases h
 rename_i h1
 split at h
 ·cases h
 rename_i h2
 split at h
 ·cases h
 rename_i h3
 exact ⟨by simpa using h1,by simpa using h2,fun j=>Nat.lt_of_not_le fun D=>h3 ⟨j,D⟩⟩
theorem InvK.arrive {M:Mkt} (h:InvK M) (o:Ord):InvK (M.arrive o).2:=by
 unfold Mkt.arrive
 by_cases he:M.err o=0
 ·rw [if_neg (Classical.not_not.2 he)]
  obtain ⟨e1,e2,I⟩:=Mkt.err_zero he
  obtain ⟨O,U⟩:=Mkt.find_no e2
  by_cases hw:M.waits o=true
  ·rw [if_pos hw]
   have N:0<o.stop:=by unfold Mkt.waits at hw;simp at hw;exact hw.1
   have j:=I (by simp [Ord.may,N])
   unfold Mkt.len at j
   refine ⟨h.inv,by simp only [List.length_append,List.length_cons,List.length_nil];omega,fun x hx=>?_,fun k=>?_⟩
   ·rcases List.mem_append.1 hx with hx | hx
    ·exact h.good x hx
    simp at hx
    rw [hx]
    exact ⟨e1,N⟩
   have H:=h.once k
   simp only [List.map_append,List.count_append,List.map_cons,List.map_nil]
   by_cases hk:o.key=k
   ·subst hk
    have g1:cnt o.key M.b.all=0:=O
    have J:(M.w.map Ord.key).count o.key=0:=U
    rw [g1,J]
    simp
   rw [List.count_eq_zero.2 (show k ∉ [o.key] by simpa using fun h=>hk h.symm)]
   exact H
  rw [if_neg hw]
  have H:=fun k=>enter_few (o:=o) h.inv k
  refine ⟨(JQY h.inv).1,?_,h.good,fun k=>?_⟩
  ·have D:=(H (0,0)).2
   have h3:=h.few
   by_cases hk:o.k=1∨o.k=5
   ·have:=I (by unfold Ord.may;rcases hk with hk | hk <;> simp [hk])
    unfold Mkt.len at this
    rw [if_pos hk] at D
    simp only
    omega
   rw [if_neg hk] at D
   simp only
   omega
  have D:=(H k).1
  have h3:=h.once k
  by_cases hk:o.key=k
  ·subst hk
   have g1:cnt o.key M.b.all=0:=O
   have J:(M.w.map Ord.key).count o.key=0:=U
   rw [if_pos rfl] at D
   simp only
   omega
  rw [if_neg hk] at D
  simp only
  omega
 rw [if_pos he]
 exact h
theorem InvK.cas {M:Mkt} (h:InvK M):InvK M.cas.2:=cas_ind (P:=InvK) (fun M o h j=>h.next j) _ M (Nat.le_refl _) h
theorem InvK.add {M:Mkt} (h:InvK M) (o:Ord):InvK (M.add o).2:=by
 unfold Mkt.add
 split
 ·exact h.arrive o
 exact (h.arrive o).cas
theorem arrive_no {M:Mkt} (h:InvK M) (o:Ord):M.b.no≤(M.arrive o).2.b.no∧(M.arrive o).2.b.no≤M.b.no+1048576:=by
 unfold Mkt.arrive
 split
 ·simp only;omega
 split
 ·simp only;omega
 exact (JQY h.inv).2
theorem cas_no:∀ (n:Nat) (M:Mkt),M.w.length≤n→InvK M→M.b.no≤M.cas.2.b.no∧M.cas.2.b.no≤M.b.no+1048576*M.w.length
 | 0,M,hn,h=>by
  rw [WZ (List.getElem?_eq_none (by omega))]
  simp only
  omega
 | n+1,M,hn,h=>by
  cases e:M.w[M.trig]? with
  | none=>rw [WZ e];simp only;omega
  | some o=>
   rw [cas_some e]
   have D:=(List.getElem?_eq_some_iff.1 e).1
   have j:(M.next o).w.length=M.w.length-1:=by unfold Mkt.next;simp only;rw [List.length_eraseIdx,if_pos D]
   have H:=cas_no n (M.next o) (by omega) (h.next e)
   have h2:M.b.no≤(M.next o).b.no∧(M.next o).b.no≤M.b.no+1048576:=(JQY (o:=o) h.inv).2
   rw [j] at H
   simp only
   omega
theorem add_no {M:Mkt} (h:InvK M) (o:Ord):M.b.no≤(M.add o).2.b.no∧(M.add o).2.b.no≤M.b.no+70000000:=by
 have h1:=arrive_no h o
 unfold Mkt.add
 split
 ·simp only;omega
 have h2:=cas_no _ _ (Nat.le_refl _) (h.arrive o)
 have h3:=(h.arrive o).few
 simp only
 omega
theorem remove_few {B:Bok} (h:Inv B) (t i:Int) (k:Int × Int):cnt k (B.remove t i).2.2.all≤cnt k B.all∧(B.remove t i).2.2.len≤B.len:=by
 unfold Bok.remove
 have D:=xY t i B.buys h.two.mine
 have j:=xY t i B.sells h.two.theirs
 split
 ·have:=D.cnts k
  have:=D.len
  simp only [Bok.all,Bok.len,YY,List.length_append]
  omega
 split
 ·have:=j.cnts k
  have:=j.len
  simp only [Bok.all,Bok.len,YY,List.length_append]
  omega
 simp only;omega
theorem InvK.remove {M:Mkt} (h:InvK M) (t i:Int):InvK (M.remove t i).2.2∧(M.remove t i).2.2.b.no=M.b.no:=by
 unfold Mkt.remove
 by_cases hb:(M.b.remove t i).2.1=true
 ·rw [if_pos hb]
  obtain ⟨I,j⟩:=inv_remove h.inv t i
  refine ⟨⟨I,?_,h.good,fun k=>?_⟩,j⟩
  ·have H:=h.few
   have:=remove_few h.inv t i (0,0)
   simp only
   omega
  have H:=h.once k
  have:=remove_few h.inv t i k
  simp only
  omega
 rw [if_neg hb]
 cases e:M.w[M.w.findIdx (Ord.is t i)]? with
 | none=>exact ⟨h,rfl⟩
 | some o=>
  have D:=(List.getElem?_eq_some_iff.1 e).1
  refine ⟨⟨h.inv,?_,fun x hx=>h.good x (List.mem_of_mem_eraseIdx hx),fun k=>?_⟩,rfl⟩
  ·have:=h.few
   simp only
   rw [List.length_eraseIdx,if_pos D]
   omega
  have:=h.once k
  have:=erase_cnt e k
  simp only
  omega
def Yz (q:Nat) (v:Value):List Value:=[.pointer (some ⟨q,0,none⟩),v]
structure MkP (w:World) (p q:Nat) (v:Value) (Fb:Nat→Prop) (M:Mkt):Prop where
 blk:Blk w p 55 (Yz q v)
 bk:Bk w Fb q M.b
 sl:Sl w 35 9 v M.w.length (ords M.w)
 nb:¬ Fb p
 nv:∀ b,v.ownBlock=some b→b≠p∧¬ Fb b
def foot (p:Nat) (v:Value) (Fb:Nat→Prop):Nat→Prop:=fun b=>(b=p∨v.ownBlock=some b)∨Fb b
def Mk (w:World) (F:Nat→Prop) (p:Nat) (M:Mkt):Prop:=(∀ b,F b→b<w.heap.size)∧∃ q v Fb,MkP w p q v Fb M∧∀ b,foot p v Fb b→F b
theorem MkP.foot_lt {w:World} {p q:Nat} {v:Value} {D:Nat→Prop} {M:Mkt} (h:MkP w p q v D M):∀ b,foot p v D b→b<w.heap.size:=fun b j=>j.elim (fun j=>j.elim (fun j=>by rw [j];exact h.blk.lt) h.sl.lt) (h.bk.lt b)
theorem MkP.close {w:World} {p q:Nat} {v:Value} {j:Nat→Prop} {M:Mkt} (h:MkP w p q v j M):Mk w (foot p v j) p M:=⟨h.foot_lt,q,v,j,h,fun _ h=>h⟩
theorem MkP.keep {S:Nat→Prop} {w w':World} {p q:Nat} {v:Value} {j:Nat→Prop} {M:Mkt} (h:MkP w p q v j M) (hk:Keep S w w') (D:∀ b,foot p v j b→¬ S b):MkP w' p q v j M:=
 ⟨h.blk.keep hk (D p (.inl (.inl rfl))),h.bk.keep hk (fun b H=>D b (.inr H)),h.sl.keep hk (fun b H=>D b (.inl (.inr H))),h.nb,h.nv⟩
theorem MkP.kept {w w':World} {p q:Nat} {v:Value} {j:Nat→Prop} {M:Mkt} (h:MkP w p q v j M) (hk:Kept w w'):MkP w' p q v j M:=h.keep hk (fun _ _ h=>h)
theorem Mk.keep {S F:Nat→Prop} {w w':World} {p:Nat} {M:Mkt} (h:Mk w F p M) (hk:Keep S w w') (J:∀ b,F b→¬ S b):Mk w' F p M:=by
 obtain ⟨N,q,v,I,H,D⟩:=h
 exact ⟨fun b j=>Nat.lt_of_lt_of_le (N b j) hk.size,q,v,I,H.keep hk (fun b j=>J b (D b j)),D⟩
theorem Mk.kept {F:Nat→Prop} {w w':World} {p:Nat} {M:Mkt} (h:Mk w F p M) (hk:Kept w w'):Mk w' F p M:=h.keep hk (fun _ _ h=>h)
theorem Mk.lt {F:Nat→Prop} {w:World} {p:Nat} {M:Mkt} (h:Mk w F p M):∀ b,F b→b<w.heap.size:=h.1
theorem zeroVO (w:World):(zeroValue 35).run Tryz.prog w=.ok (.agg JV.cells.toArray) w:=by kernel_rfl
theorem append_inO (g off n c k:Nat) (X:List Ord) (v2:Value) (w:World) (hS:Sl w 35 9 (.slice (some ⟨g,off,none⟩) n c) n (ords X)) (hn:X.length=n) (hkn:k<n) (hnc:n≤c) (h2:Sl w 35 9 v2 (n-(k+1)) (ords (X.drop (k+1)))) (ho:v2.ownBlock=some g) (O:TypeId) :
  (Builtin.append_ #[43,43] O #[.slice (some ⟨g,off,none⟩) k c,v2]).run Tryz.prog w=.ok (.slice (some ⟨g,off,none⟩) (n-1) c) (w.setCells g (off+k*9) (ords (X.drop (k+1)))):=by
 obtain ⟨z,hz,hz2,_⟩:=slO.info
 obtain ⟨i0,hi,hz0,D,hzb⟩:=info_parts hz
 have hl:(ords (X.drop (k+1))).length=(n-(k+1))*9:=by rw [ords_len,List.length_drop,hn]
 obtain ⟨_,_,_,U⟩:=hS.setCells (k*9) (ords (X.drop (k+1))) (by rw [hl];omega)
 obtain ⟨hl2,A,d,rfl,_,_,_,h4⟩:=h2
 cases A with
 | none=>simp [Value.ownBlock] at ho
 | some ad=>
  obtain ⟨g2,H,cur2,rfl,J,hle2,I⟩:=h4 _ rfl
  have hr:=run_append_room_cells (P:=Tryz.prog) w 43 O 35 i0 slO.und hi g off k c ⟨g2,H,none⟩ (n-(k+1)) d (ords (X.drop (k+1))) (by rw [D,hl]) (fun j u hu=>by rw [Addr.add_mid];exact jJ J I j u hu) (qx _) (by omega)
   (fun j N=>by rw [D];exact (U j N).1) (fun j N=>by rw [D];exact (U j N).2)
  rw [hr,D,show k+(n-(k+1))=n-1 by omega]
theorem delO_any (g off n c k:Nat) (X:List Ord) (w:World) (hS:Sl w 35 9 (.slice (some ⟨g,off,none⟩) n c) n (ords X)) (hn:X.length=n) (ab:k<n) (hlen:n≤100000000) :
  Calls Tryz.prog 82 #[.slice (some ⟨g,off,none⟩) n c,.int .i64 (k:Int),.int .i64 ((k:Int)+1)] w fun r w'=>r=.returned (.slice (some ⟨g,off,none⟩) (n-1) c)∧Sl w' 35 9 (.slice (some ⟨g,off,none⟩) (n-1) c) (n-1) (ords (X.eraseIdx k))∧Keep (·=g) w w':=by
 have ad:n≤c:=by obtain ⟨_,A,c',e',h1,_⟩:=hS;injection e' with _ _ e3;subst e3;exact h1
 obtain ⟨vx,ak⟩:=run_lhm slO (some ⟨g,off,none⟩) n c k (k+1) (by omega) (by omega) ad
 obtain ⟨v1,a3,au,aq⟩:=yU slO _ n k (by omega) _ w hS
 obtain ⟨v2,af,ae,a7⟩:=jX slO _ n (k+1) (by omega) _ w hS
 have e1:v1=.slice (some ⟨g,off,none⟩) k c:=by
  obtain ⟨z,hz,hz2,_⟩:=slO.info
  obtain ⟨i0,hi,hz0,am,hzb⟩:=info_parts hz
  have:=a3 w
  rw [run_slice_h (P:=Tryz.prog) (w:=w) 43 (some ⟨g,off,none⟩) n c (by rw [slO.elem];exact slO.und) .i64 (k:Int) (by omega) (by omega),slO.elem] at this
  simp [sizeOf,typeInfo,hi,am,sliced,Addr.add] at this
  exact this.symm
 subst e1
 have aa:Hid (∀ w,Sl w 35 9 (.slice (some ⟨g,off,none⟩) n c) n (ords X)→Sl w 35 9 v2 (n-(k+1)) (ords (X.drop (k+1)))):=fun w h=>by
  have:=a7 w _ h
  rw [show (ords X).drop ((k+1)*9)=ords (X.drop (k+1)) from Ux Ord.cells 9 Ord.len9 X (k+1)] at this
  exact this
 have U:=Kj ak
 have ai:=Kj a3
 have a4:=Kj af
 have ag:=Kj ae
 have HS:=Kj hS
 have HN:=Kj hn
 have a1:((k+1:Nat):Int)=(k:Int)+1:=by omega
 rw [a1] at U a4
 clear ak a3 af au ae aq a7 hS hn
 have ar:((k:Int) == (k:Int)+1)=false:=by simp;omega
 go_enter Tryz.func82,Tryz.ntmps82
 go_upto_region 1 with fail
 refine wA 6 [.slice (some ⟨g,off,none⟩) n c,iV (k:Int),iV ((k:Int)+1),.slice (some ⟨g,off,none⟩) n c,iV (n:Int),vx] [8,9,10,11,12,13] (nS 4 (sV rfl (fun a u E D hk=>ZV _ _ _ slO.und (some ⟨g,off,none⟩) n c rfl (dD D 3))) (nS 5 (sV rfl (fun a u E D hk=>exec_slcLHM slO _ _ _ _ _ vx _ _ _ rfl (dD D 0) (dD D 1) (dD D 2) (dD D 4) (U.out u))) nZ)) ?_
 intro w1 k1
 simp only [F8]
 go_upto_region 2 with fail
 refine wA 3 [iV (k:Int),iV ((k:Int)+1),bV false] [14,15,16] (nS 2 (aV rfl (fun a u E D hk=>JY rfl (dD D 0) (dD D 1)) (Ku (by omega))) nZ) ?_
 intro w2 k2
 simp only [F8]
 clear ar
 go_upto_region 4 with fail
 refine wA 3 [.slice (some ⟨g,off,none⟩) n c,iV (n:Int),iV (n:Int)] [18,19,7] (nS 1 (sV rfl (fun a u E D hk=>ZV _ _ _ slO.und (some ⟨g,off,none⟩) n c rfl (dD D 0))) nZ) ?_
 intro w3 k3
 simp only [F8]
 have a5:=(k1.trans k2).trans k3
 clear k1 k2 k3
 go_upto_region 5 with fail
 refine wHp 6 [.slice (some ⟨g,off,none⟩) n c,iV (k:Int),.slice (some ⟨g,off,none⟩) k c,.slice (some ⟨g,off,none⟩) n c,iV ((k:Int)+1),v2] [20,21,22,23,24,25] (nS 2 (sV rfl (fun a u E D hk=>WV slO _ _ _ _ _ rfl (dD D 0) (dD D 1) (ai.out u))) (nS 5 (sV rfl (fun a u E D hk=>ZW slO _ _ _ v2 _ rfl (dD D 3) (dD D 4) (a4.out u))) nZ)) ?_
 intro N k4
 simp only [F8]
 have a2:=a5.trans k4
 have I:=HS.out.kept a2
 have ah:=aa.out N I
 have a9:∀ ty,(Builtin.append_ #[43,43] ty #[.slice (some ⟨g,off,none⟩) k c,v2]).run Tryz.prog N=.ok (.slice (some ⟨g,off,none⟩) (n-1) c) (N.setCells g (off+k*9) (ords (X.drop (k+1)))):=fun ty=>append_inO g off n c k X v2 N I HN.out ab ad ah (by rw [ag.out];rfl) ty
 refine Vj (.slice (some ⟨g,off,none⟩) (n-1) c) (N.setCells g (off+k*9) (ords (X.drop (k+1)))) rfl (QV slO (.tmp 22) (.tmp 25) (.slice (some ⟨g,off,none⟩) k c) v2 rfl (by kernel_rfl) (by kernel_rfl) _ _ (a9 _)) ?_
 simp only [Act.put,sA,sS,sZ]
 refine aT (.slice (some ⟨g,off,none⟩) (n-1) c) ?_
 simp only [Act.put,List.setIfInBounds_toArray,List.set_cons_zero]
 refine Kx ?_
 have j:(ords (X.drop (k+1))).length=(n-(k+1))*9:=by rw [ords_len,List.length_drop,HN.out]
 obtain ⟨H,al,ao,_⟩:=I.setCells (k*9) (ords (X.drop (k+1))) (by rw [j];omega)
 have J:Hid (Sl (N.setCells g (off+k*9) (ords (X.drop (k+1)))) 35 9 (.slice (some ⟨g,off,none⟩) n c) n (ords (X.eraseIdx k++X.drop (n-1)))):=by
  rw [show (ords X).take (k*9)=ords (X.take k) from yY Ord.cells 9 Ord.len9 X k,j,show k*9+(n-(k+1))*9=(n-1)*9 by omega,show (ords X).drop ((n-1)*9)=ords (X.drop (n-1)) from Ux Ord.cells 9 Ord.len9 X (n-1)] at H
  show Sl _ _ _ _ _ _
  rw [List.eraseIdx_eq_take_drop_succ]
  unfold ords at H ⊢
  rw [List.flatMap_append,List.flatMap_append]
  exact H
 have K5:Keep (·=g) w (N.setCells g (off+k*9) (ords (X.drop (k+1)))):=(Keep.mono (T:=(·=g)) a2 (fun _ _ h=>h.elim)).trans al (fun _ _ h=>h)
 generalize N.setCells g (off+k*9) (ords (X.drop (k+1)))=w5 at J K5 ⊢
 clear a9 ah I H al ao a2 a5 k4 aa ai a4 U ag HS j
 obtain ⟨m,hm⟩:∃ m,n-1=m:=⟨_,rfl⟩
 have hmn:n=m+1:=by omega
 rw [hm] at J ⊢
 go_upto_region 6 with fail
 refine wAp 5 [.slice (some ⟨g,off,none⟩) m c,.slice (some ⟨g,off,none⟩) m c,iV (m:Int),iV (n:Int),.slice (some ⟨g,off+m*9,none⟩) (n-m) (c-m)] [27,28,29,30,31] (nS 2 (sV rfl (fun a u E D hk=>ZV _ _ _ slO.und (some ⟨g,off,none⟩) m c rfl (dD D 1))) (nS 4 (sV rfl (fun a u E D hk=>exec_slcLH slO _ _ _ _ _ _ _ rfl (dD D 0) (dD D 2) (dD D 3) (run_lh slO g off m c m n (by omega) (by omega) u))) nZ)) ?_
 intro w6 k6
 simp only [F8]
 obtain ⟨a8,ac,an,O⟩:=(J.out.kept k6).setCells (m*9) JV.cells (by rw [Ord.len9];omega)
 rw [Ord.len9] at O
 have h1:n-m=1:=by omega
 refine Vj (.tuple #[]) (w6.setCells g (off+m*9) JV.cells) rfl (exec_clr1 slO JV.cells zeroVO JV.len9 JV.one1 (.tmp 31) g (off+m*9) (c-m) rfl (by rw [← h1];kernel_rfl) O) ?_
 simp only [Act.put]
 refine Kx ?_
 have a6:Sl (w6.setCells g (off+m*9) JV.cells) 35 9 (.slice (some ⟨g,off,none⟩) m c) m (ords (X.eraseIdx k)):=by
  have h2:=a8.shrink (m:=m) (by omega)
  have h3:(X.eraseIdx k).length=m:=by rw [List.length_eraseIdx,if_pos (by rw [HN.out];exact ab),HN.out];omega
  rw [List.append_assoc,List.take_append_of_le_length (by rw [List.length_take,ords_len,List.length_append,h3];omega),List.take_take,Nat.min_self] at h2
  have h4:(ords (X.eraseIdx k++X.drop m)).take (m*9)=ords (X.eraseIdx k):=by
   rw [show (ords (X.eraseIdx k++X.drop m)).take (m*9)=ords ((X.eraseIdx k++X.drop m).take m) from yY Ord.cells 9 Ord.len9 _ m,List.take_append_of_le_length (by omega),List.take_of_length_le (by omega)]
  rw [h4] at h2
  exact h2
 have aj:=Kj a6
 have K7:Keep (·=g) w (w6.setCells g (off+m*9) JV.cells):=(K5.kept k6).trans ac (fun _ _ h=>h)
 generalize w6.setCells g (off+m*9) JV.cells=w7 at aj K7 ⊢
 clear a8 a6 ac an O K5 J k6
 go_wp2
 go_ret
 rw [hm]
 exact ⟨rfl,aj.out,K7⟩
theorem indexO_any (v : Value) (X : List Ord) (p : Ord → Bool) (f : Nat) (fn : Func) (cs : List Value) (w : World) (hS : Sl w 35 9 v X.length (ords X)) (O : X.length ≤ 100000000) (hf : Tryz.prog.funcs[f]? = some fn) (hn : (fn.name == "runtime.NumGoroutine") = false) (hb : fn.body.isNone = false)
  (hp:∀ u,Kept w u→∀ o:Ord,Gives f ([o.v]++cs).toArray u (.eq (.bool (p o)))):Gives 80 #[v,.func (.func f) #[] cs.toArray] w (.eq (.int .i64 (Vq p X))):=by
 refine QW ?_
 obtain ⟨n,I⟩:∃ n,X.length=n:=⟨_,rfl⟩
 rw [I] at hS O
 have HN:=Kj I
 have HS:=Kj hS
 have HP:=Kj hp
 clear hS hp I
 go_enter Tryz.func80,Tryz.ntmps80
 go_upto_region 1 with fail
 refine wA 3 [v,iV (n:Int),iV 0] [6,7,8] (nS 1 (sV rfl (fun a u E D hk=>Jx _ slO _ _ _ _ rfl (dD D 0) HS.out)) nZ) ?_
 intro w0 k0
 simp only [F8]
 go_wp2_with fail
 go_loopw [8] (fun q wr=>∃ (k:Nat),k≤n∧q=.int .i64 (k:Int)∧Hid (∀ (j:Nat) (x:Ord),j<k→X[j]?=some x→p x=false)∧Kept w wr) (fun q _=>n-(intOf q).toNat)
 case atStart=>exact ⟨0,Nat.zero_le _,rfl,fun j x hj=>(by omega),k0⟩
 obtain ⟨k,hk,rfl,HM,H⟩:=hrel
 by_cases hlt:k<n
 ·obtain ⟨g,off,c,rfl⟩:=HS.out.some_ (by omega)
  obtain ⟨e,he⟩:∃ e,X[k]?=some e:=⟨X[k]'(by rw [HN.out];exact hlt),List.getElem?_eq_getElem (by rw [HN.out];exact hlt)⟩
  have HE:Hid (wr.rangeAt g (off+k*9) e.cells):=JJ (HS.out.rngO k e he) H
  have a1:=Kj he
  clear he
  by_cases hm:p e=true
  ·have HR:Hid (Vq p X=(k:Int)):=by
    show _=_
    have h1:=find_at HM.out a1.out hm
    unfold Vq
    rw [h1,if_pos (by rw [HN.out];exact hlt)]
   go_upto_region 4 with fail
   refine wA 6 [.func (.func f) #[] cs.toArray,.slice (some ⟨g,off,none⟩) n c,iV (k:Int),pV g (off+k*9),e.v,bV true] [11,12,13,14,15,16] (nS 3 (ixV slO (off) n k ((k:Int)) (hlt)) (nS 4 (ldO HE.out) (nS 5 ((fun a u hE U hk=>Zj f ([e.v]++cs).toArray rfl (JQ rfl _) (zV f _ (.tmp 11) [.tmp 15] _ [e.v] cs hf hn hb rfl (dD U 0) (show [a.eval (.tmp 15)]=[e.v] by rw [show a.eval (.tmp 15)=e.v from (dD U 4)])) (by rw [← hm];exact HP.out u (H.trans hk) e))) nZ))) ?_
   intro w1 k1
   simp only [F8]
   have N:=H.trans k1
   clear H k1 hm
   go_wp2
   go_ret
   exact ⟨by rw [HR.out];rfl,N⟩
  have J:p e=false:=by simpa using hm
  have a2:Hid (∀ (j:Nat) (x:Ord),j<k+1→X[j]?=some x→p x=false):=by
   intro j x hj hx
   by_cases hjk:j=k
   ·subst hjk
    rw [a1.out] at hx
    injection hx with hx
    rw [← hx]
    exact J
   exact HM.out j x (by omega) hx
  clear hm
  go_upto_region 4 with fail
  refine wA 6 [.func (.func f) #[] cs.toArray,.slice (some ⟨g,off,none⟩) n c,iV (k:Int),pV g (off+k*9),e.v,bV false] [11,12,13,14,15,16] (nS 3 (ixV slO (off) n k ((k:Int)) (hlt)) (nS 4 (ldO HE.out) (nS 5 ((fun a u hE U hk=>Zj f ([e.v]++cs).toArray rfl (JQ rfl _) (zV f _ (.tmp 11) [.tmp 15] _ [e.v] cs hf hn hb rfl (dD U 0) (show [a.eval (.tmp 15)]=[e.v] by rw [show a.eval (.tmp 15)=e.v from (dD U 4)])) (by rw [← J];exact HP.out u (H.trans hk) e))) nZ))) ?_
  intro w1 k1
  simp only [F8]
  have N:=H.trans k1
  clear H k1 J
  go_wp2
  exact ⟨⟨k+1,by omega,by go_num,a2,N⟩,by simp [intOf];omega⟩
 have HR:Hid (Vq p X=-1):=by
  show _=_
  have h1:=find_no (p:=p) (X:=X) (fun j x hj hx=>HM.out j x (by rw [HN.out] at hj;omega) hx)
  unfold Vq
  rw [h1,if_neg (by omega)]
 clear HM
 go_wp2
 go_ret
 exact ⟨by rw [HR.out];rfl,H⟩
def capP (g1 g2:Nat):List Value:=[.pointer (some ⟨g1,0,none⟩),.pointer (some ⟨g2,0,none⟩)]
def cloP (g1 g2:Nat):Value:=.func (.func 86) #[] (capP g1 g2).toArray
def capT (g:Nat):List Value:=[.pointer (some ⟨g,0,none⟩)]
def cloT (g:Nat):Value:=.func (.func 81) #[] (capT g).toArray
theorem exec_mkP {a:Act} {o:Oper} {u:World} (x y:Operand) (H D:Nat) (j:o.op=.makeFunc (.func 86) #[] #[x,y]) (hx:a.eval x=.pointer (some ⟨H,0,none⟩)) (I:a.eval y=.pointer (some ⟨D,0,none⟩)):(execOp a.eval o).run Tryz.prog u=.ok (.value (cloP H D)) u:=by
 unfold execOp
 simp only [j,Instr.makeFunc,List.map_toArray,List.map_cons,List.map_nil,hx,I]
 rfl
theorem exec_mkT {a:Act} {o:Oper} {u:World} (x:Operand) (g:Nat) (j:o.op=.makeFunc (.func 81) #[] #[x]) (hx:a.eval x=.pointer (some ⟨g,0,none⟩)):(execOp a.eval o).run Tryz.prog u=.ok (.value (cloT g)) u:=by
 unfold execOp
 simp only [j,Instr.makeFunc,List.map_toArray,List.map_cons,List.map_nil,hx]
 rfl
theorem isO_any (e:Ord) (t i:Int) (g1 O:Nat) (w:World) (h1:Blk w g1 3 [.int .i64 t]) (h2:Blk w O 3 [.int .i64 i]):Gives 86 #[e.v,.pointer (some ⟨g1,0,none⟩),.pointer (some ⟨O,0,none⟩)] w (.eq (.bool (e.is t i))):=by
 refine QW ?_
 have H1:=Kj h1
 have H2:=Kj h2
 clear h1 h2
 go_enter Tryz.func86,Tryz.ntmps86
 go_upto_region 0 with fail
 refine tAp 2 [.k (.fresh w.heap.size 35 (e.cells)),bK false] (nS 0 (nV rfl (fun a u E D hk=>⟨_,_,XV 35 _ (e.cells) rfl (eE E),⟨_,rfl,hk.size,Blk.new u _ _⟩,((Keep.refl _ u).alloc _)⟩)) nZ) ?_
 intro gv w1 H J
 rw [dq 2 [3,4]]
 simp only [Fz7]
 have I:(.fresh w.heap.size 35 (e.cells):Kn).p (gv 3) w1:=H 0 3 (by kernel_rfl)
 generalize gv 3=v3 at I ⊢
 clear H
 obtain ⟨g,rfl,hg,hB⟩:=I
 refine Kx ?_
 have HB:=Kj (JX hB)
 have a1:=Kj (H1.out.kept J)
 have N:=Kj (H2.out.kept J)
 clear hB H1 H2
 go_upto_region 1 with fail
 refine tA 11 [pK g 0,iK e.tr,iK t,bK (decide ((e.tr:Int)=(t:Int))),bK (decide ((e.tr:Int)=(t:Int))),.k (.cond (decide ((e.tr:Int)=(t:Int))) (pE g 1)),.k (.cond (decide ((e.tr:Int)=(t:Int))) (iE e.id)),.k (.cond (decide ((e.tr:Int)=(t:Int))) (iE i)),.k (.cond (decide ((e.tr:Int)=(t:Int))) (bE (decide ((e.id:Int)=(i:Int))))),bK ((decide ((e.tr:Int)=(t:Int))) && (decide ((e.id:Int)=(i:Int)))),bK ((decide ((e.tr:Int)=(t:Int))) && (decide ((e.id:Int)=(i:Int))))] [5,6,7,8,9,10,11,12,13,14,4] (nS 1 (ldR HB.out 0) (nS 2 (sV rfl (fun a u E D hk=>JZ 3 Tryz.underlying3 _ ⟨g1,0,none⟩ (.int .i64 t) rfl (eE E) (by rw [(a1.out.kept hk).cell];rfl))) (nS 3 (sV rfl (fun a u E D hk=>JY rfl (dD D 1) (dD D 2))) (nS 5 (fS (iC 6 4 rfl (fun a u E D hk j=>Jz 35 1 1 _ (g) (0) (1) rfl (eE E) (by kernel_rfl) rfl) fz)) (nS 6 (fS (iC 7 4 rfl (fun a u E D hk j=>JZ _ Tryz.underlying3 _ _ _ rfl ((D 5 10 (by kernel_rfl)).1 j) (Xx (JJ HB.out hk) 1 _ rfl)) fz)) (nS 7 (fS (iC 8 4 rfl (fun a u E D hk j=>JZ 3 Tryz.underlying3 _ ⟨O,0,none⟩ (.int .i64 i) rfl (eE E) (by rw [(N.out.kept hk).cell];rfl)) fz)) (nS 8 (fS (iC 9 4 rfl (fun a u E D hk j=>JY rfl ((D 6 11 (by kernel_rfl)).1 j) ((D 7 12 (by kernel_rfl)).1 j)) fz)) (nS 9 (sV rfl (fun a u E D hk=>Qj _ _ _ ((decide ((e.tr:Int)=(t:Int)))) ((decide ((e.id:Int)=(i:Int)))) rfl (dD D 4) (fun U=>((D 8 13 (by kernel_rfl)).1 U)) rfl)) nZ)))))))) ?_
 intro gv w2 H k2
 simp only [Fz7]
 rw [gQ H 10 4 (.bool ((decide ((e.tr:Int)=(t:Int))) && (decide ((e.id:Int)=(i:Int)))))]
 clear H
 go_wp2
 go_ret
 exact ⟨rfl,J.trans k2⟩
theorem trigO_any (e:Ord) (x:Int) (I:Nat) (w:World) (U:Blk w I 3 [.int .i64 x]):Gives 81 #[e.v,.pointer (some ⟨I,0,none⟩)] w (.eq (.bool (e.hit x))):=by
 refine QW ?_
 have H1:=Kj U
 clear U
 go_enter Tryz.func81,Tryz.ntmps81
 go_upto_region 0 with fail
 refine tAp 2 [.k (.fresh w.heap.size 35 (e.cells)),bK false] (nS 0 (nV rfl (fun a u E D hk=>⟨_,_,XV 35 _ (e.cells) rfl (eE E),⟨_,rfl,hk.size,Blk.new u _ _⟩,((Keep.refl _ u).alloc _)⟩)) nZ) ?_
 intro gv w1 N J
 rw [dq 2 [2,3]]
 simp only [Fz7]
 have j:(.fresh w.heap.size 35 (e.cells):Kn).p (gv 2) w1:=N 0 2 (by kernel_rfl)
 generalize gv 2=v2 at j ⊢
 clear N
 obtain ⟨g,rfl,hg,O⟩:=j
 refine Kx ?_
 have HB:=Kj (JX O)
 have H:=Kj (H1.out.kept J)
 clear O H1
 go_upto_region 1 with fail
 refine wA 4 [e.v,iV x,bV (e.hit x),bV (e.hit x)] [4,5,6,3] (nS 0 (ldO HB.out) (nS 1 (sV rfl (fun a u E D hk=>JZ 3 Tryz.underlying3 _ ⟨I,0,none⟩ (.int .i64 x) rfl (eE E) (by rw [(H.out.kept hk).cell];rfl))) (nS 2 (cV Tryz.func50 (fun u hk=>hit_any e x u)) nZ))) ?_
 intro w2 k2
 simp only [F8]
 go_wp2
 go_ret
 exact ⟨rfl,J.trans k2⟩
theorem placeO_any (w:World) (p q:Nat) (v:Value) (W:List Ord) (t i:Int) (hB:Blk w p 55 (Yz q v)) (hS:Sl w 35 9 v W.length (ords W)) (hlen:W.length≤100000):Gives 62 #[.pointer (some ⟨p,0,none⟩),.int .i64 t,.int .i64 i] w (.eq (.int .i64 (Vq (Ord.is t i) W))):=by
 refine QW ?_
 have HB:=Kj hB
 have HS:=Kj hS
 clear hB hS
 go_enter Tryz.func62,Tryz.ntmps62
 go_upto_region 0 with fail
 refine tAp 3 [.k (.fresh w.heap.size 3 ([.int .i64 t])),.k (.fresh w.heap.size 3 ([.int .i64 i])),iK 0] (nS 0 (nV rfl (fun a u E D hk=>⟨_,_,exec_boxi 3 _ (.int .i64 t) rfl (eE E) rfl,⟨_,rfl,hk.size,Blk.new u _ _⟩,((Keep.refl _ u).alloc _)⟩)) (nS 1 (nV rfl (fun a u E D hk=>⟨_,_,exec_boxi 3 _ (.int .i64 i) rfl (eE E) rfl,⟨_,rfl,hk.size,Blk.new u _ _⟩,((Keep.refl _ u).alloc _)⟩)) nZ)) ?_
 intro gv w1 hV k1
 rw [dq 3 [4,5,6]]
 simp only [Fz7]
 have I:(.fresh w.heap.size 3 ([.int .i64 t]):Kn).p (gv 4) w1:=hV 0 4 (by kernel_rfl)
 generalize gv 4=v4 at I ⊢
 have H:(.fresh w.heap.size 3 ([.int .i64 i]):Kn).p (gv 5) w1:=hV 1 5 (by kernel_rfl)
 generalize gv 5=v5 at H ⊢
 clear hV
 obtain ⟨U,rfl,hg1,J⟩:=I
 obtain ⟨N,rfl,hg2,j⟩:=H
 refine Kx ?_
 have a2:=Kj J
 have a1:=Kj j
 have HV:Hid (w1.cell? ⟨p,1,none⟩=some v):=(HB.out.kept k1).cell 1
 have a3:=Kj (HS.out.kept k1)
 clear J j HB HS
 go_upto_region 1 with fail
 refine wAp 6 [pV p 0,pV p 0,pV p 1,v,cloP U N,iV (Vq (Ord.is t i) W)] [7,8,9,10,11,12] (nS 3 (ldC HV.out) (nS 4 (sV rfl (fun a u E D hk=>exec_mkP _ _ U N rfl (eE E) (eE E))) (nS 5 (cV Tryz.func80 (fun u hk=>indexO_any v W (Ord.is t i) 86 _ (capP U N) u (a3.out.kept hk) (by omega) Tryz.func86 (by kernel_rfl) (by kernel_rfl) (fun u2 O o=>isO_any o t i U N u2 ((a2.out.kept hk).kept O) ((a1.out.kept hk).kept O)))) nZ))) ?_
 intro w2 O
 simp only [F8]
 refine aT (.int .i64 (Vq (Ord.is t i) W)) ?_
 simp only [Act.put,sA,sS,sZ]
 refine Kx ?_
 go_wp2
 go_ret
 exact ⟨rfl,k1.trans O⟩
theorem exec_alcI {a:Act} {o:Oper} {u:World} (t:TypeId) (j:o.op=.alloc t) (I:(Tryz.prog.info? t).map (·.zero)=some (some (.int .i64 0))):(execOp a.eval o).run Tryz.prog u=.ok (.value (.pointer (some ⟨u.heap.size,0,none⟩))) (u.alloc (.cells [.int .i64 0].toArray t)):=by
 cases D:Tryz.prog.info? t with
 | none=>simp [D] at I
 | some i=>
  have H:i.zero=some (.int .i64 0):=by simpa [D] using I
  unfold execOp
  simp only [j]
  simp [Instr.alloc,zeroValue,typeInfo,D,H,newVar,Value.cells,go_sem]
theorem triggered_any (w:World) (F:Nat→Prop) (p q:Nat) (v:Value) (B:Bok) (W:List Ord) (hB:Blk w p 55 (Yz q v)) (hK:Bk w F q B) (hS:Sl w 35 9 v W.length (ords W)) (hlen:W.length≤100000):Gives 53 #[.pointer (some ⟨p,0,none⟩)] w (.eq (.int .i64 (Vq (fun o=>o.hit B.last) W))):=by
 refine QW ?_
 have HB:=Kj hB
 have HK:=Kj hK
 have HS:=Kj hS
 have HQ:Hid (w.cell? ⟨p,0,none⟩=some (.pointer (some ⟨q,0,none⟩))):=HB.out.cell 0
 clear hB hS hK
 go_enter Tryz.func53,Tryz.ntmps53
 go_upto_region 1 with fail
 refine wAp 5 [pV p 0,pV p 0,pV p 0,pV q 0,iV B.last] [4,5,6,7,8] (nS 3 (ldC HQ.out) (nS 4 (cV Tryz.func51 (fun u hk=>blast_any u F q B (HK.out.kept hk))) nZ)) ?_
 intro H k1
 simp only [F8]
 refine Vj (.pointer (some ⟨H.heap.size,0,none⟩)) (H.alloc (.cells [.int .i64 0].toArray 3)) rfl (exec_alcI 3 rfl (by kernel_rfl)) ?_
 have J:=Blk.new H 3 [.int .i64 0]
 have O:Kept H (H.alloc (.cells [.int .i64 0].toArray 3)):=(Keep.refl _ H).alloc _
 generalize H.alloc (.cells [.int .i64 0].toArray 3)=w2 at J O ⊢
 refine ZJ 3 H.heap.size 0 3 _ (.int .i64 B.last) _ _ rfl rfl (by kernel_rfl) (by kernel_rfl) (by kernel_rfl) rfl rfl J (by simp) ?_
 intro w3 I N a1
 simp only [Act.put,sA,sS,sZ]
 refine Kx ?_
 have U:Kept w w3:=(k1.trans O).trans' N (by have:=k1.size;omega)
 obtain ⟨g,hg⟩:∃ g,H.heap.size=g:=⟨_,rfl⟩
 rw [hg] at I ⊢
 have HN:Hid (Blk w3 g 3 [.int .i64 B.last]):=I
 have HV:Hid (w3.cell? ⟨p,1,none⟩=some v):=(HB.out.kept U).cell 1
 have a2:=Kj (HS.out.kept U)
 clear J I O N a1 hg HB HS HQ HK
 go_upto_region 2 with fail
 refine wAp 6 [pV p 0,pV p 0,pV p 1,v,cloT g,iV (Vq (fun o=>o.hit B.last) W)] [9,10,11,12,13,14] (nS 3 (ldC HV.out) (nS 4 (sV rfl (fun a u E D hk=>exec_mkT _ g rfl (eE E))) (nS 5 (cV Tryz.func80 (fun u hk=>indexO_any v W (fun o=>o.hit B.last) 81 _ (capT g) u (a2.out.kept hk) (by omega) Tryz.func81 (by kernel_rfl) (by kernel_rfl) (fun u2 O o=>trigO_any o B.last g u2 ((HN.out.kept hk).kept O)))) nZ))) ?_
 intro w4 k4
 simp only [F8]
 refine aT (.int .i64 (Vq (fun o=>o.hit B.last) W)) ?_
 simp only [Act.put,sA,sS,sZ]
 refine Kx ?_
 go_wp2
 go_ret
 exact ⟨rfl,U.trans k4⟩
inductive Tr where
 | done:Tr
 | val (i:Nat) (r:Tr):Tr
 | one (i:Nat) (r:Tr):Tr
 | two (i j:Nat) (r s:Tr):Tr
section
variable {P:Program} {ops:Array Oper} {S:World→Prop} {Q:Exit→Act→World→Prop}
def wpTr (P:Program) (ops:Array Oper) (S:World→Prop) (Q:Exit→Act→World→Prop):Tr→Act→World→Prop
 | .done,a,w=>wpList P ops Q [] a w
 | .val i r,a,w=>∃ o v,ops[i]?=some o∧YieldsIf P ops S o v a∧wpTr P ops S Q r (a.put o.dst v) w
 | .one i r,a,w=>wpOp P ops Q i (fun a' w'=>S w'∧wpTr P ops S Q r a' w') a w
 | .two i j r s,a,w=>wpOp P ops Q i (fun a' w'=>S w'∧wpTr P ops S Q r a' w') a w∧wpOp P ops Q j (fun a' w'=>S w'∧wpTr P ops S Q s a' w') a w
def trB (ops:Array Oper):Tr→Nat→Array Bool→Bool
 | .done,n,ls=>n == 0 && (Region.ready .any ops ls).isEmpty
 | .val i r,n,ls=>n != 0 && (Region.ready .any ops ls).contains i && Region.free .any ops ls i && trB ops r (n-1) (ls.setIfInBounds i true)
 | .one i r,n,ls=>n != 0 && (Region.ready .any ops ls == [i]) && trB ops r (n-1) (ls.setIfInBounds i true)
 | .two i j r s,n,ls=>n != 0 && (Region.ready .any ops ls == [i,j]) && trB ops r (n-1) (ls.setIfInBounds i true) && trB ops s (n-1) (ls.setIfInBounds j true)
theorem X_of_tr (O:Region.noSelect ops=true) (hQ:∀ c a d v w,Q (.panic c) (a.put d v) w→Q (.panic c) a w):∀ (t:Tr) (n:Nat) (J:Array Bool) (a:Act) (w:World),S w→trB ops t n J=true→wpTr P ops S Q t a w→wpX P .any ops Q S (fun _=>false) n J a w
 | .done,n,J,a,w,hS,D,h=>by
  simp only [trB,Bool.and_eq_true,beq_iff_eq,List.isEmpty_iff] at D
  obtain ⟨rfl,D⟩:=D
  exact ⟨D,h⟩
 | .val i r,n,J,a,w,hS,D,h=>by
  obtain ⟨o,v,ho,hy,h⟩:=h
  simp only [trB,Bool.and_eq_true,bne_iff_ne] at D
  obtain ⟨⟨⟨hn,H⟩,hf⟩,D⟩:=D
  obtain ⟨k,rfl⟩:∃ k,n=k+1:=⟨n-1,by omega⟩
  exact wpX_first (Si:=S) ho (Region.noSelect_spec O) (fun c a w=>hQ c a o.dst v w) (fun _ _ _ _ _ _ hw hT=>hT rfl hw) k J a w (Region.free_spec ho hf) (by simpa using H) hy hS (X_of_tr O hQ r k _ _ w hS D h)
 | .one i r,n,J,a,w,hS,D,h=>by
  simp only [trB,Bool.and_eq_true,bne_iff_ne,beq_iff_eq] at D
  obtain ⟨⟨hn,H⟩,D⟩:=D
  obtain ⟨k,rfl⟩:∃ k,n=k+1:=⟨n-1,by omega⟩
  refine ⟨fun h0=>(by rw [h0] at H;cases H),fun j hj=>?_⟩
  obtain rfl:j=i:=by rw [H] at hj;simpa using hj
  exact wpOp_mono (fun N w' ⟨I,U⟩=>⟨fun _ _=>I,X_of_tr O hQ r k _ N w' I D U⟩) h
 | .two i j r s,n,J,a,w,hS,D,h=>by
  simp only [trB,Bool.and_eq_true,bne_iff_ne,beq_iff_eq] at D
  obtain ⟨⟨⟨hn,H⟩,D⟩,hC⟩:=D
  obtain ⟨k,rfl⟩:∃ k,n=k+1:=⟨n-1,by omega⟩
  refine ⟨fun h0=>(by rw [h0] at H;cases H),fun q hq=>?_⟩
  rcases (show q=i∨q=j by rw [H] at hq;simpa using hq) with rfl | rfl
  ·exact wpOp_mono (fun N w' ⟨I,U⟩=>⟨fun _ _=>I,X_of_tr O hQ r k _ N w' I D U⟩) h.1
  exact wpOp_mono (fun N w' ⟨I,U⟩=>⟨fun _ _=>I,X_of_tr O hQ s k _ N w' I hC U⟩) h.2
theorem wp_tree {id:Nat} {a:Act} {w:World} {l:List Oper} (S:World→Prop) (t:Tr) (H:P.follows .mixedOrders=true) (j:(Region.noSelect l.toArray && trB l.toArray t l.length (Array.replicate l.length false))=true)
  (I:S w.drew) (h:wpTr P l.toArray S (NoPanic Q) t a w.drew):(Code.region id l.toArray true).wp P Q a w:=by
 simp only [Bool.and_eq_true] at j
 refine wp_region_noPanic (wp_region_any H ?_)
 have:=X_of_tr (P:=P) (S:=S) j.1 (fun c a d v w h=>(h:False).elim) t _ _ a w.drew I j.2 h
 have D:=wpAny_of_X _ _ _ _ this
 simpa using D
end
section
variable {ops:Array Oper} {S:World→Prop} {Q:Exit→Act→World→Prop} {a:Act} {w:World} {i:Nat} {o:Oper} {r:Tr}
theorem t_done (h:wpList Tryz.prog ops Q [] a w):wpTr Tryz.prog ops S (NoPanic Q) .done a w:=NoPanic.normal h
theorem WQ (v:Value) (D:ops[i]?=some o) (j:Region.wanted o (yielded ops a.tmps)=true) (h:∀ u,S u→(execOp a.eval o).run Tryz.prog u=.ok (.value v) u) (H:wpTr Tryz.prog ops S Q r (a.put o.dst v) w):wpTr Tryz.prog ops S Q (.val i r) a w:=
 ⟨o,v,D,.inl ⟨j,h⟩,H⟩
theorem t_op (I:ops[i]?=some o) (H:Region.wanted o (yielded ops a.tmps)=true) (h:∀ K:Act→World→Prop,(∀ j w',S w'→wpTr Tryz.prog ops S Q r j w'→K j w')→o.wp Tryz.prog a w K Q):wpOp Tryz.prog ops Q i (fun j w'=>S w'∧wpTr Tryz.prog ops S Q r j w') a w:=by
 unfold wpOp
 simp only [I,H,if_true]
 exact .inl (h _ (fun j w' J D=>⟨J,D⟩))
theorem t_new (v:Value) (w':World) (H:ops[i]?=some o) (D:Region.wanted o (yielded ops a.tmps)=true) (h:(execOp a.eval o).run Tryz.prog w=.ok (.value v) w') (J:S w') (I:wpTr Tryz.prog ops S Q r (a.put o.dst v) w'):wpOp Tryz.prog ops Q i (fun N w'=>S w'∧wpTr Tryz.prog ops S Q r N w') a w:=
 t_op H D fun K j=>by
  unfold Oper.wp
  rw [h]
  exact j _ _ J I
theorem t_call (f:Nat) (args:Array Value) (I:ops[i]?=some o) (H:Region.wanted o (yielded ops a.tmps)=true) (h:∀ u,(execOp a.eval o).run Tryz.prog u=.ok (.enter f args) u) (D:Calls Tryz.prog f args w fun e w'=>∃ v,e=.returned v∧S w'∧wpTr Tryz.prog ops S Q r (a.put o.dst v) w'):wpOp Tryz.prog ops Q i (fun U w'=>S w'∧wpTr Tryz.prog ops S Q r U w') a w:=
 t_op I H fun K j=>by
  unfold Oper.wp
  rw [h]
  refine Calls.mono D fun e w' O=>?_
  obtain ⟨v,rfl,N,J⟩:=O
  exact j _ _ N J
theorem t_setS (I:TypeId) (g:Nat) (T:TypeId) (j cells:List Value) (x y:Operand) (ho:ops[i]?=some o) (hw:Region.wanted o (yielded ops a.tmps)=true) (J:o.op=.store I x y) (hx:a.eval x=.pointer (some ⟨g,0,none⟩)) (hy:a.eval y=.agg cells.toArray) (hb:Blk w g T j) (hi:(Tryz.prog.info? I).map (·.size)=some cells.length) (D:j.length=cells.length) (h1:∀ u ∈ cells,u.oneCell'=true)
  (N:∀ w',Blk w' g T cells→Keep (·=g) w w'→S w'∧wpTr Tryz.prog ops S Q r (a.put o.dst undef) w'):wpOp Tryz.prog ops Q i (fun a' w'=>S w'∧wpTr Tryz.prog ops S Q r a' w') a w:=
 t_op ho hw fun K H=>op_store_row w I x y J g cells hx hy T j hb hi D h1 (fun w' O U h4=>H _ _ (N w' O U).1 (N w' O U).2)
end
theorem exec_storeM {a:Act} {o:Oper} {u:World} (H:TypeId) (x y:Operand) (b of:Nat) (cs:List Value) (J:o.op=.store H x y) (O:(Tryz.prog.info? H).map (·.size)=some cs.length) (hx:a.eval x=.pointer (some ⟨b,of,none⟩)) (hy:a.eval y=.agg cs.toArray) (h1:∀ v ∈ cs,v.oneCell'=true) (N:u.there b of cs.length) :
  (execOp a.eval o).run Tryz.prog u=.ok .skip (u.setCells b of cs):=by
 have h:=run_storeCells_cells (P:=Tryz.prog) b of cs 0 u (fun j D=>by simpa using (N j (by simpa using D)).1) (fun j D=>by simpa using (N j (by simpa using D)).2) h1
 cases I:Tryz.prog.info? H with
 | none=>simp [I] at O
 | some i=>
  have U:i.size=cs.length:=by simpa [I] using O
  simp only [Nat.add_zero] at h
  unfold execOp
  simp only [J,hx,hy,Instr.storeAt,Instr.sureAddr,Sem.run_bind,Sem.run_pure,Result.andThen_ok]
  simp [storeVar,sizeOf,typeInfo,I,U,h,Value.cells]
theorem l_setO {ops:Array Oper} {Q:Exit→Act→World→Prop} {a:Act} {w:World} {o:Oper} {rest:List Oper} (g:Nat) (T:TypeId) (e:Ord) (j:List Value) (x y:Operand) (N:Region.wanted o (yielded ops a.tmps)=true) (D:o.op=.store 35 x y) (hx:a.eval x=.pointer (some ⟨g,0,none⟩)) (O:a.eval y=e.v) (I:Blk w g T j) (hl:9≤j.length)
  (J:∀ w',Blk w' g T (e.cells++j.drop 9)→Keep (·=g) w w'→wpList Tryz.prog ops Q rest (a.put o.dst undef) w'):wpList Tryz.prog ops Q (o::rest) a w:=by
 obtain ⟨H,U,h3⟩:=Blk.setCells e.cells 0 w j I (by rw [Ord.len9];omega)
 refine l_store _ N (exec_storeM 35 x y g 0 e.cells D (by rw [Ord.len9];exact JU) hx O (Ord.one1 e) (I.there 0 _ (by rw [Ord.len9];omega))) (J _ ?_ U)
 rw [Ord.len9] at H
 simpa using H
theorem mtake_any (w:World) (p q:Nat) (v:Value) (W:List Ord) (k:Nat) (e:Ord) (hB:Blk w p 55 (Yz q v)) (hS:Sl w 35 9 v W.length (ords W)) (he:W[k]?=some e) (ac:W.length≤100000) (af:∀ b,v.ownBlock=some b→b≠p) :
  Calls Tryz.prog 54 #[.pointer (some ⟨p,0,none⟩),.int .i64 (k:Int)] w fun r w'=>∃ v',r=.returned e.v∧Blk w' p 55 (Yz q v')∧Sl w' 35 9 v' (W.eraseIdx k).length (ords (W.eraseIdx k))∧v'.ownBlock=v.ownBlock∧Keep (fun b=>b=p∨v.ownBlock=some b) w w':=by
 obtain ⟨n,hn⟩:∃ n,W.length=n:=⟨_,rfl⟩
 have ae:k<n:=by rw [← hn];exact (List.getElem?_eq_some_iff.1 he).1
 have aj:(W.eraseIdx k).length=n-1:=by rw [List.length_eraseIdx,if_pos (by omega),hn]
 rw [aj]
 rw [hn] at hS ac
 have HN:=Kj hn
 obtain ⟨g,off,c,rfl⟩:=hS.some_ (by omega)
 have aa:g≠p:=af g rfl
 have hgl:g<w.heap.size:=hS.lt rfl
 have HS:=Kj hS
 have HB:=Kj hB
 have hpl:=hB.lt
 have ao:=Kj he
 clear hS hB he hn aj af
 go_enter Tryz.func54,Tryz.ntmps54
 go_upto_region 0 with fail
 refine tAp 1 [.k (.fresh w.heap.size 35 JV.cells)] (nS 0 (nV rfl (fun a u E D hk=>⟨_,_,QX 35 JV.cells rfl zO,⟨_,rfl,hk.size,Blk.new u _ _⟩,((Keep.refl _ u).alloc _)⟩)) nZ) ?_
 intro gv w0 hV k0
 rw [dq 1 [4]]
 simp only [Fz7]
 have a6:(.fresh w.heap.size 35 JV.cells:Kn).p (gv 4) w0:=hV 0 4 (by kernel_rfl)
 generalize gv 4=v4 at a6 ⊢
 clear hV
 obtain ⟨b4,rfl,hb4,a2⟩:=a6
 refine Kx ?_
 have ab:=Kj a2
 have l4:=a2.lt
 have z0:=k0.size
 have ad:Hid (w0.cell? ⟨p,1,none⟩=some (.slice (some ⟨g,off,none⟩) n c)):=(HB.out.kept k0).cell 1
 have al:Hid (w0.rangeAt g (off+k*9) e.cells):=JJ (HS.out.rngO k e ao.out) k0
 clear a2
 go_upto_region 1 with fail
 refine wAp 7 [pV p 0,pV p 0,pV p 1,.slice (some ⟨g,off,none⟩) n c,iV (k:Int),pV g (off+k*9),e.v] [6,7,8,9,10,11,12] (nS 3 (ldC ad.out) (nS 5 (ixV slO (off) n k ((k:Int)) (ae)) (nS 6 (ldO al.out) nZ))) ?_
 intro w1 k1
 simp only [F8]
 refine nT zO ?_
 intro w2 J a5
 refine sO e (J) ?_
 intro w3 j H a9
 simp only [Act.put,sA,sS,sZ]
 refine Kx ?_
 obtain ⟨b5,h5⟩:∃ x,w1.heap.size=x:=⟨_,rfl⟩
 rw [h5] at J j H ⊢
 have z1:=k1.size
 have K3:Kept w w3:=((k0.trans k1).trans a5).trans' H (by omega)
 have z3:=K3.size
 have ag:=Kj (JX j)
 have a1:=Kj ((ab.out.kept (k1.trans a5)).keep H (fun e=>by omega))
 have ak:Hid (w3.cell? ⟨p,1,none⟩=some (.slice (some ⟨g,off,none⟩) n c)):=(HB.out.kept K3).cell 1
 have ah:=Kj (HB.out.kept K3)
 have a8:=Kj (HS.out.kept K3)
 have l5:=j.lt
 clear J j H a9 a5 k0 k1 HB HS ab ad al
 go_upto_region 2 with fail
 refine wAp 8 [pV p 0,pV p 0,pV p 0,pV p 1,.slice (some ⟨g,off,none⟩) n c,iV (k:Int),iV (k:Int),iV (((k:Int):Int)+(1:Int))] [13,14,15,16,17,18,19,20] (nS 4 (ldC ak.out) (nS 7 (sV rfl (fun a u E D hk=>YQ (p:=((k:Int))) (q:=(1)) (((k:Int):Int)+(1:Int)) rfl (dD D 6) rfl rfl (by omega) (by omega))) nZ)) ?_
 intro w4 k4
 simp only [F8]
 refine cT Tryz.func82 [.slice (some ⟨g,off,none⟩) n c,.int .i64 (k:Int),.int .i64 (((k:Int):Int)+(1:Int))] ?_
 refine (delO_any g off n c k W w4 (a8.out.kept k4) HN.out ae (by omega)).mono ?_
 rintro r w5 ⟨rfl,U,a4⟩
 refine ⟨_,rfl,?_⟩
 refine aT (.pointer (some ⟨p,0,none⟩)) ?_
 refine aT (.pointer (some ⟨p,1,none⟩)) ?_
 refine ZJ 43 p 1 55 (Yz q (.slice (some ⟨g,off,none⟩) n c)) (.slice (some ⟨g,off,none⟩) (n-1) c) _ _ rfl rfl (by kernel_rfl) (by kernel_rfl) (by kernel_rfl) (Zy U) (Xy U) ((ah.out.kept k4).keep a4 (fun e=>aa e.symm)) (by simp [Yz]) ?_
 intro w6 am a3 ar
 simp only [Act.put,sA,sS,sZ]
 refine Kx ?_
 have au:Hid (Blk w6 p 55 (Yz q (.slice (some ⟨g,off,none⟩) (n-1) c))):=am
 have aq:=Kj (U.keep a3 (fun b O e=>aa (by simp [Value.ownBlock] at O;omega)))
 have N:Keep (fun b=>b=p∨g=b) w3 w6:=((Keep.any k4 a4).mono (fun b _ O=>.inr O.symm)).trans a3 (fun b _ O=>.inl O)
 have an:=Kj (QJ ag.out N (fun e=>by omega))
 have a7:=Kj (a1.out.keep N (fun e=>by omega))
 have z6:=N.size
 have K6:Keep (fun b=>b=p∨g=b) w w6:=Keep.any K3 N
 clear U a4 am a3 ar k4 N ag a1 ak ah a8 K3
 go_upto_region 3 with fail
 refine wAp 1 [e.v] [24] (nS 0 (ldO an.out) nZ) ?_
 intro w7 k7
 simp only [F8]
 refine sO e (a7.out.kept k7) ?_
 intro w8 ai I hsw8
 simp only [Act.put]
 refine Kx ?_
 go_wp2
 refine bodyPost_ret (QU (p:=4) rfl _ _ b4 _ e.cells rfl ai Tryz.underlying35 (by rw [Ord.len9];exact JU)) rfl ?_
 refine ⟨.slice (some ⟨g,off,none⟩) (n-1) c,rfl,(au.out.kept k7).keep I (fun e=>by omega),(aq.out.kept k7).keep I (fun b O e=>by simp [Value.ownBlock] at O;omega),rfl,((K6.kept k7).trans I (fun b O e=>by omega)).mono (fun b _ O=>O.elim .inl (fun h=>.inr (by rw [h];rfl)))⟩
theorem mbook_any (w:World) (p q:Nat) (v:Value) (j:Blk w p 55 (Yz q v)):Gives 36 #[.pointer (some ⟨p,0,none⟩)] w (.eq (.pointer (some ⟨q,0,none⟩))):=by
 refine QW ?_
 have H:Hid (w.cell? ⟨p,0,none⟩=some (.pointer (some ⟨q,0,none⟩))):=j.cell 0
 clear j
 go_enter Tryz.func36,Tryz.ntmps36
 go_upto_region 1 with fail
 refine wA 5 [pV p 0,pV p 0,pV p 0,pV q 0,pV q 0] [3,4,5,6,2] (nS 3 (ldC H.out) nZ) ?_
 intro w1 D
 simp only [F8]
 go_wp2
 go_ret
 exact ⟨rfl,D⟩
theorem mlen_any (w:World) (F:Nat→Prop) (p:Nat) (j:Mkt) (h:Mk w F p j) (O:Inv j.b) (H:j.w.length≤100000):Gives 77 #[.pointer (some ⟨p,0,none⟩)] w (.eq (.int .i64 (j.len:Int))):=by
 refine QW ?_
 obtain ⟨_,q,v,Fb,I,_⟩:=h
 have HQ:Hid (w.cell? ⟨p,0,none⟩=some (.pointer (some ⟨q,0,none⟩))):=I.blk.cell 0
 have HV:Hid (w.cell? ⟨p,1,none⟩=some v):=I.blk.cell 1
 have HK:=Kj I.bk
 obtain ⟨n,N⟩:∃ n,j.w.length=n:=⟨_,rfl⟩
 have HS:=Kj I.sl
 rw [N] at HS H
 obtain ⟨m,J⟩:∃ m,j.b.len=m:=⟨_,rfl⟩
 have HM:Hid ((m:Int)+(n:Int)=(j.len:Int)):=by show _=_;unfold Mkt.len;rw [J,N];omega
 have U:=Kj J
 have HI:=Kj O
 have hm64:m≤128:=by have:=O.two.few;rw [← J];unfold Bok.len Bok.all;rw [List.length_append];omega
 clear I N J O
 go_enter Tryz.func77,Tryz.ntmps77
 go_upto_region 1 with fail
 refine wH 12 [pV p 0,pV p 0,pV p 0,pV q 0,iV (m:Int),pV p 0,pV p 0,pV p 1,v,iV (n:Int),iV (((m:Int):Int)+((n:Int):Int)),iV (((m:Int):Int)+((n:Int):Int))] [3,4,5,6,7,8,9,10,11,12,13,2] (nS 3 (ldC HQ.out) (nS 4 (cV Tryz.func93 (fun u hk=>(by rw [← U.out];exact blen_any u Fb q j.b (HK.out.kept hk) HI.out))) (nS 8 (ldC HV.out) (nS 9 (sV rfl (fun a u E D hk=>Jx _ slO _ _ _ _ rfl (dD D 8) (HS.out.kept hk))) (nS 10 (sV rfl (fun a u E D hk=>YQ (p:=((m:Int))) (q:=((n:Int))) (((m:Int):Int)+((n:Int):Int)) rfl (dD D 4) (dD D 9) rfl (by omega) (by omega))) nZ))))) ?_
 intro w1 k1
 simp only [F8]
 go_wp2
 go_ret
 exact ⟨by rw [HM.out];rfl,k1⟩
theorem mayStay_any (w:World) (c:Ord):Gives 76 #[c.v] w (.eq (.bool c.may)):=by
 refine QW ?_
 go_enter Tryz.func76,Tryz.ntmps76
 go_upto_region 0 with fail
 refine tAp 2 [.k (.fresh w.heap.size 35 (c.cells)),bK false] (nS 0 (nV rfl (fun a u E D hk=>⟨_,_,XV 35 _ (c.cells) rfl (eE E),⟨_,rfl,hk.size,Blk.new u _ _⟩,((Keep.refl _ u).alloc _)⟩)) nZ) ?_
 intro gv w1 J U
 rw [dq 2 [1,2]]
 simp only [Fz7]
 have I:(.fresh w.heap.size 35 (c.cells):Kn).p (gv 1) w1:=J 0 1 (by kernel_rfl)
 generalize gv 1=v1 at I ⊢
 clear J
 obtain ⟨g,rfl,hg,O⟩:=I
 refine Kx ?_
 have N:=Kj (JX O)
 clear O
 go_upto_region 1 with fail
 refine tA 14 [pK g 8,iK c.stop,bK (decide ((0:Int)<(c.stop:Int))),bK (decide ((0:Int)<(c.stop:Int))),.k (.cond (!(decide ((0:Int)<(c.stop:Int)))) (pE g 4)),.k (.cond (!(decide ((0:Int)<(c.stop:Int)))) (iE c.k)),.k (.cond (!(decide ((0:Int)<(c.stop:Int)))) (bE (decide ((c.k:Int)=(1:Int))))),bK ((decide ((0:Int)<(c.stop:Int))) || (decide ((c.k:Int)=(1:Int)))),bK ((decide ((0:Int)<(c.stop:Int))) || (decide ((c.k:Int)=(1:Int)))),.k (.cond (!((decide ((0:Int)<(c.stop:Int))) || (decide ((c.k:Int)=(1:Int))))) (pE g 4)),.k (.cond (!((decide ((0:Int)<(c.stop:Int))) || (decide ((c.k:Int)=(1:Int))))) (iE c.k)),.k (.cond (!((decide ((0:Int)<(c.stop:Int))) || (decide ((c.k:Int)=(1:Int))))) (bE (decide ((c.k:Int)=(5:Int))))),bK (((decide ((0:Int)<(c.stop:Int))) || (decide ((c.k:Int)=(1:Int)))) || (decide ((c.k:Int)=(5:Int)))),bK (((decide ((0:Int)<(c.stop:Int))) || (decide ((c.k:Int)=(1:Int)))) || (decide ((c.k:Int)=(5:Int))))] [3,4,5,6,7,8,9,10,11,12,13,14,15,2] (nS 1 (ldR N.out 8) (nS 2 (sV rfl (fun a u E D hk=>QZ rfl (dD D 1) rfl)) (nS 4 (fS (uC 5 3 rfl (fun a u E D hk j=>Jz 35 4 4 _ (g) (0) (4) rfl (eE E) (by kernel_rfl) rfl) fz)) (nS 5 (fS (uC 6 3 rfl (fun a u E D hk j=>JZ _ Tryz.underlying3 _ _ _ rfl ((D 4 7 (by kernel_rfl)).1 j) (Xx (JJ N.out hk) 4 _ rfl)) fz)) (nS 6 (fS (uC 7 3 rfl (fun a u E D hk j=>JY rfl ((D 5 8 (by kernel_rfl)).1 j) rfl) fz)) (nS 7 (sV rfl (fun a u E D hk=>ZY _ _ _ ((decide ((0:Int)<(c.stop:Int)))) ((decide ((c.k:Int)=(1:Int)))) rfl (dD D 3) rfl (fun H=>((D 6 9 (by kernel_rfl)).1 H)))) (nS 9 (fS (uC 10 8 rfl (fun a u E D hk j=>Jz 35 4 4 _ (g) (0) (4) rfl (eE E) (by kernel_rfl) rfl) fz)) (nS 10 (fS (uC 11 8 rfl (fun a u E D hk j=>JZ _ Tryz.underlying3 _ _ _ rfl ((D 9 12 (by kernel_rfl)).1 j) (Xx (JJ N.out hk) 4 _ rfl)) fz)) (nS 11 (fS (uC 12 8 rfl (fun a u E D hk j=>JY rfl ((D 10 13 (by kernel_rfl)).1 j) rfl) fz)) (nS 12 (sV rfl (fun a u E D hk=>ZY _ _ _ (((decide ((0:Int)<(c.stop:Int))) || (decide ((c.k:Int)=(1:Int))))) ((decide ((c.k:Int)=(5:Int)))) rfl (dD D 8) rfl (fun H=>((D 11 14 (by kernel_rfl)).1 H)))) nZ)))))))))) ?_
 intro gv w2 J k2
 simp only [Fz7]
 rw [gQ J 13 2 (.bool (((decide ((0:Int)<(c.stop:Int))) || (decide ((c.k:Int)=(1:Int)))) || (decide ((c.k:Int)=(5:Int)))))]
 clear J
 go_wp2
 go_ret
 exact ⟨rfl,U.trans k2⟩
theorem built_mk (q:Nat):Tryz.prog.built 55 [(0,.pointer (some ⟨q,0,none⟩))]=some (Yz q (.slice none 0 0)).toArray:=by kernel_rfl
theorem mnew_any (w:World):Calls Tryz.prog 4 #[] w fun e w'=>∃ p F,e=.returned (.pointer (some ⟨p,0,none⟩))∧Mk w' F p Mkt.zero∧Grow w (fun _=>False) F∧Kept w w':=by
 go_enter Tryz.func4,Tryz.ntmps4
 go_upto_region 1 with fail
 refine wp_region_lit ?_
 refine cT Tryz.func20 [] ?_
 refine (bnew_any w).mono ?_
 rintro r D ⟨q,F,rfl,I,J,O⟩
 refine ⟨_,rfl,?_⟩
 simp only [Act.put,sA,sS,sZ]
 refine UJ (.agg (Yz q (.slice none 0 0)).toArray) rfl (XZ 55 [(0,.tmp 1)] (Yz q (.slice none 0 0)) rfl (by simp only [List.map_cons,List.map_nil];exact built_mk q)) ?_
 simp only [Act.put,sA,sS,sZ]
 refine Vj (.pointer (some ⟨D.heap.size,0,none⟩)) _ rfl (XV 55 (.tmp 2) (Yz q (.slice none 0 0)) rfl (by kernel_rfl)) ?_
 have H:=Blk.new D 55 (Yz q (.slice none 0 0))
 have N:Kept D (D.alloc (.cells (Yz q (.slice none 0 0)).toArray 55)):=(Keep.refl _ D).alloc _
 generalize D.alloc (.cells (Yz q (.slice none 0 0)).toArray 55)=w2 at H N ⊢
 simp only [Act.put,sA,sS,sZ]
 refine aT (.pointer (some ⟨D.heap.size,0,none⟩)) ?_
 simp only [Act.put,List.setIfInBounds_toArray,List.set_cons_zero]
 refine Kx ?_
 obtain ⟨g,U⟩:∃ x,D.heap.size=x:=⟨_,rfl⟩
 rw [U] at H ⊢
 have z1:=O.size
 have hP:MkP w2 g q (.slice none 0 0) F Mkt.zero:=⟨H,I.kept N,Sl.nil _ _ _,fun h=>by have:=I.lt g h;omega,fun b j=>by simp [Value.ownBlock] at j⟩
 go_wp2
 go_ret
 exact ⟨g,_,rfl,hP.close,fun b j=>by
  rcases j with (j | j) | j
  ·exact .inr (by omega)
  ·simp [Value.ownBlock] at j
  exact J b j,O.trans N⟩
theorem enter_any (w:World) (Fb:Nat→Prop) (p q:Nat) (v:Value) (B:Bok) (e:Ord) (hB:Blk w p 55 (Yz q v)) (hK:Bk w Fb q B) (hp:¬ Fb p) (hI:Inv B) (aE:B.no≤1000000000000) :
  Calls Tryz.prog 52 #[.pointer (some ⟨p,0,none⟩),e.v] w (AddIn w Fb q (B.enter e)):=by
 have ae:=hK.lt
 have HB:=Kj hB
 have HK:=Kj hK
 have HI:=Kj hI
 have hpl:=hB.lt
 obtain ⟨y,hy⟩:∃ y,B.enter e=y:=⟨_,rfl⟩
 obtain ⟨x,B2,hX⟩:∃ x B2,B.add e.free=(x,B2):=⟨_,_,rfl⟩
 have HY:Hid (y=({ x with o:=e },B2)):=by show _=_;rw [← hy];unfold Bok.enter;rw [hX]
 have HX:=Kj hX
 rw [hy]
 clear hB hK hI hX hy
 go_enter Tryz.func52,Tryz.ntmps52
 go_upto_region 0 with fail
 refine tAp 2 [.k (.fresh w.heap.size 35 (e.cells)),.k (.fresh w.heap.size 66 (XU.cells (.slice none 0 0)))] (nS 0 (nV rfl (fun a u E D hk=>⟨_,_,XV 35 _ (e.cells) rfl (eE E),⟨_,rfl,hk.size,Blk.new u _ _⟩,((Keep.refl _ u).alloc _)⟩)) (nS 1 (nV rfl (fun a u E D hk=>⟨_,_,QX 66 (XU.cells (.slice none 0 0)) rfl zC,⟨_,rfl,hk.size,Blk.new u _ _⟩,((Keep.refl _ u).alloc _)⟩)) nZ)) ?_
 intro gv w0 hV k0
 rw [dq 2 [3,4]]
 simp only [Fz7]
 have aR:(.fresh w.heap.size 35 (e.cells):Kn).p (gv 3) w0:=hV 0 3 (by kernel_rfl)
 generalize gv 3=v3 at aR ⊢
 have aC:(.fresh w.heap.size 66 (XU.cells (.slice none 0 0)):Kn).p (gv 4) w0:=hV 1 4 (by kernel_rfl)
 generalize gv 4=v4 at aC ⊢
 clear hV
 obtain ⟨b3,rfl,hb3,ax⟩:=aR
 obtain ⟨b4,rfl,hb4,av⟩:=aC
 refine Kx ?_
 have au:=Kj (JX ax)
 have ai:=Kj av
 have l3:=ax.lt
 have l4:=av.lt
 have z0:=k0.size
 clear ax av
 go_upto_region 1 with fail
 refine wAp 1 [e.v] [7] (nS 0 (ldO au.out) nZ) ?_
 intro w1 k1
 simp only [F8]
 refine nT zO ?_
 intro w2 aa aZ
 refine sO e (aa) ?_
 intro w3 a3 ab aH
 simp only [Act.put,sA,sS,sZ]
 refine Kx ?_
 obtain ⟨b5,h5⟩:∃ x,w1.heap.size=x:=⟨_,rfl⟩
 rw [h5] at aa a3 ab ⊢
 have z1:=k1.size
 have ac:Kept w0 w3:=(k1.trans aZ).trans' ab (by omega)
 have l5:=a3.lt
 have ah:=Kj a3
 have ak:=Kj (ai.out.kept ac)
 have aM:=Kj (JJ au.out ac)
 clear aa a3 ab aH aZ k1 au ai
 have aq:stc (e.l.set 8 0) []=e.free.cells:=rfl
 go_upto_region 2 with fail
 refine wAp 1 [pV b5 8] [8] nZ ?_
 intro b1 aj
 simp only [F8]
 refine xy b5 8 35 e.l [] 0 _ (.const (.int .i64 0)) rfl rfl (by kernel_rfl) rfl (ah.out.kept aj) (by simp [Ord.l]) ?_
 intro j am a4 aL
 simp only [Act.put]
 refine Kx ?_
 have ao:Hid (Blk j b5 35 e.free.cells):=by show Blk _ _ _ _;rw [← aq];exact am
 have a6:Kept w3 b1:=aj
 have K4:Kept w j:=(k0.trans (ac.trans a6)).trans' a4 (by omega)
 have aB:=K4.size
 have z3:=ac.size
 have zw4:=a6.size
 have ag:=Kj ((ak.out.kept a6).keep a4 (fun e=>by omega))
 have aX:=Kj (QJ (JJ aM.out a6) a4 (fun e=>by omega))
 have aY:=Kj (JX ao.out)
 have aG:Hid (j.cell? ⟨p,0,none⟩=some (.pointer (some ⟨q,0,none⟩))):=(HB.out.kept K4).cell 0
 have ay:=Kj (HK.out.kept K4)
 have bb:¬ Fb b5:=fun h=>by have:=ae b5 h;omega
 have ba:¬ Fb b3:=fun h=>by have:=ae b3 h;omega
 have aK:¬ Fb b4:=fun h=>by have:=ae b4 h;omega
 have h34:b3<j.heap.size:=by omega
 have h44:b4<j.heap.size:=by omega
 clear ah ak aM am a4 aL a6 ac k0 ao
 go_upto_region 3 with fail
 go_cut [9,10,11,12,13,14,6] (fun _ _ _ _ _ _ r6 wx=>∃ b6 F2 O,r6=.pointer (some ⟨b6,0,none⟩)∧j.heap.size≤b6∧Blk wx b6 66 (x.cells O)∧Bk wx F2 q B2∧¬ F2 b6∧Sl wx 95 21 O x.f.length (fls x.f)∧(∀ b,O.ownBlock=some b→j.heap.size≤b∧¬ F2 b∧b≠b6)∧Grow j Fb F2∧Keep Fb j wx)
 case first=>
  refine wp_tree (fun u=>Keep Fb j u) (.val 0 (.val 1 (.val 2 (.val 3 (.val 4 (.two 5 6 (.one 6 (.one 7 .done)) (.one 5 (.one 7 .done)))))))) rfl (by kernel_rfl) (Keep.drew (Keep.refl _ j)) ?_
  refine WQ (o:=⟨some 9,_,_,_,_,_⟩) (.pointer (some ⟨p,0,none⟩)) rfl rfl (fun u hu=>Jq (.tmp 0) (.pointer (some ⟨p,0,none⟩)) rfl (by kernel_rfl)) ?_
  simp only [Act.put,sA,sS,sZ]
  refine WQ (o:=⟨some 10,_,_,_,_,_⟩) (.pointer (some ⟨p,0,none⟩)) rfl rfl (fun u hu=>ZU (.tmp 9) ⟨p,0,none⟩ rfl (by kernel_rfl)) ?_
  simp only [Act.put,sA,sS,sZ]
  refine WQ (o:=⟨some 11,_,_,_,_,_⟩) (.pointer (some ⟨p,0,none⟩)) rfl rfl (fun u hu=>Jz 55 0 0 (.tmp 10) p 0 0 rfl (by kernel_rfl) (by kernel_rfl) rfl) ?_
  simp only [Act.put,sA,sS,sZ]
  refine WQ (o:=⟨some 12,_,_,_,_,_⟩) (.pointer (some ⟨q,0,none⟩)) rfl rfl (fun u hu=>exec_ldp 52 _ Tryz.underlying52 (.tmp 11) ⟨p,0,none⟩ (.pointer (some ⟨q,0,none⟩)) rfl (by kernel_rfl) (Keep.cell hu aG.out hp)) ?_
  simp only [Act.put,sA,sS,sZ]
  refine WQ (o:=⟨some 13,_,_,_,_,_⟩) (e.free.v) rfl rfl (fun u hu=>xW 35 _ (.tmp 5) b5 0 e.free.cells rfl (by kernel_rfl) (QJ aY.out hu bb) Tryz.underlying35 (by rw [Ord.len9];exact JU)) ?_
  simp only [Act.put,sA,sS,sZ]
  refine ⟨?_,?_⟩
  ·skip
   refine t_call (o:=⟨some 14,_,_,_,_,_⟩) 79 #[.pointer (some ⟨q,0,none⟩),e.free.v] rfl rfl (Jy 79 _ [.tmp 12,.tmp 13] _ _ Tryz.func79 (by kernel_rfl) (by kernel_rfl) rfl (by kernel_rfl)) ?_
   refine (badd_any j.drew Fb q B e.free (ay.out.kept (Keep.drew (Keep.refl _ j))) HI.out aE).mono ?_
   rintro r w5 ⟨F2,O,rfl,U,I,N,a2,a1⟩
   rw [HX.out] at U I ⊢
   have H:Keep Fb j w5:=Keep.undrew a1
   refine ⟨_,rfl,H,?_⟩
   simp only [Act.put,sA,sS,sZ]
   refine t_new (o:=⟨some 6,_,_,_,_,_⟩) (.pointer (some ⟨w5.heap.size,0,none⟩)) (w5.alloc (.cells (XU.cells (.slice none 0 0)).toArray 66)) rfl rfl (QX 66 (XU.cells (.slice none 0 0)) rfl zC) ?_ ?_
   ·exact (H).alloc _
   have hN:=Blk.new w5 66 (XU.cells (.slice none 0 0))
   have kN:Kept w5 (w5.alloc (.cells (XU.cells (.slice none 0 0)).toArray 66)):=(Keep.refl _ w5).alloc _
   have zN:w5.heap.size<(w5.alloc (.cells (XU.cells (.slice none 0 0)).toArray 66)).heap.size:=hN.lt
   generalize w5.alloc (.cells (XU.cells (.slice none 0 0)).toArray 66)=w5b at hN kN zN ⊢
   simp only [Act.put,sA,sS,sZ]
   refine t_setS (o:=⟨none,_,_,_,_,_⟩) 66 w5.heap.size 66 (XU.cells (.slice none 0 0)) (x.cells O) (.tmp 6) (.tmp 14) rfl rfl rfl (by kernel_rfl) (by kernel_rfl) (hN) (by rw [Oc.len15];exact szC) (by rw [Oc.len15,Oc.len15]) (Oc.one _ _ (Xy I)) ?_
   intro w6 ar a9
   have K6:Keep (·=w5.heap.size) w5 w6:=Keep.any kN a9
   have zz:=H.size
   have aA:=U.lt
   have a7:Keep Fb j w6:=H.new K6 zz
   refine ⟨a7,t_done ?_⟩
   simp only [Act.put]
   refine Kx ?_
   go_wp2
   go_meet
   case rel=>exact ⟨w5.heap.size,F2,O,rfl,zz,ar,U.keep K6 (fun b J e=>by have:=aA b J;omega),fun h=>by have:=aA _ h;omega,I.keep K6 (fun b J e=>by have:=I.lt J;omega),fun b J=>⟨(N b J).1,(N b J).2,fun e=>by have:=I.lt J;omega⟩,a2,a7⟩
  skip
  have aw:Keep Fb j j.drew:=Keep.drew (Keep.refl _ j)
  refine t_new (o:=⟨some 6,_,_,_,_,_⟩) (.pointer (some ⟨j.drew.heap.size,0,none⟩)) (j.drew.alloc (.cells (XU.cells (.slice none 0 0)).toArray 66)) rfl rfl (QX 66 (XU.cells (.slice none 0 0)) rfl zC) ?_ ?_
  ·exact (aw).alloc _
  have hN:=Blk.new j.drew 66 (XU.cells (.slice none 0 0))
  have kN:Kept j.drew (j.drew.alloc (.cells (XU.cells (.slice none 0 0)).toArray 66)):=(Keep.refl _ j.drew).alloc _
  have zN:j.drew.heap.size<(j.drew.alloc (.cells (XU.cells (.slice none 0 0)).toArray 66)).heap.size:=hN.lt
  generalize j.drew.alloc (.cells (XU.cells (.slice none 0 0)).toArray 66)=az at hN kN zN ⊢
  simp only [Act.put,sA,sS,sZ]
  refine t_call (o:=⟨some 14,_,_,_,_,_⟩) 79 #[.pointer (some ⟨q,0,none⟩),e.free.v] rfl rfl (Jy 79 _ [.tmp 12,.tmp 13] _ _ Tryz.func79 (by kernel_rfl) (by kernel_rfl) rfl (by kernel_rfl)) ?_
  refine (badd_any az Fb q B e.free (ay.out.kept (Kept.trans (Keep.drew (Keep.refl _ j)) kN)) HI.out aE).mono ?_
  rintro r w5 ⟨F2,O,rfl,U,I,N,a2,a1⟩
  rw [HX.out] at U I ⊢
  have b2:Kept j az:=Kept.trans (Keep.drew (Keep.refl _ j)) kN
  have H:Keep Fb j w5:=Keep.any b2 a1
  have aN:¬ Fb j.drew.heap.size:=fun h=>by have:=ae _ h;have:j.drew.heap.size=j.heap.size:=rfl;omega
  have b7:=hN.keep a1 aN
  have hd:j.drew.heap.size=j.heap.size:=rfl
  refine ⟨_,rfl,H,?_⟩
  simp only [Act.put,sA,sS,sZ]
  refine t_setS (o:=⟨none,_,_,_,_,_⟩) 66 j.drew.heap.size 66 (XU.cells (.slice none 0 0)) (x.cells O) (.tmp 6) (.tmp 14) rfl rfl rfl (by kernel_rfl) (by kernel_rfl) (b7) (by rw [Oc.len15];exact szC) (by rw [Oc.len15,Oc.len15]) (Oc.one _ _ (Xy I)) ?_
  intro w6 ar a9
  have aQ:¬ F2 j.drew.heap.size:=fun h=>(a2 _ h).elim aN (fun h=>by omega)
  have zz:=H.size
  have a7:Keep Fb j w6:=H.new a9 (by omega)
  refine ⟨a7,t_done ?_⟩
  simp only [Act.put]
  refine Kx ?_
  go_wp2
  go_meet
  case rel=>exact ⟨j.drew.heap.size,F2,O,rfl,by omega,ar,U.keep a9 (fun b J e=>aQ (by rw [← e];exact J)),aQ,I.keep a9 (fun b J e=>by have:=(N b J).1;omega),fun b J=>⟨by have:=(N b J).1;omega,(N b J).2,fun e=>by have:=(N b J).1;omega⟩,fun b J=>(a2 b J).imp id (fun h=>by omega),a7⟩
 obtain ⟨b6,F2,O,rfl,hb6,hC,hK,bc,hS,hO,hG,hk⟩:=hcut
 have aD:=Kj hC
 have aI:=Kj hK
 have aS:=Kj hS
 have ad:=Kj hO
 have b0:¬ F2 b4:=fun h=>(hG b4 h).elim aK (fun h=>by omega)
 have aW:=Kj (QJ aX.out hk ba)
 have an:=Kj (ag.out.keep hk aK)
 have zx:=hk.size
 have HG:Hid (Grow w Fb F2):=hG.wide aB
 have KX:Keep Fb w wc:=Keep.any K4 hk
 clear hC hK hS hO hG hk aX ag aY aG ay
 go_upto_region 4 with fail
 refine wAp 2 [e.v,pV b6 0] [15,16] (nS 0 (ldO aW.out) nZ) ?_
 intro wd kd
 simp only [F8]
 refine l_setO b6 66 e (x.cells O) _ _ rfl rfl (by kernel_rfl) (by kernel_rfl) (aD.out.kept kd) (by rw [Oc.len15];omega) ?_
 intro we af aU
 simp only [Act.put]
 refine Kx ?_
 have al:Blk we b6 66 (({ x with o:=e }:Oc).cells O):=by
  have:(x.cells O).drop 9=(({ x with o:=e }:Oc).cells O).drop 9:=by
   unfold Oc.cells
   rw [List.drop_append_of_le_length (by rw [Ord.len9];omega),List.drop_append_of_le_length (by rw [Ord.len9];omega),List.drop_of_length_le (by rw [Ord.len9];omega),List.drop_of_length_le (by rw [Ord.len9];omega)]
  rw [this] at af
  have h2:e.cells++(({ x with o:=e }:Oc).cells O).drop 9=({ x with o:=e }:Oc).cells O:=by
   unfold Oc.cells
   rw [List.drop_append_of_le_length (by rw [Ord.len9];omega),List.drop_of_length_le (by rw [Ord.len9];omega)]
   rfl
  rw [h2] at af
  exact af
 have b9:=Kj al
 have a5:Keep (·=b6) wc we:=Keep.any kd aU
 have b8:=Kj (aI.out.keep a5 (fun b J e=>bc (by rw [← e];exact J)))
 have aO:=Kj (aS.out.keep a5 (fun b J e=>(ad.out b J).2.2 e))
 have aJ:=Kj (an.out.keep a5 (fun e=>by omega))
 have KE:Keep Fb w we:=KX.new a5 (by omega)
 have z6e:=a5.size
 clear af al aU kd aD aI aS an aW KX a5
 go_upto_region 5 with fail
 refine wAp 1 [({ x with o:=e }:Oc).v O] [17] (nS 0 (ldS Tryz.underlying66 (fun u hk=>JX (b9.out.kept hk)) (by rw [Oc.len15];exact szC)) nZ) ?_
 intro wf kf
 simp only [F8]
 refine YV 66 b4 66 (XU.cells (.slice none 0 0)) (({ x with o:=e }:Oc).cells O) _ _ rfl rfl (by kernel_rfl) (by kernel_rfl) (aJ.out.kept kf) (by rw [Oc.len15];exact szC) (by rw [Oc.len15,Oc.len15]) (Oc.one _ _ (Xy aO.out)) ?_
 intro wg aF a8 hswg
 simp only [Act.put]
 refine Kx ?_
 go_wp2
 refine bodyPost_ret (QU (p:=4) rfl _ _ b4 _ (({ x with o:=e }:Oc).cells O) rfl aF Tryz.underlying66 (by rw [Oc.len15];exact szC)) rfl ?_
 rw [HY.out]
 exact ⟨F2,O,rfl,(b8.out.kept kf).keep a8 (fun b J e=>b0 (by rw [← e];exact J)),(aO.out.kept kf).keep a8 (fun b J e=>by have:=(ad.out b J).1;omega),fun b J=>⟨by have:=(ad.out b J).1;omega,(ad.out b J).2.1⟩,HG.out,(KE.kept kf).new a8 (by omega)⟩
theorem exec_three1 {a:Act} {o:Oper} {u:World} {t T:TypeId} {bytes:Nat} (I:SlT t T 1 bytes) (x y s:Operand) (v1 v2 v3:Value) (H:o.op=.buildSlice t 3 #[(0,x),(1,y),(2,s)]) (hx:a.eval x=v1) (U:a.eval y=v2) (O:a.eval s=v3) (h1:v1.cells=#[v1]) (h2:v2.cells=#[v2]) (h3:v3.cells=#[v3]) :
  (execOp a.eval o).run Tryz.prog u=.ok (.value (.slice (some ⟨u.heap.size,0,none⟩) 3 3)) (u.alloc (.cells [v1,v2,v3].toArray T)):=by
 obtain ⟨z,hz,hz2,_⟩:=I.info
 obtain ⟨J,hi,D,j,hzb⟩:=info_parts hz
 unfold execOp
 simp only [H,List.map_toArray,List.map_cons,List.map_nil,hx,U,O]
 have e:Array.map (fun x=>z.cells[x % z.cells.size]!) (Array.range (3*1))=#[z.cells[0 % z.cells.size]!,z.cells[1 % z.cells.size]!,z.cells[2 % z.cells.size]!]:=by
  apply Array.toList_inj.1
  simp [List.range_succ]
 have N:=run_buildSlice (P:=Tryz.prog) u t T 3 #[(0,v1),(1,v2),(2,v3)] [v1,v2,v3].toArray J z I.und hi D (by rw [j];omega) (by rw [j];omega) (by
  rw [j]
  simp only [Instr.fill,h1,h2,h3,e]
  simp)
 simp only [Sem.run_bind,N,Result.andThen_ok]
 rfl
def Cat3 (w:World) (g:Nat) (X Y W:List Ord):Prop:=∃ v1 v2 v3,Blk w g 43 [v1,v2,v3]∧Sl w 35 9 v1 X.length (ords X)∧Sl w 35 9 v2 Y.length (ords Y)∧Sl w 35 9 v3 W.length (ords W)
theorem Cat3.kept {w w':World} {g:Nat} {X Y W:List Ord} (h:Cat3 w g X Y W) (hk:Kept w w'):Cat3 w' g X Y W:=by
 obtain ⟨v1,v2,v3,H,j,D,I⟩:=h
 exact ⟨v1,v2,v3,H.kept hk,j.kept hk,D.kept hk,I.kept hk⟩
def Kn.cat3 (base:Nat) (X Y W:List Ord):Kn:=⟨fun v w=>∃ g,v=.slice (some ⟨g,0,none⟩) 3 3∧base≤g∧Cat3 w g X Y W,fun _ _ _ ⟨g,h1,h2,h3⟩ hk=>⟨g,h1,h2,h3.kept hk⟩⟩
def cat3P (X Y W:List Ord) (i:Nat):List Ord:=if i=0 then [] else if i=1 then X else if i=2 then X++Y else (X++Y)++W
def cat3E (X Y W:List Ord) (i:Nat):List Ord:=if i=0 then X else if i=1 then Y else W
theorem concat3_any (w:World) (g:Nat) (X Y W:List Ord) (h:Cat3 w g X Y W) (hn:X.length+Y.length+W.length≤1000000):Gives 43 #[.slice (some ⟨g,0,none⟩) 3 3] w (.sl w.heap.size 35 9 ((X++Y)++W).length (ords ((X++Y)++W))):=by
 obtain ⟨v1,v2,v3,j,I,D,H⟩:=h
 exact concatE_any w g 3 (cat3E X Y W) (cat3P X Y W) (fun i J=>by
  rcases (by omega:i=0∨i=1∨i=2) with rfl | rfl | rfl
  ·exact ⟨v1,j.cell 0,I⟩
  ·exact ⟨v2,j.cell 1,D⟩
  ·exact ⟨v3,j.cell 2,H⟩) rfl (fun i J=>by rcases (by omega:i=0∨i=1∨i=2) with rfl | rfl | rfl <;> rfl) (fun i _=>by
  unfold cat3P
  repeat' split
  all_goals (try simp only [List.length_append,List.length_nil])
  all_goals omega) (by omega)
theorem mall_any (w:World) (F:Nat→Prop) (p:Nat) (j:Mkt) (h:Mk w F p j) (U:Inv j.b) (hlen:j.w.length≤100000):Gives 15 #[.pointer (some ⟨p,0,none⟩)] w (.sl w.heap.size 35 9 j.all.length (ords j.all)):=by
 obtain ⟨_,q,v,Fb,O,_⟩:=h
 have HQ:Hid (w.cell? ⟨p,0,none⟩=some (.pointer (some ⟨q,0,none⟩))):=O.blk.cell 0
 have HV:Hid (w.cell? ⟨p,1,none⟩=some v):=O.blk.cell 1
 have HS:=Kj O.sl
 have HK:=Kj O.bk
 have HI:=Kj U
 have J:(XJ j.b.buys).length≤64:=by rw [yV];exact U.two.mine.few
 have N:(XJ j.b.sells).length≤64:=by rw [yV];exact U.two.theirs.few
 have a1:=Kj (And.intro J N)
 clear O U J N
 go_enter Tryz.func15,Tryz.ntmps15
 go_upto_region 1 with fail
 refine tHp 16 [pK p 0,pK p 0,pK p 0,pK q 0,.k (.sl w.heap.size 35 9 (XJ (j.b.sd 1)).length (ords (XJ (j.b.sd 1)))),pK p 0,pK p 0,pK p 0,pK q 0,.k (.sl w.heap.size 35 9 (XJ (j.b.sd 2)).length (ords (XJ (j.b.sd 2)))),pK p 0,pK p 0,pK p 1,.v (v),.k (.cat3 w.heap.size (XJ j.b.buys) (XJ j.b.sells) j.w),.k (.sl w.heap.size 35 9 j.all.length (ords j.all))] (nS 3 (ldC HQ.out) (nS 4 (cV Tryz.func44 (fun u hk=>(borders_any u Fb q j.b 1 (HK.out.kept hk) HI.out).base hk.size)) (nS 8 (ldC HQ.out) (nS 9 (cV Tryz.func44 (fun u hk=>(borders_any u Fb q j.b 2 (HK.out.kept hk) HI.out).base hk.size)) (nS 13 (ldC HV.out) (nS 14 (nV rfl (fun a u E D hk=>⟨_,_,exec_three1 slOO _ _ _ _ _ v rfl rfl rfl (dD D 13) (Zy (D 4 7 (by kernel_rfl)).1) (Zy (D 9 12 (by kernel_rfl)).1) (Zy HS.out),⟨u.heap.size,rfl,hk.size,_,_,_,Blk.new u _ _,(D 4 7 (by kernel_rfl)).1.kept ((Keep.refl _ u).alloc _),(D 9 12 (by kernel_rfl)).1.kept ((Keep.refl _ u).alloc _),(HS.out.kept hk).kept ((Keep.refl _ u).alloc _)⟩,((Keep.refl _ u).alloc _)⟩)) (nS 15 ((fun a u hE hD hk=>Zj 43 #[a.eval (.tmp 17)] rfl (JQ rfl _) (Jy 43 _ [.tmp 17] _ [a.eval (.tmp 17)] Tryz.func43 (by kernel_rfl) (by kernel_rfl) rfl rfl u) ((by obtain ⟨gg,hx,hgb,I⟩:=(hD 14 17 (by kernel_rfl));have hd:=zU (concat3_any u gg _ _ _ I (by have:=a1.out;omega)) hk.size;rw [hx];exact hd)))) nZ))))))) ?_
 intro gv w1 hV k1
 rw [dq 16 [3,4,5,6,7,8,9,10,11,12,13,14,15,16,17,18]]
 simp only [Fz7]
 have H:(.sl w.heap.size 35 9 j.all.length (ords j.all):Kn).p (gv 18) w1:=hV 15 18 (by kernel_rfl)
 generalize gv 18=v18 at H ⊢
 clear hV
 refine aT (v18) ?_
 simp only [Act.put,sA,sS,sZ]
 refine Kx ?_
 go_wp2
 go_ret
 exact ⟨_,rfl,H,k1⟩
theorem mfind_any (w:World) (F:Nat→Prop) (p:Nat) (H:Mkt) (t i:Int) (h:Mk w F p H) (hI:Inv H.b) (aa:H.w.length≤100000):Gives 33 #[.pointer (some ⟨p,0,none⟩),.int .i64 t,.int .i64 i] w (.eq (.tuple #[(H.find t i).1.v,.bool (H.find t i).2])):=by
 refine QW ?_
 obtain ⟨_,q,v,Fb,hP,_⟩:=h
 have HQ:Hid (∀ u,Kept w u→u.cell? ⟨p,0,none⟩=some (.pointer (some ⟨q,0,none⟩))):=fun u k=>(hP.blk.kept k).cell 0
 have HV:Hid (∀ u,Kept w u→u.cell? ⟨p,1,none⟩=some v):=fun u k=>(hP.blk.kept k).cell 1
 have ah:=Kj hP.blk
 have HS:=Kj hP.sl
 have HK:=Kj hP.bk
 have HI:=Kj hI
 obtain ⟨x,b,hx⟩:∃ x b,H.b.find t i=(x,b):=⟨_,_,rfl⟩
 have HX:=Kj hx
 clear hP hI hx
 go_enter Tryz.func33,Tryz.ntmps33
 go_upto_region 0 with fail
 refine tAp 2 [.k (.fresh w.heap.size 35 JV.cells),bK false] (nS 0 (nV rfl (fun a u E D hk=>⟨_,_,QX 35 JV.cells rfl zO,⟨_,rfl,hk.size,Blk.new u _ _⟩,((Keep.refl _ u).alloc _)⟩)) nZ) ?_
 intro gv w0 hV k0
 rw [dq 2 [6,7]]
 simp only [Fz7]
 have ac:(.fresh w.heap.size 35 JV.cells:Kn).p (gv 6) w0:=hV 0 6 (by kernel_rfl)
 generalize gv 6=v6 at ac ⊢
 rw [gQ hV 1 7 (.bool false)]
 clear hV
 obtain ⟨b6,rfl,hb6,a6⟩:=ac
 refine Kx ?_
 have af:=Kj a6
 have l6:=a6.lt
 have z0:=k0.size
 have ab:=Kj (HQ.out w0 k0)
 clear a6
 go_upto_region 1 with fail
 refine wAp 10 [pV p 0,pV p 0,pV p 0,pV q 0,iV t,iV i,.tuple #[x.v,.bool b],.tuple #[x.v,.bool b],x.v,bV b] [12,13,14,15,16,17,18,11,19,20] (nS 3 (ldC ab.out) (nS 6 (cV Tryz.func61 (fun u hk=>(by have h:=bfind_any u Fb q H.b t i (HK.out.kept (k0.trans hk)) HI.out;rw [HX.out] at h;exact h))) nZ)) ?_
 intro w1 k1
 simp only [F8]
 refine nT zO ?_
 intro w2 a1 ag
 refine sO x (a1) ?_
 intro w3 J a2 a8
 refine aT (.bool b) ?_
 simp only [Act.put,sA,sS,sZ]
 refine Kx ?_
 obtain ⟨b8,h8⟩:∃ a,w1.heap.size=a:=⟨_,rfl⟩
 rw [h8] at a1 J a2 ⊢
 have z1:=k1.size
 have a4:Kept w0 w3:=(k1.trans ag).trans' a2 (by omega)
 have K3:Kept w w3:=k0.trans a4
 have z3:=a4.size
 have ad:=Kj (JX J)
 have O:=Kj (af.out.kept a4)
 clear a1 J a2 a8 ag k1 a4 af ab
 cases b with
 | true=>
  have HR:Hid (H.find t i=(x,true)):=by show _=_;unfold Mkt.find;rw [HX.out];rfl
  go_upto_region 3 with fail
  refine wAp 1 [x.v] [22] (nS 0 (ldO ad.out) nZ) ?_
  intro w4 k4
  simp only [F8]
  refine sO x (O.out.kept k4) ?_
  intro w5 a9 a7 hsw5
  refine aT (.bool true) ?_
  simp only [Act.put,sA,sS,sZ]
  refine Kx ?_
  go_wp2
  refine bodyPost_ret (Qq (p:=6) (q:=7) rfl _ _ b6 _ x.cells true rfl rfl a9 Tryz.underlying35 (by rw [Ord.len9];exact JU)) rfl ?_
  rw [HR.out]
  exact ⟨rfl,(K3.trans k4).trans' a7 (by omega)⟩
 | false=>
  have HR:Hid (H.find t i=qq t i H.w):=by show _=_;unfold Mkt.find;rw [HX.out];rfl
  obtain ⟨j,hj⟩:∃ j,Vq (Ord.is t i) H.w=j:=⟨_,rfl⟩
  have HJ:=Kj hj
  go_upto_region 4 with fail
  refine wA 5 [pV p 0,iV t,iV i,iV j,iV j] [23,24,25,26,10] (nS 3 (cV Tryz.func62 (fun u hk=>(by rw [← HJ.out];exact placeO_any u p q v H.w t i (ah.out.kept (K3.trans hk)) (HS.out.kept (K3.trans hk)) aa))) nZ) ?_
  intro w4 k4
  simp only [F8]
  have K4:=K3.trans k4
  have a5:=Kj (O.out.kept k4)
  have z4:=k4.size
  clear O ad k4
  cases hw:H.w[H.w.findIdx (Ord.is t i)]? with
  | none=>
   have a3:j=-1:=by rw [← hj];exact xx hw
   have HE:Hid (qq t i H.w=(JV,false)):=by show _=_;unfold qq;rw [hw]
   subst a3
   clear hj hw
   go_upto_region 5 with fail
   refine wA 2 [iV (-1),bV false] [27,28] (nS 1 (aV rfl (fun a u E D hk=>WJ rfl (dD D 0) rfl) (by decide)) nZ) ?_
   intro w5 k5
   simp only [F8]
   have I:=Kj (a5.out.kept k5)
   have z5:=k5.size
   go_upto_region 7 with fail
   refine wAp 1 [JV.v] [36] (nS 0 (sV rfl (fun a u E D hk=>XZ 35 [] JV.cells rfl (by kernel_rfl))) nZ) ?_
   intro w6 k6
   simp only [F8]
   refine sO JV (I.out.kept k6) ?_
   intro w7 U N ae
   refine aT (.bool false) ?_
   simp only [Act.put,sA,sS,sZ]
   refine Kx ?_
   go_wp2
   refine bodyPost_ret (Qq (p:=6) (q:=7) rfl _ _ b6 _ JV.cells false rfl rfl U Tryz.underlying35 (by rw [Ord.len9];exact JU)) rfl ?_
   rw [HR.out,HE.out]
   exact ⟨rfl,((K4.trans k5).trans k6).trans' N (by omega)⟩
  | some e=>
   have a3:j=(H.w.findIdx (Ord.is t i):Int):=by rw [← hj];exact yX hw
   have HE:Hid (qq t i H.w=(e,true)):=by show _=_;unfold qq;rw [hw]
   obtain ⟨n,hn⟩:∃ n,H.w.length=n:=⟨_,rfl⟩
   obtain ⟨k,hk⟩:∃ k,H.w.findIdx (Ord.is t i)=k:=⟨_,rfl⟩
   rw [hk] at a3 hw
   have ak:k<n:=by rw [← hn];exact (List.getElem?_eq_some_iff.1 hw).1
   subst a3
   rw [hn] at HS
   obtain ⟨g,off,c,rfl⟩:=HS.out.some_ (by omega)
   have aj:Hid (∀ u,Kept w u→u.rangeAt g (off+k*9) e.cells):=fun u ku=>JJ (HS.out.rngO k e hw) ku
   clear hj hw hk hn
   go_upto_region 5 with fail
   refine wA 2 [iV (k:Int),bV true] [27,28] (nS 1 (aV rfl (fun a u E D hk=>WJ rfl (dD D 0) rfl) (Ky (by omega))) nZ) ?_
   intro w5 k5
   simp only [F8]
   have I:=Kj (a5.out.kept k5)
   have z5:=k5.size
   have K5:=K4.trans k5
   have ai:=Kj (HV.out w5 K5)
   have al:=Kj (aj.out w5 K5)
   go_upto_region 6 with fail
   refine wAp 7 [pV p 0,pV p 0,pV p 1,.slice (some ⟨g,off,none⟩) n c,iV (k:Int),pV g (off+k*9),e.v] [29,30,31,32,33,34,35] (nS 3 (ldC ai.out) (nS 5 (ixV slO (off) n k ((k:Int)) (ak)) (nS 6 (ldO al.out) nZ))) ?_
   intro w6 k6
   simp only [F8]
   refine sO e (I.out.kept k6) ?_
   intro w7 U N ae
   refine aT (.bool true) ?_
   simp only [Act.put,sA,sS,sZ]
   refine Kx ?_
   go_wp2
   refine bodyPost_ret (Qq (p:=6) (q:=7) rfl _ _ b6 _ e.cells true rfl rfl U Tryz.underlying35 (by rw [Ord.len9];exact JU)) rfl ?_
   rw [HR.out,HE.out]
   exact ⟨rfl,(K5.trans k6).trans' N (by omega)⟩
theorem remove_off {B:Bok} {t i:Int} (h:(B.remove t i).2.1=false):(B.remove t i).2.2=B:=by
 unfold Bok.remove at h ⊢
 split
 ·rename_i h1
  rw [if_pos h1] at h
  cases h
 rename_i h1
 rw [if_neg h1] at h
 split
 ·rename_i h2
  rw [if_pos h2] at h
  cases h
 rfl
theorem mremove_any (w:World) (F:Nat→Prop) (p:Nat) (I:Mkt) (t i:Int) (h:Mk w F p I) (hI:Inv I.b) (am:I.w.length≤100000):Calls Tryz.prog 38 #[.pointer (some ⟨p,0,none⟩),.int .i64 t,.int .i64 i] w fun r w'=>∃ F',r=.returned (.tuple #[(I.remove t i).1.v,.bool (I.remove t i).2.1])∧Mk w' F' p (I.remove t i).2.2∧Grow w F F'∧Keep F w w':=by
 obtain ⟨hFl,q,v,Fb,U,aN⟩:=h
 have hft:=U.foot_lt
 have J:=Kj U
 have HQ:Hid (∀ u,Kept w u→u.cell? ⟨p,0,none⟩=some (.pointer (some ⟨q,0,none⟩))):=fun u k=>(U.blk.kept k).cell 0
 have HI:=Kj hI
 have ab:=Kj aN
 obtain ⟨x,b,B2,hx⟩:∃ x b B2,I.b.remove t i=(x,b,B2):=⟨_,_,_,rfl⟩
 have HX:=Kj hx
 have hpl:=U.blk.lt
 have ay:=U.bk.lt
 clear U hI hx
 go_enter Tryz.func38,Tryz.ntmps38
 go_upto_region 0 with fail
 refine tAp 2 [.k (.fresh w.heap.size 35 JV.cells),bK false] (nS 0 (nV rfl (fun a u E D hk=>⟨_,_,QX 35 JV.cells rfl zO,⟨_,rfl,hk.size,Blk.new u _ _⟩,((Keep.refl _ u).alloc _)⟩)) nZ) ?_
 intro gv w0 hV k0
 rw [dq 2 [6,7]]
 simp only [Fz7]
 have aF:(.fresh w.heap.size 35 JV.cells:Kn).p (gv 6) w0:=hV 0 6 (by kernel_rfl)
 generalize gv 6=v6 at aF ⊢
 rw [gQ hV 1 7 (.bool false)]
 clear hV
 obtain ⟨b6,rfl,hb6,au⟩:=aF
 refine Kx ?_
 have aI:=Kj au
 have l6:=au.lt
 have z0:=k0.size
 have aE:=Kj (HQ.out w0 k0)
 have aK:¬ Fb b6:=fun h=>by have:=ay b6 h;omega
 clear au
 go_upto_region 1 with fail
 refine wAp 6 [pV p 0,pV p 0,pV p 0,pV q 0,iV t,iV i] [12,13,14,15,16,17] (nS 3 (ldC aE.out) nZ) ?_
 intro w1 k1
 simp only [F8]
 refine cT Tryz.func68 [.pointer (some ⟨q,0,none⟩),.int .i64 t,.int .i64 i] ?_
 refine (bremove_any w1 Fb q I.b t i (J.out.bk.kept (k0.trans k1)) HI.out).mono ?_
 rintro r w2 ⟨F2,rfl,an,ao,ah⟩
 rw [HX.out] at an
 refine ⟨.tuple #[x.v,.bool b],by rw [HX.out],?_⟩
 refine aT (.tuple #[x.v,.bool b]) ?_
 refine aT (x.v) ?_
 refine aT (.bool b) ?_
 refine nT zO ?_
 intro w3 a8 aw
 refine sO x (a8) ?_
 intro w4 a5 aa aB
 refine aT (.bool b) ?_
 simp only [Act.put,sA,sS,sZ]
 refine Kx ?_
 obtain ⟨b8,h8⟩:∃ a,w2.heap.size=a:=⟨_,rfl⟩
 rw [h8] at a8 a5 aa ⊢
 have z1:=k1.size
 have z2:=ah.size
 have l8:=a5.lt
 have ai:Kept w2 w4:=aw.trans' aa (by omega)
 have aG:=Kj (JX a5)
 have a6:=Kj (((aI.out.kept k1).keep ah aK).kept ai)
 have K4:Keep Fb w w4:=(Keep.any (k0.trans k1) ah).kept ai
 have HG:Hid (Grow w Fb F2):=ao.wide (k0.trans k1).size
 have ag:p≠b6:=by omega
 have ae:=Kj (J.out.blk.keep K4 J.out.nb)
 have af:=Kj (J.out.sl.keep K4 (fun b H=>(J.out.nv b H).2))
 have av:=Kj (an.kept ai)
 have z4:=K4.size
 have a7:¬ F2 b6:=fun h=>(ao b6 h).elim aK (fun h=>by omega)
 have a2:¬ F2 p:=fun h=>(HG.out p h).elim J.out.nb (fun h=>by omega)
 have O:Hid (∀ b,v.ownBlock=some b→b≠p∧¬ F2 b):=fun b H=>⟨(J.out.nv b H).1,fun h=>(HG.out b h).elim (J.out.nv b H).2 (fun h=>by have:=J.out.sl.lt H;omega)⟩
 have a9:Hid (Grow w F (foot p v F2)):=fun b H=>by
  rcases H with H | H
  ·exact .inl (ab.out b (.inl H))
  exact (HG.out b H).imp (fun h=>ab.out b (.inr h)) id
 have aq:Keep F w w4:=K4.mono (fun b _ H=>ab.out b (.inr H))
 have aL:∀ b,v.ownBlock=some b→b≠b6:=fun b H e=>by have:=J.out.sl.lt H;omega
 have ad:=Kj aL
 clear an ao ah a8 a5 aa aB aw ai aI aE k1 aL
 cases b with
 | true=>
  have HR:Hid (I.remove t i=(x,true,⟨B2,I.w⟩)):=by show _=_;unfold Mkt.remove;rw [HX.out];rfl
  go_upto_region 3 with fail
  refine wAp 1 [x.v] [22] (nS 0 (ldO aG.out) nZ) ?_
  intro w5 k5
  simp only [F8]
  refine sO x (a6.out.kept k5) ?_
  intro w6 aC a4 hsw6
  refine aT (.bool true) ?_
  simp only [Act.put,sA,sS,sZ]
  refine Kx ?_
  go_wp2
  refine bodyPost_ret (Qq (p:=6) (q:=7) rfl _ _ b6 _ x.cells true rfl rfl aC Tryz.underlying35 (by rw [Ord.len9];exact JU)) rfl ?_
  rw [HR.out]
  have U:MkP w6 p q v F2 ⟨B2,I.w⟩:=⟨(ae.out.kept k5).keep a4 ag,(av.out.kept k5).keep a4 (fun b H e=>a7 (by rw [← e];exact H)),(af.out.kept k5).keep a4 (fun b H=>ad.out b H),a2,O.out⟩
  have z5:=k5.size
  have KF:Keep F w w6:=(aq.kept k5).new a4 (by omega)
  first | exact ⟨rfl,_,U.close,a9.out,KF⟩ | exact ⟨_,rfl,U.close,a9.out,KF⟩
 | false=>
  have aM:B2=I.b:=by have:=remove_off (B:=I.b) (t:=t) (i:=i) (by rw [HX.out]);rw [HX.out] at this;exact this
  subst aM
  obtain ⟨j,hj⟩:∃ j,Vq (Ord.is t i) I.w=j:=⟨_,rfl⟩
  have HJ:=Kj hj
  go_upto_region 4 with fail
  refine wA 5 [pV p 0,iV t,iV i,iV j,iV j] [23,24,25,26,10] (nS 3 (cV Tryz.func62 (fun u hk=>(by rw [← HJ.out];exact placeO_any u p q v I.w t i (ae.out.kept hk) (af.out.kept hk) am))) nZ) ?_
  intro w5 k5
  simp only [F8]
  have aH:=Kj (ae.out.kept k5)
  have aD:=Kj (af.out.kept k5)
  have az:=Kj (av.out.kept k5)
  have al:=Kj (a6.out.kept k5)
  have ax:=aq.kept k5
  have K5:=K4.kept k5
  have z5:=k5.size
  clear ae af av a6 aG k5 aq K4
  cases hw:I.w[I.w.findIdx (Ord.is t i)]? with
  | none=>
   have ac:j=-1:=by rw [← hj];exact xx hw
   have HR:Hid (I.remove t i=(JV,false,I)):=by show _=_;unfold Mkt.remove;rw [HX.out,hw];rfl
   subst ac
   clear hj hw
   go_upto_region 5 with fail
   refine wA 2 [iV (-1),bV false] [27,28] (nS 1 (aV rfl (fun a u E D hk=>WJ rfl (dD D 0) rfl) (by decide)) nZ) ?_
   intro w6 k6
   simp only [F8]
   have z6:=k6.size
   go_upto_region 7 with fail
   refine wAp 1 [JV.v] [32] (nS 0 (sV rfl (fun a u E D hk=>XZ 35 [] JV.cells rfl (by kernel_rfl))) nZ) ?_
   intro w7 k7
   simp only [F8]
   refine sO JV ((al.out.kept k6).kept k7) ?_
   intro w8 aJ a1 hsw8
   refine aT (.bool false) ?_
   simp only [Act.put,sA,sS,sZ]
   refine Kx ?_
   go_wp2
   refine bodyPost_ret (Qq (p:=6) (q:=7) rfl _ _ b6 _ JV.cells false rfl rfl aJ Tryz.underlying35 (by rw [Ord.len9];exact JU)) rfl ?_
   rw [HR.out]
   have N:=k6.trans k7
   have U:MkP w8 p q v F2 I:=⟨(aH.out.kept N).keep a1 ag,(az.out.kept N).keep a1 (fun b H e=>a7 (by rw [← e];exact H)),(aD.out.kept N).keep a1 (fun b H=>ad.out b H),a2,O.out⟩
   have z7:=N.size
   have KF:Keep F w w8:=(ax.kept N).new a1 (by omega)
   first | exact ⟨rfl,_,U.close,a9.out,KF⟩ | exact ⟨_,rfl,U.close,a9.out,KF⟩
  | some e=>
   have ac:j=(I.w.findIdx (Ord.is t i):Int):=by rw [← hj];exact yX hw
   obtain ⟨k,hk⟩:∃ k,I.w.findIdx (Ord.is t i)=k:=⟨_,rfl⟩
   rw [hk] at ac
   have HR:Hid (I.remove t i=(e,true,⟨I.b,I.w.eraseIdx k⟩)):=by show _=_;unfold Mkt.remove;rw [HX.out,hw,hk];rfl
   rw [hk] at hw
   have aO:=Kj hw
   subst ac
   clear hj hw hk
   go_upto_region 5 with fail
   refine wA 2 [iV (k:Int),bV true] [27,28] (nS 1 (aV rfl (fun a u E D hk=>WJ rfl (dD D 0) rfl) (Ky (by omega))) nZ) ?_
   intro w6 k6
   simp only [F8]
   have z6:=k6.size
   go_upto_region 6 with fail
   refine wAp 2 [pV p 0,iV (k:Int)] [29,30] nZ ?_
   intro w7 k7
   simp only [F8]
   refine cT Tryz.func54 [.pointer (some ⟨p,0,none⟩),.int .i64 (k:Int)] ?_
   refine (mtake_any w7 p q v I.w k e (aH.out.kept (k6.trans k7)) (aD.out.kept (k6.trans k7)) aO.out am (fun b H=>(O.out b H).1)).mono ?_
   rintro r w8 ⟨v',rfl,aS,aR,ar,aj⟩
   refine ⟨_,rfl,?_⟩
   refine sO e (((al.out.kept (k6.trans k7)).keep aj (fun e=>e.elim (fun e=>ag e.symm) (fun e=>ad.out _ e rfl)))) ?_
   intro w9 aA a3 hsw9
   refine aT (.bool true) ?_
   simp only [Act.put,sA,sS,sZ]
   refine Kx ?_
   have N:=k6.trans k7
   have aQ:∀ b,F2 b→¬ (b=p∨v.ownBlock=some b):=fun b H e=>e.elim (fun e=>a2 (by rw [← e];exact H)) (fun e=>(O.out b e).2 H)
   go_wp2
   refine bodyPost_ret (Qq (p:=6) (q:=7) rfl _ _ b6 _ e.cells true rfl rfl aA Tryz.underlying35 (by rw [Ord.len9];exact JU)) rfl ?_
   rw [HR.out]
   have U:MkP w9 p q v' F2 ⟨I.b,I.w.eraseIdx k⟩:=⟨aS.keep a3 ag,((az.out.kept N).keep aj aQ).keep a3 (fun b H e=>a7 (by rw [← e];exact H)),aR.keep a3 (fun b H=>ad.out b (by rw [← ar];exact H)),a2,fun b H=>O.out b (by rw [← ar];exact H)⟩
   have z7:=N.size
   have z8:=aj.size
   have KF:Keep F w w9:=((ax.kept N).trans aj (fun b _ H=>H.elim (fun h=>ab.out b (.inl (.inl h))) (fun h=>ab.out b (.inl (.inr h))))).new a3 (by omega)
   have ak:Grow w F (foot p v' F2):=fun b H=>a9.out b (H.imp (fun h=>h.imp id (fun h=>by rw [← ar];exact h)) id)
   first | exact ⟨rfl,_,U.close,ak,KF⟩ | exact ⟨_,rfl,U.close,ak,KF⟩
theorem mrefusal_any (w:World) (F:Nat→Prop) (p:Nat) (I:Mkt) (o:Ord) (h:Mk w F p I) (hI:Inv I.b) (H:I.w.length≤100000):Gives 49 #[.pointer (some ⟨p,0,none⟩),o.v] w (.eq (.int .i64 (I.err o))):=by
 refine QW ?_
 have HM:=Kj h
 have HI:=Kj hI
 obtain ⟨e,he⟩:∃ e,I.err o=e:=⟨_,rfl⟩
 have HE:=Kj he
 rw [he]
 clear h hI he
 go_enter Tryz.func49,Tryz.ntmps49
 go_upto_region 0 with fail
 refine tAp 2 [.k (.fresh w.heap.size 35 (o.cells)),iK 0] (nS 0 (nV rfl (fun a u E D hk=>⟨_,_,XV 35 _ (o.cells) rfl (eE E),⟨_,rfl,hk.size,Blk.new u _ _⟩,((Keep.refl _ u).alloc _)⟩)) nZ) ?_
 intro gv w0 hV k0
 rw [dq 2 [3,4]]
 simp only [Fz7]
 have ab:(.fresh w.heap.size 35 (o.cells):Kn).p (gv 3) w0:=hV 0 3 (by kernel_rfl)
 generalize gv 3=v3 at ab ⊢
 rw [gQ hV 1 4 (.int .i64 0)]
 clear hV
 obtain ⟨b3,rfl,hb3,a6⟩:=ab
 refine Kx ?_
 have HO:=Kj (JX a6)
 have l3:=a6.lt
 have z0:=k0.size
 clear a6
 cases hr:o.right with
 | false=>
  have J:o.err≠0:=by unfold Ord.err;rw [hr];decide
  have af:e=1:=by rw [← HE.out];unfold Mkt.err;rw [if_pos hr]
  subst af
  clear hr
  go_upto_region 1 with fail
  refine wA 3 [o.v,iV o.err,bV true] [7,8,9] (nS 0 (ldO HO.out) (nS 1 (cV Tryz.func35 (fun u hk=>qJ o u)) (nS 2 (aV rfl (fun a u E D hk=>Xj rfl (dD D 1) rfl) (Ky J)) nZ))) ?_
  intro w1 k1
  simp only [F8]
  clear HO J
  go_wp2
  go_ret
  exact ⟨rfl,k0.trans k1⟩
 | true=>
  have J:¬ o.err≠0:=by unfold Ord.err;rw [hr];decide
  have a9:=Kj hr
  clear hr
  go_upto_region 1 with fail
  refine wA 3 [o.v,iV o.err,bV false] [7,8,9] (nS 0 (ldO HO.out) (nS 1 (cV Tryz.func35 (fun u hk=>qJ o u)) (nS 2 (aV rfl (fun a u E D hk=>Xj rfl (dD D 1) rfl) (Ku J)) nZ))) ?_
  intro w1 k1
  simp only [F8]
  have a8:=k0.trans k1
  have z1:=k1.size
  have O:=Kj (JJ HO.out k1)
  obtain ⟨x,b,hx⟩:∃ x b,I.find o.tr o.id=(x,b):=⟨_,_,rfl⟩
  have HX:=Kj hx
  clear HO J hx
  go_upto_region 3 with fail
  refine wAp 9 [pV p 0,pV b3 0,iV o.tr,pV b3 1,iV o.id,.tuple #[x.v,.bool b],.tuple #[x.v,.bool b],x.v,bV b] [11,12,13,14,15,16,10,17,18] (nS 2 (ldR O.out 0) (nS 4 (ldR O.out 1) (nS 5 (cV Tryz.func33 (fun u hk=>(by have h:=mfind_any u F p I o.tr o.id (HM.out.kept (a8.trans hk)) HI.out H;rw [HX.out] at h;exact h))) nZ))) ?_
  intro w2 k2
  simp only [F8]
  refine nT zO ?_
  intro w3 U a7
  refine sO x (U) ?_
  intro w4 ac a1 aa
  refine aT (.bool b) ?_
  simp only [Act.put,sA,sS,sZ]
  refine Kx ?_
  have z2:=k2.size
  have a2:Kept w1 w4:=(k2.trans a7).trans' a1 (by omega)
  have K4:Kept w w4:=a8.trans a2
  have a3:=Kj (JJ O.out a2)
  clear U ac a1 aa a7 k2 O a2
  cases b with
  | true=>
   have ad:e=5:=by rw [← HE.out];unfold Mkt.err;rw [if_neg (by rw [a9.out];decide),if_pos (by rw [HX.out])]
   subst ad
   clear a3
   go_wp2
   go_ret
   exact ⟨rfl,K4⟩
  | false=>
   have N:Hid (e=if o.may=true∧64≤I.len then 4 else 0):=by show _=_;rw [← HE.out];unfold Mkt.err;rw [if_neg (by rw [a9.out];decide),if_neg (by rw [HX.out];simp)]
   obtain ⟨m,hm⟩:∃ m,o.may=m:=⟨_,rfl⟩
   have a5:=Kj hm
   rw [hm] at N
   clear hm
   go_upto_region 4 with fail
   refine wA 1 [bV false] [19] nZ ?_
   intro w5 k5
   simp only [F8]
   have K5:=K4.trans k5
   have j:=Kj (JJ a3.out k5)
   clear a3 k5
   cases m with
   | false=>
    have a4:e=0:=by rw [N.out,if_neg (by simp)]
    subst a4
    go_upto_region 6 with fail
    refine wA 7 [o.v,bV false,bV false,undef,undef,undef,bV false] [20,21,22,23,24,25,26] (nS 0 (ldO j.out) (nS 1 (cV Tryz.func76 (fun u hk=>(by rw [← a5.out];exact mayStay_any u o))) nZ)) ?_
    intro w6 k6
    simp only [F8]
    have K6:=K5.trans k6
    clear j k6
    go_wp2
    go_ret
    exact ⟨rfl,K6⟩
   | true=>
    obtain ⟨n,hn⟩:∃ n,I.len=n:=⟨_,rfl⟩
    have HN:=Kj hn
    rw [hn] at N
    clear hn
    by_cases hc:64≤n
    ·have ae:e=4:=by rw [N.out,if_pos ⟨rfl,hc⟩]
     subst ae
     go_upto_region 6 with fail
     refine wA 7 [o.v,bV true,bV true,pV p 0,iV (n:Int),bV true,bV true] [20,21,22,23,24,25,26] (nS 0 (ldO j.out) (nS 1 (cV Tryz.func76 (fun u hk=>(by rw [← a5.out];exact mayStay_any u o))) (nS 4 (cV Tryz.func77 (fun u hk=>(by rw [← HN.out];exact mlen_any u F p I (HM.out.kept (K5.trans hk)) HI.out H))) (nS 5 (aV rfl (fun a u E D hk=>WJ rfl (dD D 4) rfl) (Ky (by omega))) nZ)))) ?_
     intro w6 k6
     simp only [F8]
     have K6:=K5.trans k6
     clear j k6
     go_wp2
     go_ret
     exact ⟨rfl,K6⟩
    have a4:e=0:=by rw [N.out,if_neg (fun h=>hc h.2)]
    subst a4
    go_upto_region 6 with fail
    refine wA 7 [o.v,bV true,bV true,pV p 0,iV (n:Int),bV false,bV false] [20,21,22,23,24,25,26] (nS 0 (ldO j.out) (nS 1 (cV Tryz.func76 (fun u hk=>(by rw [← a5.out];exact mayStay_any u o))) (nS 4 (cV Tryz.func77 (fun u hk=>(by rw [← HN.out];exact mlen_any u F p I (HM.out.kept (K5.trans hk)) HI.out H))) (nS 5 (aV rfl (fun a u E D hk=>WJ rfl (dD D 4) rfl) (Ku (by omega))) nZ)))) ?_
    intro w6 k6
    simp only [F8]
    have K6:=K5.trans k6
    clear j k6
    go_wp2
    go_ret
    exact ⟨rfl,K6⟩
def Ot.cells (x:Ot) (v:Value):List Value:=x.c.o.cells++[v,.int .i64 x.c.left,.bool x.c.rests,.bool x.wt,.bool x.c.self,.int .i64 x.c.err]
def Ot.v (x:Ot) (v:Value):Value:=.agg (x.cells v).toArray
theorem Ot.len15 (x:Ot) (v:Value):(x.cells v).length=15:=by unfold Ot.cells;rw [List.length_append,Ord.len9];rfl
theorem Ot.one (x:Ot) (v:Value) (D:v.oneCell'=true):∀ u ∈ x.cells v,u.oneCell'=true:=by
 intro u j
 unfold Ot.cells at j
 rcases List.mem_append.1 j with j | j
 ·exact x.c.o.one1 u j
 simp at j
 rcases j with rfl | rfl | rfl | rfl | rfl | rfl
 ·exact D
 all_goals rfl
theorem ot_ord {w:World} {g off:Nat} {x:Ot} {v:Value} (h:w.rangeAt g off (x.cells v)):w.rangeAt g off x.c.o.cells:=qX h 9
theorem slC:SlT 32 66 15 120:=⟨Tryz.underlying32,by kernel_rfl,⟨XU.v (.slice none 0 0),by kernel_rfl,rfl,by intro u j;exact XU.one _ rfl u (by simpa [Oc.v,Value.cells] using j)⟩,by omega⟩
def outc (Z:List (Ot × Value)):List Value:=Z.flatMap fun z=>z.1.cells z.2
theorem outc_snoc (Z:List (Ot × Value)) (x:Ot) (v:Value):outc (Z++[(x,v)])=outc Z++x.cells v:=by simp [outc]
structure Outs (w:World) (base:Nat) (G:Nat→Prop) (v:Value) (L:List Ot) (Z:List (Ot × Value)):Prop where
 eq:Z.map (·.1)=L
 sl:Sl w 66 15 v Z.length (outc Z)
 own:∀ b,v.ownBlock=some b→base≤b∧¬ G b
 fl:∀ z ∈ Z,Sl w 95 21 z.2 z.1.c.f.length (fls z.1.c.f)
 flo:∀ z ∈ Z,∀ b,z.2.ownBlock=some b→base≤b∧¬ G b∧v.ownBlock≠some b
theorem Outs.len {w:World} {base:Nat} {G:Nat→Prop} {v:Value} {L:List Ot} {Z:List (Ot × Value)} (h:Outs w base G v L Z):Z.length=L.length:=by rw [← h.eq,List.length_map]
theorem Outs.keep {S:Nat→Prop} {w w':World} {base:Nat} {G:Nat→Prop} {v:Value} {L:List Ot} {Z:List (Ot × Value)} (h:Outs w base G v L Z) (hk:Keep S w w') (H:∀ b,base≤b→¬ G b→b<w.heap.size→¬ S b):Outs w' base G v L Z:=
 ⟨h.eq,h.sl.keep hk (fun b j=>H b (h.own b j).1 (h.own b j).2 (h.sl.lt j)),h.own,fun z D=>(h.fl z D).keep hk (fun b j=>H b (h.flo z D b j).1 (h.flo z D b j).2.1 ((h.fl z D).lt j)),h.flo⟩
theorem Outs.kept {w w':World} {base:Nat} {G:Nat→Prop} {v:Value} {L:List Ot} {Z:List (Ot × Value)} (h:Outs w base G v L Z) (hk:Kept w w'):Outs w' base G v L Z:=h.keep hk (fun _ _ _ _ h=>h)
theorem Outs.beside {w:World} {base n:Nat} {G G':Nat→Prop} {v:Value} {L:List Ot} {Z:List (Ot × Value)} (h:Outs w base G v L Z) (H:∀ b,G' b→G b∨n≤b) (hl:w.heap.size≤n):Outs w base G' v L Z:=
 ⟨h.eq,h.sl,fun b j=>⟨(h.own b j).1,fun e=>(H b e).elim (h.own b j).2 (fun e=>by have:=h.sl.lt j;omega)⟩,h.fl,fun z D b j=>⟨(h.flo z D b j).1,fun e=>(H b e).elim (h.flo z D b j).2.1 (fun e=>by have:=(h.fl z D).lt j;omega),(h.flo z D b j).2.2⟩⟩
theorem Outs.less {w:World} {base:Nat} {G G':Nat→Prop} {v:Value} {L:List Ot} {Z:List (Ot × Value)} (h:Outs w base G v L Z) (H:∀ b,G' b→G b):Outs w base G' v L Z:=
 ⟨h.eq,h.sl,fun b j=>⟨(h.own b j).1,fun e=>(h.own b j).2 (H b e)⟩,h.fl,fun z D b j=>⟨(h.flo z D b j).1,fun e=>(h.flo z D b j).2.1 (H b e),(h.flo z D b j).2.2⟩⟩
theorem outc_at (Z:List (Ot × Value)) (i:Nat) (z:Ot × Value) (h:Z[i]?=some z):((outc Z).drop (i*15)).take 15=z.1.cells z.2:=
 flat_at (fun z:Ot × Value=>z.1.cells z.2) 15 (fun z=>Ot.len15 z.1 z.2) Z i z h
theorem Sl.rngC {w:World} {T:TypeId} {n c g off:Nat} {Z:List (Ot × Value)} (h:Sl w T 15 (.slice (some ⟨g,off,none⟩) n c) n (outc Z)) (i:Nat) (z:Ot × Value) (I:Z[i]?=some z):w.rangeAt g (off+i*15) (z.1.cells z.2):=by
 obtain ⟨hl,A,c',D,h1,h2,h3,J⟩:=h
 injection D with e1 e2 e3
 subst e1 e3
 obtain ⟨g',off',cur,e,H,h5,j⟩:=J _ rfl
 injection e with e1 e2
 subst e1 e2
 have:=qX (xz (jJ H j) (i*15)) 15
 rw [outc_at Z i z I] at this
 exact this
theorem Outs.snoc {w:World} {base:Nat} {G:Nat→Prop} {v:Value} {L:List Ot} {Z:List (Ot × Value)} (h:Outs w base G v L Z) (x:Ot) (I y:Value) (O:TypeId) (N:Sl w 95 21 I x.c.f.length (fls x.c.f)) (H:∀ b,I.ownBlock=some b→base≤b∧¬ G b∧v.ownBlock≠some b) (hy:Sl w 66 15 y 1 (x.cells I)) (hn:L.length≤1000000) (hb:base≤w.heap.size) (hG:∀ b,G b→b<w.heap.size) :
  ∃ v' w',(Builtin.append_ #[32,32] O #[v,y]).run Tryz.prog w=.ok v' w'∧Outs w' base G v' (L++[x]) (Z++[(x,I)])∧Keep (fun b=>v.ownBlock=some b) w w'∧∀ b,v'.ownBlock=some b→v.ownBlock=some b∨w.heap.size≤b:=by
 have hl:=h.len
 obtain ⟨v',w',U,hs,hk,J⟩:=QQ slC O w v y Z.length 1 (outc Z) (x.cells I) h.sl hy (Ot.one _ _ (Xy N)) (by unfold maxLen;omega) (by omega)
 refine ⟨v',w',U,⟨by rw [List.map_append,h.eq];rfl,by rw [List.length_append,outc_snoc];exact hs,fun b j=>?_,fun z D=>?_,fun z D b j=>?_⟩,hk,J⟩
 ·rcases J b j with e | e
  ·exact h.own b e
  exact ⟨by omega,fun e'=>by have:=hG b e';omega⟩
 ·rcases List.mem_append.1 D with D | D
  ·exact (h.fl z D).keep hk (fun b j e=>(h.flo z D b j).2.2 e)
  simp at D
  subst D
  exact N.keep hk (fun b j e=>(H b j).2.2 e)
 have key:∀ b,b<w.heap.size→v.ownBlock≠some b→v'.ownBlock≠some b:=fun b h1 h2 h3=>(J b h3).elim h2 (fun h4=>by omega)
 rcases List.mem_append.1 D with D | D
 ·exact ⟨(h.flo z D b j).1,(h.flo z D b j).2.1,key b ((h.fl z D).lt j) (h.flo z D b j).2.2⟩
 simp at D
 subst D
 exact ⟨(H b j).1,(H b j).2.1,key b (N.lt j) (H b j).2.2⟩
theorem built_ote (o:Ord) (n e:Int):Tryz.prog.built 66 [(0,o.v),(2,.int .i64 n),(6,.int .i64 e)]=some ((Ot.mk (Oc.mk o [] n false false e) false).cells (.slice none 0 0)).toArray:=by kernel_rfl
theorem built_otw (o:Ord) (n:Int):Tryz.prog.built 66 [(0,o.v),(2,.int .i64 n),(4,.bool true)]=some ((Ot.mk (Oc.mk o [] n false false 0) true).cells (.slice none 0 0)).toArray:=by kernel_rfl
def ArrIn (w:World) (F:Nat→Prop) (p:Nat) (x:Ot × Mkt) (r:Ending) (w':World):Prop:=
 ∃ F' vf,r=.returned (x.1.v vf)∧Mk w' F' p x.2∧Sl w' 95 21 vf x.1.c.f.length (fls x.1.c.f)∧(∀ b,vf.ownBlock=some b→w.heap.size≤b∧¬ F' b)∧Grow w F F'∧Keep F w w'
theorem arrive_any (w:World) (F:Nat→Prop) (p:Nat) (H:Mkt) (o:Ord) (h:Mk w F p H) (hI:InvK H) (aZ:H.b.no≤1000000000000):Calls Tryz.prog 22 #[.pointer (some ⟨p,0,none⟩),o.v] w (ArrIn w F p (H.arrive o)):=by
 have aE:H.w.length≤100000:=by have:=hI.few;omega
 have HM:=Kj h
 obtain ⟨aJ,q,v,Fb,hP,b5⟩:=h
 have J:=Kj hP
 have HI:=Kj hI
 have N:=Kj b5
 have hpl:=hP.blk.lt
 obtain ⟨x,hx⟩:∃ x,H.arrive o=x:=⟨_,rfl⟩
 have HX:=Kj hx
 obtain ⟨e,he⟩:∃ e,H.err o=e:=⟨_,rfl⟩
 have HE:=Kj he
 rw [hx]
 clear hP hI hx he
 go_enter Tryz.func22,Tryz.ntmps22
 go_upto_region 0 with fail
 refine tAp 2 [.k (.fresh w.heap.size 35 (o.cells)),.k (.fresh w.heap.size 66 (XU.cells (.slice none 0 0)))] (nS 0 (nV rfl (fun a u E D hk=>⟨_,_,XV 35 _ (o.cells) rfl (eE E),⟨_,rfl,hk.size,Blk.new u _ _⟩,((Keep.refl _ u).alloc _)⟩)) (nS 1 (nV rfl (fun a u E D hk=>⟨_,_,QX 66 (XU.cells (.slice none 0 0)) rfl zC,⟨_,rfl,hk.size,Blk.new u _ _⟩,((Keep.refl _ u).alloc _)⟩)) nZ)) ?_
 intro gv w0 hV k0
 rw [dq 2 [3,4]]
 simp only [Fz7]
 have aI:(.fresh w.heap.size 35 (o.cells):Kn).p (gv 3) w0:=hV 0 3 (by kernel_rfl)
 generalize gv 3=v3 at aI ⊢
 have aB:(.fresh w.heap.size 66 (XU.cells (.slice none 0 0)):Kn).p (gv 4) w0:=hV 1 4 (by kernel_rfl)
 generalize gv 4=v4 at aB ⊢
 clear hV
 obtain ⟨b3,rfl,hb3,ar⟩:=aI
 obtain ⟨b4,rfl,hb4,a6⟩:=aB
 refine Kx ?_
 have an:=Kj (JX ar)
 have ah:=Kj a6
 have l3:=ar.lt
 have l4:=a6.lt
 have z0:=k0.size
 have h3F:¬ F b3:=fun h=>by have:=aJ b3 h;omega
 have ad:¬ F b4:=fun h=>by have:=aJ b4 h;omega
 clear ar a6
 go_upto_region 1 with fail
 refine wA 4 [pV p 0,o.v,iV e,iV e] [6,7,8,5] (nS 1 (ldO an.out) (nS 2 (cV Tryz.func49 (fun u hk=>(by rw [← HE.out];exact mrefusal_any u F p H o (HM.out.kept (k0.trans hk)) HI.out.inv aE))) nZ)) ?_
 intro w1 k1
 simp only [F8]
 have al:=k0.trans k1
 have ak:=Kj (JJ an.out k1)
 have a8:=Kj (ah.out.kept k1)
 have z1:=k1.size
 clear an ah k0 k1
 by_cases he0:e≠0
 ·have a5:x=(⟨⟨o,[],o.qty,false,false,e⟩,false⟩,H):=by rw [← HX.out];unfold Mkt.arrive;rw [if_pos (by rw [HE.out];exact he0),HE.out]
  subst a5
  go_upto_region 2 with fail
  refine wA 2 [iV e,bV true] [9,10] (nS 1 (aV rfl (fun a u E D hk=>Xj rfl (dD D 0) rfl) (Ky he0)) nZ) ?_
  intro w2 k2
  simp only [F8]
  have U:=Kj (JJ ak.out k2)
  have a4:=Kj (a8.out.kept k2)
  clear he0
  go_upto_region 3 with fail
  refine wAp 5 [o.v,pV b3 6,iV o.qty,iV e,(Ot.mk (Oc.mk o [] o.qty false false e) false).v (.slice none 0 0)] [11,12,13,14,15] (nS 0 (ldO U.out) (nS 2 (ldR U.out 6) (nS 4 (sV rfl (fun a u E D hk=>XZ _ [(0,.tmp 11),(2,.tmp 13),(6,.tmp 14)] ((Ot.mk (Oc.mk o [] o.qty false false e) false).cells (.slice none 0 0)) rfl (by simp only [List.map_cons,List.map_nil];rw [show a.eval (.tmp 11)=o.v from (dD D 0),show a.eval (.tmp 13)=.int .i64 o.qty from (dD D 2),show a.eval (.tmp 14)=.int .i64 e from (dD D 3)];exact built_ote o o.qty e))) nZ))) ?_
  intro w3 k3
  simp only [F8]
  refine YV 66 b4 66 (XU.cells (.slice none 0 0)) ((Ot.mk (Oc.mk o [] o.qty false false e) false).cells (.slice none 0 0)) _ _ rfl rfl (by kernel_rfl) (by kernel_rfl) (a4.out.kept k3) (by rw [Ot.len15];exact szC) (by rw [Ot.len15];rfl) (Ot.one _ _ rfl) ?_
  intro w4 aQ aK hsw4
  simp only [Act.put]
  refine Kx ?_
  go_wp2
  refine bodyPost_ret (QU (p:=4) rfl _ _ b4 _ ((Ot.mk (Oc.mk o [] o.qty false false e) false).cells (.slice none 0 0)) rfl aQ Tryz.underlying66 (by rw [Ot.len15];exact szC)) rfl ?_
  have kk:Kept w w4:=((al.trans k2).trans k3).trans' aK (by omega)
  exact ⟨F,.slice none 0 0,rfl,HM.out.kept kk,Sl.nil _ _ _,fun b j=>by simp [Value.ownBlock] at j,Grow.refl _ _,Keep.mono (T:=F) kk (fun _ _ h=>h.elim)⟩
 have aY:e=0:=Classical.not_not.1 he0
 subst aY
 have aG:Hid (x=if H.waits o=true then (⟨⟨o,[],o.qty,false,false,0⟩,true⟩,⟨H.b,H.w++[o]⟩) else (⟨(H.b.enter o).1,false⟩,⟨(H.b.enter o).2,H.w⟩)):=by show _=_;rw [← HX.out];unfold Mkt.arrive;rw [if_neg (fun h=>h HE.out)]
 go_upto_region 2 with fail
 refine wA 2 [iV 0,bV false] [9,10] (nS 1 (aV rfl (fun a u E D hk=>Xj rfl (dD D 0) rfl) (by decide)) nZ) ?_
 intro w2 k2
 simp only [F8]
 have ao:=al.trans k2
 have U:=Kj (JJ ak.out k2)
 have a4:=Kj (a8.out.kept k2)
 have ay:Hid (w2.cell? ⟨p,0,none⟩=some (.pointer (some ⟨q,0,none⟩))):=(J.out.blk.kept ao).cell 0
 have av:=Kj (J.out.bk.kept ao)
 have z2:=k2.size
 clear he0 al ak a8
 obtain ⟨ht,aw⟩:∃ b,o.hit H.b.last=b:=⟨_,rfl⟩
 have aC:=Kj aw
 obtain ⟨s,hs⟩:∃ s,decide (0<o.stop)=s:=⟨_,rfl⟩
 have ax:=Kj hs
 have HW:Hid (H.waits o=(s && !ht)):=by show _=_;unfold Mkt.waits;rw [hs,aw]
 clear hs aw
 go_upto_region 4 with fail
 go_cut [16,17,18,19,20,21,22,23,24,25,26,27,28] (fun _ _ _ _ _ _ _ _ _ _ _ _ b1 wx=>b1=.bool (s && !ht)∧Kept w2 wx)
 case first=>
  cases s with
  | false=>
   refine wH 13 [pV b3 8,iV o.stop,bV false,bV false,undef,undef,undef,undef,undef,undef,undef,undef,bV false] [16,17,18,19,20,21,22,23,24,25,26,27,28] (nS 1 (ldR U.out 8) (nS 2 (aV rfl (fun a u E D hk=>QZ rfl (dD D 1) rfl) ax.out) nZ)) ?_
   intro w3 k3
   simp only [F8]
   go_wp2
   go_meet
   case rel=>exact ⟨rfl,k3⟩
  | true=>
   cases ht with
   | false=>
    refine wH 13 [pV b3 8,iV o.stop,bV true,bV true,o.v,pV p 0,pV p 0,pV p 0,pV q 0,iV H.b.last,bV false,bV true,bV true] [16,17,18,19,20,21,22,23,24,25,26,27,28] (nS 1 (ldR U.out 8) (nS 2 (aV rfl (fun a u E D hk=>QZ rfl (dD D 1) rfl) ax.out) (nS 4 (ldO U.out) (nS 8 (ldC ay.out) (nS 9 (cV Tryz.func51 (fun u hk=>blast_any u Fb q H.b (av.out.kept hk))) (nS 10 (cV Tryz.func50 (fun u hk=>(by rw [← aC.out];exact hit_any o _ u))) (nS 11 (sV rfl (fun a u E D hk=>YX _ _ false rfl (dD D 10))) nZ))))))) ?_
    intro w3 k3
    simp only [F8]
    go_wp2
    go_meet
    case rel=>exact ⟨rfl,k3⟩
   | true=>
    refine wH 13 [pV b3 8,iV o.stop,bV true,bV true,o.v,pV p 0,pV p 0,pV p 0,pV q 0,iV H.b.last,bV true,bV false,bV false] [16,17,18,19,20,21,22,23,24,25,26,27,28] (nS 1 (ldR U.out 8) (nS 2 (aV rfl (fun a u E D hk=>QZ rfl (dD D 1) rfl) ax.out) (nS 4 (ldO U.out) (nS 8 (ldC ay.out) (nS 9 (cV Tryz.func51 (fun u hk=>blast_any u Fb q H.b (av.out.kept hk))) (nS 10 (cV Tryz.func50 (fun u hk=>(by rw [← aC.out];exact hit_any o _ u))) (nS 11 (sV rfl (fun a u E D hk=>YX _ _ true rfl (dD D 10))) nZ))))))) ?_
    intro w3 k3
    simp only [F8]
    go_wp2
    go_meet
    case rel=>exact ⟨rfl,k3⟩
 obtain ⟨rfl,k3⟩:=hcut
 have aa:=ao.trans k3
 have ae:=Kj (JJ U.out k3)
 have a9:=Kj (a4.out.kept k3)
 have I:=Kj (J.out.kept aa)
 have z3:=k3.size
 clear U a4 ay av k3
 cases hw:(s && !ht) with
 | true=>
  have a5:x=(⟨⟨o,[],o.qty,false,false,0⟩,true⟩,⟨H.b,H.w++[o]⟩):=by rw [aG.out,if_pos (by rw [HW.out];exact hw)]
  subst a5
  have aO:Hid (wc.cell? ⟨p,1,none⟩=some v):=I.out.blk.cell 1
  clear hw
  go_upto_region 5 with fail
  refine JJZ 7 [.eq (.pointer (some ⟨p,0,none⟩)),.eq (.pointer (some ⟨p,0,none⟩)),.eq (.pointer (some ⟨p,0,none⟩)),.eq (.pointer (some ⟨p,1,none⟩)),.eq (v),.eq (o.v),.sl wc.heap.size 35 9 1 o.cells] (.pointer (some ⟨p,0,none⟩)) ((fun v' u u'=>Sl u' 35 9 v' (H.w.length+1) (ords H.w++o.cells)∧Keep (fun b=>v.ownBlock=some b) u u'∧∀ b,v'.ownBlock=some b→v.ownBlock=some b∨wc.heap.size≤b)) (by kernel_rfl) rfl rfl (by kernel_rfl) (by kernel_rfl) (t_zero (d:=29) _ rfl rfl rfl (by kernel_rfl) (by kernel_rfl)) ?_ (fun a u hE hD hk=> (by obtain ⟨v',u',hr,b7,b9,b8⟩:=QQ slO _ u v (a.eval (.tmp 35)) H.w.length 1 (ords H.w) o.cells (I.out.sl.kept hk) ((hD 6 35 (by kernel_rfl))).1 (Ord.one1 _) (by unfold maxLen;omega) (by omega);exact t_last (o:=⟨some 36,_,_,_,_,_⟩) (R:=(fun v' u u'=>Sl u' 35 9 v' (H.w.length+1) (ords H.w++o.cells)∧Keep (fun b=>v.ownBlock=some b) u u'∧∀ b,v'.ownBlock=some b→v.ownBlock=some b∨wc.heap.size≤b)) (m:=7) (v:=v') (w':=u') rfl (JQ rfl _) (QV slO (.tmp 33) (.tmp 35) v _ rfl (dD hD 4) rfl v' u' hr) ⟨b7,b9,fun b j=>(b8 b j).imp id (fun h=>Kv hk.size h)⟩)) ?_
  ·refine mE 2 0 ?_
   refine nD 3 30 1 ?_
   refine fD 4 31 2 55 1 1 0 ?_
   refine sW 5 rfl (fun a u E D hk=>Qx _ _ Tryz.underlying43 _ _ _ rfl (dD D 3) (Kept.cell hk (aO.out))) ?_
   refine sE 6 3 b3 0 o.cells Tryz.underlying35 (fun u hk=>JJ ae.out hk) (by rw [o.len9];exact JU) ?_
   refine nW 7 rfl (fun a u E D hk=>⟨_,_,VJ slO _ o.cells (by omega) rfl (dD D 5) (o.len9),(jY u 35 9 _ wc.heap.size (o.len9) (by omega) hk.size),((Keep.refl _ u).alloc _)⟩) ?_
   exact fz
  intro gv w1 w4 hV h0 hR a3
  rw [dq 8 [29,30,31,32,33,34,35,36]]
  simp only [Fz7]
  have hT:=hR 36 (by kernel_rfl)
  generalize gv 36=v36 at hT ⊢
  rw [show gv 29=.pointer (some ⟨p,0,none⟩) from h0 29 (by kernel_rfl)]
  clear hV h0 hR
  obtain ⟨ac,a2,ab⟩:=hT
  have a6:=(I.out.blk.kept a3).keep a2 (fun j=>(I.out.nv p j).1 rfl)
  have a7:∀ b,v36.ownBlock=some b→b≠p:=fun b j e=>(ab b j).elim (fun h=>(I.out.nv b h).1 e) (fun h=>by omega)
  refine aT (.pointer (some ⟨p,0,none⟩)) ?_
  refine aT (.pointer (some ⟨p,1,none⟩)) ?_
  refine ZJ 43 p 1 55 _ v36 _ _ rfl rfl (by kernel_rfl) (by kernel_rfl) (by kernel_rfl) (Zy ac) (Xy ac) a6 (by simp [Yz]) ?_
  intro w5 aR O bb
  simp only [Act.put,sA,sS,sZ]
  refine Kx ?_
  obtain ⟨v',ba⟩:∃ v',v'=v36:=⟨_,rfl⟩
  subst ba
  have ai:Blk w5 p 55 (Yz q v'):=aR
  have z4:=a3.size
  have z5:=a2.size
  have z6:=O.size
  have aM:=Kj (QJ (QJ (JJ ae.out a3) a2 (fun e=>by have:=J.out.sl.lt e;omega)) O (fun e=>by omega))
  have aH:=Kj (((a9.out.kept a3).keep a2 (fun e=>by have:=J.out.sl.lt e;omega)).keep O (fun e=>by omega))
  have aj:=((I.out.bk.kept a3).keep a2 (fun b j e=>(I.out.nv b e).2 j)).keep O (fun b j e=>I.out.nb (by rw [← e];exact j))
  have aA:=ac.keep O (fun b j e=>a7 b j e)
  have aS:MkP w5 p q v' Fb ⟨H.b,H.w++[o]⟩:=⟨ai,aj,by rw [List.length_append,JJz];exact aA,I.out.nb,fun b j=>⟨a7 b j,fun e=>(ab b j).elim (fun h=>(I.out.nv b h).2 e) (fun h=>by have:=I.out.bk.lt b e;omega)⟩⟩
  have b6:=Kj aS
  have aX:Keep F w w5:=((Keep.any (aa.trans a3) a2).mono (fun b _ j=>N.out b (.inl (.inr j)))).trans O (fun b _ j=>N.out b (.inl (.inl j)))
  have zw:=aa.size
  have HG:Hid (Grow w F (foot p v' Fb)):=fun b j=>by
   rcases j with (j | j) | j
   ·exact .inl (N.out b (.inl (.inl j)))
   ·exact (ab b j).imp (fun h=>N.out b (.inl (.inr h))) (fun h=>by omega)
   exact .inl (N.out b (.inr j))
  have b0:Hid (∀ b,v'.ownBlock=some b→F b∨wc.heap.size≤b):=fun b j=>(ab b j).imp (fun h=>N.out b (.inl (.inr h))) id
  clear ac a2 ab a6 a7 aR ai O bb aj aA aS ae a9 aO I a3
  go_upto_region 6 with fail
  refine wAp 4 [o.v,pV b3 6,iV o.qty,(Ot.mk (Oc.mk o [] o.qty false false 0) true).v (.slice none 0 0)] [39,40,41,42] (nS 0 (ldO aM.out) (nS 2 (ldR aM.out 6) (nS 3 (sV rfl (fun a u E D hk=>XZ _ [(0,.tmp 39),(2,.tmp 41),(4,.const (.bool true))] ((Ot.mk (Oc.mk o [] o.qty false false 0) true).cells (.slice none 0 0)) rfl (by simp only [List.map_cons,List.map_nil];rw [show a.eval (.tmp 39)=o.v from (dD D 0),show a.eval (.tmp 41)=.int .i64 o.qty from (dD D 2)];exact built_otw o o.qty))) nZ))) ?_
  intro w6 k6
  simp only [F8]
  refine YV 66 b4 66 (XU.cells (.slice none 0 0)) ((Ot.mk (Oc.mk o [] o.qty false false 0) true).cells (.slice none 0 0)) _ _ rfl rfl (by kernel_rfl) (by kernel_rfl) (aH.out.kept k6) (by rw [Ot.len15];exact szC) (by rw [Ot.len15];rfl) (Ot.one _ _ rfl) ?_
  intro w7 aF ag hsw7
  simp only [Act.put]
  refine Kx ?_
  go_wp2
  refine bodyPost_ret (QU (p:=4) rfl _ _ b4 _ ((Ot.mk (Oc.mk o [] o.qty false false 0) true).cells (.slice none 0 0)) rfl aF Tryz.underlying66 (by rw [Ot.len15];exact szC)) rfl ?_
  have aW:∀ b,foot p v' Fb b→b≠b4:=fun b j e=>by
   rcases j with (j | j) | j
   ·omega
   ·exact (b0.out b j).elim (fun h=>ad (by rw [← e];exact h)) (fun h=>by omega)
   exact ad (by rw [← e];exact N.out b (.inr j))
  exact ⟨_,.slice none 0 0,rfl,((b6.out.kept k6).keep ag aW).close,Sl.nil _ _ _,fun b j=>by simp [Value.ownBlock] at j,HG.out,(aX.kept k6).new ag (by omega)⟩
 | false=>
  have a5:x=(⟨(H.b.enter o).1,false⟩,⟨(H.b.enter o).2,H.w⟩):=by rw [aG.out,if_neg (by rw [HW.out,hw];simp)]
  obtain ⟨y,B2,hy⟩:∃ y B2,H.b.enter o=(y,B2):=⟨_,_,rfl⟩
  rw [hy] at a5
  have HY:=Kj hy
  subst a5
  clear hw hy
  go_upto_region 7 with fail
  refine wAp 2 [pV p 0,o.v] [43,44] (nS 1 (ldO ae.out) nZ) ?_
  intro w4 k4
  simp only [F8]
  refine cT Tryz.func52 [.pointer (some ⟨p,0,none⟩),o.v] ?_
  refine (enter_any w4 Fb p q v H.b o (I.out.blk.kept k4) (I.out.bk.kept k4) I.out.nb HI.out.inv aZ).mono ?_
  rintro r w5 ⟨F2,vf,rfl,az,am,aq,af,O⟩
  rw [HY.out] at az am ⊢
  refine ⟨_,rfl,?_⟩
  refine YV 66 b4 66 (XU.cells (.slice none 0 0)) ((Ot.mk y false).cells vf) _ _ rfl rfl (by kernel_rfl) (by kernel_rfl) (((a9.out.kept k4).keep O (fun e=>ad (N.out _ (.inr e))))) (by rw [Ot.len15];exact szC) (by rw [Ot.len15];rfl) (Ot.one _ _ (Xy am)) ?_
  intro w6 aD a1 hsw6
  simp only [Act.put,sA,sS,sZ]
  refine Kx ?_
  have aL:¬ Fb b4:=fun e=>ad (N.out _ (.inr e))
  have z4:=k4.size
  have z5:=O.size
  have zw:=aa.size
  have aU:¬ F2 b4:=fun e=>(af _ e).elim aL (fun e=>by omega)
  have KF:Keep Fb w w5:=Keep.any (aa.trans k4) O
  have aN:¬ F2 p:=fun e=>(af _ e).elim I.out.nb (fun e=>by omega)
  have au:∀ b,v.ownBlock=some b→b<w.heap.size:=fun b j=>J.out.sl.lt j
  have b2:MkP w6 p q v F2 ⟨B2,H.w⟩:=⟨(J.out.blk.keep KF J.out.nb).keep a1 (fun e=>by omega),az.keep a1 (fun b j e=>aU (by rw [← e];exact j)),(J.out.sl.keep KF (fun b j=>(J.out.nv b j).2)).keep a1 (fun b j e=>by have:=au b j;omega),aN,fun b j=>⟨(J.out.nv b j).1,fun e=>(af b e).elim (J.out.nv b j).2 (fun e=>by have:=au b j;omega)⟩⟩
  go_wp2
  refine bodyPost_ret (QU (p:=4) rfl _ _ b4 _ ((Ot.mk y false).cells vf) rfl aD Tryz.underlying66 (by rw [Ot.len15];exact szC)) rfl ?_
  refine ⟨_,vf,rfl,b2.close,am.keep a1 (fun b j e=>by have:=(aq b j).1;omega),fun b j=>⟨by have:=(aq b j).1;omega,fun e=>?_⟩,fun b j=>?_,(KF.mono (fun b _ j=>N.out b (.inr j))).new a1 (by omega)⟩
  ·have h1:=aq b j
   rcases e with (e | e) | e
   ·omega
   ·have:=au b e;omega
   exact h1.2 e
  rcases j with j | j
  ·exact .inl (N.out b (.inl j))
  exact (af b j).imp (fun h=>N.out b (.inr h)) (fun h=>by omega)
def sliceN:Value→Nat | .slice _ n _=>n | _=>0
theorem sliceN_sl {w:World} {T:TypeId} {k n:Nat} {v:Value} {cs:List Value} (h:Sl w T k v n cs):sliceN v=n:=by
 obtain ⟨A,c,rfl⟩:=h.slice_
 rfl
def CasIn (w:World) (F:Nat→Prop) (p base:Nat) (v0:Value) (L:List Ot) (M:Mkt) (r:Ending) (w':World):Prop:=
 ∃ F' v' Z',r=.returned v'∧Mk w' F' p M∧Outs w' base F' v' L Z'∧Grow w F F'∧Keep (fun b=>F b∨v0.ownBlock=some b) w w'
theorem cascade_any (w:World) (F:Nat→Prop) (p base:Nat) (v0:Value) (L:List Ot) (Z:List (Ot × Value)) (Mm:Mkt) (h:Mk w F p Mm) (hI:InvK Mm) (aS:Mm.b.no+1048576*Mm.w.length≤1000000000000) (hO:Outs w base F v0 L Z) (hL:L.length≤1000) (H:base≤w.heap.size) :
  Calls Tryz.prog 23 #[.pointer (some ⟨p,0,none⟩),v0] w (CasIn w F p base v0 (L++Mm.cas.1) Mm.cas.2):=by
 have HM:=Kj h
 have HI:=Kj hI
 have HO:=Kj hO
 have hw64:Mm.w.length≤64:=by have:=hI.few;omega
 obtain ⟨N,hN⟩:∃ N,L.length+Mm.w.length=N:=⟨_,rfl⟩
 have HN:=Kj hN
 clear h hI hO
 go_enter Tryz.func23,Tryz.ntmps23
 go_wp2_with fail
 go_loopw [1] (fun x wr=>∃ (I:Mkt) (Fr:Nat→Prop) (Zr:List (Ot × Value)) (D:List Ot),Hid (Mk wr Fr p I)∧Hid (InvK I)∧Hid (I.b.no+1048576*I.w.length≤1000000000000)∧Hid (Outs wr base Fr x (L++D) Zr)∧Hid (Mm.cas=(D++I.cas.1,I.cas.2))∧Hid (Grow w F Fr)∧Hid (Keep (fun b=>F b∨v0.ownBlock=some b) w wr)∧Hid (∀ b,x.ownBlock=some b→v0.ownBlock=some b∨w.heap.size≤b)∧L.length+D.length+I.w.length=N) (fun x _=>N-sliceN x)
 case atStart=>exact ⟨Mm,F,Z,[],HM.out,HI.out,aS,by show Outs _ _ _ _ _ _;rw [List.append_nil];exact HO.out,by show _=_;rw [List.nil_append],Grow.refl _ _,Keep.refl _ _,fun b H=>.inl H,by simpa using hN⟩
 obtain ⟨I,Fr,Zr,D,am,ae,av,aB,HC,ab,ax,az,hn⟩:=hrel
 obtain ⟨v1,b2⟩:∃ x,x=u1:=⟨_,rfl⟩
 subst b2
 have hlr:I.w.length≤64:=by have:=ae.out.few;omega
 obtain ⟨j,hj⟩:∃ j,Vq (fun o=>o.hit I.b.last) I.w=j:=⟨_,rfl⟩
 have HJ:=Kj hj
 go_upto_region 1 with fail
 refine wA 3 [pV p 0,iV j,iV j] [6,7,5] (nS 1 (cV Tryz.func53 (fun u hk=>(by rw [← HJ.out];obtain ⟨_,q,v,Fb,hP,_⟩:=am.out.kept hk;exact triggered_any u Fb p q v I.b I.w hP.blk hP.bk hP.sl (by omega)))) nZ) ?_
 intro w1 k1
 simp only [F8]
 have a9:=Kj (am.out.kept k1)
 have a6:=Kj (aB.out.kept k1)
 have ad:Hid (Keep (fun b=>F b∨v0.ownBlock=some b) w w1):=ax.out.kept k1
 clear am aB ax k1
 cases hw:I.w[I.trig]? with
 | none=>
  have a7:j=-1:=by rw [← hj];exact xx hw
  subst a7
  have a2:Hid (Mm.cas=(D,I)):=by show _=_;rw [HC.out,WZ hw,List.append_nil]
  clear hj hw HJ
  go_upto_region 2 with fail
  refine wA 2 [iV (-1),bV true] [8,9] (nS 1 (aV rfl (fun a u E D hk=>YU rfl (dD D 0) rfl) (by decide)) nZ) ?_
  intro w2 k2
  simp only [F8]
  go_wp2
  go_ret
  rw [a2.out]
  first | exact ⟨rfl,Fr,Zr,a9.out.kept k2,a6.out.kept k2,ab.out,ad.out.kept k2⟩ | exact ⟨Fr,v1,Zr,rfl,a9.out.kept k2,a6.out.kept k2,ab.out,ad.out.kept k2⟩
 | some e=>
  have a7:j=(I.trig:Int):=by rw [← hj];exact yX hw
  have a2:Hid (Mm.cas=((D++[⟨(I.b.enter e).1,false⟩])++(I.next e).cas.1,(I.next e).cas.2)):=by show _=_;rw [HC.out,cas_some hw,List.append_assoc];rfl
  have aG:=Kj (ae.out.next hw)
  obtain ⟨k,hk⟩:∃ k,I.trig=k:=⟨_,rfl⟩
  have aK:Hid (I.next e=⟨(I.b.enter e).2,I.w.eraseIdx k⟩):=by show _=_;rw [← hk];rfl
  rw [hk] at a7 hw
  have b1:k<I.w.length:=(List.getElem?_eq_some_iff.1 hw).1
  have aN:(I.w.eraseIdx k).length=I.w.length-1:=by rw [List.length_eraseIdx,if_pos b1]
  have aW:=Kj hw
  subst a7
  obtain ⟨y,B2,hy⟩:∃ y B2,I.b.enter e=(y,B2):=⟨_,_,rfl⟩
  have aJ:Hid (B2.no+1048576*(I.w.eraseIdx k).length≤1000000000000):=by
   show _≤_
   have h1:=(JQY (o:=e) ae.out.inv).2.2
   have h2:=av.out
   rw [hy] at h1
   rw [aN]
   have h3:B2.no≤I.b.no+1048576:=h1
   omega
  rw [hy] at aK a2
  rw [aK.out] at aG a2
  have HY:=Kj hy
  clear hj hw HJ hk hy HC
  go_upto_region 2 with fail
  refine wA 2 [iV (k:Int),bV false] [8,9] (nS 1 (aV rfl (fun a u E D hk=>YU rfl (dD D 0) rfl) (Ku (by omega))) nZ) ?_
  intro w2 k2
  simp only [F8]
  have au:=Kj (a9.out.kept k2)
  have aF:=Kj (a6.out.kept k2)
  have aO:Hid (Keep (fun b=>F b∨v0.ownBlock=some b) w w2):=ad.out.kept k2
  clear a9 a6 ad k2
  obtain ⟨aZ,q,v,Fb,hP,aD⟩:=au.out
  have J:=Kj hP
  have aI:=Kj aD
  have aR:=Kj aZ
  have hz2:w.heap.size≤w2.heap.size:=aO.out.size
  clear hP aD au
  go_upto_region 4 with fail
  refine wAp 4 [v1,pV p 0,pV p 0,iV (k:Int)] [11,12,13,14] nZ ?_
  intro w3 k3
  simp only [F8]
  refine cT Tryz.func54 [.pointer (some ⟨p,0,none⟩),.int .i64 (k:Int)] ?_
  refine (mtake_any w3 p q v I.w k e (J.out.blk.kept k3) (J.out.sl.kept k3) aW.out (by omega) (fun b H=>(J.out.nv b H).1)).mono ?_
  rintro r w4 ⟨v',rfl,aq,aa,a1,a8⟩
  refine ⟨_,rfl,?_⟩
  have aE:=(J.out.bk.kept k3).keep a8 (fun b H e=>e.elim (fun e=>J.out.nb (by rw [← e];exact H)) (fun e=>(J.out.nv b e).2 H))
  refine cT Tryz.func52 [.pointer (some ⟨p,0,none⟩),e.v] ?_
  refine (enter_any w4 Fb p q v' I.b e aq aE J.out.nb ae.out.inv (by have:=av.out;omega)).mono ?_
  rintro r w5 ⟨F2,vf,rfl,ai,aj,U,ac,a5⟩
  rw [HY.out] at ai aj ⊢
  refine ⟨_,rfl,?_⟩
  refine Vj (.slice (some ⟨w5.heap.size,0,none⟩) 1 1) (w5.alloc (.cells ((Ot.mk y false).cells vf).toArray 66)) rfl (VJ slC (.tmp 16) ((Ot.mk y false).cells vf) (by omega) rfl (by kernel_rfl) (Ot.len15 _ _)) ?_
  have a3:=jY w5 66 15 ((Ot.mk y false).cells vf) w5.heap.size (Ot.len15 _ _) (by omega) (Nat.le_refl _)
  have kN:Kept w5 (w5.alloc (.cells ((Ot.mk y false).cells vf).toArray 66)):=(Keep.refl _ w5).alloc _
  generalize w5.alloc (.cells ((Ot.mk y false).cells vf).toArray 66)=w6 at a3 kN ⊢
  have z3:=k3.size
  have z4:=a8.size
  have z5:=a5.size
  have zN:=kN.size
  have O:∀ b,foot p v Fb b→Fr b:=aI.out
  have an:Keep Fr w2 w5:=((Keep.any k3 a8).mono (fun b _ H=>H.elim (fun h=>O b (.inl (.inl h))) (fun h=>O b (.inl (.inr h))))).trans a5 (fun b _ H=>O b (.inr H))
  have al:∀ b,foot p v' F2 b→Fr b∨w2.heap.size≤b:=fun b H=>H.elim (fun H=>H.elim (fun H=>.inl (O b (.inl (.inl H)))) (fun H=>.inl (O b (.inl (.inr (by rw [← a1];exact H)))))) (fun H=>(ac b H).imp (fun h=>O b (.inr h)) (fun h=>by omega))
  have ao:MkP w6 p q v' F2 ⟨B2,I.w.eraseIdx k⟩:=⟨(aq.keep a5 J.out.nb).kept kN,ai.kept kN,(aa.keep a5 (fun b H=>(J.out.nv b (by rw [← a1];exact H)).2)).kept kN,fun e=>(ac p e).elim J.out.nb (fun e=>by have:=J.out.blk.lt;omega),fun b H=>⟨(J.out.nv b (by rw [← a1];exact H)).1,fun e=>(ac b e).elim (J.out.nv b (by rw [← a1];exact H)).2 (fun e=>by have:=aa.lt H;omega)⟩⟩
  have a4:Outs w6 base (foot p v' F2) v1 (L++D) Zr:=((((aF.out.beside (G':=fun b=>Fr b∨foot p v' F2 b) (n:=w2.heap.size) (fun b H=>H.elim .inl (al b)) (Nat.le_refl _)).keep an (fun b hb1 b3 hb3 e=>b3 (.inl e)))).less (fun b H=>.inr H)).kept kN
  have aw:∀ b,vf.ownBlock=some b→base≤b∧¬ foot p v' F2 b∧v1.ownBlock≠some b:=fun b H=>⟨by have:=(U b H).1;omega,fun e=>e.elim (fun e=>e.elim (fun e=>by have:=(U b H).1;have:=J.out.blk.lt;omega) (fun e=>by have:=(U b H).1;have:=aa.lt e;omega)) (U b H).2,fun e=>by have:=(U b H).1;have:=aF.out.sl.lt e;omega⟩
  obtain ⟨v7,w7,aM,af,ag,aA⟩:=a4.snoc (Ot.mk y false) vf (.slice (some ⟨w5.heap.size,0,none⟩) 1 1) 32 (aj.kept kN) aw a3.1 (by rw [List.length_append];omega) (by omega) ao.foot_lt
  refine Vj v7 w7 rfl (QV slC (.tmp 11) (.tmp 17) v1 _ rfl (by kernel_rfl) (by kernel_rfl) v7 w7 aM) ?_
  refine aT (v7) ?_
  simp only [Act.put,sA,sS,sZ]
  refine Kx ?_
  have z7:=ag.size
  have ah:∀ b,v1.ownBlock=some b→¬ foot p v' F2 b:=fun b H=>(a4.own b H).2
  have aH:=ao.keep ag (fun b H e=>ah b e H)
  have aC:Grow w F (foot p v' F2):=fun b H=>(al b H).elim (ab.out b) (fun h=>.inr (by omega))
  have ay:Keep (fun b=>F b∨v0.ownBlock=some b) w w7:=((aO.out.trans an (fun b H e=>(ab.out b e).elim .inl (fun e=>by omega))).kept kN).trans ag (fun b H e=>(az.out b e).elim .inr (fun e=>by omega))
  have aL:∀ b,v7.ownBlock=some b→v0.ownBlock=some b∨w.heap.size≤b:=fun b H=>(aA b H).elim (az.out b) (fun h=>.inr (by omega))
  have ar:sliceN v7=L.length+D.length+1:=by rw [sliceN_sl af.sl,af.len,List.length_append,List.length_append];rfl
  have ak:sliceN v1=L.length+D.length:=by rw [sliceN_sl a4.sl,a4.len,List.length_append]
  have b0:=Kj aH.close
  have aQ:Hid (Outs w7 base (foot p v' F2) v7 (L++(D++[⟨y,false⟩])) (Zr++[(Ot.mk y false,vf)])):=by show Outs _ _ _ _ _ _;rw [← List.append_assoc];exact af
  have aU:=Kj aC
  have aX:=Kj ay
  have aY:=Kj aL
  clear ag ah aH aC ay aL af aA aM a4 ao al an O a3 kN ai aj U ac a5 aq aa a1 a8 aE k3 J aI aR aw
  go_wp2
  exact ⟨⟨_,_,_,D++[⟨y,false⟩],b0,aG,aJ,aQ,a2,aU,aX,aY,by simp only [List.length_append,List.length_cons,List.length_nil];rw [aN];omega⟩,by rw [ar,ak];omega⟩
theorem outs_one {w:World} {base:Nat} {G:Nat→Prop} {x:Ot} {D y:Value} (I:Sl w 95 21 D x.c.f.length (fls x.c.f)) (J:Sl w 66 15 y 1 (x.cells D)) (N:∀ b,D.ownBlock=some b→base≤b∧¬ G b∧y.ownBlock≠some b) (H:∀ b,y.ownBlock=some b→base≤b∧¬ G b):Outs w base G y [x] [(x,D)]:=
 ⟨rfl,by simpa [outc] using J,H,fun z j=>(by simp at j;subst j;exact I),fun z j b O=>(by simp at j;subst j;exact N b O)⟩
def MAddIn (w:World) (F:Nat→Prop) (p:Nat) (x:List Ot × Mkt) (r:Ending) (w':World):Prop:=
 ∃ F' v' Z',r=.returned v'∧Mk w' F' p x.2∧Outs w' w.heap.size F' v' x.1 Z'∧Grow w F F'∧Keep F w w'
theorem madd_any (w:World) (F:Nat→Prop) (p:Nat) (Mm:Mkt) (o:Ord) (h:Mk w F p Mm) (hI:InvK Mm) (hno:Mm.b.no≤900000000000):Calls Tryz.prog 7 #[.pointer (some ⟨p,0,none⟩),o.v] w (MAddIn w F p (Mm.add o)):=by
 have hFl:=h.lt
 have HM:=Kj h
 have HI:=Kj hI
 have a7:=Kj (hI.arrive o)
 have al:=Kj (arrive_no hI o)
 obtain ⟨x,M2,hx⟩:∃ x M2,Mm.arrive o=(x,M2):=⟨_,_,rfl⟩
 rw [hx] at a7 al
 obtain ⟨r,hr⟩:∃ r,Mm.add o=r:=⟨_,rfl⟩
 have HR:Hid (r=if x.c.err≠0 then ([x],M2) else (x::M2.cas.1,M2.cas.2)):=by show _=_;rw [← hr];unfold Mkt.add;rw [hx]
 have HX:=Kj hx
 rw [hr]
 clear h hI hx hr
 go_enter Tryz.func7,Tryz.ntmps7
 go_upto_region 0 with fail
 refine tAp 2 [.k (.fresh w.heap.size 35 (o.cells)),.v (.slice none 0 0)] (nS 0 (nV rfl (fun a u E D hk=>⟨_,_,XV 35 _ (o.cells) rfl (eE E),⟨_,rfl,hk.size,Blk.new u _ _⟩,((Keep.refl _ u).alloc _)⟩)) nZ) ?_
 intro gv w0 hV k0
 rw [dq 2 [3,4]]
 simp only [Fz7]
 have an:(.fresh w.heap.size 35 (o.cells):Kn).p (gv 3) w0:=hV 0 3 (by kernel_rfl)
 generalize gv 3=v3 at an ⊢
 rw [gQ hV 1 4 (.slice none 0 0)]
 clear hV
 obtain ⟨b3,rfl,hb3,ad⟩:=an
 refine Kx ?_
 have HO:=Kj (JX ad)
 have l3:=ad.lt
 have z0:=k0.size
 clear ad
 go_upto_region 1 with fail
 refine wAp 2 [pV p 0,o.v] [6,7] (nS 1 (ldO HO.out) nZ) ?_
 intro w1 k1
 simp only [F8]
 refine cT Tryz.func22 [.pointer (some ⟨p,0,none⟩),o.v] ?_
 refine (arrive_any w1 F p Mm o (HM.out.kept (k0.trans k1)) HI.out (by omega)).mono ?_
 rintro r' w2 ⟨F2,N,rfl,aa,a5,af,aj,ac⟩
 rw [HX.out] at aa a5 ⊢
 refine ⟨_,rfl,?_⟩
 refine nT zC ?_
 intro w3 a3 ag
 refine YV 66 w2.heap.size 66 (XU.cells (.slice none 0 0)) ((x).cells N) _ _ rfl rfl (by kernel_rfl) (by kernel_rfl) (a3) (by rw [Ot.len15];exact szC) (by rw [Ot.len15];rfl) (Ot.one _ _ (Xy a5)) ?_
 intro w4 U a6 ak
 simp only [Act.put,sA,sS,sZ]
 refine Kx ?_
 obtain ⟨b5,h5⟩:∃ a,w2.heap.size=a:=⟨_,rfl⟩
 rw [h5] at a3 U a6 ⊢
 have z1:=k1.size
 have z2:=ac.size
 have a4:Kept w2 w4:=ag.trans' a6 (by omega)
 have z4:=a4.size
 have a1:=Kj (JX U)
 have l5:=U.lt
 have ab:=Kj (aa.kept a4)
 have au:=Kj (a5.kept a4)
 have a2:Hid (∀ b,N.ownBlock=some b→w.heap.size≤b∧¬ F2 b∧b<w4.heap.size):=fun b J=>⟨by have:=(af b J).1;omega,(af b J).2,by have:=a5.lt J;omega⟩
 have a8:Hid (Grow w F F2):=aj.wide (by omega)
 have av:Hid (Keep F w w4):=(Keep.any (k0.trans k1) ac).kept a4
 have ai:Hid (∀ b,F2 b→b<w4.heap.size):=ab.out.lt
 have zw:w.heap.size≤w4.heap.size:=by omega
 clear aa a5 af aj ac a3 U a6 ak ag a4 k0 k1 HO
 by_cases he:x.c.err≠0
 ·have ae:r=([x],M2):=by rw [HR.out,if_pos he]
  subst ae
  go_upto_region 2 with fail
  refine wA 3 [pV b5 14,iV x.c.err,bV true] [9,10,11] (nS 1 (ldF (fun u hk=>(JJ (a1.out) hk) 14 _ rfl)) (nS 2 (aV rfl (fun a u E D hk=>Xj rfl (dD D 1) rfl) (Ky he)) nZ)) ?_
  intro w5 k5
  simp only [F8]
  have a9:=Kj (JJ a1.out k5)
  have z5:=k5.size
  clear he HR a1
  go_upto_region 3 with fail
  refine wAp 1 [x.v N] [12] (nS 0 (ldS Tryz.underlying66 (fun u hk=>JJ (a9.out) hk) (by rw [Ot.len15];exact szC)) nZ) ?_
  intro I k6
  simp only [F8]
  refine Vj (.slice (some ⟨I.heap.size,0,none⟩) 1 1) (I.alloc (.cells (x.cells N).toArray 66)) rfl (VJ slC (.tmp 12) (x.cells N) (by omega) rfl (by kernel_rfl) (Ot.len15 _ _)) ?_
  have j:=jY I 66 15 (x.cells N) I.heap.size (Ot.len15 _ _) (by omega) (Nat.le_refl _)
  have kN:Kept I (I.alloc (.cells (x.cells N).toArray 66)):=(Keep.refl _ I).alloc _
  generalize I.alloc (.cells (x.cells N).toArray 66)=w7 at j kN ⊢
  refine aT (.slice (some ⟨I.heap.size,0,none⟩) 1 1) ?_
  simp only [Act.put,sA,sS,sZ]
  refine Kx ?_
  have O:Kept w4 w7:=(k5.trans k6).trans kN
  have z6:=k6.size
  go_wp2
  go_ret
  refine ⟨F2,_,[(x,N)],rfl,ab.out.kept O,outs_one (au.out.kept O) j.1 (fun b J=>⟨(a2.out b J).1,(a2.out b J).2.1,fun e=>by have:=(a2.out b J).2.2;have:=j.2 b e;omega⟩) (fun b J=>⟨by have:=j.2 b J;omega,fun e=>by have:=j.2 b J;have:=ai.out b e;omega⟩),a8.out,av.out.kept O⟩
 have ae:r=(x::M2.cas.1,M2.cas.2):=by rw [HR.out,if_neg he]
 subst ae
 go_upto_region 2 with fail
 refine wA 3 [pV b5 14,iV x.c.err,bV false] [9,10,11] (nS 1 (ldF (fun u hk=>(JJ (a1.out) hk) 14 _ rfl)) (nS 2 (aV rfl (fun a u E D hk=>Xj rfl (dD D 1) rfl) (Ku he)) nZ)) ?_
 intro w5 k5
 simp only [F8]
 have a9:=Kj (JJ a1.out k5)
 have z5:=k5.size
 clear he HR a1
 go_upto_region 4 with fail
 refine wAp 2 [pV p 0,x.v N] [14,15] (nS 1 (ldS Tryz.underlying66 (fun u hk=>JJ (a9.out) hk) (by rw [Ot.len15];exact szC)) nZ) ?_
 intro I k6
 simp only [F8]
 refine Vj (.slice (some ⟨I.heap.size,0,none⟩) 1 1) (I.alloc (.cells (x.cells N).toArray 66)) rfl (VJ slC (.tmp 15) (x.cells N) (by omega) rfl (by kernel_rfl) (Ot.len15 _ _)) ?_
 have j:=jY I 66 15 (x.cells N) I.heap.size (Ot.len15 _ _) (by omega) (Nat.le_refl _)
 have kN:Kept I (I.alloc (.cells (x.cells N).toArray 66)):=(Keep.refl _ I).alloc _
 generalize I.alloc (.cells (x.cells N).toArray 66)=w7 at j kN ⊢
 have O:Kept w4 w7:=(k5.trans k6).trans kN
 have z6:=k6.size
 have z7:=kN.size
 have H:=j.2
 have ao:Outs w7 w.heap.size F2 (.slice (some ⟨I.heap.size,0,none⟩) 1 1) [x] [(x,N)]:=outs_one (au.out.kept O) j.1 (fun b J=>⟨(a2.out b J).1,(a2.out b J).2.1,fun e=>by have:=(a2.out b J).2.2;have:=H b e;omega⟩) (fun b J=>⟨by have:=H b J;omega,fun e=>by have:=H b J;have:=ai.out b e;omega⟩)
 refine cT Tryz.func23 [.pointer (some ⟨p,0,none⟩),.slice (some ⟨I.heap.size,0,none⟩) 1 1] ?_
 refine (cascade_any w7 F2 p w.heap.size (.slice (some ⟨I.heap.size,0,none⟩) 1 1) [x] [(x,N)] M2 (ab.out.kept O) a7.out (by have h1:=al.out.2;have h2:=a7.out.few;simp only at h1 h2;omega) ao (by simp) (by omega)).mono ?_
 rintro r' w8 ⟨F8,v8,Z8,rfl,aw,ax,ar,aq⟩
 refine ⟨_,rfl,?_⟩
 refine aT (v8) ?_
 simp only [Act.put,sA,sS,sZ]
 refine Kx ?_
 have ah:Keep F w w8:=(av.out.kept O).trans aq (fun b J e=>e.elim (fun e=>(a8.out b e).elim id (fun e=>by omega)) (fun e=>by have:=H b e;omega))
 have am:Grow w F F8:=fun b J=>(ar b J).elim (a8.out b) (fun h=>.inr (by omega))
 clear aq ar ao j H kN O k5 k6
 go_wp2
 go_ret
 exact ⟨F8,v8,Z8,rfl,aw,ax,am,ah⟩
theorem sameF_any (va vb:Value) (na nb:Nat) (A B:List Fl) (w:World) (ha:Sl w 95 21 va A.length (fls A)) (hb:Sl w 95 21 vb B.length (fls B)) (a6:A.length≤1000000000) (a8:B.length≤1000000000):Gives 48 #[va,vb] w (.eq (.bool (decide (A=B)))):=by
 refine QW ?_
 obtain ⟨n,hn⟩:∃ n,A.length=n:=⟨_,rfl⟩
 obtain ⟨m,hm⟩:∃ m,B.length=m:=⟨_,rfl⟩
 rw [hn] at ha a6
 rw [hm] at hb a8
 have HA:=Kj ha
 have HB:=Kj hb
 have HN:=Kj hn
 have HM:=Kj hm
 obtain ⟨_,A1,c1,rfl,_⟩:=ha
 obtain ⟨_,A2,c2,rfl,_⟩:=hb
 clear hn hm
 by_cases hnm:n=m
 ·subst hnm
  go_enter Tryz.func48,Tryz.ntmps48
  go_wp2_with fail
  go_loopw [5] (fun v wr=>∃ i:Nat,i≤n∧v=.int .i64 i∧Kept w wr∧Hid (A.take i=B.take i)) (fun v _=>n-(intOf v).toNat)
  case atStart=>exact ⟨0,Nat.zero_le _,rfl,Kept.refl _,rfl⟩
  obtain ⟨i,hi,rfl,j,HT⟩:=hrel
  by_cases hlt:i<n
  ·have a1:i<A.length:=by rw [HN.out];omega
   have a3:i<B.length:=by rw [HM.out];omega
   obtain ⟨D,O⟩:∃ e,A[i]?=some e:=⟨_,List.getElem?_eq_getElem a1⟩
   obtain ⟨H,N⟩:∃ e,B[i]?=some e:=⟨_,List.getElem?_eq_getElem a3⟩
   obtain ⟨g1,I,_,e1⟩:=HA.out.some_ (by omega)
   injection e1 with e1 _ e1'
   subst e1 e1'
   obtain ⟨g2,U,_,e2⟩:=HB.out.some_ (by omega)
   injection e2 with e2 _ e2'
   subst e2 e2'
   have a2:Hid (wr.rangeAt g1 (I+i*21) D.cells):=JJ (HA.out.rngF i D O) j
   have a5:Hid (wr.rangeAt g2 (U+i*21) H.cells):=JJ (HB.out.rngF i H N) j
   have a4:Hid (A[i]?=B[i]?↔D=H):=by
    show _↔_
    rw [O,N]
    simp
   clear a1 a3 O N
   by_cases hx:D=H
   ·skip
    go_upto_region 6 with fail
    refine wHp 8 [.slice (some ⟨g1,I,none⟩) n c1,iV (i:Int),pV g1 (I+i*21),D.v,.slice (some ⟨g2,U,none⟩) n c2,iV (i:Int),pV g2 (U+i*21),H.v] [17,18,19,20,21,22,23,24] (nS 2 (ixV slF (I) n i ((i:Int)) (hlt)) (nS 3 (ldS Tryz.underlying95 (fun u hk=>JJ a2.out hk) (by rw [D.len21];exact szF)) (nS 6 (ixV slF (U) n i ((i:Int)) (hlt)) (nS 7 (ldS Tryz.underlying95 (fun u hk=>JJ a5.out hk) (by rw [H.len21];exact szF)) nZ)))) ?_
    intro w1 k1
    simp only [F8]
    refine UJ (.bool false) rfl (exec_neFb false (.tmp 20) (.tmp 24) _ D H rfl (by kernel_rfl) (by kernel_rfl) (by rw [hx];simp)) ?_
    simp only [Act.put,sA,sS,sZ]
    refine Kx ?_
    have a7:=Kj (take_next HT.out (a4.out.2 hx))
    have J:=j.trans k1
    clear j hx k1
    go_wp2
    exact ⟨⟨i+1,by omega,by go_num,J,a7⟩,by simp [intOf];omega⟩
   skip
   go_upto_region 6 with fail
   refine wHp 8 [.slice (some ⟨g1,I,none⟩) n c1,iV (i:Int),pV g1 (I+i*21),D.v,.slice (some ⟨g2,U,none⟩) n c2,iV (i:Int),pV g2 (U+i*21),H.v] [17,18,19,20,21,22,23,24] (nS 2 (ixV slF (I) n i ((i:Int)) (hlt)) (nS 3 (ldS Tryz.underlying95 (fun u hk=>JJ a2.out hk) (by rw [D.len21];exact szF)) (nS 6 (ixV slF (U) n i ((i:Int)) (hlt)) (nS 7 (ldS Tryz.underlying95 (fun u hk=>JJ a5.out hk) (by rw [H.len21];exact szF)) nZ)))) ?_
   intro w1 k1
   simp only [F8]
   refine UJ (.bool true) rfl (exec_neFb true (.tmp 20) (.tmp 24) _ D H rfl (by kernel_rfl) (by kernel_rfl) (by simp [hx])) ?_
   simp only [Act.put,sA,sS,sZ]
   refine Kx ?_
   have HF:Hid (A≠B):=fun h=>hx (a4.out.1 (by rw [h]))
   have J:=j.trans k1
   clear j hx k1
   go_wp2
   go_ret
   exact ⟨Wz (Ku HF.out).symm,J⟩
  go_wp2
  go_ret
  exact ⟨Wz (Ky (take_whole HT.out (by have:=HN.out;omega) (by have:=HM.out;omega))).symm,j⟩
 have hne:((n:Int) != (m:Int))=true:=by rw [bne_iff_ne];omega
 have HF:Hid (A≠B):=fun h=>hnm (by have h1:=HN.out;have h2:=HM.out;rw [h] at h1;omega)
 clear hnm
 go_enter Tryz.func48,Tryz.ntmps48
 go_wp2
 go_ret
 exact ⟨Wz (Ku HF.out).symm,Kept.refl _⟩

section
variable {a:Act} {o:Oper} {u:World}
theorem exec_eqb (x y:Operand) (t':TypeId) (p q b:Bool) (j:o.op=.binOp .eql 4 x y t') (hx:a.eval x=.bool p) (D:a.eval y=.bool q) (H:(p == q)=b):(execOp a.eval o).run Tryz.prog u=.ok (.value (.bool b)) u:=by
 subst H
 exact exec_eqlb x y t' p q j hx D
end
theorem koutT_any (x:Ot) (I j:Value) (w:World) (ha:Sl w 95 21 I x.c.f.length (fls x.c.f)) (hb:Sl w 95 21 j x.c.f.length (fls x.c.f)) (hl:x.c.f.length≤2000000):Gives 21 #[x.v I,x.v j] w (.eq (.bool true)):=by
 refine QW ?_
 have HA:=Kj ha
 have HB:=Kj hb
 have h1a:=Xy ha
 have h1b:=Xy hb
 clear ha hb
 go_enter Tryz.func21,Tryz.ntmps21
 go_upto_region 0 with fail
 refine tAp 2 [.k (.fresh w.heap.size 66 (x.cells I)),.k (.fresh w.heap.size 66 (x.cells j))] (nS 0 (nV rfl (fun a u E D hk=>⟨_,_,XV 66 _ (x.cells I) rfl (eE E),⟨_,rfl,hk.size,Blk.new u _ _⟩,((Keep.refl _ u).alloc _)⟩)) (nS 1 (nV rfl (fun a u E D hk=>⟨_,_,XV 66 _ (x.cells j) rfl (eE E),⟨_,rfl,hk.size,Blk.new u _ _⟩,((Keep.refl _ u).alloc _)⟩)) nZ)) ?_
 intro gv w0 hV k0
 rw [dq 2 [2,3]]
 simp only [Fz7]
 have a1:(.fresh w.heap.size 66 (x.cells I):Kn).p (gv 2) w0:=hV 0 2 (by kernel_rfl)
 generalize gv 2=v2 at a1 ⊢
 have a2:(.fresh w.heap.size 66 (x.cells j):Kn).p (gv 3) w0:=hV 1 3 (by kernel_rfl)
 generalize gv 3=v3 at a2 ⊢
 clear hV
 obtain ⟨H,rfl,hg2,U⟩:=a1
 obtain ⟨O,rfl,hg3,a3⟩:=a2
 refine aT (.bool false) ?_
 simp only [Act.put,sA,sS,sZ]
 refine Kx ?_
 have J:=Kj (JX U)
 have N:=Kj (JX a3)
 have a5:=Kj (HA.out.kept k0)
 have a4:=Kj (HB.out.kept k0)
 clear U a3 HA HB
 go_upto_region 1 with fail
 refine wAp 47 [pV H 0,x.c.o.v,pV O 0,x.c.o.v,bV true,bV true,pV H 9,I,pV O 9,j,bV true,bV true,bV true,pV H 10,iV x.c.left,pV O 10,iV x.c.left,bV true,bV true,bV true,pV H 11,bV x.c.rests,pV O 11,bV x.c.rests,bV true,bV true,bV true,pV H 12,bV x.wt,pV O 12,bV x.wt,bV true,bV true,bV true,pV H 13,bV x.c.self,pV O 13,bV x.c.self,bV true,bV true,bV true,pV H 14,iV x.c.err,pV O 14,iV x.c.err,bV true,bV true] [5,6,7,8,9,10,11,12,13,14,15,16,17,18,19,20,21,22,23,24,25,26,27,28,29,30,31,32,33,34,35,36,37,38,39,40,41,42,43,44,45,46,47,48,49,50,51] (nS 1 (ldS Tryz.underlying35 (fun u hk=>ot_ord (JJ (J.out) hk)) (by rw [Ord.len9];exact JU)) (nS 3 (ldS Tryz.underlying35 (fun u hk=>ot_ord (JJ (N.out) hk)) (by rw [Ord.len9];exact JU)) (nS 4 (sV rfl (fun a u E D hk=>exec_eqOb' true _ _ _ x.c.o x.c.o rfl (dD D 1) (dD D 3) (Ky rfl))) (nS 7 (sV rfl (fun a u E D hk=>Qx _ _ Tryz.underlying64 _ _ _ rfl (dD D 6) ((JJ (J.out) hk) 9 _ rfl))) (nS 9 (sV rfl (fun a u E D hk=>Qx _ _ Tryz.underlying64 _ _ _ rfl (dD D 8) ((JJ (N.out) hk) 9 _ rfl))) (nS 10 (cV Tryz.func48 (fun u hk=>(by have h:=sameF_any I j 0 0 x.c.f x.c.f u (a5.out.kept hk) (a4.out.kept hk) (by omega) (by omega);rwa [Ky rfl] at h))) (nS 14 (ldF (fun u hk=>(JJ (J.out) hk) 10 _ rfl)) (nS 16 (ldF (fun u hk=>(JJ (N.out) hk) 10 _ rfl)) (nS 17 (aV rfl (fun a u E D hk=>JY rfl (dD D 14) (dD D 16)) (Ky rfl)) (nS 21 (sV rfl (fun a u E D hk=>qY _ Tryz.underlying4 _ _ _ rfl (dD D 20) ((JJ (J.out) hk) 11 _ rfl))) (nS 23 (sV rfl (fun a u E D hk=>qY _ Tryz.underlying4 _ _ _ rfl (dD D 22) ((JJ (N.out) hk) 11 _ rfl))) (nS 24 (sV rfl (fun a u E D hk=>exec_eqb _ _ _ _ _ true rfl (dD D 21) (dD D 23) (by simp))) (nS 28 (sV rfl (fun a u E D hk=>qY _ Tryz.underlying4 _ _ _ rfl (dD D 27) ((JJ (J.out) hk) 12 _ rfl))) (nS 30 (sV rfl (fun a u E D hk=>qY _ Tryz.underlying4 _ _ _ rfl (dD D 29) ((JJ (N.out) hk) 12 _ rfl))) (nS 31 (sV rfl (fun a u E D hk=>exec_eqb _ _ _ _ _ true rfl (dD D 28) (dD D 30) (by simp))) (nS 35 (sV rfl (fun a u E D hk=>qY _ Tryz.underlying4 _ _ _ rfl (dD D 34) ((JJ (J.out) hk) 13 _ rfl))) (nS 37 (sV rfl (fun a u E D hk=>qY _ Tryz.underlying4 _ _ _ rfl (dD D 36) ((JJ (N.out) hk) 13 _ rfl))) (nS 38 (sV rfl (fun a u E D hk=>exec_eqb _ _ _ _ _ true rfl (dD D 35) (dD D 37) (by simp))) (nS 42 (ldF (fun u hk=>(JJ (J.out) hk) 14 _ rfl)) (nS 44 (ldF (fun u hk=>(JJ (N.out) hk) 14 _ rfl)) (nS 45 (aV rfl (fun a u E D hk=>JY rfl (dD D 42) (dD D 44)) (Ky rfl)) nZ))))))))))))))))))))) ?_
 intro w1 k1
 simp only [F8]
 refine aT (.bool true) ?_
 simp only [Act.put,sA,sS,sZ]
 refine Kx ?_
 go_wp2
 go_ret
 exact ⟨rfl,k0.trans k1⟩
theorem outs_at {w:World} {base:Nat} {G:Nat→Prop} {v:Value} {L:List Ot} {Z:List (Ot × Value)} (h:Outs w base G v L Z) {i:Nat} {x:Ot} (hx:L[i]?=some x):∃ y,Z[i]?=some (x,y):=by
 rw [← h.eq,List.getElem?_map] at hx
 cases e:Z[i]? with
 | none=>rw [e] at hx;cases hx
 | some z=>
  rw [e] at hx
  injection hx with hx
  obtain ⟨a,b⟩:=z
  exact ⟨b,by rw [← hx]⟩
theorem kouts_any (va vb:Value) (L:List Ot) (Za Zb:List (Ot × Value)) (w:World) (ba bb:Nat) (Ga Gb:Nat→Prop) (ha:Outs w ba Ga va L Za) (hb:Outs w bb Gb vb L Zb) (hl:∀ x ∈ L,x.c.f.length≤2000000) (hL:L.length≤1000000):Gives 6 #[va,vb] w (.eq (.bool true)):=by
 refine QW ?_
 obtain ⟨n,hn⟩:∃ n,L.length=n:=⟨_,rfl⟩
 have HN:=Kj hn
 have HA:=Kj ha
 have HB:=Kj hb
 have H:Hid (Sl w 66 15 va n (outc Za)):=by show Sl _ _ _ _ _ _;rw [← hn,← ha.len];exact ha.sl
 have I:Hid (Sl w 66 15 vb n (outc Zb)):=by show Sl _ _ _ _ _ _;rw [← hn,← hb.len];exact hb.sl
 have HF:=Kj hl
 rw [hn] at hL
 clear ha hb hl hn
 go_enter Tryz.func6,Tryz.ntmps6
 go_upto_region 1 with fail
 refine wA 5 [va,iV (n:Int),vb,iV (n:Int),bV false] [6,7,8,9,10] (nS 1 (sV rfl (fun a u E D hk=>Jx _ slC _ _ _ _ rfl (dD D 0) (H.out.kept hk))) (nS 3 (sV rfl (fun a u E D hk=>Jx _ slC _ _ _ _ rfl (dD D 2) (I.out.kept hk))) (nS 4 (aV rfl (fun a u E D hk=>Xj rfl (dD D 1) (dD D 3)) (by simp)) nZ))) ?_
 intro w0 k0
 simp only [F8]
 go_upto_region 3 with fail
 refine wA 3 [va,iV (n:Int),iV 0] [11,12,13] (nS 1 (sV rfl (fun a u E D hk=>Jx _ slC _ _ _ _ rfl (dD D 0) ((H.out.kept k0).kept hk))) nZ) ?_
 intro w1 k1
 simp only [F8]
 have a9:=k0.trans k1
 clear k0 k1
 go_wp2_with fail
 go_loopw [13] (fun q wr=>∃ (i:Nat),i≤n∧q=.int .i64 (i:Int)∧Kept w wr) (fun q _=>n-(intOf q).toNat)
 case atStart=>exact ⟨0,Nat.zero_le _,rfl,a9⟩
 obtain ⟨i,hi,rfl,j⟩:=hrel
 by_cases hlt:i<n
 ·obtain ⟨x,hx⟩:∃ x,L[i]?=some x:=⟨L[i]'(by rw [HN.out];exact hlt),List.getElem?_eq_getElem (by rw [HN.out];exact hlt)⟩
  obtain ⟨ya,J⟩:=outs_at HA.out hx
  obtain ⟨yb,N⟩:=outs_at HB.out hx
  have a4:=HF.out x (List.mem_of_getElem? hx)
  obtain ⟨ga,oa,ca,rfl⟩:=H.out.some_ (by omega)
  obtain ⟨gb,ob,cb,rfl⟩:=I.out.some_ (by omega)
  have a8:Hid (wr.rangeAt ga (oa+i*15) (x.cells ya)):=JJ (H.out.rngC i (x,ya) J) j
  have a5:Hid (wr.rangeAt gb (ob+i*15) (x.cells yb)):=JJ (I.out.rngC i (x,yb) N) j
  have a7:=Kj ((HA.out.fl (x,ya) (List.mem_of_getElem? J)).kept j)
  have a6:=Kj ((HB.out.fl (x,yb) (List.mem_of_getElem? N)).kept j)
  clear hx J N
  go_upto_region 5 with fail
  refine wA 2 [iV (i:Int),iV (i:Int)] [15,5] nZ ?_
  intro wa O
  simp only [F8]
  have a1:=Kj (JJ a8.out O)
  have a3:=Kj (JJ a5.out O)
  have U:=Kj (a7.out.kept O)
  have a2:=Kj (a6.out.kept O)
  go_upto_region 6 with fail
  refine wH 10 [.slice (some ⟨ga,oa,none⟩) n ca,iV (i:Int),pV ga (oa+i*15),x.v ya,.slice (some ⟨gb,ob,none⟩) n cb,iV (i:Int),pV gb (ob+i*15),x.v yb,bV true,bV false] [16,17,18,19,20,21,22,23,24,25] (nS 2 (ixV slC (oa) n i ((i:Int)) (hlt)) (nS 3 (ldS Tryz.underlying66 (fun u hk=>JJ (a1.out) hk) (by rw [Ot.len15];exact szC)) (nS 6 (ixV slC (ob) n i ((i:Int)) (hlt)) (nS 7 (ldS Tryz.underlying66 (fun u hk=>JJ (a3.out) hk) (by rw [Ot.len15];exact szC)) (nS 8 (cV Tryz.func21 (fun u hk=>koutT_any x ya yb u (U.out.kept hk) (a2.out.kept hk) a4)) (nS 9 (sV rfl (fun a u E D hk=>YX _ _ true rfl (dD D 8))) nZ)))))) ?_
  intro wb kb
  simp only [F8]
  have kk:=(j.trans O).trans kb
  clear O kb j
  go_wp2
  exact ⟨⟨i+1,by omega,by go_num,kk⟩,by simp [intOf];omega⟩
 go_wp2
 go_ret
 exact ⟨rfl,j⟩
theorem add_go {B:Bok} {o:Ord} {m:Mt} (D:B.err o=0) (j:B.matched o=m):B.add o=(⟨o,m.f,m.left,decide (0<m.left) && !m.self && (decide (o.k=1) || decide (o.k=5)),m.self,0⟩,
  if (decide (0<m.left) && !m.self && (decide (o.k=1) || decide (o.k=5)))=true then ({ B.put (3-o.side) m.L with last:=Zq B.last m.f,no:=B.no+m.f.length }:Bok).put o.side (WY (o.cut m.left) (({ B.put (3-o.side) m.L with last:=Zq B.last m.f,no:=B.no+m.f.length }:Bok).sd o.side)) else { B.put (3-o.side) m.L with last:=Zq B.last m.f,no:=B.no+m.f.length }):=by
 subst j
 unfold Bok.add
 rw [if_neg (by simp [D])]
 rfl
theorem JQy {M:Mkt} {o:Ord} {y:Oc} {j:Bok} (N:M.err o=0) (H:M.waits o=false) (I:M.b.add o.free=(y,j)) (J:y.err=0):M.add o=(⟨{ y with o:=o },false⟩::(Mkt.mk j M.w).cas.1,(Mkt.mk j M.w).cas.2):=by
 have D:M.arrive o=(⟨{ y with o:=o },false⟩,⟨j,M.w⟩):=by
  unfold Mkt.arrive
  rw [if_neg (fun h=>h N),if_neg (by rw [H];decide)]
  unfold Bok.enter
  rw [I]
 unfold Mkt.add
 rw [D,if_neg (fun h=>h J)]
def mkS (firm id side price qty stop:Int):Ord:=⟨firm,id,firm,side,1,price,qty,0,stop⟩
def s1:Ord:=mkS 1 1 2 10 5 0
def s2:Ord:=mkS 1 2 2 11 5 0
def s3:Ord:=mkS 2 1 1 12 3 10
def s4:Ord:=mkS 3 1 1 10 5 0
def os2:Ot:=⟨⟨s2,[],5,true,false,0⟩,false⟩
theorem madd_at (w:World) (F:Nat→Prop) (p:Nat) (M:Mkt) (o:Ord) (x:List Ot × Mkt) (hx:M.add o=x) (h:Mk w F p M) (D:InvK M) (j:M.b.no≤900000000000):Calls Tryz.prog 7 #[.pointer (some ⟨p,0,none⟩),o.v] w (MAddIn w F p x):=by
 rw [← hx]
 exact madd_any w F p M o h D j
theorem map_1 {x:Ot} {Z:List (Ot × Value)} (h:Z.map (·.1)=[x]):∃ j,Z=[(x,j)]:=by
 cases Z with
 | nil=>cases h
 | cons z Z=>
  rw [List.map_cons,List.cons.injEq] at h
  rw [List.map_eq_nil_iff.1 h.2,← h.1]
  exact ⟨z.2,rfl⟩
theorem madd_frame {w0 I j wc:World} {F F':Nat→Prop} (J:Kept w0 I) (N:∀ b,F b→w0.heap.size≤b) (D:Kept I j) (hk:Keep F j wc) (O:Grow j F F'):Kept w0 wc∧∀ b,F' b→w0.heap.size≤b:=
 ⟨Keep.trans (S:=fun _=>False) (T:=F) (J.trans D) hk (fun b H h=>by have:=N b h;omega),fun b H=>(O b H).elim (N b) (fun h=>by have:=J.size;have:=D.size;omega)⟩
def Kq.st (q:Kq):Int:=if wi q.x 0 32<11 then 95+wi q.x 0 32 else 0
def Kq.so (q:Kq):Ord:={ q.o with stop:=q.st }
theorem arrive_err {M:Mkt} {o:Ord} (h:(M.arrive o).1.c.err≠0):(M.arrive o).2=M:=by
 unfold Mkt.arrive at h ⊢
 by_cases he:M.err o≠0
 ·rw [if_pos he]
 rw [if_neg he] at h ⊢
 by_cases hw:M.waits o=true
 ·rw [if_pos hw] at h
  exact absurd rfl h
 rw [if_neg hw] at h ⊢
 have j:M.b.err o.free≠0:=by
  intro e
  apply h
  show (M.b.add o.free).1.err=0
  unfold Bok.add
  rw [if_neg (fun h=>h e)]
 have:(M.b.enter o).2=M.b:=by unfold Bok.enter;rw [yj j]
 simp only [this]
def Quiet (M:Mkt):Prop:=∀ o ∈ M.w,o.hit M.b.last=false
theorem Quiet.add {M:Mkt} (h:Quiet M) (o:Ord):Quiet (M.add o).2:=by
 unfold Mkt.add
 by_cases he:(M.arrive o).1.c.err≠0
 ·rw [if_pos he,arrive_err he]
  exact h
 rw [if_neg he]
 exact cas_quiet _ _ (Nat.le_refl _)
theorem all_keys (M:Mkt) (k:Int × Int):(M.all.map Ord.key).count k=cnt k M.b.all+(M.w.map Ord.key).count k:=by
 unfold Mkt.all cnt Bok.all XJ
 simp only [List.map_append,List.count_append,List.map_map]
 rfl
theorem InvK.nodup {M:Mkt} (h:InvK M):(M.all.map Ord.key).Nodup:=List.nodup_iff_count.2 fun k=>by
 rw [all_keys]
 exact h.once k
theorem all_len (M:Mkt):M.all.length=M.len:=by
 unfold Mkt.all Mkt.len Bok.len Bok.all XJ
 simp only [List.length_append,List.length_map]
theorem idx_ords (t i:Int) (X:List Ent):(X.map (·.o)).findIdx (Ord.is t i)=Wj t i X:=by
 unfold Wj
 rw [List.findIdx_map]
 rfl
theorem findE_findO (t i:Int) (X:List Ent):findE t i X=qq t i (X.map (·.o)):=by
 unfold findE qq
 rw [idx_ords,List.getElem?_map]
 cases X[Wj t i X]? <;> rfl
theorem findO_append (t i:Int) (X Y:List Ord):qq t i (X++Y)=if (qq t i X).2=true then ((qq t i X).1,true) else qq t i Y:=by
 unfold qq
 rw [List.findIdx_append]
 cases e:X[X.findIdx (Ord.is t i)]? with
 | some o=>
  have j:=(List.getElem?_eq_some_iff.1 e).1
  rw [if_pos j,List.getElem?_append_left j,e]
  rfl
 | none=>
  have j:=List.getElem?_eq_none_iff.1 e
  rw [if_neg (by omega),List.getElem?_append_right (by omega),Nat.add_sub_cancel]
  rfl
theorem ords_all (M:Mkt):M.all=M.b.all.map (·.o)++M.w:=by
 unfold Mkt.all Bok.all XJ
 rw [List.map_append]
theorem find_all (M:Mkt) (t i:Int):M.find t i=qq t i M.all:=by
 rw [ords_all,findO_append,← findE_findO]
 rfl
theorem idx_at {X:List Ord} (h:(X.map Ord.key).Nodup) {k:Nat} {x:Ord} (hx:X[k]?=some x):X.findIdx (Ord.is x.tr x.id)=k:=by
 obtain ⟨hk,rfl⟩:=List.getElem?_eq_some_iff.1 hx
 rw [List.findIdx_eq hk]
 refine ⟨by simp [Ord.is],fun j D=>?_⟩
 have:=List.pairwise_iff_getElem.1 h j k (by simpa using (by omega:j<X.length)) (by simpa using hk) D
 simp only [List.getElem_map,Ord.key] at this
 simp only [Ord.is]
 rw [← Bool.decide_and]
 refine Ku fun e=>this ?_
 rw [e.1,e.2]
def mx (p q:Int):Int:=if p<q then q else p
def Ord.chg (o:Ord) (p n:Int):Ord:={ o with price:=p,qty:=n,shw:=mx 0 (mn o.shw n) }
def Mkt.less (M:Mkt) (t i n:Int):Bool × Mkt:=((M.b.less t i n).1,⟨(M.b.less t i n).2,M.w⟩)
def Mkt.back (M:Mkt) (t i:Int) (c:Ord):List Ot × Mkt:=(M.remove t i).2.2.add c
def Mkt.amend (M:Mkt) (t i p n:Int):List Ot × Int × Mkt:=
 if (M.find t i).2=false then ([],6,M)
 else if ((M.find t i).1.chg p n).right=false then ([],1,M)
 else if p=(M.find t i).1.price∧(M.less t i n).1=true then ([],0,(M.less t i n).2)
 else ((M.back t i ((M.find t i).1.chg p n)).1,0,(M.back t i ((M.find t i).1.chg p n)).2)
theorem less_few {B:Bok} (h:Inv B) (t i n:Int) (k:Int × Int):cnt k (B.less t i n).2.all=cnt k B.all∧(B.less t i n).2.len=B.len:=by
 have D:=JQj t i n B.buys h.two.mine
 have j:=JQj t i n B.sells h.two.theirs
 unfold Bok.less
 split
 ·have:=D.cnts k
  have:=D.len
  simp only [Bok.all,Bok.len,YY,List.length_append]
  omega
 split
 ·have:=j.cnts k
  have:=j.len
  simp only [Bok.all,Bok.len,YY,List.length_append]
  omega
 exact ⟨rfl,rfl⟩
theorem InvK.less {M:Mkt} (h:InvK M) (t i n:Int):InvK (M.less t i n).2∧(M.less t i n).2.b.no=M.b.no:=by
 obtain ⟨D,j⟩:=inv_less h.inv t i n
 refine ⟨⟨D,?_,h.good,fun k=>?_⟩,j⟩
 ·have:=(less_few h.inv t i n (0,0)).2
  have:=h.few
  unfold Mkt.less
  simp only
  omega
 have:=(less_few h.inv t i n k).1
 have:=h.once k
 unfold Mkt.less
 simp only
 omega
theorem InvK.back {M:Mkt} (h:InvK M) (t i:Int) (c:Ord):InvK (M.back t i c).2∧M.b.no≤(M.back t i c).2.b.no∧(M.back t i c).2.b.no≤M.b.no+70000000:=by
 obtain ⟨j,h2⟩:=h.remove t i
 have:=add_no j c
 unfold Mkt.back
 exact ⟨j.add c,by omega,by omega⟩
theorem InvK.amend {M:Mkt} (h:InvK M) (t i p n:Int):InvK (M.amend t i p n).2.2∧(M.amend t i p n).2.2.b.no≤M.b.no+70000000:=by
 unfold Mkt.amend
 split
 ·exact ⟨h,by simp only;omega⟩
 split
 ·exact ⟨h,by simp only;omega⟩
 split
 ·obtain ⟨j,D⟩:=h.less t i n
  exact ⟨j,by simp only;omega⟩
 obtain ⟨j,D,H⟩:=h.back t i ((M.find t i).1.chg p n)
 exact ⟨j,H⟩
def shrU (T t:Int):Int:=T.fdiv (2 ^ (min t.toNat 64))
def bitB (T t:Int):Bool:=decide (bits .and .u64 (shrU T t) 1=1)
def UZ (T:Int) (X:List Ord):List Ord:=X.filter fun o=>bitB T o.tr
def massS (T:Int) (M:Mkt) (o:Ord):Mkt:=if bitB T o.tr=true then (M.remove o.tr o.id).2.2 else M
def massL (T:Int) (X:List Ord) (M:Mkt):Mkt:=X.foldl (massS T) M
theorem massL_next (T:Int) (X:List Ord) (M:Mkt) (k:Nat) (o:Ord) (h:X[k]?=some o):massL T (X.take (k+1)) M=massS T (massL T (X.take k) M) o:=by
 unfold massL
 rw [List.take_add_one,h,Option.toList_some,List.foldl_append]
 rfl
theorem goneM_next (T:Int) (X:List Ord) (k:Nat) (o:Ord) (h:X[k]?=some o):UZ T (X.take (k+1))=UZ T (X.take k)++(if bitB T o.tr=true then [o] else []):=by
 unfold UZ
 rw [List.take_add_one,h,Option.toList_some,List.filter_append]
 congr 1
 rw [List.filter_cons]
 cases bitB T o.tr <;> rfl
theorem InvK.massS {M:Mkt} (h:InvK M) (T:Int) (o:Ord):InvK (massS T M o)∧(Go.Proofs.YtklohceombpleaaGreat.massS T M o).b.no=M.b.no:=by
 unfold Go.Proofs.YtklohceombpleaaGreat.massS
 split
 ·exact h.remove _ _
 exact ⟨h,rfl⟩
theorem InvK.massL (T:Int):∀ (X:List Ord) {M:Mkt},InvK M→InvK (massL T X M)∧(Go.Proofs.YtklohceombpleaaGreat.massL T X M).b.no=M.b.no
 | [],M,h=>⟨h,rfl⟩
 | o::X,M,h=>by
  obtain ⟨H,j⟩:=h.massS T o
  obtain ⟨D,I⟩:=InvK.massL T X H
  exact ⟨D,I.trans j⟩
def qtyOf (t:Int) (o:Ord):Int:=if o.tr=t then o.qty else 0
def qy (t:Int) (X:List Ord):Int:=Wx (X.map (qtyOf t))
theorem openM_next (t:Int) (X:List Ord) (k:Nat) (o:Ord) (h:X[k]?=some o):qy t (X.take (k+1))=qy t (X.take k)+qtyOf t o:=by
 unfold qy
 rw [List.take_add_one,h,Option.toList_some,List.map_append,sumI_append]
 simp [Wx]
structure Ord.Fair (o:Ord):Prop where
 tr0:0≤o.tr
 tr1:o.tr≤31
 qty0:1≤o.qty
 qty1:o.qty≤1048576
 shw0:0≤o.shw
theorem ordsL_at {s:Int} {L:List Lev} (h:Sid s L):∀ o ∈ XJ L,∃ l ∈ L,∃ e ∈ l.2,e.At s l.1∧e.o=o:=by
 intro o D
 unfold XJ at D
 obtain ⟨e,j,rfl⟩:=List.mem_map.1 D
 unfold YZ at j
 obtain ⟨l,H,j⟩:=List.mem_flatMap.1 j
 exact ⟨l,H,e,j,h.at_ l H e j,rfl⟩
theorem at_fair {s p:Int} {e:Ent} (h:e.At s p):e.o.Fair:=by
 have j:=h.stt
 unfold Ord.stt at j
 have:=h.pos
 have:=h.le
 exact ⟨j.1.1,j.1.2,by omega,h.few,h.shw0⟩
theorem InvK.fair {M:Mkt} (h:InvK M):∀ o ∈ M.all,o.Fair:=by
 intro o j
 unfold Mkt.all at j
 rcases List.mem_append.1 j with j | j
 ·rcases List.mem_append.1 j with j | j
  ·obtain ⟨l,_,e,_,D,rfl⟩:=ordsL_at h.inv.two.mine o j
   exact at_fair D
  obtain ⟨l,_,e,_,D,rfl⟩:=ordsL_at h.inv.two.theirs o j
  exact at_fair D
 have:=(UQ o).1 (h.good o j).1
 exact ⟨by omega,by omega,by omega,by omega,by omega⟩
theorem openM_in (t:Int):∀ X:List Ord,(∀ o ∈ X,o.Fair)→0≤qy t X∧qy t X≤1048576*(X.length:Int)
 | [],_=>by simp [qy,Wx]
 | o::X,h=>by
  have ih:=openM_in t X (fun x hx=>h x (List.mem_cons_of_mem _ hx))
  have j:=h o List.mem_cons_self
  have h1:=j.qty0
  have h2:=j.qty1
  have e:qy t (o::X)=qtyOf t o+qy t X:=rfl
  rw [e,List.length_cons]
  unfold qtyOf
  split <;> omega
theorem find_mem {M:Mkt} {t i:Int} (h:(M.find t i).2=true):∃ k:Nat,M.all[k]?=some (M.find t i).1∧(M.find t i).1.tr=t∧(M.find t i).1.id=i:=by
 rw [find_all] at h ⊢
 unfold qq at h ⊢
 cases e:M.all[M.all.findIdx (Ord.is t i)]? with
 | none=>rw [e] at h;cases h
 | some o=>
  have j:=(find_is e).1
  simp only [Ord.is,Bool.and_eq_true,decide_eq_true_eq] at j
  exact ⟨_,e,j.1,j.2⟩
theorem InvK.all_few {M:Mkt} (h:InvK M):M.all.length≤64:=by
 rw [all_len]
 exact h.few
theorem exec_mx {a:Act} {o:Oper} {u:World} (x y:Operand) (D:Array TypeId) (p q:Int) (j:o.op=.call { callee:=.builtin .max,args:=#[x,y],argTypes:=D }) (hx:a.eval x=.int .i64 p) (H:a.eval y=.int .i64 q):(execOp a.eval o).run Tryz.prog u=.ok (.value (.int .i64 (mx p q))) u:=by
 unfold mx
 unfold execOp
 simp only [j,resolve,invoke,builtin,Sem.run_bind,Sem.run_pure,Result.andThen_ok,List.map_toArray,List.map_cons,List.map_nil,hx,H]
 simp [go_sem]
theorem exec_shrU {a:Act} {o:Oper} {u:World} (x y:Operand) (D t':TypeId) (p q:Int) (j:o.op=.binOp .shr D x y t') (hx:a.eval x=.int .u64 p) (H:a.eval y=.int .i64 q) (h0:0≤q):(execOp a.eval o).run Tryz.prog u=.ok (.value (.int .u64 (shrU p q))) u:=by
 unfold execOp
 simp only [j,hx,H]
 simp [go_sem,Op.shift,shrU,show ¬ q<0 by omega,IntKind.bits]
theorem exec_andU {a:Act} {o:Oper} {u:World} (x y:Operand) (D t':TypeId) (p q:Int) (j:o.op=.binOp .and D x y t') (hx:a.eval x=.int .u64 p) (H:a.eval y=.int .u64 q):(execOp a.eval o).run Tryz.prog u=.ok (.value (.int .u64 (bits .and .u64 p q))) u:=by
 unfold execOp
 simp only [j,hx,H]
 simp [go_sem]
theorem exec_eqU {a:Act} {o:Oper} {u:World} (x y:Operand) (D t':TypeId) (p q:Int) (b:Bool) (j:o.op=.binOp .eql D x y t') (hx:a.eval x=.int .u64 p) (H:a.eval y=.int .u64 q) (I:decide (p=q)=b):(execOp a.eval o).run Tryz.prog u=.ok (.value (.bool b)) u:=by
 subst I
 unfold execOp
 simp only [j,hx,H]
 simp [go_sem]
 rw [Bool.eq_iff_iff];simp
theorem chg_l (o:Ord) (p n:Int):stc (((o.l.set 5 p).set 6 n).set 7 (mx 0 (mn o.shw n))) []=(o.chg p n).cells:=rfl
theorem changed_any (o:Ord) (p n:Int) (w:World):Gives 34 #[o.v,.int .i64 p,.int .i64 n] w (.eq (o.chg p n).v):=by
 refine QW ?_
 go_enter Tryz.func34,Tryz.ntmps34
 go_upto_region 0 with fail
 refine tAp 1 [.k (.fresh w.heap.size 35 (o.cells))] (nS 0 (nV rfl (fun a u E D hk=>⟨_,_,XV 35 _ (o.cells) rfl (eE E),⟨_,rfl,hk.size,Blk.new u _ _⟩,((Keep.refl _ u).alloc _)⟩)) nZ) ?_
 intro gv w0 hV k0
 rw [dq 1 [3]]
 simp only [Fz7]
 have a8:(.fresh w.heap.size 35 (o.cells):Kn).p (gv 3) w0:=hV 0 3 (by kernel_rfl)
 generalize gv 3=v3 at a8 ⊢
 clear hV
 obtain ⟨N,rfl,hg3,j⟩:=a8
 refine nT zO ?_
 intro w1 I k1
 simp only [Act.put,sA,sS,sZ]
 refine Kx ?_
 obtain ⟨g6,al⟩:∃ a,w0.heap.size=a:=⟨_,rfl⟩
 rw [al] at I ⊢
 have l3:=j.lt
 have l6:=I.lt
 have z0:=k0.size
 have z1:=k1.size
 have a9:=Kj (j.kept k1)
 have a6:=Kj I
 clear j I
 go_upto_region 1 with fail
 refine wAp 2 [iV p,pV N 5] [7,8] nZ ?_
 intro w2 k2
 simp only [F8]
 refine xy N 5 35 o.l [] p _ _ rfl rfl (by kernel_rfl) (by kernel_rfl) (a9.out.kept k2) (by simp [Ord.l]) ?_
 intro w3 j J aj
 simp only [Act.put]
 refine Kx ?_
 have a3:=Kj j
 have a4:=Kj ((a6.out.kept k2).keep J (by omega))
 have a7:Kept w w3:=((k0.trans k1).trans k2).trans' J (by omega)
 have z3:=a7.size
 clear j J aj k2 a9 a6
 go_upto_region 2 with fail
 refine wAp 2 [iV n,pV N 6] [9,10] nZ ?_
 intro w4 k4
 simp only [F8]
 refine xy N 6 35 (o.l.set 5 p) [] n _ _ rfl rfl (by kernel_rfl) (by kernel_rfl) (a3.out.kept k4) (by simp [Ord.l]) ?_
 intro w5 aa U ah
 simp only [Act.put]
 refine Kx ?_
 have O:=Kj aa
 have ac:=Kj ((a4.out.kept k4).keep U (by omega))
 have ad:Kept w w5:=(a7.trans k4).trans' U (by omega)
 have z5:=ad.size
 clear aa U ah k4 a3 a4
 go_upto_region 3 with fail
 refine wAp 6 [pV N 7,iV o.shw,iV n,iV (mn (o.shw) (n)),iV (mx 0 (mn o.shw n)),pV N 7] [11,12,13,14,15,16] (nS 1 (sV rfl (fun a u E D hk=>JZ _ Tryz.underlying3 _ _ _ rfl (dD D 0) (by rw [(O.out.kept hk).cell];rfl))) (nS 3 (sV rfl (fun a u E D hk=>jW _ _ _ (o.shw) (n) (mn (o.shw) (n)) rfl (dD D 1) (dD D 2) rfl)) (nS 4 (sV rfl (fun a u E D hk=>exec_mx _ _ _ 0 (mn o.shw n) rfl rfl (dD D 3))) nZ))) ?_
 intro w6 k6
 simp only [F8]
 refine xy N 7 35 ((o.l.set 5 p).set 6 n) [] (mx 0 (mn o.shw n)) _ _ rfl rfl (by kernel_rfl) (by kernel_rfl) (O.out.kept k6) (by simp [Ord.l]) ?_
 intro w7 H a1 af
 simp only [Act.put]
 refine Kx ?_
 rw [chg_l] at H
 obtain ⟨c,hc⟩:∃ c,o.chg p n=c:=⟨_,rfl⟩
 rw [hc] at H
 have HC:=Kj hc
 have ab:=Kj (JX H)
 have ae:=Kj ((ac.out.kept k6).keep a1 (by omega))
 have a2:Kept w w7:=(ad.trans k6).trans' a1 (by omega)
 have z7:=a2.size
 clear H a1 af k6 O ac hc
 go_upto_region 4 with fail
 refine wAp 1 [c.v] [17] (nS 0 (ldO ab.out) nZ) ?_
 intro w8 k8
 simp only [F8]
 refine sO c (ae.out.kept k8) ?_
 intro w9 ak a5 ai
 simp only [Act.put]
 refine Kx ?_
 have ag:Kept w w9:=(a2.trans k8).trans' a5 (by omega)
 clear ab ae k8 a5 ai
 go_wp2
 refine bodyPost_ret (QU (p:=6) rfl _ _ g6 _ c.cells rfl ak Tryz.underlying35 (by rw [Ord.len9];exact JU)) rfl ?_
 rw [HC.out]
 exact ⟨rfl,ag⟩
theorem isIn_any (T t:Int) (w:World) (H:0≤t):Gives 42 #[.int .u64 T,.int .i64 t] w (.eq (.bool (bitB T t))):=by
 refine QW ?_
 go_enter Tryz.func42,Tryz.ntmps42
 go_upto_region 1 with fail
 refine wA 6 [.int .u64 T,iV t,.int .u64 (shrU T t),.int .u64 (bits .and .u64 (shrU T t) 1),bV (bitB T t),bV (bitB T t)] [5,6,7,8,9,4] (nS 2 (sV rfl (fun a u E D hk=>exec_shrU _ _ _ _ T t rfl (dD D 0) (dD D 1) H)) (nS 3 (sV rfl (fun a u E D hk=>exec_andU _ _ _ _ (shrU T t) 1 rfl (dD D 2) rfl)) (nS 4 (sV rfl (fun a u E D hk=>exec_eqU _ _ _ _ _ 1 (bitB T t) rfl (dD D 3) rfl rfl)) nZ))) ?_
 intro w0 j
 simp only [F8]
 go_wp2
 go_ret
 exact ⟨rfl,j⟩
theorem mopen_any (w:World) (F:Nat→Prop) (p:Nat) (j:Mkt) (t:Int) (h:Mk w F p j) (hI:InvK j):Gives 17 #[.pointer (some ⟨p,0,none⟩),.int .i64 t] w (.eq (.int .i64 (qy t j.all))):=by
 refine QW ?_
 have HM:=Kj h
 have HI:=Kj hI
 have HF:=Kj hI.fair
 obtain ⟨H,a5⟩:∃ H,j.all.length=H:=⟨_,rfl⟩
 have hal:H≤64:=by rw [← a5];exact hI.all_few
 have hwl:j.w.length≤64:=by have:=hI.few;omega
 have a3:=Kj a5
 clear h hI a5
 go_enter Tryz.func17,Tryz.ntmps17
 go_upto_region 2 with fail
 refine tA 4 [pK p 0,.k (.sl w.heap.size 35 9 H (ords j.all)),iK (H:Int),iK 0] [8,9,10,11] (nS 1 (cV Tryz.func15 (fun u hk=>(by rw [← a3.out];exact (mall_any u F p j (HM.out.kept hk) HI.out.inv (by omega)).base hk.size))) (nS 2 (sV rfl (fun a u E D hk=>Jx _ slO _ _ _ _ rfl rfl (D 1 9 (by kernel_rfl)).1)) nZ)) ?_
 intro gv w0 hV k0
 simp only [Fz7]
 have a4:(.sl w.heap.size 35 9 H (ords j.all):Kn).p (gv 9) w0:=hV 1 9 (by kernel_rfl)
 generalize gv 9=v9 at a4 ⊢
 rw [gQ hV 2 10 (.int .i64 (H:Int))]
 rw [gQ hV 3 11 (.int .i64 0)]
 clear hV
 obtain ⟨va,af⟩:∃ x,x=v9:=⟨_,rfl⟩
 subst af
 have HA:=Kj a4.1
 clear a4
 go_wp2_with fail
 go_loopw [5,11] (fun s x wr=>∃ (k:Nat),k≤H∧x=.int .i64 (k:Int)∧s=.int .i64 (qy t (j.all.take k))∧Kept w0 wr) (fun s x _=>H-(intOf x).toNat)
 case atStart=>exact ⟨0,Nat.zero_le _,rfl,rfl,Kept.refl _⟩
 obtain ⟨k,hk,rfl,rfl,J⟩:=hrel
 by_cases hkm:k<H
 ·obtain ⟨ga,oa,ca,rfl⟩:=HA.out.some_ (by omega)
  obtain ⟨x,hx⟩:∃ e,j.all[k]?=some e:=⟨j.all[k]'(by rw [a3.out];exact hkm),List.getElem?_eq_getElem _⟩
  have HX:Hid (wr.rangeAt ga (oa+k*9) x.cells):=JJ (HA.out.rngO k x hx) J
  have a7:=Kj (openM_next t j.all k x hx)
  have ae:=openM_in t (j.all.take k) (fun o ho=>HF.out o (List.mem_of_mem_take ho))
  have a1:=HF.out x (List.mem_of_getElem? hx)
  have hq0:=a1.qty0
  have hq1:=a1.qty1
  have hl64:(j.all.take k).length≤64:=by rw [List.length_take];omega
  have HQ:Hid (qtyOf t x=if x.tr=t then x.qty else 0):=rfl
  obtain ⟨s0,a9⟩:∃ s,qy t (j.all.take k)=s:=⟨_,rfl⟩
  rw [a9] at ae a7 ⊢
  clear hx a1 a9
  go_upto_region 4 with fail
  refine wAp 2 [pV ga (oa+k*9),x.v] [13,14] (nS 0 (ixV slO (oa) H k ((k:Int)) (hkm)) (nS 1 (ldO HX.out) nZ)) ?_
  intro w5 k5
  simp only [F8]
  refine nT zO ?_
  intro w6 U k6
  refine sO x U ?_
  intro w7 a2 a8 ac
  simp only [Act.put,sA,sS,sZ]
  refine Kx ?_
  obtain ⟨b7,h7⟩:∃ a,w5.heap.size=a:=⟨_,rfl⟩
  rw [h7] at U a2 a8 ⊢
  have z5:=k5.size
  have N:Kept w0 w7:=J.trans ((k5.trans k6).trans' a8 (by omega))
  have I:=Kj (JX a2)
  clear U a2 a8 ac k6 k5 J HX
  by_cases ht:x.tr=t
  ·have a6:Hid (s0+x.qty=qy t (j.all.take (k+1))):=by show _=_;rw [a7.out,HQ.out,if_pos ht]
   go_upto_region 5 with fail
   refine wA 4 [pV b7 0,iV x.tr,iV t,bV true] [15,16,17,18] (nS 1 (ldR I.out 0) (nS 3 (aV rfl (fun a u E D hk=>JY rfl (dD D 1) (dD D 2)) (Ky ht)) nZ)) ?_
   intro w8 k8
   simp only [F8]
   have aa:=Kj (JJ I.out k8)
   have O:=N.trans k8
   clear I N k8
   go_upto_region 6 with fail
   refine wAp 4 [iV s0,pV b7 6,iV x.qty,iV ((s0:Int)+(x.qty:Int))] [19,20,21,22] (nS 2 (ldR aa.out 6) (nS 3 (sV rfl (fun a u E D hk=>YQ (p:=(s0)) (q:=(x.qty)) ((s0:Int)+(x.qty:Int)) rfl (dD D 0) (dD D 2) rfl (by omega) (by omega))) nZ)) ?_
   intro w9 k9
   simp only [F8]
   refine aT (.int .i64 ((s0:Int)+(x.qty:Int))) ?_
   simp only [Act.put,sA,sS,sZ]
   refine Kx ?_
   rw [a6.out]
   have ad:=O.trans k9
   clear aa O k9
   go_wp2
   exact ⟨⟨k+1,by omega,by go_num,rfl,ad⟩,by simp [intOf];omega⟩
  have a6:Hid (s0=qy t (j.all.take (k+1))):=by show _=_;rw [a7.out,HQ.out,if_neg ht];omega
  go_upto_region 5 with fail
  refine wA 4 [pV b7 0,iV x.tr,iV t,bV false] [15,16,17,18] (nS 1 (ldR I.out 0) (nS 3 (aV rfl (fun a u E D hk=>JY rfl (dD D 1) (dD D 2)) (Ku ht)) nZ)) ?_
  intro w8 k8
  simp only [F8]
  rw [a6.out]
  have O:=N.trans k8
  clear I N k8
  go_wp2
  exact ⟨⟨k+1,by omega,by go_num,rfl,O⟩,by simp [intOf];omega⟩
 have ab:k=j.all.length:=by rw [a3.out];omega
 have HE:Hid (qy t (j.all.take k)=qy t j.all):=by show _=_;rw [ab,List.take_length]
 rw [HE.out]
 have kw:=k0.trans J
 clear ab
 go_wp2
 go_ret
 exact ⟨rfl,kw⟩
def AmdIn (w:World) (F:Nat→Prop) (p:Nat) (x:List Ot × Int × Mkt) (r:Ending) (w':World):Prop:=
 ∃ F' v Z,r=.returned (.tuple #[v,.int .i64 x.2.1])∧Mk w' F' p x.2.2∧Outs w' w.heap.size F' v x.1 Z∧Grow w F F'∧Keep F w w'
theorem outs_nil (w:World) (base:Nat) (F:Nat→Prop):Outs w base F (.slice none 0 0) [] []:=
 ⟨rfl,Sl.nil _ _ _,fun b D=>(by simp [Value.ownBlock] at D),fun z j=>(by cases j),fun z j=>(by cases j)⟩
theorem less_off {B:Bok} {t i n:Int} (h:(B.less t i n).1=false):(B.less t i n).2=B:=by
 unfold Bok.less at h ⊢
 split
 ·rename_i h1
  rw [if_pos h1] at h
  cases h
 rename_i h1
 rw [if_neg h1] at h
 split
 ·rename_i h2
  rw [if_pos h2] at h
  cases h
 rfl
theorem mless_at (w:World) (p q:Nat) (v:Value) (I:Nat→Prop) (H:Mkt) (t i n:Int) (j:MkP w p q v I H) (hI:Inv H.b):Calls Tryz.prog 37 #[.pointer (some ⟨q,0,none⟩),.int .i64 t,.int .i64 i,.int .i64 n] w fun r w'=>∃ F',r=.returned (.bool (H.less t i n).1)∧Mk w' F' p (H.less t i n).2∧Grow w (foot p v I) F'∧Keep (foot p v I) w w':=by
 refine (bless_any w I q H.b t i n j.bk hI).mono ?_
 rintro r w' ⟨N,rfl,h1,U,h3⟩
 have hpl:=j.blk.lt
 have O:¬ N p:=fun h=>(U p h).elim j.nb (fun h=>by omega)
 have hv:∀ b,v.ownBlock=some b→b≠p∧¬ N b:=fun b D=>⟨(j.nv b D).1,fun h=>(U b h).elim (j.nv b D).2 (fun h=>by have:=j.sl.lt D;omega)⟩
 have J:MkP w' p q v N (H.less t i n).2:=⟨j.blk.keep h3 j.nb,h1,j.sl.keep h3 (fun b D=>(j.nv b D).2),O,hv⟩
 exact ⟨_,rfl,J.close,fun b D=>D.elim (fun h=>.inl (.inl h)) (fun h=>(U b h).imp .inr id),h3.mono (fun b _ D=>.inr D)⟩
theorem mamend_any (w:World) (F:Nat→Prop) (p:Nat) (j:Mkt) (t i pr n:Int) (h:Mk w F p j) (hI:InvK j) (hno:j.b.no≤800000000000):Calls Tryz.prog 10 #[.pointer (some ⟨p,0,none⟩),.int .i64 t,.int .i64 i,.int .i64 pr,.int .i64 n] w (AmdIn w F p (j.amend t i pr n)):=by
 have aX:=h.lt
 have HM:=Kj h
 have HI:=Kj hI
 have hwl:j.w.length≤64:=by have:=hI.few;omega
 have aq:=Kj (hI.remove t i)
 obtain ⟨y,b,hy⟩:∃ y b,j.find t i=(y,b):=⟨_,_,rfl⟩
 obtain ⟨c,hc⟩:∃ c,y.chg pr n=c:=⟨_,rfl⟩
 have HA:Hid (j.amend t i pr n=if b=false then ([],6,j) else if c.right=false then ([],1,j) else if pr=y.price∧(j.less t i n).1=true then ([],0,(j.less t i n).2) else ((j.back t i c).1,0,(j.back t i c).2)):=by
  show _=_
  unfold Mkt.amend
  rw [hy,hc]
 have HY:=Kj hy
 have aZ:Hid (∀ u,Gives 34 #[y.v,.int .i64 pr,.int .i64 n] u (.eq c.v)):=fun u=>by rw [← hc];exact changed_any y pr n u
 clear h hI hy hc
 go_enter Tryz.func10,Tryz.ntmps10
 go_upto_region 1 with fail
 refine wAp 7 [pV p 0,iV t,iV i,.tuple #[y.v,.bool b],.tuple #[y.v,.bool b],y.v,bV b] [16,17,18,19,15,20,21] (nS 3 (cV Tryz.func33 (fun u hk=>(by have h:=mfind_any u F p j t i (HM.out.kept hk) HI.out.inv (by omega);rw [HY.out] at h;exact h))) nZ) ?_
 intro w1 k1
 simp only [F8]
 refine Vj (.pointer (some ⟨w1.heap.size,0,none⟩)) (w1.alloc (.cells JV.cells.toArray 35)) rfl (QX 35 JV.cells rfl zO) ?_
 have a5:=Blk.new w1 35 JV.cells
 have aQ:Kept w1 (w1.alloc (.cells JV.cells.toArray 35)):=(Keep.refl _ w1).alloc _
 generalize w1.alloc (.cells JV.cells.toArray 35)=w2 at a5 aQ ⊢
 simp only [Act.put,sA,sS,sZ]
 refine YV 35 w1.heap.size 35 JV.cells y.cells _ _ rfl rfl (by kernel_rfl) (by kernel_rfl) (a5) (by rw [Ord.len9];exact JU) (by rw [Ord.len9,Ord.len9]) (Ord.one1 _) ?_
 intro w3 a4 ag aR
 simp only [Act.put]
 refine UJ (.bool b) rfl (Yj _ _ rfl (by kernel_rfl)) ?_
 simp only [Act.put,sA,sS,sZ]
 refine Kx ?_
 obtain ⟨ao,b0⟩:∃ a,w1.heap.size=a:=⟨_,rfl⟩
 rw [b0] at a5 a4 ag ⊢
 have z1:=k1.size
 have a9:Kept w w3:=(k1.trans aQ).trans' ag (by omega)
 have aB:=Kj (JX a4)
 have l12:=a4.lt
 have hn12:¬ F ao:=fun h=>by have:=aX ao h;omega
 have aI:=Kj (HM.out.kept a9)
 clear a5 a4 ag aR aQ k1 HM
 cases b with
 | false=>
  have HR:Hid (j.amend t i pr n=([],6,j)):=by show _=_;rw [HA.out,if_pos rfl]
  clear HA
  go_wp2
  go_ret2
  rw [HR.out]
  exact ⟨F,_,[],rfl,aI.out,outs_nil _ _ _,Grow.refl _ _,a9.mono (fun _ _ h=>h.elim)⟩
 | true=>
  go_upto_region 4 with fail
  refine wAp 4 [y.v,iV pr,iV n,c.v] [24,25,26,27] (nS 0 (ldO aB.out) (nS 3 (cV Tryz.func34 (fun u hk=>aZ.out u)) nZ)) ?_
  intro w4 k4
  simp only [F8]
  refine Vj (.pointer (some ⟨w4.heap.size,0,none⟩)) (w4.alloc (.cells JV.cells.toArray 35)) rfl (QX 35 JV.cells rfl zO) ?_
  have a3:=Blk.new w4 35 JV.cells
  have aG:Kept w4 (w4.alloc (.cells JV.cells.toArray 35)):=(Keep.refl _ w4).alloc _
  generalize w4.alloc (.cells JV.cells.toArray 35)=w5 at a3 aG ⊢
  simp only [Act.put,sA,sS,sZ]
  refine YV 35 w4.heap.size 35 JV.cells c.cells _ _ rfl rfl (by kernel_rfl) (by kernel_rfl) (a3) (by rw [Ord.len9];exact JU) (by rw [Ord.len9,Ord.len9]) (Ord.one1 _) ?_
  intro w6 af aj aY
  simp only [Act.put]
  refine Kx ?_
  obtain ⟨a2,b1⟩:∃ a,w4.heap.size=a:=⟨_,rfl⟩
  rw [b1] at a3 af aj ⊢
  have z4:=k4.size
  have z3:=a9.size
  have ar:Kept w3 w6:=(k4.trans aG).trans' aj (by omega)
  have al:=Kj (JX af)
  have ae:¬ F a2:=fun h=>by have:=aX a2 h;omega
  have ay:=Kj (JJ aB.out ar)
  have aw:=Kj (aI.out.kept ar)
  have am:=a9.trans ar
  clear a3 af aj aY aG k4 ar a9 aB aI
  obtain ⟨e,he⟩:∃ e,c.err=e:=⟨_,rfl⟩
  have HE:=Kj he
  cases a6:c.right with
  | false=>
   have aC:e=1:=by rw [← he];unfold Ord.err;rw [a6];rfl
   subst aC
   have HR:Hid (j.amend t i pr n=([],1,j)):=by show _=_;rw [HA.out,if_neg (by decide),if_pos a6]
   clear HA he a6
   go_upto_region 5 with fail
   refine wA 3 [c.v,iV 1,bV true] [28,29,30] (nS 0 (ldO al.out) (nS 1 (cV Tryz.func35 (fun u hk=>(by rw [← HE.out];exact qJ c u))) (nS 2 (aV rfl (fun a u E D hk=>Xj rfl (dD D 1) rfl) (by decide)) nZ))) ?_
   intro w7 k7
   simp only [F8]
   have U:=am.trans k7
   have a8:=Kj (aw.out.kept k7)
   clear aw ay al am k7
   go_wp2
   go_ret2
   rw [HR.out]
   exact ⟨F,_,[],rfl,a8.out,outs_nil _ _ _,Grow.refl _ _,U.mono (fun _ _ h=>h.elim)⟩
  | true=>
   have aC:e=0:=by rw [← he];unfold Ord.err;rw [a6];rfl
   subst aC
   have a7:Hid (j.amend t i pr n=if pr=y.price∧(j.less t i n).1=true then ([],0,(j.less t i n).2) else ((j.back t i c).1,0,(j.back t i c).2)):=by show _=_;rw [HA.out,if_neg (by decide),if_neg (by rw [a6];decide)]
   clear HA he a6
   go_upto_region 5 with fail
   refine wA 3 [c.v,iV 0,bV false] [28,29,30] (nS 0 (ldO al.out) (nS 1 (cV Tryz.func35 (fun u hk=>(by rw [← HE.out];exact qJ c u))) (nS 2 (aV rfl (fun a u E D hk=>Xj rfl (dD D 1) rfl) (by decide)) nZ))) ?_
   intro w7 k7
   simp only [F8]
   have U:=am.trans k7
   have a8:=Kj (aw.out.kept k7)
   have an:=Kj (JJ ay.out k7)
   have aa:=Kj (JJ al.out k7)
   clear aw ay al am k7
   by_cases hp:pr=y.price
   ·obtain ⟨aS,q,v,Fb,hP,aW⟩:=a8.out
    have aA:=Kj hP
    have ai:=Kj aW
    obtain ⟨lb,aU⟩:∃ lb,(j.less t i n).1=lb:=⟨_,rfl⟩
    have au:=Kj aU
    have zw7:=U.size
    clear hP aW aU aS
    go_upto_region 7 with fail
    refine wAp 10 [iV pr,pV ao 5,iV y.price,bV true,bV true,pV p 0,pV q 0,iV t,iV i,iV n] [31,32,33,34,35,36,37,38,39,40] (nS 2 (ldR an.out 5) (nS 3 (aV rfl (fun a u E D hk=>JY rfl (dD D 0) (dD D 2)) (Ky hp)) (nS 6 (cV Tryz.func36 (fun u hk=>mbook_any u p q v (aA.out.blk.kept hk))) nZ))) ?_
    intro w8 k8
    simp only [F8]
    refine l_call 37 #[.pointer (some ⟨q,0,none⟩),.int .i64 t,.int .i64 i,.int .i64 n] rfl (Jy 37 _ [.tmp 37,.tmp 38,.tmp 39,.tmp 40] _ _ Tryz.func37 (by kernel_rfl) (by kernel_rfl) rfl (by kernel_rfl) _) ?_
    refine (mless_at w8 p q v Fb j t i n (aA.out.kept k8) HI.out.inv).mono ?_
    rintro r w9 ⟨F9,rfl,av,aL,aJ⟩
    refine ⟨.bool lb,by rw [au.out],?_⟩
    simp only [Act.put,sA,sS,sZ]
    refine UJ (.bool lb) rfl (JQZ (.tmp 35) (.tmp 41) (.const (.bool false)) (.bool lb) rfl (by kernel_rfl) (by kernel_rfl)) ?_
    simp only [Act.put,sA,sS,sZ]
    refine Kx ?_
    have z8:=k8.size
    have I:Hid (Grow w F F9):=fun b hb=>(aL b hb).imp (ai.out b) (fun h=>by omega)
    have J:Hid (Keep F w w9):=(Keep.any (U.trans k8) aJ).mono (fun b _ hb=>ai.out b hb)
    have ak:=Kj (QJ aa.out (Keep.any k8 aJ) (fun h=>ae (ai.out a2 h)))
    have l14:a2<w7.heap.size:=by have h:=aa.out 0 (.int .i64 c.tr) rfl;exact World.block_lt_of_cell? w7 _ h
    have aF:¬ F9 a2:=fun h=>(aL a2 h).elim (fun h=>ae (ai.out a2 h)) (fun h=>by omega)
    cases lb with
    | true=>
     have HR:Hid (j.amend t i pr n=([],0,(j.less t i n).2)):=by show _=_;rw [a7.out,if_pos ⟨hp,au.out⟩]
     clear a7
     go_wp2
     go_ret2
     rw [HR.out]
     exact ⟨F9,_,[],rfl,av,outs_nil _ _ _,I.out,J.out⟩
    | false=>
     have HR:Hid (j.amend t i pr n=(((j.remove t i).2.2.add c).1,0,((j.remove t i).2.2.add c).2)):=by show _=_;rw [a7.out,if_neg (fun h=>by have:=au.out;rw [h.2] at this;cases this)];rfl
     have ax:(j.less t i n).2=j:=by unfold Mkt.less;rw [less_off au.out]
     rw [ax] at av
     have ad:=Kj av
     clear a7 ax av aL aJ aA ai a8 an aa U k8
     go_upto_region 9 with fail
     refine wAp 3 [pV p 0,iV t,iV i] [43,44,45] nZ ?_
     intro wd kd
     simp only [F8]
     refine l_call 38 #[.pointer (some ⟨p,0,none⟩),.int .i64 t,.int .i64 i] rfl (Jy 38 _ [.tmp 43,.tmp 44,.tmp 45] _ _ Tryz.func38 (by kernel_rfl) (by kernel_rfl) rfl (by kernel_rfl) _) ?_
     refine (mremove_any wd F9 p j t i (ad.out.kept kd) HI.out.inv (by omega)).mono ?_
     rintro r we ⟨Fe,rfl,ah,ac,a1⟩
     refine ⟨_,rfl,?_⟩
     simp only [Act.put,sA,sS,sZ]
     refine Kx ?_
     have zd:=kd.size
     have ze:=a1.size
     have O:Keep F9 w9 we:=Keep.any kd a1
     have aE:=Kj (QJ ak.out O aF)
     have ab:Hid (Grow w F Fe):=I.out.trans (ac.wide zd) J.out.size
     have N:Hid (Keep F w we):=I.out.keep J.out O
     have aD:=Kj ah
     clear ah ac a1 kd O ad ak I J
     go_upto_region 10 with fail
     refine wAp 2 [pV p 0,c.v] [47,48] (nS 1 (ldO aE.out) nZ) ?_
     intro wf kf
     simp only [F8]
     refine l_call 7 #[.pointer (some ⟨p,0,none⟩),c.v] rfl (Jy 7 _ [.tmp 47,.tmp 48] _ _ Tryz.func7 (by kernel_rfl) (by kernel_rfl) rfl (by kernel_rfl) _) ?_
     refine (madd_any wf Fe p (j.remove t i).2.2 c (aD.out.kept kf) aq.out.1 (by have:=aq.out.2;omega)).mono ?_
     rintro r wg ⟨Fg,vz,Zg,rfl,aO,H,aK,az⟩
     refine ⟨_,rfl,?_⟩
     simp only [Act.put,sA,sS,sZ]
     refine UJ (vz) rfl (Yj _ _ rfl (by kernel_rfl)) ?_
     simp only [Act.put,sA,sS,sZ]
     refine UJ (.int .i64 0) rfl (Yj _ _ rfl (by kernel_rfl)) ?_
     simp only [Act.put,sA,sS,sZ]
     refine Kx ?_
     have zf:=kf.size
     have aH:Grow w F Fg:=ab.out.trans (aK.wide zf) N.out.size
     have aM:Keep F w wg:=ab.out.keep N.out (Keep.any kf az)
     have zg:=N.out.size
     have aN:Outs wg w.heap.size Fg vz ((j.remove t i).2.2.add c).1 Zg:=⟨H.eq,H.sl,fun b hb=>⟨by have:=(H.own b hb).1;omega,(H.own b hb).2⟩,H.fl,fun z hz b hb=>⟨by have:=(H.flo z hz b hb).1;omega,(H.flo z hz b hb).2⟩⟩
     go_wp2
     go_ret2
     rw [HR.out]
     exact ⟨Fg,vz,Zg,rfl,aO,aN,aH,aM⟩
   have HR:Hid (j.amend t i pr n=(((j.remove t i).2.2.add c).1,0,((j.remove t i).2.2.add c).2)):=by show _=_;rw [a7.out,if_neg (fun h=>hp h.1)];rfl
   go_upto_region 7 with fail
   refine wA 12 [iV pr,pV ao 5,iV y.price,bV false,bV false,undef,undef,undef,undef,undef,undef,bV false] [31,32,33,34,35,36,37,38,39,40,41,42] (nS 2 (ldR an.out 5) (nS 3 (aV rfl (fun a u E D hk=>JY rfl (dD D 0) (dD D 2)) (Ku hp)) nZ)) ?_
   intro w9 k9
   simp only [F8]
   have I:Hid (Grow w F F):=Grow.refl _ _
   have J:Hid (Keep F w w9):=(U.trans k9).mono (fun _ _ h=>h.elim)
   have ak:=Kj (JJ aa.out k9)
   have aF:=ae
   have ad:=Kj (a8.out.kept k9)
   clear a7 a8 an aa U k9
   go_upto_region 9 with fail
   refine wAp 3 [pV p 0,iV t,iV i] [43,44,45] nZ ?_
   intro wd kd
   simp only [F8]
   refine l_call 38 #[.pointer (some ⟨p,0,none⟩),.int .i64 t,.int .i64 i] rfl (Jy 38 _ [.tmp 43,.tmp 44,.tmp 45] _ _ Tryz.func38 (by kernel_rfl) (by kernel_rfl) rfl (by kernel_rfl) _) ?_
   refine (mremove_any wd F p j t i (ad.out.kept kd) HI.out.inv (by omega)).mono ?_
   rintro r we ⟨Fe,rfl,ah,ac,a1⟩
   refine ⟨_,rfl,?_⟩
   simp only [Act.put,sA,sS,sZ]
   refine Kx ?_
   have zd:=kd.size
   have ze:=a1.size
   have O:Keep F w9 we:=Keep.any kd a1
   have aE:=Kj (QJ ak.out O aF)
   have ab:Hid (Grow w F Fe):=I.out.trans (ac.wide zd) J.out.size
   have N:Hid (Keep F w we):=I.out.keep J.out O
   have aD:=Kj ah
   clear ah ac a1 kd O ad ak I J
   go_upto_region 10 with fail
   refine wAp 2 [pV p 0,c.v] [47,48] (nS 1 (ldO aE.out) nZ) ?_
   intro wf kf
   simp only [F8]
   refine l_call 7 #[.pointer (some ⟨p,0,none⟩),c.v] rfl (Jy 7 _ [.tmp 47,.tmp 48] _ _ Tryz.func7 (by kernel_rfl) (by kernel_rfl) rfl (by kernel_rfl) _) ?_
   refine (madd_any wf Fe p (j.remove t i).2.2 c (aD.out.kept kf) aq.out.1 (by have:=aq.out.2;omega)).mono ?_
   rintro r wg ⟨Fg,vz,Zg,rfl,aO,H,aK,az⟩
   refine ⟨_,rfl,?_⟩
   simp only [Act.put,sA,sS,sZ]
   refine UJ (vz) rfl (Yj _ _ rfl (by kernel_rfl)) ?_
   simp only [Act.put,sA,sS,sZ]
   refine UJ (.int .i64 0) rfl (Yj _ _ rfl (by kernel_rfl)) ?_
   simp only [Act.put,sA,sS,sZ]
   refine Kx ?_
   have zf:=kf.size
   have aH:Grow w F Fg:=ab.out.trans (aK.wide zf) N.out.size
   have aM:Keep F w wg:=ab.out.keep N.out (Keep.any kf az)
   have zg:=N.out.size
   have aN:Outs wg w.heap.size Fg vz ((j.remove t i).2.2.add c).1 Zg:=⟨H.eq,H.sl,fun b hb=>⟨by have:=(H.own b hb).1;omega,(H.own b hb).2⟩,H.fl,fun z hz b hb=>⟨by have:=(H.flo z hz b hb).1;omega,(H.flo z hz b hb).2⟩⟩
   go_wp2
   go_ret2
   rw [HR.out]
   exact ⟨Fg,vz,Zg,rfl,aO,aN,aH,aM⟩
theorem fold_setL (l:List Value):∀ (k:Nat) (D j:List Value),D.length=k→l.length≤j.length →
  (l.zipIdx k).foldl (fun (cs:Array Value) (x:Value × Nat)=>cs.setIfInBounds x.2 x.1) (D++j).toArray=(D++l++j.drop l.length).toArray:=by
 induction l with
 | nil=>
  intro k D j I H
  simp
 | cons v l ih=>
  intro k D j I H
  cases j with
  | nil=>simp at H
  | cons s j=>
   rw [List.zipIdx_cons,List.foldl_cons]
   have e:(D++s::j).toArray.setIfInBounds k v=((D++[v])++j).toArray:=by
    simp [List.set_append_right _ _ (show D.length≤k by omega),I]
   show List.foldl _ ((D++s::j).toArray.setIfInBounds k v) _=_
   rw [e,ih (k+1) (D++[v]) j (by simp [I]) (by simpa using H)]
   simp
section
variable {a:Act} {o:Oper} {u:World}
theorem exec_twoS {t T:TypeId} {k bytes:Nat} (ht:SlT t T k bytes) (x y:Operand) (cs I:List Value) (hk1:k≤1000) (U:o.op=.buildSlice t 2 #[(0,x),(1,y)]) (hx:a.eval x=.agg cs.toArray) (hy:a.eval y=.agg I.toArray) (hl:cs.length=k) (N:I.length=k) :
  (execOp a.eval o).run Tryz.prog u=.ok (.value (.slice (some ⟨u.heap.size,0,none⟩) 2 2)) (u.alloc (.cells (cs++I).toArray T)):=by
 obtain ⟨z,hz,hz2,_⟩:=ht.info
 obtain ⟨i0,a1,O,H,_⟩:=info_parts hz
 have hp:=ht.pos
 have D:(List.map (fun j=>z.cells[j % z.cells.size]!) (List.range (2*k))).length=2*k:=by simp
 have hf:=fold_setL cs 0 [] (List.map (fun j=>z.cells[j % z.cells.size]!) (List.range (2*k))) rfl (by rw [D];omega)
 have J:=fold_setL I k cs ((List.map (fun j=>z.cells[j % z.cells.size]!) (List.range (2*k))).drop cs.length) hl (by rw [List.length_drop,D];omega)
 have he:(((List.map (fun j=>z.cells[j % z.cells.size]!) (List.range (2*k))).drop cs.length).drop I.length)=[]:=List.eq_nil_of_length_eq_zero (by rw [List.length_drop,List.length_drop,D];omega)
 rw [he,List.append_nil] at J
 unfold execOp
 simp only [U,List.map_toArray,List.map_cons,List.map_nil,hx,hy]
 have hn:¬ 2*k=0:=by omega
 have hc:(Value.agg cs.toArray).cells=cs.toArray:=rfl
 have hd:(Value.agg I.toArray).cells=I.toArray:=rfl
 have hr:=run_buildSlice (P:=Tryz.prog) u t T 2 #[(0,.agg cs.toArray),(1,.agg I.toArray)] (cs++I).toArray i0 z ht.und a1 O (by rw [H];omega) (by rw [H];omega) (by
  have e:Array.map (fun x=>z.cells[x % z.cells.size]!) (Array.range (2*i0.size))=(List.map (fun j=>z.cells[j % z.cells.size]!) (List.range (2*k))).toArray:=by
   apply Array.toList_inj.1
   simp [H]
  rw [e,H]
  simp only [List.nil_append] at hf
  simp only [Instr.fill,hc,hd]
  simp [hl,N]
  rw [hf]
  refine ⟨by omega,by simp only [List.size_toArray,List.length_append,List.length_drop,D];omega,?_⟩
  rw [← J,List.zipIdx_eq_map_add (i:=k),List.foldl_map])
 simp only [Sem.run_bind,hr,Result.andThen_ok]
 rfl
end
theorem sl_two (u:World) (T:TypeId) (k:Nat) (cs:List Value) (base:Nat) (hl:cs.length=2*k) (hk:k≤1000) (hb:base≤u.heap.size) :
  Sl (u.alloc (.cells cs.toArray T)) T k (.slice (some ⟨u.heap.size,0,none⟩) 2 2) 2 cs∧∀ b,(Value.slice (some ⟨u.heap.size,0,none⟩) 2 2).ownBlock=some b→base≤b:=by
 refine ⟨⟨by omega,_,2,rfl,Nat.le_refl _,by unfold maxLen;omega,fun h=>(by cases h),fun ad j=>?_⟩,fun b D=>by simp [Value.ownBlock] at D;omega⟩
 injection j with j
 subst j
 exact ⟨_,0,cs,rfl,Blk.new u T cs,by omega,by rw [List.drop_zero,List.take_of_length_le (by omega)]⟩
section
variable {ops:Array Oper} {Q:Exit→Act→World→Prop} {a:Act} {w:World} {o:Oper} {rest:List Oper}
end
def mkC (firm id side price qty:Int):Ord:=⟨firm,id,firm,side,1,price,qty,0,0⟩
def c1:Ord:=mkC 1 1 1 10 5
def c2:Ord:=mkC 2 1 1 10 5
def c3:Ord:=mkC 3 1 2 10 4
def c6:Ord:=mkC 1 1 1 10 6
def CB1:Bok:=⟨[(10,[⟨c1,5⟩])],[],0,0⟩
def CB2:Bok:=⟨[(10,[⟨c1,5⟩,⟨c2,5⟩])],[],0,0⟩
def CB3:Bok:=⟨[(10,[⟨c1.q 3,3⟩,⟨c2,5⟩])],[],0,0⟩
def CBr:Bok:=⟨[(10,[⟨c2,5⟩])],[],0,0⟩
def CB6:Bok:=⟨[(10,[⟨c2,5⟩,⟨c6,6⟩])],[],0,0⟩
def CB7:Bok:=⟨[(10,[⟨c2.q 4,4⟩])],[],10,2⟩
def CB8:Bok:=⟨[(10,[⟨c2.q 1,1⟩,⟨c6,6⟩])],[],10,1⟩
def oq1:Ot:=⟨⟨c1,[],5,true,false,0⟩,false⟩
def oq2:Ot:=⟨⟨c2,[],5,true,false,0⟩,false⟩
def oq6:Ot:=⟨⟨c6,[],6,true,false,0⟩,false⟩
def fc3:List Fl:=[⟨c1.q 3,c3.q 4,10,3,1⟩,⟨c2,c3.q 1,10,1,2⟩]
def fc6:List Fl:=[⟨c2,c3.q 4,10,4,1⟩]
def oG (f:List Fl):Ot:=⟨⟨c3,f,0,false,false,0⟩,false⟩
theorem cadd1:Bok.zero.add c1.free=(⟨c1,[],5,true,false,0⟩,CB1):=by
 rw [add_go (m:=⟨[],5,false,[]⟩) (by decide) rfl]
 rfl
theorem cadd2:CB1.add c2.free=(⟨c2,[],5,true,false,0⟩,CB2):=by
 rw [add_go (m:=⟨[],5,false,[]⟩) (by decide) rfl]
 rfl
theorem cadd6:CBr.add c6.free=(⟨c6,[],6,true,false,0⟩,CB6):=by
 rw [add_go (m:=⟨[],6,false,[]⟩) (by decide) rfl]
 rfl
theorem cadd7:CB3.add c3.free=(⟨c3,fc3,0,false,false,0⟩,CB7):=by
 have D:takeM 3 4 [⟨c1.q 3,3⟩,⟨c2,5⟩]=([⟨c1.q 3,3⟩,⟨c2,1⟩],false,[⟨c2.q 4,4⟩]):=by
  rw [JJq 3 4 ⟨c1.q 3,3⟩ [⟨c2,5⟩] (by decide) (by decide) (by decide)]
  rw [show Yx ⟨c1.q 3,3⟩ (mn 4 (⟨c1.q 3,3⟩:Ent).n) [⟨c2,5⟩]=[⟨c2,5⟩] by decide,show (4:Int)-mn 4 (⟨c1.q 3,3⟩:Ent).n=1 by decide]
  rw [JJq 3 1 ⟨c2,5⟩ [] (by decide) (by decide) (by decide)]
  rw [show Yx ⟨c2,5⟩ (mn 1 (⟨c2,5⟩:Ent).n) []=[⟨c2.q 4,4⟩] by decide,UX _ _ _ (by decide)]
  rfl
 have j:CB3.matched c3.free=⟨fc3,0,false,[(10,[⟨c2.q 4,4⟩])]⟩:=by
  show Yq c3.free 0 4 [(10,[⟨c1.q 3,3⟩,⟨c2,5⟩])]=_
  rw [Yq,if_pos (by decide)]
  simp only [show c3.free.firm=3 from rfl,D]
  rw [if_neg (by decide)]
  rfl
 rw [add_go (by decide) j]
 rfl
theorem cadd8:CB6.add c3.free=(⟨c3,fc6,0,false,false,0⟩,CB8):=by
 have D:takeM 3 4 [⟨c2,5⟩,⟨c6,6⟩]=([⟨c2,4⟩],false,[⟨c2.q 1,1⟩,⟨c6,6⟩]):=by
  rw [JJq 3 4 ⟨c2,5⟩ [⟨c6,6⟩] (by decide) (by decide) (by decide)]
  rw [show Yx ⟨c2,5⟩ (mn 4 (⟨c2,5⟩:Ent).n) [⟨c6,6⟩]=[⟨c2.q 1,1⟩,⟨c6,6⟩] by decide,UX _ _ _ (by decide)]
  rfl
 have j:CB6.matched c3.free=⟨fc6,0,false,[(10,[⟨c2.q 1,1⟩,⟨c6,6⟩])]⟩:=by
  show Yq c3.free 0 4 [(10,[⟨c2,5⟩,⟨c6,6⟩])]=_
  rw [Yq,if_pos (by decide)]
  simp only [show c3.free.firm=3 from rfl,D]
  rw [if_neg (by decide)]
  rfl
 rw [add_go (by decide) j]
 rfl
theorem crun1:Mkt.zero.add c1=([oq1],⟨CB1,[]⟩):=by
 rw [JQy (by decide) (by decide) cadd1 rfl]
 rw [show Mkt.zero.w=[] from rfl,WZ (M:=⟨CB1,[]⟩) rfl]
 rfl
theorem crun2:(Mkt.mk CB1 []).add c2=([oq2],⟨CB2,[]⟩):=by
 rw [JQy (by decide) (by decide) cadd2 rfl,WZ (M:=⟨CB2,[]⟩) rfl]
 rfl
theorem crun6:(Mkt.mk CBr []).add c6=([oq6],⟨CB6,[]⟩):=by
 rw [JQy (by decide) (by decide) cadd6 rfl,WZ (M:=⟨CB6,[]⟩) rfl]
 rfl
theorem crun7:(Mkt.mk CB3 []).add c3=([oG fc3],⟨CB7,[]⟩):=by
 rw [JQy (by decide) (by decide) cadd7 rfl,WZ (M:=⟨CB7,[]⟩) rfl]
 rfl
theorem crun8:(Mkt.mk CB6 []).add c3=([oG fc6],⟨CB8,[]⟩):=by
 rw [JQy (by decide) (by decide) cadd8 rfl,WZ (M:=⟨CB8,[]⟩) rfl]
 rfl
theorem camd3:(Mkt.mk CB2 []).amend 1 1 10 3=([],0,⟨CB3,[]⟩):=by
 unfold Mkt.amend
 rw [show (Mkt.mk CB2 []).find 1 1=(c1,true) by rfl,if_neg (by decide),if_neg (by decide),show (Mkt.mk CB2 []).less 1 1 3=(true,⟨CB3,[]⟩) by rfl,if_pos (by decide)]
theorem camd6:(Mkt.mk CB2 []).amend 1 1 10 6=([oq6],0,⟨CB6,[]⟩):=by
 unfold Mkt.amend Mkt.back
 rw [show (Mkt.mk CB2 []).find 1 1=(c1,true) by rfl,if_neg (by decide),if_neg (by decide),show (Mkt.mk CB2 []).less 1 1 6=(false,⟨CB2,[]⟩) by rfl,if_neg (by decide),show ((Mkt.mk CB2 []).remove 1 1).2.2=⟨CBr,[]⟩ by rfl,show (c1,true).1.chg 10 6=c6 by rfl,crun6]
theorem cinv1:InvK ⟨CB1,[]⟩:=by have:=InvK.zero.add c1;rw [crun1] at this;exact this
theorem cinv2:InvK ⟨CB2,[]⟩:=by have:=cinv1.add c2;rw [crun2] at this;exact this
theorem cinv3:InvK ⟨CB3,[]⟩:=by have:=(cinv2.amend 1 1 10 3).1;rw [camd3] at this;exact this
theorem cinv6:InvK ⟨CB6,[]⟩:=by have:=(cinv2.amend 1 1 10 6).1;rw [camd6] at this;exact this
theorem builtC (a b c d f g:Int):Tryz.prog.built 35 [(0,.int .i64 a),(1,.int .i64 b),(2,.int .i64 c),(3,.int .i64 d),(4,.int .i64 1),(5,.int .i64 f),(6,.int .i64 g)]=some (Ord.mk a b c d 1 f g 0 0).cells.toArray:=by kernel_rfl
theorem co_any (f i s p n:Int) (w:World):Gives 75 #[.int .i64 f,.int .i64 i,.int .i64 s,.int .i64 p,.int .i64 n] w (.eq (mkC f i s p n).v):=by
 refine QW ?_
 go_enter Tryz.func75,Tryz.ntmps75
 go_upto_region 0 with fail
 refine tAp 1 [.k (.fresh w.heap.size 35 JV.cells)] (nS 0 (nV rfl (fun a u E D hk=>⟨_,_,QX 35 JV.cells rfl zO,⟨_,rfl,hk.size,Blk.new u _ _⟩,((Keep.refl _ u).alloc _)⟩)) nZ) ?_
 intro gv w0 O U
 rw [dq 1 [10]]
 simp only [Fz7]
 have j:(.fresh w.heap.size 35 JV.cells:Kn).p (gv 10) w0:=O 0 10 (by kernel_rfl)
 generalize gv 10=v10 at j ⊢
 clear O
 obtain ⟨g,rfl,hg,J⟩:=j
 refine Kx ?_
 have HB:=Kj J
 have l1:=J.lt
 clear J
 go_upto_region 1 with fail
 refine wAp 7 [iV f,iV i,iV f,iV s,iV p,iV n,(Ord.mk f i f s 1 p n 0 0).v] [11,12,13,14,15,16,17] (nS 6 (sV rfl (fun a u E D hk=>XZ _ [(0,.tmp 11),(1,.tmp 12),(2,.tmp 13),(3,.tmp 14),(4,.const (.int .i64 1)),(5,.tmp 15),(6,.tmp 16)] (Ord.mk f i f s 1 p n 0 0).cells rfl (by simp only [List.map_cons,List.map_nil];rw [show a.eval (.tmp 11)=_ from (dD D 0),show a.eval (.tmp 12)=_ from (dD D 1),show a.eval (.tmp 13)=_ from (dD D 2),show a.eval (.tmp 14)=_ from (dD D 3),show a.eval (.tmp 15)=_ from (dD D 4),show a.eval (.tmp 16)=_ from (dD D 5)];exact builtC _ _ _ _ _ _))) nZ) ?_
 intro w1 N
 simp only [F8]
 refine sO (Ord.mk f i f s 1 p n 0 0) (HB.out.kept N) ?_
 intro w2 I H hsw2
 simp only [Act.put]
 refine Kx ?_
 go_wp2
 refine bodyPost_ret (QU (p:=10) rfl _ _ g _ (Ord.mk f i f s 1 p n 0 0).cells rfl I Tryz.underlying35 (by rw [Ord.len9];exact JU)) rfl ?_
 exact ⟨rfl,(U.trans N).trans' H (by omega)⟩
def trO (t:Int):Ord:=⟨t,0,0,0,0,0,0,0,0⟩
theorem builtTO (t:Int):Tryz.prog.built 35 [(0,.int .i64 t)]=some (trO t).cells.toArray:=by kernel_rfl
theorem exec_trO {a:Act} {o:Oper} {u:World} (x:Operand) (t:Int) (j:o.op=.build 35 #[(0,x)]) (hx:a.eval x=.int .i64 t):(execOp a.eval o).run Tryz.prog u=.ok (.value (trO t).v) u:=
 XZ _ [(0,x)] (trO t).cells j (by
  simp only [List.map_cons,List.map_nil,hx]
  exact builtTO t)
theorem mamend_at (w:World) (F:Nat→Prop) (p:Nat) (M:Mkt) (t i pr n:Int) (x:List Ot × Int × Mkt) (hx:M.amend t i pr n=x) (h:Mk w F p M) (D:InvK M) (j:M.b.no≤800000000000):Calls Tryz.prog 10 #[.pointer (some ⟨p,0,none⟩),.int .i64 t,.int .i64 i,.int .i64 pr,.int .i64 n] w (AmdIn w F p x):=by
 rw [← hx]
 exact mamend_any w F p M t i pr n h D j
def giveH (f:Fl):Ent:=⟨trO f.mk_.tr,f.qty⟩
theorem ents_one1 (e:Ent):ents [e]=e.cells:=by simp [ents]
theorem ents_snoc1 (X:List Ent) (e:Ent):ents (X++[e])=ents X++e.cells:=by simp [ents]
theorem cgives_any (n:Int) (L:List Ot) (M2 M3:Mkt) (H:List Fl) (hA:(Mkt.mk CB2 []).amend 1 1 10 n=(L,0,M2)) (ay:InvK M2) (bl:M2.b.no≤900000000000) (hD:M2.add c3=([oG H],M3)) (ba:H.length≤1000) (w:World):Gives 47 #[.int .i64 n] w (.sl w.heap.size 85 10 H.length (ents (H.map giveH))):=by
 have aO:=Kj hA
 have b4:=Kj ay
 have aL:=Kj hD
 clear hA ay hD
 go_enter Tryz.func47,Tryz.ntmps47
 go_upto_region 1 with fail
 refine wp_region_lit ?_
 refine cT Tryz.func4 [] ?_
 refine (mnew_any w).mono ?_
 rintro r w1 ⟨p,F1,rfl,b5,aG,k1⟩
 refine ⟨_,rfl,?_⟩
 refine aT (.pointer (some ⟨p,0,none⟩)) ?_
 simp only [Act.put,sA,sS,sZ]
 refine Kx ?_
 have b3:∀ b,F1 b→w.heap.size≤b:=fun b hb=>(aG b hb).elim (fun h=>h.elim) id
 go_upto_region 4 with fail
 refine wp_region_lit ?_
 refine aT (.pointer (some ⟨p,0,none⟩)) ?_
 refine cT Tryz.func75 [.int .i64 1,.int .i64 1,.int .i64 1,.int .i64 10,.int .i64 5] ?_
 refine (co_any 1 1 1 10 5 w1).mono ?_
 rintro r w2 ⟨_,rfl,rfl,av⟩
 refine ⟨_,rfl,?_⟩
 refine cT Tryz.func7 [.pointer (some ⟨p,0,none⟩),c1.v] ?_
 refine (madd_at w2 F1 p Mkt.zero c1 _ crun1 (b5.kept av) InvK.zero (by decide)).mono ?_
 rintro r w3 ⟨F3,v1,Z1,rfl,az,aM,am,ak⟩
 refine ⟨_,rfl,?_⟩
 simp only [Act.put,sA,sS,sZ]
 refine Kx ?_
 obtain ⟨ax,b2⟩:=madd_frame k1 b3 av ak am
 clear b5 aG b3 k1 av am ak aM
 go_upto_region 5 with fail
 refine wp_region_lit ?_
 refine aT (.pointer (some ⟨p,0,none⟩)) ?_
 refine cT Tryz.func75 [.int .i64 2,.int .i64 1,.int .i64 1,.int .i64 10,.int .i64 5] ?_
 refine (co_any 2 1 1 10 5 w3).mono ?_
 rintro r w4 ⟨_,rfl,rfl,aq⟩
 refine ⟨_,rfl,?_⟩
 refine cT Tryz.func7 [.pointer (some ⟨p,0,none⟩),c2.v] ?_
 refine (madd_at w4 F3 p ⟨CB1,[]⟩ c2 _ crun2 (az.kept aq) cinv1 (by decide)).mono ?_
 rintro r w5 ⟨F5,v2,Z2,rfl,aX,aW,ah,ag⟩
 refine ⟨_,rfl,?_⟩
 simp only [Act.put,sA,sS,sZ]
 refine Kx ?_
 obtain ⟨aK,aA⟩:=madd_frame ax b2 aq ag ah
 clear az b2 ax aq ah ag aW
 go_upto_region 6 with fail
 refine wAp 2 [pV p 0,iV n] [21,22] nZ ?_
 intro w6 k6
 simp only [F8]
 refine cT Tryz.func10 [.pointer (some ⟨p,0,none⟩),.int .i64 1,.int .i64 1,.int .i64 10,.int .i64 n] ?_
 refine (mamend_at w6 F5 p ⟨CB2,[]⟩ 1 1 10 n _ aO.out (aX.kept k6) cinv2 (by decide)).mono ?_
 rintro r w7 ⟨F7,v4,Z4,rfl,aB,bj,aQ,b6⟩
 refine ⟨.tuple #[v4,.int .i64 0],rfl,?_⟩
 refine aT (.tuple #[v4,.int .i64 0]) ?_
 refine aT (v4) ?_
 refine aT (.int .i64 0) ?_
 refine aT (v4) ?_
 refine aT (.int .i64 0) ?_
 simp only [Act.put,sA,sS,sZ]
 refine Kx ?_
 obtain ⟨aU,aY⟩:=madd_frame aK aA k6 b6 aQ
 clear aX aA aK k6 aQ b6 bj
 go_upto_region 10 with fail
 refine wp_region_lit ?_
 refine aT (.pointer (some ⟨p,0,none⟩)) ?_
 refine cT Tryz.func75 [.int .i64 3,.int .i64 1,.int .i64 2,.int .i64 10,.int .i64 4] ?_
 refine (co_any 3 1 2 10 4 w7).mono ?_
 rintro r w8 ⟨_,rfl,rfl,an⟩
 refine ⟨_,rfl,?_⟩
 refine cT Tryz.func7 [.pointer (some ⟨p,0,none⟩),c3.v] ?_
 refine (madd_at w8 F7 p M2 c3 _ aL.out (aB.kept an) b4.out bl).mono ?_
 rintro r w9 ⟨F9,v5,Z5,rfl,bi,U,aj,al⟩
 refine ⟨_,rfl,?_⟩
 obtain ⟨vf,rfl⟩:=map_1 U.eq
 obtain ⟨g5,o5,c5,rfl⟩:=U.sl.some_ (Nat.succ_pos _)
 refine UJ (.int .i64 (1:Int)) rfl (ZV (.tmp 30) _ _ slC.und (some ⟨g5,o5,none⟩) 1 c5 rfl (by kernel_rfl)) ?_
 refine aT (.int .i64 0) ?_
 simp only [Act.put,sA,sS,sZ]
 refine Kx ?_
 obtain ⟨aD,bd⟩:=madd_frame aU aY an al aj
 obtain ⟨m,hm⟩:∃ m,H.length=m:=⟨_,rfl⟩
 have ab:=Kj hm
 have aJ:Sl w9 95 21 vf m (fls H):=by have:=U.fl (oG H,vf) (by simp);rw [← hm];exact this
 have H5:Hid (w9.rangeAt g5 o5 ((oG H).cells vf)):=by have:=U.sl.rngC 0 (oG H,vf) rfl;rw [Nat.zero_mul,Nat.add_zero] at this;exact this
 have aC:=Kj aJ
 clear U aB bi aY bd aU an aj al aJ aO aL b4
 rw [hm] at ba
 go_wp2_with fail
 go_loopw [6,32] (fun s0 x wr=>∃ (i:Nat) (s:Value),i≤1∧s=s0∧x=.int .i64 (i:Int)∧Hid (Sl wr 85 10 s (if i=0 then 0 else m) (ents (if i=0 then [] else H.map giveH)))∧Hid (∀ b,s.ownBlock=some b→w9.heap.size≤b)∧Kept w9 wr) (fun s0 x _=>1-(intOf x).toNat)
 case atStart=>exact ⟨0,_,by omega,rfl,rfl,Sl.nil _ _ _,(fun b hb=>by simp [Value.ownBlock] at hb),Kept.refl _⟩
 obtain ⟨i,s,hi,rfl,rfl,a4,ae,a2⟩:=hrel
 by_cases hi0:i=0
 ·subst hi0
  rw [if_pos rfl,if_pos rfl] at a4
  have aH:=Kj (JJ H5.out a2)
  have aw:=Kj (aC.out.kept a2)
  have zr:=a2.size
  go_upto_region 12 with fail
  refine wAp 2 [pV g5 o5,(oG H).v vf] [34,35] (nS 0 (ixV slC (o5) 1 0 (((0:Nat):Int)) ((by omega))) (nS 1 (ldS Tryz.underlying66 (fun u hk=>JJ (aH.out) hk) (by rw [Ot.len15];exact szC)) nZ)) ?_
  intro wa ka
  simp only [F8]
  refine nT zC ?_
  intro wb J a8
  refine YV 66 wa.heap.size 66 (XU.cells (.slice none 0 0)) ((oG H).cells vf) _ _ rfl rfl (by kernel_rfl) (by kernel_rfl) J (by rw [Ot.len15];exact szC) (by rw [Ot.len15,Oc.len15]) (Ot.one _ _ (Xy aw.out)) ?_
  intro wc I N a6
  simp only [Act.put,sA,sS,sZ]
  refine Kx ?_
  obtain ⟨b8,h8⟩:∃ a,wa.heap.size=a:=⟨_,rfl⟩
  rw [h8] at J I N ⊢
  have za:=ka.size
  have O:Kept wr wc:=(ka.trans a8).trans' N (by omega)
  have aI:=Kj (JX I)
  have a7:=Kj (a4.out.kept O)
  have a3:=Kj (aw.out.kept O)
  have a1:=a2.trans O
  clear J I N a6 a8 ka O a4 aH aw a2
  go_upto_region 13 with fail
  refine wA 4 [pV b8 9,vf,iV (m:Int),iV 0] [36,37,38,39] (nS 1 (sV rfl (fun a u E D hk=>Qx _ _ Tryz.underlying64 _ _ _ rfl (dD D 0) ((JJ (aI.out) hk) 9 _ rfl))) (nS 2 (sV rfl (fun a u E D hk=>Jx _ slF _ _ _ _ rfl (dD D 1) (a3.out.kept hk))) nZ)) ?_
  intro wd kd
  simp only [F8]
  have aR:=Kj (a7.out.kept kd)
  have aS:=Kj (a3.out.kept kd)
  have ar:=a1.trans kd
  have zd:=ar.size
  clear a7 a3 a1 kd aI
  go_wp2_with fail
  go_loopw [6,39] (fun s0 x wr=>∃ (j:Nat) (s:Value),j≤m∧s=s0∧x=.int .i64 (j:Int)∧Hid (Sl wr 85 10 s j (ents ((H.take j).map giveH)))∧Hid (∀ b,s.ownBlock=some b→w9.heap.size≤b)∧Hid (Sl wr 95 21 vf m (fls H))∧Kept w9 wr) (fun s0 x _=>m-(intOf x).toNat)
  case atStart=>exact ⟨0,s,by omega,rfl,rfl,aR,ae,aS,ar⟩
  obtain ⟨j,s',hj,rfl,rfl,aa,a9,ad,ac⟩:=hrel
  clear aR aS ar zd ae
  have zj:=ac.size
  by_cases hjm:j<m
  ·obtain ⟨gf,of,cf,rfl⟩:=ad.out.some_ (by omega)
   obtain ⟨x,hx⟩:∃ e,H[j]?=some e:=⟨H[j]'(by rw [ab.out];exact hjm),List.getElem?_eq_getElem _⟩
   have HX:Hid (wr.rangeAt gf (of+j*21) x.cells):=ad.out.rngF j x hx
   have bf:Hid ((H.take (j+1)).map giveH=(H.take j).map giveH++[giveH x]):=by show _=_;rw [List.take_add_one,hx,Option.toList_some,List.map_append];rfl
   clear hx
   go_upto_region 15 with fail
   refine wAp 2 [pV gf (of+j*21),x.v] [41,42] (nS 0 (ixV slF (of) m j ((j:Int)) (hjm)) (nS 1 (ldS Tryz.underlying95 (fun u hk=>JJ HX.out hk) (by rw [x.len21];exact szF)) nZ)) ?_
   intro wa ka
   simp only [F8]
   refine nT zF ?_
   intro wb J a8
   refine YV 95 wa.heap.size 95 zeroF.cells x.cells _ _ rfl rfl (by kernel_rfl) (by kernel_rfl) J (by rw [Fl.len21];exact szF) (by rw [Fl.len21,Fl.len21]) (Fl.one _) ?_
   intro wc I N a6
   simp only [Act.put,sA,sS,sZ]
   refine Kx ?_
   obtain ⟨au,bb⟩:∃ a,wa.heap.size=a:=⟨_,rfl⟩
   rw [bb] at J I N ⊢
   have za:=ka.size
   have O:Kept wr wc:=(ka.trans a8).trans' N (by omega)
   have a5:=Kj (JX I)
   have a7:=Kj (aa.out.kept O)
   have a3:=Kj (ad.out.kept O)
   have a1:=ac.trans O
   have zc:=a1.size
   clear J I N a6 a8 ka O aa ad ac HX
   go_upto_region 16 with fail
   refine tAp 9 [.v (s'),pK au 0,pK au 0,iK x.mk_.tr,.v ((trO x.mk_.tr).v),pK au 19,iK x.qty,.v ((Ent.mk (trO x.mk_.tr) (x.qty)).v),.k (.sl wc.heap.size 85 10 1 (Ent.mk (trO x.mk_.tr) (x.qty)).cells)] (nS 3 (ldR a5.out 0) (nS 4 (sV rfl (fun a u E D hk=>exec_trO _ x.mk_.tr rfl (dD D 3))) (nS 6 (ldR a5.out 19) (nS 7 (sV rfl (fun a u E D hk=>qW 85 builtH _ _ ((trO x.mk_.tr)) (x.qty) rfl (dD D 4) (dD D 6))) (nS 8 (nV rfl (fun a u E D hk=>⟨_,_,VJ slH _ (Ent.mk (trO x.mk_.tr) (x.qty)).cells (by omega) rfl (dD D 7) ((Ent.mk (trO x.mk_.tr) (x.qty)).len10),(jY u 85 10 _ wc.heap.size ((Ent.mk (trO x.mk_.tr) (x.qty)).len10) (by omega) hk.size),((Keep.refl _ u).alloc _)⟩)) nZ))))) ?_
   intro gv wd hV kd
   rw [dq 9 [43,44,45,46,47,48,49,50,51]]
   simp only [Fz7]
   rw [gQ hV 0 43 s']
   have af:(.sl wc.heap.size 85 10 1 (Ent.mk (trO x.mk_.tr) (x.qty)).cells:Kn).p (gv 51) wd:=hV 8 51 (by kernel_rfl)
   generalize gv 51=v51 at af ⊢
   clear hV
   obtain ⟨v',we,aZ,aF,b0,ai⟩:=QQ slH 86 wd s' v51 j 1 (ents ((H.take j).map giveH)) (giveH x).cells (a7.out.kept kd) af.1 (Ent.one _) (by unfold maxLen;omega) (by omega)
   have zd:=kd.size
   have b1:∀ b,v'.ownBlock=some b→s'.ownBlock=some b∨wc.heap.size≤b:=fun b hb=>(ai b hb).imp id (fun h=>by omega)
   refine Vj v' we rfl (QV slH (.tmp 43) (.tmp 51) s' v51 rfl (by kernel_rfl) (by kernel_rfl) v' we aZ) ?_
   refine aT (v') ?_
   simp only [Act.put,sA,sS,sZ]
   refine Kx ?_
   have ao:Keep (fun b=>s'.ownBlock=some b) wc we:=Keep.any kd b0
   have bg:Hid (Sl we 85 10 v' (j+1) (ents ((H.take (j+1)).map giveH))):=by rw [bf.out,ents_snoc1];exact Kj aF
   have bm:Hid (∀ b,v'.ownBlock=some b→w9.heap.size≤b):=fun b hb=>(b1 b hb).elim (a9.out b) (fun h=>by omega)
   have aE:∀ b,(Value.slice (some ⟨gf,of,none⟩) m cf).ownBlock=some b→s'.ownBlock≠some b:=fun b hb h=>by have:=a9.out b h;have:=aC.out.lt hb;omega
   have be:=Kj (a3.out.keep ao (fun b hb h=>aE b hb h))
   have bc:Kept w9 we:=Keep.trans a1 ao (fun b hb h=>by have:=a9.out b h;omega)
   clear aZ aF b0 ai b1 ao a7 a3 a1 a5 kd aE
   go_wp2
   exact ⟨⟨j+1,v',by omega,rfl,by go_num,bg,bm,be,bc⟩,by simp [intOf];omega⟩
  have aN:j=H.length:=by rw [ab.out];omega
  have bh:Hid (Sl wr 85 10 s' m (ents (H.map giveH))):=by have h:=aa.out;rw [aN,List.take_length,ab.out] at h;exact h
  clear aN aa
  go_wp2
  exact ⟨⟨1,s',by omega,rfl,by go_num,bh,a9,ac⟩,by simp [intOf]⟩
 have b7:i=1:=by omega
 subst b7
 rw [if_neg (by omega),if_neg (by omega)] at a4
 have kk:=aD.trans a2
 have zz:=aD.size
 have b9:Hid (∀ b,s.ownBlock=some b→w.heap.size≤b):=fun b hb=>by have:=ae.out b hb;omega
 have bn:Hid (Sl wr 85 10 s H.length (ents (H.map giveH))):=by rw [ab.out];exact a4
 clear a4 ae
 go_wp2
 go_ret
 exact ⟨_,rfl,⟨bn.out,b9.out⟩,kk⟩
theorem changeRuns_any (w:World):Calls Tryz.prog 19 #[] w fun e w'=>e=.returned (.bool true)∧Kept w w':=by
 go_enter Tryz.func19,Tryz.ntmps19
 go_upto_region 1 with fail
 refine tA 15 [.k (.sl w.heap.size 85 10 2 (ents [Ent.mk (trO 1) 3,Ent.mk (trO 2) 1])),.v ((trO 1).v),.v ((Ent.mk (trO 1) (3)).v),.v ((trO 2).v),.v ((Ent.mk (trO 2) (1)).v),.k (.sl w.heap.size 85 10 2 (ents [Ent.mk (trO 1) 3,Ent.mk (trO 2) 1])),bK true,bK true,.k (.sl w.heap.size 85 10 1 (ents [Ent.mk (trO 2) 4])),.v ((trO 2).v),.v ((Ent.mk (trO 2) (4)).v),.k (.sl w.heap.size 85 10 1 (Ent.mk (trO 2) (4)).cells),bK true,bK true,bK true] [1,2,3,4,5,6,7,8,9,10,11,12,13,14,0] (nS 0 (cV Tryz.func47 (fun u hk=>(cgives_any 3 [] ⟨CB3,[]⟩ ⟨CB7,[]⟩ fc3 camd3 cinv3 (by decide) crun7 (by decide) u).base hk.size)) (nS 1 (sV rfl (fun a u E D hk=>exec_trO _ 1 rfl rfl)) (nS 2 (sV rfl (fun a u E D hk=>qW 85 builtH _ _ ((trO 1)) (3) rfl (dD D 1) rfl)) (nS 3 (sV rfl (fun a u E D hk=>exec_trO _ 2 rfl rfl)) (nS 4 (sV rfl (fun a u E D hk=>qW 85 builtH _ _ ((trO 2)) (1) rfl (dD D 3) rfl)) (nS 5 (nV rfl (fun a u E D hk=>⟨_,_,exec_twoS slH _ _ (Ent.mk (trO 1) 3).cells (Ent.mk (trO 2) 1).cells (by omega) rfl (dD D 2) (dD D 4) (Ent.len10 _) (Ent.len10 _),(sl_two u _ 10 _ w.heap.size rfl (by omega) hk.size),((Keep.refl _ u).alloc _)⟩)) (nS 6 ((fun a u J j hk=>Zj 46 #[a.eval (.tmp 1),a.eval (.tmp 6)] rfl (JQ rfl _) (Jy 46 _ [.tmp 1,.tmp 6] _ [a.eval (.tmp 1),a.eval (.tmp 6)] Tryz.func46 (by kernel_rfl) (by kernel_rfl) rfl rfl u) ((by have h:=sameH_any (a.eval (.tmp 1)) (a.eval (.tmp 6)) 0 0 [Ent.mk (trO 1) 3,Ent.mk (trO 2) 1] [Ent.mk (trO 1) 3,Ent.mk (trO 2) 1] u (j 0 1 (by kernel_rfl)).1 (j 5 6 (by kernel_rfl)).1 (by decide) (by decide);rw [Ky rfl] at h;exact h)))) (nS 8 (cV Tryz.func47 (fun u hk=>(cgives_any 6 [oq6] ⟨CB6,[]⟩ ⟨CB8,[]⟩ fc6 camd6 cinv6 (by decide) crun8 (by decide) u).base hk.size)) (nS 9 (sV rfl (fun a u E D hk=>exec_trO _ 2 rfl rfl)) (nS 10 (sV rfl (fun a u E D hk=>qW 85 builtH _ _ ((trO 2)) (4) rfl (dD D 9) rfl)) (nS 11 (nV rfl (fun a u E D hk=>⟨_,_,VJ slH _ (Ent.mk (trO 2) (4)).cells (by omega) rfl (dD D 10) ((Ent.mk (trO 2) (4)).len10),(jY u 85 10 _ w.heap.size ((Ent.mk (trO 2) (4)).len10) (by omega) hk.size),((Keep.refl _ u).alloc _)⟩)) (nS 12 ((fun a u J j hk=>Zj 46 #[a.eval (.tmp 9),a.eval (.tmp 12)] rfl (zY (b:=true) true rfl rfl (dD j 7)) (Jy 46 _ [.tmp 9,.tmp 12] _ [a.eval (.tmp 9),a.eval (.tmp 12)] Tryz.func46 (by kernel_rfl) (by kernel_rfl) rfl rfl u) ((by have h:=sameH_any (a.eval (.tmp 9)) (a.eval (.tmp 12)) 0 0 [Ent.mk (trO 2) 4] [Ent.mk (trO 2) 4] u (j 8 9 (by kernel_rfl)).1 (by have q:=(j 11 12 (by kernel_rfl)).1;rw [← ents_one1] at q;exact q) (by decide) (by decide);rw [Ky rfl] at h;exact h)))) nZ)))))))))))) ?_
 intro gv w1 H I
 simp only [Fz7]
 rw [gQ H 14 0 (.bool true)]
 clear H
 go_wp2
 go_ret
 exact ⟨rfl,I⟩
def xU (v1 v2:Value) (last no:Int):List Value:=[.slice none 0 0,v1,v2,.int .i64 last,.int .i64 no]
abbrev RWay (w:World) (F:Nat→Prop) (v:Value) (L:List Lev):Prop:=Way 100 102 97 w F v L
def RBk (w:World) (F:Nat→Prop) (p:Nat) (B:Bok):Prop:=F p∧(∀ b,F b→b<w.heap.size)∧∃ v1 v2 F1 F2,Blk w p 60 (xU v1 v2 B.last B.no)∧RWay w F1 v1 B.buys∧RWay w F2 v2 B.sells∧(∀ b,F1 b→F b∧b≠p∧¬ F2 b)∧(∀ b,F2 b→F b∧b≠p)
theorem RBk.keep {S F:Nat→Prop} {w w':World} {p:Nat} {B:Bok} (h:RBk w F p B) (hk:Keep S w w') (H:∀ b,F b→¬ S b):RBk w' F p B:=by
 obtain ⟨J,h2,v1,v2,F1,U,hB,D,I,N,O⟩:=h
 exact ⟨J,fun b j=>Nat.lt_of_lt_of_le (h2 b j) hk.size,v1,v2,F1,U,hB.keep hk (H p J),D.keep hk (fun b j=>H b (N b j).1),I.keep hk (fun b j=>H b (O b j).1),N,O⟩
theorem RBk.kept {F:Nat→Prop} {w w':World} {p:Nat} {B:Bok} (h:RBk w F p B) (hk:Kept w w'):RBk w' F p B:=h.keep hk (fun _ _ h=>h)
theorem RBk.lt {F:Nat→Prop} {w:World} {p:Nat} {B:Bok} (h:RBk w F p B):∀ b,F b→b<w.heap.size:=h.2.1
theorem RBk.way {F:Nat→Prop} {w:World} {p:Nat} {B:Bok} (h:RBk w F p B) {k:Nat} (hk:k=1∨k=2):∃ v F',w.cell? ⟨p,0+k*1,none⟩=some v∧RWay w F' v (B.sd (k:Int)):=by
 obtain ⟨h1,h2,v1,v2,F1,I,H,j,D,h3,h4⟩:=h
 rcases hk with rfl | rfl
 ·exact ⟨v1,F1,H.cell 1,j⟩
 exact ⟨v2,I,H.cell 2,D⟩
theorem RBk.cell0 {F:Nat→Prop} {w:World} {p:Nat} {B:Bok} (h:RBk w F p B):w.cell? ⟨p,0,none⟩=some (.slice none 0 0):=by
 obtain ⟨h1,h2,v1,v2,F1,F2,j,_⟩:=h
 exact j.cell 0
theorem rborders_in (w:World) (F:Nat→Prop) (p:Nat) (B:Bok) (k:Nat) (a8:k=1∨k=2) (h:RBk w F p B) (hI:Inv B):Gives 45 #[.pointer (some ⟨p,0,none⟩),.int .i64 (k:Int)] w (.sl w.heap.size 35 9 (XJ (B.sd (k:Int))).length (ords (XJ (B.sd (k:Int))))):=by
 obtain ⟨L,N⟩:∃ L,B.sd (k:Int)=L:=⟨_,rfl⟩
 have hL:LvsOk L:=by rw [← N];exact hI.ok _
 obtain ⟨v,F1,a5,hW⟩:=h.way a8
 rw [N] at hW
 obtain ⟨Z,G,eL,hW⟩:=hW
 have ac:Z.length≤64:=by have:=hL.len;rw [← eL,Xz] at this;exact this
 have ag:=Kj N
 have HV:=Kj a5
 have HW:=Kj hW
 have HL:=Kj hL
 have EL:=Kj eL
 obtain ⟨n,hn⟩:∃ n,Z.length=n:=⟨_,rfl⟩
 have a3:=Kj hW.sl
 rw [hn] at a3 ac
 have HN:=Kj hn
 clear N a5 hW hL eL hn h hI
 go_enter Tryz.func45,Tryz.ntmps45
 go_upto_region 1 with fail
 refine tA 6 [iK (k:Int),bK (decide (((k:Int):Int)≠(1:Int))),bK (decide (((k:Int):Int)≠(1:Int))),.k (.cond (decide (((k:Int):Int)≠(1:Int))) (iE (k:Int))),.k (.cond (decide (((k:Int):Int)≠(1:Int))) (bE (decide (((k:Int):Int)≠(2:Int))))),bK false] [8,9,10,11,12,13] (nS 1 (sV rfl (fun a u E D hk=>Xj rfl (dD D 0) rfl)) (nS 3 (fS (iC 4 2 rfl (fun a u E D hk O=>Jq _ _ rfl (eE E)) fz)) (nS 4 (fS (iC 5 2 rfl (fun a u E D hk O=>Xj rfl ((D 3 11 (by kernel_rfl)).1 O) rfl) fz)) (nS 5 (aV rfl (fun a u E D hk=>Qj _ _ _ ((decide (((k:Int):Int)≠(1:Int)))) ((decide (((k:Int):Int)≠(2:Int)))) rfl (dD D 2) (fun am=>((D 4 12 (by kernel_rfl)).1 am)) rfl) (by rcases a8 with rfl | rfl <;> rfl)) nZ)))) ?_
 intro gv w0 hV k0
 simp only [Fz7]
 rw [gQ hV 5 13 (.bool false)]
 clear hV
 have ab:=Kj (k0.cell HV.out)
 have U:=Kj (a3.out.kept k0)
 go_upto_region 4 with fail
 refine wA 8 [pV p 0,iV (k:Int),pV p 0,pV p 0,pV p (0+k*1),v,iV (n:Int),iV 0] [14,15,16,17,18,19,20,21] (nS 4 (sV rfl (fun a u E D hk=>VQ 58 57 3 1 _ _ p 0 k rfl Tryz.underlying58 (by kernel_rfl) (dD D 3) (dD D 1) (by omega))) (nS 5 (ldC ab.out) (nS 6 (sV rfl (fun a u E D hk=>Jx _ VV _ _ _ _ rfl (dD D 5) U.out)) nZ))) ?_
 intro w1 k1
 simp only [F8]
 have ak:=k0.trans k1
 clear k0 k1 ab U
 go_wp2_with fail
 go_loopw [5,21] (fun t q wr=>∃ (i:Nat),i≤n∧q=.int .i64 i∧Hid ((Kn.sl w.heap.size 35 9 (XJ (L.take i)).length (ords (XJ (L.take i)))).p t wr)∧Kept w wr) (fun _ q _=>n-(intOf q).toNat)
 case atStart=>exact ⟨0,Nat.zero_le _,rfl,⟨by rw [List.take_zero];exact Sl.nil _ _ _,fun b O=>by simp [Value.ownBlock] at O⟩,ak⟩
 obtain ⟨i,hi,rfl,H,J⟩:=hrel
 obtain ⟨v3,al⟩:∃ v3,v3=u5:=⟨_,rfl⟩
 subst al
 by_cases hlt:i<n
 ·skip
  obtain ⟨gs,os,c,rfl⟩:=a3.out.some_ (by omega)
  obtain ⟨z,hz⟩:∃ z,Z[i]?=some z:=⟨Z[i]'(by rw [HN.out];omega),List.getElem?_eq_getElem (by rw [HN.out];omega)⟩
  obtain ⟨q,pr,X⟩:=z
  have I:=(HW.out.kept J).cell hz
  have HC:=Kj I
  have HZ:=Kj hz
  have a9:=Kj ((HW.out.kept J).lv (q,pr,X) (List.mem_of_getElem? hz))
  have HG:Hid (Good X):=HL.out.good (pr,X) (by rw [← EL.out];exact qz (List.mem_of_getElem? hz))
  have HA:Hid (L[i]?=some (pr,X)):=by show _=_;rw [← EL.out];exact qj hz
  clear I hz
  go_upto_region 6 with fail
  refine wAp 2 [pV gs (os+i*1),pV q 0] [23,24] (nS 0 (ixV VV (os) n i ((i:Int)) (hlt)) (nS 1 (ldC HC.out) nZ)) ?_
  intro w2 k2
  simp only [F8]
  refine aT (.pointer (some ⟨q,0,none⟩)) ?_
  simp only [Act.put,sA,sS,sZ]
  refine Kx ?_
  have ae:=J.trans k2
  have a7:=Kj (a9.out.kept k2)
  have a6:=Kj (H.out.1.kept k2)
  have a2:=Kj H.out.2
  have s0:=ae.size
  have ai:Hid ((XJ (L.take i)).length+X.length≤64):=by
   show _≤_
   have h1:=entL_part L (i+1)
   rw [jU HA.out,List.length_append] at h1
   simp only at h1
   have:=HL.out.few
   rw [yV]
   omega
  clear HC a9 H k2
  go_upto_region 7 with fail
  refine tAp 3 [.v (v3),pK q 0,.k (.sl w2.heap.size 35 9 X.length (ords (X.map Ent.o)))] (nS 2 (cV Tryz.func74 (fun u hk=>(rorders_any u _ q X (a7.out.kept hk) HG.out).mono (fun e w' ⟨v,h1,h2,h3⟩=>⟨v,h1,⟨h2.1,fun b O=>Kv hk.size (h2.2 b O)⟩,h3⟩))) nZ) ?_
  intro gv w5 hV k5
  rw [dq 3 [25,26,27]]
  simp only [Fz7]
  rw [gQ hV 0 25 v3]
  have j:(.sl w2.heap.size 35 9 X.length (ords (X.map (·.o))):Kn).p (gv 27) w5:=hV 2 27 (by kernel_rfl)
  generalize gv 27=v27 at j ⊢
  clear hV
  have s2:=k5.size
  have af:=ai.out
  obtain ⟨v4,w4,aa,a1,a4,ad⟩:=QQ slO _ w5 v3 v27 (XJ (L.take i)).length X.length _ _ (a6.out.kept k5) j.1 (qx _) (by unfold maxLen;omega) (by omega)
  refine Vj v4 w4 rfl (QV slO (.tmp 25) (.tmp 27) v3 v27 rfl (by kernel_rfl) (by kernel_rfl) v4 w4 aa) ?_
  refine aT (v4) ?_
  simp only [Act.put,sA,sS,sZ]
  refine Kx ?_
  have aj:Kept w w4:=by
   refine Keep.trans (ae.trans k5) a4 (fun b O an=>?_)
   have:=a2.out b an
   omega
  have ah:Hid ((Kn.sl w.heap.size 35 9 (XJ (L.take (i+1))).length (ords (XJ (L.take (i+1))))).p v4 w4):=by
   refine ⟨?_,fun b O=>?_⟩
   ·have e:XJ (L.take (i+1))=XJ (L.take i)++X.map (·.o):=by
     unfold XJ
     rw [jU HA.out,List.map_append]
    rw [e,List.length_append,List.length_map]
    unfold ords at a1 ⊢
    rw [List.flatMap_append]
    exact a1
   rcases ad b O with h | h
   ·exact a2.out b h
   omega
  clear a1 a4 ad a6 a2 j aa af
  go_wp2
  exact ⟨⟨i+1,by omega,by go_num,ah,aj⟩,by simp [intOf];omega⟩
 have HF:Hid ((Kn.sl w.heap.size 35 9 (XJ L).length (ords (XJ L))).p v3 wr):=by
  have:=H.out
  rw [List.take_of_length_le (by rw [← EL.out,Xz,HN.out];omega)] at this
  exact this
 clear H
 go_wp2
 go_ret
 exact ⟨v3,rfl,by rw [ag.out];exact HF.out,J⟩
theorem RBk.way3 {F:Nat→Prop} {w:World} {p:Nat} {B:Bok} (h:RBk w F p B) {k:Nat} (hk:k<3):∃ v F',w.cell? ⟨p,0+k*1,none⟩=some v∧RWay w F' v (B.sd (k:Int)):=by
 by_cases h0:k=0
 ·subst h0
  exact ⟨_,fun _=>False,h.cell0,Way.nil _⟩
 exact h.way (by omega)
def lenTo (B:Bok) (k:Nat):Nat:=if k≤1 then 0 else if k=2 then (YZ B.buys).length else B.len
theorem lenTo_step (B:Bok) {k:Nat} (h:k<3):lenTo B (k+1)=lenTo B k+(YZ (B.sd (k:Int))).length:=by
 have hk:k=0∨k=1∨k=2:=by omega
 rcases hk with rfl | rfl | rfl
 ·rfl
 ·show (YZ B.buys).length=0+(YZ B.buys).length
  omega
 show (YZ B.buys++YZ B.sells).length=(YZ B.buys).length+(YZ B.sells).length
 rw [List.length_append]
theorem lenTo_few {B:Bok} (h:Inv B) (k:Nat):lenTo B k≤64:=by
 have:=h.two.few
 unfold lenTo Bok.len Bok.all
 rw [List.length_append]
 split
 ·omega
 split <;> omega
theorem rblen_any (w:World) (F:Nat→Prop) (p:Nat) (B:Bok) (h:RBk w F p B) (hI:Inv B):Gives 56 #[.pointer (some ⟨p,0,none⟩)] w (.eq (.int .i64 (B.len:Int))):=by
 refine QW ?_
 have HB:=Kj h
 have HI:=Kj hI
 clear h hI
 go_enter Tryz.func56,Tryz.ntmps56
 go_upto_region 2 with fail
 go_wp2_with fail
 go_loopw [3,7] (fun t q wr=>∃ (k:Nat),k≤3∧q=.int .i64 (k:Int)∧t=.int .i64 (lenTo B k:Int)∧Kept w wr) (fun _ q _=>3-(intOf q).toNat)
 case atStart=>exact ⟨0,by omega,rfl,rfl,Kept.refl _⟩
 obtain ⟨k,hk3,rfl,rfl,j⟩:=hrel
 by_cases hk:k<3
 ·obtain ⟨L,H⟩:∃ L,B.sd (k:Int)=L:=⟨_,rfl⟩
  have hL:LvsOk L:=by rw [← H];exact HI.out.ok _
  have U:=lenTo_step B hk
  have ag:=lenTo_few HI.out (k+1)
  rw [H] at U
  obtain ⟨v,F1,a2,hW⟩:=(HB.out.kept j).way3 hk
  rw [H] at hW
  obtain ⟨Z,G,eL,hW⟩:=hW
  have a7:Z.length≤64:=by have:=hL.len;rw [← eL,Xz] at this;exact this
  have HLe:=Kj H
  have HV:=Kj a2
  have HW:=Kj hW
  have HL:=Kj hL
  have EL:=Kj eL
  obtain ⟨n,hn⟩:∃ n,Z.length=n:=⟨_,rfl⟩
  have N:=Kj hW.sl
  rw [hn] at N a7
  have HN:=Kj hn
  obtain ⟨N0,a1⟩:∃ y,lenTo B k=y:=⟨_,rfl⟩
  obtain ⟨N1,O⟩:∃ y,lenTo B (k+1)=y:=⟨_,rfl⟩
  rw [a1,O] at U
  rw [O] at ag
  rw [a1]
  have af:=Kj O
  clear H a2 hW hL eL hn a1 O
  go_upto_region 5 with fail
  refine wA 8 [pV p 0,iV (k:Int),pV p 0,pV p 0,pV p (0+k*1),v,iV (n:Int),iV 0] [10,11,12,13,14,15,16,17] (nS 4 (sV rfl (fun a u E D hk=>VQ 58 57 3 1 _ _ p 0 k rfl Tryz.underlying58 (by kernel_rfl) (dD D 3) (dD D 1) (by omega))) (nS 5 (ldC HV.out) (nS 6 (sV rfl (fun a u E D hk=>Jx _ VV _ _ _ _ rfl (dD D 5) N.out)) nZ))) ?_
  intro w1 k1
  simp only [F8]
  have ad:=j.trans k1
  have a8:=Kj (HW.out.kept k1)
  have a9:=Kj (N.out.kept k1)
  clear HV HW N k1 j
  go_wp2_with fail
  go_loopw [3,17] (fun t q wr=>∃ (i:Nat),i≤n∧q=.int .i64 (i:Int)∧(∃ c:Nat,t=.int .i64 (c:Int)∧Hid (c=N0+(YZ (L.take i)).length))∧Kept w1 wr) (fun _ q _=>n-(intOf q).toNat)
  case atStart=>exact ⟨0,Nat.zero_le _,rfl,⟨N0,rfl,by show _=_;rw [List.take_zero];rfl⟩,Kept.refl _⟩
  obtain ⟨i,hi,rfl,⟨c,rfl,I⟩,j⟩:=hrel
  by_cases hlt:i<n
  ·obtain ⟨gs,os,cc,rfl⟩:=a9.out.some_ (by omega)
   obtain ⟨z,hz⟩:∃ z,Z[i]?=some z:=⟨Z[i]'(by rw [HN.out];omega),List.getElem?_eq_getElem (by rw [HN.out];omega)⟩
   obtain ⟨q,pr,X⟩:=z
   have J:=(a8.out.kept j).cell hz
   have HC:=Kj J
   have a4:=Kj ((a8.out.kept j).lv (q,pr,X) (List.mem_of_getElem? hz))
   have HA:Hid (L[i]?=some (pr,X)):=by show _=_;rw [← EL.out];exact qj hz
   have h1:=entL_part L (i+1)
   rw [jU HA.out,List.length_append] at h1
   simp only at h1
   have hX:c+X.length≤64:=by rw [I.out];omega
   have ae:Hid (c+X.length=N0+(YZ (L.take (i+1))).length):=by show _=_;rw [jU HA.out,List.length_append,I.out];simp only;omega
   obtain ⟨_,_,vq,a6,a3,_⟩:=a4.out
   have HQ:=Kj (a6.cell 1)
   have a5:=Kj a3
   clear J hz h1 a6 a3 a4 I
   go_upto_region 7 with fail
   refine wAp 2 [pV gs (os+i*1),pV q 0] [19,20] (nS 0 (ixV VV (os) n i ((i:Int)) (hlt)) (nS 1 (ldC HC.out) nZ)) ?_
   intro w2 k2
   simp only [F8]
   refine aT (.pointer (some ⟨q,0,none⟩)) ?_
   simp only [Act.put,sA,sS,sZ]
   refine Kx ?_
   have ai:=j.trans k2
   have aj:=Kj (k2.cell HQ.out)
   have aa:=Kj (a5.out.kept k2)
   clear HC HQ a5 k2 j
   go_upto_region 8 with fail
   refine wAp 7 [iV (c:Int),pV q 0,pV q 0,pV q 1,vq,iV (X.length:Int),iV ((c+X.length:Nat):Int)] [21,22,23,24,25,26,27] (nS 4 (ldC aj.out) (nS 5 (sV rfl (fun a u E D hk=>Jx _ slR _ _ _ _ rfl (dD D 4) aa.out)) (nS 6 (sV rfl (fun a u E D hk=>YQ ((c+X.length:Nat):Int) (p:=(c:Int)) (q:=(X.length:Int)) rfl (dD D 0) (dD D 5) (by omega) (by omega) (by omega))) nZ))) ?_
   intro w3 k3
   simp only [F8]
   refine aT (.int .i64 ((c+X.length:Nat):Int)) ?_
   simp only [Act.put,sA,sS,sZ]
   refine Kx ?_
   have ab:=ai.trans k3
   go_wp2
   exact ⟨⟨i+1,by omega,by go_num,⟨c+X.length,rfl,ae⟩,ab⟩,by simp [intOf];omega⟩
  have hc:c=N1:=by
   rw [U,I.out,List.take_of_length_le (by rw [← EL.out,Xz,HN.out];omega)]
  have ac:=ad.trans j
  subst hc
  clear I j
  go_wp2
  exact ⟨⟨k+1,by omega,by go_num,by rw [af.out],ac⟩,by simp [intOf];omega⟩
 have ah:k=3:=by omega
 subst ah
 go_wp2
 go_ret
 exact ⟨rfl,j⟩
theorem entL_at {L:List Lev} {i m:Nat} {pr:Int} {X:List Ent} {e:Ent} (h:L[i]?=some (pr,X)) (j:X[m]?=some e):(YZ L)[(YZ (L.take i)).length+m]?=some e:=by
 have H:L=L.take (i+1)++L.drop (i+1):=(List.take_append_drop _ _).symm
 have D:=(List.getElem?_eq_some_iff.1 j).1
 rw [H,JJY,jU h,List.take_append_of_le_length (by have:=(List.getElem?_eq_some_iff.1 h).1;rw [List.length_take];omega),List.take_take,Nat.min_eq_left (by omega)]
 rw [List.append_assoc,List.getElem?_append_right (by omega),Nat.add_sub_cancel_left,List.getElem?_append_left D]
 exact j
theorem all_at {B:Bok} {k i m:Nat} {pr:Int} {X:List Ent} {e:Ent} (hk:k<3) (h:(B.sd (k:Int))[i]?=some (pr,X)) (J:X[m]?=some e):B.all[lenTo B k+(YZ ((B.sd (k:Int)).take i)).length+m]?=some e:=by
 have D:=entL_at h J
 have j:k=0∨k=1∨k=2:=by omega
 rcases j with rfl | rfl | rfl
 ·cases h
 ·have H:(YZ B.buys)[(YZ (B.buys.take i)).length+m]?=some e:=D
  have I:=(List.getElem?_eq_some_iff.1 H).1
  show (YZ B.buys++YZ B.sells)[0+(YZ (B.buys.take i)).length+m]?=some e
  rw [Nat.zero_add,List.getElem?_append_left I]
  exact H
 show (YZ B.buys++YZ B.sells)[(YZ B.buys).length+(YZ (B.sells.take i)).length+m]?=some e
 rw [Nat.add_assoc,List.getElem?_append_right (by omega),Nat.add_sub_cancel_left]
 exact D
def yy (t i:Int) (X:List Ent) (n:Nat):Prop:=∀ (j:Nat) (x:Ent),j<n→X[j]?=some x→x.is t i=false
theorem yy.step {t i:Int} {X:List Ent} {n:Nat} {e:Ent} (h:yy t i X n) (J:X[n]?=some e) (H:¬ (e.o.tr=t∧e.o.id=i)):yy t i X (n+1):=by
 intro j x hj hx
 by_cases hjn:j=n
 ·subst hjn
  rw [J] at hx
  injection hx with hx
  rw [← hx]
  simp [Ent.is]
  exact fun I D=>H ⟨I,D⟩
 exact h j x (by omega) hx
theorem rbfind_any (w:World) (F:Nat→Prop) (p:Nat) (B:Bok) (t id:Int) (h:RBk w F p B) (hI:Inv B):Gives 26 #[.pointer (some ⟨p,0,none⟩),.int .i64 t,.int .i64 id] w (.eq (.tuple #[(B.find t id).1.v,.bool (B.find t id).2])):=by
 refine QW ?_
 have HB:=Kj h
 have HI:=Kj hI
 clear h hI
 go_enter Tryz.func26,Tryz.ntmps26
 go_upto_region 0 with fail
 refine tAp 2 [.k (.fresh w.heap.size 35 JV.cells),bK false] (nS 0 (nV rfl (fun a u E D hk=>⟨_,_,QX 35 JV.cells rfl zO,⟨_,rfl,hk.size,Blk.new u _ _⟩,((Keep.refl _ u).alloc _)⟩)) nZ) ?_
 intro gv wz I kz
 rw [dq 2 [6,7]]
 simp only [Fz7]
 have az:(.fresh w.heap.size 35 JV.cells:Kn).p (gv 6) wz:=I 0 6 (by kernel_rfl)
 generalize gv 6=v6 at az ⊢
 rw [gQ I 1 7 (.bool false)]
 clear I
 obtain ⟨b6,rfl,hb6,aj⟩:=az
 refine Kx ?_
 have aC:=Kj aj
 have l6:=aj.lt
 have aK:=Kj (HB.out.kept kz)
 clear aj HB
 go_wp2_with fail
 go_loopw [13] (fun q wr=>∃ (k:Nat),k≤3∧q=.int .i64 (k:Int)∧Hid (yy t id B.all (lenTo B k))∧Kept wz wr) (fun q _=>3-(intOf q).toNat)
 case atStart=>exact ⟨0,by omega,rfl,fun j x hj=>(by simp [lenTo] at hj),Kept.refl _⟩
 obtain ⟨k,hk3,rfl,ak,H⟩:=hrel
 by_cases hk:k<3
 ·have am:=lenTo_step B hk
  have aE:=aK.out.kept H
  obtain ⟨L,a7⟩:∃ L,B.sd (k:Int)=L:=⟨_,rfl⟩
  have hL:LvsOk L:=by rw [← a7];exact HI.out.ok _
  obtain ⟨v,F1,aq,hW⟩:=aE.way3 hk
  rw [a7] at hW
  obtain ⟨Z,G,eL,hW⟩:=hW
  have ax:Z.length≤64:=by have:=hL.len;rw [← eL,Xz] at this;exact this
  have al:=Kj a7
  have HV:=Kj aq
  have HW:=Kj hW
  have HL:=Kj hL
  have EL:=Kj eL
  obtain ⟨n,hn⟩:∃ n,Z.length=n:=⟨_,rfl⟩
  have a8:=Kj hW.sl
  rw [hn] at a8 ax
  have HN:=Kj hn
  clear a7 aq hW hL eL hn
  have aR:=Kj am
  clear am aE
  go_upto_region 4 with fail
  refine tA 8 [pK p 0,iK (k:Int),pK p 0,pK p 0,pK p (0+k*1),.v (v),iK (n:Int),iK 0] [16,17,18,19,20,21,22,23] (nS 4 (sV rfl (fun a u E D hk=>VQ 58 57 3 1 _ _ p 0 k rfl Tryz.underlying58 (by kernel_rfl) (dD D 3) (dD D 1) (by omega))) (nS 5 (ldC HV.out) (nS 6 (sV rfl (fun a u E D hk=>Jx _ VV _ _ _ _ rfl (dD D 5) a8.out)) nZ))) ?_
  intro gv w1 I k1
  simp only [Fz7]
  rw [gQ I 5 21 v]
  rw [gQ I 6 22 (.int .i64 (n:Int))]
  rw [gQ I 7 23 (.int .i64 0)]
  clear I
  have au:=H.trans k1
  have aA:=Kj (HW.out.kept k1)
  have aD:=Kj (a8.out.kept k1)
  clear HV HW a8 k1 H
  go_wp2_with fail
  rw [show (decide ((k:Int)<3))=true from Ky (by omega)]
  go_loopw [23] (fun q wr=>∃ (i:Nat),i≤n∧q=.int .i64 (i:Int)∧Hid (yy t id B.all (lenTo B k+(YZ (L.take i)).length))∧Kept w1 wr) (fun q _=>n-(intOf q).toNat)
  case atStart=>exact ⟨0,Nat.zero_le _,rfl,by show yy _ _ _ _;rw [List.take_zero];exact ak.out,Kept.refl _⟩
  obtain ⟨i,hi,rfl,a4,H⟩:=hrel
  by_cases hlt:i<n
  ·skip
   obtain ⟨gs,os,cc,rfl⟩:=aD.out.some_ (by omega)
   obtain ⟨z,hz⟩:∃ z,Z[i]?=some z:=⟨Z[i]'(by rw [HN.out];omega),List.getElem?_eq_getElem (by rw [HN.out];omega)⟩
   obtain ⟨q,pr,X⟩:=z
   have a6:=(aA.out.kept H).cell hz
   have HC:=Kj a6
   have av:=Kj ((aA.out.kept H).lv (q,pr,X) (List.mem_of_getElem? hz))
   have HA:Hid (L[i]?=some (pr,X)):=by show _=_;rw [← EL.out];exact qj hz
   have aL:X.length≤64:=by
    have U:=entL_part L (i+1)
    rw [jU HA.out,List.length_append] at U
    simp only at U
    have:=HL.out.few
    omega
   obtain ⟨_,_,vq,aw,ar,_⟩:=av.out
   have HQ:=Kj (aw.cell 1)
   have ag:=Kj ar
   obtain ⟨xn,ai⟩:∃ y,X.length=y:=⟨_,rfl⟩
   rw [ai] at ag aL
   have ae:=Kj ai
   clear a6 hz aw ar av ai
   go_upto_region 6 with fail
   refine tAp 2 [pK gs (os+i*1),pK q 0] (nS 0 (ixV VV (os) n i ((i:Int)) (hlt)) (nS 1 (ldC HC.out) nZ)) ?_
   intro gv w2 I k2
   rw [dq 2 [25,26]]
   simp only [Fz7]
   rw [gQ I 1 26 (.pointer (some ⟨q,0,none⟩))]
   clear I
   refine aT (.pointer (some ⟨q,0,none⟩)) ?_
   simp only [Act.put,sA,sS,sZ]
   refine Kx ?_
   have aF:=Kj (k2.cell HQ.out)
   have a5:=Kj (ag.out.kept k2)
   go_upto_region 7 with fail
   refine tA 6 [pK q 0,pK q 0,pK q 1,.v (vq),iK (xn:Int),iK 0] [27,28,29,30,31,32] (nS 3 (ldC aF.out) (nS 4 (sV rfl (fun a u E D hk=>Jx _ slR _ _ _ _ rfl (dD D 3) a5.out)) nZ)) ?_
   intro gv w3 I k3
   simp only [Fz7]
   rw [gQ I 3 30 vq]
   rw [gQ I 4 31 (.int .i64 (xn:Int))]
   rw [gQ I 5 32 (.int .i64 0)]
   clear I
   have ad:=(au.trans H).trans (k2.trans k3)
   have aM:Kept w1 w3:=H.trans (k2.trans k3)
   have aa:=Kj (a5.out.kept k3)
   clear HC HQ ag aF a5 k2 k3 H
   go_wp2_with fail
   go_loopw [32] (fun q wr=>∃ (m:Nat),m≤xn∧q=.int .i64 (m:Int)∧Hid (yy t id B.all (lenTo B k+(YZ (L.take i)).length+m))∧Kept w3 wr) (fun q _=>xn-(intOf q).toNat)
   case atStart=>exact ⟨0,Nat.zero_le _,rfl,a4.out,Kept.refl _⟩
   obtain ⟨m,hm,rfl,J,H⟩:=hrel
   by_cases hmt:m<xn
   ·obtain ⟨ge,oe,ce,rfl⟩:=aa.out.some_ (by omega)
    obtain ⟨e,he⟩:∃ e,X[m]?=some e:=⟨X[m]'(by rw [ae.out];exact hmt),List.getElem?_eq_getElem (by rw [ae.out];exact hmt)⟩
    have HE:Hid (wr.rangeAt ge (oe+m*10) e.cells):=JJ (aa.out.rng m e he) H
    have a2:Hid (B.all[lenTo B k+(YZ (L.take i)).length+m]?=some e):=by
     have U:=HA.out
     show _=_
     rw [← al.out] at U ⊢
     exact all_at hk U he
    have a3:=Kj (aC.out.kept (ad.trans H))
    have zr:=(ad.trans H).size
    clear he
    go_upto_region 9 with fail
    refine tAp 3 [pK ge (oe+m*10),.v (e.v),.k (.fresh wr.heap.size 102 XY.cells)] (nS 0 (ixV slR (oe) xn m ((m:Int)) (hmt)) (nS 1 (ldS Tryz.underlying102 (fun u hk=>JJ HE.out hk) (by rw [e.len10];exact szR)) (nS 2 (nV rfl (fun a u E D hk=>⟨_,_,QX 102 XY.cells rfl zR,⟨_,rfl,hk.size,Blk.new u _ _⟩,((Keep.refl _ u).alloc _)⟩)) nZ))) ?_
    intro gv aH I aB
    rw [dq 3 [34,35,12]]
    simp only [Fz7]
    have ab:(.fresh wr.heap.size 102 XY.cells:Kn).p (gv 12) aH:=I 2 12 (by kernel_rfl)
    generalize gv 12=v12 at ab ⊢
    rw [gQ I 1 35 e.v]
    clear I
    obtain ⟨N,rfl,hb12,ac⟩:=ab
    refine YV 102 N 102 XY.cells e.cells _ _ rfl rfl (by kernel_rfl) (by kernel_rfl) ac (by rw [Ent.len10];exact szR) (by rw [Ent.len10,Ent.len10]) (Ent.one _) ?_
    intro w4 ay ao aG
    simp only [Act.put]
    refine Kx ?_
    have k4:Kept wr w4:=aB.trans' ao (by omega)
    have af:=H.trans k4
    have O:=Kj (JX ay)
    have a9:=Kj (a3.out.kept k4)
    clear ac ay ao aG aB HE a3 k4
    by_cases hc1:e.o.tr=t
    ·by_cases hc2:e.o.id=id
     ·have HR:Hid (B.find t id=(e.o,true)):=by
       show _=_
       have U:=idx_of J.out a2.out (by simp [Ent.is,hc1,hc2])
       unfold Bok.find findE
       rw [U,a2.out]
      go_upto_region 10 with fail
      refine tA 12 [pK N 0,pK N 0,iK e.o.tr,iK t,bK true,bK true,pK N 0,pK N 1,iK e.o.id,iK id,bK true,bK true] [36,37,38,39,40,41,42,43,44,45,46,47] (nS 2 (ldR O.out 0) (nS 4 (aV rfl (fun a u E D hk=>JY rfl (dD D 2) (dD D 3)) (Ky hc1)) (nS 8 (ldR O.out 1) (nS 10 (aV rfl (fun a u E D hk=>JY rfl (dD D 8) (dD D 9)) (Ky hc2)) nZ)))) ?_
      intro gv w5 I k5
      simp only [Fz7]
      rw [gQ I 11 47 (.bool true)]
      clear I
      have ah:=Kj (JJ O.out k5)
      have an:=Kj (a9.out.kept k5)
      clear O a9 J a2 hc1 hc2
      go_upto_region 11 with fail
      refine tAp 2 [pK N 0,.v (e.o.v)] (nS 1 (ldS Tryz.underlying35 (fun u hk=>xX (JJ ah.out hk)) (by rw [e.o.len9];exact JU)) nZ) ?_
      intro gv w6 I k6
      rw [dq 2 [48,49]]
      simp only [Fz7]
      rw [gQ I 1 49 e.o.v]
      clear I
      refine sO e.o (an.out.kept k6) ?_
      intro w7 aI aS hs7
      refine aT (.bool true) ?_
      simp only [Act.put,sA,sS,sZ]
      refine Kx ?_
      go_wp2
      refine bodyPost_ret (Qq (p:=6) (q:=7) rfl _ _ b6 _ e.o.cells true rfl rfl aI Tryz.underlying35 (by rw [Ord.len9];exact JU)) rfl ?_
      rw [HR.out]
      exact ⟨rfl,((((kz.trans ad).trans af).trans k5).trans k6).trans' aS (by omega)⟩
     skip
     go_upto_region 10 with fail
     refine tA 12 [pK N 0,pK N 0,iK e.o.tr,iK t,bK true,bK true,pK N 0,pK N 1,iK e.o.id,iK id,bK false,bK false] [36,37,38,39,40,41,42,43,44,45,46,47] (nS 2 (ldR O.out 0) (nS 4 (aV rfl (fun a u E D hk=>JY rfl (dD D 2) (dD D 3)) (Ky hc1)) (nS 8 (ldR O.out 1) (nS 10 (aV rfl (fun a u E D hk=>JY rfl (dD D 8) (dD D 9)) (Ku hc2)) nZ)))) ?_
     intro gv w5 I k5
     simp only [Fz7]
     rw [gQ I 11 47 (.bool false)]
     clear I
     have a1:Hid (yy t id B.all (lenTo B k+(YZ (L.take i)).length+(m+1))):=J.out.step a2.out (fun h=>hc2 h.2)
     clear J a2
     go_wp2
     exact ⟨⟨m+1,by omega,by go_num,a1,af.trans k5⟩,by simp [intOf];omega⟩
    skip
    go_upto_region 10 with fail
    refine tA 12 [pK N 0,pK N 0,iK e.o.tr,iK t,bK false,bK false,uK,uK,uK,uK,uK,bK false] [36,37,38,39,40,41,42,43,44,45,46,47] (nS 2 (ldR O.out 0) (nS 4 (aV rfl (fun a u E D hk=>JY rfl (dD D 2) (dD D 3)) (Ku hc1)) nZ)) ?_
    intro gv w5 I k5
    simp only [Fz7]
    rw [gQ I 11 47 (.bool false)]
    clear I
    have a1:Hid (yy t id B.all (lenTo B k+(YZ (L.take i)).length+(m+1))):=J.out.step a2.out (fun h=>hc1 h.1)
    clear J a2
    go_wp2
    exact ⟨⟨m+1,by omega,by go_num,a1,af.trans k5⟩,by simp [intOf];omega⟩
   have a1:Hid (yy t id B.all (lenTo B k+(YZ (L.take (i+1))).length)):=by
    show yy _ _ _ _
    rw [jU HA.out,List.length_append]
    have U:=J.out
    rw [show m=X.length by rw [ae.out];omega,Nat.add_assoc] at U
    exact U
   have KK:Kept w1 wr:=aM.trans H
   clear J H
   go_wp2
   exact ⟨⟨i+1,by omega,by go_num,a1,KK⟩,by simp [intOf];omega⟩
  have a1:Hid (yy t id B.all (lenTo B (k+1))):=by
   show yy _ _ _ _
   rw [aR.out,al.out]
   have U:=a4.out
   rw [List.take_of_length_le (by rw [← EL.out,Xz,HN.out];omega)] at U
   exact U
  have aJ:=au.trans H
  clear a4 H
  go_wp2
  exact ⟨⟨k+1,by omega,by go_num,a1,aJ⟩,by simp [intOf];omega⟩
 have aN:k=3:=by omega
 subst aN
 have HR:Hid (B.find t id=(JV,false)):=by
  show _=_
  have U:Wj t id B.all=B.all.length:=idx_none (fun j' x hj hx=>ak.out j' x hj hx)
  unfold Bok.find findE
  rw [U,List.getElem?_eq_none (Nat.le_refl _)]
 have a3:=Kj (aC.out.kept H)
 clear ak
 go_upto_region 15 with fail
 refine tAp 1 [.v (JV.v)] (nS 0 (sV rfl (fun a u E D hk=>XZ 35 [] JV.cells rfl (by kernel_rfl))) nZ) ?_
 intro gv w4 I k4
 rw [dq 1 [53]]
 simp only [Fz7]
 rw [gQ I 0 53 JV.v]
 clear I
 refine sO JV (a3.out.kept k4) ?_
 intro w5 aQ aO hs5
 refine aT (.bool false) ?_
 simp only [Act.put,sA,sS,sZ]
 refine Kx ?_
 go_wp2
 refine bodyPost_ret (Qq (p:=6) (q:=7) rfl _ _ b6 _ JV.cells false rfl rfl aQ Tryz.underlying35 (by rw [Ord.len9];exact JU)) rfl ?_
 rw [HR.out]
 exact ⟨rfl,((kz.trans H).trans k4).trans' aO (by omega)⟩
end Go.Proofs.YtklohceombpleaaGreat
namespace Go.Proofs.YtklohceombpleaaGreat
open Go.RowKit
variable {pr:Int}
theorem Lvl.renew {T E:TypeId} {w N I:World} {F:Nat→Prop} {p base:Nat} {X Y:List Ent} {v':Value} (h:Lvl pr T E w F p X) (hk:Kept w N) (hb:w.heap.size≤base) (O:Sl N E 10 v' Y.length (ents Y)) (J:∀ b,v'.ownBlock=some b→base≤b) (U:Blk I p T [.int .i64 pr,v']) (D:Keep (·=p) N I) :
  ∃ F',Lvl pr T E I F' p Y∧Grow w F F'∧Keep F w I:=by
 have hp:p<w.heap.size:=h.2.1 p h.1
 refine ⟨fun b=>F b∨v'.ownBlock=some b,⟨.inl h.1,fun b j=>?_,v',U,O.keep D (fun b j e=>by have:=J b j;omega),fun b j=>⟨.inr j,fun e=>by have:=J b j;omega⟩⟩,fun b j=>?_,(Keep.mono (T:=F) hk (fun _ _ h=>h.elim)).trans D (fun b _ e=>by subst e;exact h.1)⟩
 ·have:=D.size
  rcases j with H | H
  ·have:=h.2.1 b H;have:=hk.size;omega
  have:=O.lt H;omega
 rcases j with H | H
 ·exact .inl H
 exact .inr (Kv hb (J b H))
theorem Lvl.renew2 {T E:TypeId} {w N J:World} {F:Nat→Prop} {p base:Nat} {X Y:List Ent} {v':Value} (h:Lvl pr T E w F p X) (hk:Kept w N) (hb:w.heap.size≤base) (O:Sl N E 10 v' Y.length (ents Y)) (I:∀ b,v'.ownBlock=some b→base≤b) (U:Blk J p T [.int .i64 pr,v']) (D:Keep (·=p) N J) :
  ∃ F',Lvl pr T E J F' p Y∧Grow w F F'∧Keep F w J∧∀ b,F' b→F b∨base≤b:=by
 have hp:p<w.heap.size:=h.2.1 p h.1
 refine ⟨fun b=>F b∨v'.ownBlock=some b,⟨.inl h.1,fun b j=>?_,v',U,O.keep D (fun b j e=>by have:=I b j;omega),fun b j=>⟨.inr j,fun e=>by have:=I b j;omega⟩⟩,fun b j=>?_,(Keep.mono (T:=F) hk (fun _ _ h=>h.elim)).trans D (fun b _ e=>by subst e;exact h.1),fun b j=>j.imp id (I b)⟩
 ·have:=D.size
  rcases j with H | H
  ·have:=h.2.1 b H;have:=hk.size;omega
  have:=O.lt H;omega
 rcases j with H | H
 ·exact .inl H
 exact .inr (Kv hb (I b H))
theorem yW {w u j:World} {base:Nat} (hk:Kept w u) (h:Keep (fun b=>base≤b) u j) (hb:w.heap.size≤base):Kept w j:=Keep.trans hk h (fun b hb' h'=>by omega)
section
variable {ops:Array Oper} {Q:Exit→Act→World→Prop} {a:Act} {w:World} {o:Oper} {rest:List Oper}
theorem l_rowS (g off n c i:Nat) (X:List Ent) (e:Ent) (J:Addr) (x y:Operand) (U:Region.wanted o (yielded ops a.tmps)=true) (H:o.op=.store 102 x y) (hx:a.eval x=.pointer (some J)) (hy:a.eval y=e.v) (j:J=⟨g,off+i*10,none⟩)
  (O:Sl w 102 10 (.slice (some ⟨g,off,none⟩) n c) n (ents X)) (hn:n=X.length) (hi:i<n)
  (N:∀ w',Sl w' 102 10 (.slice (some ⟨g,off,none⟩) n c) n (ents (X.set i e))→Keep (·=g) w w'→w'.heap.size=w.heap.size→wpList Tryz.prog ops Q rest (a.put o.dst undef) w'):wpList Tryz.prog ops Q (o::rest) a w:=by
 subst j
 have hm:(i+1)*10≤n*10:=Nat.mul_le_mul_right 10 (by omega)
 obtain ⟨D,h2,h3,h4⟩:=O.setCells (i*10) e.cells (by rw [Ent.len10];omega)
 have I:=run_storeVar_mid (P:=Tryz.prog) w g (off+i*10) 102 e.cells.toArray (by simpa using h4) (by rw [List.size_toArray,Ent.len10];exact szR) (by simpa using e.one)
 rw [List.toList_toArray] at I
 refine l_store (w.setCells g (off+i*10) e.cells) U ?_ (N _ ?_ h2 h3)
 ·unfold execOp
  simp only [H,hx,hy,Ent.v,Instr.storeAt,Instr.sureAddr,Sem.run_bind,Sem.run_pure,Result.andThen_ok,I]
 rw [Ent.len10] at D
 have:=flat_set Ent.cells 10 Ent.len10 X i e (by omega)
 unfold ents at D ⊢
 rw [← this]
 exact D
end
theorem radd_any (w:World) (F:Nat→Prop) (p:Nat) (X:List Ent) (c:Ord) (h:Lvl pr 100 102 w F p X) (hn:X.length≤100000000) :
  Calls Tryz.prog 85 #[.pointer (some ⟨p,0,none⟩),c.v] w fun e w'=>∃ F',e=.returned (.tuple #[])∧Lvl pr 100 102 w' F' p (X++[Ent.of c])∧Grow w F F'∧Keep F w w':=by
 have HL:=Kj h
 obtain ⟨h1,h2,v,hB,hS,h5⟩:=h
 have HB:=Kj hB
 have HS:=Kj hS
 clear hB hS h5 h1 h2
 go_enter Tryz.func85,Tryz.ntmps85
 go_upto_region 0 with fail
 refine tAp 1 [.k (.fresh w.heap.size 35 (c.cells))] (nS 0 (nV rfl (fun a u E D hk=>⟨_,_,XV 35 _ (c.cells) rfl (eE E),⟨_,rfl,hk.size,Blk.new u _ _⟩,((Keep.refl _ u).alloc _)⟩)) nZ) ?_
 intro gv w0 hV U
 rw [dq 1 [3]]
 simp only [Fz7]
 have O:(.fresh w.heap.size 35 (c.cells):Kn).p (gv 3) w0:=hV 0 3 (by kernel_rfl)
 generalize gv 3=v3 at O ⊢
 clear hV
 obtain ⟨g,rfl,hg,hG⟩:=O
 refine Kx ?_
 have HG:=Kj (JX hG)
 have J:=Kj (HB.out.kept U)
 have ab:=Kj (HS.out.kept U)
 have z0:=U.size
 clear hG
 go_upto_region 1 with fail
 refine JJZ 12 [.eq (.pointer (some ⟨p,0,none⟩)),.emp w0.heap.size 102,.eq (.pointer (some ⟨p,0,none⟩)),.eq (.pointer (some ⟨p,0,none⟩)),.eq (.pointer (some ⟨p,1,none⟩)),.eq (v),.sl w0.heap.size 102 10 X.length (ents X),.eq (c.v),.eq (c.v),.eq (.int .i64 c.tip),.eq ((Ent.mk c (c.tip)).v),.sl w0.heap.size 102 10 1 (Ent.mk c (c.tip)).cells] (.pointer (some ⟨p,0,none⟩)) ((fun v' u j=>Sl j 102 10 v' (X.length+1) (ents X++(Ent.mk c (c.tip)).cells)∧(∀ b,v'.ownBlock=some b→w0.heap.size≤b)∧Keep (fun b=>w0.heap.size≤b) u j)) (by kernel_rfl) rfl rfl (by kernel_rfl) (by kernel_rfl) (t_zero (d:=4) _ rfl rfl rfl (by kernel_rfl) (by kernel_rfl)) ?_ (fun a u hE I hk=> (by obtain ⟨v',j,hr,a2,a6,a4⟩:=QQ slR _ u (a.eval (.tmp 10)) (a.eval (.tmp 15)) X.length 1 (ents X) (Ent.mk c (c.tip)).cells ((I 6 10 (by kernel_rfl))).1 ((I 11 15 (by kernel_rfl))).1 (Ent.one _) (by unfold maxLen;omega) (by omega);have hq:=((I 6 10 (by kernel_rfl))).2;exact t_last (o:=⟨some 16,_,_,_,_,_⟩) (R:=(fun v' u j=>Sl j 102 10 v' (X.length+1) (ents X++(Ent.mk c (c.tip)).cells)∧(∀ b,v'.ownBlock=some b→w0.heap.size≤b)∧Keep (fun b=>w0.heap.size≤b) u j)) (m:=12) (v:=v') (w':=j) rfl (JQ rfl _) (QV slR (.tmp 10) (.tmp 15) _ _ rfl rfl rfl v' j hr) ⟨a2,fun b hb=>(a4 b hb).elim (hq b) (fun h=>Kv hk.size h),a6.mono (fun b _ hb=>hq b hb)⟩)) ?_
 ·refine nW 2 rfl (fun a u E D hk=>⟨_,_,Uq 98 102 10 rfl slR.und szR,⟨_,rfl,hk.size,Blk.new u _ _⟩,((Keep.refl _ u).alloc _)⟩) ?_
  refine mE 3 0 ?_
  refine nD 4 6 2 ?_
  refine fD 5 7 3 100 1 1 0 ?_
  refine sW 6 rfl (fun a u E D hk=>Qx _ _ Tryz.underlying98 _ _ _ rfl (dD D 4) (by rw [(J.out.kept hk).cell];rfl)) ?_
  refine UU 7 rfl (fun a u hE I hk=>(by obtain ⟨v',j,hr,hp,aa⟩:=Zx slR _ u (a.eval (.tmp 5)) v X.length w0.heap.size _ ((dD I 1)) (ab.out.kept hk) (JJj _) (by omega) (by omega) hk.size;exact jV v' j rfl (JQ rfl _) (QV slR (.tmp 5) (.tmp 9) _ v rfl rfl (dD I 5) v' j hr) hp aa)) ?_
  refine sE 8 3 g 0 c.cells Tryz.underlying35 (fun u hk=>JJ HG.out hk) (by rw [c.len9];exact JU) ?_
  refine sE 9 3 g 0 c.cells Tryz.underlying35 (fun u hk=>JJ HG.out hk) (by rw [c.len9];exact JU) ?_
  refine cS 10 99 [c.v] rfl Tryz.func99 rfl (fun a u E D hk=>⟨ll (dD D 8) rfl,tip_any c u⟩) ?_
  refine sW 11 rfl (fun a u E D hk=>qW 102 builtR _ _ (c) (c.tip) rfl (dD D 7) (dD D 9)) ?_
  refine nW 12 rfl (fun a u E D hk=>⟨_,_,VJ slR _ (Ent.mk c (c.tip)).cells (by omega) rfl (dD D 10) ((Ent.mk c (c.tip)).len10),(jY u 102 10 _ w0.heap.size ((Ent.mk c (c.tip)).len10) (by omega) hk.size),((Keep.refl _ u).alloc _)⟩) ?_
  exact fz
 intro gv w1 w2 hV h0 hR a8
 rw [dq 13 [4,5,6,7,8,9,10,11,12,13,14,15,16]]
 simp only [Fz7]
 have hT:=hR 16 (by kernel_rfl)
 generalize gv 16=v16 at hT ⊢
 rw [show gv 4=.pointer (some ⟨p,0,none⟩) from h0 4 (by kernel_rfl)]
 clear hV h0 hR
 obtain ⟨H,a7,a5⟩:=hT
 have N:=yW a8 a5 (Nat.le_refl _)
 have a1:=J.out.kept N
 refine aT (.pointer (some ⟨p,0,none⟩)) ?_
 refine aT (.pointer (some ⟨p,1,none⟩)) ?_
 refine ZJ 98 p 1 100 _ v16 _ _ rfl rfl (by kernel_rfl) (by kernel_rfl) (by kernel_rfl) (Zy H) (Xy H) a1 (by simp) ?_
 intro w3 a9 a3 hs3
 simp only [Act.put,sA,sS,sZ]
 refine Kx ?_
 go_wp2
 go_end0
 obtain ⟨F',q1,q2,q3⟩:=HL.out.renew (U.trans N) z0 (Y:=X++[Ent.of c]) (v':=v16) (by rw [List.length_append,ents_snoc];exact H) a7 (by simpa using a9) a3
 exact ⟨F',rfl,q1,q2,q3⟩
end Go.Proofs.YtklohceombpleaaGreat
