/-
 Laws and contracts that the walks rest on, part 1. No condition.
-/
import Derived.Test.YtklohceombpleaaGreatRows
import Derived.WalkKit
import Derived.WalkSpells
import Derived.WalkLawsBesides
import Derived.Lib.Hide
import Derived.BigQuiet
import Derived.Deep.QuietTactic
import Derived.Deep.RegionWith
import Derived.Laws.CopyOwn
import Derived.Lib.AppendStr
import Derived.Laws.AppendOwnNone
import Derived.ProofKit
import Derived.OpenShut
import Derived.Lib.SmallJoins
import Derived.Deep.Slices
import Derived.Deep.Fields
import Derived.Laws.OwnMore
import Derived.StillTail
import Derived.Deep.Quiet
import Derived.Deep.MidRow
import Derived.OrdersHeld
import Derived.Deep.RegionHeld3
import Derived.Deep.AppendLies
import Derived.Laws.BitsLemmas
import Derived.Laws.BitsAllLaws
import Derived.ChangeKeysEq
import Derived.Great.BuildSlice
import Derived.Laws.StructEq
import Derived.Deep.DeepCutAuto
import Derived.ArgAppend
import Derived.Lib.SliceRun
import Derived.Lib.AppendZerosOnto
import Derived.Lib.Overlaps
import Derived.Deep.CutBlock
set_option linter.unusedVariables false
set_option maxRecDepth 100000
set_option maxHeartbeats 1600000
namespace Go.Proofs.YtklohceombpleaaGreat
theorem fC {α β:Type} {f:β→α→β} {a:α} {l:List α} {b:β}:(a::l).foldl f b=l.foldl f (f b a):=rfl
theorem fN {α β:Type} {f:β→α→β} {b:β}:([]:List α).foldl f b=b:=rfl
theorem sA {α:Type} (l:List α) (i:Nat) (a:α):l.toArray.setIfInBounds i a=(l.set i a).toArray:=by simp only [List.setIfInBounds_toArray]
theorem sS {α:Type} {a:α} {l:List α} {n:Nat} {b:α}:(a::l).set (n+1) b=a::l.set n b:=rfl
theorem sZ {α:Type} {a:α} {l:List α} {b:α}:(a::l).set 0 b=b::l:=rfl
theorem dS {α:Type} {a:α} {l:List α} {n:Nat}:(a::l).drop (n+1)=l.drop n:=rfl
theorem dZ {α:Type} {l:List α}:l.drop 0=l:=rfl
theorem aP (a:Act) (v:Value) (d:Option Tmp):a.put d v=Act.put a d v:=rfl
end Go.Proofs.YtklohceombpleaaGreat
namespace Go.Proofs.YtklohceombpleaaGreat
open Go.RowKit
theorem Wz {a b:Bool} (h:a=b):Ending.returned (.bool a)=.returned (.bool b):=by rw [h]
theorem ret_int {k:IntKind} {a b:Int} (h:a=b):Ending.returned (.int k a)=.returned (.int k b):=by rw [h]
structure Keep (S:Nat→Prop) (w w':World):Prop where
 os:w'.os=w.os
 tape:w'.tape=w.tape
 output:w'.output=w.output
 size:w.heap.size≤w'.heap.size
 block:∀ k,k<w.heap.size→¬ S k→w'.heap[k]?=w.heap[k]?
def Kept (w w':World):Prop:=Keep (fun _=>False) w w'
theorem Keep.refl (S:Nat→Prop) (w:World):Keep S w w:=⟨rfl,rfl,rfl,Nat.le_refl _,fun _ _ _=>rfl⟩
theorem Keep.trans {S T:Nat→Prop} {a b c:World} (h:Keep S a b) (k:Keep T b c) (H:∀ i,i<a.heap.size→T i→S i):Keep S a c:=
 ⟨k.os.trans h.os,k.tape.trans h.tape,k.output.trans h.output,Nat.le_trans h.size k.size,fun i j D=>
  (k.block i (Nat.lt_of_lt_of_le j h.size) (fun I=>D (H i j I))).trans (h.block i j D)⟩
theorem Keep.mono {S T:Nat→Prop} {a b:World} (h:Keep S a b) (H:∀ i,i<a.heap.size→S i→T i):Keep T a b:=
 ⟨h.os,h.tape,h.output,h.size,fun i j I=>h.block i j (fun D=>I (H i j D))⟩
theorem Keep.drew {S:Nat→Prop} {a w:World} (h:Keep S a w):Keep S a w.drew:=⟨h.os,h.tape,h.output,h.size,h.block⟩
theorem Keep.undrew {S:Nat→Prop} {a w:World} (h:Keep S a.drew w):Keep S a w:=⟨h.os,h.tape,h.output,h.size,h.block⟩
theorem Keep.alloc {S:Nat→Prop} {a w:World} (h:Keep S a w) (o:Obj):Keep S a (w.alloc o):=
 ⟨h.os,h.tape,h.output,Nat.le_trans h.size (by simp),fun i j D=>(Below.heap_alloc w o i (Nat.lt_of_lt_of_le j h.size)).trans (h.block i j D)⟩
theorem Keep.setCell {S:Nat→Prop} {a w:World} (h:Keep S a w) {p:Addr} (H:p.block<a.heap.size→S p.block) (u:Value):Keep S a (w.setCell p u):=
 ⟨h.os,h.tape,h.output,by simpa [World.setCell] using h.size,fun i D j=>(Below.heap_setCell w p u i (by
  rintro rfl
  exact j (H D))).trans (h.block i D j)⟩
theorem Keep.grown {S:Nat→Prop} {a w w':World} {row:Option Nat} (h:Keep S a w) (j:w.grownBy w' row) (I:∀ k,row=some k→k<a.heap.size→S k):Keep S a w':=
 ⟨j.os.trans h.os,j.tape.trans h.tape,j.output.trans h.output,Nat.le_trans h.size j.size,fun i D H=>
  (j.block i (Nat.lt_of_lt_of_le D h.size) (fun e=>H (I i e.symm D))).trans (h.block i D H)⟩
theorem Kept.refl (w:World):Kept w w:=Keep.refl _ w
theorem Kept.trans {a b c:World} (h:Kept a b) (k:Kept b c):Kept a c:=Keep.trans h k (fun _ _ h=>h)
theorem Kept.trans' {a b c:World} {g:Nat} (h:Kept a b) (k:Keep (·=g) b c) (D:¬ g<a.heap.size):Kept a c:=Keep.trans h k (fun i j e=>D (by subst e;exact j))
theorem Keep.kept {S:Nat→Prop} {a b c:World} (h:Keep S a b) (k:Kept b c):Keep S a c:=h.trans k (fun _ _ h=>h.elim)
theorem Keep.cell {S:Nat→Prop} {w w':World} (h:Keep S w w') {a:Addr} {v:Value} (j:w.cell? a=some v) (D:¬ S a.block):w'.cell? a=some v:=(World.cell?_of_block (w:=w) (h.block _ (World.block_lt_of_cell? w a j) D)).trans j
theorem Kept.cell {w w':World} (h:Kept w w') {a:Addr} {v:Value} (j:w.cell? a=some v):w'.cell? a=some v:=(World.cell?_of_block (w:=w) (h.block _ (World.block_lt_of_cell? w a j) (fun h=>h))).trans j
theorem Kept.toBelow {w w':World} (h:Kept w w'):Below w.heap.size w w':=⟨h.os,h.tape,h.output,h.size,fun k hk=>h.block k hk (fun h=>h)⟩
def Blk (w:World) (g:Nat) (t:TypeId) (cs:List Value):Prop:=w.heap[g]?=some (.cells cs.toArray t (0,0))
theorem Blk.lt {w:World} {g:Nat} {t:TypeId} {cs:List Value} (h:Blk w g t cs):g<w.heap.size:=(Array.getElem?_eq_some_iff.1 h).1
theorem Blk.cell {w:World} {g:Nat} {t:TypeId} {cs:List Value} (h:Blk w g t cs) (i:Nat):w.cell? ⟨g,i,none⟩=cs[i]?:=by
 rw [cell_of_row w g i cs.toArray t (0,0) h];simp
theorem Blk.frozen {w:World} {g:Nat} {t:TypeId} {cs:List Value} (h:Blk w g t cs) (i:Nat):w.frozen? ⟨g,i,none⟩=false:=by
 unfold Blk at h
 simp [World.frozen?,h]
theorem Blk.keep {S:Nat→Prop} {w w':World} {g:Nat} {t:TypeId} {cs:List Value} (h:Blk w g t cs) (hk:Keep S w w') (j:¬ S g):Blk w' g t cs:=(hk.block g h.lt j).trans h
theorem Blk.kept {w w':World} {g:Nat} {t:TypeId} {cs:List Value} (h:Blk w g t cs) (hk:Kept w w'):Blk w' g t cs:=h.keep hk (fun h=>h)
theorem Blk.new (w:World) (t:TypeId) (cs:List Value):Blk (w.alloc (.cells cs.toArray t)) w.heap.size t cs:=heap_alloc_new w _
theorem Blk.set_ {w:World} {g:Nat} {t:TypeId} {cs:List Value} (h:Blk w g t cs) (i:Nat) (u:Value):Blk (w.setCell ⟨g,i,none⟩ u) g t (cs.set i u):=by
 unfold Blk at h ⊢
 simp [World.setCell,Array.getElem?_modify,h]
def cells8 (xs:List UInt8):List Value:=xs.map fun x=>.int .u8 (x.toNat:Int)
theorem len8 (xs:List UInt8):(cells8 xs).length=xs.length:=by simp [cells8]
theorem cells8_one (xs:List UInt8):∀ u ∈ cells8 xs,u.oneCell'=true:=by
 intro u j
 simp only [cells8,List.mem_map] at j
 obtain ⟨x,_,rfl⟩:=j
 rfl
theorem block_add (a:Addr) (n:Nat):(a.add n).block=a.block:=by unfold Addr.add;split <;> rfl
theorem add_add (a:Addr) (i j:Nat):(a.add i).add j=a.add (i+j):=by
 unfold Addr.add
 by_cases hi:i=0 <;> by_cases hj:j=0 <;> simp [hi,hj,Nat.add_assoc]
theorem add_lit (g j:Nat):(⟨g,0,none⟩:Addr).add j=⟨g,j,none⟩:=by unfold Addr.add;split <;> simp_all
theorem qV {P:Program} {ops:Array Oper} {rest:List Oper} {o:Oper} {a:Act} {w:World} {Q:Exit→Act→World→Prop} (j:Region.wanted o (yielded ops a.tmps)=true)
  (h:∀ K:Act→World→Prop,(∀ a w,wpList P ops Q rest a w→K a w)→o.wp P a w K Q):wpList P ops Q (o::rest) a w:=by
 unfold wpList
 rw [if_pos j]
 exact .inl (h _ (fun _ _ h=>h))
open Go.RowKit Go.ChangeShapes Go.WideShapes Go.ChangeAt
theorem Tryz.own:ownKnob Tryz.prog.godebug=none:=by kernel_rfl
theorem Tryz.laidOut:laidOutB Tryz.prog=true:=by kernel_rfl
def plainTypes (P:Program) (ts:List TypeId):Bool:=ts.all fun t=>P.readableRec t && decide (t<P.types.size)
theorem trodAll_kept {H:Type} {enc:TypeId × Value→H} {P:Program} (O:laidOutB P=true) {W N:World} (hk:Kept W N):∀ (j:List TypeId) {I:List Value} {J:List (DataW H)} {D:List MemPlace},
  plainTypes P j=true→DataW.TrodAll enc P W 0 (fun _=>true) true j I J D→(∀ x ∈ D,x.block<W.heap.size) →
  DataW.TrodAll enc P N 0 (fun b=>decide (b<W.heap.size)) true j I J D
 | [],_,_,_,_,h,_=>by
  obtain ⟨rfl,rfl,rfl⟩:=trodAll_nil h
  exact trodAll_mk0
 | t::j,_,_,_,hp,h,hlt=>by
  obtain ⟨v,I,d,J,p,q,rfl,rfl,rfl,U,h2⟩:=trodAll_cons h
  simp only [plainTypes,List.all_cons,Bool.and_eq_true,decide_eq_true_eq] at hp
  exact trodAll_cons_mk (Below.trod O hp.1.1 hp.1.2 U hk.toBelow (fun x hx=>hlt x (List.mem_append_left _ hx)))
   (trodAll_kept O hk j hp.2 h2 (fun x hx=>hlt x (List.mem_append_right _ hx)))
theorem law_post {H:Type} {enc:TypeId × Value→H} {f:Func} {s:ChangeSpec} {W O:World} {args:Array Value} {I:List (DataW H)} {j:List MemPlace}
  (N:DataW.Whole enc Tryz.prog f.params.toList s.vars false W args.toList I [] j) (hv:s.vars=[]) (hr:f.resultTypes=#[4])
  (hp:plainTypes Tryz.prog f.params.toList=true) (D:s.fn H (I++[])={ results:=[.lit (.bool true)],args:=I,vars:=[] }) (hk:Kept W O) :
  s.post enc Tryz.prog f false true false false W args (.bool true) O:=by
 have J:∀ x ∈ j,x.block<W.heap.size:=fun x hx=>N.lt x hx
 obtain ⟨p,q,hA,U,rfl,_,_⟩:=id N
 rw [hv] at U
 obtain ⟨_,rfl⟩:=trodVars_none U
 simp only [List.append_nil] at *
 refine ⟨I,[],p,[],p,[],N,?_,?_,?_,hk.toBelow.frame _,fun h=>by cases h⟩
 ·rw [List.append_nil,D,hr]
  exact trodAll_mk1 (shut_bool Tryz.underlying4 true)
 ·rw [List.append_nil,D]
  exact trodAll_kept Tryz.laidOut hk _ hp hA J
 rw [List.append_nil,D,hv]
 exact rfl
def LAt {α:Type} (W:World) (A:Option Addr) (k:Nat) (Sh:List Value→α→Prop) (l:List α):Prop:=
 ∀ i a,l[i]?=some a→∃ b o cs,A=some ⟨b,o,none⟩∧Sh cs a∧cs.length=k∧∀ j v,cs[j]?=some v→W.cell? ⟨b,o+(i*k+j),none⟩=some v
def Elems {α:Type} (W:World) (v:Value) (k:Nat) (Sh:List Value→α→Prop) (l:List α):Prop:=∃ A n c,v=.slice A n c∧Hid (l.length=n)∧LAt W A k Sh l∧n≤c∧c≤maxLen
theorem open_elems {α:Type} [Inhabited α] {H:Type} {enc:TypeId × Value→H} {W:World} {b0:Nat} {t e:TypeId} {k:Nat} {v:Value} {d:DataW H} {p:List MemPlace} (Sh:List Value→α→Prop)
  (ht:Tryz.prog.underlying t=some (.slice e)) (hc:Tryz.prog.cellsOf e=k) (hk0:0<k)
  (a4:∀ (N:Nat) (cs:List Value) (x:DataW H × List MemPlace),DataW.trod enc Tryz.prog W 0 (fun _=>true) true N e cs=some x→∃ a,Sh cs a)
  (U:Value.okWide Tryz.prog W .any b0 t v) (h:DataW.Trod enc Tryz.prog W 0 (fun _=>true) true t v d p):∃ l,Elems W v k Sh l:=by
 subst hc
 obtain ⟨a0,len,cap,rfl⟩:=okWide_slice ht U
 obtain ⟨N,hf⟩:=h
 rcases Go.Deep.open_slice ht hf with ⟨J,_⟩ | ⟨a,len',cap',m,n,D,Pl,J,_,hl,hm,a2,_,hi⟩
 ·simp [Value.cells] at J
  obtain ⟨rfl,rfl,rfl⟩:=J
  exact ⟨[],none,0,0,rfl,rfl,fun i a h=>by simp at h,Nat.le_refl _,by unfold maxLen;omega⟩
 simp [Value.cells] at J
 obtain ⟨rfl,rfl,rfl⟩:=J
 simp at a2
 subst a2
 have I:∀ i,∃ x:α,i<len→∃ cs,Sh cs x∧cs.length=Tryz.prog.cellsOf e∧∀ j v,cs[j]?=some v→W.cell? (a.add (i*Tryz.prog.cellsOf e+j))=some v:=by
  intro i
  by_cases hil:i<len
  ·obtain ⟨cs,h1,h2⟩:=hi i (by omega)
   obtain ⟨x,hx⟩:=a4 _ _ _ h2
   obtain ⟨_,a1,O⟩:=World.cells?_some h1
   refine ⟨x,fun _=>⟨cs,hx,a1,fun j v U=>?_⟩⟩
   have hj:j<Tryz.prog.cellsOf e:=by have:=(List.getElem?_eq_some_iff.1 U).1;omega
   rw [← add_add,O j hj,U]
  exact ⟨default,fun h=>(hil h).elim⟩
 refine ⟨(List.range len).map fun i=>Classical.choose (I i),some a,len,_,rfl,by show _=_;simp,?_,hl,hm⟩
 intro i x hx
 rw [List.getElem?_map] at hx
 by_cases hil:i<len
 ·rw [List.getElem?_range hil] at hx
  simp at hx
  subst hx
  obtain ⟨cs,h1,h2,h3⟩:=Classical.choose_spec (I i) hil
  obtain ⟨cs0,g1,g2,g3⟩:=Classical.choose_spec (I 0) (by omega)
  have a3:a.spot=none:=by
   have:=g3 0 _ (List.getElem?_eq_getElem (by omega))
   simpa [Addr.add] using World.cell?_spot this
  obtain ⟨b,o,sp⟩:=a
  simp only at a3
  subst a3
  exact ⟨b,o,cs,rfl,h1,h2,fun j v U=>by rw [← Go.WideShapes.add_plain];exact h3 j v U⟩
 rw [List.getElem?_eq_none (by simp;omega)] at hx
 simp at hx


open Go
section
variable {P:Program} {ops:Array Oper} {md:Region.Mode} {C:World→Prop}
end
section
variable {ops:Array Oper} {C:World→Prop} {Q:Act→Prop} {a:Act} {o:Oper} {rest:List Oper}
end
theorem exec_eqlb {a:Act} {o:Oper} {u:World} (x y:Operand) (t':TypeId) (p q:Bool) (j:o.op=.binOp .eql 4 x y t') (hx:a.eval x=.bool p) (D:a.eval y=.bool q) :
  (execOp a.eval o).run Tryz.prog u=.ok (.value (.bool (p == q))) u:=by
 unfold execOp
 simp only [j,hx,D]
 simp [go_sem]
theorem Jq {a:Act} {o:Oper} {u:World} (x:Operand) (v:Value) (j:o.op=.move x) (hx:a.eval x=v):(execOp a.eval o).run Tryz.prog u=.ok (.value v) u:=by
 subst hx
 unfold execOp
 simp [j]
theorem JQZ {a:Act} {o:Oper} {u:World} (c x y:Operand) (v:Value) (j:o.op=.pick c x y) (D:a.eval c=.bool true) (hx:a.eval x=v) :
  (execOp a.eval o).run Tryz.prog u=.ok (.value v) u:=by
 unfold execOp
 simp only [j,D,hx]
 simp [go_sem]
theorem Jy {a : Act} {o : Oper} (f : Nat) (j : Func) (xs : List Operand) (ts : Array TypeId) (args : List Value) (O : Tryz.prog.funcs[f]? = some j) (U : (j.name == "runtime.NumGoroutine") = false) (J : j.body.isNone = false) (D : o.op = .call { callee := .value (.func f), args := xs.toArray, argTypes := ts }) (hx : xs.map a.eval = args) :
  ∀ u,(execOp a.eval o).run Tryz.prog u=.ok (.enter f args.toArray) u:=fun u=>by
 have e:a.eval (.func f)=.func (.func f) #[] #[]:=rfl
 have N:(callFunc f args.toArray).run Tryz.prog u=.ok (.enter f args.toArray) u:=by
  have H : ¬ j.name = "runtime.NumGoroutine" := by simpa using U
  have I:¬ j.body=none:=by
   intro h
   rw [h] at J
   cases J
  simp [callFunc,O,H,I]
 unfold execOp
 simp only [D,resolve,invoke,e,List.map_toArray,hx,Sem.run_bind]
 simp [Deferred.ofValue,N]
theorem Yj {a:Act} {o:Oper} {u:World} (x:Operand) (v:Value) (j:o.op=.assign x) (hx:a.eval x=v):(execOp a.eval o).run Tryz.prog u=.ok (.value v) u:=by
 subst hx
 unfold execOp
 simp [j]
section
variable {P:Program} {ops:Array Oper} {md:Region.Mode} {S Si:World→Prop} {weak:Nat→Bool} {Q:Exit→Act→World→Prop}
def wpX (P:Program) (md:Region.Mode) (ops:Array Oper) (Q:Exit→Act→World→Prop) (S:World→Prop) (weak:Nat→Bool):Nat→Array Bool→Act→World→Prop
 | 0,ls,a,w=>Region.ready md ops ls=[]∧Q .normal a w
 | f+1,ls,a,w=>(Region.ready md ops ls=[]→Q .normal a w)∧∀ i ∈ Region.ready md ops ls,wpOp P ops Q i (fun a' w'=>(weak i=false→S w→S w')∧wpX P md ops Q S weak f (ls.setIfInBounds i true) a' w') a w
theorem wpAny_of_X:∀ (f:Nat) (j:Array Bool) (a:Act) (w:World),wpX P md ops Q S weak f j a w→wpAny P md ops Q f j a w
 | 0,_,_,_,h=>h
 | f+1,_,_,_,h=>⟨h.1,fun i H=>wpOp_mono (fun I w' D=>wpAny_of_X f _ I w' D.2) (h.2 i H)⟩
theorem wpX_first {i:Nat} {oi:Oper} {v:Value} (hi:ops[i]?=some oi) (N:∀ (j:Nat) (o:Oper) cs b,ops[j]?=some o→o.op≠.select cs b) (hQ:∀ c a w,Q (.panic c) (a.put oi.dst v) w→Q (.panic c) a w)
  (a3:∀ j D,ops[j]?=some D→(∀ e ∈ D.after,Region.binds md e=true→e.on≠i)→∀ w w',Si w→(weak j=false→S w→S w')→Si w') :
  ∀ (f:Nat) (ls:Array Bool) (a:Act) (w:World),(∀ j D,ops[j]?=some D→j≠i→ls.getD j true=false→(∀ e ∈ D.after,Region.binds md e=true→e.on≠i)→oi.apart ops D=true) →
   i ∈ Region.ready md ops ls→YieldsIf P ops Si oi v a→Si w→wpX P md ops Q S weak f (ls.setIfInBounds i true) (a.put oi.dst v) w→wpX P md ops Q S weak (f+1) ls a w:=by
 intro f
 induction f with
 | zero=>
  intro ls a w _ hr hy hS H
  refine ⟨fun h=>(by rw [h] at hr;cases hr),fun j hj=>?_⟩
  by_cases hji:j=i
  ·subst hji
   exact hy.wpOp hi hS ⟨fun _ h=>h,H⟩
  have:=ready_mono hj hji
  rw [H.1] at this
  cases this
 | succ f ih=>
  intro ls a w I hr hy hS H
  refine ⟨fun h=>(by rw [h] at hr;cases hr),fun j hj=>?_⟩
  by_cases hji:j=i
  ·subst hji
   exact hy.wpOp hi hS ⟨fun _ h=>h,H⟩
  have h1:=H.2 j (ready_mono hj hji)
  obtain ⟨U,D,J,a2⟩:=mem_ready.1 hj
  have O:∀ e ∈ D.after,Region.binds md e=true→e.on≠i:=fun e he hb a5=>by
   have h1:=a2 e he hb
   have h0:=(mem_ready.1 hr).1
   rw [a5] at h1
   rcases Nat.lt_or_ge i ls.size with h' | h'
   ·simp [h'] at h0 h1
    rw [h0] at h1
    cases h1
   simp [Array.getElem?_eq_none h'] at h1
  have h2:=wpOp_putIf J (I j D J hji U O) (fun cs b=>N i oi cs b hi) (fun cs b=>N j D cs b J) hQ hy h1
  refine wpOp_mono (fun a' w' h3=>⟨h3.2.1,?_⟩) h2
  have a7:=a3 j D J O w w' hS h3.2.1
  refine ih (ls.setIfInBounds j true) a' w' (fun k ok hk a6 a1 a4=>I k ok hk a6 ?_ a4) (ready_mono hr (Ne.symm hji)) h3.1 a7 ?_
  ·by_cases hjk:j=k
   ·subst hjk;exact U
   rw [getD_set_ne true hjk] at a1;exact a1
  rw [Array.setIfInBounds_comm _ _ hji]
  exact h3.2.2
def wpSch (P:Program) (ops:Array Oper) (S:World→Prop) (Q:Exit→Act→World→Prop):List (Nat × Nat)→Act→World→Prop
 | [],a,w=>wpList P ops Q [] a w
 | (i,0)::r,a,w=>∃ o v,ops[i]?=some o∧YieldsIf P ops S o v a∧wpSch P ops S Q r (a.put o.dst v) w
 | (i,1)::r,a,w=>wpOp P ops Q i (fun a' w'=>S w'∧wpSch P ops S Q r a' w') a w
 | (i,2)::r,a,w=>∃ o v,ops[i]?=some o∧YieldsIf P ops (fun _=>True) o v a∧wpSch P ops S Q r (a.put o.dst v) w
 | (i,_)::r,a,w=>wpOp P ops Q i (fun a' w'=>wpSch P ops S Q r a' w') a w
def schB (ops:Array Oper) (weak:List Nat):List (Nat × Nat)→Array Bool→Bool→Bool
 | [],ls,_=>(Region.ready .any ops ls).isEmpty
 | (i,0)::r,ls,late=>!late && (Region.ready .any ops ls).contains i && Region.free .any ops ls i && (weak.all fun j=>match ops[j]? with | some oj=>oj.after.any (fun e=>Region.binds .any e && e.on == i) | none=>false) && schB ops weak r (ls.setIfInBounds i true) late
 | (i,1)::r,ls,late=>(Region.ready .any ops ls == [i]) && schB ops weak r (ls.setIfInBounds i true) late
 | (i,2)::r,ls,late=>(Region.ready .any ops ls).contains i && Region.free .any ops ls i && schB ops weak r (ls.setIfInBounds i true) late
 | (i,_)::r,ls,_=>(Region.ready .any ops ls == [i]) && weak.contains i && schB ops weak r (ls.setIfInBounds i true) true
theorem X_of_sch {wk:List Nat} (O:Region.noSelect ops=true) (U:∀ c a d v w,Q (.panic c) (a.put d v) w→Q (.panic c) a w):∀ (J:List (Nat × Nat)) (late:Bool) (H:Array Bool) (a:Act) (w:World),(late=false→S w)→schB ops wk J H late=true→wpSch P ops S Q J a w→wpX P .any ops Q S (fun i=>wk.contains i) J.length H a w
 | [],late,H,a,w,hS,D,h=>by
  have:Region.ready .any ops H=[]:=by simpa [schB] using D
  exact ⟨this,h⟩
 | (i,0)::r,late,H,a,w,hS,D,h=>by
  obtain ⟨o,v,ho,hy,h⟩:=h
  simp only [schB,Bool.and_eq_true,Bool.not_eq_true'] at D
  obtain ⟨⟨⟨⟨hl,I⟩,hf⟩,a1⟩,D⟩:=D
  refine wpX_first (Si:=S) ho (Region.noSelect_spec O) (fun c a w=>U c a o.dst v w) ?_ r.length H a w (Region.free_spec ho hf) (by simpa using I) hy (hS hl) (X_of_sch O U r late _ _ w hS D h)
  intro j oj a3 a2 w w' hw hT
  refine hT ?_ hw
  cases hc:wk.contains j with
  | false=>rfl
  | true=>
   have h1:=List.all_eq_true.1 a1 j (by simpa using hc)
   simp only [a3,Array.any_eq_true'] at h1
   obtain ⟨e,he,N⟩:=h1
   simp only [Bool.and_eq_true,beq_iff_eq] at N
   exact absurd N.2 (a2 e he N.1)
 | (i,1)::r,late,H,a,w,hS,D,h=>by
  simp only [schB,Bool.and_eq_true,beq_iff_eq] at D
  obtain ⟨I,D⟩:=D
  show wpX P .any ops Q S (fun i=>wk.contains i) (r.length+1) H a w
  refine ⟨fun h0=>(by rw [h0] at I;cases I),fun j hj=>?_⟩
  obtain rfl:j=i:=by rw [I] at hj;simpa using hj
  exact wpOp_mono (fun a' w' ⟨h1,N⟩=>⟨fun _ _=>h1,X_of_sch O U r late _ a' w' (fun _=>h1) D N⟩) h
 | (i,2)::r,late,H,a,w,hS,D,h=>by
  obtain ⟨o,v,ho,hy,h⟩:=h
  simp only [schB,Bool.and_eq_true] at D
  obtain ⟨⟨I,hf⟩,D⟩:=D
  exact wpX_first (Si:=fun _=>True) ho (Region.noSelect_spec O) (fun c a w=>U c a o.dst v w) (fun _ _ _ _ _ _ _ _=>trivial) r.length H a w (Region.free_spec ho hf) (by simpa using I) hy trivial (X_of_sch O U r late _ _ w hS D h)
 | (i,n+3)::r,late,H,a,w,hS,D,h=>by
  simp only [schB,Bool.and_eq_true,beq_iff_eq] at D
  obtain ⟨⟨I,hw⟩,D⟩:=D
  show wpX P .any ops Q S (fun i=>wk.contains i) (r.length+1) H a w
  refine ⟨fun h0=>(by rw [h0] at I;cases I),fun j hj=>?_⟩
  obtain rfl:j=i:=by rw [I] at hj;simpa using hj
  exact wpOp_mono (fun a' w' N=>⟨fun h=>(by have h:wk.contains j=false:=h;rw [hw] at h;cases h),X_of_sch O U r true _ a' w' (fun h=>by cases h) D N⟩) h
def weakOf (sch:List (Nat × Nat)):List Nat:=(sch.filter fun x=>3≤x.2).map (·.1)
theorem wp_sched {id:Nat} {a:Act} {w:World} {l:List Oper} (S:World→Prop) (j:List (Nat × Nat)) (I:P.follows .mixedOrders=true) (D:(Region.noSelect l.toArray && (j.length == l.length) && schB l.toArray (weakOf j) j (Array.replicate l.length false) false)=true)
  (J:S w.drew) (h:wpSch P l.toArray S (NoPanic Q) j a w.drew):(Code.region id l.toArray true).wp P Q a w:=by
 simp only [Bool.and_eq_true,beq_iff_eq] at D
 refine wp_region_noPanic (wp_region_any I ?_)
 have:=X_of_sch (P:=P) (S:=S) D.1.1 (fun c a d v w h=>(h:False).elim) j false _ a w.drew (fun _=>J) D.2 h
 rw [D.1.2] at this
 have H:=wpAny_of_X _ _ _ _ this
 simpa using H
end
section
variable {ops:Array Oper} {S:World→Prop} {Q:Exit→Act→World→Prop} {a:Act} {w:World} {i:Nat} {o:Oper} {r:List (Nat × Nat)}
theorem s_done (h:wpList Tryz.prog ops Q [] a w):wpSch Tryz.prog ops S (NoPanic Q) [] a w:=NoPanic.normal h
theorem qZ (v:Value) (D:ops[i]?=some o) (j:Region.wanted o (yielded ops a.tmps)=true) (h:∀ u,S u→(execOp a.eval o).run Tryz.prog u=.ok (.value v) u) (H:wpSch Tryz.prog ops S Q r (a.put o.dst v) w):wpSch Tryz.prog ops S Q ((i,0)::r) a w:=
 ⟨o,v,D,.inl ⟨j,h⟩,H⟩
theorem s_oper (I:ops[i]?=some o) (H:Region.wanted o (yielded ops a.tmps)=true) (h:∀ K:Act→World→Prop,(∀ j w',S w'→wpSch Tryz.prog ops S Q r j w'→K j w')→o.wp Tryz.prog a w K Q):wpSch Tryz.prog ops S Q ((i,1)::r) a w:=by
 unfold wpSch wpOp
 simp only [I,H,if_true]
 exact .inl (h _ (fun j w' J D=>⟨J,D⟩))
theorem s_call (f:Nat) (args:Array Value) (I:ops[i]?=some o) (H:Region.wanted o (yielded ops a.tmps)=true) (h:∀ u,(execOp a.eval o).run Tryz.prog u=.ok (.enter f args) u) (D:Calls Tryz.prog f args w fun e w'=>∃ v,e=.returned v∧S w'∧wpSch Tryz.prog ops S Q r (a.put o.dst v) w'):wpSch Tryz.prog ops S Q ((i,1)::r) a w:=
 s_oper I H fun K j=>by
  unfold Oper.wp
  rw [h]
  refine Calls.mono D fun e w' O=>?_
  obtain ⟨v,rfl,N,J⟩:=O
  exact j _ _ N J
end



section
variable {a:Act} {o:Oper} {u:World}
theorem exec_pickF (c x y:Operand) (v:Value) (j:o.op=.pick c x y) (D:a.eval c=.bool false) (H:a.eval y=v):(execOp a.eval o).run Tryz.prog u=.ok (.value v) u:=by
 unfold execOp
 simp only [j,D,H]
 simp [go_sem]
theorem ZV (x:Operand) (t e:TypeId) (D:Tryz.prog.underlying t=some (.slice e)) (A:Option Addr) (n c:Nat) (j:o.op=.call { callee:=.builtin .len,args:=#[x],argTypes:=#[t] }) (hx:a.eval x=.slice A n c):(execOp a.eval o).run Tryz.prog u=.ok (.value (.int .i64 (n:Int))) u:=by
 unfold execOp
 simp only [j,resolve,invoke,builtin,Sem.run_bind,Sem.run_pure,Result.andThen_ok,List.map_toArray,List.map_cons,List.map_nil,hx]
 simp [Builtin.len_,run_underlying D,go_sem]
theorem YX (t:TypeId) (x:Operand) (b:Bool) (j:o.op=.unOp .not t x) (hx:a.eval x=.bool b):(execOp a.eval o).run Tryz.prog u=.ok (.value (.bool (!b))) u:=by
 unfold execOp
 simp only [j,hx]
 simp [go_sem]
theorem VQ (t e:TypeId) (n k:Nat) (x y:Operand) (b of i:Nat) (j:o.op=.indexAddr t x y) (I:Tryz.prog.underlying t=some (.array n e)) (hk:(Tryz.prog.info? e).map (·.size)=some k)
  (hx:a.eval x=.pointer (some ⟨b,of,none⟩)) (J:a.eval y=.int .i64 (i:Int)) (N:i<n):(execOp a.eval o).run Tryz.prog u=.ok (.value (.pointer (some ⟨b,of+i*k,none⟩))) u:=by
 have hin:(0:Int)≤(i:Int)∧(i:Int)<(n:Int):=by omega
 cases D:Tryz.prog.info? e with
 | none=>simp [D] at hk
 | some t0=>
  have H:t0.size=k:=by simpa [D] using hk
  unfold execOp
  simp only [j,hx,J]
  simp [Instr.indexAt,asIntOf,run_underlying I,Sem.run_bind,sizeOf,typeInfo,D,H,Addr.add_mid,N,Instr.sureAddr]
theorem exec_store1 (H:TypeId) (x y:Operand) (b of:Nat) (v:Value) (J:o.op=.store H x y) (U:(Tryz.prog.info? H).map (·.size)=some 1) (hx:a.eval x=.pointer (some ⟨b,of,none⟩)) (hy:a.eval y=v) (hv:v.cells=#[v]) (h1:v.oneCell'=true) (O:u.there b of 1) :
  (execOp a.eval o).run Tryz.prog u=.ok .skip (u.setCell ⟨b,of,none⟩ v):=by
 have h:=run_storeCells_cells (P:=Tryz.prog) b of [v] 0 u (fun j D=>by simpa using (O j (by simpa using D)).1) (fun j D=>by simpa using (O j (by simpa using D)).2) (fun w N=>by simp at N;subst N;exact h1)
 cases I:Tryz.prog.info? H with
 | none=>simp [I] at U
 | some i=>
  have hs:i.size=1:=by simpa [I] using U
  simp only [Nat.add_zero] at h
  unfold execOp
  simp only [J,hx,hy,Instr.storeAt,Instr.sureAddr,Sem.run_bind,Sem.run_pure,Result.andThen_ok]
  simp [storeVar,sizeOf,typeInfo,I,hv,hs,h,World.setCells]
theorem jW (x y:Operand) (D:Array TypeId) (p q:Int) (r:Int) (j:o.op=.call { callee:=.builtin .min,args:=#[x,y],argTypes:=D }) (hx:a.eval x=.int .i64 p) (H:a.eval y=.int .i64 q) (I:(if q<p then q else p)=r):(execOp a.eval o).run Tryz.prog u=.ok (.value (.int .i64 r)) u:=by
 subst I
 unfold execOp
 simp only [j,resolve,invoke,builtin,Sem.run_bind,Sem.run_pure,Result.andThen_ok,List.map_toArray,List.map_cons,List.map_nil,hx,H]
 simp [go_sem]
theorem Uq (t e:TypeId) (k:Nat) (j:o.op=.buildSlice t 0 #[]) (H:Tryz.prog.underlying t=some (.slice e)) (hk:(Tryz.prog.info? e).map (·.size)=some k):(execOp a.eval o).run Tryz.prog u=.ok (.value (.slice (some ⟨u.heap.size,0,none⟩) 0 0)) (u.alloc (.cells #[] e)):=by
 cases D:Tryz.prog.info? e with
 | none=>simp [D] at hk
 | some t0=>
  unfold execOp
  simp only [j]
  simp [Instr.buildSlice,run_underlying H,sizeOf,typeInfo,D,Instr.fill,newRow,Array.range_zero']
end
section
variable {a:Act} {o:Oper} {Q:Exit→Act→World→Prop} {K:Act→World→Prop}
theorem op_store_row (w:World) (H:TypeId) (x y:Operand) (I:o.op=.store H x y)
  (g:Nat) (cells:List Value) (hx:a.eval x=.pointer (some ⟨g,0,none⟩)) (N:a.eval y=.agg cells.toArray)
  (t:TypeId) (j:List Value) (J:Blk w g t j) (U:(Tryz.prog.info? H).map (·.size)=some cells.length)
  (D:j.length=cells.length) (O:∀ u ∈ cells,u.oneCell'=true)
  (h:∀ w',Blk w' g t cells→Keep (·=g) w w'→w'.heap.size=w.heap.size→K (a.put o.dst undef) w'):o.wp Tryz.prog a w K Q:=by
 refine wp_store_row H x y I g cells.toArray hx N t j.toArray J (by simpa using U) (by simpa using D) (by simpa using O) (h _ ?_ ?_ ?_)
 ·exact setRow_heap w g _ _ t _ J
 ·exact ⟨rfl,rfl,rfl,by simp [World.setRow],fun k _ hk=>setRow_other w g k _ (fun e=>hk (by omega))⟩
 simp [World.setRow]
end
def z32:List Value:=List.replicate 32 (.int .u8 0)
structure Kn where
 p:Value→World→Prop
 st:∀ v w w',p v w→Kept w w'→p v w'
def Kn.eq (c:Value):Kn:=⟨fun v _=>v=c,fun _ _ _ h _=>h⟩
def Kn.any:Kn:=⟨fun _ _=>True,fun _ _ _ _ _=>trivial⟩
def Kn.cond (b:Bool) (K:Kn):Kn:=⟨fun v w=>(b=true→K.p v w)∧(b=false→v=undef),fun v w w' h hk=>⟨fun hb=>K.st v w w' (h.1 hb) hk,h.2⟩⟩
def QY (ops:Array Oper) (i:Nat):Option Tmp:=(ops[i]?).bind (·.dst)
def UY (V:List Kn) (i:Nat):Kn:=V.getD i Kn.any
section
variable {P:Program} {ops:Array Oper} {Q:Exit→Act→World→Prop} {V:List Kn} {n:Nat} {a0:Act} {w0:World}
structure FInv (ops:Array Oper) (V:List Kn) (n:Nat) (a0:Act) (w0:World) (ls:Array Bool) (a:Act) (w:World):Prop where
 head:HeadInv .any ops n ls
 defers:a.defers=a0.defers
 size:a.tmps.size=a0.tmps.size
 env:∀ t,(∀ i,i<n→ls.getD i false=true→QY ops i≠some t)→a.tmps[t]?=a0.tmps[t]?
 vals:∀ i d,i<n→ls.getD i false=true→QY ops i=some d→(UY V i).p (a.tmps.getD d undef) w
 kept:Kept w0 w
def FEnv (ops:Array Oper) (n:Nat) (a0 a:Act):Prop:=∀ t v,((List.range n).all fun i=>QY ops i != some t)=true→a0.eval (.tmp t)=v→a.eval (.tmp t)=v
def FDep (ops:Array Oper) (V:List Kn) (i:Nat) (a:Act) (w:World):Prop:=
 ∀ j d,(((ops[i]?).map fun o=>o.after.any fun e=>Region.binds .any e && e.on == j) == some true && QY ops j == some d)=true→(UY V j).p (a.eval (.tmp d)) w
def FPost (ops:Array Oper) (i:Nat) (K:Kn) (a:Act) (w:World) (a':Act) (w':World):Prop:=∃ v,a'=a.put (QY ops i) v∧K.p v w'∧Kept w w'
def FStep (P:Program) (ops:Array Oper) (Q:Exit→Act→World→Prop) (V:List Kn) (n:Nat) (a0:Act) (w0:World) (i:Nat) (K:Kn):Prop:=
 ∀ a w,FEnv ops n a0 a→FDep ops V i a w→Kept w0 w→wpOp P ops Q i (FPost ops i K a w) a w
def FSteps (P:Program) (ops:Array Oper) (Q:Exit→Act→World→Prop) (V:List Kn) (n:Nat) (a0:Act) (w0:World):Nat→List Kn→Prop
 | _,[]=>True
 | i,K::Ks=>FStep P ops Q V n a0 w0 i K∧FSteps P ops Q V n a0 w0 (i+1) Ks
theorem fsteps_nil {i:Nat}:FSteps P ops Q V n a0 w0 i []:=trivial
theorem UU {i:Nat} (j:Nat) {K:Kn} {Ks:List Kn} (H:j=i+1) (h:FStep P ops Q V n a0 w0 i K) (D:FSteps P ops Q V n a0 w0 j Ks):FSteps P ops Q V n a0 w0 i (K::Ks):=⟨h,by subst H;exact D⟩
theorem fsteps_at:∀ (Ks:List Kn) (i:Nat),FSteps P ops Q V n a0 w0 i Ks→∀ k K,Ks[k]?=some K→FStep P ops Q V n a0 w0 (i+k) K
 | [],_,_,k,K,h=>by simp at h
 | K0::Ks,i,h,0,K,hk=>by simp at hk;subst hk;exact h.1
 | K0::Ks,i,h,k+1,K,hk=>by
  have:=fsteps_at Ks (i+1) h.2 k K (by simpa using hk)
  rw [show i+(k+1)=i+1+k by omega]
  exact this
def freeB (ops:Array Oper) (n size:Nat):Bool:=
 decide (n≤ops.size) && (decide (n=ops.size) || (Region.sinkB .any ops n && Region.chainB .any ops n)) && Region.seqB .any ops (ops.size-n) n (Array.replicate n true++Array.replicate (ops.size-n) false)
 && ((List.range n).all fun i=>match ops[i]? with
  | some o=>(match o.dst with | some d=>decide (d<size) && ((List.range i).all fun j=>QY ops j != some d) | none=>false) && o.after.all fun e=>!Region.binds .any e || decide (e.on<i)
  | none=>false)
theorem jj {ops:Array Oper} {n size:Nat} (h:freeB ops n size=true):n≤ops.size∧(n<ops.size→Region.sinkB .any ops n=true∧Region.chainB .any ops n=true)∧Region.seqB .any ops (ops.size-n) n (Array.replicate n true++Array.replicate (ops.size-n) false)=true∧((List.range n).all fun i=>match ops[i]? with
  | some o=>(match o.dst with | some d=>decide (d<size) && ((List.range i).all fun j=>QY ops j != some d) | none=>false) && o.after.all fun e=>!Region.binds .any e || decide (e.on<i)
  | none=>false)=true:=by
 unfold freeB at h
 simp only [Bool.and_eq_true,Bool.or_eq_true,decide_eq_true_eq] at h
 obtain ⟨⟨⟨I,D⟩,H⟩,J⟩:=h
 exact ⟨I,fun hl=>D.elim (fun e=>by omega) id,H,J⟩
theorem getD_tf {j:Array Bool} {i:Nat} (h:j.getD i true=true) (D:i<j.size):j.getD i false=true:=by
 simp [D] at h ⊢;exact h
theorem xJ (t:Array Value) (d e:Nat) (v:Value):(t.setIfInBounds d v)[e]?=if d=e∧d<t.size then some v else t[e]?:=by
 rw [Array.getElem?_setIfInBounds]
 by_cases h:d=e
 ·subst h
  by_cases h2:d<t.size
  ·simp [h2]
  simp [h2]
 simp [h]
theorem free_go (hnV:V.length=n) (hB:freeB ops n a0.tmps.size=true) (an:∀ i K,V[i]?=some K→FStep P ops Q V n a0 w0 i K)
  (ag:∀ a w,FInv ops V n a0 w0 (Array.replicate n true++Array.replicate (ops.size-n) false) a w→wpAny P .any ops Q (ops.size-n) (Array.replicate n true++Array.replicate (ops.size-n) false) a w) :
  ∀ (f:Nat) (U:List Nat) (H:Array Bool) (a:Act) (w:World),U.length=f→U.Nodup→(∀ i,i ∈ U↔i<n∧H.getD i true=false)→FInv ops V n a0 w0 H a w→wpAny P .any ops Q (f+(ops.size-n)) H a w:=by
 obtain ⟨hn,am,hseq,ad⟩:=jj hB
 have a8:∀ i,i<n→∃ o d,ops[i]?=some o∧o.dst=some d∧d<a0.tmps.size∧(∀ j,j<i→QY ops j≠some d)∧∀ e ∈ o.after,Region.binds .any e=true→e.on<i:=by
  intro i N
  have h:=List.all_eq_true.1 ad i (by simpa using N)
  cases ho:ops[i]? with
  | none=>rw [ho] at h;cases h
  | some o=>
   rw [ho] at h
   simp only [Bool.and_eq_true] at h
   cases hd:o.dst with
   | none=>rw [hd] at h;cases h.1
   | some d=>
    rw [hd] at h
    simp only [Bool.and_eq_true,decide_eq_true_eq,List.all_eq_true,List.mem_range,bne_iff_ne] at h
    refine ⟨o,d,rfl,hd,h.1.1,h.1.2,fun e he hb=>?_⟩
    have h2:=(Array.all_eq_true_iff_forall_mem.1 h.2) e he
    simpa [hb] using h2
 intro f
 induction f with
 | zero=>
  intro U H a w hU _ D inv
  have al:U=[]:=List.eq_nil_of_length_eq_zero hU
  have ar:H=Array.replicate n true++Array.replicate (ops.size-n) false:=by
   apply Array.ext
   ·simp [inv.head.size];omega
   intro i h1 h2
   have aq:=inv.head.size
   by_cases N:i<n
   ·have h3:¬ (i<n∧H.getD i true=false):=by
     intro h
     have:=(D i).2 h
     rw [al] at this
     cases this
    have h4:H.getD i true=true:=by
     cases hq:H.getD i true with
     | true=>rfl
     | false=>exact (h3 ⟨N,hq⟩).elim
    rw [Array.getElem_append_left (by simpa using N)]
    simp [h1] at h4
    simp [h4]
   have h4:=inv.head.tail i (by omega) (by omega)
   rw [Array.getElem_append_right (by simpa using N)]
   simp [h1] at h4
   simp [h4]
  rw [Nat.zero_add]
  subst ar
  exact ag a w inv
 | succ f ih=>
  intro U H a w hU af D inv
  have aq:=inv.head.size
  rw [show f+1+(ops.size-n)=(f+(ops.size-n))+1 by omega]
  obtain ⟨u,hu⟩:∃ u,u ∈ U:=by
   cases U with
   | nil=>simp at hU
   | cons u U=>exact ⟨u,by simp⟩
  obtain ⟨a9,a5⟩:=(D u).1 hu
  refine ⟨fun h0=>?_,fun i N=>?_⟩
  ·exfalso
   have key:∀ k i,i≤k→i<n→H.getD i true=true:=by
    intro k
    induction k using Nat.strongRecOn with
    | _ k ihk=>
     intro i hik I
     cases hq:H.getD i true with
     | true=>rfl
     | false=>
      obtain ⟨o,d,ho,_,_,_,O⟩:=a8 i I
      have:i ∈ Region.ready .any ops H:=mem_ready.2 ⟨hq,o,ho,fun e he hb=>by
       have ac:=O e he hb
       have:=ihk (k-1) (by omega) e.on (by omega) (by omega)
       exact getD_tf this (by omega)⟩
      rw [h0] at this
      cases this
   rw [key u u (Nat.le_refl _) a9] at a5
   cases a5
  have I:i<n:=Nat.lt_of_not_le fun h=>tail_waits (am (Nat.lt_of_le_of_lt h (by obtain ⟨_,o1,a1,_⟩:=mem_ready.1 N;exact (Array.getElem?_eq_some_iff.1 a1).1))).1 (am (Nat.lt_of_le_of_lt h (by obtain ⟨_,o1,a1,_⟩:=mem_ready.1 N;exact (Array.getElem?_eq_some_iff.1 a1).1))).2 (Nat.lt_of_le_of_lt h (by obtain ⟨_,o1,a1,_⟩:=mem_ready.1 N;exact (Array.getElem?_eq_some_iff.1 a1).1)) inv.head _ u rfl a9 a5 i h N
  obtain ⟨a3,oi,ax,a6⟩:=mem_ready.1 N
  obtain ⟨o,d,ho,hd,ak,av,O⟩:=a8 i I
  obtain rfl:oi=o:=Option.some.inj (ax.symm.trans ho)
  have a2:QY ops i=some d:=by simp [QY,ho,hd]
  have ah:H.getD i false=false:=getD_both a3
  have ab:∀ j,j<n→H.getD j false=true→QY ops j≠some d:=by
   intro j hj hl a7
   by_cases hji:j<i
   ·exact av j hji a7
   by_cases hij:j=i
   ·subst hij
    rw [ah] at hl
    cases hl
   obtain ⟨oj,dj,aw,a4,_,ai,_⟩:=a8 j hj
   have:dj=d:=by
    have h1:QY ops j=some dj:=by simp [QY,aw,a4]
    rw [h1] at a7
    injection a7
   subst this
   exact ai i (by omega) a2
  have hK:V[i]?=some (UY V i):=by
   unfold UY
   rw [List.getD_eq_getElem?_getD,List.getElem?_eq_getElem (by omega)]
   rfl
  refine wpOp_mono ?_ (an i _ hK a w ?_ ?_ inv.kept)
  ·rintro a' w' ⟨v,rfl,hv,hk⟩
   rw [a2]
   refine ih (U.erase i) _ _ w' (by rw [List.length_erase_of_mem ((D i).2 ⟨I,a3⟩)];omega) (af.erase _) (fun k=>?_) ⟨inv.head.set N I,inv.defers,by simp [Act.put,inv.size],fun t ht=>?_,fun k e J hl he=>?_,inv.kept.trans hk⟩
   ·rw [af.mem_erase_iff,D k]
    by_cases hki:k=i
    ·subst hki
     simp
    rw [getD_set_ne true (fun h=>hki h.symm)]
    simp [hki]
   ·have h1:=inv.env t (fun k J hl=>ht k J (getD_set_true hl))
    have h2:d≠t:=fun h=>ht i I (by simp [show i<H.size by omega]) (by rw [a2,h])
    simp only [Act.put,xJ]
    rw [if_neg (fun h=>h2 h.1),h1]
   by_cases hki:k=i
   ·subst hki
    rw [a2] at he
    injection he with he
    subst he
    have ac:d<a.tmps.size:=by rw [inv.size];exact ak
    have:(a.put (some d) v).tmps.getD d undef=v:=by simp [Act.put,ac]
    rw [this]
    exact hv
   rw [getD_set_ne false (fun h=>hki h.symm)] at hl
   have aj:d≠e:=fun h=>ab k J hl (by rw [he,h])
   have:(a.put (some d) v).tmps.getD e undef=a.tmps.getD e undef:=by
    simp only [Act.put,Array.getD_eq_getD_getElem?,xJ]
    rw [if_neg (fun h=>aj h.1)]
   rw [this]
   exact (UY V k).st _ _ _ (inv.vals k e J hl he) hk
  ·intro t v ht hv
   have au:∀ k,k<n→H.getD k false=true→QY ops k≠some t:=fun k J _=>by simpa using List.all_eq_true.1 ht k (by simpa using J)
   have h1:=inv.env t au
   rw [← hv]
   simp only [Act.eval,Array.getD_eq_getD_getElem?,h1]
  intro j e ae
  simp only [Bool.and_eq_true,beq_iff_eq,ho,Option.map_some,Option.some.injEq,Array.any_eq_true'] at ae
  obtain ⟨⟨x,hx,aa,ao⟩,a4⟩:=ae
  subst ao
  exact inv.vals x.on e (by have:=O x hx aa;omega) (a6 x hx aa) a4
theorem JJQ (g:Nat→Value):∀ (j:List Nat) (t:Array Value) (e:Nat),(j.foldl (fun t d=>t.setIfInBounds d (g d)) t)[e]?=if e ∈ j∧e<t.size then some (g e) else t[e]?
 | [],t,e=>by simp
 | d::j,t,e=>by
  rw [List.foldl_cons,JJQ g j,xJ]
  by_cases h:d=e
  ·subst h
   by_cases h2:d<t.size
   ·simp [h2]
   simp [h2]
  have D:¬ e=d:=fun x=>h x.symm
  simp [h,D]
def Wy (ops:Array Oper) (n:Nat):List Nat:=(List.range n).filterMap (QY ops)
def FVals (ops:Array Oper) (V:List Kn) (g:Nat→Value) (w:World):Prop:=∀ i d,(decide (i<V.length) && QY ops i == some d)=true→(UY V i).p (g d) w
theorem act_filled {H:Array Bool} {a:Act} {w:World} (hl:∀ i,i<n→H.getD i false=true) (inv:FInv ops V n a0 w0 H a w):a=⟨(Wy ops n).foldl (fun t d=>t.setIfInBounds d (a.tmps.getD d undef)) a0.tmps,a0.defers⟩:=by
 obtain ⟨t,df⟩:=a
 have D:=inv.defers
 simp only at D
 subst D
 congr 1
 apply Array.ext_getElem?
 intro e
 rw [JJQ]
 have j:=inv.size
 simp only at j
 by_cases hm:e ∈ Wy ops n
 ·by_cases hlt:e<a0.tmps.size
  ·rw [if_pos ⟨hm,hlt⟩]
   have:e<t.size:=by omega
   simp [this]
  rw [if_neg (fun h=>hlt h.2),Array.getElem?_eq_none (by omega),Array.getElem?_eq_none (by omega)]
 rw [if_neg (fun h=>hm h.1)]
 exact inv.env e (fun i I _ h=>hm (List.mem_filterMap.2 ⟨i,by simpa using I,h⟩))
theorem wp_free {id:Nat} {a:Act} {w:World} {l:List Oper} (n:Nat) (V:List Kn) (hm:P.follows .mixedOrders=true) (hV:V.length=n) (hB:freeB l.toArray n a.tmps.size=true)
  (hs:FSteps P l.toArray Q V n a w 0 V)
  (hf:∀ (g:Nat→Value) w',FVals l.toArray V g w'→Kept w w'→wpList P l.toArray Q (l.drop n) ⟨(Wy l.toArray n).foldl (fun t d=>t.setIfInBounds d (g d)) a.tmps,a.defers⟩ w'):(Code.region id l.toArray true).wp P Q a w:=by
 have N:=hB
 obtain ⟨hn,_,I,_⟩:=jj N
 have hn':n≤l.length:=by simpa using hn
 have H:(l.drop n).length=l.toArray.size-n:=by simp
 refine wp_region_any hm ?_
 have:=free_go (P:=P) (Q:=Q) (w0:=w) hV hB (fun i K hK=>by have:=fsteps_at V 0 hs i K hK;rwa [Nat.zero_add] at this) (fun b u inv=>?_) n (List.range n) (Array.replicate l.toArray.size false) a w.drew (by simp) List.nodup_range ?_ ?_
 ·have e:n+(l.toArray.size-n)=l.toArray.size:=by omega
  rw [e] at this
  exact this
 ·have D:∀ i,i<n→(Array.replicate n true++Array.replicate (l.toArray.size-n) false).getD i false=true:=by
   intro i U
   have O:i<(Array.replicate n true++Array.replicate (l.toArray.size-n) false).size:=by simp;omega
   rw [Array.getD,dif_pos O]
   show (Array.replicate n true++Array.replicate (l.toArray.size-n) false)[i]=true
   rw [Array.getElem_append_left (by simpa using U)]
   simp
  have h2:=hf (fun d=>b.tmps.getD d undef) u (fun i d J=>by
   simp only [Bool.and_eq_true,decide_eq_true_eq,beq_iff_eq] at J
   exact inv.vals i d (by omega) (D i (by omega)) J.2) inv.kept
  rw [← act_filled D inv] at h2
  have:=wpAny_of_seq (P:=P) (md:=.any) (ops:=l.toArray) (Q':=Q) (l.drop n) n _ b u (fun j=>by simp) (by rw [H];exact I) h2
  rw [H] at this
  exact this
 ·intro i
  rw [List.mem_range]
  constructor
  ·intro U
   exact ⟨U,getD_in (by simp;omega) (getD_replicate_false _ _)⟩
  exact fun h=>h.1
 refine ⟨⟨by simp,fun j oj _ D=>(by rw [getD_replicate_false] at D;cases D),fun t _ ht=>getD_in (by simpa using ht) (getD_replicate_false _ _)⟩,rfl,rfl,fun _ _=>rfl,fun i d _ D=>(by rw [getD_replicate_false] at D;cases D),Keep.drew (Keep.refl _ w)⟩
structure SInv (ops:Array Oper) (V:List Kn) (k:Nat) (a0:Act) (w0:World) (a:Act) (w:World):Prop where
 defers:a.defers=a0.defers
 size:a.tmps.size=a0.tmps.size
 env:∀ t,(∀ i,i<k→QY ops i≠some t)→a.tmps[t]?=a0.tmps[t]?
 vals:∀ i d,i<k→QY ops i=some d→(UY V i).p (a.tmps.getD d undef) w
 kept:Kept w0 w
def textB (ops:Array Oper) (n size:Nat):Bool:=
 decide (n≤ops.size) && ((List.range n).all fun i=>match ops[i]? with
  | some o=>(match o.dst with | some d=>decide (d<size) && ((List.range i).all fun j=>QY ops j != some d) | none=>false) && o.after.all fun e=>!Region.binds .any e || decide (e.on<i)
  | none=>false)
theorem sact_filled {a:Act} {w:World} (inv:SInv ops V n a0 w0 a w):a=⟨(Wy ops n).foldl (fun t d=>t.setIfInBounds d (a.tmps.getD d undef)) a0.tmps,a0.defers⟩:=by
 obtain ⟨t,df⟩:=a
 have D:=inv.defers
 simp only at D
 subst D
 congr 1
 apply Array.ext_getElem?
 intro e
 rw [JJQ]
 have j:=inv.size
 simp only at j
 by_cases hm:e ∈ Wy ops n
 ·by_cases hlt:e<a0.tmps.size
  ·rw [if_pos ⟨hm,hlt⟩]
   have:e<t.size:=by omega
   simp [this]
  rw [if_neg (fun h=>hlt h.2),Array.getElem?_eq_none (by omega),Array.getElem?_eq_none (by omega)]
 rw [if_neg (fun h=>hm h.1)]
 exact inv.env e (fun i H h=>hm (List.mem_filterMap.2 ⟨i,by simpa using H,h⟩))
theorem text_go {l:List Oper} (hnV:V.length=n) (hB:textB l.toArray n a0.tmps.size=true) (a9:∀ i K,V[i]?=some K→FStep P l.toArray Q V n a0 w0 i K)
  (a1:∀ a w,SInv l.toArray V n a0 w0 a w→wpList P l.toArray Q (l.drop n) a w):∀ (f k:Nat) (a:Act) (w:World),k+f=n→SInv l.toArray V k a0 w0 a w→wpList P l.toArray Q (l.drop k) a w:=by
 simp only [textB,Bool.and_eq_true,decide_eq_true_eq] at hB
 obtain ⟨hn,O⟩:=hB
 intro f
 induction f with
 | zero=>
  intro k a w hk inv
  obtain rfl:k=n:=by omega
  exact a1 a w inv
 | succ f ih=>
  intro k a w hk inv
  have a5:k<n:=by omega
  have h:=List.all_eq_true.1 O k (by simpa using a5)
  cases J:l.toArray[k]? with
  | none=>rw [J] at h;cases h
  | some o=>
   rw [J] at h
   simp only [Bool.and_eq_true] at h
   cases hd:o.dst with
   | none=>rw [hd] at h;cases h.1
   | some d=>
    rw [hd] at h
    simp only [Bool.and_eq_true,decide_eq_true_eq,List.all_eq_true,List.mem_range,bne_iff_ne] at h
    have H:QY l.toArray k=some d:=by simp [QY,J,hd]
    have a7:=h.1.2
    have N:∀ e ∈ o.after,Region.binds .any e=true→e.on<k:=fun e D hb=>by
     have h2:=(Array.all_eq_true_iff_forall_mem.1 h.2) e D
     simpa [hb] using h2
    have hK:V[k]?=some (UY V k):=by
     unfold UY
     rw [List.getD_eq_getElem?_getD,List.getElem?_eq_getElem (by omega)]
     rfl
    have a2:l[k]?=some o:=by simpa using J
    have ad:k<l.length:=(List.getElem?_eq_some_iff.1 a2).1
    have I:l.drop k=o::l.drop (k+1):=by
     rw [List.drop_eq_getElem_cons ad]
     congr 1
     exact (List.getElem?_eq_some_iff.1 a2).2
    have key:wpOp P l.toArray Q k (wpList P l.toArray Q (l.drop (k+1))) a w:=by
     refine wpOp_mono ?_ (a9 k _ hK a w ?_ ?_ inv.kept)
     ·rintro a' w' ⟨v,rfl,hv,a4⟩
      rw [H]
      refine ih (k+1) _ w' (by omega) ⟨inv.defers,by simp [Act.put,inv.size],fun t ht=>?_,fun i e hi D=>?_,inv.kept.trans a4⟩
      ·have h1:=inv.env t (fun i hi=>ht i (by omega))
       have h2:d≠t:=fun h=>ht k (by omega) (by rw [H,h])
       simp only [Act.put,xJ]
       rw [if_neg (fun h=>h2 h.1),h1]
      by_cases hik:i=k
      ·subst hik
       rw [H] at D
       injection D with D
       subst D
       have ab:d<a.tmps.size:=by rw [inv.size];exact h.1.1
       have:(a.put (some d) v).tmps.getD d undef=v:=by simp [Act.put,ab]
       rw [this]
       exact hv
      have a3:d≠e:=fun hh=>a7 i (by omega) (by rw [D,hh])
      have:(a.put (some d) v).tmps.getD e undef=a.tmps.getD e undef:=by
       simp only [Act.put,Array.getD_eq_getD_getElem?,xJ]
       rw [if_neg (fun h=>a3 h.1)]
      rw [this]
      exact (UY V i).st _ _ _ (inv.vals i e (by omega) D) a4
     ·intro t v ht hv
      have ac:∀ i,i<k→QY l.toArray i≠some t:=fun i hi=>by simpa using List.all_eq_true.1 ht i (by simpa using (by omega:i<n))
      have h1:=inv.env t ac
      rw [← hv]
      simp only [Act.eval,Array.getD_eq_getD_getElem?,h1]
     intro j e U
     simp only [Bool.and_eq_true,beq_iff_eq,J,Option.map_some,Option.some.injEq,Array.any_eq_true'] at U
     obtain ⟨⟨x,hx,a6,aa⟩,a8⟩:=U
     subst aa
     exact inv.vals x.on e (N x hx a6) a8
    rw [I]
    unfold wpOp at key
    simp only [J] at key
    exact key
theorem wp_text {id:Nat} {a:Act} {w:World} {l:List Oper} (n:Nat) (V:List Kn) (I:V.length=n) (N:textB l.toArray n a.tmps.size=true)
  (J:FSteps P l.toArray Q V n a w 0 V)
  (O:∀ (g:Nat→Value) w',FVals l.toArray V g w'→Kept w w'→wpList P l.toArray Q (l.drop n) ⟨(Wy l.toArray n).foldl (fun t d=>t.setIfInBounds d (g d)) a.tmps,a.defers⟩ w'):(Code.region id l.toArray false).wp P Q a w:=by
 refine wp_region_lit ?_
 have:=text_go (P:=P) (Q:=Q) (w0:=w) I N (fun i K H=>by have:=fsteps_at V 0 J i K H;rwa [Nat.zero_add] at this) (fun b u inv=>?_) n 0 a w (by omega) ⟨rfl,rfl,fun _ _=>rfl,fun i d hi=>(by omega),Kept.refl w⟩
 ·simpa using this
 have D:=O (fun d=>b.tmps.getD d undef) u (fun i d j=>by
  simp only [Bool.and_eq_true,decide_eq_true_eq,beq_iff_eq] at j
  exact inv.vals i d (by omega) j.2) inv.kept
 rw [← sact_filled inv] at D
 exact D
variable {a:Act} {w:World} {i:Nat} {o:Oper} {K:Kn}
theorem JQ (j:o.guard=none) (y:Nat→Option Bool):Region.wanted o y=true:=by simp [Region.wanted,j]
theorem zY {g d:Nat} {b:Bool} (x:Bool) (N:o.guard=some (g,b)) (H:QY ops g=some d) (j:a.eval (.tmp d)=.bool x):Region.wanted o (yielded ops a.tmps)=(x == b):=by
 have J:a.tmps[d]?=some (.bool x):=by
  simp only [Act.eval,Array.getD_eq_getD_getElem?] at j
  cases D:a.tmps[d]? with
  | none=>rw [D] at j;simp [undef] at j
  | some u=>rw [D] at j;simp at j;rw [j]
 have I:yielded ops a.tmps g=some x:=by
  unfold yielded
  unfold QY at H
  rw [H]
  simp [J]
 cases x <;> cases b <;> simp [Region.wanted,N,I]
theorem jV (v:Value) (w':World) (j:ops[i]?=some o) (D:Region.wanted o (yielded ops a.tmps)=true) (h:(execOp a.eval o).run P w=.ok (.value v) w') (H:K.p v w') (hk:Kept w w'):wpOp P ops Q i (FPost ops i K a w) a w:=by
 unfold wpOp
 simp only [j,D,if_true]
 refine .inl ?_
 unfold Oper.wp
 rw [h]
 exact ⟨v,by simp [QY,j],H,hk⟩
theorem Xq (v:Value) (D:ops[i]?=some o) (j:Region.wanted o (yielded ops a.tmps)=true) (h:(execOp a.eval o).run P w=.ok (.value v) w) (H:K.p v w):wpOp P ops Q i (FPost ops i K a w) a w:=
 jV v w D j h H (Kept.refl w)
theorem Zj (f:Nat) (args:Array Value) (j:ops[i]?=some o) (H:Region.wanted o (yielded ops a.tmps)=true) (h:(execOp a.eval o).run P w=.ok (.enter f args) w)
  (D:Calls P f args w fun e w'=>∃ v,e=.returned v∧K.p v w'∧Kept w w'):wpOp P ops Q i (FPost ops i K a w) a w:=by
 unfold wpOp
 simp only [j,H,if_true]
 refine .inl ?_
 unfold Oper.wp
 rw [h,Oper.upon_enter]
 refine D.mono ?_
 rintro e w' ⟨v,rfl,I,hk⟩
 exact ⟨v,by simp [QY,j],I,hk⟩
theorem f_skip (j:ops[i]?=some o) (D:Region.wanted o (yielded ops a.tmps)=false) (H:K.p undef w):wpOp P ops Q i (FPost ops i K a w) a w:=by
 unfold wpOp
 simp only [j,D]
 exact ⟨undef,by simp [QY,j],H,Kept.refl w⟩
theorem f_if {g d:Nat} (b:Bool) (O:o.guard=some (g,true)) (D:ops[i]?=some o) (N:QY ops g=some d) (H:a.eval (.tmp d)=.bool b) (h:b=true→wpOp P ops Q i (FPost ops i K a w) a w):wpOp P ops Q i (FPost ops i (Kn.cond b K) a w) a w:=by
 cases b with
 | true=>exact wpOp_mono (fun a' w' ⟨v,J,j,I⟩=>⟨v,J,⟨fun _=>j,fun h=>(by cases h)⟩,I⟩) (h rfl)
 | false=>exact f_skip D (zY false O N H) ⟨fun h=>(by cases h),fun _=>rfl⟩
theorem JJX {g d:Nat} (b:Bool) (O:o.guard=some (g,false)) (D:ops[i]?=some o) (N:QY ops g=some d) (H:a.eval (.tmp d)=.bool b) (h:(!b)=true→wpOp P ops Q i (FPost ops i K a w) a w):wpOp P ops Q i (FPost ops i (Kn.cond (!b) K) a w) a w:=by
 cases b with
 | false=>exact wpOp_mono (fun a' w' ⟨v,J,j,I⟩=>⟨v,J,⟨fun _=>j,fun h=>(by cases h)⟩,I⟩) (h rfl)
 | true=>exact f_skip D (zY true O N H) ⟨fun h=>(by cases h),fun _=>rfl⟩
theorem VY {g d:Nat} {b c:Bool} (I:o.guard=some (g,c)) (H:QY ops g=some d) (j:a.eval (.tmp d)=.bool b) (D:(b == c)=true):Region.wanted o (yielded ops a.tmps)=true:=(zY b I H j).trans D
theorem wanted_undef {g d:Nat} {b:Bool} (J:o.guard=some (g,b)) (H:QY ops g=some d) (j:a.eval (.tmp d)=undef):Region.wanted o (yielded ops a.tmps)=false:=by
 have I:yielded ops a.tmps g=none:=by
  unfold yielded
  unfold QY at H
  rw [H]
  simp only [Act.eval,Array.getD_eq_getD_getElem?] at j
  cases D:a.tmps[d]? with
  | none=>simp [D]
  | some u=>rw [D] at j;simp at j;rw [j] at D;simp [D,undef]
 simp [Region.wanted,J,I]
theorem VU {b:Bool} (h:b=true):(b == true)=true:=by rw [h];rfl
theorem jq {b:Bool} (h:(!b)=true):(b == false)=true:=by cases b <;> simp_all
theorem Qj (c x y:Operand) (b p:Bool) (j:o.op=.pick c x y) (D:a.eval c=.bool b) (hx:b=true→a.eval x=.bool p) (H:a.eval y=.bool false):(execOp a.eval o).run P w=.ok (.value (.bool (b && p))) w:=by
 unfold execOp
 cases b with
 | true=>simp only [j,D,hx rfl];simp [go_sem]
 | false=>simp only [j,D,H];simp [go_sem]
theorem ZY (c x y:Operand) (b p:Bool) (j:o.op=.pick c x y) (D:a.eval c=.bool b) (hx:a.eval x=.bool true) (H:(!b)=true→a.eval y=.bool p):(execOp a.eval o).run P w=.ok (.value (.bool (b || p))) w:=by
 unfold execOp
 cases b with
 | true=>simp only [j,D,hx];simp [go_sem]
 | false=>simp only [j,D,H rfl];simp [go_sem]
end
def i64s (l:List Int):List Value:=l.map fun x=>.int .i64 x
def stc (l:List Int) (t:List UInt8):List Value:=i64s l++cells8 t
theorem i64s_len (l:List Int):(i64s l).length=l.length:=by simp [i64s]
theorem stc_len (l:List Int) (t:List UInt8):(stc l t).length=l.length+t.length:=by simp [stc,i64s_len,len8]
theorem i64s_one (l:List Int):∀ u ∈ i64s l,u.oneCell'=true:=by
 intro u j
 simp only [i64s,List.mem_map] at j
 obtain ⟨x,_,rfl⟩:=j
 rfl
theorem stc_one (l:List Int) (t:List UInt8):∀ u ∈ stc l t,u.oneCell'=true:=by
 intro u j
 rcases List.mem_append.1 j with h | h
 ·exact i64s_one l u h
 exact cells8_one t u h
theorem stc_int (l:List Int) (t:List UInt8) (i:Nat) (x:Int) (h:l[i]?=some x):(stc l t)[i]?=some (.int .i64 x):=by
 have j:=(List.getElem?_eq_some_iff.1 h).1
 unfold stc
 rw [List.getElem?_append_left (by rw [i64s_len];exact j)]
 simp [i64s,h]
theorem stc_set (l:List Int) (t:List UInt8) (i:Nat) (x:Int) (h:i<l.length):(stc l t).set i (.int .i64 x)=stc (l.set i x) t:=by
 unfold stc
 rw [List.set_append_left _ _ (by rw [i64s_len];exact h)]
 simp [i64s,List.map_set]
theorem Blk.fld {w:World} {g:Nat} {T:TypeId} {l:List Int} {t:List UInt8} (h:Blk w g T (stc l t)) (i:Nat) (x:Int) (j:l[i]?=some x):w.cell? ⟨g,i,none⟩=some (.int .i64 x):=(h.cell i).trans (stc_int l t i x j)
theorem Blk.setFld {w:World} {g:Nat} {T:TypeId} {l:List Int} {t:List UInt8} (h:Blk w g T (stc l t)) (i:Nat) (x:Int) (j:i<l.length):Blk (w.setCell ⟨g,i,none⟩ (.int .i64 x)) g T (stc (l.set i x) t):=by
 have:=h.set_ i (.int .i64 x)
 rwa [stc_set l t i x j] at this
theorem Blk.there {w:World} {g:Nat} {T:TypeId} {cs:List Value} (h:Blk w g T cs) (o n:Nat) (hn:o+n≤cs.length):w.there g o n:=by
 intro j hj
 refine ⟨?_,h.frozen _⟩
 rw [h.cell,List.getElem?_eq_getElem (by omega)]
 rfl
def fldB (P:Program) (t:TypeId) (i off:Nat):Bool:=match P.underlying t with
 | some (.struct fs)=>match fs[i]? with
  | some f=>f.offset == off && (match P.info? f.type with | some inf=>inf.size != 0 | none=>false)
  | none=>false
 | _=>false
section
variable {a:Act} {o:Oper} {u:World}
theorem Vy (t:TypeId) (i off:Nat) (x:Operand) (g:Nat) (H:o.op=.fieldAddr t x i) (hx:a.eval x=.pointer (some ⟨g,0,none⟩)) (j:fldB Tryz.prog t i off=true) :
  (execOp a.eval o).run Tryz.prog u=.ok (.value (.pointer (some ⟨g,off,none⟩))) u:=by
 unfold fldB at j
 cases I:Tryz.prog.underlying t with
 | none=>rw [I] at j;cases j
 | some d=>
  rw [I] at j
  cases d <;> try (cases j;done)
  rename_i fs
  simp only at j
  cases D:fs[i]? with
  | none=>rw [D] at j;cases j
  | some f=>
   rw [D] at j
   simp only at j
   cases J:Tryz.prog.info? f.type with
   | none=>rw [J] at j;simp at j
   | some inf=>
    rw [J] at j
    simp only [Bool.and_eq_true,beq_iff_eq,bne_iff_ne] at j
    obtain ⟨O,N⟩:=j
    unfold execOp
    simp only [H,hx]
    simp [Instr.fieldAt,run_underlying I,D,Sem.run_bind,Instr.sureAddr,fieldPlace,sizeOf,typeInfo,J,N,O,Addr.add_mid]
theorem JZ (t:TypeId) (I:Tryz.prog.underlying t=some (.int .i64)) (x:Operand) (D:Addr) (v:Value) (j:o.op=.load t x) (hx:a.eval x=.pointer (some D)) (H:u.cell? D=some v) :
  (execOp a.eval o).run Tryz.prog u=.ok (.value v) u:=by
 unfold execOp
 simp only [j,hx,Instr.loadAt,Instr.sureAddr,Sem.run_bind,Sem.run_pure,Result.andThen_ok]
 simp [loadVar,isAgg,run_underlying I,Sem.run_bind,H,go_sem]
theorem jz (j:TypeId) (x:Operand) (g:Nat) (t:TypeId) (cs:List Value) (I:Array Field) (D:o.op=.load j x) (hx:a.eval x=.pointer (some ⟨g,0,none⟩)) (J:Blk u g t cs)
  (H:Tryz.prog.underlying j=some (.struct I)) (N:(Tryz.prog.info? j).map (·.size)=some cs.length):(execOp a.eval o).run Tryz.prog u=.ok (.value (.agg cs.toArray)) u:=by
 unfold execOp
 simp only [D,hx,Instr.loadAt,Instr.sureAddr,Sem.run_bind,Sem.run_pure,Result.andThen_ok,run_loadVar_row u g t j cs.toArray (0,0) _ J H rfl (by simpa using N)]
theorem XV (t:TypeId) (x:Operand) (cs:List Value) (j:o.op=.box t x) (hx:a.eval x=.agg cs.toArray):(execOp a.eval o).run Tryz.prog u=.ok (.value (.pointer (some ⟨u.heap.size,0,none⟩))) (u.alloc (.cells cs.toArray t)):=by
 unfold execOp
 simp only [j,hx]
 simp [Instr.box,newVar,Value.cells,go_sem]
theorem XZ (t:TypeId) (j:List (Nat × Operand)) (cs:List Value) (D:o.op=.build t j.toArray) (h:Tryz.prog.built t (j.map fun (i,x)=>(i,a.eval x))=some cs.toArray):(execOp a.eval o).run Tryz.prog u=.ok (.value (.agg cs.toArray)) u:=by
 unfold execOp
 have H:Tryz.prog.built t (j.toArray.map fun (i,x)=>(i,a.eval x)).toList=some cs.toArray:=by rw [Array.toList_map];exact h
 simp only [D,Sem.run_bind,run_build u t _ _ H,Result.andThen_ok]
 rfl
theorem UW (x:Operand) (D:List Value) (i:Nat) (v:Value) (j:o.op=.extract x i) (hx:a.eval x=.tuple D.toArray) (H:D[i]?=some v):(execOp a.eval o).run Tryz.prog u=.ok (.value v) u:=by
 unfold execOp
 simp only [j,hx]
 have:D.toArray[i]?=some v:=by simpa using H
 simp [Instr.extract,this]
end
def Gives (f:Nat) (args:Array Value) (w:World) (K:Kn):Prop:=Calls Tryz.prog f args w fun e w'=>∃ v,e=.returned v∧K.p v w'∧Kept w w'
theorem QW {f:Nat} {args:Array Value} {w:World} {c:Value} (h:Calls Tryz.prog f args w fun e w'=>e=.returned c∧Kept w w'):Gives f args w (.eq c):=h.mono fun e w' ⟨j,hk⟩=>⟨c,j,rfl,hk⟩
structure Cmd where
 k:Int
 seq:Int
 tr:Int
 inst:Int
 id:Int
 side:Int
 ord:Int
 price:Int
 qty:Int
 shw:Int
 stop:Int
 what:Int
 fa:Int
 fb:Int
 tag:List UInt8
def Cmd.l (c:Cmd):List Int:=[c.k,c.seq,c.tr,c.inst,c.id,c.side,c.ord,c.price,c.qty,c.shw,c.stop,c.what,c.fa,c.fb]
theorem Cmd.ext_l {c d:Cmd} (h:c.l=d.l) (j:c.tag=d.tag):c=d:=by
 cases c
 cases d
 simp only [Cmd.l,List.cons.injEq] at h j
 simp_all
instance:DecidableEq Cmd:=fun c d=>decidable_of_iff (c.l=d.l∧c.tag=d.tag) ⟨fun h=>Cmd.ext_l h.1 h.2,fun h=>by subst h;exact ⟨rfl,rfl⟩⟩
theorem plainI:Tryz.prog.plainKey 3=true:=by kernel_rfl
theorem run_eqInt (d : Nat) (xs j : Array Value) (w : World) (f : Field) (J : List Field) (x y : Int) (O : (f.name == "_") = false) (I : f.type = 3) (hx : xs[f.offset]? = some (.int .i64 x)) (U : j[f.offset]? = some (.int .i64 y)) (r : Bool) (hr : (Op.eqFields (d + 1) xs j J).run Tryz.prog w = .ok r w) :
  (Op.eqFields (d+1) xs j (f::J)).run Tryz.prog w=.ok (x == y && r) w:=by
 have D : f.name ≠ "_" := by simpa using O
 have N:=run_part_plain w plainI hx
 have H:=run_part_plain w plainI U
 rw [← I] at N H
 simp only [Op.eqFields,if_pos D,Sem.run_bind,N,H,Result.andThen_ok]
 rw [I,run_equalIn_int w d 3 .i64 .i64 _ _ Tryz.underlying3]
 cases hxy:(x == y) with
 | false=>simp
 | true=>simp [hr]
section
variable {a:Act} {o:Oper} {u:World}
end
section
variable {ops:Array Oper} {Q:Exit→Act→World→Prop} {a:Act} {w:World} {o:Oper} {rest:List Oper}
theorem UJ (v:Value) (D:Region.wanted o (yielded ops a.tmps)=true) (h:(execOp a.eval o).run Tryz.prog w=.ok (.value v) w) (H:wpList Tryz.prog ops Q rest (a.put o.dst v) w):wpList Tryz.prog ops Q (o::rest) a w:=
 qV D fun K j=>by
  unfold Oper.wp
  rw [h]
  exact j _ _ H
theorem Vj (v:Value) (w':World) (D:Region.wanted o (yielded ops a.tmps)=true) (h:(execOp a.eval o).run Tryz.prog w=.ok (.value v) w') (H:wpList Tryz.prog ops Q rest (a.put o.dst v) w'):wpList Tryz.prog ops Q (o::rest) a w:=
 qV D fun K j=>by
  unfold Oper.wp
  rw [h]
  exact j _ _ H
theorem l_store (w':World) (D:Region.wanted o (yielded ops a.tmps)=true) (h:(execOp a.eval o).run Tryz.prog w=.ok .skip w') (H:wpList Tryz.prog ops Q rest (a.put o.dst undef) w'):wpList Tryz.prog ops Q (o::rest) a w:=
 qV D fun K j=>by
  unfold Oper.wp
  rw [h]
  exact j _ _ H
theorem l_call (f:Nat) (args:Array Value) (H:Region.wanted o (yielded ops a.tmps)=true) (h:(execOp a.eval o).run Tryz.prog w=.ok (.enter f args) w)
  (I:Calls Tryz.prog f args w fun e w'=>∃ v,e=.returned v∧wpList Tryz.prog ops Q rest (a.put o.dst v) w'):wpList Tryz.prog ops Q (o::rest) a w:=
 qV H fun K j=>by
  unfold Oper.wp
  rw [h,Oper.upon_enter]
  refine I.mono ?_
  rintro e w' ⟨v,rfl,D⟩
  exact j _ _ D
theorem xy (g i:Nat) (T:TypeId) (l:List Int) (t:List UInt8) (v:Int) (x y:Operand) (J:Region.wanted o (yielded ops a.tmps)=true) (D:o.op=.store 3 x y) (hx:a.eval x=.pointer (some ⟨g,i,none⟩)) (N:a.eval y=.int .i64 v) (H:Blk w g T (stc l t)) (O:i<l.length)
  (I:∀ w',Blk w' g T (stc (l.set i v) t)→Keep (·=g) w w'→w'.heap.size=w.heap.size→wpList Tryz.prog ops Q rest (a.put o.dst undef) w'):wpList Tryz.prog ops Q (o::rest) a w:=by
 have j:i+1≤(stc l t).length:=by rw [stc_len];omega
 refine l_store (w.setCell ⟨g,i,none⟩ (.int .i64 v)) J (exec_store1 3 x y g i (.int .i64 v) D (by kernel_rfl) hx N rfl rfl (H.there i 1 j)) (I _ (H.setFld i v O) (Keep.setCell (Keep.refl (·=g) w) (fun _=>rfl) _) (by simp [World.setCell]))
theorem YV (I:TypeId) (g:Nat) (T:TypeId) (j cells:List Value) (x y:Operand) (O:Region.wanted o (yielded ops a.tmps)=true) (J:o.op=.store I x y) (hx:a.eval x=.pointer (some ⟨g,0,none⟩)) (U:a.eval y=.agg cells.toArray) (hb:Blk w g T j) (hi:(Tryz.prog.info? I).map (·.size)=some cells.length) (D:j.length=cells.length) (h1:∀ u ∈ cells,u.oneCell'=true)
  (N:∀ w',Blk w' g T cells→Keep (·=g) w w'→w'.heap.size=w.heap.size→wpList Tryz.prog ops Q rest (a.put o.dst undef) w'):wpList Tryz.prog ops Q (o::rest) a w:=
 qV O fun K H=>op_store_row w I x y J g cells hx U T j hb hi D h1 (fun w' h2 h3 h4=>H _ _ (N w' h2 h3 h4))
theorem l_alloc (t:TypeId) (z:List Value) (N:Region.wanted o (yielded ops a.tmps)=true) (D:o.op=.alloc t) (J:(Tryz.prog.info? t).map (·.zero)=some (some (.agg z.toArray)))
  (O:∀ w',Blk w' w.heap.size t z→w'.heap.size=w.heap.size+1→Kept w w'→wpList Tryz.prog ops Q rest (a.put o.dst (.pointer (some ⟨w.heap.size,0,none⟩))) w'):wpList Tryz.prog ops Q (o::rest) a w:=by
 refine qV N fun K j=>?_
 cases H:Tryz.prog.info? t with
 | none=>simp [H] at J
 | some i=>
  have I:i.zero=some (.agg z.toArray):=by simpa [H] using J
  unfold Oper.wp execOp
  simp only [D]
  simp [Instr.alloc,zeroValue,typeInfo,H,I,newVar,Value.cells,go_sem]
  exact j _ _ (O _ (Blk.new w t z) (by simp) ((Keep.refl _ w).alloc _))
end
structure Ord where
 tr:Int
 id:Int
 firm:Int
 side:Int
 k:Int
 price:Int
 qty:Int
 shw:Int
 stop:Int
def Ord.l (o:Ord):List Int:=[o.tr,o.id,o.firm,o.side,o.k,o.price,o.qty,o.shw,o.stop]
theorem Ord.ext_l {c d:Ord} (h:c.l=d.l):c=d:=by
 cases c
 cases d
 simp only [Ord.l,List.cons.injEq] at h
 simp_all
instance:DecidableEq Ord:=fun c d=>decidable_of_iff (c.l=d.l) ⟨fun h=>Ord.ext_l h,fun h=>by subst h;rfl⟩
def Ord.cells (o:Ord):List Value:=stc o.l []
def Ord.v (o:Ord):Value:=.agg o.cells.toArray
theorem Ord.cells_len (o:Ord) (h:True):o.cells.length=9:=by unfold Ord.cells;rw [stc_len];rfl
theorem JU:(Tryz.prog.info? 35).map (·.size)=some 9:=by kernel_rfl
def intsB (P:Program) (t:TypeId) (n:Nat):Bool:=match P.underlying t with
 | some (.struct fs)=>fs.size == n && P.cellsOf t == n && ((List.range n).all fun i=>match fs[i]? with
   | some f=>f.offset == i && P.cellsOf f.type == 1 && (match P.underlying f.type with | some (.int .i64)=>true | _=>false)
   | none=>false)
 | _=>false
theorem sh_ints {H:Type} {enc:TypeId × Value→H} {W:World} {t:TypeId} (n:Nat) (J:intsB Tryz.prog t n=true) (U:Nat) (cs:List Value) (x:DataW H × List MemPlace) (h:DataW.trod enc Tryz.prog W 0 (fun _=>true) true U t cs=some x) :
  ∃ l:List Int,cs=stc l []∧l.length=n∧∀ y ∈ l,(Lit.int .i64 y).wf=true:=by
 unfold intsB at J
 cases hu:Tryz.prog.underlying t with
 | none=>rw [hu] at J;cases J
 | some d=>
  rw [hu] at J
  cases d <;> try (cases J;done)
  rename_i fs
  simp only [Bool.and_eq_true,beq_iff_eq,List.all_eq_true,List.mem_range] at J
  obtain ⟨⟨hsz,j⟩,D⟩:=J
  obtain ⟨ys,m,_,_,O,hyl,hf⟩:=DataW.trod_struct hu h
  rw [j] at O
  have hi:∀ i,i<n→∃ a:Int,cs[i]?=some (.int .i64 a)∧(Lit.int .i64 a).wf=true:=by
   intro i N
   have h1:=D i N
   cases I:fs[i]? with
   | none=>rw [I] at h1;cases h1
   | some f=>
    rw [I] at h1
    simp only [Bool.and_eq_true,beq_iff_eq] at h1
    obtain ⟨⟨ho,hc⟩,hk⟩:=h1
    have a4:Tryz.prog.underlying f.type=some (.int .i64):=by
     cases hq:Tryz.prog.underlying f.type with
     | none=>rw [hq] at hk;cases hk
     | some d=>
      rw [hq] at hk
      cases d <;> try (cases hk;done)
      rename_i k
      cases k <;> first | rfl | (cases hk;done)
    have g:=hf i f I
    rw [ho,hc,List.getElem?_eq_getElem (by omega)] at g
    obtain ⟨a,e,_,wa⟩:=DataW.trod_int a4 g
    refine ⟨a,?_,wa⟩
    have:=congrArg (·[0]?) e
    simpa [List.getElem?_take,List.getElem?_drop] using this
  refine ⟨cs.map intOf,?_,by simp;omega,?_⟩
  ·unfold stc
   rw [show cells8 []=[] from rfl,List.append_nil]
   apply List.ext_getElem?
   intro i
   by_cases N:i<n
   ·obtain ⟨a,e,_⟩:=hi i N
    simp [i64s,e,intOf]
   rw [List.getElem?_eq_none (by omega),List.getElem?_eq_none (by rw [i64s_len];simp;omega)]
  intro y hy
  simp only [List.mem_map] at hy
  obtain ⟨u,a2,rfl⟩:=hy
  obtain ⟨i,a1,a3⟩:=List.getElem_of_mem a2
  obtain ⟨a,e,wa⟩:=hi i (by omega)
  have:u=.int .i64 a:=by
   rw [List.getElem?_eq_getElem a1,a3] at e
   injection e
  rw [this]
  exact wa
def rng (x lo hi:Int):Bool:=decide (lo≤x) && decide (x≤hi)
theorem in_any (n j H:Int) (w:World):Gives 55 #[.int .i64 n,.int .i64 j,.int .i64 H] w (.eq (.bool (rng n j H))):=by
 refine QW ?_
 unfold rng
 by_cases h:j≤n
 ·have D:decide (j≤n)=true:=by simpa using h
  have I:decide (n ≥ j)=true:=by simpa using h
  rw [D]
  go_enter Tryz.func55,Tryz.ntmps55
  go_wp2
  go_ret
  exact ⟨Wz (by simp),Kept.refl w⟩
 have D:decide (j≤n)=false:=by simpa using h
 have I:decide (n ≥ j)=false:=by simpa using h
 rw [D]
 go_enter Tryz.func55,Tryz.ntmps55
 go_wp2
 go_ret
 exact ⟨Wz (by simp),Kept.refl w⟩
def bet (side x y:Int):Bool:=if side=1 then decide (y<x) else decide (x<y)
def Ord.crosses (c:Ord) (x:Int):Bool:=decide (c.k=2) || !bet c.side x c.price
def Ord.hit (c:Ord) (x:Int):Bool:=(decide (0<c.stop) && decide (0<x)) && !bet c.side c.stop x
def Ord.owned (c:Ord):Bool:=(rng c.tr 0 31 && rng c.firm 0 7) && rng c.id 0 1073741824
def Ord.ofApi (c:Ord):Bool:=rng c.side 1 2 && rng c.k 1 5
def Ord.prices (c:Ord):Bool:=rng c.stop 0 1048576 && if c.k=2 then decide (c.price=0) else rng c.price 1 1048576
def Ord.shown (c:Ord):Int:=if c.k=1∨c.k=5 then c.qty else 0
def Ord.amounts (c:Ord):Bool:=rng c.qty 1 1048576 && rng c.shw 0 c.shown
def Ord.right (c:Ord):Bool:=((c.owned && c.ofApi) && c.prices) && c.amounts
theorem UQ (c:Ord):c.right=true↔(0≤c.tr∧c.tr≤31)∧(0≤c.firm∧c.firm≤7)∧(0≤c.id∧c.id≤1073741824)∧(1≤c.side∧c.side≤2)∧(1≤c.k∧c.k≤5)∧(0≤c.stop∧c.stop≤1048576)∧(c.k=2→c.price=0)∧(c.k≠2→1≤c.price∧c.price≤1048576)∧(1≤c.qty∧c.qty≤1048576)∧0≤c.shw∧c.shw≤c.qty∧(c.k=1∨c.k=5∨c.shw=0):=by
 unfold Ord.right Ord.owned Ord.ofApi Ord.prices Ord.amounts Ord.shown rng
 by_cases h2:c.k=2
 ·rw [if_pos h2,if_neg (by omega)]
  simp only [Bool.and_eq_true,decide_eq_true_eq]
  omega
 rw [if_neg h2]
 by_cases h1:c.k=1∨c.k=5
 ·rw [if_pos h1]
  simp only [Bool.and_eq_true,decide_eq_true_eq]
  omega
 rw [if_neg h1]
 simp only [Bool.and_eq_true,decide_eq_true_eq]
 omega
def Ord.err (c:Ord):Int:=if c.right=true then 0 else 1
section
variable {a:Act} {o:Oper} {u:World} {t t':TypeId} {x y:Operand} {p q:Int}
theorem JY (j:o.op=.binOp .eql t x y t') (hx:a.eval x=.int .i64 p) (D:a.eval y=.int .i64 q):(execOp a.eval o).run Tryz.prog u=.ok (.value (.bool (decide (p=q)))) u:=by
 unfold execOp
 simp only [j,hx,D]
 simp [go_sem]
 rw [Bool.eq_iff_iff];simp
theorem Xj (j:o.op=.binOp .neq t x y t') (hx:a.eval x=.int .i64 p) (D:a.eval y=.int .i64 q):(execOp a.eval o).run Tryz.prog u=.ok (.value (.bool (decide (p≠q)))) u:=by
 unfold execOp
 simp only [j,hx,D]
 simp [go_sem]
 rw [Bool.eq_iff_iff];simp
theorem YU (j:o.op=.binOp .lss t x y t') (hx:a.eval x=.int .i64 p) (D:a.eval y=.int .i64 q):(execOp a.eval o).run Tryz.prog u=.ok (.value (.bool (decide (p<q)))) u:=by
 unfold execOp
 simp only [j,hx,D]
 simp [go_sem]
theorem exec_len_ (j:o.op=.binOp .leq t x y t') (hx:a.eval x=.int .i64 p) (D:a.eval y=.int .i64 q):(execOp a.eval o).run Tryz.prog u=.ok (.value (.bool (decide (p≤q)))) u:=by
 unfold execOp
 simp only [j,hx,D]
 simp [go_sem]
theorem QZ (j:o.op=.binOp .gtr t x y t') (hx:a.eval x=.int .i64 p) (D:a.eval y=.int .i64 q):(execOp a.eval o).run Tryz.prog u=.ok (.value (.bool (decide (q<p)))) u:=by
 unfold execOp
 simp only [j,hx,D]
 simp [go_sem]
theorem WJ (j:o.op=.binOp .geq t x y t') (hx:a.eval x=.int .i64 p) (D:a.eval y=.int .i64 q):(execOp a.eval o).run Tryz.prog u=.ok (.value (.bool (decide (q≤p)))) u:=by
 unfold execOp
 simp only [j,hx,D]
 simp [go_sem]
theorem YQ (r:Int) (j:o.op=.binOp .add t x y t') (hx:a.eval x=.int .i64 p) (H:a.eval y=.int .i64 q) (I:p+q=r) (h0:-9223372036854775808≤r) (h1:r≤9223372036854775807):(execOp a.eval o).run Tryz.prog u=.ok (.value (.int .i64 r)) u:=by
 subst I
 unfold execOp
 simp only [j,hx,H]
 have D:IntKind.i64.wrap (p+q)=p+q:=by rw [IntKind.wrap_i64];omega
 simp [go_sem,D]
theorem Zz (r:Int) (j:o.op=.binOp .sub t x y t') (hx:a.eval x=.int .i64 p) (H:a.eval y=.int .i64 q) (I:p-q=r) (h0:-9223372036854775808≤r) (h1:r≤9223372036854775807):(execOp a.eval o).run Tryz.prog u=.ok (.value (.int .i64 r)) u:=by
 subst I
 unfold execOp
 simp only [j,hx,H]
 have D:IntKind.i64.wrap (p-q)=p-q:=by rw [IntKind.wrap_i64];omega
 simp [go_sem,D]
theorem exec_quon (r:Int) (j:o.op=.binOp .quo t x y t') (hx:a.eval x=.int .i64 p) (I:a.eval y=.int .i64 q) (H:q≠0) (J:p.tdiv q=r) (h0:-9223372036854775808≤r) (h1:r≤9223372036854775807):(execOp a.eval o).run Tryz.prog u=.ok (.value (.int .i64 r)) u:=by
 subst J
 unfold execOp
 simp only [j,hx,I]
 have D:IntKind.i64.wrap (p.tdiv q)=p.tdiv q:=by rw [IntKind.wrap_i64];omega
 simp [go_sem,D,H]
end
theorem Blk.setCells {g:Nat} {T:TypeId}:∀ (cs:List Value) (k:Nat) (u:World) (xs:List Value),Blk u g T xs→k+cs.length≤xs.length →
  Blk (u.setCells g k cs) g T (xs.take k++cs++xs.drop (k+cs.length))∧Keep (·=g) u (u.setCells g k cs)∧(u.setCells g k cs).heap.size=u.heap.size:=by
 intro cs
 induction cs with
 | nil=>
  intro k u xs hx hk
  refine ⟨?_,Keep.refl _ _,rfl⟩
  simpa [World.setCells] using hx
 | cons c cs ih=>
  intro k u xs hx hk
  simp only [List.length_cons] at hk
  have I:=hx.set_ k c
  obtain ⟨j,D,s2⟩:=ih (k+1) _ _ I (by simp;omega)
  have e:(xs.set k c).take (k+1)++cs++(xs.set k c).drop (k+1+cs.length)=xs.take k++(c::cs)++xs.drop (k+(c::cs).length):=by
   rw [List.drop_set_of_lt (by omega),List.take_succ_eq_append_getElem (by simp;omega)]
   simp [List.take_set_of_le,Nat.add_assoc,Nat.add_comm 1]
  rw [e] at j
  refine ⟨?_,?_,?_⟩
  ·simpa [World.setCells] using j
  ·have H:Keep (·=g) u (u.setCell ⟨g,k,none⟩ c):=Keep.setCell (Keep.refl (·=g) u) (fun _=>rfl) _
   have:=H.trans D (fun _ _ h=>h)
   simpa [World.setCells] using this
  have:(u.setCell ⟨g,k,none⟩ c).heap.size=u.heap.size:=by simp [World.setCell]
  rw [← this,← s2]
  simp [World.setCells]
def Sl (w:World) (T:TypeId) (k:Nat) (v:Value) (n:Nat) (cs:List Value):Prop:=
 cs.length=n*k∧∃ A c,v=.slice A n c∧n≤c∧c≤maxLen∧(A=none→c=0)∧∀ ad,A=some ad→∃ g off cur,ad=⟨g,off,none⟩∧Blk w g T cur∧off+c*k≤cur.length∧(cur.drop off).take (n*k)=cs
theorem Sl.nil (w:World) (T:TypeId) (k:Nat):Sl w T k (.slice none 0 0) 0 []:=⟨by simp,none,0,rfl,Nat.le_refl _,Nat.zero_le _,fun _=>rfl,fun ad h=>by cases h⟩
theorem Sl.len {w:World} {T:TypeId} {k n:Nat} {v:Value} {cs:List Value} (h:Sl w T k v n cs):cs.length=n*k:=h.1
theorem Sl.lt {w:World} {T:TypeId} {k n:Nat} {v:Value} {cs:List Value} (h:Sl w T k v n cs) {b:Nat} (j:v.ownBlock=some b):b<w.heap.size:=by
 obtain ⟨_,A,c,rfl,_,_,_,h⟩:=h
 cases A with
 | none=>simp [Value.ownBlock] at j
 | some ad=>
  obtain ⟨g,off,cur,rfl,D,_⟩:=h _ rfl
  simp [Value.ownBlock] at j
  subst j
  exact D.lt
theorem Sl.keep {S:Nat→Prop} {w w':World} {T:TypeId} {k n:Nat} {v:Value} {cs:List Value} (h:Sl w T k v n cs) (hk:Keep S w w') (I:∀ b,v.ownBlock=some b→¬ S b):Sl w' T k v n cs:=by
 obtain ⟨h0,A,c,rfl,O,U,h3,h4⟩:=h
 refine ⟨h0,A,c,rfl,O,U,h3,fun N j=>?_⟩
 obtain ⟨g,off,D,rfl,J,H⟩:=h4 N j
 subst j
 exact ⟨g,off,D,rfl,J.keep hk (I g rfl),H⟩
theorem Sl.kept {w w':World} {T:TypeId} {k n:Nat} {v:Value} {cs:List Value} (h:Sl w T k v n cs) (hk:Kept w w'):Sl w' T k v n cs:=h.keep hk (fun _ _ h=>h)
theorem Sl.of_own {w:World} {base k n:Nat} {T:TypeId} {v:Value} {cs:List Value} (h:w.ownsRow base T k v n cs):Sl w T k v n cs:=by
 refine ⟨h.1,?_⟩
 rcases h.2 with ⟨rfl,rfl⟩ | ⟨g,cap,D,rfl,_,N,I,J,O,U⟩
 ·exact ⟨none,0,rfl,Nat.le_refl _,Nat.zero_le _,fun _=>rfl,fun H h=>by cases h⟩
 refine ⟨_,cap,rfl,I,J,fun h=>(by cases h),fun H j=>?_⟩
 injection j with j
 subst j
 exact ⟨g,0,D.toList,rfl,by unfold Blk;rw [N],by simp [O],by simpa using U⟩
theorem own_of {w:World} {base k n:Nat} {T:TypeId} {v:Value} {cs:List Value} (h:w.ownsRow base T k v n cs) {b:Nat} (j:v.ownBlock=some b):base≤b:=by
 rcases h.2 with ⟨rfl,_⟩ | ⟨g,cap,cur,rfl,h1,_⟩
 ·simp [Value.ownBlock] at j
 simp [Value.ownBlock] at j
 omega
theorem Sl.at_ {w:World} {T:TypeId} {k n:Nat} {v:Value} {cs:List Value} (h:Sl w T k v n cs) (hn:0<n):∃ g off c j,v=.slice (some ⟨g,off,none⟩) n c∧Blk w g T j∧n≤c∧c≤maxLen∧off+c*k≤j.length∧(j.drop off).take (n*k)=cs:=by
 obtain ⟨_,A,c,rfl,J,N,O,U⟩:=h
 cases A with
 | none=>have:=O rfl;omega
 | some ad=>
  obtain ⟨g,off,j,rfl,I,D,H⟩:=U _ rfl
  exact ⟨g,off,c,j,rfl,I,J,N,D,H⟩
theorem jJ {w:World} {g off m:Nat} {T:TypeId} {D cs:List Value} (I:Blk w g T D) (h:(D.drop off).take m=cs):w.rangeAt g off cs:=by
 intro j v H
 rw [I.cell,← H,← h,List.getElem?_take]
 split
 ·rw [List.getElem?_drop]
 rename_i hj
 rw [← h,List.getElem?_take,if_neg hj] at H
 cases H
theorem xz {w:World} {g off:Nat} {cs:List Value} (h:w.rangeAt g off cs) (i:Nat):w.rangeAt g (off+i) (cs.drop i):=by
 intro j v D
 rw [List.getElem?_drop] at D
 have:=h (i+j) v D
 rw [Nat.add_assoc]
 exact this
theorem qX {w:World} {g off:Nat} {cs:List Value} (h:w.rangeAt g off cs) (i:Nat):w.rangeAt g off (cs.take i):=by
 intro j v D
 rw [List.getElem?_take] at D
 split at D
 ·exact h j v D
 cases D
theorem JJ {w w':World} {g off:Nat} {cs:List Value} (h:w.rangeAt g off cs) (hk:Kept w w'):w'.rangeAt g off cs:=fun j v D=>hk.cell (h j v D)
theorem QJ {S:Nat→Prop} {w w':World} {g off:Nat} {cs:List Value} (h:w.rangeAt g off cs) (hk:Keep S w w') (D:¬ S g):w'.rangeAt g off cs:=fun j v H=>hk.cell (h j v H) D
theorem Xx {w:World} {g off:Nat} {l:List Int} (h:w.rangeAt g off (stc l [])) (i:Nat) (x:Int) (hx:l[i]?=some x):w.cell? ⟨g,off+i,none⟩=some (.int .i64 x):=h i _ (stc_int l [] i x hx)
theorem JX {w:World} {g:Nat} {T:TypeId} {cs:List Value} (h:Blk w g T cs):w.rangeAt g 0 cs:=fun j v D=>by rw [Nat.zero_add,h.cell];exact D
section
variable {α:Type} (f:α→List Value) (k:Nat) (hk:∀ x,(f x).length=k)
include hk
theorem flat_len (X:List α):(X.flatMap f).length=X.length*k:=by
 induction X with
 | nil=>simp
 | cons x X ih=>rw [List.flatMap_cons,List.length_append,ih,hk,List.length_cons,Nat.add_mul,Nat.one_mul,Nat.add_comm]
theorem Ux (X:List α) (i:Nat):(X.flatMap f).drop (i*k)=(X.drop i).flatMap f:=by
 induction X generalizing i with
 | nil=>simp
 | cons x X ih=>
  cases i with
  | zero=>simp
  | succ i=>
   rw [List.flatMap_cons,Nat.add_mul,Nat.one_mul,List.drop_append,List.drop_of_length_le (by rw [hk];omega),hk,Nat.add_sub_cancel,ih]
   rfl
theorem yY (X:List α) (i:Nat):(X.flatMap f).take (i*k)=(X.take i).flatMap f:=by
 induction X generalizing i with
 | nil=>simp
 | cons x X ih=>
  cases i with
  | zero=>simp
  | succ i=>
   rw [List.flatMap_cons,Nat.add_mul,Nat.one_mul,List.take_append,List.take_of_length_le (by rw [hk];omega),hk,Nat.add_sub_cancel,ih]
   rfl
theorem flat_at (X:List α) (i:Nat) (x:α) (hx:X[i]?=some x):((X.flatMap f).drop (i*k)).take k=f x:=by
 rw [Ux f k hk]
 obtain ⟨j,rfl⟩:=List.getElem?_eq_some_iff.1 hx
 rw [List.drop_eq_getElem_cons j,List.flatMap_cons,List.take_append_of_le_length (by rw [hk];omega),List.take_of_length_le (by rw [hk];omega)]
theorem flat_set (X:List α) (i:Nat) (y:α) (j:i<X.length):(X.flatMap f).take (i*k)++f y++(X.flatMap f).drop (i*k+k)=(X.set i y).flatMap f:=by
 rw [yY f k hk,show i*k+k=(i+1)*k by rw [Nat.add_mul,Nat.one_mul],Ux f k hk,List.set_eq_take_append_cons_drop,if_pos j,List.flatMap_append,List.flatMap_cons,List.append_assoc]
theorem flat_setCell (X:List α) (i j:Nat) (u:Value) (x y:α) (hx:X[i]?=some x) (U:j<k) (J:f y=(f x).set j u):(X.flatMap f).set (i*k+j) u=(X.set i y).flatMap f:=by
 obtain ⟨D,rfl⟩:=List.getElem?_eq_some_iff.1 hx
 rw [← flat_set f k hk X i y D,J]
 have O:=flat_at f k hk X i X[i] (List.getElem?_eq_getElem D)
 have hl:=flat_len f k hk X
 have H:(i+1)*k≤X.length*k:=Nat.mul_le_mul_right k D
 rw [Nat.add_mul,Nat.one_mul] at H
 apply List.ext_getElem?
 intro m
 have e1:((X.flatMap f).take (i*k)).length=i*k:=by rw [List.length_take];omega
 have I:((f X[i]).set j u).length=k:=by rw [List.length_set,hk]
 rw [List.append_assoc,List.getElem?_append,e1,List.getElem?_append,I]
 by_cases c1:m<i*k
 ·rw [if_pos c1,List.getElem?_set_ne (by omega),List.getElem?_take,if_pos c1]
 rw [if_neg c1]
 by_cases c2:m-i*k<k
 ·rw [if_pos c2]
  have N:(f X[i])[m-i*k]?=(X.flatMap f)[m]?:=by
   rw [← O,List.getElem?_take,if_pos c2,List.getElem?_drop,show i*k+(m-i*k)=m by omega]
  by_cases c3:m=i*k+j
  ·subst c3
   rw [List.getElem?_set_self (by omega),show i*k+j-i*k=j by omega,List.getElem?_set_self (by rw [hk];exact U)]
  rw [List.getElem?_set_ne (by omega),List.getElem?_set_ne (by omega),N]
 rw [if_neg c2,List.getElem?_set_ne (by omega),List.getElem?_drop,show i*k+k+(m-i*k-k)=m by omega]
end
structure SlT (t T:TypeId) (k bytes:Nat):Prop where
 und:Tryz.prog.underlying t=some (.slice T)
 elem:Tryz.prog.elem t=T
 info:∃ z,(Tryz.prog.info? T).map (fun i=>(i.zero,i.size,i.bytes))=some (some z,k,bytes)∧z.cells.size=k∧∀ u ∈ z.cells,u.oneCell'=true
 pos:0<k
theorem QQ {t T:TypeId} {k bytes:Nat} (ht:SlT t T k bytes) (ty:TypeId) (w:World) (v x:Value) (n m:Nat) (cs ds:List Value) (hv:Sl w T k v n cs) (hx:Sl w T k x m ds) (h1:∀ u ∈ ds,u.oneCell'=true) (ae:n+m≤maxLen) (a1:(n+m)*bytes≤140737488355328) :
  ∃ v' w',(Builtin.append_ #[t,t] ty #[v,x]).run Tryz.prog w=.ok v' w'∧Sl w' T k v' (n+m) (cs++ds)∧Keep (fun b=>v.ownBlock=some b) w w'∧∀ b,v'.ownBlock=some b→v.ownBlock=some b∨w.heap.size≤b:=by
 obtain ⟨z,hz,ag,_⟩:=ht.info
 obtain ⟨U,hi,a8,a5,ac⟩:=info_parts hz
 obtain ⟨J,B,d,rfl,hd1,hd2,aj,ak⟩:=hx
 cases B with
 | none=>
  have:=aj rfl
  subst this
  have:m=0:=by omega
  subst this
  have:ds=[]:=List.eq_nil_of_length_eq_zero (by omega)
  subst this
  refine ⟨v,w,?_,by simpa using hv,Keep.refl _ _,fun b h=>.inl h⟩
  obtain ⟨N,A,c,rfl,a3,af,ab,ah⟩:=hv
  simp only [Builtin.append_,Sem.run_bind,Sem.run_pure,Result.andThen_ok,run_underlying ht.und,List.getElem?_toArray,List.getElem?_cons_zero,List.getElem?_cons_succ]
  cases A with
  | none=>simp [sizeOf,typeInfo,hi,Builtin.lenOf,Builtin.firstCells,a3]
  | some ad=>simp [sizeOf,typeInfo,hi,Builtin.lenOf,Builtin.firstCells,loadCells,a3,storeCells]
 | some ad=>
  obtain ⟨g2,I,cur2,rfl,ai,hle2,a7⟩:=ak _ rfl
  have H:∀ j u,ds[j]?=some u→w.cell? ((⟨g2,I,none⟩:Addr).add j)=some u:=fun j u hu=>by rw [Addr.add_mid];exact jJ ai a7 j u hu
  obtain ⟨N,A,c,rfl,a3,af,ab,ah⟩:=hv
  cases A with
  | none=>
   have:=ab rfl
   subst this
   have:n=0:=by omega
   subst this
   have:cs=[]:=List.eq_nil_of_length_eq_zero (by omega)
   subst this
   obtain ⟨v',w',hr,D,a2,_⟩:=run_append_own (P:=Tryz.prog) w w.heap.size t ty T U z k bytes ht.und hi a8 a5 ac ag ht.pos (.slice none 0 0) 0 [] (World.ownsRow_nil w _ T k) ⟨g2,I,none⟩ m d ds J H h1 ae a1 (Nat.le_refl _)
   exact ⟨v',w',hr,Sl.of_own D,(Keep.refl _ w).grown a2 (fun b O _=>by simp [Value.ownBlock] at O),fun b O=>.inr (own_of D O)⟩
  | some ad=>
   obtain ⟨g,off,a4,rfl,hB,hle,aa⟩:=ah _ rfl
   by_cases hroom:n+m≤c
   ·subst a5
    have a9:off+n*U.size+ds.length≤a4.length:=by
     have:=Nat.mul_le_mul_right U.size hroom
     rw [Nat.add_mul] at this
     omega
    have hr:=run_append_room_cells (P:=Tryz.prog) w t ty T U ht.und hi g off n c ⟨g2,I,none⟩ m d ds J H h1 hroom
     (fun j hj=>by rw [hB.cell,List.getElem?_eq_getElem (by omega)];rfl) (fun j hj=>hB.frozen _)
    obtain ⟨al,hK,_⟩:=Blk.setCells ds (off+n*U.size) w a4 hB a9
    refine ⟨_,_,hr,⟨by rw [List.length_append,N,J,Nat.add_mul],_,c,rfl,hroom,af,fun h=>(by cases h),fun ad a6=>?_⟩,hK.mono (fun b _ O=>by subst O;rfl),fun b O=>.inl O⟩
    injection a6 with a6
    subst a6
    refine ⟨g,off,_,rfl,al,?_,?_⟩
    ·simp only [List.length_append,List.length_take,List.length_drop]
     omega
    have e0:(a4.take (off+n*U.size)).length=off+n*U.size:=by rw [List.length_take];omega
    rw [List.append_assoc,List.drop_append_of_le_length (by omega),List.drop_take,show off+n*U.size-off=n*U.size by omega,aa,← List.append_assoc,List.take_append_of_le_length (by rw [List.length_append,N,J,Nat.add_mul];omega),List.take_of_length_le (by rw [List.length_append,N,J,Nat.add_mul];omega)]
   obtain ⟨v',w',hr,D,a2⟩:=run_append_arg_grows (P:=Tryz.prog) w t ty T U z k bytes ht.und hi a8 a5 ac ag ht.pos ⟨g,off,none⟩ n c cs N (fun j u hu=>by rw [Addr.add_mid];exact jJ hB aa j u hu) ⟨g2,I,none⟩ m d ds J H (by omega) ae a1
   exact ⟨v',w',hr,Sl.of_own D,(Keep.refl _ w).grown a2 (fun b O _=>by cases O),fun b O=>.inr (own_of D O)⟩
theorem jX {t T:TypeId} {k bytes:Nat} (J:SlT t T k bytes) (v:Value) (n l:Nat) (hl:l≤n) (cs:List Value) (w0:World) (h:Sl w0 T k v n cs) :
  ∃ v',(∀ u,(Instr.slice t v (some (.int .i64 (l:Int))) none none).run Tryz.prog u=.ok v' u)∧v'.ownBlock=v.ownBlock∧∀ w O,Sl w T k v n O→Sl w T k v' (n-l) (O.drop (l*k)):=by
 obtain ⟨z,hz,hz2,_⟩:=J.info
 obtain ⟨i0,hi,hz0,I,hzb⟩:=info_parts hz
 obtain ⟨D,A,c,rfl,hc1,hc2,a2,_⟩:=h
 have U:=fun u=>run_slice_l (P:=Tryz.prog) (w:=u) t A n c (by rw [J.elem];exact J.und) .i64 (l:Int) (by omega) (by omega)
 cases A with
 | none=>
  have:=a2 rfl
  subst this
  have:n=0:=by omega
  subst this
  have:l=0:=by omega
  subst this
  refine ⟨.slice none 0 0,fun u=>?_,rfl,fun w O h=>by simpa using h⟩
  rw [U,J.elem]
  simp [sizeOf,typeInfo,hi,I,sliced]
 | some N=>
  by_cases e:c=l
  ·refine ⟨.slice (some N) (n-l) (c-l),fun u=>?_,rfl,fun w O h=>?_⟩
   ·rw [U,J.elem]
    simp [sizeOf,typeInfo,hi,I,sliced,e]
   obtain ⟨D,A,c',e',_,_,_,h4⟩:=h
   injection e' with e1 e2 e3
   subst e1 e3
   obtain ⟨g,off,H,rfl,hB,h5,h6⟩:=h4 _ rfl
   have a3:n-l=0:=by omega
   refine ⟨by rw [List.length_drop,D,← Nat.sub_mul],_,c-l,rfl,by omega,by omega,fun h=>(by cases h),fun N j=>?_⟩
   injection j with j
   subst j
   refine ⟨g,off,H,rfl,hB,by rw [Nat.sub_mul];omega,?_⟩
   have:n*k≤l*k:=Nat.mul_le_mul_right k (by omega)
   rw [a3,Nat.zero_mul,List.take_zero,List.drop_of_length_le (by omega)]
  have a1:∀ u,(Instr.slice t (.slice (some N) n c) (some (.int .i64 (l:Int))) none none).run Tryz.prog u=.ok (.slice (some (N.add (l*k))) (n-l) (c-l)) u:=by
   intro u
   rw [U,J.elem]
   simp [sizeOf,typeInfo,hi,I,sliced,e]
  refine ⟨_,a1,by simp [Value.ownBlock,block_add],fun w O h=>?_⟩
  obtain ⟨D,A,c',e',_,_,_,h4⟩:=h
  injection e' with e1 e2 e3
  subst e1 e3
  obtain ⟨g,off,H,rfl,hB,h5,h6⟩:=h4 _ rfl
  refine ⟨by rw [List.length_drop,D,← Nat.sub_mul],_,c-l,rfl,by omega,by omega,fun h=>(by cases h),fun N j=>?_⟩
  injection j with j
  subst j
  have hlc:l*k≤c*k:=Nat.mul_le_mul_right k (by omega)
  refine ⟨g,off+l*k,H,by rw [Addr.add_mid],hB,by rw [Nat.sub_mul];omega,?_⟩
  rw [← h6,List.drop_take,List.drop_drop,← Nat.sub_mul]
theorem yU {t T:TypeId} {k bytes:Nat} (H:SlT t T k bytes) (v:Value) (n l:Nat) (hl:l≤n) (cs:List Value) (w0:World) (h:Sl w0 T k v n cs) :
  ∃ v',(∀ u,(Instr.slice t v none (some (.int .i64 (l:Int))) none).run Tryz.prog u=.ok v' u)∧v'.ownBlock=v.ownBlock∧∀ w O,Sl w T k v n O→Sl w T k v' l (O.take (l*k)):=by
 obtain ⟨z,hz,hz2,_⟩:=H.info
 obtain ⟨i0,hi,hz0,D,hzb⟩:=info_parts hz
 obtain ⟨j,A,c,rfl,hc1,hc2,hc3,_⟩:=h
 have hr:=fun u=>run_slice_h (P:=Tryz.prog) (w:=u) t A n c (by rw [H.elem];exact H.und) .i64 (l:Int) (by omega) (by omega)
 refine ⟨.slice A l c,fun u=>?_,by cases A <;> rfl,fun w O h=>?_⟩
 ·rw [hr,H.elem]
  cases A with
  | none=>simp [sizeOf,typeInfo,hi,D,sliced]
  | some U=>simp [sizeOf,typeInfo,hi,D,sliced,Addr.add]
 obtain ⟨j,A',c',e',h1,h2,h3,h4⟩:=h
 injection e' with e1 e2 e3
 subst e1 e3
 have I:l*k≤n*k:=Nat.mul_le_mul_right k hl
 refine ⟨by rw [List.length_take,j];omega,_,c,rfl,by omega,h2,h3,fun U N=>?_⟩
 obtain ⟨g,off,J,rfl,hB,h5,h6⟩:=h4 U N
 refine ⟨g,off,J,rfl,hB,h5,?_⟩
 rw [← h6,List.take_take,Nat.min_eq_left I]
theorem Sl.setCells {w:World} {T:TypeId} {k n g off c:Nat} {cs:List Value} (h:Sl w T k (.slice (some ⟨g,off,none⟩) n c) n cs) (i:Nat) (j:List Value) (hi:i+j.length≤n*k) :
  Sl (w.setCells g (off+i) j) T k (.slice (some ⟨g,off,none⟩) n c) n (cs.take i++j++cs.drop (i+j.length))∧Keep (·=g) w (w.setCells g (off+i) j)∧(w.setCells g (off+i) j).heap.size=w.heap.size∧w.there g (off+i) j.length:=by
 obtain ⟨hl1,A,c',e',O,h2,h3,h4⟩:=h
 injection e' with e1 e2 I
 subst e1 I
 obtain ⟨g',off',D,e,N,h5,h6⟩:=h4 _ rfl
 injection e with e1 e2
 subst e1 e2
 have hnc:n*k≤c*k:=Nat.mul_le_mul_right k O
 obtain ⟨J,U,hs⟩:=Blk.setCells j (off+i) w D N (by omega)
 refine ⟨⟨by simp only [List.length_append,List.length_take,List.length_drop];omega,_,c,rfl,O,h2,h3,fun ad H=>?_⟩,U,hs,N.there _ _ (by omega)⟩
 injection H with H
 subst H
 refine ⟨g,off,_,rfl,J,by simp only [List.length_append,List.length_take,List.length_drop];omega,?_⟩
 subst h6
 apply List.ext_getElem?
 intro m
 have e0:(D.take (off+i)).length=off+i:=by rw [List.length_take];omega
 have I:(((D.drop off).take (n*k)).take i).length=i:=by simp only [List.length_take,List.length_drop];omega
 rw [List.getElem?_take,List.append_assoc,List.append_assoc,List.getElem?_append,I,List.getElem?_drop,List.getElem?_append,e0,List.getElem?_append,List.getElem?_append]
 by_cases cm:m<n*k
 ·rw [if_pos cm]
  by_cases c1:m<i
  ·rw [if_pos (by omega),if_pos c1]
   simp only [List.getElem?_take,List.getElem?_drop]
   rw [if_pos (by omega),if_pos (by omega),if_pos (by omega)]
  rw [if_neg (by omega),if_neg c1]
  by_cases c2:m-i<j.length
  ·rw [if_pos (by omega),if_pos c2]
   congr 1
   omega
  rw [if_neg (by omega),if_neg c2]
  simp only [List.getElem?_take,List.getElem?_drop]
  rw [if_pos (by omega)]
  congr 1
  omega
 rw [if_neg cm,if_neg (by omega),if_neg (by omega)]
 simp only [List.getElem?_take,List.getElem?_drop]
 rw [if_neg (by omega)]
theorem setCells_one (w:World) (g k:Nat) (u:Value):w.setCells g k [u]=w.setCell ⟨g,k,none⟩ u:=by simp [World.setCells]
theorem Sl.setCell {w:World} {T:TypeId} {k n g off c:Nat} {cs:List Value} (h:Sl w T k (.slice (some ⟨g,off,none⟩) n c) n cs) (i:Nat) (u:Value) (hi:i<n*k) :
  Sl (w.setCell ⟨g,off+i,none⟩ u) T k (.slice (some ⟨g,off,none⟩) n c) n (cs.set i u)∧Keep (·=g) w (w.setCell ⟨g,off+i,none⟩ u)∧(w.setCell ⟨g,off+i,none⟩ u).heap.size=w.heap.size∧w.there g (off+i) 1:=by
 have hl:=h.len
 have:=h.setCells i [u] (by simp;omega)
 rw [setCells_one] at this
 refine ⟨?_,this.2.1,this.2.2.1,this.2.2.2⟩
 have e:cs.take i++[u]++cs.drop (i+[u].length)=cs.set i u:=by
  rw [List.set_eq_take_append_cons_drop,if_pos (by omega)]
  simp
 rw [← e]
 exact this.1
structure Ent where
 o:Ord
 n:Int
deriving DecidableEq
def Ent.l (e:Ent):List Int:=[e.o.tr,e.o.id,e.o.firm,e.o.side,e.o.k,e.o.price,e.o.qty,e.o.shw,e.o.stop,e.n]
def Ent.cells (e:Ent):List Value:=stc e.l []
def Ent.v (e:Ent):Value:=.agg e.cells.toArray
theorem Ent.len10 (e:Ent):e.cells.length=10:=by unfold Ent.cells;rw [stc_len];rfl
theorem Ord.len9 (o:Ord):o.cells.length=9:=o.cells_len trivial
theorem Ent.one (e:Ent):∀ u ∈ e.cells,u.oneCell'=true:=stc_one _ _
theorem Ord.one1 (c:Ord):∀ u ∈ c.cells,u.oneCell'=true:=stc_one _ _
def ents (X:List Ent):List Value:=X.flatMap Ent.cells
def ords (X:List Ord):List Value:=X.flatMap Ord.cells
theorem ents_len (X:List Ent):(ents X).length=X.length*10:=flat_len _ 10 Ent.len10 X
theorem ords_len (X:List Ord):(ords X).length=X.length*9:=flat_len _ 9 Ord.len9 X
theorem JJj (X:List Ent):∀ u ∈ ents X,u.oneCell'=true:=by
 intro u j
 obtain ⟨x,_,h⟩:=List.mem_flatMap.1 j
 exact x.one u h
theorem qx (X:List Ord):∀ u ∈ ords X,u.oneCell'=true:=by
 intro u j
 obtain ⟨x,_,h⟩:=List.mem_flatMap.1 j
 exact x.one1 u h
theorem ents_snoc (X:List Ent) (e:Ent):ents (X++[e])=ents X++e.cells:=by simp [ents]
theorem JJz (X:List Ord) (e:Ord):ords (X++[e])=ords X++e.cells:=by simp [ords]
def XY:Ent:=⟨⟨0,0,0,0,0,0,0,0,0⟩,0⟩
def JV:Ord:=⟨0,0,0,0,0,0,0,0,0⟩
theorem slE:SlT 121 120 10 80:=⟨Tryz.underlying121,by kernel_rfl,⟨XY.v,by kernel_rfl,rfl,by intro u j;exact XY.one u (by simpa [Ent.v,Value.cells] using j)⟩,by omega⟩
theorem slR:SlT 98 102 10 80:=⟨Tryz.underlying98,by kernel_rfl,⟨XY.v,by kernel_rfl,rfl,by intro u j;exact XY.one u (by simpa [Ent.v,Value.cells] using j)⟩,by omega⟩
theorem slH:SlT 86 85 10 80:=⟨Tryz.underlying86,by kernel_rfl,⟨XY.v,by kernel_rfl,rfl,by intro u j;exact XY.one u (by simpa [Ent.v,Value.cells] using j)⟩,by omega⟩
theorem slO:SlT 43 35 9 72:=⟨Tryz.underlying43,by kernel_rfl,⟨JV.v,by kernel_rfl,rfl,by intro u j;exact JV.one1 u (by simpa [Ord.v,Value.cells] using j)⟩,by omega⟩
theorem zE:(Tryz.prog.info? 120).map (·.zero)=some (some (.agg XY.cells.toArray)):=by kernel_rfl
theorem zR:(Tryz.prog.info? 102).map (·.zero)=some (some (.agg XY.cells.toArray)):=by kernel_rfl
theorem zH:(Tryz.prog.info? 85).map (·.zero)=some (some (.agg XY.cells.toArray)):=by kernel_rfl
theorem zO:(Tryz.prog.info? 35).map (·.zero)=some (some (.agg JV.cells.toArray)):=by kernel_rfl
theorem szE:(Tryz.prog.info? 120).map (·.size)=some 10:=by kernel_rfl
theorem szR:(Tryz.prog.info? 102).map (·.size)=some 10:=by kernel_rfl
theorem szH:(Tryz.prog.info? 85).map (·.size)=some 10:=by kernel_rfl
def Kn.fresh (base:Nat) (T:TypeId) (z:List Value):Kn:=⟨fun v w=>∃ g,v=.pointer (some ⟨g,0,none⟩)∧base≤g∧Blk w g T z,fun _ _ _ ⟨g,h1,h2,h3⟩ hk=>⟨g,h1,h2,h3.kept hk⟩⟩
def Kn.sl (base:Nat) (T:TypeId) (k n:Nat) (cs:List Value):Kn:=⟨fun v w=>Sl w T k v n cs∧∀ b,v.ownBlock=some b→base≤b,fun _ _ _ h hk=>⟨h.1.kept hk,h.2⟩⟩
theorem fold_setS (l:List Value):∀ (k:Nat) (D j:List Value),D.length=k→j.length=l.length →
  (l.zipIdx k).foldl (fun (cs:Array Value) (x:Value × Nat)=>cs.setIfInBounds x.2 x.1) (D++j).toArray=(D++l).toArray:=by
 induction l with
 | nil=>
  intro k D j I H
  have:j=[]:=List.eq_nil_of_length_eq_zero (by simpa using H)
  subst this
  rfl
 | cons v l ih=>
  intro k D j I H
  cases j with
  | nil=>simp at H
  | cons s j=>
   rw [List.zipIdx_cons,List.foldl_cons]
   have e:(D++s::j).toArray.setIfInBounds k v=((D++[v])++j).toArray:=by
    simp [List.set_append_right _ _ (show D.length≤k by omega),I]
   show List.foldl _ ((D++s::j).toArray.setIfInBounds k v) _=_
   rw [e,ih (k+1) (D++[v]) j (by simp [I]) (by simpa using H)]
   simp
section
variable {a:Act} {o:Oper} {u:World}
theorem ZU (x:Operand) (D:Addr) (j:o.op=.nilCheck x) (hx:a.eval x=.pointer (some D)):(execOp a.eval o).run Tryz.prog u=.ok (.value (.pointer (some D))) u:=by
 unfold execOp
 simp only [j,hx]
 simp [go_sem]
theorem Jz (t:TypeId) (i O:Nat) (x:Operand) (g off D:Nat) (I:o.op=.fieldAddr t x i) (hx:a.eval x=.pointer (some ⟨g,off,none⟩)) (j:fldB Tryz.prog t i O=true) (he:off+O=D) :
  (execOp a.eval o).run Tryz.prog u=.ok (.value (.pointer (some ⟨g,D,none⟩))) u:=by
 subst he
 unfold fldB at j
 cases J:Tryz.prog.underlying t with
 | none=>rw [J] at j;cases j
 | some d=>
  rw [J] at j
  cases d <;> try (cases j;done)
  rename_i fs
  simp only at j
  cases H:fs[i]? with
  | none=>rw [H] at j;cases j
  | some f=>
   rw [H] at j
   simp only at j
   cases N:Tryz.prog.info? f.type with
   | none=>rw [N] at j;simp at j
   | some inf=>
    rw [N] at j
    simp only [Bool.and_eq_true,beq_iff_eq,bne_iff_ne] at j
    obtain ⟨h1,U⟩:=j
    unfold execOp
    simp only [I,hx]
    simp [Instr.fieldAt,run_underlying J,H,Sem.run_bind,Instr.sureAddr,fieldPlace,sizeOf,typeInfo,N,U,h1,Addr.add_mid]
theorem exec_ixo {t T:TypeId} {k bytes:Nat} (N:SlT t T k bytes) (x y:Operand) (g off n c i j:Nat) (I:Int) (J:o.op=.indexAddr t x y) (hx:a.eval x=.slice (some ⟨g,off,none⟩) n c) (O:a.eval y=.int .i64 I) (hI:I=(i:Int)) (hi:i<n) (he:off+i*k=j) :
  (execOp a.eval o).run Tryz.prog u=.ok (.value (.pointer (some ⟨g,j,none⟩))) u:=by
 subst he hI
 obtain ⟨z,U,_,_⟩:=N.info
 obtain ⟨i0,H,_,D,_⟩:=info_parts U
 have hin:(0:Int)≤(i:Int)∧(i:Int)<(n:Int):=by omega
 unfold execOp
 simp only [J,hx,O]
 simp [Instr.indexAt,asIntOf,run_underlying N.und,Sem.run_bind,sizeOf,typeInfo,H,D,Addr.add_mid,hi,Instr.sureAddr]
theorem Qx (t e:TypeId) (I:Tryz.prog.underlying t=some (.slice e)) (x:Operand) (D:Addr) (v:Value) (j:o.op=.load t x) (hx:a.eval x=.pointer (some D)) (H:u.cell? D=some v) :
  (execOp a.eval o).run Tryz.prog u=.ok (.value v) u:=by
 unfold execOp
 simp only [j,hx,Instr.loadAt,Instr.sureAddr,Sem.run_bind,Sem.run_pure,Result.andThen_ok]
 simp [loadVar,isAgg,run_underlying I,Sem.run_bind,H,go_sem]
theorem xW (j:TypeId) (I:Array Field) (x:Operand) (b of:Nat) (cs:List Value) (D:o.op=.load j x) (hx:a.eval x=.pointer (some ⟨b,of,none⟩)) (H:u.rangeAt b of cs)
  (J:Tryz.prog.underlying j=some (.struct I)) (N:(Tryz.prog.info? j).map (·.size)=some cs.length):(execOp a.eval o).run Tryz.prog u=.ok (.value (.agg cs.toArray)) u:=by
 unfold execOp
 simp only [D,hx,Instr.loadAt,Instr.sureAddr,Sem.run_bind,Sem.run_pure,Result.andThen_ok,run_loadVar_mid u b of j cs _ H J rfl N]
theorem Jx (x:Operand) {t T:TypeId} {k bytes:Nat} (H:SlT t T k bytes) (v:Value) (n:Nat) (cs:List Value) (w:World) (j:o.op=.call { callee:=.builtin .len,args:=#[x],argTypes:=#[t] }) (hx:a.eval x=v) (D:Sl w T k v n cs):(execOp a.eval o).run Tryz.prog u=.ok (.value (.int .i64 (n:Int))) u:=by
 obtain ⟨_,A,c,rfl,_⟩:=D
 exact ZV x t T H.und A n c j hx
theorem QV {t T:TypeId} {k bytes:Nat} (ht:SlT t T k bytes) (s x:Operand) (v y:Value) (j:o.op=Op.call { callee:=Callee.builtin Builtin.append,args:=#[s,x],argTypes:=#[t,t] }) (H:a.eval s=v) (hx:a.eval x=y) (v':Value) (D:World)
  (h:(Builtin.append_ #[t,t] o.type #[v,y]).run Tryz.prog u=.ok v' D):(execOp a.eval o).run Tryz.prog u=.ok (.value v') D:=by
 unfold execOp
 simp only [j,resolve,invoke,builtin,Sem.run_bind,Sem.run_pure,Result.andThen_ok,List.map_toArray,List.map_cons,List.map_nil,H,hx,h]
theorem exec_slcS {t T:TypeId} {k bytes:Nat} (I:SlT t T k bytes) (x:Operand) (H J mx:Option Operand) (v D:Value) (j:o.op=.slice t x H J mx) (hx:a.eval x=v) (h:(Instr.slice t v (H.map a.eval) (J.map a.eval) (mx.map a.eval)).run Tryz.prog u=.ok D u):(execOp a.eval o).run Tryz.prog u=.ok (.value D) u:=by
 unfold execOp
 simp only [j,hx,Sem.run_bind]
 have N:Tryz.prog.underlying t=some (.slice (Tryz.prog.elem t)):=by rw [I.elem];exact I.und
 rw [run_sliceAt_slice (h:=N),h]
 rfl
theorem QX (t:TypeId) (z:List Value) (j:o.op=.alloc t) (I:(Tryz.prog.info? t).map (·.zero)=some (some (.agg z.toArray))):(execOp a.eval o).run Tryz.prog u=.ok (.value (.pointer (some ⟨u.heap.size,0,none⟩))) (u.alloc (.cells z.toArray t)):=by
 cases D:Tryz.prog.info? t with
 | none=>simp [D] at I
 | some i=>
  have H:i.zero=some (.agg z.toArray):=by simpa [D] using I
  unfold execOp
  simp only [j]
  simp [Instr.alloc,zeroValue,typeInfo,D,H,newVar,Value.cells,go_sem]
theorem VJ {t T:TypeId} {k bytes:Nat} (J:SlT t T k bytes) (x:Operand) (cs:List Value) (hk1:k≤1000) (I:o.op=.buildSlice t 1 #[(0,x)]) (hx:a.eval x=.agg cs.toArray) (U:cs.length=k) :
  (execOp a.eval o).run Tryz.prog u=.ok (.value (.slice (some ⟨u.heap.size,0,none⟩) 1 1)) (u.alloc (.cells cs.toArray T)):=by
 obtain ⟨z,hz,hz2,_⟩:=J.info
 obtain ⟨i0,N,H,D,_⟩:=info_parts hz
 have hp:=J.pos
 have O:=fold_setS cs 0 [] (List.map (fun j=>z.cells[j % z.cells.size]!) (List.range k)) rfl (by simp [U])
 unfold execOp
 simp only [I,List.map_toArray,List.map_cons,List.map_nil,hx]
 have hn:¬ k=0:=by omega
 have hc:(Value.agg cs.toArray).cells=cs.toArray:=rfl
 have hb:¬ 16777216<k:=by omega
 simp [Instr.buildSlice,run_underlying J.und,sizeOf,typeInfo,N,H,D,zeroValue,Instr.fill,newRow,hc,U,hn,hb]
 have e:Array.map (fun x=>z.cells[x % z.cells.size]!) (Array.range k)=(List.map (fun j=>z.cells[j % z.cells.size]!) (List.range k)).toArray:=by
  apply Array.toList_inj.1
  simp
 rw [e]
 simp only [List.nil_append] at O
 rw [O]
end
section
variable {ops:Array Oper} {Q:Exit→Act→World→Prop} {V Ks:List Kn} {n i:Nat} {a0 a:Act} {w0 u:World} {v:Value}
theorem eE (h:FEnv ops n a0 a) {t:Nat} {v:Value} (j:((List.range n).all fun i=>QY ops i != some t)=true:=by kernel_rfl) (h2:a0.eval (.tmp t)=v:=by kernel_rfl):a.eval (.tmp t)=v:=h t v j h2
theorem dD (h:FDep ops V i a u) (j:Nat) {d:Nat} (D:(((ops[i]?).map fun o=>o.after.any fun e=>Region.binds .any e && e.on == j) == some true && QY ops j == some d)=true:=by kernel_rfl):(UY V j).p (a.eval (.tmp d)) u:=h j d D
def GOk (ops:Array Oper) (V:List Kn) (i:Nat) (o:Oper):Prop:=o.guard=none∨∃ g b d,o.guard=some (g,b)∧QY ops g=some d∧V[g]?=some (.eq (.bool b))∧(((ops[i]?).map fun o=>o.after.any fun e=>Region.binds .any e && e.on == g) == some true && QY ops g == some d)=true
theorem GOk.want {o:Oper} (h:GOk ops V i o) (I:FDep ops V i a u):Region.wanted o (yielded ops a.tmps)=true:=by
 rcases h with h | ⟨g,b,d,N,D,J,O⟩
 ·exact JQ h _
 have j:=I g d O
 have H:UY V g=.eq (.bool b):=by simp [UY,List.getD,J]
 rw [H] at j
 rw [zY b N D j]
 cases b <;> rfl
theorem sW (j:Nat) {o:Oper} (H:ops[i]?=some o) (h:∀ a u,FEnv ops n a0 a→FDep ops V i a u→Kept w0 u→(execOp a.eval o).run Tryz.prog u=.ok (.value v) u) (J:FSteps Tryz.prog ops Q V n a0 w0 j Ks)
  (N:j=i+1:=by rfl) (hg:GOk ops V i o:=by first | exact Or.inl rfl | exact Or.inr ⟨_,_,_,rfl,rfl,rfl,by kernel_rfl⟩):FSteps Tryz.prog ops Q V n a0 w0 i (Kn.eq v::Ks):=
 UU j N (fun a u I D hk=>Xq v H (hg.want D) (h a u I D hk) rfl) J
theorem mE (j t:Nat) (J:FSteps Tryz.prog ops Q V n a0 w0 j Ks) {o:Oper} (I:ops[i]?=some o:=by rfl) (D:o.op=.move (.tmp t)∨o.op=.assign (.tmp t):=by first | exact Or.inl rfl | exact Or.inr rfl)
  (hj:j=i+1:=by rfl) (hg:GOk ops V i o:=by first | exact Or.inl rfl | exact Or.inr ⟨_,_,_,rfl,rfl,rfl,by kernel_rfl⟩) (h1:((List.range n).all fun i=>QY ops i != some t)=true:=by kernel_rfl) (h2:a0.eval (.tmp t)=v:=by kernel_rfl):FSteps Tryz.prog ops Q V n a0 w0 i (Kn.eq v::Ks):=
 sW j I (fun a u H hD hk=>D.elim (fun D=>Jq (.tmp t) v D (H t v h1 h2)) (fun D=>Yj (.tmp t) v D (H t v h1 h2))) J hj hg
theorem kn_eq {m:Nat} (h:V[m]?=some (.eq v)):UY V m=.eq v:=by simp [UY,List.getD,h]
theorem nD {D:Addr} (j t m:Nat) (J:FSteps Tryz.prog ops Q V n a0 w0 j Ks) {o:Oper} (H:ops[i]?=some o:=by rfl) (hp:o.op=.nilCheck (.tmp t):=by rfl)
  (hj:j=i+1:=by rfl) (hg:GOk ops V i o:=by first | exact Or.inl rfl | exact Or.inr ⟨_,_,_,rfl,rfl,rfl,by kernel_rfl⟩) (hV:V[m]?=some (.eq (.pointer (some D))):=by kernel_rfl) (hd:(((ops[i]?).map fun o=>o.after.any fun e=>Region.binds .any e && e.on == m) == some true && QY ops m == some t)=true:=by kernel_rfl):FSteps Tryz.prog ops Q V n a0 w0 i (Kn.eq (.pointer (some D))::Ks):=
 sW j H (fun a u hE I hk=>by
  have h:=I m t hd
  rw [kn_eq hV] at h
  exact ZU (.tmp t) D hp h) J hj hg
theorem fD {g D:Nat} (j t m T F H off:Nat) (N:FSteps Tryz.prog ops Q V n a0 w0 j Ks) {o:Oper} (I:ops[i]?=some o:=by rfl) (hp:o.op=.fieldAddr T (.tmp t) F:=by rfl)
  (hj:j=i+1:=by rfl) (hg:GOk ops V i o:=by first | exact Or.inl rfl | exact Or.inr ⟨_,_,_,rfl,rfl,rfl,by kernel_rfl⟩) (hV:V[m]?=some (.eq (.pointer (some ⟨g,off,none⟩))):=by kernel_rfl) (hd:(((ops[i]?).map fun o=>o.after.any fun e=>Region.binds .any e && e.on == m) == some true && QY ops m == some t)=true:=by kernel_rfl) (hB:fldB Tryz.prog T F H=true:=by kernel_rfl) (he:off+H=D:=by rfl):FSteps Tryz.prog ops Q V n a0 w0 i (Kn.eq (.pointer (some ⟨g,D,none⟩))::Ks):=
 sW j I (fun a u hE J hk=>by
  have h:=J m t hd
  rw [kn_eq hV] at h
  exact Jz T F H (.tmp t) g off D hp h hB he) N hj hg
theorem fE {g D:Nat} (j t T F H off:Nat) (N:FSteps Tryz.prog ops Q V n a0 w0 j Ks) {o:Oper} (I:ops[i]?=some o:=by rfl) (hp:o.op=.fieldAddr T (.tmp t) F:=by rfl)
  (hj:j=i+1:=by rfl) (hg:GOk ops V i o:=by first | exact Or.inl rfl | exact Or.inr ⟨_,_,_,rfl,rfl,rfl,by kernel_rfl⟩) (h1:((List.range n).all fun i=>QY ops i != some t)=true:=by kernel_rfl) (h2:a0.eval (.tmp t)=.pointer (some ⟨g,off,none⟩):=by kernel_rfl) (hB:fldB Tryz.prog T F H=true:=by kernel_rfl) (he:off+H=D:=by rfl):FSteps Tryz.prog ops Q V n a0 w0 i (Kn.eq (.pointer (some ⟨g,D,none⟩))::Ks):=
 sW j I (fun a u J hD hk=>Jz T F H (.tmp t) g off D hp (J t _ h1 h2) hB he) N hj hg
theorem uC {b:Bool} (j m:Nat) {o:Oper} (H:ops[i]?=some o) (hx:∀ a u,FEnv ops n a0 a→FDep ops V i a u→Kept w0 u→(!b)=true→(execOp a.eval o).run Tryz.prog u=.ok (.value v) u) (hr:FSteps Tryz.prog ops Q V n a0 w0 j Ks)
  (hj:j=i+1:=by rfl) (hg:∃ d,o.guard=some (m,false)∧QY ops m=some d∧V[m]?=some (.eq (.bool b))∧(((ops[i]?).map fun o=>o.after.any fun e=>Region.binds .any e && e.on == m) == some true && QY ops m == some d)=true:=by exact ⟨_,rfl,rfl,rfl,by kernel_rfl⟩):FSteps Tryz.prog ops Q V n a0 w0 i (Kn.cond (!b) (Kn.eq v)::Ks):=
 UU j hj (fun a u hE I hk=>by
  obtain ⟨d,J,N,h3,U⟩:=hg
  have D:=I m d U
  rw [kn_eq h3] at D
  exact JJX b J H N D (fun O=>Xq v H (VY J N D (jq O)) (hx a u hE I hk O) rfl)) hr
theorem iC {b:Bool} (j m:Nat) {o:Oper} (H:ops[i]?=some o) (hx:∀ a u,FEnv ops n a0 a→FDep ops V i a u→Kept w0 u→b=true→(execOp a.eval o).run Tryz.prog u=.ok (.value v) u) (hr:FSteps Tryz.prog ops Q V n a0 w0 j Ks)
  (hj:j=i+1:=by rfl) (hg:∃ d,o.guard=some (m,true)∧QY ops m=some d∧V[m]?=some (.eq (.bool b))∧(((ops[i]?).map fun o=>o.after.any fun e=>Region.binds .any e && e.on == m) == some true && QY ops m == some d)=true:=by exact ⟨_,rfl,rfl,rfl,by kernel_rfl⟩):FSteps Tryz.prog ops Q V n a0 w0 i (Kn.cond b (Kn.eq v)::Ks):=
 UU j hj (fun a u hE I hk=>by
  obtain ⟨d,J,N,h3,U⟩:=hg
  have D:=I m d U
  rw [kn_eq h3] at D
  exact f_if b J H N D (fun O=>Xq v H (VY J N D (VU O)) (hx a u hE I hk O) rfl)) hr
theorem ll {x:Operand} {xs:List Operand} {v:Value} {j:List Value} (h:a.eval x=v) (t:xs.map a.eval=j):(x::xs).map a.eval=v::j:=by simp [h,t]
theorem cS {K:Kn} {D:Func} {xs:List Operand} {N:Array TypeId} (j f:Nat) (args:List Value) {o:Oper} (O:ops[i]?=some o) (U:Tryz.prog.funcs[f]?=some D) (I:o.op=.call { callee:=.value (.func f),args:=xs.toArray,argTypes:=N })
  (hx:∀ a u,FEnv ops n a0 a→FDep ops V i a u→Kept w0 u→xs.map a.eval=args∧Calls Tryz.prog f args.toArray u fun e w'=>∃ v,e=.returned v∧K.p v w'∧Kept u w') (hr:FSteps Tryz.prog ops Q V n a0 w0 j Ks)
  (hj : j = i + 1 := by rfl) (hg : GOk ops V i o := by first | exact Or.inl rfl | exact Or.inr ⟨_, _, _, rfl, rfl, rfl, by kernel_rfl⟩) (hn : (D.name == "runtime.NumGoroutine") = false := by kernel_rfl) (hb : D.body.isNone = false := by kernel_rfl) : FSteps Tryz.prog ops Q V n a0 w0 i (K :: Ks) :=
 UU j hj (fun a u J H hk=>Zj f args.toArray O (hg.want H) (Jy f D xs N args U hn hb I (hx a u J H hk).1 u) (hx a u J H hk).2) hr
theorem nW {K:Kn} (j:Nat) {o:Oper} (I:ops[i]?=some o) (hx:∀ a u,FEnv ops n a0 a→FDep ops V i a u→Kept w0 u→∃ v w',(execOp a.eval o).run Tryz.prog u=.ok (.value v) w'∧K.p v w'∧Kept u w') (U:FSteps Tryz.prog ops Q V n a0 w0 j Ks)
  (hj:j=i+1:=by rfl) (hg:GOk ops V i o:=by first | exact Or.inl rfl | exact Or.inr ⟨_,_,_,rfl,rfl,rfl,by kernel_rfl⟩):FSteps Tryz.prog ops Q V n a0 w0 i (K::Ks):=
 UU j hj (fun a u N D hk=>by
  obtain ⟨v,w',O,H,J⟩:=hx a u N D hk
  exact jV v w' I (hg.want D) O H J) U
theorem lD {T:TypeId} {D:Addr} (j t m:Nat) (N:Tryz.prog.underlying T=some (.int .i64)) (H:∀ u,Kept w0 u→u.cell? D=some v) (O:FSteps Tryz.prog ops Q V n a0 w0 j Ks) {o:Oper} (I:ops[i]?=some o:=by rfl) (hp:o.op=.load T (.tmp t):=by rfl)
  (hj:j=i+1:=by rfl) (hg:GOk ops V i o:=by first | exact Or.inl rfl | exact Or.inr ⟨_,_,_,rfl,rfl,rfl,by kernel_rfl⟩) (hV:V[m]?=some (.eq (.pointer (some D))):=by kernel_rfl) (hd:(((ops[i]?).map fun o=>o.after.any fun e=>Region.binds .any e && e.on == m) == some true && QY ops m == some t)=true:=by kernel_rfl):FSteps Tryz.prog ops Q V n a0 w0 i (Kn.eq v::Ks):=
 sW j I (fun a u hE J hk=>by
  have h:=J m t hd
  rw [kn_eq hV] at h
  exact JZ T N (.tmp t) D v hp h (H u hk)) O hj hg
theorem sD {T:TypeId} {D:Array Field} {g off:Nat} (j t m:Nat) (cs:List Value) (O:Tryz.prog.underlying T=some (.struct D)) (J:∀ u,Kept w0 u→u.rangeAt g off cs) (U:(Tryz.prog.info? T).map (·.size)=some cs.length) (N:FSteps Tryz.prog ops Q V n a0 w0 j Ks) {o:Oper} (H:ops[i]?=some o:=by rfl) (hp:o.op=.load T (.tmp t):=by rfl)
  (hj:j=i+1:=by rfl) (hg:GOk ops V i o:=by first | exact Or.inl rfl | exact Or.inr ⟨_,_,_,rfl,rfl,rfl,by kernel_rfl⟩) (hV:V[m]?=some (.eq (.pointer (some ⟨g,off,none⟩))):=by kernel_rfl) (hd:(((ops[i]?).map fun o=>o.after.any fun e=>Region.binds .any e && e.on == m) == some true && QY ops m == some t)=true:=by kernel_rfl) (hv:v=.agg cs.toArray:=by rfl):FSteps Tryz.prog ops Q V n a0 w0 i (Kn.eq v::Ks):=
 sW j H (fun a u hE I hk=>by
  have h:=I m t hd
  rw [kn_eq hV] at h
  subst hv
  exact xW T D (.tmp t) g off cs hp h (J u hk) O U) N hj hg
theorem sE {T:TypeId} {D:Array Field} (j t g off:Nat) (cs:List Value) (O:Tryz.prog.underlying T=some (.struct D)) (J:∀ u,Kept w0 u→u.rangeAt g off cs) (U:(Tryz.prog.info? T).map (·.size)=some cs.length) (N:FSteps Tryz.prog ops Q V n a0 w0 j Ks) {o:Oper} (H:ops[i]?=some o:=by rfl) (hp:o.op=.load T (.tmp t):=by rfl)
  (hj:j=i+1:=by rfl) (hg:GOk ops V i o:=by first | exact Or.inl rfl | exact Or.inr ⟨_,_,_,rfl,rfl,rfl,by kernel_rfl⟩) (h1:((List.range n).all fun i=>QY ops i != some t)=true:=by kernel_rfl) (h2:a0.eval (.tmp t)=.pointer (some ⟨g,off,none⟩):=by kernel_rfl) (hv:v=.agg cs.toArray:=by rfl):FSteps Tryz.prog ops Q V n a0 w0 i (Kn.eq v::Ks):=
 sW j H (fun a u I hD hk=>by
  subst hv
  exact xW T D (.tmp t) g off cs hp (I t _ h1 h2) (J u hk) O U) N hj hg
theorem gQ {g:Nat→Value} (h:FVals ops V g u) (i d:Nat) (c:Value) (D:(decide (i<V.length) && QY ops i == some d)=true:=by kernel_rfl) (h2:UY V i=.eq c:=by kernel_rfl):g d=c:=by
 have j:=h i d D
 rw [h2] at j
 exact j
end
theorem Fz7:(∀ {α β:Type} {f:β→α→β} {a:α} {l:List α} {b:β},(a::l).foldl f b=l.foldl f (f b a))∧(∀ {α β:Type} {f:β→α→β} {b:β},([]:List α).foldl f b=b)∧(∀ {α:Type} (l:List α) (i:Nat) (a:α),l.toArray.setIfInBounds i a=(l.set i a).toArray)∧(∀ {α:Type} {a:α} {l:List α} {n:Nat} {b:α},(a::l).set (n+1) b=a::l.set n b)∧(∀ {α:Type} {a:α} {l:List α} {b:α},(a::l).set 0 b=b::l)∧(∀ {α:Type} {a:α} {l:List α} {n:Nat},(a::l).drop (n+1)=l.drop n)∧∀ {α:Type} {l:List α},l.drop 0=l:=
 ⟨rfl,rfl,fun l i a=>by simp only [List.setIfInBounds_toArray],rfl,rfl,rfl,rfl⟩
theorem wT {id:Nat} {Q:Exit→Act→World→Prop} {a:Act} {w:World} {l:List Oper} (n:Nat) (V:List Kn) (j:List Nat) (D:FSteps Tryz.prog l.toArray Q V n a w 0 V)
  (I:∀ (g:Nat→Value) w',FVals l.toArray V g w'→Kept w w'→Q .normal ⟨j.foldl (fun t d=>t.setIfInBounds d (g d)) a.tmps,a.defers⟩ w') (H:V.length=n:=by rfl) (hB:textB l.toArray n a.tmps.size=true:=by kernel_rfl) (hd:Wy l.toArray n=j:=by kernel_rfl) (hl:l.length=n:=by rfl):(Code.region id l.toArray false).wp Tryz.prog Q a w:=
 wp_text n V H hB D (fun g w' N J=>by
  rw [hd,List.drop_of_length_le (by omega)]
  exact wpList_nil (I g w' N J))
theorem wF {id:Nat} {Q:Exit→Act→World→Prop} {a:Act} {w:World} {l:List Oper} (n:Nat) (V:List Kn) (j:List Nat) (D:FSteps Tryz.prog l.toArray Q V n a w 0 V)
  (J:∀ (g:Nat→Value) w',FVals l.toArray V g w'→Kept w w'→Q .normal ⟨j.foldl (fun t d=>t.setIfInBounds d (g d)) a.tmps,a.defers⟩ w') (I:Tryz.prog.follows Departure.mixedOrders=true:=by kernel_rfl) (hV:V.length=n:=by rfl) (hB:freeB l.toArray n a.tmps.size=true:=by kernel_rfl) (hd:Wy l.toArray n=j:=by kernel_rfl) (hl:l.length=n:=by rfl):(Code.region id l.toArray true).wp Tryz.prog Q a w:=
 wp_free n V I hV hB D (fun g w' N H=>by
  rw [hd,List.drop_of_length_le (by omega)]
  exact wpList_nil (J g w' N H))
theorem dq {ops:Array Oper} (n:Nat) (l:List Nat) (h:Wy ops n=l:=by kernel_rfl):Wy ops n=l:=h
theorem fz {ops:Array Oper} {Q:Exit→Act→World→Prop} {V:List Kn} {n i:Nat} {a0:Act} {w0:World}:FSteps Tryz.prog ops Q V n a0 w0 i []:=fsteps_nil
theorem Kj {p:Prop} (h:p):Hid p:=Lib.hid h
theorem Kx:type_of% @wpList_nil:=@wpList_nil
theorem Ky:type_of% @decide_eq_true:=@decide_eq_true
theorem Ku:type_of% @decide_eq_false:=@decide_eq_false
theorem Kv:type_of% @Nat.le_trans:=@Nat.le_trans
abbrev pE (g o:Nat):Kn:=.eq (.pointer (some ⟨g,o,none⟩))
abbrev iE (x:Int):Kn:=.eq (.int .i64 x)
abbrev bE (b:Bool):Kn:=.eq (.bool b)
def fr:List Nat→List Value→Array Value→Array Value
 | d::ds,v::vs,t=>fr ds vs (t.setIfInBounds d v)
 | _,_,t=>t
theorem fr_eq (g:Nat→Value):∀ (j:List Nat) (D:List Value) (t:Array Value),j.length=D.length→(∀ (i d:Nat) (v:Value),j[i]?=some d→D[i]?=some v→g d=v)→j.foldl (fun t d=>t.setIfInBounds d (g d)) t=fr j D t
 | [],[],t,_,_=>rfl
 | d::j,v::D,t,hl,h=>by
  have J:g d=v:=h 0 d v rfl rfl
  show j.foldl (fun t d=>t.setIfInBounds d (g d)) (t.setIfInBounds d (g d))=fr j D (t.setIfInBounds d v)
  rw [J]
  exact fr_eq g j D _ (by simpa using hl) (fun i N v' I H=>h (i+1) N v' (by simpa using I) (by simpa using H))
theorem fr_vals {ops:Array Oper} {n:Nat} {D:List Value} {j:List Nat} {g:Nat→Value} {u:World} (O:D.length=n) (H:(List.range n).map (QY ops)=j.map some) (h:FVals ops (D.map Kn.eq) g u) (t:Array Value):Wy ops n=j∧j.foldl (fun t d=>t.setIfInBounds d (g d)) t=fr j D t:=by
 have hl:j.length=n:=by have:=congrArg List.length H;simpa using this.symm
 refine ⟨?_,fr_eq g j D t (by omega) (fun i d v h1 J=>?_)⟩
 ·have h3:Wy ops n=((List.range n).map (QY ops)).filterMap id:=by
   simp only [Wy,List.filterMap_map,Function.id_comp]
  rw [h3,H]
  simp
 have N:i<n:=by have:=(List.getElem?_eq_some_iff.1 J).1;omega
 have h4:QY ops i=some d:=by
  have:=congrArg (fun l=>l[i]?) H
  simp only [List.getElem?_map,List.getElem?_range N,h1,Option.map_some] at this
  simpa using this
 have I:=h i d (by simp [h4,O,N])
 have U:UY (D.map Kn.eq) i=.eq v:=by simp [UY,List.getD,J]
 rw [U] at I
 exact I
theorem wEp {id:Nat} {Q:Exit→Act→World→Prop} {a:Act} {w:World} {l:List Oper} (n:Nat) (j:List Value) (I:List Nat) (J:FSteps Tryz.prog l.toArray Q (j.map Kn.eq) n a w 0 (j.map Kn.eq))
  (O:∀ w',Kept w w'→wpList Tryz.prog l.toArray Q (l.drop n) ⟨fr I j a.tmps,a.defers⟩ w') (D:j.length=n:=by rfl) (hB:textB l.toArray n a.tmps.size=true:=by kernel_rfl) (hd:(List.range n).map (QY l.toArray)=I.map some:=by kernel_rfl):(Code.region id l.toArray false).wp Tryz.prog Q a w:=
 wp_text n _ (by simpa using D) hB J (fun g w' U N=>by
  have H:=fr_vals D hd U a.tmps
  rw [H.1,H.2]
  exact O w' N)
theorem wE {id:Nat} {Q:Exit→Act→World→Prop} {a:Act} {w:World} {l:List Oper} (n:Nat) (j:List Value) (D:List Nat) (H:FSteps Tryz.prog l.toArray Q (j.map Kn.eq) n a w 0 (j.map Kn.eq))
  (J:∀ w',Kept w w'→Q .normal ⟨fr D j a.tmps,a.defers⟩ w') (I:j.length=n:=by rfl) (hB:textB l.toArray n a.tmps.size=true:=by kernel_rfl) (hd:(List.range n).map (QY l.toArray)=D.map some:=by kernel_rfl) (hl:l.length=n:=by rfl):(Code.region id l.toArray false).wp Tryz.prog Q a w:=
 wEp n j D H (fun w' h=>by
  rw [List.drop_of_length_le (by omega)]
  exact Kx (J w' h)) I hB hd
theorem wGp {id:Nat} {Q:Exit→Act→World→Prop} {a:Act} {w:World} {l:List Oper} (n:Nat) (j:List Value) (I:List Nat) (J:FSteps Tryz.prog l.toArray Q (j.map Kn.eq) n a w 0 (j.map Kn.eq))
  (O:∀ w',Kept w w'→wpList Tryz.prog l.toArray Q (l.drop n) ⟨fr I j a.tmps,a.defers⟩ w') (D:j.length=n:=by rfl) (hm:Tryz.prog.follows Departure.mixedOrders=true:=by kernel_rfl) (hB:freeB l.toArray n a.tmps.size=true:=by kernel_rfl) (hd:(List.range n).map (QY l.toArray)=I.map some:=by kernel_rfl):(Code.region id l.toArray true).wp Tryz.prog Q a w:=
 wp_free n _ hm (by simpa using D) hB J (fun g w' U N=>by
  have H:=fr_vals D hd U a.tmps
  rw [H.1,H.2]
  exact O w' N)
theorem wG {id:Nat} {Q:Exit→Act→World→Prop} {a:Act} {w:World} {l:List Oper} (n:Nat) (j:List Value) (D:List Nat) (H:FSteps Tryz.prog l.toArray Q (j.map Kn.eq) n a w 0 (j.map Kn.eq))
  (J:∀ w',Kept w w'→Q .normal ⟨fr D j a.tmps,a.defers⟩ w') (I:j.length=n:=by rfl) (hm:Tryz.prog.follows Departure.mixedOrders=true:=by kernel_rfl) (hB:freeB l.toArray n a.tmps.size=true:=by kernel_rfl) (hd:(List.range n).map (QY l.toArray)=D.map some:=by kernel_rfl) (hl:l.length=n:=by rfl):(Code.region id l.toArray true).wp Tryz.prog Q a w:=
 wGp n j D H (fun w' h=>by
  rw [List.drop_of_length_le (by omega)]
  exact Kx (J w' h)) I hm hB hd
inductive KV where
 | v (x:Value)
 | k (K:Kn)
def KV.kn:KV→Kn
 | .v x=>.eq x
 | .k K=>K
def KV.val:KV→Option Value
 | .v x=>some x
 | .k _=>none
section
variable {ops:Array Oper} {Q:Exit→Act→World→Prop} {V:List KV} {n i:Nat} {a0 a:Act} {w0 u:World} {v:Value}
abbrev kns (V:List KV):List Kn:=V.map KV.kn
theorem kns_at {m:Nat} {x:Value} (h:(V[m]?).bind KV.val=some x):UY (kns V) m=.eq x:=by
 unfold UY kns
 cases e:V[m]? with
 | none=>rw [e] at h;cases h
 | some y=>
  rw [e] at h
  cases y with
  | k K=>cases h
  | v z=>
   injection h with h
   subst h
   simp [List.getD,e,KV.kn]
def wait (ops:Array Oper) (i j:Nat):Bool:=((ops[i]?).map fun o=>o.after.any fun e=>Region.binds .any e && e.on == j) == some true
def look (ops:Array Oper) (V:List KV) (n:Nat) (a0:Act) (i:Nat):Operand→Option Value
 | .const c=>some c
 | .tmp t=>match (List.range n).find? fun m=>QY ops m == some t && wait ops i m with
  | some m=>(V[m]?).bind KV.val
  | none=>if ((List.range n).all fun m=>QY ops m != some t)=true then some (a0.eval (.tmp t)) else none
 | _=>none
theorem qQ {x:Operand} (h:look ops V n a0 i x=some v) (I:FEnv ops n a0 a) (H:FDep ops (kns V) i a u):a.eval x=v:=by
 cases x with
 | const c=>injection h
 | global g=>cases h
 | func f=>cases h
 | tmp t=>
  unfold look at h
  simp only at h
  split at h
  ·rename_i m hm
   have j:=List.find?_some hm
   rw [Bool.and_comm] at j
   have D:=H m t j
   rw [kns_at h] at D
   exact D
  split at h
  ·rename_i j
   injection h with h
   exact I t v j h
  cases h
def fldS (P:Program) (T i:Nat):Option Field:=match P.underlying T with
 | some (.struct fs)=>fs[i]?
 | _=>none
def fldO (P:Program) (T i:Nat):Option Nat:=(fldS P T i).bind fun f=>if fldB P T i f.offset=true then some f.offset else none
theorem fldO_ok {P:Program} {T j D:Nat} (h:fldO P T j=some D):fldB P T j D=true:=by
 unfold fldO at h
 cases e:fldS P T j with
 | none=>rw [e] at h;cases h
 | some f=>
  rw [e] at h
  simp only [Option.bind_some] at h
  split at h
  ·rename_i h2
   injection h with h
   rw [← h]
   exact h2
  cases h
def ptrOf:Option Value→Option (Nat × Nat)
 | some (.pointer (some ⟨g,off,none⟩))=>some (g,off)
 | _=>none
theorem ptrOf_ok {x:Option Value} {g off:Nat} (h:ptrOf x=some (g,off)):x=some (.pointer (some ⟨g,off,none⟩)):=by
 unfold ptrOf at h
 split at h
 ·injection h with h
  injection h with h1 h2
  subst h1 h2
  rfl
 cases h
def partOf (k:Nat):Option Value→Option Value
 | some (.tuple vs)=>vs.toList[k]?
 | _=>none
theorem partOf_ok {x:Option Value} {k:Nat} (h:partOf k x=some v):∃ j:List Value,x=some (.tuple j.toArray)∧j[k]?=some v:=by
 unfold partOf at h
 split at h
 ·rename_i j
  exact ⟨j.toList,by simp,h⟩
 cases h
def pickOf (x y:Option Value):Option Value→Option Value
 | some (.bool true)=>x
 | some (.bool false)=>y
 | _=>none
def autoOp (P:Program) (ops:Array Oper) (V:List KV) (n:Nat) (a0:Act) (i:Nat) (o:Oper):Option Value:=match o.op with
 | .move x=>look ops V n a0 i x
 | .assign x=>look ops V n a0 i x
 | .nilCheck x=>match ptrOf (look ops V n a0 i x) with | some (g,off)=>some (.pointer (some ⟨g,off,none⟩)) | none=>none
 | .fieldAddr T x F=>match ptrOf (look ops V n a0 i x),fldO P T F with | some (g,off),some fo=>some (.pointer (some ⟨g,off+fo,none⟩)) | _,_=>none
 | .extract x k=>partOf k (look ops V n a0 i x)
 | .pick c x y=>pickOf (look ops V n a0 i x) (look ops V n a0 i y) (look ops V n a0 i c)
 | _=>none
theorem autoOp_ok {o:Oper} (h:autoOp Tryz.prog ops V n a0 i o=some v) (D:FEnv ops n a0 a) (j:FDep ops (kns V) i a u):(execOp a.eval o).run Tryz.prog u=.ok (.value v) u:=by
 unfold autoOp at h
 split at h
 ·rename_i x hx
  exact Jq x v hx (qQ h D j)
 ·rename_i x hx
  exact Yj x v hx (qQ h D j)
 ·rename_i x hx
  split at h
  ·rename_i g off hp
   injection h with h
   subst h
   exact ZU x _ hx (qQ (ptrOf_ok hp) D j)
  cases h
 ·rename_i T x F hx
  split at h
  ·rename_i g off fo hp hf
   injection h with h
   subst h
   exact Jz T F fo x g off _ hx (qQ (ptrOf_ok hp) D j) (fldO_ok hf) rfl
  cases h
 ·rename_i x k hx
  obtain ⟨I,J,H⟩:=partOf_ok h
  exact UW x I k v hx (qQ J D j) H
 ·rename_i c x y hx
  unfold pickOf at h
  split at h
  ·rename_i hc
   exact JQZ c x y v hx (qQ hc D j) (qQ h D j)
  ·rename_i hc
   exact exec_pickF c x y v hx (qQ hc D j) (qQ h D j)
  cases h
 cases h
def qU (ops:Array Oper) (V:List KV) (i:Nat) (o:Oper):Option Bool:=match o.guard with
 | none=>some true
 | some (g,b)=>if (wait ops i g && (QY ops g).isSome)=true then match (V[g]?).bind KV.val with
  | some (.bool c)=>some (c == b)
  | some (.tuple vs)=>if vs.toList.isEmpty=true then some false else none
  | _=>none else none
theorem JQW {o:Oper} {c:Bool} (h:qU ops V i o=some c) (H:FDep ops (kns V) i a u):Region.wanted o (yielded ops a.tmps)=c:=by
 unfold qU at h
 split at h
 ·rename_i hg
  injection h with h
  rw [JQ hg,← h]
 rename_i g b hg
 split at h
 ·rename_i hw
  simp only [Bool.and_eq_true] at hw
  obtain ⟨d,D⟩:=Option.isSome_iff_exists.1 hw.2
  have j:=H g d (by simp only [Bool.and_eq_true];exact ⟨hw.1,by rw [D];simp⟩)
  split at h
  ·rename_i c' hv
   rw [kns_at hv] at j
   injection h with h
   rw [zY c' hg D j,← h]
  ·rename_i vs hv
   rw [kns_at hv] at j
   split at h
   ·rename_i he
    injection h with h
    have e:vs=#[]:=by
     have:=List.isEmpty_iff.1 he
     exact Array.toList_eq_nil_iff.1 this
    subst e
    rw [wanted_undef hg D j,← h]
   cases h
  cases h
 cases h
def autoV (P:Program) (ops:Array Oper) (V:List KV) (n:Nat) (a0:Act) (i:Nat):Option Value:=match ops[i]? with
 | none=>none
 | some o=>match qU ops V i o with
  | some true=>autoOp P ops V n a0 i o
  | some false=>some undef
  | none=>none
theorem autoV_ok (h:autoV Tryz.prog ops V n a0 i=some v):FStep Tryz.prog ops Q (kns V) n a0 w0 i (.eq v):=fun a u D j hk=>by
 unfold autoV at h
 split at h
 ·cases h
 rename_i o ho
 split at h
 ·rename_i hg
  exact Xq v ho (JQW hg j) (autoOp_ok h D j) rfl
 ·rename_i hg
  injection h with h
  subst h
  exact f_skip ho (JQW hg j) rfl
 cases h
def Need (ops:Array Oper) (Q:Exit→Act→World→Prop) (V:List KV) (n:Nat) (a0:Act) (w0:World) (ex:List Nat):Prop:=∀ m,m ∈ ex→FStep Tryz.prog ops Q (kns V) n a0 w0 m (UY (kns V) m)
theorem nZ:Need ops Q V n a0 w0 []:=fun m h=>by cases h
theorem nS {D:List Nat} (j:Nat) (H:FStep Tryz.prog ops Q (kns V) n a0 w0 j (UY (kns V) j)) (I:Need ops Q V n a0 w0 D):Need ops Q V n a0 w0 (j::D):=fun m h=>by
 rcases List.mem_cons.1 h with rfl | h
 ·exact H
 exact I m h
def autoL (P:Program) (ops:Array Oper) (V:List KV) (n:Nat) (a0:Act) (ex:List Nat):List (Option KV):=(List.range n).map fun m=>if ex.contains m=true then V[m]? else (autoV P ops V n a0 m).map KV.v
theorem fsteps_of:∀ (Ks:List Kn) (i:Nat),(∀ k K,Ks[k]?=some K→FStep Tryz.prog ops Q (kns V) n a0 w0 (i+k) K)→FSteps Tryz.prog ops Q (kns V) n a0 w0 i Ks
 | [],i,h=>trivial
 | K::Ks,i,h=>⟨h 0 K rfl,fsteps_of Ks (i+1) fun k j hk=>by
  have:=h (k+1) j (by simpa using hk)
  rwa [show i+(k+1)=i+1+k by omega] at this⟩
theorem JJV {D:List Nat} (hV:V.length=n) (O:autoL Tryz.prog ops V n a0 D=V.map some) (N:Need ops Q V n a0 w0 D):FSteps Tryz.prog ops Q (kns V) n a0 w0 0 (kns V):=by
 refine fsteps_of _ 0 fun k K hk=>?_
 rw [Nat.zero_add]
 have H:k<n:=by have:=(List.getElem?_eq_some_iff.1 hk).1;simp only [kns,List.length_map] at this;omega
 have e:UY (kns V) k=K:=by simp [UY,List.getD,hk]
 rw [← e]
 by_cases hb:D.contains k=true
 ·exact N k (by simpa using hb)
 have j:=congrArg (fun l=>l[k]?) O
 simp only [autoL,List.getElem?_map,List.getElem?_range H,Option.map_some,if_neg hb] at j
 cases I:V[k]? with
 | none=>rw [I] at j;cases j
 | some y=>
  rw [I] at j
  simp only [Option.map_some] at j
  injection j with j
  cases J:autoV Tryz.prog ops V n a0 k with
  | none=>rw [J] at j;cases j
  | some z=>
   rw [J] at j
   injection j with j
   rw [kns_at (x:=z) (by rw [I,← j];rfl)]
   exact autoV_ok J
theorem sV {o:Oper} (D:ops[i]?=some o) (h:∀ a u,FEnv ops n a0 a→FDep ops (kns V) i a u→Kept w0 u→(execOp a.eval o).run Tryz.prog u=.ok (.value v) u) (I:qU ops V i o=some true:=by kernel_rfl):FStep Tryz.prog ops Q (kns V) n a0 w0 i (.eq v):=
 fun a u H j hk=>Xq v D (JQW I j) (h a u H j hk) rfl
theorem aV {b c:Bool} {o:Oper} (j:ops[i]?=some o) (hx:∀ a u,FEnv ops n a0 a→FDep ops (kns V) i a u→Kept w0 u→(execOp a.eval o).run Tryz.prog u=.ok (.value (.bool b)) u) (h:b=c) (D:qU ops V i o=some true:=by kernel_rfl):FStep Tryz.prog ops Q (kns V) n a0 w0 i (.eq (.bool c)):=by
 subst h
 exact sV j hx D
theorem nV {K:Kn} {o:Oper} (H:ops[i]?=some o) (hx:∀ a u,FEnv ops n a0 a→FDep ops (kns V) i a u→Kept w0 u→∃ v w',(execOp a.eval o).run Tryz.prog u=.ok (.value v) w'∧K.p v w'∧Kept u w') (O:qU ops V i o=some true:=by kernel_rfl):FStep Tryz.prog ops Q (kns V) n a0 w0 i K:=
 fun a u J j hk=>by
  obtain ⟨v,w',N,D,I⟩:=hx a u J j hk
  exact jV v w' H (JQW O j) N D I
theorem cW {K:Kn} {j:Func} {xs:List Operand} {I:Array TypeId} (f:Nat) (args:List Value) {o:Oper} (O:ops[i]?=some o) (N:Tryz.prog.funcs[f]?=some j) (D:o.op=.call { callee:=.value (.func f),args:=xs.toArray,argTypes:=I })
  (hx:∀ a u,FEnv ops n a0 a→FDep ops (kns V) i a u→Kept w0 u→xs.map a.eval=args∧Calls Tryz.prog f args.toArray u fun e w'=>∃ v,e=.returned v∧K.p v w'∧Kept u w')
  (hg : qU ops V i o = some true := by kernel_rfl) (hn : (j.name == "runtime.NumGoroutine") = false := by kernel_rfl) (hb : j.body.isNone = false := by kernel_rfl) : FStep Tryz.prog ops Q (kns V) n a0 w0 i K :=
 fun a u J H hk=>Zj f args.toArray O (JQW hg H) (Jy f j xs I args N hn hb D (hx a u J H hk).1 u) (hx a u J H hk).2
theorem looks_ok:∀ (xs:List Operand) (j:List Value),xs.map (look ops V n a0 i)=j.map some→FEnv ops n a0 a→FDep ops (kns V) i a u→xs.map a.eval=j
 | [],[],_,_,_=>rfl
 | [],v::j,h,_,_=>by cases h
 | x::xs,[],h,_,_=>by cases h
 | x::xs,v::j,h,hE,hD=>by
  simp only [List.map_cons] at h
  injection h with h1 h2
  rw [List.map_cons,qQ h1 hE hD,looks_ok xs j h2 hE hD]
theorem cV {K:Kn} {j:Func} {xs:List Operand} {J:Array TypeId} {f:Nat} {args:List Value} {o:Oper} (D:Tryz.prog.funcs[f]?=some j) (hx:∀ u,Kept w0 u→Calls Tryz.prog f args.toArray u fun e w'=>∃ v,e=.returned v∧K.p v w'∧Kept u w')
  (H:ops[i]?=some o:=by rfl) (hop:o.op=.call { callee:=.value (.func f),args:=xs.toArray,argTypes:=J }:=by rfl) (hl:xs.map (look ops V n a0 i)=args.map some:=by kernel_rfl)
  (hg : qU ops V i o = some true := by kernel_rfl) (hn : (j.name == "runtime.NumGoroutine") = false := by kernel_rfl) (hb : j.body.isNone = false := by kernel_rfl) : FStep Tryz.prog ops Q (kns V) n a0 w0 i K :=
 cW f args H D hop (fun a u N I hk=>⟨looks_ok xs args hl N I,hx u hk⟩) hg hn hb
def plainT (P:Program) (T:Nat):Bool:=match P.underlying T with
 | some (.pointer _)=>true
 | some (.slice _)=>true
 | some (.int _)=>true
 | some .bool=>true
 | _=>false
theorem exec_ldA {o:Oper} (T:TypeId) (j:plainT Tryz.prog T=true) (x:Operand) (H:Addr) (D:o.op=.load T x) (hx:a.eval x=.pointer (some H)) (I:u.cell? H=some v):(execOp a.eval o).run Tryz.prog u=.ok (.value v) u:=by
 unfold plainT at j
 unfold execOp
 simp only [D,hx,Instr.loadAt,Instr.sureAddr,Sem.run_bind,Sem.run_pure,Result.andThen_ok]
 split at j <;> first | (rename_i hu;simp [loadVar,isAgg,run_underlying hu,Sem.run_bind,I,go_sem]) | cases j
theorem ldC {T:TypeId} {x:Operand} {j:Addr} {o:Oper} (H:w0.cell? j=some v) (D:ops[i]?=some o:=by rfl) (hp:o.op=.load T x:=by rfl) (hT:plainT Tryz.prog T=true:=by kernel_rfl) (hl:look ops V n a0 i x=some (.pointer (some j)):=by kernel_rfl) (hg:qU ops V i o=some true:=by kernel_rfl):FStep Tryz.prog ops Q (kns V) n a0 w0 i (.eq v):=
 sV D (fun a u J I hk=>exec_ldA T hT x j hp (qQ hl J I) (Kept.cell hk H)) hg
theorem ldF {T:TypeId} {x:Operand} {j:Addr} {o:Oper} (H:∀ u,Kept w0 u→u.cell? j=some v) (D:ops[i]?=some o:=by rfl) (hp:o.op=.load T x:=by rfl) (hT:plainT Tryz.prog T=true:=by kernel_rfl) (hl:look ops V n a0 i x=some (.pointer (some j)):=by kernel_rfl) (hg:qU ops V i o=some true:=by kernel_rfl):FStep Tryz.prog ops Q (kns V) n a0 w0 i (.eq v):=
 sV D (fun a u J I hk=>exec_ldA T hT x j hp (qQ hl J I) (H u hk)) hg
theorem ldR {g off:Nat} {cs:List Value} {T:TypeId} {x:Operand} {o:Oper} (H:w0.rangeAt g off cs) (k:Nat) (hk:cs[k]?=some v:=by rfl) (ho:ops[i]?=some o:=by rfl) (hp:o.op=.load T x:=by rfl) (hT:plainT Tryz.prog T=true:=by kernel_rfl) (hl:look ops V n a0 i x=some (.pointer (some ⟨g,off+k,none⟩)):=by kernel_rfl) (hg:qU ops V i o=some true:=by kernel_rfl):FStep Tryz.prog ops Q (kns V) n a0 w0 i (.eq v):=
 ldF (fun u h=>(JJ H h) k v hk) ho hp hT hl hg
theorem ldS {T:TypeId} {j:Array Field} {x:Operand} {g off:Nat} {cs:List Value} {o:Oper} (J:Tryz.prog.underlying T=some (.struct j)) (H:∀ u,Kept w0 u→u.rangeAt g off cs) (O:(Tryz.prog.info? T).map (·.size)=some cs.length) (D:ops[i]?=some o:=by rfl) (hp:o.op=.load T x:=by rfl) (hl:look ops V n a0 i x=some (.pointer (some ⟨g,off,none⟩)):=by kernel_rfl) (hv:v=.agg cs.toArray:=by rfl) (hg:qU ops V i o=some true:=by kernel_rfl):FStep Tryz.prog ops Q (kns V) n a0 w0 i (.eq v):=
 sV D (fun a u N I hk=>by subst hv;exact xW T j x g off cs hp (qQ hl N I) (H u hk) J O) hg
theorem ldO {e:Ord} {x:Operand} {g off:Nat} {o:Oper} (H:w0.rangeAt g off e.cells) (j:ops[i]?=some o:=by rfl) (hp:o.op=.load 35 x:=by rfl) (hl:look ops V n a0 i x=some (.pointer (some ⟨g,off,none⟩)):=by kernel_rfl) (hg:qU ops V i o=some true:=by kernel_rfl):FStep Tryz.prog ops Q (kns V) n a0 w0 i (.eq e.v):=
 ldS Tryz.underlying35 (fun u h=>JJ H h) (by rw [e.len9];exact JU) j hp hl rfl hg
def sliceO:Option Value→Option (Nat × Nat × Nat)
 | some (.slice (some ⟨g,off,none⟩) n _)=>some (g,off,n)
 | _=>none
theorem sliceO_ok {x:Option Value} {g off m:Nat} (h:sliceO x=some (g,off,m)):∃ c,x=some (.slice (some ⟨g,off,none⟩) m c):=by
 unfold sliceO at h
 split at h
 ·rename_i g' off' n' c
  injection h with h
  injection h with h1 h
  injection h with h2 h3
  subst h1 h2 h3
  exact ⟨c,rfl⟩
 cases h
theorem ixV {t T:TypeId} {k bytes g D:Nat} {x y:Operand} {o:Oper} (U:SlT t T k bytes) (off m j:Nat) (I:Int) (hi:j<m) (N:ops[i]?=some o:=by rfl) (hp:o.op=.indexAddr t x y:=by rfl) (hx:sliceO (look ops V n a0 i x)=some (g,off,m):=by kernel_rfl) (hy:look ops V n a0 i y=some (.int .i64 I):=by kernel_rfl)
  (hI:I=(j:Int):=by first | rfl | omega) (he:off+j*k=D:=by first | rfl | omega) (hg:qU ops V i o=some true:=by kernel_rfl):FStep Tryz.prog ops Q (kns V) n a0 w0 i (.eq (.pointer (some ⟨g,D,none⟩))):=
 sV N (fun a u J H hk=>by
  obtain ⟨c,O⟩:=sliceO_ok hx
  exact exec_ixo U x y g off m c j D I hp (qQ O J H) (qQ hy J H) hI hi he) hg
theorem kns_v (j:List Value):kns (j.map KV.v)=j.map Kn.eq:=by simp [kns,KV.kn]
end
section
variable {id:Nat} {Q:Exit→Act→World→Prop} {a:Act} {w:World} {l:List Oper}
theorem wA (n:Nat) (j:List Value) (D:List Nat) {H:List Nat} (J:Need l.toArray Q (j.map KV.v) n a w H)
  (N:∀ w',Kept w w'→Q .normal ⟨fr D j a.tmps,a.defers⟩ w') (I:j.length=n:=by rfl) (hA:autoL Tryz.prog l.toArray (j.map KV.v) n a H=(j.map KV.v).map some:=by kernel_rfl) (hB:textB l.toArray n a.tmps.size=true:=by kernel_rfl) (hd:(List.range n).map (QY l.toArray)=D.map some:=by kernel_rfl) (hl:l.length=n:=by rfl):(Code.region id l.toArray false).wp Tryz.prog Q a w:=
 wE n j D (by have:=JJV (by simpa using I) hA J;rwa [kns_v] at this) N I hB hd hl
theorem wAp (n:Nat) (j:List Value) (D:List Nat) {H:List Nat} (J:Need l.toArray Q (j.map KV.v) n a w H)
  (N:∀ w',Kept w w'→wpList Tryz.prog l.toArray Q (l.drop n) ⟨fr D j a.tmps,a.defers⟩ w') (I:j.length=n:=by rfl) (hA:autoL Tryz.prog l.toArray (j.map KV.v) n a H=(j.map KV.v).map some:=by kernel_rfl) (hB:textB l.toArray n a.tmps.size=true:=by kernel_rfl) (hd:(List.range n).map (QY l.toArray)=D.map some:=by kernel_rfl):(Code.region id l.toArray false).wp Tryz.prog Q a w:=
 wEp n j D (by have:=JJV (by simpa using I) hA J;rwa [kns_v] at this) N I hB hd
theorem wH (n:Nat) (j:List Value) (D:List Nat) {H:List Nat} (J:Need l.toArray Q (j.map KV.v) n a w H)
  (N:∀ w',Kept w w'→Q .normal ⟨fr D j a.tmps,a.defers⟩ w') (I:j.length=n:=by rfl) (hA:autoL Tryz.prog l.toArray (j.map KV.v) n a H=(j.map KV.v).map some:=by kernel_rfl) (hm:Tryz.prog.follows Departure.mixedOrders=true:=by kernel_rfl) (hB:freeB l.toArray n a.tmps.size=true:=by kernel_rfl) (hd:(List.range n).map (QY l.toArray)=D.map some:=by kernel_rfl) (hl:l.length=n:=by rfl):(Code.region id l.toArray true).wp Tryz.prog Q a w:=
 wG n j D (by have:=JJV (by simpa using I) hA J;rwa [kns_v] at this) N I hm hB hd hl
theorem wHp (n:Nat) (j:List Value) (D:List Nat) {H:List Nat} (J:Need l.toArray Q (j.map KV.v) n a w H)
  (N:∀ w',Kept w w'→wpList Tryz.prog l.toArray Q (l.drop n) ⟨fr D j a.tmps,a.defers⟩ w') (I:j.length=n:=by rfl) (hA:autoL Tryz.prog l.toArray (j.map KV.v) n a H=(j.map KV.v).map some:=by kernel_rfl) (hm:Tryz.prog.follows Departure.mixedOrders=true:=by kernel_rfl) (hB:freeB l.toArray n a.tmps.size=true:=by kernel_rfl) (hd:(List.range n).map (QY l.toArray)=D.map some:=by kernel_rfl):(Code.region id l.toArray true).wp Tryz.prog Q a w:=
 wGp n j D (by have:=JJV (by simpa using I) hA J;rwa [kns_v] at this) N I hm hB hd
end
section
variable {ops:Array Oper} {Q:Exit→Act→World→Prop} {V:List Kn} {n i:Nat} {a0:Act} {w0:World} {K:Kn}
theorem fS (h:FSteps Tryz.prog ops Q V n a0 w0 i [K]):FStep Tryz.prog ops Q V n a0 w0 i K:=h.1
end
abbrev pK (g o:Nat):KV:=.v (.pointer (some ⟨g,o,none⟩))
abbrev iK (x:Int):KV:=.v (.int .i64 x)
abbrev bK (b:Bool):KV:=.v (.bool b)
abbrev uK:KV:=.v undef
section
variable {id:Nat} {Q:Exit→Act→World→Prop} {a:Act} {w:World} {l:List Oper}
theorem tA (n:Nat) (V:List KV) (j:List Nat) {D:List Nat} (I:Need l.toArray Q V n a w D)
  (J:∀ (g:Nat→Value) w',FVals l.toArray (kns V) g w'→Kept w w'→Q .normal ⟨j.foldl (fun t d=>t.setIfInBounds d (g d)) a.tmps,a.defers⟩ w') (H:V.length=n:=by rfl) (hA:autoL Tryz.prog l.toArray V n a D=V.map some:=by kernel_rfl) (hB:textB l.toArray n a.tmps.size=true:=by kernel_rfl) (hd:Wy l.toArray n=j:=by kernel_rfl) (hl:l.length=n:=by rfl):(Code.region id l.toArray false).wp Tryz.prog Q a w:=
 wT n (kns V) j (JJV H hA I) J (by simpa [kns] using H) hB hd hl
theorem tH (n:Nat) (V:List KV) (j:List Nat) {D:List Nat} (I:Need l.toArray Q V n a w D)
  (J:∀ (g:Nat→Value) w',FVals l.toArray (kns V) g w'→Kept w w'→Q .normal ⟨j.foldl (fun t d=>t.setIfInBounds d (g d)) a.tmps,a.defers⟩ w') (H:V.length=n:=by rfl) (hA:autoL Tryz.prog l.toArray V n a D=V.map some:=by kernel_rfl) (hm:Tryz.prog.follows Departure.mixedOrders=true:=by kernel_rfl) (hB:freeB l.toArray n a.tmps.size=true:=by kernel_rfl) (hd:Wy l.toArray n=j:=by kernel_rfl) (hl:l.length=n:=by rfl):(Code.region id l.toArray true).wp Tryz.prog Q a w:=
 wF n (kns V) j (JJV H hA I) J hm (by simpa [kns] using H) hB hd hl
theorem tAp (n:Nat) (V:List KV) {j:List Nat} (H:Need l.toArray Q V n a w j)
  (I:∀ (g:Nat→Value) w',FVals l.toArray (kns V) g w'→Kept w w'→wpList Tryz.prog l.toArray Q (l.drop n) ⟨(Wy l.toArray n).foldl (fun t d=>t.setIfInBounds d (g d)) a.tmps,a.defers⟩ w') (D:V.length=n:=by rfl) (hA:autoL Tryz.prog l.toArray V n a j=V.map some:=by kernel_rfl) (hB:textB l.toArray n a.tmps.size=true:=by kernel_rfl):(Code.region id l.toArray false).wp Tryz.prog Q a w:=
 wp_text n (kns V) (by simpa [kns] using D) hB (JJV D hA H) I
theorem tHp (n:Nat) (V:List KV) {j:List Nat} (D:Need l.toArray Q V n a w j)
  (H:∀ (g:Nat→Value) w',FVals l.toArray (kns V) g w'→Kept w w'→wpList Tryz.prog l.toArray Q (l.drop n) ⟨(Wy l.toArray n).foldl (fun t d=>t.setIfInBounds d (g d)) a.tmps,a.defers⟩ w') (I:Tryz.prog.follows Departure.mixedOrders=true:=by kernel_rfl) (hV:V.length=n:=by rfl) (hA:autoL Tryz.prog l.toArray V n a j=V.map some:=by kernel_rfl) (hB:freeB l.toArray n a.tmps.size=true:=by kernel_rfl):(Code.region id l.toArray true).wp Tryz.prog Q a w:=
 wp_free n (kns V) I (by simpa [kns] using hV) hB (JJV hV hA D) H
end
section
variable {ops:Array Oper} {Q:Exit→Act→World→Prop} {a:Act} {w:World} {o:Oper} {rest:List Oper}
def autoT (P:Program) (a:Act) (o:Oper):Option Value:=match o.op with
 | .move x=>some (a.eval x)
 | .assign x=>some (a.eval x)
 | .nilCheck x=>match ptrOf (some (a.eval x)) with | some (g,off)=>some (.pointer (some ⟨g,off,none⟩)) | none=>none
 | .fieldAddr T x F=>match ptrOf (some (a.eval x)),fldO P T F with | some (g,off),some fo=>some (.pointer (some ⟨g,off+fo,none⟩)) | _,_=>none
 | .extract x k=>partOf k (some (a.eval x))
 | _=>none
theorem autoT_ok {v:Value} {u:World} (h:autoT Tryz.prog a o=some v):(execOp a.eval o).run Tryz.prog u=.ok (.value v) u:=by
 unfold autoT at h
 split at h
 ·rename_i x hx
  injection h with h
  exact Jq x v hx h
 ·rename_i x hx
  injection h with h
  exact Yj x v hx h
 ·rename_i x hx
  split at h
  ·rename_i g off hp
   injection h with h
   subst h
   have j:=ptrOf_ok hp
   injection j with j
   exact ZU x _ hx j
  cases h
 ·rename_i T x F hx
  split at h
  ·rename_i g off fo hp hf
   injection h with h
   subst h
   have j:=ptrOf_ok hp
   injection j with j
   exact Jz T F fo x g off _ hx j (fldO_ok hf) rfl
  cases h
 ·rename_i x k hx
  obtain ⟨H,D,j⟩:=partOf_ok h
  injection D with D
  exact UW x H k v hx D j
 cases h
theorem aT (v:Value) (j:wpList Tryz.prog ops Q rest (a.put o.dst v) w) (h:autoT Tryz.prog a o=some v:=by kernel_rfl) (hg:o.guard=none:=by rfl):wpList Tryz.prog ops Q (o::rest) a w:=
 UJ v (JQ hg _) (autoT_ok h) j
theorem sO {g:Nat} {T:TypeId} {j:List Value} {x y:Operand} (e:Ord) (I:Blk w g T j) (H:∀ w',Blk w' g T e.cells→Keep (·=g) w w'→w'.heap.size=w.heap.size→wpList Tryz.prog ops Q rest (a.put o.dst undef) w')
  (D:o.op=.store 35 x y:=by rfl) (hx:a.eval x=.pointer (some ⟨g,0,none⟩):=by kernel_rfl) (hy:a.eval y=.agg e.cells.toArray:=by kernel_rfl) (hold:j.length=9:=by first | exact Ord.len9 _ | rfl) (hg:o.guard=none:=by rfl):wpList Tryz.prog ops Q (o::rest) a w:=
 YV 35 g T j e.cells x y (JQ hg _) D hx hy I (by rw [e.len9];exact JU) (by rw [hold,e.len9]) (Ord.one1 _) H
theorem nT {T:TypeId} {z:List Value} (H:(Tryz.prog.info? T).map (·.zero)=some (some (.agg z.toArray))) (D:∀ w',Blk w' w.heap.size T z→Kept w w'→wpList Tryz.prog ops Q rest (a.put o.dst (.pointer (some ⟨w.heap.size,0,none⟩))) w') (j:o.op=.alloc T:=by rfl) (hg:o.guard=none:=by rfl):wpList Tryz.prog ops Q (o::rest) a w:=
 Vj _ _ (JQ hg _) (QX T z j H) (D _ (Blk.new w T z) ((Keep.refl _ w).alloc _))
theorem cT {f:Nat} {j:Func} {xs:List Operand} {H:Array TypeId} (I:Tryz.prog.funcs[f]?=some j) (args:List Value) (J:Calls Tryz.prog f args.toArray w fun e w'=>∃ v,e=.returned v∧wpList Tryz.prog ops Q rest (a.put o.dst v) w')
  (D : o.op = .call { callee := .value (.func f), args := xs.toArray, argTypes := H } := by rfl) (hl : xs.map a.eval = args := by kernel_rfl) (hn : (j.name == "runtime.NumGoroutine") = false := by kernel_rfl) (hb : j.body.isNone = false := by kernel_rfl) (hg : o.guard = none := by rfl) : wpList Tryz.prog ops Q (o :: rest) a w :=
 l_call f args.toArray (JQ hg _) (Jy f j xs H args I hn hb D hl w) J
end
theorem F8:(∀ {d:Nat} {j:List Nat} {v:Value} {D:List Value} {t:Array Value},fr (d::j) (v::D) t=fr j D (t.setIfInBounds d v))∧(∀ {t:Array Value},fr [] [] t=t)∧(∀ {α:Type} (l:List α) (i:Nat) (a:α),l.toArray.setIfInBounds i a=(l.set i a).toArray)∧(∀ {α:Type} {a:α} {l:List α} {n:Nat} {b:α},(a::l).set (n+1) b=a::l.set n b)∧(∀ {α:Type} {a:α} {l:List α} {b:α},(a::l).set 0 b=b::l)∧(∀ {α:Type} {a:α} {l:List α} {n:Nat},(a::l).drop (n+1)=l.drop n)∧∀ {α:Type} {l:List α},l.drop 0=l:=
 ⟨rfl,rfl,fun l i a=>by simp only [List.setIfInBounds_toArray],rfl,rfl,rfl,rfl⟩
abbrev pV (g o:Nat):Value:=.pointer (some ⟨g,o,none⟩)
abbrev iV (x:Int):Value:=.int .i64 x
abbrev bV (b:Bool):Value:=.bool b
def mn (p q:Int):Int:=if q<p then q else p
theorem mn_le (p q:Int):mn p q≤p∧mn p q≤q:=by unfold mn;split <;> omega
theorem mn_pos (p q:Int) (h1:0<p) (h2:0<q):0<mn p q:=by unfold mn;split <;> omega
def Ord.tip (o:Ord):Int:=if 0<o.shw then mn o.shw o.qty else o.qty
def Ent.of (o:Ord):Ent:=⟨o,o.tip⟩
def Ord.q (o:Ord) (n:Int):Ord:={ o with qty:=n }
def Ent.sub (e:Ent) (n:Int):Ent:=⟨e.o.q (e.o.qty-n),e.n-n⟩
def Yx (e:Ent) (n:Int) (R:List Ent):List Ent:=
 if e.o.qty-n=0 then R else if e.n-n=0 then R++[Ent.of (e.sub n).o] else e.sub n::R
def takeM (firm q:Int) (X:List Ent):List Ent × Bool × List Ent:=
 match X with
 | []=>([],false,[])
 | e::R=>
  if h:0<q∧0<e.n then
   if e.o.firm=firm then ([],true,e::R)
   else
    let r:=takeM firm (q-mn q e.n) (Yx e (mn q e.n) R)
    (⟨e.o,mn q e.n⟩::r.1,r.2.1,r.2.2)
  else ([],false,e::R)
termination_by q.toNat
decreasing_by
 have:=mn_pos q e.n h.1 h.2
 have:=(mn_le q e.n).1
 omega
theorem zJ (firm q:Int):takeM firm q []=([],false,[]):=by rw [takeM]
theorem UX (firm q:Int) (X:List Ent) (h:q≤0):takeM firm q X=([],false,X):=by
 cases X with
 | nil=>exact zJ _ _
 | cons e R=>rw [takeM,dif_neg (by omega)]
theorem JQJ (firm q:Int) (e:Ent) (R:List Ent) (h:0<q) (D:0<e.n) (j:e.o.firm=firm):takeM firm q (e::R)=([],true,e::R):=by rw [takeM,dif_pos ⟨h,D⟩,if_pos j]
theorem JJq (firm q:Int) (e:Ent) (R:List Ent) (h:0<q) (D:0<e.n) (j:e.o.firm≠firm):takeM firm q (e::R) =
  (⟨e.o,mn q e.n⟩::(takeM firm (q-mn q e.n) (Yx e (mn q e.n) R)).1,(takeM firm (q-mn q e.n) (Yx e (mn q e.n) R)).2.1,(takeM firm (q-mn q e.n) (Yx e (mn q e.n) R)).2.2):=by rw [takeM,dif_pos ⟨h,D⟩,if_neg j]
def Wx (l:List Int):Int:=l.foldr (·+·) 0
theorem sumI_nil:Wx []=0:=rfl
theorem sumI_cons (x:Int) (l:List Int):Wx (x::l)=x+Wx l:=rfl
theorem sumI_append (a b:List Int):Wx (a++b)=Wx a+Wx b:=by
 induction a with
 | nil=>simp [sumI_nil]
 | cons x a ih=>rw [List.cons_append,sumI_cons,sumI_cons,ih];omega
def XX (X:List Ent):Int:=Wx (X.map fun e=>e.o.qty)
def Jj (X:List Ent):Int:=Wx (X.map fun e=>e.n)
theorem Vz (e:Ent) (X:List Ent):XX (e::X)=e.o.qty+XX X:=rfl
theorem Vx (e:Ent) (X:List Ent):Jj (e::X)=e.n+Jj X:=rfl
theorem Uj (X Y:List Ent):XX (X++Y)=XX X+XX Y:=by simp [XX,sumI_append]
theorem Uy (X Y:List Ent):Jj (X++Y)=Jj X+Jj Y:=by simp [Jj,sumI_append]
def Ent.ok (e:Ent):Prop:=1≤e.n∧e.n≤e.o.qty
structure Good (X:List Ent):Prop where
 ok:∀ e ∈ X,e.ok
 few:XX X≤100000000
theorem YW {X:List Ent} (h:∀ e ∈ X,e.ok):(X.length:Int)≤Jj X∧Jj X≤XX X:=by
 induction X with
 | nil=>exact ⟨by simp [Jj,Wx],by simp [Jj,XX,Wx]⟩
 | cons e X ih=>
  have h1:=ih (fun x hx=>h x (by simp [hx]))
  have j:=h e (by simp)
  unfold Ent.ok at j
  rw [Vz,Vx]
  simp only [List.length_cons]
  omega
theorem Good.len {X:List Ent} (h:Good X):X.length≤100000000:=by
 have:=YW h.ok
 have:=h.few
 omega
theorem Good.bound {X:List Ent} (h:Good X) {e:Ent} (D:e ∈ X):1≤e.n∧e.n≤e.o.qty∧e.o.qty≤100000000:=by
 have j:=h.ok e D
 unfold Ent.ok at j
 refine ⟨j.1,j.2,?_⟩
 obtain ⟨s,t,rfl⟩:=List.append_of_mem D
 have H:=h.few
 rw [Uj,Vz] at H
 have h3:=YW (X:=s) (fun x hx=>h.ok x (by simp [hx]))
 have h4:=YW (X:=t) (fun x hx=>h.ok x (by simp [hx]))
 omega
theorem tip_ok (o:Ord) (h:1≤o.qty):(Ent.of o).ok:=by
 unfold Ent.ok Ent.of Ord.tip
 simp only
 by_cases h1:0<o.shw
 ·rw [if_pos h1]
  have:=mn_le o.shw o.qty
  have:=mn_pos o.shw o.qty h1 (by omega)
  omega
 rw [if_neg h1]
 omega
theorem yQ (e:Ent) (n:Int) (R:List Ent):XX (Yx e n R)=e.o.qty-n+XX R:=by
 unfold Yx
 split
 ·rename_i h;rw [h];omega
 split
 ·rw [Uj,Vz]
  simp [Ent.of,Ent.sub,Ord.q,XX,Wx]
  omega
 rw [Vz]
 simp [Ent.sub,Ord.q]
theorem zQ {e:Ent} {n:Int} {R:List Ent} (h:Good (e::R)) (h1:1≤n) (h2:n≤e.n):Good (Yx e n R):=by
 have hb:=h.bound (e:=e) (by simp)
 refine ⟨?_,?_⟩
 ·intro x hx
  unfold Yx at hx
  split at hx
  ·exact h.ok x (by simp [hx])
  split at hx
  ·rcases List.mem_append.1 hx with hx | hx
   ·exact h.ok x (by simp [hx])
   simp at hx
   subst hx
   refine tip_ok _ ?_
   simp [Ent.sub,Ord.q]
   omega
  rcases List.mem_cons.1 hx with rfl | hx
  ·unfold Ent.ok
   simp only [Ent.sub,Ord.q]
   omega
  exact h.ok x (by simp [hx])
 rw [yQ]
 have:=h.few
 rw [Vz] at this
 omega
theorem takeM_facts (firm:Int):∀ (k:Nat) (q:Int) (X:List Ent),q.toNat≤k→Good X →
  Good (takeM firm q X).2.2∧XX (takeM firm q X).2.2=XX X-Jj (takeM firm q X).1∧(∀ h ∈ (takeM firm q X).1,1≤h.n∧h.n≤h.o.qty∧h.o.firm≠firm∧h.o.qty≤100000000)
  ∧ ((takeM firm q X).1.length:Int)≤Jj (takeM firm q X).1∧(0≤q→Jj (takeM firm q X).1≤q):=by
 intro k
 induction k with
 | zero=>
  intro q X hk j
  rw [UX firm q X (by omega)]
  exact ⟨j,by simp [Jj,Wx],by simp,by simp [Jj,Wx],by simp [Jj,Wx]⟩
 | succ k ih=>
  intro q X hk j
  by_cases hq:q≤0
  ·rw [UX firm q X hq]
   exact ⟨j,by simp [Jj,Wx],by simp,by simp [Jj,Wx],by simp [Jj,Wx]⟩
  cases X with
  | nil=>rw [zJ];exact ⟨j,by simp [Jj,Wx],by simp,by simp [Jj,Wx],(by intro h;simp [Jj,Wx];try omega)⟩
  | cons e R=>
   have U:=j.bound (e:=e) (by simp)
   by_cases hf:e.o.firm=firm
   ·rw [JQJ firm q e R (by omega) (by omega) hf]
    exact ⟨j,by simp [Jj,Wx],by simp,by simp [Jj,Wx],(by intro h;simp [Jj,Wx];try omega)⟩
   rw [JJq firm q e R (by omega) (by omega) hf]
   have N:=mn_le q e.n
   have h2:=mn_pos q e.n (by omega) (by omega)
   obtain ⟨H,I,O,i4,J⟩:=ih (q-mn q e.n) (Yx e (mn q e.n) R) (by omega) (zQ j (by omega) N.2)
   refine ⟨H,?_,?_,?_,fun _=>?_⟩
   ·simp only
    rw [I,yQ,Vx,Vz]
    simp only
    omega
   ·intro h D
    rcases List.mem_cons.1 D with rfl | D
    ·exact ⟨by simp only;omega,by simp only;omega,hf,U.2.2⟩
    exact O h D
   ·simp only [List.length_cons,Vx]
    omega
   simp only [Vx]
   have:=J (by omega)
   omega
def Ent.is (t i:Int) (e:Ent):Bool:=decide (e.o.tr=t) && decide (e.o.id=i)
def Wj (t i:Int) (X:List Ent):Nat:=X.findIdx (Ent.is t i)
def jZ (t i:Int) (X:List Ent):Int:=if Wj t i X<X.length then (Wj t i X:Int) else -1
theorem idx_of {t i:Int} {X:List Ent} {k:Nat} {e:Ent} (h:∀ (j:Nat) (x:Ent),j<k→X[j]?=some x→x.is t i=false) (I:X[k]?=some e) (H:e.is t i=true):Wj t i X=k:=by
 unfold Wj
 obtain ⟨hk,rfl⟩:=List.getElem?_eq_some_iff.1 I
 rw [List.findIdx_eq hk]
 refine ⟨H,fun j D=>?_⟩
 exact h j _ D (List.getElem?_eq_getElem (by omega))
theorem idx_none {t i:Int} {X:List Ent} (h:∀ (j:Nat) (x:Ent),j<X.length→X[j]?=some x→x.is t i=false):Wj t i X=X.length:=by
 unfold Wj
 apply List.findIdx_eq_length.2
 intro x hx
 obtain ⟨j,D,rfl⟩:=List.getElem_of_mem hx
 exact h j _ D (List.getElem?_eq_getElem D)
theorem idx_is {t i:Int} {X:List Ent} (h:Wj t i X<X.length):∃ e,X[Wj t i X]?=some e∧e.is t i=true:=⟨_,List.getElem?_eq_getElem h,List.findIdx_getElem⟩
def ZQ (t i q:Int) (X:List Ent):Bool × List Ent:=
 match X[Wj t i X]? with
 | none=>(false,X)
 | some e=>if 1≤q∧q≤e.o.qty then (true,X.set (Wj t i X) ⟨e.o.q q,mn e.n q⟩) else (false,X)
def XW (t i:Int) (X:List Ent):Ord × Bool × List Ent:=
 match X[Wj t i X]? with
 | none=>(JV,false,X)
 | some e=>(e.o,true,X.eraseIdx (Wj t i X))
def Shy (X:List Ent):Prop:=∀ e ∈ X,0<e.o.shw→e.n≤e.o.shw
theorem tip_shy (o:Ord):0<(Ent.of o).o.shw→(Ent.of o).n≤(Ent.of o).o.shw:=by
 intro h
 unfold Ent.of at h ⊢
 simp only at h ⊢
 unfold Ord.tip
 rw [if_pos h]
 exact (mn_le _ _).1
theorem next_mem {e:Ent} {n:Int} {R:List Ent} {x:Ent} (hx:x ∈ Yx e n R):x ∈ R∨x=Ent.of (e.sub n).o∨x=e.sub n:=by
 unfold Yx at hx
 split at hx
 ·exact .inl hx
 split at hx
 ·rcases List.mem_append.1 hx with hx | hx
  ·exact .inl hx
  exact .inr (.inl (by simpa using hx))
 rcases List.mem_cons.1 hx with hx | hx
 ·exact .inr (.inr hx)
 exact .inl hx
theorem next_shy {e:Ent} {n:Int} {R:List Ent} (h:Shy (e::R)) (h1:0≤n):Shy (Yx e n R):=by
 intro x hx j
 rcases next_mem hx with hx | rfl | rfl
 ·exact h x (by simp [hx]) j
 ·exact tip_shy _ j
 have:=h e (by simp) j
 simp only [Ent.sub,Ord.q] at j ⊢
 omega
theorem takeM_end (firm:Int):∀ (k:Nat) (q:Int) (X:List Ent),q.toNat≤k→0≤q→Good X→Shy X →
  (∀ h ∈ (takeM firm q X).1,0<h.o.shw→h.n≤h.o.shw) ∧
  ((takeM firm q X).2.1=true→∃ e R,(takeM firm q X).2.2=e::R∧e.o.firm=firm∧Jj (takeM firm q X).1<q) ∧
  ((takeM firm q X).2.1=false→Jj (takeM firm q X).1=q∨(takeM firm q X).2.2=[]):=by
 intro k
 induction k with
 | zero=>
  intro q X hk J j H
  rw [UX firm q X (by omega)]
  exact ⟨by simp,by simp,fun _=>.inl (by simp [Jj,Wx];omega)⟩
 | succ k ih=>
  intro q X hk hq0 j H
  by_cases J:q≤0
  ·rw [UX firm q X J]
   exact ⟨by simp,by simp,fun _=>.inl (by simp [Jj,Wx];omega)⟩
  cases X with
  | nil=>rw [zJ];exact ⟨by simp,by simp,fun _=>.inr rfl⟩
  | cons e R=>
   have hb:=j.bound (e:=e) (by simp)
   by_cases hf:e.o.firm=firm
   ·rw [JQJ firm q e R (by omega) (by omega) hf]
    exact ⟨by simp,fun _=>⟨e,R,rfl,hf,by simp [Jj,Wx];omega⟩,by simp⟩
   rw [JJq firm q e R (by omega) (by omega) hf]
   have h1:=mn_le q e.n
   have h2:=mn_pos q e.n (by omega) (by omega)
   obtain ⟨N,O,i3⟩:=ih (q-mn q e.n) (Yx e (mn q e.n) R) (by omega) (by omega) (zQ j (by omega) h1.2) (next_shy H (by omega))
   refine ⟨?_,fun h=>?_,fun h=>?_⟩
   ·intro h D I
    rcases List.mem_cons.1 D with rfl | D
    ·have:=H e (by simp) I
     simp only
     omega
    exact N h D I
   ·obtain ⟨U,R',q1,q2,q3⟩:=O h
    refine ⟨U,R',q1,q2,?_⟩
    simp only [Vx]
    omega
   rcases i3 h with h | h
   ·left
    simp only [Vx]
    omega
   exact .inr h
def Ent.key (e:Ent):Int × Int:=(e.o.tr,e.o.id)
theorem is_key {t i:Int} {e:Ent}:e.is t i=true↔e.key=(t,i):=by
 unfold Ent.is Ent.key
 simp
abbrev Lev:=Int × List Ent
structure Fl where
 mk_:Ord
 tk:Ord
 price:Int
 qty:Int
 no:Int
deriving DecidableEq
structure Bok where
 buys:List Lev
 sells:List Lev
 last:Int
 no:Int
def Bok.sd (B:Bok) (s:Int):List Lev:=if s=1 then B.buys else if s=2 then B.sells else []
def Bok.put (B:Bok) (s:Int) (L:List Lev):Bok:=if s=1 then { B with buys:=L } else if s=2 then { B with sells:=L } else B
def YZ (L:List Lev):List Ent:=L.flatMap (·.2)
theorem entL_nil:YZ []=[]:=rfl
theorem Qy (l:Lev) (L:List Lev):YZ (l::L)=l.2++YZ L:=rfl
theorem JJY (L M:List Lev):YZ (L++M)=YZ L++YZ M:=by simp [YZ]
def Bok.all (B:Bok):List Ent:=YZ B.buys++YZ B.sells
def Bok.len (B:Bok):Nat:=B.all.length
def fillsOf (o:Ord) (pr:Int):Int→Int→List Ent→List Fl
 | no,q,[]=>[]
 | no,q,h::H=>⟨h.o,o.q q,pr,h.n,no+1⟩::fillsOf o pr (no+1) (q-h.n) H
theorem jy (o:Ord) (pr:Int):∀ (H:List Ent) (no q:Int),(fillsOf o pr no q H).length=H.length
 | [],no,q=>rfl
 | h::H,no,q=>by simp [fillsOf,jy o pr H]
theorem xQ (o:Ord) (pr:Int):∀ (H J:List Ent) (no q:Int),fillsOf o pr no q (H++J)=fillsOf o pr no q H++fillsOf o pr (no+H.length) (q-Jj H) J
 | [],J,no,q=>by simp [fillsOf,Jj,Wx]
 | h::H,J,no,q=>by
  rw [List.cons_append,fillsOf,fillsOf,xQ o pr H J,List.cons_append,Vx]
  have D:no+1+(H.length:Int)=no+((h::H).length:Int):=by simp only [List.length_cons];omega
  have j:q-h.n-Jj H=q-(h.n+Jj H):=by omega
  rw [D,j]
structure Mt where
 f:List Fl
 left:Int
 self:Bool
 L:List Lev
def Yq (o:Ord):Int→Int→List Lev→Mt
 | no,q,[]=>⟨[],q,false,[]⟩
 | no,q,l::R=>
  if 0<q∧o.crosses l.1=true then
   if (takeM o.firm q l.2).2.2.isEmpty=true then
    let r:=Yq o (no+(takeM o.firm q l.2).1.length) (q-Jj (takeM o.firm q l.2).1) R
    ⟨fillsOf o l.1 no q (takeM o.firm q l.2).1++r.f,r.left,r.self,r.L⟩
   else ⟨fillsOf o l.1 no q (takeM o.firm q l.2).1,q-Jj (takeM o.firm q l.2).1,(takeM o.firm q l.2).2.1,(l.1,(takeM o.firm q l.2).2.2)::R⟩
  else ⟨[],q,false,l::R⟩
def WY (o:Ord):List Lev→List Lev
 | []=>[(o.price,[Ent.of o])]
 | l::R=>if bet o.side l.1 o.price=true then l::WY o R else if l.1=o.price then (l.1,l.2++[Ent.of o])::R else (o.price,[Ent.of o])::l::R
def YJ (t i:Int):List Lev→Ord × Bool × List Lev
 | []=>(JV,false,[])
 | l::R=>if (XW t i l.2).2.1=true then ((XW t i l.2).1,true,if (XW t i l.2).2.2.isEmpty=true then R else (l.1,(XW t i l.2).2.2)::R)
  else ((YJ t i R).1,(YJ t i R).2.1,l::(YJ t i R).2.2)
def VZ (t i q:Int):List Lev→Bool × List Lev
 | []=>(false,[])
 | l::R=>if (ZQ t i q l.2).1=true then (true,(l.1,(ZQ t i q l.2).2)::R) else ((VZ t i q R).1,l::(VZ t i q R).2)
def Bok.remove (B:Bok) (t i:Int):Ord × Bool × Bok:=
 if (YJ t i B.buys).2.1=true then ((YJ t i B.buys).1,true,{ B with buys:=(YJ t i B.buys).2.2 })
 else if (YJ t i B.sells).2.1=true then ((YJ t i B.sells).1,true,{ B with sells:=(YJ t i B.sells).2.2 })
 else (JV,false,B)
def Bok.less (B:Bok) (t i q:Int):Bool × Bok:=
 if (VZ t i q B.buys).1=true then (true,{ B with buys:=(VZ t i q B.buys).2 })
 else if (VZ t i q B.sells).1=true then (true,{ B with sells:=(VZ t i q B.sells).2 })
 else (false,B)
def findE (t i:Int) (X:List Ent):Ord × Bool:=match X[Wj t i X]? with
 | none=>(JV,false)
 | some e=>(e.o,true)
def Bok.find (B:Bok) (t i:Int):Ord × Bool:=findE t i B.all
def Bok.has (B:Bok) (t i:Int):Bool:=(B.find t i).2
def Ord.meets (o:Ord) (L:List Lev):Bool:=match L with
 | []=>false
 | l::_=>o.crosses l.1
structure Oc where
 o:Ord
 f:List Fl
 left:Int
 rests:Bool
 self:Bool
 err:Int
def Zq (p:Int):List Fl→Int
 | []=>p
 | f::F=>Zq f.price F
def Bok.matched (B:Bok) (o:Ord):Mt:=Yq o B.no o.qty (B.sd (3-o.side))
def Bok.err (B:Bok) (o:Ord):Int:=
 if ¬ (o.right=true∧o.stop=0) then 1
 else if B.has o.tr o.id=true then 5
 else if (o.k=1∨o.k=5)∧64≤B.len then 4
 else if o.k=5∧o.meets (B.sd (3-o.side))=true then 11
 else if o.k=4∧0<(B.matched o).left then 12
 else 0
def Bok.traded (B:Bok) (o:Ord):Bok:={ B.put (3-o.side) (B.matched o).L with last:=Zq B.last (B.matched o).f,no:=B.no+(B.matched o).f.length }
def Bok.stays (B:Bok) (o:Ord):Bool:=decide (0<(B.matched o).left) && !(B.matched o).self && (decide (o.k=1) || decide (o.k=5))
def Ord.cut (o:Ord) (n:Int):Ord:={ o with qty:=n,shw:=mn o.shw n }
def Bok.add (B:Bok) (o:Ord):Oc × Bok:=
 if B.err o≠0 then (⟨o,[],o.qty,false,false,B.err o⟩,B)
 else (⟨o,(B.matched o).f,(B.matched o).left,B.stays o,(B.matched o).self,0⟩,
  if B.stays o=true then (B.traded o).put o.side (WY (o.cut (B.matched o).left) ((B.traded o).sd o.side)) else B.traded o)
def XJ (L:List Lev):List Ord:=(YZ L).map (·.o)
def Bok.zero:Bok:=⟨[],[],0,0⟩
def Ord.stt (o:Ord):Prop:=(0≤o.tr∧o.tr≤31)∧(0≤o.firm∧o.firm≤7)∧(0≤o.id∧o.id≤1073741824)∧(o.k=1∨o.k=5)∧(1≤o.price∧o.price≤1048576)∧o.stop=0
structure Ent.At (s pr:Int) (e:Ent):Prop where
 pos:1≤e.n
 le:e.n≤e.o.qty
 few:e.o.qty≤1048576
 side:e.o.side=s
 price:e.o.price=pr
 shw0:0≤e.o.shw
 shw:0<e.o.shw→e.n≤e.o.shw
 stt:e.o.stt
theorem tip_le (o:Ord):0<o.shw→o.tip≤o.shw:=fun h=>by
 unfold Ord.tip
 rw [if_pos h]
 exact (mn_le _ _).1
theorem next_at {s pr:Int} {e:Ent} {n:Int} {R:List Ent} (h:∀ x ∈ e::R,x.At s pr) (h1:1≤n) (h2:n≤e.n):∀ x ∈ Yx e n R,x.At s pr:=by
 have U:=h e (by simp)
 obtain ⟨q1,q2,q3,J,I,N,O,H⟩:=U
 intro x hx
 unfold Yx at hx
 split at hx
 ·exact h x (by simp [hx])
 rename_i hne
 split at hx
 ·rcases List.mem_append.1 hx with hx | hx
  ·exact h x (by simp [hx])
  simp at hx
  subst hx
  have D:=tip_ok (e.sub n).o (by simp [Ent.sub,Ord.q];omega)
  unfold Ent.ok at D
  exact ⟨D.1,D.2,by simp [Ent.of,Ent.sub,Ord.q];omega,J,I,N,fun j=>tip_le _ j,H⟩
 rcases List.mem_cons.1 hx with rfl | hx
 ·refine ⟨?_,?_,?_,J,I,N,fun j=>?_,H⟩
  ·simp only [Ent.sub];omega
  ·simp only [Ent.sub,Ord.q];omega
  ·simp only [Ent.sub,Ord.q];omega
  have:=O j
  simp only [Ent.sub,Ord.q] at j ⊢
  omega
 exact h x (by simp [hx])
theorem takeM_ind (D:List Ent→Prop) (N:Ent→Prop) (firm:Int) (I:∀ e R n,1≤n→n≤e.n→D (e::R)→D (Yx e n R)) (hh:∀ e R n,1≤n→n≤e.n→D (e::R)→e.o.firm≠firm→N ⟨e.o,n⟩) :
  ∀ (k:Nat) (q:Int) (X:List Ent),q.toNat≤k→D X→D (takeM firm q X).2.2∧∀ h ∈ (takeM firm q X).1,N h:=by
 intro k
 induction k with
 | zero=>
  intro q X hk j
  rw [UX firm q X (by omega)]
  exact ⟨j,by simp⟩
 | succ k ih=>
  intro q X hk j
  cases X with
  | nil=>rw [zJ];exact ⟨j,by simp⟩
  | cons e R=>
   by_cases hc:0<q∧0<e.n
   ·by_cases hf:e.o.firm=firm
    ·rw [JQJ firm q e R hc.1 hc.2 hf]
     exact ⟨j,by simp⟩
    rw [JJq firm q e R hc.1 hc.2 hf]
    have J:=mn_le q e.n
    have h2:=mn_pos q e.n hc.1 hc.2
    obtain ⟨O,U⟩:=ih (q-mn q e.n) (Yx e (mn q e.n) R) (by omega) (I e R _ (by omega) J.2 j)
    refine ⟨O,fun h H=>?_⟩
    rcases List.mem_cons.1 H with rfl | H
    ·exact hh e R _ (by omega) J.2 j hf
    exact U h H
   rw [takeM,dif_neg hc]
   exact ⟨j,by simp⟩
def cnt (k:Int × Int) (X:List Ent):Nat:=(X.map Ent.key).count k
theorem cnt_nil (k:Int × Int):cnt k []=0:=rfl
theorem YY (k:Int × Int) (X Y:List Ent):cnt k (X++Y)=cnt k X+cnt k Y:=by simp [cnt,List.count_append]
theorem cnt_cons (k:Int × Int) (e:Ent) (X:List Ent):cnt k (e::X)=cnt k X+(if e.key=k then 1 else 0):=by
 simp [cnt,List.count_cons]
theorem key_sub (e:Ent) (n:Int):(e.sub n).key=e.key:=rfl
theorem key_of (e:Ent) (n:Int):(Ent.of (e.sub n).o).key=e.key:=rfl
theorem next_cnt (k:Int × Int) (e:Ent) (n:Int) (R:List Ent):cnt k (Yx e n R)≤cnt k (e::R):=by
 rw [cnt_cons]
 unfold Yx
 split
 ·omega
 split
 ·rw [YY,cnt_cons,cnt_nil,key_of]
  omega
 rw [cnt_cons,key_sub]
 omega
theorem next_len (e:Ent) (n:Int) (R:List Ent):(Yx e n R).length≤R.length+1:=by
 unfold Yx
 split
 ·omega
 split <;> simp
theorem take_cnt (firm q:Int) (X:List Ent) (k:Int × Int):cnt k (takeM firm q X).2.2≤cnt k X:=
 (takeM_ind (fun Y=>cnt k Y≤cnt k X) (fun _=>True) firm (fun e R n _ _ h=>Kv (next_cnt k e n R) h) (fun _ _ _ _ _ _ _=>trivial) _ q X (Nat.le_refl _) (Nat.le_refl _)).1
theorem take_len (firm q:Int) (X:List Ent):(takeM firm q X).2.2.length≤X.length:=
 (takeM_ind (fun Y=>Y.length≤X.length) (fun _=>True) firm (fun e R n _ _ h=>Kv (next_len e n R) h) (fun _ _ _ _ _ _ _=>trivial) _ q X (Nat.le_refl _) (Nat.le_refl _)).1
structure Ent.Hit (s pr firm:Int) (h:Ent):Prop where
 pos:1≤h.n
 le:h.n≤h.o.qty
 few:h.o.qty≤1048576
 side:h.o.side=s
 price:h.o.price=pr
 firm:h.o.firm≠firm
theorem take_at {s pr:Int} (firm q:Int) {X:List Ent} (h:∀ e ∈ X,e.At s pr):(∀ e ∈ (takeM firm q X).2.2,e.At s pr)∧∀ h ∈ (takeM firm q X).1,h.Hit s pr firm:=
 takeM_ind (fun Y=>∀ e ∈ Y,e.At s pr) (fun h=>h.Hit s pr firm) firm (fun e R n D j h=>next_at h D j)
  (fun e R n D j h H=>by have:=h e (by simp);exact ⟨D,Int.le_trans j this.le,this.few,this.side,this.price,H⟩) _ q X (Nat.le_refl _) h
theorem whole_at {s pr:Int} {X:List Ent} (h:∀ e ∈ X,e.At s pr):XX X≤1048576*X.length:=by
 induction X with
 | nil=>simp [XX,Wx]
 | cons e X ih=>
  have h1:=ih (fun x hx=>h x (by simp [hx]))
  have h2:=(h e (by simp)).few
  rw [Vz]
  simp only [List.length_cons]
  omega
theorem good_at {s pr:Int} {X:List Ent} (h:∀ e ∈ X,e.At s pr) (hl:X.length≤64):Good X∧Shy X:=
 ⟨⟨fun e j=>⟨(h e j).pos,(h e j).le⟩,by have:=whole_at h;omega⟩,fun e j=>(h e j).shw⟩
def Fresh (X:List Ent):Prop:=∀ e ∈ X.tail,e.n=e.o.tip
theorem next_fresh {e:Ent} {n:Int} {R:List Ent} (h:Fresh (e::R)):Fresh (Yx e n R):=by
 unfold Fresh at *
 intro x hx
 unfold Yx at hx
 split at hx
 ·exact h x (List.mem_of_mem_tail hx)
 split at hx
 ·rcases List.mem_append.1 (List.mem_of_mem_tail hx) with hx | hx
  ·exact h x hx
  simp at hx
  subst hx
  rfl
 exact h x hx
theorem take_fresh (firm q:Int) {X:List Ent} (h:Fresh X):Fresh (takeM firm q X).2.2:=
 (takeM_ind Fresh (fun _=>True) firm (fun e R n _ _ h=>next_fresh h) (fun _ _ _ _ _ _ _=>trivial) _ q X (Nat.le_refl _) h).1
theorem snoc_fresh {X:List Ent} (h:Fresh X) (o:Ord):Fresh (X++[Ent.of o]):=by
 intro x hx
 cases X with
 | nil=>simp at hx
 | cons e X=>
  rcases List.mem_append.1 (show x ∈ X++[Ent.of o] from hx) with hx | hx
  ·exact h x hx
  simp at hx
  subst hx
  rfl
theorem erase_fresh {X:List Ent} (h:Fresh X) (k:Nat):Fresh (X.eraseIdx k):=by
 intro x hx
 cases X with
 | nil=>simp at hx
 | cons e X=>
  cases k with
  | zero=>exact h x (List.mem_of_mem_tail hx)
  | succ k=>exact h x ((List.eraseIdx_sublist X k).subset hx)
theorem set_fresh {X:List Ent} (h:Fresh X) {k:Nat} {e:Ent} (j:X[k]?=some e) {q:Int} (h2:q≤e.o.qty):Fresh (X.set k ⟨e.o.q q,mn e.n q⟩):=by
 intro x hx
 cases X with
 | nil=>simp at hx
 | cons y X=>
  cases k with
  | zero=>exact h x hx
  | succ k=>
   rcases List.mem_or_eq_of_mem_set (show x ∈ X.set k _ from hx) with hx | rfl
   ·exact h x hx
   have:=h e (List.mem_of_getElem? (show X[k]?=some e from j))
   simp only [this,Ord.tip,Ord.q,mn]
   repeat' split
   all_goals omega
structure Sid (s:Int) (L:List Lev):Prop where
 fr:∀ l ∈ L,Fresh l.2
 ne:∀ l ∈ L,l.2≠[]
 at_:∀ l ∈ L,∀ e ∈ l.2,e.At s l.1
 srt:L.Pairwise fun a b=>bet s a.1 b.1=true
 few:(YZ L).length≤64
theorem Sid.nil (s:Int):Sid s []:=⟨by simp,by simp,by simp,List.Pairwise.nil,by simp [YZ]⟩
theorem Sid.tail {s:Int} {l:Lev} {L:List Lev} (h:Sid s (l::L)):Sid s L:=
 ⟨fun x hx=>h.fr x (by simp [hx]),fun x hx=>h.ne x (by simp [hx]),fun x hx=>h.at_ x (by simp [hx]),(List.pairwise_cons.1 h.srt).2,by have:=h.few;rw [Qy,List.length_append] at this;omega⟩
theorem Sid.good {s:Int} {l:Lev} {L:List Lev} (h:Sid s L) (j:l ∈ L):Good l.2∧Shy l.2:=by
 refine good_at (h.at_ l j) ?_
 obtain ⟨a,b,rfl⟩:=List.append_of_mem j
 have:=h.few
 rw [JJY,Qy,List.length_append,List.length_append] at this
 omega
theorem Sid.with_ {s:Int} {l:Lev} {L:List Lev} (h:Sid s (l::L)) {X:List Ent} (H:X≠[]) (j:∀ e ∈ X,e.At s l.1) (hl:X.length≤l.2.length) (D:Fresh X):Sid s ((l.1,X)::L):=by
 refine ⟨?_,?_,?_,?_,?_⟩
 ·intro x hx
  rcases List.mem_cons.1 hx with rfl | hx
  ·exact D
  exact h.fr x (by simp [hx])
 ·intro x hx
  rcases List.mem_cons.1 hx with rfl | hx
  ·exact H
  exact h.ne x (by simp [hx])
 ·intro x hx
  rcases List.mem_cons.1 hx with rfl | hx
  ·exact j
  exact h.at_ x (by simp [hx])
 ·rw [List.pairwise_cons]
  exact List.pairwise_cons.1 h.srt
 have:=h.few
 rw [Qy,List.length_append] at this ⊢
 simp only
 omega
def yJ (L:List Lev):Int:=XX (YZ L)
theorem Uz (l:Lev) (L:List Lev):yJ (l::L)=XX l.2+yJ L:=by unfold yJ;rw [Qy,Uj]
theorem wholeL_nil:yJ []=0:=rfl
def sumF (F:List Fl):Int:=Wx (F.map (·.qty))
theorem sumF_append (F G:List Fl):sumF (F++G)=sumF F+sumF G:=by simp [sumF,sumI_append]
theorem sumF_cons (f:Fl) (F:List Fl):sumF (f::F)=f.qty+sumF F:=rfl
theorem fillsOf_sum (o:Ord) (pr:Int):∀ (H:List Ent) (no q:Int),sumF (fillsOf o pr no q H)=Jj H
 | [],no,q=>rfl
 | h::H,no,q=>by rw [fillsOf,sumF_cons,fillsOf_sum o pr H,Vx]
def Told (o:Ord):Int→Int→List Fl→Prop
 | no,q,[]=>True
 | no,q,f::F=>f.tk=o.q q∧f.no=no+1∧Told o (no+1) (q-f.qty) F
theorem fillsOf_told (o:Ord) (pr:Int):∀ (H:List Ent) (no q:Int),Told o no q (fillsOf o pr no q H)
 | [],no,q=>trivial
 | h::H,no,q=>⟨rfl,rfl,fillsOf_told o pr H _ _⟩
theorem Told.append {o:Ord}:∀ {F G:List Fl} {no q:Int},Told o no q F→Told o (no+F.length) (q-sumF F) G→Told o no q (F++G)
 | [],G,no,q,_,h=>by simpa [sumF,Wx] using h
 | f::F,G,no,q,⟨h1,h2,h3⟩,h=>by
  refine ⟨h1,h2,Told.append h3 ?_⟩
  have D:no+1+(F.length:Int)=no+((f::F).length:Int):=by simp only [List.length_cons];omega
  have j:q-f.qty-sumF F=q-sumF (f::F):=by rw [sumF_cons];omega
  rw [D,j]
  exact h
structure Fl.Ok (s:Int) (o:Ord) (f:Fl):Prop where
 pos:1≤f.qty
 le:f.qty≤f.mk_.qty
 few:f.mk_.qty≤1048576
 side:f.mk_.side=s
 price:f.price=f.mk_.price
 firm:f.mk_.firm≠o.firm
 cross:o.crosses f.price=true
theorem fillsOf_ok {s:Int} (o:Ord) (pr:Int) (D:o.crosses pr=true):∀ (H:List Ent) (no q:Int),(∀ h ∈ H,h.Hit s pr o.firm)→∀ f ∈ fillsOf o pr no q H,f.Ok s o∧f.price=pr
 | [],no,q,_,f,j=>by simp [fillsOf] at j
 | h::H,no,q,hh,f,j=>by
  rw [fillsOf] at j
  rcases List.mem_cons.1 j with rfl | j
  ·have:=hh h (by simp)
   exact ⟨⟨this.pos,this.le,this.few,this.side,this.price.symm,this.firm,D⟩,rfl⟩
  exact fillsOf_ok o pr D H _ _ (fun x hx=>hh x (by simp [hx])) f j
structure MatchIs (s:Int) (o:Ord) (no q:Int) (L:List Lev) (m:Mt):Prop where
 sid:Sid s m.L
 cnt:∀ k,cnt k (YZ m.L)≤cnt k (YZ L)
 left0:0≤m.left
 sum:sumF m.f=q-m.left
 whole:yJ m.L=yJ L-sumF m.f
 ok:∀ f ∈ m.f,f.Ok s o
 told:Told o no q m.f
 lev:∀ l ∈ m.L,∃ l' ∈ L,l'.1=l.1
 flev:∀ f ∈ m.f,∃ l' ∈ L,l'.1=f.price
 own:m.self=true→0<m.left∧∃ l R e E,m.L=l::R∧l.2=e::E∧e.o.firm=o.firm∧o.crosses l.1=true
 done:m.self=false→0<m.left→o.meets m.L=false
 best:∀ f ∈ m.f,∀ l ∈ m.L,bet s l.1 f.price=false
 row:m.f.Pairwise fun a b=>bet s b.price a.price=false
 len:(YZ m.L).length≤(YZ L).length
theorem bet_irr (s x:Int):bet s x x=false:=by unfold bet;split <;> simp
theorem bet_asy {s x y:Int} (h:bet s x y=true):bet s y x=false:=by unfold bet at *;split at h <;> simp_all <;> omega
theorem bet_trans {s x y z:Int} (h:bet s x y=true) (h':bet s y z=true):bet s x z=true:=by unfold bet at *;split at h <;> simp_all <;> omega
theorem pair_all {α:Type} {R:α→α→Prop}:∀ {l:List α},(∀ a ∈ l,∀ b ∈ l,R a b)→l.Pairwise R
 | [],_=>List.Pairwise.nil
 | a::l,h=>List.pairwise_cons.2 ⟨fun b D=>h a (by simp) b (by simp [D]),pair_all (fun x hx y j=>h x (by simp [hx]) y (by simp [j]))⟩
theorem match_is {s:Int} (o:Ord):∀ (L:List Lev) (no q:Int),0≤q→Sid s L→MatchIs s o no q L (Yq o no q L)
 | [],no,q,hq,hL=>by
  rw [Yq]
  exact ⟨Sid.nil s,fun k=>Nat.le_refl _,hq,by simp [sumF,Wx],by simp [sumF,Wx],by simp,trivial,by simp,by simp,by simp,fun _ _=>rfl,by simp,by simp,Nat.le_refl _⟩
 | l::R,no,q,hq,hL=>by
  rw [Yq]
  by_cases hc:0<q∧o.crosses l.1=true
  ·rw [if_pos hc]
   obtain ⟨hg,J⟩:=hL.good (l:=l) (by simp)
   obtain ⟨t1,t2,t3,t4,t5⟩:=takeM_facts o.firm _ q l.2 (Nat.le_refl _) hg
   obtain ⟨u1,u2,u3⟩:=takeM_end o.firm _ q l.2 (Nat.le_refl _) hq hg J
   obtain ⟨v1,v2⟩:=take_at o.firm q (hL.at_ l (by simp))
   have v3:=take_cnt o.firm q l.2
   have v4:=take_len o.firm q l.2
   have v5:=take_fresh o.firm q (hL.fr l (by simp))
   have j:=fillsOf_ok (s:=s) o l.1 hc.2 (takeM o.firm q l.2).1 no q v2
   have a1:=fillsOf_told o l.1 (takeM o.firm q l.2).1 no q
   have a4:=fillsOf_sum o l.1 (takeM o.firm q l.2).1 no q
   have a3:=jy o l.1 (takeM o.firm q l.2).1 no q
   have h5:=t5 hq
   have N:=List.pairwise_cons.1 hL.srt
   generalize takeM o.firm q l.2=t at *
   obtain ⟨H,b,X⟩:=t
   simp only at *
   generalize fillsOf o l.1 no q H=F at *
   by_cases he:X.isEmpty=true
   ·rw [if_pos he]
    have a2:X=[]:=by simpa using he
    subst a2
    have I:=match_is (s:=s) o R (no+(H.length:Int)) (q-Jj H) (by omega) hL.tail
    have hw:XX l.2=Jj H:=by have:XX []=0:=rfl;omega
    refine ⟨I.sid,fun k=>?_,I.left0,?_,?_,?_,?_,?_,?_,I.own,I.done,?_,?_,?_⟩
    ·have:=I.cnt k
     rw [Qy,YY]
     simp only
     omega
    ·have:=I.sum
     simp only [sumF_append]
     omega
    ·have h1:=I.whole
     have h2:=I.sum
     simp only [sumF_append,Uz]
     omega
    ·intro f D
     rcases List.mem_append.1 D with D | D
     ·exact (j f D).1
     exact I.ok f D
    ·refine a1.append ?_
     rw [a3,a4]
     exact I.told
    ·intro x hx
     obtain ⟨y,J,e⟩:=I.lev x hx
     exact ⟨y,by simp [J],e⟩
    ·intro f D
     rcases List.mem_append.1 D with D | D
     ·exact ⟨l,by simp,((j f D).2).symm⟩
     obtain ⟨y,J,e⟩:=I.flev f D
     exact ⟨y,by simp [J],e⟩
    ·intro f D x hx
     rcases List.mem_append.1 D with D | D
     ·obtain ⟨y,J,e⟩:=I.lev x hx
      rw [(j f D).2,← e]
      exact bet_asy (N.1 y J)
     exact I.best f D x hx
    ·simp only [List.pairwise_append]
     refine ⟨?_,I.row,?_⟩
     ·exact pair_all (fun a ha b O=>by rw [(j a ha).2,(j b O).2];exact bet_irr _ _)
     intro a ha c a5
     obtain ⟨y,J,e⟩:=I.flev c a5
     rw [(j a ha).2,← e]
     exact bet_asy (N.1 y J)
    have:=I.len
    rw [Qy,List.length_append]
    simp only
    omega
   rw [if_neg he]
   have U:X≠[]:=by simpa using he
   refine ⟨hL.with_ U v1 v4 v5,fun k=>?_,?_,?_,?_,fun f D=>(j f D).1,a1,?_,?_,?_,?_,?_,?_,?_⟩
   ·have:=v3 k
    rw [Qy,Qy,YY,YY]
    simp only
    omega
   ·simp only;omega
   ·simp only;omega
   ·simp only [Uz];omega
   ·intro x hx
    rcases List.mem_cons.1 hx with rfl | hx
    ·exact ⟨l,by simp,rfl⟩
    exact ⟨x,by simp [hx],rfl⟩
   ·intro f D
    exact ⟨l,by simp,((j f D).2).symm⟩
   ·intro O
    obtain ⟨e,E,q1,q2,q3⟩:=u2 O
    exact ⟨by simp only;omega,_,_,e,E,rfl,q1,q2,hc.2⟩
   ·intro O h0
    simp only at h0
    rcases u3 O with h | h
    ·omega
    exact absurd h U
   ·intro f D x hx
    rw [(j f D).2]
    rcases List.mem_cons.1 hx with rfl | hx
    ·exact bet_irr _ _
    exact bet_asy (N.1 x hx)
   ·exact pair_all (fun a ha b O=>by rw [(j a ha).2,(j b O).2];exact bet_irr _ _)
   rw [Qy,Qy,List.length_append,List.length_append]
   simp only
   omega
  rw [if_neg hc]
  refine ⟨hL,fun k=>Nat.le_refl _,hq,by simp [sumF,Wx],by simp [sumF,Wx],by simp,trivial,fun x hx=>⟨x,hx,rfl⟩,by simp,by simp,fun _ h=>?_,by simp,by simp,Nat.le_refl _⟩
  simp only [Ord.meets]
  simp only at h
  have:¬ o.crosses l.1=true:=fun h'=>hc ⟨h,h'⟩
  simpa using this
theorem bet_total {s x y:Int} (h:bet s x y=false) (hn:x≠y):bet s y x=true:=by unfold bet at *;split at h <;> simp_all <;> omega
structure RestIs (s:Int) (o:Ord) (L M:List Lev):Prop where
 fr:∀ l ∈ M,Fresh l.2
 ne:∀ l ∈ M,l.2≠[]
 at_:∀ l ∈ M,∀ e ∈ l.2,e.At s l.1
 srt:M.Pairwise fun a b=>bet s a.1 b.1=true
 cnt:∀ k,cnt k (YZ M)=cnt k (YZ L)+(if (o.tr,o.id)=k then 1 else 0)
 len:(YZ M).length=(YZ L).length+1
 whole:yJ M=yJ L+o.qty
 lev:∀ l ∈ M,l.1=o.price∨∃ l' ∈ L,l'.1=l.1
theorem ent_of_key (o:Ord):(Ent.of o).key=(o.tr,o.id):=rfl
theorem cnt_of (k:Int × Int) (o:Ord):cnt k [Ent.of o]=(if (o.tr,o.id)=k then 1 else 0):=by rw [cnt_cons,cnt_nil,ent_of_key,Nat.zero_add]
theorem whole_of (o:Ord):XX [Ent.of o]=o.qty:=by simp [XX,Wx,Ent.of]
theorem rest_is {s:Int} {o:Ord} (N:o.side=s) (I:(Ent.of o).At s o.price):∀ (L:List Lev),Sid s L→RestIs s o L (WY o L)
 | [],hL=>by
  rw [WY]
  exact ⟨by simp [Fresh],by simp,by simpa using I,by simp,fun k=>by rw [Qy,entL_nil,List.append_nil,cnt_cons,ent_of_key],rfl,by rw [Uz,whole_of,wholeL_nil];omega,by simp⟩
 | l::R,hL=>by
  have H:=List.pairwise_cons.1 hL.srt
  rw [WY,N]
  by_cases h1:bet s l.1 o.price=true
  ·rw [if_pos h1]
   have j:=rest_is N I R hL.tail
   refine ⟨?_,?_,?_,?_,fun k=>?_,?_,?_,?_⟩
   ·intro x hx
    rcases List.mem_cons.1 hx with rfl | hx
    ·exact hL.fr _ (by simp)
    exact j.fr x hx
   ·intro x hx
    rcases List.mem_cons.1 hx with rfl | hx
    ·exact hL.ne _ (by simp)
    exact j.ne x hx
   ·intro x hx
    rcases List.mem_cons.1 hx with rfl | hx
    ·exact hL.at_ _ (by simp)
    exact j.at_ x hx
   ·refine List.pairwise_cons.2 ⟨fun x hx=>?_,j.srt⟩
    rcases j.lev x hx with e | ⟨y,J,e⟩
    ·rw [e];exact h1
    rw [← e];exact H.1 y J
   ·have:=j.cnt k
    rw [Qy,Qy,YY,YY]
    omega
   ·have:=j.len
    rw [Qy,Qy,List.length_append,List.length_append]
    omega
   ·have:=j.whole
    rw [Uz,Uz]
    omega
   intro x hx
   rcases List.mem_cons.1 hx with rfl | hx
   ·exact .inr ⟨_,by simp,rfl⟩
   rcases j.lev x hx with e | ⟨y,J,e⟩
   ·exact .inl e
   exact .inr ⟨y,by simp [J],e⟩
  rw [if_neg h1]
  by_cases h2:l.1=o.price
  ·rw [if_pos h2]
   refine ⟨?_,?_,?_,?_,fun k=>?_,?_,?_,?_⟩
   ·intro x hx
    rcases List.mem_cons.1 hx with rfl | hx
    ·exact snoc_fresh (hL.fr l (by simp)) o
    exact hL.fr x (by simp [hx])
   ·intro x hx
    rcases List.mem_cons.1 hx with rfl | hx
    ·simp
    exact hL.ne x (by simp [hx])
   ·intro x hx
    rcases List.mem_cons.1 hx with rfl | hx
    ·intro e D
     rcases List.mem_append.1 D with D | D
     ·exact hL.at_ l (by simp) e D
     simp at D
     subst D
     simp only
     rw [h2]
     exact I
    exact hL.at_ x (by simp [hx])
   ·exact List.pairwise_cons.2 H
   ·rw [Qy,Qy,YY,YY]
    simp only [YY,cnt_of]
    omega
   ·rw [Qy,Qy,List.length_append,List.length_append]
    simp only [List.length_append,List.length_cons,List.length_nil]
    omega
   ·rw [Uz,Uz]
    simp only [Uj,whole_of]
    omega
   intro x hx
   rcases List.mem_cons.1 hx with rfl | hx
   ·exact .inr ⟨l,by simp,rfl⟩
   exact .inr ⟨x,by simp [hx],rfl⟩
  rw [if_neg h2]
  have O:=bet_total (by simpa using h1) h2
  refine ⟨?_,?_,?_,?_,fun k=>?_,?_,?_,?_⟩
  ·intro x hx
   rcases List.mem_cons.1 hx with rfl | hx
   ·simp [Fresh]
   exact hL.fr x hx
  ·intro x hx
   rcases List.mem_cons.1 hx with rfl | hx
   ·simp
   exact hL.ne x hx
  ·intro x hx
   rcases List.mem_cons.1 hx with rfl | hx
   ·intro e D
    simp at D
    subst D
    exact I
   exact hL.at_ x hx
  ·refine List.pairwise_cons.2 ⟨fun x hx=>?_,hL.srt⟩
   rcases List.mem_cons.1 hx with rfl | hx
   ·exact O
   exact bet_trans O (H.1 x hx)
  ·rw [Qy,YY]
   simp only [cnt_of]
   omega
  ·rw [Qy,List.length_append]
   simp only [List.length_cons,List.length_nil]
   omega
  ·rw [Uz]
   simp only [whole_of]
   omega
  intro x hx
  rcases List.mem_cons.1 hx with rfl | hx
  ·exact .inl rfl
  exact .inr ⟨x,hx,rfl⟩
theorem cnt_zero {t i:Int} {X:List Ent}:cnt (t,i) X=0↔∀ e ∈ X,e.is t i=false:=by
 unfold cnt
 rw [List.count_eq_zero]
 constructor
 ·intro h e D
  cases j:e.is t i with
  | false=>rfl
  | true=>exact absurd (List.mem_map.2 ⟨e,D,is_key.1 j⟩) h
 intro h j
 obtain ⟨e,D,H⟩:=List.mem_map.1 j
 have:=h e D
 rw [is_key.2 H] at this
 cases this
theorem idx_zero {t i:Int} {X:List Ent} (h:cnt (t,i) X=0):X[Wj t i X]?=none:=by
 rw [idx_none (fun j x hj hx=>cnt_zero.1 h x (List.mem_of_getElem? hx))]
 exact List.getElem?_eq_none (Nat.le_refl _)
theorem idx_some {t i:Int} {X:List Ent} (h:cnt (t,i) X≠0):∃ e,X[Wj t i X]?=some e∧e.is t i=true:=by
 by_cases hl:Wj t i X<X.length
 ·exact idx_is hl
 exfalso
 refine h (cnt_zero.2 fun e D=>?_)
 cases j:e.is t i with
 | false=>rfl
 | true=>exact absurd (List.findIdx_lt_length_of_exists ⟨e,D,j⟩) hl
theorem remM_none {t i:Int} {X:List Ent} (h:cnt (t,i) X=0):XW t i X=(JV,false,X):=by
 unfold XW
 rw [idx_zero h]
structure RemIs (s t i:Int) (L:List Lev) (r:Ord × Bool × List Lev):Prop where
 sid:Sid s r.2.2
 lev:∀ l ∈ r.2.2,∃ l' ∈ L,l'.1=l.1
 cnts:∀ k,cnt k (YZ r.2.2)≤cnt k (YZ L)
 len:(YZ r.2.2).length≤(YZ L).length
 no:r.2.1=false→r.2.2=L∧r.1=JV∧cnt (t,i) (YZ L)=0
 yes:r.2.1=true→∃ l ∈ L,∃ e ∈ l.2,e.is t i=true∧r.1=e.o
theorem cnt_erase (k:Int × Int) (X:List Ent) (j:Nat):cnt k (X.eraseIdx j)≤cnt k X:=by
 unfold cnt
 exact List.Sublist.count_le _ ((List.eraseIdx_sublist X j).map _)
theorem xY {s:Int} (t i:Int):∀ (L:List Lev),Sid s L→RemIs s t i L (YJ t i L)
 | [],hL=>⟨hL,by simp [YJ],fun k=>Nat.le_refl _,Nat.le_refl _,fun _=>⟨rfl,rfl,rfl⟩,by simp [YJ]⟩
 | l::R,hL=>by
  have j:=xY t i R hL.tail
  have J:=List.pairwise_cons.1 hL.srt
  rw [YJ]
  by_cases h0:cnt (t,i) l.2=0
  ·rw [remM_none h0]
   simp only [Bool.false_eq_true,if_false]
   refine ⟨⟨?_,?_,?_,?_,?_⟩,?_,fun k=>?_,?_,?_,?_⟩
   ·intro x hx
    rcases List.mem_cons.1 hx with rfl | hx
    ·exact hL.fr _ (by simp)
    exact j.sid.fr x hx
   ·intro x hx
    rcases List.mem_cons.1 hx with rfl | hx
    ·exact hL.ne _ (by simp)
    exact j.sid.ne x hx
   ·intro x hx
    rcases List.mem_cons.1 hx with rfl | hx
    ·exact hL.at_ _ (by simp)
    exact j.sid.at_ x hx
   ·refine List.pairwise_cons.2 ⟨fun x hx=>?_,j.sid.srt⟩
    obtain ⟨y,hy,e⟩:=j.lev x hx
    rw [← e];exact J.1 y hy
   ·have h1:=j.len
    have H:=hL.few
    rw [Qy,List.length_append] at H ⊢
    omega
   ·intro x hx
    rcases List.mem_cons.1 hx with rfl | hx
    ·exact ⟨_,by simp,rfl⟩
    obtain ⟨y,hy,e⟩:=j.lev x hx
    exact ⟨y,by simp [hy],e⟩
   ·have:=j.cnts k
    rw [Qy,Qy,YY,YY]
    omega
   ·have:=j.len
    simp only [Qy,List.length_append]
    omega
   ·intro hb
    obtain ⟨D,U,e3⟩:=j.no hb
    refine ⟨by simp only [D],U,?_⟩
    rw [Qy,YY]
    omega
   intro hb
   obtain ⟨l',N,e,I,D,U⟩:=j.yes hb
   exact ⟨l',by simp [N],e,I,D,U⟩
  obtain ⟨e,I,hm⟩:=idx_some h0
  have D:XW t i l.2=(e.o,true,l.2.eraseIdx (Wj t i l.2)):=by unfold XW;rw [I]
  rw [D]
  simp only [if_true]
  have hl:(l.2.eraseIdx (Wj t i l.2)).length≤l.2.length:=(List.eraseIdx_sublist _ _).length_le
  by_cases H:(l.2.eraseIdx (Wj t i l.2)).isEmpty=true
  ·rw [if_pos H]
   refine ⟨hL.tail,fun x hx=>⟨x,by simp [hx],rfl⟩,fun k=>?_,?_,by simp,fun _=>⟨l,by simp,e,List.mem_of_getElem? I,hm,rfl⟩⟩
   ·rw [Qy,YY];simp only;omega
   simp only [Qy,List.length_append];omega
  rw [if_neg H]
  have O:l.2.eraseIdx (Wj t i l.2)≠[]:=by simpa using H
  refine ⟨hL.with_ O (fun x hx=>hL.at_ l (by simp) x ((List.eraseIdx_sublist _ _).subset hx)) hl (erase_fresh (hL.fr l (by simp)) _),?_,fun k=>?_,?_,by simp,fun _=>⟨l,by simp,e,List.mem_of_getElem? I,hm,rfl⟩⟩
  ·intro x hx
   rcases List.mem_cons.1 hx with rfl | hx
   ·exact ⟨l,by simp,rfl⟩
   exact ⟨x,by simp [hx],rfl⟩
  ·have:=cnt_erase k l.2 (Wj t i l.2)
   rw [Qy,Qy,YY,YY]
   simp only
   omega
  simp only [Qy,List.length_append];omega
structure LessIs (s:Int) (L:List Lev) (r:Bool × List Lev):Prop where
 sid:Sid s r.2
 lev:r.2.map (·.1)=L.map (·.1)
 cnts:∀ k,cnt k (YZ r.2)=cnt k (YZ L)
 len:(YZ r.2).length=(YZ L).length
 no:r.1=false→r.2=L
theorem set_at {s pr t i q:Int} {X:List Ent} (h:∀ e ∈ X,e.At s pr) {e:Ent} (O:X[Wj t i X]?=some e) (h1:1≤q) (h2:q≤e.o.qty):∀ x ∈ X.set (Wj t i X) ⟨e.o.q q,mn e.n q⟩,x.At s pr:=by
 intro x hx
 rcases List.mem_or_eq_of_mem_set hx with hx | rfl
 ·exact h x hx
 obtain ⟨q1,q2,q3,J,H,N,I,j⟩:=h e (List.mem_of_getElem? O)
 have h3:=mn_le e.n q
 have h4:=mn_pos e.n q (by omega) (by omega)
 refine ⟨by simp only;omega,by simp only [Ord.q];omega,by simp only [Ord.q];omega,J,H,N,fun D=>?_,j⟩
 have:=I D
 simp only [Ord.q]
 omega
theorem set_cnt {t i q:Int} {X:List Ent} {e:Ent} (j:X[Wj t i X]?=some e) (k:Int × Int):cnt k (X.set (Wj t i X) ⟨e.o.q q,mn e.n q⟩)=cnt k X:=by
 unfold cnt
 rw [List.map_set]
 have:(X.map Ent.key)[Wj t i X]?=some (Ent.key ⟨e.o.q q,mn e.n q⟩):=by rw [List.getElem?_map,j];rfl
 obtain ⟨hl,h⟩:=List.getElem?_eq_some_iff.1 this
 rw [← h,List.set_getElem_self]
theorem JQj {s:Int} (t i q:Int):∀ (L:List Lev),Sid s L→LessIs s L (VZ t i q L)
 | [],hL=>⟨hL,rfl,fun k=>rfl,rfl,fun _=>rfl⟩
 | l::R,hL=>by
  have j:=JQj t i q R hL.tail
  have H:=List.pairwise_cons.1 hL.srt
  rw [VZ]
  by_cases hb:(ZQ t i q l.2).1=true
  ·rw [if_pos hb]
   unfold ZQ at hb ⊢
   cases D:l.2[Wj t i l.2]? with
   | none=>rw [D] at hb;cases hb
   | some e=>
    rw [D] at hb
    simp only at hb ⊢
    by_cases hq:1≤q∧q≤e.o.qty
    ·rw [if_pos hq]
     simp only
     refine ⟨hL.with_ ?_ (set_at (hL.at_ l (by simp)) D hq.1 hq.2) (by simp) (set_fresh (hL.fr l (by simp)) D hq.2),rfl,fun k=>?_,?_,by simp⟩
     ·intro h
      have:=hL.ne l (by simp)
      have I:(l.2.set (Wj t i l.2) ⟨e.o.q q,mn e.n q⟩).length=0:=by rw [h];rfl
      rw [List.length_set] at I
      exact this (List.eq_nil_of_length_eq_zero I)
     ·rw [Qy,Qy,YY,YY]
      simp only [set_cnt D k]
     simp [Qy]
    rw [if_neg hq] at hb
    cases hb
  rw [if_neg hb]
  refine ⟨⟨?_,?_,?_,?_,?_⟩,?_,fun k=>?_,?_,?_⟩
  ·intro x hx
   rcases List.mem_cons.1 hx with rfl | hx
   ·exact hL.fr _ (by simp)
   exact j.sid.fr x hx
  ·intro x hx
   rcases List.mem_cons.1 hx with rfl | hx
   ·exact hL.ne _ (by simp)
   exact j.sid.ne x hx
  ·intro x hx
   rcases List.mem_cons.1 hx with rfl | hx
   ·exact hL.at_ _ (by simp)
   exact j.sid.at_ x hx
  ·refine List.pairwise_cons.2 ⟨fun x hx=>?_,j.sid.srt⟩
   have:x.1 ∈ R.map (·.1):=by rw [← j.lev];exact List.mem_map.2 ⟨x,hx,rfl⟩
   obtain ⟨y,J,e⟩:=List.mem_map.1 this
   rw [← e];exact H.1 y J
  ·have h1:=j.len
   have N:=hL.few
   rw [Qy,List.length_append] at N ⊢
   omega
  ·simp only [List.map_cons,j.lev]
  ·have:=j.cnts k
   rw [Qy,Qy,YY,YY]
   omega
  ·have:=j.len
   simp only [Qy,List.length_append]
   omega
  intro h
  simp only [j.no h]
theorem bet_flip {s:Int} (j:s=1∨s=2) (x y:Int):bet (3-s) x y=bet s y x:=by
 unfold bet
 rcases j with rfl | rfl <;> simp
structure Two (s:Int) (M T:List Lev):Prop where
 mine:Sid s M
 theirs:Sid (3-s) T
 uniq:∀ k,cnt k (YZ M)+cnt k (YZ T)≤1
 few:(YZ M).length+(YZ T).length≤64
 apart:∀ x ∈ M,∀ y ∈ T,bet s y.1 x.1=true
theorem Two.flip {s:Int} (j:s=1∨s=2) {M T:List Lev} (h:Two s M T):Two (3-s) T M:=
 ⟨h.theirs,by rw [show 3-(3-s)=s by omega];exact h.mine,fun k=>by have:=h.uniq k;omega,by have:=h.few;omega,fun x hx y D=>by rw [bet_flip j];exact h.apart y D x hx⟩
structure Inv (B:Bok):Prop where
 two:Two 1 B.buys B.sells
 no0:0≤B.no
 last0:0≤B.last
 last1:B.last≤1048576
theorem Inv.zero:Inv Bok.zero:=⟨⟨Sid.nil _,Sid.nil _,fun k=>by simp [Bok.zero,YZ,cnt],by simp [Bok.zero,YZ],by simp [Bok.zero]⟩,by simp [Bok.zero],by simp [Bok.zero],by simp [Bok.zero]⟩
theorem sd_put {B:Bok} {s:Int} (j:s=1∨s=2) (L:List Lev):(B.put s L).sd s=L∧(B.put s L).sd (3-s)=B.sd (3-s)∧(B.put (3-s) L).sd s=B.sd s∧(B.put (3-s) L).sd (3-s)=L:=by
 rcases j with rfl | rfl <;> simp [Bok.put,Bok.sd]
theorem put_no (B:Bok) (s:Int) (L:List Lev):(B.put s L).no=B.no∧(B.put s L).last=B.last:=by
 unfold Bok.put
 split
 ·exact ⟨rfl,rfl⟩
 split <;> exact ⟨rfl,rfl⟩
theorem Inv.side {B:Bok} (h:Inv B) {s:Int} (j:s=1∨s=2):Two s (B.sd s) (B.sd (3-s)):=by
 rcases j with rfl | rfl
 ·exact h.two
 exact h.two.flip (.inl rfl)
theorem inv_of {B:Bok} {s:Int} (j:s=1∨s=2) (h:Two s (B.sd s) (B.sd (3-s))) (I:0≤B.no) (D:0≤B.last) (H:B.last≤1048576):Inv B:=by
 refine ⟨?_,I,D,H⟩
 rcases j with rfl | rfl
 ·exact h
 exact h.flip (.inr rfl)
theorem cnt_all (B:Bok) {s:Int} (j:s=1∨s=2) (k:Int × Int):cnt k B.all=cnt k (YZ (B.sd s))+cnt k (YZ (B.sd (3-s))):=by
 unfold Bok.all
 rw [YY]
 rcases j with rfl | rfl
 ·rfl
 simp [Bok.sd];omega
theorem len_all (B:Bok) {s:Int} (j:s=1∨s=2):B.len=(YZ (B.sd s)).length+(YZ (B.sd (3-s))).length:=by
 unfold Bok.len Bok.all
 rw [List.length_append]
 rcases j with rfl | rfl
 ·rfl
 simp [Bok.sd];omega
theorem has_iff (B:Bok) (t i:Int):B.has t i=false↔cnt (t,i) B.all=0:=by
 unfold Bok.has Bok.find findE
 constructor
 ·intro h
  by_cases h0:cnt (t,i) B.all=0
  ·exact h0
  obtain ⟨e,j,_⟩:=idx_some h0
  rw [j] at h
  cases h
 intro h
 rw [idx_zero h]
theorem meets_all {o:Ord} {T:List Lev} (D:o.side=1∨o.side=2) (H:Sid (3-o.side) T) (h:o.meets T=false):∀ y ∈ T,bet o.side y.1 o.price=true:=by
 cases T with
 | nil=>simp
 | cons l R=>
  unfold Ord.meets Ord.crosses at h
  simp only [Bool.or_eq_false_iff,Bool.not_eq_false'] at h
  intro y j
  rcases List.mem_cons.1 j with rfl | j
  ·exact h.2
  have:=(List.pairwise_cons.1 H.srt).1 y j
  rw [bet_flip D] at this
  exact bet_trans this h.2
theorem cut_at {o:Ord} (H:o.right=true) (I:o.stop=0) (hk:o.k=1∨o.k=5) {n:Int} (h1:0<n) (h2:n≤o.qty):(Ent.of (o.cut n)).At o.side o.price:=by
 have h:=(UQ o).1 H
 have hk2:o.k≠2:=by omega
 have j:=tip_ok (o.cut n) (by simp only [Ord.cut];omega)
 unfold Ent.ok at j
 have hm:=mn_le o.shw n
 have D:0≤mn o.shw n:=by unfold mn;split <;> omega
 exact ⟨j.1,j.2,by simp only [Ent.of,Ord.cut];omega,rfl,rfl,D,fun h=>tip_le _ h,by
  refine ⟨?_,?_,?_,hk,?_,I⟩ <;> simp only [Ent.of,Ord.cut] <;> omega⟩
theorem right_side {o:Ord} (h:o.right=true):o.side=1∨o.side=2:=by have:=(UQ o).1 h;omega
theorem JJJ {o:Ord} (h:o.right=true):1≤o.qty∧o.qty≤1048576:=by have:=(UQ o).1 h;omega
theorem err_zero {B:Bok} {o:Ord} (h:B.err o=0):o.right=true∧o.stop=0∧B.has o.tr o.id=false∧(o.k=1∨o.k=5→B.len<64)∧(o.k=5→o.meets (B.sd (3-o.side))=false)∧(o.k=4→(B.matched o).left≤0):=by
 unfold Bok.err at h
 split at h
 ·cases h
 rename_i j
 split at h
 ·cases h
 rename_i h2
 split at h
 ·cases h
 rename_i h3
 split at h
 ·cases h
 rename_i h4
 split at h
 ·cases h
 rename_i h5
 have j:=Classical.not_not.1 j
 refine ⟨j.1,j.2,by simpa using h2,fun hk=>?_,fun hk=>?_,fun hk=>?_⟩
 ·exact Nat.lt_of_not_le fun D=>h3 ⟨hk,D⟩
 ·cases H:o.meets (B.sd (3-o.side)) with
  | false=>rfl
  | true=>exact absurd ⟨hk,H⟩ h4
 exact Int.not_lt.1 fun D=>h5 ⟨hk,D⟩
theorem sum_len {s:Int} {o:Ord} {F:List Fl} (h:∀ f ∈ F,f.Ok s o):(F.length:Int)≤sumF F:=by
 induction F with
 | nil=>simp [sumF,Wx]
 | cons f F ih=>
  have h1:=ih (fun x hx=>h x (by simp [hx]))
  have h2:=(h f (by simp)).pos
  rw [sumF_cons]
  simp only [List.length_cons]
  omega
theorem last_in {s:Int} {o:Ord} {P:Int→Prop}:∀ {F:List Fl} {p:Int},P p→(∀ f ∈ F,P f.price)→P (Zq p F)
 | [],p,h,_=>h
 | f::F,p,h,hf=>last_in (s:=s) (o:=o) (F:=F) (hf f (by simp)) (fun x hx=>hf x (by simp [hx]))
structure AddIs (B:Bok) (o:Ord):Prop where
 sd:o.side=1∨o.side=2
 rt:o.right=true
 m:MatchIs (3-o.side) o B.no o.qty (B.sd (3-o.side)) (B.matched o)
 theirs:(B.add o).2.sd (3-o.side)=(B.matched o).L
 mine:(B.add o).2.sd o.side=if B.stays o=true then WY (o.cut (B.matched o).left) (B.sd o.side) else B.sd o.side
 last:(B.add o).2.last=Zq B.last (B.matched o).f
 no:(B.add o).2.no=B.no+(B.matched o).f.length
 oc:(B.add o).1=⟨o,(B.matched o).f,(B.matched o).left,B.stays o,(B.matched o).self,0⟩
 inv:Inv (B.add o).2
 few:((B.matched o).f.length:Int)≤o.qty
 rests:B.stays o=true→RestIs o.side (o.cut (B.matched o).left) (B.sd o.side) (WY (o.cut (B.matched o).left) (B.sd o.side))
theorem stays_iff {B:Bok} {o:Ord}:B.stays o=true↔0<(B.matched o).left∧(B.matched o).self=false∧(o.k=1∨o.k=5):=by
 unfold Bok.stays
 simp [and_assoc]
theorem lev_price {B:Bok} (h:Inv B) {s:Int} (H:s=1∨s=2) {l:Lev} (D:l ∈ B.sd s):1≤l.1∧l.1≤1048576:=by
 have j:=(h.side H).mine
 cases hx:l.2 with
 | nil=>exact absurd hx (j.ne l D)
 | cons e E=>
  have:=j.at_ l D e (by rw [hx];simp)
  have h1:=this.price
  have I:=this.stt
  unfold Ord.stt at I
  omega
theorem add_is {B:Bok} {o:Ord} (h:Inv B) (he:B.err o=0):AddIs B o:=by
 obtain ⟨e1,e2,e3,e4,e5,e6⟩:=err_zero he
 have I:=right_side e1
 have hq:=JJJ e1
 have J:=h.side I
 have a7:3-o.side=1∨3-o.side=2:=by omega
 have j:MatchIs (3-o.side) o B.no o.qty (B.sd (3-o.side)) (B.matched o):=match_is o _ _ _ (by omega) J.theirs
 have ht:(B.traded o).sd (3-o.side)=(B.matched o).L∧(B.traded o).sd o.side=B.sd o.side:=by
  have h3:=sd_put (B:=B) I (B.matched o).L
  exact ⟨h3.2.2.2,h3.2.2.1⟩
 have hu:B.add o=(⟨o,(B.matched o).f,(B.matched o).left,B.stays o,(B.matched o).self,0⟩,if B.stays o=true then (B.traded o).put o.side (WY (o.cut (B.matched o).left) ((B.traded o).sd o.side)) else B.traded o):=by
  unfold Bok.add
  rw [if_neg (by simp [he])]
 have U:(B.add o).2.sd (3-o.side)=(B.matched o).L:=by
  rw [hu]
  simp only
  split
  ·rw [(sd_put I _).2.1,ht.1]
  exact ht.1
 have a5:(B.add o).2.sd o.side=if B.stays o=true then WY (o.cut (B.matched o).left) (B.sd o.side) else B.sd o.side:=by
  rw [hu]
  simp only
  split
  ·rw [(sd_put I _).1,ht.2]
  exact ht.2
 have a6:(B.add o).2.no=B.no+(B.matched o).f.length:=by
  rw [hu]
  simp only
  split
  ·rw [(put_no _ _ _).1];rfl
  rfl
 have O:(B.add o).2.last=Zq B.last (B.matched o).f:=by
  rw [hu]
  simp only
  split
  ·rw [(put_no _ _ _).2];rfl
  rfl
 have hsl:=sum_len j.ok
 have hsum:=j.sum
 have hl0:=j.left0
 have a4:∀ f ∈ (B.matched o).f,1≤f.price∧f.price≤1048576:=fun f hf=>by
  obtain ⟨l,hl,e⟩:=j.flev f hf
  rw [← e]
  exact lev_price h a7 hl
 have hc0:cnt (o.tr,o.id) (YZ (B.sd o.side))+cnt (o.tr,o.id) (YZ (B.sd (3-o.side)))=0:=by
  rw [← cnt_all B I]
  exact (has_iff B _ _).1 e3
 have H:B.stays o=true→RestIs o.side (o.cut (B.matched o).left) (B.sd o.side) (WY (o.cut (B.matched o).left) (B.sd o.side)):=fun D=>by
  obtain ⟨k1,k2,k3⟩:=stays_iff.1 D
  exact rest_is (s:=o.side) (o:=o.cut (B.matched o).left) rfl (cut_at e1 e2 k3 k1 (by omega)) _ J.mine
 refine ⟨I,e1,j,U,a5,O,a6,by rw [hu],?_,by omega,H⟩
 refine inv_of I ?_ (by rw [a6];have:=h.no0;omega) (by rw [O];exact last_in (s:=0) (o:=o) (P:=fun x=>0≤x) h.last0 (fun f hf=>by have:=a4 f hf;omega)) (by rw [O];exact last_in (s:=0) (o:=o) (P:=fun x=>x≤1048576) h.last1 (fun f hf=>(a4 f hf).2))
 rw [U,a5]
 by_cases D:B.stays o=true
 ·rw [if_pos D]
  obtain ⟨k1,k2,k3⟩:=stays_iff.1 D
  have N:=H D
  have a8:=e4 k3
  rw [len_all B I] at a8
  have hl:=N.len
  have hl2:=j.len
  refine ⟨⟨N.fr,N.ne,N.at_,N.srt,by omega⟩,j.sid,fun k=>?_,by omega,fun x hx y hy=>?_⟩
  ·have a1:cnt k (YZ (WY (o.cut (B.matched o).left) (B.sd o.side)))=cnt k (YZ (B.sd o.side))+(if (o.tr,o.id)=k then 1 else 0):=N.cnt k
   have a2:=j.cnt k
   have a3:=J.uniq k
   rw [a1]
   by_cases hk:(o.tr,o.id)=k
   ·subst hk
    rw [if_pos rfl]
    omega
   rw [if_neg hk]
   omega
  rcases N.lev x hx with e | ⟨z,hz,e⟩
  ·rw [e]
   exact meets_all I j.sid (j.done k2 k1) y hy
  obtain ⟨v,hv,e'⟩:=j.lev y hy
  rw [← e,← e']
  exact J.apart z hz v hv
 rw [if_neg D]
 refine ⟨J.mine,j.sid,fun k=>?_,?_,fun x hx y hy=>?_⟩
 ·have a2:=j.cnt k
  have a3:=J.uniq k
  omega
 ·have a2:=j.len
  have a3:=J.few
  omega
 obtain ⟨v,hv,e'⟩:=j.lev y hy
 rw [← e']
 exact J.apart x hx v hv
theorem yj {B:Bok} {o:Ord} (j:B.err o≠0):B.add o=(⟨o,[],o.qty,false,false,B.err o⟩,B):=by
 unfold Bok.add
 rw [if_pos j]
theorem inv_add {B:Bok} {o:Ord} (h:Inv B):Inv (B.add o).2∧B.no≤(B.add o).2.no∧(B.add o).2.no≤B.no+1048576:=by
 by_cases he:B.err o=0
 ·have j:=add_is h he
  have h1:=j.no
  have h2:=j.few
  have h3:=JJJ j.rt
  exact ⟨j.inv,by omega,by omega⟩
 rw [yj he]
 exact ⟨h,Int.le_refl _,by simp only;omega⟩
theorem inv_remove {B:Bok} (h:Inv B) (t i:Int):Inv (B.remove t i).2.2∧(B.remove t i).2.2.no=B.no:=by
 have D:=xY t i B.buys h.two.mine
 have j:=xY t i B.sells h.two.theirs
 unfold Bok.remove
 split
 ·refine ⟨⟨⟨D.sid,h.two.theirs,fun k=>?_,?_,fun x hx y N=>?_⟩,h.no0,h.last0,h.last1⟩,rfl⟩
  ·have H:=D.cnts k
   have J:=h.two.uniq k
   simp only
   omega
  ·have H:=D.len
   have J:=h.two.few
   simp only
   omega
  obtain ⟨v,I,e⟩:=D.lev x hx
  rw [← e]
  exact h.two.apart v I y N
 split
 ·refine ⟨⟨⟨h.two.mine,j.sid,fun k=>?_,?_,fun x hx y N=>?_⟩,h.no0,h.last0,h.last1⟩,rfl⟩
  ·have H:=j.cnts k
   have J:=h.two.uniq k
   simp only
   omega
  ·have H:=j.len
   have J:=h.two.few
   simp only
   omega
  obtain ⟨v,I,e⟩:=j.lev y N
  rw [← e]
  exact h.two.apart x hx v I
 exact ⟨h,rfl⟩
theorem lev_of_map {L M:List Lev} (h:L.map (·.1)=M.map (·.1)) {x:Lev} (hx:x ∈ L):∃ y ∈ M,y.1=x.1:=by
 have:x.1 ∈ M.map (·.1):=by rw [← h];exact List.mem_map.2 ⟨x,hx,rfl⟩
 obtain ⟨y,j,e⟩:=List.mem_map.1 this
 exact ⟨y,j,e⟩
theorem inv_less {B:Bok} (h:Inv B) (t i q:Int):Inv (B.less t i q).2∧(B.less t i q).2.no=B.no:=by
 have D:=JQj t i q B.buys h.two.mine
 have j:=JQj t i q B.sells h.two.theirs
 unfold Bok.less
 split
 ·refine ⟨⟨⟨D.sid,h.two.theirs,fun k=>?_,?_,fun x hx y N=>?_⟩,h.no0,h.last0,h.last1⟩,rfl⟩
  ·have H:=D.cnts k
   have J:=h.two.uniq k
   simp only
   omega
  ·have H:=D.len
   have J:=h.two.few
   simp only
   omega
  obtain ⟨v,I,e⟩:=lev_of_map D.lev hx
  rw [← e]
  exact h.two.apart v I y N
 split
 ·refine ⟨⟨⟨h.two.mine,j.sid,fun k=>?_,?_,fun x hx y N=>?_⟩,h.no0,h.last0,h.last1⟩,rfl⟩
  ·have H:=j.cnts k
   have J:=h.two.uniq k
   simp only
   omega
  ·have H:=j.len
   have J:=h.two.few
   simp only
   omega
  obtain ⟨v,I,e⟩:=lev_of_map j.lev N
  rw [← e]
  exact h.two.apart x hx v I
 exact ⟨h,rfl⟩
theorem yV (L:List Lev):(XJ L).length=(YZ L).length:=by simp [XJ]
theorem match_none {o:Ord} {no q:Int}:∀ {L:List Lev},o.meets L=false→Yq o no q L=⟨[],q,false,L⟩
 | [],_=>rfl
 | l::R,h=>by
  rw [Yq,if_neg]
  unfold Ord.meets at h
  rintro ⟨_,j⟩
  simp only at h
  rw [h] at j
  cases j
section
variable {P:Program} {ops:Array Oper} {Q:Exit→Act→World→Prop} {V:List Kn} {m:Nat} {a0:Act} {w0:World} {c0:Value} {R:Value→World→World→Prop}
structure TInv (ops:Array Oper) (V:List Kn) (m:Nat) (a0:Act) (w0:World) (c0:Value) (R:Value→World→World→Prop) (ls:Array Bool) (a:Act) (w:World):Prop where
 head:HeadInv .any ops (m+1) ls
 defers:a.defers=a0.defers
 size:a.tmps.size=a0.tmps.size
 env:∀ t,(∀ i,i<m+1→ls.getD i false=true→QY ops i≠some t)→a.tmps[t]?=a0.tmps[t]?
 zero:ls.getD 0 false=true→∀ d,QY ops 0=some d→a.tmps.getD d undef=c0
 early:ls.getD m false=false→(∀ i d,i<m→ls.getD i false=true→QY ops i=some d→(UY V i).p (a.tmps.getD d undef) w)∧Kept w0 w
 late:ls.getD m false=true→(∀ i,1≤i→i<m+1→ls.getD i false=true)∧∃ w1,Kept w0 w1∧(∀ i d,1≤i→i<m→QY ops i=some d→(UY V i).p (a.tmps.getD d undef) w1)∧∀ d,QY ops m=some d→R (a.tmps.getD d undef) w1 w
def TZero (P:Program) (ops:Array Oper) (Q:Exit→Act→World→Prop) (n:Nat) (a0:Act) (c0:Value):Prop:=∀ a w,FEnv ops n a0 a→wpOp P ops Q 0 (fun a' w'=>a'=a.put (QY ops 0) c0∧w'=w) a w
def TLast (P:Program) (ops:Array Oper) (Q:Exit→Act→World→Prop) (V:List Kn) (m:Nat) (a0:Act) (w0:World) (R:Value→World→World→Prop):Prop:=
 ∀ a w,FEnv ops (m+1) a0 a→FDep ops V m a w→Kept w0 w→wpOp P ops Q m (fun a' w'=>∃ v,a'=a.put (QY ops m) v∧R v w w') a w
def sinkT (ops:Array Oper) (m:Nat):Bool:=decide (0<m) && (List.range m).all fun i=>i == 0 || (List.range (m+1)).any fun j=>decide (i<j) && Region.waitsFor .any ops j i
theorem waits_on {j i:Nat} {D:Oper} (h:Region.waitsFor .any ops j i=true) (H:ops[j]?=some D):∃ e ∈ D.after,Region.binds .any e=true∧e.on=i:=by
 unfold Region.waitsFor at h
 simp only [H] at h
 simp only [Array.any_eq_true',Bool.and_eq_true,beq_iff_eq] at h
 obtain ⟨e,J,I⟩:=h
 exact ⟨e,J,by simpa using I⟩
theorem freeT_go (hV0:V.length=m) (aQ:V[0]?=some (.eq c0)) (hB:freeB ops (m+1) a0.tmps.size=true) (ag:sinkT ops m=true) (aJ:∀ i K,1≤i→V[i]?=some K→FStep P ops Q V (m+1) a0 w0 i K)
  (hz:TZero P ops Q (m+1) a0 c0) (hm:TLast P ops Q V m a0 w0 R)
  (aD:∀ a w,TInv ops V m a0 w0 c0 R (Array.replicate (m+1) true++Array.replicate (ops.size-(m+1)) false) a w→wpAny P .any ops Q (ops.size-(m+1)) (Array.replicate (m+1) true++Array.replicate (ops.size-(m+1)) false) a w) :
  ∀ (f:Nat) (U:List Nat) (I:Array Bool) (a:Act) (w:World),U.length=f→U.Nodup→(∀ i,i ∈ U↔i<m+1∧I.getD i true=false)→TInv ops V m a0 w0 c0 R I a w→wpAny P .any ops Q (f+(ops.size-(m+1))) I a w:=by
 obtain ⟨hn,aI,hseq,aB⟩:=jj hB
 simp only [sinkT,Bool.and_eq_true,decide_eq_true_eq] at ag
 obtain ⟨hm0,ag⟩:=ag
 have ai:∀ i,i<m+1→∃ o d,ops[i]?=some o∧o.dst=some d∧d<a0.tmps.size∧(∀ j,j<i→QY ops j≠some d)∧∀ e ∈ o.after,Region.binds .any e=true→e.on<i:=by
  intro i hi
  have h:=List.all_eq_true.1 aB i (by simpa using hi)
  cases ho:ops[i]? with
  | none=>rw [ho] at h;cases h
  | some o=>
   rw [ho] at h
   simp only [Bool.and_eq_true] at h
   cases hd:o.dst with
   | none=>rw [hd] at h;cases h.1
   | some d=>
    rw [hd] at h
    simp only [Bool.and_eq_true,decide_eq_true_eq,List.all_eq_true,List.mem_range,bne_iff_ne] at h
    refine ⟨o,d,rfl,hd,h.1.1,h.1.2,fun e D hb=>?_⟩
    have h2:=(Array.all_eq_true_iff_forall_mem.1 h.2) e D
    simpa [hb] using h2
 intro f
 induction f with
 | zero=>
  intro U I a w hU _ a3 inv
  have aH:U=[]:=List.eq_nil_of_length_eq_zero hU
  have aN:I=Array.replicate (m+1) true++Array.replicate (ops.size-(m+1)) false:=by
   apply Array.ext
   ·simp [inv.head.size];omega
   intro i h1 h2
   have aL:=inv.head.size
   by_cases hi:i<m+1
   ·have h3:¬ (i<m+1∧I.getD i true=false):=by
     intro h
     have:=(a3 i).2 h
     rw [aH] at this
     cases this
    have h4:I.getD i true=true:=by
     cases hq:I.getD i true with
     | true=>rfl
     | false=>exact (h3 ⟨hi,hq⟩).elim
    rw [Array.getElem_append_left (by simpa using hi)]
    simp [h1] at h4
    simp [h4]
   have h4:=inv.head.tail i (by omega) (by omega)
   rw [Array.getElem_append_right (by simpa using hi)]
   simp [h1] at h4
   simp [h4]
  rw [Nat.zero_add]
  subst aN
  exact aD a w inv
 | succ f ih=>
  intro U I a w hU ah a3 inv
  have aL:=inv.head.size
  rw [show f+1+(ops.size-(m+1))=(f+(ops.size-(m+1)))+1 by omega]
  obtain ⟨u,hu⟩:∃ u,u ∈ U:=by
   cases U with
   | nil=>simp at hU
   | cons u U=>exact ⟨u,by simp⟩
  obtain ⟨ax,ar⟩:=(a3 u).1 hu
  refine ⟨fun h0=>?_,fun i hi=>?_⟩
  ·exfalso
   have key:∀ k i,i≤k→i<m+1→I.getD i true=true:=by
    intro k
    induction k using Nat.strongRecOn with
    | _ k ihk=>
     intro i hik O
     cases hq:I.getD i true with
     | true=>rfl
     | false=>
      obtain ⟨o,d,ho,_,_,_,a9⟩:=ai i O
      have:i ∈ Region.ready .any ops I:=mem_ready.2 ⟨hq,o,ho,fun e D hb=>by
       have hlt:=a9 e D hb
       have:=ihk (k-1) (by omega) e.on (by omega) (by omega)
       exact getD_tf this (by omega)⟩
      rw [h0] at this
      cases this
   rw [key u u (Nat.le_refl _) ax] at ar
   cases ar
  have O:i<m+1:=Nat.lt_of_not_le fun h=>tail_waits (aI (Nat.lt_of_le_of_lt h (by obtain ⟨_,o1,af,_⟩:=mem_ready.1 hi;exact (Array.getElem?_eq_some_iff.1 af).1))).1 (aI (Nat.lt_of_le_of_lt h (by obtain ⟨_,o1,af,_⟩:=mem_ready.1 hi;exact (Array.getElem?_eq_some_iff.1 af).1))).2 (Nat.lt_of_le_of_lt h (by obtain ⟨_,o1,af,_⟩:=mem_ready.1 hi;exact (Array.getElem?_eq_some_iff.1 af).1)) inv.head _ u rfl ax ar i h hi
  obtain ⟨al,oi,aY,ab⟩:=mem_ready.1 hi
  obtain ⟨o,d,ho,hd,aG,aU,a9⟩:=ai i O
  obtain rfl:oi=o:=Option.some.inj (aY.symm.trans ho)
  have a2:QY ops i=some d:=by simp [QY,ho,hd]
  have ae:I.getD i false=false:=getD_both al
  have az:∀ j,j<m+1→j≠i→QY ops j≠some d:=by
   intro j hj hij au
   by_cases am:j<i
   ·exact aU j am au
   obtain ⟨oj,dj,aX,ao,_,aF,_⟩:=ai j hj
   have:dj=d:=by
    have h1:QY ops j=some dj:=by simp [QY,aX,ao]
    rw [h1] at au
    injection au
   subst this
   exact aF i (by omega) a2
  have av:d<a.tmps.size:=by rw [inv.size];exact aG
  have a1:∀ v,(a.put (some d) v).tmps.getD d undef=v:=fun v=>by simp [Act.put,av]
  have J:∀ v j e,j<m+1→j≠i→QY ops j=some e→(a.put (some d) v).tmps.getD e undef=a.tmps.getD e undef:=by
   intro v j e hj am D
   have:d≠e:=fun h=>az j hj am (by rw [D,h])
   simp only [Act.put,Array.getD_eq_getD_getElem?,xJ]
   rw [if_neg (fun h=>this h.1)]
  have aw:FEnv ops (m+1) a0 a:=by
   intro t v ht hv
   have aS:∀ k,k<m+1→I.getD k false=true→QY ops k≠some t:=fun k a4 _=>by simpa using List.all_eq_true.1 ht k (by simpa using a4)
   have h1:=inv.env t aS
   rw [← hv]
   simp only [Act.eval,Array.getD_eq_getD_getElem?,h1]
  have aq:∀ k,k ∈ U.erase i↔k<m+1∧(I.setIfInBounds i true).getD k true=false:=by
   intro k
   rw [ah.mem_erase_iff,a3 k]
   by_cases hki:k=i
   ·subst hki
    simp
   rw [getD_set_ne true (fun h=>hki h.symm)]
   simp [hki]
  have ad:∀ v t,(∀ k,k<m+1→(I.setIfInBounds i true).getD k false=true→QY ops k≠some t)→(a.put (some d) v).tmps[t]?=a0.tmps[t]?:=by
   intro v t ht
   have h1:=inv.env t (fun k a4 N=>ht k a4 (getD_set_true N))
   have h2:d≠t:=fun h=>ht i O (by simp [show i<I.size by omega]) (by rw [a2,h])
   simp only [Act.put,xJ]
   rw [if_neg (fun h=>h2 h.1),h1]
  have aa:(U.erase i).length=f:=by rw [List.length_erase_of_mem ((a3 i).2 ⟨O,al⟩)];omega
  have H:∀ k,k≠i→(I.setIfInBounds i true).getD k false=I.getD k false:=fun k hk=>getD_set_ne false (fun h=>hk h.symm)
  have a8:(I.setIfInBounds i true).getD i false=true:=by simp [show i<I.size by omega]
  have ak:I.getD m false=false→FDep ops V i a w:=by
   intro a7 j e aC
   simp only [Bool.and_eq_true,beq_iff_eq,ho,Option.map_some,Option.some.injEq,Array.any_eq_true'] at aC
   obtain ⟨⟨x,hx,ay,aK⟩,ao⟩:=aC
   subst aK
   exact (inv.early a7).1 x.on e (by have:=a9 x hx ay;omega) (ab x hx ay) ao
  by_cases him:i=m
  ·subst him
   obtain ⟨hv,hk⟩:=inv.early ae
   have aj:∀ k j,1≤j→j<i→i≤j+k→I.getD j false=true:=by
    intro k
    induction k with
    | zero=>intro j _ h1 h2;omega
    | succ k ihk=>
     intro j hj1 aM hjk
     have h:=List.all_eq_true.1 ag j (by simpa using aM)
     simp only [Bool.or_eq_true,beq_iff_eq,List.any_eq_true,List.mem_range,Bool.and_eq_true,decide_eq_true_eq] at h
     rcases h with h | ⟨q,aO,hq2,aW⟩
     ·omega
     obtain ⟨oq,dq,an,_,_,_,_⟩:=ai q aO
     obtain ⟨e,D,hb,aA⟩:=waits_on aW an
     by_cases hqi:q=i
     ·subst hqi
      obtain rfl:oq=oi:=Option.some.inj (an.symm.trans ho)
      rw [← aA]
      exact ab e D hb
     have:=inv.head.closed q oq an (ihk q (by omega) (by omega) (by omega)) e D hb
     rw [← aA]
     exact this
   refine wpOp_mono ?_ (hm a w aw (ak ae) hk)
   rintro a' w' ⟨v,rfl,hR⟩
   rw [a2]
   refine ih (U.erase i) _ _ w' aa (ah.erase _) aq ⟨inv.head.set hi O,inv.defers,by simp [Act.put,inv.size],ad v,fun N e D=>?_,fun N=>?_,fun _=>⟨fun k a6 a5=>?_,w,hk,fun k e a6 a5 D=>?_,fun e D=>?_⟩⟩
   ·rw [H 0 (by omega)] at N
    rw [J v 0 e (by omega) (by omega) D]
    exact inv.zero N e D
   ·rw [a8] at N
    cases N
   ·by_cases hki:k=i
    ·subst hki;exact a8
    rw [H k hki]
    exact aj i k a6 (by omega) (by omega)
   ·rw [J v k e (by omega) (by omega) D]
    exact hv k e a5 (aj i k a6 a5 (by omega)) D
   rw [a2] at D
   injection D with D
   subst D
   rw [a1]
   exact hR
  by_cases hi0:i=0
  ·subst hi0
   refine wpOp_mono ?_ (hz a w aw)
   rintro a' w' ⟨rfl,rfl⟩
   rw [a2]
   refine ih (U.erase 0) _ _ w' aa (ah.erase _) aq ⟨inv.head.set hi O,inv.defers,by simp [Act.put,inv.size],ad c0,fun _ e D=>?_,fun N=>⟨fun k e a4 ac D=>?_,?_⟩,fun N=>?_⟩
   ·rw [a2] at D
    injection D with D
    subst D
    exact a1 c0
   ·rw [H m (fun h=>him h.symm)] at N
    by_cases hk0:k=0
    ·subst hk0
     rw [a2] at D
     injection D with D
     subst D
     rw [a1]
     have:UY V 0=.eq c0:=by unfold UY;rw [List.getD_eq_getElem?_getD,aQ];rfl
     rw [this]
     exact rfl
    rw [H k hk0] at ac
    rw [J c0 k e (by omega) hk0 D]
    exact (inv.early N).1 k e a4 ac D
   ·rw [H m (fun h=>him h.symm)] at N
    exact (inv.early N).2
   rw [H m (fun h=>him h.symm)] at N
   obtain ⟨h1,w1,h2,h3,h4⟩:=inv.late N
   refine ⟨fun k a6 a5=>by rw [H k (by omega)];exact h1 k a6 a5,w1,h2,fun k e a6 a5 D=>?_,fun e D=>?_⟩
   ·rw [J c0 k e (by omega) (by omega) D]
    exact h3 k e a6 a5 D
   rw [J c0 m e (by omega) (by omega) D]
   exact h4 e D
  have a7:I.getD m false=false:=by
   cases hq:I.getD m false with
   | false=>rfl
   | true=>
    have:=(inv.late hq).1 i (by omega) O
    rw [ae] at this
    cases this
  obtain ⟨hv,hk⟩:=inv.early a7
  have hK:V[i]?=some (UY V i):=by
   unfold UY
   rw [List.getD_eq_getElem?_getD,List.getElem?_eq_getElem (by omega)]
   rfl
  refine wpOp_mono ?_ (aJ i _ (by omega) hK a w aw (ak a7) hk)
  rintro a' w' ⟨v,rfl,aR,aE⟩
  rw [a2]
  refine ih (U.erase i) _ _ w' aa (ah.erase _) aq ⟨inv.head.set hi O,inv.defers,by simp [Act.put,inv.size],ad v,fun N e D=>?_,fun N=>⟨fun k e a4 ac D=>?_,hk.trans aE⟩,fun N=>?_⟩
  ·rw [H 0 (by omega)] at N
   rw [J v 0 e (by omega) (by omega) D]
   exact inv.zero N e D
  ·by_cases hki:k=i
   ·subst hki
    rw [a2] at D
    injection D with D
    subst D
    rw [a1]
    exact aR
   rw [H k hki] at ac
   rw [J v k e (by omega) hki D]
   exact (UY V k).st _ _ _ (hv k e a4 ac D) aE
  rw [H m (fun h=>him h.symm),a7] at N
  cases N
theorem actT_filled {a:Act} {w:World} {H:Array Bool} (hl:∀ i,i<m+1→H.getD i false=true) (inv:TInv ops V m a0 w0 c0 R H a w):a=⟨(Wy ops (m+1)).foldl (fun t d=>t.setIfInBounds d (a.tmps.getD d undef)) a0.tmps,a0.defers⟩:=by
 obtain ⟨t,df⟩:=a
 have D:=inv.defers
 simp only at D
 subst D
 congr 1
 apply Array.ext_getElem?
 intro e
 rw [JJQ]
 have j:=inv.size
 simp only at j
 by_cases hm:e ∈ Wy ops (m+1)
 ·by_cases hlt:e<a0.tmps.size
  ·rw [if_pos ⟨hm,hlt⟩]
   have:e<t.size:=by omega
   simp [this]
  rw [if_neg (fun h=>hlt h.2),Array.getElem?_eq_none (by omega),Array.getElem?_eq_none (by omega)]
 rw [if_neg (fun h=>hm h.1)]
 exact inv.env e (fun i I _ h=>hm (List.mem_filterMap.2 ⟨i,by simpa using I,h⟩))
def TVals (ops:Array Oper) (V:List Kn) (g:Nat→Value) (w:World):Prop:=∀ i d,(decide (1≤i) && decide (i<V.length) && QY ops i == some d)=true→(UY V i).p (g d) w
theorem JJZ {id:Nat} {a:Act} {w:World} {l:List Oper} (m:Nat) (V:List Kn) (c0:Value) (R:Value→World→World→Prop) (a3:P.follows Departure.mixedOrders=true) (hV:V.length=m) (U:V[0]?=some (.eq c0)) (hB:freeB l.toArray (m+1) a.tmps.size=true) (a1:sinkT l.toArray m=true)
  (hz:TZero P l.toArray Q (m+1) a c0) (hs:FSteps P l.toArray Q V (m+1) a w 1 (V.drop 1)) (hm:TLast P l.toArray Q V m a w R)
  (hf:∀ (g:Nat→Value) N w',TVals l.toArray V g N→(∀ d,QY l.toArray 0=some d→g d=c0)→(∀ d,QY l.toArray m=some d→R (g d) N w')→Kept w N→wpList P l.toArray Q (l.drop (m+1)) ⟨(Wy l.toArray (m+1)).foldl (fun t d=>t.setIfInBounds d (g d)) a.tmps,a.defers⟩ w'):(Code.region id l.toArray true).wp P Q a w:=by
 have a2:=hB
 obtain ⟨hn,_,J,_⟩:=jj a2
 have hn':m+1≤l.length:=by simpa using hn
 have I:(l.drop (m+1)).length=l.toArray.size-(m+1):=by simp
 refine wp_region_any a3 ?_
 have:=freeT_go (P:=P) (Q:=Q) (w0:=w) hV U hB a1 (fun i K O hK=>by
  have:=fsteps_at (V.drop 1) 1 hs (i-1) K (by rw [List.getElem?_drop,show 1+(i-1)=i by omega];exact hK)
  rwa [show 1+(i-1)=i by omega] at this) hz hm (fun b u inv=>?_) (m+1) (List.range (m+1)) (Array.replicate l.toArray.size false) a w.drew (by simp) List.nodup_range ?_ ?_
 ·have e:m+1+(l.toArray.size-(m+1))=l.toArray.size:=by omega
  rw [e] at this
  exact this
 ·have D:∀ i,i<m+1→(Array.replicate (m+1) true++Array.replicate (l.toArray.size-(m+1)) false).getD i false=true:=by
   intro i O
   have a4:i<(Array.replicate (m+1) true++Array.replicate (l.toArray.size-(m+1)) false).size:=by simp;omega
   rw [Array.getD,dif_pos a4]
   show (Array.replicate (m+1) true++Array.replicate (l.toArray.size-(m+1)) false)[i]=true
   rw [Array.getElem_append_left (by simpa using O)]
   simp
  obtain ⟨_,N,h1,h2,h3⟩:=inv.late (D m (by omega))
  have h4:=hf (fun d=>b.tmps.getD d undef) N u (fun i d H=>by
   simp only [Bool.and_eq_true,decide_eq_true_eq,beq_iff_eq] at H
   exact h2 i d H.1.1 (by omega) H.2) (inv.zero (D 0 (by omega))) h3 h1
  rw [← actT_filled D inv] at h4
  have:=wpAny_of_seq (P:=P) (md:=.any) (ops:=l.toArray) (Q':=Q) (l.drop (m+1)) (m+1) _ b u (fun j=>by simp) (by rw [I];exact J) h4
  rw [I] at this
  exact this
 ·intro i
  rw [List.mem_range]
  constructor
  ·intro O
   exact ⟨O,getD_in (by simp;omega) (getD_replicate_false _ _)⟩
  exact fun h=>h.1
 refine ⟨⟨by simp,fun j oj _ D=>(by rw [getD_replicate_false] at D;cases D),fun t _ ht=>getD_in (by simpa using ht) (getD_replicate_false _ _)⟩,rfl,rfl,fun _ _=>rfl,fun D=>(by rw [getD_replicate_false] at D;cases D),fun _=>⟨fun i d _ D=>(by rw [getD_replicate_false] at D;cases D),Keep.drew (Keep.refl _ w)⟩,fun D=>(by rw [getD_replicate_false] at D;cases D)⟩
theorem t_zero {t d:Nat} {n:Nat} (o:Oper) (D:ops[0]?=some o) (N:o.guard=none) (j:o.op=.move (.tmp t)) (I:((List.range n).all fun i=>QY ops i != some t)=true) (H:a0.eval (.tmp t)=c0):TZero P ops Q n a0 c0:=by
 intro a w J
 unfold wpOp
 simp only [D,JQ N,if_true]
 refine .inl ?_
 unfold Oper.wp
 have:(execOp a.eval o).run P w=.ok (.value c0) w:=by
  unfold execOp
  simp only [j,J t c0 I H]
  simp [go_sem]
 rw [this]
 exact ⟨by simp [QY,D],rfl⟩
theorem t_last {v:Value} {w':World} {a:Act} {w:World} {o:Oper} (j:ops[m]?=some o) (D:Region.wanted o (yielded ops a.tmps)=true) (h:(execOp a.eval o).run P w=.ok (.value v) w') (H:R v w w'):wpOp P ops Q m (fun I w'=>∃ v,I=a.put (QY ops m) v∧R v w w') a w:=by
 unfold wpOp
 simp only [j,D,if_true]
 refine .inl ?_
 unfold Oper.wp
 rw [h]
 exact ⟨v,by simp [QY,j],H⟩
end
def Lvl (pr:Int) (T E:TypeId) (w:World) (F:Nat→Prop) (p:Nat) (X:List Ent):Prop:=
 F p∧(∀ b,F b→b<w.heap.size)∧∃ v,Blk w p T [.int .i64 pr,v]∧Sl w E 10 v X.length (ents X)∧∀ b,v.ownBlock=some b→F b∧b≠p
theorem Lvl.keep {S F:Nat→Prop} {pr:Int} {T E:TypeId} {w w':World} {p:Nat} {X:List Ent} (h:Lvl pr T E w F p X) (hk:Keep S w w') (H:∀ b,F b→¬ S b):Lvl pr T E w' F p X:=by
 obtain ⟨I,J,v,N,O,D⟩:=h
 exact ⟨I,fun b j=>Nat.lt_of_lt_of_le (J b j) hk.size,v,N.keep hk (H p I),O.keep hk (fun b j=>H b (D b j).1),D⟩
theorem Lvl.kept {F:Nat→Prop} {pr:Int} {T E:TypeId} {w w':World} {p:Nat} {X:List Ent} (h:Lvl pr T E w F p X) (hk:Kept w w'):Lvl pr T E w' F p X:=h.keep hk (fun _ _ h=>h)
def Grow (w:World) (F F':Nat→Prop):Prop:=∀ b,F' b→F b∨w.heap.size≤b
theorem Grow.refl (w:World) (F:Nat→Prop):Grow w F F:=fun b h=>.inl h
theorem Grow.trans {w w':World} {F F' j:Nat→Prop} (h:Grow w F F') (I:Grow w' F' j) (hs:w.heap.size≤w'.heap.size):Grow w F j:=fun b H=>by
 rcases I b H with D | D
 ·exact h b D
 exact .inr (by omega)
theorem Grow.keep {w w' j:World} {F F':Nat→Prop} (h:Grow w F F') (hk:Keep F w w') (D:Keep F' w' j):Keep F w j:=hk.trans D (fun b hb I=>by
 rcases h b I with H | H
 ·exact H
 omega)
theorem xX {w:World} {g off:Nat} {e:Ent} (h:w.rangeAt g off e.cells):w.rangeAt g off e.o.cells:=qX h 9
theorem jY (u:World) (T:TypeId) (k:Nat) (cs:List Value) (base:Nat) (hl:cs.length=k) (hk:k≤1000) (hb:base≤u.heap.size) :
  Sl (u.alloc (.cells cs.toArray T)) T k (.slice (some ⟨u.heap.size,0,none⟩) 1 1) 1 cs∧∀ b,(Value.slice (some ⟨u.heap.size,0,none⟩) 1 1).ownBlock=some b→base≤b:=by
 refine ⟨⟨by omega,_,1,rfl,Nat.le_refl _,by unfold maxLen;omega,fun h=>(by cases h),fun ad j=>?_⟩,fun b D=>by simp [Value.ownBlock] at D;omega⟩
 injection j with j
 subst j
 exact ⟨_,0,cs,rfl,Blk.new u T cs,by omega,by rw [List.drop_zero,List.take_of_length_le (by omega)]⟩
def Kn.emp (base:Nat) (T:TypeId):Kn:=⟨fun v w=>∃ g,v=.slice (some ⟨g,0,none⟩) 0 0∧base≤g∧Blk w g T [],fun _ _ _ ⟨g,h1,h2,h3⟩ hk=>⟨g,h1,h2,h3.kept hk⟩⟩
theorem Zx {t T:TypeId} {k bytes:Nat} (U:SlT t T k bytes) (ty:TypeId) (w:World) (v x:Value) (m base:Nat) (O:List Value) (hv:(Kn.emp base T).p v w) (hx:Sl w T k x m O) (h1:∀ u ∈ O,u.oneCell'=true) (ac:m≤1000000000) (a3:bytes≤1000) (hb:base≤w.heap.size) :
  ∃ v' w',(Builtin.append_ #[t,t] ty #[v,x]).run Tryz.prog w=.ok v' w'∧(Kn.sl base T k m O).p v' w'∧Kept w w':=by
 obtain ⟨g,rfl,hg,hB⟩:=hv
 have hv:Sl w T k (.slice (some ⟨g,0,none⟩) 0 0) 0 []:=⟨by simp,_,0,rfl,Nat.le_refl _,Nat.zero_le _,fun h=>(by cases h),fun ad N=>by
  injection N with N
  subst N
  exact ⟨g,0,[],rfl,hB,by simp,by simp⟩⟩
 have hmb:m*bytes≤1000000000*1000:=Nat.mul_le_mul ac a3
 obtain ⟨v',w',D,hs,hk,ho⟩:=QQ U ty w _ x 0 m [] O hv hx h1 (by unfold maxLen;omega) (by rw [Nat.zero_add];omega)
 rw [Nat.zero_add,List.nil_append] at hs
 refine ⟨v',w',D,⟨hs,fun b J=>?_⟩,?_⟩
 ·rcases ho b J with h | h
  ·simp [Value.ownBlock] at h
   omega
  omega
 -- the empty block is not turned
 refine ⟨hk.os,hk.tape,hk.output,hk.size,fun b J _=>?_⟩
 by_cases e:b=g
 ·subst e
  obtain ⟨z,hz,ae,_⟩:=U.info
  obtain ⟨i0,hi,a8,a1,ab⟩:=info_parts hz
  obtain ⟨a6,B,d,rfl,hd1,hd2,a7,a9⟩:=hx
  cases B with
  | none=>
   have:=a7 rfl
   subst this
   have:m=0:=by omega
   subst this
   have e1:(Builtin.append_ #[t,t] ty #[.slice (some ⟨b,0,none⟩) 0 0,.slice none 0 0]).run Tryz.prog w=.ok (.slice (some ⟨b,0,none⟩) 0 0) w:=by
    simp [Builtin.append_,run_underlying U.und,sizeOf,typeInfo,hi,Builtin.lenOf,Builtin.firstCells,loadCells,storeCells]
   rw [e1] at D
   injection D with _ D
   rw [D]
  | some ad=>
   obtain ⟨g2,H,cur2,rfl,a4,hle2,a2⟩:=a9 _ rfl
   have I:∀ j u,O[j]?=some u→w.cell? ((⟨g2,H,none⟩:Addr).add j)=some u:=fun j u hu=>by rw [Addr.add_mid];exact jJ a4 a2 j u hu
   by_cases hm:m=0
   ·subst hm
    have:O=[]:=List.eq_nil_of_length_eq_zero (by omega)
    subst this
    subst a1
    have e1:=run_append_room_cells (P:=Tryz.prog) w t ty T i0 U.und hi b 0 0 0 ⟨g2,H,none⟩ 0 d [] (by simp) I h1 (by omega) (by simp) (by simp)
    rw [e1] at D
    injection D with _ D
    rw [← D]
    simp [World.setCells]
   obtain ⟨v2,w2,aa,hown,a5⟩:=run_append_arg_grows (P:=Tryz.prog) w t ty T i0 z k bytes U.und hi a8 a1 ab ae U.pos ⟨b,0,none⟩ 0 0 [] (by simp) (by simp) ⟨g2,H,none⟩ m d O a6 I (by omega) (by unfold maxLen;omega) (by rw [Nat.zero_add];omega)
   rw [aa] at D
   injection D with _ D
   rw [← D]
   exact a5.block b J (by simp)
 exact hk.block b J (by simp [Value.ownBlock];omega)
theorem builtE (o:Ord) (n:Int):Tryz.prog.built 120 [(0,o.v),(1,.int .i64 n)]=some (Ent.mk o n).cells.toArray:=by kernel_rfl
theorem builtR (o:Ord) (n:Int):Tryz.prog.built 102 [(0,o.v),(1,.int .i64 n)]=some (Ent.mk o n).cells.toArray:=by kernel_rfl
theorem builtH (o:Ord) (n:Int):Tryz.prog.built 85 [(0,o.v),(1,.int .i64 n)]=some (Ent.mk o n).cells.toArray:=by kernel_rfl
section
variable {a:Act} {o:Oper} {u:World}
theorem exec_boxi (t:TypeId) (x:Operand) (v:Value) (j:o.op=.box t x) (hx:a.eval x=v) (D:v.cells=#[v]):(execOp a.eval o).run Tryz.prog u=.ok (.value (.pointer (some ⟨u.heap.size,0,none⟩))) (u.alloc (.cells [v].toArray t)):=by
 unfold execOp
 simp only [j,hx]
 simp only [Instr.box,newVar,D]
 simp [go_sem]
def lv0 (pr:Int):List Value:=[.int .i64 pr,.slice none 0 0]
theorem builtL (pr:Int):Tryz.prog.built 123 [(0,.int .i64 pr)]=some (lv0 pr).toArray:=by kernel_rfl
theorem exec_blvl (pr:Int) (x:Operand) (j:o.op=.build 123 #[(0,x)]) (hx:a.eval x=.int .i64 pr):(execOp a.eval o).run Tryz.prog u=.ok (.value (.agg (lv0 pr).toArray)) u:=
 XZ 123 [(0,x)] (lv0 pr) j (by simp only [List.map_cons,List.map_nil,hx];exact builtL pr)
theorem qW (t:TypeId) (H:∀ (o:Ord) (n:Int),Tryz.prog.built t [(0,o.v),(1,.int .i64 n)]=some (Ent.mk o n).cells.toArray) (x y:Operand) (c:Ord) (n:Int) (j:o.op=.build t #[(0,x),(1,y)]) (hx:a.eval x=c.v) (D:a.eval y=.int .i64 n):(execOp a.eval o).run Tryz.prog u=.ok (.value (Ent.mk c n).v) u:=
 XZ t [(0,x),(1,y)] (Ent.mk c n).cells j (by simp only [List.map_cons,List.map_nil,hx,D];exact H c n)
end
section
variable {ops:Array Oper} {Q:Exit→Act→World→Prop} {a:Act} {w:World} {o:Oper} {rest:List Oper}
theorem ZJ (j:TypeId) (g i:Nat) (T:TypeId) (cs:List Value) (v:Value) (x y:Operand) (N:Region.wanted o (yielded ops a.tmps)=true) (D:o.op=.store j x y) (H:(Tryz.prog.info? j).map (·.size)=some 1) (hx:a.eval x=.pointer (some ⟨g,i,none⟩)) (U:a.eval y=v) (O:v.cells=#[v]) (h1:v.oneCell'=true) (I:Blk w g T cs) (hi:i<cs.length)
  (J:∀ w',Blk w' g T (cs.set i v)→Keep (·=g) w w'→w'.heap.size=w.heap.size→wpList Tryz.prog ops Q rest (a.put o.dst undef) w'):wpList Tryz.prog ops Q (o::rest) a w:=
 l_store (w.setCell ⟨g,i,none⟩ v) N (exec_store1 j x y g i v D H hx U O h1 (I.there i 1 (by omega))) (J _ (I.set_ i v) (Keep.setCell (Keep.refl (·=g) w) (fun _=>rfl) _) (by simp [World.setCell]))
theorem l_rowi (T:TypeId) (g off n c i j:Nat) (X:List Ent) (e H:Ent) (z:Int) (N:Addr) (x y:Operand) (hw:Region.wanted o (yielded ops a.tmps)=true) (J:o.op=.store 3 x y) (hx:a.eval x=.pointer (some N)) (hy:a.eval y=.int .i64 z) (I:N=⟨g,off+(i*10+j),none⟩)
  (hs:Sl w T 10 (.slice (some ⟨g,off,none⟩) n c) n (ents X)) (hn:n=X.length) (U:X[i]?=some e) (hj:j<10) (D:H.cells=e.cells.set j (.int .i64 z))
  (hK:∀ w',Sl w' T 10 (.slice (some ⟨g,off,none⟩) n c) n (ents (X.set i H))→Keep (·=g) w w'→w'.heap.size=w.heap.size→wpList Tryz.prog ops Q rest (a.put o.dst undef) w'):wpList Tryz.prog ops Q (o::rest) a w:=by
 subst I
 have hi:=(List.getElem?_eq_some_iff.1 U).1
 have hm:(i+1)*10≤n*10:=Nat.mul_le_mul_right 10 (by omega)
 obtain ⟨O,h2,h3,h4⟩:=hs.setCell (i*10+j) (.int .i64 z) (by omega)
 refine l_store _ hw (exec_store1 3 x y g _ (.int .i64 z) J (by kernel_rfl) hx hy rfl rfl h4) (hK _ ?_ h2 h3)
 have:=flat_setCell Ent.cells 10 Ent.len10 X i j (.int .i64 z) e H U hj D
 unfold ents at O ⊢
 rw [← this]
 exact O
end
theorem Zy {w:World} {T:TypeId} {k n:Nat} {v:Value} {cs:List Value} (h:Sl w T k v n cs):v.cells=#[v]:=by
 obtain ⟨_,A,c,rfl,_⟩:=h
 rfl
theorem Xy {w:World} {T:TypeId} {k n:Nat} {v:Value} {cs:List Value} (h:Sl w T k v n cs):v.oneCell'=true:=by
 obtain ⟨_,A,c,rfl,_⟩:=h
 rfl
theorem Sl.rng {w:World} {T:TypeId} {n c g off:Nat} {X:List Ent} (h:Sl w T 10 (.slice (some ⟨g,off,none⟩) n c) n (ents X)) (i:Nat) (e:Ent) (J:X[i]?=some e):w.rangeAt g (off+i*10) e.cells:=by
 obtain ⟨hl,A,c',D,h1,h2,h3,I⟩:=h
 injection D with e1 e2 e3
 subst e1 e3
 obtain ⟨g',off',cur,e,H,h5,j⟩:=I _ rfl
 injection e with e1 e2
 subst e1 e2
 have:=qX (xz (jJ H j) (i*10)) 10
 rw [show ((ents X).drop (i*10)).take 10=_ from flat_at Ent.cells 10 Ent.len10 X i _ J] at this
 exact this
theorem Sl.rngO {w:World} {T:TypeId} {n c g off:Nat} {X:List Ord} (h:Sl w T 9 (.slice (some ⟨g,off,none⟩) n c) n (ords X)) (i:Nat) (e:Ord) (J:X[i]?=some e):w.rangeAt g (off+i*9) e.cells:=by
 obtain ⟨hl,A,c',D,h1,h2,h3,I⟩:=h
 injection D with e1 e2 e3
 subst e1 e3
 obtain ⟨g',off',cur,e,H,h5,j⟩:=I _ rfl
 injection e with e1 e2
 subst e1 e2
 have:=qX (xz (jJ H j) (i*9)) 9
 rw [show ((ords X).drop (i*9)).take 9=_ from flat_at Ord.cells 9 Ord.len9 X i _ J] at this
 exact this
theorem Sl.some_ {w:World} {T:TypeId} {k n:Nat} {v:Value} {cs:List Value} (h:Sl w T k v n cs) (j:0<n):∃ g off c,v=.slice (some ⟨g,off,none⟩) n c:=by
 obtain ⟨g,off,c,_,h,_⟩:=h.at_ j
 exact ⟨g,off,c,h⟩
theorem QU {I:Func} {p:Tmp} {D:TypeId} {O:Array Field} (h:I.results=#[.cell p D]) (j:Array Value) (w:World) (g:Nat) (T:TypeId) (cs:List Value) (J:j.getD p undef=.pointer (some ⟨g,0,none⟩)) (hg:Blk w g T cs) (N:Tryz.prog.underlying D=some (.struct O)) (U:(Tryz.prog.info? D).map (·.size)=some cs.length) :
  (results I j).run Tryz.prog w=.ok (.agg cs.toArray) w:=by
 have H:j[p]?.getD undef=.pointer (some ⟨g,0,none⟩):=by simpa using J
 have hr:=run_loadVar_row (P:=Tryz.prog) w g T D cs.toArray (0,0) _ hg N rfl (by simpa using U)
 simp [results,h,H,asAddr,hr]
theorem Qq {J:Func} {p q:Tmp} {D:TypeId} {fs:Array Field} (h:J.results=#[.cell p D,.tmp q]) (j:Array Value) (w:World) (g:Nat) (T:TypeId) (cs:List Value) (b:Bool) (U:j.getD p undef=.pointer (some ⟨g,0,none⟩)) (hq:j.getD q undef=.bool b) (N:Blk w g T cs) (hu:Tryz.prog.underlying D=some (.struct fs)) (hl:(Tryz.prog.info? D).map (·.size)=some cs.length) :
  (results J j).run Tryz.prog w=.ok (.tuple #[.agg cs.toArray,.bool b]) w:=by
 have H:j[p]?.getD undef=.pointer (some ⟨g,0,none⟩):=by simpa using U
 have I:j[q]?.getD undef=.bool b:=by simpa using hq
 have O:=run_loadVar_row (P:=Tryz.prog) w g T D cs.toArray (0,0) _ N hu rfl (by simpa using hl)
 simp [results,h,H,I,asAddr,O]
theorem run_eqInts (d n:Nat) (w:World) (l m:List Int) (s t:List UInt8) (J:l.length=n) (D:m.length=n):∀ (k:Nat) (j:List Field),k≤n →
  j.map (fun f => (f.name == "_", f.type, f.offset)) = (List.range' (n - k) k).map (fun i => (false, 3, i)) →
  (Op.eqFields (d+1) (stc l s).toArray (stc m t).toArray j).run Tryz.prog w=.ok (decide (l.drop (n-k)=m.drop (n-k))) w
 | 0,j,hk,h=>by
  match j,h with
  | [],h=>simp [Op.eqFields,List.drop_of_length_le,J,D]
  | f::j,h=>simp at h
 | k+1,j,hk,h=>by
  match j,h with
  | [],h=>simp at h
  | f::j,h=>
   have H:n-(k+1)+1=n-k:=by omega
   simp only [List.range'_succ,List.map_cons,List.cons.injEq,Prod.mk.injEq,H] at h
   obtain ⟨⟨U,h2,I⟩,h4⟩:=h
   have N:=run_eqInts d n w l m s t J D k j (by omega) h4
   have hx:(l)[n-(k+1)]?=some (l[n-(k+1)]'(by omega)):=List.getElem?_eq_getElem (by omega)
   have O:(m)[n-(k+1)]?=some (m[n-(k+1)]'(by omega)):=List.getElem?_eq_getElem (by omega)
   rw [run_eqInt d _ _ w f j _ _ U h2 (by rw [I];simpa using stc_int l s _ _ hx) (by rw [I];simpa using stc_int m t _ _ O) _ N]
   congr 1
   rw [List.drop_eq_getElem_cons (by omega:n-(k+1)<l.length),List.drop_eq_getElem_cons (by omega:n-(k+1)<m.length),H]
   rw [Bool.eq_iff_iff]
   simp
theorem ord_fields : (Tryz.prog.fieldsOf 35).toList.map (fun f => (f.name == "_", f.type, f.offset)) = (List.range' 0 9).map (fun i => (false, 3, i)) := by kernel_rfl
theorem run_eqOrd (d:Nat) (c e:Ord) (w:World):(Op.equalIn (d+2) 35 c.v e.v).run Tryz.prog w=.ok (decide (c=e)) w:=by
 unfold Ord.v
 rw [run_equalIn_struct w (d+1) 35 _ _ (by kernel_rfl) (by kernel_rfl)]
 unfold Ord.cells
 rw [run_eqInts d 9 w c.l e.l [] [] rfl rfl 9 _ (by omega) (by rw [Nat.sub_self];exact ord_fields)]
 congr 1
 rw [Bool.eq_iff_iff]
 simp only [Nat.sub_self,List.drop_zero,decide_eq_true_eq]
 exact ⟨fun h=>Ord.ext_l h,fun h=>by rw [h]⟩
theorem run_partO (xs:Array Value) (o:Ord) (hx:xs.extract 0 9=o.cells.toArray) (w:World):(part 35 xs 0).run Tryz.prog w=.ok o.v w:=by
 have H:=JU
 cases D:Tryz.prog.info? 35 with
 | none=>simp [D] at H
 | some i=>
  have I:i.size=9:=by simpa [D] using H
  have j:(isAgg 35).run Tryz.prog w=.ok true w:=by
   unfold isAgg
   rw [Sem.run_bind,run_underlying Tryz.underlying35 w]
   rfl
  simp [part,Sem.run_bind,j,sizeOf,typeInfo,D,I,hx,Ord.v]
theorem hit_fields : (Tryz.prog.fieldsOf 85).toList.map (fun f => (f.name == "_", f.type, f.offset)) = [(false, 35, 0), (false, 3, 9)] := by kernel_rfl
theorem run_eqHit (c e:Ent) (w:World):(Op.equalIn 10000 85 c.v e.v).run Tryz.prog w=.ok (decide (c=e)) w:=by
 unfold Ent.v
 rw [run_equalIn_struct w 9999 85 _ _ (by kernel_rfl) (by kernel_rfl)]
 have j:=hit_fields
 generalize (Tryz.prog.fieldsOf 85).toList=fs at j
 match fs,j with
 | [],j=>cases j
 | [f],j=>simp at j
 | f::g::f'::fs,j=>simp at j
 | [f,g],j=>
  simp only [List.map_cons,List.map_nil,List.cons.injEq,Prod.mk.injEq,and_true] at j
  obtain ⟨⟨h1,I,h3⟩,⟨h4,h5,J⟩⟩:=j
  have H : f.name ≠ "_" := by simpa using h1
  have e1:=run_partO c.cells.toArray c.o rfl w
  have U:=run_partO e.cells.toArray e.o rfl w
  rw [← I,← h3] at e1 U
  have N:=run_eqInt 9998 c.cells.toArray e.cells.toArray w g [] c.n e.n h4 h5 (by rw [J];rfl) (by rw [J];rfl) true (by simp [Op.eqFields])
  have O:=run_eqOrd 9997 c.o e.o w
  rw [← I] at O
  simp only [Op.eqFields,if_pos H,Sem.run_bind,e1,U,O,Result.andThen_ok] at N ⊢
  by_cases hce:c.o=e.o
  ·simp only [hce,decide_true,Bool.not_true,Bool.false_eq_true,if_false]
   rw [N]
   congr 1
   rw [Bool.eq_iff_iff]
   simp only [Bool.and_true,beq_iff_eq,decide_eq_true_eq]
   constructor
   ·intro h
    cases c;cases e
    simp_all
   intro h
   rw [h]
  have D:c≠e:=fun h=>hce (by rw [h])
  simp [hce,D]
section
variable {a:Act} {o:Oper} {u:World}
theorem exec_eqO (x y:Operand) (t':TypeId) (c e:Ord) (j:o.op=.binOp .eql 35 x y t') (hx:a.eval x=c.v) (D:a.eval y=e.v):(execOp a.eval o).run Tryz.prog u=.ok (.value (.bool (decide (c=e)))) u:=by
 have h:=run_eqOrd 9998 c e u
 unfold Ord.v at h hx D
 unfold execOp
 simp only [j,hx,D,Sem.run_bind]
 rw [run_eqGuard_agg u .eql 35 x y _ _ (by kernel_rfl)]
 simp only [Result.andThen_ok,run_eql_struct,h]
 rfl
theorem exec_neO (x y:Operand) (t':TypeId) (c e:Ord) (j:o.op=.binOp .neq 35 x y t') (hx:a.eval x=c.v) (D:a.eval y=e.v):(execOp a.eval o).run Tryz.prog u=.ok (.value (.bool (decide (c≠e)))) u:=by
 have h:=run_eqOrd 9998 c e u
 unfold Ord.v at h hx D
 unfold execOp
 simp only [j,hx,D,Sem.run_bind]
 rw [run_eqGuard_agg u .neq 35 x y _ _ (by kernel_rfl)]
 simp only [Result.andThen_ok,run_neq_struct,h]
 simp [go_sem]
theorem exec_neH (x y:Operand) (t':TypeId) (c e:Ent) (j:o.op=.binOp .neq 85 x y t') (hx:a.eval x=c.v) (D:a.eval y=e.v):(execOp a.eval o).run Tryz.prog u=.ok (.value (.bool (decide (c≠e)))) u:=by
 have h:=run_eqHit c e u
 unfold Ent.v at h hx D
 unfold execOp
 simp only [j,hx,D,Sem.run_bind]
 rw [run_eqGuard_agg u .neq 85 x y _ _ (by kernel_rfl)]
 simp only [Result.andThen_ok,run_neq_struct,h]
 simp [go_sem]
theorem exec_neHb (b:Bool) (x y:Operand) (t':TypeId) (c e:Ent) (j:o.op=.binOp .neq 85 x y t') (hx:a.eval x=c.v) (D:a.eval y=e.v) (H:decide (c≠e)=b):(execOp a.eval o).run Tryz.prog u=.ok (.value (.bool b)) u:=by rw [← H];exact exec_neH x y t' c e j hx D
theorem exec_neOb (b:Bool) (x y:Operand) (t':TypeId) (c e:Ord) (j:o.op=.binOp .neq 35 x y t') (hx:a.eval x=c.v) (D:a.eval y=e.v) (H:decide (c≠e)=b):(execOp a.eval o).run Tryz.prog u=.ok (.value (.bool b)) u:=by rw [← H];exact exec_neO x y t' c e j hx D
end
theorem take_next {α:Type} {xs j:List α} {k:Nat} (h:xs.take k=j.take k) (D:xs[k]?=j[k]?):xs.take (k+1)=j.take (k+1):=by
 rw [List.take_add_one,List.take_add_one,h,D]
theorem take_whole {α:Type} {xs j:List α} {k:Nat} (h:xs.take k=j.take k) (H:xs.length≤k) (D:j.length≤k):xs=j:=by
 rwa [List.take_of_length_le H,List.take_of_length_le D] at h
def Fl.l (f:Fl):List Int:=f.mk_.l++(f.tk.l++[f.price,f.qty,f.no])
def Fl.cells (f:Fl):List Value:=stc f.l []
def Fl.v (f:Fl):Value:=.agg f.cells.toArray
theorem Fl.len21 (f:Fl):f.cells.length=21:=by unfold Fl.cells;rw [stc_len];rfl
theorem Fl.one (f:Fl):∀ u ∈ f.cells,u.oneCell'=true:=stc_one _ _
def fls (F:List Fl):List Value:=F.flatMap Fl.cells
theorem fls_snoc (F:List Fl) (f:Fl):fls (F++[f])=fls F++f.cells:=by simp [fls]
def zeroF:Fl:=⟨JV,JV,0,0,0⟩
theorem slF:SlT 64 95 21 168:=⟨Tryz.underlying64,by kernel_rfl,⟨zeroF.v,by kernel_rfl,rfl,by intro u j;exact zeroF.one u (by simpa [Fl.v,Value.cells] using j)⟩,by omega⟩
theorem zF:(Tryz.prog.info? 95).map (·.zero)=some (some (.agg zeroF.cells.toArray)):=by kernel_rfl
theorem szF:(Tryz.prog.info? 95).map (·.size)=some 21:=by kernel_rfl
theorem Sl.rngF {w:World} {T:TypeId} {n c g off:Nat} {X:List Fl} (h:Sl w T 21 (.slice (some ⟨g,off,none⟩) n c) n (fls X)) (i:Nat) (e:Fl) (J:X[i]?=some e):w.rangeAt g (off+i*21) e.cells:=by
 obtain ⟨hl,A,c',D,h1,h2,h3,I⟩:=h
 injection D with e1 e2 e3
 subst e1 e3
 obtain ⟨g',off',cur,e,H,h5,j⟩:=I _ rfl
 injection e with e1 e2
 subst e1 e2
 have:=qX (xz (jJ H j) (i*21)) 21
 rw [show ((fls X).drop (i*21)).take 21=_ from flat_at Fl.cells 21 Fl.len21 X i _ J] at this
 exact this
theorem builtF (o p:Ord) (x y z:Int):Tryz.prog.built 95 [(0,o.v),(1,p.v),(2,.int .i64 x),(3,.int .i64 y),(4,.int .i64 z)]=some (Fl.mk o p x y z).cells.toArray:=by kernel_rfl
theorem run_partO2 (xs:Array Value) (k:Nat) (o:Ord) (hx:xs.extract k (k+9)=o.cells.toArray) (w:World):(part 35 xs k).run Tryz.prog w=.ok o.v w:=by
 have H:=JU
 cases D:Tryz.prog.info? 35 with
 | none=>simp [D] at H
 | some i=>
  have I:i.size=9:=by simpa [D] using H
  have j:(isAgg 35).run Tryz.prog w=.ok true w:=by
   unfold isAgg
   rw [Sem.run_bind,run_underlying Tryz.underlying35 w]
   rfl
  simp [part,Sem.run_bind,j,sizeOf,typeInfo,D,I,hx,Ord.v]
theorem fill_fields : (Tryz.prog.fieldsOf 95).toList.map (fun f => (f.name == "_", f.type, f.offset)) = [(false, 35, 0), (false, 35, 9), (false, 3, 18), (false, 3, 19), (false, 3, 20)] := by kernel_rfl
theorem run_eqFill (c e:Fl) (w:World):(Op.equalIn 10000 95 c.v e.v).run Tryz.prog w=.ok (decide (c=e)) w:=by
 unfold Fl.v
 rw [run_equalIn_struct w 9999 95 _ _ (by kernel_rfl) (by kernel_rfl)]
 have D:=fill_fields
 generalize (Tryz.prog.fieldsOf 95).toList=fs at D
 match fs,D with
 | [],D=>cases D
 | [_],D=>simp at D
 | [_,_],D=>simp at D
 | [_,_,_],D=>simp at D
 | [_,_,_,_],D=>simp at D
 | _::_::_::_::_::_::_,D=>simp at D
 | [f,g,h,i,j],D=>
  simp only [List.map_cons,List.map_nil,List.cons.injEq,Prod.mk.injEq,and_true] at D
  obtain ⟨⟨a1,a2,a3⟩,⟨b1,O,b3⟩,⟨c1,c2,c3⟩,⟨d1,d2,J⟩,⟨e1,e2,H⟩⟩:=D
  have na : f.name ≠ "_" := by simpa using a1
  have nb : g.name ≠ "_" := by simpa using b1
  have U:=run_partO2 c.cells.toArray 0 c.mk_ rfl w
  have p2:=run_partO2 e.cells.toArray 0 e.mk_ rfl w
  have N:=run_partO2 c.cells.toArray 9 c.tk rfl w
  have p4:=run_partO2 e.cells.toArray 9 e.tk rfl w
  rw [← a2,← a3] at U p2
  rw [← O,← b3] at N p4
  have q3:=run_eqInt 9998 c.cells.toArray e.cells.toArray w j [] c.no e.no e1 e2 (by rw [H];rfl) (by rw [H];rfl) true (by simp [Op.eqFields])
  have q2:=run_eqInt 9998 c.cells.toArray e.cells.toArray w i [j] c.qty e.qty d1 d2 (by rw [J];rfl) (by rw [J];rfl) _ q3
  have q1:=run_eqInt 9998 c.cells.toArray e.cells.toArray w h [i,j] c.price e.price c1 c2 (by rw [c3];rfl) (by rw [c3];rfl) _ q2
  have I:=run_eqOrd 9997 c.mk_ e.mk_ w
  have r2:=run_eqOrd 9997 c.tk e.tk w
  rw [← a2] at I
  rw [← O] at r2
  have s2:(Op.eqFields (9998+1) c.cells.toArray e.cells.toArray [g,h,i,j]).run Tryz.prog w=.ok (decide (c.tk=e.tk) && (c.price == e.price && (c.qty == e.qty && (c.no == e.no && true)))) w:=by
   rw [Op.eqFields]
   simp only [if_pos nb,Sem.run_bind,N,p4,r2,Result.andThen_ok]
   by_cases hce:c.tk=e.tk
   ·simp only [hce,decide_true,Bool.not_true,Bool.false_eq_true,if_false,Bool.true_and]
    exact q1
   simp [hce]
  have s1:(Op.eqFields (9998+1) c.cells.toArray e.cells.toArray [f,g,h,i,j]).run Tryz.prog w=.ok (decide (c.mk_=e.mk_) && (decide (c.tk=e.tk) && (c.price == e.price && (c.qty == e.qty && (c.no == e.no && true))))) w:=by
   rw [Op.eqFields]
   simp only [if_pos na,Sem.run_bind,U,p2,I,Result.andThen_ok]
   by_cases hce:c.mk_=e.mk_
   ·simp only [hce,decide_true,Bool.not_true,Bool.false_eq_true,if_false,Bool.true_and]
    exact s2
   simp [hce]
  rw [show (9999:Nat)=9998+1 from rfl,s1]
  congr 1
  rw [Bool.eq_iff_iff]
  simp only [Bool.and_true,Bool.and_eq_true,beq_iff_eq,decide_eq_true_eq]
  constructor
  ·rintro ⟨h1,h2,h3,h4,h5⟩
   cases c;cases e
   simp_all
  intro h
  rw [h]
  exact ⟨rfl,rfl,rfl,rfl,rfl⟩
section
variable {a:Act} {o:Oper} {u:World}
theorem exec_neF (x y:Operand) (t':TypeId) (c e:Fl) (j:o.op=.binOp .neq 95 x y t') (hx:a.eval x=c.v) (D:a.eval y=e.v):(execOp a.eval o).run Tryz.prog u=.ok (.value (.bool (decide (c≠e)))) u:=by
 have h:=run_eqFill c e u
 unfold Fl.v at h hx D
 unfold execOp
 simp only [j,hx,D,Sem.run_bind]
 rw [run_eqGuard_agg u .neq 95 x y _ _ (by kernel_rfl)]
 simp only [Result.andThen_ok,run_neq_struct,h]
 simp [go_sem]
theorem exec_neFb (b:Bool) (x y:Operand) (t':TypeId) (c e:Fl) (j:o.op=.binOp .neq 95 x y t') (hx:a.eval x=c.v) (D:a.eval y=e.v) (H:decide (c≠e)=b):(execOp a.eval o).run Tryz.prog u=.ok (.value (.bool b)) u:=by rw [← H];exact exec_neF x y t' c e j hx D
theorem exec_eqOb' (b:Bool) (x y:Operand) (t':TypeId) (c e:Ord) (j:o.op=.binOp .eql 35 x y t') (hx:a.eval x=c.v) (D:a.eval y=e.v) (H:decide (c=e)=b):(execOp a.eval o).run Tryz.prog u=.ok (.value (.bool b)) u:=by rw [← H];exact exec_eqO x y t' c e j hx D
theorem qY (t:TypeId) (I:Tryz.prog.underlying t=some .bool) (x:Operand) (D:Addr) (v:Value) (j:o.op=.load t x) (hx:a.eval x=.pointer (some D)) (H:u.cell? D=some v) :
  (execOp a.eval o).run Tryz.prog u=.ok (.value v) u:=by
 unfold execOp
 simp only [j,hx,Instr.loadAt,Instr.sureAddr,Sem.run_bind,Sem.run_pure,Result.andThen_ok]
 simp [loadVar,isAgg,run_underlying I,Sem.run_bind,H,go_sem]
end
def Oc.cells (x:Oc) (v:Value):List Value:=x.o.cells++[v,.int .i64 x.left,.bool x.rests,.bool false,.bool x.self,.int .i64 x.err]
def Oc.v (x:Oc) (v:Value):Value:=.agg (x.cells v).toArray
theorem Oc.len15 (x:Oc) (v:Value):(x.cells v).length=15:=by unfold Oc.cells;rw [List.length_append,Ord.len9];rfl
theorem Oc.one (x:Oc) (v:Value) (D:v.oneCell'=true):∀ u ∈ x.cells v,u.oneCell'=true:=by
 intro u j
 unfold Oc.cells at j
 rcases List.mem_append.1 j with j | j
 ·exact x.o.one1 u j
 simp at j
 rcases j with rfl | rfl | rfl | rfl | rfl | rfl
 ·exact D
 all_goals rfl
def XU:Oc:=⟨JV,[],0,false,false,0⟩
theorem zC:(Tryz.prog.info? 66).map (·.zero)=some (some (.agg (XU.cells (.slice none 0 0)).toArray)):=by kernel_rfl
theorem szC:(Tryz.prog.info? 66).map (·.size)=some 15:=by kernel_rfl
theorem oc_ord {w:World} {g:Nat} {T:TypeId} {x:Oc} {v:Value} (h:Blk w g T (x.cells v)):w.rangeAt g 0 x.o.cells:=qX (JX h) 9
theorem Grow.wide {w w':World} {F F':Nat→Prop} (h:Grow w' F F') (j:w.heap.size≤w'.heap.size):Grow w F F':=fun b D=>(h b D).imp id (fun h=>Kv j h)
theorem Keep.new {S:Nat→Prop} {a b c:World} {g:Nat} (h:Keep S a b) (k:Keep (·=g) b c) (hg:a.heap.size≤g):Keep S a c:=h.trans k (fun i hi e=>by omega)
theorem Keep.any {S:Nat→Prop} {a b c:World} (h:Kept a b) (k:Keep S b c):Keep S a c:=(h.mono (T:=S) (fun _ _ h=>h.elim)).trans k (fun _ _ h=>h)
theorem Gives.base {f:Nat} {args:Array Value} {u:World} {b base:Nat} {T:TypeId} {k n:Nat} {cs:List Value} (h:Gives f args u (.sl b T k n cs)) (H:base≤b):Gives f args u (.sl base T k n cs):=
 h.mono fun e w' ⟨v,I,D,J⟩=>⟨v,I,⟨D.1,fun b j=>Kv H (D.2 b j)⟩,J⟩
theorem tmod_lo (n m:Int) (j:0<m):-m<n.tmod m∧n.tmod m<m:=⟨Int.neg_lt_of_neg_lt (by have:=Int.tmod_lt_of_pos (-n) j;rwa [Int.neg_tmod] at this),Int.tmod_lt_of_pos n j⟩
theorem tmod_emod (n m:Int) (H:0<m):n % m=if n.tmod m<0 then n.tmod m+m else n.tmod m:=by
 have h1:=Int.emod_nonneg n (show m≠0 by omega)
 have h2:=Int.emod_lt_of_pos n H
 obtain ⟨h3,h4⟩:=tmod_lo n m H
 have e1:=Int.mul_ediv_add_emod n m
 have e2:=Int.mul_tdiv_add_tmod n m
 have I:n % m-n.tmod m=m*(n.tdiv m-n / m):=by rw [Int.mul_sub];omega
 generalize n.tdiv m-n / m=q at I
 have j:m*q<m*2:=by omega
 have D:m*(-1)<m*q:=by omega
 have hq3:=Int.lt_of_mul_lt_mul_left j (by omega)
 have hq4:=Int.lt_of_mul_lt_mul_left D (by omega)
 have J:q=0∨q=1:=by omega
 rcases J with rfl | rfl
 ·rw [if_neg (by omega)];omega
 rw [if_pos (by omega)];omega
theorem within_any (n j D:Int) (w:World) (h0:0≤j) (h1:j≤D) (h2:D≤1099511627776) :
  Calls Tryz.prog 25 #[.int .i64 n,.int .i64 j,.int .i64 D] w fun e w'=>e=.returned (.int .i64 (j+n % (D-j+1)))∧w=w':=by
 obtain ⟨m1,m2⟩:=tmod_lo n (D-j+1) (by omega)
 have E:=Kj (tmod_emod n (D-j+1) (by omega))
 have hz:((D-j+1) == 0)=false:=by simp;omega
 go_enter Tryz.func25,Tryz.ntmps25
 go_wp2
 ·go_ret
  refine ⟨ret_int ?_,rfl⟩
  rw [E.out,if_pos (by assumption)]
  omega
 go_ret
 refine ⟨ret_int ?_,rfl⟩
 rw [E.out,if_neg (by omega)]
def wi (n lo hi:Int):Int:=lo+n % (hi-lo+1)
theorem wi_in (n j D:Int) (h:j≤D):j≤wi n j D∧wi n j D≤D:=by
 unfold wi
 have p:=Int.emod_nonneg n (show D-j+1≠0 by omega)
 have q:=Int.emod_lt_of_pos n (show 0<D-j+1 by omega)
 omega
theorem xZ (n j D:Int) (w:World) (N:0≤j) (J:j≤D) (H:D≤1099511627776):Gives 25 #[.int .i64 n,.int .i64 j,.int .i64 D] w (.eq (.int .i64 (wi n j D))):=
 QW ((within_any n j D w N J H).mono fun e w' ⟨O,I⟩=>⟨O,by subst I;exact Kept.refl _⟩)
def Args {α:Type} (k:Nat) (cl:α→List Value) (ok:α→Prop) (W:World) (v:Value) (l:List α):Prop:=∃ A n c,v=.slice A n c∧l.length=n∧(∀ q ∈ l,ok q)∧n≤maxLen∧∀ i q,l[i]?=some q→∃ b o,A=some ⟨b,o,none⟩∧W.rangeAt b (o+i*k) (cl q)
theorem open_args {α H:Type} [Inhabited α] {enc:TypeId × Value→H} {W:World} {b0:Nat} {v:Value} {d:DataW H} {p:List MemPlace} {t T:TypeId} (k:Nat) (I:α→List Value) (ok:α→Prop) (hu:Tryz.prog.underlying t=some (.slice T)) (hs:Tryz.prog.cellsOf T=k) (hk:0<k)
  (J:∀ (D:Nat) (cs:List Value) (x:DataW H × List MemPlace),DataW.trod enc Tryz.prog W 0 (fun _=>true) true D T cs=some x→∃ q:α,cs=I q∧ok q)
  (N:Value.okWide Tryz.prog W .any b0 t v) (h:DataW.Trod enc Tryz.prog W 0 (fun _=>true) true t v d p):∃ l,Args k I ok W v l:=by
 obtain ⟨l,A,n,c,rfl,hl,U,h1,h2⟩:=open_elems (α:=α) (fun cs q=>cs=I q∧ok q) hu hs hk J N h (k:=k)
 refine ⟨l,A,n,c,rfl,hl.out,fun q O=>?_,by omega,fun i q O=>?_⟩
 ·obtain ⟨i,hi,rfl⟩:=List.getElem_of_mem O
  obtain ⟨b,o,cs,_,⟨_,hw⟩,_⟩:=U i _ (List.getElem?_eq_getElem hi)
  exact hw
 obtain ⟨b,o,cs,rfl,⟨rfl,_⟩,_,hc⟩:=U i q O
 refine ⟨b,o,rfl,fun j v N=>?_⟩
 rw [Nat.add_assoc]
 exact hc j v N
structure Kq where
 t:Int
 i:Int
 s:Int
 p:Int
 q:Int
 h:Int
 x:Int
deriving Inhabited
def Kq.l (q:Kq):List Int:=[q.t,q.i,q.s,q.p,q.q,q.h,q.x]
def Kq.cells (q:Kq):List Value:=stc q.l []
def Kq.v (q:Kq):Value:=.agg q.cells.toArray
theorem Kq.len7 (q:Kq):q.cells.length=7:=by unfold Kq.cells;rw [stc_len];rfl
def zeroK:Kq:=⟨0,0,0,0,0,0,0⟩
theorem szK:(Tryz.prog.info? 28).map (·.size)=some 7:=by kernel_rfl
def Kq.k (q:Kq):Int:=1+(wi q.s 0 9).tdiv 2
def Kq.o (q:Kq):Ord:=⟨wi q.t 0 5,wi q.i 0 15,(wi q.t 0 5).tdiv 2,1+wi q.s 0 1,q.k,if q.k=2 then 0 else wi q.p 95 105,wi q.q 1 12,if q.k=1∨q.k=5 then wi q.h 0 (wi q.q 1 12) else 0,0⟩
theorem tdiv2 (t m:Int) (j:0≤t) (h1:t≤2*m+1):0≤t.tdiv 2∧t.tdiv 2≤m:=by
 rw [Int.tdiv_eq_ediv_of_nonneg j]
 omega
theorem Kq.k_in (q:Kq):1≤q.k∧q.k≤5:=by
 have h:=wi_in q.s 0 9 (by omega)
 have:=tdiv2 (wi q.s 0 9) 4 h.1 (by omega)
 unfold Kq.k
 omega
theorem Kq.right (q:Kq):q.o.right=true∧q.o.stop=0∧q.o.qty≤12:=by
 have H:=wi_in q.t 0 5 (by omega)
 have h2:=wi_in q.i 0 15 (by omega)
 have h3:=wi_in q.s 0 1 (by omega)
 have h4:=wi_in q.p 95 105 (by omega)
 have j:=wi_in q.q 1 12 (by omega)
 have h6:=wi_in q.h 0 (wi q.q 1 12) (by omega)
 have h7:=tdiv2 (wi q.t 0 5) 2 H.1 (by omega)
 have h8:=q.k_in
 refine ⟨(UQ _).2 ?_,rfl,j.2⟩
 unfold Kq.o
 by_cases hk:q.k=2
 ·simp only [hk]
  simp
  omega
 by_cases hk1:q.k=1∨q.k=5
 ·simp only [if_neg hk,if_pos hk1]
  omega
 have I:(if q.k=2 then 0 else wi q.p 95 105)=wi q.p 95 105:=if_neg hk
 have D:(if q.k=1∨q.k=5 then wi q.h 0 (wi q.q 1 12) else 0)=0:=if_neg hk1
 simp only [I,D]
 refine ⟨by omega,by omega,by omega,by omega,by omega,by omega,by omega,by omega,by omega,by omega,by omega,.inr (.inr trivial)⟩
def mkK (t i s k p n:Int):Ord:=⟨t,i,0,s,k,p,n,0,0⟩
theorem builtK (t i s k p n:Int):Tryz.prog.built 35 [(0,.int .i64 t),(1,.int .i64 i),(3,.int .i64 s),(4,.int .i64 k),(5,.int .i64 p),(6,.int .i64 n)]=some (mkK t i s k p n).cells.toArray:=by kernel_rfl
theorem exec_mkK {a:Act} {o:Oper} {u:World} (H J I O j D:Operand) (t i s k p n:Int) (N:o.op=.build 35 #[(0,H),(1,J),(3,I),(4,O),(5,j),(6,D)]) (h0:a.eval H=.int .i64 t) (h1:a.eval J=.int .i64 i) (h3:a.eval I=.int .i64 s) (h4:a.eval O=.int .i64 k) (U:a.eval j=.int .i64 p) (h6:a.eval D=.int .i64 n):(execOp a.eval o).run Tryz.prog u=.ok (.value (mkK t i s k p n).v) u:=
 XZ _ [(0,H),(1,J),(3,I),(4,O),(5,j),(6,D)] (mkK t i s k p n).cells N (by
  simp only [List.map_cons,List.map_nil,h0,h1,h3,h4,U,h6]
  exact builtK t i s k p n)
theorem korder_any (q:Kq) (w:World):Gives 24 #[q.v] w (.eq q.o.v):=by
 refine QW ?_
 have HQ:Hid (∀ t i d s k p n h,t=wi q.t 0 5→i=wi q.i 0 15→d=(wi q.t 0 5).tdiv 2→s=wi q.s 0 1→k=q.k→p=wi q.p 95 105→n=wi q.q 1 12→h=wi q.h 0 n→q.o=Ord.mk t i d (1+s) k (if k=2 then 0 else p) n (if k=1∨k=5 then h else 0) 0):=by
  intro t i d s k p n h h1 h2 h3 h4 h5 h6 h7 h8
  subst h1 h2 h3 h4 h5 h6 h7 h8
  rfl
 obtain ⟨t,ht⟩:∃ t,wi q.t 0 5=t:=⟨_,rfl⟩
 obtain ⟨i,hi⟩:∃ i,wi q.i 0 15=i:=⟨_,rfl⟩
 obtain ⟨s,hs⟩:∃ s,wi q.s 0 1=s:=⟨_,rfl⟩
 obtain ⟨r,hr⟩:∃ r,wi q.s 0 9=r:=⟨_,rfl⟩
 obtain ⟨e,he⟩:∃ e,r.tdiv 2=e:=⟨_,rfl⟩
 obtain ⟨p,hp⟩:∃ p,wi q.p 95 105=p:=⟨_,rfl⟩
 obtain ⟨n,hn⟩:∃ n,wi q.q 1 12=n:=⟨_,rfl⟩
 obtain ⟨h,hh⟩:∃ h,wi q.h 0 n=h:=⟨_,rfl⟩
 obtain ⟨d,hd⟩:∃ d,t.tdiv 2=d:=⟨_,rfl⟩
 have aK:=wi_in q.t 0 5 (by omega)
 have b5:=wi_in q.s 0 1 (by omega)
 have aA:=wi_in q.s 0 9 (by omega)
 have b4:=wi_in q.q 1 12 (by omega)
 rw [ht] at aK
 rw [hs] at b5
 rw [hr] at aA
 rw [hn] at b4
 have b0:=tdiv2 r 4 aA.1 (by omega)
 have b1:=tdiv2 t 2 aK.1 (by omega)
 rw [he] at b0
 rw [hd] at b1
 have HK:Hid (q.k=1+e):=by show q.k=_;unfold Kq.k;rw [hr,he]
 have HT:=Kj ht
 have HI:=Kj hi
 have HS:=Kj hs
 have HR:=Kj hr
 have HE:=Kj he
 have HP:=Kj hp
 have HN:=Kj hn
 have HH:=Kj hh
 have HD:=Kj hd
 have ak:Hid (q.o=Ord.mk t i d (1+s) (1+e) (if 1+e=2 then 0 else p) n (if 1+e=1∨1+e=5 then h else 0) 0):=HQ.out t i d s (1+e) p n h ht.symm hi.symm (by rw [ht,hd]) hs.symm HK.out.symm hp.symm hn.symm hh.symm
 clear ht hi hs hr he hp hn hh hd HQ HK
 go_enter Tryz.func24,Tryz.ntmps24
 go_upto_region 0 with fail
 refine tAp 2 [.k (.fresh w.heap.size 28 (q.cells)),.k (.fresh w.heap.size 35 JV.cells)] (nS 0 (nV rfl (fun a u E D hk=>⟨_,_,XV 28 _ (q.cells) rfl (eE E),⟨_,rfl,hk.size,Blk.new u _ _⟩,((Keep.refl _ u).alloc _)⟩)) (nS 1 (nV rfl (fun a u E D hk=>⟨_,_,QX 35 JV.cells rfl zO,⟨_,rfl,hk.size,Blk.new u _ _⟩,((Keep.refl _ u).alloc _)⟩)) nZ)) ?_
 intro gv w0 hV k0
 rw [dq 2 [1,2]]
 simp only [Fz7]
 have aU:(.fresh w.heap.size 28 (q.cells):Kn).p (gv 1) w0:=hV 0 1 (by kernel_rfl)
 generalize gv 1=v1 at aU ⊢
 have aL:(.fresh w.heap.size 35 JV.cells:Kn).p (gv 2) w0:=hV 1 2 (by kernel_rfl)
 generalize gv 2=v2 at aL ⊢
 clear hV
 obtain ⟨g1,rfl,hg1,af⟩:=aU
 obtain ⟨g2,rfl,hg2,O⟩:=aL
 have hne:g1≠g2:=fun e=>by subst e;unfold Blk at af O;rw [af] at O;injection O with O;injection O with _ O;revert O;decide
 refine Kx ?_
 have HA:=Kj (JX af)
 have aF:=Kj O
 have l1:=af.lt
 have l2:=O.lt
 clear af O
 go_upto_region 1 with fail
 refine tHp 23 [pK g1 0,iK q.t,iK t,pK g1 1,iK q.i,iK i,pK g1 2,iK q.s,iK s,iK (1+s),pK g1 2,iK q.s,iK r,iK e,iK (1+e),pK g1 3,iK q.p,iK p,pK g1 4,iK q.q,iK n,.v ((mkK t i (1+s) (1+e) p n).v),.k (.fresh w0.heap.size 35 JV.cells)] (nS 1 (ldR HA.out 0) (nS 2 (cV Tryz.func25 (fun u hk=>(by rw [← HT.out];exact xZ q.t 0 5 u (by omega) (by omega) (by omega)))) (nS 4 (ldR HA.out 1) (nS 5 (cV Tryz.func25 (fun u hk=>(by rw [← HI.out];exact xZ q.i 0 15 u (by omega) (by omega) (by omega)))) (nS 7 (ldR HA.out 2) (nS 8 (cV Tryz.func25 (fun u hk=>(by rw [← HS.out];exact xZ q.s 0 1 u (by omega) (by omega) (by omega)))) (nS 9 (sV rfl (fun a u E D hk=>YQ (1+s) rfl rfl (dD D 8) rfl (by omega) (by omega))) (nS 11 (ldR HA.out 2) (nS 12 (cV Tryz.func25 (fun u hk=>(by rw [← HR.out];exact xZ q.s 0 9 u (by omega) (by omega) (by omega)))) (nS 13 (sV rfl (fun a u E D hk=>exec_quon e rfl (dD D 12) rfl (by decide) HE.out (by omega) (by omega))) (nS 14 (sV rfl (fun a u E D hk=>YQ (1+e) rfl rfl (dD D 13) rfl (by omega) (by omega))) (nS 16 (ldR HA.out 3) (nS 17 (cV Tryz.func25 (fun u hk=>(by rw [← HP.out];exact xZ q.p 95 105 u (by omega) (by omega) (by omega)))) (nS 19 (ldR HA.out 4) (nS 20 (cV Tryz.func25 (fun u hk=>(by rw [← HN.out];exact xZ q.q 1 12 u (by omega) (by omega) (by omega)))) (nS 21 (sV rfl (fun a u E D hk=>exec_mkK _ _ _ _ _ _ t i (1+s) (1+e) p n rfl (dD D 2) (dD D 5) (dD D 9) (dD D 14) (dD D 17) (dD D 20))) (nS 22 (nV rfl (fun a u E D hk=>⟨_,_,QX 35 JV.cells rfl zO,⟨_,rfl,hk.size,Blk.new u _ _⟩,((Keep.refl _ u).alloc _)⟩)) nZ))))))))))))))))) ?_
 intro gv w1 hV k1
 rw [dq 23 [4,5,6,7,8,9,10,11,12,13,14,15,16,17,18,19,20,21,22,23,24,25,3]]
 simp only [Fz7]
 have aN:(.fresh w0.heap.size 35 JV.cells:Kn).p (gv 3) w1:=hV 22 3 (by kernel_rfl)
 generalize gv 3=v3 at aN ⊢
 rw [gQ hV 21 25 ((mkK t i (1+s) (1+e) p n).v)]
 clear hV
 obtain ⟨H,rfl,hg3,aQ⟩:=aN
 refine sO (mkK t i (1+s) (1+e) p n) aQ ?_
 intro w2 ar ab b3
 simp only [Act.put]
 refine Kx ?_
 have ae:Kept w0 w2:=k1.trans' ab (by omega)
 have aO:=Kj (JJ HA.out ae)
 have aG:=Kj (aF.out.kept ae)
 have aX:=k0.trans ae
 have aI:=Kj ar
 have am:=Kj (JX ar)
 have z2:=ae.size
 clear aQ ar ab k1 HA aF ae b3
 go_upto_region 2 with fail
 refine wAp 4 [pV H 0,iV t,iV d,pV H 2] [26,27,28,29] (nS 1 (ldR am.out 0) (nS 2 (sV rfl (fun a u E D hk=>exec_quon d rfl (dD D 1) rfl (by decide) HD.out (by omega) (by omega))) nZ)) ?_
 intro w3 k3
 simp only [F8]
 refine ZJ 3 H 2 35 _ (.int .i64 d) _ _ rfl rfl (by kernel_rfl) (by kernel_rfl) (by kernel_rfl) rfl rfl (aI.out.kept k3) (by rw [Ord.len9];omega) ?_
 intro w4 ay aB hs4
 simp only [Act.put]
 refine Kx ?_
 have K4:Keep (·=H) w2 w4:=(Keep.mono (T:=(·=H)) k3 (fun _ _ h=>h.elim)).trans aB (fun _ _ h=>h)
 have aw:Hid (Blk w4 H 35 (Ord.mk t i d (1+s) (1+e) p n 0 0).cells):=ay
 have al:=Kj (JX aw.out)
 have aC:=Kj (QJ aO.out K4 (by omega))
 have aM:=Kj (aG.out.keep K4 (by omega))
 have aD:Kept w w4:=aX.trans' K4 (by omega)
 clear ay aB K4 aO aG aI am k3 aX
 go_upto_region 3 with fail
 refine wA 2 [pV H 4,iV (1+e)] [30,31] (nS 1 (ldR al.out 4) nZ) ?_
 intro w5 k5
 simp only [F8]
 have ag:=Kj (aw.out.kept k5)
 have an:=Kj (JX ag.out)
 have ah:=Kj (JJ aC.out k5)
 have aS:=Kj (aM.out.kept k5)
 have ai:=aD.trans k5
 have z5:=k5.size
 clear aw al aC aM aD k5
 have ac:=Kj aS.out
 clear aS
 by_cases hk1:1+e=1
 ·go_upto_region 4 with fail
  refine wA 2 [bV true,bV true] [33,32] (nS 0 (aV rfl (fun a u E D hk=>JY (p:=(1+e)) (q:=1) rfl (eE E) rfl) (Ky hk1)) nZ) ?_
  intro w6 k6
  simp only [F8]
  have a3:=Kj (ag.out.kept k6)
  have a4:=Kj (JX a3.out)
  have a6:=Kj (JJ ah.out k6)
  have J:=Kj (ac.out.kept k6)
  have a7:=ai.trans k6
  have z6:=k6.size
  clear ag an ah ac ai k6
  go_upto_region 6 with fail
  refine wAp 6 [pV g1 5,iV q.h,pV H 6,iV n,iV h,pV H 7] [35,36,37,38,39,40] (nS 1 (ldR a6.out 5) (nS 3 (ldR a4.out 6) (nS 4 (cV Tryz.func25 (fun u hk=>(by rw [← HH.out];exact xZ q.h 0 n u (by omega) (by omega) (by omega)))) nZ))) ?_
  intro w7a av
  simp only [F8]
  refine ZJ 3 H 7 35 _ (.int .i64 h) _ _ rfl rfl (by kernel_rfl) (by kernel_rfl) (by kernel_rfl) rfl rfl (a3.out.kept av) (by rw [Ord.len9];omega) ?_
  intro w7 aH aZ hs7
  simp only [Act.put]
  refine Kx ?_
  have K7:Keep (·=H) w6 w7:=(Keep.mono (T:=(·=H)) av (fun _ _ h=>h.elim)).trans aZ (fun _ _ h=>h)
  have I:Hid (Blk w7 H 35 (Ord.mk t i d (1+s) (1+e) p n h 0).cells):=aH
  have N:=Kj (JX I.out)
  have a1:=Kj (QJ a6.out K7 (by omega))
  have j:=Kj (J.out.keep K7 (by omega))
  have a2:Kept w w7:=a7.trans' K7 (by omega)
  have z7:=K7.size
  clear aH aZ K7 a6 J a3 a4 av a7
  go_upto_region 9 with fail
  refine wAp 1 [(Ord.mk t i d (1+s) (1+e) p n h 0).v] [44] (nS 0 (ldO N.out) nZ) ?_
  intro w8 k8
  simp only [F8]
  refine sO (Ord.mk t i d (1+s) (1+e) p n h 0) (j.out.kept k8) ?_
  intro wz a9 aa aq
  simp only [Act.put]
  refine Kx ?_
  go_wp2
  refine bodyPost_ret (QU (p:=2) rfl _ _ g2 _ (Ord.mk t i d (1+s) (1+e) p n h 0).cells rfl a9 Tryz.underlying35 (by rw [Ord.len9];exact JU)) rfl ?_
  refine ⟨?_,(a2.trans k8).trans' aa (by omega)⟩
  rw [ak.out,if_neg (by omega),if_pos (.inl hk1)]
  rfl
 go_upto_region 4 with fail
 refine wA 2 [bV false,bV false] [33,32] (nS 0 (aV rfl (fun a u E D hk=>JY (p:=(1+e)) (q:=1) rfl (eE E) rfl) (Ku hk1)) nZ) ?_
 intro w6 k6
 simp only [F8]
 have a3:=Kj (ag.out.kept k6)
 have a4:=Kj (JX a3.out)
 have a6:=Kj (JJ ah.out k6)
 have J:=Kj (ac.out.kept k6)
 have a7:=ai.trans k6
 have z6:=k6.size
 clear ag an ah ac ai k6
 by_cases hk5:1+e=5
 ·go_upto_region 5 with fail
  refine wA 2 [bV true,bV true] [34,32] (nS 0 (aV rfl (fun a u E D hk=>JY (p:=(1+e)) (q:=5) rfl (eE E) rfl) (Ky hk5)) nZ) ?_
  intro w7 k7
  simp only [F8]
  have I:=Kj (a3.out.kept k7)
  have N:=Kj (JX I.out)
  have a1:=Kj (JJ a6.out k7)
  have j:=Kj (J.out.kept k7)
  have a2:=a7.trans k7
  have z7:=k7.size
  clear a3 a4 a6 J a7 k7
  go_upto_region 6 with fail
  refine wAp 6 [pV g1 5,iV q.h,pV H 6,iV n,iV h,pV H 7] [35,36,37,38,39,40] (nS 1 (ldR a1.out 5) (nS 3 (ldR N.out 6) (nS 4 (cV Tryz.func25 (fun u hk=>(by rw [← HH.out];exact xZ q.h 0 n u (by omega) (by omega) (by omega)))) nZ))) ?_
  intro w8a ao
  simp only [F8]
  refine ZJ 3 H 7 35 _ (.int .i64 h) _ _ rfl rfl (by kernel_rfl) (by kernel_rfl) (by kernel_rfl) rfl rfl (I.out.kept ao) (by rw [Ord.len9];omega) ?_
  intro w8 ax aR hs8
  simp only [Act.put]
  refine Kx ?_
  have K8:Keep (·=H) w7 w8:=(Keep.mono (T:=(·=H)) ao (fun _ _ h=>h.elim)).trans aR (fun _ _ h=>h)
  have a8:Hid (Blk w8 H 35 (Ord.mk t i d (1+s) (1+e) p n h 0).cells):=ax
  have a5:=Kj (JX a8.out)
  have aj:=Kj (QJ a1.out K8 (by omega))
  have U:=Kj (j.out.keep K8 (by omega))
  have ad:Kept w w8:=a2.trans' K8 (by omega)
  have z8:=K8.size
  clear ax aR K8 a1 j I N ao a2
  go_upto_region 9 with fail
  refine wAp 1 [(Ord.mk t i d (1+s) (1+e) p n h 0).v] [44] (nS 0 (ldO a5.out) nZ) ?_
  intro w9 k9
  simp only [F8]
  refine sO (Ord.mk t i d (1+s) (1+e) p n h 0) (U.out.kept k9) ?_
  intro wz a9 aa aq
  simp only [Act.put]
  refine Kx ?_
  go_wp2
  refine bodyPost_ret (QU (p:=2) rfl _ _ g2 _ (Ord.mk t i d (1+s) (1+e) p n h 0).cells rfl a9 Tryz.underlying35 (by rw [Ord.len9];exact JU)) rfl ?_
  refine ⟨?_,(ad.trans k9).trans' aa (by omega)⟩
  rw [ak.out,if_neg (by omega),if_pos (.inr hk5)]
  rfl
 go_upto_region 5 with fail
 refine wA 2 [bV false,bV false] [34,32] (nS 0 (aV rfl (fun a u E D hk=>JY (p:=(1+e)) (q:=5) rfl (eE E) rfl) (Ku hk5)) nZ) ?_
 intro w7 k7
 simp only [F8]
 have I:=Kj (a3.out.kept k7)
 have N:=Kj (JX I.out)
 have a1:=Kj (JJ a6.out k7)
 have j:=Kj (J.out.kept k7)
 have a2:=a7.trans k7
 have z7:=k7.size
 clear a3 a4 a6 J a7 k7
 by_cases ab:1+e=2
 ·go_upto_region 7 with fail
  refine wA 2 [bV true,bV true] [42,41] (nS 0 (aV rfl (fun a u E D hk=>JY (p:=(1+e)) (q:=2) rfl (eE E) rfl) (Ky ab)) nZ) ?_
  intro w8 k8
  simp only [F8]
  have a8:=Kj (I.out.kept k8)
  have a5:=Kj (JX a8.out)
  have aj:=Kj (JJ a1.out k8)
  have U:=Kj (j.out.kept k8)
  have ad:=a2.trans k8
  have z8:=k8.size
  clear I N a1 j a2 k8
  go_upto_region 8 with fail
  refine wAp 1 [pV H 5] [43] nZ ?_
  intro w9a au
  simp only [F8]
  refine ZJ 3 H 5 35 _ (.int .i64 0) _ (.const (.int .i64 0)) rfl rfl (by kernel_rfl) (by kernel_rfl) rfl rfl rfl (a8.out.kept au) (by rw [Ord.len9];omega) ?_
  intro w9 aY aJ hs9
  simp only [Act.put]
  refine Kx ?_
  have K9:Keep (·=H) w8 w9:=(Keep.mono (T:=(·=H)) au (fun _ _ h=>h.elim)).trans aJ (fun _ _ h=>h)
  have b6:Hid (Blk w9 H 35 (Ord.mk t i d (1+s) (1+e) 0 n 0 0).cells):=aY
  have aE:=Kj (JX b6.out)
  have HA9:=Kj (QJ aj.out K9 (by omega))
  have az:=Kj (U.out.keep K9 (by omega))
  have b2:Kept w w9:=ad.trans' K9 (by omega)
  have z9:=K9.size
  clear aY aJ K9 aj U a8 a5 au ad
  go_upto_region 9 with fail
  refine wAp 1 [(Ord.mk t i d (1+s) (1+e) 0 n 0 0).v] [44] (nS 0 (ldO aE.out) nZ) ?_
  intro w10 aW
  simp only [F8]
  refine sO (Ord.mk t i d (1+s) (1+e) 0 n 0 0) (az.out.kept aW) ?_
  intro wz a9 aa aq
  simp only [Act.put]
  refine Kx ?_
  go_wp2
  refine bodyPost_ret (QU (p:=2) rfl _ _ g2 _ (Ord.mk t i d (1+s) (1+e) 0 n 0 0).cells rfl a9 Tryz.underlying35 (by rw [Ord.len9];exact JU)) rfl ?_
  refine ⟨?_,(b2.trans aW).trans' aa (by omega)⟩
  rw [ak.out,if_pos ab,if_neg (by omega)]
  rfl
 go_upto_region 7 with fail
 refine wA 2 [bV false,bV false] [42,41] (nS 0 (aV rfl (fun a u E D hk=>JY (p:=(1+e)) (q:=2) rfl (eE E) rfl) (Ku ab)) nZ) ?_
 intro w8 k8
 simp only [F8]
 have a8:=Kj (I.out.kept k8)
 have a5:=Kj (JX a8.out)
 have aj:=Kj (JJ a1.out k8)
 have U:=Kj (j.out.kept k8)
 have ad:=a2.trans k8
 have z8:=k8.size
 clear I N a1 j a2 k8
 go_upto_region 9 with fail
 refine wAp 1 [(Ord.mk t i d (1+s) (1+e) p n 0 0).v] [44] (nS 0 (ldO a5.out) nZ) ?_
 intro w9 k9
 simp only [F8]
 refine sO (Ord.mk t i d (1+s) (1+e) p n 0 0) (U.out.kept k9) ?_
 intro wz a9 aa aq
 simp only [Act.put]
 refine Kx ?_
 go_wp2
 refine bodyPost_ret (QU (p:=2) rfl _ _ g2 _ (Ord.mk t i d (1+s) (1+e) p n 0 0).cells rfl a9 Tryz.underlying35 (by rw [Ord.len9];exact JU)) rfl ?_
 refine ⟨?_,(ad.trans k9).trans' aa (by omega)⟩
 rw [ak.out,if_neg ab,if_neg (by omega)]
 rfl
end Go.Proofs.YtklohceombpleaaGreat
