/-
 Laws and contracts that the walks rest on, part 1. No condition.
-/
import Derived.Test.YtklohceombpleaaRows
import Derived.WalkKit
import Derived.WalkSpells
import Derived.WalkLawsBesides
import Derived.Lib.Hide
import Derived.BigQuiet
import Derived.Deep.QuietTactic
import Derived.Deep.RegionWith
import Derived.Laws.CopyOwn
import Derived.Lib.AppendStr
import Derived.Laws.AppendOwnNone
import Derived.ProofKit
import Derived.OpenShut
import Derived.Lib.SmallJoins
import Derived.Deep.Slices
import Derived.Deep.Fields
import Derived.Laws.OwnMore
import Derived.StillTail
import Derived.Deep.Quiet
import Derived.Deep.MidRow
import Derived.OrdersHeld
import Derived.Deep.RegionHeld3
import Derived.Deep.AppendLies
import Derived.Laws.BitsLemmas
import Derived.Laws.BitsAllLaws
import Derived.ChangeKeysEq
import Derived.Great.BuildSlice
import Derived.Laws.StructEq
import Derived.Deep.DeepCutAuto
import Derived.ArgAppend
import Derived.Lib.SliceRun
import Derived.Lib.AppendZerosOnto
import Derived.Lib.Overlaps
set_option linter.unusedVariables false
namespace Go.Proofs.Ytklohceombpleaa
theorem fC {α β : Type} {f : β → α → β} {a : α} {l : List α} {b : β} : (a :: l).foldl f b = l.foldl f (f b a) := rfl
theorem fN {α β : Type} {f : β → α → β} {b : β} : ([] : List α).foldl f b = b := rfl
theorem sA {α : Type} (l : List α) (i : Nat) (a : α) : l.toArray.setIfInBounds i a = (l.set i a).toArray := by simp only [List.setIfInBounds_toArray]
theorem sS {α : Type} {a : α} {l : List α} {n : Nat} {b : α} : (a :: l).set (n + 1) b = a :: l.set n b := rfl
theorem sZ {α : Type} {a : α} {l : List α} {b : α} : (a :: l).set 0 b = b :: l := rfl
theorem dS {α : Type} {a : α} {l : List α} {n : Nat} : (a :: l).drop (n + 1) = l.drop n := rfl
theorem dZ {α : Type} {l : List α} : l.drop 0 = l := rfl
theorem aP (a : Act) (v : Value) (d : Option Tmp) : a.put d v = Act.put a d v := rfl
end Go.Proofs.Ytklohceombpleaa
namespace Go.Proofs.Ytklohceombpleaa
open Go.RowKit
set_option maxRecDepth 100000
theorem ret_bool {a b : Bool} (h : a = b) : Ending.returned (.bool a) = .returned (.bool b) := by rw [h]
theorem ret_int {k : IntKind} {a b : Int} (h : a = b) : Ending.returned (.int k a) = .returned (.int k b) := by rw [h]
structure Keep (S : Nat → Prop) (w w' : World) : Prop where
 os : w'.os = w.os
 tape : w'.tape = w.tape
 output : w'.output = w.output
 size : w.heap.size ≤ w'.heap.size
 block : ∀ k, k < w.heap.size → ¬ S k → w'.heap[k]? = w.heap[k]?
def Kept (w w' : World) : Prop := Keep (fun _ => False) w w'
theorem Keep.refl (S : Nat → Prop) (w : World) : Keep S w w := ⟨rfl, rfl, rfl, Nat.le_refl _, fun _ _ _ => rfl⟩
theorem Keep.trans {S T : Nat → Prop} {a b c : World} (h : Keep S a b) (k : Keep T b c) (hT : ∀ i, i < a.heap.size → T i → S i) : Keep S a c :=
 ⟨k.os.trans h.os, k.tape.trans h.tape, k.output.trans h.output, Nat.le_trans h.size k.size, fun i hi hn =>
  (k.block i (Nat.lt_of_lt_of_le hi h.size) (fun ht => hn (hT i hi ht))).trans (h.block i hi hn)⟩
theorem Keep.mono {S T : Nat → Prop} {a b : World} (h : Keep S a b) (hT : ∀ i, i < a.heap.size → S i → T i) : Keep T a b :=
 ⟨h.os, h.tape, h.output, h.size, fun i hi hn => h.block i hi (fun hs => hn (hT i hi hs))⟩
theorem Keep.drew {S : Nat → Prop} {a w : World} (h : Keep S a w) : Keep S a w.drew := ⟨h.os, h.tape, h.output, h.size, h.block⟩
theorem Keep.undrew {S : Nat → Prop} {a w : World} (h : Keep S a.drew w) : Keep S a w := ⟨h.os, h.tape, h.output, h.size, h.block⟩
theorem Keep.alloc {S : Nat → Prop} {a w : World} (h : Keep S a w) (o : Obj) : Keep S a (w.alloc o) :=
 ⟨h.os, h.tape, h.output, Nat.le_trans h.size (by simp), fun i hi hn => (Below.heap_alloc w o i (Nat.lt_of_lt_of_le hi h.size)).trans (h.block i hi hn)⟩
theorem Keep.setCell {S : Nat → Prop} {a w : World} (h : Keep S a w) {p : Addr} (hp : p.block < a.heap.size → S p.block) (u : Value) : Keep S a (w.setCell p u) :=
 ⟨h.os, h.tape, h.output, by simpa [World.setCell] using h.size, fun i hi hn => (Below.heap_setCell w p u i (by
  rintro rfl
  exact hn (hp hi))).trans (h.block i hi hn)⟩
theorem Keep.grown {S : Nat → Prop} {a w w' : World} {row : Option Nat} (h : Keep S a w) (hg : w.grownBy w' row) (hr : ∀ k, row = some k → k < a.heap.size → S k) : Keep S a w' :=
 ⟨hg.os.trans h.os, hg.tape.trans h.tape, hg.output.trans h.output, Nat.le_trans h.size hg.size, fun i hi hn =>
  (hg.block i (Nat.lt_of_lt_of_le hi h.size) (fun e => hn (hr i e.symm hi))).trans (h.block i hi hn)⟩
theorem Kept.refl (w : World) : Kept w w := Keep.refl _ w
theorem Kept.trans {a b c : World} (h : Kept a b) (k : Kept b c) : Kept a c := Keep.trans h k (fun _ _ h => h)
theorem Kept.trans' {a b c : World} {g : Nat} (h : Kept a b) (k : Keep (· = g) b c) (hg : ¬ g < a.heap.size) : Kept a c := Keep.trans h k (fun i hi e => hg (by subst e; exact hi))
theorem Keep.kept {S : Nat → Prop} {a b c : World} (h : Keep S a b) (k : Kept b c) : Keep S a c := h.trans k (fun _ _ h => h.elim)
theorem Keep.cell {S : Nat → Prop} {w w' : World} (h : Keep S w w') {a : Addr} {v : Value} (hc : w.cell? a = some v) (hn : ¬ S a.block) : w'.cell? a = some v := (World.cell?_of_block (w := w) (h.block _ (World.block_lt_of_cell? w a hc) hn)).trans hc
theorem Kept.cell {w w' : World} (h : Kept w w') {a : Addr} {v : Value} (hc : w.cell? a = some v) : w'.cell? a = some v := (World.cell?_of_block (w := w) (h.block _ (World.block_lt_of_cell? w a hc) (fun h => h))).trans hc
theorem Kept.toBelow {w w' : World} (h : Kept w w') : Below w.heap.size w w' := ⟨h.os, h.tape, h.output, h.size, fun k hk => h.block k hk (fun h => h)⟩
def Blk (w : World) (g : Nat) (t : TypeId) (cs : List Value) : Prop := w.heap[g]? = some (.cells cs.toArray t (0, 0))
theorem Blk.lt {w : World} {g : Nat} {t : TypeId} {cs : List Value} (h : Blk w g t cs) : g < w.heap.size := (Array.getElem?_eq_some_iff.1 h).1
theorem Blk.cell {w : World} {g : Nat} {t : TypeId} {cs : List Value} (h : Blk w g t cs) (i : Nat) : w.cell? ⟨g, i, none⟩ = cs[i]? := by
 rw [cell_of_row w g i cs.toArray t (0, 0) h]; simp
theorem Blk.frozen {w : World} {g : Nat} {t : TypeId} {cs : List Value} (h : Blk w g t cs) (i : Nat) : w.frozen? ⟨g, i, none⟩ = false := by
 unfold Blk at h
 simp [World.frozen?, h]
theorem Blk.keep {S : Nat → Prop} {w w' : World} {g : Nat} {t : TypeId} {cs : List Value} (h : Blk w g t cs) (hk : Keep S w w') (hn : ¬ S g) : Blk w' g t cs := (hk.block g h.lt hn).trans h
theorem Blk.kept {w w' : World} {g : Nat} {t : TypeId} {cs : List Value} (h : Blk w g t cs) (hk : Kept w w') : Blk w' g t cs := h.keep hk (fun h => h)
theorem Blk.new (w : World) (t : TypeId) (cs : List Value) : Blk (w.alloc (.cells cs.toArray t)) w.heap.size t cs := heap_alloc_new w _
theorem Blk.set_ {w : World} {g : Nat} {t : TypeId} {cs : List Value} (h : Blk w g t cs) (i : Nat) (u : Value) : Blk (w.setCell ⟨g, i, none⟩ u) g t (cs.set i u) := by
 unfold Blk at h ⊢
 simp [World.setCell, Array.getElem?_modify, h]
def cells8 (xs : List UInt8) : List Value := xs.map fun x => .int .u8 (x.toNat : Int)
theorem len8 (xs : List UInt8) : (cells8 xs).length = xs.length := by simp [cells8]
theorem cells8_one (xs : List UInt8) : ∀ u ∈ cells8 xs, u.oneCell' = true := by
 intro u hu
 simp only [cells8, List.mem_map] at hu
 obtain ⟨x, _, rfl⟩ := hu
 rfl
theorem block_add (a : Addr) (n : Nat) : (a.add n).block = a.block := by unfold Addr.add; split <;> rfl
theorem add_add (a : Addr) (i j : Nat) : (a.add i).add j = a.add (i + j) := by
 unfold Addr.add
 by_cases hi : i = 0 <;> by_cases hj : j = 0 <;> simp [hi, hj, Nat.add_assoc]
theorem add_lit (g j : Nat) : (⟨g, 0, none⟩ : Addr).add j = ⟨g, j, none⟩ := by unfold Addr.add; split <;> simp_all
theorem wpList_wanted {P : Program} {ops : Array Oper} {rest : List Oper} {o : Oper} {a : Act} {w : World} {Q : Exit → Act → World → Prop} (hw : Region.wanted o (yielded ops a.tmps) = true)
  (h : ∀ K : Act → World → Prop, (∀ a w, wpList P ops Q rest a w → K a w) → o.wp P a w K Q) : wpList P ops Q (o :: rest) a w := by
 unfold wpList
 rw [if_pos hw]
 exact .inl (h _ (fun _ _ h => h))
open Go.RowKit Go.ChangeShapes Go.WideShapes Go.ChangeAt
theorem Try.own : ownKnob Try.prog.godebug = none := by kernel_rfl
theorem Try.laidOut : laidOutB Try.prog = true := by kernel_rfl
def plainTypes (P : Program) (ts : List TypeId) : Bool := ts.all fun t => P.readableRec t && decide (t < P.types.size)
theorem trodAll_kept {H : Type} {enc : TypeId × Value → H} {P : Program} (hl : laidOutB P = true) {W W' : World} (hk : Kept W W') : ∀ (ts : List TypeId) {vs : List Value} {ds : List (DataW H)} {ps : List MemPlace},
  plainTypes P ts = true → DataW.TrodAll enc P W 0 (fun _ => true) true ts vs ds ps → (∀ x ∈ ps, x.block < W.heap.size) →
  DataW.TrodAll enc P W' 0 (fun b => decide (b < W.heap.size)) true ts vs ds ps
 | [], _, _, _, _, h, _ => by
  obtain ⟨rfl, rfl, rfl⟩ := trodAll_nil h
  exact trodAll_mk0
 | t :: ts, _, _, _, hp, h, hlt => by
  obtain ⟨v, vs, d, ds, p, q, rfl, rfl, rfl, h1, h2⟩ := trodAll_cons h
  simp only [plainTypes, List.all_cons, Bool.and_eq_true, decide_eq_true_eq] at hp
  exact trodAll_cons_mk (Below.trod hl hp.1.1 hp.1.2 h1 hk.toBelow (fun x hx => hlt x (List.mem_append_left _ hx)))
   (trodAll_kept hl hk ts hp.2 h2 (fun x hx => hlt x (List.mem_append_right _ hx)))
theorem law_post {H : Type} {enc : TypeId × Value → H} {f : Func} {s : ChangeSpec} {W W' : World} {args : Array Value} {ds : List (DataW H)} {before : List MemPlace}
  (hW : DataW.Whole enc Try.prog f.params.toList s.vars false W args.toList ds [] before) (hv : s.vars = []) (hr : f.resultTypes = #[4])
  (hp : plainTypes Try.prog f.params.toList = true) (hfn : s.fn H (ds ++ []) = { results := [.lit (.bool true)], args := ds, vars := [] }) (hk : Kept W W') :
  s.post enc Try.prog f false true false false W args (.bool true) W' := by
 have hlt : ∀ x ∈ before, x.block < W.heap.size := fun x hx => hW.lt x hx
 obtain ⟨p, q, hA, hV, rfl, _, _⟩ := id hW
 rw [hv] at hV
 obtain ⟨_, rfl⟩ := trodVars_none hV
 simp only [List.append_nil] at *
 refine ⟨ds, [], p, [], p, [], hW, ?_, ?_, ?_, hk.toBelow.frame _, fun h => by cases h⟩
 ·rw [List.append_nil, hfn, hr]
  exact trodAll_mk1 (shut_bool Try.underlying4 true)
 ·rw [List.append_nil, hfn]
  exact trodAll_kept Try.laidOut hk _ hp hA hlt
 ·rw [List.append_nil, hfn, hv]
  exact rfl
def LAt {α : Type} (W : World) (A : Option Addr) (k : Nat) (Sh : List Value → α → Prop) (l : List α) : Prop :=
 ∀ i a, l[i]? = some a → ∃ b o cs, A = some ⟨b, o, none⟩ ∧ Sh cs a ∧ cs.length = k ∧ ∀ j v, cs[j]? = some v → W.cell? ⟨b, o + (i * k + j), none⟩ = some v
def Elems {α : Type} (W : World) (v : Value) (k : Nat) (Sh : List Value → α → Prop) (l : List α) : Prop := ∃ A n c, v = .slice A n c ∧ Hid (l.length = n) ∧ LAt W A k Sh l ∧ n ≤ c ∧ c ≤ maxLen
theorem open_elems {α : Type} [Inhabited α] {H : Type} {enc : TypeId × Value → H} {W : World} {b0 : Nat} {t e : TypeId} {k : Nat} {v : Value} {d : DataW H} {p : List MemPlace} (Sh : List Value → α → Prop)
  (ht : Try.prog.underlying t = some (.slice e)) (hc : Try.prog.cellsOf e = k) (hk0 : 0 < k)
  (hsh : ∀ (fuel : Nat) (cs : List Value) (x : DataW H × List MemPlace), DataW.trod enc Try.prog W 0 (fun _ => true) true fuel e cs = some x → ∃ a, Sh cs a)
  (hv : Value.okWide Try.prog W .any b0 t v) (h : DataW.Trod enc Try.prog W 0 (fun _ => true) true t v d p) : ∃ l, Elems W v k Sh l := by
 subst hc
 obtain ⟨a0, len, cap, rfl⟩ := okWide_slice ht hv
 obtain ⟨fuel, hf⟩ := h
 rcases Go.Deep.open_slice ht hf with ⟨hcs, _⟩ | ⟨a, len', cap', m, n, D, Pl, hcs, _, hl, hm, hmm, _, hi⟩
 ·simp [Value.cells] at hcs
  obtain ⟨rfl, rfl, rfl⟩ := hcs
  exact ⟨[], none, 0, 0, rfl, rfl, fun i a h => by simp at h, Nat.le_refl _, by unfold maxLen; omega⟩
 ·simp [Value.cells] at hcs
  obtain ⟨rfl, rfl, rfl⟩ := hcs
  simp at hmm
  subst hmm
  have each : ∀ i, ∃ x : α, i < len → ∃ cs, Sh cs x ∧ cs.length = Try.prog.cellsOf e ∧ ∀ j v, cs[j]? = some v → W.cell? (a.add (i * Try.prog.cellsOf e + j)) = some v := by
   intro i
   by_cases hil : i < len
   ·obtain ⟨cs, h1, h2⟩ := hi i (by omega)
    obtain ⟨x, hx⟩ := hsh _ _ _ h2
    obtain ⟨_, hlen, hcell⟩ := World.cells?_some h1
    refine ⟨x, fun _ => ⟨cs, hx, hlen, fun j v hv => ?_⟩⟩
    have hj : j < Try.prog.cellsOf e := by have := (List.getElem?_eq_some_iff.1 hv).1; omega
    rw [← add_add, hcell j hj, hv]
   ·exact ⟨default, fun h => (hil h).elim⟩
  refine ⟨(List.range len).map fun i => Classical.choose (each i), some a, len, _, rfl, by show _ = _; simp, ?_, hl, hm⟩
  intro i x hx
  rw [List.getElem?_map] at hx
  by_cases hil : i < len
  ·rw [List.getElem?_range hil] at hx
   simp at hx
   subst hx
   obtain ⟨cs, h1, h2, h3⟩ := Classical.choose_spec (each i) hil
   obtain ⟨cs0, g1, g2, g3⟩ := Classical.choose_spec (each 0) (by omega)
   have hsp : a.spot = none := by
    have := g3 0 _ (List.getElem?_eq_getElem (by omega))
    simpa [Addr.add] using World.cell?_spot this
   obtain ⟨b, o, sp⟩ := a
   simp only at hsp
   subst hsp
   exact ⟨b, o, cs, rfl, h1, h2, fun j v hv => by rw [← Go.WideShapes.add_plain]; exact h3 j v hv⟩
  ·rw [List.getElem?_eq_none (by simp; omega)] at hx
   simp at hx


open Go
section
variable {P : Program} {ops : Array Oper} {md : Region.Mode} {C : World → Prop}
end
section
variable {ops : Array Oper} {C : World → Prop} {Q : Act → Prop} {a : Act} {o : Oper} {rest : List Oper}
end
theorem exec_eqlb {a : Act} {o : Oper} {u : World} (x y : Operand) (t' : TypeId) (p q : Bool) (hop : o.op = .binOp .eql 4 x y t') (hx : a.eval x = .bool p) (hy : a.eval y = .bool q) :
  (execOp a.eval o).run Try.prog u = .ok (.value (.bool (p == q))) u := by
 unfold execOp
 simp only [hop, hx, hy]
 simp [go_sem]
theorem exec_move {a : Act} {o : Oper} {u : World} (x : Operand) (v : Value) (hop : o.op = .move x) (hx : a.eval x = v) : (execOp a.eval o).run Try.prog u = .ok (.value v) u := by
 subst hx
 unfold execOp
 simp [hop]
theorem exec_pick {a : Act} {o : Oper} {u : World} (c x y : Operand) (v : Value) (hop : o.op = .pick c x y) (hc : a.eval c = .bool true) (hx : a.eval x = v) :
  (execOp a.eval o).run Try.prog u = .ok (.value v) u := by
 unfold execOp
 simp only [hop, hc, hx]
 simp [go_sem]
theorem exec_call {a : Act} {o : Oper} (f : Nat) (fn : Func) (xs : List Operand) (ts : Array TypeId) (args : List Value) (hf : Try.prog.funcs[f]? = some fn) (hn : (fn.name == "runtime.NumGoroutine") = false) (hb : fn.body.isNone = false) (hop : o.op = .call { callee := .value (.func f), args := xs.toArray, argTypes := ts }) (hx : xs.map a.eval = args) :
  ∀ u, (execOp a.eval o).run Try.prog u = .ok (.enter f args.toArray) u := fun u => by
 have e : a.eval (.func f) = .func (.func f) #[] #[] := rfl
 have hc : (callFunc f args.toArray).run Try.prog u = .ok (.enter f args.toArray) u := by
  have hn' : ¬ fn.name = "runtime.NumGoroutine" := by simpa using hn
  have hb' : ¬ fn.body = none := by
   intro h
   rw [h] at hb
   cases hb
  simp [callFunc, hf, hn', hb']
 unfold execOp
 simp only [hop, resolve, invoke, e, List.map_toArray, hx, Sem.run_bind]
 simp [Deferred.ofValue, hc]
theorem exec_assign {a : Act} {o : Oper} {u : World} (x : Operand) (v : Value) (hop : o.op = .assign x) (hx : a.eval x = v) : (execOp a.eval o).run Try.prog u = .ok (.value v) u := by
 subst hx
 unfold execOp
 simp [hop]
section
variable {P : Program} {ops : Array Oper} {md : Region.Mode} {S Si : World → Prop} {weak : Nat → Bool} {Q : Exit → Act → World → Prop}
def wpX (P : Program) (md : Region.Mode) (ops : Array Oper) (Q : Exit → Act → World → Prop) (S : World → Prop) (weak : Nat → Bool) : Nat → Array Bool → Act → World → Prop
 | 0, ls, a, w => Region.ready md ops ls = [] ∧ Q .normal a w
 | f + 1, ls, a, w => (Region.ready md ops ls = [] → Q .normal a w) ∧ ∀ i ∈ Region.ready md ops ls, wpOp P ops Q i (fun a' w' => (weak i = false → S w → S w') ∧ wpX P md ops Q S weak f (ls.setIfInBounds i true) a' w') a w
theorem wpAny_of_X : ∀ (f : Nat) (ls : Array Bool) (a : Act) (w : World), wpX P md ops Q S weak f ls a w → wpAny P md ops Q f ls a w
 | 0, _, _, _, h => h
 | f + 1, _, _, _, h => ⟨h.1, fun i hi => wpOp_mono (fun a' w' h' => wpAny_of_X f _ a' w' h'.2) (h.2 i hi)⟩
theorem wpX_first {i : Nat} {oi : Oper} {v : Value} (hi : ops[i]? = some oi) (hsel : ∀ (j : Nat) (o : Oper) cs b, ops[j]? = some o → o.op ≠ .select cs b) (hQ : ∀ c a w, Q (.panic c) (a.put oi.dst v) w → Q (.panic c) a w)
  (hpre : ∀ j oj, ops[j]? = some oj → (∀ e ∈ oj.after, Region.binds md e = true → e.on ≠ i) → ∀ w w', Si w → (weak j = false → S w → S w') → Si w') :
  ∀ (f : Nat) (ls : Array Bool) (a : Act) (w : World), (∀ j oj, ops[j]? = some oj → j ≠ i → ls.getD j true = false → (∀ e ∈ oj.after, Region.binds md e = true → e.on ≠ i) → oi.apart ops oj = true) →
   i ∈ Region.ready md ops ls → YieldsIf P ops Si oi v a → Si w → wpX P md ops Q S weak f (ls.setIfInBounds i true) (a.put oi.dst v) w → wpX P md ops Q S weak (f + 1) ls a w := by
 intro f
 induction f with
 | zero =>
  intro ls a w _ hr hy hS H
  refine ⟨fun h => (by rw [h] at hr; cases hr), fun j hj => ?_⟩
  by_cases hji : j = i
  ·subst hji
   exact hy.wpOp hi hS ⟨fun _ h => h, H⟩
  ·have := ready_mono hj hji
   rw [H.1] at this
   cases this
 | succ f ih =>
  intro ls a w hfree hr hy hS H
  refine ⟨fun h => (by rw [h] at hr; cases hr), fun j hj => ?_⟩
  by_cases hji : j = i
  ·subst hji
   exact hy.wpOp hi hS ⟨fun _ h => h, H⟩
  ·have h1 := H.2 j (ready_mono hj hji)
   obtain ⟨hjun, oj, hoj, hall⟩ := mem_ready.1 hj
   have hnot : ∀ e ∈ oj.after, Region.binds md e = true → e.on ≠ i := fun e he hb heq => by
    have h1 := hall e he hb
    have h0 := (mem_ready.1 hr).1
    rw [heq] at h1
    rcases Nat.lt_or_ge i ls.size with h' | h'
    ·simp [h'] at h0 h1
     rw [h0] at h1
     cases h1
    ·simp [Array.getElem?_eq_none h'] at h1
   have h2 := wpOp_putIf hoj (hfree j oj hoj hji hjun hnot) (fun cs b => hsel i oi cs b hi) (fun cs b => hsel j oj cs b hoj) hQ hy h1
   refine wpOp_mono (fun a' w' h3 => ⟨h3.2.1, ?_⟩) h2
   have hSi := hpre j oj hoj hnot w w' hS h3.2.1
   refine ih (ls.setIfInBounds j true) a' w' (fun k ok hk hki hun hno => hfree k ok hk hki ?_ hno) (ready_mono hr (Ne.symm hji)) h3.1 hSi ?_
   ·by_cases hjk : j = k
    ·subst hjk; exact hjun
    ·rw [getD_set_ne true hjk] at hun; exact hun
   ·rw [Array.setIfInBounds_comm _ _ hji]
    exact h3.2.2
def wpSch (P : Program) (ops : Array Oper) (S : World → Prop) (Q : Exit → Act → World → Prop) : List (Nat × Nat) → Act → World → Prop
 | [], a, w => wpList P ops Q [] a w
 | (i, 0) :: r, a, w => ∃ o v, ops[i]? = some o ∧ YieldsIf P ops S o v a ∧ wpSch P ops S Q r (a.put o.dst v) w
 | (i, 1) :: r, a, w => wpOp P ops Q i (fun a' w' => S w' ∧ wpSch P ops S Q r a' w') a w
 | (i, 2) :: r, a, w => ∃ o v, ops[i]? = some o ∧ YieldsIf P ops (fun _ => True) o v a ∧ wpSch P ops S Q r (a.put o.dst v) w
 | (i, _) :: r, a, w => wpOp P ops Q i (fun a' w' => wpSch P ops S Q r a' w') a w
def schB (ops : Array Oper) (weak : List Nat) : List (Nat × Nat) → Array Bool → Bool → Bool
 | [], ls, _ => (Region.ready .any ops ls).isEmpty
 | (i, 0) :: r, ls, late => !late && (Region.ready .any ops ls).contains i && Region.free .any ops ls i && (weak.all fun j => match ops[j]? with | some oj => oj.after.any (fun e => Region.binds .any e && e.on == i) | none => false) && schB ops weak r (ls.setIfInBounds i true) late
 | (i, 1) :: r, ls, late => (Region.ready .any ops ls == [i]) && schB ops weak r (ls.setIfInBounds i true) late
 | (i, 2) :: r, ls, late => (Region.ready .any ops ls).contains i && Region.free .any ops ls i && schB ops weak r (ls.setIfInBounds i true) late
 | (i, _) :: r, ls, _ => (Region.ready .any ops ls == [i]) && weak.contains i && schB ops weak r (ls.setIfInBounds i true) true
theorem X_of_sch {wk : List Nat} (hs : Region.noSelect ops = true) (hQ : ∀ c a d v w, Q (.panic c) (a.put d v) w → Q (.panic c) a w) : ∀ (sch : List (Nat × Nat)) (late : Bool) (ls : Array Bool) (a : Act) (w : World), (late = false → S w) → schB ops wk sch ls late = true → wpSch P ops S Q sch a w → wpX P .any ops Q S (fun i => wk.contains i) sch.length ls a w
 | [], late, ls, a, w, hS, hB, h => by
  have : Region.ready .any ops ls = [] := by simpa [schB] using hB
  exact ⟨this, h⟩
 | (i, 0) :: r, late, ls, a, w, hS, hB, h => by
  obtain ⟨o, v, ho, hy, h⟩ := h
  simp only [schB, Bool.and_eq_true, Bool.not_eq_true'] at hB
  obtain ⟨⟨⟨⟨hl, hr⟩, hf⟩, hall⟩, hB⟩ := hB
  refine wpX_first (Si := S) ho (Region.noSelect_spec hs) (fun c a w => hQ c a o.dst v w) ?_ r.length ls a w (Region.free_spec ho hf) (by simpa using hr) hy (hS hl) (X_of_sch hs hQ r late _ _ w hS hB h)
  intro j oj hoj hno w w' hw hT
  refine hT ?_ hw
  cases hc : wk.contains j with
  | false => rfl
  | true =>
   have h1 := List.all_eq_true.1 hall j (by simpa using hc)
   simp only [hoj, Array.any_eq_true'] at h1
   obtain ⟨e, he, h2⟩ := h1
   simp only [Bool.and_eq_true, beq_iff_eq] at h2
   exact absurd h2.2 (hno e he h2.1)
 | (i, 1) :: r, late, ls, a, w, hS, hB, h => by
  simp only [schB, Bool.and_eq_true, beq_iff_eq] at hB
  obtain ⟨hr, hB⟩ := hB
  show wpX P .any ops Q S (fun i => wk.contains i) (r.length + 1) ls a w
  refine ⟨fun h0 => (by rw [h0] at hr; cases hr), fun j hj => ?_⟩
  obtain rfl : j = i := by rw [hr] at hj; simpa using hj
  exact wpOp_mono (fun a' w' ⟨h1, h2⟩ => ⟨fun _ _ => h1, X_of_sch hs hQ r late _ a' w' (fun _ => h1) hB h2⟩) h
 | (i, 2) :: r, late, ls, a, w, hS, hB, h => by
  obtain ⟨o, v, ho, hy, h⟩ := h
  simp only [schB, Bool.and_eq_true] at hB
  obtain ⟨⟨hr, hf⟩, hB⟩ := hB
  exact wpX_first (Si := fun _ => True) ho (Region.noSelect_spec hs) (fun c a w => hQ c a o.dst v w) (fun _ _ _ _ _ _ _ _ => trivial) r.length ls a w (Region.free_spec ho hf) (by simpa using hr) hy trivial (X_of_sch hs hQ r late _ _ w hS hB h)
 | (i, n + 3) :: r, late, ls, a, w, hS, hB, h => by
  simp only [schB, Bool.and_eq_true, beq_iff_eq] at hB
  obtain ⟨⟨hr, hw⟩, hB⟩ := hB
  show wpX P .any ops Q S (fun i => wk.contains i) (r.length + 1) ls a w
  refine ⟨fun h0 => (by rw [h0] at hr; cases hr), fun j hj => ?_⟩
  obtain rfl : j = i := by rw [hr] at hj; simpa using hj
  exact wpOp_mono (fun a' w' h2 => ⟨fun h => (by have h : wk.contains j = false := h; rw [hw] at h; cases h), X_of_sch hs hQ r true _ a' w' (fun h => by cases h) hB h2⟩) h
def weakOf (sch : List (Nat × Nat)) : List Nat := (sch.filter fun x => 3 ≤ x.2).map (·.1)
theorem wp_sched {id : Nat} {a : Act} {w : World} {l : List Oper} (S : World → Prop) (sch : List (Nat × Nat)) (hm : P.follows .mixedOrders = true) (hB : (Region.noSelect l.toArray && (sch.length == l.length) && schB l.toArray (weakOf sch) sch (Array.replicate l.length false) false) = true)
  (hS : S w.drew) (h : wpSch P l.toArray S (NoPanic Q) sch a w.drew) : (Code.region id l.toArray true).wp P Q a w := by
 simp only [Bool.and_eq_true, beq_iff_eq] at hB
 refine wp_region_noPanic (wp_region_any hm ?_)
 have := X_of_sch (P := P) (S := S) hB.1.1 (fun c a d v w h => (h : False).elim) sch false _ a w.drew (fun _ => hS) hB.2 h
 rw [hB.1.2] at this
 have h2 := wpAny_of_X _ _ _ _ this
 simpa using h2
end
section
variable {ops : Array Oper} {S : World → Prop} {Q : Exit → Act → World → Prop} {a : Act} {w : World} {i : Nat} {o : Oper} {r : List (Nat × Nat)}
theorem s_done (h : wpList Try.prog ops Q [] a w) : wpSch Try.prog ops S (NoPanic Q) [] a w := NoPanic.normal h
theorem s_val (v : Value) (ho : ops[i]? = some o) (hw : Region.wanted o (yielded ops a.tmps) = true) (h : ∀ u, S u → (execOp a.eval o).run Try.prog u = .ok (.value v) u) (hK : wpSch Try.prog ops S Q r (a.put o.dst v) w) : wpSch Try.prog ops S Q ((i, 0) :: r) a w :=
 ⟨o, v, ho, .inl ⟨hw, h⟩, hK⟩
theorem s_oper (ho : ops[i]? = some o) (hw : Region.wanted o (yielded ops a.tmps) = true) (h : ∀ K : Act → World → Prop, (∀ a' w', S w' → wpSch Try.prog ops S Q r a' w' → K a' w') → o.wp Try.prog a w K Q) : wpSch Try.prog ops S Q ((i, 1) :: r) a w := by
 unfold wpSch wpOp
 simp only [ho, hw, if_true]
 exact .inl (h _ (fun a' w' h1 h2 => ⟨h1, h2⟩))
theorem s_call (f : Nat) (args : Array Value) (ho : ops[i]? = some o) (hw : Region.wanted o (yielded ops a.tmps) = true) (h : ∀ u, (execOp a.eval o).run Try.prog u = .ok (.enter f args) u) (hc : Calls Try.prog f args w fun e w' => ∃ v, e = .returned v ∧ S w' ∧ wpSch Try.prog ops S Q r (a.put o.dst v) w') : wpSch Try.prog ops S Q ((i, 1) :: r) a w :=
 s_oper ho hw fun K hK' => by
  unfold Oper.wp
  rw [h]
  refine Calls.mono hc fun e w' he => ?_
  obtain ⟨v, rfl, hS, hK⟩ := he
  exact hK' _ _ hS hK
end



section
variable {a : Act} {o : Oper} {u : World}
theorem exec_pickF (c x y : Operand) (v : Value) (hop : o.op = .pick c x y) (hc : a.eval c = .bool false) (hy : a.eval y = v) : (execOp a.eval o).run Try.prog u = .ok (.value v) u := by
 unfold execOp
 simp only [hop, hc, hy]
 simp [go_sem]
theorem exec_len (x : Operand) (t e : TypeId) (ht : Try.prog.underlying t = some (.slice e)) (A : Option Addr) (n c : Nat) (hop : o.op = .call { callee := .builtin .len, args := #[x], argTypes := #[t] }) (hx : a.eval x = .slice A n c) : (execOp a.eval o).run Try.prog u = .ok (.value (.int .i64 (n : Int))) u := by
 unfold execOp
 simp only [hop, resolve, invoke, builtin, Sem.run_bind, Sem.run_pure, Result.andThen_ok, List.map_toArray, List.map_cons, List.map_nil, hx]
 simp [Builtin.len_, run_underlying ht, go_sem]
theorem exec_not (t : TypeId) (x : Operand) (b : Bool) (hop : o.op = .unOp .not t x) (hx : a.eval x = .bool b) : (execOp a.eval o).run Try.prog u = .ok (.value (.bool (!b))) u := by
 unfold execOp
 simp only [hop, hx]
 simp [go_sem]
theorem exec_store1 (ty : TypeId) (x y : Operand) (b of : Nat) (v : Value) (hop : o.op = .store ty x y) (hi : (Try.prog.info? ty).map (·.size) = some 1) (hx : a.eval x = .pointer (some ⟨b, of, none⟩)) (hy : a.eval y = v) (hv : v.cells = #[v]) (h1 : v.oneCell' = true) (ht : u.there b of 1) :
  (execOp a.eval o).run Try.prog u = .ok .skip (u.setCell ⟨b, of, none⟩ v) := by
 have h := run_storeCells_cells (P := Try.prog) b of [v] 0 u (fun j hj => by simpa using (ht j (by simpa using hj)).1) (fun j hj => by simpa using (ht j (by simpa using hj)).2) (fun w hw => by simp at hw; subst hw; exact h1)
 cases hq : Try.prog.info? ty with
 | none => simp [hq] at hi
 | some i =>
  have hs : i.size = 1 := by simpa [hq] using hi
  simp only [Nat.add_zero] at h
  unfold execOp
  simp only [hop, hx, hy, Instr.storeAt, Instr.sureAddr, Sem.run_bind, Sem.run_pure, Result.andThen_ok]
  simp [storeVar, sizeOf, typeInfo, hq, hv, hs, h, World.setCells]
theorem exec_min (x y : Operand) (ts : Array TypeId) (p q : Int) (r : Int) (hop : o.op = .call { callee := .builtin .min, args := #[x, y], argTypes := ts }) (hx : a.eval x = .int .i64 p) (hy : a.eval y = .int .i64 q) (hr : (if q < p then q else p) = r) : (execOp a.eval o).run Try.prog u = .ok (.value (.int .i64 r)) u := by
 subst hr
 unfold execOp
 simp only [hop, resolve, invoke, builtin, Sem.run_bind, Sem.run_pure, Result.andThen_ok, List.map_toArray, List.map_cons, List.map_nil, hx, hy]
 simp [go_sem]
theorem exec_none (t e : TypeId) (k : Nat) (hop : o.op = .buildSlice t 0 #[]) (ht : Try.prog.underlying t = some (.slice e)) (hk : (Try.prog.info? e).map (·.size) = some k) : (execOp a.eval o).run Try.prog u = .ok (.value (.slice (some ⟨u.heap.size, 0, none⟩) 0 0)) (u.alloc (.cells #[] e)) := by
 cases hq : Try.prog.info? e with
 | none => simp [hq] at hk
 | some t0 =>
  unfold execOp
  simp only [hop]
  simp [Instr.buildSlice, run_underlying ht, sizeOf, typeInfo, hq, Instr.fill, newRow, Array.range_zero']
end
section
variable {a : Act} {o : Oper} {Q : Exit → Act → World → Prop} {K : Act → World → Prop}
theorem op_store_row (w : World) (ty : TypeId) (x y : Operand) (hop : o.op = .store ty x y)
  (g : Nat) (cells : List Value) (hx : a.eval x = .pointer (some ⟨g, 0, none⟩)) (hy : a.eval y = .agg cells.toArray)
  (t : TypeId) (old : List Value) (hb : Blk w g t old) (hi : (Try.prog.info? ty).map (·.size) = some cells.length)
  (hold : old.length = cells.length) (h1 : ∀ u ∈ cells, u.oneCell' = true)
  (h : ∀ w', Blk w' g t cells → Keep (· = g) w w' → w'.heap.size = w.heap.size → K (a.put o.dst undef) w') : o.wp Try.prog a w K Q := by
 refine wp_store_row ty x y hop g cells.toArray hx hy t old.toArray hb (by simpa using hi) (by simpa using hold) (by simpa using h1) (h _ ?_ ?_ ?_)
 ·exact setRow_heap w g _ _ t _ hb
 ·exact ⟨rfl, rfl, rfl, by simp [World.setRow], fun k _ hk => setRow_other w g k _ (fun e => hk (by omega))⟩
 ·simp [World.setRow]
end

structure Kn where
 p : Value → World → Prop
 st : ∀ v w w', p v w → Kept w w' → p v w'
def Kn.eq (c : Value) : Kn := ⟨fun v _ => v = c, fun _ _ _ h _ => h⟩
def Kn.any : Kn := ⟨fun _ _ => True, fun _ _ _ _ _ => trivial⟩
def Kn.cond (b : Bool) (K : Kn) : Kn := ⟨fun v w => (b = true → K.p v w) ∧ (b = false → v = undef), fun v w w' h hk => ⟨fun hb => K.st v w w' (h.1 hb) hk, h.2⟩⟩
def dstOf (ops : Array Oper) (i : Nat) : Option Tmp := (ops[i]?).bind (·.dst)
def knOf (V : List Kn) (i : Nat) : Kn := V.getD i Kn.any
section
variable {P : Program} {ops : Array Oper} {Q : Exit → Act → World → Prop} {V : List Kn} {n : Nat} {a0 : Act} {w0 : World}
structure FInv (ops : Array Oper) (V : List Kn) (n : Nat) (a0 : Act) (w0 : World) (ls : Array Bool) (a : Act) (w : World) : Prop where
 head : HeadInv .any ops n ls
 defers : a.defers = a0.defers
 size : a.tmps.size = a0.tmps.size
 env : ∀ t, (∀ i, i < n → ls.getD i false = true → dstOf ops i ≠ some t) → a.tmps[t]? = a0.tmps[t]?
 vals : ∀ i d, i < n → ls.getD i false = true → dstOf ops i = some d → (knOf V i).p (a.tmps.getD d undef) w
 kept : Kept w0 w
def FEnv (ops : Array Oper) (n : Nat) (a0 a : Act) : Prop := ∀ t v, ((List.range n).all fun i => dstOf ops i != some t) = true → a0.eval (.tmp t) = v → a.eval (.tmp t) = v
def FDep (ops : Array Oper) (V : List Kn) (i : Nat) (a : Act) (w : World) : Prop :=
 ∀ j d, (((ops[i]?).map fun o => o.after.any fun e => Region.binds .any e && e.on == j) == some true && dstOf ops j == some d) = true → (knOf V j).p (a.eval (.tmp d)) w
def FPost (ops : Array Oper) (i : Nat) (K : Kn) (a : Act) (w : World) (a' : Act) (w' : World) : Prop := ∃ v, a' = a.put (dstOf ops i) v ∧ K.p v w' ∧ Kept w w'
def FStep (P : Program) (ops : Array Oper) (Q : Exit → Act → World → Prop) (V : List Kn) (n : Nat) (a0 : Act) (w0 : World) (i : Nat) (K : Kn) : Prop :=
 ∀ a w, FEnv ops n a0 a → FDep ops V i a w → Kept w0 w → wpOp P ops Q i (FPost ops i K a w) a w
def FSteps (P : Program) (ops : Array Oper) (Q : Exit → Act → World → Prop) (V : List Kn) (n : Nat) (a0 : Act) (w0 : World) : Nat → List Kn → Prop
 | _, [] => True
 | i, K :: Ks => FStep P ops Q V n a0 w0 i K ∧ FSteps P ops Q V n a0 w0 (i + 1) Ks
theorem fsteps_nil {i : Nat} : FSteps P ops Q V n a0 w0 i [] := trivial
theorem fsteps_cons {i : Nat} (j : Nat) {K : Kn} {Ks : List Kn} (hj : j = i + 1) (h : FStep P ops Q V n a0 w0 i K) (hr : FSteps P ops Q V n a0 w0 j Ks) : FSteps P ops Q V n a0 w0 i (K :: Ks) := ⟨h, by subst hj; exact hr⟩
theorem fsteps_at : ∀ (Ks : List Kn) (i : Nat), FSteps P ops Q V n a0 w0 i Ks → ∀ k K, Ks[k]? = some K → FStep P ops Q V n a0 w0 (i + k) K
 | [], _, _, k, K, h => by simp at h
 | K0 :: Ks, i, h, 0, K, hk => by simp at hk; subst hk; exact h.1
 | K0 :: Ks, i, h, k + 1, K, hk => by
  have := fsteps_at Ks (i + 1) h.2 k K (by simpa using hk)
  rw [show i + (k + 1) = i + 1 + k by omega]
  exact this
def freeB (ops : Array Oper) (n size : Nat) : Bool :=
 decide (n ≤ ops.size) && (decide (n = ops.size) || (Region.sinkB .any ops n && Region.chainB .any ops n)) && Region.seqB .any ops (ops.size - n) n (Array.replicate n true ++ Array.replicate (ops.size - n) false)
 && ((List.range n).all fun i => match ops[i]? with
  | some o => (match o.dst with | some d => decide (d < size) && ((List.range i).all fun j => dstOf ops j != some d) | none => false) && o.after.all fun e => !Region.binds .any e || decide (e.on < i)
  | none => false)
theorem freeB_facts {ops : Array Oper} {n size : Nat} (h : freeB ops n size = true) : n ≤ ops.size ∧ (n < ops.size → Region.sinkB .any ops n = true ∧ Region.chainB .any ops n = true) ∧ Region.seqB .any ops (ops.size - n) n (Array.replicate n true ++ Array.replicate (ops.size - n) false) = true ∧ ((List.range n).all fun i => match ops[i]? with
  | some o => (match o.dst with | some d => decide (d < size) && ((List.range i).all fun j => dstOf ops j != some d) | none => false) && o.after.all fun e => !Region.binds .any e || decide (e.on < i)
  | none => false) = true := by
 unfold freeB at h
 simp only [Bool.and_eq_true, Bool.or_eq_true, decide_eq_true_eq] at h
 obtain ⟨⟨⟨h1, h2⟩, h3⟩, h4⟩ := h
 exact ⟨h1, fun hl => h2.elim (fun e => by omega) id, h3, h4⟩
theorem getD_tf {ls : Array Bool} {i : Nat} (h : ls.getD i true = true) (hi : i < ls.size) : ls.getD i false = true := by
 simp [hi] at h ⊢; exact h
theorem slot_set (t : Array Value) (d e : Nat) (v : Value) : (t.setIfInBounds d v)[e]? = if d = e ∧ d < t.size then some v else t[e]? := by
 rw [Array.getElem?_setIfInBounds]
 by_cases h : d = e
 ·subst h
  by_cases h2 : d < t.size
  ·simp [h2]
  ·simp [h2]
 ·simp [h]
theorem free_go (hnV : V.length = n) (hB : freeB ops n a0.tmps.size = true) (hst : ∀ i K, V[i]? = some K → FStep P ops Q V n a0 w0 i K)
  (hfin : ∀ a w, FInv ops V n a0 w0 (Array.replicate n true ++ Array.replicate (ops.size - n) false) a w → wpAny P .any ops Q (ops.size - n) (Array.replicate n true ++ Array.replicate (ops.size - n) false) a w) :
  ∀ (f : Nat) (U : List Nat) (ls : Array Bool) (a : Act) (w : World), U.length = f → U.Nodup → (∀ i, i ∈ U ↔ i < n ∧ ls.getD i true = false) → FInv ops V n a0 w0 ls a w → wpAny P .any ops Q (f + (ops.size - n)) ls a w := by
 obtain ⟨hn, hsc, hseq, hall⟩ := freeB_facts hB
 have hop : ∀ i, i < n → ∃ o d, ops[i]? = some o ∧ o.dst = some d ∧ d < a0.tmps.size ∧ (∀ j, j < i → dstOf ops j ≠ some d) ∧ ∀ e ∈ o.after, Region.binds .any e = true → e.on < i := by
  intro i hi
  have h := List.all_eq_true.1 hall i (by simpa using hi)
  cases ho : ops[i]? with
  | none => rw [ho] at h; cases h
  | some o =>
   rw [ho] at h
   simp only [Bool.and_eq_true] at h
   cases hd : o.dst with
   | none => rw [hd] at h; cases h.1
   | some d =>
    rw [hd] at h
    simp only [Bool.and_eq_true, decide_eq_true_eq, List.all_eq_true, List.mem_range, bne_iff_ne] at h
    refine ⟨o, d, rfl, hd, h.1.1, h.1.2, fun e he hb => ?_⟩
    have h2 := (Array.all_eq_true_iff_forall_mem.1 h.2) e he
    simpa [hb] using h2
 intro f
 induction f with
 | zero =>
  intro U ls a w hU _ hmem inv
  have hnil : U = [] := List.eq_nil_of_length_eq_zero hU
  have hls : ls = Array.replicate n true ++ Array.replicate (ops.size - n) false := by
   apply Array.ext
   ·simp [inv.head.size]; omega
   ·intro i h1 h2
    have hsz := inv.head.size
    by_cases hi : i < n
    ·have h3 : ¬ (i < n ∧ ls.getD i true = false) := by
      intro h
      have := (hmem i).2 h
      rw [hnil] at this
      cases this
     have h4 : ls.getD i true = true := by
      cases hq : ls.getD i true with
      | true => rfl
      | false => exact (h3 ⟨hi, hq⟩).elim
     rw [Array.getElem_append_left (by simpa using hi)]
     simp [h1] at h4
     simp [h4]
    ·have h4 := inv.head.tail i (by omega) (by omega)
     rw [Array.getElem_append_right (by simpa using hi)]
     simp [h1] at h4
     simp [h4]
  rw [Nat.zero_add]
  subst hls
  exact hfin a w inv
 | succ f ih =>
  intro U ls a w hU hnd hmem inv
  have hsz := inv.head.size
  rw [show f + 1 + (ops.size - n) = (f + (ops.size - n)) + 1 by omega]
  obtain ⟨u, hu⟩ : ∃ u, u ∈ U := by
   cases U with
   | nil => simp at hU
   | cons u U => exact ⟨u, by simp⟩
  obtain ⟨hun, huf⟩ := (hmem u).1 hu
  refine ⟨fun h0 => ?_, fun i hi => ?_⟩
  ·exfalso
   have key : ∀ k i, i ≤ k → i < n → ls.getD i true = true := by
    intro k
    induction k using Nat.strongRecOn with
    | _ k ihk =>
     intro i hik hin
     cases hq : ls.getD i true with
     | true => rfl
     | false =>
      obtain ⟨o, d, ho, _, _, _, haft⟩ := hop i hin
      have : i ∈ Region.ready .any ops ls := mem_ready.2 ⟨hq, o, ho, fun e he hb => by
       have hlt := haft e he hb
       have := ihk (k - 1) (by omega) e.on (by omega) (by omega)
       exact getD_tf this (by omega)⟩
      rw [h0] at this
      cases this
   rw [key u u (Nat.le_refl _) hun] at huf
   cases huf
  ·have hin : i < n := Nat.lt_of_not_le fun h => tail_waits (hsc (Nat.lt_of_le_of_lt h (by obtain ⟨_, o1, ho1, _⟩ := mem_ready.1 hi; exact (Array.getElem?_eq_some_iff.1 ho1).1))).1 (hsc (Nat.lt_of_le_of_lt h (by obtain ⟨_, o1, ho1, _⟩ := mem_ready.1 hi; exact (Array.getElem?_eq_some_iff.1 ho1).1))).2 (Nat.lt_of_le_of_lt h (by obtain ⟨_, o1, ho1, _⟩ := mem_ready.1 hi; exact (Array.getElem?_eq_some_iff.1 ho1).1)) inv.head _ u rfl hun huf i h hi
   obtain ⟨hiun, oi, hoi, hdeps⟩ := mem_ready.1 hi
   obtain ⟨o, d, ho, hd, hdlt, hne, haft⟩ := hop i hin
   obtain rfl : oi = o := Option.some.inj (hoi.symm.trans ho)
   have hdi : dstOf ops i = some d := by simp [dstOf, ho, hd]
   have hiff : ls.getD i false = false := getD_both hiun
   have hne' : ∀ j, j < n → ls.getD j false = true → dstOf ops j ≠ some d := by
    intro j hj hl hjd
    by_cases hji : j < i
    ·exact hne j hji hjd
    ·by_cases hij : j = i
     ·subst hij
      rw [hiff] at hl
      cases hl
     ·obtain ⟨oj, dj, hoj, hdj, _, hnej, _⟩ := hop j hj
      have : dj = d := by
       have h1 : dstOf ops j = some dj := by simp [dstOf, hoj, hdj]
       rw [h1] at hjd
       injection hjd
      subst this
      exact hnej i (by omega) hdi
   have hK : V[i]? = some (knOf V i) := by
    unfold knOf
    rw [List.getD_eq_getElem?_getD, List.getElem?_eq_getElem (by omega)]
    rfl
   refine wpOp_mono ?_ (hst i _ hK a w ?_ ?_ inv.kept)
   ·rintro a' w' ⟨v, rfl, hv, hk⟩
    rw [hdi]
    refine ih (U.erase i) _ _ w' (by rw [List.length_erase_of_mem ((hmem i).2 ⟨hin, hiun⟩)]; omega) (hnd.erase _) (fun k => ?_) ⟨inv.head.set hi hin, inv.defers, by simp [Act.put, inv.size], fun t ht => ?_, fun k e hkn hl he => ?_, inv.kept.trans hk⟩
    ·rw [hnd.mem_erase_iff, hmem k]
     by_cases hki : k = i
     ·subst hki
      simp
     ·rw [getD_set_ne true (fun h => hki h.symm)]
      simp [hki]
    ·have h1 := inv.env t (fun k hkn hl => ht k hkn (getD_set_true hl))
     have h2 : d ≠ t := fun h => ht i hin (by simp [show i < ls.size by omega]) (by rw [hdi, h])
     simp only [Act.put, slot_set]
     rw [if_neg (fun h => h2 h.1), h1]
    ·by_cases hki : k = i
     ·subst hki
      rw [hdi] at he
      injection he with he
      subst he
      have hlt : d < a.tmps.size := by rw [inv.size]; exact hdlt
      have : (a.put (some d) v).tmps.getD d undef = v := by simp [Act.put, hlt]
      rw [this]
      exact hv
     ·rw [getD_set_ne false (fun h => hki h.symm)] at hl
      have hne2 : d ≠ e := fun h => hne' k hkn hl (by rw [he, h])
      have : (a.put (some d) v).tmps.getD e undef = a.tmps.getD e undef := by
       simp only [Act.put, Array.getD_eq_getD_getElem?, slot_set]
       rw [if_neg (fun h => hne2 h.1)]
      rw [this]
      exact (knOf V k).st _ _ _ (inv.vals k e hkn hl he) hk
   ·intro t v ht hv
    have ht' : ∀ k, k < n → ls.getD k false = true → dstOf ops k ≠ some t := fun k hkn _ => by simpa using List.all_eq_true.1 ht k (by simpa using hkn)
    have h1 := inv.env t ht'
    rw [← hv]
    simp only [Act.eval, Array.getD_eq_getD_getElem?, h1]
   ·intro j e hje
    simp only [Bool.and_eq_true, beq_iff_eq, ho, Option.map_some, Option.some.injEq, Array.any_eq_true'] at hje
    obtain ⟨⟨x, hx, hxb, hxj⟩, hdj⟩ := hje
    subst hxj
    exact inv.vals x.on e (by have := haft x hx hxb; omega) (hdeps x hx hxb) hdj
theorem fold_slots (g : Nat → Value) : ∀ (ds : List Nat) (t : Array Value) (e : Nat), (ds.foldl (fun t d => t.setIfInBounds d (g d)) t)[e]? = if e ∈ ds ∧ e < t.size then some (g e) else t[e]?
 | [], t, e => by simp
 | d :: ds, t, e => by
  rw [List.foldl_cons, fold_slots g ds, slot_set]
  by_cases h : d = e
  ·subst h
   by_cases h2 : d < t.size
   ·simp [h2]
   ·simp [h2]
  ·have h' : ¬ e = d := fun x => h x.symm
   simp [h, h']
def dstsOf (ops : Array Oper) (n : Nat) : List Nat := (List.range n).filterMap (dstOf ops)
def FVals (ops : Array Oper) (V : List Kn) (g : Nat → Value) (w : World) : Prop := ∀ i d, (decide (i < V.length) && dstOf ops i == some d) = true → (knOf V i).p (g d) w
theorem act_filled {ls : Array Bool} {a : Act} {w : World} (hl : ∀ i, i < n → ls.getD i false = true) (inv : FInv ops V n a0 w0 ls a w) : a = ⟨(dstsOf ops n).foldl (fun t d => t.setIfInBounds d (a.tmps.getD d undef)) a0.tmps, a0.defers⟩ := by
 obtain ⟨t, df⟩ := a
 have h1 := inv.defers
 simp only at h1
 subst h1
 congr 1
 apply Array.ext_getElem?
 intro e
 rw [fold_slots]
 have hsz := inv.size
 simp only at hsz
 by_cases hm : e ∈ dstsOf ops n
 ·by_cases hlt : e < a0.tmps.size
  ·rw [if_pos ⟨hm, hlt⟩]
   have : e < t.size := by omega
   simp [this]
  ·rw [if_neg (fun h => hlt h.2), Array.getElem?_eq_none (by omega), Array.getElem?_eq_none (by omega)]
 ·rw [if_neg (fun h => hm h.1)]
  exact inv.env e (fun i hi _ h => hm (List.mem_filterMap.2 ⟨i, by simpa using hi, h⟩))
theorem wp_free {id : Nat} {a : Act} {w : World} {l : List Oper} (n : Nat) (V : List Kn) (hm : P.follows .mixedOrders = true) (hV : V.length = n) (hB : freeB l.toArray n a.tmps.size = true)
  (hs : FSteps P l.toArray Q V n a w 0 V)
  (hf : ∀ (g : Nat → Value) w', FVals l.toArray V g w' → Kept w w' → wpList P l.toArray Q (l.drop n) ⟨(dstsOf l.toArray n).foldl (fun t d => t.setIfInBounds d (g d)) a.tmps, a.defers⟩ w') : (Code.region id l.toArray true).wp P Q a w := by
 have hB' := hB
 obtain ⟨hn, _, hseq, _⟩ := freeB_facts hB'
 have hn' : n ≤ l.length := by simpa using hn
 have hdl : (l.drop n).length = l.toArray.size - n := by simp
 refine wp_region_any hm ?_
 have := free_go (P := P) (Q := Q) (w0 := w) hV hB (fun i K hK => by have := fsteps_at V 0 hs i K hK; rwa [Nat.zero_add] at this) (fun b u inv => ?_) n (List.range n) (Array.replicate l.toArray.size false) a w.drew (by simp) List.nodup_range ?_ ?_
 ·have e : n + (l.toArray.size - n) = l.toArray.size := by omega
  rw [e] at this
  exact this
 ·have hl : ∀ i, i < n → (Array.replicate n true ++ Array.replicate (l.toArray.size - n) false).getD i false = true := by
   intro i hi
   have hlt : i < (Array.replicate n true ++ Array.replicate (l.toArray.size - n) false).size := by simp; omega
   rw [Array.getD, dif_pos hlt]
   show (Array.replicate n true ++ Array.replicate (l.toArray.size - n) false)[i] = true
   rw [Array.getElem_append_left (by simpa using hi)]
   simp
  have h2 := hf (fun d => b.tmps.getD d undef) u (fun i d hid => by
   simp only [Bool.and_eq_true, decide_eq_true_eq, beq_iff_eq] at hid
   exact inv.vals i d (by omega) (hl i (by omega)) hid.2) inv.kept
  rw [← act_filled hl inv] at h2
  have := wpAny_of_seq (P := P) (md := .any) (ops := l.toArray) (Q' := Q) (l.drop n) n _ b u (fun j => by simp) (by rw [hdl]; exact hseq) h2
  rw [hdl] at this
  exact this
 ·intro i
  rw [List.mem_range]
  constructor
  ·intro hi
   exact ⟨hi, getD_in (by simp; omega) (getD_replicate_false _ _)⟩
  ·exact fun h => h.1
 ·refine ⟨⟨by simp, fun j oj _ hl => (by rw [getD_replicate_false] at hl; cases hl), fun t _ ht => getD_in (by simpa using ht) (getD_replicate_false _ _)⟩, rfl, rfl, fun _ _ => rfl, fun i d _ hl => (by rw [getD_replicate_false] at hl; cases hl), Keep.drew (Keep.refl _ w)⟩
structure SInv (ops : Array Oper) (V : List Kn) (k : Nat) (a0 : Act) (w0 : World) (a : Act) (w : World) : Prop where
 defers : a.defers = a0.defers
 size : a.tmps.size = a0.tmps.size
 env : ∀ t, (∀ i, i < k → dstOf ops i ≠ some t) → a.tmps[t]? = a0.tmps[t]?
 vals : ∀ i d, i < k → dstOf ops i = some d → (knOf V i).p (a.tmps.getD d undef) w
 kept : Kept w0 w
def textB (ops : Array Oper) (n size : Nat) : Bool :=
 decide (n ≤ ops.size) && ((List.range n).all fun i => match ops[i]? with
  | some o => (match o.dst with | some d => decide (d < size) && ((List.range i).all fun j => dstOf ops j != some d) | none => false) && o.after.all fun e => !Region.binds .any e || decide (e.on < i)
  | none => false)
theorem sact_filled {a : Act} {w : World} (inv : SInv ops V n a0 w0 a w) : a = ⟨(dstsOf ops n).foldl (fun t d => t.setIfInBounds d (a.tmps.getD d undef)) a0.tmps, a0.defers⟩ := by
 obtain ⟨t, df⟩ := a
 have h1 := inv.defers
 simp only at h1
 subst h1
 congr 1
 apply Array.ext_getElem?
 intro e
 rw [fold_slots]
 have hsz := inv.size
 simp only at hsz
 by_cases hm : e ∈ dstsOf ops n
 ·by_cases hlt : e < a0.tmps.size
  ·rw [if_pos ⟨hm, hlt⟩]
   have : e < t.size := by omega
   simp [this]
  ·rw [if_neg (fun h => hlt h.2), Array.getElem?_eq_none (by omega), Array.getElem?_eq_none (by omega)]
 ·rw [if_neg (fun h => hm h.1)]
  exact inv.env e (fun i hi h => hm (List.mem_filterMap.2 ⟨i, by simpa using hi, h⟩))
theorem text_go {l : List Oper} (hnV : V.length = n) (hB : textB l.toArray n a0.tmps.size = true) (hst : ∀ i K, V[i]? = some K → FStep P l.toArray Q V n a0 w0 i K)
  (hfin : ∀ a w, SInv l.toArray V n a0 w0 a w → wpList P l.toArray Q (l.drop n) a w) : ∀ (f k : Nat) (a : Act) (w : World), k + f = n → SInv l.toArray V k a0 w0 a w → wpList P l.toArray Q (l.drop k) a w := by
 simp only [textB, Bool.and_eq_true, decide_eq_true_eq] at hB
 obtain ⟨hn, hall⟩ := hB
 intro f
 induction f with
 | zero =>
  intro k a w hk inv
  obtain rfl : k = n := by omega
  exact hfin a w inv
 | succ f ih =>
  intro k a w hk inv
  have hkn : k < n := by omega
  have h := List.all_eq_true.1 hall k (by simpa using hkn)
  cases ho : l.toArray[k]? with
  | none => rw [ho] at h; cases h
  | some o =>
   rw [ho] at h
   simp only [Bool.and_eq_true] at h
   cases hd : o.dst with
   | none => rw [hd] at h; cases h.1
   | some d =>
    rw [hd] at h
    simp only [Bool.and_eq_true, decide_eq_true_eq, List.all_eq_true, List.mem_range, bne_iff_ne] at h
    have hdi : dstOf l.toArray k = some d := by simp [dstOf, ho, hd]
    have hne := h.1.2
    have haft : ∀ e ∈ o.after, Region.binds .any e = true → e.on < k := fun e he hb => by
     have h2 := (Array.all_eq_true_iff_forall_mem.1 h.2) e he
     simpa [hb] using h2
    have hK : V[k]? = some (knOf V k) := by
     unfold knOf
     rw [List.getD_eq_getElem?_getD, List.getElem?_eq_getElem (by omega)]
     rfl
    have ho' : l[k]? = some o := by simpa using ho
    have hlk : k < l.length := (List.getElem?_eq_some_iff.1 ho').1
    have hdrop : l.drop k = o :: l.drop (k + 1) := by
     rw [List.drop_eq_getElem_cons hlk]
     congr 1
     exact (List.getElem?_eq_some_iff.1 ho').2
    have key : wpOp P l.toArray Q k (wpList P l.toArray Q (l.drop (k + 1))) a w := by
     refine wpOp_mono ?_ (hst k _ hK a w ?_ ?_ inv.kept)
     ·rintro a' w' ⟨v, rfl, hv, hk'⟩
      rw [hdi]
      refine ih (k + 1) _ w' (by omega) ⟨inv.defers, by simp [Act.put, inv.size], fun t ht => ?_, fun i e hi he => ?_, inv.kept.trans hk'⟩
      ·have h1 := inv.env t (fun i hi => ht i (by omega))
       have h2 : d ≠ t := fun h => ht k (by omega) (by rw [hdi, h])
       simp only [Act.put, slot_set]
       rw [if_neg (fun h => h2 h.1), h1]
      ·by_cases hik : i = k
       ·subst hik
        rw [hdi] at he
        injection he with he
        subst he
        have hlt : d < a.tmps.size := by rw [inv.size]; exact h.1.1
        have : (a.put (some d) v).tmps.getD d undef = v := by simp [Act.put, hlt]
        rw [this]
        exact hv
       ·have hne2 : d ≠ e := fun hh => hne i (by omega) (by rw [he, hh])
        have : (a.put (some d) v).tmps.getD e undef = a.tmps.getD e undef := by
         simp only [Act.put, Array.getD_eq_getD_getElem?, slot_set]
         rw [if_neg (fun h => hne2 h.1)]
        rw [this]
        exact (knOf V i).st _ _ _ (inv.vals i e (by omega) he) hk'
     ·intro t v ht hv
      have ht' : ∀ i, i < k → dstOf l.toArray i ≠ some t := fun i hi => by simpa using List.all_eq_true.1 ht i (by simpa using (by omega : i < n))
      have h1 := inv.env t ht'
      rw [← hv]
      simp only [Act.eval, Array.getD_eq_getD_getElem?, h1]
     ·intro j e hje
      simp only [Bool.and_eq_true, beq_iff_eq, ho, Option.map_some, Option.some.injEq, Array.any_eq_true'] at hje
      obtain ⟨⟨x, hx, hxb, hxj⟩, hdj⟩ := hje
      subst hxj
      exact inv.vals x.on e (haft x hx hxb) hdj
    rw [hdrop]
    unfold wpOp at key
    simp only [ho] at key
    exact key
theorem wp_text {id : Nat} {a : Act} {w : World} {l : List Oper} (n : Nat) (V : List Kn) (hV : V.length = n) (hB : textB l.toArray n a.tmps.size = true)
  (hs : FSteps P l.toArray Q V n a w 0 V)
  (hf : ∀ (g : Nat → Value) w', FVals l.toArray V g w' → Kept w w' → wpList P l.toArray Q (l.drop n) ⟨(dstsOf l.toArray n).foldl (fun t d => t.setIfInBounds d (g d)) a.tmps, a.defers⟩ w') : (Code.region id l.toArray false).wp P Q a w := by
 refine wp_region_lit ?_
 have := text_go (P := P) (Q := Q) (w0 := w) hV hB (fun i K hK => by have := fsteps_at V 0 hs i K hK; rwa [Nat.zero_add] at this) (fun b u inv => ?_) n 0 a w (by omega) ⟨rfl, rfl, fun _ _ => rfl, fun i d hi => (by omega), Kept.refl w⟩
 ·simpa using this
 ·have h2 := hf (fun d => b.tmps.getD d undef) u (fun i d hid => by
   simp only [Bool.and_eq_true, decide_eq_true_eq, beq_iff_eq] at hid
   exact inv.vals i d (by omega) hid.2) inv.kept
  rw [← sact_filled inv] at h2
  exact h2
variable {a : Act} {w : World} {i : Nat} {o : Oper} {K : Kn}
theorem wanted_none (hg : o.guard = none) (y : Nat → Option Bool) : Region.wanted o y = true := by simp [Region.wanted, hg]
theorem wanted_at {g d : Nat} {b : Bool} (x : Bool) (hg : o.guard = some (g, b)) (hd : dstOf ops g = some d) (hv : a.eval (.tmp d) = .bool x) : Region.wanted o (yielded ops a.tmps) = (x == b) := by
 have h1 : a.tmps[d]? = some (.bool x) := by
  simp only [Act.eval, Array.getD_eq_getD_getElem?] at hv
  cases hq : a.tmps[d]? with
  | none => rw [hq] at hv; simp [undef] at hv
  | some u => rw [hq] at hv; simp at hv; rw [hv]
 have h2 : yielded ops a.tmps g = some x := by
  unfold yielded
  unfold dstOf at hd
  rw [hd]
  simp [h1]
 cases x <;> cases b <;> simp [Region.wanted, hg, h2]
theorem f_new (v : Value) (w' : World) (ho : ops[i]? = some o) (hw : Region.wanted o (yielded ops a.tmps) = true) (h : (execOp a.eval o).run P w = .ok (.value v) w') (hK : K.p v w') (hk : Kept w w') : wpOp P ops Q i (FPost ops i K a w) a w := by
 unfold wpOp
 simp only [ho, hw, if_true]
 refine .inl ?_
 unfold Oper.wp
 rw [h]
 exact ⟨v, by simp [dstOf, ho], hK, hk⟩
theorem f_val (v : Value) (ho : ops[i]? = some o) (hw : Region.wanted o (yielded ops a.tmps) = true) (h : (execOp a.eval o).run P w = .ok (.value v) w) (hK : K.p v w) : wpOp P ops Q i (FPost ops i K a w) a w :=
 f_new v w ho hw h hK (Kept.refl w)
theorem f_call (f : Nat) (args : Array Value) (ho : ops[i]? = some o) (hw : Region.wanted o (yielded ops a.tmps) = true) (h : (execOp a.eval o).run P w = .ok (.enter f args) w)
  (hc : Calls P f args w fun e w' => ∃ v, e = .returned v ∧ K.p v w' ∧ Kept w w') : wpOp P ops Q i (FPost ops i K a w) a w := by
 unfold wpOp
 simp only [ho, hw, if_true]
 refine .inl ?_
 unfold Oper.wp
 rw [h, Oper.upon_enter]
 refine hc.mono ?_
 rintro e w' ⟨v, rfl, hv, hk⟩
 exact ⟨v, by simp [dstOf, ho], hv, hk⟩
theorem f_skip (ho : ops[i]? = some o) (hw : Region.wanted o (yielded ops a.tmps) = false) (hK : K.p undef w) : wpOp P ops Q i (FPost ops i K a w) a w := by
 unfold wpOp
 simp only [ho, hw]
 exact ⟨undef, by simp [dstOf, ho], hK, Kept.refl w⟩
theorem sv {v : Value} {Ks : List Kn} (j : Nat) (hj : j = i + 1) (ho : ops[i]? = some o) (hg : o.guard = none) (h : ∀ a u, FEnv ops n a0 a → FDep ops V i a u → Kept w0 u → (execOp a.eval o).run P u = .ok (.value v) u) (hr : FSteps P ops Q V n a0 w0 j Ks) : FSteps P ops Q V n a0 w0 i (Kn.eq v :: Ks) :=
 fsteps_cons j hj (fun a u hE hD hk => f_val v ho (wanted_none hg _) (h a u hE hD hk) rfl) hr
theorem f_if {g d : Nat} (b : Bool) (hg : o.guard = some (g, true)) (ho : ops[i]? = some o) (hd : dstOf ops g = some d) (hv : a.eval (.tmp d) = .bool b) (h : b = true → wpOp P ops Q i (FPost ops i K a w) a w) : wpOp P ops Q i (FPost ops i (Kn.cond b K) a w) a w := by
 cases b with
 | true => exact wpOp_mono (fun a' w' ⟨v, h1, h2, h3⟩ => ⟨v, h1, ⟨fun _ => h2, fun h => (by cases h)⟩, h3⟩) (h rfl)
 | false => exact f_skip ho (wanted_at false hg hd hv) ⟨fun h => (by cases h), fun _ => rfl⟩
theorem f_unless {g d : Nat} (b : Bool) (hg : o.guard = some (g, false)) (ho : ops[i]? = some o) (hd : dstOf ops g = some d) (hv : a.eval (.tmp d) = .bool b) (h : (!b) = true → wpOp P ops Q i (FPost ops i K a w) a w) : wpOp P ops Q i (FPost ops i (Kn.cond (!b) K) a w) a w := by
 cases b with
 | false => exact wpOp_mono (fun a' w' ⟨v, h1, h2, h3⟩ => ⟨v, h1, ⟨fun _ => h2, fun h => (by cases h)⟩, h3⟩) (h rfl)
 | true => exact f_skip ho (wanted_at true hg hd hv) ⟨fun h => (by cases h), fun _ => rfl⟩
theorem wanted_b {g d : Nat} {b c : Bool} (hg : o.guard = some (g, c)) (hd : dstOf ops g = some d) (hv : a.eval (.tmp d) = .bool b) (hb : (b == c) = true) : Region.wanted o (yielded ops a.tmps) = true := (wanted_at b hg hd hv).trans hb
theorem f_as {e b : Bool} (h : e = b) (hp : wpOp P ops Q i (FPost ops i (Kn.eq (.bool e)) a w) a w) : wpOp P ops Q i (FPost ops i (Kn.eq (.bool b)) a w) a w := by
 subst h
 exact hp
theorem eq_true_of {b : Bool} (h : b = true) : (b == true) = true := by rw [h]; rfl
theorem eq_false_of {b : Bool} (h : (!b) = true) : (b == false) = true := by cases b <;> simp_all
theorem exec_pickand (c x y : Operand) (b p : Bool) (hop : o.op = .pick c x y) (hc : a.eval c = .bool b) (hx : b = true → a.eval x = .bool p) (hy : a.eval y = .bool false) : (execOp a.eval o).run P w = .ok (.value (.bool (b && p))) w := by
 unfold execOp
 cases b with
 | true => simp only [hop, hc, hx rfl]; simp [go_sem]
 | false => simp only [hop, hc, hy]; simp [go_sem]
theorem exec_pickor (c x y : Operand) (b p : Bool) (hop : o.op = .pick c x y) (hc : a.eval c = .bool b) (hx : a.eval x = .bool true) (hy : (!b) = true → a.eval y = .bool p) : (execOp a.eval o).run P w = .ok (.value (.bool (b || p))) w := by
 unfold execOp
 cases b with
 | true => simp only [hop, hc, hx]; simp [go_sem]
 | false => simp only [hop, hc, hy rfl]; simp [go_sem]
end
def i64s (l : List Int) : List Value := l.map fun x => .int .i64 x
def stc (l : List Int) (t : List UInt8) : List Value := i64s l ++ cells8 t
theorem i64s_len (l : List Int) : (i64s l).length = l.length := by simp [i64s]
theorem stc_len (l : List Int) (t : List UInt8) : (stc l t).length = l.length + t.length := by simp [stc, i64s_len, len8]
theorem i64s_one (l : List Int) : ∀ u ∈ i64s l, u.oneCell' = true := by
 intro u hu
 simp only [i64s, List.mem_map] at hu
 obtain ⟨x, _, rfl⟩ := hu
 rfl
theorem stc_one (l : List Int) (t : List UInt8) : ∀ u ∈ stc l t, u.oneCell' = true := by
 intro u hu
 rcases List.mem_append.1 hu with h | h
 ·exact i64s_one l u h
 ·exact cells8_one t u h
theorem stc_int (l : List Int) (t : List UInt8) (i : Nat) (x : Int) (h : l[i]? = some x) : (stc l t)[i]? = some (.int .i64 x) := by
 have hi := (List.getElem?_eq_some_iff.1 h).1
 unfold stc
 rw [List.getElem?_append_left (by rw [i64s_len]; exact hi)]
 simp [i64s, h]
theorem stc_set (l : List Int) (t : List UInt8) (i : Nat) (x : Int) (h : i < l.length) : (stc l t).set i (.int .i64 x) = stc (l.set i x) t := by
 unfold stc
 rw [List.set_append_left _ _ (by rw [i64s_len]; exact h)]
 simp [i64s, List.map_set]
theorem Blk.fld {w : World} {g : Nat} {T : TypeId} {l : List Int} {t : List UInt8} (h : Blk w g T (stc l t)) (i : Nat) (x : Int) (hi : l[i]? = some x) : w.cell? ⟨g, i, none⟩ = some (.int .i64 x) := (h.cell i).trans (stc_int l t i x hi)
theorem Blk.setFld {w : World} {g : Nat} {T : TypeId} {l : List Int} {t : List UInt8} (h : Blk w g T (stc l t)) (i : Nat) (x : Int) (hi : i < l.length) : Blk (w.setCell ⟨g, i, none⟩ (.int .i64 x)) g T (stc (l.set i x) t) := by
 have := h.set_ i (.int .i64 x)
 rwa [stc_set l t i x hi] at this
theorem Blk.there {w : World} {g : Nat} {T : TypeId} {cs : List Value} (h : Blk w g T cs) (o n : Nat) (hn : o + n ≤ cs.length) : w.there g o n := by
 intro j hj
 refine ⟨?_, h.frozen _⟩
 rw [h.cell, List.getElem?_eq_getElem (by omega)]
 rfl
def fldB (P : Program) (t : TypeId) (i off : Nat) : Bool := match P.underlying t with
 | some (.struct fs) => match fs[i]? with
  | some f => f.offset == off && (match P.info? f.type with | some inf => inf.size != 0 | none => false)
  | none => false
 | _ => false
section
variable {a : Act} {o : Oper} {u : World}
theorem exec_fld (t : TypeId) (i off : Nat) (x : Operand) (g : Nat) (hop : o.op = .fieldAddr t x i) (hx : a.eval x = .pointer (some ⟨g, 0, none⟩)) (hB : fldB Try.prog t i off = true) :
  (execOp a.eval o).run Try.prog u = .ok (.value (.pointer (some ⟨g, off, none⟩))) u := by
 unfold fldB at hB
 cases hu : Try.prog.underlying t with
 | none => rw [hu] at hB; cases hB
 | some d =>
  rw [hu] at hB
  cases d <;> try (cases hB; done)
  rename_i fs
  simp only at hB
  cases hf : fs[i]? with
  | none => rw [hf] at hB; cases hB
  | some f =>
   rw [hf] at hB
   simp only at hB
   cases hi : Try.prog.info? f.type with
   | none => rw [hi] at hB; simp at hB
   | some inf =>
    rw [hi] at hB
    simp only [Bool.and_eq_true, beq_iff_eq, bne_iff_ne] at hB
    obtain ⟨h1, h2⟩ := hB
    unfold execOp
    simp only [hop, hx]
    simp [Instr.fieldAt, run_underlying hu, hf, Sem.run_bind, Instr.sureAddr, fieldPlace, sizeOf, typeInfo, hi, h2, h1, Addr.add_mid]
theorem exec_loadi (t : TypeId) (hu : Try.prog.underlying t = some (.int .i64)) (x : Operand) (ad : Addr) (v : Value) (hop : o.op = .load t x) (hx : a.eval x = .pointer (some ad)) (hc : u.cell? ad = some v) :
  (execOp a.eval o).run Try.prog u = .ok (.value v) u := by
 unfold execOp
 simp only [hop, hx, Instr.loadAt, Instr.sureAddr, Sem.run_bind, Sem.run_pure, Result.andThen_ok]
 simp [loadVar, isAgg, run_underlying hu, Sem.run_bind, hc, go_sem]
theorem exec_loadS (ty : TypeId) (x : Operand) (g : Nat) (t : TypeId) (cs : List Value) (fs : Array Field) (hop : o.op = .load ty x) (hx : a.eval x = .pointer (some ⟨g, 0, none⟩)) (hb : Blk u g t cs)
  (hu : Try.prog.underlying ty = some (.struct fs)) (hi : (Try.prog.info? ty).map (·.size) = some cs.length) : (execOp a.eval o).run Try.prog u = .ok (.value (.agg cs.toArray)) u := by
 unfold execOp
 simp only [hop, hx, Instr.loadAt, Instr.sureAddr, Sem.run_bind, Sem.run_pure, Result.andThen_ok, run_loadVar_row u g t ty cs.toArray (0, 0) _ hb hu rfl (by simpa using hi)]
theorem exec_box (t : TypeId) (x : Operand) (cs : List Value) (hop : o.op = .box t x) (hx : a.eval x = .agg cs.toArray) : (execOp a.eval o).run Try.prog u = .ok (.value (.pointer (some ⟨u.heap.size, 0, none⟩))) (u.alloc (.cells cs.toArray t)) := by
 unfold execOp
 simp only [hop, hx]
 simp [Instr.box, newVar, Value.cells, go_sem]
theorem exec_build (t : TypeId) (parts : List (Nat × Operand)) (cs : List Value) (hop : o.op = .build t parts.toArray) (h : Try.prog.built t (parts.map fun (i, x) => (i, a.eval x)) = some cs.toArray) : (execOp a.eval o).run Try.prog u = .ok (.value (.agg cs.toArray)) u := by
 unfold execOp
 have h' : Try.prog.built t (parts.toArray.map fun (i, x) => (i, a.eval x)).toList = some cs.toArray := by rw [Array.toList_map]; exact h
 simp only [hop, Sem.run_bind, run_build u t _ _ h', Result.andThen_ok]
 rfl
theorem exec_extract (x : Operand) (vs : List Value) (i : Nat) (v : Value) (hop : o.op = .extract x i) (hx : a.eval x = .tuple vs.toArray) (hi : vs[i]? = some v) : (execOp a.eval o).run Try.prog u = .ok (.value v) u := by
 unfold execOp
 simp only [hop, hx]
 have : vs.toArray[i]? = some v := by simpa using hi
 simp [Instr.extract, this]
end
def Gives (f : Nat) (args : Array Value) (w : World) (K : Kn) : Prop := Calls Try.prog f args w fun e w' => ∃ v, e = .returned v ∧ K.p v w' ∧ Kept w w'
theorem gives_eq {f : Nat} {args : Array Value} {w : World} {c : Value} (h : Calls Try.prog f args w fun e w' => e = .returned c ∧ Kept w w') : Gives f args w (.eq c) := h.mono fun e w' ⟨he, hk⟩ => ⟨c, he, rfl, hk⟩
structure Cmd where
 k : Int
 seq : Int
 tr : Int
 inst : Int
 id : Int
 side : Int
 ord : Int
 price : Int
 qty : Int
 shw : Int
 stop : Int
 what : Int
 fa : Int
 fb : Int
 tag : List UInt8
def Cmd.l (c : Cmd) : List Int := [c.k, c.seq, c.tr, c.inst, c.id, c.side, c.ord, c.price, c.qty, c.shw, c.stop, c.what, c.fa, c.fb]
theorem Cmd.ext_l {c d : Cmd} (h : c.l = d.l) (ht : c.tag = d.tag) : c = d := by
 cases c
 cases d
 simp only [Cmd.l, List.cons.injEq] at h ht
 simp_all
instance : DecidableEq Cmd := fun c d => decidable_of_iff (c.l = d.l ∧ c.tag = d.tag) ⟨fun h => Cmd.ext_l h.1 h.2, fun h => by subst h; exact ⟨rfl, rfl⟩⟩
theorem plainI : Try.prog.plainKey 3 = true := by kernel_rfl
theorem run_eqInt (d : Nat) (xs ys : Array Value) (w : World) (f : Field) (fs : List Field) (x y : Int) (hn : (f.name == "_") = false) (ht : f.type = 3) (hx : xs[f.offset]? = some (.int .i64 x)) (hy : ys[f.offset]? = some (.int .i64 y)) (r : Bool) (hr : (Op.eqFields (d + 1) xs ys fs).run Try.prog w = .ok r w) :
  (Op.eqFields (d + 1) xs ys (f :: fs)).run Try.prog w = .ok (x == y && r) w := by
 have hn' : f.name ≠ "_" := by simpa using hn
 have e1 := run_part_plain w plainI hx
 have e2 := run_part_plain w plainI hy
 rw [← ht] at e1 e2
 simp only [Op.eqFields, if_pos hn', Sem.run_bind, e1, e2, Result.andThen_ok]
 rw [ht, run_equalIn_int w d 3 .i64 .i64 _ _ Try.underlying3]
 cases hxy : (x == y) with
 | false => simp
 | true => simp [hr]
section
variable {a : Act} {o : Oper} {u : World}
end
section
variable {ops : Array Oper} {Q : Exit → Act → World → Prop} {a : Act} {w : World} {o : Oper} {rest : List Oper}
theorem l_val (v : Value) (hw : Region.wanted o (yielded ops a.tmps) = true) (h : (execOp a.eval o).run Try.prog w = .ok (.value v) w) (hK : wpList Try.prog ops Q rest (a.put o.dst v) w) : wpList Try.prog ops Q (o :: rest) a w :=
 wpList_wanted hw fun K hK' => by
  unfold Oper.wp
  rw [h]
  exact hK' _ _ hK
theorem l_new (v : Value) (w' : World) (hw : Region.wanted o (yielded ops a.tmps) = true) (h : (execOp a.eval o).run Try.prog w = .ok (.value v) w') (hK : wpList Try.prog ops Q rest (a.put o.dst v) w') : wpList Try.prog ops Q (o :: rest) a w :=
 wpList_wanted hw fun K hK' => by
  unfold Oper.wp
  rw [h]
  exact hK' _ _ hK
theorem l_store (w' : World) (hw : Region.wanted o (yielded ops a.tmps) = true) (h : (execOp a.eval o).run Try.prog w = .ok .skip w') (hK : wpList Try.prog ops Q rest (a.put o.dst undef) w') : wpList Try.prog ops Q (o :: rest) a w :=
 wpList_wanted hw fun K hK' => by
  unfold Oper.wp
  rw [h]
  exact hK' _ _ hK
theorem l_call (f : Nat) (args : Array Value) (hw : Region.wanted o (yielded ops a.tmps) = true) (h : (execOp a.eval o).run Try.prog w = .ok (.enter f args) w)
  (hK : Calls Try.prog f args w fun e w' => ∃ v, e = .returned v ∧ wpList Try.prog ops Q rest (a.put o.dst v) w') : wpList Try.prog ops Q (o :: rest) a w :=
 wpList_wanted hw fun K hK' => by
  unfold Oper.wp
  rw [h, Oper.upon_enter]
  refine hK.mono ?_
  rintro e w' ⟨v, rfl, h2⟩
  exact hK' _ _ h2
theorem l_setf (g i : Nat) (T : TypeId) (l : List Int) (t : List UInt8) (v : Int) (x y : Operand) (hw : Region.wanted o (yielded ops a.tmps) = true) (hop : o.op = .store 3 x y) (hx : a.eval x = .pointer (some ⟨g, i, none⟩)) (hy : a.eval y = .int .i64 v) (hb : Blk w g T (stc l t)) (hi : i < l.length)
  (hK : ∀ w', Blk w' g T (stc (l.set i v) t) → Keep (· = g) w w' → w'.heap.size = w.heap.size → wpList Try.prog ops Q rest (a.put o.dst undef) w') : wpList Try.prog ops Q (o :: rest) a w := by
 have hlen : i + 1 ≤ (stc l t).length := by rw [stc_len]; omega
 refine l_store (w.setCell ⟨g, i, none⟩ (.int .i64 v)) hw (exec_store1 3 x y g i (.int .i64 v) hop (by kernel_rfl) hx hy rfl rfl (hb.there i 1 hlen)) (hK _ (hb.setFld i v hi) (Keep.setCell (Keep.refl (· = g) w) (fun _ => rfl) _) (by simp [World.setCell]))
theorem l_setS (ty : TypeId) (g : Nat) (T : TypeId) (old cells : List Value) (x y : Operand) (hw : Region.wanted o (yielded ops a.tmps) = true) (hop : o.op = .store ty x y) (hx : a.eval x = .pointer (some ⟨g, 0, none⟩)) (hy : a.eval y = .agg cells.toArray) (hb : Blk w g T old) (hi : (Try.prog.info? ty).map (·.size) = some cells.length) (hold : old.length = cells.length) (h1 : ∀ u ∈ cells, u.oneCell' = true)
  (hK : ∀ w', Blk w' g T cells → Keep (· = g) w w' → w'.heap.size = w.heap.size → wpList Try.prog ops Q rest (a.put o.dst undef) w') : wpList Try.prog ops Q (o :: rest) a w :=
 wpList_wanted hw fun K hK' => op_store_row w ty x y hop g cells hx hy T old hb hi hold h1 (fun w' h2 h3 h4 => hK' _ _ (hK w' h2 h3 h4))
theorem l_alloc (t : TypeId) (z : List Value) (hw : Region.wanted o (yielded ops a.tmps) = true) (hop : o.op = .alloc t) (hz : (Try.prog.info? t).map (·.zero) = some (some (.agg z.toArray)))
  (hK : ∀ w', Blk w' w.heap.size t z → w'.heap.size = w.heap.size + 1 → Kept w w' → wpList Try.prog ops Q rest (a.put o.dst (.pointer (some ⟨w.heap.size, 0, none⟩))) w') : wpList Try.prog ops Q (o :: rest) a w := by
 refine wpList_wanted hw fun K hK' => ?_
 cases hq : Try.prog.info? t with
 | none => simp [hq] at hz
 | some i =>
  have hzz : i.zero = some (.agg z.toArray) := by simpa [hq] using hz
  unfold Oper.wp execOp
  simp only [hop]
  simp [Instr.alloc, zeroValue, typeInfo, hq, hzz, newVar, Value.cells, go_sem]
  exact hK' _ _ (hK _ (Blk.new w t z) (by simp) ((Keep.refl _ w).alloc _))
end
structure Ord where
 tr : Int
 id : Int
 firm : Int
 side : Int
 k : Int
 price : Int
 qty : Int
 shw : Int
 stop : Int
def Ord.l (o : Ord) : List Int := [o.tr, o.id, o.firm, o.side, o.k, o.price, o.qty, o.shw, o.stop]
theorem Ord.ext_l {c d : Ord} (h : c.l = d.l) : c = d := by
 cases c
 cases d
 simp only [Ord.l, List.cons.injEq] at h
 simp_all
instance : DecidableEq Ord := fun c d => decidable_of_iff (c.l = d.l) ⟨fun h => Ord.ext_l h, fun h => by subst h; rfl⟩
def Ord.cells (o : Ord) : List Value := stc o.l []
def Ord.v (o : Ord) : Value := .agg o.cells.toArray
theorem Ord.cells_len (o : Ord) (h : True) : o.cells.length = 9 := by unfold Ord.cells; rw [stc_len]; rfl
theorem ord_size : (Try.prog.info? 24).map (·.size) = some 9 := by kernel_rfl
def intsB (P : Program) (t : TypeId) (n : Nat) : Bool := match P.underlying t with
 | some (.struct fs) => fs.size == n && P.cellsOf t == n && ((List.range n).all fun i => match fs[i]? with
   | some f => f.offset == i && P.cellsOf f.type == 1 && (match P.underlying f.type with | some (.int .i64) => true | _ => false)
   | none => false)
 | _ => false
theorem sh_ints {H : Type} {enc : TypeId × Value → H} {W : World} {t : TypeId} (n : Nat) (hB : intsB Try.prog t n = true) (fuel : Nat) (cs : List Value) (x : DataW H × List MemPlace) (h : DataW.trod enc Try.prog W 0 (fun _ => true) true fuel t cs = some x) :
  ∃ l : List Int, cs = stc l [] ∧ l.length = n ∧ ∀ y ∈ l, (Lit.int .i64 y).wf = true := by
 unfold intsB at hB
 cases hu : Try.prog.underlying t with
 | none => rw [hu] at hB; cases hB
 | some d =>
  rw [hu] at hB
  cases d <;> try (cases hB; done)
  rename_i fs
  simp only [Bool.and_eq_true, beq_iff_eq, List.all_eq_true, List.mem_range] at hB
  obtain ⟨⟨hsz, hcells⟩, hints⟩ := hB
  obtain ⟨ys, m, _, _, hlen, hyl, hf⟩ := DataW.trod_struct hu h
  rw [hcells] at hlen
  have hi : ∀ i, i < n → ∃ a : Int, cs[i]? = some (.int .i64 a) ∧ (Lit.int .i64 a).wf = true := by
   intro i hin
   have h1 := hints i hin
   cases hfi : fs[i]? with
   | none => rw [hfi] at h1; cases h1
   | some f =>
    rw [hfi] at h1
    simp only [Bool.and_eq_true, beq_iff_eq] at h1
    obtain ⟨⟨ho, hc⟩, hk⟩ := h1
    have hk' : Try.prog.underlying f.type = some (.int .i64) := by
     cases hq : Try.prog.underlying f.type with
     | none => rw [hq] at hk; cases hk
     | some d =>
      rw [hq] at hk
      cases d <;> try (cases hk; done)
      rename_i k
      cases k <;> first | rfl | (cases hk; done)
    have g := hf i f hfi
    rw [ho, hc, List.getElem?_eq_getElem (by omega)] at g
    obtain ⟨a, e, _, wa⟩ := DataW.trod_int hk' g
    refine ⟨a, ?_, wa⟩
    have := congrArg (·[0]?) e
    simpa [List.getElem?_take, List.getElem?_drop] using this
  refine ⟨cs.map intOf, ?_, by simp; omega, ?_⟩
  ·unfold stc
   rw [show cells8 [] = [] from rfl, List.append_nil]
   apply List.ext_getElem?
   intro i
   by_cases hin : i < n
   ·obtain ⟨a, e, _⟩ := hi i hin
    simp [i64s, e, intOf]
   ·rw [List.getElem?_eq_none (by omega), List.getElem?_eq_none (by rw [i64s_len]; simp; omega)]
  ·intro y hy
   simp only [List.mem_map] at hy
   obtain ⟨u, hu', rfl⟩ := hy
   obtain ⟨i, hi1, hi2⟩ := List.getElem_of_mem hu'
   obtain ⟨a, e, wa⟩ := hi i (by omega)
   have : u = .int .i64 a := by
    rw [List.getElem?_eq_getElem hi1, hi2] at e
    injection e
   rw [this]
   exact wa
def rng (x lo hi : Int) : Bool := decide (lo ≤ x) && decide (x ≤ hi)
def bet (side x y : Int) : Bool := if side = 1 then decide (y < x) else decide (x < y)
def Ord.crosses (c : Ord) (x : Int) : Bool := decide (c.k = 2) || !bet c.side x c.price
def Ord.hit (c : Ord) (x : Int) : Bool := (decide (0 < c.stop) && decide (0 < x)) && !bet c.side c.stop x
def Ord.owned (c : Ord) : Bool := (rng c.tr 0 31 && rng c.firm 0 7) && rng c.id 0 1073741824
def Ord.ofApi (c : Ord) : Bool := rng c.side 1 2 && rng c.k 1 5
def Ord.prices (c : Ord) : Bool := rng c.stop 0 1048576 && if c.k = 2 then decide (c.price = 0) else rng c.price 1 1048576
def Ord.shown (c : Ord) : Int := if c.k = 1 ∨ c.k = 5 then c.qty else 0
def Ord.amounts (c : Ord) : Bool := rng c.qty 1 1048576 && rng c.shw 0 c.shown
def Ord.right (c : Ord) : Bool := ((c.owned && c.ofApi) && c.prices) && c.amounts
theorem right_iff (c : Ord) : c.right = true ↔ (0 ≤ c.tr ∧ c.tr ≤ 31) ∧ (0 ≤ c.firm ∧ c.firm ≤ 7) ∧ (0 ≤ c.id ∧ c.id ≤ 1073741824) ∧ (1 ≤ c.side ∧ c.side ≤ 2) ∧ (1 ≤ c.k ∧ c.k ≤ 5) ∧ (0 ≤ c.stop ∧ c.stop ≤ 1048576) ∧ (c.k = 2 → c.price = 0) ∧ (c.k ≠ 2 → 1 ≤ c.price ∧ c.price ≤ 1048576) ∧ (1 ≤ c.qty ∧ c.qty ≤ 1048576) ∧ 0 ≤ c.shw ∧ c.shw ≤ c.qty ∧ (c.k = 1 ∨ c.k = 5 ∨ c.shw = 0) := by
 unfold Ord.right Ord.owned Ord.ofApi Ord.prices Ord.amounts Ord.shown rng
 by_cases h2 : c.k = 2
 ·rw [if_pos h2, if_neg (by omega)]
  simp only [Bool.and_eq_true, decide_eq_true_eq]
  omega
 ·rw [if_neg h2]
  by_cases h1 : c.k = 1 ∨ c.k = 5
  ·rw [if_pos h1]
   simp only [Bool.and_eq_true, decide_eq_true_eq]
   omega
  ·rw [if_neg h1]
   simp only [Bool.and_eq_true, decide_eq_true_eq]
   omega
def Ord.err (c : Ord) : Int := if c.right = true then 0 else 1
section
variable {a : Act} {o : Oper} {u : World} {t t' : TypeId} {x y : Operand} {p q : Int}
theorem exec_eqn (hop : o.op = .binOp .eql t x y t') (hx : a.eval x = .int .i64 p) (hy : a.eval y = .int .i64 q) : (execOp a.eval o).run Try.prog u = .ok (.value (.bool (decide (p = q)))) u := by
 unfold execOp
 simp only [hop, hx, hy]
 simp [go_sem]
 rw [Bool.eq_iff_iff]; simp
theorem exec_nen (hop : o.op = .binOp .neq t x y t') (hx : a.eval x = .int .i64 p) (hy : a.eval y = .int .i64 q) : (execOp a.eval o).run Try.prog u = .ok (.value (.bool (decide (p ≠ q)))) u := by
 unfold execOp
 simp only [hop, hx, hy]
 simp [go_sem]
 rw [Bool.eq_iff_iff]; simp
theorem exec_ltn (hop : o.op = .binOp .lss t x y t') (hx : a.eval x = .int .i64 p) (hy : a.eval y = .int .i64 q) : (execOp a.eval o).run Try.prog u = .ok (.value (.bool (decide (p < q)))) u := by
 unfold execOp
 simp only [hop, hx, hy]
 simp [go_sem]
theorem exec_len_ (hop : o.op = .binOp .leq t x y t') (hx : a.eval x = .int .i64 p) (hy : a.eval y = .int .i64 q) : (execOp a.eval o).run Try.prog u = .ok (.value (.bool (decide (p ≤ q)))) u := by
 unfold execOp
 simp only [hop, hx, hy]
 simp [go_sem]
theorem exec_gtn (hop : o.op = .binOp .gtr t x y t') (hx : a.eval x = .int .i64 p) (hy : a.eval y = .int .i64 q) : (execOp a.eval o).run Try.prog u = .ok (.value (.bool (decide (q < p)))) u := by
 unfold execOp
 simp only [hop, hx, hy]
 simp [go_sem]
theorem exec_gen (hop : o.op = .binOp .geq t x y t') (hx : a.eval x = .int .i64 p) (hy : a.eval y = .int .i64 q) : (execOp a.eval o).run Try.prog u = .ok (.value (.bool (decide (q ≤ p)))) u := by
 unfold execOp
 simp only [hop, hx, hy]
 simp [go_sem]
theorem exec_addn (r : Int) (hop : o.op = .binOp .add t x y t') (hx : a.eval x = .int .i64 p) (hy : a.eval y = .int .i64 q) (hr : p + q = r) (h0 : -9223372036854775808 ≤ r) (h1 : r ≤ 9223372036854775807) : (execOp a.eval o).run Try.prog u = .ok (.value (.int .i64 r)) u := by
 subst hr
 unfold execOp
 simp only [hop, hx, hy]
 have hw : IntKind.i64.wrap (p + q) = p + q := by rw [IntKind.wrap_i64]; omega
 simp [go_sem, hw]
theorem exec_subn (r : Int) (hop : o.op = .binOp .sub t x y t') (hx : a.eval x = .int .i64 p) (hy : a.eval y = .int .i64 q) (hr : p - q = r) (h0 : -9223372036854775808 ≤ r) (h1 : r ≤ 9223372036854775807) : (execOp a.eval o).run Try.prog u = .ok (.value (.int .i64 r)) u := by
 subst hr
 unfold execOp
 simp only [hop, hx, hy]
 have hw : IntKind.i64.wrap (p - q) = p - q := by rw [IntKind.wrap_i64]; omega
 simp [go_sem, hw]
theorem exec_quon (r : Int) (hop : o.op = .binOp .quo t x y t') (hx : a.eval x = .int .i64 p) (hy : a.eval y = .int .i64 q) (hq : q ≠ 0) (hr : p.tdiv q = r) (h0 : -9223372036854775808 ≤ r) (h1 : r ≤ 9223372036854775807) : (execOp a.eval o).run Try.prog u = .ok (.value (.int .i64 r)) u := by
 subst hr
 unfold execOp
 simp only [hop, hx, hy]
 have hw : IntKind.i64.wrap (p.tdiv q) = p.tdiv q := by rw [IntKind.wrap_i64]; omega
 simp [go_sem, hw, hq]
end
theorem Blk.setCells {g : Nat} {T : TypeId} : ∀ (cs : List Value) (k : Nat) (u : World) (xs : List Value), Blk u g T xs → k + cs.length ≤ xs.length →
  Blk (u.setCells g k cs) g T (xs.take k ++ cs ++ xs.drop (k + cs.length)) ∧ Keep (· = g) u (u.setCells g k cs) ∧ (u.setCells g k cs).heap.size = u.heap.size := by
 intro cs
 induction cs with
 | nil =>
  intro k u xs hx hk
  refine ⟨?_, Keep.refl _ _, rfl⟩
  simpa [World.setCells] using hx
 | cons c cs ih =>
  intro k u xs hx hk
  simp only [List.length_cons] at hk
  have h1 := hx.set_ k c
  obtain ⟨h2, k2, s2⟩ := ih (k + 1) _ _ h1 (by simp; omega)
  have e : (xs.set k c).take (k + 1) ++ cs ++ (xs.set k c).drop (k + 1 + cs.length) = xs.take k ++ (c :: cs) ++ xs.drop (k + (c :: cs).length) := by
   rw [List.drop_set_of_lt (by omega), List.take_succ_eq_append_getElem (by simp; omega)]
   simp [List.take_set_of_le, Nat.add_assoc, Nat.add_comm 1]
  rw [e] at h2
  refine ⟨?_, ?_, ?_⟩
  ·simpa [World.setCells] using h2
  ·have k1 : Keep (· = g) u (u.setCell ⟨g, k, none⟩ c) := Keep.setCell (Keep.refl (· = g) u) (fun _ => rfl) _
   have := k1.trans k2 (fun _ _ h => h)
   simpa [World.setCells] using this
  ·have : (u.setCell ⟨g, k, none⟩ c).heap.size = u.heap.size := by simp [World.setCell]
   rw [← this, ← s2]
   simp [World.setCells]
def Sl (w : World) (T : TypeId) (k : Nat) (v : Value) (n : Nat) (cs : List Value) : Prop :=
 cs.length = n * k ∧ ∃ A c, v = .slice A n c ∧ n ≤ c ∧ c ≤ maxLen ∧ (A = none → c = 0) ∧ ∀ ad, A = some ad → ∃ g off cur, ad = ⟨g, off, none⟩ ∧ Blk w g T cur ∧ off + c * k ≤ cur.length ∧ (cur.drop off).take (n * k) = cs
theorem Sl.nil (w : World) (T : TypeId) (k : Nat) : Sl w T k (.slice none 0 0) 0 [] := ⟨by simp, none, 0, rfl, Nat.le_refl _, Nat.zero_le _, fun _ => rfl, fun ad h => by cases h⟩
theorem Sl.len {w : World} {T : TypeId} {k n : Nat} {v : Value} {cs : List Value} (h : Sl w T k v n cs) : cs.length = n * k := h.1
theorem Sl.lt {w : World} {T : TypeId} {k n : Nat} {v : Value} {cs : List Value} (h : Sl w T k v n cs) {b : Nat} (hb : v.ownBlock = some b) : b < w.heap.size := by
 obtain ⟨_, A, c, rfl, _, _, _, h⟩ := h
 cases A with
 | none => simp [Value.ownBlock] at hb
 | some ad =>
  obtain ⟨g, off, cur, rfl, hB, _⟩ := h _ rfl
  simp [Value.ownBlock] at hb
  subst hb
  exact hB.lt
theorem Sl.keep {S : Nat → Prop} {w w' : World} {T : TypeId} {k n : Nat} {v : Value} {cs : List Value} (h : Sl w T k v n cs) (hk : Keep S w w') (hn : ∀ b, v.ownBlock = some b → ¬ S b) : Sl w' T k v n cs := by
 obtain ⟨h0, A, c, rfl, h1, h2, h3, h4⟩ := h
 refine ⟨h0, A, c, rfl, h1, h2, h3, fun ad had => ?_⟩
 obtain ⟨g, off, cur, rfl, hB, h5⟩ := h4 ad had
 subst had
 exact ⟨g, off, cur, rfl, hB.keep hk (hn g rfl), h5⟩
theorem Sl.kept {w w' : World} {T : TypeId} {k n : Nat} {v : Value} {cs : List Value} (h : Sl w T k v n cs) (hk : Kept w w') : Sl w' T k v n cs := h.keep hk (fun _ _ h => h)
theorem Sl.of_own {w : World} {base k n : Nat} {T : TypeId} {v : Value} {cs : List Value} (h : w.ownsRow base T k v n cs) : Sl w T k v n cs := by
 refine ⟨h.1, ?_⟩
 rcases h.2 with ⟨rfl, rfl⟩ | ⟨g, cap, cur, rfl, _, hh, h1, h2, h3, h4⟩
 ·exact ⟨none, 0, rfl, Nat.le_refl _, Nat.zero_le _, fun _ => rfl, fun ad h => by cases h⟩
 ·refine ⟨_, cap, rfl, h1, h2, fun h => (by cases h), fun ad had => ?_⟩
  injection had with had
  subst had
  exact ⟨g, 0, cur.toList, rfl, by unfold Blk; rw [hh], by simp [h3], by simpa using h4⟩
theorem own_of {w : World} {base k n : Nat} {T : TypeId} {v : Value} {cs : List Value} (h : w.ownsRow base T k v n cs) {b : Nat} (hb : v.ownBlock = some b) : base ≤ b := by
 rcases h.2 with ⟨rfl, _⟩ | ⟨g, cap, cur, rfl, h1, _⟩
 ·simp [Value.ownBlock] at hb
 ·simp [Value.ownBlock] at hb
  omega
theorem Sl.at_ {w : World} {T : TypeId} {k n : Nat} {v : Value} {cs : List Value} (h : Sl w T k v n cs) (hn : 0 < n) : ∃ g off c cur, v = .slice (some ⟨g, off, none⟩) n c ∧ Blk w g T cur ∧ n ≤ c ∧ c ≤ maxLen ∧ off + c * k ≤ cur.length ∧ (cur.drop off).take (n * k) = cs := by
 obtain ⟨_, A, c, rfl, h1, h2, h3, h4⟩ := h
 cases A with
 | none => have := h3 rfl; omega
 | some ad =>
  obtain ⟨g, off, cur, rfl, hB, h5, h6⟩ := h4 _ rfl
  exact ⟨g, off, c, cur, rfl, hB, h1, h2, h5, h6⟩
theorem seg_cell {w : World} {g off m : Nat} {T : TypeId} {cur cs : List Value} (hB : Blk w g T cur) (h : (cur.drop off).take m = cs) : w.rangeAt g off cs := by
 intro j v hv
 rw [hB.cell, ← hv, ← h, List.getElem?_take]
 split
 ·rw [List.getElem?_drop]
 ·rename_i hj
  rw [← h, List.getElem?_take, if_neg hj] at hv
  cases hv
theorem range_drop {w : World} {g off : Nat} {cs : List Value} (h : w.rangeAt g off cs) (i : Nat) : w.rangeAt g (off + i) (cs.drop i) := by
 intro j v hv
 rw [List.getElem?_drop] at hv
 have := h (i + j) v hv
 rw [Nat.add_assoc]
 exact this
theorem range_take {w : World} {g off : Nat} {cs : List Value} (h : w.rangeAt g off cs) (i : Nat) : w.rangeAt g off (cs.take i) := by
 intro j v hv
 rw [List.getElem?_take] at hv
 split at hv
 ·exact h j v hv
 ·cases hv
theorem range_kept {w w' : World} {g off : Nat} {cs : List Value} (h : w.rangeAt g off cs) (hk : Kept w w') : w'.rangeAt g off cs := fun j v hv => hk.cell (h j v hv)
theorem range_keep {S : Nat → Prop} {w w' : World} {g off : Nat} {cs : List Value} (h : w.rangeAt g off cs) (hk : Keep S w w') (hn : ¬ S g) : w'.rangeAt g off cs := fun j v hv => hk.cell (h j v hv) hn
theorem range_int {w : World} {g off : Nat} {l : List Int} (h : w.rangeAt g off (stc l [])) (i : Nat) (x : Int) (hx : l[i]? = some x) : w.cell? ⟨g, off + i, none⟩ = some (.int .i64 x) := h i _ (stc_int l [] i x hx)
theorem blk_range {w : World} {g : Nat} {T : TypeId} {cs : List Value} (h : Blk w g T cs) : w.rangeAt g 0 cs := fun j v hv => by rw [Nat.zero_add, h.cell]; exact hv
section
variable {α : Type} (f : α → List Value) (k : Nat) (hk : ∀ x, (f x).length = k)
include hk
theorem flat_len (X : List α) : (X.flatMap f).length = X.length * k := by
 induction X with
 | nil => simp
 | cons x X ih => rw [List.flatMap_cons, List.length_append, ih, hk, List.length_cons, Nat.add_mul, Nat.one_mul, Nat.add_comm]
theorem flat_drop (X : List α) (i : Nat) : (X.flatMap f).drop (i * k) = (X.drop i).flatMap f := by
 induction X generalizing i with
 | nil => simp
 | cons x X ih =>
  cases i with
  | zero => simp
  | succ i =>
   rw [List.flatMap_cons, Nat.add_mul, Nat.one_mul, List.drop_append, List.drop_of_length_le (by rw [hk]; omega), hk, Nat.add_sub_cancel, ih]
   rfl
theorem flat_take (X : List α) (i : Nat) : (X.flatMap f).take (i * k) = (X.take i).flatMap f := by
 induction X generalizing i with
 | nil => simp
 | cons x X ih =>
  cases i with
  | zero => simp
  | succ i =>
   rw [List.flatMap_cons, Nat.add_mul, Nat.one_mul, List.take_append, List.take_of_length_le (by rw [hk]; omega), hk, Nat.add_sub_cancel, ih]
   rfl
theorem flat_at (X : List α) (i : Nat) (x : α) (hx : X[i]? = some x) : ((X.flatMap f).drop (i * k)).take k = f x := by
 rw [flat_drop f k hk]
 obtain ⟨hi, rfl⟩ := List.getElem?_eq_some_iff.1 hx
 rw [List.drop_eq_getElem_cons hi, List.flatMap_cons, List.take_append_of_le_length (by rw [hk]; omega), List.take_of_length_le (by rw [hk]; omega)]
theorem flat_set (X : List α) (i : Nat) (y : α) (hi : i < X.length) : (X.flatMap f).take (i * k) ++ f y ++ (X.flatMap f).drop (i * k + k) = (X.set i y).flatMap f := by
 rw [flat_take f k hk, show i * k + k = (i + 1) * k by rw [Nat.add_mul, Nat.one_mul], flat_drop f k hk, List.set_eq_take_append_cons_drop, if_pos hi, List.flatMap_append, List.flatMap_cons, List.append_assoc]
theorem flat_setCell (X : List α) (i j : Nat) (u : Value) (x y : α) (hx : X[i]? = some x) (hj : j < k) (hy : f y = (f x).set j u) : (X.flatMap f).set (i * k + j) u = (X.set i y).flatMap f := by
 obtain ⟨hi, rfl⟩ := List.getElem?_eq_some_iff.1 hx
 rw [← flat_set f k hk X i y hi, hy]
 have h1 := flat_at f k hk X i X[i] (List.getElem?_eq_getElem hi)
 have hl := flat_len f k hk X
 have h2 : (i + 1) * k ≤ X.length * k := Nat.mul_le_mul_right k hi
 rw [Nat.add_mul, Nat.one_mul] at h2
 apply List.ext_getElem?
 intro m
 have e1 : ((X.flatMap f).take (i * k)).length = i * k := by rw [List.length_take]; omega
 have e2 : ((f X[i]).set j u).length = k := by rw [List.length_set, hk]
 rw [List.append_assoc, List.getElem?_append, e1, List.getElem?_append, e2]
 by_cases c1 : m < i * k
 ·rw [if_pos c1, List.getElem?_set_ne (by omega), List.getElem?_take, if_pos c1]
 ·rw [if_neg c1]
  by_cases c2 : m - i * k < k
  ·rw [if_pos c2]
   have h3 : (f X[i])[m - i * k]? = (X.flatMap f)[m]? := by
    rw [← h1, List.getElem?_take, if_pos c2, List.getElem?_drop, show i * k + (m - i * k) = m by omega]
   by_cases c3 : m = i * k + j
   ·subst c3
    rw [List.getElem?_set_self (by omega), show i * k + j - i * k = j by omega, List.getElem?_set_self (by rw [hk]; exact hj)]
   ·rw [List.getElem?_set_ne (by omega), List.getElem?_set_ne (by omega), h3]
  ·rw [if_neg c2, List.getElem?_set_ne (by omega), List.getElem?_drop, show i * k + k + (m - i * k - k) = m by omega]
end
structure SlT (t T : TypeId) (k bytes : Nat) : Prop where
 und : Try.prog.underlying t = some (.slice T)
 elem : Try.prog.elem t = T
 info : ∃ z, (Try.prog.info? T).map (fun i => (i.zero, i.size, i.bytes)) = some (some z, k, bytes) ∧ z.cells.size = k ∧ ∀ u ∈ z.cells, u.oneCell' = true
 pos : 0 < k
theorem run_append_sl {t T : TypeId} {k bytes : Nat} (ht : SlT t T k bytes) (ty : TypeId) (w : World) (v x : Value) (n m : Nat) (cs ds : List Value) (hv : Sl w T k v n cs) (hx : Sl w T k x m ds) (h1 : ∀ u ∈ ds, u.oneCell' = true) (h63 : n + m ≤ maxLen) (hlim : (n + m) * bytes ≤ 140737488355328) :
  ∃ v' w', (Builtin.append_ #[t, t] ty #[v, x]).run Try.prog w = .ok v' w' ∧ Sl w' T k v' (n + m) (cs ++ ds) ∧ Keep (fun b => v.ownBlock = some b) w w' ∧ ∀ b, v'.ownBlock = some b → v.ownBlock = some b ∨ w.heap.size ≤ b := by
 obtain ⟨z, hz, hz2, _⟩ := ht.info
 obtain ⟨i0, hi, hz0, hz1, hzb⟩ := info_parts hz
 obtain ⟨hl2, B, d, rfl, hd1, hd2, hd3, hd4⟩ := hx
 cases B with
 | none =>
  have := hd3 rfl
  subst this
  have : m = 0 := by omega
  subst this
  have : ds = [] := List.eq_nil_of_length_eq_zero (by omega)
  subst this
  refine ⟨v, w, ?_, by simpa using hv, Keep.refl _ _, fun b h => .inl h⟩
  obtain ⟨hl1, A, c, rfl, hc1, hc2, hc3, hc4⟩ := hv
  simp only [Builtin.append_, Sem.run_bind, Sem.run_pure, Result.andThen_ok, run_underlying ht.und, List.getElem?_toArray, List.getElem?_cons_zero, List.getElem?_cons_succ]
  cases A with
  | none => simp [sizeOf, typeInfo, hi, Builtin.lenOf, Builtin.firstCells, hc1]
  | some ad => simp [sizeOf, typeInfo, hi, Builtin.lenOf, Builtin.firstCells, loadCells, hc1, storeCells]
 | some ad =>
  obtain ⟨g2, off2, cur2, rfl, hB2, hle2, htk2⟩ := hd4 _ rfl
  have hnews : ∀ j u, ds[j]? = some u → w.cell? ((⟨g2, off2, none⟩ : Addr).add j) = some u := fun j u hu => by rw [Addr.add_mid]; exact seg_cell hB2 htk2 j u hu
  obtain ⟨hl1, A, c, rfl, hc1, hc2, hc3, hc4⟩ := hv
  cases A with
  | none =>
   have := hc3 rfl
   subst this
   have : n = 0 := by omega
   subst this
   have : cs = [] := List.eq_nil_of_length_eq_zero (by omega)
   subst this
   obtain ⟨v', w', hr, hown, hgr, _⟩ := run_append_own (P := Try.prog) w w.heap.size t ty T i0 z k bytes ht.und hi hz0 hz1 hzb hz2 ht.pos (.slice none 0 0) 0 [] (World.ownsRow_nil w _ T k) ⟨g2, off2, none⟩ m d ds hl2 hnews h1 h63 hlim (Nat.le_refl _)
   exact ⟨v', w', hr, Sl.of_own hown, (Keep.refl _ w).grown hgr (fun b hb _ => by simp [Value.ownBlock] at hb), fun b hb => .inr (own_of hown hb)⟩
  | some ad =>
   obtain ⟨g, off, cur, rfl, hB, hle, htk⟩ := hc4 _ rfl
   by_cases hroom : n + m ≤ c
   ·subst hz1
    have hfit : off + n * i0.size + ds.length ≤ cur.length := by
     have := Nat.mul_le_mul_right i0.size hroom
     rw [Nat.add_mul] at this
     omega
    have hr := run_append_room_cells (P := Try.prog) w t ty T i0 ht.und hi g off n c ⟨g2, off2, none⟩ m d ds hl2 hnews h1 hroom
     (fun j hj => by rw [hB.cell, List.getElem?_eq_getElem (by omega)]; rfl) (fun j hj => hB.frozen _)
    obtain ⟨hB', hK, _⟩ := Blk.setCells ds (off + n * i0.size) w cur hB hfit
    refine ⟨_, _, hr, ⟨by rw [List.length_append, hl1, hl2, Nat.add_mul], _, c, rfl, hroom, hc2, fun h => (by cases h), fun ad had => ?_⟩, hK.mono (fun b _ hb => by subst hb; rfl), fun b hb => .inl hb⟩
    injection had with had
    subst had
    refine ⟨g, off, _, rfl, hB', ?_, ?_⟩
    ·simp only [List.length_append, List.length_take, List.length_drop]
     omega
    ·have e0 : (cur.take (off + n * i0.size)).length = off + n * i0.size := by rw [List.length_take]; omega
     rw [List.append_assoc, List.drop_append_of_le_length (by omega), List.drop_take, show off + n * i0.size - off = n * i0.size by omega, htk, ← List.append_assoc, List.take_append_of_le_length (by rw [List.length_append, hl1, hl2, Nat.add_mul]; omega), List.take_of_length_le (by rw [List.length_append, hl1, hl2, Nat.add_mul]; omega)]
   ·obtain ⟨v', w', hr, hown, hgr⟩ := run_append_arg_grows (P := Try.prog) w t ty T i0 z k bytes ht.und hi hz0 hz1 hzb hz2 ht.pos ⟨g, off, none⟩ n c cs hl1 (fun j u hu => by rw [Addr.add_mid]; exact seg_cell hB htk j u hu) ⟨g2, off2, none⟩ m d ds hl2 hnews (by omega) h63 hlim
    exact ⟨v', w', hr, Sl.of_own hown, (Keep.refl _ w).grown hgr (fun b hb _ => by cases hb), fun b hb => .inr (own_of hown hb)⟩
theorem slice_lS {t T : TypeId} {k bytes : Nat} (ht : SlT t T k bytes) (v : Value) (n l : Nat) (hl : l ≤ n) (cs : List Value) (w0 : World) (h : Sl w0 T k v n cs) :
  ∃ v', (∀ u, (Instr.slice t v (some (.int .i64 (l : Int))) none none).run Try.prog u = .ok v' u) ∧ v'.ownBlock = v.ownBlock ∧ ∀ w ds, Sl w T k v n ds → Sl w T k v' (n - l) (ds.drop (l * k)) := by
 obtain ⟨z, hz, hz2, _⟩ := ht.info
 obtain ⟨i0, hi, hz0, hz1, hzb⟩ := info_parts hz
 obtain ⟨hl1, A, c, rfl, hc1, hc2, hc3, _⟩ := h
 have hr := fun u => run_slice_l (P := Try.prog) (w := u) t A n c (by rw [ht.elem]; exact ht.und) .i64 (l : Int) (by omega) (by omega)
 cases A with
 | none =>
  have := hc3 rfl
  subst this
  have : n = 0 := by omega
  subst this
  have : l = 0 := by omega
  subst this
  refine ⟨.slice none 0 0, fun u => ?_, rfl, fun w ds h => by simpa using h⟩
  rw [hr, ht.elem]
  simp [sizeOf, typeInfo, hi, hz1, sliced]
 | some ad =>
  by_cases e : c = l
  ·refine ⟨.slice (some ad) (n - l) (c - l), fun u => ?_, rfl, fun w ds h => ?_⟩
   ·rw [hr, ht.elem]
    simp [sizeOf, typeInfo, hi, hz1, sliced, e]
   ·obtain ⟨hl1, A, c', e', _, _, _, h4⟩ := h
    injection e' with e1 e2 e3
    subst e1 e3
    obtain ⟨g, off, cur, rfl, hB, h5, h6⟩ := h4 _ rfl
    have hnl : n - l = 0 := by omega
    refine ⟨by rw [List.length_drop, hl1, ← Nat.sub_mul], _, c - l, rfl, by omega, by omega, fun h => (by cases h), fun ad had => ?_⟩
    injection had with had
    subst had
    refine ⟨g, off, cur, rfl, hB, by rw [Nat.sub_mul]; omega, ?_⟩
    have : n * k ≤ l * k := Nat.mul_le_mul_right k (by omega)
    rw [hnl, Nat.zero_mul, List.take_zero, List.drop_of_length_le (by omega)]
  ·have hr2 : ∀ u, (Instr.slice t (.slice (some ad) n c) (some (.int .i64 (l : Int))) none none).run Try.prog u = .ok (.slice (some (ad.add (l * k))) (n - l) (c - l)) u := by
    intro u
    rw [hr, ht.elem]
    simp [sizeOf, typeInfo, hi, hz1, sliced, e]
   refine ⟨_, hr2, by simp [Value.ownBlock, block_add], fun w ds h => ?_⟩
   obtain ⟨hl1, A, c', e', _, _, _, h4⟩ := h
   injection e' with e1 e2 e3
   subst e1 e3
   obtain ⟨g, off, cur, rfl, hB, h5, h6⟩ := h4 _ rfl
   refine ⟨by rw [List.length_drop, hl1, ← Nat.sub_mul], _, c - l, rfl, by omega, by omega, fun h => (by cases h), fun ad had => ?_⟩
   injection had with had
   subst had
   have hlc : l * k ≤ c * k := Nat.mul_le_mul_right k (by omega)
   refine ⟨g, off + l * k, cur, by rw [Addr.add_mid], hB, by rw [Nat.sub_mul]; omega, ?_⟩
   rw [← h6, List.drop_take, List.drop_drop, ← Nat.sub_mul]
theorem slice_hS {t T : TypeId} {k bytes : Nat} (ht : SlT t T k bytes) (v : Value) (n l : Nat) (hl : l ≤ n) (cs : List Value) (w0 : World) (h : Sl w0 T k v n cs) :
  ∃ v', (∀ u, (Instr.slice t v none (some (.int .i64 (l : Int))) none).run Try.prog u = .ok v' u) ∧ v'.ownBlock = v.ownBlock ∧ ∀ w ds, Sl w T k v n ds → Sl w T k v' l (ds.take (l * k)) := by
 obtain ⟨z, hz, hz2, _⟩ := ht.info
 obtain ⟨i0, hi, hz0, hz1, hzb⟩ := info_parts hz
 obtain ⟨hl1, A, c, rfl, hc1, hc2, hc3, _⟩ := h
 have hr := fun u => run_slice_h (P := Try.prog) (w := u) t A n c (by rw [ht.elem]; exact ht.und) .i64 (l : Int) (by omega) (by omega)
 refine ⟨.slice A l c, fun u => ?_, by cases A <;> rfl, fun w ds h => ?_⟩
 ·rw [hr, ht.elem]
  cases A with
  | none => simp [sizeOf, typeInfo, hi, hz1, sliced]
  | some ad => simp [sizeOf, typeInfo, hi, hz1, sliced, Addr.add]
 ·obtain ⟨hl1, A', c', e', h1, h2, h3, h4⟩ := h
  injection e' with e1 e2 e3
  subst e1 e3
  have hlk : l * k ≤ n * k := Nat.mul_le_mul_right k hl
  refine ⟨by rw [List.length_take, hl1]; omega, _, c, rfl, by omega, h2, h3, fun ad had => ?_⟩
  obtain ⟨g, off, cur, rfl, hB, h5, h6⟩ := h4 ad had
  refine ⟨g, off, cur, rfl, hB, h5, ?_⟩
  rw [← h6, List.take_take, Nat.min_eq_left hlk]
theorem Sl.setCells {w : World} {T : TypeId} {k n g off c : Nat} {cs : List Value} (h : Sl w T k (.slice (some ⟨g, off, none⟩) n c) n cs) (i : Nat) (ds : List Value) (hi : i + ds.length ≤ n * k) :
  Sl (w.setCells g (off + i) ds) T k (.slice (some ⟨g, off, none⟩) n c) n (cs.take i ++ ds ++ cs.drop (i + ds.length)) ∧ Keep (· = g) w (w.setCells g (off + i) ds) ∧ (w.setCells g (off + i) ds).heap.size = w.heap.size ∧ w.there g (off + i) ds.length := by
 obtain ⟨hl1, A, c', e', h1, h2, h3, h4⟩ := h
 injection e' with e1 e2 e3
 subst e1 e3
 obtain ⟨g', off', cur, e, hB, h5, h6⟩ := h4 _ rfl
 injection e with e1 e2
 subst e1 e2
 have hnc : n * k ≤ c * k := Nat.mul_le_mul_right k h1
 obtain ⟨hB', hK, hs⟩ := Blk.setCells ds (off + i) w cur hB (by omega)
 refine ⟨⟨by simp only [List.length_append, List.length_take, List.length_drop]; omega, _, c, rfl, h1, h2, h3, fun ad had => ?_⟩, hK, hs, hB.there _ _ (by omega)⟩
 injection had with had
 subst had
 refine ⟨g, off, _, rfl, hB', by simp only [List.length_append, List.length_take, List.length_drop]; omega, ?_⟩
 subst h6
 apply List.ext_getElem?
 intro m
 have e0 : (cur.take (off + i)).length = off + i := by rw [List.length_take]; omega
 have e3 : (((cur.drop off).take (n * k)).take i).length = i := by simp only [List.length_take, List.length_drop]; omega
 rw [List.getElem?_take, List.append_assoc, List.append_assoc, List.getElem?_append, e3, List.getElem?_drop, List.getElem?_append, e0, List.getElem?_append, List.getElem?_append]
 by_cases cm : m < n * k
 ·rw [if_pos cm]
  by_cases c1 : m < i
  ·rw [if_pos (by omega), if_pos c1]
   simp only [List.getElem?_take, List.getElem?_drop]
   rw [if_pos (by omega), if_pos (by omega), if_pos (by omega)]
  ·rw [if_neg (by omega), if_neg c1]
   by_cases c2 : m - i < ds.length
   ·rw [if_pos (by omega), if_pos c2]
    congr 1
    omega
   ·rw [if_neg (by omega), if_neg c2]
    simp only [List.getElem?_take, List.getElem?_drop]
    rw [if_pos (by omega)]
    congr 1
    omega
 ·rw [if_neg cm, if_neg (by omega), if_neg (by omega)]
  simp only [List.getElem?_take, List.getElem?_drop]
  rw [if_neg (by omega)]
theorem setCells_one (w : World) (g k : Nat) (u : Value) : w.setCells g k [u] = w.setCell ⟨g, k, none⟩ u := by simp [World.setCells]
theorem Sl.setCell {w : World} {T : TypeId} {k n g off c : Nat} {cs : List Value} (h : Sl w T k (.slice (some ⟨g, off, none⟩) n c) n cs) (i : Nat) (u : Value) (hi : i < n * k) :
  Sl (w.setCell ⟨g, off + i, none⟩ u) T k (.slice (some ⟨g, off, none⟩) n c) n (cs.set i u) ∧ Keep (· = g) w (w.setCell ⟨g, off + i, none⟩ u) ∧ (w.setCell ⟨g, off + i, none⟩ u).heap.size = w.heap.size ∧ w.there g (off + i) 1 := by
 have hl := h.len
 have := h.setCells i [u] (by simp; omega)
 rw [setCells_one] at this
 refine ⟨?_, this.2.1, this.2.2.1, this.2.2.2⟩
 have e : cs.take i ++ [u] ++ cs.drop (i + [u].length) = cs.set i u := by
  rw [List.set_eq_take_append_cons_drop, if_pos (by omega)]
  simp
 rw [← e]
 exact this.1
structure Ent where
 o : Ord
 n : Int
deriving DecidableEq
def Ent.l (e : Ent) : List Int := [e.o.tr, e.o.id, e.o.firm, e.o.side, e.o.k, e.o.price, e.o.qty, e.o.shw, e.o.stop, e.n]
def Ent.cells (e : Ent) : List Value := stc e.l []
def Ent.v (e : Ent) : Value := .agg e.cells.toArray
theorem Ent.len10 (e : Ent) : e.cells.length = 10 := by unfold Ent.cells; rw [stc_len]; rfl
theorem Ord.len9 (o : Ord) : o.cells.length = 9 := o.cells_len trivial
theorem Ent.one (e : Ent) : ∀ u ∈ e.cells, u.oneCell' = true := stc_one _ _
theorem Ord.one1 (c : Ord) : ∀ u ∈ c.cells, u.oneCell' = true := stc_one _ _
def ents (X : List Ent) : List Value := X.flatMap Ent.cells
def ords (X : List Ord) : List Value := X.flatMap Ord.cells
theorem ents_len (X : List Ent) : (ents X).length = X.length * 10 := flat_len _ 10 Ent.len10 X
theorem ords_len (X : List Ord) : (ords X).length = X.length * 9 := flat_len _ 9 Ord.len9 X
theorem ents_one (X : List Ent) : ∀ u ∈ ents X, u.oneCell' = true := by
 intro u hu
 obtain ⟨x, _, h⟩ := List.mem_flatMap.1 hu
 exact x.one u h
theorem ords_one (X : List Ord) : ∀ u ∈ ords X, u.oneCell' = true := by
 intro u hu
 obtain ⟨x, _, h⟩ := List.mem_flatMap.1 hu
 exact x.one1 u h
theorem ents_snoc (X : List Ent) (e : Ent) : ents (X ++ [e]) = ents X ++ e.cells := by simp [ents]
theorem ords_snoc (X : List Ord) (e : Ord) : ords (X ++ [e]) = ords X ++ e.cells := by simp [ords]
def zeroE : Ent := ⟨⟨0, 0, 0, 0, 0, 0, 0, 0, 0⟩, 0⟩
def zeroO : Ord := ⟨0, 0, 0, 0, 0, 0, 0, 0, 0⟩
theorem slE : SlT 94 98 10 80 := ⟨Try.underlying94, by kernel_rfl, ⟨zeroE.v, by kernel_rfl, rfl, by intro u hu; exact zeroE.one u (by simpa [Ent.v, Value.cells] using hu)⟩, by omega⟩
theorem slH : SlT 27 26 10 80 := ⟨Try.underlying27, by kernel_rfl, ⟨zeroE.v, by kernel_rfl, rfl, by intro u hu; exact zeroE.one u (by simpa [Ent.v, Value.cells] using hu)⟩, by omega⟩
theorem slO : SlT 35 24 9 72 := ⟨Try.underlying35, by kernel_rfl, ⟨zeroO.v, by kernel_rfl, rfl, by intro u hu; exact zeroO.one1 u (by simpa [Ord.v, Value.cells] using hu)⟩, by omega⟩
theorem zE : (Try.prog.info? 98).map (·.zero) = some (some (.agg zeroE.cells.toArray)) := by kernel_rfl
theorem zH : (Try.prog.info? 26).map (·.zero) = some (some (.agg zeroE.cells.toArray)) := by kernel_rfl
theorem zO : (Try.prog.info? 24).map (·.zero) = some (some (.agg zeroO.cells.toArray)) := by kernel_rfl
theorem szE : (Try.prog.info? 98).map (·.size) = some 10 := by kernel_rfl
theorem szH : (Try.prog.info? 26).map (·.size) = some 10 := by kernel_rfl
def Kn.fresh (base : Nat) (T : TypeId) (z : List Value) : Kn := ⟨fun v w => ∃ g, v = .pointer (some ⟨g, 0, none⟩) ∧ base ≤ g ∧ Blk w g T z, fun _ _ _ ⟨g, h1, h2, h3⟩ hk => ⟨g, h1, h2, h3.kept hk⟩⟩
def Kn.sl (base : Nat) (T : TypeId) (k n : Nat) (cs : List Value) : Kn := ⟨fun v w => Sl w T k v n cs ∧ ∀ b, v.ownBlock = some b → base ≤ b, fun _ _ _ h hk => ⟨h.1.kept hk, h.2⟩⟩
theorem fold_setS (l : List Value) : ∀ (k : Nat) (pre suf : List Value), pre.length = k → suf.length = l.length →
  (l.zipIdx k).foldl (fun (cs : Array Value) (x : Value × Nat) => cs.setIfInBounds x.2 x.1) (pre ++ suf).toArray = (pre ++ l).toArray := by
 induction l with
 | nil =>
  intro k pre suf h1 h2
  have : suf = [] := List.eq_nil_of_length_eq_zero (by simpa using h2)
  subst this
  rfl
 | cons v l ih =>
  intro k pre suf h1 h2
  cases suf with
  | nil => simp at h2
  | cons s suf =>
   rw [List.zipIdx_cons, List.foldl_cons]
   have e : (pre ++ s :: suf).toArray.setIfInBounds k v = ((pre ++ [v]) ++ suf).toArray := by
    simp [List.set_append_right _ _ (show pre.length ≤ k by omega), h1]
   show List.foldl _ ((pre ++ s :: suf).toArray.setIfInBounds k v) _ = _
   rw [e, ih (k + 1) (pre ++ [v]) suf (by simp [h1]) (by simpa using h2)]
   simp
section
variable {a : Act} {o : Oper} {u : World}
theorem exec_nilp (x : Operand) (ad : Addr) (hop : o.op = .nilCheck x) (hx : a.eval x = .pointer (some ad)) : (execOp a.eval o).run Try.prog u = .ok (.value (.pointer (some ad))) u := by
 unfold execOp
 simp only [hop, hx]
 simp [go_sem]
theorem exec_fldo (t : TypeId) (i fo : Nat) (x : Operand) (g off off' : Nat) (hop : o.op = .fieldAddr t x i) (hx : a.eval x = .pointer (some ⟨g, off, none⟩)) (hB : fldB Try.prog t i fo = true) (he : off + fo = off') :
  (execOp a.eval o).run Try.prog u = .ok (.value (.pointer (some ⟨g, off', none⟩))) u := by
 subst he
 unfold fldB at hB
 cases hu : Try.prog.underlying t with
 | none => rw [hu] at hB; cases hB
 | some d =>
  rw [hu] at hB
  cases d <;> try (cases hB; done)
  rename_i fs
  simp only at hB
  cases hf : fs[i]? with
  | none => rw [hf] at hB; cases hB
  | some f =>
   rw [hf] at hB
   simp only at hB
   cases hi : Try.prog.info? f.type with
   | none => rw [hi] at hB; simp at hB
   | some inf =>
    rw [hi] at hB
    simp only [Bool.and_eq_true, beq_iff_eq, bne_iff_ne] at hB
    obtain ⟨h1, h2⟩ := hB
    unfold execOp
    simp only [hop, hx]
    simp [Instr.fieldAt, run_underlying hu, hf, Sem.run_bind, Instr.sureAddr, fieldPlace, sizeOf, typeInfo, hi, h2, h1, Addr.add_mid]
theorem exec_ixo {t T : TypeId} {k bytes : Nat} (ht : SlT t T k bytes) (x y : Operand) (g off n c i off' : Nat) (I : Int) (hop : o.op = .indexAddr t x y) (hx : a.eval x = .slice (some ⟨g, off, none⟩) n c) (hy : a.eval y = .int .i64 I) (hI : I = (i : Int)) (hi : i < n) (he : off + i * k = off') :
  (execOp a.eval o).run Try.prog u = .ok (.value (.pointer (some ⟨g, off', none⟩))) u := by
 subst he hI
 obtain ⟨z, hz, _, _⟩ := ht.info
 obtain ⟨i0, hi0, _, hz1, _⟩ := info_parts hz
 have hin : (0 : Int) ≤ (i : Int) ∧ (i : Int) < (n : Int) := by omega
 unfold execOp
 simp only [hop, hx, hy]
 simp [Instr.indexAt, asIntOf, run_underlying ht.und, Sem.run_bind, sizeOf, typeInfo, hi0, hz1, Addr.add_mid, hi, Instr.sureAddr]
theorem exec_ldv (t e : TypeId) (hu : Try.prog.underlying t = some (.slice e)) (x : Operand) (ad : Addr) (v : Value) (hop : o.op = .load t x) (hx : a.eval x = .pointer (some ad)) (hc : u.cell? ad = some v) :
  (execOp a.eval o).run Try.prog u = .ok (.value v) u := by
 unfold execOp
 simp only [hop, hx, Instr.loadAt, Instr.sureAddr, Sem.run_bind, Sem.run_pure, Result.andThen_ok]
 simp [loadVar, isAgg, run_underlying hu, Sem.run_bind, hc, go_sem]
theorem exec_ldS (ty : TypeId) (fs : Array Field) (x : Operand) (b of : Nat) (cs : List Value) (hop : o.op = .load ty x) (hx : a.eval x = .pointer (some ⟨b, of, none⟩)) (hc : u.rangeAt b of cs)
  (hu : Try.prog.underlying ty = some (.struct fs)) (hi : (Try.prog.info? ty).map (·.size) = some cs.length) : (execOp a.eval o).run Try.prog u = .ok (.value (.agg cs.toArray)) u := by
 unfold execOp
 simp only [hop, hx, Instr.loadAt, Instr.sureAddr, Sem.run_bind, Sem.run_pure, Result.andThen_ok, run_loadVar_mid u b of ty cs _ hc hu rfl hi]
theorem exec_lenS (x : Operand) {t T : TypeId} {k bytes : Nat} (ht : SlT t T k bytes) (v : Value) (n : Nat) (cs : List Value) (w : World) (hop : o.op = .call { callee := .builtin .len, args := #[x], argTypes := #[t] }) (hx : a.eval x = v) (hv : Sl w T k v n cs) : (execOp a.eval o).run Try.prog u = .ok (.value (.int .i64 (n : Int))) u := by
 obtain ⟨_, A, c, rfl, _⟩ := hv
 exact exec_len x t T ht.und A n c hop hx
theorem exec_appS {t T : TypeId} {k bytes : Nat} (ht : SlT t T k bytes) (s x : Operand) (v y : Value) (hop : o.op = Op.call { callee := Callee.builtin Builtin.append, args := #[s, x], argTypes := #[t, t] }) (hs : a.eval s = v) (hx : a.eval x = y) (v' : Value) (u' : World)
  (h : (Builtin.append_ #[t, t] o.type #[v, y]).run Try.prog u = .ok v' u') : (execOp a.eval o).run Try.prog u = .ok (.value v') u' := by
 unfold execOp
 simp only [hop, resolve, invoke, builtin, Sem.run_bind, Sem.run_pure, Result.andThen_ok, List.map_toArray, List.map_cons, List.map_nil, hs, hx, h]
theorem exec_slcS {t T : TypeId} {k bytes : Nat} (ht : SlT t T k bytes) (x : Operand) (lo hi mx : Option Operand) (v vr : Value) (hop : o.op = .slice t x lo hi mx) (hx : a.eval x = v) (h : (Instr.slice t v (lo.map a.eval) (hi.map a.eval) (mx.map a.eval)).run Try.prog u = .ok vr u) : (execOp a.eval o).run Try.prog u = .ok (.value vr) u := by
 unfold execOp
 simp only [hop, hx, Sem.run_bind]
 have he : Try.prog.underlying t = some (.slice (Try.prog.elem t)) := by rw [ht.elem]; exact ht.und
 rw [run_sliceAt_slice (h := he), h]
 rfl
theorem exec_alc (t : TypeId) (z : List Value) (hop : o.op = .alloc t) (hz : (Try.prog.info? t).map (·.zero) = some (some (.agg z.toArray))) : (execOp a.eval o).run Try.prog u = .ok (.value (.pointer (some ⟨u.heap.size, 0, none⟩))) (u.alloc (.cells z.toArray t)) := by
 cases hq : Try.prog.info? t with
 | none => simp [hq] at hz
 | some i =>
  have hzz : i.zero = some (.agg z.toArray) := by simpa [hq] using hz
  unfold execOp
  simp only [hop]
  simp [Instr.alloc, zeroValue, typeInfo, hq, hzz, newVar, Value.cells, go_sem]
theorem exec_oneS {t T : TypeId} {k bytes : Nat} (ht : SlT t T k bytes) (x : Operand) (cs : List Value) (hk1 : k ≤ 1000) (hop : o.op = .buildSlice t 1 #[(0, x)]) (hx : a.eval x = .agg cs.toArray) (hl : cs.length = k) :
  (execOp a.eval o).run Try.prog u = .ok (.value (.slice (some ⟨u.heap.size, 0, none⟩) 1 1)) (u.alloc (.cells cs.toArray T)) := by
 obtain ⟨z, hz, hz2, _⟩ := ht.info
 obtain ⟨i0, hi0, hz0, hz1, _⟩ := info_parts hz
 have hp := ht.pos
 have hf := fold_setS cs 0 [] (List.map (fun j => z.cells[j % z.cells.size]!) (List.range k)) rfl (by simp [hl])
 unfold execOp
 simp only [hop, List.map_toArray, List.map_cons, List.map_nil, hx]
 have hn : ¬ k = 0 := by omega
 have hc : (Value.agg cs.toArray).cells = cs.toArray := rfl
 have hb : ¬ 16777216 < k := by omega
 simp [Instr.buildSlice, run_underlying ht.und, sizeOf, typeInfo, hi0, hz0, hz1, zeroValue, Instr.fill, newRow, hc, hl, hn, hb]
 have e : Array.map (fun x => z.cells[x % z.cells.size]!) (Array.range k) = (List.map (fun j => z.cells[j % z.cells.size]!) (List.range k)).toArray := by
  apply Array.toList_inj.1
  simp
 rw [e]
 simp only [List.nil_append] at hf
 rw [hf]
end
section
variable {ops : Array Oper} {Q : Exit → Act → World → Prop} {V Ks : List Kn} {n i : Nat} {a0 a : Act} {w0 u : World} {v : Value}
theorem eE (h : FEnv ops n a0 a) {t : Nat} {v : Value} (h1 : ((List.range n).all fun i => dstOf ops i != some t) = true := by kernel_rfl) (h2 : a0.eval (.tmp t) = v := by kernel_rfl) : a.eval (.tmp t) = v := h t v h1 h2
theorem dD (h : FDep ops V i a u) (j : Nat) {d : Nat} (hd : (((ops[i]?).map fun o => o.after.any fun e => Region.binds .any e && e.on == j) == some true && dstOf ops j == some d) = true := by kernel_rfl) : (knOf V j).p (a.eval (.tmp d)) u := h j d hd
def GOk (ops : Array Oper) (V : List Kn) (i : Nat) (o : Oper) : Prop := o.guard = none ∨ ∃ g b d, o.guard = some (g, b) ∧ dstOf ops g = some d ∧ V[g]? = some (.eq (.bool b)) ∧ (((ops[i]?).map fun o => o.after.any fun e => Region.binds .any e && e.on == g) == some true && dstOf ops g == some d) = true
theorem GOk.want {o : Oper} (h : GOk ops V i o) (hD : FDep ops V i a u) : Region.wanted o (yielded ops a.tmps) = true := by
 rcases h with h | ⟨g, b, d, h1, h2, h3, h4⟩
 ·exact wanted_none h _
 ·have h5 := hD g d h4
  have h6 : knOf V g = .eq (.bool b) := by simp [knOf, List.getD, h3]
  rw [h6] at h5
  rw [wanted_at b h1 h2 h5]
  cases b <;> rfl
theorem sW (j : Nat) {o : Oper} (ho : ops[i]? = some o) (h : ∀ a u, FEnv ops n a0 a → FDep ops V i a u → Kept w0 u → (execOp a.eval o).run Try.prog u = .ok (.value v) u) (hr : FSteps Try.prog ops Q V n a0 w0 j Ks)
  (hj : j = i + 1 := by rfl) (hg : GOk ops V i o := by first | exact Or.inl rfl | exact Or.inr ⟨_, _, _, rfl, rfl, rfl, by kernel_rfl⟩) : FSteps Try.prog ops Q V n a0 w0 i (Kn.eq v :: Ks) :=
 fsteps_cons j hj (fun a u hE hD hk => f_val v ho (hg.want hD) (h a u hE hD hk) rfl) hr
theorem mE (j t : Nat) (hr : FSteps Try.prog ops Q V n a0 w0 j Ks) {o : Oper} (ho : ops[i]? = some o := by rfl) (hp : o.op = .move (.tmp t) ∨ o.op = .assign (.tmp t) := by first | exact Or.inl rfl | exact Or.inr rfl)
  (hj : j = i + 1 := by rfl) (hg : GOk ops V i o := by first | exact Or.inl rfl | exact Or.inr ⟨_, _, _, rfl, rfl, rfl, by kernel_rfl⟩) (h1 : ((List.range n).all fun i => dstOf ops i != some t) = true := by kernel_rfl) (h2 : a0.eval (.tmp t) = v := by kernel_rfl) : FSteps Try.prog ops Q V n a0 w0 i (Kn.eq v :: Ks) :=
 sW j ho (fun a u hE hD hk => hp.elim (fun hp => exec_move (.tmp t) v hp (hE t v h1 h2)) (fun hp => exec_assign (.tmp t) v hp (hE t v h1 h2))) hr hj hg
theorem kn_eq {m : Nat} (h : V[m]? = some (.eq v)) : knOf V m = .eq v := by simp [knOf, List.getD, h]
theorem mD (j t m : Nat) (hr : FSteps Try.prog ops Q V n a0 w0 j Ks) {o : Oper} (ho : ops[i]? = some o := by rfl) (hp : o.op = .move (.tmp t) ∨ o.op = .assign (.tmp t) := by first | exact Or.inl rfl | exact Or.inr rfl)
  (hj : j = i + 1 := by rfl) (hg : GOk ops V i o := by first | exact Or.inl rfl | exact Or.inr ⟨_, _, _, rfl, rfl, rfl, by kernel_rfl⟩) (hV : V[m]? = some (.eq v) := by kernel_rfl) (hd : (((ops[i]?).map fun o => o.after.any fun e => Region.binds .any e && e.on == m) == some true && dstOf ops m == some t) = true := by kernel_rfl) : FSteps Try.prog ops Q V n a0 w0 i (Kn.eq v :: Ks) :=
 sW j ho (fun a u hE hD hk => by
  have h := hD m t hd
  rw [kn_eq hV] at h
  exact hp.elim (fun hp => exec_move (.tmp t) v hp h) (fun hp => exec_assign (.tmp t) v hp h)) hr hj hg
theorem nD {ad : Addr} (j t m : Nat) (hr : FSteps Try.prog ops Q V n a0 w0 j Ks) {o : Oper} (ho : ops[i]? = some o := by rfl) (hp : o.op = .nilCheck (.tmp t) := by rfl)
  (hj : j = i + 1 := by rfl) (hg : GOk ops V i o := by first | exact Or.inl rfl | exact Or.inr ⟨_, _, _, rfl, rfl, rfl, by kernel_rfl⟩) (hV : V[m]? = some (.eq (.pointer (some ad))) := by kernel_rfl) (hd : (((ops[i]?).map fun o => o.after.any fun e => Region.binds .any e && e.on == m) == some true && dstOf ops m == some t) = true := by kernel_rfl) : FSteps Try.prog ops Q V n a0 w0 i (Kn.eq (.pointer (some ad)) :: Ks) :=
 sW j ho (fun a u hE hD hk => by
  have h := hD m t hd
  rw [kn_eq hV] at h
  exact exec_nilp (.tmp t) ad hp h) hr hj hg
theorem fD {g off' : Nat} (j t m T F fo off : Nat) (hr : FSteps Try.prog ops Q V n a0 w0 j Ks) {o : Oper} (ho : ops[i]? = some o := by rfl) (hp : o.op = .fieldAddr T (.tmp t) F := by rfl)
  (hj : j = i + 1 := by rfl) (hg : GOk ops V i o := by first | exact Or.inl rfl | exact Or.inr ⟨_, _, _, rfl, rfl, rfl, by kernel_rfl⟩) (hV : V[m]? = some (.eq (.pointer (some ⟨g, off, none⟩))) := by kernel_rfl) (hd : (((ops[i]?).map fun o => o.after.any fun e => Region.binds .any e && e.on == m) == some true && dstOf ops m == some t) = true := by kernel_rfl) (hB : fldB Try.prog T F fo = true := by kernel_rfl) (he : off + fo = off' := by rfl) : FSteps Try.prog ops Q V n a0 w0 i (Kn.eq (.pointer (some ⟨g, off', none⟩)) :: Ks) :=
 sW j ho (fun a u hE hD hk => by
  have h := hD m t hd
  rw [kn_eq hV] at h
  exact exec_fldo T F fo (.tmp t) g off off' hp h hB he) hr hj hg
theorem fE {g off' : Nat} (j t T F fo off : Nat) (hr : FSteps Try.prog ops Q V n a0 w0 j Ks) {o : Oper} (ho : ops[i]? = some o := by rfl) (hp : o.op = .fieldAddr T (.tmp t) F := by rfl)
  (hj : j = i + 1 := by rfl) (hg : GOk ops V i o := by first | exact Or.inl rfl | exact Or.inr ⟨_, _, _, rfl, rfl, rfl, by kernel_rfl⟩) (h1 : ((List.range n).all fun i => dstOf ops i != some t) = true := by kernel_rfl) (h2 : a0.eval (.tmp t) = .pointer (some ⟨g, off, none⟩) := by kernel_rfl) (hB : fldB Try.prog T F fo = true := by kernel_rfl) (he : off + fo = off' := by rfl) : FSteps Try.prog ops Q V n a0 w0 i (Kn.eq (.pointer (some ⟨g, off', none⟩)) :: Ks) :=
 sW j ho (fun a u hE hD hk => exec_fldo T F fo (.tmp t) g off off' hp (hE t _ h1 h2) hB he) hr hj hg
theorem kS (j m : Nat) (hr : FSteps Try.prog ops Q V n a0 w0 j Ks) {o : Oper} (ho : ops[i]? = some o := by rfl) (hj : j = i + 1 := by rfl)
  (hg : ∃ b c d, o.guard = some (m, b) ∧ dstOf ops m = some d ∧ V[m]? = some (.eq (.bool c)) ∧ (c == b) = false ∧ (((ops[i]?).map fun o => o.after.any fun e => Region.binds .any e && e.on == m) == some true && dstOf ops m == some d) = true := by exact ⟨_, _, _, rfl, rfl, rfl, rfl, by kernel_rfl⟩) : FSteps Try.prog ops Q V n a0 w0 i (Kn.eq undef :: Ks) :=
 fsteps_cons j hj (fun a u hE hD hk => by
  obtain ⟨b, c, d, h1, h2, h3, h4, h5⟩ := hg
  have h6 := hD m d h5
  rw [kn_eq h3] at h6
  exact f_skip ho (by rw [wanted_at c h1 h2 h6]; exact h4) rfl) hr
theorem aS {b c : Bool} (j : Nat) {o : Oper} (ho : ops[i]? = some o) (hx : ∀ a u, FEnv ops n a0 a → FDep ops V i a u → Kept w0 u → (execOp a.eval o).run Try.prog u = .ok (.value (.bool b)) u) (h : b = c) (hr : FSteps Try.prog ops Q V n a0 w0 j Ks)
  (hj : j = i + 1 := by rfl) (hg : GOk ops V i o := by first | exact Or.inl rfl | exact Or.inr ⟨_, _, _, rfl, rfl, rfl, by kernel_rfl⟩) : FSteps Try.prog ops Q V n a0 w0 i (Kn.eq (.bool c) :: Ks) := by
 subst h
 exact sW j ho hx hr hj hg
theorem uC {b : Bool} (j m : Nat) {o : Oper} (ho : ops[i]? = some o) (hx : ∀ a u, FEnv ops n a0 a → FDep ops V i a u → Kept w0 u → (!b) = true → (execOp a.eval o).run Try.prog u = .ok (.value v) u) (hr : FSteps Try.prog ops Q V n a0 w0 j Ks)
  (hj : j = i + 1 := by rfl) (hg : ∃ d, o.guard = some (m, false) ∧ dstOf ops m = some d ∧ V[m]? = some (.eq (.bool b)) ∧ (((ops[i]?).map fun o => o.after.any fun e => Region.binds .any e && e.on == m) == some true && dstOf ops m == some d) = true := by exact ⟨_, rfl, rfl, rfl, by kernel_rfl⟩) : FSteps Try.prog ops Q V n a0 w0 i (Kn.cond (!b) (Kn.eq v) :: Ks) :=
 fsteps_cons j hj (fun a u hE hD hk => by
  obtain ⟨d, h1, h2, h3, h5⟩ := hg
  have h6 := hD m d h5
  rw [kn_eq h3] at h6
  exact f_unless b h1 ho h2 h6 (fun hb => f_val v ho (wanted_b h1 h2 h6 (eq_false_of hb)) (hx a u hE hD hk hb) rfl)) hr
theorem iC {b : Bool} (j m : Nat) {o : Oper} (ho : ops[i]? = some o) (hx : ∀ a u, FEnv ops n a0 a → FDep ops V i a u → Kept w0 u → b = true → (execOp a.eval o).run Try.prog u = .ok (.value v) u) (hr : FSteps Try.prog ops Q V n a0 w0 j Ks)
  (hj : j = i + 1 := by rfl) (hg : ∃ d, o.guard = some (m, true) ∧ dstOf ops m = some d ∧ V[m]? = some (.eq (.bool b)) ∧ (((ops[i]?).map fun o => o.after.any fun e => Region.binds .any e && e.on == m) == some true && dstOf ops m == some d) = true := by exact ⟨_, rfl, rfl, rfl, by kernel_rfl⟩) : FSteps Try.prog ops Q V n a0 w0 i (Kn.cond b (Kn.eq v) :: Ks) :=
 fsteps_cons j hj (fun a u hE hD hk => by
  obtain ⟨d, h1, h2, h3, h5⟩ := hg
  have h6 := hD m d h5
  rw [kn_eq h3] at h6
  exact f_if b h1 ho h2 h6 (fun hb => f_val v ho (wanted_b h1 h2 h6 (eq_true_of hb)) (hx a u hE hD hk hb) rfl)) hr
theorem ll {x : Operand} {xs : List Operand} {v : Value} {vs : List Value} (h : a.eval x = v) (t : xs.map a.eval = vs) : (x :: xs).map a.eval = v :: vs := by simp [h, t]
theorem cS {K : Kn} {fn : Func} {xs : List Operand} {ts : Array TypeId} (j f : Nat) (args : List Value) {o : Oper} (ho : ops[i]? = some o) (hf : Try.prog.funcs[f]? = some fn) (hop : o.op = .call { callee := .value (.func f), args := xs.toArray, argTypes := ts })
  (hx : ∀ a u, FEnv ops n a0 a → FDep ops V i a u → Kept w0 u → xs.map a.eval = args ∧ Calls Try.prog f args.toArray u fun e w' => ∃ v, e = .returned v ∧ K.p v w' ∧ Kept u w') (hr : FSteps Try.prog ops Q V n a0 w0 j Ks)
  (hj : j = i + 1 := by rfl) (hg : GOk ops V i o := by first | exact Or.inl rfl | exact Or.inr ⟨_, _, _, rfl, rfl, rfl, by kernel_rfl⟩) (hn : (fn.name == "runtime.NumGoroutine") = false := by kernel_rfl) (hb : fn.body.isNone = false := by kernel_rfl) : FSteps Try.prog ops Q V n a0 w0 i (K :: Ks) :=
 fsteps_cons j hj (fun a u hE hD hk => f_call f args.toArray ho (hg.want hD) (exec_call f fn xs ts args hf hn hb hop (hx a u hE hD hk).1 u) (hx a u hE hD hk).2) hr
theorem nW {K : Kn} (j : Nat) {o : Oper} (ho : ops[i]? = some o) (hx : ∀ a u, FEnv ops n a0 a → FDep ops V i a u → Kept w0 u → ∃ v w', (execOp a.eval o).run Try.prog u = .ok (.value v) w' ∧ K.p v w' ∧ Kept u w') (hr : FSteps Try.prog ops Q V n a0 w0 j Ks)
  (hj : j = i + 1 := by rfl) (hg : GOk ops V i o := by first | exact Or.inl rfl | exact Or.inr ⟨_, _, _, rfl, rfl, rfl, by kernel_rfl⟩) : FSteps Try.prog ops Q V n a0 w0 i (K :: Ks) :=
 fsteps_cons j hj (fun a u hE hD hk => by
  obtain ⟨v, w', h1, h2, h3⟩ := hx a u hE hD hk
  exact f_new v w' ho (hg.want hD) h1 h2 h3) hr
theorem lD {T : TypeId} {ad : Addr} (j t m : Nat) (hu : Try.prog.underlying T = some (.int .i64)) (hc : ∀ u, Kept w0 u → u.cell? ad = some v) (hr : FSteps Try.prog ops Q V n a0 w0 j Ks) {o : Oper} (ho : ops[i]? = some o := by rfl) (hp : o.op = .load T (.tmp t) := by rfl)
  (hj : j = i + 1 := by rfl) (hg : GOk ops V i o := by first | exact Or.inl rfl | exact Or.inr ⟨_, _, _, rfl, rfl, rfl, by kernel_rfl⟩) (hV : V[m]? = some (.eq (.pointer (some ad))) := by kernel_rfl) (hd : (((ops[i]?).map fun o => o.after.any fun e => Region.binds .any e && e.on == m) == some true && dstOf ops m == some t) = true := by kernel_rfl) : FSteps Try.prog ops Q V n a0 w0 i (Kn.eq v :: Ks) :=
 sW j ho (fun a u hE hD hk => by
  have h := hD m t hd
  rw [kn_eq hV] at h
  exact exec_loadi T hu (.tmp t) ad v hp h (hc u hk)) hr hj hg
theorem sD {T : TypeId} {fs : Array Field} {g off : Nat} (j t m : Nat) (cs : List Value) (hu : Try.prog.underlying T = some (.struct fs)) (hc : ∀ u, Kept w0 u → u.rangeAt g off cs) (hi : (Try.prog.info? T).map (·.size) = some cs.length) (hr : FSteps Try.prog ops Q V n a0 w0 j Ks) {o : Oper} (ho : ops[i]? = some o := by rfl) (hp : o.op = .load T (.tmp t) := by rfl)
  (hj : j = i + 1 := by rfl) (hg : GOk ops V i o := by first | exact Or.inl rfl | exact Or.inr ⟨_, _, _, rfl, rfl, rfl, by kernel_rfl⟩) (hV : V[m]? = some (.eq (.pointer (some ⟨g, off, none⟩))) := by kernel_rfl) (hd : (((ops[i]?).map fun o => o.after.any fun e => Region.binds .any e && e.on == m) == some true && dstOf ops m == some t) = true := by kernel_rfl) (hv : v = .agg cs.toArray := by rfl) : FSteps Try.prog ops Q V n a0 w0 i (Kn.eq v :: Ks) :=
 sW j ho (fun a u hE hD hk => by
  have h := hD m t hd
  rw [kn_eq hV] at h
  subst hv
  exact exec_ldS T fs (.tmp t) g off cs hp h (hc u hk) hu hi) hr hj hg
theorem sE {T : TypeId} {fs : Array Field} (j t g off : Nat) (cs : List Value) (hu : Try.prog.underlying T = some (.struct fs)) (hc : ∀ u, Kept w0 u → u.rangeAt g off cs) (hi : (Try.prog.info? T).map (·.size) = some cs.length) (hr : FSteps Try.prog ops Q V n a0 w0 j Ks) {o : Oper} (ho : ops[i]? = some o := by rfl) (hp : o.op = .load T (.tmp t) := by rfl)
  (hj : j = i + 1 := by rfl) (hg : GOk ops V i o := by first | exact Or.inl rfl | exact Or.inr ⟨_, _, _, rfl, rfl, rfl, by kernel_rfl⟩) (h1 : ((List.range n).all fun i => dstOf ops i != some t) = true := by kernel_rfl) (h2 : a0.eval (.tmp t) = .pointer (some ⟨g, off, none⟩) := by kernel_rfl) (hv : v = .agg cs.toArray := by rfl) : FSteps Try.prog ops Q V n a0 w0 i (Kn.eq v :: Ks) :=
 sW j ho (fun a u hE hD hk => by
  subst hv
  exact exec_ldS T fs (.tmp t) g off cs hp (hE t _ h1 h2) (hc u hk) hu hi) hr hj hg
theorem pT {y : Operand} (j c x m k : Nat) (hr : FSteps Try.prog ops Q V n a0 w0 j Ks) {o : Oper} (ho : ops[i]? = some o := by rfl) (hp : o.op = .pick (.tmp c) (.tmp x) y := by rfl)
  (hj : j = i + 1 := by rfl) (hg : GOk ops V i o := by first | exact Or.inl rfl | exact Or.inr ⟨_, _, _, rfl, rfl, rfl, by kernel_rfl⟩) (hV : V[m]? = some (.eq (.bool true)) := by kernel_rfl) (hW : V[k]? = some (.eq v) := by kernel_rfl) (hd : (((ops[i]?).map fun o => o.after.any fun e => Region.binds .any e && e.on == m) == some true && dstOf ops m == some c) = true := by kernel_rfl) (he : (((ops[i]?).map fun o => o.after.any fun e => Region.binds .any e && e.on == k) == some true && dstOf ops k == some x) = true := by kernel_rfl) : FSteps Try.prog ops Q V n a0 w0 i (Kn.eq v :: Ks) :=
 sW j ho (fun a u hE hD hk => by
  have h := hD m c hd
  have h2 := hD k x he
  rw [kn_eq hV] at h
  rw [kn_eq hW] at h2
  exact exec_pick (.tmp c) (.tmp x) y v hp h h2) hr hj hg
theorem pF {x y : Operand} (j c m : Nat) (hr : FSteps Try.prog ops Q V n a0 w0 j Ks) {o : Oper} (ho : ops[i]? = some o := by rfl) (hp : o.op = .pick (.tmp c) x y := by rfl)
  (hj : j = i + 1 := by rfl) (hg : GOk ops V i o := by first | exact Or.inl rfl | exact Or.inr ⟨_, _, _, rfl, rfl, rfl, by kernel_rfl⟩) (hV : V[m]? = some (.eq (.bool false)) := by kernel_rfl) (hy : y = .const v := by rfl) (hd : (((ops[i]?).map fun o => o.after.any fun e => Region.binds .any e && e.on == m) == some true && dstOf ops m == some c) = true := by kernel_rfl) : FSteps Try.prog ops Q V n a0 w0 i (Kn.eq v :: Ks) :=
 sW j ho (fun a u hE hD hk => by
  have h := hD m c hd
  rw [kn_eq hV] at h
  subst hy
  exact exec_pickF (.tmp c) x (.const v) v hp h rfl) hr hj hg
theorem gQ {g : Nat → Value} (h : FVals ops V g u) (i d : Nat) (c : Value) (h1 : (decide (i < V.length) && dstOf ops i == some d) = true := by kernel_rfl) (h2 : knOf V i = .eq c := by kernel_rfl) : g d = c := by
 have h3 := h i d h1
 rw [h2] at h3
 exact h3
end
theorem Fz7 : (∀ {α β : Type} {f : β → α → β} {a : α} {l : List α} {b : β}, (a :: l).foldl f b = l.foldl f (f b a)) ∧ (∀ {α β : Type} {f : β → α → β} {b : β}, ([] : List α).foldl f b = b) ∧ (∀ {α : Type} (l : List α) (i : Nat) (a : α), l.toArray.setIfInBounds i a = (l.set i a).toArray) ∧ (∀ {α : Type} {a : α} {l : List α} {n : Nat} {b : α}, (a :: l).set (n + 1) b = a :: l.set n b) ∧ (∀ {α : Type} {a : α} {l : List α} {b : α}, (a :: l).set 0 b = b :: l) ∧ (∀ {α : Type} {a : α} {l : List α} {n : Nat}, (a :: l).drop (n + 1) = l.drop n) ∧ ∀ {α : Type} {l : List α}, l.drop 0 = l :=
 ⟨rfl, rfl, fun l i a => by simp only [List.setIfInBounds_toArray], rfl, rfl, rfl, rfl⟩
theorem wT {id : Nat} {Q : Exit → Act → World → Prop} {a : Act} {w : World} {l : List Oper} (n : Nat) (V : List Kn) (ds : List Nat) (hs : FSteps Try.prog l.toArray Q V n a w 0 V)
  (hf : ∀ (g : Nat → Value) w', FVals l.toArray V g w' → Kept w w' → Q .normal ⟨ds.foldl (fun t d => t.setIfInBounds d (g d)) a.tmps, a.defers⟩ w') (hV : V.length = n := by rfl) (hB : textB l.toArray n a.tmps.size = true := by kernel_rfl) (hd : dstsOf l.toArray n = ds := by kernel_rfl) (hl : l.length = n := by rfl) : (Code.region id l.toArray false).wp Try.prog Q a w :=
 wp_text n V hV hB hs (fun g w' h1 h2 => by
  rw [hd, List.drop_of_length_le (by omega)]
  exact wpList_nil (hf g w' h1 h2))
theorem wF {id : Nat} {Q : Exit → Act → World → Prop} {a : Act} {w : World} {l : List Oper} (n : Nat) (V : List Kn) (ds : List Nat) (hs : FSteps Try.prog l.toArray Q V n a w 0 V)
  (hf : ∀ (g : Nat → Value) w', FVals l.toArray V g w' → Kept w w' → Q .normal ⟨ds.foldl (fun t d => t.setIfInBounds d (g d)) a.tmps, a.defers⟩ w') (hm : Try.prog.follows Departure.mixedOrders = true := by kernel_rfl) (hV : V.length = n := by rfl) (hB : freeB l.toArray n a.tmps.size = true := by kernel_rfl) (hd : dstsOf l.toArray n = ds := by kernel_rfl) (hl : l.length = n := by rfl) : (Code.region id l.toArray true).wp Try.prog Q a w :=
 wp_free n V hm hV hB hs (fun g w' h1 h2 => by
  rw [hd, List.drop_of_length_le (by omega)]
  exact wpList_nil (hf g w' h1 h2))
theorem dq {ops : Array Oper} (n : Nat) (l : List Nat) (h : dstsOf ops n = l := by kernel_rfl) : dstsOf ops n = l := h
theorem fz {ops : Array Oper} {Q : Exit → Act → World → Prop} {V : List Kn} {n i : Nat} {a0 : Act} {w0 : World} : FSteps Try.prog ops Q V n a0 w0 i [] := fsteps_nil
abbrev pE (g o : Nat) : Kn := .eq (.pointer (some ⟨g, o, none⟩))
abbrev iE (x : Int) : Kn := .eq (.int .i64 x)
abbrev bE (b : Bool) : Kn := .eq (.bool b)
abbrev uE : Kn := .eq undef
def fr : List Nat → List Value → Array Value → Array Value
 | d :: ds, v :: vs, t => fr ds vs (t.setIfInBounds d v)
 | _, _, t => t
theorem fr_eq (g : Nat → Value) : ∀ (ds : List Nat) (vs : List Value) (t : Array Value), ds.length = vs.length → (∀ (i d : Nat) (v : Value), ds[i]? = some d → vs[i]? = some v → g d = v) → ds.foldl (fun t d => t.setIfInBounds d (g d)) t = fr ds vs t
 | [], [], t, _, _ => rfl
 | d :: ds, v :: vs, t, hl, h => by
  have h0 : g d = v := h 0 d v rfl rfl
  show ds.foldl (fun t d => t.setIfInBounds d (g d)) (t.setIfInBounds d (g d)) = fr ds vs (t.setIfInBounds d v)
  rw [h0]
  exact fr_eq g ds vs _ (by simpa using hl) (fun i d' v' h1 h2 => h (i + 1) d' v' (by simpa using h1) (by simpa using h2))
theorem fr_vals {ops : Array Oper} {n : Nat} {vs : List Value} {ds : List Nat} {g : Nat → Value} {u : World} (hV : vs.length = n) (hd : (List.range n).map (dstOf ops) = ds.map some) (h : FVals ops (vs.map Kn.eq) g u) (t : Array Value) : dstsOf ops n = ds ∧ ds.foldl (fun t d => t.setIfInBounds d (g d)) t = fr ds vs t := by
 have hl : ds.length = n := by have := congrArg List.length hd; simpa using this.symm
 refine ⟨?_, fr_eq g ds vs t (by omega) (fun i d v h1 h2 => ?_)⟩
 ·have h3 : dstsOf ops n = ((List.range n).map (dstOf ops)).filterMap id := by
   simp only [dstsOf, List.filterMap_map, Function.id_comp]
  rw [h3, hd]
  simp
 ·have hi : i < n := by have := (List.getElem?_eq_some_iff.1 h2).1; omega
  have h4 : dstOf ops i = some d := by
   have := congrArg (fun l => l[i]?) hd
   simp only [List.getElem?_map, List.getElem?_range hi, h1, Option.map_some] at this
   simpa using this
  have h5 := h i d (by simp [h4, hV, hi])
  have h6 : knOf (vs.map Kn.eq) i = .eq v := by simp [knOf, List.getD, h2]
  rw [h6] at h5
  exact h5
theorem wEp {id : Nat} {Q : Exit → Act → World → Prop} {a : Act} {w : World} {l : List Oper} (n : Nat) (vs : List Value) (ds : List Nat) (hs : FSteps Try.prog l.toArray Q (vs.map Kn.eq) n a w 0 (vs.map Kn.eq))
  (hf : ∀ w', Kept w w' → wpList Try.prog l.toArray Q (l.drop n) ⟨fr ds vs a.tmps, a.defers⟩ w') (hV : vs.length = n := by rfl) (hB : textB l.toArray n a.tmps.size = true := by kernel_rfl) (hd : (List.range n).map (dstOf l.toArray) = ds.map some := by kernel_rfl) : (Code.region id l.toArray false).wp Try.prog Q a w :=
 wp_text n _ (by simpa using hV) hB hs (fun g w' h1 h2 => by
  have h3 := fr_vals hV hd h1 a.tmps
  rw [h3.1, h3.2]
  exact hf w' h2)
theorem wE {id : Nat} {Q : Exit → Act → World → Prop} {a : Act} {w : World} {l : List Oper} (n : Nat) (vs : List Value) (ds : List Nat) (hs : FSteps Try.prog l.toArray Q (vs.map Kn.eq) n a w 0 (vs.map Kn.eq))
  (hf : ∀ w', Kept w w' → Q .normal ⟨fr ds vs a.tmps, a.defers⟩ w') (hV : vs.length = n := by rfl) (hB : textB l.toArray n a.tmps.size = true := by kernel_rfl) (hd : (List.range n).map (dstOf l.toArray) = ds.map some := by kernel_rfl) (hl : l.length = n := by rfl) : (Code.region id l.toArray false).wp Try.prog Q a w :=
 wEp n vs ds hs (fun w' h => by
  rw [List.drop_of_length_le (by omega)]
  exact wpList_nil (hf w' h)) hV hB hd
theorem wGp {id : Nat} {Q : Exit → Act → World → Prop} {a : Act} {w : World} {l : List Oper} (n : Nat) (vs : List Value) (ds : List Nat) (hs : FSteps Try.prog l.toArray Q (vs.map Kn.eq) n a w 0 (vs.map Kn.eq))
  (hf : ∀ w', Kept w w' → wpList Try.prog l.toArray Q (l.drop n) ⟨fr ds vs a.tmps, a.defers⟩ w') (hV : vs.length = n := by rfl) (hm : Try.prog.follows Departure.mixedOrders = true := by kernel_rfl) (hB : freeB l.toArray n a.tmps.size = true := by kernel_rfl) (hd : (List.range n).map (dstOf l.toArray) = ds.map some := by kernel_rfl) : (Code.region id l.toArray true).wp Try.prog Q a w :=
 wp_free n _ hm (by simpa using hV) hB hs (fun g w' h1 h2 => by
  have h3 := fr_vals hV hd h1 a.tmps
  rw [h3.1, h3.2]
  exact hf w' h2)
theorem wG {id : Nat} {Q : Exit → Act → World → Prop} {a : Act} {w : World} {l : List Oper} (n : Nat) (vs : List Value) (ds : List Nat) (hs : FSteps Try.prog l.toArray Q (vs.map Kn.eq) n a w 0 (vs.map Kn.eq))
  (hf : ∀ w', Kept w w' → Q .normal ⟨fr ds vs a.tmps, a.defers⟩ w') (hV : vs.length = n := by rfl) (hm : Try.prog.follows Departure.mixedOrders = true := by kernel_rfl) (hB : freeB l.toArray n a.tmps.size = true := by kernel_rfl) (hd : (List.range n).map (dstOf l.toArray) = ds.map some := by kernel_rfl) (hl : l.length = n := by rfl) : (Code.region id l.toArray true).wp Try.prog Q a w :=
 wGp n vs ds hs (fun w' h => by
  rw [List.drop_of_length_le (by omega)]
  exact wpList_nil (hf w' h)) hV hm hB hd
inductive KV where
 | v (x : Value)
 | k (K : Kn)
def KV.val : KV → Option Value
 | .v x => some x
 | .k _ => none
section
variable {ops : Array Oper} {Q : Exit → Act → World → Prop} {V : List KV} {n i : Nat} {a0 a : Act} {w0 u : World} {v : Value}
end
section
variable {id : Nat} {Q : Exit → Act → World → Prop} {a : Act} {w : World} {l : List Oper}
end
section
variable {ops : Array Oper} {Q : Exit → Act → World → Prop} {V : List Kn} {n i : Nat} {a0 : Act} {w0 : World} {K : Kn}
end
section
variable {id : Nat} {Q : Exit → Act → World → Prop} {a : Act} {w : World} {l : List Oper}
end
section
variable {ops : Array Oper} {Q : Exit → Act → World → Prop} {a : Act} {w : World} {o : Oper} {rest : List Oper}
end
theorem F8 : (∀ {d : Nat} {ds : List Nat} {v : Value} {vs : List Value} {t : Array Value}, fr (d :: ds) (v :: vs) t = fr ds vs (t.setIfInBounds d v)) ∧ (∀ {t : Array Value}, fr [] [] t = t) ∧ (∀ {α : Type} (l : List α) (i : Nat) (a : α), l.toArray.setIfInBounds i a = (l.set i a).toArray) ∧ (∀ {α : Type} {a : α} {l : List α} {n : Nat} {b : α}, (a :: l).set (n + 1) b = a :: l.set n b) ∧ (∀ {α : Type} {a : α} {l : List α} {b : α}, (a :: l).set 0 b = b :: l) ∧ (∀ {α : Type} {a : α} {l : List α} {n : Nat}, (a :: l).drop (n + 1) = l.drop n) ∧ ∀ {α : Type} {l : List α}, l.drop 0 = l :=
 ⟨rfl, rfl, fun l i a => by simp only [List.setIfInBounds_toArray], rfl, rfl, rfl, rfl⟩
abbrev pV (g o : Nat) : Value := .pointer (some ⟨g, o, none⟩)
abbrev iV (x : Int) : Value := .int .i64 x
abbrev bV (b : Bool) : Value := .bool b
def mn (p q : Int) : Int := if q < p then q else p
theorem mn_le (p q : Int) : mn p q ≤ p ∧ mn p q ≤ q := by unfold mn; split <;> omega
theorem mn_pos (p q : Int) (h1 : 0 < p) (h2 : 0 < q) : 0 < mn p q := by unfold mn; split <;> omega
def Ord.tip (o : Ord) : Int := if 0 < o.shw then mn o.shw o.qty else o.qty
def Ent.of (o : Ord) : Ent := ⟨o, o.tip⟩
def Ord.q (o : Ord) (n : Int) : Ord := { o with qty := n }
def Ent.sub (e : Ent) (n : Int) : Ent := ⟨e.o.q (e.o.qty - n), e.n - n⟩
def nextM (e : Ent) (n : Int) (R : List Ent) : List Ent :=
 if e.o.qty - n = 0 then R else if e.n - n = 0 then R ++ [Ent.of (e.sub n).o] else e.sub n :: R
def takeM (firm q : Int) (X : List Ent) : List Ent × Bool × List Ent :=
 match X with
 | [] => ([], false, [])
 | e :: R =>
  if h : 0 < q ∧ 0 < e.n then
   if e.o.firm = firm then ([], true, e :: R)
   else
    let r := takeM firm (q - mn q e.n) (nextM e (mn q e.n) R)
    (⟨e.o, mn q e.n⟩ :: r.1, r.2.1, r.2.2)
  else ([], false, e :: R)
termination_by q.toNat
decreasing_by
 have := mn_pos q e.n h.1 h.2
 have := (mn_le q e.n).1
 omega
theorem takeM_nil (firm q : Int) : takeM firm q [] = ([], false, []) := by rw [takeM]
theorem takeM_zero (firm q : Int) (X : List Ent) (h : q ≤ 0) : takeM firm q X = ([], false, X) := by
 cases X with
 | nil => exact takeM_nil _ _
 | cons e R => rw [takeM, dif_neg (by omega)]
theorem takeM_own (firm q : Int) (e : Ent) (R : List Ent) (h : 0 < q) (hn : 0 < e.n) (hf : e.o.firm = firm) : takeM firm q (e :: R) = ([], true, e :: R) := by rw [takeM, dif_pos ⟨h, hn⟩, if_pos hf]
theorem takeM_go (firm q : Int) (e : Ent) (R : List Ent) (h : 0 < q) (hn : 0 < e.n) (hf : e.o.firm ≠ firm) : takeM firm q (e :: R) =
  (⟨e.o, mn q e.n⟩ :: (takeM firm (q - mn q e.n) (nextM e (mn q e.n) R)).1, (takeM firm (q - mn q e.n) (nextM e (mn q e.n) R)).2.1, (takeM firm (q - mn q e.n) (nextM e (mn q e.n) R)).2.2) := by rw [takeM, dif_pos ⟨h, hn⟩, if_neg hf]
def sumI (l : List Int) : Int := l.foldr (· + ·) 0
theorem sumI_nil : sumI [] = 0 := rfl
theorem sumI_cons (x : Int) (l : List Int) : sumI (x :: l) = x + sumI l := rfl
theorem sumI_append (a b : List Int) : sumI (a ++ b) = sumI a + sumI b := by
 induction a with
 | nil => simp [sumI_nil]
 | cons x a ih => rw [List.cons_append, sumI_cons, sumI_cons, ih]; omega
def wholeM (X : List Ent) : Int := sumI (X.map fun e => e.o.qty)
def seenM (X : List Ent) : Int := sumI (X.map fun e => e.n)
theorem wholeM_cons (e : Ent) (X : List Ent) : wholeM (e :: X) = e.o.qty + wholeM X := rfl
theorem seenM_cons (e : Ent) (X : List Ent) : seenM (e :: X) = e.n + seenM X := rfl
theorem wholeM_append (X Y : List Ent) : wholeM (X ++ Y) = wholeM X + wholeM Y := by simp [wholeM, sumI_append]
theorem seenM_append (X Y : List Ent) : seenM (X ++ Y) = seenM X + seenM Y := by simp [seenM, sumI_append]
def Ent.ok (e : Ent) : Prop := 1 ≤ e.n ∧ e.n ≤ e.o.qty
structure Good (X : List Ent) : Prop where
 ok : ∀ e ∈ X, e.ok
 few : wholeM X ≤ 100000000
theorem whole_ge {X : List Ent} (h : ∀ e ∈ X, e.ok) : (X.length : Int) ≤ seenM X ∧ seenM X ≤ wholeM X := by
 induction X with
 | nil => exact ⟨by simp [seenM, sumI], by simp [seenM, wholeM, sumI]⟩
 | cons e X ih =>
  have h1 := ih (fun x hx => h x (by simp [hx]))
  have h2 := h e (by simp)
  unfold Ent.ok at h2
  rw [wholeM_cons, seenM_cons]
  simp only [List.length_cons]
  omega
theorem Good.len {X : List Ent} (h : Good X) : X.length ≤ 100000000 := by
 have := whole_ge h.ok
 have := h.few
 omega
theorem Good.bound {X : List Ent} (h : Good X) {e : Ent} (he : e ∈ X) : 1 ≤ e.n ∧ e.n ≤ e.o.qty ∧ e.o.qty ≤ 100000000 := by
 have h1 := h.ok e he
 unfold Ent.ok at h1
 refine ⟨h1.1, h1.2, ?_⟩
 obtain ⟨s, t, rfl⟩ := List.append_of_mem he
 have h2 := h.few
 rw [wholeM_append, wholeM_cons] at h2
 have h3 := whole_ge (X := s) (fun x hx => h.ok x (by simp [hx]))
 have h4 := whole_ge (X := t) (fun x hx => h.ok x (by simp [hx]))
 omega
theorem tip_ok (o : Ord) (h : 1 ≤ o.qty) : (Ent.of o).ok := by
 unfold Ent.ok Ent.of Ord.tip
 simp only
 by_cases h1 : 0 < o.shw
 ·rw [if_pos h1]
  have := mn_le o.shw o.qty
  have := mn_pos o.shw o.qty h1 (by omega)
  omega
 ·rw [if_neg h1]
  omega
theorem next_whole (e : Ent) (n : Int) (R : List Ent) : wholeM (nextM e n R) = e.o.qty - n + wholeM R := by
 unfold nextM
 split
 ·rename_i h; rw [h]; omega
 ·split
  ·rw [wholeM_append, wholeM_cons]
   simp [Ent.of, Ent.sub, Ord.q, wholeM, sumI]
   omega
  ·rw [wholeM_cons]
   simp [Ent.sub, Ord.q]
theorem next_good {e : Ent} {n : Int} {R : List Ent} (h : Good (e :: R)) (h1 : 1 ≤ n) (h2 : n ≤ e.n) : Good (nextM e n R) := by
 have hb := h.bound (e := e) (by simp)
 refine ⟨?_, ?_⟩
 ·intro x hx
  unfold nextM at hx
  split at hx
  ·exact h.ok x (by simp [hx])
  ·split at hx
   ·rcases List.mem_append.1 hx with hx | hx
    ·exact h.ok x (by simp [hx])
    ·simp at hx
     subst hx
     refine tip_ok _ ?_
     simp [Ent.sub, Ord.q]
     omega
   ·rcases List.mem_cons.1 hx with rfl | hx
    ·unfold Ent.ok
     simp only [Ent.sub, Ord.q]
     omega
    ·exact h.ok x (by simp [hx])
 ·rw [next_whole]
  have := h.few
  rw [wholeM_cons] at this
  omega
theorem takeM_facts (firm : Int) : ∀ (k : Nat) (q : Int) (X : List Ent), q.toNat ≤ k → Good X →
  Good (takeM firm q X).2.2 ∧ wholeM (takeM firm q X).2.2 = wholeM X - seenM (takeM firm q X).1 ∧ (∀ h ∈ (takeM firm q X).1, 1 ≤ h.n ∧ h.n ≤ h.o.qty ∧ h.o.firm ≠ firm ∧ h.o.qty ≤ 100000000)
  ∧ ((takeM firm q X).1.length : Int) ≤ seenM (takeM firm q X).1 ∧ (0 ≤ q → seenM (takeM firm q X).1 ≤ q) := by
 intro k
 induction k with
 | zero =>
  intro q X hk hX
  rw [takeM_zero firm q X (by omega)]
  exact ⟨hX, by simp [seenM, sumI], by simp, by simp [seenM, sumI], by simp [seenM, sumI]⟩
 | succ k ih =>
  intro q X hk hX
  by_cases hq : q ≤ 0
  ·rw [takeM_zero firm q X hq]
   exact ⟨hX, by simp [seenM, sumI], by simp, by simp [seenM, sumI], by simp [seenM, sumI]⟩
  ·cases X with
   | nil => rw [takeM_nil]; exact ⟨hX, by simp [seenM, sumI], by simp, by simp [seenM, sumI], (by intro h; simp [seenM, sumI]; try omega)⟩
   | cons e R =>
    have hb := hX.bound (e := e) (by simp)
    by_cases hf : e.o.firm = firm
    ·rw [takeM_own firm q e R (by omega) (by omega) hf]
     exact ⟨hX, by simp [seenM, sumI], by simp, by simp [seenM, sumI], (by intro h; simp [seenM, sumI]; try omega)⟩
    ·rw [takeM_go firm q e R (by omega) (by omega) hf]
     have h1 := mn_le q e.n
     have h2 := mn_pos q e.n (by omega) (by omega)
     obtain ⟨i1, i2, i3, i4, i5⟩ := ih (q - mn q e.n) (nextM e (mn q e.n) R) (by omega) (next_good hX (by omega) h1.2)
     refine ⟨i1, ?_, ?_, ?_, fun _ => ?_⟩
     ·simp only
      rw [i2, next_whole, seenM_cons, wholeM_cons]
      simp only
      omega
     ·intro h hh
      rcases List.mem_cons.1 hh with rfl | hh
      ·exact ⟨by simp only; omega, by simp only; omega, hf, hb.2.2⟩
      ·exact i3 h hh
     ·simp only [List.length_cons, seenM_cons]
      omega
     ·simp only [seenM_cons]
      have := i5 (by omega)
      omega
def Ent.is (t i : Int) (e : Ent) : Bool := decide (e.o.tr = t) && decide (e.o.id = i)
def idxM (t i : Int) (X : List Ent) : Nat := X.findIdx (Ent.is t i)
def placeM (t i : Int) (X : List Ent) : Int := if idxM t i X < X.length then (idxM t i X : Int) else -1
theorem idx_of {t i : Int} {X : List Ent} {k : Nat} {e : Ent} (h : ∀ (j : Nat) (x : Ent), j < k → X[j]? = some x → x.is t i = false) (he : X[k]? = some e) (hm : e.is t i = true) : idxM t i X = k := by
 unfold idxM
 obtain ⟨hk, rfl⟩ := List.getElem?_eq_some_iff.1 he
 rw [List.findIdx_eq hk]
 refine ⟨hm, fun j hj => ?_⟩
 exact h j _ hj (List.getElem?_eq_getElem (by omega))
theorem idx_none {t i : Int} {X : List Ent} (h : ∀ (j : Nat) (x : Ent), j < X.length → X[j]? = some x → x.is t i = false) : idxM t i X = X.length := by
 unfold idxM
 apply List.findIdx_eq_length.2
 intro x hx
 obtain ⟨j, hj, rfl⟩ := List.getElem_of_mem hx
 exact h j _ hj (List.getElem?_eq_getElem hj)
theorem idx_is {t i : Int} {X : List Ent} (h : idxM t i X < X.length) : ∃ e, X[idxM t i X]? = some e ∧ e.is t i = true := ⟨_, List.getElem?_eq_getElem h, List.findIdx_getElem⟩
def lessM (t i q : Int) (X : List Ent) : Bool × List Ent :=
 match X[idxM t i X]? with
 | none => (false, X)
 | some e => if 1 ≤ q ∧ q ≤ e.o.qty then (true, X.set (idxM t i X) ⟨e.o.q q, mn e.n q⟩) else (false, X)
def removeM (t i : Int) (X : List Ent) : Ord × Bool × List Ent :=
 match X[idxM t i X]? with
 | none => (zeroO, false, X)
 | some e => (e.o, true, X.eraseIdx (idxM t i X))
def Shy (X : List Ent) : Prop := ∀ e ∈ X, 0 < e.o.shw → e.n ≤ e.o.shw
theorem tip_shy (o : Ord) : 0 < (Ent.of o).o.shw → (Ent.of o).n ≤ (Ent.of o).o.shw := by
 intro h
 unfold Ent.of at h ⊢
 simp only at h ⊢
 unfold Ord.tip
 rw [if_pos h]
 exact (mn_le _ _).1
theorem next_mem {e : Ent} {n : Int} {R : List Ent} {x : Ent} (hx : x ∈ nextM e n R) : x ∈ R ∨ x = Ent.of (e.sub n).o ∨ x = e.sub n := by
 unfold nextM at hx
 split at hx
 ·exact .inl hx
 ·split at hx
  ·rcases List.mem_append.1 hx with hx | hx
   ·exact .inl hx
   ·exact .inr (.inl (by simpa using hx))
  ·rcases List.mem_cons.1 hx with hx | hx
   ·exact .inr (.inr hx)
   ·exact .inl hx
theorem next_shy {e : Ent} {n : Int} {R : List Ent} (h : Shy (e :: R)) (h1 : 0 ≤ n) : Shy (nextM e n R) := by
 intro x hx hs
 rcases next_mem hx with hx | rfl | rfl
 ·exact h x (by simp [hx]) hs
 ·exact tip_shy _ hs
 ·have := h e (by simp) hs
  simp only [Ent.sub, Ord.q] at hs ⊢
  omega
theorem takeM_end (firm : Int) : ∀ (k : Nat) (q : Int) (X : List Ent), q.toNat ≤ k → 0 ≤ q → Good X → Shy X →
  (∀ h ∈ (takeM firm q X).1, 0 < h.o.shw → h.n ≤ h.o.shw) ∧
  ((takeM firm q X).2.1 = true → ∃ e R, (takeM firm q X).2.2 = e :: R ∧ e.o.firm = firm ∧ seenM (takeM firm q X).1 < q) ∧
  ((takeM firm q X).2.1 = false → seenM (takeM firm q X).1 = q ∨ (takeM firm q X).2.2 = []) := by
 intro k
 induction k with
 | zero =>
  intro q X hk hq hX hS
  rw [takeM_zero firm q X (by omega)]
  exact ⟨by simp, by simp, fun _ => .inl (by simp [seenM, sumI]; omega)⟩
 | succ k ih =>
  intro q X hk hq0 hX hS
  by_cases hq : q ≤ 0
  ·rw [takeM_zero firm q X hq]
   exact ⟨by simp, by simp, fun _ => .inl (by simp [seenM, sumI]; omega)⟩
  ·cases X with
   | nil => rw [takeM_nil]; exact ⟨by simp, by simp, fun _ => .inr rfl⟩
   | cons e R =>
    have hb := hX.bound (e := e) (by simp)
    by_cases hf : e.o.firm = firm
    ·rw [takeM_own firm q e R (by omega) (by omega) hf]
     exact ⟨by simp, fun _ => ⟨e, R, rfl, hf, by simp [seenM, sumI]; omega⟩, by simp⟩
    ·rw [takeM_go firm q e R (by omega) (by omega) hf]
     have h1 := mn_le q e.n
     have h2 := mn_pos q e.n (by omega) (by omega)
     obtain ⟨i1, i2, i3⟩ := ih (q - mn q e.n) (nextM e (mn q e.n) R) (by omega) (by omega) (next_good hX (by omega) h1.2) (next_shy hS (by omega))
     refine ⟨?_, fun h => ?_, fun h => ?_⟩
     ·intro h hh hs
      rcases List.mem_cons.1 hh with rfl | hh
      ·have := hS e (by simp) hs
       simp only
       omega
      ·exact i1 h hh hs
     ·obtain ⟨e', R', q1, q2, q3⟩ := i2 h
      refine ⟨e', R', q1, q2, ?_⟩
      simp only [seenM_cons]
      omega
     ·rcases i3 h with h | h
      ·left
       simp only [seenM_cons]
       omega
      ·exact .inr h
def Ent.key (e : Ent) : Int × Int := (e.o.tr, e.o.id)
theorem is_key {t i : Int} {e : Ent} : e.is t i = true ↔ e.key = (t, i) := by
 unfold Ent.is Ent.key
 simp
abbrev Lev := Int × List Ent
structure Fl where
 mk_ : Ord
 tk : Ord
 price : Int
 qty : Int
 no : Int
deriving DecidableEq
structure Bok where
 buys : List Lev
 sells : List Lev
 last : Int
 no : Int
def Bok.sd (B : Bok) (s : Int) : List Lev := if s = 1 then B.buys else if s = 2 then B.sells else []
def Bok.put (B : Bok) (s : Int) (L : List Lev) : Bok := if s = 1 then { B with buys := L } else if s = 2 then { B with sells := L } else B
def entL (L : List Lev) : List Ent := L.flatMap (·.2)
theorem entL_nil : entL [] = [] := rfl
theorem entL_cons (l : Lev) (L : List Lev) : entL (l :: L) = l.2 ++ entL L := rfl
theorem entL_append (L M : List Lev) : entL (L ++ M) = entL L ++ entL M := by simp [entL]
def Bok.all (B : Bok) : List Ent := entL B.buys ++ entL B.sells
def Bok.len (B : Bok) : Nat := B.all.length
def fillsOf (o : Ord) (pr : Int) : Int → Int → List Ent → List Fl
 | no, q, [] => []
 | no, q, h :: H => ⟨h.o, o.q q, pr, h.n, no + 1⟩ :: fillsOf o pr (no + 1) (q - h.n) H
theorem fillsOf_len (o : Ord) (pr : Int) : ∀ (H : List Ent) (no q : Int), (fillsOf o pr no q H).length = H.length
 | [], no, q => rfl
 | h :: H, no, q => by simp [fillsOf, fillsOf_len o pr H]
theorem fillsOf_append (o : Ord) (pr : Int) : ∀ (H J : List Ent) (no q : Int), fillsOf o pr no q (H ++ J) = fillsOf o pr no q H ++ fillsOf o pr (no + H.length) (q - seenM H) J
 | [], J, no, q => by simp [fillsOf, seenM, sumI]
 | h :: H, J, no, q => by
  rw [List.cons_append, fillsOf, fillsOf, fillsOf_append o pr H J, List.cons_append, seenM_cons]
  have e1 : no + 1 + (H.length : Int) = no + ((h :: H).length : Int) := by simp only [List.length_cons]; omega
  have e2 : q - h.n - seenM H = q - (h.n + seenM H) := by omega
  rw [e1, e2]
structure Mt where
 f : List Fl
 left : Int
 self : Bool
 L : List Lev
def matchM (o : Ord) : Int → Int → List Lev → Mt
 | no, q, [] => ⟨[], q, false, []⟩
 | no, q, l :: R =>
  if 0 < q ∧ o.crosses l.1 = true then
   if (takeM o.firm q l.2).2.2.isEmpty = true then
    let r := matchM o (no + (takeM o.firm q l.2).1.length) (q - seenM (takeM o.firm q l.2).1) R
    ⟨fillsOf o l.1 no q (takeM o.firm q l.2).1 ++ r.f, r.left, r.self, r.L⟩
   else ⟨fillsOf o l.1 no q (takeM o.firm q l.2).1, q - seenM (takeM o.firm q l.2).1, (takeM o.firm q l.2).2.1, (l.1, (takeM o.firm q l.2).2.2) :: R⟩
  else ⟨[], q, false, l :: R⟩
def restM (o : Ord) : List Lev → List Lev
 | [] => [(o.price, [Ent.of o])]
 | l :: R => if bet o.side l.1 o.price = true then l :: restM o R else if l.1 = o.price then (l.1, l.2 ++ [Ent.of o]) :: R else (o.price, [Ent.of o]) :: l :: R
def removeL (t i : Int) : List Lev → Ord × Bool × List Lev
 | [] => (zeroO, false, [])
 | l :: R => if (removeM t i l.2).2.1 = true then ((removeM t i l.2).1, true, if (removeM t i l.2).2.2.isEmpty = true then R else (l.1, (removeM t i l.2).2.2) :: R)
  else ((removeL t i R).1, (removeL t i R).2.1, l :: (removeL t i R).2.2)
def lessL (t i q : Int) : List Lev → Bool × List Lev
 | [] => (false, [])
 | l :: R => if (lessM t i q l.2).1 = true then (true, (l.1, (lessM t i q l.2).2) :: R) else ((lessL t i q R).1, l :: (lessL t i q R).2)
def Bok.remove (B : Bok) (t i : Int) : Ord × Bool × Bok :=
 if (removeL t i B.buys).2.1 = true then ((removeL t i B.buys).1, true, { B with buys := (removeL t i B.buys).2.2 })
 else if (removeL t i B.sells).2.1 = true then ((removeL t i B.sells).1, true, { B with sells := (removeL t i B.sells).2.2 })
 else (zeroO, false, B)
def Bok.less (B : Bok) (t i q : Int) : Bool × Bok :=
 if (lessL t i q B.buys).1 = true then (true, { B with buys := (lessL t i q B.buys).2 })
 else if (lessL t i q B.sells).1 = true then (true, { B with sells := (lessL t i q B.sells).2 })
 else (false, B)
def findE (t i : Int) (X : List Ent) : Ord × Bool := match X[idxM t i X]? with
 | none => (zeroO, false)
 | some e => (e.o, true)
def Bok.find (B : Bok) (t i : Int) : Ord × Bool := findE t i B.all
def Bok.has (B : Bok) (t i : Int) : Bool := (B.find t i).2
def Ord.meets (o : Ord) (L : List Lev) : Bool := match L with
 | [] => false
 | l :: _ => o.crosses l.1
structure Oc where
 o : Ord
 f : List Fl
 left : Int
 rests : Bool
 self : Bool
 err : Int
def lastOf (p : Int) : List Fl → Int
 | [] => p
 | f :: F => lastOf f.price F
def Bok.matched (B : Bok) (o : Ord) : Mt := matchM o B.no o.qty (B.sd (3 - o.side))
def Bok.err (B : Bok) (o : Ord) : Int :=
 if ¬ (o.right = true ∧ o.stop = 0) then 1
 else if B.has o.tr o.id = true then 5
 else if (o.k = 1 ∨ o.k = 5) ∧ 64 ≤ B.len then 4
 else if o.k = 5 ∧ o.meets (B.sd (3 - o.side)) = true then 11
 else if o.k = 4 ∧ 0 < (B.matched o).left then 12
 else 0
def Bok.traded (B : Bok) (o : Ord) : Bok := { B.put (3 - o.side) (B.matched o).L with last := lastOf B.last (B.matched o).f, no := B.no + (B.matched o).f.length }
def Bok.stays (B : Bok) (o : Ord) : Bool := decide (0 < (B.matched o).left) && !(B.matched o).self && (decide (o.k = 1) || decide (o.k = 5))
def Ord.cut (o : Ord) (n : Int) : Ord := { o with qty := n, shw := mn o.shw n }
def Bok.add (B : Bok) (o : Ord) : Oc × Bok :=
 if B.err o ≠ 0 then (⟨o, [], o.qty, false, false, B.err o⟩, B)
 else (⟨o, (B.matched o).f, (B.matched o).left, B.stays o, (B.matched o).self, 0⟩,
  if B.stays o = true then (B.traded o).put o.side (restM (o.cut (B.matched o).left) ((B.traded o).sd o.side)) else B.traded o)
def ordsL (L : List Lev) : List Ord := (entL L).map (·.o)
def Bok.zero : Bok := ⟨[], [], 0, 0⟩
def Ord.stt (o : Ord) : Prop := (0 ≤ o.tr ∧ o.tr ≤ 31) ∧ (0 ≤ o.firm ∧ o.firm ≤ 7) ∧ (0 ≤ o.id ∧ o.id ≤ 1073741824) ∧ (o.k = 1 ∨ o.k = 5) ∧ (1 ≤ o.price ∧ o.price ≤ 1048576) ∧ o.stop = 0
structure Ent.At (s pr : Int) (e : Ent) : Prop where
 pos : 1 ≤ e.n
 le : e.n ≤ e.o.qty
 few : e.o.qty ≤ 1048576
 side : e.o.side = s
 price : e.o.price = pr
 shw0 : 0 ≤ e.o.shw
 shw : 0 < e.o.shw → e.n ≤ e.o.shw
 stt : e.o.stt
theorem tip_le (o : Ord) : 0 < o.shw → o.tip ≤ o.shw := fun h => by
 unfold Ord.tip
 rw [if_pos h]
 exact (mn_le _ _).1
theorem next_at {s pr : Int} {e : Ent} {n : Int} {R : List Ent} (h : ∀ x ∈ e :: R, x.At s pr) (h1 : 1 ≤ n) (h2 : n ≤ e.n) : ∀ x ∈ nextM e n R, x.At s pr := by
 have he := h e (by simp)
 obtain ⟨q1, q2, q3, q4, q5, q6, q7, q8⟩ := he
 intro x hx
 unfold nextM at hx
 split at hx
 ·exact h x (by simp [hx])
 ·rename_i hne
  split at hx
  ·rcases List.mem_append.1 hx with hx | hx
   ·exact h x (by simp [hx])
   ·simp at hx
    subst hx
    have ho := tip_ok (e.sub n).o (by simp [Ent.sub, Ord.q]; omega)
    unfold Ent.ok at ho
    exact ⟨ho.1, ho.2, by simp [Ent.of, Ent.sub, Ord.q]; omega, q4, q5, q6, fun hs => tip_le _ hs, q8⟩
  ·rcases List.mem_cons.1 hx with rfl | hx
   ·refine ⟨?_, ?_, ?_, q4, q5, q6, fun hs => ?_, q8⟩
    ·simp only [Ent.sub]; omega
    ·simp only [Ent.sub, Ord.q]; omega
    ·simp only [Ent.sub, Ord.q]; omega
    ·have := q7 hs
     simp only [Ent.sub, Ord.q] at hs ⊢
     omega
   ·exact h x (by simp [hx])
theorem takeM_ind (Pr : List Ent → Prop) (Ph : Ent → Prop) (firm : Int) (hst : ∀ e R n, 1 ≤ n → n ≤ e.n → Pr (e :: R) → Pr (nextM e n R)) (hh : ∀ e R n, 1 ≤ n → n ≤ e.n → Pr (e :: R) → e.o.firm ≠ firm → Ph ⟨e.o, n⟩) :
  ∀ (k : Nat) (q : Int) (X : List Ent), q.toNat ≤ k → Pr X → Pr (takeM firm q X).2.2 ∧ ∀ h ∈ (takeM firm q X).1, Ph h := by
 intro k
 induction k with
 | zero =>
  intro q X hk hX
  rw [takeM_zero firm q X (by omega)]
  exact ⟨hX, by simp⟩
 | succ k ih =>
  intro q X hk hX
  cases X with
  | nil => rw [takeM_nil]; exact ⟨hX, by simp⟩
  | cons e R =>
   by_cases hc : 0 < q ∧ 0 < e.n
   ·by_cases hf : e.o.firm = firm
    ·rw [takeM_own firm q e R hc.1 hc.2 hf]
     exact ⟨hX, by simp⟩
    ·rw [takeM_go firm q e R hc.1 hc.2 hf]
     have h1 := mn_le q e.n
     have h2 := mn_pos q e.n hc.1 hc.2
     obtain ⟨i1, i2⟩ := ih (q - mn q e.n) (nextM e (mn q e.n) R) (by omega) (hst e R _ (by omega) h1.2 hX)
     refine ⟨i1, fun h hm => ?_⟩
     rcases List.mem_cons.1 hm with rfl | hm
     ·exact hh e R _ (by omega) h1.2 hX hf
     ·exact i2 h hm
   ·rw [takeM, dif_neg hc]
    exact ⟨hX, by simp⟩
def cnt (k : Int × Int) (X : List Ent) : Nat := (X.map Ent.key).count k
theorem cnt_nil (k : Int × Int) : cnt k [] = 0 := rfl
theorem cnt_append (k : Int × Int) (X Y : List Ent) : cnt k (X ++ Y) = cnt k X + cnt k Y := by simp [cnt, List.count_append]
theorem cnt_cons (k : Int × Int) (e : Ent) (X : List Ent) : cnt k (e :: X) = cnt k X + (if e.key = k then 1 else 0) := by
 simp [cnt, List.count_cons]
theorem key_sub (e : Ent) (n : Int) : (e.sub n).key = e.key := rfl
theorem key_of (e : Ent) (n : Int) : (Ent.of (e.sub n).o).key = e.key := rfl
theorem next_cnt (k : Int × Int) (e : Ent) (n : Int) (R : List Ent) : cnt k (nextM e n R) ≤ cnt k (e :: R) := by
 rw [cnt_cons]
 unfold nextM
 split
 ·omega
 ·split
  ·rw [cnt_append, cnt_cons, cnt_nil, key_of]
   omega
  ·rw [cnt_cons, key_sub]
   omega
theorem next_len (e : Ent) (n : Int) (R : List Ent) : (nextM e n R).length ≤ R.length + 1 := by
 unfold nextM
 split
 ·omega
 ·split <;> simp
theorem take_cnt (firm q : Int) (X : List Ent) (k : Int × Int) : cnt k (takeM firm q X).2.2 ≤ cnt k X :=
 (takeM_ind (fun Y => cnt k Y ≤ cnt k X) (fun _ => True) firm (fun e R n _ _ h => Nat.le_trans (next_cnt k e n R) h) (fun _ _ _ _ _ _ _ => trivial) _ q X (Nat.le_refl _) (Nat.le_refl _)).1
theorem take_len (firm q : Int) (X : List Ent) : (takeM firm q X).2.2.length ≤ X.length :=
 (takeM_ind (fun Y => Y.length ≤ X.length) (fun _ => True) firm (fun e R n _ _ h => Nat.le_trans (next_len e n R) h) (fun _ _ _ _ _ _ _ => trivial) _ q X (Nat.le_refl _) (Nat.le_refl _)).1
structure Ent.Hit (s pr firm : Int) (h : Ent) : Prop where
 pos : 1 ≤ h.n
 le : h.n ≤ h.o.qty
 few : h.o.qty ≤ 1048576
 side : h.o.side = s
 price : h.o.price = pr
 firm : h.o.firm ≠ firm
theorem take_at {s pr : Int} (firm q : Int) {X : List Ent} (h : ∀ e ∈ X, e.At s pr) : (∀ e ∈ (takeM firm q X).2.2, e.At s pr) ∧ ∀ h ∈ (takeM firm q X).1, h.Hit s pr firm :=
 takeM_ind (fun Y => ∀ e ∈ Y, e.At s pr) (fun h => h.Hit s pr firm) firm (fun e R n h1 h2 h => next_at h h1 h2)
  (fun e R n h1 h2 h hf => by have := h e (by simp); exact ⟨h1, Int.le_trans h2 this.le, this.few, this.side, this.price, hf⟩) _ q X (Nat.le_refl _) h
theorem whole_at {s pr : Int} {X : List Ent} (h : ∀ e ∈ X, e.At s pr) : wholeM X ≤ 1048576 * X.length := by
 induction X with
 | nil => simp [wholeM, sumI]
 | cons e X ih =>
  have h1 := ih (fun x hx => h x (by simp [hx]))
  have h2 := (h e (by simp)).few
  rw [wholeM_cons]
  simp only [List.length_cons]
  omega
theorem good_at {s pr : Int} {X : List Ent} (h : ∀ e ∈ X, e.At s pr) (hl : X.length ≤ 64) : Good X ∧ Shy X :=
 ⟨⟨fun e he => ⟨(h e he).pos, (h e he).le⟩, by have := whole_at h; omega⟩, fun e he => (h e he).shw⟩
def Fresh (X : List Ent) : Prop := ∀ e ∈ X.tail, e.n = e.o.tip
theorem next_fresh {e : Ent} {n : Int} {R : List Ent} (h : Fresh (e :: R)) : Fresh (nextM e n R) := by
 unfold Fresh at *
 intro x hx
 unfold nextM at hx
 split at hx
 ·exact h x (List.mem_of_mem_tail hx)
 ·split at hx
  ·rcases List.mem_append.1 (List.mem_of_mem_tail hx) with hx | hx
   ·exact h x hx
   ·simp at hx
    subst hx
    rfl
  ·exact h x hx
theorem take_fresh (firm q : Int) {X : List Ent} (h : Fresh X) : Fresh (takeM firm q X).2.2 :=
 (takeM_ind Fresh (fun _ => True) firm (fun e R n _ _ h => next_fresh h) (fun _ _ _ _ _ _ _ => trivial) _ q X (Nat.le_refl _) h).1
theorem snoc_fresh {X : List Ent} (h : Fresh X) (o : Ord) : Fresh (X ++ [Ent.of o]) := by
 intro x hx
 cases X with
 | nil => simp at hx
 | cons e X =>
  rcases List.mem_append.1 (show x ∈ X ++ [Ent.of o] from hx) with hx | hx
  ·exact h x hx
  ·simp at hx
   subst hx
   rfl
theorem erase_fresh {X : List Ent} (h : Fresh X) (k : Nat) : Fresh (X.eraseIdx k) := by
 intro x hx
 cases X with
 | nil => simp at hx
 | cons e X =>
  cases k with
  | zero => exact h x (List.mem_of_mem_tail hx)
  | succ k => exact h x ((List.eraseIdx_sublist X k).subset hx)
theorem set_fresh {X : List Ent} (h : Fresh X) {k : Nat} {e : Ent} (he : X[k]? = some e) {q : Int} (h2 : q ≤ e.o.qty) : Fresh (X.set k ⟨e.o.q q, mn e.n q⟩) := by
 intro x hx
 cases X with
 | nil => simp at hx
 | cons y X =>
  cases k with
  | zero => exact h x hx
  | succ k =>
   rcases List.mem_or_eq_of_mem_set (show x ∈ X.set k _ from hx) with hx | rfl
   ·exact h x hx
   ·have := h e (List.mem_of_getElem? (show X[k]? = some e from he))
    simp only [this, Ord.tip, Ord.q, mn]
    repeat' split
    all_goals omega
structure Sid (s : Int) (L : List Lev) : Prop where
 fr : ∀ l ∈ L, Fresh l.2
 ne : ∀ l ∈ L, l.2 ≠ []
 at_ : ∀ l ∈ L, ∀ e ∈ l.2, e.At s l.1
 srt : L.Pairwise fun a b => bet s a.1 b.1 = true
 few : (entL L).length ≤ 64
theorem Sid.nil (s : Int) : Sid s [] := ⟨by simp, by simp, by simp, List.Pairwise.nil, by simp [entL]⟩
theorem Sid.tail {s : Int} {l : Lev} {L : List Lev} (h : Sid s (l :: L)) : Sid s L :=
 ⟨fun x hx => h.fr x (by simp [hx]), fun x hx => h.ne x (by simp [hx]), fun x hx => h.at_ x (by simp [hx]), (List.pairwise_cons.1 h.srt).2, by have := h.few; rw [entL_cons, List.length_append] at this; omega⟩
theorem Sid.good {s : Int} {l : Lev} {L : List Lev} (h : Sid s L) (hl : l ∈ L) : Good l.2 ∧ Shy l.2 := by
 refine good_at (h.at_ l hl) ?_
 obtain ⟨a, b, rfl⟩ := List.append_of_mem hl
 have := h.few
 rw [entL_append, entL_cons, List.length_append, List.length_append] at this
 omega
theorem Sid.with_ {s : Int} {l : Lev} {L : List Lev} (h : Sid s (l :: L)) {X : List Ent} (hn : X ≠ []) (ha : ∀ e ∈ X, e.At s l.1) (hl : X.length ≤ l.2.length) (hf : Fresh X) : Sid s ((l.1, X) :: L) := by
 refine ⟨?_, ?_, ?_, ?_, ?_⟩
 ·intro x hx
  rcases List.mem_cons.1 hx with rfl | hx
  ·exact hf
  ·exact h.fr x (by simp [hx])
 ·intro x hx
  rcases List.mem_cons.1 hx with rfl | hx
  ·exact hn
  ·exact h.ne x (by simp [hx])
 ·intro x hx
  rcases List.mem_cons.1 hx with rfl | hx
  ·exact ha
  ·exact h.at_ x (by simp [hx])
 ·rw [List.pairwise_cons]
  exact List.pairwise_cons.1 h.srt
 ·have := h.few
  rw [entL_cons, List.length_append] at this ⊢
  simp only
  omega
def wholeL (L : List Lev) : Int := wholeM (entL L)
theorem wholeL_cons (l : Lev) (L : List Lev) : wholeL (l :: L) = wholeM l.2 + wholeL L := by unfold wholeL; rw [entL_cons, wholeM_append]
theorem wholeL_nil : wholeL [] = 0 := rfl
def sumF (F : List Fl) : Int := sumI (F.map (·.qty))
theorem sumF_append (F G : List Fl) : sumF (F ++ G) = sumF F + sumF G := by simp [sumF, sumI_append]
theorem sumF_cons (f : Fl) (F : List Fl) : sumF (f :: F) = f.qty + sumF F := rfl
theorem sumF_nil : sumF [] = 0 := rfl
theorem fillsOf_sum (o : Ord) (pr : Int) : ∀ (H : List Ent) (no q : Int), sumF (fillsOf o pr no q H) = seenM H
 | [], no, q => rfl
 | h :: H, no, q => by rw [fillsOf, sumF_cons, fillsOf_sum o pr H, seenM_cons]
def Told (o : Ord) : Int → Int → List Fl → Prop
 | no, q, [] => True
 | no, q, f :: F => f.tk = o.q q ∧ f.no = no + 1 ∧ Told o (no + 1) (q - f.qty) F
theorem fillsOf_told (o : Ord) (pr : Int) : ∀ (H : List Ent) (no q : Int), Told o no q (fillsOf o pr no q H)
 | [], no, q => trivial
 | h :: H, no, q => ⟨rfl, rfl, fillsOf_told o pr H _ _⟩
theorem Told.append {o : Ord} : ∀ {F G : List Fl} {no q : Int}, Told o no q F → Told o (no + F.length) (q - sumF F) G → Told o no q (F ++ G)
 | [], G, no, q, _, h => by simpa [sumF, sumI] using h
 | f :: F, G, no, q, ⟨h1, h2, h3⟩, h => by
  refine ⟨h1, h2, Told.append h3 ?_⟩
  have e1 : no + 1 + (F.length : Int) = no + ((f :: F).length : Int) := by simp only [List.length_cons]; omega
  have e2 : q - f.qty - sumF F = q - sumF (f :: F) := by rw [sumF_cons]; omega
  rw [e1, e2]
  exact h
structure Fl.Ok (s : Int) (o : Ord) (f : Fl) : Prop where
 pos : 1 ≤ f.qty
 le : f.qty ≤ f.mk_.qty
 few : f.mk_.qty ≤ 1048576
 side : f.mk_.side = s
 price : f.price = f.mk_.price
 firm : f.mk_.firm ≠ o.firm
 cross : o.crosses f.price = true
theorem fillsOf_ok {s : Int} (o : Ord) (pr : Int) (hc : o.crosses pr = true) : ∀ (H : List Ent) (no q : Int), (∀ h ∈ H, h.Hit s pr o.firm) → ∀ f ∈ fillsOf o pr no q H, f.Ok s o ∧ f.price = pr
 | [], no, q, _, f, hf => by simp [fillsOf] at hf
 | h :: H, no, q, hh, f, hf => by
  rw [fillsOf] at hf
  rcases List.mem_cons.1 hf with rfl | hf
  ·have := hh h (by simp)
   exact ⟨⟨this.pos, this.le, this.few, this.side, this.price.symm, this.firm, hc⟩, rfl⟩
  ·exact fillsOf_ok o pr hc H _ _ (fun x hx => hh x (by simp [hx])) f hf
structure MatchIs (s : Int) (o : Ord) (no q : Int) (L : List Lev) (m : Mt) : Prop where
 sid : Sid s m.L
 cnt : ∀ k, cnt k (entL m.L) ≤ cnt k (entL L)
 left0 : 0 ≤ m.left
 sum : sumF m.f = q - m.left
 whole : wholeL m.L = wholeL L - sumF m.f
 ok : ∀ f ∈ m.f, f.Ok s o
 told : Told o no q m.f
 lev : ∀ l ∈ m.L, ∃ l' ∈ L, l'.1 = l.1
 flev : ∀ f ∈ m.f, ∃ l' ∈ L, l'.1 = f.price
 own : m.self = true → 0 < m.left ∧ ∃ l R e E, m.L = l :: R ∧ l.2 = e :: E ∧ e.o.firm = o.firm ∧ o.crosses l.1 = true
 done : m.self = false → 0 < m.left → o.meets m.L = false
 best : ∀ f ∈ m.f, ∀ l ∈ m.L, bet s l.1 f.price = false
 row : m.f.Pairwise fun a b => bet s b.price a.price = false
 len : (entL m.L).length ≤ (entL L).length
theorem bet_irr (s x : Int) : bet s x x = false := by unfold bet; split <;> simp
theorem bet_asy {s x y : Int} (h : bet s x y = true) : bet s y x = false := by unfold bet at *; split at h <;> simp_all <;> omega
theorem bet_trans {s x y z : Int} (h : bet s x y = true) (h' : bet s y z = true) : bet s x z = true := by unfold bet at *; split at h <;> simp_all <;> omega
theorem pair_all {α : Type} {R : α → α → Prop} : ∀ {l : List α}, (∀ a ∈ l, ∀ b ∈ l, R a b) → l.Pairwise R
 | [], _ => List.Pairwise.nil
 | a :: l, h => List.pairwise_cons.2 ⟨fun b hb => h a (by simp) b (by simp [hb]), pair_all (fun x hx y hy => h x (by simp [hx]) y (by simp [hy]))⟩
theorem match_is {s : Int} (o : Ord) : ∀ (L : List Lev) (no q : Int), 0 ≤ q → Sid s L → MatchIs s o no q L (matchM o no q L)
 | [], no, q, hq, hL => by
  rw [matchM]
  exact ⟨Sid.nil s, fun k => Nat.le_refl _, hq, by simp [sumF, sumI], by simp [sumF, sumI], by simp, trivial, by simp, by simp, by simp, fun _ _ => rfl, by simp, by simp, Nat.le_refl _⟩
 | l :: R, no, q, hq, hL => by
  rw [matchM]
  by_cases hc : 0 < q ∧ o.crosses l.1 = true
  ·rw [if_pos hc]
   obtain ⟨hg, hy⟩ := hL.good (l := l) (by simp)
   obtain ⟨t1, t2, t3, t4, t5⟩ := takeM_facts o.firm _ q l.2 (Nat.le_refl _) hg
   obtain ⟨u1, u2, u3⟩ := takeM_end o.firm _ q l.2 (Nat.le_refl _) hq hg hy
   obtain ⟨v1, v2⟩ := take_at o.firm q (hL.at_ l (by simp))
   have v3 := take_cnt o.firm q l.2
   have v4 := take_len o.firm q l.2
   have v5 := take_fresh o.firm q (hL.fr l (by simp))
   have hok := fillsOf_ok (s := s) o l.1 hc.2 (takeM o.firm q l.2).1 no q v2
   have hto := fillsOf_told o l.1 (takeM o.firm q l.2).1 no q
   have hsm := fillsOf_sum o l.1 (takeM o.firm q l.2).1 no q
   have hln := fillsOf_len o l.1 (takeM o.firm q l.2).1 no q
   have h5 := t5 hq
   have hsr := List.pairwise_cons.1 hL.srt
   generalize takeM o.firm q l.2 = t at *
   obtain ⟨H, b, X⟩ := t
   simp only at *
   generalize fillsOf o l.1 no q H = F at *
   by_cases he : X.isEmpty = true
   ·rw [if_pos he]
    have he' : X = [] := by simpa using he
    subst he'
    have ih := match_is (s := s) o R (no + (H.length : Int)) (q - seenM H) (by omega) hL.tail
    have hw : wholeM l.2 = seenM H := by have : wholeM [] = 0 := rfl; omega
    refine ⟨ih.sid, fun k => ?_, ih.left0, ?_, ?_, ?_, ?_, ?_, ?_, ih.own, ih.done, ?_, ?_, ?_⟩
    ·have := ih.cnt k
     rw [entL_cons, cnt_append]
     simp only
     omega
    ·have := ih.sum
     simp only [sumF_append]
     omega
    ·have h1 := ih.whole
     have h2 := ih.sum
     simp only [sumF_append, wholeL_cons]
     omega
    ·intro f hf
     rcases List.mem_append.1 hf with hf | hf
     ·exact (hok f hf).1
     ·exact ih.ok f hf
    ·refine hto.append ?_
     rw [hln, hsm]
     exact ih.told
    ·intro x hx
     obtain ⟨y, hy, e⟩ := ih.lev x hx
     exact ⟨y, by simp [hy], e⟩
    ·intro f hf
     rcases List.mem_append.1 hf with hf | hf
     ·exact ⟨l, by simp, ((hok f hf).2).symm⟩
     ·obtain ⟨y, hy, e⟩ := ih.flev f hf
      exact ⟨y, by simp [hy], e⟩
    ·intro f hf x hx
     rcases List.mem_append.1 hf with hf | hf
     ·obtain ⟨y, hy, e⟩ := ih.lev x hx
      rw [(hok f hf).2, ← e]
      exact bet_asy (hsr.1 y hy)
     ·exact ih.best f hf x hx
    ·simp only [List.pairwise_append]
     refine ⟨?_, ih.row, ?_⟩
     ·exact pair_all (fun a ha b hb => by rw [(hok a ha).2, (hok b hb).2]; exact bet_irr _ _)
     ·intro a ha c hc'
      obtain ⟨y, hy, e⟩ := ih.flev c hc'
      rw [(hok a ha).2, ← e]
      exact bet_asy (hsr.1 y hy)
    ·have := ih.len
     rw [entL_cons, List.length_append]
     simp only
     omega
   ·rw [if_neg he]
    have hne : X ≠ [] := by simpa using he
    refine ⟨hL.with_ hne v1 v4 v5, fun k => ?_, ?_, ?_, ?_, fun f hf => (hok f hf).1, hto, ?_, ?_, ?_, ?_, ?_, ?_, ?_⟩
    ·have := v3 k
     rw [entL_cons, entL_cons, cnt_append, cnt_append]
     simp only
     omega
    ·simp only; omega
    ·simp only; omega
    ·simp only [wholeL_cons]; omega
    ·intro x hx
     rcases List.mem_cons.1 hx with rfl | hx
     ·exact ⟨l, by simp, rfl⟩
     ·exact ⟨x, by simp [hx], rfl⟩
    ·intro f hf
     exact ⟨l, by simp, ((hok f hf).2).symm⟩
    ·intro hb
     obtain ⟨e, E, q1, q2, q3⟩ := u2 hb
     exact ⟨by simp only; omega, _, _, e, E, rfl, q1, q2, hc.2⟩
    ·intro hb h0
     simp only at h0
     rcases u3 hb with h | h
     ·omega
     ·exact absurd h hne
    ·intro f hf x hx
     rw [(hok f hf).2]
     rcases List.mem_cons.1 hx with rfl | hx
     ·exact bet_irr _ _
     ·exact bet_asy (hsr.1 x hx)
    ·exact pair_all (fun a ha b hb => by rw [(hok a ha).2, (hok b hb).2]; exact bet_irr _ _)
    ·rw [entL_cons, entL_cons, List.length_append, List.length_append]
     simp only
     omega
  ·rw [if_neg hc]
   refine ⟨hL, fun k => Nat.le_refl _, hq, by simp [sumF, sumI], by simp [sumF, sumI], by simp, trivial, fun x hx => ⟨x, hx, rfl⟩, by simp, by simp, fun _ h => ?_, by simp, by simp, Nat.le_refl _⟩
   simp only [Ord.meets]
   simp only at h
   have : ¬ o.crosses l.1 = true := fun h' => hc ⟨h, h'⟩
   simpa using this
theorem bet_total {s x y : Int} (h : bet s x y = false) (hn : x ≠ y) : bet s y x = true := by unfold bet at *; split at h <;> simp_all <;> omega
structure RestIs (s : Int) (o : Ord) (L M : List Lev) : Prop where
 fr : ∀ l ∈ M, Fresh l.2
 ne : ∀ l ∈ M, l.2 ≠ []
 at_ : ∀ l ∈ M, ∀ e ∈ l.2, e.At s l.1
 srt : M.Pairwise fun a b => bet s a.1 b.1 = true
 cnt : ∀ k, cnt k (entL M) = cnt k (entL L) + (if (o.tr, o.id) = k then 1 else 0)
 len : (entL M).length = (entL L).length + 1
 whole : wholeL M = wholeL L + o.qty
 lev : ∀ l ∈ M, l.1 = o.price ∨ ∃ l' ∈ L, l'.1 = l.1
theorem ent_of_key (o : Ord) : (Ent.of o).key = (o.tr, o.id) := rfl
theorem cnt_of (k : Int × Int) (o : Ord) : cnt k [Ent.of o] = (if (o.tr, o.id) = k then 1 else 0) := by rw [cnt_cons, cnt_nil, ent_of_key, Nat.zero_add]
theorem whole_of (o : Ord) : wholeM [Ent.of o] = o.qty := by simp [wholeM, sumI, Ent.of]
theorem rest_is {s : Int} {o : Ord} (hs : o.side = s) (ho : (Ent.of o).At s o.price) : ∀ (L : List Lev), Sid s L → RestIs s o L (restM o L)
 | [], hL => by
  rw [restM]
  exact ⟨by simp [Fresh], by simp, by simpa using ho, by simp, fun k => by rw [entL_cons, entL_nil, List.append_nil, cnt_cons, ent_of_key], rfl, by rw [wholeL_cons, whole_of, wholeL_nil]; omega, by simp⟩
 | l :: R, hL => by
  have hsr := List.pairwise_cons.1 hL.srt
  rw [restM, hs]
  by_cases h1 : bet s l.1 o.price = true
  ·rw [if_pos h1]
   have ih := rest_is hs ho R hL.tail
   refine ⟨?_, ?_, ?_, ?_, fun k => ?_, ?_, ?_, ?_⟩
   ·intro x hx
    rcases List.mem_cons.1 hx with rfl | hx
    ·exact hL.fr _ (by simp)
    ·exact ih.fr x hx
   ·intro x hx
    rcases List.mem_cons.1 hx with rfl | hx
    ·exact hL.ne _ (by simp)
    ·exact ih.ne x hx
   ·intro x hx
    rcases List.mem_cons.1 hx with rfl | hx
    ·exact hL.at_ _ (by simp)
    ·exact ih.at_ x hx
   ·refine List.pairwise_cons.2 ⟨fun x hx => ?_, ih.srt⟩
    rcases ih.lev x hx with e | ⟨y, hy, e⟩
    ·rw [e]; exact h1
    ·rw [← e]; exact hsr.1 y hy
   ·have := ih.cnt k
    rw [entL_cons, entL_cons, cnt_append, cnt_append]
    omega
   ·have := ih.len
    rw [entL_cons, entL_cons, List.length_append, List.length_append]
    omega
   ·have := ih.whole
    rw [wholeL_cons, wholeL_cons]
    omega
   ·intro x hx
    rcases List.mem_cons.1 hx with rfl | hx
    ·exact .inr ⟨_, by simp, rfl⟩
    ·rcases ih.lev x hx with e | ⟨y, hy, e⟩
     ·exact .inl e
     ·exact .inr ⟨y, by simp [hy], e⟩
  ·rw [if_neg h1]
   by_cases h2 : l.1 = o.price
   ·rw [if_pos h2]
    refine ⟨?_, ?_, ?_, ?_, fun k => ?_, ?_, ?_, ?_⟩
    ·intro x hx
     rcases List.mem_cons.1 hx with rfl | hx
     ·exact snoc_fresh (hL.fr l (by simp)) o
     ·exact hL.fr x (by simp [hx])
    ·intro x hx
     rcases List.mem_cons.1 hx with rfl | hx
     ·simp
     ·exact hL.ne x (by simp [hx])
    ·intro x hx
     rcases List.mem_cons.1 hx with rfl | hx
     ·intro e he
      rcases List.mem_append.1 he with he | he
      ·exact hL.at_ l (by simp) e he
      ·simp at he
       subst he
       simp only
       rw [h2]
       exact ho
     ·exact hL.at_ x (by simp [hx])
    ·exact List.pairwise_cons.2 hsr
    ·rw [entL_cons, entL_cons, cnt_append, cnt_append]
     simp only [cnt_append, cnt_of]
     omega
    ·rw [entL_cons, entL_cons, List.length_append, List.length_append]
     simp only [List.length_append, List.length_cons, List.length_nil]
     omega
    ·rw [wholeL_cons, wholeL_cons]
     simp only [wholeM_append, whole_of]
     omega
    ·intro x hx
     rcases List.mem_cons.1 hx with rfl | hx
     ·exact .inr ⟨l, by simp, rfl⟩
     ·exact .inr ⟨x, by simp [hx], rfl⟩
   ·rw [if_neg h2]
    have h3 := bet_total (by simpa using h1) h2
    refine ⟨?_, ?_, ?_, ?_, fun k => ?_, ?_, ?_, ?_⟩
    ·intro x hx
     rcases List.mem_cons.1 hx with rfl | hx
     ·simp [Fresh]
     ·exact hL.fr x hx
    ·intro x hx
     rcases List.mem_cons.1 hx with rfl | hx
     ·simp
     ·exact hL.ne x hx
    ·intro x hx
     rcases List.mem_cons.1 hx with rfl | hx
     ·intro e he
      simp at he
      subst he
      exact ho
     ·exact hL.at_ x hx
    ·refine List.pairwise_cons.2 ⟨fun x hx => ?_, hL.srt⟩
     rcases List.mem_cons.1 hx with rfl | hx
     ·exact h3
     ·exact bet_trans h3 (hsr.1 x hx)
    ·rw [entL_cons, cnt_append]
     simp only [cnt_of]
     omega
    ·rw [entL_cons, List.length_append]
     simp only [List.length_cons, List.length_nil]
     omega
    ·rw [wholeL_cons]
     simp only [whole_of]
     omega
    ·intro x hx
     rcases List.mem_cons.1 hx with rfl | hx
     ·exact .inl rfl
     ·exact .inr ⟨x, hx, rfl⟩
theorem cnt_zero {t i : Int} {X : List Ent} : cnt (t, i) X = 0 ↔ ∀ e ∈ X, e.is t i = false := by
 unfold cnt
 rw [List.count_eq_zero]
 constructor
 ·intro h e he
  cases hm : e.is t i with
  | false => rfl
  | true => exact absurd (List.mem_map.2 ⟨e, he, is_key.1 hm⟩) h
 ·intro h hm
  obtain ⟨e, he, e1⟩ := List.mem_map.1 hm
  have := h e he
  rw [is_key.2 e1] at this
  cases this
theorem idx_zero {t i : Int} {X : List Ent} (h : cnt (t, i) X = 0) : X[idxM t i X]? = none := by
 rw [idx_none (fun j x hj hx => cnt_zero.1 h x (List.mem_of_getElem? hx))]
 exact List.getElem?_eq_none (Nat.le_refl _)
theorem idx_some {t i : Int} {X : List Ent} (h : cnt (t, i) X ≠ 0) : ∃ e, X[idxM t i X]? = some e ∧ e.is t i = true := by
 by_cases hl : idxM t i X < X.length
 ·exact idx_is hl
 ·exfalso
  refine h (cnt_zero.2 fun e he => ?_)
  cases hm : e.is t i with
  | false => rfl
  | true => exact absurd (List.findIdx_lt_length_of_exists ⟨e, he, hm⟩) hl
theorem remM_none {t i : Int} {X : List Ent} (h : cnt (t, i) X = 0) : removeM t i X = (zeroO, false, X) := by
 unfold removeM
 rw [idx_zero h]
structure RemIs (s t i : Int) (L : List Lev) (r : Ord × Bool × List Lev) : Prop where
 sid : Sid s r.2.2
 lev : ∀ l ∈ r.2.2, ∃ l' ∈ L, l'.1 = l.1
 cnts : ∀ k, cnt k (entL r.2.2) ≤ cnt k (entL L)
 len : (entL r.2.2).length ≤ (entL L).length
 no : r.2.1 = false → r.2.2 = L ∧ r.1 = zeroO ∧ cnt (t, i) (entL L) = 0
 yes : r.2.1 = true → ∃ l ∈ L, ∃ e ∈ l.2, e.is t i = true ∧ r.1 = e.o
theorem cnt_erase (k : Int × Int) (X : List Ent) (j : Nat) : cnt k (X.eraseIdx j) ≤ cnt k X := by
 unfold cnt
 exact List.Sublist.count_le _ ((List.eraseIdx_sublist X j).map _)
theorem remove_facts {s : Int} (t i : Int) : ∀ (L : List Lev), Sid s L → RemIs s t i L (removeL t i L)
 | [], hL => ⟨hL, by simp [removeL], fun k => Nat.le_refl _, Nat.le_refl _, fun _ => ⟨rfl, rfl, rfl⟩, by simp [removeL]⟩
 | l :: R, hL => by
  have ih := remove_facts t i R hL.tail
  have hsr := List.pairwise_cons.1 hL.srt
  rw [removeL]
  by_cases h0 : cnt (t, i) l.2 = 0
  ·rw [remM_none h0]
   simp only [Bool.false_eq_true, if_false]
   refine ⟨⟨?_, ?_, ?_, ?_, ?_⟩, ?_, fun k => ?_, ?_, ?_, ?_⟩
   ·intro x hx
    rcases List.mem_cons.1 hx with rfl | hx
    ·exact hL.fr _ (by simp)
    ·exact ih.sid.fr x hx
   ·intro x hx
    rcases List.mem_cons.1 hx with rfl | hx
    ·exact hL.ne _ (by simp)
    ·exact ih.sid.ne x hx
   ·intro x hx
    rcases List.mem_cons.1 hx with rfl | hx
    ·exact hL.at_ _ (by simp)
    ·exact ih.sid.at_ x hx
   ·refine List.pairwise_cons.2 ⟨fun x hx => ?_, ih.sid.srt⟩
    obtain ⟨y, hy, e⟩ := ih.lev x hx
    rw [← e]; exact hsr.1 y hy
   ·have h1 := ih.len
    have h2 := hL.few
    rw [entL_cons, List.length_append] at h2 ⊢
    omega
   ·intro x hx
    rcases List.mem_cons.1 hx with rfl | hx
    ·exact ⟨_, by simp, rfl⟩
    ·obtain ⟨y, hy, e⟩ := ih.lev x hx
     exact ⟨y, by simp [hy], e⟩
   ·have := ih.cnts k
    rw [entL_cons, entL_cons, cnt_append, cnt_append]
    omega
   ·have := ih.len
    simp only [entL_cons, List.length_append]
    omega
   ·intro hb
    obtain ⟨e1, e2, e3⟩ := ih.no hb
    refine ⟨by simp only [e1], e2, ?_⟩
    rw [entL_cons, cnt_append]
    omega
   ·intro hb
    obtain ⟨l', hl', e, he, e1, e2⟩ := ih.yes hb
    exact ⟨l', by simp [hl'], e, he, e1, e2⟩
  ·obtain ⟨e, he, hm⟩ := idx_some h0
   have e1 : removeM t i l.2 = (e.o, true, l.2.eraseIdx (idxM t i l.2)) := by unfold removeM; rw [he]
   rw [e1]
   simp only [if_true]
   have hl : (l.2.eraseIdx (idxM t i l.2)).length ≤ l.2.length := (List.eraseIdx_sublist _ _).length_le
   by_cases h2 : (l.2.eraseIdx (idxM t i l.2)).isEmpty = true
   ·rw [if_pos h2]
    refine ⟨hL.tail, fun x hx => ⟨x, by simp [hx], rfl⟩, fun k => ?_, ?_, by simp, fun _ => ⟨l, by simp, e, List.mem_of_getElem? he, hm, rfl⟩⟩
    ·rw [entL_cons, cnt_append]; simp only; omega
    ·simp only [entL_cons, List.length_append]; omega
   ·rw [if_neg h2]
    have hne : l.2.eraseIdx (idxM t i l.2) ≠ [] := by simpa using h2
    refine ⟨hL.with_ hne (fun x hx => hL.at_ l (by simp) x ((List.eraseIdx_sublist _ _).subset hx)) hl (erase_fresh (hL.fr l (by simp)) _), ?_, fun k => ?_, ?_, by simp, fun _ => ⟨l, by simp, e, List.mem_of_getElem? he, hm, rfl⟩⟩
    ·intro x hx
     rcases List.mem_cons.1 hx with rfl | hx
     ·exact ⟨l, by simp, rfl⟩
     ·exact ⟨x, by simp [hx], rfl⟩
    ·have := cnt_erase k l.2 (idxM t i l.2)
     rw [entL_cons, entL_cons, cnt_append, cnt_append]
     simp only
     omega
    ·simp only [entL_cons, List.length_append]; omega
structure LessIs (s : Int) (L : List Lev) (r : Bool × List Lev) : Prop where
 sid : Sid s r.2
 lev : r.2.map (·.1) = L.map (·.1)
 cnts : ∀ k, cnt k (entL r.2) = cnt k (entL L)
 len : (entL r.2).length = (entL L).length
 no : r.1 = false → r.2 = L
theorem set_at {s pr t i q : Int} {X : List Ent} (h : ∀ e ∈ X, e.At s pr) {e : Ent} (he : X[idxM t i X]? = some e) (h1 : 1 ≤ q) (h2 : q ≤ e.o.qty) : ∀ x ∈ X.set (idxM t i X) ⟨e.o.q q, mn e.n q⟩, x.At s pr := by
 intro x hx
 rcases List.mem_or_eq_of_mem_set hx with hx | rfl
 ·exact h x hx
 ·obtain ⟨q1, q2, q3, q4, q5, q6, q7, q8⟩ := h e (List.mem_of_getElem? he)
  have h3 := mn_le e.n q
  have h4 := mn_pos e.n q (by omega) (by omega)
  refine ⟨by simp only; omega, by simp only [Ord.q]; omega, by simp only [Ord.q]; omega, q4, q5, q6, fun hs => ?_, q8⟩
  have := q7 hs
  simp only [Ord.q]
  omega
theorem set_cnt {t i q : Int} {X : List Ent} {e : Ent} (he : X[idxM t i X]? = some e) (k : Int × Int) : cnt k (X.set (idxM t i X) ⟨e.o.q q, mn e.n q⟩) = cnt k X := by
 unfold cnt
 rw [List.map_set]
 have : (X.map Ent.key)[idxM t i X]? = some (Ent.key ⟨e.o.q q, mn e.n q⟩) := by rw [List.getElem?_map, he]; rfl
 obtain ⟨hl, h⟩ := List.getElem?_eq_some_iff.1 this
 rw [← h, List.set_getElem_self]
theorem less_facts {s : Int} (t i q : Int) : ∀ (L : List Lev), Sid s L → LessIs s L (lessL t i q L)
 | [], hL => ⟨hL, rfl, fun k => rfl, rfl, fun _ => rfl⟩
 | l :: R, hL => by
  have ih := less_facts t i q R hL.tail
  have hsr := List.pairwise_cons.1 hL.srt
  rw [lessL]
  by_cases hb : (lessM t i q l.2).1 = true
  ·rw [if_pos hb]
   unfold lessM at hb ⊢
   cases he : l.2[idxM t i l.2]? with
   | none => rw [he] at hb; cases hb
   | some e =>
    rw [he] at hb
    simp only at hb ⊢
    by_cases hq : 1 ≤ q ∧ q ≤ e.o.qty
    ·rw [if_pos hq]
     simp only
     refine ⟨hL.with_ ?_ (set_at (hL.at_ l (by simp)) he hq.1 hq.2) (by simp) (set_fresh (hL.fr l (by simp)) he hq.2), rfl, fun k => ?_, ?_, by simp⟩
     ·intro h
      have := hL.ne l (by simp)
      have h' : (l.2.set (idxM t i l.2) ⟨e.o.q q, mn e.n q⟩).length = 0 := by rw [h]; rfl
      rw [List.length_set] at h'
      exact this (List.eq_nil_of_length_eq_zero h')
     ·rw [entL_cons, entL_cons, cnt_append, cnt_append]
      simp only [set_cnt he k]
     ·simp [entL_cons]
    ·rw [if_neg hq] at hb
     cases hb
  ·rw [if_neg hb]
   refine ⟨⟨?_, ?_, ?_, ?_, ?_⟩, ?_, fun k => ?_, ?_, ?_⟩
   ·intro x hx
    rcases List.mem_cons.1 hx with rfl | hx
    ·exact hL.fr _ (by simp)
    ·exact ih.sid.fr x hx
   ·intro x hx
    rcases List.mem_cons.1 hx with rfl | hx
    ·exact hL.ne _ (by simp)
    ·exact ih.sid.ne x hx
   ·intro x hx
    rcases List.mem_cons.1 hx with rfl | hx
    ·exact hL.at_ _ (by simp)
    ·exact ih.sid.at_ x hx
   ·refine List.pairwise_cons.2 ⟨fun x hx => ?_, ih.sid.srt⟩
    have : x.1 ∈ R.map (·.1) := by rw [← ih.lev]; exact List.mem_map.2 ⟨x, hx, rfl⟩
    obtain ⟨y, hy, e⟩ := List.mem_map.1 this
    rw [← e]; exact hsr.1 y hy
   ·have h1 := ih.len
    have h2 := hL.few
    rw [entL_cons, List.length_append] at h2 ⊢
    omega
   ·simp only [List.map_cons, ih.lev]
   ·have := ih.cnts k
    rw [entL_cons, entL_cons, cnt_append, cnt_append]
    omega
   ·have := ih.len
    simp only [entL_cons, List.length_append]
    omega
   ·intro h
    simp only [ih.no h]
theorem bet_flip {s : Int} (hs : s = 1 ∨ s = 2) (x y : Int) : bet (3 - s) x y = bet s y x := by
 unfold bet
 rcases hs with rfl | rfl <;> simp
structure Two (s : Int) (M T : List Lev) : Prop where
 mine : Sid s M
 theirs : Sid (3 - s) T
 uniq : ∀ k, cnt k (entL M) + cnt k (entL T) ≤ 1
 few : (entL M).length + (entL T).length ≤ 64
 apart : ∀ x ∈ M, ∀ y ∈ T, bet s y.1 x.1 = true
theorem Two.flip {s : Int} (hs : s = 1 ∨ s = 2) {M T : List Lev} (h : Two s M T) : Two (3 - s) T M :=
 ⟨h.theirs, by rw [show 3 - (3 - s) = s by omega]; exact h.mine, fun k => by have := h.uniq k; omega, by have := h.few; omega, fun x hx y hy => by rw [bet_flip hs]; exact h.apart y hy x hx⟩
structure Inv (B : Bok) : Prop where
 two : Two 1 B.buys B.sells
 no0 : 0 ≤ B.no
 last0 : 0 ≤ B.last
 last1 : B.last ≤ 1048576
theorem Inv.zero : Inv Bok.zero := ⟨⟨Sid.nil _, Sid.nil _, fun k => by simp [Bok.zero, entL, cnt], by simp [Bok.zero, entL], by simp [Bok.zero]⟩, by simp [Bok.zero], by simp [Bok.zero], by simp [Bok.zero]⟩
theorem sd_put {B : Bok} {s : Int} (hs : s = 1 ∨ s = 2) (L : List Lev) : (B.put s L).sd s = L ∧ (B.put s L).sd (3 - s) = B.sd (3 - s) ∧ (B.put (3 - s) L).sd s = B.sd s ∧ (B.put (3 - s) L).sd (3 - s) = L := by
 rcases hs with rfl | rfl <;> simp [Bok.put, Bok.sd]
theorem put_no (B : Bok) (s : Int) (L : List Lev) : (B.put s L).no = B.no ∧ (B.put s L).last = B.last := by
 unfold Bok.put
 split
 ·exact ⟨rfl, rfl⟩
 ·split <;> exact ⟨rfl, rfl⟩
theorem Inv.side {B : Bok} (h : Inv B) {s : Int} (hs : s = 1 ∨ s = 2) : Two s (B.sd s) (B.sd (3 - s)) := by
 rcases hs with rfl | rfl
 ·exact h.two
 ·exact h.two.flip (.inl rfl)
theorem inv_of {B : Bok} {s : Int} (hs : s = 1 ∨ s = 2) (h : Two s (B.sd s) (B.sd (3 - s))) (h1 : 0 ≤ B.no) (h2 : 0 ≤ B.last) (h3 : B.last ≤ 1048576) : Inv B := by
 refine ⟨?_, h1, h2, h3⟩
 rcases hs with rfl | rfl
 ·exact h
 ·exact h.flip (.inr rfl)
theorem cnt_all (B : Bok) {s : Int} (hs : s = 1 ∨ s = 2) (k : Int × Int) : cnt k B.all = cnt k (entL (B.sd s)) + cnt k (entL (B.sd (3 - s))) := by
 unfold Bok.all
 rw [cnt_append]
 rcases hs with rfl | rfl
 ·rfl
 ·simp [Bok.sd]; omega
theorem len_all (B : Bok) {s : Int} (hs : s = 1 ∨ s = 2) : B.len = (entL (B.sd s)).length + (entL (B.sd (3 - s))).length := by
 unfold Bok.len Bok.all
 rw [List.length_append]
 rcases hs with rfl | rfl
 ·rfl
 ·simp [Bok.sd]; omega
theorem has_iff (B : Bok) (t i : Int) : B.has t i = false ↔ cnt (t, i) B.all = 0 := by
 unfold Bok.has Bok.find findE
 constructor
 ·intro h
  by_cases h0 : cnt (t, i) B.all = 0
  ·exact h0
  ·obtain ⟨e, he, _⟩ := idx_some h0
   rw [he] at h
   cases h
 ·intro h
  rw [idx_zero h]
theorem meets_all {o : Ord} {T : List Lev} (hs : o.side = 1 ∨ o.side = 2) (hT : Sid (3 - o.side) T) (h : o.meets T = false) : ∀ y ∈ T, bet o.side y.1 o.price = true := by
 cases T with
 | nil => simp
 | cons l R =>
  unfold Ord.meets Ord.crosses at h
  simp only [Bool.or_eq_false_iff, Bool.not_eq_false'] at h
  intro y hy
  rcases List.mem_cons.1 hy with rfl | hy
  ·exact h.2
  ·have := (List.pairwise_cons.1 hT.srt).1 y hy
   rw [bet_flip hs] at this
   exact bet_trans this h.2
theorem cut_at {o : Ord} (hr : o.right = true) (h0 : o.stop = 0) (hk : o.k = 1 ∨ o.k = 5) {n : Int} (h1 : 0 < n) (h2 : n ≤ o.qty) : (Ent.of (o.cut n)).At o.side o.price := by
 have h := (right_iff o).1 hr
 have hk2 : o.k ≠ 2 := by omega
 have ht := tip_ok (o.cut n) (by simp only [Ord.cut]; omega)
 unfold Ent.ok at ht
 have hm := mn_le o.shw n
 have hm0 : 0 ≤ mn o.shw n := by unfold mn; split <;> omega
 exact ⟨ht.1, ht.2, by simp only [Ent.of, Ord.cut]; omega, rfl, rfl, hm0, fun h => tip_le _ h, by
  refine ⟨?_, ?_, ?_, hk, ?_, h0⟩ <;> simp only [Ent.of, Ord.cut] <;> omega⟩
theorem right_side {o : Ord} (h : o.right = true) : o.side = 1 ∨ o.side = 2 := by have := (right_iff o).1 h; omega
theorem right_qty {o : Ord} (h : o.right = true) : 1 ≤ o.qty ∧ o.qty ≤ 1048576 := by have := (right_iff o).1 h; omega
theorem err_zero {B : Bok} {o : Ord} (h : B.err o = 0) : o.right = true ∧ o.stop = 0 ∧ B.has o.tr o.id = false ∧ (o.k = 1 ∨ o.k = 5 → B.len < 64) ∧ (o.k = 5 → o.meets (B.sd (3 - o.side)) = false) ∧ (o.k = 4 → (B.matched o).left ≤ 0) := by
 unfold Bok.err at h
 split at h
 ·cases h
 ·rename_i h1
  split at h
  ·cases h
  ·rename_i h2
   split at h
   ·cases h
   ·rename_i h3
    split at h
    ·cases h
    ·rename_i h4
     split at h
     ·cases h
     ·rename_i h5
      have h1 := Classical.not_not.1 h1
      refine ⟨h1.1, h1.2, by simpa using h2, fun hk => ?_, fun hk => ?_, fun hk => ?_⟩
      ·exact Nat.lt_of_not_le fun h' => h3 ⟨hk, h'⟩
      ·cases hm : o.meets (B.sd (3 - o.side)) with
       | false => rfl
       | true => exact absurd ⟨hk, hm⟩ h4
      ·exact Int.not_lt.1 fun h' => h5 ⟨hk, h'⟩
theorem sum_len {s : Int} {o : Ord} {F : List Fl} (h : ∀ f ∈ F, f.Ok s o) : (F.length : Int) ≤ sumF F := by
 induction F with
 | nil => simp [sumF, sumI]
 | cons f F ih =>
  have h1 := ih (fun x hx => h x (by simp [hx]))
  have h2 := (h f (by simp)).pos
  rw [sumF_cons]
  simp only [List.length_cons]
  omega
theorem last_in {s : Int} {o : Ord} {P : Int → Prop} : ∀ {F : List Fl} {p : Int}, P p → (∀ f ∈ F, P f.price) → P (lastOf p F)
 | [], p, h, _ => h
 | f :: F, p, h, hf => last_in (s := s) (o := o) (F := F) (hf f (by simp)) (fun x hx => hf x (by simp [hx]))
structure AddIs (B : Bok) (o : Ord) : Prop where
 sd : o.side = 1 ∨ o.side = 2
 rt : o.right = true
 m : MatchIs (3 - o.side) o B.no o.qty (B.sd (3 - o.side)) (B.matched o)
 theirs : (B.add o).2.sd (3 - o.side) = (B.matched o).L
 mine : (B.add o).2.sd o.side = if B.stays o = true then restM (o.cut (B.matched o).left) (B.sd o.side) else B.sd o.side
 last : (B.add o).2.last = lastOf B.last (B.matched o).f
 no : (B.add o).2.no = B.no + (B.matched o).f.length
 oc : (B.add o).1 = ⟨o, (B.matched o).f, (B.matched o).left, B.stays o, (B.matched o).self, 0⟩
 inv : Inv (B.add o).2
 few : ((B.matched o).f.length : Int) ≤ o.qty
 rests : B.stays o = true → RestIs o.side (o.cut (B.matched o).left) (B.sd o.side) (restM (o.cut (B.matched o).left) (B.sd o.side))
theorem stays_iff {B : Bok} {o : Ord} : B.stays o = true ↔ 0 < (B.matched o).left ∧ (B.matched o).self = false ∧ (o.k = 1 ∨ o.k = 5) := by
 unfold Bok.stays
 simp [and_assoc]
theorem lev_price {B : Bok} (h : Inv B) {s : Int} (hs : s = 1 ∨ s = 2) {l : Lev} (hl : l ∈ B.sd s) : 1 ≤ l.1 ∧ l.1 ≤ 1048576 := by
 have hm := (h.side hs).mine
 cases hx : l.2 with
 | nil => exact absurd hx (hm.ne l hl)
 | cons e E =>
  have := hm.at_ l hl e (by rw [hx]; simp)
  have h1 := this.price
  have h2 := this.stt
  unfold Ord.stt at h2
  omega
theorem add_is {B : Bok} {o : Ord} (h : Inv B) (he : B.err o = 0) : AddIs B o := by
 obtain ⟨e1, e2, e3, e4, e5, e6⟩ := err_zero he
 have hs := right_side e1
 have hq := right_qty e1
 have h2 := h.side hs
 have hs' : 3 - o.side = 1 ∨ 3 - o.side = 2 := by omega
 have hm : MatchIs (3 - o.side) o B.no o.qty (B.sd (3 - o.side)) (B.matched o) := match_is o _ _ _ (by omega) h2.theirs
 have ht : (B.traded o).sd (3 - o.side) = (B.matched o).L ∧ (B.traded o).sd o.side = B.sd o.side := by
  have h3 := sd_put (B := B) hs (B.matched o).L
  exact ⟨h3.2.2.2, h3.2.2.1⟩
 have hu : B.add o = (⟨o, (B.matched o).f, (B.matched o).left, B.stays o, (B.matched o).self, 0⟩, if B.stays o = true then (B.traded o).put o.side (restM (o.cut (B.matched o).left) ((B.traded o).sd o.side)) else B.traded o) := by
  unfold Bok.add
  rw [if_neg (by simp [he])]
 have hth : (B.add o).2.sd (3 - o.side) = (B.matched o).L := by
  rw [hu]
  simp only
  split
  ·rw [(sd_put hs _).2.1, ht.1]
  ·exact ht.1
 have hmi : (B.add o).2.sd o.side = if B.stays o = true then restM (o.cut (B.matched o).left) (B.sd o.side) else B.sd o.side := by
  rw [hu]
  simp only
  split
  ·rw [(sd_put hs _).1, ht.2]
  ·exact ht.2
 have hno : (B.add o).2.no = B.no + (B.matched o).f.length := by
  rw [hu]
  simp only
  split
  ·rw [(put_no _ _ _).1]; rfl
  ·rfl
 have hla : (B.add o).2.last = lastOf B.last (B.matched o).f := by
  rw [hu]
  simp only
  split
  ·rw [(put_no _ _ _).2]; rfl
  ·rfl
 have hsl := sum_len hm.ok
 have hsum := hm.sum
 have hl0 := hm.left0
 have hfs : ∀ f ∈ (B.matched o).f, 1 ≤ f.price ∧ f.price ≤ 1048576 := fun f hf => by
  obtain ⟨l, hl, e⟩ := hm.flev f hf
  rw [← e]
  exact lev_price h hs' hl
 have hc0 : cnt (o.tr, o.id) (entL (B.sd o.side)) + cnt (o.tr, o.id) (entL (B.sd (3 - o.side))) = 0 := by
  rw [← cnt_all B hs]
  exact (has_iff B _ _).1 e3
 have hrest : B.stays o = true → RestIs o.side (o.cut (B.matched o).left) (B.sd o.side) (restM (o.cut (B.matched o).left) (B.sd o.side)) := fun hst => by
  obtain ⟨k1, k2, k3⟩ := stays_iff.1 hst
  exact rest_is (s := o.side) (o := o.cut (B.matched o).left) rfl (cut_at e1 e2 k3 k1 (by omega)) _ h2.mine
 refine ⟨hs, e1, hm, hth, hmi, hla, hno, by rw [hu], ?_, by omega, hrest⟩
 refine inv_of hs ?_ (by rw [hno]; have := h.no0; omega) (by rw [hla]; exact last_in (s := 0) (o := o) (P := fun x => 0 ≤ x) h.last0 (fun f hf => by have := hfs f hf; omega)) (by rw [hla]; exact last_in (s := 0) (o := o) (P := fun x => x ≤ 1048576) h.last1 (fun f hf => (hfs f hf).2))
 rw [hth, hmi]
 by_cases hst : B.stays o = true
 ·rw [if_pos hst]
  obtain ⟨k1, k2, k3⟩ := stays_iff.1 hst
  have hr := hrest hst
  have h64 := e4 k3
  rw [len_all B hs] at h64
  have hl := hr.len
  have hl2 := hm.len
  refine ⟨⟨hr.fr, hr.ne, hr.at_, hr.srt, by omega⟩, hm.sid, fun k => ?_, by omega, fun x hx y hy => ?_⟩
  ·have a1 : cnt k (entL (restM (o.cut (B.matched o).left) (B.sd o.side))) = cnt k (entL (B.sd o.side)) + (if (o.tr, o.id) = k then 1 else 0) := hr.cnt k
   have a2 := hm.cnt k
   have a3 := h2.uniq k
   rw [a1]
   by_cases hk : (o.tr, o.id) = k
   ·subst hk
    rw [if_pos rfl]
    omega
   ·rw [if_neg hk]
    omega
  ·rcases hr.lev x hx with e | ⟨z, hz, e⟩
   ·rw [e]
    exact meets_all hs hm.sid (hm.done k2 k1) y hy
   ·obtain ⟨v, hv, e'⟩ := hm.lev y hy
    rw [← e, ← e']
    exact h2.apart z hz v hv
 ·rw [if_neg hst]
  refine ⟨h2.mine, hm.sid, fun k => ?_, ?_, fun x hx y hy => ?_⟩
  ·have a2 := hm.cnt k
   have a3 := h2.uniq k
   omega
  ·have a2 := hm.len
   have a3 := h2.few
   omega
  ·obtain ⟨v, hv, e'⟩ := hm.lev y hy
   rw [← e']
   exact h2.apart x hx v hv
theorem add_err {B : Bok} {o : Ord} (he : B.err o ≠ 0) : B.add o = (⟨o, [], o.qty, false, false, B.err o⟩, B) := by
 unfold Bok.add
 rw [if_pos he]
theorem inv_add {B : Bok} {o : Ord} (h : Inv B) : Inv (B.add o).2 ∧ B.no ≤ (B.add o).2.no ∧ (B.add o).2.no ≤ B.no + 1048576 := by
 by_cases he : B.err o = 0
 ·have ha := add_is h he
  have h1 := ha.no
  have h2 := ha.few
  have h3 := right_qty ha.rt
  exact ⟨ha.inv, by omega, by omega⟩
 ·rw [add_err he]
  exact ⟨h, Int.le_refl _, by simp only; omega⟩
theorem inv_remove {B : Bok} (h : Inv B) (t i : Int) : Inv (B.remove t i).2.2 ∧ (B.remove t i).2.2.no = B.no := by
 have hb := remove_facts t i B.buys h.two.mine
 have hs := remove_facts t i B.sells h.two.theirs
 unfold Bok.remove
 split
 ·refine ⟨⟨⟨hb.sid, h.two.theirs, fun k => ?_, ?_, fun x hx y hy => ?_⟩, h.no0, h.last0, h.last1⟩, rfl⟩
  ·have a1 := hb.cnts k
   have a2 := h.two.uniq k
   simp only
   omega
  ·have a1 := hb.len
   have a2 := h.two.few
   simp only
   omega
  ·obtain ⟨v, hv, e⟩ := hb.lev x hx
   rw [← e]
   exact h.two.apart v hv y hy
 ·split
  ·refine ⟨⟨⟨h.two.mine, hs.sid, fun k => ?_, ?_, fun x hx y hy => ?_⟩, h.no0, h.last0, h.last1⟩, rfl⟩
   ·have a1 := hs.cnts k
    have a2 := h.two.uniq k
    simp only
    omega
   ·have a1 := hs.len
    have a2 := h.two.few
    simp only
    omega
   ·obtain ⟨v, hv, e⟩ := hs.lev y hy
    rw [← e]
    exact h.two.apart x hx v hv
  ·exact ⟨h, rfl⟩
theorem lev_of_map {L M : List Lev} (h : L.map (·.1) = M.map (·.1)) {x : Lev} (hx : x ∈ L) : ∃ y ∈ M, y.1 = x.1 := by
 have : x.1 ∈ M.map (·.1) := by rw [← h]; exact List.mem_map.2 ⟨x, hx, rfl⟩
 obtain ⟨y, hy, e⟩ := List.mem_map.1 this
 exact ⟨y, hy, e⟩
theorem inv_less {B : Bok} (h : Inv B) (t i q : Int) : Inv (B.less t i q).2 ∧ (B.less t i q).2.no = B.no := by
 have hb := less_facts t i q B.buys h.two.mine
 have hs := less_facts t i q B.sells h.two.theirs
 unfold Bok.less
 split
 ·refine ⟨⟨⟨hb.sid, h.two.theirs, fun k => ?_, ?_, fun x hx y hy => ?_⟩, h.no0, h.last0, h.last1⟩, rfl⟩
  ·have a1 := hb.cnts k
   have a2 := h.two.uniq k
   simp only
   omega
  ·have a1 := hb.len
   have a2 := h.two.few
   simp only
   omega
  ·obtain ⟨v, hv, e⟩ := lev_of_map hb.lev hx
   rw [← e]
   exact h.two.apart v hv y hy
 ·split
  ·refine ⟨⟨⟨h.two.mine, hs.sid, fun k => ?_, ?_, fun x hx y hy => ?_⟩, h.no0, h.last0, h.last1⟩, rfl⟩
   ·have a1 := hs.cnts k
    have a2 := h.two.uniq k
    simp only
    omega
   ·have a1 := hs.len
    have a2 := h.two.few
    simp only
    omega
   ·obtain ⟨v, hv, e⟩ := lev_of_map hs.lev hy
    rw [← e]
    exact h.two.apart x hx v hv
  ·exact ⟨h, rfl⟩
theorem ordsL_len (L : List Lev) : (ordsL L).length = (entL L).length := by simp [ordsL]
theorem ordsL_whole (L : List Lev) : sumI ((ordsL L).map (·.qty)) = wholeL L := by
 unfold ordsL wholeL wholeM
 rw [List.map_map]
 rfl
theorem match_none {o : Ord} {no q : Int} : ∀ {L : List Lev}, o.meets L = false → matchM o no q L = ⟨[], q, false, L⟩
 | [], _ => rfl
 | l :: R, h => by
  rw [matchM, if_neg]
  unfold Ord.meets at h
  rintro ⟨_, h'⟩
  simp only at h
  rw [h] at h'
  cases h'
def ownAt (firm : Int) (X : List Ent) : Nat := X.findIdx fun e => decide (e.o.firm = firm)
def reachM (firm : Int) (X : List Ent) : Int × Bool := if ownAt firm X < X.length then (seenM (X.take (ownAt firm X)), true) else (wholeM X, false)
def givesM (o : Ord) : List Lev → Int
 | [] => 0
 | l :: R => if o.crosses l.1 = true then (if (reachM o.firm l.2).2 = true then (reachM o.firm l.2).1 else (reachM o.firm l.2).1 + givesM o R) else 0
theorem own_here {firm : Int} {e : Ent} {R : List Ent} (h : e.o.firm = firm) : ownAt firm (e :: R) = 0 := by simp [ownAt, List.findIdx_cons, h]
theorem own_next {firm : Int} {e : Ent} {R : List Ent} (h : e.o.firm ≠ firm) : ownAt firm (e :: R) = ownAt firm R + 1 := by simp [ownAt, List.findIdx_cons, h]
theorem own_snoc {firm : Int} {R : List Ent} {x : Ent} (h : ownAt firm R < R.length) : ownAt firm (R ++ [x]) = ownAt firm R := by
 unfold ownAt at *
 rw [List.findIdx_append, if_pos h]
theorem own_snoc' {firm : Int} {R : List Ent} {x : Ent} (h : ¬ ownAt firm R < R.length) (hx : x.o.firm ≠ firm) : ¬ ownAt firm (R ++ [x]) < (R ++ [x]).length := by
 unfold ownAt at *
 rw [List.findIdx_append, if_neg h]
 simp [List.findIdx_cons, hx]
 omega
theorem take_reach (firm : Int) : ∀ (k : Nat) (q : Int) (X : List Ent), q.toNat ≤ k → 0 ≤ q → Good X →
  ((takeM firm q X).2.1 = true → (reachM firm X).2 = true ∧ seenM (takeM firm q X).1 = (reachM firm X).1 ∧ (reachM firm X).1 < q) ∧
  ((takeM firm q X).2.1 = false → seenM (takeM firm q X).1 = q ∧ q ≤ (reachM firm X).1 ∨ (takeM firm q X).2.2 = [] ∧ (reachM firm X).2 = false ∧ seenM (takeM firm q X).1 = (reachM firm X).1) := by
 intro k
 induction k with
 | zero =>
  intro q X hk hq hX
  rw [takeM_zero firm q X (by omega)]
  refine ⟨by simp, fun _ => .inl ⟨by simp [seenM, sumI]; omega, ?_⟩⟩
  have h1 := whole_ge hX.ok
  have h2 := whole_ge (X := X.take (ownAt firm X)) (fun x hx => hX.ok x (List.mem_of_mem_take hx))
  unfold reachM
  split <;> simp only <;> omega
 | succ k ih =>
  intro q X hk hq0 hX
  by_cases hq : q ≤ 0
  ·rw [takeM_zero firm q X hq]
   refine ⟨by simp, fun _ => .inl ⟨by simp [seenM, sumI]; omega, ?_⟩⟩
   have h1 := whole_ge hX.ok
   have h2 := whole_ge (X := X.take (ownAt firm X)) (fun x hx => hX.ok x (List.mem_of_mem_take hx))
   unfold reachM
   split <;> simp only <;> omega
  ·cases X with
   | nil => rw [takeM_nil]; exact ⟨by simp, fun _ => .inr ⟨rfl, rfl, rfl⟩⟩
   | cons e R =>
    have hb := hX.bound (e := e) (by simp)
    by_cases hf : e.o.firm = firm
    ·rw [takeM_own firm q e R (by omega) (by omega) hf]
     have e1 : reachM firm (e :: R) = (0, true) := by
      unfold reachM
      rw [own_here hf, if_pos (by simp)]
      rfl
     rw [e1]
     exact ⟨fun _ => ⟨rfl, rfl, by simp only; omega⟩, by simp⟩
    ·rw [takeM_go firm q e R (by omega) (by omega) hf]
     have h1 := mn_le q e.n
     have h2 := mn_pos q e.n (by omega) (by omega)
     have hg := next_good hX (n := mn q e.n) (by omega) h1.2
     obtain ⟨i1, i2⟩ := ih (q - mn q e.n) (nextM e (mn q e.n) R) (by omega) (by omega) hg
     have hn : (reachM firm (nextM e (mn q e.n) R)).2 = (reachM firm (e :: R)).2 ∧ (reachM firm (nextM e (mn q e.n) R)).1 = (reachM firm (e :: R)).1 - mn q e.n ∨ mn q e.n = q ∧ q ≤ (reachM firm (e :: R)).1 := by
      have hw := next_whole e (mn q e.n) R
      have hs : ∀ n : Int, (e.sub n).o.firm ≠ firm := fun n => hf
      have hs' : ∀ n : Int, (Ent.of (e.sub n).o).o.firm ≠ firm := fun n => hf
      by_cases hr : ownAt firm R < R.length
      ·have e1 : reachM firm (e :: R) = (e.n + seenM (R.take (ownAt firm R)), true) := by
        unfold reachM
        rw [own_next hf, if_pos (by simp only [List.length_cons]; omega)]
        rfl
       have e2 : reachM firm R = (seenM (R.take (ownAt firm R)), true) := by unfold reachM; rw [if_pos hr]
       rw [e1]
       have hge := whole_ge (X := R.take (ownAt firm R)) (fun x hx => hX.ok x (by simp [List.mem_of_mem_take hx]))
       unfold nextM
       split
       ·left
        rw [e2]
        refine ⟨rfl, ?_⟩
        simp only
        omega
       ·split
        ·left
         unfold reachM
         rw [own_snoc hr, if_pos (by simp only [List.length_append]; omega), List.take_append_of_le_length (by omega)]
         refine ⟨rfl, ?_⟩
         simp only
         omega
        ·left
         unfold reachM
         rw [own_next (hs _), if_pos (by simp only [List.length_cons]; omega)]
         refine ⟨rfl, ?_⟩
         rw [List.take_succ_cons, seenM_cons]
         simp only [Ent.sub]
         omega
      ·have e1 : reachM firm (e :: R) = (wholeM (e :: R), false) := by
        unfold reachM
        rw [own_next hf, if_neg (by simp only [List.length_cons]; omega)]
       have e2 : reachM firm (nextM e (mn q e.n) R) = (wholeM (nextM e (mn q e.n) R), false) := by
        unfold reachM
        rw [if_neg]
        unfold nextM
        split
        ·exact hr
        ·split
         ·exact own_snoc' hr (hs' _)
         ·rw [own_next (hs _)]
          simp only [List.length_cons]
          omega
       left
       rw [e1, e2, hw, wholeM_cons]
       refine ⟨rfl, ?_⟩
       simp only
       omega
     rcases hn with ⟨n1, n2⟩ | ⟨n1, n2⟩
     ·rw [n1, n2] at i1 i2
      refine ⟨fun h => ?_, fun h => ?_⟩
      ·obtain ⟨q1, q2, q3⟩ := i1 h
       refine ⟨q1, ?_, by omega⟩
       simp only [seenM_cons]
       omega
      ·rcases i2 h with ⟨q1, q2⟩ | ⟨q1, q2, q3⟩
       ·left
        simp only [seenM_cons]
        omega
       ·right
        refine ⟨q1, q2, ?_⟩
        simp only [seenM_cons]
        omega
     ·have hz : q - mn q e.n = 0 := by omega
      rw [hz, takeM_zero firm 0 _ (by omega)]
      refine ⟨by simp, fun _ => .inl ⟨?_, n2⟩⟩
      simp only [seenM_cons]
      simp [seenM, sumI]
      omega
theorem gives_nn {s : Int} (o : Ord) : ∀ (L : List Lev), Sid s L → 0 ≤ givesM o L
 | [], _ => by simp [givesM]
 | l :: R, hL => by
  have ih := gives_nn o R hL.tail
  obtain ⟨hg, hy⟩ := hL.good (l := l) (by simp)
  have hw := whole_ge hg.ok
  have hge := whole_ge (X := l.2.take (ownAt o.firm l.2)) (fun x hx => hg.ok x (List.mem_of_mem_take hx))
  rw [givesM]
  unfold reachM
  repeat' split
  all_goals first | omega | (simp only at *; omega)
theorem gives_left {s : Int} (o : Ord) : ∀ (L : List Lev) (no q : Int), 0 ≤ q → Sid s L → ((matchM o no q L).left ≤ 0 ↔ q ≤ givesM o L)
 | [], no, q, hq, hL => by simp [matchM, givesM]
 | l :: R, no, q, hq, hL => by
  rw [matchM, givesM]
  obtain ⟨hg, hy⟩ := hL.good (l := l) (by simp)
  obtain ⟨t1, t2, t3, t4, t5⟩ := takeM_facts o.firm _ q l.2 (Nat.le_refl _) hg
  obtain ⟨u1, u2, u3⟩ := takeM_end o.firm _ q l.2 (Nat.le_refl _) hq hg hy
  obtain ⟨r1, r2⟩ := take_reach o.firm _ q l.2 (Nat.le_refl _) hq hg
  have hw := whole_ge hg.ok
  have hge := whole_ge (X := l.2.take (ownAt o.firm l.2)) (fun x hx => hg.ok x (List.mem_of_mem_take hx))
  have hr0 : 0 ≤ (reachM o.firm l.2).1 := by unfold reachM; split <;> simp only <;> omega
  have hgn : 0 ≤ givesM o R := gives_nn o R hL.tail
  by_cases hc : o.crosses l.1 = true
  ·rw [if_pos hc]
   by_cases hq0 : 0 < q
   ·rw [if_pos ⟨hq0, hc⟩]
    have ih := gives_left (s := s) o R (no + ((takeM o.firm q l.2).1.length : Int)) (q - seenM (takeM o.firm q l.2).1) (by have := t5 hq; omega) hL.tail
    generalize takeM o.firm q l.2 = t at *
    obtain ⟨H, b, X⟩ := t
    simp only at *
    by_cases he : X.isEmpty = true
    ·rw [if_pos he]
     have he' : X = [] := by simpa using he
     subst he'
     have hb : b = false := by
      cases b with
      | false => rfl
      | true => obtain ⟨e, E, q1, _⟩ := u2 rfl; cases q1
     subst hb
     simp only
     rw [ih]
     rcases r2 rfl with ⟨q1, q2⟩ | ⟨_, q2, q3⟩
     ·have : q - seenM H = 0 := by omega
      rw [this]
      split <;> constructor <;> intro _ <;> omega
     ·rw [if_neg (by rw [q2]; simp)]
      constructor <;> intro _ <;> omega
    ·rw [if_neg he]
     simp only
     cases b with
     | true =>
      obtain ⟨q1, q2, q3⟩ := r1 rfl
      rw [if_pos q1]
      constructor <;> intro _ <;> omega
     | false =>
      rcases r2 rfl with ⟨q1, q2⟩ | ⟨q1, q2, q3⟩
      ·split <;> constructor <;> intro _ <;> omega
      ·rw [q1] at he; exact absurd rfl he
   ·rw [if_neg (fun h => hq0 h.1)]
    simp only
    split <;> constructor <;> intro _ <;> omega
  ·rw [if_neg hc, if_neg (fun h => hc h.2)]
theorem gives_le {s : Int} (o : Ord) : ∀ (L : List Lev), Sid s L → 0 ≤ givesM o L ∧ givesM o L ≤ wholeL L
 | [], _ => by simp [givesM, wholeL, wholeM, sumI, entL]
 | l :: R, hL => by
  have ih := gives_le o R hL.tail
  obtain ⟨hg, hy⟩ := hL.good (l := l) (by simp)
  have hw := whole_ge hg.ok
  have h1 := whole_ge (X := l.2.take (ownAt o.firm l.2)) (fun x hx => hg.ok x (List.mem_of_mem_take hx))
  have h2 := whole_ge (X := l.2.drop (ownAt o.firm l.2)) (fun x hx => hg.ok x (List.mem_of_mem_drop hx))
  have h3 : wholeM l.2 = wholeM (l.2.take (ownAt o.firm l.2)) + wholeM (l.2.drop (ownAt o.firm l.2)) := by rw [← wholeM_append, List.take_append_drop]
  rw [givesM, wholeL_cons]
  unfold reachM
  repeat' split
  all_goals first | omega | (simp only at *; omega)
theorem wholeL_le {s : Int} {L : List Lev} (h : Sid s L) : 0 ≤ wholeL L ∧ wholeL L ≤ 67108864 := by
 unfold wholeL
 have h1 : ∀ e ∈ entL L, e.ok ∧ e.o.qty ≤ 1048576 := fun e he => by
  unfold entL at he
  obtain ⟨l, hl, he⟩ := List.mem_flatMap.1 he
  have := h.at_ l hl e he
  exact ⟨⟨this.pos, this.le⟩, this.few⟩
 have h2 := whole_ge (fun e he => (h1 e he).1)
 have h3 : ∀ X : List Ent, (∀ e ∈ X, e.o.qty ≤ 1048576) → wholeM X ≤ 1048576 * X.length := fun X => by
  induction X with
  | nil => intro _; simp [wholeM, sumI]
  | cons e X ih =>
   intro h
   have q1 := ih (fun x hx => h x (by simp [hx]))
   have q2 := h e (by simp)
   rw [wholeM_cons]
   simp only [List.length_cons]
   omega
 have h4 := h3 _ (fun e he => (h1 e he).2)
 have := h.few
 omega
section
variable {P : Program} {ops : Array Oper} {Q : Exit → Act → World → Prop} {V : List Kn} {m : Nat} {a0 : Act} {w0 : World} {c0 : Value} {R : Value → World → World → Prop}
structure TInv (ops : Array Oper) (V : List Kn) (m : Nat) (a0 : Act) (w0 : World) (c0 : Value) (R : Value → World → World → Prop) (ls : Array Bool) (a : Act) (w : World) : Prop where
 head : HeadInv .any ops (m + 1) ls
 defers : a.defers = a0.defers
 size : a.tmps.size = a0.tmps.size
 env : ∀ t, (∀ i, i < m + 1 → ls.getD i false = true → dstOf ops i ≠ some t) → a.tmps[t]? = a0.tmps[t]?
 zero : ls.getD 0 false = true → ∀ d, dstOf ops 0 = some d → a.tmps.getD d undef = c0
 early : ls.getD m false = false → (∀ i d, i < m → ls.getD i false = true → dstOf ops i = some d → (knOf V i).p (a.tmps.getD d undef) w) ∧ Kept w0 w
 late : ls.getD m false = true → (∀ i, 1 ≤ i → i < m + 1 → ls.getD i false = true) ∧ ∃ w1, Kept w0 w1 ∧ (∀ i d, 1 ≤ i → i < m → dstOf ops i = some d → (knOf V i).p (a.tmps.getD d undef) w1) ∧ ∀ d, dstOf ops m = some d → R (a.tmps.getD d undef) w1 w
def TZero (P : Program) (ops : Array Oper) (Q : Exit → Act → World → Prop) (n : Nat) (a0 : Act) (c0 : Value) : Prop := ∀ a w, FEnv ops n a0 a → wpOp P ops Q 0 (fun a' w' => a' = a.put (dstOf ops 0) c0 ∧ w' = w) a w
def TLast (P : Program) (ops : Array Oper) (Q : Exit → Act → World → Prop) (V : List Kn) (m : Nat) (a0 : Act) (w0 : World) (R : Value → World → World → Prop) : Prop :=
 ∀ a w, FEnv ops (m + 1) a0 a → FDep ops V m a w → Kept w0 w → wpOp P ops Q m (fun a' w' => ∃ v, a' = a.put (dstOf ops m) v ∧ R v w w') a w
def sinkT (ops : Array Oper) (m : Nat) : Bool := decide (0 < m) && (List.range m).all fun i => i == 0 || (List.range (m + 1)).any fun j => decide (i < j) && Region.waitsFor .any ops j i
theorem waits_on {j i : Nat} {oj : Oper} (h : Region.waitsFor .any ops j i = true) (ho : ops[j]? = some oj) : ∃ e ∈ oj.after, Region.binds .any e = true ∧ e.on = i := by
 unfold Region.waitsFor at h
 simp only [ho] at h
 simp only [Array.any_eq_true', Bool.and_eq_true, beq_iff_eq] at h
 obtain ⟨e, he, hb⟩ := h
 exact ⟨e, he, by simpa using hb⟩
theorem freeT_go (hV0 : V.length = m) (hK0 : V[0]? = some (.eq c0)) (hB : freeB ops (m + 1) a0.tmps.size = true) (hsk : sinkT ops m = true) (hst : ∀ i K, 1 ≤ i → V[i]? = some K → FStep P ops Q V (m + 1) a0 w0 i K)
  (hz : TZero P ops Q (m + 1) a0 c0) (hm : TLast P ops Q V m a0 w0 R)
  (hfin : ∀ a w, TInv ops V m a0 w0 c0 R (Array.replicate (m + 1) true ++ Array.replicate (ops.size - (m + 1)) false) a w → wpAny P .any ops Q (ops.size - (m + 1)) (Array.replicate (m + 1) true ++ Array.replicate (ops.size - (m + 1)) false) a w) :
  ∀ (f : Nat) (U : List Nat) (ls : Array Bool) (a : Act) (w : World), U.length = f → U.Nodup → (∀ i, i ∈ U ↔ i < m + 1 ∧ ls.getD i true = false) → TInv ops V m a0 w0 c0 R ls a w → wpAny P .any ops Q (f + (ops.size - (m + 1))) ls a w := by
 obtain ⟨hn, hsc, hseq, hall⟩ := freeB_facts hB
 simp only [sinkT, Bool.and_eq_true, decide_eq_true_eq] at hsk
 obtain ⟨hm0, hsk⟩ := hsk
 have hop : ∀ i, i < m + 1 → ∃ o d, ops[i]? = some o ∧ o.dst = some d ∧ d < a0.tmps.size ∧ (∀ j, j < i → dstOf ops j ≠ some d) ∧ ∀ e ∈ o.after, Region.binds .any e = true → e.on < i := by
  intro i hi
  have h := List.all_eq_true.1 hall i (by simpa using hi)
  cases ho : ops[i]? with
  | none => rw [ho] at h; cases h
  | some o =>
   rw [ho] at h
   simp only [Bool.and_eq_true] at h
   cases hd : o.dst with
   | none => rw [hd] at h; cases h.1
   | some d =>
    rw [hd] at h
    simp only [Bool.and_eq_true, decide_eq_true_eq, List.all_eq_true, List.mem_range, bne_iff_ne] at h
    refine ⟨o, d, rfl, hd, h.1.1, h.1.2, fun e he hb => ?_⟩
    have h2 := (Array.all_eq_true_iff_forall_mem.1 h.2) e he
    simpa [hb] using h2
 intro f
 induction f with
 | zero =>
  intro U ls a w hU _ hmem inv
  have hnil : U = [] := List.eq_nil_of_length_eq_zero hU
  have hls : ls = Array.replicate (m + 1) true ++ Array.replicate (ops.size - (m + 1)) false := by
   apply Array.ext
   ·simp [inv.head.size]; omega
   ·intro i h1 h2
    have hsz := inv.head.size
    by_cases hi : i < m + 1
    ·have h3 : ¬ (i < m + 1 ∧ ls.getD i true = false) := by
      intro h
      have := (hmem i).2 h
      rw [hnil] at this
      cases this
     have h4 : ls.getD i true = true := by
      cases hq : ls.getD i true with
      | true => rfl
      | false => exact (h3 ⟨hi, hq⟩).elim
     rw [Array.getElem_append_left (by simpa using hi)]
     simp [h1] at h4
     simp [h4]
    ·have h4 := inv.head.tail i (by omega) (by omega)
     rw [Array.getElem_append_right (by simpa using hi)]
     simp [h1] at h4
     simp [h4]
  rw [Nat.zero_add]
  subst hls
  exact hfin a w inv
 | succ f ih =>
  intro U ls a w hU hnd hmem inv
  have hsz := inv.head.size
  rw [show f + 1 + (ops.size - (m + 1)) = (f + (ops.size - (m + 1))) + 1 by omega]
  obtain ⟨u, hu⟩ : ∃ u, u ∈ U := by
   cases U with
   | nil => simp at hU
   | cons u U => exact ⟨u, by simp⟩
  obtain ⟨hun, huf⟩ := (hmem u).1 hu
  refine ⟨fun h0 => ?_, fun i hi => ?_⟩
  ·exfalso
   have key : ∀ k i, i ≤ k → i < m + 1 → ls.getD i true = true := by
    intro k
    induction k using Nat.strongRecOn with
    | _ k ihk =>
     intro i hik hin
     cases hq : ls.getD i true with
     | true => rfl
     | false =>
      obtain ⟨o, d, ho, _, _, _, haft⟩ := hop i hin
      have : i ∈ Region.ready .any ops ls := mem_ready.2 ⟨hq, o, ho, fun e he hb => by
       have hlt := haft e he hb
       have := ihk (k - 1) (by omega) e.on (by omega) (by omega)
       exact getD_tf this (by omega)⟩
      rw [h0] at this
      cases this
   rw [key u u (Nat.le_refl _) hun] at huf
   cases huf
  ·have hin : i < m + 1 := Nat.lt_of_not_le fun h => tail_waits (hsc (Nat.lt_of_le_of_lt h (by obtain ⟨_, o1, ho1, _⟩ := mem_ready.1 hi; exact (Array.getElem?_eq_some_iff.1 ho1).1))).1 (hsc (Nat.lt_of_le_of_lt h (by obtain ⟨_, o1, ho1, _⟩ := mem_ready.1 hi; exact (Array.getElem?_eq_some_iff.1 ho1).1))).2 (Nat.lt_of_le_of_lt h (by obtain ⟨_, o1, ho1, _⟩ := mem_ready.1 hi; exact (Array.getElem?_eq_some_iff.1 ho1).1)) inv.head _ u rfl hun huf i h hi
   obtain ⟨hiun, oi, hoi, hdeps⟩ := mem_ready.1 hi
   obtain ⟨o, d, ho, hd, hdlt, hne, haft⟩ := hop i hin
   obtain rfl : oi = o := Option.some.inj (hoi.symm.trans ho)
   have hdi : dstOf ops i = some d := by simp [dstOf, ho, hd]
   have hiff : ls.getD i false = false := getD_both hiun
   have hne' : ∀ j, j < m + 1 → j ≠ i → dstOf ops j ≠ some d := by
    intro j hj hij hjd
    by_cases hji : j < i
    ·exact hne j hji hjd
    ·obtain ⟨oj, dj, hoj, hdj, _, hnej, _⟩ := hop j hj
     have : dj = d := by
      have h1 : dstOf ops j = some dj := by simp [dstOf, hoj, hdj]
      rw [h1] at hjd
      injection hjd
     subst this
     exact hnej i (by omega) hdi
   have hdlt' : d < a.tmps.size := by rw [inv.size]; exact hdlt
   have hself : ∀ v, (a.put (some d) v).tmps.getD d undef = v := fun v => by simp [Act.put, hdlt']
   have hoth : ∀ v j e, j < m + 1 → j ≠ i → dstOf ops j = some e → (a.put (some d) v).tmps.getD e undef = a.tmps.getD e undef := by
    intro v j e hj hji he
    have : d ≠ e := fun h => hne' j hj hji (by rw [he, h])
    simp only [Act.put, Array.getD_eq_getD_getElem?, slot_set]
    rw [if_neg (fun h => this h.1)]
   have hfe : FEnv ops (m + 1) a0 a := by
    intro t v ht hv
    have ht' : ∀ k, k < m + 1 → ls.getD k false = true → dstOf ops k ≠ some t := fun k hkn _ => by simpa using List.all_eq_true.1 ht k (by simpa using hkn)
    have h1 := inv.env t ht'
    rw [← hv]
    simp only [Act.eval, Array.getD_eq_getD_getElem?, h1]
   have hU' : ∀ k, k ∈ U.erase i ↔ k < m + 1 ∧ (ls.setIfInBounds i true).getD k true = false := by
    intro k
    rw [hnd.mem_erase_iff, hmem k]
    by_cases hki : k = i
    ·subst hki
     simp
    ·rw [getD_set_ne true (fun h => hki h.symm)]
     simp [hki]
   have henv : ∀ v t, (∀ k, k < m + 1 → (ls.setIfInBounds i true).getD k false = true → dstOf ops k ≠ some t) → (a.put (some d) v).tmps[t]? = a0.tmps[t]? := by
    intro v t ht
    have h1 := inv.env t (fun k hkn hl => ht k hkn (getD_set_true hl))
    have h2 : d ≠ t := fun h => ht i hin (by simp [show i < ls.size by omega]) (by rw [hdi, h])
    simp only [Act.put, slot_set]
    rw [if_neg (fun h => h2 h.1), h1]
   have hlen : (U.erase i).length = f := by rw [List.length_erase_of_mem ((hmem i).2 ⟨hin, hiun⟩)]; omega
   have hsetk : ∀ k, k ≠ i → (ls.setIfInBounds i true).getD k false = ls.getD k false := fun k hk => getD_set_ne false (fun h => hk h.symm)
   have hseti : (ls.setIfInBounds i true).getD i false = true := by simp [show i < ls.size by omega]
   have hdep : ls.getD m false = false → FDep ops V i a w := by
    intro hme j e hje
    simp only [Bool.and_eq_true, beq_iff_eq, ho, Option.map_some, Option.some.injEq, Array.any_eq_true'] at hje
    obtain ⟨⟨x, hx, hxb, hxj⟩, hdj⟩ := hje
    subst hxj
    exact (inv.early hme).1 x.on e (by have := haft x hx hxb; omega) (hdeps x hx hxb) hdj
   by_cases him : i = m
   ·subst him
    obtain ⟨hv, hk⟩ := inv.early hiff
    have hlau : ∀ k j, 1 ≤ j → j < i → i ≤ j + k → ls.getD j false = true := by
     intro k
     induction k with
     | zero => intro j _ h1 h2; omega
     | succ k ihk =>
      intro j hj1 hj2 hjk
      have h := List.all_eq_true.1 hsk j (by simpa using hj2)
      simp only [Bool.or_eq_true, beq_iff_eq, List.any_eq_true, List.mem_range, Bool.and_eq_true, decide_eq_true_eq] at h
      rcases h with h | ⟨q, hq1, hq2, hq3⟩
      ·omega
      ·obtain ⟨oq, dq, hoq, _, _, _, _⟩ := hop q hq1
       obtain ⟨e, he, hb, heq⟩ := waits_on hq3 hoq
       by_cases hqi : q = i
       ·subst hqi
        obtain rfl : oq = oi := Option.some.inj (hoq.symm.trans ho)
        rw [← heq]
        exact hdeps e he hb
       ·have := inv.head.closed q oq hoq (ihk q (by omega) (by omega) (by omega)) e he hb
        rw [← heq]
        exact this
    refine wpOp_mono ?_ (hm a w hfe (hdep hiff) hk)
    rintro a' w' ⟨v, rfl, hR⟩
    rw [hdi]
    refine ih (U.erase i) _ _ w' hlen (hnd.erase _) hU' ⟨inv.head.set hi hin, inv.defers, by simp [Act.put, inv.size], henv v, fun hl e he => ?_, fun hl => ?_, fun _ => ⟨fun k hk1 hk2 => ?_, w, hk, fun k e hk1 hk2 he => ?_, fun e he => ?_⟩⟩
    ·rw [hsetk 0 (by omega)] at hl
     rw [hoth v 0 e (by omega) (by omega) he]
     exact inv.zero hl e he
    ·rw [hseti] at hl
     cases hl
    ·by_cases hki : k = i
     ·subst hki; exact hseti
     ·rw [hsetk k hki]
      exact hlau i k hk1 (by omega) (by omega)
    ·rw [hoth v k e (by omega) (by omega) he]
     exact hv k e hk2 (hlau i k hk1 hk2 (by omega)) he
    ·rw [hdi] at he
     injection he with he
     subst he
     rw [hself]
     exact hR
   ·by_cases hi0 : i = 0
    ·subst hi0
     refine wpOp_mono ?_ (hz a w hfe)
     rintro a' w' ⟨rfl, rfl⟩
     rw [hdi]
     refine ih (U.erase 0) _ _ w' hlen (hnd.erase _) hU' ⟨inv.head.set hi hin, inv.defers, by simp [Act.put, inv.size], henv c0, fun _ e he => ?_, fun hl => ⟨fun k e hkn hlk he => ?_, ?_⟩, fun hl => ?_⟩
     ·rw [hdi] at he
      injection he with he
      subst he
      exact hself c0
     ·rw [hsetk m (fun h => him h.symm)] at hl
      by_cases hk0 : k = 0
      ·subst hk0
       rw [hdi] at he
       injection he with he
       subst he
       rw [hself]
       have : knOf V 0 = .eq c0 := by unfold knOf; rw [List.getD_eq_getElem?_getD, hK0]; rfl
       rw [this]
       exact rfl
      ·rw [hsetk k hk0] at hlk
       rw [hoth c0 k e (by omega) hk0 he]
       exact (inv.early hl).1 k e hkn hlk he
     ·rw [hsetk m (fun h => him h.symm)] at hl
      exact (inv.early hl).2
     ·rw [hsetk m (fun h => him h.symm)] at hl
      obtain ⟨h1, w1, h2, h3, h4⟩ := inv.late hl
      refine ⟨fun k hk1 hk2 => by rw [hsetk k (by omega)]; exact h1 k hk1 hk2, w1, h2, fun k e hk1 hk2 he => ?_, fun e he => ?_⟩
      ·rw [hoth c0 k e (by omega) (by omega) he]
       exact h3 k e hk1 hk2 he
      ·rw [hoth c0 m e (by omega) (by omega) he]
       exact h4 e he
    ·have hme : ls.getD m false = false := by
      cases hq : ls.getD m false with
      | false => rfl
      | true =>
       have := (inv.late hq).1 i (by omega) hin
       rw [hiff] at this
       cases this
     obtain ⟨hv, hk⟩ := inv.early hme
     have hK : V[i]? = some (knOf V i) := by
      unfold knOf
      rw [List.getD_eq_getElem?_getD, List.getElem?_eq_getElem (by omega)]
      rfl
     refine wpOp_mono ?_ (hst i _ (by omega) hK a w hfe (hdep hme) hk)
     rintro a' w' ⟨v, rfl, hv', hk'⟩
     rw [hdi]
     refine ih (U.erase i) _ _ w' hlen (hnd.erase _) hU' ⟨inv.head.set hi hin, inv.defers, by simp [Act.put, inv.size], henv v, fun hl e he => ?_, fun hl => ⟨fun k e hkn hlk he => ?_, hk.trans hk'⟩, fun hl => ?_⟩
     ·rw [hsetk 0 (by omega)] at hl
      rw [hoth v 0 e (by omega) (by omega) he]
      exact inv.zero hl e he
     ·by_cases hki : k = i
      ·subst hki
       rw [hdi] at he
       injection he with he
       subst he
       rw [hself]
       exact hv'
      ·rw [hsetk k hki] at hlk
       rw [hoth v k e (by omega) hki he]
       exact (knOf V k).st _ _ _ (hv k e hkn hlk he) hk'
     ·rw [hsetk m (fun h => him h.symm), hme] at hl
      cases hl
theorem actT_filled {a : Act} {w : World} {ls : Array Bool} (hl : ∀ i, i < m + 1 → ls.getD i false = true) (inv : TInv ops V m a0 w0 c0 R ls a w) : a = ⟨(dstsOf ops (m + 1)).foldl (fun t d => t.setIfInBounds d (a.tmps.getD d undef)) a0.tmps, a0.defers⟩ := by
 obtain ⟨t, df⟩ := a
 have h1 := inv.defers
 simp only at h1
 subst h1
 congr 1
 apply Array.ext_getElem?
 intro e
 rw [fold_slots]
 have hsz := inv.size
 simp only at hsz
 by_cases hm : e ∈ dstsOf ops (m + 1)
 ·by_cases hlt : e < a0.tmps.size
  ·rw [if_pos ⟨hm, hlt⟩]
   have : e < t.size := by omega
   simp [this]
  ·rw [if_neg (fun h => hlt h.2), Array.getElem?_eq_none (by omega), Array.getElem?_eq_none (by omega)]
 ·rw [if_neg (fun h => hm h.1)]
  exact inv.env e (fun i hi _ h => hm (List.mem_filterMap.2 ⟨i, by simpa using hi, h⟩))
def TVals (ops : Array Oper) (V : List Kn) (g : Nat → Value) (w : World) : Prop := ∀ i d, (decide (1 ≤ i) && decide (i < V.length) && dstOf ops i == some d) = true → (knOf V i).p (g d) w
theorem wp_freeT {id : Nat} {a : Act} {w : World} {l : List Oper} (m : Nat) (V : List Kn) (c0 : Value) (R : Value → World → World → Prop) (hmo : P.follows Departure.mixedOrders = true) (hV : V.length = m) (hK0 : V[0]? = some (.eq c0)) (hB : freeB l.toArray (m + 1) a.tmps.size = true) (hsk : sinkT l.toArray m = true)
  (hz : TZero P l.toArray Q (m + 1) a c0) (hs : FSteps P l.toArray Q V (m + 1) a w 1 (V.drop 1)) (hm : TLast P l.toArray Q V m a w R)
  (hf : ∀ (g : Nat → Value) w1 w', TVals l.toArray V g w1 → (∀ d, dstOf l.toArray 0 = some d → g d = c0) → (∀ d, dstOf l.toArray m = some d → R (g d) w1 w') → Kept w w1 → wpList P l.toArray Q (l.drop (m + 1)) ⟨(dstsOf l.toArray (m + 1)).foldl (fun t d => t.setIfInBounds d (g d)) a.tmps, a.defers⟩ w') : (Code.region id l.toArray true).wp P Q a w := by
 have hB' := hB
 obtain ⟨hn, _, hseq, _⟩ := freeB_facts hB'
 have hn' : m + 1 ≤ l.length := by simpa using hn
 have hdl : (l.drop (m + 1)).length = l.toArray.size - (m + 1) := by simp
 refine wp_region_any hmo ?_
 have := freeT_go (P := P) (Q := Q) (w0 := w) hV hK0 hB hsk (fun i K hi hK => by
  have := fsteps_at (V.drop 1) 1 hs (i - 1) K (by rw [List.getElem?_drop, show 1 + (i - 1) = i by omega]; exact hK)
  rwa [show 1 + (i - 1) = i by omega] at this) hz hm (fun b u inv => ?_) (m + 1) (List.range (m + 1)) (Array.replicate l.toArray.size false) a w.drew (by simp) List.nodup_range ?_ ?_
 ·have e : m + 1 + (l.toArray.size - (m + 1)) = l.toArray.size := by omega
  rw [e] at this
  exact this
 ·have hl : ∀ i, i < m + 1 → (Array.replicate (m + 1) true ++ Array.replicate (l.toArray.size - (m + 1)) false).getD i false = true := by
   intro i hi
   have hlt : i < (Array.replicate (m + 1) true ++ Array.replicate (l.toArray.size - (m + 1)) false).size := by simp; omega
   rw [Array.getD, dif_pos hlt]
   show (Array.replicate (m + 1) true ++ Array.replicate (l.toArray.size - (m + 1)) false)[i] = true
   rw [Array.getElem_append_left (by simpa using hi)]
   simp
  obtain ⟨_, w1, h1, h2, h3⟩ := inv.late (hl m (by omega))
  have h4 := hf (fun d => b.tmps.getD d undef) w1 u (fun i d hid => by
   simp only [Bool.and_eq_true, decide_eq_true_eq, beq_iff_eq] at hid
   exact h2 i d hid.1.1 (by omega) hid.2) (inv.zero (hl 0 (by omega))) h3 h1
  rw [← actT_filled hl inv] at h4
  have := wpAny_of_seq (P := P) (md := .any) (ops := l.toArray) (Q' := Q) (l.drop (m + 1)) (m + 1) _ b u (fun j => by simp) (by rw [hdl]; exact hseq) h4
  rw [hdl] at this
  exact this
 ·intro i
  rw [List.mem_range]
  constructor
  ·intro hi
   exact ⟨hi, getD_in (by simp; omega) (getD_replicate_false _ _)⟩
  ·exact fun h => h.1
 ·refine ⟨⟨by simp, fun j oj _ hl => (by rw [getD_replicate_false] at hl; cases hl), fun t _ ht => getD_in (by simpa using ht) (getD_replicate_false _ _)⟩, rfl, rfl, fun _ _ => rfl, fun hl => (by rw [getD_replicate_false] at hl; cases hl), fun _ => ⟨fun i d _ hl => (by rw [getD_replicate_false] at hl; cases hl), Keep.drew (Keep.refl _ w)⟩, fun hl => (by rw [getD_replicate_false] at hl; cases hl)⟩
theorem t_zero {t d : Nat} {n : Nat} (o : Oper) (ho : ops[0]? = some o) (hg : o.guard = none) (hop : o.op = .move (.tmp t)) (ht : ((List.range n).all fun i => dstOf ops i != some t) = true) (hv : a0.eval (.tmp t) = c0) : TZero P ops Q n a0 c0 := by
 intro a w hE
 unfold wpOp
 simp only [ho, wanted_none hg, if_true]
 refine .inl ?_
 unfold Oper.wp
 have : (execOp a.eval o).run P w = .ok (.value c0) w := by
  unfold execOp
  simp only [hop, hE t c0 ht hv]
  simp [go_sem]
 rw [this]
 exact ⟨by simp [dstOf, ho], rfl⟩
theorem t_last {v : Value} {w' : World} {a : Act} {w : World} {o : Oper} (ho : ops[m]? = some o) (hw : Region.wanted o (yielded ops a.tmps) = true) (h : (execOp a.eval o).run P w = .ok (.value v) w') (hR : R v w w') : wpOp P ops Q m (fun a' w' => ∃ v, a' = a.put (dstOf ops m) v ∧ R v w w') a w := by
 unfold wpOp
 simp only [ho, hw, if_true]
 refine .inl ?_
 unfold Oper.wp
 rw [h]
 exact ⟨v, by simp [dstOf, ho], hR⟩
end
def Lvl (pr : Int) (T E : TypeId) (w : World) (F : Nat → Prop) (p : Nat) (X : List Ent) : Prop :=
 F p ∧ (∀ b, F b → b < w.heap.size) ∧ ∃ v, Blk w p T [.int .i64 pr, v] ∧ Sl w E 10 v X.length (ents X) ∧ ∀ b, v.ownBlock = some b → F b ∧ b ≠ p
theorem Lvl.keep {S F : Nat → Prop} {pr : Int} {T E : TypeId} {w w' : World} {p : Nat} {X : List Ent} (h : Lvl pr T E w F p X) (hk : Keep S w w') (hn : ∀ b, F b → ¬ S b) : Lvl pr T E w' F p X := by
 obtain ⟨h1, h2, v, h3, h4, h5⟩ := h
 exact ⟨h1, fun b hb => Nat.lt_of_lt_of_le (h2 b hb) hk.size, v, h3.keep hk (hn p h1), h4.keep hk (fun b hb => hn b (h5 b hb).1), h5⟩
theorem Lvl.kept {F : Nat → Prop} {pr : Int} {T E : TypeId} {w w' : World} {p : Nat} {X : List Ent} (h : Lvl pr T E w F p X) (hk : Kept w w') : Lvl pr T E w' F p X := h.keep hk (fun _ _ h => h)
def Grow (w : World) (F F' : Nat → Prop) : Prop := ∀ b, F' b → F b ∨ w.heap.size ≤ b
theorem Grow.refl (w : World) (F : Nat → Prop) : Grow w F F := fun b h => .inl h
theorem Grow.trans {w w' : World} {F F' F'' : Nat → Prop} (h : Grow w F F') (h' : Grow w' F' F'') (hs : w.heap.size ≤ w'.heap.size) : Grow w F F'' := fun b hb => by
 rcases h' b hb with h1 | h1
 ·exact h b h1
 ·exact .inr (by omega)
theorem Grow.keep {w w' w'' : World} {F F' : Nat → Prop} (h : Grow w F F') (hk : Keep F w w') (hk' : Keep F' w' w'') : Keep F w w'' := hk.trans hk' (fun b hb h1 => by
 rcases h b h1 with h2 | h2
 ·exact h2
 ·omega)
theorem ent_ord {w : World} {g off : Nat} {e : Ent} (h : w.rangeAt g off e.cells) : w.rangeAt g off e.o.cells := range_take h 9
theorem sl_one (u : World) (T : TypeId) (k : Nat) (cs : List Value) (base : Nat) (hl : cs.length = k) (hk : k ≤ 1000) (hb : base ≤ u.heap.size) :
  Sl (u.alloc (.cells cs.toArray T)) T k (.slice (some ⟨u.heap.size, 0, none⟩) 1 1) 1 cs ∧ ∀ b, (Value.slice (some ⟨u.heap.size, 0, none⟩) 1 1).ownBlock = some b → base ≤ b := by
 refine ⟨⟨by omega, _, 1, rfl, Nat.le_refl _, by unfold maxLen; omega, fun h => (by cases h), fun ad had => ?_⟩, fun b hb' => by simp [Value.ownBlock] at hb'; omega⟩
 injection had with had
 subst had
 exact ⟨_, 0, cs, rfl, Blk.new u T cs, by omega, by rw [List.drop_zero, List.take_of_length_le (by omega)]⟩
def Kn.emp (base : Nat) (T : TypeId) : Kn := ⟨fun v w => ∃ g, v = .slice (some ⟨g, 0, none⟩) 0 0 ∧ base ≤ g ∧ Blk w g T [], fun _ _ _ ⟨g, h1, h2, h3⟩ hk => ⟨g, h1, h2, h3.kept hk⟩⟩
theorem run_append_emp {t T : TypeId} {k bytes : Nat} (ht : SlT t T k bytes) (ty : TypeId) (w : World) (v x : Value) (m base : Nat) (ds : List Value) (hv : (Kn.emp base T).p v w) (hx : Sl w T k x m ds) (h1 : ∀ u ∈ ds, u.oneCell' = true) (h63 : m ≤ 1000000000) (hlim : bytes ≤ 1000) (hb : base ≤ w.heap.size) :
  ∃ v' w', (Builtin.append_ #[t, t] ty #[v, x]).run Try.prog w = .ok v' w' ∧ (Kn.sl base T k m ds).p v' w' ∧ Kept w w' := by
 obtain ⟨g, rfl, hg, hB⟩ := hv
 have hv : Sl w T k (.slice (some ⟨g, 0, none⟩) 0 0) 0 [] := ⟨by simp, _, 0, rfl, Nat.le_refl _, Nat.zero_le _, fun h => (by cases h), fun ad had => by
  injection had with had
  subst had
  exact ⟨g, 0, [], rfl, hB, by simp, by simp⟩⟩
 have hmb : m * bytes ≤ 1000000000 * 1000 := Nat.mul_le_mul h63 hlim
 obtain ⟨v', w', hr, hs, hk, ho⟩ := run_append_sl ht ty w _ x 0 m [] ds hv hx h1 (by unfold maxLen; omega) (by rw [Nat.zero_add]; omega)
 rw [Nat.zero_add, List.nil_append] at hs
 refine ⟨v', w', hr, ⟨hs, fun b hb' => ?_⟩, ?_⟩
 ·rcases ho b hb' with h | h
  ·simp [Value.ownBlock] at h
   omega
  ·omega
 ·-- the empty block is not turned
  refine ⟨hk.os, hk.tape, hk.output, hk.size, fun b hb' _ => ?_⟩
  by_cases e : b = g
  ·subst e
   obtain ⟨z, hz, hz2, _⟩ := ht.info
   obtain ⟨i0, hi, hz0, hz1, hzb⟩ := info_parts hz
   obtain ⟨hl2, B, d, rfl, hd1, hd2, hd3, hd4⟩ := hx
   cases B with
   | none =>
    have := hd3 rfl
    subst this
    have : m = 0 := by omega
    subst this
    have e1 : (Builtin.append_ #[t, t] ty #[.slice (some ⟨b, 0, none⟩) 0 0, .slice none 0 0]).run Try.prog w = .ok (.slice (some ⟨b, 0, none⟩) 0 0) w := by
     simp [Builtin.append_, run_underlying ht.und, sizeOf, typeInfo, hi, Builtin.lenOf, Builtin.firstCells, loadCells, storeCells]
    rw [e1] at hr
    injection hr with _ hr
    rw [hr]
   | some ad =>
    obtain ⟨g2, off2, cur2, rfl, hB2, hle2, htk2⟩ := hd4 _ rfl
    have hnews : ∀ j u, ds[j]? = some u → w.cell? ((⟨g2, off2, none⟩ : Addr).add j) = some u := fun j u hu => by rw [Addr.add_mid]; exact seg_cell hB2 htk2 j u hu
    by_cases hm : m = 0
    ·subst hm
     have : ds = [] := List.eq_nil_of_length_eq_zero (by omega)
     subst this
     subst hz1
     have e1 := run_append_room_cells (P := Try.prog) w t ty T i0 ht.und hi b 0 0 0 ⟨g2, off2, none⟩ 0 d [] (by simp) hnews h1 (by omega) (by simp) (by simp)
     rw [e1] at hr
     injection hr with _ hr
     rw [← hr]
     simp [World.setCells]
    ·obtain ⟨v2, w2, hr2, hown, hgr⟩ := run_append_arg_grows (P := Try.prog) w t ty T i0 z k bytes ht.und hi hz0 hz1 hzb hz2 ht.pos ⟨b, 0, none⟩ 0 0 [] (by simp) (by simp) ⟨g2, off2, none⟩ m d ds hl2 hnews (by omega) (by unfold maxLen; omega) (by rw [Nat.zero_add]; omega)
     rw [hr2] at hr
     injection hr with _ hr
     rw [← hr]
     exact hgr.block b hb' (by simp)
  ·exact hk.block b hb' (by simp [Value.ownBlock]; omega)
theorem builtE (o : Ord) (n : Int) : Try.prog.built 98 [(0, o.v), (1, .int .i64 n)] = some (Ent.mk o n).cells.toArray := by kernel_rfl
theorem builtH (o : Ord) (n : Int) : Try.prog.built 26 [(0, o.v), (1, .int .i64 n)] = some (Ent.mk o n).cells.toArray := by kernel_rfl
section
variable {a : Act} {o : Oper} {u : World}
theorem exec_boxi (t : TypeId) (x : Operand) (v : Value) (hop : o.op = .box t x) (hx : a.eval x = v) (hv : v.cells = #[v]) : (execOp a.eval o).run Try.prog u = .ok (.value (.pointer (some ⟨u.heap.size, 0, none⟩))) (u.alloc (.cells [v].toArray t)) := by
 unfold execOp
 simp only [hop, hx]
 simp only [Instr.box, newVar, hv]
 simp [go_sem]
def lv0 (pr : Int) : List Value := [.int .i64 pr, .slice none 0 0]
theorem builtL (pr : Int) : Try.prog.built 96 [(0, .int .i64 pr)] = some (lv0 pr).toArray := by kernel_rfl
theorem exec_blvl (pr : Int) (x : Operand) (hop : o.op = .build 96 #[(0, x)]) (hx : a.eval x = .int .i64 pr) : (execOp a.eval o).run Try.prog u = .ok (.value (.agg (lv0 pr).toArray)) u :=
 exec_build 96 [(0, x)] (lv0 pr) hop (by simp only [List.map_cons, List.map_nil, hx]; exact builtL pr)
theorem exec_bent (t : TypeId) (hb : ∀ (o : Ord) (n : Int), Try.prog.built t [(0, o.v), (1, .int .i64 n)] = some (Ent.mk o n).cells.toArray) (x y : Operand) (c : Ord) (n : Int) (hop : o.op = .build t #[(0, x), (1, y)]) (hx : a.eval x = c.v) (hy : a.eval y = .int .i64 n) : (execOp a.eval o).run Try.prog u = .ok (.value (Ent.mk c n).v) u :=
 exec_build t [(0, x), (1, y)] (Ent.mk c n).cells hop (by simp only [List.map_cons, List.map_nil, hx, hy]; exact hb c n)
end
section
variable {ops : Array Oper} {Q : Exit → Act → World → Prop} {a : Act} {w : World} {o : Oper} {rest : List Oper}
theorem l_st1 (ty : TypeId) (g i : Nat) (T : TypeId) (cs : List Value) (v : Value) (x y : Operand) (hw : Region.wanted o (yielded ops a.tmps) = true) (hop : o.op = .store ty x y) (hsz : (Try.prog.info? ty).map (·.size) = some 1) (hx : a.eval x = .pointer (some ⟨g, i, none⟩)) (hy : a.eval y = v) (hv : v.cells = #[v]) (h1 : v.oneCell' = true) (hb : Blk w g T cs) (hi : i < cs.length)
  (hK : ∀ w', Blk w' g T (cs.set i v) → Keep (· = g) w w' → w'.heap.size = w.heap.size → wpList Try.prog ops Q rest (a.put o.dst undef) w') : wpList Try.prog ops Q (o :: rest) a w :=
 l_store (w.setCell ⟨g, i, none⟩ v) hw (exec_store1 ty x y g i v hop hsz hx hy hv h1 (hb.there i 1 (by omega))) (hK _ (hb.set_ i v) (Keep.setCell (Keep.refl (· = g) w) (fun _ => rfl) _) (by simp [World.setCell]))
theorem l_rowi (T : TypeId) (g off n c i j : Nat) (X : List Ent) (e e' : Ent) (z : Int) (ad : Addr) (x y : Operand) (hw : Region.wanted o (yielded ops a.tmps) = true) (hop : o.op = .store 3 x y) (hx : a.eval x = .pointer (some ad)) (hy : a.eval y = .int .i64 z) (had : ad = ⟨g, off + (i * 10 + j), none⟩)
  (hs : Sl w T 10 (.slice (some ⟨g, off, none⟩) n c) n (ents X)) (hn : n = X.length) (he : X[i]? = some e) (hj : j < 10) (he' : e'.cells = e.cells.set j (.int .i64 z))
  (hK : ∀ w', Sl w' T 10 (.slice (some ⟨g, off, none⟩) n c) n (ents (X.set i e')) → Keep (· = g) w w' → w'.heap.size = w.heap.size → wpList Try.prog ops Q rest (a.put o.dst undef) w') : wpList Try.prog ops Q (o :: rest) a w := by
 subst had
 have hi := (List.getElem?_eq_some_iff.1 he).1
 have hm : (i + 1) * 10 ≤ n * 10 := Nat.mul_le_mul_right 10 (by omega)
 obtain ⟨h1, h2, h3, h4⟩ := hs.setCell (i * 10 + j) (.int .i64 z) (by omega)
 refine l_store _ hw (exec_store1 3 x y g _ (.int .i64 z) hop (by kernel_rfl) hx hy rfl rfl h4) (hK _ ?_ h2 h3)
 have := flat_setCell Ent.cells 10 Ent.len10 X i j (.int .i64 z) e e' he hj he'
 unfold ents at h1 ⊢
 rw [← this]
 exact h1
end
theorem sl_cells {w : World} {T : TypeId} {k n : Nat} {v : Value} {cs : List Value} (h : Sl w T k v n cs) : v.cells = #[v] := by
 obtain ⟨_, A, c, rfl, _⟩ := h
 rfl
theorem sl_onec {w : World} {T : TypeId} {k n : Nat} {v : Value} {cs : List Value} (h : Sl w T k v n cs) : v.oneCell' = true := by
 obtain ⟨_, A, c, rfl, _⟩ := h
 rfl
theorem Sl.rng {w : World} {T : TypeId} {n c g off : Nat} {X : List Ent} (h : Sl w T 10 (.slice (some ⟨g, off, none⟩) n c) n (ents X)) (i : Nat) (e : Ent) (he : X[i]? = some e) : w.rangeAt g (off + i * 10) e.cells := by
 obtain ⟨hl, A, c', e', h1, h2, h3, h4⟩ := h
 injection e' with e1 e2 e3
 subst e1 e3
 obtain ⟨g', off', cur, e, hB, h5, h6⟩ := h4 _ rfl
 injection e with e1 e2
 subst e1 e2
 have := range_take (range_drop (seg_cell hB h6) (i * 10)) 10
 rw [show ((ents X).drop (i * 10)).take 10 = _ from flat_at Ent.cells 10 Ent.len10 X i _ he] at this
 exact this
theorem Sl.rngO {w : World} {T : TypeId} {n c g off : Nat} {X : List Ord} (h : Sl w T 9 (.slice (some ⟨g, off, none⟩) n c) n (ords X)) (i : Nat) (e : Ord) (he : X[i]? = some e) : w.rangeAt g (off + i * 9) e.cells := by
 obtain ⟨hl, A, c', e', h1, h2, h3, h4⟩ := h
 injection e' with e1 e2 e3
 subst e1 e3
 obtain ⟨g', off', cur, e, hB, h5, h6⟩ := h4 _ rfl
 injection e with e1 e2
 subst e1 e2
 have := range_take (range_drop (seg_cell hB h6) (i * 9)) 9
 rw [show ((ords X).drop (i * 9)).take 9 = _ from flat_at Ord.cells 9 Ord.len9 X i _ he] at this
 exact this
theorem Sl.some_ {w : World} {T : TypeId} {k n : Nat} {v : Value} {cs : List Value} (h : Sl w T k v n cs) (hn : 0 < n) : ∃ g off c, v = .slice (some ⟨g, off, none⟩) n c := by
 obtain ⟨g, off, c, _, h, _⟩ := h.at_ hn
 exact ⟨g, off, c, h⟩
theorem results_cell {fn : Func} {p : Tmp} {ty : TypeId} {fs : Array Field} (h : fn.results = #[.cell p ty]) (tmps : Array Value) (w : World) (g : Nat) (T : TypeId) (cs : List Value) (hp : tmps.getD p undef = .pointer (some ⟨g, 0, none⟩)) (hg : Blk w g T cs) (hu : Try.prog.underlying ty = some (.struct fs)) (hl : (Try.prog.info? ty).map (·.size) = some cs.length) :
  (results fn tmps).run Try.prog w = .ok (.agg cs.toArray) w := by
 have hp' : tmps[p]?.getD undef = .pointer (some ⟨g, 0, none⟩) := by simpa using hp
 have hr := run_loadVar_row (P := Try.prog) w g T ty cs.toArray (0, 0) _ hg hu rfl (by simpa using hl)
 simp [results, h, hp', asAddr, hr]
theorem results_cell2 {fn : Func} {p q : Tmp} {ty : TypeId} {fs : Array Field} (h : fn.results = #[.cell p ty, .tmp q]) (tmps : Array Value) (w : World) (g : Nat) (T : TypeId) (cs : List Value) (b : Bool) (hp : tmps.getD p undef = .pointer (some ⟨g, 0, none⟩)) (hq : tmps.getD q undef = .bool b) (hg : Blk w g T cs) (hu : Try.prog.underlying ty = some (.struct fs)) (hl : (Try.prog.info? ty).map (·.size) = some cs.length) :
  (results fn tmps).run Try.prog w = .ok (.tuple #[.agg cs.toArray, .bool b]) w := by
 have hp' : tmps[p]?.getD undef = .pointer (some ⟨g, 0, none⟩) := by simpa using hp
 have hq' : tmps[q]?.getD undef = .bool b := by simpa using hq
 have hr := run_loadVar_row (P := Try.prog) w g T ty cs.toArray (0, 0) _ hg hu rfl (by simpa using hl)
 simp [results, h, hp', hq', asAddr, hr]
theorem run_eqInts (d n : Nat) (w : World) (l m : List Int) (s t : List UInt8) (hl : l.length = n) (hm : m.length = n) : ∀ (k : Nat) (fs : List Field), k ≤ n →
  fs.map (fun f => (f.name == "_", f.type, f.offset)) = (List.range' (n - k) k).map (fun i => (false, 3, i)) →
  (Op.eqFields (d + 1) (stc l s).toArray (stc m t).toArray fs).run Try.prog w = .ok (decide (l.drop (n - k) = m.drop (n - k))) w
 | 0, fs, hk, h => by
  match fs, h with
  | [], h => simp [Op.eqFields, List.drop_of_length_le, hl, hm]
  | f :: fs, h => simp at h
 | k + 1, fs, hk, h => by
  match fs, h with
  | [], h => simp at h
  | f :: fs, h =>
   have e0 : n - (k + 1) + 1 = n - k := by omega
   simp only [List.range'_succ, List.map_cons, List.cons.injEq, Prod.mk.injEq, e0] at h
   obtain ⟨⟨h1, h2, h3⟩, h4⟩ := h
   have ih := run_eqInts d n w l m s t hl hm k fs (by omega) h4
   have hx : (l)[n - (k + 1)]? = some (l[n - (k + 1)]'(by omega)) := List.getElem?_eq_getElem (by omega)
   have hy : (m)[n - (k + 1)]? = some (m[n - (k + 1)]'(by omega)) := List.getElem?_eq_getElem (by omega)
   rw [run_eqInt d _ _ w f fs _ _ h1 h2 (by rw [h3]; simpa using stc_int l s _ _ hx) (by rw [h3]; simpa using stc_int m t _ _ hy) _ ih]
   congr 1
   rw [List.drop_eq_getElem_cons (by omega : n - (k + 1) < l.length), List.drop_eq_getElem_cons (by omega : n - (k + 1) < m.length), e0]
   rw [Bool.eq_iff_iff]
   simp
theorem ord_fields : (Try.prog.fieldsOf 24).toList.map (fun f => (f.name == "_", f.type, f.offset)) = (List.range' 0 9).map (fun i => (false, 3, i)) := by kernel_rfl
theorem run_eqOrd (d : Nat) (c e : Ord) (w : World) : (Op.equalIn (d + 2) 24 c.v e.v).run Try.prog w = .ok (decide (c = e)) w := by
 unfold Ord.v
 rw [run_equalIn_struct w (d + 1) 24 _ _ (by kernel_rfl) (by kernel_rfl)]
 unfold Ord.cells
 rw [run_eqInts d 9 w c.l e.l [] [] rfl rfl 9 _ (by omega) (by rw [Nat.sub_self]; exact ord_fields)]
 congr 1
 rw [Bool.eq_iff_iff]
 simp only [Nat.sub_self, List.drop_zero, decide_eq_true_eq]
 exact ⟨fun h => Ord.ext_l h, fun h => by rw [h]⟩
theorem run_partO (xs : Array Value) (o : Ord) (hx : xs.extract 0 9 = o.cells.toArray) (w : World) : (part 24 xs 0).run Try.prog w = .ok o.v w := by
 have hs := ord_size
 cases hq : Try.prog.info? 24 with
 | none => simp [hq] at hs
 | some i =>
  have h2 : i.size = 9 := by simpa [hq] using hs
  have hagg : (isAgg 24).run Try.prog w = .ok true w := by
   unfold isAgg
   rw [Sem.run_bind, run_underlying Try.underlying24 w]
   rfl
  simp [part, Sem.run_bind, hagg, sizeOf, typeInfo, hq, h2, hx, Ord.v]
theorem hit_fields : (Try.prog.fieldsOf 26).toList.map (fun f => (f.name == "_", f.type, f.offset)) = [(false, 24, 0), (false, 3, 9)] := by kernel_rfl
theorem run_eqHit (c e : Ent) (w : World) : (Op.equalIn 10000 26 c.v e.v).run Try.prog w = .ok (decide (c = e)) w := by
 unfold Ent.v
 rw [run_equalIn_struct w 9999 26 _ _ (by kernel_rfl) (by kernel_rfl)]
 have hf := hit_fields
 generalize (Try.prog.fieldsOf 26).toList = fs at hf
 match fs, hf with
 | [], hf => cases hf
 | [f], hf => simp at hf
 | f :: g :: f' :: fs, hf => simp at hf
 | [f, g], hf =>
  simp only [List.map_cons, List.map_nil, List.cons.injEq, Prod.mk.injEq, and_true] at hf
  obtain ⟨⟨h1, h2, h3⟩, ⟨h4, h5, h6⟩⟩ := hf
  have hn' : f.name ≠ "_" := by simpa using h1
  have e1 := run_partO c.cells.toArray c.o rfl w
  have e2 := run_partO e.cells.toArray e.o rfl w
  rw [← h2, ← h3] at e1 e2
  have e3 := run_eqInt 9998 c.cells.toArray e.cells.toArray w g [] c.n e.n h4 h5 (by rw [h6]; rfl) (by rw [h6]; rfl) true (by simp [Op.eqFields])
  have e4 := run_eqOrd 9997 c.o e.o w
  rw [← h2] at e4
  simp only [Op.eqFields, if_pos hn', Sem.run_bind, e1, e2, e4, Result.andThen_ok] at e3 ⊢
  by_cases hce : c.o = e.o
  ·simp only [hce, decide_true, Bool.not_true, Bool.false_eq_true, if_false]
   rw [e3]
   congr 1
   rw [Bool.eq_iff_iff]
   simp only [Bool.and_true, beq_iff_eq, decide_eq_true_eq]
   constructor
   ·intro h
    cases c; cases e
    simp_all
   ·intro h
    rw [h]
  ·have hne : c ≠ e := fun h => hce (by rw [h])
   simp [hce, hne]
section
variable {a : Act} {o : Oper} {u : World}
theorem exec_eqO (x y : Operand) (t' : TypeId) (c e : Ord) (hop : o.op = .binOp .eql 24 x y t') (hx : a.eval x = c.v) (hy : a.eval y = e.v) : (execOp a.eval o).run Try.prog u = .ok (.value (.bool (decide (c = e)))) u := by
 have h := run_eqOrd 9998 c e u
 unfold Ord.v at h hx hy
 unfold execOp
 simp only [hop, hx, hy, Sem.run_bind]
 rw [run_eqGuard_agg u .eql 24 x y _ _ (by kernel_rfl)]
 simp only [Result.andThen_ok, run_eql_struct, h]
 rfl
theorem exec_neO (x y : Operand) (t' : TypeId) (c e : Ord) (hop : o.op = .binOp .neq 24 x y t') (hx : a.eval x = c.v) (hy : a.eval y = e.v) : (execOp a.eval o).run Try.prog u = .ok (.value (.bool (decide (c ≠ e)))) u := by
 have h := run_eqOrd 9998 c e u
 unfold Ord.v at h hx hy
 unfold execOp
 simp only [hop, hx, hy, Sem.run_bind]
 rw [run_eqGuard_agg u .neq 24 x y _ _ (by kernel_rfl)]
 simp only [Result.andThen_ok, run_neq_struct, h]
 simp [go_sem]
theorem exec_neH (x y : Operand) (t' : TypeId) (c e : Ent) (hop : o.op = .binOp .neq 26 x y t') (hx : a.eval x = c.v) (hy : a.eval y = e.v) : (execOp a.eval o).run Try.prog u = .ok (.value (.bool (decide (c ≠ e)))) u := by
 have h := run_eqHit c e u
 unfold Ent.v at h hx hy
 unfold execOp
 simp only [hop, hx, hy, Sem.run_bind]
 rw [run_eqGuard_agg u .neq 26 x y _ _ (by kernel_rfl)]
 simp only [Result.andThen_ok, run_neq_struct, h]
 simp [go_sem]
theorem exec_neHb (b : Bool) (x y : Operand) (t' : TypeId) (c e : Ent) (hop : o.op = .binOp .neq 26 x y t') (hx : a.eval x = c.v) (hy : a.eval y = e.v) (hb : decide (c ≠ e) = b) : (execOp a.eval o).run Try.prog u = .ok (.value (.bool b)) u := by rw [← hb]; exact exec_neH x y t' c e hop hx hy
theorem exec_neOb (b : Bool) (x y : Operand) (t' : TypeId) (c e : Ord) (hop : o.op = .binOp .neq 24 x y t') (hx : a.eval x = c.v) (hy : a.eval y = e.v) (hb : decide (c ≠ e) = b) : (execOp a.eval o).run Try.prog u = .ok (.value (.bool b)) u := by rw [← hb]; exact exec_neO x y t' c e hop hx hy
end
theorem take_next {α : Type} {xs ys : List α} {k : Nat} (h : xs.take k = ys.take k) (he : xs[k]? = ys[k]?) : xs.take (k + 1) = ys.take (k + 1) := by
 rw [List.take_add_one, List.take_add_one, h, he]
theorem take_whole {α : Type} {xs ys : List α} {k : Nat} (h : xs.take k = ys.take k) (h1 : xs.length ≤ k) (h2 : ys.length ≤ k) : xs = ys := by
 rwa [List.take_of_length_le h1, List.take_of_length_le h2] at h
def Fl.l (f : Fl) : List Int := f.mk_.l ++ (f.tk.l ++ [f.price, f.qty, f.no])
def Fl.cells (f : Fl) : List Value := stc f.l []
def Fl.v (f : Fl) : Value := .agg f.cells.toArray
theorem Fl.len21 (f : Fl) : f.cells.length = 21 := by unfold Fl.cells; rw [stc_len]; rfl
theorem Fl.one (f : Fl) : ∀ u ∈ f.cells, u.oneCell' = true := stc_one _ _
def fls (F : List Fl) : List Value := F.flatMap Fl.cells
theorem fls_snoc (F : List Fl) (f : Fl) : fls (F ++ [f]) = fls F ++ f.cells := by simp [fls]
def zeroF : Fl := ⟨zeroO, zeroO, 0, 0, 0⟩
theorem slF : SlT 52 61 21 168 := ⟨Try.underlying52, by kernel_rfl, ⟨zeroF.v, by kernel_rfl, rfl, by intro u hu; exact zeroF.one u (by simpa [Fl.v, Value.cells] using hu)⟩, by omega⟩
theorem zF : (Try.prog.info? 61).map (·.zero) = some (some (.agg zeroF.cells.toArray)) := by kernel_rfl
theorem szF : (Try.prog.info? 61).map (·.size) = some 21 := by kernel_rfl
theorem Sl.rngF {w : World} {T : TypeId} {n c g off : Nat} {X : List Fl} (h : Sl w T 21 (.slice (some ⟨g, off, none⟩) n c) n (fls X)) (i : Nat) (e : Fl) (he : X[i]? = some e) : w.rangeAt g (off + i * 21) e.cells := by
 obtain ⟨hl, A, c', e', h1, h2, h3, h4⟩ := h
 injection e' with e1 e2 e3
 subst e1 e3
 obtain ⟨g', off', cur, e, hB, h5, h6⟩ := h4 _ rfl
 injection e with e1 e2
 subst e1 e2
 have := range_take (range_drop (seg_cell hB h6) (i * 21)) 21
 rw [show ((fls X).drop (i * 21)).take 21 = _ from flat_at Fl.cells 21 Fl.len21 X i _ he] at this
 exact this
theorem builtF (o p : Ord) (x y z : Int) : Try.prog.built 61 [(0, o.v), (1, p.v), (2, .int .i64 x), (3, .int .i64 y), (4, .int .i64 z)] = some (Fl.mk o p x y z).cells.toArray := by kernel_rfl
theorem run_partO2 (xs : Array Value) (k : Nat) (o : Ord) (hx : xs.extract k (k + 9) = o.cells.toArray) (w : World) : (part 24 xs k).run Try.prog w = .ok o.v w := by
 have hs := ord_size
 cases hq : Try.prog.info? 24 with
 | none => simp [hq] at hs
 | some i =>
  have h2 : i.size = 9 := by simpa [hq] using hs
  have hagg : (isAgg 24).run Try.prog w = .ok true w := by
   unfold isAgg
   rw [Sem.run_bind, run_underlying Try.underlying24 w]
   rfl
  simp [part, Sem.run_bind, hagg, sizeOf, typeInfo, hq, h2, hx, Ord.v]
theorem fill_fields : (Try.prog.fieldsOf 61).toList.map (fun f => (f.name == "_", f.type, f.offset)) = [(false, 24, 0), (false, 24, 9), (false, 3, 18), (false, 3, 19), (false, 3, 20)] := by kernel_rfl
theorem run_eqFill (c e : Fl) (w : World) : (Op.equalIn 10000 61 c.v e.v).run Try.prog w = .ok (decide (c = e)) w := by
 unfold Fl.v
 rw [run_equalIn_struct w 9999 61 _ _ (by kernel_rfl) (by kernel_rfl)]
 have hf := fill_fields
 generalize (Try.prog.fieldsOf 61).toList = fs at hf
 match fs, hf with
 | [], hf => cases hf
 | [_], hf => simp at hf
 | [_, _], hf => simp at hf
 | [_, _, _], hf => simp at hf
 | [_, _, _, _], hf => simp at hf
 | _ :: _ :: _ :: _ :: _ :: _ :: _, hf => simp at hf
 | [f, g, h, i, j], hf =>
  simp only [List.map_cons, List.map_nil, List.cons.injEq, Prod.mk.injEq, and_true] at hf
  obtain ⟨⟨a1, a2, a3⟩, ⟨b1, b2, b3⟩, ⟨c1, c2, c3⟩, ⟨d1, d2, d3⟩, ⟨e1, e2, e3⟩⟩ := hf
  have na : f.name ≠ "_" := by simpa using a1
  have nb : g.name ≠ "_" := by simpa using b1
  have p1 := run_partO2 c.cells.toArray 0 c.mk_ rfl w
  have p2 := run_partO2 e.cells.toArray 0 e.mk_ rfl w
  have p3 := run_partO2 c.cells.toArray 9 c.tk rfl w
  have p4 := run_partO2 e.cells.toArray 9 e.tk rfl w
  rw [← a2, ← a3] at p1 p2
  rw [← b2, ← b3] at p3 p4
  have q3 := run_eqInt 9998 c.cells.toArray e.cells.toArray w j [] c.no e.no e1 e2 (by rw [e3]; rfl) (by rw [e3]; rfl) true (by simp [Op.eqFields])
  have q2 := run_eqInt 9998 c.cells.toArray e.cells.toArray w i [j] c.qty e.qty d1 d2 (by rw [d3]; rfl) (by rw [d3]; rfl) _ q3
  have q1 := run_eqInt 9998 c.cells.toArray e.cells.toArray w h [i, j] c.price e.price c1 c2 (by rw [c3]; rfl) (by rw [c3]; rfl) _ q2
  have r1 := run_eqOrd 9997 c.mk_ e.mk_ w
  have r2 := run_eqOrd 9997 c.tk e.tk w
  rw [← a2] at r1
  rw [← b2] at r2
  have s2 : (Op.eqFields (9998 + 1) c.cells.toArray e.cells.toArray [g, h, i, j]).run Try.prog w = .ok (decide (c.tk = e.tk) && (c.price == e.price && (c.qty == e.qty && (c.no == e.no && true)))) w := by
   rw [Op.eqFields]
   simp only [if_pos nb, Sem.run_bind, p3, p4, r2, Result.andThen_ok]
   by_cases hce : c.tk = e.tk
   ·simp only [hce, decide_true, Bool.not_true, Bool.false_eq_true, if_false, Bool.true_and]
    exact q1
   ·simp [hce]
  have s1 : (Op.eqFields (9998 + 1) c.cells.toArray e.cells.toArray [f, g, h, i, j]).run Try.prog w = .ok (decide (c.mk_ = e.mk_) && (decide (c.tk = e.tk) && (c.price == e.price && (c.qty == e.qty && (c.no == e.no && true))))) w := by
   rw [Op.eqFields]
   simp only [if_pos na, Sem.run_bind, p1, p2, r1, Result.andThen_ok]
   by_cases hce : c.mk_ = e.mk_
   ·simp only [hce, decide_true, Bool.not_true, Bool.false_eq_true, if_false, Bool.true_and]
    exact s2
   ·simp [hce]
  rw [show (9999 : Nat) = 9998 + 1 from rfl, s1]
  congr 1
  rw [Bool.eq_iff_iff]
  simp only [Bool.and_true, Bool.and_eq_true, beq_iff_eq, decide_eq_true_eq]
  constructor
  ·rintro ⟨h1, h2, h3, h4, h5⟩
   cases c; cases e
   simp_all
  ·intro h
   rw [h]
   exact ⟨rfl, rfl, rfl, rfl, rfl⟩
section
variable {a : Act} {o : Oper} {u : World}
theorem exec_neF (x y : Operand) (t' : TypeId) (c e : Fl) (hop : o.op = .binOp .neq 61 x y t') (hx : a.eval x = c.v) (hy : a.eval y = e.v) : (execOp a.eval o).run Try.prog u = .ok (.value (.bool (decide (c ≠ e)))) u := by
 have h := run_eqFill c e u
 unfold Fl.v at h hx hy
 unfold execOp
 simp only [hop, hx, hy, Sem.run_bind]
 rw [run_eqGuard_agg u .neq 61 x y _ _ (by kernel_rfl)]
 simp only [Result.andThen_ok, run_neq_struct, h]
 simp [go_sem]
theorem exec_neFb (b : Bool) (x y : Operand) (t' : TypeId) (c e : Fl) (hop : o.op = .binOp .neq 61 x y t') (hx : a.eval x = c.v) (hy : a.eval y = e.v) (hb : decide (c ≠ e) = b) : (execOp a.eval o).run Try.prog u = .ok (.value (.bool b)) u := by rw [← hb]; exact exec_neF x y t' c e hop hx hy
theorem exec_eqOb' (b : Bool) (x y : Operand) (t' : TypeId) (c e : Ord) (hop : o.op = .binOp .eql 24 x y t') (hx : a.eval x = c.v) (hy : a.eval y = e.v) (hb : decide (c = e) = b) : (execOp a.eval o).run Try.prog u = .ok (.value (.bool b)) u := by rw [← hb]; exact exec_eqO x y t' c e hop hx hy
theorem exec_ldb (t : TypeId) (hu : Try.prog.underlying t = some .bool) (x : Operand) (ad : Addr) (v : Value) (hop : o.op = .load t x) (hx : a.eval x = .pointer (some ad)) (hc : u.cell? ad = some v) :
  (execOp a.eval o).run Try.prog u = .ok (.value v) u := by
 unfold execOp
 simp only [hop, hx, Instr.loadAt, Instr.sureAddr, Sem.run_bind, Sem.run_pure, Result.andThen_ok]
 simp [loadVar, isAgg, run_underlying hu, Sem.run_bind, hc, go_sem]
end
def Oc.cells (x : Oc) (v : Value) : List Value := x.o.cells ++ [v, .int .i64 x.left, .bool x.rests, .bool false, .bool x.self, .int .i64 x.err]
def Oc.v (x : Oc) (v : Value) : Value := .agg (x.cells v).toArray
theorem Oc.len15 (x : Oc) (v : Value) : (x.cells v).length = 15 := by unfold Oc.cells; rw [List.length_append, Ord.len9]; rfl
theorem Oc.one (x : Oc) (v : Value) (hv : v.oneCell' = true) : ∀ u ∈ x.cells v, u.oneCell' = true := by
 intro u hu
 unfold Oc.cells at hu
 rcases List.mem_append.1 hu with hu | hu
 ·exact x.o.one1 u hu
 ·simp at hu
  rcases hu with rfl | rfl | rfl | rfl | rfl | rfl
  ·exact hv
  all_goals rfl
def zeroC : Oc := ⟨zeroO, [], 0, false, false, 0⟩
theorem zC : (Try.prog.info? 54).map (·.zero) = some (some (.agg (zeroC.cells (.slice none 0 0)).toArray)) := by kernel_rfl
theorem szC : (Try.prog.info? 54).map (·.size) = some 15 := by kernel_rfl
theorem oc_ord {w : World} {g : Nat} {T : TypeId} {x : Oc} {v : Value} (h : Blk w g T (x.cells v)) : w.rangeAt g 0 x.o.cells := range_take (blk_range h) 9
theorem Grow.wide {w w' : World} {F F' : Nat → Prop} (h : Grow w' F F') (hs : w.heap.size ≤ w'.heap.size) : Grow w F F' := fun b hb => (h b hb).imp id (fun h => Nat.le_trans hs h)
theorem Keep.new {S : Nat → Prop} {a b c : World} {g : Nat} (h : Keep S a b) (k : Keep (· = g) b c) (hg : a.heap.size ≤ g) : Keep S a c := h.trans k (fun i hi e => by omega)
theorem Keep.any {S : Nat → Prop} {a b c : World} (h : Kept a b) (k : Keep S b c) : Keep S a c := (h.mono (T := S) (fun _ _ h => h.elim)).trans k (fun _ _ h => h)
theorem Gives.base {f : Nat} {args : Array Value} {u : World} {b base : Nat} {T : TypeId} {k n : Nat} {cs : List Value} (h : Gives f args u (.sl b T k n cs)) (hb : base ≤ b) : Gives f args u (.sl base T k n cs) :=
 h.mono fun e w' ⟨v, h1, h2, h3⟩ => ⟨v, h1, ⟨h2.1, fun b hb' => Nat.le_trans hb (h2.2 b hb')⟩, h3⟩
end Go.Proofs.Ytklohceombpleaa
namespace Go.Proofs.Ytklohceombpleaa
open Go.RowKit
set_option maxRecDepth 100000
variable {pr : Int}
set_option maxRecDepth 100000 in
set_option maxHeartbeats 800000 in
theorem shown_any (c : Ord) (w : World) : Gives 100 #[c.v] w (.eq (.int .i64 c.tip)) := by
 refine gives_eq ?_
 go_enter Try.func100, Try.ntmps100
 go_upto_region 0 with fail
 refine wp_text 2 [.fresh w.heap.size 24 (c.cells), iE 0] rfl (by kernel_rfl) ?_ ?_
 ·refine nW 1 rfl (fun a u E D hk=>⟨_, _, exec_box 24 _ (c.cells) rfl (eE E), ⟨_, rfl, hk.size, Blk.new u _ _⟩, ((Keep.refl _ u).alloc _)⟩) ?_
  refine sW 2 rfl (fun a u E D hk=>exec_assign _ _ rfl rfl) ?_
  exact fz
 intro gv w1 hV k1
 rw [dq 2 [1,2]]
 simp only [Fz7]
 have hv1 : (.fresh w.heap.size 24 (c.cells) : Kn).p (gv 1) w1 := hV 0 1 (by kernel_rfl)
 generalize gv 1 = v1 at hv1 ⊢
 rw [gQ hV 1 2 (.int .i64 0)]
 clear hV
 obtain ⟨g, rfl, hg, hB⟩ := hv1
 refine wpList_nil ?_
 have HB := Lib.hid (blk_range hB)
 clear hB
 by_cases hs : 0 < c.shw
 ·have HT : Hid (c.tip = mn c.shw c.qty) := by show _ = _; unfold Ord.tip; rw [if_pos hs]
  go_upto_region 1 with fail
  refine wE 3 [pV g 7, iV c.shw, bV true] [3,4,5] ?_ ?_
  ·refine fE 1 1 24 7 7 0 ?_
   refine lD 2 3 0 Try.underlying3 (fun u hk=>range_int (range_kept HB.out hk) 7 _ rfl) ?_
   refine aS 3 rfl (fun a u E D hk=>exec_gtn rfl (dD D 1) rfl) (decide_eq_true hs) ?_
   exact fz
  intro w2 k2
  simp only [F8]
  have HB2 := Lib.hid (range_kept HB.out k2)
  clear HB hs
  go_upto_region 2 with fail
  refine wE 6 [pV g 7, iV c.shw, pV g 6, iV c.qty, iV (mn (c.shw) (c.qty)), iV (mn (c.shw) (c.qty))] [6,7,8,9,10,2] ?_ ?_
  ·refine fE 1 1 24 7 7 0 ?_
   refine lD 2 6 0 Try.underlying3 (fun u hk=>range_int (range_kept HB2.out hk) 7 _ rfl) ?_
   refine fE 3 1 24 6 6 0 ?_
   refine lD 4 8 2 Try.underlying3 (fun u hk=>range_int (range_kept HB2.out hk) 6 _ rfl) ?_
   refine sW 5 rfl (fun a u E D hk=>exec_min _ _ _ (c.shw) (c.qty) (mn (c.shw) (c.qty)) rfl (dD D 1) (dD D 3) rfl) ?_
   refine mD 6 10 4 ?_
   exact fz
  intro w3 k3
  simp only [F8]
  go_wp2
  go_ret
  exact ⟨by rw [HT.out]; rfl, (k1.trans k2).trans k3⟩
 ·have HT : Hid (c.tip = c.qty) := by show _ = _; unfold Ord.tip; rw [if_neg hs]
  go_upto_region 1 with fail
  refine wE 3 [pV g 7, iV c.shw, bV false] [3,4,5] ?_ ?_
  ·refine fE 1 1 24 7 7 0 ?_
   refine lD 2 3 0 Try.underlying3 (fun u hk=>range_int (range_kept HB.out hk) 7 _ rfl) ?_
   refine aS 3 rfl (fun a u E D hk=>exec_gtn rfl (dD D 1) rfl) (decide_eq_false hs) ?_
   exact fz
  intro w2 k2
  simp only [F8]
  have HB2 := Lib.hid (range_kept HB.out k2)
  clear HB hs
  go_upto_region 3 with fail
  refine wE 3 [pV g 6, iV c.qty, iV c.qty] [11,12,2] ?_ ?_
  ·refine fE 1 1 24 6 6 0 ?_
   refine lD 2 11 0 Try.underlying3 (fun u hk=>range_int (range_kept HB2.out hk) 6 _ rfl) ?_
   refine mD 3 12 1 ?_
   exact fz
  intro w3 k3
  simp only [F8]
  go_wp2
  go_ret
  exact ⟨by rw [HT.out]; rfl, (k1.trans k2).trans k3⟩
theorem lnew_any (pr : Int) (w : World) : Calls Try.prog 99 #[.int .i64 pr] w fun e w' => ∃ p F, e = .returned (.pointer (some ⟨p, 0, none⟩)) ∧ Lvl pr 96 98 w' F p [] ∧ Grow w (fun _ => False) F ∧ Kept w w' := by
 go_enter Try.func99, Try.ntmps99
 go_upto_region 1 with fail
 refine wp_text 3 [iE pr, .eq (.agg (lv0 pr).toArray), .fresh w.heap.size 96 (lv0 pr)] rfl (by kernel_rfl) ?_ ?_
 ·refine mE 1 0 ?_
  refine sW 2 rfl (fun a u E D hk=>exec_blvl pr _ rfl (dD D 0)) ?_
  refine nW 3 rfl (fun a u E D hk=>⟨_, _, exec_box 96 _ (lv0 pr) rfl (dD D 1), ⟨_, rfl, hk.size, Blk.new u _ _⟩, ((Keep.refl _ u).alloc _)⟩) ?_
  exact fz
 intro gv w1 hV k1
 rw [dq 3 [3,4,5]]
 simp only [Fz7]
 have hv5 : (.fresh w.heap.size 96 (lv0 pr) : Kn).p (gv 5) w1 := hV 2 5 (by kernel_rfl)
 generalize gv 5 = v5 at hv5 ⊢
 clear hV
 obtain ⟨g, rfl, hg, hB⟩ := hv5
 refine l_val (.pointer (some ⟨g, 0, none⟩)) rfl (exec_assign _ _ rfl (by kernel_rfl)) ?_
 simp only [Act.put, sA, sS, sZ]
 refine wpList_nil ?_
 go_wp2
 go_ret
 refine ⟨g, (· = g), rfl, ⟨rfl, fun b hb => by subst hb; exact hB.lt, _, hB, Sl.nil _ _ _, fun b hb => by simp [Value.ownBlock] at hb⟩, fun b hb => .inr (by omega), k1⟩
theorem price_any (w : World) (F : Nat → Prop) (p : Nat) (X : List Ent) (h : Lvl pr 96 98 w F p X) : Gives 91 #[.pointer (some ⟨p, 0, none⟩)] w (.eq (.int .i64 pr)) := by
 refine gives_eq ?_
 obtain ⟨h1, h2, v, hB, hS, h5⟩ := h
 have HB := Lib.hid hB
 have HS := Lib.hid hS
 clear hB hS h5
 go_enter Try.func91, Try.ntmps91
 go_upto_region 1 with fail
 refine wE 5 [pV p 0, pV p 0, pV p 0, iV pr, iV pr] [3,4,5,6,2] ?_ ?_
 ·refine mE 1 0 ?_
  refine nD 2 3 0 ?_
  refine fD 3 4 1 96 0 0 0 ?_
  refine sW 4 rfl (fun a u E D hk=>exec_loadi _ Try.underlying3 _ _ _ rfl (dD D 2) (by rw [(HB.out.kept hk).cell]; rfl)) ?_
  refine mD 5 6 3 ?_
  exact fz
 intro w1 k1
 simp only [F8]
 go_wp2
 go_ret
 exact ⟨rfl, k1⟩
theorem len_any (w : World) (F : Nat → Prop) (p : Nat) (X : List Ent) (h : Lvl pr 96 98 w F p X) : Gives 75 #[.pointer (some ⟨p, 0, none⟩)] w (.eq (.int .i64 (X.length : Int))) := by
 refine gives_eq ?_
 obtain ⟨h1, h2, v, hB, hS, h5⟩ := h
 have HB := Lib.hid hB
 have HS := Lib.hid hS
 clear hB hS h5
 go_enter Try.func75, Try.ntmps75
 go_upto_region 1 with fail
 refine wE 6 [pV p 0, pV p 0, pV p 1, v, iV (X.length : Int), iV (X.length : Int)] [3,4,5,6,7,2] ?_ ?_
 ·refine mE 1 0 ?_
  refine nD 2 3 0 ?_
  refine fD 3 4 1 96 1 1 0 ?_
  refine sW 4 rfl (fun a u E D hk=>exec_ldv _ _ Try.underlying94 _ _ _ rfl (dD D 2) (by rw [(HB.out.kept hk).cell]; rfl)) ?_
  refine sW 5 rfl (fun a u E D hk=>exec_lenS _ slE _ _ _ _ rfl (dD D 3) HS.out) ?_
  refine mD 6 7 4 ?_
  exact fz
 intro w1 k1
 simp only [F8]
 go_wp2
 go_ret
 exact ⟨rfl, k1⟩
theorem add_any (w : World) (F : Nat → Prop) (p : Nat) (X : List Ent) (c : Ord) (h : Lvl pr 96 98 w F p X) (hn : X.length ≤ 100000000) :
  Calls Try.prog 93 #[.pointer (some ⟨p, 0, none⟩), c.v] w fun e w' => ∃ F', e = .returned (.tuple #[]) ∧ Lvl pr 96 98 w' F' p (X ++ [Ent.of c]) ∧ Grow w F F' ∧ Keep F w w' := by
 obtain ⟨h1, h2, v, hB, hS, h5⟩ := h
 have HB := Lib.hid hB
 have HS := Lib.hid hS
 have H1 := Lib.hid h1
 have H2 := Lib.hid h2
 have H5 := Lib.hid h5
 clear hB hS h5 h1 h2
 go_enter Try.func93, Try.ntmps93
 go_upto_region 0 with fail
 refine wp_text 1 [.fresh w.heap.size 24 (c.cells)] rfl (by kernel_rfl) ?_ ?_
 ·refine nW 1 rfl (fun a u E D hk=>⟨_, _, exec_box 24 _ (c.cells) rfl (eE E), ⟨_, rfl, hk.size, Blk.new u _ _⟩, ((Keep.refl _ u).alloc _)⟩) ?_
  exact fz
 intro gv w0 hV k0
 rw [dq 1 [3]]
 simp only [Fz7]
 have hv3 : (.fresh w.heap.size 24 (c.cells) : Kn).p (gv 3) w0 := hV 0 3 (by kernel_rfl)
 generalize gv 3 = v3 at hv3 ⊢
 clear hV
 obtain ⟨g, rfl, hg, hG⟩ := hv3
 refine wpList_nil ?_
 have HG := Lib.hid (blk_range hG)
 have HB0 := Lib.hid (HB.out.kept k0)
 have HS0 := Lib.hid (HS.out.kept k0)
 clear hG
 go_upto_region 1 with fail
 refine wp_freeT 10 [.eq (.pointer (some ⟨p, 0, none⟩)), .eq (.pointer (some ⟨p, 0, none⟩)), .eq (.pointer (some ⟨p, 0, none⟩)), .eq (.pointer (some ⟨p, 1, none⟩)), .eq (v), .eq (c.v), .eq (c.v), .eq (.int .i64 c.tip), .eq ((Ent.mk c (c.tip)).v), .sl w0.heap.size 98 10 1 (Ent.mk c (c.tip)).cells] (.pointer (some ⟨p, 0, none⟩)) ((fun v' u u' => Sl u' 98 10 v' (X.length + 1) (ents X ++ (Ent.mk c (c.tip)).cells) ∧ Keep (fun b => v.ownBlock = some b) u u' ∧ ∀ b, v'.ownBlock = some b → v.ownBlock = some b ∨ w0.heap.size ≤ b)) (by kernel_rfl) rfl rfl (by kernel_rfl) (by kernel_rfl) (t_zero (d := 4) _ rfl rfl rfl (by kernel_rfl) (by kernel_rfl)) ?_ (fun a u hE hD hk =>  (by obtain ⟨v', u', hr, hs', hk', ho'⟩ := run_append_sl slE _ u v (a.eval (.tmp 13)) X.length 1 (ents X) (Ent.mk c (c.tip)).cells (HS0.out.kept hk) ((hD 9 13 (by kernel_rfl))).1 (Ent.one _) (by unfold maxLen; omega) (by omega); exact t_last (o := ⟨some 14, _, _, _, _, _⟩) (R := (fun v' u u' => Sl u' 98 10 v' (X.length + 1) (ents X ++ (Ent.mk c (c.tip)).cells) ∧ Keep (fun b => v.ownBlock = some b) u u' ∧ ∀ b, v'.ownBlock = some b → v.ownBlock = some b ∨ w0.heap.size ≤ b)) (m := 10) (v := v') (w' := u') rfl (wanted_none rfl _) (exec_appS slE (.tmp 8) (.tmp 13) v _ rfl (dD hD 4) rfl v' u' hr) ⟨hs', hk', fun b hb => (ho' b hb).imp id (fun h => Nat.le_trans hk.size h)⟩)) ?_
 ·refine mE 2 0 ?_
  refine nD 3 5 1 ?_
  refine fD 4 6 2 96 1 1 0 ?_
  refine sW 5 rfl (fun a u E D hk=>exec_ldv _ _ Try.underlying94 _ _ _ rfl (dD D 3) (by rw [(HB0.out.kept hk).cell]; rfl)) ?_
  refine sE 6 3 g 0 c.cells Try.underlying24 (fun u hk=>range_kept HG.out hk) (by rw [c.len9]; exact ord_size) ?_
  refine sE 7 3 g 0 c.cells Try.underlying24 (fun u hk=>range_kept HG.out hk) (by rw [c.len9]; exact ord_size) ?_
  refine cS 8 100 [c.v] rfl Try.func100 rfl (fun a u E D hk=>⟨ll (dD D 6) rfl, shown_any c u⟩) ?_
  refine sW 9 rfl (fun a u E D hk=>exec_bent 98 builtE _ _ (c) (c.tip) rfl (dD D 5) (dD D 7)) ?_
  refine nW 10 rfl (fun a u E D hk=>⟨_, _, exec_oneS slE _ (Ent.mk c (c.tip)).cells (by omega) rfl (dD D 8) ((Ent.mk c (c.tip)).len10), (sl_one u 98 10 _ w0.heap.size ((Ent.mk c (c.tip)).len10) (by omega) hk.size), ((Keep.refl _ u).alloc _)⟩) ?_
  exact fz
 intro gv w1 w2 hV h0 hR hk1
 rw [dq 11 [4,5,6,7,8,9,10,11,12,13,14]]
 simp only [Fz7]
 have hT := hR 14 (by kernel_rfl)
 generalize gv 14 = v14 at hT ⊢
 rw [show gv 4 = .pointer (some ⟨p, 0, none⟩) from h0 4 (by kernel_rfl)]
 clear hV h0 hR
 obtain ⟨hs2, hk2, ho2⟩ := hT
 have hB2 := (HB0.out.kept hk1).keep hk2 (fun hb => (H5.out p hb).2 rfl)
 have hsz := hk2.size
 have hsz1 := hk1.size
 have hsz0 := k0.size
 refine l_val (.pointer (some ⟨p, 0, none⟩)) rfl (exec_nilp (.tmp 4) ⟨p, 0, none⟩ rfl (by kernel_rfl)) ?_
 simp only [Act.put, sA, sS, sZ]
 refine l_val (.pointer (some ⟨p, 1, none⟩)) rfl (exec_fldo 96 1 1 (.tmp 15) (p) (0) (1) rfl (by kernel_rfl) (by kernel_rfl) rfl) ?_
 simp only [Act.put, sA, sS, sZ]
 refine l_st1 94 p 1 96 _ v14 _ _ rfl rfl (by kernel_rfl) (by kernel_rfl) (by kernel_rfl) (sl_cells hs2) (sl_onec hs2) hB2 (by simp) ?_
 intro w3 hB3 hk3 hs3
 simp only [Act.put]
 refine wpList_nil ?_
 go_wp2
 go_end0
 have hkF : Keep F w w2 := ((Keep.mono (T := F) (k0.trans hk1) (fun _ _ h => h.elim))).trans hk2 (fun b _ hb => (H5.out b hb).1)
 refine ⟨fun b => F b ∨ v14.ownBlock = some b, rfl, ⟨.inl H1.out, fun b hb => ?_, v14, by simpa using hB3, ?_, fun b hb => ⟨.inr hb, fun e => ?_⟩⟩, fun b hb => ?_, hkF.trans hk3 (fun b _ hb => by subst hb; exact H1.out)⟩
 ·rcases hb with hb | hb
  ·have := H2.out b hb; omega
  ·have := hs2.lt hb; omega
 ·rw [List.length_append, ents_snoc]
  refine hs2.keep hk3 (fun b hb e => ?_)
  subst e
  rcases ho2 b hb with h | h
  ·exact (H5.out b h).2 rfl
  ·have := HB0.out.lt; omega
 ·subst e
  rcases ho2 b hb with h | h
  ·exact (H5.out b h).2 rfl
  ·have := HB0.out.lt; omega
 ·rcases hb with hb | hb
  ·exact .inl hb
  ·rcases ho2 b hb with h | h
   ·exact .inl (H5.out b h).1
   ·exact .inr (by omega)
end Go.Proofs.Ytklohceombpleaa
