/-
 What chapter 10's depth says of a side: each price once, no more than is there; a map of numbers of the call's own. Condition: a book as it may be.
-/
import Derived.Test.YtfpfpmhkkgfdbaaQD04
import Derived.Maps.Keyed
import Derived.WideKeyPair
import Derived.DeepKeys4
import Derived.Carry
set_option linter.unusedVariables false
namespace Go.Proofs.Ytfpfpmhkkgfdbaa
open Go.RowKit Go.MapKept
open Go.WideMaps (KeyLaw)
open Go.Maps (Keyed)
open Go.WideMaps
open Go.ChangeMaps (setBlock)
set_option maxRecDepth 100000
def keyStep (K : List Int) (o : Ord) : List Int := if o.price ∈ K then K else K ++ [o.price]
def keysP (X : List Ord) : List Int := X.foldl keyStep []
def sumP (X : List Ord) (p : Int) : Int := sumI ((X.filter fun o => o.price == p).map fun o => o.qty)
theorem keysP_snoc (X : List Ord) (o : Ord) : keysP (X ++ [o]) = if o.price ∈ keysP X then keysP X else keysP X ++ [o.price] := by
 unfold keysP
 rw [List.foldl_append]
 rfl
theorem keyStep_mem (K : List Int) (o : Ord) (p : Int) : p ∈ keyStep K o ↔ p ∈ K ∨ o.price = p := by
 unfold keyStep
 split
 ·constructor
  ·exact .inl
  ·rintro (h | rfl)
   ·exact h
   ·assumption
 ·simp [eq_comm]
theorem keyStep_nodup {K : List Int} (h : K.Nodup) (o : Ord) : (keyStep K o).Nodup := by
 unfold keyStep
 split
 ·exact h
 ·rename_i hn
  rw [List.nodup_append]
  exact ⟨h, by simp, by intro a ha b hb e; simp at hb; subst hb; subst e; exact hn ha⟩
theorem fold_keys : ∀ (X : List Ord) (K : List Int), K.Nodup → (X.foldl keyStep K).Nodup ∧ ∀ p, p ∈ X.foldl keyStep K ↔ p ∈ K ∨ ∃ o ∈ X, o.price = p
 | [], K, h => ⟨h, fun p => by simp⟩
 | o :: X, K, h => by
  obtain ⟨h1, h2⟩ := fold_keys X (keyStep K o) (keyStep_nodup h o)
  refine ⟨h1, fun p => ?_⟩
  rw [List.foldl_cons, h2, keyStep_mem]
  simp [or_assoc]
theorem keysP_nodup (X : List Ord) : (keysP X).Nodup := (fold_keys X [] List.nodup_nil).1
theorem keysP_mem (X : List Ord) (p : Int) : p ∈ keysP X ↔ ∃ o ∈ X, o.price = p := by
 have := (fold_keys X [] List.nodup_nil).2 p
 simpa [keysP] using this
theorem sumP_append (X Y : List Ord) (p : Int) : sumP (X ++ Y) p = sumP X p + sumP Y p := by
 unfold sumP
 rw [List.filter_append, List.map_append, sumI_append]
theorem sumP_one (o : Ord) (p : Int) : sumP [o] p = if o.price = p then o.qty else 0 := by
 unfold sumP
 by_cases h : o.price = p
 ·simp [h, sumI]
 ·simp [h, sumI]
theorem sumP_snoc (X : List Ord) (o : Ord) (p : Int) : sumP (X ++ [o]) p = if o.price = p then sumP X p + o.qty else sumP X p := by
 rw [sumP_append, sumP_one]
 split <;> omega
theorem sumP_pos : ∀ (X : List Ord) (p : Int), (∀ o ∈ X, 0 ≤ o.qty) → 0 ≤ sumP X p
 | [], p, _ => by simp [sumP, sumI]
 | o :: X, p, h => by
  have h1 := sumP_pos X p (fun x hx => h x (by simp [hx]))
  have h2 := h o (by simp)
  have := sumP_append [o] X p
  rw [List.singleton_append, sumP_one] at this
  rw [this]
  split <;> omega
theorem sumP_few : ∀ (X : List Ord) (p : Int), (∀ o ∈ X, 0 ≤ o.qty ∧ o.qty ≤ 1048576) → sumP X p ≤ 1048576 * X.length
 | [], p, _ => by simp [sumP, sumI]
 | o :: X, p, h => by
  have h1 := sumP_few X p (fun x hx => h x (by simp [hx]))
  have h2 := h o (by simp)
  have := sumP_append [o] X p
  rw [List.singleton_append, sumP_one] at this
  rw [this]
  simp only [List.length_cons]
  split <;> omega
theorem sumP_all : ∀ (X : List Ent) (p : Int), (∀ e ∈ X, e.o.price = p) → sumP (X.map (·.o)) p = wholeM X
 | [], p, _ => by simp [sumP, sumI, wholeM]
 | e :: X, p, h => by
  have h1 := sumP_all X p (fun x hx => h x (by simp [hx]))
  have := sumP_append [e.o] (X.map (·.o)) p
  rw [List.singleton_append, sumP_one, if_pos (h e (by simp)), h1] at this
  rw [List.map_cons, this, wholeM_cons]
theorem seen_le : ∀ (X : List Ent), (∀ e ∈ X, e.n ≤ e.o.qty) → seenM X ≤ wholeM X
 | [], _ => by simp [seenM, wholeM, sumI]
 | e :: X, h => by
  have h1 := seen_le X (fun x hx => h x (by simp [hx]))
  have h2 := h e (by simp)
  rw [seenM_cons, wholeM_cons]
  omega
theorem seen_pos : ∀ (X : List Ent), (∀ e ∈ X, 1 ≤ e.n) → X ≠ [] → 1 ≤ seenM X
 | [], _, h => absurd rfl h
 | e :: [], h, _ => by
  have := h e (by simp)
  simp [seenM, sumI]
  omega
 | e :: f :: X, h, _ => by
  have h1 := seen_pos (f :: X) (fun x hx => h x (by simp [hx])) (by simp)
  have h2 := h e (by simp)
  rw [seenM_cons]
  omega
structure DepIs (s : Int) (L : List Lev) : Prop where
 qty : ∀ o ∈ ordsL L, 0 ≤ o.qty ∧ o.qty ≤ 1048576 ∧ o.side = s ∧ 0 ≤ o.price ∧ o.price ≤ 1048576
 len : (keysP (ordsL L)).length = L.length
 each : ∀ (i : Nat) (h : Ent), (depthL s L)[i]? = some h → 1 ≤ h.n ∧ h.n ≤ sumP (ordsL L) h.o.price
 best : ∀ (i : Nat) (h g : Ent), (depthL s L)[i]? = some h → (depthL s L)[i + 1]? = some g → bet s h.o.price g.o.price = true
 price : ∀ (i : Nat) (h : Ent), (depthL s L)[i]? = some h → 0 ≤ h.o.price ∧ h.o.price ≤ 1048576 ∧ h.n ≤ 1048576 * 64
theorem ordsL_append (A C : List Lev) : ordsL (A ++ C) = ordsL A ++ ordsL C := by unfold ordsL; rw [entL_append, List.map_append]
theorem ordsL_cons (l : Lev) (C : List Lev) : ordsL (l :: C) = l.2.map (·.o) ++ ordsL C := by unfold ordsL; rw [entL_cons, List.map_append]
theorem ords_mem {L : List Lev} {o : Ord} (h : o ∈ ordsL L) : ∃ l ∈ L, ∃ e ∈ l.2, e.o = o := by
 unfold ordsL entL at h
 rw [List.mem_map] at h
 obtain ⟨e, he, rfl⟩ := h
 rw [List.mem_flatMap] at he
 obtain ⟨l, hl, he⟩ := he
 exact ⟨l, hl, e, he, rfl⟩
theorem dep_is {s : Int} {L : List Lev} (h : Sid s L) : DepIs s L := by
 have hq : ∀ o ∈ ordsL L, 0 ≤ o.qty ∧ o.qty ≤ 1048576 ∧ o.side = s ∧ 0 ≤ o.price ∧ o.price ≤ 1048576 := fun o ho => by
  obtain ⟨l, hl, e, he, rfl⟩ := ords_mem ho
  have ha := h.at_ l hl e he
  have h1 := ha.pos
  have h2 := ha.le
  have h3 := ha.few
  obtain ⟨_, _, _, _, hp, _⟩ := ha.stt
  exact ⟨by omega, by omega, ha.side, by omega, by omega⟩
 have hev : ∀ (i : Nat) (x : Ent), (depthL s L)[i]? = some x → ∃ l : Lev, L[i]? = some l ∧ x.o.price = l.1 ∧ x.n = seenM l.2 := fun i x hx => by
  unfold depthL at hx
  rw [List.getElem?_map, Option.map_eq_some_iff] at hx
  obtain ⟨l, hl, rfl⟩ := hx
  exact ⟨l, hl, rfl, rfl⟩
 have hea : ∀ (i : Nat) (x : Ent), (depthL s L)[i]? = some x → 1 ≤ x.n ∧ x.n ≤ sumP (ordsL L) x.o.price := fun i x hx => by
  obtain ⟨l, hl, e1, e2⟩ := hev i x hx
  have hm := List.mem_of_getElem? hl
  rw [e1, e2]
  refine ⟨seen_pos _ (fun e he => (h.at_ l hm e he).pos) (h.ne l hm), ?_⟩
  have h1 := seen_le l.2 (fun e he => (h.at_ l hm e he).le)
  rw [← sumP_all l.2 l.1 (fun e he => (h.at_ l hm e he).price)] at h1
  obtain ⟨A, C, rfl⟩ := List.append_of_mem hm
  rw [ordsL_append, ordsL_cons, sumP_append, sumP_append]
  have hA := sumP_pos (ordsL A) l.1 (fun o ho => (hq o (by rw [ordsL_append]; exact List.mem_append_left _ ho)).1)
  have hC := sumP_pos (ordsL C) l.1 (fun o ho => (hq o (by rw [ordsL_append, ordsL_cons]; exact List.mem_append_right _ (List.mem_append_right _ ho))).1)
  omega
 refine ⟨hq, ?_, hea, fun i x g hx hg => ?_, fun i x hx => ?_⟩
 ·have hnd : (L.map (·.1)).Nodup := by
   rw [List.nodup_iff_pairwise_ne, List.pairwise_map]
   exact h.srt.imp fun {a b} hab e => by rw [e, bet_irr] at hab; cases hab
  have := ((List.perm_ext_iff_of_nodup (keysP_nodup (ordsL L)) hnd).2 fun p => by
   rw [keysP_mem, List.mem_map]
   constructor
   ·rintro ⟨o, ho, rfl⟩
    obtain ⟨l, hl, e, he, rfl⟩ := ords_mem ho
    exact ⟨l, hl, (h.at_ l hl e he).price.symm⟩
   ·rintro ⟨l, hl, rfl⟩
    obtain ⟨e, he⟩ := List.exists_mem_of_ne_nil _ (h.ne l hl)
    exact ⟨e.o, by unfold ordsL entL; exact List.mem_map.2 ⟨e, List.mem_flatMap.2 ⟨l, hl, he⟩, rfl⟩, (h.at_ l hl e he).price⟩).length_eq
  rw [this, List.length_map]
 ·obtain ⟨l, hl, e1, _⟩ := hev i x hx
  obtain ⟨k, hk, e2, _⟩ := hev (i + 1) g hg
  rw [e1, e2]
  obtain ⟨hi, rfl⟩ := List.getElem?_eq_some_iff.1 hl
  obtain ⟨hi', rfl⟩ := List.getElem?_eq_some_iff.1 hk
  exact (List.pairwise_iff_getElem.1 h.srt) i (i + 1) hi hi' (by omega)
 ·obtain ⟨l, hl, e1, e2⟩ := hev i x hx
  have hm := List.mem_of_getElem? hl
  obtain ⟨e, he⟩ := List.exists_mem_of_ne_nil _ (h.ne l hm)
  have ha := h.at_ l hm e he
  obtain ⟨_, _, _, _, hp, _⟩ := ha.stt
  have hb := ha.price
  have h3 := (hea i x hx).2
  have h4 := sumP_few (ordsL L) x.o.price (fun o ho => ⟨(hq o ho).1, (hq o ho).2.1⟩)
  have h5 : (ordsL L).length ≤ 64 := by unfold ordsL; rw [List.length_map]; exact h.few
  exact ⟨by omega, by omega, by omega⟩
theorem mi_keyed : Keyed Try.prog 3 := Go.Maps.int_keyed Try.underlying3
theorem mi_key (x : Int) (hx : (Lit.int .i64 x).wf = true) : ∃ l, keyOf Try.prog 3 (.int .i64 x) = some l := ⟨_, Go.Maps.keyOf_int_mk Try.underlying3 hx⟩
def MapI (w : World) (b : Nat) (K : List Int) (S : Int → Int) : Prop := ∃ es clock, w.heap[b]? = some (.map es clock) ∧ es.toList.map (·.key) = K.map (Value.int .i64) ∧ (∀ e ∈ es.toList, ∀ k, e.key = .int .i64 k → e.val = .int .i64 (S k)) ∧ (∀ p, p ∉ K → S p = 0) ∧ ∀ k ∈ K, (Lit.int .i64 k).wf = true
theorem MapI.lt {w : World} {b : Nat} {K : List Int} {S : Int → Int} (h : MapI w b K S) : b < w.heap.size := by
 obtain ⟨es, clock, hb, _⟩ := h
 exact (Array.getElem?_eq_some_iff.1 hb).1
theorem MapI.keep {R : Nat → Prop} {w w' : World} {b : Nat} {K : List Int} {S : Int → Int} (h : MapI w b K S) (hk : Keep R w w') (hn : ¬ R b) : MapI w' b K S := by
 have hl := h.lt
 obtain ⟨es, clock, hb, r⟩ := h
 exact ⟨es, clock, (hk.block b hl hn).trans hb, r⟩
theorem MapI.kept {w w' : World} {b : Nat} {K : List Int} {S : Int → Int} (h : MapI w b K S) (hk : Kept w w') : MapI w' b K S := h.keep hk (fun h => h)
theorem MapI.new (w : World) : MapI (w.alloc (.map #[] 0)) w.heap.size [] (fun _ => 0) := ⟨#[], 0, heap_alloc_new w _, by simp, by simp, by simp, by simp⟩
theorem MapI.keys {K : List Int} {es : Array MapEntry} (h : es.toList.map (·.key) = K.map (Value.int .i64)) (hw : ∀ k ∈ K, (Lit.int .i64 k).wf = true) : ∀ e ∈ es.toList, (∃ l, keyOf Try.prog 3 e.key = some l) ∧ ∃ k ∈ K, e.key = .int .i64 k := fun e he => by
 have : e.key ∈ es.toList.map (·.key) := List.mem_map.2 ⟨e, he, rfl⟩
 rw [h, List.mem_map] at this
 obtain ⟨k, hk, e1⟩ := this
 rw [← e1]
 exact ⟨mi_key k (hw k hk), k, hk, rfl⟩
theorem MapI.look {w : World} {b : Nat} {K : List Int} {S : Int → Int} (h : MapI w b K S) (p : Int) (hp : (Lit.int .i64 p).wf = true) : (Instr.lookup 67 (.map (some b)) (.int .i64 p) false).run Try.prog w = .ok (.int .i64 (S p)) w := by
 obtain ⟨es, clock, hb, hK, hS, h0, hw⟩ := h
 obtain ⟨l, hl⟩ := mi_key p hp
 have hk := MapI.keys hK hw
 rcases mi_keyed.find w hl es.toList (fun e he => (hk e he).1) with ⟨f1, f2⟩ | ⟨j, e0, f1, f2, f3⟩
 ·have hn : p ∉ K := fun hm => by
   have : Value.int .i64 p ∈ es.toList.map (·.key) := by rw [hK]; exact List.mem_map.2 ⟨p, hm, rfl⟩
   obtain ⟨e, he, e1⟩ := List.mem_map.1 this
   exact f2 e he e1
  rw [h0 p hn]
  simp [Instr.lookup, run_underlying Try.underlying67, MapKept.run_getObj_map hb, mi_keyed.check w _ hl, f1, Result.andThen]
 ·have hv := hS e0 (List.mem_of_getElem? f2) p f3
  simp [Instr.lookup, run_underlying Try.underlying67, MapKept.run_getObj_map hb, mi_keyed.check w _ hl, f1, hv, Result.andThen]
theorem MapI.put {w : World} {b : Nat} {K : List Int} {S : Int → Int} (h : MapI w b K S) (hnd : K.Nodup) (p v : Int) (hp : (Lit.int .i64 p).wf = true) : ∃ w', (Instr.mapUpdate 67 (.map (some b)) (.int .i64 p) (.int .i64 v)).run Try.prog w = .ok () w' ∧ MapI w' b (if p ∈ K then K else K ++ [p]) (fun k => if k = p then v else S k) ∧ Keep (· = b) w w' ∧ w'.heap.size = w.heap.size := by
 have hlt := h.lt
 obtain ⟨es, clock, hb, hK, hS, h0, hw⟩ := h
 obtain ⟨l, hl⟩ := mi_key p hp
 have hk := MapI.keys hK hw
 have inj : ∀ x y : Int, Value.int .i64 x = Value.int .i64 y → x = y := fun x y e => by injection e
 rcases mi_keyed.find w hl es.toList (fun e he => (hk e he).1) with ⟨f1, f2⟩ | ⟨j, e0, f1, f2, f3⟩
 ·have hn : p ∉ K := fun hm => by
   have : Value.int .i64 p ∈ es.toList.map (·.key) := by rw [hK]; exact List.mem_map.2 ⟨p, hm, rfl⟩
   obtain ⟨e, he, e1⟩ := List.mem_map.1 this
   exact f2 e he e1
  rw [if_neg hn]
  refine ⟨setBlock w b (.map (es.push { key := .int .i64 p, val := .int .i64 v, born := clock }) (clock + 1)), ?_, ⟨es.push { key := .int .i64 p, val := .int .i64 v, born := clock }, clock + 1, ?_, ?_, ?_, ?_, ?_⟩, ⟨rfl, rfl, rfl, by simp [setBlock], fun i _ hi => ?_⟩, by simp [setBlock]⟩
  ·simp [Instr.mapUpdate, run_underlying Try.underlying67, MapKept.run_getObj_map hb, MapKept.run_setObj_map _ hb, mi_keyed.check w _ hl, f1, Result.andThen]
   rfl
  ·simp [setBlock, hlt]
  ·simp [hK]
  ·intro e he k hek
   simp only [Array.toList_push, List.mem_append, List.mem_singleton] at he
   show e.val = .int .i64 (if k = p then v else S k)
   rcases he with he | rfl
   ·rw [if_neg (fun e1 => f2 e he (by rw [hek, e1]))]
    exact hS e he k hek
   ·rw [if_pos (inj _ _ hek).symm]
  ·intro q hq
   simp at hq
   show (if q = p then v else S q) = 0
   rw [if_neg hq.2]
   exact h0 q hq.1
  ·intro k hk'
   rcases List.mem_append.1 hk' with hk' | hk'
   ·exact hw k hk'
   ·simp at hk'
    subst hk'
    exact hp
  ·have hi' : b ≠ i := fun e => hi e.symm
   simp [setBlock, hi']
 ·have hm : p ∈ K := by
   have : Value.int .i64 p ∈ es.toList.map (·.key) := List.mem_map.2 ⟨e0, List.mem_of_getElem? f2, f3⟩
   rw [hK, List.mem_map] at this
   obtain ⟨k, hk1, hk2⟩ := this
   rwa [inj _ _ hk2] at hk1
  rw [if_pos hm]
  have hj : j < es.size := (Array.getElem?_eq_some_iff.1 (by simpa using f2)).1
  have hj0 : es[j]? = some e0 := by simpa using f2
  have hmk : (es.modify j fun e => { e with key := .int .i64 p, val := .int .i64 v }).toList.map (·.key) = K.map (Value.int .i64) := by
   rw [← hK]
   apply List.ext_getElem?
   intro i
   simp only [List.getElem?_map, Array.getElem?_toList, Array.getElem?_modify]
   by_cases hi : j = i
   ·subst hi
    rw [if_pos rfl, hj0]
    simp [f3]
   ·rw [if_neg hi]
  refine ⟨setBlock w b (.map (es.modify j fun e => { e with key := .int .i64 p, val := .int .i64 v }) clock), ?_, ⟨es.modify j fun e => { e with key := .int .i64 p, val := .int .i64 v }, clock, ?_, hmk, ?_, ?_, hw⟩, ⟨rfl, rfl, rfl, by simp [setBlock], fun i _ hi => ?_⟩, by simp [setBlock]⟩
  ·have hst := mi_keyed.stays w hl
   simp [Instr.mapUpdate, run_underlying Try.underlying67, MapKept.run_getObj_map hb, MapKept.run_setObj_map _ hb, mi_keyed.check w _ hl, f1, hj0, f3, hst, Result.andThen]
   rfl
  ·simp [setBlock, hlt]
  ·intro e he k hek
   show e.val = .int .i64 (if k = p then v else S k)
   obtain ⟨i, hi⟩ := List.getElem?_of_mem he
   simp only [Array.getElem?_toList, Array.getElem?_modify] at hi
   by_cases hji : j = i
   ·subst hji
    rw [if_pos rfl, hj0] at hi
    simp at hi
    subst hi
    rw [if_pos (inj _ _ hek).symm]
   ·rw [if_neg hji] at hi
    have hm2 : e ∈ es.toList := List.mem_of_getElem? (by simpa using hi)
    by_cases hkp : k = p
    ·exfalso
     subst hkp
     have g1 : (es.toList.map (·.key))[i]? = some (.int .i64 k) := by simp [hi, hek]
     have g2 : (es.toList.map (·.key))[j]? = some (.int .i64 k) := by simp [hj0, f3]
     rw [hK, List.getElem?_map, Option.map_eq_some_iff] at g1 g2
     obtain ⟨a1, b1, c1⟩ := g1
     obtain ⟨a2, b2, c2⟩ := g2
     rw [inj _ _ c1] at b1
     rw [inj _ _ c2] at b2
     obtain ⟨i1, i2⟩ := List.getElem?_eq_some_iff.1 b1
     obtain ⟨j1, j2⟩ := List.getElem?_eq_some_iff.1 b2
     have hp2 := List.pairwise_iff_getElem.1 (List.nodup_iff_pairwise_ne.1 hnd)
     rcases Nat.lt_or_ge i j with hlt' | hge
     ·exact hp2 i j i1 j1 hlt' (by rw [j2, i2])
     ·exact hp2 j i j1 i1 (by omega) (by rw [j2, i2])
    ·rw [if_neg hkp]
     exact hS e hm2 k hek
  ·intro q hq
   show (if q = p then v else S q) = 0
   rw [if_neg (fun e => hq (by rw [e]; exact hm))]
   exact h0 q hq
  ·have hi' : b ≠ i := fun e => hi e.symm
   simp [setBlock, hi']
section
variable {a : Act} {o : Oper} {u : World}
theorem exec_lookI (x y : Operand) (b : Nat) (K : List Int) (S : Int → Int) (p : Int) (hop : o.op = .lookup 67 x y false) (hx : a.eval x = .map (some b)) (hy : a.eval y = .int .i64 p) (hp : (Lit.int .i64 p).wf = true) (h : MapI u b K S) : (execOp a.eval o).run Try.prog u = .ok (.value (.int .i64 (S p))) u := by
 unfold execOp
 simp only [hop, hx, hy, Sem.run_bind, h.look p hp]
 rfl
theorem exec_lenI (x : Operand) (b n : Nat) (K : List Int) (S : Int → Int) (hop : o.op = .call { callee := .builtin .len, args := #[x], argTypes := #[67] }) (hx : a.eval x = .map (some b)) (h : MapI u b K S) (hn : K.length = n) : (execOp a.eval o).run Try.prog u = .ok (.value (.int .i64 (n : Int))) u := by
 obtain ⟨es, clock, hb, hK, _⟩ := h
 have hl : es.size = n := by have := congrArg List.length hK; simpa [hn] using this
 unfold execOp
 simp only [hop, resolve, invoke, builtin, Sem.run_bind, Sem.run_pure, Result.andThen_ok, List.map_toArray, List.map_cons, List.map_nil, hx]
 rw [run_len_map (P := Try.prog) (w := u) 67 o.type b es clock (by kernel_rfl) hb]
 rw [hl]
 rfl
theorem exec_mkmapI (hop : o.op = .makeMap 67 none) : (execOp a.eval o).run Try.prog u = .ok (.value (.map (some u.heap.size))) (u.alloc (.map #[] 0)) := by
 unfold execOp
 simp only [hop]
 simp [go_sem, Instr.makeMap]
end
section
variable {ops : Array Oper} {Q : Exit → Act → World → Prop} {a : Act} {w : World} {o : Oper} {rest : List Oper}
theorem l_iput (m k v : Operand) (b : Nat) (K : List Int) (S : Int → Int) (p n : Int) (hw : Region.wanted o (yielded ops a.tmps) = true) (hop : o.op = .mapUpdate 67 m k v) (hm : a.eval m = .map (some b)) (hk : a.eval k = .int .i64 p) (hv : a.eval v = .int .i64 n) (hp : (Lit.int .i64 p).wf = true) (h : MapI w b K S) (hn : K.Nodup)
  (hK : ∀ w', MapI w' b (if p ∈ K then K else K ++ [p]) (fun k => if k = p then n else S k) → Keep (· = b) w w' → w'.heap.size = w.heap.size → wpList Try.prog ops Q rest (a.put o.dst undef) w') : wpList Try.prog ops Q (o :: rest) a w := by
 obtain ⟨w', hr, h1, h2, h3⟩ := h.put hn p n hp
 refine l_store w' hw ?_ (hK w' h1 h2 h3)
 unfold execOp
 simp only [hop, hm, hk, hv, Sem.run_bind, hr, Result.andThen_ok]
 rfl
end
end Go.Proofs.Ytfpfpmhkkgfdbaa
