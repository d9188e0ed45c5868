/-
  A map of pairs of numbers of the call's own: which pairs were met. Condition: the numbers are ints.
-/
import Derived.Test.YtlbkehpdohihlaaLvlX
import Derived.Maps.Keyed
import Derived.WideKeyPair
import Derived.DeepKeys4
import Derived.Carry
namespace Go.Proofs.Ytlbkehpdohihlaa
open Go.RowKit Go.MapKept
open Go.WideMaps (KeyLaw)
open Go.Maps (Keyed)
open Go.WideMaps
open Go.ChangeMaps (setBlock)
set_option linter.unusedVariables false

theorem met_wide : (match Try.prog.underlying 47 with | some (.array _ _) | some (.struct _) => true | _ => false) = true := by kernel_rfl
theorem met_laid : laidOutB Try.prog = true := by kernel_rfl
theorem met_row : (47 : TypeId) < Try.prog.types.size := of_decide_eq_true (by kernel_rfl)
theorem met_keyed : Keyed Try.prog 47 := Keyed.of_law (deep_law_laid met_laid (m := 2) (by omega) met_row (by kernel_rfl) met_wide)
theorem met_arr : ArrKey Try.prog 47 3 2 := ⟨Try.underlying47, by kernel_rfl, by kernel_rfl, by kernel_rfl⟩
theorem met_key (x y : Int) (hx : (Lit.int .i64 x).wf = true) (hy : (Lit.int .i64 y).wf = true) : ∃ l, keyOf Try.prog 47 (key2 x y) = some l := ⟨_, keyOf_pair met_arr Try.underlying3 ⟨_, rfl⟩ hx hy⟩
theorem key2_inj {x y x' y' : Int} (h : key2 x y = key2 x' y') : x = x' ∧ y = y' := by
  unfold key2 at h
  simpa using h

/-- block b is a map, true at these pairs alone -/
def Met (w : World) (b : Nat) (K : List (Int × Int)) : Prop := ∃ es clock, w.heap[b]? = some (.map es clock) ∧ (∀ k ∈ K, (Lit.int .i64 k.1).wf = true ∧ (Lit.int .i64 k.2).wf = true) ∧
  (∀ e ∈ es.toList, e.val = .bool true ∧ ∃ k ∈ K, e.key = key2 k.1 k.2) ∧ ∀ k ∈ K, ∃ e ∈ es.toList, e.key = key2 k.1 k.2
theorem Met.lt {w : World} {b : Nat} {K : List (Int × Int)} (h : Met w b K) : b < w.heap.size := by
  obtain ⟨es, clock, hb, _⟩ := h
  exact (Array.getElem?_eq_some_iff.1 hb).1
theorem Met.keep {S : Nat → Prop} {w w' : World} {b : Nat} {K : List (Int × Int)} (h : Met w b K) (hk : Keep S w w') (hn : ¬ S b) : Met w' b K := by
  have hl := h.lt
  obtain ⟨es, clock, hb, r⟩ := h
  exact ⟨es, clock, (hk.block b hl hn).trans hb, r⟩
theorem Met.kept {w w' : World} {b : Nat} {K : List (Int × Int)} (h : Met w b K) (hk : Kept w w') : Met w' b K := h.keep hk (fun h => h)
theorem Met.new (w : World) : Met (w.alloc (.map #[] 0)) w.heap.size [] := ⟨#[], 0, heap_alloc_new w _, by simp, by simp, by simp⟩
theorem met_zero (w : World) : (zeroValue 4).run Try.prog w = .ok (.bool false) w := by kernel_rfl
theorem Met.look {w : World} {b : Nat} {K : List (Int × Int)} (h : Met w b K) (x y : Int) (hx : (Lit.int .i64 x).wf = true) (hy : (Lit.int .i64 y).wf = true) : (Instr.lookup 43 (.map (some b)) (key2 x y) false).run Try.prog w = .ok (.bool (decide ((x, y) ∈ K))) w := by
  obtain ⟨es, clock, hb, hw, h1, h2⟩ := h
  obtain ⟨l, hl⟩ := met_key x y hx hy
  have hk : ∀ e ∈ es.toList, ∃ l, keyOf Try.prog 47 e.key = some l := fun e he => by
    obtain ⟨k, hk, e1⟩ := (h1 e he).2
    rw [e1]
    exact met_key _ _ (hw k hk).1 (hw k hk).2
  rcases met_keyed.find w hl es.toList hk with ⟨f1, f2⟩ | ⟨j, e0, f1, f2, f3⟩
  · have hn : (x, y) ∉ K := fun hm => by
      obtain ⟨e, he, e1⟩ := h2 _ hm
      exact f2 e he e1
    rw [decide_eq_false hn]
    simp [Instr.lookup, run_underlying Try.underlying43, MapKept.run_getObj_map hb, met_keyed.check w _ hl, f1, Result.andThen]
  · have hm : e0 ∈ es.toList := List.mem_of_getElem? f2
    obtain ⟨hv, k, hkk, e1⟩ := h1 e0 hm
    have hxy : (x, y) ∈ K := by
      obtain ⟨e2, e3⟩ := key2_inj (f3.symm.trans e1)
      rw [show (x, y) = k by cases k; simp_all]
      exact hkk
    rw [decide_eq_true hxy]
    simp [Instr.lookup, run_underlying Try.underlying43, MapKept.run_getObj_map hb, met_keyed.check w _ hl, f1, hv, Result.andThen]
theorem Met.put {w : World} {b : Nat} {K : List (Int × Int)} (h : Met w b K) (x y : Int) (hx : (Lit.int .i64 x).wf = true) (hy : (Lit.int .i64 y).wf = true) (hn : (x, y) ∉ K) : ∃ w', (Instr.mapUpdate 43 (.map (some b)) (key2 x y) (.bool true)).run Try.prog w = .ok () w' ∧ Met w' b (K ++ [(x, y)]) ∧ Keep (· = b) w w' ∧ w'.heap.size = w.heap.size := by
  have hlt := h.lt
  obtain ⟨es, clock, hb, hw, h1, h2⟩ := h
  obtain ⟨l, hl⟩ := met_key x y hx hy
  have hk : ∀ e ∈ es.toList, ∃ l, keyOf Try.prog 47 e.key = some l := fun e he => by
    obtain ⟨k, hk, e1⟩ := (h1 e he).2
    rw [e1]
    exact met_key _ _ (hw k hk).1 (hw k hk).2
  rcases met_keyed.find w hl es.toList hk with ⟨f1, f2⟩ | ⟨j, e0, f1, f2, f3⟩
  · refine ⟨setBlock w b (.map (es.push { key := key2 x y, val := .bool true, born := clock }) (clock + 1)), ?_, ⟨es.push { key := key2 x y, val := .bool true, born := clock }, clock + 1, ?_, ?_, ?_, ?_⟩, ⟨rfl, rfl, rfl, by simp [setBlock], fun i _ hi => ?_⟩, by simp [setBlock]⟩
    · simp [Instr.mapUpdate, run_underlying Try.underlying43, MapKept.run_getObj_map hb, MapKept.run_setObj_map _ hb, met_keyed.check w _ hl, f1, Result.andThen]
      rfl
    · simp [setBlock, hlt]
    · intro k hk'
      rcases List.mem_append.1 hk' with hk' | hk'
      · exact hw k hk'
      · simp at hk'
        subst hk'
        exact ⟨hx, hy⟩
    · intro e he
      simp only [Array.toList_push, List.mem_append, List.mem_singleton] at he
      rcases he with he | rfl
      · obtain ⟨q1, k, q2, q3⟩ := h1 e he
        exact ⟨q1, k, List.mem_append_left _ q2, q3⟩
      · exact ⟨rfl, (x, y), by simp, rfl⟩
    · intro k hk'
      rcases List.mem_append.1 hk' with hk' | hk'
      · obtain ⟨e, he, e1⟩ := h2 k hk'
        exact ⟨e, by simp [he], e1⟩
      · simp at hk'
        subst hk'
        exact ⟨{ key := key2 x y, val := .bool true, born := clock }, by simp, rfl⟩
    · have hi' : b ≠ i := fun e => hi e.symm
      simp [setBlock, hi']
  · exfalso
    obtain ⟨_, k, hkk, e1⟩ := h1 e0 (List.mem_of_getElem? f2)
    obtain ⟨e2, e3⟩ := key2_inj (f3.symm.trans e1)
    exact hn (by rw [show (x, y) = k by cases k; simp_all]; exact hkk)
section
variable {a : Act} {o : Oper} {u : World}
theorem exec_look (x y : Operand) (b : Nat) (K : List (Int × Int)) (p q : Int) (hop : o.op = .lookup 43 x y false) (hx : a.eval x = .map (some b)) (hy : a.eval y = key2 p q) (hp : (Lit.int .i64 p).wf = true) (hq : (Lit.int .i64 q).wf = true) (h : Met u b K) : (execOp a.eval o).run Try.prog u = .ok (.value (.bool (decide ((p, q) ∈ K)))) u := by
  unfold execOp
  simp only [hop, hx, hy, Sem.run_bind, h.look p q hp hq]
  rfl
theorem exec_lookb (r : Bool) (x y : Operand) (b : Nat) (K : List (Int × Int)) (p q : Int) (hop : o.op = .lookup 43 x y false) (hx : a.eval x = .map (some b)) (hy : a.eval y = key2 p q) (hp : (Lit.int .i64 p).wf = true) (hq : (Lit.int .i64 q).wf = true) (h : Met u b K) (hr : decide ((p, q) ∈ K) = r) : (execOp a.eval o).run Try.prog u = .ok (.value (.bool r)) u := by
  rw [← hr]
  exact exec_look x y b K p q hop hx hy hp hq h
theorem exec_mkmap (hop : o.op = .makeMap 43 none) : (execOp a.eval o).run Try.prog u = .ok (.value (.map (some u.heap.size))) (u.alloc (.map #[] 0)) := by
  unfold execOp
  simp only [hop]
  simp [go_sem, Instr.makeMap]
end
/-- known: a new map -/
def Kn.met (base : Nat) : Kn := ⟨fun v w => ∃ g, v = .map (some g) ∧ base ≤ g ∧ Met w g [], fun _ _ _ ⟨g, h1, h2, h3⟩ hk => ⟨g, h1, h2, h3.kept hk⟩⟩
section
variable {ops : Array Oper} {Q : Exit → Act → World → Prop} {a : Act} {w : World} {o : Oper} {rest : List Oper}
theorem l_mput (m k v : Operand) (b : Nat) (K : List (Int × Int)) (p q : Int) (hw : Region.wanted o (yielded ops a.tmps) = true) (hop : o.op = .mapUpdate 43 m k v) (hm : a.eval m = .map (some b)) (hk : a.eval k = key2 p q) (hv : a.eval v = .bool true) (hp : (Lit.int .i64 p).wf = true) (hq : (Lit.int .i64 q).wf = true) (h : Met w b K) (hn : (p, q) ∉ K)
    (hK : ∀ w', Met w' b (K ++ [(p, q)]) → Keep (· = b) w w' → w'.heap.size = w.heap.size → wpList Try.prog ops Q rest (a.put o.dst undef) w') : wpList Try.prog ops Q (o :: rest) a w := by
  obtain ⟨w', hr, h1, h2, h3⟩ := h.put p q hp hq hn
  refine l_store w' hw ?_ (hK w' h1 h2 h3)
  unfold execOp
  simp only [hop, hm, hk, hv, Sem.run_bind, hr, Result.andThen_ok]
  rfl
end
end Go.Proofs.Ytlbkehpdohihlaa
