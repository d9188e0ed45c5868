/-
  A slice of like structs among the arguments. No condition.
-/
import Derived.Test.YtliepgmnlhfaiaaSeg
import Derived.Test.YtliepgmnlhfaiaaClose
namespace Go.Proofs.Ytliepgmnlhfaiaa
open Go.RowKit Go.ChangeShapes Go.WideShapes Go.ChangeAt
set_option linter.unusedVariables false
set_option maxRecDepth 100000

/-- a slice among the arguments: each element of k cells -/
def Args {α : Type} (k : Nat) (cl : α → List Value) (ok : α → Prop) (W : World) (v : Value) (l : List α) : Prop := ∃ A n c, v = .slice A n c ∧ l.length = n ∧ (∀ q ∈ l, ok q) ∧ n ≤ maxLen ∧ ∀ i q, l[i]? = some q → ∃ b o, A = some ⟨b, o, none⟩ ∧ W.rangeAt b (o + i * k) (cl q)
theorem Args.keep {α : Type} {k : Nat} {cl : α → List Value} {ok : α → Prop} {S : Nat → Prop} {w w' : World} {v : Value} {l : List α} (h : Args k cl ok w v l) (hk : Keep S w w') (hn : ∀ b, b < w.heap.size → ¬ S b) : Args k cl ok w' v l := by
  obtain ⟨A, n, c, rfl, h1, h2, h3, h4⟩ := h
  refine ⟨A, n, c, rfl, h1, h2, h3, fun i q hq => ?_⟩
  obtain ⟨b, o, rfl, hr⟩ := h4 i q hq
  refine ⟨b, o, rfl, fun j v hv => ?_⟩
  have hc := hr j v hv
  exact hk.cell hc (hn _ (World.block_lt_of_cell? w _ hc))
theorem Args.kept {α : Type} {k : Nat} {cl : α → List Value} {ok : α → Prop} {w w' : World} {v : Value} {l : List α} (h : Args k cl ok w v l) (hk : Kept w w') : Args k cl ok w' v l := h.keep hk (fun _ _ h => h)
theorem open_args {α H : Type} [Inhabited α] {enc : TypeId × Value → H} {W : World} {b0 : Nat} {v : Value} {d : DataW H} {p : List MemPlace} {t T : TypeId} (k : Nat) (cl : α → List Value) (ok : α → Prop) (hu : Try.prog.underlying t = some (.slice T)) (hs : Try.prog.cellsOf T = k) (hk : 0 < k)
    (hsh : ∀ (fuel : Nat) (cs : List Value) (x : DataW H × List MemPlace), DataW.trod enc Try.prog W 0 (fun _ => true) true fuel T cs = some x → ∃ q : α, cs = cl q ∧ ok q)
    (hv : Value.okWide Try.prog W .any b0 t v) (h : DataW.Trod enc Try.prog W 0 (fun _ => true) true t v d p) : ∃ l, Args k cl ok W v l := by
  obtain ⟨l, A, n, c, rfl, hl, hA, h1, h2⟩ := open_elems (α := α) (fun cs q => cs = cl q ∧ ok q) hu hs hk hsh hv h (k := k)
  refine ⟨l, A, n, c, rfl, hl.out, fun q hq => ?_, by omega, fun i q hq => ?_⟩
  · obtain ⟨i, hi, rfl⟩ := List.getElem_of_mem hq
    obtain ⟨b, o, cs, _, ⟨_, hw⟩, _⟩ := hA i _ (List.getElem?_eq_getElem hi)
    exact hw
  · obtain ⟨b, o, cs, rfl, ⟨rfl, _⟩, _, hc⟩ := hA i q hq
    refine ⟨b, o, rfl, fun j v hv => ?_⟩
    rw [Nat.add_assoc]
    exact hc j v hv
end Go.Proofs.Ytliepgmnlhfaiaa
