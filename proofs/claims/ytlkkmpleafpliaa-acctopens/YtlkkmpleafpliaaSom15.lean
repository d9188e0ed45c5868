/-
  Asks of chapter 15's statements. No condition.
-/
import Derived.Test.YtlkkmpleafpliaaAcC
import Derived.Test.YtlkkmpleafpliaaArgsM
import Derived.Test.YtlkkmpleafpliaaPrim
namespace Go.Proofs.Ytlkkmpleafpliaa
open Go.RowKit Go.ChangeShapes Go.WideShapes Go.ChangeAt
set_option linter.unusedVariables false
set_option maxRecDepth 100000

structure Bq where
  k : Int
  n : Int
  i : Int
  s : Int
  q : Int
deriving Inhabited
def Bq.l (q : Bq) : List Int := [q.k, q.n, q.i, q.s, q.q]
def Bq.cells (q : Bq) : List Value := stc q.l []
def Bq.v (q : Bq) : Value := .agg q.cells.toArray
theorem Bq.len5b (q : Bq) : q.cells.length = 5 := by unfold Bq.cells; rw [stc_len]; rfl
theorem Bq.one (q : Bq) : ∀ u ∈ q.cells, u.oneCell' = true := stc_one _ _
def zeroBq : Bq := ⟨0, 0, 0, 0, 0⟩
theorem zBq : (Try.prog.info? 41).map (·.zero) = some (some (.agg zeroBq.cells.toArray)) := by kernel_rfl
theorem szBq : (Try.prog.info? 41).map (·.size) = some 5 := by kernel_rfl
theorem slBq : SlT 29 41 5 40 := ⟨Try.underlying29, by kernel_rfl, ⟨zeroBq.v, by kernel_rfl, rfl, by intro u hu; exact zeroBq.one u (by simpa [Bq.v, Value.cells] using hu)⟩, by omega⟩
def Bq.wf (q : Bq) : Prop := ∀ y ∈ q.l, (Lit.int .i64 y).wf = true
abbrev Bqs (W : World) (v : Value) (l : List Bq) : Prop := Args 5 Bq.cells Bq.wf W v l
theorem sh_bq {H : Type} {enc : TypeId × Value → H} {W : World} (fuel : Nat) (cs : List Value) (x : DataW H × List MemPlace) (h : DataW.trod enc Try.prog W 0 (fun _ => true) true fuel 41 cs = some x) : ∃ q : Bq, cs = q.cells ∧ q.wf := by
  obtain ⟨l, rfl, hl, hw⟩ := sh_ints 5 (by kernel_rfl) _ _ _ h
  match l, hl with
  | [x0, x1, x2, x3, x4], _ => exact ⟨⟨x0, x1, x2, x3, x4⟩, rfl, hw⟩
theorem open_bqs {H : Type} {enc : TypeId × Value → H} {W : World} {b0 : Nat} {v : Value} {d : DataW H} {p : List MemPlace} (hv : Value.okWide Try.prog W .any b0 29 v)
    (h : DataW.Trod enc Try.prog W 0 (fun _ => true) true 29 v d p) : ∃ l, Bqs W v l := open_args 5 Bq.cells Bq.wf Try.underlying29 (by kernel_rfl) (by omega) sh_bq hv h
end Go.Proofs.Ytlkkmpleafpliaa
