/-
  Asks of chapter 15's statements. No condition.
-/
import Derived.Test.YtgajdkelpaaadaaAcC
import Derived.Test.YtgajdkelpaaadaaArgsM
import Derived.Test.YtgajdkelpaaadaaPrim
namespace Go.Proofs.Ytgajdkelpaaadaa
open Go.RowKit Go.ChangeShapes Go.WideShapes Go.ChangeAt
set_option linter.unusedVariables false
set_option maxRecDepth 100000

structure Bq where
  k : Int
  n : Int
  i : Int
  s : Int
  q : Int
deriving Inhabited
def Bq.l (q : Bq) : List Int := [q.k, q.n, q.i, q.s, q.q]
def Bq.cells (q : Bq) : List Value := stc q.l []
def Bq.v (q : Bq) : Value := .agg q.cells.toArray
theorem Bq.len5b (q : Bq) : q.cells.length = 5 := by unfold Bq.cells; rw [stc_len]; rfl
theorem Bq.one (q : Bq) : ∀ u ∈ q.cells, u.oneCell' = true := stc_one _ _
def zeroBq : Bq := ⟨0, 0, 0, 0, 0⟩
def Bq.wf (q : Bq) : Prop := ∀ y ∈ q.l, (Lit.int .i64 y).wf = true
abbrev Bqs (W : World) (v : Value) (l : List Bq) : Prop := Args 5 Bq.cells Bq.wf W v l
end Go.Proofs.Ytgajdkelpaaadaa
