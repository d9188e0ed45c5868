/-
  No cell of these rows narrows 'for every input' (looked for: loops, veiled, ifaces, maps, wideKeys, modest, calm, conditions, laid).
  DERIVED. THE GIVEN ROWS OF THIS SEAT. 6 by the template 'for every input the law returns true; each argument reads behind the call as it read before'; 0 by the template 'total and deterministic' (their statements: YtgajdkelpaaadaaTotals.lean).
  GIVEN WITH THE SEED: the statements are not yours to turn. If you find one false, say at which input.
  Laid BY PROGRAM, IN A SANDBOX (cutbox-rows.mjs): the forced cells as the released guide's own fill.sh prints them over the translation 98baa100be95f5ea… (all of the seat's roots in one cut). By AI agents, Wed Nov 11 2026. No macro, syntax, notation, axiom, sorry.
-/
import Derived.Test.YtgajdkelpaaadaaChecked
import GoSem.Claim
import GoSem.ClaimJoined
import GoSem.ClaimMapViews
import Derived.JoinedTies
import Derived.KernelRfl
namespace Go.Proofs.Ytgajdkelpaaadaa
/- THE CELL 'sum', in the pinned program and in every row, IS THE sha256 OF THE DUMP (.gsa) THAT YtgajdkelpaaadaaProg.lean LOADS. Nothing in Lean hashes anything: it is a label: what it is worth is what the hold of that sum in a sandbox is worth. -/
noncomputable def Try.pinned : Pinned := { name := "ytgajdkelpaaadaa", sum := "98baa100be95f5eac96da695b98f17fa5d25f124c0fa19034c31a4f3924c3b0f", checked := Try.checked }
namespace Rows
def none {H : Type} : Left H := { results := [], args := [] }

/-- 'jobberlaw16.RiskRuns': WHATEVER THE INPUT: true; the input reads as it did. -/
def riskRunsSpec : ChangeSpec := { name := "riskRuns", fn := fun _ => fun
  | [] => { results := [.lit (.bool true)], args := [] }
  | _ => none }
def riskRunsRow : OpenClaim := { program := "ytgajdkelpaaadaa", sum := "98baa100be95f5eac96da695b98f17fa5d25f124c0fa19034c31a4f3924c3b0f", func := "jobber/jobberlaw16.RiskRuns", spec := "riskRuns", apart := false }
def RiskRunsSaid : Prop := riskRunsRow.holds Try.pinned (OpenSpec.ofChange riskRunsSpec)

/-- ITS FALSE NEIGHBOUR: 'it returns false'. Refute it at one input. -/
def riskRunsWrong : ChangeSpec := { name := "riskRuns", fn := fun _ => fun
  | [] => { results := [.lit (.bool false)], args := [] }
  | _ => none }
def RiskRunsWrongFalsely : Prop := riskRunsRow.holds Try.pinned (OpenSpec.ofChange riskRunsWrong)

/-- 'jobberlaw16.RiskTells': WHATEVER THE INPUT: true; the input reads as it did. -/
def riskTellsSpec : ChangeSpec := { name := "riskTells", fn := fun _ => fun
  | [d1, d2, d3, d4] => { results := [.lit (.bool true)], args := [d1, d2, d3, d4] }
  | _ => none }
def riskTellsRow : OpenClaim := { program := "ytgajdkelpaaadaa", sum := "98baa100be95f5eac96da695b98f17fa5d25f124c0fa19034c31a4f3924c3b0f", func := "jobber/jobberlaw16.RiskTells", spec := "riskTells", apart := false }
def RiskTellsSaid : Prop := riskTellsRow.holds Try.pinned (OpenSpec.ofChange riskTellsSpec)

/-- ITS FALSE NEIGHBOUR: 'it returns false'. Refute it at one input. -/
def riskTellsWrong : ChangeSpec := { name := "riskTells", fn := fun _ => fun
  | [d1, d2, d3, d4] => { results := [.lit (.bool false)], args := [d1, d2, d3, d4] }
  | _ => none }
def RiskTellsWrongFalsely : Prop := riskTellsRow.holds Try.pinned (OpenSpec.ofChange riskTellsWrong)

/-- 'jobberlaw16.RiskWider': WHATEVER THE INPUT: true; the input reads as it did. -/
def riskWiderSpec : ChangeSpec := { name := "riskWider", fn := fun _ => fun
  | [d1, d2, d3, d4, d5, d6] => { results := [.lit (.bool true)], args := [d1, d2, d3, d4, d5, d6] }
  | _ => none }
def riskWiderRow : OpenClaim := { program := "ytgajdkelpaaadaa", sum := "98baa100be95f5eac96da695b98f17fa5d25f124c0fa19034c31a4f3924c3b0f", func := "jobber/jobberlaw16.RiskWider", spec := "riskWider", apart := false }
def RiskWiderSaid : Prop := riskWiderRow.holds Try.pinned (OpenSpec.ofChange riskWiderSpec)

/-- ITS FALSE NEIGHBOUR: 'it returns false'. Refute it at one input. -/
def riskWiderWrong : ChangeSpec := { name := "riskWider", fn := fun _ => fun
  | [d1, d2, d3, d4, d5, d6] => { results := [.lit (.bool false)], args := [d1, d2, d3, d4, d5, d6] }
  | _ => none }
def RiskWiderWrongFalsely : Prop := riskWiderRow.holds Try.pinned (OpenSpec.ofChange riskWiderWrong)

/-- 'jobberlaw16.RiskEnds': WHATEVER THE INPUT: true; the input reads as it did. -/
def riskEndsSpec : ChangeSpec := { name := "riskEnds", fn := fun _ => fun
  | [d1, d2, d3, d4] => { results := [.lit (.bool true)], args := [d1, d2, d3, d4] }
  | _ => none }
def riskEndsRow : OpenClaim := { program := "ytgajdkelpaaadaa", sum := "98baa100be95f5eac96da695b98f17fa5d25f124c0fa19034c31a4f3924c3b0f", func := "jobber/jobberlaw16.RiskEnds", spec := "riskEnds", apart := false }
def RiskEndsSaid : Prop := riskEndsRow.holds Try.pinned (OpenSpec.ofChange riskEndsSpec)

/-- ITS FALSE NEIGHBOUR: 'it returns false'. Refute it at one input. -/
def riskEndsWrong : ChangeSpec := { name := "riskEnds", fn := fun _ => fun
  | [d1, d2, d3, d4] => { results := [.lit (.bool false)], args := [d1, d2, d3, d4] }
  | _ => none }
def RiskEndsWrongFalsely : Prop := riskEndsRow.holds Try.pinned (OpenSpec.ofChange riskEndsWrong)

/-- 'jobberlaw16.RiskSides': WHATEVER THE INPUT: true; the input reads as it did. -/
def riskSidesSpec : ChangeSpec := { name := "riskSides", fn := fun _ => fun
  | [d1, d2, d3] => { results := [.lit (.bool true)], args := [d1, d2, d3] }
  | _ => none }
def riskSidesRow : OpenClaim := { program := "ytgajdkelpaaadaa", sum := "98baa100be95f5eac96da695b98f17fa5d25f124c0fa19034c31a4f3924c3b0f", func := "jobber/jobberlaw16.RiskSides", spec := "riskSides", apart := false }
def RiskSidesSaid : Prop := riskSidesRow.holds Try.pinned (OpenSpec.ofChange riskSidesSpec)

/-- ITS FALSE NEIGHBOUR: 'it returns false'. Refute it at one input. -/
def riskSidesWrong : ChangeSpec := { name := "riskSides", fn := fun _ => fun
  | [d1, d2, d3] => { results := [.lit (.bool false)], args := [d1, d2, d3] }
  | _ => none }
def RiskSidesWrongFalsely : Prop := riskSidesRow.holds Try.pinned (OpenSpec.ofChange riskSidesWrong)

/-- 'jobberlaw16.RiskOpen': WHATEVER THE INPUT: true; the input reads as it did. -/
def riskOpenSpec : ChangeSpec := { name := "riskOpen", fn := fun _ => fun
  | [d1, d2, d3] => { results := [.lit (.bool true)], args := [d1, d2, d3] }
  | _ => none }
def riskOpenRow : OpenClaim := { program := "ytgajdkelpaaadaa", sum := "98baa100be95f5eac96da695b98f17fa5d25f124c0fa19034c31a4f3924c3b0f", func := "jobber/jobberlaw16.RiskOpen", spec := "riskOpen", apart := false }
def RiskOpenSaid : Prop := riskOpenRow.holds Try.pinned (OpenSpec.ofChange riskOpenSpec)

/-- ITS FALSE NEIGHBOUR: 'it returns false'. Refute it at one input. -/
def riskOpenWrong : ChangeSpec := { name := "riskOpen", fn := fun _ => fun
  | [d1, d2, d3] => { results := [.lit (.bool false)], args := [d1, d2, d3] }
  | _ => none }
def RiskOpenWrongFalsely : Prop := riskOpenRow.holds Try.pinned (OpenSpec.ofChange riskOpenWrong)

/- THE SECOND FORM. 'bulk': how many values and letters a reading holds, each counted each time it is reached (what is shared counts as often as it is met; a slice's spare places count too). A statement '..UptoSaid' is the law's where the arguments, and the package variables that the reading takes, are together of bulk at most 1048576: NARROWER than '..Said'. Prove '..Said' where nothing that the law and all that it calls make is longer than what came in: it says more and counts as full. Else prove '..UptoSaid'. A law counts once. -/
mutual
def uptoBulk {H : Type} : DataW H → Nat
  | .lit (.string bytes) => bytes.length + 1
  | .lit _ => 1
  | .nil => 1
  | .ptr d => uptoBulk d + 1
  | .slice elems spare => uptoBulkAll elems + uptoBulkAll spare + 1
  | .agg parts => uptoBulkAll parts + 1
  | .iface _ d => uptoBulk d + 1
  | .map entries => uptoBulkEntries entries + 1
  | .held _ => 1
def uptoBulkAll {H : Type} : List (DataW H) → Nat
  | [] => 0
  | d :: r => uptoBulk d + uptoBulkAll r
def uptoBulkEntries {H : Type} : List (Lit × DataW H) → Nat
  | [] => 0
  | x :: r => uptoBulkEntry x + uptoBulkEntries r
def uptoBulkEntry {H : Type} : Lit × DataW H → Nat
  | (.string bytes, d) => bytes.length + uptoBulk d + 1
  | (_, d) => uptoBulk d + 1
 end
def uptoSmall : (H : Type) → List (DataW H) → Bool := fun _ ds => decide (uptoBulkAll ds ≤ 1048576)
def OpenSpec.upto (s : _root_.Go.ChangeSpec) : _root_.Go.OpenSpec := { _root_.Go.OpenSpec.ofChange s with cond := some uptoSmall }

/-- 'jobberlaw16.RiskRuns', WHERE WHAT IT READS IS OF BULK AT MOST 1048576: true; the input reads as it did. -/
def riskRunsUptoRow : OpenClaim := { program := "ytgajdkelpaaadaa", sum := "98baa100be95f5eac96da695b98f17fa5d25f124c0fa19034c31a4f3924c3b0f", func := "jobber/jobberlaw16.RiskRuns", spec := "riskRuns", apart := false, narrowed := true }
def RiskRunsUptoSaid : Prop := riskRunsUptoRow.holds Try.pinned (OpenSpec.upto riskRunsSpec)

/-- 'jobberlaw16.RiskTells', WHERE WHAT IT READS IS OF BULK AT MOST 1048576: true; the input reads as it did. -/
def riskTellsUptoRow : OpenClaim := { program := "ytgajdkelpaaadaa", sum := "98baa100be95f5eac96da695b98f17fa5d25f124c0fa19034c31a4f3924c3b0f", func := "jobber/jobberlaw16.RiskTells", spec := "riskTells", apart := false, narrowed := true }
def RiskTellsUptoSaid : Prop := riskTellsUptoRow.holds Try.pinned (OpenSpec.upto riskTellsSpec)

/-- 'jobberlaw16.RiskWider', WHERE WHAT IT READS IS OF BULK AT MOST 1048576: true; the input reads as it did. -/
def riskWiderUptoRow : OpenClaim := { program := "ytgajdkelpaaadaa", sum := "98baa100be95f5eac96da695b98f17fa5d25f124c0fa19034c31a4f3924c3b0f", func := "jobber/jobberlaw16.RiskWider", spec := "riskWider", apart := false, narrowed := true }
def RiskWiderUptoSaid : Prop := riskWiderUptoRow.holds Try.pinned (OpenSpec.upto riskWiderSpec)

/-- 'jobberlaw16.RiskEnds', WHERE WHAT IT READS IS OF BULK AT MOST 1048576: true; the input reads as it did. -/
def riskEndsUptoRow : OpenClaim := { program := "ytgajdkelpaaadaa", sum := "98baa100be95f5eac96da695b98f17fa5d25f124c0fa19034c31a4f3924c3b0f", func := "jobber/jobberlaw16.RiskEnds", spec := "riskEnds", apart := false, narrowed := true }
def RiskEndsUptoSaid : Prop := riskEndsUptoRow.holds Try.pinned (OpenSpec.upto riskEndsSpec)

/-- 'jobberlaw16.RiskSides', WHERE WHAT IT READS IS OF BULK AT MOST 1048576: true; the input reads as it did. -/
def riskSidesUptoRow : OpenClaim := { program := "ytgajdkelpaaadaa", sum := "98baa100be95f5eac96da695b98f17fa5d25f124c0fa19034c31a4f3924c3b0f", func := "jobber/jobberlaw16.RiskSides", spec := "riskSides", apart := false, narrowed := true }
def RiskSidesUptoSaid : Prop := riskSidesUptoRow.holds Try.pinned (OpenSpec.upto riskSidesSpec)

/-- 'jobberlaw16.RiskOpen', WHERE WHAT IT READS IS OF BULK AT MOST 1048576: true; the input reads as it did. -/
def riskOpenUptoRow : OpenClaim := { program := "ytgajdkelpaaadaa", sum := "98baa100be95f5eac96da695b98f17fa5d25f124c0fa19034c31a4f3924c3b0f", func := "jobber/jobberlaw16.RiskOpen", spec := "riskOpen", apart := false, narrowed := true }
def RiskOpenUptoSaid : Prop := riskOpenUptoRow.holds Try.pinned (OpenSpec.upto riskOpenSpec)

end Rows
end Go.Proofs.Ytgajdkelpaaadaa
