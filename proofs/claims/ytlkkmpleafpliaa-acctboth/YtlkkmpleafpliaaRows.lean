/-
  No cell of these rows narrows 'for every input' (looked for: loops, veiled, ifaces, maps, wideKeys, modest, calm, conditions, laid).
  DERIVED. THE GIVEN ROWS OF THIS SEAT. 5 by the template 'for every input the law returns true; each argument reads behind the call as it read before'; 0 by the template 'total and deterministic' (their statements: YtlkkmpleafpliaaTotals.lean).
  GIVEN WITH THE SEED: the statements are not yours to turn. If you find one false, say at which input.
  Laid BY PROGRAM, IN A SANDBOX (cutbox-rows.mjs): the forced cells as the released guide's own fill.sh prints them over the translation 8d1db6b53de613c8… (all of the seat's roots in one cut). By AI agents, Wed Nov 11 2026. No macro, syntax, notation, axiom, sorry.
-/
import Derived.Test.YtlkkmpleafpliaaChecked
import GoSem.Claim
import GoSem.ClaimJoined
import GoSem.ClaimMapViews
import Derived.JoinedTies
import Derived.KernelRfl
namespace Go.Proofs.Ytlkkmpleafpliaa
/- THE CELL 'sum', in the pinned program and in every row, IS THE sha256 OF THE DUMP (.gsa) THAT YtlkkmpleafpliaaProg.lean LOADS. Nothing in Lean hashes anything: it is a label: what it is worth is what the hold of that sum in a sandbox is worth. -/
noncomputable def Try.pinned : Pinned := { name := "ytlkkmpleafpliaa", sum := "8d1db6b53de613c81220d9a4ec8afdd853c772904b958f5ea92c507e2dee3986", checked := Try.checked }
namespace Rows
def none {H : Type} : Left H := { results := [], args := [] }

/-- 'jobberlaw15.AcctRuns': WHATEVER THE INPUT: true; the input reads as it did. -/
def acctRunsSpec : ChangeSpec := { name := "acctRuns", fn := fun _ => fun
  | [] => { results := [.lit (.bool true)], args := [] }
  | _ => none }
def acctRunsRow : OpenClaim := { program := "ytlkkmpleafpliaa", sum := "8d1db6b53de613c81220d9a4ec8afdd853c772904b958f5ea92c507e2dee3986", func := "jobber/jobberlaw15.AcctRuns", spec := "acctRuns", apart := false }
def AcctRunsSaid : Prop := acctRunsRow.holds Try.pinned (OpenSpec.ofChange acctRunsSpec)

/-- ITS FALSE NEIGHBOUR: 'it returns false'. Refute it at one input. -/
def acctRunsWrong : ChangeSpec := { name := "acctRuns", fn := fun _ => fun
  | [] => { results := [.lit (.bool false)], args := [] }
  | _ => none }
def AcctRunsWrongFalsely : Prop := acctRunsRow.holds Try.pinned (OpenSpec.ofChange acctRunsWrong)

/-- 'jobberlaw15.AcctPlays': WHATEVER THE INPUT: true; the input reads as it did. -/
def acctPlaysSpec : ChangeSpec := { name := "acctPlays", fn := fun _ => fun
  | [d] => { results := [.lit (.bool true)], args := [d] }
  | _ => none }
def acctPlaysRow : OpenClaim := { program := "ytlkkmpleafpliaa", sum := "8d1db6b53de613c81220d9a4ec8afdd853c772904b958f5ea92c507e2dee3986", func := "jobber/jobberlaw15.AcctPlays", spec := "acctPlays", apart := false }
def AcctPlaysSaid : Prop := acctPlaysRow.holds Try.pinned (OpenSpec.ofChange acctPlaysSpec)

/-- ITS FALSE NEIGHBOUR: 'it returns false'. Refute it at one input. -/
def acctPlaysWrong : ChangeSpec := { name := "acctPlays", fn := fun _ => fun
  | [d] => { results := [.lit (.bool false)], args := [d] }
  | _ => none }
def AcctPlaysWrongFalsely : Prop := acctPlaysRow.holds Try.pinned (OpenSpec.ofChange acctPlaysWrong)

/-- 'jobberlaw15.AcctBoth': WHATEVER THE INPUT: true; the input reads as it did. -/
def acctBothSpec : ChangeSpec := { name := "acctBoth", fn := fun _ => fun
  | [d1, d2, d3, d4] => { results := [.lit (.bool true)], args := [d1, d2, d3, d4] }
  | _ => none }
def acctBothRow : OpenClaim := { program := "ytlkkmpleafpliaa", sum := "8d1db6b53de613c81220d9a4ec8afdd853c772904b958f5ea92c507e2dee3986", func := "jobber/jobberlaw15.AcctBoth", spec := "acctBoth", apart := false }
def AcctBothSaid : Prop := acctBothRow.holds Try.pinned (OpenSpec.ofChange acctBothSpec)

/-- ITS FALSE NEIGHBOUR: 'it returns false'. Refute it at one input. -/
def acctBothWrong : ChangeSpec := { name := "acctBoth", fn := fun _ => fun
  | [d1, d2, d3, d4] => { results := [.lit (.bool false)], args := [d1, d2, d3, d4] }
  | _ => none }
def AcctBothWrongFalsely : Prop := acctBothRow.holds Try.pinned (OpenSpec.ofChange acctBothWrong)

/-- 'jobberlaw15.AcctOpens': WHATEVER THE INPUT: true; the input reads as it did. -/
def acctOpensSpec : ChangeSpec := { name := "acctOpens", fn := fun _ => fun
  | [d] => { results := [.lit (.bool true)], args := [d] }
  | _ => none }
def acctOpensRow : OpenClaim := { program := "ytlkkmpleafpliaa", sum := "8d1db6b53de613c81220d9a4ec8afdd853c772904b958f5ea92c507e2dee3986", func := "jobber/jobberlaw15.AcctOpens", spec := "acctOpens", apart := false }
def AcctOpensSaid : Prop := acctOpensRow.holds Try.pinned (OpenSpec.ofChange acctOpensSpec)

/-- ITS FALSE NEIGHBOUR: 'it returns false'. Refute it at one input. -/
def acctOpensWrong : ChangeSpec := { name := "acctOpens", fn := fun _ => fun
  | [d] => { results := [.lit (.bool false)], args := [d] }
  | _ => none }
def AcctOpensWrongFalsely : Prop := acctOpensRow.holds Try.pinned (OpenSpec.ofChange acctOpensWrong)

/-- 'jobberlaw15.AcctEnds': WHATEVER THE INPUT: true; the input reads as it did. -/
def acctEndsSpec : ChangeSpec := { name := "acctEnds", fn := fun _ => fun
  | [d1, d2, d3, d4] => { results := [.lit (.bool true)], args := [d1, d2, d3, d4] }
  | _ => none }
def acctEndsRow : OpenClaim := { program := "ytlkkmpleafpliaa", sum := "8d1db6b53de613c81220d9a4ec8afdd853c772904b958f5ea92c507e2dee3986", func := "jobber/jobberlaw15.AcctEnds", spec := "acctEnds", apart := false }
def AcctEndsSaid : Prop := acctEndsRow.holds Try.pinned (OpenSpec.ofChange acctEndsSpec)

/-- ITS FALSE NEIGHBOUR: 'it returns false'. Refute it at one input. -/
def acctEndsWrong : ChangeSpec := { name := "acctEnds", fn := fun _ => fun
  | [d1, d2, d3, d4] => { results := [.lit (.bool false)], args := [d1, d2, d3, d4] }
  | _ => none }
def AcctEndsWrongFalsely : Prop := acctEndsRow.holds Try.pinned (OpenSpec.ofChange acctEndsWrong)

/- THE SECOND FORM. 'bulk': how many values and letters a reading holds, each counted each time it is reached (what is shared counts as often as it is met; a slice's spare places count too). A statement '..UptoSaid' is the law's where the arguments, and the package variables that the reading takes, are together of bulk at most 1048576: NARROWER than '..Said'. Prove '..Said' where nothing that the law and all that it calls make is longer than what came in: it says more and counts as full. Else prove '..UptoSaid'. A law counts once. -/
mutual
def uptoBulk {H : Type} : DataW H → Nat
  | .lit (.string bytes) => bytes.length + 1
  | .lit _ => 1
  | .nil => 1
  | .ptr d => uptoBulk d + 1
  | .slice elems spare => uptoBulkAll elems + uptoBulkAll spare + 1
  | .agg parts => uptoBulkAll parts + 1
  | .iface _ d => uptoBulk d + 1
  | .map entries => uptoBulkEntries entries + 1
  | .held _ => 1
def uptoBulkAll {H : Type} : List (DataW H) → Nat
  | [] => 0
  | d :: r => uptoBulk d + uptoBulkAll r
def uptoBulkEntries {H : Type} : List (Lit × DataW H) → Nat
  | [] => 0
  | x :: r => uptoBulkEntry x + uptoBulkEntries r
def uptoBulkEntry {H : Type} : Lit × DataW H → Nat
  | (.string bytes, d) => bytes.length + uptoBulk d + 1
  | (_, d) => uptoBulk d + 1
 end
def uptoSmall : (H : Type) → List (DataW H) → Bool := fun _ ds => decide (uptoBulkAll ds ≤ 1048576)
def OpenSpec.upto (s : _root_.Go.ChangeSpec) : _root_.Go.OpenSpec := { _root_.Go.OpenSpec.ofChange s with cond := some uptoSmall }

/-- 'jobberlaw15.AcctRuns', WHERE WHAT IT READS IS OF BULK AT MOST 1048576: true; the input reads as it did. -/
def acctRunsUptoRow : OpenClaim := { program := "ytlkkmpleafpliaa", sum := "8d1db6b53de613c81220d9a4ec8afdd853c772904b958f5ea92c507e2dee3986", func := "jobber/jobberlaw15.AcctRuns", spec := "acctRuns", apart := false, narrowed := true }
def AcctRunsUptoSaid : Prop := acctRunsUptoRow.holds Try.pinned (OpenSpec.upto acctRunsSpec)

/-- 'jobberlaw15.AcctPlays', WHERE WHAT IT READS IS OF BULK AT MOST 1048576: true; the input reads as it did. -/
def acctPlaysUptoRow : OpenClaim := { program := "ytlkkmpleafpliaa", sum := "8d1db6b53de613c81220d9a4ec8afdd853c772904b958f5ea92c507e2dee3986", func := "jobber/jobberlaw15.AcctPlays", spec := "acctPlays", apart := false, narrowed := true }
def AcctPlaysUptoSaid : Prop := acctPlaysUptoRow.holds Try.pinned (OpenSpec.upto acctPlaysSpec)

/-- 'jobberlaw15.AcctBoth', WHERE WHAT IT READS IS OF BULK AT MOST 1048576: true; the input reads as it did. -/
def acctBothUptoRow : OpenClaim := { program := "ytlkkmpleafpliaa", sum := "8d1db6b53de613c81220d9a4ec8afdd853c772904b958f5ea92c507e2dee3986", func := "jobber/jobberlaw15.AcctBoth", spec := "acctBoth", apart := false, narrowed := true }
def AcctBothUptoSaid : Prop := acctBothUptoRow.holds Try.pinned (OpenSpec.upto acctBothSpec)

/-- 'jobberlaw15.AcctOpens', WHERE WHAT IT READS IS OF BULK AT MOST 1048576: true; the input reads as it did. -/
def acctOpensUptoRow : OpenClaim := { program := "ytlkkmpleafpliaa", sum := "8d1db6b53de613c81220d9a4ec8afdd853c772904b958f5ea92c507e2dee3986", func := "jobber/jobberlaw15.AcctOpens", spec := "acctOpens", apart := false, narrowed := true }
def AcctOpensUptoSaid : Prop := acctOpensUptoRow.holds Try.pinned (OpenSpec.upto acctOpensSpec)

/-- 'jobberlaw15.AcctEnds', WHERE WHAT IT READS IS OF BULK AT MOST 1048576: true; the input reads as it did. -/
def acctEndsUptoRow : OpenClaim := { program := "ytlkkmpleafpliaa", sum := "8d1db6b53de613c81220d9a4ec8afdd853c772904b958f5ea92c507e2dee3986", func := "jobber/jobberlaw15.AcctEnds", spec := "acctEnds", apart := false, narrowed := true }
def AcctEndsUptoSaid : Prop := acctEndsUptoRow.holds Try.pinned (OpenSpec.upto acctEndsSpec)

end Rows
end Go.Proofs.Ytlkkmpleafpliaa
