/-
  No cell of these rows narrows 'for every input' (looked for: loops, veiled, ifaces, maps, wideKeys, modest, calm, conditions, laid).
  DERIVED. THE GIVEN ROWS OF THIS SEAT. 7 by the template 'for every input the law returns true; each argument reads behind the call as it read before'; 0 by the template 'total and deterministic' (their statements: YtdmeiffofmagjaaTotals.lean).
  GIVEN WITH THE SEED: the statements are not yours to turn. If you find one false, say at which input.
  Laid BY PROGRAM, IN A SANDBOX (cutbox-rows.mjs): the forced cells as the released guide's own fill.sh prints them over the translation 3c6234c29a4dfad9… (all of the seat's roots in one cut). By AI agents, Wed Nov 11 2026. No macro, syntax, notation, axiom, sorry.
-/
import Derived.Test.YtdmeiffofmagjaaChecked
import GoSem.Claim
import GoSem.ClaimJoined
import GoSem.ClaimMapViews
import Derived.JoinedTies
import Derived.KernelRfl
namespace Go.Proofs.Ytdmeiffofmagjaa
/- THE CELL 'sum', in the pinned program and in every row, IS THE sha256 OF THE DUMP (.gsa) THAT YtdmeiffofmagjaaProg.lean LOADS. Nothing in Lean hashes anything: it is a label: what it is worth is what the hold of that sum in a sandbox is worth. -/
noncomputable def Try.pinned : Pinned := { name := "ytdmeiffofmagjaa", sum := "3c6234c29a4dfad9158ee81fc538a6ad32e8dcfff67dbdcabae40ee36f3eabe9", checked := Try.checked }
namespace Rows
def none {H : Type} : Left H := { results := [], args := [] }

/-- 'jobberlaw6.MsgRuns': WHATEVER THE INPUT: true; the input reads as it did. -/
def msgRunsSpec : ChangeSpec := { name := "msgRuns", fn := fun _ => fun
  | [] => { results := [.lit (.bool true)], args := [] }
  | _ => none }
def msgRunsRow : OpenClaim := { program := "ytdmeiffofmagjaa", sum := "3c6234c29a4dfad9158ee81fc538a6ad32e8dcfff67dbdcabae40ee36f3eabe9", func := "jobber/jobberlaw6.MsgRuns", spec := "msgRuns", apart := false }
def MsgRunsSaid : Prop := msgRunsRow.holds Try.pinned (OpenSpec.ofChange msgRunsSpec)

/-- ITS FALSE NEIGHBOUR: 'it returns false'. Refute it at one input. -/
def msgRunsWrong : ChangeSpec := { name := "msgRuns", fn := fun _ => fun
  | [] => { results := [.lit (.bool false)], args := [] }
  | _ => none }
def MsgRunsWrongFalsely : Prop := msgRunsRow.holds Try.pinned (OpenSpec.ofChange msgRunsWrong)

/-- 'jobberlaw6.MsgTells': WHATEVER THE INPUT: true; the input reads as it did. -/
def msgTellsSpec : ChangeSpec := { name := "msgTells", fn := fun _ => fun
  | [d1, d2] => { results := [.lit (.bool true)], args := [d1, d2] }
  | _ => none }
def msgTellsRow : OpenClaim := { program := "ytdmeiffofmagjaa", sum := "3c6234c29a4dfad9158ee81fc538a6ad32e8dcfff67dbdcabae40ee36f3eabe9", func := "jobber/jobberlaw6.MsgTells", spec := "msgTells", apart := false }
def MsgTellsSaid : Prop := msgTellsRow.holds Try.pinned (OpenSpec.ofChange msgTellsSpec)

/-- ITS FALSE NEIGHBOUR: 'it returns false'. Refute it at one input. -/
def msgTellsWrong : ChangeSpec := { name := "msgTells", fn := fun _ => fun
  | [d1, d2] => { results := [.lit (.bool false)], args := [d1, d2] }
  | _ => none }
def MsgTellsWrongFalsely : Prop := msgTellsRow.holds Try.pinned (OpenSpec.ofChange msgTellsWrong)

/-- 'jobberlaw6.MsgReads': WHATEVER THE INPUT: true; the input reads as it did. -/
def msgReadsSpec : ChangeSpec := { name := "msgReads", fn := fun _ => fun
  | [d] => { results := [.lit (.bool true)], args := [d] }
  | _ => none }
def msgReadsRow : OpenClaim := { program := "ytdmeiffofmagjaa", sum := "3c6234c29a4dfad9158ee81fc538a6ad32e8dcfff67dbdcabae40ee36f3eabe9", func := "jobber/jobberlaw6.MsgReads", spec := "msgReads", apart := false }
def MsgReadsSaid : Prop := msgReadsRow.holds Try.pinned (OpenSpec.ofChange msgReadsSpec)

/-- ITS FALSE NEIGHBOUR: 'it returns false'. Refute it at one input. -/
def msgReadsWrong : ChangeSpec := { name := "msgReads", fn := fun _ => fun
  | [d] => { results := [.lit (.bool false)], args := [d] }
  | _ => none }
def MsgReadsWrongFalsely : Prop := msgReadsRow.holds Try.pinned (OpenSpec.ofChange msgReadsWrong)

/-- 'jobberlaw6.MsgBack': WHATEVER THE INPUT: true; the input reads as it did. -/
def msgBackSpec : ChangeSpec := { name := "msgBack", fn := fun _ => fun
  | [d1, d2, d3, d4] => { results := [.lit (.bool true)], args := [d1, d2, d3, d4] }
  | _ => none }
def msgBackRow : OpenClaim := { program := "ytdmeiffofmagjaa", sum := "3c6234c29a4dfad9158ee81fc538a6ad32e8dcfff67dbdcabae40ee36f3eabe9", func := "jobber/jobberlaw6.MsgBack", spec := "msgBack", apart := false }
def MsgBackSaid : Prop := msgBackRow.holds Try.pinned (OpenSpec.ofChange msgBackSpec)

/-- ITS FALSE NEIGHBOUR: 'it returns false'. Refute it at one input. -/
def msgBackWrong : ChangeSpec := { name := "msgBack", fn := fun _ => fun
  | [d1, d2, d3, d4] => { results := [.lit (.bool false)], args := [d1, d2, d3, d4] }
  | _ => none }
def MsgBackWrongFalsely : Prop := msgBackRow.holds Try.pinned (OpenSpec.ofChange msgBackWrong)

/-- 'jobberlaw6.MsgOnly': WHATEVER THE INPUT: true; the input reads as it did. -/
def msgOnlySpec : ChangeSpec := { name := "msgOnly", fn := fun _ => fun
  | [d1, d2] => { results := [.lit (.bool true)], args := [d1, d2] }
  | _ => none }
def msgOnlyRow : OpenClaim := { program := "ytdmeiffofmagjaa", sum := "3c6234c29a4dfad9158ee81fc538a6ad32e8dcfff67dbdcabae40ee36f3eabe9", func := "jobber/jobberlaw6.MsgOnly", spec := "msgOnly", apart := false }
def MsgOnlySaid : Prop := msgOnlyRow.holds Try.pinned (OpenSpec.ofChange msgOnlySpec)

/-- ITS FALSE NEIGHBOUR: 'it returns false'. Refute it at one input. -/
def msgOnlyWrong : ChangeSpec := { name := "msgOnly", fn := fun _ => fun
  | [d1, d2] => { results := [.lit (.bool false)], args := [d1, d2] }
  | _ => none }
def MsgOnlyWrongFalsely : Prop := msgOnlyRow.holds Try.pinned (OpenSpec.ofChange msgOnlyWrong)

/-- 'jobberlaw6.MsgLens': WHATEVER THE INPUT: true; the input reads as it did. -/
def msgLensSpec : ChangeSpec := { name := "msgLens", fn := fun _ => fun
  | [d1, d2] => { results := [.lit (.bool true)], args := [d1, d2] }
  | _ => none }
def msgLensRow : OpenClaim := { program := "ytdmeiffofmagjaa", sum := "3c6234c29a4dfad9158ee81fc538a6ad32e8dcfff67dbdcabae40ee36f3eabe9", func := "jobber/jobberlaw6.MsgLens", spec := "msgLens", apart := false }
def MsgLensSaid : Prop := msgLensRow.holds Try.pinned (OpenSpec.ofChange msgLensSpec)

/-- ITS FALSE NEIGHBOUR: 'it returns false'. Refute it at one input. -/
def msgLensWrong : ChangeSpec := { name := "msgLens", fn := fun _ => fun
  | [d1, d2] => { results := [.lit (.bool false)], args := [d1, d2] }
  | _ => none }
def MsgLensWrongFalsely : Prop := msgLensRow.holds Try.pinned (OpenSpec.ofChange msgLensWrong)

/-- 'jobberlaw6.MsgNotes': WHATEVER THE INPUT: true; the input reads as it did. -/
def msgNotesSpec : ChangeSpec := { name := "msgNotes", fn := fun _ => fun
  | [d1, d2] => { results := [.lit (.bool true)], args := [d1, d2] }
  | _ => none }
def msgNotesRow : OpenClaim := { program := "ytdmeiffofmagjaa", sum := "3c6234c29a4dfad9158ee81fc538a6ad32e8dcfff67dbdcabae40ee36f3eabe9", func := "jobber/jobberlaw6.MsgNotes", spec := "msgNotes", apart := false }
def MsgNotesSaid : Prop := msgNotesRow.holds Try.pinned (OpenSpec.ofChange msgNotesSpec)

/-- ITS FALSE NEIGHBOUR: 'it returns false'. Refute it at one input. -/
def msgNotesWrong : ChangeSpec := { name := "msgNotes", fn := fun _ => fun
  | [d1, d2] => { results := [.lit (.bool false)], args := [d1, d2] }
  | _ => none }
def MsgNotesWrongFalsely : Prop := msgNotesRow.holds Try.pinned (OpenSpec.ofChange msgNotesWrong)

/- THE SECOND FORM. 'bulk': how many values and letters a reading holds, each counted each time it is reached (what is shared counts as often as it is met; a slice's spare places count too). A statement '..UptoSaid' is the law's where the arguments, and the package variables that the reading takes, are together of bulk at most 1048576: NARROWER than '..Said'. Prove '..Said' where nothing that the law and all that it calls make is longer than what came in: it says more and counts as full. Else prove '..UptoSaid'. A law counts once. -/
mutual
def uptoBulk {H : Type} : DataW H → Nat
  | .lit (.string bytes) => bytes.length + 1
  | .lit _ => 1
  | .nil => 1
  | .ptr d => uptoBulk d + 1
  | .slice elems spare => uptoBulkAll elems + uptoBulkAll spare + 1
  | .agg parts => uptoBulkAll parts + 1
  | .iface _ d => uptoBulk d + 1
  | .map entries => uptoBulkEntries entries + 1
  | .held _ => 1
def uptoBulkAll {H : Type} : List (DataW H) → Nat
  | [] => 0
  | d :: r => uptoBulk d + uptoBulkAll r
def uptoBulkEntries {H : Type} : List (Lit × DataW H) → Nat
  | [] => 0
  | x :: r => uptoBulkEntry x + uptoBulkEntries r
def uptoBulkEntry {H : Type} : Lit × DataW H → Nat
  | (.string bytes, d) => bytes.length + uptoBulk d + 1
  | (_, d) => uptoBulk d + 1
 end
def uptoSmall : (H : Type) → List (DataW H) → Bool := fun _ ds => decide (uptoBulkAll ds ≤ 1048576)
def OpenSpec.upto (s : _root_.Go.ChangeSpec) : _root_.Go.OpenSpec := { _root_.Go.OpenSpec.ofChange s with cond := some uptoSmall }

/-- 'jobberlaw6.MsgRuns', WHERE WHAT IT READS IS OF BULK AT MOST 1048576: true; the input reads as it did. -/
def msgRunsUptoRow : OpenClaim := { program := "ytdmeiffofmagjaa", sum := "3c6234c29a4dfad9158ee81fc538a6ad32e8dcfff67dbdcabae40ee36f3eabe9", func := "jobber/jobberlaw6.MsgRuns", spec := "msgRuns", apart := false, narrowed := true }
def MsgRunsUptoSaid : Prop := msgRunsUptoRow.holds Try.pinned (OpenSpec.upto msgRunsSpec)

/-- 'jobberlaw6.MsgTells', WHERE WHAT IT READS IS OF BULK AT MOST 1048576: true; the input reads as it did. -/
def msgTellsUptoRow : OpenClaim := { program := "ytdmeiffofmagjaa", sum := "3c6234c29a4dfad9158ee81fc538a6ad32e8dcfff67dbdcabae40ee36f3eabe9", func := "jobber/jobberlaw6.MsgTells", spec := "msgTells", apart := false, narrowed := true }
def MsgTellsUptoSaid : Prop := msgTellsUptoRow.holds Try.pinned (OpenSpec.upto msgTellsSpec)

/-- 'jobberlaw6.MsgReads', WHERE WHAT IT READS IS OF BULK AT MOST 1048576: true; the input reads as it did. -/
def msgReadsUptoRow : OpenClaim := { program := "ytdmeiffofmagjaa", sum := "3c6234c29a4dfad9158ee81fc538a6ad32e8dcfff67dbdcabae40ee36f3eabe9", func := "jobber/jobberlaw6.MsgReads", spec := "msgReads", apart := false, narrowed := true }
def MsgReadsUptoSaid : Prop := msgReadsUptoRow.holds Try.pinned (OpenSpec.upto msgReadsSpec)

/-- 'jobberlaw6.MsgBack', WHERE WHAT IT READS IS OF BULK AT MOST 1048576: true; the input reads as it did. -/
def msgBackUptoRow : OpenClaim := { program := "ytdmeiffofmagjaa", sum := "3c6234c29a4dfad9158ee81fc538a6ad32e8dcfff67dbdcabae40ee36f3eabe9", func := "jobber/jobberlaw6.MsgBack", spec := "msgBack", apart := false, narrowed := true }
def MsgBackUptoSaid : Prop := msgBackUptoRow.holds Try.pinned (OpenSpec.upto msgBackSpec)

/-- 'jobberlaw6.MsgOnly', WHERE WHAT IT READS IS OF BULK AT MOST 1048576: true; the input reads as it did. -/
def msgOnlyUptoRow : OpenClaim := { program := "ytdmeiffofmagjaa", sum := "3c6234c29a4dfad9158ee81fc538a6ad32e8dcfff67dbdcabae40ee36f3eabe9", func := "jobber/jobberlaw6.MsgOnly", spec := "msgOnly", apart := false, narrowed := true }
def MsgOnlyUptoSaid : Prop := msgOnlyUptoRow.holds Try.pinned (OpenSpec.upto msgOnlySpec)

/-- 'jobberlaw6.MsgLens', WHERE WHAT IT READS IS OF BULK AT MOST 1048576: true; the input reads as it did. -/
def msgLensUptoRow : OpenClaim := { program := "ytdmeiffofmagjaa", sum := "3c6234c29a4dfad9158ee81fc538a6ad32e8dcfff67dbdcabae40ee36f3eabe9", func := "jobber/jobberlaw6.MsgLens", spec := "msgLens", apart := false, narrowed := true }
def MsgLensUptoSaid : Prop := msgLensUptoRow.holds Try.pinned (OpenSpec.upto msgLensSpec)

/-- 'jobberlaw6.MsgNotes', WHERE WHAT IT READS IS OF BULK AT MOST 1048576: true; the input reads as it did. -/
def msgNotesUptoRow : OpenClaim := { program := "ytdmeiffofmagjaa", sum := "3c6234c29a4dfad9158ee81fc538a6ad32e8dcfff67dbdcabae40ee36f3eabe9", func := "jobber/jobberlaw6.MsgNotes", spec := "msgNotes", apart := false, narrowed := true }
def MsgNotesUptoSaid : Prop := msgNotesUptoRow.holds Try.pinned (OpenSpec.upto msgNotesSpec)

end Rows
end Go.Proofs.Ytdmeiffofmagjaa
