/-
  NARROWER THAN 'FOR EVERY INPUT', by the rows' own cells (each row's printed sentence says how): AllowRuns: laid · AllowTells: laid · AllowMore: laid · AllowFirms: laid · AllowOff: laid · AllowSelf: laid.
  DERIVED. THE GIVEN ROWS OF THIS SEAT. 6 by the template 'for every input the law returns true; each argument reads behind the call as it read before'; 0 by the template 'total and deterministic' (their statements: YtfoamgljfdnloaaDoorTotals.lean).
  GIVEN WITH THE SEED: the statements are not yours to turn. If you find one false, say at which input.
  Laid BY PROGRAM, IN A SANDBOX (cutbox-rows.mjs): the forced cells as the released guide's own fill.sh prints them over the translation 2549def83562969c… (all of the seat's roots in one cut). By AI agents, Wed Nov 11 2026. No macro, syntax, notation, axiom, sorry.
-/
import Derived.Test.YtfoamgljfdnloaaDoorChecked
import GoSem.Claim
import GoSem.ClaimJoined
import GoSem.ClaimMapViews
import Derived.JoinedTies
import Derived.KernelRfl
namespace Go.Proofs.YtfoamgljfdnloaaDoor
/- THE CELL 'sum', in the pinned program and in every row, IS THE sha256 OF THE DUMP (.gsa) THAT YtfoamgljfdnloaaDoorProg.lean LOADS. Nothing in Lean hashes anything: it is a label: what it is worth is what the hold of that sum in a sandbox is worth. -/
noncomputable def Tryd.pinned : Pinned := { name := "ytfoamgljfdnloaadoor", sum := "2549def83562969c95720d07d72079425d3813c20fcf2f881fe2365146ec142e", checked := Tryd.checked }
namespace Rows
def none {H : Type} : Left H := { results := [], args := [] }

/- WHAT THE LISTED PACKAGE-LEVEL VARIABLES READ AS WHEN THE CALL BEGINS. Each datum BY PROGRAM (the guide's laid-datum.mjs) off the statement by which the dump's own 'gosem.cut.vars' lays the variable. In a bare row this is a premise. The card (YtfoamgljfdnloaaDoorCards.lean) ties it to the program's text. -/
def laid_jobber_allow_rules {H : Type} : DataW H := .agg [.agg [.lit (.int .i64 1), .lit (.int .i64 1), .lit (.int .i64 32)], .agg [.lit (.int .i64 2), .lit (.int .i64 0), .lit (.int .i64 1)], .agg [.lit (.int .i64 2), .lit (.int .i64 2), .lit (.int .i64 4)], .agg [.lit (.int .i64 2), .lit (.int .i64 4), .lit (.int .i64 8)], .agg [.lit (.int .i64 2), .lit (.int .i64 4), .lit (.int .i64 16)], .agg [.lit (.int .i64 2), .lit (.int .i64 8), .lit (.int .i64 0)], .agg [.lit (.int .i64 3), .lit (.int .i64 4), .lit (.int .i64 10)], .agg [.lit (.int .i64 3), .lit (.int .i64 8), .lit (.int .i64 2)], .agg [.lit (.int .i64 4), .lit (.int .i64 8), .lit (.int .i64 0)]]

/-- 'jobberlaw14.AllowRuns': WHATEVER THE INPUT: true; the input reads as it did. -/
def allowRunsSpec : ChangeSpec := { name := "allowRuns", fn := fun _ => fun
  | [] => { results := [.lit (.bool true)], args := [] }
  | _ => none }
def allowRunsRow : OpenClaim := { program := "ytfoamgljfdnloaadoor", sum := "2549def83562969c95720d07d72079425d3813c20fcf2f881fe2365146ec142e", func := "jobber/jobberlaw14.AllowRuns", spec := "allowRuns", named := ["jobber/allow.rules"], apart := false, laid := [("jobber/allow.rules", laid_jobber_allow_rules)] }
def AllowRunsSaid : Prop := allowRunsRow.holds Tryd.pinned (OpenSpec.ofChange allowRunsSpec)

/-- ITS FALSE NEIGHBOUR: 'it returns false'. Refute it at one input. -/
def allowRunsWrong : ChangeSpec := { name := "allowRuns", fn := fun _ => fun
  | [] => { results := [.lit (.bool false)], args := [] }
  | _ => none }
def AllowRunsWrongFalsely : Prop := allowRunsRow.holds Tryd.pinned (OpenSpec.ofChange allowRunsWrong)

/-- 'jobberlaw14.AllowTells': WHATEVER THE INPUT: true; the input reads as it did. -/
def allowTellsSpec : ChangeSpec := { name := "allowTells", fn := fun _ => fun
  | [d1, d2, d3, d4, d5, d6] => { results := [.lit (.bool true)], args := [d1, d2, d3, d4, d5, d6] }
  | _ => none }
def allowTellsRow : OpenClaim := { program := "ytfoamgljfdnloaadoor", sum := "2549def83562969c95720d07d72079425d3813c20fcf2f881fe2365146ec142e", func := "jobber/jobberlaw14.AllowTells", spec := "allowTells", named := ["jobber/allow.rules"], apart := false, laid := [("jobber/allow.rules", laid_jobber_allow_rules)] }
def AllowTellsSaid : Prop := allowTellsRow.holds Tryd.pinned (OpenSpec.ofChange allowTellsSpec)

/-- ITS FALSE NEIGHBOUR: 'it returns false'. Refute it at one input. -/
def allowTellsWrong : ChangeSpec := { name := "allowTells", fn := fun _ => fun
  | [d1, d2, d3, d4, d5, d6] => { results := [.lit (.bool false)], args := [d1, d2, d3, d4, d5, d6] }
  | _ => none }
def AllowTellsWrongFalsely : Prop := allowTellsRow.holds Tryd.pinned (OpenSpec.ofChange allowTellsWrong)

/-- 'jobberlaw14.AllowMore': WHATEVER THE INPUT: true; the input reads as it did. -/
def allowMoreSpec : ChangeSpec := { name := "allowMore", fn := fun _ => fun
  | [d1, d2, d3, d4, d5, d6, d7] => { results := [.lit (.bool true)], args := [d1, d2, d3, d4, d5, d6, d7] }
  | _ => none }
def allowMoreRow : OpenClaim := { program := "ytfoamgljfdnloaadoor", sum := "2549def83562969c95720d07d72079425d3813c20fcf2f881fe2365146ec142e", func := "jobber/jobberlaw14.AllowMore", spec := "allowMore", named := ["jobber/allow.rules"], apart := false, laid := [("jobber/allow.rules", laid_jobber_allow_rules)] }
def AllowMoreSaid : Prop := allowMoreRow.holds Tryd.pinned (OpenSpec.ofChange allowMoreSpec)

/-- ITS FALSE NEIGHBOUR: 'it returns false'. Refute it at one input. -/
def allowMoreWrong : ChangeSpec := { name := "allowMore", fn := fun _ => fun
  | [d1, d2, d3, d4, d5, d6, d7] => { results := [.lit (.bool false)], args := [d1, d2, d3, d4, d5, d6, d7] }
  | _ => none }
def AllowMoreWrongFalsely : Prop := allowMoreRow.holds Tryd.pinned (OpenSpec.ofChange allowMoreWrong)

/-- 'jobberlaw14.AllowFirms': WHATEVER THE INPUT: true; the input reads as it did. -/
def allowFirmsSpec : ChangeSpec := { name := "allowFirms", fn := fun _ => fun
  | [d1, d2, d3, d4, d5] => { results := [.lit (.bool true)], args := [d1, d2, d3, d4, d5] }
  | _ => none }
def allowFirmsRow : OpenClaim := { program := "ytfoamgljfdnloaadoor", sum := "2549def83562969c95720d07d72079425d3813c20fcf2f881fe2365146ec142e", func := "jobber/jobberlaw14.AllowFirms", spec := "allowFirms", named := ["jobber/allow.rules"], apart := false, laid := [("jobber/allow.rules", laid_jobber_allow_rules)] }
def AllowFirmsSaid : Prop := allowFirmsRow.holds Tryd.pinned (OpenSpec.ofChange allowFirmsSpec)

/-- ITS FALSE NEIGHBOUR: 'it returns false'. Refute it at one input. -/
def allowFirmsWrong : ChangeSpec := { name := "allowFirms", fn := fun _ => fun
  | [d1, d2, d3, d4, d5] => { results := [.lit (.bool false)], args := [d1, d2, d3, d4, d5] }
  | _ => none }
def AllowFirmsWrongFalsely : Prop := allowFirmsRow.holds Tryd.pinned (OpenSpec.ofChange allowFirmsWrong)

/-- 'jobberlaw14.AllowOff': WHATEVER THE INPUT: true; the input reads as it did. -/
def allowOffSpec : ChangeSpec := { name := "allowOff", fn := fun _ => fun
  | [d1, d2, d3, d4, d5, d6] => { results := [.lit (.bool true)], args := [d1, d2, d3, d4, d5, d6] }
  | _ => none }
def allowOffRow : OpenClaim := { program := "ytfoamgljfdnloaadoor", sum := "2549def83562969c95720d07d72079425d3813c20fcf2f881fe2365146ec142e", func := "jobber/jobberlaw14.AllowOff", spec := "allowOff", named := ["jobber/allow.rules"], apart := false, laid := [("jobber/allow.rules", laid_jobber_allow_rules)] }
def AllowOffSaid : Prop := allowOffRow.holds Tryd.pinned (OpenSpec.ofChange allowOffSpec)

/-- ITS FALSE NEIGHBOUR: 'it returns false'. Refute it at one input. -/
def allowOffWrong : ChangeSpec := { name := "allowOff", fn := fun _ => fun
  | [d1, d2, d3, d4, d5, d6] => { results := [.lit (.bool false)], args := [d1, d2, d3, d4, d5, d6] }
  | _ => none }
def AllowOffWrongFalsely : Prop := allowOffRow.holds Tryd.pinned (OpenSpec.ofChange allowOffWrong)

/-- 'jobberlaw14.AllowSelf': WHATEVER THE INPUT: true; the input reads as it did. -/
def allowSelfSpec : ChangeSpec := { name := "allowSelf", fn := fun _ => fun
  | [d1, d2, d3, d4] => { results := [.lit (.bool true)], args := [d1, d2, d3, d4] }
  | _ => none }
def allowSelfRow : OpenClaim := { program := "ytfoamgljfdnloaadoor", sum := "2549def83562969c95720d07d72079425d3813c20fcf2f881fe2365146ec142e", func := "jobber/jobberlaw14.AllowSelf", spec := "allowSelf", named := ["jobber/allow.rules"], apart := false, laid := [("jobber/allow.rules", laid_jobber_allow_rules)] }
def AllowSelfSaid : Prop := allowSelfRow.holds Tryd.pinned (OpenSpec.ofChange allowSelfSpec)

/-- ITS FALSE NEIGHBOUR: 'it returns false'. Refute it at one input. -/
def allowSelfWrong : ChangeSpec := { name := "allowSelf", fn := fun _ => fun
  | [d1, d2, d3, d4] => { results := [.lit (.bool false)], args := [d1, d2, d3, d4] }
  | _ => none }
def AllowSelfWrongFalsely : Prop := allowSelfRow.holds Tryd.pinned (OpenSpec.ofChange allowSelfWrong)

/- THE SECOND FORM. 'bulk': how many values and letters a reading holds, each counted each time it is reached (what is shared counts as often as it is met; a slice's spare places count too). A statement '..UptoSaid' is the law's where the arguments, and the package variables that the reading takes, are together of bulk at most 1048576: NARROWER than '..Said'. Prove '..Said' where nothing that the law and all that it calls make is longer than what came in: it says more and counts as full. Else prove '..UptoSaid'. A law counts once. -/
mutual
def uptoBulk {H : Type} : DataW H → Nat
  | .lit (.string bytes) => bytes.length + 1
  | .lit _ => 1
  | .nil => 1
  | .ptr d => uptoBulk d + 1
  | .slice elems spare => uptoBulkAll elems + uptoBulkAll spare + 1
  | .agg parts => uptoBulkAll parts + 1
  | .iface _ d => uptoBulk d + 1
  | .map entries => uptoBulkEntries entries + 1
  | .held _ => 1
def uptoBulkAll {H : Type} : List (DataW H) → Nat
  | [] => 0
  | d :: r => uptoBulk d + uptoBulkAll r
def uptoBulkEntries {H : Type} : List (Lit × DataW H) → Nat
  | [] => 0
  | x :: r => uptoBulkEntry x + uptoBulkEntries r
def uptoBulkEntry {H : Type} : Lit × DataW H → Nat
  | (.string bytes, d) => bytes.length + uptoBulk d + 1
  | (_, d) => uptoBulk d + 1
 end
def uptoSmall : (H : Type) → List (DataW H) → Bool := fun _ ds => decide (uptoBulkAll ds ≤ 1048576)
def OpenSpec.upto (s : _root_.Go.ChangeSpec) : _root_.Go.OpenSpec := { _root_.Go.OpenSpec.ofChange s with cond := some uptoSmall }

/-- 'jobberlaw14.AllowRuns', WHERE WHAT IT READS IS OF BULK AT MOST 1048576: true; the input reads as it did. -/
def allowRunsUptoRow : OpenClaim := { program := "ytfoamgljfdnloaadoor", sum := "2549def83562969c95720d07d72079425d3813c20fcf2f881fe2365146ec142e", func := "jobber/jobberlaw14.AllowRuns", spec := "allowRuns", named := ["jobber/allow.rules"], apart := false, laid := [("jobber/allow.rules", laid_jobber_allow_rules)], narrowed := true }
def AllowRunsUptoSaid : Prop := allowRunsUptoRow.holds Tryd.pinned (OpenSpec.upto allowRunsSpec)

/-- 'jobberlaw14.AllowTells', WHERE WHAT IT READS IS OF BULK AT MOST 1048576: true; the input reads as it did. -/
def allowTellsUptoRow : OpenClaim := { program := "ytfoamgljfdnloaadoor", sum := "2549def83562969c95720d07d72079425d3813c20fcf2f881fe2365146ec142e", func := "jobber/jobberlaw14.AllowTells", spec := "allowTells", named := ["jobber/allow.rules"], apart := false, laid := [("jobber/allow.rules", laid_jobber_allow_rules)], narrowed := true }
def AllowTellsUptoSaid : Prop := allowTellsUptoRow.holds Tryd.pinned (OpenSpec.upto allowTellsSpec)

/-- 'jobberlaw14.AllowMore', WHERE WHAT IT READS IS OF BULK AT MOST 1048576: true; the input reads as it did. -/
def allowMoreUptoRow : OpenClaim := { program := "ytfoamgljfdnloaadoor", sum := "2549def83562969c95720d07d72079425d3813c20fcf2f881fe2365146ec142e", func := "jobber/jobberlaw14.AllowMore", spec := "allowMore", named := ["jobber/allow.rules"], apart := false, laid := [("jobber/allow.rules", laid_jobber_allow_rules)], narrowed := true }
def AllowMoreUptoSaid : Prop := allowMoreUptoRow.holds Tryd.pinned (OpenSpec.upto allowMoreSpec)

/-- 'jobberlaw14.AllowFirms', WHERE WHAT IT READS IS OF BULK AT MOST 1048576: true; the input reads as it did. -/
def allowFirmsUptoRow : OpenClaim := { program := "ytfoamgljfdnloaadoor", sum := "2549def83562969c95720d07d72079425d3813c20fcf2f881fe2365146ec142e", func := "jobber/jobberlaw14.AllowFirms", spec := "allowFirms", named := ["jobber/allow.rules"], apart := false, laid := [("jobber/allow.rules", laid_jobber_allow_rules)], narrowed := true }
def AllowFirmsUptoSaid : Prop := allowFirmsUptoRow.holds Tryd.pinned (OpenSpec.upto allowFirmsSpec)

/-- 'jobberlaw14.AllowOff', WHERE WHAT IT READS IS OF BULK AT MOST 1048576: true; the input reads as it did. -/
def allowOffUptoRow : OpenClaim := { program := "ytfoamgljfdnloaadoor", sum := "2549def83562969c95720d07d72079425d3813c20fcf2f881fe2365146ec142e", func := "jobber/jobberlaw14.AllowOff", spec := "allowOff", named := ["jobber/allow.rules"], apart := false, laid := [("jobber/allow.rules", laid_jobber_allow_rules)], narrowed := true }
def AllowOffUptoSaid : Prop := allowOffUptoRow.holds Tryd.pinned (OpenSpec.upto allowOffSpec)

/-- 'jobberlaw14.AllowSelf', WHERE WHAT IT READS IS OF BULK AT MOST 1048576: true; the input reads as it did. -/
def allowSelfUptoRow : OpenClaim := { program := "ytfoamgljfdnloaadoor", sum := "2549def83562969c95720d07d72079425d3813c20fcf2f881fe2365146ec142e", func := "jobber/jobberlaw14.AllowSelf", spec := "allowSelf", named := ["jobber/allow.rules"], apart := false, laid := [("jobber/allow.rules", laid_jobber_allow_rules)], narrowed := true }
def AllowSelfUptoSaid : Prop := allowSelfUptoRow.holds Tryd.pinned (OpenSpec.upto allowSelfSpec)

end Rows
end Go.Proofs.YtfoamgljfdnloaaDoor
