/-
  DERIVED. GIVEN WITH THE SEED: THE CARDS: each row of YtfoamgljfdnloaaDoorRows.lean that lists a variable, with what it lists TIED to the program's text (the seventh form; the later family's looks); each row that meets fmt, with fmt's text TOLD by the authors' own Lean function (tested against real Go, not proved from fmt's source: count such statements apart). THE CARD IS WHAT COUNTS. Prove the row's statement (the work); the ties are given (YtfoamgljfdnloaaDoorTie.lean); close each card by the builder's one call (the guide's Derived/Test/ToyasCard.lean, 'card_holds'). Laid BY PROGRAM, IN A SANDBOX (cutbox-door.mjs). By AI agents, Wed Nov 11 2026. No macro, syntax, notation, axiom, sorry.
-/
import Derived.Test.YtfoamgljfdnloaaDoorRows
import GoSem.ClaimSeven
namespace Go.Proofs.YtfoamgljfdnloaaDoor
namespace Rows

/-- THE TIED CARD OF 'jobberlaw14.AllowRuns'. -/
def allowRunsCard : Claim7 := { stood := { row := allowRunsRow, standIns := [], harness := (true, "70f4a87e47bfbfc442a7117bdc68478888a4de9f1c53b93b6622c044574d19f8"), looks := false }, kinds := [], alts := [], laidByText := true, laidKinds := [.data], laidTests := true, laidLooks := .later }
def AllowRunsCardSaid : Prop := Claim7.holds Tryd.pinned (.plain (OpenSpec.ofChange allowRunsSpec)) allowRunsCard

/-- THE TIED CARD OF 'jobberlaw14.AllowTells'. -/
def allowTellsCard : Claim7 := { stood := { row := allowTellsRow, standIns := [], harness := (true, "70f4a87e47bfbfc442a7117bdc68478888a4de9f1c53b93b6622c044574d19f8"), looks := false }, kinds := [], alts := [], laidByText := true, laidKinds := [.data], laidTests := true, laidLooks := .later }
def AllowTellsCardSaid : Prop := Claim7.holds Tryd.pinned (.plain (OpenSpec.ofChange allowTellsSpec)) allowTellsCard

/-- THE TIED CARD OF 'jobberlaw14.AllowMore'. -/
def allowMoreCard : Claim7 := { stood := { row := allowMoreRow, standIns := [], harness := (true, "70f4a87e47bfbfc442a7117bdc68478888a4de9f1c53b93b6622c044574d19f8"), looks := false }, kinds := [], alts := [], laidByText := true, laidKinds := [.data], laidTests := true, laidLooks := .later }
def AllowMoreCardSaid : Prop := Claim7.holds Tryd.pinned (.plain (OpenSpec.ofChange allowMoreSpec)) allowMoreCard

/-- THE TIED CARD OF 'jobberlaw14.AllowFirms'. -/
def allowFirmsCard : Claim7 := { stood := { row := allowFirmsRow, standIns := [], harness := (true, "70f4a87e47bfbfc442a7117bdc68478888a4de9f1c53b93b6622c044574d19f8"), looks := false }, kinds := [], alts := [], laidByText := true, laidKinds := [.data], laidTests := true, laidLooks := .later }
def AllowFirmsCardSaid : Prop := Claim7.holds Tryd.pinned (.plain (OpenSpec.ofChange allowFirmsSpec)) allowFirmsCard

/-- THE TIED CARD OF 'jobberlaw14.AllowOff'. -/
def allowOffCard : Claim7 := { stood := { row := allowOffRow, standIns := [], harness := (true, "70f4a87e47bfbfc442a7117bdc68478888a4de9f1c53b93b6622c044574d19f8"), looks := false }, kinds := [], alts := [], laidByText := true, laidKinds := [.data], laidTests := true, laidLooks := .later }
def AllowOffCardSaid : Prop := Claim7.holds Tryd.pinned (.plain (OpenSpec.ofChange allowOffSpec)) allowOffCard

/-- THE TIED CARD OF 'jobberlaw14.AllowSelf'. -/
def allowSelfCard : Claim7 := { stood := { row := allowSelfRow, standIns := [], harness := (true, "70f4a87e47bfbfc442a7117bdc68478888a4de9f1c53b93b6622c044574d19f8"), looks := false }, kinds := [], alts := [], laidByText := true, laidKinds := [.data], laidTests := true, laidLooks := .later }
def AllowSelfCardSaid : Prop := Claim7.holds Tryd.pinned (.plain (OpenSpec.ofChange allowSelfSpec)) allowSelfCard

/-- THE SECOND FORM's CARD OF 'jobberlaw14.AllowRuns'. -/
def allowRunsUptoCard : Claim7 := { stood := { row := allowRunsUptoRow, standIns := [], harness := (true, "70f4a87e47bfbfc442a7117bdc68478888a4de9f1c53b93b6622c044574d19f8"), looks := false }, kinds := [], alts := [], laidByText := true, laidKinds := [.data], laidTests := true, laidLooks := .later }
def AllowRunsUptoCardSaid : Prop := Claim7.holds Tryd.pinned (.plain (OpenSpec.upto allowRunsSpec)) allowRunsUptoCard

/-- THE SECOND FORM's CARD OF 'jobberlaw14.AllowTells'. -/
def allowTellsUptoCard : Claim7 := { stood := { row := allowTellsUptoRow, standIns := [], harness := (true, "70f4a87e47bfbfc442a7117bdc68478888a4de9f1c53b93b6622c044574d19f8"), looks := false }, kinds := [], alts := [], laidByText := true, laidKinds := [.data], laidTests := true, laidLooks := .later }
def AllowTellsUptoCardSaid : Prop := Claim7.holds Tryd.pinned (.plain (OpenSpec.upto allowTellsSpec)) allowTellsUptoCard

/-- THE SECOND FORM's CARD OF 'jobberlaw14.AllowMore'. -/
def allowMoreUptoCard : Claim7 := { stood := { row := allowMoreUptoRow, standIns := [], harness := (true, "70f4a87e47bfbfc442a7117bdc68478888a4de9f1c53b93b6622c044574d19f8"), looks := false }, kinds := [], alts := [], laidByText := true, laidKinds := [.data], laidTests := true, laidLooks := .later }
def AllowMoreUptoCardSaid : Prop := Claim7.holds Tryd.pinned (.plain (OpenSpec.upto allowMoreSpec)) allowMoreUptoCard

/-- THE SECOND FORM's CARD OF 'jobberlaw14.AllowFirms'. -/
def allowFirmsUptoCard : Claim7 := { stood := { row := allowFirmsUptoRow, standIns := [], harness := (true, "70f4a87e47bfbfc442a7117bdc68478888a4de9f1c53b93b6622c044574d19f8"), looks := false }, kinds := [], alts := [], laidByText := true, laidKinds := [.data], laidTests := true, laidLooks := .later }
def AllowFirmsUptoCardSaid : Prop := Claim7.holds Tryd.pinned (.plain (OpenSpec.upto allowFirmsSpec)) allowFirmsUptoCard

/-- THE SECOND FORM's CARD OF 'jobberlaw14.AllowOff'. -/
def allowOffUptoCard : Claim7 := { stood := { row := allowOffUptoRow, standIns := [], harness := (true, "70f4a87e47bfbfc442a7117bdc68478888a4de9f1c53b93b6622c044574d19f8"), looks := false }, kinds := [], alts := [], laidByText := true, laidKinds := [.data], laidTests := true, laidLooks := .later }
def AllowOffUptoCardSaid : Prop := Claim7.holds Tryd.pinned (.plain (OpenSpec.upto allowOffSpec)) allowOffUptoCard

/-- THE SECOND FORM's CARD OF 'jobberlaw14.AllowSelf'. -/
def allowSelfUptoCard : Claim7 := { stood := { row := allowSelfUptoRow, standIns := [], harness := (true, "70f4a87e47bfbfc442a7117bdc68478888a4de9f1c53b93b6622c044574d19f8"), looks := false }, kinds := [], alts := [], laidByText := true, laidKinds := [.data], laidTests := true, laidLooks := .later }
def AllowSelfUptoCardSaid : Prop := Claim7.holds Tryd.pinned (.plain (OpenSpec.upto allowSelfSpec)) allowSelfUptoCard
end Rows
end Go.Proofs.YtfoamgljfdnloaaDoor
