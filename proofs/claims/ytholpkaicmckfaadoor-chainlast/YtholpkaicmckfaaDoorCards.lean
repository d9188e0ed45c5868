/-
  DERIVED. GIVEN WITH THE SEED: THE CARDS: each row of YtholpkaicmckfaaDoorRows.lean that lists a variable, with what it lists TIED to the program's text (the seventh form; the later family's looks); each row that meets fmt, with fmt's text TOLD by the authors' own Lean function (tested against real Go, not proved from fmt's source: count such statements apart). THE CARD IS WHAT COUNTS. Prove the row's statement (the work); the ties are given (YtholpkaicmckfaaDoorTie.lean); close each card by the builder's one call (the guide's Derived/Test/ToyasCard.lean, 'card_holds'). Laid BY PROGRAM, IN A SANDBOX (cutbox-door.mjs). By AI agents, Wed Nov 11 2026. No macro, syntax, notation, axiom, sorry.
-/
import Derived.Test.YtholpkaicmckfaaDoorRows
import GoSem.ClaimSeven
namespace Go.Proofs.YtholpkaicmckfaaDoor
namespace Rows

/-- THE TIED CARD OF 'jobberlaw4.ChainRuns'. -/
def chainRunsCard : Claim7 := { stood := { row := chainRunsRow, standIns := [], harness := (true, "e75544aa201d5efb3137c0b5e06b5579c65ac1b9662a658e9567c3a72f8817f0"), looks := false }, kinds := [], alts := [], laidByText := true, laidKinds := [.data, .data], laidTests := true, laidLooks := .later }
def ChainRunsCardSaid : Prop := Claim7.holds Tryd.pinned (.plain (OpenSpec.ofChange chainRunsSpec)) chainRunsCard

/-- THE TIED CARD OF 'jobberlaw4.ChainTells'. -/
def chainTellsCard : Claim7 := { stood := { row := chainTellsRow, standIns := [], harness := (true, "e75544aa201d5efb3137c0b5e06b5579c65ac1b9662a658e9567c3a72f8817f0"), looks := false }, kinds := [], alts := [], laidByText := true, laidKinds := [.data, .data], laidTests := true, laidLooks := .later }
def ChainTellsCardSaid : Prop := Claim7.holds Tryd.pinned (.plain (OpenSpec.ofChange chainTellsSpec)) chainTellsCard

/-- THE TIED CARD OF 'jobberlaw4.ChainHolds'. -/
def chainHoldsCard : Claim7 := { stood := { row := chainHoldsRow, standIns := [], harness := (true, "e75544aa201d5efb3137c0b5e06b5579c65ac1b9662a658e9567c3a72f8817f0"), looks := false }, kinds := [], alts := [], laidByText := true, laidKinds := [.data, .data], laidTests := true, laidLooks := .later }
def ChainHoldsCardSaid : Prop := Claim7.holds Tryd.pinned (.plain (OpenSpec.ofChange chainHoldsSpec)) chainHoldsCard

/-- THE TIED CARD OF 'jobberlaw4.ChainLast'. -/
def chainLastCard : Claim7 := { stood := { row := chainLastRow, standIns := [], harness := (true, "e75544aa201d5efb3137c0b5e06b5579c65ac1b9662a658e9567c3a72f8817f0"), looks := false }, kinds := [], alts := [], laidByText := true, laidKinds := [.data, .data], laidTests := true, laidLooks := .later }
def ChainLastCardSaid : Prop := Claim7.holds Tryd.pinned (.plain (OpenSpec.ofChange chainLastSpec)) chainLastCard

/-- THE TIED CARD OF 'jobberlaw4.ChainShape'. -/
def chainShapeCard : Claim7 := { stood := { row := chainShapeRow, standIns := [], harness := (true, "e75544aa201d5efb3137c0b5e06b5579c65ac1b9662a658e9567c3a72f8817f0"), looks := false }, kinds := [], alts := [], laidByText := true, laidKinds := [.data, .data], laidTests := true, laidLooks := .later }
def ChainShapeCardSaid : Prop := Claim7.holds Tryd.pinned (.plain (OpenSpec.ofChange chainShapeSpec)) chainShapeCard

/-- THE SECOND FORM's CARD OF 'jobberlaw4.ChainRuns'. -/
def chainRunsUptoCard : Claim7 := { stood := { row := chainRunsUptoRow, standIns := [], harness := (true, "e75544aa201d5efb3137c0b5e06b5579c65ac1b9662a658e9567c3a72f8817f0"), looks := false }, kinds := [], alts := [], laidByText := true, laidKinds := [.data, .data], laidTests := true, laidLooks := .later }
def ChainRunsUptoCardSaid : Prop := Claim7.holds Tryd.pinned (.plain (OpenSpec.upto chainRunsSpec)) chainRunsUptoCard

/-- THE SECOND FORM's CARD OF 'jobberlaw4.ChainTells'. -/
def chainTellsUptoCard : Claim7 := { stood := { row := chainTellsUptoRow, standIns := [], harness := (true, "e75544aa201d5efb3137c0b5e06b5579c65ac1b9662a658e9567c3a72f8817f0"), looks := false }, kinds := [], alts := [], laidByText := true, laidKinds := [.data, .data], laidTests := true, laidLooks := .later }
def ChainTellsUptoCardSaid : Prop := Claim7.holds Tryd.pinned (.plain (OpenSpec.upto chainTellsSpec)) chainTellsUptoCard

/-- THE SECOND FORM's CARD OF 'jobberlaw4.ChainHolds'. -/
def chainHoldsUptoCard : Claim7 := { stood := { row := chainHoldsUptoRow, standIns := [], harness := (true, "e75544aa201d5efb3137c0b5e06b5579c65ac1b9662a658e9567c3a72f8817f0"), looks := false }, kinds := [], alts := [], laidByText := true, laidKinds := [.data, .data], laidTests := true, laidLooks := .later }
def ChainHoldsUptoCardSaid : Prop := Claim7.holds Tryd.pinned (.plain (OpenSpec.upto chainHoldsSpec)) chainHoldsUptoCard

/-- THE SECOND FORM's CARD OF 'jobberlaw4.ChainLast'. -/
def chainLastUptoCard : Claim7 := { stood := { row := chainLastUptoRow, standIns := [], harness := (true, "e75544aa201d5efb3137c0b5e06b5579c65ac1b9662a658e9567c3a72f8817f0"), looks := false }, kinds := [], alts := [], laidByText := true, laidKinds := [.data, .data], laidTests := true, laidLooks := .later }
def ChainLastUptoCardSaid : Prop := Claim7.holds Tryd.pinned (.plain (OpenSpec.upto chainLastSpec)) chainLastUptoCard

/-- THE SECOND FORM's CARD OF 'jobberlaw4.ChainShape'. -/
def chainShapeUptoCard : Claim7 := { stood := { row := chainShapeUptoRow, standIns := [], harness := (true, "e75544aa201d5efb3137c0b5e06b5579c65ac1b9662a658e9567c3a72f8817f0"), looks := false }, kinds := [], alts := [], laidByText := true, laidKinds := [.data, .data], laidTests := true, laidLooks := .later }
def ChainShapeUptoCardSaid : Prop := Claim7.holds Tryd.pinned (.plain (OpenSpec.upto chainShapeSpec)) chainShapeUptoCard
end Rows
end Go.Proofs.YtholpkaicmckfaaDoor
