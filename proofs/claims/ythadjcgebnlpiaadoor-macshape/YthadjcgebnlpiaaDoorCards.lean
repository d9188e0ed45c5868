/-
  DERIVED. GIVEN WITH THE SEED: THE CARDS: each row of YthadjcgebnlpiaaDoorRows.lean that lists a variable, with what it lists TIED to the program's text (the seventh form; the later family's looks); each row that meets fmt, with fmt's text TOLD by the authors' own Lean function (tested against real Go, not proved from fmt's source: count such statements apart). THE CARD IS WHAT COUNTS. Prove the row's statement (the work); the ties are given (YthadjcgebnlpiaaDoorTie.lean); close each card by the builder's one call (the guide's Derived/Test/ToyasCard.lean, 'card_holds'). Laid BY PROGRAM, IN A SANDBOX (cutbox-door.mjs). By AI agents, Wed Nov 11 2026. No macro, syntax, notation, axiom, sorry.
-/
import Derived.Test.YthadjcgebnlpiaaDoorRows
import GoSem.ClaimSeven
namespace Go.Proofs.YthadjcgebnlpiaaDoor
namespace Rows

/-- THE TIED CARD OF 'jobberlaw3.MacRuns'. -/
def macRunsCard : Claim7 := { stood := { row := macRunsRow, standIns := [], harness := (true, "7d0964c18cd9ad870a2a3226fe6be27a4c44def8e621843a521cab832b8544ea"), looks := false }, kinds := [], alts := [], laidByText := true, laidKinds := [.data, .data], laidTests := true, laidLooks := .later }
def MacRunsCardSaid : Prop := Claim7.holds Tryd.pinned (.plain (OpenSpec.ofChange macRunsSpec)) macRunsCard

/-- THE TIED CARD OF 'jobberlaw3.MacTells'. -/
def macTellsCard : Claim7 := { stood := { row := macTellsRow, standIns := [], harness := (true, "7d0964c18cd9ad870a2a3226fe6be27a4c44def8e621843a521cab832b8544ea"), looks := false }, kinds := [], alts := [], laidByText := true, laidKinds := [.data, .data], laidTests := true, laidLooks := .later }
def MacTellsCardSaid : Prop := Claim7.holds Tryd.pinned (.plain (OpenSpec.ofChange macTellsSpec)) macTellsCard

/-- THE TIED CARD OF 'jobberlaw3.MacEqual'. -/
def macEqualCard : Claim7 := { stood := { row := macEqualRow, standIns := [], harness := (true, "7d0964c18cd9ad870a2a3226fe6be27a4c44def8e621843a521cab832b8544ea"), looks := false }, kinds := [], alts := [], laidByText := true, laidKinds := [.data, .data], laidTests := true, laidLooks := .later }
def MacEqualCardSaid : Prop := Claim7.holds Tryd.pinned (.plain (OpenSpec.ofChange macEqualSpec)) macEqualCard

/-- THE TIED CARD OF 'jobberlaw3.MacAgain'. -/
def macAgainCard : Claim7 := { stood := { row := macAgainRow, standIns := [], harness := (true, "7d0964c18cd9ad870a2a3226fe6be27a4c44def8e621843a521cab832b8544ea"), looks := false }, kinds := [], alts := [], laidByText := true, laidKinds := [.data, .data], laidTests := true, laidLooks := .later }
def MacAgainCardSaid : Prop := Claim7.holds Tryd.pinned (.plain (OpenSpec.ofChange macAgainSpec)) macAgainCard

/-- THE TIED CARD OF 'jobberlaw3.MacShape'. -/
def macShapeCard : Claim7 := { stood := { row := macShapeRow, standIns := [], harness := (true, "7d0964c18cd9ad870a2a3226fe6be27a4c44def8e621843a521cab832b8544ea"), looks := false }, kinds := [], alts := [], laidByText := true, laidKinds := [.data, .data], laidTests := true, laidLooks := .later }
def MacShapeCardSaid : Prop := Claim7.holds Tryd.pinned (.plain (OpenSpec.ofChange macShapeSpec)) macShapeCard

/-- THE SECOND FORM's CARD OF 'jobberlaw3.MacRuns'. -/
def macRunsUptoCard : Claim7 := { stood := { row := macRunsUptoRow, standIns := [], harness := (true, "7d0964c18cd9ad870a2a3226fe6be27a4c44def8e621843a521cab832b8544ea"), looks := false }, kinds := [], alts := [], laidByText := true, laidKinds := [.data, .data], laidTests := true, laidLooks := .later }
def MacRunsUptoCardSaid : Prop := Claim7.holds Tryd.pinned (.plain (OpenSpec.upto macRunsSpec)) macRunsUptoCard

/-- THE SECOND FORM's CARD OF 'jobberlaw3.MacTells'. -/
def macTellsUptoCard : Claim7 := { stood := { row := macTellsUptoRow, standIns := [], harness := (true, "7d0964c18cd9ad870a2a3226fe6be27a4c44def8e621843a521cab832b8544ea"), looks := false }, kinds := [], alts := [], laidByText := true, laidKinds := [.data, .data], laidTests := true, laidLooks := .later }
def MacTellsUptoCardSaid : Prop := Claim7.holds Tryd.pinned (.plain (OpenSpec.upto macTellsSpec)) macTellsUptoCard

/-- THE SECOND FORM's CARD OF 'jobberlaw3.MacEqual'. -/
def macEqualUptoCard : Claim7 := { stood := { row := macEqualUptoRow, standIns := [], harness := (true, "7d0964c18cd9ad870a2a3226fe6be27a4c44def8e621843a521cab832b8544ea"), looks := false }, kinds := [], alts := [], laidByText := true, laidKinds := [.data, .data], laidTests := true, laidLooks := .later }
def MacEqualUptoCardSaid : Prop := Claim7.holds Tryd.pinned (.plain (OpenSpec.upto macEqualSpec)) macEqualUptoCard

/-- THE SECOND FORM's CARD OF 'jobberlaw3.MacAgain'. -/
def macAgainUptoCard : Claim7 := { stood := { row := macAgainUptoRow, standIns := [], harness := (true, "7d0964c18cd9ad870a2a3226fe6be27a4c44def8e621843a521cab832b8544ea"), looks := false }, kinds := [], alts := [], laidByText := true, laidKinds := [.data, .data], laidTests := true, laidLooks := .later }
def MacAgainUptoCardSaid : Prop := Claim7.holds Tryd.pinned (.plain (OpenSpec.upto macAgainSpec)) macAgainUptoCard

/-- THE SECOND FORM's CARD OF 'jobberlaw3.MacShape'. -/
def macShapeUptoCard : Claim7 := { stood := { row := macShapeUptoRow, standIns := [], harness := (true, "7d0964c18cd9ad870a2a3226fe6be27a4c44def8e621843a521cab832b8544ea"), looks := false }, kinds := [], alts := [], laidByText := true, laidKinds := [.data, .data], laidTests := true, laidLooks := .later }
def MacShapeUptoCardSaid : Prop := Claim7.holds Tryd.pinned (.plain (OpenSpec.upto macShapeSpec)) macShapeUptoCard
end Rows
end Go.Proofs.YthadjcgebnlpiaaDoor
