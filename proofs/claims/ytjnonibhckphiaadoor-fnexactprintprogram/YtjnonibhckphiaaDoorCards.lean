/-
  DERIVED. GIVEN WITH THE SEED: THE CARDS: each row of YtjnonibhckphiaaDoorRows.lean that lists a variable, with what it lists TIED to the program's text (the seventh form; the later family's looks); each row that meets fmt, with fmt's text TOLD by the authors' own Lean function (tested against real Go, not proved from fmt's source: count such statements apart). THE CARD IS WHAT COUNTS. Prove the row's statement (the work); the ties are given (YtjnonibhckphiaaDoorTie.lean); close each card by the builder's one call (the guide's Derived/Test/ToyasCard.lean, 'card_holds'). Laid BY PROGRAM, IN A SANDBOX (cutbox-door.mjs). By AI agents, Wed Nov 11 2026. No macro, syntax, notation, axiom, sorry.
-/
import Derived.Test.YtjnonibhckphiaaDoorRows
import GoSem.ClaimSeven
namespace Go.Proofs.YtjnonibhckphiaaDoor
namespace Rows

/-- THE TIED CARD OF 'laws.FnExactValidProgram'. -/
def fnExactValidProgramCard : Claim7 := { stood := { row := fnExactValidProgramRow, standIns := [], harness := (true, "384ddc271f7d8025b116a54b08b85d3f2897b0fe83a4701717c9e16c4a76eac6"), looks := false }, kinds := [], alts := [], laidByText := true, laidKinds := [.data], laidTests := true, laidLooks := .later }
def FnExactValidProgramCardSaid : Prop := Claim7.holds Tryd.pinned (.plain (OpenSpec.ofChange fnExactValidProgramSpec)) fnExactValidProgramCard

/-- THE TIED CARD OF 'laws.FnExactPrintProgram'. -/
def fnExactPrintProgramCard : Claim7 := { stood := { row := fnExactPrintProgramRow, standIns := [], harness := (true, "384ddc271f7d8025b116a54b08b85d3f2897b0fe83a4701717c9e16c4a76eac6"), looks := false }, kinds := [], alts := [], laidByText := true, laidKinds := [.data, .data, .data, .data], laidTests := true, laidLooks := .later }
def FnExactPrintProgramCardSaid : Prop := Claim7.holds Tryd.pinned (.plain (OpenSpec.ofChange fnExactPrintProgramSpec)) fnExactPrintProgramCard

/-- THE SECOND FORM's CARD OF 'laws.FnExactValidProgram'. -/
def fnExactValidProgramUptoCard : Claim7 := { stood := { row := fnExactValidProgramUptoRow, standIns := [], harness := (true, "384ddc271f7d8025b116a54b08b85d3f2897b0fe83a4701717c9e16c4a76eac6"), looks := false }, kinds := [], alts := [], laidByText := true, laidKinds := [.data], laidTests := true, laidLooks := .later }
def FnExactValidProgramUptoCardSaid : Prop := Claim7.holds Tryd.pinned (.plain (OpenSpec.upto fnExactValidProgramSpec)) fnExactValidProgramUptoCard

/-- THE SECOND FORM's CARD OF 'laws.FnExactPrintProgram'. -/
def fnExactPrintProgramUptoCard : Claim7 := { stood := { row := fnExactPrintProgramUptoRow, standIns := [], harness := (true, "384ddc271f7d8025b116a54b08b85d3f2897b0fe83a4701717c9e16c4a76eac6"), looks := false }, kinds := [], alts := [], laidByText := true, laidKinds := [.data, .data, .data, .data], laidTests := true, laidLooks := .later }
def FnExactPrintProgramUptoCardSaid : Prop := Claim7.holds Tryd.pinned (.plain (OpenSpec.upto fnExactPrintProgramSpec)) fnExactPrintProgramUptoCard
end Rows
end Go.Proofs.YtjnonibhckphiaaDoor
