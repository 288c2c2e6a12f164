/-
  DERIVED. GIVEN WITH THE SEED: THE CARDS: each row of YtolpgafkojlkoaaDoorRows.lean that lists a variable, with what it lists TIED to the program's text (the seventh form; the later family's looks); each row that meets fmt, with fmt's text TOLD by the authors' own Lean function (tested against real Go, not proved from fmt's source: count such statements apart). THE CARD IS WHAT COUNTS. Prove the row's statement (the work); the ties are given (YtolpgafkojlkoaaDoorTie.lean); close each card by the builder's one call (the guide's Derived/Test/ToyasCard.lean, 'card_holds'). Laid BY PROGRAM, IN A SANDBOX (cutbox-door.mjs). By AI agents, Wed Nov 11 2026. No macro, syntax, notation, axiom, sorry.
-/
import Derived.Test.YtolpgafkojlkoaaDoorRows
import GoSem.ClaimSeven
namespace Go.Proofs.YtolpgafkojlkoaaDoor
namespace Rows

/-- THE TIED CARD OF 'laws.FnExactFormResult'. -/
def fnExactFormResultCard : Claim7 := { stood := { row := fnExactFormResultRow, standIns := [], harness := (true, "5d799410cb8341a12067402bfc15998c8b7f5d2b4a6861efed0e5097cf7cb136"), looks := false }, kinds := [], alts := [], laidByText := true, laidKinds := [.data, .data, .data], laidTests := true, laidLooks := .later }
def FnExactFormResultCardSaid : Prop := Claim7.holds Tryd.pinned (.plain (OpenSpec.ofChange fnExactFormResultSpec)) fnExactFormResultCard

/-- THE TIED CARD OF 'laws.FnResults'. -/
def fnResultsCard : Claim7 := { stood := { row := fnResultsRow, standIns := [], harness := (true, "5d799410cb8341a12067402bfc15998c8b7f5d2b4a6861efed0e5097cf7cb136"), looks := false }, kinds := [], alts := [], laidByText := true, laidKinds := [.data, .data, .data], laidTests := true, laidLooks := .later }
def FnResultsCardSaid : Prop := Claim7.holds Tryd.pinned (.plain (OpenSpec.ofChange fnResultsSpec)) fnResultsCard

/-- THE TIED CARD OF 'laws.FnExactCheckSpace'. -/
def fnExactCheckSpaceCard : Claim7 := { stood := { row := fnExactCheckSpaceRow, standIns := [], harness := (true, "5d799410cb8341a12067402bfc15998c8b7f5d2b4a6861efed0e5097cf7cb136"), looks := false }, kinds := [], alts := [], laidByText := true, laidKinds := [.data], laidTests := true, laidLooks := .later }
def FnExactCheckSpaceCardSaid : Prop := Claim7.holds Tryd.pinned (.plain (OpenSpec.ofChange fnExactCheckSpaceSpec)) fnExactCheckSpaceCard

/-- THE TIED CARD OF 'laws.FnExactValidProgram'. -/
def fnExactValidProgramCard : Claim7 := { stood := { row := fnExactValidProgramRow, standIns := [], harness := (true, "5d799410cb8341a12067402bfc15998c8b7f5d2b4a6861efed0e5097cf7cb136"), looks := false }, kinds := [], alts := [], laidByText := true, laidKinds := [.data], laidTests := true, laidLooks := .later }
def FnExactValidProgramCardSaid : Prop := Claim7.holds Tryd.pinned (.plain (OpenSpec.ofChange fnExactValidProgramSpec)) fnExactValidProgramCard

/-- THE TIED CARD OF 'laws.FnExactPrintProgram'. -/
def fnExactPrintProgramCard : Claim7 := { stood := { row := fnExactPrintProgramRow, standIns := [], harness := (true, "5d799410cb8341a12067402bfc15998c8b7f5d2b4a6861efed0e5097cf7cb136"), looks := false }, kinds := [], alts := [], laidByText := true, laidKinds := [.data, .data, .data, .data], laidTests := true, laidLooks := .later }
def FnExactPrintProgramCardSaid : Prop := Claim7.holds Tryd.pinned (.plain (OpenSpec.ofChange fnExactPrintProgramSpec)) fnExactPrintProgramCard

/-- THE SECOND FORM's CARD OF 'laws.FnExactFormResult'. -/
def fnExactFormResultUptoCard : Claim7 := { stood := { row := fnExactFormResultUptoRow, standIns := [], harness := (true, "5d799410cb8341a12067402bfc15998c8b7f5d2b4a6861efed0e5097cf7cb136"), looks := false }, kinds := [], alts := [], laidByText := true, laidKinds := [.data, .data, .data], laidTests := true, laidLooks := .later }
def FnExactFormResultUptoCardSaid : Prop := Claim7.holds Tryd.pinned (.plain (OpenSpec.upto fnExactFormResultSpec)) fnExactFormResultUptoCard

/-- THE SECOND FORM's CARD OF 'laws.FnResults'. -/
def fnResultsUptoCard : Claim7 := { stood := { row := fnResultsUptoRow, standIns := [], harness := (true, "5d799410cb8341a12067402bfc15998c8b7f5d2b4a6861efed0e5097cf7cb136"), looks := false }, kinds := [], alts := [], laidByText := true, laidKinds := [.data, .data, .data], laidTests := true, laidLooks := .later }
def FnResultsUptoCardSaid : Prop := Claim7.holds Tryd.pinned (.plain (OpenSpec.upto fnResultsSpec)) fnResultsUptoCard

/-- THE SECOND FORM's CARD OF 'laws.FnExactCheckSpace'. -/
def fnExactCheckSpaceUptoCard : Claim7 := { stood := { row := fnExactCheckSpaceUptoRow, standIns := [], harness := (true, "5d799410cb8341a12067402bfc15998c8b7f5d2b4a6861efed0e5097cf7cb136"), looks := false }, kinds := [], alts := [], laidByText := true, laidKinds := [.data], laidTests := true, laidLooks := .later }
def FnExactCheckSpaceUptoCardSaid : Prop := Claim7.holds Tryd.pinned (.plain (OpenSpec.upto fnExactCheckSpaceSpec)) fnExactCheckSpaceUptoCard

/-- THE SECOND FORM's CARD OF 'laws.FnExactValidProgram'. -/
def fnExactValidProgramUptoCard : Claim7 := { stood := { row := fnExactValidProgramUptoRow, standIns := [], harness := (true, "5d799410cb8341a12067402bfc15998c8b7f5d2b4a6861efed0e5097cf7cb136"), looks := false }, kinds := [], alts := [], laidByText := true, laidKinds := [.data], laidTests := true, laidLooks := .later }
def FnExactValidProgramUptoCardSaid : Prop := Claim7.holds Tryd.pinned (.plain (OpenSpec.upto fnExactValidProgramSpec)) fnExactValidProgramUptoCard

/-- THE SECOND FORM's CARD OF 'laws.FnExactPrintProgram'. -/
def fnExactPrintProgramUptoCard : Claim7 := { stood := { row := fnExactPrintProgramUptoRow, standIns := [], harness := (true, "5d799410cb8341a12067402bfc15998c8b7f5d2b4a6861efed0e5097cf7cb136"), looks := false }, kinds := [], alts := [], laidByText := true, laidKinds := [.data, .data, .data, .data], laidTests := true, laidLooks := .later }
def FnExactPrintProgramUptoCardSaid : Prop := Claim7.holds Tryd.pinned (.plain (OpenSpec.upto fnExactPrintProgramSpec)) fnExactPrintProgramUptoCard
end Rows
end Go.Proofs.YtolpgafkojlkoaaDoor
