/-
  DERIVED. GIVEN WITH THE SEED: THE CARDS: each row of YtfhdecheaeoopaaGreatDoorRows.lean that lists a variable, with what it lists TIED to the program's text (the seventh form; the later family's looks); each row that meets fmt, with fmt's text TOLD by the authors' own Lean function (tested against real Go, not proved from fmt's source: count such statements apart). THE CARD IS WHAT COUNTS. Prove the row's statement (the work); the ties are given (YtfhdecheaeoopaaGreatDoorTie.lean); close each card by the builder's one call (the guide's Derived/Test/ToyasCard.lean, 'card_holds'). Laid BY PROGRAM, IN A SANDBOX (cutbox-door.mjs). By AI agents, Wed Nov 11 2026. No macro, syntax, notation, axiom, sorry.
-/
import Derived.Test.YtfhdecheaeoopaaGreatDoorRows
import GoSem.ClaimSeven
namespace Go.Proofs.YtfhdecheaeoopaaGreatDoor
namespace Rows

/-- THE TIED CARD OF 'laws.FnExactFollows'. -/
def fnExactFollowsCard : Claim7 := { stood := { row := fnExactFollowsRow, standIns := [], harness := (true, "8fc324fe0f0905dc47ced3582369b1ba4538114a976049699be10644992a6025"), looks := false }, kinds := [], alts := [], laidByText := true, laidKinds := [.data, .data, .data, .data, .data, .pinned], laidTests := true, laidLooks := .later }
def FnExactFollowsCardSaid : Prop := Claim7.holds Tryz.pinned (.plain (OpenSpec.ofChange fnExactFollowsSpec)) fnExactFollowsCard

/-- THE TIED CARD OF 'laws.FnExactAudit'. -/
def fnExactAuditCard : Claim7 := { stood := { row := fnExactAuditRow, standIns := [], harness := (true, "8fc324fe0f0905dc47ced3582369b1ba4538114a976049699be10644992a6025"), looks := false }, kinds := [], alts := [], laidByText := true, laidKinds := [.data, .data, .data, .data, .data, .pinned], laidTests := true, laidLooks := .later }
def FnExactAuditCardSaid : Prop := Claim7.holds Tryz.pinned (.plain (OpenSpec.ofChange fnExactAuditSpec)) fnExactAuditCard

/-- THE SECOND FORM's CARD OF 'laws.FnExactFollows'. -/
def fnExactFollowsUptoCard : Claim7 := { stood := { row := fnExactFollowsUptoRow, standIns := [], harness := (true, "8fc324fe0f0905dc47ced3582369b1ba4538114a976049699be10644992a6025"), looks := false }, kinds := [], alts := [], laidByText := true, laidKinds := [.data, .data, .data, .data, .data, .pinned], laidTests := true, laidLooks := .later }
def FnExactFollowsUptoCardSaid : Prop := Claim7.holds Tryz.pinned (.plain (OpenSpec.upto fnExactFollowsSpec)) fnExactFollowsUptoCard

/-- THE SECOND FORM's CARD OF 'laws.FnExactAudit'. -/
def fnExactAuditUptoCard : Claim7 := { stood := { row := fnExactAuditUptoRow, standIns := [], harness := (true, "8fc324fe0f0905dc47ced3582369b1ba4538114a976049699be10644992a6025"), looks := false }, kinds := [], alts := [], laidByText := true, laidKinds := [.data, .data, .data, .data, .data, .pinned], laidTests := true, laidLooks := .later }
def FnExactAuditUptoCardSaid : Prop := Claim7.holds Tryz.pinned (.plain (OpenSpec.upto fnExactAuditSpec)) fnExactAuditUptoCard
end Rows
end Go.Proofs.YtfhdecheaeoopaaGreatDoor
