/-
  DERIVED. GIVEN WITH THE SEED: THE CARDS: each row of YtkbhcajiebeepaaGreatDoorRows.lean that lists a variable, with what it lists TIED to the program's text (the seventh form; the later family's looks); each row that meets fmt, with fmt's text TOLD by the authors' own Lean function (tested against real Go, not proved from fmt's source: count such statements apart). THE CARD IS WHAT COUNTS. Prove the row's statement (the work); the ties are given (YtkbhcajiebeepaaGreatDoorTie.lean); close each card by the builder's one call (the guide's Derived/Test/ToyasCard.lean, 'card_holds'). Laid BY PROGRAM, IN A SANDBOX (cutbox-door.mjs). By AI agents, Wed Nov 11 2026. No macro, syntax, notation, axiom, sorry.
-/
import Derived.Test.YtkbhcajiebeepaaGreatDoorRows
import GoSem.ClaimSeven
namespace Go.Proofs.YtkbhcajiebeepaaGreatDoor
namespace Rows

/-- THE TIED CARD OF 'laws.FnExactReadAccount'. -/
def fnExactReadAccountCard : Claim7 := { stood := { row := fnExactReadAccountRow, standIns := [], harness := (true, "6eb778deeadd240791f494631aa5b45e7179c6a54900b941293eeebc144f1a2f"), looks := true }, kinds := [], alts := [], laidByText := true, laidKinds := [.data, .data, .data, .sentinel, .sentinel, .data, .sentinel, .sentinel, .sentinel, .sentinel, .sentinel, .sentinel], laidTests := true, laidLooks := .later }
def FnExactReadAccountCardSaid : Prop := Claim7.holds Tryz.pinned (.plain (OpenSpec.ofChange fnExactReadAccountSpec)) fnExactReadAccountCard

/-- THE TIED CARD OF 'laws.FnExactUnseal'. -/
def fnExactUnsealCard : Claim7 := { stood := { row := fnExactUnsealRow, standIns := [], harness := (true, "6eb778deeadd240791f494631aa5b45e7179c6a54900b941293eeebc144f1a2f"), looks := true }, kinds := [], alts := [], laidByText := true, laidKinds := [.data, .data, .data, .sentinel, .sentinel, .data, .sentinel, .sentinel, .sentinel, .sentinel, .sentinel, .sentinel], laidTests := true, laidLooks := .later }
def FnExactUnsealCardSaid : Prop := Claim7.holds Tryz.pinned (.plain (OpenSpec.ofChange fnExactUnsealSpec)) fnExactUnsealCard

/-- THE SECOND FORM's CARD OF 'laws.FnExactReadAccount'. -/
def fnExactReadAccountUptoCard : Claim7 := { stood := { row := fnExactReadAccountUptoRow, standIns := [], harness := (true, "6eb778deeadd240791f494631aa5b45e7179c6a54900b941293eeebc144f1a2f"), looks := true }, kinds := [], alts := [], laidByText := true, laidKinds := [.data, .data, .data, .sentinel, .sentinel, .data, .sentinel, .sentinel, .sentinel, .sentinel, .sentinel, .sentinel], laidTests := true, laidLooks := .later }
def FnExactReadAccountUptoCardSaid : Prop := Claim7.holds Tryz.pinned (.plain (OpenSpec.upto fnExactReadAccountSpec)) fnExactReadAccountUptoCard

/-- THE SECOND FORM's CARD OF 'laws.FnExactUnseal'. -/
def fnExactUnsealUptoCard : Claim7 := { stood := { row := fnExactUnsealUptoRow, standIns := [], harness := (true, "6eb778deeadd240791f494631aa5b45e7179c6a54900b941293eeebc144f1a2f"), looks := true }, kinds := [], alts := [], laidByText := true, laidKinds := [.data, .data, .data, .sentinel, .sentinel, .data, .sentinel, .sentinel, .sentinel, .sentinel, .sentinel, .sentinel], laidTests := true, laidLooks := .later }
def FnExactUnsealUptoCardSaid : Prop := Claim7.holds Tryz.pinned (.plain (OpenSpec.upto fnExactUnsealSpec)) fnExactUnsealUptoCard
end Rows
end Go.Proofs.YtkbhcajiebeepaaGreatDoor
