/-
  DERIVED. GIVEN WITH THE SEED: THE CARDS: each row of YtggchgpphhhleaaGreatDoorRows.lean that lists a variable, with what it lists TIED to the program's text (the seventh form; the later family's looks); each row that meets fmt, with fmt's text TOLD by the authors' own Lean function (tested against real Go, not proved from fmt's source: count such statements apart). THE CARD IS WHAT COUNTS. Prove the row's statement (the work); the ties are given (YtggchgpphhhleaaGreatDoorTie.lean); close each card by the builder's one call (the guide's Derived/Test/ToyasCard.lean, 'card_holds'). Laid BY PROGRAM, IN A SANDBOX (cutbox-door.mjs). By AI agents, Wed Nov 11 2026. No macro, syntax, notation, axiom, sorry.
-/
import Derived.Test.YtggchgpphhhleaaGreatDoorRows
import GoSem.ClaimSeven
namespace Go.Proofs.YtggchgpphhhleaaGreatDoor
namespace Rows

/-- THE TIED CARD OF 'laws.FnExactTexts'. -/
def fnExactTextsCard : Claim7 := { stood := { row := fnExactTextsRow, standIns := [], harness := (true, "a275f0901e12171eece201a7081fa9699f4189104c0af61ef9bbbcbcd7ae05c7"), looks := false }, kinds := [], alts := [], laidByText := true, laidKinds := [.data, .data, .data, .data], laidTests := true, laidLooks := .later }
def FnExactTextsCardSaid : Prop := Claim7.holds Tryz.pinned (.plain (OpenSpec.ofChange fnExactTextsSpec)) fnExactTextsCard

/-- THE SECOND FORM's CARD OF 'laws.FnExactTexts'. -/
def fnExactTextsUptoCard : Claim7 := { stood := { row := fnExactTextsUptoRow, standIns := [], harness := (true, "a275f0901e12171eece201a7081fa9699f4189104c0af61ef9bbbcbcd7ae05c7"), looks := false }, kinds := [], alts := [], laidByText := true, laidKinds := [.data, .data, .data, .data], laidTests := true, laidLooks := .later }
def FnExactTextsUptoCardSaid : Prop := Claim7.holds Tryz.pinned (.plain (OpenSpec.upto fnExactTextsSpec)) fnExactTextsUptoCard
end Rows
end Go.Proofs.YtggchgpphhhleaaGreatDoor
