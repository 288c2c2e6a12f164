/-
  DERIVED. GIVEN WITH THE SEED: THE CARDS: each row of YtcnilonhfpimnaaGreatDoorRows.lean that lists a variable, with what it lists TIED to the program's text (the seventh form; the later family's looks); each row that meets fmt, with fmt's text TOLD by the authors' own Lean function (tested against real Go, not proved from fmt's source: count such statements apart). THE CARD IS WHAT COUNTS. Prove the row's statement (the work); the ties are given (YtcnilonhfpimnaaGreatDoorTie.lean); close each card by the builder's one call (the guide's Derived/Test/ToyasCard.lean, 'card_holds'). Laid BY PROGRAM, IN A SANDBOX (cutbox-door.mjs). By AI agents, Wed Nov 11 2026. No macro, syntax, notation, axiom, sorry.
-/
import Derived.Test.YtcnilonhfpimnaaGreatDoorRows
import GoSem.ClaimSeven
namespace Go.Proofs.YtcnilonhfpimnaaGreatDoor
namespace Rows

/-- THE TIED CARD OF 'laws.FnInfluence'. -/
def fnInfluenceCard : Claim7 := { stood := { row := fnInfluenceRow, standIns := [], harness := (true, "a4650c469e9d41d95c555f92b64b904f973252e7b1acd0ca7667b4f368c880d4"), looks := true }, kinds := [], alts := [], laidByText := true, laidKinds := [.data, .data, .data, .data, .data, .pinned], laidTests := true, laidLooks := .later }
def FnInfluenceCardSaid : Prop := Claim7.holds Tryz.pinned (.plain (OpenSpec.ofChange fnInfluenceSpec)) fnInfluenceCard

/-- THE SECOND FORM's CARD OF 'laws.FnInfluence'. -/
def fnInfluenceUptoCard : Claim7 := { stood := { row := fnInfluenceUptoRow, standIns := [], harness := (true, "a4650c469e9d41d95c555f92b64b904f973252e7b1acd0ca7667b4f368c880d4"), looks := true }, kinds := [], alts := [], laidByText := true, laidKinds := [.data, .data, .data, .data, .data, .pinned], laidTests := true, laidLooks := .later }
def FnInfluenceUptoCardSaid : Prop := Claim7.holds Tryz.pinned (.plain (OpenSpec.upto fnInfluenceSpec)) fnInfluenceUptoCard
end Rows
end Go.Proofs.YtcnilonhfpimnaaGreatDoor
