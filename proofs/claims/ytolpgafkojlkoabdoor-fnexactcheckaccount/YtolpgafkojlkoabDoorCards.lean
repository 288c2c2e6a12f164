/-
  DERIVED. GIVEN WITH THE SEED: THE CARDS: each row of YtolpgafkojlkoabDoorRows.lean that lists a variable, with what it lists TIED to the program's text (the seventh form; the later family's looks); each row that meets fmt, with fmt's text TOLD by the authors' own Lean function (tested against real Go, not proved from fmt's source: count such statements apart). THE CARD IS WHAT COUNTS. Prove the row's statement (the work); the ties are given (YtolpgafkojlkoabDoorTie.lean); close each card by the builder's one call (the guide's Derived/Test/ToyasCard.lean, 'card_holds'). Laid BY PROGRAM, IN A SANDBOX (cutbox-door.mjs). By AI agents, Wed Nov 11 2026. No macro, syntax, notation, axiom, sorry.
-/
import Derived.Test.YtolpgafkojlkoabDoorRows
import GoSem.ClaimSeven
namespace Go.Proofs.YtolpgafkojlkoabDoor
namespace Rows

/-- THE TIED CARD OF 'laws.FnExactCheckAccount'. -/
def fnExactCheckAccountCard : Claim7 := { stood := { row := fnExactCheckAccountRow, standIns := [], harness := (true, "bd83ead70fb368ac3d6f442166d72a7485a5b8fd4860f709a890ad8d7b7d8e5a"), looks := false }, kinds := [], alts := [], laidByText := true, laidKinds := [.data], laidTests := true, laidLooks := .later }
def FnExactCheckAccountCardSaid : Prop := Claim7.holds Tryd.pinned (.plain (OpenSpec.ofChange fnExactCheckAccountSpec)) fnExactCheckAccountCard

/-- THE SECOND FORM's CARD OF 'laws.FnExactCheckAccount'. -/
def fnExactCheckAccountUptoCard : Claim7 := { stood := { row := fnExactCheckAccountUptoRow, standIns := [], harness := (true, "bd83ead70fb368ac3d6f442166d72a7485a5b8fd4860f709a890ad8d7b7d8e5a"), looks := false }, kinds := [], alts := [], laidByText := true, laidKinds := [.data], laidTests := true, laidLooks := .later }
def FnExactCheckAccountUptoCardSaid : Prop := Claim7.holds Tryd.pinned (.plain (OpenSpec.upto fnExactCheckAccountSpec)) fnExactCheckAccountUptoCard
end Rows
end Go.Proofs.YtolpgafkojlkoabDoor
