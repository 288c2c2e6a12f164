/-
  DERIVED. GIVEN WITH THE SEED: THE CARDS: each row of YtclalcefkmjenaaDoorRows.lean that lists a variable, with what it lists TIED to the program's text (the seventh form; the later family's looks); each row that meets fmt, with fmt's text TOLD by the authors' own Lean function (tested against real Go, not proved from fmt's source: count such statements apart). THE CARD IS WHAT COUNTS. Prove the row's statement (the work); the ties are given (YtclalcefkmjenaaDoorTie.lean); close each card by the builder's one call (the guide's Derived/Test/ToyasCard.lean, 'card_holds'). Laid BY PROGRAM, IN A SANDBOX (cutbox-door.mjs). By AI agents, Wed Nov 11 2026. No macro, syntax, notation, axiom, sorry.
-/
import Derived.Test.YtclalcefkmjenaaDoorRows
import GoSem.ClaimSeven
namespace Go.Proofs.YtclalcefkmjenaaDoor
namespace Rows

/-- THE TIED CARD OF 'laws.FnExactFormAccount'. -/
def fnExactFormAccountCard : Claim7 := { stood := { row := fnExactFormAccountRow, standIns := [], harness := (true, "1c5021e02dd68f224fcbf548b909287249cff8a34fd7e25ea842dc5ec1304e19"), looks := false }, kinds := [], alts := [], laidByText := true, laidKinds := [.data, .data, .data, .data], laidTests := true, laidLooks := .later }
def FnExactFormAccountCardSaid : Prop := Claim7.holds Tryd.pinned (.plain (OpenSpec.ofChange fnExactFormAccountSpec)) fnExactFormAccountCard

/-- THE SECOND FORM's CARD OF 'laws.FnExactFormAccount'. -/
def fnExactFormAccountUptoCard : Claim7 := { stood := { row := fnExactFormAccountUptoRow, standIns := [], harness := (true, "1c5021e02dd68f224fcbf548b909287249cff8a34fd7e25ea842dc5ec1304e19"), looks := false }, kinds := [], alts := [], laidByText := true, laidKinds := [.data, .data, .data, .data], laidTests := true, laidLooks := .later }
def FnExactFormAccountUptoCardSaid : Prop := Claim7.holds Tryd.pinned (.plain (OpenSpec.upto fnExactFormAccountSpec)) fnExactFormAccountUptoCard
end Rows
end Go.Proofs.YtclalcefkmjenaaDoor
