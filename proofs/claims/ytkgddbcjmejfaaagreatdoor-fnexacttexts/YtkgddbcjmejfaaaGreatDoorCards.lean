/-
  DERIVED. GIVEN WITH THE SEED: THE CARDS: each row of YtkgddbcjmejfaaaGreatDoorRows.lean that lists a variable, with what it lists TIED to the program's text (the seventh form; the later family's looks); each row that meets fmt, with fmt's text TOLD by the authors' own Lean function (tested against real Go, not proved from fmt's source: count such statements apart). THE CARD IS WHAT COUNTS. Prove the row's statement (the work); the ties are given (YtkgddbcjmejfaaaGreatDoorTie.lean); close each card by the builder's one call (the guide's Derived/Test/ToyasCard.lean, 'card_holds'). Laid BY PROGRAM, IN A SANDBOX (cutbox-door.mjs). By AI agents, Wed Nov 11 2026. No macro, syntax, notation, axiom, sorry.
-/
import Derived.Test.YtkgddbcjmejfaaaGreatDoorRows
import GoSem.ClaimSeven
namespace Go.Proofs.YtkgddbcjmejfaaaGreatDoor
namespace Rows

/-- THE TIED CARD OF 'laws.FnExactTexts'. -/
def fnExactTextsCard : Claim7 := { stood := { row := fnExactTextsRow, standIns := [], harness := (true, "7c86b5fb614cff6dcae2678814c7ce0288081c3f338671f861c186103f722b25"), looks := false }, kinds := [], alts := [], laidByText := true, laidKinds := [.data, .data, .data, .data], laidTests := true, laidLooks := .later }
def FnExactTextsCardSaid : Prop := Claim7.holds Tryz.pinned (.plain (OpenSpec.ofChange fnExactTextsSpec)) fnExactTextsCard

/-- THE TIED CARD OF 'laws.FnExactWhy'. -/
def fnExactWhyCard : Claim7 := { stood := { row := fnExactWhyRow, standIns := [], harness := (true, "7c86b5fb614cff6dcae2678814c7ce0288081c3f338671f861c186103f722b25"), looks := false }, kinds := [], alts := [], laidByText := true, laidKinds := [.data], laidTests := true, laidLooks := .later }
def FnExactWhyCardSaid : Prop := Claim7.holds Tryz.pinned (.plain (OpenSpec.ofChange fnExactWhySpec)) fnExactWhyCard

/-- THE SECOND FORM's CARD OF 'laws.FnExactTexts'. -/
def fnExactTextsUptoCard : Claim7 := { stood := { row := fnExactTextsUptoRow, standIns := [], harness := (true, "7c86b5fb614cff6dcae2678814c7ce0288081c3f338671f861c186103f722b25"), looks := false }, kinds := [], alts := [], laidByText := true, laidKinds := [.data, .data, .data, .data], laidTests := true, laidLooks := .later }
def FnExactTextsUptoCardSaid : Prop := Claim7.holds Tryz.pinned (.plain (OpenSpec.upto fnExactTextsSpec)) fnExactTextsUptoCard

/-- THE SECOND FORM's CARD OF 'laws.FnExactWhy'. -/
def fnExactWhyUptoCard : Claim7 := { stood := { row := fnExactWhyUptoRow, standIns := [], harness := (true, "7c86b5fb614cff6dcae2678814c7ce0288081c3f338671f861c186103f722b25"), looks := false }, kinds := [], alts := [], laidByText := true, laidKinds := [.data], laidTests := true, laidLooks := .later }
def FnExactWhyUptoCardSaid : Prop := Claim7.holds Tryz.pinned (.plain (OpenSpec.upto fnExactWhySpec)) fnExactWhyUptoCard
end Rows
end Go.Proofs.YtkgddbcjmejfaaaGreatDoor
