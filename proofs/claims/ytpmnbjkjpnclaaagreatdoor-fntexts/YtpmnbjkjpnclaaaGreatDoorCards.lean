/-
  DERIVED. GIVEN WITH THE SEED: THE CARDS: each row of YtpmnbjkjpnclaaaGreatDoorRows.lean that lists a variable, with what it lists TIED to the program's text (the seventh form; the later family's looks); each row that meets fmt, with fmt's text TOLD by the authors' own Lean function (tested against real Go, not proved from fmt's source: count such statements apart). THE CARD IS WHAT COUNTS. Prove the row's statement (the work); the ties are given (YtpmnbjkjpnclaaaGreatDoorTie.lean); close each card by the builder's one call (the guide's Derived/Test/ToyasCard.lean, 'card_holds'). Laid BY PROGRAM, IN A SANDBOX (cutbox-door.mjs). By AI agents, Wed Nov 11 2026. No macro, syntax, notation, axiom, sorry.
-/
import Derived.Test.YtpmnbjkjpnclaaaGreatDoorRows
import GoSem.ClaimSeven
namespace Go.Proofs.YtpmnbjkjpnclaaaGreatDoor
namespace Rows

/-- THE TIED CARD OF 'laws.FnTexts'. -/
def fnTextsCard : Claim7 := { stood := { row := fnTextsRow, standIns := [], harness := (true, "a02351648b869f14ac70d42ec0d84708e04cfc82b65325837afd07dc188d3799"), looks := true }, kinds := [], alts := [], laidByText := true, laidKinds := [.data, .data, .data, .data, .data, .pinned], laidTests := true, laidLooks := .later }
def FnTextsCardSaid : Prop := Claim7.holds Tryz.pinned (.plain (OpenSpec.ofChange fnTextsSpec)) fnTextsCard

/-- THE TIED CARD OF 'laws.FnCut'. -/
def fnCutCard : Claim7 := { stood := { row := fnCutRow, standIns := [], harness := (true, "a02351648b869f14ac70d42ec0d84708e04cfc82b65325837afd07dc188d3799"), looks := true }, kinds := [], alts := [], laidByText := true, laidKinds := [.data, .data, .data, .data, .data, .pinned], laidTests := true, laidLooks := .later }
def FnCutCardSaid : Prop := Claim7.holds Tryz.pinned (.plain (OpenSpec.ofChange fnCutSpec)) fnCutCard

/-- THE TIED CARD OF 'laws.FnSeal'. -/
def fnSealCard : Claim7 := { stood := { row := fnSealRow, standIns := [], harness := (true, "a02351648b869f14ac70d42ec0d84708e04cfc82b65325837afd07dc188d3799"), looks := true }, kinds := [], alts := [], laidByText := true, laidKinds := [.data, .data, .data, .sentinel, .sentinel, .data, .sentinel, .sentinel, .sentinel, .sentinel, .sentinel, .sentinel], laidTests := true, laidLooks := .later }
def FnSealCardSaid : Prop := Claim7.holds Tryz.pinned (.plain (OpenSpec.ofChange fnSealSpec)) fnSealCard

/-- THE TIED CARD OF 'laws.FnInfluence'. -/
def fnInfluenceCard : Claim7 := { stood := { row := fnInfluenceRow, standIns := [], harness := (true, "a02351648b869f14ac70d42ec0d84708e04cfc82b65325837afd07dc188d3799"), looks := true }, kinds := [], alts := [], laidByText := true, laidKinds := [.data, .data, .data, .data, .data, .pinned], laidTests := true, laidLooks := .later }
def FnInfluenceCardSaid : Prop := Claim7.holds Tryz.pinned (.plain (OpenSpec.ofChange fnInfluenceSpec)) fnInfluenceCard

/-- THE SECOND FORM's CARD OF 'laws.FnTexts'. -/
def fnTextsUptoCard : Claim7 := { stood := { row := fnTextsUptoRow, standIns := [], harness := (true, "a02351648b869f14ac70d42ec0d84708e04cfc82b65325837afd07dc188d3799"), looks := true }, kinds := [], alts := [], laidByText := true, laidKinds := [.data, .data, .data, .data, .data, .pinned], laidTests := true, laidLooks := .later }
def FnTextsUptoCardSaid : Prop := Claim7.holds Tryz.pinned (.plain (OpenSpec.upto fnTextsSpec)) fnTextsUptoCard

/-- THE SECOND FORM's CARD OF 'laws.FnCut'. -/
def fnCutUptoCard : Claim7 := { stood := { row := fnCutUptoRow, standIns := [], harness := (true, "a02351648b869f14ac70d42ec0d84708e04cfc82b65325837afd07dc188d3799"), looks := true }, kinds := [], alts := [], laidByText := true, laidKinds := [.data, .data, .data, .data, .data, .pinned], laidTests := true, laidLooks := .later }
def FnCutUptoCardSaid : Prop := Claim7.holds Tryz.pinned (.plain (OpenSpec.upto fnCutSpec)) fnCutUptoCard

/-- THE SECOND FORM's CARD OF 'laws.FnSeal'. -/
def fnSealUptoCard : Claim7 := { stood := { row := fnSealUptoRow, standIns := [], harness := (true, "a02351648b869f14ac70d42ec0d84708e04cfc82b65325837afd07dc188d3799"), looks := true }, kinds := [], alts := [], laidByText := true, laidKinds := [.data, .data, .data, .sentinel, .sentinel, .data, .sentinel, .sentinel, .sentinel, .sentinel, .sentinel, .sentinel], laidTests := true, laidLooks := .later }
def FnSealUptoCardSaid : Prop := Claim7.holds Tryz.pinned (.plain (OpenSpec.upto fnSealSpec)) fnSealUptoCard

/-- THE SECOND FORM's CARD OF 'laws.FnInfluence'. -/
def fnInfluenceUptoCard : Claim7 := { stood := { row := fnInfluenceUptoRow, standIns := [], harness := (true, "a02351648b869f14ac70d42ec0d84708e04cfc82b65325837afd07dc188d3799"), looks := true }, kinds := [], alts := [], laidByText := true, laidKinds := [.data, .data, .data, .data, .data, .pinned], laidTests := true, laidLooks := .later }
def FnInfluenceUptoCardSaid : Prop := Claim7.holds Tryz.pinned (.plain (OpenSpec.upto fnInfluenceSpec)) fnInfluenceUptoCard
end Rows
end Go.Proofs.YtpmnbjkjpnclaaaGreatDoor
