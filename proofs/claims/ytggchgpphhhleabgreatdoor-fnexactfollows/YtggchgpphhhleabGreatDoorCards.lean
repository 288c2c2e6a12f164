/-
  DERIVED. GIVEN WITH THE SEED: THE CARDS: each row of YtggchgpphhhleabGreatDoorRows.lean that lists a variable, with what it lists TIED to the program's text (the seventh form; the later family's looks); each row that meets fmt, with fmt's text TOLD by the authors' own Lean function (tested against real Go, not proved from fmt's source: count such statements apart). THE CARD IS WHAT COUNTS. Prove the row's statement (the work); the ties are given (YtggchgpphhhleabGreatDoorTie.lean); close each card by the builder's one call (the guide's Derived/Test/ToyasCard.lean, 'card_holds'). Laid BY PROGRAM, IN A SANDBOX (cutbox-door.mjs). By AI agents, Wed Nov 11 2026. No macro, syntax, notation, axiom, sorry.
-/
import Derived.Test.YtggchgpphhhleabGreatDoorRows
import GoSem.ClaimSeven
namespace Go.Proofs.YtggchgpphhhleabGreatDoor
namespace Rows

/-- THE TIED CARD OF 'laws.FnExactSeal'. -/
def fnExactSealCard : Claim7 := { stood := { row := fnExactSealRow, standIns := [], harness := (true, "342abc5e122ceb76be283d287a827750ec67444aeed28c6189e28d9a9e703c47"), looks := false }, kinds := [], alts := [], laidByText := true, laidKinds := [.data, .data, .data, .data], laidTests := true, laidLooks := .later }
def FnExactSealCardSaid : Prop := Claim7.holds Tryz.pinned (.plain (OpenSpec.ofChange fnExactSealSpec)) fnExactSealCard

/-- THE TIED CARD OF 'laws.FnExactFollows'. -/
def fnExactFollowsCard : Claim7 := { stood := { row := fnExactFollowsRow, standIns := [], harness := (true, "342abc5e122ceb76be283d287a827750ec67444aeed28c6189e28d9a9e703c47"), looks := false }, kinds := [], alts := [], laidByText := true, laidKinds := [.data, .data, .data, .data, .data, .pinned], laidTests := true, laidLooks := .later }
def FnExactFollowsCardSaid : Prop := Claim7.holds Tryz.pinned (.plain (OpenSpec.ofChange fnExactFollowsSpec)) fnExactFollowsCard

/-- THE TIED CARD OF 'laws.FnExactAudit'. -/
def fnExactAuditCard : Claim7 := { stood := { row := fnExactAuditRow, standIns := [], harness := (true, "342abc5e122ceb76be283d287a827750ec67444aeed28c6189e28d9a9e703c47"), looks := false }, kinds := [], alts := [], laidByText := true, laidKinds := [.data, .data, .data, .data, .data, .pinned], laidTests := true, laidLooks := .later }
def FnExactAuditCardSaid : Prop := Claim7.holds Tryz.pinned (.plain (OpenSpec.ofChange fnExactAuditSpec)) fnExactAuditCard

/-- THE TIED CARD OF 'laws.FnNames'. -/
def fnNamesCard : Claim7 := { stood := { row := fnNamesRow, standIns := [], harness := (true, "342abc5e122ceb76be283d287a827750ec67444aeed28c6189e28d9a9e703c47"), looks := false }, kinds := [], alts := [], laidByText := true, laidKinds := [.data], laidTests := true, laidLooks := .later }
def FnNamesCardSaid : Prop := Claim7.holds Tryz.pinned (.plain (OpenSpec.ofChange fnNamesSpec)) fnNamesCard

/-- THE SECOND FORM's CARD OF 'laws.FnExactSeal'. -/
def fnExactSealUptoCard : Claim7 := { stood := { row := fnExactSealUptoRow, standIns := [], harness := (true, "342abc5e122ceb76be283d287a827750ec67444aeed28c6189e28d9a9e703c47"), looks := false }, kinds := [], alts := [], laidByText := true, laidKinds := [.data, .data, .data, .data], laidTests := true, laidLooks := .later }
def FnExactSealUptoCardSaid : Prop := Claim7.holds Tryz.pinned (.plain (OpenSpec.upto fnExactSealSpec)) fnExactSealUptoCard

/-- THE SECOND FORM's CARD OF 'laws.FnExactFollows'. -/
def fnExactFollowsUptoCard : Claim7 := { stood := { row := fnExactFollowsUptoRow, standIns := [], harness := (true, "342abc5e122ceb76be283d287a827750ec67444aeed28c6189e28d9a9e703c47"), looks := false }, kinds := [], alts := [], laidByText := true, laidKinds := [.data, .data, .data, .data, .data, .pinned], laidTests := true, laidLooks := .later }
def FnExactFollowsUptoCardSaid : Prop := Claim7.holds Tryz.pinned (.plain (OpenSpec.upto fnExactFollowsSpec)) fnExactFollowsUptoCard

/-- THE SECOND FORM's CARD OF 'laws.FnExactAudit'. -/
def fnExactAuditUptoCard : Claim7 := { stood := { row := fnExactAuditUptoRow, standIns := [], harness := (true, "342abc5e122ceb76be283d287a827750ec67444aeed28c6189e28d9a9e703c47"), looks := false }, kinds := [], alts := [], laidByText := true, laidKinds := [.data, .data, .data, .data, .data, .pinned], laidTests := true, laidLooks := .later }
def FnExactAuditUptoCardSaid : Prop := Claim7.holds Tryz.pinned (.plain (OpenSpec.upto fnExactAuditSpec)) fnExactAuditUptoCard

/-- THE SECOND FORM's CARD OF 'laws.FnNames'. -/
def fnNamesUptoCard : Claim7 := { stood := { row := fnNamesUptoRow, standIns := [], harness := (true, "342abc5e122ceb76be283d287a827750ec67444aeed28c6189e28d9a9e703c47"), looks := false }, kinds := [], alts := [], laidByText := true, laidKinds := [.data], laidTests := true, laidLooks := .later }
def FnNamesUptoCardSaid : Prop := Claim7.holds Tryz.pinned (.plain (OpenSpec.upto fnNamesSpec)) fnNamesUptoCard
end Rows
end Go.Proofs.YtggchgpphhhleabGreatDoor
