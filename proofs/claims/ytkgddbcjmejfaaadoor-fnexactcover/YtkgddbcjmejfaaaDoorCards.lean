/-
  DERIVED. GIVEN WITH THE SEED: THE CARDS: each row of YtkgddbcjmejfaaaDoorRows.lean that lists a variable, with what it lists TIED to the program's text (the seventh form; the later family's looks); each row that meets fmt, with fmt's text TOLD by the authors' own Lean function (tested against real Go, not proved from fmt's source: count such statements apart). THE CARD IS WHAT COUNTS. Prove the row's statement (the work); the ties are given (YtkgddbcjmejfaaaDoorTie.lean); close each card by the builder's one call (the guide's Derived/Test/ToyasCard.lean, 'card_holds'). Laid BY PROGRAM, IN A SANDBOX (cutbox-door.mjs). By AI agents, Wed Nov 11 2026. No macro, syntax, notation, axiom, sorry.
-/
import Derived.Test.YtkgddbcjmejfaaaDoorRows
import GoSem.ClaimSeven
namespace Go.Proofs.YtkgddbcjmejfaaaDoor
namespace Rows

/-- THE TIED CARD OF 'laws.FnExactNames'. -/
def fnExactNamesCard : Claim7 := { stood := { row := fnExactNamesRow, standIns := [], harness := (true, "dd6a8900dab0dfc97d3510eabed0dd82d2f424d862a63bac156d909ab40cbeb3"), looks := false }, kinds := [], alts := [], laidByText := true, laidKinds := [.data], laidTests := true, laidLooks := .later }
def FnExactNamesCardSaid : Prop := Claim7.holds Tryd.pinned (.plain (OpenSpec.ofChange fnExactNamesSpec)) fnExactNamesCard

/-- THE TIED CARD OF 'laws.FnExactSources'. -/
def fnExactSourcesCard : Claim7 := { stood := { row := fnExactSourcesRow, standIns := [], harness := (true, "dd6a8900dab0dfc97d3510eabed0dd82d2f424d862a63bac156d909ab40cbeb3"), looks := false }, kinds := [], alts := [], laidByText := true, laidKinds := [.data], laidTests := true, laidLooks := .later }
def FnExactSourcesCardSaid : Prop := Claim7.holds Tryd.pinned (.plain (OpenSpec.ofChange fnExactSourcesSpec)) fnExactSourcesCard

/-- THE TIED CARD OF 'laws.FnExactDepends'. -/
def fnExactDependsCard : Claim7 := { stood := { row := fnExactDependsRow, standIns := [], harness := (true, "dd6a8900dab0dfc97d3510eabed0dd82d2f424d862a63bac156d909ab40cbeb3"), looks := false }, kinds := [], alts := [], laidByText := true, laidKinds := [.data], laidTests := true, laidLooks := .later }
def FnExactDependsCardSaid : Prop := Claim7.holds Tryd.pinned (.plain (OpenSpec.ofChange fnExactDependsSpec)) fnExactDependsCard

/-- THE TIED CARD OF 'laws.FnExactCover'. -/
def fnExactCoverCard : Claim7 := { stood := { row := fnExactCoverRow, standIns := [], harness := (true, "dd6a8900dab0dfc97d3510eabed0dd82d2f424d862a63bac156d909ab40cbeb3"), looks := false }, kinds := [], alts := [], laidByText := true, laidKinds := [.data], laidTests := true, laidLooks := .later }
def FnExactCoverCardSaid : Prop := Claim7.holds Tryd.pinned (.plain (OpenSpec.ofChange fnExactCoverSpec)) fnExactCoverCard

/-- THE SECOND FORM's CARD OF 'laws.FnExactNames'. -/
def fnExactNamesUptoCard : Claim7 := { stood := { row := fnExactNamesUptoRow, standIns := [], harness := (true, "dd6a8900dab0dfc97d3510eabed0dd82d2f424d862a63bac156d909ab40cbeb3"), looks := false }, kinds := [], alts := [], laidByText := true, laidKinds := [.data], laidTests := true, laidLooks := .later }
def FnExactNamesUptoCardSaid : Prop := Claim7.holds Tryd.pinned (.plain (OpenSpec.upto fnExactNamesSpec)) fnExactNamesUptoCard

/-- THE SECOND FORM's CARD OF 'laws.FnExactSources'. -/
def fnExactSourcesUptoCard : Claim7 := { stood := { row := fnExactSourcesUptoRow, standIns := [], harness := (true, "dd6a8900dab0dfc97d3510eabed0dd82d2f424d862a63bac156d909ab40cbeb3"), looks := false }, kinds := [], alts := [], laidByText := true, laidKinds := [.data], laidTests := true, laidLooks := .later }
def FnExactSourcesUptoCardSaid : Prop := Claim7.holds Tryd.pinned (.plain (OpenSpec.upto fnExactSourcesSpec)) fnExactSourcesUptoCard

/-- THE SECOND FORM's CARD OF 'laws.FnExactDepends'. -/
def fnExactDependsUptoCard : Claim7 := { stood := { row := fnExactDependsUptoRow, standIns := [], harness := (true, "dd6a8900dab0dfc97d3510eabed0dd82d2f424d862a63bac156d909ab40cbeb3"), looks := false }, kinds := [], alts := [], laidByText := true, laidKinds := [.data], laidTests := true, laidLooks := .later }
def FnExactDependsUptoCardSaid : Prop := Claim7.holds Tryd.pinned (.plain (OpenSpec.upto fnExactDependsSpec)) fnExactDependsUptoCard

/-- THE SECOND FORM's CARD OF 'laws.FnExactCover'. -/
def fnExactCoverUptoCard : Claim7 := { stood := { row := fnExactCoverUptoRow, standIns := [], harness := (true, "dd6a8900dab0dfc97d3510eabed0dd82d2f424d862a63bac156d909ab40cbeb3"), looks := false }, kinds := [], alts := [], laidByText := true, laidKinds := [.data], laidTests := true, laidLooks := .later }
def FnExactCoverUptoCardSaid : Prop := Claim7.holds Tryd.pinned (.plain (OpenSpec.upto fnExactCoverSpec)) fnExactCoverUptoCard
end Rows
end Go.Proofs.YtkgddbcjmejfaaaDoor
