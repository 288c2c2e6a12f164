/-
  DERIVED. GIVEN WITH THE SEED: THE CARDS: each row of YtggchgpphhhleaaDoorRows.lean that lists a variable, with what it lists TIED to the program's text (the seventh form; the later family's looks); each row that meets fmt, with fmt's text TOLD by the authors' own Lean function (tested against real Go, not proved from fmt's source: count such statements apart). THE CARD IS WHAT COUNTS. Prove the row's statement (the work); the ties are given (YtggchgpphhhleaaDoorTie.lean); close each card by the builder's one call (the guide's Derived/Test/ToyasCard.lean, 'card_holds'). Laid BY PROGRAM, IN A SANDBOX (cutbox-door.mjs). By AI agents, Wed Nov 11 2026. No macro, syntax, notation, axiom, sorry.
-/
import Derived.Test.YtggchgpphhhleaaDoorRows
import GoSem.ClaimSeven
namespace Go.Proofs.YtggchgpphhhleaaDoor
namespace Rows

/-- THE TIED CARD OF 'laws.FnExactCheckAccount'. -/
def fnExactCheckAccountCard : Claim7 := { stood := { row := fnExactCheckAccountRow, standIns := [], harness := (true, "30c0749b4604af631ae19cd1de8d667af262c73d59a7448e3f8c259bec51caf5"), looks := false }, kinds := [], alts := [], laidByText := true, laidKinds := [.data], laidTests := true, laidLooks := .later }
def FnExactCheckAccountCardSaid : Prop := Claim7.holds Tryd.pinned (.plain (OpenSpec.ofChange fnExactCheckAccountSpec)) fnExactCheckAccountCard

/-- THE TIED CARD OF 'laws.FnExactNames'. -/
def fnExactNamesCard : Claim7 := { stood := { row := fnExactNamesRow, standIns := [], harness := (true, "30c0749b4604af631ae19cd1de8d667af262c73d59a7448e3f8c259bec51caf5"), looks := false }, kinds := [], alts := [], laidByText := true, laidKinds := [.data], laidTests := true, laidLooks := .later }
def FnExactNamesCardSaid : Prop := Claim7.holds Tryd.pinned (.plain (OpenSpec.ofChange fnExactNamesSpec)) fnExactNamesCard

/-- THE TIED CARD OF 'laws.FnExactSources'. -/
def fnExactSourcesCard : Claim7 := { stood := { row := fnExactSourcesRow, standIns := [], harness := (true, "30c0749b4604af631ae19cd1de8d667af262c73d59a7448e3f8c259bec51caf5"), looks := false }, kinds := [], alts := [], laidByText := true, laidKinds := [.data], laidTests := true, laidLooks := .later }
def FnExactSourcesCardSaid : Prop := Claim7.holds Tryd.pinned (.plain (OpenSpec.ofChange fnExactSourcesSpec)) fnExactSourcesCard

/-- THE TIED CARD OF 'laws.FnExactDepends'. -/
def fnExactDependsCard : Claim7 := { stood := { row := fnExactDependsRow, standIns := [], harness := (true, "30c0749b4604af631ae19cd1de8d667af262c73d59a7448e3f8c259bec51caf5"), looks := false }, kinds := [], alts := [], laidByText := true, laidKinds := [.data], laidTests := true, laidLooks := .later }
def FnExactDependsCardSaid : Prop := Claim7.holds Tryd.pinned (.plain (OpenSpec.ofChange fnExactDependsSpec)) fnExactDependsCard

/-- THE TIED CARD OF 'laws.FnExactCover'. -/
def fnExactCoverCard : Claim7 := { stood := { row := fnExactCoverRow, standIns := [], harness := (true, "30c0749b4604af631ae19cd1de8d667af262c73d59a7448e3f8c259bec51caf5"), looks := false }, kinds := [], alts := [], laidByText := true, laidKinds := [.data], laidTests := true, laidLooks := .later }
def FnExactCoverCardSaid : Prop := Claim7.holds Tryd.pinned (.plain (OpenSpec.ofChange fnExactCoverSpec)) fnExactCoverCard

/-- THE SECOND FORM's CARD OF 'laws.FnExactCheckAccount'. -/
def fnExactCheckAccountUptoCard : Claim7 := { stood := { row := fnExactCheckAccountUptoRow, standIns := [], harness := (true, "30c0749b4604af631ae19cd1de8d667af262c73d59a7448e3f8c259bec51caf5"), looks := false }, kinds := [], alts := [], laidByText := true, laidKinds := [.data], laidTests := true, laidLooks := .later }
def FnExactCheckAccountUptoCardSaid : Prop := Claim7.holds Tryd.pinned (.plain (OpenSpec.upto fnExactCheckAccountSpec)) fnExactCheckAccountUptoCard

/-- THE SECOND FORM's CARD OF 'laws.FnExactNames'. -/
def fnExactNamesUptoCard : Claim7 := { stood := { row := fnExactNamesUptoRow, standIns := [], harness := (true, "30c0749b4604af631ae19cd1de8d667af262c73d59a7448e3f8c259bec51caf5"), looks := false }, kinds := [], alts := [], laidByText := true, laidKinds := [.data], laidTests := true, laidLooks := .later }
def FnExactNamesUptoCardSaid : Prop := Claim7.holds Tryd.pinned (.plain (OpenSpec.upto fnExactNamesSpec)) fnExactNamesUptoCard

/-- THE SECOND FORM's CARD OF 'laws.FnExactSources'. -/
def fnExactSourcesUptoCard : Claim7 := { stood := { row := fnExactSourcesUptoRow, standIns := [], harness := (true, "30c0749b4604af631ae19cd1de8d667af262c73d59a7448e3f8c259bec51caf5"), looks := false }, kinds := [], alts := [], laidByText := true, laidKinds := [.data], laidTests := true, laidLooks := .later }
def FnExactSourcesUptoCardSaid : Prop := Claim7.holds Tryd.pinned (.plain (OpenSpec.upto fnExactSourcesSpec)) fnExactSourcesUptoCard

/-- THE SECOND FORM's CARD OF 'laws.FnExactDepends'. -/
def fnExactDependsUptoCard : Claim7 := { stood := { row := fnExactDependsUptoRow, standIns := [], harness := (true, "30c0749b4604af631ae19cd1de8d667af262c73d59a7448e3f8c259bec51caf5"), looks := false }, kinds := [], alts := [], laidByText := true, laidKinds := [.data], laidTests := true, laidLooks := .later }
def FnExactDependsUptoCardSaid : Prop := Claim7.holds Tryd.pinned (.plain (OpenSpec.upto fnExactDependsSpec)) fnExactDependsUptoCard

/-- THE SECOND FORM's CARD OF 'laws.FnExactCover'. -/
def fnExactCoverUptoCard : Claim7 := { stood := { row := fnExactCoverUptoRow, standIns := [], harness := (true, "30c0749b4604af631ae19cd1de8d667af262c73d59a7448e3f8c259bec51caf5"), looks := false }, kinds := [], alts := [], laidByText := true, laidKinds := [.data], laidTests := true, laidLooks := .later }
def FnExactCoverUptoCardSaid : Prop := Claim7.holds Tryd.pinned (.plain (OpenSpec.upto fnExactCoverSpec)) fnExactCoverUptoCard
end Rows
end Go.Proofs.YtggchgpphhhleaaDoor
