/-
  DERIVED. GIVEN WITH THE SEED: THE CARDS: each row of YtamacmnikdejeaaGreatDoorRows.lean that lists a variable, with what it lists TIED to the program's text (the seventh form; the later family's looks); each row that meets fmt, with fmt's text TOLD by the authors' own Lean function (tested against real Go, not proved from fmt's source: count such statements apart). THE CARD IS WHAT COUNTS. Prove the row's statement (the work); the ties are given (YtamacmnikdejeaaGreatDoorTie.lean); close each card by the builder's one call (the guide's Derived/Test/ToyasCard.lean, 'card_holds'). Laid BY PROGRAM, IN A SANDBOX (cutbox-door.mjs). By AI agents, Wed Nov 11 2026. No macro, syntax, notation, axiom, sorry.
-/
import Derived.Test.YtamacmnikdejeaaGreatDoorRows
import GoSem.ClaimSeven
namespace Go.Proofs.YtamacmnikdejeaaGreatDoor
namespace Rows

/-- THE TIED CARD OF 'laws.FnFollows'. -/
def fnFollowsCard : Claim7 := { stood := { row := fnFollowsRow, standIns := [], harness := (true, "2c79d09ae227324411a87e8ed4457913635bd54beb68cb550f90d28c295d774e"), looks := true }, kinds := [], alts := [], laidByText := true, laidKinds := [.data, .data, .data, .data, .data, .pinned], laidTests := true, laidLooks := .later }
def FnFollowsCardSaid : Prop := Claim7.holds Tryz.pinned (.plain (OpenSpec.ofChange fnFollowsSpec)) fnFollowsCard

/-- THE TIED CARD OF 'laws.FnWhy'. -/
def fnWhyCard : Claim7 := { stood := { row := fnWhyRow, standIns := [], harness := (true, "2c79d09ae227324411a87e8ed4457913635bd54beb68cb550f90d28c295d774e"), looks := true }, kinds := [], alts := [], laidByText := true, laidKinds := [.data], laidTests := true, laidLooks := .later }
def FnWhyCardSaid : Prop := Claim7.holds Tryz.pinned (.plain (OpenSpec.ofChange fnWhySpec)) fnWhyCard

/-- THE TIED CARD OF 'laws.FnHeart'. -/
def fnHeartCard : Claim7 := { stood := { row := fnHeartRow, standIns := [], harness := (true, "2c79d09ae227324411a87e8ed4457913635bd54beb68cb550f90d28c295d774e"), looks := true }, kinds := [], alts := [], laidByText := true, laidKinds := [.data, .data, .data, .data, .data, .pinned], laidTests := true, laidLooks := .later }
def FnHeartCardSaid : Prop := Claim7.holds Tryz.pinned (.plain (OpenSpec.ofChange fnHeartSpec)) fnHeartCard

/-- THE TIED CARD OF 'laws.FnInfluence'. -/
def fnInfluenceCard : Claim7 := { stood := { row := fnInfluenceRow, standIns := [], harness := (true, "2c79d09ae227324411a87e8ed4457913635bd54beb68cb550f90d28c295d774e"), looks := true }, kinds := [], alts := [], laidByText := true, laidKinds := [.data, .data, .data, .data, .data, .pinned], laidTests := true, laidLooks := .later }
def FnInfluenceCardSaid : Prop := Claim7.holds Tryz.pinned (.plain (OpenSpec.ofChange fnInfluenceSpec)) fnInfluenceCard

/-- THE SECOND FORM's CARD OF 'laws.FnFollows'. -/
def fnFollowsUptoCard : Claim7 := { stood := { row := fnFollowsUptoRow, standIns := [], harness := (true, "2c79d09ae227324411a87e8ed4457913635bd54beb68cb550f90d28c295d774e"), looks := true }, kinds := [], alts := [], laidByText := true, laidKinds := [.data, .data, .data, .data, .data, .pinned], laidTests := true, laidLooks := .later }
def FnFollowsUptoCardSaid : Prop := Claim7.holds Tryz.pinned (.plain (OpenSpec.upto fnFollowsSpec)) fnFollowsUptoCard

/-- THE SECOND FORM's CARD OF 'laws.FnWhy'. -/
def fnWhyUptoCard : Claim7 := { stood := { row := fnWhyUptoRow, standIns := [], harness := (true, "2c79d09ae227324411a87e8ed4457913635bd54beb68cb550f90d28c295d774e"), looks := true }, kinds := [], alts := [], laidByText := true, laidKinds := [.data], laidTests := true, laidLooks := .later }
def FnWhyUptoCardSaid : Prop := Claim7.holds Tryz.pinned (.plain (OpenSpec.upto fnWhySpec)) fnWhyUptoCard

/-- THE SECOND FORM's CARD OF 'laws.FnHeart'. -/
def fnHeartUptoCard : Claim7 := { stood := { row := fnHeartUptoRow, standIns := [], harness := (true, "2c79d09ae227324411a87e8ed4457913635bd54beb68cb550f90d28c295d774e"), looks := true }, kinds := [], alts := [], laidByText := true, laidKinds := [.data, .data, .data, .data, .data, .pinned], laidTests := true, laidLooks := .later }
def FnHeartUptoCardSaid : Prop := Claim7.holds Tryz.pinned (.plain (OpenSpec.upto fnHeartSpec)) fnHeartUptoCard

/-- THE SECOND FORM's CARD OF 'laws.FnInfluence'. -/
def fnInfluenceUptoCard : Claim7 := { stood := { row := fnInfluenceUptoRow, standIns := [], harness := (true, "2c79d09ae227324411a87e8ed4457913635bd54beb68cb550f90d28c295d774e"), looks := true }, kinds := [], alts := [], laidByText := true, laidKinds := [.data, .data, .data, .data, .data, .pinned], laidTests := true, laidLooks := .later }
def FnInfluenceUptoCardSaid : Prop := Claim7.holds Tryz.pinned (.plain (OpenSpec.upto fnInfluenceSpec)) fnInfluenceUptoCard
end Rows
end Go.Proofs.YtamacmnikdejeaaGreatDoor
