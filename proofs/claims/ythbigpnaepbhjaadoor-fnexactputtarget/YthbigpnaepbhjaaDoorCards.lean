/-
  DERIVED. GIVEN WITH THE SEED: THE CARDS: each row of YthbigpnaepbhjaaDoorRows.lean that lists a variable, with what it lists TIED to the program's text (the seventh form; the later family's looks); each row that meets fmt, with fmt's text TOLD by the authors' own Lean function (tested against real Go, not proved from fmt's source: count such statements apart). THE CARD IS WHAT COUNTS. Prove the row's statement (the work); the ties are given (YthbigpnaepbhjaaDoorTie.lean); close each card by the builder's one call (the guide's Derived/Test/ToyasCard.lean, 'card_holds'). Laid BY PROGRAM, IN A SANDBOX (cutbox-door.mjs). By AI agents, Wed Nov 11 2026. No macro, syntax, notation, axiom, sorry.
-/
import Derived.Test.YthbigpnaepbhjaaDoorRows
import GoSem.ClaimSeven
namespace Go.Proofs.YthbigpnaepbhjaaDoor
namespace Rows

/-- THE TIED CARD OF 'laws.FnExactPutSource'. -/
def fnExactPutSourceCard : Claim7 := { stood := { row := fnExactPutSourceRow, standIns := [], harness := (true, "1103d1726b1e2fc6f37fa354c9d8315275e1e5b60a2db8377f020ca378ef0c6e"), looks := false }, kinds := [], alts := [], laidByText := true, laidKinds := [.data], laidTests := true, laidLooks := .later }
def FnExactPutSourceCardSaid : Prop := Claim7.holds Tryd.pinned (.plain (OpenSpec.ofChange fnExactPutSourceSpec)) fnExactPutSourceCard

/-- THE TIED CARD OF 'laws.FnExactPutTarget'. -/
def fnExactPutTargetCard : Claim7 := { stood := { row := fnExactPutTargetRow, standIns := [], harness := (true, "1103d1726b1e2fc6f37fa354c9d8315275e1e5b60a2db8377f020ca378ef0c6e"), looks := false }, kinds := [], alts := [], laidByText := true, laidKinds := [.data], laidTests := true, laidLooks := .later }
def FnExactPutTargetCardSaid : Prop := Claim7.holds Tryd.pinned (.plain (OpenSpec.ofChange fnExactPutTargetSpec)) fnExactPutTargetCard

/-- THE TIED CARD OF 'laws.FnExactDrop'. -/
def fnExactDropCard : Claim7 := { stood := { row := fnExactDropRow, standIns := [], harness := (true, "1103d1726b1e2fc6f37fa354c9d8315275e1e5b60a2db8377f020ca378ef0c6e"), looks := false }, kinds := [], alts := [], laidByText := true, laidKinds := [.data], laidTests := true, laidLooks := .later }
def FnExactDropCardSaid : Prop := Claim7.holds Tryd.pinned (.plain (OpenSpec.ofChange fnExactDropSpec)) fnExactDropCard

/-- THE SECOND FORM's CARD OF 'laws.FnExactPutSource'. -/
def fnExactPutSourceUptoCard : Claim7 := { stood := { row := fnExactPutSourceUptoRow, standIns := [], harness := (true, "1103d1726b1e2fc6f37fa354c9d8315275e1e5b60a2db8377f020ca378ef0c6e"), looks := false }, kinds := [], alts := [], laidByText := true, laidKinds := [.data], laidTests := true, laidLooks := .later }
def FnExactPutSourceUptoCardSaid : Prop := Claim7.holds Tryd.pinned (.plain (OpenSpec.upto fnExactPutSourceSpec)) fnExactPutSourceUptoCard

/-- THE SECOND FORM's CARD OF 'laws.FnExactPutTarget'. -/
def fnExactPutTargetUptoCard : Claim7 := { stood := { row := fnExactPutTargetUptoRow, standIns := [], harness := (true, "1103d1726b1e2fc6f37fa354c9d8315275e1e5b60a2db8377f020ca378ef0c6e"), looks := false }, kinds := [], alts := [], laidByText := true, laidKinds := [.data], laidTests := true, laidLooks := .later }
def FnExactPutTargetUptoCardSaid : Prop := Claim7.holds Tryd.pinned (.plain (OpenSpec.upto fnExactPutTargetSpec)) fnExactPutTargetUptoCard

/-- THE SECOND FORM's CARD OF 'laws.FnExactDrop'. -/
def fnExactDropUptoCard : Claim7 := { stood := { row := fnExactDropUptoRow, standIns := [], harness := (true, "1103d1726b1e2fc6f37fa354c9d8315275e1e5b60a2db8377f020ca378ef0c6e"), looks := false }, kinds := [], alts := [], laidByText := true, laidKinds := [.data], laidTests := true, laidLooks := .later }
def FnExactDropUptoCardSaid : Prop := Claim7.holds Tryd.pinned (.plain (OpenSpec.upto fnExactDropSpec)) fnExactDropUptoCard
end Rows
end Go.Proofs.YthbigpnaepbhjaaDoor
