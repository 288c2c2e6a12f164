/-
  The words of the table.
-/
import Derived.Test.YtdbheeglklgmbaaGreatDoorVpWord
namespace Go.Proofs.YtdbheeglklgmbaaGreatDoor.Vp
open Go.RowKit

/-- The table's words. -/
def TabW (w : World) : Prop := ∀ k : Nat, k < 16 → w.cell? ⟨4, k * 5, none⟩ = some (.string ⟨(word k).toArray⟩)
theorem TabW.below {w w' : World} {B : Nat} (h : TabW w) (hb : Below B w w') (hB : 4 < B) : TabW w' :=
  fun k hk => (hb.cell (p := ⟨4, _, none⟩) hB).trans (h k hk)

end Go.Proofs.YtdbheeglklgmbaaGreatDoor.Vp
