/-
  The words of the table.
-/
import Derived.Test.YtpefignfaooonaaGreatDoorZA
namespace Go.Proofs.YtpefignfaooonaaGreatDoor.Vp
open Go.RowKit

/-- The table's words. -/
def TabW (w : World) : Prop := ∀ k : Nat, k < 16 → w.cell? ⟨3, k * 5, none⟩ = some (.string ⟨(word k).toArray⟩)
theorem TabW.below {w w' : World} {B : Nat} (h : TabW w) (hb : Below B w w') (hB : 3 < B) : TabW w' :=
  fun k hk => (hb.cell (p := ⟨3, _, none⟩) hB).trans (h k hk)

end Go.Proofs.YtpefignfaooonaaGreatDoor.Vp
