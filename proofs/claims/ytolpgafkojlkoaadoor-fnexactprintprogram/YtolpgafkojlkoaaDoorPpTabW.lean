/-
  The words of the table.
-/
import Derived.Test.YtolpgafkojlkoaaDoorVpWord
namespace Go.Proofs.YtolpgafkojlkoaaDoor.Vp
open Go.RowKit

/-- The table's words. -/
def TabW (w : World) : Prop := ∀ k : Nat, k < 16 → w.cell? ⟨0, k * 5, none⟩ = some (.string ⟨(word k).toArray⟩)
theorem TabW.below {w w' : World} {B : Nat} (h : TabW w) (hb : Below B w w') (hB : 0 < B) : TabW w' :=
  fun k hk => (hb.cell (p := ⟨0, _, none⟩) hB).trans (h k hk)

end Go.Proofs.YtolpgafkojlkoaaDoor.Vp
