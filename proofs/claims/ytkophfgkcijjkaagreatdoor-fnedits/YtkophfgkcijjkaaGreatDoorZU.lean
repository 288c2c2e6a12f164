import Derived.Test.YtkophfgkcijjkaaGreatDoorZS
import Derived.Test.YtkophfgkcijjkaaGreatDoorZO
namespace Go.Proofs.YtkophfgkcijjkaaGreatDoor.Vp
open Go.RowKit
theorem i3L_fI (L : List I3) : i3L L = insL (insA L) L.length := by
  have e : (List.range L.length).map (insA L) = L.map fun x => (⟨x.1, ⟨x.2.1.toArray⟩, x.2.2⟩ : Ins) := by
    refine List.ext_getElem (by simp) fun i h1 h2 => ?_
    have hi : i < L.length := by simpa using h2
    simp [insA, hi]
  rw [insL, e, List.flatMap_map]
  rfl
end Go.Proofs.YtkophfgkcijjkaaGreatDoor.Vp
