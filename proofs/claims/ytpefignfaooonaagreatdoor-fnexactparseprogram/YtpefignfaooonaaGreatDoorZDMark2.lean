/-
  Cells that are written.
-/
import Derived.Test.YtpefignfaooonaaGreatDoorZDMark
namespace Go.Proofs.YtpefignfaooonaaGreatDoor.Vp
open Go.RowKit

theorem Cells.at {w : World} {b off m : Nat} {F : Nat → Value} (h : Cells w b off m F) (x j : Nat) (hx : x = off + j) (hj : j < m) : w.cell? ⟨b, x, none⟩ = some (F j) ∧ w.frozen? ⟨b, x, none⟩ = false := by
  subst hx
  exact h.2 j hj
theorem Cells.setAt {w : World} {b off m : Nat} {F : Nat → Value} (h : Cells w b off m F) (x j : Nat) (hx : x = off + j) (hj : j < m) (v : Value) : Cells (w.setCell ⟨b, x, none⟩ v) b off m (fun y => if y = j then v else F y) := by
  subst hx
  exact h.set j hj v
theorem Cells.within {w w' : World} {b off m lo hi : Nat} {F : Nat → Value} (h : Cells w b off m F) (hw : Within lo hi w w') (hb : b < lo ∨ hi ≤ b) : Cells w' b off m F := by
  have e := hw.block b h.1 hb
  exact ⟨Nat.lt_of_lt_of_le h.1 hw.size, fun j hj => ⟨(World.cell?_of_block (a := ⟨b, off + j, none⟩) e).trans (h.2 j hj).1, (World.frozen?_of_block (a := ⟨b, off + j, none⟩) e).trans (h.2 j hj).2⟩⟩

end Go.Proofs.YtpefignfaooonaaGreatDoor.Vp
