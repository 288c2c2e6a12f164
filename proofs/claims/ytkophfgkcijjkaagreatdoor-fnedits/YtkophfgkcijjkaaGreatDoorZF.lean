import Derived.Test.YtkophfgkcijjkaaGreatDoorZC
import Derived.Lib.Builder
import Derived.Laws.ResultCell
import Derived.Laws.Rows
namespace Go.Proofs.YtkophfgkcijjkaaGreatDoor.Vp
open Go.RowKit
def CI (w : World) (b : Nat) (x y z : Value) : Prop := w.heap[b]? = some (.cells #[x, y, z] 176 (0, 0))
theorem CI.lt {w : World} {b : Nat} {x y z : Value} (h : CI w b x y z) : b < w.heap.size := (Array.getElem?_eq_some_iff.1 h).1
theorem CI.c0 {w : World} {b : Nat} {x y z : Value} (h : CI w b x y z) : w.cell? ⟨b, 0, none⟩ = some x := by rw [Lib.cell_of_heap h]; rfl
theorem CI.c1 {w : World} {b : Nat} {x y z : Value} (h : CI w b x y z) : w.cell? ⟨b, 1, none⟩ = some y := by rw [Lib.cell_of_heap h]; rfl
theorem CI.c2 {w : World} {b : Nat} {x y z : Value} (h : CI w b x y z) : w.cell? ⟨b, 2, none⟩ = some z := by rw [Lib.cell_of_heap h]; rfl
theorem CI.fz {w : World} {b : Nat} {x y z : Value} (h : CI w b x y z) (j : Nat) : w.frozen? ⟨b, j, none⟩ = false := Lib.frozen_of_heap h j
theorem CI.below {w w' : World} {b B : Nat} {x y z : Value} (h : CI w b x y z) (hb : Below B w w') (hB : b < B) : CI w' b x y z := (hb.block b hB).trans h
theorem CI.new (w : World) (x y z : Value) : CI (w.alloc (.cells #[x, y, z] 176)) w.heap.size x y z := heap_alloc_new w _
theorem CI.other {w : World} {b : Nat} {x y z : Value} (h : CI w b x y z) (p : Addr) (hp : p.block ≠ b) (v : Value) : CI (w.setCell p v) b x y z := by
  unfold CI at *
  simp [World.setCell, Array.getElem?_modify, hp, h]
theorem CI.set1 {w : World} {b : Nat} {x y z : Value} (h : CI w b x y z) (v : Value) : CI (w.setCell ⟨b, 1, none⟩ v) b x v z := by
  unfold CI at *
  simp [World.setCell, Array.getElem?_modify, h]
theorem CI.set2 {w : World} {b : Nat} {x y z : Value} (h : CI w b x y z) (v : Value) : CI (w.setCell ⟨b, 2, none⟩ v) b x y v := by
  unfold CI at *
  simp [World.setCell, Array.getElem?_modify, h]
theorem CI.set0 {w : World} {b : Nat} {x y z : Value} (h : CI w b x y z) (v : Value) : CI (w.setCell ⟨b, 0, none⟩ v) b v y z := by
  unfold CI at *
  simp [World.setCell, Array.getElem?_modify, h]
theorem CI.all {w : World} {b : Nat} {x y z : Value} (h : CI w b x y z) (x' y' z' : Value) : CI (((w.setCell ⟨b, 0, none⟩ x').setCell ⟨b, 1, none⟩ y').setCell ⟨b, 2, none⟩ z') b x' y' z' := ((h.set0 x').set1 y').set2 z'
theorem sizeIns : (Tryz.prog.info? 176).map (·.size) = some 3 := by kernel_rfl
end Go.Proofs.YtkophfgkcijjkaaGreatDoor.Vp
