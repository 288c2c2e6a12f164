import Derived.Test.YtkophfgkcijjkaaGreatDoorZN
import Derived.Test.YtkophfgkcijjkaaGreatDoorZH
import Derived.Lib.Builder
import Derived.Laws.ResultCell
import Derived.Laws.Rows
namespace Go.Proofs.YtkophfgkcijjkaaGreatDoor.Vp
open Go.RowKit
def i3V (i : I3) : List Value := [.int .i64 i.1, .string ⟨i.2.1.toArray⟩, .int .i64 i.2.2]
def i3L (L : List I3) : List Value := L.flatMap i3V
theorem i3L_len : ∀ L : List I3, (i3L L).length = L.length * 3
  | [] => rfl
  | i :: L => by
    have := i3L_len L
    simp only [i3L, List.flatMap_cons, List.length_append, List.length_cons] at this ⊢
    rw [this]
    simp [i3V]
    omega
theorem own_setP {w : World} {base e' n R j : Nat} {e : TypeId} {v : Value} {xs : List Value} (h : w.ownsRow base e e' v n xs) (hR : R < base) (u : Value) : (w.setCell ⟨R, j, none⟩ u).ownsRow base e e' v n xs := by
  refine ⟨h.1, ?_⟩
  rcases h.2 with hn | ⟨g, cap, cur, hv, hg, hh, r⟩
  · exact .inl hn
  · refine .inr ⟨g, cap, cur, hv, hg, ?_, r⟩
    have : R ≠ g := by omega
    simp [World.setCell, Array.getElem?_modify, this, hh]
def PB (w : World) (b : Nat) (v : Value) : Prop := w.heap[b]? = some (.cells #[v] 31 (0, 0))
theorem PB.lt {w : World} {b : Nat} {v : Value} (h : PB w b v) : b < w.heap.size := (Array.getElem?_eq_some_iff.1 h).1
theorem PB.c0 {w : World} {b : Nat} {v : Value} (h : PB w b v) : w.cell? ⟨b, 0, none⟩ = some v := by rw [Lib.cell_of_heap h]; rfl
theorem PB.fz {w : World} {b : Nat} {v : Value} (h : PB w b v) (j : Nat) : w.frozen? ⟨b, j, none⟩ = false := Lib.frozen_of_heap h j
theorem PB.below {w w' : World} {b B : Nat} {v : Value} (h : PB w b v) (hb : Below B w w') (hB : b < B) : PB w' b v := (hb.block b hB).trans h
theorem PB.set {w : World} {b : Nat} {v : Value} (h : PB w b v) (v' : Value) : PB (w.setCell ⟨b, 0, none⟩ v') b v' := by
  unfold PB at *
  simp [World.setCell, Array.getElem?_modify, h]
theorem PB.other {w : World} {b : Nat} {v : Value} (h : PB w b v) (p : Addr) (hp : p.block ≠ b) (u : Value) : PB (w.setCell p u) b v := by
  unfold PB at *
  simp [World.setCell, Array.getElem?_modify, hp, h]
theorem sizeProgram : (Tryz.prog.info? 31).map (·.size) = some 1 := by kernel_rfl
end Go.Proofs.YtkophfgkcijjkaaGreatDoor.Vp
