/-
  Put together of: NxTen, NxLook, NxLook2, NxLook3.
-/
import Derived.Test.YtfhdecheaeoopaaDoorZJ
import Derived.Test.YtfhdecheaeoopaaDoorZB
import Derived.OneCell
import Derived.OwnWalk
import Derived.Maps.AppendAt
import Derived.Deep.RegionLaw

/-
  Ten cells in a row; what a step of the specification leaves. Written by tools/spec.py.
-/
namespace Go.Proofs.YtfhdecheaeoopaaDoor.Vp
open Go.RowKit

def Ten (w : World) (g : Nat) (v0 v1 v2 v3 v4 v5 v6 v7 v8 v9 : Value) : Prop := g < w.heap.size ∧ (w.cell? ⟨g, 0, none⟩ = some v0 ∧ w.frozen? ⟨g, 0, none⟩ = false) ∧ (w.cell? ⟨g, 1, none⟩ = some v1 ∧ w.frozen? ⟨g, 1, none⟩ = false) ∧ (w.cell? ⟨g, 2, none⟩ = some v2 ∧ w.frozen? ⟨g, 2, none⟩ = false) ∧ (w.cell? ⟨g, 3, none⟩ = some v3 ∧ w.frozen? ⟨g, 3, none⟩ = false) ∧ (w.cell? ⟨g, 4, none⟩ = some v4 ∧ w.frozen? ⟨g, 4, none⟩ = false) ∧ (w.cell? ⟨g, 5, none⟩ = some v5 ∧ w.frozen? ⟨g, 5, none⟩ = false) ∧ (w.cell? ⟨g, 6, none⟩ = some v6 ∧ w.frozen? ⟨g, 6, none⟩ = false) ∧ (w.cell? ⟨g, 7, none⟩ = some v7 ∧ w.frozen? ⟨g, 7, none⟩ = false) ∧ (w.cell? ⟨g, 8, none⟩ = some v8 ∧ w.frozen? ⟨g, 8, none⟩ = false) ∧ (w.cell? ⟨g, 9, none⟩ = some v9 ∧ w.frozen? ⟨g, 9, none⟩ = false)
theorem Ten.of_block {w w' : World} {g : Nat} {v0 v1 v2 v3 v4 v5 v6 v7 v8 v9 : Value} (h : Ten w g v0 v1 v2 v3 v4 v5 v6 v7 v8 v9) (hz : w.heap.size ≤ w'.heap.size) (hb : w'.heap[g]? = w.heap[g]?) : Ten w' g v0 v1 v2 v3 v4 v5 v6 v7 v8 v9 := by
  obtain ⟨hl, ⟨p0, q0⟩, ⟨p1, q1⟩, ⟨p2, q2⟩, ⟨p3, q3⟩, ⟨p4, q4⟩, ⟨p5, q5⟩, ⟨p6, q6⟩, ⟨p7, q7⟩, ⟨p8, q8⟩, p9, q9⟩ := h
  have hc : ∀ o, w'.cell? ⟨g, o, none⟩ = w.cell? ⟨g, o, none⟩ := fun o => World.cell?_of_block (a := ⟨g, o, none⟩) hb
  have hf : ∀ o, w'.frozen? ⟨g, o, none⟩ = w.frozen? ⟨g, o, none⟩ := fun o => World.frozen?_of_block (a := ⟨g, o, none⟩) hb
  exact ⟨Nat.lt_of_lt_of_le hl hz, ⟨(hc 0).trans p0, (hf 0).trans q0⟩, ⟨(hc 1).trans p1, (hf 1).trans q1⟩, ⟨(hc 2).trans p2, (hf 2).trans q2⟩, ⟨(hc 3).trans p3, (hf 3).trans q3⟩, ⟨(hc 4).trans p4, (hf 4).trans q4⟩, ⟨(hc 5).trans p5, (hf 5).trans q5⟩, ⟨(hc 6).trans p6, (hf 6).trans q6⟩, ⟨(hc 7).trans p7, (hf 7).trans q7⟩, ⟨(hc 8).trans p8, (hf 8).trans q8⟩, ⟨(hc 9).trans p9, (hf 9).trans q9⟩⟩
theorem Ten.below {w w' : World} {B g : Nat} {v0 v1 v2 v3 v4 v5 v6 v7 v8 v9 : Value} (h : Ten w g v0 v1 v2 v3 v4 v5 v6 v7 v8 v9) (hb : Below B w w') (hg : g < B) : Ten w' g v0 v1 v2 v3 v4 v5 v6 v7 v8 v9 := h.of_block hb.size (hb.block g hg)
theorem Ten.grown {w w' : World} {g : Nat} {row : Option Nat} {v0 v1 v2 v3 v4 v5 v6 v7 v8 v9 : Value} (h : Ten w g v0 v1 v2 v3 v4 v5 v6 v7 v8 v9) (hb : w.grownBy w' row) (hg : some g ≠ row) : Ten w' g v0 v1 v2 v3 v4 v5 v6 v7 v8 v9 := h.of_block hb.size (hb.block g h.1 hg)
theorem Ten.al {w : World} {g : Nat} {v0 v1 v2 v3 v4 v5 v6 v7 v8 v9 : Value} (h : Ten w g v0 v1 v2 v3 v4 v5 v6 v7 v8 v9) (o : Obj) : Ten (w.alloc o) g v0 v1 v2 v3 v4 v5 v6 v7 v8 v9 := h.below ((Below.refl w.heap.size w).alloc (Nat.le_refl _) o) h.1
theorem Ten.other {w : World} {g : Nat} {v0 v1 v2 v3 v4 v5 v6 v7 v8 v9 : Value} (h : Ten w g v0 v1 v2 v3 v4 v5 v6 v7 v8 v9) (p : Addr) (u : Value) (hp : p.block ≠ g) : Ten (w.setCell p u) g v0 v1 v2 v3 v4 v5 v6 v7 v8 v9 := h.of_block (by simp) (Below.heap_setCell w p u g (fun e => hp e.symm))
theorem Ten.drew {w : World} {g : Nat} {v0 v1 v2 v3 v4 v5 v6 v7 v8 v9 : Value} (h : Ten w g v0 v1 v2 v3 v4 v5 v6 v7 v8 v9) : Ten w.drew g v0 v1 v2 v3 v4 v5 v6 v7 v8 v9 := h
theorem ten_new (w : World) (v0 v1 v2 v3 v4 v5 v6 v7 v8 v9 : Value) (t : TypeId) (g : Nat) (hg : g = w.heap.size) : Ten (w.alloc (.cells #[v0, v1, v2, v3, v4, v5, v6, v7, v8, v9] t)) g v0 v1 v2 v3 v4 v5 v6 v7 v8 v9 := by
  subst hg
  exact ⟨by simp, ⟨by simp, by simp⟩, ⟨by simp, by simp⟩, ⟨by simp, by simp⟩, ⟨by simp, by simp⟩, ⟨by simp, by simp⟩, ⟨by simp, by simp⟩, ⟨by simp, by simp⟩, ⟨by simp, by simp⟩, ⟨by simp, by simp⟩, ⟨by simp, by simp⟩⟩
theorem Ten.set0 {w : World} {g : Nat} {v0 v1 v2 v3 v4 v5 v6 v7 v8 v9 : Value} (h : Ten w g v0 v1 v2 v3 v4 v5 v6 v7 v8 v9) (u : Value) : Ten (w.setCell ⟨g, 0, none⟩ u) g u v1 v2 v3 v4 v5 v6 v7 v8 v9 := by
  obtain ⟨hl, ⟨p0, q0⟩, ⟨p1, q1⟩, ⟨p2, q2⟩, ⟨p3, q3⟩, ⟨p4, q4⟩, ⟨p5, q5⟩, ⟨p6, q6⟩, ⟨p7, q7⟩, ⟨p8, q8⟩, p9, q9⟩ := h
  exact ⟨by simpa using hl, ⟨(World.cell?_setCell_same' _ _ _ (by rw [p0]; rfl)), by simpa using q0⟩, ⟨(World.cell?_setCell_other _ _ _ _ (by simp)).trans p1, by simpa using q1⟩, ⟨(World.cell?_setCell_other _ _ _ _ (by simp)).trans p2, by simpa using q2⟩, ⟨(World.cell?_setCell_other _ _ _ _ (by simp)).trans p3, by simpa using q3⟩, ⟨(World.cell?_setCell_other _ _ _ _ (by simp)).trans p4, by simpa using q4⟩, ⟨(World.cell?_setCell_other _ _ _ _ (by simp)).trans p5, by simpa using q5⟩, ⟨(World.cell?_setCell_other _ _ _ _ (by simp)).trans p6, by simpa using q6⟩, ⟨(World.cell?_setCell_other _ _ _ _ (by simp)).trans p7, by simpa using q7⟩, ⟨(World.cell?_setCell_other _ _ _ _ (by simp)).trans p8, by simpa using q8⟩, ⟨(World.cell?_setCell_other _ _ _ _ (by simp)).trans p9, by simpa using q9⟩⟩
theorem Ten.set1 {w : World} {g : Nat} {v0 v1 v2 v3 v4 v5 v6 v7 v8 v9 : Value} (h : Ten w g v0 v1 v2 v3 v4 v5 v6 v7 v8 v9) (u : Value) : Ten (w.setCell ⟨g, 1, none⟩ u) g v0 u v2 v3 v4 v5 v6 v7 v8 v9 := by
  obtain ⟨hl, ⟨p0, q0⟩, ⟨p1, q1⟩, ⟨p2, q2⟩, ⟨p3, q3⟩, ⟨p4, q4⟩, ⟨p5, q5⟩, ⟨p6, q6⟩, ⟨p7, q7⟩, ⟨p8, q8⟩, p9, q9⟩ := h
  exact ⟨by simpa using hl, ⟨(World.cell?_setCell_other _ _ _ _ (by simp)).trans p0, by simpa using q0⟩, ⟨(World.cell?_setCell_same' _ _ _ (by rw [p1]; rfl)), by simpa using q1⟩, ⟨(World.cell?_setCell_other _ _ _ _ (by simp)).trans p2, by simpa using q2⟩, ⟨(World.cell?_setCell_other _ _ _ _ (by simp)).trans p3, by simpa using q3⟩, ⟨(World.cell?_setCell_other _ _ _ _ (by simp)).trans p4, by simpa using q4⟩, ⟨(World.cell?_setCell_other _ _ _ _ (by simp)).trans p5, by simpa using q5⟩, ⟨(World.cell?_setCell_other _ _ _ _ (by simp)).trans p6, by simpa using q6⟩, ⟨(World.cell?_setCell_other _ _ _ _ (by simp)).trans p7, by simpa using q7⟩, ⟨(World.cell?_setCell_other _ _ _ _ (by simp)).trans p8, by simpa using q8⟩, ⟨(World.cell?_setCell_other _ _ _ _ (by simp)).trans p9, by simpa using q9⟩⟩
theorem Ten.set2 {w : World} {g : Nat} {v0 v1 v2 v3 v4 v5 v6 v7 v8 v9 : Value} (h : Ten w g v0 v1 v2 v3 v4 v5 v6 v7 v8 v9) (u : Value) : Ten (w.setCell ⟨g, 2, none⟩ u) g v0 v1 u v3 v4 v5 v6 v7 v8 v9 := by
  obtain ⟨hl, ⟨p0, q0⟩, ⟨p1, q1⟩, ⟨p2, q2⟩, ⟨p3, q3⟩, ⟨p4, q4⟩, ⟨p5, q5⟩, ⟨p6, q6⟩, ⟨p7, q7⟩, ⟨p8, q8⟩, p9, q9⟩ := h
  exact ⟨by simpa using hl, ⟨(World.cell?_setCell_other _ _ _ _ (by simp)).trans p0, by simpa using q0⟩, ⟨(World.cell?_setCell_other _ _ _ _ (by simp)).trans p1, by simpa using q1⟩, ⟨(World.cell?_setCell_same' _ _ _ (by rw [p2]; rfl)), by simpa using q2⟩, ⟨(World.cell?_setCell_other _ _ _ _ (by simp)).trans p3, by simpa using q3⟩, ⟨(World.cell?_setCell_other _ _ _ _ (by simp)).trans p4, by simpa using q4⟩, ⟨(World.cell?_setCell_other _ _ _ _ (by simp)).trans p5, by simpa using q5⟩, ⟨(World.cell?_setCell_other _ _ _ _ (by simp)).trans p6, by simpa using q6⟩, ⟨(World.cell?_setCell_other _ _ _ _ (by simp)).trans p7, by simpa using q7⟩, ⟨(World.cell?_setCell_other _ _ _ _ (by simp)).trans p8, by simpa using q8⟩, ⟨(World.cell?_setCell_other _ _ _ _ (by simp)).trans p9, by simpa using q9⟩⟩
theorem Ten.set3 {w : World} {g : Nat} {v0 v1 v2 v3 v4 v5 v6 v7 v8 v9 : Value} (h : Ten w g v0 v1 v2 v3 v4 v5 v6 v7 v8 v9) (u : Value) : Ten (w.setCell ⟨g, 3, none⟩ u) g v0 v1 v2 u v4 v5 v6 v7 v8 v9 := by
  obtain ⟨hl, ⟨p0, q0⟩, ⟨p1, q1⟩, ⟨p2, q2⟩, ⟨p3, q3⟩, ⟨p4, q4⟩, ⟨p5, q5⟩, ⟨p6, q6⟩, ⟨p7, q7⟩, ⟨p8, q8⟩, p9, q9⟩ := h
  exact ⟨by simpa using hl, ⟨(World.cell?_setCell_other _ _ _ _ (by simp)).trans p0, by simpa using q0⟩, ⟨(World.cell?_setCell_other _ _ _ _ (by simp)).trans p1, by simpa using q1⟩, ⟨(World.cell?_setCell_other _ _ _ _ (by simp)).trans p2, by simpa using q2⟩, ⟨(World.cell?_setCell_same' _ _ _ (by rw [p3]; rfl)), by simpa using q3⟩, ⟨(World.cell?_setCell_other _ _ _ _ (by simp)).trans p4, by simpa using q4⟩, ⟨(World.cell?_setCell_other _ _ _ _ (by simp)).trans p5, by simpa using q5⟩, ⟨(World.cell?_setCell_other _ _ _ _ (by simp)).trans p6, by simpa using q6⟩, ⟨(World.cell?_setCell_other _ _ _ _ (by simp)).trans p7, by simpa using q7⟩, ⟨(World.cell?_setCell_other _ _ _ _ (by simp)).trans p8, by simpa using q8⟩, ⟨(World.cell?_setCell_other _ _ _ _ (by simp)).trans p9, by simpa using q9⟩⟩
theorem Ten.set4 {w : World} {g : Nat} {v0 v1 v2 v3 v4 v5 v6 v7 v8 v9 : Value} (h : Ten w g v0 v1 v2 v3 v4 v5 v6 v7 v8 v9) (u : Value) : Ten (w.setCell ⟨g, 4, none⟩ u) g v0 v1 v2 v3 u v5 v6 v7 v8 v9 := by
  obtain ⟨hl, ⟨p0, q0⟩, ⟨p1, q1⟩, ⟨p2, q2⟩, ⟨p3, q3⟩, ⟨p4, q4⟩, ⟨p5, q5⟩, ⟨p6, q6⟩, ⟨p7, q7⟩, ⟨p8, q8⟩, p9, q9⟩ := h
  exact ⟨by simpa using hl, ⟨(World.cell?_setCell_other _ _ _ _ (by simp)).trans p0, by simpa using q0⟩, ⟨(World.cell?_setCell_other _ _ _ _ (by simp)).trans p1, by simpa using q1⟩, ⟨(World.cell?_setCell_other _ _ _ _ (by simp)).trans p2, by simpa using q2⟩, ⟨(World.cell?_setCell_other _ _ _ _ (by simp)).trans p3, by simpa using q3⟩, ⟨(World.cell?_setCell_same' _ _ _ (by rw [p4]; rfl)), by simpa using q4⟩, ⟨(World.cell?_setCell_other _ _ _ _ (by simp)).trans p5, by simpa using q5⟩, ⟨(World.cell?_setCell_other _ _ _ _ (by simp)).trans p6, by simpa using q6⟩, ⟨(World.cell?_setCell_other _ _ _ _ (by simp)).trans p7, by simpa using q7⟩, ⟨(World.cell?_setCell_other _ _ _ _ (by simp)).trans p8, by simpa using q8⟩, ⟨(World.cell?_setCell_other _ _ _ _ (by simp)).trans p9, by simpa using q9⟩⟩
theorem Ten.set5 {w : World} {g : Nat} {v0 v1 v2 v3 v4 v5 v6 v7 v8 v9 : Value} (h : Ten w g v0 v1 v2 v3 v4 v5 v6 v7 v8 v9) (u : Value) : Ten (w.setCell ⟨g, 5, none⟩ u) g v0 v1 v2 v3 v4 u v6 v7 v8 v9 := by
  obtain ⟨hl, ⟨p0, q0⟩, ⟨p1, q1⟩, ⟨p2, q2⟩, ⟨p3, q3⟩, ⟨p4, q4⟩, ⟨p5, q5⟩, ⟨p6, q6⟩, ⟨p7, q7⟩, ⟨p8, q8⟩, p9, q9⟩ := h
  exact ⟨by simpa using hl, ⟨(World.cell?_setCell_other _ _ _ _ (by simp)).trans p0, by simpa using q0⟩, ⟨(World.cell?_setCell_other _ _ _ _ (by simp)).trans p1, by simpa using q1⟩, ⟨(World.cell?_setCell_other _ _ _ _ (by simp)).trans p2, by simpa using q2⟩, ⟨(World.cell?_setCell_other _ _ _ _ (by simp)).trans p3, by simpa using q3⟩, ⟨(World.cell?_setCell_other _ _ _ _ (by simp)).trans p4, by simpa using q4⟩, ⟨(World.cell?_setCell_same' _ _ _ (by rw [p5]; rfl)), by simpa using q5⟩, ⟨(World.cell?_setCell_other _ _ _ _ (by simp)).trans p6, by simpa using q6⟩, ⟨(World.cell?_setCell_other _ _ _ _ (by simp)).trans p7, by simpa using q7⟩, ⟨(World.cell?_setCell_other _ _ _ _ (by simp)).trans p8, by simpa using q8⟩, ⟨(World.cell?_setCell_other _ _ _ _ (by simp)).trans p9, by simpa using q9⟩⟩
theorem Ten.set6 {w : World} {g : Nat} {v0 v1 v2 v3 v4 v5 v6 v7 v8 v9 : Value} (h : Ten w g v0 v1 v2 v3 v4 v5 v6 v7 v8 v9) (u : Value) : Ten (w.setCell ⟨g, 6, none⟩ u) g v0 v1 v2 v3 v4 v5 u v7 v8 v9 := by
  obtain ⟨hl, ⟨p0, q0⟩, ⟨p1, q1⟩, ⟨p2, q2⟩, ⟨p3, q3⟩, ⟨p4, q4⟩, ⟨p5, q5⟩, ⟨p6, q6⟩, ⟨p7, q7⟩, ⟨p8, q8⟩, p9, q9⟩ := h
  exact ⟨by simpa using hl, ⟨(World.cell?_setCell_other _ _ _ _ (by simp)).trans p0, by simpa using q0⟩, ⟨(World.cell?_setCell_other _ _ _ _ (by simp)).trans p1, by simpa using q1⟩, ⟨(World.cell?_setCell_other _ _ _ _ (by simp)).trans p2, by simpa using q2⟩, ⟨(World.cell?_setCell_other _ _ _ _ (by simp)).trans p3, by simpa using q3⟩, ⟨(World.cell?_setCell_other _ _ _ _ (by simp)).trans p4, by simpa using q4⟩, ⟨(World.cell?_setCell_other _ _ _ _ (by simp)).trans p5, by simpa using q5⟩, ⟨(World.cell?_setCell_same' _ _ _ (by rw [p6]; rfl)), by simpa using q6⟩, ⟨(World.cell?_setCell_other _ _ _ _ (by simp)).trans p7, by simpa using q7⟩, ⟨(World.cell?_setCell_other _ _ _ _ (by simp)).trans p8, by simpa using q8⟩, ⟨(World.cell?_setCell_other _ _ _ _ (by simp)).trans p9, by simpa using q9⟩⟩
theorem Ten.set7 {w : World} {g : Nat} {v0 v1 v2 v3 v4 v5 v6 v7 v8 v9 : Value} (h : Ten w g v0 v1 v2 v3 v4 v5 v6 v7 v8 v9) (u : Value) : Ten (w.setCell ⟨g, 7, none⟩ u) g v0 v1 v2 v3 v4 v5 v6 u v8 v9 := by
  obtain ⟨hl, ⟨p0, q0⟩, ⟨p1, q1⟩, ⟨p2, q2⟩, ⟨p3, q3⟩, ⟨p4, q4⟩, ⟨p5, q5⟩, ⟨p6, q6⟩, ⟨p7, q7⟩, ⟨p8, q8⟩, p9, q9⟩ := h
  exact ⟨by simpa using hl, ⟨(World.cell?_setCell_other _ _ _ _ (by simp)).trans p0, by simpa using q0⟩, ⟨(World.cell?_setCell_other _ _ _ _ (by simp)).trans p1, by simpa using q1⟩, ⟨(World.cell?_setCell_other _ _ _ _ (by simp)).trans p2, by simpa using q2⟩, ⟨(World.cell?_setCell_other _ _ _ _ (by simp)).trans p3, by simpa using q3⟩, ⟨(World.cell?_setCell_other _ _ _ _ (by simp)).trans p4, by simpa using q4⟩, ⟨(World.cell?_setCell_other _ _ _ _ (by simp)).trans p5, by simpa using q5⟩, ⟨(World.cell?_setCell_other _ _ _ _ (by simp)).trans p6, by simpa using q6⟩, ⟨(World.cell?_setCell_same' _ _ _ (by rw [p7]; rfl)), by simpa using q7⟩, ⟨(World.cell?_setCell_other _ _ _ _ (by simp)).trans p8, by simpa using q8⟩, ⟨(World.cell?_setCell_other _ _ _ _ (by simp)).trans p9, by simpa using q9⟩⟩
theorem Ten.set8 {w : World} {g : Nat} {v0 v1 v2 v3 v4 v5 v6 v7 v8 v9 : Value} (h : Ten w g v0 v1 v2 v3 v4 v5 v6 v7 v8 v9) (u : Value) : Ten (w.setCell ⟨g, 8, none⟩ u) g v0 v1 v2 v3 v4 v5 v6 v7 u v9 := by
  obtain ⟨hl, ⟨p0, q0⟩, ⟨p1, q1⟩, ⟨p2, q2⟩, ⟨p3, q3⟩, ⟨p4, q4⟩, ⟨p5, q5⟩, ⟨p6, q6⟩, ⟨p7, q7⟩, ⟨p8, q8⟩, p9, q9⟩ := h
  exact ⟨by simpa using hl, ⟨(World.cell?_setCell_other _ _ _ _ (by simp)).trans p0, by simpa using q0⟩, ⟨(World.cell?_setCell_other _ _ _ _ (by simp)).trans p1, by simpa using q1⟩, ⟨(World.cell?_setCell_other _ _ _ _ (by simp)).trans p2, by simpa using q2⟩, ⟨(World.cell?_setCell_other _ _ _ _ (by simp)).trans p3, by simpa using q3⟩, ⟨(World.cell?_setCell_other _ _ _ _ (by simp)).trans p4, by simpa using q4⟩, ⟨(World.cell?_setCell_other _ _ _ _ (by simp)).trans p5, by simpa using q5⟩, ⟨(World.cell?_setCell_other _ _ _ _ (by simp)).trans p6, by simpa using q6⟩, ⟨(World.cell?_setCell_other _ _ _ _ (by simp)).trans p7, by simpa using q7⟩, ⟨(World.cell?_setCell_same' _ _ _ (by rw [p8]; rfl)), by simpa using q8⟩, ⟨(World.cell?_setCell_other _ _ _ _ (by simp)).trans p9, by simpa using q9⟩⟩
theorem Ten.set9 {w : World} {g : Nat} {v0 v1 v2 v3 v4 v5 v6 v7 v8 v9 : Value} (h : Ten w g v0 v1 v2 v3 v4 v5 v6 v7 v8 v9) (u : Value) : Ten (w.setCell ⟨g, 9, none⟩ u) g v0 v1 v2 v3 v4 v5 v6 v7 v8 u := by
  obtain ⟨hl, ⟨p0, q0⟩, ⟨p1, q1⟩, ⟨p2, q2⟩, ⟨p3, q3⟩, ⟨p4, q4⟩, ⟨p5, q5⟩, ⟨p6, q6⟩, ⟨p7, q7⟩, ⟨p8, q8⟩, p9, q9⟩ := h
  exact ⟨by simpa using hl, ⟨(World.cell?_setCell_other _ _ _ _ (by simp)).trans p0, by simpa using q0⟩, ⟨(World.cell?_setCell_other _ _ _ _ (by simp)).trans p1, by simpa using q1⟩, ⟨(World.cell?_setCell_other _ _ _ _ (by simp)).trans p2, by simpa using q2⟩, ⟨(World.cell?_setCell_other _ _ _ _ (by simp)).trans p3, by simpa using q3⟩, ⟨(World.cell?_setCell_other _ _ _ _ (by simp)).trans p4, by simpa using q4⟩, ⟨(World.cell?_setCell_other _ _ _ _ (by simp)).trans p5, by simpa using q5⟩, ⟨(World.cell?_setCell_other _ _ _ _ (by simp)).trans p6, by simpa using q6⟩, ⟨(World.cell?_setCell_other _ _ _ _ (by simp)).trans p7, by simpa using q7⟩, ⟨(World.cell?_setCell_other _ _ _ _ (by simp)).trans p8, by simpa using q8⟩, ⟨(World.cell?_setCell_same' _ _ _ (by rw [p9]; rfl)), by simpa using q9⟩⟩
theorem box3 (w : World) (cs : Array Value) (ty : TypeId) (R Z : Obj) (j : Nat) (v : Value) (hv : cs[j]? = some v) : (((w.alloc (.cells cs ty)).alloc R).alloc Z).cell? ⟨w.heap.size, j, none⟩ = some v := by
  rw [(((Below.refl (w.alloc (.cells cs ty)).heap.size _).alloc (Nat.le_refl _) R).alloc (by simp) Z).cell (p := ⟨w.heap.size, j, none⟩) (by simp)]
  simp [hv]

abbrev SO := (Nat × Nat × Nat × List ByteArray) ⊕ (Int × ByteArray × Nat) ⊕ (Bool × ByteArray × Nat)
abbrev strs (s : List ByteArray) : List Value := s.reverse.map Value.string
/-- The value v tells this. -/
def SoIs (w : World) (base : Nat) (v : Value) : SO → Prop
  | .inl (p, st, l, s) => ∃ a cap, v = runV p (.slice a s.length cap) st l false 0 ⟨#[]⟩ false ⟨#[]⟩ false ∧ w.ownsRow base 9 1 (.slice a s.length cap) s.length (strs s)
  | .inr (.inl (c, x, st)) => ∃ (at_ : Int) (a : Option Addr) (n cap : Nat) (lk : Int), v = runV at_ (.slice a n cap) st lk true c x false ⟨#[]⟩ false
  | .inr (.inr (ask, nm, st)) => ∃ (at_ : Int) (a : Option Addr) (n cap : Nat) (lk : Int), v = runV at_ (.slice a n cap) st lk false 0 ⟨#[]⟩ ask nm true
theorem SoIs.kept {w w' : World} {base base' : Nat} {v : Value} {r : SO} (h : SoIs w base v r) (hb : Below w.heap.size w w') (hl : base' ≤ base) : SoIs w' base' v r := by
  rcases r with ⟨p, st, l, s⟩ | ⟨c, x, st⟩ | ⟨ask, nm, st⟩
  · obtain ⟨a, cap, e, ho⟩ := h
    exact ⟨a, cap, e, own_mono (own_below ho hb (Nat.le_refl _)) hl⟩
  · exact h
  · exact h
theorem own_ne {w : World} {base : Nat} {e : TypeId} {g k n cap : Nat} {s0 : ByteArray} {i : Int} {xs : List Value} (h : w.ownsRow base e 1 (.slice (some ⟨g, 0, none⟩) n cap) n xs) (hx : xs[0]? = some (.string s0)) (hk : w.cell? ⟨k, 0, none⟩ = some (.int .i64 i)) : k ≠ g := by
  rintro rfl
  have := h.cells (g := k) rfl 0 _ hx
  simp [Addr.add] at this
  rw [hk] at this
  simp at this
theorem strs_cons (x : ByteArray) (s : List ByteArray) : strs (x :: s) = strs s ++ [.string x] := by simp [strs]
theorem strs_at {x : ByteArray} {s : List ByteArray} : ∃ s0, (strs s ++ [Value.string x])[0]? = some (.string s0) := by
  rw [← strs_cons]
  simp only [strs, List.getElem?_map, Option.map_eq_some_iff]
  have h : 0 < (x :: s).reverse.length := by simp
  exact ⟨_, _, List.getElem?_eq_getElem h, rfl⟩
theorem ten_own {w : World} {base g n cap : Nat} {e : TypeId} {xs : List Value} (h : w.ownsRow base e 1 (.slice (some ⟨g, 0, none⟩) n cap) n xs) {k : Nat} (hk : k ≠ g) (u : Value) (j : Nat) : (w.setCell ⟨k, j, none⟩ u).ownsRow base e 1 (.slice (some ⟨g, 0, none⟩) n cap) n xs :=
  ownsRow_setCell_other h (by simp [Value.ownBlock]; exact fun e => hk e.symm) u
theorem ten_owns {w : World} {base g n cap : Nat} {e : TypeId} {xs : List Value} (h : w.ownsRow base e 1 (.slice (some ⟨g, 0, none⟩) n cap) n xs) {k : Nat} (hk : k ≠ g) (v0 v1 v2 v3 v4 v5 v6 v7 v8 v9 : Value) : World.ownsRow ((((((((((w.setCell ⟨k, 0, none⟩ v0).setCell ⟨k, 1, none⟩ v1).setCell ⟨k, 2, none⟩ v2).setCell ⟨k, 3, none⟩ v3).setCell ⟨k, 4, none⟩ v4).setCell ⟨k, 5, none⟩ v5).setCell ⟨k, 6, none⟩ v6).setCell ⟨k, 7, none⟩ v7).setCell ⟨k, 8, none⟩ v8).setCell ⟨k, 9, none⟩ v9) base e 1 (.slice (some ⟨g, 0, none⟩) n cap) n xs :=
  ten_own (ten_own (ten_own (ten_own (ten_own (ten_own (ten_own (ten_own (ten_own (ten_own h hk v0 0) hk v1 1) hk v2 2) hk v3 3) hk v4 4) hk v5 5) hk v6 6) hk v7 7) hk v8 8) hk v9 9
/-- A look that has been asked for. -/
def afterLook (y : Nat → Reply) (n : Nat) (a : Bool) (nm : ByteArray) (s : List ByteArray) (p st l : Nat) : SO :=
  if n ≤ l then .inr (.inr (a, nm, st)) else if a = false then .inl (p, st, (l + 1), (flagT (y l).has :: s)) else if (y l).has = false then .inr (.inl (4, nm, st))
  else if (y l).code = 0 then .inl (p, st, (l + 1), ((y l).text :: s)) else .inr (.inl (5, nm, st))

end Go.Proofs.YtfhdecheaeoopaaDoor.Vp

/-
  spec: l1Look. Written by tools/spec.py.
-/
namespace Go.Proofs.YtfhdecheaeoopaaDoor.Vp
open Go.RowKit

set_option maxHeartbeats 4000000 in
theorem look_name (op : Nat) (t : ByteArray) (k : Int) (p st l : Nat) (a : Option Addr) (cap : Nat) (s : List ByteArray) (nm pl : ByteArray) (b2 o2 n cap2 base : Nat) (y : Nat → Reply) (w : World)
    (hY : RowReply w b2 o2 n y) (hO : w.ownsRow base 9 1 (.slice a s.length cap) s.length (strs s)) (hb : base ≤ w.heap.size) (hn : nameOk nm = false) :
    Calls Tryd.prog 30 #[.agg #[.int .i64 op, .string t, .int .i64 k], runV p (.slice a s.length cap) st l false 0 ⟨#[]⟩ false ⟨#[]⟩ false, .string nm, .string pl, .slice (some ⟨b2, o2, none⟩) n cap2] w fun e w' => ∃ v, e = .returned v ∧ SoIs w' base v (.inr (.inl (2, pl, st))) ∧ Below base w w' := by
  have HY := hide hY
  have HO := hide hO
  have HN := hide hn
  clear hY hO hn
  have A0 := hide ((((Below.refl w.heap.size w).alloc (Nat.le_refl _) (.cells #[.int .i64 op, .string t, .int .i64 k] 67)).alloc (by simp) (.cells #[.int .i64 p, .slice a s.length cap, .int .i64 st, .int .i64 l, .bool false, .int .i64 0, .string ⟨#[]⟩, .bool false, .string ⟨#[]⟩, .bool false] 49)).alloc (by first | (simp; done) | (simp; omega)) (.cells #[.int .i64 0, .slice none 0 0, .int .i64 0, .int .i64 0, .bool false, .int .i64 0, .string ⟨#[]⟩, .bool false, .string ⟨#[]⟩, .bool false] 49))
  have R0 := hide ((ten_new (w.alloc (.cells #[.int .i64 op, .string t, .int .i64 k] 67)) (.int .i64 p) (.slice a s.length cap) (.int .i64 st) (.int .i64 l) (.bool false) (.int .i64 0) (.string ⟨#[]⟩) (.bool false) (.string ⟨#[]⟩) (.bool false) 49 (w.heap.size + 1) (by simp)).al (.cells #[.int .i64 0, .slice none 0 0, .int .i64 0, .int .i64 0, .bool false, .int .i64 0, .string ⟨#[]⟩, .bool false, .string ⟨#[]⟩, .bool false] 49))
  have Z0 := hide (ten_new ((w.alloc (.cells #[.int .i64 op, .string t, .int .i64 k] 67)).alloc (.cells #[.int .i64 p, .slice a s.length cap, .int .i64 st, .int .i64 l, .bool false, .int .i64 0, .string ⟨#[]⟩, .bool false, .string ⟨#[]⟩, .bool false] 49)) (.int .i64 0) (.slice none 0 0) (.int .i64 0) (.int .i64 0) (.bool false) (.int .i64 0) (.string ⟨#[]⟩) (.bool false) (.string ⟨#[]⟩) (.bool false) 49 (w.heap.size + 1 + 1) (by simp))
  go_enter Tryd.func30, Tryd.ntmps30
  go_wp2_with fail
  refine (l1NameOk_any nm _).mono ?_
  rintro e w1 ⟨rfl, hB1⟩
  rw [HN.out]
  have R1 := hide (R0.out.below hB1 (by first | (simp; done) | (simp; omega)))
  have Z1 := hide (Z0.out.below hB1 (by simp))
  have B1 := hide (A0.out.trans (hB1.mono (by first | (simp; done) | (simp; omega))))
  have i0 : w1.cell? ⟨w.heap.size, 0, none⟩ = some (.int .i64 op) := (hB1.cell (p := ⟨w.heap.size, 0, none⟩) (by first | (simp; done) | (simp; omega))).trans (box3 _ _ _ _ _ _ _ rfl)
  have O1 := hide (own_below HO.out B1.out (Nat.le_refl _))
  have hz1 : w.heap.size + 1 + 1 < w1.heap.size := Z1.out.1
  clear hB1 A0 R0 Z0 HO HN
  obtain ⟨chl, ⟨c0, f0⟩, ⟨c1, f1⟩, ⟨c2, f2⟩, ⟨c3, f3⟩, ⟨c4, f4⟩, ⟨c5, f5⟩, ⟨c6, f6⟩, ⟨c7, f7⟩, ⟨c8, f8⟩, c9, f9⟩ := R1.out
  go_wp2_with fail
  refine (l1End_any _ _ _ _ _ _ _ _ _ _ _ _ _ _ _).mono ?_
  rintro e w2 ⟨rfl, hB2⟩
  have ZE := hide (Z1.out.below hB2 Z1.out.1)
  have B2 := hide (B1.out.trans (hB2.mono B1.out.size))
  clear hB2
  clear chl c0 f0 c1 f1 c2 f2 c3 f3 c4 f4 c5 f5 c6 f6 c7 f7 c8 f8 c9 f9
  obtain ⟨zhl, ⟨z0, y0⟩, ⟨z1, y1⟩, ⟨z2, y2⟩, ⟨z3, y3⟩, ⟨z4, y4⟩, ⟨z5, y5⟩, ⟨z6, y6⟩, ⟨z7, y7⟩, ⟨z8, y8⟩, z9, y9⟩ := ZE.out
  go_wp2
  refine bodyPost_ret (v := runV p (.slice a s.length cap) st l true 2 pl false ⟨#[]⟩ false) (by simp [results, Tryd.results30, go_sem, z0, z1, z2, z3, z4, z5, z6, z7, z8, z9]) rfl ⟨_, rfl, ⟨_, _, _, _, _, rfl⟩, ten_set (B2.out.mono hb) (by omega) _ _ _ _ _ _ _ _ _ _⟩

set_option maxHeartbeats 4000000 in
theorem look_spent (op : Nat) (t : ByteArray) (k : Int) (p st l : Nat) (a : Option Addr) (cap : Nat) (s : List ByteArray) (nm pl : ByteArray) (b2 o2 n cap2 base : Nat) (y : Nat → Reply) (w : World)
    (hY : RowReply w b2 o2 n y) (hO : w.ownsRow base 9 1 (.slice a s.length cap) s.length (strs s)) (hb : base ≤ w.heap.size) (hn : nameOk nm = true) (hl : ((l : Int) == 200) = true) :
    Calls Tryd.prog 30 #[.agg #[.int .i64 op, .string t, .int .i64 k], runV p (.slice a s.length cap) st l false 0 ⟨#[]⟩ false ⟨#[]⟩ false, .string nm, .string pl, .slice (some ⟨b2, o2, none⟩) n cap2] w fun e w' => ∃ v, e = .returned v ∧ SoIs w' base v (.inr (.inl (3, ⟨#[]⟩, st))) ∧ Below base w w' := by
  have HY := hide hY
  have HO := hide hO
  have HN := hide hn
  clear hY hO hn
  have A0 := hide ((((Below.refl w.heap.size w).alloc (Nat.le_refl _) (.cells #[.int .i64 op, .string t, .int .i64 k] 67)).alloc (by simp) (.cells #[.int .i64 p, .slice a s.length cap, .int .i64 st, .int .i64 l, .bool false, .int .i64 0, .string ⟨#[]⟩, .bool false, .string ⟨#[]⟩, .bool false] 49)).alloc (by first | (simp; done) | (simp; omega)) (.cells #[.int .i64 0, .slice none 0 0, .int .i64 0, .int .i64 0, .bool false, .int .i64 0, .string ⟨#[]⟩, .bool false, .string ⟨#[]⟩, .bool false] 49))
  have R0 := hide ((ten_new (w.alloc (.cells #[.int .i64 op, .string t, .int .i64 k] 67)) (.int .i64 p) (.slice a s.length cap) (.int .i64 st) (.int .i64 l) (.bool false) (.int .i64 0) (.string ⟨#[]⟩) (.bool false) (.string ⟨#[]⟩) (.bool false) 49 (w.heap.size + 1) (by simp)).al (.cells #[.int .i64 0, .slice none 0 0, .int .i64 0, .int .i64 0, .bool false, .int .i64 0, .string ⟨#[]⟩, .bool false, .string ⟨#[]⟩, .bool false] 49))
  have Z0 := hide (ten_new ((w.alloc (.cells #[.int .i64 op, .string t, .int .i64 k] 67)).alloc (.cells #[.int .i64 p, .slice a s.length cap, .int .i64 st, .int .i64 l, .bool false, .int .i64 0, .string ⟨#[]⟩, .bool false, .string ⟨#[]⟩, .bool false] 49)) (.int .i64 0) (.slice none 0 0) (.int .i64 0) (.int .i64 0) (.bool false) (.int .i64 0) (.string ⟨#[]⟩) (.bool false) (.string ⟨#[]⟩) (.bool false) 49 (w.heap.size + 1 + 1) (by simp))
  go_enter Tryd.func30, Tryd.ntmps30
  go_wp2_with fail
  refine (l1NameOk_any nm _).mono ?_
  rintro e w1 ⟨rfl, hB1⟩
  rw [HN.out]
  have R1 := hide (R0.out.below hB1 (by first | (simp; done) | (simp; omega)))
  have Z1 := hide (Z0.out.below hB1 (by simp))
  have B1 := hide (A0.out.trans (hB1.mono (by first | (simp; done) | (simp; omega))))
  have i0 : w1.cell? ⟨w.heap.size, 0, none⟩ = some (.int .i64 op) := (hB1.cell (p := ⟨w.heap.size, 0, none⟩) (by first | (simp; done) | (simp; omega))).trans (box3 _ _ _ _ _ _ _ rfl)
  have O1 := hide (own_below HO.out B1.out (Nat.le_refl _))
  have hz1 : w.heap.size + 1 + 1 < w1.heap.size := Z1.out.1
  clear hB1 A0 R0 Z0 HO HN
  obtain ⟨chl, ⟨c0, f0⟩, ⟨c1, f1⟩, ⟨c2, f2⟩, ⟨c3, f3⟩, ⟨c4, f4⟩, ⟨c5, f5⟩, ⟨c6, f6⟩, ⟨c7, f7⟩, ⟨c8, f8⟩, c9, f9⟩ := R1.out
  go_wp2_with fail
  refine (l1End_any _ _ _ _ _ _ _ _ _ _ _ _ _ _ _).mono ?_
  rintro e w2 ⟨rfl, hB2⟩
  have ZE := hide (Z1.out.below hB2 Z1.out.1)
  have B2 := hide (B1.out.trans (hB2.mono B1.out.size))
  clear hB2
  clear chl c0 f0 c1 f1 c2 f2 c3 f3 c4 f4 c5 f5 c6 f6 c7 f7 c8 f8 c9 f9
  obtain ⟨zhl, ⟨z0, y0⟩, ⟨z1, y1⟩, ⟨z2, y2⟩, ⟨z3, y3⟩, ⟨z4, y4⟩, ⟨z5, y5⟩, ⟨z6, y6⟩, ⟨z7, y7⟩, ⟨z8, y8⟩, z9, y9⟩ := ZE.out
  go_wp2
  refine bodyPost_ret (v := runV p (.slice a s.length cap) st l true 3 ⟨#[]⟩ false ⟨#[]⟩ false) (by simp [results, Tryd.results30, go_sem, z0, z1, z2, z3, z4, z5, z6, z7, z8, z9]) rfl ⟨_, rfl, ⟨_, _, _, _, _, rfl⟩, ten_set (B2.out.mono hb) (by omega) _ _ _ _ _ _ _ _ _ _⟩

set_option maxHeartbeats 4000000 in
theorem look_wait (op : Nat) (t : ByteArray) (k : Int) (p st l : Nat) (a : Option Addr) (cap : Nat) (s : List ByteArray) (nm pl : ByteArray) (b2 o2 n cap2 base : Nat) (y : Nat → Reply) (w : World)
    (hY : RowReply w b2 o2 n y) (hO : w.ownsRow base 9 1 (.slice a s.length cap) s.length (strs s)) (hb : base ≤ w.heap.size) (hn : nameOk nm = true) (hl : ((l : Int) == 200) = false) (hw : (n : Int) ≤ l) :
    Calls Tryd.prog 30 #[.agg #[.int .i64 op, .string t, .int .i64 k], runV p (.slice a s.length cap) st l false 0 ⟨#[]⟩ false ⟨#[]⟩ false, .string nm, .string pl, .slice (some ⟨b2, o2, none⟩) n cap2] w fun e w' => ∃ v, e = .returned v ∧ SoIs w' base v (.inr (.inr (((op : Int) == 12), nm, st))) ∧ Below base w w' := by
  have HY := hide hY
  have HO := hide hO
  have HN := hide hn
  clear hY hO hn
  have A0 := hide ((((Below.refl w.heap.size w).alloc (Nat.le_refl _) (.cells #[.int .i64 op, .string t, .int .i64 k] 67)).alloc (by simp) (.cells #[.int .i64 p, .slice a s.length cap, .int .i64 st, .int .i64 l, .bool false, .int .i64 0, .string ⟨#[]⟩, .bool false, .string ⟨#[]⟩, .bool false] 49)).alloc (by first | (simp; done) | (simp; omega)) (.cells #[.int .i64 0, .slice none 0 0, .int .i64 0, .int .i64 0, .bool false, .int .i64 0, .string ⟨#[]⟩, .bool false, .string ⟨#[]⟩, .bool false] 49))
  have R0 := hide ((ten_new (w.alloc (.cells #[.int .i64 op, .string t, .int .i64 k] 67)) (.int .i64 p) (.slice a s.length cap) (.int .i64 st) (.int .i64 l) (.bool false) (.int .i64 0) (.string ⟨#[]⟩) (.bool false) (.string ⟨#[]⟩) (.bool false) 49 (w.heap.size + 1) (by simp)).al (.cells #[.int .i64 0, .slice none 0 0, .int .i64 0, .int .i64 0, .bool false, .int .i64 0, .string ⟨#[]⟩, .bool false, .string ⟨#[]⟩, .bool false] 49))
  have Z0 := hide (ten_new ((w.alloc (.cells #[.int .i64 op, .string t, .int .i64 k] 67)).alloc (.cells #[.int .i64 p, .slice a s.length cap, .int .i64 st, .int .i64 l, .bool false, .int .i64 0, .string ⟨#[]⟩, .bool false, .string ⟨#[]⟩, .bool false] 49)) (.int .i64 0) (.slice none 0 0) (.int .i64 0) (.int .i64 0) (.bool false) (.int .i64 0) (.string ⟨#[]⟩) (.bool false) (.string ⟨#[]⟩) (.bool false) 49 (w.heap.size + 1 + 1) (by simp))
  go_enter Tryd.func30, Tryd.ntmps30
  go_wp2_with fail
  refine (l1NameOk_any nm _).mono ?_
  rintro e w1 ⟨rfl, hB1⟩
  rw [HN.out]
  have R1 := hide (R0.out.below hB1 (by first | (simp; done) | (simp; omega)))
  have Z1 := hide (Z0.out.below hB1 (by simp))
  have B1 := hide (A0.out.trans (hB1.mono (by first | (simp; done) | (simp; omega))))
  have i0 : w1.cell? ⟨w.heap.size, 0, none⟩ = some (.int .i64 op) := (hB1.cell (p := ⟨w.heap.size, 0, none⟩) (by first | (simp; done) | (simp; omega))).trans (box3 _ _ _ _ _ _ _ rfl)
  have O1 := hide (own_below HO.out B1.out (Nat.le_refl _))
  have hz1 : w.heap.size + 1 + 1 < w1.heap.size := Z1.out.1
  clear hB1 A0 R0 Z0 HO HN
  obtain ⟨chl, ⟨c0, f0⟩, ⟨c1, f1⟩, ⟨c2, f2⟩, ⟨c3, f3⟩, ⟨c4, f4⟩, ⟨c5, f5⟩, ⟨c6, f6⟩, ⟨c7, f7⟩, ⟨c8, f8⟩, c9, f9⟩ := R1.out
  have ZE := hide (((Z1.out.other ⟨w.heap.size + 1, 9, none⟩ (.bool true) (by simp)).other ⟨w.heap.size + 1, 7, none⟩ (.bool ((op : Int) == 12)) (by simp)).other ⟨w.heap.size + 1, 8, none⟩ (.string nm) (by simp))
  have B2 := hide (((B1.out.setCell (p := ⟨w.heap.size + 1, 9, none⟩) (by simp) (.bool true)).setCell (p := ⟨w.heap.size + 1, 7, none⟩) (by simp) (.bool ((op : Int) == 12))).setCell (p := ⟨w.heap.size + 1, 8, none⟩) (by simp) (.string nm))
  obtain ⟨zhl, ⟨z0, y0⟩, ⟨z1, y1⟩, ⟨z2, y2⟩, ⟨z3, y3⟩, ⟨z4, y4⟩, ⟨z5, y5⟩, ⟨z6, y6⟩, ⟨z7, y7⟩, ⟨z8, y8⟩, z9, y9⟩ := ZE.out
  go_wp2
  refine bodyPost_ret (v := runV p (.slice a s.length cap) st l false 0 ⟨#[]⟩ ((op : Int) == 12) nm true) (by simp [results, Tryd.results30, go_sem, z0, z1, z2, z3, z4, z5, z6, z7, z8, z9]) rfl ⟨_, rfl, ⟨_, _, _, _, _, rfl⟩, ten_set (B2.out.mono hb) (by omega) _ _ _ _ _ _ _ _ _ _⟩

set_option maxHeartbeats 4000000 in
theorem look_miss (op : Nat) (t : ByteArray) (k : Int) (p st l : Nat) (a : Option Addr) (cap : Nat) (s : List ByteArray) (nm pl : ByteArray) (b2 o2 n cap2 base : Nat) (y : Nat → Reply) (w : World)
    (hY : RowReply w b2 o2 n y) (hO : w.ownsRow base 9 1 (.slice a s.length cap) s.length (strs s)) (hb : base ≤ w.heap.size) (hn : nameOk nm = true) (hl : ((l : Int) == 200) = false) (hl2 : l ≤ 200) (hw : l < n) (hop : ((op : Int) == 13) = false) (hh : (y l).has = false) :
    Calls Tryd.prog 30 #[.agg #[.int .i64 op, .string t, .int .i64 k], runV p (.slice a s.length cap) st l false 0 ⟨#[]⟩ false ⟨#[]⟩ false, .string nm, .string pl, .slice (some ⟨b2, o2, none⟩) n cap2] w fun e w' => ∃ v, e = .returned v ∧ SoIs w' base v (.inr (.inl (4, nm, st))) ∧ Below base w w' := by
  have HY := hide hY
  have HO := hide hO
  have HN := hide hn
  have HO0 := hide hO
  clear hY hO hn
  have A0 := hide ((((Below.refl w.heap.size w).alloc (Nat.le_refl _) (.cells #[.int .i64 op, .string t, .int .i64 k] 67)).alloc (by simp) (.cells #[.int .i64 p, .slice a s.length cap, .int .i64 st, .int .i64 l, .bool false, .int .i64 0, .string ⟨#[]⟩, .bool false, .string ⟨#[]⟩, .bool false] 49)).alloc (by first | (simp; done) | (simp; omega)) (.cells #[.int .i64 0, .slice none 0 0, .int .i64 0, .int .i64 0, .bool false, .int .i64 0, .string ⟨#[]⟩, .bool false, .string ⟨#[]⟩, .bool false] 49))
  have R0 := hide ((ten_new (w.alloc (.cells #[.int .i64 op, .string t, .int .i64 k] 67)) (.int .i64 p) (.slice a s.length cap) (.int .i64 st) (.int .i64 l) (.bool false) (.int .i64 0) (.string ⟨#[]⟩) (.bool false) (.string ⟨#[]⟩) (.bool false) 49 (w.heap.size + 1) (by simp)).al (.cells #[.int .i64 0, .slice none 0 0, .int .i64 0, .int .i64 0, .bool false, .int .i64 0, .string ⟨#[]⟩, .bool false, .string ⟨#[]⟩, .bool false] 49))
  have Z0 := hide (ten_new ((w.alloc (.cells #[.int .i64 op, .string t, .int .i64 k] 67)).alloc (.cells #[.int .i64 p, .slice a s.length cap, .int .i64 st, .int .i64 l, .bool false, .int .i64 0, .string ⟨#[]⟩, .bool false, .string ⟨#[]⟩, .bool false] 49)) (.int .i64 0) (.slice none 0 0) (.int .i64 0) (.int .i64 0) (.bool false) (.int .i64 0) (.string ⟨#[]⟩) (.bool false) (.string ⟨#[]⟩) (.bool false) 49 (w.heap.size + 1 + 1) (by simp))
  go_enter Tryd.func30, Tryd.ntmps30
  go_wp2_with fail
  refine (l1NameOk_any nm _).mono ?_
  rintro e w1 ⟨rfl, hB1⟩
  rw [HN.out]
  have R1 := hide (R0.out.below hB1 (by first | (simp; done) | (simp; omega)))
  have Z1 := hide (Z0.out.below hB1 (by simp))
  have B1 := hide (A0.out.trans (hB1.mono (by first | (simp; done) | (simp; omega))))
  have i0 : w1.cell? ⟨w.heap.size, 0, none⟩ = some (.int .i64 op) := (hB1.cell (p := ⟨w.heap.size, 0, none⟩) (by first | (simp; done) | (simp; omega))).trans (box3 _ _ _ _ _ _ _ rfl)
  have O1 := hide (own_below HO.out B1.out (Nat.le_refl _))
  have hz1 : w.heap.size + 1 + 1 < w1.heap.size := Z1.out.1
  clear hB1 A0 R0 Z0 HO HN
  obtain ⟨d0, d1, d2⟩ := (HY.out.below B1.out (Nat.le_refl _)).2 l (by omega)
  rw [hh] at d0
  have hln : (l : Int) < n := by omega
  have hz0 : w.heap.size < w1.heap.size := by omega
  have hz01 : w.heap.size + 1 < w1.heap.size := by omega
  have R2 := hide ((R1.out.set3 (.int .i64 ((l : Int) + 1))).al (.cells #[.bool false, .int .i64 (y l).code, .string (y l).text] 46))
  have Z2 := hide ((Z1.out.other ⟨w.heap.size + 1, 3, none⟩ (.int .i64 ((l : Int) + 1)) (by simp)).al (.cells #[.bool false, .int .i64 (y l).code, .string (y l).text] 46))
  have hne : ∀ k, w.heap.size ≤ k → Value.ownBlock (.slice a s.length cap) ≠ some k := fun k hk e => by have := (HO0.out.lt k e).2; omega
  have O2 := hide ((ownsRow_setCell_other O1.out (a := ⟨w.heap.size + 1, 3, none⟩) (hne _ (by simp)) (.int .i64 ((l : Int) + 1))).alloc (.cells #[.bool false, .int .i64 (y l).code, .string (y l).text] 46))
  have B2 := hide ((B1.out.setCell (p := ⟨w.heap.size + 1, 3, none⟩) (by simp) (.int .i64 ((l : Int) + 1))).alloc (by have := B1.out.size; simpa using this) (.cells #[.bool false, .int .i64 (y l).code, .string (y l).text] 46))
  have HNE := hide hne
  clear hne
  obtain ⟨chl, ⟨c0, f0⟩, ⟨c1, f1⟩, ⟨c2, f2⟩, ⟨c3, f3⟩, ⟨c4, f4⟩, ⟨c5, f5⟩, ⟨c6, f6⟩, ⟨c7, f7⟩, ⟨c8, f8⟩, c9, f9⟩ := R1.out
  go_wp2_with fail
  refine (l1End_any _ _ _ _ _ _ _ _ _ _ _ _ _ _ _).mono ?_
  rintro e w2 ⟨rfl, hB2⟩
  have ZE := hide (Z2.out.below hB2 Z2.out.1)
  have B3 := hide (B2.out.trans (hB2.mono B2.out.size))
  clear hB2
  clear chl c0 f0 c1 f1 c2 f2 c3 f3 c4 f4 c5 f5 c6 f6 c7 f7 c8 f8 c9 f9
  obtain ⟨zhl, ⟨z0, y0⟩, ⟨z1, y1⟩, ⟨z2, y2⟩, ⟨z3, y3⟩, ⟨z4, y4⟩, ⟨z5, y5⟩, ⟨z6, y6⟩, ⟨z7, y7⟩, ⟨z8, y8⟩, z9, y9⟩ := ZE.out
  go_wp2
  refine bodyPost_ret (v := runV p (.slice a s.length cap) st ((l : Int) + 1) true 4 nm false ⟨#[]⟩ false) (by simp [results, Tryd.results30, go_sem, z0, z1, z2, z3, z4, z5, z6, z7, z8, z9]) rfl ⟨_, rfl, ⟨_, _, _, _, _, rfl⟩, ten_set (B3.out.mono hb) (by omega) _ _ _ _ _ _ _ _ _ _⟩

set_option maxHeartbeats 4000000 in
theorem look_below (op : Nat) (t : ByteArray) (k : Int) (p st l : Nat) (a : Option Addr) (cap : Nat) (s : List ByteArray) (nm pl : ByteArray) (b2 o2 n cap2 base : Nat) (y : Nat → Reply) (w : World)
    (hY : RowReply w b2 o2 n y) (hO : w.ownsRow base 9 1 (.slice a s.length cap) s.length (strs s)) (hb : base ≤ w.heap.size) (hn : nameOk nm = true) (hl : ((l : Int) == 200) = false) (hl2 : l ≤ 200) (hw : l < n) (hop : ((op : Int) == 13) = false) (hh : (y l).has = true) (hc : ((y l).code == 0) = false) :
    Calls Tryd.prog 30 #[.agg #[.int .i64 op, .string t, .int .i64 k], runV p (.slice a s.length cap) st l false 0 ⟨#[]⟩ false ⟨#[]⟩ false, .string nm, .string pl, .slice (some ⟨b2, o2, none⟩) n cap2] w fun e w' => ∃ v, e = .returned v ∧ SoIs w' base v (.inr (.inl (5, nm, st))) ∧ Below base w w' := by
  have HY := hide hY
  have HO := hide hO
  have HN := hide hn
  have HO0 := hide hO
  clear hY hO hn
  have A0 := hide ((((Below.refl w.heap.size w).alloc (Nat.le_refl _) (.cells #[.int .i64 op, .string t, .int .i64 k] 67)).alloc (by simp) (.cells #[.int .i64 p, .slice a s.length cap, .int .i64 st, .int .i64 l, .bool false, .int .i64 0, .string ⟨#[]⟩, .bool false, .string ⟨#[]⟩, .bool false] 49)).alloc (by first | (simp; done) | (simp; omega)) (.cells #[.int .i64 0, .slice none 0 0, .int .i64 0, .int .i64 0, .bool false, .int .i64 0, .string ⟨#[]⟩, .bool false, .string ⟨#[]⟩, .bool false] 49))
  have R0 := hide ((ten_new (w.alloc (.cells #[.int .i64 op, .string t, .int .i64 k] 67)) (.int .i64 p) (.slice a s.length cap) (.int .i64 st) (.int .i64 l) (.bool false) (.int .i64 0) (.string ⟨#[]⟩) (.bool false) (.string ⟨#[]⟩) (.bool false) 49 (w.heap.size + 1) (by simp)).al (.cells #[.int .i64 0, .slice none 0 0, .int .i64 0, .int .i64 0, .bool false, .int .i64 0, .string ⟨#[]⟩, .bool false, .string ⟨#[]⟩, .bool false] 49))
  have Z0 := hide (ten_new ((w.alloc (.cells #[.int .i64 op, .string t, .int .i64 k] 67)).alloc (.cells #[.int .i64 p, .slice a s.length cap, .int .i64 st, .int .i64 l, .bool false, .int .i64 0, .string ⟨#[]⟩, .bool false, .string ⟨#[]⟩, .bool false] 49)) (.int .i64 0) (.slice none 0 0) (.int .i64 0) (.int .i64 0) (.bool false) (.int .i64 0) (.string ⟨#[]⟩) (.bool false) (.string ⟨#[]⟩) (.bool false) 49 (w.heap.size + 1 + 1) (by simp))
  go_enter Tryd.func30, Tryd.ntmps30
  go_wp2_with fail
  refine (l1NameOk_any nm _).mono ?_
  rintro e w1 ⟨rfl, hB1⟩
  rw [HN.out]
  have R1 := hide (R0.out.below hB1 (by first | (simp; done) | (simp; omega)))
  have Z1 := hide (Z0.out.below hB1 (by simp))
  have B1 := hide (A0.out.trans (hB1.mono (by first | (simp; done) | (simp; omega))))
  have i0 : w1.cell? ⟨w.heap.size, 0, none⟩ = some (.int .i64 op) := (hB1.cell (p := ⟨w.heap.size, 0, none⟩) (by first | (simp; done) | (simp; omega))).trans (box3 _ _ _ _ _ _ _ rfl)
  have O1 := hide (own_below HO.out B1.out (Nat.le_refl _))
  have hz1 : w.heap.size + 1 + 1 < w1.heap.size := Z1.out.1
  clear hB1 A0 R0 Z0 HO HN
  obtain ⟨d0, d1, d2⟩ := (HY.out.below B1.out (Nat.le_refl _)).2 l (by omega)
  rw [hh] at d0
  have hln : (l : Int) < n := by omega
  have hz0 : w.heap.size < w1.heap.size := by omega
  have hz01 : w.heap.size + 1 < w1.heap.size := by omega
  have R2 := hide ((R1.out.set3 (.int .i64 ((l : Int) + 1))).al (.cells #[.bool true, .int .i64 (y l).code, .string (y l).text] 46))
  have Z2 := hide ((Z1.out.other ⟨w.heap.size + 1, 3, none⟩ (.int .i64 ((l : Int) + 1)) (by simp)).al (.cells #[.bool true, .int .i64 (y l).code, .string (y l).text] 46))
  have hne : ∀ k, w.heap.size ≤ k → Value.ownBlock (.slice a s.length cap) ≠ some k := fun k hk e => by have := (HO0.out.lt k e).2; omega
  have O2 := hide ((ownsRow_setCell_other O1.out (a := ⟨w.heap.size + 1, 3, none⟩) (hne _ (by simp)) (.int .i64 ((l : Int) + 1))).alloc (.cells #[.bool true, .int .i64 (y l).code, .string (y l).text] 46))
  have B2 := hide ((B1.out.setCell (p := ⟨w.heap.size + 1, 3, none⟩) (by simp) (.int .i64 ((l : Int) + 1))).alloc (by have := B1.out.size; simpa using this) (.cells #[.bool true, .int .i64 (y l).code, .string (y l).text] 46))
  have HNE := hide hne
  clear hne
  obtain ⟨chl, ⟨c0, f0⟩, ⟨c1, f1⟩, ⟨c2, f2⟩, ⟨c3, f3⟩, ⟨c4, f4⟩, ⟨c5, f5⟩, ⟨c6, f6⟩, ⟨c7, f7⟩, ⟨c8, f8⟩, c9, f9⟩ := R1.out
  go_wp2_with fail
  refine (l1End_any _ _ _ _ _ _ _ _ _ _ _ _ _ _ _).mono ?_
  rintro e w2 ⟨rfl, hB2⟩
  have ZE := hide (Z2.out.below hB2 Z2.out.1)
  have B3 := hide (B2.out.trans (hB2.mono B2.out.size))
  clear hB2
  clear chl c0 f0 c1 f1 c2 f2 c3 f3 c4 f4 c5 f5 c6 f6 c7 f7 c8 f8 c9 f9
  obtain ⟨zhl, ⟨z0, y0⟩, ⟨z1, y1⟩, ⟨z2, y2⟩, ⟨z3, y3⟩, ⟨z4, y4⟩, ⟨z5, y5⟩, ⟨z6, y6⟩, ⟨z7, y7⟩, ⟨z8, y8⟩, z9, y9⟩ := ZE.out
  go_wp2
  refine bodyPost_ret (v := runV p (.slice a s.length cap) st ((l : Int) + 1) true 5 nm false ⟨#[]⟩ false) (by simp [results, Tryd.results30, go_sem, z0, z1, z2, z3, z4, z5, z6, z7, z8, z9]) rfl ⟨_, rfl, ⟨_, _, _, _, _, rfl⟩, ten_set (B3.out.mono hb) (by omega) _ _ _ _ _ _ _ _ _ _⟩

end Go.Proofs.YtfhdecheaeoopaaDoor.Vp

/-
  spec: l1Look, where it puts. Written by tools/spec.py.
-/
namespace Go.Proofs.YtfhdecheaeoopaaDoor.Vp
open Go.RowKit

set_option maxRecDepth 1000000 in
set_option maxHeartbeats 4000000 in
theorem look_has (op : Nat) (t : ByteArray) (k : Int) (p st l : Nat) (a : Option Addr) (cap : Nat) (s : List ByteArray) (nm pl : ByteArray) (b2 o2 n cap2 base : Nat) (y : Nat → Reply) (w : World)
    (hY : RowReply w b2 o2 n y) (hO : w.ownsRow base 9 1 (.slice a s.length cap) s.length (strs s)) (hb : base ≤ w.heap.size) (hn : nameOk nm = true) (hl : ((l : Int) == 200) = false) (hl2 : l ≤ 200) (hw : l < n) (hop : ((op : Int) == 13) = true) (hs : s.length ≤ 50) :
    Calls Tryd.prog 30 #[.agg #[.int .i64 op, .string t, .int .i64 k], runV p (.slice a s.length cap) st l false 0 ⟨#[]⟩ false ⟨#[]⟩ false, .string nm, .string pl, .slice (some ⟨b2, o2, none⟩) n cap2] w fun e w' => ∃ v, e = .returned v ∧ SoIs w' base v (.inl (p, st, (l + 1), (flagT (y l).has :: s))) ∧ Below base w w' := by
  have HY := hide hY
  have HO := hide hO
  have HN := hide hn
  have HO0 := hide hO
  clear hY hO hn
  have A0 := hide ((((Below.refl w.heap.size w).alloc (Nat.le_refl _) (.cells #[.int .i64 op, .string t, .int .i64 k] 67)).alloc (by simp) (.cells #[.int .i64 p, .slice a s.length cap, .int .i64 st, .int .i64 l, .bool false, .int .i64 0, .string ⟨#[]⟩, .bool false, .string ⟨#[]⟩, .bool false] 49)).alloc (by first | (simp; done) | (simp; omega)) (.cells #[.int .i64 0, .slice none 0 0, .int .i64 0, .int .i64 0, .bool false, .int .i64 0, .string ⟨#[]⟩, .bool false, .string ⟨#[]⟩, .bool false] 49))
  have R0 := hide ((ten_new (w.alloc (.cells #[.int .i64 op, .string t, .int .i64 k] 67)) (.int .i64 p) (.slice a s.length cap) (.int .i64 st) (.int .i64 l) (.bool false) (.int .i64 0) (.string ⟨#[]⟩) (.bool false) (.string ⟨#[]⟩) (.bool false) 49 (w.heap.size + 1) (by simp)).al (.cells #[.int .i64 0, .slice none 0 0, .int .i64 0, .int .i64 0, .bool false, .int .i64 0, .string ⟨#[]⟩, .bool false, .string ⟨#[]⟩, .bool false] 49))
  have Z0 := hide (ten_new ((w.alloc (.cells #[.int .i64 op, .string t, .int .i64 k] 67)).alloc (.cells #[.int .i64 p, .slice a s.length cap, .int .i64 st, .int .i64 l, .bool false, .int .i64 0, .string ⟨#[]⟩, .bool false, .string ⟨#[]⟩, .bool false] 49)) (.int .i64 0) (.slice none 0 0) (.int .i64 0) (.int .i64 0) (.bool false) (.int .i64 0) (.string ⟨#[]⟩) (.bool false) (.string ⟨#[]⟩) (.bool false) 49 (w.heap.size + 1 + 1) (by simp))
  go_enter Tryd.func30, Tryd.ntmps30
  go_wp2_with fail
  refine (l1NameOk_any nm _).mono ?_
  rintro e w1 ⟨rfl, hB1⟩
  rw [HN.out]
  have R1 := hide (R0.out.below hB1 (by first | (simp; done) | (simp; omega)))
  have Z1 := hide (Z0.out.below hB1 (by simp))
  have B1 := hide (A0.out.trans (hB1.mono (by first | (simp; done) | (simp; omega))))
  have i0 : w1.cell? ⟨w.heap.size, 0, none⟩ = some (.int .i64 op) := (hB1.cell (p := ⟨w.heap.size, 0, none⟩) (by first | (simp; done) | (simp; omega))).trans (box3 _ _ _ _ _ _ _ rfl)
  have O1 := hide (own_below HO.out B1.out (Nat.le_refl _))
  have hz1 : w.heap.size + 1 + 1 < w1.heap.size := Z1.out.1
  clear hB1 A0 R0 Z0 HO HN
  obtain ⟨d0, d1, d2⟩ := (HY.out.below B1.out (Nat.le_refl _)).2 l (by omega)
  have hln : (l : Int) < n := by omega
  have hz0 : w.heap.size < w1.heap.size := by omega
  have hz01 : w.heap.size + 1 < w1.heap.size := by omega
  have R2 := hide ((R1.out.set3 (.int .i64 ((l : Int) + 1))).al (.cells #[.bool (y l).has, .int .i64 (y l).code, .string (y l).text] 46))
  have Z2 := hide ((Z1.out.other ⟨w.heap.size + 1, 3, none⟩ (.int .i64 ((l : Int) + 1)) (by simp)).al (.cells #[.bool (y l).has, .int .i64 (y l).code, .string (y l).text] 46))
  have hne : ∀ k, w.heap.size ≤ k → Value.ownBlock (.slice a s.length cap) ≠ some k := fun k hk e => by have := (HO0.out.lt k e).2; omega
  have O2 := hide ((ownsRow_setCell_other O1.out (a := ⟨w.heap.size + 1, 3, none⟩) (hne _ (by simp)) (.int .i64 ((l : Int) + 1))).alloc (.cells #[.bool (y l).has, .int .i64 (y l).code, .string (y l).text] 46))
  have B2 := hide ((B1.out.setCell (p := ⟨w.heap.size + 1, 3, none⟩) (by simp) (.int .i64 ((l : Int) + 1))).alloc (by have := B1.out.size; simpa using this) (.cells #[.bool (y l).has, .int .i64 (y l).code, .string (y l).text] 46))
  have hWz : w1.heap.size < ((w1.setCell ⟨w.heap.size + 1, 3, none⟩ (.int .i64 ((l : Int) + 1))).alloc (.cells #[.bool (y l).has, .int .i64 (y l).code, .string (y l).text] 46)).heap.size := by simp
  have g0 : ((w1.setCell ⟨w.heap.size + 1, 3, none⟩ (.int .i64 ((l : Int) + 1))).alloc (.cells #[.bool (y l).has, .int .i64 (y l).code, .string (y l).text] 46)).cell? ⟨w1.heap.size, 0, none⟩ = some (.bool (y l).has) := box1 _ _ _ _ _ _ (by simp) rfl
  have g2 : ((w1.setCell ⟨w.heap.size + 1, 3, none⟩ (.int .i64 ((l : Int) + 1))).alloc (.cells #[.bool (y l).has, .int .i64 (y l).code, .string (y l).text] 46)).cell? ⟨w1.heap.size, 2, none⟩ = some (.string (y l).text) := box1 _ _ _ _ _ _ (by simp) rfl
  have HNE := hide hne
  clear hne
  obtain ⟨i0', hi, hy0, hy1, hy2⟩ := info_parts infoString
  obtain ⟨chl, ⟨c0, f0⟩, ⟨c1, f1⟩, ⟨c2, f2⟩, ⟨c3, f3⟩, ⟨c4, f4⟩, ⟨c5, f5⟩, ⟨c6, f6⟩, ⟨c7, f7⟩, ⟨c8, f8⟩, c9, f9⟩ := R1.out
  go_wp2_with fail
  clear chl c0 f0 c1 f1 c2 f2 c3 f3 c4 f4 c5 f5 c6 f6 c7 f7 c8 f8 c9 f9
  generalize ((w1.setCell ⟨w.heap.size + 1, 3, none⟩ (.int .i64 ((l : Int) + 1))).alloc (.cells #[.bool (y l).has, .int .i64 (y l).code, .string (y l).text] 46)) = W at R2 Z2 O2 B2 hWz g0 g2 ⊢
  have hbW : base ≤ W.heap.size := Nat.le_trans hb B2.out.size
  obtain ⟨chl, ⟨c0, f0⟩, ⟨c1, f1⟩, ⟨c2, f2⟩, ⟨c3, f3⟩, ⟨c4, f4⟩, ⟨c5, f5⟩, ⟨c6, f6⟩, ⟨c7, f7⟩, ⟨c8, f8⟩, c9, f9⟩ := R2.out
  go_region_law (first | (refine step_append_own rfl (.tmp 49) (.tmp 53) 47 rfl base 9 i0' (.string ⟨#[]⟩) 1 16 Tryd.underlying47 hi hy0 hy1 hy2 rfl (by decide) (.slice a s.length cap) s.length (strs s) (by simp [Act.eval]) (by first | exact O2.out.alloc _ | exact O2.out.drew.alloc _ | exact O2.out.drew.drew.alloc _) ⟨W.heap.size, 0, none⟩ 1 1 [.string (flagT (y l).has)] (by simp [Act.eval]) rfl (by first | exact one_new W _ _ | exact one_new W.drew _ _ | exact one_new W.drew.drew _ _) (by simp [Value.oneCell']) (by unfold maxLen; omega) (by omega) (by first | (simp; done) | (simp; omega)) ?_; intro v' w2 hown hgrow hnil; obtain ⟨gg, cc, rfl⟩ := own_form hown (by omega); (first | have R3 := hide ((R2.out.al _).grown hgrow (fun e => HNE.out _ (by omega) e.symm)) | have R3 := hide ((R2.out.drew.al _).grown hgrow (fun e => HNE.out _ (by omega) e.symm)) | have R3 := hide ((R2.out.drew.drew.al _).grown hgrow (fun e => HNE.out _ (by omega) e.symm))); (first | have Z3 := hide ((Z2.out.al _).grown hgrow (fun e => HNE.out _ (by omega) e.symm)) | have Z3 := hide ((Z2.out.drew.al _).grown hgrow (fun e => HNE.out _ (by omega) e.symm)) | have Z3 := hide ((Z2.out.drew.drew.al _).grown hgrow (fun e => HNE.out _ (by omega) e.symm))); (first | have B3 := hide (Below.grown (Below.alloc ((B2.out.mono hb)) (by first | exact hbW | (simp; exact hbW)) _) hgrow (by first | (simp; done) | (simp; omega)) (fun k e => (O2.out.lt k e).1)) | have B3 := hide (Below.grown (Below.alloc ((B2.out.mono hb).drew) (by first | exact hbW | (simp; exact hbW)) _) hgrow (by first | (simp; done) | (simp; omega)) (fun k e => (O2.out.lt k e).1)) | have B3 := hide (Below.grown (Below.alloc ((B2.out.mono hb).drew.drew) (by first | exact hbW | (simp; exact hbW)) _) hgrow (by first | (simp; done) | (simp; omega)) (fun k e => (O2.out.lt k e).1))); obtain ⟨khl, ⟨k0, m0⟩, ⟨k1, m1⟩, ⟨k2, m2⟩, ⟨k3, m3⟩, ⟨k4, m4⟩, ⟨k5, m5⟩, ⟨k6, m6⟩, ⟨k7, m7⟩, ⟨k8, m8⟩, k9, m9⟩ := R3.out) | (go_simp; go_at_call 41; refine (l1Flag_any _ _).mono ?_; rintro e w9 ⟨rfl, hw9⟩; subst hw9))
  all_goals
    have Y := hide (strs_at (x := (flagT (y l).has)) (s := s))
    have ne1 := own_ne hown Y.out.choose_spec R3.out.2.1.1
    have ne2 := own_ne hown Y.out.choose_spec Z3.out.2.1.1
    have OWN := hide (ten_own hown ne1 (.slice (some ⟨gg, 0, none⟩) (s.length + 1) cc) 1)
    have ZE := hide (Z3.out.other ⟨w.heap.size + 1, 1, none⟩ (.slice (some ⟨gg, 0, none⟩) (s.length + 1) cc) (by simp))
    have B4 := hide (B3.out.setCell (p := ⟨w.heap.size + 1, 1, none⟩) (by simp; omega) (.slice (some ⟨gg, 0, none⟩) (s.length + 1) cc))
    clear hown hgrow hnil ne1
    obtain ⟨zhl, ⟨z0, y0⟩, ⟨z1, y1⟩, ⟨z2, y2⟩, ⟨z3, y3⟩, ⟨z4, y4⟩, ⟨z5, y5⟩, ⟨z6, y6⟩, ⟨z7, y7⟩, ⟨z8, y8⟩, z9, y9⟩ := Z3.out
    go_wp2
    refine bodyPost_ret (v := runV p (.slice (some ⟨gg, 0, none⟩) (s.length + 1) cc) st ((l : Int) + 1) false 0 ⟨#[]⟩ false ⟨#[]⟩ false) (by simp [results, Tryd.results30, go_sem, z0, z1, z2, z3, z4, z5, z6, z7, z8, z9]) rfl ⟨_, rfl, ⟨some ⟨gg, 0, none⟩, cc, by simp, ?_⟩, ten_set B4.out (by omega) _ _ _ _ _ _ _ _ _ _⟩
    rw [strs_cons]
    exact ten_owns OWN.out ne2 _ _ _ _ _ _ _ _ _ _

end Go.Proofs.YtfhdecheaeoopaaDoor.Vp

/-
  spec: l1Look, where it puts a text. Written by tools/spec.py.
-/
namespace Go.Proofs.YtfhdecheaeoopaaDoor.Vp
open Go.RowKit

set_option maxRecDepth 1000000 in
set_option maxHeartbeats 4000000 in
theorem look_text (op : Nat) (t : ByteArray) (k : Int) (p st l : Nat) (a : Option Addr) (cap : Nat) (s : List ByteArray) (nm pl : ByteArray) (b2 o2 n cap2 base : Nat) (y : Nat → Reply) (w : World)
    (hY : RowReply w b2 o2 n y) (hO : w.ownsRow base 9 1 (.slice a s.length cap) s.length (strs s)) (hb : base ≤ w.heap.size) (hn : nameOk nm = true) (hl : ((l : Int) == 200) = false) (hl2 : l ≤ 200) (hw : l < n) (hop : ((op : Int) == 13) = false) (hh : (y l).has = true) (hc : (y l).code = 0) (hs : s.length ≤ 50) :
    Calls Tryd.prog 30 #[.agg #[.int .i64 op, .string t, .int .i64 k], runV p (.slice a s.length cap) st l false 0 ⟨#[]⟩ false ⟨#[]⟩ false, .string nm, .string pl, .slice (some ⟨b2, o2, none⟩) n cap2] w fun e w' => ∃ v, e = .returned v ∧ SoIs w' base v (.inl (p, st, (l + 1), ((y l).text :: s))) ∧ Below base w w' := by
  have HY := hide hY
  have HO := hide hO
  have HN := hide hn
  have HO0 := hide hO
  clear hY hO hn
  have A0 := hide ((((Below.refl w.heap.size w).alloc (Nat.le_refl _) (.cells #[.int .i64 op, .string t, .int .i64 k] 67)).alloc (by simp) (.cells #[.int .i64 p, .slice a s.length cap, .int .i64 st, .int .i64 l, .bool false, .int .i64 0, .string ⟨#[]⟩, .bool false, .string ⟨#[]⟩, .bool false] 49)).alloc (by first | (simp; done) | (simp; omega)) (.cells #[.int .i64 0, .slice none 0 0, .int .i64 0, .int .i64 0, .bool false, .int .i64 0, .string ⟨#[]⟩, .bool false, .string ⟨#[]⟩, .bool false] 49))
  have R0 := hide ((ten_new (w.alloc (.cells #[.int .i64 op, .string t, .int .i64 k] 67)) (.int .i64 p) (.slice a s.length cap) (.int .i64 st) (.int .i64 l) (.bool false) (.int .i64 0) (.string ⟨#[]⟩) (.bool false) (.string ⟨#[]⟩) (.bool false) 49 (w.heap.size + 1) (by simp)).al (.cells #[.int .i64 0, .slice none 0 0, .int .i64 0, .int .i64 0, .bool false, .int .i64 0, .string ⟨#[]⟩, .bool false, .string ⟨#[]⟩, .bool false] 49))
  have Z0 := hide (ten_new ((w.alloc (.cells #[.int .i64 op, .string t, .int .i64 k] 67)).alloc (.cells #[.int .i64 p, .slice a s.length cap, .int .i64 st, .int .i64 l, .bool false, .int .i64 0, .string ⟨#[]⟩, .bool false, .string ⟨#[]⟩, .bool false] 49)) (.int .i64 0) (.slice none 0 0) (.int .i64 0) (.int .i64 0) (.bool false) (.int .i64 0) (.string ⟨#[]⟩) (.bool false) (.string ⟨#[]⟩) (.bool false) 49 (w.heap.size + 1 + 1) (by simp))
  go_enter Tryd.func30, Tryd.ntmps30
  go_wp2_with fail
  refine (l1NameOk_any nm _).mono ?_
  rintro e w1 ⟨rfl, hB1⟩
  rw [HN.out]
  have R1 := hide (R0.out.below hB1 (by first | (simp; done) | (simp; omega)))
  have Z1 := hide (Z0.out.below hB1 (by simp))
  have B1 := hide (A0.out.trans (hB1.mono (by first | (simp; done) | (simp; omega))))
  have i0 : w1.cell? ⟨w.heap.size, 0, none⟩ = some (.int .i64 op) := (hB1.cell (p := ⟨w.heap.size, 0, none⟩) (by first | (simp; done) | (simp; omega))).trans (box3 _ _ _ _ _ _ _ rfl)
  have O1 := hide (own_below HO.out B1.out (Nat.le_refl _))
  have hz1 : w.heap.size + 1 + 1 < w1.heap.size := Z1.out.1
  clear hB1 A0 R0 Z0 HO HN
  obtain ⟨d0, d1, d2⟩ := (HY.out.below B1.out (Nat.le_refl _)).2 l (by omega)
  rw [hh] at d0
  rw [hc] at d1
  have hln : (l : Int) < n := by omega
  have hz0 : w.heap.size < w1.heap.size := by omega
  have hz01 : w.heap.size + 1 < w1.heap.size := by omega
  have R2 := hide ((R1.out.set3 (.int .i64 ((l : Int) + 1))).al (.cells #[.bool true, .int .i64 0, .string (y l).text] 46))
  have Z2 := hide ((Z1.out.other ⟨w.heap.size + 1, 3, none⟩ (.int .i64 ((l : Int) + 1)) (by simp)).al (.cells #[.bool true, .int .i64 0, .string (y l).text] 46))
  have hne : ∀ k, w.heap.size ≤ k → Value.ownBlock (.slice a s.length cap) ≠ some k := fun k hk e => by have := (HO0.out.lt k e).2; omega
  have O2 := hide ((ownsRow_setCell_other O1.out (a := ⟨w.heap.size + 1, 3, none⟩) (hne _ (by simp)) (.int .i64 ((l : Int) + 1))).alloc (.cells #[.bool true, .int .i64 0, .string (y l).text] 46))
  have B2 := hide ((B1.out.setCell (p := ⟨w.heap.size + 1, 3, none⟩) (by simp) (.int .i64 ((l : Int) + 1))).alloc (by have := B1.out.size; simpa using this) (.cells #[.bool true, .int .i64 0, .string (y l).text] 46))
  have hWz : w1.heap.size < ((w1.setCell ⟨w.heap.size + 1, 3, none⟩ (.int .i64 ((l : Int) + 1))).alloc (.cells #[.bool true, .int .i64 0, .string (y l).text] 46)).heap.size := by simp
  have hWe : ((w1.setCell ⟨w.heap.size + 1, 3, none⟩ (.int .i64 ((l : Int) + 1))).alloc (.cells #[.bool true, .int .i64 0, .string (y l).text] 46)).heap.size = w1.heap.size + 1 := by simp
  have g0 : ((w1.setCell ⟨w.heap.size + 1, 3, none⟩ (.int .i64 ((l : Int) + 1))).alloc (.cells #[.bool true, .int .i64 0, .string (y l).text] 46)).cell? ⟨w1.heap.size, 0, none⟩ = some (.bool true) := box1 _ _ _ _ _ _ (by simp) rfl
  have g2 : ((w1.setCell ⟨w.heap.size + 1, 3, none⟩ (.int .i64 ((l : Int) + 1))).alloc (.cells #[.bool true, .int .i64 0, .string (y l).text] 46)).cell? ⟨w1.heap.size, 2, none⟩ = some (.string (y l).text) := box1 _ _ _ _ _ _ (by simp) rfl
  have HNE := hide hne
  clear hne
  obtain ⟨i0', hi, hy0, hy1, hy2⟩ := info_parts infoString
  obtain ⟨chl, ⟨c0, f0⟩, ⟨c1, f1⟩, ⟨c2, f2⟩, ⟨c3, f3⟩, ⟨c4, f4⟩, ⟨c5, f5⟩, ⟨c6, f6⟩, ⟨c7, f7⟩, ⟨c8, f8⟩, c9, f9⟩ := R1.out
  go_wp2_with (at_builtin; generalize ((w1.setCell ⟨w.heap.size + 1, 3, none⟩ (.int .i64 ((l : Int) + 1))).alloc (.cells #[.bool true, .int .i64 0, .string (y l).text] 46)) = W at R2 Z2 O2 B2 hWz hWe g0 g2 ⊢; have hbW : base ≤ W.heap.size := Nat.le_trans hb B2.out.size; refine wpList_append_own _ rfl (.tmp 70) (.tmp 73) 47 rfl base 9 i0' (.string ⟨#[]⟩) 1 16 Tryd.underlying47 hi hy0 hy1 hy2 rfl (by decide) (.slice a s.length cap) s.length (strs s) (by simp [Act.eval]) (by first | exact O2.out.alloc _ | exact O2.out.drew.alloc _ | exact O2.out.drew.drew.alloc _) ⟨w1.heap.size + 1, 0, none⟩ 1 1 [.string (y l).text] (by simp [Act.eval]) rfl (by rw [← hWe]; exact one_new W _ _) (by simp [Value.oneCell']) (by unfold maxLen; omega) (by omega) (by first | (simp; done) | (simp; omega)) ?_; intro v' w2 hown hgrow hnil; obtain ⟨gg, cc, rfl⟩ := own_form hown (by omega); (first | have R3 := hide ((R2.out.al _).grown hgrow (fun e => HNE.out _ (by omega) e.symm)) | have R3 := hide ((R2.out.drew.al _).grown hgrow (fun e => HNE.out _ (by omega) e.symm)) | have R3 := hide ((R2.out.drew.drew.al _).grown hgrow (fun e => HNE.out _ (by omega) e.symm))); (first | have Z3 := hide ((Z2.out.al _).grown hgrow (fun e => HNE.out _ (by omega) e.symm)) | have Z3 := hide ((Z2.out.drew.al _).grown hgrow (fun e => HNE.out _ (by omega) e.symm)) | have Z3 := hide ((Z2.out.drew.drew.al _).grown hgrow (fun e => HNE.out _ (by omega) e.symm))); (first | have B3 := hide (Below.grown (Below.alloc ((B2.out.mono hb)) (by first | exact hbW | (simp; exact hbW)) _) hgrow (by first | (simp; done) | (simp; omega)) (fun k e => (O2.out.lt k e).1)) | have B3 := hide (Below.grown (Below.alloc ((B2.out.mono hb).drew) (by first | exact hbW | (simp; exact hbW)) _) hgrow (by first | (simp; done) | (simp; omega)) (fun k e => (O2.out.lt k e).1)) | have B3 := hide (Below.grown (Below.alloc ((B2.out.mono hb).drew.drew) (by first | exact hbW | (simp; exact hbW)) _) hgrow (by first | (simp; done) | (simp; omega)) (fun k e => (O2.out.lt k e).1))); obtain ⟨khl, ⟨k0, m0⟩, ⟨k1, m1⟩, ⟨k2, m2⟩, ⟨k3, m3⟩, ⟨k4, m4⟩, ⟨k5, m5⟩, ⟨k6, m6⟩, ⟨k7, m7⟩, ⟨k8, m8⟩, k9, m9⟩ := R3.out; obtain ⟨zhl, ⟨z0, y0⟩, ⟨z1, y1⟩, ⟨z2, y2⟩, ⟨z3, y3⟩, ⟨z4, y4⟩, ⟨z5, y5⟩, ⟨z6, y6⟩, ⟨z7, y7⟩, ⟨z8, y8⟩, z9, y9⟩ := Z3.out)
  all_goals
    have Y := hide (strs_at (x := (y l).text) (s := s))
    have ne1 := own_ne hown Y.out.choose_spec R3.out.2.1.1
    have ne2 := own_ne hown Y.out.choose_spec Z3.out.2.1.1
    have OWN := hide (ten_own hown ne1 (.slice (some ⟨gg, 0, none⟩) (s.length + 1) cc) 1)
    have ZE := hide (Z3.out.other ⟨w.heap.size + 1, 1, none⟩ (.slice (some ⟨gg, 0, none⟩) (s.length + 1) cc) (by simp))
    have B4 := hide (B3.out.setCell (p := ⟨w.heap.size + 1, 1, none⟩) (by simp; omega) (.slice (some ⟨gg, 0, none⟩) (s.length + 1) cc))
    clear hown hgrow hnil ne1
    refine bodyPost_ret (v := runV p (.slice (some ⟨gg, 0, none⟩) (s.length + 1) cc) st ((l : Int) + 1) false 0 ⟨#[]⟩ false ⟨#[]⟩ false) (by simp [results, Tryd.results30, go_sem, z0, z1, z2, z3, z4, z5, z6, z7, z8, z9]) rfl ⟨_, rfl, ⟨some ⟨gg, 0, none⟩, cc, by simp, ?_⟩, ten_set B4.out (by omega) _ _ _ _ _ _ _ _ _ _⟩
    rw [strs_cons]
    exact ten_owns OWN.out ne2 _ _ _ _ _ _ _ _ _ _

end Go.Proofs.YtfhdecheaeoopaaDoor.Vp
