/-
  Ten cells in a row; what a step of the specification leaves. Written by tools/spec.py.
-/
import Derived.Test.YtoaokmdhbagniaaDoorNxPlain
import Derived.OneCell
namespace Go.Proofs.YtoaokmdhbagniaaDoor.Vp
open Go.RowKit

def Ten (w : World) (g : Nat) (v0 v1 v2 v3 v4 v5 v6 v7 v8 v9 : Value) : Prop := g < w.heap.size ∧ (w.cell? ⟨g, 0, none⟩ = some v0 ∧ w.frozen? ⟨g, 0, none⟩ = false) ∧ (w.cell? ⟨g, 1, none⟩ = some v1 ∧ w.frozen? ⟨g, 1, none⟩ = false) ∧ (w.cell? ⟨g, 2, none⟩ = some v2 ∧ w.frozen? ⟨g, 2, none⟩ = false) ∧ (w.cell? ⟨g, 3, none⟩ = some v3 ∧ w.frozen? ⟨g, 3, none⟩ = false) ∧ (w.cell? ⟨g, 4, none⟩ = some v4 ∧ w.frozen? ⟨g, 4, none⟩ = false) ∧ (w.cell? ⟨g, 5, none⟩ = some v5 ∧ w.frozen? ⟨g, 5, none⟩ = false) ∧ (w.cell? ⟨g, 6, none⟩ = some v6 ∧ w.frozen? ⟨g, 6, none⟩ = false) ∧ (w.cell? ⟨g, 7, none⟩ = some v7 ∧ w.frozen? ⟨g, 7, none⟩ = false) ∧ (w.cell? ⟨g, 8, none⟩ = some v8 ∧ w.frozen? ⟨g, 8, none⟩ = false) ∧ (w.cell? ⟨g, 9, none⟩ = some v9 ∧ w.frozen? ⟨g, 9, none⟩ = false)
theorem Ten.of_block {w w' : World} {g : Nat} {v0 v1 v2 v3 v4 v5 v6 v7 v8 v9 : Value} (h : Ten w g v0 v1 v2 v3 v4 v5 v6 v7 v8 v9) (hz : w.heap.size ≤ w'.heap.size) (hb : w'.heap[g]? = w.heap[g]?) : Ten w' g v0 v1 v2 v3 v4 v5 v6 v7 v8 v9 := by
  obtain ⟨hl, ⟨p0, q0⟩, ⟨p1, q1⟩, ⟨p2, q2⟩, ⟨p3, q3⟩, ⟨p4, q4⟩, ⟨p5, q5⟩, ⟨p6, q6⟩, ⟨p7, q7⟩, ⟨p8, q8⟩, p9, q9⟩ := h
  have hc : ∀ o, w'.cell? ⟨g, o, none⟩ = w.cell? ⟨g, o, none⟩ := fun o => World.cell?_of_block (a := ⟨g, o, none⟩) hb
  have hf : ∀ o, w'.frozen? ⟨g, o, none⟩ = w.frozen? ⟨g, o, none⟩ := fun o => World.frozen?_of_block (a := ⟨g, o, none⟩) hb
  exact ⟨Nat.lt_of_lt_of_le hl hz, ⟨(hc 0).trans p0, (hf 0).trans q0⟩, ⟨(hc 1).trans p1, (hf 1).trans q1⟩, ⟨(hc 2).trans p2, (hf 2).trans q2⟩, ⟨(hc 3).trans p3, (hf 3).trans q3⟩, ⟨(hc 4).trans p4, (hf 4).trans q4⟩, ⟨(hc 5).trans p5, (hf 5).trans q5⟩, ⟨(hc 6).trans p6, (hf 6).trans q6⟩, ⟨(hc 7).trans p7, (hf 7).trans q7⟩, ⟨(hc 8).trans p8, (hf 8).trans q8⟩, ⟨(hc 9).trans p9, (hf 9).trans q9⟩⟩
theorem Ten.below {w w' : World} {B g : Nat} {v0 v1 v2 v3 v4 v5 v6 v7 v8 v9 : Value} (h : Ten w g v0 v1 v2 v3 v4 v5 v6 v7 v8 v9) (hb : Below B w w') (hg : g < B) : Ten w' g v0 v1 v2 v3 v4 v5 v6 v7 v8 v9 := h.of_block hb.size (hb.block g hg)
theorem Ten.grown {w w' : World} {g : Nat} {row : Option Nat} {v0 v1 v2 v3 v4 v5 v6 v7 v8 v9 : Value} (h : Ten w g v0 v1 v2 v3 v4 v5 v6 v7 v8 v9) (hb : w.grownBy w' row) (hg : some g ≠ row) : Ten w' g v0 v1 v2 v3 v4 v5 v6 v7 v8 v9 := h.of_block hb.size (hb.block g h.1 hg)
theorem Ten.al {w : World} {g : Nat} {v0 v1 v2 v3 v4 v5 v6 v7 v8 v9 : Value} (h : Ten w g v0 v1 v2 v3 v4 v5 v6 v7 v8 v9) (o : Obj) : Ten (w.alloc o) g v0 v1 v2 v3 v4 v5 v6 v7 v8 v9 := h.below ((Below.refl w.heap.size w).alloc (Nat.le_refl _) o) h.1
theorem Ten.other {w : World} {g : Nat} {v0 v1 v2 v3 v4 v5 v6 v7 v8 v9 : Value} (h : Ten w g v0 v1 v2 v3 v4 v5 v6 v7 v8 v9) (p : Addr) (u : Value) (hp : p.block ≠ g) : Ten (w.setCell p u) g v0 v1 v2 v3 v4 v5 v6 v7 v8 v9 := h.of_block (by simp) (Below.heap_setCell w p u g (fun e => hp e.symm))
theorem Ten.drew {w : World} {g : Nat} {v0 v1 v2 v3 v4 v5 v6 v7 v8 v9 : Value} (h : Ten w g v0 v1 v2 v3 v4 v5 v6 v7 v8 v9) : Ten w.drew g v0 v1 v2 v3 v4 v5 v6 v7 v8 v9 := h
theorem ten_new (w : World) (v0 v1 v2 v3 v4 v5 v6 v7 v8 v9 : Value) (t : TypeId) (g : Nat) (hg : g = w.heap.size) : Ten (w.alloc (.cells #[v0, v1, v2, v3, v4, v5, v6, v7, v8, v9] t)) g v0 v1 v2 v3 v4 v5 v6 v7 v8 v9 := by
  subst hg
  exact ⟨by simp, ⟨by simp, by simp⟩, ⟨by simp, by simp⟩, ⟨by simp, by simp⟩, ⟨by simp, by simp⟩, ⟨by simp, by simp⟩, ⟨by simp, by simp⟩, ⟨by simp, by simp⟩, ⟨by simp, by simp⟩, ⟨by simp, by simp⟩, ⟨by simp, by simp⟩⟩
theorem Ten.set0 {w : World} {g : Nat} {v0 v1 v2 v3 v4 v5 v6 v7 v8 v9 : Value} (h : Ten w g v0 v1 v2 v3 v4 v5 v6 v7 v8 v9) (u : Value) : Ten (w.setCell ⟨g, 0, none⟩ u) g u v1 v2 v3 v4 v5 v6 v7 v8 v9 := by
  obtain ⟨hl, ⟨p0, q0⟩, ⟨p1, q1⟩, ⟨p2, q2⟩, ⟨p3, q3⟩, ⟨p4, q4⟩, ⟨p5, q5⟩, ⟨p6, q6⟩, ⟨p7, q7⟩, ⟨p8, q8⟩, p9, q9⟩ := h
  exact ⟨by simpa using hl, ⟨(World.cell?_setCell_same' _ _ _ (by rw [p0]; rfl)), by simpa using q0⟩, ⟨(World.cell?_setCell_other _ _ _ _ (by simp)).trans p1, by simpa using q1⟩, ⟨(World.cell?_setCell_other _ _ _ _ (by simp)).trans p2, by simpa using q2⟩, ⟨(World.cell?_setCell_other _ _ _ _ (by simp)).trans p3, by simpa using q3⟩, ⟨(World.cell?_setCell_other _ _ _ _ (by simp)).trans p4, by simpa using q4⟩, ⟨(World.cell?_setCell_other _ _ _ _ (by simp)).trans p5, by simpa using q5⟩, ⟨(World.cell?_setCell_other _ _ _ _ (by simp)).trans p6, by simpa using q6⟩, ⟨(World.cell?_setCell_other _ _ _ _ (by simp)).trans p7, by simpa using q7⟩, ⟨(World.cell?_setCell_other _ _ _ _ (by simp)).trans p8, by simpa using q8⟩, ⟨(World.cell?_setCell_other _ _ _ _ (by simp)).trans p9, by simpa using q9⟩⟩
theorem Ten.set1 {w : World} {g : Nat} {v0 v1 v2 v3 v4 v5 v6 v7 v8 v9 : Value} (h : Ten w g v0 v1 v2 v3 v4 v5 v6 v7 v8 v9) (u : Value) : Ten (w.setCell ⟨g, 1, none⟩ u) g v0 u v2 v3 v4 v5 v6 v7 v8 v9 := by
  obtain ⟨hl, ⟨p0, q0⟩, ⟨p1, q1⟩, ⟨p2, q2⟩, ⟨p3, q3⟩, ⟨p4, q4⟩, ⟨p5, q5⟩, ⟨p6, q6⟩, ⟨p7, q7⟩, ⟨p8, q8⟩, p9, q9⟩ := h
  exact ⟨by simpa using hl, ⟨(World.cell?_setCell_other _ _ _ _ (by simp)).trans p0, by simpa using q0⟩, ⟨(World.cell?_setCell_same' _ _ _ (by rw [p1]; rfl)), by simpa using q1⟩, ⟨(World.cell?_setCell_other _ _ _ _ (by simp)).trans p2, by simpa using q2⟩, ⟨(World.cell?_setCell_other _ _ _ _ (by simp)).trans p3, by simpa using q3⟩, ⟨(World.cell?_setCell_other _ _ _ _ (by simp)).trans p4, by simpa using q4⟩, ⟨(World.cell?_setCell_other _ _ _ _ (by simp)).trans p5, by simpa using q5⟩, ⟨(World.cell?_setCell_other _ _ _ _ (by simp)).trans p6, by simpa using q6⟩, ⟨(World.cell?_setCell_other _ _ _ _ (by simp)).trans p7, by simpa using q7⟩, ⟨(World.cell?_setCell_other _ _ _ _ (by simp)).trans p8, by simpa using q8⟩, ⟨(World.cell?_setCell_other _ _ _ _ (by simp)).trans p9, by simpa using q9⟩⟩
theorem Ten.set2 {w : World} {g : Nat} {v0 v1 v2 v3 v4 v5 v6 v7 v8 v9 : Value} (h : Ten w g v0 v1 v2 v3 v4 v5 v6 v7 v8 v9) (u : Value) : Ten (w.setCell ⟨g, 2, none⟩ u) g v0 v1 u v3 v4 v5 v6 v7 v8 v9 := by
  obtain ⟨hl, ⟨p0, q0⟩, ⟨p1, q1⟩, ⟨p2, q2⟩, ⟨p3, q3⟩, ⟨p4, q4⟩, ⟨p5, q5⟩, ⟨p6, q6⟩, ⟨p7, q7⟩, ⟨p8, q8⟩, p9, q9⟩ := h
  exact ⟨by simpa using hl, ⟨(World.cell?_setCell_other _ _ _ _ (by simp)).trans p0, by simpa using q0⟩, ⟨(World.cell?_setCell_other _ _ _ _ (by simp)).trans p1, by simpa using q1⟩, ⟨(World.cell?_setCell_same' _ _ _ (by rw [p2]; rfl)), by simpa using q2⟩, ⟨(World.cell?_setCell_other _ _ _ _ (by simp)).trans p3, by simpa using q3⟩, ⟨(World.cell?_setCell_other _ _ _ _ (by simp)).trans p4, by simpa using q4⟩, ⟨(World.cell?_setCell_other _ _ _ _ (by simp)).trans p5, by simpa using q5⟩, ⟨(World.cell?_setCell_other _ _ _ _ (by simp)).trans p6, by simpa using q6⟩, ⟨(World.cell?_setCell_other _ _ _ _ (by simp)).trans p7, by simpa using q7⟩, ⟨(World.cell?_setCell_other _ _ _ _ (by simp)).trans p8, by simpa using q8⟩, ⟨(World.cell?_setCell_other _ _ _ _ (by simp)).trans p9, by simpa using q9⟩⟩
theorem Ten.set3 {w : World} {g : Nat} {v0 v1 v2 v3 v4 v5 v6 v7 v8 v9 : Value} (h : Ten w g v0 v1 v2 v3 v4 v5 v6 v7 v8 v9) (u : Value) : Ten (w.setCell ⟨g, 3, none⟩ u) g v0 v1 v2 u v4 v5 v6 v7 v8 v9 := by
  obtain ⟨hl, ⟨p0, q0⟩, ⟨p1, q1⟩, ⟨p2, q2⟩, ⟨p3, q3⟩, ⟨p4, q4⟩, ⟨p5, q5⟩, ⟨p6, q6⟩, ⟨p7, q7⟩, ⟨p8, q8⟩, p9, q9⟩ := h
  exact ⟨by simpa using hl, ⟨(World.cell?_setCell_other _ _ _ _ (by simp)).trans p0, by simpa using q0⟩, ⟨(World.cell?_setCell_other _ _ _ _ (by simp)).trans p1, by simpa using q1⟩, ⟨(World.cell?_setCell_other _ _ _ _ (by simp)).trans p2, by simpa using q2⟩, ⟨(World.cell?_setCell_same' _ _ _ (by rw [p3]; rfl)), by simpa using q3⟩, ⟨(World.cell?_setCell_other _ _ _ _ (by simp)).trans p4, by simpa using q4⟩, ⟨(World.cell?_setCell_other _ _ _ _ (by simp)).trans p5, by simpa using q5⟩, ⟨(World.cell?_setCell_other _ _ _ _ (by simp)).trans p6, by simpa using q6⟩, ⟨(World.cell?_setCell_other _ _ _ _ (by simp)).trans p7, by simpa using q7⟩, ⟨(World.cell?_setCell_other _ _ _ _ (by simp)).trans p8, by simpa using q8⟩, ⟨(World.cell?_setCell_other _ _ _ _ (by simp)).trans p9, by simpa using q9⟩⟩
theorem Ten.set4 {w : World} {g : Nat} {v0 v1 v2 v3 v4 v5 v6 v7 v8 v9 : Value} (h : Ten w g v0 v1 v2 v3 v4 v5 v6 v7 v8 v9) (u : Value) : Ten (w.setCell ⟨g, 4, none⟩ u) g v0 v1 v2 v3 u v5 v6 v7 v8 v9 := by
  obtain ⟨hl, ⟨p0, q0⟩, ⟨p1, q1⟩, ⟨p2, q2⟩, ⟨p3, q3⟩, ⟨p4, q4⟩, ⟨p5, q5⟩, ⟨p6, q6⟩, ⟨p7, q7⟩, ⟨p8, q8⟩, p9, q9⟩ := h
  exact ⟨by simpa using hl, ⟨(World.cell?_setCell_other _ _ _ _ (by simp)).trans p0, by simpa using q0⟩, ⟨(World.cell?_setCell_other _ _ _ _ (by simp)).trans p1, by simpa using q1⟩, ⟨(World.cell?_setCell_other _ _ _ _ (by simp)).trans p2, by simpa using q2⟩, ⟨(World.cell?_setCell_other _ _ _ _ (by simp)).trans p3, by simpa using q3⟩, ⟨(World.cell?_setCell_same' _ _ _ (by rw [p4]; rfl)), by simpa using q4⟩, ⟨(World.cell?_setCell_other _ _ _ _ (by simp)).trans p5, by simpa using q5⟩, ⟨(World.cell?_setCell_other _ _ _ _ (by simp)).trans p6, by simpa using q6⟩, ⟨(World.cell?_setCell_other _ _ _ _ (by simp)).trans p7, by simpa using q7⟩, ⟨(World.cell?_setCell_other _ _ _ _ (by simp)).trans p8, by simpa using q8⟩, ⟨(World.cell?_setCell_other _ _ _ _ (by simp)).trans p9, by simpa using q9⟩⟩
theorem Ten.set5 {w : World} {g : Nat} {v0 v1 v2 v3 v4 v5 v6 v7 v8 v9 : Value} (h : Ten w g v0 v1 v2 v3 v4 v5 v6 v7 v8 v9) (u : Value) : Ten (w.setCell ⟨g, 5, none⟩ u) g v0 v1 v2 v3 v4 u v6 v7 v8 v9 := by
  obtain ⟨hl, ⟨p0, q0⟩, ⟨p1, q1⟩, ⟨p2, q2⟩, ⟨p3, q3⟩, ⟨p4, q4⟩, ⟨p5, q5⟩, ⟨p6, q6⟩, ⟨p7, q7⟩, ⟨p8, q8⟩, p9, q9⟩ := h
  exact ⟨by simpa using hl, ⟨(World.cell?_setCell_other _ _ _ _ (by simp)).trans p0, by simpa using q0⟩, ⟨(World.cell?_setCell_other _ _ _ _ (by simp)).trans p1, by simpa using q1⟩, ⟨(World.cell?_setCell_other _ _ _ _ (by simp)).trans p2, by simpa using q2⟩, ⟨(World.cell?_setCell_other _ _ _ _ (by simp)).trans p3, by simpa using q3⟩, ⟨(World.cell?_setCell_other _ _ _ _ (by simp)).trans p4, by simpa using q4⟩, ⟨(World.cell?_setCell_same' _ _ _ (by rw [p5]; rfl)), by simpa using q5⟩, ⟨(World.cell?_setCell_other _ _ _ _ (by simp)).trans p6, by simpa using q6⟩, ⟨(World.cell?_setCell_other _ _ _ _ (by simp)).trans p7, by simpa using q7⟩, ⟨(World.cell?_setCell_other _ _ _ _ (by simp)).trans p8, by simpa using q8⟩, ⟨(World.cell?_setCell_other _ _ _ _ (by simp)).trans p9, by simpa using q9⟩⟩
theorem Ten.set6 {w : World} {g : Nat} {v0 v1 v2 v3 v4 v5 v6 v7 v8 v9 : Value} (h : Ten w g v0 v1 v2 v3 v4 v5 v6 v7 v8 v9) (u : Value) : Ten (w.setCell ⟨g, 6, none⟩ u) g v0 v1 v2 v3 v4 v5 u v7 v8 v9 := by
  obtain ⟨hl, ⟨p0, q0⟩, ⟨p1, q1⟩, ⟨p2, q2⟩, ⟨p3, q3⟩, ⟨p4, q4⟩, ⟨p5, q5⟩, ⟨p6, q6⟩, ⟨p7, q7⟩, ⟨p8, q8⟩, p9, q9⟩ := h
  exact ⟨by simpa using hl, ⟨(World.cell?_setCell_other _ _ _ _ (by simp)).trans p0, by simpa using q0⟩, ⟨(World.cell?_setCell_other _ _ _ _ (by simp)).trans p1, by simpa using q1⟩, ⟨(World.cell?_setCell_other _ _ _ _ (by simp)).trans p2, by simpa using q2⟩, ⟨(World.cell?_setCell_other _ _ _ _ (by simp)).trans p3, by simpa using q3⟩, ⟨(World.cell?_setCell_other _ _ _ _ (by simp)).trans p4, by simpa using q4⟩, ⟨(World.cell?_setCell_other _ _ _ _ (by simp)).trans p5, by simpa using q5⟩, ⟨(World.cell?_setCell_same' _ _ _ (by rw [p6]; rfl)), by simpa using q6⟩, ⟨(World.cell?_setCell_other _ _ _ _ (by simp)).trans p7, by simpa using q7⟩, ⟨(World.cell?_setCell_other _ _ _ _ (by simp)).trans p8, by simpa using q8⟩, ⟨(World.cell?_setCell_other _ _ _ _ (by simp)).trans p9, by simpa using q9⟩⟩
theorem Ten.set7 {w : World} {g : Nat} {v0 v1 v2 v3 v4 v5 v6 v7 v8 v9 : Value} (h : Ten w g v0 v1 v2 v3 v4 v5 v6 v7 v8 v9) (u : Value) : Ten (w.setCell ⟨g, 7, none⟩ u) g v0 v1 v2 v3 v4 v5 v6 u v8 v9 := by
  obtain ⟨hl, ⟨p0, q0⟩, ⟨p1, q1⟩, ⟨p2, q2⟩, ⟨p3, q3⟩, ⟨p4, q4⟩, ⟨p5, q5⟩, ⟨p6, q6⟩, ⟨p7, q7⟩, ⟨p8, q8⟩, p9, q9⟩ := h
  exact ⟨by simpa using hl, ⟨(World.cell?_setCell_other _ _ _ _ (by simp)).trans p0, by simpa using q0⟩, ⟨(World.cell?_setCell_other _ _ _ _ (by simp)).trans p1, by simpa using q1⟩, ⟨(World.cell?_setCell_other _ _ _ _ (by simp)).trans p2, by simpa using q2⟩, ⟨(World.cell?_setCell_other _ _ _ _ (by simp)).trans p3, by simpa using q3⟩, ⟨(World.cell?_setCell_other _ _ _ _ (by simp)).trans p4, by simpa using q4⟩, ⟨(World.cell?_setCell_other _ _ _ _ (by simp)).trans p5, by simpa using q5⟩, ⟨(World.cell?_setCell_other _ _ _ _ (by simp)).trans p6, by simpa using q6⟩, ⟨(World.cell?_setCell_same' _ _ _ (by rw [p7]; rfl)), by simpa using q7⟩, ⟨(World.cell?_setCell_other _ _ _ _ (by simp)).trans p8, by simpa using q8⟩, ⟨(World.cell?_setCell_other _ _ _ _ (by simp)).trans p9, by simpa using q9⟩⟩
theorem Ten.set8 {w : World} {g : Nat} {v0 v1 v2 v3 v4 v5 v6 v7 v8 v9 : Value} (h : Ten w g v0 v1 v2 v3 v4 v5 v6 v7 v8 v9) (u : Value) : Ten (w.setCell ⟨g, 8, none⟩ u) g v0 v1 v2 v3 v4 v5 v6 v7 u v9 := by
  obtain ⟨hl, ⟨p0, q0⟩, ⟨p1, q1⟩, ⟨p2, q2⟩, ⟨p3, q3⟩, ⟨p4, q4⟩, ⟨p5, q5⟩, ⟨p6, q6⟩, ⟨p7, q7⟩, ⟨p8, q8⟩, p9, q9⟩ := h
  exact ⟨by simpa using hl, ⟨(World.cell?_setCell_other _ _ _ _ (by simp)).trans p0, by simpa using q0⟩, ⟨(World.cell?_setCell_other _ _ _ _ (by simp)).trans p1, by simpa using q1⟩, ⟨(World.cell?_setCell_other _ _ _ _ (by simp)).trans p2, by simpa using q2⟩, ⟨(World.cell?_setCell_other _ _ _ _ (by simp)).trans p3, by simpa using q3⟩, ⟨(World.cell?_setCell_other _ _ _ _ (by simp)).trans p4, by simpa using q4⟩, ⟨(World.cell?_setCell_other _ _ _ _ (by simp)).trans p5, by simpa using q5⟩, ⟨(World.cell?_setCell_other _ _ _ _ (by simp)).trans p6, by simpa using q6⟩, ⟨(World.cell?_setCell_other _ _ _ _ (by simp)).trans p7, by simpa using q7⟩, ⟨(World.cell?_setCell_same' _ _ _ (by rw [p8]; rfl)), by simpa using q8⟩, ⟨(World.cell?_setCell_other _ _ _ _ (by simp)).trans p9, by simpa using q9⟩⟩
theorem Ten.set9 {w : World} {g : Nat} {v0 v1 v2 v3 v4 v5 v6 v7 v8 v9 : Value} (h : Ten w g v0 v1 v2 v3 v4 v5 v6 v7 v8 v9) (u : Value) : Ten (w.setCell ⟨g, 9, none⟩ u) g v0 v1 v2 v3 v4 v5 v6 v7 v8 u := by
  obtain ⟨hl, ⟨p0, q0⟩, ⟨p1, q1⟩, ⟨p2, q2⟩, ⟨p3, q3⟩, ⟨p4, q4⟩, ⟨p5, q5⟩, ⟨p6, q6⟩, ⟨p7, q7⟩, ⟨p8, q8⟩, p9, q9⟩ := h
  exact ⟨by simpa using hl, ⟨(World.cell?_setCell_other _ _ _ _ (by simp)).trans p0, by simpa using q0⟩, ⟨(World.cell?_setCell_other _ _ _ _ (by simp)).trans p1, by simpa using q1⟩, ⟨(World.cell?_setCell_other _ _ _ _ (by simp)).trans p2, by simpa using q2⟩, ⟨(World.cell?_setCell_other _ _ _ _ (by simp)).trans p3, by simpa using q3⟩, ⟨(World.cell?_setCell_other _ _ _ _ (by simp)).trans p4, by simpa using q4⟩, ⟨(World.cell?_setCell_other _ _ _ _ (by simp)).trans p5, by simpa using q5⟩, ⟨(World.cell?_setCell_other _ _ _ _ (by simp)).trans p6, by simpa using q6⟩, ⟨(World.cell?_setCell_other _ _ _ _ (by simp)).trans p7, by simpa using q7⟩, ⟨(World.cell?_setCell_other _ _ _ _ (by simp)).trans p8, by simpa using q8⟩, ⟨(World.cell?_setCell_same' _ _ _ (by rw [p9]; rfl)), by simpa using q9⟩⟩
/-- What is owned stays owned where old blocks stand. -/
theorem own_below {w w' : World} {base B : Nat} {e : TypeId} {size n : Nat} {v : Value} {xs : List Value} (h : w.ownsRow base e size v n xs) (hb : Below B w w') (hB : w.heap.size ≤ B) : w'.ownsRow base e size v n xs :=
  h.kept (row := none) ⟨hb.os, hb.tape, hb.output, hb.size, fun k hk _ => hb.block k (Nat.lt_of_lt_of_le hk hB)⟩ (by cases v.ownBlock <;> simp)
theorem own_mono {w : World} {base base' : Nat} {e : TypeId} {size n : Nat} {v : Value} {xs : List Value} (h : w.ownsRow base e size v n xs) (hb : base' ≤ base) : w.ownsRow base' e size v n xs := by
  refine ⟨h.1, ?_⟩
  rcases h.2 with h | ⟨g, cap, cur, hv, hg, r⟩
  · exact .inl h
  · exact .inr ⟨g, cap, cur, hv, Nat.le_trans hb hg, r⟩
theorem box1 (W : World) (cs : Array Value) (ty : TypeId) (g j : Nat) (v : Value) (hg : g = W.heap.size) (hv : cs[j]? = some v) : (W.alloc (.cells cs ty)).cell? ⟨g, j, none⟩ = some v := by
  subst hg
  simp [hv]
theorem box3 (w : World) (cs : Array Value) (ty : TypeId) (R Z : Obj) (j : Nat) (v : Value) (hv : cs[j]? = some v) : (((w.alloc (.cells cs ty)).alloc R).alloc Z).cell? ⟨w.heap.size, j, none⟩ = some v := by
  rw [(((Below.refl (w.alloc (.cells cs ty)).heap.size _).alloc (Nat.le_refl _) R).alloc (by simp) Z).cell (p := ⟨w.heap.size, j, none⟩) (by simp)]
  simp [hv]

inductive SO where
  | go (place steps looks : Nat) (stk : List ByteArray)
  | over (code : Int) (text : ByteArray) (steps : Nat)
  | wait (ask : Bool) (name : ByteArray) (steps : Nat)
abbrev strs (s : List ByteArray) : List Value := s.reverse.map Value.string
/-- The value v tells this. -/
def SoIs (w : World) (base : Nat) (v : Value) : SO → Prop
  | .go p st l s => ∃ a cap, v = runV p (.slice a s.length cap) st l false 0 ⟨#[]⟩ false ⟨#[]⟩ false ∧ w.ownsRow base 9 1 (.slice a s.length cap) s.length (strs s)
  | .over c x st => ∃ (at_ : Int) (a : Option Addr) (n cap : Nat) (lk : Int), v = runV at_ (.slice a n cap) st lk true c x false ⟨#[]⟩ false
  | .wait ask nm st => ∃ (at_ : Int) (a : Option Addr) (n cap : Nat) (lk : Int), v = runV at_ (.slice a n cap) st lk false 0 ⟨#[]⟩ ask nm true
theorem SoIs.kept {w w' : World} {base base' : Nat} {v : Value} {r : SO} (h : SoIs w base v r) (hb : Below w.heap.size w w') (hl : base' ≤ base) : SoIs w' base' v r := by
  cases r with
  | go p st l s =>
    obtain ⟨a, cap, e, ho⟩ := h
    exact ⟨a, cap, e, own_mono (own_below ho hb (Nat.le_refl _)) hl⟩
  | over c x st => exact h
  | wait ask nm st => exact h

theorem own_ne {w : World} {base : Nat} {e : TypeId} {g k n cap : Nat} {s0 : ByteArray} {i : Int} {xs : List Value} (h : w.ownsRow base e 1 (.slice (some ⟨g, 0, none⟩) n cap) n xs) (hx : xs[0]? = some (.string s0)) (hk : w.cell? ⟨k, 0, none⟩ = some (.int .i64 i)) : k ≠ g := by
  rintro rfl
  have := h.cells (g := k) rfl 0 _ hx
  simp [Addr.add] at this
  rw [hk] at this
  simp at this
theorem own_form {w : World} {base n : Nat} {e : TypeId} {v : Value} {xs : List Value} (h : w.ownsRow base e 1 v n xs) (hn : 0 < n) : ∃ g cap, v = .slice (some ⟨g, 0, none⟩) n cap := by
  rcases h.2 with ⟨_, h0⟩ | ⟨g, cap, cur, hv, _⟩
  · omega
  · exact ⟨g, cap, hv⟩
theorem strs_cons (x : ByteArray) (s : List ByteArray) : strs (x :: s) = strs s ++ [.string x] := by simp [strs]
theorem strs_at {x : ByteArray} {s : List ByteArray} : ∃ s0, (strs s ++ [Value.string x])[0]? = some (.string s0) := by
  rw [← strs_cons]
  simp only [strs, List.getElem?_map, Option.map_eq_some_iff]
  have h : 0 < (x :: s).reverse.length := by simp
  exact ⟨_, _, List.getElem?_eq_getElem h, rfl⟩
theorem ten_own {w : World} {base g n cap : Nat} {e : TypeId} {xs : List Value} (h : w.ownsRow base e 1 (.slice (some ⟨g, 0, none⟩) n cap) n xs) {k : Nat} (hk : k ≠ g) (u : Value) (j : Nat) : (w.setCell ⟨k, j, none⟩ u).ownsRow base e 1 (.slice (some ⟨g, 0, none⟩) n cap) n xs :=
  ownsRow_setCell_other h (by simp [Value.ownBlock]; exact fun e => hk e.symm) u
theorem ten_owns {w : World} {base g n cap : Nat} {e : TypeId} {xs : List Value} (h : w.ownsRow base e 1 (.slice (some ⟨g, 0, none⟩) n cap) n xs) {k : Nat} (hk : k ≠ g) (v0 v1 v2 v3 v4 v5 v6 v7 v8 v9 : Value) : World.ownsRow ((((((((((w.setCell ⟨k, 0, none⟩ v0).setCell ⟨k, 1, none⟩ v1).setCell ⟨k, 2, none⟩ v2).setCell ⟨k, 3, none⟩ v3).setCell ⟨k, 4, none⟩ v4).setCell ⟨k, 5, none⟩ v5).setCell ⟨k, 6, none⟩ v6).setCell ⟨k, 7, none⟩ v7).setCell ⟨k, 8, none⟩ v8).setCell ⟨k, 9, none⟩ v9) base e 1 (.slice (some ⟨g, 0, none⟩) n cap) n xs :=
  ten_own (ten_own (ten_own (ten_own (ten_own (ten_own (ten_own (ten_own (ten_own (ten_own h hk v0 0) hk v1 1) hk v2 2) hk v3 3) hk v4 4) hk v5 5) hk v6 6) hk v7 7) hk v8 8) hk v9 9
/-- A look that has been asked for. -/
def afterLook (y : Nat → Reply) (n : Nat) (a : Bool) (nm : ByteArray) (s : List ByteArray) (p st l : Nat) : SO :=
  if n ≤ l then .wait a nm st else if a = false then .go p st (l + 1) (flagT (y l).has :: s) else if (y l).has = false then .over 4 nm st
  else if (y l).code = 0 then .go p st (l + 1) ((y l).text :: s) else .over 5 nm st

end Go.Proofs.YtoaokmdhbagniaaDoor.Vp
