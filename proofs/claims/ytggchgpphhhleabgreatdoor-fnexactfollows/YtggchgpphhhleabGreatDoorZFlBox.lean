/-
  Turns in boxes.
-/
import Derived.Test.YtggchgpphhhleabGreatDoorZFlGoOn
import Derived.Test.YtggchgpphhhleabGreatDoorZFlReply
import Derived.Test.YtggchgpphhhleabGreatDoorZDePure
namespace Go.Proofs.YtggchgpphhhleabGreatDoor.Vp
open Go.RowKit

/-- the machine's turn is that of the run. -/
theorem stands_turn {f : Nat → Ins} {cnt i : Nat} {y : Nat → Reply} {m : Mst} {H : Halt} (hS : Stands m H) (hL : looksOf i H) : contP f cnt y i H = m.t := by
  cases H with
  | over c x k => exact (show m.t = ⟨true, c, x, false, ⟨#[]⟩, k⟩ from hS).symm
  | look a nm s p k l =>
    have el : l = i + 1 := hL
    subst el
    simp only [contP, Nat.add_sub_cancel]
    rw [if_pos (Nat.le_refl _)]
    exact hS.1.symm
theorem stands_look {m : Mst} {H : Halt} (hS : Stands m H) (ho : m.t.over = false) : ∃ a nm s p k l, H = .look a nm s p k l := by
  cases H with
  | over c x k =>
    have : m.t = ⟨true, c, x, false, ⟨#[]⟩, k⟩ := hS
    rw [this] at ho
    simp at ho
  | look a nm s p k l => exact ⟨a, nm, s, p, k, l, rfl⟩
/-- Six cells that hold a turn and may be written. -/
def TurnBox (w : World) (g : Nat) (t : Turn) : Prop := g < w.heap.size ∧ (w.cell? ⟨g, 0, none⟩ = some (.bool t.over) ∧ w.cell? ⟨g, 1, none⟩ = some (.int .i64 t.code) ∧ w.cell? ⟨g, 2, none⟩ = some (.string t.text) ∧ w.cell? ⟨g, 3, none⟩ = some (.bool t.ask) ∧ w.cell? ⟨g, 4, none⟩ = some (.string t.name) ∧ w.cell? ⟨g, 5, none⟩ = some (.int .i64 t.steps)) ∧ ∀ j, w.frozen? ⟨g, j, none⟩ = false
theorem TurnBox.below {w w' : World} {g B : Nat} {t : Turn} (h : TurnBox w g t) (hb : Below B w w') (hB : g < B) : TurnBox w' g t := by
  obtain ⟨h1, ⟨c0, c1, c2, c3, c4, c5⟩, hz⟩ := h
  exact ⟨Nat.lt_of_lt_of_le h1 hb.size, ⟨(hb.cell (p := ⟨g, _, none⟩) hB).trans c0, (hb.cell (p := ⟨g, _, none⟩) hB).trans c1, (hb.cell (p := ⟨g, _, none⟩) hB).trans c2, (hb.cell (p := ⟨g, _, none⟩) hB).trans c3, (hb.cell (p := ⟨g, _, none⟩) hB).trans c4, (hb.cell (p := ⟨g, _, none⟩) hB).trans c5⟩, fun j => (hb.frozen (p := ⟨g, j, none⟩) hB).trans (hz j)⟩
theorem TurnBox.only {w w' : World} {g b : Nat} {t : Turn} (h : TurnBox w g t) (ho : Only b w w') (hg : g ≠ b) : TurnBox w' g t := by
  obtain ⟨h1, ⟨c0, c1, c2, c3, c4, c5⟩, hz⟩ := h
  exact ⟨Nat.lt_of_lt_of_le h1 ho.size, ⟨(ho.cell g _ h1 hg).trans c0, (ho.cell g _ h1 hg).trans c1, (ho.cell g _ h1 hg).trans c2, (ho.cell g _ h1 hg).trans c3, (ho.cell g _ h1 hg).trans c4, (ho.cell g _ h1 hg).trans c5⟩, fun j => (ho.frozen g j h1 hg).trans (hz j)⟩
theorem turn_box (w : World) (t : Turn) (ty : TypeId) : TurnBox (w.alloc (.cells #[.bool t.over, .int .i64 t.code, .string t.text, .bool t.ask, .string t.name, .int .i64 t.steps] ty)) w.heap.size t :=
  ⟨by simp, ⟨by simp, by simp, by simp, by simp, by simp, by simp⟩, fun j => by simp⟩
theorem TurnBox.six {w : World} {g : Nat} {t : Turn} (h : TurnBox w g t) : Six w g := by
  obtain ⟨h1, ⟨c0, c1, c2, c3, c4, c5⟩, hz⟩ := h
  refine ⟨h1, fun j hj => ?_⟩
  rcases (show j = 0 ∨ j = 1 ∨ j = 2 ∨ j = 3 ∨ j = 4 ∨ j = 5 by omega) with rfl | rfl | rfl | rfl | rfl | rfl
  · exact ⟨_, c0, hz _⟩
  · exact ⟨_, c1, hz _⟩
  · exact ⟨_, c2, hz _⟩
  · exact ⟨_, c3, hz _⟩
  · exact ⟨_, c4, hz _⟩
  · exact ⟨_, c5, hz _⟩
/-- a turn stored into six cells. -/
def putTurn (w : World) (g : Nat) (t : Turn) : World := (((((w.setCell ⟨g, 0, none⟩ (.bool t.over)).setCell ⟨g, 1, none⟩ (.int .i64 t.code)).setCell ⟨g, 2, none⟩ (.string t.text)).setCell ⟨g, 3, none⟩ (.bool t.ask)).setCell ⟨g, 4, none⟩ (.string t.name)).setCell ⟨g, 5, none⟩ (.int .i64 t.steps)
theorem set_box {w : World} {g : Nat} {u : Turn} (t : Turn) (h : TurnBox w g u) : TurnBox (putTurn w g t) g t := by
  obtain ⟨h1, ⟨c0, c1, c2, c3, c4, c5⟩, hz⟩ := h
  refine ⟨by simpa [putTurn] using h1, ⟨?_, ?_, ?_, ?_, ?_, ?_⟩, fun j => by simpa [putTurn] using hz j⟩
  all_goals simp [putTurn, go_sem, c0, c1, c2, c3, c4, c5]
theorem set_only {w : World} {g : Nat} (t : Turn) : Only g w (putTurn w g t) := bset (bset (bset (bset (bset (bset (Only.refl g w) 0 _) 1 _) 2 _) 3 _) 4 _) 5 _
theorem MAt.boxed {w : World} {b : Nat} {cv : Value} {m : Mst} (h : MAt w b cv m) {g : Nat} (hg : g ≠ b) (t : Turn) : MAt (putTurn w g t) b cv m :=
  (((((h.other g 0 (.bool t.over) hg).other g 1 (.int .i64 t.code) hg).other g 2 (.string t.text) hg).other g 3 (.bool t.ask) hg).other g 4 (.string t.name) hg).other g 5 (.int .i64 t.steps) hg

end Go.Proofs.YtggchgpphhhleabGreatDoor.Vp
