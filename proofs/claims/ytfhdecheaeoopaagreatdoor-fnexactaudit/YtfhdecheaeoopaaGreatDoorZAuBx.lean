/-
  Two boxes that are read: an account's, a space's.
-/
import Derived.Test.YtfhdecheaeoopaaGreatDoorZB
namespace Go.Proofs.YtfhdecheaeoopaaGreatDoor.Vp
open Go.RowKit

/-- An account's box, a space's behind it. -/
structure AuBox (W : World) (b : Nat) (v s0 s1 : Value) : Prop where
  lt : b + 1 < W.heap.size
  c0 : W.cell? ⟨b, 0, none⟩ = some v
  c1 : W.cell? ⟨b + 1, 0, none⟩ = some s0
  c2 : W.cell? ⟨b + 1, 1, none⟩ = some s1
theorem AuBox.below {W W' : World} {b B : Nat} {v s0 s1 : Value} (h : AuBox W b v s0 s1) (hb : Below B W W') (hB : b + 1 < B) : AuBox W' b v s0 s1 :=
  ⟨Nat.lt_of_lt_of_le h.lt hb.size, (hb.cell (p := ⟨b, 0, none⟩) (by show b < B; omega)).trans h.c0, (hb.cell (p := ⟨b + 1, 0, none⟩) hB).trans h.c1, (hb.cell (p := ⟨b + 1, 1, none⟩) hB).trans h.c2⟩
theorem auBox_new (w : World) (v s0 s1 : Value) (t u : TypeId) : AuBox ((w.alloc (.cells #[v] t)).alloc (.cells #[s0, s1] u)) w.heap.size v s0 s1 :=
  ⟨by simp, by simp [go_sem], by simp [go_sem], by simp [go_sem]⟩

end Go.Proofs.YtfhdecheaeoopaaGreatDoor.Vp
