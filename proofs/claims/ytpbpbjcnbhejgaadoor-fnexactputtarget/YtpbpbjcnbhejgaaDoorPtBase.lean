/-
  PutTarget: what it answers; the boxes at its entry.
-/
import Derived.Test.YtpbpbjcnbhejgaaDoorPsImpl
import Derived.Test.YtpbpbjcnbhejgaaDoorPtPure
import Derived.Test.YtpbpbjcnbhejgaaDoorInTarget
namespace Go.Proofs.YtpbpbjcnbhejgaaDoor.Vp
open Go.RowKit

def putTS (n0 : Nat) (f0 : Nat → Source) (n1 : Nat) (f1 : Nat → Target) (t : ByteArray) (m : Nat) (fp : Nat → Ins) : List Source := if roomC n0 f0 n1 f1 t (valid fp m) = 0 then keepS f0 t n0 else []
def putTT (n0 : Nat) (f0 : Nat → Source) (n1 : Nat) (f1 : Nat → Target) (t : ByteArray) (m : Nat) (fp : Nat → Ins) : List Target := if roomC n0 f0 n1 f1 t (valid fp m) = 0 then insT (keepT f1 t n1) ⟨t, m, fp⟩ t else []

/-- Three boxes: a space, a program, the answer. -/
structure Trio (w : World) (h : Nat) (p0 p1 p2 : Value) : Prop where
  lt : h + 2 < w.heap.size
  a0 : w.cell? ⟨h, 0, none⟩ = some p0
  a1 : w.cell? ⟨h, 1, none⟩ = some p1
  b0 : w.cell? ⟨h + 1, 0, none⟩ = some p2
  r0 : w.cell? ⟨h + 2, 0, none⟩ = some (.slice none 0 0) ∧ w.frozen? ⟨h + 2, 0, none⟩ = false
  r1 : w.cell? ⟨h + 2, 1, none⟩ = some (.slice none 0 0) ∧ w.frozen? ⟨h + 2, 1, none⟩ = false
theorem Trio.below {w w' : World} {h B : Nat} {p0 p1 p2 : Value} (b : Trio w h p0 p1 p2) (hb : Below B w w') (hB : h + 3 ≤ B) : Trio w' h p0 p1 p2 := by
  have c : ∀ k o, k < B → w'.cell? ⟨k, o, none⟩ = w.cell? ⟨k, o, none⟩ := fun k o hk => hb.cell (p := ⟨k, o, none⟩) hk
  have f : ∀ k o, k < B → w'.frozen? ⟨k, o, none⟩ = w.frozen? ⟨k, o, none⟩ := fun k o hk => hb.frozen (p := ⟨k, o, none⟩) hk
  exact ⟨Nat.lt_of_lt_of_le b.lt hb.size, (c _ _ (by omega)).trans b.a0, (c _ _ (by omega)).trans b.a1, (c _ _ (by omega)).trans b.b0, ⟨(c _ _ (by omega)).trans b.r0.1, (f _ _ (by omega)).trans b.r0.2⟩, ⟨(c _ _ (by omega)).trans b.r1.1, (f _ _ (by omega)).trans b.r1.2⟩⟩
theorem trio_new (w : World) (p0 p1 p2 : Value) (t u : TypeId) : Trio (((w.alloc (.cells #[p0, p1] t)).alloc (.cells #[p2] u)).alloc (.cells #[.slice none 0 0, .slice none 0 0] t)) w.heap.size p0 p1 p2 := by
  have A1 : Below (w.heap.size + 1) (w.alloc (.cells #[p0, p1] t)) ((w.alloc (.cells #[p0, p1] t)).alloc (.cells #[p2] u)) := (Below.refl _ _).alloc (by simp) _
  have A2 : Below (w.heap.size + 2) ((w.alloc (.cells #[p0, p1] t)).alloc (.cells #[p2] u)) (((w.alloc (.cells #[p0, p1] t)).alloc (.cells #[p2] u)).alloc (.cells #[.slice none 0 0, .slice none 0 0] t)) := (Below.refl _ _).alloc (by simp) _
  have hz : (w.alloc (.cells #[p0, p1] t)).heap.size = w.heap.size + 1 := by simp
  have hz2 : ((w.alloc (.cells #[p0, p1] t)).alloc (.cells #[p2] u)).heap.size = w.heap.size + 2 := by simp
  refine ⟨by simp, ?_, ?_, ?_, ⟨?_, ?_⟩, ⟨?_, ?_⟩⟩
  · exact (A2.cell (p := ⟨w.heap.size, 0, none⟩) (by simp)).trans ((A1.cell (p := ⟨w.heap.size, 0, none⟩) (by simp)).trans (by simp))
  · exact (A2.cell (p := ⟨w.heap.size, 1, none⟩) (by simp)).trans ((A1.cell (p := ⟨w.heap.size, 1, none⟩) (by simp)).trans (by simp))
  · refine (A2.cell (p := ⟨w.heap.size + 1, 0, none⟩) (by simp)).trans ?_
    rw [← hz]
    clear A1 A2 hz hz2
    generalize w.alloc (.cells #[p0, p1] t) = W
    simp
  all_goals
    rw [← hz2]
    clear A1 A2 hz hz2
    generalize (w.alloc (.cells #[p0, p1] t)).alloc (.cells #[p2] u) = W
    simp

end Go.Proofs.YtpbpbjcnbhejgaaDoor.Vp
