/-
  Small facts that all data texts use.
-/
import Derived.Test.YtolpgafkojlkoaaDoorProg
import Derived.WalkKit
import Derived.WalkSpells
import Derived.WalkLawsBesides
import Derived.Deep.OwnRows
import Derived.Deep.RegionWith
import Derived.Deep.QuietTactic
import Derived.BigQuiet
namespace Go.Proofs.YtolpgafkojlkoaaDoor.Vp
open Go.RowKit

theorem hide {p : Prop} (h : p) : Hid p := h
/-- a list in an array, written into. -/
theorem nzL {α : Type} : (∀ (l : List α) (i : Nat) (a : α), l.toArray.setIfInBounds i a = (l.set i a).toArray) ∧ (∀ (a b : α) (l : List α), (a :: l).set 0 b = b :: l) ∧ ∀ (a b : α) (l : List α) (i : Nat), (a :: l).set (i + 1) b = a :: l.set i b :=
  ⟨fun _ _ _ => List.setIfInBounds_toArray .., fun _ _ _ => rfl, fun _ _ _ _ => rfl⟩
theorem bcell {W w1 : World} (hb : Below W.heap.size W w1) : (∀ b o, b < W.heap.size → w1.cell? ⟨b, o, none⟩ = W.cell? ⟨b, o, none⟩) ∧ (∀ b o, b < W.heap.size → w1.frozen? ⟨b, o, none⟩ = W.frozen? ⟨b, o, none⟩) :=
  ⟨fun b o h => hb.cell (p := ⟨b, o, none⟩) h, fun b o h => hb.frozen (p := ⟨b, o, none⟩) h⟩
theorem cell_far (w : World) (p a : Addr) (v : Value) (h : p.block ≠ a.block) : (w.setCell p v).cell? a = w.cell? a :=
  World.cell?_of_block (w := w) (a := a) (Below.heap_setCell w p v a.block (fun e => h e.symm))
theorem ret_bool {a b : Bool} (h : a = b) : Ending.returned (.bool a) = .returned (.bool b) := by rw [h]
theorem ret_str {a b : ByteArray} (h : a = b) : Ending.returned (.string a) = .returned (.string b) := by rw [h]
theorem empty_of_size {s : ByteArray} (h : s.size = 0) : s = ⟨#[]⟩ := by
  obtain ⟨a⟩ := s
  have : a.size = 0 := h
  rw [Array.eq_empty_of_size_eq_zero this]
theorem toList_ne {s : ByteArray} (h : ¬ s.size = 0) : ¬ s.toList = [] := by
  intro e
  have h2 : s.toList.length = s.size := by rw [ByteArray.toList_eq]; rfl
  rw [e] at h2
  simp at h2
  omega

theorem nb1 {w W : World} {c : Array Value} {s : TypeId} (h : w.alloc (.cells c s) = W) : Hid (Below w.heap.size w W) ∧ Hid (W.heap[w.heap.size]? = some (.cells c s (0, 0))) ∧ W.heap.size = w.heap.size + 1 := by
  subst h
  exact ⟨(Below.refl w.heap.size w).alloc (Nat.le_refl _) _, heap_alloc_new w _, by simp⟩
theorem nb2 {w W : World} {c d : Array Value} {s t : TypeId} (h : (w.alloc (.cells c s)).alloc (.cells d t) = W) : Hid (Below w.heap.size w W) ∧ Hid (W.heap[w.heap.size]? = some (.cells c s (0, 0))) ∧ Hid (W.heap[w.heap.size + 1]? = some (.cells d t (0, 0))) ∧ W.heap.size = w.heap.size + 2 := by
  obtain ⟨A, K, z⟩ := nb1 (w := w) (c := c) (s := s) rfl
  obtain ⟨B, J, y⟩ := nb1 h
  rw [z] at B J y
  exact ⟨Below.trans A.out (B.out.mono (by omega)), (B.out.block _ (by omega)).trans K.out, J, y⟩
theorem nb3 {w W : World} {c d f : Array Value} {s t u : TypeId} (h : ((w.alloc (.cells c s)).alloc (.cells d t)).alloc (.cells f u) = W) : Hid (Below w.heap.size w W) ∧ Hid (W.heap[w.heap.size]? = some (.cells c s (0, 0))) ∧ Hid (W.heap[w.heap.size + 1]? = some (.cells d t (0, 0))) ∧ Hid (W.heap[w.heap.size + 2]? = some (.cells f u (0, 0))) ∧ W.heap.size = w.heap.size + 3 := by
  obtain ⟨A, K, L, z⟩ := nb2 (w := w) (c := c) (d := d) (s := s) (t := t) rfl
  obtain ⟨B, J, y⟩ := nb1 h
  rw [z] at B J y
  exact ⟨Below.trans A.out (B.out.mono (by omega)), (B.out.block _ (by omega)).trans K.out, (B.out.block _ (by omega)).trans L.out, J, y⟩
theorem al3 {P : Nat → Prop} (h : ∀ j, P j) : P 0 ∧ P 1 ∧ P 2 := ⟨h 0, h 1, h 2⟩
theorem al6 {P : Nat → Prop} (h : ∀ j, P j) : P 0 ∧ P 1 ∧ P 2 ∧ P 3 ∧ P 4 ∧ P 5 := ⟨h 0, h 1, h 2, h 3, h 4, h 5⟩
theorem bl6 {P : Nat → Prop} (h : ∀ j, j < 6 → P j) : P 0 ∧ P 1 ∧ P 2 ∧ P 3 ∧ P 4 ∧ P 5 := ⟨h 0 (by decide), h 1 (by decide), h 2 (by decide), h 3 (by decide), h 4 (by decide), h 5 (by decide)⟩
end Go.Proofs.YtolpgafkojlkoaaDoor.Vp
