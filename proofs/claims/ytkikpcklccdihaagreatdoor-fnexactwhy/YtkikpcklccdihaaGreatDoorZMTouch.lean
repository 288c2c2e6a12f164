/-
  What marking leaves.
-/
import Derived.Test.YtkikpcklccdihaaGreatDoorZDMark
namespace Go.Proofs.YtkikpcklccdihaaGreatDoor.Vp
open Go.RowKit

/-- Blocks that are none of P's stand as they stood. -/
structure Touch (P : Nat → Prop) (w w' : World) : Prop where
  os : w'.os = w.os
  tape : w'.tape = w.tape
  output : w'.output = w.output
  size : w.heap.size ≤ w'.heap.size
  block : ∀ k, k < w.heap.size → ¬ P k → w'.heap[k]? = w.heap[k]?
theorem Touch.refl (P : Nat → Prop) (w : World) : Touch P w w := ⟨rfl, rfl, rfl, Nat.le_refl _, fun _ _ _ => rfl⟩
theorem Touch.trans {P : Nat → Prop} {a b c : World} (h : Touch P a b) (k : Touch P b c) : Touch P a c :=
  ⟨k.os.trans h.os, k.tape.trans h.tape, k.output.trans h.output, Nat.le_trans h.size k.size, fun i hi ho => (k.block i (Nat.lt_of_lt_of_le hi h.size) ho).trans (h.block i hi ho)⟩
theorem Touch.of_below {P : Nat → Prop} {B : Nat} {w w' : World} (h : Below B w w') (hB : w.heap.size ≤ B) : Touch P w w' :=
  ⟨h.os, h.tape, h.output, h.size, fun i hi _ => h.block i (Nat.lt_of_lt_of_le hi hB)⟩
theorem Touch.below {P : Nat → Prop} {B : Nat} {a w w' : World} (h : Touch P a w) (hb : Below B w w') (hB : w.heap.size ≤ B) : Touch P a w' := h.trans (Touch.of_below hb hB)
theorem Touch.setCell {P : Nat → Prop} {a w : World} (h : Touch P a w) {p : Addr} (hp : P p.block) (v : Value) : Touch P a (w.setCell p v) :=
  h.trans ⟨rfl, rfl, rfl, by simp [World.setCell], fun k _ ho => Below.heap_setCell _ _ _ _ (fun e => ho (e ▸ hp))⟩
theorem Touch.of_within {P : Nat → Prop} {b : Nat} {w w' : World} (h : Within b (b + 1) w w') (hb : P b) : Touch P w w' :=
  ⟨h.os, h.tape, h.output, h.size, fun k hk ho => h.block k hk (by rcases Nat.lt_trichotomy k b with c | c | c; exact .inl c; exact absurd (c ▸ hb) ho; exact .inr c)⟩
theorem Touch.mono {P Q : Nat → Prop} {w w' : World} (h : Touch P w w') (hPQ : ∀ k, P k → Q k) : Touch Q w w' :=
  ⟨h.os, h.tape, h.output, h.size, fun k hk ho => h.block k hk (fun hp => ho (hPQ k hp))⟩
theorem Cells.touch {w w' : World} {b off m : Nat} {F : Nat → Value} {P : Nat → Prop} (h : Cells w b off m F) (hw : Touch P w w') (hb : ¬ P b) : Cells w' b off m F := by
  have e := hw.block b h.1 hb
  exact ⟨Nat.lt_of_lt_of_le h.1 hw.size, fun j hj => ⟨(World.cell?_of_block (a := ⟨b, off + j, none⟩) e).trans (h.2 j hj).1, (World.frozen?_of_block (a := ⟨b, off + j, none⟩) e).trans (h.2 j hj).2⟩⟩

/-- A row of m cells, or none. -/
def Room (w : World) (p : Option Addr) (n b m : Nat) : Prop := n = 0 ∨ (p = some ⟨b, 0, none⟩ ∧ ∃ G, Cells w b 0 m G)
theorem Touch.toBelow {P : Nat → Prop} {w w' : World} {B : Nat} (h : Touch P w w') (hP : ∀ x, P x → B ≤ x) (hB : B ≤ w.heap.size) : Below B w w' :=
  ⟨h.os, h.tape, h.output, h.size, fun k hk => h.block k (by omega) (fun hp => by have := hP k hp; omega)⟩
theorem Touch.cell {P : Nat → Prop} {w w' : World} (h : Touch P w w') {p : Addr} (hl : p.block < w.heap.size) (hp : ¬ P p.block) : w'.cell? p = w.cell? p := World.cell?_of_block (h.block p.block hl hp)

end Go.Proofs.YtkikpcklccdihaaGreatDoor.Vp
