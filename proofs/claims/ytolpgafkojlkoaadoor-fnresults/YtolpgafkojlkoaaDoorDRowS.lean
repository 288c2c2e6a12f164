/-
  Data: rows of texts.
-/
import Derived.Test.YtolpgafkojlkoaaDoorDBase
namespace Go.Proofs.YtolpgafkojlkoaaDoor.Vp
open Go.RowKit

/-- A row of n texts in block b, from off on. -/
def RowStr (w : World) (b off n : Nat) (f : Nat → ByteArray) : Prop := b < w.heap.size ∧ ∀ i, i < n → w.cell? ⟨b, off + i, none⟩ = some (.string (f i))
theorem RowStr.below {w w' : World} {B b off n : Nat} {f : Nat → ByteArray} (h : RowStr w b off n f) (hb : Below B w w') (hB : w.heap.size ≤ B) : RowStr w' b off n f :=
  ⟨Nat.lt_of_lt_of_le h.1 hb.size, fun i hi => (hb.cell (p := ⟨b, _, none⟩) (Nat.lt_of_lt_of_le h.1 hB)).trans (h.2 i hi)⟩
theorem RowStr.low {w w' : World} {B b off n : Nat} {f : Nat → ByteArray} (h : RowStr w b off n f) (hb : Below B w w') (hB : b < B) : RowStr w' b off n f :=
  ⟨Nat.lt_of_lt_of_le h.1 hb.size, fun i hi => (hb.cell (p := ⟨b, _, none⟩) hB).trans (h.2 i hi)⟩
theorem RowStr.setOther {w : World} {g n off : Nat} {f : Nat → ByteArray} (h : RowStr w g off n f) (p : Addr) (hp : p.block ≠ g) (v : Value) : RowStr (w.setCell p v) g off n f :=
  ⟨by simpa using h.1, fun i hi => (World.cell?_of_block (w := w) (a := ⟨g, off + i, none⟩) (Below.heap_setCell w p v g (fun e => hp e.symm))).trans (h.2 i hi)⟩
def SlStr (w : World) (a : Option Addr) (n : Nat) (f : Nat → ByteArray) : Prop := n = 0 ∨ ∃ b off, a = some ⟨b, off, none⟩ ∧ RowStr w b off n f
theorem SlStr.below {w w' : World} {B : Nat} {a : Option Addr} {n : Nat} {f : Nat → ByteArray} (h : SlStr w a n f) (hb : Below B w w') (hB : w.heap.size ≤ B) : SlStr w' a n f := by
  rcases h with h | ⟨b, off, hv, hr⟩
  · exact .inl h
  · exact .inr ⟨b, off, hv, hr.below hb hB⟩
theorem RowStr.sl {w : World} {b off n : Nat} {f : Nat → ByteArray} (h : RowStr w b off n f) : SlStr w (some ⟨b, off, none⟩) n f := .inr ⟨b, off, rfl, h⟩
theorem infoString : (Tryd.prog.info? 9).map (fun i => (i.zero, i.size, i.bytes)) = some (some (.string ⟨#[]⟩), 1, 16) := by kernel_rfl

end Go.Proofs.YtolpgafkojlkoaaDoor.Vp
