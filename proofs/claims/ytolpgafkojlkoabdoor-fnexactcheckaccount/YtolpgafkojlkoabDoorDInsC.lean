/-
  Data: Ins: sizes, copies, comparisons. Written by tools/flat.py. Parted by tools/splitd.py; the definitions alone.
-/
import Derived.Test.YtolpgafkojlkoabDoorDBase
namespace Go.Proofs.YtolpgafkojlkoabDoor.Vp
open Go.RowKit

structure Ins where
  op : Int
  s : ByteArray
  n : Int

/-- The cells of element i of a row that begins at off in block b. -/
def AtIns (w : World) (b off i : Nat) (x : Ins) : Prop :=
  w.cell? ⟨b, off + i * 3, none⟩ = some (.int .i64 x.op) ∧ w.cell? ⟨b, off + i * 3 + 1, none⟩ = some (.string x.s) ∧ w.cell? ⟨b, off + i * 3 + 2, none⟩ = some (.int .i64 x.n)
theorem AtIns.below {w w' : World} {B b off i : Nat} {x : Ins} (h : AtIns w b off i x) (hb : Below B w w') (hB : b < B) : AtIns w' b off i x :=
  ⟨(hb.cell (p := ⟨b, _, none⟩) hB).trans h.1, (hb.cell (p := ⟨b, _, none⟩) hB).trans h.2.1, (hb.cell (p := ⟨b, _, none⟩) hB).trans h.2.2⟩
/-- A row of n in block b, from off on. -/
def RowIns (w : World) (b off n : Nat) (f : Nat → Ins) : Prop := b < w.heap.size ∧ ∀ i, i < n → AtIns w b off i (f i)
theorem RowIns.below {w w' : World} {B b off n : Nat} {f : Nat → Ins} (h : RowIns w b off n f) (hb : Below B w w') (hB : w.heap.size ≤ B) : RowIns w' b off n f :=
  ⟨Nat.lt_of_lt_of_le h.1 hb.size, fun i hi => (h.2 i hi).below hb (Nat.lt_of_lt_of_le h.1 hB)⟩
theorem RowIns.setOther {w : World} {g n off : Nat} {f : Nat → Ins} (h : RowIns w g off n f) (p : Addr) (hp : p.block ≠ g) (v : Value) : RowIns (w.setCell p v) g off n f := by
  refine ⟨by simpa using h.1, fun i hi => ?_⟩
  have h := h.2 i hi
  have far : ∀ o, (w.setCell p v).cell? ⟨g, o, none⟩ = w.cell? ⟨g, o, none⟩ := fun o => World.cell?_of_block (w := w) (a := ⟨g, o, none⟩) (Below.heap_setCell w p v g (fun e => hp e.symm))
  exact ⟨(far _).trans h.1, (far _).trans h.2.1, (far _).trans h.2.2⟩
/-- A slice: an empty one, or a row of n. -/
def SlIns (w : World) (a : Option Addr) (n : Nat) (f : Nat → Ins) : Prop := n = 0 ∨ ∃ b off, a = some ⟨b, off, none⟩ ∧ RowIns w b off n f
theorem SlIns.below {w w' : World} {B : Nat} {a : Option Addr} {n : Nat} {f : Nat → Ins} (h : SlIns w a n f) (hb : Below B w w') (hB : w.heap.size ≤ B) : SlIns w' a n f := by
  rcases h with h | ⟨b, off, hv, hr⟩
  · exact .inl h
  · exact .inr ⟨b, off, hv, hr.below hb hB⟩
theorem RowIns.sl {w : World} {b off n : Nat} {f : Nat → Ins} (h : RowIns w b off n f) : SlIns w (some ⟨b, off, none⟩) n f := .inr ⟨b, off, rfl, h⟩

theorem infoIns : (Tryd.prog.info? 86).map (fun i => (i.zero, i.size, i.bytes)) = some (some (.agg #[.int .i64 0, .string ⟨#[]⟩, .int .i64 0]), 3, 32) := by kernel_rfl
def zerosIns (n : Nat) : Array Value := madeCells (Value.agg #[.int .i64 0, .string ⟨#[]⟩, .int .i64 0]).cells (n * 3)
theorem mkIns (n : Nat) (hn : n ≤ 1048576) (w : World) : (Instr.makeSlice 36 (.int .i64 (n : Int)) (.int .i64 (n : Int))).run Tryd.prog w = .ok (.slice (some ⟨w.heap.size, 0, none⟩) n n) (w.alloc (.cells (zerosIns n) 86)) := by
  obtain ⟨i, hi, hz⟩ := Option.map_eq_some_iff.1 infoIns
  simp only [Prod.mk.injEq] at hz
  obtain ⟨h1, h2, h3⟩ := hz
  have h := run_make (P := Tryd.prog) w 36 86 i _ Tryd.underlying36 hi h1 .i64 .i64 n n (by omega) (Int.le_refl _) (by rw [h3]; omega) (by omega)
  rw [h2] at h
  simpa [zerosIns] using h

/-- Block g is a row of n elements' cells; the first k are those of f. -/
def OwnIns (w : World) (g n k : Nat) (f : Nat → Ins) : Prop :=
  ∃ F, w.rowIs g 86 (n * 3) F ∧ ∀ i, i < k → F (i * 3) = .int .i64 (f i).op ∧ F (i * 3 + 1) = .string (f i).s ∧ F (i * 3 + 2) = .int .i64 (f i).n
theorem ownIns_start (w : World) (n : Nat) (f : Nat → Ins) : OwnIns (w.alloc (.cells (zerosIns n) 86)) w.heap.size n 0 f := by
  have hz : (zerosIns n).size = n * 3 := size_madeCells _ _
  have h := World.rowIs_alloc w (zerosIns n) 86 (fun i => (zerosIns n)[i]?.getD undef) (fun i hi => by rw [Array.getElem?_eq_getElem hi]; rfl)
  rw [hz] at h
  exact ⟨_, h, fun i hi => absurd hi (Nat.not_lt_zero _)⟩
theorem OwnIns.step {w : World} {g n k : Nat} {f : Nat → Ins} (h : OwnIns w g n k f) :
    OwnIns (((w.setCell ⟨g, k * 3, none⟩ (.int .i64 (f k).op)).setCell ⟨g, k * 3 + 1, none⟩ (.string (f k).s)).setCell ⟨g, k * 3 + 2, none⟩ (.int .i64 (f k).n)) g n (k + 1) f := by
  obtain ⟨F, hr, hF⟩ := h
  refine ⟨_, (((hr.set _ _).set _ _).set _ _), fun i hi => ?_⟩
  by_cases e : i = k
  · subst e
    exact ⟨by simp, by simp, by simp⟩
  · have h := hF i (by omega)
    refine ⟨?_, ?_, ?_⟩
    · show (if _ then _ else if _ then _ else if _ then _ else _) = _
      rw [if_neg (by omega), if_neg (by omega), if_neg (by omega), h.1]
    · show (if _ then _ else if _ then _ else if _ then _ else _) = _
      rw [if_neg (by omega), if_neg (by omega), if_neg (by omega), h.2.1]
    · show (if _ then _ else if _ then _ else if _ then _ else _) = _
      rw [if_neg (by omega), if_neg (by omega), if_neg (by omega), h.2.2]
theorem OwnIns.below {w w' : World} {g n k : Nat} {f : Nat → Ins} {B : Nat} (h : OwnIns w g n k f) (hb : Below B w w') (hB : g < B) : OwnIns w' g n k f := by
  obtain ⟨F, hr, hF⟩ := h
  exact ⟨F, hr.of_block (hb.block g hB), hF⟩
theorem OwnIns.row {w : World} {g n : Nat} {f : Nat → Ins} (h : OwnIns w g n n f) : RowIns w g 0 n f := by
  obtain ⟨F, hr, hF⟩ := h
  refine ⟨hr.lt, fun i hi => ?_⟩
  have h := hF i hi
  refine ⟨?_, ?_, ?_⟩
  · rw [Nat.zero_add, hr.cell (by omega), h.1]
  · rw [Nat.zero_add, hr.cell (by omega), h.2.1]
  · rw [Nat.zero_add, hr.cell (by omega), h.2.2]

end Go.Proofs.YtolpgafkojlkoabDoor.Vp
