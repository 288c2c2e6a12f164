/-
  Data: Result: sizes, copies, comparisons; its cells hold slices. Written by tools/nest.py.
-/
import Derived.Test.YtolpgafkojlkoaaDoorDEqStr
namespace Go.Proofs.YtolpgafkojlkoaaDoor.Vp
open Go.RowKit

structure Result where
  code : Int
  text : ByteArray
  chainN : Nat
  chain : Nat → ByteArray
/-- What each reading gives: no text is too long for an int, no slice. -/
def SizedResult (x : Result) : Prop := x.text.size ≤ maxLen ∧ ((x.chainN : Int) ≤ 9223372036854775807 ∧ ∀ j, j < x.chainN → (x.chain j).size ≤ maxLen)
/-- No slice is longer than what the law lets in. -/
def FitsResult (x : Result) : Prop := x.chainN ≤ 1048576

/-- The cells of element i of a row that begins at off in block b. -/
def AtResult (w : World) (b off i : Nat) (x : Result) : Prop :=
  w.cell? ⟨b, off + i * 3, none⟩ = some (.int .i64 x.code) ∧ w.cell? ⟨b, off + i * 3 + 1, none⟩ = some (.string x.text) ∧ (∃ a cap, w.cell? ⟨b, off + i * 3 + 2, none⟩ = some (.slice a x.chainN cap) ∧ SlStr w a x.chainN x.chain)
theorem AtResult.below {w w' : World} {B b off i : Nat} {x : Result} (h : AtResult w b off i x) (hb : Below B w w') (hB : w.heap.size ≤ B) (hl : b < w.heap.size) : AtResult w' b off i x := by
  obtain ⟨p0, p1, ⟨a0, cap0, s0, r0⟩⟩ := h
  refine ⟨(hb.cell (p := ⟨b, _, none⟩) (Nat.lt_of_lt_of_le hl hB)).trans p0, (hb.cell (p := ⟨b, _, none⟩) (Nat.lt_of_lt_of_le hl hB)).trans p1, ⟨a0, cap0, (hb.cell (p := ⟨b, _, none⟩) (Nat.lt_of_lt_of_le hl hB)).trans s0, r0.below hb hB⟩⟩
def RowResult (w : World) (b off n : Nat) (f : Nat → Result) : Prop := b < w.heap.size ∧ ∀ i, i < n → AtResult w b off i (f i)
theorem RowResult.below {w w' : World} {B b off n : Nat} {f : Nat → Result} (h : RowResult w b off n f) (hb : Below B w w') (hB : w.heap.size ≤ B) : RowResult w' b off n f :=
  ⟨Nat.lt_of_lt_of_le h.1 hb.size, fun i hi => (h.2 i hi).below hb hB h.1⟩
def SlResult (w : World) (a : Option Addr) (n : Nat) (f : Nat → Result) : Prop := n = 0 ∨ ∃ b off, a = some ⟨b, off, none⟩ ∧ RowResult w b off n f
theorem SlResult.below {w w' : World} {B : Nat} {a : Option Addr} {n : Nat} {f : Nat → Result} (h : SlResult w a n f) (hb : Below B w w') (hB : w.heap.size ≤ B) : SlResult w' a n f := by
  rcases h with h | ⟨b, off, hv, hr⟩
  · exact .inl h
  · exact .inr ⟨b, off, hv, hr.below hb hB⟩
theorem RowResult.sl {w : World} {b off n : Nat} {f : Nat → Result} (h : RowResult w b off n f) : SlResult w (some ⟨b, off, none⟩) n f := .inr ⟨b, off, rfl, h⟩

set_option maxHeartbeats 2000000 in
theorem eqResult_any (x : Result) (a0 : Option Addr) (cap0 : Nat) (b0 : Option Addr) (dap0 : Nat) (w : World) (hfit : FitsResult x) (hv0 : SlStr w a0 x.chainN x.chain) (hu0 : SlStr w b0 x.chainN x.chain) :
    Calls Tryd.prog 12 #[.agg #[.int .i64 x.code, .string x.text, .slice a0 x.chainN cap0], .agg #[.int .i64 x.code, .string x.text, .slice b0 x.chainN dap0]] w fun e w' => e = .returned (.bool true) ∧ Below w.heap.size w w' := by
  have V0 := hide hv0
  clear hv0
  have U0 := hide hu0
  clear hu0
  have hfit := hide hfit
  have B0 : Hid (Below w.heap.size w ((w.alloc (.cells #[.int .i64 x.code, .string x.text, .slice a0 x.chainN cap0] 27)).alloc (.cells #[.int .i64 x.code, .string x.text, .slice b0 x.chainN dap0] 27))) := ((Below.refl _ _).alloc (Nat.le_refl _) _).alloc (by simp) _
  go_enter Tryd.func12, Tryd.ntmps12
  go_wp2_with fail
  refine (eqStringS_any a0 b0 cap0 dap0 x.chainN x.chain _ hfit.out (V0.out.below B0.out (Nat.le_refl _)) (U0.out.below B0.out (Nat.le_refl _))).mono ?_
  rintro e w1 ⟨rfl, hB1⟩
  have bc1 := (bcell hB1).1
  have B1 := hide (B0.out.trans (hB1.mono B0.out.size))
  have hs1 : w.heap.size + 1 < w1.heap.size := by have := hB1.size; first | omega | (simp at this; omega)
  have ht1 : w.heap.size < w1.heap.size := by omega
  clear hB1
  go_wp2
  go_ret
  exact ⟨rfl, B1.out⟩

end Go.Proofs.YtolpgafkojlkoaaDoor.Vp
