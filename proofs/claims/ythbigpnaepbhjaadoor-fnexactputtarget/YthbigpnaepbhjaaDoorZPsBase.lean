/-
  PutSource: what it answers.
-/
import Derived.Test.YthbigpnaepbhjaaDoorZM
namespace Go.Proofs.YthbigpnaepbhjaaDoor.Vp
open Go.RowKit

theorem cmp_pos : ∀ a b : List UInt8, decide (0 < Lib.compareBytes a b) = Op.bytesLess b a
  | [], [] => by simp [Lib.compareBytes, Op.bytesLess]
  | [], _ :: _ => by simp [Lib.compareBytes, Op.bytesLess]
  | _ :: _, [] => by simp [Lib.compareBytes, Op.bytesLess]
  | a :: x, b :: y => by
    have ih := cmp_pos x y
    rw [Lib.compareBytes, Op.bytesLess, ← ih]
    by_cases h1 : a < b
    · have h3 : ¬ b = a := fun e => by subst e; exact (UInt8.lt_irrefl _ h1)
      have h4 : ¬ b < a := fun h => UInt8.lt_irrefl _ (UInt8.lt_trans h1 h)
      simp [h1, h3, h4]
    · rw [if_neg h1]
      by_cases h2 : b < a
      · simp [h2]
      · have h3 : a = b := UInt8.le_antisymm (UInt8.not_lt.1 h2) (UInt8.not_lt.1 h1)
        subst h3
        simp [h1]
/-- One of three. -/
theorem tless_yes {a b : ByteArray} (h : tless b a = true) : tless a b = false ∧ (a.toList == b.toList) = false := by
  have h1 := cmp_neg a.data.toList b.data.toList
  have h2 := cmp_zero a.data.toList b.data.toList
  have h3 := cmp_pos a.data.toList b.data.toList
  simp only [tless, ByteArray.toList_eq] at h ⊢
  rw [← h1, ← h2]
  rw [← h3] at h
  simp at h ⊢
  omega
theorem tless_no {a b : ByteArray} (h : tless b a = false) : tless a b = true ∨ (tless a b = false ∧ (a.toList == b.toList) = true) := by
  have h1 := cmp_neg a.data.toList b.data.toList
  have h2 := cmp_zero a.data.toList b.data.toList
  have h3 := cmp_pos a.data.toList b.data.toList
  simp only [tless, ByteArray.toList_eq] at h ⊢
  rw [← h1, ← h2]
  rw [← h3] at h
  simp only [decide_eq_false_iff_not, decide_eq_true_eq] at h ⊢
  omega
/-- Two cells of a box that may be written. -/
structure TwoF (w : World) (b : Nat) (v0 v1 : Value) : Prop where
  lt : b < w.heap.size
  c0 : w.cell? ⟨b, 0, none⟩ = some v0
  c1 : w.cell? ⟨b, 1, none⟩ = some v1
  z0 : w.frozen? ⟨b, 0, none⟩ = false
  z1 : w.frozen? ⟨b, 1, none⟩ = false
theorem twoF_box (w : World) (v0 v1 : Value) (t : TypeId) : TwoF (w.alloc (.cells #[v0, v1] t)) w.heap.size v0 v1 := ⟨by simp, by simp, by simp, by simp, by simp⟩
def doneTo (L : List Source) (t : ByteArray) : Nat → Bool
  | 0 => false
  | k + 1 => doneTo L t k || tless t (srcF L k).name
def insTo (L : List Source) (x : Source) (t : ByteArray) : Nat → List Source
  | 0 => []
  | k + 1 => if doneTo L t k = false ∧ tless t (srcF L k).name = true then insTo L x t k ++ [x] ++ [srcF L k] else insTo L x t k ++ [srcF L k]
/-- The list with x put in ahead of the first that is greater than t. -/
def insF (L : List Source) (x : Source) (t : ByteArray) : List Source := if doneTo L t L.length = true then insTo L x t L.length else insTo L x t L.length ++ [x]
theorem insTo_len (L : List Source) (x : Source) (t : ByteArray) (k : Nat) : (insTo L x t k).length ≤ k + 1 ∧ (doneTo L t k = false → (insTo L x t k).length = k) := by
  induction k with
  | zero => simp [insTo]
  | succ j ih =>
    simp only [insTo, doneTo]
    cases hd : doneTo L t j with
    | false =>
      have h1 := ih.2 hd
      cases hl : tless t (srcF L j).name with
      | true => simp [h1]
      | false => simp [h1]
    | true =>
      have h1 := ih.1
      simp
      omega
def putC (n0 : Nat) (f0 : Nat → Source) (n1 : Nat) (f1 : Nat → Target) (t tx : ByteArray) : Int :=
  if checkC n0 f0 n1 f1 ≠ 0 then 1 else if nameOk t = false ∨ 2000 < (tx.size : Int) then 2 else if 200 ≤ (keepS f0 t n0).length + (keepT f1 t n1).length then 3 else 0
def putS (n0 : Nat) (f0 : Nat → Source) (n1 : Nat) (f1 : Nat → Target) (t tx : ByteArray) : List Source := if putC n0 f0 n1 f1 t tx = 0 then insF (keepS f0 t n0) ⟨t, tx⟩ t else []
def putT (n0 : Nat) (f0 : Nat → Source) (n1 : Nat) (f1 : Nat → Target) (t tx : ByteArray) : List Target := if putC n0 f0 n1 f1 t tx = 0 then keepT f1 t n1 else []

end Go.Proofs.YthbigpnaepbhjaaDoor.Vp
