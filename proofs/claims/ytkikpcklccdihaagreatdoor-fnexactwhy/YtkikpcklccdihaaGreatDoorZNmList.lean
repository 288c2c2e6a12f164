/-
  What Names, Sources answer, as lists.
-/
import Derived.Test.YtkikpcklccdihaaGreatDoorZNmPure
namespace Go.Proofs.YtkikpcklccdihaaGreatDoor.Vp
open Go.RowKit Go.Sort

/-- the sources among the first k deeds. -/
def srcL (f : Nat → Deed) : Nat → List (List UInt8)
  | 0 => []
  | k + 1 => if (f k).kind = 1 then lput (srcL f k) (f k).name.toList else srcL f k
theorem srcL_asc (f : Nat → Deed) (k : Nat) : (srcL f k).Pairwise (· < ·) := by
  induction k with
  | zero => exact List.Pairwise.nil
  | succ k ih =>
    rw [srcL]
    split
    · exact asc_lput ih _
    · exact ih
theorem srcL_len (f : Nat → Deed) (k : Nat) : (srcL f k).length ≤ k := by
  induction k with
  | zero => exact Nat.le_refl _
  | succ k ih =>
    rw [srcL]
    split
    · have := lput_len (srcL f k) (f k).name.toList
      omega
    · omega

/-- the names of a deed's links among the first j, put into a list. -/
def lnkL (acc : List (List UInt8)) (g : Nat → Link) : Nat → List (List UInt8)
  | 0 => acc
  | j + 1 => lput (lnkL acc g j) (g j).name.toList
theorem lnkL_asc {acc : List (List UInt8)} (h : acc.Pairwise (· < ·)) (g : Nat → Link) (j : Nat) : (lnkL acc g j).Pairwise (· < ·) := by
  induction j with
  | zero => exact h
  | succ j ih => exact asc_lput ih _
theorem lnkL_len (acc : List (List UInt8)) (g : Nat → Link) (j : Nat) : (lnkL acc g j).length ≤ acc.length + j := by
  induction j with
  | zero => exact Nat.le_refl _
  | succ j ih =>
    have := lput_len (lnkL acc g j) (g j).name.toList
    rw [lnkL]
    omega
/-- the names of the first k deeds. -/
def nameL (f : Nat → Deed) : Nat → List (List UInt8)
  | 0 => []
  | k + 1 => lnkL (lput (nameL f k) (f k).name.toList) (f k).links (f k).linksN
theorem nameL_asc (f : Nat → Deed) (k : Nat) : (nameL f k).Pairwise (· < ·) := by
  induction k with
  | zero => exact List.Pairwise.nil
  | succ k ih => exact lnkL_asc (asc_lput ih _) _ _
theorem nameL_len {f : Nat → Deed} {k : Nat} (h : ∀ p, p < k → (f p).linksN ≤ 200) : (nameL f k).length ≤ k * 201 := by
  induction k with
  | zero => exact Nat.le_refl _
  | succ k ih =>
    have h1 := ih fun p hp => h p (by omega)
    have h2 := lnkL_len (lput (nameL f k) (f k).name.toList) (f k).links (f k).linksN
    have h3 := lput_len (nameL f k) (f k).name.toList
    have h4 := h k (by omega)
    rw [nameL]
    omega

def srcs (f : Nat → Deed) (n : Nat) : List (List UInt8) := if accOk f n = true then srcL f n else []
def nams (f : Nat → Deed) (n : Nat) : List (List UInt8) := if accOk f n = true then nameL f n else []
theorem srcs_len (f : Nat → Deed) (n : Nat) : (srcs f n).length ≤ 1048576 := by
  unfold srcs
  split
  · rename_i h
    have h1 := accOk_n h
    have h2 := srcL_len f n
    omega
  · simp
theorem nams_len (f : Nat → Deed) (n : Nat) : (nams f n).length ≤ 1048576 := by
  unfold nams
  split
  · rename_i h
    have h1 := accOk_n h
    have h2 := nameL_len (f := f) (k := n) (accOk_links h)
    omega
  · simp

end Go.Proofs.YtkikpcklccdihaaGreatDoor.Vp
