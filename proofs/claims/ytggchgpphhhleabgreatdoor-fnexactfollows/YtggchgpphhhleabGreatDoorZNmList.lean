/-
  What Names, Sources answer, as lists.
-/
import Derived.Test.YtggchgpphhhleabGreatDoorZNmPut
namespace Go.Proofs.YtggchgpphhhleabGreatDoor.Vp
open Go.RowKit Go.Sort

/-- the account is valid. -/
def accOk (f : Nat → Deed) (n : Nat) : Bool := decide ((accC f n).1 = 0)
theorem accOk_n {f : Nat → Deed} {n : Nat} (h : accOk f n = true) : 1 ≤ n ∧ n ≤ 400 ∧ firstNo (deedOk f) n = -1 := by
  have h1 : (accC f n).1 = 0 := of_decide_eq_true h
  unfold accC at h1
  split at h1
  · simp at h1
  · rename_i h2
    refine ⟨by omega, by omega, ?_⟩
    split at h1
    · simp at h1
    · rename_i h3
      exact Classical.byContradiction fun hc => h3 hc
theorem accOk_links {f : Nat → Deed} {n : Nat} (h : accOk f n = true) : ∀ p, p < n → (f p).linksN ≤ 200 := by
  intro p hp
  have h1 := firstNo_ok (accOk_n h).2.2 p hp
  simp only [deedOk, Bool.and_eq_true, kindOk] at h1
  obtain ⟨_, h2⟩ := h1
  split at h2
  · simp [unmadeOk] at h2
    omega
  · split at h2
    · simp [unmadeOk] at h2
      omega
    · split at h2
      · simp [targetOk] at h2
        omega
      · simp at h2

/-- the sources among the first k deeds. -/
def srcL (f : Nat → Deed) : Nat → List (List UInt8)
  | 0 => []
  | k + 1 => if (f k).kind = 1 then lput (srcL f k) (f k).name.toList else srcL f k
theorem srcL_asc (f : Nat → Deed) (k : Nat) : (srcL f k).Pairwise (· < ·) := by
  induction k with
  | zero => exact List.Pairwise.nil
  | succ k ih =>
    rw [srcL]
    split
    · exact asc_lput ih _
    · exact ih
theorem srcL_len (f : Nat → Deed) (k : Nat) : (srcL f k).length ≤ k := by
  induction k with
  | zero => exact Nat.le_refl _
  | succ k ih =>
    rw [srcL]
    split
    · have := lput_len (srcL f k) (f k).name.toList
      omega
    · omega

/-- the names of a deed's links among the first j, put into a list. -/
def lnkL (acc : List (List UInt8)) (g : Nat → Link) : Nat → List (List UInt8)
  | 0 => acc
  | j + 1 => lput (lnkL acc g j) (g j).name.toList
theorem lnkL_asc {acc : List (List UInt8)} (h : acc.Pairwise (· < ·)) (g : Nat → Link) (j : Nat) : (lnkL acc g j).Pairwise (· < ·) := by
  induction j with
  | zero => exact h
  | succ j ih => exact asc_lput ih _
theorem lnkL_len (acc : List (List UInt8)) (g : Nat → Link) (j : Nat) : (lnkL acc g j).length ≤ acc.length + j := by
  induction j with
  | zero => exact Nat.le_refl _
  | succ j ih =>
    have := lput_len (lnkL acc g j) (g j).name.toList
    rw [lnkL]
    omega
/-- the names of the first k deeds. -/
def nameL (f : Nat → Deed) : Nat → List (List UInt8)
  | 0 => []
  | k + 1 => lnkL (lput (nameL f k) (f k).name.toList) (f k).links (f k).linksN
theorem nameL_asc (f : Nat → Deed) (k : Nat) : (nameL f k).Pairwise (· < ·) := by
  induction k with
  | zero => exact List.Pairwise.nil
  | succ k ih => exact lnkL_asc (asc_lput ih _) _ _
theorem nameL_len {f : Nat → Deed} {k : Nat} (h : ∀ p, p < k → (f p).linksN ≤ 200) : (nameL f k).length ≤ k * 201 := by
  induction k with
  | zero => exact Nat.le_refl _
  | succ k ih =>
    have h1 := ih fun p hp => h p (by omega)
    have h2 := lnkL_len (lput (nameL f k) (f k).name.toList) (f k).links (f k).linksN
    have h3 := lput_len (nameL f k) (f k).name.toList
    have h4 := h k (by omega)
    rw [nameL]
    omega

def srcs (f : Nat → Deed) (n : Nat) : List (List UInt8) := if accOk f n = true then srcL f n else []
def nams (f : Nat → Deed) (n : Nat) : List (List UInt8) := if accOk f n = true then nameL f n else []
theorem srcs_len (f : Nat → Deed) (n : Nat) : (srcs f n).length ≤ 1048576 := by
  unfold srcs
  split
  · rename_i h
    have h1 := accOk_n h
    have h2 := srcL_len f n
    omega
  · simp
theorem nams_len (f : Nat → Deed) (n : Nat) : (nams f n).length ≤ 1048576 := by
  unfold nams
  split
  · rename_i h
    have h1 := accOk_n h
    have h2 := nameL_len (f := f) (k := n) (accOk_links h)
    omega
  · simp

end Go.Proofs.YtggchgpphhhleabGreatDoor.Vp
