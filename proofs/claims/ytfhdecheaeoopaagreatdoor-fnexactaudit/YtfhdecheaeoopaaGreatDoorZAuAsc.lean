/-
  Ascending names; a valid space.
-/
import Derived.Test.YtfhdecheaeoopaaGreatDoorZCsCheck
import Derived.Test.YtfhdecheaeoopaaGreatDoorZCsSpec
namespace Go.Proofs.YtfhdecheaeoopaaGreatDoor.Vp
open Go.RowKit

theorem bytes_eq {a b : ByteArray} (h : a.toList = b.toList) : a = b := by
  rw [ByteArray.toList_eq, ByteArray.toList_eq] at h
  exact ByteArray.ext (Array.toList_inj.1 h)
theorem bytes_beq {a b : ByteArray} (h : (a.toList == b.toList) = true) : a = b := bytes_eq (by simpa using h)

/-- no name stands twice in what is ascending. -/
theorem asc_one {g : Nat → ByteArray} {n i j : Nat} {t : ByteArray} (hs : ascTo g n = true) (hi : i < n) (hj : j < n) (h1 : ((g i).toList == t.toList) = true) (h2 : ((g j).toList == t.toList) = true) : i = j := by
  have e1 := bytes_beq h1
  have e2 := bytes_beq h2
  rcases Nat.lt_trichotomy i j with h | h | h
  · have := asc_lt hs h hj
    rw [e1, e2, tless_irrefl] at this
    cases this
  · exact h
  · have := asc_lt hs h hi
    rw [e1, e2, tless_irrefl] at this
    cases this
theorem anyTo_get {p : Nat → Bool} {n : Nat} (h : anyTo p n = true) : ∃ k, k < n ∧ p k = true := by
  induction n with
  | zero => simp [anyTo] at h
  | succ m ih =>
    simp only [anyTo, Bool.or_eq_true] at h
    rcases h with h | h
    · obtain ⟨k, hk, hp⟩ := ih h
      exact ⟨k, by omega, hp⟩
    · exact ⟨m, by omega, h⟩
/-- one of a name that is the only one, and how it is. -/
theorem any_one {g : Nat → ByteArray} {q : Nat → Bool} {n k : Nat} {t : ByteArray} (hs : ascTo g n = true) (hk : k < n) (h1 : ((g k).toList == t.toList) = true) : anyTo (fun i => ((g i).toList == t.toList) && q i) n = q k := by
  cases e : q k with
  | true => exact anyTo_true hk (by simp [h1, e])
  | false =>
    cases e2 : anyTo (fun i => ((g i).toList == t.toList) && q i) n with
    | false => rfl
    | true =>
      obtain ⟨i, hi, hp⟩ := anyTo_get e2
      simp only [Bool.and_eq_true] at hp
      obtain rfl := asc_one hs hi hk hp.1 h1
      rw [e] at hp
      exact absurd hp.2 (by simp)
theorem isIn_get {g : Nat → ByteArray} {n : Nat} {t : ByteArray} (h : isIn g n t = true) : ∃ k, k < n ∧ ((g k).toList == t.toList) = true := by
  simp only [isIn, List.any_eq_true, List.mem_range] at h
  exact h
theorem any_none {g : Nat → ByteArray} {q : Nat → Bool} {n : Nat} {t : ByteArray} (h : isIn g n t = false) : anyTo (fun i => ((g i).toList == t.toList) && q i) n = false := by
  cases e2 : anyTo (fun i => ((g i).toList == t.toList) && q i) n with
  | false => rfl
  | true =>
    obtain ⟨i, hi, hp⟩ := anyTo_get e2
    simp only [Bool.and_eq_true] at hp
    rw [isIn_true hi hp.1] at h
    cases h

/-- a valid space is ascending and small. -/
theorem check_asc {n0 : Nat} {f0 : Nat → Source} {n1 : Nat} {f1 : Nat → Target} (h : checkC n0 f0 n1 f1 = 0) : ascTo (nm0 f0) n0 = true ∧ ascTo (nm1 f1) n1 = true ∧ n0 + n1 ≤ 200 := by
  unfold checkC at h
  split at h; · omega
  split at h; · omega
  split at h; · omega
  split at h; · omega
  split at h; · omega
  rename_i h0 _ _ h3 h4
  exact ⟨by simpa using h3, by simpa using h4, by omega⟩

end Go.Proofs.YtfhdecheaeoopaaGreatDoor.Vp
