/-
  Put together of: NmPure.
-/
import Derived.Test.YtkgddbcjmejfaaaGreatDoorZD
import Derived.Sort.Walk0
import Derived.Sort.EncStr

/-
  Names in order: a list that ascends, a name put into it once.
-/
namespace Go.Proofs.YtkgddbcjmejfaaaGreatDoor.Vp
open Go.RowKit

def lput : List (List UInt8) → List UInt8 → List (List UInt8)
  | [], x => [x]
  | y :: ys, x => if y < x then y :: lput ys x else if y = x then y :: ys else x :: y :: ys

theorem mem_lput (l : List (List UInt8)) (x z : List UInt8) : z ∈ lput l x ↔ z ∈ l ∨ z = x := by
  induction l with
  | nil => simp [lput]
  | cons y ys ih =>
    rw [lput]
    split
    · rw [List.mem_cons, ih, List.mem_cons, or_assoc]
    · split
      · rename_i e
        subst e
        simp only [List.mem_cons]
        constructor
        · exact fun h => .inl h
        · rintro (h | h)
          · exact h
          · exact .inl h
      · simp only [List.mem_cons]
        constructor
        · rintro (h | h | h)
          · exact .inr h
          · exact .inl (.inl h)
          · exact .inl (.inr h)
        · rintro ((h | h) | h)
          · exact .inr (.inl h)
          · exact .inr (.inr h)
          · exact .inl h

theorem text_lt_of {x y : List UInt8} (h1 : ¬ y < x) (h2 : y ≠ x) : x < y := by
  rcases List.le_total x y with h | h
  · exact Classical.byContradiction fun hc => h2 (List.le_antisymm hc h)
  · exact Classical.byContradiction fun hc => h2 (List.le_antisymm h h1)

theorem asc_lput {l : List (List UInt8)} (h : l.Pairwise (· < ·)) (x : List UInt8) : (lput l x).Pairwise (· < ·) := by
  induction l with
  | nil => simp [lput]
  | cons y ys ih =>
    obtain ⟨h1, h2⟩ := List.pairwise_cons.1 h
    rw [lput]
    split
    · rename_i hlt
      refine List.pairwise_cons.2 ⟨fun z hz => ?_, ih h2⟩
      rcases (mem_lput _ _ _).1 hz with hz | rfl
      · exact h1 z hz
      · exact hlt
    · split
      · exact h
      · rename_i hn he
        have hxy := text_lt_of hn he
        refine List.pairwise_cons.2 ⟨fun z hz => ?_, h⟩
        rcases List.mem_cons.1 hz with rfl | hz
        · exact hxy
        · exact List.lt_trans hxy (h1 z hz)

theorem asc_ext : ∀ {l m : List (List UInt8)}, l.Pairwise (· < ·) → m.Pairwise (· < ·) → (∀ z, z ∈ l ↔ z ∈ m) → l = m
  | [], [], _, _, _ => rfl
  | [], y :: ys, _, _, h => by have := (h y).2 (by simp); simp at this
  | x :: xs, [], _, _, h => by have := (h x).1 (by simp); simp at this
  | x :: xs, y :: ys, h1, h2, h => by
    obtain ⟨a1, a2⟩ := List.pairwise_cons.1 h1
    obtain ⟨b1, b2⟩ := List.pairwise_cons.1 h2
    have hxy : x = y := by
      rcases List.mem_cons.1 ((h x).1 (by simp)) with e | e
      · exact e
      · rcases List.mem_cons.1 ((h y).2 (by simp)) with e' | e'
        · exact e'.symm
        · exact absurd (List.lt_trans (b1 x e) (a1 y e')) (List.lt_irrefl _)
    subst hxy
    congr 1
    refine asc_ext a2 b2 fun z => ?_
    have hz := h z
    simp only [List.mem_cons] at hz
    constructor
    · intro hm
      rcases hz.1 (.inr hm) with e | e
      · subst e; exact absurd (a1 _ hm) (List.lt_irrefl _)
      · exact e
    · intro hm
      rcases hz.2 (.inr hm) with e | e
      · subst e; exact absurd (b1 _ hm) (List.lt_irrefl _)
      · exact e

theorem asc_sort {ss : List (List UInt8)} (h : ss.Nodup) : (ss.mergeSort (fun x y => decide (x ≤ y))).Pairwise (· < ·) := by
  have hs : (ss.mergeSort (fun x y => decide (x ≤ y))).Pairwise (fun x y => decide (x ≤ y) = true) :=
    List.pairwise_mergeSort (fun a b c hab hbc => by simp only [decide_eq_true_eq] at *; exact List.le_trans hab hbc) (fun a b => by simp only [Bool.or_eq_true, decide_eq_true_eq]; exact List.le_total a b) ss
  have hn : (ss.mergeSort (fun x y => decide (x ≤ y))).Nodup := (List.mergeSort_perm ss _).nodup_iff.2 h
  refine (hs.and hn).imp ?_
  rintro a b ⟨h1, h2⟩
  exact text_lt_of (by simpa using h1) (Ne.symm h2)

/-- the keys of a set, sorted, are any list that ascends and has the same names. -/
theorem sort_is {ss l : List (List UInt8)} (h : ss.Nodup) (hl : l.Pairwise (· < ·)) (hm : ∀ z, z ∈ ss ↔ z ∈ l) : ss.mergeSort (fun x y => decide (x ≤ y)) = l :=
  asc_ext (asc_sort h) hl fun z => by rw [← hm z]; exact (List.mergeSort_perm ss _).mem_iff

/-- where a name is put. -/
theorem lput_at : ∀ (l : List (List UInt8)) (x : List UInt8) (k : Nat), k ≤ l.length → (∀ j (h : j < l.length), j < k → l[j] < x) → (∀ h : k < l.length, ¬ l[k] < x) → lput l x = if l[k]? = some x then l else l.take k ++ x :: l.drop k
  | [], x, k, hk, _, _ => by simp at hk; subst hk; simp [lput]
  | y :: ys, x, 0, hk, h1, h2 => by
    have := h2 (by simp)
    simp only [List.getElem_cons_zero] at this
    rw [lput, if_neg this]
    simp
  | y :: ys, x, k + 1, hk, h1, h2 => by
    have h0 := h1 0 (by simp) (by omega)
    simp only [List.getElem_cons_zero] at h0
    rw [lput, if_pos h0, lput_at ys x k (by simpa using hk) (fun j h hj => by have := h1 (j + 1) (by simpa using h) (by omega); simpa using this) (fun h => by have := h2 (by simpa using h); simpa using this)]
    simp only [List.getElem?_cons_succ, List.take_succ_cons, List.drop_succ_cons]
    split <;> rfl

theorem lput_len (l : List (List UInt8)) (x : List UInt8) : (lput l x).length ≤ l.length + 1 := by
  induction l with
  | nil => simp [lput]
  | cons y ys ih =>
    rw [lput]
    split
    · simp only [List.length_cons]; omega
    · split <;> simp

end Go.Proofs.YtkgddbcjmejfaaaGreatDoor.Vp
