/-
  ParseProgram, spec: what is read loosely, pure.
-/
import Derived.Test.YtjdnekahoibiiaaGreatDoorZG
namespace Go.Proofs.YtjdnekahoibiiaaGreatDoor.Vp
open Go.RowKit

/-- What is read loosely behind a word. -/
def candT (k : Int) (s : List UInt8) : List UInt8 := if kind k = 1 ∧ (word k).length < s.length then loosU (innerL (s.drop ((word k).length + 1))) else []
def candN (k : Int) (s : List UInt8) : Int := if ¬ kind k = 1 ∧ 0 < kind k ∧ (word k).length < s.length then numL 0 ((s.drop ((word k).length + 1)).take 6) else 0
theorem kind_ge (k : Int) : 0 ≤ kind k := by
  unfold kind
  split <;> omega
theorem most_kind {k : Int} (h : 1 ≤ k ∧ k ≤ 15) : (¬ kind k = 1 → mostText k = 0) ∧ (kind k = 1 ∨ kind k = 0 → mostN k = 0) ∧ mostN k ≤ 2000 := by
  rcases op_cases h with rfl | rfl | rfl | rfl | rfl | rfl | rfl | rfl | rfl | rfl | rfl | rfl | rfl | rfl | rfl <;> decide
theorem drop_word (x : List UInt8) (y : List UInt8) : (x ++ (32 :: y)).drop (x.length + 1) = y := by
  rw [List.drop_append]
  simp
theorem cand_of {s : List UInt8} {k : Int} {t : List UInt8} {m : Int} (h : IsLine s k t m) : candT k s = t ∧ candN k s = m := by
  obtain ⟨hi, rfl⟩ := h
  obtain ⟨h1, h2, h3, h4⟩ := ins_of hi
  obtain ⟨m1, m2, m3⟩ := most_kind h1
  by_cases k1 : kind k = 1
  · have e : lineB k t m = word k ++ (32 :: quoteB t) := by unfold lineB; rw [if_pos k1]
    have hl : (word k).length < (lineB k t m).length := by rw [e]; simp
    have := m2 (.inl k1)
    unfold candT candN
    rw [if_pos ⟨k1, hl⟩, if_neg (fun x => x.1 k1), e, drop_word, innerL_quote, loosU_enc]
    exact ⟨rfl, by omega⟩
  · have ht : t = [] := by
      have := m1 k1
      rw [← List.length_eq_zero_iff]
      omega
    unfold candT candN
    rw [if_neg (fun x => k1 x.1)]
    refine ⟨ht.symm, ?_⟩
    by_cases k0 : kind k = 0
    · have := m2 (.inr k0)
      rw [if_neg (fun x => by omega)]
      omega
    · have hp := kind_ge k
      have e : lineB k t m = word k ++ (32 :: Lib.decDigits m.toNat) := by unfold lineB; rw [if_neg k1, if_neg k0]
      have hl : (word k).length < (lineB k t m).length := by rw [e]; simp
      rw [if_pos ⟨k1, by omega, hl⟩, e, drop_word, numL6 m.toNat (by omega)]
      omega
theorem cand_yes {s : List UInt8} {k : Int} (h1 : insOk k (candT k s).length (candN k s) = true) (h2 : lineB k (candT k s) (candN k s) = s) : readL s = some (k, candT k s, candN k s) := readL_some (i := (k, candT k s, candN k s)) ⟨h1, h2.symm⟩
theorem cand_no {s : List UInt8} {k : Int} (h : ¬ (insOk k (candT k s).length (candN k s) = true ∧ lineB k (candT k s) (candN k s) = s)) (t : List UInt8) (m : Int) : ¬ IsLine s k t m := by
  intro hl
  obtain ⟨e1, e2⟩ := cand_of hl
  rw [e1, e2] at h
  exact h ⟨hl.1, hl.2.symm⟩
theorem cand_end {s : List UInt8} (h : ∀ k : Int, 1 ≤ k → k < 16 → ∀ t m, ¬ IsLine s k t m) : readL s = none := readL_none fun i hi => by
  obtain ⟨h1, -⟩ := ins_of hi.1
  exact h i.1 h1.1 (by omega) _ _ hi
theorem loosU_len : ∀ l : List UInt8, (loosU l).length ≤ l.length
  | [] => by simp [loosU]
  | [c] => by simp [loosU]
  | [c, d] => by simp [loosU]
  | c :: a :: b :: r => by
    rw [loosU]
    split
    · have := loosU_len r
      simp only [List.length_cons]
      omega
    · have := loosU_len (a :: b :: r)
      simp only [List.length_cons] at this ⊢
      omega
theorem candT_len (k : Int) (s : List UInt8) : (candT k s).length ≤ s.length := by
  unfold candT
  split
  · have h1 := loosU_len (innerL (s.drop ((word k).length + 1)))
    have h2 : (innerL (s.drop ((word k).length + 1))).length ≤ s.length := by
      unfold innerL
      rw [List.length_take, List.length_drop, List.length_drop]
      omega
    omega
  · simp

end Go.Proofs.YtjdnekahoibiiaaGreatDoor.Vp
