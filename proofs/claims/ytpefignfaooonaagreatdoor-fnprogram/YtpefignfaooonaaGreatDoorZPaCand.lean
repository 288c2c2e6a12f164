/-
  ParseProgram, spec: what is read loosely, pure.
-/
import Derived.Test.YtpefignfaooonaaGreatDoorZG
namespace Go.Proofs.YtpefignfaooonaaGreatDoor.Vp
open Go.RowKit

theorem cand_yes {s : List UInt8} {k : Int} (h1 : insOk k (candT k s).length (candN k s) = true) (h2 : lineB k (candT k s) (candN k s) = s) : readL s = some (k, candT k s, candN k s) := readL_some (i := (k, candT k s, candN k s)) ⟨h1, h2.symm⟩
theorem cand_no {s : List UInt8} {k : Int} (h : ¬ (insOk k (candT k s).length (candN k s) = true ∧ lineB k (candT k s) (candN k s) = s)) (t : List UInt8) (m : Int) : ¬ IsLine s k t m := by
  intro hl
  obtain ⟨e1, e2⟩ := cand_of hl
  rw [e1, e2] at h
  exact h ⟨hl.1, hl.2.symm⟩
theorem cand_end {s : List UInt8} (h : ∀ k : Int, 1 ≤ k → k < 16 → ∀ t m, ¬ IsLine s k t m) : readL s = none := readL_none fun i hi => by
  obtain ⟨h1, -⟩ := ins_of hi.1
  exact h i.1 h1.1 (by omega) _ _ hi
theorem loosU_len : ∀ l : List UInt8, (loosU l).length ≤ l.length
  | [] => by simp [loosU]
  | [c] => by simp [loosU]
  | [c, d] => by simp [loosU]
  | c :: a :: b :: r => by
    rw [loosU]
    split
    · have := loosU_len r
      simp only [List.length_cons]
      omega
    · have := loosU_len (a :: b :: r)
      simp only [List.length_cons] at this ⊢
      omega
theorem candT_len (k : Int) (s : List UInt8) : (candT k s).length ≤ s.length := by
  unfold candT
  split
  · have h1 := loosU_len (innerL (s.drop ((word k).length + 1)))
    have h2 : (innerL (s.drop ((word k).length + 1))).length ≤ s.length := by
      unfold innerL
      rw [List.length_take, List.length_drop, List.length_drop]
      omega
    omega
  · simp

end Go.Proofs.YtpefignfaooonaaGreatDoor.Vp
