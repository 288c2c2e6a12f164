/-
  A valid account: what it says of its deeds.
-/
import Derived.Test.YtkikpcklccdihaaGreatDoorZB
import Derived.Test.YtkikpcklccdihaaGreatDoorZDOne
namespace Go.Proofs.YtkikpcklccdihaaGreatDoor.Vp
open Go.RowKit

theorem own_lit (w : World) (e : TypeId) (size : Nat) : (w.alloc (.cells #[] e)).ownsRow w.heap.size e size (.slice (some ⟨w.heap.size, 0, none⟩) 0 0) 0 [] :=
  ⟨by simp, .inr ⟨w.heap.size, 0, #[], rfl, Nat.le_refl _, heap_alloc_new w _, Nat.le_refl _, by unfold maxLen; omega, by simp, by simp⟩⟩

/-- the account is valid. -/
def accOk (f : Nat → Deed) (n : Nat) : Bool := decide ((accC f n).1 = 0)
theorem accOk_n {f : Nat → Deed} {n : Nat} (h : accOk f n = true) : 1 ≤ n ∧ n ≤ 400 ∧ firstNo (deedOk f) n = -1 := by
  have h1 : (accC f n).1 = 0 := of_decide_eq_true h
  unfold accC at h1
  split at h1
  · simp at h1
  · rename_i h2
    refine ⟨by omega, by omega, ?_⟩
    split at h1
    · simp at h1
    · rename_i h3
      exact Classical.byContradiction fun hc => h3 hc
theorem accOk_links {f : Nat → Deed} {n : Nat} (h : accOk f n = true) : ∀ p, p < n → (f p).linksN ≤ 200 := by
  intro p hp
  have h1 := firstNo_ok (accOk_n h).2.2 p hp
  simp only [deedOk, Bool.and_eq_true, kindOk] at h1
  obtain ⟨_, h2⟩ := h1
  split at h2
  · simp [unmadeOk] at h2
    omega
  · split at h2
    · simp [unmadeOk] at h2
      omega
    · split at h2
      · simp [targetOk] at h2
        omega
      · simp at h2
/-- a valid account: what is asked for stands ahead, under that name; no two deeds have one name. -/
theorem accOk_ask {f : Nat → Deed} {n : Nat} (h : accOk f n = true) : ∀ p, p < n → ∀ j, j < (f p).linksN → ((f p).links j).ask = true → 0 ≤ ((f p).links j).at_ ∧ ((f p).links j).at_.toNat < p ∧ (f ((f p).links j).at_.toNat).name.toList = ((f p).links j).name.toList := by
  intro p hp j hj ha
  have h1 := firstNo_ok (accOk_n h).2.2 p hp
  simp only [deedOk, Bool.and_eq_true, kindOk] at h1
  obtain ⟨_, h2⟩ := h1
  have hl : linksOk f p (f p) (f p).linksN = true := by
    split at h2
    · simp [unmadeOk] at h2
      omega
    · split at h2
      · simp [unmadeOk] at h2
        omega
      · split at h2
        · simp only [targetOk, Bool.and_eq_true] at h2
          exact h2.2
        · simp at h2
  have h3 := linksOk_at hl j hj
  simp only [linkOk, ha, if_true, Bool.and_eq_true, decide_eq_true_eq, beq_iff_eq] at h3
  obtain ⟨_, ⟨⟨_, h4⟩, h5⟩, h6⟩ := h3
  exact ⟨h4, by omega, h6⟩
theorem nameNew_ne {f : Nat → Deed} {p n : Nat} (h : nameNew f p n = true) : ∀ i, i < n → (f i).name.toList ≠ (f p).name.toList := by
  induction n with
  | zero => intro i hi; omega
  | succ n ih =>
    simp only [nameNew, Bool.and_eq_true, Bool.not_eq_true', beq_eq_false_iff_ne] at h
    intro i hi
    by_cases e : i = n
    · subst e; exact h.2
    · exact ih h.1 i (by omega)
theorem accOk_new {f : Nat → Deed} {n : Nat} (h : accOk f n = true) : ∀ i j, i < n → j < n → (f i).name.toList = (f j).name.toList → i = j := by
  have h1 : (accC f n).1 = 0 := of_decide_eq_true h
  have h2 : firstNo (fun p => nameNew f p p) n = -1 := by
    unfold accC at h1
    split at h1
    · simp at h1
    · split at h1
      · simp at h1
      · split at h1
        · simp at h1
        · rename_i h3
          exact Classical.byContradiction fun hc => h3 hc
  have h3 := firstNo_ok h2
  intro i j hi hj e
  rcases Nat.lt_trichotomy i j with hlt | rfl | hlt
  · exact absurd e (nameNew_ne (h3 j hj) i hlt)
  · rfl
  · exact absurd e.symm (nameNew_ne (h3 i hi) j hlt)

end Go.Proofs.YtkikpcklccdihaaGreatDoor.Vp
