/-
  What Depends answers.
-/
import Derived.Test.YtggchgpphhhleabGreatDoorZNmList
namespace Go.Proofs.YtggchgpphhhleabGreatDoor.Vp
open Go.RowKit Go.Sort

/-- link j leads to the name, or asks for a deed that is among D. -/
def depC (D : Nat → Bool) (t : ByteArray) (l : Link) : Bool := l.name.toList == t.toList || (l.ask && D l.at_.toNat)
def depLk (D : Nat → Bool) (t : ByteArray) (x : Deed) : Nat → Bool
  | 0 => false
  | j + 1 => depLk D t x j || depC D t (x.links j)
/-- the deeds below k that stand on the name. -/
def depIn (f : Nat → Deed) (t : ByteArray) : Nat → Nat → Bool
  | 0, _ => false
  | k + 1, i => if i = k then depLk (depIn f t k) t (f k) (f k).linksN else depIn f t k i
def depL (f : Nat → Deed) (t : ByteArray) : Nat → List (List UInt8)
  | 0 => []
  | k + 1 => if depIn f t (k + 1) k = true then lput (depL f t k) (f k).name.toList else depL f t k
def deps (f : Nat → Deed) (n : Nat) (t : ByteArray) : List (List UInt8) := if accOk f n = true then depL f t n else []

theorem depIn_lt {f : Nat → Deed} {t : ByteArray} {k i : Nat} (h : depIn f t k i = true) : i < k := by
  induction k with
  | zero => simp [depIn] at h
  | succ k ih =>
    rw [depIn] at h
    split at h
    · omega
    · have := ih h
      omega
theorem depIn_stay {f : Nat → Deed} {t : ByteArray} {k m i : Nat} (hi : i < k) (hk : k ≤ m) : depIn f t m i = depIn f t k i := by
  induction m with
  | zero => omega
  | succ m ih =>
    by_cases e : k = m + 1
    · rw [e]
    · rw [depIn, if_neg (by omega), ih (by omega)]
theorem depIn_self (f : Nat → Deed) (t : ByteArray) (k : Nat) : depIn f t (k + 1) k = depLk (depIn f t k) t (f k) (f k).linksN := by rw [depIn, if_pos rfl]
theorem depLk_none {D : Nat → Bool} {t : ByteArray} {x : Deed} {n : Nat} (h : depLk D t x n = false) : ∀ j, j < n → depC D t (x.links j) = false := by
  induction n with
  | zero => intro j hj; omega
  | succ n ih =>
    rw [depLk, Bool.or_eq_false_iff] at h
    intro j hj
    by_cases e : j = n
    · subst e; exact h.2
    · exact ih h.1 j (by omega)
theorem depLk_mono {D : Nat → Bool} {t : ByteArray} {x : Deed} {j n : Nat} (hj : j ≤ n) (h : depLk D t x j = true) : depLk D t x n = true := by
  induction n with
  | zero => obtain rfl : j = 0 := by omega
            exact h
  | succ n ih =>
    by_cases e : j = n + 1
    · subst e; exact h
    · rw [depLk, ih (by omega), Bool.true_or]
/-- only the asked places below p count. -/
theorem depC_congr {D E : Nat → Bool} {t : ByteArray} {l : Link} {p : Nat} (hl : l.ask = true → l.at_.toNat < p) (h : ∀ i, i < p → D i = E i) : depC D t l = depC E t l := by
  unfold depC
  cases hk : l.ask with
  | true => rw [h _ (hl hk)]
  | false => rfl
theorem depLk_congr {D E : Nat → Bool} {t : ByteArray} {x : Deed} {p n : Nat} (hl : ∀ j, j < n → (x.links j).ask = true → (x.links j).at_.toNat < p) (h : ∀ i, i < p → D i = E i) : depLk D t x n = depLk E t x n := by
  induction n with
  | zero => rfl
  | succ n ih => rw [depLk, depLk, ih (fun j hj => hl j (by omega)), depC_congr (hl n (by omega)) h]
theorem mem_depL {f : Nat → Deed} {t : ByteArray} {k : Nat} (z : List UInt8) : z ∈ depL f t k ↔ ∃ i, i < k ∧ depIn f t k i = true ∧ (f i).name.toList = z := by
  induction k with
  | zero => simp [depL]
  | succ k ih =>
    rw [depL]
    constructor
    · intro h
      split at h
      · rename_i hc
        rcases (mem_lput _ _ _).1 h with h | h
        · obtain ⟨i, h1, h2, h3⟩ := ih.1 h
          exact ⟨i, by omega, by rw [depIn_stay h1 (by omega)]; exact h2, h3⟩
        · exact ⟨k, by omega, hc, h.symm⟩
      · obtain ⟨i, h1, h2, h3⟩ := ih.1 h
        exact ⟨i, by omega, by rw [depIn_stay h1 (by omega)]; exact h2, h3⟩
    · rintro ⟨i, h1, h2, h3⟩
      by_cases e : i = k
      · subst e
        rw [if_pos h2]
        exact (mem_lput _ _ _).2 (.inr h3.symm)
      · have hm : z ∈ depL f t k := ih.2 ⟨i, by omega, by rw [depIn_stay (show i < k by omega) (by omega)] at h2; exact h2, h3⟩
        split
        · exact (mem_lput _ _ _).2 (.inl hm)
        · exact hm
theorem depL_asc (f : Nat → Deed) (t : ByteArray) (k : Nat) : (depL f t k).Pairwise (· < ·) := by
  induction k with
  | zero => exact List.Pairwise.nil
  | succ k ih =>
    rw [depL]
    split
    · exact asc_lput ih _
    · exact ih
theorem depL_len (f : Nat → Deed) (t : ByteArray) (k : Nat) : (depL f t k).length ≤ k := by
  induction k with
  | zero => exact Nat.le_refl _
  | succ k ih =>
    rw [depL]
    split
    · have := lput_len (depL f t k) (f k).name.toList
      omega
    · omega
theorem deps_len (f : Nat → Deed) (n : Nat) (t : ByteArray) : (deps f n t).length ≤ 1048576 := by
  unfold deps
  split
  · rename_i h
    have h1 := accOk_n h
    have h2 := depL_len f t n
    omega
  · simp

/-- a valid account: what is asked for stands ahead, under that name; no two deeds have one name. -/
theorem accOk_ask {f : Nat → Deed} {n : Nat} (h : accOk f n = true) : ∀ p, p < n → ∀ j, j < (f p).linksN → ((f p).links j).ask = true → 0 ≤ ((f p).links j).at_ ∧ ((f p).links j).at_.toNat < p ∧ (f ((f p).links j).at_.toNat).name.toList = ((f p).links j).name.toList := by
  intro p hp j hj ha
  have h1 := firstNo_ok (accOk_n h).2.2 p hp
  simp only [deedOk, Bool.and_eq_true, kindOk] at h1
  obtain ⟨_, h2⟩ := h1
  have hl : linksOk f p (f p) (f p).linksN = true := by
    split at h2
    · simp [unmadeOk] at h2
      omega
    · split at h2
      · simp [unmadeOk] at h2
        omega
      · split at h2
        · simp only [targetOk, Bool.and_eq_true] at h2
          exact h2.2
        · simp at h2
  have h3 := linksOk_at hl j hj
  simp only [linkOk, ha, if_true, Bool.and_eq_true, decide_eq_true_eq, beq_iff_eq] at h3
  obtain ⟨_, ⟨⟨_, h4⟩, h5⟩, h6⟩ := h3
  exact ⟨h4, by omega, h6⟩
theorem nameNew_ne {f : Nat → Deed} {p n : Nat} (h : nameNew f p n = true) : ∀ i, i < n → (f i).name.toList ≠ (f p).name.toList := by
  induction n with
  | zero => intro i hi; omega
  | succ n ih =>
    simp only [nameNew, Bool.and_eq_true, Bool.not_eq_true', beq_eq_false_iff_ne] at h
    intro i hi
    by_cases e : i = n
    · subst e; exact h.2
    · exact ih h.1 i (by omega)
theorem accOk_new {f : Nat → Deed} {n : Nat} (h : accOk f n = true) : ∀ i j, i < n → j < n → (f i).name.toList = (f j).name.toList → i = j := by
  have h1 : (accC f n).1 = 0 := of_decide_eq_true h
  have h2 : firstNo (fun p => nameNew f p p) n = -1 := by
    unfold accC at h1
    split at h1
    · simp at h1
    · split at h1
      · simp at h1
      · split at h1
        · simp at h1
        · rename_i h3
          exact Classical.byContradiction fun hc => h3 hc
  have h3 := firstNo_ok h2
  intro i j hi hj e
  rcases Nat.lt_trichotomy i j with hlt | rfl | hlt
  · exact absurd e (nameNew_ne (h3 j hj) i hlt)
  · rfl
  · exact absurd e.symm (nameNew_ne (h3 i hi) j hlt)
/-- the name of what is asked for is among those that were put exactly if the deed is among them. -/
theorem depL_has {f : Nat → Deed} {t : ByteArray} {n p j : Nat} (h : accOk f n = true) (hp : p < n) (hj : j < (f p).linksN) (ha : ((f p).links j).ask = true) : ((f p).links j).name.toList ∈ depL f t p ↔ depIn f t p ((f p).links j).at_.toNat = true := by
  obtain ⟨h1, h2, h3⟩ := accOk_ask h p hp j hj ha
  rw [mem_depL]
  constructor
  · rintro ⟨i, hi, hd, he⟩
    have : i = ((f p).links j).at_.toNat := accOk_new h i _ (by omega) (by omega) (by rw [he, h3])
    rw [← this]
    exact hd
  · intro hd
    exact ⟨_, h2, hd, h3⟩

end Go.Proofs.YtggchgpphhhleabGreatDoor.Vp
