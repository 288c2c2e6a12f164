/-
  What Follows answers.
-/
import Derived.Test.YtggchgpphhhleabGreatDoorZNmList
import Derived.Test.YtggchgpphhhleabGreatDoorZQ
namespace Go.Proofs.YtggchgpphhhleabGreatDoor.Vp
open Go.RowKit

/-- what a link answers. -/
def ansR (f : Nat → Deed) (l : Link) : Reply :=
  if l.ask = true then
    (if (f l.at_.toNat).kind = 1 then ⟨true, 0, (f l.at_.toNat).text⟩ else if (f l.at_.toNat).kind = 3 then ⟨true, (f l.at_.toNat).code, (f l.at_.toNat).text⟩ else ⟨false, 0, ⟨#[]⟩⟩)
  else ⟨l.has, 0, ⟨#[]⟩⟩
def yOf (f : Nat → Deed) (p : Nat) (k : Nat) : Reply := ansR f ((f p).links k)
/-- where a target's run stands behind k replies. -/
def turnK (f : Nat → Deed) (p k : Nat) : Turn := nextP (f p).act (f p).actN (yOf f p) k 2001 0 0 0 []
/-- the run does not go on by link k. -/
def offK (f : Nat → Deed) (p k : Nat) : Bool := (turnK f p k).over || !((turnK f p k).name.toList == ((f p).links k).name.toList) || !((turnK f p k).ask == ((f p).links k).ask)
/-- the first link, from k on, by which it does not go on; j links are left. -/
def stopK (f : Nat → Deed) (p : Nat) : Nat → Nat → Nat
  | 0, k => k
  | j + 1, k => if offK f p k = true then k else stopK f p j (k + 1)
def stopAt (f : Nat → Deed) (p : Nat) : Nat := stopK f p (f p).linksN 0
def codeR (f : Nat → Deed) (p : Nat) : Int :=
  if stopAt f p < (f p).linksN then 4 else if (turnK f p (stopAt f p)).over = false then 4 else if (turnK f p (stopAt f p)).code = (f p).code ∧ (turnK f p (stopAt f p)).text.toList = (f p).text.toList then 0 else 5
def codeF (f : Nat → Deed) (p : Nat) : Int := if (f p).kind = 3 then codeR f p else 0
/-- the first deed with a code. -/
def folF (f : Nat → Deed) : Nat → Int × Int
  | 0 => (0, 0)
  | k + 1 => if (folF f k).1 = 0 then (if codeF f k = 0 then (0, 0) else (codeF f k, (k : Int))) else folF f k
def folC (f : Nat → Deed) (n : Nat) : Int × Int := if accOk f n = true then folF f n else (1, 0)

theorem stopK_le (f : Nat → Deed) (p : Nat) : ∀ j k, k ≤ stopK f p j k ∧ stopK f p j k ≤ k + j
  | 0, k => ⟨Nat.le_refl _, Nat.le_refl _⟩
  | j + 1, k => by
    rw [stopK]
    split
    · omega
    · have := stopK_le f p j (k + 1)
      omega
theorem stopK_go {f : Nat → Deed} {p j k : Nat} (h : offK f p k = false) : stopK f p (j + 1) k = stopK f p j (k + 1) := by
  rw [stopK, if_neg (by rw [h]; simp)]
theorem stopK_at {f : Nat → Deed} {p j k : Nat} (h : offK f p k = true) : stopK f p (j + 1) k = k := by
  rw [stopK, if_pos h]

theorem folF_first {f : Nat → Deed} {n k : Nat} (hk : k < n) (h0 : ∀ i, i < k → codeF f i = 0) (h : codeF f k ≠ 0) : folF f n = (codeF f k, (k : Int)) := by
  have hz : ∀ m, m ≤ k → folF f m = (0, 0) := by
    intro m hm
    induction m with
    | zero => rfl
    | succ m ih => rw [folF, ih (by omega), if_pos rfl, if_pos (h0 m (by omega))]
  induction n with
  | zero => omega
  | succ n ih =>
    rw [folF]
    by_cases e : k = n
    · subst e
      rw [hz k (Nat.le_refl _), if_pos rfl, if_neg h]
    · rw [ih (by omega), if_neg h]
theorem folF_none {f : Nat → Deed} {n : Nat} (h0 : ∀ i, i < n → codeF f i = 0) : folF f n = (0, 0) := by
  induction n with
  | zero => rfl
  | succ m ih => rw [folF, ih fun i hi => h0 i (by omega), if_pos rfl, if_pos (h0 m (by omega))]

/-- a valid account: each deed is one of the three kinds; a target's program is valid, its links are at most 200; what is not made has no code, what is none no text. -/
theorem accOk_deed {f : Nat → Deed} {n : Nat} (h : accOk f n = true) : ∀ p, p < n → (f p).text.size ≤ 2000 ∧ ((f p).kind = 1 ∧ (f p).code = 0 ∨ (f p).kind = 2 ∧ (f p).code = 0 ∧ (f p).text.size = 0 ∨ (f p).kind = 3 ∧ 0 ≤ (f p).code ∧ (f p).code ≤ 5 ∧ valid (f p).act (f p).actN = true ∧ (f p).linksN ≤ 200) := by
  intro p hp
  have h1 := firstNo_ok (accOk_n h).2.2 p hp
  simp only [deedOk, Bool.and_eq_true, kindOk, decide_eq_true_eq] at h1
  obtain ⟨⟨_, h0⟩, h2⟩ := h1
  refine ⟨h0, ?_⟩
  split at h2
  · rename_i hk
    simp only [unmadeOk, Bool.and_eq_true, decide_eq_true_eq] at h2
    exact .inl ⟨hk, h2.1.1⟩
  · split at h2
    · rename_i hk
      simp only [unmadeOk, Bool.and_eq_true, decide_eq_true_eq] at h2
      exact .inr (.inl ⟨hk, h2.1.1.1, h2.2⟩)
    · split at h2
      · rename_i hk
        simp only [targetOk, Bool.and_eq_true, decide_eq_true_eq] at h2
        exact .inr (.inr ⟨hk, h2.1.1.1.1, h2.1.1.1.2, h2.1.1.2, h2.1.2⟩)
      · simp at h2
/-- every reply is valid. -/
theorem ansR_ok {f : Nat → Deed} {n : Nat} (h : accOk f n = true) {l : Link} (hl : l.ask = true → l.at_.toNat < n) : replyOk (ansR f l) = true := by
  unfold ansR replyOk
  split
  · rename_i ha
    obtain ⟨h1, h2⟩ := accOk_deed h _ (hl ha)
    split
    · simp; omega
    · split
      · rename_i hk1 hk3
        rcases h2 with h2 | h2 | h2
        · omega
        · omega
        · simp; omega
      · exact decide_eq_true ⟨Nat.zero_le _, by decide, by decide⟩
  · exact decide_eq_true ⟨Nat.zero_le _, Int.le_refl _, show (0 : Int) ≤ 7 by decide⟩
theorem repliesTo_of {y : Nat → Reply} {k : Nat} (h : ∀ i, i < k → replyOk (y i) = true) : repliesTo y k = true := by
  induction k with
  | zero => rfl
  | succ k ih => rw [repliesTo, ih fun i hi => h i (by omega), h k (by omega)]; rfl
/-- what impl's replyOf gives is the same. -/
theorem ansR_impl {f : Nat → Deed} {n : Nat} (h : accOk f n = true) {l : Link} (ha : l.ask = true) (hl : l.at_.toNat < n) : ansR f l = ⟨decide (¬ (f l.at_.toNat).kind = 2), (f l.at_.toNat).code, (f l.at_.toNat).text⟩ := by
  obtain ⟨h1, h2⟩ := accOk_deed h _ hl
  unfold ansR
  rw [if_pos ha]
  rcases h2 with ⟨hk, hc⟩ | ⟨hk, hc, ht⟩ | ⟨hk, hc⟩
  · rw [if_pos hk, hk, hc]; rfl
  · rw [if_neg (by omega), if_neg (by omega), hk, hc]
    have : (f l.at_.toNat).text = ⟨#[]⟩ := ByteArray.ext (Array.eq_empty_of_size_eq_zero ht)
    rw [this]; rfl
  · rw [if_neg (by omega), if_pos hk, hk]; rfl

end Go.Proofs.YtggchgpphhhleabGreatDoor.Vp
