/-
  CheckAccount: what it answers.
-/
import Derived.Test.YtolpgafkojlkoabDoorDAccountB
import Derived.Test.YtolpgafkojlkoabDoorVpSpec
import Derived.Test.YtolpgafkojlkoabDoorDName
namespace Go.Proofs.YtolpgafkojlkoabDoor.Vp
open Go.RowKit

def linkOk (f : Nat → Deed) (p : Nat) (l : Link) : Bool :=
  nameOk l.name && (if l.ask = true then !l.has && decide (0 ≤ l.at_) && decide (l.at_ < (p : Int)) && ((f l.at_.toNat).name.toList == l.name.toList) else decide (l.at_ = 0))
def linksOk (f : Nat → Deed) (p : Nat) (x : Deed) : Nat → Bool
  | 0 => true
  | k + 1 => linksOk f p x k && linkOk f p (x.links k)
def unmadeOk (x : Deed) : Bool := decide (x.code = 0) && decide (x.actN = 0) && decide (x.linksN = 0)
def targetOk (f : Nat → Deed) (p : Nat) (x : Deed) : Bool := decide (0 ≤ x.code) && decide (x.code ≤ 5) && valid x.act x.actN && decide (x.linksN ≤ 200) && linksOk f p x x.linksN
def kindOk (f : Nat → Deed) (p : Nat) (x : Deed) : Bool :=
  if x.kind = 1 then unmadeOk x else if x.kind = 2 then unmadeOk x && decide (x.text.size = 0) else if x.kind = 3 then targetOk f p x else false
def deedOk (f : Nat → Deed) (p : Nat) : Bool := nameOk (f p).name && decide ((f p).text.size ≤ 2000) && kindOk f p (f p)
def nameNew (f : Nat → Deed) (p : Nat) : Nat → Bool
  | 0 => true
  | k + 1 => nameNew f p k && !((f k).name.toList == (f p).name.toList)

/-- The first place below n that is not so, or -1. -/
def firstNo (g : Nat → Bool) : Nat → Int
  | 0 => -1
  | k + 1 => if firstNo g k = -1 then (if g k = true then -1 else k) else firstNo g k
theorem firstNo_all {g : Nat → Bool} {n : Nat} (h : ∀ i, i < n → g i = true) : firstNo g n = -1 := by
  induction n with
  | zero => rfl
  | succ k ih =>
    rw [firstNo, if_pos (ih fun i hi => h i (by omega)), if_pos (h k (by omega))]
theorem firstNo_at {g : Nat → Bool} {n i : Nat} (hi : i < n) (hg : g i = false) (h : ∀ j, j < i → g j = true) : firstNo g n = i := by
  induction n with
  | zero => omega
  | succ k ih =>
    rw [firstNo]
    by_cases e : i = k
    · subst e
      rw [if_pos (firstNo_all h), if_neg (by rw [hg]; simp)]
    · have := ih (by omega)
      rw [this, if_neg (by omega)]
theorem firstNo_ok {g : Nat → Bool} {n : Nat} (h : firstNo g n = -1) : ∀ i, i < n → g i = true := by
  induction n with
  | zero => intro i hi; omega
  | succ k ih =>
    rw [firstNo] at h
    split at h
    · rename_i h1
      intro i hi
      by_cases e : i = k
      · subst e
        cases hg : g i with
        | true => rfl
        | false => rw [hg] at h; simp at h
      · exact ih h1 i (by omega)
    · rename_i h1
      exact absurd h h1
theorem linksOk_at {f : Nat → Deed} {p : Nat} {x : Deed} {n : Nat} (h : linksOk f p x n = true) : ∀ i, i < n → linkOk f p (x.links i) = true := by
  induction n with
  | zero => intro i hi; omega
  | succ k ih =>
    simp only [linksOk, Bool.and_eq_true] at h
    intro i hi
    by_cases e : i = k
    · subst e; exact h.2
    · exact ih h.1 i (by omega)

/-- What the links of a deed list, one after the other. -/
def lks (go : Nat → Nat → (Nat → Bool) → (Nat → Bool) × List (Nat × Nat)) (x : Deed) (d : Nat) (s : Nat → Bool) : Nat → (Nat → Bool) × List (Nat × Nat)
  | 0 => (s, [])
  | j + 1 => if (x.links j).ask = true ∧ (lks go x d s j).1 (x.links j).at_.toNat = false then ((go (x.links j).at_.toNat (d + 1) (lks go x d s j).1).1, (lks go x d s j).2 ++ (go (x.links j).at_.toNat (d + 1) (lks go x d s j).1).2) else lks go x d s j
def put (s : Nat → Bool) (p : Nat) : Nat → Bool := fun q => q == p || s q
/-- A deed listed: the places that are listed then, and what was listed, each with the number of deeds around it. -/
def lst (f : Nat → Deed) : Nat → Nat → Nat → (Nat → Bool) → (Nat → Bool) × List (Nat × Nat)
  | 0, _, _, s => (s, [])
  | k + 1, p, d, s => (put (lks (lst f k) (f p) d s (f p).linksN).1 p, (lks (lst f k) (f p) d s (f p).linksN).2 ++ [(p, d)])
/-- The asks of a deed stand ahead of it. -/
def Ahead (f : Nat → Deed) (n : Nat) : Prop := ∀ p, p < n → ∀ i, i < (f p).linksN → ((f p).links i).ask = true → ((f p).links i).at_.toNat < p ∧ 0 ≤ ((f p).links i).at_
def cnt (s : Nat → Bool) : Nat → Nat
  | 0 => 0
  | k + 1 => cnt s k + (if s k = true then 1 else 0)
theorem cnt_le (s : Nat → Bool) (n : Nat) : cnt s n ≤ n := by
  induction n with
  | zero => simp [cnt]
  | succ k ih => rw [cnt]; split <;> omega
theorem cnt_congr {s s' : Nat → Bool} {n : Nat} (h : ∀ q, q < n → s q = s' q) : cnt s n = cnt s' n := by
  induction n with
  | zero => rfl
  | succ k ih => rw [cnt, cnt, ih fun q hq => h q (by omega), h k (by omega)]
theorem cnt_put {s : Nat → Bool} {p n : Nat} (hp : p < n) (h : s p = false) : cnt (put s p) n = cnt s n + 1 := by
  induction n with
  | zero => omega
  | succ k ih =>
    rw [cnt, cnt]
    by_cases e : p = k
    · subst e
      have h1 : cnt (put s p) p = cnt s p := cnt_congr fun q hq => by simp [put]; omega
      simp [h1, put, h]
    · have h1 : put s p k = s k := by simp [put]; omega
      rw [ih (by omega), h1]
      omega
/-- What a listing of p makes of the places: p is listed, none behind it is touched, each is listed once. -/
structure Lsd (n p d : Nat) (s : Nat → Bool) (r : (Nat → Bool) × List (Nat × Nat)) : Prop where
  far : ∀ q, p < q → r.1 q = s q
  old : ∀ q, s q = true → r.1 q = true
  num : cnt r.1 n = cnt s n + r.2.length
  last : ∃ o, r.2 = o ++ [(p, d)]
  le : ∀ x ∈ r.2, x.1 ≤ p
theorem lks_inv {f : Nat → Deed} {n k p d : Nat} {s : Nat → Bool} (hA : Ahead f n) (hp : p < n) (go : ∀ q d s, q < p → s q = false → Lsd n q d s (lst f k q d s)) :
    ∀ j, j ≤ (f p).linksN → (∀ q, p ≤ q → (lks (lst f k) (f p) d s j).1 q = s q) ∧ (∀ q, s q = true → (lks (lst f k) (f p) d s j).1 q = true) ∧ cnt (lks (lst f k) (f p) d s j).1 n = cnt s n + (lks (lst f k) (f p) d s j).2.length ∧ ∀ x ∈ (lks (lst f k) (f p) d s j).2, x.1 < p
  | 0, _ => ⟨fun _ _ => rfl, fun _ h => h, by simp [lks], by simp [lks]⟩
  | j + 1, hj => by
    obtain ⟨h1, h2, h3, h4⟩ := lks_inv (d := d) (s := s) hA hp go j (by omega)
    rw [lks]
    split
    · rename_i hc
      have ha := (hA p hp j (by omega) hc.1).1
      have g := go _ (d + 1) _ ha hc.2
      refine ⟨fun q hq => (g.far q (by omega)).trans (h1 q hq), fun q hq => g.old q (h2 q hq), ?_, fun x hx => ?_⟩
      · show cnt (lst f k _ (d + 1) _).1 n = _
        rw [g.num, h3, List.length_append]
        omega
      · rcases List.mem_append.1 hx with hx | hx
        · exact h4 x hx
        · have := g.le x hx
          omega
    · exact ⟨h1, h2, h3, h4⟩
theorem lst_inv {f : Nat → Deed} {n : Nat} (hA : Ahead f n) : ∀ k p d s, p < k → p < n → s p = false → Lsd n p d s (lst f k p d s)
  | 0, _, _, _, h, _, _ => absurd h (Nat.not_lt_zero _)
  | k + 1, p, d, s, hk, hn, hs => by
    obtain ⟨h1, h2, h3, h4⟩ := lks_inv (d := d) (s := s) hA hn (fun q d s hq hs => lst_inv hA k q d s (by omega) (by omega) hs) (f p).linksN (Nat.le_refl _)
    have hp := (h1 p (Nat.le_refl _)).trans hs
    refine ⟨fun q hq => ?_, fun q hq => ?_, ?_, ⟨_, rfl⟩, fun x hx => ?_⟩
    · show put _ p q = s q
      rw [put, h1 q (by omega)]
      simp; omega
    · show put _ p q = true
      rw [put, h2 q hq]
      simp
    · show cnt (put _ p) n = _
      rw [cnt_put hn hp, h3]
      simp [lst, List.length_append]
      omega
    · rcases List.mem_append.1 hx with hx | hx
      · exact Nat.le_of_lt (h4 x hx)
      · simp at hx
        subst hx
        exact Nat.le_refl _
/-- It hangs on no place behind. -/
theorem lst_put {f : Nat → Deed} {n : Nat} (hA : Ahead f n) : ∀ k p d s q, p < n → p < q → lst f k p d (put s q) = (put (lst f k p d s).1 q, (lst f k p d s).2)
  | 0, _, _, _, _, _, _ => rfl
  | k + 1, p, d, s, q, hn, hq => by
    have key : ∀ j, j ≤ (f p).linksN → lks (lst f k) (f p) d (put s q) j = (put (lks (lst f k) (f p) d s j).1 q, (lks (lst f k) (f p) d s j).2) := by
      intro j
      induction j with
      | zero => intro _; rfl
      | succ j ih =>
        intro hj
        have e := ih (by omega)
        rw [lks, lks, e]
        by_cases hk : ((f p).links j).ask = true
        · have ha := (hA p hn j (by omega) hk).1
          have e2 : put (lks (lst f k) (f p) d s j).1 q ((f p).links j).at_.toNat = (lks (lst f k) (f p) d s j).1 ((f p).links j).at_.toNat := by simp [put]; omega
          simp only [e2, hk, true_and]
          split
          · rw [lst_put hA k _ (d + 1) _ q (by omega) (by omega)]
          · rfl
        · rw [if_neg (fun h => hk h.1), if_neg (fun h => hk h.1)]
    have e := key (f p).linksN (Nat.le_refl _)
    rw [lst, lst, e]
    simp only [Prod.mk.injEq, and_true]
    funext x
    simp only [put]
    cases h1 : x == p <;> cases h2 : x == q <;> simp
def offAt : Nat → List (Nat × Nat) → Int
  | _, [] => -1
  | i, x :: xs => if x.1 = i then offAt (i + 1) xs else i
def deepAt (f : Nat → Deed) : List (Nat × Nat) → Int
  | [] => -1
  | x :: xs => if (f x.1).kind = 3 ∧ 60 ≤ x.2 then x.1 else deepAt f xs
def listing (f : Nat → Deed) (n : Nat) : List (Nat × Nat) := (lst f n (n - 1) 0 (fun _ => false)).2
/-- The code and the place. -/
def accC (f : Nat → Deed) (n : Nat) : Int × Int :=
  if n = 0 ∨ 400 < n then (1, 0) else
  if firstNo (deedOk f) n ≠ -1 then (2, firstNo (deedOk f) n) else
  if firstNo (fun p => nameNew f p p) n ≠ -1 then (3, firstNo (fun p => nameNew f p p) n) else
  if offAt 0 (listing f n) ≠ -1 then (4, offAt 0 (listing f n)) else
  if deepAt f (listing f n) ≠ -1 then (5, deepAt f (listing f n)) else (0, 0)
theorem ahead_of {f : Nat → Deed} {n : Nat} (h : firstNo (deedOk f) n = -1) : Ahead f n := by
  intro p hp i hi ha
  have h1 := firstNo_ok h p hp
  simp only [deedOk, Bool.and_eq_true, kindOk] at h1
  obtain ⟨_, h2⟩ := h1
  split at h2
  · simp [unmadeOk] at h2
    omega
  · split at h2
    · simp [unmadeOk] at h2
      omega
    · split at h2
      · simp only [targetOk, Bool.and_eq_true] at h2
        have h3 := linksOk_at h2.2 i hi
        simp only [linkOk, ha, if_true, Bool.and_eq_true, decide_eq_true_eq] at h3
        omega
      · cases h2

end Go.Proofs.YtolpgafkojlkoabDoor.Vp
