/-
  What Audit asks of a deed and a space.
-/
import Derived.Test.YtkfmphcjibgboaaGreatDoorZCsCheck
import Derived.Test.YtkfmphcjibgboaaGreatDoorZCsSpec
import Derived.Test.YtkfmphcjibgboaaGreatDoorZC
namespace Go.Proofs.YtkfmphcjibgboaaGreatDoor.Vp
open Go.RowKit

def insB (x y : Ins) : Bool := x.op == y.op && x.s.toList == y.s.toList && x.n == y.n
/-- the first k instructions are the same. -/
def insTo (f g : Nat → Ins) : Nat → Bool
  | 0 => true
  | k + 1 => insTo f g k && insB (f k) (g k)
def codeB (f g : Nat → Ins) (n m : Nat) : Bool := decide (n = m) && insTo f g n
theorem insTo_mono {f g : Nat → Ins} {k n : Nat} (h : k ≤ n) (hn : insTo f g n = true) : insTo f g k = true := by
  induction n with
  | zero => obtain rfl : k = 0 := by omega
            exact hn
  | succ m ih =>
    by_cases e : k = m + 1
    · subst e; exact hn
    · simp only [insTo, Bool.and_eq_true] at hn
      exact ih (by omega) hn.1
theorem insTo_false {f g : Nat → Ins} {k n : Nat} (h : k < n) (hk : insB (f k) (g k) = false) : insTo f g n = false := by
  cases e : insTo f g n with
  | false => rfl
  | true =>
    have h2 := insTo_mono (show k + 1 ≤ n by omega) e
    simp [insTo, hk] at h2

theorem toList_eqv {a b : ByteArray} (h : (a.toList == b.toList) = true) : a = b := by
  have h1 : a.toList = b.toList := by simpa using h
  rw [ByteArray.toList_eq, ByteArray.toList_eq] at h1
  exact ByteArray.ext (Array.ext' h1)
/-- no name stands twice in what is ascending. -/
theorem asc_one {g : Nat → ByteArray} {n i j : Nat} {t : ByteArray} (hs : ascTo g n = true) (hi : i < n) (hj : j < n) (h1 : ((g i).toList == t.toList) = true) (h2 : ((g j).toList == t.toList) = true) : i = j := by
  have e1 := toList_eqv h1
  have e2 := toList_eqv h2
  rcases Nat.lt_trichotomy i j with h | h | h
  · have := asc_lt hs h hj
    rw [e1, e2, tless_irrefl] at this
    cases this
  · exact h
  · have := asc_lt hs h hi
    rw [e1, e2, tless_irrefl] at this
    cases this
theorem anyTo_get {p : Nat → Bool} {n : Nat} (h : anyTo p n = true) : ∃ k, k < n ∧ p k = true := by
  induction n with
  | zero => simp [anyTo] at h
  | succ m ih =>
    simp only [anyTo, Bool.or_eq_true] at h
    rcases h with h | h
    · obtain ⟨k, hk, hp⟩ := ih h
      exact ⟨k, by omega, hp⟩
    · exact ⟨m, by omega, h⟩
/-- one of a name that is the only one, and how it is. -/
theorem any_one {g : Nat → ByteArray} {q : Nat → Bool} {n k : Nat} {t : ByteArray} (hs : ascTo g n = true) (hk : k < n) (h1 : ((g k).toList == t.toList) = true) : anyTo (fun i => ((g i).toList == t.toList) && q i) n = q k := by
  cases e : q k with
  | true => exact anyTo_true hk (by simp [h1, e])
  | false =>
    cases e2 : anyTo (fun i => ((g i).toList == t.toList) && q i) n with
    | false => rfl
    | true =>
      obtain ⟨i, hi, hp⟩ := anyTo_get e2
      simp only [Bool.and_eq_true] at hp
      obtain rfl := asc_one hs hi hk hp.1 h1
      rw [e] at hp
      exact absurd hp.2 (by simp)
theorem isIn_get {g : Nat → ByteArray} {n : Nat} {t : ByteArray} (h : isIn g n t = true) : ∃ k, k < n ∧ ((g k).toList == t.toList) = true := by
  simp only [isIn, List.any_eq_true, List.mem_range] at h
  exact h
theorem any_none {g : Nat → ByteArray} {q : Nat → Bool} {n : Nat} {t : ByteArray} (h : isIn g n t = false) : anyTo (fun i => ((g i).toList == t.toList) && q i) n = false := by
  cases e2 : anyTo (fun i => ((g i).toList == t.toList) && q i) n with
  | false => rfl
  | true =>
    obtain ⟨i, hi, hp⟩ := anyTo_get e2
    simp only [Bool.and_eq_true] at hp
    rw [isIn_true hi hp.1] at h
    cases h

/-- the space has something under the name. -/
def hasN (n0 : Nat) (f0 : Nat → Source) (n1 : Nat) (f1 : Nat → Target) (t : ByteArray) : Bool := isIn (nm0 f0) n0 t || isIn (nm1 f1) n1 t
def srcB (n0 : Nat) (f0 : Nat → Source) (t x : ByteArray) : Bool := anyTo (fun i => ((nm0 f0 i).toList == t.toList) && ((f0 i).text.toList == x.toList)) n0
def tgtB (n1 : Nat) (f1 : Nat → Target) (t : ByteArray) (n : Nat) (f : Nat → Ins) : Bool := anyTo (fun i => ((nm1 f1 i).toList == t.toList) && codeB (f1 i).act f (f1 i).actN n) n1
/-- the space has something else under the deed's name. -/
def lieB (n0 : Nat) (f0 : Nat → Source) (n1 : Nat) (f1 : Nat → Target) (d : Deed) : Bool :=
  if d.kind = 1 then !srcB n0 f0 d.name d.text else if d.kind = 3 then !tgtB n1 f1 d.name d.actN d.act else hasN n0 f0 n1 f1 d.name
def offB (n0 : Nat) (f0 : Nat → Source) (n1 : Nat) (f1 : Nat → Target) (l : Link) : Bool := !l.ask && !(l.has == hasN n0 f0 n1 f1 l.name)
def hasB (n0 : Nat) (f0 : Nat → Source) (n1 : Nat) (f1 : Nat → Target) (d : Deed) : Bool := anyTo (fun k => offB n0 f0 n1 f1 (d.links k)) d.linksN
/-- a valid space is ascending and small. -/
theorem check_asc {n0 : Nat} {f0 : Nat → Source} {n1 : Nat} {f1 : Nat → Target} (h : checkC n0 f0 n1 f1 = 0) : ascTo (nm0 f0) n0 = true ∧ ascTo (nm1 f1) n1 = true ∧ n0 + n1 ≤ 200 := by
  unfold checkC at h
  split at h; · omega
  split at h; · omega
  split at h; · omega
  split at h; · omega
  split at h; · omega
  rename_i h0 _ _ h3 h4
  exact ⟨by simpa using h3, by simpa using h4, by omega⟩

end Go.Proofs.YtkfmphcjibgboaaGreatDoor.Vp
