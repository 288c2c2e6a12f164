/-
  Instructions compared as a whole.
-/
import Derived.Test.YtfhdecheaeoopaaGreatDoorZDAccount
namespace Go.Proofs.YtfhdecheaeoopaaGreatDoor.Vp
open Go.RowKit

def insB (x y : Ins) : Bool := x.op == y.op && x.s.toList == y.s.toList && x.n == y.n
/-- the first k instructions are the same. -/
def insTo (f g : Nat → Ins) : Nat → Bool
  | 0 => true
  | k + 1 => insTo f g k && insB (f k) (g k)
def codeB (f g : Nat → Ins) (n m : Nat) : Bool := decide (n = m) && insTo f g n
theorem insTo_mono {f g : Nat → Ins} {k n : Nat} (h : k ≤ n) (hn : insTo f g n = true) : insTo f g k = true := by
  induction n with
  | zero => obtain rfl : k = 0 := by omega
            exact hn
  | succ m ih =>
    by_cases e : k = m + 1
    · subst e; exact hn
    · simp only [insTo, Bool.and_eq_true] at hn
      exact ih (by omega) hn.1
theorem insTo_false {f g : Nat → Ins} {k n : Nat} (h : k < n) (hk : insB (f k) (g k) = false) : insTo f g n = false := by
  cases e : insTo f g n with
  | false => rfl
  | true =>
    have h2 := insTo_mono (show k + 1 ≤ n by omega) e
    simp [insTo, hk] at h2

theorem toList_eqv {a b : ByteArray} (h : (a.toList == b.toList) = true) : a = b := by
  have h1 : a.toList = b.toList := by simpa using h
  rw [ByteArray.toList_eq, ByteArray.toList_eq] at h1
  exact ByteArray.ext (Array.ext' h1)

end Go.Proofs.YtfhdecheaeoopaaGreatDoor.Vp
