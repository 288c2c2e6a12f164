/-
  Put together of: InsB, AuBase, AuPure.
-/
import Derived.Test.YtfhdecheaeoopaaGreatDoorZDLink
import Derived.Test.YtfhdecheaeoopaaGreatDoorZCsCheck
import Derived.Test.YtfhdecheaeoopaaGreatDoorZCsSpec
import Derived.Test.YtfhdecheaeoopaaGreatDoorZAuAsc
import Derived.Test.YtfhdecheaeoopaaGreatDoorZS

/-
  Instructions compared as a whole.
-/
namespace Go.Proofs.YtfhdecheaeoopaaGreatDoor.Vp
open Go.RowKit

def insB (x y : Ins) : Bool := x.op == y.op && x.s.toList == y.s.toList && x.n == y.n
/-- the first k instructions are the same. -/
def insTo (f g : Nat → Ins) : Nat → Bool
  | 0 => true
  | k + 1 => insTo f g k && insB (f k) (g k)
def codeB (f g : Nat → Ins) (n m : Nat) : Bool := decide (n = m) && insTo f g n
theorem insTo_mono {f g : Nat → Ins} {k n : Nat} (h : k ≤ n) (hn : insTo f g n = true) : insTo f g k = true := by
  induction n with
  | zero => obtain rfl : k = 0 := by omega
            exact hn
  | succ m ih =>
    by_cases e : k = m + 1
    · subst e; exact hn
    · simp only [insTo, Bool.and_eq_true] at hn
      exact ih (by omega) hn.1
theorem insTo_false {f g : Nat → Ins} {k n : Nat} (h : k < n) (hk : insB (f k) (g k) = false) : insTo f g n = false := by
  cases e : insTo f g n with
  | false => rfl
  | true =>
    have h2 := insTo_mono (show k + 1 ≤ n by omega) e
    simp [insTo, hk] at h2

theorem toList_eqv {a b : ByteArray} (h : (a.toList == b.toList) = true) : a = b := by
  have h1 : a.toList = b.toList := by simpa using h
  rw [ByteArray.toList_eq, ByteArray.toList_eq] at h1
  exact ByteArray.ext (Array.ext' h1)

end Go.Proofs.YtfhdecheaeoopaaGreatDoor.Vp

/-
  What Audit asks of a deed and a space.
-/
namespace Go.Proofs.YtfhdecheaeoopaaGreatDoor.Vp
open Go.RowKit

/-- the space has something under the name. -/
def hasN (n0 : Nat) (f0 : Nat → Source) (n1 : Nat) (f1 : Nat → Target) (t : ByteArray) : Bool := isIn (nm0 f0) n0 t || isIn (nm1 f1) n1 t
def srcB (n0 : Nat) (f0 : Nat → Source) (t x : ByteArray) : Bool := anyTo (fun i => ((nm0 f0 i).toList == t.toList) && ((f0 i).text.toList == x.toList)) n0
def tgtB (n1 : Nat) (f1 : Nat → Target) (t : ByteArray) (n : Nat) (f : Nat → Ins) : Bool := anyTo (fun i => ((nm1 f1 i).toList == t.toList) && codeB (f1 i).act f (f1 i).actN n) n1
/-- the space has something else under the deed's name. -/
def lieB (n0 : Nat) (f0 : Nat → Source) (n1 : Nat) (f1 : Nat → Target) (d : Deed) : Bool :=
  if d.kind = 1 then !srcB n0 f0 d.name d.text else if d.kind = 3 then !tgtB n1 f1 d.name d.actN d.act else hasN n0 f0 n1 f1 d.name
def offB (n0 : Nat) (f0 : Nat → Source) (n1 : Nat) (f1 : Nat → Target) (l : Link) : Bool := !l.ask && !(l.has == hasN n0 f0 n1 f1 l.name)
def hasB (n0 : Nat) (f0 : Nat → Source) (n1 : Nat) (f1 : Nat → Target) (d : Deed) : Bool := anyTo (fun k => offB n0 f0 n1 f1 (d.links k)) d.linksN
end Go.Proofs.YtfhdecheaeoopaaGreatDoor.Vp

/-
  What Audit answers.
-/
namespace Go.Proofs.YtfhdecheaeoopaaGreatDoor.Vp
open Go.RowKit

def codeA (n0 : Nat) (f0 : Nat → Source) (n1 : Nat) (f1 : Nat → Target) (f : Nat → Deed) (p : Nat) : Int := if lieB n0 f0 n1 f1 (f p) = true then 2 else if hasB n0 f0 n1 f1 (f p) = true then 3 else codeF f p
/-- the first with a code. -/
def firF (c : Nat → Int) : Nat → Int × Int
  | 0 => (0, 0)
  | k + 1 => if (firF c k).1 = 0 then (if c k = 0 then (0, 0) else (c k, (k : Int))) else firF c k
def audC (n0 : Nat) (f0 : Nat → Source) (n1 : Nat) (f1 : Nat → Target) (f : Nat → Deed) (n : Nat) : Int × Int := if accOk f n = true then (if checkC n0 f0 n1 f1 = 0 then firF (codeA n0 f0 n1 f1 f) n else (1, 0)) else (1, 0)

theorem firF_first {c : Nat → Int} {n k : Nat} (hk : k < n) (h0 : ∀ i, i < k → c i = 0) (h : c k ≠ 0) : firF c n = (c k, (k : Int)) := by
  have hz : ∀ m, m ≤ k → firF c m = (0, 0) := by
    intro m hm
    induction m with
    | zero => rfl
    | succ m ih => rw [firF, ih (by omega), if_pos rfl, if_pos (h0 m (by omega))]
  induction n with
  | zero => omega
  | succ n ih =>
    rw [firF]
    by_cases e : k = n
    · subst e
      rw [hz k (Nat.le_refl _), if_pos rfl, if_neg h]
    · rw [ih (by omega), if_neg h]
theorem firF_none {c : Nat → Int} {n : Nat} (h0 : ∀ i, i < n → c i = 0) : firF c n = (0, 0) := by
  induction n with
  | zero => rfl
  | succ m ih => rw [firF, ih fun i hi => h0 i (by omega), if_pos rfl, if_pos (h0 m (by omega))]
theorem codeA_is (n0 : Nat) (f0 : Nat → Source) (n1 : Nat) (f1 : Nat → Target) (f : Nat → Deed) (p : Nat) : codeA n0 f0 n1 f1 f p = if lieB n0 f0 n1 f1 (f p) = true then 2 else if hasB n0 f0 n1 f1 (f p) = true then 3 else if strayB f p = true then 4 else if endB f p = true then 5 else 0 := by
  unfold codeA
  rw [code_is]
end Go.Proofs.YtfhdecheaeoopaaGreatDoor.Vp
