/-
  What Audit answers.
-/
import Derived.Test.YtfhdecheaeoopaaGreatDoorZY
import Derived.Test.YtfhdecheaeoopaaGreatDoorZAuBase
namespace Go.Proofs.YtfhdecheaeoopaaGreatDoor.Vp
open Go.RowKit

def codeA (n0 : Nat) (f0 : Nat → Source) (n1 : Nat) (f1 : Nat → Target) (f : Nat → Deed) (p : Nat) : Int := if lieB n0 f0 n1 f1 (f p) = true then 2 else if hasB n0 f0 n1 f1 (f p) = true then 3 else codeF f p
/-- the first with a code. -/
def firF (c : Nat → Int) : Nat → Int × Int
  | 0 => (0, 0)
  | k + 1 => if (firF c k).1 = 0 then (if c k = 0 then (0, 0) else (c k, (k : Int))) else firF c k
def audC (n0 : Nat) (f0 : Nat → Source) (n1 : Nat) (f1 : Nat → Target) (f : Nat → Deed) (n : Nat) : Int × Int := if accOk f n = true then (if checkC n0 f0 n1 f1 = 0 then firF (codeA n0 f0 n1 f1 f) n else (1, 0)) else (1, 0)

theorem firF_first {c : Nat → Int} {n k : Nat} (hk : k < n) (h0 : ∀ i, i < k → c i = 0) (h : c k ≠ 0) : firF c n = (c k, (k : Int)) := by
  have hz : ∀ m, m ≤ k → firF c m = (0, 0) := by
    intro m hm
    induction m with
    | zero => rfl
    | succ m ih => rw [firF, ih (by omega), if_pos rfl, if_pos (h0 m (by omega))]
  induction n with
  | zero => omega
  | succ n ih =>
    rw [firF]
    by_cases e : k = n
    · subst e
      rw [hz k (Nat.le_refl _), if_pos rfl, if_neg h]
    · rw [ih (by omega), if_neg h]
theorem firF_none {c : Nat → Int} {n : Nat} (h0 : ∀ i, i < n → c i = 0) : firF c n = (0, 0) := by
  induction n with
  | zero => rfl
  | succ m ih => rw [firF, ih fun i hi => h0 i (by omega), if_pos rfl, if_pos (h0 m (by omega))]
theorem codeA_is (n0 : Nat) (f0 : Nat → Source) (n1 : Nat) (f1 : Nat → Target) (f : Nat → Deed) (p : Nat) : codeA n0 f0 n1 f1 f p = if lieB n0 f0 n1 f1 (f p) = true then 2 else if hasB n0 f0 n1 f1 (f p) = true then 3 else if strayB f p = true then 4 else if endB f p = true then 5 else 0 := by
  unfold codeA
  rw [code_is]
end Go.Proofs.YtfhdecheaeoopaaGreatDoor.Vp
