/-
  What is written of a program.
-/
import Derived.Test.YtolpgafkojlkoaaDoorVpSpec
import Derived.Test.YtolpgafkojlkoaaDoorPpDef
namespace Go.Proofs.YtolpgafkojlkoaaDoor.Vp
open Go.RowKit

/-- The lines of the first k instructions. -/
def progTo (f : Nat → Ins) : Nat → List UInt8
  | 0 => []
  | k + 1 => progTo f k ++ lineB (f k).op (f k).s.data.toList (f k).n ++ [10]
def printed (f : Nat → Ins) (n : Nat) : List UInt8 := if valid f n = true then progTo f n else []
theorem progTo_le {f : Nat → Ins} {n : Nat} (h : okTo f n = true) : ∀ k, k ≤ n → (progTo f k).length ≤ 6011 * k := by
  intro k
  induction k with
  | zero => intro _; simp [progTo]
  | succ k ih =>
    intro hk
    have h1 := ih (by omega)
    have h2 := lineB_le _ _ _ (ok_at h (show k < n by omega))
    simp only [progTo, List.length_append, List.length_cons, List.length_nil]
    omega
theorem progTo_ne {f : Nat → Ins} {n : Nat} (h : 0 < n) : progTo f n ≠ [] := by
  cases n with
  | zero => omega
  | succ k => simp [progTo]

end Go.Proofs.YtolpgafkojlkoaaDoor.Vp
