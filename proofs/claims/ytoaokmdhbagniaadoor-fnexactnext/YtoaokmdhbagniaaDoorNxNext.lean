/-
  Next, told without a machine: step by step, and look by look.
-/
import Derived.Test.YtoaokmdhbagniaaDoorNxRun
import Derived.Test.YtoaokmdhbagniaaDoorDReply
namespace Go.Proofs.YtoaokmdhbagniaaDoor.Vp
open Go.RowKit

def endT (c : Int) (x : ByteArray) (k : Nat) : Turn := ⟨true, c, x, false, ⟨#[]⟩, k⟩
def waitT (a : Bool) (nm : ByteArray) (k : Nat) : Turn := ⟨false, 0, ⟨#[]⟩, a, nm, k⟩
def nextP (f : Nat → Ins) (cnt : Nat) (y : Nat → Reply) (n : Nat) : Nat → Nat → Nat → Nat → List ByteArray → Turn
  | 0, _, _, _, _ => noTurn
  | k + 1, place, steps, looks, stk => match stepP f cnt place steps looks stk with
    | .over c x => endT c x (stepN cnt place steps)
    | .go s p => nextP f cnt y n k p (stepN cnt place steps) looks s
    | .look a nm s => if n ≤ looks then waitT a nm (stepN cnt place steps)
        else if a = false then nextP f cnt y n k (place + 1) (stepN cnt place steps) (looks + 1) (flagT (y looks).has :: s)
        else if (y looks).has = false then endT 4 nm (stepN cnt place steps)
        else if (y looks).code = 0 then nextP f cnt y n k (place + 1) (stepN cnt place steps) (looks + 1) ((y looks).text :: s)
        else endT 5 nm (stepN cnt place steps)
/-- How a run goes on where it halts; l looks have been, that at which it halts counted. -/
def contP (f : Nat → Ins) (cnt : Nat) (y : Nat → Reply) (n : Nat) : Halt → Turn
  | .over c x k => endT c x k
  | .look a nm s p k l => if n ≤ l - 1 then waitT a nm k
      else if a = false then nextP f cnt y n (2001 - k) p k l (flagT (y (l - 1)).has :: s)
      else if (y (l - 1)).has = false then endT 4 nm k
      else if (y (l - 1)).code = 0 then nextP f cnt y n (2001 - k) p k l ((y (l - 1)).text :: s)
      else endT 5 nm k
def looksOf (looks : Nat) : Halt → Prop
  | .over _ _ _ => True
  | .look _ _ _ _ _ l => l = looks + 1
theorem stepP_look {f : Nat → Ins} {cnt place steps looks : Nat} {stk s : List ByteArray} {a : Bool} {nm : ByteArray} (h : stepP f cnt place steps looks stk = .look a nm s) : stepN cnt place steps = steps + 1 ∧ steps ≠ 2000 := by
  unfold stepP at h
  unfold stepN
  split at h
  · cases h
  · split at h
    · cases h
    · rename_i h1 h2
      rw [if_neg h1, if_neg h2]
      exact ⟨rfl, h2⟩
theorem next_run (f : Nat → Ins) (cnt : Nat) (y : Nat → Reply) (n : Nat) (k : Nat) : ∀ place steps looks stk H, steps ≤ 2000 → 2001 - steps = k → runP f cnt k place steps looks stk = some H →
    nextP f cnt y n k place steps looks stk = contP f cnt y n H ∧ looksOf looks H := by
  induction k with
  | zero => intro _ _ _ _ _ h1 h2; omega
  | succ k ih =>
    intro place steps looks stk H h1 h2 hr
    rw [runP] at hr
    rw [nextP]
    cases hs : stepP f cnt place steps looks stk with
    | over c x =>
      rw [hs] at hr
      simp only [Option.some.injEq] at hr
      subst hr
      exact ⟨rfl, trivial⟩
    | look a nm s =>
      obtain ⟨e1, e2⟩ := stepP_look hs
      rw [hs] at hr
      simp only [Option.some.injEq] at hr
      subst hr
      simp only [contP, e1, Nat.add_sub_cancel, show 2001 - (steps + 1) = k by omega]
      exact ⟨trivial, rfl⟩
    | go s p =>
      obtain ⟨e1, e2⟩ := stepP_go hs
      rw [hs] at hr
      simp only [e1] at hr ⊢
      exact ih _ _ _ _ _ (by omega) (by omega) hr

end Go.Proofs.YtoaokmdhbagniaaDoor.Vp
