/-
  ValidProgram of a program that may have no instruction.
-/
import Derived.Test.YtolpgafkojlkoabDoorVpImpl
namespace Go.Proofs.YtolpgafkojlkoabDoor.Vp
open Go.RowKit

theorem valid_zero (f : Nat → Ins) : valid f 0 = false := by simp [valid]
theorem implValid_sl (a : Option Addr) (n cap : Nat) (f : Nat → Ins) (w : World) (hn : n ≤ 1048576) (hv : SlIns w a n f) (hT : Tab w) :
    Calls Tryd.prog 34 #[.agg #[.slice a n cap]] w fun e w' => e = .returned (.bool (valid f n)) ∧ Below w.heap.size w w' := by
  rcases hv with rfl | ⟨b, off, rfl, hr⟩
  · exact implValid_no a 0 cap f w (by omega) (by simp)
  · exact implValid_any b off n cap f w hn hr.1 hr.2 hT
set_option maxHeartbeats 1000000 in
theorem specValid_nil (a : Option Addr) (cap : Nat) (f : Nat → Ins) (w : World) : Calls Tryd.prog 29 #[.agg #[.slice a 0 cap]] w fun e w' => e = .returned (.bool (valid f 0)) ∧ Below w.heap.size w w' := by
  rw [valid_zero]
  have A0 := hide ((Below.refl w.heap.size w).alloc (Nat.le_refl _) (.cells #[.slice a 0 cap] 38))
  go_enter Tryd.func29, Tryd.ntmps29
  go_wp2
  go_loop [3] (fun i => i = .int .i64 0) (fun _ => 0)
  case atStart => rfl
  case round =>
    subst hrel
    go_wp2
    go_ret
    exact ⟨rfl, A0⟩
theorem specValid_sl (a : Option Addr) (n cap : Nat) (f : Nat → Ins) (w : World) (hn : n ≤ 1048576) (hv : SlIns w a n f) (hs : ∀ i, i < n → (f i).s.size ≤ maxLen) :
    Calls Tryd.prog 29 #[.agg #[.slice a n cap]] w fun e w' => e = .returned (.bool (valid f n)) ∧ Below w.heap.size w w' := by
  rcases hv with rfl | ⟨b, off, rfl, hr⟩
  · exact specValid_nil a cap f w
  · exact specValid_row b off n cap f w hn hr.1 hr.2 hs

end Go.Proofs.YtolpgafkojlkoabDoor.Vp
