/-
  Data: Program, a struct of one slice of Ins. Written by tools/wrap.py. Parted by tools/splitd.py.
-/
import Derived.Test.YtolpgafkojlkoaaDoorDInsB
namespace Go.Proofs.YtolpgafkojlkoaaDoor.Vp
open Go.RowKit

set_option maxHeartbeats 1000000 in
theorem eqProgram_any (a a2 : Option Addr) (cap cap2 n : Nat) (f : Nat → Ins) (w : World) (hn : n ≤ 1048576) (h : SlIns w a n f) (h2 : SlIns w a2 n f) :
    Calls Tryd.prog 27 #[.agg #[.slice a n cap], .agg #[.slice a2 n cap2]] w fun e w' => e = .returned (.bool true) ∧ Below w.heap.size w w' := by
  have HF := hide h
  have HF2 := hide h2
  clear h h2
  go_enter Tryd.func27, Tryd.ntmps27
  go_wp2_with fail
  have hA := hide (((Below.refl w.heap.size w).alloc (Nat.le_refl _) (.cells #[.slice a n cap] 57)).alloc (by simp) (.cells #[.slice a2 n cap2] 57))
  refine (eqInsS_any a a2 cap cap2 n f _ hn (HF.below hA (Nat.le_refl _)) (HF2.below hA (Nat.le_refl _))).mono ?_
  rintro e w' ⟨rfl, hB⟩
  go_wp2
  go_ret
  exact ⟨rfl, hA.trans (hB.mono (by simp; omega))⟩

end Go.Proofs.YtolpgafkojlkoaaDoor.Vp
