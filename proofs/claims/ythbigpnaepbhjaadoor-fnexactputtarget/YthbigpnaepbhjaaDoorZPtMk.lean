/-
  laws.markProgram.
-/
import Derived.Test.YthbigpnaepbhjaaDoorZPtKit
namespace Go.Proofs.YthbigpnaepbhjaaDoor.Vp
open Go.RowKit

set_option maxRecDepth 100000 in
set_option maxHeartbeats 2000000 in
theorem markProgram_any (g n c k0 : Nat) (w : World) (hn : (n : Int) ≤ 1048576) (h1 : 1 ≤ (k0 : Int)) (h2 : (k0 : Int) ≤ 1152921504606846976) (h : PCells w g n) :
    Calls Tryd.prog 18 #[.agg #[.slice (some ⟨g, 0, none⟩) n c], .int .i64 k0] w fun e w' => ∃ r : Nat, e = .returned (.int .i64 r) ∧ Touch (fun k => k = g) w w' := by
  obtain ⟨hg, F, hF⟩ := h
  have A0 := hide ((Below.refl w.heap.size w).alloc (Nat.le_refl _) (.cells #[.slice (some ⟨g, 0, none⟩) n c] 44))
  have HF := hide (hF.block A0.out.size (A0.out.block g hg))
  clear hF
  go_enter Tryd.func18, Tryd.ntmps18
  go_wp2_with fail
  refine (markInsS_row g 0 n c k0 F _ hn h1 h2 HF.out).mono ?_
  rintro e w1 ⟨rfl, _, hW⟩
  have T0 := hide (Touch.of_below (P := fun k => k = g) A0.out (Nat.le_refl _))
  have T1 := hide (T0.out.trans (Touch.of_within (P := fun k => k = g) hW rfl))
  clear hW
  go_wp2
  go_ret
  exact ⟨_, rfl, T1.out⟩

end Go.Proofs.YthbigpnaepbhjaaDoor.Vp
