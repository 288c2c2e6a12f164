/-
  Data: Program, a struct of one slice of Ins. Written by tools/wrap.py.
-/
import Derived.Test.YtolpgafkojlkoabDoorDProgramB
import Derived.Test.YtolpgafkojlkoabDoorDIns
namespace Go.Proofs.YtolpgafkojlkoabDoor.Vp
open Go.RowKit

set_option maxHeartbeats 400000 in
theorem szProgram_any (a : Option Addr) (n cap : Nat) (f : Nat → Ins) (left : Int) (w : World) (h0 : 0 ≤ left) (h1 : left ≤ 1048576) (hn : (n : Int) ≤ 9223372036854775807) (hv : SlIns w a n f) (hs : ∀ i, i < n → (f i).s.size ≤ maxLen) :
    Calls Tryd.prog 27 #[.agg #[.slice a n cap], .int .i64 left] w fun e w' => ∃ r : Int, e = .returned (.int .i64 r) ∧ -1 ≤ r ∧ r ≤ left ∧ (0 ≤ r → (n : Int) ≤ left) ∧ Below w.heap.size w w' := by
  have HV := hide hv
  have HS := hide hs
  clear hv hs
  go_enter Tryd.func27, Tryd.ntmps27
  go_wp2_with fail
  refine (szInsS_any a n cap f left _ h0 h1 hn (HV.below ((Below.refl _ _).alloc (Nat.le_refl _) _) (Nat.le_refl _)) HS).mono ?_
  rintro e w' ⟨r, rfl, hr1, hr2, hr3, hB⟩
  go_wp2
  all_goals go_ret
  · exact ⟨-1, rfl, by omega, by omega, fun _ => by omega, ((Below.refl _ _).alloc (Nat.le_refl _) _).trans (hB.mono (by simp))⟩
  · exact ⟨r, rfl, hr1, hr2, hr3, ((Below.refl _ _).alloc (Nat.le_refl _) _).trans (hB.mono (by simp))⟩

set_option maxHeartbeats 1000000 in
theorem toProgram_any (a : Option Addr) (n cap : Nat) (f : Nat → Ins) (w : World) (hn : n ≤ 1048576) (hv : SlIns w a n f) :
    Calls Tryd.prog 30 #[.agg #[.slice a n cap]] w fun e w' => ∃ g, e = .returned (.agg #[.slice (some ⟨g, 0, none⟩) n n]) ∧ RowIns w' g 0 n f ∧ w.heap.size ≤ g ∧ Below w.heap.size w w' := by
  have HV := hide hv
  clear hv
  go_enter Tryd.func30, Tryd.ntmps30
  go_wp2_with fail
  refine (toInsS_any a n cap f _ hn (HV.below ((((Below.refl _ _).alloc (Nat.le_refl _) _).alloc (by simp) _).alloc (by simp; omega) _) (Nat.le_refl _))).mono ?_
  rintro e w' ⟨g, rfl, hv', hg, hB⟩
  have HV' := hide hv'
  have HB := hide hB
  obtain ⟨hc, hz⟩ := bcell hB
  clear hv' hB
  simp at hg
  go_wp2
  refine bodyPost_ret (v := .agg #[.slice (some ⟨g, 0, none⟩) n n]) (by simp [results, Tryd.results30, go_sem, hc]) rfl ⟨g, rfl, (HV'.setOther _ (by simp; omega) _).setOther _ (by simp; omega) _, by omega, ?_⟩
  exact ((((((Below.refl _ _).alloc (Nat.le_refl _) _).alloc (by simp) _).alloc (by simp; omega) _).trans (HB.mono (by simp; omega))).setCell (by simp; omega) _).setCell (by simp) _

end Go.Proofs.YtolpgafkojlkoabDoor.Vp
