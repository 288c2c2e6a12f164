/-
  spec: l3Ok.
-/
import Derived.Test.YtkikpcklccdihaaGreatDoorZAcOk
import Derived.Test.YtkikpcklccdihaaGreatDoorZCaSpec6
namespace Go.Proofs.YtkikpcklccdihaaGreatDoor.Vp
open Go.RowKit

set_option maxRecDepth 100000 in
set_option maxHeartbeats 4000000 in
theorem l3Ok_any (a : Option Addr) (n cap : Nat) (f : Nat → Deed) (w : World) (hn : (n : Int) ≤ 1048576) (hv : SlDeed w a n f) (hfit : ∀ i, i < n → FitsDeed (f i)) (hsz : ∀ i, i < n → SizedDeed (f i)) :
    Calls Tryz.prog 14 #[.agg #[.slice a n cap]] w fun e w' => e = .returned (.bool (accOk f n)) ∧ Below w.heap.size w w' := by
  have HV := hide hv
  have HM := hide hfit
  have HZ := hide hsz
  clear hv hfit hsz
  have A0 := hide ((Below.refl w.heap.size w).alloc (Nat.le_refl _) (.cells #[.slice a n cap] 30))
  obtain ⟨r, hr⟩ : ∃ r, r = accOk f n := ⟨_, rfl⟩
  rw [← hr]
  have HE := hide (show r = decide ((accC f n).1 = 0) from hr)
  clear hr
  go_enter Tryz.func14, Tryz.ntmps14
  go_wp2_with fail
  refine (specAcc_any a n cap f _ hn (HV.out.below A0.out (Nat.le_refl _)) HM.out HZ.out).mono ?_
  rintro e w1 ⟨rfl, hB⟩
  have B1 := hide (A0.out.trans (hB.mono A0.out.size))
  clear hB
  generalize (accC f n).1 = c at HE ⊢
  generalize (accC f n).2 = d
  cases r with
  | true =>
    obtain rfl : c = 0 := of_decide_eq_true HE.out.symm
    go_wp2
    go_ret
    exact ⟨rfl, B1.out⟩
  | false =>
    have hc : (c == 0) = false := by have : ¬ c = 0 := of_decide_eq_false HE.out.symm; simpa using this
    go_wp2
    go_ret
    exact ⟨rfl, B1.out⟩

end Go.Proofs.YtkikpcklccdihaaGreatDoor.Vp
