/-
  impl: Follows.
-/
import Derived.Test.YtfhdecheaeoopaaGreatDoorZFlFirst
import Derived.Test.YtfhdecheaeoopaaGreatDoorZN
namespace Go.Proofs.YtfhdecheaeoopaaGreatDoor.Vp
open Go.RowKit

set_option maxRecDepth 100000 in
set_option maxHeartbeats 4000000 in
theorem implFollows_any (a : Option Addr) (n cap : Nat) (f : Nat → Deed) (w : World) (hn : (n : Int) ≤ 1048576) (hv : SlDeed w a n f) (hcap : (n : Int) ≤ cap) (hfit : ∀ i, i < n → FitsDeed (f i)) (hT : Tab w) (hT2 : Tab2 w) (hPow : Pow w) :
    Calls Tryz.prog 8 #[.agg #[.slice a n cap]] w fun e w' => e = .returned (.tuple #[.int .i64 (folC f n).1, .int .i64 (folC f n).2]) ∧ Below w.heap.size w w' := by
  have HV := hide hv
  have HM := hide hfit
  have HT := hide hT
  have HT2 := hide hT2
  have HPOW := hide hPow
  have htb := hT2.1
  clear hv hfit hT hT2 hPow
  have A0 := hide ((Below.refl w.heap.size w).alloc (Nat.le_refl _) (.cells #[.slice a n cap] 30))
  have k0 : (w.alloc (.cells #[.slice a n cap] 30)).cell? ⟨w.heap.size, 0, none⟩ = some (.slice a n cap) := by simp
  have hz : w.heap.size < (w.alloc (.cells #[.slice a n cap] 30)).heap.size := by simp
  obtain ⟨T1, T2, hT⟩ : ∃ T1 T2, folC f n = (T1, T2) := ⟨_, _, rfl⟩
  rw [hT]
  have HE := hide (show (if accOk f n = true then folF f n else (1, 0)) = (T1, T2) from hT)
  clear hT
  go_enter Tryz.func8, Tryz.ntmps8
  go_wp2_with fail
  generalize w.alloc (.cells #[.slice a n cap] 30) = W at A0 k0 hz ⊢
  refine (validAccount_any a n cap f _ hn (HV.out.below A0.out (Nat.le_refl _)) hcap HM.out (HT.out.below A0.out HT.out.1)).mono ?_
  rintro e w1 ⟨rfl, hB⟩
  have B1 := hide (A0.out.trans (hB.mono A0.out.size))
  have k1 := (hB.cell (p := ⟨w.heap.size, 0, none⟩) hz).trans k0
  have hz1 : w.heap.size < w1.heap.size := Nat.lt_of_lt_of_le hz hB.size
  clear hB A0 k0 hz
  have HO := hide (fun h : accOk f n = true => (⟨accOk_n h, h⟩ : (1 ≤ n ∧ n ≤ 400 ∧ firstNo (deedOk f) n = -1) ∧ accOk f n = true))
  obtain ⟨r, hr⟩ : ∃ r, r = accOk f n := ⟨_, rfl⟩
  rw [← hr] at HE ⊢
  have HRR := hide hr
  clear hr
  cases r with
  | false =>
    obtain ⟨rfl, rfl⟩ : (1 : Int) = T1 ∧ (0 : Int) = T2 := by have := HE.out; simpa using this
    go_wp2
    go_ret2
    exact ⟨rfl, B1.out⟩
  | true =>
    have HF := hide (show folF f n = (T1, T2) by have := HE.out; simpa using this)
    obtain ⟨⟨hn1, hn4, -⟩, hacc⟩ := HO.out HRR.out.symm
    have HACC := hide hacc
    clear HE HO HM hacc HRR
    obtain ⟨b, off, rfl, hrow⟩ := HV.out.resolve_left (by omega)
    have HR := hide hrow
    clear HV hrow
    have C1 := hide (B1.out.alloc B1.out.size (.cells #[.int .i64 4, .func (.func 21) #[] #[], .int .i64 5, .func (.func 22) #[] #[]] 62))
    go_wp2_with fail
    refine (firstRing_fol b off n cap w1.heap.size f _ (by omega) HACC.out (HR.out.below C1.out (Nat.le_refl _)) (HT2.out.below C1.out htb) (HPOW.out.below C1.out (Nat.le_refl _)) (by simp) (by simp) (by simp) (by simp) (by simp)).mono ?_
    rintro e w2 ⟨rfl, hB⟩
    have B2 := hide (C1.out.trans (hB.mono C1.out.size))
    clear hB
    rw [HF.out]
    go_wp2
    go_ret2
    exact ⟨rfl, B2.out⟩

end Go.Proofs.YtfhdecheaeoopaaGreatDoor.Vp
