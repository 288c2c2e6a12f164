/-
  impl: Audit.
-/
import Derived.Test.YtfhdecheaeoopaaGreatDoorZAuFirst
import Derived.Test.YtfhdecheaeoopaaGreatDoorZN
namespace Go.Proofs.YtfhdecheaeoopaaGreatDoor.Vp
open Go.RowKit

set_option maxRecDepth 100000 in
set_option maxHeartbeats 4000000 in
theorem implAudit_any (a : Option Addr) (n cap : Nat) (f : Nat → Deed) (sa0 : Option Addr) (n0 sc0 : Nat) (f0 : Nat → Source) (sa1 : Option Addr) (n1 sc1 : Nat) (f1 : Nat → Target) (w : World) (hn : (n : Int) ≤ 1048576) (hn0 : (n0 : Int) ≤ 1048576) (hn1 : (n1 : Int) ≤ 1048576) (hv : SlDeed w a n f) (hcap : (n : Int) ≤ cap) (hfit : ∀ i, i < n → FitsDeed (f i)) (hs0 : SlSource w sa0 n0 f0) (hs1 : SlTarget w sa1 n1 f1) (hfs : ∀ i, i < n1 → FitsTarget (f1 i)) (hT : Tab w) (hT2 : Tab2 w) (hPow : Pow w) :
    Calls Tryz.prog 13 #[.agg #[.slice a n cap], .agg #[.slice sa0 n0 sc0, .slice sa1 n1 sc1]] w fun e w' => e = .returned (.tuple #[.int .i64 (audC n0 f0 n1 f1 f n).1, .int .i64 (audC n0 f0 n1 f1 f n).2]) ∧ Below w.heap.size w w' := by
  have HV := hide hv
  have HM := hide hfit
  have HS0 := hide hs0
  have HS1 := hide hs1
  have HFS := hide hfs
  have HT := hide hT
  have HT2 := hide hT2
  have HPOW := hide hPow
  have htb := hT2.1
  clear hv hfit hs0 hs1 hfs hT hT2 hPow
  have A0 := hide (((Below.refl w.heap.size w).alloc (Nat.le_refl _) (.cells #[.slice a n cap] 30)).alloc (by simp) (.cells #[.slice sa0 n0 sc0, .slice sa1 n1 sc1] 43))
  have k0 : ((w.alloc (.cells #[.slice a n cap] 30)).alloc (.cells #[.slice sa0 n0 sc0, .slice sa1 n1 sc1] 43)).cell? ⟨w.heap.size, 0, none⟩ = some (.slice a n cap) := by simp [go_sem]
  have k1 : ((w.alloc (.cells #[.slice a n cap] 30)).alloc (.cells #[.slice sa0 n0 sc0, .slice sa1 n1 sc1] 43)).cell? ⟨w.heap.size + 1, 0, none⟩ = some (.slice sa0 n0 sc0) := by simp [go_sem]
  have k2 : ((w.alloc (.cells #[.slice a n cap] 30)).alloc (.cells #[.slice sa0 n0 sc0, .slice sa1 n1 sc1] 43)).cell? ⟨w.heap.size + 1, 1, none⟩ = some (.slice sa1 n1 sc1) := by simp [go_sem]
  have hz : w.heap.size + 1 < ((w.alloc (.cells #[.slice a n cap] 30)).alloc (.cells #[.slice sa0 n0 sc0, .slice sa1 n1 sc1] 43)).heap.size := by simp
  obtain ⟨T1, T2, hT⟩ : ∃ T1 T2, audC n0 f0 n1 f1 f n = (T1, T2) := ⟨_, _, rfl⟩
  rw [hT]
  have HE := hide (show (if accOk f n = true then (if checkC n0 f0 n1 f1 = 0 then firF (codeA n0 f0 n1 f1 f) n else (1, 0)) else (1, 0)) = (T1, T2) from hT)
  clear hT
  go_enter Tryz.func13, Tryz.ntmps13
  go_wp2_with fail
  generalize (w.alloc (.cells #[.slice a n cap] 30)).alloc (.cells #[.slice sa0 n0 sc0, .slice sa1 n1 sc1] 43) = W at A0 k0 k1 k2 hz ⊢
  refine (validAccount_any a n cap f _ hn (HV.out.below A0.out (Nat.le_refl _)) hcap HM.out (HT.out.below A0.out HT.out.1)).mono ?_
  rintro e w1 ⟨rfl, hB⟩
  have B1 := hide (A0.out.trans (hB.mono A0.out.size))
  have l0 := (hB.cell (p := ⟨w.heap.size, 0, none⟩) (by show w.heap.size < _; omega)).trans k0
  have l1 := (hB.cell (p := ⟨w.heap.size + 1, 0, none⟩) hz).trans k1
  have l2 := (hB.cell (p := ⟨w.heap.size + 1, 1, none⟩) hz).trans k2
  have hz1 : w.heap.size + 1 < w1.heap.size := Nat.lt_of_lt_of_le hz hB.size
  clear hB A0 k0 k1 k2 hz
  have HO := hide (fun h : accOk f n = true => (⟨accOk_n h, h⟩ : (1 ≤ n ∧ n ≤ 400 ∧ firstNo (deedOk f) n = -1) ∧ accOk f n = true))
  obtain ⟨r, hr⟩ : ∃ r, r = accOk f n := ⟨_, rfl⟩
  rw [← hr] at HE ⊢
  have HRR := hide hr
  clear hr
  cases r with
  | false =>
    obtain ⟨rfl, rfl⟩ : (1 : Int) = T1 ∧ (0 : Int) = T2 := by have := HE.out; simpa using this
    go_wp2
    go_ret2
    exact ⟨rfl, B1.out⟩
  | true =>
    have HF := hide (show (if checkC n0 f0 n1 f1 = 0 then firF (codeA n0 f0 n1 f1 f) n else (1, 0)) = (T1, T2) by have := HE.out; simpa using this)
    obtain ⟨⟨hn1', hn4, -⟩, hacc⟩ := HO.out HRR.out.symm
    have HACC := hide hacc
    clear HE HO hacc HRR
    obtain ⟨b, off, rfl, hrow⟩ := HV.out.resolve_left (by omega)
    have HR := hide hrow
    clear HV hrow
    go_wp2_with fail
    refine (implCheck_any sa0 n0 sc0 f0 sa1 n1 sc1 f1 _ hn0 hn1 (HS0.out.below B1.out (Nat.le_refl _)) (HS1.out.below B1.out (Nat.le_refl _)) HFS.out (HT.out.below B1.out HT.out.1)).mono ?_
    rintro e w2 ⟨rfl, hB⟩
    have B2 := hide (B1.out.trans (hB.mono B1.out.size))
    have m0 := (hB.cell (p := ⟨w.heap.size, 0, none⟩) (by show w.heap.size < _; omega)).trans l0
    have m1 := (hB.cell (p := ⟨w.heap.size + 1, 0, none⟩) hz1).trans l1
    have m2 := (hB.cell (p := ⟨w.heap.size + 1, 1, none⟩) hz1).trans l2
    have hz2 : w.heap.size + 1 < w2.heap.size := Nat.lt_of_lt_of_le hz1 hB.size
    clear hB l0 l1 l2 hz1
    have HCZ := hide (fun h : checkC n0 f0 n1 f1 = 0 => check_asc h)
    obtain ⟨c, hc⟩ : ∃ c, c = checkC n0 f0 n1 f1 := ⟨_, rfl⟩
    rw [← hc] at HF ⊢
    have HCC := hide hc
    clear hc
    by_cases hc0 : c = 0
    · subst hc0
      have HG := hide (show firF (codeA n0 f0 n1 f1 f) n = (T1, T2) by have := HF.out; simpa using this)
      obtain ⟨hasc0, hasc1, hfew⟩ := HCZ.out HCC.out.symm
      have HA0 := hide hasc0
      have HA1 := hide hasc1
      clear HF HCZ HCC hasc0 hasc1
      have C1 := hide (B2.out.alloc B2.out.size (.cells #[.int .i64 2, .func (.func 33) #[] #[], .int .i64 3, .func (.func 34) #[] #[], .int .i64 4, .func (.func 21) #[] #[], .int .i64 5, .func (.func 22) #[] #[]] 62))
      go_wp2_with fail
      refine (firstRing_aud b off n cap w2.heap.size sa0 n0 sc0 f0 sa1 n1 sc1 f1 f _ (by omega) hn0 hn1 HACC.out (HR.out.below C1.out (Nat.le_refl _)) (HS0.out.below C1.out (Nat.le_refl _)) (HS1.out.below C1.out (Nat.le_refl _)) HA0.out HA1.out (fun i hi => (HM.out i hi).1) (fun i hi => (HM.out i hi).2) HFS.out (HT2.out.below C1.out htb) (HPOW.out.below C1.out (Nat.le_refl _)) (by simp) (by simp) (by simp) (by simp) (by simp) (by simp) (by simp) (by simp) (by simp)).mono ?_
      rintro e w3 ⟨rfl, hB⟩
      have B3 := hide (C1.out.trans (hB.mono C1.out.size))
      clear hB
      rw [HG.out]
      go_wp2
      go_ret2
      exact ⟨rfl, B3.out⟩
    · obtain ⟨rfl, rfl⟩ : (1 : Int) = T1 ∧ (0 : Int) = T2 := by have := HF.out; simpa [hc0] using this
      have hc2 : (c == 0) = false := by simpa using hc0
      go_wp2
      go_ret2
      exact ⟨rfl, B2.out⟩

end Go.Proofs.YtfhdecheaeoopaaGreatDoor.Vp
