/-
  spec: Follows.
-/
import Derived.Test.YtfhdecheaeoopaaGreatDoorZX
import Derived.Test.YtfhdecheaeoopaaGreatDoorZN
namespace Go.Proofs.YtfhdecheaeoopaaGreatDoor.Vp
open Go.RowKit

set_option maxRecDepth 100000 in
set_option maxHeartbeats 4000000 in
theorem specFollows_any (a : Option Addr) (n cap : Nat) (f : Nat → Deed) (w : World) (hn : (n : Int) ≤ 1048576) (hv : SlDeed w a n f) (hfit : ∀ i, i < n → FitsDeed (f i)) (hsz : ∀ i, i < n → SizedDeed (f i)) :
    Calls Tryz.prog 6 #[.agg #[.slice a n cap]] w fun e w' => e = .returned (.tuple #[.int .i64 (folC f n).1, .int .i64 (folC f n).2]) ∧ Below w.heap.size w w' := by
  have HV := hide hv
  have HM := hide hfit
  have HZ := hide hsz
  clear hv hfit hsz
  have A0 := hide ((Below.refl w.heap.size w).alloc (Nat.le_refl _) (.cells #[.slice a n cap] 30))
  have k0 : (w.alloc (.cells #[.slice a n cap] 30)).cell? ⟨w.heap.size, 0, none⟩ = some (.slice a n cap) := by simp
  have hz : w.heap.size < (w.alloc (.cells #[.slice a n cap] 30)).heap.size := by simp
  obtain ⟨T1, T2, hT⟩ : ∃ T1 T2, folC f n = (T1, T2) := ⟨_, _, rfl⟩
  rw [hT]
  have HE := hide (show (if accOk f n = true then folF f n else (1, 0)) = (T1, T2) from hT)
  clear hT
  go_enter Tryz.func6, Tryz.ntmps6
  go_wp2_with fail
  generalize w.alloc (.cells #[.slice a n cap] 30) = W at A0 k0 hz ⊢
  refine (l3Ok_any a n cap f _ hn (HV.out.below A0.out (Nat.le_refl _)) HM.out HZ.out).mono ?_
  rintro e w1 ⟨rfl, hB⟩
  have B1 := hide (A0.out.trans (hB.mono A0.out.size))
  have k1 := (hB.cell (p := ⟨w.heap.size, 0, none⟩) hz).trans k0
  have hz1 : w.heap.size < w1.heap.size := Nat.lt_of_lt_of_le hz hB.size
  clear hB A0 k0 hz
  have HO := hide (fun h : accOk f n = true => (⟨accOk_n h, h⟩ : (1 ≤ n ∧ n ≤ 400 ∧ firstNo (deedOk f) n = -1) ∧ accOk f n = true))
  obtain ⟨r, hr⟩ : ∃ r, r = accOk f n := ⟨_, rfl⟩
  rw [← hr] at HE ⊢
  have HRR := hide hr
  clear hr
  cases r with
  | false =>
    obtain ⟨rfl, rfl⟩ : (1 : Int) = T1 ∧ (0 : Int) = T2 := by have := HE.out; simpa using this
    go_wp2
    go_ret2
    exact ⟨rfl, B1.out⟩
  | true =>
    have HF := hide (show folF f n = (T1, T2) by have := HE.out; simpa using this)
    obtain ⟨⟨hn1, hn4, -⟩, hacc⟩ := HO.out HRR.out.symm
    have HACC := hide hacc
    clear HE HO HM hacc HRR
    obtain ⟨b, off, rfl, hrow⟩ := HV.out.resolve_left (by omega)
    have HR := hide hrow
    clear HV hrow
    go_wp2
    go_loopw [4] (fun v wr => ∃ i : Nat, i ≤ n ∧ v = .int .i64 i ∧ Hid (∀ j, j < i → codeF f j = 0) ∧ Hid (Below w1.heap.size w1 wr)) (fun i _ => n - (intOf i).toNat)
    case atStart => exact ⟨0, by omega, rfl, fun j hj => absurd hj (Nat.not_lt_zero _), Below.refl _ _⟩
    case round =>
      obtain ⟨i, hin, rfl, HD, HB⟩ := hrel
      have k2 := (HB.out.cell (p := ⟨w.heap.size, 0, none⟩) hz1).trans k1
      have R2 := hide (B1.out.trans (HB.out.mono B1.out.size))
      by_cases hlt : i < n
      · have hlt2 : (i : Int) < n := by omega
        have hrow2 := HR.out.below R2.out (Nat.le_refl _)
        have HRW := hide hrow2
        obtain ⟨o0, o1, o2, o3, -, -⟩ := hrow2.2 i hlt
        clear hrow2
        by_cases hk : (f i).kind = 3
        · have HKK := hide hk
          have HCF : Hid (codeF f i = codeR f i) := by show _ = _; unfold codeF; rw [if_pos hk]
          rw [hk] at o1
          clear hk
          go_wp2_with fail
          refine (l4Run_any b off n cap f i _ (by omega) HACC.out hlt HKK.out HRW.out (HZ.out i hlt)).mono ?_
          rintro e w3 ⟨rfl, hB⟩
          have B3 := hide (HB.out.trans (hB.mono HB.out.size))
          have R3 := hide (R2.out.trans (hB.mono R2.out.size))
          clear hB
          obtain ⟨C, hC⟩ : ∃ C, C = codeR f i := ⟨_, rfl⟩
          rw [← hC]
          rw [← hC] at HCF
          clear hC
          by_cases hc : C = 0
          · subst hc
            go_wp2
            exact ⟨⟨i + 1, by omega, rfl, fun j hj => by
              by_cases e : j = i
              · subst e; exact HCF.out
              · exact HD.out j (by omega), B3.out⟩, by simp [intOf]; omega⟩
          · have hc2 : (C == 0) = false := by simpa using hc
            have HEE : Hid (C = T1 ∧ (i : Int) = T2) := by
              have h := folF_first hlt HD.out (by rw [HCF.out]; exact hc)
              rw [HF.out, HCF.out] at h
              simp only [Prod.mk.injEq] at h
              exact ⟨h.1.symm, h.2.symm⟩
            go_wp2
            go_ret2
            exact ⟨by rw [HEE.out.1, HEE.out.2]; rfl, R3.out⟩
        · have HCF : Hid (codeF f i = 0) := by show _ = _; unfold codeF; rw [if_neg hk]
          have hk2 : ((f i).kind == 3) = false := by simpa using hk
          go_wp2
          exact ⟨⟨i + 1, by omega, rfl, fun j hj => by
              by_cases e : j = i
              · subst e; exact HCF.out
              · exact HD.out j (by omega), HB.out⟩, by simp [intOf]; omega⟩
      · obtain rfl : i = n := by omega
        have h := folF_none HD.out
        rw [HF.out] at h
        simp only [Prod.mk.injEq] at h
        obtain ⟨rfl, rfl⟩ := h
        go_wp2
        go_ret2
        exact ⟨rfl, R2.out⟩

end Go.Proofs.YtfhdecheaeoopaaGreatDoor.Vp
