/-
  Put together of: FoImpl.
-/
import Derived.Test.YtkbhcajiebeepaaGreatDoorYN
import Derived.Test.YtkbhcajiebeepaaGreatDoorYA

/-
  impl: FormAccount.
-/
namespace Go.Proofs.YtkbhcajiebeepaaGreatDoor.Vp
open Go.RowKit

theorem le_of_big {L : Nat} (h : ¬ (300000 : Int) < (L : Int)) : L ≤ 300000 := by omega

set_option maxRecDepth 100000 in
set_option maxHeartbeats 2000000 in
theorem implForm_any (a : Option Addr) (n cap : Nat) (f : Nat → Deed) (w : World) (hn : (n : Int) ≤ 1048576) (hv : SlDeed w a n f) (hcap : (n : Int) ≤ cap) (hfit : ∀ i, i < n → FitsDeed (f i)) (hT : Tab w) (hTW : TabW w) (hP : Pow w) :
    Calls Tryz.prog 15 #[.agg #[.slice a n cap]] w fun e w' => e = .returned (.string ⟨(formB f n).toArray⟩) ∧ Below w.heap.size w w' := by
  have HV := hide hv
  have HM := hide hfit
  have HT := hide hT
  have HTW := hide hTW
  have HP := hide hP
  have htb := hT.1
  clear hv hfit hT hTW hP
  have A0 := hide ((Below.refl w.heap.size w).alloc (Nat.le_refl _) (.cells #[.slice a n cap] 24))
  have k0 : (w.alloc (.cells #[.slice a n cap] 24)).cell? ⟨w.heap.size, 0, none⟩ = some (.slice a n cap) := by simp
  have hz : w.heap.size < (w.alloc (.cells #[.slice a n cap] 24)).heap.size := by simp
  obtain ⟨T, hT⟩ : ∃ T, T = formB f n := ⟨_, rfl⟩
  rw [← hT]
  have HE := hide (show T = if accOk f n = true then (if (formTo f n n).length ≤ 300000 then formTo f n n else []) else [] from hT)
  clear hT
  go_enter Tryz.func15, Tryz.ntmps15
  go_wp2_with fail
  generalize w.alloc (.cells #[.slice a n cap] 24) = W at A0 k0 hz ⊢
  refine (validAccount_any a n cap f _ hn (HV.out.below A0.out (Nat.le_refl _)) hcap HM.out (HT.out.below A0.out HT.out.1)).mono ?_
  rintro e w1 ⟨rfl, hB⟩
  have B1 := hide (A0.out.trans (hB.mono A0.out.size))
  have k1 := (hB.cell (p := ⟨w.heap.size, 0, none⟩) hz).trans k0
  have hz1 : w.heap.size < w1.heap.size := Nat.lt_of_lt_of_le hz hB.size
  clear hB A0 k0 hz
  have HO := hide (fun h : accOk f n = true => (⟨accOk_n h, h⟩ : (1 ≤ n ∧ n ≤ 400 ∧ firstNo (deedOk f) n = -1) ∧ accOk f n = true))
  obtain ⟨r, hr⟩ : ∃ r, r = accOk f n := ⟨_, rfl⟩
  rw [← hr] at HE ⊢
  have HRR := hide hr
  clear hr
  cases r with
  | false =>
    obtain rfl : T = [] := by have := HE.out; simpa using this
    go_wp2
    go_ret
    exact ⟨rfl, B1.out⟩
  | true =>
    have HF := hide (show T = if (formTo f n n).length ≤ 300000 then formTo f n n else [] by have := HE.out; simpa using this)
    obtain ⟨⟨hn1, hn4, -⟩, hacc⟩ := HO.out HRR.out.symm
    have HACC := hide hacc
    have HLE := hide (formTo_le hacc)
    clear HE HO HM hacc HRR
    obtain ⟨b, off, rfl, hrow⟩ := HV.out.resolve_left (by omega)
    have HR := hide (hrow.below B1.out (Nat.le_refl _))
    have HT1 := hide (HT.out.below B1.out htb)
    have HTW1 := hide (HTW.out.below B1.out htb)
    have HP1 := hide (HP.out.below B1.out (Nat.le_refl _))
    clear HV hrow HT HTW HP
    have hd := dec_le n (by omega)
    have AW := hide ((Below.refl w1.heap.size w1).alloc (Nat.le_refl _) (.cells #[.pointer none, .slice none 0 0] 73))
    have HBW := hide (Bw.new w1)
    have kw := (AW.out.cell (p := ⟨w.heap.size, 0, none⟩) hz1).trans k1
    have HJ2 : Hid (joined [⟨#[97, 99, 99, 111, 117, 110, 116]⟩, ⟨(Lib.decDigits n).toArray⟩] ++ [10] = formTo f n 0) := by
      show _ = _
      rw [joined2]
      simp [formTo]
    have hjl : (joined [⟨#[97, 99, 99, 111, 117, 110, 116]⟩, ⟨(Lib.decDigits n).toArray⟩]).length ≤ 40 := by
      rw [joined2]
      simp only [List.length_append, List.length_cons, List.length_nil]
      omega
    have hb1 : w1.heap.size < (w1.alloc (.cells #[.pointer none, .slice none 0 0] 73)).heap.size := by simp
    go_upto_region 4 with fail
    generalize w1.alloc (.cells #[.pointer none, .slice none 0 0] 73) = W1 at AW HBW kw hb1 ⊢
    go_wp2_with fail
    refine (itoa_any n _ (by omega) (HP1.out.below AW.out (Nat.le_refl _))).mono ?_
    rintro e w2 ⟨rfl, hB⟩
    have B2 := hide hB
    clear hB
    go_wp2_with fail
    refine (line2 w1 W1 w2 w1.heap.size [] _ _ _ AW.out B2.out HBW.out (by simp only [List.length_nil]; omega)).mono ?_
    rintro e w3 ⟨rfl, hD3, hB3, hK3⟩
    rw [List.nil_append, HJ2.out] at hD3
    have D3 := hide hD3
    have B3 := hide hB3
    clear hD3 hB3 hK3 HJ2 hjl B2 HBW AW kw hb1
    have k3 := (B3.out.cell (p := ⟨w.heap.size, 0, none⟩) hz1).trans k1
    have hz3 : w.heap.size < w3.heap.size := Nat.lt_of_lt_of_le hz1 B3.out.size
    go_wp2
    clear k3
    go_loopw [18] (fun i wr => ∃ k : Nat, k ≤ n ∧ i = .int .i64 k ∧ Hid ((formTo f n k).length ≤ 300000 ∨ k = 0) ∧ Hid (Bw wr w1.heap.size w1.heap.size (formTo f n k)) ∧ Hid (Below w1.heap.size w1 wr)) (fun i _ => n - (intOf i).toNat)
    case atStart => exact ⟨0, by omega, rfl, .inr rfl, D3.out, B3.out⟩
    case round =>
      obtain ⟨k, hk, rfl, HS, HD, HB⟩ := hrel
      have hlk := HLE.out k hk
      have RW := hide (B1.out.trans (HB.out.mono B1.out.size))
      by_cases hlt : k < n
      · have hlt2 : (k : Int) < n := by omega
        obtain ⟨o0, o1, o2, o3, ⟨a0, cap0, o4, q4⟩, ⟨a1, cap1, o5, q5⟩⟩ := (HR.out.below HB.out (Nat.le_refl _)).2 k hlt
        obtain ⟨-, -, -, -, ⟨a0', cap0', o4', q4'⟩, ⟨a1', cap1', o5', q5'⟩⟩ := HR.out.2 k hlt
        have e4 := ((HB.out.cell (p := ⟨b, off + k * 6 + 4, none⟩) HR.out.1).trans o4').symm.trans o4
        have e5 := ((HB.out.cell (p := ⟨b, off + k * 6 + 5, none⟩) HR.out.1).trans o5').symm.trans o5
        obtain ⟨rfl, rfl⟩ : a0' = a0 ∧ cap0' = cap0 := by simpa using e4
        obtain ⟨rfl, rfl⟩ : a1' = a1 ∧ cap1' = cap1 := by simpa using e5
        have WR := hide (writable HACC.out hlt q4' q5')
        have AD := hide ((Below.refl wr.heap.size wr).alloc (Nat.le_refl _) (.cells #[.string (f k).name, .int .i64 (f k).kind, .int .i64 (f k).code, .string (f k).text, .slice a0' (f k).actN cap0', .slice a1' (f k).linksN cap1'] 51))
        have RD := hide (HB.out.trans (AD.out.mono HB.out.size))
        have DD := hide (HD.out.below AD.out (Nat.le_refl _))
        clear q4 q5 q4' q5' o4' o5' e4 e5
        go_wp2_with fail
        clear o0 o1 o2 o3 o4 o5
        refine (deed_any w1 w1.heap.size _ (f k) a0' cap0' a1' cap1' _ RD.out DD.out HT1.out HTW1.out HP1.out WR.out (by omega)).mono ?_
        rintro e w5 ⟨rfl, hD5, hB5, hK5⟩
        have D5 : Hid (Bw w5 w1.heap.size w1.heap.size (formTo f n (k + 1))) := hD5
        have B5 := hide hB5
        have hl5 := HLE.out (k + 1) (by omega)
        clear hD5 hB5 hK5 AD RD DD
        go_wp2_with fail
        refine (lenW_any _ _ _ _ D5.out).mono ?_
        rintro e w6 ⟨rfl, rfl⟩
        generalize hL5 : (formTo f n (k + 1)).length = L5 at hl5 ⊢
        have HL5 := hide hL5
        clear hL5
        by_cases hbig : (300000 : Int) < (L5 : Int)
        · obtain rfl : T = [] := by
            have h2 := formTo_mono (f := f) (n := n) (show k + 1 ≤ n by omega)
            rw [HL5.out] at h2
            have h3 : ¬ (formTo f n n).length ≤ 300000 := by
              generalize (formTo f n n).length = M at h2 ⊢
              omega
            rw [HF.out, if_neg h3]
          go_wp2
          go_ret
          exact ⟨rfl, B1.out.trans (B5.out.mono B1.out.size)⟩
        · have hs6 : L5 ≤ 300000 := le_of_big hbig
          have HS6 : Hid ((formTo f n (k + 1)).length ≤ 300000 ∨ k + 1 = 0) := by show _ ∨ _; rw [HL5.out]; exact Or.inl hs6
          clear hs6
          go_wp2
          exact ⟨⟨k + 1, by omega, by go_num, HS6.out, D5.out, B5.out⟩, by simp [intOf]; omega⟩
      · obtain rfl : k = n := by omega
        obtain rfl : T = formTo f k k := by
          have h1 : (formTo f k k).length ≤ 300000 := HS.out.resolve_right (by omega)
          rw [HF.out, if_pos h1]
        go_wp2_with fail
        refine (stringW_any _ _ _ _ HD.out (formTo_ne _ _ _)).mono ?_
        rintro e w6 ⟨rfl, hB6⟩
        have B6 := hide (HB.out.trans hB6)
        clear hB6
        go_wp2
        go_ret
        exact ⟨rfl, B1.out.trans (B6.out.mono B1.out.size)⟩

end Go.Proofs.YtkbhcajiebeepaaGreatDoor.Vp
