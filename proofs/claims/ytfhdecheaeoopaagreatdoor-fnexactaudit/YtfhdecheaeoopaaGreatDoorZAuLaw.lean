/-
  FnExactAudit: the law.
-/
import Derived.Test.YtfhdecheaeoopaaGreatDoorZAuSpec
import Derived.Test.YtfhdecheaeoopaaGreatDoorZAuImpl
import Derived.Test.YtfhdecheaeoopaaGreatDoorZAuBx
import Derived.Deep.DeepCutAuto
namespace Go.Proofs.YtfhdecheaeoopaaGreatDoor.Vp
open Go.RowKit

set_option maxRecDepth 100000 in
set_option maxHeartbeats 8000000 in
theorem law_au (a : Option Addr) (n cap : Nat) (f : Nat → Deed) (a0 : Option Addr) (n0 c0 : Nat) (f0 : Nat → Source) (a1 : Option Addr) (n1 c1 : Nat) (f1 : Nat → Target) (w : World) (hn : (n : Int) ≤ 9223372036854775807) (hn0 : (n0 : Int) ≤ 9223372036854775807) (hn1 : (n1 : Int) ≤ 9223372036854775807) (hv : SlDeed w a n f) (hs : ∀ i, i < n → SizedDeed (f i))
    (hv0 : SlSource w a0 n0 f0) (hs0 : ∀ i, i < n0 → (f0 i).name.size ≤ maxLen ∧ (f0 i).text.size ≤ maxLen) (hv1 : SlTarget w a1 n1 f1) (hs1 : ∀ i, i < n1 → SizedTarget (f1 i)) (hT : Tab w) (hT2 : Tab2 w) (hPow : Pow w) :
    Calls Tryz.prog 4 #[.agg #[.slice a n cap], .agg #[.slice a0 n0 c0, .slice a1 n1 c1]] w fun e w' => e = .returned (.bool true) ∧ Below w.heap.size w w' := by
  have HV := hide hv
  have HS := hide hs
  have HV0 := hide hv0
  have HV1 := hide hv1
  have HS0 := hide hs0
  have HS1 := hide hs1
  have HT := hide hT
  have HT2 := hide hT2
  have HPOW := hide hPow
  have htb := hT2.1
  clear hv hs hv0 hv1 hs0 hs1 hT hT2 hPow
  obtain ⟨C1, C2, hC⟩ : ∃ C1 C2, audC n0 f0 n1 f1 f n = (C1, C2) := ⟨_, _, rfl⟩
  have HC := hide hC
  clear hC
  have B0 := hide (((Below.refl w.heap.size w).alloc (Nat.le_refl w.heap.size) (.cells #[.slice a n cap] 24)).alloc (by simp) (.cells #[.slice a0 n0 c0, .slice a1 n1 c1] 37))
  have X0 := hide (auBox_new w (.slice a n cap) (.slice a0 n0 c0) (.slice a1 n1 c1) 24 37)
  go_enter Tryz.func4, Tryz.ntmps4
  go_wp2_with fail
  generalize (w.alloc (.cells #[.slice a n cap] 24)).alloc (.cells #[.slice a0 n0 c0, .slice a1 n1 c1] 37) = W at B0 X0 ⊢
  refine (szAccount_any a n cap f 1048576 _ (by omega) (by omega) hn (HV.out.below B0.out (Nat.le_refl _)) HS.out).mono ?_
  rintro e w1 ⟨r, rfl, hr1, hr2, hr3, hB⟩
  have X1 := hide (X0.out.below hB X0.out.lt)
  have B1 := hide (B0.out.trans (hB.mono B0.out.size))
  clear hB B0 X0
  by_cases hr : r < 0
  · clear hr3
    go_wp2
    go_ret
    exact ⟨rfl, B1.out⟩
  obtain ⟨hm0, hF⟩ := hr3 (by omega)
  have HF := hide hF
  have hp : n ≤ 1048576 := by omega
  clear hr3 hF hm0
  obtain ⟨x1, y0, y1, y2⟩ := X1.out
  go_wp2_with fail
  refine (szSpace_any a0 n0 c0 f0 a1 n1 c1 f1 r _ (by omega) (by omega) hn0 hn1 (HV0.out.below B1.out (Nat.le_refl _)) HS0.out (HV1.out.below B1.out (Nat.le_refl _)) HS1.out).mono ?_
  rintro e w2 ⟨r2, rfl, hr21, hr22, hr23, hB⟩
  have X2 := hide (X1.out.below hB X1.out.lt)
  have B2 := hide (B1.out.trans (hB.mono B1.out.size))
  clear hB B1 X1 x1 y0 y1 y2
  by_cases hq : r2 < 0
  · clear hr23
    go_wp2
    go_ret
    exact ⟨rfl, B2.out⟩
  obtain ⟨hm0, hm1, hF⟩ := hr23 (by omega)
  have HFS := hide hF
  have hp0 : n0 ≤ 1048576 := by omega
  have hp1 : n1 ≤ 1048576 := by omega
  clear hr23 hF hm0 hm1
  obtain ⟨x1, y0, y1, y2⟩ := X2.out
  go_upto_region 8 with fail
  go_cut [6, 7] (fun s6 s7 wx => s6 = .int .i64 C1 ∧ s7 = .int .i64 C2 ∧ Hid (Below w2.heap.size w2 wx))
  case first =>
    have V := hide (HV.out.below B2.out (Nat.le_refl _))
    have V0 := hide (HV0.out.below B2.out (Nat.le_refl _))
    have V1 := hide (HV1.out.below B2.out (Nat.le_refl _))
    have E0 := hide ((Below.refl w2.heap.size w2).drew)
    go_region_with (first
      | (go_at_call 7; refine (toAccount_any a n cap f _ hp ?_ HF.out).mono ?_; (first | exact V.out.below E0.out (Nat.le_refl _) | exact V.out | exact V.out.below BS.out (Nat.le_refl _)); rintro e wa ⟨g, rfl, hS, hg, hBa⟩; (first | have BA : Hid (Below w2.heap.size w2 wa) := E0.out.trans (hBa.mono (Nat.le_refl _)) | have BA : Hid (Below w2.heap.size w2 wa) := BS.out.trans (hBa.mono BS.out.size)); have RA := hide hS.row.sl; (try have SA0 := hide (RS0.out.below hBa (Nat.le_refl _))); (try have SA1 := hide (RS1.out.below hBa (Nat.le_refl _))); obtain ⟨xa, ya0, ya1, ya2⟩ := X2.out.below BA.out X2.out.lt; clear hS hg hBa)
      | (go_at_call 12; refine (toSpace_any a0 n0 c0 f0 a1 n1 c1 f1 _ hp0 hp1 ?_ ?_ HFS.out).mono ?_; (first | exact V0.out.below E0.out (Nat.le_refl _) | exact V0.out | exact V0.out.below BA.out (Nat.le_refl _)); (first | exact V1.out.below E0.out (Nat.le_refl _) | exact V1.out | exact V1.out.below BA.out (Nat.le_refl _)); rintro e wb ⟨g0, g1, rfl, hS0, hg0, hS1, hg1, hBb⟩; (first | have BS : Hid (Below w2.heap.size w2 wb) := E0.out.trans (hBb.mono (Nat.le_refl _)) | have BS : Hid (Below w2.heap.size w2 wb) := BA.out.trans (hBb.mono BA.out.size)); have RS0 := hide hS0.sl; have RS1 := hide hS1.row.sl; (try have AS := hide (RA.out.below hBb (Nat.le_refl _))); obtain ⟨xb, yb0, yb1, yb2⟩ := X2.out.below BS.out X2.out.lt; clear hS0 hS1 hg0 hg1 hBb)
      | (go_at_call 11; first
          | (refine (specAudit_any (some ⟨g, 0, none⟩) n n f (some ⟨g0, 0, none⟩) n0 n0 f0 (some ⟨g1, 0, none⟩) n1 n1 f1 wb (by omega) (by omega) (by omega) AS.out HF.out HS.out RS0.out RS1.out HFS.out (fun i hi => (HS1.out i hi).2.2)).mono ?_; rintro e wc ⟨rfl, hBc⟩; have BC : Hid (Below w2.heap.size w2 wc) := BS.out.trans (hBc.mono BS.out.size); clear hBc)
          | (refine (specAudit_any (some ⟨g, 0, none⟩) n n f (some ⟨g0, 0, none⟩) n0 n0 f0 (some ⟨g1, 0, none⟩) n1 n1 f1 wa (by omega) (by omega) (by omega) RA.out HF.out HS.out SA0.out SA1.out HFS.out (fun i hi => (HS1.out i hi).2.2)).mono ?_; rintro e wc ⟨rfl, hBc⟩; have BC : Hid (Below w2.heap.size w2 wc) := BA.out.trans (hBc.mono BA.out.size); clear hBc)))
    all_goals
      go_simp
      go_wp2_with fail
      go_meet
      exact ⟨by simp [HC.out], by simp [HC.out], BC.out⟩
  case rest =>
  obtain ⟨rfl, rfl, BX⟩ := hcut
  obtain ⟨w3, hw3⟩ : ∃ w3, w3 = wc := ⟨_, rfl⟩
  subst hw3
  have X3 := hide (X2.out.below BX.out X2.out.lt)
  have B3 := hide (B2.out.trans (BX.out.mono B2.out.size))
  clear BX X2 B2 x1 y0 y1 y2
  obtain ⟨x1, y0, y1, y2⟩ := X3.out
  go_wp2_with fail
  refine (toAccount_any a n cap f _ hp (HV.out.below B3.out (Nat.le_refl _)) HF.out).mono ?_
  rintro e w4 ⟨h0, rfl, hS, hg, hB⟩
  have A4 := hide ((Below.refl w4.heap.size w4).alloc (Nat.le_refl _) (.cells #[.slice (some ⟨h0, 0, none⟩) n n] 30))
  have D4 := hide (hB.trans (A4.out.mono hB.size))
  have X4 := hide (X3.out.below D4.out X3.out.lt)
  have B4 := hide (B3.out.trans (D4.out.mono B3.out.size))
  have S4 := hide (hS.row.below A4.out (Nat.le_refl _)).sl
  have c4 : (w4.alloc (.cells #[.slice (some ⟨h0, 0, none⟩) n n] 30)).cell? ⟨w4.heap.size, 0, none⟩ = some (.slice (some ⟨h0, 0, none⟩) n n) := by simp
  have zx : w4.heap.size < (w4.alloc (.cells #[.slice (some ⟨h0, 0, none⟩) n n] 30)).heap.size := by simp
  clear hB hS hg A4 D4 X3 B3 x1 y0 y1 y2
  obtain ⟨x1, y0, y1, y2⟩ := X4.out
  go_wp2_with fail
  generalize w4.alloc (.cells #[.slice (some ⟨h0, 0, none⟩) n n] 30) = w5 at X4 B4 S4 c4 zx x1 y0 y1 y2 ⊢
  generalize w4.heap.size = p4 at c4 zx ⊢
  refine (toSpace_any a0 n0 c0 f0 a1 n1 c1 f1 _ hp0 hp1 (HV0.out.below B4.out (Nat.le_refl _)) (HV1.out.below B4.out (Nat.le_refl _)) HFS.out).mono ?_
  rintro e w6 ⟨s0, s1, rfl, hS0, hg0, hS1, hg1, hB⟩
  have A6 := hide ((Below.refl w6.heap.size w6).alloc (Nat.le_refl _) (.cells #[.slice (some ⟨s0, 0, none⟩) n0 n0, .slice (some ⟨s1, 0, none⟩) n1 n1] 43))
  have D6 := hide (hB.trans (A6.out.mono hB.size))
  have X6 := hide (X4.out.below D6.out X4.out.lt)
  have B6 := hide (B4.out.trans (D6.out.mono B4.out.size))
  have S6 := hide (S4.out.below D6.out (Nat.le_refl _))
  have T0 := hide (hS0.below A6.out (Nat.le_refl _)).sl
  have T1 := hide (hS1.row.below A6.out (Nat.le_refl _)).sl
  have c6 := (D6.out.cell (p := ⟨p4, 0, none⟩) zx).trans c4
  have d0 : (w6.alloc (.cells #[.slice (some ⟨s0, 0, none⟩) n0 n0, .slice (some ⟨s1, 0, none⟩) n1 n1] 43)).cell? ⟨w6.heap.size, 0, none⟩ = some (.slice (some ⟨s0, 0, none⟩) n0 n0) := by simp
  have d1 : (w6.alloc (.cells #[.slice (some ⟨s0, 0, none⟩) n0 n0, .slice (some ⟨s1, 0, none⟩) n1 n1] 43)).cell? ⟨w6.heap.size, 1, none⟩ = some (.slice (some ⟨s1, 0, none⟩) n1 n1) := by simp
  have zy : w6.heap.size < (w6.alloc (.cells #[.slice (some ⟨s0, 0, none⟩) n0 n0, .slice (some ⟨s1, 0, none⟩) n1 n1] 43)).heap.size := by simp
  have zx6 : p4 < (w6.alloc (.cells #[.slice (some ⟨s0, 0, none⟩) n0 n0, .slice (some ⟨s1, 0, none⟩) n1 n1] 43)).heap.size := Nat.lt_of_lt_of_le zx D6.out.size
  clear hB hS0 hS1 hg0 hg1 A6 D6 X4 B4 S4 c4 zx x1 y0 y1 y2
  go_wp2_with fail
  generalize w6.alloc (.cells #[.slice (some ⟨s0, 0, none⟩) n0 n0, .slice (some ⟨s1, 0, none⟩) n1 n1] 43) = w7 at X6 B6 S6 T0 T1 c6 d0 d1 zy zx6 ⊢
  generalize w6.heap.size = p6 at d0 d1 zy ⊢
  refine (implAudit_any (some ⟨h0, 0, none⟩) n n f (some ⟨s0, 0, none⟩) n0 n0 f0 (some ⟨s1, 0, none⟩) n1 n1 f1 _ (by omega) (by omega) (by omega) S6.out (by omega) HF.out T0.out T1.out HFS.out (HT.out.below B6.out HT.out.1) (HT2.out.below B6.out htb) (HPOW.out.below B6.out (Nat.le_refl _))).mono ?_
  rintro e w8 ⟨rfl, hB⟩
  rw [HC.out]
  have X8 := hide (X6.out.below hB X6.out.lt)
  have B8 := hide (B6.out.trans (hB.mono B6.out.size))
  have S8 := hide (S6.out.below hB (Nat.le_refl _))
  have T08 := hide (T0.out.below hB (Nat.le_refl _))
  have T18 := hide (T1.out.below hB (Nat.le_refl _))
  have c8 := (hB.cell (p := ⟨p4, 0, none⟩) zx6).trans c6
  have d08 := (hB.cell (p := ⟨p6, 0, none⟩) zy).trans d0
  have d18 := (hB.cell (p := ⟨p6, 1, none⟩) zy).trans d1
  have zx8 : p4 < w8.heap.size := Nat.lt_of_lt_of_le zx6 hB.size
  have zy8 : p6 < w8.heap.size := Nat.lt_of_lt_of_le zy hB.size
  clear hB X6 B6 S6 T0 T1 c6 d0 d1 zx6 zy HC
  go_upto_region 14 with fail
  go_cut [52] (fun s wx => s = .bool false ∧ Hid (Below w8.heap.size w8 wx))
  case first =>
    obtain ⟨x1, y0, y1, y2⟩ := X8.out
    clear d08 d18
    go_region_with (first
      | (go_at_call 7; refine (toAccount_any a n cap f _ hp ?_ HF.out).mono ?_; (first | exact HV.out.below B8.out (Nat.le_refl _) | exact HV.out.below B8.out.drew (Nat.le_refl _)); rintro e wa ⟨i0, rfl, hS, hg, hB7⟩; have T0 := hide hS.row.sl; have B7 : Hid (Below w8.heap.size w8 wa) := ⟨hB7.os, hB7.tape, hB7.output, hB7.size, hB7.block⟩; have x70 := (B7.out.cell (p := ⟨p4, 0, none⟩) zx8).trans c8; have U0 := hide (S8.out.below B7.out (Nat.le_refl _)); clear hS hg hB7)
      | (go_at_call 9; refine (eqAccount_any (some ⟨h0, 0, none⟩) (some ⟨i0, 0, none⟩) n n n f _ hp U0.out T0.out HF.out).mono ?_; rintro e wb ⟨rfl, hB8⟩; have E9 := hide (B7.out.trans (hB8.mono B7.out.size)); clear hB8))
    all_goals
      go_wp2_with fail
      go_meet
      exact ⟨rfl, E9.out⟩
  case rest =>
  obtain ⟨rfl, E9⟩ := hcut
  obtain ⟨w9, hwn⟩ : ∃ w9, w9 = wc := ⟨_, rfl⟩
  subst hwn
  have X9 := hide (X8.out.below E9.out X8.out.lt)
  have B9 := hide (B8.out.trans (E9.out.mono B8.out.size))
  have T09 := hide (T08.out.below E9.out (Nat.le_refl _))
  have T19 := hide (T18.out.below E9.out (Nat.le_refl _))
  have d09 := (E9.out.cell (p := ⟨p6, 0, none⟩) zy8).trans d08
  have d19 := (E9.out.cell (p := ⟨p6, 1, none⟩) zy8).trans d18
  have zy9 : p6 < w9.heap.size := Nat.lt_of_lt_of_le zy8 E9.out.size
  clear E9 X8 B8 S8 T08 T18 c8 d08 d18 zx8 zy8
  go_upto_region 16 with fail
  go_cut [57] (fun s wx => s = .bool false ∧ Hid (Below w9.heap.size w9 wx))
  case first =>
    obtain ⟨x1, y0, y1, y2⟩ := X9.out
    go_region_with (first
      | (go_at_call 12; refine (toSpace_any a0 n0 c0 f0 a1 n1 c1 f1 _ hp0 hp1 ?_ ?_ HFS.out).mono ?_; (first | exact HV0.out.below B9.out (Nat.le_refl _) | exact HV0.out.below B9.out.drew (Nat.le_refl _)); (first | exact HV1.out.below B9.out (Nat.le_refl _) | exact HV1.out.below B9.out.drew (Nat.le_refl _)); rintro e wa ⟨i0, i1, rfl, hS0, hg0, hS1, hg1, hB7⟩; have U0 := hide hS0.sl; have U1 := hide hS1.row.sl; have B7 : Hid (Below w9.heap.size w9 wa) := ⟨hB7.os, hB7.tape, hB7.output, hB7.size, hB7.block⟩; have x70 := (B7.out.cell (p := ⟨p6, 0, none⟩) zy9).trans d09; have x71 := (B7.out.cell (p := ⟨p6, 1, none⟩) zy9).trans d19; have V0 := hide (T09.out.below B7.out (Nat.le_refl _)); have V1 := hide (T19.out.below B7.out (Nat.le_refl _)); clear hS0 hS1 hg0 hg1 hB7)
      | (go_at_call 14; refine (eqSpace_any (some ⟨s0, 0, none⟩) (some ⟨i0, 0, none⟩) n0 n0 n0 f0 (some ⟨s1, 0, none⟩) (some ⟨i1, 0, none⟩) n1 n1 n1 f1 _ hp0 hp1 V0.out U0.out V1.out U1.out HFS.out).mono ?_; rintro e wb ⟨rfl, hB8⟩; have E9 := hide (B7.out.trans (hB8.mono B7.out.size)); clear hB8))
    all_goals
      go_wp2_with fail
      go_meet
      exact ⟨rfl, E9.out⟩
  case rest =>
  obtain ⟨rfl, E9⟩ := hcut
  have BF := hide (B9.out.trans (E9.out.mono B9.out.size))
  go_wp2
  go_ret
  exact ⟨rfl, BF.out⟩

end Go.Proofs.YtfhdecheaeoopaaGreatDoor.Vp
