/-
  impl: CheckSpace.
-/
import Derived.Test.YtfhdecheaeoopaaGreatDoorZCsFind
namespace Go.Proofs.YtfhdecheaeoopaaGreatDoor.Vp
open Go.RowKit

set_option maxHeartbeats 1000000 in
theorem ascending_nil (a : Option Addr) (cap : Nat) (w : World) : Calls Tryz.prog 56 #[.slice a 0 cap] w fun e w' => e = .returned (.bool true) ∧ w' = w := by
  go_enter Tryz.func56, Tryz.ntmps56
  go_wp2
  go_loop [3] (fun i => i = .int .i64 1) (fun _ => 0)
  case atStart => rfl
  case round =>
    subst hrel
    go_wp2
    go_ret
    exact ⟨rfl, rfl⟩
theorem ascending_any (a : Option Addr) (n cap : Nat) (g : Nat → ByteArray) (w : World) (hn : (n : Int) ≤ 1048576) (hr : SlStr w a n g) :
    Calls Tryz.prog 56 #[.slice a n cap] w fun e w' => e = .returned (.bool (ascTo g n)) ∧ Below w.heap.size w w' := by
  rcases hr with rfl | ⟨b, off, rfl, hr⟩
  · exact (ascending_nil a cap w).mono fun e w' ⟨p, q⟩ => ⟨p, by rw [q]; exact Below.refl _ _⟩
  · exact ascending_row b off n cap g w hn hr

abbrev nm0 (f0 : Nat → Source) : Nat → ByteArray := fun i => (f0 i).name
abbrev nm1 (f1 : Nat → Target) : Nat → ByteArray := fun i => (f1 i).name
def checkC (n0 : Nat) (f0 : Nat → Source) (n1 : Nat) (f1 : Nat → Target) : Int :=
  if 200 < n0 + n1 then 1 else if namesTo (nm0 f0) n0 = false then 2 else if namesTo (nm1 f1) n1 = false then 2 else if ascTo (nm0 f0) n0 = false then 3 else if ascTo (nm1 f1) n1 = false then 4
  else if anyTo (fun i => isIn (nm1 f1) n1 (nm0 f0 i)) n0 = true then 5 else if anyTo (fun i => longT (f0 i)) n0 = true then 6 else if anyTo (fun i => wrongA (f1 i)) n1 = true then 7 else 0

set_option maxHeartbeats 4000000 in
theorem implCheck_any (a0 : Option Addr) (n0 c0 : Nat) (f0 : Nat → Source) (a1 : Option Addr) (n1 c1 : Nat) (f1 : Nat → Target) (w : World) (hn0 : (n0 : Int) ≤ 1048576) (hn1 : (n1 : Int) ≤ 1048576) (hv0 : SlSource w a0 n0 f0) (hv1 : SlTarget w a1 n1 f1) (hfit : ∀ i, i < n1 → FitsTarget (f1 i)) (hT : Tab w) :
    Calls Tryz.prog 32 #[.agg #[.slice a0 n0 c0, .slice a1 n1 c1]] w fun e w' => e = .returned (.int .i64 (checkC n0 f0 n1 f1)) ∧ Below w.heap.size w w' := by
  have V0 := hide hv0
  have V1 := hide hv1
  have HF := hide hfit
  have HT := hide hT
  clear hv0 hv1 hfit hT
  obtain ⟨C, hC⟩ : ∃ C, C = checkC n0 f0 n1 f1 := ⟨_, rfl⟩
  rw [← hC]
  unfold checkC at hC
  have HC := hide hC
  clear hC
  have A0 := hide ((Below.refl w.heap.size w).alloc (Nat.le_refl _) (.cells #[.slice a0 n0 c0, .slice a1 n1 c1] 43))
  go_enter Tryz.func32, Tryz.ntmps32
  go_wp2_with fail
  refine (things_any a0 a1 n0 c0 n1 c1 _ hn0 hn1).mono ?_
  rintro e w1 ⟨rfl, hB⟩
  have k0 : w1.cell? ⟨w.heap.size, 0, none⟩ = some (.slice a0 n0 c0) := (hB.cell (p := ⟨w.heap.size, 0, none⟩) (by simp)).trans (by simp)
  have k1 : w1.cell? ⟨w.heap.size, 1, none⟩ = some (.slice a1 n1 c1) := (hB.cell (p := ⟨w.heap.size, 1, none⟩) (by simp)).trans (by simp)
  have z1 : w.heap.size < w1.heap.size := by have := hB.size; simp at this; omega
  have B1 := hide (A0.out.trans (hB.mono (by simp)))
  clear hB A0
  by_cases h1 : (200 : Int) < n0 + n1
  · have hc := HC.out
    rw [if_pos (by omega)] at hc
    subst hc
    go_wp2
    go_ret
    exact ⟨rfl, B1.out⟩
  have hc1 := HC.out
  rw [if_neg (by omega)] at hc1
  have HC1 := hide hc1
  clear hc1 HC
  go_wp2_with fail
  go_region_with (first
    | (go_at_call 53; refine (sourceNames_any a0 n0 c0 a1 n1 c1 f0 _ hn0 ?_).mono ?_; (first | exact V0.out.below B1.out (Nat.le_refl _) | exact V0.out.below B1.out.drew (Nat.le_refl _)); rintro e w2 ⟨sa, sc, rfl, hs2, hB2⟩; have S2 := hide hs2; have D2 : Hid (Below w1.heap.size w1 w2) := ⟨hB2.os, hB2.tape, hB2.output, hB2.size, hB2.block⟩; have B2 := hide (B1.out.trans (D2.out.mono B1.out.size)); have k20 := (D2.out.cell (p := ⟨w.heap.size, 0, none⟩) z1).trans k0; have k21 := (D2.out.cell (p := ⟨w.heap.size, 1, none⟩) z1).trans k1; have z2 : w.heap.size < w2.heap.size := Nat.lt_of_lt_of_le z1 D2.out.size; clear hs2 hB2)
    | (go_at_call 54; refine (targetNames_any a1 n1 c1 a0 n0 c0 f1 _ hn1 ?_).mono ?_; exact V1.out.below B2.out (Nat.le_refl _); rintro e w3 ⟨ta, tc, rfl, hs3, hB3⟩; have S3 := hide hs3; have R3 := hide (S2.out.below hB3 (Nat.le_refl _)); have B3 := hide (B2.out.trans (hB3.mono B2.out.size)); have k30 := (hB3.cell (p := ⟨w.heap.size, 0, none⟩) z2).trans k20; have k31 := (hB3.cell (p := ⟨w.heap.size, 1, none⟩) z2).trans k21; have z3 : w.heap.size < w3.heap.size := Nat.lt_of_lt_of_le z2 hB3.size; clear hs3 hB3))
  all_goals
    clear k0 k1 k20 k21
    go_wp2_with fail
    refine (areNames_any sa n0 sc (nm0 f0) _ hn0 R3.out).mono ?_
    rintro e w4 ⟨rfl, hB4⟩
    have B4 := hide (B3.out.trans (hB4.mono B3.out.size))
    have R4 := hide (R3.out.below hB4 (Nat.le_refl _))
    have S4 := hide (S3.out.below hB4 (Nat.le_refl _))
    have k40 := (hB4.cell (p := ⟨w.heap.size, 0, none⟩) z3).trans k30
    have k41 := (hB4.cell (p := ⟨w.heap.size, 1, none⟩) z3).trans k31
    have z4 : w.heap.size < w4.heap.size := Nat.lt_of_lt_of_le z3 hB4.size
    clear hB4 k30 k31
    cases q0 : namesTo (nm0 f0) n0 with
    | false =>
      have hc := HC1.out
      rw [if_pos q0] at hc
      subst hc
      clear q0
      go_wp2
      go_ret
      exact ⟨rfl, B4.out⟩
    | true =>
      have hc := HC1.out
      rw [if_neg (by simp [q0])] at hc
      have HC2 := hide hc
      clear hc q0
      go_wp2_with fail
      refine (areNames_any ta n1 tc (nm1 f1) _ hn1 S4.out).mono ?_
      rintro e w5 ⟨rfl, hB5⟩
      have B5 := hide (B4.out.trans (hB5.mono B4.out.size))
      have R5 := hide (R4.out.below hB5 (Nat.le_refl _))
      have S5 := hide (S4.out.below hB5 (Nat.le_refl _))
      have k50 := (hB5.cell (p := ⟨w.heap.size, 0, none⟩) z4).trans k40
      have k51 := (hB5.cell (p := ⟨w.heap.size, 1, none⟩) z4).trans k41
      have z5 : w.heap.size < w5.heap.size := Nat.lt_of_lt_of_le z4 hB5.size
      clear hB5 k40 k41
      cases q1 : namesTo (nm1 f1) n1 with
      | false =>
        have hc := HC2.out
        rw [if_pos q1] at hc
        subst hc
        clear q1
        go_wp2
        go_ret
        exact ⟨rfl, B5.out⟩
      | true =>
        have hc := HC2.out
        rw [if_neg (by simp [q1])] at hc
        have HC3 := hide hc
        clear hc q1
        go_wp2_with fail
        refine (ascending_any sa n0 sc (nm0 f0) _ hn0 R5.out).mono ?_
        rintro e w6 ⟨rfl, hB6⟩
        have B6 := hide (B5.out.trans (hB6.mono B5.out.size))
        have R6 := hide (R5.out.below hB6 (Nat.le_refl _))
        have S6 := hide (S5.out.below hB6 (Nat.le_refl _))
        have k60 := (hB6.cell (p := ⟨w.heap.size, 0, none⟩) z5).trans k50
        have k61 := (hB6.cell (p := ⟨w.heap.size, 1, none⟩) z5).trans k51
        have z6 : w.heap.size < w6.heap.size := Nat.lt_of_lt_of_le z5 hB6.size
        clear hB6 k50 k51
        cases q2 : ascTo (nm0 f0) n0 with
        | false =>
          have hc := HC3.out
          rw [if_pos q2] at hc
          subst hc
          clear q2
          go_wp2
          go_ret
          exact ⟨rfl, B6.out⟩
        | true =>
          have hc := HC3.out
          rw [if_neg (by simp [q2])] at hc
          have HC4 := hide hc
          clear hc q2
          go_wp2_with fail
          refine (ascending_any ta n1 tc (nm1 f1) _ hn1 S6.out).mono ?_
          rintro e w7 ⟨rfl, hB7⟩
          have B7 := hide (B6.out.trans (hB7.mono B6.out.size))
          have R7 := hide (R6.out.below hB7 (Nat.le_refl _))
          have S7 := hide (S6.out.below hB7 (Nat.le_refl _))
          have k70 := (hB7.cell (p := ⟨w.heap.size, 0, none⟩) z6).trans k60
          have k71 := (hB7.cell (p := ⟨w.heap.size, 1, none⟩) z6).trans k61
          have z7 : w.heap.size < w7.heap.size := Nat.lt_of_lt_of_le z6 hB7.size
          clear hB7 k60 k61
          cases q3 : ascTo (nm1 f1) n1 with
          | false =>
            have hc := HC4.out
            rw [if_pos q3] at hc
            subst hc
            clear q3
            go_wp2
            go_ret
            exact ⟨rfl, B7.out⟩
          | true =>
            have hc := HC4.out
            rw [if_neg (by simp [q3])] at hc
            have ASC := hide q3
            have HC5 := hide hc
            clear hc q3
            go_wp2_with fail
            refine (meet_any sa n0 sc (nm0 f0) ta n1 tc (nm1 f1) _ hn0 R7.out hn1 S7.out ASC.out).mono ?_
            rintro e w8 ⟨rfl, hB8⟩
            have B8 := hide (B7.out.trans (hB8.mono B7.out.size))
            have R8 := hide (R7.out.below hB8 (Nat.le_refl _))
            have S8 := hide (S7.out.below hB8 (Nat.le_refl _))
            have k80 := (hB8.cell (p := ⟨w.heap.size, 0, none⟩) z7).trans k70
            have k81 := (hB8.cell (p := ⟨w.heap.size, 1, none⟩) z7).trans k71
            have z8 : w.heap.size < w8.heap.size := Nat.lt_of_lt_of_le z7 hB8.size
            clear hB8 k70 k71
            cases q4 : anyTo (fun i => isIn (nm1 f1) n1 (nm0 f0 i)) n0 with
            | true =>
              have hc := HC5.out
              rw [if_pos q4] at hc
              subst hc
              clear q4
              go_wp2
              go_ret
              exact ⟨rfl, B8.out⟩
            | false =>
              have hc := HC5.out
              rw [if_neg (by simp [q4])] at hc
              have HC6 := hide hc
              clear hc q4
              go_wp2_with fail
              refine (containsS_any a0 n0 c0 f0 _ hn0 (V0.out.below B8.out (Nat.le_refl _))).mono ?_
              rintro e w9 ⟨rfl, hB9⟩
              have B9 := hide (B8.out.trans (hB9.mono B8.out.size))
              have R9 := hide (R8.out.below hB9 (Nat.le_refl _))
              have S9 := hide (S8.out.below hB9 (Nat.le_refl _))
              have k90 := (hB9.cell (p := ⟨w.heap.size, 0, none⟩) z8).trans k80
              have k91 := (hB9.cell (p := ⟨w.heap.size, 1, none⟩) z8).trans k81
              have z9 : w.heap.size < w9.heap.size := Nat.lt_of_lt_of_le z8 hB9.size
              clear hB9 k80 k81
              cases q5 : anyTo (fun i => longT (f0 i)) n0 with
              | true =>
                have hc := HC6.out
                rw [if_pos q5] at hc
                subst hc
                clear q5
                go_wp2
                go_ret
                exact ⟨rfl, B9.out⟩
              | false =>
                have hc := HC6.out
                rw [if_neg (by simp [q5])] at hc
                have HC7 := hide hc
                clear hc q5
                go_wp2_with fail
                refine (containsT_any a1 n1 c1 f1 _ hn1 HF.out (HT.out.below B9.out HT.out.1) (V1.out.below B9.out (Nat.le_refl _))).mono ?_
                rintro e w10 ⟨rfl, hB10⟩
                have B10 := hide (B9.out.trans (hB10.mono B9.out.size))
                have R10 := hide (R9.out.below hB10 (Nat.le_refl _))
                have S10 := hide (S9.out.below hB10 (Nat.le_refl _))
                have k100 := (hB10.cell (p := ⟨w.heap.size, 0, none⟩) z9).trans k90
                have k101 := (hB10.cell (p := ⟨w.heap.size, 1, none⟩) z9).trans k91
                have z10 : w.heap.size < w10.heap.size := Nat.lt_of_lt_of_le z9 hB10.size
                clear hB10 k90 k91
                cases q6 : anyTo (fun i => wrongA (f1 i)) n1 with
                | true =>
                  have hc := HC7.out
                  rw [if_pos q6] at hc
                  subst hc
                  clear q6
                  go_wp2
                  go_ret
                  exact ⟨rfl, B10.out⟩
                | false =>
                  have hc := HC7.out
                  rw [if_neg (by simp [q6])] at hc
                  subst hc
                  clear q6
                  go_wp2
                  go_ret
                  exact ⟨rfl, B10.out⟩

end Go.Proofs.YtfhdecheaeoopaaGreatDoor.Vp
