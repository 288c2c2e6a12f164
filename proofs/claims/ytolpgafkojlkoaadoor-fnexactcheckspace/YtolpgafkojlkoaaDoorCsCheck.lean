/-
  impl: CheckSpace.
-/
import Derived.Test.YtolpgafkojlkoaaDoorCsWide
namespace Go.Proofs.YtolpgafkojlkoaaDoor.Vp
open Go.RowKit

set_option maxHeartbeats 1000000 in
theorem ascending_nil (a : Option Addr) (cap : Nat) (w : World) : Calls Tryd.prog 51 #[.slice a 0 cap] w fun e w' => e = .returned (.bool true) ∧ w' = w := by
  go_enter Tryd.func51, Tryd.ntmps51
  go_wp2
  go_loop [3] (fun i => i = .int .i64 1) (fun _ => 0)
  case atStart => rfl
  case round =>
    subst hrel
    go_wp2
    go_ret
    exact ⟨rfl, rfl⟩
theorem ascending_any (a : Option Addr) (n cap : Nat) (g : Nat → ByteArray) (w : World) (hn : (n : Int) ≤ 1048576) (hr : SlStr w a n g) :
    Calls Tryd.prog 51 #[.slice a n cap] w fun e w' => e = .returned (.bool (ascTo g n)) ∧ Below w.heap.size w w' := by
  rcases hr with rfl | ⟨b, off, rfl, hr⟩
  · exact (ascending_nil a cap w).mono fun e w' ⟨p, q⟩ => ⟨p, by rw [q]; exact Below.refl _ _⟩
  · exact ascending_row b off n cap g w hn hr

abbrev nm0 (f0 : Nat → Source) : Nat → ByteArray := fun i => (f0 i).name
abbrev nm1 (f1 : Nat → Target) : Nat → ByteArray := fun i => (f1 i).name
def checkC (n0 : Nat) (f0 : Nat → Source) (n1 : Nat) (f1 : Nat → Target) : Int :=
  if 200 < n0 + n1 then 1 else if namesTo (nm0 f0) n0 = false then 2 else if namesTo (nm1 f1) n1 = false then 2 else if ascTo (nm0 f0) n0 = false then 3 else if ascTo (nm1 f1) n1 = false then 4
  else if anyTo (fun i => isIn (nm1 f1) n1 (nm0 f0 i)) n0 = true then 5 else if anyTo (fun i => longT (f0 i)) n0 = true then 6 else if anyTo (fun i => wrongA (f1 i)) n1 = true then 7 else 0

set_option maxHeartbeats 4000000 in
theorem implCheck_any (a0 : Option Addr) (n0 c0 : Nat) (f0 : Nat → Source) (a1 : Option Addr) (n1 c1 : Nat) (f1 : Nat → Target) (w : World) (hn0 : (n0 : Int) ≤ 1048576) (hn1 : (n1 : Int) ≤ 1048576) (hv0 : SlSource w a0 n0 f0) (hv1 : SlTarget w a1 n1 f1) (hfit : ∀ i, i < n1 → FitsTarget (f1 i)) (hT : Tab w) :
    Calls Tryd.prog 21 #[.agg #[.slice a0 n0 c0, .slice a1 n1 c1]] w fun e w' => e = .returned (.int .i64 (checkC n0 f0 n1 f1)) ∧ Below w.heap.size w w' := by
  have V0 := hide hv0
  have V1 := hide hv1
  have HF := hide hfit
  have HT := hide hT
  clear hv0 hv1 hfit hT
  obtain ⟨C, hC⟩ : ∃ C, C = checkC n0 f0 n1 f1 := ⟨_, rfl⟩
  rw [← hC]
  unfold checkC at hC
  have HC := hide hC
  clear hC
  have A0 := hide ((Below.refl w.heap.size w).alloc (Nat.le_refl _) (.cells #[.slice a0 n0 c0, .slice a1 n1 c1] 46))
  go_enter Tryd.func21, Tryd.ntmps21
  go_wp2_with fail
  refine (things_any a0 a1 n0 c0 n1 c1 _ hn0 hn1).mono ?_
  rintro e w1 ⟨rfl, hB⟩
  have k0 : w1.cell? ⟨w.heap.size, 0, none⟩ = some (.slice a0 n0 c0) := (hB.cell (p := ⟨w.heap.size, 0, none⟩) (by simp)).trans (by simp)
  have k1 : w1.cell? ⟨w.heap.size, 1, none⟩ = some (.slice a1 n1 c1) := (hB.cell (p := ⟨w.heap.size, 1, none⟩) (by simp)).trans (by simp)
  have z1 : w.heap.size < w1.heap.size := by have := hB.size; simp at this; omega
  have B1 := hide (A0.trans (hB.mono (by simp)))
  clear hB A0
  by_cases h1 : (200 : Int) < n0 + n1
  · have hc := HC.out
    rw [if_pos (by omega)] at hc
    subst hc
    go_wp2
    go_ret
    exact ⟨rfl, B1⟩
  have hc1 := HC.out
  rw [if_neg (by omega)] at hc1
  have HC1 := hide hc1
  clear hc1 HC
  go_wp2_with fail
  go_region_with (first
    | (go_at_call 48; refine (sourceNames_any a0 n0 c0 a1 n1 c1 f0 _ hn0 ?_).mono ?_; (first | exact V0.below B1 (Nat.le_refl _) | exact V0.below B1.drew (Nat.le_refl _)); rintro e w2 ⟨sa, sc, rfl, hs2, hB2⟩; have S2 := hide hs2; have D2 : Hid (Below w1.heap.size w1 w2) := ⟨hB2.os, hB2.tape, hB2.output, hB2.size, hB2.block⟩; have B2 := hide (B1.trans (D2.mono B1.size)); have k20 := (D2.cell (p := ⟨w.heap.size, 0, none⟩) z1).trans k0; have k21 := (D2.cell (p := ⟨w.heap.size, 1, none⟩) z1).trans k1; have z2 : w.heap.size < w2.heap.size := Nat.lt_of_lt_of_le z1 D2.size; clear hs2 hB2)
    | (go_at_call 49; refine (targetNames_any a1 n1 c1 a0 n0 c0 f1 _ hn1 ?_).mono ?_; exact V1.below B2 (Nat.le_refl _); rintro e w3 ⟨ta, tc, rfl, hs3, hB3⟩; have S3 := hide hs3; have R3 := hide (S2.below hB3 (Nat.le_refl _)); have B3 := hide (B2.trans (hB3.mono B2.size)); have k30 := (hB3.cell (p := ⟨w.heap.size, 0, none⟩) z2).trans k20; have k31 := (hB3.cell (p := ⟨w.heap.size, 1, none⟩) z2).trans k21; have z3 : w.heap.size < w3.heap.size := Nat.lt_of_lt_of_le z2 hB3.size; clear hs3 hB3))
  all_goals
    clear k0 k1 k20 k21
    have B := B3
    have R := R3
    have S := S3
    have k0 := k30
    have k1 := k31
    have z := z3
    have HC := HC1
    clear B3 R3 S3 k30 k31 z3 HC1
    iterate 7
      go_wp2_with fail
      first
        | with_reducible refine (areNames_any sa n0 sc (nm0 f0) _ hn0 R.out).mono ?_
        | with_reducible refine (areNames_any ta n1 tc (nm1 f1) _ hn1 S.out).mono ?_
        | with_reducible refine (ascending_any sa n0 sc (nm0 f0) _ hn0 R.out).mono ?_
        | with_reducible refine (ascending_any ta n1 tc (nm1 f1) _ hn1 S.out).mono ?_
        | with_reducible refine (meet_any sa n0 sc (nm0 f0) ta n1 tc (nm1 f1) _ hn0 R.out hn1 S.out ASC.out).mono ?_
        | with_reducible refine (containsS_any a0 n0 c0 f0 _ hn0 (V0.out.below B.out (Nat.le_refl _))).mono ?_
        | refine (containsT_any a1 n1 c1 f1 _ hn1 HF (HT.below B HT.1) (V1.below B (Nat.le_refl _))).mono ?_
      rintro e wx ⟨rfl, hB⟩
      replace k0 := (hB.cell (p := ⟨w.heap.size, 0, none⟩) z).trans k0
      replace k1 := (hB.cell (p := ⟨w.heap.size, 1, none⟩) z).trans k1
      replace z := Nat.lt_of_lt_of_le z hB.size
      replace R := hide (R.out.below hB (Nat.le_refl _))
      replace S := hide (S.out.below hB (Nat.le_refl _))
      replace B := hide (B.out.trans (hB.mono B.out.size))
      clear hB
      have hc := HC.out
      clear HC
      split at hc
      · rename_i hq
        subst hc
        rw [hq]
        go_wp2
        go_ret
        exact ⟨rfl, B⟩
      rename_i hq
      have HC := hide hc
      (try have ASC := hide (show ascTo (nm1 f1) n1 = true from Bool.of_not_eq_false hq))
      first | rw [Bool.of_not_eq_false hq] | rw [Bool.of_not_eq_true hq]
      clear hc hq
    have hc := HC.out
    subst hc
    go_wp2
    go_ret
    exact ⟨rfl, B⟩

end Go.Proofs.YtolpgafkojlkoaaDoor.Vp
