/-
  FnExactCheckSpace: the law.
-/
import Derived.Test.YtolpgafkojlkoaaDoorCsSpec2
namespace Go.Proofs.YtolpgafkojlkoaaDoor.Vp
open Go.RowKit

set_option maxHeartbeats 4000000 in
theorem law_check (a0 : Option Addr) (n0 c0 : Nat) (f0 : Nat → Source) (a1 : Option Addr) (n1 c1 : Nat) (f1 : Nat → Target) (w : World) (hn0 : (n0 : Int) ≤ 9223372036854775807) (hn1 : (n1 : Int) ≤ 9223372036854775807)
    (hv0 : SlSource w a0 n0 f0) (hs0 : ∀ i, i < n0 → (f0 i).name.size ≤ maxLen ∧ (f0 i).text.size ≤ maxLen) (hv1 : SlTarget w a1 n1 f1) (hs1 : ∀ i, i < n1 → SizedTarget (f1 i)) (hT : Tab w) :
    Calls Tryd.prog 5 #[.agg #[.slice a0 n0 c0, .slice a1 n1 c1]] w fun e w' => e = .returned (.bool true) ∧ Below w.heap.size w w' := by
  have HV0 := hide hv0
  have HV1 := hide hv1
  have HS0 := hide hs0
  have HS1 := hide hs1
  have HT := hide hT
  clear hv0 hv1 hs0 hs1 hT
  obtain ⟨C, hC⟩ : ∃ C, C = checkC n0 f0 n1 f1 := ⟨_, rfl⟩
  have HC := hide hC
  clear hC
  have B0 := hide ((Below.refl w.heap.size w).alloc (Nat.le_refl w.heap.size) (.cells #[.slice a0 n0 c0, .slice a1 n1 c1] 40))
  go_enter Tryd.func5, Tryd.ntmps5
  go_wp2_with fail
  refine (szSpace_any a0 n0 c0 f0 a1 n1 c1 f1 1048576 _ (by omega) (by omega) hn0 hn1 (HV0.out.below B0.out (Nat.le_refl _)) HS0.out (HV1.out.below B0.out (Nat.le_refl _)) HS1.out).mono ?_
  rintro e w1 ⟨r, rfl, hr1, hr2, hr3, hB⟩
  have c10 : w1.cell? ⟨w.heap.size, 0, none⟩ = some (.slice a0 n0 c0) := (hB.cell (p := ⟨w.heap.size, 0, none⟩) (by simp)).trans (by simp)
  have c11 : w1.cell? ⟨w.heap.size, 1, none⟩ = some (.slice a1 n1 c1) := (hB.cell (p := ⟨w.heap.size, 1, none⟩) (by simp)).trans (by simp)
  have z1 : w.heap.size < w1.heap.size := by have := hB.size; simp at this; omega
  have B1 := hide (B0.out.trans (hB.mono (by simp)))
  clear hB B0
  by_cases hr : r < 0
  · clear hr3
    go_wp2
    go_ret
    exact ⟨rfl, B1.out⟩
  obtain ⟨hm0, hm1, hF⟩ := hr3 (by omega)
  have HF := hide hF
  have hp0 : n0 ≤ 1048576 := by omega
  have hp1 : n1 ≤ 1048576 := by omega
  clear hr3 hF hm0 hm1
  go_wp2_with fail
  refine (toSpace_any a0 n0 c0 f0 a1 n1 c1 f1 _ hp0 hp1 (HV0.out.below B1.out (Nat.le_refl _)) (HV1.out.below B1.out (Nat.le_refl _)) HF.out).mono ?_
  rintro e w2 ⟨g0, g1, rfl, hS0, hg0, hS1, hg1, hB⟩
  have c20 := (hB.cell (p := ⟨w.heap.size, 0, none⟩) z1).trans c10
  have c21 := (hB.cell (p := ⟨w.heap.size, 1, none⟩) z1).trans c11
  have z2 : w.heap.size < w2.heap.size := Nat.lt_of_lt_of_le z1 hB.size
  have B2 := hide (B1.out.trans (hB.mono B1.out.size))
  have S0 := hide hS0.sl
  have S1 := hide hS1.row.sl
  clear hB hS0 hS1 hg0 hg1 c10 c11
  go_wp2_with fail
  refine (specCheck_any (some ⟨g0, 0, none⟩) n0 n0 f0 (some ⟨g1, 0, none⟩) n1 n1 f1 _ (by omega) (by omega) S0.out S1.out HF.out (fun i hi => (HS1.out i hi).2.2)).mono ?_
  rintro e w3 ⟨rfl, hB⟩
  rw [← HC.out]
  have c30 := (hB.cell (p := ⟨w.heap.size, 0, none⟩) z2).trans c20
  have c31 := (hB.cell (p := ⟨w.heap.size, 1, none⟩) z2).trans c21
  have z3 : w.heap.size < w3.heap.size := Nat.lt_of_lt_of_le z2 hB.size
  have B3 := hide (B2.out.trans (hB.mono B2.out.size))
  clear hB S0 S1 c20 c21
  go_wp2_with fail
  refine (toSpace_any a0 n0 c0 f0 a1 n1 c1 f1 _ hp0 hp1 (HV0.out.below B3.out (Nat.le_refl _)) (HV1.out.below B3.out (Nat.le_refl _)) HF.out).mono ?_
  rintro e w4 ⟨h0, h1, rfl, hS0, hg0, hS1, hg1, hB⟩
  have A4 := hide ((Below.refl w4.heap.size w4).alloc (Nat.le_refl _) (.cells #[.slice (some ⟨h0, 0, none⟩) n0 n0, .slice (some ⟨h1, 0, none⟩) n1 n1] 46))
  have D4 := hide (hB.trans (A4.out.mono hB.size))
  have c40 := (D4.out.cell (p := ⟨w.heap.size, 0, none⟩) z3).trans c30
  have c41 := (D4.out.cell (p := ⟨w.heap.size, 1, none⟩) z3).trans c31
  have B4 := hide (B3.out.trans (D4.out.mono B3.out.size))
  have S0 := hide (hS0.below A4.out (Nat.le_refl _)).sl
  have S1 := hide (hS1.row.below A4.out (Nat.le_refl _)).sl
  have x0 : (w4.alloc (.cells #[.slice (some ⟨h0, 0, none⟩) n0 n0, .slice (some ⟨h1, 0, none⟩) n1 n1] 46)).cell? ⟨w4.heap.size, 0, none⟩ = some (.slice (some ⟨h0, 0, none⟩) n0 n0) := by simp
  have x1 : (w4.alloc (.cells #[.slice (some ⟨h0, 0, none⟩) n0 n0, .slice (some ⟨h1, 0, none⟩) n1 n1] 46)).cell? ⟨w4.heap.size, 1, none⟩ = some (.slice (some ⟨h1, 0, none⟩) n1 n1) := by simp
  have zx : w4.heap.size < (w4.alloc (.cells #[.slice (some ⟨h0, 0, none⟩) n0 n0, .slice (some ⟨h1, 0, none⟩) n1 n1] 46)).heap.size := by simp
  have z4 : w.heap.size < (w4.alloc (.cells #[.slice (some ⟨h0, 0, none⟩) n0 n0, .slice (some ⟨h1, 0, none⟩) n1 n1] 46)).heap.size := Nat.lt_of_lt_of_le z3 D4.out.size
  clear hB hS0 hS1 hg0 hg1 A4 c30 c31
  go_wp2_with fail
  generalize w4.alloc (.cells #[.slice (some ⟨h0, 0, none⟩) n0 n0, .slice (some ⟨h1, 0, none⟩) n1 n1] 46) = w5 at D4 c40 c41 B4 S0 S1 x0 x1 zx z4 ⊢
  generalize w4.heap.size = x4 at x0 x1 zx ⊢
  clear D4
  refine (implCheck_any (some ⟨h0, 0, none⟩) n0 n0 f0 (some ⟨h1, 0, none⟩) n1 n1 f1 _ (by omega) (by omega) S0.out S1.out HF.out (HT.out.below B4.out HT.out.1)).mono ?_
  rintro e w6 ⟨rfl, hB⟩
  rw [← HC.out]
  have c60 := (hB.cell (p := ⟨w.heap.size, 0, none⟩) z4).trans c40
  have c61 := (hB.cell (p := ⟨w.heap.size, 1, none⟩) z4).trans c41
  have x60 := (hB.cell (p := ⟨x4, 0, none⟩) zx).trans x0
  have x61 := (hB.cell (p := ⟨x4, 1, none⟩) zx).trans x1
  have B6 := hide (B4.out.trans (hB.mono B4.out.size))
  have S60 := hide (S0.out.below hB (Nat.le_refl _))
  have S61 := hide (S1.out.below hB (Nat.le_refl _))
  have zx6 : x4 < w6.heap.size := Nat.lt_of_lt_of_le zx hB.size
  clear hB c40 c41 x0 x1 S0 S1
  go_wp2_with fail
  go_region_with (first
    | (go_at_call 20; refine (toSpace_any a0 n0 c0 f0 a1 n1 c1 f1 _ hp0 hp1 ?_ ?_ HF.out).mono ?_; (first | exact HV0.out.below B6.out (Nat.le_refl _) | exact HV0.out.below B6.out.drew (Nat.le_refl _)); (first | exact HV1.out.below B6.out (Nat.le_refl _) | exact HV1.out.below B6.out.drew (Nat.le_refl _)); rintro e w7 ⟨i0, i1, rfl, hS0, hg0, hS1, hg1, hB7⟩; have T0 := hide hS0.sl; have T1 := hide hS1.row.sl; have B7 : Hid (Below w6.heap.size w6 w7) := ⟨hB7.os, hB7.tape, hB7.output, hB7.size, hB7.block⟩; have x70 := (B7.out.cell (p := ⟨x4, 0, none⟩) zx6).trans x60; have x71 := (B7.out.cell (p := ⟨x4, 1, none⟩) zx6).trans x61; have U0 := hide (S60.out.below B7.out (Nat.le_refl _)); have U1 := hide (S61.out.below B7.out (Nat.le_refl _)); clear hS0 hS1 hg0 hg1 hB7)
    | (go_at_call 22; refine (eqSpace_any (some ⟨h0, 0, none⟩) (some ⟨i0, 0, none⟩) n0 n0 n0 f0 (some ⟨h1, 0, none⟩) (some ⟨i1, 0, none⟩) n1 n1 n1 f1 _ hp0 hp1 U0.out T0.out U1.out T1.out HF.out).mono ?_; rintro e w8 ⟨rfl, hB8⟩))
  all_goals
    go_wp2
    go_ret
    exact ⟨rfl, (B6.out.trans (B7.out.mono B6.out.size)).trans (hB8.mono (Nat.le_trans B6.out.size B7.out.size))⟩

end Go.Proofs.YtolpgafkojlkoaaDoor.Vp
