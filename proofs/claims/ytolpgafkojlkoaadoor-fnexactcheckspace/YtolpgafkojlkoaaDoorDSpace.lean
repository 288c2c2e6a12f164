/-
  Data: Space: two rows; its sz, to, eq functions.
-/
import Derived.Test.YtolpgafkojlkoaaDoorDSource
import Derived.Test.YtolpgafkojlkoaaDoorDTarget
namespace Go.Proofs.YtolpgafkojlkoaaDoor.Vp
open Go.RowKit

set_option maxHeartbeats 1000000 in
theorem szSpace_any (a0 : Option Addr) (n0 c0 : Nat) (f0 : Nat → Source) (a1 : Option Addr) (n1 c1 : Nat) (f1 : Nat → Target) (left : Int) (w : World) (h0 : 0 ≤ left) (h1 : left ≤ 1048576) (hn0 : (n0 : Int) ≤ 9223372036854775807) (hn1 : (n1 : Int) ≤ 9223372036854775807)
    (hv0 : SlSource w a0 n0 f0) (hs0 : ∀ i, i < n0 → (f0 i).name.size ≤ maxLen ∧ (f0 i).text.size ≤ maxLen) (hv1 : SlTarget w a1 n1 f1) (hs1 : ∀ i, i < n1 → SizedTarget (f1 i)) :
    Calls Tryd.prog 18 #[.agg #[.slice a0 n0 c0, .slice a1 n1 c1], .int .i64 left] w fun e w' => ∃ r : Int, e = .returned (.int .i64 r) ∧ -1 ≤ r ∧ r ≤ left ∧ (0 ≤ r → (n0 : Int) ≤ left ∧ (n1 : Int) ≤ left ∧ ∀ i, i < n1 → FitsTarget (f1 i)) ∧ Below w.heap.size w w' := by
  have HV0 := hide hv0
  have HV1 := hide hv1
  have HS0 := hide hs0
  have HS1 := hide hs1
  clear hv0 hv1 hs0 hs1
  have B0 := hide ((Below.refl w.heap.size w).alloc (Nat.le_refl _) (.cells #[.slice a0 n0 c0, .slice a1 n1 c1] 40))
  go_enter Tryd.func18, Tryd.ntmps18
  go_wp2_with fail
  refine (szSourceS_any a0 n0 c0 f0 left _ h0 h1 hn0 (HV0.below B0 (Nat.le_refl _)) HS0).mono ?_
  rintro e w1 ⟨r, rfl, hr1, hr2, hr3, hB⟩
  have c1' : w1.cell? ⟨w.heap.size, 1, none⟩ = some (.slice a1 n1 c1) := (hB.cell (p := ⟨w.heap.size, 1, none⟩) (by simp)).trans (by simp)
  have B1 := hide (B0.trans (hB.mono (by simp)))
  clear hB B0
  by_cases hr : r < 0
  · clear hr3
    go_wp2
    go_ret
    exact ⟨-1, rfl, by omega, by omega, fun _ => by omega, B1⟩
  have hq := hr3 (by omega)
  clear hr3
  go_wp2_with fail
  refine (szTargetS_any a1 n1 c1 f1 r _ (by omega) (by omega) hn1 (HV1.below B1 (Nat.le_refl _)) HS1).mono ?_
  rintro e w2 ⟨q, rfl, hq1, hq2, hq3, hB⟩
  have B2 := hide (B1.trans (hB.mono B1.size))
  have HQ := hide hq3
  clear hB hq3
  go_wp2
  all_goals go_ret
  · exact ⟨-1, rfl, by omega, by omega, fun _ => by omega, B2⟩
  · exact ⟨q, rfl, hq1, by omega, fun h => ⟨hq, by have := (HQ h).1; omega, (HQ h).2⟩, B2⟩

set_option maxHeartbeats 1000000 in
theorem toSpace_any (a0 : Option Addr) (n0 c0 : Nat) (f0 : Nat → Source) (a1 : Option Addr) (n1 c1 : Nat) (f1 : Nat → Target) (w : World) (hn0 : n0 ≤ 1048576) (hn1 : n1 ≤ 1048576) (hv0 : SlSource w a0 n0 f0) (hv1 : SlTarget w a1 n1 f1) (hm : ∀ i, i < n1 → FitsTarget (f1 i)) :
    Calls Tryd.prog 20 #[.agg #[.slice a0 n0 c0, .slice a1 n1 c1]] w fun e w' => ∃ g0 g1, e = .returned (.agg #[.slice (some ⟨g0, 0, none⟩) n0 n0, .slice (some ⟨g1, 0, none⟩) n1 n1]) ∧ RowSource w' g0 0 n0 f0 ∧ w.heap.size ≤ g0 ∧ OwnTarget w' g1 n1 n1 f1 ∧ g0 < g1 ∧ Below w.heap.size w w' := by
  have HV0 := hide hv0
  have HV1 := hide hv1
  have HM := hide hm
  clear hv0 hv1 hm
  have A0 := hide ((((Below.refl w.heap.size w).alloc (Nat.le_refl _) (.cells #[.slice a0 n0 c0, .slice a1 n1 c1] 40)).alloc (by simp) (.cells #[.slice none 0 0, .slice none 0 0] 46)).alloc (by first | (simp; omega) | simp) (.cells #[.slice none 0 0, .slice none 0 0] 46))
  go_enter Tryd.func20, Tryd.ntmps20
  go_wp2_with fail
  refine (toSourceS_any a0 n0 c0 f0 _ hn0 (HV0.below A0 (Nat.le_refl _))).mono ?_
  rintro e w1 ⟨g0, rfl, hR0, hg0, hB1⟩
  have R0 := hide hR0
  obtain ⟨hc1, hz1⟩ := bcell hB1
  have B1 := hide (A0.trans (hB1.mono A0.size))
  have hs1 : w.heap.size + 1 + 1 < w1.heap.size := by have := hB1.size; simp at this; omega
  have hu1 : w.heap.size + 1 < w1.heap.size := by omega
  have ht1 : w.heap.size < w1.heap.size := by omega
  have D1 := hide hB1
  clear hR0 hB1
  simp at hg0
  have hgl : g0 < w1.heap.size := R0.1
  go_wp2_with fail
  have A1 := hide (B1.setCell (p := ⟨w.heap.size + 1 + 1, 0, none⟩) (by first | (simp; omega) | simp) (.slice (some ⟨g0, 0, none⟩) n0 n0))
  refine (toTargetS_any a1 n1 c1 f1 _ hn1 (HV1.below A1 (Nat.le_refl _)) HM).mono ?_
  rintro e w2 ⟨g1, rfl, hR1, hg1, hB2⟩
  have R1 := hide hR1
  obtain ⟨hc2, hz2⟩ := bcell hB2
  have B2 := hide (A1.trans (hB2.mono A1.size))
  have hs2 : w.heap.size + 1 + 1 < w2.heap.size := by have := hB2.size; simp at this; omega
  have hu2 : w.heap.size + 1 < w2.heap.size := by omega
  have ht2 : w.heap.size < w2.heap.size := by omega
  have D2 := hide hB2
  clear hR1 hB2
  simp at hg1
  have q0 : w2.cell? ⟨w.heap.size + 1, 0, none⟩ = some (.slice none 0 0) := by
    rw [D2.cell (p := ⟨w.heap.size + 1, 0, none⟩) (by first | (simp; omega) | simp), cell_far _ _ _ _ (by simp)]
    rw [D1.cell (p := ⟨w.heap.size + 1, 0, none⟩) (by first | (simp; omega) | simp)]
    simp [go_sem]
  have q1 : w2.cell? ⟨w.heap.size + 1, 1, none⟩ = some (.slice none 0 0) := by
    rw [D2.cell (p := ⟨w.heap.size + 1, 1, none⟩) (by first | (simp; omega) | simp), cell_far _ _ _ _ (by simp)]
    rw [D1.cell (p := ⟨w.heap.size + 1, 1, none⟩) (by first | (simp; omega) | simp)]
    simp [go_sem]
  go_wp2
  refine bodyPost_ret (v := .agg #[.slice (some ⟨g0, 0, none⟩) n0 n0, .slice (some ⟨g1, 0, none⟩) n1 n1]) (by simp [results, Tryd.results20, go_sem, q0, q1]) rfl ⟨g0, g1, rfl, ?_, by omega, ?_, by omega, ?_⟩
  · exact ((((R0.setOther _ (by first | (simp; omega) | simp) _).below D2.out (Nat.le_refl _)).setOther _ (by first | (simp; omega) | simp) _).setOther _ (by first | (simp; omega) | simp) _).setOther _ (by first | (simp; omega) | simp) _
  · exact ((R1.setOther _ (by first | (simp; omega) | simp) _).setOther _ (by first | (simp; omega) | simp) _).setOther _ (by first | (simp; omega) | simp) _
  · exact ((B2.setCell (by first | (simp; omega) | simp) _).setCell (by first | (simp; omega) | simp) _).setCell (by first | (simp; omega) | simp) _

set_option maxHeartbeats 1000000 in
theorem eqSpace_any (a0 b0 : Option Addr) (c0 d0 n0 : Nat) (f0 : Nat → Source) (a1 b1 : Option Addr) (c1 d1 n1 : Nat) (f1 : Nat → Target) (w : World) (hn0 : n0 ≤ 1048576) (hn1 : n1 ≤ 1048576) (h0 : SlSource w a0 n0 f0) (h0' : SlSource w b0 n0 f0) (h1 : SlTarget w a1 n1 f1) (h1' : SlTarget w b1 n1 f1) (hm : ∀ i, i < n1 → FitsTarget (f1 i)) :
    Calls Tryd.prog 22 #[.agg #[.slice a0 n0 c0, .slice a1 n1 c1], .agg #[.slice b0 n0 d0, .slice b1 n1 d1]] w fun e w' => e = .returned (.bool true) ∧ Below w.heap.size w w' := by
  have H0 := hide h0
  have H0' := hide h0'
  have H1 := hide h1
  have H1' := hide h1'
  have HM := hide hm
  clear h0 h0' h1 h1' hm
  have A0 := hide (((Below.refl w.heap.size w).alloc (Nat.le_refl _) (.cells #[.slice a0 n0 c0, .slice a1 n1 c1] 46)).alloc (by simp) (.cells #[.slice b0 n0 d0, .slice b1 n1 d1] 46))
  go_enter Tryd.func22, Tryd.ntmps22
  go_wp2_with fail
  refine (eqSourceS_any a0 b0 c0 d0 n0 f0 _ hn0 (H0.below A0 (Nat.le_refl _)) (H0'.below A0 (Nat.le_refl _))).mono ?_
  rintro e w1 ⟨rfl, hB1⟩
  have k0 : w1.cell? ⟨w.heap.size, 1, none⟩ = some (.slice a1 n1 c1) := (hB1.cell (p := ⟨w.heap.size, 1, none⟩) (by first | (simp; done) | (simp; omega))).trans (by simp)
  have k1 : w1.cell? ⟨w.heap.size + 1, 1, none⟩ = some (.slice b1 n1 d1) := (hB1.cell (p := ⟨w.heap.size + 1, 1, none⟩) (by simp)).trans (by simp)
  have B1 := hide (A0.trans (hB1.mono (by simp; omega)))
  clear hB1 A0
  go_wp2_with fail
  refine (eqTargetS_any a1 b1 c1 d1 n1 f1 _ hn1 (H1.below B1 (Nat.le_refl _)) (H1'.below B1 (Nat.le_refl _)) HM).mono ?_
  rintro e w2 ⟨rfl, hB2⟩
  have B2 := hide (B1.trans (hB2.mono B1.size))
  clear hB2
  go_wp2
  go_ret
  exact ⟨rfl, B2⟩

end Go.Proofs.YtolpgafkojlkoaaDoor.Vp
