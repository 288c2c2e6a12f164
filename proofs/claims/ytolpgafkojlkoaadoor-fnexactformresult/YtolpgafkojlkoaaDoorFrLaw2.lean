/-
  FnExactFormResult: the law.
-/
import Derived.Test.YtolpgafkojlkoaaDoorFrLaw
import Derived.Test.YtolpgafkojlkoaaDoorDResult
namespace Go.Proofs.YtolpgafkojlkoaaDoor.Fr
open Go.RowKit Vp

set_option maxHeartbeats 4000000 in
theorem law_any (x : Vp.Result) (a : Option Addr) (cap : Nat) (w : World) (hz : SizedResult x) (hv : SlStr w a x.chainN x.chain) (hP : Pow w) :
    Calls Tryd.prog 3 #[.agg #[.int .i64 x.code, .string x.text, .slice a x.chainN cap]] w fun e w' => e = .returned (.bool true) ∧ Below w.heap.size w w' := by
  have HV := hide hv
  have HZ := hide hz
  have HP := hide hP
  clear hv hz hP
  obtain ⟨F, hF⟩ : ∃ F, F = formT x.code x.text x.chainN := ⟨_, rfl⟩
  have HF := hide hF
  clear hF
  have B0 := hide ((Below.refl w.heap.size w).alloc (Nat.le_refl w.heap.size) (.cells #[.int .i64 x.code, .string x.text, .slice a x.chainN cap] 24))
  go_enter Tryd.func3, Tryd.ntmps3
  go_wp2_with fail
  refine (szResult_any x a cap 1048576 _ HZ.out (HV.out.below B0.out (Nat.le_refl _)) (by omega) (by omega)).mono ?_
  rintro e w1 ⟨r, rfl, hr1, hr2, hr3, hB⟩
  have c0 : w1.cell? ⟨w.heap.size, 0, none⟩ = some (.int .i64 x.code) := (hB.cell (p := ⟨w.heap.size, 0, none⟩) (by simp)).trans (by simp)
  have c1 : w1.cell? ⟨w.heap.size, 1, none⟩ = some (.string x.text) := (hB.cell (p := ⟨w.heap.size, 1, none⟩) (by simp)).trans (by simp)
  have c2 : w1.cell? ⟨w.heap.size, 2, none⟩ = some (.slice a x.chainN cap) := (hB.cell (p := ⟨w.heap.size, 2, none⟩) (by simp)).trans (by simp)
  have z1 : w.heap.size < w1.heap.size := by have := hB.size; simp at this; omega
  have B1 := hide (B0.out.trans (hB.mono (by simp)))
  clear hB B0
  by_cases hr : r < 0
  · clear hr3
    go_wp2
    go_ret
    exact ⟨rfl, B1.out⟩
  have HFit := hide (hr3 (by omega))
  clear hr3
  go_wp2_with fail
  refine (toResult_any x a cap _ HFit.out (HV.out.below B1.out (Nat.le_refl _))).mono ?_
  rintro e w2 ⟨g, rfl, hS2, hg, hB⟩
  have k2 : ∀ o, w2.cell? ⟨w.heap.size, o, none⟩ = w1.cell? ⟨w.heap.size, o, none⟩ := fun o => hB.cell (p := ⟨w.heap.size, o, none⟩) z1
  rw [← k2] at c0 c1 c2
  have z2 : w1.heap.size ≤ w2.heap.size := hB.size
  have B2 := hide (B1.out.trans (hB.mono B1.out.size))
  clear hB hS2 hg k2
  go_wp2_with fail
  refine (specForm_any x.code x.text (some ⟨g, 0, none⟩) x.chainN x.chainN _).mono ?_
  rintro e w3 ⟨rfl, hB⟩
  rw [← HF.out]
  have k3 : ∀ o, w3.cell? ⟨w.heap.size, o, none⟩ = w2.cell? ⟨w.heap.size, o, none⟩ := fun o => hB.cell (p := ⟨w.heap.size, o, none⟩) (by simp; omega)
  rw [← k3] at c0 c1 c2
  have z3 : w2.heap.size ≤ w3.heap.size := hB.size
  have B3 := hide (B2.out.trans (hB.mono B2.out.size))
  clear hB k3
  go_wp2_with fail
  refine (toResult_any x a cap _ HFit.out (HV.out.below B3.out (Nat.le_refl _))).mono ?_
  rintro e w4 ⟨g2, rfl, hS4, hg, hB⟩
  have S4 := hide hS4
  have k4 : ∀ o, w4.cell? ⟨w.heap.size, o, none⟩ = w3.cell? ⟨w.heap.size, o, none⟩ := fun o => hB.cell (p := ⟨w.heap.size, o, none⟩) (by simp; omega)
  rw [← k4] at c0 c1 c2
  have z4 : w3.heap.size ≤ w4.heap.size := hB.size
  have B4 := hide (B3.out.trans (hB.mono B3.out.size))
  clear hB k4 hS4 hg
  have A4 := hide ((Below.refl w4.heap.size w4).alloc (Nat.le_refl _) (.cells #[.int .i64 x.code, .string x.text, .slice (some ⟨g2, 0, none⟩) x.chainN x.chainN] 27))
  have B4' := hide (B4.out.trans (A4.out.mono B4.out.size))
  go_wp2_with fail
  refine (implForm_any x.code x.text (some ⟨g2, 0, none⟩) x.chainN x.chainN _ (HP.out.below B4'.out (Nat.le_refl _))).mono ?_
  rintro e w5 ⟨rfl, hB⟩
  rw [← HF.out]
  have k5 := hide (A4.out.trans (hB.mono (by simp)))
  have h5 : ∀ o, w5.cell? ⟨w.heap.size, o, none⟩ = w4.cell? ⟨w.heap.size, o, none⟩ := fun o => k5.out.cell (p := ⟨w.heap.size, o, none⟩) (by simp; omega)
  rw [← h5] at c0 c1 c2
  have d0 : w5.cell? ⟨w4.heap.size, 0, none⟩ = some (.int .i64 x.code) := (hB.cell (p := ⟨w4.heap.size, 0, none⟩) (by simp)).trans (by simp)
  have d1 : w5.cell? ⟨w4.heap.size, 1, none⟩ = some (.string x.text) := (hB.cell (p := ⟨w4.heap.size, 1, none⟩) (by simp)).trans (by simp)
  have d2 : w5.cell? ⟨w4.heap.size, 2, none⟩ = some (.slice (some ⟨g2, 0, none⟩) x.chainN x.chainN) := (hB.cell (p := ⟨w4.heap.size, 2, none⟩) (by simp)).trans (by simp)
  have S5 := hide (S4.out.below k5.out (Nat.le_refl _))
  have B5 := hide (B4'.out.trans (hB.mono B4'.out.size))
  have HV5 := hide (HV.out.below B5.out (Nat.le_refl _))
  have z5 : w4.heap.size < w5.heap.size := by have := hB.size; simp at this; omega
  clear hB h5 k5 A4 B4 B4' B3 B2 B1 S4 HP HV HZ
  go_wp2_with fail
  go_region_with (first | (go_at_call 10; refine (toResult_any x a cap _ HFit.out ?_).mono ?_; exact HV5.out; rintro e w6 ⟨g6, rfl, hS7, hg7, hB7⟩; have H7 := hide hS7; have B7 : Hid (Below w5.heap.size w5 w6) := ⟨hB7.os, hB7.tape, hB7.output, hB7.size, hB7.block⟩; have S7 := hide (S5.out.below B7.out (Nat.le_refl _)); have d70 : w6.cell? ⟨w4.heap.size, 0, none⟩ = some (.int .i64 x.code) := (B7.out.cell (p := ⟨w4.heap.size, 0, none⟩) (by simp; omega)).trans d0; have d71 : w6.cell? ⟨w4.heap.size, 1, none⟩ = some (.string x.text) := (B7.out.cell (p := ⟨w4.heap.size, 1, none⟩) (by simp; omega)).trans d1; have d72 : w6.cell? ⟨w4.heap.size, 2, none⟩ = some (.slice (some ⟨g2, 0, none⟩) x.chainN x.chainN) := (B7.out.cell (p := ⟨w4.heap.size, 2, none⟩) (by simp; omega)).trans d2; clear hS7 hg7 hB7) | (go_at_call 12; refine (eqResult_any x (some ⟨g2, 0, none⟩) x.chainN (some ⟨g6, 0, none⟩) x.chainN _ HFit.out S7.out.sl H7.out.sl).mono ?_; rintro e w8 ⟨rfl, hB8⟩))
  all_goals
    go_wp2
    go_ret
    exact ⟨rfl, (B5.out.trans (B7.out.mono B5.out.size)).trans (hB8.mono (Nat.le_trans B5.out.size B7.out.size))⟩

end Go.Proofs.YtolpgafkojlkoaaDoor.Fr
