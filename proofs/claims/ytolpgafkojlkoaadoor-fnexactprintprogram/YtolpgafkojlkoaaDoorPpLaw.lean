/-
  The law on PrintProgram, out of the contracts.
-/
import Derived.Test.YtolpgafkojlkoaaDoorDProgram
import Derived.Test.YtolpgafkojlkoaaDoorPpSpec
import Derived.Test.YtolpgafkojlkoaaDoorPpImpl
namespace Go.Proofs.YtolpgafkojlkoaaDoor.Vp
open Go.RowKit

set_option maxHeartbeats 1000000 in
theorem print_law (a : Option Addr) (n cap : Nat) (f : Nat → Ins) (w : World) (hn : (n : Int) ≤ 9223372036854775807) (hv : SlIns w a n f) (hs : ∀ i, i < n → (f i).s.size ≤ maxLen) (hT : Tab w) (hW : TabW w) (hP : Pow w) :
    Calls Tryd.prog 7 #[.agg #[.slice a n cap]] w fun e w' => e = .returned (.bool true) ∧ Below w.heap.size w w' := by
  have HV := hide hv
  have HS := hide hs
  have HT := hide hT
  have HW := hide hW
  have HP := hide hP
  have hT0 := hT.1
  clear hv hs hT hW hP
  go_enter Tryd.func7, Tryd.ntmps7
  go_wp2_with fail
  have B0 := hide ((Below.refl _ _).alloc (Nat.le_refl w.heap.size) (.cells #[.slice a n cap] 52))
  refine (szProgram_any a n cap f 1048576 _ (by omega) (by omega) hn (HV.out.below B0.out (Nat.le_refl _)) HS.out).mono ?_
  rintro e w1 ⟨r, rfl, hr1, hr2, hr3, hB⟩
  have B1 : Hid (Below (w.heap.size + 1) (w.alloc (.cells #[.slice a n cap] 52)) w1) := hB.mono (by simp)
  clear hB
  by_cases hr : r < 0
  · clear hr3
    go_wp2
    go_ret
    exact ⟨rfl, B0.out.trans (B1.out.mono (by omega))⟩
  have hn' : n ≤ 1048576 := by have := hr3 (by omega); omega
  clear hr3
  have c1 : w1.cell? ⟨w.heap.size, 0, none⟩ = some (.slice a n cap) := by
    rw [B1.out.cell (p := ⟨w.heap.size, 0, none⟩) (by simp)]; simp
  have B1w : Hid (Below w.heap.size w w1) := B0.out.trans (B1.out.mono (by omega))
  go_wp2_with fail
  refine (toProgram_any a n cap f _ hn' (HV.out.below B1w.out (Nat.le_refl _))).mono ?_
  rintro e w2 ⟨g, rfl, hS2, hg, hB⟩
  have B2 : Hid (Below w1.heap.size w1 w2) := hB
  have S2 := hide hS2
  clear hB hS2
  go_wp2_with fail
  refine (specPrint_row g 0 n n f _ hn' S2.out.1 S2.out.2 HS.out).mono ?_
  rintro e w3 ⟨rfl, hB⟩
  have B3 : Hid (Below w1.heap.size w1 w3) := B2.out.trans (hB.mono B2.out.size)
  clear hB S2
  have c3 : w3.cell? ⟨w.heap.size, 0, none⟩ = some (.slice a n cap) := by
    rw [B3.out.cell (p := ⟨w.heap.size, 0, none⟩) (by have := B1.out.size; simp at this; simp; omega), c1]
  clear c1
  go_wp2_with fail
  have B3w : Hid (Below w.heap.size w w3) := B1w.out.trans (B3.out.mono B1w.out.size)
  have hsz3 : w.heap.size + 1 ≤ w3.heap.size := by have := B1.out.size; have := B3.out.size; simp at *; omega
  refine (toProgram_any a n cap f _ hn' (HV.out.below B3w.out (Nat.le_refl _))).mono ?_
  rintro e w4 ⟨g2, rfl, hS4, hg4, hB⟩
  have B4 : Hid (Below w3.heap.size w3 w4) := hB
  have S4 := hide hS4
  clear hB hS4
  have hsz4 : w3.heap.size ≤ w4.heap.size := B4.out.size
  go_wp2_with fail
  have A4 : Hid (Below w4.heap.size w4 (w4.alloc (.cells #[.slice (some ⟨g2, 0, none⟩) n n] 57))) := (Below.refl _ _).alloc (Nat.le_refl _) _
  have B4w : Hid (Below w.heap.size w (w4.alloc (.cells #[.slice (some ⟨g2, 0, none⟩) n n] 57))) := (B3w.out.trans (B4.out.mono (by omega))).trans (A4.out.mono (by omega))
  have S5 := hide (S4.out.below A4.out (Nat.le_refl _))
  refine (implPrint_row g2 0 n n f _ hn' S5.out.1 S5.out.2 (HT.out.below B4w.out hT0) (HW.out.below B4w.out hT0) (HP.out.below B4w.out (Nat.le_refl _))).mono ?_
  rintro e w5 ⟨rfl, hB⟩
  have B5 := hide hB
  have S6 := hide (S5.out.below hB (Nat.le_refl _))
  have c5 : w5.cell? ⟨w.heap.size, 0, none⟩ = some (.slice a n cap) := by
    rw [hB.cell (p := ⟨w.heap.size, 0, none⟩) (by simp; omega), A4.out.cell (p := ⟨w.heap.size, 0, none⟩) (by simp; omega), B4.out.cell (p := ⟨w.heap.size, 0, none⟩) (by simp; omega), c3]
  have d5 : w5.cell? ⟨w4.heap.size, 0, none⟩ = some (.slice (some ⟨g2, 0, none⟩) n n) := by
    rw [hB.cell (p := ⟨w4.heap.size, 0, none⟩) (by simp)]; simp
  have hsz5 : w4.heap.size + 1 ≤ w5.heap.size := by have := hB.size; simpa using this
  have B5w : Hid (Below w.heap.size w w5) := B4w.out.trans (hB.mono B4w.out.size)
  have HV5 := hide (HV.out.below B5w.out (Nat.le_refl _))
  clear hB S4 S5 c3 B4w B5 A4 B4 B3 B3w B2 B1 B1w B0 HT HV HS HW HP hsz3 hsz4 hg hg4
  go_wp2_with fail
  go_region_with (first | (go_at_call 25; refine (toProgram_any a n cap f _ hn' ?_).mono ?_; exact HV5.out; rintro e w6 ⟨g6, rfl, hS7, hg7, hB7⟩; have H7 := hide hS7; have B7 : Hid (Below w5.heap.size w5 w6) := ⟨hB7.os, hB7.tape, hB7.output, hB7.size, hB7.block⟩; have S7 := hide (S6.out.below B7.out (Nat.le_refl _)); have d7 : w6.cell? ⟨w4.heap.size, 0, none⟩ = some (.slice (some ⟨g2, 0, none⟩) n n) := (B7.out.cell (p := ⟨w4.heap.size, 0, none⟩) (by simp; omega)).trans d5; clear hS7 hg7 hB7) | (go_at_call 27; refine (eqProgram_any (some ⟨g2, 0, none⟩) (some ⟨g6, 0, none⟩) n n n f _ hn' S7.out.sl H7.out.sl).mono ?_; rintro e w8 ⟨rfl, hB8⟩))
  all_goals
    go_wp2
    go_ret
    exact ⟨rfl, (B5w.out.trans (B7.out.mono B5w.out.size)).trans (hB8.mono (Nat.le_trans B5w.out.size B7.out.size))⟩

end Go.Proofs.YtolpgafkojlkoaaDoor.Vp
