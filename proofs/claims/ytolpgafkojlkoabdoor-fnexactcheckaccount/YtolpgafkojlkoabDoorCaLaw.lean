/-
  FnExactCheckAccount: the law.
-/
import Derived.Test.YtolpgafkojlkoabDoorDAccount
import Derived.Test.YtolpgafkojlkoabDoorCaSpec6
namespace Go.Proofs.YtolpgafkojlkoabDoor.Vp
open Go.RowKit

set_option maxRecDepth 100000 in
set_option maxHeartbeats 4000000 in
theorem law_acc (a : Option Addr) (n cap : Nat) (f : Nat → Deed) (w : World) (hn : (n : Int) ≤ 9223372036854775807) (hv : SlDeed w a n f) (hs : ∀ i, i < n → SizedDeed (f i)) (hT : Tab w) :
    Calls Tryd.prog 3 #[.agg #[.slice a n cap]] w fun e w' => e = .returned (.bool true) ∧ Below w.heap.size w w' := by
  have HV := hide hv
  have HS := hide hs
  have HT := hide hT
  clear hv hs hT
  obtain ⟨C1, C2, hC⟩ : ∃ C1 C2, accC f n = (C1, C2) := ⟨_, _, rfl⟩
  have HC := hide hC
  clear hC
  have B0 := hide ((Below.refl w.heap.size w).alloc (Nat.le_refl w.heap.size) (.cells #[.slice a n cap] 24))
  go_enter Tryd.func3, Tryd.ntmps3
  go_wp2_with fail
  refine (szAccount_any a n cap f 1048576 _ (by omega) (by omega) hn (HV.out.below B0.out (Nat.le_refl _)) HS.out).mono ?_
  rintro e w1 ⟨r, rfl, hr1, hr2, hr3, hB⟩
  have c10 : w1.cell? ⟨w.heap.size, 0, none⟩ = some (.slice a n cap) := (hB.cell (p := ⟨w.heap.size, 0, none⟩) (by simp)).trans (by simp)
  have z1 : w.heap.size < w1.heap.size := by have := hB.size; simp at this; omega
  have B1 := hide (B0.out.trans (hB.mono (by simp)))
  clear hB B0
  by_cases hr : r < 0
  · clear hr3
    go_wp2
    go_ret
    exact ⟨rfl, B1.out⟩
  obtain ⟨hm0, hF⟩ := hr3 (by omega)
  have HF := hide hF
  have hp : n ≤ 1048576 := by omega
  clear hr3 hF hm0
  go_wp2_with fail
  refine (toAccount_any a n cap f _ hp (HV.out.below B1.out (Nat.le_refl _)) HF.out).mono ?_
  rintro e w2 ⟨g, rfl, hS, hg, hB⟩
  have c20 := (hB.cell (p := ⟨w.heap.size, 0, none⟩) z1).trans c10
  have z2 : w.heap.size < w2.heap.size := Nat.lt_of_lt_of_le z1 hB.size
  have B2 := hide (B1.out.trans (hB.mono B1.out.size))
  have S0 := hide hS.row.sl
  clear hB hS hg c10
  go_wp2_with fail
  refine (specAcc_any (some ⟨g, 0, none⟩) n n f _ (by omega) S0.out HF.out HS.out).mono ?_
  rintro e w3 ⟨rfl, hB⟩
  rw [HC.out]
  have c30 := (hB.cell (p := ⟨w.heap.size, 0, none⟩) z2).trans c20
  have z3 : w.heap.size < w3.heap.size := Nat.lt_of_lt_of_le z2 hB.size
  have B3 := hide (B2.out.trans (hB.mono B2.out.size))
  clear hB S0 c20
  go_wp2_with fail
  refine (toAccount_any a n cap f _ hp (HV.out.below B3.out (Nat.le_refl _)) HF.out).mono ?_
  rintro e w4 ⟨h0, rfl, hS, hg, hB⟩
  have A4 := hide ((Below.refl w4.heap.size w4).alloc (Nat.le_refl _) (.cells #[.slice (some ⟨h0, 0, none⟩) n n] 30))
  have D4 := hide (hB.trans (A4.out.mono hB.size))
  have c40 := (D4.out.cell (p := ⟨w.heap.size, 0, none⟩) z3).trans c30
  have B4 := hide (B3.out.trans (D4.out.mono B3.out.size))
  have S0 := hide (hS.row.below A4.out (Nat.le_refl _)).sl
  have x0 : (w4.alloc (.cells #[.slice (some ⟨h0, 0, none⟩) n n] 30)).cell? ⟨w4.heap.size, 0, none⟩ = some (.slice (some ⟨h0, 0, none⟩) n n) := by simp
  have zx : w4.heap.size < (w4.alloc (.cells #[.slice (some ⟨h0, 0, none⟩) n n] 30)).heap.size := by simp
  have z4 : w.heap.size < (w4.alloc (.cells #[.slice (some ⟨h0, 0, none⟩) n n] 30)).heap.size := Nat.lt_of_lt_of_le z3 D4.out.size
  clear hB hS hg A4 c30
  go_wp2_with fail
  generalize w4.alloc (.cells #[.slice (some ⟨h0, 0, none⟩) n n] 30) = w5 at D4 c40 B4 S0 x0 zx z4 ⊢
  generalize w4.heap.size = x4 at x0 zx ⊢
  clear D4
  refine (implAcc_any (some ⟨h0, 0, none⟩) n n f _ (by omega) S0.out (by omega) HF.out (HT.out.below B4.out HT.out.1)).mono ?_
  rintro e w6 ⟨rfl, hB⟩
  rw [HC.out]
  have c60 := (hB.cell (p := ⟨w.heap.size, 0, none⟩) z4).trans c40
  have x60 := (hB.cell (p := ⟨x4, 0, none⟩) zx).trans x0
  have B6 := hide (B4.out.trans (hB.mono B4.out.size))
  have S60 := hide (S0.out.below hB (Nat.le_refl _))
  have zx6 : x4 < w6.heap.size := Nat.lt_of_lt_of_le zx hB.size
  clear hB c40 x0 S0
  go_wp2_with fail
  go_region_with (first
    | (go_at_call 6; refine (toAccount_any a n cap f _ hp ?_ HF.out).mono ?_; (first | exact HV.out.below B6.out (Nat.le_refl _) | exact HV.out.below B6.out.drew (Nat.le_refl _)); rintro e w7 ⟨i0, rfl, hS, hg, hB7⟩; have T0 := hide hS.row.sl; have B7 : Hid (Below w6.heap.size w6 w7) := ⟨hB7.os, hB7.tape, hB7.output, hB7.size, hB7.block⟩; have x70 := (B7.out.cell (p := ⟨x4, 0, none⟩) zx6).trans x60; have U0 := hide (S60.out.below B7.out (Nat.le_refl _)); clear hS hg hB7)
    | (go_at_call 8; refine (eqAccount_any (some ⟨h0, 0, none⟩) (some ⟨i0, 0, none⟩) n n n f _ hp U0.out T0.out HF.out).mono ?_; rintro e w8 ⟨rfl, hB8⟩))
  all_goals
    go_wp2
    go_ret
    exact ⟨rfl, (B6.out.trans (B7.out.mono B6.out.size)).trans (hB8.mono (Nat.le_trans B6.out.size B7.out.size))⟩

end Go.Proofs.YtolpgafkojlkoabDoor.Vp
