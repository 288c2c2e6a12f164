/-
  DrawReadResult.
-/
import Derived.Test.YtolpgafkojlkoaaDoorRsPure
import Derived.Test.YtolpgafkojlkoaaDoorRsBend
import Derived.Test.YtolpgafkojlkoaaDoorFrLaw
import Derived.Test.YtolpgafkojlkoaaDoorRrRead
namespace Go.Proofs.YtolpgafkojlkoaaDoor.Vp
open Go.RowKit

set_option maxRecDepth 100000 in
set_option maxHeartbeats 8000000 in
theorem drawRead_any (a : Option Addr) (n cap : Nat) (w : World) (hn : (n : Int) ≤ 1048576) (hc : n ≤ cap) (hS : ByteSl w a n) :
    Calls Tryd.prog 16 #[.slice a n cap] w fun e w' => ∃ t : ByteArray, e = .returned (.string t) ∧ (t.size : Int) ≤ 20000 ∧ Below w.heap.size w w' := by
  have HS := hide hS
  clear hS
  go_enter Tryd.func16, Tryd.ntmps16
  go_wp2_with fail
  refine (l1Open_any a n cap _ hn hc HS.out).mono ?_
  rintro e w1 ⟨R, rfl, hR, hR1, hB1⟩
  have R1 := hide hR1
  have B1 := hide hB1
  clear hR1 hB1
  go_wp2_with fail
  refine (drawForm_any a n cap _ hn hc (HS.out.below B1.out (Nat.le_refl _))).mono ?_
  rintro e w2 ⟨c, t, b, k, d, rfl, hB2⟩
  have R2 := hide (R1.out.below hB2 (Nat.le_refl _))
  have B2 := hide (B1.out.trans (hB2.mono B1.out.size))
  clear hB2 R1 B1
  go_wp2_with fail
  refine (specForm_any c t b k d _).mono ?_
  rintro e w3 ⟨rfl, hB3⟩
  have R3 := hide (R2.out.below hB3 (Nat.le_refl _))
  have B3 := hide (B2.out.trans (hB3.mono B2.out.size))
  have hs : ((formT c t k).size : Int) ≤ 2002 := by have := formT_size c t k; omega
  clear hB3 R2 B2
  generalize formT c t k = s at hs ⊢
  go_wp2_with fail
  refine (pick_any R 0 3 _ R3.out (by omega) (by omega) (by omega)).mono ?_
  rintro e w4 ⟨z, rfl, hz0, hz1, hR4, hO4⟩
  have R4 := hide hR4
  have B4 := hide (Below.only B3.out hO4 hR (Nat.le_refl _))
  clear hR4 hO4 R3 B3
  by_cases hz : z = 0
  · subst hz
    go_wp2_with fail
    refine (l1Bend_any R (0 + 1) s _ R4.out (by omega) (by omega)).mono ?_
    rintro e w5 ⟨T, rfl, hT, q, hq, hR5, hO5⟩
    have B5 := hide (Below.only B4.out hO5 hR (Nat.le_refl _))
    clear hR5 hO5 R4 B4
    go_wp2
    go_ret
    exact ⟨T, rfl, by omega, B5.out⟩
  have hz' : ¬ z = 0 := hz
  go_wp2_with fail
  refine (pick_any R (0 + 1) 6 _ R4.out (by omega) (by omega) (by omega)).mono ?_
  rintro e w5 ⟨y, rfl, hy0, hy1, hR5, hO5⟩
  have R5 := hide hR5
  have B5 := hide (Below.only B4.out hO5 hR (Nat.le_refl _))
  clear hR5 hO5 R4 B4
  by_cases hy : y = 0
  · subst hy
    go_wp2_with fail
    refine (pick_any R (0 + 1 + 1) 2 _ R5.out (by omega) (by omega) (by omega)).mono ?_
    rintro e w6 ⟨m, rfl, hm0, hm1, hR6, hO6⟩
    have B6 := hide (Below.only B5.out hO6 hR (Nat.le_refl _))
    clear hR6 hO6 R5 B5
    obtain ⟨m, rfl⟩ := Int.eq_ofNat_of_zero_le hm0
    go_wp2_with fail
    refine (l1Many_any ⟨#[102]⟩ (2000 + m) _ (by show 1 * (2000 + m) ≤ 4000; omega) (by omega)).mono ?_
    rintro e w7 ⟨T, rfl, hT, rfl⟩
    have hT2 : (T.size : Int) ≤ 4000 := by
      have : T.size ≤ 1 * (2000 + m) := hT
      omega
    clear hT
    have hT3 : ((⟨#[48, 58]⟩ : ByteArray) ++ T).size = 2 + T.size := by rw [ByteArray.size_append]; rfl
    have hT4 : (((⟨#[48, 58]⟩ : ByteArray) ++ T).size : Int) ≤ 20000 := by omega
    have H4 := hide hT4
    have hz2 : ((⟨#[48, 58]⟩ : ByteArray).size : Int) = 2 := rfl
    clear hT3 hT4
    go_wp2
    go_ret
    exact ⟨_, rfl, H4.out, B6.out⟩
  · have hy' : ¬ y = 0 := hy
    go_wp2
    go_ret
    exact ⟨s, rfl, by omega, B5.out⟩

end Go.Proofs.YtolpgafkojlkoaaDoor.Vp
