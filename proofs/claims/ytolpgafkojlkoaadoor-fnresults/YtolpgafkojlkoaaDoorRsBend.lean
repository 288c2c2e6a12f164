/-
  The draws: l1Bend.
-/
import Derived.Test.YtolpgafkojlkoaaDoorRsText
import Derived.Test.YtolpgafkojlkoaaDoorDDec
namespace Go.Proofs.YtolpgafkojlkoaaDoor.Vp
open Go.RowKit

theorem ten_at (W : World) (y : Nat) (hy : y < 10) : ∃ T : ByteArray, T.size ≤ 3 ∧ (W.alloc (.cells #[.string ⟨#[32]⟩, .string ⟨#[10]⟩, .string ⟨#[34]⟩, .string ⟨#[92]⟩, .string ⟨#[48]⟩, .string ⟨#[120]⟩, .string ⟨#[92, 52]⟩, .string ⟨#[101, 110, 100]⟩, .string ⟨#[92, 122, 122]⟩, .string ⟨#[92, 70, 70]⟩] 9)).cell? ⟨W.heap.size, y, none⟩ = some (.string T) := by
  rcases (show y = 0 ∨ y = 1 ∨ y = 2 ∨ y = 3 ∨ y = 4 ∨ y = 5 ∨ y = 6 ∨ y = 7 ∨ y = 8 ∨ y = 9 by omega) with rfl | rfl | rfl | rfl | rfl | rfl | rfl | rfl | rfl | rfl
  all_goals refine ⟨_, ?_, by simp; rfl⟩; decide
theorem size_one (C : UInt8) : (⟨#[C]⟩ : ByteArray).size = 1 := rfl
theorem wrap_byte (C : UInt8) : IntKind.u8.wrap (C.toNat : Int) = C.toNat := by
  have := C.toNat_lt
  rw [IntKind.wrap_u8]
  omega
theorem byte_of {c : Int} (h0 : 0 ≤ c) (h1 : c < 256) : ∃ C : UInt8, c = (C.toNat : Int) := by
  obtain ⟨k, rfl⟩ := Int.eq_ofNat_of_zero_le h0
  refine ⟨UInt8.ofNat k, ?_⟩
  rw [UInt8.toNat_ofNat']
  omega

set_option maxRecDepth 100000 in
set_option maxHeartbeats 8000000 in
theorem l1Bend_any (R p : Nat) (s : ByteArray) (w : World) (hR : Rd w R p) (hp : (p : Int) ≤ 50000) (hs : (s.size : Int) ≤ 400000) :
    Calls Tryd.prog 40 #[.pointer (some ⟨R, 0, none⟩), .string s] w fun e w' => ∃ t : ByteArray, e = .returned (.string t) ∧ (t.size : Int) ≤ 2 * s.size + 20 ∧ ∃ q : Nat, q ≤ p + 8 ∧ Rd w' R q ∧ Only R w w' := by
  have HR := hide hR
  clear hR
  go_enter Tryd.func40, Tryd.ntmps40
  go_wp2_with fail
  refine (pick_any R p ((s.size : Int) + 1) _ HR (by omega) (by omega) (by omega)).mono ?_
  rintro e w1 ⟨i, rfl, hi0, hi1, hR1, hO1⟩
  have R1 := hide hR1
  have O1 := hide hO1
  clear hR1 hO1
  obtain ⟨i, rfl⟩ := Int.eq_ofNat_of_zero_le hi0
  have hA : (s.extract 0 i).size = i := by simp; omega
  have hB : (s.extract i s.size).size = s.size - i := by simp
  go_wp2_with fail
  refine (pick_any R (p + 1) 5 _ R1 (by omega) (by omega) (by omega)).mono ?_
  rintro e w2 ⟨z, rfl, hz0, hz1, hR2, hO2⟩
  have R2 := hide hR2
  have O2 := hide (O1.trans hO2)
  clear hR2 hO2
  have hl := R2.lt
  rcases (show z = 0 ∨ z = 1 ∨ z = 2 ∨ z = 3 ∨ z = 4 by omega) with rfl | rfl | rfl | rfl | rfl
  · go_wp2
    go_ret
    exact ⟨_, rfl, by omega, p + 1 + 1, by omega, R2, O2⟩
  · go_wp2_with fail
    go_region_with (go_at_call 36; refine (pick_any R (p + 1 + 1) 10 _ ?_ (by omega) (by omega) (by omega)).mono ?_; exact R2.below (B := w2.heap.size) (by repeat (first | exact Below.refl _ _ | (refine Below.drew ?_) | (refine Below.alloc ?_ (by simp) _))) (Nat.le_refl _); rintro e w3 ⟨y, rfl, hy0, hy1, hR3, hO3⟩; obtain ⟨y, rfl⟩ := Int.eq_ofNat_of_zero_le hy0; have R3 := hide hR3; have O3 : Hid (Only R w2 w3) := (Only.of_below (w := w2) (by repeat (first | exact Below.refl _ _ | (refine Below.drew ?_) | (refine Below.alloc ?_ (by simp) _)))).trans hO3; (first | (obtain ⟨T, hT, hc⟩ := ten_at w2.drew y (by omega); replace hc := (hO3.cell w2.heap.size y (by simp) (by omega)).trans hc) | obtain ⟨T, hT, hc⟩ := ten_at w3 y (by omega)); clear hR3 hO3)
    all_goals
      go_wp2
      go_ret
      first
        | exact ⟨_, rfl, by simp; omega, p + 1 + 1 + 1, by omega, R3, O2.trans O3⟩
        | exact ⟨_, rfl, by simp; omega, p + 1 + 1 + 1, by omega, R3.below (B := w3.heap.size) (by repeat (first | exact Below.refl _ _ | (refine Below.drew ?_) | (refine Below.alloc ?_ (by simp) _))) (Nat.le_refl _), (O2.trans O3).trans (Only.of_below (w := w3) (by repeat (first | exact Below.refl _ _ | (refine Below.drew ?_) | (refine Below.alloc ?_ (by simp) _))))⟩
  · by_cases hlt : (i : Int) < s.size
    · have hC : (s.extract (i + 1) s.size).size = s.size - (i + 1) := by simp
      go_wp2_with fail
      go_quiet (fail)
      have B3 := hide (below_drewN (Below.refl w2.heap.size w2) nq)
      generalize w2.drewN nq = W at B3 ⊢
      go_wp2
      go_ret
      exact ⟨_, rfl, by simp; omega, p + 1 + 1, by omega, R2.below B3 (Nat.le_refl _), O2.trans (Only.of_below B3)⟩
    · go_wp2
      go_ret
      exact ⟨_, rfl, by simp; omega, p + 1 + 1, by omega, R2, O2⟩
  · by_cases hlt : (i : Int) < s.size
    · have hC : (s.extract (i + 1) s.size).size = s.size - (i + 1) := by simp
      have hltN : i < s.size := by omega
      have hw1 : IntKind.i64.wrap ((i : Int) + 1) = (i : Int) + 1 := by rw [IntKind.wrap_i64]; omega
      go_wp2_with fail
      go_region_with (go_at_call 36; refine (pick_any R (p + 1 + 1) 256 _ ?_ (by omega) (by omega) (by omega)).mono ?_; exact R2.below (B := w2.heap.size) (by repeat (first | exact Below.refl _ _ | (refine Below.drew ?_) | (refine Below.alloc ?_ (by simp) _))) (Nat.le_refl _); rintro e w3 ⟨c, rfl, hc0, hc1, hR3, hO3⟩; obtain ⟨C, rfl⟩ := byte_of hc0 hc1; have hcv := conv_one (C.toNat : Int) C rfl; have hwr := wrap_byte C; have R3 := hide hR3; have O3 : Hid (Only R w2 w3) := (Only.of_below (w := w2) (by repeat (first | exact Below.refl _ _ | (refine Below.drew ?_) | (refine Below.alloc ?_ (by simp) _)))).trans hO3; clear hR3 hO3)
      all_goals
        go_wp2
        go_ret
        first
          | exact ⟨_, rfl, by simp [size_one]; omega, p + 1 + 1 + 1, by omega, R3, O2.trans O3⟩
          | exact ⟨_, rfl, by simp [size_one]; omega, p + 1 + 1 + 1, by omega, R3.below (B := w3.heap.size) (by repeat (first | exact Below.refl _ _ | (refine Below.drew ?_) | (refine Below.alloc ?_ (by simp) _))) (Nat.le_refl _), (O2.trans O3).trans (Only.of_below (w := w3) (by repeat (first | exact Below.refl _ _ | (refine Below.drew ?_) | (refine Below.alloc ?_ (by simp) _))))⟩
    · go_wp2
      go_ret
      exact ⟨_, rfl, by simp; omega, p + 1 + 1, by omega, R2, O2⟩
  · go_wp2
    go_ret
    exact ⟨_, rfl, by simp; omega, p + 1 + 1, by omega, R2, O2⟩

end Go.Proofs.YtolpgafkojlkoaaDoor.Vp
