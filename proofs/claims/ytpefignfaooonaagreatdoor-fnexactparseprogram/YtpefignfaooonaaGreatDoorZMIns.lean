/-
  Marks of Ins. Written by tools/mark2.py.
-/
import Derived.Test.YtpefignfaooonaaGreatDoorZA
import Derived.Test.YtpefignfaooonaaGreatDoorZDMark2
namespace Go.Proofs.YtpefignfaooonaaGreatDoor.Vp
open Go.RowKit

/-- What cell j of a marked row holds. -/
def markIns (k0 : Nat) (j : Nat) : Value := if j % 3 = 0 then .int .i64 ((k0 : Int) + j) else if j % 3 = 1 then .string (mkT ((k0 : Int) + j)) else .int .i64 ((k0 : Int) + j)
theorem markIns_0 {k0 k q : Nat} (h : q = k0 + k * 3) : markIns k0 (k * 3) = .int .i64 ((q : Int)) := by
  have e : (k0 : Int) + ((k * 3 : Nat) : Int) = (q : Int) := by omega
  unfold markIns
  rw [if_pos (by omega), e]
theorem markIns_1 {k0 k q : Nat} (h : q = k0 + k * 3) : markIns k0 (k * 3 + 1) = .string (mkT ((q : Int) + 1)) := by
  have e : (k0 : Int) + ((k * 3 + 1 : Nat) : Int) = (q : Int) + 1 := by omega
  unfold markIns
  rw [if_neg (by omega), if_pos (by omega), e]
theorem markIns_2 {k0 k q : Nat} (h : q = k0 + k * 3) : markIns k0 (k * 3 + 2) = .int .i64 ((q : Int) + 1 + 1) := by
  have e : (k0 : Int) + ((k * 3 + 2 : Nat) : Int) = (q : Int) + 1 + 1 := by omega
  unfold markIns
  rw [if_neg (by omega), if_neg (by omega), e]

set_option maxRecDepth 100000 in
set_option maxHeartbeats 4000000 in
theorem markInsS_row (b off n cap k0 : Nat) (F : Nat → Value) (w : World) (hn : (n : Int) ≤ 1048576) (h1 : 1 ≤ (k0 : Int)) (h2 : (k0 : Int) ≤ 1152921504606846976) (hC : Cells w b off (n * 3) F) :
    Calls Tryz.prog 21 #[.slice (some ⟨b, off, none⟩) n cap, .int .i64 k0] w fun e w' => e = .returned (.int .i64 ((k0 + n * 3 : Nat) : Int)) ∧ Cells w' b off (n * 3) (markIns k0) ∧ Within b (b + 1) w w' := by
  have HC := hide hC
  clear hC
  go_enter Tryz.func21, Tryz.ntmps21
  go_wp2
  go_loopw [1, 5] (fun v i wr => ∃ (k q : Nat) (F : Nat → Value), k ≤ n ∧ Hid (q = k0 + k * 3) ∧ i = .int .i64 k ∧ v = .int .i64 q ∧ Hid (Cells wr b off (n * 3) F) ∧ Hid (∀ j, j < k * 3 → F j = markIns k0 j) ∧ Hid (Within b (b + 1) w wr)) (fun _ i _ => n - (intOf i).toNat)
  case atStart => exact ⟨0, k0, F, by omega, by show k0 = _; omega, rfl, rfl, HC.out, fun j hj => by omega, Within.refl _ _ _⟩
  case round =>
    obtain ⟨k, q, F, hk, HQ, rfl, rfl, HC0, HM, HW0⟩ := hrel
    have hq1 : 1 ≤ (q : Int) := by have := HQ.out; omega
    have hq2 : (q : Int) ≤ 1152921504610000000 := by have := HQ.out; omega
    by_cases hlt : k < n
    · have hkk : k * 3 + 3 ≤ n * 3 := by omega
      obtain ⟨c0, z0⟩ := HC0.out.at (off + k * 3) (k * 3) (by omega) (by omega)
      obtain ⟨c1, z1⟩ := HC0.out.at (off + k * 3 + 1) (k * 3 + 1) (by omega) (by omega)
      obtain ⟨c2, z2⟩ := HC0.out.at (off + k * 3 + 2) (k * 3 + 2) (by omega) (by omega)
      have HS0 := hide (HC0.out.setAt (off + k * 3) (k * 3) (by omega) (by omega) (.int .i64 ((q : Int))))
      have HX0 := hide (HW0.out.setCell (p := ⟨b, off + k * 3, none⟩) (Nat.le_refl _) (Nat.lt_succ_self _) (.int .i64 ((q : Int))))
      go_wp2_with fail
      clear c0 z0 c1 z1 c2 z2
      generalize (wr.setCell ⟨b, off + k * 3, none⟩ (.int .i64 ((q : Int)))) = v1 at HS0 HX0 ⊢
      refine (markText_int ((q : Int) + 1) _ (by omega) (by omega)).mono ?_
      rintro e w1 ⟨rfl, hB⟩
      have HC1 := hide (HS0.out.below hB HS0.out.1)
      have HW1 := hide (HX0.out.below hB (Nat.le_refl _))
      clear hB 
      obtain ⟨c1, z1⟩ := HC1.out.at (off + k * 3 + 1) (k * 3 + 1) (by omega) (by omega)
      obtain ⟨c2, z2⟩ := HC1.out.at (off + k * 3 + 2) (k * 3 + 2) (by omega) (by omega)
      have HS1 := hide (HC1.out.setAt (off + k * 3 + 1) (k * 3 + 1) (by omega) (by omega) (.string (mkT ((q : Int) + 1))))
      have HX1 := hide (HW1.out.setCell (p := ⟨b, off + k * 3 + 1, none⟩) (Nat.le_refl _) (Nat.lt_succ_self _) (.string (mkT ((q : Int) + 1))))
      have HS2 := hide (HS1.out.setAt (off + k * 3 + 2) (k * 3 + 2) (by omega) (by omega) (.int .i64 ((q : Int) + 2)))
      have HX2 := hide (HX1.out.setCell (p := ⟨b, off + k * 3 + 2, none⟩) (Nat.le_refl _) (Nat.lt_succ_self _) (.int .i64 ((q : Int) + 2)))
      go_wp2
      refine ⟨⟨k + 1, q + 3, _, by omega, by show q + 3 = k0 + (k + 1) * 3; have := HQ.out; omega, by go_num, by go_num, HS2.out, ?_, HX2.out⟩, by simp [intOf]; omega⟩
      intro j hj
      rcases (show j < k * 3 ∨ j = k * 3 ∨ j = k * 3 + 1 ∨ j = k * 3 + 2 by omega) with h | rfl | rfl | rfl
      · rw [if_neg (by omega), if_neg (by omega), if_neg (by omega), HM.out j h]
      · rw [if_neg (by omega), if_neg (by omega), if_pos rfl, markIns_0 HQ.out]
      · rw [if_neg (by omega), if_pos rfl, markIns_1 HQ.out]
      · rw [if_pos rfl, markIns_2 HQ.out]
        rw [show (q : Int) + 2 = (q : Int) + 1 + 1 by omega]
    · have e : k = n := by omega
      subst e
      have hv : (q : Int) = ((k0 + k * 3 : Nat) : Int) := by rw [HQ.out]
      have HV := hide hv
      clear hv
      go_wp2
      go_ret
      exact ⟨by show Ending.returned (.int .i64 (q : Int)) = _; rw [HV.out], HC0.out.congr HM.out, HW0.out⟩

set_option maxHeartbeats 1000000 in
theorem markInsS_nil (a : Option Addr) (cap k0 : Nat) (w : World) : Calls Tryz.prog 21 #[.slice a 0 cap, .int .i64 k0] w fun e w' => e = .returned (.int .i64 (k0 : Int)) ∧ w' = w := by
  go_enter Tryz.func21, Tryz.ntmps21
  go_wp2
  go_loop [1, 5] (fun v i => v = .int .i64 k0 ∧ i = .int .i64 0) (fun _ _ => 0)
  case atStart => exact ⟨rfl, rfl⟩
  case round =>
    obtain ⟨rfl, rfl⟩ := hrel
    go_wp2
    go_ret
    exact ⟨rfl, rfl⟩

end Go.Proofs.YtpefignfaooonaaGreatDoor.Vp
