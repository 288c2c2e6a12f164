/-
  Marks of a row of texts.
-/
import Derived.Test.YtkikpcklccdihaaGreatDoorZDRowS
import Derived.Test.YtkikpcklccdihaaGreatDoorZDMark
namespace Go.Proofs.YtkikpcklccdihaaGreatDoor.Vp
open Go.RowKit

/-- What cell j of a marked row of texts holds. -/
def markStr (k0 : Nat) (j : Nat) : Value := .string (mkT ((k0 : Int) + j))
theorem markStr_at {k0 k q : Nat} (h : q = k0 + k) : markStr k0 k = .string (mkT (q : Int)) := by
  have e : (k0 : Int) + (k : Int) = (q : Int) := by omega
  unfold markStr
  rw [e]

set_option maxRecDepth 100000 in
set_option maxHeartbeats 4000000 in
theorem markStringS_row (b off n cap k0 : Nat) (F : Nat → Value) (w : World) (hn : (n : Int) ≤ 1048576) (h1 : 1 ≤ (k0 : Int)) (h2 : (k0 : Int) ≤ 1152921504606846976) (hC : Cells w b off n F) :
    Calls Tryz.prog 11 #[.slice (some ⟨b, off, none⟩) n cap, .int .i64 k0] w fun e w' => e = .returned (.int .i64 ((k0 + n : Nat) : Int)) ∧ Cells w' b off n (markStr k0) ∧ Within b (b + 1) w w' := by
  have HC := hide hC
  clear hC
  go_enter Tryz.func11, Tryz.ntmps11
  go_wp2
  go_loopw [1, 5] (fun v i wr => ∃ (k q : Nat) (F : Nat → Value), k ≤ n ∧ Hid (q = k0 + k) ∧ i = .int .i64 k ∧ v = .int .i64 q ∧ Hid (Cells wr b off n F) ∧ Hid (∀ j, j < k → F j = markStr k0 j) ∧ Hid (Within b (b + 1) w wr)) (fun _ i _ => n - (intOf i).toNat)
  case atStart => exact ⟨0, k0, F, by omega, by show k0 = _; omega, rfl, rfl, HC.out, fun j hj => by omega, Within.refl _ _ _⟩
  case round =>
    obtain ⟨k, q, F, hk, HQ, rfl, rfl, HC0, HM, HW0⟩ := hrel
    have hq1 : 1 ≤ (q : Int) := by have := HQ.out; omega
    have hq2 : (q : Int) ≤ 1152921504610000000 := by have := HQ.out; omega
    by_cases hlt : k < n
    · obtain ⟨c0, z0⟩ := HC0.out.at (off + k) k (by omega) (by omega)
      go_wp2_with fail
      refine (markText_int (q : Int) _ (by omega) (by omega)).mono ?_
      rintro e w1 ⟨rfl, hB⟩
      have HC1 := hide (HC0.out.below hB HC0.out.1)
      have HW1 := hide (HW0.out.below hB (Nat.le_refl _))
      clear hB c0 z0
      obtain ⟨c1, z1⟩ := HC1.out.at (off + k) k (by omega) (by omega)
      have HS1 := hide (HC1.out.setAt (off + k) k (by omega) (by omega) (.string (mkT (q : Int))))
      have HX1 := hide (HW1.out.setCell (p := ⟨b, off + k, none⟩) (Nat.le_refl _) (Nat.lt_succ_self _) (.string (mkT (q : Int))))
      go_wp2
      refine ⟨⟨k + 1, q + 1, _, by omega, by show q + 1 = k0 + (k + 1); have := HQ.out; omega, by go_num, by go_num, HS1.out, ?_, HX1.out⟩, by simp [intOf]; omega⟩
      intro j hj
      rcases (show j < k ∨ j = k by omega) with h | rfl
      · rw [if_neg (by omega), HM.out j h]
      · rw [if_pos rfl, markStr_at HQ.out]
    · have e : k = n := by omega
      subst e
      have hv : (q : Int) = ((k0 + k : Nat) : Int) := by rw [HQ.out]
      have HV := hide hv
      clear hv
      go_wp2
      go_ret
      exact ⟨by show Ending.returned (.int .i64 (q : Int)) = _; rw [HV.out], HC0.out.congr HM.out, HW0.out⟩

set_option maxHeartbeats 1000000 in
theorem markStringS_nil (a : Option Addr) (cap k0 : Nat) (w : World) : Calls Tryz.prog 11 #[.slice a 0 cap, .int .i64 k0] w fun e w' => e = .returned (.int .i64 (k0 : Int)) ∧ w' = w := by
  go_enter Tryz.func11, Tryz.ntmps11
  go_wp2
  go_loop [1, 5] (fun v i => v = .int .i64 k0 ∧ i = .int .i64 0) (fun _ _ => 0)
  case atStart => exact ⟨rfl, rfl⟩
  case round =>
    obtain ⟨rfl, rfl⟩ := hrel
    go_wp2
    go_ret
    exact ⟨rfl, rfl⟩
set_option maxHeartbeats 1000000 in
theorem heldStringS_nil (a : Option Addr) (cap k0 : Nat) (w : World) : Calls Tryz.prog 12 #[.slice a 0 cap, .int .i64 k0] w fun e w' => e = .returned (.int .i64 (k0 : Int)) ∧ w' = w := by
  go_enter Tryz.func12, Tryz.ntmps12
  go_wp2
  go_loop [1, 5] (fun v i => v = .int .i64 k0 ∧ i = .int .i64 0) (fun _ _ => 0)
  case atStart => exact ⟨rfl, rfl⟩
  case round =>
    obtain ⟨rfl, rfl⟩ := hrel
    go_wp2
    go_ret
    exact ⟨rfl, rfl⟩

set_option maxRecDepth 100000 in
set_option maxHeartbeats 4000000 in
theorem heldStringS_row (b off n cap k0 : Nat) (w : World) (hn : (n : Int) ≤ 1048576) (h1 : 1 ≤ (k0 : Int)) (h2 : (k0 : Int) ≤ 1152921504606846976) (hC : Cells w b off n (markStr k0)) :
    Calls Tryz.prog 12 #[.slice (some ⟨b, off, none⟩) n cap, .int .i64 k0] w fun e w' => e = .returned (.int .i64 ((k0 + n : Nat) : Int)) ∧ Below w.heap.size w w' := by
  have HC := hide hC
  have hb : b < w.heap.size := hC.1
  clear hC
  go_enter Tryz.func12, Tryz.ntmps12
  go_wp2
  go_loopw [1, 5] (fun v i wr => ∃ k q : Nat, k ≤ n ∧ Hid (q = k0 + k) ∧ i = .int .i64 k ∧ v = .int .i64 q ∧ Hid (Below w.heap.size w wr)) (fun _ i _ => n - (intOf i).toNat)
  case atStart => exact ⟨0, k0, by omega, by show k0 = _; omega, rfl, rfl, Below.refl _ _⟩
  case round =>
    obtain ⟨k, q, hk, HQ, rfl, rfl, HB0⟩ := hrel
    have hq1 : 1 ≤ (q : Int) := by have := HQ.out; omega
    have hq2 : (q : Int) ≤ 1152921504610000000 := by have := HQ.out; omega
    have hb0 : b < wr.heap.size := Nat.lt_of_lt_of_le hb HB0.out.size
    have H0 := hide (HC.out.below HB0.out hb)
    by_cases hlt : k < n
    · have c0 : wr.cell? ⟨b, off + k, none⟩ = some (.string (mkT (q : Int))) := by have := (H0.out.at (off + k) k (by omega) (by omega)).1; rw [markStr_at HQ.out] at this; exact this
      go_wp2_with fail
      go_region_with (go_at_call 27; refine (markText_int (q : Int) _ (by omega) (by omega)).mono ?_; rintro e w1 ⟨rfl, hB⟩; have D1 : Hid (Below wr.heap.size wr w1) := ⟨hB.os, hB.tape, hB.output, hB.size, hB.block⟩; have HB1 := hide (HB0.out.trans (D1.out.mono HB0.out.size)); have H1 := hide (H0.out.below D1.out hb0); have hb1 : b < w1.heap.size := Nat.lt_of_lt_of_le hb0 D1.out.size; have c1 : w1.cell? ⟨b, off + k, none⟩ = some (.string (mkT (q : Int))) := (D1.out.cell (p := ⟨b, off + k, none⟩) hb0).trans c0; clear hB)
      all_goals
        go_wp2
        exact ⟨⟨k + 1, q + 1, by omega, by show q + 1 = k0 + (k + 1); have := HQ.out; omega, by go_num, by go_num, HB1.out⟩, by simp [intOf]; omega⟩
    · have e : k = n := by omega
      subst e
      have hv : (q : Int) = ((k0 + k : Nat) : Int) := by rw [HQ.out]
      have HV := hide hv
      clear hv
      go_wp2
      go_ret
      exact ⟨by show Ending.returned (.int .i64 (q : Int)) = _; rw [HV.out], HB0.out⟩

end Go.Proofs.YtkikpcklccdihaaGreatDoor.Vp
