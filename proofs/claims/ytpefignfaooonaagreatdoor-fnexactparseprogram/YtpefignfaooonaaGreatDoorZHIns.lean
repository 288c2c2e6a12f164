/-
  Marks of Ins, read again. Written by tools/mark2.py.
-/
import Derived.Test.YtpefignfaooonaaGreatDoorZMIns
namespace Go.Proofs.YtpefignfaooonaaGreatDoor.Vp
open Go.RowKit

set_option maxHeartbeats 1000000 in
theorem heldInsS_nil (a : Option Addr) (cap k0 : Nat) (w : World) : Calls Tryz.prog 22 #[.slice a 0 cap, .int .i64 k0] w fun e w' => e = .returned (.int .i64 (k0 : Int)) ∧ w' = w := by
  go_enter Tryz.func22, Tryz.ntmps22
  go_wp2
  go_loop [1, 5] (fun v i => v = .int .i64 k0 ∧ i = .int .i64 0) (fun _ _ => 0)
  case atStart => exact ⟨rfl, rfl⟩
  case round =>
    obtain ⟨rfl, rfl⟩ := hrel
    go_wp2
    go_ret
    exact ⟨rfl, rfl⟩

set_option maxRecDepth 100000 in
set_option maxHeartbeats 4000000 in
theorem heldInsS_row (b off n cap k0 : Nat) (w : World) (hn : (n : Int) ≤ 1048576) (h1 : 1 ≤ (k0 : Int)) (h2 : (k0 : Int) ≤ 1152921504606846976) (hC : Cells w b off (n * 3) (markIns k0)) :
    Calls Tryz.prog 22 #[.slice (some ⟨b, off, none⟩) n cap, .int .i64 k0] w fun e w' => e = .returned (.int .i64 ((k0 + n * 3 : Nat) : Int)) ∧ Below w.heap.size w w' := by
  have HC := hide hC
  have hb : b < w.heap.size := hC.1
  clear hC
  go_enter Tryz.func22, Tryz.ntmps22
  go_wp2
  go_loopw [1, 5] (fun v i wr => ∃ k q : Nat, k ≤ n ∧ Hid (q = k0 + k * 3) ∧ i = .int .i64 k ∧ v = .int .i64 q ∧ Hid (Below w.heap.size w wr)) (fun _ i _ => n - (intOf i).toNat)
  case atStart => exact ⟨0, k0, by omega, by show k0 = _; omega, rfl, rfl, Below.refl _ _⟩
  case round =>
    obtain ⟨k, q, hk, HQ, rfl, rfl, HB0⟩ := hrel
    have hq1 : 1 ≤ (q : Int) := by have := HQ.out; omega
    have hq2 : (q : Int) ≤ 1152921504610000000 := by have := HQ.out; omega
    have hb0 : b < wr.heap.size := Nat.lt_of_lt_of_le hb HB0.out.size
    have H0 := hide (HC.out.below HB0.out hb)
    by_cases hlt : k < n
    · have hkk : k * 3 + 3 ≤ n * 3 := by omega
      have c0 : wr.cell? ⟨b, off + k * 3, none⟩ = some (.int .i64 ((q : Int))) := by have := (H0.out.at (off + k * 3) (k * 3) (by omega) (by omega)).1; rw [markIns_0 HQ.out] at this; exact this
      have c1 : wr.cell? ⟨b, off + k * 3 + 1, none⟩ = some (.string (mkT ((q : Int) + 1))) := by have := (H0.out.at (off + k * 3 + 1) (k * 3 + 1) (by omega) (by omega)).1; rw [markIns_1 HQ.out] at this; exact this
      have c2 : wr.cell? ⟨b, off + k * 3 + 2, none⟩ = some (.int .i64 ((q : Int) + 2)) := by have := (H0.out.at (off + k * 3 + 2) (k * 3 + 2) (by omega) (by omega)).1; rw [markIns_2 HQ.out] at this; rw [show (q : Int) + 1 + 1 = (q : Int) + 2 by omega] at this; exact this
      go_wp2_with fail
      go_region_with (go_at_call 42; refine (markText_int ((q : Int) + 1) _ (by omega) (by omega)).mono ?_; rintro e w1 ⟨rfl, hB⟩; have D1 : Hid (Below wr.heap.size wr w1) := ⟨hB.os, hB.tape, hB.output, hB.size, hB.block⟩; have HB1 := hide (HB0.out.trans (D1.out.mono HB0.out.size)); have H1 := hide (H0.out.below D1.out hb0); have hb1 : b < w1.heap.size := Nat.lt_of_lt_of_le hb0 D1.out.size; have d1_1 := (D1.out.cell (p := ⟨b, off + k * 3 + 1, none⟩) hb0).trans c1; clear hB D1)
      all_goals
        clear c0 c1 c2 d1_1
        have c2 : w1.cell? ⟨b, off + k * 3 + 2, none⟩ = some (.int .i64 ((q : Int) + 2)) := by have := (H1.out.at (off + k * 3 + 2) (k * 3 + 2) (by omega) (by omega)).1; rw [markIns_2 HQ.out] at this; rw [show (q : Int) + 1 + 1 = (q : Int) + 2 by omega] at this; exact this
        go_wp2
        exact ⟨⟨k + 1, q + 3, by omega, by show q + 3 = k0 + (k + 1) * 3; have := HQ.out; omega, by go_num, by go_num, HB1.out⟩, by simp [intOf]; omega⟩
    · have e : k = n := by omega
      subst e
      have hv : (q : Int) = ((k0 + k * 3 : Nat) : Int) := by rw [HQ.out]
      have HV := hide hv
      clear hv
      go_wp2
      go_ret
      exact ⟨by show Ending.returned (.int .i64 (q : Int)) = _; rw [HV.out], HB0.out⟩

end Go.Proofs.YtpefignfaooonaaGreatDoor.Vp
