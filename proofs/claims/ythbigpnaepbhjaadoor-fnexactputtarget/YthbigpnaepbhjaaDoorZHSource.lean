/-
  Marks of Source, read again. Written by tools/mark2.py.
-/
import Derived.Test.YthbigpnaepbhjaaDoorZE
namespace Go.Proofs.YthbigpnaepbhjaaDoor.Vp
open Go.RowKit

set_option maxHeartbeats 1000000 in
theorem heldSourceS_nil (a : Option Addr) (cap k0 : Nat) (w : World) : Calls Tryd.prog 35 #[.slice a 0 cap, .int .i64 k0] w fun e w' => e = .returned (.int .i64 (k0 : Int)) ∧ w' = w := by
  go_enter Tryd.func35, Tryd.ntmps35
  go_wp2
  go_loop [1, 5] (fun v i => v = .int .i64 k0 ∧ i = .int .i64 0) (fun _ _ => 0)
  case atStart => exact ⟨rfl, rfl⟩
  case round =>
    obtain ⟨rfl, rfl⟩ := hrel
    go_wp2
    go_ret
    exact ⟨rfl, rfl⟩

set_option maxRecDepth 100000 in
set_option maxHeartbeats 4000000 in
theorem heldSourceS_row (b off n cap k0 : Nat) (w : World) (hn : (n : Int) ≤ 1048576) (h1 : 1 ≤ (k0 : Int)) (h2 : (k0 : Int) ≤ 1152921504606846976) (hC : Cells w b off (n * 2) (markSource k0)) :
    Calls Tryd.prog 35 #[.slice (some ⟨b, off, none⟩) n cap, .int .i64 k0] w fun e w' => e = .returned (.int .i64 ((k0 + n * 2 : Nat) : Int)) ∧ Below w.heap.size w w' := by
  have HC := hide hC
  have hb : b < w.heap.size := hC.1
  clear hC
  go_enter Tryd.func35, Tryd.ntmps35
  go_wp2
  go_loopw [1, 5] (fun v i wr => ∃ k q : Nat, k ≤ n ∧ Hid (q = k0 + k * 2) ∧ i = .int .i64 k ∧ v = .int .i64 q ∧ Hid (Below w.heap.size w wr)) (fun _ i _ => n - (intOf i).toNat)
  case atStart => exact ⟨0, k0, by omega, by show k0 = _; omega, rfl, rfl, Below.refl _ _⟩
  case round =>
    obtain ⟨k, q, hk, HQ, rfl, rfl, HB0⟩ := hrel
    have hq1 : 1 ≤ (q : Int) := by have := HQ.out; omega
    have hq2 : (q : Int) ≤ 1152921504610000000 := by have := HQ.out; omega
    have hb0 : b < wr.heap.size := Nat.lt_of_lt_of_le hb HB0.out.size
    have H0 := hide (HC.out.below HB0.out hb)
    by_cases hlt : k < n
    · have hkk : k * 2 + 2 ≤ n * 2 := by omega
      have c0 : wr.cell? ⟨b, off + k * 2, none⟩ = some (.string (mkT ((q : Int)))) := by have := (H0.out.at (off + k * 2) (k * 2) (by omega) (by omega)).1; rw [markSource_0 HQ.out] at this; exact this
      have c1 : wr.cell? ⟨b, off + k * 2 + 1, none⟩ = some (.string (mkT ((q : Int) + 1))) := by have := (H0.out.at (off + k * 2 + 1) (k * 2 + 1) (by omega) (by omega)).1; rw [markSource_1 HQ.out] at this; exact this
      go_wp2_with fail
      go_region_with (go_at_call 65; refine (markText_int ((q : Int)) _ (by omega) (by omega)).mono ?_; rintro e w1 ⟨rfl, hB⟩; have D1 : Hid (Below wr.heap.size wr w1) := ⟨hB.os, hB.tape, hB.output, hB.size, hB.block⟩; have HB1 := hide (HB0.out.trans (D1.out.mono HB0.out.size)); have H1 := hide (H0.out.below D1.out hb0); have hb1 : b < w1.heap.size := Nat.lt_of_lt_of_le hb0 D1.out.size; have d1_0 := (D1.out.cell (p := ⟨b, off + k * 2, none⟩) hb0).trans c0; clear hB D1)
      all_goals
        clear c0 c1 d1_0
        have c1 : w1.cell? ⟨b, off + k * 2 + 1, none⟩ = some (.string (mkT ((q : Int) + 1))) := by have := (H1.out.at (off + k * 2 + 1) (k * 2 + 1) (by omega) (by omega)).1; rw [markSource_1 HQ.out] at this; exact this
        go_wp2_with fail
        go_region_with (go_at_call 65; refine (markText_int ((q : Int) + 1) _ (by omega) (by omega)).mono ?_; rintro e w2 ⟨rfl, hB⟩; have D2 : Hid (Below w1.heap.size w1 w2) := ⟨hB.os, hB.tape, hB.output, hB.size, hB.block⟩; have HB2 := hide (HB1.out.trans (D2.out.mono HB1.out.size)); have H2 := hide (H1.out.below D2.out hb1); have hb2 : b < w2.heap.size := Nat.lt_of_lt_of_le hb1 D2.out.size; have d2_1 := (D2.out.cell (p := ⟨b, off + k * 2 + 1, none⟩) hb1).trans c1; clear hB D2)
        all_goals
          clear c1 d2_1
          go_wp2
          exact ⟨⟨k + 1, q + 2, by omega, by show q + 2 = k0 + (k + 1) * 2; have := HQ.out; omega, by go_num, by go_num, HB2.out⟩, by simp [intOf]; omega⟩
    · have e : k = n := by omega
      subst e
      have hv : (q : Int) = ((k0 + k * 2 : Nat) : Int) := by rw [HQ.out]
      have HV := hide hv
      clear hv
      go_wp2
      go_ret
      exact ⟨by show Ending.returned (.int .i64 (q : Int)) = _; rw [HV.out], HB0.out⟩

end Go.Proofs.YthbigpnaepbhjaaDoor.Vp
