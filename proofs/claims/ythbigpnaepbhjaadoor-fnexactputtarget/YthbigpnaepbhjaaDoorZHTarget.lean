/-
  Marks read again: out of MTarget.lean.
-/
import Derived.Test.YthbigpnaepbhjaaDoorZE
namespace Go.Proofs.YthbigpnaepbhjaaDoor.Vp
open Go.RowKit

set_option maxRecDepth 100000 in
set_option maxHeartbeats 4000000 in
theorem heldTargetS_row (T off n cap k0 : Nat) (B m : Nat → Nat) (w : World) (hn : (n : Int) ≤ 1048576) (hm : ∀ i, i < n → m i ≤ 1048576) (h1 : 1 ≤ (k0 : Int)) (h2 : (k0 : Int) ≤ 1125899906842624) (hC : TMarked w T off n B m k0) (hT : T < w.heap.size) :
    Calls Tryd.prog 36 #[.slice (some ⟨T, off, none⟩) n cap, .int .i64 k0] w fun e w' => e = .returned (.int .i64 ((kAt m k0 n : Nat) : Int)) ∧ Below w.heap.size w w' := by
  have HC := hide hC
  have HM := hide hm
  clear hC hm
  go_enter Tryd.func36, Tryd.ntmps36
  go_wp2
  go_loopw [1, 5] (fun v i wr => ∃ k q : Nat, k ≤ n ∧ Hid (q = kAt m k0 k) ∧ i = .int .i64 k ∧ v = .int .i64 q ∧ Hid (Below w.heap.size w wr)) (fun _ i _ => n - (intOf i).toNat)
  case atStart => exact ⟨0, k0, by omega, rfl, rfl, rfl, Below.refl _ _⟩
  case round =>
    obtain ⟨k, q, hk, HQ, rfl, rfl, HB0⟩ := hrel
    have hq1 : 1 ≤ (q : Int) := by have := HQ.out; have := kAt_ge (m := m) (k0 := k0) (n := k); omega
    have hq2 : (q : Int) ≤ 1152921504600000000 := by have := HQ.out; have := kAt_le (m := m) (k0 := k0) (n := k) (fun i hi => HM.out i (by omega)); omega
    have hb0 : T < wr.heap.size := Nat.lt_of_lt_of_le hT HB0.out.size
    have HC0 := hide (HC.out.below HB0.out (Nat.le_refl _))
    by_cases hlt : k < n
    · have hkk : k * 2 + 2 ≤ n * 2 := by omega
      have hmk := HM.out k hlt
      obtain ⟨F, hF, hFs⟩ := HC0.out.row
      obtain ⟨hnm, cs, hcs⟩ := hFs k hlt
      have c0 : wr.cell? ⟨T, off + k * 2, none⟩ = some (.string (mkT (q : Int))) := by
        have := (hF.at (off + k * 2) (k * 2) (by omega) (by omega)).1
        rw [hnm, ← HQ.out] at this
        exact this
      have c1 : wr.cell? ⟨T, off + k * 2 + 1, none⟩ = some (.slice (some ⟨B k, 0, none⟩) (m k) cs) := by
        have := (hF.at (off + k * 2 + 1) (k * 2 + 1) (by omega) (by omega)).1
        rw [hcs] at this
        exact this
      clear hF hFs hnm hcs
      go_wp2_with fail
      go_region_with (go_at_call 65; refine (markText_int (q : Int) _ (by omega) (by omega)).mono ?_; rintro e w1 ⟨rfl, hB⟩; have D1 : Hid (Below wr.heap.size wr w1) := ⟨hB.os, hB.tape, hB.output, hB.size, hB.block⟩; have HB1 := hide (HB0.out.trans (D1.out.mono HB0.out.size)); have d0 := (D1.out.cell (p := ⟨T, off + k * 2, none⟩) hb0).trans c0; have d1 := (D1.out.cell (p := ⟨T, off + k * 2 + 1, none⟩) hb0).trans c1; have MK := hide (by have := (HC0.out.below D1.out (Nat.le_refl _)).act k hlt; rw [← HQ.out] at this; exact this); clear hB D1)
      all_goals
        clear c0 c1 d0
        go_wp2_with fail
        refine (heldInsS_row (B k) 0 (m k) cs (q + 1) _ (by omega) (by omega) (by omega) MK.out).mono ?_
        rintro e w2 ⟨rfl, hB2⟩
        have HB2 := hide (HB1.out.trans (hB2.mono HB1.out.size))
        have HE : Hid (kAt m k0 (k + 1) = q + 1 + m k * 3) := by show kAt m k0 k + 1 + m k * 3 = _; rw [HQ.out]
        clear hB2 d1
        go_wp2
        exact ⟨⟨k + 1, q + 1 + m k * 3, by omega, HE.out.symm, by go_num, rfl, HB2.out⟩, by simp [intOf]; omega⟩
    · have e : k = n := by omega
      subst e
      have HV : Hid ((q : Int) = ((kAt m k0 k : Nat) : Int)) := by show (q : Int) = _; rw [HQ.out]
      go_wp2
      go_ret
      exact ⟨by show Ending.returned (.int .i64 (q : Int)) = _; rw [HV.out], HB0.out⟩

set_option maxHeartbeats 1000000 in
theorem heldTargetS_nil (a : Option Addr) (cap k0 : Nat) (w : World) : Calls Tryd.prog 36 #[.slice a 0 cap, .int .i64 k0] w fun e w' => e = .returned (.int .i64 (k0 : Int)) ∧ w' = w := by
  go_enter Tryd.func36, Tryd.ntmps36
  go_wp2
  go_loop [1, 5] (fun v i => v = .int .i64 k0 ∧ i = .int .i64 0) (fun _ _ => 0)
  case atStart => exact ⟨rfl, rfl⟩
  case round =>
    obtain ⟨rfl, rfl⟩ := hrel
    go_wp2
    go_ret
    exact ⟨rfl, rfl⟩

end Go.Proofs.YthbigpnaepbhjaaDoor.Vp
