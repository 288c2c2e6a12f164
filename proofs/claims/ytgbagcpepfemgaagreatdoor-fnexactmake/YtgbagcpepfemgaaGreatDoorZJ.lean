import Derived.Test.YtgbagcpepfemgaaGreatDoorZI
import Derived.Test.YtgbagcpepfemgaaGreatDoorZH
namespace Go.Proofs.YtgbagcpepfemgaaGreatDoor.Vp
open Go.RowKit
theorem heldInsS_sl (p : Option Addr) (n cap k0 b : Nat) (w : World) (hn : (n : Int) ≤ 1048576) (h1 : 1 ≤ (k0 : Int)) (h2 : (k0 : Int) ≤ 1152921504606846976) (h : n = 0 ∨ (p = some ⟨b, 0, none⟩ ∧ Cells w b 0 (n * 3) (markIns k0))) :
    Calls Tryz.prog 64 #[.slice p n cap, .int .i64 k0] w fun e w' => e = .returned (.int .i64 ((k0 + n * 3 : Nat) : Int)) ∧ Below w.heap.size w w' := by
  by_cases hz : n = 0
  · subst hz
    exact (heldInsS_nil p cap k0 w).mono fun e w' ⟨a, b⟩ => ⟨by simpa using a, by rw [b]; exact Below.refl _ _⟩
  · obtain ⟨rfl, hG⟩ := h.resolve_left hz
    exact heldInsS_row b 0 n cap k0 w hn h1 h2 hG
theorem heldLinkS_sl (p : Option Addr) (n cap k0 b : Nat) (w : World) (hn : (n : Int) ≤ 1048576) (h1 : 1 ≤ (k0 : Int)) (h2 : (k0 : Int) ≤ 1152921504606846976) (h : n = 0 ∨ (p = some ⟨b, 0, none⟩ ∧ Cells w b 0 (n * 4) (markLink k0))) :
    Calls Tryz.prog 65 #[.slice p n cap, .int .i64 k0] w fun e w' => e = .returned (.int .i64 ((k0 + n * 4 : Nat) : Int)) ∧ Below w.heap.size w w' := by
  by_cases hz : n = 0
  · subst hz
    exact (heldLinkS_nil p cap k0 w).mono fun e w' ⟨a, b⟩ => ⟨by simpa using a, by rw [b]; exact Below.refl _ _⟩
  · obtain ⟨rfl, hG⟩ := h.resolve_left hz
    exact heldLinkS_row b 0 n cap k0 w hn h1 h2 hG
set_option maxRecDepth 100000 in
set_option maxHeartbeats 8000000 in
theorem heldDeedS_row (T n cap k0 : Nat) (A L a l : Nat → Nat) (w : World) (hn : (n : Int) ≤ 1048576) (h1 : 1 ≤ (k0 : Int)) (h2 : (k0 : Int) ≤ 1125899906842624) (hP : DPlan T n A L a l) (hC : DMarked w T n A L a l k0) :
    Calls Tryz.prog 39 #[.slice (some ⟨T, 0, none⟩) n cap, .int .i64 k0] w fun e w' => e = .returned (.int .i64 ((dAt a l k0 n : Nat) : Int)) ∧ Below w.heap.size w w' := by
  have HC := hide hC
  have HP := hide hP
  clear hC hP
  go_enter Tryz.func39, Tryz.ntmps39
  go_wp2
  go_loopw [1, 5] (fun v i wr => ∃ (k q : Nat), k ≤ n ∧ Hid (q = dAt a l k0 k) ∧ i = .int .i64 k ∧ v = .int .i64 q ∧ Hid (Below w.heap.size w wr)) (fun _ i _ => n - (intOf i).toNat)
  case atStart => exact ⟨0, k0, by omega, rfl, rfl, rfl, Below.refl _ _⟩
  case round =>
    obtain ⟨k, q, hk, HQ, rfl, rfl, HB⟩ := hrel
    have hq1 : 1 ≤ (q : Int) := by have := HQ.out; have := dAt_ge (a := a) (l := l) (k0 := k0) (n := k); omega
    have hq2 : (q : Int) ≤ 1152921504600000000 := by have := HQ.out; have := dAt_le (a := a) (l := l) (k0 := k0) (n := k) (fun i hi => (HP.out.fit i (by omega)).1) (fun i hi => (HP.out.fit i (by omega)).2); omega
    by_cases hlt : k < n
    · have hkk : k * 6 + 6 ≤ n * 6 := by omega
      obtain ⟨hak, hlk⟩ := HP.out.fit k hlt
      have M0 := hide (HC.out.below HB.out (Nat.le_refl _))
      have cs : ∀ (W : World), DMarked W T n A L a l k0 → T < W.heap.size ∧ W.cell? ⟨T, k * 6, none⟩ = some (.string (mkT (q : Int))) ∧ W.cell? ⟨T, k * 6 + 1, none⟩ = some (.int .i64 ((q : Int) + 1)) ∧ W.cell? ⟨T, k * 6 + 2, none⟩ = some (.int .i64 ((q : Int) + 1 + 1)) ∧ W.cell? ⟨T, k * 6 + 3, none⟩ = some (.string (mkT ((q : Int) + 1 + 1 + 1))) ∧ (∃ p c, W.cell? ⟨T, k * 6 + 4, none⟩ = some (.slice p (a k) c) ∧ (a k ≠ 0 → p = some ⟨A k, 0, none⟩)) ∧ ∃ p c, W.cell? ⟨T, k * 6 + 5, none⟩ = some (.slice p (l k) c) ∧ (l k ≠ 0 → p = some ⟨L k, 0, none⟩) := by
        rintro W ⟨⟨F, hF, hM⟩, _, _⟩
        obtain ⟨e0, e1, e2, e3, ⟨p4, d4, e4, g4⟩, p5, d5, e5, g5⟩ := hM k hlt
        rw [← HQ.out] at e0 e1 e2 e3
        refine ⟨hF.1, ?_, ?_, ?_, ?_, ⟨p4, d4, ?_, g4⟩, p5, d5, ?_, g5⟩
        · rw [(hF.at (k * 6) (k * 6) (by omega) (by omega)).1, e0]
        · rw [(hF.at (k * 6 + 1) (k * 6 + 1) (by omega) (by omega)).1, e1, show ((q + 1 : Nat) : Int) = (q : Int) + 1 by omega]
        · rw [(hF.at (k * 6 + 2) (k * 6 + 2) (by omega) (by omega)).1, e2, show ((q + 2 : Nat) : Int) = (q : Int) + 1 + 1 by omega]
        · rw [(hF.at (k * 6 + 3) (k * 6 + 3) (by omega) (by omega)).1, e3, show ((q + 3 : Nat) : Int) = (q : Int) + 1 + 1 + 1 by omega]
        · rw [(hF.at (k * 6 + 4) (k * 6 + 4) (by omega) (by omega)).1, e4]
        · rw [(hF.at (k * 6 + 5) (k * 6 + 5) (by omega) (by omega)).1, e5]
      have CS := hide cs
      clear cs
      obtain ⟨hT0, c0, c1, c2, c3, -, -⟩ := CS.out wr M0.out
      go_wp2_with fail
      go_region_with (go_at_call 55; refine (markText_int ((q : Int)) _ (by omega) (by omega)).mono ?_; rintro e w1 ⟨rfl, hB⟩; have D1 : Hid (Below wr.heap.size wr w1) := ⟨hB.os, hB.tape, hB.output, hB.size, hB.block⟩; have HB1 := hide (HB.out.trans (D1.out.mono HB.out.size)); have d1_0 := (D1.out.cell (p := ⟨T, k * 6, none⟩) hT0).trans c0; clear hB D1)
      all_goals
        clear c0 c1 c2 c3 d1_0 hT0
        have M1 := hide (HC.out.below HB1.out (Nat.le_refl _))
        obtain ⟨hT1, -, c1, c2, c3, -, -⟩ := CS.out w1 M1.out
        have c3' := c3
        go_wp2_with fail
        go_region_with (go_at_call 55; refine (markText_int ((q : Int) + 1 + 1 + 1) _ (by omega) (by omega)).mono ?_; rintro e w2 ⟨rfl, hB⟩; have D2 : Hid (Below w1.heap.size w1 w2) := ⟨hB.os, hB.tape, hB.output, hB.size, hB.block⟩; have HB2 := hide (HB1.out.trans (D2.out.mono HB1.out.size)); have d1_3 := (D2.out.cell (p := ⟨T, k * 6 + 3, none⟩) hT1).trans c3'; clear hB D2)
        all_goals
          clear c1 c2 c3 c3' d1_3 hT1
          have M2 := hide (HC.out.below HB2.out (Nat.le_refl _))
          obtain ⟨hT2, -, -, -, -, ⟨p4, d4, c4, g4⟩, -⟩ := CS.out w2 M2.out
          have G4 := hide g4
          clear g4
          go_wp2_with fail
          first | rw [show (q : Int) + 1 + 1 + 1 + 1 = ((q + 4 : Nat) : Int) by omega] | rw [show (q : Int) + 4 = ((q + 4 : Nat) : Int) by omega]
          refine (heldInsS_sl p4 (a k) d4 (q + 4) (A k) _ (by omega) (by omega) (by omega) (by by_cases hz : a k = 0; exact .inl hz; exact .inr ⟨G4.out hz, by have := M2.out.act k hlt hz; rw [← HQ.out] at this; exact this⟩)).mono ?_
          rintro e w3 ⟨rfl, hB3⟩
          have HB3 := hide (HB2.out.trans (hB3.mono HB2.out.size))
          clear hB3 c4 hT2
          have M3 := hide (HC.out.below HB3.out (Nat.le_refl _))
          obtain ⟨hT3, -, -, -, -, -, p5, d5, c5, g5⟩ := CS.out w3 M3.out
          have G5 := hide g5
          clear g5
          have hp3 : ¬ ((q + 4 + a k * 3 : Nat) : Int) < 0 := by omega
          go_wp2_with fail
          refine (heldLinkS_sl p5 (l k) d5 (q + 4 + a k * 3) (L k) _ (by omega) (by omega) (by omega) (by by_cases hz : l k = 0; exact .inl hz; exact .inr ⟨G5.out hz, by have := M3.out.lnk k hlt hz; rw [← HQ.out] at this; exact this⟩)).mono ?_
          rintro e w4 ⟨rfl, hB4⟩
          have HB4 := hide (HB3.out.trans (hB4.mono HB3.out.size))
          have HE : Hid (q + 4 + a k * 3 + l k * 4 = dAt a l k0 (k + 1)) := by show _ = dAt a l k0 k + 4 + a k * 3 + l k * 4; rw [HQ.out]
          clear hB4 c5 hT3
          have hp4 : ¬ ((q + 4 + a k * 3 + l k * 4 : Nat) : Int) < 0 := by omega
          go_wp2
          exact ⟨⟨k + 1, q + 4 + a k * 3 + l k * 4, by omega, HE.out, by go_num, rfl, HB4.out⟩, by simp [intOf]; omega⟩
    · have e : k = n := by omega
      subst e
      have HV : Hid ((q : Int) = ((dAt a l k0 k : Nat) : Int)) := by show (q : Int) = _; rw [HQ.out]
      go_wp2
      go_ret
      exact ⟨by show Ending.returned (.int .i64 (q : Int)) = _; rw [HV.out], HB.out⟩
set_option maxRecDepth 100000 in
set_option maxHeartbeats 4000000 in
theorem heldAccount_row (T n cap k0 : Nat) (A L a l : Nat → Nat) (w : World) (hn : (n : Int) ≤ 1048576) (h1 : 1 ≤ (k0 : Int)) (h2 : (k0 : Int) ≤ 1125899906842624) (hP : DPlan T n A L a l) (hC : DMarked w T n A L a l k0) :
    Calls Tryz.prog 18 #[.agg #[.slice (some ⟨T, 0, none⟩) n cap], .int .i64 k0] w fun e w' => e = .returned (.int .i64 ((dAt a l k0 n : Nat) : Int)) ∧ Below w.heap.size w w' := by
  have A0 := hide ((Below.refl w.heap.size w).alloc (Nat.le_refl _) (.cells #[.slice (some ⟨T, 0, none⟩) n cap] 43))
  have HC := hide (hC.below A0.out (Nat.le_refl _))
  have HP := hide hP
  clear hC hP
  go_enter Tryz.func18, Tryz.ntmps18
  go_wp2_with fail
  refine (heldDeedS_row T n cap k0 A L a l _ hn h1 h2 HP.out HC.out).mono ?_
  rintro e w1 ⟨rfl, hB⟩
  have B1 := hide (A0.out.trans (hB.mono A0.out.size))
  have hp3 : ¬ ((dAt a l k0 n : Nat) : Int) < 0 := by omega
  clear hB
  go_wp2
  go_ret
  exact ⟨rfl, B1.out⟩
set_option maxHeartbeats 1000000 in
theorem heldDeedS_nil (a : Option Addr) (cap k0 : Nat) (w : World) : Calls Tryz.prog 39 #[.slice a 0 cap, .int .i64 k0] w fun e w' => e = .returned (.int .i64 (k0 : Int)) ∧ w' = w := by
  go_enter Tryz.func39, Tryz.ntmps39
  go_wp2
  go_loop [1, 5] (fun v i => v = .int .i64 k0 ∧ i = .int .i64 0) (fun _ _ => 0)
  case atStart => exact ⟨rfl, rfl⟩
  case round =>
    obtain ⟨rfl, rfl⟩ := hrel
    go_wp2
    go_ret
    exact ⟨rfl, rfl⟩
set_option maxHeartbeats 1000000 in
theorem markDeedS_nil (a : Option Addr) (cap k0 : Nat) (w : World) : Calls Tryz.prog 38 #[.slice a 0 cap, .int .i64 k0] w fun e w' => e = .returned (.int .i64 (k0 : Int)) ∧ w' = w := by
  go_enter Tryz.func38, Tryz.ntmps38
  go_wp2
  go_loop [1, 5] (fun v i => v = .int .i64 k0 ∧ i = .int .i64 0) (fun _ _ => 0)
  case atStart => exact ⟨rfl, rfl⟩
  case round =>
    obtain ⟨rfl, rfl⟩ := hrel
    go_wp2
    go_ret
    exact ⟨rfl, rfl⟩
set_option maxRecDepth 100000 in
set_option maxHeartbeats 1000000 in
theorem markAccount_nil (a : Option Addr) (cap k0 : Nat) (w : World) : Calls Tryz.prog 17 #[.agg #[.slice a 0 cap], .int .i64 k0] w fun e w' => e = .returned (.int .i64 (k0 : Int)) ∧ Below w.heap.size w w' := by
  have A0 := hide ((Below.refl w.heap.size w).alloc (Nat.le_refl _) (.cells #[.slice a 0 cap] 43))
  go_enter Tryz.func17, Tryz.ntmps17
  go_wp2_with fail
  refine (markDeedS_nil a cap k0 _).mono ?_
  rintro e w1 ⟨rfl, rfl⟩
  go_wp2
  go_ret
  exact ⟨rfl, A0.out⟩
set_option maxRecDepth 100000 in
set_option maxHeartbeats 1000000 in
theorem heldAccount_nil (a : Option Addr) (cap k0 : Nat) (w : World) : Calls Tryz.prog 18 #[.agg #[.slice a 0 cap], .int .i64 k0] w fun e w' => e = .returned (.int .i64 (k0 : Int)) ∧ Below w.heap.size w w' := by
  have A0 := hide ((Below.refl w.heap.size w).alloc (Nat.le_refl _) (.cells #[.slice a 0 cap] 43))
  go_enter Tryz.func18, Tryz.ntmps18
  go_wp2_with fail
  refine (heldDeedS_nil a cap k0 _).mono ?_
  rintro e w1 ⟨rfl, rfl⟩
  have hp3 : ¬ (k0 : Int) < 0 := by omega
  go_wp2
  go_ret
  exact ⟨rfl, A0.out⟩
end Go.Proofs.YtgbagcpepfemgaaGreatDoor.Vp
