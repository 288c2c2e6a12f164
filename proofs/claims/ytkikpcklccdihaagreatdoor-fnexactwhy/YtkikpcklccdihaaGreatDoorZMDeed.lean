/-
  Marks of deeds and accounts: the walk.
-/
import Derived.Test.YtkikpcklccdihaaGreatDoorZMDeedA
namespace Go.Proofs.YtkikpcklccdihaaGreatDoor.Vp
open Go.RowKit

set_option maxRecDepth 100000 in
set_option maxHeartbeats 8000000 in
theorem markDeedS_row (T n cap k0 : Nat) (A L a l : Nat → Nat) (w : World) (hn : (n : Int) ≤ 1048576) (h1 : 1 ≤ (k0 : Int)) (h2 : (k0 : Int) ≤ 1125899906842624) (hP : DPlan T n A L a l) (hC : DCells w T n A L a l) :
    Calls Tryz.prog 26 #[.slice (some ⟨T, 0, none⟩) n cap, .int .i64 k0] w fun e w' => e = .returned (.int .i64 ((dAt a l k0 n : Nat) : Int)) ∧ DMarked w' T n A L a l k0 ∧ Touch (DBlk T n A L a l) w w' := by
  have HC := hide hC
  have HP := hide hP
  clear hC hP
  go_enter Tryz.func26, Tryz.ntmps26
  go_wp2
  go_loopw [1, 5] (fun v i wr => ∃ (k q : Nat) (F : Nat → Value), k ≤ n ∧ Hid (q = dAt a l k0 k) ∧ i = .int .i64 k ∧ v = .int .i64 q ∧ Hid (DPart wr T n k k k k0 A L a l F) ∧ Hid (Touch (DBlk T n A L a l) w wr)) (fun _ i _ => n - (intOf i).toNat)
  case atStart =>
    obtain ⟨⟨F, hF, hs⟩, ha, hl⟩ := HC.out
    exact ⟨0, k0, F, by omega, rfl, rfl, rfl, ⟨hF, hs, fun i hi => absurd hi (Nat.not_lt_zero _), fun i hi => absurd hi (Nat.not_lt_zero _), fun i hi => absurd hi (Nat.not_lt_zero _), fun i _ hi => ha i hi, fun i _ hi => hl i hi⟩, Touch.refl _ _⟩
  case round =>
    obtain ⟨k, q, F, hk, HQ, rfl, rfl, HD, HW⟩ := hrel
    have hq1 : 1 ≤ (q : Int) := by have := HQ.out; have := dAt_ge (a := a) (l := l) (k0 := k0) (n := k); omega
    have hq2 : (q : Int) ≤ 1152921504600000000 := by have := HQ.out; have := dAt_le (a := a) (l := l) (k0 := k0) (n := k) (fun i hi => (HP.out.fit i (by omega)).1) (fun i hi => (HP.out.fit i (by omega)).2); omega
    by_cases hlt : k < n
    · have hkk : k * 6 + 6 ≤ n * 6 := by omega
      obtain ⟨hak, hlk⟩ := HP.out.fit k hlt
      obtain ⟨⟨pa, ca, hpa, ea⟩, pl, cl, hpl, el⟩ := HD.out.sl k hlt
      have EA := hide ea
      have EL := hide el
      clear ea el
      obtain ⟨c0, z0⟩ := HD.out.row.at (k * 6) (k * 6) (by omega) (by omega)
      go_wp2_with fail
      refine (markText_int (q : Int) _ (by omega) (by omega)).mono ?_
      rintro e w1 ⟨rfl, hB1⟩
      have D1 := hide (HD.out.below hB1 (Nat.le_refl _) hk)
      have W1 := hide (HW.out.below hB1 (Nat.le_refl _))
      clear hB1 c0 z0
      obtain ⟨c0, z0⟩ := D1.out.row.at (k * 6) (k * 6) (by omega) (by omega)
      obtain ⟨c1, z1⟩ := D1.out.row.at (k * 6 + 1) (k * 6 + 1) (by omega) (by omega)
      obtain ⟨c2, z2⟩ := D1.out.row.at (k * 6 + 2) (k * 6 + 2) (by omega) (by omega)
      obtain ⟨c3, z3⟩ := D1.out.row.at (k * 6 + 3) (k * 6 + 3) (by omega) (by omega)
      have S1 := hide (((D1.out.setCell HP.out hlt (k * 6) 0 (by omega) (by omega) (.string (mkT (q : Int)))).setCell HP.out hlt (k * 6 + 1) 1 (by omega) (by omega) (.int .i64 ((q : Int) + 1))).setCell HP.out hlt (k * 6 + 2) 2 (by omega) (by omega) (.int .i64 ((q : Int) + 1 + 1)))
      have X1 := hide (((W1.out.setCell (p := ⟨T, k * 6, none⟩) (.inl rfl) (.string (mkT (q : Int)))).setCell (p := ⟨T, k * 6 + 1, none⟩) (.inl rfl) (.int .i64 ((q : Int) + 1))).setCell (p := ⟨T, k * 6 + 2, none⟩) (.inl rfl) (.int .i64 ((q : Int) + 1 + 1)))
      go_wp2_with fail
      generalize ((w1.setCell ⟨T, k * 6, none⟩ (.string (mkT (q : Int)))).setCell ⟨T, k * 6 + 1, none⟩ (.int .i64 ((q : Int) + 1))).setCell ⟨T, k * 6 + 2, none⟩ (.int .i64 ((q : Int) + 1 + 1)) = v1 at S1 X1 ⊢
      clear D1 W1 c0 z0 c1 z1 c2 z2 c3 z3
      refine (markText_int ((q : Int) + 1 + 1 + 1) _ (by omega) (by omega)).mono ?_
      rintro e w2 ⟨rfl, hB2⟩
      have D2 := hide (S1.out.below hB2 (Nat.le_refl _) hk)
      have W2 := hide (X1.out.below hB2 (Nat.le_refl _))
      clear hB2 S1 X1
      obtain ⟨c3, z3⟩ := D2.out.row.at (k * 6 + 3) (k * 6 + 3) (by omega) (by omega)
      have S2 := hide (D2.out.setCell HP.out hlt (k * 6 + 3) 3 (by omega) (by omega) (.string (mkT ((q : Int) + 1 + 1 + 1))))
      have X2 := hide (W2.out.setCell (p := ⟨T, k * 6 + 3, none⟩) (.inl rfl) (.string (mkT ((q : Int) + 1 + 1 + 1))))
      have c4 : (w2.setCell ⟨T, k * 6 + 3, none⟩ (.string (mkT ((q : Int) + 1 + 1 + 1)))).cell? ⟨T, k * 6 + 4, none⟩ = some (.slice pa (a k) ca) := by
        have := (S2.out.row.at (k * 6 + 4) (k * 6 + 4) (by omega) (by omega)).1
        rw [if_neg (by omega), if_neg (by omega), if_neg (by omega), if_neg (by omega), hpa] at this
        exact this
      go_wp2_with fail
      generalize w2.setCell ⟨T, k * 6 + 3, none⟩ (.string (mkT ((q : Int) + 1 + 1 + 1))) = v2 at S2 X2 c4 ⊢
      clear D2 W2 c3 z3
      first | rw [show (q : Int) + 1 + 1 + 1 + 1 = ((q + 4 : Nat) : Int) by omega] | rw [show (q : Int) + 4 = ((q + 4 : Nat) : Int) by omega]
      refine (markInsS_sl pa (a k) ca (q + 4) (A k) _ (by omega) (by omega) (by omega) (by by_cases hz : a k = 0; exact .inl hz; exact .inr ⟨EA.out hz, S2.out.act k (Nat.le_refl _) hlt hz⟩)).mono ?_
      rintro e w3 ⟨rfl, hM3, hT3⟩
      have D3 := hide (S2.out.acted HP.out hlt hT3)
      have W3 := hide (X2.out.trans (hT3.mono fun x hx => .inr ⟨k, hlt, .inl hx⟩))
      have M3 := hide hM3
      clear hM3 hT3 S2 X2 c4
      have c5 : w3.cell? ⟨T, k * 6 + 5, none⟩ = some (.slice pl (l k) cl) := by
        have := (D3.out.row.at (k * 6 + 5) (k * 6 + 5) (by omega) (by omega)).1
        rw [if_neg (by omega), if_neg (by omega), if_neg (by omega), if_neg (by omega), hpl] at this
        exact this
      go_wp2_with fail
      refine (markLinkS_sl pl (l k) cl (q + 4 + a k * 3) (L k) _ (by omega) (by omega) (by omega) (by by_cases hz : l k = 0; exact .inl hz; exact .inr ⟨EL.out hz, D3.out.lnk k (Nat.le_refl _) hlt hz⟩)).mono ?_
      rintro e w4 ⟨rfl, hM4, hT4⟩
      have D4 := hide (D3.out.linked HP.out hlt hT4 HQ.out M3.out hM4 (by rw [if_neg (by omega), if_neg (by omega), if_neg (by omega)]; exact if_pos rfl) (by rw [if_neg (by omega), if_neg (by omega), if_pos rfl]) (by rw [if_neg (by omega), if_pos rfl]) (by rw [if_pos rfl]))
      have W4 := hide (W3.out.trans (hT4.mono fun x hx => .inr ⟨k, hlt, .inr hx⟩))
      have HE : Hid (q + 4 + a k * 3 + l k * 4 = dAt a l k0 (k + 1)) := by show _ = dAt a l k0 k + 4 + a k * 3 + l k * 4; rw [HQ.out]
      clear hM4 hT4 D3 W3 M3 c5 hpa hpl
      go_wp2
      exact ⟨⟨k + 1, q + 4 + a k * 3 + l k * 4, _, by omega, HE.out, by go_num, rfl, D4.out, W4.out⟩, by simp [intOf]; omega⟩
    · have e : k = n := by omega
      subst e
      have HV : Hid ((q : Int) = ((dAt a l k0 k : Nat) : Int)) := by show (q : Int) = _; rw [HQ.out]
      go_wp2
      go_ret
      exact ⟨by show Ending.returned (.int .i64 (q : Int)) = _; rw [HV.out], ⟨⟨F, HD.out.row, fun i hi => ⟨(HD.out.mrk i hi).1, (HD.out.mrk i hi).2.1, (HD.out.mrk i hi).2.2.1, (HD.out.mrk i hi).2.2.2, (HD.out.sl i hi).1, (HD.out.sl i hi).2⟩⟩, HD.out.actM, HD.out.lnkM⟩, HW.out⟩

theorem OwnDeed2.plan {w : World} {g n N : Nat} {f : Nat → Deed} (h : OwnDeed2 w g n n N f) (hf : ∀ i, i < n → FitsDeed (f i)) : ∃ A L : Nat → Nat, DPlan g n A L (fun i => (f i).actN) (fun i => (f i).linksN) ∧ DCells w g n A L (fun i => (f i).actN) (fun i => (f i).linksN) ∧ ∀ x, DBlk g n A L (fun i => (f i).actN) (fun i => (f i).linksN) x → g ≤ x ∧ (x = g ∨ x < N) := by
  obtain ⟨F, G0, G1, hr, ha, hN, hF⟩ := h
  refine ⟨G0, G1, ⟨fun i hi => hf i hi, fun i hi => ⟨fun _ => ?_, fun _ => ?_⟩, fun i j hi hj hij => ⟨fun _ _ => ?_, fun _ _ => ?_⟩, fun i j hi hj _ _ => ?_⟩, ⟨⟨F, cells_of_row hr, fun i hi => ?_⟩, fun i hi _ => ?_, fun i hi _ => ?_⟩, fun x hx => ?_⟩
  · have := (hF i hi).2.2.2.2.1.2.2; omega
  · have := (hF i hi).2.2.2.2.2.2.2; omega
  · rcases Nat.lt_or_gt_of_ne hij with h | h
    · have := (ha i j h hj).1; omega
    · have := (ha j i h hi).1; omega
  · rcases Nat.lt_or_gt_of_ne hij with h | h
    · have := (ha i j h hj).2; omega
    · have := (ha j i h hi).2; omega
  · exact ins_link (hF i hi).2.2.2.2.1.2.1 (hF j hj).2.2.2.2.2.2.1
  · exact ⟨⟨_, _, (hF i hi).2.2.2.2.1.1, fun _ => rfl⟩, ⟨_, _, (hF i hi).2.2.2.2.2.1, fun _ => rfl⟩⟩
  · exact (hF i hi).2.2.2.2.1.2.1.cells
  · exact (hF i hi).2.2.2.2.2.2.1.cells
  · rcases hx with rfl | ⟨i, hi, ⟨_, rfl⟩ | ⟨_, rfl⟩⟩
    · exact ⟨Nat.le_refl _, .inl rfl⟩
    · have h1 := (hF i hi).2.2.2.2.1.2.2
      exact ⟨by omega, .inr (hN i hi).1⟩
    · have h1 := (hF i hi).2.2.2.2.2.2.2
      exact ⟨by omega, .inr (hN i hi).2⟩

end Go.Proofs.YtkikpcklccdihaaGreatDoor.Vp
