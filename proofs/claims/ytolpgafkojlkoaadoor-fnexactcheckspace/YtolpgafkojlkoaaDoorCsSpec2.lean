/-
  spec: CheckSpace. Written by tools/cs2.py.
-/
import Derived.Test.YtolpgafkojlkoaaDoorCsSpec
namespace Go.Proofs.YtolpgafkojlkoaaDoor.Vp
open Go.RowKit

theorem slS {w : World} {a : Option Addr} {n : Nat} {f : Nat → Source} (h : SlSource w a n f) (hn : n ≠ 0) : ∃ b off, a = some ⟨b, off, none⟩ ∧ RowSource w b off n f := h.resolve_left hn
theorem slT {w : World} {a : Option Addr} {n : Nat} {f : Nat → Target} (h : SlTarget w a n f) (hn : n ≠ 0) : ∃ b off, a = some ⟨b, off, none⟩ ∧ RowTarget w b off n f := h.resolve_left hn

theorem bx2 {w W W' : World} {u v : Value} (z : w.heap.size < W.heap.size) (k0 : W.cell? ⟨w.heap.size, 0, none⟩ = some u) (k1 : W.cell? ⟨w.heap.size, 1, none⟩ = some v) (A : Hid (Below w.heap.size w W)) (hB : Below W.heap.size W W') : W'.cell? ⟨w.heap.size, 0, none⟩ = some u ∧ W'.cell? ⟨w.heap.size, 1, none⟩ = some v ∧ w.heap.size < W'.heap.size ∧ Hid (Below w.heap.size w W') :=
  ⟨(hB.cell (p := ⟨w.heap.size, 0, none⟩) z).trans k0, (hB.cell (p := ⟨w.heap.size, 1, none⟩) z).trans k1, Nat.lt_of_lt_of_le z hB.size, A.trans (hB.mono A.size)⟩
set_option maxHeartbeats 1000000 in
theorem l2Target_nil (a0 : Option Addr) (n0 c0 : Nat) (a1 : Option Addr) (c1 : Nat) (g : Nat → ByteArray) (t : ByteArray) (w : World) :
    Calls Tryd.prog 44 #[.agg #[.slice a0 n0 c0, .slice a1 0 c1], .string t] w fun e w' => ∃ r : Int, e = .returned (.int .i64 r) ∧ decide (0 ≤ r) = isIn g 0 t ∧ Below w.heap.size w w' := by
  have A0 := hide ((Below.refl w.heap.size w).alloc (Nat.le_refl _) (.cells #[.slice a0 n0 c0, .slice a1 0 c1] 46))
  go_enter Tryd.func44, Tryd.ntmps44
  go_wp2
  go_loop [5] (fun i => i = .int .i64 0) (fun _ => 0)
  case atStart => rfl
  case round =>
    subst hrel
    go_wp2
    go_ret
    exact ⟨-1, rfl, by rw [isIn_zero]; rfl, A0⟩
theorem l2Target_any (a0 : Option Addr) (n0 c0 : Nat) (a1 : Option Addr) (n1 c1 : Nat) (f1 : Nat → Target) (t : ByteArray) (w : World) (hn1 : (n1 : Int) ≤ 1048576) (hv1 : SlTarget w a1 n1 f1) :
    Calls Tryd.prog 44 #[.agg #[.slice a0 n0 c0, .slice a1 n1 c1], .string t] w fun e w' => ∃ r : Int, e = .returned (.int .i64 r) ∧ decide (0 ≤ r) = isIn (nm1 f1) n1 t ∧ Below w.heap.size w w' := by
  rcases hv1 with rfl | ⟨b, off, rfl, hr⟩
  · exact l2Target_nil a0 n0 c0 a1 c1 (nm1 f1) t w
  · exact l2Target_row a0 n0 c0 b off n1 c1 f1 t w hn1 hr

set_option maxRecDepth 100000 in
set_option maxHeartbeats 16000000 in
theorem specCheck_any (a0 : Option Addr) (n0 c0 : Nat) (f0 : Nat → Source) (a1 : Option Addr) (n1 c1 : Nat) (f1 : Nat → Target) (w : World) (hn0 : (n0 : Int) ≤ 1048576) (hn1 : (n1 : Int) ≤ 1048576) (hv0 : SlSource w a0 n0 f0) (hv1 : SlTarget w a1 n1 f1) (hfit : ∀ i, i < n1 → FitsTarget (f1 i)) (hs : ∀ i, i < n1 → ∀ j, j < (f1 i).actN → ((f1 i).act j).s.size ≤ maxLen) :
    Calls Tryd.prog 19 #[.agg #[.slice a0 n0 c0, .slice a1 n1 c1]] w fun e w' => e = .returned (.int .i64 (checkC n0 f0 n1 f1)) ∧ Below w.heap.size w w' := by
  have V0 := hide hv0
  have V1 := hide hv1
  have HF := hide hfit
  have HS := hide hs
  clear hv0 hv1 hfit hs
  obtain ⟨C, hC⟩ : ∃ C, C = checkC n0 f0 n1 f1 := ⟨_, rfl⟩
  rw [← hC]
  unfold checkC at hC
  have HC := hide hC
  clear hC
  have A0 := hide ((Below.refl w.heap.size w).alloc (Nat.le_refl _) (.cells #[.slice a0 n0 c0, .slice a1 n1 c1] 46))
  have k00 : (w.alloc (.cells #[.slice a0 n0 c0, .slice a1 n1 c1] 46)).cell? ⟨w.heap.size, 0, none⟩ = some (.slice a0 n0 c0) := by simp
  have k01 : (w.alloc (.cells #[.slice a0 n0 c0, .slice a1 n1 c1] 46)).cell? ⟨w.heap.size, 1, none⟩ = some (.slice a1 n1 c1) := by simp
  have z0 : w.heap.size < (w.alloc (.cells #[.slice a0 n0 c0, .slice a1 n1 c1] 46)).heap.size := by simp
  go_enter Tryd.func19, Tryd.ntmps19
  by_cases h1 : (200 : Int) < n0 + n1
  · have hc := HC.out
    rw [if_pos (by omega)] at hc
    subst hc
    go_wp2
    go_ret
    exact ⟨rfl, A0⟩
  have hc1 := HC.out
  rw [if_neg (by omega)] at hc1
  have HC1 := hide hc1
  clear hc1 HC
  go_wp2
  generalize World.alloc w _ = W0 at A0 k00 k01 z0 ⊢
  go_loopw [5] (fun i wr => ∃ k : Nat, k ≤ n0 ∧ i = .int .i64 k ∧ Hid (namesTo (nm0 f0) k = true) ∧ Below W0.heap.size W0 wr) (fun i _ => n0 - (intOf i).toNat)
  case atStart => exact ⟨0, by omega, rfl, rfl, Below.refl _ _⟩
  case round =>
    obtain ⟨k, hk, rfl, HK, hB⟩ := hrel
    obtain ⟨k10, k11, z1, A1⟩ := bx2 z0 k00 k01 A0 hB
    have HB := hide hB
    clear hB
    by_cases hlt : k < n0
    · obtain ⟨b, off, rfl, hr⟩ := slS V0 (by omega)
      obtain ⟨d0, d1⟩ := (hr.2 k hlt).below A1 hr.1
      clear hr k00 k01
      go_wp2_with fail
      refine (l1NameOk_any _ _).mono ?_
      rintro e w1 ⟨rfl, hB1⟩
      have B1 := hide (HB.trans (hB1.mono HB.size))
      clear hB1
      cases hq : nameOk (f0 k).name with
      | true =>
        have HQ := hide hq
        clear hq
        go_wp2
        exact ⟨⟨k + 1, by omega, by go_num, by show namesTo (nm0 f0) (k + 1) = true; simp [namesTo, HK.out, HQ.out], B1.out⟩, by simp [intOf]; omega⟩
      | false =>
        have HQ := hide hq
        have hc := HC1.out
        rw [if_pos (namesTo_false (g := (nm0 f0)) hlt HQ.out)] at hc
        subst hc
        clear hq
        go_wp2
        go_ret
        exact ⟨rfl, A0.trans (B1.mono A0.size)⟩
    · have e : n0 = k := by omega
      subst e
      have hc := HC1.out
      rw [if_neg (by simp [HK.out])] at hc
      have HC2 := hide hc
      clear hc HC1 HK HB k00 k01
      go_wp2
      generalize wr = W1 at k10 k11 z1 A1 ⊢
      go_loopw [6] (fun i wr => ∃ k : Nat, k ≤ n1 ∧ i = .int .i64 k ∧ Hid (namesTo (nm1 f1) k = true) ∧ Below W1.heap.size W1 wr) (fun i _ => n1 - (intOf i).toNat)
      case atStart => exact ⟨0, by omega, rfl, rfl, Below.refl _ _⟩
      case round =>
        obtain ⟨k, hk, rfl, HK, hB⟩ := hrel
        obtain ⟨k20, k21, z2, A2⟩ := bx2 z1 k10 k11 A1 hB
        have HB := hide hB
        clear hB
        by_cases hlt : k < n1
        · obtain ⟨b, off, rfl, hr⟩ := slT V1 (by omega)
          obtain ⟨d0, ka, kc, d1, _⟩ := (hr.2 k hlt).below A2 (Nat.le_refl _) hr.1
          clear hr k10 k11
          go_wp2_with fail
          refine (l1NameOk_any _ _).mono ?_
          rintro e w1 ⟨rfl, hB1⟩
          have B1 := hide (HB.trans (hB1.mono HB.size))
          clear hB1
          cases hq : nameOk (f1 k).name with
          | true =>
            have HQ := hide hq
            clear hq
            go_wp2
            exact ⟨⟨k + 1, by omega, by go_num, by show namesTo (nm1 f1) (k + 1) = true; simp [namesTo, HK.out, HQ.out], B1.out⟩, by simp [intOf]; omega⟩
          | false =>
            have HQ := hide hq
            have hc := HC2.out
            rw [if_pos (namesTo_false (g := (nm1 f1)) hlt HQ.out)] at hc
            subst hc
            clear hq
            go_wp2
            go_ret
            exact ⟨rfl, A1.trans (B1.mono A1.size)⟩
        · have e : n1 = k := by omega
          subst e
          have hc := HC2.out
          rw [if_neg (by simp [HK.out])] at hc
          have HC3 := hide hc
          clear hc HC2 HK HB k10 k11
          go_wp2
          generalize wr = W2 at k20 k21 z2 A2 ⊢
          go_loopw [7] (fun i wr => ∃ k : Nat, (k + 1 ≤ n0 ∨ k = 0) ∧ i = .int .i64 ((k : Int) + 1) ∧ Hid (ascTo (nm0 f0) (k + 1) = true) ∧ Below W2.heap.size W2 wr) (fun i _ => n0 + 1 - (intOf i).toNat)
          case atStart => exact ⟨0, .inr rfl, rfl, rfl, Below.refl _ _⟩
          case round =>
            obtain ⟨k, hk, rfl, HK, hB⟩ := hrel
            obtain ⟨k30, k31, z3, A3⟩ := bx2 z2 k20 k21 A2 hB
            have HB := hide hB
            clear hB
            by_cases hlt : k + 1 < n0
            · obtain ⟨b, off, rfl, hr⟩ := slS V0 (by omega)
              obtain ⟨d0, d1⟩ := (hr.2 k (by omega)).below A3 hr.1
              obtain ⟨e0, e1⟩ := (hr.2 (k + 1) hlt).below A3 hr.1
              have hlt' : (k : Int) + 1 < n0 := by omega
              clear hr k20 k21
              go_wp2_with fail
              go_quiet (fail)
              have B1 := hide (below_drewN HB nq)
              clear d0 d1 e0 e1
              generalize wr.drewN nq = X at B1 ⊢
              cases hq : Op.bytesLess (f0 k).name.toList (f0 (k + 1)).name.toList with
              | true =>
                have HQ := hide hq
                clear hq
                go_wp2
                exact ⟨⟨k + 1, .inl (by omega), by go_num, by show ascTo (nm0 f0) (k + 2) = true; simp [ascTo, HK.out, HQ.out], B1.out⟩, by simp [intOf]; omega⟩
              | false =>
                have HQ := hide hq
                have hc := HC3.out
                rw [if_pos (ascTo_false (g := (nm0 f0)) hlt HQ.out)] at hc
                subst hc
                clear hq
                go_wp2
                go_ret
                exact ⟨rfl, A2.trans (B1.mono A2.size)⟩
            · have hge : ¬ (k : Int) + 1 < n0 := by omega
              have hc := HC3.out
              rw [if_neg (by simp [ascTo_mono (show n0 ≤ k + 1 by omega) HK.out])] at hc
              have HC4 := hide hc
              clear hc HC3 HK HB k20 k21
              go_wp2
              generalize wr = W3 at k30 k31 z3 A3 ⊢
              go_loopw [8] (fun i wr => ∃ k : Nat, (k + 1 ≤ n1 ∨ k = 0) ∧ i = .int .i64 ((k : Int) + 1) ∧ Hid (ascTo (nm1 f1) (k + 1) = true) ∧ Below W3.heap.size W3 wr) (fun i _ => n1 + 1 - (intOf i).toNat)
              case atStart => exact ⟨0, .inr rfl, rfl, rfl, Below.refl _ _⟩
              case round =>
                obtain ⟨k, hk, rfl, HK, hB⟩ := hrel
                obtain ⟨k40, k41, z4, A4⟩ := bx2 z3 k30 k31 A3 hB
                have HB := hide hB
                clear hB
                by_cases hlt : k + 1 < n1
                · obtain ⟨b, off, rfl, hr⟩ := slT V1 (by omega)
                  obtain ⟨d0, ka, kc, d1, _⟩ := (hr.2 k (by omega)).below A4 (Nat.le_refl _) hr.1
                  obtain ⟨e0, kb, kd, e1, _⟩ := (hr.2 (k + 1) hlt).below A4 (Nat.le_refl _) hr.1
                  have hlt' : (k : Int) + 1 < n1 := by omega
                  clear hr k30 k31
                  go_wp2_with fail
                  go_quiet (fail)
                  have B1 := hide (below_drewN HB nq)
                  clear d0 d1 e0 e1
                  generalize wr.drewN nq = X at B1 ⊢
                  cases hq : Op.bytesLess (f1 k).name.toList (f1 (k + 1)).name.toList with
                  | true =>
                    have HQ := hide hq
                    clear hq
                    go_wp2
                    exact ⟨⟨k + 1, .inl (by omega), by go_num, by show ascTo (nm1 f1) (k + 2) = true; simp [ascTo, HK.out, HQ.out], B1.out⟩, by simp [intOf]; omega⟩
                  | false =>
                    have HQ := hide hq
                    have hc := HC4.out
                    rw [if_pos (ascTo_false (g := (nm1 f1)) hlt HQ.out)] at hc
                    subst hc
                    clear hq
                    go_wp2
                    go_ret
                    exact ⟨rfl, A3.trans (B1.mono A3.size)⟩
                · have hge : ¬ (k : Int) + 1 < n1 := by omega
                  have hc := HC4.out
                  rw [if_neg (by simp [ascTo_mono (show n1 ≤ k + 1 by omega) HK.out])] at hc
                  have HC5 := hide hc
                  clear hc HC4 HK HB k30 k31
                  go_wp2
                  generalize wr = W4 at k40 k41 z4 A4 ⊢
                  go_loopw [9] (fun i wr => ∃ k : Nat, k ≤ n0 ∧ i = .int .i64 k ∧ Hid (anyTo (fun i => isIn (nm1 f1) n1 (nm0 f0 i)) k = false) ∧ Below W4.heap.size W4 wr) (fun i _ => n0 - (intOf i).toNat)
                  case atStart => exact ⟨0, by omega, rfl, rfl, Below.refl _ _⟩
                  case round =>
                    obtain ⟨k, hk, rfl, HK, hB⟩ := hrel
                    obtain ⟨k50, k51, z5, A5⟩ := bx2 z4 k40 k41 A4 hB
                    have HB := hide hB
                    clear hB
                    by_cases hlt : k < n0
                    · obtain ⟨b, off, rfl, hr⟩ := slS V0 (by omega)
                      obtain ⟨d0, d1⟩ := (hr.2 k hlt).below A5 hr.1
                      clear hr k40 k41
                      go_wp2_with fail
                      go_region_with (go_at_call 44; refine (l2Target_any (some ⟨b, off, none⟩) n0 c0 a1 n1 c1 f1 (f0 k).name _ hn1 ?_).mono ?_; (first | exact V1.below A5 (Nat.le_refl _) | exact V1.below A5.drew (Nat.le_refl _)); rintro e w1 ⟨r, rfl, hd, hB1⟩; have HD := hide hd; clear hd; have B1 : Hid (Below wr.heap.size wr w1) := ⟨hB1.os, hB1.tape, hB1.output, hB1.size, hB1.block⟩; clear hB1)
                      all_goals
                        have B2 := hide (HB.trans (B1.mono HB.size))
                        clear d0 d1 B1
                        by_cases hq : 0 ≤ r
                        · have hc := HC5.out
                          rw [if_pos (anyTo_true hlt (by have := HD.out; rw [decide_eq_true hq] at this; exact this.symm))] at hc
                          subst hc
                          go_wp2
                          go_ret
                          exact ⟨rfl, A4.trans (B2.mono A4.size)⟩
                        · have HQ := hide hq
                          go_wp2
                          exact ⟨⟨k + 1, by omega, by go_num, by show anyTo _ (k + 1) = false; have := HD.out; rw [decide_eq_false HQ.out] at this; simp [anyTo, HK.out, ← this], B2.out⟩, by simp [intOf]; omega⟩
                    · have e : n0 = k := by omega
                      subst e
                      have hc := HC5.out
                      rw [if_neg (by simp [HK.out])] at hc
                      have HC6 := hide hc
                      clear hc HC5 HK HB k40 k41
                      go_wp2
                      generalize wr = W5 at k50 k51 z5 A5 ⊢
                      go_loopw [10] (fun i wr => ∃ k : Nat, k ≤ n0 ∧ i = .int .i64 k ∧ Hid (anyTo (fun i => longT (f0 i)) k = false) ∧ Below W5.heap.size W5 wr) (fun i _ => n0 - (intOf i).toNat)
                      case atStart => exact ⟨0, by omega, rfl, rfl, Below.refl _ _⟩
                      case round =>
                        obtain ⟨k, hk, rfl, HK, hB⟩ := hrel
                        obtain ⟨k60, k61, z6, A6⟩ := bx2 z5 k50 k51 A5 hB
                        have HB := hide hB
                        clear hB
                        by_cases hlt : k < n0
                        · obtain ⟨b, off, rfl, hr⟩ := slS V0 (by omega)
                          obtain ⟨d0, d1⟩ := (hr.2 k hlt).below A6 hr.1
                          clear hr k50 k51
                          by_cases hq : (2000 : Int) < (f0 k).text.size
                          · have hc := HC6.out
                            rw [if_pos (anyTo_true hlt (by simpa [longT] using hq))] at hc
                            subst hc
                            go_wp2
                            go_ret
                            exact ⟨rfl, A5.trans (HB.mono A5.size)⟩
                          · have HQ : Hid (longT (f0 k) = false) := decide_eq_false hq
                            go_wp2
                            exact ⟨⟨k + 1, by omega, by go_num, by show anyTo _ (k + 1) = false; simp [anyTo, HK.out, HQ.out], HB.out⟩, by simp [intOf]; omega⟩
                        · have e : n0 = k := by omega
                          subst e
                          have hc := HC6.out
                          rw [if_neg (by simp [HK.out])] at hc
                          have HC7 := hide hc
                          clear hc HC6 HK HB k50 k51
                          go_wp2
                          generalize wr = W6 at k60 k61 z6 A6 ⊢
                          go_loopw [11, 4] (fun i v wr => ∃ (k : Nat) (r : Int), k ≤ n1 ∧ i = .int .i64 k ∧ v = .int .i64 r ∧ Hid (r = if anyTo (fun i => wrongA (f1 i)) k = true then 7 else 0) ∧ Below W6.heap.size W6 wr) (fun i _ _ => n1 - (intOf i).toNat)
                          case atStart => exact ⟨0, 0, by omega, rfl, rfl, rfl, Below.refl _ _⟩
                          case round =>
                            obtain ⟨k, r, hk, rfl, rfl, HK, hB⟩ := hrel
                            obtain ⟨k70, k71, z7, A7⟩ := bx2 z6 k60 k61 A6 hB
                            have HB := hide hB
                            clear hB
                            by_cases hlt : k < n1
                            · obtain ⟨b, off, rfl, hr⟩ := slT V1 (by omega)
                              obtain ⟨d0, ka, kc, d1, hx⟩ := (hr.2 k hlt).below A7 (Nat.le_refl _) hr.1
                              have HX := hide hx
                              clear hr hx k60 k61
                              go_wp2_with fail
                              refine (specValid_sl ka (f1 k).actN kc (f1 k).act _ (HF k hlt) HX (HS k hlt)).mono ?_
                              rintro e w1 ⟨rfl, hB1⟩
                              have B1 := hide (HB.trans (hB1.mono HB.size))
                              clear hB1 d0 d1
                              cases hq : valid (f1 k).act (f1 k).actN with
                              | true =>
                                have HQ := hide hq
                                clear hq
                                have E : Hid (anyTo (fun i => wrongA (f1 i)) (k + 1) = anyTo (fun i => wrongA (f1 i)) k) := by show (anyTo _ k || wrongA (f1 k)) = _; rw [show wrongA (f1 k) = false by unfold wrongA; rw [HQ.out]; rfl, Bool.or_false]
                                go_wp2
                                exact ⟨⟨k + 1, r, by omega, by go_num, rfl, by show r = _; rw [E.out]; exact HK, B1⟩, by simp [intOf]; omega⟩
                              | false =>
                                have HQ := hide hq
                                clear hq
                                have E : Hid (anyTo (fun i => wrongA (f1 i)) (k + 1) = true) := by show (anyTo _ k || wrongA (f1 k)) = _; rw [show wrongA (f1 k) = true by unfold wrongA; rw [HQ.out]; rfl, Bool.or_true]
                                go_wp2
                                exact ⟨⟨k + 1, 7, by omega, by go_num, rfl, by show (7 : Int) = _; rw [if_pos E.out], B1.out⟩, by simp [intOf]; omega⟩
                            · have e : n1 = k := by omega
                              subst e
                              have hc := HC7.out
                              rw [← HK.out] at hc
                              subst hc
                              go_wp2
                              go_ret
                              exact ⟨rfl, A6.trans (HB.mono A6.size)⟩

end Go.Proofs.YtolpgafkojlkoaaDoor.Vp
