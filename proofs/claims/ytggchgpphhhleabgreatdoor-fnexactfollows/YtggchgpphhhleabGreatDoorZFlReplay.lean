/-
  impl: replay.
-/
import Derived.Test.YtggchgpphhhleabGreatDoorZFlBox
namespace Go.Proofs.YtggchgpphhhleabGreatDoor.Vp
open Go.RowKit

set_option maxRecDepth 100000 in
set_option maxHeartbeats 8000000 in
theorem replay_any (bd offd n cap : Nat) (f : Nat → Deed) (p pb po cap0 : Nat) (a1 : Option Addr) (cap1 : Nat) (w : World) (hacc : accOk f n = true) (hp : p < n) (hk : (f p).kind = 3) (hrow : RowDeed w bd offd n f) (hI : RowIns w pb po (f p).actN (f p).act) (hLk : SlLink w a1 (f p).linksN (f p).links) (hT2 : Tab2 w) (hPow : Pow w) :
    Calls Tryz.prog 83 #[.agg #[.slice (some ⟨bd, offd, none⟩) n cap], .agg #[.string (f p).name, .int .i64 (f p).kind, .int .i64 (f p).code, .string (f p).text, .slice (some ⟨pb, po, none⟩) (f p).actN cap0, .slice a1 (f p).linksN cap1]] w fun e w' => e = .returned (.tuple #[(turnK f p (stopAt f p)).v, .int .i64 (((f p).linksN : Int) - (stopAt f p : Int))]) ∧ Below w.heap.size w w' := by
  have hval : valid (f p).act (f p).actN = true ∧ (f p).linksN ≤ 200 := by
    rcases (accOk_deed hacc p hp).2 with h | h | h
    · omega
    · omega
    · exact ⟨h.2.2.2.1, h.2.2.2.2⟩
  obtain ⟨hv, hN⟩ := hval
  have hc2 : (f p).actN ≤ 200 := by have := (valid_parts hv).2.2; omega
  have HOK := hide (valid_parts hv).1
  have HACC := hide hacc
  have HASK := hide (fun j (hj : j < (f p).linksN) (ha : ((f p).links j).ask = true) => (⟨(accOk_ask hacc p hp j hj ha).1, Nat.lt_trans (accOk_ask hacc p hp j hj ha).2.1 hp⟩ : 0 ≤ ((f p).links j).at_ ∧ ((f p).links j).at_.toNat < n))
  have HROW := hide hrow
  have HI := hide hI
  have HLK := hide hLk
  have HT2 := hide hT2
  have HPOW := hide hPow
  have hib := hI.1
  have htb := hT2.1
  have hpwb := hPow.lt
  clear hacc hrow hI hLk hT2 hPow hv hk
  obtain ⟨R1, hR1⟩ : ∃ R1, R1 = turnK f p (stopAt f p) := ⟨_, rfl⟩
  obtain ⟨R2, hR2⟩ : ∃ R2, R2 = stopAt f p := ⟨_, rfl⟩
  rw [← hR1, ← hR2]
  have HR1 := hide hR1
  have HR2 := hide hR2
  clear hR1 hR2
  have AW := hide (show Below w.heap.size w (((w.alloc (.cells #[.slice (some ⟨bd, offd, none⟩) n cap] 29)).alloc (.cells #[.string (f p).name, .int .i64 (f p).kind, .int .i64 (f p).code, .string (f p).text, .slice (some ⟨pb, po, none⟩) (f p).actN cap0, .slice a1 (f p).linksN cap1] 61)).alloc (.cells #[.bool false, .int .i64 0, .string ⟨#[]⟩, .bool false, .string ⟨#[]⟩, .int .i64 0] 137)) from (((Below.refl w.heap.size w).alloc (Nat.le_refl _) (.cells #[.slice (some ⟨bd, offd, none⟩) n cap] 29)).alloc (by simp) (.cells #[.string (f p).name, .int .i64 (f p).kind, .int .i64 (f p).code, .string (f p).text, .slice (some ⟨pb, po, none⟩) (f p).actN cap0, .slice a1 (f p).linksN cap1] 61)).alloc (by simp; omega) (.cells #[.bool false, .int .i64 0, .string ⟨#[]⟩, .bool false, .string ⟨#[]⟩, .int .i64 0] 137))
  have zA : (((w.alloc (.cells #[.slice (some ⟨bd, offd, none⟩) n cap] 29)).alloc (.cells #[.string (f p).name, .int .i64 (f p).kind, .int .i64 (f p).code, .string (f p).text, .slice (some ⟨pb, po, none⟩) (f p).actN cap0, .slice a1 (f p).linksN cap1] 61)).alloc (.cells #[.bool false, .int .i64 0, .string ⟨#[]⟩, .bool false, .string ⟨#[]⟩, .int .i64 0] 137)).heap.size = w.heap.size + 3 := by simp
  have kA : (((w.alloc (.cells #[.slice (some ⟨bd, offd, none⟩) n cap] 29)).alloc (.cells #[.string (f p).name, .int .i64 (f p).kind, .int .i64 (f p).code, .string (f p).text, .slice (some ⟨pb, po, none⟩) (f p).actN cap0, .slice a1 (f p).linksN cap1] 61)).alloc (.cells #[.bool false, .int .i64 0, .string ⟨#[]⟩, .bool false, .string ⟨#[]⟩, .int .i64 0] 137)).cell? ⟨w.heap.size, 0, none⟩ = some (.slice (some ⟨bd, offd, none⟩) n cap) := by simp [go_sem]
  have kD4 : (((w.alloc (.cells #[.slice (some ⟨bd, offd, none⟩) n cap] 29)).alloc (.cells #[.string (f p).name, .int .i64 (f p).kind, .int .i64 (f p).code, .string (f p).text, .slice (some ⟨pb, po, none⟩) (f p).actN cap0, .slice a1 (f p).linksN cap1] 61)).alloc (.cells #[.bool false, .int .i64 0, .string ⟨#[]⟩, .bool false, .string ⟨#[]⟩, .int .i64 0] 137)).cell? ⟨w.heap.size + 1, 4, none⟩ = some (.slice (some ⟨pb, po, none⟩) (f p).actN cap0) := by simp [go_sem]
  have kD5 : (((w.alloc (.cells #[.slice (some ⟨bd, offd, none⟩) n cap] 29)).alloc (.cells #[.string (f p).name, .int .i64 (f p).kind, .int .i64 (f p).code, .string (f p).text, .slice (some ⟨pb, po, none⟩) (f p).actN cap0, .slice a1 (f p).linksN cap1] 61)).alloc (.cells #[.bool false, .int .i64 0, .string ⟨#[]⟩, .bool false, .string ⟨#[]⟩, .int .i64 0] 137)).cell? ⟨w.heap.size + 1, 5, none⟩ = some (.slice a1 (f p).linksN cap1) := by simp [go_sem]
  have XA := hide (by have h := six_new ((w.alloc (.cells #[.slice (some ⟨bd, offd, none⟩) n cap] 29)).alloc (.cells #[.string (f p).name, .int .i64 (f p).kind, .int .i64 (f p).code, .string (f p).text, .slice (some ⟨pb, po, none⟩) (f p).actN cap0, .slice a1 (f p).linksN cap1] 61)) (.bool false) (.int .i64 0) (.string ⟨#[]⟩) (.bool false) (.string ⟨#[]⟩) (.int .i64 0) 137; rw [show ((w.alloc (.cells #[.slice (some ⟨bd, offd, none⟩) n cap] 29)).alloc (.cells #[.string (f p).name, .int .i64 (f p).kind, .int .i64 (f p).code, .string (f p).text, .slice (some ⟨pb, po, none⟩) (f p).actN cap0, .slice a1 (f p).linksN cap1] 61)).heap.size = w.heap.size + 1 + 1 by simp] at h; exact h)
  have S0 : Sim m0 0 0 0 [] := ⟨trivial, rfl, by simp, rfl, rfl, rfl, by simp, by omega, by omega, by omega⟩
  obtain ⟨H0, hG0, hL0, hC0⟩ := goes_all (f := (f p).act) (cnt := (f p).actN) (m := m0) rfl S0
  have HG0 := hide hG0
  have HL0 := hide hL0
  have HC0 := hide hC0
  clear hG0 hL0 hC0 S0
  go_enter Tryz.func83, Tryz.ntmps83
  go_wp2_with fail
  generalize ((w.alloc (.cells #[.slice (some ⟨bd, offd, none⟩) n cap] 29)).alloc (.cells #[.string (f p).name, .int .i64 (f p).kind, .int .i64 (f p).code, .string (f p).text, .slice (some ⟨pb, po, none⟩) (f p).actN cap0, .slice a1 (f p).linksN cap1] 61)).alloc (.cells #[.bool false, .int .i64 0, .string ⟨#[]⟩, .bool false, .string ⟨#[]⟩, .int .i64 0] 137) = WA at AW zA kA kD4 kD5 XA ⊢
  refine (begin_any pb po (f p).actN cap0 _).mono ?_
  rintro e w1 ⟨b, rfl, hb, hM1, hB1⟩
  have HM1 := hide hM1
  have B1 : Hid (Below (w.heap.size + 3) WA w1) := by show Below _ _ _; rw [← zA]; exact hB1
  have hbl : w.heap.size + 3 ≤ b := by omega
  have hb1 : b < w1.heap.size := hM1.lt
  have BW1 := hide (AW.out.trans (B1.out.mono (by omega)))
  clear hM1 hB1 hb
  have HE1 : Hid (Env w1 b pb po (f p).actN (f p).act) := ⟨HI.out.below BW1.out (Nat.le_refl _), HT2.out.below BW1.out htb, HPOW.out.below BW1.out (Nat.le_refl _), by omega, by omega, by omega⟩
  go_wp2_with fail
  refine (goOn_start b pb po (f p).actN cap0 (f p).act m0 H0 ⟨false, 0, ⟨#[]⟩⟩ _ HM1.out HE1.out rfl hc2 HOK.out HG0.out).mono ?_
  rintro e w2 ⟨m1, rfl, hM2, hS2, hO2⟩
  have HM2 := hide hM2
  have HS2 := hide hS2
  have B2 := hide (B1.out.trans (hO2.below hbl (by have := B1.out.size; omega)))
  clear hM2 hS2 hO2 HM1 HE1
  simp only [Turn.v]
  have HM3 := hide (HM2.out.al (.cells #[.bool m1.t.over, .int .i64 m1.t.code, .string m1.t.text, .bool m1.t.ask, .string m1.t.name, .int .i64 m1.t.steps] 137))
  have TB0 := hide (turn_box w2 m1.t 137)
  have B3 := hide (B2.out.alloc (by have := B2.out.size; omega) (.cells #[.bool m1.t.over, .int .i64 m1.t.code, .string m1.t.text, .bool m1.t.ask, .string m1.t.name, .int .i64 m1.t.steps] 137))
  have d5 := (B3.out.cell (p := ⟨w.heap.size + 1, 5, none⟩) (show w.heap.size + 1 < w.heap.size + 3 by omega)).trans kD5
  have hg7 : w.heap.size + 3 ≤ w2.heap.size := by have := B2.out.size; omega
  have hbg : b < w2.heap.size := HM2.out.lt
  go_wp2
  clear d5 HM2 B2
  generalize w2.alloc (.cells #[.bool m1.t.over, .int .i64 m1.t.code, .string m1.t.text, .bool m1.t.ask, .string m1.t.name, .int .i64 m1.t.steps] 137) = W3 at HM3 TB0 B3 ⊢
  generalize w2.heap.size = g7 at TB0 hg7 hbg ⊢
  go_loopw [19] (fun i wr => ∃ (k : Nat) (m' : Mst) (H : Halt), k ≤ (f p).linksN ∧ i = .int .i64 k ∧ Hid (MAt wr b (.slice (some ⟨pb, po, none⟩) (f p).actN cap0) m') ∧ Hid (TurnBox wr g7 m'.t) ∧ Hid (Stands m' H) ∧ Hid (looksOf k H) ∧ Hid (∀ n, k ≤ n → contP (f p).act (f p).actN (yOf f p) n H = nextP (f p).act (f p).actN (yOf f p) n 2001 0 0 0 []) ∧ Hid (stopK f p ((f p).linksN - k) k = stopAt f p) ∧ Hid (Below (w.heap.size + 3) WA wr)) (fun i _ => (f p).linksN - (intOf i).toNat)
  case atStart => exact ⟨0, m1, H0, by omega, rfl, HM3.out, TB0.out, HS2.out, HL0.out, fun n _ => HC0.out (yOf f p) n, rfl, B3.out⟩
  case round =>
    obtain ⟨k, m', H, hkN, rfl, HM, TB, HS, HL, HC, HSK, BW⟩ := hrel
    have BWW := hide (AW.out.trans (BW.out.mono (by omega)))
    have HTK : Hid (m'.t = turnK f p k) := by show _ = _; rw [← stands_turn (f := (f p).act) (cnt := (f p).actN) (y := yOf f p) HS.out HL.out]; exact HC.out k (Nat.le_refl _)
    by_cases hlt : k < (f p).linksN
    · obtain ⟨bl, offl, rfl, hrl⟩ := (HLK.out.below BWW.out (Nat.le_refl _)).resolve_left (by omega)
      obtain ⟨r0, r1, r2, r3⟩ := hrl.2 k hlt
      obtain ⟨l, hl⟩ : ∃ l, (f p).links k = l := ⟨_, rfl⟩
      rw [hl] at r0 r1 r2 r3
      obtain ⟨nm, ask, hs, at_⟩ := l
      dsimp only at r0 r1 r2 r3
      have HLL := hide hl
      clear hrl hl
      obtain ⟨j0, hj0⟩ : ∃ j0, (f p).linksN - k = j0 + 1 := ⟨(f p).linksN - k - 1, by omega⟩
      have CL := hide (BW.out.alloc (by have := BW.out.size; omega) (.cells #[.string nm, .bool ask, .bool hs, .int .i64 at_] 84))
      have TL := hide (TB.out.below ((Below.refl wr.heap.size wr).alloc (Nat.le_refl _) (.cells #[.string nm, .bool ask, .bool hs, .int .i64 at_] 84)) TB.out.1)
      have ML := hide (HM.out.al (.cells #[.string nm, .bool ask, .bool hs, .int .i64 at_] 84))
      obtain ⟨tl, ⟨t0, t1, t2, t3, t4, t5⟩, tz⟩ := TL.out
      clear tz
      cases ho : m'.t.over with
      | true =>
        rw [ho] at t0
        have HOFF : Hid (offK f p k = true) := by show _ = _; unfold offK; rw [← HTK.out, HLL.out]; rw [ho]; rfl
        have HST : Hid (R2 = k) := by show _ = _; rw [HR2.out, ← HSK.out, hj0, stopK_at HOFF.out]
        have HRT : Hid (R1 = m'.t) := by show _ = _; rw [HR1.out, ← HR2.out, HST.out, HTK.out]
        have d5 := (CL.out.cell (p := ⟨w.heap.size + 1, 5, none⟩) (show w.heap.size + 1 < w.heap.size + 3 by omega)).trans kD5
        have CW := hide (AW.out.trans (CL.out.mono (by omega)))
        have SX := hide (XA.out.below CL.out (by omega))
        have hx := SX.out.1
        obtain ⟨v0, q0, y0⟩ := SX.out.2 0 (by omega)
        obtain ⟨v1, q1, y1⟩ := SX.out.2 1 (by omega)
        obtain ⟨v2, q2, y2⟩ := SX.out.2 2 (by omega)
        obtain ⟨v3, q3, y3⟩ := SX.out.2 3 (by omega)
        obtain ⟨v4, q4, y4⟩ := SX.out.2 4 (by omega)
        obtain ⟨v5, q5, y5⟩ := SX.out.2 5 (by omega)
        go_wp2_with fail
        go_region
        all_goals
          go_wp2
          exact bodyPost_ret (v := .tuple #[R1.v, .int .i64 (((f p).linksN : Int) - (R2 : Int))]) (by rw [HRT.out, HST.out]; simp [results, Tryz.results83, go_sem, Turn.v, ho, q0, q1, q2, q3, q4, q5]) rfl ⟨rfl, (six_set CW.out (by omega) _ _ _ _ _ _).drew⟩
      | false =>
        rw [ho] at t0
        cases hn : (m'.t.name.toList == nm.toList) with
        | false =>
          have HOFF : Hid (offK f p k = true) := by show _ = _; unfold offK; rw [← HTK.out, HLL.out]; simp [ho, hn]
          have HST : Hid (R2 = k) := by show _ = _; rw [HR2.out, ← HSK.out, hj0, stopK_at HOFF.out]
          have HRT : Hid (R1 = m'.t) := by show _ = _; rw [HR1.out, ← HR2.out, HST.out, HTK.out]
          have d5 := (CL.out.cell (p := ⟨w.heap.size + 1, 5, none⟩) (show w.heap.size + 1 < w.heap.size + 3 by omega)).trans kD5
          have CW := hide (AW.out.trans (CL.out.mono (by omega)))
          have SX := hide (XA.out.below CL.out (by omega))
          have hx := SX.out.1
          obtain ⟨v0, q0, y0⟩ := SX.out.2 0 (by omega)
          obtain ⟨v1, q1, y1⟩ := SX.out.2 1 (by omega)
          obtain ⟨v2, q2, y2⟩ := SX.out.2 2 (by omega)
          obtain ⟨v3, q3, y3⟩ := SX.out.2 3 (by omega)
          obtain ⟨v4, q4, y4⟩ := SX.out.2 4 (by omega)
          obtain ⟨v5, q5, y5⟩ := SX.out.2 5 (by omega)
          go_wp2_with fail
          go_region
          all_goals
            go_wp2
            exact bodyPost_ret (v := .tuple #[R1.v, .int .i64 (((f p).linksN : Int) - (R2 : Int))]) (by rw [HRT.out, HST.out]; simp [results, Tryz.results83, go_sem, Turn.v, ho, q0, q1, q2, q3, q4, q5]) rfl ⟨rfl, (six_set CW.out (by omega) _ _ _ _ _ _).drew⟩
        | true =>
          cases hak : m'.t.ask with
          | true =>
            rw [hak] at t3
            cases ask with
            | true =>
              have HOFF : Hid (offK f p k = false) := by show _ = _; unfold offK; rw [← HTK.out, HLL.out]; simp [ho, hn, hak]
              obtain ⟨a, nm2, s2, pp, st, l, rfl⟩ := stands_look HS.out ho
              have el : l = k + 1 := HL.out
              subst el
              have kA2 := (CL.out.cell (p := ⟨w.heap.size, 0, none⟩) (show w.heap.size < w.heap.size + 3 by omega)).trans kA
              have CW := hide (AW.out.trans (CL.out.mono (by omega)))
              have HY : Hid (ansR f ⟨nm, true, hs, at_⟩ = yOf f p k) := by show _ = _; unfold yOf; rw [HLL.out]
              have HRO := hide (ansR_ok (l := ⟨nm, true, hs, at_⟩) HACC.out (fun ha => by have := HASK.out k hlt (by rw [HLL.out]); rw [HLL.out] at this; exact this.2))
              have HSZ : Hid ((ansR f ⟨nm, true, hs, at_⟩).text.size ≤ 2000) := by have := HRO.out; simp only [replyOk, decide_eq_true_eq] at this; exact this.1
              have HAT : Hid (0 ≤ at_ ∧ at_.toNat < n) := by have := HASK.out k hlt (by rw [HLL.out]); rw [HLL.out] at this; exact this
              go_wp2_with fail
              clear t0 t1 t2 t3 t4 t5 r0 r1 r2 r3
              generalize wr.alloc (.cells #[.string nm, .bool true, .bool hs, .int .i64 at_] 84) = WL at CL TL ML CW kA2 tl ⊢
              refine (replyOf_any bd offd n cap f ⟨nm, true, hs, at_⟩ _ HACC.out (HROW.out.below CW.out (Nat.le_refl _)) (fun _ => HAT.out)).mono ?_
              rintro e w4 ⟨rfl, hB4⟩
              have hlb : b < WL.heap.size := ML.out.lt
              have M4 := hide (ML.out.below hB4 hlb)
              have T4 := hide (TL.out.below hB4 tl)
              have B4 := hide (CL.out.trans (hB4.mono (by have := CL.out.size; omega)))
              have BW4 := hide (AW.out.trans (B4.out.mono (by omega)))
              have HE4 : Hid (Env w4 b pb po (f p).actN (f p).act) := ⟨HI.out.below BW4.out (Nat.le_refl _), HT2.out.below BW4.out htb, HPOW.out.below BW4.out (Nat.le_refl _), by omega, by omega, by omega⟩
              clear hB4 kA2
              go_wp2_with fail
              refine (goOn_look b pb po (f p).actN cap0 (f p).act m' a nm2 s2 pp st (k + 1) (ansR f ⟨nm, true, hs, at_⟩) _ M4.out HE4.out HS.out (by omega) HSZ.out hc2 HOK.out).mono ?_
              rintro e w5 ⟨m2, H2, rfl, hM5, hS5, hL5, hC5, hO5⟩
              have hgb : g7 ≠ b := by omega
              have T5 := hide (T4.out.only hO5 hgb)
              have M5 := hide (hM5.boxed hgb m2.t)
              have X5 := hide (set_box m2.t T5.out)
              have B5 := hide (B4.out.trans (hO5.below hbl (by have := B4.out.size; omega)))
              have B6 := hide (B5.out.trans ((set_only (w := w5) (g := g7) m2.t).below hg7 (by have := B5.out.size; omega)))
              have HS5 := hide hS5
              have HL5 := hide hL5
              have HC5 : Hid (∀ n, k + 1 ≤ n → contP (f p).act (f p).actN (yOf f p) n H2 = nextP (f p).act (f p).actN (yOf f p) n 2001 0 0 0 []) := fun n hn => (hC5 (yOf f p) n hn (by rw [Nat.add_sub_cancel]; exact HY.out.symm)).symm.trans (HC.out n (by omega))
              have HK5 : Hid (stopK f p ((f p).linksN - (k + 1)) (k + 1) = stopAt f p) := by show _ = _; rw [← HSK.out, hj0, stopK_go HOFF.out, show (f p).linksN - (k + 1) = j0 by omega]
              obtain ⟨ul, ⟨u0, u1, u2, u3, u4, u5⟩, uz⟩ := T5.out
              have z0 := uz 0
              have z1 := uz 1
              have z2 := uz 2
              have z3 := uz 3
              have z4 := uz 4
              have z5 := uz 5
              clear hM5 hS5 hL5 hC5 hO5 M4 T4 uz
              simp only [Turn.v]
              go_wp2
              exact ⟨⟨k + 1, m2, H2, by omega, by go_num, M5.out, X5.out, HS5.out, HL5.out, HC5.out, HK5.out, B6.out⟩, by simp [intOf]; omega⟩
            | false =>
              have HOFF : Hid (offK f p k = true) := by show _ = _; unfold offK; rw [← HTK.out, HLL.out]; simp [ho, hn, hak]
              have HST : Hid (R2 = k) := by show _ = _; rw [HR2.out, ← HSK.out, hj0, stopK_at HOFF.out]
              have HRT : Hid (R1 = m'.t) := by show _ = _; rw [HR1.out, ← HR2.out, HST.out, HTK.out]
              have d5 := (CL.out.cell (p := ⟨w.heap.size + 1, 5, none⟩) (show w.heap.size + 1 < w.heap.size + 3 by omega)).trans kD5
              have CW := hide (AW.out.trans (CL.out.mono (by omega)))
              have SX := hide (XA.out.below CL.out (by omega))
              have hx := SX.out.1
              obtain ⟨v0, q0, y0⟩ := SX.out.2 0 (by omega)
              obtain ⟨v1, q1, y1⟩ := SX.out.2 1 (by omega)
              obtain ⟨v2, q2, y2⟩ := SX.out.2 2 (by omega)
              obtain ⟨v3, q3, y3⟩ := SX.out.2 3 (by omega)
              obtain ⟨v4, q4, y4⟩ := SX.out.2 4 (by omega)
              obtain ⟨v5, q5, y5⟩ := SX.out.2 5 (by omega)
              go_wp2_with fail
              go_region
              all_goals
                go_wp2
                exact bodyPost_ret (v := .tuple #[R1.v, .int .i64 (((f p).linksN : Int) - (R2 : Int))]) (by rw [HRT.out, HST.out]; simp [results, Tryz.results83, go_sem, Turn.v, ho, hak, q0, q1, q2, q3, q4, q5]) rfl ⟨rfl, (six_set CW.out (by omega) _ _ _ _ _ _).drew⟩
          | false =>
            rw [hak] at t3
            cases ask with
            | true =>
              have HOFF : Hid (offK f p k = true) := by show _ = _; unfold offK; rw [← HTK.out, HLL.out]; simp [ho, hn, hak]
              have HST : Hid (R2 = k) := by show _ = _; rw [HR2.out, ← HSK.out, hj0, stopK_at HOFF.out]
              have HRT : Hid (R1 = m'.t) := by show _ = _; rw [HR1.out, ← HR2.out, HST.out, HTK.out]
              have d5 := (CL.out.cell (p := ⟨w.heap.size + 1, 5, none⟩) (show w.heap.size + 1 < w.heap.size + 3 by omega)).trans kD5
              have CW := hide (AW.out.trans (CL.out.mono (by omega)))
              have SX := hide (XA.out.below CL.out (by omega))
              have hx := SX.out.1
              obtain ⟨v0, q0, y0⟩ := SX.out.2 0 (by omega)
              obtain ⟨v1, q1, y1⟩ := SX.out.2 1 (by omega)
              obtain ⟨v2, q2, y2⟩ := SX.out.2 2 (by omega)
              obtain ⟨v3, q3, y3⟩ := SX.out.2 3 (by omega)
              obtain ⟨v4, q4, y4⟩ := SX.out.2 4 (by omega)
              obtain ⟨v5, q5, y5⟩ := SX.out.2 5 (by omega)
              go_wp2_with fail
              go_region
              all_goals
                go_wp2
                exact bodyPost_ret (v := .tuple #[R1.v, .int .i64 (((f p).linksN : Int) - (R2 : Int))]) (by rw [HRT.out, HST.out]; simp [results, Tryz.results83, go_sem, Turn.v, ho, hak, q0, q1, q2, q3, q4, q5]) rfl ⟨rfl, (six_set CW.out (by omega) _ _ _ _ _ _).drew⟩
            | false =>
              have HOFF : Hid (offK f p k = false) := by show _ = _; unfold offK; rw [← HTK.out, HLL.out]; simp [ho, hn, hak]
              obtain ⟨a, nm2, s2, pp, st, l, rfl⟩ := stands_look HS.out ho
              have el : l = k + 1 := HL.out
              subst el
              have kA2 := (CL.out.cell (p := ⟨w.heap.size, 0, none⟩) (show w.heap.size < w.heap.size + 3 by omega)).trans kA
              have CW := hide (AW.out.trans (CL.out.mono (by omega)))
              have HY : Hid (ansR f ⟨nm, false, hs, at_⟩ = yOf f p k) := by show _ = _; unfold yOf; rw [HLL.out]
              have HRO := hide (ansR_ok (l := ⟨nm, false, hs, at_⟩) HACC.out (fun ha => by have := HASK.out k hlt (by rw [HLL.out]; exact ha); rw [HLL.out] at this; exact this.2))
              have HSZ : Hid ((ansR f ⟨nm, false, hs, at_⟩).text.size ≤ 2000) := by have := HRO.out; simp only [replyOk, decide_eq_true_eq] at this; exact this.1
              go_wp2_with fail
              clear t0 t1 t2 t3 t4 t5 r0 r1 r2 r3
              generalize wr.alloc (.cells #[.string nm, .bool false, .bool hs, .int .i64 at_] 84) = WL at CL TL ML CW kA2 tl ⊢
              refine (replyOf_any bd offd n cap f ⟨nm, false, hs, at_⟩ _ HACC.out (HROW.out.below CW.out (Nat.le_refl _)) (fun h => by cases h)).mono ?_
              rintro e w4 ⟨rfl, hB4⟩
              have hlb : b < WL.heap.size := ML.out.lt
              have M4 := hide (ML.out.below hB4 hlb)
              have T4 := hide (TL.out.below hB4 tl)
              have B4 := hide (CL.out.trans (hB4.mono (by have := CL.out.size; omega)))
              have BW4 := hide (AW.out.trans (B4.out.mono (by omega)))
              have HE4 : Hid (Env w4 b pb po (f p).actN (f p).act) := ⟨HI.out.below BW4.out (Nat.le_refl _), HT2.out.below BW4.out htb, HPOW.out.below BW4.out (Nat.le_refl _), by omega, by omega, by omega⟩
              clear hB4 kA2
              go_wp2_with fail
              refine (goOn_look b pb po (f p).actN cap0 (f p).act m' a nm2 s2 pp st (k + 1) (ansR f ⟨nm, false, hs, at_⟩) _ M4.out HE4.out HS.out (by omega) HSZ.out hc2 HOK.out).mono ?_
              rintro e w5 ⟨m2, H2, rfl, hM5, hS5, hL5, hC5, hO5⟩
              have hgb : g7 ≠ b := by omega
              have T5 := hide (T4.out.only hO5 hgb)
              have M5 := hide (hM5.boxed hgb m2.t)
              have X5 := hide (set_box m2.t T5.out)
              have B5 := hide (B4.out.trans (hO5.below hbl (by have := B4.out.size; omega)))
              have B6 := hide (B5.out.trans ((set_only (w := w5) (g := g7) m2.t).below hg7 (by have := B5.out.size; omega)))
              have HS5 := hide hS5
              have HL5 := hide hL5
              have HC5 : Hid (∀ n, k + 1 ≤ n → contP (f p).act (f p).actN (yOf f p) n H2 = nextP (f p).act (f p).actN (yOf f p) n 2001 0 0 0 []) := fun n hn => (hC5 (yOf f p) n hn (by rw [Nat.add_sub_cancel]; exact HY.out.symm)).symm.trans (HC.out n (by omega))
              have HK5 : Hid (stopK f p ((f p).linksN - (k + 1)) (k + 1) = stopAt f p) := by show _ = _; rw [← HSK.out, hj0, stopK_go HOFF.out, show (f p).linksN - (k + 1) = j0 by omega]
              obtain ⟨ul, ⟨u0, u1, u2, u3, u4, u5⟩, uz⟩ := T5.out
              have z0 := uz 0
              have z1 := uz 1
              have z2 := uz 2
              have z3 := uz 3
              have z4 := uz 4
              have z5 := uz 5
              clear hM5 hS5 hL5 hC5 hO5 M4 T4 uz
              simp only [Turn.v]
              go_wp2
              exact ⟨⟨k + 1, m2, H2, by omega, by go_num, M5.out, X5.out, HS5.out, HL5.out, HC5.out, HK5.out, B6.out⟩, by simp [intOf]; omega⟩
    · obtain rfl : k = (f p).linksN := by omega
      have HST : Hid (R2 = (f p).linksN) := by show _ = _; rw [HR2.out, ← HSK.out, Nat.sub_self]; rfl
      have HRT : Hid (R1 = m'.t) := by show _ = _; rw [HR1.out, ← HR2.out, HST.out, HTK.out]
      obtain ⟨tl, ⟨t0, t1, t2, t3, t4, t5⟩, tz⟩ := TB.out
      have SX := hide (XA.out.below BW.out (by omega))
      have hx := SX.out.1
      obtain ⟨v0, q0, y0⟩ := SX.out.2 0 (by omega)
      obtain ⟨v1, q1, y1⟩ := SX.out.2 1 (by omega)
      obtain ⟨v2, q2, y2⟩ := SX.out.2 2 (by omega)
      obtain ⟨v3, q3, y3⟩ := SX.out.2 3 (by omega)
      obtain ⟨v4, q4, y4⟩ := SX.out.2 4 (by omega)
      obtain ⟨v5, q5, y5⟩ := SX.out.2 5 (by omega)
      clear tz
      go_wp2
      exact bodyPost_ret (v := .tuple #[R1.v, .int .i64 (((f p).linksN : Int) - (R2 : Int))]) (by rw [HRT.out, HST.out]; simp [results, Tryz.results83, go_sem, Turn.v, q0, q1, q2, q3, q4, q5]) rfl ⟨rfl, by first | exact six_set BWW.out (by omega) _ _ _ _ _ _ | exact six_set BWW.out.drew (by omega) _ _ _ _ _ _⟩

end Go.Proofs.YtggchgpphhhleabGreatDoor.Vp
