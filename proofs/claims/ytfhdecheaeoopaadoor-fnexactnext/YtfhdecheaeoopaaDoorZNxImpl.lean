/-
  impl: Next.
-/
import Derived.Test.YtfhdecheaeoopaaDoorZJ
import Derived.Test.YtfhdecheaeoopaaDoorZNxRep
namespace Go.Proofs.YtfhdecheaeoopaaDoor.Vp
open Go.RowKit

set_option maxHeartbeats 4000000 in
theorem implNext_go (pb po cnt cap b2 o2 n cap2 : Nat) (f : Nat → Ins) (y : Nat → Reply) (w : World) (hv : valid f cnt = true) (hn2 : (n : Int) ≤ 200) (hr : repliesTo y n = true) (hP : RowIns w pb po cnt f) (hY : RowReply w b2 o2 n y) (hT : Tab w) (hT2 : Tab2 w) (hPow : Pow w) :
    Calls Tryd.prog 9 #[.agg #[.slice (some ⟨pb, po, none⟩) cnt cap], .slice (some ⟨b2, o2, none⟩) n cap2] w fun e w' => e = .returned (nextP f cnt y n 2001 0 0 0 []).v ∧ Below w.heap.size w w' := by
  have hc2 : cnt ≤ 200 := by have := (valid_parts hv).2.2; omega
  have IV := fun w' h1 h2 h3 => implValid_any pb po cnt cap f w' (by omega) h1 h2 h3
  rw [hv] at IV
  have VR := fun w' h => validReplies_row b2 o2 n cap2 y w' hn2 h
  rw [hr] at VR
  have HIV := hide IV
  have HVR := hide VR
  clear IV VR
  have HP := hide hP
  have HY := hide hY
  have HT := hide hT
  have HT2 := hide hT2
  have HPow := hide hPow
  have HV := hide (valid_parts hv).1
  have HR := hide hr
  clear hP hY hT hT2 hPow hv hr
  obtain ⟨T, hTT⟩ : ∃ T, T = nextP f cnt y n 2001 0 0 0 [] := ⟨_, rfl⟩
  rw [← hTT]
  have HTT := hide hTT
  clear hTT
  have A0 := hide ((((Below.refl w.heap.size w).alloc (Nat.le_refl _) (.cells #[.slice (some ⟨pb, po, none⟩) cnt cap] 33))).alloc (by simp) (.cells #[.bool false, .int .i64 0, .string ⟨#[]⟩, .bool false, .string ⟨#[]⟩, .int .i64 0] 29))
  have hx0 := six_new (w.alloc (.cells #[.slice (some ⟨pb, po, none⟩) cnt cap] 33)) (.bool false) (.int .i64 0) (.string ⟨#[]⟩) (.bool false) (.string ⟨#[]⟩) (.int .i64 0) 29
  rw [show (w.alloc (.cells #[.slice (some ⟨pb, po, none⟩) cnt cap] 33)).heap.size = w.heap.size + 1 by simp] at hx0
  have X0 := hide hx0
  clear hx0
  go_enter Tryd.func9, Tryd.ntmps9
  go_wp2_with fail
  have P1 := hide (HP.out.below A0.out (Nat.le_refl _))
  refine (HIV.out _ P1.out.1 P1.out.2 (HT.out.below A0.out HT.out.1)).mono ?_
  rintro e w1 ⟨rfl, hB1⟩
  have c1 : w1.cell? ⟨w.heap.size, 0, none⟩ = some (.slice (some ⟨pb, po, none⟩) cnt cap) := (hB1.cell (p := ⟨w.heap.size, 0, none⟩) (by simp; omega)).trans (by simp)
  have X1 := hide (X0.out.below hB1 (by simp))
  have B1 := hide (A0.out.trans (hB1.mono (by simp; omega)))
  have z1 : w.heap.size + 1 < w1.heap.size := X1.out.1
  clear hB1 A0 X0 P1
  go_wp2_with fail
  refine (HVR.out _ (HY.out.below B1.out (Nat.le_refl _))).mono ?_
  rintro e w2 ⟨rfl, hB2⟩
  have c2 : w2.cell? ⟨w.heap.size, 0, none⟩ = some (.slice (some ⟨pb, po, none⟩) cnt cap) := (hB2.cell (p := ⟨w.heap.size, 0, none⟩) (by simp; omega)).trans c1
  have X2 := hide (X1.out.below hB2 z1)
  have B2 := hide (B1.out.trans (hB2.mono B1.out.size))
  have z2 : w.heap.size + 1 < w2.heap.size := X2.out.1
  clear hB2 X1 B1 c1 z1
  have HM0 := hide (mach0_is w2 (some ⟨pb, po, none⟩) cnt cap)
  have A2 := hide ((Below.refl w2.heap.size w2).alloc (Nat.le_refl _) (.cells (mach0 (.slice (some ⟨pb, po, none⟩) cnt cap)) 58))
  have B3 := hide (B2.out.trans (A2.out.mono B2.out.size))
  have X3 := hide (X2.out.below A2.out z2)
  have hb0 : w2.heap.size < (w2.alloc (.cells (mach0 (.slice (some ⟨pb, po, none⟩) cnt cap)) 58)).heap.size := by simp
  have hwb : w.heap.size ≤ w2.heap.size := B2.out.size
  go_wp2_with (first
    | (refine build_is rfl 58 #[(1, .tmp 19)] rfl [(1, .slice (some ⟨pb, po, none⟩) cnt cap)] (mach0 (.slice (some ⟨pb, po, none⟩) cnt cap)) (by simp [Act.eval]) (built0 _ _ _) ?_)
    | (refine wpList_store_row rfl 58 (.tmp 5) (.tmp 20) rfl w2.heap.size (mach0 (.slice (some ⟨pb, po, none⟩) cnt cap)) rfl rfl _ _ (heap_alloc_last _ _) (infoM.trans (by rw [mach0_size])) (by rw [mach0_size]; rfl) (mach0_one _ _ _) ?_; rw [World.setRow_alloc_new])
    | fail)
  clear c2 A2 X2 B2
  generalize w2.alloc (.cells (mach0 (.slice (some ⟨pb, po, none⟩) cnt cap)) 58) = W0 at HM0 B3 X3 hb0 ⊢
  generalize w2.heap.size = b at HM0 z2 hb0 hwb ⊢
  have HE0 : Hid (Env W0 b pb po cnt f) := ⟨HP.out.below B3.out (Nat.le_refl _), HT2.out.below B3.out HT2.out.1, HPow.out.below B3.out (Nat.le_refl _), Nat.lt_of_lt_of_le HP.out.1 hwb, Nat.lt_of_lt_of_le HT2.out.1 hwb, Nat.lt_of_lt_of_le HPow.out.lt hwb⟩
  have HY0 := hide (HY.out.below B3.out (Nat.le_refl _))
  have hyb : b2 < b := Nat.lt_of_lt_of_le HY.out.1 hwb
  have S0 : Sim m0 0 0 0 [] := ⟨trivial, rfl, by simp, rfl, rfl, rfl, by simp, by omega, by omega, by omega⟩
  obtain ⟨H0, hG0, hC0, hL0⟩ := goes_of (f := f) (cnt := cnt) (y := y) (n := n) (m := m0) rfl S0
  rw [← HTT.out] at hC0
  have HG0 := hide hG0
  have HC0 := hide hC0
  have HL0 := hide hL0
  clear hG0 hC0 hL0 S0 HTT HP HY HT HT2 HPow HIV HVR
  go_loopw [23] (fun i wr => ∃ k : Nat, k ≤ n ∧ i = .int .i64 k ∧ ∃ m' H, MAt wr b (.slice (some ⟨pb, po, none⟩) cnt cap) m' ∧ Only b W0 wr ∧ Goes f cnt m' H ∧ contP f cnt y n H = T ∧ looksOf k H) (fun i _ => n - (intOf i).toNat)
  case atStart => exact ⟨0, by omega, rfl, m0, H0, HM0.out, Only.refl _ _, HG0.out, HC0.out, HL0.out⟩
  case round =>
    obtain ⟨k, hk, rfl, m', H, hM, hO, hG, hC, hL⟩ := hrel
    have HM := hide hM
    have HO := hide hO
    have HG := hide hG
    have HC := hide hC
    have HL := hide hL
    have hbr : b < wr.heap.size := hM.lt
    clear hM hO hG hC hL
    by_cases hlt : k < n
    · obtain ⟨d0, d1, d2⟩ := (HY0.out.2 k hlt).below (HO.out.below (Nat.le_refl _) (Nat.le_of_lt hb0)) hyb
      have HM1 := hide (HM.out.al (.cells #[.bool (y k).has, .int .i64 (y k).code, .string (y k).text] 46))
      have HO1 := hide (HO.out.al (.cells #[.bool (y k).has, .int .i64 (y k).code, .string (y k).text] 46))
      go_wp2_with fail
      refine (run_all b pb po cnt cap f m' H _ HM1.out (HE0.out.only hb0 HO1.out) hc2 HV.out HG.out).mono ?_
      rintro e w3 ⟨m2, rfl, hM2, hSt, hO2⟩
      have r0 : w3.cell? ⟨wr.heap.size, 0, none⟩ = some (.bool (y k).has) := (hO2.cell wr.heap.size 0 (by simp) (by omega)).trans (by simp)
      have r1 : w3.cell? ⟨wr.heap.size, 1, none⟩ = some (.int .i64 (y k).code) := (hO2.cell wr.heap.size 1 (by simp) (by omega)).trans (by simp)
      have r2 : w3.cell? ⟨wr.heap.size, 2, none⟩ = some (.string (y k).text) := (hO2.cell wr.heap.size 2 (by simp) (by omega)).trans (by simp)
      have HM2 := hide hM2
      have HO3 := hide (HO1.out.trans hO2)
      have hz3 : wr.heap.size < w3.heap.size := by have := hO2.size; simp at this; omega
      have HX := hide (X3.out.only HO3.out (by omega))
      have hx3 : w.heap.size + 1 < w3.heap.size := HX.out.1
      have HB3 := hide (B3.out.trans (HO3.out.below hwb (Nat.le_trans hwb (Nat.le_of_lt hb0))))
      clear hM2 hO2 HM1 HO1 d0 d1 d2 HM
      rcases H with ⟨c, x, st⟩ | ⟨a, nm, s, p, st, l⟩
      · have ht : m2.t = endT c x st := hSt
        have eT : T = endT c x st := HC.out.symm
        rw [ht]
        have ET := hide eT
        clear hSt ht eT
        simp only [Turn.v, endT]
        obtain ⟨v0, q0, y0⟩ := HX.out.2 0 (by omega)
        obtain ⟨v1, q1, y1⟩ := HX.out.2 1 (by omega)
        obtain ⟨v2, q2, y2⟩ := HX.out.2 2 (by omega)
        obtain ⟨v3, q3, y3⟩ := HX.out.2 3 (by omega)
        obtain ⟨v4, q4, y4⟩ := HX.out.2 4 (by omega)
        obtain ⟨v5, q5, y5⟩ := HX.out.2 5 (by omega)
        go_wp2
        refine bodyPost_ret (v := T.v) (by rw [ET.out]; simp [results, Tryd.results9, go_sem, Turn.v, endT, hx3, q0, q1, q2, q3, q4, q5]) rfl ⟨rfl, (six_set HB3.out (by omega) _ _ _ _ _ _).alloc (six_set HB3.out (by omega) _ _ _ _ _ _).size _⟩
      · obtain ⟨ht, hS, hnm, hl⟩ := hSt
        have el : l = k + 1 := HL.out
        subst el
        have ha : m2.t.ask = a := by rw [ht]
        have hnm2 : m2.t.name = nm := by rw [ht]
        have hs : m2.size < 50 := by rw [hS.size]; exact hl
        have HS := hide hS
        have hC := HC.out
        simp only [contP, Nat.add_sub_cancel] at hC
        rw [if_neg (by omega)] at hC
        have hrk := reply_at HR.out hlt
        rw [ht]
        clear hnm hS ht
        simp only [Turn.v]
        cases a with
        | false =>
          rw [if_pos rfl] at hC
          have hCH := hide hC
          clear hC
          go_wp2_with fail
          refine (answer_has b (.slice (some ⟨pb, po, none⟩) cnt cap) m2 (y k).has (y k).code (y k).text _ (HM2.out.al _) ha hs).mono ?_
          rintro e w4 ⟨rfl, hM4, hO4⟩
          have HM4 := hide hM4
          have HO4 := hide ((HO3.out.al _).trans hO4)
          clear hM4 hO4
          obtain ⟨H', g1, g2, g3⟩ := goes_of (f := f) (cnt := cnt) (y := y) (n := n) rfl (HS.out.push (flagT (y k).has) (flagT_size _) hl)
          have HG1 := hide (And.intro g1 (And.intro (g2.trans hCH.out) g3))
          clear g1 g2 g3 ha hnm2 hs hrk
          go_wp2
          exact ⟨⟨k + 1, by omega, by go_num, _, H', HM4.out, HO4.out, HG1.out.1, HG1.out.2.1, HG1.out.2.2⟩, by simp [intOf]; omega⟩
        | true =>
          rw [if_neg (by simp)] at hC
          by_cases h1 : (y k).has = false
          · rw [if_pos h1] at hC
            have hCH := hide hC
            rw [h1] at r0
            clear hC
            go_wp2_with fail
            refine (answer_missing b (.slice (some ⟨pb, po, none⟩) cnt cap) m2 (y k).code (y k).text _ (HM2.out.al _) ha).mono ?_
            rintro e w4 ⟨rfl, hM4, hO4⟩
            have HM4 := hide hM4
            have HO4 := hide ((HO3.out.al _).trans hO4)
            clear hM4 hO4
            have hst : Stands { m2 with t := ansT m2 4 } (.inl (4, nm, st)) := by
              show ansT m2 4 = _
              simp only [ansT, hnm2, HS.out.hst]
            have HST := hide hst
            clear hst ha hnm2 hs hrk
            go_wp2
            exact ⟨⟨k + 1, by omega, by go_num, _, .inl (4, nm, st), HM4.out, HO4.out, .inr HST.out, hCH.out, trivial⟩, by simp [intOf]; omega⟩
          · rw [if_neg h1] at hC
            have h1' : (y k).has = true := by simpa using h1
            rw [h1'] at r0
            by_cases h2 : (y k).code = 0
            · rw [if_pos h2] at hC
              have hCH := hide hC
              rw [h2] at r1
              clear hC
              go_wp2_with fail
              refine (answer_ask b (.slice (some ⟨pb, po, none⟩) cnt cap) m2 (y k).text _ (HM2.out.al _) ha hs).mono ?_
              rintro e w4 ⟨rfl, hM4, hO4⟩
              have HM4 := hide hM4
              have HO4 := hide ((HO3.out.al _).trans hO4)
              clear hM4 hO4
              obtain ⟨H', g1, g2, g3⟩ := goes_of (f := f) (cnt := cnt) (y := y) (n := n) rfl (HS.out.push (y k).text hrk.1 hl)
              have HG1 := hide (And.intro g1 (And.intro (g2.trans hCH.out) g3))
              clear g1 g2 g3 ha hnm2 hs hrk
              go_wp2
              exact ⟨⟨k + 1, by omega, by go_num, _, H', HM4.out, HO4.out, HG1.out.1, HG1.out.2.1, HG1.out.2.2⟩, by simp [intOf]; omega⟩
            · rw [if_neg h2] at hC
              have hCH := hide hC
              have h2' : ((y k).code == 0) = false := by simpa using h2
              clear hC
              go_wp2_with fail
              refine (answer_below b (.slice (some ⟨pb, po, none⟩) cnt cap) m2 (y k).code (y k).text _ (HM2.out.al _) ha h2').mono ?_
              rintro e w4 ⟨rfl, hM4, hO4⟩
              have HM4 := hide hM4
              have HO4 := hide ((HO3.out.al _).trans hO4)
              clear hM4 hO4
              have hst : Stands { m2 with t := ansT m2 5 } (.inl (5, nm, st)) := by
                show ansT m2 5 = _
                simp only [ansT, hnm2, HS.out.hst]
              have HST := hide hst
              clear hst ha hnm2 hs hrk
              go_wp2
              exact ⟨⟨k + 1, by omega, by go_num, _, .inl (5, nm, st), HM4.out, HO4.out, .inr HST.out, hCH.out, trivial⟩, by simp [intOf]; omega⟩
    · have e : k = n := by omega
      subst e
      go_wp2_with fail
      refine (run_all b pb po cnt cap f m' H _ HM.out (HE0.out.only hb0 HO.out) hc2 HV.out HG.out).mono ?_
      rintro e w3 ⟨m2, rfl, hM2, hSt, hO2⟩
      have HO3 := hide (HO.out.trans hO2)
      have HX := hide (X3.out.only HO3.out (by omega))
      have hx3 : w.heap.size + 1 < w3.heap.size := HX.out.1
      have HB3 := hide (B3.out.trans (HO3.out.below hwb (Nat.le_trans hwb (Nat.le_of_lt hb0))))
      have eT : m2.t = T := by
        have hC := HC.out
        rcases H with ⟨c, x, st⟩ | ⟨a, nm, s, p, st, l⟩
        · exact (show m2.t = endT c x st from hSt).trans hC
        · have el : l = k + 1 := HL.out
          subst el
          simp only [contP, Nat.add_sub_cancel] at hC
          rw [if_pos (Nat.le_refl _)] at hC
          exact hSt.1.trans hC
      rw [eT]
      clear hM2 hO2 hSt eT HC HL HG HM
      simp only [Turn.v]
      obtain ⟨v0, q0, y0⟩ := HX.out.2 0 (by omega)
      obtain ⟨v1, q1, y1⟩ := HX.out.2 1 (by omega)
      obtain ⟨v2, q2, y2⟩ := HX.out.2 2 (by omega)
      obtain ⟨v3, q3, y3⟩ := HX.out.2 3 (by omega)
      obtain ⟨v4, q4, y4⟩ := HX.out.2 4 (by omega)
      obtain ⟨v5, q5, y5⟩ := HX.out.2 5 (by omega)
      go_wp2
      refine bodyPost_ret (v := T.v) (by simp [results, Tryd.results9, go_sem, Turn.v, q0, q1, q2, q3, q4, q5]) rfl ⟨rfl, six_set HB3.out (by omega) _ _ _ _ _ _⟩

set_option maxHeartbeats 2000000 in
theorem implNext_no1 (pb po cnt cap n cap2 : Nat) (a2 : Option Addr) (f : Nat → Ins) (w : World) (hn : cnt ≤ 1048576) (hv : valid f cnt = false) (hP : RowIns w pb po cnt f) (hT : Tab w) :
    Calls Tryd.prog 9 #[.agg #[.slice (some ⟨pb, po, none⟩) cnt cap], .slice a2 n cap2] w fun e w' => e = .returned badT.v ∧ Below w.heap.size w w' := by
  have IV := fun w' h1 h2 h3 => implValid_any pb po cnt cap f w' hn h1 h2 h3
  rw [hv] at IV
  have HIV := hide IV
  have HP := hide hP
  have HT := hide hT
  clear IV hP hT hv
  have A0 := hide ((((Below.refl w.heap.size w).alloc (Nat.le_refl _) (.cells #[.slice (some ⟨pb, po, none⟩) cnt cap] 33))).alloc (by simp) (.cells #[.bool false, .int .i64 0, .string ⟨#[]⟩, .bool false, .string ⟨#[]⟩, .int .i64 0] 29))
  have hx0 := six_new (w.alloc (.cells #[.slice (some ⟨pb, po, none⟩) cnt cap] 33)) (.bool false) (.int .i64 0) (.string ⟨#[]⟩) (.bool false) (.string ⟨#[]⟩) (.int .i64 0) 29
  rw [show (w.alloc (.cells #[.slice (some ⟨pb, po, none⟩) cnt cap] 33)).heap.size = w.heap.size + 1 by simp] at hx0
  have X0 := hide hx0
  clear hx0
  go_enter Tryd.func9, Tryd.ntmps9
  go_wp2_with fail
  have P1 := hide (HP.out.below A0.out (Nat.le_refl _))
  refine (HIV.out _ P1.out.1 P1.out.2 (HT.out.below A0.out HT.out.1)).mono ?_
  rintro e w1 ⟨rfl, hB1⟩
  have HX := hide (X0.out.below hB1 (by simp))
  have B1 := hide (A0.out.trans (hB1.mono (by simp; omega)))
  clear hB1 A0 X0 P1
  obtain ⟨v0, q0, y0⟩ := HX.out.2 0 (by omega)
  obtain ⟨v1, q1, y1⟩ := HX.out.2 1 (by omega)
  obtain ⟨v2, q2, y2⟩ := HX.out.2 2 (by omega)
  obtain ⟨v3, q3, y3⟩ := HX.out.2 3 (by omega)
  obtain ⟨v4, q4, y4⟩ := HX.out.2 4 (by omega)
  obtain ⟨v5, q5, y5⟩ := HX.out.2 5 (by omega)
  go_wp2
  refine bodyPost_ret (v := badT.v) (by simp [results, Tryd.results9, go_sem, Turn.v, badT, q0, q1, q2, q3, q4, q5]) rfl ⟨rfl, six_set B1.out (by omega) _ _ _ _ _ _⟩

set_option maxHeartbeats 2000000 in
theorem implNext_no2 (pb po cnt cap n cap2 : Nat) (a2 : Option Addr) (f : Nat → Ins) (w : World) (hn : cnt ≤ 1048576) (hv : valid f cnt = true) (hP : RowIns w pb po cnt f) (hT : Tab w)
    (hVR : ∀ w', Below w.heap.size w w' → Calls Tryd.prog 20 #[.slice a2 n cap2] w' fun e w'' => e = .returned (.bool false) ∧ Below w'.heap.size w' w'') :
    Calls Tryd.prog 9 #[.agg #[.slice (some ⟨pb, po, none⟩) cnt cap], .slice a2 n cap2] w fun e w' => e = .returned badT.v ∧ Below w.heap.size w w' := by
  have IV := fun w' h1 h2 h3 => implValid_any pb po cnt cap f w' hn h1 h2 h3
  rw [hv] at IV
  have HIV := hide IV
  have HVR := hide hVR
  have HP := hide hP
  have HT := hide hT
  clear IV hP hT hv hVR
  have A0 := hide ((((Below.refl w.heap.size w).alloc (Nat.le_refl _) (.cells #[.slice (some ⟨pb, po, none⟩) cnt cap] 33))).alloc (by simp) (.cells #[.bool false, .int .i64 0, .string ⟨#[]⟩, .bool false, .string ⟨#[]⟩, .int .i64 0] 29))
  have hx0 := six_new (w.alloc (.cells #[.slice (some ⟨pb, po, none⟩) cnt cap] 33)) (.bool false) (.int .i64 0) (.string ⟨#[]⟩) (.bool false) (.string ⟨#[]⟩) (.int .i64 0) 29
  rw [show (w.alloc (.cells #[.slice (some ⟨pb, po, none⟩) cnt cap] 33)).heap.size = w.heap.size + 1 by simp] at hx0
  have X0 := hide hx0
  clear hx0
  go_enter Tryd.func9, Tryd.ntmps9
  go_wp2_with fail
  have P1 := hide (HP.out.below A0.out (Nat.le_refl _))
  refine (HIV.out _ P1.out.1 P1.out.2 (HT.out.below A0.out HT.out.1)).mono ?_
  rintro e w1 ⟨rfl, hB1⟩
  have X1 := hide (X0.out.below hB1 (by simp))
  have B0 := hide (A0.out.trans (hB1.mono (by simp; omega)))
  clear hB1 A0 X0 P1
  go_wp2_with fail
  refine (HVR.out _ B0.out).mono ?_
  rintro e w2 ⟨rfl, hB2⟩
  have HX := hide (X1.out.below hB2 X1.out.1)
  have B1 := hide (B0.out.trans (hB2.mono B0.out.size))
  clear hB2 X1 B0
  obtain ⟨v0, q0, y0⟩ := HX.out.2 0 (by omega)
  obtain ⟨v1, q1, y1⟩ := HX.out.2 1 (by omega)
  obtain ⟨v2, q2, y2⟩ := HX.out.2 2 (by omega)
  obtain ⟨v3, q3, y3⟩ := HX.out.2 3 (by omega)
  obtain ⟨v4, q4, y4⟩ := HX.out.2 4 (by omega)
  obtain ⟨v5, q5, y5⟩ := HX.out.2 5 (by omega)
  go_wp2
  refine bodyPost_ret (v := badT.v) (by simp [results, Tryd.results9, go_sem, Turn.v, badT, q0, q1, q2, q3, q4, q5]) rfl ⟨rfl, six_set B1.out (by omega) _ _ _ _ _ _⟩

theorem implNext_any (pb po cnt cap b2 o2 n cap2 : Nat) (f : Nat → Ins) (y : Nat → Reply) (w : World) (hn : cnt ≤ 1048576) (hP : RowIns w pb po cnt f) (hY : RowReply w b2 o2 n y) (hT : Tab w) (hT2 : Tab2 w) (hPow : Pow w) :
    Calls Tryd.prog 9 #[.agg #[.slice (some ⟨pb, po, none⟩) cnt cap], .slice (some ⟨b2, o2, none⟩) n cap2] w fun e w' => e = .returned (nextA f cnt y n).v ∧ Below w.heap.size w w' := by
  unfold nextA
  by_cases h1 : valid f cnt = false
  · rw [if_pos h1]
    exact implNext_no1 pb po cnt cap n cap2 _ f w hn h1 hP hT
  · have h1' : valid f cnt = true := by simpa using h1
    rw [if_neg h1]
    by_cases h2 : 200 < n
    · rw [if_pos h2]
      exact implNext_no2 pb po cnt cap n cap2 _ f w hn h1' hP hT (fun w' _ => validReplies_no _ n cap2 w' (by omega))
    · rw [if_neg h2]
      by_cases h3 : repliesTo y n = false
      · rw [if_pos h3]
        exact implNext_no2 pb po cnt cap n cap2 _ f w hn h1' hP hT (fun w' hB => (validReplies_row b2 o2 n cap2 y w' (by omega) (hY.below hB (Nat.le_refl _))).mono (fun e w'' ⟨p, q⟩ => ⟨by rw [p, h3], q⟩))
      · rw [if_neg h3]
        exact implNext_go pb po cnt cap b2 o2 n cap2 f y w h1' (by omega) (by simpa using h3) hP hY hT hT2 hPow

end Go.Proofs.YtfhdecheaeoopaaDoor.Vp
