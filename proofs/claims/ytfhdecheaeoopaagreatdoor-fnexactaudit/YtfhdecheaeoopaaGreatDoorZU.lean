/-
  Put together of: FlRun.
-/
import Derived.Test.YtfhdecheaeoopaaGreatDoorZT
import Derived.Deep.QuietTactic
import Derived.BigQuiet

/-
  spec: l4Run.
-/
namespace Go.Proofs.YtfhdecheaeoopaaGreatDoor.Vp
open Go.RowKit

set_option maxRecDepth 1000000 in
set_option maxHeartbeats 8000000 in
theorem l4Run_any (bd offd n cap : Nat) (f : Nat → Deed) (p : Nat) (w : World) (_hn : (n : Int) ≤ 400) (hacc : accOk f n = true) (hp : p < n) (hk : (f p).kind = 3) (hrow : RowDeed w bd offd n f) (hsz : SizedDeed (f p)) :
    Calls Tryz.prog 17 #[.agg #[.slice (some ⟨bd, offd, none⟩) n cap], .int .i64 p] w fun e w' => e = .returned (.int .i64 (codeR f p)) ∧ Below w.heap.size w w' := by
  obtain ⟨i0, hi, hy0, hy1, hy2⟩ := info_parts infoReply
  have hN : (f p).linksN ≤ 200 := by
    rcases (accOk_deed hacc p hp).2 with h | h | h
    · omega
    · omega
    · exact h.2.2.2.2
  have hv : valid (f p).act (f p).actN = true := by
    rcases (accOk_deed hacc p hp).2 with h | h | h
    · omega
    · omega
    · exact h.2.2.2.1
  have hc2 : (f p).actN ≤ 200 := by have := (valid_parts hv).2.2; omega
  have HNX := hide (fun k (hk2 : k ≤ (f p).linksN) => nextA_is hacc hp hk hk2)
  have HASK := hide (fun j (hj : j < (f p).linksN) (ha : ((f p).links j).ask = true) => (⟨(accOk_ask hacc p hp j hj ha).1, Nat.lt_trans (accOk_ask hacc p hp j hj ha).2.1 hp⟩ : 0 ≤ ((f p).links j).at_ ∧ ((f p).links j).at_.toNat < n))
  have HSZ := hide (show ∀ i, i < (f p).actN → ((f p).act i).s.size ≤ maxLen from hsz.2.2.1.2)
  have HROW := hide hrow
  obtain ⟨o0, o1, o2, o3, ⟨a0, cap0, o4, hI⟩, ⟨a1, cap1, o5, hLk⟩⟩ := hrow.2 p hp
  obtain ⟨pb, po, rfl, hri⟩ : ∃ pb po, a0 = some ⟨pb, po, none⟩ ∧ RowIns w pb po (f p).actN (f p).act := by
    have := (valid_parts hv).2
    rcases hI with h | ⟨b, off, e, hr⟩
    · omega
    · exact ⟨b, off, e, hr⟩
  have HI := hide hri
  have HLK := hide hLk
  have hbd := hrow.1
  clear hri hI hLk hrow hsz hacc hk hv
  have hpn : (p : Int) < n := by omega
  obtain ⟨C, hC⟩ : ∃ C, C = codeR f p := ⟨_, rfl⟩
  rw [← hC]
  have HC := hide hC
  clear hC
  have A0 := hide ((Below.refl w.heap.size w).alloc (Nat.le_refl _) (.cells #[.slice (some ⟨bd, offd, none⟩) n cap] 30))
  have AD := hide (A0.out.alloc A0.out.size (.cells #[.string (f p).name, .int .i64 (f p).kind, .int .i64 (f p).code, .string (f p).text, .slice (some ⟨pb, po, none⟩) (f p).actN cap0, .slice a1 (f p).linksN cap1] 54))
  have zD : ((w.alloc (.cells #[.slice (some ⟨bd, offd, none⟩) n cap] 30)).alloc (.cells #[.string (f p).name, .int .i64 (f p).kind, .int .i64 (f p).code, .string (f p).text, .slice (some ⟨pb, po, none⟩) (f p).actN cap0, .slice a1 (f p).linksN cap1] 54)).heap.size = w.heap.size + 2 := by simp
  have kA : ((w.alloc (.cells #[.slice (some ⟨bd, offd, none⟩) n cap] 30)).alloc (.cells #[.string (f p).name, .int .i64 (f p).kind, .int .i64 (f p).code, .string (f p).text, .slice (some ⟨pb, po, none⟩) (f p).actN cap0, .slice a1 (f p).linksN cap1] 54)).cell? ⟨w.heap.size, 0, none⟩ = some (.slice (some ⟨bd, offd, none⟩) n cap) := by simp [go_sem]
  have kD2 : ((w.alloc (.cells #[.slice (some ⟨bd, offd, none⟩) n cap] 30)).alloc (.cells #[.string (f p).name, .int .i64 (f p).kind, .int .i64 (f p).code, .string (f p).text, .slice (some ⟨pb, po, none⟩) (f p).actN cap0, .slice a1 (f p).linksN cap1] 54)).cell? ⟨w.heap.size + 1, 2, none⟩ = some (.int .i64 (f p).code) := by simp [go_sem]
  have kD3 : ((w.alloc (.cells #[.slice (some ⟨bd, offd, none⟩) n cap] 30)).alloc (.cells #[.string (f p).name, .int .i64 (f p).kind, .int .i64 (f p).code, .string (f p).text, .slice (some ⟨pb, po, none⟩) (f p).actN cap0, .slice a1 (f p).linksN cap1] 54)).cell? ⟨w.heap.size + 1, 3, none⟩ = some (.string (f p).text) := by simp [go_sem]
  have kD4 : ((w.alloc (.cells #[.slice (some ⟨bd, offd, none⟩) n cap] 30)).alloc (.cells #[.string (f p).name, .int .i64 (f p).kind, .int .i64 (f p).code, .string (f p).text, .slice (some ⟨pb, po, none⟩) (f p).actN cap0, .slice a1 (f p).linksN cap1] 54)).cell? ⟨w.heap.size + 1, 4, none⟩ = some (.slice (some ⟨pb, po, none⟩) (f p).actN cap0) := by simp [go_sem]
  have kD5 : ((w.alloc (.cells #[.slice (some ⟨bd, offd, none⟩) n cap] 30)).alloc (.cells #[.string (f p).name, .int .i64 (f p).kind, .int .i64 (f p).code, .string (f p).text, .slice (some ⟨pb, po, none⟩) (f p).actN cap0, .slice a1 (f p).linksN cap1] 54)).cell? ⟨w.heap.size + 1, 5, none⟩ = some (.slice a1 (f p).linksN cap1) := by simp [go_sem]
  have p0 := (A0.out.cell (p := ⟨bd, offd + p * 6, none⟩) hbd).trans o0
  have p1 := (A0.out.cell (p := ⟨bd, offd + p * 6 + 1, none⟩) hbd).trans o1
  have p2 := (A0.out.cell (p := ⟨bd, offd + p * 6 + 2, none⟩) hbd).trans o2
  have p3 := (A0.out.cell (p := ⟨bd, offd + p * 6 + 3, none⟩) hbd).trans o3
  have p4 := (A0.out.cell (p := ⟨bd, offd + p * 6 + 4, none⟩) hbd).trans o4
  have p5 := (A0.out.cell (p := ⟨bd, offd + p * 6 + 5, none⟩) hbd).trans o5
  clear o0 o1 o2 o3 o4 o5
  have OL := hide (by have h := own_lit ((w.alloc (.cells #[.slice (some ⟨bd, offd, none⟩) n cap] 30)).alloc (.cells #[.string (f p).name, .int .i64 (f p).kind, .int .i64 (f p).code, .string (f p).text, .slice (some ⟨pb, po, none⟩) (f p).actN cap0, .slice a1 (f p).linksN cap1] 54)) 88 3; rw [zD] at h; exact h)
  have BL := hide ((Below.refl (w.heap.size + 2) ((w.alloc (.cells #[.slice (some ⟨bd, offd, none⟩) n cap] 30)).alloc (.cells #[.string (f p).name, .int .i64 (f p).kind, .int .i64 (f p).code, .string (f p).text, .slice (some ⟨pb, po, none⟩) (f p).actN cap0, .slice a1 (f p).linksN cap1] 54))).alloc (by rw [zD]; exact Nat.le_refl _) (.cells #[] 88))
  go_enter Tryz.func17, Tryz.ntmps17
  go_wp2
  clear p0 p1 p2 p3 p4 p5
  generalize (w.alloc (.cells #[.slice (some ⟨bd, offd, none⟩) n cap] 30)).alloc (.cells #[.string (f p).name, .int .i64 (f p).kind, .int .i64 (f p).code, .string (f p).text, .slice (some ⟨pb, po, none⟩) (f p).actN cap0, .slice a1 (f p).linksN cap1] 54) = WDx at AD zD kA kD2 kD3 kD4 kD5 OL BL ⊢
  generalize WDx.alloc (.cells #[] 88) = W0 at OL BL ⊢
  go_loopw [6] (fun v wr => ∃ (k g c : Nat), k ≤ (f p).linksN ∧ v = .slice (some ⟨g, 0, none⟩) k c ∧ Hid (wr.ownsRow (w.heap.size + 2) 88 3 (.slice (some ⟨g, 0, none⟩) k c) k (repL (yOf f p) k)) ∧ Hid (∀ i, i < k → offK f p i = false) ∧ Hid (Below (w.heap.size + 2) WDx wr)) (fun v _ => (f p).linksN + 1 - slLen v)
  case atStart => exact ⟨0, w.heap.size + 2, 0, by omega, rfl, OL.out, fun i hi => absurd hi (Nat.not_lt_zero _), BL.out⟩
  case round =>
    obtain ⟨k, g, c, hkN, rfl, HO, HF, HB⟩ := hrel
    have RW := hide (AD.out.trans (HB.out.mono (by omega)))
    have d4 := (HB.out.cell (p := ⟨w.heap.size + 1, 4, none⟩) (show w.heap.size + 1 < w.heap.size + 2 by omega)).trans kD4
    go_wp2_with fail
    clear d4
    refine (specNext_any pb po (f p).actN cap0 g 0 k c (f p).act (yOf f p) _ (by omega) (HI.out.below RW.out (Nat.le_refl _)) (row_replies HO.out) HSZ.out).mono ?_
    rintro e w1 ⟨rfl, hB1⟩
    rw [HNX.out k hkN]
    obtain ⟨t, ht⟩ : ∃ t, t = turnK f p k := ⟨_, rfl⟩
    rw [← ht]
    have HTT := hide ht
    have B1 := hide (HB.out.trans (hB1.mono (by have := HB.out.size; omega)))
    have O1 := hide (own_below HO.out hB1 (Nat.le_refl _))
    have hz1 : w.heap.size + 2 ≤ w1.heap.size := by have := B1.out.size; omega
    have hz2 : w.heap.size + 1 < w1.heap.size := by omega
    have hz3 : w.heap.size < w1.heap.size := by omega
    have d2 := (B1.out.cell (p := ⟨w.heap.size + 1, 2, none⟩) (show w.heap.size + 1 < w.heap.size + 2 by omega)).trans kD2
    have d3 := (B1.out.cell (p := ⟨w.heap.size + 1, 3, none⟩) (show w.heap.size + 1 < w.heap.size + 2 by omega)).trans kD3
    have d5 := (B1.out.cell (p := ⟨w.heap.size + 1, 5, none⟩) (show w.heap.size + 1 < w.heap.size + 2 by omega)).trans kD5
    have BT := hide (B1.out.alloc hz1 (.cells #[.bool t.over, .int .i64 t.code, .string t.text, .bool t.ask, .string t.name, .int .i64 t.steps] 85))
    have RT := hide (AD.out.trans (BT.out.mono (by omega)))
    have OT := hide (O1.out.alloc (.cells #[.bool t.over, .int .i64 t.code, .string t.text, .bool t.ask, .string t.name, .int .i64 t.steps] 85))
    clear ht hB1 HO HB
    simp only [Turn.v]
    cases ho : t.over with
    | true =>
      rw [ho] at BT RT OT
      by_cases hlt : k < (f p).linksN
      · have hlt2 : (k : Int) < (f p).linksN := by omega
        have HOFF : Hid (offK f p k = true) := by show _ = _; unfold offK; rw [← HTT.out]; rw [ho]; rfl
        have HCC : Hid (C = 4) := by show _ = _; rw [HC.out]; exact code_off hlt HF.out HOFF.out
        go_wp2
        go_ret
        exact ⟨by simp [HCC.out], RT.out⟩
      · obtain rfl : k = (f p).linksN := by omega
        have HCE := hide (code_end HF.out)
        by_cases hc : t.code = (f p).code
        · cases htx : (t.text.toList == (f p).text.toList) with
          | true =>
            have HCC : Hid (C = 0) := by show _ = _; rw [HC.out, HCE.out, ← HTT.out, ho, if_neg (by simp), if_pos ⟨hc, beq_iff_eq.1 htx⟩]
            go_wp2
            go_ret
            exact ⟨by simp [HCC.out], AD.out.trans ((B1.out.alloc hz1 _).mono (by omega))⟩
          | false =>
            have HCC : Hid (C = 5) := by show _ = _; rw [HC.out, HCE.out, ← HTT.out, ho, if_neg (by simp), if_neg (fun h => by rw [h.2] at htx; simp at htx)]
            go_wp2
            go_ret
            exact ⟨by simp [HCC.out], AD.out.trans ((B1.out.alloc hz1 _).mono (by omega))⟩
        · have HCC : Hid (C = 5) := by show _ = _; rw [HC.out, HCE.out, ← HTT.out, ho, if_neg (by simp), if_neg (fun h => hc h.1)]
          have hc2 : (t.code == (f p).code) = false := by simpa using hc
          go_wp2
          go_ret
          exact ⟨by simp [HCC.out], AD.out.trans ((B1.out.alloc hz1 _).mono (by omega))⟩
    | false =>
      rw [ho] at BT RT OT
      by_cases hlt : k < (f p).linksN
      · have hlt2 : (k : Int) < (f p).linksN := by omega
        have hge : decide ((f p).linksN ≤ k) = false := by simp; omega
        obtain ⟨bl, offl, rfl, hrl⟩ := (HLK.out.below RT.out (Nat.le_refl _)).resolve_left (by omega)
        obtain ⟨r0, r1, r2, r3⟩ := hrl.2 k hlt
        obtain ⟨l, hl⟩ : ∃ l, (f p).links k = l := ⟨_, rfl⟩
        rw [hl] at r0 r1 r2 r3
        obtain ⟨nm, ask, hs, at_⟩ := l
        dsimp only at r0 r1 r2 r3
        have HLL := hide hl
        clear hrl hl
        cases hn : (nm.toList == t.name.toList) with
        | false =>
          have hn2 : (t.name.toList == nm.toList) = false := by rw [beq_eq_false_iff_ne] at hn ⊢; exact fun h => hn h.symm
          have HOFF : Hid (offK f p k = true) := by show _ = _; unfold offK; rw [← HTT.out, HLL.out]; simp [hn2]
          have HCC : Hid (C = 4) := by show _ = _; rw [HC.out]; exact code_off hlt HF.out HOFF.out
          go_wp2_with fail
          go_quiet (fail)
          have BQ := hide (below_drewN RT.out nq)
          clear r0 r1 r2 r3 BT RT OT d2 d3 d5
          generalize (w1.alloc (.cells #[.bool false, .int .i64 t.code, .string t.text, .bool t.ask, .string t.name, .int .i64 t.steps] 85)).drewN nq = WQ at BQ ⊢
          go_wp2
          go_ret
          exact ⟨by simp [HCC.out], BQ.out⟩
        | true =>
          have hn2 : (t.name.toList == nm.toList) = true := by rw [beq_iff_eq] at hn ⊢; exact hn.symm
          cases hta : t.ask with
          | true =>
            rw [hta] at BT RT OT r0 r1 r2 r3
            cases ask with
            | true =>
              have HOFF : Hid (offK f p k = false) := by show _ = _; unfold offK; rw [← HTT.out, HLL.out]; simp [ho, hn2, hta]
              have HY : Hid (ansR f ⟨nm, true, hs, at_⟩ = yOf f p k) := by show _ = _; unfold yOf; rw [HLL.out]
              have HAT : Hid (0 ≤ at_ ∧ at_.toNat < n) := by have := HASK.out k hlt (by rw [HLL.out]); rw [HLL.out] at this; exact this
              go_wp2_with fail
              go_quiet (fail)
              have BQ := hide (below_drewN BT.out nq)
              have RQ := hide (AD.out.trans (BQ.out.mono (by omega)))
              have OQ := hide (own_below OT.out (below_drewN (Below.refl _ _) nq) (Nat.le_refl _))
              clear r0 r1 r2 r3 BT RT OT d2 d3 d5
              generalize (w1.alloc (.cells #[.bool false, .int .i64 t.code, .string t.text, .bool true, .string t.name, .int .i64 t.steps] 85)).drewN nq = WQ at BQ RQ OQ ⊢
              have kA2 := (BQ.out.cell (p := ⟨w.heap.size, 0, none⟩) (show w.heap.size < w.heap.size + 2 by omega)).trans kA
              have d5 := (BQ.out.cell (p := ⟨w.heap.size + 1, 5, none⟩) (show w.heap.size + 1 < w.heap.size + 2 by omega)).trans kD5
              have hrl2 := (HLK.out.below RQ.out (Nat.le_refl _)).resolve_left (by omega)
              obtain ⟨bl2, offl2, eb, hrl3⟩ := hrl2
              simp only [Option.some.injEq, Addr.mk.injEq, and_true] at eb
              obtain ⟨rfl, rfl⟩ := eb
              obtain ⟨r0, r1, r2, r3⟩ := hrl3.2 k hlt
              rw [HLL.out] at r0 r1 r2 r3
              dsimp only at r0 r1 r2 r3
              have hqz : w.heap.size + 2 ≤ WQ.heap.size := by have := BQ.out.size; omega
              clear hrl3
              go_wp2_with fail
              go_region_law (first
                | (refine step_append_own rfl (.tmp 67) (.tmp 75) 83 rfl (w.heap.size + 2) 88 i0 (.agg #[.bool false, .int .i64 0, .string ⟨#[]⟩]) 3 32 Tryz.underlying83 hi hy0 hy1 hy2 rfl (by decide) (.slice (some ⟨g, 0, none⟩) k c) k (repL (yOf f p) k) (by simp [Act.eval]) (by first | exact O5.out.alloc _ | exact O5.out.drew.alloc _ | exact O5.out.drew.drew.alloc _) ⟨w5.heap.size, 0, none⟩ 1 1 (replyV (yOf f p) k) (by simp [Act.eval]) rfl (by first | exact three_new w5 _ _ _ _ | exact three_new w5.drew _ _ _ _ | exact three_new w5.drew.drew _ _ _ _) (by simp [replyV, Value.oneCell']) (by unfold maxLen; omega) (by omega) (by first | (simp; done) | (simp; omega)) ?_; intro v6 w6 hown hgrow hnil; have O6 := hide hown; (first | have B6 := hide (Below.grown (B5.out.alloc h5z _) hgrow (by first | (simp; done) | (simp; omega)) (fun j e => (O5.out.lt j e).1)) | have B6 := hide (Below.grown (B5.out.drew.alloc (by simpa using h5z) _) hgrow (by first | (simp; done) | (simp; omega)) (fun j e => (O5.out.lt j e).1))); clear hown hgrow hnil)
                | (go_simp; go_at_call 40; refine (l4Answer_any bd offd n cap f ⟨nm, true, hs, at_⟩ _ ?_ (fun _ => HAT.out)).mono ?_; (first | exact HROW.out.below RQ.out (Nat.le_refl _) | exact HROW.out.below RQ.out.drew (Nat.le_refl _) | exact HROW.out.below RQ.out.drew.drew (Nat.le_refl _) | exact HROW.out.below RQ.out.drew.drew.drew (Nat.le_refl _)); rintro e w5 ⟨rfl, hB5⟩; rw [HY.out]; have D5 : Hid (Below WQ.heap.size WQ w5) := ⟨hB5.os, hB5.tape, hB5.output, hB5.size, hB5.block⟩; have O5 := hide (own_below OQ.out D5.out (Nat.le_refl _)); have B5 := hide (BQ.out.trans (D5.out.mono hqz)); have h5z : w.heap.size + 2 ≤ w5.heap.size := (Nat.le_trans hqz D5.out.size); clear hB5))
              all_goals
                obtain ⟨g6, c6, rfl⟩ := own_slice3 O6.out (by omega)
                go_simp
                go_wp2
                exact ⟨⟨k + 1, g6, c6, by omega, rfl, O6.out, fun i hi => by
                  by_cases e : i = k
                  · subst e; exact HOFF.out
                  · exact HF.out i (by omega), B6.out⟩, by simp [slLen]; omega⟩
            | false =>
              have HOFF : Hid (offK f p k = true) := by show _ = _; unfold offK; rw [← HTT.out, HLL.out]; simp [hta]
              have HCC : Hid (C = 4) := by show _ = _; rw [HC.out]; exact code_off hlt HF.out HOFF.out
              go_wp2_with fail
              go_quiet (fail)
              have BQ := hide (below_drewN RT.out nq)
              clear r0 r1 r2 r3 BT RT OT d2 d3 d5
              generalize (w1.alloc (.cells #[.bool false, .int .i64 t.code, .string t.text, .bool true, .string t.name, .int .i64 t.steps] 85)).drewN nq = WQ at BQ ⊢
              go_wp2
              go_ret
              exact ⟨by simp [HCC.out], BQ.out⟩
          | false =>
            rw [hta] at BT RT OT r0 r1 r2 r3
            cases ask with
            | true =>
              have HOFF : Hid (offK f p k = true) := by show _ = _; unfold offK; rw [← HTT.out, HLL.out]; simp [hta]
              have HCC : Hid (C = 4) := by show _ = _; rw [HC.out]; exact code_off hlt HF.out HOFF.out
              go_wp2_with fail
              go_quiet (fail)
              have BQ := hide (below_drewN RT.out nq)
              clear r0 r1 r2 r3 BT RT OT d2 d3 d5
              generalize (w1.alloc (.cells #[.bool false, .int .i64 t.code, .string t.text, .bool false, .string t.name, .int .i64 t.steps] 85)).drewN nq = WQ at BQ ⊢
              go_wp2
              go_ret
              exact ⟨by simp [HCC.out], BQ.out⟩
            | false =>
              have HOFF : Hid (offK f p k = false) := by show _ = _; unfold offK; rw [← HTT.out, HLL.out]; simp [ho, hn2, hta]
              have HY : Hid (ansR f ⟨nm, false, hs, at_⟩ = yOf f p k) := by show _ = _; unfold yOf; rw [HLL.out]
              go_wp2_with fail
              go_quiet (fail)
              have BQ := hide (below_drewN BT.out nq)
              have RQ := hide (AD.out.trans (BQ.out.mono (by omega)))
              have OQ := hide (own_below OT.out (below_drewN (Below.refl _ _) nq) (Nat.le_refl _))
              clear r0 r1 r2 r3 BT RT OT d2 d3 d5
              generalize (w1.alloc (.cells #[.bool false, .int .i64 t.code, .string t.text, .bool false, .string t.name, .int .i64 t.steps] 85)).drewN nq = WQ at BQ RQ OQ ⊢
              have kA2 := (BQ.out.cell (p := ⟨w.heap.size, 0, none⟩) (show w.heap.size < w.heap.size + 2 by omega)).trans kA
              have d5 := (BQ.out.cell (p := ⟨w.heap.size + 1, 5, none⟩) (show w.heap.size + 1 < w.heap.size + 2 by omega)).trans kD5
              have hrl2 := (HLK.out.below RQ.out (Nat.le_refl _)).resolve_left (by omega)
              obtain ⟨bl2, offl2, eb, hrl3⟩ := hrl2
              simp only [Option.some.injEq, Addr.mk.injEq, and_true] at eb
              obtain ⟨rfl, rfl⟩ := eb
              obtain ⟨r0, r1, r2, r3⟩ := hrl3.2 k hlt
              rw [HLL.out] at r0 r1 r2 r3
              dsimp only at r0 r1 r2 r3
              have hqz : w.heap.size + 2 ≤ WQ.heap.size := by have := BQ.out.size; omega
              clear hrl3
              go_wp2_with fail
              go_region_law (first
                | (refine step_append_own rfl (.tmp 67) (.tmp 75) 83 rfl (w.heap.size + 2) 88 i0 (.agg #[.bool false, .int .i64 0, .string ⟨#[]⟩]) 3 32 Tryz.underlying83 hi hy0 hy1 hy2 rfl (by decide) (.slice (some ⟨g, 0, none⟩) k c) k (repL (yOf f p) k) (by simp [Act.eval]) (by first | exact O5.out.alloc _ | exact O5.out.drew.alloc _ | exact O5.out.drew.drew.alloc _) ⟨w5.heap.size, 0, none⟩ 1 1 (replyV (yOf f p) k) (by simp [Act.eval]) rfl (by first | exact three_new w5 _ _ _ _ | exact three_new w5.drew _ _ _ _ | exact three_new w5.drew.drew _ _ _ _) (by simp [replyV, Value.oneCell']) (by unfold maxLen; omega) (by omega) (by first | (simp; done) | (simp; omega)) ?_; intro v6 w6 hown hgrow hnil; have O6 := hide hown; (first | have B6 := hide (Below.grown (B5.out.alloc h5z _) hgrow (by first | (simp; done) | (simp; omega)) (fun j e => (O5.out.lt j e).1)) | have B6 := hide (Below.grown (B5.out.drew.alloc (by simpa using h5z) _) hgrow (by first | (simp; done) | (simp; omega)) (fun j e => (O5.out.lt j e).1))); clear hown hgrow hnil)
                | (go_simp; go_at_call 40; refine (l4Answer_any bd offd n cap f ⟨nm, false, hs, at_⟩ _ ?_ (fun h => by cases h)).mono ?_; (first | exact HROW.out.below RQ.out (Nat.le_refl _) | exact HROW.out.below RQ.out.drew (Nat.le_refl _) | exact HROW.out.below RQ.out.drew.drew (Nat.le_refl _) | exact HROW.out.below RQ.out.drew.drew.drew (Nat.le_refl _)); rintro e w5 ⟨rfl, hB5⟩; rw [HY.out]; have D5 : Hid (Below WQ.heap.size WQ w5) := ⟨hB5.os, hB5.tape, hB5.output, hB5.size, hB5.block⟩; have O5 := hide (own_below OQ.out D5.out (Nat.le_refl _)); have B5 := hide (BQ.out.trans (D5.out.mono hqz)); have h5z : w.heap.size + 2 ≤ w5.heap.size := (Nat.le_trans hqz D5.out.size); clear hB5))
              all_goals
                obtain ⟨g6, c6, rfl⟩ := own_slice3 O6.out (by omega)
                go_simp
                go_wp2
                exact ⟨⟨k + 1, g6, c6, by omega, rfl, O6.out, fun i hi => by
                  by_cases e : i = k
                  · subst e; exact HOFF.out
                  · exact HF.out i (by omega), B6.out⟩, by simp [slLen]; omega⟩
      · obtain rfl : k = (f p).linksN := by omega
        have HCE := hide (code_end HF.out)
        have HCC : Hid (C = 4) := by show _ = _; rw [HC.out, HCE.out, ← HTT.out, ho, if_pos rfl]
        go_wp2_with fail
        go_quiet (fail)
        go_wp2
        go_ret
        exact ⟨by simp [HCC.out], by first | exact below_drewN RT.out _ | exact RT.out⟩

end Go.Proofs.YtfhdecheaeoopaaGreatDoor.Vp
