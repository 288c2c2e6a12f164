/-
  impl: without.
-/
import Derived.Test.YtpbpbjcnbhejgaaDoorWoRow
namespace Go.Proofs.YtpbpbjcnbhejgaaDoor.Vp
open Go.RowKit

set_option maxRecDepth 100000 in
set_option maxHeartbeats 8000000 in
theorem without_any (a0 : Option Addr) (n0 c0 : Nat) (f0 : Nat → Source) (a1 : Option Addr) (n1 c1 : Nat) (f1 : Nat → Target) (t : ByteArray) (w : World) (hn0 : (n0 : Int) ≤ 1048576) (hn1 : (n1 : Int) ≤ 1048576) (hv0 : SlSource w a0 n0 f0) (hv1 : SlTarget w a1 n1 f1) (hfit : ∀ i, i < n1 → FitsTarget (f1 i)) (hpos : ∀ i, i < n1 → 1 ≤ (f1 i).actN) :
    Calls Tryd.prog 79 #[.agg #[.slice a0 n0 c0, .slice a1 n1 c1], .string t] w fun e w' => ∃ v0 v1 R, e = .returned (.agg #[v0, v1]) ∧ w'.ownsRow (w.heap.size + 3) 76 2 v0 (keepS f0 t n0).length ((keepS f0 t n0).flatMap srcV) ∧ TRow w' (w.heap.size + 3) v1 R ∧ R.map (·.1) = keepT f1 t n1 ∧ Below w.heap.size w w' := by
  have V0 := hide hv0
  have V1 := hide hv1
  have HF := hide hfit
  have HP := hide hpos
  clear hv0 hv1 hfit hpos
  obtain ⟨i0', hi, hy0, hy1, hy2⟩ := info_parts infoSource
  obtain ⟨i1', hj, hz0, hz1, hz2⟩ := info_parts infoTarget
  have A0 := hide ((((Below.refl w.heap.size w).alloc (Nat.le_refl _) (.cells #[.slice a0 n0 c0, .slice a1 n1 c1] 42)).alloc (by simp) (.cells #[.slice none 0 0, .slice none 0 0] 42)).alloc (by simp; omega) (.cells #[.slice none 0 0, .slice none 0 0] 42))
  have X0 := hide (boxes_new w (.slice a0 n0 c0) (.slice a1 n1 c1) 42)
  go_enter Tryd.func79, Tryd.ntmps79
  go_wp2
  generalize ((w.alloc (.cells #[.slice a0 n0 c0, .slice a1 n1 c1] 42)).alloc (.cells #[.slice none 0 0, .slice none 0 0] 42)).alloc (.cells #[.slice none 0 0, .slice none 0 0] 42) = W at A0 X0 ⊢
  go_loopw [13] (fun i wr => ∃ (k : Nat) (v0 : Value), k ≤ n0 ∧ i = .int .i64 k ∧ Hid (Boxes wr w.heap.size (.slice a0 n0 c0) (.slice a1 n1 c1) v0 (.slice none 0 0)) ∧ Hid (wr.ownsRow (w.heap.size + 3) 76 2 v0 (keepS f0 t k).length ((keepS f0 t k).flatMap srcV)) ∧ Hid (Below w.heap.size w wr)) (fun i _ => n0 - (intOf i).toNat)
  case atStart => exact ⟨0, _, by omega, rfl, X0.out, World.ownsRow_nil _ _ _ _, A0.out⟩
  case round =>
    obtain ⟨k, v0, hk, rfl, BX, OW, HB⟩ := hrel
    have hlt3 := BX.out.lt
    by_cases hlt : k < n0
    · obtain ⟨b, off, rfl, hr⟩ := V0.out.resolve_left (by omega)
      obtain ⟨d0, d1⟩ := (hr.2 k hlt).below HB.out hr.1
      clear hr
      have hll := keepS_len f0 t k
      cases hq : ((f0 k).name.toList == t.toList) with
      | true =>
        have HQ := hide hq
        have B1 := hide (HB.out.alloc HB.out.size (.cells #[.string (f0 k).name, .string (f0 k).text] 76))
        have D1 := hide ((Below.refl wr.heap.size wr).alloc (Nat.le_refl _) (.cells #[.string (f0 k).name, .string (f0 k).text] 76))
        go_wp2
        exact ⟨⟨k + 1, v0, by omega, by go_num, BX.out.below D1.out (by omega), by show World.ownsRow _ _ _ _ _ _ _; rw [keepS_same HQ.out]; exact OW.out.alloc _, B1.out⟩, by simp [intOf]; omega⟩
      | false =>
        have HQ := hide hq
        obtain ⟨x0, y0⟩ := BX.out.o0
        have D1 := hide (((Below.refl (w.heap.size + 3) wr).alloc (by omega) (.cells #[.string (f0 k).name, .string (f0 k).text] 76)).alloc (by simp; omega) (.cells #[.string (f0 k).name, .string (f0 k).text] 76))
        go_wp2_with (at_builtin; refine wpList_append_own _ rfl (.tmp 22) (.tmp 24) 39 rfl (w.heap.size + 3) 76 i0' (.agg #[.string ⟨#[]⟩, .string ⟨#[]⟩]) 2 32 Tryd.underlying39 hi hy0 hy1 hy2 rfl (by decide) v0 (keepS f0 t k).length ((keepS f0 t k).flatMap srcV) (by simp [Act.eval]) ((OW.out.alloc _).alloc _) ⟨wr.heap.size + 1, 0, none⟩ 1 1 (srcV (f0 k)) (by simp [Act.eval]) rfl (by rw [show wr.heap.size + 1 = (wr.alloc (.cells #[.string (f0 k).name, .string (f0 k).text] 76)).heap.size by simp]; exact two_new _ _ _ _) (by simp [srcV, Value.oneCell']) (by unfold maxLen; omega) (by omega) (by first | (simp; done) | (simp; omega)) ?_; intro v' w2 hown hgrow hnil; obtain ⟨gs, cs, rfl⟩ := own_some hown (by omega); have O2 := hide hown; have B2 := hide (Below.grown D1.out hgrow (by first | (simp; done) | (simp; omega)) (fun j e => (OW.out.lt j e).1)); obtain ⟨x2, y2⟩ := (BX.out.below B2.out (Nat.le_refl _)).o0; clear hown hgrow hnil)
        exact ⟨⟨k + 1, _, by omega, by go_num, (BX.out.below B2.out (Nat.le_refl _)).set0 _, by show World.ownsRow _ _ _ _ _ _ _; rw [keepS_more HQ.out, List.length_append, List.flatMap_append]; simpa using own_set O2.out (by omega) _, (HB.out.trans (B2.out.mono (by omega))).setCell (by simp; omega) _⟩, by simp [intOf]; omega⟩
    · have e : n0 = k := by omega
      subst e
      have k1 := BX.out.a1
      go_wp2
      clear k1 hlt hk
      generalize wr = W1 at BX OW HB hlt3 ⊢
      go_loopw [31] (fun i wr => ∃ (k : Nat) (v1 : Value) (R : List TR), k ≤ n1 ∧ i = .int .i64 k ∧ Hid (Boxes wr w.heap.size (.slice a0 n0 c0) (.slice a1 n1 c1) v0 v1) ∧ Hid (wr.ownsRow (w.heap.size + 3) 76 2 v0 (keepS f0 t n0).length ((keepS f0 t n0).flatMap srcV)) ∧ Hid (TRow wr (w.heap.size + 3) v1 R) ∧ Hid (R.map (·.1) = keepT f1 t k) ∧ Hid (Below w.heap.size w wr)) (fun i _ => n1 - (intOf i).toNat)
      case atStart => exact ⟨0, _, [], by omega, rfl, BX.out, OW.out, tRow_nil _ _, rfl, HB.out⟩
      case round =>
        clear BX OW HB
        obtain ⟨k, v1, R, hk, rfl, BX, OS, T0, HM, HB⟩ := hrel
        have hlt4 := BX.out.lt
        by_cases hlt : k < n1
        · obtain ⟨b, off, rfl, hr⟩ := V1.out.resolve_left (by omega)
          obtain ⟨d0, ka, kc, d1, hx⟩ := (hr.2 k hlt).below HB.out (Nat.le_refl _) hr.1
          obtain ⟨rb, ro, rfl, hrow⟩ := hx.resolve_left (by have := HP.out k hlt; omega)
          have HX := hide hrow
          clear hr hx hrow
          have hRl : R.length ≤ 1048576 := by
            have h1 := congrArg List.length HM.out
            have h2 := keepT_len f1 t k
            simp at h1
            omega
          have hft : ((f1 k).actN : Int) ≤ 1048576 := by have := HF.out k hlt; unfold FitsTarget at this; omega
          cases hq : ((f1 k).name.toList == t.toList) with
          | true =>
            have HQ := hide hq
            have D1 := hide ((Below.refl wr.heap.size wr).alloc (Nat.le_refl _) (.cells #[.string (f1 k).name, .slice (some ⟨rb, ro, none⟩) (f1 k).actN kc] 78))
            go_wp2
            exact ⟨⟨k + 1, v1, R, by omega, by go_num, BX.out.below D1.out (by omega), OS.out.alloc _, T0.out.below D1.out (Nat.le_refl _), by show _ = keepT f1 t (k + 1); rw [keepT_same HQ.out]; exact HM.out, HB.out.trans (D1.out.mono HB.out.size)⟩, by simp [intOf]; omega⟩
          | false =>
            have HQ := hide hq
            obtain ⟨x1, y1⟩ := BX.out.o1
            have D1 := hide ((Below.refl wr.heap.size wr).alloc (Nat.le_refl _) (.cells #[.string (f1 k).name, .slice (some ⟨rb, ro, none⟩) (f1 k).actN kc] 78)).drew
            have tb0 : (wr.alloc (.cells #[.string (f1 k).name, .slice (some ⟨rb, ro, none⟩) (f1 k).actN kc] 78)).cell? ⟨wr.heap.size, 0, none⟩ = some (.string (f1 k).name) := by simp
            have tb1 : (wr.alloc (.cells #[.string (f1 k).name, .slice (some ⟨rb, ro, none⟩) (f1 k).actN kc] 78)).cell? ⟨wr.heap.size, 1, none⟩ = some (.slice (some ⟨rb, ro, none⟩) (f1 k).actN kc) := by simp
            go_wp2_with fail
            go_region_law (first
              | (go_simp; go_at_call 73; refine (copyProgram_row rb ro (f1 k).actN kc (f1 k).act _ hft (HX.out.below D1.out (Nat.le_refl _))).mono ?_; rintro e wC ⟨g, c, rfl, hO, hB⟩; have hB' : Hid (Below (wr.heap.size + 1) (wr.alloc (.cells #[.string (f1 k).name, .slice (some ⟨rb, ro, none⟩) (f1 k).actN kc] 78)) wC) := ⟨hB.os, hB.tape, hB.output, by simpa using hB.size, fun i hi => hB.block i (by simpa using hi)⟩; have tc0 := (hB'.out.cell (p := ⟨wr.heap.size, 0, none⟩) (Nat.lt_succ_self _)).trans tb0; have tc1 := (hB'.out.cell (p := ⟨wr.heap.size, 1, none⟩) (Nat.lt_succ_self _)).trans tb1; have DC := hide (D1.out.trans (hB.mono (by simp))); have hgl := (own_lt hO).1; have OC := hide (own_mono hO (base' := w.heap.size + 3) (by simp; omega)); have hgl2 : wr.heap.size ≤ g := (by simp at hgl; omega); obtain ⟨xC, yC⟩ := (BX.out.below DC.out (by omega)).o1; have hzC : w.heap.size + 1 + 1 < wC.heap.size := (by have := (BX.out.below DC.out (by omega)).lt; omega); have hyC : wr.heap.size < wC.heap.size := (by have := hB'.out.size; simp at this; omega); clear hB hB' hO hgl)
              | (refine step_append_own rfl (.tmp 40) (.tmp 47) 40 rfl (w.heap.size + 3) 78 i1' (.agg #[.string ⟨#[]⟩, .slice none 0 0]) 2 40 Tryd.underlying40 hj hz0 hz1 hz2 rfl (by decide) v1 R.length (R.flatMap tgtV) (by simp [Act.eval]) ((T0.out.below DC.out (Nat.le_refl _)).own.alloc _) ⟨wC.heap.size, 0, none⟩ 1 1 (tgtV (f1 k, g, c)) (by simp [Act.eval]) rfl (two_new wC _ _ _) (by simp [tgtV, Value.oneCell']) (by unfold maxLen; omega) (by omega) (by first | (simp; done) | (simp; omega) | (have := DC.out.size; simp; omega)) ?_; intro v' w2 hown hgrow hnil; obtain ⟨gs, cs, rfl⟩ := own_some hown (by omega); have T2 := hide (T0.out.more (x := f1 k) (g := g) (c := c) (DC.out.alloc DC.out.size _) hgl2 (by omega) (OC.out.alloc _) hown hgrow); have E2 := hide (Below.grown ((DC.out.mono (show w.heap.size + 3 ≤ wr.heap.size by omega)).alloc (by have := DC.out.size; omega) _) hgrow (by have := DC.out.size; simp; omega) (fun j e => (T0.out.own.lt j e).1)); obtain ⟨x2, y2⟩ := (BX.out.below E2.out (Nat.le_refl _)).o1; have OS2 := hide ((own_below OS.out (DC.out.alloc DC.out.size _) (Nat.le_refl _)).kept hgrow (own_apart (own_below OS.out (DC.out.alloc DC.out.size (.cells #[.string (f1 k).name, .slice (some ⟨g, 0, none⟩) (f1 k).actN c] 78)) (Nat.le_refl _)) ((T0.out.below DC.out (Nat.le_refl _)).own.alloc _) (by decide))); clear hown hgrow hnil))
            all_goals
              clear tb0 tb1 tc0 tc1 xC yC x1 y1
              go_wp2
              exact ⟨⟨k + 1, _, R ++ [(f1 k, g, c)], by omega, by go_num, (BX.out.below E2.out (Nat.le_refl _)).set1 _, own_set OS2.out (by omega) _, T2.out.set (by omega) _, by show _ = keepT f1 t (k + 1); rw [keepT_more HQ.out, List.map_append, HM.out]; rfl, (HB.out.trans (E2.out.mono (by omega))).setCell (by simp; omega) _⟩, by simp [intOf]; omega⟩
        · have e : n1 = k := by omega
          subst e
          obtain ⟨sa, sc, rfl⟩ := own_slice OS.out
          obtain ⟨ta, tc, rfl⟩ := own_slice T0.out.own
          obtain ⟨r0, q0⟩ := BX.out.r0
          obtain ⟨r1, q1⟩ := BX.out.r1
          obtain ⟨m0, _⟩ := BX.out.o0
          obtain ⟨m1, _⟩ := BX.out.o1
          go_wp2
          exact bodyPost_ret (v := .agg #[.slice sa _ sc, .slice ta _ tc]) (by simp [results, Tryd.results79, go_sem, r0, r1]) rfl ⟨_, _, R, rfl, own_set (own_set OS.out (by omega) _) (by omega) _, (T0.out.set (by omega) _).set (by omega) _, HM.out, (HB.out.setCell (by simp) _).setCell (by simp) _⟩

end Go.Proofs.YtpbpbjcnbhejgaaDoor.Vp
