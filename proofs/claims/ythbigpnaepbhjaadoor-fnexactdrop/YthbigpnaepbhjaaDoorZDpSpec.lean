/-
  spec: Drop.
-/
import Derived.Test.YthbigpnaepbhjaaDoorZM
namespace Go.Proofs.YthbigpnaepbhjaaDoor.Vp
open Go.RowKit

set_option maxRecDepth 100000 in
set_option maxHeartbeats 4000000 in
theorem specDrop_any (a0 : Option Addr) (n0 c0 : Nat) (f0 : Nat → Source) (a1 : Option Addr) (n1 c1 : Nat) (f1 : Nat → Target) (t : ByteArray) (w : World) (hn0 : (n0 : Int) ≤ 1048576) (hn1 : (n1 : Int) ≤ 1048576) (hv0 : SlSource w a0 n0 f0) (hv1 : SlTarget w a1 n1 f1) (hfit : ∀ i, i < n1 → FitsTarget (f1 i)) (hs : ∀ i, i < n1 → ∀ j, j < (f1 i).actN → ((f1 i).act j).s.size ≤ maxLen) :
    Calls Tryd.prog 19 #[.agg #[.slice a0 n0 c0, .slice a1 n1 c1], .string t] w fun e w' => ∃ v0 v1 R, e = .returned (.tuple #[.agg #[v0, v1], .int .i64 (dropC n0 f0 n1 f1 t)]) ∧ w'.ownsRow w.heap.size 57 2 v0 (dropS n0 f0 n1 f1 t).length ((dropS n0 f0 n1 f1 t).flatMap srcV) ∧ TRow w' w.heap.size v1 R ∧ R.map (·.1) = dropT n0 f0 n1 f1 t ∧ Below w.heap.size w w' := by
  have V0 := hide hv0
  have V1 := hide hv1
  have HF := hide hfit
  have HS := hide hs
  clear hv0 hv1 hfit hs
  obtain ⟨C, hC⟩ : ∃ C, C = checkC n0 f0 n1 f1 := ⟨_, rfl⟩
  obtain ⟨D, hD⟩ : ∃ D, D = dropC n0 f0 n1 f1 t := ⟨_, rfl⟩
  obtain ⟨LS, hLS⟩ : ∃ LS, LS = dropS n0 f0 n1 f1 t := ⟨_, rfl⟩
  obtain ⟨LT, hLT⟩ : ∃ LT, LT = dropT n0 f0 n1 f1 t := ⟨_, rfl⟩
  rw [← hD, ← hLS, ← hLT]
  have HC := hide hC
  have HD := hide (hD.trans (by unfold dropC; rw [← hC]))
  have HLS := hide (hLS.trans (by unfold dropS; rw [← hD]))
  have HLT := hide (hLT.trans (by unfold dropT; rw [← hD]))
  clear hC hD hLS hLT
  have A0 := hide (((Below.refl w.heap.size w).alloc (Nat.le_refl _) (.cells #[.slice a0 n0 c0, .slice a1 n1 c1] 30)).alloc (by simp) (.cells #[.slice none 0 0, .slice none 0 0] 30))
  have X0 := hide (pair_new w (.slice a0 n0 c0) (.slice a1 n1 c1) 30)
  go_enter Tryd.func19, Tryd.ntmps19
  go_wp2_with fail
  generalize (w.alloc (.cells #[.slice a0 n0 c0, .slice a1 n1 c1] 30)).alloc (.cells #[.slice none 0 0, .slice none 0 0] 30) = W at A0 X0 ⊢
  refine (specCheck_any a0 n0 c0 f0 a1 n1 c1 f1 _ hn0 hn1 (V0.out.below A0.out (Nat.le_refl _)) (V1.out.below A0.out (Nat.le_refl _)) HF.out HS.out).mono ?_
  rintro e w1 ⟨rfl, hB⟩
  rw [← HC.out]
  have X1 := hide (X0.out.below hB X0.out.lt')
  have B1 := hide (A0.out.trans (hB.mono A0.out.size))
  clear hB A0 X0
  by_cases hc : C = 0
  case neg =>
    have hd := HD.out
    rw [if_pos hc] at hd
    have hls := HLS.out
    rw [if_neg (by omega)] at hls
    have hlt := HLT.out
    rw [if_neg (by omega)] at hlt
    subst hd hls hlt
    have hc' : (C == 0) = false := by simpa using hc
    obtain ⟨r0, q0⟩ := X1.out.r0
    obtain ⟨r1, q1⟩ := X1.out.r1
    go_wp2
    exact bodyPost_ret (v := .tuple #[.agg #[.slice none 0 0, .slice none 0 0], .int .i64 1]) (by simp [results, Tryd.results19, go_sem, r0, r1]) rfl ⟨_, _, [], rfl, World.ownsRow_nil _ _ _ _, tRow_nil _ _, rfl, (B1.out.setCell (by simp) _).setCell (by simp) _⟩
  subst hc
  have hz := check_zero HC.out.symm
  have HZ := hide hz
  clear hz HC
  have hd1 := HD.out
  rw [if_neg (by omega)] at hd1
  have HD1 := hide hd1
  clear hd1 HD
  go_wp2_with fail
  refine (l1NameOk_any t _).mono ?_
  rintro e w2 ⟨rfl, hB⟩
  have X2 := hide (X1.out.below hB X1.out.lt')
  have B2 := hide (B1.out.trans (hB.mono B1.out.size))
  clear hB X1 B1
  cases hn : nameOk t with
  | false =>
    have hd := HD1.out
    rw [if_pos hn] at hd
    have hls := HLS.out
    rw [if_neg (by omega)] at hls
    have hlt := HLT.out
    rw [if_neg (by omega)] at hlt
    subst hd hls hlt
    clear hn
    obtain ⟨r0, q0⟩ := X2.out.r0
    obtain ⟨r1, q1⟩ := X2.out.r1
    go_wp2
    exact bodyPost_ret (v := .tuple #[.agg #[.slice none 0 0, .slice none 0 0], .int .i64 2]) (by simp [results, Tryd.results19, go_sem, r0, r1]) rfl ⟨_, _, [], rfl, World.ownsRow_nil _ _ _ _, tRow_nil _ _, rfl, (B2.out.setCell (by simp) _).setCell (by simp) _⟩
  | true =>
    have hd2 := HD1.out
    rw [if_neg (by simp [hn])] at hd2
    have HD2 := hide hd2
    clear hd2 HD1 hn
    have k0 := X2.out.a0
    have k1 := X2.out.a1
    go_wp2_with fail
    refine (l2Source_any a0 n0 c0 a1 n1 c1 f0 t _ hn0 (V0.out.below B2.out (Nat.le_refl _))).mono ?_
    rintro e wS ⟨r, rfl, hds, hB⟩
    have XS := hide (X2.out.below hB X2.out.lt')
    have BS := hide (B2.out.trans (hB.mono B2.out.size))
    clear hB X2 B2 k0 k1
    have k0 := XS.out.a0
    have k1 := XS.out.a1
    by_cases hr : r < 0
    · have HI0 : Hid (isIn (nm0 f0) n0 t = false) := by show _ = false; rw [← hds]; simpa using hr
      clear hds
      go_wp2_with fail
      refine (l2Target_any a0 n0 c0 a1 n1 c1 f1 t _ hn1 (V1.out.below BS.out (Nat.le_refl _))).mono ?_
      rintro e w3 ⟨q, rfl, hdt, hB⟩
      have X3 := hide (XS.out.below hB XS.out.lt')
      have B3 := hide (BS.out.trans (hB.mono BS.out.size))
      clear hB XS BS k0 k1
      have k0 := X3.out.a0
      have k1 := X3.out.a1
      by_cases hq : q < 0
      · have hi : (isIn (nm0 f0) n0 t || isIn (nm1 f1) n1 t) = false := by rw [HI0.out, ← hdt]; simpa using hq
        clear hdt
        have hd := HD2.out
        rw [if_pos hi] at hd
        have hls := HLS.out
        rw [if_neg (by omega)] at hls
        have hlt := HLT.out
        rw [if_neg (by omega)] at hlt
        subst hd hls hlt
        obtain ⟨r0, q0⟩ := X3.out.r0
        obtain ⟨r1, q1⟩ := X3.out.r1
        go_wp2
        exact bodyPost_ret (v := .tuple #[.agg #[.slice none 0 0, .slice none 0 0], .int .i64 4]) (by simp [results, Tryd.results19, go_sem, r0, r1]) rfl ⟨_, _, [], rfl, World.ownsRow_nil _ _ _ _, tRow_nil _ _, rfl, (B3.out.setCell (by simp) _).setCell (by simp) _⟩
      · have hi : (isIn (nm0 f0) n0 t || isIn (nm1 f1) n1 t) = true := by rw [HI0.out, ← hdt]; simpa using hq
        clear hdt
        have hd := HD2.out
        rw [if_neg (by simp [hi])] at hd
        have hls := HLS.out
        rw [if_pos hd] at hls
        have hlt := HLT.out
        rw [if_pos hd] at hlt
        subst hd hls hlt
        go_wp2_with fail
        refine (l2Without_any a0 n0 c0 f0 a1 n1 c1 f1 t _ hn0 hn1 (V0.out.below B3.out (Nat.le_refl _)) (V1.out.below B3.out (Nat.le_refl _)) HF.out).mono ?_
        rintro e w4 ⟨v0, v1, R, rfl, hO, hR, hM, hB⟩
        have X4 := hide (X3.out.below hB X3.out.lt')
        have hlt4 := X3.out.lt
        have B4 := hide (B3.out.trans (hB.mono B3.out.size))
        obtain ⟨sa, sc, rfl⟩ := own_slice hO
        obtain ⟨ta, tc, rfl⟩ := own_slice hR.own
        have O4 := hide (own_mono (own_set (own_set (R := w.heap.size + 1) (j := 0) hO (by omega) (.slice sa (keepS f0 t n0).length sc)) (R := w.heap.size + 1) (j := 1) (by omega) (.slice ta R.length tc)) (base' := w.heap.size) (by omega))
        have T4 := hide (tRow_mono ((hR.set (X := w.heap.size + 1) (j := 0) (by omega) (.slice sa (keepS f0 t n0).length sc)).set (X := w.heap.size + 1) (j := 1) (by omega) (.slice ta R.length tc)) (base' := w.heap.size) (by omega))
        have HM := hide hM
        clear hO hR hB hM k0 k1
        obtain ⟨r0, q0⟩ := X4.out.r0
        obtain ⟨r1, q1⟩ := X4.out.r1
        go_wp2
        exact bodyPost_ret (v := .tuple #[.agg #[.slice sa (keepS f0 t n0).length sc, .slice ta R.length tc], .int .i64 0]) (by simp [results, Tryd.results19, go_sem, r0, r1]) rfl ⟨_, _, R, rfl, O4.out, T4.out, HM.out, (B4.out.setCell (by simp) _).setCell (by simp) _⟩
    · have hi : (isIn (nm0 f0) n0 t || isIn (nm1 f1) n1 t) = true := by rw [← hds]; have : decide (0 ≤ r) = true := decide_eq_true (by omega); rw [this]; rfl
      clear hds
      have X3 := XS
      have B3 := BS
      have hd := HD2.out
      rw [if_neg (by simp [hi])] at hd
      have hls := HLS.out
      rw [if_pos hd] at hls
      have hlt := HLT.out
      rw [if_pos hd] at hlt
      subst hd hls hlt
      go_wp2_with fail
      refine (l2Without_any a0 n0 c0 f0 a1 n1 c1 f1 t _ hn0 hn1 (V0.out.below B3.out (Nat.le_refl _)) (V1.out.below B3.out (Nat.le_refl _)) HF.out).mono ?_
      rintro e w4 ⟨v0, v1, R, rfl, hO, hR, hM, hB⟩
      have X4 := hide (X3.out.below hB X3.out.lt')
      have hlt4 := X3.out.lt
      have B4 := hide (B3.out.trans (hB.mono B3.out.size))
      obtain ⟨sa, sc, rfl⟩ := own_slice hO
      obtain ⟨ta, tc, rfl⟩ := own_slice hR.own
      have O4 := hide (own_mono (own_set (own_set (R := w.heap.size + 1) (j := 0) hO (by omega) (.slice sa (keepS f0 t n0).length sc)) (R := w.heap.size + 1) (j := 1) (by omega) (.slice ta R.length tc)) (base' := w.heap.size) (by omega))
      have T4 := hide (tRow_mono ((hR.set (X := w.heap.size + 1) (j := 0) (by omega) (.slice sa (keepS f0 t n0).length sc)).set (X := w.heap.size + 1) (j := 1) (by omega) (.slice ta R.length tc)) (base' := w.heap.size) (by omega))
      have HM := hide hM
      clear hO hR hB hM k0 k1
      obtain ⟨r0, q0⟩ := X4.out.r0
      obtain ⟨r1, q1⟩ := X4.out.r1
      go_wp2
      exact bodyPost_ret (v := .tuple #[.agg #[.slice sa (keepS f0 t n0).length sc, .slice ta R.length tc], .int .i64 0]) (by simp [results, Tryd.results19, go_sem, r0, r1]) rfl ⟨_, _, R, rfl, O4.out, T4.out, HM.out, (B4.out.setCell (by simp) _).setCell (by simp) _⟩

end Go.Proofs.YthbigpnaepbhjaaDoor.Vp
