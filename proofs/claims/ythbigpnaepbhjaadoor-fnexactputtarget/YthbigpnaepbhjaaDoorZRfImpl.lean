/-
  impl: roomFor.
-/
import Derived.Test.YthbigpnaepbhjaaDoorZM
import Derived.Test.YthbigpnaepbhjaaDoorZPsBase
namespace Go.Proofs.YthbigpnaepbhjaaDoor.Vp
open Go.RowKit

def roomC (n0 : Nat) (f0 : Nat → Source) (n1 : Nat) (f1 : Nat → Target) (t : ByteArray) (rt : Bool) : Int :=
  if checkC n0 f0 n1 f1 ≠ 0 then 1 else if nameOk t = false ∨ rt = false then 2 else if 200 ≤ (keepS f0 t n0).length + (keepT f1 t n1).length then 3 else 0
def roomS (n0 : Nat) (f0 : Nat → Source) (n1 : Nat) (f1 : Nat → Target) (t : ByteArray) (rt : Bool) : List Source := if roomC n0 f0 n1 f1 t rt = 0 then keepS f0 t n0 else []
def roomT (n0 : Nat) (f0 : Nat → Source) (n1 : Nat) (f1 : Nat → Target) (t : ByteArray) (rt : Bool) : List Target := if roomC n0 f0 n1 f1 t rt = 0 then keepT f1 t n1 else []
theorem check_few {n0 : Nat} {f0 : Nat → Source} {n1 : Nat} {f1 : Nat → Target} (h : checkC n0 f0 n1 f1 = 0) : n0 + n1 ≤ 200 := by
  unfold checkC at h
  split at h
  · omega
  · omega

set_option maxRecDepth 100000 in
set_option maxHeartbeats 4000000 in
theorem roomFor_any (a0 : Option Addr) (n0 c0 : Nat) (f0 : Nat → Source) (a1 : Option Addr) (n1 c1 : Nat) (f1 : Nat → Target) (t : ByteArray) (rt : Bool) (w : World) (hn0 : (n0 : Int) ≤ 1048576) (hn1 : (n1 : Int) ≤ 1048576) (hv0 : SlSource w a0 n0 f0) (hv1 : SlTarget w a1 n1 f1) (hfit : ∀ i, i < n1 → FitsTarget (f1 i)) (hT : Tab w) :
    Calls Tryd.prog 28 #[.agg #[.slice a0 n0 c0, .slice a1 n1 c1], .string t, .bool rt] w fun e w' => ∃ v0 v1 R, e = .returned (.tuple #[.agg #[v0, v1], .int .i64 (roomC n0 f0 n1 f1 t rt)]) ∧ w'.ownsRow w.heap.size 57 2 v0 (roomS n0 f0 n1 f1 t rt).length ((roomS n0 f0 n1 f1 t rt).flatMap srcV) ∧ TRow w' w.heap.size v1 R ∧ R.map (·.1) = roomT n0 f0 n1 f1 t rt ∧ Below w.heap.size w w' := by
  have V0 := hide hv0
  have V1 := hide hv1
  have HF := hide hfit
  have HT := hide hT
  clear hv0 hv1 hfit hT
  obtain ⟨C, hC⟩ : ∃ C, C = checkC n0 f0 n1 f1 := ⟨_, rfl⟩
  obtain ⟨D, hD⟩ : ∃ D, D = roomC n0 f0 n1 f1 t rt := ⟨_, rfl⟩
  obtain ⟨LS, hLS⟩ : ∃ LS, LS = roomS n0 f0 n1 f1 t rt := ⟨_, rfl⟩
  obtain ⟨LT, hLT⟩ : ∃ LT, LT = roomT n0 f0 n1 f1 t rt := ⟨_, rfl⟩
  rw [← hD, ← hLS, ← hLT]
  have HC := hide hC
  have HD := hide (hD.trans (by unfold roomC; rw [← hC]))
  have HLS := hide (hLS.trans (by unfold roomS; rw [← hD]))
  have HLT := hide (hLT.trans (by unfold roomT; rw [← hD]))
  clear hC hD hLS hLT
  have A0 := hide (((Below.refl w.heap.size w).alloc (Nat.le_refl _) (.cells #[.slice a0 n0 c0, .slice a1 n1 c1] 30)).alloc (by simp) (.cells #[.slice none 0 0, .slice none 0 0] 30))
  have X0 := hide (pair_new w (.slice a0 n0 c0) (.slice a1 n1 c1) 30)
  go_enter Tryd.func28, Tryd.ntmps28
  go_wp2_with fail
  generalize (w.alloc (.cells #[.slice a0 n0 c0, .slice a1 n1 c1] 30)).alloc (.cells #[.slice none 0 0, .slice none 0 0] 30) = W at A0 X0 ⊢
  refine (implCheck_any a0 n0 c0 f0 a1 n1 c1 f1 _ hn0 hn1 (V0.out.below A0.out (Nat.le_refl _)) (V1.out.below A0.out (Nat.le_refl _)) HF.out (HT.out.below A0.out HT.out.1)).mono ?_
  rintro e w1 ⟨rfl, hB⟩
  rw [← HC.out]
  have X1 := hide (X0.out.below hB X0.out.lt')
  have B1 := hide (A0.out.trans (hB.mono A0.out.size))
  clear hB A0 X0
  by_cases hc : C = 0
  case neg =>
    have hd := HD.out
    rw [if_pos hc] at hd
    have hls := HLS.out
    rw [if_neg (by omega)] at hls
    have hlt := HLT.out
    rw [if_neg (by omega)] at hlt
    subst hd hls hlt
    have hc' : (C == 0) = false := by simpa using hc
    obtain ⟨r0, q0⟩ := X1.out.r0
    obtain ⟨r1, q1⟩ := X1.out.r1
    go_wp2
    exact bodyPost_ret (v := .tuple #[.agg #[.slice none 0 0, .slice none 0 0], .int .i64 1]) (by simp [results, Tryd.results28, go_sem, r0, r1]) rfl ⟨_, _, [], rfl, World.ownsRow_nil _ _ _ _, tRow_nil _ _, rfl, (B1.out.setCell (by simp) _).setCell (by simp) _⟩
  subst hc
  have hz := check_zero HC.out.symm
  have HZ := hide hz
  have hfew := check_few HC.out.symm
  clear hz HC
  have hd1 := HD.out
  rw [if_neg (by omega)] at hd1
  have HD1 := hide hd1
  clear hd1 HD
  go_wp2_with fail
  refine (isName_any t _).mono ?_
  rintro e w2 ⟨rfl, hB⟩
  have X2 := hide (X1.out.below hB X1.out.lt')
  have B2 := hide (B1.out.trans (hB.mono B1.out.size))
  clear hB X1 B1
  by_cases hcode : nameOk t = false ∨ rt = false
  · have hd := HD1.out
    rw [if_pos hcode] at hd
    have hls := HLS.out
    rw [if_neg (by omega)] at hls
    have hlt := HLT.out
    rw [if_neg (by omega)] at hlt
    subst hd hls hlt
    obtain ⟨r0, q0⟩ := X2.out.r0
    obtain ⟨r1, q1⟩ := X2.out.r1
    cases hn : nameOk t with
    | false =>
      clear hcode
      go_wp2
      exact bodyPost_ret (v := .tuple #[.agg #[.slice none 0 0, .slice none 0 0], .int .i64 2]) (by simp [results, Tryd.results28, go_sem, r0, r1]) rfl ⟨_, _, [], rfl, World.ownsRow_nil _ _ _ _, tRow_nil _ _, rfl, (B2.out.setCell (by simp) _).setCell (by simp) _⟩
    | true =>
      have hbig : rt = false := hcode.resolve_left (by simp [hn])
      subst hbig
      clear hcode
      go_wp2
      exact bodyPost_ret (v := .tuple #[.agg #[.slice none 0 0, .slice none 0 0], .int .i64 2]) (by simp [results, Tryd.results28, go_sem, r0, r1]) rfl ⟨_, _, [], rfl, World.ownsRow_nil _ _ _ _, tRow_nil _ _, rfl, (B2.out.setCell (by simp) _).setCell (by simp) _⟩
  have hd2 := HD1.out
  rw [if_neg hcode] at hd2
  have HD2 := hide hd2
  have hn : nameOk t = true := by
    cases h : nameOk t with
    | true => rfl
    | false => exact absurd (.inl h) hcode
  have hbig : rt = true := by
    cases rt with
    | true => rfl
    | false => exact absurd (.inr rfl) hcode
  subst hbig
  clear hd2 HD1 hcode
  have k0 := X2.out.a0
  have k1 := X2.out.a1
  rw [hn]
  go_wp2_with fail
  refine (without_any a0 n0 c0 f0 a1 n1 c1 f1 t _ hn0 hn1 (V0.out.below B2.out (Nat.le_refl _)) (V1.out.below B2.out (Nat.le_refl _)) HF.out HZ.out.2.2).mono ?_
  rintro e w3 ⟨v0, v1, R, rfl, hO, hR, hM, hB⟩
  have hlt2 := X2.out.lt
  have X3 := hide (X2.out.below hB X2.out.lt')
  have B3 := hide (B2.out.trans (hB.mono B2.out.size))
  obtain ⟨sa, sc, rfl⟩ := own_slice hO
  obtain ⟨ta, tc, rfl⟩ := own_slice hR.own
  have eR : R.length = (keepT f1 t n1).length := by rw [← hM]; simp
  have hl0 := keepS_len f0 t n0
  have hl1 := keepT_len f1 t n1
  obtain ⟨L, hL⟩ : ∃ L, L = keepS f0 t n0 := ⟨_, rfl⟩
  obtain ⟨K, hK⟩ : ∃ K, K = keepT f1 t n1 := ⟨_, rfl⟩
  rw [← hL] at hO hl0 ⊢
  rw [← hK] at hM hl1 eR
  have hd3 := HD2.out
  rw [← hL, ← hK] at hd3
  have hls := HLS.out
  rw [← hL] at hls
  have hlt := HLT.out
  rw [← hK] at hlt
  have ER := hide eR
  have hlr : R.length ≤ n1 := by omega
  clear HD2 HLS HLT hL hK hB k0 k1 hn X2 B2 eR
  have HM := hide hM
  have O3 := hide hO
  have T3 := hide hR
  have hll : (L.length : Int) ≤ 1048576 := by omega
  have hlr' : (R.length : Int) ≤ 1048576 := by omega
  clear hO hR hM
  have DB := hide ((Below.refl w3.heap.size w3).alloc (Nat.le_refl _) (.cells #[.slice sa L.length sc, .slice ta R.length tc] 30))
  have K8 := hide (twoF_box w3 (.slice sa L.length sc) (.slice ta R.length tc) 30)
  have X4 := hide (X3.out.below DB.out X3.out.lt')
  have B4 := hide (B3.out.trans (DB.out.mono B3.out.size))
  have O4 := hide (own_below O3.out DB.out (Nat.le_refl _))
  have T4 := hide (T3.out.below DB.out (Nat.le_refl _))
  have hx8 : w.heap.size + 1 < w3.heap.size := X3.out.lt
  clear O3 T3 X3 B3 DB
  go_wp2_with fail
  generalize w3.alloc (.cells #[.slice sa L.length sc, .slice ta R.length tc] 30) = w4 at K8 X4 B4 O4 T4 ⊢
  generalize w3.heap.size = X at K8 hx8 ⊢
  refine (things_any sa ta L.length sc R.length tc _ hll hlr').mono ?_
  rintro e w5 ⟨rfl, hB⟩
  have X5 := hide (X4.out.below hB X4.out.lt')
  have B5 := hide (B4.out.trans (hB.mono B4.out.size))
  have O5 := hide (own_below O4.out hB (Nat.le_refl _))
  have T5 := hide (T4.out.below hB (Nat.le_refl _))
  have c8 := (hB.cell (p := ⟨X, 0, none⟩) K8.out.lt).trans K8.out.c0
  have c9 := (hB.cell (p := ⟨X, 1, none⟩) K8.out.lt).trans K8.out.c1
  clear hB X4 B4 O4 T4 K8
  obtain ⟨r0, q0⟩ := X5.out.r0
  obtain ⟨r1, q1⟩ := X5.out.r1
  by_cases hc3 : (L.length : Int) + R.length = 200
  · rw [if_pos (by have := ER.out; omega)] at hd3
    rw [if_neg (by omega)] at hls hlt
    subst hd3 hls hlt
    rw [hc3]
    clear c8 c9
    go_wp2
    exact bodyPost_ret (v := .tuple #[.agg #[.slice none 0 0, .slice none 0 0], .int .i64 3]) (by simp [results, Tryd.results28, go_sem, r0, r1]) rfl ⟨_, _, [], rfl, World.ownsRow_nil _ _ _ _, tRow_nil _ _, rfl, (B5.out.setCell (by simp) _).setCell (by simp) _⟩
  have hc4 : ((L.length : Int) + R.length == 200) = false := by simpa using hc3
  rw [if_neg (by have := ER.out; omega)] at hd3
  rw [if_pos hd3] at hls hlt
  subst hd3 hls hlt
  have O6 := hide (own_mono (own_set (own_set (R := w.heap.size + 1) (j := 0) O5.out (by omega) (.slice sa LS.length sc)) (R := w.heap.size + 1) (j := 1) (by omega) (.slice ta R.length tc)) (base' := w.heap.size) (by omega))
  have T6 := hide (tRow_mono ((T5.out.set (X := w.heap.size + 1) (j := 0) (by omega) (.slice sa LS.length sc)).set (X := w.heap.size + 1) (j := 1) (by omega) (.slice ta R.length tc)) (base' := w.heap.size) (by omega))
  clear O5 T5
  go_wp2
  exact bodyPost_ret (v := .tuple #[.agg #[.slice sa LS.length sc, .slice ta R.length tc], .int .i64 0]) (by simp [results, Tryd.results28, go_sem, r0, r1]) rfl ⟨_, _, R, rfl, O6.out, T6.out, HM.out, (B5.out.setCell (by simp) _).setCell (by simp) _⟩

end Go.Proofs.YthbigpnaepbhjaaDoor.Vp
