/-
  Marks of targets.
-/
import Derived.Test.YtpbpbjcnbhejgaaDoorMIns
import Derived.Test.YtpbpbjcnbhejgaaDoorDTarget
namespace Go.Proofs.YtpbpbjcnbhejgaaDoor.Vp
open Go.RowKit

/-- The mark of target i's name. -/
def kAt (m : Nat → Nat) (k0 : Nat) : Nat → Nat
  | 0 => k0
  | i + 1 => kAt m k0 i + 1 + m i * 3
theorem kAt_le {m : Nat → Nat} {k0 n : Nat} (hm : ∀ i, i < n → m i ≤ 1048576) : kAt m k0 n ≤ k0 + n * 3145729 := by
  induction n with
  | zero => simp [kAt]
  | succ j ih =>
    have h1 := ih (fun i hi => hm i (by omega))
    have h2 := hm j (by omega)
    simp only [kAt]
    omega
theorem kAt_ge {m : Nat → Nat} {k0 n : Nat} : k0 ≤ kAt m k0 n := by
  induction n with
  | zero => exact Nat.le_refl _
  | succ j ih =>
    simp only [kAt]
    omega
theorem kAt_mono {m : Nat → Nat} {k0 i n : Nat} (h : i ≤ n) : kAt m k0 i ≤ kAt m k0 n := by
  induction n with
  | zero => obtain rfl : i = 0 := by omega
            exact Nat.le_refl _
  | succ j ih =>
    by_cases e : i = j + 1
    · subst e; exact Nat.le_refl _
    · have := ih (by omega)
      simp only [kAt]
      omega

/-- Blocks that are none of P's stand as they stood. -/
structure Touch (P : Nat → Prop) (w w' : World) : Prop where
  os : w'.os = w.os
  tape : w'.tape = w.tape
  output : w'.output = w.output
  size : w.heap.size ≤ w'.heap.size
  block : ∀ k, k < w.heap.size → ¬ P k → w'.heap[k]? = w.heap[k]?
theorem Touch.refl (P : Nat → Prop) (w : World) : Touch P w w := ⟨rfl, rfl, rfl, Nat.le_refl _, fun _ _ _ => rfl⟩
theorem Touch.trans {P : Nat → Prop} {a b c : World} (h : Touch P a b) (k : Touch P b c) : Touch P a c :=
  ⟨k.os.trans h.os, k.tape.trans h.tape, k.output.trans h.output, Nat.le_trans h.size k.size, fun i hi ho => (k.block i (Nat.lt_of_lt_of_le hi h.size) ho).trans (h.block i hi ho)⟩
theorem Touch.of_below {P : Nat → Prop} {B : Nat} {w w' : World} (h : Below B w w') (hB : w.heap.size ≤ B) : Touch P w w' :=
  ⟨h.os, h.tape, h.output, h.size, fun i hi _ => h.block i (Nat.lt_of_lt_of_le hi hB)⟩
theorem Touch.below {P : Nat → Prop} {B : Nat} {a w w' : World} (h : Touch P a w) (hb : Below B w w') (hB : w.heap.size ≤ B) : Touch P a w' := h.trans (Touch.of_below hb hB)
theorem Touch.setCell {P : Nat → Prop} {a w : World} (h : Touch P a w) {p : Addr} (hp : P p.block) (v : Value) : Touch P a (w.setCell p v) :=
  h.trans ⟨rfl, rfl, rfl, by simp [World.setCell], fun k _ ho => Below.heap_setCell _ _ _ _ (fun e => ho (e ▸ hp))⟩
theorem Touch.of_within {P : Nat → Prop} {b : Nat} {w w' : World} (h : Within b (b + 1) w w') (hb : P b) : Touch P w w' :=
  ⟨h.os, h.tape, h.output, h.size, fun k hk ho => h.block k hk (by rcases Nat.lt_trichotomy k b with c | c | c; exact .inl c; exact absurd (c ▸ hb) ho; exact .inr c)⟩
theorem Touch.mono {P Q : Nat → Prop} {w w' : World} (h : Touch P w w') (hPQ : ∀ k, P k → Q k) : Touch Q w w' :=
  ⟨h.os, h.tape, h.output, h.size, fun k hk ho => h.block k hk (fun hp => ho (hPQ k hp))⟩
theorem Cells.touch {w w' : World} {b off m : Nat} {F : Nat → Value} {P : Nat → Prop} (h : Cells w b off m F) (hw : Touch P w w') (hb : ¬ P b) : Cells w' b off m F := by
  have e := hw.block b h.1 hb
  exact ⟨Nat.lt_of_lt_of_le h.1 hw.size, fun j hj => ⟨(World.cell?_of_block (a := ⟨b, off + j, none⟩) e).trans (h.2 j hj).1, (World.frozen?_of_block (a := ⟨b, off + j, none⟩) e).trans (h.2 j hj).2⟩⟩

/-- Cells of n targets in block T from off on; each action is a row of its own, in block B i. -/
structure TCells (w : World) (T off n : Nat) (B m : Nat → Nat) : Prop where
  row : ∃ F, Cells w T off (n * 2) F ∧ ∀ i, i < n → ∃ cap, F (i * 2 + 1) = .slice (some ⟨B i, 0, none⟩) (m i) cap
  act : ∀ i, i < n → ∃ G, Cells w (B i) 0 (m i * 3) G
  apart : ∀ i, i < n → B i ≠ T
  each : ∀ i j, i < n → j < n → i ≠ j → B i ≠ B j
/-- .. marked from k0 on. -/
structure TMarked (w : World) (T off n : Nat) (B m : Nat → Nat) (k0 : Nat) : Prop where
  row : ∃ F, Cells w T off (n * 2) F ∧ ∀ i, i < n → F (i * 2) = .string (mkT ((kAt m k0 i : Nat) : Int)) ∧ ∃ cap, F (i * 2 + 1) = .slice (some ⟨B i, 0, none⟩) (m i) cap
  act : ∀ i, i < n → Cells w (B i) 0 (m i * 3) (markIns (kAt m k0 i + 1))
theorem TMarked.below {w w' : World} {T off n k0 Z : Nat} {B m : Nat → Nat} (h : TMarked w T off n B m k0) (hb : Below Z w w') (hZ : w.heap.size ≤ Z) : TMarked w' T off n B m k0 := by
  obtain ⟨⟨F, hF, h1⟩, h2⟩ := h
  exact ⟨⟨F, hF.below hb (Nat.lt_of_lt_of_le hF.1 hZ), h1⟩, fun i hi => (h2 i hi).below hb (Nat.lt_of_lt_of_le (h2 i hi).1 hZ)⟩

set_option maxRecDepth 100000 in
set_option maxHeartbeats 4000000 in
theorem markTargetS_row (T off n cap k0 : Nat) (B m : Nat → Nat) (w : World) (hn : (n : Int) ≤ 1048576) (hm : ∀ i, i < n → m i ≤ 1048576) (h1 : 1 ≤ (k0 : Int)) (h2 : (k0 : Int) ≤ 1125899906842624) (hC : TCells w T off n B m) :
    Calls Tryd.prog 65 #[.slice (some ⟨T, off, none⟩) n cap, .int .i64 k0] w fun e w' => e = .returned (.int .i64 ((kAt m k0 n : Nat) : Int)) ∧ TMarked w' T off n B m k0 ∧ Touch (fun x => x = T ∨ ∃ i, i < n ∧ x = B i) w w' := by
  have HC := hide hC
  have HM := hide hm
  clear hC hm
  go_enter Tryd.func65, Tryd.ntmps65
  go_wp2
  go_loopw [1, 5] (fun v i wr => ∃ (k q : Nat) (F : Nat → Value), k ≤ n ∧ Hid (q = kAt m k0 k) ∧ i = .int .i64 k ∧ v = .int .i64 q ∧ Hid (Cells wr T off (n * 2) F) ∧ Hid (∀ i, i < n → ∃ cap, F (i * 2 + 1) = .slice (some ⟨B i, 0, none⟩) (m i) cap) ∧ Hid (∀ i, i < k → F (i * 2) = .string (mkT ((kAt m k0 i : Nat) : Int))) ∧ Hid (∀ i, i < k → Cells wr (B i) 0 (m i * 3) (markIns (kAt m k0 i + 1))) ∧ Hid (∀ i, k ≤ i → i < n → ∃ G, Cells wr (B i) 0 (m i * 3) G) ∧ Hid (Touch (fun x => x = T ∨ ∃ i, i < n ∧ x = B i) w wr)) (fun _ i _ => n - (intOf i).toNat)
  case atStart =>
    obtain ⟨F, hF, hs⟩ := HC.out.row
    exact ⟨0, k0, F, by omega, rfl, rfl, rfl, hF, hs, fun i hi => absurd hi (Nat.not_lt_zero _), fun i hi => absurd hi (Nat.not_lt_zero _), fun i _ hi => HC.out.act i hi, Touch.refl _ _⟩
  case round =>
    obtain ⟨k, q, F, hk, HQ, rfl, rfl, HC0, HSl, HN, HD, HG, HW0⟩ := hrel
    have hq1 : 1 ≤ (q : Int) := by have := HQ.out; have := kAt_ge (m := m) (k0 := k0) (n := k); omega
    have hq2 : (q : Int) ≤ 1152921504600000000 := by have := HQ.out; have := kAt_le (m := m) (k0 := k0) (n := k) (fun i hi => HM.out i (by omega)); omega
    by_cases hlt : k < n
    · have hkk : k * 2 + 2 ≤ n * 2 := by omega
      have hmk := HM.out k hlt
      obtain ⟨cs, hcs⟩ := HSl.out k hlt
      obtain ⟨c0, z0⟩ := HC0.out.at (off + k * 2) (k * 2) (by omega) (by omega)
      go_wp2_with fail
      refine (markText_int (q : Int) _ (by omega) (by omega)).mono ?_
      rintro e w1 ⟨rfl, hB1⟩
      have HC1 := hide (HC0.out.below hB1 HC0.out.1)
      have HW1 := hide (HW0.out.below hB1 (Nat.le_refl _))
      have HD1 : Hid (∀ i, i < k → Cells w1 (B i) 0 (m i * 3) (markIns (kAt m k0 i + 1))) := fun i hi => (HD.out i hi).below hB1 (HD.out i hi).1
      have HG1 : Hid (∀ i, k ≤ i → i < n → ∃ G, Cells w1 (B i) 0 (m i * 3) G) := fun i h1 h2 => by
        obtain ⟨G, hG⟩ := HG.out i h1 h2
        exact ⟨G, hG.below hB1 hG.1⟩
      clear hB1 c0 z0
      obtain ⟨c0, z0⟩ := HC1.out.at (off + k * 2) (k * 2) (by omega) (by omega)
      have HS0 := hide (HC1.out.setAt (off + k * 2) (k * 2) (by omega) (by omega) (.string (mkT (q : Int))))
      have HX0 := hide (HW1.out.setCell (p := ⟨T, off + k * 2, none⟩) (.inl rfl) (.string (mkT (q : Int))))
      have WS : Hid (Within T (T + 1) w1 (w1.setCell ⟨T, off + k * 2, none⟩ (.string (mkT (q : Int))))) := (Within.refl T (T + 1) w1).setCell (p := ⟨T, off + k * 2, none⟩) (Nat.le_refl _) (Nat.lt_succ_self _) _
      have c1 : (w1.setCell ⟨T, off + k * 2, none⟩ (.string (mkT (q : Int)))).cell? ⟨T, off + k * 2 + 1, none⟩ = some (.slice (some ⟨B k, 0, none⟩) (m k) cs) := by
        have := (HS0.out.at (off + k * 2 + 1) (k * 2 + 1) (by omega) (by omega)).1
        rw [if_neg (by omega), hcs] at this
        exact this
      have HD2 : Hid (∀ i, i < k → Cells (w1.setCell ⟨T, off + k * 2, none⟩ (.string (mkT (q : Int)))) (B i) 0 (m i * 3) (markIns (kAt m k0 i + 1))) := fun i hi => (HD1.out i hi).within WS.out (by have := HC.out.apart i (by omega); omega)
      have HG2 : Hid (∀ i, k ≤ i → i < n → ∃ G, Cells (w1.setCell ⟨T, off + k * 2, none⟩ (.string (mkT (q : Int)))) (B i) 0 (m i * 3) G) := fun i h1 h2 => by
        obtain ⟨G, hG⟩ := HG1.out i h1 h2
        exact ⟨G, hG.within WS.out (by have := HC.out.apart i h2; omega)⟩
      obtain ⟨G, hG⟩ := HG2.out k (Nat.le_refl _) hlt
      have GK := hide hG
      clear hG HC1 HW1 HD1 HG1 hcs
      go_wp2_with fail
      generalize w1.setCell ⟨T, off + k * 2, none⟩ (.string (mkT (q : Int))) = v1 at HS0 HX0 c1 HD2 HG2 GK ⊢
      clear WS
      refine (markInsS_row (B k) 0 (m k) cs (q + 1) G _ (by omega) (by omega) (by omega) GK.out).mono ?_
      rintro e w2 ⟨rfl, hM2, hW2⟩
      have HC3 := hide (HS0.out.within hW2 (by have := HC.out.apart k hlt; omega))
      have HW3 := hide (HX0.out.trans (Touch.of_within hW2 (.inr ⟨k, hlt, rfl⟩)))
      have HM2 := hide hM2
      have HD3 : Hid (∀ i, i < k → Cells w2 (B i) 0 (m i * 3) (markIns (kAt m k0 i + 1))) := fun i hi => (HD2.out i hi).within hW2 (by have := HC.out.each i k (by omega) hlt (by omega); omega)
      have HG3 : Hid (∀ i, k + 1 ≤ i → i < n → ∃ G, Cells w2 (B i) 0 (m i * 3) G) := fun i h1 h2 => by
        obtain ⟨G', hG'⟩ := HG2.out i (by omega) h2
        exact ⟨G', hG'.within hW2 (by have := HC.out.each i k h2 hlt (by omega); omega)⟩
      have HE : Hid (kAt m k0 (k + 1) = q + 1 + m k * 3) := by show kAt m k0 k + 1 + m k * 3 = _; rw [HQ.out]
      clear hM2 hW2 c1 c0 z0
      go_wp2
      refine ⟨⟨k + 1, q + 1 + m k * 3, _, by omega, HE.out.symm, by go_num, rfl, HC3.out, ?_, ?_, ?_, HG3.out, HW3.out⟩, by simp [intOf]; omega⟩
      · intro i hi
        obtain ⟨cap', hc'⟩ := HSl.out i hi
        exact ⟨cap', by rw [if_neg (by omega)]; exact hc'⟩
      · intro i hi
        by_cases e : i = k
        · subst e
          rw [if_pos rfl, HQ.out]
        · rw [if_neg (by omega)]
          exact HN.out i (by omega)
      · intro i hi
        by_cases e : i = k
        · subst e
          have := HM2.out
          rw [HQ.out] at this
          exact this
        · exact HD3.out i (by omega)
    · have e : k = n := by omega
      subst e
      have HV : Hid ((q : Int) = ((kAt m k0 k : Nat) : Int)) := by show (q : Int) = _; rw [HQ.out]
      go_wp2
      go_ret
      exact ⟨by show Ending.returned (.int .i64 (q : Int)) = _; rw [HV.out], ⟨⟨F, HC0.out, fun i hi => ⟨HN.out i hi, HSl.out i hi⟩⟩, HD.out⟩, HW0.out⟩

set_option maxRecDepth 100000 in
set_option maxHeartbeats 4000000 in
theorem heldTargetS_row (T off n cap k0 : Nat) (B m : Nat → Nat) (w : World) (hn : (n : Int) ≤ 1048576) (hm : ∀ i, i < n → m i ≤ 1048576) (h1 : 1 ≤ (k0 : Int)) (h2 : (k0 : Int) ≤ 1125899906842624) (hC : TMarked w T off n B m k0) (hT : T < w.heap.size) :
    Calls Tryd.prog 67 #[.slice (some ⟨T, off, none⟩) n cap, .int .i64 k0] w fun e w' => e = .returned (.int .i64 ((kAt m k0 n : Nat) : Int)) ∧ Below w.heap.size w w' := by
  have HC := hide hC
  have HM := hide hm
  clear hC hm
  go_enter Tryd.func67, Tryd.ntmps67
  go_wp2
  go_loopw [1, 5] (fun v i wr => ∃ k q : Nat, k ≤ n ∧ Hid (q = kAt m k0 k) ∧ i = .int .i64 k ∧ v = .int .i64 q ∧ Hid (Below w.heap.size w wr)) (fun _ i _ => n - (intOf i).toNat)
  case atStart => exact ⟨0, k0, by omega, rfl, rfl, rfl, Below.refl _ _⟩
  case round =>
    obtain ⟨k, q, hk, HQ, rfl, rfl, HB0⟩ := hrel
    have hq1 : 1 ≤ (q : Int) := by have := HQ.out; have := kAt_ge (m := m) (k0 := k0) (n := k); omega
    have hq2 : (q : Int) ≤ 1152921504600000000 := by have := HQ.out; have := kAt_le (m := m) (k0 := k0) (n := k) (fun i hi => HM.out i (by omega)); omega
    have hb0 : T < wr.heap.size := Nat.lt_of_lt_of_le hT HB0.out.size
    have HC0 := hide (HC.out.below HB0.out (Nat.le_refl _))
    by_cases hlt : k < n
    · have hkk : k * 2 + 2 ≤ n * 2 := by omega
      have hmk := HM.out k hlt
      obtain ⟨F, hF, hFs⟩ := HC0.out.row
      obtain ⟨hnm, cs, hcs⟩ := hFs k hlt
      have c0 : wr.cell? ⟨T, off + k * 2, none⟩ = some (.string (mkT (q : Int))) := by
        have := (hF.at (off + k * 2) (k * 2) (by omega) (by omega)).1
        rw [hnm, ← HQ.out] at this
        exact this
      have c1 : wr.cell? ⟨T, off + k * 2 + 1, none⟩ = some (.slice (some ⟨B k, 0, none⟩) (m k) cs) := by
        have := (hF.at (off + k * 2 + 1) (k * 2 + 1) (by omega) (by omega)).1
        rw [hcs] at this
        exact this
      clear hF hFs hnm hcs
      go_wp2_with fail
      go_region_with (go_at_call 99; refine (markText_int (q : Int) _ (by omega) (by omega)).mono ?_; rintro e w1 ⟨rfl, hB⟩; have D1 : Hid (Below wr.heap.size wr w1) := ⟨hB.os, hB.tape, hB.output, hB.size, hB.block⟩; have HB1 := hide (HB0.out.trans (D1.out.mono HB0.out.size)); have d0 := (D1.out.cell (p := ⟨T, off + k * 2, none⟩) hb0).trans c0; have d1 := (D1.out.cell (p := ⟨T, off + k * 2 + 1, none⟩) hb0).trans c1; have MK := hide (by have := (HC0.out.below D1.out (Nat.le_refl _)).act k hlt; rw [← HQ.out] at this; exact this); clear hB D1)
      all_goals
        clear c0 c1 d0
        go_wp2_with fail
        refine (heldInsS_row (B k) 0 (m k) cs (q + 1) _ (by omega) (by omega) (by omega) MK.out).mono ?_
        rintro e w2 ⟨rfl, hB2⟩
        have HB2 := hide (HB1.out.trans (hB2.mono HB1.out.size))
        have HE : Hid (kAt m k0 (k + 1) = q + 1 + m k * 3) := by show kAt m k0 k + 1 + m k * 3 = _; rw [HQ.out]
        clear hB2 d1
        go_wp2
        exact ⟨⟨k + 1, q + 1 + m k * 3, by omega, HE.out.symm, by go_num, rfl, HB2.out⟩, by simp [intOf]; omega⟩
    · have e : k = n := by omega
      subst e
      have HV : Hid ((q : Int) = ((kAt m k0 k : Nat) : Int)) := by show (q : Int) = _; rw [HQ.out]
      go_wp2
      go_ret
      exact ⟨by show Ending.returned (.int .i64 (q : Int)) = _; rw [HV.out], HB0.out⟩

set_option maxHeartbeats 1000000 in
theorem markTargetS_nil (a : Option Addr) (cap k0 : Nat) (w : World) : Calls Tryd.prog 65 #[.slice a 0 cap, .int .i64 k0] w fun e w' => e = .returned (.int .i64 (k0 : Int)) ∧ w' = w := by
  go_enter Tryd.func65, Tryd.ntmps65
  go_wp2
  go_loop [1, 5] (fun v i => v = .int .i64 k0 ∧ i = .int .i64 0) (fun _ _ => 0)
  case atStart => exact ⟨rfl, rfl⟩
  case round =>
    obtain ⟨rfl, rfl⟩ := hrel
    go_wp2
    go_ret
    exact ⟨rfl, rfl⟩
set_option maxHeartbeats 1000000 in
theorem heldTargetS_nil (a : Option Addr) (cap k0 : Nat) (w : World) : Calls Tryd.prog 67 #[.slice a 0 cap, .int .i64 k0] w fun e w' => e = .returned (.int .i64 (k0 : Int)) ∧ w' = w := by
  go_enter Tryd.func67, Tryd.ntmps67
  go_wp2
  go_loop [1, 5] (fun v i => v = .int .i64 k0 ∧ i = .int .i64 0) (fun _ _ => 0)
  case atStart => exact ⟨rfl, rfl⟩
  case round =>
    obtain ⟨rfl, rfl⟩ := hrel
    go_wp2
    go_ret
    exact ⟨rfl, rfl⟩

end Go.Proofs.YtpbpbjcnbhejgaaDoor.Vp
