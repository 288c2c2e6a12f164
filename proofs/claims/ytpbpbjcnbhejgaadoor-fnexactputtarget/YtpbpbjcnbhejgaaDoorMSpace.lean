/-
  Marks of spaces. Written by tools/mspace.py.
-/
import Derived.Test.YtpbpbjcnbhejgaaDoorMTarget
import Derived.Test.YtpbpbjcnbhejgaaDoorMSource
import Derived.Test.YtpbpbjcnbhejgaaDoorDSpace
namespace Go.Proofs.YtpbpbjcnbhejgaaDoor.Vp
open Go.RowKit

/-- Rows of a space that may be written, all apart, in blocks of P. -/
structure SCells (w : World) (a0 : Option Addr) (n0 : Nat) (a1 : Option Addr) (n1 : Nat) (P : Nat → Prop) : Prop where
  src : n0 = 0 ∨ ∃ S, a0 = some ⟨S, 0, none⟩ ∧ P S ∧ ∃ F, Cells w S 0 (n0 * 2) F
  tgt : n1 = 0 ∨ ∃ T B m, a1 = some ⟨T, 0, none⟩ ∧ TCells w T 0 n1 B m ∧ P T ∧ (∀ i, i < n1 → P (B i)) ∧ (∀ i, i < n1 → m i ≤ 1048576) ∧ ∀ S, a0 = some ⟨S, 0, none⟩ → n0 ≠ 0 → T ≠ S ∧ ∀ i, i < n1 → B i ≠ S
/-- .. marked from 1 on; r is the next mark. -/
structure SMarked (w : World) (a0 : Option Addr) (n0 : Nat) (a1 : Option Addr) (n1 r : Nat) : Prop where
  src : n0 = 0 ∨ ∃ S, a0 = some ⟨S, 0, none⟩ ∧ Cells w S 0 (n0 * 2) (markSource 1)
  tgt : (n1 = 0 ∧ r = 1 + n0 * 2) ∨ ∃ T B m, a1 = some ⟨T, 0, none⟩ ∧ TMarked w T 0 n1 B m (1 + n0 * 2) ∧ (∀ i, i < n1 → m i ≤ 1048576) ∧ r = kAt m (1 + n0 * 2) n1
theorem TCells.within {w w' : World} {T off n lo hi : Nat} {B m : Nat → Nat} (h : TCells w T off n B m) (hw : Within lo hi w w') (hT : T < lo ∨ hi ≤ T) (hB : ∀ i, i < n → B i < lo ∨ hi ≤ B i) : TCells w' T off n B m := by
  obtain ⟨⟨F, hF, hs⟩, ha, h1, h2⟩ := h
  refine ⟨⟨F, hF.within hw hT, hs⟩, fun i hi => ?_, h1, h2⟩
  obtain ⟨G, hG⟩ := ha i hi
  exact ⟨G, hG.within hw (hB i hi)⟩
theorem TCells.below {w w' : World} {T off n Z : Nat} {B m : Nat → Nat} (h : TCells w T off n B m) (hb : Below Z w w') (hZ : w.heap.size ≤ Z) : TCells w' T off n B m := by
  obtain ⟨⟨F, hF, hs⟩, ha, h1, h2⟩ := h
  refine ⟨⟨F, hF.below hb (Nat.lt_of_lt_of_le hF.1 hZ), hs⟩, fun i hi => ?_, h1, h2⟩
  obtain ⟨G, hG⟩ := ha i hi
  exact ⟨G, hG.below hb (Nat.lt_of_lt_of_le hG.1 hZ)⟩
theorem TMarked.lt {w : World} {T off n k0 : Nat} {B m : Nat → Nat} (h : TMarked w T off n B m k0) : T < w.heap.size := by
  obtain ⟨⟨F, hF, _⟩, _⟩ := h
  exact hF.1
theorem SMarked.below {w w' : World} {a0 a1 : Option Addr} {n0 n1 r Z : Nat} (h : SMarked w a0 n0 a1 n1 r) (hb : Below Z w w') (hZ : w.heap.size ≤ Z) : SMarked w' a0 n0 a1 n1 r := by
  obtain ⟨h0, h1⟩ := h
  refine ⟨?_, ?_⟩
  · rcases h0 with h | ⟨S, e, hS⟩
    · exact .inl h
    · exact .inr ⟨S, e, hS.below hb (Nat.lt_of_lt_of_le hS.1 hZ)⟩
  · rcases h1 with h | ⟨T, B, m, e, hT, hm, hr⟩
    · exact .inl h
    · exact .inr ⟨T, B, m, e, hT.below hb hZ, hm, hr⟩

set_option maxRecDepth 100000 in
set_option maxHeartbeats 2000000 in
theorem markSpace_00 (P : Nat → Prop) (a0 : Option Addr) (a1 : Option Addr) (c0 c1 : Nat) (w : World) :
    Calls Tryd.prog 22 #[.agg #[.slice a0 0 c0, .slice a1 0 c1], .int .i64 1] w fun e w' => ∃ r : Nat, e = .returned (.int .i64 r) ∧ SMarked w' a0 0 a1 0 r ∧ Touch P w w' := by
  have A0 := hide ((Below.refl w.heap.size w).alloc (Nat.le_refl _) (.cells #[.slice a0 0 c0, .slice a1 0 c1] 42))
  have k1 : (w.alloc (.cells #[.slice a0 0 c0, .slice a1 0 c1] 42)).cell? ⟨w.heap.size, 1, none⟩ = some (.slice a1 0 c1) := by simp
  go_enter Tryd.func22, Tryd.ntmps22
  go_wp2_with fail
  refine (markSourceS_nil a0 c0 1 _).mono ?_
  rintro e w1 ⟨rfl, rfl⟩
  have W1 := hide (Touch.of_below (P := P) A0.out (Nat.le_refl _))
  go_wp2_with fail
  refine (markTargetS_nil a1 c1 1 _).mono ?_
  rintro e w2 ⟨rfl, rfl⟩
  have W2 := W1
  go_wp2
  go_ret
  exact ⟨_, rfl, ⟨.inl rfl, .inl ⟨rfl, rfl⟩⟩, W2.out⟩

set_option maxRecDepth 100000 in
set_option maxHeartbeats 2000000 in
theorem markSpace_01 (P : Nat → Prop) (a0 : Option Addr) (n1 : Nat) (c0 c1 : Nat) (w : World) (T : Nat) (B m : Nat → Nat) (hT : TCells w T 0 n1 B m) (hTl : P T) (hB : ∀ i, i < n1 → P (B i)) (hm : ∀ i, i < n1 → m i ≤ 1048576) (hn1 : (n1 : Int) ≤ 1048576) :
    Calls Tryd.prog 22 #[.agg #[.slice a0 0 c0, .slice (some ⟨T, 0, none⟩) n1 c1], .int .i64 1] w fun e w' => ∃ r : Nat, e = .returned (.int .i64 r) ∧ SMarked w' a0 0 (some ⟨T, 0, none⟩) n1 r ∧ Touch P w w' := by
  have A0 := hide ((Below.refl w.heap.size w).alloc (Nat.le_refl _) (.cells #[.slice a0 0 c0, .slice (some ⟨T, 0, none⟩) n1 c1] 42))
  have k1 : (w.alloc (.cells #[.slice a0 0 c0, .slice (some ⟨T, 0, none⟩) n1 c1] 42)).cell? ⟨w.heap.size, 1, none⟩ = some (.slice (some ⟨T, 0, none⟩) n1 c1) := by simp
  have HT := hide (hT.below A0.out (Nat.le_refl _))
  have HTl := hide hTl
  have HB := hide hB
  have HM := hide hm
  clear hT hTl hB hm
  go_enter Tryd.func22, Tryd.ntmps22
  go_wp2_with fail
  refine (markSourceS_nil a0 c0 1 _).mono ?_
  rintro e w1 ⟨rfl, rfl⟩
  have W1 := hide (Touch.of_below (P := P) A0.out (Nat.le_refl _))
  have T1 := HT
  go_wp2_with fail
  refine (markTargetS_row T 0 n1 c1 1 B m _ hn1 HM.out (by omega) (by omega) T1.out).mono ?_
  rintro e w2 ⟨rfl, hM2, hW2⟩
  have M2 := hide hM2
  have W2 := hide (W1.out.trans (hW2.mono (Q := P) (fun x hx => by rcases hx with rfl | ⟨i, hi, rfl⟩; exact HTl.out; exact HB.out i hi)))
  clear hM2 hW2
  go_wp2
  go_ret
  exact ⟨_, rfl, ⟨.inl rfl, .inr ⟨T, B, m, rfl, M2.out, HM.out, rfl⟩⟩, W2.out⟩

set_option maxRecDepth 100000 in
set_option maxHeartbeats 2000000 in
theorem markSpace_10 (P : Nat → Prop) (a1 : Option Addr) (n0 : Nat) (c0 c1 : Nat) (w : World) (S : Nat) (F : Nat → Value) (hS : P S) (hF : Cells w S 0 (n0 * 2) F) (hn0 : (n0 : Int) ≤ 1048576) :
    Calls Tryd.prog 22 #[.agg #[.slice (some ⟨S, 0, none⟩) n0 c0, .slice a1 0 c1], .int .i64 1] w fun e w' => ∃ r : Nat, e = .returned (.int .i64 r) ∧ SMarked w' (some ⟨S, 0, none⟩) n0 a1 0 r ∧ Touch P w w' := by
  have A0 := hide ((Below.refl w.heap.size w).alloc (Nat.le_refl _) (.cells #[.slice (some ⟨S, 0, none⟩) n0 c0, .slice a1 0 c1] 42))
  have k1 : (w.alloc (.cells #[.slice (some ⟨S, 0, none⟩) n0 c0, .slice a1 0 c1] 42)).cell? ⟨w.heap.size, 1, none⟩ = some (.slice a1 0 c1) := by simp
  have HF := hide (hF.below A0.out hF.1)
  have HSl := hide hS
  have hSw := hF.1
  clear hF hS
  go_enter Tryd.func22, Tryd.ntmps22
  go_wp2_with fail
  refine (markSourceS_row S 0 n0 c0 1 F _ hn0 (by omega) (by omega) HF.out).mono ?_
  rintro e w1 ⟨rfl, hM1, hW1⟩
  have M1 := hide hM1
  have W1 := hide ((Touch.of_below (P := P) A0.out (Nat.le_refl _)).trans (Touch.of_within hW1 HSl.out))
  have k2 : w1.cell? ⟨w.heap.size, 1, none⟩ = some (.slice a1 0 c1) := (World.cell?_of_block (a := ⟨w.heap.size, 1, none⟩) (hW1.block w.heap.size (by simp) (by omega))).trans k1
  clear hM1 hW1 k1
  go_wp2_with fail
  refine (markTargetS_nil a1 c1 (1 + n0 * 2) _).mono ?_
  rintro e w2 ⟨rfl, rfl⟩
  have W2 := W1
  have M1' := M1
  go_wp2
  go_ret
  exact ⟨_, rfl, ⟨.inr ⟨S, rfl, M1'.out⟩, .inl ⟨rfl, rfl⟩⟩, W2.out⟩

set_option maxRecDepth 100000 in
set_option maxHeartbeats 2000000 in
theorem markSpace_11 (P : Nat → Prop) (n0 : Nat) (n1 : Nat) (c0 c1 : Nat) (w : World) (S : Nat) (F : Nat → Value) (hS : P S) (hF : Cells w S 0 (n0 * 2) F) (hn0 : (n0 : Int) ≤ 1048576) (T : Nat) (B m : Nat → Nat) (hT : TCells w T 0 n1 B m) (hTl : P T) (hB : ∀ i, i < n1 → P (B i)) (hm : ∀ i, i < n1 → m i ≤ 1048576) (hn1 : (n1 : Int) ≤ 1048576) (hap : T ≠ S ∧ ∀ i, i < n1 → B i ≠ S) :
    Calls Tryd.prog 22 #[.agg #[.slice (some ⟨S, 0, none⟩) n0 c0, .slice (some ⟨T, 0, none⟩) n1 c1], .int .i64 1] w fun e w' => ∃ r : Nat, e = .returned (.int .i64 r) ∧ SMarked w' (some ⟨S, 0, none⟩) n0 (some ⟨T, 0, none⟩) n1 r ∧ Touch P w w' := by
  have A0 := hide ((Below.refl w.heap.size w).alloc (Nat.le_refl _) (.cells #[.slice (some ⟨S, 0, none⟩) n0 c0, .slice (some ⟨T, 0, none⟩) n1 c1] 42))
  have k1 : (w.alloc (.cells #[.slice (some ⟨S, 0, none⟩) n0 c0, .slice (some ⟨T, 0, none⟩) n1 c1] 42)).cell? ⟨w.heap.size, 1, none⟩ = some (.slice (some ⟨T, 0, none⟩) n1 c1) := by simp
  have HF := hide (hF.below A0.out hF.1)
  have HSl := hide hS
  have hSw := hF.1
  clear hF hS
  have HT := hide (hT.below A0.out (Nat.le_refl _))
  have HTl := hide hTl
  have HB := hide hB
  have HM := hide hm
  clear hT hTl hB hm
  have HA := hide hap
  clear hap
  go_enter Tryd.func22, Tryd.ntmps22
  go_wp2_with fail
  refine (markSourceS_row S 0 n0 c0 1 F _ hn0 (by omega) (by omega) HF.out).mono ?_
  rintro e w1 ⟨rfl, hM1, hW1⟩
  have M1 := hide hM1
  have W1 := hide ((Touch.of_below (P := P) A0.out (Nat.le_refl _)).trans (Touch.of_within hW1 HSl.out))
  have k2 : w1.cell? ⟨w.heap.size, 1, none⟩ = some (.slice (some ⟨T, 0, none⟩) n1 c1) := (World.cell?_of_block (a := ⟨w.heap.size, 1, none⟩) (hW1.block w.heap.size (by simp) (by omega))).trans k1
  have T1 := hide (HT.out.within hW1 (by have := HA.out.1; omega) (fun i hi => by have := HA.out.2 i hi; omega))
  clear hM1 hW1 k1
  go_wp2_with fail
  refine (markTargetS_row T 0 n1 c1 (1 + n0 * 2) B m _ hn1 HM.out (by omega) (by omega) T1.out).mono ?_
  rintro e w2 ⟨rfl, hM2, hW2⟩
  have M2 := hide hM2
  have W2 := hide (W1.out.trans (hW2.mono (Q := P) (fun x hx => by rcases hx with rfl | ⟨i, hi, rfl⟩; exact HTl.out; exact HB.out i hi)))
  have M1' := hide (M1.out.touch hW2 (fun hx => by rcases hx with hx | ⟨i, hi, hx⟩; exact HA.out.1 hx.symm; exact HA.out.2 i hi hx.symm))
  clear hM2 hW2
  go_wp2
  go_ret
  exact ⟨_, rfl, ⟨.inr ⟨S, rfl, M1'.out⟩, .inr ⟨T, B, m, rfl, M2.out, HM.out, rfl⟩⟩, W2.out⟩

set_option maxRecDepth 100000 in
set_option maxHeartbeats 2000000 in
theorem heldSpace_00 (a0 : Option Addr) (a1 : Option Addr) (c0 c1 : Nat) (w : World) :
    Calls Tryd.prog 23 #[.agg #[.slice a0 0 c0, .slice a1 0 c1], .int .i64 1] w fun e w' => e = .returned (.int .i64 ((1 : Nat) : Int)) ∧ Below w.heap.size w w' := by
  have A0 := hide ((Below.refl w.heap.size w).alloc (Nat.le_refl _) (.cells #[.slice a0 0 c0, .slice a1 0 c1] 42))
  have k1 : (w.alloc (.cells #[.slice a0 0 c0, .slice a1 0 c1] 42)).cell? ⟨w.heap.size, 1, none⟩ = some (.slice a1 0 c1) := by simp
  go_enter Tryd.func23, Tryd.ntmps23
  go_wp2_with fail
  refine (heldSourceS_nil a0 c0 1 _).mono ?_
  rintro e w1 ⟨rfl, rfl⟩
  have B1 := A0
  go_wp2_with fail
  refine (heldTargetS_nil a1 c1 1 _).mono ?_
  rintro e w2 ⟨rfl, rfl⟩
  have B2 := B1
  go_wp2
  go_ret
  exact ⟨rfl, B2.out⟩

set_option maxRecDepth 100000 in
set_option maxHeartbeats 2000000 in
theorem heldSpace_01 (a0 : Option Addr) (n1 : Nat) (c0 c1 : Nat) (w : World) (T : Nat) (B m : Nat → Nat) (hT : TMarked w T 0 n1 B m 1) (hm : ∀ i, i < n1 → m i ≤ 1048576) (hn1 : (n1 : Int) ≤ 1048576) :
    Calls Tryd.prog 23 #[.agg #[.slice a0 0 c0, .slice (some ⟨T, 0, none⟩) n1 c1], .int .i64 1] w fun e w' => e = .returned (.int .i64 ((kAt m 1 n1 : Nat) : Int)) ∧ Below w.heap.size w w' := by
  have A0 := hide ((Below.refl w.heap.size w).alloc (Nat.le_refl _) (.cells #[.slice a0 0 c0, .slice (some ⟨T, 0, none⟩) n1 c1] 42))
  have k1 : (w.alloc (.cells #[.slice a0 0 c0, .slice (some ⟨T, 0, none⟩) n1 c1] 42)).cell? ⟨w.heap.size, 1, none⟩ = some (.slice (some ⟨T, 0, none⟩) n1 c1) := by simp
  have HT := hide (hT.below A0.out (Nat.le_refl _))
  have HM := hide hm
  clear hT hm
  go_enter Tryd.func23, Tryd.ntmps23
  go_wp2_with fail
  refine (heldSourceS_nil a0 c0 1 _).mono ?_
  rintro e w1 ⟨rfl, rfl⟩
  have B1 := A0
  have T1 := HT
  go_wp2_with fail
  refine (heldTargetS_row T 0 n1 c1 1 B m _ hn1 HM.out (by omega) (by omega) T1.out T1.out.lt).mono ?_
  rintro e w2 ⟨rfl, hB2⟩
  have B2 := hide (B1.out.trans (hB2.mono B1.out.size))
  have hge := kAt_ge (m := m) (k0 := 1) (n := n1)
  clear hB2
  go_wp2
  go_ret
  exact ⟨rfl, B2.out⟩

set_option maxRecDepth 100000 in
set_option maxHeartbeats 2000000 in
theorem heldSpace_10 (a1 : Option Addr) (n0 : Nat) (c0 c1 : Nat) (w : World) (S : Nat) (hF : Cells w S 0 (n0 * 2) (markSource 1)) (hn0 : (n0 : Int) ≤ 1048576) :
    Calls Tryd.prog 23 #[.agg #[.slice (some ⟨S, 0, none⟩) n0 c0, .slice a1 0 c1], .int .i64 1] w fun e w' => e = .returned (.int .i64 (((1 + n0 * 2) : Nat) : Int)) ∧ Below w.heap.size w w' := by
  have A0 := hide ((Below.refl w.heap.size w).alloc (Nat.le_refl _) (.cells #[.slice (some ⟨S, 0, none⟩) n0 c0, .slice a1 0 c1] 42))
  have k1 : (w.alloc (.cells #[.slice (some ⟨S, 0, none⟩) n0 c0, .slice a1 0 c1] 42)).cell? ⟨w.heap.size, 1, none⟩ = some (.slice a1 0 c1) := by simp
  have HF := hide (hF.below A0.out hF.1)
  clear hF
  go_enter Tryd.func23, Tryd.ntmps23
  go_wp2_with fail
  refine (heldSourceS_row S 0 n0 c0 1 _ hn0 (by omega) (by omega) HF.out).mono ?_
  rintro e w1 ⟨rfl, hB1⟩
  have B1 := hide (A0.out.trans (hB1.mono (by simp)))
  have k2 := (hB1.cell (p := ⟨w.heap.size, 1, none⟩) (by simp)).trans k1
  clear hB1 k1
  go_wp2_with fail
  refine (heldTargetS_nil a1 c1 (1 + n0 * 2) _).mono ?_
  rintro e w2 ⟨rfl, rfl⟩
  have B2 := B1
  go_wp2
  go_ret
  exact ⟨rfl, B2.out⟩

set_option maxRecDepth 100000 in
set_option maxHeartbeats 2000000 in
theorem heldSpace_11 (n0 : Nat) (n1 : Nat) (c0 c1 : Nat) (w : World) (S : Nat) (hF : Cells w S 0 (n0 * 2) (markSource 1)) (hn0 : (n0 : Int) ≤ 1048576) (T : Nat) (B m : Nat → Nat) (hT : TMarked w T 0 n1 B m (1 + n0 * 2)) (hm : ∀ i, i < n1 → m i ≤ 1048576) (hn1 : (n1 : Int) ≤ 1048576) :
    Calls Tryd.prog 23 #[.agg #[.slice (some ⟨S, 0, none⟩) n0 c0, .slice (some ⟨T, 0, none⟩) n1 c1], .int .i64 1] w fun e w' => e = .returned (.int .i64 ((kAt m (1 + n0 * 2) n1 : Nat) : Int)) ∧ Below w.heap.size w w' := by
  have A0 := hide ((Below.refl w.heap.size w).alloc (Nat.le_refl _) (.cells #[.slice (some ⟨S, 0, none⟩) n0 c0, .slice (some ⟨T, 0, none⟩) n1 c1] 42))
  have k1 : (w.alloc (.cells #[.slice (some ⟨S, 0, none⟩) n0 c0, .slice (some ⟨T, 0, none⟩) n1 c1] 42)).cell? ⟨w.heap.size, 1, none⟩ = some (.slice (some ⟨T, 0, none⟩) n1 c1) := by simp
  have HF := hide (hF.below A0.out hF.1)
  clear hF
  have HT := hide (hT.below A0.out (Nat.le_refl _))
  have HM := hide hm
  clear hT hm
  go_enter Tryd.func23, Tryd.ntmps23
  go_wp2_with fail
  refine (heldSourceS_row S 0 n0 c0 1 _ hn0 (by omega) (by omega) HF.out).mono ?_
  rintro e w1 ⟨rfl, hB1⟩
  have B1 := hide (A0.out.trans (hB1.mono (by simp)))
  have k2 := (hB1.cell (p := ⟨w.heap.size, 1, none⟩) (by simp)).trans k1
  have T1 := hide (HT.out.below hB1 (Nat.le_refl _))
  clear hB1 k1
  go_wp2_with fail
  refine (heldTargetS_row T 0 n1 c1 (1 + n0 * 2) B m _ hn1 HM.out (by omega) (by omega) T1.out T1.out.lt).mono ?_
  rintro e w2 ⟨rfl, hB2⟩
  have B2 := hide (B1.out.trans (hB2.mono B1.out.size))
  have hge := kAt_ge (m := m) (k0 := (1 + n0 * 2)) (n := n1)
  clear hB2
  go_wp2
  go_ret
  exact ⟨rfl, B2.out⟩

theorem markSpace_any (P : Nat → Prop) (a0 a1 : Option Addr) (n0 c0 n1 c1 : Nat) (w : World) (hn0 : (n0 : Int) ≤ 1048576) (hn1 : (n1 : Int) ≤ 1048576) (h : SCells w a0 n0 a1 n1 P) :
    Calls Tryd.prog 22 #[.agg #[.slice a0 n0 c0, .slice a1 n1 c1], .int .i64 1] w fun e w' => ∃ r : Nat, e = .returned (.int .i64 r) ∧ SMarked w' a0 n0 a1 n1 r ∧ Touch P w w' := by
  obtain ⟨h0, h1⟩ := h
  rcases h0 with rfl | ⟨S, rfl, hS, F, hF⟩
  · rcases h1 with rfl | ⟨T, B, m, rfl, hT, hTl, hB, hm, _⟩
    · exact markSpace_00 P a0 a1 c0 c1 w
    · exact markSpace_01 P a0 n1 c0 c1 w T B m hT hTl hB hm hn1
  · by_cases hz : n0 = 0
    · subst hz
      rcases h1 with rfl | ⟨T, B, m, rfl, hT, hTl, hB, hm, _⟩
      · exact markSpace_00 P _ a1 c0 c1 w
      · exact markSpace_01 P _ n1 c0 c1 w T B m hT hTl hB hm hn1
    · rcases h1 with rfl | ⟨T, B, m, rfl, hT, hTl, hB, hm, hap⟩
      · exact markSpace_10 P a1 n0 c0 c1 w S F hS hF hn0
      · exact markSpace_11 P n0 n1 c0 c1 w S F hS hF hn0 T B m hT hTl hB hm hn1 (hap S rfl hz)
theorem heldSpace_any (a0 a1 : Option Addr) (n0 c0 n1 c1 r : Nat) (w : World) (hn0 : (n0 : Int) ≤ 1048576) (hn1 : (n1 : Int) ≤ 1048576) (h : SMarked w a0 n0 a1 n1 r) :
    Calls Tryd.prog 23 #[.agg #[.slice a0 n0 c0, .slice a1 n1 c1], .int .i64 1] w fun e w' => e = .returned (.int .i64 (r : Int)) ∧ Below w.heap.size w w' := by
  obtain ⟨h0, h1⟩ := h
  rcases h0 with rfl | ⟨S, rfl, hF⟩
  · rcases h1 with ⟨rfl, rfl⟩ | ⟨T, B, m, rfl, hT, hm, rfl⟩
    · exact heldSpace_00 a0 a1 c0 c1 w
    · exact heldSpace_01 a0 n1 c0 c1 w T B m hT hm hn1
  · rcases h1 with ⟨rfl, rfl⟩ | ⟨T, B, m, rfl, hT, hm, rfl⟩
    · exact heldSpace_10 a1 n0 c0 c1 w S hF hn0
    · exact heldSpace_11 n0 n1 c0 c1 w S hF hn0 T B m hT hm hn1

end Go.Proofs.YtpbpbjcnbhejgaaDoor.Vp
