/-
  Marks read again: out of MSpace.lean.
-/
import Derived.Test.YthbigpnaepbhjaaDoorZF
import Derived.Test.YthbigpnaepbhjaaDoorZHTarget
import Derived.Test.YthbigpnaepbhjaaDoorZHSource
namespace Go.Proofs.YthbigpnaepbhjaaDoor.Vp
open Go.RowKit

set_option maxRecDepth 100000 in
set_option maxHeartbeats 2000000 in
theorem heldSpace_00 (a0 : Option Addr) (a1 : Option Addr) (c0 c1 : Nat) (w : World) :
    Calls Tryd.prog 12 #[.agg #[.slice a0 0 c0, .slice a1 0 c1], .int .i64 1] w fun e w' => e = .returned (.int .i64 ((1 : Nat) : Int)) ∧ Below w.heap.size w w' := by
  have A0 := hide ((Below.refl w.heap.size w).alloc (Nat.le_refl _) (.cells #[.slice a0 0 c0, .slice a1 0 c1] 30))
  have k1 : (w.alloc (.cells #[.slice a0 0 c0, .slice a1 0 c1] 30)).cell? ⟨w.heap.size, 1, none⟩ = some (.slice a1 0 c1) := by simp
  go_enter Tryd.func12, Tryd.ntmps12
  go_wp2_with fail
  refine (heldSourceS_nil a0 c0 1 _).mono ?_
  rintro e w1 ⟨rfl, rfl⟩
  have B1 := A0
  go_wp2_with fail
  refine (heldTargetS_nil a1 c1 1 _).mono ?_
  rintro e w2 ⟨rfl, rfl⟩
  have B2 := B1
  go_wp2
  go_ret
  exact ⟨rfl, B2.out⟩

set_option maxRecDepth 100000 in
set_option maxHeartbeats 2000000 in
theorem heldSpace_01 (a0 : Option Addr) (n1 : Nat) (c0 c1 : Nat) (w : World) (T : Nat) (B m : Nat → Nat) (hT : TMarked w T 0 n1 B m 1) (hm : ∀ i, i < n1 → m i ≤ 1048576) (hn1 : (n1 : Int) ≤ 1048576) :
    Calls Tryd.prog 12 #[.agg #[.slice a0 0 c0, .slice (some ⟨T, 0, none⟩) n1 c1], .int .i64 1] w fun e w' => e = .returned (.int .i64 ((kAt m 1 n1 : Nat) : Int)) ∧ Below w.heap.size w w' := by
  have A0 := hide ((Below.refl w.heap.size w).alloc (Nat.le_refl _) (.cells #[.slice a0 0 c0, .slice (some ⟨T, 0, none⟩) n1 c1] 30))
  have k1 : (w.alloc (.cells #[.slice a0 0 c0, .slice (some ⟨T, 0, none⟩) n1 c1] 30)).cell? ⟨w.heap.size, 1, none⟩ = some (.slice (some ⟨T, 0, none⟩) n1 c1) := by simp
  have HT := hide (hT.below A0.out (Nat.le_refl _))
  have HM := hide hm
  clear hT hm
  go_enter Tryd.func12, Tryd.ntmps12
  go_wp2_with fail
  refine (heldSourceS_nil a0 c0 1 _).mono ?_
  rintro e w1 ⟨rfl, rfl⟩
  have B1 := A0
  have T1 := HT
  go_wp2_with fail
  refine (heldTargetS_row T 0 n1 c1 1 B m _ hn1 HM.out (by omega) (by omega) T1.out T1.out.lt).mono ?_
  rintro e w2 ⟨rfl, hB2⟩
  have B2 := hide (B1.out.trans (hB2.mono B1.out.size))
  have hge := kAt_ge (m := m) (k0 := 1) (n := n1)
  clear hB2
  go_wp2
  go_ret
  exact ⟨rfl, B2.out⟩

set_option maxRecDepth 100000 in
set_option maxHeartbeats 2000000 in
theorem heldSpace_10 (a1 : Option Addr) (n0 : Nat) (c0 c1 : Nat) (w : World) (S : Nat) (hF : Cells w S 0 (n0 * 2) (markSource 1)) (hn0 : (n0 : Int) ≤ 1048576) :
    Calls Tryd.prog 12 #[.agg #[.slice (some ⟨S, 0, none⟩) n0 c0, .slice a1 0 c1], .int .i64 1] w fun e w' => e = .returned (.int .i64 (((1 + n0 * 2) : Nat) : Int)) ∧ Below w.heap.size w w' := by
  have A0 := hide ((Below.refl w.heap.size w).alloc (Nat.le_refl _) (.cells #[.slice (some ⟨S, 0, none⟩) n0 c0, .slice a1 0 c1] 30))
  have k1 : (w.alloc (.cells #[.slice (some ⟨S, 0, none⟩) n0 c0, .slice a1 0 c1] 30)).cell? ⟨w.heap.size, 1, none⟩ = some (.slice a1 0 c1) := by simp
  have HF := hide (hF.below A0.out hF.1)
  clear hF
  go_enter Tryd.func12, Tryd.ntmps12
  go_wp2_with fail
  refine (heldSourceS_row S 0 n0 c0 1 _ hn0 (by omega) (by omega) HF.out).mono ?_
  rintro e w1 ⟨rfl, hB1⟩
  have B1 := hide (A0.out.trans (hB1.mono (by simp)))
  have k2 := (hB1.cell (p := ⟨w.heap.size, 1, none⟩) (by simp)).trans k1
  clear hB1 k1
  go_wp2_with fail
  refine (heldTargetS_nil a1 c1 (1 + n0 * 2) _).mono ?_
  rintro e w2 ⟨rfl, rfl⟩
  have B2 := B1
  go_wp2
  go_ret
  exact ⟨rfl, B2.out⟩

set_option maxRecDepth 100000 in
set_option maxHeartbeats 2000000 in
theorem heldSpace_11 (n0 : Nat) (n1 : Nat) (c0 c1 : Nat) (w : World) (S : Nat) (hF : Cells w S 0 (n0 * 2) (markSource 1)) (hn0 : (n0 : Int) ≤ 1048576) (T : Nat) (B m : Nat → Nat) (hT : TMarked w T 0 n1 B m (1 + n0 * 2)) (hm : ∀ i, i < n1 → m i ≤ 1048576) (hn1 : (n1 : Int) ≤ 1048576) :
    Calls Tryd.prog 12 #[.agg #[.slice (some ⟨S, 0, none⟩) n0 c0, .slice (some ⟨T, 0, none⟩) n1 c1], .int .i64 1] w fun e w' => e = .returned (.int .i64 ((kAt m (1 + n0 * 2) n1 : Nat) : Int)) ∧ Below w.heap.size w w' := by
  have A0 := hide ((Below.refl w.heap.size w).alloc (Nat.le_refl _) (.cells #[.slice (some ⟨S, 0, none⟩) n0 c0, .slice (some ⟨T, 0, none⟩) n1 c1] 30))
  have k1 : (w.alloc (.cells #[.slice (some ⟨S, 0, none⟩) n0 c0, .slice (some ⟨T, 0, none⟩) n1 c1] 30)).cell? ⟨w.heap.size, 1, none⟩ = some (.slice (some ⟨T, 0, none⟩) n1 c1) := by simp
  have HF := hide (hF.below A0.out hF.1)
  clear hF
  have HT := hide (hT.below A0.out (Nat.le_refl _))
  have HM := hide hm
  clear hT hm
  go_enter Tryd.func12, Tryd.ntmps12
  go_wp2_with fail
  refine (heldSourceS_row S 0 n0 c0 1 _ hn0 (by omega) (by omega) HF.out).mono ?_
  rintro e w1 ⟨rfl, hB1⟩
  have B1 := hide (A0.out.trans (hB1.mono (by simp)))
  have k2 := (hB1.cell (p := ⟨w.heap.size, 1, none⟩) (by simp)).trans k1
  have T1 := hide (HT.out.below hB1 (Nat.le_refl _))
  clear hB1 k1
  go_wp2_with fail
  refine (heldTargetS_row T 0 n1 c1 (1 + n0 * 2) B m _ hn1 HM.out (by omega) (by omega) T1.out T1.out.lt).mono ?_
  rintro e w2 ⟨rfl, hB2⟩
  have B2 := hide (B1.out.trans (hB2.mono B1.out.size))
  have hge := kAt_ge (m := m) (k0 := (1 + n0 * 2)) (n := n1)
  clear hB2
  go_wp2
  go_ret
  exact ⟨rfl, B2.out⟩

theorem heldSpace_any (a0 a1 : Option Addr) (n0 c0 n1 c1 r : Nat) (w : World) (hn0 : (n0 : Int) ≤ 1048576) (hn1 : (n1 : Int) ≤ 1048576) (h : SMarked w a0 n0 a1 n1 r) :
    Calls Tryd.prog 12 #[.agg #[.slice a0 n0 c0, .slice a1 n1 c1], .int .i64 1] w fun e w' => e = .returned (.int .i64 (r : Int)) ∧ Below w.heap.size w w' := by
  obtain ⟨h0, h1⟩ := h
  rcases h0 with rfl | ⟨S, rfl, hF⟩
  · rcases h1 with ⟨rfl, rfl⟩ | ⟨T, B, m, rfl, hT, hm, rfl⟩
    · exact heldSpace_00 a0 a1 c0 c1 w
    · exact heldSpace_01 a0 n1 c0 c1 w T B m hT hm hn1
  · rcases h1 with ⟨rfl, rfl⟩ | ⟨T, B, m, rfl, hT, hm, rfl⟩
    · exact heldSpace_10 a1 n0 c0 c1 w S hF hn0
    · exact heldSpace_11 n0 n1 c0 c1 w S hF hn0 T B m hT hm hn1

end Go.Proofs.YthbigpnaepbhjaaDoor.Vp
