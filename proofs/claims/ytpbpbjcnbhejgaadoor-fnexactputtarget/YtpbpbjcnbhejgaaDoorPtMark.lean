/-
  PutTarget: a program marked; boxes of one cell.
-/
import Derived.Test.YtpbpbjcnbhejgaaDoorDpKit
namespace Go.Proofs.YtpbpbjcnbhejgaaDoor.Vp
open Go.RowKit

theorem smarked_le {w : World} {a0 a1 : Option Addr} {n0 n1 r : Nat} (h : SMarked w a0 n0 a1 n1 r) (h0 : (n0 : Int) ≤ 1048576) (h1 : (n1 : Int) ≤ 1048576) : 1 ≤ (r : Int) ∧ (r : Int) ≤ 1152921504606846976 := by
  rcases h.tgt with ⟨_, rfl⟩ | ⟨T, B, m, _, _, hm, rfl⟩
  · omega
  · have h2 := kAt_le (k0 := 1 + n0 * 2) hm
    have h3 := kAt_ge (m := m) (k0 := 1 + n0 * 2) (n := n1)
    omega

structure OneB (w : World) (b : Nat) (v : Value) : Prop where
  lt : b < w.heap.size
  c0 : w.cell? ⟨b, 0, none⟩ = some v
theorem OneB.block {w w' : World} {b : Nat} {v : Value} (h : OneB w b v) (hz : w.heap.size ≤ w'.heap.size) (hb : w'.heap[b]? = w.heap[b]?) : OneB w' b v :=
  ⟨Nat.lt_of_lt_of_le h.lt hz, (World.cell?_of_block (a := ⟨b, 0, none⟩) hb).trans h.c0⟩
theorem OneB.below {w w' : World} {b : Nat} {v : Value} (h : OneB w b v) (hb : Below w.heap.size w w') : OneB w' b v := h.block hb.size (hb.block b h.lt)
theorem OneB.touch {w w' : World} {b : Nat} {v : Value} {P : Nat → Prop} (h : OneB w b v) (ht : Touch P w w') (hb : ¬ P b) : OneB w' b v := h.block ht.size (ht.block b h.lt hb)
theorem oneB_box (w : World) (v : Value) (t : TypeId) : OneB (w.alloc (.cells #[v] t)) w.heap.size v := ⟨by simp, by simp⟩

/-- A row of instructions that may be written. -/
structure PCells (w : World) (g n : Nat) : Prop where
  lt : g < w.heap.size
  cells : ∃ F, Cells w g 0 (n * 3) F
theorem PCells.below {w w' : World} {g n : Nat} (h : PCells w g n) (hb : Below w.heap.size w w') : PCells w' g n := by
  obtain ⟨h1, F, h2⟩ := h
  exact ⟨Nat.lt_of_lt_of_le h1 hb.size, F, h2.block hb.size (hb.block g h1)⟩
theorem PCells.touch {w w' : World} {g n : Nat} {P : Nat → Prop} (h : PCells w g n) (ht : Touch P w w') (hb : ¬ P g) : PCells w' g n := by
  obtain ⟨h1, F, h2⟩ := h
  exact ⟨Nat.lt_of_lt_of_le h1 ht.size, F, h2.block ht.size (ht.block g h1 hb)⟩

set_option maxRecDepth 100000 in
set_option maxHeartbeats 2000000 in
theorem markProgram_any (g n c k0 : Nat) (w : World) (hn : (n : Int) ≤ 1048576) (h1 : 1 ≤ (k0 : Int)) (h2 : (k0 : Int) ≤ 1152921504606846976) (h : PCells w g n) :
    Calls Tryd.prog 29 #[.agg #[.slice (some ⟨g, 0, none⟩) n c], .int .i64 k0] w fun e w' => ∃ r : Nat, e = .returned (.int .i64 r) ∧ Touch (fun k => k = g) w w' := by
  obtain ⟨hg, F, hF⟩ := h
  have A0 := hide ((Below.refl w.heap.size w).alloc (Nat.le_refl _) (.cells #[.slice (some ⟨g, 0, none⟩) n c] 57))
  have HF := hide (hF.block A0.out.size (A0.out.block g hg))
  clear hF
  go_enter Tryd.func29, Tryd.ntmps29
  go_wp2_with fail
  refine (markInsS_row g 0 n c k0 F _ hn h1 h2 HF.out).mono ?_
  rintro e w1 ⟨rfl, _, hW⟩
  have T0 := hide (Touch.of_below (P := fun k => k = g) A0.out (Nat.le_refl _))
  have T1 := hide (T0.out.trans (Touch.of_within (P := fun k => k = g) hW rfl))
  clear hW
  go_wp2
  go_ret
  exact ⟨_, rfl, T1.out⟩

end Go.Proofs.YtpbpbjcnbhejgaaDoor.Vp
