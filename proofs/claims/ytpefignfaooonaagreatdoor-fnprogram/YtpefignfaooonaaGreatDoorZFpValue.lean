/-
  FnProgram: l1Value. Written by tools/fpvalue.py.
-/
import Derived.Test.YtpefignfaooonaaGreatDoorZFpApp
namespace Go.Proofs.YtpefignfaooonaaGreatDoor.Vp
open Go.RowKit

/-- How many instructions, how many draws at most. -/
def VB : Nat → Nat
  | 0 => 4
  | d + 1 => 3 * VB d + 2
def VC : Nat → Nat
  | 0 => 14
  | d + 1 => 3 * VC d + 14
theorem VB_pos (d : Nat) : 4 ≤ VB d := by
  induction d with
  | zero => exact Nat.le_refl _
  | succ d ih => simp only [VB]; omega
theorem VC_pos (d : Nat) : 14 ≤ VC d := by
  induction d with
  | zero => exact Nat.le_refl _
  | succ d ih => simp only [VC]; omega

set_option maxRecDepth 100000 in
set_option maxHeartbeats 8000000 in
theorem l1Value_0 (R p : Nat) (at_ : Int) (w : World) (hR : Rd w R p) (hp : p + 14 ≤ 30000) :
    Calls Tryz.prog 43 #[.pointer (some ⟨R, 0, none⟩), .int .i64 at_, .int .i64 0] w fun e w' => DI w R (p + 14) 4 e w' := by
  have hRb := hR.lt
  have A0 := (Below.refl w.heap.size w).alloc (Nat.le_refl _) (.cells #[] 41)
  have I0 := hide (IR.lit w)
  have R0 := hide (hR.below A0 (Nat.le_refl _))
  have O0 : Hid (Only R w (w.alloc (.cells #[] 41))) := Only.of_below A0
  clear A0 hR
  go_enter Tryz.func43, Tryz.ntmps43
  go_wp2_with fail
  generalize w.alloc (.cells #[] 41) = W0 at I0 R0 O0 ⊢
  refine (pick_any R _ 12 _ R0.out (by omega) (by omega) (by omega)).mono ?_
  rintro e W1 ⟨z, rfl, z0, z1, hR, hO⟩
  obtain ⟨q1, hq1⟩ : ∃ q1, q1 = p + 1 := ⟨_, rfl⟩
  rw [← hq1] at hR
  have I1 := hide (I0.out.only hO hRb)
  have R1 := hide hR
  have O1 := hide (O0.out.trans hO)
  clear hO hR I0 R0 O0
  rcases (show z = 0 ∨ z = 1 ∨ z = 2 ∨ z = 3 ∨ z = 4 ∨ z = 5 ∨ z = 6 ∨ z = 7 ∨ z = 8 ∨ z = 9 ∨ z = 10 ∨ z = 11 by omega) with rfl | rfl | rfl | rfl | rfl | rfl | rfl | rfl | rfl | rfl | rfl | rfl
  · go_wp2_with fail
    refine (l1Text_any R _ _ R1.out (by omega)).mono ?_
    rintro e W2 ⟨t, rfl, ht, q2, hq2, hR, hO⟩
    have I2 := hide (I1.out.only hO hRb)
    have R2 := hide hR
    have O2 := hide (O1.out.trans hO)
    clear hO hR
    go_wp2_with fail
    refine (l1Lit_any t _).mono ?_
    rintro e W3 ⟨rfl, hB⟩
    obtain ⟨q3, hq3⟩ : ∃ q3, q3 = q2 := ⟨_, rfl⟩
    rw [← hq3] at R2
    have I3 := hide (I2.out.below hB (Nat.le_refl _))
    have R3 := hide (R2.out.below hB (Nat.le_refl _))
    have O3 := hide (O2.out.trans (Only.of_below hB))
    clear hB
    have X3 := hide (I3.out.below ((Below.refl W3.heap.size W3).alloc (Nat.le_refl _) (.cells #[.int .i64 1, .string t, .int .i64 0] 41)) (Nat.le_refl _))
    go_wp2_with (at_builtin; refine wp_appI rfl (.tmp 26) (.tmp 30) rfl w.heap.size w.heap.size 0 [] (by simp [Act.eval]) X3.out ⟨W3.heap.size, 0, none⟩ 1 1 [(1, t.data.toList, 0)] (by simp [Act.eval]) rfl (by simp) (new_cells W3 #[.int .i64 1, .string t, .int .i64 0] _) (by simp only [List.length_cons, List.length_nil]; omega) (by have := O3.out.size; simp; omega) ?_)
    intro g9 c9 w9 hI hG
    have BG := Below.grown ((Below.refl w.heap.size W3).alloc O3.out.size (.cells #[.int .i64 1, .string t, .int .i64 0] 41)) hG (by have := O3.out.size; simp; omega) (fun k e => by have := I3.out.lt; simp at e; omega)
    have I9 := hide hI
    have R9 := hide (R3.out.low BG hRb)
    have O9 := hide (O3.out.then BG)
    clear hI hG BG
    go_wp2
    go_ret
    refine ⟨_, g9, c9, rfl, I9.out, by simp, by simp only [List.length_cons, List.length_nil]; omega, ?_, q3, by omega, R9.out, O9.out⟩
    intro i hi
    simp only [List.mem_cons, List.not_mem_nil, or_false] at hi
    subst hi
    show t.data.toList.length ≤ 5000
    rw [Array.length_toList]
    show t.size ≤ 5000
    omega
  · go_wp2_with fail
    refine (l1Text_any R _ _ R1.out (by omega)).mono ?_
    rintro e W2 ⟨t, rfl, ht, q2, hq2, hR, hO⟩
    have I2 := hide (I1.out.only hO hRb)
    have R2 := hide hR
    have O2 := hide (O1.out.trans hO)
    clear hO hR
    go_wp2_with fail
    refine (l1Lit_any t _).mono ?_
    rintro e W3 ⟨rfl, hB⟩
    obtain ⟨q3, hq3⟩ : ∃ q3, q3 = q2 := ⟨_, rfl⟩
    rw [← hq3] at R2
    have I3 := hide (I2.out.below hB (Nat.le_refl _))
    have R3 := hide (R2.out.below hB (Nat.le_refl _))
    have O3 := hide (O2.out.trans (Only.of_below hB))
    clear hB
    have X3 := hide (I3.out.below ((Below.refl W3.heap.size W3).alloc (Nat.le_refl _) (.cells #[.int .i64 1, .string t, .int .i64 0] 41)) (Nat.le_refl _))
    go_wp2_with (at_builtin; refine wp_appI rfl (.tmp 26) (.tmp 30) rfl w.heap.size w.heap.size 0 [] (by simp [Act.eval]) X3.out ⟨W3.heap.size, 0, none⟩ 1 1 [(1, t.data.toList, 0)] (by simp [Act.eval]) rfl (by simp) (new_cells W3 #[.int .i64 1, .string t, .int .i64 0] _) (by simp only [List.length_cons, List.length_nil]; omega) (by have := O3.out.size; simp; omega) ?_)
    intro g9 c9 w9 hI hG
    have BG := Below.grown ((Below.refl w.heap.size W3).alloc O3.out.size (.cells #[.int .i64 1, .string t, .int .i64 0] 41)) hG (by have := O3.out.size; simp; omega) (fun k e => by have := I3.out.lt; simp at e; omega)
    have I9 := hide hI
    have R9 := hide (R3.out.low BG hRb)
    have O9 := hide (O3.out.then BG)
    clear hI hG BG
    go_wp2
    go_ret
    refine ⟨_, g9, c9, rfl, I9.out, by simp, by simp only [List.length_cons, List.length_nil]; omega, ?_, q3, by omega, R9.out, O9.out⟩
    intro i hi
    simp only [List.mem_cons, List.not_mem_nil, or_false] at hi
    subst hi
    show t.data.toList.length ≤ 5000
    rw [Array.length_toList]
    show t.size ≤ 5000
    omega
  · go_wp2_with fail
    refine (l1Name_any R _ _ R1.out (by omega)).mono ?_
    rintro e W2 ⟨t, rfl, ht, hR, hO⟩
    obtain ⟨q2, hq2⟩ : ∃ q2, q2 = q1 + 1 := ⟨_, rfl⟩
    rw [← hq2] at hR
    have I2 := hide (I1.out.only hO hRb)
    have R2 := hide hR
    have O2 := hide (O1.out.trans hO)
    clear hO hR
    go_wp2_with fail
    refine (l1Lit_any t _).mono ?_
    rintro e W3 ⟨rfl, hB⟩
    obtain ⟨q3, hq3⟩ : ∃ q3, q3 = q2 := ⟨_, rfl⟩
    rw [← hq3] at R2
    have I3 := hide (I2.out.below hB (Nat.le_refl _))
    have R3 := hide (R2.out.below hB (Nat.le_refl _))
    have O3 := hide (O2.out.trans (Only.of_below hB))
    clear hB
    go_wp2_with fail
    refine (l1Op_any 12 _).mono ?_
    rintro e W4 ⟨rfl, hB⟩
    obtain ⟨q4, hq4⟩ : ∃ q4, q4 = q3 := ⟨_, rfl⟩
    rw [← hq4] at R3
    have I4 := hide (I3.out.below hB (Nat.le_refl _))
    have R4 := hide (R3.out.below hB (Nat.le_refl _))
    have O4 := hide (O3.out.trans (Only.of_below hB))
    clear hB
    have X4 := hide (I4.out.below ((Below.refl W4.heap.size W4).alloc (Nat.le_refl _) (.cells #[.int .i64 1, .string t, .int .i64 0, .int .i64 12, .string ⟨#[]⟩, .int .i64 0] 41)) (Nat.le_refl _))
    go_wp2_with (at_builtin; refine wp_appI rfl (.tmp 36) (.tmp 41) rfl w.heap.size w.heap.size 0 [] (by simp [Act.eval]) X4.out ⟨W4.heap.size, 0, none⟩ 2 2 [(1, t.data.toList, 0), (12, [], 0)] (by simp [Act.eval]) rfl (by simp) (new_cells W4 #[.int .i64 1, .string t, .int .i64 0, .int .i64 12, .string ⟨#[]⟩, .int .i64 0] _) (by simp only [List.length_cons, List.length_nil]; omega) (by have := O4.out.size; simp; omega) ?_)
    intro g9 c9 w9 hI hG
    have BG := Below.grown ((Below.refl w.heap.size W4).alloc O4.out.size (.cells #[.int .i64 1, .string t, .int .i64 0, .int .i64 12, .string ⟨#[]⟩, .int .i64 0] 41)) hG (by have := O4.out.size; simp; omega) (fun k e => by have := I4.out.lt; simp at e; omega)
    have I9 := hide hI
    have R9 := hide (R4.out.low BG hRb)
    have O9 := hide (O4.out.then BG)
    clear hI hG BG
    go_wp2
    go_ret
    refine ⟨_, g9, c9, rfl, I9.out, by simp, by simp only [List.length_cons, List.length_nil]; omega, ?_, q4, by omega, R9.out, O9.out⟩
    intro i hi
    simp only [List.mem_cons, List.not_mem_nil, or_false] at hi
    rcases hi with rfl | rfl
    · show t.data.toList.length ≤ 5000; rw [Array.length_toList]; show t.size ≤ 5000; omega
    · exact Nat.zero_le _
  · go_wp2_with fail
    refine (l1Name_any R _ _ R1.out (by omega)).mono ?_
    rintro e W2 ⟨t, rfl, ht, hR, hO⟩
    obtain ⟨q2, hq2⟩ : ∃ q2, q2 = q1 + 1 := ⟨_, rfl⟩
    rw [← hq2] at hR
    have I2 := hide (I1.out.only hO hRb)
    have R2 := hide hR
    have O2 := hide (O1.out.trans hO)
    clear hO hR
    go_wp2_with fail
    refine (l1Lit_any t _).mono ?_
    rintro e W3 ⟨rfl, hB⟩
    obtain ⟨q3, hq3⟩ : ∃ q3, q3 = q2 := ⟨_, rfl⟩
    rw [← hq3] at R2
    have I3 := hide (I2.out.below hB (Nat.le_refl _))
    have R3 := hide (R2.out.below hB (Nat.le_refl _))
    have O3 := hide (O2.out.trans (Only.of_below hB))
    clear hB
    go_wp2_with fail
    refine (l1Op_any 12 _).mono ?_
    rintro e W4 ⟨rfl, hB⟩
    obtain ⟨q4, hq4⟩ : ∃ q4, q4 = q3 := ⟨_, rfl⟩
    rw [← hq4] at R3
    have I4 := hide (I3.out.below hB (Nat.le_refl _))
    have R4 := hide (R3.out.below hB (Nat.le_refl _))
    have O4 := hide (O3.out.trans (Only.of_below hB))
    clear hB
    have X4 := hide (I4.out.below ((Below.refl W4.heap.size W4).alloc (Nat.le_refl _) (.cells #[.int .i64 1, .string t, .int .i64 0, .int .i64 12, .string ⟨#[]⟩, .int .i64 0] 41)) (Nat.le_refl _))
    go_wp2_with (at_builtin; refine wp_appI rfl (.tmp 36) (.tmp 41) rfl w.heap.size w.heap.size 0 [] (by simp [Act.eval]) X4.out ⟨W4.heap.size, 0, none⟩ 2 2 [(1, t.data.toList, 0), (12, [], 0)] (by simp [Act.eval]) rfl (by simp) (new_cells W4 #[.int .i64 1, .string t, .int .i64 0, .int .i64 12, .string ⟨#[]⟩, .int .i64 0] _) (by simp only [List.length_cons, List.length_nil]; omega) (by have := O4.out.size; simp; omega) ?_)
    intro g9 c9 w9 hI hG
    have BG := Below.grown ((Below.refl w.heap.size W4).alloc O4.out.size (.cells #[.int .i64 1, .string t, .int .i64 0, .int .i64 12, .string ⟨#[]⟩, .int .i64 0] 41)) hG (by have := O4.out.size; simp; omega) (fun k e => by have := I4.out.lt; simp at e; omega)
    have I9 := hide hI
    have R9 := hide (R4.out.low BG hRb)
    have O9 := hide (O4.out.then BG)
    clear hI hG BG
    go_wp2
    go_ret
    refine ⟨_, g9, c9, rfl, I9.out, by simp, by simp only [List.length_cons, List.length_nil]; omega, ?_, q4, by omega, R9.out, O9.out⟩
    intro i hi
    simp only [List.mem_cons, List.not_mem_nil, or_false] at hi
    rcases hi with rfl | rfl
    · show t.data.toList.length ≤ 5000; rw [Array.length_toList]; show t.size ≤ 5000; omega
    · exact Nat.zero_le _
  · go_wp2_with fail
    refine (l1Name_any R _ _ R1.out (by omega)).mono ?_
    rintro e W2 ⟨t, rfl, ht, hR, hO⟩
    obtain ⟨q2, hq2⟩ : ∃ q2, q2 = q1 + 1 := ⟨_, rfl⟩
    rw [← hq2] at hR
    have I2 := hide (I1.out.only hO hRb)
    have R2 := hide hR
    have O2 := hide (O1.out.trans hO)
    clear hO hR
    go_wp2_with fail
    refine (l1Lit_any t _).mono ?_
    rintro e W3 ⟨rfl, hB⟩
    obtain ⟨q3, hq3⟩ : ∃ q3, q3 = q2 := ⟨_, rfl⟩
    rw [← hq3] at R2
    have I3 := hide (I2.out.below hB (Nat.le_refl _))
    have R3 := hide (R2.out.below hB (Nat.le_refl _))
    have O3 := hide (O2.out.trans (Only.of_below hB))
    clear hB
    go_wp2_with fail
    refine (l1Op_any 12 _).mono ?_
    rintro e W4 ⟨rfl, hB⟩
    obtain ⟨q4, hq4⟩ : ∃ q4, q4 = q3 := ⟨_, rfl⟩
    rw [← hq4] at R3
    have I4 := hide (I3.out.below hB (Nat.le_refl _))
    have R4 := hide (R3.out.below hB (Nat.le_refl _))
    have O4 := hide (O3.out.trans (Only.of_below hB))
    clear hB
    have X4 := hide (I4.out.below ((Below.refl W4.heap.size W4).alloc (Nat.le_refl _) (.cells #[.int .i64 1, .string t, .int .i64 0, .int .i64 12, .string ⟨#[]⟩, .int .i64 0] 41)) (Nat.le_refl _))
    go_wp2_with (at_builtin; refine wp_appI rfl (.tmp 36) (.tmp 41) rfl w.heap.size w.heap.size 0 [] (by simp [Act.eval]) X4.out ⟨W4.heap.size, 0, none⟩ 2 2 [(1, t.data.toList, 0), (12, [], 0)] (by simp [Act.eval]) rfl (by simp) (new_cells W4 #[.int .i64 1, .string t, .int .i64 0, .int .i64 12, .string ⟨#[]⟩, .int .i64 0] _) (by simp only [List.length_cons, List.length_nil]; omega) (by have := O4.out.size; simp; omega) ?_)
    intro g9 c9 w9 hI hG
    have BG := Below.grown ((Below.refl w.heap.size W4).alloc O4.out.size (.cells #[.int .i64 1, .string t, .int .i64 0, .int .i64 12, .string ⟨#[]⟩, .int .i64 0] 41)) hG (by have := O4.out.size; simp; omega) (fun k e => by have := I4.out.lt; simp at e; omega)
    have I9 := hide hI
    have R9 := hide (R4.out.low BG hRb)
    have O9 := hide (O4.out.then BG)
    clear hI hG BG
    go_wp2
    go_ret
    refine ⟨_, g9, c9, rfl, I9.out, by simp, by simp only [List.length_cons, List.length_nil]; omega, ?_, q4, by omega, R9.out, O9.out⟩
    intro i hi
    simp only [List.mem_cons, List.not_mem_nil, or_false] at hi
    rcases hi with rfl | rfl
    · show t.data.toList.length ≤ 5000; rw [Array.length_toList]; show t.size ≤ 5000; omega
    · exact Nat.zero_le _
  · go_wp2_with fail
    refine (l1Name_any R _ _ R1.out (by omega)).mono ?_
    rintro e W2 ⟨t, rfl, ht, hR, hO⟩
    obtain ⟨q2, hq2⟩ : ∃ q2, q2 = q1 + 1 := ⟨_, rfl⟩
    rw [← hq2] at hR
    have I2 := hide (I1.out.only hO hRb)
    have R2 := hide hR
    have O2 := hide (O1.out.trans hO)
    clear hO hR
    go_wp2_with fail
    refine (l1Lit_any t _).mono ?_
    rintro e W3 ⟨rfl, hB⟩
    obtain ⟨q3, hq3⟩ : ∃ q3, q3 = q2 := ⟨_, rfl⟩
    rw [← hq3] at R2
    have I3 := hide (I2.out.below hB (Nat.le_refl _))
    have R3 := hide (R2.out.below hB (Nat.le_refl _))
    have O3 := hide (O2.out.trans (Only.of_below hB))
    clear hB
    go_wp2_with fail
    refine (l1Op_any 12 _).mono ?_
    rintro e W4 ⟨rfl, hB⟩
    obtain ⟨q4, hq4⟩ : ∃ q4, q4 = q3 := ⟨_, rfl⟩
    rw [← hq4] at R3
    have I4 := hide (I3.out.below hB (Nat.le_refl _))
    have R4 := hide (R3.out.below hB (Nat.le_refl _))
    have O4 := hide (O3.out.trans (Only.of_below hB))
    clear hB
    go_wp2_with fail
    refine (pick_any R _ 3 _ R4.out (by omega) (by omega) (by omega)).mono ?_
    rintro e W5 ⟨y, rfl, y0, y1, hR, hO⟩
    obtain ⟨q5, hq5⟩ : ∃ q5, q5 = q4 + 1 := ⟨_, rfl⟩
    rw [← hq5] at hR
    have I5 := hide (I4.out.only hO hRb)
    have R5 := hide hR
    have O5 := hide (O4.out.trans hO)
    clear hO hR
    go_wp2_with fail
    refine (l1OpN_any 5 y _).mono ?_
    rintro e W6 ⟨rfl, hB⟩
    obtain ⟨q6, hq6⟩ : ∃ q6, q6 = q5 := ⟨_, rfl⟩
    rw [← hq6] at R5
    have I6 := hide (I5.out.below hB (Nat.le_refl _))
    have R6 := hide (R5.out.below hB (Nat.le_refl _))
    have O6 := hide (O5.out.trans (Only.of_below hB))
    clear hB
    go_wp2_with fail
    refine (l1Op_any 12 _).mono ?_
    rintro e W7 ⟨rfl, hB⟩
    obtain ⟨q7, hq7⟩ : ∃ q7, q7 = q6 := ⟨_, rfl⟩
    rw [← hq7] at R6
    have I7 := hide (I6.out.below hB (Nat.le_refl _))
    have R7 := hide (R6.out.below hB (Nat.le_refl _))
    have O7 := hide (O6.out.trans (Only.of_below hB))
    clear hB
    have X7 := hide (I7.out.below ((Below.refl W7.heap.size W7).alloc (Nat.le_refl _) (.cells #[.int .i64 1, .string t, .int .i64 0, .int .i64 12, .string ⟨#[]⟩, .int .i64 0, .int .i64 5, .string ⟨#[]⟩, .int .i64 y, .int .i64 12, .string ⟨#[]⟩, .int .i64 0] 41)) (Nat.le_refl _))
    go_wp2_with (at_builtin; refine wp_appI rfl (.tmp 45) (.tmp 54) rfl w.heap.size w.heap.size 0 [] (by simp [Act.eval]) X7.out ⟨W7.heap.size, 0, none⟩ 4 4 [(1, t.data.toList, 0), (12, [], 0), (5, [], y), (12, [], 0)] (by simp [Act.eval]) rfl (by simp) (new_cells W7 #[.int .i64 1, .string t, .int .i64 0, .int .i64 12, .string ⟨#[]⟩, .int .i64 0, .int .i64 5, .string ⟨#[]⟩, .int .i64 y, .int .i64 12, .string ⟨#[]⟩, .int .i64 0] _) (by simp only [List.length_cons, List.length_nil]; omega) (by have := O7.out.size; simp; omega) ?_)
    intro g9 c9 w9 hI hG
    have BG := Below.grown ((Below.refl w.heap.size W7).alloc O7.out.size (.cells #[.int .i64 1, .string t, .int .i64 0, .int .i64 12, .string ⟨#[]⟩, .int .i64 0, .int .i64 5, .string ⟨#[]⟩, .int .i64 y, .int .i64 12, .string ⟨#[]⟩, .int .i64 0] 41)) hG (by have := O7.out.size; simp; omega) (fun k e => by have := I7.out.lt; simp at e; omega)
    have I9 := hide hI
    have R9 := hide (R7.out.low BG hRb)
    have O9 := hide (O7.out.then BG)
    clear hI hG BG
    go_wp2
    go_ret
    refine ⟨_, g9, c9, rfl, I9.out, by simp, by simp only [List.length_cons, List.length_nil]; omega, ?_, q7, by omega, R9.out, O9.out⟩
    intro i hi
    simp only [List.mem_cons, List.not_mem_nil, or_false] at hi
    rcases hi with rfl | rfl | rfl | rfl
    · show t.data.toList.length ≤ 5000; rw [Array.length_toList]; show t.size ≤ 5000; omega
    · exact Nat.zero_le _
    · exact Nat.zero_le _
    · exact Nat.zero_le _
  · go_wp2_with fail
    refine (l1Name_any R _ _ R1.out (by omega)).mono ?_
    rintro e W2 ⟨t, rfl, ht, hR, hO⟩
    obtain ⟨q2, hq2⟩ : ∃ q2, q2 = q1 + 1 := ⟨_, rfl⟩
    rw [← hq2] at hR
    have I2 := hide (I1.out.only hO hRb)
    have R2 := hide hR
    have O2 := hide (O1.out.trans hO)
    clear hO hR
    go_wp2_with fail
    refine (l1Lit_any t _).mono ?_
    rintro e W3 ⟨rfl, hB⟩
    obtain ⟨q3, hq3⟩ : ∃ q3, q3 = q2 := ⟨_, rfl⟩
    rw [← hq3] at R2
    have I3 := hide (I2.out.below hB (Nat.le_refl _))
    have R3 := hide (R2.out.below hB (Nat.le_refl _))
    have O3 := hide (O2.out.trans (Only.of_below hB))
    clear hB
    go_wp2_with fail
    refine (l1Op_any 13 _).mono ?_
    rintro e W4 ⟨rfl, hB⟩
    obtain ⟨q4, hq4⟩ : ∃ q4, q4 = q3 := ⟨_, rfl⟩
    rw [← hq4] at R3
    have I4 := hide (I3.out.below hB (Nat.le_refl _))
    have R4 := hide (R3.out.below hB (Nat.le_refl _))
    have O4 := hide (O3.out.trans (Only.of_below hB))
    clear hB
    have X4 := hide (I4.out.below ((Below.refl W4.heap.size W4).alloc (Nat.le_refl _) (.cells #[.int .i64 1, .string t, .int .i64 0, .int .i64 13, .string ⟨#[]⟩, .int .i64 0] 41)) (Nat.le_refl _))
    go_wp2_with (at_builtin; refine wp_appI rfl (.tmp 58) (.tmp 63) rfl w.heap.size w.heap.size 0 [] (by simp [Act.eval]) X4.out ⟨W4.heap.size, 0, none⟩ 2 2 [(1, t.data.toList, 0), (13, [], 0)] (by simp [Act.eval]) rfl (by simp) (new_cells W4 #[.int .i64 1, .string t, .int .i64 0, .int .i64 13, .string ⟨#[]⟩, .int .i64 0] _) (by simp only [List.length_cons, List.length_nil]; omega) (by have := O4.out.size; simp; omega) ?_)
    intro g9 c9 w9 hI hG
    have BG := Below.grown ((Below.refl w.heap.size W4).alloc O4.out.size (.cells #[.int .i64 1, .string t, .int .i64 0, .int .i64 13, .string ⟨#[]⟩, .int .i64 0] 41)) hG (by have := O4.out.size; simp; omega) (fun k e => by have := I4.out.lt; simp at e; omega)
    have I9 := hide hI
    have R9 := hide (R4.out.low BG hRb)
    have O9 := hide (O4.out.then BG)
    clear hI hG BG
    go_wp2
    go_ret
    refine ⟨_, g9, c9, rfl, I9.out, by simp, by simp only [List.length_cons, List.length_nil]; omega, ?_, q4, by omega, R9.out, O9.out⟩
    intro i hi
    simp only [List.mem_cons, List.not_mem_nil, or_false] at hi
    rcases hi with rfl | rfl
    · show t.data.toList.length ≤ 5000; rw [Array.length_toList]; show t.size ≤ 5000; omega
    · exact Nat.zero_le _
  · go_wp2_with fail
    refine (l1Text_any R _ _ R1.out (by omega)).mono ?_
    rintro e W2 ⟨t, rfl, ht, q2, hq2, hR, hO⟩
    have I2 := hide (I1.out.only hO hRb)
    have R2 := hide hR
    have O2 := hide (O1.out.trans hO)
    clear hO hR
    go_wp2_with fail
    refine (l1Lit_any t _).mono ?_
    rintro e W3 ⟨rfl, hB⟩
    obtain ⟨q3, hq3⟩ : ∃ q3, q3 = q2 := ⟨_, rfl⟩
    rw [← hq3] at R2
    have I3 := hide (I2.out.below hB (Nat.le_refl _))
    have R3 := hide (R2.out.below hB (Nat.le_refl _))
    have O3 := hide (O2.out.trans (Only.of_below hB))
    clear hB
    have X3 := hide (I3.out.below ((Below.refl W3.heap.size W3).alloc (Nat.le_refl _) (.cells #[.int .i64 1, .string t, .int .i64 0] 41)) (Nat.le_refl _))
    go_wp2_with (at_builtin; refine wp_appI rfl (.tmp 26) (.tmp 30) rfl w.heap.size w.heap.size 0 [] (by simp [Act.eval]) X3.out ⟨W3.heap.size, 0, none⟩ 1 1 [(1, t.data.toList, 0)] (by simp [Act.eval]) rfl (by simp) (new_cells W3 #[.int .i64 1, .string t, .int .i64 0] _) (by simp only [List.length_cons, List.length_nil]; omega) (by have := O3.out.size; simp; omega) ?_)
    intro g9 c9 w9 hI hG
    have BG := Below.grown ((Below.refl w.heap.size W3).alloc O3.out.size (.cells #[.int .i64 1, .string t, .int .i64 0] 41)) hG (by have := O3.out.size; simp; omega) (fun k e => by have := I3.out.lt; simp at e; omega)
    have I9 := hide hI
    have R9 := hide (R3.out.low BG hRb)
    have O9 := hide (O3.out.then BG)
    clear hI hG BG
    go_wp2
    go_ret
    refine ⟨_, g9, c9, rfl, I9.out, by simp, by simp only [List.length_cons, List.length_nil]; omega, ?_, q3, by omega, R9.out, O9.out⟩
    intro i hi
    simp only [List.mem_cons, List.not_mem_nil, or_false] at hi
    subst hi
    show t.data.toList.length ≤ 5000
    rw [Array.length_toList]
    show t.size ≤ 5000
    omega
  · go_wp2_with fail
    refine (l1Name_any R _ _ R1.out (by omega)).mono ?_
    rintro e W2 ⟨t, rfl, ht, hR, hO⟩
    obtain ⟨q2, hq2⟩ : ∃ q2, q2 = q1 + 1 := ⟨_, rfl⟩
    rw [← hq2] at hR
    have I2 := hide (I1.out.only hO hRb)
    have R2 := hide hR
    have O2 := hide (O1.out.trans hO)
    clear hO hR
    go_wp2_with fail
    refine (l1Lit_any t _).mono ?_
    rintro e W3 ⟨rfl, hB⟩
    obtain ⟨q3, hq3⟩ : ∃ q3, q3 = q2 := ⟨_, rfl⟩
    rw [← hq3] at R2
    have I3 := hide (I2.out.below hB (Nat.le_refl _))
    have R3 := hide (R2.out.below hB (Nat.le_refl _))
    have O3 := hide (O2.out.trans (Only.of_below hB))
    clear hB
    go_wp2_with fail
    refine (l1Op_any 12 _).mono ?_
    rintro e W4 ⟨rfl, hB⟩
    obtain ⟨q4, hq4⟩ : ∃ q4, q4 = q3 := ⟨_, rfl⟩
    rw [← hq4] at R3
    have I4 := hide (I3.out.below hB (Nat.le_refl _))
    have R4 := hide (R3.out.below hB (Nat.le_refl _))
    have O4 := hide (O3.out.trans (Only.of_below hB))
    clear hB
    have X4 := hide (I4.out.below ((Below.refl W4.heap.size W4).alloc (Nat.le_refl _) (.cells #[.int .i64 1, .string t, .int .i64 0, .int .i64 12, .string ⟨#[]⟩, .int .i64 0] 41)) (Nat.le_refl _))
    go_wp2_with (at_builtin; refine wp_appI rfl (.tmp 36) (.tmp 41) rfl w.heap.size w.heap.size 0 [] (by simp [Act.eval]) X4.out ⟨W4.heap.size, 0, none⟩ 2 2 [(1, t.data.toList, 0), (12, [], 0)] (by simp [Act.eval]) rfl (by simp) (new_cells W4 #[.int .i64 1, .string t, .int .i64 0, .int .i64 12, .string ⟨#[]⟩, .int .i64 0] _) (by simp only [List.length_cons, List.length_nil]; omega) (by have := O4.out.size; simp; omega) ?_)
    intro g9 c9 w9 hI hG
    have BG := Below.grown ((Below.refl w.heap.size W4).alloc O4.out.size (.cells #[.int .i64 1, .string t, .int .i64 0, .int .i64 12, .string ⟨#[]⟩, .int .i64 0] 41)) hG (by have := O4.out.size; simp; omega) (fun k e => by have := I4.out.lt; simp at e; omega)
    have I9 := hide hI
    have R9 := hide (R4.out.low BG hRb)
    have O9 := hide (O4.out.then BG)
    clear hI hG BG
    go_wp2
    go_ret
    refine ⟨_, g9, c9, rfl, I9.out, by simp, by simp only [List.length_cons, List.length_nil]; omega, ?_, q4, by omega, R9.out, O9.out⟩
    intro i hi
    simp only [List.mem_cons, List.not_mem_nil, or_false] at hi
    rcases hi with rfl | rfl
    · show t.data.toList.length ≤ 5000; rw [Array.length_toList]; show t.size ≤ 5000; omega
    · exact Nat.zero_le _
  · go_wp2_with fail
    refine (l1Name_any R _ _ R1.out (by omega)).mono ?_
    rintro e W2 ⟨t, rfl, ht, hR, hO⟩
    obtain ⟨q2, hq2⟩ : ∃ q2, q2 = q1 + 1 := ⟨_, rfl⟩
    rw [← hq2] at hR
    have I2 := hide (I1.out.only hO hRb)
    have R2 := hide hR
    have O2 := hide (O1.out.trans hO)
    clear hO hR
    go_wp2_with fail
    refine (l1Lit_any t _).mono ?_
    rintro e W3 ⟨rfl, hB⟩
    obtain ⟨q3, hq3⟩ : ∃ q3, q3 = q2 := ⟨_, rfl⟩
    rw [← hq3] at R2
    have I3 := hide (I2.out.below hB (Nat.le_refl _))
    have R3 := hide (R2.out.below hB (Nat.le_refl _))
    have O3 := hide (O2.out.trans (Only.of_below hB))
    clear hB
    go_wp2_with fail
    refine (l1Op_any 12 _).mono ?_
    rintro e W4 ⟨rfl, hB⟩
    obtain ⟨q4, hq4⟩ : ∃ q4, q4 = q3 := ⟨_, rfl⟩
    rw [← hq4] at R3
    have I4 := hide (I3.out.below hB (Nat.le_refl _))
    have R4 := hide (R3.out.below hB (Nat.le_refl _))
    have O4 := hide (O3.out.trans (Only.of_below hB))
    clear hB
    have X4 := hide (I4.out.below ((Below.refl W4.heap.size W4).alloc (Nat.le_refl _) (.cells #[.int .i64 1, .string t, .int .i64 0, .int .i64 12, .string ⟨#[]⟩, .int .i64 0] 41)) (Nat.le_refl _))
    go_wp2_with (at_builtin; refine wp_appI rfl (.tmp 36) (.tmp 41) rfl w.heap.size w.heap.size 0 [] (by simp [Act.eval]) X4.out ⟨W4.heap.size, 0, none⟩ 2 2 [(1, t.data.toList, 0), (12, [], 0)] (by simp [Act.eval]) rfl (by simp) (new_cells W4 #[.int .i64 1, .string t, .int .i64 0, .int .i64 12, .string ⟨#[]⟩, .int .i64 0] _) (by simp only [List.length_cons, List.length_nil]; omega) (by have := O4.out.size; simp; omega) ?_)
    intro g9 c9 w9 hI hG
    have BG := Below.grown ((Below.refl w.heap.size W4).alloc O4.out.size (.cells #[.int .i64 1, .string t, .int .i64 0, .int .i64 12, .string ⟨#[]⟩, .int .i64 0] 41)) hG (by have := O4.out.size; simp; omega) (fun k e => by have := I4.out.lt; simp at e; omega)
    have I9 := hide hI
    have R9 := hide (R4.out.low BG hRb)
    have O9 := hide (O4.out.then BG)
    clear hI hG BG
    go_wp2
    go_ret
    refine ⟨_, g9, c9, rfl, I9.out, by simp, by simp only [List.length_cons, List.length_nil]; omega, ?_, q4, by omega, R9.out, O9.out⟩
    intro i hi
    simp only [List.mem_cons, List.not_mem_nil, or_false] at hi
    rcases hi with rfl | rfl
    · show t.data.toList.length ≤ 5000; rw [Array.length_toList]; show t.size ≤ 5000; omega
    · exact Nat.zero_le _
  · go_wp2_with fail
    refine (l1Name_any R _ _ R1.out (by omega)).mono ?_
    rintro e W2 ⟨t, rfl, ht, hR, hO⟩
    obtain ⟨q2, hq2⟩ : ∃ q2, q2 = q1 + 1 := ⟨_, rfl⟩
    rw [← hq2] at hR
    have I2 := hide (I1.out.only hO hRb)
    have R2 := hide hR
    have O2 := hide (O1.out.trans hO)
    clear hO hR
    go_wp2_with fail
    refine (l1Lit_any t _).mono ?_
    rintro e W3 ⟨rfl, hB⟩
    obtain ⟨q3, hq3⟩ : ∃ q3, q3 = q2 := ⟨_, rfl⟩
    rw [← hq3] at R2
    have I3 := hide (I2.out.below hB (Nat.le_refl _))
    have R3 := hide (R2.out.below hB (Nat.le_refl _))
    have O3 := hide (O2.out.trans (Only.of_below hB))
    clear hB
    go_wp2_with fail
    refine (l1Op_any 12 _).mono ?_
    rintro e W4 ⟨rfl, hB⟩
    obtain ⟨q4, hq4⟩ : ∃ q4, q4 = q3 := ⟨_, rfl⟩
    rw [← hq4] at R3
    have I4 := hide (I3.out.below hB (Nat.le_refl _))
    have R4 := hide (R3.out.below hB (Nat.le_refl _))
    have O4 := hide (O3.out.trans (Only.of_below hB))
    clear hB
    have X4 := hide (I4.out.below ((Below.refl W4.heap.size W4).alloc (Nat.le_refl _) (.cells #[.int .i64 1, .string t, .int .i64 0, .int .i64 12, .string ⟨#[]⟩, .int .i64 0] 41)) (Nat.le_refl _))
    go_wp2_with (at_builtin; refine wp_appI rfl (.tmp 36) (.tmp 41) rfl w.heap.size w.heap.size 0 [] (by simp [Act.eval]) X4.out ⟨W4.heap.size, 0, none⟩ 2 2 [(1, t.data.toList, 0), (12, [], 0)] (by simp [Act.eval]) rfl (by simp) (new_cells W4 #[.int .i64 1, .string t, .int .i64 0, .int .i64 12, .string ⟨#[]⟩, .int .i64 0] _) (by simp only [List.length_cons, List.length_nil]; omega) (by have := O4.out.size; simp; omega) ?_)
    intro g9 c9 w9 hI hG
    have BG := Below.grown ((Below.refl w.heap.size W4).alloc O4.out.size (.cells #[.int .i64 1, .string t, .int .i64 0, .int .i64 12, .string ⟨#[]⟩, .int .i64 0] 41)) hG (by have := O4.out.size; simp; omega) (fun k e => by have := I4.out.lt; simp at e; omega)
    have I9 := hide hI
    have R9 := hide (R4.out.low BG hRb)
    have O9 := hide (O4.out.then BG)
    clear hI hG BG
    go_wp2
    go_ret
    refine ⟨_, g9, c9, rfl, I9.out, by simp, by simp only [List.length_cons, List.length_nil]; omega, ?_, q4, by omega, R9.out, O9.out⟩
    intro i hi
    simp only [List.mem_cons, List.not_mem_nil, or_false] at hi
    rcases hi with rfl | rfl
    · show t.data.toList.length ≤ 5000; rw [Array.length_toList]; show t.size ≤ 5000; omega
    · exact Nat.zero_le _
  · go_wp2_with fail
    refine (l1Name_any R _ _ R1.out (by omega)).mono ?_
    rintro e W2 ⟨t, rfl, ht, hR, hO⟩
    obtain ⟨q2, hq2⟩ : ∃ q2, q2 = q1 + 1 := ⟨_, rfl⟩
    rw [← hq2] at hR
    have I2 := hide (I1.out.only hO hRb)
    have R2 := hide hR
    have O2 := hide (O1.out.trans hO)
    clear hO hR
    go_wp2_with fail
    refine (l1Lit_any t _).mono ?_
    rintro e W3 ⟨rfl, hB⟩
    obtain ⟨q3, hq3⟩ : ∃ q3, q3 = q2 := ⟨_, rfl⟩
    rw [← hq3] at R2
    have I3 := hide (I2.out.below hB (Nat.le_refl _))
    have R3 := hide (R2.out.below hB (Nat.le_refl _))
    have O3 := hide (O2.out.trans (Only.of_below hB))
    clear hB
    go_wp2_with fail
    refine (l1Op_any 12 _).mono ?_
    rintro e W4 ⟨rfl, hB⟩
    obtain ⟨q4, hq4⟩ : ∃ q4, q4 = q3 := ⟨_, rfl⟩
    rw [← hq4] at R3
    have I4 := hide (I3.out.below hB (Nat.le_refl _))
    have R4 := hide (R3.out.below hB (Nat.le_refl _))
    have O4 := hide (O3.out.trans (Only.of_below hB))
    clear hB
    go_wp2_with fail
    refine (pick_any R _ 3 _ R4.out (by omega) (by omega) (by omega)).mono ?_
    rintro e W5 ⟨y, rfl, y0, y1, hR, hO⟩
    obtain ⟨q5, hq5⟩ : ∃ q5, q5 = q4 + 1 := ⟨_, rfl⟩
    rw [← hq5] at hR
    have I5 := hide (I4.out.only hO hRb)
    have R5 := hide hR
    have O5 := hide (O4.out.trans hO)
    clear hO hR
    go_wp2_with fail
    refine (l1OpN_any 5 y _).mono ?_
    rintro e W6 ⟨rfl, hB⟩
    obtain ⟨q6, hq6⟩ : ∃ q6, q6 = q5 := ⟨_, rfl⟩
    rw [← hq6] at R5
    have I6 := hide (I5.out.below hB (Nat.le_refl _))
    have R6 := hide (R5.out.below hB (Nat.le_refl _))
    have O6 := hide (O5.out.trans (Only.of_below hB))
    clear hB
    go_wp2_with fail
    refine (l1Op_any 12 _).mono ?_
    rintro e W7 ⟨rfl, hB⟩
    obtain ⟨q7, hq7⟩ : ∃ q7, q7 = q6 := ⟨_, rfl⟩
    rw [← hq7] at R6
    have I7 := hide (I6.out.below hB (Nat.le_refl _))
    have R7 := hide (R6.out.below hB (Nat.le_refl _))
    have O7 := hide (O6.out.trans (Only.of_below hB))
    clear hB
    have X7 := hide (I7.out.below ((Below.refl W7.heap.size W7).alloc (Nat.le_refl _) (.cells #[.int .i64 1, .string t, .int .i64 0, .int .i64 12, .string ⟨#[]⟩, .int .i64 0, .int .i64 5, .string ⟨#[]⟩, .int .i64 y, .int .i64 12, .string ⟨#[]⟩, .int .i64 0] 41)) (Nat.le_refl _))
    go_wp2_with (at_builtin; refine wp_appI rfl (.tmp 45) (.tmp 54) rfl w.heap.size w.heap.size 0 [] (by simp [Act.eval]) X7.out ⟨W7.heap.size, 0, none⟩ 4 4 [(1, t.data.toList, 0), (12, [], 0), (5, [], y), (12, [], 0)] (by simp [Act.eval]) rfl (by simp) (new_cells W7 #[.int .i64 1, .string t, .int .i64 0, .int .i64 12, .string ⟨#[]⟩, .int .i64 0, .int .i64 5, .string ⟨#[]⟩, .int .i64 y, .int .i64 12, .string ⟨#[]⟩, .int .i64 0] _) (by simp only [List.length_cons, List.length_nil]; omega) (by have := O7.out.size; simp; omega) ?_)
    intro g9 c9 w9 hI hG
    have BG := Below.grown ((Below.refl w.heap.size W7).alloc O7.out.size (.cells #[.int .i64 1, .string t, .int .i64 0, .int .i64 12, .string ⟨#[]⟩, .int .i64 0, .int .i64 5, .string ⟨#[]⟩, .int .i64 y, .int .i64 12, .string ⟨#[]⟩, .int .i64 0] 41)) hG (by have := O7.out.size; simp; omega) (fun k e => by have := I7.out.lt; simp at e; omega)
    have I9 := hide hI
    have R9 := hide (R7.out.low BG hRb)
    have O9 := hide (O7.out.then BG)
    clear hI hG BG
    go_wp2
    go_ret
    refine ⟨_, g9, c9, rfl, I9.out, by simp, by simp only [List.length_cons, List.length_nil]; omega, ?_, q7, by omega, R9.out, O9.out⟩
    intro i hi
    simp only [List.mem_cons, List.not_mem_nil, or_false] at hi
    rcases hi with rfl | rfl | rfl | rfl
    · show t.data.toList.length ≤ 5000; rw [Array.length_toList]; show t.size ≤ 5000; omega
    · exact Nat.zero_le _
    · exact Nat.zero_le _
    · exact Nat.zero_le _

end Go.Proofs.YtpefignfaooonaaGreatDoor.Vp
