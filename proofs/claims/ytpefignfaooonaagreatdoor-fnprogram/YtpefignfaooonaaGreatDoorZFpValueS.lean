/-
  FnProgram: l1Value. Written by tools/fpvalue.py.
-/
import Derived.Test.YtpefignfaooonaaGreatDoorZFpValue
import Derived.Test.YtpefignfaooonaaGreatDoorZFpSet
import Derived.Deep.DeepCutAuto
namespace Go.Proofs.YtpefignfaooonaaGreatDoor.Vp
open Go.RowKit

set_option maxRecDepth 100000 in
set_option maxHeartbeats 8000000 in
theorem l1Value_s (d nb nc : Nat) (hd3 : (d : Int) ≤ 10) (hb : nb ≤ 44) (hb4 : 4 ≤ nb) (hc : nc ≤ 200) (hc14 : 14 ≤ nc) (IH : ∀ (R p : Nat) (at_ : Int) (w : World), Rd w R p → p + nc ≤ 30000 → 0 ≤ at_ → at_ + (nb : Int) ≤ 10000 → Calls Tryz.prog 43 #[.pointer (some ⟨R, 0, none⟩), .int .i64 at_, .int .i64 (d : Int)] w fun e w' => DI w R (p + nc) nb e w') (R p : Nat) (at_ : Int) (w : World) (hR : Rd w R p) (hp : p + (3 * nc + 14) ≤ 30000) (ha0 : 0 ≤ at_) (ha1 : at_ + ((3 * nb + 2 : Nat) : Int) ≤ 10000) :
    Calls Tryz.prog 43 #[.pointer (some ⟨R, 0, none⟩), .int .i64 at_, .int .i64 ((d : Int) + 1)] w fun e w' => DI w R (p + (3 * nc + 14)) (3 * nb + 2) e w' := by
  have hRb := hR.lt
  have A0 := (Below.refl w.heap.size w).alloc (Nat.le_refl _) (.cells #[] 41)
  have I0 := hide (IR.lit w)
  have R0 := hide (hR.below A0 (Nat.le_refl _))
  have O0 : Hid (Only R w (w.alloc (.cells #[] 41))) := Only.of_below A0
  clear A0 hR
  go_enter Tryz.func43, Tryz.ntmps43
  go_wp2_with fail
  generalize w.alloc (.cells #[] 41) = W0 at I0 R0 O0 ⊢
  refine (pick_any R _ 12 _ R0.out (by omega) (by omega) (by omega)).mono ?_
  rintro e W1 ⟨z, rfl, z0, z1, hR, hO⟩
  obtain ⟨q1, hq1⟩ : ∃ q1, q1 = p + 1 := ⟨_, rfl⟩
  rw [← hq1] at hR
  have I1 := hide (I0.out.only hO hRb)
  have R1 := hide hR
  have O1 := hide (O0.out.trans hO)
  clear hO hR I0 R0 O0
  have hd : ¬ ((d : Int) + 1 ≤ 0) := by omega
  have T0 : Hid (∀ i ∈ ([] : List I3), i.2.1.length ≤ 5000) := fun i hi => by cases hi
  rcases (show z = 0 ∨ z = 1 ∨ z = 2 ∨ z = 3 ∨ z = 4 ∨ z = 5 ∨ z = 6 ∨ z = 7 ∨ z = 8 ∨ z = 9 ∨ z = 10 ∨ z = 11 by omega) with rfl | rfl | rfl | rfl | rfl | rfl | rfl | rfl | rfl | rfl | rfl | rfl
  · go_wp2_with fail
    refine (l1Text_any R _ _ R1.out (by omega)).mono ?_
    rintro e W2 ⟨t, rfl, ht, q2, hq2, hR, hO⟩
    have I2 := hide (I1.out.only hO hRb)
    have R2 := hide hR
    have O2 := hide (O1.out.trans hO)
    clear hO hR
    go_wp2_with fail
    refine (l1Lit_any t _).mono ?_
    rintro e W3 ⟨rfl, hB⟩
    obtain ⟨q3, hq3⟩ : ∃ q3, q3 = q2 := ⟨_, rfl⟩
    rw [← hq3] at R2
    have I3 := hide (I2.out.below hB (Nat.le_refl _))
    have R3 := hide (R2.out.below hB (Nat.le_refl _))
    have O3 := hide (O2.out.trans (Only.of_below hB))
    clear hB
    have X3 := hide (I3.out.below ((Below.refl W3.heap.size W3).alloc (Nat.le_refl _) (.cells #[.int .i64 1, .string t, .int .i64 0] 41)) (Nat.le_refl _))
    go_wp2_with (at_builtin; refine wp_appI rfl (.tmp 26) (.tmp 30) rfl w.heap.size w.heap.size 0 [] (by simp [Act.eval]) X3.out ⟨W3.heap.size, 0, none⟩ 1 1 [(1, t.data.toList, 0)] (by simp [Act.eval]) rfl (by simp) (new_cells W3 #[.int .i64 1, .string t, .int .i64 0] _) (by simp only [List.length_cons, List.length_nil]; omega) (by have := O3.out.size; simp; omega) ?_)
    intro g9 c9 w9 hI hG
    have BG := Below.grown ((Below.refl w.heap.size W3).alloc O3.out.size (.cells #[.int .i64 1, .string t, .int .i64 0] 41)) hG (by have := O3.out.size; simp; omega) (fun k e => by have := I3.out.lt; simp at e; omega)
    have I9 := hide hI
    have R9 := hide (R3.out.low BG hRb)
    have O9 := hide (O3.out.then BG)
    clear hI hG BG
    go_wp2
    go_ret
    refine ⟨_, g9, c9, rfl, I9.out, by simp, by simp only [List.length_cons, List.length_nil]; omega, ?_, q3, by omega, R9.out, O9.out⟩
    intro i hi
    simp only [List.mem_cons, List.not_mem_nil, or_false] at hi
    subst hi
    show t.data.toList.length ≤ 5000
    rw [Array.length_toList]
    show t.size ≤ 5000
    omega
  · go_wp2_with fail
    refine (l1Text_any R _ _ R1.out (by omega)).mono ?_
    rintro e W2 ⟨t, rfl, ht, q2, hq2, hR, hO⟩
    have I2 := hide (I1.out.only hO hRb)
    have R2 := hide hR
    have O2 := hide (O1.out.trans hO)
    clear hO hR
    go_wp2_with fail
    refine (l1Lit_any t _).mono ?_
    rintro e W3 ⟨rfl, hB⟩
    obtain ⟨q3, hq3⟩ : ∃ q3, q3 = q2 := ⟨_, rfl⟩
    rw [← hq3] at R2
    have I3 := hide (I2.out.below hB (Nat.le_refl _))
    have R3 := hide (R2.out.below hB (Nat.le_refl _))
    have O3 := hide (O2.out.trans (Only.of_below hB))
    clear hB
    have X3 := hide (I3.out.below ((Below.refl W3.heap.size W3).alloc (Nat.le_refl _) (.cells #[.int .i64 1, .string t, .int .i64 0] 41)) (Nat.le_refl _))
    go_wp2_with (at_builtin; refine wp_appI rfl (.tmp 26) (.tmp 30) rfl w.heap.size w.heap.size 0 [] (by simp [Act.eval]) X3.out ⟨W3.heap.size, 0, none⟩ 1 1 [(1, t.data.toList, 0)] (by simp [Act.eval]) rfl (by simp) (new_cells W3 #[.int .i64 1, .string t, .int .i64 0] _) (by simp only [List.length_cons, List.length_nil]; omega) (by have := O3.out.size; simp; omega) ?_)
    intro g9 c9 w9 hI hG
    have BG := Below.grown ((Below.refl w.heap.size W3).alloc O3.out.size (.cells #[.int .i64 1, .string t, .int .i64 0] 41)) hG (by have := O3.out.size; simp; omega) (fun k e => by have := I3.out.lt; simp at e; omega)
    have I9 := hide hI
    have R9 := hide (R3.out.low BG hRb)
    have O9 := hide (O3.out.then BG)
    clear hI hG BG
    go_wp2
    go_ret
    refine ⟨_, g9, c9, rfl, I9.out, by simp, by simp only [List.length_cons, List.length_nil]; omega, ?_, q3, by omega, R9.out, O9.out⟩
    intro i hi
    simp only [List.mem_cons, List.not_mem_nil, or_false] at hi
    subst hi
    show t.data.toList.length ≤ 5000
    rw [Array.length_toList]
    show t.size ≤ 5000
    omega
  · go_wp2_with fail
    refine (l1Name_any R _ _ R1.out (by omega)).mono ?_
    rintro e W2 ⟨t, rfl, ht, hR, hO⟩
    obtain ⟨q2, hq2⟩ : ∃ q2, q2 = q1 + 1 := ⟨_, rfl⟩
    rw [← hq2] at hR
    have I2 := hide (I1.out.only hO hRb)
    have R2 := hide hR
    have O2 := hide (O1.out.trans hO)
    clear hO hR
    go_wp2_with fail
    refine (l1Lit_any t _).mono ?_
    rintro e W3 ⟨rfl, hB⟩
    obtain ⟨q3, hq3⟩ : ∃ q3, q3 = q2 := ⟨_, rfl⟩
    rw [← hq3] at R2
    have I3 := hide (I2.out.below hB (Nat.le_refl _))
    have R3 := hide (R2.out.below hB (Nat.le_refl _))
    have O3 := hide (O2.out.trans (Only.of_below hB))
    clear hB
    go_wp2_with fail
    refine (l1Op_any 12 _).mono ?_
    rintro e W4 ⟨rfl, hB⟩
    obtain ⟨q4, hq4⟩ : ∃ q4, q4 = q3 := ⟨_, rfl⟩
    rw [← hq4] at R3
    have I4 := hide (I3.out.below hB (Nat.le_refl _))
    have R4 := hide (R3.out.below hB (Nat.le_refl _))
    have O4 := hide (O3.out.trans (Only.of_below hB))
    clear hB
    have X4 := hide (I4.out.below ((Below.refl W4.heap.size W4).alloc (Nat.le_refl _) (.cells #[.int .i64 1, .string t, .int .i64 0, .int .i64 12, .string ⟨#[]⟩, .int .i64 0] 41)) (Nat.le_refl _))
    go_wp2_with (at_builtin; refine wp_appI rfl (.tmp 36) (.tmp 41) rfl w.heap.size w.heap.size 0 [] (by simp [Act.eval]) X4.out ⟨W4.heap.size, 0, none⟩ 2 2 [(1, t.data.toList, 0), (12, [], 0)] (by simp [Act.eval]) rfl (by simp) (new_cells W4 #[.int .i64 1, .string t, .int .i64 0, .int .i64 12, .string ⟨#[]⟩, .int .i64 0] _) (by simp only [List.length_cons, List.length_nil]; omega) (by have := O4.out.size; simp; omega) ?_)
    intro g9 c9 w9 hI hG
    have BG := Below.grown ((Below.refl w.heap.size W4).alloc O4.out.size (.cells #[.int .i64 1, .string t, .int .i64 0, .int .i64 12, .string ⟨#[]⟩, .int .i64 0] 41)) hG (by have := O4.out.size; simp; omega) (fun k e => by have := I4.out.lt; simp at e; omega)
    have I9 := hide hI
    have R9 := hide (R4.out.low BG hRb)
    have O9 := hide (O4.out.then BG)
    clear hI hG BG
    go_wp2
    go_ret
    refine ⟨_, g9, c9, rfl, I9.out, by simp, by simp only [List.length_cons, List.length_nil]; omega, ?_, q4, by omega, R9.out, O9.out⟩
    intro i hi
    simp only [List.mem_cons, List.not_mem_nil, or_false] at hi
    rcases hi with rfl | rfl
    · show t.data.toList.length ≤ 5000; rw [Array.length_toList]; show t.size ≤ 5000; omega
    · exact Nat.zero_le _
  · go_wp2_with fail
    refine (l1Name_any R _ _ R1.out (by omega)).mono ?_
    rintro e W2 ⟨t, rfl, ht, hR, hO⟩
    obtain ⟨q2, hq2⟩ : ∃ q2, q2 = q1 + 1 := ⟨_, rfl⟩
    rw [← hq2] at hR
    have I2 := hide (I1.out.only hO hRb)
    have R2 := hide hR
    have O2 := hide (O1.out.trans hO)
    clear hO hR
    go_wp2_with fail
    refine (l1Lit_any t _).mono ?_
    rintro e W3 ⟨rfl, hB⟩
    obtain ⟨q3, hq3⟩ : ∃ q3, q3 = q2 := ⟨_, rfl⟩
    rw [← hq3] at R2
    have I3 := hide (I2.out.below hB (Nat.le_refl _))
    have R3 := hide (R2.out.below hB (Nat.le_refl _))
    have O3 := hide (O2.out.trans (Only.of_below hB))
    clear hB
    go_wp2_with fail
    refine (l1Op_any 12 _).mono ?_
    rintro e W4 ⟨rfl, hB⟩
    obtain ⟨q4, hq4⟩ : ∃ q4, q4 = q3 := ⟨_, rfl⟩
    rw [← hq4] at R3
    have I4 := hide (I3.out.below hB (Nat.le_refl _))
    have R4 := hide (R3.out.below hB (Nat.le_refl _))
    have O4 := hide (O3.out.trans (Only.of_below hB))
    clear hB
    have X4 := hide (I4.out.below ((Below.refl W4.heap.size W4).alloc (Nat.le_refl _) (.cells #[.int .i64 1, .string t, .int .i64 0, .int .i64 12, .string ⟨#[]⟩, .int .i64 0] 41)) (Nat.le_refl _))
    go_wp2_with (at_builtin; refine wp_appI rfl (.tmp 36) (.tmp 41) rfl w.heap.size w.heap.size 0 [] (by simp [Act.eval]) X4.out ⟨W4.heap.size, 0, none⟩ 2 2 [(1, t.data.toList, 0), (12, [], 0)] (by simp [Act.eval]) rfl (by simp) (new_cells W4 #[.int .i64 1, .string t, .int .i64 0, .int .i64 12, .string ⟨#[]⟩, .int .i64 0] _) (by simp only [List.length_cons, List.length_nil]; omega) (by have := O4.out.size; simp; omega) ?_)
    intro g9 c9 w9 hI hG
    have BG := Below.grown ((Below.refl w.heap.size W4).alloc O4.out.size (.cells #[.int .i64 1, .string t, .int .i64 0, .int .i64 12, .string ⟨#[]⟩, .int .i64 0] 41)) hG (by have := O4.out.size; simp; omega) (fun k e => by have := I4.out.lt; simp at e; omega)
    have I9 := hide hI
    have R9 := hide (R4.out.low BG hRb)
    have O9 := hide (O4.out.then BG)
    clear hI hG BG
    go_wp2
    go_ret
    refine ⟨_, g9, c9, rfl, I9.out, by simp, by simp only [List.length_cons, List.length_nil]; omega, ?_, q4, by omega, R9.out, O9.out⟩
    intro i hi
    simp only [List.mem_cons, List.not_mem_nil, or_false] at hi
    rcases hi with rfl | rfl
    · show t.data.toList.length ≤ 5000; rw [Array.length_toList]; show t.size ≤ 5000; omega
    · exact Nat.zero_le _
  · go_wp2_with fail
    refine (l1Name_any R _ _ R1.out (by omega)).mono ?_
    rintro e W2 ⟨t, rfl, ht, hR, hO⟩
    obtain ⟨q2, hq2⟩ : ∃ q2, q2 = q1 + 1 := ⟨_, rfl⟩
    rw [← hq2] at hR
    have I2 := hide (I1.out.only hO hRb)
    have R2 := hide hR
    have O2 := hide (O1.out.trans hO)
    clear hO hR
    go_wp2_with fail
    refine (l1Lit_any t _).mono ?_
    rintro e W3 ⟨rfl, hB⟩
    obtain ⟨q3, hq3⟩ : ∃ q3, q3 = q2 := ⟨_, rfl⟩
    rw [← hq3] at R2
    have I3 := hide (I2.out.below hB (Nat.le_refl _))
    have R3 := hide (R2.out.below hB (Nat.le_refl _))
    have O3 := hide (O2.out.trans (Only.of_below hB))
    clear hB
    go_wp2_with fail
    refine (l1Op_any 12 _).mono ?_
    rintro e W4 ⟨rfl, hB⟩
    obtain ⟨q4, hq4⟩ : ∃ q4, q4 = q3 := ⟨_, rfl⟩
    rw [← hq4] at R3
    have I4 := hide (I3.out.below hB (Nat.le_refl _))
    have R4 := hide (R3.out.below hB (Nat.le_refl _))
    have O4 := hide (O3.out.trans (Only.of_below hB))
    clear hB
    have X4 := hide (I4.out.below ((Below.refl W4.heap.size W4).alloc (Nat.le_refl _) (.cells #[.int .i64 1, .string t, .int .i64 0, .int .i64 12, .string ⟨#[]⟩, .int .i64 0] 41)) (Nat.le_refl _))
    go_wp2_with (at_builtin; refine wp_appI rfl (.tmp 36) (.tmp 41) rfl w.heap.size w.heap.size 0 [] (by simp [Act.eval]) X4.out ⟨W4.heap.size, 0, none⟩ 2 2 [(1, t.data.toList, 0), (12, [], 0)] (by simp [Act.eval]) rfl (by simp) (new_cells W4 #[.int .i64 1, .string t, .int .i64 0, .int .i64 12, .string ⟨#[]⟩, .int .i64 0] _) (by simp only [List.length_cons, List.length_nil]; omega) (by have := O4.out.size; simp; omega) ?_)
    intro g9 c9 w9 hI hG
    have BG := Below.grown ((Below.refl w.heap.size W4).alloc O4.out.size (.cells #[.int .i64 1, .string t, .int .i64 0, .int .i64 12, .string ⟨#[]⟩, .int .i64 0] 41)) hG (by have := O4.out.size; simp; omega) (fun k e => by have := I4.out.lt; simp at e; omega)
    have I9 := hide hI
    have R9 := hide (R4.out.low BG hRb)
    have O9 := hide (O4.out.then BG)
    clear hI hG BG
    go_wp2
    go_ret
    refine ⟨_, g9, c9, rfl, I9.out, by simp, by simp only [List.length_cons, List.length_nil]; omega, ?_, q4, by omega, R9.out, O9.out⟩
    intro i hi
    simp only [List.mem_cons, List.not_mem_nil, or_false] at hi
    rcases hi with rfl | rfl
    · show t.data.toList.length ≤ 5000; rw [Array.length_toList]; show t.size ≤ 5000; omega
    · exact Nat.zero_le _
  · go_wp2_with fail
    refine (l1Name_any R _ _ R1.out (by omega)).mono ?_
    rintro e W2 ⟨t, rfl, ht, hR, hO⟩
    obtain ⟨q2, hq2⟩ : ∃ q2, q2 = q1 + 1 := ⟨_, rfl⟩
    rw [← hq2] at hR
    have I2 := hide (I1.out.only hO hRb)
    have R2 := hide hR
    have O2 := hide (O1.out.trans hO)
    clear hO hR
    go_wp2_with fail
    refine (l1Lit_any t _).mono ?_
    rintro e W3 ⟨rfl, hB⟩
    obtain ⟨q3, hq3⟩ : ∃ q3, q3 = q2 := ⟨_, rfl⟩
    rw [← hq3] at R2
    have I3 := hide (I2.out.below hB (Nat.le_refl _))
    have R3 := hide (R2.out.below hB (Nat.le_refl _))
    have O3 := hide (O2.out.trans (Only.of_below hB))
    clear hB
    go_wp2_with fail
    refine (l1Op_any 12 _).mono ?_
    rintro e W4 ⟨rfl, hB⟩
    obtain ⟨q4, hq4⟩ : ∃ q4, q4 = q3 := ⟨_, rfl⟩
    rw [← hq4] at R3
    have I4 := hide (I3.out.below hB (Nat.le_refl _))
    have R4 := hide (R3.out.below hB (Nat.le_refl _))
    have O4 := hide (O3.out.trans (Only.of_below hB))
    clear hB
    go_wp2_with fail
    refine (pick_any R _ 3 _ R4.out (by omega) (by omega) (by omega)).mono ?_
    rintro e W5 ⟨y, rfl, y0, y1, hR, hO⟩
    obtain ⟨q5, hq5⟩ : ∃ q5, q5 = q4 + 1 := ⟨_, rfl⟩
    rw [← hq5] at hR
    have I5 := hide (I4.out.only hO hRb)
    have R5 := hide hR
    have O5 := hide (O4.out.trans hO)
    clear hO hR
    go_wp2_with fail
    refine (l1OpN_any 5 y _).mono ?_
    rintro e W6 ⟨rfl, hB⟩
    obtain ⟨q6, hq6⟩ : ∃ q6, q6 = q5 := ⟨_, rfl⟩
    rw [← hq6] at R5
    have I6 := hide (I5.out.below hB (Nat.le_refl _))
    have R6 := hide (R5.out.below hB (Nat.le_refl _))
    have O6 := hide (O5.out.trans (Only.of_below hB))
    clear hB
    go_wp2_with fail
    refine (l1Op_any 12 _).mono ?_
    rintro e W7 ⟨rfl, hB⟩
    obtain ⟨q7, hq7⟩ : ∃ q7, q7 = q6 := ⟨_, rfl⟩
    rw [← hq7] at R6
    have I7 := hide (I6.out.below hB (Nat.le_refl _))
    have R7 := hide (R6.out.below hB (Nat.le_refl _))
    have O7 := hide (O6.out.trans (Only.of_below hB))
    clear hB
    have X7 := hide (I7.out.below ((Below.refl W7.heap.size W7).alloc (Nat.le_refl _) (.cells #[.int .i64 1, .string t, .int .i64 0, .int .i64 12, .string ⟨#[]⟩, .int .i64 0, .int .i64 5, .string ⟨#[]⟩, .int .i64 y, .int .i64 12, .string ⟨#[]⟩, .int .i64 0] 41)) (Nat.le_refl _))
    go_wp2_with (at_builtin; refine wp_appI rfl (.tmp 45) (.tmp 54) rfl w.heap.size w.heap.size 0 [] (by simp [Act.eval]) X7.out ⟨W7.heap.size, 0, none⟩ 4 4 [(1, t.data.toList, 0), (12, [], 0), (5, [], y), (12, [], 0)] (by simp [Act.eval]) rfl (by simp) (new_cells W7 #[.int .i64 1, .string t, .int .i64 0, .int .i64 12, .string ⟨#[]⟩, .int .i64 0, .int .i64 5, .string ⟨#[]⟩, .int .i64 y, .int .i64 12, .string ⟨#[]⟩, .int .i64 0] _) (by simp only [List.length_cons, List.length_nil]; omega) (by have := O7.out.size; simp; omega) ?_)
    intro g9 c9 w9 hI hG
    have BG := Below.grown ((Below.refl w.heap.size W7).alloc O7.out.size (.cells #[.int .i64 1, .string t, .int .i64 0, .int .i64 12, .string ⟨#[]⟩, .int .i64 0, .int .i64 5, .string ⟨#[]⟩, .int .i64 y, .int .i64 12, .string ⟨#[]⟩, .int .i64 0] 41)) hG (by have := O7.out.size; simp; omega) (fun k e => by have := I7.out.lt; simp at e; omega)
    have I9 := hide hI
    have R9 := hide (R7.out.low BG hRb)
    have O9 := hide (O7.out.then BG)
    clear hI hG BG
    go_wp2
    go_ret
    refine ⟨_, g9, c9, rfl, I9.out, by simp, by simp only [List.length_cons, List.length_nil]; omega, ?_, q7, by omega, R9.out, O9.out⟩
    intro i hi
    simp only [List.mem_cons, List.not_mem_nil, or_false] at hi
    rcases hi with rfl | rfl | rfl | rfl
    · show t.data.toList.length ≤ 5000; rw [Array.length_toList]; show t.size ≤ 5000; omega
    · exact Nat.zero_le _
    · exact Nat.zero_le _
    · exact Nat.zero_le _
  · go_wp2_with fail
    refine (l1Name_any R _ _ R1.out (by omega)).mono ?_
    rintro e W2 ⟨t, rfl, ht, hR, hO⟩
    obtain ⟨q2, hq2⟩ : ∃ q2, q2 = q1 + 1 := ⟨_, rfl⟩
    rw [← hq2] at hR
    have I2 := hide (I1.out.only hO hRb)
    have R2 := hide hR
    have O2 := hide (O1.out.trans hO)
    clear hO hR
    go_wp2_with fail
    refine (l1Lit_any t _).mono ?_
    rintro e W3 ⟨rfl, hB⟩
    obtain ⟨q3, hq3⟩ : ∃ q3, q3 = q2 := ⟨_, rfl⟩
    rw [← hq3] at R2
    have I3 := hide (I2.out.below hB (Nat.le_refl _))
    have R3 := hide (R2.out.below hB (Nat.le_refl _))
    have O3 := hide (O2.out.trans (Only.of_below hB))
    clear hB
    go_wp2_with fail
    refine (l1Op_any 13 _).mono ?_
    rintro e W4 ⟨rfl, hB⟩
    obtain ⟨q4, hq4⟩ : ∃ q4, q4 = q3 := ⟨_, rfl⟩
    rw [← hq4] at R3
    have I4 := hide (I3.out.below hB (Nat.le_refl _))
    have R4 := hide (R3.out.below hB (Nat.le_refl _))
    have O4 := hide (O3.out.trans (Only.of_below hB))
    clear hB
    have X4 := hide (I4.out.below ((Below.refl W4.heap.size W4).alloc (Nat.le_refl _) (.cells #[.int .i64 1, .string t, .int .i64 0, .int .i64 13, .string ⟨#[]⟩, .int .i64 0] 41)) (Nat.le_refl _))
    go_wp2_with (at_builtin; refine wp_appI rfl (.tmp 58) (.tmp 63) rfl w.heap.size w.heap.size 0 [] (by simp [Act.eval]) X4.out ⟨W4.heap.size, 0, none⟩ 2 2 [(1, t.data.toList, 0), (13, [], 0)] (by simp [Act.eval]) rfl (by simp) (new_cells W4 #[.int .i64 1, .string t, .int .i64 0, .int .i64 13, .string ⟨#[]⟩, .int .i64 0] _) (by simp only [List.length_cons, List.length_nil]; omega) (by have := O4.out.size; simp; omega) ?_)
    intro g9 c9 w9 hI hG
    have BG := Below.grown ((Below.refl w.heap.size W4).alloc O4.out.size (.cells #[.int .i64 1, .string t, .int .i64 0, .int .i64 13, .string ⟨#[]⟩, .int .i64 0] 41)) hG (by have := O4.out.size; simp; omega) (fun k e => by have := I4.out.lt; simp at e; omega)
    have I9 := hide hI
    have R9 := hide (R4.out.low BG hRb)
    have O9 := hide (O4.out.then BG)
    clear hI hG BG
    go_wp2
    go_ret
    refine ⟨_, g9, c9, rfl, I9.out, by simp, by simp only [List.length_cons, List.length_nil]; omega, ?_, q4, by omega, R9.out, O9.out⟩
    intro i hi
    simp only [List.mem_cons, List.not_mem_nil, or_false] at hi
    rcases hi with rfl | rfl
    · show t.data.toList.length ≤ 5000; rw [Array.length_toList]; show t.size ≤ 5000; omega
    · exact Nat.zero_le _
  · go_wp2_with fail
    refine (IH R q1 at_ W1 R1.out (by omega) (by omega) (by omega)).mono ?_
    rintro e W2 ⟨M, gM, cM, rfl, hM, hMne, hMn, hMt, q2, hq2, hR, hO⟩
    have I2 := hide (I1.out.only hO hRb)
    have J2 := hide hM
    have R2 := hide hR
    have O2 := hide (O1.out.trans hO)
    have HMT := hide hMt
    have HMN := hide hMne
    clear hO hR hM hMt hMne
    go_wp2_with (at_builtin; refine wp_appI rfl (.tmp 67) (.tmp 72) rfl w.heap.size w.heap.size 0 [] (by simp [Act.eval]) I2.out ⟨gM, 0, none⟩ M.length cM M (by simp [Act.eval]) rfl HMN.out J2.out.news (by first | omega | (simp only [List.length_nil]; omega)) O2.out.size ?_)
    intro g1 c1 W3 hI hG
    have BG := Below.grown (Below.refl w.heap.size W2) hG O2.out.size (fun k e => by have := I2.out.lt; simp at e; omega)
    obtain ⟨L1, hL⟩ : ∃ L1, L1 = M := ⟨_, rfl⟩
    rw [← hL] at hI ⊢
    have hn1 : L1.length = 0 + M.length := by rw [hL]; omega
    have T1 : Hid (∀ i ∈ L1, i.2.1.length ≤ 5000) := fun i hi => by
      rw [hL] at hi
      exact HMT.out i hi
    have hp1 : 0 < L1.length := by have := List.length_pos_iff.2 HMN.out; omega
    have I3 := hide hI
    have R3 := hide (R2.out.low BG hRb)
    have O3 := hide (O2.out.then BG)
    obtain ⟨q3, hq3⟩ : ∃ q3, q3 = q2 := ⟨_, rfl⟩
    rw [← hq3] at R3
    have lb1 : L1.length ≤ nb := by omega
    have le1 : 0 ≤ L1.length := by omega
    clear hI hG BG hL hn1 HMT HMN J2
    go_wp2_with fail
    refine (IH R q3 (at_ + (L1.length : Int)) W3 R3.out (by omega) (by omega) (by omega)).mono ?_
    rintro e W4 ⟨M, gM, cM, rfl, hM, hMne, hMn, hMt, q4, hq4, hR, hO⟩
    have I4 := hide (I3.out.only hO hRb)
    have J4 := hide hM
    have R4 := hide hR
    have O4 := hide (O3.out.trans hO)
    have HMT := hide hMt
    have HMN := hide hMne
    clear hO hR hM hMt hMne
    go_wp2_with (at_builtin; refine wp_appI rfl (.tmp 74) (.tmp 82) rfl w.heap.size g1 c1 L1 (by simp [Act.eval]) I4.out ⟨gM, 0, none⟩ M.length cM M (by simp [Act.eval]) rfl HMN.out J4.out.news (by first | omega | (simp only [List.length_nil]; omega)) O4.out.size ?_)
    intro g2 c2 W5 hI hG
    have BG := Below.grown (Below.refl w.heap.size W4) hG O4.out.size (fun k e => by have := I4.out.lt; simp at e; omega)
    obtain ⟨L2, hL⟩ : ∃ L2, L2 = L1 ++ M := ⟨_, rfl⟩
    rw [← hL] at hI
    have hn2 : L2.length = L1.length + M.length := by rw [hL, List.length_append]
    rw [← hn2]
    have T2 : Hid (∀ i ∈ L2, i.2.1.length ≤ 5000) := fun i hi => by
      rw [hL] at hi
      rcases List.mem_append.1 hi with hi | hi
      · exact T1.out i hi
      · exact HMT.out i hi
    have hp2 : 0 < L2.length := by have := List.length_pos_iff.2 HMN.out; omega
    have I5 := hide hI
    have R5 := hide (R4.out.low BG hRb)
    have O5 := hide (O4.out.then BG)
    obtain ⟨q5, hq5⟩ : ∃ q5, q5 = q4 := ⟨_, rfl⟩
    rw [← hq5] at R5
    have lb2 : L2.length ≤ 2 * nb := by omega
    have le2 : L1.length ≤ L2.length := by omega
    clear hI hG BG hL hn2 HMT HMN J4
    go_wp2_with fail
    refine (pick_any R _ 2 _ R5.out (by omega) (by omega) (by omega)).mono ?_
    rintro e W6 ⟨y, rfl, y0, y1, hR, hO⟩
    obtain ⟨q6, hq6⟩ : ∃ q6, q6 = q5 + 1 := ⟨_, rfl⟩
    rw [← hq6] at hR
    have I6 := hide (I5.out.only hO hRb)
    have R6 := hide hR
    have O6 := hide (O5.out.trans hO)
    clear hO hR
    go_wp2_with fail
    refine (l1Op_any (2 + 4 * y) _).mono ?_
    rintro e W7 ⟨rfl, hB⟩
    obtain ⟨q7, hq7⟩ : ∃ q7, q7 = q6 := ⟨_, rfl⟩
    rw [← hq7] at R6
    have I7 := hide (I6.out.below hB (Nat.le_refl _))
    have R7 := hide (R6.out.below hB (Nat.le_refl _))
    have O7 := hide (O6.out.trans (Only.of_below hB))
    clear hB
    have X7 := hide (I7.out.below ((Below.refl W7.heap.size W7).alloc (Nat.le_refl _) (.cells #[.int .i64 (2 + 4 * y), .string ⟨#[]⟩, .int .i64 0] 41)) (Nat.le_refl _))
    go_wp2_with (at_builtin; refine wp_appI rfl (.tmp 84) (.tmp 90) rfl w.heap.size g2 c2 L2 (by simp [Act.eval]) X7.out ⟨W7.heap.size, 0, none⟩ 1 1 [(2 + 4 * y, [], 0)] (by simp [Act.eval]) rfl (by simp) (new_cells W7 #[.int .i64 (2 + 4 * y), .string ⟨#[]⟩, .int .i64 0] _) (by simp only [List.length_cons, List.length_nil]; omega) (by have := O7.out.size; simp; omega) ?_)
    intro g3 c3 W8 hI hG
    have BG := Below.grown ((Below.refl w.heap.size W7).alloc O7.out.size (.cells #[.int .i64 (2 + 4 * y), .string ⟨#[]⟩, .int .i64 0] 41)) hG (by have := O7.out.size; simp; omega) (fun k e => by have := I7.out.lt; simp at e; omega)
    obtain ⟨L3, hL⟩ : ∃ L3, L3 = L2 ++ [(2 + 4 * y, [], 0)] := ⟨_, rfl⟩
    rw [← hL] at hI
    have hn3 : L3.length = L2.length + 1 := by rw [hL, List.length_append]; rfl
    rw [← hn3]
    have T3 : Hid (∀ i ∈ L3, i.2.1.length ≤ 5000) := fun i hi => by
      rw [hL] at hi
      rcases List.mem_append.1 hi with hi | hi
      · exact T2.out i hi
      · rw [List.mem_singleton.1 hi]; exact Nat.zero_le _
    have I8 := hide hI
    have R8 := hide (R7.out.low BG hRb)
    have O8 := hide (O7.out.then BG)
    obtain ⟨q8, hq8⟩ : ∃ q8, q8 = q7 := ⟨_, rfl⟩
    rw [← hq8] at R8
    have hp3 : 0 < L3.length := by omega
    have lb3 : L3.length ≤ 2 * nb + 1 := by omega
    have le3 : L2.length < L3.length := by omega
    clear hI hG BG hL hn3
    go_wp2
    go_ret
    exact ⟨L3, g3, c3, rfl, I8.out, List.length_pos_iff.1 hp3, by omega, T3.out, q8, by omega, R8.out, O8.out⟩
  · go_wp2_with fail
    refine (IH R q1 at_ W1 R1.out (by omega) (by omega) (by omega)).mono ?_
    rintro e W2 ⟨M, gM, cM, rfl, hM, hMne, hMn, hMt, q2, hq2, hR, hO⟩
    have I2 := hide (I1.out.only hO hRb)
    have J2 := hide hM
    have R2 := hide hR
    have O2 := hide (O1.out.trans hO)
    have HMT := hide hMt
    have HMN := hide hMne
    clear hO hR hM hMt hMne
    go_wp2_with (at_builtin; refine wp_appI rfl (.tmp 94) (.tmp 99) rfl w.heap.size w.heap.size 0 [] (by simp [Act.eval]) I2.out ⟨gM, 0, none⟩ M.length cM M (by simp [Act.eval]) rfl HMN.out J2.out.news (by first | omega | (simp only [List.length_nil]; omega)) O2.out.size ?_)
    intro g1 c1 W3 hI hG
    have BG := Below.grown (Below.refl w.heap.size W2) hG O2.out.size (fun k e => by have := I2.out.lt; simp at e; omega)
    obtain ⟨L1, hL⟩ : ∃ L1, L1 = M := ⟨_, rfl⟩
    rw [← hL] at hI ⊢
    have hn1 : L1.length = 0 + M.length := by rw [hL]; omega
    have T1 : Hid (∀ i ∈ L1, i.2.1.length ≤ 5000) := fun i hi => by
      rw [hL] at hi
      exact HMT.out i hi
    have hp1 : 0 < L1.length := by have := List.length_pos_iff.2 HMN.out; omega
    have I3 := hide hI
    have R3 := hide (R2.out.low BG hRb)
    have O3 := hide (O2.out.then BG)
    obtain ⟨q3, hq3⟩ : ∃ q3, q3 = q2 := ⟨_, rfl⟩
    rw [← hq3] at R3
    have lb1 : L1.length ≤ nb := by omega
    have le1 : 0 ≤ L1.length := by omega
    clear hI hG BG hL hn1 HMT HMN J2
    go_wp2_with fail
    refine (pick_any R _ 3 _ R3.out (by omega) (by omega) (by omega)).mono ?_
    rintro e W4 ⟨x, rfl, x0, x1, hR, hO⟩
    obtain ⟨q4, hq4⟩ : ∃ q4, q4 = q3 + 1 := ⟨_, rfl⟩
    rw [← hq4] at hR
    have I4 := hide (I3.out.only hO hRb)
    have R4 := hide hR
    have O4 := hide (O3.out.trans hO)
    clear hO hR
    go_wp2_with fail
    refine (pick_any R _ 4 _ R4.out (by omega) (by omega) (by omega)).mono ?_
    rintro e W5 ⟨y, rfl, y0, y1, hR, hO⟩
    obtain ⟨q5, hq5⟩ : ∃ q5, q5 = q4 + 1 := ⟨_, rfl⟩
    rw [← hq5] at hR
    have I5 := hide (I4.out.only hO hRb)
    have R5 := hide hR
    have O5 := hide (O4.out.trans hO)
    clear hO hR
    go_wp2_with fail
    refine (l1OpN_any (3 + x) y _).mono ?_
    rintro e W6 ⟨rfl, hB⟩
    obtain ⟨q6, hq6⟩ : ∃ q6, q6 = q5 := ⟨_, rfl⟩
    rw [← hq6] at R5
    have I6 := hide (I5.out.below hB (Nat.le_refl _))
    have R6 := hide (R5.out.below hB (Nat.le_refl _))
    have O6 := hide (O5.out.trans (Only.of_below hB))
    clear hB
    have X6 := hide (I6.out.below ((Below.refl W6.heap.size W6).alloc (Nat.le_refl _) (.cells #[.int .i64 (3 + x), .string ⟨#[]⟩, .int .i64 y] 41)) (Nat.le_refl _))
    go_wp2_with (at_builtin; refine wp_appI rfl (.tmp 101) (.tmp 108) rfl w.heap.size g1 c1 L1 (by simp [Act.eval]) X6.out ⟨W6.heap.size, 0, none⟩ 1 1 [(3 + x, [], y)] (by simp [Act.eval]) rfl (by simp) (new_cells W6 #[.int .i64 (3 + x), .string ⟨#[]⟩, .int .i64 y] _) (by simp only [List.length_cons, List.length_nil]; omega) (by have := O6.out.size; simp; omega) ?_)
    intro g2 c2 W7 hI hG
    have BG := Below.grown ((Below.refl w.heap.size W6).alloc O6.out.size (.cells #[.int .i64 (3 + x), .string ⟨#[]⟩, .int .i64 y] 41)) hG (by have := O6.out.size; simp; omega) (fun k e => by have := I6.out.lt; simp at e; omega)
    obtain ⟨L2, hL⟩ : ∃ L2, L2 = L1 ++ [(3 + x, [], y)] := ⟨_, rfl⟩
    rw [← hL] at hI
    have hn2 : L2.length = L1.length + 1 := by rw [hL, List.length_append]; rfl
    rw [← hn2]
    have T2 : Hid (∀ i ∈ L2, i.2.1.length ≤ 5000) := fun i hi => by
      rw [hL] at hi
      rcases List.mem_append.1 hi with hi | hi
      · exact T1.out i hi
      · rw [List.mem_singleton.1 hi]; exact Nat.zero_le _
    have I7 := hide hI
    have R7 := hide (R6.out.low BG hRb)
    have O7 := hide (O6.out.then BG)
    obtain ⟨q7, hq7⟩ : ∃ q7, q7 = q6 := ⟨_, rfl⟩
    rw [← hq7] at R7
    have hp2 : 0 < L2.length := by omega
    have lb2 : L2.length ≤ nb + 1 := by omega
    have le2 : L1.length < L2.length := by omega
    clear hI hG BG hL hn2
    go_wp2
    go_ret
    exact ⟨L2, g2, c2, rfl, I7.out, List.length_pos_iff.1 hp2, by omega, T2.out, q7, by omega, R7.out, O7.out⟩
  · go_wp2_with fail
    refine (IH R q1 at_ W1 R1.out (by omega) (by omega) (by omega)).mono ?_
    rintro e W2 ⟨M, gM, cM, rfl, hM, hMne, hMn, hMt, q2, hq2, hR, hO⟩
    have I2 := hide (I1.out.only hO hRb)
    have J2 := hide hM
    have R2 := hide hR
    have O2 := hide (O1.out.trans hO)
    have HMT := hide hMt
    have HMN := hide hMne
    clear hO hR hM hMt hMne
    go_wp2_with (at_builtin; refine wp_appI rfl (.tmp 113) (.tmp 118) rfl w.heap.size w.heap.size 0 [] (by simp [Act.eval]) I2.out ⟨gM, 0, none⟩ M.length cM M (by simp [Act.eval]) rfl HMN.out J2.out.news (by first | omega | (simp only [List.length_nil]; omega)) O2.out.size ?_)
    intro g1 c1 W3 hI hG
    have BG := Below.grown (Below.refl w.heap.size W2) hG O2.out.size (fun k e => by have := I2.out.lt; simp at e; omega)
    obtain ⟨L1, hL⟩ : ∃ L1, L1 = M := ⟨_, rfl⟩
    rw [← hL] at hI ⊢
    have hn1 : L1.length = 0 + M.length := by rw [hL]; omega
    have T1 : Hid (∀ i ∈ L1, i.2.1.length ≤ 5000) := fun i hi => by
      rw [hL] at hi
      exact HMT.out i hi
    have hp1 : 0 < L1.length := by have := List.length_pos_iff.2 HMN.out; omega
    have I3 := hide hI
    have R3 := hide (R2.out.low BG hRb)
    have O3 := hide (O2.out.then BG)
    obtain ⟨q3, hq3⟩ : ∃ q3, q3 = q2 := ⟨_, rfl⟩
    rw [← hq3] at R3
    have lb1 : L1.length ≤ nb := by omega
    have le1 : 0 ≤ L1.length := by omega
    clear hI hG BG hL hn1 HMT HMN J2
    go_wp2_with fail
    refine (l1OpN_any 11 0 _).mono ?_
    rintro e W4 ⟨rfl, hB⟩
    obtain ⟨q4, hq4⟩ : ∃ q4, q4 = q3 := ⟨_, rfl⟩
    rw [← hq4] at R3
    have I4 := hide (I3.out.below hB (Nat.le_refl _))
    have R4 := hide (R3.out.below hB (Nat.le_refl _))
    have O4 := hide (O3.out.trans (Only.of_below hB))
    clear hB
    have X4 := hide (I4.out.below ((Below.refl W4.heap.size W4).alloc (Nat.le_refl _) (.cells #[.int .i64 11, .string ⟨#[]⟩, .int .i64 0] 41)) (Nat.le_refl _))
    go_wp2_with (at_builtin; refine wp_appI rfl (.tmp 122) (.tmp 124) rfl w.heap.size g1 c1 L1 (by simp [Act.eval]) X4.out ⟨W4.heap.size, 0, none⟩ 1 1 [(11, [], 0)] (by simp [Act.eval]) rfl (by simp) (new_cells W4 #[.int .i64 11, .string ⟨#[]⟩, .int .i64 0] _) (by simp only [List.length_cons, List.length_nil]; omega) (by have := O4.out.size; simp; omega) ?_)
    intro g2 c2 W5 hI hG
    have BG := Below.grown ((Below.refl w.heap.size W4).alloc O4.out.size (.cells #[.int .i64 11, .string ⟨#[]⟩, .int .i64 0] 41)) hG (by have := O4.out.size; simp; omega) (fun k e => by have := I4.out.lt; simp at e; omega)
    obtain ⟨L2, hL⟩ : ∃ L2, L2 = L1 ++ [(11, [], 0)] := ⟨_, rfl⟩
    rw [← hL] at hI
    have hn2 : L2.length = L1.length + 1 := by rw [hL, List.length_append]; rfl
    rw [← hn2]
    have T2 : Hid (∀ i ∈ L2, i.2.1.length ≤ 5000) := fun i hi => by
      rw [hL] at hi
      rcases List.mem_append.1 hi with hi | hi
      · exact T1.out i hi
      · rw [List.mem_singleton.1 hi]; exact Nat.zero_le _
    have I5 := hide hI
    have R5 := hide (R4.out.low BG hRb)
    have O5 := hide (O4.out.then BG)
    obtain ⟨q5, hq5⟩ : ∃ q5, q5 = q4 := ⟨_, rfl⟩
    rw [← hq5] at R5
    have hp2 : 0 < L2.length := by omega
    have lb2 : L2.length ≤ nb + 1 := by omega
    have le2 : L1.length < L2.length := by omega
    clear hI hG BG hL hn2
    go_wp2_with fail
    refine (IH R q5 (at_ + (L2.length : Int)) W5 R5.out (by omega) (by omega) (by omega)).mono ?_
    rintro e W6 ⟨M, gM, cM, rfl, hM, hMne, hMn, hMt, q6, hq6, hR, hO⟩
    have I6 := hide (I5.out.only hO hRb)
    have J6 := hide hM
    have R6 := hide hR
    have O6 := hide (O5.out.trans hO)
    have HMT := hide hMt
    have HMN := hide hMne
    clear hO hR hM hMt hMne
    go_wp2_with (at_builtin; refine wp_appI rfl (.tmp 126) (.tmp 134) rfl w.heap.size g2 c2 L2 (by simp [Act.eval]) I6.out ⟨gM, 0, none⟩ M.length cM M (by simp [Act.eval]) rfl HMN.out J6.out.news (by first | omega | (simp only [List.length_nil]; omega)) O6.out.size ?_)
    intro g3 c3 W7 hI hG
    have BG := Below.grown (Below.refl w.heap.size W6) hG O6.out.size (fun k e => by have := I6.out.lt; simp at e; omega)
    obtain ⟨L3, hL⟩ : ∃ L3, L3 = L2 ++ M := ⟨_, rfl⟩
    rw [← hL] at hI
    have hn3 : L3.length = L2.length + M.length := by rw [hL, List.length_append]
    rw [← hn3]
    have T3 : Hid (∀ i ∈ L3, i.2.1.length ≤ 5000) := fun i hi => by
      rw [hL] at hi
      rcases List.mem_append.1 hi with hi | hi
      · exact T2.out i hi
      · exact HMT.out i hi
    have hp3 : 0 < L3.length := by have := List.length_pos_iff.2 HMN.out; omega
    have I7 := hide hI
    have R7 := hide (R6.out.low BG hRb)
    have O7 := hide (O6.out.then BG)
    obtain ⟨q7, hq7⟩ : ∃ q7, q7 = q6 := ⟨_, rfl⟩
    rw [← hq7] at R7
    have lb3 : L3.length ≤ 2 * nb + 1 := by omega
    have le3 : L2.length ≤ L3.length := by omega
    clear hI hG BG hL hn3 HMT HMN J6
    go_wp2_with fail
    refine (l1OpN_any 10 0 _).mono ?_
    rintro e W8 ⟨rfl, hB⟩
    obtain ⟨q8, hq8⟩ : ∃ q8, q8 = q7 := ⟨_, rfl⟩
    rw [← hq8] at R7
    have I8 := hide (I7.out.below hB (Nat.le_refl _))
    have R8 := hide (R7.out.below hB (Nat.le_refl _))
    have O8 := hide (O7.out.trans (Only.of_below hB))
    clear hB
    have X8 := hide (I8.out.below ((Below.refl W8.heap.size W8).alloc (Nat.le_refl _) (.cells #[.int .i64 10, .string ⟨#[]⟩, .int .i64 0] 41)) (Nat.le_refl _))
    go_wp2_with (at_builtin; refine wp_appI rfl (.tmp 138) (.tmp 140) rfl w.heap.size g3 c3 L3 (by simp [Act.eval]) X8.out ⟨W8.heap.size, 0, none⟩ 1 1 [(10, [], 0)] (by simp [Act.eval]) rfl (by simp) (new_cells W8 #[.int .i64 10, .string ⟨#[]⟩, .int .i64 0] _) (by simp only [List.length_cons, List.length_nil]; omega) (by have := O8.out.size; simp; omega) ?_)
    intro g4 c4 W9 hI hG
    have BG := Below.grown ((Below.refl w.heap.size W8).alloc O8.out.size (.cells #[.int .i64 10, .string ⟨#[]⟩, .int .i64 0] 41)) hG (by have := O8.out.size; simp; omega) (fun k e => by have := I8.out.lt; simp at e; omega)
    obtain ⟨L4, hL⟩ : ∃ L4, L4 = L3 ++ [(10, [], 0)] := ⟨_, rfl⟩
    rw [← hL] at hI
    have hn4 : L4.length = L3.length + 1 := by rw [hL, List.length_append]; rfl
    rw [← hn4]
    have T4 : Hid (∀ i ∈ L4, i.2.1.length ≤ 5000) := fun i hi => by
      rw [hL] at hi
      rcases List.mem_append.1 hi with hi | hi
      · exact T3.out i hi
      · rw [List.mem_singleton.1 hi]; exact Nat.zero_le _
    have I9 := hide hI
    have R9 := hide (R8.out.low BG hRb)
    have O9 := hide (O8.out.then BG)
    obtain ⟨q9, hq9⟩ : ∃ q9, q9 = q8 := ⟨_, rfl⟩
    rw [← hq9] at R9
    have hp4 : 0 < L4.length := by omega
    have lb4 : L4.length ≤ 2 * nb + 2 := by omega
    have le4 : L3.length < L4.length := by omega
    clear hI hG BG hL hn4
    obtain ⟨⟨n0, cn⟩, fz⟩ := I9.out.cellN (i := L1.length) (by omega)
    have il : (L1.length : Int) < (L4.length : Int) := by omega
    have gl := I9.out.lt.2
    go_wp2_with fail
    refine (l1Small_any _ _).mono ?_
    rintro e Wx ⟨rfl, hw⟩
    rw [hw]
    clear hw
    generalize (if 200 < at_ + (L4.length : Int) then 200 else at_ + (L4.length : Int)) = sv
    obtain ⟨L5, hlk, htk, hI⟩ := I9.out.setN (i := L1.length) (by omega) sv
    have BG := (Below.refl w.heap.size W9).setCell (p := ⟨g4, L1.length * 3 + 2, none⟩) I9.out.lt.1 (.int .i64 sv)
    go_upto_region 33 with fail
    have T5 := hide (htk T4.out)
    have I10 := hide hI
    have R10 := hide (R9.out.low BG hRb)
    have O10 := hide (O9.out.then BG)
    obtain ⟨q10, hq10⟩ : ∃ q10, q10 = q9 := ⟨_, rfl⟩
    rw [← hq10] at R10
    have hp5 : 0 < L5.length := by omega
    have lb5 : L5.length ≤ 2 * nb + 2 := by omega
    have le5 : L4.length ≤ L5.length := by omega
    obtain ⟨g5, hg5⟩ : ∃ g5, g5 = g4 := ⟨_, rfl⟩
    obtain ⟨c5, hc5⟩ : ∃ c5, c5 = c4 := ⟨_, rfl⟩
    generalize W9.setCell ⟨g4, L1.length * 3 + 2, none⟩ (.int .i64 sv) = W10 at I10 R10 O10 ⊢
    rw [← hlk, ← hg5, ← hc5]
    rw [← hg5, ← hc5] at I10
    clear hlk htk hI BG cn fz gl hg5 hc5 il
    go_wp2_with fail
    refine (IH R q10 (at_ + (L5.length : Int)) W10 R10.out (by omega) (by omega) (by omega)).mono ?_
    rintro e W11 ⟨M, gM, cM, rfl, hM, hMne, hMn, hMt, q11, hq11, hR, hO⟩
    have I11 := hide (I10.out.only hO hRb)
    have J11 := hide hM
    have R11 := hide hR
    have O11 := hide (O10.out.trans hO)
    have HMT := hide hMt
    have HMN := hide hMne
    clear hO hR hM hMt hMne
    go_wp2_with (at_builtin; refine wp_appI rfl (.tmp 151) (.tmp 159) rfl w.heap.size g5 c5 L5 (by simp [Act.eval]) I11.out ⟨gM, 0, none⟩ M.length cM M (by simp [Act.eval]) rfl HMN.out J11.out.news (by first | omega | (simp only [List.length_nil]; omega)) O11.out.size ?_)
    intro g6 c6 W12 hI hG
    have BG := Below.grown (Below.refl w.heap.size W11) hG O11.out.size (fun k e => by have := I11.out.lt; simp at e; omega)
    obtain ⟨L6, hL⟩ : ∃ L6, L6 = L5 ++ M := ⟨_, rfl⟩
    rw [← hL] at hI
    have hn6 : L6.length = L5.length + M.length := by rw [hL, List.length_append]
    rw [← hn6]
    have T6 : Hid (∀ i ∈ L6, i.2.1.length ≤ 5000) := fun i hi => by
      rw [hL] at hi
      rcases List.mem_append.1 hi with hi | hi
      · exact T5.out i hi
      · exact HMT.out i hi
    have hp6 : 0 < L6.length := by have := List.length_pos_iff.2 HMN.out; omega
    have I12 := hide hI
    have R12 := hide (R11.out.low BG hRb)
    have O12 := hide (O11.out.then BG)
    obtain ⟨q12, hq12⟩ : ∃ q12, q12 = q11 := ⟨_, rfl⟩
    rw [← hq12] at R12
    have lb6 : L6.length ≤ 3 * nb + 2 := by omega
    have le6 : L5.length ≤ L6.length := by omega
    clear hI hG BG hL hn6 HMT HMN J11
    obtain ⟨⟨n0, cn⟩, fz⟩ := I12.out.cellN (i := L3.length) (by omega)
    have il : (L3.length : Int) < (L6.length : Int) := by omega
    have gl := I12.out.lt.2
    go_wp2_with fail
    refine (l1Small_any _ _).mono ?_
    rintro e Wx ⟨rfl, hw⟩
    rw [hw]
    clear hw
    generalize (if 200 < at_ + (L6.length : Int) then 200 else at_ + (L6.length : Int)) = sv
    obtain ⟨L7, hlk, htk, hI⟩ := I12.out.setN (i := L3.length) (by omega) sv
    have BG := (Below.refl w.heap.size W12).setCell (p := ⟨g6, L3.length * 3 + 2, none⟩) I12.out.lt.1 (.int .i64 sv)
    go_upto_region 35 with fail
    have T7 := hide (htk T6.out)
    have I13 := hide hI
    have R13 := hide (R12.out.low BG hRb)
    have O13 := hide (O12.out.then BG)
    obtain ⟨q13, hq13⟩ : ∃ q13, q13 = q12 := ⟨_, rfl⟩
    rw [← hq13] at R13
    have hp7 : 0 < L7.length := by omega
    have lb7 : L7.length ≤ 3 * nb + 2 := by omega
    have le7 : L6.length ≤ L7.length := by omega
    obtain ⟨g7, hg7⟩ : ∃ g7, g7 = g6 := ⟨_, rfl⟩
    obtain ⟨c7, hc7⟩ : ∃ c7, c7 = c6 := ⟨_, rfl⟩
    generalize W12.setCell ⟨g6, L3.length * 3 + 2, none⟩ (.int .i64 sv) = W13 at I13 R13 O13 ⊢
    rw [← hlk, ← hg7, ← hc7]
    rw [← hg7, ← hc7] at I13
    clear hlk htk hI BG cn fz gl hg7 hc7 il
    go_wp2
    go_ret
    exact ⟨L7, g7, c7, rfl, I13.out, List.length_pos_iff.1 hp7, by omega, T7.out, q13, by omega, R13.out, O13.out⟩
  · go_wp2_with fail
    refine (IH R q1 at_ W1 R1.out (by omega) (by omega) (by omega)).mono ?_
    rintro e W2 ⟨M, gM, cM, rfl, hM, hMne, hMn, hMt, q2, hq2, hR, hO⟩
    have I2 := hide (I1.out.only hO hRb)
    have J2 := hide hM
    have R2 := hide hR
    have O2 := hide (O1.out.trans hO)
    have HMT := hide hMt
    have HMN := hide hMne
    clear hO hR hM hMt hMne
    go_wp2_with (at_builtin; refine wp_appI rfl (.tmp 113) (.tmp 118) rfl w.heap.size w.heap.size 0 [] (by simp [Act.eval]) I2.out ⟨gM, 0, none⟩ M.length cM M (by simp [Act.eval]) rfl HMN.out J2.out.news (by first | omega | (simp only [List.length_nil]; omega)) O2.out.size ?_)
    intro g1 c1 W3 hI hG
    have BG := Below.grown (Below.refl w.heap.size W2) hG O2.out.size (fun k e => by have := I2.out.lt; simp at e; omega)
    obtain ⟨L1, hL⟩ : ∃ L1, L1 = M := ⟨_, rfl⟩
    rw [← hL] at hI ⊢
    have hn1 : L1.length = 0 + M.length := by rw [hL]; omega
    have T1 : Hid (∀ i ∈ L1, i.2.1.length ≤ 5000) := fun i hi => by
      rw [hL] at hi
      exact HMT.out i hi
    have hp1 : 0 < L1.length := by have := List.length_pos_iff.2 HMN.out; omega
    have I3 := hide hI
    have R3 := hide (R2.out.low BG hRb)
    have O3 := hide (O2.out.then BG)
    obtain ⟨q3, hq3⟩ : ∃ q3, q3 = q2 := ⟨_, rfl⟩
    rw [← hq3] at R3
    have lb1 : L1.length ≤ nb := by omega
    have le1 : 0 ≤ L1.length := by omega
    clear hI hG BG hL hn1 HMT HMN J2
    go_wp2_with fail
    refine (l1OpN_any 11 0 _).mono ?_
    rintro e W4 ⟨rfl, hB⟩
    obtain ⟨q4, hq4⟩ : ∃ q4, q4 = q3 := ⟨_, rfl⟩
    rw [← hq4] at R3
    have I4 := hide (I3.out.below hB (Nat.le_refl _))
    have R4 := hide (R3.out.below hB (Nat.le_refl _))
    have O4 := hide (O3.out.trans (Only.of_below hB))
    clear hB
    have X4 := hide (I4.out.below ((Below.refl W4.heap.size W4).alloc (Nat.le_refl _) (.cells #[.int .i64 11, .string ⟨#[]⟩, .int .i64 0] 41)) (Nat.le_refl _))
    go_wp2_with (at_builtin; refine wp_appI rfl (.tmp 122) (.tmp 124) rfl w.heap.size g1 c1 L1 (by simp [Act.eval]) X4.out ⟨W4.heap.size, 0, none⟩ 1 1 [(11, [], 0)] (by simp [Act.eval]) rfl (by simp) (new_cells W4 #[.int .i64 11, .string ⟨#[]⟩, .int .i64 0] _) (by simp only [List.length_cons, List.length_nil]; omega) (by have := O4.out.size; simp; omega) ?_)
    intro g2 c2 W5 hI hG
    have BG := Below.grown ((Below.refl w.heap.size W4).alloc O4.out.size (.cells #[.int .i64 11, .string ⟨#[]⟩, .int .i64 0] 41)) hG (by have := O4.out.size; simp; omega) (fun k e => by have := I4.out.lt; simp at e; omega)
    obtain ⟨L2, hL⟩ : ∃ L2, L2 = L1 ++ [(11, [], 0)] := ⟨_, rfl⟩
    rw [← hL] at hI
    have hn2 : L2.length = L1.length + 1 := by rw [hL, List.length_append]; rfl
    rw [← hn2]
    have T2 : Hid (∀ i ∈ L2, i.2.1.length ≤ 5000) := fun i hi => by
      rw [hL] at hi
      rcases List.mem_append.1 hi with hi | hi
      · exact T1.out i hi
      · rw [List.mem_singleton.1 hi]; exact Nat.zero_le _
    have I5 := hide hI
    have R5 := hide (R4.out.low BG hRb)
    have O5 := hide (O4.out.then BG)
    obtain ⟨q5, hq5⟩ : ∃ q5, q5 = q4 := ⟨_, rfl⟩
    rw [← hq5] at R5
    have hp2 : 0 < L2.length := by omega
    have lb2 : L2.length ≤ nb + 1 := by omega
    have le2 : L1.length < L2.length := by omega
    clear hI hG BG hL hn2
    go_wp2_with fail
    refine (IH R q5 (at_ + (L2.length : Int)) W5 R5.out (by omega) (by omega) (by omega)).mono ?_
    rintro e W6 ⟨M, gM, cM, rfl, hM, hMne, hMn, hMt, q6, hq6, hR, hO⟩
    have I6 := hide (I5.out.only hO hRb)
    have J6 := hide hM
    have R6 := hide hR
    have O6 := hide (O5.out.trans hO)
    have HMT := hide hMt
    have HMN := hide hMne
    clear hO hR hM hMt hMne
    go_wp2_with (at_builtin; refine wp_appI rfl (.tmp 126) (.tmp 134) rfl w.heap.size g2 c2 L2 (by simp [Act.eval]) I6.out ⟨gM, 0, none⟩ M.length cM M (by simp [Act.eval]) rfl HMN.out J6.out.news (by first | omega | (simp only [List.length_nil]; omega)) O6.out.size ?_)
    intro g3 c3 W7 hI hG
    have BG := Below.grown (Below.refl w.heap.size W6) hG O6.out.size (fun k e => by have := I6.out.lt; simp at e; omega)
    obtain ⟨L3, hL⟩ : ∃ L3, L3 = L2 ++ M := ⟨_, rfl⟩
    rw [← hL] at hI
    have hn3 : L3.length = L2.length + M.length := by rw [hL, List.length_append]
    rw [← hn3]
    have T3 : Hid (∀ i ∈ L3, i.2.1.length ≤ 5000) := fun i hi => by
      rw [hL] at hi
      rcases List.mem_append.1 hi with hi | hi
      · exact T2.out i hi
      · exact HMT.out i hi
    have hp3 : 0 < L3.length := by have := List.length_pos_iff.2 HMN.out; omega
    have I7 := hide hI
    have R7 := hide (R6.out.low BG hRb)
    have O7 := hide (O6.out.then BG)
    obtain ⟨q7, hq7⟩ : ∃ q7, q7 = q6 := ⟨_, rfl⟩
    rw [← hq7] at R7
    have lb3 : L3.length ≤ 2 * nb + 1 := by omega
    have le3 : L2.length ≤ L3.length := by omega
    clear hI hG BG hL hn3 HMT HMN J6
    go_wp2_with fail
    refine (l1OpN_any 10 0 _).mono ?_
    rintro e W8 ⟨rfl, hB⟩
    obtain ⟨q8, hq8⟩ : ∃ q8, q8 = q7 := ⟨_, rfl⟩
    rw [← hq8] at R7
    have I8 := hide (I7.out.below hB (Nat.le_refl _))
    have R8 := hide (R7.out.below hB (Nat.le_refl _))
    have O8 := hide (O7.out.trans (Only.of_below hB))
    clear hB
    have X8 := hide (I8.out.below ((Below.refl W8.heap.size W8).alloc (Nat.le_refl _) (.cells #[.int .i64 10, .string ⟨#[]⟩, .int .i64 0] 41)) (Nat.le_refl _))
    go_wp2_with (at_builtin; refine wp_appI rfl (.tmp 138) (.tmp 140) rfl w.heap.size g3 c3 L3 (by simp [Act.eval]) X8.out ⟨W8.heap.size, 0, none⟩ 1 1 [(10, [], 0)] (by simp [Act.eval]) rfl (by simp) (new_cells W8 #[.int .i64 10, .string ⟨#[]⟩, .int .i64 0] _) (by simp only [List.length_cons, List.length_nil]; omega) (by have := O8.out.size; simp; omega) ?_)
    intro g4 c4 W9 hI hG
    have BG := Below.grown ((Below.refl w.heap.size W8).alloc O8.out.size (.cells #[.int .i64 10, .string ⟨#[]⟩, .int .i64 0] 41)) hG (by have := O8.out.size; simp; omega) (fun k e => by have := I8.out.lt; simp at e; omega)
    obtain ⟨L4, hL⟩ : ∃ L4, L4 = L3 ++ [(10, [], 0)] := ⟨_, rfl⟩
    rw [← hL] at hI
    have hn4 : L4.length = L3.length + 1 := by rw [hL, List.length_append]; rfl
    rw [← hn4]
    have T4 : Hid (∀ i ∈ L4, i.2.1.length ≤ 5000) := fun i hi => by
      rw [hL] at hi
      rcases List.mem_append.1 hi with hi | hi
      · exact T3.out i hi
      · rw [List.mem_singleton.1 hi]; exact Nat.zero_le _
    have I9 := hide hI
    have R9 := hide (R8.out.low BG hRb)
    have O9 := hide (O8.out.then BG)
    obtain ⟨q9, hq9⟩ : ∃ q9, q9 = q8 := ⟨_, rfl⟩
    rw [← hq9] at R9
    have hp4 : 0 < L4.length := by omega
    have lb4 : L4.length ≤ 2 * nb + 2 := by omega
    have le4 : L3.length < L4.length := by omega
    clear hI hG BG hL hn4
    obtain ⟨⟨n0, cn⟩, fz⟩ := I9.out.cellN (i := L1.length) (by omega)
    have il : (L1.length : Int) < (L4.length : Int) := by omega
    have gl := I9.out.lt.2
    go_wp2_with fail
    refine (l1Small_any _ _).mono ?_
    rintro e Wx ⟨rfl, hw⟩
    rw [hw]
    clear hw
    generalize (if 200 < at_ + (L4.length : Int) then 200 else at_ + (L4.length : Int)) = sv
    obtain ⟨L5, hlk, htk, hI⟩ := I9.out.setN (i := L1.length) (by omega) sv
    have BG := (Below.refl w.heap.size W9).setCell (p := ⟨g4, L1.length * 3 + 2, none⟩) I9.out.lt.1 (.int .i64 sv)
    go_upto_region 33 with fail
    have T5 := hide (htk T4.out)
    have I10 := hide hI
    have R10 := hide (R9.out.low BG hRb)
    have O10 := hide (O9.out.then BG)
    obtain ⟨q10, hq10⟩ : ∃ q10, q10 = q9 := ⟨_, rfl⟩
    rw [← hq10] at R10
    have hp5 : 0 < L5.length := by omega
    have lb5 : L5.length ≤ 2 * nb + 2 := by omega
    have le5 : L4.length ≤ L5.length := by omega
    obtain ⟨g5, hg5⟩ : ∃ g5, g5 = g4 := ⟨_, rfl⟩
    obtain ⟨c5, hc5⟩ : ∃ c5, c5 = c4 := ⟨_, rfl⟩
    generalize W9.setCell ⟨g4, L1.length * 3 + 2, none⟩ (.int .i64 sv) = W10 at I10 R10 O10 ⊢
    rw [← hlk, ← hg5, ← hc5]
    rw [← hg5, ← hc5] at I10
    clear hlk htk hI BG cn fz gl hg5 hc5 il
    go_wp2_with fail
    refine (IH R q10 (at_ + (L5.length : Int)) W10 R10.out (by omega) (by omega) (by omega)).mono ?_
    rintro e W11 ⟨M, gM, cM, rfl, hM, hMne, hMn, hMt, q11, hq11, hR, hO⟩
    have I11 := hide (I10.out.only hO hRb)
    have J11 := hide hM
    have R11 := hide hR
    have O11 := hide (O10.out.trans hO)
    have HMT := hide hMt
    have HMN := hide hMne
    clear hO hR hM hMt hMne
    go_wp2_with (at_builtin; refine wp_appI rfl (.tmp 151) (.tmp 159) rfl w.heap.size g5 c5 L5 (by simp [Act.eval]) I11.out ⟨gM, 0, none⟩ M.length cM M (by simp [Act.eval]) rfl HMN.out J11.out.news (by first | omega | (simp only [List.length_nil]; omega)) O11.out.size ?_)
    intro g6 c6 W12 hI hG
    have BG := Below.grown (Below.refl w.heap.size W11) hG O11.out.size (fun k e => by have := I11.out.lt; simp at e; omega)
    obtain ⟨L6, hL⟩ : ∃ L6, L6 = L5 ++ M := ⟨_, rfl⟩
    rw [← hL] at hI
    have hn6 : L6.length = L5.length + M.length := by rw [hL, List.length_append]
    rw [← hn6]
    have T6 : Hid (∀ i ∈ L6, i.2.1.length ≤ 5000) := fun i hi => by
      rw [hL] at hi
      rcases List.mem_append.1 hi with hi | hi
      · exact T5.out i hi
      · exact HMT.out i hi
    have hp6 : 0 < L6.length := by have := List.length_pos_iff.2 HMN.out; omega
    have I12 := hide hI
    have R12 := hide (R11.out.low BG hRb)
    have O12 := hide (O11.out.then BG)
    obtain ⟨q12, hq12⟩ : ∃ q12, q12 = q11 := ⟨_, rfl⟩
    rw [← hq12] at R12
    have lb6 : L6.length ≤ 3 * nb + 2 := by omega
    have le6 : L5.length ≤ L6.length := by omega
    clear hI hG BG hL hn6 HMT HMN J11
    obtain ⟨⟨n0, cn⟩, fz⟩ := I12.out.cellN (i := L3.length) (by omega)
    have il : (L3.length : Int) < (L6.length : Int) := by omega
    have gl := I12.out.lt.2
    go_wp2_with fail
    refine (l1Small_any _ _).mono ?_
    rintro e Wx ⟨rfl, hw⟩
    rw [hw]
    clear hw
    generalize (if 200 < at_ + (L6.length : Int) then 200 else at_ + (L6.length : Int)) = sv
    obtain ⟨L7, hlk, htk, hI⟩ := I12.out.setN (i := L3.length) (by omega) sv
    have BG := (Below.refl w.heap.size W12).setCell (p := ⟨g6, L3.length * 3 + 2, none⟩) I12.out.lt.1 (.int .i64 sv)
    go_upto_region 35 with fail
    have T7 := hide (htk T6.out)
    have I13 := hide hI
    have R13 := hide (R12.out.low BG hRb)
    have O13 := hide (O12.out.then BG)
    obtain ⟨q13, hq13⟩ : ∃ q13, q13 = q12 := ⟨_, rfl⟩
    rw [← hq13] at R13
    have hp7 : 0 < L7.length := by omega
    have lb7 : L7.length ≤ 3 * nb + 2 := by omega
    have le7 : L6.length ≤ L7.length := by omega
    obtain ⟨g7, hg7⟩ : ∃ g7, g7 = g6 := ⟨_, rfl⟩
    obtain ⟨c7, hc7⟩ : ∃ c7, c7 = c6 := ⟨_, rfl⟩
    generalize W12.setCell ⟨g6, L3.length * 3 + 2, none⟩ (.int .i64 sv) = W13 at I13 R13 O13 ⊢
    rw [← hlk, ← hg7, ← hc7]
    rw [← hg7, ← hc7] at I13
    clear hlk htk hI BG cn fz gl hg7 hc7 il
    go_wp2
    go_ret
    exact ⟨L7, g7, c7, rfl, I13.out, List.length_pos_iff.1 hp7, by omega, T7.out, q13, by omega, R13.out, O13.out⟩
  · go_wp2_with fail
    refine (l1Text_any R _ _ R1.out (by omega)).mono ?_
    rintro e W2 ⟨t, rfl, ht, q2, hq2, hR, hO⟩
    have I2 := hide (I1.out.only hO hRb)
    have R2 := hide hR
    have O2 := hide (O1.out.trans hO)
    clear hO hR
    go_wp2_with fail
    refine (l1Lit_any t _).mono ?_
    rintro e W3 ⟨rfl, hB⟩
    obtain ⟨q3, hq3⟩ : ∃ q3, q3 = q2 := ⟨_, rfl⟩
    rw [← hq3] at R2
    have I3 := hide (I2.out.below hB (Nat.le_refl _))
    have R3 := hide (R2.out.below hB (Nat.le_refl _))
    have O3 := hide (O2.out.trans (Only.of_below hB))
    clear hB
    go_wp2_with fail
    refine (l1Op_any 7 _).mono ?_
    rintro e W4 ⟨rfl, hB⟩
    obtain ⟨q4, hq4⟩ : ∃ q4, q4 = q3 := ⟨_, rfl⟩
    rw [← hq4] at R3
    have I4 := hide (I3.out.below hB (Nat.le_refl _))
    have R4 := hide (R3.out.below hB (Nat.le_refl _))
    have O4 := hide (O3.out.trans (Only.of_below hB))
    clear hB
    go_wp2_with fail
    refine (l1Op_any 8 _).mono ?_
    rintro e W5 ⟨rfl, hB⟩
    obtain ⟨q5, hq5⟩ : ∃ q5, q5 = q4 := ⟨_, rfl⟩
    rw [← hq5] at R4
    have I5 := hide (I4.out.below hB (Nat.le_refl _))
    have R5 := hide (R4.out.below hB (Nat.le_refl _))
    have O5 := hide (O4.out.trans (Only.of_below hB))
    clear hB
    go_wp2_with fail
    refine (l1Op_any 9 _).mono ?_
    rintro e W6 ⟨rfl, hB⟩
    obtain ⟨q6, hq6⟩ : ∃ q6, q6 = q5 := ⟨_, rfl⟩
    rw [← hq6] at R5
    have I6 := hide (I5.out.below hB (Nat.le_refl _))
    have R6 := hide (R5.out.below hB (Nat.le_refl _))
    have O6 := hide (O5.out.trans (Only.of_below hB))
    clear hB
    have X6 := hide (I6.out.below ((Below.refl W6.heap.size W6).alloc (Nat.le_refl _) (.cells #[.int .i64 1, .string t, .int .i64 0, .int .i64 7, .string ⟨#[]⟩, .int .i64 0, .int .i64 8, .string ⟨#[]⟩, .int .i64 0, .int .i64 9, .string ⟨#[]⟩, .int .i64 0] 41)) (Nat.le_refl _))
    go_wp2_with (at_builtin; refine wp_appI rfl (.tmp 171) (.tmp 178) rfl w.heap.size w.heap.size 0 [] (by simp [Act.eval]) X6.out ⟨W6.heap.size, 0, none⟩ 4 4 [(1, t.data.toList, 0), (7, [], 0), (8, [], 0), (9, [], 0)] (by simp [Act.eval]) rfl (by simp) (new_cells W6 #[.int .i64 1, .string t, .int .i64 0, .int .i64 7, .string ⟨#[]⟩, .int .i64 0, .int .i64 8, .string ⟨#[]⟩, .int .i64 0, .int .i64 9, .string ⟨#[]⟩, .int .i64 0] _) (by simp only [List.length_cons, List.length_nil]; omega) (by have := O6.out.size; simp; omega) ?_)
    intro g9 c9 w9 hI hG
    have BG := Below.grown ((Below.refl w.heap.size W6).alloc O6.out.size (.cells #[.int .i64 1, .string t, .int .i64 0, .int .i64 7, .string ⟨#[]⟩, .int .i64 0, .int .i64 8, .string ⟨#[]⟩, .int .i64 0, .int .i64 9, .string ⟨#[]⟩, .int .i64 0] 41)) hG (by have := O6.out.size; simp; omega) (fun k e => by have := I6.out.lt; simp at e; omega)
    have I9 := hide hI
    have R9 := hide (R6.out.low BG hRb)
    have O9 := hide (O6.out.then BG)
    clear hI hG BG
    go_wp2
    go_ret
    refine ⟨_, g9, c9, rfl, I9.out, by simp, by simp only [List.length_cons, List.length_nil]; omega, ?_, q6, by omega, R9.out, O9.out⟩
    intro i hi
    simp only [List.mem_cons, List.not_mem_nil, or_false] at hi
    rcases hi with rfl | rfl | rfl | rfl
    · show t.data.toList.length ≤ 5000; rw [Array.length_toList]; show t.size ≤ 5000; omega
    · exact Nat.zero_le _
    · exact Nat.zero_le _
    · exact Nat.zero_le _

end Go.Proofs.YtpefignfaooonaaGreatDoor.Vp
