/-
  FnProgram: l1DrawProgram. Written by tools/fpprog.py.
-/
import Derived.Test.YtpefignfaooonaaGreatDoorZFpWords
namespace Go.Proofs.YtpefignfaooonaaGreatDoor.Vp
open Go.RowKit

set_option maxRecDepth 100000 in
set_option maxHeartbeats 8000000 in
theorem l1DrawProgram_any (R p : Nat) (w : World) (hR : Rd w R p) (hp : p ≤ 20000) :
    Calls Tryz.prog 24 #[.pointer (some ⟨R, 0, none⟩)] w fun e w' => DP w R (p + 600) 1 140 e w' := by
  have C0 := hide (ST.new hR)
  clear hR
  go_enter Tryz.func24, Tryz.ntmps24
  go_wp2_with fail
  generalize w.alloc (.cells #[.slice none 0 0] 24) = W0 at C0 ⊢
  refine (pick_any R _ 2 _ C0.out.rd (by omega) (by omega) (by omega)).mono ?_
  rintro e W1 ⟨d, rfl, d0, d1, hR, hO⟩
  have C1 := hide (C0.out.only hO hR)
  clear hO hR C0
  go_wp2_with fail
  refine (l1Value_any R _ d (by omega) _ C1.out.rd (by omega)).mono ?_
  rintro e W2 ⟨L0, g0, c0, rfl, hI, hne, hn, hT, q2, hq2, hR, hO⟩
  have C2 : Hid (SC w R w.heap.size W2 q2 g0 c0 L0 134) := SC.di C1.out hI hn hT hO hR
  clear hO hR hI hT hne C1
  go_wp2_with fail
  refine (pick_any R _ 24 _ C2.out.st.rd (by omega) (by omega) (by omega)).mono ?_
  rintro e W3 ⟨z, rfl, z0, z1, hR, hO⟩
  obtain ⟨q3, hq3⟩ : ∃ q3, q3 = q2 + 1 := ⟨_, rfl⟩
  rw [← hq3] at hR
  have C3 := hide (C2.out.only hO hR)
  clear hO hR C2
  rcases (show z = 0 ∨ z = 1 ∨ z = 2 ∨ z = 3 ∨ z = 4 ∨ z = 5 ∨ z = 6 ∨ z = 7 ∨ 8 ≤ z by omega) with rfl | rfl | rfl | rfl | rfl | rfl | rfl | rfl | h8
  · go_wp2_with fail
    refine (l1Op_any 14 _).mono ?_
    rintro e W4 ⟨rfl, hB⟩
    obtain ⟨q4, hq4⟩ : ∃ q4, q4 = q3 := ⟨_, rfl⟩
    have C4 := hide (C3.out.below hB)
    rw [← hq4] at C4
    clear hB
    have X4 := hide (C4.out.below ((Below.refl W4.heap.size W4).alloc (Nat.le_refl _) (.cells #[.int .i64 14, .string ⟨#[]⟩, .int .i64 0] 41)))
    have ln4 := C4.out.len
    go_wp2_with (at_builtin; refine wp_appI rfl (.tmp 14) (.tmp 16) rfl (w.heap.size + 1) g0 c0 L0 (by simp [Act.eval]) X4.out.ir ⟨W4.heap.size, 0, none⟩ 1 1 [(14, [], 0)] (by simp [Act.eval]) rfl (by simp) (new_cells W4 #[.int .i64 14, .string ⟨#[]⟩, .int .i64 0] _) (by simp only [List.length_cons, List.length_nil]; omega) (by have := C4.out.st.lt; simp; omega) ?_)
    intro g1 c1 W5 hI hG
    obtain ⟨q5, hq5⟩ : ∃ q5, q5 = q4 := ⟨_, rfl⟩
    have C5 := hide (C4.out.app (n' := 135) _ hI hG (by show 134 + 1 ≤ 135; omega) (fun i hi => by rw [List.mem_singleton.1 hi]; exact Nat.zero_le _))
    rw [← hq5] at C5
    clear hI hG X4 ln4
    obtain ⟨L1, hL⟩ : ∃ L1, L1 = L0 ++ [(14, [], 0)] := ⟨_, rfl⟩
    rw [← hL] at C5
    have hn1 : L1.length = L0.length + 1 := by rw [hL, List.length_append]; rfl
    rw [← hn1]
    clear hL hn1
    go_wp2_with fail
    refine (l1Op_any 15 _).mono ?_
    rintro e W6 ⟨rfl, hB⟩
    obtain ⟨q6, hq6⟩ : ∃ q6, q6 = q5 := ⟨_, rfl⟩
    have C6 := hide (C5.out.below hB)
    rw [← hq6] at C6
    clear hB
    have X6 := hide (C6.out.below ((Below.refl W6.heap.size W6).alloc (Nat.le_refl _) (.cells #[.int .i64 15, .string ⟨#[]⟩, .int .i64 0] 41)))
    have ln6 := C6.out.len
    go_wp2_with (at_builtin; refine wp_appI rfl (.tmp 33) (.tmp 35) rfl (w.heap.size + 1) g1 c1 L1 (by simp [Act.eval]) X6.out.ir ⟨W6.heap.size, 0, none⟩ 1 1 [(15, [], 0)] (by simp [Act.eval]) rfl (by simp) (new_cells W6 #[.int .i64 15, .string ⟨#[]⟩, .int .i64 0] _) (by simp only [List.length_cons, List.length_nil]; omega) (by have := C6.out.st.lt; simp; omega) ?_)
    intro g2 c2 W7 hI hG
    obtain ⟨q7, hq7⟩ : ∃ q7, q7 = q6 := ⟨_, rfl⟩
    have C7 := hide (C6.out.app (n' := 136) _ hI hG (by show 135 + 1 ≤ 136; omega) (fun i hi => by rw [List.mem_singleton.1 hi]; exact Nat.zero_le _))
    rw [← hq7] at C7
    clear hI hG X6 ln6
    obtain ⟨L2, hL⟩ : ∃ L2, L2 = L1 ++ [(15, [], 0)] := ⟨_, rfl⟩
    rw [← hL] at C7
    have hn2 : L2.length = L1.length + 1 := by rw [hL, List.length_append]; rfl
    rw [← hn2]
    clear hL hn2
    have ln := C7.out.len
    have ge := C7.out.ir.lt
    go_wp2_with fail
    refine (specValid_row g2 0 L2.length c2 (fI L2) _ (by omega) ge.2 (fun i hi => C7.out.ir.at i (by omega)) (fun i hi => fI_size C7.out.2.2.2 i (by omega))).mono ?_
    rintro e Wv ⟨rfl, hB⟩
    have CV := hide (C7.out.below hB)
    clear hB
    cases hv : valid (fI L2) L2.length with
    | true =>
      have vp := (valid_parts hv).2.1
      clear hv
      have pb := CV.out.st.2.2.1
      have zl := pb.lt
      have d0 := pb.c0
      have d1 := pb.fz 0
      have fin := hide (CV.out.fin (.slice (some ⟨g2, 0, none⟩) L2.length c2))
      clear pb
      go_wp2
      obtain ⟨f1, f2, f3, f4, f5, f6⟩ := fin.out
      try simp only [Exit.inBlock, Exit.then]
      refine bodyPost_ret (res_prog1 rfl _ _ w.heap.size _ rfl f1) rfl ?_
      exact ⟨L2, g2, c2, rfl, f2, by omega, by omega, f4, q7, by omega, f5, f6⟩
    | false =>
      clear hv
      go_wp2_with fail
      refine (l1Lit_any ⟨#[120]⟩ _).mono ?_
      rintro e Wa ⟨rfl, hB⟩
      have CA := hide (CV.out.st.below hB)
      clear hB
      go_wp2_with fail
      refine (l1Op_any 15 _).mono ?_
      rintro e Wb ⟨rfl, hB⟩
      have CB := hide (CA.out.below hB)
      clear hB CA
      have CC := hide (SC.lit CB.out [(1, [120], 0), (15, [], 0)] #[.int .i64 1, .string ⟨#[120]⟩, .int .i64 0, .int .i64 15, .string ⟨#[]⟩, .int .i64 0] rfl 2 rfl (by omega) (by decide))
      have pb := CC.out.st.2.2.1
      have zl := pb.lt
      have d0 := pb.c0
      have d1 := pb.fz 0
      have fin := hide (CC.out.fin (.slice (some ⟨Wb.heap.size, 0, none⟩) 2 2))
      clear pb
      go_wp2
      obtain ⟨f1, f2, f3, f4, f5, f6⟩ := fin.out
      try simp only [Exit.inBlock, Exit.then]
      refine bodyPost_ret (res_prog1 rfl _ _ w.heap.size _ rfl f1) rfl ?_
      exact ⟨[(1, [120], 0), (15, [], 0)], Wb.heap.size, 2, rfl, f2, by simp, by simp, f4, q7, by omega, f5, f6⟩
  · go_wp2_with fail
    refine (l1OpN_any 10 0 _).mono ?_
    rintro e W4 ⟨rfl, hB⟩
    obtain ⟨q4, hq4⟩ : ∃ q4, q4 = q3 := ⟨_, rfl⟩
    have C4 := hide (C3.out.below hB)
    rw [← hq4] at C4
    clear hB
    have X4 := hide (C4.out.below ((Below.refl W4.heap.size W4).alloc (Nat.le_refl _) (.cells #[.int .i64 10, .string ⟨#[]⟩, .int .i64 0] 41)))
    have ln4 := C4.out.len
    go_wp2_with (at_builtin; refine wp_appI rfl (.tmp 20) (.tmp 22) rfl (w.heap.size + 1) g0 c0 L0 (by simp [Act.eval]) X4.out.ir ⟨W4.heap.size, 0, none⟩ 1 1 [(10, [], 0)] (by simp [Act.eval]) rfl (by simp) (new_cells W4 #[.int .i64 10, .string ⟨#[]⟩, .int .i64 0] _) (by simp only [List.length_cons, List.length_nil]; omega) (by have := C4.out.st.lt; simp; omega) ?_)
    intro g1 c1 W5 hI hG
    obtain ⟨q5, hq5⟩ : ∃ q5, q5 = q4 := ⟨_, rfl⟩
    have C5 := hide (C4.out.app (n' := 135) _ hI hG (by show 134 + 1 ≤ 135; omega) (fun i hi => by rw [List.mem_singleton.1 hi]; exact Nat.zero_le _))
    rw [← hq5] at C5
    clear hI hG X4 ln4
    obtain ⟨L1, hL⟩ : ∃ L1, L1 = L0 ++ [(10, [], 0)] := ⟨_, rfl⟩
    rw [← hL] at C5
    have hn1 : L1.length = L0.length + 1 := by rw [hL, List.length_append]; rfl
    rw [← hn1]
    clear hL hn1
    go_wp2_with fail
    refine (l1Op_any 15 _).mono ?_
    rintro e W6 ⟨rfl, hB⟩
    obtain ⟨q6, hq6⟩ : ∃ q6, q6 = q5 := ⟨_, rfl⟩
    have C6 := hide (C5.out.below hB)
    rw [← hq6] at C6
    clear hB
    have X6 := hide (C6.out.below ((Below.refl W6.heap.size W6).alloc (Nat.le_refl _) (.cells #[.int .i64 15, .string ⟨#[]⟩, .int .i64 0] 41)))
    have ln6 := C6.out.len
    go_wp2_with (at_builtin; refine wp_appI rfl (.tmp 33) (.tmp 35) rfl (w.heap.size + 1) g1 c1 L1 (by simp [Act.eval]) X6.out.ir ⟨W6.heap.size, 0, none⟩ 1 1 [(15, [], 0)] (by simp [Act.eval]) rfl (by simp) (new_cells W6 #[.int .i64 15, .string ⟨#[]⟩, .int .i64 0] _) (by simp only [List.length_cons, List.length_nil]; omega) (by have := C6.out.st.lt; simp; omega) ?_)
    intro g2 c2 W7 hI hG
    obtain ⟨q7, hq7⟩ : ∃ q7, q7 = q6 := ⟨_, rfl⟩
    have C7 := hide (C6.out.app (n' := 136) _ hI hG (by show 135 + 1 ≤ 136; omega) (fun i hi => by rw [List.mem_singleton.1 hi]; exact Nat.zero_le _))
    rw [← hq7] at C7
    clear hI hG X6 ln6
    obtain ⟨L2, hL⟩ : ∃ L2, L2 = L1 ++ [(15, [], 0)] := ⟨_, rfl⟩
    rw [← hL] at C7
    have hn2 : L2.length = L1.length + 1 := by rw [hL, List.length_append]; rfl
    rw [← hn2]
    clear hL hn2
    have ln := C7.out.len
    have ge := C7.out.ir.lt
    go_wp2_with fail
    refine (specValid_row g2 0 L2.length c2 (fI L2) _ (by omega) ge.2 (fun i hi => C7.out.ir.at i (by omega)) (fun i hi => fI_size C7.out.2.2.2 i (by omega))).mono ?_
    rintro e Wv ⟨rfl, hB⟩
    have CV := hide (C7.out.below hB)
    clear hB
    cases hv : valid (fI L2) L2.length with
    | true =>
      have vp := (valid_parts hv).2.1
      clear hv
      have pb := CV.out.st.2.2.1
      have zl := pb.lt
      have d0 := pb.c0
      have d1 := pb.fz 0
      have fin := hide (CV.out.fin (.slice (some ⟨g2, 0, none⟩) L2.length c2))
      clear pb
      go_wp2
      obtain ⟨f1, f2, f3, f4, f5, f6⟩ := fin.out
      try simp only [Exit.inBlock, Exit.then]
      refine bodyPost_ret (res_prog1 rfl _ _ w.heap.size _ rfl f1) rfl ?_
      exact ⟨L2, g2, c2, rfl, f2, by omega, by omega, f4, q7, by omega, f5, f6⟩
    | false =>
      clear hv
      go_wp2_with fail
      refine (l1Lit_any ⟨#[120]⟩ _).mono ?_
      rintro e Wa ⟨rfl, hB⟩
      have CA := hide (CV.out.st.below hB)
      clear hB
      go_wp2_with fail
      refine (l1Op_any 15 _).mono ?_
      rintro e Wb ⟨rfl, hB⟩
      have CB := hide (CA.out.below hB)
      clear hB CA
      have CC := hide (SC.lit CB.out [(1, [120], 0), (15, [], 0)] #[.int .i64 1, .string ⟨#[120]⟩, .int .i64 0, .int .i64 15, .string ⟨#[]⟩, .int .i64 0] rfl 2 rfl (by omega) (by decide))
      have pb := CC.out.st.2.2.1
      have zl := pb.lt
      have d0 := pb.c0
      have d1 := pb.fz 0
      have fin := hide (CC.out.fin (.slice (some ⟨Wb.heap.size, 0, none⟩) 2 2))
      clear pb
      go_wp2
      obtain ⟨f1, f2, f3, f4, f5, f6⟩ := fin.out
      try simp only [Exit.inBlock, Exit.then]
      refine bodyPost_ret (res_prog1 rfl _ _ w.heap.size _ rfl f1) rfl ?_
      exact ⟨[(1, [120], 0), (15, [], 0)], Wb.heap.size, 2, rfl, f2, by simp, by simp, f4, q7, by omega, f5, f6⟩
  · go_wp2_with fail
    refine (pick_any R _ 15 _ C3.out.st.rd (by omega) (by omega) (by omega)).mono ?_
    rintro e W4 ⟨y, rfl, y0, y1, hR, hO⟩
    obtain ⟨q4, hq4⟩ : ∃ q4, q4 = q3 + 1 := ⟨_, rfl⟩
    rw [← hq4] at hR
    have C4 := hide (C3.out.only hO hR)
    clear hO hR
    go_wp2_with fail
    refine (l1Op_any (1 + y) _).mono ?_
    rintro e W5 ⟨rfl, hB⟩
    obtain ⟨q5, hq5⟩ : ∃ q5, q5 = q4 := ⟨_, rfl⟩
    have C5 := hide (C4.out.below hB)
    rw [← hq5] at C5
    clear hB
    have X5 := hide (C5.out.below ((Below.refl W5.heap.size W5).alloc (Nat.le_refl _) (.cells #[.int .i64 (1 + y), .string ⟨#[]⟩, .int .i64 0] 41)))
    have ln5 := C5.out.len
    go_wp2_with (at_builtin; refine wp_appI rfl (.tmp 26) (.tmp 31) rfl (w.heap.size + 1) g0 c0 L0 (by simp [Act.eval]) X5.out.ir ⟨W5.heap.size, 0, none⟩ 1 1 [((1 + y), [], 0)] (by simp [Act.eval]) rfl (by simp) (new_cells W5 #[.int .i64 (1 + y), .string ⟨#[]⟩, .int .i64 0] _) (by simp only [List.length_cons, List.length_nil]; omega) (by have := C5.out.st.lt; simp; omega) ?_)
    intro g1 c1 W6 hI hG
    obtain ⟨q6, hq6⟩ : ∃ q6, q6 = q5 := ⟨_, rfl⟩
    have C6 := hide (C5.out.app (n' := 135) _ hI hG (by show 134 + 1 ≤ 135; omega) (fun i hi => by rw [List.mem_singleton.1 hi]; exact Nat.zero_le _))
    rw [← hq6] at C6
    clear hI hG X5 ln5
    obtain ⟨L1, hL⟩ : ∃ L1, L1 = L0 ++ [((1 + y), [], 0)] := ⟨_, rfl⟩
    rw [← hL] at C6
    have hn1 : L1.length = L0.length + 1 := by rw [hL, List.length_append]; rfl
    rw [← hn1]
    clear hL hn1
    go_wp2_with fail
    refine (l1Op_any 15 _).mono ?_
    rintro e W7 ⟨rfl, hB⟩
    obtain ⟨q7, hq7⟩ : ∃ q7, q7 = q6 := ⟨_, rfl⟩
    have C7 := hide (C6.out.below hB)
    rw [← hq7] at C7
    clear hB
    have X7 := hide (C7.out.below ((Below.refl W7.heap.size W7).alloc (Nat.le_refl _) (.cells #[.int .i64 15, .string ⟨#[]⟩, .int .i64 0] 41)))
    have ln7 := C7.out.len
    go_wp2_with (at_builtin; refine wp_appI rfl (.tmp 33) (.tmp 35) rfl (w.heap.size + 1) g1 c1 L1 (by simp [Act.eval]) X7.out.ir ⟨W7.heap.size, 0, none⟩ 1 1 [(15, [], 0)] (by simp [Act.eval]) rfl (by simp) (new_cells W7 #[.int .i64 15, .string ⟨#[]⟩, .int .i64 0] _) (by simp only [List.length_cons, List.length_nil]; omega) (by have := C7.out.st.lt; simp; omega) ?_)
    intro g2 c2 W8 hI hG
    obtain ⟨q8, hq8⟩ : ∃ q8, q8 = q7 := ⟨_, rfl⟩
    have C8 := hide (C7.out.app (n' := 136) _ hI hG (by show 135 + 1 ≤ 136; omega) (fun i hi => by rw [List.mem_singleton.1 hi]; exact Nat.zero_le _))
    rw [← hq8] at C8
    clear hI hG X7 ln7
    obtain ⟨L2, hL⟩ : ∃ L2, L2 = L1 ++ [(15, [], 0)] := ⟨_, rfl⟩
    rw [← hL] at C8
    have hn2 : L2.length = L1.length + 1 := by rw [hL, List.length_append]; rfl
    rw [← hn2]
    clear hL hn2
    have ln := C8.out.len
    have ge := C8.out.ir.lt
    go_wp2_with fail
    refine (specValid_row g2 0 L2.length c2 (fI L2) _ (by omega) ge.2 (fun i hi => C8.out.ir.at i (by omega)) (fun i hi => fI_size C8.out.2.2.2 i (by omega))).mono ?_
    rintro e Wv ⟨rfl, hB⟩
    have CV := hide (C8.out.below hB)
    clear hB
    cases hv : valid (fI L2) L2.length with
    | true =>
      have vp := (valid_parts hv).2.1
      clear hv
      have pb := CV.out.st.2.2.1
      have zl := pb.lt
      have d0 := pb.c0
      have d1 := pb.fz 0
      have fin := hide (CV.out.fin (.slice (some ⟨g2, 0, none⟩) L2.length c2))
      clear pb
      go_wp2
      obtain ⟨f1, f2, f3, f4, f5, f6⟩ := fin.out
      try simp only [Exit.inBlock, Exit.then]
      refine bodyPost_ret (res_prog1 rfl _ _ w.heap.size _ rfl f1) rfl ?_
      exact ⟨L2, g2, c2, rfl, f2, by omega, by omega, f4, q8, by omega, f5, f6⟩
    | false =>
      clear hv
      go_wp2_with fail
      refine (l1Lit_any ⟨#[120]⟩ _).mono ?_
      rintro e Wa ⟨rfl, hB⟩
      have CA := hide (CV.out.st.below hB)
      clear hB
      go_wp2_with fail
      refine (l1Op_any 15 _).mono ?_
      rintro e Wb ⟨rfl, hB⟩
      have CB := hide (CA.out.below hB)
      clear hB CA
      have CC := hide (SC.lit CB.out [(1, [120], 0), (15, [], 0)] #[.int .i64 1, .string ⟨#[120]⟩, .int .i64 0, .int .i64 15, .string ⟨#[]⟩, .int .i64 0] rfl 2 rfl (by omega) (by decide))
      have pb := CC.out.st.2.2.1
      have zl := pb.lt
      have d0 := pb.c0
      have d1 := pb.fz 0
      have fin := hide (CC.out.fin (.slice (some ⟨Wb.heap.size, 0, none⟩) 2 2))
      clear pb
      go_wp2
      obtain ⟨f1, f2, f3, f4, f5, f6⟩ := fin.out
      try simp only [Exit.inBlock, Exit.then]
      refine bodyPost_ret (res_prog1 rfl _ _ w.heap.size _ rfl f1) rfl ?_
      exact ⟨[(1, [120], 0), (15, [], 0)], Wb.heap.size, 2, rfl, f2, by simp, by simp, f4, q8, by omega, f5, f6⟩
  · go_wp2_with fail
    refine (l1Op_any 15 _).mono ?_
    rintro e W4 ⟨rfl, hB⟩
    obtain ⟨q4, hq4⟩ : ∃ q4, q4 = q3 := ⟨_, rfl⟩
    have C4 := hide (C3.out.below hB)
    rw [← hq4] at C4
    clear hB
    have X4 := hide (C4.out.below ((Below.refl W4.heap.size W4).alloc (Nat.le_refl _) (.cells #[.int .i64 15, .string ⟨#[]⟩, .int .i64 0] 41)))
    have ln4 := C4.out.len
    go_wp2_with (at_builtin; refine wp_appI rfl (.tmp 33) (.tmp 35) rfl (w.heap.size + 1) g0 c0 L0 (by simp [Act.eval]) X4.out.ir ⟨W4.heap.size, 0, none⟩ 1 1 [(15, [], 0)] (by simp [Act.eval]) rfl (by simp) (new_cells W4 #[.int .i64 15, .string ⟨#[]⟩, .int .i64 0] _) (by simp only [List.length_cons, List.length_nil]; omega) (by have := C4.out.st.lt; simp; omega) ?_)
    intro g1 c1 W5 hI hG
    obtain ⟨q5, hq5⟩ : ∃ q5, q5 = q4 := ⟨_, rfl⟩
    have C5 := hide (C4.out.app (n' := 135) _ hI hG (by show 134 + 1 ≤ 135; omega) (fun i hi => by rw [List.mem_singleton.1 hi]; exact Nat.zero_le _))
    rw [← hq5] at C5
    clear hI hG X4 ln4
    obtain ⟨L1, hL⟩ : ∃ L1, L1 = L0 ++ [(15, [], 0)] := ⟨_, rfl⟩
    rw [← hL] at C5
    have hn1 : L1.length = L0.length + 1 := by rw [hL, List.length_append]; rfl
    rw [← hn1]
    clear hL hn1
    go_wp2_with fail
    refine (l1Lit_any ⟨#[97, 98, 99, 100, 101, 102, 103, 104]⟩ _).mono ?_
    rintro e W6 ⟨rfl, hB⟩
    obtain ⟨q6, hq6⟩ : ∃ q6, q6 = q5 := ⟨_, rfl⟩
    have C6 := hide (C5.out.below hB)
    rw [← hq6] at C6
    clear hB
    go_wp2_with fail
    refine (l1Op_any 7 _).mono ?_
    rintro e W7 ⟨rfl, hB⟩
    obtain ⟨q7, hq7⟩ : ∃ q7, q7 = q6 := ⟨_, rfl⟩
    have C7 := hide (C6.out.below hB)
    rw [← hq7] at C7
    clear hB
    go_wp2_with fail
    refine (l1Op_any 2 _).mono ?_
    rintro e W8 ⟨rfl, hB⟩
    obtain ⟨q8, hq8⟩ : ∃ q8, q8 = q7 := ⟨_, rfl⟩
    have C8 := hide (C7.out.below hB)
    rw [← hq8] at C8
    clear hB
    go_wp2_with fail
    refine (l1OpN_any 10 1 _).mono ?_
    rintro e W9 ⟨rfl, hB⟩
    obtain ⟨q9, hq9⟩ : ∃ q9, q9 = q8 := ⟨_, rfl⟩
    have C9 := hide (C8.out.below hB)
    rw [← hq9] at C9
    clear hB
    have T2 : ∀ i ∈ ([(1, [97, 98, 99, 100, 101, 102, 103, 104], 0), (7, [], 0), (2, [], 0), (10, [], 1)] : List I3), i.2.1.length ≤ 5000 := by
      intro i hi
      simp only [List.mem_cons, List.not_mem_nil, or_false] at hi
      rcases hi with rfl | rfl | rfl | rfl
      · decide
      all_goals exact Nat.zero_le _
    have C10 := hide (SC.lit C9.out.st [(1, [97, 98, 99, 100, 101, 102, 103, 104], 0), (7, [], 0), (2, [], 0), (10, [], 1)] #[.int .i64 1, .string ⟨#[97, 98, 99, 100, 101, 102, 103, 104]⟩, .int .i64 0, .int .i64 7, .string ⟨#[]⟩, .int .i64 0, .int .i64 2, .string ⟨#[]⟩, .int .i64 0, .int .i64 10, .string ⟨#[]⟩, .int .i64 1] rfl 4 rfl (by omega) T2)
    clear T2
    obtain ⟨q10, hq10⟩ : ∃ q10, q10 = q9 := ⟨_, rfl⟩
    rw [← hq10] at C10
    go_upto_region 12 with fail
    generalize W9.alloc (.cells #[.int .i64 1, .string ⟨#[97, 98, 99, 100, 101, 102, 103, 104]⟩, .int .i64 0, .int .i64 7, .string ⟨#[]⟩, .int .i64 0, .int .i64 2, .string ⟨#[]⟩, .int .i64 0, .int .i64 10, .string ⟨#[]⟩, .int .i64 1] 41) = W10 at C10 ⊢
    have lq : ([(1, [97, 98, 99, 100, 101, 102, 103, 104], 0), (7, [], 0), (2, [], 0), (10, [], 1)] : List I3).length = 4 := rfl
    generalize ([(1, [97, 98, 99, 100, 101, 102, 103, 104], 0), (7, [], 0), (2, [], 0), (10, [], 1)] : List I3) = L2 at C10 lq
    have ln := C10.out.len
    have ge := C10.out.ir.lt
    go_wp2_with fail
    refine (specValid_row W9.heap.size 0 4 4 (fI L2) _ (by omega) ge.2 (fun i hi => C10.out.ir.at i (by omega)) (fun i hi => fI_size C10.out.2.2.2 i (by omega))).mono ?_
    rintro e Wv ⟨rfl, hB⟩
    have CV := hide (C10.out.below hB)
    clear hB
    cases hv : valid (fI L2) 4 with
    | true =>
      have vp := (valid_parts hv).2.1
      clear hv
      have pb := CV.out.st.2.2.1
      have zl := pb.lt
      have d0 := pb.c0
      have d1 := pb.fz 0
      have fin := hide (CV.out.fin (.slice (some ⟨W9.heap.size, 0, none⟩) 4 4))
      clear pb
      go_wp2
      obtain ⟨f1, f2, f3, f4, f5, f6⟩ := fin.out
      try simp only [Exit.inBlock, Exit.then]
      refine bodyPost_ret (res_prog1 rfl _ _ w.heap.size _ rfl f1) rfl ?_
      exact ⟨L2, W9.heap.size, 4, by rw [lq], f2, by omega, by omega, f4, q10, by omega, f5, f6⟩
    | false =>
      clear hv
      go_wp2_with fail
      refine (l1Lit_any ⟨#[120]⟩ _).mono ?_
      rintro e Wa ⟨rfl, hB⟩
      have CA := hide (CV.out.st.below hB)
      clear hB
      go_wp2_with fail
      refine (l1Op_any 15 _).mono ?_
      rintro e Wb ⟨rfl, hB⟩
      have CB := hide (CA.out.below hB)
      clear hB CA
      have CC := hide (SC.lit CB.out [(1, [120], 0), (15, [], 0)] #[.int .i64 1, .string ⟨#[120]⟩, .int .i64 0, .int .i64 15, .string ⟨#[]⟩, .int .i64 0] rfl 2 rfl (by omega) (by decide))
      have pb := CC.out.st.2.2.1
      have zl := pb.lt
      have d0 := pb.c0
      have d1 := pb.fz 0
      have fin := hide (CC.out.fin (.slice (some ⟨Wb.heap.size, 0, none⟩) 2 2))
      clear pb
      go_wp2
      obtain ⟨f1, f2, f3, f4, f5, f6⟩ := fin.out
      try simp only [Exit.inBlock, Exit.then]
      refine bodyPost_ret (res_prog1 rfl _ _ w.heap.size _ rfl f1) rfl ?_
      exact ⟨[(1, [120], 0), (15, [], 0)], Wb.heap.size, 2, rfl, f2, by simp, by simp, f4, q10, by omega, f5, f6⟩
  · go_wp2_with fail
    refine (l1Op_any 15 _).mono ?_
    rintro e W4 ⟨rfl, hB⟩
    obtain ⟨q4, hq4⟩ : ∃ q4, q4 = q3 := ⟨_, rfl⟩
    have C4 := hide (C3.out.below hB)
    rw [← hq4] at C4
    clear hB
    have X4 := hide (C4.out.below ((Below.refl W4.heap.size W4).alloc (Nat.le_refl _) (.cells #[.int .i64 15, .string ⟨#[]⟩, .int .i64 0] 41)))
    have ln4 := C4.out.len
    go_wp2_with (at_builtin; refine wp_appI rfl (.tmp 33) (.tmp 35) rfl (w.heap.size + 1) g0 c0 L0 (by simp [Act.eval]) X4.out.ir ⟨W4.heap.size, 0, none⟩ 1 1 [(15, [], 0)] (by simp [Act.eval]) rfl (by simp) (new_cells W4 #[.int .i64 15, .string ⟨#[]⟩, .int .i64 0] _) (by simp only [List.length_cons, List.length_nil]; omega) (by have := C4.out.st.lt; simp; omega) ?_)
    intro g1 c1 W5 hI hG
    obtain ⟨q5, hq5⟩ : ∃ q5, q5 = q4 := ⟨_, rfl⟩
    have C5 := hide (C4.out.app (n' := 135) _ hI hG (by show 134 + 1 ≤ 135; omega) (fun i hi => by rw [List.mem_singleton.1 hi]; exact Nat.zero_le _))
    rw [← hq5] at C5
    clear hI hG X4 ln4
    obtain ⟨L1, hL⟩ : ∃ L1, L1 = L0 ++ [(15, [], 0)] := ⟨_, rfl⟩
    rw [← hL] at C5
    have hn1 : L1.length = L0.length + 1 := by rw [hL, List.length_append]; rfl
    rw [← hn1]
    clear hL hn1
    go_wp2_with fail
    refine (l1Name_any R _ _ C5.out.st.rd (by omega)).mono ?_
    rintro e W6 ⟨t, rfl, ht, hR, hO⟩
    obtain ⟨q6, hq6⟩ : ∃ q6, q6 = q5 + 1 := ⟨_, rfl⟩
    rw [← hq6] at hR
    have C6 := hide (C5.out.only hO hR)
    clear hO hR
    go_wp2_with fail
    refine (l1Lit_any t _).mono ?_
    rintro e W7 ⟨rfl, hB⟩
    obtain ⟨q7, hq7⟩ : ∃ q7, q7 = q6 := ⟨_, rfl⟩
    have C7 := hide (C6.out.below hB)
    rw [← hq7] at C7
    clear hB
    go_wp2_with fail
    refine (l1Op_any 13 _).mono ?_
    rintro e W8 ⟨rfl, hB⟩
    obtain ⟨q8, hq8⟩ : ∃ q8, q8 = q7 := ⟨_, rfl⟩
    have C8 := hide (C7.out.below hB)
    rw [← hq8] at C8
    clear hB
    go_wp2_with fail
    refine (l1Op_any 9 _).mono ?_
    rintro e W9 ⟨rfl, hB⟩
    obtain ⟨q9, hq9⟩ : ∃ q9, q9 = q8 := ⟨_, rfl⟩
    have C9 := hide (C8.out.below hB)
    rw [← hq9] at C9
    clear hB
    go_wp2_with fail
    refine (l1OpN_any 10 0 _).mono ?_
    rintro e W10 ⟨rfl, hB⟩
    obtain ⟨q10, hq10⟩ : ∃ q10, q10 = q9 := ⟨_, rfl⟩
    have C10 := hide (C9.out.below hB)
    rw [← hq10] at C10
    clear hB
    have T2 : ∀ i ∈ ([(1, t.data.toList, 0), (13, [], 0), (9, [], 0), (10, [], 0)] : List I3), i.2.1.length ≤ 5000 := by
      intro i hi
      simp only [List.mem_cons, List.not_mem_nil, or_false] at hi
      rcases hi with rfl | rfl | rfl | rfl
      · show t.data.toList.length ≤ 5000
        rw [Array.length_toList]
        show t.size ≤ 5000
        omega
      all_goals exact Nat.zero_le _
    have C11 := hide (SC.lit C10.out.st [(1, t.data.toList, 0), (13, [], 0), (9, [], 0), (10, [], 0)] #[.int .i64 1, .string t, .int .i64 0, .int .i64 13, .string ⟨#[]⟩, .int .i64 0, .int .i64 9, .string ⟨#[]⟩, .int .i64 0, .int .i64 10, .string ⟨#[]⟩, .int .i64 0] rfl 4 rfl (by omega) T2)
    clear T2
    obtain ⟨q11, hq11⟩ : ∃ q11, q11 = q10 := ⟨_, rfl⟩
    rw [← hq11] at C11
    go_upto_region 14 with fail
    generalize W10.alloc (.cells #[.int .i64 1, .string t, .int .i64 0, .int .i64 13, .string ⟨#[]⟩, .int .i64 0, .int .i64 9, .string ⟨#[]⟩, .int .i64 0, .int .i64 10, .string ⟨#[]⟩, .int .i64 0] 41) = W11 at C11 ⊢
    have lq : ([(1, t.data.toList, 0), (13, [], 0), (9, [], 0), (10, [], 0)] : List I3).length = 4 := rfl
    generalize ([(1, t.data.toList, 0), (13, [], 0), (9, [], 0), (10, [], 0)] : List I3) = L2 at C11 lq
    have ln := C11.out.len
    have ge := C11.out.ir.lt
    go_wp2_with fail
    refine (specValid_row W10.heap.size 0 4 4 (fI L2) _ (by omega) ge.2 (fun i hi => C11.out.ir.at i (by omega)) (fun i hi => fI_size C11.out.2.2.2 i (by omega))).mono ?_
    rintro e Wv ⟨rfl, hB⟩
    have CV := hide (C11.out.below hB)
    clear hB
    cases hv : valid (fI L2) 4 with
    | true =>
      have vp := (valid_parts hv).2.1
      clear hv
      have pb := CV.out.st.2.2.1
      have zl := pb.lt
      have d0 := pb.c0
      have d1 := pb.fz 0
      have fin := hide (CV.out.fin (.slice (some ⟨W10.heap.size, 0, none⟩) 4 4))
      clear pb
      go_wp2
      obtain ⟨f1, f2, f3, f4, f5, f6⟩ := fin.out
      try simp only [Exit.inBlock, Exit.then]
      refine bodyPost_ret (res_prog1 rfl _ _ w.heap.size _ rfl f1) rfl ?_
      exact ⟨L2, W10.heap.size, 4, by rw [lq], f2, by omega, by omega, f4, q11, by omega, f5, f6⟩
    | false =>
      clear hv
      go_wp2_with fail
      refine (l1Lit_any ⟨#[120]⟩ _).mono ?_
      rintro e Wa ⟨rfl, hB⟩
      have CA := hide (CV.out.st.below hB)
      clear hB
      go_wp2_with fail
      refine (l1Op_any 15 _).mono ?_
      rintro e Wb ⟨rfl, hB⟩
      have CB := hide (CA.out.below hB)
      clear hB CA
      have CC := hide (SC.lit CB.out [(1, [120], 0), (15, [], 0)] #[.int .i64 1, .string ⟨#[120]⟩, .int .i64 0, .int .i64 15, .string ⟨#[]⟩, .int .i64 0] rfl 2 rfl (by omega) (by decide))
      have pb := CC.out.st.2.2.1
      have zl := pb.lt
      have d0 := pb.c0
      have d1 := pb.fz 0
      have fin := hide (CC.out.fin (.slice (some ⟨Wb.heap.size, 0, none⟩) 2 2))
      clear pb
      go_wp2
      obtain ⟨f1, f2, f3, f4, f5, f6⟩ := fin.out
      try simp only [Exit.inBlock, Exit.then]
      refine bodyPost_ret (res_prog1 rfl _ _ w.heap.size _ rfl f1) rfl ?_
      exact ⟨[(1, [120], 0), (15, [], 0)], Wb.heap.size, 2, rfl, f2, by simp, by simp, f4, q11, by omega, f5, f6⟩
  · go_wp2_with fail
    refine (l1Op_any 15 _).mono ?_
    rintro e W4 ⟨rfl, hB⟩
    obtain ⟨q4, hq4⟩ : ∃ q4, q4 = q3 := ⟨_, rfl⟩
    have C4 := hide (C3.out.below hB)
    rw [← hq4] at C4
    clear hB
    have X4 := hide (C4.out.below ((Below.refl W4.heap.size W4).alloc (Nat.le_refl _) (.cells #[.int .i64 15, .string ⟨#[]⟩, .int .i64 0] 41)))
    have ln4 := C4.out.len
    go_wp2_with (at_builtin; refine wp_appI rfl (.tmp 33) (.tmp 35) rfl (w.heap.size + 1) g0 c0 L0 (by simp [Act.eval]) X4.out.ir ⟨W4.heap.size, 0, none⟩ 1 1 [(15, [], 0)] (by simp [Act.eval]) rfl (by simp) (new_cells W4 #[.int .i64 15, .string ⟨#[]⟩, .int .i64 0] _) (by simp only [List.length_cons, List.length_nil]; omega) (by have := C4.out.st.lt; simp; omega) ?_)
    intro g1 c1 W5 hI hG
    obtain ⟨q5, hq5⟩ : ∃ q5, q5 = q4 := ⟨_, rfl⟩
    have C5 := hide (C4.out.app (n' := 135) _ hI hG (by show 134 + 1 ≤ 135; omega) (fun i hi => by rw [List.mem_singleton.1 hi]; exact Nat.zero_le _))
    rw [← hq5] at C5
    clear hI hG X4 ln4
    obtain ⟨L1, hL⟩ : ∃ L1, L1 = L0 ++ [(15, [], 0)] := ⟨_, rfl⟩
    rw [← hL] at C5
    have hn1 : L1.length = L0.length + 1 := by rw [hL, List.length_append]; rfl
    rw [← hn1]
    clear hL hn1
    go_wp2_with fail
    refine (l1Lit_any ⟨#[115]⟩ _).mono ?_
    rintro e W6 ⟨rfl, hB⟩
    obtain ⟨q6, hq6⟩ : ∃ q6, q6 = q5 := ⟨_, rfl⟩
    have C6 := hide (C5.out.below hB)
    rw [← hq6] at C6
    clear hB
    go_wp2_with fail
    refine (l1OpN_any 10 0 _).mono ?_
    rintro e W7 ⟨rfl, hB⟩
    obtain ⟨q7, hq7⟩ : ∃ q7, q7 = q6 := ⟨_, rfl⟩
    have C7 := hide (C6.out.below hB)
    rw [← hq7] at C7
    clear hB
    have T2 : ∀ i ∈ ([(1, [115], 0), (10, [], 0)] : List I3), i.2.1.length ≤ 5000 := by
      intro i hi
      simp only [List.mem_cons, List.not_mem_nil, or_false] at hi
      rcases hi with rfl | rfl
      · decide
      all_goals exact Nat.zero_le _
    have C8 := hide (SC.lit C7.out.st [(1, [115], 0), (10, [], 0)] #[.int .i64 1, .string ⟨#[115]⟩, .int .i64 0, .int .i64 10, .string ⟨#[]⟩, .int .i64 0] rfl 2 rfl (by omega) T2)
    clear T2
    obtain ⟨q8, hq8⟩ : ∃ q8, q8 = q7 := ⟨_, rfl⟩
    rw [← hq8] at C8
    go_upto_region 20 with fail
    generalize W7.alloc (.cells #[.int .i64 1, .string ⟨#[115]⟩, .int .i64 0, .int .i64 10, .string ⟨#[]⟩, .int .i64 0] 41) = W8 at C8 ⊢
    have lq : ([(1, [115], 0), (10, [], 0)] : List I3).length = 2 := rfl
    generalize ([(1, [115], 0), (10, [], 0)] : List I3) = L2 at C8 lq
    have ln := C8.out.len
    have ge := C8.out.ir.lt
    go_wp2_with fail
    refine (specValid_row W7.heap.size 0 2 2 (fI L2) _ (by omega) ge.2 (fun i hi => C8.out.ir.at i (by omega)) (fun i hi => fI_size C8.out.2.2.2 i (by omega))).mono ?_
    rintro e Wv ⟨rfl, hB⟩
    have CV := hide (C8.out.below hB)
    clear hB
    cases hv : valid (fI L2) 2 with
    | true =>
      have vp := (valid_parts hv).2.1
      clear hv
      have pb := CV.out.st.2.2.1
      have zl := pb.lt
      have d0 := pb.c0
      have d1 := pb.fz 0
      have fin := hide (CV.out.fin (.slice (some ⟨W7.heap.size, 0, none⟩) 2 2))
      clear pb
      go_wp2
      obtain ⟨f1, f2, f3, f4, f5, f6⟩ := fin.out
      try simp only [Exit.inBlock, Exit.then]
      refine bodyPost_ret (res_prog1 rfl _ _ w.heap.size _ rfl f1) rfl ?_
      exact ⟨L2, W7.heap.size, 2, by rw [lq], f2, by omega, by omega, f4, q8, by omega, f5, f6⟩
    | false =>
      clear hv
      go_wp2_with fail
      refine (l1Lit_any ⟨#[120]⟩ _).mono ?_
      rintro e Wa ⟨rfl, hB⟩
      have CA := hide (CV.out.st.below hB)
      clear hB
      go_wp2_with fail
      refine (l1Op_any 15 _).mono ?_
      rintro e Wb ⟨rfl, hB⟩
      have CB := hide (CA.out.below hB)
      clear hB CA
      have CC := hide (SC.lit CB.out [(1, [120], 0), (15, [], 0)] #[.int .i64 1, .string ⟨#[120]⟩, .int .i64 0, .int .i64 15, .string ⟨#[]⟩, .int .i64 0] rfl 2 rfl (by omega) (by decide))
      have pb := CC.out.st.2.2.1
      have zl := pb.lt
      have d0 := pb.c0
      have d1 := pb.fz 0
      have fin := hide (CC.out.fin (.slice (some ⟨Wb.heap.size, 0, none⟩) 2 2))
      clear pb
      go_wp2
      obtain ⟨f1, f2, f3, f4, f5, f6⟩ := fin.out
      try simp only [Exit.inBlock, Exit.then]
      refine bodyPost_ret (res_prog1 rfl _ _ w.heap.size _ rfl f1) rfl ?_
      exact ⟨[(1, [120], 0), (15, [], 0)], Wb.heap.size, 2, rfl, f2, by simp, by simp, f4, q8, by omega, f5, f6⟩
  · go_wp2_with fail
    refine (l1Op_any 15 _).mono ?_
    rintro e W4 ⟨rfl, hB⟩
    obtain ⟨q4, hq4⟩ : ∃ q4, q4 = q3 := ⟨_, rfl⟩
    have C4 := hide (C3.out.below hB)
    rw [← hq4] at C4
    clear hB
    have X4 := hide (C4.out.below ((Below.refl W4.heap.size W4).alloc (Nat.le_refl _) (.cells #[.int .i64 15, .string ⟨#[]⟩, .int .i64 0] 41)))
    have ln4 := C4.out.len
    go_wp2_with (at_builtin; refine wp_appI rfl (.tmp 33) (.tmp 35) rfl (w.heap.size + 1) g0 c0 L0 (by simp [Act.eval]) X4.out.ir ⟨W4.heap.size, 0, none⟩ 1 1 [(15, [], 0)] (by simp [Act.eval]) rfl (by simp) (new_cells W4 #[.int .i64 15, .string ⟨#[]⟩, .int .i64 0] _) (by simp only [List.length_cons, List.length_nil]; omega) (by have := C4.out.st.lt; simp; omega) ?_)
    intro g1 c1 W5 hI hG
    obtain ⟨q5, hq5⟩ : ∃ q5, q5 = q4 := ⟨_, rfl⟩
    have C5 := hide (C4.out.app (n' := 135) _ hI hG (by show 134 + 1 ≤ 135; omega) (fun i hi => by rw [List.mem_singleton.1 hi]; exact Nat.zero_le _))
    rw [← hq5] at C5
    clear hI hG X4 ln4
    obtain ⟨L1, hL⟩ : ∃ L1, L1 = L0 ++ [(15, [], 0)] := ⟨_, rfl⟩
    rw [← hL] at C5
    have hn1 : L1.length = L0.length + 1 := by rw [hL, List.length_append]; rfl
    rw [← hn1]
    clear hL hn1
    go_wp2_with fail
    refine (pick_any R _ 3 _ C5.out.st.rd (by omega) (by omega) (by omega)).mono ?_
    rintro e W6 ⟨x, rfl, x0, x1, hR, hO⟩
    obtain ⟨q6, hq6⟩ : ∃ q6, q6 = q5 + 1 := ⟨_, rfl⟩
    rw [← hq6] at hR
    have C6 := hide (C5.out.only hO hR)
    clear hO hR
    by_cases hx : x = 0
    · subst hx
      go_wp2_with fail
      refine (pick_any R _ 3 _ C6.out.st.rd (by omega) (by omega) (by omega)).mono ?_
      rintro e W7 ⟨y, rfl, y0, y1, hR, hO⟩
      obtain ⟨q7, hq7⟩ : ∃ q7, q7 = q6 + 1 := ⟨_, rfl⟩
      rw [← hq7] at hR
      have C7 := hide (C6.out.only hO hR)
      clear hO hR
      go_wp2_with fail
      obtain ⟨m0, hm0⟩ : ∃ m0 : Nat, 200 + y - 1 = (m0 : Int) := ⟨(200 + y - 1).toNat, by omega⟩
      rw [hm0]
      refine (l1Words_any m0 _ (by omega)).mono ?_
      rintro e W8 ⟨LW, gW, rfl, hI, lq, hT, hB⟩
      obtain ⟨q8, hq8⟩ : ∃ q8, q8 = q7 := ⟨_, rfl⟩
      have C8 : Hid (SC w R w.heap.size W8 q8 gW 7 LW 7) := SC.di C7.out.st hI (by omega) hT (Only.of_below hB) (by rw [hq8]; exact C7.out.st.rd.below hB (Nat.le_refl _))
      clear hI hT hB hm0
      have ln := C8.out.len
      have ge := C8.out.ir.lt
      go_wp2_with fail
      refine (specValid_row gW 0 7 7 (fI LW) _ (by omega) ge.2 (fun i hi => C8.out.ir.at i (by omega)) (fun i hi => fI_size C8.out.2.2.2 i (by omega))).mono ?_
      rintro e Wv ⟨rfl, hB⟩
      have CV := hide (C8.out.below hB)
      clear hB
      cases hv : valid (fI LW) 7 with
      | true =>
        have vp := (valid_parts hv).2.1
        clear hv
        have pb := CV.out.st.2.2.1
        have zl := pb.lt
        have d0 := pb.c0
        have d1 := pb.fz 0
        have fin := hide (CV.out.fin (.slice (some ⟨gW, 0, none⟩) 7 7))
        clear pb
        go_wp2
        obtain ⟨f1, f2, f3, f4, f5, f6⟩ := fin.out
        try simp only [Exit.inBlock, Exit.then]
        refine bodyPost_ret (res_prog1 rfl _ _ w.heap.size _ rfl f1) rfl ?_
        exact ⟨LW, gW, 7, by rw [lq], f2, by omega, by omega, f4, q8, by omega, f5, f6⟩
      | false =>
        clear hv
        go_wp2_with fail
        refine (l1Lit_any ⟨#[120]⟩ _).mono ?_
        rintro e Wa ⟨rfl, hB⟩
        have CA := hide (CV.out.st.below hB)
        clear hB
        go_wp2_with fail
        refine (l1Op_any 15 _).mono ?_
        rintro e Wb ⟨rfl, hB⟩
        have CB := hide (CA.out.below hB)
        clear hB CA
        have CC := hide (SC.lit CB.out [(1, [120], 0), (15, [], 0)] #[.int .i64 1, .string ⟨#[120]⟩, .int .i64 0, .int .i64 15, .string ⟨#[]⟩, .int .i64 0] rfl 2 rfl (by omega) (by decide))
        have pb := CC.out.st.2.2.1
        have zl := pb.lt
        have d0 := pb.c0
        have d1 := pb.fz 0
        have fin := hide (CC.out.fin (.slice (some ⟨Wb.heap.size, 0, none⟩) 2 2))
        clear pb
        go_wp2
        obtain ⟨f1, f2, f3, f4, f5, f6⟩ := fin.out
        try simp only [Exit.inBlock, Exit.then]
        refine bodyPost_ret (res_prog1 rfl _ _ w.heap.size _ rfl f1) rfl ?_
        exact ⟨[(1, [120], 0), (15, [], 0)], Wb.heap.size, 2, rfl, f2, by simp, by simp, f4, q8, by omega, f5, f6⟩
    · have ln := C6.out.len
      have ge := C6.out.ir.lt
      go_wp2_with fail
      refine (specValid_row g1 0 L1.length c1 (fI L1) _ (by omega) ge.2 (fun i hi => C6.out.ir.at i (by omega)) (fun i hi => fI_size C6.out.2.2.2 i (by omega))).mono ?_
      rintro e Wv ⟨rfl, hB⟩
      have CV := hide (C6.out.below hB)
      clear hB
      cases hv : valid (fI L1) L1.length with
      | true =>
        have vp := (valid_parts hv).2.1
        clear hv
        have pb := CV.out.st.2.2.1
        have zl := pb.lt
        have d0 := pb.c0
        have d1 := pb.fz 0
        have fin := hide (CV.out.fin (.slice (some ⟨g1, 0, none⟩) L1.length c1))
        clear pb
        go_wp2
        obtain ⟨f1, f2, f3, f4, f5, f6⟩ := fin.out
        try simp only [Exit.inBlock, Exit.then]
        refine bodyPost_ret (res_prog1 rfl _ _ w.heap.size _ rfl f1) rfl ?_
        exact ⟨L1, g1, c1, rfl, f2, by omega, by omega, f4, q6, by omega, f5, f6⟩
      | false =>
        clear hv
        go_wp2_with fail
        refine (l1Lit_any ⟨#[120]⟩ _).mono ?_
        rintro e Wa ⟨rfl, hB⟩
        have CA := hide (CV.out.st.below hB)
        clear hB
        go_wp2_with fail
        refine (l1Op_any 15 _).mono ?_
        rintro e Wb ⟨rfl, hB⟩
        have CB := hide (CA.out.below hB)
        clear hB CA
        have CC := hide (SC.lit CB.out [(1, [120], 0), (15, [], 0)] #[.int .i64 1, .string ⟨#[120]⟩, .int .i64 0, .int .i64 15, .string ⟨#[]⟩, .int .i64 0] rfl 2 rfl (by omega) (by decide))
        have pb := CC.out.st.2.2.1
        have zl := pb.lt
        have d0 := pb.c0
        have d1 := pb.fz 0
        have fin := hide (CC.out.fin (.slice (some ⟨Wb.heap.size, 0, none⟩) 2 2))
        clear pb
        go_wp2
        obtain ⟨f1, f2, f3, f4, f5, f6⟩ := fin.out
        try simp only [Exit.inBlock, Exit.then]
        refine bodyPost_ret (res_prog1 rfl _ _ w.heap.size _ rfl f1) rfl ?_
        exact ⟨[(1, [120], 0), (15, [], 0)], Wb.heap.size, 2, rfl, f2, by simp, by simp, f4, q6, by omega, f5, f6⟩
  · go_wp2_with fail
    refine (l1Op_any 15 _).mono ?_
    rintro e W4 ⟨rfl, hB⟩
    obtain ⟨q4, hq4⟩ : ∃ q4, q4 = q3 := ⟨_, rfl⟩
    have C4 := hide (C3.out.below hB)
    rw [← hq4] at C4
    clear hB
    have X4 := hide (C4.out.below ((Below.refl W4.heap.size W4).alloc (Nat.le_refl _) (.cells #[.int .i64 15, .string ⟨#[]⟩, .int .i64 0] 41)))
    have ln4 := C4.out.len
    go_wp2_with (at_builtin; refine wp_appI rfl (.tmp 33) (.tmp 35) rfl (w.heap.size + 1) g0 c0 L0 (by simp [Act.eval]) X4.out.ir ⟨W4.heap.size, 0, none⟩ 1 1 [(15, [], 0)] (by simp [Act.eval]) rfl (by simp) (new_cells W4 #[.int .i64 15, .string ⟨#[]⟩, .int .i64 0] _) (by simp only [List.length_cons, List.length_nil]; omega) (by have := C4.out.st.lt; simp; omega) ?_)
    intro g1 c1 W5 hI hG
    obtain ⟨q5, hq5⟩ : ∃ q5, q5 = q4 := ⟨_, rfl⟩
    have C5 := hide (C4.out.app (n' := 135) _ hI hG (by show 134 + 1 ≤ 135; omega) (fun i hi => by rw [List.mem_singleton.1 hi]; exact Nat.zero_le _))
    rw [← hq5] at C5
    clear hI hG X4 ln4
    obtain ⟨L1, hL⟩ : ∃ L1, L1 = L0 ++ [(15, [], 0)] := ⟨_, rfl⟩
    rw [← hL] at C5
    have hn1 : L1.length = L0.length + 1 := by rw [hL, List.length_append]; rfl
    rw [← hn1]
    clear hL hn1
    go_wp2_with fail
    refine (pick_any R _ 3 _ C5.out.st.rd (by omega) (by omega) (by omega)).mono ?_
    rintro e W6 ⟨x, rfl, x0, x1, hR, hO⟩
    obtain ⟨q6, hq6⟩ : ∃ q6, q6 = q5 + 1 := ⟨_, rfl⟩
    rw [← hq6] at hR
    have C6 := hide (C5.out.only hO hR)
    clear hO hR
    by_cases hx : x = 0
    · subst hx
      go_wp2_with fail
      refine (pick_any R _ 2 _ C6.out.st.rd (by omega) (by omega) (by omega)).mono ?_
      rintro e W7 ⟨y, rfl, y0, y1, hR, hO⟩
      obtain ⟨q7, hq7⟩ : ∃ q7, q7 = q6 + 1 := ⟨_, rfl⟩
      rw [← hq7] at hR
      have C7 := hide (C6.out.only hO hR)
      clear hO hR
      go_wp2_with fail
      obtain ⟨m0, hm0⟩ : ∃ m0 : Nat, 499 + y = (m0 : Int) := ⟨(499 + y).toNat, by omega⟩
      rw [hm0]
      refine (l1Many_any ⟨#[120]⟩ m0 _ (by show 1 * m0 ≤ 4000; omega) (by omega)).mono ?_
      rintro e Wm ⟨t, rfl, ht, hw⟩
      rw [hw]
      have ht5 : t.size ≤ 5000 := Nat.le_trans ht (by show 1 * m0 ≤ 5000; omega)
      clear ht hm0 hw
      go_wp2_with fail
      refine (l1Lit_any t _).mono ?_
      rintro e W8 ⟨rfl, hB⟩
      obtain ⟨q8, hq8⟩ : ∃ q8, q8 = q7 := ⟨_, rfl⟩
      have C8 := hide (C7.out.below hB)
      rw [← hq8] at C8
      clear hB
      go_wp2_with fail
      refine (l1Op_any 7 _).mono ?_
      rintro e W9 ⟨rfl, hB⟩
      obtain ⟨q9, hq9⟩ : ∃ q9, q9 = q8 := ⟨_, rfl⟩
      have C9 := hide (C8.out.below hB)
      rw [← hq9] at C9
      clear hB
      go_wp2_with fail
      refine (l1OpN_any 11 5 _).mono ?_
      rintro e W10 ⟨rfl, hB⟩
      obtain ⟨q10, hq10⟩ : ∃ q10, q10 = q9 := ⟨_, rfl⟩
      have C10 := hide (C9.out.below hB)
      rw [← hq10] at C10
      clear hB
      go_wp2_with fail
      refine (l1OpN_any 4 1 _).mono ?_
      rintro e W11 ⟨rfl, hB⟩
      obtain ⟨q11, hq11⟩ : ∃ q11, q11 = q10 := ⟨_, rfl⟩
      have C11 := hide (C10.out.below hB)
      rw [← hq11] at C11
      clear hB
      go_wp2_with fail
      refine (l1OpN_any 10 1 _).mono ?_
      rintro e W12 ⟨rfl, hB⟩
      obtain ⟨q12, hq12⟩ : ∃ q12, q12 = q11 := ⟨_, rfl⟩
      have C12 := hide (C11.out.below hB)
      rw [← hq12] at C12
      clear hB
      go_wp2_with fail
      refine (l1Op_any 9 _).mono ?_
      rintro e W13 ⟨rfl, hB⟩
      obtain ⟨q13, hq13⟩ : ∃ q13, q13 = q12 := ⟨_, rfl⟩
      have C13 := hide (C12.out.below hB)
      rw [← hq13] at C13
      clear hB
      have T2 : ∀ i ∈ ([(1, t.data.toList, 0), (7, [], 0), (11, [], 5), (4, [], 1), (10, [], 1), (9, [], 0)] : List I3), i.2.1.length ≤ 5000 := by
        intro i hi
        simp only [List.mem_cons, List.not_mem_nil, or_false] at hi
        rcases hi with rfl | rfl | rfl | rfl | rfl | rfl
        · show t.data.toList.length ≤ 5000
          rw [Array.length_toList]
          show t.size ≤ 5000
          omega
        all_goals exact Nat.zero_le _
      have C14 := hide (SC.lit C13.out.st [(1, t.data.toList, 0), (7, [], 0), (11, [], 5), (4, [], 1), (10, [], 1), (9, [], 0)] #[.int .i64 1, .string t, .int .i64 0, .int .i64 7, .string ⟨#[]⟩, .int .i64 0, .int .i64 11, .string ⟨#[]⟩, .int .i64 5, .int .i64 4, .string ⟨#[]⟩, .int .i64 1, .int .i64 10, .string ⟨#[]⟩, .int .i64 1, .int .i64 9, .string ⟨#[]⟩, .int .i64 0] rfl 6 rfl (by omega) T2)
      clear T2
      obtain ⟨q14, hq14⟩ : ∃ q14, q14 = q13 := ⟨_, rfl⟩
      rw [← hq14] at C14
      go_upto_region 16 with fail
      generalize W13.alloc (.cells #[.int .i64 1, .string t, .int .i64 0, .int .i64 7, .string ⟨#[]⟩, .int .i64 0, .int .i64 11, .string ⟨#[]⟩, .int .i64 5, .int .i64 4, .string ⟨#[]⟩, .int .i64 1, .int .i64 10, .string ⟨#[]⟩, .int .i64 1, .int .i64 9, .string ⟨#[]⟩, .int .i64 0] 41) = W14 at C14 ⊢
      have lq : ([(1, t.data.toList, 0), (7, [], 0), (11, [], 5), (4, [], 1), (10, [], 1), (9, [], 0)] : List I3).length = 6 := rfl
      generalize ([(1, t.data.toList, 0), (7, [], 0), (11, [], 5), (4, [], 1), (10, [], 1), (9, [], 0)] : List I3) = L2 at C14 lq
      have ln := C14.out.len
      have ge := C14.out.ir.lt
      go_wp2_with fail
      refine (specValid_row W13.heap.size 0 6 6 (fI L2) _ (by omega) ge.2 (fun i hi => C14.out.ir.at i (by omega)) (fun i hi => fI_size C14.out.2.2.2 i (by omega))).mono ?_
      rintro e Wv ⟨rfl, hB⟩
      have CV := hide (C14.out.below hB)
      clear hB
      cases hv : valid (fI L2) 6 with
      | true =>
        have vp := (valid_parts hv).2.1
        clear hv
        have pb := CV.out.st.2.2.1
        have zl := pb.lt
        have d0 := pb.c0
        have d1 := pb.fz 0
        have fin := hide (CV.out.fin (.slice (some ⟨W13.heap.size, 0, none⟩) 6 6))
        clear pb
        go_wp2
        obtain ⟨f1, f2, f3, f4, f5, f6⟩ := fin.out
        try simp only [Exit.inBlock, Exit.then]
        refine bodyPost_ret (res_prog1 rfl _ _ w.heap.size _ rfl f1) rfl ?_
        exact ⟨L2, W13.heap.size, 6, by rw [lq], f2, by omega, by omega, f4, q14, by omega, f5, f6⟩
      | false =>
        clear hv
        go_wp2_with fail
        refine (l1Lit_any ⟨#[120]⟩ _).mono ?_
        rintro e Wa ⟨rfl, hB⟩
        have CA := hide (CV.out.st.below hB)
        clear hB
        go_wp2_with fail
        refine (l1Op_any 15 _).mono ?_
        rintro e Wb ⟨rfl, hB⟩
        have CB := hide (CA.out.below hB)
        clear hB CA
        have CC := hide (SC.lit CB.out [(1, [120], 0), (15, [], 0)] #[.int .i64 1, .string ⟨#[120]⟩, .int .i64 0, .int .i64 15, .string ⟨#[]⟩, .int .i64 0] rfl 2 rfl (by omega) (by decide))
        have pb := CC.out.st.2.2.1
        have zl := pb.lt
        have d0 := pb.c0
        have d1 := pb.fz 0
        have fin := hide (CC.out.fin (.slice (some ⟨Wb.heap.size, 0, none⟩) 2 2))
        clear pb
        go_wp2
        obtain ⟨f1, f2, f3, f4, f5, f6⟩ := fin.out
        try simp only [Exit.inBlock, Exit.then]
        refine bodyPost_ret (res_prog1 rfl _ _ w.heap.size _ rfl f1) rfl ?_
        exact ⟨[(1, [120], 0), (15, [], 0)], Wb.heap.size, 2, rfl, f2, by simp, by simp, f4, q14, by omega, f5, f6⟩
    · have ln := C6.out.len
      have ge := C6.out.ir.lt
      go_wp2_with fail
      refine (specValid_row g1 0 L1.length c1 (fI L1) _ (by omega) ge.2 (fun i hi => C6.out.ir.at i (by omega)) (fun i hi => fI_size C6.out.2.2.2 i (by omega))).mono ?_
      rintro e Wv ⟨rfl, hB⟩
      have CV := hide (C6.out.below hB)
      clear hB
      cases hv : valid (fI L1) L1.length with
      | true =>
        have vp := (valid_parts hv).2.1
        clear hv
        have pb := CV.out.st.2.2.1
        have zl := pb.lt
        have d0 := pb.c0
        have d1 := pb.fz 0
        have fin := hide (CV.out.fin (.slice (some ⟨g1, 0, none⟩) L1.length c1))
        clear pb
        go_wp2
        obtain ⟨f1, f2, f3, f4, f5, f6⟩ := fin.out
        try simp only [Exit.inBlock, Exit.then]
        refine bodyPost_ret (res_prog1 rfl _ _ w.heap.size _ rfl f1) rfl ?_
        exact ⟨L1, g1, c1, rfl, f2, by omega, by omega, f4, q6, by omega, f5, f6⟩
      | false =>
        clear hv
        go_wp2_with fail
        refine (l1Lit_any ⟨#[120]⟩ _).mono ?_
        rintro e Wa ⟨rfl, hB⟩
        have CA := hide (CV.out.st.below hB)
        clear hB
        go_wp2_with fail
        refine (l1Op_any 15 _).mono ?_
        rintro e Wb ⟨rfl, hB⟩
        have CB := hide (CA.out.below hB)
        clear hB CA
        have CC := hide (SC.lit CB.out [(1, [120], 0), (15, [], 0)] #[.int .i64 1, .string ⟨#[120]⟩, .int .i64 0, .int .i64 15, .string ⟨#[]⟩, .int .i64 0] rfl 2 rfl (by omega) (by decide))
        have pb := CC.out.st.2.2.1
        have zl := pb.lt
        have d0 := pb.c0
        have d1 := pb.fz 0
        have fin := hide (CC.out.fin (.slice (some ⟨Wb.heap.size, 0, none⟩) 2 2))
        clear pb
        go_wp2
        obtain ⟨f1, f2, f3, f4, f5, f6⟩ := fin.out
        try simp only [Exit.inBlock, Exit.then]
        refine bodyPost_ret (res_prog1 rfl _ _ w.heap.size _ rfl f1) rfl ?_
        exact ⟨[(1, [120], 0), (15, [], 0)], Wb.heap.size, 2, rfl, f2, by simp, by simp, f4, q6, by omega, f5, f6⟩
  · have e0 : ¬ z = 0 := by omega
    have e1 : ¬ z = 1 := by omega
    have e2 : ¬ z = 2 := by omega
    have e3 : ¬ z = 3 := by omega
    have e4 : ¬ z = 4 := by omega
    have e5 : ¬ z = 5 := by omega
    have e6 : ¬ z = 6 := by omega
    have e7 : ¬ z = 7 := by omega
    go_wp2_with fail
    refine (l1Op_any 15 _).mono ?_
    rintro e W4 ⟨rfl, hB⟩
    obtain ⟨q4, hq4⟩ : ∃ q4, q4 = q3 := ⟨_, rfl⟩
    have C4 := hide (C3.out.below hB)
    rw [← hq4] at C4
    clear hB
    have X4 := hide (C4.out.below ((Below.refl W4.heap.size W4).alloc (Nat.le_refl _) (.cells #[.int .i64 15, .string ⟨#[]⟩, .int .i64 0] 41)))
    have ln4 := C4.out.len
    go_wp2_with (at_builtin; refine wp_appI rfl (.tmp 33) (.tmp 35) rfl (w.heap.size + 1) g0 c0 L0 (by simp [Act.eval]) X4.out.ir ⟨W4.heap.size, 0, none⟩ 1 1 [(15, [], 0)] (by simp [Act.eval]) rfl (by simp) (new_cells W4 #[.int .i64 15, .string ⟨#[]⟩, .int .i64 0] _) (by simp only [List.length_cons, List.length_nil]; omega) (by have := C4.out.st.lt; simp; omega) ?_)
    intro g1 c1 W5 hI hG
    obtain ⟨q5, hq5⟩ : ∃ q5, q5 = q4 := ⟨_, rfl⟩
    have C5 := hide (C4.out.app (n' := 135) _ hI hG (by show 134 + 1 ≤ 135; omega) (fun i hi => by rw [List.mem_singleton.1 hi]; exact Nat.zero_le _))
    rw [← hq5] at C5
    clear hI hG X4 ln4
    obtain ⟨L1, hL⟩ : ∃ L1, L1 = L0 ++ [(15, [], 0)] := ⟨_, rfl⟩
    rw [← hL] at C5
    have hn1 : L1.length = L0.length + 1 := by rw [hL, List.length_append]; rfl
    rw [← hn1]
    clear hL hn1
    have ln := C5.out.len
    have ge := C5.out.ir.lt
    go_wp2_with fail
    refine (specValid_row g1 0 L1.length c1 (fI L1) _ (by omega) ge.2 (fun i hi => C5.out.ir.at i (by omega)) (fun i hi => fI_size C5.out.2.2.2 i (by omega))).mono ?_
    rintro e Wv ⟨rfl, hB⟩
    have CV := hide (C5.out.below hB)
    clear hB
    cases hv : valid (fI L1) L1.length with
    | true =>
      have vp := (valid_parts hv).2.1
      clear hv
      have pb := CV.out.st.2.2.1
      have zl := pb.lt
      have d0 := pb.c0
      have d1 := pb.fz 0
      have fin := hide (CV.out.fin (.slice (some ⟨g1, 0, none⟩) L1.length c1))
      clear pb
      go_wp2
      obtain ⟨f1, f2, f3, f4, f5, f6⟩ := fin.out
      try simp only [Exit.inBlock, Exit.then]
      refine bodyPost_ret (res_prog1 rfl _ _ w.heap.size _ rfl f1) rfl ?_
      exact ⟨L1, g1, c1, rfl, f2, by omega, by omega, f4, q5, by omega, f5, f6⟩
    | false =>
      clear hv
      go_wp2_with fail
      refine (l1Lit_any ⟨#[120]⟩ _).mono ?_
      rintro e Wa ⟨rfl, hB⟩
      have CA := hide (CV.out.st.below hB)
      clear hB
      go_wp2_with fail
      refine (l1Op_any 15 _).mono ?_
      rintro e Wb ⟨rfl, hB⟩
      have CB := hide (CA.out.below hB)
      clear hB CA
      have CC := hide (SC.lit CB.out [(1, [120], 0), (15, [], 0)] #[.int .i64 1, .string ⟨#[120]⟩, .int .i64 0, .int .i64 15, .string ⟨#[]⟩, .int .i64 0] rfl 2 rfl (by omega) (by decide))
      have pb := CC.out.st.2.2.1
      have zl := pb.lt
      have d0 := pb.c0
      have d1 := pb.fz 0
      have fin := hide (CC.out.fin (.slice (some ⟨Wb.heap.size, 0, none⟩) 2 2))
      clear pb
      go_wp2
      obtain ⟨f1, f2, f3, f4, f5, f6⟩ := fin.out
      try simp only [Exit.inBlock, Exit.then]
      refine bodyPost_ret (res_prog1 rfl _ _ w.heap.size _ rfl f1) rfl ?_
      exact ⟨[(1, [120], 0), (15, [], 0)], Wb.heap.size, 2, rfl, f2, by simp, by simp, f4, q5, by omega, f5, f6⟩

end Go.Proofs.YtpefignfaooonaaGreatDoor.Vp
