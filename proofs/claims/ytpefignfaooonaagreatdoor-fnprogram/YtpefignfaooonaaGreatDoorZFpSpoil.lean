/-
  FnProgram: l1Spoil. Written by tools/fpspoil.py.
-/
import Derived.Test.YtpefignfaooonaaGreatDoorZFpSp
namespace Go.Proofs.YtpefignfaooonaaGreatDoor.Vp
open Go.RowKit

set_option maxRecDepth 100000 in
set_option maxHeartbeats 4000000 in
theorem l1Spoil_cells (R p g c : Nat) (L : List I3) (w : World) (hR : Rd w R p) (hp : p ≤ 20000) (hgl : g < w.heap.size) (hN : ∀ j u, (i3L L)[j]? = some u → w.cell? ((⟨g, 0, none⟩ : Addr).add j) = some u) (hn : L.length ≤ 200) (hne : L ≠ []) (hT : ∀ i ∈ L, i.2.1.length ≤ 5000) :
    Calls Tryz.prog 26 #[.pointer (some ⟨R, 0, none⟩), .agg #[.slice (some ⟨g, 0, none⟩) L.length c]] w fun e w' => DP w R (p + 1000) 0 201 e w' := by
  have A2 := (((Below.refl w.heap.size w).alloc (Nat.le_refl _) (.cells #[.slice (some ⟨g, 0, none⟩) L.length c] 24)).alloc (by simp) (.cells #[.slice none 0 0] 24)).alloc (by simp; omega) (.cells #[] 41)
  have C0 := hide (spoil_new hR (.slice (some ⟨g, 0, none⟩) L.length c))
  have N0 := hide (fun (j : Nat) (u : Value) (hu : (i3L L)[j]? = some u) => (A2.cell (p := (⟨g, 0, none⟩ : Addr).add j) (by rw [addr_addF]; exact hgl)).trans (hN j u hu))
  have HT := hide hT
  have hl : 0 < L.length := List.length_pos_iff.2 hne
  clear A2 hR hN hT hgl
  go_enter Tryz.func26, Tryz.ntmps26
  go_wp2_with (at_builtin; refine wp_appI rfl (.tmp 7) (.tmp 9) rfl (w.heap.size + 2) (w.heap.size + 2) 0 [] (by simp [Act.eval]) C0.out.ir ⟨g, 0, none⟩ L.length c L (by simp [Act.eval]) rfl hne N0.out (by simp only [List.length_nil]; omega) (by simp) ?_)
  intro g1 c1 W1 hI hG
  have C1 := hide (C0.out.app0 (n' := 200) hI hG (by simp only [List.length_nil]; omega) HT.out)
  rw [List.nil_append] at C1
  clear hI hG C0 N0 HT hne
  go_wp2_with fail
  refine (pick_any R _ (L.length : Int) _ C1.out.st.rd (by omega) (by omega) (by omega)).mono ?_
  rintro e W2 ⟨z, rfl, z0, z1, hR, hO⟩
  obtain ⟨k, rfl⟩ : ∃ k : Nat, z = (k : Int) := ⟨z.toNat, by omega⟩
  have C2 := hide (C1.out.only hO hR)
  have hk : k < L.length := by omega
  have nz : ¬ ((L.length : Int) = 0) := by omega
  clear hO hR C1
  go_wp2_with fail
  refine (pick_any R _ 7 _ C2.out.st.rd (by omega) (by omega) (by omega)).mono ?_
  rintro e W3 ⟨s, rfl, s0, s1, hR, hO⟩
  have C3 := hide (C2.out.only hO hR)
  clear hO hR C2
  rcases (show s = 0 ∨ s = 1 ∨ s = 2 ∨ s = 3 ∨ s = 4 ∨ s = 5 ∨ s = 6 by omega) with rfl | rfl | rfl | rfl | rfl | rfl | rfl
  · go_wp2_with fail
    refine (pick_any R _ 18 _ C3.out.st.rd (by omega) (by omega) (by omega)).mono ?_
    rintro e W4 ⟨y, rfl, y0, y1, hR, hO⟩
    have C4 := hide (C3.out.only hO hR)
    clear hO hR C3
    obtain ⟨x0, x1, x2⟩ := C4.out.ir.at k hk
    rw [Nat.zero_add] at x0 x1 x2
    have fz0 := C4.out.ir.fz (k * 3)
    have fz1 := C4.out.ir.fz (k * 3 + 1)
    have fz2 := C4.out.ir.fz (k * 3 + 2)
    have gl := C4.out.ir.lt.2
    have C5 : Hid (SC w R (w.heap.size + 1) (W4.setCell ⟨g1, k * 3, none⟩ (.int .i64 (y - 1))) _ g1 c1 (L.set k (y - 1, (L.getD k (0, [], 0)).2.1, (L.getD k (0, [], 0)).2.2)) 200) := C4.out.set3 (j := 0) hk (by omega) (y - 1, (L.getD k (0, [], 0)).2.1, (L.getD k (0, [], 0)).2.2) (.int .i64 (y - 1)) rfl (C4.out.text k hk)
    go_upto_region 20 with fail
    generalize W4.setCell ⟨g1, k * 3, none⟩ (.int .i64 (y - 1)) = W5 at C5 ⊢
    obtain ⟨L', hL⟩ : ∃ L', L' = L.set k (y - 1, (L.getD k (0, [], 0)).2.1, (L.getD k (0, [], 0)).2.2) := ⟨_, rfl⟩
    have lq : L'.length = L.length := by rw [hL, List.length_set]
    rw [← hL] at C5
    clear hL x0 x1 x2 fz0 fz1 fz2 gl C4
    have pb := C5.out.st.2.2.1
    have zl := pb.lt
    have d0 := pb.c0
    have d1 := pb.fz 0
    have fin := hide (C5.out.fin (.slice (some ⟨g1, 0, none⟩) L.length c1))
    clear pb
    go_wp2
    obtain ⟨f1, f2, f3, f4, f5, f6⟩ := fin.out
    try simp only [Exit.inBlock, Exit.then]
    refine bodyPost_ret (res_prog1 rfl _ _ (w.heap.size + 1) _ rfl f1) rfl ?_
    exact ⟨L', g1, c1, by rw [lq], f2, by omega, by omega, f4, _, by omega, f5, f6⟩
  · obtain ⟨x0, x1, x2⟩ := C3.out.ir.at k hk
    rw [Nat.zero_add] at x0 x1 x2
    have fz0 := C3.out.ir.fz (k * 3)
    have fz1 := C3.out.ir.fz (k * 3 + 1)
    have fz2 := C3.out.ir.fz (k * 3 + 2)
    have gl := C3.out.ir.lt.2
    have C4 : Hid (SC w R (w.heap.size + 1) (W3.setCell ⟨g1, k * 3 + 2, none⟩ (.int .i64 (wrap64 ((fI L k).n + 1)))) _ g1 c1 (L.set k ((L.getD k (0, [], 0)).1, (L.getD k (0, [], 0)).2.1, (wrap64 ((fI L k).n + 1)))) 200) := C3.out.set3 (j := 2) hk (by omega) ((L.getD k (0, [], 0)).1, (L.getD k (0, [], 0)).2.1, (wrap64 ((fI L k).n + 1))) (.int .i64 (wrap64 ((fI L k).n + 1))) rfl (C3.out.text k hk)
    go_upto_region 20 with fail
    generalize W3.setCell ⟨g1, k * 3 + 2, none⟩ (.int .i64 (wrap64 ((fI L k).n + 1))) = W4 at C4 ⊢
    obtain ⟨L', hL⟩ : ∃ L', L' = L.set k ((L.getD k (0, [], 0)).1, (L.getD k (0, [], 0)).2.1, (wrap64 ((fI L k).n + 1))) := ⟨_, rfl⟩
    have lq : L'.length = L.length := by rw [hL, List.length_set]
    rw [← hL] at C4
    clear hL x0 x1 x2 fz0 fz1 fz2 gl C3
    have pb := C4.out.st.2.2.1
    have zl := pb.lt
    have d0 := pb.c0
    have d1 := pb.fz 0
    have fin := hide (C4.out.fin (.slice (some ⟨g1, 0, none⟩) L.length c1))
    clear pb
    go_wp2
    obtain ⟨f1, f2, f3, f4, f5, f6⟩ := fin.out
    try simp only [Exit.inBlock, Exit.then]
    refine bodyPost_ret (res_prog1 rfl _ _ (w.heap.size + 1) _ rfl f1) rfl ?_
    exact ⟨L', g1, c1, by rw [lq], f2, by omega, by omega, f4, _, by omega, f5, f6⟩
  · have C3' := hide (C3.out.below ((Below.refl W3.heap.size W3).alloc (Nat.le_refl _) (.cells #[.int .i64 (-1), .int .i64 2000, .int .i64 2001, .int .i64 200, .int .i64 201, .int .i64 1000000007] 3)))
    have sz3 := C3'.out.st.lt
    have v0 : ∀ j u, (#[.int .i64 (-1), .int .i64 2000, .int .i64 2001, .int .i64 200, .int .i64 201, .int .i64 1000000007] : Array Value)[j]? = some u → (W3.alloc (.cells #[.int .i64 (-1), .int .i64 2000, .int .i64 2001, .int .i64 200, .int .i64 201, .int .i64 1000000007] 3)).cell? ⟨W3.heap.size, j, none⟩ = some u := fun j u hu => box1 W3 _ _ _ j u rfl hu
    have rl := C3.out.st.rd.lt
    have V0 := hide v0
    clear v0
    go_wp2_with fail
    refine (pick_any R _ 6 _ C3'.out.st.rd (by omega) (by omega) (by omega)).mono ?_
    rintro e W4 ⟨y, rfl, y0, y1, hR, hO⟩
    have C4 := hide (C3'.out.only hO hR)
    have hv : ∀ j u, (#[.int .i64 (-1), .int .i64 2000, .int .i64 2001, .int .i64 200, .int .i64 201, .int .i64 1000000007] : Array Value)[j]? = some u → W4.cell? ⟨W3.heap.size, j, none⟩ = some u := fun j u hu => (hO.cell W3.heap.size j (by simp) (by omega)).trans (V0.out j u hu)
    have sz4 : W3.heap.size < W4.heap.size := by have := hO.size; simp at this; omega
    clear hO hR C3 C3' V0
    rcases (show y = 0 ∨ y = 1 ∨ y = 2 ∨ y = 3 ∨ y = 4 ∨ y = 5 by omega) with rfl | rfl | rfl | rfl | rfl | rfl
    · have cv := hv 0 (.int .i64 (-1)) rfl
      clear hv
      obtain ⟨x0, x1, x2⟩ := C4.out.ir.at k hk
      rw [Nat.zero_add] at x0 x1 x2
      have fz0 := C4.out.ir.fz (k * 3)
      have fz1 := C4.out.ir.fz (k * 3 + 1)
      have fz2 := C4.out.ir.fz (k * 3 + 2)
      have gl := C4.out.ir.lt.2
      have C5 : Hid (SC w R (w.heap.size + 1) (W4.setCell ⟨g1, k * 3 + 2, none⟩ (.int .i64 (-1))) _ g1 c1 (L.set k ((L.getD k (0, [], 0)).1, (L.getD k (0, [], 0)).2.1, (-1))) 200) := C4.out.set3 (j := 2) hk (by omega) ((L.getD k (0, [], 0)).1, (L.getD k (0, [], 0)).2.1, (-1)) (.int .i64 (-1)) rfl (C4.out.text k hk)
      go_upto_region 20 with fail
      generalize W4.setCell ⟨g1, k * 3 + 2, none⟩ (.int .i64 (-1)) = W5 at C5 ⊢
      obtain ⟨L', hL⟩ : ∃ L', L' = L.set k ((L.getD k (0, [], 0)).1, (L.getD k (0, [], 0)).2.1, (-1)) := ⟨_, rfl⟩
      have lq : L'.length = L.length := by rw [hL, List.length_set]
      rw [← hL] at C5
      clear hL x0 x1 x2 fz0 fz1 fz2 gl C4
      have pb := C5.out.st.2.2.1
      have zl := pb.lt
      have d0 := pb.c0
      have d1 := pb.fz 0
      have fin := hide (C5.out.fin (.slice (some ⟨g1, 0, none⟩) L.length c1))
      clear pb
      go_wp2
      obtain ⟨f1, f2, f3, f4, f5, f6⟩ := fin.out
      try simp only [Exit.inBlock, Exit.then]
      refine bodyPost_ret (res_prog1 rfl _ _ (w.heap.size + 1) _ rfl f1) rfl ?_
      exact ⟨L', g1, c1, by rw [lq], f2, by omega, by omega, f4, _, by omega, f5, f6⟩
    · have cv := hv 1 (.int .i64 2000) rfl
      clear hv
      obtain ⟨x0, x1, x2⟩ := C4.out.ir.at k hk
      rw [Nat.zero_add] at x0 x1 x2
      have fz0 := C4.out.ir.fz (k * 3)
      have fz1 := C4.out.ir.fz (k * 3 + 1)
      have fz2 := C4.out.ir.fz (k * 3 + 2)
      have gl := C4.out.ir.lt.2
      have C5 : Hid (SC w R (w.heap.size + 1) (W4.setCell ⟨g1, k * 3 + 2, none⟩ (.int .i64 2000)) _ g1 c1 (L.set k ((L.getD k (0, [], 0)).1, (L.getD k (0, [], 0)).2.1, 2000)) 200) := C4.out.set3 (j := 2) hk (by omega) ((L.getD k (0, [], 0)).1, (L.getD k (0, [], 0)).2.1, 2000) (.int .i64 2000) rfl (C4.out.text k hk)
      go_upto_region 20 with fail
      generalize W4.setCell ⟨g1, k * 3 + 2, none⟩ (.int .i64 2000) = W5 at C5 ⊢
      obtain ⟨L', hL⟩ : ∃ L', L' = L.set k ((L.getD k (0, [], 0)).1, (L.getD k (0, [], 0)).2.1, 2000) := ⟨_, rfl⟩
      have lq : L'.length = L.length := by rw [hL, List.length_set]
      rw [← hL] at C5
      clear hL x0 x1 x2 fz0 fz1 fz2 gl C4
      have pb := C5.out.st.2.2.1
      have zl := pb.lt
      have d0 := pb.c0
      have d1 := pb.fz 0
      have fin := hide (C5.out.fin (.slice (some ⟨g1, 0, none⟩) L.length c1))
      clear pb
      go_wp2
      obtain ⟨f1, f2, f3, f4, f5, f6⟩ := fin.out
      try simp only [Exit.inBlock, Exit.then]
      refine bodyPost_ret (res_prog1 rfl _ _ (w.heap.size + 1) _ rfl f1) rfl ?_
      exact ⟨L', g1, c1, by rw [lq], f2, by omega, by omega, f4, _, by omega, f5, f6⟩
    · have cv := hv 2 (.int .i64 2001) rfl
      clear hv
      obtain ⟨x0, x1, x2⟩ := C4.out.ir.at k hk
      rw [Nat.zero_add] at x0 x1 x2
      have fz0 := C4.out.ir.fz (k * 3)
      have fz1 := C4.out.ir.fz (k * 3 + 1)
      have fz2 := C4.out.ir.fz (k * 3 + 2)
      have gl := C4.out.ir.lt.2
      have C5 : Hid (SC w R (w.heap.size + 1) (W4.setCell ⟨g1, k * 3 + 2, none⟩ (.int .i64 2001)) _ g1 c1 (L.set k ((L.getD k (0, [], 0)).1, (L.getD k (0, [], 0)).2.1, 2001)) 200) := C4.out.set3 (j := 2) hk (by omega) ((L.getD k (0, [], 0)).1, (L.getD k (0, [], 0)).2.1, 2001) (.int .i64 2001) rfl (C4.out.text k hk)
      go_upto_region 20 with fail
      generalize W4.setCell ⟨g1, k * 3 + 2, none⟩ (.int .i64 2001) = W5 at C5 ⊢
      obtain ⟨L', hL⟩ : ∃ L', L' = L.set k ((L.getD k (0, [], 0)).1, (L.getD k (0, [], 0)).2.1, 2001) := ⟨_, rfl⟩
      have lq : L'.length = L.length := by rw [hL, List.length_set]
      rw [← hL] at C5
      clear hL x0 x1 x2 fz0 fz1 fz2 gl C4
      have pb := C5.out.st.2.2.1
      have zl := pb.lt
      have d0 := pb.c0
      have d1 := pb.fz 0
      have fin := hide (C5.out.fin (.slice (some ⟨g1, 0, none⟩) L.length c1))
      clear pb
      go_wp2
      obtain ⟨f1, f2, f3, f4, f5, f6⟩ := fin.out
      try simp only [Exit.inBlock, Exit.then]
      refine bodyPost_ret (res_prog1 rfl _ _ (w.heap.size + 1) _ rfl f1) rfl ?_
      exact ⟨L', g1, c1, by rw [lq], f2, by omega, by omega, f4, _, by omega, f5, f6⟩
    · have cv := hv 3 (.int .i64 200) rfl
      clear hv
      obtain ⟨x0, x1, x2⟩ := C4.out.ir.at k hk
      rw [Nat.zero_add] at x0 x1 x2
      have fz0 := C4.out.ir.fz (k * 3)
      have fz1 := C4.out.ir.fz (k * 3 + 1)
      have fz2 := C4.out.ir.fz (k * 3 + 2)
      have gl := C4.out.ir.lt.2
      have C5 : Hid (SC w R (w.heap.size + 1) (W4.setCell ⟨g1, k * 3 + 2, none⟩ (.int .i64 200)) _ g1 c1 (L.set k ((L.getD k (0, [], 0)).1, (L.getD k (0, [], 0)).2.1, 200)) 200) := C4.out.set3 (j := 2) hk (by omega) ((L.getD k (0, [], 0)).1, (L.getD k (0, [], 0)).2.1, 200) (.int .i64 200) rfl (C4.out.text k hk)
      go_upto_region 20 with fail
      generalize W4.setCell ⟨g1, k * 3 + 2, none⟩ (.int .i64 200) = W5 at C5 ⊢
      obtain ⟨L', hL⟩ : ∃ L', L' = L.set k ((L.getD k (0, [], 0)).1, (L.getD k (0, [], 0)).2.1, 200) := ⟨_, rfl⟩
      have lq : L'.length = L.length := by rw [hL, List.length_set]
      rw [← hL] at C5
      clear hL x0 x1 x2 fz0 fz1 fz2 gl C4
      have pb := C5.out.st.2.2.1
      have zl := pb.lt
      have d0 := pb.c0
      have d1 := pb.fz 0
      have fin := hide (C5.out.fin (.slice (some ⟨g1, 0, none⟩) L.length c1))
      clear pb
      go_wp2
      obtain ⟨f1, f2, f3, f4, f5, f6⟩ := fin.out
      try simp only [Exit.inBlock, Exit.then]
      refine bodyPost_ret (res_prog1 rfl _ _ (w.heap.size + 1) _ rfl f1) rfl ?_
      exact ⟨L', g1, c1, by rw [lq], f2, by omega, by omega, f4, _, by omega, f5, f6⟩
    · have cv := hv 4 (.int .i64 201) rfl
      clear hv
      obtain ⟨x0, x1, x2⟩ := C4.out.ir.at k hk
      rw [Nat.zero_add] at x0 x1 x2
      have fz0 := C4.out.ir.fz (k * 3)
      have fz1 := C4.out.ir.fz (k * 3 + 1)
      have fz2 := C4.out.ir.fz (k * 3 + 2)
      have gl := C4.out.ir.lt.2
      have C5 : Hid (SC w R (w.heap.size + 1) (W4.setCell ⟨g1, k * 3 + 2, none⟩ (.int .i64 201)) _ g1 c1 (L.set k ((L.getD k (0, [], 0)).1, (L.getD k (0, [], 0)).2.1, 201)) 200) := C4.out.set3 (j := 2) hk (by omega) ((L.getD k (0, [], 0)).1, (L.getD k (0, [], 0)).2.1, 201) (.int .i64 201) rfl (C4.out.text k hk)
      go_upto_region 20 with fail
      generalize W4.setCell ⟨g1, k * 3 + 2, none⟩ (.int .i64 201) = W5 at C5 ⊢
      obtain ⟨L', hL⟩ : ∃ L', L' = L.set k ((L.getD k (0, [], 0)).1, (L.getD k (0, [], 0)).2.1, 201) := ⟨_, rfl⟩
      have lq : L'.length = L.length := by rw [hL, List.length_set]
      rw [← hL] at C5
      clear hL x0 x1 x2 fz0 fz1 fz2 gl C4
      have pb := C5.out.st.2.2.1
      have zl := pb.lt
      have d0 := pb.c0
      have d1 := pb.fz 0
      have fin := hide (C5.out.fin (.slice (some ⟨g1, 0, none⟩) L.length c1))
      clear pb
      go_wp2
      obtain ⟨f1, f2, f3, f4, f5, f6⟩ := fin.out
      try simp only [Exit.inBlock, Exit.then]
      refine bodyPost_ret (res_prog1 rfl _ _ (w.heap.size + 1) _ rfl f1) rfl ?_
      exact ⟨L', g1, c1, by rw [lq], f2, by omega, by omega, f4, _, by omega, f5, f6⟩
    · have cv := hv 5 (.int .i64 1000000007) rfl
      clear hv
      obtain ⟨x0, x1, x2⟩ := C4.out.ir.at k hk
      rw [Nat.zero_add] at x0 x1 x2
      have fz0 := C4.out.ir.fz (k * 3)
      have fz1 := C4.out.ir.fz (k * 3 + 1)
      have fz2 := C4.out.ir.fz (k * 3 + 2)
      have gl := C4.out.ir.lt.2
      have C5 : Hid (SC w R (w.heap.size + 1) (W4.setCell ⟨g1, k * 3 + 2, none⟩ (.int .i64 1000000007)) _ g1 c1 (L.set k ((L.getD k (0, [], 0)).1, (L.getD k (0, [], 0)).2.1, 1000000007)) 200) := C4.out.set3 (j := 2) hk (by omega) ((L.getD k (0, [], 0)).1, (L.getD k (0, [], 0)).2.1, 1000000007) (.int .i64 1000000007) rfl (C4.out.text k hk)
      go_upto_region 20 with fail
      generalize W4.setCell ⟨g1, k * 3 + 2, none⟩ (.int .i64 1000000007) = W5 at C5 ⊢
      obtain ⟨L', hL⟩ : ∃ L', L' = L.set k ((L.getD k (0, [], 0)).1, (L.getD k (0, [], 0)).2.1, 1000000007) := ⟨_, rfl⟩
      have lq : L'.length = L.length := by rw [hL, List.length_set]
      rw [← hL] at C5
      clear hL x0 x1 x2 fz0 fz1 fz2 gl C4
      have pb := C5.out.st.2.2.1
      have zl := pb.lt
      have d0 := pb.c0
      have d1 := pb.fz 0
      have fin := hide (C5.out.fin (.slice (some ⟨g1, 0, none⟩) L.length c1))
      clear pb
      go_wp2
      obtain ⟨f1, f2, f3, f4, f5, f6⟩ := fin.out
      try simp only [Exit.inBlock, Exit.then]
      refine bodyPost_ret (res_prog1 rfl _ _ (w.heap.size + 1) _ rfl f1) rfl ?_
      exact ⟨L', g1, c1, by rw [lq], f2, by omega, by omega, f4, _, by omega, f5, f6⟩
  · go_wp2_with fail
    refine (pick_any R _ 2 _ C3.out.st.rd (by omega) (by omega) (by omega)).mono ?_
    rintro e W4 ⟨y, rfl, y0, y1, hR, hO⟩
    have C4 := hide (C3.out.only hO hR)
    clear hO hR C3
    go_wp2_with fail
    obtain ⟨m0, hm0⟩ : ∃ m0 : Nat, 2000 + y = (m0 : Int) := ⟨(2000 + y).toNat, by omega⟩
    rw [hm0]
    refine (l1Many_any ⟨#[116]⟩ m0 _ (by show 1 * m0 ≤ 4000; omega) (by omega)).mono ?_
    rintro e Wm ⟨t, rfl, ht, hw⟩
    rw [hw]
    have h5 : t.data.toList.length ≤ 5000 := by
      rw [Array.length_toList]
      exact Nat.le_trans ht (by show 1 * m0 ≤ 5000; omega)
    clear ht hm0 hw
    obtain ⟨x0, x1, x2⟩ := C4.out.ir.at k hk
    rw [Nat.zero_add] at x0 x1 x2
    have fz0 := C4.out.ir.fz (k * 3)
    have fz1 := C4.out.ir.fz (k * 3 + 1)
    have fz2 := C4.out.ir.fz (k * 3 + 2)
    have gl := C4.out.ir.lt.2
    have C5 : Hid (SC w R (w.heap.size + 1) (W4.setCell ⟨g1, k * 3 + 1, none⟩ (.string t)) _ g1 c1 (L.set k ((L.getD k (0, [], 0)).1, t.data.toList, (L.getD k (0, [], 0)).2.2)) 200) := C4.out.set3 (j := 1) hk (by omega) ((L.getD k (0, [], 0)).1, t.data.toList, (L.getD k (0, [], 0)).2.2) (.string t) rfl h5
    go_upto_region 20 with fail
    generalize W4.setCell ⟨g1, k * 3 + 1, none⟩ (.string t) = W5 at C5 ⊢
    obtain ⟨L', hL⟩ : ∃ L', L' = L.set k ((L.getD k (0, [], 0)).1, t.data.toList, (L.getD k (0, [], 0)).2.2) := ⟨_, rfl⟩
    have lq : L'.length = L.length := by rw [hL, List.length_set]
    rw [← hL] at C5
    clear hL x0 x1 x2 fz0 fz1 fz2 gl C4
    have pb := C5.out.st.2.2.1
    have zl := pb.lt
    have d0 := pb.c0
    have d1 := pb.fz 0
    have fin := hide (C5.out.fin (.slice (some ⟨g1, 0, none⟩) L.length c1))
    clear pb
    go_wp2
    obtain ⟨f1, f2, f3, f4, f5, f6⟩ := fin.out
    try simp only [Exit.inBlock, Exit.then]
    refine bodyPost_ret (res_prog1 rfl _ _ (w.heap.size + 1) _ rfl f1) rfl ?_
    exact ⟨L', g1, c1, by rw [lq], f2, by omega, by omega, f4, _, by omega, f5, f6⟩
  · have hc1 : L.length ≤ c1 := by
      rcases C3.out.ir.2 with ⟨hv, _⟩ | ⟨_, _, _, hv, _, _, h1, _⟩
      · simp at hv
      · simp only [Value.slice.injEq] at hv
        omega
    have C4 := hide (C3.out.take k (by omega))
    obtain ⟨L', hL⟩ : ∃ L', L' = L.take k := ⟨_, rfl⟩
    have lq : L'.length = k := by rw [hL, List.length_take]; omega
    rw [← hL] at C4
    clear hL C3
    have pb := C4.out.st.2.2.1
    have zl := pb.lt
    have d0 := pb.c0
    have d1 := pb.fz 0
    have fin := hide (C4.out.fin (.slice (some ⟨g1, 0, none⟩) k c1))
    clear pb
    go_wp2
    obtain ⟨f1, f2, f3, f4, f5, f6⟩ := fin.out
    try simp only [Exit.inBlock, Exit.then]
    refine bodyPost_ret (res_prog1 rfl _ _ (w.heap.size + 1) _ rfl f1) rfl ?_
    exact ⟨L', g1, c1, by rw [lq], f2, by omega, by omega, f4, _, by omega, f5, f6⟩
  · have bd := C3.out.len
    go_wp2
    go_loopw [5] (fun v wr => ∃ (g2 c2 q2 : Nat) (M : List I3), v = .slice (some ⟨g2, 0, none⟩) M.length c2 ∧ SC w R (w.heap.size + 1) wr q2 g2 c2 M 201 ∧ q2 ≤ p + 10 + M.length) (fun v _ => 202 - (match v with | .slice _ n _ => n | _ => 0))
    case atStart => exact ⟨g1, c1, _, L, rfl, C3.out.mono (by omega), by omega⟩
    case round =>
      obtain ⟨g2, c2, q2, M, rfl, hC, hq⟩ := hrel
      have CC := hide hC
      have ln := hC.len
      clear hC C3
      go_wp2_with fail
      refine (pick_any R _ 2 _ CC.out.st.rd (by omega) (by omega) (by omega)).mono ?_
      rintro e W4 ⟨y, rfl, y0, y1, hR, hO⟩
      have C4 := hide (CC.out.only hO hR)
      clear hO hR CC
      by_cases hlt : (M.length : Int) < 200 + y
      · go_wp2_with fail
        refine (l1Op_any 9 _).mono ?_
        rintro e W5 ⟨rfl, hB⟩
        have C5 := hide (C4.out.below hB)
        clear hB C4
        have X5 := hide (C5.out.below ((Below.refl W5.heap.size W5).alloc (Nat.le_refl _) (.cells #[.int .i64 9, .string ⟨#[]⟩, .int .i64 0] 41)))
        have zl := C5.out.st.lt
        go_wp2_with (at_builtin; refine wp_appI rfl (.tmp 81) (.tmp 83) rfl (w.heap.size + 2) g2 c2 M (by simp [Act.eval]) X5.out.ir ⟨W5.heap.size, 0, none⟩ 1 1 [(9, [], 0)] (by simp [Act.eval]) rfl (by simp) (new_cells W5 #[.int .i64 9, .string ⟨#[]⟩, .int .i64 0] _) (by simp only [List.length_cons, List.length_nil]; omega) (by simp; omega) ?_)
        intro g3 c3 W6 hI hG
        have C6 := hide (X5.out.app0 (n' := 201) hI hG (by show M.length + 1 ≤ 201; omega) (fun i hi => by rw [List.mem_singleton.1 hi]; exact Nat.zero_le _))
        clear hI hG X5 C5
        go_wp2
        exact ⟨⟨g3, c3, _, M ++ [(9, [], 0)], by simp, C6.out, by simp only [List.length_append, List.length_cons, List.length_nil]; omega⟩, by simp; omega⟩
      · obtain ⟨L', hL⟩ : ∃ L', L' = M := ⟨_, rfl⟩
        have lq : L'.length = M.length := by rw [hL]
        rw [← hL] at C4
        clear hL
        have pb := C4.out.st.2.2.1
        have zl := pb.lt
        have d0 := pb.c0
        have d1 := pb.fz 0
        have fin := hide (C4.out.fin (.slice (some ⟨g2, 0, none⟩) M.length c2))
        clear pb
        go_wp2
        obtain ⟨f1, f2, f3, f4, f5, f6⟩ := fin.out
        try simp only [Exit.inBlock, Exit.then]
        refine bodyPost_ret (res_prog1 rfl _ _ (w.heap.size + 1) _ rfl f1) rfl ?_
        exact ⟨L', g2, c2, by rw [lq], f2, by omega, by omega, f4, _, by omega, f5, f6⟩
  · obtain ⟨x0, x1, x2⟩ := C3.out.ir.at k hk
    rw [Nat.zero_add] at x0 x1 x2
    have fz0 := C3.out.ir.fz (k * 3)
    have fz1 := C3.out.ir.fz (k * 3 + 1)
    have fz2 := C3.out.ir.fz (k * 3 + 2)
    have gl := C3.out.ir.lt.2
    have C4 : Hid (SC w R (w.heap.size + 1) (W3.setCell ⟨g1, k * 3 + 1, none⟩ (.string ⟨#[121]⟩)) _ g1 c1 (L.set k ((L.getD k (0, [], 0)).1, [121], (L.getD k (0, [], 0)).2.2)) 200) := C3.out.set3 (j := 1) hk (by omega) ((L.getD k (0, [], 0)).1, [121], (L.getD k (0, [], 0)).2.2) (.string ⟨#[121]⟩) rfl (by simp)
    go_upto_region 20 with fail
    generalize W3.setCell ⟨g1, k * 3 + 1, none⟩ (.string ⟨#[121]⟩) = W4 at C4 ⊢
    obtain ⟨L', hL⟩ : ∃ L', L' = L.set k ((L.getD k (0, [], 0)).1, [121], (L.getD k (0, [], 0)).2.2) := ⟨_, rfl⟩
    have lq : L'.length = L.length := by rw [hL, List.length_set]
    rw [← hL] at C4
    clear hL x0 x1 x2 fz0 fz1 fz2 gl C3
    have pb := C4.out.st.2.2.1
    have zl := pb.lt
    have d0 := pb.c0
    have d1 := pb.fz 0
    have fin := hide (C4.out.fin (.slice (some ⟨g1, 0, none⟩) L.length c1))
    clear pb
    go_wp2
    obtain ⟨f1, f2, f3, f4, f5, f6⟩ := fin.out
    try simp only [Exit.inBlock, Exit.then]
    refine bodyPost_ret (res_prog1 rfl _ _ (w.heap.size + 1) _ rfl f1) rfl ?_
    exact ⟨L', g1, c1, by rw [lq], f2, by omega, by omega, f4, _, by omega, f5, f6⟩
theorem l1Spoil_any (R p g c : Nat) (L : List I3) (w : World) (base : Nat) (hR : Rd w R p) (hp : p ≤ 20000) (hI : IR w base g c L) (hn : L.length ≤ 200) (hne : L ≠ []) (hT : ∀ i ∈ L, i.2.1.length ≤ 5000) :
    Calls Tryz.prog 26 #[.pointer (some ⟨R, 0, none⟩), .agg #[.slice (some ⟨g, 0, none⟩) L.length c]] w fun e w' => DP w R (p + 1000) 0 201 e w' :=
  l1Spoil_cells R p g c L w hR hp hI.lt.2 hI.news hn hne hT

end Go.Proofs.YtpefignfaooonaaGreatDoor.Vp
