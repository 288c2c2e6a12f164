/-
  FnResults: the law.
-/
import Derived.Test.YtolpgafkojlkoaaDoorRsRead
namespace Go.Proofs.YtolpgafkojlkoaaDoor.Vp
open Go.RowKit

set_option maxHeartbeats 1000000 in
theorem wList_nil (a b : Option Addr) (c d : Nat) (w : World) : Calls Tryd.prog 39 #[.slice a 0 c, .slice b 0 d] w fun e w' => e = .returned (.bool true) ∧ w' = w := by
  go_enter Tryd.func39, Tryd.ntmps39
  go_wp2
  go_loop [5] (fun i => i = .int .i64 0) (fun _ => 0)
  case atStart => rfl
  case round =>
    subst hrel
    go_wp2
    go_ret
    exact ⟨rfl, rfl⟩
set_option maxHeartbeats 1000000 in
theorem wResult_same (c : Int) (t : ByteArray) (b : Option Addr) (d : Nat) (w : World) : Calls Tryd.prog 15 #[.agg #[.int .i64 c, .string t, .slice none 0 0], .agg #[.int .i64 c, .string t, .slice b 0 d]] w fun e w' => e = .returned (.bool true) ∧ Below w.heap.size w w' := by
  have A0 := hide (((Below.refl w.heap.size w).alloc (Nat.le_refl _) (.cells #[.int .i64 c, .string t, .slice none 0 0] 27)).alloc (by simp) (.cells #[.int .i64 c, .string t, .slice b 0 d] 27))
  go_enter Tryd.func15, Tryd.ntmps15
  go_wp2_with fail
  refine (wList_nil _ _ _ _ _).mono ?_
  rintro e w1 ⟨rfl, rfl⟩
  go_wp2
  go_ret
  exact ⟨rfl, A0.out⟩

set_option maxRecDepth 100000 in
set_option maxHeartbeats 8000000 in
theorem law_results (a : Option Addr) (n cap : Nat) (w : World) (hn : (n : Int) ≤ 9223372036854775807) (hc : n ≤ cap) (hS : ByteSl w a n) (hP : Pow w) :
    Calls Tryd.prog 4 #[.slice a n cap] w fun e w' => e = .returned (.bool true) ∧ Below w.heap.size w w' := by
  have HS := hide hS
  have HP := hide hP
  clear hS hP
  go_enter Tryd.func4, Tryd.ntmps4
  by_cases hbig : (1048576 : Int) < n
  · go_wp2
    go_ret
    exact ⟨rfl, Below.refl _ _⟩
  have hn' : (n : Int) ≤ 1048576 := by omega
  clear hn hbig
  go_wp2_with fail
  refine (drawForm_any a n cap _ hn' hc HS.out).mono ?_
  rintro e w1 ⟨c, t, b, k, d, rfl, hB1⟩
  have A1 := hide ((Below.refl w1.heap.size w1).alloc (Nat.le_refl _) (.cells #[.int .i64 c, .string t, .slice b k d] 27))
  have X1 := hide (three_new w1 (.int .i64 c) (.string t) (.slice b k d) 27)
  have B1 := hide (hB1.trans (A1.out.mono hB1.size))
  clear hB1
  obtain ⟨S, hSf⟩ : ∃ S, S = formT c t k := ⟨_, rfl⟩
  have HF := hide hSf
  clear hSf
  go_wp2_with fail
  generalize w1.alloc (.cells #[.int .i64 c, .string t, .slice b k d] 27) = W1 at A1 X1 B1 ⊢
  generalize w1.heap.size = xb at X1 ⊢
  refine (implForm_any c t b k d _ (HP.out.below B1.out (Nat.le_refl _))).mono ?_
  rintro e w2 ⟨rfl, hB2⟩
  rw [← HF.out]
  have X2 := hide (X1.out.below hB2 X1.out.1)
  have B2 := hide (B1.out.trans (hB2.mono B1.out.size))
  clear hB2 X1 A1 B1
  obtain ⟨xl, ⟨x0, _⟩, ⟨x1, _⟩, ⟨x2, _⟩⟩ := X2.out
  go_wp2_with fail
  refine (specForm_any c t b k d _).mono ?_
  rintro e w3 ⟨rfl, hB3⟩
  rw [← HF.out]
  have X3 := hide (X2.out.below hB3 xl)
  have B3 := hide (B2.out.trans (hB3.mono B2.out.size))
  clear hB3 X2 B2 x0 x1 x2 xl
  go_wp2_with fail
  refine (implRead_any S _).mono ?_
  rintro e w4 ⟨rfl, hB4⟩
  have X4 := hide (X3.out.below hB4 X3.out.1)
  have B4 := hide (B3.out.trans (hB4.mono B3.out.size))
  clear hB4 X3 B3
  by_cases hok : 0 ≤ c ∧ c ≤ 5 ∧ t.size ≤ 2000 ∧ k = 0
  · obtain ⟨h0, h1, h2, rfl⟩ := hok
    obtain ⟨f1, f2, f3⟩ := read_form h0 h1 h2
    have hne : (formT c t 0).toList.isEmpty = false := by rw [List.isEmpty_eq_false_iff]; exact toList_ne (form_ne h0 h1 h2)
    rw [← HF.out] at f1 f2 f3 hne
    rw [readV_yes f1, f2, f3]
    clear f1 f2 f3 h0 h1 h2 HF
    have A5 := hide ((Below.refl w4.heap.size w4).alloc (Nat.le_refl _) (.cells #[.int .i64 c, .string t, .slice none 0 0] 27))
    have X5 := hide (X4.out.al (.cells #[.int .i64 c, .string t, .slice none 0 0] 27))
    have B5 := hide (B4.out.trans (A5.out.mono B4.out.size))
    obtain ⟨xl, ⟨x0, _⟩, ⟨x1, _⟩, ⟨x2, _⟩⟩ := X5.out
    go_wp2_with fail
    refine (wResult_same c t b d _).mono ?_
    rintro e w6 ⟨rfl, hB6⟩
    have B6 := hide (B5.out.trans (hB6.mono B5.out.size))
    clear hB6 X4 X5 B4 B5 A5 x0 x1 x2 xl
    go_wp2_with fail
    refine (drawRead_any a n cap _ hn' hc (HS.out.below B6.out (Nat.le_refl _))).mono ?_
    rintro e v1 ⟨T, rfl, hT, hC1⟩
    have C1 := hide (B6.out.trans (hC1.mono B6.out.size))
    clear hC1
    go_wp2_with fail
    refine (implRead_any T _).mono ?_
    rintro e v2 ⟨rfl, hC2⟩
    have C2 := hide (C1.out.trans (hC2.mono C1.out.size))
    clear hC2
    cases hr : readOk T with
    | true =>
      have FR := hide (form_read hr)
      have RV := hide (readV_yes hr)
      rw [readV_yes hr]
      clear hr
      generalize readC T = rc at FR RV ⊢
      generalize T.extract 2 T.size = rt at FR RV ⊢
      have A2 := hide ((Below.refl v2.heap.size v2).alloc (Nat.le_refl _) (.cells #[.int .i64 rc, .string rt, .slice none 0 0] 27))
      have Y2 := hide (three_new v2 (.int .i64 rc) (.string rt) (.slice none 0 0) 27)
      have C2' := hide (C2.out.trans (A2.out.mono C2.out.size))
      go_wp2_with fail
      generalize v2.alloc (.cells #[.int .i64 rc, .string rt, .slice none 0 0] 27) = V2 at A2 Y2 C2' ⊢
      generalize v2.heap.size = yb at Y2 ⊢
      refine (specRead_any T _ (by omega)).mono ?_
      rintro e v3 ⟨rfl, hC3⟩
      rw [RV.out]
      have Y3 := hide (Y2.out.below hC3 Y2.out.1)
      have C3 := hide (C2'.out.trans (hC3.mono C2'.out.size))
      have A3 := hide ((Below.refl v3.heap.size v3).alloc (Nat.le_refl _) (.cells #[.int .i64 rc, .string rt, .slice none 0 0] 27))
      have Y4 := hide (Y3.out.al (.cells #[.int .i64 rc, .string rt, .slice none 0 0] 27))
      have C4 := hide (C3.out.trans (A3.out.mono C3.out.size))
      clear hC3 A2 Y2 C2'
      obtain ⟨yl, ⟨y0, _⟩, ⟨y1, _⟩, ⟨y2, _⟩⟩ := Y4.out
      go_wp2_with fail
      refine (implForm_any rc rt none 0 0 _ (HP.out.below C4.out (Nat.le_refl _))).mono ?_
      rintro e v4 ⟨rfl, hC5⟩
      rw [FR.out]
      have C5 := hide (C4.out.trans (hC5.mono C4.out.size))
      clear hC5 y0 y1 y2
      go_wp2
      go_ret
      exact ⟨rfl, C5.out⟩
    | false =>
      have RV := hide (readV_no hr)
      rw [readV_no hr]
      clear hr
      have A2 := hide ((Below.refl v2.heap.size v2).alloc (Nat.le_refl _) (.cells #[.int .i64 0, .string ⟨#[]⟩, .slice none 0 0] 27))
      have C2' := hide (C2.out.trans (A2.out.mono C2.out.size))
      go_wp2_with fail
      generalize v2.alloc (.cells #[.int .i64 0, .string ⟨#[]⟩, .slice none 0 0] 27) = V2 at A2 C2' ⊢
      refine (specRead_any T _ (by omega)).mono ?_
      rintro e v3 ⟨rfl, hC3⟩
      rw [RV.out]
      have C3 := hide (C2'.out.trans (hC3.mono C2'.out.size))
      have C4 := hide (C3.out.alloc C3.out.size (.cells #[.int .i64 0, .string ⟨#[]⟩, .slice none 0 0] 27))
      clear hC3
      go_wp2
      go_ret
      exact ⟨rfl, C4.out⟩
  · have he : S = ⟨#[]⟩ := HF.out.trans (form_no hok)
    subst he
    rw [readV_no read_empty]
    clear hok HF X4
    have B6 := hide (B4.out.alloc B4.out.size (.cells #[.int .i64 0, .string ⟨#[]⟩, .slice none 0 0] 27))
    go_wp2_with fail
    refine (drawRead_any a n cap _ hn' hc (HS.out.below B6.out (Nat.le_refl _))).mono ?_
    rintro e v1 ⟨T, rfl, hT, hC1⟩
    have C1 := hide (B6.out.trans (hC1.mono B6.out.size))
    clear hC1
    go_wp2_with fail
    refine (implRead_any T _).mono ?_
    rintro e v2 ⟨rfl, hC2⟩
    have C2 := hide (C1.out.trans (hC2.mono C1.out.size))
    clear hC2
    cases hr : readOk T with
    | true =>
      have FR := hide (form_read hr)
      have RV := hide (readV_yes hr)
      rw [readV_yes hr]
      clear hr
      generalize readC T = rc at FR RV ⊢
      generalize T.extract 2 T.size = rt at FR RV ⊢
      have A2 := hide ((Below.refl v2.heap.size v2).alloc (Nat.le_refl _) (.cells #[.int .i64 rc, .string rt, .slice none 0 0] 27))
      have Y2 := hide (three_new v2 (.int .i64 rc) (.string rt) (.slice none 0 0) 27)
      have C2' := hide (C2.out.trans (A2.out.mono C2.out.size))
      go_wp2_with fail
      generalize v2.alloc (.cells #[.int .i64 rc, .string rt, .slice none 0 0] 27) = V2 at A2 Y2 C2' ⊢
      generalize v2.heap.size = yb at Y2 ⊢
      refine (specRead_any T _ (by omega)).mono ?_
      rintro e v3 ⟨rfl, hC3⟩
      rw [RV.out]
      have Y3 := hide (Y2.out.below hC3 Y2.out.1)
      have C3 := hide (C2'.out.trans (hC3.mono C2'.out.size))
      have A3 := hide ((Below.refl v3.heap.size v3).alloc (Nat.le_refl _) (.cells #[.int .i64 rc, .string rt, .slice none 0 0] 27))
      have Y4 := hide (Y3.out.al (.cells #[.int .i64 rc, .string rt, .slice none 0 0] 27))
      have C4 := hide (C3.out.trans (A3.out.mono C3.out.size))
      clear hC3 A2 Y2 C2'
      obtain ⟨yl, ⟨y0, _⟩, ⟨y1, _⟩, ⟨y2, _⟩⟩ := Y4.out
      go_wp2_with fail
      refine (implForm_any rc rt none 0 0 _ (HP.out.below C4.out (Nat.le_refl _))).mono ?_
      rintro e v4 ⟨rfl, hC5⟩
      rw [FR.out]
      have C5 := hide (C4.out.trans (hC5.mono C4.out.size))
      clear hC5 y0 y1 y2
      go_wp2
      go_ret
      exact ⟨rfl, C5.out⟩
    | false =>
      have RV := hide (readV_no hr)
      rw [readV_no hr]
      clear hr
      have A2 := hide ((Below.refl v2.heap.size v2).alloc (Nat.le_refl _) (.cells #[.int .i64 0, .string ⟨#[]⟩, .slice none 0 0] 27))
      have C2' := hide (C2.out.trans (A2.out.mono C2.out.size))
      go_wp2_with fail
      generalize v2.alloc (.cells #[.int .i64 0, .string ⟨#[]⟩, .slice none 0 0] 27) = V2 at A2 C2' ⊢
      refine (specRead_any T _ (by omega)).mono ?_
      rintro e v3 ⟨rfl, hC3⟩
      rw [RV.out]
      have C3 := hide (C2'.out.trans (hC3.mono C2'.out.size))
      have C4 := hide (C3.out.alloc C3.out.size (.cells #[.int .i64 0, .string ⟨#[]⟩, .slice none 0 0] 27))
      clear hC3
      go_wp2
      go_ret
      exact ⟨rfl, C4.out⟩

end Go.Proofs.YtolpgafkojlkoaaDoor.Vp
