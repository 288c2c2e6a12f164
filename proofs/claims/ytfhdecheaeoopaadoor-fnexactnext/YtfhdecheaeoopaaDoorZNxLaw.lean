/-
  FnExactNext: the law.
-/
import Derived.Test.YtfhdecheaeoopaaDoorZM
import Derived.Test.YtfhdecheaeoopaaDoorZNxImpl
import Derived.Test.YtfhdecheaeoopaaDoorZDReply
import Derived.Test.YtfhdecheaeoopaaDoorZDProgram
namespace Go.Proofs.YtfhdecheaeoopaaDoor.Vp
open Go.RowKit

set_option maxHeartbeats 1000000 in
theorem eqTurn_same (t : Turn) (w : World) : Calls Tryd.prog 10 #[t.v, t.v] w fun e w' => e = .returned (.bool true) ∧ Below w.heap.size w w' := by
  unfold Turn.v
  go_enter Tryd.func10, Tryd.ntmps10
  go_wp2
  go_ret
  exact ⟨rfl, ((Below.refl _ _).alloc (Nat.le_refl _) _).alloc (by simp) _⟩

/-- Six cells of a turn. -/
def TurnAt (w : World) (g : Nat) (t : Turn) : Prop := g < w.heap.size ∧ w.cell? ⟨g, 0, none⟩ = some (.bool t.over) ∧ w.cell? ⟨g, 1, none⟩ = some (.int .i64 t.code) ∧ w.cell? ⟨g, 2, none⟩ = some (.string t.text) ∧ w.cell? ⟨g, 3, none⟩ = some (.bool t.ask) ∧ w.cell? ⟨g, 4, none⟩ = some (.string t.name) ∧ w.cell? ⟨g, 5, none⟩ = some (.int .i64 t.steps)
theorem TurnAt.below {w w' : World} {B g : Nat} {t : Turn} (h : TurnAt w g t) (hb : Below B w w') (hg : g < B) : TurnAt w' g t := by
  obtain ⟨h0, h1, h2, h3, h4, h5, h6⟩ := h
  have c : ∀ o, w'.cell? ⟨g, o, none⟩ = w.cell? ⟨g, o, none⟩ := fun o => hb.cell (p := ⟨g, o, none⟩) hg
  exact ⟨Nat.lt_of_lt_of_le h0 hb.size, (c 0).trans h1, (c 1).trans h2, (c 2).trans h3, (c 3).trans h4, (c 4).trans h5, (c 5).trans h6⟩
theorem turn_new (w : World) (t : Turn) (ty : TypeId) : TurnAt (w.alloc (.cells #[.bool t.over, .int .i64 t.code, .string t.text, .bool t.ask, .string t.name, .int .i64 t.steps] ty)) w.heap.size t :=
  ⟨by simp, by simp, by simp, by simp, by simp, by simp, by simp⟩

set_option maxHeartbeats 4000000 in
theorem law_next (a : Option Addr) (n cap : Nat) (f : Nat → Ins) (a2 : Option Addr) (n2 cap2 : Nat) (y : Nat → Reply) (w : World) (hn : (n : Int) ≤ 9223372036854775807) (hn2 : (n2 : Int) ≤ 9223372036854775807) (hv : SlIns w a n f) (hv2 : SlReply w a2 n2 y)
    (hs : ∀ i, i < n → (f i).s.size ≤ maxLen) (hs2 : ∀ i, i < n2 → (y i).text.size ≤ maxLen) (hT : Tab w) (hT2 : Tab2 w) (hP : Pow w) :
    Calls Tryd.prog 3 #[.agg #[.slice a n cap], .slice a2 n2 cap2] w fun e w' => e = .returned (.bool true) ∧ Below w.heap.size w w' := by
  have HV := hide hv
  have HV2 := hide hv2
  have HS := hide hs
  have HS2 := hide hs2
  have HT := hide hT
  have HT2 := hide hT2
  have HP := hide hP
  clear hv hv2 hs hs2 hT hT2 hP
  obtain ⟨T, hTn⟩ : ∃ T, T = nextA f n y n2 := ⟨_, rfl⟩
  have HTn := hide hTn
  clear hTn
  have B0 := hide ((Below.refl w.heap.size w).alloc (Nat.le_refl w.heap.size) (.cells #[.slice a n cap] 24))
  go_enter Tryd.func3, Tryd.ntmps3
  go_wp2_with fail
  refine (szProgram_any a n cap f 1048576 _ (by omega) (by omega) hn (HV.out.below B0.out (Nat.le_refl _)) HS.out).mono ?_
  rintro e w1 ⟨r, rfl, hr1, hr2, hr3, hB⟩
  have c1 : w1.cell? ⟨w.heap.size, 0, none⟩ = some (.slice a n cap) := (hB.cell (p := ⟨w.heap.size, 0, none⟩) (by simp)).trans (by simp)
  have z1 : w.heap.size < w1.heap.size := by have := hB.size; simp at this; omega
  have B1 := hide (B0.out.trans (hB.mono (by simp)))
  clear hB B0
  by_cases hr : r < 0
  · clear hr3
    go_wp2
    go_ret
    exact ⟨rfl, B1.out⟩
  have hn' : n ≤ 1048576 := by have := hr3 (by omega); omega
  clear hr3
  go_wp2_with fail
  refine (szReplyS_any a2 n2 cap2 y r _ (by omega) (by omega) hn2 (HV2.out.below B1.out (Nat.le_refl _)) HS2.out).mono ?_
  rintro e w2 ⟨q, rfl, hq1, hq2, hq3, hB⟩
  have c2 := (hB.cell (p := ⟨w.heap.size, 0, none⟩) z1).trans c1
  have z2 : w.heap.size < w2.heap.size := Nat.lt_of_lt_of_le z1 hB.size
  have B2 := hide (B1.out.trans (hB.mono B1.out.size))
  clear hB c1
  by_cases hq : q < 0
  · clear hq3
    go_wp2
    go_ret
    exact ⟨rfl, B2.out⟩
  have hm' : n2 ≤ 1048576 := by have := hq3 (by omega); omega
  clear hq3
  go_wp2_with fail
  refine (toProgram_any a n cap f _ hn' (HV.out.below B2.out (Nat.le_refl _))).mono ?_
  rintro e w3 ⟨g3, rfl, hS3, hg3, hB⟩
  have c3 := (hB.cell (p := ⟨w.heap.size, 0, none⟩) z2).trans c2
  have z3 : w.heap.size < w3.heap.size := Nat.lt_of_lt_of_le z2 hB.size
  have B3 := hide (B2.out.trans (hB.mono B2.out.size))
  have S3 := hide hS3
  clear hB hS3 hg3 c2
  go_wp2_with fail
  refine (toReplyS_any a2 n2 cap2 y _ hm' (HV2.out.below B3.out (Nat.le_refl _))).mono ?_
  rintro e w4 ⟨g4, rfl, hS4, hg4, hB⟩
  have c4 := (hB.cell (p := ⟨w.heap.size, 0, none⟩) z3).trans c3
  have z4 : w.heap.size < w4.heap.size := Nat.lt_of_lt_of_le z3 hB.size
  have B4 := hide (B3.out.trans (hB.mono B3.out.size))
  have S3' := hide (S3.out.below hB (Nat.le_refl _))
  have S4 := hide hS4
  clear hB hS4 hg4 c3 S3
  go_wp2_with fail
  refine (specNext_any g3 0 n n g4 0 n2 n2 f y _ hn' S3'.out S4.out HS.out).mono ?_
  rintro e w5 ⟨rfl, hB⟩
  rw [← HTn.out]
  have c5 := (hB.cell (p := ⟨w.heap.size, 0, none⟩) z4).trans c4
  have z5 : w.heap.size < w5.heap.size := Nat.lt_of_lt_of_le z4 hB.size
  have B5 := hide (B4.out.trans (hB.mono B4.out.size))
  clear hB c4 S3' S4
  simp only [Turn.v]
  have A5 := hide ((Below.refl w5.heap.size w5).alloc (Nat.le_refl _) (.cells #[.bool T.over, .int .i64 T.code, .string T.text, .bool T.ask, .string T.name, .int .i64 T.steps] 29))
  have U5 := hide (turn_new w5 T 29)
  have B5' := hide (B5.out.trans (A5.out.mono B5.out.size))
  have c5' := (A5.out.cell (p := ⟨w.heap.size, 0, none⟩) z5).trans c5
  go_wp2_with fail
  clear c5 A5 B5
  generalize w5.alloc (.cells #[.bool T.over, .int .i64 T.code, .string T.text, .bool T.ask, .string T.name, .int .i64 T.steps] 29) = w6 at U5 B5' c5' ⊢
  have z6 : w.heap.size < w6.heap.size := Nat.lt_trans z5 U5.out.1
  generalize w5.heap.size = t5 at U5 z5 ⊢
  refine (toProgram_any a n cap f _ hn' (HV.out.below B5'.out (Nat.le_refl _))).mono ?_
  rintro e w7 ⟨g7, rfl, hS7, hg7, hB⟩
  have A7 := hide ((Below.refl w7.heap.size w7).alloc (Nat.le_refl _) (.cells #[.slice (some ⟨g7, 0, none⟩) n n] 33))
  have D7 := hide (hB.trans (A7.out.mono hB.size))
  have c8 := (D7.out.cell (p := ⟨w.heap.size, 0, none⟩) z6).trans c5'
  have U8 := hide (U5.out.below D7.out U5.out.1)
  have B8 := hide (B5'.out.trans (D7.out.mono B5'.out.size))
  have S8 := hide (RowIns.below hS7 A7.out (Nat.le_refl _))
  have x8 : (w7.alloc (.cells #[.slice (some ⟨g7, 0, none⟩) n n] 33)).cell? ⟨w7.heap.size, 0, none⟩ = some (.slice (some ⟨g7, 0, none⟩) n n) := by simp
  have zx : w7.heap.size < (w7.alloc (.cells #[.slice (some ⟨g7, 0, none⟩) n n] 33)).heap.size := by simp
  clear hB hS7 hg7 A7 c5'
  go_wp2_with fail
  generalize w7.alloc (.cells #[.slice (some ⟨g7, 0, none⟩) n n] 33) = w8 at D7 c8 U8 B8 S8 x8 zx ⊢
  generalize w7.heap.size = x7 at x8 zx ⊢
  clear D7
  have z8 : w.heap.size < w8.heap.size := Nat.lt_of_lt_of_le (Nat.lt_of_lt_of_le (Nat.lt_succ_self _) (by have := U8.out.1; omega)) (Nat.le_refl _)
  refine (toReplyS_any a2 n2 cap2 y _ hm' (HV2.out.below B8.out (Nat.le_refl _))).mono ?_
  rintro e w9 ⟨g9, rfl, hS9, hg9, hB⟩
  have c9 := (hB.cell (p := ⟨w.heap.size, 0, none⟩) z8).trans c8
  have U9 := hide (U8.out.below hB U8.out.1)
  have B9 := hide (B8.out.trans (hB.mono B8.out.size))
  have S9 := hide (S8.out.below hB (Nat.le_refl _))
  have x9 := (hB.cell (p := ⟨x7, 0, none⟩) zx).trans x8
  have Y9 := hide hS9
  have zx9 : x7 < w9.heap.size := Nat.lt_of_lt_of_le zx hB.size
  have z9 : w.heap.size < w9.heap.size := Nat.lt_of_lt_of_le z8 hB.size
  clear hB hS9 hg9 S8 c8 x8 U8 B8
  go_wp2_with fail
  refine (implNext_any g7 0 n n g9 0 n2 n2 f y _ hn' S9.out Y9.out (HT.out.below B9.out HT.out.1) (HT2.out.below B9.out HT2.out.1) (HP.out.below B9.out (Nat.le_refl _))).mono ?_
  rintro e w10 ⟨rfl, hB⟩
  rw [← HTn.out]
  simp only [Turn.v]
  have A10 := hide ((Below.refl w10.heap.size w10).alloc (Nat.le_refl _) (.cells #[.bool T.over, .int .i64 T.code, .string T.text, .bool T.ask, .string T.name, .int .i64 T.steps] 29))
  have D10 := hide (hB.trans (A10.out.mono hB.size))
  have V11 := hide (turn_new w10 T 29)
  have c11 := (D10.out.cell (p := ⟨w.heap.size, 0, none⟩) z9).trans c9
  have U11 := hide (U9.out.below D10.out U9.out.1)
  have B11 := hide (B9.out.trans (D10.out.mono B9.out.size))
  have S11 := hide (S9.out.below D10.out (Nat.le_refl _))
  have Y11 := hide (Y9.out.below D10.out (Nat.le_refl _))
  have x11 := (D10.out.cell (p := ⟨x7, 0, none⟩) zx9).trans x9
  have zx11 : x7 < (w10.alloc (.cells #[.bool T.over, .int .i64 T.code, .string T.text, .bool T.ask, .string T.name, .int .i64 T.steps] 29)).heap.size := Nat.lt_of_lt_of_le zx9 D10.out.size
  have z11 : w.heap.size < (w10.alloc (.cells #[.bool T.over, .int .i64 T.code, .string T.text, .bool T.ask, .string T.name, .int .i64 T.steps] 29)).heap.size := Nat.lt_of_lt_of_le z9 D10.out.size
  clear hB A10 c9 U9 B9 S9 Y9 x9
  obtain ⟨_, u0, u1, u2, u3, u4, u5⟩ := U11.out
  go_wp2_with fail
  clear u0 u1 u2 u3 u4 u5
  refine (eqTurn_same T _).mono ?_
  clear D10
  generalize w10.alloc (.cells #[.bool T.over, .int .i64 T.code, .string T.text, .bool T.ask, .string T.name, .int .i64 T.steps] 29) = w11 at V11 c11 U11 B11 S11 Y11 x11 zx11 z11 ⊢
  rintro e w12 ⟨rfl, hB⟩
  have c12 := (hB.cell (p := ⟨w.heap.size, 0, none⟩) z11).trans c11
  have B12 := hide (B11.out.trans (hB.mono B11.out.size))
  have S12 := hide (S11.out.below hB (Nat.le_refl _))
  have Y12 := hide (Y11.out.below hB (Nat.le_refl _))
  have x12 := (hB.cell (p := ⟨x7, 0, none⟩) zx11).trans x11
  have zx12 : x7 < w12.heap.size := Nat.lt_of_lt_of_le zx11 hB.size
  have HV12 := hide (HV.out.below B12.out (Nat.le_refl _))
  clear hB c11 B11 S11 Y11 x11 U11 V11
  go_wp2_with fail
  go_region_with (first | (go_at_call 7; refine (toProgram_any a n cap f _ hn' ?_).mono ?_; exact HV12.out; rintro e w13 ⟨g13, rfl, hS13, hg13, hB13⟩; have H13 := hide hS13; have B13 : Hid (Below w12.heap.size w12 w13) := ⟨hB13.os, hB13.tape, hB13.output, hB13.size, hB13.block⟩; have S13 := hide (S12.out.below B13.out (Nat.le_refl _)); have x13 : w13.cell? ⟨x7, 0, none⟩ = some (.slice (some ⟨g7, 0, none⟩) n n) := (B13.out.cell (p := ⟨x7, 0, none⟩) zx12).trans x12; clear hS13 hg13 hB13) | (go_at_call 11; refine (eqProgram_any (some ⟨g7, 0, none⟩) (some ⟨g13, 0, none⟩) n n n f _ hn' S13.out.sl H13.out.sl).mono ?_; rintro e w14 ⟨rfl, hB14⟩; have B14 := hide (B13.out.trans (hB14.mono B13.out.size)); clear hB14))
  all_goals
    have BB := hide (B12.out.trans (B14.out.mono B12.out.size))
    have Y14 := hide (Y12.out.below B14.out (Nat.le_refl _))
    go_wp2_with fail
    refine (toReplyS_any a2 n2 cap2 y _ hm' (HV2.out.below BB.out (Nat.le_refl _))).mono ?_
    rintro e w15 ⟨g15, rfl, hS15, hg15, hB15⟩
    have Y15 := hide (Y14.out.below hB15 (Nat.le_refl _))
    have X15 := hide hS15
    have B15 := hide (BB.out.trans (hB15.mono BB.out.size))
    clear hS15 hg15 hB15
    go_wp2_with fail
    refine (eqReplyS_any (some ⟨g9, 0, none⟩) (some ⟨g15, 0, none⟩) n2 n2 n2 y _ hm' Y15.out.sl X15.out.sl).mono ?_
    rintro e w16 ⟨rfl, hB16⟩
    have B16 := hide (B15.out.trans (hB16.mono B15.out.size))
    clear hB16
    go_wp2
    go_ret
    exact ⟨rfl, B16.out⟩

end Go.Proofs.YtfhdecheaeoopaaDoor.Vp
