/-
  The draws of results.
-/
import Derived.Test.YtolpgafkojlkoaaDoorRsText
namespace Go.Proofs.YtolpgafkojlkoaaDoor.Vp
open Go.RowKit

/-- Three cells in a row. -/
def Three (w : World) (g : Nat) (v0 v1 v2 : Value) : Prop := g < w.heap.size ∧ (w.cell? ⟨g, 0, none⟩ = some v0 ∧ w.frozen? ⟨g, 0, none⟩ = false) ∧ (w.cell? ⟨g, 1, none⟩ = some v1 ∧ w.frozen? ⟨g, 1, none⟩ = false) ∧ (w.cell? ⟨g, 2, none⟩ = some v2 ∧ w.frozen? ⟨g, 2, none⟩ = false)
theorem Three.of_block {w w' : World} {g : Nat} {v0 v1 v2 : Value} (h : Three w g v0 v1 v2) (hz : w.heap.size ≤ w'.heap.size) (hb : w'.heap[g]? = w.heap[g]?) : Three w' g v0 v1 v2 := by
  obtain ⟨hl, ⟨p0, q0⟩, ⟨p1, q1⟩, ⟨p2, q2⟩⟩ := h
  have hc : ∀ o, w'.cell? ⟨g, o, none⟩ = w.cell? ⟨g, o, none⟩ := fun o => World.cell?_of_block (a := ⟨g, o, none⟩) hb
  have hf : ∀ o, w'.frozen? ⟨g, o, none⟩ = w.frozen? ⟨g, o, none⟩ := fun o => World.frozen?_of_block (a := ⟨g, o, none⟩) hb
  exact ⟨Nat.lt_of_lt_of_le hl hz, ⟨(hc 0).trans p0, (hf 0).trans q0⟩, ⟨(hc 1).trans p1, (hf 1).trans q1⟩, ⟨(hc 2).trans p2, (hf 2).trans q2⟩⟩
theorem Three.below {w w' : World} {B g : Nat} {v0 v1 v2 : Value} (h : Three w g v0 v1 v2) (hb : Below B w w') (hg : g < B) : Three w' g v0 v1 v2 := h.of_block hb.size (hb.block g hg)
theorem Three.only {w w' : World} {R g : Nat} {v0 v1 v2 : Value} (h : Three w g v0 v1 v2) (ho : Only R w w') (hg : g ≠ R) : Three w' g v0 v1 v2 := h.of_block ho.size (ho.block g h.1 hg)
theorem Three.al {w : World} {g : Nat} {v0 v1 v2 : Value} (h : Three w g v0 v1 v2) (o : Obj) : Three (w.alloc o) g v0 v1 v2 := h.below ((Below.refl w.heap.size w).alloc (Nat.le_refl _) o) h.1
theorem Three.other {w : World} {g : Nat} {v0 v1 v2 : Value} (h : Three w g v0 v1 v2) (p : Addr) (u : Value) (hp : p.block ≠ g) : Three (w.setCell p u) g v0 v1 v2 := h.of_block (by simp) (Below.heap_setCell w p u g (fun e => hp e.symm))
theorem three_new (w : World) (v0 v1 v2 : Value) (t : TypeId) : Three (w.alloc (.cells #[v0, v1, v2] t)) w.heap.size v0 v1 v2 := ⟨by simp, ⟨by simp, by simp⟩, ⟨by simp, by simp⟩, ⟨by simp, by simp⟩⟩
theorem Three.set0 {w : World} {g : Nat} {v0 v1 v2 : Value} (h : Three w g v0 v1 v2) (u : Value) : Three (w.setCell ⟨g, 0, none⟩ u) g u v1 v2 := by
  obtain ⟨hl, ⟨p0, q0⟩, ⟨p1, q1⟩, ⟨p2, q2⟩⟩ := h
  exact ⟨by simpa using hl, ⟨(World.cell?_setCell_same' _ _ _ (by rw [p0]; rfl)), by simpa using q0⟩, ⟨(World.cell?_setCell_other _ _ _ _ (by simp)).trans p1, by simpa using q1⟩, ⟨(World.cell?_setCell_other _ _ _ _ (by simp)).trans p2, by simpa using q2⟩⟩
theorem Three.set1 {w : World} {g : Nat} {v0 v1 v2 : Value} (h : Three w g v0 v1 v2) (u : Value) : Three (w.setCell ⟨g, 1, none⟩ u) g v0 u v2 := by
  obtain ⟨hl, ⟨p0, q0⟩, ⟨p1, q1⟩, ⟨p2, q2⟩⟩ := h
  exact ⟨by simpa using hl, ⟨(World.cell?_setCell_other _ _ _ _ (by simp)).trans p0, by simpa using q0⟩, ⟨(World.cell?_setCell_same' _ _ _ (by rw [p1]; rfl)), by simpa using q1⟩, ⟨(World.cell?_setCell_other _ _ _ _ (by simp)).trans p2, by simpa using q2⟩⟩
theorem Three.set2 {w : World} {g : Nat} {v0 v1 v2 : Value} (h : Three w g v0 v1 v2) (u : Value) : Three (w.setCell ⟨g, 2, none⟩ u) g v0 v1 u := by
  obtain ⟨hl, ⟨p0, q0⟩, ⟨p1, q1⟩, ⟨p2, q2⟩⟩ := h
  exact ⟨by simpa using hl, ⟨(World.cell?_setCell_other _ _ _ _ (by simp)).trans p0, by simpa using q0⟩, ⟨(World.cell?_setCell_other _ _ _ _ (by simp)).trans p1, by simpa using q1⟩, ⟨(World.cell?_setCell_same' _ _ _ (by rw [p2]; rfl)), by simpa using q2⟩⟩
theorem Below.only {B R : Nat} {u v w : World} (h : Below B u v) (ho : Only R v w) (hB : B ≤ R) (hu : B ≤ u.heap.size) : Below B u w := h.trans (ho.below hB (Nat.le_trans hu h.size))
theorem Rd.other {w : World} {R p g j : Nat} (h : Rd w R p) (v : Value) (hg : R < g) : Rd (w.setCell ⟨g, j, none⟩ v) R p := h.low ((Below.refl g w).setCell (p := ⟨g, j, none⟩) (Nat.le_refl _) v) hg

set_option maxRecDepth 100000 in
set_option maxHeartbeats 8000000 in
theorem drawForm_any (a : Option Addr) (n cap : Nat) (w : World) (hn : (n : Int) ≤ 1048576) (hc : n ≤ cap) (hS : ByteSl w a n) :
    Calls Tryd.prog 13 #[.slice a n cap] w fun e w' => ∃ (c : Int) (t : ByteArray) (b : Option Addr) (k d : Nat), e = .returned (.agg #[.int .i64 c, .string t, .slice b k d]) ∧ Below w.heap.size w w' := by
  have HS := hide hS
  clear hS
  have A0 := hide ((Below.refl w.heap.size w).alloc (Nat.le_refl _) (.cells #[.int .i64 0, .string ⟨#[]⟩, .slice none 0 0] 27))
  have G0 := hide (three_new w (.int .i64 0) (.string ⟨#[]⟩) (.slice none 0 0) 27)
  go_enter Tryd.func13, Tryd.ntmps13
  go_wp2_with fail
  refine (l1Open_any a n cap _ hn hc (HS.out.below A0.out (Nat.le_refl _))).mono ?_
  rintro e w1 ⟨R, rfl, hR, hR1, hB1⟩
  have hgR : w.heap.size < R := by simp at hR; omega
  have R1 := hide hR1
  have G1 := hide (G0.out.below hB1 G0.out.1)
  have B1 := hide (A0.out.trans (hB1.mono A0.out.size))
  clear hR hR1 hB1 A0 G0
  go_wp2_with fail
  refine (pick_any R 0 11 _ R1.out (by omega) (by omega) (by omega)).mono ?_
  rintro e w2 ⟨c, rfl, hc0, hc1, hR2, hO2⟩
  have R2 := hide hR2
  have G2 := hide (G1.out.only hO2 (by omega))
  have B2 := hide (Below.only B1.out hO2 (by omega) (Nat.le_refl _))
  clear hR2 hO2 R1 G1 B1
  go_wp2_with fail
  refine (l1Text_any R (0 + 1) _ R2.out (by omega)).mono ?_
  rintro e w3 ⟨t, rfl, ht, q, hq, hR3, hO3⟩
  have R3 := hide hR3
  have G3 := hide (G2.out.only hO3 (by omega))
  have B3 := hide (Below.only B2.out hO3 (by omega) (Nat.le_refl _))
  have hg3 : w.heap.size < w3.heap.size := G3.out.1
  have hr3 : R < w3.heap.size := hR3.lt
  clear hR3 hO3 R2 G2 B2
  have X4 := hide (three_new w3 (.int .i64 (c - 1)) (.string t) (.slice none 0 0) 27)
  have D4 := hide ((Below.refl w3.heap.size w3).alloc (Nat.le_refl _) (.cells #[.int .i64 (c - 1), .string t, .slice none 0 0] 27))
  have R4 := hide (R3.out.below D4.out (Nat.le_refl _))
  have G4 := hide (G3.out.below D4.out hg3)
  have B4 := hide (B3.out.trans (D4.out.mono B3.out.size))
  clear R3 G3 B3 D4
  go_wp2_with fail
  refine (pick_any R q 6 _ R4.out (by omega) (by omega) (by omega)).mono ?_
  rintro e w5 ⟨z, rfl, hz0, hz1, hR5, hO5⟩
  have R5 := hide hR5
  have G5 := hide (G4.out.only hO5 (by omega))
  have X5 := hide (X4.out.only hO5 (by omega))
  have B5 := hide (Below.only B4.out hO5 (by omega) (Nat.le_refl _))
  have hx5 : w3.heap.size < w5.heap.size := X5.out.1
  clear hR5 hO5 R4 G4 X4 B4
  by_cases hz : z = 0
  · subst hz
    have D6 := hide ((Below.refl w5.heap.size (w5.setCell ⟨w3.heap.size, 2, none⟩ (.slice (some ⟨w5.heap.size, 0, none⟩) 1 1))).alloc (by simp) (.cells #[.string ⟨#[116, 48]⟩] 9))
    have X6 := hide ((X5.out.set2 (.slice (some ⟨w5.heap.size, 0, none⟩) 1 1)).al (.cells #[.string ⟨#[116, 48]⟩] 9))
    have G6 := hide ((G5.out.other ⟨w3.heap.size, 2, none⟩ (.slice (some ⟨w5.heap.size, 0, none⟩) 1 1) (by simp; omega)).al (.cells #[.string ⟨#[116, 48]⟩] 9))
    have R6 := hide ((R5.out.other (g := w3.heap.size) (j := 2) (.slice (some ⟨w5.heap.size, 0, none⟩) 1 1) hr3).low D6.out R5.out.lt)
    have B6 := hide ((B5.out.setCell (p := ⟨w3.heap.size, 2, none⟩) (by simp; omega) (.slice (some ⟨w5.heap.size, 0, none⟩) 1 1)).alloc (by simp; omega) (.cells #[.string ⟨#[116, 48]⟩] 9))
    obtain ⟨xl, ⟨x0, u0⟩, ⟨x1, u1⟩, ⟨x2, u2⟩⟩ := (X5.out.al (.cells #[.string ⟨#[116, 48]⟩] 9))
    go_wp2_with fail
    clear x0 u0 x1 u1 x2 u2 xl
    obtain ⟨b, k, d, hbkd⟩ : ∃ (b : Option Addr) (k d : Nat), Value.slice (some ⟨w5.heap.size, 0, none⟩) 1 1 = .slice b k d := ⟨_, _, _, rfl⟩
    rw [hbkd] at X6 G6 R6 B6 D6 ⊢
    generalize ((w5.setCell ⟨w3.heap.size, 2, none⟩ (.slice b k d)).alloc (.cells #[.string ⟨#[116, 48]⟩] 9)) = w6 at X6 G6 R6 B6 ⊢
    clear D6 X5 G5 R5 B5 hbkd
    go_wp2_with fail
    refine (pick_any R (q + 1) 8 _ R6.out (by omega) (by omega) (by omega)).mono ?_
    rintro e w7 ⟨f, rfl, hf0, hf1, hR7, hO7⟩
    have R7 := hide hR7
    have G7 := hide (G6.out.only hO7 (by omega))
    have X7 := hide (X6.out.only hO7 (by omega))
    have B7 := hide (Below.only B6.out hO7 (by omega) (Nat.le_refl _))
    clear hR7 hO7 R6 G6 X6 B6
    by_cases hf : f = 0
    · subst hf
      go_wp2_with fail
      refine (pick_any R ((q + 1) + 1) 2 _ R7.out (by omega) (by omega) (by omega)).mono ?_
      rintro e w8 ⟨m, rfl, hm0, hm1, hR8, hO8⟩
      have G8 := hide (G7.out.only hO8 (by omega))
      have X8 := hide (X7.out.only hO8 (by omega))
      have B8 := hide (Below.only B7.out hO8 (by omega) (Nat.le_refl _))
      clear hR8 hO8 R7 G7 X7 B7
      obtain ⟨m, rfl⟩ := Int.eq_ofNat_of_zero_le hm0
      go_wp2_with fail
      refine (l1Many_any ⟨#[102]⟩ (2000 + m) _ (by show 1 * (2000 + m) ≤ 4000; omega) (by omega)).mono ?_
      rintro e w9 ⟨T, rfl, hT, rfl⟩
      have hne : ¬ w3.heap.size = w.heap.size := by omega
      have hne2 : ¬ w.heap.size = w3.heap.size := by omega
      clear hT
      obtain ⟨gl, ⟨g0, y0⟩, ⟨g1, y1⟩, ⟨g2, y2⟩⟩ := G8.out
      obtain ⟨xl, ⟨x0, u0⟩, ⟨x1, u1⟩, ⟨x2, u2⟩⟩ := X8.out
      go_wp2
      exact bodyPost_ret (v := .agg #[.int .i64 (c - 1), .string T, .slice b k d]) (by simp [results, Tryd.results13, go_sem, g0, g1, g2]) rfl ⟨_, _, _, _, _, rfl, (((B8.out.setCell (p := ⟨w3.heap.size, 1, none⟩) (by simp; omega) _).setCell (Nat.le_refl _) _).setCell (Nat.le_refl _) _).setCell (Nat.le_refl _) _⟩
    · have hf' : ¬ f = 0 := hf
      obtain ⟨gl, ⟨g0, y0⟩, ⟨g1, y1⟩, ⟨g2, y2⟩⟩ := G7.out
      obtain ⟨xl, ⟨x0, u0⟩, ⟨x1, u1⟩, ⟨x2, u2⟩⟩ := X7.out
      go_wp2
      exact bodyPost_ret (v := .agg #[.int .i64 (c - 1), .string t, .slice b k d]) (by simp [results, Tryd.results13, go_sem, g0, g1, g2]) rfl ⟨_, _, _, _, _, rfl, ((B7.out.setCell (Nat.le_refl _) _).setCell (Nat.le_refl _) _).setCell (Nat.le_refl _) _⟩
  · have hz' : ¬ z = 0 := hz
    obtain ⟨b, k, d, hbkd⟩ : ∃ (b : Option Addr) (k d : Nat), Value.slice none 0 0 = .slice b k d := ⟨_, _, _, rfl⟩
    rw [hbkd] at X5
    clear hbkd
    go_wp2_with fail
    refine (pick_any R (q + 1) 8 _ R5.out (by omega) (by omega) (by omega)).mono ?_
    rintro e w7 ⟨f, rfl, hf0, hf1, hR7, hO7⟩
    have R7 := hide hR7
    have G7 := hide (G5.out.only hO7 (by omega))
    have X7 := hide (X5.out.only hO7 (by omega))
    have B7 := hide (Below.only B5.out hO7 (by omega) (Nat.le_refl _))
    clear hR7 hO7 R5 G5 X5 B5
    by_cases hf : f = 0
    · subst hf
      go_wp2_with fail
      refine (pick_any R ((q + 1) + 1) 2 _ R7.out (by omega) (by omega) (by omega)).mono ?_
      rintro e w8 ⟨m, rfl, hm0, hm1, hR8, hO8⟩
      have G8 := hide (G7.out.only hO8 (by omega))
      have X8 := hide (X7.out.only hO8 (by omega))
      have B8 := hide (Below.only B7.out hO8 (by omega) (Nat.le_refl _))
      clear hR8 hO8 R7 G7 X7 B7
      obtain ⟨m, rfl⟩ := Int.eq_ofNat_of_zero_le hm0
      go_wp2_with fail
      refine (l1Many_any ⟨#[102]⟩ (2000 + m) _ (by show 1 * (2000 + m) ≤ 4000; omega) (by omega)).mono ?_
      rintro e w9 ⟨T, rfl, hT, rfl⟩
      have hne : ¬ w3.heap.size = w.heap.size := by omega
      have hne2 : ¬ w.heap.size = w3.heap.size := by omega
      clear hT
      obtain ⟨gl, ⟨g0, y0⟩, ⟨g1, y1⟩, ⟨g2, y2⟩⟩ := G8.out
      obtain ⟨xl, ⟨x0, u0⟩, ⟨x1, u1⟩, ⟨x2, u2⟩⟩ := X8.out
      go_wp2
      exact bodyPost_ret (v := .agg #[.int .i64 (c - 1), .string T, .slice b k d]) (by simp [results, Tryd.results13, go_sem, g0, g1, g2]) rfl ⟨_, _, _, _, _, rfl, (((B8.out.setCell (p := ⟨w3.heap.size, 1, none⟩) (by simp; omega) _).setCell (Nat.le_refl _) _).setCell (Nat.le_refl _) _).setCell (Nat.le_refl _) _⟩
    · have hf' : ¬ f = 0 := hf
      obtain ⟨gl, ⟨g0, y0⟩, ⟨g1, y1⟩, ⟨g2, y2⟩⟩ := G7.out
      obtain ⟨xl, ⟨x0, u0⟩, ⟨x1, u1⟩, ⟨x2, u2⟩⟩ := X7.out
      go_wp2
      exact bodyPost_ret (v := .agg #[.int .i64 (c - 1), .string t, .slice b k d]) (by simp [results, Tryd.results13, go_sem, g0, g1, g2]) rfl ⟨_, _, _, _, _, rfl, ((B7.out.setCell (Nat.le_refl _) _).setCell (Nat.le_refl _) _).setCell (Nat.le_refl _) _⟩

end Go.Proofs.YtolpgafkojlkoaaDoor.Vp
