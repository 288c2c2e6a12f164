/-
  FnExactParseProgram: the law.
-/
import Derived.Test.YtpefignfaooonaaGreatDoorZPaMark
import Derived.Test.YtpefignfaooonaaGreatDoorZPaSpecP
namespace Go.Proofs.YtpefignfaooonaaGreatDoor.Vp
open Go.RowKit

theorem parsed_len (S : List UInt8) : (parsed S).2.2.length ≤ 200 := by
  unfold parsed
  split
  · simp
  · split
    · split
      · simp
      · rename_i h
        show (pgm 0 (linesL S)).2.2.length ≤ 200
        omega
    · simp
/-- The boxes of two answers and what they hold. -/
structure PSt (w W : World) (b3 b4 b5 b6 B1 : Nat) (a1 a2 : Option Addr) (c1 c2 : Nat) (L : List I3) (x y : Int) : Prop where
  K : Below w.heap.size w W
  p3 : PB W b3 (.slice a1 L.length c1)
  f4 : FB W b4 (.int .i64 x) (.int .i64 y)
  p5 : PB W b5 (.slice a2 L.length c2)
  f6 : FB W b6 (.int .i64 x) (.int .i64 y)
  o1 : W.ownsRow B1 41 3 (.slice a1 L.length c1) L.length (i3L L)
theorem PSt.below {w W W' : World} {b3 b4 b5 b6 B1 : Nat} {a1 a2 : Option Addr} {c1 c2 : Nat} {L : List I3} {x y : Int} (s : PSt w W b3 b4 b5 b6 B1 a1 a2 c1 c2 L x y) (hb : Below W.heap.size W W') : PSt w W' b3 b4 b5 b6 B1 a1 a2 c1 c2 L x y :=
  ⟨s.K.trans (hb.mono s.K.size), s.p3.below hb s.p3.lt, s.f4.below hb s.f4.lt, s.p5.below hb s.p5.lt, s.f6.below hb s.f6.lt, own_below s.o1 hb (Nat.le_refl _)⟩
theorem own_within {w w' : World} {base e' n G : Nat} {e : TypeId} {v : Value} {xs : List Value} (h : w.ownsRow base e e' v n xs) (hw : Within G (G + 1) w w') (hG : ∀ k, v.ownBlock = some k → k ≠ G) : w'.ownsRow base e e' v n xs := by
  refine ⟨h.1, ?_⟩
  rcases h.2 with hn | ⟨g, cap, cur, hv, hg, hh, r⟩
  · exact .inl hn
  · have hne := hG g (by rw [hv]; rfl)
    exact .inr ⟨g, cap, cur, hv, hg, by rw [hw.block g (Array.getElem?_eq_some_iff.1 hh).1 (by omega)]; exact hh, r⟩
theorem PSt.within {w W W' : World} {b3 b4 b5 b6 B1 G : Nat} {a1 a2 : Option Addr} {c1 c2 : Nat} {L : List I3} {x y : Int} (s : PSt w W b3 b4 b5 b6 B1 a1 a2 c1 c2 L x y) (hw : Within G (G + 1) W W') (hG : w.heap.size ≤ G) (h3 : b3 ≠ G) (h4 : b4 ≠ G) (h5 : b5 ≠ G) (h6 : b6 ≠ G) (h1 : ∀ k, (Value.slice a1 L.length c1).ownBlock = some k → k ≠ G) : PSt w W' b3 b4 b5 b6 B1 a1 a2 c1 c2 L x y :=
  ⟨⟨hw.os.trans s.K.os, hw.tape.trans s.K.tape, hw.output.trans s.K.output, Nat.le_trans s.K.size hw.size, fun b hb => (hw.block b (Nat.lt_of_lt_of_le hb s.K.size) (by omega)).trans (s.K.block b hb)⟩,
    (hw.block b3 s.p3.lt (by omega)).trans s.p3, (hw.block b4 s.f4.lt (by omega)).trans s.f4, (hw.block b5 s.p5.lt (by omega)).trans s.p5, (hw.block b6 s.f6.lt (by omega)).trans s.f6, own_within s.o1 hw h1⟩

set_option maxRecDepth 100000 in
set_option maxHeartbeats 4000000 in
theorem law_big (src : ByteArray) (w : World) (hs : 1048576 < src.size) (hm : src.size ≤ maxLen) :
    Calls Tryz.prog 3 #[.string src] w fun e w' => e = .returned (.bool true) ∧ Below w.heap.size w w' := by
  unfold maxLen at hm
  have h1 : 1048576 < (src.size : Int) := by omega
  go_enter Tryz.func3, Tryz.ntmps3
  go_wp2
  go_ret
  exact ⟨rfl, Below.refl _ _⟩

set_option maxRecDepth 100000 in
set_option maxHeartbeats 4000000 in
theorem law_parse (src : ByteArray) (ps pm : Addr) (w : World) (hs : src.size ≤ 1048576) (hL : LayP w) (hE : EM w ps pm) (hg : ET w) :
    Calls Tryz.prog 3 #[.string src] w fun e w' => e = .returned (.bool true) ∧ Below w.heap.size w w' := by
  have h1 : ¬ 1048576 < (src.size : Int) := by omega
  have SP := hide (fun V => specParse_any src V hs)
  have IM := hide (fun V (hV : Below w.heap.size w V) => implParse_any src ps pm V (by omega) (hL.below hV (Nat.le_refl _)) (hE.below hV (Nat.le_refl _)) (hg.below hV (Nat.le_refl _)))
  have hlen := parsed_len src.data.toList
  unfold PqPost at SP
  clear hL hE hg
  obtain ⟨x, hx⟩ : ∃ x, x = (parsed src.data.toList).1 := ⟨_, rfl⟩
  obtain ⟨y, hy⟩ : ∃ y, y = (parsed src.data.toList).2.1 := ⟨_, rfl⟩
  obtain ⟨L, hLL⟩ : ∃ L, L = (parsed src.data.toList).2.2 := ⟨_, rfl⟩
  rw [← hx, ← hy, ← hLL] at SP IM
  rw [← hLL] at hlen
  clear hx hy hLL
  go_enter Tryz.func3, Tryz.ntmps3
  go_wp2_with fail
  refine (SP.out w).mono ?_
  rintro e w1 ⟨⟨v1, rfl, o1⟩, hB1⟩
  obtain ⟨a1, c1, rfl⟩ := own_slP o1
  have K2 := (hB1.alloc hB1.size (.cells #[.slice a1 L.length c1] 24)).alloc (by have := hB1.size; simp; omega) (.cells #[.int .i64 x, .int .i64 y] 26)
  have P3 : PB ((w1.alloc (.cells #[.slice a1 L.length c1] 24)).alloc (.cells #[.int .i64 x, .int .i64 y] 26)) w1.heap.size (.slice a1 L.length c1) := by
    show _ = _
    rw [heap_alloc_old _ _ (by simp)]
    exact heap_alloc_new w1 _
  have F4 : FB ((w1.alloc (.cells #[.slice a1 L.length c1] 24)).alloc (.cells #[.int .i64 x, .int .i64 y] 26)) (w1.heap.size + 1) (.int .i64 x) (.int .i64 y) := heap_alloc2_new w1 _ _
  have O1 := (o1.alloc (.cells #[.slice a1 L.length c1] 24)).alloc (.cells #[.int .i64 x, .int .i64 y] 26)
  have HK2 := hide K2
  have HP3 := hide P3
  have HF4 := hide F4
  have HO1 := hide O1
  have O1lt := hide (fun k h => (o1.lt k h))
  clear K2 P3 F4 O1 o1 hB1
  go_wp2_with fail
  generalize hW2 : (w1.alloc (.cells #[.slice a1 L.length c1] 24)).alloc (.cells #[.int .i64 x, .int .i64 y] 26) = W2 at HK2 HP3 HF4 HO1 ⊢
  have z2 : w1.heap.size + 1 < W2.heap.size := HF4.out.lt
  clear hW2
  refine (IM.out W2 HK2.out).mono ?_
  rintro e w3 ⟨⟨v2, rfl, o2⟩, hB3⟩
  obtain ⟨a2, c2, rfl⟩ := own_slP o2
  have X4 := (hB3.alloc hB3.size (.cells #[.slice a2 L.length c2] 24)).alloc (by have := hB3.size; simp; omega) (.cells #[.int .i64 x, .int .i64 y] 26)
  have P5 : PB ((w3.alloc (.cells #[.slice a2 L.length c2] 24)).alloc (.cells #[.int .i64 x, .int .i64 y] 26)) w3.heap.size (.slice a2 L.length c2) := by
    show _ = _
    rw [heap_alloc_old _ _ (by simp)]
    exact heap_alloc_new w3 _
  have ST := hide (show PSt w ((w3.alloc (.cells #[.slice a2 L.length c2] 24)).alloc (.cells #[.int .i64 x, .int .i64 y] 26)) w1.heap.size (w1.heap.size + 1) w3.heap.size (w3.heap.size + 1) w.heap.size a1 a2 c1 c2 L x y from
    ⟨HK2.out.trans (X4.mono HK2.out.size), HP3.out.below X4 (by omega), HF4.out.below X4 (by omega), P5, heap_alloc2_new w3 _ _, own_below HO1.out X4 (Nat.le_refl _)⟩)
  have HO2 := hide ((o2.alloc (.cells #[.slice a2 L.length c2] 24)).alloc (.cells #[.int .i64 x, .int .i64 y] 26))
  have O2lt := hide (fun k h => (o2.lt k h))
  have z3 : W2.heap.size ≤ w3.heap.size := hB3.size
  have hzw : w.heap.size ≤ W2.heap.size := HK2.out.size
  clear X4 P5 o2 hB3 HK2 HP3 HF4 HO1
  go_upto_region 5 with fail
  generalize (w3.alloc (.cells #[.slice a2 L.length c2] 24)).alloc (.cells #[.int .i64 x, .int .i64 y] 26) = W4 at ST HO2 ⊢
  have y4 : w3.heap.size + 1 < W4.heap.size := ST.out.f6.lt
  have d5 := ST.out.p5.c0
  have d3 := ST.out.p3.c0
  go_wp2_with fail
  refine (eqProgram_any a2 a1 c2 c1 L.length (insF L) W4 (by omega) (own_i3 HO2.out) (own_i3 ST.out.o1)).mono ?_
  rintro e w5 ⟨rfl, hB5⟩
  have ST5 := hide (ST.out.below hB5)
  have HO5 := hide (own_below HO2.out hB5 (Nat.le_refl _))
  have y5 : w3.heap.size + 1 < w5.heap.size := ST5.out.f6.lt
  clear hB5 d5 d3 ST HO2
  have e0 := ST5.out.f6.c0
  have e1 := ST5.out.f6.c1
  have e2 := ST5.out.f4.c0
  have e3 := ST5.out.f4.c1
  go_wp2_with fail
  refine (eqFault_any x y w5).mono ?_
  rintro e w6 ⟨rfl, hB6⟩
  have ST6 := hide (ST5.out.below hB6)
  have HO6 := hide (own_below HO5.out hB6 (Nat.le_refl _))
  have y6 : w3.heap.size + 1 < w6.heap.size := ST6.out.f6.lt
  clear hB6 e0 e1 e2 e3 ST5 HO5
  have d5 := ST6.out.p5.c0
  go_wp2_with fail
  refine (markP_any a2 c2 W2.heap.size L w6 (by omega) HO6.out (by omega)).mono ?_
  rintro e w7 ⟨rfl, G, hG1, hG2, hM, hW⟩
  have hG3 : G < w3.heap.size ∨ G = w6.heap.size := by
    rcases hG2 with h | h
    · exact .inl (O2lt.out G (by rw [h]; rfl)).2
    · exact .inr h
  have ST7 := hide (ST6.out.within hW (by omega) (by omega) (by omega) (by omega) (by omega) (fun k hk => by have := (O1lt.out k hk).2; omega))
  have HM := hide hM
  have y7 : w3.heap.size + 1 < w7.heap.size := ST7.out.f6.lt
  have HD := hide (heldP_any a2 c2 L.length G w7 (by omega) hM)
  have hq0 : ¬ ((1 + L.length * 3 : Nat) : Int) < 0 := by omega
  clear hM hW hG2 d5 ST6 HO6
  generalize ((1 + L.length * 3 : Nat) : Int) = q at hq0 HD ⊢
  have d5 := ST7.out.p5.c0
  go_wp2_with fail
  refine HD.out.mono ?_
  rintro e w8 ⟨rfl, hB8⟩
  have ST8 := hide (ST7.out.below hB8)
  have y8 : w3.heap.size + 1 < w8.heap.size := ST8.out.f6.lt
  clear hB8 d5 ST7 HD HM
  go_wp2_with fail
  refine (IM.out w8 ST8.out.K).mono ?_
  rintro e w9 ⟨⟨v3, rfl, o3⟩, hB9⟩
  obtain ⟨a3, c3, rfl⟩ := own_slP o3
  have X10 := (hB9.alloc hB9.size (.cells #[.slice a3 L.length c3] 24)).alloc (by have := hB9.size; simp; omega) (.cells #[.int .i64 x, .int .i64 y] 26)
  have ST10 := hide (ST8.out.below X10)
  have P9 : Hid (PB ((w9.alloc (.cells #[.slice a3 L.length c3] 24)).alloc (.cells #[.int .i64 x, .int .i64 y] 26)) w9.heap.size (.slice a3 L.length c3)) := by
    show _ = _
    rw [heap_alloc_old _ _ (by simp)]
    exact heap_alloc_new w9 _
  have F10 : Hid (FB ((w9.alloc (.cells #[.slice a3 L.length c3] 24)).alloc (.cells #[.int .i64 x, .int .i64 y] 26)) (w9.heap.size + 1) (.int .i64 x) (.int .i64 y)) := heap_alloc2_new w9 _ _
  have HO10 := hide ((o3.alloc (.cells #[.slice a3 L.length c3] 24)).alloc (.cells #[.int .i64 x, .int .i64 y] 26))
  clear X10 o3 hB9 ST8
  go_upto_region 16 with fail
  generalize (w9.alloc (.cells #[.slice a3 L.length c3] 24)).alloc (.cells #[.int .i64 x, .int .i64 y] 26) = W10 at ST10 P9 F10 HO10 ⊢
  have y10 : w9.heap.size + 1 < W10.heap.size := F10.out.lt
  have y10' : w3.heap.size + 1 < W10.heap.size := ST10.out.f6.lt
  have d9 := P9.out.c0
  have d3 := ST10.out.p3.c0
  go_wp2_with fail
  refine (eqProgram_any a3 a1 c3 c1 L.length (insF L) W10 (by omega) (own_i3 HO10.out) (own_i3 ST10.out.o1)).mono ?_
  rintro e w11 ⟨rfl, hB11⟩
  have ST11 := hide (ST10.out.below hB11)
  have F11 := hide (F10.out.below hB11 F10.out.lt)
  have y11 : w9.heap.size + 1 < w11.heap.size := F11.out.lt
  have y11' : w3.heap.size + 1 < w11.heap.size := ST11.out.f6.lt
  clear hB11 d9 d3 ST10 F10 HO10
  have e0 := F11.out.c0
  have e1 := F11.out.c1
  have e2 := ST11.out.f4.c0
  have e3 := ST11.out.f4.c1
  go_wp2_with fail
  refine (eqFault_any x y w11).mono ?_
  rintro e w12 ⟨rfl, hB12⟩
  have K12 := hide (ST11.out.K.trans (hB12.mono ST11.out.K.size))
  clear hB12 e0 e1 e2 e3
  go_wp2
  go_ret
  exact ⟨rfl, K12.out⟩

end Go.Proofs.YtpefignfaooonaaGreatDoor.Vp
