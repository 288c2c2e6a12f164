/-
  FnExactCut: the law.
-/
import Derived.Test.YtkikpcklccdihaaDoorZCuMark
import Derived.Test.YtkikpcklccdihaaDoorZCuSpec
import Derived.Deep.RegionHeld3
namespace Go.Proofs.YtkikpcklccdihaaDoor.Vp
open Go.RowKit Go.Proofs.YtkikpcklccdihaaDoor.Ca

theorem OwnDeed2.rowS {w : World} {g n N : Nat} {f : Nat → Deed} (h : OwnDeed2 w g n n N f) : RowDeedS w g 0 n f := by
  obtain ⟨F, G0, G1, hr, ha, hN, hF⟩ := h
  refine ⟨hr.lt, fun i hi => ?_⟩
  obtain ⟨p0, p1, p2, p3, ⟨s0, r0, u0⟩, ⟨s1, r1, u1⟩⟩ := hF i hi
  refine ⟨?_, ?_, ?_, ?_, ?_, ?_⟩
  · rw [Nat.zero_add, hr.cell (by omega), p0]
  · rw [Nat.zero_add, hr.cell (by omega), p1]
  · rw [Nat.zero_add, hr.cell (by omega), p2]
  · rw [Nat.zero_add, hr.cell (by omega), p3]
  · exact ⟨_, _, _, by rw [Nat.zero_add, hr.cell (by omega), s0], r0.row⟩
  · exact ⟨_, _, _, by rw [Nat.zero_add, hr.cell (by omega), s1], r1.row⟩
theorem box_one (w : World) (v : Value) (t : TypeId) : (w.alloc (.cells #[v] t)).cell? ⟨w.heap.size, 0, none⟩ = some v ∧ w.heap.size < (w.alloc (.cells #[v] t)).heap.size := by
  constructor <;> simp
/-- What stands once the answer is there: what lay there with the first answer is as it was; the boxes of the copy and of the answer; the answer. -/
structure CutSt (w4 W : World) (b7 b8 base : Nat) (n x0 : Nat) (ga : Option Addr) (gc : Nat) (R : List DR) : Prop where
  K : Below w4.heap.size w4 W
  c7 : W.cell? ⟨b7, 0, none⟩ = some (.slice (some ⟨x0, 0, none⟩) n n) ∧ b7 < W.heap.size
  c8 : W.cell? ⟨b8, 0, none⟩ = some (.slice ga R.length gc) ∧ b8 < W.heap.size
  D : DRow W base (.slice ga R.length gc) R
theorem CutSt.below {w4 W W' : World} {b7 b8 base n x0 : Nat} {ga : Option Addr} {gc : Nat} {R : List DR} (s : CutSt w4 W b7 b8 base n x0 ga gc R) (hb : Below W.heap.size W W') : CutSt w4 W' b7 b8 base n x0 ga gc R :=
  ⟨s.K.trans (hb.mono s.K.size), ⟨(hb.cell (p := ⟨b7, 0, none⟩) s.c7.2).trans s.c7.1, Nat.lt_of_lt_of_le s.c7.2 hb.size⟩, ⟨(hb.cell (p := ⟨b8, 0, none⟩) s.c8.2).trans s.c8.1, Nat.lt_of_lt_of_le s.c8.2 hb.size⟩, s.D.below hb (Nat.le_refl _)⟩
theorem CutSt.touch {w4 W W' : World} {b7 b8 base n x0 : Nat} {ga : Option Addr} {gc : Nat} {R : List DR} (s : CutSt w4 W b7 b8 base n x0 ga gc R) (ht : Touch (fun x => x0 ≤ x ∧ x < b7) W W') (h4 : w4.heap.size ≤ x0) (h7 : b7 ≤ base) (h8 : b7 ≤ b8) : CutSt w4 W' b7 b8 base n x0 ga gc R :=
  ⟨s.K.trans (ht.toBelow (fun x hx => by omega) s.K.size), ⟨(ht.cell (p := ⟨b7, 0, none⟩) s.c7.2 (by show ¬ (x0 ≤ b7 ∧ b7 < b7); omega)).trans s.c7.1, Nat.lt_of_lt_of_le s.c7.2 ht.size⟩, ⟨(ht.cell (p := ⟨b8, 0, none⟩) s.c8.2 (by show ¬ (x0 ≤ b8 ∧ b8 < b7); omega)).trans s.c8.1, Nat.lt_of_lt_of_le s.c8.2 ht.size⟩, s.D.touch ht (fun k hk => by omega)⟩

set_option maxRecDepth 100000 in
set_option maxHeartbeats 8000000 in
theorem law_cut (a : Option Addr) (n cap : Nat) (f : Nat → Deed) (t : ByteArray) (w : World) (hn : (n : Int) ≤ 9223372036854775807) (hv : SlDeed w a n f) (hs : ∀ i, i < n → SizedDeed (f i)) (hT : Tab w) (ht : t.size ≤ maxLen) :
    Calls Tryd.prog 3 #[.agg #[.slice a n cap], .string t] w fun e w' => e = .returned (.bool true) ∧ Below w.heap.size w w' := by
  have HV := hide hv
  have HS := hide hs
  have HT := hide hT
  have htb := hT.1
  have ht2 : (t.size : Int) ≤ 9223372036854775807 := by unfold maxLen at ht; omega
  clear hv hs hT ht
  obtain ⟨C, hC⟩ : ∃ C, C = cutD f n t := ⟨_, rfl⟩
  have hCl : C.length ≤ 400 := by rw [hC]; exact cut_len
  have HC := hide hC
  clear hC
  have B0 := hide ((Below.refl w.heap.size w).alloc (Nat.le_refl w.heap.size) (.cells #[.slice a n cap] 24))
  go_enter Tryd.func3, Tryd.ntmps3
  by_cases hbig : (1048576 : Int) < t.size
  · go_wp2
    go_ret
    exact ⟨rfl, B0.out⟩
  go_wp2_with fail
  refine (szAccount_any a n cap f 1048576 _ (by omega) (by omega) hn (HV.out.below B0.out (Nat.le_refl _)) HS.out).mono ?_
  rintro e w1 ⟨r, rfl, hr1, hr2, hr3, hB⟩
  have c10 : w1.cell? ⟨w.heap.size, 0, none⟩ = some (.slice a n cap) := (hB.cell (p := ⟨w.heap.size, 0, none⟩) (by simp)).trans (by simp)
  have z1 : w.heap.size < w1.heap.size := by have := hB.size; simp at this; omega
  have B1 := hide (B0.out.trans (hB.mono (by simp)))
  clear hB B0
  by_cases hr : r < 0
  · clear hr3
    go_wp2
    go_ret
    exact ⟨rfl, B1.out⟩
  obtain ⟨hm0, hF⟩ := hr3 (by omega)
  have HF := hide hF
  have FC : Hid (∀ i, i < C.length → FitsDeed (dF C i)) := fun i hi => by
    have := cut_fits (t := t) hF
    rw [← HC.out] at this
    exact this _ (dF_mem hi)
  have FR : Hid (∀ R : List DR, R.map (·.1) = C → ∀ r ∈ R, FitsDeed r.1) := fun R hR r hr => by
    have := cut_fits (t := t) hF
    rw [← HC.out, ← hR] at this
    exact this _ (List.mem_map_of_mem hr)
  have hp : n ≤ 1048576 := by omega
  clear hr3 hF hm0
  go_wp2_with fail
  refine (toAccount_anyO a n cap f _ hp (HV.out.below B1.out (Nat.le_refl _)) HF.out).mono ?_
  rintro e w2 ⟨g, rfl, hS, hg, hB⟩
  have c20 := (hB.cell (p := ⟨w.heap.size, 0, none⟩) z1).trans c10
  have z2 : w.heap.size < w2.heap.size := Nat.lt_of_lt_of_le z1 hB.size
  have B2 := hide (B1.out.trans (hB.mono B1.out.size))
  have S0 := hide hS.rowS
  clear hB hS hg c10
  go_wp2_with fail
  refine (specCut_any g 0 n n f t _ (by omega) S0.out HF.out HS.out).mono ?_
  rintro e w3 ⟨pa, pc, rfl, hP, hB⟩
  rw [← HC.out] at hP ⊢
  have c30 := (hB.cell (p := ⟨w.heap.size, 0, none⟩) z2).trans c20
  have z3 : w.heap.size < w3.heap.size := Nat.lt_of_lt_of_le z2 hB.size
  have B3 := hide (B2.out.trans (hB.mono B2.out.size))
  have P3 := hide hP
  clear hB S0 c20 hP
  have A4 := hide ((Below.refl w3.heap.size w3).alloc (Nat.le_refl _) (.cells #[.slice pa C.length pc] 28))
  have c40 := (A4.out.cell (p := ⟨w.heap.size, 0, none⟩) z3).trans c30
  have x6 := box_one w3 (.slice pa C.length pc) 28
  have B4 := hide (B3.out.trans (A4.out.mono B3.out.size))
  have P4 := hide (P3.out.below A4.out (Nat.le_refl _))
  have z4 : w.heap.size < (w3.alloc (.cells #[.slice pa C.length pc] 28)).heap.size := Nat.lt_of_lt_of_le z3 A4.out.size
  have HX6 := hide x6
  clear x6 c30
  go_wp2_with fail
  generalize w3.alloc (.cells #[.slice pa C.length pc] 28) = w4 at A4 c40 B4 P4 z4 HX6 ⊢
  generalize w3.heap.size = b6 at HX6 ⊢
  clear A4 P3 B3
  have HC40 := hide c40
  refine (toAccount_anyO a n cap f _ hp (HV.out.below B4.out (Nat.le_refl _)) HF.out).mono ?_
  rintro e w5 ⟨x0, rfl, hS, hx04, hB⟩
  have hx05 := hS.lt
  have A6 := hide ((Below.refl w5.heap.size w5).alloc (Nat.le_refl _) (.cells #[.slice (some ⟨x0, 0, none⟩) n n] 28))
  have K6 := hide (hB.trans (A6.out.mono hB.size))
  have hz45 : w4.heap.size ≤ w5.heap.size := hB.size
  have O6 := hide (hS.below A6.out (Nat.le_refl _))
  have HX7 := hide (box_one w5 (.slice (some ⟨x0, 0, none⟩) n n) 28)
  have x7 := HX7.out.1
  clear hB hS A6 c40
  go_wp2_with fail
  generalize w5.alloc (.cells #[.slice (some ⟨x0, 0, none⟩) n n] 28) = w6 at K6 O6 x7 HX7 ⊢
  generalize w5.heap.size = b7 at O6 x7 HX7 hz45 hx05 ⊢
  have CUT : Hid (∀ V y, Below w4.heap.size w4 V → RowDeedS V y 0 n f → Calls Tryd.prog 7 #[.agg #[.slice (some ⟨y, 0, none⟩) n n], .string t] V fun e w' => ∃ a c R, e = .returned (.agg #[.slice a R.length c]) ∧ DRow w' (V.heap.size + 3) (.slice a R.length c) R ∧ R.map (·.1) = C ∧ Below V.heap.size V w') := fun V y hV hy => by
    rw [HC.out]
    exact implCut_any y 0 n n f t V (by omega) hy (by omega) HF.out (HT.out.below (B4.out.trans (hV.mono B4.out.size)) htb)
  refine (CUT.out _ x0 K6.out O6.out.rowS).mono ?_
  rintro e w7 ⟨ga, gc, R, rfl, hD7, hR, hB⟩
  have hRl : R.length = C.length := by rw [← hR]; simp
  have HRL := hide hRl
  have hRn : (R.length : Int) ≤ 1048576 := by omega
  have FRR := hide (FR.out R hR)
  have D7 := hide hD7
  have A8 := hide ((Below.refl w7.heap.size w7).alloc (Nat.le_refl _) (.cells #[.slice ga R.length gc] 28))
  have HX8 := box_one w7 (.slice ga R.length gc) 28
  have E8 := hide (hB.trans (A8.out.mono hB.size))
  have h67 : w6.heap.size ≤ w7.heap.size := hB.size
  have hb76 : b7 < w6.heap.size := HX7.out.2
  have ST : Hid (CutSt w4 (w7.alloc (.cells #[.slice ga R.length gc] 28)) b7 w7.heap.size (w6.heap.size + 3) n x0 ga gc R) := ⟨K6.out.trans (E8.out.mono K6.out.size), ⟨(E8.out.cell (p := ⟨b7, 0, none⟩) hb76).trans HX7.out.1, Nat.lt_of_lt_of_le hb76 E8.out.size⟩, HX8, hD7.below A8.out (Nat.le_refl _)⟩
  have O8 := hide (O6.out.below E8.out (Nat.le_refl _))
  have PP : Hid (∀ V, Below w4.heap.size w4 V → SlDeed V pa C.length (dF C)) := fun V hV => P4.out.below hV (Nat.le_refl _)
  have EQ : Hid (∀ V ha hc (Q : List DR) base, Below w4.heap.size w4 V → Q.map (·.1) = C → DRow V base (.slice ha Q.length hc) Q → Calls Tryd.prog 8 #[.agg #[.slice ha Q.length hc], .agg #[.slice pa C.length pc]] V fun e w' => e = .returned (.bool true) ∧ Below V.heap.size V w') := fun V ha hc Q base hV hQ hD => by
    have hl : Q.length = C.length := by rw [← hQ]; simp
    have h1 := hD.deeds
    rw [hQ, hl] at h1
    rw [hl]
    exact eqAccount_any ha pa hc pc C.length (dF C) V (by omega) h1 (PP.out V hV) FC.out
  have HRR := hide hR
  have c8 := HX8.1
  have c6 : (w7.alloc (.cells #[.slice ga R.length gc] 28)).cell? ⟨b6, 0, none⟩ = some (.slice pa C.length pc) := (ST.out.K.cell (p := ⟨b6, 0, none⟩) HX6.out.2).trans HX6.out.1
  clear hB hD7 hR hRl E8 A8 HX8 x7
  go_wp2_with fail
  generalize w7.alloc (.cells #[.slice ga R.length gc] 28) = w8 at ST O8 c8 c6 ⊢
  obtain ⟨b8, hb8⟩ : ∃ b8, b8 = w7.heap.size := ⟨_, rfl⟩
  rw [← hb8] at ST c8 h67 ⊢
  have HB8 := hide hb8
  clear hb8
  refine (EQ.out _ ga gc R _ ST.out.K HRR.out ST.out.D).mono ?_
  rintro e w9 ⟨rfl, hB⟩
  have ST9 := hide (ST.out.below hB)
  have O9 := hide (O8.out.below hB (Nat.le_refl _))
  clear hB ST O8 c8 c6
  have SK : Hid (∀ V, Below w9.heap.size w9 V → V.cell? ⟨b7, 0, none⟩ = some (.slice (some ⟨x0, 0, none⟩) n n) ∧ V.cell? ⟨w.heap.size, 0, none⟩ = some (.slice a n cap)) := fun V hV => ⟨((ST9.out.below hV).c7).1, ((ST9.out.below hV).K.cell (p := ⟨w.heap.size, 0, none⟩) z4).trans HC40.out⟩
  have BW : Hid (∀ V, Below w4.heap.size w4 V → Below w.heap.size w V) := fun V hV => B4.out.trans (hV.mono B4.out.size)
  have TO : Hid (∀ V, Below w9.heap.size w9 V → Calls Tryd.prog 6 #[.agg #[.slice a n cap]] V fun e w' => ∃ g, e = .returned (.agg #[.slice (some ⟨g, 0, none⟩) n n]) ∧ OwnDeed w' g n n f ∧ V.heap.size ≤ g ∧ Below V.heap.size V w') := fun V hV => toAccount_any a n cap f V hp (HV.out.below (BW.out _ (ST9.out.below hV).K) (Nat.le_refl _)) HF.out
  have x7 := ST9.out.c7.1
  have xA := (SK.out _ (Below.refl _ _)).2
  go_wp2_with fail
  clear x7 xA
  go_region_held3 (fun V => V.cell? ⟨b7, 0, none⟩ = some (.slice (some ⟨x0, 0, none⟩) n n) ∧ V.cell? ⟨w.heap.size, 0, none⟩ = some (.slice a n cap)) (first | exact SK.out _ (Below.refl _ _) | exact SK.out _ (Below.refl _ _).drew | exact SK.out _ B10.out | exact SK.out _ B11.out)
    (first
    | (go_at_call 6; refine (TO.out _ (by first | exact (Below.refl _ _).drew | exact Below.refl _ _)).mono ?_; rintro e w10 ⟨i0, rfl, hS, hg, hB⟩; have B10 : Hid (Below w9.heap.size w9 w10) := ⟨hB.os, hB.tape, hB.output, hB.size, hB.block⟩; have T0 := hide hS.row.sl; clear hS hg hB)
    | (go_at_call 8; refine (eqAccount_any (some ⟨x0, 0, none⟩) (some ⟨i0, 0, none⟩) n n n f _ hp (O9.out.below B10.out (Nat.le_refl _)).row.sl T0.out HF.out).mono ?_; rintro e w11 ⟨rfl, hB⟩; have B11 : Hid (Below w9.heap.size w9 w11) := B10.out.trans (Below.mono (⟨hB.os, hB.tape, hB.output, hB.size, hB.block⟩ : Below w10.heap.size w10 w11) B10.out.size); clear hB))
  have ST11 := hide (ST9.out.below B11.out)
  have O11 := hide (O9.out.below B11.out (Nat.le_refl _))
  clear SK TO ST9 O9 B10 B11 T0
  have x7 := ST11.out.c7.1
  go_simp
  go_wp2_with fail
  refine (markAccount_own x0 n b7 f _ (by omega) HF.out O11.out hx05).mono ?_
  rintro e w12 ⟨q1, rfl, hT12⟩
  have ST12 := hide (ST11.out.touch hT12 hx04 (by omega) (by omega))
  clear hT12 ST11 O11 x7
  have hq1 : ¬ (q1 : Int) < 0 := by omega
  have c8 := ST12.out.c8.1
  have c6 := (ST12.out.K.cell (p := ⟨b6, 0, none⟩) HX6.out.2).trans HX6.out.1
  go_wp2_with fail
  refine (EQ.out _ ga gc R _ ST12.out.K HRR.out ST12.out.D).mono ?_
  rintro e w13 ⟨rfl, hB⟩
  have ST13 := hide (ST12.out.below hB)
  clear hB c8 c6 ST12 hq1
  have c8 := ST13.out.c8.1
  go_wp2_with fail
  refine (mark_drow D7.out ST13.out.D FRR.out hRn).mono ?_
  rintro e w14 ⟨m, rfl, hT14, hM14⟩
  have K14 := hide (ST13.out.K.trans (hT14.toBelow (B := w4.heap.size) (fun x hx => by have := K6.out.size; omega) ST13.out.K.size))
  have c8' := (hT14.cell (p := ⟨b8, 0, none⟩) ST13.out.c8.2 (by show ¬ (w6.heap.size + 3 ≤ b8 ∧ b8 < w7.heap.size); have := HB8.out; omega)).trans c8
  have M14 := hide hM14
  clear hT14 hM14 c8
  go_wp2_with fail
  refine (held_drow M14.out hRn).mono ?_
  rintro e w15 ⟨rfl, hB⟩
  have K15 := hide (K14.out.trans (hB.mono K14.out.size))
  have hm0 : ¬ (m : Int) < 0 := by omega
  have xA := (K15.out.cell (p := ⟨w.heap.size, 0, none⟩) z4).trans HC40.out
  clear hB K14 c8' ST13
  go_wp2_with fail
  refine (toAccount_anyO a n cap f _ hp (HV.out.below (BW.out _ K15.out) (Nat.le_refl _)) HF.out).mono ?_
  rintro e w16 ⟨y0, rfl, hS, hg, hB⟩
  have K16 := hide (K15.out.trans (hB.mono K15.out.size))
  have S16 := hide hS.rowS
  clear hS hg hB K15 xA
  go_wp2_with fail
  refine (CUT.out _ y0 K16.out S16.out).mono ?_
  rintro e w17 ⟨ha, hc, Q, rfl, hD17, hQ, hB⟩
  have A18 := hide ((Below.refl w17.heap.size w17).alloc (Nat.le_refl _) (.cells #[.slice ha Q.length hc] 28))
  have K18 := hide ((K16.out.trans (hB.mono K16.out.size)).trans (A18.out.mono (Nat.le_trans K16.out.size hB.size)))
  have D18 := hide (hD17.below A18.out (Nat.le_refl _))
  have HQ := hide hQ
  have c12 := (box_one w17 (.slice ha Q.length hc) 28).1
  have c6 := (K18.out.cell (p := ⟨b6, 0, none⟩) HX6.out.2).trans HX6.out.1
  clear hD17 hQ hB A18
  go_wp2_with fail
  generalize w17.alloc (.cells #[.slice ha Q.length hc] 28) = w18 at K18 D18 c12 c6 ⊢
  refine (EQ.out _ ha hc Q _ K18.out HQ.out D18.out).mono ?_
  rintro e w19 ⟨rfl, hB⟩
  have B19 := hide (BW.out _ (K18.out.trans (hB.mono K18.out.size)))
  go_wp2
  go_ret
  exact ⟨rfl, B19.out⟩

end Go.Proofs.YtkikpcklccdihaaDoor.Vp
