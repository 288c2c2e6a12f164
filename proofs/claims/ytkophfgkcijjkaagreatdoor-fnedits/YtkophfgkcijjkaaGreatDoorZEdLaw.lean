import Derived.Test.YtkophfgkcijjkaaGreatDoorZDsPutT
import Derived.Test.YtkophfgkcijjkaaGreatDoorYT
import Derived.Test.YtkophfgkcijjkaaGreatDoorYS
import Derived.Test.YtkophfgkcijjkaaGreatDoorYA
import Derived.Test.YtkophfgkcijjkaaGreatDoorYF
import Derived.Test.YtkophfgkcijjkaaGreatDoorYE
namespace Go.Proofs.YtkophfgkcijjkaaGreatDoor.Vp
open Go.RowKit Go.Proofs.YtkophfgkcijjkaaGreatDoor.Ca
def SB (V : World) (b : Nat) (v0 v1 : Value) : Prop := V.heap[b]? = some (.cells #[v0, v1] 26 (0, 0))
theorem SB.c0 {V : World} {b : Nat} {v0 v1 : Value} (h : SB V b v0 v1) : V.cell? ⟨b, 0, none⟩ = some v0 := by
  have h' : V.heap[b]? = some (.cells #[v0, v1] 26 (0, 0)) := h
  simp [World.cell?, h']
theorem SB.c1 {V : World} {b : Nat} {v0 v1 : Value} (h : SB V b v0 v1) : V.cell? ⟨b, 1, none⟩ = some v1 := by
  have h' : V.heap[b]? = some (.cells #[v0, v1] 26 (0, 0)) := h
  simp [World.cell?, h']
theorem SB.below {V U : World} {b B : Nat} {v0 v1 : Value} (h : SB V b v0 v1) (hb : Below B V U) (hB : V.heap.size ≤ B) : SB U b v0 v1 :=
  (hb.block b (Nat.lt_of_lt_of_le (heap_in h) hB)).trans h
def PBx (V : World) (b : Nat) (v0 : Value) : Prop := V.heap[b]? = some (.cells #[v0] 31 (0, 0))
theorem PBx.c0 {V : World} {b : Nat} {v0 : Value} (h : PBx V b v0) : V.cell? ⟨b, 0, none⟩ = some v0 := by
  have h' : V.heap[b]? = some (.cells #[v0] 31 (0, 0)) := h
  simp [World.cell?, h']
theorem PBx.below {V U : World} {b B : Nat} {v0 : Value} (h : PBx V b v0) (hb : Below B V U) (hB : V.heap.size ≤ B) : PBx U b v0 :=
  (hb.block b (Nat.lt_of_lt_of_le (heap_in h) hB)).trans h
structure PP (V : World) (pb g pm pc : Nat) (fp : Nat → Ins) : Prop where
  p : PBx V pb (.slice (some ⟨g, 0, none⟩) pm pc)
  i : RowIns V g 0 pm fp
theorem PP.below {V U : World} {pb g pm pc B : Nat} {fp : Nat → Ins} (h : PP V pb g pm pc fp) (hb : Below B V U) (hB : V.heap.size ≤ B) : PP U pb g pm pc fp := ⟨h.p.below hb hB, h.i.below hb hB⟩
structure PR (V : World) (b : Nat) (a0 : Option Addr) (c0 : Nat) (a1 : Option Addr) (c1 b' : Nat) (a0' : Option Addr) (c0' : Nat) (a1' : Option Addr) (c1' : Nat) (LS : List Source) (LT : List Target) : Prop where
  x : SB V b (.slice a0 LS.length c0) (.slice a1 LT.length c1)
  y : SB V b' (.slice a0' LS.length c0') (.slice a1' LT.length c1')
  m : MSp V a0 c0 a1 c1 LS LT
  m' : MSp V a0' c0' a1' c1' LS LT
theorem PR.below {V U : World} {b c0 c1 b' c0' c1' B : Nat} {a0 a1 a0' a1' : Option Addr} {LS : List Source} {LT : List Target} (h : PR V b a0 c0 a1 c1 b' a0' c0' a1' c1' LS LT) (hb : Below B V U) (hB : V.heap.size ≤ B) : PR U b a0 c0 a1 c1 b' a0' c0' a1' c1' LS LT :=
  ⟨h.x.below hb hB, h.y.below hb hB, h.m.below hb hB, h.m'.below hb hB⟩
theorem field_code (k : Int) (t : ByteArray) (a : Option Addr) (c : Nat) (w : World) : (Instr.field 41 (.agg #[.int .i64 k, .string t, .slice a 0 c]) 0).run Tryz.prog w = .ok (.int .i64 k) w := by kernel_rfl
theorem wSpace_none (a0 a1 : Option Addr) (c0 c1 : Nat) (W : World) :
    Calls Tryz.prog 12 #[.agg #[.slice a0 0 c0, .slice a1 0 c1], .agg #[.slice none 0 0, .slice none 0 0]] W fun e w' => e = .returned (.bool true) ∧ Below W.heap.size W w' :=
  wSpace_same 0 c0 0 c1 0 0 a0 a1 none none (fun _ => ⟨⟨#[]⟩, ⟨#[]⟩⟩) (fun _ => ⟨⟨#[]⟩, 0, fun _ => ⟨0, ⟨#[]⟩, 0⟩⟩) W (by omega) (by omega) (.inl rfl) (.inl rfl) (fun i hi => absurd hi (by omega)) (fun i hi => absurd hi (by omega)) (fun i hi => absurd hi (by omega))
set_option maxRecDepth 100000 in
set_option maxHeartbeats 8000000 in
theorem law_big (a : Option Addr) (n cap : Nat) (b : Option Addr) (m cap2 : Nat) (w : World) (h : 1048576 < (n : Int) ∨ 1048576 < (m : Int)) :
    Calls Tryz.prog 3 #[.slice a n cap, .slice b m cap2] w fun e w' => e = .returned (.bool true) ∧ Below w.heap.size w w' := by
  by_cases h1 : 1048576 < (n : Int)
  · go_enter Tryz.func3, Tryz.ntmps3
    go_wp2
    go_ret
    exact ⟨rfl, Below.refl _ _⟩
  · have h2 : 1048576 < (m : Int) := h.resolve_left h1
    go_enter Tryz.func3, Tryz.ntmps3
    go_wp2
    go_ret
    exact ⟨rfl, Below.refl _ _⟩
set_option maxRecDepth 100000 in
set_option maxHeartbeats 8000000 in
theorem law_edits (a : Option Addr) (n cap : Nat) (b : Option Addr) (m cap2 : Nat) (w : World) (hn : (n : Int) ≤ 9223372036854775807) (hm : (m : Int) ≤ 9223372036854775807) (hc : n ≤ cap) (hc2 : m ≤ cap2) (hS : ByteSl w a n) (hS2 : ByteSl w b m) (hT : Tab w) (hT2 : Tab2 w) (hP : Pow w) :
    Calls Tryz.prog 3 #[.slice a n cap, .slice b m cap2] w fun e w' => e = .returned (.bool true) ∧ Below w.heap.size w w' := by
  by_cases hbig : 1048576 < (n : Int) ∨ 1048576 < (m : Int)
  · exact law_big a n cap b m cap2 w hbig
  have h1 : ¬ 1048576 < (n : Int) := fun h => hbig (.inl h)
  have h2 : ¬ 1048576 < (m : Int) := fun h => hbig (.inr h)
  have LY := hide (fun V (hV : Below w.heap.size w V) => (⟨hT.below hV hT.1, hT2.below hV hT2.1, hP.below hV (Nat.le_refl _)⟩ : Tab V ∧ Tab2 V ∧ Pow V))
  have DS := hide (drawPutS_any a n cap w (by omega) hc hS)
  have DT := hide (fun V (hV : Below w.heap.size w V) => drawPutT_any b m cap2 V (by omega) hc2 (hS2.below hV (Nat.le_refl _)))
  clear hT hT2 hP hS hS2 hc hc2 hbig
  go_enter Tryz.func3, Tryz.ntmps3
  go_wp2_with fail
  refine DS.out.mono ?_
  rintro e w1 ⟨a0, n0, c0, f0, a1, n1, c1, f1, t, tx, rfl, hH, hB1⟩
  clear DS
  have hn0 := hH.hn0
  have hn1 := hH.hn1
  have HFT := hide (show ∀ i, i < n1 → FitsTarget (f1 i) from fun i hi => by have := (hH.fit i hi).1; unfold FitsTarget; omega)
  have HSZ := hide (show ∀ i, i < n1 → ∀ j, j < (f1 i).actN → ((f1 i).act j).s.size ≤ maxLen from fun i hi j hj => by have := (hH.fit i hi).2 j hj; unfold maxLen; omega)
  have A1 := (Below.refl w1.heap.size w1).alloc (Nat.le_refl _) (.cells #[.slice a0 n0 c0, .slice a1 n1 c1] 26)
  have K1 := hide (hB1.trans (A1.mono hB1.size))
  have H1 := hide (hH.agr (agr_below A1 (Nat.le_refl _)))
  have X1 : Hid (SB (w1.alloc (.cells #[.slice a0 n0 c0, .slice a1 n1 c1] 26)) w1.heap.size (.slice a0 n0 c0) (.slice a1 n1 c1)) := heap_alloc_new w1 _
  clear A1 hH hB1
  have PM := hide (fun h => put_made (n0 := n0) (f0 := f0) (n1 := n1) (f1 := f1) (t := t) (tx := tx) h)
  have PZ := hide (putS_sml (n0 := n0) (f0 := f0) (n1 := n1) (f1 := f1) (t := t) (tx := tx))
  have PN : Hid (putC n0 f0 n1 f1 t tx ≠ 0 → putS n0 f0 n1 f1 t tx = [] ∧ putT n0 f0 n1 f1 t tx = []) := fun h => ⟨by rw [putS, if_neg h], by rw [putT, if_neg h]⟩
  have CI := hide (implPutS_any a0 n0 c0 f0 a1 n1 c1 f1 t tx)
  have CS := hide (specPutS_any a0 n0 c0 f0 a1 n1 c1 f1 t tx)
  generalize putC n0 f0 n1 f1 t tx = C at PM PN CI CS
  generalize putS n0 f0 n1 f1 t tx = LS at PM PN PZ CI CS
  generalize putT n0 f0 n1 f1 t tx = LT at PM PN PZ CI CS
  go_wp2_with fail
  generalize w1.alloc (.cells #[.slice a0 n0 c0, .slice a1 n1 c1] 26) = W1 at K1 H1 X1 ⊢
  refine (DT.out W1 K1.out).mono ?_
  rintro e w2 ⟨p0, q0, r0, p1, q1, r1, key, g, pm, pc, fp, rfl, hI, hpm, hps, hB⟩
  clear DT
  have HPS := hide (show ∀ j, j < pm → (fp j).s.size ≤ maxLen from fun j hj => by have := hps j hj; unfold maxLen; omega)
  have A2 := ((Below.refl w2.heap.size w2).alloc (Nat.le_refl _) (.cells #[.slice p0 q0 r0, .slice p1 q1 r1] 26)).alloc (by simp) (.cells #[.slice (some ⟨g, 0, none⟩) pm pc] 31)
  have hAB := hB.trans (A2.mono hB.size)
  have K2 := hide (K1.out.trans (hAB.mono K1.out.size))
  have H2 := hide (H1.out.agr (agr_below hAB (Nat.le_refl _)))
  have X2 := hide (X1.out.below hAB (Nat.le_refl _))
  have P2 : Hid (PP ((w2.alloc (.cells #[.slice p0 q0 r0, .slice p1 q1 r1] 26)).alloc (.cells #[.slice (some ⟨g, 0, none⟩) pm pc] 31)) (w2.heap.size + 1) g pm pc fp) := by
    refine ⟨?_, hI.below A2 (Nat.le_refl _)⟩
    have h2 := heap_alloc_new (w2.alloc (.cells #[.slice p0 q0 r0, .slice p1 q1 r1] 26)) (.cells #[.slice (some ⟨g, 0, none⟩) pm pc] 31)
    rw [show (w2.alloc (.cells #[.slice p0 q0 r0, .slice p1 q1 r1] 26)).heap.size = w2.heap.size + 1 by simp] at h2
    exact h2
  clear A2 hAB hB hI hps K1 H1 X1
  go_upto_region 5 with fail
  generalize (w2.alloc (.cells #[.slice p0 q0 r0, .slice p1 q1 r1] 26)).alloc (.cells #[.slice (some ⟨g, 0, none⟩) pm pc] 31) = W2 at K2 H2 X2 P2 ⊢
  generalize w2.heap.size + 1 = pb at P2 ⊢
  have x0 := X2.out.c0
  have x1 := X2.out.c1
  go_wp2_with fail
  refine (CI.out W2 (by omega) (by omega) (H2.out.sl W2 (Agr.refl _ _)).1 (H2.out.sl W2 (Agr.refl _ _)).2 HFT.out (LY.out W2 K2.out).1).mono ?_
  rintro e w3 ⟨v0, v1, RR, rfl, hs, ht, hm, hB⟩
  obtain ⟨d0, e0, d1, e1, rfl, rfl, hM⟩ := msp_of hs ht hm
  clear x0 x1 hs ht hm
  have A3 := (Below.refl w3.heap.size w3).alloc (Nat.le_refl _) (.cells #[.slice d0 LS.length e0, .slice d1 LT.length e1] 26)
  have hAB := hB.trans (A3.mono hB.size)
  have hX : SB (w3.alloc (.cells #[.slice d0 LS.length e0, .slice d1 LT.length e1] 26)) w3.heap.size (.slice d0 LS.length e0) (.slice d1 LT.length e1) := heap_alloc_new w3 _
  have hMM := hM.below A3 (Nat.le_refl _)
  clear hM A3 hB
  have K3 := hide (K2.out.trans (hAB.mono K2.out.size))
  have P3 := hide (P2.out.below hAB (Nat.le_refl _))
  have H3 := hide (H2.out.agr (agr_below hAB (Nat.le_refl _)))
  have X3 := hide (X2.out.below hAB (Nat.le_refl _))
  have O3 := hide hX
  have M3 := hide hMM
  clear hAB hX hMM K2 H2 X2 P2 CI
  go_upto_region 6 with fail
  generalize w3.alloc (.cells #[.slice d0 LS.length e0, .slice d1 LT.length e1] 26) = W3 at K3 H3 X3 P3 O3 M3 ⊢
  have x0 := X3.out.c0
  have x1 := X3.out.c1
  go_wp2_with fail
  refine (CS.out W3 (by omega) (by omega) (H3.out.sl W3 (Agr.refl _ _)).1 (H3.out.sl W3 (Agr.refl _ _)).2 HFT.out HSZ.out).mono ?_
  rintro e w4 ⟨v0, v1, RR, rfl, hs, ht, hm, hB⟩
  obtain ⟨d0', e0', d1', e1', rfl, rfl, hM⟩ := msp_of hs ht hm
  clear x0 x1 hs ht hm
  have A3 := (Below.refl w4.heap.size w4).alloc (Nat.le_refl _) (.cells #[.slice d0' LS.length e0', .slice d1' LT.length e1'] 26)
  have hAB := hB.trans (A3.mono hB.size)
  have hX : SB (w4.alloc (.cells #[.slice d0' LS.length e0', .slice d1' LT.length e1'] 26)) w4.heap.size (.slice d0' LS.length e0') (.slice d1' LT.length e1') := heap_alloc_new w4 _
  have hMM := hM.below A3 (Nat.le_refl _)
  clear hM A3 hB
  have K4 := hide (K3.out.trans (hAB.mono K3.out.size))
  have P4 := hide (P3.out.below hAB (Nat.le_refl _))
  have Q4 : Hid (PR (w4.alloc (.cells #[.slice d0' LS.length e0', .slice d1' LT.length e1'] 26)) w3.heap.size d0 e0 d1 e1 w4.heap.size d0' e0' d1' e1' LS LT) := ⟨O3.out.below hAB (Nat.le_refl _), hX, M3.out.below hAB (Nat.le_refl _), hMM⟩
  clear hAB hX hMM K3 H3 X3 P3 O3 M3 CS HFT HSZ
  have hcc : (C == C) = true := by simp
  go_upto_region 7 with fail
  generalize w4.alloc (.cells #[.slice d0' LS.length e0', .slice d1' LT.length e1'] 26) = W4 at K4 P4 Q4 ⊢
  generalize w3.heap.size = ob at Q4 ⊢
  generalize w4.heap.size = zb at Q4 ⊢
  have x0 := Q4.out.x.c0
  have x1 := Q4.out.x.c1
  have y0 := Q4.out.y.c0
  have y1 := Q4.out.y.c1
  go_wp2_with fail
  refine (wSpace_two Q4.out.m Q4.out.m' PZ.out).mono ?_
  rintro e w5 ⟨rfl, hAB⟩
  clear x0 x1 y0 y1
  have K5 := hide (K4.out.trans (hAB.mono K4.out.size))
  have P5 := hide (P4.out.below hAB (Nat.le_refl _))
  have Q5 := hide (Q4.out.below hAB (Nat.le_refl _))
  clear hAB K4 P4 Q4
  by_cases hC : C = 0
  case neg =>
    obtain ⟨rfl, rfl⟩ := PN.out hC
    have hc0 : (C == 0) = false := by simpa using hC
    have x0 := Q5.out.x.c0
    have x1 := Q5.out.x.c1
    simp only [List.length_nil] at x0 x1
    go_wp2_with fail
    refine (wSpace_none d0 d1 e0 e1 _).mono ?_
    rintro e w6 ⟨rfl, hAB⟩
    have K6 := hide (K5.out.trans (hAB.mono K5.out.size))
    go_wp2
    go_ret
    exact ⟨rfl, K6.out⟩
  subst hC
  obtain ⟨hG, hMk⟩ := PM.out rfl
  have HG := hide hG
  have HMK := hide hMk
  clear PM PN hG hMk hcc
  have hz0 := PZ.out.n0
  have hz1 := PZ.out.n1
  have x0 := Q5.out.x.c0
  have x1 := Q5.out.x.c1
  go_wp2_with fail
  refine (implCheck_any d0 LS.length e0 (srcF LS) d1 LT.length e1 (tgtF LT) _ (by omega) (by omega) Q5.out.m.s0 Q5.out.m.s1 PZ.out.fit (LY.out _ K5.out).1).mono ?_
  rintro e w6 ⟨rfl, hAB⟩
  rw [good_check HG.out]
  have K6 := hide (K5.out.trans (hAB.mono K5.out.size))
  have P6 := hide (P5.out.below hAB (Nat.le_refl _))
  have Q6 := hide (Q5.out.below hAB (Nat.le_refl _))
  clear hAB K5 P5 Q5 x0 x1
  have x0 := Q6.out.x.c0
  have x1 := Q6.out.x.c1
  go_wp2_with fail
  refine (implClean_any (S := ⟨LS.length, srcF LS, LT.length, tgtF LT⟩) _ t Q6.out.m.s0 Q6.out.m.s1 (by show LS.length ≤ _; omega) (by show LT.length ≤ _; omega) PZ.out.fit (LY.out _ K6.out).1 (LY.out _ K6.out).2.1 (LY.out _ K6.out).2.2).mono ?_
  rintro e w7 ⟨rv, rfl, hR, hAB⟩
  rw [HMK.out] at hR
  obtain ⟨ra, rc, rfl, -⟩ := hR
  have K7 := hide (K6.out.trans (hAB.mono K6.out.size))
  have P7 := hide (P6.out.below hAB (Nat.le_refl _))
  have Q7 := hide (Q6.out.below hAB (Nat.le_refl _))
  clear hAB K6 P6 Q6 x0 x1 HMK
  go_wp2_with fail
  refine (wResult_nil 0 tx ra none rc 0 _).mono ?_
  rintro e w8 ⟨rfl, hAB⟩
  have K8 := hide (K7.out.trans (hAB.mono K7.out.size))
  have P8 := hide (P7.out.below hAB (Nat.le_refl _))
  have Q8 := hide (Q7.out.below hAB (Nat.le_refl _))
  clear hAB K7 P7 Q7
  have RG := hide (fun h => room_good (LS := LS) (LT := LT) (t := key) (m := pm) (fp := fp) h)
  have RZ := hide (room_sml (LS := LS) (LT := LT) (t := key) (m := pm) (fp := fp))
  have CI := hide (implPutT_any d0 LS.length e0 (srcF LS) d1 LT.length e1 (tgtF LT) key (some ⟨g, 0, none⟩) pm pc fp)
  have CS := hide (specPutT_any d0' LS.length e0' (srcF LS) d1' LT.length e1' (tgtF LT) key (some ⟨g, 0, none⟩) pm pc fp)
  generalize roomC LS.length (srcF LS) LT.length (tgtF LT) key (valid fp pm) = D at RG CI CS
  generalize putTS LS.length (srcF LS) LT.length (tgtF LT) key pm fp = MS at RG RZ CI CS
  generalize putTT LS.length (srcF LS) LT.length (tgtF LT) key pm fp = MT at RG RZ CI CS
  have x0 := Q8.out.x.c0
  have x1 := Q8.out.x.c1
  have x2 := P8.out.p.c0
  go_wp2_with fail
  refine (CI.out _ (by omega) (by omega) (by omega) Q8.out.m.s0 Q8.out.m.s1 (.inr ⟨g, 0, rfl, P8.out.i⟩) PZ.out.fit (LY.out _ K8.out).1).mono ?_
  clear x2
  rintro e w9 ⟨v0, v1, RR, rfl, hs, ht, hm, hB⟩
  obtain ⟨h0, k0, h1', k1, rfl, rfl, hM⟩ := msp_of hs ht hm
  clear x0 x1 hs ht hm
  have A3 := (Below.refl w9.heap.size w9).alloc (Nat.le_refl _) (.cells #[.slice h0 MS.length k0, .slice h1' MT.length k1] 26)
  have hAB := hB.trans (A3.mono hB.size)
  have hX : SB (w9.alloc (.cells #[.slice h0 MS.length k0, .slice h1' MT.length k1] 26)) w9.heap.size (.slice h0 MS.length k0) (.slice h1' MT.length k1) := heap_alloc_new w9 _
  have hMM := hM.below A3 (Nat.le_refl _)
  clear hM A3 hB
  have K9 := hide (K8.out.trans (hAB.mono K8.out.size))
  have P9 := hide (P8.out.below hAB (Nat.le_refl _))
  have Q9 := hide (Q8.out.below hAB (Nat.le_refl _))
  have O9 := hide hX
  have M9 := hide hMM
  clear hAB hX hMM K8 P8 Q8 CI
  go_upto_region 14 with fail
  generalize w9.alloc (.cells #[.slice h0 MS.length k0, .slice h1' MT.length k1] 26) = W9 at K9 P9 Q9 O9 M9 ⊢
  generalize w9.heap.size = tb at O9 ⊢
  have x0 := Q9.out.y.c0
  have x1 := Q9.out.y.c1
  have x2 := P9.out.p.c0
  go_wp2_with fail
  refine (CS.out _ (by omega) (by omega) (by omega) Q9.out.m'.s0 Q9.out.m'.s1 (.inr ⟨g, 0, rfl, P9.out.i⟩) PZ.out.fit PZ.out.lens HPS.out).mono ?_
  clear x2
  rintro e wa ⟨v0, v1, RR, rfl, hs, ht, hm, hB⟩
  obtain ⟨h0', k0', h1'', k1', rfl, rfl, hM⟩ := msp_of hs ht hm
  clear x0 x1 hs ht hm
  have A3 := (Below.refl wa.heap.size wa).alloc (Nat.le_refl _) (.cells #[.slice h0' MS.length k0', .slice h1'' MT.length k1'] 26)
  have hAB := hB.trans (A3.mono hB.size)
  have hX : SB (wa.alloc (.cells #[.slice h0' MS.length k0', .slice h1'' MT.length k1'] 26)) wa.heap.size (.slice h0' MS.length k0') (.slice h1'' MT.length k1') := heap_alloc_new wa _
  have hMM := hM.below A3 (Nat.le_refl _)
  clear hM A3 hB
  have Ka := hide (K9.out.trans (hAB.mono K9.out.size))
  have Qa := hide (Q9.out.below hAB (Nat.le_refl _))
  have Ta : Hid (PR (wa.alloc (.cells #[.slice h0' MS.length k0', .slice h1'' MT.length k1'] 26)) tb h0 k0 h1' k1 wa.heap.size h0' k0' h1'' k1' MS MT) := ⟨O9.out.below hAB (Nat.le_refl _), hX, M9.out.below hAB (Nat.le_refl _), hMM⟩
  clear hAB hX hMM K9 P9 Q9 O9 M9 CS HPS
  have hdd : (D == D) = true := by simp
  have hz2 := RZ.out.n0
  have hz3 := RZ.out.n1
  go_upto_region 15 with fail
  generalize wa.alloc (.cells #[.slice h0' MS.length k0', .slice h1'' MT.length k1'] 26) = Wa at Ka Qa Ta ⊢
  generalize wa.heap.size = ub at Ta ⊢
  have x0 := Ta.out.x.c0
  have x1 := Ta.out.x.c1
  have y0 := Ta.out.y.c0
  have y1 := Ta.out.y.c1
  go_wp2_with fail
  refine (wSpace_two Ta.out.m Ta.out.m' RZ.out).mono ?_
  rintro e wb ⟨rfl, hAB⟩
  clear x0 x1 y0 y1
  have Kb := hide (Ka.out.trans (hAB.mono Ka.out.size))
  have Qb := hide (Qa.out.below hAB (Nat.le_refl _))
  have Tb := hide (Ta.out.below hAB (Nat.le_refl _))
  clear hAB Ka Qa Ta
  have x0 := Qb.out.x.c0
  have x1 := Qb.out.x.c1
  have y0 := Qb.out.y.c0
  have y1 := Qb.out.y.c1
  go_wp2_with fail
  refine (wSpace_two Qb.out.m Qb.out.m' PZ.out).mono ?_
  rintro e wc ⟨rfl, hAB⟩
  clear x0 x1 y0 y1
  have Kc := hide (Kb.out.trans (hAB.mono Kb.out.size))
  have Tc := hide (Tb.out.below hAB (Nat.le_refl _))
  clear hAB Kb Qb Tb
  by_cases hD : D = 0
  case neg =>
    have hd0 : (D == 0) = false := by simpa using hD
    go_wp2
    go_ret
    exact ⟨rfl, Kc.out⟩
  subst hD
  obtain ⟨hnk, hGM, i, hat⟩ := RG.out rfl
  have DI := hide (implDrop_any h0 MS.length k0 (srcF MS) h1' MT.length k1 (tgtF MT) key)
  have DC := hide (specDrop_any h0' MS.length k0' (srcF MS) h1'' MT.length k1' (tgtF MT) key)
  have DD := hide (put_drop hGM hnk hat rfl)
  clear RG hdd hnk hGM hat HG
  generalize dropC MS.length (srcF MS) MT.length (tgtF MT) key = G at DI DC DD
  generalize dropS MS.length (srcF MS) MT.length (tgtF MT) key = NS at DI DC DD
  generalize dropT MS.length (srcF MS) MT.length (tgtF MT) key = NT at DI DC DD
  obtain ⟨rfl, hGN, hBN⟩ := DD.out
  have NZ := hide hGN.sml
  have HBN := hide hBN
  have hz4 := NZ.out.n0
  have hz5 := NZ.out.n1
  clear DD hGN hBN
  have x0 := Tc.out.x.c0
  have x1 := Tc.out.x.c1
  go_wp2_with fail
  refine (DI.out _ (by omega) (by omega) Tc.out.m.s0 Tc.out.m.s1 RZ.out.fit (LY.out _ Kc.out).1).mono ?_
  rintro e wd ⟨v0, v1, RR, rfl, hs, ht, hm, hB⟩
  obtain ⟨l0, j0, l1, j1, rfl, rfl, hM⟩ := msp_of hs ht hm
  clear x0 x1 hs ht hm
  have A3 := (Below.refl wd.heap.size wd).alloc (Nat.le_refl _) (.cells #[.slice l0 NS.length j0, .slice l1 NT.length j1] 26)
  have hAB := hB.trans (A3.mono hB.size)
  have hX : SB (wd.alloc (.cells #[.slice l0 NS.length j0, .slice l1 NT.length j1] 26)) wd.heap.size (.slice l0 NS.length j0) (.slice l1 NT.length j1) := heap_alloc_new wd _
  have hMM := hM.below A3 (Nat.le_refl _)
  clear hM A3 hB
  have Kd := hide (Kc.out.trans (hAB.mono Kc.out.size))
  have Td := hide (Tc.out.below hAB (Nat.le_refl _))
  have Od := hide hX
  have Md := hide hMM
  clear hAB hX hMM Kc Tc DI
  go_upto_region 20 with fail
  generalize wd.alloc (.cells #[.slice l0 NS.length j0, .slice l1 NT.length j1] 26) = Wd at Kd Td Od Md ⊢
  generalize wd.heap.size = eb at Od ⊢
  have x0 := Td.out.y.c0
  have x1 := Td.out.y.c1
  go_wp2_with fail
  refine (DC.out _ (by omega) (by omega) Td.out.m'.s0 Td.out.m'.s1 RZ.out.fit RZ.out.lens).mono ?_
  rintro e we ⟨v0, v1, RR, rfl, hs, ht, hm, hB⟩
  obtain ⟨l0', j0', l1', j1', rfl, rfl, hM⟩ := msp_of hs ht hm
  clear x0 x1 hs ht hm
  have A3 := (Below.refl we.heap.size we).alloc (Nat.le_refl _) (.cells #[.slice l0' NS.length j0', .slice l1' NT.length j1'] 26)
  have hAB := hB.trans (A3.mono hB.size)
  have hX : SB (we.alloc (.cells #[.slice l0' NS.length j0', .slice l1' NT.length j1'] 26)) we.heap.size (.slice l0' NS.length j0') (.slice l1' NT.length j1') := heap_alloc_new we _
  have hMM := hM.below A3 (Nat.le_refl _)
  clear hM A3 hB
  have Ke := hide (Kd.out.trans (hAB.mono Kd.out.size))
  have Te := hide (Td.out.below hAB (Nat.le_refl _))
  have Ue : Hid (PR (we.alloc (.cells #[.slice l0' NS.length j0', .slice l1' NT.length j1'] 26)) eb l0 j0 l1 j1 we.heap.size l0' j0' l1' j1' NS NT) := ⟨Od.out.below hAB (Nat.le_refl _), hX, Md.out.below hAB (Nat.le_refl _), hMM⟩
  clear hAB hX hMM Kd Td Od Md DC
  go_upto_region 21 with fail
  generalize we.alloc (.cells #[.slice l0' NS.length j0', .slice l1' NT.length j1'] 26) = We at Ke Te Ue ⊢
  generalize we.heap.size = fb at Ue ⊢
  have x0 := Ue.out.x.c0
  have x1 := Ue.out.x.c1
  have y0 := Ue.out.y.c0
  have y1 := Ue.out.y.c1
  go_wp2_with fail
  refine (wSpace_two Ue.out.m Ue.out.m' NZ.out).mono ?_
  rintro e wf ⟨rfl, hAB⟩
  clear x0 x1 y0 y1
  have Kf := hide (Ke.out.trans (hAB.mono Ke.out.size))
  have Tf := hide (Te.out.below hAB (Nat.le_refl _))
  have Uf := hide (Ue.out.below hAB (Nat.le_refl _))
  clear hAB Ke Te Ue
  have x0 := Tf.out.x.c0
  have x1 := Tf.out.x.c1
  have y0 := Tf.out.y.c0
  have y1 := Tf.out.y.c1
  go_wp2_with fail
  refine (wSpace_two Tf.out.m Tf.out.m' RZ.out).mono ?_
  rintro e wg ⟨rfl, hAB⟩
  clear x0 x1 y0 y1
  have Kg := hide (Kf.out.trans (hAB.mono Kf.out.size))
  have Ug := hide (Uf.out.below hAB (Nat.le_refl _))
  clear hAB Kf Tf Uf
  have x0 := Ug.out.x.c0
  have x1 := Ug.out.x.c1
  go_wp2_with fail
  refine (implClean_any (S := ⟨NS.length, srcF NS, NT.length, tgtF NT⟩) _ key Ug.out.m.s0 Ug.out.m.s1 (by show NS.length ≤ _; omega) (by show NT.length ≤ _; omega) NZ.out.fit (LY.out _ Kg.out).1 (LY.out _ Kg.out).2.1 (LY.out _ Kg.out).2.2).mono ?_
  rintro e wh ⟨rv, rfl, hR, hAB⟩
  rw [HBN.out] at hR
  obtain ⟨sa, sc, rfl, -⟩ := hR
  have Kh := hide (Kg.out.trans (hAB.mono Kg.out.size))
  clear hAB Kg Ug x0 x1
  go_wp2_with fail
  rw [field_code]
  go_simp
  go_wp2
  go_ret
  exact ⟨rfl, Kh.out⟩
end Go.Proofs.YtkophfgkcijjkaaGreatDoor.Vp
