/-
  FnExactTexts: the law. Written by tools/list_law.py.
-/
import Derived.Test.YtggchgpphhhleaaGreatDoorZTeImpl
import Derived.Test.YtggchgpphhhleaaGreatDoorZTeSpec
import Derived.Test.YtggchgpphhhleaaGreatDoorZL
import Derived.Test.YtggchgpphhhleaaGreatDoorZDAccS
namespace Go.Proofs.YtggchgpphhhleaaGreatDoor.Vp
open Go.RowKit Go.Sort

theorem AnsStr.apart {w w' : World} {base g : Nat} {p : Option Addr} {L : List (List UInt8)} {Q : Nat → Prop} (h : AnsStr w base p g L) (hT : Touch Q w w') (hQ : L.length ≠ 0 → ¬ Q g) : AnsStr w' base p g L := by
  by_cases hz : L.length = 0
  · exact .inl hz
  · obtain ⟨h1, h2, h3, F, h4⟩ := h.resolve_left hz
    exact .inr ⟨h1, h2, h3.touch hT (hQ hz), F, h4.touch hT (hQ hz)⟩
theorem AnsStr.lt {w : World} {base g : Nat} {p : Option Addr} {L : List (List UInt8)} (h : AnsStr w base p g L) (hz : L.length ≠ 0) : base ≤ g ∧ g < w.heap.size := ⟨(h.resolve_left hz).2.1, (h.resolve_left hz).2.2.1.1⟩

set_option maxRecDepth 100000 in
set_option maxHeartbeats 8000000 in
theorem law_te (a : Option Addr) (m cap : Nat) (F : Nat → Acc) (w : World) (hn : (m : Int) ≤ 9223372036854775807) (hv : SlAcc w a m F) (hs : ∀ i, i < m → SizedAcc (F i)) (hT : Tab w) (hP : Pow w) :
    Calls Tryz.prog 3 #[.slice a m cap] w fun e w' => e = .returned (.bool true) ∧ Below w.heap.size w w' := by
  have HV := hide hv
  have HS := hide hs
  have HT := hide hT
  clear hv hs hT
  have HPW := hide hP
  clear hP
  obtain ⟨L, hL⟩ : ∃ L, L = texts F m := ⟨_, rfl⟩
  have hlen : L.length ≤ 1048576 := by rw [hL]; exact texts_len F m
  have HL := hide hL
  clear hL
  go_enter Tryz.func3, Tryz.ntmps3
  go_wp2_with fail
  refine (szAccountS_any a m cap F 1048576 _ (by omega) (by omega) hn HV.out HS.out).mono ?_
  rintro e w1 ⟨r, rfl, hr1, hr2, hr3, hB⟩
  have B1 := hide hB
  clear hB
  by_cases hr : r < 0
  · clear hr3
    go_wp2
    go_ret
    exact ⟨rfl, B1.out⟩
  obtain ⟨hm0, hF⟩ := hr3 (by omega)
  have HF := hide hF
  have hp : m ≤ 1048576 := by omega
  have hsum : (sumN F m : Int) ≤ 1048576 := by omega
  clear hr3 hF hm0
  go_wp2_with fail
  refine (toAccountS_any a m cap F _ hp (HV.out.below B1.out (Nat.le_refl _)) HF.out).mono ?_
  rintro e w2 ⟨g, V, G, H, rfl, hS, hg, hB⟩
  have S0 := hide hS.accE
  have g2 : g < w2.heap.size := hS.row.lt
  have z2 : w.heap.size ≤ w2.heap.size := Nat.le_trans B1.out.size hB.size
  clear hS hg
  have B2 := hide (B1.out.trans (hB.mono B1.out.size))
  clear  B1
  clear hB
  go_wp2_with fail
  refine (specTexts_any g m m F _ (by omega) S0.out HF.out HS.out).mono ?_
  rintro e w3 ⟨bs, offs, ms, cs, rfl, hm3, hR, hB⟩
  rw [← HL.out] at hm3 hR
  subst hm3
  have hz23 : w.heap.size ≤ w3.heap.size := Nat.le_trans z2 hB.size
  have hbs : bs < w3.heap.size := hR.1
  have B3 := hide (B2.out.trans (hB.mono B2.out.size))
  clear  B2
  have P3 := hide (hR)
  clear hB hR S0
  go_wp2_with fail
  refine (toAccountS_any a m cap F _ hp (HV.out.below B3.out (Nat.le_refl _)) HF.out).mono ?_
  rintro e w4 ⟨h0, V2, G2, H2, rfl, hS, hg, hB⟩
  have hN : h0 < w4.heap.size := hS.row.lt
  have hz34 : w3.heap.size ≤ w4.heap.size := hB.size
  have P4 := hide (P3.out.below hB (Nat.le_refl _))
  have B4 := hide (B3.out.trans (hB.mono B3.out.size))
  clear P3 B3
  have O4 := hide (hS)
  clear hB hS
  go_wp2_with fail
  refine (implTexts_any h0 m m F _ (by omega) O4.out.accE HF.out HS.out (HT.out.below B4.out HT.out.1) (HPW.out.below B4.out (Nat.le_refl _))).mono ?_
  rintro e w6 ⟨v, rfl, hO, hB⟩
  rw [← HL.out] at hO
  obtain ⟨p, c6, g6, rfl, hA⟩ := ans_of_owns hO
  have hg6 : Hid (L.length ≠ 0 → w4.heap.size ≤ g6 ∧ g6 < w6.heap.size) := fun hz => hA.lt hz
  have z46 : w4.heap.size ≤ w6.heap.size := hB.size
  clear hO
  have P5 := hide (P4.out.below hB (Nat.le_refl _))
  have O5 := hide (O4.out.below hB (Nat.le_refl _))
  have B5 := hide (B4.out.trans (hB.mono B4.out.size))
  clear P4 O4 B4
  have Q5 := hide (hA)
  clear hA hB
  go_wp2_with fail
  refine (eqStringS_any p (some ⟨bs, offs, none⟩) c6 cs L.length (nmF L) _ hlen Q5.out.sl P5.out.sl).mono ?_
  rintro e w7 ⟨rfl, hB⟩
  have P6 := hide (P5.out.below hB (Nat.le_refl _))
  have O6 := hide (O5.out.below hB (Nat.le_refl _))
  have Q6 := hide (Q5.out.below hB (Nat.le_refl _))
  have B6 := hide (B5.out.trans (hB.mono B5.out.size))
  clear P5 O5 Q5 B5
  clear hB
  go_wp2_with fail
  refine (toAccountS_any a m cap F _ hp (HV.out.below B6.out (Nat.le_refl _)) HF.out).mono ?_
  rintro e w8 ⟨i0, V3, G3, H3, rfl, hS, hg8, hB⟩
  have S8 := hide hS.rows.sl
  clear hS hg8
  have P7 := hide (P6.out.below hB (Nat.le_refl _))
  have O7 := hide (O6.out.below hB (Nat.le_refl _))
  have Q7 := hide (Q6.out.below hB (Nat.le_refl _))
  have B7 := hide (B6.out.trans (hB.mono B6.out.size))
  clear P6 O6 Q6 B6
  clear hB
  go_wp2_with fail
  refine (eqAccountS_any (some ⟨h0, 0, none⟩) (some ⟨i0, 0, none⟩) m m m F _ hp O7.out.rows.sl S8.out HF.out).mono ?_
  rintro e w9 ⟨rfl, hB⟩
  clear S8
  have P8 := hide (P7.out.below hB (Nat.le_refl _))
  have O8 := hide (O7.out.below hB (Nat.le_refl _))
  have Q8 := hide (Q7.out.below hB (Nat.le_refl _))
  have B8 := hide (B7.out.trans (hB.mono B7.out.size))
  clear P7 O7 Q7 B7
  clear hB
  go_wp2_with fail
  refine (markAccountS_own h0 m w4.heap.size F V2 G2 H2 _ (by omega) hsum HF.out O8.out).mono ?_
  rintro e w10 ⟨q9, rfl, hT9⟩
  clear O8
  have P9 := hide (P8.out.touch hT9 (by rintro ⟨h, -⟩; omega))
  have Q9 := hide (Q8.out.apart hT9 (by intro hz; rintro ⟨-, h⟩; have := hg6.out hz; omega))
  have B9 := hide (B8.out.trans (hT9.toBelow (by rintro x ⟨h, -⟩; have := hz23; omega) B8.out.size))
  clear P8 Q8 B8
  clear hT9
  have hq9 : ¬ ((q9 : Int) < 0) := by omega
  go_wp2_with fail
  refine (eqStringS_any p (some ⟨bs, offs, none⟩) c6 cs L.length (nmF L) _ hlen Q9.out.sl P9.out.sl).mono ?_
  rintro e w11 ⟨rfl, hB⟩
  have P10 := hide (P9.out.below hB (Nat.le_refl _))
  have Q10 := hide (Q9.out.below hB (Nat.le_refl _))
  have B10 := hide (B9.out.trans (hB.mono B9.out.size))
  clear P9 Q9 B9
  clear hB
  go_wp2_with fail
  refine (markStringS_sl p L.length c6 1 g6 _ (by omega) (by omega) (by omega) Q10.out.room).mono ?_
  rintro e w12 ⟨rfl, hM, hT11⟩
  have M12 := hide hM
  clear hM
  clear Q10
  have P11 := hide (P10.out.touch hT11 (by rintro ⟨hz, h⟩; have := hg6.out hz; omega))
  have B11 := hide (B10.out.trans (hT11.toBelow (by rintro x ⟨hz, h⟩; have := hg6.out hz; have := hz23; have := hz34; omega) B10.out.size))
  clear P10 B10
  clear hT11
  go_wp2_with fail
  refine (heldStringS_sl p L.length c6 1 g6 _ (by omega) (by omega) (by omega) M12.out).mono ?_
  rintro e w13 ⟨rfl, hB⟩
  clear M12
  have P12 := hide (P11.out.below hB (Nat.le_refl _))
  have B12 := hide (B11.out.trans (hB.mono B11.out.size))
  clear P11 B11
  clear hB
  have hq1 : ¬ (((1 + L.length : Nat) : Int) < 0) := by omega
  go_wp2_with fail
  refine (toAccountS_any a m cap F _ hp (HV.out.below B12.out (Nat.le_refl _)) HF.out).mono ?_
  rintro e w14 ⟨i3, V4, G4, H4, rfl, hS, hg9, hB⟩
  have S0 := hide hS.accE
  clear hS hg9
  have P13 := hide (P12.out.below hB (Nat.le_refl _))
  have B13 := hide (B12.out.trans (hB.mono B12.out.size))
  clear P12 B12
  clear hB
  go_wp2_with fail
  refine (implTexts_any i3 m m F _ (by omega) S0.out HF.out HS.out (HT.out.below B13.out HT.out.1) (HPW.out.below B13.out (Nat.le_refl _))).mono ?_
  rintro e w15 ⟨v, rfl, hO, hB⟩
  rw [← HL.out] at hO
  obtain ⟨p2, c7, g7, rfl, hA⟩ := ans_of_owns hO
  have A15 := hide hA
  clear hA hO
  have P14 := hide (P13.out.below hB (Nat.le_refl _))
  have B14 := hide (B13.out.trans (hB.mono B13.out.size))
  clear P13 B13
  clear hB
  go_wp2_with fail
  refine (eqStringS_any p2 (some ⟨bs, offs, none⟩) c7 cs L.length (nmF L) _ hlen A15.out.sl P14.out.sl).mono ?_
  rintro e w16 ⟨rfl, hB⟩
  have P15 := hide (P14.out.below hB (Nat.le_refl _))
  have B15 := hide (B14.out.trans (hB.mono B14.out.size))
  clear P14 B14
  clear hB
  go_wp2
  go_ret
  exact ⟨rfl, B15.out⟩

end Go.Proofs.YtggchgpphhhleaaGreatDoor.Vp
