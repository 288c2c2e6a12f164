/-
  Put together of: DeLaw.
-/
import Derived.Test.YtkgddbcjmejfaaaDoorZH
import Derived.Test.YtkgddbcjmejfaaaDoorZD
import Derived.Test.YtkgddbcjmejfaaaDoorZM
import Derived.Test.YtkgddbcjmejfaaaDoorZG
import Derived.Test.YtkgddbcjmejfaaaDoorZR
import Derived.Test.YtkgddbcjmejfaaaDoorZQ

/-
  FnExactDepends: the law. Written by tools/rows_law.py.
-/
namespace Go.Proofs.YtkgddbcjmejfaaaDoor.Vp
open Go.RowKit Go.Sort

set_option maxRecDepth 100000 in
set_option maxHeartbeats 8000000 in
theorem law_dp (a : Option Addr) (n cap : Nat) (f : Nat → Deed) (t : ByteArray) (w : World) (hn : (n : Int) ≤ 9223372036854775807) (hv : SlDeed w a n f) (hs : ∀ i, i < n → SizedDeed (f i)) (ht : t.size ≤ maxLen) (hT : Tab w) :
    Calls Tryd.prog 5 #[.agg #[.slice a n cap], .string t] w fun e w' => e = .returned (.bool true) ∧ Below w.heap.size w w' := by
  have HV := hide hv
  have HS := hide hs
  have HT := hide hT
  clear hv hs hT
  have ht2 : (t.size : Int) ≤ 9223372036854775807 := by unfold maxLen at ht; omega
  have HTT := hide ht
  clear ht
  obtain ⟨L, hL⟩ : ∃ L, L = deps f n t := ⟨_, rfl⟩
  have hlen : L.length ≤ 1048576 := by rw [hL]; exact deps_len f n t
  have HL := hide hL
  clear hL
  have B0 := hide ((Below.refl w.heap.size w).alloc (Nat.le_refl w.heap.size) (.cells #[.slice a n cap] 24))
  have KA0 := hide (one_box w (.slice a n cap) 24)
  go_enter Tryd.func5, Tryd.ntmps5
  by_cases hbig : (1048576 : Int) < t.size
  · go_wp2
    go_ret
    exact ⟨rfl, B0.out⟩
  go_wp2_with fail
  generalize w.alloc (.cells #[.slice a n cap] 24) = W at B0 KA0 ⊢
  refine (szAccount_any a n cap f 1048576 _ (by omega) (by omega) hn (HV.out.below B0.out (Nat.le_refl _)) HS.out).mono ?_
  rintro e w1 ⟨r, rfl, hr1, hr2, hr3, hB⟩
  have KA1 := hide (KA0.out.below hB (Nat.le_refl _))
  have B1 := hide (B0.out.trans (hB.mono B0.out.size))
  clear hB B0 KA0
  by_cases hr : r < 0
  · clear hr3
    go_wp2
    go_ret
    exact ⟨rfl, B1.out⟩
  obtain ⟨hm0, hF⟩ := hr3 (by omega)
  have HF := hide hF
  have hp : n ≤ 1048576 := by omega
  clear hr3 hF hm0
  have ca := KA1.out.c0
  go_wp2_with fail
  refine (toAccount_any a n cap f _ hp (HV.out.below B1.out (Nat.le_refl _)) HF.out).mono ?_
  rintro e w2 ⟨g, rfl, hS, hg, hB⟩
  have S0 := hide hS.row.sl
  clear hS hg ca
  have KA2 := hide (KA1.out.below hB (Nat.le_refl _))
  have B2 := hide (B1.out.trans (hB.mono B1.out.size))
  clear KA1 B1
  clear hB
  go_wp2_with fail
  refine (specDepends_any (some ⟨g, 0, none⟩) n n f t _ (by omega) S0.out HF.out HS.out).mono ?_
  rintro e w3 ⟨b, off, m, c, rfl, hm, hR, hB⟩
  rw [← HL.out] at hm hR
  subst hm
  have KA3 := hide (KA2.out.below hB (Nat.le_refl _))
  have B3 := hide (B2.out.trans (hB.mono B2.out.size))
  clear KA2 B2
  have P3 := hide (hR)
  have hb3 : b < w3.heap.size := hR.1
  have z3 : w.heap.size < w3.heap.size := KA3.out.lt
  clear hB hR S0
  have ca := KA3.out.c0
  go_wp2_with fail
  refine (toAccount_anyO a n cap f _ hp (HV.out.below B3.out (Nat.le_refl _)) HF.out).mono ?_
  rintro e w4 ⟨h0, rfl, hS, hg, hB⟩
  clear ca
  have KA4 := hide (KA3.out.below hB (Nat.le_refl _))
  have P4 := hide (P3.out.below hB (Nat.le_refl _))
  have B4 := hide (B3.out.trans (hB.mono B3.out.size))
  clear KA3 P3 B3
  have hN : h0 < w4.heap.size := hS.lt
  have A4 := hide ((Below.refl w4.heap.size w4).alloc (Nat.le_refl _) (.cells #[.slice (some ⟨h0, 0, none⟩) n n] 30))
  have O4 := hide hS
  have X4 := hide (one_box w4 (.slice (some ⟨h0, 0, none⟩) n n) 30)
  clear hB hS
  have KA5 := hide (KA4.out.below A4.out (Nat.le_refl _))
  have P5 := hide (P4.out.below A4.out (Nat.le_refl _))
  have O5 := hide (O4.out.below A4.out (Nat.le_refl _))
  have B5 := hide (B4.out.trans (A4.out.mono B4.out.size))
  clear KA4 P4 O4 B4
  have KX5 := X4
  clear X4 A4
  have xc := KX5.out.c0
  have z5 : (w4.alloc (.cells #[.slice (some ⟨h0, 0, none⟩) n n] 30)).heap.size = w4.heap.size + 1 := by simp
  go_wp2_with fail
  generalize w4.alloc (.cells #[.slice (some ⟨h0, 0, none⟩) n n] 30) = w5 at KA5 P5 O5 KX5 B5 xc z5 ⊢
  have hx4 : Hid (w4.heap.size = w4.heap.size) := rfl
  generalize w4.heap.size = x4 at O5 KX5 xc z5 hN ⊢
  clear hx4
  refine (implDepends_any (some ⟨h0, 0, none⟩) n n f t _ (by omega) O5.out.row.sl (by omega) HF.out HS.out (HT.out.below B5.out HT.out.1)).mono ?_
  rintro e w6 ⟨v, rfl, hO, hB⟩
  rw [← HL.out] at hO
  obtain ⟨p, c6, g6, rfl, hA⟩ := ans_of_owns hO
  clear xc hO
  have KA6 := hide (KA5.out.below hB (Nat.le_refl _))
  have P6 := hide (P5.out.below hB (Nat.le_refl _))
  have O6 := hide (O5.out.below hB (Nat.le_refl _))
  have KX6 := hide (KX5.out.below hB (Nat.le_refl _))
  have B6 := hide (B5.out.trans (hB.mono B5.out.size))
  clear KA5 P5 O5 KX5 B5
  have G6 := hide (hA)
  clear hA hB
  go_wp2_with fail
  refine (eqStringS_any p (some ⟨b, off, none⟩) c6 c L.length (nmF L) _ hlen G6.out.sl P6.out.sl).mono ?_
  rintro e w7 ⟨rfl, hB⟩
  have KA7 := hide (KA6.out.below hB (Nat.le_refl _))
  have P7 := hide (P6.out.below hB (Nat.le_refl _))
  have O7 := hide (O6.out.below hB (Nat.le_refl _))
  have KX7 := hide (KX6.out.below hB (Nat.le_refl _))
  have G7 := hide (G6.out.below hB (Nat.le_refl _))
  have B7 := hide (B6.out.trans (hB.mono B6.out.size))
  clear KA6 P6 O6 KX6 G6 B6
  clear hB
  go_upto_region 12 with fail
  go_cut [38] (fun s wx => s = .bool false ∧ Hid (Below w7.heap.size w7 wx))
  case first =>
    have ca := KA7.out.c0
    have xc := KX7.out.c0
    have xl := KX7.out.lt
    go_region_with (first
      | (go_at_call 9; refine (toAccount_any a n cap f _ hp ?_ HF.out).mono ?_; (first | exact HV.out.below B7.out (Nat.le_refl _) | exact HV.out.below B7.out.drew (Nat.le_refl _)); rintro e wa ⟨i0, rfl, hS, hg, hB7⟩; have T0 := hide hS.row.sl; have B7 : Hid (Below w7.heap.size w7 wa) := ⟨hB7.os, hB7.tape, hB7.output, hB7.size, hB7.block⟩; have x70 := (B7.out.cell (p := ⟨x4, 0, none⟩) xl).trans xc; have U0 := hide (O7.out.row.sl.below B7.out (Nat.le_refl _)); clear hS hg hB7)
      | (go_at_call 12; refine (eqAccount_any (some ⟨h0, 0, none⟩) (some ⟨i0, 0, none⟩) n n n f _ hp U0.out T0.out HF.out).mono ?_; rintro e wb ⟨rfl, hB8⟩; have E9 := hide (B7.out.trans (hB8.mono B7.out.size)); clear hB8))
    all_goals
      go_wp2_with fail
      go_meet
      exact ⟨rfl, E9.out⟩
  case rest =>
  obtain ⟨rfl, EC⟩ := hcut
  obtain ⟨w8, hwn⟩ : ∃ w8, w8 = wc := ⟨_, rfl⟩
  subst hwn
  have KA8 := hide (KA7.out.below EC.out (Nat.le_refl _))
  have P8 := hide (P7.out.below EC.out (Nat.le_refl _))
  have O8 := hide (O7.out.below EC.out (Nat.le_refl _))
  have KX8 := hide (KX7.out.below EC.out (Nat.le_refl _))
  have G8 := hide (G7.out.below EC.out (Nat.le_refl _))
  have B8 := hide (B7.out.trans (EC.out.mono B7.out.size))
  clear KA7 P7 O7 KX7 G7 B7
  clear EC
  have xc := KX8.out.c0
  go_wp2_with fail
  refine (markAccount_own h0 n x4 f _ (by omega) HF.out O8.out hN).mono ?_
  rintro e w9 ⟨q9, rfl, hT9⟩
  clear xc
  clear KX8
  clear O8
  have KA9 := hide (KA8.out.touch hT9 (by rintro ⟨h, -⟩; omega))
  have P9 := hide (P8.out.touch hT9 (by rintro ⟨h, -⟩; omega))
  have G9 := hide (G8.out.touch hT9 (by rintro x ⟨-, h⟩; omega))
  have B9 := hide (B8.out.trans (hT9.toBelow (by rintro x ⟨h, -⟩; omega) B8.out.size))
  clear KA8 P8 G8 B8
  clear hT9
  have hq9 : ¬ ((q9 : Int) < 0) := by omega
  go_wp2_with fail
  refine (eqStringS_any p (some ⟨b, off, none⟩) c6 c L.length (nmF L) _ hlen G9.out.sl P9.out.sl).mono ?_
  rintro e w10 ⟨rfl, hB⟩
  have KA10 := hide (KA9.out.below hB (Nat.le_refl _))
  have P10 := hide (P9.out.below hB (Nat.le_refl _))
  have G10 := hide (G9.out.below hB (Nat.le_refl _))
  have B10 := hide (B9.out.trans (hB.mono B9.out.size))
  clear KA9 P9 G9 B9
  clear hB
  have hge := G10.out
  have GE := hide (fun hz : L.length ≠ 0 => hge.ge hz)
  clear hge
  go_wp2_with fail
  refine (markStringS_sl p L.length c6 1 g6 _ (by omega) (by omega) (by omega) G10.out.room).mono ?_
  rintro e w11 ⟨rfl, hM, hT11⟩
  have M11 := hide hM
  clear hM
  clear G10
  have KA11 := hide (KA10.out.touch hT11 (by rintro ⟨h, h2⟩; have := GE.out h; omega))
  have P11 := hide (P10.out.touch hT11 (by rintro ⟨h, h2⟩; have := GE.out h; omega))
  have B11 := hide (B10.out.trans (hT11.toBelow (by rintro x ⟨h, h2⟩; have := GE.out h; omega) B10.out.size))
  clear KA10 P10 B10
  clear hT11
  go_wp2_with fail
  refine (heldStringS_sl p L.length c6 1 g6 _ (by omega) (by omega) (by omega) M11.out).mono ?_
  rintro e w12 ⟨rfl, hB⟩
  clear M11
  have KA12 := hide (KA11.out.below hB (Nat.le_refl _))
  have P12 := hide (P11.out.below hB (Nat.le_refl _))
  have B12 := hide (B11.out.trans (hB.mono B11.out.size))
  clear KA11 P11 B11
  clear hB
  have ca := KA12.out.c0
  have hq1 : ¬ (((1 + L.length : Nat) : Int) < 0) := by omega
  go_wp2_with fail
  refine (toAccount_any a n cap f _ hp (HV.out.below B12.out (Nat.le_refl _)) HF.out).mono ?_
  rintro e w13 ⟨i3, rfl, hS, hg, hB⟩
  have S0 := hide hS.row.sl
  clear hS hg ca
  have KA13 := hide (KA12.out.below hB (Nat.le_refl _))
  have P13 := hide (P12.out.below hB (Nat.le_refl _))
  have B13 := hide (B12.out.trans (hB.mono B12.out.size))
  clear KA12 P12 B12
  clear hB
  go_wp2_with fail
  refine (implDepends_any (some ⟨i3, 0, none⟩) n n f t _ (by omega) S0.out (by omega) HF.out HS.out (HT.out.below B13.out HT.out.1)).mono ?_
  rintro e w14 ⟨v, rfl, hO, hB⟩
  rw [← HL.out] at hO
  obtain ⟨p2, c7, g7, rfl, hA⟩ := ans_of_owns hO
  have A14 := hide hA
  clear hA hO
  have KA14 := hide (KA13.out.below hB (Nat.le_refl _))
  have P14 := hide (P13.out.below hB (Nat.le_refl _))
  have B14 := hide (B13.out.trans (hB.mono B13.out.size))
  clear KA13 P13 B13
  clear hB
  go_wp2_with fail
  refine (eqStringS_any p2 (some ⟨b, off, none⟩) c7 c L.length (nmF L) _ hlen A14.out.sl P14.out.sl).mono ?_
  rintro e w15 ⟨rfl, hB⟩
  have KA15 := hide (KA14.out.below hB (Nat.le_refl _))
  have P15 := hide (P14.out.below hB (Nat.le_refl _))
  have B15 := hide (B14.out.trans (hB.mono B14.out.size))
  clear KA14 P14 B14
  clear hB
  go_wp2
  go_ret
  exact ⟨rfl, B15.out⟩

end Go.Proofs.YtkgddbcjmejfaaaDoor.Vp
