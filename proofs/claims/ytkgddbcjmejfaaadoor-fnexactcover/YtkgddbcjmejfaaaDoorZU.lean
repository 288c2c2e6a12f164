/-
  Put together of: CoImpl, CoLaw.
-/
import Derived.Test.YtkgddbcjmejfaaaDoorZT
import Derived.Test.YtkgddbcjmejfaaaDoorZN
import Derived.Test.YtkgddbcjmejfaaaDoorZS

/-
  impl: Cover.
-/
namespace Go.Proofs.YtkgddbcjmejfaaaDoor.Vp
open Go.RowKit Go.Maps Go.Sort

theorem infoIntC : (Tryd.prog.info? 3).map (fun i => (i.zero, i.size, i.bytes)) = some (some (.int .i64 0), 1, 8) := by kernel_rfl

set_option maxHeartbeats 2000000 in
theorem index_str (b off n cap : Nat) (L : List (List UInt8)) (t : ByteArray) (w : World) (hn : n = L.length) (hm : (n : Int) ≤ 1048576) (hR : RowStr w b off n (nmF L)) :
    Calls Tryd.prog 53 #[.slice (some ⟨b, off, none⟩) n cap, .string t] w fun e w' => ∃ r : Int, e = .returned (.int .i64 r) ∧ decide (0 ≤ r) = decide (t.toList ∈ L) ∧ w' = w := by
  have HR := hide hR
  have HN := hide hn
  have HE := hide (show seen L t n = decide (t.toList ∈ L) by rw [hn]; exact seen_end L t)
  clear hR hn
  go_enter Tryd.func53, Tryd.ntmps53
  go_wp2
  go_loop [8] (fun i => ∃ k : Nat, k ≤ n ∧ i = .int .i64 k ∧ Hid (seen L t k = false)) (fun i => n - (intOf i).toNat)
  case atStart => exact ⟨0, by omega, rfl, by show seen L t 0 = false; simp [seen]⟩
  case round =>
    obtain ⟨k, hk, rfl, HK⟩ := hrel
    by_cases hlt : k < n
    · have c0 := HR.out.2 k hlt
      have HS := hide (seen_succ (L := L) (t := t) (j := k) (by have := HN.out; omega))
      cases hb : ((nmF L k).toList == t.toList) with
      | true =>
        have HB := hide hb
        have hb2 : (t.toList == (nmF L k).toList) = true := by rw [beq_iff_eq] at hb ⊢; exact hb.symm
        have HI := hide (show t.toList ∈ L by rw [← beq_iff_eq.1 hb, nmF_at (by have := HN.out; omega)]; exact List.getElem_mem _)
        clear hb
        go_wp2
        go_ret
        exact ⟨k, rfl, by simp [HI.out], rfl⟩
      | false =>
        have HB := hide hb
        have hb2 : (t.toList == (nmF L k).toList) = false := by rw [beq_eq_false_iff_ne] at hb ⊢; exact fun h => hb h.symm
        clear hb
        go_wp2
        exact ⟨⟨k + 1, by omega, by go_num, by show seen L t (k + 1) = false; rw [HS.out, HK.out, HB.out]; rfl⟩, by simp [intOf]; omega⟩
    · have e : k = n := by omega
      subst e
      go_wp2
      go_ret
      have h2 : ¬ t.toList ∈ L := by have h1 := HE.out; rw [HK.out] at h1; simpa using h1.symm
      exact ⟨-1, rfl, by simp [h2], rfl⟩
set_option maxHeartbeats 1000000 in
theorem index_strNil (a0 : Option Addr) (c : Nat) (t : ByteArray) (w : World) :
    Calls Tryd.prog 53 #[.slice a0 0 c, .string t] w fun e w' => ∃ r : Int, e = .returned (.int .i64 r) ∧ decide (0 ≤ r) = false ∧ w' = w := by
  go_enter Tryd.func53, Tryd.ntmps53
  go_wp2
  go_loop [8] (fun i => i = .int .i64 0) (fun _ => 0)
  case atStart => rfl
  case round =>
    subst hrel
    go_wp2
    go_ret
    first
      | exact ⟨-1, rfl, rfl, rfl⟩
      | exact ⟨-1, rfl, by decide, rfl⟩
      | exact ⟨⟨-1, rfl, by decide⟩, rfl⟩
      | exact ⟨-1, by decide, rfl⟩
theorem index_strAny (p : Option Addr) (cap : Nat) (L : List (List UInt8)) (t : ByteArray) (w : World) (hm : (L.length : Int) ≤ 1048576) (hS : SlStr w p L.length (nmF L)) :
    Calls Tryd.prog 53 #[.slice p L.length cap, .string t] w fun e w' => ∃ r : Int, e = .returned (.int .i64 r) ∧ decide (0 ≤ r) = decide (t.toList ∈ L) ∧ w' = w := by
  rcases hS with h | ⟨b, off, rfl, hR⟩
  · rw [h]
    have h2 : L = [] := List.length_eq_zero_iff.1 h
    exact (index_strNil p cap t w).mono fun e w' ⟨r, h3, h4, h5⟩ => ⟨r, h3, by rw [h4, h2]; simp, h5⟩
  · exact index_str b off _ cap L t w rfl hm hR
set_option maxHeartbeats 1000000 in
theorem contains_str (p : Option Addr) (cap : Nat) (L : List (List UInt8)) (t : ByteArray) (w : World) (hm : (L.length : Int) ≤ 1048576) (hS : SlStr w p L.length (nmF L)) :
    Calls Tryd.prog 42 #[.slice p L.length cap, .string t] w fun e w' => e = .returned (.bool (decide (t.toList ∈ L))) ∧ w' = w := by
  have HQ := hide (index_strAny p cap L t w hm hS)
  obtain ⟨A, hA⟩ : ∃ A, A = decide (t.toList ∈ L) := ⟨_, rfl⟩
  rw [← hA]
  rw [← hA] at HQ
  clear hA hS
  go_enter Tryd.func42, Tryd.ntmps42
  go_wp2_with fail
  refine HQ.out.mono ?_
  rintro e w1 ⟨r, rfl, hd, rfl⟩
  have HD := hide hd
  clear hd
  go_wp2
  go_ret
  exact ⟨ret_bool HD.out, rfl⟩

set_option maxRecDepth 100000 in
set_option maxHeartbeats 4000000 in
theorem implCover_any (b m cap : Nat) (F : Nat → Acc) (t : ByteArray) (w : World) (hm : (m : Int) ≤ 1048576) (hv : AccE w b m F) (hfit : ∀ i, i < m → FitsAcc (F i)) (hsz : ∀ i, i < m → SizedAcc (F i)) (hT : Tab w) :
    Calls Tryd.prog 23 #[.slice (some ⟨b, 0, none⟩) m cap, .string t] w fun e w' => ∃ v, e = .returned v ∧ w'.ownsRow w.heap.size 3 1 v (cover F m t).length ((cover F m t).map encInt) ∧ Below w.heap.size w w' := by
  obtain ⟨i0, hi, hz0, hz1, hz2⟩ := info_parts infoIntC
  have HV := hide hv
  have HM := hide hfit
  have HZ := hide hsz
  have HT := hide hT
  clear hv hfit hsz hT
  obtain ⟨T, hT⟩ : ∃ T, T = cover F m t := ⟨_, rfl⟩
  rw [← hT]
  have HE := hide (show T = if 50 < m then [] else covL F t m from hT)
  clear hT
  go_enter Tryd.func23, Tryd.ntmps23
  by_cases hbig : 50 < m
  · obtain rfl : T = [] := by rw [HE.out, if_pos hbig]
    go_wp2
    go_ret
    exact ⟨_, rfl, ⟨by simp, .inl ⟨rfl, rfl⟩⟩, Below.refl _ _⟩
  obtain rfl : T = covL F t m := by rw [HE.out, if_neg hbig]
  clear HE
  go_wp2
  go_loopw [5, 13] (fun v i wr => ∃ k : Nat, k ≤ m ∧ i = .int .i64 k ∧ Hid (wr.ownsRow w.heap.size 3 1 v (covL F t k).length ((covL F t k).map encInt)) ∧ Hid (Below w.heap.size w wr)) (fun _ i _ => m - (intOf i).toNat)
  case atStart => exact ⟨0, by omega, rfl, ⟨by simp [covL], .inl ⟨rfl, rfl⟩⟩, Below.refl _ _⟩
  case round =>
    obtain ⟨k, hk, rfl, HO, HB⟩ := hrel
    by_cases hlt : k < m
    · obtain ⟨a0, c0, hr0⟩ := (HV.out.below HB.out (Nat.le_refl _)).2 k hlt
      have D2 := hide ((Below.refl wr.heap.size wr).alloc (Nat.le_refl _) (.cells #[.slice a0 (F k).n (F k).n] 30))
      have C2 := hide (HB.out.alloc HB.out.size (.cells #[.slice a0 (F k).n (F k).n] 30))
      have O2 := hide (HO.out.alloc (.cells #[.slice a0 (F k).n (F k).n] 30))
      have R2 := hide (hr0.below D2.out (Nat.le_refl _))
      have HS := hide (show covL F t (k + 1) = if covs (F k) t = true then covL F t k ++ [(k : Int)] else covL F t k from rfl)
      have hf1 := (HM.out k hlt).1
      have hlen := covL_len F t k
      clear hr0
      go_wp2_with fail
      clear c0
      generalize wr.alloc (.cells #[.slice a0 (F k).n (F k).n] 30) = W2 at D2 C2 O2 R2 ⊢
      refine (implNames_any a0 (F k).n (F k).n (F k).f _ (by omega) R2.out (by omega) (HM.out k hlt).2 (HZ.out k hlt).2 (HT.out.below C2.out HT.out.1)).mono ?_
      rintro e w3 ⟨v3, rfl, hO, hB⟩
      obtain ⟨p3, c3, g3, rfl, hA⟩ := ans_of_owns hO
      have A3 := hide hA.sl
      have B3 := hide (C2.out.trans (hB.mono C2.out.size))
      have O3 := hide (own_below O2.out hB (Nat.le_refl _))
      clear hO hA hB
      go_wp2_with fail
      refine (contains_str p3 c3 (nams (F k).f (F k).n) t _ (by have := nams_len (F k).f (F k).n; omega) A3.out).mono ?_
      rintro e w4 ⟨rfl, rfl⟩
      have HC := hide (show covs (F k) t = decide (t.toList ∈ nams (F k).f (F k).n) from rfl)
      rw [← HC.out]
      cases hc : covs (F k) t with
      | false =>
        have HF := hide hc
        clear hc
        go_wp2
        exact ⟨⟨k + 1, by omega, by go_num, by rw [HS.out, if_neg (by rw [HF.out]; simp)]; exact O3.out, B3.out⟩, by simp [intOf]; omega⟩
      | true =>
        have HF := hide hc
        clear hc
        have B4 := hide (B3.out.alloc B3.out.size (.cells #[.int .i64 (k : Int)] 3))
        have O4 := hide (O3.out.alloc (.cells #[.int .i64 (k : Int)] 3))
        have z4 := B4.out.size
        go_wp2_with (at_builtin; refine wpList_append_own _ rfl (.tmp 22) (.tmp 24) 41 rfl w.heap.size 3 i0 (.int .i64 0) 1 8 Tryd.underlying41 hi hz0 hz1 hz2 rfl (by decide) u5 (covL F t k).length ((covL F t k).map encInt) (by simp [Act.eval]) O4.out ⟨w4.heap.size, 0, none⟩ 1 1 [.int .i64 (k : Int)] (by simp [Act.eval]) rfl (one_new w4 _ _) (by simp [Value.oneCell']) (by unfold maxLen; omega) (by omega) z4 ?_; intro v5 w5 hown hgrow hnil; have O5 := hide hown; have B5 := hide (Below.grown B4.out hgrow z4 (fun j e => (O4.out.lt j e).1)); clear hown hgrow hnil)
        exact ⟨⟨k + 1, by omega, by go_num, by rw [HS.out, if_pos HF.out, List.length_append, List.map_append]; exact O5.out, B5.out⟩, by simp [intOf]; omega⟩
    · obtain rfl : k = m := by omega
      go_wp2
      go_ret
      exact ⟨_, rfl, HO.out, HB.out⟩

end Go.Proofs.YtkgddbcjmejfaaaDoor.Vp

/-
  FnExactCover: the law. Written by tools/list_law.py.
-/
namespace Go.Proofs.YtkgddbcjmejfaaaDoor.Vp
open Go.RowKit Go.Sort

theorem AnsInt.apart {w w' : World} {base g : Nat} {p : Option Addr} {L : List Int} {Q : Nat → Prop} (h : AnsInt w base p g L) (hT : Touch Q w w') (hQ : L.length ≠ 0 → ¬ Q g) : AnsInt w' base p g L := by
  by_cases hz : L.length = 0
  · exact .inl hz
  · obtain ⟨h1, h2, h3, F, h4⟩ := h.resolve_left hz
    exact .inr ⟨h1, h2, h3.touch hT (hQ hz), F, h4.touch hT (hQ hz)⟩

set_option maxRecDepth 100000 in
set_option maxHeartbeats 8000000 in
theorem law_co (a : Option Addr) (m cap : Nat) (F : Nat → Acc) (t : ByteArray) (w : World) (hn : (m : Int) ≤ 9223372036854775807) (hv : SlAcc w a m F) (hs : ∀ i, i < m → SizedAcc (F i)) (ht : t.size ≤ maxLen) (hT : Tab w) :
    Calls Tryd.prog 6 #[.slice a m cap, .string t] w fun e w' => e = .returned (.bool true) ∧ Below w.heap.size w w' := by
  have HV := hide hv
  have HS := hide hs
  have HT := hide hT
  clear hv hs hT
  have ht2 : (t.size : Int) ≤ 9223372036854775807 := by unfold maxLen at ht; omega
  clear ht
  obtain ⟨L, hL⟩ : ∃ L, L = cover F m t := ⟨_, rfl⟩
  have hlen : L.length ≤ 1048576 := by rw [hL]; exact cover_len F m t
  have HL := hide hL
  clear hL
  go_enter Tryd.func6, Tryd.ntmps6
  by_cases hbig : (1048576 : Int) < t.size
  · go_wp2
    go_ret
    exact ⟨rfl, Below.refl _ _⟩
  go_wp2_with fail
  refine (szAccountS_any a m cap F 1048576 _ (by omega) (by omega) hn HV.out HS.out).mono ?_
  rintro e w1 ⟨r, rfl, hr1, hr2, hr3, hB⟩
  have B1 := hide hB
  clear hB
  by_cases hr : r < 0
  · clear hr3
    go_wp2
    go_ret
    exact ⟨rfl, B1.out⟩
  obtain ⟨hm0, hF⟩ := hr3 (by omega)
  have HF := hide hF
  have hp : m ≤ 1048576 := by omega
  have hsum : (sumN F m : Int) ≤ 1048576 := by omega
  clear hr3 hF hm0
  go_wp2_with fail
  refine (toAccountS_any a m cap F _ hp (HV.out.below B1.out (Nat.le_refl _)) HF.out).mono ?_
  rintro e w2 ⟨g, V, G, H, rfl, hS, hg, hB⟩
  have S0 := hide hS.accE
  have g2 : g < w2.heap.size := hS.row.lt
  have z2 : w.heap.size ≤ w2.heap.size := Nat.le_trans B1.out.size hB.size
  clear hS hg
  have B2 := hide (B1.out.trans (hB.mono B1.out.size))
  clear  B1
  clear hB
  go_wp2_with fail
  refine (specCover_any g m m F t _ (by omega) S0.out HF.out HS.out).mono ?_
  rintro e w3 ⟨v, rfl, hO, hB⟩
  rw [← HL.out] at hO
  have hz23 : w.heap.size ≤ w3.heap.size := Nat.le_trans z2 hB.size
  obtain ⟨ps, cs, gs, rfl, hA⟩ := ansI_of_owns hO
  have hgs : Hid (L.length ≠ 0 → w2.heap.size ≤ gs ∧ gs < w3.heap.size) := fun hz => hA.ge hz
  clear hO
  have B3 := hide (B2.out.trans (hB.mono B2.out.size))
  clear  B2
  have P3 := hide (hA)
  clear hB hA S0
  go_wp2_with fail
  refine (toAccountS_any a m cap F _ hp (HV.out.below B3.out (Nat.le_refl _)) HF.out).mono ?_
  rintro e w4 ⟨h0, V2, G2, H2, rfl, hS, hg, hB⟩
  have hN : h0 < w4.heap.size := hS.row.lt
  have hz34 : w3.heap.size ≤ w4.heap.size := hB.size
  have P4 := hide (P3.out.below hB (Nat.le_refl _))
  have B4 := hide (B3.out.trans (hB.mono B3.out.size))
  clear P3 B3
  have O4 := hide (hS)
  clear hB hS
  go_wp2_with fail
  refine (implCover_any h0 m m F t _ (by omega) O4.out.accE HF.out HS.out (HT.out.below B4.out HT.out.1)).mono ?_
  rintro e w6 ⟨v, rfl, hO, hB⟩
  rw [← HL.out] at hO
  obtain ⟨p, c6, g6, rfl, hA⟩ := ansI_of_owns hO
  have hg6 : Hid (L.length ≠ 0 → w4.heap.size ≤ g6 ∧ g6 < w6.heap.size) := fun hz => hA.ge hz
  have z46 : w4.heap.size ≤ w6.heap.size := hB.size
  clear hO
  have P5 := hide (P4.out.below hB (Nat.le_refl _))
  have O5 := hide (O4.out.below hB (Nat.le_refl _))
  have B5 := hide (B4.out.trans (hB.mono B4.out.size))
  clear P4 O4 B4
  have Q5 := hide (hA)
  clear hA hB
  go_wp2_with fail
  refine (eqIntS_any p ps c6 cs L.length (intF L) _ hlen Q5.out.sl P5.out.sl).mono ?_
  rintro e w7 ⟨rfl, hB⟩
  have P6 := hide (P5.out.below hB (Nat.le_refl _))
  have O6 := hide (O5.out.below hB (Nat.le_refl _))
  have Q6 := hide (Q5.out.below hB (Nat.le_refl _))
  have B6 := hide (B5.out.trans (hB.mono B5.out.size))
  clear P5 O5 Q5 B5
  clear hB
  go_wp2_with fail
  refine (toAccountS_any a m cap F _ hp (HV.out.below B6.out (Nat.le_refl _)) HF.out).mono ?_
  rintro e w8 ⟨i0, V3, G3, H3, rfl, hS, hg8, hB⟩
  have S8 := hide hS.rows.sl
  clear hS hg8
  have P7 := hide (P6.out.below hB (Nat.le_refl _))
  have O7 := hide (O6.out.below hB (Nat.le_refl _))
  have Q7 := hide (Q6.out.below hB (Nat.le_refl _))
  have B7 := hide (B6.out.trans (hB.mono B6.out.size))
  clear P6 O6 Q6 B6
  clear hB
  go_wp2_with fail
  refine (eqAccountS_any (some ⟨h0, 0, none⟩) (some ⟨i0, 0, none⟩) m m m F _ hp O7.out.rows.sl S8.out HF.out).mono ?_
  rintro e w9 ⟨rfl, hB⟩
  clear S8
  have P8 := hide (P7.out.below hB (Nat.le_refl _))
  have O8 := hide (O7.out.below hB (Nat.le_refl _))
  have Q8 := hide (Q7.out.below hB (Nat.le_refl _))
  have B8 := hide (B7.out.trans (hB.mono B7.out.size))
  clear P7 O7 Q7 B7
  clear hB
  go_wp2_with fail
  refine (markAccountS_own h0 m w4.heap.size F V2 G2 H2 _ (by omega) hsum HF.out O8.out).mono ?_
  rintro e w10 ⟨q9, rfl, hT9⟩
  clear O8
  have P9 := hide (P8.out.apart hT9 (by intro hz; rintro ⟨h, -⟩; have := hgs.out hz; omega))
  have Q9 := hide (Q8.out.apart hT9 (by intro hz; rintro ⟨-, h⟩; have := hg6.out hz; omega))
  have B9 := hide (B8.out.trans (hT9.toBelow (by rintro x ⟨h, -⟩; have := hz23; omega) B8.out.size))
  clear P8 Q8 B8
  clear hT9
  have hq9 : ¬ ((q9 : Int) < 0) := by omega
  go_wp2_with fail
  refine (eqIntS_any p ps c6 cs L.length (intF L) _ hlen Q9.out.sl P9.out.sl).mono ?_
  rintro e w11 ⟨rfl, hB⟩
  have P10 := hide (P9.out.below hB (Nat.le_refl _))
  have Q10 := hide (Q9.out.below hB (Nat.le_refl _))
  have B10 := hide (B9.out.trans (hB.mono B9.out.size))
  clear P9 Q9 B9
  clear hB
  go_wp2_with fail
  refine (markIntS_sl p L.length c6 1 g6 _ (by omega) (by omega) (by omega) Q10.out.room).mono ?_
  rintro e w12 ⟨rfl, hM, hT11⟩
  have M12 := hide hM
  clear hM
  clear Q10
  have P11 := hide (P10.out.apart hT11 (by intro hz; rintro ⟨-, h⟩; have := hgs.out hz; have := hg6.out hz; have := hz34; omega))
  have B11 := hide (B10.out.trans (hT11.toBelow (by rintro x ⟨hz, h⟩; have := hg6.out hz; have := hz23; have := hz34; omega) B10.out.size))
  clear P10 B10
  clear hT11
  go_wp2_with fail
  refine (heldIntS_sl p L.length c6 1 g6 _ (by omega) (by omega) (by omega) M12.out).mono ?_
  rintro e w13 ⟨rfl, hB⟩
  clear M12
  have P12 := hide (P11.out.below hB (Nat.le_refl _))
  have B12 := hide (B11.out.trans (hB.mono B11.out.size))
  clear P11 B11
  clear hB
  have hq1 : ¬ (((1 + L.length : Nat) : Int) < 0) := by omega
  go_wp2_with fail
  refine (toAccountS_any a m cap F _ hp (HV.out.below B12.out (Nat.le_refl _)) HF.out).mono ?_
  rintro e w14 ⟨i3, V4, G4, H4, rfl, hS, hg9, hB⟩
  have S0 := hide hS.accE
  clear hS hg9
  have P13 := hide (P12.out.below hB (Nat.le_refl _))
  have B13 := hide (B12.out.trans (hB.mono B12.out.size))
  clear P12 B12
  clear hB
  go_wp2_with fail
  refine (implCover_any i3 m m F t _ (by omega) S0.out HF.out HS.out (HT.out.below B13.out HT.out.1)).mono ?_
  rintro e w15 ⟨v, rfl, hO, hB⟩
  rw [← HL.out] at hO
  obtain ⟨p2, c7, g7, rfl, hA⟩ := ansI_of_owns hO
  have A15 := hide hA
  clear hA hO
  have P14 := hide (P13.out.below hB (Nat.le_refl _))
  have B14 := hide (B13.out.trans (hB.mono B13.out.size))
  clear P13 B13
  clear hB
  go_wp2_with fail
  refine (eqIntS_any p2 ps c7 cs L.length (intF L) _ hlen A15.out.sl P14.out.sl).mono ?_
  rintro e w16 ⟨rfl, hB⟩
  have P15 := hide (P14.out.below hB (Nat.le_refl _))
  have B15 := hide (B14.out.trans (hB.mono B14.out.size))
  clear P14 B14
  clear hB
  go_wp2
  go_ret
  exact ⟨rfl, B15.out⟩

end Go.Proofs.YtkgddbcjmejfaaaDoor.Vp
