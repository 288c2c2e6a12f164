/-
  FnExactPutSource: the law. Written by tools/put_law.py.
-/
import Derived.Test.YthbigpnaepbhjaaDoorZHSpace
import Derived.Test.YthbigpnaepbhjaaDoorZDpLaw
import Derived.Test.YthbigpnaepbhjaaDoorZPsImpl
import Derived.Test.YthbigpnaepbhjaaDoorZPsSpec
namespace Go.Proofs.YthbigpnaepbhjaaDoor.Vp
open Go.RowKit

theorem put_len {n0 : Nat} {f0 : Nat → Source} {n1 : Nat} {f1 : Nat → Target} {t tx : ByteArray} : (putS n0 f0 n1 f1 t tx).length ≤ 201 ∧ (putT n0 f0 n1 f1 t tx).length ≤ n1 := by
  unfold putS putT
  by_cases h : putC n0 f0 n1 f1 t tx = 0
  · rw [if_pos h, if_pos h]
    refine ⟨?_, keepT_len f1 t n1⟩
    have h1 := check_few (put_zero h)
    have h2 := keepS_len f0 t n0
    have h3 := insTo_len (keepS f0 t n0) ⟨t, tx⟩ t (keepS f0 t n0).length
    unfold insF
    split
    · have := h3.1
      omega
    · rename_i h4
      have := h3.2 (by simpa using h4)
      simp only [List.length_append, List.length_cons, List.length_nil]
      omega
  · rw [if_neg h, if_neg h]
    simp
theorem put_fits {n0 : Nat} {f0 : Nat → Source} {n1 : Nat} {f1 : Nat → Target} {t tx : ByteArray} (hf : ∀ i, i < n1 → FitsTarget (f1 i)) : ∀ x ∈ putT n0 f0 n1 f1 t tx, FitsTarget x := by
  intro x hx
  unfold putT at hx
  split at hx
  · simp only [keepT, List.mem_filter, List.mem_map, List.mem_range] at hx
    obtain ⟨⟨i, hi, rfl⟩, _⟩ := hx
    exact hf i hi
  · simp at hx

set_option maxRecDepth 100000 in
set_option maxHeartbeats 8000000 in
theorem law_putS (a0 : Option Addr) (n0 c0 : Nat) (f0 : Nat → Source) (a1 : Option Addr) (n1 c1 : Nat) (f1 : Nat → Target) (t tx : ByteArray) (w : World) (hn0 : (n0 : Int) ≤ 9223372036854775807) (hn1 : (n1 : Int) ≤ 9223372036854775807)
    (hv0 : SlSource w a0 n0 f0) (hs0 : ∀ i, i < n0 → (f0 i).name.size ≤ maxLen ∧ (f0 i).text.size ≤ maxLen) (hv1 : SlTarget w a1 n1 f1) (hs1 : ∀ i, i < n1 → SizedTarget (f1 i)) (ht : t.size ≤ maxLen) (hx : tx.size ≤ maxLen) (hT : Tab w) :
    Calls Tryd.prog 3 #[.agg #[.slice a0 n0 c0, .slice a1 n1 c1], .string t, .string tx] w fun e w' => e = .returned (.bool true) ∧ Below w.heap.size w w' := by
  have HV0 := hide hv0
  have HV1 := hide hv1
  have HS0 := hide hs0
  have HS1 := hide hs1
  have HT := hide hT
  have ht2 : (t.size : Int) ≤ 9223372036854775807 := by unfold maxLen at ht; omega
  have hx2 : (tx.size : Int) ≤ 9223372036854775807 := by unfold maxLen at hx; omega
  clear hx
  clear hv0 hv1 hs0 hs1 hT ht
  obtain ⟨D, hD⟩ : ∃ D, D = putC n0 f0 n1 f1 t tx := ⟨_, rfl⟩
  obtain ⟨LS, hLS⟩ : ∃ LS, LS = putS n0 f0 n1 f1 t tx := ⟨_, rfl⟩
  obtain ⟨LT, hLT⟩ : ∃ LT, LT = putT n0 f0 n1 f1 t tx := ⟨_, rfl⟩
  have hlen := put_len (n0 := n0) (f0 := f0) (n1 := n1) (f1 := f1) (t := t) (tx := tx)
  rw [← hLS, ← hLT] at hlen
  obtain ⟨hl0, hl1⟩ := hlen
  have HD := hide hD
  have HLS := hide hLS
  have HLT := hide hLT
  clear hD hLS hLT
  have B0 := hide ((Below.refl w.heap.size w).alloc (Nat.le_refl w.heap.size) (.cells #[.slice a0 n0 c0, .slice a1 n1 c1] 25))
  have KA0 := hide (two_box w (.slice a0 n0 c0) (.slice a1 n1 c1) 25)
  go_enter Tryd.func3, Tryd.ntmps3
  by_cases hbig : (1048576 : Int) < t.size
  · go_wp2
    go_ret
    exact ⟨rfl, B0.out⟩
  by_cases hbig2 : (1048576 : Int) < tx.size
  · go_wp2
    go_ret
    exact ⟨rfl, B0.out⟩
  go_wp2_with fail
  generalize w.alloc (.cells #[.slice a0 n0 c0, .slice a1 n1 c1] 25) = W at B0 KA0 ⊢
  refine (szSpace_any a0 n0 c0 f0 a1 n1 c1 f1 1048576 _ (by omega) (by omega) hn0 hn1 (HV0.out.below B0.out (Nat.le_refl _)) HS0.out (HV1.out.below B0.out (Nat.le_refl _)) HS1.out).mono ?_
  rintro e w1 ⟨r, rfl, hr1, hr2, hr3, hB⟩
  have KA1 := hide (KA0.out.below hB)
  have B1 := hide (B0.out.trans (hB.mono B0.out.size))
  clear hB B0 KA0
  by_cases hr : r < 0
  · clear hr3
    go_wp2
    go_ret
    exact ⟨rfl, B1.out⟩
  obtain ⟨hm0, hm1, hF⟩ := hr3 (by omega)
  have HF := hide hF
  have hp0 : n0 ≤ 1048576 := by omega
  have hp1 : n1 ≤ 1048576 := by omega
  have FT : Hid (∀ x ∈ LT, FitsTarget x) := by show ∀ x ∈ LT, FitsTarget x; rw [HLT.out]; exact put_fits HF.out
  clear hr3 hF hm0 hm1
  have KAc0 := KA1.out.c0
  have KAc1 := KA1.out.c1
  go_wp2_with fail
  refine (toSpace_any a0 n0 c0 f0 a1 n1 c1 f1 _ hp0 hp1 (HV0.out.below B1.out (Nat.le_refl _)) (HV1.out.below B1.out (Nat.le_refl _)) HF.out).mono ?_
  rintro e w2 ⟨s0, s1, rfl, hS0, hg0, hS1, hg1, hB⟩
  have S0 := hide hS0.sl
  have S1 := hide hS1.row.sl
  clear hS0 hS1 hg0 hg1
  clear KAc0 KAc1
  have KA2 := hide (KA1.out.below hB)
  have B2 := hide (B1.out.trans (hB.mono B1.out.size))
  clear KA1 B1
  clear hB
  go_wp2_with fail
  refine (specPutS_any (some ⟨s0, 0, none⟩) n0 n0 f0 (some ⟨s1, 0, none⟩) n1 n1 f1 t tx _ (by omega) (by omega) S0.out S1.out HF.out (fun i hi => (HS1.out i hi).2.2)).mono ?_
  rintro e w3 ⟨v0, v1, Rp, rfl, hO, hR, hM, hB⟩
  rw [← HLS.out] at hO
  rw [← HLT.out] at hM
  rw [← HD.out]
  obtain ⟨pa, pc, rfl⟩ := own_slice hO
  obtain ⟨pb, pd, hv1⟩ := own_slice hR.own
  have eRp : Rp.length = LT.length := by rw [← hM]; simp
  rw [eRp] at hv1
  subst hv1
  have HPX := hide (held_new hO hR)
  have MRp := hide hM
  have ERp := hide eRp
  clear hO hR hM eRp
  have KA3 := hide (KA2.out.below hB)
  have B3 := hide (B2.out.trans (hB.mono B2.out.size))
  clear KA2 B2
  have HP3 := HPX
  clear HPX hB S0 S1
  have DB := hide ((Below.refl w3.heap.size w3).alloc (Nat.le_refl _) (.cells #[.slice pa LS.length pc, .slice pb LT.length pd] 30))
  have K6X := hide (two_box w3 (.slice pa LS.length pc) (.slice pb LT.length pd) 30)
  have KA4 := hide (KA3.out.below DB.out)
  have HP4 := hide (HP3.out.below DB.out)
  have B4 := hide (B3.out.trans (DB.out.mono B3.out.size))
  clear KA3 HP3 B3
  have K64 := K6X
  clear K6X DB
  have KAc0 := KA4.out.c0
  have KAc1 := KA4.out.c1
  go_wp2_with fail
  generalize hw4 : w3.alloc (.cells #[.slice pa LS.length pc, .slice pb LT.length pd] 30) = w4 at KA4 HP4 K64 B4 KAc0 KAc1 ⊢
  have hz4 : w4.heap.size = w3.heap.size + 1 := by rw [← hw4]; simp
  clear hw4
  generalize w2.heap.size = bp at HP4
  generalize w3.heap.size = b6 at K64 HP4 hz4 ⊢
  refine (toSpace_anyO a0 n0 c0 f0 a1 n1 c1 f1 _ hp0 hp1 (HV0.out.below B4.out (Nat.le_refl _)) (HV1.out.below B4.out (Nat.le_refl _)) HF.out).mono ?_
  rintro e w5 ⟨x0, x1, rfl, hX0, hx0, hX1, hx1, hB⟩
  have SCX := hide (scells_copy (lo := w4.heap.size) hX0 hX1 hx0 hx1 HF.out)
  have XSX := hide hX0.row.sl
  have XTX := hide hX1.row.sl
  have h45 : w4.heap.size ≤ w5.heap.size := hB.size
  have hwl : w.heap.size < w4.heap.size := KA4.out.lt
  clear hX0 hX1 hx0 hx1
  clear KAc0 KAc1
  have KA5 := hide (KA4.out.below hB)
  have HP5 := hide (HP4.out.below hB)
  have K65 := hide (K64.out.below hB)
  have B5 := hide (B4.out.trans (hB.mono B4.out.size))
  clear KA4 HP4 K64 B4
  have SC5 := SCX
  clear SCX
  have XS5 := XSX
  clear XSX
  have XT5 := XTX
  clear XTX
  clear hB
  have DB := hide ((Below.refl w5.heap.size w5).alloc (Nat.le_refl _) (.cells #[.slice (some ⟨x0, 0, none⟩) n0 n0, .slice (some ⟨x1, 0, none⟩) n1 n1] 30))
  have K8X := hide (two_box w5 (.slice (some ⟨x0, 0, none⟩) n0 n0) (.slice (some ⟨x1, 0, none⟩) n1 n1) 30)
  have KA6 := hide (KA5.out.below DB.out)
  have HP6 := hide (HP5.out.below DB.out)
  have K66 := hide (K65.out.below DB.out)
  have SC6 := hide (SC5.out.below DB.out)
  have XS6 := hide (XS5.out.below DB.out (Nat.le_refl _))
  have XT6 := hide (XT5.out.below DB.out (Nat.le_refl _))
  have B6 := hide (B5.out.trans (DB.out.mono B5.out.size))
  clear KA5 HP5 K65 SC5 XS5 XT5 B5
  have K86 := K8X
  clear K8X DB
  have K8c0 := K86.out.c0
  have K8c1 := K86.out.c1
  go_wp2_with fail
  generalize hw6 : w5.alloc (.cells #[.slice (some ⟨x0, 0, none⟩) n0 n0, .slice (some ⟨x1, 0, none⟩) n1 n1] 30) = w6 at KA6 HP6 K66 SC6 XS6 XT6 K86 B6 K8c0 K8c1 ⊢
  have hz6 : w6.heap.size = w5.heap.size + 1 := by rw [← hw6]; simp
  clear hw6
  generalize w5.heap.size = hi at SC6 K86 K8c0 K8c1 h45 hz6 ⊢
  generalize w4.heap.size = lo at SC6 h45 hwl hz4
  refine (implPutS_any (some ⟨x0, 0, none⟩) n0 n0 f0 (some ⟨x1, 0, none⟩) n1 n1 f1 t tx _ (by omega) (by omega) XS6.out XT6.out HF.out (HT.out.below B6.out HT.out.1)).mono ?_
  rintro e w7 ⟨v0, v1, Rg, rfl, hO, hR, hM, hB⟩
  rw [← HLS.out] at hO
  rw [← HLT.out] at hM
  rw [← HD.out]
  obtain ⟨ga, gc, rfl⟩ := own_slice hO
  obtain ⟨gb, gd, hv1⟩ := own_slice hR.own
  have eRg : Rg.length = LT.length := by rw [← hM]; simp
  rw [eRg] at hv1
  subst hv1
  have HGX := hide (held_new hO hR)
  have MRg := hide hM
  have ERg := hide eRg
  clear hO hR hM eRg
  have h67 : w6.heap.size ≤ w7.heap.size := hB.size
  clear K8c0 K8c1
  have KA7 := hide (KA6.out.below hB)
  have HP7 := hide (HP6.out.below hB)
  have K67 := hide (K66.out.below hB)
  have SC7 := hide (SC6.out.below hB)
  have XS7 := hide (XS6.out.below hB (Nat.le_refl _))
  have XT7 := hide (XT6.out.below hB (Nat.le_refl _))
  have K87 := hide (K86.out.below hB)
  have B7 := hide (B6.out.trans (hB.mono B6.out.size))
  clear KA6 HP6 K66 SC6 XS6 XT6 K86 B6
  have HG7 := HGX
  clear HGX hB
  have DB := hide ((Below.refl w7.heap.size w7).alloc (Nat.le_refl _) (.cells #[.slice ga LS.length gc, .slice gb LT.length gd] 30))
  have K9X := hide (two_box w7 (.slice ga LS.length gc) (.slice gb LT.length gd) 30)
  have KA8 := hide (KA7.out.below DB.out)
  have HP8 := hide (HP7.out.below DB.out)
  have K68 := hide (K67.out.below DB.out)
  have SC8 := hide (SC7.out.below DB.out)
  have XS8 := hide (XS7.out.below DB.out (Nat.le_refl _))
  have XT8 := hide (XT7.out.below DB.out (Nat.le_refl _))
  have K88 := hide (K87.out.below DB.out)
  have HG8 := hide (HG7.out.below DB.out)
  have B8 := hide (B7.out.trans (DB.out.mono B7.out.size))
  clear KA7 HP7 K67 SC7 XS7 XT7 K87 HG7 B7
  have K98 := K9X
  clear K9X DB
  have K9c0 := K98.out.c0
  have K9c1 := K98.out.c1
  have K6c0 := K68.out.c0
  have K6c1 := K68.out.c1
  go_wp2_with fail
  generalize hw8 : w7.alloc (.cells #[.slice ga LS.length gc, .slice gb LT.length gd] 30) = w8 at KA8 HP8 K68 SC8 XS8 XT8 K88 HG8 K98 B8 K9c0 K9c1 K6c0 K6c1 ⊢
  clear hw8
  generalize w7.heap.size = b9 at HG8 K98 K9c0 K9c1 h67 ⊢
  generalize w6.heap.size = b2 at HG8 h67 hz6
  refine (eqSpace_any ga pa gc pc LS.length (srcF LS) gb pb gd pd LT.length (tgtF LT) _ (by omega) (by omega) (HG8.out.src rfl) (HP8.out.src rfl) (HG8.out.tgt rfl MRg.out) (HP8.out.tgt rfl MRp.out) (tgt_fits FT.out)).mono ?_
  rintro e w9 ⟨rfl, hB⟩
  clear K9c0 K9c1 K6c0 K6c1
  have KA9 := hide (KA8.out.below hB)
  have HP9 := hide (HP8.out.below hB)
  have K69 := hide (K68.out.below hB)
  have SC9 := hide (SC8.out.below hB)
  have XS9 := hide (XS8.out.below hB (Nat.le_refl _))
  have XT9 := hide (XT8.out.below hB (Nat.le_refl _))
  have K89 := hide (K88.out.below hB)
  have HG9 := hide (HG8.out.below hB)
  have K99 := hide (K98.out.below hB)
  have B9 := hide (B8.out.trans (hB.mono B8.out.size))
  clear KA8 HP8 K68 SC8 XS8 XT8 K88 HG8 K98 B8
  clear hB
  have KAc0 := KA9.out.c0
  have KAc1 := KA9.out.c1
  have K8c0 := K89.out.c0
  have K8c1 := K89.out.c1
  go_wp2_with fail
  have k8l := K89.out.lt
  go_region_with (first
    | (go_at_call 8; refine (toSpace_any a0 n0 c0 f0 a1 n1 c1 f1 _ hp0 hp1 ?_ ?_ HF.out).mono ?_; (first | exact HV0.out.below B9.out (Nat.le_refl _) | exact HV0.out.below B9.out.drew (Nat.le_refl _)); (first | exact HV1.out.below B9.out (Nat.le_refl _) | exact HV1.out.below B9.out.drew (Nat.le_refl _)); rintro e w10 ⟨i0, i1, rfl, hS0, hg0, hS1, hg1, hB7⟩; have T0 := hide hS0.sl; have T1 := hide hS1.row.sl; have B7 : Hid (Below w9.heap.size w9 w10) := ⟨hB7.os, hB7.tape, hB7.output, hB7.size, hB7.block⟩; have x70 := (B7.out.cell (p := ⟨hi, 0, none⟩) k8l).trans K8c0; have x71 := (B7.out.cell (p := ⟨hi, 1, none⟩) k8l).trans K8c1; have U0 := hide (XS9.out.below B7.out (Nat.le_refl _)); have U1 := hide (XT9.out.below B7.out (Nat.le_refl _)); clear hS0 hS1 hg0 hg1 hB7)
    | (go_at_call 10; refine (eqSpace_any (some ⟨x0, 0, none⟩) (some ⟨i0, 0, none⟩) n0 n0 n0 f0 (some ⟨x1, 0, none⟩) (some ⟨i1, 0, none⟩) n1 n1 n1 f1 _ hp0 hp1 U0.out T0.out U1.out T1.out HF.out).mono ?_; rintro e w11 ⟨rfl, hB8⟩))
  all_goals
    have E11 := hide (B7.out.trans (hB8.mono B7.out.size))
    clear x70 x71 U0 U1 T0 T1 hB8 B7 k8l
    clear KAc0 KAc1 K8c0 K8c1
    have KA10 := hide (KA9.out.below E11.out)
    have HP10 := hide (HP9.out.below E11.out)
    have K610 := hide (K69.out.below E11.out)
    have SC10 := hide (SC9.out.below E11.out)
    have XS10 := hide (XS9.out.below E11.out (Nat.le_refl _))
    have XT10 := hide (XT9.out.below E11.out (Nat.le_refl _))
    have K810 := hide (K89.out.below E11.out)
    have HG10 := hide (HG9.out.below E11.out)
    have K910 := hide (K99.out.below E11.out)
    have B10 := hide (B9.out.trans (E11.out.mono B9.out.size))
    clear KA9 HP9 K69 SC9 XS9 XT9 K89 HG9 K99 B9
    clear E11
    have K8c0 := K810.out.c0
    have K8c1 := K810.out.c1
    go_wp2_with fail
    refine (markSpace_any (fun k => lo ≤ k ∧ k < hi) (some ⟨x0, 0, none⟩) (some ⟨x1, 0, none⟩) n0 n0 n1 n1 _ (by omega) (by omega) SC10.out).mono ?_
    rintro e w12 ⟨rk, rfl, _, hW⟩
    clear K8c0 K8c1
    have hK6l : b6 < lo := by omega
    have KA11 := hide (KA10.out.touch hW (by omega))
    have HP11 := hide (HP10.out.touch hW (fun k hk => by omega))
    have K611 := hide (K610.out.touch hW (by omega))
    have HG11 := hide (HG10.out.touch hW (fun k hk => by omega))
    have K911 := hide (K910.out.touch hW (by omega))
    have B11 := hide (B10.out.trans (hW.toBelow (fun k hk => by omega) B10.out.size))
    clear KA10 HP10 K610 SC10 XS10 XT10 K810 HG10 K910 B10 hW
    have K9c0 := K911.out.c0
    have K9c1 := K911.out.c1
    have K6c0 := K611.out.c0
    have K6c1 := K611.out.c1
    go_wp2_with fail
    refine (eqSpace_any ga pa gc pc LS.length (srcF LS) gb pb gd pd LT.length (tgtF LT) _ (by omega) (by omega) (HG11.out.src rfl) (HP11.out.src rfl) (HG11.out.tgt rfl MRg.out) (HP11.out.tgt rfl MRp.out) (tgt_fits FT.out)).mono ?_
    rintro e w13 ⟨rfl, hB⟩
    clear K9c0 K9c1 K6c0 K6c1
    have KA12 := hide (KA11.out.below hB)
    have HP12 := hide (HP11.out.below hB)
    have K612 := hide (K611.out.below hB)
    have HG12 := hide (HG11.out.below hB)
    have K912 := hide (K911.out.below hB)
    have B12 := hide (B11.out.trans (hB.mono B11.out.size))
    clear KA11 HP11 K611 HG11 K911 B11
    clear hB
    have K9c0 := K912.out.c0
    have K9c1 := K912.out.c1
    go_wp2_with fail
    refine (markSpace_any (fun k => b2 ≤ k ∧ k < b9) ga gb LS.length gc LT.length gd _ (by omega) (by omega) (HG12.out.cells rfl ERg.out.symm (row_fits FT.out MRg.out))).mono ?_
    rintro e w14 ⟨rm, rfl, hMk, hW⟩
    have MKX := hide hMk
    clear hMk
    clear K9c0 K9c1
    have KA13 := hide (KA12.out.touch hW (by omega))
    have HP13 := hide (HP12.out.touch hW (fun k hk => by omega))
    have K613 := hide (K612.out.touch hW (by omega))
    have K913 := hide (K912.out.touch hW (by omega))
    have B13 := hide (B12.out.trans (hW.toBelow (fun k hk => by omega) B12.out.size))
    clear KA12 HP12 K612 HG12 K912 B12 hW
    have MK13 := MKX
    clear MKX
    have K9c0 := K913.out.c0
    have K9c1 := K913.out.c1
    go_wp2_with fail
    refine (heldSpace_any ga gb LS.length gc LT.length gd rm _ (by omega) (by omega) MK13.out).mono ?_
    rintro e w15 ⟨rfl, hB⟩
    clear K9c0 K9c1
    have KA14 := hide (KA13.out.below hB)
    have HP14 := hide (HP13.out.below hB)
    have K614 := hide (K613.out.below hB)
    have K914 := hide (K913.out.below hB)
    have MK14 := hide (MK13.out.below hB (Nat.le_refl _))
    have B14 := hide (B13.out.trans (hB.mono B13.out.size))
    clear KA13 HP13 K613 K913 MK13 B13
    clear hB
    have KAc0 := KA14.out.c0
    have KAc1 := KA14.out.c1
    go_wp2_with fail
    refine (toSpace_any a0 n0 c0 f0 a1 n1 c1 f1 _ hp0 hp1 (HV0.out.below B14.out (Nat.le_refl _)) (HV1.out.below B14.out (Nat.le_refl _)) HF.out).mono ?_
    rintro e w16 ⟨z0, z1, rfl, hS0, hg0, hS1, hg1, hB⟩
    have S0 := hide hS0.sl
    have S1 := hide hS1.row.sl
    clear hS0 hS1 hg0 hg1
    clear KAc0 KAc1
    have KA15 := hide (KA14.out.below hB)
    have HP15 := hide (HP14.out.below hB)
    have K615 := hide (K614.out.below hB)
    have K915 := hide (K914.out.below hB)
    have MK15 := hide (MK14.out.below hB (Nat.le_refl _))
    have B15 := hide (B14.out.trans (hB.mono B14.out.size))
    clear KA14 HP14 K614 K914 MK14 B14
    clear hB
    go_wp2_with fail
    refine (implPutS_any (some ⟨z0, 0, none⟩) n0 n0 f0 (some ⟨z1, 0, none⟩) n1 n1 f1 t tx _ (by omega) (by omega) S0.out S1.out HF.out (HT.out.below B15.out HT.out.1)).mono ?_
    rintro e w17 ⟨v0, v1, Rh, rfl, hO, hR, hM, hB⟩
    rw [← HLS.out] at hO
    rw [← HLT.out] at hM
    rw [← HD.out]
    obtain ⟨ha, hc, rfl⟩ := own_slice hO
    obtain ⟨hb, hd, hv1⟩ := own_slice hR.own
    have eRh : Rh.length = LT.length := by rw [← hM]; simp
    rw [eRh] at hv1
    subst hv1
    have HHX := hide (held_new hO hR)
    have MRh := hide hM
    have ERh := hide eRh
    clear hO hR hM eRh
    have KA16 := hide (KA15.out.below hB)
    have HP16 := hide (HP15.out.below hB)
    have K616 := hide (K615.out.below hB)
    have K916 := hide (K915.out.below hB)
    have MK16 := hide (MK15.out.below hB (Nat.le_refl _))
    have B16 := hide (B15.out.trans (hB.mono B15.out.size))
    clear KA15 HP15 K615 K915 MK15 B15
    have HH16 := HHX
    clear HHX hB
    have DB := hide ((Below.refl w17.heap.size w17).alloc (Nat.le_refl _) (.cells #[.slice ha LS.length hc, .slice hb LT.length hd] 30))
    have K14X := hide (two_box w17 (.slice ha LS.length hc) (.slice hb LT.length hd) 30)
    have KA17 := hide (KA16.out.below DB.out)
    have HP17 := hide (HP16.out.below DB.out)
    have K617 := hide (K616.out.below DB.out)
    have K917 := hide (K916.out.below DB.out)
    have MK17 := hide (MK16.out.below DB.out (Nat.le_refl _))
    have HH17 := hide (HH16.out.below DB.out)
    have B17 := hide (B16.out.trans (DB.out.mono B16.out.size))
    clear KA16 HP16 K616 K916 MK16 HH16 B16
    have K1417 := K14X
    clear K14X DB
    have K14c0 := K1417.out.c0
    have K14c1 := K1417.out.c1
    have K6c0 := K617.out.c0
    have K6c1 := K617.out.c1
    go_wp2_with fail
    refine (eqSpace_any ha pa hc pc LS.length (srcF LS) hb pb hd pd LT.length (tgtF LT) _ (by omega) (by omega) (HH17.out.src rfl) (HP17.out.src rfl) (HH17.out.tgt rfl MRh.out) (HP17.out.tgt rfl MRp.out) (tgt_fits FT.out)).mono ?_
    rintro e w18 ⟨rfl, hB⟩
    clear K14c0 K14c1 K6c0 K6c1
    have BZ := hide (B17.out.trans (hB.mono B17.out.size))
    clear hB
    go_wp2
    go_ret
    exact ⟨rfl, BZ.out⟩

end Go.Proofs.YthbigpnaepbhjaaDoor.Vp
