/-
  Put together of: UnSpec, UnLaw.
-/
import Derived.Test.YtkbhcajiebeepaaGreatDoorYV
import Derived.Test.YtkbhcajiebeepaaGreatDoorYS
import Derived.Test.YtkbhcajiebeepaaGreatDoorYW

/-
  Unseal, spec.
-/
namespace Go.Proofs.YtkbhcajiebeepaaGreatDoor.Vp
open Go.RowKit Go.Proofs.YtkbhcajiebeepaaGreatDoor.Ca

theorem ba_ext {a b : ByteArray} (h : a.data.toList = b.data.toList) : a = b := ByteArray.ext (Array.ext' h)
theorem ext_list (s : ByteArray) (i j : Nat) : (s.extract i j).data.toList = (s.data.toList.drop i).take (j - i) := by
  simp [ByteArray.data_extract, Array.toList_extract, List.extract_eq_take_drop]
theorem ext_tail (s : ByteArray) : (s.extract 17 s.size).data.toList = s.data.toList.drop 17 := by
  rw [ext_list]
  refine List.take_of_length_le ?_
  rw [List.length_drop, size_toL]
  exact Nat.le_refl _
theorem ext_head (s : ByteArray) : (s.extract 0 17).data.toList = s.data.toList.take 17 := by rw [ext_list]; rfl
theorem app_list (a b : ByteArray) : (a ++ b).data.toList = a.data.toList ++ b.data.toList := by rw [ByteArray.data_append, Array.toList_append]
theorem seal_iff {s k : ByteArray} (h : 17 ≤ s.size) (hC : ¬ (s.extract 17 s.size).toList = []) : sealB (s.extract 17 s.size) k = s ↔ Sealed s k := by
  have h17 := sealT_size (s.extract 17 s.size) k
  have hl : (sealT (s.extract 17 s.size) k).length = 17 := List.size_toArray.symm.trans h17
  unfold sealB Sealed
  rw [if_neg hC]
  generalize sealT (s.extract 17 s.size) k = T at h17 hl
  by_cases hk : 60 < k.size
  · rw [if_pos hk]
    constructor
    · intro e
      rw [← e] at h
      exact absurd h (by decide)
    · intro e
      omega
  · rw [if_neg hk]
    constructor
    · intro e
      refine ⟨h, by omega, ba_ext ?_⟩
      have e2 := congrArg (fun x => x.data.toList) e
      simp only [app_list] at e2
      rw [ext_head, ← e2]
      have : (⟨T.toArray⟩ : ByteArray).data.toList = T := rfl
      rw [this, List.take_left' hl]
    · rintro ⟨_, _, e⟩
      rw [← e]
      refine ba_ext ?_
      rw [app_list, ext_head, ext_tail, List.take_append_drop]

set_option maxRecDepth 100000 in
set_option maxHeartbeats 4000000 in
theorem specUnseal_short (s k : ByteArray) (w : World) (h : s.size < 18) : Calls Tryz.prog 10 #[.string s, .string k] w fun e w' => UnPost w s k e w' := by
  have IS : Hid (IsUn s k none) := by
    refine ⟨fun x => isRd_none fun f n _ => ?_, fun _ => rfl⟩
    rw [ext_tail]
    exact List.drop_eq_nil_of_le (by rw [size_toL]; omega)
  have A0 := hide ((Below.refl w.heap.size w).alloc (Nat.le_refl _) (.cells #[.slice none 0 0] 24))
  have B0 : Hid (AB (w.alloc (.cells #[.slice none 0 0] 24)) w.heap.size (.slice none 0 0)) := heap_alloc_new w _
  have h1 : (s.size : Int) < 18 := by omega
  go_enter Tryz.func10, Tryz.ntmps10
  go_upto_region 1 with fail
  generalize w.alloc (.cells #[.slice none 0 0] 24) = W at A0 B0 ⊢
  have c0 := B0.out.c0
  have f0 := B0.out.fz 0
  have l0 := B0.out.lt
  have B1 := hide (B0.out.set (.slice none 0 0))
  have A1 := hide (A0.out.setCell (p := ⟨w.heap.size, 0, none⟩) (Nat.le_refl _) (.slice none 0 0))
  go_wp2
  try simp only [Exit.inBlock, Exit.then]
  refine bodyPost_ret (res_acc rfl _ _ w.heap.size _ rfl B1.out) rfl ?_
  unfold UnPost
  exact ⟨none, none, 0, [], IS.out, rfl, dRow_nil _ _, rfl, SzD.nil _, A1.out⟩

set_option maxRecDepth 100000 in
set_option maxHeartbeats 4000000 in
theorem specUnseal_in (s k : ByteArray) (w : World) (h : 18 ≤ s.size) (hs : s.size ≤ 1048576) (hk : k.size ≤ 1048576) (RA0 : ∀ V, Calls Tryz.prog 5 #[.string (s.extract 17 s.size)] V fun e w' => RaPost V (s.extract 17 s.size).data.toList e w') : Calls Tryz.prog 10 #[.string s, .string k] w fun e w' => UnPost w s k e w' := by
  have RA := hide RA0
  unfold RaPost at RA
  clear RA0
  have A0 := hide ((Below.refl w.heap.size w).alloc (Nat.le_refl _) (.cells #[.slice none 0 0] 24))
  have B0 : Hid (AB (w.alloc (.cells #[.slice none 0 0] 24)) w.heap.size (.slice none 0 0)) := heap_alloc_new w _
  have h1 : ¬ (s.size : Int) < 18 := by omega
  have h3 : (17 : Int) ≤ (s.size : Int) := by omega
  have hsq := seal_iff (s := s) (k := k) (by omega)
  have hne : ¬ (s.extract 17 s.size).toList = [] := by
    rw [ByteArray.toList_eq]
    intro e
    have := congrArg List.length e
    rw [size_toL, ext_size s (by omega), List.length_nil] at this
    omega
  have SQ := hide (hsq hne)
  clear hsq
  go_enter Tryz.func10, Tryz.ntmps10
  go_upto_region 1 with fail
  generalize w.alloc (.cells #[.slice none 0 0] 24) = W at A0 B0 ⊢
  have l0 := B0.out.lt
  go_wp2_with fail
  refine (RA.out W).mono ?_
  rintro e w1 ⟨r, a, c, R, hIs, rfl, hDR, hM, hZ, hB1⟩
  have X2 := (Below.refl w1.heap.size w1).alloc (Nat.le_refl _) (.cells #[.slice a R.length c] 24)
  have D2 := hide ((hDR.below X2 (Nat.le_refl _)).mono (show w.heap.size + 1 ≤ W.heap.size by omega))
  have A2 := hide ((A0.out.trans (hB1.mono A0.out.size)).trans (X2.mono (by have := A0.out.size; have := hB1.size; omega)))
  have B2 := hide (B0.out.below (hB1.trans (X2.mono hB1.size)) l0)
  have C2 : Hid (AB (w1.alloc (.cells #[.slice a R.length c] 24)) w1.heap.size (.slice a R.length c)) := heap_alloc_new w1 _
  have HZ := hide hZ
  have HI := hide hIs
  have HM := hide hM
  have hRl : R.length ≤ 300001 := by have := hZ.1; simpa using this
  clear X2 hDR hZ hM hB1 A0 B0 RA hIs
  cases r with
  | none =>
    have IS : Hid (IsUn s k none) := ⟨fun _ => HI.out, fun _ => rfl⟩
    go_upto_region 4 with fail
    generalize w1.alloc (.cells #[.slice a R.length c] 24) = W2 at D2 A2 B2 C2 ⊢
    generalize w1.heap.size = b4 at C2 ⊢
    have c0 := B2.out.c0
    have f0 := B2.out.fz 0
    have l2 := B2.out.lt
    have B5 := hide (B2.out.set (.slice none 0 0))
    have A5 := hide (A2.out.setCell (p := ⟨w.heap.size, 0, none⟩) (Nat.le_refl _) (.slice none 0 0))
    go_wp2
    try simp only [Exit.inBlock, Exit.then]
    refine bodyPost_ret (res_acc rfl _ _ w.heap.size _ rfl B5.out) rfl ?_
    unfold UnPost
    exact ⟨none, none, 0, [], IS.out, rfl, dRow_nil _ _, rfl, SzD.nil _, A5.out⟩
  | some D =>
    go_upto_region 4 with fail
    generalize w1.alloc (.cells #[.slice a R.length c] 24) = W2 at D2 A2 B2 C2 ⊢
    generalize w1.heap.size = b4 at C2 ⊢
    have c4 := C2.out.c0
    have l4 := C2.out.lt
    obtain ⟨f, n, hf, hS, rfl⟩ := HI.out.1 D rfl
    have hRD : R.map (·.1) = nrm f n := HM.out
    have hnl : n = R.length := by rw [← nrm_len f n, ← hRD]; simp
    subst hnl
    have hsl : SlDeed W2 a R.length f := by
      have h1 := D2.out.deeds
      rw [hRD] at h1
      exact sl_nrm h1
    have hft := fit_nrm (f := f) (n := R.length) (k := 300001) (by rw [← hRD]; exact HZ.out) (by omega)
    have SE := specSeal_any a R.length c f k W2 (by omega) (by omega) hsl (fun i hi => (hft i hi).1) (fun i hi => (hft i hi).2)
    have es : (⟨(formB f R.length).toArray⟩ : ByteArray) = s.extract 17 s.size := by
      refine ba_ext ?_
      rw [hf]
    rw [es] at SE
    clear hsl hft es hf hS
    have HRD := hide hRD
    clear hRD
    by_cases hSd : Sealed s k
    · have IS : Hid (IsUn s k (some (nrm f R.length))) := ⟨fun _ => HI.out, fun x => absurd hSd x⟩
      rw [SQ.out.2 hSd] at SE
      have HSE := hide SE
      clear SE hSd SQ
      go_wp2_with fail
      refine HSE.out.mono ?_
      rintro e w3 ⟨rfl, hB3⟩
      have D3 := hide (D2.out.below hB3 (Nat.le_refl _))
      have A3 := hide (A2.out.trans (hB3.mono A2.out.size))
      have B3 := hide (B2.out.below hB3 B2.out.lt)
      have C3 := hide (C2.out.below hB3 C2.out.lt)
      clear hB3 HSE c4 l4 D2 A2 B2 C2
      have c4 := C3.out.c0
      have l4 := C3.out.lt
      have c0 := B3.out.c0
      have f0 := B3.out.fz 0
      have l3 := B3.out.lt
      have B5 := hide (B3.out.set (.slice a R.length c))
      have A5 := hide (A3.out.setCell (p := ⟨w.heap.size, 0, none⟩) (Nat.le_refl _) (.slice a R.length c))
      have D5 := hide ((D3.out.set (p := ⟨w.heap.size, 0, none⟩) (e := 0) (.inl (by show w.heap.size < w.heap.size + 1; omega)) (.slice a R.length c)).mono (show w.heap.size ≤ w.heap.size + 1 by omega))
      go_wp2
      try simp only [Exit.inBlock, Exit.then]
      refine bodyPost_ret (res_acc rfl _ _ w.heap.size _ rfl B5.out) rfl ?_
      unfold UnPost
      exact ⟨some (nrm f R.length), a, c, R, IS.out, rfl, D5.out, HRD.out, HZ.out, A5.out⟩
    · have IS : Hid (IsUn s k none) := isUn_no hSd
      have hnq : ¬ sealB (s.extract 17 s.size) k = s := fun e => hSd (SQ.out.1 e)
      have e1 := bytes_ne hnq
      have e2 := bytes_nb hnq
      generalize sealB (s.extract 17 s.size) k = T at SE hnq e1 e2
      have HSE := hide SE
      clear SE hSd SQ hnq
      go_wp2_with fail
      refine HSE.out.mono ?_
      rintro e w3 ⟨rfl, hB3⟩
      have A3 := hide (A2.out.trans (hB3.mono A2.out.size))
      have B3 := hide (B2.out.below hB3 B2.out.lt)
      clear hB3 HSE c4 l4 D2 A2 B2 C2
      have c0 := B3.out.c0
      have f0 := B3.out.fz 0
      have l3 := B3.out.lt
      have B5 := hide (B3.out.set (.slice none 0 0))
      have A5 := hide (A3.out.setCell (p := ⟨w.heap.size, 0, none⟩) (Nat.le_refl _) (.slice none 0 0))
      go_wp2
      try simp only [Exit.inBlock, Exit.then]
      refine bodyPost_ret (res_acc rfl _ _ w.heap.size _ rfl B5.out) rfl ?_
      unfold UnPost
      exact ⟨none, none, 0, [], IS.out, rfl, dRow_nil _ _, rfl, SzD.nil _, A5.out⟩

theorem specUnseal_if (s k : ByteArray) (w : World) (hs : s.size ≤ 1048576) (hk : k.size ≤ 1048576) (RA : ∀ V, Calls Tryz.prog 5 #[.string (s.extract 17 s.size)] V fun e w' => RaPost V (s.extract 17 s.size).data.toList e w') : Calls Tryz.prog 10 #[.string s, .string k] w fun e w' => UnPost w s k e w' := by
  by_cases h : s.size < 18
  · exact specUnseal_short s k w h
  · exact specUnseal_in s k w (by omega) hs hk RA

end Go.Proofs.YtkbhcajiebeepaaGreatDoor.Vp

/-
  FnExactUnseal: the law.
-/
namespace Go.Proofs.YtkbhcajiebeepaaGreatDoor.Vp
open Go.RowKit Go.Proofs.YtkbhcajiebeepaaGreatDoor.Ca

set_option maxRecDepth 100000 in
set_option maxHeartbeats 4000000 in
theorem lawu_big (s k : ByteArray) (w : World) (hs : 1048576 < s.size) (hm : s.size ≤ maxLen) :
    Calls Tryz.prog 4 #[.string s, .string k] w fun e w' => e = .returned (.bool true) ∧ Below w.heap.size w w' := by
  unfold maxLen at hm
  have h1 : 1048576 < (s.size : Int) := by omega
  go_enter Tryz.func4, Tryz.ntmps4
  go_wp2
  go_ret
  exact ⟨rfl, Below.refl _ _⟩

set_option maxRecDepth 100000 in
set_option maxHeartbeats 4000000 in
theorem lawu_bigk (s k : ByteArray) (w : World) (hs : s.size ≤ 1048576) (hk : 1048576 < k.size) (hm : k.size ≤ maxLen) :
    Calls Tryz.prog 4 #[.string s, .string k] w fun e w' => e = .returned (.bool true) ∧ Below w.heap.size w w' := by
  unfold maxLen at hm
  have h1 : ¬ 1048576 < (s.size : Int) := by omega
  have h2 : 1048576 < (k.size : Int) := by omega
  go_enter Tryz.func4, Tryz.ntmps4
  go_wp2
  go_ret
  exact ⟨rfl, Below.refl _ _⟩

set_option maxRecDepth 100000 in
set_option maxHeartbeats 4000000 in
theorem lawu_in (s k : ByteArray) (w : World) (hs : s.size ≤ 1048576) (hk : k.size ≤ 1048576) (hL : Lay w) (hE : EV w 1) (hD : Deb w) (hg : 10 < w.heap.size) (SPH : ∀ V, Calls Tryz.prog 10 #[.string s, .string k] V fun e w' => UnPost V s k e w') :
    Calls Tryz.prog 4 #[.string s, .string k] w fun e w' => e = .returned (.bool true) ∧ Below w.heap.size w w' := by
  have h1 : ¬ 1048576 < (s.size : Int) := by omega
  have h1k : ¬ 1048576 < (k.size : Int) := by omega
  have SP := hide SPH
  have IM := hide (fun V (hV : Below w.heap.size w V) => implUnseal_any s k V hs hk (hL.below hV (Nat.le_refl _)) (hE.below hV hE.1) ((hV.cell (p := ⟨10, 15, none⟩) hg).trans hD) (Nat.lt_of_lt_of_le hg hV.size))
  unfold UnPost at SP IM
  clear hL hE SPH hD
  go_enter Tryz.func4, Tryz.ntmps4
  go_wp2_with fail
  refine (SP.out w).mono ?_
  rintro e w1 ⟨r, pa, pc, P, hIs, rfl, hD, hM, hZ, hB⟩
  obtain ⟨D, hDD⟩ : ∃ D, D = r.getD [] := ⟨_, rfl⟩
  rw [← hDD] at hM
  have HDD := hide hDD
  clear hDD
  have hPl : P.length = D.length := by rw [← hM]; simp
  have hPn : P.length ≤ 300001 := by have := hZ.1; simpa using this
  have FT : Hid (∀ i, i < D.length → FitsDeed (dF D i)) := fun i hi => (fit_dF (D := D) (k := 300001) (by rw [← hM]; exact hZ) (by omega) i hi).1
  have A1 := (Below.refl w1.heap.size w1).alloc (Nat.le_refl _) (.cells #[.slice pa P.length pc] 24)
  have K2 := hide (hB.trans (A1.mono hB.size))
  have x3 := one_cell w1 (.slice pa P.length pc) 24
  have P2 := hide ((hD.below A1 (Nat.le_refl _)).deeds)
  have HX3 := hide x3
  have HIS := hide hIs
  have HM := hide hM
  clear hIs hD hM hZ hB A1 x3 SP
  rw [hPl] at HX3 P2 K2 ⊢
  rw [HM.out] at P2
  have hDn : D.length ≤ 300001 := by omega
  clear hPl hPn
  go_wp2_with fail
  generalize w1.alloc (.cells #[.slice pa D.length pc] 24) = W2 at K2 HX3 P2 ⊢
  generalize w1.heap.size = b3 at HX3 ⊢
  have PP : Hid (∀ V, Below W2.heap.size W2 V → SlDeed V pa D.length (dF D) ∧ V.cell? ⟨b3, 0, none⟩ = some (.slice pa D.length pc) ∧ b3 < V.heap.size) := fun V hV => ⟨P2.out.below hV (Nat.le_refl _), (hV.cell (p := ⟨b3, 0, none⟩) HX3.out.2).trans HX3.out.1, Nat.lt_of_lt_of_le HX3.out.2 hV.size⟩
  refine (IM.out W2 K2.out).mono ?_
  rintro e w3 ⟨r', ga, gc, R, hIs', rfl, hD3, hM3, hZ3, hB3⟩
  obtain rfl : r' = r := isUn_one hIs' HIS.out
  rw [← HDD.out] at hM3
  have hRl : R.length = D.length := by rw [← hM3]; simp
  have A4 := (Below.refl w3.heap.size w3).alloc (Nat.le_refl _) (.cells #[.slice ga R.length gc] 24)
  have K4 := hide (hB3.trans (A4.mono hB3.size))
  have D3 := hide hD3
  have D4 := hide (hD3.below A4 (Nat.le_refl _))
  have HX5 := hide (one_cell w3 (.slice ga R.length gc) 24)
  have z23 := hB3.size
  have FR : Hid (∀ r ∈ R, FitsDeed r.1) := fun x hx => by
    have h1 := (hZ3.2 x.1 (List.mem_map_of_mem hx))
    have h2 := h1.a
    have h3 := h1.l
    exact ⟨by omega, by omega⟩
  have HM3 := hide hM3
  have EQ : Hid (∀ V ha hc (Q : List DR) base, Below W2.heap.size W2 V → Q.map (·.1) = D → DRow V base (.slice ha Q.length hc) Q → Calls Tryz.prog 7 #[.agg #[.slice ha Q.length hc], .agg #[.slice pa D.length pc]] V fun e w' => e = .returned (.bool true) ∧ Below V.heap.size V w') := fun V ha hc Q base hV hQ hDQ => by
    have hl : Q.length = D.length := by rw [← hQ]; simp
    have h1 := hDQ.deeds
    rw [hQ, hl] at h1
    rw [hl]
    exact eqAccount_any ha pa hc pc D.length (dF D) V (by omega) h1 (PP.out V hV).1 FT.out
  have hRn : (R.length : Int) ≤ 1048576 := by omega
  clear hRl hIs' hD3 hM3 hZ3 hB3 A4 P2
  go_upto_region 7 with fail
  generalize w3.alloc (.cells #[.slice ga R.length gc] 24) = W4 at K4 D4 HX5 ⊢
  obtain ⟨b5, hb5⟩ : ∃ b5, b5 = w3.heap.size := ⟨_, rfl⟩
  rw [← hb5] at HX5
  rw [← hb5]
  have HB5 := hide hb5
  clear hb5
  have c5 := HX5.out.1
  have l5 := HX5.out.2
  have c3 := (PP.out W4 K4.out).2.1
  have l3 := (PP.out W4 K4.out).2.2
  go_wp2_with fail
  refine (EQ.out W4 ga gc R _ K4.out HM3.out D4.out).mono ?_
  rintro e w5 ⟨rfl, hB5⟩
  have K5 := hide (K4.out.trans (hB5.mono K4.out.size))
  have D5 := hide (D4.out.below hB5 (Nat.le_refl _))
  have X5 : Hid (w5.cell? ⟨b5, 0, none⟩ = some (.slice ga R.length gc) ∧ b5 < w5.heap.size) := ⟨(hB5.cell (p := ⟨b5, 0, none⟩) l5).trans c5, Nat.lt_of_lt_of_le l5 hB5.size⟩
  clear hB5 c5 l5 c3 l3 D4 K4 HX5
  have c5 := X5.out.1
  have l5 := X5.out.2
  go_wp2_with fail
  refine (mark_drow D3.out D5.out FR.out hRn).mono ?_
  rintro e w6 ⟨m, rfl, hT6, hM6⟩
  have K6 := hide (K5.out.trans (hT6.toBelow (B := W2.heap.size) (fun x hx => by omega) K5.out.size))
  have c56 := (hT6.cell (p := ⟨b5, 0, none⟩) l5 (by show ¬ (W2.heap.size ≤ b5 ∧ b5 < w3.heap.size); have := HB5.out; omega)).trans c5
  have l56 := Nat.lt_of_lt_of_le l5 hT6.size
  have M6 := hide hM6
  clear hT6 hM6 c5 l5 D5 K5 X5
  go_wp2_with fail
  refine (held_drow M6.out hRn).mono ?_
  rintro e w7 ⟨rfl, hB7⟩
  have K7 := hide (K6.out.trans (hB7.mono K6.out.size))
  have hm0 : ¬ (m : Int) < 0 := by omega
  clear hB7 c56 l56 M6 K6
  go_wp2_with fail
  refine (IM.out w7 (K2.out.trans (K7.out.mono K2.out.size))).mono ?_
  rintro e w8 ⟨r'', ha, hc, Q, hIs'', rfl, hD8, hM8, _, hB8⟩
  obtain rfl : r'' = r' := isUn_one hIs'' HIS.out
  rw [← HDD.out] at hM8
  have A9 := (Below.refl w8.heap.size w8).alloc (Nat.le_refl _) (.cells #[.slice ha Q.length hc] 24)
  have K9 := hide (K7.out.trans ((hB8.trans (A9.mono hB8.size)).mono K7.out.size))
  have D9 := hide (hD8.below A9 (Nat.le_refl _))
  have HX9 := hide (one_cell w8 (.slice ha Q.length hc) 24)
  have HM8 := hide hM8
  clear hIs'' hD8 hM8 hB8 A9 K7
  go_upto_region 18 with fail
  generalize w8.alloc (.cells #[.slice ha Q.length hc] 24) = W9 at K9 D9 HX9 ⊢
  generalize w8.heap.size = b9 at HX9 ⊢
  have c9 := HX9.out.1
  have l9 := HX9.out.2
  have c3 := (PP.out W9 K9.out).2.1
  have l3 := (PP.out W9 K9.out).2.2
  go_wp2_with fail
  refine (EQ.out W9 ha hc Q _ K9.out HM8.out D9.out).mono ?_
  rintro e w10 ⟨rfl, hB10⟩
  have KF := hide (K2.out.trans ((K9.out.trans (hB10.mono K9.out.size)).mono K2.out.size))
  clear hB10 c9 l9 c3 l3
  go_wp2
  go_ret
  exact ⟨rfl, KF.out⟩

end Go.Proofs.YtkbhcajiebeepaaGreatDoor.Vp
