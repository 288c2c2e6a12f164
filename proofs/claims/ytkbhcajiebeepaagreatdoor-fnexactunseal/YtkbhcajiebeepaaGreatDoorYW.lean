/-
  Put together of: RaSpecR, RaLaw.
-/
import Derived.Test.YtkbhcajiebeepaaGreatDoorYU
import Derived.Test.YtkbhcajiebeepaaGreatDoorYC
import Derived.Test.YtkbhcajiebeepaaGreatDoorZT

/-
  ReadAccount, spec.
-/
namespace Go.Proofs.YtkbhcajiebeepaaGreatDoor.Vp
open Go.RowKit Go.Proofs.YtkbhcajiebeepaaGreatDoor.Ca

/-- What l6Read answers. -/
def L6Post (w : World) (S : List UInt8) (e : Ending) (w' : World) : Prop :=
  Below w.heap.size w w' ∧ ∃ a c R, e = .returned (.agg #[.slice a R.length c]) ∧ DRow w' (w.heap.size + 2) (.slice a R.length c) R ∧ SzD 300001 (R.map (·.1)) ∧ ∀ E, GoodAll [] (tL (linesL S)) E → R.map (·.1) = E

set_option maxRecDepth 100000 in
set_option maxHeartbeats 4000000 in
theorem sreadAcc_no (s : ByteArray) (w : World) (hs : s.size ≤ maxLen) (hn : s.data.toList = [] ∨ 300000 < s.size) :
    Calls Tryz.prog 5 #[.string s] w fun e w' => RaPost w s.data.toList e w' := by
  have IS : Hid (IsRd s.data.toList none) := isRd_none fun f n h => by
    rcases hn with h1 | h1
    · exact h1
    · have := form_short h
      rw [size_toL] at this
      omega
  have A0 := hide ((Below.refl w.heap.size w).alloc (Nat.le_refl _) (.cells #[.slice none 0 0] 24))
  have B0 : Hid (AB (w.alloc (.cells #[.slice none 0 0] 24)) w.heap.size (.slice none 0 0)) := heap_alloc_new w _
  unfold maxLen at hs
  unfold RaPost
  generalize hS : s.data.toList = S at IS hn ⊢
  rcases hn with hn | hn
  · have hs0 : s = ⟨#[]⟩ := by
      refine ByteArray.ext (Array.ext' ?_)
      rw [hS, hn]
    subst hs0
    clear hS
    go_enter Tryz.func5, Tryz.ntmps5
    go_upto_region 1 with fail
    generalize w.alloc (.cells #[.slice none 0 0] 24) = W at A0 B0 ⊢
    have c0 := B0.out.c0
    have f0 := B0.out.fz 0
    have l0 := B0.out.lt
    have B1 := hide (B0.out.set (.slice none 0 0))
    have A1 := hide (A0.out.setCell (p := ⟨w.heap.size, 0, none⟩) (Nat.le_refl _) (.slice none 0 0))
    go_wp2
    try simp only [Exit.inBlock, Exit.then]
    refine bodyPost_ret (res_acc rfl _ _ w.heap.size _ rfl B1.out) rfl ?_
    exact ⟨none, none, 0, [], IS.out, rfl, dRow_nil _ _, rfl, SzD.nil _, A1.out⟩
  · have hne : ¬ s.toList = [] := toList_ne (by omega)
    have hp : 300000 < (s.size : Int) := by omega
    clear hS
    go_enter Tryz.func5, Tryz.ntmps5
    go_upto_region 1 with fail
    generalize w.alloc (.cells #[.slice none 0 0] 24) = W at A0 B0 ⊢
    have c0 := B0.out.c0
    have f0 := B0.out.fz 0
    have l0 := B0.out.lt
    have B1 := hide (B0.out.set (.slice none 0 0))
    have A1 := hide (A0.out.setCell (p := ⟨w.heap.size, 0, none⟩) (Nat.le_refl _) (.slice none 0 0))
    go_wp2
    try simp only [Exit.inBlock, Exit.then]
    refine bodyPost_ret (res_acc rfl _ _ w.heap.size _ rfl B1.out) rfl ?_
    exact ⟨none, none, 0, [], IS.out, rfl, dRow_nil _ _, rfl, SzD.nil _, A1.out⟩

set_option maxRecDepth 100000 in
set_option maxHeartbeats 4000000 in
theorem sreadAcc_yes (s : ByteArray) (w : World) (h0 : 0 < s.size) (h3 : s.size ≤ 300000) (LR : ∀ V, Calls Tryz.prog 12 #[.string s] V fun e w' => L6Post V s.data.toList e w') :
    Calls Tryz.prog 5 #[.string s] w fun e w' => RaPost w s.data.toList e w' := by
  have RF := hide LR
  unfold L6Post at RF
  have A0 := hide ((Below.refl w.heap.size w).alloc (Nat.le_refl _) (.cells #[.slice none 0 0] 24))
  have B0 : Hid (AB (w.alloc (.cells #[.slice none 0 0] 24)) w.heap.size (.slice none 0 0)) := heap_alloc_new w _
  have hne : ¬ s.toList = [] := toList_ne (by omega)
  have hie : s.toList.isEmpty = false := by simpa using hne
  have hp : ¬ 300000 < (s.size : Int) := by omega
  have HSS := hide (ByteArray.toList_eq s)
  have hSne : s.data.toList ≠ [] := fun e => by
    have := congrArg List.length e
    rw [size_toL, List.length_nil] at this
    omega
  unfold RaPost
  generalize hS : s.data.toList = S at RF HSS hSne ⊢
  have HS := hide hS
  clear LR hS
  go_enter Tryz.func5, Tryz.ntmps5
  go_upto_region 1 with fail
  generalize w.alloc (.cells #[.slice none 0 0] 24) = W at A0 B0 ⊢
  have l0 := B0.out.lt
  go_wp2_with fail
  refine (RF.out W).mono ?_
  rintro e w1 ⟨hB1, a, c, R, rfl, hD, hZ, hG⟩
  · have X2 := (Below.refl w1.heap.size w1).alloc (Nat.le_refl _) (.cells #[.slice a R.length c] 24)
    have D2 := hide ((hD.below X2 (Nat.le_refl _)).mono (show w.heap.size + 1 ≤ W.heap.size + 2 by omega))
    have A2 := hide ((A0.out.trans (hB1.mono A0.out.size)).trans (X2.mono (by have := A0.out.size; have := hB1.size; omega)))
    have B2 := hide (B0.out.below (hB1.trans (X2.mono hB1.size)) l0)
    have C2 : Hid (AB (w1.alloc (.cells #[.slice a R.length c] 24)) w1.heap.size (.slice a R.length c)) := heap_alloc_new w1 _
    have HZ := hide hZ
    have HG := hide hG
    have hRl : R.length ≤ 300001 := by have := hZ.1; simpa using this
    clear X2 hD hZ hG hB1 A0 B0
    go_upto_region 4 with fail
    generalize w1.alloc (.cells #[.slice a R.length c] 24) = W2 at D2 A2 B2 C2 ⊢
    generalize w1.heap.size = b4 at C2 ⊢
    have c4 := C2.out.c0
    have l4 := C2.out.lt
    by_cases hex : ∃ f n, formB f n = S
    · obtain ⟨f, n, hf⟩ := hex
      have hRD : R.map (·.1) = nrm f n := HG.out _ (form_good hf hSne)
      have hnl : n = R.length := by rw [← nrm_len f n, ← hRD]; simp
      subst hnl
      have hsl : SlDeed W2 a R.length f := by
        have h1 := D2.out.deeds
        rw [hRD] at h1
        exact sl_nrm h1
      have hft := fit_nrm (f := f) (n := R.length) (k := 300001) (by rw [← hRD]; exact HZ.out) (by omega)
      have FA := specForm_any a R.length c f W2 (by omega) hsl (fun i hi => (hft i hi).1) (fun i hi => (hft i hi).2)
      rw [hf] at FA
      have IS := hide (isRd_some hf hSne (fun E hE => by rw [← hRD]; exact HG.out E hE))
      have es : (⟨S.toArray⟩ : ByteArray) = s := by
        refine ByteArray.ext (Array.ext' ?_)
        rw [HS.out]
      rw [es] at FA
      have HFA := hide FA
      have HRD := hide hRD
      clear FA hsl hft hf es hRD
      go_wp2_with fail
      refine HFA.out.mono ?_
      rintro e w3 ⟨rfl, hB3⟩
      have D3 := hide (D2.out.below hB3 (Nat.le_refl _))
      have A3 := hide (A2.out.trans (hB3.mono A2.out.size))
      have B3 := hide (B2.out.below hB3 B2.out.lt)
      have C3 := hide (C2.out.below hB3 C2.out.lt)
      clear hB3 HFA c4 l4 D2 A2 B2 C2
      have c4 := C3.out.c0
      have l4 := C3.out.lt
      have c0 := B3.out.c0
      have f0 := B3.out.fz 0
      have l0 := B3.out.lt
      have B5 := hide (B3.out.set (.slice a R.length c))
      have A5 := hide (A3.out.setCell (p := ⟨w.heap.size, 0, none⟩) (Nat.le_refl _) (.slice a R.length c))
      have D5 := hide ((D3.out.set (p := ⟨w.heap.size, 0, none⟩) (e := 0) (.inl (by show w.heap.size < w.heap.size + 1; omega)) (.slice a R.length c)).mono (show w.heap.size ≤ w.heap.size + 1 by omega))
      go_wp2
      try simp only [Exit.inBlock, Exit.then]
      refine bodyPost_ret (res_acc rfl _ _ w.heap.size _ rfl B5.out) rfl ?_
      exact ⟨some (nrm f R.length), a, c, R, IS.out, rfl, D5.out, HRD.out, HZ.out, A5.out⟩
    · have hne2 : ∀ f n, formB f n ≠ S := fun f n h => hex ⟨f, n, h⟩
      have IS : Hid (IsRd S none) := isRd_none fun f n h => absurd h (hne2 f n)
      have hft := fit_dF HZ.out (by omega)
      have FA := specForm_any a R.length c (dF (R.map (·.1))) W2 (by omega) D2.out.deeds (fun i hi => (hft i (by simpa using hi)).1) (fun i hi => (hft i (by simpa using hi)).2)
      have hnf := hne2 (dF (R.map (·.1))) R.length
      generalize formB (dF (R.map (·.1))) R.length = F at FA hnf
      have HFA := hide FA
      have ne1 : (F == S) = false := by simpa using hnf
      clear FA hft hex hne2
      go_wp2_with fail
      refine HFA.out.mono ?_
      rintro e w3 ⟨rfl, hB3⟩
      have A3 := hide (A2.out.trans (hB3.mono A2.out.size))
      have B3 := hide (B2.out.below hB3 B2.out.lt)
      clear hB3 HFA c4 l4 D2 A2 B2 C2
      have c0 := B3.out.c0
      have f0 := B3.out.fz 0
      have l0 := B3.out.lt
      have B5 := hide (B3.out.set (.slice none 0 0))
      have A5 := hide (A3.out.setCell (p := ⟨w.heap.size, 0, none⟩) (Nat.le_refl _) (.slice none 0 0))
      have e1 : ¬ F = s.toList := by rw [HSS.out]; exact hnf
      have e2 : (F == s.toList) = false := by simpa using e1
      go_wp2
      try simp only [Exit.inBlock, Exit.then]
      refine bodyPost_ret (res_acc rfl _ _ w.heap.size _ rfl B5.out) rfl ?_
      exact ⟨none, none, 0, [], IS.out, rfl, dRow_nil _ _, rfl, SzD.nil _, A5.out⟩
theorem specReadAcc_if (s : ByteArray) (w : World) (hs : s.size ≤ maxLen) (LR : s.size ≤ 300000 → ∀ V, Calls Tryz.prog 12 #[.string s] V fun e w' => L6Post V s.data.toList e w') :
    Calls Tryz.prog 5 #[.string s] w fun e w' => RaPost w s.data.toList e w' := by
  by_cases h : s.data.toList = [] ∨ 300000 < s.size
  · exact sreadAcc_no s w hs h
  · refine sreadAcc_yes s w ?_ (by omega) (LR (by omega))
    have h1 : s.data.toList ≠ [] := fun e => h (.inl e)
    have := List.length_pos_iff.2 h1
    rw [size_toL] at this
    exact this

end Go.Proofs.YtkbhcajiebeepaaGreatDoor.Vp

/-
  FnExactReadAccount: the law.
-/
namespace Go.Proofs.YtkbhcajiebeepaaGreatDoor.Vp
open Go.RowKit Go.Proofs.YtkbhcajiebeepaaGreatDoor.Ca

theorem one_cell (w : World) (v : Value) (t : TypeId) : (w.alloc (.cells #[v] t)).cell? ⟨w.heap.size, 0, none⟩ = some v ∧ w.heap.size < (w.alloc (.cells #[v] t)).heap.size := by
  constructor <;> simp

set_option maxRecDepth 100000 in
set_option maxHeartbeats 4000000 in
theorem lawr_big (s : ByteArray) (w : World) (hs : 1048576 < s.size) (hm : s.size ≤ maxLen) :
    Calls Tryz.prog 3 #[.string s] w fun e w' => e = .returned (.bool true) ∧ Below w.heap.size w w' := by
  unfold maxLen at hm
  have h1 : 1048576 < (s.size : Int) := by omega
  go_enter Tryz.func3, Tryz.ntmps3
  go_wp2
  go_ret
  exact ⟨rfl, Below.refl _ _⟩

set_option maxRecDepth 100000 in
set_option maxHeartbeats 4000000 in
theorem lawr_in (s : ByteArray) (w : World) (hs : s.size ≤ 1048576) (hL : Lay w) (hE : EV w 1) (SPH : ∀ V, Calls Tryz.prog 5 #[.string s] V fun e w' => RaPost V s.data.toList e w') :
    Calls Tryz.prog 3 #[.string s] w fun e w' => e = .returned (.bool true) ∧ Below w.heap.size w w' := by
  have h1 : ¬ 1048576 < (s.size : Int) := by omega
  have SP := hide SPH
  have IM := hide (fun V (hV : Below w.heap.size w V) => implReadAcc_any s V (by unfold maxLen; omega) (hL.below hV (Nat.le_refl _)) (hE.below hV hE.1))
  unfold RaPost at SP IM
  clear hL hE SPH
  generalize s.data.toList = S at SP IM
  go_enter Tryz.func3, Tryz.ntmps3
  go_wp2_with fail
  refine (SP.out w).mono ?_
  rintro e w1 ⟨r, pa, pc, P, hIs, rfl, hD, hM, hZ, hB⟩
  obtain ⟨D, hDD⟩ : ∃ D, D = r.getD [] := ⟨_, rfl⟩
  rw [← hDD] at hM
  have HDD := hide hDD
  clear hDD
  have hPl : P.length = D.length := by rw [← hM]; simp
  have hPn : P.length ≤ 300001 := by have := hZ.1; simpa using this
  have FT : Hid (∀ i, i < D.length → FitsDeed (dF D i)) := fun i hi => (fit_dF (D := D) (k := 300001) (by rw [← hM]; exact hZ) (by omega) i hi).1
  have A1 := (Below.refl w1.heap.size w1).alloc (Nat.le_refl _) (.cells #[.slice pa P.length pc] 24)
  have K2 := hide (hB.trans (A1.mono hB.size))
  have x3 := one_cell w1 (.slice pa P.length pc) 24
  have P2 := hide ((hD.below A1 (Nat.le_refl _)).deeds)
  have HX3 := hide x3
  have HIS := hide hIs
  have HM := hide hM
  clear hIs hD hM hZ hB A1 x3 SP
  rw [hPl] at HX3 P2 K2 ⊢
  rw [HM.out] at P2
  have hDn : D.length ≤ 300001 := by omega
  clear hPl hPn
  go_wp2_with fail
  generalize w1.alloc (.cells #[.slice pa D.length pc] 24) = W2 at K2 HX3 P2 ⊢
  generalize w1.heap.size = b3 at HX3 ⊢
  have PP : Hid (∀ V, Below W2.heap.size W2 V → SlDeed V pa D.length (dF D) ∧ V.cell? ⟨b3, 0, none⟩ = some (.slice pa D.length pc) ∧ b3 < V.heap.size) := fun V hV => ⟨P2.out.below hV (Nat.le_refl _), (hV.cell (p := ⟨b3, 0, none⟩) HX3.out.2).trans HX3.out.1, Nat.lt_of_lt_of_le HX3.out.2 hV.size⟩
  refine (IM.out W2 K2.out).mono ?_
  rintro e w3 ⟨r', ga, gc, R, hIs', rfl, hD3, hM3, hZ3, hB3⟩
  obtain rfl : r' = r := isRd_one hIs' HIS.out
  rw [← HDD.out] at hM3
  have hRl : R.length = D.length := by rw [← hM3]; simp
  have A4 := (Below.refl w3.heap.size w3).alloc (Nat.le_refl _) (.cells #[.slice ga R.length gc] 24)
  have K4 := hide (hB3.trans (A4.mono hB3.size))
  have D3 := hide hD3
  have D4 := hide (hD3.below A4 (Nat.le_refl _))
  have HX5 := hide (one_cell w3 (.slice ga R.length gc) 24)
  have z23 := hB3.size
  have FR : Hid (∀ r ∈ R, FitsDeed r.1) := fun x hx => by
    have h1 := (hZ3.2 x.1 (List.mem_map_of_mem hx))
    have h2 := h1.a
    have h3 := h1.l
    exact ⟨by omega, by omega⟩
  have HM3 := hide hM3
  have EQ : Hid (∀ V ha hc (Q : List DR) base, Below W2.heap.size W2 V → Q.map (·.1) = D → DRow V base (.slice ha Q.length hc) Q → Calls Tryz.prog 7 #[.agg #[.slice ha Q.length hc], .agg #[.slice pa D.length pc]] V fun e w' => e = .returned (.bool true) ∧ Below V.heap.size V w') := fun V ha hc Q base hV hQ hDQ => by
    have hl : Q.length = D.length := by rw [← hQ]; simp
    have h1 := hDQ.deeds
    rw [hQ, hl] at h1
    rw [hl]
    exact eqAccount_any ha pa hc pc D.length (dF D) V (by omega) h1 (PP.out V hV).1 FT.out
  have hRn : (R.length : Int) ≤ 1048576 := by omega
  clear hRl hIs' hD3 hM3 hZ3 hB3 A4 P2
  go_upto_region 5 with fail
  generalize w3.alloc (.cells #[.slice ga R.length gc] 24) = W4 at K4 D4 HX5 ⊢
  obtain ⟨b5, hb5⟩ : ∃ b5, b5 = w3.heap.size := ⟨_, rfl⟩
  rw [← hb5] at HX5
  rw [← hb5]
  have HB5 := hide hb5
  clear hb5
  have c5 := HX5.out.1
  have l5 := HX5.out.2
  have c3 := (PP.out W4 K4.out).2.1
  have l3 := (PP.out W4 K4.out).2.2
  go_wp2_with fail
  refine (EQ.out W4 ga gc R _ K4.out HM3.out D4.out).mono ?_
  rintro e w5 ⟨rfl, hB5⟩
  have K5 := hide (K4.out.trans (hB5.mono K4.out.size))
  have D5 := hide (D4.out.below hB5 (Nat.le_refl _))
  have X5 : Hid (w5.cell? ⟨b5, 0, none⟩ = some (.slice ga R.length gc) ∧ b5 < w5.heap.size) := ⟨(hB5.cell (p := ⟨b5, 0, none⟩) l5).trans c5, Nat.lt_of_lt_of_le l5 hB5.size⟩
  clear hB5 c5 l5 c3 l3 D4 K4 HX5
  have c5 := X5.out.1
  have l5 := X5.out.2
  go_wp2_with fail
  refine (mark_drow D3.out D5.out FR.out hRn).mono ?_
  rintro e w6 ⟨m, rfl, hT6, hM6⟩
  have K6 := hide (K5.out.trans (hT6.toBelow (B := W2.heap.size) (fun x hx => by omega) K5.out.size))
  have c56 := (hT6.cell (p := ⟨b5, 0, none⟩) l5 (by show ¬ (W2.heap.size ≤ b5 ∧ b5 < w3.heap.size); have := HB5.out; omega)).trans c5
  have l56 := Nat.lt_of_lt_of_le l5 hT6.size
  have M6 := hide hM6
  clear hT6 hM6 c5 l5 D5 K5 X5
  go_wp2_with fail
  refine (held_drow M6.out hRn).mono ?_
  rintro e w7 ⟨rfl, hB7⟩
  have K7 := hide (K6.out.trans (hB7.mono K6.out.size))
  have hm0 : ¬ (m : Int) < 0 := by omega
  clear hB7 c56 l56 M6 K6
  go_wp2_with fail
  refine (IM.out w7 (K2.out.trans (K7.out.mono K2.out.size))).mono ?_
  rintro e w8 ⟨r'', ha, hc, Q, hIs'', rfl, hD8, hM8, _, hB8⟩
  obtain rfl : r'' = r' := isRd_one hIs'' HIS.out
  rw [← HDD.out] at hM8
  have A9 := (Below.refl w8.heap.size w8).alloc (Nat.le_refl _) (.cells #[.slice ha Q.length hc] 24)
  have K9 := hide (K7.out.trans ((hB8.trans (A9.mono hB8.size)).mono K7.out.size))
  have D9 := hide (hD8.below A9 (Nat.le_refl _))
  have HX9 := hide (one_cell w8 (.slice ha Q.length hc) 24)
  have HM8 := hide hM8
  clear hIs'' hD8 hM8 hB8 A9 K7
  go_upto_region 16 with fail
  generalize w8.alloc (.cells #[.slice ha Q.length hc] 24) = W9 at K9 D9 HX9 ⊢
  generalize w8.heap.size = b9 at HX9 ⊢
  have c9 := HX9.out.1
  have l9 := HX9.out.2
  have c3 := (PP.out W9 K9.out).2.1
  have l3 := (PP.out W9 K9.out).2.2
  go_wp2_with fail
  refine (EQ.out W9 ha hc Q _ K9.out HM8.out D9.out).mono ?_
  rintro e w10 ⟨rfl, hB10⟩
  have KF := hide (K2.out.trans ((K9.out.trans (hB10.mono K9.out.size)).mono K2.out.size))
  clear hB10 c9 l9 c3 l3
  go_wp2
  go_ret
  exact ⟨rfl, KF.out⟩

end Go.Proofs.YtkbhcajiebeepaaGreatDoor.Vp
