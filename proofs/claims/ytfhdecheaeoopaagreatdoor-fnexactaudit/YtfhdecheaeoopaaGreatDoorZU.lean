/-
  Put together of: NxStp6, NxStp7, NxStp8.
-/
import Derived.Test.YtfhdecheaeoopaaGreatDoorZT

/-
  spec: l1Step: a plain one. Written by tools/spec2.py.
-/
namespace Go.Proofs.YtfhdecheaeoopaaGreatDoor.Vp
open Go.RowKit


set_option maxRecDepth 1000000 in
set_option maxHeartbeats 4000000 in
theorem step_plain2 (pb po cnt cap1 place steps looks : Nat) (f : Nat → Ins) (g : Nat) (x z : ByteArray) (r : List ByteArray) (cap b2 o2 n cap2 base : Nat) (y : Nat → Reply) (w : World)
    (hP : RowIns w pb po cnt f) (hY : RowReply w b2 o2 n y) (hO : w.ownsRow base 9 1 (.slice (some ⟨g, 0, none⟩) (r.length + 2) cap) (r.length + 2) (strs (x :: z :: r))) (hp : place ≤ 2000) (hst : steps ≤ 2000) (h1 : (place : Int) < cnt) (h2 : ((steps : Int) == 2000) = false) (op k : Nat) (hop : (f place).op = op) (hk : (f place).n = k) (ho1 : 1 ≤ op) (ho2 : op ≤ 15) (hs : r.length ≤ 50) (htk : takesOf op = 2) (hA2 : ((r.length : Int) + (putsOf op : Nat)) ≤ 50) (h11 : op ≤ 11) (hk2 : k ≤ 2000) (hx : x.size ≤ 2000) (hz : z.size ≤ 2000) (n15 : ((op : Int) == 15) = false) (n14 : ((op : Int) == 14) = false) (n12 : ((op : Int) == 12) = false) (n13 : ((op : Int) == 13) = false) (n10 : ((op : Int) == 10) = false) (n11 : ((op : Int) == 11) = false) (PL : List ByteArray) (hPL : PL = plainL op k (f place).s x z ∧ PL.length = putsOf op) :
    Calls Tryz.prog 75 #[.agg #[.slice (some ⟨pb, po, none⟩) cnt cap1], runV place (.slice (some ⟨g, 0, none⟩) (r.length + 2) cap) steps looks false 0 ⟨#[]⟩ false ⟨#[]⟩ false, .slice (some ⟨b2, o2, none⟩) n cap2] w fun e w' => ∃ v, e = .returned v ∧ SoIs w' w.heap.size v (plainSO PL (decT place) r (place + 1) (steps + 1) looks) ∧ Below w.heap.size w w' := by
  have HP := hide hP
  have HY := hide hY
  have HO := hide hO
  clear hP hY hO
  have A0 := hide ((((Below.refl w.heap.size w).alloc (Nat.le_refl _) (.cells #[.slice (some ⟨pb, po, none⟩) cnt cap1] 51)).alloc (by simp) (.cells #[.int .i64 place, .slice (some ⟨g, 0, none⟩) (r.length + 2) cap, .int .i64 steps, .int .i64 looks, .bool false, .int .i64 0, .string ⟨#[]⟩, .bool false, .string ⟨#[]⟩, .bool false] 136)).alloc (by first | (simp; done) | (simp; omega)) (.cells #[.int .i64 0, .slice none 0 0, .int .i64 0, .int .i64 0, .bool false, .int .i64 0, .string ⟨#[]⟩, .bool false, .string ⟨#[]⟩, .bool false] 136))
  have R0 := hide ((ten_new (w.alloc (.cells #[.slice (some ⟨pb, po, none⟩) cnt cap1] 51)) (.int .i64 place) (.slice (some ⟨g, 0, none⟩) (r.length + 2) cap) (.int .i64 steps) (.int .i64 looks) (.bool false) (.int .i64 0) (.string ⟨#[]⟩) (.bool false) (.string ⟨#[]⟩) (.bool false) 136 (w.heap.size + 1) (by simp)).al (.cells #[.int .i64 0, .slice none 0 0, .int .i64 0, .int .i64 0, .bool false, .int .i64 0, .string ⟨#[]⟩, .bool false, .string ⟨#[]⟩, .bool false] 136))
  have Z0 := hide (ten_new ((w.alloc (.cells #[.slice (some ⟨pb, po, none⟩) cnt cap1] 51)).alloc (.cells #[.int .i64 place, .slice (some ⟨g, 0, none⟩) (r.length + 2) cap, .int .i64 steps, .int .i64 looks, .bool false, .int .i64 0, .string ⟨#[]⟩, .bool false, .string ⟨#[]⟩, .bool false] 136)) (.int .i64 0) (.slice none 0 0) (.int .i64 0) (.int .i64 0) (.bool false) (.int .i64 0) (.string ⟨#[]⟩) (.bool false) (.string ⟨#[]⟩) (.bool false) 136 (w.heap.size + 1 + 1) (by simp))
  go_enter Tryz.func75, Tryz.ntmps75
  go_wp2_with fail
  refine (l1Dec_any place (by omega) _).mono ?_
  rintro e w1 ⟨rfl, hB1⟩
  have hD : (⟨(Lib.decDigits place).toArray⟩ : ByteArray) = decT place := rfl
  rw [hD]
  have R1 := hide (R0.out.below hB1 (by first | (simp; done) | (simp; omega)))
  have Z1 := hide (Z0.out.below hB1 (by first | (simp; done) | (simp; omega)))
  have B1 := hide (A0.out.trans (hB1.mono (by first | (simp; done) | (simp; omega))))
  have pP : w1.cell? ⟨w.heap.size, 0, none⟩ = some (.slice (some ⟨pb, po, none⟩) cnt cap1) := (hB1.cell (p := ⟨w.heap.size, 0, none⟩) (by first | (simp; done) | (simp; omega))).trans (box3 _ _ _ _ _ _ _ rfl)
  have O1 := hide (own_below HO.out B1.out (Nat.le_refl _))
  have hz1 : w.heap.size + 1 + 1 < w1.heap.size := Z1.out.1
  have hz0 : w.heap.size < w1.heap.size := by omega
  have hz01 : w.heap.size + 1 < w1.heap.size := by omega
  clear hB1 A0 R0 Z0 hD
  have HPL := hide hPL
  clear hPL
  obtain ⟨d0, d1, d2⟩ := (HP.out.below B1.out (Nat.le_refl _)).2 place (by omega)
  rw [hop] at d0
  rw [hk] at d2
  have hpb : pb < w.heap.size := HP.out.1
  have d0' := (cell_far w1 ⟨w.heap.size + 1, 2, none⟩ ⟨pb, po + place * 3, none⟩ (.int .i64 ((steps : Int) + 1)) (by simp; omega)).trans d0
  have d1' := (cell_far w1 ⟨w.heap.size + 1, 2, none⟩ ⟨pb, po + place * 3 + 1, none⟩ (.int .i64 ((steps : Int) + 1)) (by simp; omega)).trans d1
  have d2' := (cell_far w1 ⟨w.heap.size + 1, 2, none⟩ ⟨pb, po + place * 3 + 2, none⟩ (.int .i64 ((steps : Int) + 1)) (by simp; omega)).trans d2
  have hne : ∀ j, w.heap.size ≤ j → Value.ownBlock (.slice (some ⟨g, 0, none⟩) (r.length + 2) cap) ≠ some j := fun j hj e => by have := (HO.out.lt j e).2; omega
  have R2 := hide ((R1.out.set2 (.int .i64 ((steps : Int) + 1))).al (.cells #[.int .i64 op, .string (f place).s, .int .i64 k] 120))
  have Z2 := hide ((Z1.out.other ⟨w.heap.size + 1, 2, none⟩ (.int .i64 ((steps : Int) + 1)) (by simp)).al (.cells #[.int .i64 op, .string (f place).s, .int .i64 k] 120))
  have O2 := hide ((ownsRow_setCell_other O1.out (a := ⟨w.heap.size + 1, 2, none⟩) (hne _ (by simp)) (.int .i64 ((steps : Int) + 1))).alloc (.cells #[.int .i64 op, .string (f place).s, .int .i64 k] 120))
  have B2 := hide ((B1.out.setCell (p := ⟨w.heap.size + 1, 2, none⟩) (by simp) (.int .i64 ((steps : Int) + 1))).alloc (by have := B1.out.size; simpa using this) (.cells #[.int .i64 op, .string (f place).s, .int .i64 k] 120))
  have g0 : ((w1.setCell ⟨w.heap.size + 1, 2, none⟩ (.int .i64 ((steps : Int) + 1))).alloc (.cells #[.int .i64 op, .string (f place).s, .int .i64 k] 120)).cell? ⟨w1.heap.size, 0, none⟩ = some (.int .i64 op) := box1 _ _ _ _ _ _ (by simp) rfl
  have g1 : ((w1.setCell ⟨w.heap.size + 1, 2, none⟩ (.int .i64 ((steps : Int) + 1))).alloc (.cells #[.int .i64 op, .string (f place).s, .int .i64 k] 120)).cell? ⟨w1.heap.size, 1, none⟩ = some (.string (f place).s) := box1 _ _ _ _ _ _ (by simp) rfl
  have g2 : ((w1.setCell ⟨w.heap.size + 1, 2, none⟩ (.int .i64 ((steps : Int) + 1))).alloc (.cells #[.int .i64 op, .string (f place).s, .int .i64 k] 120)).cell? ⟨w1.heap.size, 2, none⟩ = some (.int .i64 k) := box1 _ _ _ _ _ _ (by simp) rfl
  have hWz : w1.heap.size < ((w1.setCell ⟨w.heap.size + 1, 2, none⟩ (.int .i64 ((steps : Int) + 1))).alloc (.cells #[.int .i64 op, .string (f place).s, .int .i64 k] 120)).heap.size := by simp
  clear hne
  obtain ⟨chl, ⟨c0, f0⟩, ⟨c1, f1⟩, ⟨c2, f2⟩, ⟨c3, f3⟩, ⟨c4, f4⟩, ⟨c5, f5⟩, ⟨c6, f6⟩, ⟨c7, f7⟩, ⟨c8, f8⟩, c9, f9⟩ := R1.out
  go_wp2_with fail
  refine (l1Takes_any op _ ho1 ho2).mono ?_
  rintro e w9 ⟨rfl, hw9⟩
  subst hw9
  clear chl c0 f0 c1 f1 c2 f2 c3 f3 c4 f4 c5 f5 c6 f6 c7 f7 c8 f8 c9 f9
  clear d0 d1 d2 d0' d1' d2' hop hk
  generalize ((w1.setCell ⟨w.heap.size + 1, 2, none⟩ (.int .i64 ((steps : Int) + 1))).alloc (.cells #[.int .i64 op, .string (f place).s, .int .i64 k] 120)) = W at R2 Z2 O2 B2 g0 g1 g2 hWz ⊢
  obtain ⟨chl, ⟨c0, f0⟩, ⟨c1, f1⟩, ⟨c2, f2⟩, ⟨c3, f3⟩, ⟨c4, f4⟩, ⟨c5, f5⟩, ⟨c6, f6⟩, ⟨c7, f7⟩, ⟨c8, f8⟩, c9, f9⟩ := R2.out
  obtain ⟨t1, t2⟩ := own_2nd O2.out
  rw [htk]
  have hcap : (r.length : Int) ≤ cap := by have := own_cap O2.out; omega
  obtain ⟨i0', hi, hy0, hy1, hy2⟩ := info_parts infoString
  go_wp2_with (at_builtin; refine wpList_append_own _ rfl (.tmp 87) (.tmp 95) 108 rfl W.heap.size 9 i0' (.string ⟨#[]⟩) 1 16 Tryz.underlying108 hi hy0 hy1 hy2 rfl (by decide) (.slice (some ⟨W.heap.size, 0, none⟩) 0 0) 0 [] (by simp [Act.eval]) (World.ownsRow_made W #[] 0 (Nat.le_refl _) (by unfold maxLen; omega) rfl) ⟨g, 0, none⟩ r.length cap (strs r) (by simp [Act.eval]) (by simp [strs]) (own_pre (xs := [.string z, .string x]) (by have h := O2.out.alloc (.cells #[] 9); rw [strs_cons, strs_cons, List.append_assoc] at h; exact h)) (strs_one _) (by unfold maxLen; omega) (by omega) (by simp) ?_; intro v' w2 hown hgrow hnil; simp only [Nat.zero_add, List.nil_append] at hown; obtain ⟨gr, cr, rfl, hgr⟩ := own_form0 hown (fun e => by simpa using hnil.1 e); have B3 := hide (Below.grown ((Below.refl W.heap.size W).alloc (Nat.le_refl _) (.cells #[] 9)) hgrow (by simp) (fun j e => by simp [Value.ownBlock] at e; omega)); have R3 := hide (R2.out.below B3.out R2.out.1); have Z3 := hide (Z2.out.below B3.out Z2.out.1); have G0 := (B3.out.cell (p := ⟨w1.heap.size, 0, none⟩) hWz).trans g0; have G1 := (B3.out.cell (p := ⟨w1.heap.size, 1, none⟩) hWz).trans g1; have G2 := (B3.out.cell (p := ⟨w1.heap.size, 2, none⟩) hWz).trans g2; have OWN := hide hown; clear hown hgrow hnil g0 g1 g2; obtain ⟨ehl, ⟨e0, u0⟩, ⟨e1, u1⟩, ⟨e2, u2⟩, ⟨e3, u3⟩, ⟨e4, u4⟩, ⟨e5, u5⟩, ⟨e6, u6⟩, ⟨e7, u7⟩, ⟨e8, u8⟩, e9, u9⟩ := R3.out)
  have hBW : w.heap.size ≤ W.heap.size := B2.out.size
  have hr1 : w.heap.size + 1 < W.heap.size := R2.out.1
  have hz2 : w.heap.size + 1 + 1 < W.heap.size := Z2.out.1
  have hgw : w.heap.size + 1 ≠ gr := by omega
  have hz3 : W.heap.size ≤ w2.heap.size := B3.out.size
  have R4 := hide (R3.out.set0 (.int .i64 ((place : Int) + 1)))
  have Z4 := hide (Z3.out.other ⟨w.heap.size + 1, 0, none⟩ (.int .i64 ((place : Int) + 1)) (by simp))
  have B4 := hide ((B2.out.trans (B3.out.mono B2.out.size)).setCell (p := ⟨w.heap.size + 1, 0, none⟩) (by simp) (.int .i64 ((place : Int) + 1)))
  have O4 := hide (ten_own OWN.out hgw (.int .i64 ((place : Int) + 1)) 0)
  have H0 := ((cell_far _ ⟨w.heap.size + 1, 0, none⟩ ⟨w1.heap.size, 0, none⟩ (.int .i64 ((place : Int) + 1)) (by simp; omega)).trans G0)
  have H1 := ((cell_far _ ⟨w.heap.size + 1, 0, none⟩ ⟨w1.heap.size, 1, none⟩ (.int .i64 ((place : Int) + 1)) (by simp; omega)).trans G1)
  have H2 := ((cell_far _ ⟨w.heap.size + 1, 0, none⟩ ⟨w1.heap.size, 2, none⟩ (.int .i64 ((place : Int) + 1)) (by simp; omega)).trans G2)
  have hbs : W.heap.size ≤ (w2.setCell ⟨w.heap.size + 1, 0, none⟩ (.int .i64 ((place : Int) + 1))).heap.size := by simpa using hz3
  clear chl c0 f0 c1 f1 c2 f2 c3 f3 c4 f4 c5 f5 c6 f6 c7 f7 c8 f8 c9 f9
  clear ehl e0 u0 e1 u1 e2 u2 e3 u3 e4 u4 e5 u5 e6 u6 e7 u7 e8 u8 e9 u9
  clear G0 G1 G2 B3 R3 Z3 OWN R2 Z2 O2 pP
  generalize (w2.setCell ⟨w.heap.size + 1, 0, none⟩ (.int .i64 ((place : Int) + 1))) = W5 at R4 Z4 B4 O4 H0 H1 H2 hbs ⊢
  have G0 := H0
  have G1 := H1
  have G2 := H2
  clear H0 H1 H2
  have hpt := puts_two op
  go_loopw [13, 14] (fun rest i wr => ∃ j : Nat, j ≤ putsOf op ∧ i = .int .i64 j ∧ ∃ g6 cx, rest = .slice (some ⟨g6, 0, none⟩) (r.length + j) cx ∧ Hid (wr.ownsRow W.heap.size 9 1 (.slice (some ⟨g6, 0, none⟩) (r.length + j) cx) (r.length + j) (strs r ++ (PL.take j).map Value.string)) ∧ Hid (Below W.heap.size W5 wr) ∧ Hid (∀ i, i < j → (PL.getD i ⟨#[]⟩).size ≤ 2000)) (fun _ i _ => putsOf op - (intOf i).toNat)
  case atStart => exact ⟨0, by omega, rfl, gr, cr, rfl, (by show World.ownsRow _ _ _ _ _ _ _; rw [List.take_zero, List.map_nil, List.append_nil]; exact O4.out), Below.refl _ _, fun i hi => absurd hi (Nat.not_lt_zero _)⟩
  case round =>
    obtain ⟨j, hj, rfl, g6, cx, rfl, O6, B6, S6⟩ := hrel
    have R6 := hide (R4.out.below B6.out hr1)
    have Z6 := hide (Z4.out.below B6.out hz2)
    have i0 := (B6.out.cell (p := ⟨w1.heap.size, 0, none⟩) hWz).trans G0
    have i1 := (B6.out.cell (p := ⟨w1.heap.size, 1, none⟩) hWz).trans G1
    have i2 := (B6.out.cell (p := ⟨w1.heap.size, 2, none⟩) hWz).trans G2
    have hw6 : W.heap.size ≤ wr.heap.size := Nat.le_trans hbs B6.out.size
    have B7 := hide (B4.out.trans (B6.out.mono hBW))
    by_cases hlt : j < putsOf op
    · have h8 : op ≤ 8 := puts_le ho1 h11 hlt
      have hjl : j < PL.length := by rw [HPL.out.2]; exact hlt
      go_wp2_with fail
      refine (l1Plain_any op k (f place).s x z _ ho1 h8 hx hz hk2).mono ?_
      rintro e w6 ⟨g7, rfl, hrow, hge, hB6⟩
      rw [← HPL.out.1] at hrow ⊢
      rw [HPL.out.2] at hrow ⊢
      have q6 : w6.cell? ⟨g7, j, none⟩ = some (.string (PL.getD j ⟨#[]⟩)) := by have := hrow.2 j hlt; rwa [Nat.zero_add] at this
      obtain ⟨E, hE⟩ : ∃ E, E = PL.getD j ⟨#[]⟩ := ⟨_, rfl⟩
      rw [← hE] at q6
      have HE := hide hE
      clear hE
      have O7 := hide (own_below O6.out hB6 (Nat.le_refl _))
      have B8 := hide (B6.out.trans (hB6.mono hw6))
      have hw7 : W.heap.size ≤ w6.heap.size := Nat.le_trans hw6 hB6.size
      have R7 := hide (R6.out.below hB6 R6.out.1)
      have Z7 := hide (Z6.out.below hB6 Z6.out.1)
      have B9 := hide (B7.out.trans (hB6.mono B7.out.size))
      clear hrow hge hB6 i0 i1 i2 R6 Z6
      by_cases hs6 : (E.size : Int) ≤ 2000
      · obtain ⟨i0', hi, hy0, hy1, hy2⟩ := info_parts infoString
        go_wp2_with (at_builtin; refine wpList_append_own _ rfl (.tmp 158) (.tmp 163) 108 rfl W.heap.size 9 i0' (.string ⟨#[]⟩) 1 16 Tryz.underlying108 hi hy0 hy1 hy2 rfl (by decide) (.slice (some ⟨g6, 0, none⟩) (r.length + j) cx) (r.length + j) (strs r ++ (PL.take j).map Value.string) (by simp [Act.eval]) (O7.out.alloc _) ⟨w6.heap.size, 0, none⟩ 1 1 [.string E] (by simp [Act.eval]) rfl (one_new w6 _ _) (by simp [Value.oneCell']) (by unfold maxLen; omega) (by omega) (by first | (simp; done) | (simp; omega)) ?_; intro v' w7 hown7 hgrow7 hnil7; obtain ⟨g8, c8, rfl, hg8⟩ := own_form0 hown7 (fun e => by simpa using hnil7.1 e); have O8 := hide hown7; have B10 := hide (Below.grown (B8.out.alloc hw7 (.cells #[.string E] 9)) hgrow7 (by first | (simp; done) | (simp; omega)) (fun i e => (O7.out.lt i e).1)); clear hown7 hgrow7 hnil7)
        exact ⟨⟨j + 1, by omega, by go_num, g8, c8, rfl, by show World.ownsRow _ _ _ _ _ _ _; rw [take_next hjl, ← List.append_assoc, ← HE.out]; exact O8.out, B10.out, fun i hi => by
          by_cases e : i = j
          · subst e; rw [← HE.out]; omega
          · exact S6.out i (by omega)⟩, by simp [intOf]; omega⟩
      · have eR : plainSO PL (decT place) r (place + 1) (steps + 1) looks = .inr (.inl (2, (decT place), (steps + 1))) := by unfold plainSO; rw [fits_no hjl (by rw [← HE.out]; exact hs6)]; rfl
        have ER := hide eR
        clear eR
        obtain ⟨chl, ⟨c0, f0⟩, ⟨c1, f1⟩, ⟨c2, f2⟩, ⟨c3, f3⟩, ⟨c4, f4⟩, ⟨c5, f5⟩, ⟨c6, f6⟩, ⟨c7, f7⟩, ⟨c8, f8⟩, c9, f9⟩ := R7.out
        go_wp2_with fail
        refine (l1End_any _ _ _ _ _ _ _ _ _ _ _ _ _ _ _).mono ?_
        rintro e w9 ⟨rfl, hB9⟩
        have ZE := hide (Z7.out.below hB9 Z7.out.1)
        have BE := hide (B9.out.trans (hB9.mono B9.out.size))
        clear hB9
        clear chl c0 f0 c1 f1 c2 f2 c3 f3 c4 f4 c5 f5 c6 f6 c7 f7 c8 f8 c9 f9
        obtain ⟨zhl, ⟨z0, y0⟩, ⟨z1, y1⟩, ⟨z2, y2⟩, ⟨z3, y3⟩, ⟨z4, y4⟩, ⟨z5, y5⟩, ⟨z6, y6⟩, ⟨z7, y7⟩, ⟨z8, y8⟩, z9, y9⟩ := ZE.out
        go_wp2
        refine bodyPost_ret (v := runV ((place : Int) + 1) (.slice (some ⟨g, 0, none⟩) (r.length + 2) cap) ((steps : Int) + 1) looks true 2 (decT place) false ⟨#[]⟩ false) (by simp [results, Tryz.results75, go_sem, z0, z1, z2, z3, z4, z5, z6, z7, z8, z9]) rfl ⟨_, rfl, ?_, ten_set BE.out (by omega) _ _ _ _ _ _ _ _ _ _⟩
        rw [ER.out]
        exact ⟨_, _, _, _, _, rfl⟩
    · have e : j = putsOf op := by omega
      subst e
      have eR : plainSO PL (decT place) r (place + 1) (steps + 1) looks = .inl ((place + 1), (steps + 1), looks, (PL.reverse ++ r)) := by unfold plainSO; rw [fits_yes (fun i hi => S6.out i (by rw [HPL.out.2] at hi; exact hi))]; rfl
      have ER := hide eR
      have hl : (PL.reverse ++ r).length = r.length + putsOf op := by rw [List.length_append, List.length_reverse, HPL.out.2]; omega
      have HLn := hide hl
      clear eR hl
      obtain ⟨chl, ⟨c0, f0⟩, ⟨c1, f1⟩, ⟨c2, f2⟩, ⟨c3, f3⟩, ⟨c4, f4⟩, ⟨c5, f5⟩, ⟨c6, f6⟩, ⟨c7, f7⟩, ⟨c8, f8⟩, c9, f9⟩ := R6.out
      obtain ⟨zhl, ⟨z0, y0⟩, ⟨z1, y1⟩, ⟨z2, y2⟩, ⟨z3, y3⟩, ⟨z4, y4⟩, ⟨z5, y5⟩, ⟨z6, y6⟩, ⟨z7, y7⟩, ⟨z8, y8⟩, z9, y9⟩ := Z6.out
      have OE := hide (ownsRow_setCell_below O6.out (a := ⟨w.heap.size + 1, 1, none⟩) hr1 (.slice (some ⟨g6, 0, none⟩) (r.length + putsOf op) cx))
      have BE := hide (B7.out.setCell (p := ⟨w.heap.size + 1, 1, none⟩) (by simp) (.slice (some ⟨g6, 0, none⟩) (r.length + putsOf op) cx))
      go_wp2
      refine bodyPost_ret (v := runV ((place : Int) + 1) (.slice (some ⟨g6, 0, none⟩) (r.length + putsOf op) cx) ((steps : Int) + 1) looks false 0 ⟨#[]⟩ false ⟨#[]⟩ false) (by simp [results, Tryz.results75, go_sem, z0, z1, z2, z3, z4, z5, z6, z7, z8, z9]) rfl ⟨_, rfl, ?_, ten_set BE.out (by omega) _ _ _ _ _ _ _ _ _ _⟩
      rw [ER.out]
      refine (ten_so (v := runV ((place : Int) + 1) (.slice (some ⟨g6, 0, none⟩) (r.length + putsOf op) cx) ((steps : Int) + 1) looks false 0 ⟨#[]⟩ false ⟨#[]⟩ false) (base := W.heap.size) ?_ hz2 _ _ _ _ _ _ _ _ _ _).mono hBW
      refine ⟨some ⟨g6, 0, none⟩, cx, by rw [HLn.out]; simp, ?_⟩
      rw [HLn.out, strs_rev]
      have h := OE.out
      rw [show PL.take (putsOf op) = PL by rw [← HPL.out.2]; exact List.take_length] at h
      exact h


end Go.Proofs.YtfhdecheaeoopaaGreatDoor.Vp

/-
  spec: l1Step: a plain one. Written by tools/spec2.py.
-/
namespace Go.Proofs.YtfhdecheaeoopaaGreatDoor.Vp
open Go.RowKit


set_option maxRecDepth 1000000 in
set_option maxHeartbeats 4000000 in
theorem step_jump (pb po cnt cap1 place steps looks : Nat) (f : Nat → Ins) (g : Nat) (r : List ByteArray) (cap b2 o2 n cap2 base : Nat) (y : Nat → Reply) (w : World)
    (hP : RowIns w pb po cnt f) (hY : RowReply w b2 o2 n y) (hO : w.ownsRow base 9 1 (.slice (some ⟨g, 0, none⟩) (r).length cap) (r).length (strs (r))) (hp : place ≤ 2000) (hst : steps ≤ 2000) (h1 : (place : Int) < cnt) (h2 : ((steps : Int) == 2000) = false) (op k : Nat) (hop : (f place).op = op) (hk : (f place).n = k) (ho1 : 1 ≤ op) (ho2 : op ≤ 15) (hs : r.length ≤ 50) (htk : takesOf op = 0) (hA2 : ((r.length : Int) + (putsOf op : Nat)) ≤ 50) (h11 : op ≤ 11) (hk2 : k ≤ 2000) (n15 : ((op : Int) == 15) = false) (n14 : ((op : Int) == 14) = false) (n12 : ((op : Int) == 12) = false) (n13 : ((op : Int) == 13) = false) (n10 : ((op : Int) == 10) = true) (PL : List ByteArray) (hPL : PL = plainL op k (f place).s ⟨#[]⟩ ⟨#[]⟩ ∧ PL.length = putsOf op) :
    Calls Tryz.prog 75 #[.agg #[.slice (some ⟨pb, po, none⟩) cnt cap1], runV place (.slice (some ⟨g, 0, none⟩) (r).length cap) steps looks false 0 ⟨#[]⟩ false ⟨#[]⟩ false, .slice (some ⟨b2, o2, none⟩) n cap2] w fun e w' => ∃ v, e = .returned v ∧ SoIs w' w.heap.size v (plainSO PL (decT place) r k (steps + 1) looks) ∧ Below w.heap.size w w' := by
  have HP := hide hP
  have HY := hide hY
  have HO := hide hO
  clear hP hY hO
  have A0 := hide ((((Below.refl w.heap.size w).alloc (Nat.le_refl _) (.cells #[.slice (some ⟨pb, po, none⟩) cnt cap1] 51)).alloc (by simp) (.cells #[.int .i64 place, .slice (some ⟨g, 0, none⟩) (r).length cap, .int .i64 steps, .int .i64 looks, .bool false, .int .i64 0, .string ⟨#[]⟩, .bool false, .string ⟨#[]⟩, .bool false] 136)).alloc (by first | (simp; done) | (simp; omega)) (.cells #[.int .i64 0, .slice none 0 0, .int .i64 0, .int .i64 0, .bool false, .int .i64 0, .string ⟨#[]⟩, .bool false, .string ⟨#[]⟩, .bool false] 136))
  have R0 := hide ((ten_new (w.alloc (.cells #[.slice (some ⟨pb, po, none⟩) cnt cap1] 51)) (.int .i64 place) (.slice (some ⟨g, 0, none⟩) (r).length cap) (.int .i64 steps) (.int .i64 looks) (.bool false) (.int .i64 0) (.string ⟨#[]⟩) (.bool false) (.string ⟨#[]⟩) (.bool false) 136 (w.heap.size + 1) (by simp)).al (.cells #[.int .i64 0, .slice none 0 0, .int .i64 0, .int .i64 0, .bool false, .int .i64 0, .string ⟨#[]⟩, .bool false, .string ⟨#[]⟩, .bool false] 136))
  have Z0 := hide (ten_new ((w.alloc (.cells #[.slice (some ⟨pb, po, none⟩) cnt cap1] 51)).alloc (.cells #[.int .i64 place, .slice (some ⟨g, 0, none⟩) (r).length cap, .int .i64 steps, .int .i64 looks, .bool false, .int .i64 0, .string ⟨#[]⟩, .bool false, .string ⟨#[]⟩, .bool false] 136)) (.int .i64 0) (.slice none 0 0) (.int .i64 0) (.int .i64 0) (.bool false) (.int .i64 0) (.string ⟨#[]⟩) (.bool false) (.string ⟨#[]⟩) (.bool false) 136 (w.heap.size + 1 + 1) (by simp))
  go_enter Tryz.func75, Tryz.ntmps75
  go_wp2_with fail
  refine (l1Dec_any place (by omega) _).mono ?_
  rintro e w1 ⟨rfl, hB1⟩
  have hD : (⟨(Lib.decDigits place).toArray⟩ : ByteArray) = decT place := rfl
  rw [hD]
  have R1 := hide (R0.out.below hB1 (by first | (simp; done) | (simp; omega)))
  have Z1 := hide (Z0.out.below hB1 (by first | (simp; done) | (simp; omega)))
  have B1 := hide (A0.out.trans (hB1.mono (by first | (simp; done) | (simp; omega))))
  have pP : w1.cell? ⟨w.heap.size, 0, none⟩ = some (.slice (some ⟨pb, po, none⟩) cnt cap1) := (hB1.cell (p := ⟨w.heap.size, 0, none⟩) (by first | (simp; done) | (simp; omega))).trans (box3 _ _ _ _ _ _ _ rfl)
  have O1 := hide (own_below HO.out B1.out (Nat.le_refl _))
  have hz1 : w.heap.size + 1 + 1 < w1.heap.size := Z1.out.1
  have hz0 : w.heap.size < w1.heap.size := by omega
  have hz01 : w.heap.size + 1 < w1.heap.size := by omega
  clear hB1 A0 R0 Z0 hD
  have HPL := hide hPL
  clear hPL
  obtain ⟨d0, d1, d2⟩ := (HP.out.below B1.out (Nat.le_refl _)).2 place (by omega)
  rw [hop] at d0
  rw [hk] at d2
  have hpb : pb < w.heap.size := HP.out.1
  have d0' := (cell_far w1 ⟨w.heap.size + 1, 2, none⟩ ⟨pb, po + place * 3, none⟩ (.int .i64 ((steps : Int) + 1)) (by simp; omega)).trans d0
  have d1' := (cell_far w1 ⟨w.heap.size + 1, 2, none⟩ ⟨pb, po + place * 3 + 1, none⟩ (.int .i64 ((steps : Int) + 1)) (by simp; omega)).trans d1
  have d2' := (cell_far w1 ⟨w.heap.size + 1, 2, none⟩ ⟨pb, po + place * 3 + 2, none⟩ (.int .i64 ((steps : Int) + 1)) (by simp; omega)).trans d2
  have hne : ∀ j, w.heap.size ≤ j → Value.ownBlock (.slice (some ⟨g, 0, none⟩) (r).length cap) ≠ some j := fun j hj e => by have := (HO.out.lt j e).2; omega
  have R2 := hide ((R1.out.set2 (.int .i64 ((steps : Int) + 1))).al (.cells #[.int .i64 op, .string (f place).s, .int .i64 k] 120))
  have Z2 := hide ((Z1.out.other ⟨w.heap.size + 1, 2, none⟩ (.int .i64 ((steps : Int) + 1)) (by simp)).al (.cells #[.int .i64 op, .string (f place).s, .int .i64 k] 120))
  have O2 := hide ((ownsRow_setCell_other O1.out (a := ⟨w.heap.size + 1, 2, none⟩) (hne _ (by simp)) (.int .i64 ((steps : Int) + 1))).alloc (.cells #[.int .i64 op, .string (f place).s, .int .i64 k] 120))
  have B2 := hide ((B1.out.setCell (p := ⟨w.heap.size + 1, 2, none⟩) (by simp) (.int .i64 ((steps : Int) + 1))).alloc (by have := B1.out.size; simpa using this) (.cells #[.int .i64 op, .string (f place).s, .int .i64 k] 120))
  have g0 : ((w1.setCell ⟨w.heap.size + 1, 2, none⟩ (.int .i64 ((steps : Int) + 1))).alloc (.cells #[.int .i64 op, .string (f place).s, .int .i64 k] 120)).cell? ⟨w1.heap.size, 0, none⟩ = some (.int .i64 op) := box1 _ _ _ _ _ _ (by simp) rfl
  have g1 : ((w1.setCell ⟨w.heap.size + 1, 2, none⟩ (.int .i64 ((steps : Int) + 1))).alloc (.cells #[.int .i64 op, .string (f place).s, .int .i64 k] 120)).cell? ⟨w1.heap.size, 1, none⟩ = some (.string (f place).s) := box1 _ _ _ _ _ _ (by simp) rfl
  have g2 : ((w1.setCell ⟨w.heap.size + 1, 2, none⟩ (.int .i64 ((steps : Int) + 1))).alloc (.cells #[.int .i64 op, .string (f place).s, .int .i64 k] 120)).cell? ⟨w1.heap.size, 2, none⟩ = some (.int .i64 k) := box1 _ _ _ _ _ _ (by simp) rfl
  have hWz : w1.heap.size < ((w1.setCell ⟨w.heap.size + 1, 2, none⟩ (.int .i64 ((steps : Int) + 1))).alloc (.cells #[.int .i64 op, .string (f place).s, .int .i64 k] 120)).heap.size := by simp
  clear hne
  obtain ⟨chl, ⟨c0, f0⟩, ⟨c1, f1⟩, ⟨c2, f2⟩, ⟨c3, f3⟩, ⟨c4, f4⟩, ⟨c5, f5⟩, ⟨c6, f6⟩, ⟨c7, f7⟩, ⟨c8, f8⟩, c9, f9⟩ := R1.out
  go_wp2_with fail
  refine (l1Takes_any op _ ho1 ho2).mono ?_
  rintro e w9 ⟨rfl, hw9⟩
  subst hw9
  clear chl c0 f0 c1 f1 c2 f2 c3 f3 c4 f4 c5 f5 c6 f6 c7 f7 c8 f8 c9 f9
  clear d0 d1 d2 d0' d1' d2' hop hk
  generalize ((w1.setCell ⟨w.heap.size + 1, 2, none⟩ (.int .i64 ((steps : Int) + 1))).alloc (.cells #[.int .i64 op, .string (f place).s, .int .i64 k] 120)) = W at R2 Z2 O2 B2 g0 g1 g2 hWz ⊢
  obtain ⟨chl, ⟨c0, f0⟩, ⟨c1, f1⟩, ⟨c2, f2⟩, ⟨c3, f3⟩, ⟨c4, f4⟩, ⟨c5, f5⟩, ⟨c6, f6⟩, ⟨c7, f7⟩, ⟨c8, f8⟩, c9, f9⟩ := R2.out
  rw [htk]
  have hcap : (r.length : Int) ≤ cap := by have := own_cap O2.out; omega
  obtain ⟨i0', hi, hy0, hy1, hy2⟩ := info_parts infoString
  go_wp2_with (at_builtin; refine wpList_append_own _ rfl (.tmp 87) (.tmp 95) 108 rfl W.heap.size 9 i0' (.string ⟨#[]⟩) 1 16 Tryz.underlying108 hi hy0 hy1 hy2 rfl (by decide) (.slice (some ⟨W.heap.size, 0, none⟩) 0 0) 0 [] (by simp [Act.eval]) (World.ownsRow_made W #[] 0 (Nat.le_refl _) (by unfold maxLen; omega) rfl) ⟨g, 0, none⟩ r.length cap (strs r) (by simp [Act.eval]) (by simp [strs]) (own_pre (xs := []) (by simpa using O2.out.alloc _)) (strs_one _) (by unfold maxLen; omega) (by omega) (by simp) ?_; intro v' w2 hown hgrow hnil; simp only [Nat.zero_add, List.nil_append] at hown; obtain ⟨gr, cr, rfl, hgr⟩ := own_form0 hown (fun e => by simpa using hnil.1 e); have B3 := hide (Below.grown ((Below.refl W.heap.size W).alloc (Nat.le_refl _) (.cells #[] 9)) hgrow (by simp) (fun j e => by simp [Value.ownBlock] at e; omega)); have R3 := hide (R2.out.below B3.out R2.out.1); have Z3 := hide (Z2.out.below B3.out Z2.out.1); have G0 := (B3.out.cell (p := ⟨w1.heap.size, 0, none⟩) hWz).trans g0; have G1 := (B3.out.cell (p := ⟨w1.heap.size, 1, none⟩) hWz).trans g1; have G2 := (B3.out.cell (p := ⟨w1.heap.size, 2, none⟩) hWz).trans g2; have OWN := hide hown; clear hown hgrow hnil g0 g1 g2; obtain ⟨ehl, ⟨e0, u0⟩, ⟨e1, u1⟩, ⟨e2, u2⟩, ⟨e3, u3⟩, ⟨e4, u4⟩, ⟨e5, u5⟩, ⟨e6, u6⟩, ⟨e7, u7⟩, ⟨e8, u8⟩, e9, u9⟩ := R3.out)
  have hBW : w.heap.size ≤ W.heap.size := B2.out.size
  have hr1 : w.heap.size + 1 < W.heap.size := R2.out.1
  have hz2 : w.heap.size + 1 + 1 < W.heap.size := Z2.out.1
  have hgw : w.heap.size + 1 ≠ gr := by omega
  have hz3 : W.heap.size ≤ w2.heap.size := B3.out.size
  have R4 := hide ((R3.out.set0 (.int .i64 ((place : Int) + 1))).set0 (.int .i64 (k : Int)))
  have Z4 := hide ((Z3.out.other ⟨w.heap.size + 1, 0, none⟩ (.int .i64 ((place : Int) + 1)) (by simp)).other ⟨w.heap.size + 1, 0, none⟩ (.int .i64 (k : Int)) (by simp))
  have B4 := hide (((B2.out.trans (B3.out.mono B2.out.size)).setCell (p := ⟨w.heap.size + 1, 0, none⟩) (by simp) (.int .i64 ((place : Int) + 1))).setCell (p := ⟨w.heap.size + 1, 0, none⟩) (by simp) (.int .i64 (k : Int)))
  have O4 := hide (ten_own (ten_own OWN.out hgw (.int .i64 ((place : Int) + 1)) 0) hgw (.int .i64 (k : Int)) 0)
  have H0 := ((cell_far _ ⟨w.heap.size + 1, 0, none⟩ ⟨w1.heap.size, 0, none⟩ (.int .i64 (k : Int)) (by simp; omega)).trans ((cell_far _ ⟨w.heap.size + 1, 0, none⟩ ⟨w1.heap.size, 0, none⟩ (.int .i64 ((place : Int) + 1)) (by simp; omega)).trans G0))
  have H1 := ((cell_far _ ⟨w.heap.size + 1, 0, none⟩ ⟨w1.heap.size, 1, none⟩ (.int .i64 (k : Int)) (by simp; omega)).trans ((cell_far _ ⟨w.heap.size + 1, 0, none⟩ ⟨w1.heap.size, 1, none⟩ (.int .i64 ((place : Int) + 1)) (by simp; omega)).trans G1))
  have H2 := ((cell_far _ ⟨w.heap.size + 1, 0, none⟩ ⟨w1.heap.size, 2, none⟩ (.int .i64 (k : Int)) (by simp; omega)).trans ((cell_far _ ⟨w.heap.size + 1, 0, none⟩ ⟨w1.heap.size, 2, none⟩ (.int .i64 ((place : Int) + 1)) (by simp; omega)).trans G2))
  have hbs : W.heap.size ≤ ((w2.setCell ⟨w.heap.size + 1, 0, none⟩ (.int .i64 ((place : Int) + 1))).setCell ⟨w.heap.size + 1, 0, none⟩ (.int .i64 (k : Int))).heap.size := by simpa using hz3
  clear chl c0 f0 c1 f1 c2 f2 c3 f3 c4 f4 c5 f5 c6 f6 c7 f7 c8 f8 c9 f9
  clear ehl e0 u0 e1 u1 e2 u2 e3 u3 e4 u4 e5 u5 e6 u6 e7 u7 e8 u8 e9 u9
  clear G0 G1 G2 B3 R3 Z3 OWN R2 Z2 O2 pP
  generalize ((w2.setCell ⟨w.heap.size + 1, 0, none⟩ (.int .i64 ((place : Int) + 1))).setCell ⟨w.heap.size + 1, 0, none⟩ (.int .i64 (k : Int))) = W5 at R4 Z4 B4 O4 H0 H1 H2 hbs ⊢
  have G0 := H0
  have G1 := H1
  have G2 := H2
  clear H0 H1 H2
  have hpt := puts_two op
  go_loopw [13, 14] (fun rest i wr => ∃ j : Nat, j ≤ putsOf op ∧ i = .int .i64 j ∧ ∃ g6 cx, rest = .slice (some ⟨g6, 0, none⟩) (r.length + j) cx ∧ Hid (wr.ownsRow W.heap.size 9 1 (.slice (some ⟨g6, 0, none⟩) (r.length + j) cx) (r.length + j) (strs r ++ (PL.take j).map Value.string)) ∧ Hid (Below W.heap.size W5 wr) ∧ Hid (∀ i, i < j → (PL.getD i ⟨#[]⟩).size ≤ 2000)) (fun _ i _ => putsOf op - (intOf i).toNat)
  case atStart => exact ⟨0, by omega, rfl, gr, cr, rfl, (by show World.ownsRow _ _ _ _ _ _ _; rw [List.take_zero, List.map_nil, List.append_nil]; exact O4.out), Below.refl _ _, fun i hi => absurd hi (Nat.not_lt_zero _)⟩
  case round =>
    obtain ⟨j, hj, rfl, g6, cx, rfl, O6, B6, S6⟩ := hrel
    have R6 := hide (R4.out.below B6.out hr1)
    have Z6 := hide (Z4.out.below B6.out hz2)
    have i0 := (B6.out.cell (p := ⟨w1.heap.size, 0, none⟩) hWz).trans G0
    have i1 := (B6.out.cell (p := ⟨w1.heap.size, 1, none⟩) hWz).trans G1
    have i2 := (B6.out.cell (p := ⟨w1.heap.size, 2, none⟩) hWz).trans G2
    have hw6 : W.heap.size ≤ wr.heap.size := Nat.le_trans hbs B6.out.size
    have B7 := hide (B4.out.trans (B6.out.mono hBW))
    by_cases hlt : j < putsOf op
    · have h8 : op ≤ 8 := puts_le ho1 h11 hlt
      have hjl : j < PL.length := by rw [HPL.out.2]; exact hlt
      go_wp2_with fail
      refine (l1Plain_any op k (f place).s ⟨#[]⟩ ⟨#[]⟩ _ ho1 h8 (by decide) (by decide) hk2).mono ?_
      rintro e w6 ⟨g7, rfl, hrow, hge, hB6⟩
      rw [← HPL.out.1] at hrow ⊢
      rw [HPL.out.2] at hrow ⊢
      have q6 : w6.cell? ⟨g7, j, none⟩ = some (.string (PL.getD j ⟨#[]⟩)) := by have := hrow.2 j hlt; rwa [Nat.zero_add] at this
      obtain ⟨E, hE⟩ : ∃ E, E = PL.getD j ⟨#[]⟩ := ⟨_, rfl⟩
      rw [← hE] at q6
      have HE := hide hE
      clear hE
      have O7 := hide (own_below O6.out hB6 (Nat.le_refl _))
      have B8 := hide (B6.out.trans (hB6.mono hw6))
      have hw7 : W.heap.size ≤ w6.heap.size := Nat.le_trans hw6 hB6.size
      have R7 := hide (R6.out.below hB6 R6.out.1)
      have Z7 := hide (Z6.out.below hB6 Z6.out.1)
      have B9 := hide (B7.out.trans (hB6.mono B7.out.size))
      clear hrow hge hB6 i0 i1 i2 R6 Z6
      by_cases hs6 : (E.size : Int) ≤ 2000
      · obtain ⟨i0', hi, hy0, hy1, hy2⟩ := info_parts infoString
        go_wp2_with (at_builtin; refine wpList_append_own _ rfl (.tmp 158) (.tmp 163) 108 rfl W.heap.size 9 i0' (.string ⟨#[]⟩) 1 16 Tryz.underlying108 hi hy0 hy1 hy2 rfl (by decide) (.slice (some ⟨g6, 0, none⟩) (r.length + j) cx) (r.length + j) (strs r ++ (PL.take j).map Value.string) (by simp [Act.eval]) (O7.out.alloc _) ⟨w6.heap.size, 0, none⟩ 1 1 [.string E] (by simp [Act.eval]) rfl (one_new w6 _ _) (by simp [Value.oneCell']) (by unfold maxLen; omega) (by omega) (by first | (simp; done) | (simp; omega)) ?_; intro v' w7 hown7 hgrow7 hnil7; obtain ⟨g8, c8, rfl, hg8⟩ := own_form0 hown7 (fun e => by simpa using hnil7.1 e); have O8 := hide hown7; have B10 := hide (Below.grown (B8.out.alloc hw7 (.cells #[.string E] 9)) hgrow7 (by first | (simp; done) | (simp; omega)) (fun i e => (O7.out.lt i e).1)); clear hown7 hgrow7 hnil7)
        exact ⟨⟨j + 1, by omega, by go_num, g8, c8, rfl, by show World.ownsRow _ _ _ _ _ _ _; rw [take_next hjl, ← List.append_assoc, ← HE.out]; exact O8.out, B10.out, fun i hi => by
          by_cases e : i = j
          · subst e; rw [← HE.out]; omega
          · exact S6.out i (by omega)⟩, by simp [intOf]; omega⟩
      · have eR : plainSO PL (decT place) r k (steps + 1) looks = .inr (.inl (2, (decT place), (steps + 1))) := by unfold plainSO; rw [fits_no hjl (by rw [← HE.out]; exact hs6)]; rfl
        have ER := hide eR
        clear eR
        obtain ⟨chl, ⟨c0, f0⟩, ⟨c1, f1⟩, ⟨c2, f2⟩, ⟨c3, f3⟩, ⟨c4, f4⟩, ⟨c5, f5⟩, ⟨c6, f6⟩, ⟨c7, f7⟩, ⟨c8, f8⟩, c9, f9⟩ := R7.out
        go_wp2_with fail
        refine (l1End_any _ _ _ _ _ _ _ _ _ _ _ _ _ _ _).mono ?_
        rintro e w9 ⟨rfl, hB9⟩
        have ZE := hide (Z7.out.below hB9 Z7.out.1)
        have BE := hide (B9.out.trans (hB9.mono B9.out.size))
        clear hB9
        clear chl c0 f0 c1 f1 c2 f2 c3 f3 c4 f4 c5 f5 c6 f6 c7 f7 c8 f8 c9 f9
        obtain ⟨zhl, ⟨z0, y0⟩, ⟨z1, y1⟩, ⟨z2, y2⟩, ⟨z3, y3⟩, ⟨z4, y4⟩, ⟨z5, y5⟩, ⟨z6, y6⟩, ⟨z7, y7⟩, ⟨z8, y8⟩, z9, y9⟩ := ZE.out
        go_wp2
        refine bodyPost_ret (v := runV (k : Int) (.slice (some ⟨g, 0, none⟩) r.length cap) ((steps : Int) + 1) looks true 2 (decT place) false ⟨#[]⟩ false) (by simp [results, Tryz.results75, go_sem, z0, z1, z2, z3, z4, z5, z6, z7, z8, z9]) rfl ⟨_, rfl, ?_, ten_set BE.out (by omega) _ _ _ _ _ _ _ _ _ _⟩
        rw [ER.out]
        exact ⟨_, _, _, _, _, rfl⟩
    · have e : j = putsOf op := by omega
      subst e
      have eR : plainSO PL (decT place) r k (steps + 1) looks = .inl (k, (steps + 1), looks, (PL.reverse ++ r)) := by unfold plainSO; rw [fits_yes (fun i hi => S6.out i (by rw [HPL.out.2] at hi; exact hi))]; rfl
      have ER := hide eR
      have hl : (PL.reverse ++ r).length = r.length + putsOf op := by rw [List.length_append, List.length_reverse, HPL.out.2]; omega
      have HLn := hide hl
      clear eR hl
      obtain ⟨chl, ⟨c0, f0⟩, ⟨c1, f1⟩, ⟨c2, f2⟩, ⟨c3, f3⟩, ⟨c4, f4⟩, ⟨c5, f5⟩, ⟨c6, f6⟩, ⟨c7, f7⟩, ⟨c8, f8⟩, c9, f9⟩ := R6.out
      obtain ⟨zhl, ⟨z0, y0⟩, ⟨z1, y1⟩, ⟨z2, y2⟩, ⟨z3, y3⟩, ⟨z4, y4⟩, ⟨z5, y5⟩, ⟨z6, y6⟩, ⟨z7, y7⟩, ⟨z8, y8⟩, z9, y9⟩ := Z6.out
      have OE := hide (ownsRow_setCell_below O6.out (a := ⟨w.heap.size + 1, 1, none⟩) hr1 (.slice (some ⟨g6, 0, none⟩) (r.length + putsOf op) cx))
      have BE := hide (B7.out.setCell (p := ⟨w.heap.size + 1, 1, none⟩) (by simp) (.slice (some ⟨g6, 0, none⟩) (r.length + putsOf op) cx))
      go_wp2
      refine bodyPost_ret (v := runV (k : Int) (.slice (some ⟨g6, 0, none⟩) (r.length + putsOf op) cx) ((steps : Int) + 1) looks false 0 ⟨#[]⟩ false ⟨#[]⟩ false) (by simp [results, Tryz.results75, go_sem, z0, z1, z2, z3, z4, z5, z6, z7, z8, z9]) rfl ⟨_, rfl, ?_, ten_set BE.out (by omega) _ _ _ _ _ _ _ _ _ _⟩
      rw [ER.out]
      refine (ten_so (v := runV (k : Int) (.slice (some ⟨g6, 0, none⟩) (r.length + putsOf op) cx) ((steps : Int) + 1) looks false 0 ⟨#[]⟩ false ⟨#[]⟩ false) (base := W.heap.size) ?_ hz2 _ _ _ _ _ _ _ _ _ _).mono hBW
      refine ⟨some ⟨g6, 0, none⟩, cx, by rw [HLn.out]; simp, ?_⟩
      rw [HLn.out, strs_rev]
      have h := OE.out
      rw [show PL.take (putsOf op) = PL by rw [← HPL.out.2]; exact List.take_length] at h
      exact h


end Go.Proofs.YtfhdecheaeoopaaGreatDoor.Vp

/-
  spec: l1Step: a plain one. Written by tools/spec2.py.
-/
namespace Go.Proofs.YtfhdecheaeoopaaGreatDoor.Vp
open Go.RowKit


set_option maxRecDepth 1000000 in
set_option maxHeartbeats 4000000 in
theorem step_unlessE (pb po cnt cap1 place steps looks : Nat) (f : Nat → Ins) (g : Nat) (x : ByteArray) (r : List ByteArray) (cap b2 o2 n cap2 base : Nat) (y : Nat → Reply) (w : World)
    (hP : RowIns w pb po cnt f) (hY : RowReply w b2 o2 n y) (hO : w.ownsRow base 9 1 (.slice (some ⟨g, 0, none⟩) (r.length + 1) cap) (r.length + 1) (strs (x :: r))) (hp : place ≤ 2000) (hst : steps ≤ 2000) (h1 : (place : Int) < cnt) (h2 : ((steps : Int) == 2000) = false) (op k : Nat) (hop : (f place).op = op) (hk : (f place).n = k) (ho1 : 1 ≤ op) (ho2 : op ≤ 15) (hs : r.length ≤ 50) (htk : takesOf op = 1) (hA2 : ((r.length : Int) + (putsOf op : Nat)) ≤ 50) (h11 : op ≤ 11) (hk2 : k ≤ 2000) (hx : x.size ≤ 2000) (n15 : ((op : Int) == 15) = false) (n14 : ((op : Int) == 14) = false) (n12 : ((op : Int) == 12) = false) (n13 : ((op : Int) == 13) = false) (n10 : ((op : Int) == 10) = false) (n11 : ((op : Int) == 11) = true) (q1 : x.toList.isEmpty = true) (PL : List ByteArray) (hPL : PL = plainL op k (f place).s x ⟨#[]⟩ ∧ PL.length = putsOf op) :
    Calls Tryz.prog 75 #[.agg #[.slice (some ⟨pb, po, none⟩) cnt cap1], runV place (.slice (some ⟨g, 0, none⟩) (r.length + 1) cap) steps looks false 0 ⟨#[]⟩ false ⟨#[]⟩ false, .slice (some ⟨b2, o2, none⟩) n cap2] w fun e w' => ∃ v, e = .returned v ∧ SoIs w' w.heap.size v (plainSO PL (decT place) r k (steps + 1) looks) ∧ Below w.heap.size w w' := by
  have HP := hide hP
  have HY := hide hY
  have HO := hide hO
  clear hP hY hO
  have A0 := hide ((((Below.refl w.heap.size w).alloc (Nat.le_refl _) (.cells #[.slice (some ⟨pb, po, none⟩) cnt cap1] 51)).alloc (by simp) (.cells #[.int .i64 place, .slice (some ⟨g, 0, none⟩) (r.length + 1) cap, .int .i64 steps, .int .i64 looks, .bool false, .int .i64 0, .string ⟨#[]⟩, .bool false, .string ⟨#[]⟩, .bool false] 136)).alloc (by first | (simp; done) | (simp; omega)) (.cells #[.int .i64 0, .slice none 0 0, .int .i64 0, .int .i64 0, .bool false, .int .i64 0, .string ⟨#[]⟩, .bool false, .string ⟨#[]⟩, .bool false] 136))
  have R0 := hide ((ten_new (w.alloc (.cells #[.slice (some ⟨pb, po, none⟩) cnt cap1] 51)) (.int .i64 place) (.slice (some ⟨g, 0, none⟩) (r.length + 1) cap) (.int .i64 steps) (.int .i64 looks) (.bool false) (.int .i64 0) (.string ⟨#[]⟩) (.bool false) (.string ⟨#[]⟩) (.bool false) 136 (w.heap.size + 1) (by simp)).al (.cells #[.int .i64 0, .slice none 0 0, .int .i64 0, .int .i64 0, .bool false, .int .i64 0, .string ⟨#[]⟩, .bool false, .string ⟨#[]⟩, .bool false] 136))
  have Z0 := hide (ten_new ((w.alloc (.cells #[.slice (some ⟨pb, po, none⟩) cnt cap1] 51)).alloc (.cells #[.int .i64 place, .slice (some ⟨g, 0, none⟩) (r.length + 1) cap, .int .i64 steps, .int .i64 looks, .bool false, .int .i64 0, .string ⟨#[]⟩, .bool false, .string ⟨#[]⟩, .bool false] 136)) (.int .i64 0) (.slice none 0 0) (.int .i64 0) (.int .i64 0) (.bool false) (.int .i64 0) (.string ⟨#[]⟩) (.bool false) (.string ⟨#[]⟩) (.bool false) 136 (w.heap.size + 1 + 1) (by simp))
  go_enter Tryz.func75, Tryz.ntmps75
  go_wp2_with fail
  refine (l1Dec_any place (by omega) _).mono ?_
  rintro e w1 ⟨rfl, hB1⟩
  have hD : (⟨(Lib.decDigits place).toArray⟩ : ByteArray) = decT place := rfl
  rw [hD]
  have R1 := hide (R0.out.below hB1 (by first | (simp; done) | (simp; omega)))
  have Z1 := hide (Z0.out.below hB1 (by first | (simp; done) | (simp; omega)))
  have B1 := hide (A0.out.trans (hB1.mono (by first | (simp; done) | (simp; omega))))
  have pP : w1.cell? ⟨w.heap.size, 0, none⟩ = some (.slice (some ⟨pb, po, none⟩) cnt cap1) := (hB1.cell (p := ⟨w.heap.size, 0, none⟩) (by first | (simp; done) | (simp; omega))).trans (box3 _ _ _ _ _ _ _ rfl)
  have O1 := hide (own_below HO.out B1.out (Nat.le_refl _))
  have hz1 : w.heap.size + 1 + 1 < w1.heap.size := Z1.out.1
  have hz0 : w.heap.size < w1.heap.size := by omega
  have hz01 : w.heap.size + 1 < w1.heap.size := by omega
  clear hB1 A0 R0 Z0 hD
  have HPL := hide hPL
  clear hPL
  obtain ⟨d0, d1, d2⟩ := (HP.out.below B1.out (Nat.le_refl _)).2 place (by omega)
  rw [hop] at d0
  rw [hk] at d2
  have hpb : pb < w.heap.size := HP.out.1
  have d0' := (cell_far w1 ⟨w.heap.size + 1, 2, none⟩ ⟨pb, po + place * 3, none⟩ (.int .i64 ((steps : Int) + 1)) (by simp; omega)).trans d0
  have d1' := (cell_far w1 ⟨w.heap.size + 1, 2, none⟩ ⟨pb, po + place * 3 + 1, none⟩ (.int .i64 ((steps : Int) + 1)) (by simp; omega)).trans d1
  have d2' := (cell_far w1 ⟨w.heap.size + 1, 2, none⟩ ⟨pb, po + place * 3 + 2, none⟩ (.int .i64 ((steps : Int) + 1)) (by simp; omega)).trans d2
  have hne : ∀ j, w.heap.size ≤ j → Value.ownBlock (.slice (some ⟨g, 0, none⟩) (r.length + 1) cap) ≠ some j := fun j hj e => by have := (HO.out.lt j e).2; omega
  have R2 := hide ((R1.out.set2 (.int .i64 ((steps : Int) + 1))).al (.cells #[.int .i64 op, .string (f place).s, .int .i64 k] 120))
  have Z2 := hide ((Z1.out.other ⟨w.heap.size + 1, 2, none⟩ (.int .i64 ((steps : Int) + 1)) (by simp)).al (.cells #[.int .i64 op, .string (f place).s, .int .i64 k] 120))
  have O2 := hide ((ownsRow_setCell_other O1.out (a := ⟨w.heap.size + 1, 2, none⟩) (hne _ (by simp)) (.int .i64 ((steps : Int) + 1))).alloc (.cells #[.int .i64 op, .string (f place).s, .int .i64 k] 120))
  have B2 := hide ((B1.out.setCell (p := ⟨w.heap.size + 1, 2, none⟩) (by simp) (.int .i64 ((steps : Int) + 1))).alloc (by have := B1.out.size; simpa using this) (.cells #[.int .i64 op, .string (f place).s, .int .i64 k] 120))
  have g0 : ((w1.setCell ⟨w.heap.size + 1, 2, none⟩ (.int .i64 ((steps : Int) + 1))).alloc (.cells #[.int .i64 op, .string (f place).s, .int .i64 k] 120)).cell? ⟨w1.heap.size, 0, none⟩ = some (.int .i64 op) := box1 _ _ _ _ _ _ (by simp) rfl
  have g1 : ((w1.setCell ⟨w.heap.size + 1, 2, none⟩ (.int .i64 ((steps : Int) + 1))).alloc (.cells #[.int .i64 op, .string (f place).s, .int .i64 k] 120)).cell? ⟨w1.heap.size, 1, none⟩ = some (.string (f place).s) := box1 _ _ _ _ _ _ (by simp) rfl
  have g2 : ((w1.setCell ⟨w.heap.size + 1, 2, none⟩ (.int .i64 ((steps : Int) + 1))).alloc (.cells #[.int .i64 op, .string (f place).s, .int .i64 k] 120)).cell? ⟨w1.heap.size, 2, none⟩ = some (.int .i64 k) := box1 _ _ _ _ _ _ (by simp) rfl
  have hWz : w1.heap.size < ((w1.setCell ⟨w.heap.size + 1, 2, none⟩ (.int .i64 ((steps : Int) + 1))).alloc (.cells #[.int .i64 op, .string (f place).s, .int .i64 k] 120)).heap.size := by simp
  clear hne
  obtain ⟨chl, ⟨c0, f0⟩, ⟨c1, f1⟩, ⟨c2, f2⟩, ⟨c3, f3⟩, ⟨c4, f4⟩, ⟨c5, f5⟩, ⟨c6, f6⟩, ⟨c7, f7⟩, ⟨c8, f8⟩, c9, f9⟩ := R1.out
  go_wp2_with fail
  refine (l1Takes_any op _ ho1 ho2).mono ?_
  rintro e w9 ⟨rfl, hw9⟩
  subst hw9
  clear chl c0 f0 c1 f1 c2 f2 c3 f3 c4 f4 c5 f5 c6 f6 c7 f7 c8 f8 c9 f9
  clear d0 d1 d2 d0' d1' d2' hop hk
  generalize ((w1.setCell ⟨w.heap.size + 1, 2, none⟩ (.int .i64 ((steps : Int) + 1))).alloc (.cells #[.int .i64 op, .string (f place).s, .int .i64 k] 120)) = W at R2 Z2 O2 B2 g0 g1 g2 hWz ⊢
  obtain ⟨chl, ⟨c0, f0⟩, ⟨c1, f1⟩, ⟨c2, f2⟩, ⟨c3, f3⟩, ⟨c4, f4⟩, ⟨c5, f5⟩, ⟨c6, f6⟩, ⟨c7, f7⟩, ⟨c8, f8⟩, c9, f9⟩ := R2.out
  have t1 := own_top O2.out
  rw [htk]
  have hcap : (r.length : Int) ≤ cap := by have := own_cap O2.out; omega
  obtain ⟨i0', hi, hy0, hy1, hy2⟩ := info_parts infoString
  go_wp2_with (at_builtin; refine wpList_append_own _ rfl (.tmp 87) (.tmp 95) 108 rfl W.heap.size 9 i0' (.string ⟨#[]⟩) 1 16 Tryz.underlying108 hi hy0 hy1 hy2 rfl (by decide) (.slice (some ⟨W.heap.size, 0, none⟩) 0 0) 0 [] (by simp [Act.eval]) (World.ownsRow_made W #[] 0 (Nat.le_refl _) (by unfold maxLen; omega) rfl) ⟨g, 0, none⟩ r.length cap (strs r) (by simp [Act.eval]) (by simp [strs]) (own_pre (by rw [← strs_cons]; exact O2.out.alloc _)) (strs_one _) (by unfold maxLen; omega) (by omega) (by simp) ?_; intro v' w2 hown hgrow hnil; simp only [Nat.zero_add, List.nil_append] at hown; obtain ⟨gr, cr, rfl, hgr⟩ := own_form0 hown (fun e => by simpa using hnil.1 e); have B3 := hide (Below.grown ((Below.refl W.heap.size W).alloc (Nat.le_refl _) (.cells #[] 9)) hgrow (by simp) (fun j e => by simp [Value.ownBlock] at e; omega)); have R3 := hide (R2.out.below B3.out R2.out.1); have Z3 := hide (Z2.out.below B3.out Z2.out.1); have G0 := (B3.out.cell (p := ⟨w1.heap.size, 0, none⟩) hWz).trans g0; have G1 := (B3.out.cell (p := ⟨w1.heap.size, 1, none⟩) hWz).trans g1; have G2 := (B3.out.cell (p := ⟨w1.heap.size, 2, none⟩) hWz).trans g2; have OWN := hide hown; clear hown hgrow hnil g0 g1 g2; obtain ⟨ehl, ⟨e0, u0⟩, ⟨e1, u1⟩, ⟨e2, u2⟩, ⟨e3, u3⟩, ⟨e4, u4⟩, ⟨e5, u5⟩, ⟨e6, u6⟩, ⟨e7, u7⟩, ⟨e8, u8⟩, e9, u9⟩ := R3.out)
  have hBW : w.heap.size ≤ W.heap.size := B2.out.size
  have hr1 : w.heap.size + 1 < W.heap.size := R2.out.1
  have hz2 : w.heap.size + 1 + 1 < W.heap.size := Z2.out.1
  have hgw : w.heap.size + 1 ≠ gr := by omega
  have hz3 : W.heap.size ≤ w2.heap.size := B3.out.size
  have R4 := hide ((R3.out.set0 (.int .i64 ((place : Int) + 1))).set0 (.int .i64 (k : Int)))
  have Z4 := hide ((Z3.out.other ⟨w.heap.size + 1, 0, none⟩ (.int .i64 ((place : Int) + 1)) (by simp)).other ⟨w.heap.size + 1, 0, none⟩ (.int .i64 (k : Int)) (by simp))
  have B4 := hide (((B2.out.trans (B3.out.mono B2.out.size)).setCell (p := ⟨w.heap.size + 1, 0, none⟩) (by simp) (.int .i64 ((place : Int) + 1))).setCell (p := ⟨w.heap.size + 1, 0, none⟩) (by simp) (.int .i64 (k : Int)))
  have O4 := hide (ten_own (ten_own OWN.out hgw (.int .i64 ((place : Int) + 1)) 0) hgw (.int .i64 (k : Int)) 0)
  have H0 := ((cell_far _ ⟨w.heap.size + 1, 0, none⟩ ⟨w1.heap.size, 0, none⟩ (.int .i64 (k : Int)) (by simp; omega)).trans ((cell_far _ ⟨w.heap.size + 1, 0, none⟩ ⟨w1.heap.size, 0, none⟩ (.int .i64 ((place : Int) + 1)) (by simp; omega)).trans G0))
  have H1 := ((cell_far _ ⟨w.heap.size + 1, 0, none⟩ ⟨w1.heap.size, 1, none⟩ (.int .i64 (k : Int)) (by simp; omega)).trans ((cell_far _ ⟨w.heap.size + 1, 0, none⟩ ⟨w1.heap.size, 1, none⟩ (.int .i64 ((place : Int) + 1)) (by simp; omega)).trans G1))
  have H2 := ((cell_far _ ⟨w.heap.size + 1, 0, none⟩ ⟨w1.heap.size, 2, none⟩ (.int .i64 (k : Int)) (by simp; omega)).trans ((cell_far _ ⟨w.heap.size + 1, 0, none⟩ ⟨w1.heap.size, 2, none⟩ (.int .i64 ((place : Int) + 1)) (by simp; omega)).trans G2))
  have hbs : W.heap.size ≤ ((w2.setCell ⟨w.heap.size + 1, 0, none⟩ (.int .i64 ((place : Int) + 1))).setCell ⟨w.heap.size + 1, 0, none⟩ (.int .i64 (k : Int))).heap.size := by simpa using hz3
  clear chl c0 f0 c1 f1 c2 f2 c3 f3 c4 f4 c5 f5 c6 f6 c7 f7 c8 f8 c9 f9
  clear ehl e0 u0 e1 u1 e2 u2 e3 u3 e4 u4 e5 u5 e6 u6 e7 u7 e8 u8 e9 u9
  clear G0 G1 G2 B3 R3 Z3 OWN R2 Z2 O2 pP
  generalize ((w2.setCell ⟨w.heap.size + 1, 0, none⟩ (.int .i64 ((place : Int) + 1))).setCell ⟨w.heap.size + 1, 0, none⟩ (.int .i64 (k : Int))) = W5 at R4 Z4 B4 O4 H0 H1 H2 hbs ⊢
  have G0 := H0
  have G1 := H1
  have G2 := H2
  clear H0 H1 H2
  have hpt := puts_two op
  go_loopw [13, 14] (fun rest i wr => ∃ j : Nat, j ≤ putsOf op ∧ i = .int .i64 j ∧ ∃ g6 cx, rest = .slice (some ⟨g6, 0, none⟩) (r.length + j) cx ∧ Hid (wr.ownsRow W.heap.size 9 1 (.slice (some ⟨g6, 0, none⟩) (r.length + j) cx) (r.length + j) (strs r ++ (PL.take j).map Value.string)) ∧ Hid (Below W.heap.size W5 wr) ∧ Hid (∀ i, i < j → (PL.getD i ⟨#[]⟩).size ≤ 2000)) (fun _ i _ => putsOf op - (intOf i).toNat)
  case atStart => exact ⟨0, by omega, rfl, gr, cr, rfl, (by show World.ownsRow _ _ _ _ _ _ _; rw [List.take_zero, List.map_nil, List.append_nil]; exact O4.out), Below.refl _ _, fun i hi => absurd hi (Nat.not_lt_zero _)⟩
  case round =>
    obtain ⟨j, hj, rfl, g6, cx, rfl, O6, B6, S6⟩ := hrel
    have R6 := hide (R4.out.below B6.out hr1)
    have Z6 := hide (Z4.out.below B6.out hz2)
    have i0 := (B6.out.cell (p := ⟨w1.heap.size, 0, none⟩) hWz).trans G0
    have i1 := (B6.out.cell (p := ⟨w1.heap.size, 1, none⟩) hWz).trans G1
    have i2 := (B6.out.cell (p := ⟨w1.heap.size, 2, none⟩) hWz).trans G2
    have hw6 : W.heap.size ≤ wr.heap.size := Nat.le_trans hbs B6.out.size
    have B7 := hide (B4.out.trans (B6.out.mono hBW))
    by_cases hlt : j < putsOf op
    · have h8 : op ≤ 8 := puts_le ho1 h11 hlt
      have hjl : j < PL.length := by rw [HPL.out.2]; exact hlt
      go_wp2_with fail
      refine (l1Plain_any op k (f place).s x ⟨#[]⟩ _ ho1 h8 hx (by decide) hk2).mono ?_
      rintro e w6 ⟨g7, rfl, hrow, hge, hB6⟩
      rw [← HPL.out.1] at hrow ⊢
      rw [HPL.out.2] at hrow ⊢
      have q6 : w6.cell? ⟨g7, j, none⟩ = some (.string (PL.getD j ⟨#[]⟩)) := by have := hrow.2 j hlt; rwa [Nat.zero_add] at this
      obtain ⟨E, hE⟩ : ∃ E, E = PL.getD j ⟨#[]⟩ := ⟨_, rfl⟩
      rw [← hE] at q6
      have HE := hide hE
      clear hE
      have O7 := hide (own_below O6.out hB6 (Nat.le_refl _))
      have B8 := hide (B6.out.trans (hB6.mono hw6))
      have hw7 : W.heap.size ≤ w6.heap.size := Nat.le_trans hw6 hB6.size
      have R7 := hide (R6.out.below hB6 R6.out.1)
      have Z7 := hide (Z6.out.below hB6 Z6.out.1)
      have B9 := hide (B7.out.trans (hB6.mono B7.out.size))
      clear hrow hge hB6 i0 i1 i2 R6 Z6
      by_cases hs6 : (E.size : Int) ≤ 2000
      · obtain ⟨i0', hi, hy0, hy1, hy2⟩ := info_parts infoString
        go_wp2_with (at_builtin; refine wpList_append_own _ rfl (.tmp 158) (.tmp 163) 108 rfl W.heap.size 9 i0' (.string ⟨#[]⟩) 1 16 Tryz.underlying108 hi hy0 hy1 hy2 rfl (by decide) (.slice (some ⟨g6, 0, none⟩) (r.length + j) cx) (r.length + j) (strs r ++ (PL.take j).map Value.string) (by simp [Act.eval]) (O7.out.alloc _) ⟨w6.heap.size, 0, none⟩ 1 1 [.string E] (by simp [Act.eval]) rfl (one_new w6 _ _) (by simp [Value.oneCell']) (by unfold maxLen; omega) (by omega) (by first | (simp; done) | (simp; omega)) ?_; intro v' w7 hown7 hgrow7 hnil7; obtain ⟨g8, c8, rfl, hg8⟩ := own_form0 hown7 (fun e => by simpa using hnil7.1 e); have O8 := hide hown7; have B10 := hide (Below.grown (B8.out.alloc hw7 (.cells #[.string E] 9)) hgrow7 (by first | (simp; done) | (simp; omega)) (fun i e => (O7.out.lt i e).1)); clear hown7 hgrow7 hnil7)
        exact ⟨⟨j + 1, by omega, by go_num, g8, c8, rfl, by show World.ownsRow _ _ _ _ _ _ _; rw [take_next hjl, ← List.append_assoc, ← HE.out]; exact O8.out, B10.out, fun i hi => by
          by_cases e : i = j
          · subst e; rw [← HE.out]; omega
          · exact S6.out i (by omega)⟩, by simp [intOf]; omega⟩
      · have eR : plainSO PL (decT place) r k (steps + 1) looks = .inr (.inl (2, (decT place), (steps + 1))) := by unfold plainSO; rw [fits_no hjl (by rw [← HE.out]; exact hs6)]; rfl
        have ER := hide eR
        clear eR
        obtain ⟨chl, ⟨c0, f0⟩, ⟨c1, f1⟩, ⟨c2, f2⟩, ⟨c3, f3⟩, ⟨c4, f4⟩, ⟨c5, f5⟩, ⟨c6, f6⟩, ⟨c7, f7⟩, ⟨c8, f8⟩, c9, f9⟩ := R7.out
        go_wp2_with fail
        refine (l1End_any _ _ _ _ _ _ _ _ _ _ _ _ _ _ _).mono ?_
        rintro e w9 ⟨rfl, hB9⟩
        have ZE := hide (Z7.out.below hB9 Z7.out.1)
        have BE := hide (B9.out.trans (hB9.mono B9.out.size))
        clear hB9
        clear chl c0 f0 c1 f1 c2 f2 c3 f3 c4 f4 c5 f5 c6 f6 c7 f7 c8 f8 c9 f9
        obtain ⟨zhl, ⟨z0, y0⟩, ⟨z1, y1⟩, ⟨z2, y2⟩, ⟨z3, y3⟩, ⟨z4, y4⟩, ⟨z5, y5⟩, ⟨z6, y6⟩, ⟨z7, y7⟩, ⟨z8, y8⟩, z9, y9⟩ := ZE.out
        go_wp2
        refine bodyPost_ret (v := runV (k : Int) (.slice (some ⟨g, 0, none⟩) (r.length + 1) cap) ((steps : Int) + 1) looks true 2 (decT place) false ⟨#[]⟩ false) (by simp [results, Tryz.results75, go_sem, z0, z1, z2, z3, z4, z5, z6, z7, z8, z9]) rfl ⟨_, rfl, ?_, ten_set BE.out (by omega) _ _ _ _ _ _ _ _ _ _⟩
        rw [ER.out]
        exact ⟨_, _, _, _, _, rfl⟩
    · have e : j = putsOf op := by omega
      subst e
      have eR : plainSO PL (decT place) r k (steps + 1) looks = .inl (k, (steps + 1), looks, (PL.reverse ++ r)) := by unfold plainSO; rw [fits_yes (fun i hi => S6.out i (by rw [HPL.out.2] at hi; exact hi))]; rfl
      have ER := hide eR
      have hl : (PL.reverse ++ r).length = r.length + putsOf op := by rw [List.length_append, List.length_reverse, HPL.out.2]; omega
      have HLn := hide hl
      clear eR hl
      obtain ⟨chl, ⟨c0, f0⟩, ⟨c1, f1⟩, ⟨c2, f2⟩, ⟨c3, f3⟩, ⟨c4, f4⟩, ⟨c5, f5⟩, ⟨c6, f6⟩, ⟨c7, f7⟩, ⟨c8, f8⟩, c9, f9⟩ := R6.out
      obtain ⟨zhl, ⟨z0, y0⟩, ⟨z1, y1⟩, ⟨z2, y2⟩, ⟨z3, y3⟩, ⟨z4, y4⟩, ⟨z5, y5⟩, ⟨z6, y6⟩, ⟨z7, y7⟩, ⟨z8, y8⟩, z9, y9⟩ := Z6.out
      have OE := hide (ownsRow_setCell_below O6.out (a := ⟨w.heap.size + 1, 1, none⟩) hr1 (.slice (some ⟨g6, 0, none⟩) (r.length + putsOf op) cx))
      have BE := hide (B7.out.setCell (p := ⟨w.heap.size + 1, 1, none⟩) (by simp) (.slice (some ⟨g6, 0, none⟩) (r.length + putsOf op) cx))
      go_wp2
      refine bodyPost_ret (v := runV (k : Int) (.slice (some ⟨g6, 0, none⟩) (r.length + putsOf op) cx) ((steps : Int) + 1) looks false 0 ⟨#[]⟩ false ⟨#[]⟩ false) (by simp [results, Tryz.results75, go_sem, z0, z1, z2, z3, z4, z5, z6, z7, z8, z9]) rfl ⟨_, rfl, ?_, ten_set BE.out (by omega) _ _ _ _ _ _ _ _ _ _⟩
      rw [ER.out]
      refine (ten_so (v := runV (k : Int) (.slice (some ⟨g6, 0, none⟩) (r.length + putsOf op) cx) ((steps : Int) + 1) looks false 0 ⟨#[]⟩ false ⟨#[]⟩ false) (base := W.heap.size) ?_ hz2 _ _ _ _ _ _ _ _ _ _).mono hBW
      refine ⟨some ⟨g6, 0, none⟩, cx, by rw [HLn.out]; simp, ?_⟩
      rw [HLn.out, strs_rev]
      have h := OE.out
      rw [show PL.take (putsOf op) = PL by rw [← HPL.out.2]; exact List.take_length] at h
      exact h


end Go.Proofs.YtfhdecheaeoopaaGreatDoor.Vp
