/-
  Put together of: NxStp12, NxStepS, NxSpec, NxSpec2, FlPure.
-/
import Derived.Test.YtfhdecheaeoopaaGreatDoorZT
import Derived.Test.YtfhdecheaeoopaaGreatDoorZU
import Derived.Test.YtfhdecheaeoopaaGreatDoorZV
import Derived.Deep.LoopGhost
import Derived.Test.YtfhdecheaeoopaaGreatDoorZF
import Derived.Test.YtfhdecheaeoopaaGreatDoorZQ

/-
  spec: l1Step: a plain one. Written by tools/spec2.py.
-/
namespace Go.Proofs.YtfhdecheaeoopaaGreatDoor.Vp
open Go.RowKit


set_option maxRecDepth 1000000 in
set_option maxHeartbeats 4000000 in
theorem step_jumpN (pb po cnt cap1 place steps looks : Nat) (f : Nat → Ins)  (b2 o2 n cap2 base : Nat) (y : Nat → Reply) (w : World)
    (hP : RowIns w pb po cnt f) (hY : RowReply w b2 o2 n y) (hO : w.ownsRow base 9 1 (.slice none 0 0) 0 (strs [])) (hp : place ≤ 2000) (hst : steps ≤ 2000) (h1 : (place : Int) < cnt) (h2 : ((steps : Int) == 2000) = false) (op k : Nat) (hop : (f place).op = op) (hk : (f place).n = k) (ho1 : 1 ≤ op) (ho2 : op ≤ 15) (htk : takesOf op = 0) (hA2 : ((putsOf op : Nat) : Int) ≤ 50) (h11 : op ≤ 11) (hk2 : k ≤ 2000) (n15 : ((op : Int) == 15) = false) (n14 : ((op : Int) == 14) = false) (n12 : ((op : Int) == 12) = false) (n13 : ((op : Int) == 13) = false) (n10 : ((op : Int) == 10) = true) (PL : List ByteArray) (hPL : PL = plainL op k (f place).s ⟨#[]⟩ ⟨#[]⟩ ∧ PL.length = putsOf op) :
    Calls Tryz.prog 75 #[.agg #[.slice (some ⟨pb, po, none⟩) cnt cap1], runV place (.slice none 0 0) steps looks false 0 ⟨#[]⟩ false ⟨#[]⟩ false, .slice (some ⟨b2, o2, none⟩) n cap2] w fun e w' => ∃ v, e = .returned v ∧ SoIs w' w.heap.size v (plainSO PL (decT place) [] k (steps + 1) looks) ∧ Below w.heap.size w w' := by
  have HP := hide hP
  have HY := hide hY
  have HO := hide hO
  clear hP hY hO
  have A0 := hide ((((Below.refl w.heap.size w).alloc (Nat.le_refl _) (.cells #[.slice (some ⟨pb, po, none⟩) cnt cap1] 51)).alloc (by simp) (.cells #[.int .i64 place, .slice none 0 0, .int .i64 steps, .int .i64 looks, .bool false, .int .i64 0, .string ⟨#[]⟩, .bool false, .string ⟨#[]⟩, .bool false] 136)).alloc (by first | (simp; done) | (simp; omega)) (.cells #[.int .i64 0, .slice none 0 0, .int .i64 0, .int .i64 0, .bool false, .int .i64 0, .string ⟨#[]⟩, .bool false, .string ⟨#[]⟩, .bool false] 136))
  have R0 := hide ((ten_new (w.alloc (.cells #[.slice (some ⟨pb, po, none⟩) cnt cap1] 51)) (.int .i64 place) (.slice none 0 0) (.int .i64 steps) (.int .i64 looks) (.bool false) (.int .i64 0) (.string ⟨#[]⟩) (.bool false) (.string ⟨#[]⟩) (.bool false) 136 (w.heap.size + 1) (by simp)).al (.cells #[.int .i64 0, .slice none 0 0, .int .i64 0, .int .i64 0, .bool false, .int .i64 0, .string ⟨#[]⟩, .bool false, .string ⟨#[]⟩, .bool false] 136))
  have Z0 := hide (ten_new ((w.alloc (.cells #[.slice (some ⟨pb, po, none⟩) cnt cap1] 51)).alloc (.cells #[.int .i64 place, .slice none 0 0, .int .i64 steps, .int .i64 looks, .bool false, .int .i64 0, .string ⟨#[]⟩, .bool false, .string ⟨#[]⟩, .bool false] 136)) (.int .i64 0) (.slice none 0 0) (.int .i64 0) (.int .i64 0) (.bool false) (.int .i64 0) (.string ⟨#[]⟩) (.bool false) (.string ⟨#[]⟩) (.bool false) 136 (w.heap.size + 1 + 1) (by simp))
  go_enter Tryz.func75, Tryz.ntmps75
  go_wp2_with fail
  refine (l1Dec_any place (by omega) _).mono ?_
  rintro e w1 ⟨rfl, hB1⟩
  have hD : (⟨(Lib.decDigits place).toArray⟩ : ByteArray) = decT place := rfl
  rw [hD]
  have R1 := hide (R0.out.below hB1 (by first | (simp; done) | (simp; omega)))
  have Z1 := hide (Z0.out.below hB1 (by first | (simp; done) | (simp; omega)))
  have B1 := hide (A0.out.trans (hB1.mono (by first | (simp; done) | (simp; omega))))
  have pP : w1.cell? ⟨w.heap.size, 0, none⟩ = some (.slice (some ⟨pb, po, none⟩) cnt cap1) := (hB1.cell (p := ⟨w.heap.size, 0, none⟩) (by first | (simp; done) | (simp; omega))).trans (box3 _ _ _ _ _ _ _ rfl)
  have O1 := hide (own_below HO.out B1.out (Nat.le_refl _))
  have hz1 : w.heap.size + 1 + 1 < w1.heap.size := Z1.out.1
  have hz0 : w.heap.size < w1.heap.size := by omega
  have hz01 : w.heap.size + 1 < w1.heap.size := by omega
  clear hB1 A0 R0 Z0 hD
  have HPL := hide hPL
  clear hPL
  obtain ⟨d0, d1, d2⟩ := (HP.out.below B1.out (Nat.le_refl _)).2 place (by omega)
  rw [hop] at d0
  rw [hk] at d2
  have hpb : pb < w.heap.size := HP.out.1
  have d0' := (cell_far w1 ⟨w.heap.size + 1, 2, none⟩ ⟨pb, po + place * 3, none⟩ (.int .i64 ((steps : Int) + 1)) (by simp; omega)).trans d0
  have d1' := (cell_far w1 ⟨w.heap.size + 1, 2, none⟩ ⟨pb, po + place * 3 + 1, none⟩ (.int .i64 ((steps : Int) + 1)) (by simp; omega)).trans d1
  have d2' := (cell_far w1 ⟨w.heap.size + 1, 2, none⟩ ⟨pb, po + place * 3 + 2, none⟩ (.int .i64 ((steps : Int) + 1)) (by simp; omega)).trans d2
  have hne : ∀ j, w.heap.size ≤ j → Value.ownBlock (.slice none 0 0) ≠ some j := fun j hj e => by have := (HO.out.lt j e).2; omega
  have R2 := hide ((R1.out.set2 (.int .i64 ((steps : Int) + 1))).al (.cells #[.int .i64 op, .string (f place).s, .int .i64 k] 120))
  have Z2 := hide ((Z1.out.other ⟨w.heap.size + 1, 2, none⟩ (.int .i64 ((steps : Int) + 1)) (by simp)).al (.cells #[.int .i64 op, .string (f place).s, .int .i64 k] 120))
  have O2 := hide ((ownsRow_setCell_other O1.out (a := ⟨w.heap.size + 1, 2, none⟩) (hne _ (by simp)) (.int .i64 ((steps : Int) + 1))).alloc (.cells #[.int .i64 op, .string (f place).s, .int .i64 k] 120))
  have B2 := hide ((B1.out.setCell (p := ⟨w.heap.size + 1, 2, none⟩) (by simp) (.int .i64 ((steps : Int) + 1))).alloc (by have := B1.out.size; simpa using this) (.cells #[.int .i64 op, .string (f place).s, .int .i64 k] 120))
  have g0 : ((w1.setCell ⟨w.heap.size + 1, 2, none⟩ (.int .i64 ((steps : Int) + 1))).alloc (.cells #[.int .i64 op, .string (f place).s, .int .i64 k] 120)).cell? ⟨w1.heap.size, 0, none⟩ = some (.int .i64 op) := box1 _ _ _ _ _ _ (by simp) rfl
  have g1 : ((w1.setCell ⟨w.heap.size + 1, 2, none⟩ (.int .i64 ((steps : Int) + 1))).alloc (.cells #[.int .i64 op, .string (f place).s, .int .i64 k] 120)).cell? ⟨w1.heap.size, 1, none⟩ = some (.string (f place).s) := box1 _ _ _ _ _ _ (by simp) rfl
  have g2 : ((w1.setCell ⟨w.heap.size + 1, 2, none⟩ (.int .i64 ((steps : Int) + 1))).alloc (.cells #[.int .i64 op, .string (f place).s, .int .i64 k] 120)).cell? ⟨w1.heap.size, 2, none⟩ = some (.int .i64 k) := box1 _ _ _ _ _ _ (by simp) rfl
  have hWz : w1.heap.size < ((w1.setCell ⟨w.heap.size + 1, 2, none⟩ (.int .i64 ((steps : Int) + 1))).alloc (.cells #[.int .i64 op, .string (f place).s, .int .i64 k] 120)).heap.size := by simp
  clear hne
  obtain ⟨chl, ⟨c0, f0⟩, ⟨c1, f1⟩, ⟨c2, f2⟩, ⟨c3, f3⟩, ⟨c4, f4⟩, ⟨c5, f5⟩, ⟨c6, f6⟩, ⟨c7, f7⟩, ⟨c8, f8⟩, c9, f9⟩ := R1.out
  go_wp2_with fail
  refine (l1Takes_any op _ ho1 ho2).mono ?_
  rintro e w9 ⟨rfl, hw9⟩
  subst hw9
  clear chl c0 f0 c1 f1 c2 f2 c3 f3 c4 f4 c5 f5 c6 f6 c7 f7 c8 f8 c9 f9
  clear d0 d1 d2 d0' d1' d2' hop hk
  generalize ((w1.setCell ⟨w.heap.size + 1, 2, none⟩ (.int .i64 ((steps : Int) + 1))).alloc (.cells #[.int .i64 op, .string (f place).s, .int .i64 k] 120)) = W at R2 Z2 O2 B2 g0 g1 g2 hWz ⊢
  obtain ⟨chl, ⟨c0, f0⟩, ⟨c1, f1⟩, ⟨c2, f2⟩, ⟨c3, f3⟩, ⟨c4, f4⟩, ⟨c5, f5⟩, ⟨c6, f6⟩, ⟨c7, f7⟩, ⟨c8, f8⟩, c9, f9⟩ := R2.out
  have hBW : w.heap.size ≤ W.heap.size := B2.out.size
  have hr1 : w.heap.size + 1 < W.heap.size := R2.out.1
  have hz2 : w.heap.size + 1 + 1 < W.heap.size := Z2.out.1
  have R4 := hide (((R2.out.set0 (.int .i64 ((place : Int) + 1))).set0 (.int .i64 (k : Int))).al (.cells #[] 9))
  have Z4 := hide (((Z2.out.other ⟨w.heap.size + 1, 0, none⟩ (.int .i64 ((place : Int) + 1)) (by simp)).other ⟨w.heap.size + 1, 0, none⟩ (.int .i64 (k : Int)) (by simp)).al (.cells #[] 9))
  have B4 := hide (((B2.out.setCell (p := ⟨w.heap.size + 1, 0, none⟩) (by simp) (.int .i64 ((place : Int) + 1))).setCell (p := ⟨w.heap.size + 1, 0, none⟩) (by simp) (.int .i64 (k : Int))).alloc (by simpa using hBW) (.cells #[] 9))
  have O4 : Hid (World.ownsRow (((W.setCell ⟨w.heap.size + 1, 0, none⟩ (.int .i64 ((place : Int) + 1))).setCell ⟨w.heap.size + 1, 0, none⟩ (.int .i64 (k : Int))).alloc (.cells #[] 9)) W.heap.size 9 1 (.slice (some ⟨W.heap.size, 0, none⟩) 0 0) 0 (strs [])) := by
    have h := World.ownsRow_made (base := W.heap.size) (e := 9) (size := 1) ((W.setCell ⟨w.heap.size + 1, 0, none⟩ (.int .i64 ((place : Int) + 1))).setCell ⟨w.heap.size + 1, 0, none⟩ (.int .i64 (k : Int))) #[] 0 (by simp) (by unfold maxLen; omega) rfl
    rw [show ((W.setCell ⟨w.heap.size + 1, 0, none⟩ (.int .i64 ((place : Int) + 1))).setCell ⟨w.heap.size + 1, 0, none⟩ (.int .i64 (k : Int))).heap.size = W.heap.size by simp] at h
    exact h
  have H0 := (((Below.refl ((W.setCell ⟨w.heap.size + 1, 0, none⟩ (.int .i64 ((place : Int) + 1))).setCell ⟨w.heap.size + 1, 0, none⟩ (.int .i64 (k : Int))).heap.size ((W.setCell ⟨w.heap.size + 1, 0, none⟩ (.int .i64 ((place : Int) + 1))).setCell ⟨w.heap.size + 1, 0, none⟩ (.int .i64 (k : Int)))).alloc (Nat.le_refl _) (.cells #[] 9)).cell (p := ⟨w1.heap.size, 0, none⟩) (by simpa using hWz)).trans ((cell_far _ ⟨w.heap.size + 1, 0, none⟩ ⟨w1.heap.size, 0, none⟩ (.int .i64 (k : Int)) (by simp; omega)).trans ((cell_far _ ⟨w.heap.size + 1, 0, none⟩ ⟨w1.heap.size, 0, none⟩ (.int .i64 ((place : Int) + 1)) (by simp; omega)).trans g0))
  have H1 := (((Below.refl ((W.setCell ⟨w.heap.size + 1, 0, none⟩ (.int .i64 ((place : Int) + 1))).setCell ⟨w.heap.size + 1, 0, none⟩ (.int .i64 (k : Int))).heap.size ((W.setCell ⟨w.heap.size + 1, 0, none⟩ (.int .i64 ((place : Int) + 1))).setCell ⟨w.heap.size + 1, 0, none⟩ (.int .i64 (k : Int)))).alloc (Nat.le_refl _) (.cells #[] 9)).cell (p := ⟨w1.heap.size, 1, none⟩) (by simpa using hWz)).trans ((cell_far _ ⟨w.heap.size + 1, 0, none⟩ ⟨w1.heap.size, 1, none⟩ (.int .i64 (k : Int)) (by simp; omega)).trans ((cell_far _ ⟨w.heap.size + 1, 0, none⟩ ⟨w1.heap.size, 1, none⟩ (.int .i64 ((place : Int) + 1)) (by simp; omega)).trans g1))
  have H2 := (((Below.refl ((W.setCell ⟨w.heap.size + 1, 0, none⟩ (.int .i64 ((place : Int) + 1))).setCell ⟨w.heap.size + 1, 0, none⟩ (.int .i64 (k : Int))).heap.size ((W.setCell ⟨w.heap.size + 1, 0, none⟩ (.int .i64 ((place : Int) + 1))).setCell ⟨w.heap.size + 1, 0, none⟩ (.int .i64 (k : Int)))).alloc (Nat.le_refl _) (.cells #[] 9)).cell (p := ⟨w1.heap.size, 2, none⟩) (by simpa using hWz)).trans ((cell_far _ ⟨w.heap.size + 1, 0, none⟩ ⟨w1.heap.size, 2, none⟩ (.int .i64 (k : Int)) (by simp; omega)).trans ((cell_far _ ⟨w.heap.size + 1, 0, none⟩ ⟨w1.heap.size, 2, none⟩ (.int .i64 ((place : Int) + 1)) (by simp; omega)).trans g2))
  have hbs : W.heap.size ≤ (((W.setCell ⟨w.heap.size + 1, 0, none⟩ (.int .i64 ((place : Int) + 1))).setCell ⟨w.heap.size + 1, 0, none⟩ (.int .i64 (k : Int))).alloc (.cells #[] 9)).heap.size := by simp
  rw [htk]
  go_wp2_with fail
  clear chl c0 f0 c1 f1 c2 f2 c3 f3 c4 f4 c5 f5 c6 f6 c7 f7 c8 f8 c9 f9
  clear g0 g1 g2 R2 Z2 O2 pP
  generalize ((W.setCell ⟨w.heap.size + 1, 0, none⟩ (.int .i64 ((place : Int) + 1))).setCell ⟨w.heap.size + 1, 0, none⟩ (.int .i64 (k : Int))).alloc (.cells #[] 9) = W5 at R4 Z4 B4 O4 H0 H1 H2 hbs ⊢
  have G0 := H0
  have G1 := H1
  have G2 := H2
  clear H0 H1 H2
  have hpt := puts_two op
  go_loopw [13, 14] (fun rest i wr => ∃ j : Nat, j ≤ putsOf op ∧ i = .int .i64 j ∧ ∃ g6 cx, rest = .slice (some ⟨g6, 0, none⟩) j cx ∧ Hid (wr.ownsRow W.heap.size 9 1 (.slice (some ⟨g6, 0, none⟩) j cx) j (strs [] ++ (PL.take j).map Value.string)) ∧ Hid (Below W.heap.size W5 wr) ∧ Hid (∀ i, i < j → (PL.getD i ⟨#[]⟩).size ≤ 2000)) (fun _ i _ => putsOf op - (intOf i).toNat)
  case atStart => exact ⟨0, by omega, rfl, W.heap.size, 0, rfl, (by show World.ownsRow _ _ _ _ _ _ _; rw [List.take_zero, List.map_nil, List.append_nil]; exact O4.out), Below.refl _ _, fun i hi => absurd hi (Nat.not_lt_zero _)⟩
  case round =>
    obtain ⟨j, hj, rfl, g6, cx, rfl, O6, B6, S6⟩ := hrel
    have R6 := hide (R4.out.below B6.out hr1)
    have Z6 := hide (Z4.out.below B6.out hz2)
    have i0 := (B6.out.cell (p := ⟨w1.heap.size, 0, none⟩) hWz).trans G0
    have i1 := (B6.out.cell (p := ⟨w1.heap.size, 1, none⟩) hWz).trans G1
    have i2 := (B6.out.cell (p := ⟨w1.heap.size, 2, none⟩) hWz).trans G2
    have hw6 : W.heap.size ≤ wr.heap.size := Nat.le_trans hbs B6.out.size
    have B7 := hide (B4.out.trans (B6.out.mono hBW))
    by_cases hlt : j < putsOf op
    · have h8 : op ≤ 8 := puts_le ho1 h11 hlt
      have hjl : j < PL.length := by rw [HPL.out.2]; exact hlt
      go_wp2_with fail
      refine (l1Plain_any op k (f place).s ⟨#[]⟩ ⟨#[]⟩ _ ho1 h8 (by decide) (by decide) hk2).mono ?_
      rintro e w6 ⟨g7, rfl, hrow, hge, hB6⟩
      rw [← HPL.out.1] at hrow ⊢
      rw [HPL.out.2] at hrow ⊢
      have q6 : w6.cell? ⟨g7, j, none⟩ = some (.string (PL.getD j ⟨#[]⟩)) := by have := hrow.2 j hlt; rwa [Nat.zero_add] at this
      obtain ⟨E, hE⟩ : ∃ E, E = PL.getD j ⟨#[]⟩ := ⟨_, rfl⟩
      rw [← hE] at q6
      have HE := hide hE
      clear hE
      have O7 := hide (own_below O6.out hB6 (Nat.le_refl _))
      have B8 := hide (B6.out.trans (hB6.mono hw6))
      have hw7 : W.heap.size ≤ w6.heap.size := Nat.le_trans hw6 hB6.size
      have R7 := hide (R6.out.below hB6 R6.out.1)
      have Z7 := hide (Z6.out.below hB6 Z6.out.1)
      have B9 := hide (B7.out.trans (hB6.mono B7.out.size))
      clear hrow hge hB6 i0 i1 i2 R6 Z6
      by_cases hs6 : (E.size : Int) ≤ 2000
      · obtain ⟨i0', hi, hy0, hy1, hy2⟩ := info_parts infoString
        go_wp2_with (at_builtin; refine wpList_append_own _ rfl (.tmp 158) (.tmp 163) 108 rfl W.heap.size 9 i0' (.string ⟨#[]⟩) 1 16 Tryz.underlying108 hi hy0 hy1 hy2 rfl (by decide) (.slice (some ⟨g6, 0, none⟩) j cx) j (strs [] ++ (PL.take j).map Value.string) (by simp [Act.eval]) (O7.out.alloc _) ⟨w6.heap.size, 0, none⟩ 1 1 [.string E] (by simp [Act.eval]) rfl (one_new w6 _ _) (by simp [Value.oneCell']) (by unfold maxLen; omega) (by omega) (by first | (simp; done) | (simp; omega)) ?_; intro v' w7 hown7 hgrow7 hnil7; obtain ⟨g8, c8, rfl, hg8⟩ := own_form0 hown7 (fun e => by simpa using hnil7.1 e); have O8 := hide hown7; have B10 := hide (Below.grown (B8.out.alloc hw7 (.cells #[.string E] 9)) hgrow7 (by first | (simp; done) | (simp; omega)) (fun i e => (O7.out.lt i e).1)); clear hown7 hgrow7 hnil7)
        exact ⟨⟨j + 1, by omega, by go_num, g8, c8, rfl, by show World.ownsRow _ _ _ _ _ _ _; rw [take_next hjl, ← List.append_assoc, ← HE.out]; exact O8.out, B10.out, fun i hi => by
          by_cases e : i = j
          · subst e; rw [← HE.out]; omega
          · exact S6.out i (by omega)⟩, by simp [intOf]; omega⟩
      · have eR : plainSO PL (decT place) [] k (steps + 1) looks = .inr (.inl (2, (decT place), (steps + 1))) := by unfold plainSO; rw [fits_no hjl (by rw [← HE.out]; exact hs6)]; rfl
        have ER := hide eR
        clear eR
        obtain ⟨chl, ⟨c0, f0⟩, ⟨c1, f1⟩, ⟨c2, f2⟩, ⟨c3, f3⟩, ⟨c4, f4⟩, ⟨c5, f5⟩, ⟨c6, f6⟩, ⟨c7, f7⟩, ⟨c8, f8⟩, c9, f9⟩ := R7.out
        go_wp2_with fail
        refine (l1End_any _ _ _ _ _ _ _ _ _ _ _ _ _ _ _).mono ?_
        rintro e w9 ⟨rfl, hB9⟩
        have ZE := hide (Z7.out.below hB9 Z7.out.1)
        have BE := hide (B9.out.trans (hB9.mono B9.out.size))
        clear hB9
        clear chl c0 f0 c1 f1 c2 f2 c3 f3 c4 f4 c5 f5 c6 f6 c7 f7 c8 f8 c9 f9
        obtain ⟨zhl, ⟨z0, y0⟩, ⟨z1, y1⟩, ⟨z2, y2⟩, ⟨z3, y3⟩, ⟨z4, y4⟩, ⟨z5, y5⟩, ⟨z6, y6⟩, ⟨z7, y7⟩, ⟨z8, y8⟩, z9, y9⟩ := ZE.out
        go_wp2
        refine bodyPost_ret (v := runV (k : Int) (.slice none 0 0) ((steps : Int) + 1) looks true 2 (decT place) false ⟨#[]⟩ false) (by simp [results, Tryz.results75, go_sem, z0, z1, z2, z3, z4, z5, z6, z7, z8, z9]) rfl ⟨_, rfl, ?_, ten_set BE.out (by omega) _ _ _ _ _ _ _ _ _ _⟩
        rw [ER.out]
        exact ⟨_, _, _, _, _, rfl⟩
    · have e : j = putsOf op := by omega
      subst e
      have eR : plainSO PL (decT place) [] k (steps + 1) looks = .inl (k, (steps + 1), looks, (PL.reverse ++ [])) := by unfold plainSO; rw [fits_yes (fun i hi => S6.out i (by rw [HPL.out.2] at hi; exact hi))]; rfl
      have ER := hide eR
      have hl : (PL.reverse ++ []).length = putsOf op := by rw [List.length_append, List.length_reverse, HPL.out.2]; simp
      have HLn := hide hl
      clear eR hl
      obtain ⟨chl, ⟨c0, f0⟩, ⟨c1, f1⟩, ⟨c2, f2⟩, ⟨c3, f3⟩, ⟨c4, f4⟩, ⟨c5, f5⟩, ⟨c6, f6⟩, ⟨c7, f7⟩, ⟨c8, f8⟩, c9, f9⟩ := R6.out
      obtain ⟨zhl, ⟨z0, y0⟩, ⟨z1, y1⟩, ⟨z2, y2⟩, ⟨z3, y3⟩, ⟨z4, y4⟩, ⟨z5, y5⟩, ⟨z6, y6⟩, ⟨z7, y7⟩, ⟨z8, y8⟩, z9, y9⟩ := Z6.out
      have OE := hide (ownsRow_setCell_below O6.out (a := ⟨w.heap.size + 1, 1, none⟩) hr1 (.slice (some ⟨g6, 0, none⟩) (putsOf op) cx))
      have BE := hide (B7.out.setCell (p := ⟨w.heap.size + 1, 1, none⟩) (by simp) (.slice (some ⟨g6, 0, none⟩) (putsOf op) cx))
      go_wp2
      refine bodyPost_ret (v := runV (k : Int) (.slice (some ⟨g6, 0, none⟩) (putsOf op) cx) ((steps : Int) + 1) looks false 0 ⟨#[]⟩ false ⟨#[]⟩ false) (by simp [results, Tryz.results75, go_sem, z0, z1, z2, z3, z4, z5, z6, z7, z8, z9]) rfl ⟨_, rfl, ?_, ten_set BE.out (by omega) _ _ _ _ _ _ _ _ _ _⟩
      rw [ER.out]
      refine (ten_so (v := runV (k : Int) (.slice (some ⟨g6, 0, none⟩) (putsOf op) cx) ((steps : Int) + 1) looks false 0 ⟨#[]⟩ false ⟨#[]⟩ false) (base := W.heap.size) ?_ hz2 _ _ _ _ _ _ _ _ _ _).mono hBW
      refine ⟨some ⟨g6, 0, none⟩, cx, by rw [HLn.out]; simp, ?_⟩
      rw [HLn.out, strs_rev]
      have h := OE.out
      rw [show PL.take (putsOf op) = PL by rw [← HPL.out.2]; exact List.take_length] at h
      exact h


end Go.Proofs.YtfhdecheaeoopaaGreatDoor.Vp

/-
  spec: l1Step, as the run without a machine tells it.
-/
namespace Go.Proofs.YtfhdecheaeoopaaGreatDoor.Vp
open Go.RowKit

def soOf (y : Nat → Reply) (n place st looks : Nat) : Res → SO
  | .inr (.inl (c, x)) => .inr (.inl (c, x, st))
  | .inl (s', p) => .inl (p, st, looks, s')
  | .inr (.inr (a, nm, s')) => afterLook y n a nm s' (place + 1) st looks
def sstepP (f : Nat → Ins) (cnt : Nat) (y : Nat → Reply) (n place steps looks : Nat) (s : List ByteArray) : SO := soOf y n place (stepN cnt place steps) looks (stepP f cnt place steps looks s)
theorem own_cases {w : World} {base n cap : Nat} {e : TypeId} {a : Option Addr} {xs : List Value} (h : w.ownsRow base e 1 (.slice a n cap) n xs) : (a = none ∧ n = 0 ∧ cap = 0) ∨ ∃ g, a = some ⟨g, 0, none⟩ := by
  rcases h.2 with ⟨h0, _⟩ | ⟨g, c, cur, hv, _⟩
  · simp only [Value.slice.injEq] at h0
    exact .inl h0
  · simp only [Value.slice.injEq] at hv
    exact .inr ⟨g, hv.1⟩

theorem fits_plain (op k : Nat) (t a b : ByteArray) (h1 : 1 ≤ op) (h11 : op ≤ 11) (h2 : op ≠ 2) (ht : t.size ≤ 2000) (ha : a.size ≤ 2000) (hb : b.size ≤ 2000) : (plainL op k t a b).all (fun x => decide (x.size ≤ 2000)) = true := by
  rcases (show op = 1 ∨ op = 3 ∨ op = 4 ∨ op = 5 ∨ op = 6 ∨ op = 7 ∨ op = 8 ∨ op = 9 ∨ op = 10 ∨ op = 11 by omega) with rfl | rfl | rfl | rfl | rfl | rfl | rfl | rfl | rfl | rfl
  · simp [plainL, ht]
  · simp only [plainL, List.all_cons, List.all_nil, Bool.and_true, decide_eq_true_eq]
    split
    · simp; omega
    · exact ha
  · simp only [plainL, List.all_cons, List.all_nil, Bool.and_true, decide_eq_true_eq]
    split
    · simp; omega
    · decide
  · simp only [plainL, List.all_cons, List.all_nil, Bool.and_true, decide_eq_true_eq]
    exact Nat.le_trans (wordT_size _ _) ha
  · simp only [plainL, List.all_cons, List.all_nil, Bool.and_true, decide_eq_true_eq]
    exact flagT_size _
  · simp [plainL, ha]
  · simp [plainL, ha, hb]
  · rfl
  · rfl
  · rfl
theorem plainSO_go (op k : Nat) (t a b pl : ByteArray) (r : List ByteArray) (p st l : Nat) (h1 : 1 ≤ op) (h11 : op ≤ 11) (h2 : op ≠ 2) (ht : t.size ≤ 2000) (ha : a.size ≤ 2000) (hb : b.size ≤ 2000) : plainSO (plainL op k t a b) pl r p st l = .inl (p, st, l, ((plainL op k t a b).reverse ++ r)) := by
  unfold plainSO
  rw [fits_plain op k t a b h1 h11 h2 ht ha hb]
  rfl

theorem cat_so (k : Nat) (t x z : ByteArray) (r : List ByteArray) (y : Nat → Reply) (n place st looks : Nat) : soOf y n place st looks (performP 2 k t place looks (x :: z :: r)) = plainSO (plainL 2 k t x z) (decT place) r (place + 1) st looks := by
  unfold plainSO
  simp only [performP, plainL, List.all_cons, List.all_nil, Bool.and_true, ByteArray.size_append]
  by_cases h : z.size + x.size ≤ 2000
  · rw [if_pos h, if_pos (by simpa using h)]
    rfl
  · rw [if_neg h, if_neg (by simpa using h)]
    rfl
theorem look_so (op : Nat) (y : Nat → Reply) (n place st looks : Nat) (x : ByteArray) (r : List ByteArray) (b : Bool) (hb : ((op : Int) == 12) = b) : soOf y n place st looks (lookP b x r place looks) = lookSO y n op (decT place) x r (place + 1) st looks := by
  unfold lookP lookSO
  rw [hb]
  by_cases h1 : nameOk x = false
  · rw [if_pos h1, if_pos h1]
    rfl
  · rw [if_neg h1, if_neg h1]
    by_cases h2 : looks = 200
    · rw [if_pos h2, if_pos h2]
      rfl
    · rw [if_neg h2, if_neg h2]
      rfl

set_option maxHeartbeats 1000000 in
theorem l1Step_any (pb po cnt cap1 place steps looks : Nat) (f : Nat → Ins) (a : Option Addr) (s : List ByteArray) (cap b2 o2 n cap2 base : Nat) (y : Nat → Reply) (w : World)
    (hP : RowIns w pb po cnt f) (hY : RowReply w b2 o2 n y) (hO : w.ownsRow base 9 1 (.slice a s.length cap) s.length (strs s)) (hp : place ≤ 2000) (hst : steps ≤ 2000) (hlk : looks ≤ 200) (hs : s.length ≤ 50) (hle : ∀ x ∈ s, x.size ≤ 2000) (hok : okTo f cnt = true) :
    Calls Tryz.prog 75 #[.agg #[.slice (some ⟨pb, po, none⟩) cnt cap1], runV place (.slice a s.length cap) steps looks false 0 ⟨#[]⟩ false ⟨#[]⟩ false, .slice (some ⟨b2, o2, none⟩) n cap2] w fun e w' => ∃ v, e = .returned v ∧ SoIs w' w.heap.size v (sstepP f cnt y n place steps looks s) ∧ Below w.heap.size w w' := by
  by_cases h1 : cnt ≤ place
  · have e1 : sstepP f cnt y n place steps looks s = .inr (.inl (2, (decT place), steps)) := by simp [sstepP, soOf, stepP, stepN, h1]
    rw [e1]
    exact step_off pb po cnt cap1 place steps looks f a s cap b2 o2 n cap2 base y w hP hY hO hp (by omega)
  have h1' : (place : Int) < cnt := by omega
  by_cases h2 : steps = 2000
  · have e1 : sstepP f cnt y n place steps looks s = .inr (.inl (3, ⟨#[]⟩, steps)) := by simp [sstepP, soOf, stepP, stepN, h1, h2]
    rw [e1]
    exact step_spent pb po cnt cap1 place steps looks f a s cap b2 o2 n cap2 base y w hP hY hO hp h1' (by simp; omega)
  have h2' : ((steps : Int) == 2000) = false := by simp; omega
  have hi := ok_at hok (show place < cnt by omega)
  simp only [insOk, decide_eq_true_eq] at hi
  obtain ⟨i1, i2, i3, i4, i5⟩ := hi
  obtain ⟨op, hop⟩ := Int.eq_ofNat_of_zero_le (show 0 ≤ (f place).op by omega)
  obtain ⟨k, hk⟩ := Int.eq_ofNat_of_zero_le i4
  have hmt : mostN (f place).op ≤ 2000 := by unfold mostN; split <;> (try split) <;> omega
  have hmt2 : mostText (f place).op ≤ 2000 := by unfold mostText; split <;> omega
  have hk2 : k ≤ 2000 := by omega
  have ht2 : (f place).s.size ≤ 2000 := by omega
  have ho1 : 1 ≤ op := by omega
  have ho2 : op ≤ 15 := by omega
  have eS : stepP f cnt place steps looks s = if bearsP op s = false then .inr (.inl (2, (decT place))) else performP op k (f place).s place looks s := by
    simp only [stepP, h1, h2, if_false, hop, hk, Int.toNat_natCast]
  have eN : stepN cnt place steps = steps + 1 := by simp [stepN, h1, h2]
  by_cases hb : bearsP op s = false
  · have e1 : sstepP f cnt y n place steps looks s = .inr (.inl (2, (decT place), (steps + 1))) := by simp only [sstepP, soOf, eS, eN, hb, if_true]
    rw [e1]
    by_cases hA : (s.length : Int) < (takesOf op : Nat)
    · exact step_few pb po cnt cap1 place steps looks f a s cap b2 o2 n cap2 base y w hP hY hO hp hst h1' h2' op k hop hk ho1 ho2 hA
    · refine step_many pb po cnt cap1 place steps looks f a s cap b2 o2 n cap2 base y w hP hY hO hp hst h1' h2' op k hop hk ho1 ho2 hs hA ?_ (puts_two op)
      simp only [bearsP, decide_eq_false_iff_not] at hb
      omega
  have hb' : bearsP op s = true := by simpa using hb
  rw [if_neg hb] at eS
  simp only [bearsP, decide_eq_true_eq] at hb'
  obtain ⟨b1, bb2⟩ := hb'
  have eP : sstepP f cnt y n place steps looks s = soOf y n place (steps + 1) looks (performP op k (f place).s place looks s) := by simp only [sstepP, eS, eN]
  rw [eP]
  clear eP eS eN hb
  have someOf : s ≠ [] → ∃ g, a = some ⟨g, 0, none⟩ := fun hne => by
    obtain ⟨g, c, e⟩ := own_form hO (List.length_pos_iff.2 hne)
    simp only [Value.slice.injEq] at e
    exact ⟨g, e.1⟩
  rcases (show op = 1 ∨ op = 2 ∨ op = 3 ∨ op = 4 ∨ op = 5 ∨ op = 6 ∨ op = 7 ∨ op = 8 ∨ op = 9 ∨ op = 10 ∨ op = 11 ∨ op = 12 ∨ op = 13 ∨ op = 14 ∨ op = 15 by omega) with rfl | rfl | rfl | rfl | rfl | rfl | rfl | rfl | rfl | rfl | rfl | rfl | rfl | rfl | rfl
  all_goals simp only [takesOf, putsOf] at b1 bb2
  · rw [show soOf y n place (steps + 1) looks (performP 1 k (f place).s place looks s) = plainSO (plainL 1 k (f place).s ⟨#[]⟩ ⟨#[]⟩) (decT place) s (place + 1) (steps + 1) looks by rw [plainSO_go 1 k _ ⟨#[]⟩ ⟨#[]⟩ _ s _ _ _ (by omega) (by omega) (by omega) ht2 (by decide) (by decide)]; rfl]
    rcases own_cases hO with ⟨rfl, hz, rfl⟩ | ⟨g, rfl⟩
    · obtain rfl : s = [] := List.length_eq_zero_iff.1 hz
      exact step_plainN pb po cnt cap1 place steps looks f b2 o2 n cap2 base y w hP hY hO hp hst h1' h2' 1 k hop hk ho1 ho2 rfl (by simp [putsOf]) (by omega) hk2 (by simp) (by simp) (by simp) (by simp) (by simp) (by simp) _ ⟨rfl, plainL_len _ _ _ _ _ (by omega) (by omega)⟩
    · exact step_plain0 pb po cnt cap1 place steps looks f g s cap b2 o2 n cap2 base y w hP hY hO hp hst h1' h2' 1 k hop hk ho1 ho2 hs rfl (by simp [putsOf] at bb2 ⊢; omega) (by omega) hk2 (by simp) (by simp) (by simp) (by simp) (by simp) (by simp) _ ⟨rfl, plainL_len _ _ _ _ _ (by omega) (by omega)⟩
  · match s, b1 with
    | x :: z :: r, _ =>
      obtain ⟨g, rfl⟩ := someOf (by simp)
      rw [show soOf y n place (steps + 1) looks (performP 2 k (f place).s place looks (x :: z :: r)) = plainSO (plainL 2 k (f place).s x z) (decT place) r (place + 1) (steps + 1) looks by exact cat_so k _ x z r y n place (steps + 1) looks]
      exact step_plain2 pb po cnt cap1 place steps looks f g x z r cap b2 o2 n cap2 base y w hP hY hO hp hst h1' h2' 2 k hop hk ho1 ho2 (by simp at hs; omega) rfl (by simp [putsOf] at bb2 ⊢; omega) (by omega) hk2 (hle x (by simp)) (hle z (by simp)) (by simp) (by simp) (by simp) (by simp) (by simp) (by simp) _ ⟨rfl, plainL_len _ _ _ _ _ (by omega) (by omega)⟩
  · match s, b1 with
    | x :: r, _ =>
      obtain ⟨g, rfl⟩ := someOf (by simp)
      rw [show soOf y n place (steps + 1) looks (performP 3 k (f place).s place looks (x :: r)) = plainSO (plainL 3 k (f place).s x ⟨#[]⟩) (decT place) r (place + 1) (steps + 1) looks by rw [plainSO_go 3 k _ x ⟨#[]⟩ _ r _ _ _ (by omega) (by omega) (by omega) ht2 (hle x (by simp)) (by decide)]; rfl]
      exact step_plain1 pb po cnt cap1 place steps looks f g x r cap b2 o2 n cap2 base y w hP hY hO hp hst h1' h2' 3 k hop hk ho1 ho2 (by simp at hs; omega) rfl (by simp [putsOf] at bb2 ⊢; omega) (by omega) hk2 (hle x (by simp)) (by simp) (by simp) (by simp) (by simp) (by simp) (by simp) _ ⟨rfl, plainL_len _ _ _ _ _ (by omega) (by omega)⟩
  · match s, b1 with
    | x :: r, _ =>
      obtain ⟨g, rfl⟩ := someOf (by simp)
      rw [show soOf y n place (steps + 1) looks (performP 4 k (f place).s place looks (x :: r)) = plainSO (plainL 4 k (f place).s x ⟨#[]⟩) (decT place) r (place + 1) (steps + 1) looks by rw [plainSO_go 4 k _ x ⟨#[]⟩ _ r _ _ _ (by omega) (by omega) (by omega) ht2 (hle x (by simp)) (by decide)]; rfl]
      exact step_plain1 pb po cnt cap1 place steps looks f g x r cap b2 o2 n cap2 base y w hP hY hO hp hst h1' h2' 4 k hop hk ho1 ho2 (by simp at hs; omega) rfl (by simp [putsOf] at bb2 ⊢; omega) (by omega) hk2 (hle x (by simp)) (by simp) (by simp) (by simp) (by simp) (by simp) (by simp) _ ⟨rfl, plainL_len _ _ _ _ _ (by omega) (by omega)⟩
  · match s, b1 with
    | x :: r, _ =>
      obtain ⟨g, rfl⟩ := someOf (by simp)
      rw [show soOf y n place (steps + 1) looks (performP 5 k (f place).s place looks (x :: r)) = plainSO (plainL 5 k (f place).s x ⟨#[]⟩) (decT place) r (place + 1) (steps + 1) looks by rw [plainSO_go 5 k _ x ⟨#[]⟩ _ r _ _ _ (by omega) (by omega) (by omega) ht2 (hle x (by simp)) (by decide)]; rfl]
      exact step_plain1 pb po cnt cap1 place steps looks f g x r cap b2 o2 n cap2 base y w hP hY hO hp hst h1' h2' 5 k hop hk ho1 ho2 (by simp at hs; omega) rfl (by simp [putsOf] at bb2 ⊢; omega) (by omega) hk2 (hle x (by simp)) (by simp) (by simp) (by simp) (by simp) (by simp) (by simp) _ ⟨rfl, plainL_len _ _ _ _ _ (by omega) (by omega)⟩
  · match s, b1 with
    | x :: z :: r, _ =>
      obtain ⟨g, rfl⟩ := someOf (by simp)
      rw [show soOf y n place (steps + 1) looks (performP 6 k (f place).s place looks (x :: z :: r)) = plainSO (plainL 6 k (f place).s x z) (decT place) r (place + 1) (steps + 1) looks by rw [plainSO_go 6 k _ x z _ r _ _ _ (by omega) (by omega) (by omega) ht2 (hle x (by simp)) (hle z (by simp))]; rfl]
      exact step_plain2 pb po cnt cap1 place steps looks f g x z r cap b2 o2 n cap2 base y w hP hY hO hp hst h1' h2' 6 k hop hk ho1 ho2 (by simp at hs; omega) rfl (by simp [putsOf] at bb2 ⊢; omega) (by omega) hk2 (hle x (by simp)) (hle z (by simp)) (by simp) (by simp) (by simp) (by simp) (by simp) (by simp) _ ⟨rfl, plainL_len _ _ _ _ _ (by omega) (by omega)⟩
  · match s, b1 with
    | x :: r, _ =>
      obtain ⟨g, rfl⟩ := someOf (by simp)
      rw [show soOf y n place (steps + 1) looks (performP 7 k (f place).s place looks (x :: r)) = plainSO (plainL 7 k (f place).s x ⟨#[]⟩) (decT place) r (place + 1) (steps + 1) looks by rw [plainSO_go 7 k _ x ⟨#[]⟩ _ r _ _ _ (by omega) (by omega) (by omega) ht2 (hle x (by simp)) (by decide)]; rfl]
      exact step_plain1 pb po cnt cap1 place steps looks f g x r cap b2 o2 n cap2 base y w hP hY hO hp hst h1' h2' 7 k hop hk ho1 ho2 (by simp at hs; omega) rfl (by simp [putsOf] at bb2 ⊢; omega) (by omega) hk2 (hle x (by simp)) (by simp) (by simp) (by simp) (by simp) (by simp) (by simp) _ ⟨rfl, plainL_len _ _ _ _ _ (by omega) (by omega)⟩
  · match s, b1 with
    | x :: z :: r, _ =>
      obtain ⟨g, rfl⟩ := someOf (by simp)
      rw [show soOf y n place (steps + 1) looks (performP 8 k (f place).s place looks (x :: z :: r)) = plainSO (plainL 8 k (f place).s x z) (decT place) r (place + 1) (steps + 1) looks by rw [plainSO_go 8 k _ x z _ r _ _ _ (by omega) (by omega) (by omega) ht2 (hle x (by simp)) (hle z (by simp))]; rfl]
      exact step_plain2 pb po cnt cap1 place steps looks f g x z r cap b2 o2 n cap2 base y w hP hY hO hp hst h1' h2' 8 k hop hk ho1 ho2 (by simp at hs; omega) rfl (by simp [putsOf] at bb2 ⊢; omega) (by omega) hk2 (hle x (by simp)) (hle z (by simp)) (by simp) (by simp) (by simp) (by simp) (by simp) (by simp) _ ⟨rfl, plainL_len _ _ _ _ _ (by omega) (by omega)⟩
  · match s, b1 with
    | x :: r, _ =>
      obtain ⟨g, rfl⟩ := someOf (by simp)
      rw [show soOf y n place (steps + 1) looks (performP 9 k (f place).s place looks (x :: r)) = plainSO (plainL 9 k (f place).s x ⟨#[]⟩) (decT place) r (place + 1) (steps + 1) looks by rw [plainSO_go 9 k _ x ⟨#[]⟩ _ r _ _ _ (by omega) (by omega) (by omega) ht2 (hle x (by simp)) (by decide)]; rfl]
      exact step_plain1 pb po cnt cap1 place steps looks f g x r cap b2 o2 n cap2 base y w hP hY hO hp hst h1' h2' 9 k hop hk ho1 ho2 (by simp at hs; omega) rfl (by simp [putsOf] at bb2 ⊢; omega) (by omega) hk2 (hle x (by simp)) (by simp) (by simp) (by simp) (by simp) (by simp) (by simp) _ ⟨rfl, plainL_len _ _ _ _ _ (by omega) (by omega)⟩
  · rw [show soOf y n place (steps + 1) looks (performP 10 k (f place).s place looks s) = plainSO (plainL 10 k (f place).s ⟨#[]⟩ ⟨#[]⟩) (decT place) s k (steps + 1) looks by rw [plainSO_go 10 k _ ⟨#[]⟩ ⟨#[]⟩ _ s _ _ _ (by omega) (by omega) (by omega) ht2 (by decide) (by decide)]; rfl]
    rcases own_cases hO with ⟨rfl, hz, rfl⟩ | ⟨g, rfl⟩
    · obtain rfl : s = [] := List.length_eq_zero_iff.1 hz
      exact step_jumpN pb po cnt cap1 place steps looks f b2 o2 n cap2 base y w hP hY hO hp hst h1' h2' 10 k hop hk ho1 ho2 rfl (by simp [putsOf]) (by omega) hk2 (by simp) (by simp) (by simp) (by simp) (by simp) _ ⟨rfl, plainL_len _ _ _ _ _ (by omega) (by omega)⟩
    · exact step_jump pb po cnt cap1 place steps looks f g s cap b2 o2 n cap2 base y w hP hY hO hp hst h1' h2' 10 k hop hk ho1 ho2 hs rfl (by simp [putsOf] at bb2 ⊢; omega) (by omega) hk2 (by simp) (by simp) (by simp) (by simp) (by simp) _ ⟨rfl, plainL_len _ _ _ _ _ (by omega) (by omega)⟩
  · match s, b1 with
    | x :: r, _ =>
      obtain ⟨g, rfl⟩ := someOf (by simp)
      by_cases q1 : x.toList.isEmpty = true
      · rw [show soOf y n place (steps + 1) looks (performP 11 k (f place).s place looks (x :: r)) = plainSO (plainL 11 k (f place).s x ⟨#[]⟩) (decT place) r k (steps + 1) looks by rw [plainSO_go 11 k _ x ⟨#[]⟩ _ r _ _ _ (by omega) (by omega) (by omega) ht2 (hle x (by simp)) (by decide)]; simp only [performP, soOf, plainL, List.reverse_nil, List.nil_append]; rw [if_pos (.inl (List.isEmpty_iff.1 q1))]]
        exact step_unlessE pb po cnt cap1 place steps looks f g x r cap b2 o2 n cap2 base y w hP hY hO hp hst h1' h2' 11 k hop hk ho1 ho2 (by simp at hs; omega) rfl (by simp [putsOf] at bb2 ⊢; omega) (by omega) hk2 (hle x (by simp)) (by simp) (by simp) (by simp) (by simp) (by simp) (by simp) q1 _ ⟨rfl, plainL_len _ _ _ _ _ (by omega) (by omega)⟩
      · have q1' : x.toList.isEmpty = false := by simpa using q1
        have qn : ¬ x.toList = [] := fun e => q1 (by rw [e]; rfl)
        by_cases q2 : (x.toList == [48]) = true
        · rw [show soOf y n place (steps + 1) looks (performP 11 k (f place).s place looks (x :: r)) = plainSO (plainL 11 k (f place).s x ⟨#[]⟩) (decT place) r k (steps + 1) looks by rw [plainSO_go 11 k _ x ⟨#[]⟩ _ r _ _ _ (by omega) (by omega) (by omega) ht2 (hle x (by simp)) (by decide)]; simp only [performP, soOf, plainL, List.reverse_nil, List.nil_append]; rw [if_pos (.inr q2)]]
          exact step_unlessZ pb po cnt cap1 place steps looks f g x r cap b2 o2 n cap2 base y w hP hY hO hp hst h1' h2' 11 k hop hk ho1 ho2 (by simp at hs; omega) rfl (by simp [putsOf] at bb2 ⊢; omega) (by omega) hk2 (hle x (by simp)) (by simp) (by simp) (by simp) (by simp) (by simp) (by simp) q1' q2 _ ⟨rfl, plainL_len _ _ _ _ _ (by omega) (by omega)⟩
        · rw [show soOf y n place (steps + 1) looks (performP 11 k (f place).s place looks (x :: r)) = plainSO (plainL 11 k (f place).s x ⟨#[]⟩) (decT place) r (place + 1) (steps + 1) looks by rw [plainSO_go 11 k _ x ⟨#[]⟩ _ r _ _ _ (by omega) (by omega) (by omega) ht2 (hle x (by simp)) (by decide)]; simp only [performP, soOf, plainL, List.reverse_nil, List.nil_append]; rw [if_neg (fun h => h.elim qn q2)]]
          exact step_unlessN pb po cnt cap1 place steps looks f g x r cap b2 o2 n cap2 base y w hP hY hO hp hst h1' h2' 11 k hop hk ho1 ho2 (by simp at hs; omega) rfl (by simp [putsOf] at bb2 ⊢; omega) (by omega) hk2 (hle x (by simp)) (by simp) (by simp) (by simp) (by simp) (by simp) (by simp) q1' (by simpa using q2) _ ⟨rfl, plainL_len _ _ _ _ _ (by omega) (by omega)⟩
  · match s, b1 with
    | x :: r, _ =>
      obtain ⟨g, rfl⟩ := someOf (by simp)
      rw [show soOf y n place (steps + 1) looks (performP 12 k (f place).s place looks (x :: r)) = lookSO y n 12 (decT place) x r (place + 1) (steps + 1) looks from look_so 12 y n place (steps + 1) looks x r true rfl]
      exact step_look12 pb po cnt cap1 place steps looks f g x r cap b2 o2 n cap2 base y w hP hY hO hp hst h1' h2' 12 k hop hk ho1 ho2 (by simp at hs; omega) rfl (by simp [putsOf] at bb2 ⊢; omega) hlk (by omega) (by simp) (by simp) (by simp)
  · match s, b1 with
    | x :: r, _ =>
      obtain ⟨g, rfl⟩ := someOf (by simp)
      rw [show soOf y n place (steps + 1) looks (performP 13 k (f place).s place looks (x :: r)) = lookSO y n 13 (decT place) x r (place + 1) (steps + 1) looks from look_so 13 y n place (steps + 1) looks x r false rfl]
      exact step_look13 pb po cnt cap1 place steps looks f g x r cap b2 o2 n cap2 base y w hP hY hO hp hst h1' h2' 13 k hop hk ho1 ho2 (by simp at hs; omega) rfl (by simp [putsOf] at bb2 ⊢; omega) hlk (by omega) (by simp) (by simp) (by simp) (by simp)
  · match s, b1 with
    | x :: r, _ =>
      obtain ⟨g, rfl⟩ := someOf (by simp)
      exact step_fail pb po cnt cap1 place steps looks f g x r cap b2 o2 n cap2 base y w hP hY hO hp hst h1' h2' 14 k hop hk ho1 ho2 (by simp at hs; omega) rfl (by simp [putsOf] at bb2 ⊢; omega) (by simp) (by simp)
  · match s, b1 with
    | x :: r, _ =>
      obtain ⟨g, rfl⟩ := someOf (by simp)
      exact step_end pb po cnt cap1 place steps looks f g x r cap b2 o2 n cap2 base y w hP hY hO hp hst h1' h2' 15 k hop hk ho1 ho2 (by simp at hs; omega) rfl (by simp [putsOf] at bb2 ⊢; omega) (by simp)

end Go.Proofs.YtfhdecheaeoopaaGreatDoor.Vp

/-
  spec: Next.
-/
namespace Go.Proofs.YtfhdecheaeoopaaGreatDoor.Vp
open Go.RowKit

def SoNext (f : Nat → Ins) (cnt : Nat) (y : Nat → Reply) (n : Nat) (T : Turn) (st : Nat) : SO → Prop
  | .inr (.inl (c, x, k)) => T = endT c x k
  | .inr (.inr (a, nm, k)) => T = waitT a nm k
  | .inl (p, k, l, s) => k = st + 1 ∧ k ≤ 2000 ∧ nextP f cnt y n (2001 - k) p k l s = T ∧ p ≤ 2000 ∧ l ≤ 200 ∧ s.length ≤ 50 ∧ ∀ x ∈ s, x.size ≤ 2000
theorem stepP_fine2 {f : Nat → Ins} {cnt place steps looks : Nat} {stk : List ByteArray} (hl : stk.length ≤ 50) (hle : ∀ x ∈ stk, x.size ≤ 2000) (hlk : looks ≤ 200) (hok : okTo f cnt = true) (hc : cnt ≤ 200) : Fine (stepP f cnt place steps looks stk) looks := by
  unfold stepP
  split
  · trivial
  · rename_i h1
    split
    · trivial
    · split
      · trivial
      · rename_i h3
        have hi := ok_at hok (show place < cnt by omega)
        simp only [insOk, decide_eq_true_eq] at hi
        obtain ⟨i1, i2, i3, i4, i5⟩ := hi
        have hmt : mostN (f place).op ≤ 2000 := by unfold mostN; split <;> (try split) <;> omega
        have hmt2 : mostText (f place).op ≤ 2000 := by unfold mostText; split <;> omega
        exact performP_fine _ _ _ _ _ _ hl hle (by omega) (by omega) (by omega) hlk (by omega) (by omega) (by simpa using h3)
theorem stepP_place {f : Nat → Ins} {cnt place steps looks : Nat} {stk : List ByteArray} {a : Bool} {nm : ByteArray} {s : List ByteArray} (h : stepP f cnt place steps looks stk = .inr (.inr (a, nm, s))) : place < cnt := by
  unfold stepP at h
  split at h
  · cases h
  · omega
theorem so_next {f : Nat → Ins} {cnt : Nat} {y : Nat → Reply} {n : Nat} {T : Turn} {p st l : Nat} {s : List ByteArray} (hst : st ≤ 2000) (hl : l ≤ 200) (hs : s.length ≤ 50) (hle : ∀ x ∈ s, x.size ≤ 2000) (hok : okTo f cnt = true) (hc : cnt ≤ 200) (hr : repliesTo y n = true)
    (hT : nextP f cnt y n (2001 - st) p st l s = T) : SoNext f cnt y n T st (sstepP f cnt y n p st l s) := by
  obtain ⟨j, hj⟩ : ∃ j, 2001 - st = j + 1 := ⟨2000 - st, by omega⟩
  rw [hj, nextP] at hT
  have hF := stepP_fine2 (place := p) (steps := st) hs hle hl hok hc
  unfold sstepP
  rcases h : stepP f cnt p st l s with ⟨s', p'⟩ | ⟨c, x⟩ | ⟨a, nm, s'⟩
  · rw [h] at hT hF
    obtain ⟨e1, e2⟩ := stepP_go h
    obtain ⟨f1, f2, f3⟩ := hF
    simp only [e1] at hT ⊢
    exact ⟨rfl, by omega, by rw [show 2001 - (st + 1) = j by omega]; exact hT, f3, hl, f1, f2⟩
  · rw [h] at hT
    exact hT.symm
  · rw [h] at hT hF
    obtain ⟨e1, e2⟩ := stepP_look h
    obtain ⟨f1, f2, f3, f4⟩ := hF
    have hp := stepP_place h
    simp only [e1] at hT ⊢
    simp only [soOf, afterLook]
    by_cases h1 : n ≤ l
    · rw [if_pos h1] at hT ⊢
      exact hT.symm
    · rw [if_neg h1] at hT ⊢
      by_cases h2 : a = false
      · rw [if_pos h2] at hT ⊢
        refine ⟨rfl, by omega, by rw [show 2001 - (st + 1) = j by omega]; exact hT, by omega, by omega, by simp; omega, fun x hx => ?_⟩
        rcases List.mem_cons.1 hx with rfl | hx
        · exact flagT_size _
        · exact f2 x hx
      · rw [if_neg h2] at hT ⊢
        by_cases h3 : (y l).has = false
        · rw [if_pos h3] at hT ⊢
          exact hT.symm
        · rw [if_neg h3] at hT ⊢
          by_cases h4 : (y l).code = 0
          · rw [if_pos h4] at hT ⊢
            refine ⟨rfl, by omega, by rw [show 2001 - (st + 1) = j by omega]; exact hT, by omega, by omega, by simp; omega, fun x hx => ?_⟩
            rcases List.mem_cons.1 hx with rfl | hx
            · exact (reply_at hr (show l < n by omega)).1
            · exact f2 x hx
          · rw [if_neg h4] at hT ⊢
            exact hT.symm
theorem Ten.put {w : World} {g : Nat} {v0 v1 v2 v3 v4 v5 v6 v7 v8 v9 : Value} (h : Ten w g v0 v1 v2 v3 v4 v5 v6 v7 v8 v9) (u0 u1 u2 u3 u4 u5 u6 u7 u8 u9 : Value) : Ten ((((((((((w.setCell ⟨g, 0, none⟩ u0).setCell ⟨g, 1, none⟩ u1).setCell ⟨g, 2, none⟩ u2).setCell ⟨g, 3, none⟩ u3).setCell ⟨g, 4, none⟩ u4).setCell ⟨g, 5, none⟩ u5).setCell ⟨g, 6, none⟩ u6).setCell ⟨g, 7, none⟩ u7).setCell ⟨g, 8, none⟩ u8).setCell ⟨g, 9, none⟩ u9) g u0 u1 u2 u3 u4 u5 u6 u7 u8 u9 :=
  (((((((((h.set0 u0).set1 u1).set2 u2).set3 u3).set4 u4).set5 u5).set6 u6).set7 u7).set8 u8).set9 u9
theorem only_ten {g : Nat} {u w : World} (h : Only g u w) (u0 u1 u2 u3 u4 u5 u6 u7 u8 u9 : Value) : Only g u ((((((((((w.setCell ⟨g, 0, none⟩ u0).setCell ⟨g, 1, none⟩ u1).setCell ⟨g, 2, none⟩ u2).setCell ⟨g, 3, none⟩ u3).setCell ⟨g, 4, none⟩ u4).setCell ⟨g, 5, none⟩ u5).setCell ⟨g, 6, none⟩ u6).setCell ⟨g, 7, none⟩ u7).setCell ⟨g, 8, none⟩ u8).setCell ⟨g, 9, none⟩ u9) :=
  bset (bset (bset (bset (bset (bset (bset (bset (bset (bset h 0 u0) 1 u1) 2 u2) 3 u3) 4 u4) 5 u5) 6 u6) 7 u7) 8 u8) 9 u9

/-- How the specification's run stands in its box g. -/
def Stands2 (w : World) (g base : Nat) (f : Nat → Ins) (cnt : Nat) (y : Nat → Reply) (n : Nat) (T : Turn) (k : Nat) : Prop :=
  (∃ p st l s a cap, Ten w g (.int .i64 (p : Nat)) (.slice a (List.length s) cap) (.int .i64 (st : Nat)) (.int .i64 (l : Nat)) (.bool false) (.int .i64 0) (.string ⟨#[]⟩) (.bool false) (.string ⟨#[]⟩) (.bool false) ∧ w.ownsRow base 9 1 (.slice a s.length cap) s.length (strs s) ∧
    st ≤ 2000 ∧ nextP f cnt y n (2001 - st) p st l s = T ∧ p ≤ 2000 ∧ l ≤ 200 ∧ s.length ≤ 50 ∧ (∀ x ∈ s, x.size ≤ 2000) ∧ 2002 - st ≤ k) ∨
  (∃ at_ sv lk c x, ∃ st : Nat, Ten w g at_ sv (.int .i64 st) lk (.bool true) (.int .i64 c) (.string x) (.bool false) (.string ⟨#[]⟩) (.bool false) ∧ T = endT c x st) ∨
  (∃ at_ sv lk a nm, ∃ st : Nat, Ten w g at_ sv (.int .i64 st) lk (.bool false) (.int .i64 0) (.string ⟨#[]⟩) (.bool a) (.string nm) (.bool true) ∧ T = waitT a nm st)

end Go.Proofs.YtfhdecheaeoopaaGreatDoor.Vp

/-
  spec: Next, the function.
-/
namespace Go.Proofs.YtfhdecheaeoopaaGreatDoor.Vp
open Go.RowKit

theorem ten_low {w : World} {base n cap : Nat} {e : TypeId} {a : Option Addr} {xs : List Value} (h : w.ownsRow base e 1 (.slice a n cap) n xs) {k : Nat} (hk : k < base) (v0 v1 v2 v3 v4 v5 v6 v7 v8 v9 : Value) : World.ownsRow ((((((((((w.setCell ⟨k, 0, none⟩ v0).setCell ⟨k, 1, none⟩ v1).setCell ⟨k, 2, none⟩ v2).setCell ⟨k, 3, none⟩ v3).setCell ⟨k, 4, none⟩ v4).setCell ⟨k, 5, none⟩ v5).setCell ⟨k, 6, none⟩ v6).setCell ⟨k, 7, none⟩ v7).setCell ⟨k, 8, none⟩ v8).setCell ⟨k, 9, none⟩ v9) base e 1 (.slice a n cap) n xs := by
  have s : ∀ {w : World} (j : Nat) (u : Value), w.ownsRow base e 1 (.slice a n cap) n xs → (w.setCell ⟨k, j, none⟩ u).ownsRow base e 1 (.slice a n cap) n xs := fun j u h => ownsRow_setCell_below h (a := ⟨k, j, none⟩) hk u
  exact s 9 v9 (s 8 v8 (s 7 v7 (s 6 v6 (s 5 v5 (s 4 v4 (s 3 v3 (s 2 v2 (s 1 v1 (s 0 v0 h)))))))))

set_option maxHeartbeats 2000000 in
theorem specNext_no1 (pb po cnt cap n cap2 : Nat) (a2 : Option Addr) (f : Nat → Ins) (w : World) (hn : cnt ≤ 1048576) (hv : valid f cnt = false) (hP : RowIns w pb po cnt f) (hs : ∀ i, i < cnt → (f i).s.size ≤ maxLen) :
    Calls Tryz.prog 39 #[.agg #[.slice (some ⟨pb, po, none⟩) cnt cap], .slice a2 n cap2] w fun e w' => e = .returned badT.v ∧ Below w.heap.size w w' := by
  have HP := hide hP
  have A0 := hide ((((Below.refl w.heap.size w).alloc (Nat.le_refl _) (.cells #[.slice (some ⟨pb, po, none⟩) cnt cap] 51))).alloc (by simp) (.cells #[.bool false, .int .i64 0, .string ⟨#[]⟩, .bool false, .string ⟨#[]⟩, .int .i64 0] 85))
  have hx0 := six_new (w.alloc (.cells #[.slice (some ⟨pb, po, none⟩) cnt cap] 51)) (.bool false) (.int .i64 0) (.string ⟨#[]⟩) (.bool false) (.string ⟨#[]⟩) (.int .i64 0) 85
  rw [show (w.alloc (.cells #[.slice (some ⟨pb, po, none⟩) cnt cap] 51)).heap.size = w.heap.size + 1 by simp] at hx0
  have X0 := hide hx0
  have IV := fun w' h1 h2 => specValid_row pb po cnt cap f w' hn h1 h2 hs
  rw [hv] at IV
  have HIV := hide IV
  clear hx0 IV hP hs hv
  go_enter Tryz.func39, Tryz.ntmps39
  go_wp2_with fail
  have P1 := hide (HP.out.below A0.out (Nat.le_refl _))
  refine (HIV.out _ P1.out.1 P1.out.2).mono ?_
  rintro e w1 ⟨rfl, hB1⟩
  have HX := hide (X0.out.below hB1 (by simp))
  have B1 := hide (A0.out.trans (hB1.mono (by simp; omega)))
  clear hB1 A0 X0 P1
  obtain ⟨v0, q0, y0⟩ := HX.out.2 0 (by omega)
  obtain ⟨v1, q1, y1⟩ := HX.out.2 1 (by omega)
  obtain ⟨v2, q2, y2⟩ := HX.out.2 2 (by omega)
  obtain ⟨v3, q3, y3⟩ := HX.out.2 3 (by omega)
  obtain ⟨v4, q4, y4⟩ := HX.out.2 4 (by omega)
  obtain ⟨v5, q5, y5⟩ := HX.out.2 5 (by omega)
  go_wp2
  refine bodyPost_ret (v := badT.v) (by simp [results, Tryz.results39, go_sem, Turn.v, badT, q0, q1, q2, q3, q4, q5]) rfl ⟨rfl, six_set B1.out (by omega) _ _ _ _ _ _⟩

set_option maxHeartbeats 2000000 in
theorem specNext_no2 (pb po cnt cap n cap2 : Nat) (a2 : Option Addr) (f : Nat → Ins) (w : World) (hn : cnt ≤ 1048576) (hv : valid f cnt = true) (hP : RowIns w pb po cnt f) (hs : ∀ i, i < cnt → (f i).s.size ≤ maxLen) (hn2 : 200 < (n : Int)) :
    Calls Tryz.prog 39 #[.agg #[.slice (some ⟨pb, po, none⟩) cnt cap], .slice a2 n cap2] w fun e w' => e = .returned badT.v ∧ Below w.heap.size w w' := by
  have HP := hide hP
  have A0 := hide ((((Below.refl w.heap.size w).alloc (Nat.le_refl _) (.cells #[.slice (some ⟨pb, po, none⟩) cnt cap] 51))).alloc (by simp) (.cells #[.bool false, .int .i64 0, .string ⟨#[]⟩, .bool false, .string ⟨#[]⟩, .int .i64 0] 85))
  have hx0 := six_new (w.alloc (.cells #[.slice (some ⟨pb, po, none⟩) cnt cap] 51)) (.bool false) (.int .i64 0) (.string ⟨#[]⟩) (.bool false) (.string ⟨#[]⟩) (.int .i64 0) 85
  rw [show (w.alloc (.cells #[.slice (some ⟨pb, po, none⟩) cnt cap] 51)).heap.size = w.heap.size + 1 by simp] at hx0
  have X0 := hide hx0
  have IV := fun w' h1 h2 => specValid_row pb po cnt cap f w' hn h1 h2 hs
  rw [hv] at IV
  have HIV := hide IV
  clear hx0 IV hP hs hv
  go_enter Tryz.func39, Tryz.ntmps39
  go_wp2_with fail
  have P1 := hide (HP.out.below A0.out (Nat.le_refl _))
  refine (HIV.out _ P1.out.1 P1.out.2).mono ?_
  rintro e w1 ⟨rfl, hB1⟩
  have HX := hide (X0.out.below hB1 (by simp))
  have B1 := hide (A0.out.trans (hB1.mono (by simp; omega)))
  clear hB1 A0 X0 P1
  obtain ⟨v0, q0, y0⟩ := HX.out.2 0 (by omega)
  obtain ⟨v1, q1, y1⟩ := HX.out.2 1 (by omega)
  obtain ⟨v2, q2, y2⟩ := HX.out.2 2 (by omega)
  obtain ⟨v3, q3, y3⟩ := HX.out.2 3 (by omega)
  obtain ⟨v4, q4, y4⟩ := HX.out.2 4 (by omega)
  obtain ⟨v5, q5, y5⟩ := HX.out.2 5 (by omega)
  go_wp2
  refine bodyPost_ret (v := badT.v) (by simp [results, Tryz.results39, go_sem, Turn.v, badT, q0, q1, q2, q3, q4, q5]) rfl ⟨rfl, six_set B1.out (by omega) _ _ _ _ _ _⟩

set_option maxHeartbeats 4000000 in
theorem specNext_ok (pb po cnt cap b2 o2 n cap2 : Nat) (f : Nat → Ins) (y : Nat → Reply) (w : World) (hn : cnt ≤ 1048576) (hv : valid f cnt = true) (hn2 : (n : Int) ≤ 200) (hP : RowIns w pb po cnt f) (hY : RowReply w b2 o2 n y) (hs : ∀ i, i < cnt → (f i).s.size ≤ maxLen) (T : Turn) (hT : T = if repliesTo y n = false then badT else nextP f cnt y n 2001 0 0 0 []) :
    Calls Tryz.prog 39 #[.agg #[.slice (some ⟨pb, po, none⟩) cnt cap], .slice (some ⟨b2, o2, none⟩) n cap2] w fun e w' => e = .returned T.v ∧ Below w.heap.size w w' := by
  have HV := hide (valid_parts hv).1
  have hc2 : cnt ≤ 200 := by have := (valid_parts hv).2.2; omega
  have HY := hide hY
  have HT := hide hT
  clear hY hT
  have HP := hide hP
  have A0 := hide ((((Below.refl w.heap.size w).alloc (Nat.le_refl _) (.cells #[.slice (some ⟨pb, po, none⟩) cnt cap] 51))).alloc (by simp) (.cells #[.bool false, .int .i64 0, .string ⟨#[]⟩, .bool false, .string ⟨#[]⟩, .int .i64 0] 85))
  have hx0 := six_new (w.alloc (.cells #[.slice (some ⟨pb, po, none⟩) cnt cap] 51)) (.bool false) (.int .i64 0) (.string ⟨#[]⟩) (.bool false) (.string ⟨#[]⟩) (.int .i64 0) 85
  rw [show (w.alloc (.cells #[.slice (some ⟨pb, po, none⟩) cnt cap] 51)).heap.size = w.heap.size + 1 by simp] at hx0
  have X0 := hide hx0
  have IV := fun w' h1 h2 => specValid_row pb po cnt cap f w' hn h1 h2 hs
  rw [hv] at IV
  have HIV := hide IV
  clear hx0 IV hP hs hv
  go_enter Tryz.func39, Tryz.ntmps39
  go_wp2_with fail
  have P1 := hide (HP.out.below A0.out (Nat.le_refl _))
  refine (HIV.out _ P1.out.1 P1.out.2).mono ?_
  rintro e w1 ⟨rfl, hB1⟩
  have c1 : w1.cell? ⟨w.heap.size, 0, none⟩ = some (.slice (some ⟨pb, po, none⟩) cnt cap) := (hB1.cell (p := ⟨w.heap.size, 0, none⟩) (by simp; omega)).trans (by simp)
  have HX := hide (X0.out.below hB1 (by simp))
  have B1 := hide (A0.out.trans (hB1.mono (by simp; omega)))
  have z1 : w.heap.size + 1 < w1.heap.size := HX.out.1
  clear hB1 A0 X0 P1
  have HY1 := hide (HY.out.below B1.out (Nat.le_refl _))
  go_wp2_with fail
  go_loopw [5] (fun i wr => ∃ j : Nat, j ≤ n ∧ i = .int .i64 j ∧ Hid (repliesTo y j = true) ∧ Below w1.heap.size w1 wr) (fun i _ => n - (intOf i).toNat)
  case atStart => exact ⟨0, by omega, rfl, rfl, Below.refl _ _⟩
  case round =>
    obtain ⟨j, hj, rfl, HK, hB⟩ := hrel
    have HX2 := hide (HX.out.below hB HX.out.1)
    have HB := hide (B1.out.trans (hB.mono B1.out.size))
    have cp : wr.cell? ⟨w.heap.size, 0, none⟩ = some (.slice (some ⟨pb, po, none⟩) cnt cap) := (hB.cell (p := ⟨w.heap.size, 0, none⟩) (by simp; omega)).trans c1
    have zr : w.heap.size + 1 < wr.heap.size := HX2.out.1
    have HBw := hide hB
    clear hB
    by_cases hlt : j < n
    · obtain ⟨d0, d1, d2⟩ := (HY.out.below HB.out (Nat.le_refl _)).2 j hlt
      obtain ⟨v0, q0, y0⟩ := HX2.out.2 0 (by omega)
      obtain ⟨v1, q1, y1⟩ := HX2.out.2 1 (by omega)
      obtain ⟨v2, q2, y2⟩ := HX2.out.2 2 (by omega)
      obtain ⟨v3, q3, y3⟩ := HX2.out.2 3 (by omega)
      obtain ⟨v4, q4, y4⟩ := HX2.out.2 4 (by omega)
      obtain ⟨v5, q5, y5⟩ := HX2.out.2 5 (by omega)
      by_cases g1 : ((y j).text.size : Int) ≤ 2000
      · by_cases g2 : 0 ≤ (y j).code
        · by_cases g3 : (y j).code ≤ 7
          · go_wp2
            refine ⟨⟨j + 1, by omega, by go_num, ?_, ?_⟩, by simp [intOf]; omega⟩
            · show repliesTo y (j + 1) = true
              simp only [repliesTo, HK.out, replyOk, Bool.true_and, decide_eq_true_eq]
              omega
            · exact HBw.out
          · go_wp2
            have eT : T = badT := by rw [HT.out, if_pos (repliesTo_false hlt (by simp only [replyOk, decide_eq_false_iff_not]; omega))]
            refine bodyPost_ret (v := badT.v) (by simp [results, Tryz.results39, go_sem, Turn.v, badT, q0, q1, q2, q3, q4, q5]) rfl ⟨by rw [eT], six_set HB.out (by omega) _ _ _ _ _ _⟩
        · go_wp2
          have eT : T = badT := by rw [HT.out, if_pos (repliesTo_false hlt (by simp only [replyOk, decide_eq_false_iff_not]; omega))]
          refine bodyPost_ret (v := badT.v) (by simp [results, Tryz.results39, go_sem, Turn.v, badT, q0, q1, q2, q3, q4, q5]) rfl ⟨by rw [eT], six_set HB.out (by omega) _ _ _ _ _ _⟩
      · go_wp2
        have eT : T = badT := by rw [HT.out, if_pos (repliesTo_false hlt (by simp only [replyOk, decide_eq_false_iff_not]; omega))]
        refine bodyPost_ret (v := badT.v) (by simp [results, Tryz.results39, go_sem, Turn.v, badT, q0, q1, q2, q3, q4, q5]) rfl ⟨by rw [eT], six_set HB.out (by omega) _ _ _ _ _ _⟩
    · have e : j = n := by omega
      subst e
      have eT : T = nextP f cnt y j 2001 0 0 0 [] := by rw [HT.out, if_neg (by simp [HK.out])]
      have ET := hide eT
      clear eT HT HY1
      have RN := hide (ten_new wr (.int .i64 0) (.slice none 0 0) (.int .i64 0) (.int .i64 0) (.bool false) (.int .i64 0) (.string ⟨#[]⟩) (.bool false) (.string ⟨#[]⟩) (.bool false) 136 wr.heap.size rfl)
      have A2 := hide ((Below.refl wr.heap.size wr).alloc (Nat.le_refl _) (.cells #[.int .i64 0, .slice none 0 0, .int .i64 0, .int .i64 0, .bool false, .int .i64 0, .string ⟨#[]⟩, .bool false, .string ⟨#[]⟩, .bool false] 136))
      have XN := hide (HX2.out.below A2.out HX2.out.1)
      have BN := hide (HB.out.trans (A2.out.mono HB.out.size))
      have cN := (A2.out.cell (p := ⟨w.heap.size, 0, none⟩) (by simp; omega)).trans cp
      have hrb : wr.heap.size < (wr.alloc (.cells #[.int .i64 0, .slice none 0 0, .int .i64 0, .int .i64 0, .bool false, .int .i64 0, .string ⟨#[]⟩, .bool false, .string ⟨#[]⟩, .bool false] 136)).heap.size := by simp
      go_wp2_with fail
      clear c1 cp
      generalize wr.alloc (.cells #[.int .i64 0, .slice none 0 0, .int .i64 0, .int .i64 0, .bool false, .int .i64 0, .string ⟨#[]⟩, .bool false, .string ⟨#[]⟩, .bool false] 136) = W2 at RN XN BN cN hrb ⊢
      generalize wr.heap.size = rb at RN zr hrb ⊢
      have hyb : b2 < rb := Nat.lt_of_lt_of_le HY.out.1 (by omega)
      have hpb : pb < rb := Nat.lt_of_lt_of_le HP.out.1 (by omega)
      have S0 : Hid (Stands2 W2 rb W2.heap.size f cnt y j T 2002) := .inl ⟨0, 0, 0, [], none, 0, RN.out, World.ownsRow_nil _ _ _ _, by omega, ET.out.symm, by omega, by omega, by simp, by simp, by omega⟩
      have PN := hide (HP.out.below BN.out (Nat.le_refl _))
      have YN := hide (HY.out.below BN.out (Nat.le_refl _))
      clear RN ET HX2 HB HBw hlt HX B1 HP HY
      go_loopg [] 2002 (fun g wr => Stands2 wr rb W2.heap.size f cnt y j T g ∧ Only rb W2 wr)
      case atStart => exact ⟨S0.out, Only.refl _ _⟩
      case round =>
        obtain ⟨hst, hO⟩ := hrel
        have HO := hide hO
        have cw : wr.cell? ⟨w.heap.size, 0, none⟩ = some (.slice (some ⟨pb, po, none⟩) cnt cap) := (hO.cell w.heap.size 0 (by omega) (by omega)).trans cN
        have hbr : rb < wr.heap.size := Nat.lt_of_lt_of_le hrb hO.size
        have hLo := hide (hO.below (Nat.le_refl rb) (Nat.le_of_lt hrb))
        have BW := hide (BN.out.trans (hO.below (show w.heap.size ≤ rb by omega) (by omega)))
        have XW := hide (XN.out.only hO (by omega))
        have zw : w.heap.size + 1 < wr.heap.size := XW.out.1
        clear hO
        rcases hst with ⟨p, st, l, s, a, cap', hT10, hown, k1, k2, k3, k4, k5, k6, k7⟩ | ⟨at_, sv, lk, c, x, st, hT10, hE⟩ | ⟨at_, sv, lk, a, nm, st, hT10, hE⟩
        · have T10 := hide hT10
          have OW := hide hown
          have HSo := hide (so_next k1 k4 k5 k6 HV.out hc2 HK.out k2)
          have K6 := hide k6
          have PW : Hid (RowIns wr pb po cnt f) := ⟨Nat.lt_of_lt_of_le PN.out.1 HO.out.size, fun i hi => (PN.out.2 i hi).below hLo.out hpb⟩
          have YW : Hid (RowReply wr b2 o2 j y) := ⟨Nat.lt_of_lt_of_le YN.out.1 HO.out.size, fun i hi => (YN.out.2 i hi).below hLo.out hyb⟩
          obtain ⟨chl, ⟨c0, f0⟩, ⟨c1, f1⟩, ⟨c2, f2⟩, ⟨c3, f3⟩, ⟨c4, f4⟩, ⟨c5, f5⟩, ⟨c6, f6⟩, ⟨c7, f7⟩, ⟨c8, f8⟩, c9, f9⟩ := hT10
          clear hown k2 k6
          go_wp2_with fail
          refine (l1Step_any pb po cnt cap p st l f a s cap' b2 o2 j cap2 W2.heap.size y _ PW.out YW.out OW.out k3 k1 k4 k5 K6.out HV.out).mono ?_
          rintro e w3 ⟨v, rfl, hso, hB3⟩
          have T3 := hide (T10.out.below hB3 hbr)
          have O3 := hide (HO.out.bel hB3)
          clear chl c0 f0 c1 f1 c2 f2 c3 f3 c4 f4 c5 f5 c6 f6 c7 f7 c8 f8 c9 f9
          clear hB3
          have hNx := HSo.out
          obtain ⟨g, rfl⟩ : ∃ g, gk = g + 1 := ⟨gk - 1, by omega⟩
          generalize sstepP f cnt y j p st l s = so at hso hNx
          rcases so with ⟨p', st', l', s'⟩ | ⟨c, x, k⟩ | ⟨a1, nm, k⟩
          · obtain ⟨a', c', rfl, ho'⟩ := hso
            obtain ⟨m1, m2, m3, m4, m5, m6, m7⟩ := hNx
            have OE := hide ho'
            have M3 := hide m3
            have M7 := hide m7
            have M1 := hide m1
            clear ho' m3 m7 m1
            obtain ⟨ehl, ⟨e0, u0⟩, ⟨e1, u1⟩, ⟨e2, u2⟩, ⟨e3, u3⟩, ⟨e4, u4⟩, ⟨e5, u5⟩, ⟨e6, u6⟩, ⟨e7, u7⟩, ⟨e8, u8⟩, e9, u9⟩ := T3.out
            go_wp2
            go_roundg g
            case measure => omega
            case rel => exact ⟨.inl ⟨p', st', l', s', a', c', T3.out.put _ _ _ _ _ _ _ _ _ _, own_mono (ten_low OE.out hbr _ _ _ _ _ _ _ _ _ _) HO.out.size, m2, M3.out, m4, m5, m6, M7.out, by have := M1.out; omega⟩, only_ten O3.out _ _ _ _ _ _ _ _ _ _⟩
          · obtain ⟨at_, a', n', c', lk, rfl⟩ := hso
            have hE : T = endT c x k := hNx
            have HE := hide hE
            clear hE hNx
            obtain ⟨ehl, ⟨e0, u0⟩, ⟨e1, u1⟩, ⟨e2, u2⟩, ⟨e3, u3⟩, ⟨e4, u4⟩, ⟨e5, u5⟩, ⟨e6, u6⟩, ⟨e7, u7⟩, ⟨e8, u8⟩, e9, u9⟩ := T3.out
            go_wp2
            go_roundg g
            case measure => omega
            case rel => exact ⟨.inr (.inl ⟨_, _, _, _, _, _, T3.out.put _ _ _ _ _ _ _ _ _ _, HE.out⟩), only_ten O3.out _ _ _ _ _ _ _ _ _ _⟩
          · obtain ⟨at_, a', n', c', lk, rfl⟩ := hso
            have hE : T = waitT a1 nm k := hNx
            have HE := hide hE
            clear hE hNx
            obtain ⟨ehl, ⟨e0, u0⟩, ⟨e1, u1⟩, ⟨e2, u2⟩, ⟨e3, u3⟩, ⟨e4, u4⟩, ⟨e5, u5⟩, ⟨e6, u6⟩, ⟨e7, u7⟩, ⟨e8, u8⟩, e9, u9⟩ := T3.out
            go_wp2
            go_roundg g
            case measure => omega
            case rel => exact ⟨.inr (.inr ⟨_, _, _, _, _, _, T3.out.put _ _ _ _ _ _ _ _ _ _, HE.out⟩), only_ten O3.out _ _ _ _ _ _ _ _ _ _⟩
        · have HE := hide hE
          obtain ⟨chl, ⟨c0, f0⟩, ⟨c1, f1⟩, ⟨c2, f2⟩, ⟨c3, f3⟩, ⟨c4, f4⟩, ⟨c5, f5⟩, ⟨c6, f6⟩, ⟨c7, f7⟩, ⟨c8, f8⟩, c9, f9⟩ := hT10
          obtain ⟨v0, q0, y0⟩ := XW.out.2 0 (by omega)
          obtain ⟨v1, q1, y1⟩ := XW.out.2 1 (by omega)
          obtain ⟨v2, q2, y2⟩ := XW.out.2 2 (by omega)
          obtain ⟨v3, q3, y3⟩ := XW.out.2 3 (by omega)
          obtain ⟨v4, q4, y4⟩ := XW.out.2 4 (by omega)
          obtain ⟨v5, q5, y5⟩ := XW.out.2 5 (by omega)
          clear hE
          go_wp2
          refine bodyPost_ret (v := T.v) (by rw [HE.out]; simp [results, Tryz.results39, go_sem, Turn.v, endT, q0, q1, q2, q3, q4, q5]) rfl ⟨rfl, six_set BW.out (by omega) _ _ _ _ _ _⟩
        · have HE := hide hE
          obtain ⟨chl, ⟨c0, f0⟩, ⟨c1, f1⟩, ⟨c2, f2⟩, ⟨c3, f3⟩, ⟨c4, f4⟩, ⟨c5, f5⟩, ⟨c6, f6⟩, ⟨c7, f7⟩, ⟨c8, f8⟩, c9, f9⟩ := hT10
          obtain ⟨v0, q0, y0⟩ := XW.out.2 0 (by omega)
          obtain ⟨v1, q1, y1⟩ := XW.out.2 1 (by omega)
          obtain ⟨v2, q2, y2⟩ := XW.out.2 2 (by omega)
          obtain ⟨v3, q3, y3⟩ := XW.out.2 3 (by omega)
          obtain ⟨v4, q4, y4⟩ := XW.out.2 4 (by omega)
          obtain ⟨v5, q5, y5⟩ := XW.out.2 5 (by omega)
          clear hE
          go_wp2
          refine bodyPost_ret (v := T.v) (by rw [HE.out]; simp [results, Tryz.results39, go_sem, Turn.v, waitT, q0, q1, q2, q3, q4, q5]) rfl ⟨rfl, six_set BW.out (by omega) _ _ _ _ _ _⟩

theorem specNext_any (pb po cnt cap b2 o2 n cap2 : Nat) (f : Nat → Ins) (y : Nat → Reply) (w : World) (hn : cnt ≤ 1048576) (hP : RowIns w pb po cnt f) (hY : RowReply w b2 o2 n y) (hs : ∀ i, i < cnt → (f i).s.size ≤ maxLen) :
    Calls Tryz.prog 39 #[.agg #[.slice (some ⟨pb, po, none⟩) cnt cap], .slice (some ⟨b2, o2, none⟩) n cap2] w fun e w' => e = .returned (nextA f cnt y n).v ∧ Below w.heap.size w w' := by
  unfold nextA
  by_cases h1 : valid f cnt = false
  · rw [if_pos h1]
    exact specNext_no1 pb po cnt cap n cap2 _ f w hn h1 hP hs
  · have h1' : valid f cnt = true := by simpa using h1
    rw [if_neg h1]
    by_cases h2 : 200 < n
    · rw [if_pos h2]
      exact specNext_no2 pb po cnt cap n cap2 _ f w hn h1' hP hs (by omega)
    · rw [if_neg h2]
      exact specNext_ok pb po cnt cap b2 o2 n cap2 f y w hn h1' (by omega) hP hY hs _ rfl

end Go.Proofs.YtfhdecheaeoopaaGreatDoor.Vp

/-
  What Follows answers.
-/
namespace Go.Proofs.YtfhdecheaeoopaaGreatDoor.Vp
open Go.RowKit

/-- what a link answers. -/
def ansR (f : Nat → Deed) (l : Link) : Reply :=
  if l.ask = true then
    (if (f l.at_.toNat).kind = 1 then ⟨true, 0, (f l.at_.toNat).text⟩ else if (f l.at_.toNat).kind = 3 then ⟨true, (f l.at_.toNat).code, (f l.at_.toNat).text⟩ else ⟨false, 0, ⟨#[]⟩⟩)
  else ⟨l.has, 0, ⟨#[]⟩⟩
def yOf (f : Nat → Deed) (p : Nat) (k : Nat) : Reply := ansR f ((f p).links k)
/-- where a target's run stands behind k replies. -/
def turnK (f : Nat → Deed) (p k : Nat) : Turn := nextP (f p).act (f p).actN (yOf f p) k 2001 0 0 0 []
/-- the run does not go on by link k. -/
def offK (f : Nat → Deed) (p k : Nat) : Bool := (turnK f p k).over || !((turnK f p k).name.toList == ((f p).links k).name.toList) || !((turnK f p k).ask == ((f p).links k).ask)
/-- the first link, from k on, by which it does not go on; j links are left. -/
def stopK (f : Nat → Deed) (p : Nat) : Nat → Nat → Nat
  | 0, k => k
  | j + 1, k => if offK f p k = true then k else stopK f p j (k + 1)
def stopAt (f : Nat → Deed) (p : Nat) : Nat := stopK f p (f p).linksN 0
def codeR (f : Nat → Deed) (p : Nat) : Int :=
  if stopAt f p < (f p).linksN then 4 else if (turnK f p (stopAt f p)).over = false then 4 else if (turnK f p (stopAt f p)).code = (f p).code ∧ (turnK f p (stopAt f p)).text.toList = (f p).text.toList then 0 else 5
def codeF (f : Nat → Deed) (p : Nat) : Int := if (f p).kind = 3 then codeR f p else 0
/-- the first deed with a code. -/
def folF (f : Nat → Deed) : Nat → Int × Int
  | 0 => (0, 0)
  | k + 1 => if (folF f k).1 = 0 then (if codeF f k = 0 then (0, 0) else (codeF f k, (k : Int))) else folF f k
def folC (f : Nat → Deed) (n : Nat) : Int × Int := if accOk f n = true then folF f n else (1, 0)

theorem stopK_le (f : Nat → Deed) (p : Nat) : ∀ j k, k ≤ stopK f p j k ∧ stopK f p j k ≤ k + j
  | 0, k => ⟨Nat.le_refl _, Nat.le_refl _⟩
  | j + 1, k => by
    rw [stopK]
    split
    · omega
    · have := stopK_le f p j (k + 1)
      omega
theorem stopK_go {f : Nat → Deed} {p j k : Nat} (h : offK f p k = false) : stopK f p (j + 1) k = stopK f p j (k + 1) := by
  rw [stopK, if_neg (by rw [h]; simp)]
theorem stopK_at {f : Nat → Deed} {p j k : Nat} (h : offK f p k = true) : stopK f p (j + 1) k = k := by
  rw [stopK, if_pos h]

theorem folF_first {f : Nat → Deed} {n k : Nat} (hk : k < n) (h0 : ∀ i, i < k → codeF f i = 0) (h : codeF f k ≠ 0) : folF f n = (codeF f k, (k : Int)) := by
  have hz : ∀ m, m ≤ k → folF f m = (0, 0) := by
    intro m hm
    induction m with
    | zero => rfl
    | succ m ih => rw [folF, ih (by omega), if_pos rfl, if_pos (h0 m (by omega))]
  induction n with
  | zero => omega
  | succ n ih =>
    rw [folF]
    by_cases e : k = n
    · subst e
      rw [hz k (Nat.le_refl _), if_pos rfl, if_neg h]
    · rw [ih (by omega), if_neg h]
theorem folF_none {f : Nat → Deed} {n : Nat} (h0 : ∀ i, i < n → codeF f i = 0) : folF f n = (0, 0) := by
  induction n with
  | zero => rfl
  | succ m ih => rw [folF, ih fun i hi => h0 i (by omega), if_pos rfl, if_pos (h0 m (by omega))]

/-- a valid account: each deed is one of the three kinds; a target's program is valid, its links are at most 200; what is not made has no code, what is none no text. -/
theorem accOk_deed {f : Nat → Deed} {n : Nat} (h : accOk f n = true) : ∀ p, p < n → (f p).text.size ≤ 2000 ∧ ((f p).kind = 1 ∧ (f p).code = 0 ∨ (f p).kind = 2 ∧ (f p).code = 0 ∧ (f p).text.size = 0 ∨ (f p).kind = 3 ∧ 0 ≤ (f p).code ∧ (f p).code ≤ 5 ∧ valid (f p).act (f p).actN = true ∧ (f p).linksN ≤ 200) := by
  intro p hp
  have h1 := firstNo_ok (accOk_n h).2.2 p hp
  simp only [deedOk, Bool.and_eq_true, kindOk, decide_eq_true_eq] at h1
  obtain ⟨⟨_, h0⟩, h2⟩ := h1
  refine ⟨h0, ?_⟩
  split at h2
  · rename_i hk
    simp only [unmadeOk, Bool.and_eq_true, decide_eq_true_eq] at h2
    exact .inl ⟨hk, h2.1.1⟩
  · split at h2
    · rename_i hk
      simp only [unmadeOk, Bool.and_eq_true, decide_eq_true_eq] at h2
      exact .inr (.inl ⟨hk, h2.1.1.1, h2.2⟩)
    · split at h2
      · rename_i hk
        simp only [targetOk, Bool.and_eq_true, decide_eq_true_eq] at h2
        exact .inr (.inr ⟨hk, h2.1.1.1.1, h2.1.1.1.2, h2.1.1.2, h2.1.2⟩)
      · simp at h2
/-- every reply is valid. -/
theorem ansR_ok {f : Nat → Deed} {n : Nat} (h : accOk f n = true) {l : Link} (hl : l.ask = true → l.at_.toNat < n) : replyOk (ansR f l) = true := by
  unfold ansR replyOk
  split
  · rename_i ha
    obtain ⟨h1, h2⟩ := accOk_deed h _ (hl ha)
    split
    · simp; omega
    · split
      · rename_i hk1 hk3
        rcases h2 with h2 | h2 | h2
        · omega
        · omega
        · simp; omega
      · exact decide_eq_true ⟨Nat.zero_le _, by decide, by decide⟩
  · exact decide_eq_true ⟨Nat.zero_le _, Int.le_refl _, show (0 : Int) ≤ 7 by decide⟩
theorem repliesTo_of {y : Nat → Reply} {k : Nat} (h : ∀ i, i < k → replyOk (y i) = true) : repliesTo y k = true := by
  induction k with
  | zero => rfl
  | succ k ih => rw [repliesTo, ih fun i hi => h i (by omega), h k (by omega)]; rfl
/-- what impl's replyOf gives is the same. -/
theorem ansR_impl {f : Nat → Deed} {n : Nat} (h : accOk f n = true) {l : Link} (ha : l.ask = true) (hl : l.at_.toNat < n) : ansR f l = ⟨decide (¬ (f l.at_.toNat).kind = 2), (f l.at_.toNat).code, (f l.at_.toNat).text⟩ := by
  obtain ⟨h1, h2⟩ := accOk_deed h _ hl
  unfold ansR
  rw [if_pos ha]
  rcases h2 with ⟨hk, hc⟩ | ⟨hk, hc, ht⟩ | ⟨hk, hc⟩
  · rw [if_pos hk, hk, hc]; rfl
  · rw [if_neg (by omega), if_neg (by omega), hk, hc]
    have : (f l.at_.toNat).text = ⟨#[]⟩ := ByteArray.ext (Array.eq_empty_of_size_eq_zero ht)
    rw [this]; rfl
  · rw [if_neg (by omega), if_pos hk, hk]; rfl

end Go.Proofs.YtfhdecheaeoopaaGreatDoor.Vp
