/-
  FnExactPutTarget: the law. Written by tools/pt_law.py.
-/
import Derived.Test.YthbigpnaepbhjaaDoorZHSpace
import Derived.Test.YthbigpnaepbhjaaDoorZPtImpl
import Derived.Test.YthbigpnaepbhjaaDoorZPtSpec
import Derived.Test.YthbigpnaepbhjaaDoorZPtMk
namespace Go.Proofs.YthbigpnaepbhjaaDoor.Vp
open Go.RowKit

theorem insT_mem {K : List Target} {x y : Target} {t : ByteArray} (h : y ∈ insT K x t) : y = x ∨ y ∈ K := by
  unfold insT at h
  obtain ⟨A, B, h1, h2⟩ := finG_split (nm1 (tgtF K)) (fun j => K.getD j dfT) x t K.length
  rw [range_getD] at h1
  rw [h2] at h
  rw [h1]
  simp only [List.mem_append, List.mem_cons] at h ⊢
  rcases h with h | h | h
  · exact .inr (.inl h)
  · exact .inl h
  · exact .inr (.inr h)
theorem insT_len {K : List Target} {x : Target} {t : ByteArray} : (insT K x t).length ≤ K.length + 1 := by
  unfold insT
  obtain ⟨A, B, h1, h2⟩ := finG_split (nm1 (tgtF K)) (fun j => K.getD j dfT) x t K.length
  rw [range_getD] at h1
  rw [h2]
  have := congrArg List.length h1
  simp at this ⊢
  omega
theorem putT_len {n0 : Nat} {f0 : Nat → Source} {n1 : Nat} {f1 : Nat → Target} {t : ByteArray} {m : Nat} {fp : Nat → Ins} : (putTS n0 f0 n1 f1 t m fp).length ≤ n0 ∧ (putTT n0 f0 n1 f1 t m fp).length ≤ 201 := by
  unfold putTS putTT
  by_cases h : roomC n0 f0 n1 f1 t (valid fp m) = 0
  · rw [if_pos h, if_pos h]
    have h1 := check_few (room_zero h).1
    have h2 := keepT_len f1 t n1
    have h3 := insT_len (K := keepT f1 t n1) (x := ⟨t, m, fp⟩) (t := t)
    exact ⟨keepS_len f0 t n0, by omega⟩
  · rw [if_neg h, if_neg h]
    simp
theorem putT_fits {n0 : Nat} {f0 : Nat → Source} {n1 : Nat} {f1 : Nat → Target} {t : ByteArray} {m : Nat} {fp : Nat → Ins} (hf : ∀ i, i < n1 → FitsTarget (f1 i)) (hm : m ≤ 1048576) : ∀ x ∈ putTT n0 f0 n1 f1 t m fp, FitsTarget x := by
  intro x hx
  unfold putTT at hx
  split at hx
  · rcases insT_mem hx with rfl | hx
    · exact hm
    · simp only [keepT, List.mem_filter, List.mem_map, List.mem_range] at hx
      obtain ⟨⟨i, hi, rfl⟩, _⟩ := hx
      exact hf i hi
  · simp at hx
theorem tgt_fits' {L : List Target} (h : ∀ x ∈ L, FitsTarget x) : ∀ i, i < L.length → FitsTarget (tgtF L i) := by
  intro i hi
  rw [tgtF_at hi]
  exact h _ (List.getElem_mem hi)
theorem row_fits' {L : List Target} {R : List TR} (h : ∀ x ∈ L, FitsTarget x) (hM : R.map (fun r : TR => r.1) = L) : ∀ r ∈ R, r.1.actN ≤ 1048576 := by
  intro r hr
  subst hM
  exact h r.1 (List.mem_map_of_mem hr)
theorem below_past {w w' : World} {o : Obj} (h : Below (w.alloc o).heap.size (w.alloc o) w') : Below w.heap.size w w' :=
  have D : Below w.heap.size w (w.alloc o) := (Below.refl _ _).alloc (Nat.le_refl _) o
  D.trans (h.mono D.size)
theorem size_past (w : World) (o : Obj) : w.heap.size ≤ (w.alloc o).heap.size := ((Below.refl w.heap.size w).alloc (Nat.le_refl _) o).size
theorem own_ins_cells {w : World} {g n : Nat} {f : Nat → Ins} (h : OwnIns w g n n f) : PCells w g n := ⟨h.lt, h.cells⟩

set_option maxRecDepth 100000 in
set_option maxHeartbeats 40000000 in
theorem law_putT (a0 : Option Addr) (n0 c0 : Nat) (f0 : Nat → Source) (a1 : Option Addr) (n1 c1 : Nat) (f1 : Nat → Target) (t : ByteArray) (ap : Option Addr) (m cp : Nat) (fp : Nat → Ins) (w : World) (hn0 : (n0 : Int) ≤ 9223372036854775807) (hn1 : (n1 : Int) ≤ 9223372036854775807) (hnm : (m : Int) ≤ 9223372036854775807)
    (hv0 : SlSource w a0 n0 f0) (hs0 : ∀ i, i < n0 → (f0 i).name.size ≤ maxLen ∧ (f0 i).text.size ≤ maxLen) (hv1 : SlTarget w a1 n1 f1) (hs1 : ∀ i, i < n1 → SizedTarget (f1 i)) (ht : t.size ≤ maxLen) (hvp : SlIns w ap m fp) (hsp : ∀ i, i < m → (fp i).s.size ≤ maxLen) (hT : Tab w) :
    Calls Tryd.prog 4 #[.agg #[.slice a0 n0 c0, .slice a1 n1 c1], .string t, .agg #[.slice ap m cp]] w fun e w' => e = .returned (.bool true) ∧ Below w.heap.size w w' := by
  have HV0 := hide hv0
  have HV1 := hide hv1
  have HVP := hide hvp
  have HS0 := hide hs0
  have HS1 := hide hs1
  have HSP := hide hsp
  have HT := hide hT
  have ht2 : (t.size : Int) ≤ 9223372036854775807 := by unfold maxLen at ht; omega
  clear hv0 hv1 hvp hs0 hs1 hsp hT ht
  obtain ⟨D, hD⟩ : ∃ D, D = roomC n0 f0 n1 f1 t (valid fp m) := ⟨_, rfl⟩
  obtain ⟨LS, hLS⟩ : ∃ LS, LS = putTS n0 f0 n1 f1 t m fp := ⟨_, rfl⟩
  obtain ⟨LT, hLT⟩ : ∃ LT, LT = putTT n0 f0 n1 f1 t m fp := ⟨_, rfl⟩
  have hlen := putT_len (n0 := n0) (f0 := f0) (n1 := n1) (f1 := f1) (t := t) (m := m) (fp := fp)
  rw [← hLS, ← hLT] at hlen
  obtain ⟨hl0, hl1⟩ := hlen
  have HD := hide hD
  have HLS := hide hLS
  have HLT := hide hLT
  clear hD hLS hLT
  have B0 := hide (((Below.refl w.heap.size w).alloc (Nat.le_refl w.heap.size) (.cells #[.slice a0 n0 c0, .slice a1 n1 c1] 25)).alloc (by simp) (.cells #[.slice ap m cp] 39))
  have hz1 : (w.alloc (.cells #[.slice a0 n0 c0, .slice a1 n1 c1] 25)).heap.size = w.heap.size + 1 := by simp
  have KA0 := hide ((two_box w (.slice a0 n0 c0) (.slice a1 n1 c1) 25).below ((Below.refl _ _).alloc (Nat.le_refl _) (.cells #[.slice ap m cp] 39)))
  have KP0 := hide (oneB_box (w.alloc (.cells #[.slice a0 n0 c0, .slice a1 n1 c1] 25)) (.slice ap m cp) 39)
  rw [hz1] at KP0
  clear hz1
  go_enter Tryd.func4, Tryd.ntmps4
  by_cases hbig : (1048576 : Int) < t.size
  · go_wp2
    go_ret
    exact ⟨rfl, B0.out⟩
  go_wp2_with fail
  generalize (w.alloc (.cells #[.slice a0 n0 c0, .slice a1 n1 c1] 25)).alloc (.cells #[.slice ap m cp] 39) = W at B0 KA0 KP0 ⊢
  refine (szSpace_any a0 n0 c0 f0 a1 n1 c1 f1 1048576 _ (by omega) (by omega) hn0 hn1 (HV0.out.below B0.out (Nat.le_refl _)) HS0.out (HV1.out.below B0.out (Nat.le_refl _)) HS1.out).mono ?_
  rintro e w1 ⟨r, rfl, hr1, hr2, hr3, hB⟩
  have KA1 := hide (KA0.out.below hB)
  have KP1 := hide (KP0.out.below hB)
  have B1 := hide (B0.out.trans (hB.mono B0.out.size))
  clear hB B0 KA0 KP0
  by_cases hr : r < 0
  · clear hr3
    go_wp2
    go_ret
    exact ⟨rfl, B1.out⟩
  obtain ⟨hm0, hm1, hF⟩ := hr3 (by omega)
  have HF := hide hF
  have hp0 : n0 ≤ 1048576 := by omega
  have hp1 : n1 ≤ 1048576 := by omega
  clear hr3 hF hm0 hm1
  have KPc0 := KP1.out.c0
  go_wp2_with fail
  refine (szProgram_any ap m cp fp r _ (by omega) (by omega) hnm (HVP.out.below B1.out (Nat.le_refl _)) HSP.out).mono ?_
  rintro e w2 ⟨r2, rfl, hq1, hq2, hq3, hB⟩
  have KA2 := hide (KA1.out.below hB)
  have KP2 := hide (KP1.out.below hB)
  have B2 := hide (B1.out.trans (hB.mono B1.out.size))
  clear hB B1 KA1 KP1 KPc0
  by_cases hr4 : r2 < 0
  · clear hq3
    go_wp2
    go_ret
    exact ⟨rfl, B2.out⟩
  have hm : m ≤ 1048576 := by have := hq3 (by omega); omega
  have FT : Hid (∀ x ∈ LT, FitsTarget x) := by show ∀ x ∈ LT, FitsTarget x; rw [HLT.out]; exact putT_fits HF.out hm
  have HSS : Hid (∀ i, i < n1 → ∀ j, j < (f1 i).actN → ((f1 i).act j).s.size ≤ maxLen) := fun i hi => (HS1.out i hi).2.2
  clear hq3 hq1 hq2 hr1 hr2 hr hbig
  go_upto_region 10 with fail
  go_cut [8, 9] (fun s8 s9 wx => ∃ (b6 : Nat) (pa : Option Addr) (pc : Nat) (pb : Option Addr) (pd : Nat) (Rp : List TR), s8 = .pointer (some ⟨b6, 0, none⟩) ∧ s9 = .int .i64 D ∧ Hid (RoomBox w2 wx b6 (.slice pa LS.length pc) (.slice pb LT.length pd) LS Rp) ∧ Hid (Rp.map (fun r : TR => r.1) = LT))
  case first =>
    have V0 := hide (HV0.out.below B2.out (Nat.le_refl _))
    have V1 := hide (HV1.out.below B2.out (Nat.le_refl _))
    have VP := hide (HVP.out.below B2.out (Nat.le_refl _))
    have TW := hide (HT.out.below B2.out HT.out.1)
    have KAc0 := KA2.out.c0
    have KAc1 := KA2.out.c1
    have KPc0 := KP2.out.c0
    have hA : w.heap.size < w2.heap.size := KA2.out.lt
    have hP : w.heap.size + 1 < w2.heap.size := KP2.out.lt
    have E0 := hide ((Below.refl w2.heap.size w2).drew)
    have E1 := hide (((Below.refl w2.heap.size w2).alloc (Nat.le_refl _) (.cells #[.slice none 0 0, .slice none 0 0] 30)).drew)
    have hW1 : w2.heap.size < (w2.alloc (.cells #[.slice none 0 0, .slice none 0 0] 30)).heap.size := by simp
    have BZ0 := hide (boxZ_new w2)
    go_region_with (first
      | (go_at_call 8; refine (toSpace_any a0 n0 c0 f0 a1 n1 c1 f1 _ hp0 hp1 ?_ ?_ HF.out).mono ?_; (first | exact V0.out.below E0.out (Nat.le_refl _) | exact V0.out.below E1.out (Nat.le_refl _)); (first | exact V1.out.below E0.out (Nat.le_refl _) | exact V1.out.below E1.out (Nat.le_refl _)); rintro e wa ⟨s0, s1, rfl, hS0, hg0, hS1, hg1, hBa⟩; have BA : Hid (Below w2.heap.size w2 wa) := (by first | exact E0.out.trans (hBa.mono (Nat.le_refl _)) | exact E1.out.trans (hBa.mono (size_past _ _))); have S0 := hide hS0.sl; have S1 := hide hS1.row.sl; have xP := (BA.out.cell (p := ⟨w.heap.size + 1, 0, none⟩) hP).trans KPc0; have hPa : w.heap.size + 1 < wa.heap.size := Nat.lt_of_lt_of_le hP BA.out.size; (try have BZa : Hid (BoxZ wa w2.heap.size) := BoxZ.below (w := w2.alloc (.cells #[.slice none 0 0, .slice none 0 0] 30)) BZ0.out ⟨hBa.os, hBa.tape, hBa.output, hBa.size, hBa.block⟩ hW1); (try have ya0 := BZa.out.c0); (try have ya1 := BZa.out.c1); (try have ya2 := BZa.out.z0); (try have ya3 := BZa.out.z1); (try have ya4 := BZa.out.lt); clear hS0 hS1 hg0 hg1 hBa)
      | (go_at_call 15; refine (toProgram_any ap m cp fp _ hm ?_).mono ?_; (first | exact VP.out.below BA.out (Nat.le_refl _) | exact VP.out.below (BA.out.alloc BA.out.size _) (Nat.le_refl _)); rintro e wb ⟨sp, rfl, hSP, hgp, hBb⟩; have BB : Hid (Below wa.heap.size wa wb) := (by first | exact hBb | exact below_past hBb); have h2b : w2.heap.size ≤ wb.heap.size := Nat.le_trans BA.out.size BB.out.size; have BW : Hid (Below w2.heap.size w2 wb) := BA.out.trans (BB.out.mono BA.out.size); have S0b := hide (S0.out.below BB.out (Nat.le_refl _)); have S1b := hide (S1.out.below BB.out (Nat.le_refl _)); have SPb := hide hSP.sl; have Tb := hide (TW.out.below BW.out TW.out.1); (try have BZb1 : Hid (BoxZ wb w2.heap.size) := BoxZ.below (w := wa) BZa.out BB.out BZa.out.lt); (try have BZb2 : Hid (BoxZ wb wa.heap.size) := BoxZ.below (w := wa.alloc (.cells #[.slice none 0 0, .slice none 0 0] 30)) (boxZ_new wa) hBb (boxZ_new wa).lt); (try have yb0 := BZb1.out.c0); (try have yb1 := BZb1.out.c1); (try have yb2 := BZb1.out.z0); (try have yb3 := BZb1.out.z1); (try have yb4 := BZb1.out.lt); (try have yc0 := BZb2.out.c0); (try have yc1 := BZb2.out.c1); (try have yc2 := BZb2.out.z0); (try have yc3 := BZb2.out.z1); (try have yc4 := BZb2.out.lt); clear hSP hgp hBb)
      | (go_at_call 14; refine (specPutT_any (some ⟨s0, 0, none⟩) n0 n0 f0 (some ⟨s1, 0, none⟩) n1 n1 f1 t (some ⟨sp, 0, none⟩) m m fp _ (by omega) (by omega) hm ?_ ?_ ?_ HF.out HSS.out HSP.out).mono ?_; (first | exact S0b.out | exact S0b.out.below ((Below.refl wb.heap.size wb).alloc (Nat.le_refl _) _) (Nat.le_refl _)); (first | exact S1b.out | exact S1b.out.below ((Below.refl wb.heap.size wb).alloc (Nat.le_refl _) _) (Nat.le_refl _)); (first | exact SPb.out | exact SPb.out.below ((Below.refl wb.heap.size wb).alloc (Nat.le_refl _) _) (Nat.le_refl _)); rintro e wd ⟨v0, v1, Rp, rfl, hO, hR, hM, hBc⟩; rw [← HLS.out] at hO; rw [← HLT.out] at hM; obtain ⟨pa, pc, rfl⟩ := own_slice hO; obtain ⟨pb, pd, hv1⟩ := own_slice hR.own; have eRp : Rp.length = LT.length := (by rw [← hM]; simp); rw [eRp] at hv1; subst hv1; have HM := hide hM; have BC : Hid (Below wb.heap.size wb wd) := (by first | exact hBc | exact below_past hBc); have BBB : Hid (Below w2.heap.size w2 wd) := BW.out.trans (BC.out.mono h2b); have O3 : Hid (wd.ownsRow w2.heap.size 57 2 (.slice pa LS.length pc) LS.length (LS.flatMap srcV)) := (by first | exact own_mono hO h2b | exact own_mono hO (Nat.le_trans h2b (size_past _ _))); have T3 : Hid (TRow wd w2.heap.size (.slice pb LT.length pd) Rp) := (by first | exact tRow_mono hR h2b | exact tRow_mono hR (Nat.le_trans h2b (size_past _ _))); (try have BZc1 : Hid (BoxZ wd w2.heap.size) := BoxZ.below (w := wb) BZb1.out BC.out BZb1.out.lt); (try have BZc2 : Hid (BoxZ wd wa.heap.size) := BoxZ.below (w := wb) BZb2.out BC.out BZb2.out.lt); (try have BZc3 : Hid (BoxZ wd wb.heap.size) := BoxZ.below (w := wb.alloc (.cells #[.slice none 0 0, .slice none 0 0] 30)) (boxZ_new wb) hBc (boxZ_new wb).lt); (try have yd0 := BZc1.out.c0); (try have yd1 := BZc1.out.c1); (try have yd2 := BZc1.out.z0); (try have yd3 := BZc1.out.z1); (try have yd4 := BZc1.out.lt); (try have ye0 := BZc2.out.c0); (try have ye1 := BZc2.out.c1); (try have ye2 := BZc2.out.z0); (try have ye3 := BZc2.out.z1); (try have ye4 := BZc2.out.lt); (try have yf0 := BZc3.out.c0); (try have yf1 := BZc3.out.c1); (try have yf2 := BZc3.out.z0); (try have yf3 := BZc3.out.z1); (try have yf4 := BZc3.out.lt); clear hO hR hM hBc eRp))
    all_goals
      go_wp2_with fail
      go_meet
      refine ⟨_, pa, pc, pb, pd, Rp, rfl, by rw [HD.out], ?_, HM.out⟩
      first
        | exact room_last O3.out T3.out (Nat.le_refl _) BBB.out
        | exact room_set O3.out T3.out (Nat.le_refl _) BBB.out (Nat.le_refl _) BZc1.out
        | exact room_set O3.out T3.out (Nat.le_refl _) BBB.out BA.out.size BZc2.out
        | exact room_set O3.out T3.out (Nat.le_refl _) BBB.out h2b BZc3.out
  case rest =>
  obtain ⟨bp, pa, pc, pb, pd, Rp, rfl, rfl, RB, MRp⟩ := hcut
  obtain ⟨w3, hwn⟩ : ∃ w3, w3 = wc := ⟨_, rfl⟩
  subst hwn
  have ERp : Hid (Rp.length = LT.length) := by show _ = _; rw [← MRp.out]; simp
  have HX := hide (held_new RB.out.src RB.out.tgt)
  have KX : Hid (Two w3 bp (.slice pa LS.length pc) (.slice pb LT.length pd)) := ⟨RB.out.two.lt, RB.out.two.c0, RB.out.two.c1⟩
  have hgep := RB.out.ge
  have hltp := RB.out.two.lt
  have KA3 := hide (KA2.out.below RB.out.below)
  have KP3 := hide (KP2.out.below RB.out.below)
  have B3 := hide (B2.out.trans (RB.out.below.mono B2.out.size))
  clear KA2 KP2 B2
  have HP3 := HX
  have K63 := KX
  clear HX KX RB
  have KAc0 := KA3.out.c0
  have KAc1 := KA3.out.c1
  go_upto_region 11 with fail
  go_wp2_with fail
  generalize w2.heap.size = bp at hgep HP3
  refine (toSpace_anyO a0 n0 c0 f0 a1 n1 c1 f1 _ hp0 hp1 (HV0.out.below B3.out (Nat.le_refl _)) (HV1.out.below B3.out (Nat.le_refl _)) HF.out).mono ?_
  rintro e w4 ⟨x0, x1, rfl, hX0, hx0, hX1, hx1, hB⟩
  have SCX := hide (scells_copy (lo := w3.heap.size) hX0 hX1 hx0 hx1 HF.out)
  have XSX := hide hX0.row.sl
  have XTX := hide hX1.row.sl
  have h34 : w3.heap.size ≤ w4.heap.size := hB.size
  have hwl : w.heap.size + 1 < w3.heap.size := KP3.out.lt
  clear hX0 hX1 hx0 hx1
  clear KAc0 KAc1
  have KA4 := hide (KA3.out.below hB)
  have KP4 := hide (KP3.out.below hB)
  have HP4 := hide (HP3.out.below hB)
  have K64 := hide (K63.out.below hB)
  have B4 := hide (B3.out.trans (hB.mono B3.out.size))
  clear KA3 KP3 HP3 K63 B3
  have SC4 := SCX
  have XS4 := XSX
  have XT4 := XTX
  clear hB SCX XSX XTX
  have DB := hide ((Below.refl w4.heap.size w4).alloc (Nat.le_refl _) (.cells #[.slice (some ⟨x0, 0, none⟩) n0 n0, .slice (some ⟨x1, 0, none⟩) n1 n1] 30))
  have KX := hide (two_box w4 (.slice (some ⟨x0, 0, none⟩) n0 n0) (.slice (some ⟨x1, 0, none⟩) n1 n1) 30)
  have KA5 := hide (KA4.out.below DB.out)
  have KP5 := hide (KP4.out.below DB.out)
  have HP5 := hide (HP4.out.below DB.out)
  have K65 := hide (K64.out.below DB.out)
  have SC5 := hide (SC4.out.below DB.out)
  have XS5 := hide (XS4.out.below DB.out (Nat.le_refl _))
  have XT5 := hide (XT4.out.below DB.out (Nat.le_refl _))
  have B5 := hide (B4.out.trans (DB.out.mono B4.out.size))
  clear KA4 KP4 HP4 K64 SC4 XS4 XT4 B4
  have K85 := KX
  clear KX DB
  have KPc0 := KP5.out.c0
  go_upto_region 12 with fail
  go_wp2_with fail
  generalize hwn : w4.alloc (.cells #[.slice (some ⟨x0, 0, none⟩) n0 n0, .slice (some ⟨x1, 0, none⟩) n1 n1] 30) = w5 at KA5 KP5 HP5 K65 SC5 XS5 XT5 K85 B5 KPc0 ⊢
  have hw5 : w5.heap.size = w4.heap.size + 1 := by rw [← hwn]; simp
  clear hwn
  refine (toProgram_anyO ap m cp fp _ hm (HVP.out.below B5.out (Nat.le_refl _))).mono ?_
  rintro e w6 ⟨gx, rfl, hX2, hx2, hB⟩
  have PCX := hide (own_ins_cells hX2)
  have XPX := hide hX2.row.sl
  have h56 : w5.heap.size ≤ w6.heap.size := hB.size
  have hgx : gx < w6.heap.size := hX2.lt
  clear hX2
  clear KPc0
  have KA6 := hide (KA5.out.below hB)
  have KP6 := hide (KP5.out.below hB)
  have HP6 := hide (HP5.out.below hB)
  have K66 := hide (K65.out.below hB)
  have SC6 := hide (SC5.out.below hB)
  have XS6 := hide (XS5.out.below hB (Nat.le_refl _))
  have XT6 := hide (XT5.out.below hB (Nat.le_refl _))
  have K86 := hide (K85.out.below hB)
  have B6 := hide (B5.out.trans (hB.mono B5.out.size))
  clear KA5 KP5 HP5 K65 SC5 XS5 XT5 K85 B5
  have PC6 := PCX
  have XP6 := XPX
  clear hB PCX XPX
  have DB := hide ((Below.refl w6.heap.size w6).alloc (Nat.le_refl _) (.cells #[.slice (some ⟨gx, 0, none⟩) m m] 44))
  have KX := hide (oneB_box w6 (.slice (some ⟨gx, 0, none⟩) m m) 44)
  have KA7 := hide (KA6.out.below DB.out)
  have KP7 := hide (KP6.out.below DB.out)
  have HP7 := hide (HP6.out.below DB.out)
  have K67 := hide (K66.out.below DB.out)
  have SC7 := hide (SC6.out.below DB.out)
  have XS7 := hide (XS6.out.below DB.out (Nat.le_refl _))
  have XT7 := hide (XT6.out.below DB.out (Nat.le_refl _))
  have K87 := hide (K86.out.below DB.out)
  have PC7 := hide (PC6.out.below DB.out)
  have XP7 := hide (XP6.out.below DB.out (Nat.le_refl _))
  have B7 := hide (B6.out.trans (DB.out.mono B6.out.size))
  clear KA6 KP6 HP6 K66 SC6 XS6 XT6 K86 PC6 XP6 B6
  have KQ7 := KX
  clear KX DB
  have K8c0 := K87.out.c0
  have K8c1 := K87.out.c1
  have KQc0 := KQ7.out.c0
  go_upto_region 13 with fail
  go_wp2_with fail
  generalize hwn : w6.alloc (.cells #[.slice (some ⟨gx, 0, none⟩) m m] 44) = w7 at KA7 KP7 HP7 K67 SC7 XS7 XT7 K87 PC7 XP7 KQ7 B7 K8c0 K8c1 KQc0 ⊢
  have hw7 : w7.heap.size = w6.heap.size + 1 := by rw [← hwn]; simp
  clear hwn
  refine (implPutT_any (some ⟨x0, 0, none⟩) n0 n0 f0 (some ⟨x1, 0, none⟩) n1 n1 f1 t (some ⟨gx, 0, none⟩) m m fp _ (by omega) (by omega) (by omega) XS7.out XT7.out XP7.out HF.out (HT.out.below B7.out HT.out.1)).mono ?_
  rintro e w8 ⟨v0, v1, Rg, rfl, hO, hR, hM, hB⟩
  rw [← HLS.out] at hO
  rw [← HLT.out] at hM
  rw [← HD.out]
  obtain ⟨ga, gc, rfl⟩ := own_slice hO
  obtain ⟨gb, gd, hv1⟩ := own_slice hR.own
  have eRg : Rg.length = LT.length := by rw [← hM]; simp
  rw [eRg] at hv1
  subst hv1
  have HGX := hide (held_new hO hR)
  have MRg := hide hM
  have ERg := hide eRg
  have h78 : w7.heap.size ≤ w8.heap.size := hB.size
  clear hO hR hM eRg
  clear K8c0 K8c1 KQc0
  have KA8 := hide (KA7.out.below hB)
  have KP8 := hide (KP7.out.below hB)
  have HP8 := hide (HP7.out.below hB)
  have K68 := hide (K67.out.below hB)
  have SC8 := hide (SC7.out.below hB)
  have XS8 := hide (XS7.out.below hB (Nat.le_refl _))
  have XT8 := hide (XT7.out.below hB (Nat.le_refl _))
  have K88 := hide (K87.out.below hB)
  have PC8 := hide (PC7.out.below hB)
  have XP8 := hide (XP7.out.below hB (Nat.le_refl _))
  have KQ8 := hide (KQ7.out.below hB)
  have B8 := hide (B7.out.trans (hB.mono B7.out.size))
  clear KA7 KP7 HP7 K67 SC7 XS7 XT7 K87 PC7 XP7 KQ7 B7
  have HG8 := HGX
  clear hB HGX
  have DB := hide ((Below.refl w8.heap.size w8).alloc (Nat.le_refl _) (.cells #[.slice ga LS.length gc, .slice gb LT.length gd] 30))
  have KX := hide (two_box w8 (.slice ga LS.length gc) (.slice gb LT.length gd) 30)
  have KA9 := hide (KA8.out.below DB.out)
  have KP9 := hide (KP8.out.below DB.out)
  have HP9 := hide (HP8.out.below DB.out)
  have K69 := hide (K68.out.below DB.out)
  have SC9 := hide (SC8.out.below DB.out)
  have XS9 := hide (XS8.out.below DB.out (Nat.le_refl _))
  have XT9 := hide (XT8.out.below DB.out (Nat.le_refl _))
  have K89 := hide (K88.out.below DB.out)
  have PC9 := hide (PC8.out.below DB.out)
  have XP9 := hide (XP8.out.below DB.out (Nat.le_refl _))
  have KQ9 := hide (KQ8.out.below DB.out)
  have HG9 := hide (HG8.out.below DB.out)
  have B9 := hide (B8.out.trans (DB.out.mono B8.out.size))
  clear KA8 KP8 HP8 K68 SC8 XS8 XT8 K88 PC8 XP8 KQ8 HG8 B8
  have K99 := KX
  clear KX DB
  have K9c0 := K99.out.c0
  have K9c1 := K99.out.c1
  have K6c0 := K69.out.c0
  have K6c1 := K69.out.c1
  go_upto_region 14 with fail
  go_wp2_with fail
  generalize hwn : w8.alloc (.cells #[.slice ga LS.length gc, .slice gb LT.length gd] 30) = w9 at KA9 KP9 HP9 K69 SC9 XS9 XT9 K89 PC9 XP9 KQ9 HG9 K99 B9 K9c0 K9c1 K6c0 K6c1 ⊢
  have hw9 : w9.heap.size = w8.heap.size + 1 := by rw [← hwn]; simp
  clear hwn
  refine (eqSpace_any ga pa gc pc LS.length (srcF LS) gb pb gd pd LT.length (tgtF LT) _ (by omega) (by omega) (HG9.out.src rfl) (HP9.out.src rfl) (HG9.out.tgt rfl MRg.out) (HP9.out.tgt rfl MRp.out) (tgt_fits' FT.out)).mono ?_
  rintro e w10 ⟨rfl, hB⟩
  clear K9c0 K9c1 K6c0 K6c1
  have KA10 := hide (KA9.out.below hB)
  have KP10 := hide (KP9.out.below hB)
  have HP10 := hide (HP9.out.below hB)
  have K610 := hide (K69.out.below hB)
  have SC10 := hide (SC9.out.below hB)
  have XS10 := hide (XS9.out.below hB (Nat.le_refl _))
  have XT10 := hide (XT9.out.below hB (Nat.le_refl _))
  have K810 := hide (K89.out.below hB)
  have PC10 := hide (PC9.out.below hB)
  have XP10 := hide (XP9.out.below hB (Nat.le_refl _))
  have KQ10 := hide (KQ9.out.below hB)
  have HG10 := hide (HG9.out.below hB)
  have K910 := hide (K99.out.below hB)
  have B10 := hide (B9.out.trans (hB.mono B9.out.size))
  clear KA9 KP9 HP9 K69 SC9 XS9 XT9 K89 PC9 XP9 KQ9 HG9 K99 B9
  clear hB
  go_upto_region 16 with fail
  go_cut [65] (fun s wx => s = .bool false ∧ Hid (Below w10.heap.size w10 wx))
  case first =>
    have KAc0 := KA10.out.c0
    have KAc1 := KA10.out.c1
    have K8c0 := K810.out.c0
    have K8c1 := K810.out.c1
    have k8l := K810.out.lt
    go_region_with (first
      | (go_at_call 8; refine (toSpace_any a0 n0 c0 f0 a1 n1 c1 f1 _ hp0 hp1 ?_ ?_ HF.out).mono ?_; (first | exact HV0.out.below B10.out (Nat.le_refl _) | exact HV0.out.below B10.out.drew (Nat.le_refl _)); (first | exact HV1.out.below B10.out (Nat.le_refl _) | exact HV1.out.below B10.out.drew (Nat.le_refl _)); rintro e wa ⟨i0, i1, rfl, hS0, hg0, hS1, hg1, hB7⟩; have T0 := hide hS0.sl; have T1 := hide hS1.row.sl; have B7 : Hid (Below w10.heap.size w10 wa) := ⟨hB7.os, hB7.tape, hB7.output, hB7.size, hB7.block⟩; have x70 := (B7.out.cell (p := ⟨w4.heap.size, 0, none⟩) k8l).trans K8c0; have x71 := (B7.out.cell (p := ⟨w4.heap.size, 1, none⟩) k8l).trans K8c1; have U0 := hide (XS10.out.below B7.out (Nat.le_refl _)); have U1 := hide (XT10.out.below B7.out (Nat.le_refl _)); clear hS0 hS1 hg0 hg1 hB7)
      | (go_at_call 10; refine (eqSpace_any (some ⟨x0, 0, none⟩) (some ⟨i0, 0, none⟩) n0 n0 n0 f0 (some ⟨x1, 0, none⟩) (some ⟨i1, 0, none⟩) n1 n1 n1 f1 _ hp0 hp1 U0.out T0.out U1.out T1.out HF.out).mono ?_; rintro e wb ⟨rfl, hB8⟩; have E9 := hide (B7.out.trans (hB8.mono B7.out.size)); clear hB8))
    all_goals
      go_wp2_with fail
      go_meet
      exact ⟨rfl, E9.out⟩
  case rest =>
  obtain ⟨rfl, E16⟩ := hcut
  obtain ⟨w11, hwn⟩ : ∃ w11, w11 = wc := ⟨_, rfl⟩
  subst hwn
  have KA11 := hide (KA10.out.below E16.out)
  have KP11 := hide (KP10.out.below E16.out)
  have HP11 := hide (HP10.out.below E16.out)
  have K611 := hide (K610.out.below E16.out)
  have SC11 := hide (SC10.out.below E16.out)
  have XS11 := hide (XS10.out.below E16.out (Nat.le_refl _))
  have XT11 := hide (XT10.out.below E16.out (Nat.le_refl _))
  have K811 := hide (K810.out.below E16.out)
  have PC11 := hide (PC10.out.below E16.out)
  have XP11 := hide (XP10.out.below E16.out (Nat.le_refl _))
  have KQ11 := hide (KQ10.out.below E16.out)
  have HG11 := hide (HG10.out.below E16.out)
  have K911 := hide (K910.out.below E16.out)
  have B11 := hide (B10.out.trans (E16.out.mono B10.out.size))
  clear KA10 KP10 HP10 K610 SC10 XS10 XT10 K810 PC10 XP10 KQ10 HG10 K910 B10
  clear E16
  go_upto_region 18 with fail
  go_cut [70] (fun s wx => s = .bool false ∧ Hid (Below w11.heap.size w11 wx))
  case first =>
    have KPc0 := KP11.out.c0
    have KQc0 := KQ11.out.c0
    have kql := KQ11.out.lt
    go_region_with (first
      | (go_at_call 15; refine (toProgram_any ap m cp fp _ hm ?_).mono ?_; (first | exact HVP.out.below B11.out (Nat.le_refl _) | exact HVP.out.below B11.out.drew (Nat.le_refl _)); rintro e wa ⟨i2, rfl, hSP, hgp, hB7⟩; have T0 := hide hSP.sl; have B7 : Hid (Below w11.heap.size w11 wa) := ⟨hB7.os, hB7.tape, hB7.output, hB7.size, hB7.block⟩; have x70 := (B7.out.cell (p := ⟨w6.heap.size, 0, none⟩) kql).trans KQc0; have U0 := hide (XP11.out.below B7.out (Nat.le_refl _)); clear hSP hgp hB7)
      | (go_at_call 17; refine (eqProgram_any (some ⟨gx, 0, none⟩) (some ⟨i2, 0, none⟩) m m m fp _ hm U0.out T0.out).mono ?_; rintro e wb ⟨rfl, hB8⟩; have E9 := hide (B7.out.trans (hB8.mono B7.out.size)); clear hB8))
    all_goals
      go_wp2_with fail
      go_meet
      exact ⟨rfl, E9.out⟩
  case rest =>
  obtain ⟨rfl, E18⟩ := hcut
  obtain ⟨w12, hwn⟩ : ∃ w12, w12 = wc := ⟨_, rfl⟩
  subst hwn
  have KA12 := hide (KA11.out.below E18.out)
  have KP12 := hide (KP11.out.below E18.out)
  have HP12 := hide (HP11.out.below E18.out)
  have K612 := hide (K611.out.below E18.out)
  have SC12 := hide (SC11.out.below E18.out)
  have XS12 := hide (XS11.out.below E18.out (Nat.le_refl _))
  have XT12 := hide (XT11.out.below E18.out (Nat.le_refl _))
  have K812 := hide (K811.out.below E18.out)
  have PC12 := hide (PC11.out.below E18.out)
  have XP12 := hide (XP11.out.below E18.out (Nat.le_refl _))
  have KQ12 := hide (KQ11.out.below E18.out)
  have HG12 := hide (HG11.out.below E18.out)
  have K912 := hide (K911.out.below E18.out)
  have B12 := hide (B11.out.trans (E18.out.mono B11.out.size))
  clear KA11 KP11 HP11 K611 SC11 XS11 XT11 K811 PC11 XP11 KQ11 HG11 K911 B11
  clear E18
  have K8c0 := K812.out.c0
  have K8c1 := K812.out.c1
  go_upto_region 21 with fail
  go_wp2_with fail
  refine (markSpace_any (fun k => w3.heap.size ≤ k ∧ k < w4.heap.size) (some ⟨x0, 0, none⟩) (some ⟨x1, 0, none⟩) n0 n0 n1 n1 _ (by omega) (by omega) SC12.out).mono ?_
  rintro e w13 ⟨rk, rfl, hMk, hW⟩
  obtain ⟨hk1, hk2⟩ := smarked_le hMk (by omega) (by omega)
  clear hMk
  clear K8c0 K8c1
  have KA13 := hide (KA12.out.touch hW (by omega))
  have KP13 := hide (KP12.out.touch hW (by omega))
  have HP13 := hide (HP12.out.touch hW (fun k hk => by omega))
  have K613 := hide (K612.out.touch hW (by omega))
  have PC13 := hide (PC12.out.touch hW (by omega))
  have KQ13 := hide (KQ12.out.touch hW (by omega))
  have HG13 := hide (HG12.out.touch hW (fun k hk => by omega))
  have K913 := hide (K912.out.touch hW (by omega))
  have B13 := hide (B12.out.trans (hW.toBelow (fun k hk => by omega) B12.out.size))
  clear KA12 KP12 HP12 K612 SC12 XS12 XT12 K812 PC12 XP12 KQ12 HG12 K912 B12 hW
  have KQc0 := KQ13.out.c0
  go_upto_region 22 with fail
  go_wp2_with fail
  refine (markProgram_any gx m m rk _ (by omega) hk1 hk2 PC13.out).mono ?_
  rintro e w14 ⟨rj, rfl, hW⟩
  clear hk1 hk2
  clear KQc0
  have KA14 := hide (KA13.out.touch hW (by omega))
  have KP14 := hide (KP13.out.touch hW (by omega))
  have HP14 := hide (HP13.out.touch hW (fun k hk => by omega))
  have K614 := hide (K613.out.touch hW (by omega))
  have HG14 := hide (HG13.out.touch hW (fun k hk => by omega))
  have K914 := hide (K913.out.touch hW (by omega))
  have B14 := hide (B13.out.trans (hW.toBelow (fun k hk => by omega) B13.out.size))
  clear KA13 KP13 HP13 K613 PC13 KQ13 HG13 K913 B13 hW
  have K9c0 := K914.out.c0
  have K9c1 := K914.out.c1
  have K6c0 := K614.out.c0
  have K6c1 := K614.out.c1
  go_upto_region 23 with fail
  go_wp2_with fail
  refine (eqSpace_any ga pa gc pc LS.length (srcF LS) gb pb gd pd LT.length (tgtF LT) _ (by omega) (by omega) (HG14.out.src rfl) (HP14.out.src rfl) (HG14.out.tgt rfl MRg.out) (HP14.out.tgt rfl MRp.out) (tgt_fits' FT.out)).mono ?_
  rintro e w15 ⟨rfl, hB⟩
  clear K9c0 K9c1 K6c0 K6c1
  have KA15 := hide (KA14.out.below hB)
  have KP15 := hide (KP14.out.below hB)
  have HP15 := hide (HP14.out.below hB)
  have K615 := hide (K614.out.below hB)
  have HG15 := hide (HG14.out.below hB)
  have K915 := hide (K914.out.below hB)
  have B15 := hide (B14.out.trans (hB.mono B14.out.size))
  clear KA14 KP14 HP14 K614 HG14 K914 B14
  clear hB
  have K9c0 := K915.out.c0
  have K9c1 := K915.out.c1
  go_upto_region 26 with fail
  go_wp2_with fail
  refine (markSpace_any (fun k => w7.heap.size ≤ k ∧ k < w8.heap.size) ga gb LS.length gc LT.length gd _ (by omega) (by omega) (HG15.out.cells rfl ERg.out.symm (row_fits' FT.out MRg.out))).mono ?_
  rintro e w16 ⟨rm, rfl, hMk, hW⟩
  have MKX := hide hMk
  clear hMk
  clear K9c0 K9c1
  have KA16 := hide (KA15.out.touch hW (by omega))
  have KP16 := hide (KP15.out.touch hW (by omega))
  have HP16 := hide (HP15.out.touch hW (fun k hk => by omega))
  have K616 := hide (K615.out.touch hW (by omega))
  have K916 := hide (K915.out.touch hW (by omega))
  have B16 := hide (B15.out.trans (hW.toBelow (fun k hk => by omega) B15.out.size))
  clear KA15 KP15 HP15 K615 HG15 K915 B15 hW
  have MK16 := MKX
  clear MKX
  have K9c0 := K916.out.c0
  have K9c1 := K916.out.c1
  go_upto_region 28 with fail
  go_wp2_with fail
  refine (heldSpace_any ga gb LS.length gc LT.length gd rm _ (by omega) (by omega) MK16.out).mono ?_
  rintro e w17 ⟨rfl, hB⟩
  clear K9c0 K9c1
  clear hgep h34 h56 h78 hw5 hw7 hw9
  have KA17 := hide (KA16.out.below hB)
  have KP17 := hide (KP16.out.below hB)
  have HP17 := hide (HP16.out.below hB)
  have K617 := hide (K616.out.below hB)
  have B17 := hide (B16.out.trans (hB.mono B16.out.size))
  clear KA16 KP16 HP16 K616 B16
  clear hB
  go_upto_region 33 with fail
  go_cut [17, 18] (fun s8 s9 wx => ∃ (b6 : Nat) (pa : Option Addr) (pc : Nat) (pb : Option Addr) (pd : Nat) (Rp : List TR), s8 = .pointer (some ⟨b6, 0, none⟩) ∧ s9 = .int .i64 D ∧ Hid (RoomBox w17 wx b6 (.slice pa LS.length pc) (.slice pb LT.length pd) LS Rp) ∧ Hid (Rp.map (fun r : TR => r.1) = LT))
  case first =>
    have V0 := hide (HV0.out.below B17.out (Nat.le_refl _))
    have V1 := hide (HV1.out.below B17.out (Nat.le_refl _))
    have VP := hide (HVP.out.below B17.out (Nat.le_refl _))
    have TW := hide (HT.out.below B17.out HT.out.1)
    have KAc0 := KA17.out.c0
    have KAc1 := KA17.out.c1
    have KPc0 := KP17.out.c0
    have hA : w.heap.size < w17.heap.size := KA17.out.lt
    have hP : w.heap.size + 1 < w17.heap.size := KP17.out.lt
    have E0 := hide ((Below.refl w17.heap.size w17).drew)
    have E1 := hide (((Below.refl w17.heap.size w17).alloc (Nat.le_refl _) (.cells #[.slice none 0 0, .slice none 0 0] 30)).drew)
    have hW1 : w17.heap.size < (w17.alloc (.cells #[.slice none 0 0, .slice none 0 0] 30)).heap.size := by simp
    have BZ0 := hide (boxZ_new w17)
    go_region_with (first
      | (go_at_call 8; refine (toSpace_any a0 n0 c0 f0 a1 n1 c1 f1 _ hp0 hp1 ?_ ?_ HF.out).mono ?_; (first | exact V0.out.below E0.out (Nat.le_refl _) | exact V0.out.below E1.out (Nat.le_refl _)); (first | exact V1.out.below E0.out (Nat.le_refl _) | exact V1.out.below E1.out (Nat.le_refl _)); rintro e wa ⟨s0, s1, rfl, hS0, hg0, hS1, hg1, hBa⟩; have BA : Hid (Below w17.heap.size w17 wa) := (by first | exact E0.out.trans (hBa.mono (Nat.le_refl _)) | exact E1.out.trans (hBa.mono (size_past _ _))); have S0 := hide hS0.sl; have S1 := hide hS1.row.sl; have xP := (BA.out.cell (p := ⟨w.heap.size + 1, 0, none⟩) hP).trans KPc0; have hPa : w.heap.size + 1 < wa.heap.size := Nat.lt_of_lt_of_le hP BA.out.size; (try have BZa : Hid (BoxZ wa w17.heap.size) := BoxZ.below (w := w17.alloc (.cells #[.slice none 0 0, .slice none 0 0] 30)) BZ0.out ⟨hBa.os, hBa.tape, hBa.output, hBa.size, hBa.block⟩ hW1); (try have ya0 := BZa.out.c0); (try have ya1 := BZa.out.c1); (try have ya2 := BZa.out.z0); (try have ya3 := BZa.out.z1); (try have ya4 := BZa.out.lt); clear hS0 hS1 hg0 hg1 hBa)
      | (go_at_call 15; refine (toProgram_any ap m cp fp _ hm ?_).mono ?_; (first | exact VP.out.below BA.out (Nat.le_refl _) | exact VP.out.below (BA.out.alloc BA.out.size _) (Nat.le_refl _)); rintro e wb ⟨sp, rfl, hSP, hgp, hBb⟩; have BB : Hid (Below wa.heap.size wa wb) := (by first | exact hBb | exact below_past hBb); have h2b : w17.heap.size ≤ wb.heap.size := Nat.le_trans BA.out.size BB.out.size; have BW : Hid (Below w17.heap.size w17 wb) := BA.out.trans (BB.out.mono BA.out.size); have S0b := hide (S0.out.below BB.out (Nat.le_refl _)); have S1b := hide (S1.out.below BB.out (Nat.le_refl _)); have SPb := hide hSP.sl; have Tb := hide (TW.out.below BW.out TW.out.1); (try have BZb1 : Hid (BoxZ wb w17.heap.size) := BoxZ.below (w := wa) BZa.out BB.out BZa.out.lt); (try have BZb2 : Hid (BoxZ wb wa.heap.size) := BoxZ.below (w := wa.alloc (.cells #[.slice none 0 0, .slice none 0 0] 30)) (boxZ_new wa) hBb (boxZ_new wa).lt); (try have yb0 := BZb1.out.c0); (try have yb1 := BZb1.out.c1); (try have yb2 := BZb1.out.z0); (try have yb3 := BZb1.out.z1); (try have yb4 := BZb1.out.lt); (try have yc0 := BZb2.out.c0); (try have yc1 := BZb2.out.c1); (try have yc2 := BZb2.out.z0); (try have yc3 := BZb2.out.z1); (try have yc4 := BZb2.out.lt); clear hSP hgp hBb)
      | (go_at_call 16; refine (implPutT_any (some ⟨s0, 0, none⟩) n0 n0 f0 (some ⟨s1, 0, none⟩) n1 n1 f1 t (some ⟨sp, 0, none⟩) m m fp _ (by omega) (by omega) (by omega) ?_ ?_ ?_ HF.out ?_).mono ?_; (first | exact S0b.out | exact S0b.out.below ((Below.refl wb.heap.size wb).alloc (Nat.le_refl _) _) (Nat.le_refl _)); (first | exact S1b.out | exact S1b.out.below ((Below.refl wb.heap.size wb).alloc (Nat.le_refl _) _) (Nat.le_refl _)); (first | exact SPb.out | exact SPb.out.below ((Below.refl wb.heap.size wb).alloc (Nat.le_refl _) _) (Nat.le_refl _)); (first | exact Tb.out | exact Tb.out.below ((Below.refl wb.heap.size wb).alloc (Nat.le_refl _) _) Tb.out.1); rintro e wd ⟨v0, v1, Rp, rfl, hO, hR, hM, hBc⟩; rw [← HLS.out] at hO; rw [← HLT.out] at hM; obtain ⟨pa, pc, rfl⟩ := own_slice hO; obtain ⟨pb, pd, hv1⟩ := own_slice hR.own; have eRp : Rp.length = LT.length := (by rw [← hM]; simp); rw [eRp] at hv1; subst hv1; have HM := hide hM; have BC : Hid (Below wb.heap.size wb wd) := (by first | exact hBc | exact below_past hBc); have BBB : Hid (Below w17.heap.size w17 wd) := BW.out.trans (BC.out.mono h2b); have O3 : Hid (wd.ownsRow w17.heap.size 57 2 (.slice pa LS.length pc) LS.length (LS.flatMap srcV)) := (by first | exact own_mono hO h2b | exact own_mono hO (Nat.le_trans h2b (size_past _ _))); have T3 : Hid (TRow wd w17.heap.size (.slice pb LT.length pd) Rp) := (by first | exact tRow_mono hR h2b | exact tRow_mono hR (Nat.le_trans h2b (size_past _ _))); (try have BZc1 : Hid (BoxZ wd w17.heap.size) := BoxZ.below (w := wb) BZb1.out BC.out BZb1.out.lt); (try have BZc2 : Hid (BoxZ wd wa.heap.size) := BoxZ.below (w := wb) BZb2.out BC.out BZb2.out.lt); (try have BZc3 : Hid (BoxZ wd wb.heap.size) := BoxZ.below (w := wb.alloc (.cells #[.slice none 0 0, .slice none 0 0] 30)) (boxZ_new wb) hBc (boxZ_new wb).lt); (try have yd0 := BZc1.out.c0); (try have yd1 := BZc1.out.c1); (try have yd2 := BZc1.out.z0); (try have yd3 := BZc1.out.z1); (try have yd4 := BZc1.out.lt); (try have ye0 := BZc2.out.c0); (try have ye1 := BZc2.out.c1); (try have ye2 := BZc2.out.z0); (try have ye3 := BZc2.out.z1); (try have ye4 := BZc2.out.lt); (try have yf0 := BZc3.out.c0); (try have yf1 := BZc3.out.c1); (try have yf2 := BZc3.out.z0); (try have yf3 := BZc3.out.z1); (try have yf4 := BZc3.out.lt); clear hO hR hM hBc eRp))
    all_goals
      go_wp2_with fail
      go_meet
      refine ⟨_, pa, pc, pb, pd, Rp, rfl, by rw [HD.out], ?_, HM.out⟩
      first
        | exact room_last O3.out T3.out (Nat.le_refl _) BBB.out
        | exact room_set O3.out T3.out (Nat.le_refl _) BBB.out (Nat.le_refl _) BZc1.out
        | exact room_set O3.out T3.out (Nat.le_refl _) BBB.out BA.out.size BZc2.out
        | exact room_set O3.out T3.out (Nat.le_refl _) BBB.out h2b BZc3.out
  case rest =>
  obtain ⟨bh, ha, hc, hb, hd, Rh, rfl, rfl, RB, MRh⟩ := hcut
  obtain ⟨w18, hwn⟩ : ∃ w18, w18 = wc := ⟨_, rfl⟩
  subst hwn
  have ERh : Hid (Rh.length = LT.length) := by show _ = _; rw [← MRh.out]; simp
  have HX := hide (held_new RB.out.src RB.out.tgt)
  have KX : Hid (Two w18 bh (.slice ha LS.length hc) (.slice hb LT.length hd)) := ⟨RB.out.two.lt, RB.out.two.c0, RB.out.two.c1⟩
  have hgeh := RB.out.ge
  have hlth := RB.out.two.lt
  have KA18 := hide (KA17.out.below RB.out.below)
  have KP18 := hide (KP17.out.below RB.out.below)
  have HP18 := hide (HP17.out.below RB.out.below)
  have K618 := hide (K617.out.below RB.out.below)
  have B18 := hide (B17.out.trans (RB.out.below.mono B17.out.size))
  clear KA17 KP17 HP17 K617 B17
  have HH18 := HX
  have K1418 := KX
  clear HX KX RB
  have K14c0 := K1418.out.c0
  have K14c1 := K1418.out.c1
  have K6c0 := K618.out.c0
  have K6c1 := K618.out.c1
  go_upto_region 34 with fail
  go_wp2_with fail
  refine (eqSpace_any ha pa hc pc LS.length (srcF LS) hb pb hd pd LT.length (tgtF LT) _ (by omega) (by omega) (HH18.out.src rfl) (HP18.out.src rfl) (HH18.out.tgt rfl MRh.out) (HP18.out.tgt rfl MRp.out) (tgt_fits' FT.out)).mono ?_
  rintro e w19 ⟨rfl, hB⟩
  clear K14c0 K14c1 K6c0 K6c1
  have BZ := hide (B18.out.trans (hB.mono B18.out.size))
  clear hB
  go_wp2
  go_ret
  exact ⟨rfl, BZ.out⟩

end Go.Proofs.YthbigpnaepbhjaaDoor.Vp
