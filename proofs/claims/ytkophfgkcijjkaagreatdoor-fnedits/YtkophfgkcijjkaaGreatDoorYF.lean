import Derived.Test.YtkophfgkcijjkaaGreatDoorYD
import Derived.Deep.DeepCutAuto
namespace Go.Proofs.YtkophfgkcijjkaaGreatDoor.Vp
open Go.RowKit
theorem room_zero {n0 : Nat} {f0 : Nat → Source} {n1 : Nat} {f1 : Nat → Target} {t : ByteArray} {rt : Bool} (h : roomC n0 f0 n1 f1 t rt = 0) : checkC n0 f0 n1 f1 = 0 ∧ rt = true := by
  unfold roomC at h
  split at h
  · omega
  · rename_i h1
    split at h
    · omega
    · rename_i h2
      refine ⟨Decidable.not_not.1 h1, ?_⟩
      cases rt
      · exact absurd (.inr rfl) h2
      · rfl
set_option maxRecDepth 100000 in
set_option maxHeartbeats 40000000 in
theorem implPutT_any (a0 : Option Addr) (n0 c0 : Nat) (f0 : Nat → Source) (a1 : Option Addr) (n1 c1 : Nat) (f1 : Nat → Target) (t : ByteArray) (ap : Option Addr) (m cp : Nat) (fp : Nat → Ins) (w : World) (hn0 : (n0 : Int) ≤ 1048576) (hn1 : (n1 : Int) ≤ 1048576) (hm : (m : Int) ≤ 1048576) (hv0 : SlSource w a0 n0 f0) (hv1 : SlTarget w a1 n1 f1) (hvp : SlIns w ap m fp) (hfit : ∀ i, i < n1 → FitsTarget (f1 i)) (hT : Tab w) :
    Calls Tryz.prog 16 #[.agg #[.slice a0 n0 c0, .slice a1 n1 c1], .string t, .agg #[.slice ap m cp]] w fun e w' => ∃ v0 v1 R, e = .returned (.tuple #[.agg #[v0, v1], .int .i64 (roomC n0 f0 n1 f1 t (valid fp m))]) ∧ w'.ownsRow w.heap.size 100 2 v0 (putTS n0 f0 n1 f1 t m fp).length ((putTS n0 f0 n1 f1 t m fp).flatMap srcV) ∧ TRow w' w.heap.size v1 R ∧ R.map (·.1) = putTT n0 f0 n1 f1 t m fp ∧ Below w.heap.size w w' := by
  have V0 := hide hv0
  have V1 := hide hv1
  have VP := hide hvp
  have HF := hide hfit
  have HT := hide hT
  clear hv0 hv1 hvp hfit hT
  obtain ⟨D, hD⟩ : ∃ D, D = roomC n0 f0 n1 f1 t (valid fp m) := ⟨_, rfl⟩
  obtain ⟨LS, hLS⟩ : ∃ LS, LS = putTS n0 f0 n1 f1 t m fp := ⟨_, rfl⟩
  obtain ⟨LT, hLT⟩ : ∃ LT, LT = putTT n0 f0 n1 f1 t m fp := ⟨_, rfl⟩
  rw [← hD, ← hLS, ← hLT]
  have HLS := hide (hLS.trans (by unfold putTS; rw [← hD]))
  have HLT := hide (hLT.trans (by unfold putTT; rw [← hD]))
  have HD := hide hD
  clear hD hLS hLT
  have A0 := hide ((((Below.refl w.heap.size w).alloc (Nat.le_refl _) (.cells #[.slice a0 n0 c0, .slice a1 n1 c1] 26)).alloc (by simp) (.cells #[.slice ap m cp] 31)).alloc (by simp; omega) (.cells #[.slice none 0 0, .slice none 0 0] 26))
  have X0 := hide (trio_new w (.slice a0 n0 c0) (.slice a1 n1 c1) (.slice ap m cp) 26 31)
  go_enter Tryz.func16, Tryz.ntmps16
  go_upto_region 1 with fail
  generalize ((w.alloc (.cells #[.slice a0 n0 c0, .slice a1 n1 c1] 26)).alloc (.cells #[.slice ap m cp] 31)).alloc (.cells #[.slice none 0 0, .slice none 0 0] 26) = W at A0 X0 ⊢
  have k0 := X0.out.a0
  have k1 := X0.out.a1
  have kp := X0.out.b0
  have hlt := X0.out.lt
  have hlt0 : w.heap.size < W.heap.size := by omega
  have hlt1 : w.heap.size + 1 < W.heap.size := by omega
  have hm' : m ≤ 1048576 := by omega
  have P0 := hide (VP.out.below A0.out (Nat.le_refl _))
  have TW := hide (HT.out.below A0.out HT.out.1)
  have S0 := hide (V0.out.below A0.out (Nat.le_refl _))
  have S1 := hide (V1.out.below A0.out (Nat.le_refl _))
  have E0 := hide ((Below.refl W.heap.size W).drew)
  have E1 := hide (((Below.refl W.heap.size W).alloc (Nat.le_refl _) (.cells #[.slice none 0 0, .slice none 0 0] 26)).drew)
  have hW1 : W.heap.size < (W.alloc (.cells #[.slice none 0 0, .slice none 0 0] 26)).heap.size := by simp
  have b0 : (W.alloc (.cells #[.slice none 0 0, .slice none 0 0] 26)).cell? ⟨W.heap.size, 0, none⟩ = some (.slice none 0 0) := by simp
  have b1 : (W.alloc (.cells #[.slice none 0 0, .slice none 0 0] 26)).cell? ⟨W.heap.size, 1, none⟩ = some (.slice none 0 0) := by simp
  have z0 : (W.alloc (.cells #[.slice none 0 0, .slice none 0 0] 26)).frozen? ⟨W.heap.size, 0, none⟩ = false := by simp
  have z1 : (W.alloc (.cells #[.slice none 0 0, .slice none 0 0] 26)).frozen? ⟨W.heap.size, 1, none⟩ = false := by simp
  have BZ0 := hide (boxZ_new W)
  have AW := hide b0
  have AX := hide b1
  have AY := hide z0
  have AZ := hide z1
  clear b0 b1 z0 z1
  go_cut [8, 9] (fun s8 s9 wx => ∃ (X : Nat) (sa : Option Addr) (sc : Nat) (ta : Option Addr) (tc : Nat) (R : List TR), s8 = .pointer (some ⟨X, 0, none⟩) ∧ s9 = .int .i64 D ∧ Hid (RoomBox W wx X (.slice sa (roomS n0 f0 n1 f1 t (valid fp m)).length sc) (.slice ta R.length tc) (roomS n0 f0 n1 f1 t (valid fp m)) R) ∧ Hid (R.map (·.1) = roomT n0 f0 n1 f1 t (valid fp m)))
  case first =>
    go_region_with (first
      | (go_at_call 74; refine (implValid_sl ap m cp fp _ hm' ?_ ?_).mono ?_; (first | exact P0.out.below E0.out (Nat.le_refl _) | exact P0.out.below E1.out (Nat.le_refl _)); (first | exact TW.out.below E0.out TW.out.1 | exact TW.out.below E1.out TW.out.1); rintro e w1 ⟨rfl, hB1⟩; have B1 : Hid (Below W.heap.size W w1) := (by first | exact E0.out.trans (hB1.mono (by simp)) | exact E1.out.trans (hB1.mono (by simp))); have q0 : w.heap.size < w1.heap.size := Nat.lt_of_lt_of_le hlt0 B1.out.size; have x0 := (B1.out.cell (p := ⟨w.heap.size, 0, none⟩) (by simp; omega)).trans k0; have x1 := (B1.out.cell (p := ⟨w.heap.size, 1, none⟩) (by simp; omega)).trans k1; (try have y0 := (hB1.cell (p := ⟨W.heap.size, 0, none⟩) hW1).trans AW.out); (try have y1 := (hB1.cell (p := ⟨W.heap.size, 1, none⟩) hW1).trans AX.out); (try have u0 := (hB1.frozen (p := ⟨W.heap.size, 0, none⟩) hW1).trans AY.out); (try have u1 := (hB1.frozen (p := ⟨W.heap.size, 1, none⟩) hW1).trans AZ.out); (try have hW2 : W.heap.size < w1.heap.size := Nat.lt_of_lt_of_le hW1 hB1.size); (try have BZ1 : Hid (BoxZ w1 W.heap.size) := BoxZ.below (w := W.alloc (.cells #[.slice none 0 0, .slice none 0 0] 26)) BZ0.out ⟨hB1.os, hB1.tape, hB1.output, hB1.size, hB1.block⟩ hW1); clear hB1)
      | (go_at_call 57; refine (roomFor_any a0 n0 c0 f0 a1 n1 c1 f1 t (valid fp m) _ hn0 hn1 ?_ ?_ HF.out ?_).mono ?_; (first | exact S0.out.below B1.out (Nat.le_refl _) | exact S0.out.below (B1.out.alloc B1.out.size _) (Nat.le_refl _)); (first | exact S1.out.below B1.out (Nat.le_refl _) | exact S1.out.below (B1.out.alloc B1.out.size _) (Nat.le_refl _)); (first | exact TW.out.below B1.out TW.out.1 | exact TW.out.below (B1.out.alloc B1.out.size _) TW.out.1); rintro e w2 ⟨v0, v1, R, rfl, hO, hR, hM, hB2⟩; obtain ⟨sa, sc, rfl⟩ := own_slice hO; obtain ⟨ta, tc, rfl⟩ := own_slice hR.own; have HM := hide hM; have BB : Hid (Below W.heap.size W w2) := (by first | exact B1.out.trans (hB2.mono B1.out.size) | exact (B1.out.alloc B1.out.size _).trans (hB2.mono (B1.out.alloc B1.out.size (.cells #[.slice none 0 0, .slice none 0 0] 26)).size)); have O3 : Hid (w2.ownsRow W.heap.size 100 2 (.slice sa (roomS n0 f0 n1 f1 t (valid fp m)).length sc) (roomS n0 f0 n1 f1 t (valid fp m)).length ((roomS n0 f0 n1 f1 t (valid fp m)).flatMap srcV)) := (by first | exact own_mono hO B1.out.size | exact own_mono hO (B1.out.alloc B1.out.size (.cells #[.slice none 0 0, .slice none 0 0] 26)).size); have T3 : Hid (TRow w2 W.heap.size (.slice ta R.length tc) R) := (by first | exact tRow_mono hR B1.out.size | exact tRow_mono hR (B1.out.alloc B1.out.size (.cells #[.slice none 0 0, .slice none 0 0] 26)).size); (try have m0 : w2.cell? ⟨w1.heap.size, 0, none⟩ = some (.slice none 0 0) := (hB2.cell (p := ⟨w1.heap.size, 0, none⟩) (by simp)).trans (by simp)); (try have m1 : w2.cell? ⟨w1.heap.size, 1, none⟩ = some (.slice none 0 0) := (hB2.cell (p := ⟨w1.heap.size, 1, none⟩) (by simp)).trans (by simp)); (try have m2 : w2.frozen? ⟨w1.heap.size, 0, none⟩ = false := (hB2.frozen (p := ⟨w1.heap.size, 0, none⟩) (by simp)).trans (by simp)); (try have m3 : w2.frozen? ⟨w1.heap.size, 1, none⟩ = false := (hB2.frozen (p := ⟨w1.heap.size, 1, none⟩) (by simp)).trans (by simp)); (try have j0 := (hB2.cell (p := ⟨W.heap.size, 0, none⟩) hW2).trans y0); (try have j1 := (hB2.cell (p := ⟨W.heap.size, 1, none⟩) hW2).trans y1); (try have l0 := (hB2.frozen (p := ⟨W.heap.size, 0, none⟩) hW2).trans u0); (try have l1 := (hB2.frozen (p := ⟨W.heap.size, 1, none⟩) hW2).trans u1); (try have BZJ : Hid (BoxZ w2 W.heap.size) := BoxZ.below (w := w1) BZ1.out hB2 hW2); (try have BZM : Hid (BoxZ w2 w1.heap.size) := BoxZ.below (w := w1.alloc (.cells #[.slice none 0 0, .slice none 0 0] 26)) (boxZ_new w1) hB2 (by simp)); clear hO hR hM hB2))
    all_goals
      go_wp2_with fail
      go_meet
      refine ⟨_, sa, sc, ta, tc, R, rfl, by rw [HD.out], ?_, HM.out⟩
      first
        | exact room_last O3.out T3.out (Nat.le_refl _) BB.out
        | exact room_set O3.out T3.out (Nat.le_refl _) BB.out (Nat.le_refl _) BZJ.out
        | exact room_set O3.out T3.out (Nat.le_refl _) BB.out B1.out.size BZM.out
  case rest =>
  obtain ⟨X, sa, sc, ta, tc, R, rfl, rfl, RB, HM⟩ := hcut
  clear AW AX AY AZ BZ0 E0 E1 hW1 S0 S1 TW P0 V0 V1 HF k0 k1 kp
  have XC := hide (X0.out.below RB.out.below X0.out.lt)
  have BC := hide (A0.out.trans (RB.out.below.mono A0.out.size))
  by_cases hc : D = 0
  case neg =>
    have hls := HLS.out
    rw [if_neg hc] at hls
    have hlt := HLT.out
    rw [if_neg hc] at hlt
    subst hls hlt
    have hc' : (D == 0) = false := by simpa using hc
    obtain ⟨r0, q0⟩ := XC.out.r0
    obtain ⟨r1, q1⟩ := XC.out.r1
    clear RB HM
    go_wp2
    exact bodyPost_ret (v := .tuple #[.agg #[.slice none 0 0, .slice none 0 0], .int .i64 D]) (by simp [results, Tryz.results16, go_sem, r0, r1]) rfl ⟨_, _, [], rfl, World.ownsRow_nil _ _ _ _, tRow_nil _ _, rfl, (BC.out.setCell (by simp; omega) _).setCell (by simp; omega) _⟩
  subst hc
  have hz := check_zero (room_zero HD.out.symm).1
  have hfew := check_few (room_zero HD.out.symm).1
  have hv := (room_zero HD.out.symm).2
  have hls := HLS.out
  rw [if_pos rfl] at hls
  have hlt := HLT.out
  rw [if_pos rfl] at hlt
  have eS : roomS n0 f0 n1 f1 t (valid fp m) = LS := by unfold roomS; rw [if_pos HD.out.symm, hls]
  have eT : roomT n0 f0 n1 f1 t (valid fp m) = keepT f1 t n1 := by unfold roomT; rw [if_pos HD.out.symm]
  have hM := HM.out
  rw [eT] at hM
  have RB1 : Hid (RoomBox W wc X (.slice sa LS.length sc) (.slice ta R.length tc) LS R) := by show RoomBox _ _ _ _ _ _ _; rw [← eS]; exact RB.out
  have eL : R.length = (keepT f1 t n1).length := by rw [← hM]; simp
  have hl1 := keepT_len f1 t n1
  have HA := hide (keepT_asc t hz.2.1)
  have HN := hide (keepT_not (f := f1) (n := n1) (t := t))
  have hm1 : 1 ≤ m := by
    unfold valid at hv
    have := (of_decide_eq_true (Bool.and_eq_true_iff.1 hv).2).1
    omega
  obtain ⟨pb, po, rfl, hpr⟩ := VP.out.resolve_left (by omega)
  obtain ⟨K, hK⟩ : ∃ K, K = keepT f1 t n1 := ⟨_, rfl⟩
  rw [← hK] at hM HA HN hlt eL hl1
  have HK := hide hM
  have HLT2 := hide hlt
  have HPR := hide hpr
  have EL := hide eL
  have hlr : (R.length : Int) ≤ 1048576 := by omega
  clear HLS HLT HD hls hlt eS eT RB HM hz hfew hv eL hl1 hK hM VP hpr
  have c8 := RB1.out.two.c0
  have c9 := RB1.out.two.c1
  have SX : Hid (SlTarget wc ta R.length (tgtF K)) := by show SlTarget _ _ _ _; rw [← HK.out]; exact trow_tgt RB1.out.tgt
  have AS : Hid (ascTo (nm1 (tgtF K)) R.length = true) := by show _ = true; rw [EL.out]; exact HA.out
  go_upto_region 4 with fail
  go_wp2_with fail
  refine (findTarget_any sa LS.length sc ta R.length tc (tgtF K) t _ hlr SX.out AS.out).mono ?_
  rintro e w3 ⟨i, rfl, hi, hp1, hp2, hB⟩
  have HI : Hid (∀ g c : Nat, (R.take i ++ ((⟨t, m, fp⟩, g, c) : TR) :: R.drop i).map (fun r : TR => r.1) = LT) := fun g c => (insT_at HK.out hi hp1 hp2 HN.out).trans HLT2.out.symm
  have RB3 := hide (RB1.out.on hB)
  have XC3 := hide (XC.out.below hB (by have := XC.out.lt; omega))
  have BC3 := hide (BC.out.trans (hB.mono BC.out.size))
  clear hp1 hp2 hB RB1 XC BC c8 c9 SX AS HA HN HK HLT2 EL
  go_upto_region 5 with fail
  go_cut [] (fun wx => ∃ g c g' c' : Nat, Hid (RoomBox W wx X (.slice sa LS.length sc) (.slice (some ⟨g', 0, none⟩) (R.length + 1) c') LS (R.take i ++ (⟨t, m, fp⟩, g, c) :: R.drop i)))
  case first =>
    have x1 := RB3.out.two.c1
    have y1 := RB3.out.two.z1
    have hX3 : X < w3.heap.size := RB3.out.two.lt
    have kp3 := XC3.out.b0
    have hP3 : w.heap.size + 1 < w3.heap.size := by have := XC3.out.lt; omega
    have HPR3 := hide (HPR.out.below BC3.out (Nat.le_refl _))
    have HPR4 := hide (HPR.out.below BC3.out.drew (Nat.le_refl _))
    have hW3 : W.heap.size ≤ w3.heap.size := RB3.out.below.size
    have H1 : Hid (∀ u ∈ R.flatMap tgtV, u.oneCell' = true) := by
      intro u hu
      simp only [List.mem_flatMap, tgtV] at hu
      obtain ⟨a, _, ha⟩ := hu
      simp at ha
      rcases ha with rfl | rfl <;> rfl
    go_region_with (first
      | (go_at_call 78; refine (copyProgram_row pb po m cp fp _ hm ?_).mono ?_; (first | exact HPR4.out | exact HPR3.out); rintro e wC ⟨g, c, rfl, hO, hB⟩; have BX : Hid (Below w3.heap.size w3 wC) := ⟨hB.os, hB.tape, hB.output, hB.size, hB.block⟩; have OC : Hid (wC.ownsRow w3.heap.size 176 3 (.slice (some ⟨g, 0, none⟩) m c) m (insL fp m)) := hO; have xC := (BX.out.cell (p := ⟨X, 1, none⟩) hX3).trans x1; have yC := (BX.out.frozen (p := ⟨X, 1, none⟩) hX3).trans y1; have hXC : X < wC.heap.size := Nat.lt_of_lt_of_le hX3 BX.out.size; have D4 := hide (BX.out.alloc BX.out.size (.cells #[.string t, .slice (some ⟨g, 0, none⟩) m c] 104)); have T4 := hide (RB3.out.tgt.below D4.out (Nat.le_refl _)); have HX := hide (heap_alloc_new wC (.cells #[.string t, .slice (some ⟨g, 0, none⟩) m c] 104)); have NE : Hid ((Value.slice ta R.length tc).ownBlock ≠ some wC.heap.size) := (fun e => Nat.lt_irrefl _ (Nat.lt_of_lt_of_le (RB3.out.tgt.own.lt _ e).2 BX.out.size)); have LE := hide (Nat.le_trans hW3 D4.out.size); clear hB hO)
      | (go_at_call 77; refine (insertTarget_own W.heap.size (.slice ta R.length tc) R.length i (R.flatMap tgtV) wC.heap.size (.string t) (.slice (some ⟨g, 0, none⟩) m c) rfl rfl _ hlr hi ?_ H1.out ?_ NE.out ?_).mono ?_; (exact T4.out.own); (exact HX.out); (exact LE.out); rintro e wI ⟨v', rfl, hO5, hg5⟩; obtain ⟨g', c', rfl⟩ := own_some hO5 (Nat.succ_pos _); have RBI := hide (room_ins RB3.out hi BX.out OC.out hO5 hg5); have hs := room_same RB3.out D4.out hg5; have f9 := (World.cell?_of_block (a := ⟨X, 1, none⟩) hs).trans x1; have g9 := (World.frozen?_of_block (a := ⟨X, 1, none⟩) hs).trans y1; clear hO5 hg5 hs))
    all_goals
      go_wp2_with fail
      go_meet
      exact ⟨g, c, g', c', RBI.out⟩
  case rest =>
  obtain ⟨g, c, g', c', RB5⟩ := hcut
  have XC5 := hide (X0.out.below RB5.out.below X0.out.lt)
  have BC5 := hide (A0.out.trans (RB5.out.below.mono A0.out.size))
  have c8 := RB5.out.two.c0
  have c9 := RB5.out.two.c1
  obtain ⟨r0, q0⟩ := XC5.out.r0
  obtain ⟨r1, q1⟩ := XC5.out.r1
  clear RB3 XC3 BC3 X0 A0 HPR HT
  have O6 := hide (own_mono (own_set (own_set RB5.out.src (R := w.heap.size + 2) (j := 0) (by omega) (.slice sa LS.length sc)) (R := w.heap.size + 2) (j := 1) (by omega) (.slice (some ⟨g', 0, none⟩) (R.length + 1) c')) (base' := w.heap.size) (by omega))
  have T6 := hide (tRow_mono ((RB5.out.tgt.set (X := w.heap.size + 2) (j := 0) (by omega) (.slice sa LS.length sc)).set (X := w.heap.size + 2) (j := 1) (by omega) (.slice (some ⟨g', 0, none⟩) (R.length + 1) c')) (base' := w.heap.size) (by omega))
  go_wp2
  exact bodyPost_ret (v := .tuple #[.agg #[.slice sa LS.length sc, .slice (some ⟨g', 0, none⟩) (R.length + 1) c'], .int .i64 0]) (by simp [results, Tryz.results16, go_sem, r0, r1]) rfl ⟨_, _, _, rfl, O6.out, T6.out, HI.out g c, (BC5.out.setCell (by simp; omega) _).setCell (by simp; omega) _⟩
end Go.Proofs.YtkophfgkcijjkaaGreatDoor.Vp
