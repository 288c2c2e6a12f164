import Derived.Test.YtkophfgkcijjkaaGreatDoorYK
import Derived.Test.YtkophfgkcijjkaaGreatDoorYL
import Derived.Deep.CutBlock
namespace Go.Proofs.YtkophfgkcijjkaaGreatDoor.Vp
open Go.RowKit Go.Proofs.YtkophfgkcijjkaaGreatDoor.Ca
set_option maxRecDepth 100000 in
set_option maxHeartbeats 8000000 in
theorem l2Spoil_any (R p b0 n0 c0 n1 c1 : Nat) (a0 : Option Addr) (f0 : Nat → Source) (a1 : Option Addr) (f1 : Nat → Target) (w : World) (hR : Rd w R p) (hp : p ≤ 19000) (hH : HSp b0 w a0 n0 f0 a1 n1 f1) (hg : ∀ i, i < n1 → 1 ≤ (f1 i).actN ∧ (f1 i).actN ≤ 200) (hm0 : n0 ≤ 100) (hm1 : n1 ≤ 100) :
    Calls Tryz.prog 125 #[.pointer (some ⟨R, 0, none⟩), .agg #[.slice a0 n0 c0, .slice a1 n1 c1]] w fun e w' => DH w R (p + 1100) e w' := by
  have HR := hide hR
  have hlow := hR.lt
  obtain ⟨hs, ht⟩ := hH.sl w (Agr.refl _ _)
  have HF := hide hH.fit
  have HG := hide hg
  have HS := hide hs
  have HT := hide ht
  clear hs ht hH hg hR
  obtain ⟨i0', hi, hy0, hy1, hy2⟩ := info_parts infoSource
  obtain ⟨i1', hj, hz0, hz1, hz2⟩ := info_parts infoTarget
  have A0 := hide (((Below.refl w.heap.size w).alloc (Nat.le_refl _) (.cells #[.slice a0 n0 c0, .slice a1 n1 c1] 26)).alloc (by simp) (.cells #[.slice none 0 0, .slice none 0 0] 26))
  have hzA : ((w.alloc (.cells #[.slice a0 n0 c0, .slice a1 n1 c1] 26)).alloc (.cells #[.slice none 0 0, .slice none 0 0] 26)).heap.size = w.heap.size + 2 := by simp
  have KR : Hid (((w.alloc (.cells #[.slice a0 n0 c0, .slice a1 n1 c1] 26)).alloc (.cells #[.slice none 0 0, .slice none 0 0] 26)).heap[w.heap.size + 1]? = some (.cells #[.slice none 0 0, .slice none 0 0] 26 (0, 0))) := by
    have h2 := heap_alloc_new (w.alloc (.cells #[.slice a0 n0 c0, .slice a1 n1 c1] 26)) (.cells #[.slice none 0 0, .slice none 0 0] 26)
    rw [show (w.alloc (.cells #[.slice a0 n0 c0, .slice a1 n1 c1] 26)).heap.size = w.heap.size + 1 by simp] at h2
    exact h2
  go_enter Tryz.func125, Tryz.ntmps125
  go_wp2_with fail
  generalize (w.alloc (.cells #[.slice a0 n0 c0, .slice a1 n1 c1] 26)).alloc (.cells #[.slice none 0 0, .slice none 0 0] 26) = W at A0 hzA KR ⊢
  refine (l2Without_any a0 n0 c0 f0 a1 n1 c1 f1 ⟨#[]⟩ W (by omega) (by omega) (HS.out.below A0.out (Nat.le_refl _)) (HT.out.below A0.out (Nat.le_refl _)) (fun i hi => by have := (HF.out i hi).1; unfold FitsTarget; omega)).mono ?_
  rintro e w1 ⟨v0, v1, RT', rfl, ho1, ht1, hM, hB1⟩
  obtain ⟨a2, c2, rfl⟩ := own_slice ho1
  obtain ⟨a5, c5, rfl⟩ := own_slice ht1.own
  have G1 := hide (gx_keep hM HF.out)
  have N1 := hide (gn_keep hM HG.out)
  have hl1 := keepT_lenR hM
  have hl0 := keepS_len f0 ⟨#[]⟩ n0
  clear hM HS HT HF HG
  generalize keepS f0 ⟨#[]⟩ n0 = LS at ho1 hl0 ⊢
  have hsz := hB1.size
  have X1 := hide (spx_new (rr := w.heap.size + 1) (base := w.heap.size + 2) ((hB1.block _ (by omega)).trans KR.out) (by omega) (by omega) (by omega) ho1 ht1)
  have B1 := hide ((A0.out.trans (hB1.mono (by omega))).alloc (by omega) (.cells #[.slice a2 LS.length c2, .slice a5 RT'.length c5] 26))
  clear ho1 ht1 hB1 A0 KR
  have R1 := hide (HR.out.low B1.out (by omega))
  have O1 : Hid (Only R w (w1.alloc (.cells #[.slice a2 LS.length c2, .slice a5 RT'.length c5] 26))) := Only.of_below B1.out
  go_wp2_with fail
  generalize w1.alloc (.cells #[.slice a2 LS.length c2, .slice a5 RT'.length c5] 26) = W2 at X1 B1 R1 O1 ⊢
  refine (pick_any R p 8 _ R1.out (by omega) (by omega) (by omega)).mono ?_
  rintro e w2 ⟨z, rfl, hz0', hz1', hR2, hO2⟩
  have X2 := hide (X1.out.only hO2 (by omega))
  have R2 := hide hR2
  have O2 := hide (O1.out.trans hO2)
  clear hR2 hO2 X1 R1 O1 B1 hzA HR
  obtain ⟨kc0, kc1⟩ := X2.out.cells
  obtain ⟨kf0, kf1⟩ := X2.out.open
  have hxl := X2.out.lt
  go_upto_block 0 with fail
  go_cut [6, 7] (fun _ _ wx => ∃ (b0 : Option Addr) (m0 k0 : Nat) (g0 : Nat → Source) (b1 : Option Addr) (m1 k1 : Nat) (g1 : Nat → Target) (q' : Nat), q' ≤ p + 1100 ∧ Hid (wx.heap[w1.heap.size]? = some (.cells #[.slice b0 m0 k0, .slice b1 m1 k1] 26 (0, 0))) ∧ Hid (wx.heap[w.heap.size + 1]? = some (.cells #[.slice none 0 0, .slice none 0 0] 26 (0, 0))) ∧ Hid (HSp (w.heap.size + 2) wx b0 m0 g0 b1 m1 g1) ∧ Hid (Rd wx R q') ∧ Hid (Only R w wx))
  case first =>
    have hcz : z = 0 ∨ z = 1 ∨ z = 2 ∨ z = 3 ∨ z = 4 ∨ z = 5 ∨ z = 6 ∨ z = 7 := by omega
    rcases hcz with rfl | rfl | rfl | rfl | rfl | rfl | rfl | rfl
    · go_wp2_with fail
      have hxi2 := X2.out.hi
      have SB : Hid (∀ V : World, V.heap[w1.heap.size]? = some (.cells #[.slice a2 LS.length c2, .slice a5 RT'.length c5] 26 (0, 0)) → V.heap[w1.heap.size]? = some (.cells #[.slice a2 LS.length c2, .slice a5 RT'.length c5] 26 (0, 0)) ∧ V.cell? ⟨w1.heap.size, 0, none⟩ = some (.slice a2 LS.length c2)) := fun V h => ⟨h, by simp [World.cell?, h]⟩
      refine wp_region_N (fun V => V.heap[w1.heap.size]? = some (.cells #[.slice a2 LS.length c2, .slice a5 RT'.length c5] 26 (0, 0)) ∧ V.cell? ⟨w1.heap.size, 0, none⟩ = some (.slice a2 LS.length c2)) 11 (by as_aux_lemma => kernel_rfl) ?_
      have HS := hide (SB.out w2.drew X2.out.box)
      iterate 2
        refine anyN_nx 0 (v := ?_) rfl rfl (by as_aux_lemma => kernel_rfl) (fun _ _ _ h => h) rfl ?_ HS.out ?_
        rotate_left
        · (intro wz hSw; obtain ⟨s0, s1⟩ := hSw; go_simp)
          (try with_reducible rfl)
        (try simp only [Act.put, nzL])
      refine anyN_nx 3 (v := ?_) rfl rfl (by as_aux_lemma => kernel_rfl) (fun _ _ _ h => h) rfl ?_ HS.out ?_
      rotate_left
      · (intro wz hSw; obtain ⟨s0, s1⟩ := hSw; go_simp)
        (try with_reducible rfl)
      (try simp only [Act.put, nzL])
      refine anyN_two (i := 2) (j := 4) rfl rfl (by as_aux_lemma => kernel_rfl) (fun K hK => ?_) (fun K hK => ?_)
      · go_simp
        have BQ := hide (((Below.refl w2.heap.size w2).alloc (Nat.le_refl _) (.cells #[.string ⟨#[97]⟩, .string ⟨#[122, 122]⟩, .string ⟨#[]⟩, .string ⟨#[120, 32, 121]⟩, .string ⟨#[116, 48]⟩] 9)).drew)
        have XQ := hide (X2.out.below BQ.out (Nat.le_refl _))
        have RQ := hide (R2.out.below BQ.out (Nat.le_refl _))
        have OQ := hide (O2.out.then (BQ.out.mono (by omega)))
        have hl5 := heap_alloc_new w2 (.cells #[.string ⟨#[97]⟩, .string ⟨#[122, 122]⟩, .string ⟨#[]⟩, .string ⟨#[120, 32, 121]⟩, .string ⟨#[116, 48]⟩] 9)
        have HL5 : Hid ((w2.alloc (.cells #[.string ⟨#[97]⟩, .string ⟨#[122, 122]⟩, .string ⟨#[]⟩, .string ⟨#[120, 32, 121]⟩, .string ⟨#[116, 48]⟩] 9)).drew.heap[w2.heap.size]? = some (.cells #[.string ⟨#[97]⟩, .string ⟨#[122, 122]⟩, .string ⟨#[]⟩, .string ⟨#[120, 32, 121]⟩, .string ⟨#[116, 48]⟩] 9 (0, 0))) := hl5
        have hs5 : w2.heap.size < (w2.alloc (.cells #[.string ⟨#[97]⟩, .string ⟨#[122, 122]⟩, .string ⟨#[]⟩, .string ⟨#[120, 32, 121]⟩, .string ⟨#[116, 48]⟩] 9)).drew.heap.size := heap_in hl5
        clear hl5 HS
        refine hK.out _ _ (fun _ => SB.out _ XQ.out.box) ?_
        clear hK K
        (try simp only [Act.put, nzL])
        refine anyN_one (i := 4) rfl (by as_aux_lemma => kernel_rfl) (fun K hK => ?_)
        go_simp
        go_at_call 51
        refine (pick_any R _ 5 _ RQ.out (by omega) (by omega) (by omega)).mono ?_
        rintro e w3 ⟨z3, rfl, h30, h31, hR3, hO3⟩
        obtain ⟨m3, rfl⟩ := Int.eq_ofNat_of_zero_le h30
        have X3 := hide (XQ.out.only hO3 (by omega))
        have R3 := hide hR3
        have O3 := hide (OQ.out.trans hO3)
        obtain ⟨sx, hcx⟩ := lit5_at ((hO3.block w2.heap.size hs5 (by omega)).trans HL5.out) m3 (by omega)
        clear hR3 hO3 HL5 XQ RQ OQ
        refine hK.out _ _ (fun _ => SB.out w3 X3.out.box) ?_
        clear hK K SB
        (try simp only [Act.put, nzL])
        have hm5 : m3 < 5 := by omega
        have SQ : Hid (∀ V : World, (∀ j, j < w3.heap.size → some j ≠ (Value.slice a2 LS.length c2).ownBlock → V.heap[j]? = w3.heap[j]?) → V.heap[w1.heap.size]? = some (.cells #[.slice a2 LS.length c2, .slice a5 RT'.length c5] 26 (0, 0)) ∧ V.cell? ⟨w1.heap.size, 0, none⟩ = some (.slice a2 LS.length c2)) := fun V hV => by
          have h1 := (hV w1.heap.size X3.out.lt fun e => by
            obtain ⟨cur, hcur⟩ := own_typeD X3.out.src _ e.symm
            have h3 := X3.out.box.symm.trans hcur
            cases h3).trans X3.out.box
          exact ⟨h1, by simp [World.cell?, h1]⟩
        have HS := hide (SQ.out w3 (fun j hj _ => rfl))
        iterate 3
          refine anyN_on 5 rfl rfl (by as_aux_lemma => kernel_rfl) (fun K hK => ?_)
          go_simp
          refine hK.out _ _ (fun _ => HS.out) ?_
          clear hK K
          (try simp only [Act.put, nzL])
        have hxl3 := X3.out.lt
        have hxi3 := X3.out.hi
        refine anyN_one (i := 8) rfl (by as_aux_lemma => kernel_rfl) (fun K hK => ?_)
        go_simp
        have AB := hide ((Below.refl w3.heap.size w3).alloc (Nat.le_refl _) (.cells #[.string sx, .string ⟨#[]⟩] 100))
        have XA := hide (X3.out.below AB.out (Nat.le_refl _))
        have hz6 := AB.out.size
        refine hK.out _ _ (fun _ => SQ.out _ (fun j hj _ => AB.out.block j hj)) ?_
        clear hK K HS
        (try simp only [Act.put, nzL])
        refine anyN_one (i := 9) rfl (by as_aux_lemma => kernel_rfl) (fun K hK => ?_)
        refine step_append_own_at rfl (.tmp 28) (.tmp 35) 23 rfl (w.heap.size + 2) 100 i0' (.agg #[.string ⟨#[]⟩, .string ⟨#[]⟩]) 2 32 Tryz.underlying23 hi hy0 hy1 hy2 rfl (by decide) (.slice a2 LS.length c2) LS.length (LS.flatMap srcV) (by simp [Act.eval]) XA.out.src ⟨w3.heap.size, 0, none⟩ 1 1 (srcV ⟨sx, ⟨#[]⟩⟩) (by simp [Act.eval]) rfl (fun j u hu => two_new w3 _ _ _ j u hu) (by simp [srcV, Value.oneCell']) (by unfold maxLen; omega) (by omega) (by omega) ?_
        intro v' w7 hown hgrow _
        obtain ⟨a7, c7, rfl⟩ := own_slice hown
        have S7 := hide (SQ.out w7 (fun j hj hne => (hgrow.block j (Nat.lt_of_lt_of_le hj AB.out.size) hne).trans (AB.out.block j hj)))
        obtain ⟨c8, b8⟩ := XA.out.addS (x := ⟨sx, ⟨#[]⟩⟩) hown hgrow
        have X9 := hide c8
        have B9 := hide b8
        clear hown hgrow c8 b8
        refine hK.out _ _ (fun _ => S7.out) ?_
        clear hK K
        (try simp only [Act.put, nzL])
        refine anyN_one (i := 10) rfl (by as_aux_lemma => kernel_rfl) (fun K hK => ?_)
        go_simp
        refine hK.out _ _ (fun _ => S7.out) ?_
        clear hK K
        (try simp only [Act.put, nzL])
        obtain ⟨s7, t7⟩ := S7.out
        have f7 : w7.frozen? ⟨w1.heap.size, 0, none⟩ = false := by simp [World.frozen?, s7]
        have l7 := heap_in s7
        clear s7
        refine anyN_one (i := 11) rfl (by as_aux_lemma => kernel_rfl) (fun K hK => ?_)
        go_simp
        refine hK.out _ _ (fun h => absurd rfl h) ?_
        clear hK K
        (try simp only [Act.put, nzL])
        refine anyN_done (by as_aux_lemma => kernel_rfl) ?_ _
        have BB := hide ((AB.out.mono (show w.heap.size + 2 ≤ w3.heap.size by omega)).trans B9.out)
        have R9 := hide (R3.out.low BB.out (by omega))
        have O9 := hide (O3.out.then (BB.out.mono (by omega)))
        clear t7 f7 l7 hcx
        go_simp
        generalize w7.setCell ⟨w1.heap.size, 0, none⟩ (.slice a7 (LS.length + 1) c7) = W9 at X9 R9 O9 ⊢
        have HB := hide X9.out.box
        have HQ := hide X9.out.res
        have HE := hide (hsp_of X9.out.src (by simp) X9.out.tgt rfl (by rw [List.length_append]; exact (by omega : LS.length + 1 ≤ 300)) (by omega) G1.out)
        clear kc0 kc1 kf0 kf1
        go_wp2
        go_meet
        exact ⟨_, _, _, _, _, _, _, _, _, by omega, HB.out, HQ.out, HE.out, R9.out, O9.out⟩
      · skip
        go_simp
        go_at_call 51
        refine (pick_any R _ 5 _ (R2.out.below (Below.refl _ _).drew (Nat.le_refl _)) (by omega) (by omega) (by omega)).mono ?_
        rintro e w3 ⟨z3, rfl, h30, h31, hR3, hO3⟩
        obtain ⟨m3, rfl⟩ := Int.eq_ofNat_of_zero_le h30
        have OO : Hid (Only R w2 w3) := (Only.of_below (Below.refl _ _).drew).trans hO3
        have X3 := hide (X2.out.only OO.out (by omega))
        have R3 := hide hR3
        have O3 := hide (O2.out.trans OO.out)
        clear hR3 hO3 OO HS
        have HS := hide (SB.out w3 X3.out.box)
        refine hK.out _ _ (fun _ => HS.out) ?_
        clear hK K
        (try simp only [Act.put, nzL])
        have hxl4 := X3.out.lt
        refine anyN_one (i := 2) rfl (by as_aux_lemma => kernel_rfl) (fun K hK => ?_)
        go_simp
        have BQ := hide ((Below.refl w3.heap.size w3).alloc (Nat.le_refl _) (.cells #[.string ⟨#[97]⟩, .string ⟨#[122, 122]⟩, .string ⟨#[]⟩, .string ⟨#[120, 32, 121]⟩, .string ⟨#[116, 48]⟩] 9))
        have X4 := hide (X3.out.below BQ.out (Nat.le_refl _))
        have R4 := hide (R3.out.below BQ.out (Nat.le_refl _))
        have O4 := hide (O3.out.then (BQ.out.mono (by omega)))
        obtain ⟨sx, hcx⟩ := lit5_at (heap_alloc_new w3 (.cells #[.string ⟨#[97]⟩, .string ⟨#[122, 122]⟩, .string ⟨#[]⟩, .string ⟨#[120, 32, 121]⟩, .string ⟨#[116, 48]⟩] 9)) m3 (by omega)
        refine hK.out _ _ (fun _ => SB.out _ X4.out.box) ?_
        clear hK K SB BQ HS
        (try simp only [Act.put, nzL])
        generalize w3.alloc (.cells #[.string ⟨#[97]⟩, .string ⟨#[122, 122]⟩, .string ⟨#[]⟩, .string ⟨#[120, 32, 121]⟩, .string ⟨#[116, 48]⟩] 9) = WL at X4 R4 O4 hcx ⊢
        have hm5 : m3 < 5 := by omega
        have SQ : Hid (∀ V : World, (∀ j, j < WL.heap.size → some j ≠ (Value.slice a2 LS.length c2).ownBlock → V.heap[j]? = WL.heap[j]?) → V.heap[w1.heap.size]? = some (.cells #[.slice a2 LS.length c2, .slice a5 RT'.length c5] 26 (0, 0)) ∧ V.cell? ⟨w1.heap.size, 0, none⟩ = some (.slice a2 LS.length c2)) := fun V hV => by
          have h1 := (hV w1.heap.size X4.out.lt fun e => by
            obtain ⟨cur, hcur⟩ := own_typeD X4.out.src _ e.symm
            have h3 := X4.out.box.symm.trans hcur
            cases h3).trans X4.out.box
          exact ⟨h1, by simp [World.cell?, h1]⟩
        have HS := hide (SQ.out WL (fun j hj _ => rfl))
        iterate 3
          refine anyN_on 5 rfl rfl (by as_aux_lemma => kernel_rfl) (fun K hK => ?_)
          go_simp
          refine hK.out _ _ (fun _ => HS.out) ?_
          clear hK K
          (try simp only [Act.put, nzL])
        have hxl3 := X4.out.lt
        have hxi3 := X4.out.hi
        refine anyN_one (i := 8) rfl (by as_aux_lemma => kernel_rfl) (fun K hK => ?_)
        go_simp
        have AB := hide ((Below.refl WL.heap.size WL).alloc (Nat.le_refl _) (.cells #[.string sx, .string ⟨#[]⟩] 100))
        have XA := hide (X4.out.below AB.out (Nat.le_refl _))
        have hz6 := AB.out.size
        refine hK.out _ _ (fun _ => SQ.out _ (fun j hj _ => AB.out.block j hj)) ?_
        clear hK K HS
        (try simp only [Act.put, nzL])
        refine anyN_one (i := 9) rfl (by as_aux_lemma => kernel_rfl) (fun K hK => ?_)
        refine step_append_own_at rfl (.tmp 28) (.tmp 35) 23 rfl (w.heap.size + 2) 100 i0' (.agg #[.string ⟨#[]⟩, .string ⟨#[]⟩]) 2 32 Tryz.underlying23 hi hy0 hy1 hy2 rfl (by decide) (.slice a2 LS.length c2) LS.length (LS.flatMap srcV) (by simp [Act.eval]) XA.out.src ⟨WL.heap.size, 0, none⟩ 1 1 (srcV ⟨sx, ⟨#[]⟩⟩) (by simp [Act.eval]) rfl (fun j u hu => two_new WL _ _ _ j u hu) (by simp [srcV, Value.oneCell']) (by unfold maxLen; omega) (by omega) (by omega) ?_
        intro v' w7 hown hgrow _
        obtain ⟨a7, c7, rfl⟩ := own_slice hown
        have S7 := hide (SQ.out w7 (fun j hj hne => (hgrow.block j (Nat.lt_of_lt_of_le hj AB.out.size) hne).trans (AB.out.block j hj)))
        obtain ⟨c8, b8⟩ := XA.out.addS (x := ⟨sx, ⟨#[]⟩⟩) hown hgrow
        have X9 := hide c8
        have B9 := hide b8
        clear hown hgrow c8 b8
        refine hK.out _ _ (fun _ => S7.out) ?_
        clear hK K
        (try simp only [Act.put, nzL])
        refine anyN_one (i := 10) rfl (by as_aux_lemma => kernel_rfl) (fun K hK => ?_)
        go_simp
        refine hK.out _ _ (fun _ => S7.out) ?_
        clear hK K
        (try simp only [Act.put, nzL])
        obtain ⟨s7, t7⟩ := S7.out
        have f7 : w7.frozen? ⟨w1.heap.size, 0, none⟩ = false := by simp [World.frozen?, s7]
        have l7 := heap_in s7
        clear s7
        refine anyN_one (i := 11) rfl (by as_aux_lemma => kernel_rfl) (fun K hK => ?_)
        go_simp
        refine hK.out _ _ (fun h => absurd rfl h) ?_
        clear hK K
        (try simp only [Act.put, nzL])
        refine anyN_done (by as_aux_lemma => kernel_rfl) ?_ _
        have BB := hide ((AB.out.mono (show w.heap.size + 2 ≤ WL.heap.size by omega)).trans B9.out)
        have R9 := hide (R4.out.low BB.out (by omega))
        have O9 := hide (O4.out.then (BB.out.mono (by omega)))
        clear t7 f7 l7 hcx
        go_simp
        generalize w7.setCell ⟨w1.heap.size, 0, none⟩ (.slice a7 (LS.length + 1) c7) = W9 at X9 R9 O9 ⊢
        have HB := hide X9.out.box
        have HQ := hide X9.out.res
        have HE := hide (hsp_of X9.out.src (by simp) X9.out.tgt rfl (by rw [List.length_append]; exact (by omega : LS.length + 1 ≤ 300)) (by omega) G1.out)
        clear kc0 kc1 kf0 kf1
        go_wp2
        go_meet
        exact ⟨_, _, _, _, _, _, _, _, _, by omega, HB.out, HQ.out, HE.out, R9.out, O9.out⟩
    · by_cases hl : 1 < (RT'.length : Int)
      · obtain ⟨gt, rfl⟩ := own_some0 X2.out.tgt.own (by omega)
        obtain ⟨r0, r1, RR, rfl⟩ : ∃ r0 r1 RR, RT' = r0 :: r1 :: RR := (by
          match RT', hl with
          | [], h => simp at h
          | [_], h => simp at h
          | r0 :: r1 :: RR, _ => exact ⟨r0, r1, RR, rfl⟩)
        have hls : (r0 :: r1 :: RR).length ≤ 100 := by omega
        obtain ⟨ka, kaf⟩ := own_cell X2.out.tgt.own (j := 0) (u := .string r0.1.name) rfl
        obtain ⟨kb, kbf⟩ := own_cell X2.out.tgt.own (j := 1) (u := .slice (some ⟨r0.2.1, 0, none⟩) r0.1.actN r0.2.2) rfl
        obtain ⟨kc, kcf⟩ := own_cell X2.out.tgt.own (j := 2) (u := .string r1.1.name) rfl
        obtain ⟨kd, kdf⟩ := own_cell X2.out.tgt.own (j := 3) (u := .slice (some ⟨r1.2.1, 0, none⟩) r1.1.actN r1.2.2) rfl
        have hgt := (X2.out.tgt.own.lt gt rfl).2
        generalize hlen : (r0 :: r1 :: RR).length = nt at kc1 X2 hl hls hl1 ⊢
        have HL := hide hlen
        clear hlen
        have hp0 : 0 < nt := by omega
        have hp1 : 1 < nt := by omega
        have BA := hide ((Below.refl w2.heap.size w2).alloc (Nat.le_refl _) (.cells #[.string r0.1.name, .slice (some ⟨r0.2.1, 0, none⟩) r0.1.actN r0.2.2] 104))
        have XA := hide (X2.out.below BA.out (Nat.le_refl _))
        have RA := hide (R2.out.below BA.out (Nat.le_refl _))
        have hxi2 := X2.out.hi
        have OA := hide (O2.out.then (BA.out.mono (by omega)))
        have cc : ∀ j, (w2.alloc (.cells #[.string r0.1.name, .slice (some ⟨r0.2.1, 0, none⟩) r0.1.actN r0.2.2] 104)).cell? ⟨gt, j, none⟩ = w2.cell? ⟨gt, j, none⟩ := fun j => BA.out.cell (p := ⟨gt, j, none⟩) hgt
        have cf : ∀ j, (w2.alloc (.cells #[.string r0.1.name, .slice (some ⟨r0.2.1, 0, none⟩) r0.1.actN r0.2.2] 104)).frozen? ⟨gt, j, none⟩ = w2.frozen? ⟨gt, j, none⟩ := fun j => BA.out.frozen (p := ⟨gt, j, none⟩) hgt
        have KA := hide ((cc 0).trans ka)
        have KAF := hide ((cf 0).trans kaf)
        have KB := hide ((cc 1).trans kb)
        have KBF := hide ((cf 1).trans kbf)
        have KC := hide ((cc 2).trans kc)
        have KCF := hide ((cf 2).trans kcf)
        have KD := hide ((cc 3).trans kd)
        have KDF := hide ((cf 3).trans kdf)
        have KX : Hid ((w2.alloc (.cells #[.string r0.1.name, .slice (some ⟨r0.2.1, 0, none⟩) r0.1.actN r0.2.2] 104)).heap[w2.heap.size]? = some (.cells #[.string r0.1.name, .slice (some ⟨r0.2.1, 0, none⟩) r0.1.actN r0.2.2] 104 (0, 0))) := heap_alloc_new w2 _
        have hgx : gt ≠ w2.heap.size := by omega
        have hsA := BA.out.size
        clear cc cf
        go_wp2_with fail
        generalize w2.alloc (.cells #[.string r0.1.name, .slice (some ⟨r0.2.1, 0, none⟩) r0.1.actN r0.2.2] 104) = WA at XA RA OA KA KAF KB KBF KC KCF KD KDF KX hsA ⊢
        have kc1A := XA.out.cells.2
        clear ka kaf kb kbf kc kcf kd kdf BA kc0 kc1 kf0 kf1
        refine wp_region_N (fun V => V.cell? ⟨w1.heap.size, 1, none⟩ = some (.slice (some ⟨gt, 0, none⟩) nt c5) ∧ V.cell? ⟨gt, 2, none⟩ = some (.string r1.1.name) ∧ V.cell? ⟨gt, 3, none⟩ = some (.slice (some ⟨r1.2.1, 0, none⟩) r1.1.actN r1.2.2)) 7 (by as_aux_lemma => kernel_rfl) ?_
        have HS : Hid (WA.drew.cell? ⟨w1.heap.size, 1, none⟩ = some (.slice (some ⟨gt, 0, none⟩) nt c5) ∧ WA.drew.cell? ⟨gt, 2, none⟩ = some (.string r1.1.name) ∧ WA.drew.cell? ⟨gt, 3, none⟩ = some (.slice (some ⟨r1.2.1, 0, none⟩) r1.1.actN r1.2.2)) := ⟨kc1A, KC.out, KD.out⟩
        iterate 6
          refine anyN_nx 0 (v := ?_) rfl rfl (by as_aux_lemma => kernel_rfl) (fun _ _ _ h => h) rfl ?_ HS.out ?_
          rotate_left
          · (intro wz hSw; obtain ⟨s0, s1, s2⟩ := hSw; go_simp)
            (try with_reducible rfl)
          (try simp only [Act.put, nzL])
        refine anyN_one (i := 6) rfl (by as_aux_lemma => kernel_rfl) (fun K hK => ?_)
        go_simp
        refine hK.out _ _ (fun _ => HS.out) ?_
        clear hK K
        (try simp only [Act.put, nzL])
        have z0 := KAF.out
        have z1 := KBF.out
        have y0 := KA.out
        have y1 := KB.out
        have hgtA : gt < WA.heap.size := by omega
        refine anyN_one (i := 7) rfl (by as_aux_lemma => kernel_rfl) (fun K hK => ?_)
        go_simp
        refine hK.out _ _ (fun h => absurd rfl h) ?_
        clear hK K
        (try simp only [Act.put, nzL])
        refine anyN_done (by as_aux_lemma => kernel_rfl) ?_ _
        go_simp
        have SW := hide (((XA.out.sw HL.out.symm).set 0 (.string r1.1.name)).set 1 (.slice (some ⟨r1.2.1, 0, none⟩) r1.1.actN r1.2.2)).drew
        have hgb := (XA.out.tgt.own.lt gt rfl).1
        have BW := hide ((((Below.refl (w.heap.size + 2) WA).setCell (p := ⟨gt, 0, none⟩) hgb (.string r1.1.name)).setCell (p := ⟨gt, 1, none⟩) hgb (.slice (some ⟨r1.2.1, 0, none⟩) r1.1.actN r1.2.2)).drew)
        have kx : ((WA.setCell ⟨gt, 0, none⟩ (.string r1.1.name)).setCell ⟨gt, 1, none⟩ (.slice (some ⟨r1.2.1, 0, none⟩) r1.1.actN r1.2.2)).drew.heap[w2.heap.size]? = some (.cells #[.string r0.1.name, .slice (some ⟨r0.2.1, 0, none⟩) r0.1.actN r0.2.2] 104 (0, 0)) := ((Below.heap_setCell _ ⟨gt, 1, none⟩ _ w2.heap.size (fun e => hgx (Eq.symm e))).trans (Below.heap_setCell _ ⟨gt, 0, none⟩ _ w2.heap.size (fun e => hgx (Eq.symm e)))).trans KX.out
        clear HS z0 z1 y0 y1 KA KAF KB KBF KC KCF KD KDF KX kc1A
        generalize ((WA.setCell ⟨gt, 0, none⟩ (.string r1.1.name)).setCell ⟨gt, 1, none⟩ (.slice (some ⟨r1.2.1, 0, none⟩) r1.1.actN r1.2.2)).drew = WB at SW BW kx ⊢
        obtain ⟨kc, kcf⟩ := own_cell SW.out.own (j := 2) (u := .string r1.1.name) rfl
        obtain ⟨kd, kdf⟩ := own_cell SW.out.own (j := 3) (u := .slice (some ⟨r1.2.1, 0, none⟩) r1.1.actN r1.2.2) rfl
        have kbx := SW.out.box
        have kv : WB.cell? ⟨w1.heap.size, 1, none⟩ = some (.slice (some ⟨gt, 0, none⟩) nt c5) := by simp [World.cell?, kbx]
        have x0 : WB.cell? ⟨w2.heap.size, 0, none⟩ = some (.string r0.1.name) := by simp [World.cell?, kx]
        have x1 : WB.cell? ⟨w2.heap.size, 1, none⟩ = some (.slice (some ⟨r0.2.1, 0, none⟩) r0.1.actN r0.2.2) := by simp [World.cell?, kx]
        have hgtB : gt < WB.heap.size := (SW.out.own.lt gt rfl).2
        have kv0 : WB.cell? ⟨w1.heap.size, 0, none⟩ = some (.slice a2 LS.length c2) := by simp [World.cell?, kbx]
        have l1 := heap_in kbx
        have hg1 : ¬ gt = w1.heap.size := by
          intro e
          obtain ⟨cur, hcur⟩ := own_typeD SW.out.own gt rfl
          rw [e] at hcur
          have h3 := kbx.symm.trans hcur
          cases h3
        have hg1' : ¬ w1.heap.size = gt := fun e => hg1 e.symm
        have SWF := hide ((SW.out.set 2 (.string r0.1.name)).set 3 (.slice (some ⟨r0.2.1, 0, none⟩) r0.1.actN r0.2.2))
        have HE := hide (SWF.out.fin rfl (L := r1 :: r0 :: RR) (by rw [← upO_flat]; rfl) HL.out.symm (by omega) (by have := HL.out; simp only [List.length_cons] at this ⊢; omega) (by
          intro r hr
          simp only [List.mem_cons] at hr ⊢
          rcases hr with h | h | h
          · exact .inr (.inl h)
          · exact .inl h
          · exact .inr (.inr h)) G1.out)
        have BF := hide ((BW.out.setCell (p := ⟨gt, 2, none⟩) hgb (.string r0.1.name)).setCell (p := ⟨gt, 3, none⟩) hgb (.slice (some ⟨r0.2.1, 0, none⟩) r0.1.actN r0.2.2))
        have R9 := hide (RA.out.low BF.out (by omega))
        have O9 := hide (OA.out.then (BF.out.mono (show w.heap.size ≤ w.heap.size + 2 by omega)))
        have HB := hide SWF.out.box
        have HQ := hide SWF.out.res
        clear kbx kx SW SWF BF BW XA RA OA
        go_wp2
        go_meet
        exact ⟨_, _, _, _, _, _, _, _, _, by omega, HB.out, HQ.out, HE.out, R9.out, O9.out⟩
      · skip
        have HB := hide X2.out.box
        have HQ := hide X2.out.res
        have HE := hide (hsp_of X2.out.src rfl X2.out.tgt rfl (by omega) (by omega) G1.out)
        go_wp2
        go_meet
        exact ⟨_, _, _, _, _, _, _, _, _, by omega, HB.out, HQ.out, HE.out, R2.out, O2.out⟩
    · by_cases hl : 0 < (RT'.length : Int)
      · go_wp2_with fail
        obtain ⟨gt, rfl⟩ := own_some0 X2.out.tgt.own (by omega)
        obtain ⟨r0, RR, rfl⟩ : ∃ r0 RR, RT' = r0 :: RR := (by
          match RT', hl with
          | [], h => simp at h
          | r0 :: RR, _ => exact ⟨r0, RR, rfl⟩)
        have hls : (r0 :: RR).length ≤ 100 := by omega
        have kb := (own_cell X2.out.tgt.own (j := 1) (u := .slice (some ⟨r0.2.1, 0, none⟩) r0.1.actN r0.2.2) rfl).1
        have hgt := (X2.out.tgt.own.lt gt rfl).2
        have hgb := (X2.out.tgt.own.lt gt rfl).1
        have AC := hide (X2.out.tgt.act r0 (List.mem_cons_self ..))
        have hnn := N1.out r0 (List.mem_cons_self ..)
        have HSZ := hide (G1.out r0 (List.mem_cons_self ..)).2
        generalize hlen : (r0 :: RR).length = nt at kc1 X2 hl hls hl1 ⊢
        have HL := hide hlen
        clear hlen
        have hp0 : 0 < nt := by omega
        have hRb : R < w.heap.size + 2 := by omega
        refine wp_region_N (fun V => V.heap[w1.heap.size]? = some (.cells #[.slice a2 LS.length c2, .slice (some ⟨gt, 0, none⟩) nt c5] 26 (0, 0)) ∧ V.cell? ⟨w1.heap.size, 1, none⟩ = some (.slice (some ⟨gt, 0, none⟩) nt c5) ∧ V.cell? ⟨gt, 1, none⟩ = some (.slice (some ⟨r0.2.1, 0, none⟩) r0.1.actN r0.2.2)) 11 (by as_aux_lemma => kernel_rfl) ?_
        have HS : Hid (w2.drew.heap[w1.heap.size]? = some (.cells #[.slice a2 LS.length c2, .slice (some ⟨gt, 0, none⟩) nt c5] 26 (0, 0)) ∧ w2.drew.cell? ⟨w1.heap.size, 1, none⟩ = some (.slice (some ⟨gt, 0, none⟩) nt c5) ∧ w2.drew.cell? ⟨gt, 1, none⟩ = some (.slice (some ⟨r0.2.1, 0, none⟩) r0.1.actN r0.2.2)) := ⟨X2.out.box, kc1, kb⟩
        iterate 8
          refine anyN_nx 0 (v := ?_) rfl rfl (by as_aux_lemma => kernel_rfl) (fun _ _ _ h => h) rfl ?_ HS.out ?_
          rotate_left
          · (intro wz hSw; obtain ⟨s0, s1, s2⟩ := hSw; go_simp)
            (try with_reducible rfl)
          (try simp only [Act.put, nzL])
        refine anyN_one (i := 8) rfl (by as_aux_lemma => kernel_rfl) (fun K hK => ?_)
        go_simp
        go_at_call 131
        refine (l1Spoil_row R _ r0.2.1 r0.2.2 r0.1.actN r0.1.act _ (R2.out.below (Below.refl _ _).drew (Nat.le_refl _)) (by omega) (AC.out.1.below (Below.refl _ _).drew (Nat.le_refl _)) hnn HSZ.out).mono ?_
        rintro e w3 ⟨L3, g3, d3, rfl, hI3, _, hL3, hT3, q3, hq3, hR3, hO3⟩
        have OO : Hid (Only R w2 w3) := (Only.of_below (Below.refl _ _).drew).trans hO3
        have X3 := hide (X2.out.only OO.out (by omega))
        have R3 := hide hR3
        have O3 := hide (O2.out.trans OO.out)
        have kb3 : w3.cell? ⟨gt, 1, none⟩ = some (.slice (some ⟨r0.2.1, 0, none⟩) r0.1.actN r0.2.2) := (OO.out.cell gt 1 hgt (by omega)).trans kb
        have z3 : w3.frozen? ⟨gt, 1, none⟩ = false := by
          obtain ⟨cur, hc⟩ := X3.out.tgt.type gt rfl
          simp [World.frozen?, hc]
        have hgt3 := Nat.lt_of_lt_of_le hgt OO.out.size
        have SA := hide (X3.out.setA (n := L3.length) (g := g3) (c := d3) (f := insA L3) rfl HL.out.symm (own_ins (by have h := hI3; unfold IR at h; rw [i3L_fI] at h; exact h)).1 (own_type hI3) (by have : w2.heap.size ≤ g3 := hI3.lt.1; have := X2.out.lt; have := X2.out.hi; omega) (by omega) (fI_size5 hT3) (by omega) (by rw [HL.out]; omega) G1.out)
        clear hI3 hR3 hO3 OO HS
        have HS := hide (show w3.heap[w1.heap.size]? = some (.cells #[.slice a2 LS.length c2, .slice (some ⟨gt, 0, none⟩) nt c5] 26 (0, 0)) ∧ w3.cell? ⟨w1.heap.size, 1, none⟩ = some (.slice (some ⟨gt, 0, none⟩) nt c5) ∧ w3.cell? ⟨gt, 1, none⟩ = some (.slice (some ⟨r0.2.1, 0, none⟩) r0.1.actN r0.2.2) from ⟨X3.out.box, X3.out.cells.2, kb3⟩)
        refine hK.out _ _ (fun _ => HS.out) ?_
        clear hK K
        (try simp only [Act.put, nzL])
        iterate 2
          refine anyN_on 9 rfl rfl (by as_aux_lemma => kernel_rfl) (fun K hK => ?_)
          go_simp
          refine hK.out _ _ (fun _ => HS.out) ?_
          clear hK K
          (try simp only [Act.put, nzL])
        refine anyN_one (i := 11) rfl (by as_aux_lemma => kernel_rfl) (fun K hK => ?_)
        go_simp
        refine hK.out _ _ (fun h => absurd rfl h) ?_
        clear hK K
        (try simp only [Act.put, nzL])
        refine anyN_done (by as_aux_lemma => kernel_rfl) ?_ _
        obtain ⟨hE, hB, hQ, hBl⟩ := SA.out
        have HE := hide hE
        have HB := hide hB
        have HQ := hide hQ
        have R4 := hide (R3.out.low hBl (by omega))
        have O4 := hide (O3.out.then (hBl.mono (show w.heap.size ≤ w.heap.size + 2 by omega)))
        clear hE hB hQ hBl SA HS kb kb3 z3 hl kc0 kc1 kf0 kf1
        go_simp
        generalize w3.setCell ⟨gt, 1, none⟩ (.slice (some ⟨g3, 0, none⟩) L3.length d3) = W4 at HE HB HQ R4 O4 ⊢
        go_wp2
        go_meet
        exact ⟨_, _, _, _, _, _, _, _, _, by omega, HB.out, HQ.out, HE.out, R4.out, O4.out⟩
      · skip
        have HB := hide X2.out.box
        have HQ := hide X2.out.res
        have HE := hide (hsp_of X2.out.src rfl X2.out.tgt rfl (by omega) (by omega) G1.out)
        go_wp2
        go_meet
        exact ⟨_, _, _, _, _, _, _, _, _, by omega, HB.out, HQ.out, HE.out, R2.out, O2.out⟩
    · by_cases hl : 0 < (LS.length : Int)
      · go_wp2_with fail
        obtain ⟨gs, rfl⟩ := own_some0 X2.out.src (by omega)
        obtain ⟨x0, LR, rfl⟩ : ∃ x0 LR, LS = x0 :: LR := (by
          match LS, hl with
          | [], h => simp at h
          | x0 :: LR, _ => exact ⟨x0, LR, rfl⟩)
        have hls : (x0 :: LR).length ≤ 100 := by omega
        generalize hlen : (x0 :: LR).length = nl at kc0 X2 hl hls hl0 ⊢
        have HL := hide hlen
        clear hlen
        have hp0 : 0 < nl := by omega
        have SB : Hid (∀ V : World, V.heap[w1.heap.size]? = some (.cells #[.slice (some ⟨gs, 0, none⟩) nl c2, .slice a5 RT'.length c5] 26 (0, 0)) → V.heap[w1.heap.size]? = some (.cells #[.slice (some ⟨gs, 0, none⟩) nl c2, .slice a5 RT'.length c5] 26 (0, 0)) ∧ V.cell? ⟨w1.heap.size, 0, none⟩ = some (.slice (some ⟨gs, 0, none⟩) nl c2)) := fun V h => ⟨h, by simp [World.cell?, h]⟩
        refine wp_region_N (fun V => V.heap[w1.heap.size]? = some (.cells #[.slice (some ⟨gs, 0, none⟩) nl c2, .slice a5 RT'.length c5] 26 (0, 0)) ∧ V.cell? ⟨w1.heap.size, 0, none⟩ = some (.slice (some ⟨gs, 0, none⟩) nl c2)) 8 (by as_aux_lemma => kernel_rfl) ?_
        have HS := hide (SB.out w2.drew X2.out.box)
        iterate 3
          refine anyN_nx 0 (v := ?_) rfl rfl (by as_aux_lemma => kernel_rfl) (fun _ _ _ h => h) rfl ?_ HS.out ?_
          rotate_left
          · (intro wz hSw; obtain ⟨s0, s1⟩ := hSw; go_simp)
            (try with_reducible rfl)
          (try simp only [Act.put, nzL])
        refine anyN_one (i := 3) rfl (by as_aux_lemma => kernel_rfl) (fun K hK => ?_)
        go_simp
        go_at_call 51
        refine (pick_any R _ 2 _ (R2.out.below (Below.refl _ _).drew (Nat.le_refl _)) (by omega) (by omega) (by omega)).mono ?_
        rintro e w3 ⟨z3, rfl, h30, h31, hR3, hO3⟩
        obtain ⟨m3, rfl⟩ := Int.eq_ofNat_of_zero_le h30
        have OO : Hid (Only R w2 w3) := (Only.of_below (Below.refl _ _).drew).trans hO3
        have X3 := hide (X2.out.only OO.out (by omega))
        have R3 := hide hR3
        have O3 := hide (O2.out.trans OO.out)
        clear hR3 hO3 OO HS
        have HS := hide (SB.out w3 X3.out.box)
        refine hK.out _ _ (fun _ => HS.out) ?_
        clear hK K
        (try simp only [Act.put, nzL])
        have hw20 : IntKind.i64.wrap (2000 + (m3 : Int)) = 2000 + (m3 : Int) := by rw [IntKind.wrap_i64]; omega
        refine anyN_one (i := 4) rfl (by as_aux_lemma => kernel_rfl) (fun K hK => ?_)
        go_simp
        refine hK.out _ _ (fun _ => HS.out) ?_
        clear hK K
        (try simp only [Act.put, nzL])
        refine anyN_one (i := 5) rfl (by as_aux_lemma => kernel_rfl) (fun K hK => ?_)
        go_simp
        go_at_call 54
        refine (l1Many_any ⟨#[115]⟩ (2000 + m3) _ (by show 1 * (2000 + m3) ≤ 4000; omega) (by omega)).mono ?_
        rintro e w4 ⟨tt, rfl, _, rfl⟩
        refine hK.out _ _ (fun _ => HS.out) ?_
        clear hK K
        (try simp only [Act.put, nzL])
        have XL : Hid (SpX (w.heap.size + 1) w1.heap.size (w.heap.size + 2) w4 (.slice (some ⟨gs, 0, none⟩) (x0 :: LR).length c2) (.slice a5 RT'.length c5) (x0 :: LR) RT') := by rw [HL.out]; exact X3.out
        have hgs := (XL.out.src.lt gs rfl).2
        obtain ⟨ky, kz⟩ := own_cell XL.out.src (j := 1) (u := .string x0.text) rfl
        obtain ⟨x3, b3⟩ := XL.out.setS (j := 1) (LS' := ⟨x0.name, tt⟩ :: LR) (.string tt) rfl rfl
        clear XL
        rw [HL.out] at x3
        have X4 := hide x3
        have B4 := hide b3
        clear x3 b3
        iterate 2
          refine anyN_on 6 rfl rfl (by as_aux_lemma => kernel_rfl) (fun K hK => ?_)
          go_simp
          refine hK.out _ _ (fun _ => HS.out) ?_
          clear hK K
          (try simp only [Act.put, nzL])
        refine anyN_one (i := 8) rfl (by as_aux_lemma => kernel_rfl) (fun K hK => ?_)
        go_simp
        refine hK.out _ _ (fun h => absurd rfl h) ?_
        clear hK K
        (try simp only [Act.put, nzL])
        refine anyN_done (by as_aux_lemma => kernel_rfl) ?_ _
        have R4 := hide (R3.out.low B4.out (by omega))
        have O4 := hide (O3.out.then (B4.out.mono (show w.heap.size ≤ w.heap.size + 2 by omega)))
        clear HS ky kz hl
        go_simp
        generalize w4.setCell ⟨gs, 1, none⟩ (.string tt) = W4 at X4 R4 O4 ⊢
        have HB := hide X4.out.box
        have HQ := hide X4.out.res
        have HE := hide (hsp_of X4.out.src HL.out.symm X4.out.tgt rfl (by have := HL.out; simp only [List.length_cons] at this ⊢; omega) (by omega) G1.out)
        clear kc0 kc1 kf0 kf1
        go_wp2
        go_meet
        exact ⟨_, _, _, _, _, _, _, _, _, by omega, HB.out, HQ.out, HE.out, R4.out, O4.out⟩
      · skip
        have HB := hide X2.out.box
        have HQ := hide X2.out.res
        have HE := hide (hsp_of X2.out.src rfl X2.out.tgt rfl (by omega) (by omega) G1.out)
        go_wp2
        go_meet
        exact ⟨_, _, _, _, _, _, _, _, _, by omega, HB.out, HQ.out, HE.out, R2.out, O2.out⟩
    · go_wp2_with fail
      go_loopw [7] (fun i wr => ∃ (k q : Nat) (v1 : Value) (RQ : List TR), i = .int .i64 k ∧ k ≤ RQ.length ∧ q ≤ p + 1 + k ∧ RQ.length ≤ 300 ∧ Hid (SpX (w.heap.size + 1) w1.heap.size (w.heap.size + 2) wr (.slice a2 LS.length c2) v1 LS RQ) ∧ Hid (GX RQ) ∧ Hid (Rd wr R q) ∧ Hid (Only R w wr)) (fun i _ => 400 - (intOf i).toNat)
      case atStart => exact ⟨0, p + 1, _, RT', rfl, by omega, by omega, by omega, X2.out, G1.out, R2.out, O2.out⟩
      case round =>
        clear X2 R2 O2 kc0 kc1 kf0 kf1 G1 N1 hxl
        obtain ⟨k, q4, v1, RT', rfl, hk, hq4, hk3, X2, G1, R2, O2⟩ := hrel
        obtain ⟨w2, rfl⟩ : ∃ w2, w2 = wr := ⟨wr, rfl⟩
        obtain ⟨a5, c5, rfl⟩ := own_slice X2.out.tgt.own
        have hxl := X2.out.lt
        have hw1 : IntKind.i64.wrap ((LS.length : Int) + RT'.length) = (LS.length : Int) + RT'.length := by rw [IntKind.wrap_i64]; omega
        have hwk : IntKind.i64.wrap ((k : Int) + 1) = (k : Int) + 1 := by rw [IntKind.wrap_i64]; omega
        go_wp2_with fail
        have SB : Hid (∀ V : World, V.heap[w1.heap.size]? = some (.cells #[.slice a2 LS.length c2, .slice a5 RT'.length c5] 26 (0, 0)) → V.heap[w1.heap.size]? = some (.cells #[.slice a2 LS.length c2, .slice a5 RT'.length c5] 26 (0, 0)) ∧ V.cell? ⟨w1.heap.size, 0, none⟩ = some (.slice a2 LS.length c2) ∧ V.cell? ⟨w1.heap.size, 1, none⟩ = some (.slice a5 RT'.length c5)) := fun V h => ⟨h, by simp [World.cell?, h], by simp [World.cell?, h]⟩
        refine wp_region_held_drew (S := fun V => V.heap[w1.heap.size]? = some (.cells #[.slice a2 LS.length c2, .slice a5 RT'.length c5] 26 (0, 0)) ∧ V.cell? ⟨w1.heap.size, 0, none⟩ = some (.slice a2 LS.length c2) ∧ V.cell? ⟨w1.heap.size, 1, none⟩ = some (.slice a5 RT'.length c5)) (by as_aux_lemma => kernel_rfl) (SB.out w2 X2.out.box) (fun hS => ?_)
        have HS := hide hS
        clear hS
        iterate 8
          refine anyS_nx 0 (v := ?_) rfl rfl (by as_aux_lemma => kernel_rfl) (fun _ _ _ h => h) rfl ?_ HS.out ?_
          rotate_left
          · (intro wz hSw; obtain ⟨s0, s1, s2⟩ := hSw; go_simp)
            (try with_reducible rfl)
          (try simp only [Act.put, nzL])
        refine anyS_one (i := 8) rfl (by as_aux_lemma => kernel_rfl) (fun K hK => ?_)
        go_simp
        go_at_call 51
        refine (pick_any R _ 2 _ (R2.out.below (Below.refl _ _).drew (Nat.le_refl _)) (by omega) (by omega) (by omega)).mono ?_
        rintro e w3 ⟨z3, rfl, h30, h31, hR3, hO3⟩
        obtain ⟨m3, rfl⟩ := Int.eq_ofNat_of_zero_le h30
        have OO : Hid (Only R w2 w3) := (Only.of_below (Below.refl _ _).drew).trans hO3
        have X3 := hide (X2.out.only OO.out (by omega))
        have R3 := hide hR3
        have O3 := hide (O2.out.trans OO.out)
        clear hR3 hO3 OO HS
        have HS := hide (SB.out w3 X3.out.box)
        refine hK.out _ _ HS.out ?_
        clear hK K
        (try simp only [Act.put, nzL])
        have hw20 : IntKind.i64.wrap (200 + (m3 : Int)) = 200 + (m3 : Int) := by rw [IntKind.wrap_i64]; omega
        iterate 2
          refine anyS_on 9 rfl rfl (by as_aux_lemma => kernel_rfl) (fun K hK => ?_)
          go_simp
          refine hK.out _ _ HS.out ?_
          clear hK K
          (try simp only [Act.put, nzL])
        refine wpAnyH_done (by as_aux_lemma => kernel_rfl) ?_ _
        clear HS SB
        by_cases hlt : (LS.length : Int) + RT'.length < 200 + (m3 : Int)
        · go_wp2_with fail
          have hxl3 := X3.out.lt
          have SQ : Hid (∀ V : World, (∀ j, j < w3.heap.size → some j ≠ (Value.slice a5 RT'.length c5).ownBlock → V.heap[j]? = w3.heap[j]?) → V.heap[w1.heap.size]? = some (.cells #[.slice a2 LS.length c2, .slice a5 RT'.length c5] 26 (0, 0)) ∧ V.cell? ⟨w1.heap.size, 1, none⟩ = some (.slice a5 RT'.length c5)) := fun V hV => by
            have h1 := (hV w1.heap.size X3.out.lt fun e => by
              obtain ⟨cur, hcur⟩ := X3.out.tgt.type _ e.symm
              have h3 := X3.out.box.symm.trans hcur
              cases h3).trans X3.out.box
            exact ⟨h1, by simp [World.cell?, h1]⟩
          refine wp_region_N (fun V => V.heap[w1.heap.size]? = some (.cells #[.slice a2 LS.length c2, .slice a5 RT'.length c5] 26 (0, 0)) ∧ V.cell? ⟨w1.heap.size, 1, none⟩ = some (.slice a5 RT'.length c5)) 13 (by as_aux_lemma => kernel_rfl) ?_
          have HS := hide (SQ.out w3.drew (fun j hj _ => rfl))
          iterate 3
            refine anyN_nx 0 (v := ?_) rfl rfl (by as_aux_lemma => kernel_rfl) (fun _ _ _ h => h) rfl ?_ HS.out ?_
            rotate_left
            · (intro wz hSw; obtain ⟨s0, s1⟩ := hSw; go_simp)
              (try with_reducible rfl)
            (try simp only [Act.put, nzL])
          refine anyN_one (i := 3) rfl (by as_aux_lemma => kernel_rfl) (fun K hK => ?_)
          go_simp
          go_at_call 127
          refine (l2Label_any k (by omega) _).mono ?_
          rintro e wl ⟨lb, rfl, hlb, hBl⟩
          have BL : Hid (Below w3.heap.size w3 wl) := (Below.refl w3.heap.size w3).drew.trans hBl
          clear hBl HS
          have HS := hide (SQ.out wl (fun j hj _ => BL.out.block j hj))
          refine hK.out _ _ (fun _ => HS.out) ?_
          clear hK K
          (try simp only [Act.put, nzL])
          refine anyN_take (i := 4) (v := .string (⟨#[117]⟩ ++ lb)) rfl (by as_aux_lemma => kernel_rfl) (by as_aux_lemma => kernel_rfl) (by as_aux_lemma => kernel_rfl) (by as_aux_lemma => kernel_rfl) (fun _ _ _ h => h) rfl ?_ HS.out ?_
          · intro wz _
            go_simp
            omega
          (try simp only [Act.put, nzL])
          generalize (⟨#[117]⟩ : ByteArray) ++ lb = tn
          refine anyN_one (i := 5) rfl (by as_aux_lemma => kernel_rfl) (fun K hK => ?_)
          go_simp
          go_at_call 128
          refine (l1Lit_any _ _).mono ?_
          rintro e wm ⟨rfl, hBm⟩
          have BM := hide (BL.out.trans (hBm.mono BL.out.size))
          clear hBm HS
          have HS := hide (SQ.out wm (fun j hj _ => BM.out.block j hj))
          refine hK.out _ _ (fun _ => HS.out) ?_
          clear hK K
          (try simp only [Act.put, nzL])
          refine anyN_one (i := 6) rfl (by as_aux_lemma => kernel_rfl) (fun K hK => ?_)
          go_simp
          go_at_call 129
          refine (l1Op_any _ _).mono ?_
          rintro e wn ⟨rfl, hBn⟩
          have BN := hide (BM.out.trans (hBn.mono BM.out.size))
          clear hBn HS BL BM
          have hzn := BN.out.size
          have BI := hide (BN.out.alloc (by omega) (.cells #[.int .i64 1, .string ⟨#[107]⟩, .int .i64 0, .int .i64 15, .string ⟨#[]⟩, .int .i64 0] 176))
          have hxi := X3.out.hi
          have OI := hide (own_two wn (base := w.heap.size + 2) (by omega))
          have HS := hide (SQ.out wn (fun j hj _ => BN.out.block j hj))
          refine hK.out _ _ (fun _ => HS.out) ?_
          clear hK K HS
          (try simp only [Act.put, nzL])
          have HS := hide (SQ.out _ (fun j hj _ => BI.out.block j hj))
          iterate 3
            refine anyN_on 7 rfl rfl (by as_aux_lemma => kernel_rfl) (fun K hK => ?_)
            go_simp
            refine hK.out _ _ (fun _ => HS.out) ?_
            clear hK K
            (try simp only [Act.put, nzL])
          have hzb : (wn.alloc (.cells #[.int .i64 1, .string ⟨#[107]⟩, .int .i64 0, .int .i64 15, .string ⟨#[]⟩, .int .i64 0] 176)).heap.size = wn.heap.size + 1 := by simp
          have AB := hide (BI.out.alloc (by omega) (.cells #[.string tn, .slice (some ⟨wn.heap.size, 0, none⟩) 2 2] 104))
          refine anyN_one (i := 10) rfl (by as_aux_lemma => kernel_rfl) (fun K hK => ?_)
          go_simp
          have XA := hide (X3.out.below AB.out (Nat.le_refl _))
          have OA := hide (own_below OI.out ((Below.refl _ _).alloc (Nat.le_refl _) (.cells #[.string tn, .slice (some ⟨wn.heap.size, 0, none⟩) 2 2] 104)) (Nat.le_refl _))
          refine hK.out _ _ (fun _ => SQ.out _ (fun j hj _ => AB.out.block j hj)) ?_
          clear hK K
          (try simp only [Act.put, nzL])
          refine anyN_one (i := 11) rfl (by as_aux_lemma => kernel_rfl) (fun K hK => ?_)
          refine step_append_own_at rfl (.tmp 106) (.tmp 115) 24 rfl (w.heap.size + 2) 104 i1' (.agg #[.string ⟨#[]⟩, .slice none 0 0]) 2 40 Tryz.underlying24 hj hz0 hz1 hz2 rfl (by decide) (.slice a5 RT'.length c5) RT'.length (RT'.flatMap tgtV) (by simp [Act.eval]) XA.out.tgt.own ⟨wn.heap.size + 1, 0, none⟩ 1 1 (tgtV (⟨tn, 2, lsI twoL⟩, wn.heap.size, 2)) (by simp [Act.eval]) rfl (fun j u hu => two_new2 (hzb) _ _ _ j u hu) (by simp [tgtV, Value.oneCell']) (by unfold maxLen; omega) (by omega) (by have := XA.out.hi; have := XA.out.lt; omega) ?_
          intro v' w7 hown hgrow _
          obtain ⟨a7, c7, rfl⟩ := own_slice hown
          have S7 := hide (SQ.out w7 (fun j hj hne => (hgrow.block j (Nat.lt_of_lt_of_le hj AB.out.size) hne).trans (AB.out.block j hj)))
          obtain ⟨c8, b8⟩ := XA.out.addT (x := ⟨tn, 2, lsI twoL⟩) (g := wn.heap.size) (c := 2) (fun r hr e => by have := X3.out.tgt.ltg r hr; omega) OA.out hown hgrow
          have X9 := hide c8
          have B9 := hide b8
          clear hown hgrow c8 b8
          refine hK.out _ _ (fun _ => S7.out) ?_
          clear hK K
          (try simp only [Act.put, nzL])
          refine anyN_one (i := 12) rfl (by as_aux_lemma => kernel_rfl) (fun K hK => ?_)
          go_simp
          refine hK.out _ _ (fun _ => S7.out) ?_
          clear hK K
          (try simp only [Act.put, nzL])
          obtain ⟨s7, t7⟩ := S7.out
          have f7 : w7.frozen? ⟨w1.heap.size, 1, none⟩ = false := by simp [World.frozen?, s7]
          have l7 := heap_in s7
          clear s7
          refine anyN_one (i := 13) rfl (by as_aux_lemma => kernel_rfl) (fun K hK => ?_)
          go_simp
          refine hK.out _ _ (fun h => absurd rfl h) ?_
          clear hK K
          (try simp only [Act.put, nzL])
          refine anyN_done (by as_aux_lemma => kernel_rfl) ?_ _
          go_wp2
          have BB := hide ((AB.out.mono (show w.heap.size + 2 ≤ w3.heap.size by omega)).trans B9.out)
          refine ⟨⟨k + 1, _, .slice a7 (RT'.length + 1) c7, RT' ++ [((⟨tn, 2, lsI twoL⟩, wn.heap.size, 2) : TR)], by go_num, by rw [List.length_append]; exact Nat.succ_le_succ hk, by omega, by rw [List.length_append]; exact (by omega : RT'.length + 1 ≤ 300), X9.out, G1.out.add (r := (⟨tn, 2, lsI twoL⟩, wn.heap.size, 2)) (by show 2 ≤ 300; omega) two_size, R3.out.low BB.out (by omega), O3.out.then (BB.out.mono (by omega))⟩, by simp [intOf]; omega⟩
        · have kc0 := hxl
          have kc1 := hxl
          have kf0 := hxl
          have kf1 := hxl
          have HB := hide X3.out.box
          have HQ := hide X3.out.res
          have HE := hide (hsp_of X3.out.src rfl X3.out.tgt rfl (by omega) (by omega) G1.out)
          clear kc0 kc1 kf0 kf1
          go_wp2
          go_meet
          exact ⟨_, _, _, _, _, _, _, _, _, by omega, HB.out, HQ.out, HE.out, R3.out, O3.out⟩
    · go_wp2_with fail
      have SB : Hid (∀ V : World, V.heap[w1.heap.size]? = some (.cells #[.slice a2 LS.length c2, .slice a5 RT'.length c5] 26 (0, 0)) → V.heap[w1.heap.size]? = some (.cells #[.slice a2 LS.length c2, .slice a5 RT'.length c5] 26 (0, 0)) ∧ V.cell? ⟨w1.heap.size, 1, none⟩ = some (.slice a5 RT'.length c5)) := fun V h => ⟨h, by simp [World.cell?, h]⟩
      refine wp_region_N (fun V => V.heap[w1.heap.size]? = some (.cells #[.slice a2 LS.length c2, .slice a5 RT'.length c5] 26 (0, 0)) ∧ V.cell? ⟨w1.heap.size, 1, none⟩ = some (.slice a5 RT'.length c5)) 14 (by as_aux_lemma => kernel_rfl) ?_
      have HS := hide (SB.out w2.drew X2.out.box)
      iterate 3
        refine anyN_nx 0 (v := ?_) rfl rfl (by as_aux_lemma => kernel_rfl) (fun _ _ _ h => h) rfl ?_ HS.out ?_
        rotate_left
        · (intro wz hSw; obtain ⟨s0, s1⟩ := hSw; go_simp)
          (try with_reducible rfl)
        (try simp only [Act.put, nzL])
      refine anyN_one (i := 3) rfl (by as_aux_lemma => kernel_rfl) (fun K hK => ?_)
      go_simp
      go_at_call 51
      refine (pick_any R _ 2 _ (R2.out.below (Below.refl _ _).drew (Nat.le_refl _)) (by omega) (by omega) (by omega)).mono ?_
      rintro e w3 ⟨z3, rfl, h30, h31, hR3, hO3⟩
      obtain ⟨m3, rfl⟩ := Int.eq_ofNat_of_zero_le h30
      have OO : Hid (Only R w2 w3) := (Only.of_below (Below.refl _ _).drew).trans hO3
      have X3 := hide (X2.out.only OO.out (by omega))
      have R3 := hide hR3
      have O3 := hide (O2.out.trans OO.out)
      clear hR3 hO3 OO HS
      have HS := hide (SB.out w3 X3.out.box)
      refine hK.out _ _ (fun _ => HS.out) ?_
      clear hK K
      (try simp only [Act.put, nzL])
      have hw60 : IntKind.i64.wrap (60 + (m3 : Int)) = 60 + (m3 : Int) := by rw [IntKind.wrap_i64]; omega
      refine anyN_one (i := 4) rfl (by as_aux_lemma => kernel_rfl) (fun K hK => ?_)
      go_simp
      refine hK.out _ _ (fun _ => HS.out) ?_
      clear hK K
      (try simp only [Act.put, nzL])
      refine anyN_one (i := 5) rfl (by as_aux_lemma => kernel_rfl) (fun K hK => ?_)
      go_simp
      go_at_call 54
      refine (l1Many_any ⟨#[110]⟩ (60 + m3) _ (by show 1 * (60 + m3) ≤ 4000; omega) (by omega)).mono ?_
      rintro e w4 ⟨tn, rfl, _, rfl⟩
      refine hK.out _ _ (fun _ => HS.out) ?_
      clear hK K HS
      (try simp only [Act.put, nzL])
      have SQ : Hid (∀ V : World, (∀ j, j < w4.heap.size → some j ≠ (Value.slice a5 RT'.length c5).ownBlock → V.heap[j]? = w4.heap[j]?) → V.heap[w1.heap.size]? = some (.cells #[.slice a2 LS.length c2, .slice a5 RT'.length c5] 26 (0, 0)) ∧ V.cell? ⟨w1.heap.size, 1, none⟩ = some (.slice a5 RT'.length c5)) := fun V hV => by
        have h1 := (hV w1.heap.size X3.out.lt fun e => by
          obtain ⟨cur, hcur⟩ := X3.out.tgt.type _ e.symm
          have h3 := X3.out.box.symm.trans hcur
          cases h3).trans X3.out.box
        exact ⟨h1, by simp [World.cell?, h1]⟩
      refine anyN_one (i := 6) rfl (by as_aux_lemma => kernel_rfl) (fun K hK => ?_)
      go_simp
      go_at_call 128
      refine (l1Lit_any _ _).mono ?_
      rintro e wm ⟨rfl, BMh⟩
      have BM := hide BMh
      clear BMh
      refine hK.out _ _ (fun _ => SQ.out wm (fun j hj _ => BM.out.block j hj)) ?_
      clear hK K
      (try simp only [Act.put, nzL])
      refine anyN_one (i := 7) rfl (by as_aux_lemma => kernel_rfl) (fun K hK => ?_)
      go_simp
      go_at_call 129
      refine (l1Op_any _ _).mono ?_
      rintro e wn ⟨rfl, hBn⟩
      have BN := hide (BM.out.trans (hBn.mono BM.out.size))
      clear hBn BM
      have hzn := BN.out.size
      have BI := hide (BN.out.alloc (by omega) (.cells #[.int .i64 1, .string ⟨#[107]⟩, .int .i64 0, .int .i64 15, .string ⟨#[]⟩, .int .i64 0] 176))
      have hxi := X3.out.hi
      have hxl3 := X3.out.lt
      have OI := hide (own_two wn (base := w.heap.size + 2) (by omega))
      refine hK.out _ _ (fun _ => SQ.out wn (fun j hj _ => BN.out.block j hj)) ?_
      clear hK K
      (try simp only [Act.put, nzL])
      have HS := hide (SQ.out _ (fun j hj _ => BI.out.block j hj))
      iterate 3
        refine anyN_on 8 rfl rfl (by as_aux_lemma => kernel_rfl) (fun K hK => ?_)
        go_simp
        refine hK.out _ _ (fun _ => HS.out) ?_
        clear hK K
        (try simp only [Act.put, nzL])
      have hzb : (wn.alloc (.cells #[.int .i64 1, .string ⟨#[107]⟩, .int .i64 0, .int .i64 15, .string ⟨#[]⟩, .int .i64 0] 176)).heap.size = wn.heap.size + 1 := by simp
      have AB := hide (BI.out.alloc (by omega) (.cells #[.string tn, .slice (some ⟨wn.heap.size, 0, none⟩) 2 2] 104))
      refine anyN_one (i := 11) rfl (by as_aux_lemma => kernel_rfl) (fun K hK => ?_)
      go_simp
      have XA := hide (X3.out.below AB.out (Nat.le_refl _))
      have OA := hide (own_below OI.out ((Below.refl _ _).alloc (Nat.le_refl _) (.cells #[.string tn, .slice (some ⟨wn.heap.size, 0, none⟩) 2 2] 104)) (Nat.le_refl _))
      refine hK.out _ _ (fun _ => SQ.out _ (fun j hj _ => AB.out.block j hj)) ?_
      clear hK K
      (try simp only [Act.put, nzL])
      refine anyN_one (i := 12) rfl (by as_aux_lemma => kernel_rfl) (fun K hK => ?_)
      refine step_append_own_at rfl (.tmp 121) (.tmp 131) 24 rfl (w.heap.size + 2) 104 i1' (.agg #[.string ⟨#[]⟩, .slice none 0 0]) 2 40 Tryz.underlying24 hj hz0 hz1 hz2 rfl (by decide) (.slice a5 RT'.length c5) RT'.length (RT'.flatMap tgtV) (by simp [Act.eval]) XA.out.tgt.own ⟨wn.heap.size + 1, 0, none⟩ 1 1 (tgtV (⟨tn, 2, lsI twoL⟩, wn.heap.size, 2)) (by simp [Act.eval]) rfl (fun j u hu => two_new2 (hzb) _ _ _ j u hu) (by simp [tgtV, Value.oneCell']) (by unfold maxLen; omega) (by omega) (by have := XA.out.hi; have := XA.out.lt; omega) ?_
      intro v' w7 hown hgrow _
      obtain ⟨a7, c7, rfl⟩ := own_slice hown
      have S7 := hide (SQ.out w7 (fun j hj hne => (hgrow.block j (Nat.lt_of_lt_of_le hj AB.out.size) hne).trans (AB.out.block j hj)))
      obtain ⟨c8, b8⟩ := XA.out.addT (x := ⟨tn, 2, lsI twoL⟩) (g := wn.heap.size) (c := 2) (fun r hr e => by have := X3.out.tgt.ltg r hr; omega) OA.out hown hgrow
      have X9 := hide c8
      have B9 := hide b8
      clear hown hgrow c8 b8
      refine hK.out _ _ (fun _ => S7.out) ?_
      clear hK K
      (try simp only [Act.put, nzL])
      refine anyN_one (i := 13) rfl (by as_aux_lemma => kernel_rfl) (fun K hK => ?_)
      go_simp
      refine hK.out _ _ (fun _ => S7.out) ?_
      clear hK K
      (try simp only [Act.put, nzL])
      obtain ⟨s7, t7⟩ := S7.out
      have f7 : w7.frozen? ⟨w1.heap.size, 1, none⟩ = false := by simp [World.frozen?, s7]
      have l7 := heap_in s7
      clear s7
      refine anyN_one (i := 14) rfl (by as_aux_lemma => kernel_rfl) (fun K hK => ?_)
      go_simp
      refine hK.out _ _ (fun h => absurd rfl h) ?_
      clear hK K
      (try simp only [Act.put, nzL])
      refine anyN_done (by as_aux_lemma => kernel_rfl) ?_ _
      have BB := hide ((AB.out.mono (show w.heap.size + 2 ≤ w4.heap.size by omega)).trans B9.out)
      have R9 := hide (R3.out.low BB.out (by omega))
      have O9 := hide (O3.out.then (BB.out.mono (by omega)))
      have G9 := hide (G1.out.add (r := (⟨tn, 2, lsI twoL⟩, wn.heap.size, 2)) (by show 2 ≤ 300; omega) two_size)
      clear t7 f7 l7 HS
      go_simp
      generalize w7.setCell ⟨w1.heap.size, 1, none⟩ (.slice a7 (RT'.length + 1) c7) = W9 at X9 R9 O9 ⊢
      have HB := hide X9.out.box
      have HQ := hide X9.out.res
      have HE := hide (hsp_of X9.out.src rfl X9.out.tgt (by simp) (by omega) (by rw [List.length_append]; exact (by omega : RT'.length + 1 ≤ 300)) G9.out)
      clear kc0 kc1 kf0 kf1
      go_wp2
      go_meet
      exact ⟨_, _, _, _, _, _, _, _, _, by omega, HB.out, HQ.out, HE.out, R9.out, O9.out⟩
    · have BQ := hide ((Below.refl w2.heap.size w2).alloc (Nat.le_refl _) (.cells #[.string ⟨#[97]⟩, .slice none 0 0] 104))
      have XQ := hide (X2.out.below BQ.out (Nat.le_refl _))
      go_wp2_with (at_builtin; refine wpList_append_at _ rfl (.tmp 137) (.tmp 139) 24 rfl (w.heap.size + 2) 104 i1' (.agg #[.string ⟨#[]⟩, .slice none 0 0]) 2 40 Tryz.underlying24 hj hz0 hz1 hz2 rfl (by decide) (.slice a5 RT'.length c5) RT'.length (RT'.flatMap tgtV) (by simp [Act.eval]) XQ.out.tgt.own ⟨w2.heap.size, 0, none⟩ 1 1 [.string ⟨#[97]⟩, .slice none 0 0] (by simp [Act.eval]) rfl (fun j u hu => two_new w2 _ _ _ j u hu) (by simp [Value.oneCell']) (by unfold maxLen; omega) (by omega) (by have := X2.out.hi; simp; omega) ?_; intro v' w3 hown hgrow _; obtain ⟨a7, c7, rfl⟩ := own_slice hown; obtain ⟨hE, hB, hQ, hBl⟩ := XQ.out.addNil hown hgrow (by omega) (by omega) G1.out; have HE := hide hE; have HBl := hide hBl; have HB := hide hB; have HQ := hide hQ; have kb := grown_other hgrow XQ.out.tgt.type XQ.out.box (by decide); clear hown hgrow hE hB hQ hBl kc0 kc1 kf0 kf1; have e0 : w3.cell? ⟨w1.heap.size, 0, none⟩ = some (.slice a2 LS.length c2) := (by simp [World.cell?, kb]); have e1 : w3.cell? ⟨w1.heap.size, 1, none⟩ = some (.slice a5 RT'.length c5) := (by simp [World.cell?, kb]); have f2 : w3.frozen? ⟨w1.heap.size, 1, none⟩ = false := (by simp [World.frozen?, kb]); have l1 := heap_in kb; have hne := XQ.out.hi; clear kb)
      go_meet
      exact ⟨_, _, _, _, _, _, _, _, _, by omega, HB.out, HQ.out, HE.out, R2.out.low (BQ.out.mono (show w.heap.size + 2 ≤ w2.heap.size by omega) |>.trans HBl.out) (by omega), O2.out.then ((BQ.out.mono (show w.heap.size ≤ w2.heap.size by omega)).trans (HBl.out.mono (by omega)))⟩
    · by_cases hl : 1 < (LS.length : Int)
      · go_wp2_with fail
        obtain ⟨gs, rfl⟩ := own_some0 X2.out.src (by omega)
        obtain ⟨x0, x1, LR, rfl⟩ : ∃ x0 x1 LR, LS = x0 :: x1 :: LR := (by
          match LS, hl with
          | [], h => simp at h
          | [_], h => simp at h
          | x0 :: x1 :: LR, _ => exact ⟨x0, x1, LR, rfl⟩)
        have hgs := (X2.out.src.lt gs rfl).2
        have kx := (own_cell X2.out.src (j := 0) (u := .string x0.name) rfl).1
        obtain ⟨ky, kz⟩ := own_cell X2.out.src (j := 2) (u := .string x1.name) rfl
        obtain ⟨x3, b3⟩ := X2.out.setS (j := 2) (LS' := x0 :: ⟨x0.name, x1.text⟩ :: LR) (.string x0.name) rfl rfl
        have X3 := hide x3
        have B3 := hide b3
        clear x3 b3
        have hls : (x0 :: x1 :: LR).length ≤ 100 := by omega
        have hlp : (1 : Int) < (x0 :: x1 :: LR).length := hl
        generalize hlen : (x0 :: x1 :: LR).length = nl at *
        have HL := hide hlen
        clear hlen
        have hp0 : 0 < nl := by omega
        have hp1 : 1 < nl := by omega
        refine wp_region_N (fun V => V.cell? ⟨w1.heap.size, 0, none⟩ = some (.slice (some ⟨gs, 0, none⟩) nl c2) ∧ V.cell? ⟨gs, 0, none⟩ = some (.string x0.name)) 9 (by as_aux_lemma => kernel_rfl) ?_
        have HS : Hid ((w2.drew.cell? ⟨w1.heap.size, 0, none⟩ = some (.slice (some ⟨gs, 0, none⟩) nl c2)) ∧ w2.drew.cell? ⟨gs, 0, none⟩ = some (.string x0.name)) := ⟨kc0, kx⟩
        iterate 7
          refine anyN_nx 0 (v := ?_) rfl rfl (by as_aux_lemma => kernel_rfl) (fun _ _ _ h => h) rfl ?_ HS.out ?_
          rotate_left
          · (intro wz hSw; obtain ⟨s0, s1⟩ := hSw; go_simp)
            (try with_reducible rfl)
          (try simp only [Act.put, nzL])
        iterate 2
          refine anyN_on 7 rfl rfl (by as_aux_lemma => kernel_rfl) (fun K hK => ?_)
          go_simp
          refine hK.out _ _ (fun _ => HS.out) ?_
          clear hK K
          (try simp only [Act.put, nzL])
        refine anyN_one (i := 9) rfl (by as_aux_lemma => kernel_rfl) (fun K hK => ?_)
        go_simp
        refine hK.out _ _ (fun h => absurd rfl h) ?_
        clear hK K
        (try simp only [Act.put, nzL])
        refine anyN_done (by as_aux_lemma => kernel_rfl) ?_ _
        have R3 := hide ((R2.out.low B3.out (by omega)).below (Below.refl _ _).drew (Nat.le_refl _))
        have O3 := hide (O2.out.then ((B3.out.mono (show w.heap.size ≤ w.heap.size + 2 by omega)).drew))
        have XD := hide (X3.out.below (Below.refl _ _).drew (Nat.le_refl _))
        clear HS kx ky kz hl hlp
        go_simp
        generalize (w2.setCell ⟨gs, 2, none⟩ (.string x0.name)).drew = W3 at XD R3 O3 ⊢
        have HB := hide XD.out.box
        have HQ := hide XD.out.res
        have HE := hide (hsp_of XD.out.src HL.out.symm XD.out.tgt rfl (by have := HL.out; simp only [List.length_cons] at this ⊢; omega) (by omega) G1.out)
        clear kc0 kc1 kf0 kf1
        go_wp2
        go_meet
        exact ⟨_, _, _, _, _, _, _, _, _, by omega, HB.out, HQ.out, HE.out, R3.out, O3.out⟩
      · skip
        have HB := hide X2.out.box
        have HQ := hide X2.out.res
        have HE := hide (hsp_of X2.out.src rfl X2.out.tgt rfl (by omega) (by omega) G1.out)
        go_wp2
        go_meet
        exact ⟨_, _, _, _, _, _, _, _, _, by omega, HB.out, HQ.out, HE.out, R2.out, O2.out⟩
  case rest =>
  clear X2 R2 O2 kc0 kc1 kf0 kf1 hxl
  obtain ⟨b0, m0, k0, g0, b1, m1, k1, g1, q', hq', HB, HQ, HE, R9, O9⟩ := hcut
  generalize wc = W9 at HB HQ HE R9 O9 ⊢
  have kb := HB.out
  have kr := HQ.out
  have e0 : W9.cell? ⟨w1.heap.size, 0, none⟩ = some (.slice b0 m0 k0) := by simp [World.cell?, kb]
  have e1 : W9.cell? ⟨w1.heap.size, 1, none⟩ = some (.slice b1 m1 k1) := by simp [World.cell?, kb]
  have r0 : W9.cell? ⟨w.heap.size + 1, 0, none⟩ = some (.slice none 0 0) := by simp [World.cell?, kr]
  have r1 : W9.cell? ⟨w.heap.size + 1, 1, none⟩ = some (.slice none 0 0) := by simp [World.cell?, kr]
  have f0 : W9.frozen? ⟨w.heap.size + 1, 0, none⟩ = false := by simp [World.frozen?, kr]
  have f1 : W9.frozen? ⟨w.heap.size + 1, 1, none⟩ = false := by simp [World.frozen?, kr]
  have l0 := heap_in kr
  have l1 := heap_in kb
  clear kb kr
  have BE := hide (((Below.refl w.heap.size W9).setCell (p := ⟨w.heap.size + 1, 0, none⟩) (Nat.le_succ _) (.slice b0 m0 k0)).setCell (p := ⟨w.heap.size + 1, 1, none⟩) (Nat.le_succ _) (.slice b1 m1 k1))
  have HE2 := hide ((HE.out.agr ((agr_set (j := 0) (show w.heap.size + 1 < w.heap.size + 2 by omega) (.slice b0 m0 k0)).trans (agr_set (j := 1) (show w.heap.size + 1 < w.heap.size + 2 by omega) (.slice b1 m1 k1)))).mono (show w.heap.size ≤ w.heap.size + 2 by omega))
  go_wp2
  exact bodyPost_ret (v := .agg #[.slice b0 m0 k0, .slice b1 m1 k1]) (by simp [results, Tryz.results125, go_sem, r0, r1]) rfl ⟨_, _, _, _, _, _, _, _, rfl, HE2.out, _, by omega, R9.out.low BE.out hlow, O9.out.then BE.out⟩
end Go.Proofs.YtkophfgkcijjkaaGreatDoor.Vp
namespace Go.Proofs.YtkophfgkcijjkaaGreatDoor.Vp
open Go.RowKit Go.Proofs.YtkophfgkcijjkaaGreatDoor.Ca
theorem lit3_at {w : World} {b : Nat} {s0 s1 s2 : ByteArray} {t : TypeId} {fz : Nat × Nat} (h : w.heap[b]? = some (.cells #[.string s0, .string s1, .string s2] t fz)) (h0 : s0.size ≤ 5000) (h1 : s1.size ≤ 5000) (h2 : s2.size ≤ 5000) (k : Nat) (hk : k < 3) : ∃ s : ByteArray, w.cell? ⟨b, k, none⟩ = some (.string s) ∧ s.size ≤ 5000 := by
  match k, hk with
  | 0, _ => exact ⟨s0, by simp [World.cell?, h], h0⟩
  | 1, _ => exact ⟨s1, by simp [World.cell?, h], h1⟩
  | 2, _ => exact ⟨s2, by simp [World.cell?, h], h2⟩
  | j + 3, h5 => exact absurd h5 (by omega)
theorem dsp_hsp {w : World} {base : Nat} {a0 a1 : Option Addr} {c0 c1 : Nat} {LS : List Source} {RT : List TR} (hs : w.ownsRow base 100 2 (.slice a0 LS.length c0) LS.length (LS.flatMap srcV)) (ht : TRow w base (.slice a1 RT.length c1) RT) (hG : SpG LS RT) (h0 : LS.length ≤ 300) (h1 : RT.length ≤ 300) : HSp base w a0 LS.length (srcF LS) a1 RT.length (tgtF (RT.map (·.1))) ∧ ∀ i, i < RT.length → 1 ≤ (tgtF (RT.map (·.1)) i).actN ∧ (tgtF (RT.map (·.1)) i).actN ≤ 200 := by
  refine ⟨hsp_of hs rfl ht rfl h0 h1 (fun r hr => ⟨by have := (hG.t r hr).2.1.2; omega, (hG.t r hr).2.2⟩), fun i hi => ?_⟩
  have e : tgtF (RT.map (·.1)) i = RT[i].1 := by simp [tgtF, hi]
  rw [e]
  exact (hG.t _ (List.getElem_mem hi)).2.1
set_option maxRecDepth 100000 in
set_option maxHeartbeats 8000000 in
theorem l2Any_any (R p : Nat) (w : World) (hR : Rd w R p) (hp : p ≤ 9000) :
    Calls Tryz.prog 49 #[.pointer (some ⟨R, 0, none⟩)] w fun e w' => DH w R (p + 6300) e w' := by
  have HR := hide hR
  have hlow := hR.lt
  clear hR
  go_enter Tryz.func49, Tryz.ntmps49
  go_wp2_with fail
  have A0 := hide ((Below.refl w.heap.size w).alloc (Nat.le_refl _) (.cells #[.slice none 0 0, .slice none 0 0] 26))
  have K0 : Hid ((w.alloc (.cells #[.slice none 0 0, .slice none 0 0] 26)).heap[w.heap.size]? = some (.cells #[.slice none 0 0, .slice none 0 0] 26 (0, 0))) := heap_alloc_new w _
  have hz0 : (w.alloc (.cells #[.slice none 0 0, .slice none 0 0] 26)).heap.size = w.heap.size + 1 := by simp
  generalize w.alloc (.cells #[.slice none 0 0, .slice none 0 0] 26) = W0 at A0 K0 hz0 ⊢
  refine (pick_any R p 24 _ (HR.out.below A0.out (Nat.le_refl _)) (by omega) (by omega) (by omega)).mono ?_
  rintro e w1 ⟨z, rfl, hz0', hz1', hR1, hO1⟩
  have R1 := hide hR1
  have O1 := hide ((Only.of_below A0.out).trans hO1 : Only R w w1)
  have K1 := hide ((hO1.block w.heap.size (by omega) (by omega)).trans K0.out)
  have hs1 := hO1.size
  clear hR1 hO1 A0 K0
  by_cases hk : z = 0
  · subst hk
    go_wp2_with fail
    refine (pick_any R _ 3 _ R1.out (by omega) (by omega) (by omega)).mono ?_
    rintro e w2 ⟨z2, rfl, h20, h21, hR2, hO2⟩
    obtain ⟨m2, rfl⟩ := Int.eq_ofNat_of_zero_le h20
    have R2 := hide hR2
    have O2 := hide (O1.out.trans hO2)
    have K2 := hide ((hO2.block w.heap.size (by omega) (by omega)).trans K1.out)
    have hs2 := hO2.size
    clear hR2 hO2 R1 O1 K1
    have hw1 : IntKind.i64.wrap (60 + (m2 : Int)) = 60 + (m2 : Int) := by rw [IntKind.wrap_i64]; omega
    have hw2 : IntKind.i64.wrap (60 + (m2 : Int) - 1) = 59 + (m2 : Int) := by rw [IntKind.wrap_i64]; omega
    go_wp2_with fail
    have BL := hide ((Below.refl w2.heap.size w2).alloc (Nat.le_refl _) (.cells #[.string ⟨#[97]⟩, .string ⟨#[110, 111, 110, 101]⟩, .string ⟨#[116, 48, 48, 48]⟩] 9))
    have RL := hide (R2.out.below BL.out (Nat.le_refl _))
    have OL := hide (O2.out.then (BL.out.mono (by omega)))
    have KL := hide ((BL.out.block w.heap.size (by omega)).trans K2.out)
    have hl3 : (w2.alloc (.cells #[.string ⟨#[97]⟩, .string ⟨#[110, 111, 110, 101]⟩, .string ⟨#[116, 48, 48, 48]⟩] 9)).heap[w2.heap.size]? = some (.cells #[.string ⟨#[97]⟩, .string ⟨#[110, 111, 110, 101]⟩, .string ⟨#[116, 48, 48, 48]⟩] 9 (0, 0)) := heap_alloc_new w2 _
    have hs3 := heap_in hl3
    have HL3 := hide hl3
    clear BL hl3 R2 O2 K2
    generalize w2.alloc (.cells #[.string ⟨#[97]⟩, .string ⟨#[110, 111, 110, 101]⟩, .string ⟨#[116, 48, 48, 48]⟩] 9) = WL at RL OL KL HL3 hs3 ⊢
    refine (pick_any R _ 3 _ RL.out (by omega) (by omega) (by omega)).mono ?_
    rintro e w3 ⟨z3, rfl, h30, h31, hR3, hO3⟩
    obtain ⟨m3, rfl⟩ := Int.eq_ofNat_of_zero_le h30
    have hm3 : m3 < 3 := by omega
    have R3 := hide hR3
    have O3 := hide (OL.out.trans hO3)
    have K3 := hide ((hO3.block w.heap.size (by omega) (by omega)).trans KL.out)
    obtain ⟨sx, hcx, hsx⟩ := lit3_at ((hO3.block w2.heap.size hs3 (by omega)).trans HL3.out) (Nat.le_of_ble_eq_true rfl) (Nat.le_of_ble_eq_true rfl) (Nat.le_of_ble_eq_true rfl) m3 hm3
    have hs4 := hO3.size
    clear hR3 hO3 HL3 RL OL KL
    go_wp2_with fail
    refine (l2Chain_any (59 + m2) (by omega) sx hsx _).mono ?_
    rintro e w4 ⟨a0, n0, c0, f0, a1, n1, c1, f1, rfl, hH4, hB4⟩
    have H4 := hide (hH4.mono (show w.heap.size + 1 ≤ w3.heap.size by omega))
    have R4 := hide (R3.out.below hB4 (Nat.le_refl _))
    have O4 := hide (O3.out.then (hB4.mono (by omega)))
    have K4 := hide ((hB4.block w.heap.size (by omega)).trans K3.out)
    clear hH4 hB4 R3 O3 K3 hcx
    have kr := K4.out
    have r0 : w4.cell? ⟨w.heap.size, 0, none⟩ = some (.slice none 0 0) := by simp [World.cell?, kr]
    have r1 : w4.cell? ⟨w.heap.size, 1, none⟩ = some (.slice none 0 0) := by simp [World.cell?, kr]
    have f0 : w4.frozen? ⟨w.heap.size, 0, none⟩ = false := by simp [World.frozen?, kr]
    have f1 : w4.frozen? ⟨w.heap.size, 1, none⟩ = false := by simp [World.frozen?, kr]
    have l0 := heap_in kr
    clear kr
    have BE := hide (((Below.refl w.heap.size w4).setCell (p := ⟨w.heap.size, 0, none⟩) (Nat.le_refl _) (.slice a0 n0 c0)).setCell (p := ⟨w.heap.size, 1, none⟩) (Nat.le_refl _) (.slice a1 n1 c1))
    have HE2 := hide ((H4.out.agr ((agr_set (j := 0) (Nat.lt_succ_self w.heap.size) (.slice a0 n0 c0)).trans (agr_set (j := 1) (Nat.lt_succ_self w.heap.size) (.slice a1 n1 c1)))).mono (Nat.le_succ w.heap.size))
    go_wp2
    exact bodyPost_ret (v := .agg #[.slice a0 n0 c0, .slice a1 n1 c1]) (by simp [results, Tryz.results49, go_sem, r0, r1]) rfl ⟨_, _, _, _, _, _, _, _, rfl, HE2.out, _, by omega, R4.out.low BE.out hlow, O4.out.then BE.out⟩
  · go_wp2_with fail
    refine (l2Draw_any R _ _ R1.out (by omega)).mono ?_
    rintro e w2 ⟨LS, RT, v0, v1, rfl, hs, ht, hG, hl0, hl1, q2, hq2, hR2, hO2⟩
    obtain ⟨a0, c0, rfl⟩ := own_slice hs
    obtain ⟨a1, c1, rfl⟩ := own_slice ht.own
    obtain ⟨hh, hg⟩ := dsp_hsp hs ht hG (by omega) (by omega)
    have H2 := hide (hh.mono (show w.heap.size + 1 ≤ w1.heap.size + 2 by omega))
    have HG := hide hg
    have R2 := hide hR2
    have O2 := hide (O1.out.trans hO2)
    have K2 := hide ((hO2.block w.heap.size (by omega) (by omega)).trans K1.out)
    have hs2 := hO2.size
    clear hs ht hG hh hg hR2 hO2 R1 O1 K1
    by_cases hk3 : z < 3
    · have BS := hide ((Below.refl w2.heap.size w2).alloc (Nat.le_refl _) (.cells #[.slice a0 LS.length c0, .slice a1 RT.length c1] 26))
      have H2 := hide (H2.out.agr (agr_below BS.out (Nat.le_refl _)))
      have R2 := hide (R2.out.below BS.out (Nat.le_refl _))
      have O2 := hide (O2.out.then (BS.out.mono (by omega)))
      have K2 := hide ((BS.out.block w.heap.size (by omega)).trans K2.out)
      have hs3 := BS.out.size
      clear BS
      go_wp2_with fail
      generalize w2.alloc (.cells #[.slice a0 LS.length c0, .slice a1 RT.length c1] 26) = WS at H2 R2 O2 K2 hs3 ⊢
      refine (l2Spoil_any R q2 (w.heap.size + 1) LS.length c0 RT.length c1 a0 _ a1 _ _ R2.out (by omega) H2.out HG.out (by omega) (by omega)).mono ?_
      rintro e w3 ⟨b0, m0, d0, g0, b1, m1, d1, g1, rfl, hH3, q3, hq3, hR3, hO3⟩
      have H3 := hide (hH3.mono (show w.heap.size + 1 ≤ WS.heap.size by omega))
      have R3 := hide hR3
      have O3 := hide (O2.out.trans hO3)
      have K3 := hide ((hO3.block w.heap.size (by omega) (by omega)).trans K2.out)
      clear hH3 hR3 hO3 H2 R2 O2 K2 HG
      have kr := K3.out
      have r0 : w3.cell? ⟨w.heap.size, 0, none⟩ = some (.slice none 0 0) := by simp [World.cell?, kr]
      have r1 : w3.cell? ⟨w.heap.size, 1, none⟩ = some (.slice none 0 0) := by simp [World.cell?, kr]
      have f0 : w3.frozen? ⟨w.heap.size, 0, none⟩ = false := by simp [World.frozen?, kr]
      have f1 : w3.frozen? ⟨w.heap.size, 1, none⟩ = false := by simp [World.frozen?, kr]
      have l0 := heap_in kr
      clear kr
      have BE := hide (((Below.refl w.heap.size w3).setCell (p := ⟨w.heap.size, 0, none⟩) (Nat.le_refl _) (.slice b0 m0 d0)).setCell (p := ⟨w.heap.size, 1, none⟩) (Nat.le_refl _) (.slice b1 m1 d1))
      have HE2 := hide ((H3.out.agr ((agr_set (j := 0) (Nat.lt_succ_self w.heap.size) (.slice b0 m0 d0)).trans (agr_set (j := 1) (Nat.lt_succ_self w.heap.size) (.slice b1 m1 d1)))).mono (Nat.le_succ w.heap.size))
      go_wp2
      exact bodyPost_ret (v := .agg #[.slice b0 m0 d0, .slice b1 m1 d1]) (by simp [results, Tryz.results49, go_sem, r0, r1]) rfl ⟨_, _, _, _, _, _, _, _, rfl, HE2.out, _, by omega, R3.out.low BE.out hlow, O3.out.then BE.out⟩
    · clear HG
      have kr := K2.out
      have r0 : w2.cell? ⟨w.heap.size, 0, none⟩ = some (.slice none 0 0) := by simp [World.cell?, kr]
      have r1 : w2.cell? ⟨w.heap.size, 1, none⟩ = some (.slice none 0 0) := by simp [World.cell?, kr]
      have f0 : w2.frozen? ⟨w.heap.size, 0, none⟩ = false := by simp [World.frozen?, kr]
      have f1 : w2.frozen? ⟨w.heap.size, 1, none⟩ = false := by simp [World.frozen?, kr]
      have l0 := heap_in kr
      clear kr
      have hzz : ((w2.setCell ⟨w.heap.size, 0, none⟩ (.slice a0 LS.length c0)).setCell ⟨w.heap.size, 1, none⟩ (.slice a1 RT.length c1)).heap.size = w2.heap.size := by simp
      have BE := hide ((((Below.refl w.heap.size w2).setCell (p := ⟨w.heap.size, 0, none⟩) (Nat.le_refl _) (.slice a0 LS.length c0)).setCell (p := ⟨w.heap.size, 1, none⟩) (Nat.le_refl _) (.slice a1 RT.length c1)).alloc (by omega) (.cells #[.slice a0 LS.length c0, .slice a1 RT.length c1] 26))
      have HE2 := hide ((H2.out.agr (((agr_set (j := 0) (Nat.lt_succ_self w.heap.size) (.slice a0 LS.length c0)).trans (agr_set (j := 1) (Nat.lt_succ_self w.heap.size) (.slice a1 RT.length c1))).trans (agr_below ((Below.refl _ _).alloc (Nat.le_refl _) (.cells #[.slice a0 LS.length c0, .slice a1 RT.length c1] 26)) (Nat.le_refl _)))).mono (Nat.le_succ w.heap.size))
      clear hzz
      go_wp2
      exact bodyPost_ret (v := .agg #[.slice a0 LS.length c0, .slice a1 RT.length c1]) (by simp [results, Tryz.results49, go_sem, r0, r1, l0]) rfl ⟨_, _, _, _, _, _, _, _, rfl, HE2.out, _, by omega, R2.out.low BE.out hlow, O2.out.then BE.out⟩
end Go.Proofs.YtkophfgkcijjkaaGreatDoor.Vp
namespace Go.Proofs.YtkophfgkcijjkaaGreatDoor.Vp
open Go.RowKit Go.Proofs.YtkophfgkcijjkaaGreatDoor.Ca
set_option maxRecDepth 100000 in
set_option maxHeartbeats 8000000 in
theorem l2AskedName_any (R p b0 n0 c0 n1 c1 : Nat) (a0 : Option Addr) (f0 : Nat → Source) (a1 : Option Addr) (f1 : Nat → Target) (w : World) (hR : Rd w R p) (hp : p ≤ 50000) (hb : R < b0) (hH : HSp b0 w a0 n0 f0 a1 n1 f1) :
    Calls Tryz.prog 52 #[.pointer (some ⟨R, 0, none⟩), .agg #[.slice a0 n0 c0, .slice a1 n1 c1]] w fun e w' => ∃ t : ByteArray, e = .returned (.string t) ∧ ∃ q : Nat, q ≤ p + 3 ∧ Rd w' R q ∧ Only R w w' := by
  have HR := hide hR
  have hlow := hR.lt
  have hn1 := hH.hn1
  have HH := hide hH
  clear hR hH
  have A0 := hide ((Below.refl w.heap.size w).alloc (Nat.le_refl _) (.cells #[.slice a0 n0 c0, .slice a1 n1 c1] 26))
  have K0 : Hid ((w.alloc (.cells #[.slice a0 n0 c0, .slice a1 n1 c1] 26)).heap[w.heap.size]? = some (.cells #[.slice a0 n0 c0, .slice a1 n1 c1] 26 (0, 0))) := heap_alloc_new w _
  have hz0 : (w.alloc (.cells #[.slice a0 n0 c0, .slice a1 n1 c1] 26)).heap.size = w.heap.size + 1 := by simp
  by_cases hn : 0 < (n1 : Int)
  · go_enter Tryz.func52, Tryz.ntmps52
    go_wp2_with fail
    generalize w.alloc (.cells #[.slice a0 n0 c0, .slice a1 n1 c1] 26) = W0 at A0 K0 hz0 ⊢
    have R0 := hide (HR.out.below A0.out (Nat.le_refl _))
    have O0 : Hid (Only R w W0) := Only.of_below A0.out
    refine (pick_any R p 8 _ R0.out (by omega) (by omega) (by omega)).mono ?_
    rintro e w1 ⟨z, rfl, hz0', hz1', hR1, hO1⟩
    have R1 := hide hR1
    have O1 := hide (O0.out.trans hO1)
    have K1 := hide ((hO1.block w.heap.size (by omega) (by omega)).trans K0.out)
    clear hR1 hO1 R0 O0 K0 A0
    have kb := K1.out
    have x1 : w1.cell? ⟨w.heap.size, 1, none⟩ = some (.slice a1 n1 c1) := by simp [World.cell?, kb]
    have l1 := heap_in kb
    clear kb
    by_cases hz : 0 < z
    · go_wp2_with fail
      refine wp_region_N (fun V => V.cell? ⟨w.heap.size, 1, none⟩ = some (.slice a1 n1 c1)) 10 (by as_aux_lemma => kernel_rfl) ?_
      have HS : Hid (w1.drew.cell? ⟨w.heap.size, 1, none⟩ = some (.slice a1 n1 c1)) := x1
      iterate 6
        refine anyN_nx 0 (v := ?_) rfl rfl (by as_aux_lemma => kernel_rfl) (fun _ _ _ h => h) rfl ?_ HS.out ?_
        rotate_left
        · (intro wz s0; go_simp)
          (try with_reducible rfl)
        (try simp only [Act.put, nzL])
      refine anyN_one (i := 6) rfl (by as_aux_lemma => kernel_rfl) (fun K hK => ?_)
      go_simp
      go_at_call 51
      refine (pick_any R _ (n1 : Int) _ (R1.out.below (Below.refl _ _).drew (Nat.le_refl _)) (by omega) (by omega) (by omega)).mono ?_
      rintro e w3 ⟨z3, rfl, h30, h31, hR3, hO3⟩
      obtain ⟨m3, rfl⟩ := Int.eq_ofNat_of_zero_le h30
      have OO : Hid (Only R w1 w3) := (Only.of_below (Below.refl _ _).drew).trans hO3
      have R3 := hide hR3
      have O3 := hide (O1.out.trans OO.out)
      have hm3 : m3 < n1 := by omega
      clear hR3 hO3 HS
      have HS : Hid (w3.cell? ⟨w.heap.size, 1, none⟩ = some (.slice a1 n1 c1)) := (OO.out.cell w.heap.size 1 l1 (by omega)).trans x1
      rcases (HH.out.sl w3 (O3.out.agr hb)).2 with h0 | ⟨tb, tof, rfl, hrow⟩
      · omega
      have kn := (hrow.2 m3 hm3).1
      have hl := hrow.1
      clear hrow x1
      refine hK.out _ _ (fun _ => HS.out) ?_
      clear hK K
      (try simp only [Act.put, nzL])
      iterate 4
        refine anyN_on 7 rfl rfl (by as_aux_lemma => kernel_rfl) (fun K hK => ?_)
        go_simp
        refine hK.out _ _ (fun _ => HS.out) ?_
        clear hK K
        (try simp only [Act.put, nzL])
      refine anyN_done (by as_aux_lemma => kernel_rfl) ?_ _
      go_wp2
      go_ret
      exact ⟨_, rfl, _, by omega, R3.out, O3.out⟩
    · go_wp2_with fail
      have BL := hide ((Below.refl w1.heap.size w1).alloc (Nat.le_refl _) (.cells #[.string ⟨#[97]⟩, .string ⟨#[110, 111, 110, 101]⟩, .string ⟨#[]⟩, .string ⟨#[120, 32, 121]⟩, .string ⟨#[116, 48]⟩] 9))
      have RL := hide (R1.out.below BL.out (Nat.le_refl _))
      have OL := hide (O1.out.then (BL.out.mono (by omega)))
      have hl3 : (w1.alloc (.cells #[.string ⟨#[97]⟩, .string ⟨#[110, 111, 110, 101]⟩, .string ⟨#[]⟩, .string ⟨#[120, 32, 121]⟩, .string ⟨#[116, 48]⟩] 9)).heap[w1.heap.size]? = some (.cells #[.string ⟨#[97]⟩, .string ⟨#[110, 111, 110, 101]⟩, .string ⟨#[]⟩, .string ⟨#[120, 32, 121]⟩, .string ⟨#[116, 48]⟩] 9 (0, 0)) := heap_alloc_new w1 _
      have hs3 := heap_in hl3
      have HL3 := hide hl3
      clear BL hl3
      generalize w1.alloc (.cells #[.string ⟨#[97]⟩, .string ⟨#[110, 111, 110, 101]⟩, .string ⟨#[]⟩, .string ⟨#[120, 32, 121]⟩, .string ⟨#[116, 48]⟩] 9) = WL at RL OL HL3 hs3 ⊢
      refine (pick_any R _ 5 _ RL.out (by omega) (by omega) (by omega)).mono ?_
      rintro e w3 ⟨z3, rfl, h30, h31, hR3, hO3⟩
      obtain ⟨m3, rfl⟩ := Int.eq_ofNat_of_zero_le h30
      have hm3 : m3 < 5 := by omega
      have R3 := hide hR3
      have O3 := hide (OL.out.trans hO3)
      obtain ⟨sx, hcx⟩ := lit5_at ((hO3.block (w1.heap.size) hs3 (by omega)).trans HL3.out) m3 hm3
      clear hR3 hO3 HL3 RL OL
      go_wp2
      go_ret
      exact ⟨sx, rfl, _, by omega, R3.out, O3.out⟩
  · go_enter Tryz.func52, Tryz.ntmps52
    go_wp2_with fail
    generalize w.alloc (.cells #[.slice a0 n0 c0, .slice a1 n1 c1] 26) = W0 at A0 K0 hz0 ⊢
    have R0 := hide (HR.out.below A0.out (Nat.le_refl _))
    have O0 : Hid (Only R w W0) := Only.of_below A0.out
    have l0 := heap_in K0.out
    have BL := hide ((Below.refl W0.heap.size W0).alloc (Nat.le_refl _) (.cells #[.string ⟨#[97]⟩, .string ⟨#[110, 111, 110, 101]⟩, .string ⟨#[]⟩, .string ⟨#[120, 32, 121]⟩, .string ⟨#[116, 48]⟩] 9))
    have RL := hide (R0.out.below BL.out (Nat.le_refl _))
    have OL := hide (O0.out.then (BL.out.mono (by omega)))
    have hl3 : (W0.alloc (.cells #[.string ⟨#[97]⟩, .string ⟨#[110, 111, 110, 101]⟩, .string ⟨#[]⟩, .string ⟨#[120, 32, 121]⟩, .string ⟨#[116, 48]⟩] 9)).heap[w.heap.size + 1]? = some (.cells #[.string ⟨#[97]⟩, .string ⟨#[110, 111, 110, 101]⟩, .string ⟨#[]⟩, .string ⟨#[120, 32, 121]⟩, .string ⟨#[116, 48]⟩] 9 (0, 0)) := (by rw [← hz0]; exact heap_alloc_new W0 _)
    have hs3 := heap_in hl3
    have HL3 := hide hl3
    clear BL hl3
    generalize W0.alloc (.cells #[.string ⟨#[97]⟩, .string ⟨#[110, 111, 110, 101]⟩, .string ⟨#[]⟩, .string ⟨#[120, 32, 121]⟩, .string ⟨#[116, 48]⟩] 9) = WL at RL OL HL3 hs3 ⊢
    refine (pick_any R _ 5 _ RL.out (by omega) (by omega) (by omega)).mono ?_
    rintro e w3 ⟨z3, rfl, h30, h31, hR3, hO3⟩
    obtain ⟨m3, rfl⟩ := Int.eq_ofNat_of_zero_le h30
    have hm3 : m3 < 5 := by omega
    have R3 := hide hR3
    have O3 := hide (OL.out.trans hO3)
    obtain ⟨sx, hcx⟩ := lit5_at ((hO3.block (w.heap.size + 1) hs3 (by omega)).trans HL3.out) m3 hm3
    clear hR3 hO3 HL3 RL OL
    go_wp2
    go_ret
    exact ⟨sx, rfl, _, by omega, R3.out, O3.out⟩
end Go.Proofs.YtkophfgkcijjkaaGreatDoor.Vp
