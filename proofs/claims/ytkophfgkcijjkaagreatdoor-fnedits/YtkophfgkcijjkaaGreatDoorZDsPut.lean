import Derived.Test.YtkophfgkcijjkaaGreatDoorYN
namespace Go.Proofs.YtkophfgkcijjkaaGreatDoor.Vp
open Go.RowKit Go.Proofs.YtkophfgkcijjkaaGreatDoor.Ca
def DPS (w : World) (e : Ending) (w' : World) : Prop := ∃ (a0 : Option Addr) (n0 c0 : Nat) (f0 : Nat → Source) (a1 : Option Addr) (n1 c1 : Nat) (f1 : Nat → Target) (t tx : ByteArray), e = .returned (.tuple #[.agg #[.slice a0 n0 c0, .slice a1 n1 c1], .string t, .string tx]) ∧ HSp w.heap.size w' a0 n0 f0 a1 n1 f1 ∧ Below w.heap.size w w'
theorem lit2_at {w : World} {b : Nat} {s0 s1 : ByteArray} {t : TypeId} {fz : Nat × Nat} (h : w.heap[b]? = some (.cells #[.string s0, .string s1] t fz)) (k : Nat) (hk : k < 2) : ∃ s, w.cell? ⟨b, k, none⟩ = some (.string s) := by
  match k, hk with
  | 0, _ => exact ⟨s0, by simp [World.cell?, h]⟩
  | 1, _ => exact ⟨s1, by simp [World.cell?, h]⟩
  | j + 2, h5 => exact absurd h5 (by omega)
theorem set_two {w : World} {b : Nat} {u0 u1 v0 v1 : Value} {t : TypeId} {fz : Nat × Nat} (h : w.heap[b]? = some (.cells #[u0, u1] t fz)) : ((w.setCell ⟨b, 0, none⟩ v0).setCell ⟨b, 1, none⟩ v1).heap[b]? = some (.cells #[v0, v1] t fz) := by
  simp [World.setCell, Array.getElem?_modify, h]
set_option maxRecDepth 100000 in
set_option maxHeartbeats 8000000 in
theorem drawPutS_any (a : Option Addr) (n cap : Nat) (w : World) (hn : (n : Int) ≤ 1048576) (hc : n ≤ cap) (hS : ByteSl w a n) :
    Calls Tryz.prog 8 #[.slice a n cap] w fun e w' => DPS w e w' := by
  have S0 := hide hS
  clear hS
  go_enter Tryz.func8, Tryz.ntmps8
  go_wp2_with fail
  have A0 := hide ((Below.refl w.heap.size w).alloc (Nat.le_refl _) (.cells #[.slice none 0 0, .slice none 0 0] 26))
  have KA : Hid ((w.alloc (.cells #[.slice none 0 0, .slice none 0 0] 26)).heap[w.heap.size]? = some (.cells #[.slice none 0 0, .slice none 0 0] 26 (0, 0))) := heap_alloc_new w _
  have hzA : (w.alloc (.cells #[.slice none 0 0, .slice none 0 0] 26)).heap.size = w.heap.size + 1 := by simp
  generalize w.alloc (.cells #[.slice none 0 0, .slice none 0 0] 26) = W0 at A0 KA hzA ⊢
  refine (l1Open_any a n cap _ hn hc (S0.out.below A0.out (Nat.le_refl _))).mono ?_
  rintro e w1 ⟨R, rfl, hRz, hR1, hB1⟩
  have R1 := hide hR1
  have B1 := hide (A0.out.trans (hB1.mono (by omega)))
  have K1 := hide ((hB1.block w.heap.size (by omega)).trans KA.out)
  have hs1 := hB1.size
  have hRl := hR1.lt
  clear hR1 hB1 A0 KA
  go_wp2_with fail
  refine (l2Any_any R 0 _ R1.out (by omega)).mono ?_
  rintro e w2 ⟨a0, n0, c0, f0, a1, n1, c1, f1, rfl, hH2, q2, hq2, hR2, hO2⟩
  have hs2 := hO2.size
  have BS := hide ((Below.refl w2.heap.size w2).alloc (Nat.le_refl _) (.cells #[.slice a0 n0 c0, .slice a1 n1 c1] 26))
  have RS := hide (hR2.below BS.out (Nat.le_refl _))
  have B2 := B1.out.trans (hO2.below (by omega) B1.out.size)
  have BX := hide (B2.trans (BS.out.mono B2.size))
  have HX := hide (hH2.agr (agr_below BS.out (Nat.le_refl _)))
  have KX := hide ((BS.out.block w.heap.size (by omega)).trans ((hO2.block w.heap.size (by omega) (by omega)).trans K1.out))
  have SX : Hid ((w2.alloc (.cells #[.slice a0 n0 c0, .slice a1 n1 c1] 26)).heap[w2.heap.size]? = some (.cells #[.slice a0 n0 c0, .slice a1 n1 c1] 26 (0, 0))) := heap_alloc_new w2 _
  have hRb : R < w1.heap.size := hRl
  have hR2l : R < w2.heap.size := by omega
  clear hH2 hR2 hO2 B2 R1 B1 K1
  go_wp2_with fail
  generalize w2.alloc (.cells #[.slice a0 n0 c0, .slice a1 n1 c1] 26) = WX at RS BX HX KX SX BS ⊢
  have RX := RS
  clear RS BS
  refine (l1Name_any R _ _ RX.out (by omega)).mono ?_
  rintro e w3 ⟨nm, rfl, hnm, hR, hO⟩
  have B3 := hide (BX.out.trans (hO.below (by omega) BX.out.size))
  have H3 := hide (HX.out.agr (hO.agr hRb))
  have K3 := hide ((hO.block w.heap.size (heap_in KX.out) (by omega)).trans KX.out)
  have S3 := hide ((hO.block w2.heap.size (heap_in SX.out) (by omega)).trans SX.out)
  have R3 := hide hR
  clear hO hR BX HX KX SX RX
  go_wp2_with fail
  refine (pick_any R _ 10 _ R3.out (by omega) (by omega) (by omega)).mono ?_
  rintro e w4 ⟨z4, rfl, h40, h41, hR, hO⟩
  have B4 := hide (B3.out.trans (hO.below (by omega) B3.out.size))
  have H4 := hide (H3.out.agr (hO.agr hRb))
  have K4 := hide ((hO.block w.heap.size (heap_in K3.out) (by omega)).trans K3.out)
  have S4 := hide ((hO.block w2.heap.size (heap_in S3.out) (by omega)).trans S3.out)
  have R4 := hide hR
  clear hO hR B3 H3 K3 S3 R3
  by_cases h4 : z4 = 0
  · subst h4
    have ks4 := S4.out
    have y0 : w4.cell? ⟨w2.heap.size, 0, none⟩ = some (.slice a0 n0 c0) := by simp [World.cell?, ks4]
    have y1 : w4.cell? ⟨w2.heap.size, 1, none⟩ = some (.slice a1 n1 c1) := by simp [World.cell?, ks4]
    clear ks4
    go_wp2_with fail
    refine (l2AskedName_any R _ w1.heap.size n0 c0 n1 c1 a0 f0 a1 f1 _ R4.out (by omega) hRb H4.out).mono ?_
    rintro e w5 ⟨nm2, rfl, q5, hq5, hR, hO⟩
    clear y0 y1
    have B5 := hide (B4.out.trans (hO.below (by omega) B4.out.size))
    have H5 := hide (H4.out.agr (hO.agr hRb))
    have K5 := hide ((hO.block w.heap.size (heap_in K4.out) (by omega)).trans K4.out)
    have S5 := hide ((hO.block w2.heap.size (heap_in S4.out) (by omega)).trans S4.out)
    have R5 := hide hR
    clear hO hR B4 H4 K4 S4 R4
    go_wp2_with fail
    refine (pick_any R _ 12 _ R5.out (by omega) (by omega) (by omega)).mono ?_
    rintro e w6 ⟨z6, rfl, h60, h61, hR, hO⟩
    have B6 := hide (B5.out.trans (hO.below (by omega) B5.out.size))
    have H6 := hide (H5.out.agr (hO.agr hRb))
    have K6 := hide ((hO.block w.heap.size (heap_in K5.out) (by omega)).trans K5.out)
    have S6 := hide ((hO.block w2.heap.size (heap_in S5.out) (by omega)).trans S5.out)
    have R6 := hide hR
    clear hO hR B5 H5 K5 S5 R5
    by_cases h6 : z6 = 0
    · subst h6
      go_wp2_with fail
      have R6' := R6
      have SB : Hid (∀ V : World, V.heap[w2.heap.size]? = some (.cells #[.slice a0 n0 c0, .slice a1 n1 c1] 26 (0, 0)) → V.heap[w2.heap.size]? = some (.cells #[.slice a0 n0 c0, .slice a1 n1 c1] 26 (0, 0)) ∧ V.cell? ⟨w2.heap.size, 0, none⟩ = some (.slice a0 n0 c0) ∧ V.cell? ⟨w2.heap.size, 1, none⟩ = some (.slice a1 n1 c1)) := fun V h => ⟨h, by simp [World.cell?, h], by simp [World.cell?, h]⟩
      refine wp_region_held_drew (S := fun V => V.heap[w2.heap.size]? = some (.cells #[.slice a0 n0 c0, .slice a1 n1 c1] 26 (0, 0)) ∧ V.cell? ⟨w2.heap.size, 0, none⟩ = some (.slice a0 n0 c0) ∧ V.cell? ⟨w2.heap.size, 1, none⟩ = some (.slice a1 n1 c1)) (by as_aux_lemma => kernel_rfl) (SB.out w6 S6.out) (fun hS => ?_)
      have HS := hide hS
      clear hS
      have hl6 := heap_in S6.out
      have hR6 : R < w6.heap.size := by omega
      have hw6 : w.heap.size < w6.heap.size := by omega
      have O0 : Hid (Only R w6 w6.drew) := Only.of_below (Below.refl _ _).drew
      have P0 := hide (R6.out.below (Below.refl _ _).drew (Nat.le_refl _))
      generalize w6.drew = v0 at O0 P0 HS ⊢
      iterate 2
        refine anyS_nx 0 (v := ?_) rfl rfl (by as_aux_lemma => kernel_rfl) (fun _ _ _ h => h) rfl ?_ HS.out ?_
        rotate_left
        · (intro wz hSw; obtain ⟨s0, s1, s2⟩ := hSw; go_simp)
          (try with_reducible rfl)
        (try simp only [Act.put, nzL])
      refine anyS_nx 5 (v := ?_) rfl rfl (by as_aux_lemma => kernel_rfl) (fun _ _ _ h => h) rfl ?_ HS.out ?_
      rotate_left
      · (intro wz hSw; obtain ⟨s0, s1, s2⟩ := hSw; go_simp)
        (try with_reducible rfl)
      (try simp only [Act.put, nzL])
      refine anyS_two (i := 2) (j := 4) rfl rfl (by as_aux_lemma => kernel_rfl) (fun K hK => ?_) (fun K hK => ?_)
      · skip
        go_simp
        go_at_call 51
        refine (pick_any R _ 2 _ P0.out (by omega) (by omega) (by omega)).mono ?_
        rintro e v1 ⟨zl, rfl, hzl0, hzl1, hR, hO⟩
        have O1 := hide (O0.out.trans hO)
        have P1 := hide hR
        clear hR P0
        skip
        skip
        clear hO HS O0
        have HS := hide (SB.out v1 ((O1.out.block w2.heap.size hl6 (by omega)).trans S6.out))
        refine hK.out _ _ HS.out ?_
        clear hK K
        (try simp only [Act.put, nzL])
        refine anyS_two (i := 3) (j := 4) rfl rfl (by as_aux_lemma => kernel_rfl) (fun K hK => ?_) (fun K hK => ?_)
        · skip
          go_simp
          go_at_call 53
          refine (l2Full_any w1.heap.size n0 c0 n1 c1 a0 f0 a1 f1 zl _ (by omega) (by omega) (H6.out.agr (O1.out.agr hRb))).mono ?_
          rintro e v2 ⟨b0, m0, d0, g0, b1, m1, d1, g1, rfl, hH, hB⟩
          have hO : Only R v1 v2 := Only.of_below hB
          have O2 := hide (O1.out.trans hO)
          have P2 := hide (P1.out.below hB (Nat.le_refl _))
          have H2' := hide (hH.mono (show w6.heap.size ≤ v1.heap.size from O1.out.size))
          clear hH hB P1
          skip
          clear hO HS O1
          have HS := hide (SB.out v2 ((O2.out.block w2.heap.size hl6 (by omega)).trans S6.out))
          refine hK.out _ _ HS.out ?_
          clear hK K
          (try simp only [Act.put, nzL])
          refine anyS_two (i := 4) (j := 6) rfl rfl (by as_aux_lemma => kernel_rfl) (fun K hK => ?_) (fun K hK => ?_)
          · skip
            go_simp
            have hB := (Below.refl v2.heap.size v2).alloc (Nat.le_refl _) (.cells #[.string ⟨#[97]⟩, .string ⟨#[122, 110, 101, 119]⟩] 9)
            have hO : Only R v2 (v2.alloc (.cells #[.string ⟨#[97]⟩, .string ⟨#[122, 110, 101, 119]⟩] 9)) := Only.of_below hB
            have L3 : Hid ((v2.alloc (.cells #[.string ⟨#[97]⟩, .string ⟨#[122, 110, 101, 119]⟩] 9)).heap[v2.heap.size]? = some (.cells #[.string ⟨#[97]⟩, .string ⟨#[122, 110, 101, 119]⟩] 9 (0, 0))) := heap_alloc_new v2 _
            have O3 := hide (O2.out.trans hO)
            have P3 := hide (P2.out.below hB (Nat.le_refl _))
            have hg6 : w6.heap.size ≤ v2.heap.size := O2.out.size
            clear hB P2
            have H3' := hide (H2'.out.agr (hO.agr hR6))
            clear H2'
            generalize v2.alloc (.cells #[.string ⟨#[97]⟩, .string ⟨#[122, 110, 101, 119]⟩] 9) = v3 at *
            generalize v2.heap.size = g at L3 hg6 ⊢
            have hgR : g ≠ R := by omega
            clear hO HS O2
            have HS := hide (SB.out v3 ((O3.out.block w2.heap.size hl6 (by omega)).trans S6.out))
            refine hK.out _ _ HS.out ?_
            clear hK K
            (try simp only [Act.put, nzL])
            refine anyS_one (i := 6) rfl (by as_aux_lemma => kernel_rfl) (fun K hK => ?_)
            go_simp
            go_at_call 51
            refine (pick_any R _ 2 _ P3.out (by omega) (by omega) (by omega)).mono ?_
            rintro e v4 ⟨zi, rfl, hzi0, hzi1, hR, hO⟩
            have O4 := hide (O3.out.trans hO)
            have P4 := hide hR
            clear hR P3
            have L4 := hide ((hO.block g (heap_in L3.out) hgR).trans L3.out)
            clear L3
            have H4' := hide (H3'.out.agr (hO.agr hR6))
            clear H3'
            clear hO HS O3
            have HS := hide (SB.out v4 ((O4.out.block w2.heap.size hl6 (by omega)).trans S6.out))
            refine hK.out _ _ HS.out ?_
            clear hK K
            (try simp only [Act.put, nzL])
            obtain ⟨m, rfl⟩ := Int.eq_ofNat_of_zero_le hzi0
            have hm : m < 2 := by omega
            refine anyS_nx 7 (v := ?_) rfl rfl (by as_aux_lemma => kernel_rfl) (fun _ _ _ h => h) rfl ?_ HS.out ?_
            rotate_left
            · (intro wz hSw; obtain ⟨s0, s1, s2⟩ := hSw; go_simp)
              (try with_reducible rfl)
            (try simp only [Act.put, nzL])
            refine anyS_two (i := 8) (j := 9) rfl rfl (by as_aux_lemma => kernel_rfl) (fun K hK => ?_) (fun K hK => ?_)
            · obtain ⟨sx, hcx⟩ := lit2_at L4.out m hm
              go_simp
              refine hK.out _ _ HS.out ?_
              clear hK K
              (try simp only [Act.put, nzL])
              clear hcx
              refine anyS_one (i := 9) rfl (by as_aux_lemma => kernel_rfl) (fun K hK => ?_)
              have hO6 := O4.out
              have BE := hide (B6.out.trans (hO6.below (by omega) B6.out.size))
              have KE := hide ((hO6.block w.heap.size (heap_in K6.out) (by omega)).trans K6.out)
              have SE := hide ((hO6.block w2.heap.size hl6 (by omega)).trans S6.out)
              clear hO6 O4 P4 HS
              have kr := KE.out
              have r0 : v4.cell? ⟨w.heap.size, 0, none⟩ = some (.slice none 0 0) := by simp [World.cell?, kr]
              have r1 : v4.cell? ⟨w.heap.size, 1, none⟩ = some (.slice none 0 0) := by simp [World.cell?, kr]
              have t0 : v4.frozen? ⟨w.heap.size, 0, none⟩ = false := by simp [World.frozen?, kr]
              have t1 : v4.frozen? ⟨w.heap.size, 1, none⟩ = false := by simp [World.frozen?, kr]
              have l0 := heap_in kr
              clear kr
              go_simp
              clear r0 r1 t0 t1 l0
              have KF := hide (set_two (v0 := .slice b0 m0 d0) (v1 := .slice b1 m1 d1) KE.out)
              have BF := hide ((BE.out.setCell (p := ⟨w.heap.size, 0, none⟩) (Nat.le_refl _) (.slice b0 m0 d0)).setCell (p := ⟨w.heap.size, 1, none⟩) (Nat.le_refl _) (.slice b1 m1 d1))
              have HF := hide ((H4'.out.agr ((agr_set (w := v4) (j := 0) hw6 (.slice b0 m0 d0)).trans (agr_set (j := 1) hw6 (.slice b1 m1 d1)))).mono (show w.heap.size ≤ w6.heap.size by omega))
              have SF := hide (((Below.heap_setCell _ ⟨w.heap.size, 1, none⟩ (.slice b1 m1 d1) w2.heap.size (by show w2.heap.size ≠ w.heap.size; omega)).trans (Below.heap_setCell v4 ⟨w.heap.size, 0, none⟩ (.slice b0 m0 d0) w2.heap.size (by show w2.heap.size ≠ w.heap.size; omega))).trans SE.out)
              skip
              clear BE KE SE H4'
              generalize (v4.setCell ⟨w.heap.size, 0, none⟩ (.slice b0 m0 d0)).setCell ⟨w.heap.size, 1, none⟩ (.slice b1 m1 d1) = vF at *
              have HS := hide (SB.out vF SF.out)
              refine hK.out _ _ HS.out ?_
              clear hK K
              (try simp only [Act.put, nzL])
              iterate 2
                refine anyS_on 10 rfl rfl (by as_aux_lemma => kernel_rfl) (fun K hK => ?_)
                go_simp
                refine hK.out _ _ HS.out ?_
                clear hK K
                (try simp only [Act.put, nzL])
              refine wpAnyH_done (by as_aux_lemma => kernel_rfl) ?_ _
              have kr := KF.out
              have r0 : vF.cell? ⟨w.heap.size, 0, none⟩ = some (.slice b0 m0 d0) := by simp [World.cell?, kr]
              have r1 : vF.cell? ⟨w.heap.size, 1, none⟩ = some (.slice b1 m1 d1) := by simp [World.cell?, kr]
              clear kr
              go_wp2
              exact bodyPost_ret (v := .tuple #[.agg #[.slice b0 m0 d0, .slice b1 m1 d1], .string sx, .string ⟨#[120]⟩]) (by simp [results, Tryz.results8, go_sem, r0, r1]) rfl ⟨_, _, _, _, _, _, _, _, _, _, rfl, HF.out, BF.out⟩
            · skip
              have hO6 := O4.out
              have BE := hide (B6.out.trans (hO6.below (by omega) B6.out.size))
              have KE := hide ((hO6.block w.heap.size (heap_in K6.out) (by omega)).trans K6.out)
              have SE := hide ((hO6.block w2.heap.size hl6 (by omega)).trans S6.out)
              clear hO6 O4 P4 HS
              have kr := KE.out
              have r0 : v4.cell? ⟨w.heap.size, 0, none⟩ = some (.slice none 0 0) := by simp [World.cell?, kr]
              have r1 : v4.cell? ⟨w.heap.size, 1, none⟩ = some (.slice none 0 0) := by simp [World.cell?, kr]
              have t0 : v4.frozen? ⟨w.heap.size, 0, none⟩ = false := by simp [World.frozen?, kr]
              have t1 : v4.frozen? ⟨w.heap.size, 1, none⟩ = false := by simp [World.frozen?, kr]
              have l0 := heap_in kr
              clear kr
              go_simp
              clear r0 r1 t0 t1 l0
              have KF := hide (set_two (v0 := .slice b0 m0 d0) (v1 := .slice b1 m1 d1) KE.out)
              have BF := hide ((BE.out.setCell (p := ⟨w.heap.size, 0, none⟩) (Nat.le_refl _) (.slice b0 m0 d0)).setCell (p := ⟨w.heap.size, 1, none⟩) (Nat.le_refl _) (.slice b1 m1 d1))
              have HF := hide ((H4'.out.agr ((agr_set (w := v4) (j := 0) hw6 (.slice b0 m0 d0)).trans (agr_set (j := 1) hw6 (.slice b1 m1 d1)))).mono (show w.heap.size ≤ w6.heap.size by omega))
              have SF := hide (((Below.heap_setCell _ ⟨w.heap.size, 1, none⟩ (.slice b1 m1 d1) w2.heap.size (by show w2.heap.size ≠ w.heap.size; omega)).trans (Below.heap_setCell v4 ⟨w.heap.size, 0, none⟩ (.slice b0 m0 d0) w2.heap.size (by show w2.heap.size ≠ w.heap.size; omega))).trans SE.out)
              have LF := hide (((Below.heap_setCell _ ⟨w.heap.size, 1, none⟩ (.slice b1 m1 d1) g (by show g ≠ w.heap.size; omega)).trans (Below.heap_setCell v4 ⟨w.heap.size, 0, none⟩ (.slice b0 m0 d0) g (by show g ≠ w.heap.size; omega))).trans L4.out)
              clear L4
              clear BE KE SE H4'
              generalize (v4.setCell ⟨w.heap.size, 0, none⟩ (.slice b0 m0 d0)).setCell ⟨w.heap.size, 1, none⟩ (.slice b1 m1 d1) = vF at *
              have HS := hide (SB.out vF SF.out)
              refine hK.out _ _ HS.out ?_
              clear hK K
              (try simp only [Act.put, nzL])
              obtain ⟨sx, hcx⟩ := lit2_at LF.out m hm
              refine anyS_one (i := 8) rfl (by as_aux_lemma => kernel_rfl) (fun K hK => ?_)
              go_simp
              refine hK.out _ _ HS.out ?_
              clear hK K
              (try simp only [Act.put, nzL])
              iterate 2
                refine anyS_on 10 rfl rfl (by as_aux_lemma => kernel_rfl) (fun K hK => ?_)
                go_simp
                refine hK.out _ _ HS.out ?_
                clear hK K
                (try simp only [Act.put, nzL])
              refine wpAnyH_done (by as_aux_lemma => kernel_rfl) ?_ _
              have kr := KF.out
              have r0 : vF.cell? ⟨w.heap.size, 0, none⟩ = some (.slice b0 m0 d0) := by simp [World.cell?, kr]
              have r1 : vF.cell? ⟨w.heap.size, 1, none⟩ = some (.slice b1 m1 d1) := by simp [World.cell?, kr]
              clear kr
              go_wp2
              exact bodyPost_ret (v := .tuple #[.agg #[.slice b0 m0 d0, .slice b1 m1 d1], .string sx, .string ⟨#[120]⟩]) (by simp [results, Tryz.results8, go_sem, r0, r1]) rfl ⟨_, _, _, _, _, _, _, _, _, _, rfl, HF.out, BF.out⟩
          · skip
            go_simp
            go_at_call 51
            refine (pick_any R _ 2 _ P2.out (by omega) (by omega) (by omega)).mono ?_
            rintro e v3 ⟨zi, rfl, hzi0, hzi1, hR, hO⟩
            have O3 := hide (O2.out.trans hO)
            have P3 := hide hR
            clear hR P2
            skip
            have H3' := hide (H2'.out.agr (hO.agr hR6))
            clear H2'
            clear hO HS O2
            have HS := hide (SB.out v3 ((O3.out.block w2.heap.size hl6 (by omega)).trans S6.out))
            refine hK.out _ _ HS.out ?_
            clear hK K
            (try simp only [Act.put, nzL])
            refine anyS_two (i := 4) (j := 9) rfl rfl (by as_aux_lemma => kernel_rfl) (fun K hK => ?_) (fun K hK => ?_)
            · skip
              go_simp
              have hB := (Below.refl v3.heap.size v3).alloc (Nat.le_refl _) (.cells #[.string ⟨#[97]⟩, .string ⟨#[122, 110, 101, 119]⟩] 9)
              have hO : Only R v3 (v3.alloc (.cells #[.string ⟨#[97]⟩, .string ⟨#[122, 110, 101, 119]⟩] 9)) := Only.of_below hB
              have L4 : Hid ((v3.alloc (.cells #[.string ⟨#[97]⟩, .string ⟨#[122, 110, 101, 119]⟩] 9)).heap[v3.heap.size]? = some (.cells #[.string ⟨#[97]⟩, .string ⟨#[122, 110, 101, 119]⟩] 9 (0, 0))) := heap_alloc_new v3 _
              have O4 := hide (O3.out.trans hO)
              have P4 := hide (P3.out.below hB (Nat.le_refl _))
              have hg6 : w6.heap.size ≤ v3.heap.size := O3.out.size
              clear hB P3
              have H4' := hide (H3'.out.agr (hO.agr hR6))
              clear H3'
              generalize v3.alloc (.cells #[.string ⟨#[97]⟩, .string ⟨#[122, 110, 101, 119]⟩] 9) = v4 at *
              generalize v3.heap.size = g at L4 hg6 ⊢
              have hgR : g ≠ R := by omega
              clear hO HS O3
              have HS := hide (SB.out v4 ((O4.out.block w2.heap.size hl6 (by omega)).trans S6.out))
              refine hK.out _ _ HS.out ?_
              clear hK K
              (try simp only [Act.put, nzL])
              obtain ⟨m, rfl⟩ := Int.eq_ofNat_of_zero_le hzi0
              have hm : m < 2 := by omega
              refine anyS_nx 7 (v := ?_) rfl rfl (by as_aux_lemma => kernel_rfl) (fun _ _ _ h => h) rfl ?_ HS.out ?_
              rotate_left
              · (intro wz hSw; obtain ⟨s0, s1, s2⟩ := hSw; go_simp)
                (try with_reducible rfl)
              (try simp only [Act.put, nzL])
              refine anyS_two (i := 8) (j := 9) rfl rfl (by as_aux_lemma => kernel_rfl) (fun K hK => ?_) (fun K hK => ?_)
              · obtain ⟨sx, hcx⟩ := lit2_at L4.out m hm
                go_simp
                refine hK.out _ _ HS.out ?_
                clear hK K
                (try simp only [Act.put, nzL])
                clear hcx
                refine anyS_one (i := 9) rfl (by as_aux_lemma => kernel_rfl) (fun K hK => ?_)
                have hO6 := O4.out
                have BE := hide (B6.out.trans (hO6.below (by omega) B6.out.size))
                have KE := hide ((hO6.block w.heap.size (heap_in K6.out) (by omega)).trans K6.out)
                have SE := hide ((hO6.block w2.heap.size hl6 (by omega)).trans S6.out)
                clear hO6 O4 P4 HS
                have kr := KE.out
                have r0 : v4.cell? ⟨w.heap.size, 0, none⟩ = some (.slice none 0 0) := by simp [World.cell?, kr]
                have r1 : v4.cell? ⟨w.heap.size, 1, none⟩ = some (.slice none 0 0) := by simp [World.cell?, kr]
                have t0 : v4.frozen? ⟨w.heap.size, 0, none⟩ = false := by simp [World.frozen?, kr]
                have t1 : v4.frozen? ⟨w.heap.size, 1, none⟩ = false := by simp [World.frozen?, kr]
                have l0 := heap_in kr
                clear kr
                go_simp
                clear r0 r1 t0 t1 l0
                have KF := hide (set_two (v0 := .slice b0 m0 d0) (v1 := .slice b1 m1 d1) KE.out)
                have BF := hide ((BE.out.setCell (p := ⟨w.heap.size, 0, none⟩) (Nat.le_refl _) (.slice b0 m0 d0)).setCell (p := ⟨w.heap.size, 1, none⟩) (Nat.le_refl _) (.slice b1 m1 d1))
                have HF := hide ((H4'.out.agr ((agr_set (w := v4) (j := 0) hw6 (.slice b0 m0 d0)).trans (agr_set (j := 1) hw6 (.slice b1 m1 d1)))).mono (show w.heap.size ≤ w6.heap.size by omega))
                have SF := hide (((Below.heap_setCell _ ⟨w.heap.size, 1, none⟩ (.slice b1 m1 d1) w2.heap.size (by show w2.heap.size ≠ w.heap.size; omega)).trans (Below.heap_setCell v4 ⟨w.heap.size, 0, none⟩ (.slice b0 m0 d0) w2.heap.size (by show w2.heap.size ≠ w.heap.size; omega))).trans SE.out)
                skip
                clear BE KE SE H4'
                generalize (v4.setCell ⟨w.heap.size, 0, none⟩ (.slice b0 m0 d0)).setCell ⟨w.heap.size, 1, none⟩ (.slice b1 m1 d1) = vF at *
                have HS := hide (SB.out vF SF.out)
                refine hK.out _ _ HS.out ?_
                clear hK K
                (try simp only [Act.put, nzL])
                iterate 2
                  refine anyS_on 10 rfl rfl (by as_aux_lemma => kernel_rfl) (fun K hK => ?_)
                  go_simp
                  refine hK.out _ _ HS.out ?_
                  clear hK K
                  (try simp only [Act.put, nzL])
                refine wpAnyH_done (by as_aux_lemma => kernel_rfl) ?_ _
                have kr := KF.out
                have r0 : vF.cell? ⟨w.heap.size, 0, none⟩ = some (.slice b0 m0 d0) := by simp [World.cell?, kr]
                have r1 : vF.cell? ⟨w.heap.size, 1, none⟩ = some (.slice b1 m1 d1) := by simp [World.cell?, kr]
                clear kr
                go_wp2
                exact bodyPost_ret (v := .tuple #[.agg #[.slice b0 m0 d0, .slice b1 m1 d1], .string sx, .string ⟨#[120]⟩]) (by simp [results, Tryz.results8, go_sem, r0, r1]) rfl ⟨_, _, _, _, _, _, _, _, _, _, rfl, HF.out, BF.out⟩
              · skip
                have hO6 := O4.out
                have BE := hide (B6.out.trans (hO6.below (by omega) B6.out.size))
                have KE := hide ((hO6.block w.heap.size (heap_in K6.out) (by omega)).trans K6.out)
                have SE := hide ((hO6.block w2.heap.size hl6 (by omega)).trans S6.out)
                clear hO6 O4 P4 HS
                have kr := KE.out
                have r0 : v4.cell? ⟨w.heap.size, 0, none⟩ = some (.slice none 0 0) := by simp [World.cell?, kr]
                have r1 : v4.cell? ⟨w.heap.size, 1, none⟩ = some (.slice none 0 0) := by simp [World.cell?, kr]
                have t0 : v4.frozen? ⟨w.heap.size, 0, none⟩ = false := by simp [World.frozen?, kr]
                have t1 : v4.frozen? ⟨w.heap.size, 1, none⟩ = false := by simp [World.frozen?, kr]
                have l0 := heap_in kr
                clear kr
                go_simp
                clear r0 r1 t0 t1 l0
                have KF := hide (set_two (v0 := .slice b0 m0 d0) (v1 := .slice b1 m1 d1) KE.out)
                have BF := hide ((BE.out.setCell (p := ⟨w.heap.size, 0, none⟩) (Nat.le_refl _) (.slice b0 m0 d0)).setCell (p := ⟨w.heap.size, 1, none⟩) (Nat.le_refl _) (.slice b1 m1 d1))
                have HF := hide ((H4'.out.agr ((agr_set (w := v4) (j := 0) hw6 (.slice b0 m0 d0)).trans (agr_set (j := 1) hw6 (.slice b1 m1 d1)))).mono (show w.heap.size ≤ w6.heap.size by omega))
                have SF := hide (((Below.heap_setCell _ ⟨w.heap.size, 1, none⟩ (.slice b1 m1 d1) w2.heap.size (by show w2.heap.size ≠ w.heap.size; omega)).trans (Below.heap_setCell v4 ⟨w.heap.size, 0, none⟩ (.slice b0 m0 d0) w2.heap.size (by show w2.heap.size ≠ w.heap.size; omega))).trans SE.out)
                have LF := hide (((Below.heap_setCell _ ⟨w.heap.size, 1, none⟩ (.slice b1 m1 d1) g (by show g ≠ w.heap.size; omega)).trans (Below.heap_setCell v4 ⟨w.heap.size, 0, none⟩ (.slice b0 m0 d0) g (by show g ≠ w.heap.size; omega))).trans L4.out)
                clear L4
                clear BE KE SE H4'
                generalize (v4.setCell ⟨w.heap.size, 0, none⟩ (.slice b0 m0 d0)).setCell ⟨w.heap.size, 1, none⟩ (.slice b1 m1 d1) = vF at *
                have HS := hide (SB.out vF SF.out)
                refine hK.out _ _ HS.out ?_
                clear hK K
                (try simp only [Act.put, nzL])
                obtain ⟨sx, hcx⟩ := lit2_at LF.out m hm
                refine anyS_one (i := 8) rfl (by as_aux_lemma => kernel_rfl) (fun K hK => ?_)
                go_simp
                refine hK.out _ _ HS.out ?_
                clear hK K
                (try simp only [Act.put, nzL])
                iterate 2
                  refine anyS_on 10 rfl rfl (by as_aux_lemma => kernel_rfl) (fun K hK => ?_)
                  go_simp
                  refine hK.out _ _ HS.out ?_
                  clear hK K
                  (try simp only [Act.put, nzL])
                refine wpAnyH_done (by as_aux_lemma => kernel_rfl) ?_ _
                have kr := KF.out
                have r0 : vF.cell? ⟨w.heap.size, 0, none⟩ = some (.slice b0 m0 d0) := by simp [World.cell?, kr]
                have r1 : vF.cell? ⟨w.heap.size, 1, none⟩ = some (.slice b1 m1 d1) := by simp [World.cell?, kr]
                clear kr
                go_wp2
                exact bodyPost_ret (v := .tuple #[.agg #[.slice b0 m0 d0, .slice b1 m1 d1], .string sx, .string ⟨#[120]⟩]) (by simp [results, Tryz.results8, go_sem, r0, r1]) rfl ⟨_, _, _, _, _, _, _, _, _, _, rfl, HF.out, BF.out⟩
            · skip
              have hO6 := O3.out
              have BE := hide (B6.out.trans (hO6.below (by omega) B6.out.size))
              have KE := hide ((hO6.block w.heap.size (heap_in K6.out) (by omega)).trans K6.out)
              have SE := hide ((hO6.block w2.heap.size hl6 (by omega)).trans S6.out)
              clear hO6 O3 P3 HS
              have kr := KE.out
              have r0 : v3.cell? ⟨w.heap.size, 0, none⟩ = some (.slice none 0 0) := by simp [World.cell?, kr]
              have r1 : v3.cell? ⟨w.heap.size, 1, none⟩ = some (.slice none 0 0) := by simp [World.cell?, kr]
              have t0 : v3.frozen? ⟨w.heap.size, 0, none⟩ = false := by simp [World.frozen?, kr]
              have t1 : v3.frozen? ⟨w.heap.size, 1, none⟩ = false := by simp [World.frozen?, kr]
              have l0 := heap_in kr
              clear kr
              go_simp
              clear r0 r1 t0 t1 l0
              have KF := hide (set_two (v0 := .slice b0 m0 d0) (v1 := .slice b1 m1 d1) KE.out)
              have BF := hide ((BE.out.setCell (p := ⟨w.heap.size, 0, none⟩) (Nat.le_refl _) (.slice b0 m0 d0)).setCell (p := ⟨w.heap.size, 1, none⟩) (Nat.le_refl _) (.slice b1 m1 d1))
              have HF := hide ((H3'.out.agr ((agr_set (w := v3) (j := 0) hw6 (.slice b0 m0 d0)).trans (agr_set (j := 1) hw6 (.slice b1 m1 d1)))).mono (show w.heap.size ≤ w6.heap.size by omega))
              have SF := hide (((Below.heap_setCell _ ⟨w.heap.size, 1, none⟩ (.slice b1 m1 d1) w2.heap.size (by show w2.heap.size ≠ w.heap.size; omega)).trans (Below.heap_setCell v3 ⟨w.heap.size, 0, none⟩ (.slice b0 m0 d0) w2.heap.size (by show w2.heap.size ≠ w.heap.size; omega))).trans SE.out)
              skip
              clear BE KE SE H3'
              generalize (v3.setCell ⟨w.heap.size, 0, none⟩ (.slice b0 m0 d0)).setCell ⟨w.heap.size, 1, none⟩ (.slice b1 m1 d1) = vF at *
              have HS := hide (SB.out vF SF.out)
              refine hK.out _ _ HS.out ?_
              clear hK K
              (try simp only [Act.put, nzL])
              obtain ⟨m, rfl⟩ := Int.eq_ofNat_of_zero_le hzi0
              have hm : m < 2 := by omega
              refine anyS_one (i := 4) rfl (by as_aux_lemma => kernel_rfl) (fun K hK => ?_)
              go_simp
              have hB := (Below.refl vF.heap.size vF).alloc (Nat.le_refl _) (.cells #[.string ⟨#[97]⟩, .string ⟨#[122, 110, 101, 119]⟩] 9)
              have LG : Hid ((vF.alloc (.cells #[.string ⟨#[97]⟩, .string ⟨#[122, 110, 101, 119]⟩] 9)).heap[vF.heap.size]? = some (.cells #[.string ⟨#[97]⟩, .string ⟨#[122, 110, 101, 119]⟩] 9 (0, 0))) := heap_alloc_new vF _
              have SG := hide ((hB.block w2.heap.size (heap_in SF.out)).trans SF.out)
              have KG := hide ((hB.block w.heap.size (heap_in KF.out)).trans KF.out)
              have BG := hide (BF.out.trans (hB.mono BF.out.size))
              have HG := hide (HF.out.agr (agr_below hB (Nat.le_refl _)))
              clear hB HS SF KF BF HF
              generalize vF.alloc (.cells #[.string ⟨#[97]⟩, .string ⟨#[122, 110, 101, 119]⟩] 9) = vG at *
              generalize vF.heap.size = g at *
              have HS := hide (SB.out vG SG.out)
              refine hK.out _ _ HS.out ?_
              clear hK K
              (try simp only [Act.put, nzL])
              have KF := KG
              have BF := BG
              have HF := HG
              refine anyS_nx 7 (v := ?_) rfl rfl (by as_aux_lemma => kernel_rfl) (fun _ _ _ h => h) rfl ?_ HS.out ?_
              rotate_left
              · (intro wz hSw; obtain ⟨s0, s1, s2⟩ := hSw; go_simp)
                (try with_reducible rfl)
              (try simp only [Act.put, nzL])
              obtain ⟨sx, hcx⟩ := lit2_at LG.out m hm
              refine anyS_one (i := 8) rfl (by as_aux_lemma => kernel_rfl) (fun K hK => ?_)
              go_simp
              refine hK.out _ _ HS.out ?_
              clear hK K
              (try simp only [Act.put, nzL])
              iterate 2
                refine anyS_on 10 rfl rfl (by as_aux_lemma => kernel_rfl) (fun K hK => ?_)
                go_simp
                refine hK.out _ _ HS.out ?_
                clear hK K
                (try simp only [Act.put, nzL])
              refine wpAnyH_done (by as_aux_lemma => kernel_rfl) ?_ _
              have kr := KF.out
              have r0 : vG.cell? ⟨w.heap.size, 0, none⟩ = some (.slice b0 m0 d0) := by simp [World.cell?, kr]
              have r1 : vG.cell? ⟨w.heap.size, 1, none⟩ = some (.slice b1 m1 d1) := by simp [World.cell?, kr]
              clear kr
              go_wp2
              exact bodyPost_ret (v := .tuple #[.agg #[.slice b0 m0 d0, .slice b1 m1 d1], .string sx, .string ⟨#[120]⟩]) (by simp [results, Tryz.results8, go_sem, r0, r1]) rfl ⟨_, _, _, _, _, _, _, _, _, _, rfl, HF.out, BF.out⟩
        · skip
          go_simp
          have hB := (Below.refl v1.heap.size v1).alloc (Nat.le_refl _) (.cells #[.string ⟨#[97]⟩, .string ⟨#[122, 110, 101, 119]⟩] 9)
          have hO : Only R v1 (v1.alloc (.cells #[.string ⟨#[97]⟩, .string ⟨#[122, 110, 101, 119]⟩] 9)) := Only.of_below hB
          have L2 : Hid ((v1.alloc (.cells #[.string ⟨#[97]⟩, .string ⟨#[122, 110, 101, 119]⟩] 9)).heap[v1.heap.size]? = some (.cells #[.string ⟨#[97]⟩, .string ⟨#[122, 110, 101, 119]⟩] 9 (0, 0))) := heap_alloc_new v1 _
          have O2 := hide (O1.out.trans hO)
          have P2 := hide (P1.out.below hB (Nat.le_refl _))
          have hg6 : w6.heap.size ≤ v1.heap.size := O1.out.size
          clear hB P1
          skip
          generalize v1.alloc (.cells #[.string ⟨#[97]⟩, .string ⟨#[122, 110, 101, 119]⟩] 9) = v2 at *
          generalize v1.heap.size = g at L2 hg6 ⊢
          have hgR : g ≠ R := by omega
          clear hO HS O1
          have HS := hide (SB.out v2 ((O2.out.block w2.heap.size hl6 (by omega)).trans S6.out))
          refine hK.out _ _ HS.out ?_
          clear hK K
          (try simp only [Act.put, nzL])
          refine anyS_one (i := 3) rfl (by as_aux_lemma => kernel_rfl) (fun K hK => ?_)
          go_simp
          go_at_call 53
          refine (l2Full_any w1.heap.size n0 c0 n1 c1 a0 f0 a1 f1 zl _ (by omega) (by omega) (H6.out.agr (O2.out.agr hRb))).mono ?_
          rintro e v3 ⟨b0, m0, d0, g0, b1, m1, d1, g1, rfl, hH, hB⟩
          have hO : Only R v2 v3 := Only.of_below hB
          have O3 := hide (O2.out.trans hO)
          have P3 := hide (P2.out.below hB (Nat.le_refl _))
          have H3' := hide (hH.mono (show w6.heap.size ≤ v2.heap.size from O2.out.size))
          clear hH hB P2
          have L3 := hide ((hO.block g (heap_in L2.out) hgR).trans L2.out)
          clear L2
          clear hO HS O2
          have HS := hide (SB.out v3 ((O3.out.block w2.heap.size hl6 (by omega)).trans S6.out))
          refine hK.out _ _ HS.out ?_
          clear hK K
          (try simp only [Act.put, nzL])
          refine anyS_one (i := 6) rfl (by as_aux_lemma => kernel_rfl) (fun K hK => ?_)
          go_simp
          go_at_call 51
          refine (pick_any R _ 2 _ P3.out (by omega) (by omega) (by omega)).mono ?_
          rintro e v4 ⟨zi, rfl, hzi0, hzi1, hR, hO⟩
          have O4 := hide (O3.out.trans hO)
          have P4 := hide hR
          clear hR P3
          have L4 := hide ((hO.block g (heap_in L3.out) hgR).trans L3.out)
          clear L3
          have H4' := hide (H3'.out.agr (hO.agr hR6))
          clear H3'
          clear hO HS O3
          have HS := hide (SB.out v4 ((O4.out.block w2.heap.size hl6 (by omega)).trans S6.out))
          refine hK.out _ _ HS.out ?_
          clear hK K
          (try simp only [Act.put, nzL])
          obtain ⟨m, rfl⟩ := Int.eq_ofNat_of_zero_le hzi0
          have hm : m < 2 := by omega
          refine anyS_nx 7 (v := ?_) rfl rfl (by as_aux_lemma => kernel_rfl) (fun _ _ _ h => h) rfl ?_ HS.out ?_
          rotate_left
          · (intro wz hSw; obtain ⟨s0, s1, s2⟩ := hSw; go_simp)
            (try with_reducible rfl)
          (try simp only [Act.put, nzL])
          refine anyS_two (i := 8) (j := 9) rfl rfl (by as_aux_lemma => kernel_rfl) (fun K hK => ?_) (fun K hK => ?_)
          · obtain ⟨sx, hcx⟩ := lit2_at L4.out m hm
            go_simp
            refine hK.out _ _ HS.out ?_
            clear hK K
            (try simp only [Act.put, nzL])
            clear hcx
            refine anyS_one (i := 9) rfl (by as_aux_lemma => kernel_rfl) (fun K hK => ?_)
            have hO6 := O4.out
            have BE := hide (B6.out.trans (hO6.below (by omega) B6.out.size))
            have KE := hide ((hO6.block w.heap.size (heap_in K6.out) (by omega)).trans K6.out)
            have SE := hide ((hO6.block w2.heap.size hl6 (by omega)).trans S6.out)
            clear hO6 O4 P4 HS
            have kr := KE.out
            have r0 : v4.cell? ⟨w.heap.size, 0, none⟩ = some (.slice none 0 0) := by simp [World.cell?, kr]
            have r1 : v4.cell? ⟨w.heap.size, 1, none⟩ = some (.slice none 0 0) := by simp [World.cell?, kr]
            have t0 : v4.frozen? ⟨w.heap.size, 0, none⟩ = false := by simp [World.frozen?, kr]
            have t1 : v4.frozen? ⟨w.heap.size, 1, none⟩ = false := by simp [World.frozen?, kr]
            have l0 := heap_in kr
            clear kr
            go_simp
            clear r0 r1 t0 t1 l0
            have KF := hide (set_two (v0 := .slice b0 m0 d0) (v1 := .slice b1 m1 d1) KE.out)
            have BF := hide ((BE.out.setCell (p := ⟨w.heap.size, 0, none⟩) (Nat.le_refl _) (.slice b0 m0 d0)).setCell (p := ⟨w.heap.size, 1, none⟩) (Nat.le_refl _) (.slice b1 m1 d1))
            have HF := hide ((H4'.out.agr ((agr_set (w := v4) (j := 0) hw6 (.slice b0 m0 d0)).trans (agr_set (j := 1) hw6 (.slice b1 m1 d1)))).mono (show w.heap.size ≤ w6.heap.size by omega))
            have SF := hide (((Below.heap_setCell _ ⟨w.heap.size, 1, none⟩ (.slice b1 m1 d1) w2.heap.size (by show w2.heap.size ≠ w.heap.size; omega)).trans (Below.heap_setCell v4 ⟨w.heap.size, 0, none⟩ (.slice b0 m0 d0) w2.heap.size (by show w2.heap.size ≠ w.heap.size; omega))).trans SE.out)
            skip
            clear BE KE SE H4'
            generalize (v4.setCell ⟨w.heap.size, 0, none⟩ (.slice b0 m0 d0)).setCell ⟨w.heap.size, 1, none⟩ (.slice b1 m1 d1) = vF at *
            have HS := hide (SB.out vF SF.out)
            refine hK.out _ _ HS.out ?_
            clear hK K
            (try simp only [Act.put, nzL])
            iterate 2
              refine anyS_on 10 rfl rfl (by as_aux_lemma => kernel_rfl) (fun K hK => ?_)
              go_simp
              refine hK.out _ _ HS.out ?_
              clear hK K
              (try simp only [Act.put, nzL])
            refine wpAnyH_done (by as_aux_lemma => kernel_rfl) ?_ _
            have kr := KF.out
            have r0 : vF.cell? ⟨w.heap.size, 0, none⟩ = some (.slice b0 m0 d0) := by simp [World.cell?, kr]
            have r1 : vF.cell? ⟨w.heap.size, 1, none⟩ = some (.slice b1 m1 d1) := by simp [World.cell?, kr]
            clear kr
            go_wp2
            exact bodyPost_ret (v := .tuple #[.agg #[.slice b0 m0 d0, .slice b1 m1 d1], .string sx, .string ⟨#[120]⟩]) (by simp [results, Tryz.results8, go_sem, r0, r1]) rfl ⟨_, _, _, _, _, _, _, _, _, _, rfl, HF.out, BF.out⟩
          · skip
            have hO6 := O4.out
            have BE := hide (B6.out.trans (hO6.below (by omega) B6.out.size))
            have KE := hide ((hO6.block w.heap.size (heap_in K6.out) (by omega)).trans K6.out)
            have SE := hide ((hO6.block w2.heap.size hl6 (by omega)).trans S6.out)
            clear hO6 O4 P4 HS
            have kr := KE.out
            have r0 : v4.cell? ⟨w.heap.size, 0, none⟩ = some (.slice none 0 0) := by simp [World.cell?, kr]
            have r1 : v4.cell? ⟨w.heap.size, 1, none⟩ = some (.slice none 0 0) := by simp [World.cell?, kr]
            have t0 : v4.frozen? ⟨w.heap.size, 0, none⟩ = false := by simp [World.frozen?, kr]
            have t1 : v4.frozen? ⟨w.heap.size, 1, none⟩ = false := by simp [World.frozen?, kr]
            have l0 := heap_in kr
            clear kr
            go_simp
            clear r0 r1 t0 t1 l0
            have KF := hide (set_two (v0 := .slice b0 m0 d0) (v1 := .slice b1 m1 d1) KE.out)
            have BF := hide ((BE.out.setCell (p := ⟨w.heap.size, 0, none⟩) (Nat.le_refl _) (.slice b0 m0 d0)).setCell (p := ⟨w.heap.size, 1, none⟩) (Nat.le_refl _) (.slice b1 m1 d1))
            have HF := hide ((H4'.out.agr ((agr_set (w := v4) (j := 0) hw6 (.slice b0 m0 d0)).trans (agr_set (j := 1) hw6 (.slice b1 m1 d1)))).mono (show w.heap.size ≤ w6.heap.size by omega))
            have SF := hide (((Below.heap_setCell _ ⟨w.heap.size, 1, none⟩ (.slice b1 m1 d1) w2.heap.size (by show w2.heap.size ≠ w.heap.size; omega)).trans (Below.heap_setCell v4 ⟨w.heap.size, 0, none⟩ (.slice b0 m0 d0) w2.heap.size (by show w2.heap.size ≠ w.heap.size; omega))).trans SE.out)
            have LF := hide (((Below.heap_setCell _ ⟨w.heap.size, 1, none⟩ (.slice b1 m1 d1) g (by show g ≠ w.heap.size; omega)).trans (Below.heap_setCell v4 ⟨w.heap.size, 0, none⟩ (.slice b0 m0 d0) g (by show g ≠ w.heap.size; omega))).trans L4.out)
            clear L4
            clear BE KE SE H4'
            generalize (v4.setCell ⟨w.heap.size, 0, none⟩ (.slice b0 m0 d0)).setCell ⟨w.heap.size, 1, none⟩ (.slice b1 m1 d1) = vF at *
            have HS := hide (SB.out vF SF.out)
            refine hK.out _ _ HS.out ?_
            clear hK K
            (try simp only [Act.put, nzL])
            obtain ⟨sx, hcx⟩ := lit2_at LF.out m hm
            refine anyS_one (i := 8) rfl (by as_aux_lemma => kernel_rfl) (fun K hK => ?_)
            go_simp
            refine hK.out _ _ HS.out ?_
            clear hK K
            (try simp only [Act.put, nzL])
            iterate 2
              refine anyS_on 10 rfl rfl (by as_aux_lemma => kernel_rfl) (fun K hK => ?_)
              go_simp
              refine hK.out _ _ HS.out ?_
              clear hK K
              (try simp only [Act.put, nzL])
            refine wpAnyH_done (by as_aux_lemma => kernel_rfl) ?_ _
            have kr := KF.out
            have r0 : vF.cell? ⟨w.heap.size, 0, none⟩ = some (.slice b0 m0 d0) := by simp [World.cell?, kr]
            have r1 : vF.cell? ⟨w.heap.size, 1, none⟩ = some (.slice b1 m1 d1) := by simp [World.cell?, kr]
            clear kr
            go_wp2
            exact bodyPost_ret (v := .tuple #[.agg #[.slice b0 m0 d0, .slice b1 m1 d1], .string sx, .string ⟨#[120]⟩]) (by simp [results, Tryz.results8, go_sem, r0, r1]) rfl ⟨_, _, _, _, _, _, _, _, _, _, rfl, HF.out, BF.out⟩
      · skip
        go_simp
        have hB := (Below.refl v0.heap.size v0).alloc (Nat.le_refl _) (.cells #[.string ⟨#[97]⟩, .string ⟨#[122, 110, 101, 119]⟩] 9)
        have hO : Only R v0 (v0.alloc (.cells #[.string ⟨#[97]⟩, .string ⟨#[122, 110, 101, 119]⟩] 9)) := Only.of_below hB
        have L1 : Hid ((v0.alloc (.cells #[.string ⟨#[97]⟩, .string ⟨#[122, 110, 101, 119]⟩] 9)).heap[v0.heap.size]? = some (.cells #[.string ⟨#[97]⟩, .string ⟨#[122, 110, 101, 119]⟩] 9 (0, 0))) := heap_alloc_new v0 _
        have O1 := hide (O0.out.trans hO)
        have P1 := hide (P0.out.below hB (Nat.le_refl _))
        have hg6 : w6.heap.size ≤ v0.heap.size := O0.out.size
        clear hB P0
        skip
        generalize v0.alloc (.cells #[.string ⟨#[97]⟩, .string ⟨#[122, 110, 101, 119]⟩] 9) = v1 at *
        generalize v0.heap.size = g at L1 hg6 ⊢
        have hgR : g ≠ R := by omega
        clear hO HS O0
        have HS := hide (SB.out v1 ((O1.out.block w2.heap.size hl6 (by omega)).trans S6.out))
        refine hK.out _ _ HS.out ?_
        clear hK K
        (try simp only [Act.put, nzL])
        refine anyS_one (i := 2) rfl (by as_aux_lemma => kernel_rfl) (fun K hK => ?_)
        go_simp
        go_at_call 51
        refine (pick_any R _ 2 _ P1.out (by omega) (by omega) (by omega)).mono ?_
        rintro e v2 ⟨zl, rfl, hzl0, hzl1, hR, hO⟩
        have O2 := hide (O1.out.trans hO)
        have P2 := hide hR
        clear hR P1
        have L2 := hide ((hO.block g (heap_in L1.out) hgR).trans L1.out)
        clear L1
        skip
        clear hO HS O1
        have HS := hide (SB.out v2 ((O2.out.block w2.heap.size hl6 (by omega)).trans S6.out))
        refine hK.out _ _ HS.out ?_
        clear hK K
        (try simp only [Act.put, nzL])
        refine anyS_one (i := 3) rfl (by as_aux_lemma => kernel_rfl) (fun K hK => ?_)
        go_simp
        go_at_call 53
        refine (l2Full_any w1.heap.size n0 c0 n1 c1 a0 f0 a1 f1 zl _ (by omega) (by omega) (H6.out.agr (O2.out.agr hRb))).mono ?_
        rintro e v3 ⟨b0, m0, d0, g0, b1, m1, d1, g1, rfl, hH, hB⟩
        have hO : Only R v2 v3 := Only.of_below hB
        have O3 := hide (O2.out.trans hO)
        have P3 := hide (P2.out.below hB (Nat.le_refl _))
        have H3' := hide (hH.mono (show w6.heap.size ≤ v2.heap.size from O2.out.size))
        clear hH hB P2
        have L3 := hide ((hO.block g (heap_in L2.out) hgR).trans L2.out)
        clear L2
        clear hO HS O2
        have HS := hide (SB.out v3 ((O3.out.block w2.heap.size hl6 (by omega)).trans S6.out))
        refine hK.out _ _ HS.out ?_
        clear hK K
        (try simp only [Act.put, nzL])
        refine anyS_one (i := 6) rfl (by as_aux_lemma => kernel_rfl) (fun K hK => ?_)
        go_simp
        go_at_call 51
        refine (pick_any R _ 2 _ P3.out (by omega) (by omega) (by omega)).mono ?_
        rintro e v4 ⟨zi, rfl, hzi0, hzi1, hR, hO⟩
        have O4 := hide (O3.out.trans hO)
        have P4 := hide hR
        clear hR P3
        have L4 := hide ((hO.block g (heap_in L3.out) hgR).trans L3.out)
        clear L3
        have H4' := hide (H3'.out.agr (hO.agr hR6))
        clear H3'
        clear hO HS O3
        have HS := hide (SB.out v4 ((O4.out.block w2.heap.size hl6 (by omega)).trans S6.out))
        refine hK.out _ _ HS.out ?_
        clear hK K
        (try simp only [Act.put, nzL])
        obtain ⟨m, rfl⟩ := Int.eq_ofNat_of_zero_le hzi0
        have hm : m < 2 := by omega
        refine anyS_nx 7 (v := ?_) rfl rfl (by as_aux_lemma => kernel_rfl) (fun _ _ _ h => h) rfl ?_ HS.out ?_
        rotate_left
        · (intro wz hSw; obtain ⟨s0, s1, s2⟩ := hSw; go_simp)
          (try with_reducible rfl)
        (try simp only [Act.put, nzL])
        refine anyS_two (i := 8) (j := 9) rfl rfl (by as_aux_lemma => kernel_rfl) (fun K hK => ?_) (fun K hK => ?_)
        · obtain ⟨sx, hcx⟩ := lit2_at L4.out m hm
          go_simp
          refine hK.out _ _ HS.out ?_
          clear hK K
          (try simp only [Act.put, nzL])
          clear hcx
          refine anyS_one (i := 9) rfl (by as_aux_lemma => kernel_rfl) (fun K hK => ?_)
          have hO6 := O4.out
          have BE := hide (B6.out.trans (hO6.below (by omega) B6.out.size))
          have KE := hide ((hO6.block w.heap.size (heap_in K6.out) (by omega)).trans K6.out)
          have SE := hide ((hO6.block w2.heap.size hl6 (by omega)).trans S6.out)
          clear hO6 O4 P4 HS
          have kr := KE.out
          have r0 : v4.cell? ⟨w.heap.size, 0, none⟩ = some (.slice none 0 0) := by simp [World.cell?, kr]
          have r1 : v4.cell? ⟨w.heap.size, 1, none⟩ = some (.slice none 0 0) := by simp [World.cell?, kr]
          have t0 : v4.frozen? ⟨w.heap.size, 0, none⟩ = false := by simp [World.frozen?, kr]
          have t1 : v4.frozen? ⟨w.heap.size, 1, none⟩ = false := by simp [World.frozen?, kr]
          have l0 := heap_in kr
          clear kr
          go_simp
          clear r0 r1 t0 t1 l0
          have KF := hide (set_two (v0 := .slice b0 m0 d0) (v1 := .slice b1 m1 d1) KE.out)
          have BF := hide ((BE.out.setCell (p := ⟨w.heap.size, 0, none⟩) (Nat.le_refl _) (.slice b0 m0 d0)).setCell (p := ⟨w.heap.size, 1, none⟩) (Nat.le_refl _) (.slice b1 m1 d1))
          have HF := hide ((H4'.out.agr ((agr_set (w := v4) (j := 0) hw6 (.slice b0 m0 d0)).trans (agr_set (j := 1) hw6 (.slice b1 m1 d1)))).mono (show w.heap.size ≤ w6.heap.size by omega))
          have SF := hide (((Below.heap_setCell _ ⟨w.heap.size, 1, none⟩ (.slice b1 m1 d1) w2.heap.size (by show w2.heap.size ≠ w.heap.size; omega)).trans (Below.heap_setCell v4 ⟨w.heap.size, 0, none⟩ (.slice b0 m0 d0) w2.heap.size (by show w2.heap.size ≠ w.heap.size; omega))).trans SE.out)
          skip
          clear BE KE SE H4'
          generalize (v4.setCell ⟨w.heap.size, 0, none⟩ (.slice b0 m0 d0)).setCell ⟨w.heap.size, 1, none⟩ (.slice b1 m1 d1) = vF at *
          have HS := hide (SB.out vF SF.out)
          refine hK.out _ _ HS.out ?_
          clear hK K
          (try simp only [Act.put, nzL])
          iterate 2
            refine anyS_on 10 rfl rfl (by as_aux_lemma => kernel_rfl) (fun K hK => ?_)
            go_simp
            refine hK.out _ _ HS.out ?_
            clear hK K
            (try simp only [Act.put, nzL])
          refine wpAnyH_done (by as_aux_lemma => kernel_rfl) ?_ _
          have kr := KF.out
          have r0 : vF.cell? ⟨w.heap.size, 0, none⟩ = some (.slice b0 m0 d0) := by simp [World.cell?, kr]
          have r1 : vF.cell? ⟨w.heap.size, 1, none⟩ = some (.slice b1 m1 d1) := by simp [World.cell?, kr]
          clear kr
          go_wp2
          exact bodyPost_ret (v := .tuple #[.agg #[.slice b0 m0 d0, .slice b1 m1 d1], .string sx, .string ⟨#[120]⟩]) (by simp [results, Tryz.results8, go_sem, r0, r1]) rfl ⟨_, _, _, _, _, _, _, _, _, _, rfl, HF.out, BF.out⟩
        · skip
          have hO6 := O4.out
          have BE := hide (B6.out.trans (hO6.below (by omega) B6.out.size))
          have KE := hide ((hO6.block w.heap.size (heap_in K6.out) (by omega)).trans K6.out)
          have SE := hide ((hO6.block w2.heap.size hl6 (by omega)).trans S6.out)
          clear hO6 O4 P4 HS
          have kr := KE.out
          have r0 : v4.cell? ⟨w.heap.size, 0, none⟩ = some (.slice none 0 0) := by simp [World.cell?, kr]
          have r1 : v4.cell? ⟨w.heap.size, 1, none⟩ = some (.slice none 0 0) := by simp [World.cell?, kr]
          have t0 : v4.frozen? ⟨w.heap.size, 0, none⟩ = false := by simp [World.frozen?, kr]
          have t1 : v4.frozen? ⟨w.heap.size, 1, none⟩ = false := by simp [World.frozen?, kr]
          have l0 := heap_in kr
          clear kr
          go_simp
          clear r0 r1 t0 t1 l0
          have KF := hide (set_two (v0 := .slice b0 m0 d0) (v1 := .slice b1 m1 d1) KE.out)
          have BF := hide ((BE.out.setCell (p := ⟨w.heap.size, 0, none⟩) (Nat.le_refl _) (.slice b0 m0 d0)).setCell (p := ⟨w.heap.size, 1, none⟩) (Nat.le_refl _) (.slice b1 m1 d1))
          have HF := hide ((H4'.out.agr ((agr_set (w := v4) (j := 0) hw6 (.slice b0 m0 d0)).trans (agr_set (j := 1) hw6 (.slice b1 m1 d1)))).mono (show w.heap.size ≤ w6.heap.size by omega))
          have SF := hide (((Below.heap_setCell _ ⟨w.heap.size, 1, none⟩ (.slice b1 m1 d1) w2.heap.size (by show w2.heap.size ≠ w.heap.size; omega)).trans (Below.heap_setCell v4 ⟨w.heap.size, 0, none⟩ (.slice b0 m0 d0) w2.heap.size (by show w2.heap.size ≠ w.heap.size; omega))).trans SE.out)
          have LF := hide (((Below.heap_setCell _ ⟨w.heap.size, 1, none⟩ (.slice b1 m1 d1) g (by show g ≠ w.heap.size; omega)).trans (Below.heap_setCell v4 ⟨w.heap.size, 0, none⟩ (.slice b0 m0 d0) g (by show g ≠ w.heap.size; omega))).trans L4.out)
          clear L4
          clear BE KE SE H4'
          generalize (v4.setCell ⟨w.heap.size, 0, none⟩ (.slice b0 m0 d0)).setCell ⟨w.heap.size, 1, none⟩ (.slice b1 m1 d1) = vF at *
          have HS := hide (SB.out vF SF.out)
          refine hK.out _ _ HS.out ?_
          clear hK K
          (try simp only [Act.put, nzL])
          obtain ⟨sx, hcx⟩ := lit2_at LF.out m hm
          refine anyS_one (i := 8) rfl (by as_aux_lemma => kernel_rfl) (fun K hK => ?_)
          go_simp
          refine hK.out _ _ HS.out ?_
          clear hK K
          (try simp only [Act.put, nzL])
          iterate 2
            refine anyS_on 10 rfl rfl (by as_aux_lemma => kernel_rfl) (fun K hK => ?_)
            go_simp
            refine hK.out _ _ HS.out ?_
            clear hK K
            (try simp only [Act.put, nzL])
          refine wpAnyH_done (by as_aux_lemma => kernel_rfl) ?_ _
          have kr := KF.out
          have r0 : vF.cell? ⟨w.heap.size, 0, none⟩ = some (.slice b0 m0 d0) := by simp [World.cell?, kr]
          have r1 : vF.cell? ⟨w.heap.size, 1, none⟩ = some (.slice b1 m1 d1) := by simp [World.cell?, kr]
          clear kr
          go_wp2
          exact bodyPost_ret (v := .tuple #[.agg #[.slice b0 m0 d0, .slice b1 m1 d1], .string sx, .string ⟨#[120]⟩]) (by simp [results, Tryz.results8, go_sem, r0, r1]) rfl ⟨_, _, _, _, _, _, _, _, _, _, rfl, HF.out, BF.out⟩
    · go_wp2_with fail
      refine (pick_any R _ 20 _ R6.out (by omega) (by omega) (by omega)).mono ?_
      rintro e w7 ⟨z7, rfl, h70, h71, hR, hO⟩
      have B7 := hide (B6.out.trans (hO.below (by omega) B6.out.size))
      have H7 := hide (H6.out.agr (hO.agr hRb))
      have K7 := hide ((hO.block w.heap.size (heap_in K6.out) (by omega)).trans K6.out)
      have S7 := hide ((hO.block w2.heap.size (heap_in S6.out) (by omega)).trans S6.out)
      have R7 := hide hR
      clear hO hR B6 H6 K6 S6 R6
      by_cases h7 : z7 = 0
      · subst h7
        go_wp2_with fail
        have SB : Hid (∀ V : World, V.heap[w2.heap.size]? = some (.cells #[.slice a0 n0 c0, .slice a1 n1 c1] 26 (0, 0)) → V.heap[w2.heap.size]? = some (.cells #[.slice a0 n0 c0, .slice a1 n1 c1] 26 (0, 0)) ∧ V.cell? ⟨w2.heap.size, 0, none⟩ = some (.slice a0 n0 c0) ∧ V.cell? ⟨w2.heap.size, 1, none⟩ = some (.slice a1 n1 c1)) := fun V h => ⟨h, by simp [World.cell?, h], by simp [World.cell?, h]⟩
        refine wp_region_held_drew (S := fun V => V.heap[w2.heap.size]? = some (.cells #[.slice a0 n0 c0, .slice a1 n1 c1] 26 (0, 0)) ∧ V.cell? ⟨w2.heap.size, 0, none⟩ = some (.slice a0 n0 c0) ∧ V.cell? ⟨w2.heap.size, 1, none⟩ = some (.slice a1 n1 c1)) (by as_aux_lemma => kernel_rfl) (SB.out w7 S7.out) (fun hS => ?_)
        have HS := hide hS
        clear hS
        iterate 3
          refine anyS_nx 0 (v := ?_) rfl rfl (by as_aux_lemma => kernel_rfl) (fun _ _ _ h => h) rfl ?_ HS.out ?_
          rotate_left
          · (intro wz hSw; obtain ⟨s0, s1, s2⟩ := hSw; go_simp)
            (try with_reducible rfl)
          (try simp only [Act.put, nzL])
        refine anyS_one (i := 3) rfl (by as_aux_lemma => kernel_rfl) (fun K hK => ?_)
        go_simp
        go_at_call 51
        refine (pick_any R _ 2 _ (R7.out.below (Below.refl _ _).drew (Nat.le_refl _)) (by omega) (by omega) (by omega)).mono ?_
        rintro e w8 ⟨z8, rfl, h80, h81, hR, hO'⟩
        obtain ⟨m8, rfl⟩ := Int.eq_ofNat_of_zero_le h80
        have hO : Only R w7 w8 := (Only.of_below (Below.refl _ _).drew).trans hO'
        clear hO' HS
        have B8 := hide (B7.out.trans (hO.below (by omega) B7.out.size))
        have H8 := hide (H7.out.agr (hO.agr hRb))
        have K8 := hide ((hO.block w.heap.size (heap_in K7.out) (by omega)).trans K7.out)
        have S8 := hide ((hO.block w2.heap.size (heap_in S7.out) (by omega)).trans S7.out)
        have R8 := hide hR
        clear hO hR B7 H7 K7 S7 R7
        have HS := hide (SB.out w8 S8.out)
        refine hK.out _ _ HS.out ?_
        clear hK K
        (try simp only [Act.put, nzL])
        have hw20 : IntKind.i64.wrap (2000 + (m8 : Int)) = 2000 + (m8 : Int) := by rw [IntKind.wrap_i64]; omega
        refine anyS_one (i := 4) rfl (by as_aux_lemma => kernel_rfl) (fun K hK => ?_)
        go_simp
        refine hK.out _ _ HS.out ?_
        clear hK K
        (try simp only [Act.put, nzL])
        refine anyS_one (i := 5) rfl (by as_aux_lemma => kernel_rfl) (fun K hK => ?_)
        go_simp
        go_at_call 54
        refine (l1Many_any ⟨#[112]⟩ (2000 + m8) _ (by show 1 * (2000 + m8) ≤ 4000; omega) (by omega)).mono ?_
        rintro e w9 ⟨tx, rfl, _, rfl⟩
        refine hK.out _ _ HS.out ?_
        clear hK K
        (try simp only [Act.put, nzL])
        have HM := hide (H8.out.mono (show w.heap.size + 1 ≤ w1.heap.size by omega))
        have kr := K8.out
        have r0 : w9.cell? ⟨w.heap.size, 0, none⟩ = some (.slice none 0 0) := by simp [World.cell?, kr]
        have r1 : w9.cell? ⟨w.heap.size, 1, none⟩ = some (.slice none 0 0) := by simp [World.cell?, kr]
        have f0 : w9.frozen? ⟨w.heap.size, 0, none⟩ = false := by simp [World.frozen?, kr]
        have f1 : w9.frozen? ⟨w.heap.size, 1, none⟩ = false := by simp [World.frozen?, kr]
        have l0 := heap_in kr
        clear kr
        refine anyS_one (i := 6) rfl (by as_aux_lemma => kernel_rfl) (fun K hK => ?_)
        go_simp
        clear HS
        have HS := hide (SB.out ((w9.setCell ⟨w.heap.size, 0, none⟩ (.slice a0 n0 c0)).setCell ⟨w.heap.size, 1, none⟩ (.slice a1 n1 c1)) (((Below.heap_setCell _ ⟨w.heap.size, 1, none⟩ _ w2.heap.size (by show w2.heap.size ≠ w.heap.size; omega)).trans (Below.heap_setCell _ ⟨w.heap.size, 0, none⟩ _ w2.heap.size (by show w2.heap.size ≠ w.heap.size; omega))).trans S8.out))
        refine hK.out _ _ HS.out ?_
        clear hK K
        (try simp only [Act.put, nzL])
        have BE := hide ((B8.out.setCell (p := ⟨w.heap.size, 0, none⟩) (Nat.le_refl _) (.slice a0 n0 c0)).setCell (p := ⟨w.heap.size, 1, none⟩) (Nat.le_refl _) (.slice a1 n1 c1))
        have HE2 := hide ((HM.out.agr ((agr_set (j := 0) (show w.heap.size < w.heap.size + 1 by omega) (.slice a0 n0 c0)).trans (agr_set (j := 1) (show w.heap.size < w.heap.size + 1 by omega) (.slice a1 n1 c1)))).mono (Nat.le_succ w.heap.size))
        iterate 2
          refine anyS_on 7 rfl rfl (by as_aux_lemma => kernel_rfl) (fun K hK => ?_)
          go_simp
          refine hK.out _ _ HS.out ?_
          clear hK K
          (try simp only [Act.put, nzL])
        refine wpAnyH_done (by as_aux_lemma => kernel_rfl) ?_ _
        go_wp2
        exact bodyPost_ret (v := .tuple #[.agg #[.slice a0 n0 c0, .slice a1 n1 c1], .string nm2, .string tx]) (by simp [results, Tryz.results8, go_sem, r0, r1]) rfl ⟨_, _, _, _, _, _, _, _, _, _, rfl, HE2.out, BE.out⟩
      · have ks7 := S7.out
        have y0 : w7.cell? ⟨w2.heap.size, 0, none⟩ = some (.slice a0 n0 c0) := by simp [World.cell?, ks7]
        have y1 : w7.cell? ⟨w2.heap.size, 1, none⟩ = some (.slice a1 n1 c1) := by simp [World.cell?, ks7]
        clear ks7
        go_wp2_with fail
        clear y0 y1
        have SB : Hid (∀ V : World, V.heap[w2.heap.size]? = some (.cells #[.slice a0 n0 c0, .slice a1 n1 c1] 26 (0, 0)) → V.heap[w2.heap.size]? = some (.cells #[.slice a0 n0 c0, .slice a1 n1 c1] 26 (0, 0)) ∧ V.cell? ⟨w2.heap.size, 0, none⟩ = some (.slice a0 n0 c0) ∧ V.cell? ⟨w2.heap.size, 1, none⟩ = some (.slice a1 n1 c1)) := fun V h => ⟨h, by simp [World.cell?, h], by simp [World.cell?, h]⟩
        refine wp_region_held_drew (S := fun V => V.heap[w2.heap.size]? = some (.cells #[.slice a0 n0 c0, .slice a1 n1 c1] 26 (0, 0)) ∧ V.cell? ⟨w2.heap.size, 0, none⟩ = some (.slice a0 n0 c0) ∧ V.cell? ⟨w2.heap.size, 1, none⟩ = some (.slice a1 n1 c1)) (by as_aux_lemma => kernel_rfl) (SB.out w7 S7.out) (fun hS => ?_)
        have HS := hide hS
        clear hS
        iterate 3
          refine anyS_nx 0 (v := ?_) rfl rfl (by as_aux_lemma => kernel_rfl) (fun _ _ _ h => h) rfl ?_ HS.out ?_
          rotate_left
          · (intro wz hSw; obtain ⟨s0, s1, s2⟩ := hSw; go_simp)
            (try with_reducible rfl)
          (try simp only [Act.put, nzL])
        refine anyS_one (i := 3) rfl (by as_aux_lemma => kernel_rfl) (fun K hK => ?_)
        go_simp
        go_at_call 55
        refine (l1Text_any R _ _ (R7.out.below (Below.refl _ _).drew (Nat.le_refl _)) (by omega)).mono ?_
        rintro e w8 ⟨tx, rfl, htx, q8, hq8, hR, hO'⟩
        have hO : Only R w7 w8 := (Only.of_below (Below.refl _ _).drew).trans hO'
        clear hO' HS
        have B8 := hide (B7.out.trans (hO.below (by omega) B7.out.size))
        have H8 := hide (H7.out.agr (hO.agr hRb))
        have K8 := hide ((hO.block w.heap.size (heap_in K7.out) (by omega)).trans K7.out)
        have S8 := hide ((hO.block w2.heap.size (heap_in S7.out) (by omega)).trans S7.out)
        have R8 := hide hR
        clear hO hR B7 H7 K7 S7 R7
        have HS := hide (SB.out w8 S8.out)
        refine hK.out _ _ HS.out ?_
        clear hK K
        (try simp only [Act.put, nzL])
        have HM := hide (H8.out.mono (show w.heap.size + 1 ≤ w1.heap.size by omega))
        have kr := K8.out
        have r0 : w8.cell? ⟨w.heap.size, 0, none⟩ = some (.slice none 0 0) := by simp [World.cell?, kr]
        have r1 : w8.cell? ⟨w.heap.size, 1, none⟩ = some (.slice none 0 0) := by simp [World.cell?, kr]
        have f0 : w8.frozen? ⟨w.heap.size, 0, none⟩ = false := by simp [World.frozen?, kr]
        have f1 : w8.frozen? ⟨w.heap.size, 1, none⟩ = false := by simp [World.frozen?, kr]
        have l0 := heap_in kr
        clear kr
        refine anyS_one (i := 4) rfl (by as_aux_lemma => kernel_rfl) (fun K hK => ?_)
        go_simp
        clear HS
        have HS := hide (SB.out ((w8.setCell ⟨w.heap.size, 0, none⟩ (.slice a0 n0 c0)).setCell ⟨w.heap.size, 1, none⟩ (.slice a1 n1 c1)) (((Below.heap_setCell _ ⟨w.heap.size, 1, none⟩ _ w2.heap.size (by show w2.heap.size ≠ w.heap.size; omega)).trans (Below.heap_setCell _ ⟨w.heap.size, 0, none⟩ _ w2.heap.size (by show w2.heap.size ≠ w.heap.size; omega))).trans S8.out))
        refine hK.out _ _ HS.out ?_
        clear hK K
        (try simp only [Act.put, nzL])
        have BE := hide ((B8.out.setCell (p := ⟨w.heap.size, 0, none⟩) (Nat.le_refl _) (.slice a0 n0 c0)).setCell (p := ⟨w.heap.size, 1, none⟩) (Nat.le_refl _) (.slice a1 n1 c1))
        have HE2 := hide ((HM.out.agr ((agr_set (j := 0) (show w.heap.size < w.heap.size + 1 by omega) (.slice a0 n0 c0)).trans (agr_set (j := 1) (show w.heap.size < w.heap.size + 1 by omega) (.slice a1 n1 c1)))).mono (Nat.le_succ w.heap.size))
        iterate 2
          refine anyS_on 5 rfl rfl (by as_aux_lemma => kernel_rfl) (fun K hK => ?_)
          go_simp
          refine hK.out _ _ HS.out ?_
          clear hK K
          (try simp only [Act.put, nzL])
        refine wpAnyH_done (by as_aux_lemma => kernel_rfl) ?_ _
        go_wp2
        exact bodyPost_ret (v := .tuple #[.agg #[.slice a0 n0 c0, .slice a1 n1 c1], .string nm2, .string tx]) (by simp [results, Tryz.results8, go_sem, r0, r1]) rfl ⟨_, _, _, _, _, _, _, _, _, _, rfl, HE2.out, BE.out⟩
  · go_wp2_with fail
    refine (pick_any R _ 12 _ R4.out (by omega) (by omega) (by omega)).mono ?_
    rintro e w6 ⟨z6, rfl, h60, h61, hR, hO⟩
    have B6 := hide (B4.out.trans (hO.below (by omega) B4.out.size))
    have H6 := hide (H4.out.agr (hO.agr hRb))
    have K6 := hide ((hO.block w.heap.size (heap_in K4.out) (by omega)).trans K4.out)
    have S6 := hide ((hO.block w2.heap.size (heap_in S4.out) (by omega)).trans S4.out)
    have R6 := hide hR
    clear hO hR B4 H4 K4 S4 R4
    by_cases h6 : z6 = 0
    · subst h6
      go_wp2_with fail
      have R6' := R6
      have SB : Hid (∀ V : World, V.heap[w2.heap.size]? = some (.cells #[.slice a0 n0 c0, .slice a1 n1 c1] 26 (0, 0)) → V.heap[w2.heap.size]? = some (.cells #[.slice a0 n0 c0, .slice a1 n1 c1] 26 (0, 0)) ∧ V.cell? ⟨w2.heap.size, 0, none⟩ = some (.slice a0 n0 c0) ∧ V.cell? ⟨w2.heap.size, 1, none⟩ = some (.slice a1 n1 c1)) := fun V h => ⟨h, by simp [World.cell?, h], by simp [World.cell?, h]⟩
      refine wp_region_held_drew (S := fun V => V.heap[w2.heap.size]? = some (.cells #[.slice a0 n0 c0, .slice a1 n1 c1] 26 (0, 0)) ∧ V.cell? ⟨w2.heap.size, 0, none⟩ = some (.slice a0 n0 c0) ∧ V.cell? ⟨w2.heap.size, 1, none⟩ = some (.slice a1 n1 c1)) (by as_aux_lemma => kernel_rfl) (SB.out w6 S6.out) (fun hS => ?_)
      have HS := hide hS
      clear hS
      have hl6 := heap_in S6.out
      have hR6 : R < w6.heap.size := by omega
      have hw6 : w.heap.size < w6.heap.size := by omega
      have O0 : Hid (Only R w6 w6.drew) := Only.of_below (Below.refl _ _).drew
      have P0 := hide (R6.out.below (Below.refl _ _).drew (Nat.le_refl _))
      generalize w6.drew = v0 at O0 P0 HS ⊢
      iterate 2
        refine anyS_nx 0 (v := ?_) rfl rfl (by as_aux_lemma => kernel_rfl) (fun _ _ _ h => h) rfl ?_ HS.out ?_
        rotate_left
        · (intro wz hSw; obtain ⟨s0, s1, s2⟩ := hSw; go_simp)
          (try with_reducible rfl)
        (try simp only [Act.put, nzL])
      refine anyS_nx 5 (v := ?_) rfl rfl (by as_aux_lemma => kernel_rfl) (fun _ _ _ h => h) rfl ?_ HS.out ?_
      rotate_left
      · (intro wz hSw; obtain ⟨s0, s1, s2⟩ := hSw; go_simp)
        (try with_reducible rfl)
      (try simp only [Act.put, nzL])
      refine anyS_two (i := 2) (j := 4) rfl rfl (by as_aux_lemma => kernel_rfl) (fun K hK => ?_) (fun K hK => ?_)
      · skip
        go_simp
        go_at_call 51
        refine (pick_any R _ 2 _ P0.out (by omega) (by omega) (by omega)).mono ?_
        rintro e v1 ⟨zl, rfl, hzl0, hzl1, hR, hO⟩
        have O1 := hide (O0.out.trans hO)
        have P1 := hide hR
        clear hR P0
        skip
        skip
        clear hO HS O0
        have HS := hide (SB.out v1 ((O1.out.block w2.heap.size hl6 (by omega)).trans S6.out))
        refine hK.out _ _ HS.out ?_
        clear hK K
        (try simp only [Act.put, nzL])
        refine anyS_two (i := 3) (j := 4) rfl rfl (by as_aux_lemma => kernel_rfl) (fun K hK => ?_) (fun K hK => ?_)
        · skip
          go_simp
          go_at_call 53
          refine (l2Full_any w1.heap.size n0 c0 n1 c1 a0 f0 a1 f1 zl _ (by omega) (by omega) (H6.out.agr (O1.out.agr hRb))).mono ?_
          rintro e v2 ⟨b0, m0, d0, g0, b1, m1, d1, g1, rfl, hH, hB⟩
          have hO : Only R v1 v2 := Only.of_below hB
          have O2 := hide (O1.out.trans hO)
          have P2 := hide (P1.out.below hB (Nat.le_refl _))
          have H2' := hide (hH.mono (show w6.heap.size ≤ v1.heap.size from O1.out.size))
          clear hH hB P1
          skip
          clear hO HS O1
          have HS := hide (SB.out v2 ((O2.out.block w2.heap.size hl6 (by omega)).trans S6.out))
          refine hK.out _ _ HS.out ?_
          clear hK K
          (try simp only [Act.put, nzL])
          refine anyS_two (i := 4) (j := 6) rfl rfl (by as_aux_lemma => kernel_rfl) (fun K hK => ?_) (fun K hK => ?_)
          · skip
            go_simp
            have hB := (Below.refl v2.heap.size v2).alloc (Nat.le_refl _) (.cells #[.string ⟨#[97]⟩, .string ⟨#[122, 110, 101, 119]⟩] 9)
            have hO : Only R v2 (v2.alloc (.cells #[.string ⟨#[97]⟩, .string ⟨#[122, 110, 101, 119]⟩] 9)) := Only.of_below hB
            have L3 : Hid ((v2.alloc (.cells #[.string ⟨#[97]⟩, .string ⟨#[122, 110, 101, 119]⟩] 9)).heap[v2.heap.size]? = some (.cells #[.string ⟨#[97]⟩, .string ⟨#[122, 110, 101, 119]⟩] 9 (0, 0))) := heap_alloc_new v2 _
            have O3 := hide (O2.out.trans hO)
            have P3 := hide (P2.out.below hB (Nat.le_refl _))
            have hg6 : w6.heap.size ≤ v2.heap.size := O2.out.size
            clear hB P2
            have H3' := hide (H2'.out.agr (hO.agr hR6))
            clear H2'
            generalize v2.alloc (.cells #[.string ⟨#[97]⟩, .string ⟨#[122, 110, 101, 119]⟩] 9) = v3 at *
            generalize v2.heap.size = g at L3 hg6 ⊢
            have hgR : g ≠ R := by omega
            clear hO HS O2
            have HS := hide (SB.out v3 ((O3.out.block w2.heap.size hl6 (by omega)).trans S6.out))
            refine hK.out _ _ HS.out ?_
            clear hK K
            (try simp only [Act.put, nzL])
            refine anyS_one (i := 6) rfl (by as_aux_lemma => kernel_rfl) (fun K hK => ?_)
            go_simp
            go_at_call 51
            refine (pick_any R _ 2 _ P3.out (by omega) (by omega) (by omega)).mono ?_
            rintro e v4 ⟨zi, rfl, hzi0, hzi1, hR, hO⟩
            have O4 := hide (O3.out.trans hO)
            have P4 := hide hR
            clear hR P3
            have L4 := hide ((hO.block g (heap_in L3.out) hgR).trans L3.out)
            clear L3
            have H4' := hide (H3'.out.agr (hO.agr hR6))
            clear H3'
            clear hO HS O3
            have HS := hide (SB.out v4 ((O4.out.block w2.heap.size hl6 (by omega)).trans S6.out))
            refine hK.out _ _ HS.out ?_
            clear hK K
            (try simp only [Act.put, nzL])
            obtain ⟨m, rfl⟩ := Int.eq_ofNat_of_zero_le hzi0
            have hm : m < 2 := by omega
            refine anyS_nx 7 (v := ?_) rfl rfl (by as_aux_lemma => kernel_rfl) (fun _ _ _ h => h) rfl ?_ HS.out ?_
            rotate_left
            · (intro wz hSw; obtain ⟨s0, s1, s2⟩ := hSw; go_simp)
              (try with_reducible rfl)
            (try simp only [Act.put, nzL])
            refine anyS_two (i := 8) (j := 9) rfl rfl (by as_aux_lemma => kernel_rfl) (fun K hK => ?_) (fun K hK => ?_)
            · obtain ⟨sx, hcx⟩ := lit2_at L4.out m hm
              go_simp
              refine hK.out _ _ HS.out ?_
              clear hK K
              (try simp only [Act.put, nzL])
              clear hcx
              refine anyS_one (i := 9) rfl (by as_aux_lemma => kernel_rfl) (fun K hK => ?_)
              have hO6 := O4.out
              have BE := hide (B6.out.trans (hO6.below (by omega) B6.out.size))
              have KE := hide ((hO6.block w.heap.size (heap_in K6.out) (by omega)).trans K6.out)
              have SE := hide ((hO6.block w2.heap.size hl6 (by omega)).trans S6.out)
              clear hO6 O4 P4 HS
              have kr := KE.out
              have r0 : v4.cell? ⟨w.heap.size, 0, none⟩ = some (.slice none 0 0) := by simp [World.cell?, kr]
              have r1 : v4.cell? ⟨w.heap.size, 1, none⟩ = some (.slice none 0 0) := by simp [World.cell?, kr]
              have t0 : v4.frozen? ⟨w.heap.size, 0, none⟩ = false := by simp [World.frozen?, kr]
              have t1 : v4.frozen? ⟨w.heap.size, 1, none⟩ = false := by simp [World.frozen?, kr]
              have l0 := heap_in kr
              clear kr
              go_simp
              clear r0 r1 t0 t1 l0
              have KF := hide (set_two (v0 := .slice b0 m0 d0) (v1 := .slice b1 m1 d1) KE.out)
              have BF := hide ((BE.out.setCell (p := ⟨w.heap.size, 0, none⟩) (Nat.le_refl _) (.slice b0 m0 d0)).setCell (p := ⟨w.heap.size, 1, none⟩) (Nat.le_refl _) (.slice b1 m1 d1))
              have HF := hide ((H4'.out.agr ((agr_set (w := v4) (j := 0) hw6 (.slice b0 m0 d0)).trans (agr_set (j := 1) hw6 (.slice b1 m1 d1)))).mono (show w.heap.size ≤ w6.heap.size by omega))
              have SF := hide (((Below.heap_setCell _ ⟨w.heap.size, 1, none⟩ (.slice b1 m1 d1) w2.heap.size (by show w2.heap.size ≠ w.heap.size; omega)).trans (Below.heap_setCell v4 ⟨w.heap.size, 0, none⟩ (.slice b0 m0 d0) w2.heap.size (by show w2.heap.size ≠ w.heap.size; omega))).trans SE.out)
              skip
              clear BE KE SE H4'
              generalize (v4.setCell ⟨w.heap.size, 0, none⟩ (.slice b0 m0 d0)).setCell ⟨w.heap.size, 1, none⟩ (.slice b1 m1 d1) = vF at *
              have HS := hide (SB.out vF SF.out)
              refine hK.out _ _ HS.out ?_
              clear hK K
              (try simp only [Act.put, nzL])
              iterate 2
                refine anyS_on 10 rfl rfl (by as_aux_lemma => kernel_rfl) (fun K hK => ?_)
                go_simp
                refine hK.out _ _ HS.out ?_
                clear hK K
                (try simp only [Act.put, nzL])
              refine wpAnyH_done (by as_aux_lemma => kernel_rfl) ?_ _
              have kr := KF.out
              have r0 : vF.cell? ⟨w.heap.size, 0, none⟩ = some (.slice b0 m0 d0) := by simp [World.cell?, kr]
              have r1 : vF.cell? ⟨w.heap.size, 1, none⟩ = some (.slice b1 m1 d1) := by simp [World.cell?, kr]
              clear kr
              go_wp2
              exact bodyPost_ret (v := .tuple #[.agg #[.slice b0 m0 d0, .slice b1 m1 d1], .string sx, .string ⟨#[120]⟩]) (by simp [results, Tryz.results8, go_sem, r0, r1]) rfl ⟨_, _, _, _, _, _, _, _, _, _, rfl, HF.out, BF.out⟩
            · skip
              have hO6 := O4.out
              have BE := hide (B6.out.trans (hO6.below (by omega) B6.out.size))
              have KE := hide ((hO6.block w.heap.size (heap_in K6.out) (by omega)).trans K6.out)
              have SE := hide ((hO6.block w2.heap.size hl6 (by omega)).trans S6.out)
              clear hO6 O4 P4 HS
              have kr := KE.out
              have r0 : v4.cell? ⟨w.heap.size, 0, none⟩ = some (.slice none 0 0) := by simp [World.cell?, kr]
              have r1 : v4.cell? ⟨w.heap.size, 1, none⟩ = some (.slice none 0 0) := by simp [World.cell?, kr]
              have t0 : v4.frozen? ⟨w.heap.size, 0, none⟩ = false := by simp [World.frozen?, kr]
              have t1 : v4.frozen? ⟨w.heap.size, 1, none⟩ = false := by simp [World.frozen?, kr]
              have l0 := heap_in kr
              clear kr
              go_simp
              clear r0 r1 t0 t1 l0
              have KF := hide (set_two (v0 := .slice b0 m0 d0) (v1 := .slice b1 m1 d1) KE.out)
              have BF := hide ((BE.out.setCell (p := ⟨w.heap.size, 0, none⟩) (Nat.le_refl _) (.slice b0 m0 d0)).setCell (p := ⟨w.heap.size, 1, none⟩) (Nat.le_refl _) (.slice b1 m1 d1))
              have HF := hide ((H4'.out.agr ((agr_set (w := v4) (j := 0) hw6 (.slice b0 m0 d0)).trans (agr_set (j := 1) hw6 (.slice b1 m1 d1)))).mono (show w.heap.size ≤ w6.heap.size by omega))
              have SF := hide (((Below.heap_setCell _ ⟨w.heap.size, 1, none⟩ (.slice b1 m1 d1) w2.heap.size (by show w2.heap.size ≠ w.heap.size; omega)).trans (Below.heap_setCell v4 ⟨w.heap.size, 0, none⟩ (.slice b0 m0 d0) w2.heap.size (by show w2.heap.size ≠ w.heap.size; omega))).trans SE.out)
              have LF := hide (((Below.heap_setCell _ ⟨w.heap.size, 1, none⟩ (.slice b1 m1 d1) g (by show g ≠ w.heap.size; omega)).trans (Below.heap_setCell v4 ⟨w.heap.size, 0, none⟩ (.slice b0 m0 d0) g (by show g ≠ w.heap.size; omega))).trans L4.out)
              clear L4
              clear BE KE SE H4'
              generalize (v4.setCell ⟨w.heap.size, 0, none⟩ (.slice b0 m0 d0)).setCell ⟨w.heap.size, 1, none⟩ (.slice b1 m1 d1) = vF at *
              have HS := hide (SB.out vF SF.out)
              refine hK.out _ _ HS.out ?_
              clear hK K
              (try simp only [Act.put, nzL])
              obtain ⟨sx, hcx⟩ := lit2_at LF.out m hm
              refine anyS_one (i := 8) rfl (by as_aux_lemma => kernel_rfl) (fun K hK => ?_)
              go_simp
              refine hK.out _ _ HS.out ?_
              clear hK K
              (try simp only [Act.put, nzL])
              iterate 2
                refine anyS_on 10 rfl rfl (by as_aux_lemma => kernel_rfl) (fun K hK => ?_)
                go_simp
                refine hK.out _ _ HS.out ?_
                clear hK K
                (try simp only [Act.put, nzL])
              refine wpAnyH_done (by as_aux_lemma => kernel_rfl) ?_ _
              have kr := KF.out
              have r0 : vF.cell? ⟨w.heap.size, 0, none⟩ = some (.slice b0 m0 d0) := by simp [World.cell?, kr]
              have r1 : vF.cell? ⟨w.heap.size, 1, none⟩ = some (.slice b1 m1 d1) := by simp [World.cell?, kr]
              clear kr
              go_wp2
              exact bodyPost_ret (v := .tuple #[.agg #[.slice b0 m0 d0, .slice b1 m1 d1], .string sx, .string ⟨#[120]⟩]) (by simp [results, Tryz.results8, go_sem, r0, r1]) rfl ⟨_, _, _, _, _, _, _, _, _, _, rfl, HF.out, BF.out⟩
          · skip
            go_simp
            go_at_call 51
            refine (pick_any R _ 2 _ P2.out (by omega) (by omega) (by omega)).mono ?_
            rintro e v3 ⟨zi, rfl, hzi0, hzi1, hR, hO⟩
            have O3 := hide (O2.out.trans hO)
            have P3 := hide hR
            clear hR P2
            skip
            have H3' := hide (H2'.out.agr (hO.agr hR6))
            clear H2'
            clear hO HS O2
            have HS := hide (SB.out v3 ((O3.out.block w2.heap.size hl6 (by omega)).trans S6.out))
            refine hK.out _ _ HS.out ?_
            clear hK K
            (try simp only [Act.put, nzL])
            refine anyS_two (i := 4) (j := 9) rfl rfl (by as_aux_lemma => kernel_rfl) (fun K hK => ?_) (fun K hK => ?_)
            · skip
              go_simp
              have hB := (Below.refl v3.heap.size v3).alloc (Nat.le_refl _) (.cells #[.string ⟨#[97]⟩, .string ⟨#[122, 110, 101, 119]⟩] 9)
              have hO : Only R v3 (v3.alloc (.cells #[.string ⟨#[97]⟩, .string ⟨#[122, 110, 101, 119]⟩] 9)) := Only.of_below hB
              have L4 : Hid ((v3.alloc (.cells #[.string ⟨#[97]⟩, .string ⟨#[122, 110, 101, 119]⟩] 9)).heap[v3.heap.size]? = some (.cells #[.string ⟨#[97]⟩, .string ⟨#[122, 110, 101, 119]⟩] 9 (0, 0))) := heap_alloc_new v3 _
              have O4 := hide (O3.out.trans hO)
              have P4 := hide (P3.out.below hB (Nat.le_refl _))
              have hg6 : w6.heap.size ≤ v3.heap.size := O3.out.size
              clear hB P3
              have H4' := hide (H3'.out.agr (hO.agr hR6))
              clear H3'
              generalize v3.alloc (.cells #[.string ⟨#[97]⟩, .string ⟨#[122, 110, 101, 119]⟩] 9) = v4 at *
              generalize v3.heap.size = g at L4 hg6 ⊢
              have hgR : g ≠ R := by omega
              clear hO HS O3
              have HS := hide (SB.out v4 ((O4.out.block w2.heap.size hl6 (by omega)).trans S6.out))
              refine hK.out _ _ HS.out ?_
              clear hK K
              (try simp only [Act.put, nzL])
              obtain ⟨m, rfl⟩ := Int.eq_ofNat_of_zero_le hzi0
              have hm : m < 2 := by omega
              refine anyS_nx 7 (v := ?_) rfl rfl (by as_aux_lemma => kernel_rfl) (fun _ _ _ h => h) rfl ?_ HS.out ?_
              rotate_left
              · (intro wz hSw; obtain ⟨s0, s1, s2⟩ := hSw; go_simp)
                (try with_reducible rfl)
              (try simp only [Act.put, nzL])
              refine anyS_two (i := 8) (j := 9) rfl rfl (by as_aux_lemma => kernel_rfl) (fun K hK => ?_) (fun K hK => ?_)
              · obtain ⟨sx, hcx⟩ := lit2_at L4.out m hm
                go_simp
                refine hK.out _ _ HS.out ?_
                clear hK K
                (try simp only [Act.put, nzL])
                clear hcx
                refine anyS_one (i := 9) rfl (by as_aux_lemma => kernel_rfl) (fun K hK => ?_)
                have hO6 := O4.out
                have BE := hide (B6.out.trans (hO6.below (by omega) B6.out.size))
                have KE := hide ((hO6.block w.heap.size (heap_in K6.out) (by omega)).trans K6.out)
                have SE := hide ((hO6.block w2.heap.size hl6 (by omega)).trans S6.out)
                clear hO6 O4 P4 HS
                have kr := KE.out
                have r0 : v4.cell? ⟨w.heap.size, 0, none⟩ = some (.slice none 0 0) := by simp [World.cell?, kr]
                have r1 : v4.cell? ⟨w.heap.size, 1, none⟩ = some (.slice none 0 0) := by simp [World.cell?, kr]
                have t0 : v4.frozen? ⟨w.heap.size, 0, none⟩ = false := by simp [World.frozen?, kr]
                have t1 : v4.frozen? ⟨w.heap.size, 1, none⟩ = false := by simp [World.frozen?, kr]
                have l0 := heap_in kr
                clear kr
                go_simp
                clear r0 r1 t0 t1 l0
                have KF := hide (set_two (v0 := .slice b0 m0 d0) (v1 := .slice b1 m1 d1) KE.out)
                have BF := hide ((BE.out.setCell (p := ⟨w.heap.size, 0, none⟩) (Nat.le_refl _) (.slice b0 m0 d0)).setCell (p := ⟨w.heap.size, 1, none⟩) (Nat.le_refl _) (.slice b1 m1 d1))
                have HF := hide ((H4'.out.agr ((agr_set (w := v4) (j := 0) hw6 (.slice b0 m0 d0)).trans (agr_set (j := 1) hw6 (.slice b1 m1 d1)))).mono (show w.heap.size ≤ w6.heap.size by omega))
                have SF := hide (((Below.heap_setCell _ ⟨w.heap.size, 1, none⟩ (.slice b1 m1 d1) w2.heap.size (by show w2.heap.size ≠ w.heap.size; omega)).trans (Below.heap_setCell v4 ⟨w.heap.size, 0, none⟩ (.slice b0 m0 d0) w2.heap.size (by show w2.heap.size ≠ w.heap.size; omega))).trans SE.out)
                skip
                clear BE KE SE H4'
                generalize (v4.setCell ⟨w.heap.size, 0, none⟩ (.slice b0 m0 d0)).setCell ⟨w.heap.size, 1, none⟩ (.slice b1 m1 d1) = vF at *
                have HS := hide (SB.out vF SF.out)
                refine hK.out _ _ HS.out ?_
                clear hK K
                (try simp only [Act.put, nzL])
                iterate 2
                  refine anyS_on 10 rfl rfl (by as_aux_lemma => kernel_rfl) (fun K hK => ?_)
                  go_simp
                  refine hK.out _ _ HS.out ?_
                  clear hK K
                  (try simp only [Act.put, nzL])
                refine wpAnyH_done (by as_aux_lemma => kernel_rfl) ?_ _
                have kr := KF.out
                have r0 : vF.cell? ⟨w.heap.size, 0, none⟩ = some (.slice b0 m0 d0) := by simp [World.cell?, kr]
                have r1 : vF.cell? ⟨w.heap.size, 1, none⟩ = some (.slice b1 m1 d1) := by simp [World.cell?, kr]
                clear kr
                go_wp2
                exact bodyPost_ret (v := .tuple #[.agg #[.slice b0 m0 d0, .slice b1 m1 d1], .string sx, .string ⟨#[120]⟩]) (by simp [results, Tryz.results8, go_sem, r0, r1]) rfl ⟨_, _, _, _, _, _, _, _, _, _, rfl, HF.out, BF.out⟩
              · skip
                have hO6 := O4.out
                have BE := hide (B6.out.trans (hO6.below (by omega) B6.out.size))
                have KE := hide ((hO6.block w.heap.size (heap_in K6.out) (by omega)).trans K6.out)
                have SE := hide ((hO6.block w2.heap.size hl6 (by omega)).trans S6.out)
                clear hO6 O4 P4 HS
                have kr := KE.out
                have r0 : v4.cell? ⟨w.heap.size, 0, none⟩ = some (.slice none 0 0) := by simp [World.cell?, kr]
                have r1 : v4.cell? ⟨w.heap.size, 1, none⟩ = some (.slice none 0 0) := by simp [World.cell?, kr]
                have t0 : v4.frozen? ⟨w.heap.size, 0, none⟩ = false := by simp [World.frozen?, kr]
                have t1 : v4.frozen? ⟨w.heap.size, 1, none⟩ = false := by simp [World.frozen?, kr]
                have l0 := heap_in kr
                clear kr
                go_simp
                clear r0 r1 t0 t1 l0
                have KF := hide (set_two (v0 := .slice b0 m0 d0) (v1 := .slice b1 m1 d1) KE.out)
                have BF := hide ((BE.out.setCell (p := ⟨w.heap.size, 0, none⟩) (Nat.le_refl _) (.slice b0 m0 d0)).setCell (p := ⟨w.heap.size, 1, none⟩) (Nat.le_refl _) (.slice b1 m1 d1))
                have HF := hide ((H4'.out.agr ((agr_set (w := v4) (j := 0) hw6 (.slice b0 m0 d0)).trans (agr_set (j := 1) hw6 (.slice b1 m1 d1)))).mono (show w.heap.size ≤ w6.heap.size by omega))
                have SF := hide (((Below.heap_setCell _ ⟨w.heap.size, 1, none⟩ (.slice b1 m1 d1) w2.heap.size (by show w2.heap.size ≠ w.heap.size; omega)).trans (Below.heap_setCell v4 ⟨w.heap.size, 0, none⟩ (.slice b0 m0 d0) w2.heap.size (by show w2.heap.size ≠ w.heap.size; omega))).trans SE.out)
                have LF := hide (((Below.heap_setCell _ ⟨w.heap.size, 1, none⟩ (.slice b1 m1 d1) g (by show g ≠ w.heap.size; omega)).trans (Below.heap_setCell v4 ⟨w.heap.size, 0, none⟩ (.slice b0 m0 d0) g (by show g ≠ w.heap.size; omega))).trans L4.out)
                clear L4
                clear BE KE SE H4'
                generalize (v4.setCell ⟨w.heap.size, 0, none⟩ (.slice b0 m0 d0)).setCell ⟨w.heap.size, 1, none⟩ (.slice b1 m1 d1) = vF at *
                have HS := hide (SB.out vF SF.out)
                refine hK.out _ _ HS.out ?_
                clear hK K
                (try simp only [Act.put, nzL])
                obtain ⟨sx, hcx⟩ := lit2_at LF.out m hm
                refine anyS_one (i := 8) rfl (by as_aux_lemma => kernel_rfl) (fun K hK => ?_)
                go_simp
                refine hK.out _ _ HS.out ?_
                clear hK K
                (try simp only [Act.put, nzL])
                iterate 2
                  refine anyS_on 10 rfl rfl (by as_aux_lemma => kernel_rfl) (fun K hK => ?_)
                  go_simp
                  refine hK.out _ _ HS.out ?_
                  clear hK K
                  (try simp only [Act.put, nzL])
                refine wpAnyH_done (by as_aux_lemma => kernel_rfl) ?_ _
                have kr := KF.out
                have r0 : vF.cell? ⟨w.heap.size, 0, none⟩ = some (.slice b0 m0 d0) := by simp [World.cell?, kr]
                have r1 : vF.cell? ⟨w.heap.size, 1, none⟩ = some (.slice b1 m1 d1) := by simp [World.cell?, kr]
                clear kr
                go_wp2
                exact bodyPost_ret (v := .tuple #[.agg #[.slice b0 m0 d0, .slice b1 m1 d1], .string sx, .string ⟨#[120]⟩]) (by simp [results, Tryz.results8, go_sem, r0, r1]) rfl ⟨_, _, _, _, _, _, _, _, _, _, rfl, HF.out, BF.out⟩
            · skip
              have hO6 := O3.out
              have BE := hide (B6.out.trans (hO6.below (by omega) B6.out.size))
              have KE := hide ((hO6.block w.heap.size (heap_in K6.out) (by omega)).trans K6.out)
              have SE := hide ((hO6.block w2.heap.size hl6 (by omega)).trans S6.out)
              clear hO6 O3 P3 HS
              have kr := KE.out
              have r0 : v3.cell? ⟨w.heap.size, 0, none⟩ = some (.slice none 0 0) := by simp [World.cell?, kr]
              have r1 : v3.cell? ⟨w.heap.size, 1, none⟩ = some (.slice none 0 0) := by simp [World.cell?, kr]
              have t0 : v3.frozen? ⟨w.heap.size, 0, none⟩ = false := by simp [World.frozen?, kr]
              have t1 : v3.frozen? ⟨w.heap.size, 1, none⟩ = false := by simp [World.frozen?, kr]
              have l0 := heap_in kr
              clear kr
              go_simp
              clear r0 r1 t0 t1 l0
              have KF := hide (set_two (v0 := .slice b0 m0 d0) (v1 := .slice b1 m1 d1) KE.out)
              have BF := hide ((BE.out.setCell (p := ⟨w.heap.size, 0, none⟩) (Nat.le_refl _) (.slice b0 m0 d0)).setCell (p := ⟨w.heap.size, 1, none⟩) (Nat.le_refl _) (.slice b1 m1 d1))
              have HF := hide ((H3'.out.agr ((agr_set (w := v3) (j := 0) hw6 (.slice b0 m0 d0)).trans (agr_set (j := 1) hw6 (.slice b1 m1 d1)))).mono (show w.heap.size ≤ w6.heap.size by omega))
              have SF := hide (((Below.heap_setCell _ ⟨w.heap.size, 1, none⟩ (.slice b1 m1 d1) w2.heap.size (by show w2.heap.size ≠ w.heap.size; omega)).trans (Below.heap_setCell v3 ⟨w.heap.size, 0, none⟩ (.slice b0 m0 d0) w2.heap.size (by show w2.heap.size ≠ w.heap.size; omega))).trans SE.out)
              skip
              clear BE KE SE H3'
              generalize (v3.setCell ⟨w.heap.size, 0, none⟩ (.slice b0 m0 d0)).setCell ⟨w.heap.size, 1, none⟩ (.slice b1 m1 d1) = vF at *
              have HS := hide (SB.out vF SF.out)
              refine hK.out _ _ HS.out ?_
              clear hK K
              (try simp only [Act.put, nzL])
              obtain ⟨m, rfl⟩ := Int.eq_ofNat_of_zero_le hzi0
              have hm : m < 2 := by omega
              refine anyS_one (i := 4) rfl (by as_aux_lemma => kernel_rfl) (fun K hK => ?_)
              go_simp
              have hB := (Below.refl vF.heap.size vF).alloc (Nat.le_refl _) (.cells #[.string ⟨#[97]⟩, .string ⟨#[122, 110, 101, 119]⟩] 9)
              have LG : Hid ((vF.alloc (.cells #[.string ⟨#[97]⟩, .string ⟨#[122, 110, 101, 119]⟩] 9)).heap[vF.heap.size]? = some (.cells #[.string ⟨#[97]⟩, .string ⟨#[122, 110, 101, 119]⟩] 9 (0, 0))) := heap_alloc_new vF _
              have SG := hide ((hB.block w2.heap.size (heap_in SF.out)).trans SF.out)
              have KG := hide ((hB.block w.heap.size (heap_in KF.out)).trans KF.out)
              have BG := hide (BF.out.trans (hB.mono BF.out.size))
              have HG := hide (HF.out.agr (agr_below hB (Nat.le_refl _)))
              clear hB HS SF KF BF HF
              generalize vF.alloc (.cells #[.string ⟨#[97]⟩, .string ⟨#[122, 110, 101, 119]⟩] 9) = vG at *
              generalize vF.heap.size = g at *
              have HS := hide (SB.out vG SG.out)
              refine hK.out _ _ HS.out ?_
              clear hK K
              (try simp only [Act.put, nzL])
              have KF := KG
              have BF := BG
              have HF := HG
              refine anyS_nx 7 (v := ?_) rfl rfl (by as_aux_lemma => kernel_rfl) (fun _ _ _ h => h) rfl ?_ HS.out ?_
              rotate_left
              · (intro wz hSw; obtain ⟨s0, s1, s2⟩ := hSw; go_simp)
                (try with_reducible rfl)
              (try simp only [Act.put, nzL])
              obtain ⟨sx, hcx⟩ := lit2_at LG.out m hm
              refine anyS_one (i := 8) rfl (by as_aux_lemma => kernel_rfl) (fun K hK => ?_)
              go_simp
              refine hK.out _ _ HS.out ?_
              clear hK K
              (try simp only [Act.put, nzL])
              iterate 2
                refine anyS_on 10 rfl rfl (by as_aux_lemma => kernel_rfl) (fun K hK => ?_)
                go_simp
                refine hK.out _ _ HS.out ?_
                clear hK K
                (try simp only [Act.put, nzL])
              refine wpAnyH_done (by as_aux_lemma => kernel_rfl) ?_ _
              have kr := KF.out
              have r0 : vG.cell? ⟨w.heap.size, 0, none⟩ = some (.slice b0 m0 d0) := by simp [World.cell?, kr]
              have r1 : vG.cell? ⟨w.heap.size, 1, none⟩ = some (.slice b1 m1 d1) := by simp [World.cell?, kr]
              clear kr
              go_wp2
              exact bodyPost_ret (v := .tuple #[.agg #[.slice b0 m0 d0, .slice b1 m1 d1], .string sx, .string ⟨#[120]⟩]) (by simp [results, Tryz.results8, go_sem, r0, r1]) rfl ⟨_, _, _, _, _, _, _, _, _, _, rfl, HF.out, BF.out⟩
        · skip
          go_simp
          have hB := (Below.refl v1.heap.size v1).alloc (Nat.le_refl _) (.cells #[.string ⟨#[97]⟩, .string ⟨#[122, 110, 101, 119]⟩] 9)
          have hO : Only R v1 (v1.alloc (.cells #[.string ⟨#[97]⟩, .string ⟨#[122, 110, 101, 119]⟩] 9)) := Only.of_below hB
          have L2 : Hid ((v1.alloc (.cells #[.string ⟨#[97]⟩, .string ⟨#[122, 110, 101, 119]⟩] 9)).heap[v1.heap.size]? = some (.cells #[.string ⟨#[97]⟩, .string ⟨#[122, 110, 101, 119]⟩] 9 (0, 0))) := heap_alloc_new v1 _
          have O2 := hide (O1.out.trans hO)
          have P2 := hide (P1.out.below hB (Nat.le_refl _))
          have hg6 : w6.heap.size ≤ v1.heap.size := O1.out.size
          clear hB P1
          skip
          generalize v1.alloc (.cells #[.string ⟨#[97]⟩, .string ⟨#[122, 110, 101, 119]⟩] 9) = v2 at *
          generalize v1.heap.size = g at L2 hg6 ⊢
          have hgR : g ≠ R := by omega
          clear hO HS O1
          have HS := hide (SB.out v2 ((O2.out.block w2.heap.size hl6 (by omega)).trans S6.out))
          refine hK.out _ _ HS.out ?_
          clear hK K
          (try simp only [Act.put, nzL])
          refine anyS_one (i := 3) rfl (by as_aux_lemma => kernel_rfl) (fun K hK => ?_)
          go_simp
          go_at_call 53
          refine (l2Full_any w1.heap.size n0 c0 n1 c1 a0 f0 a1 f1 zl _ (by omega) (by omega) (H6.out.agr (O2.out.agr hRb))).mono ?_
          rintro e v3 ⟨b0, m0, d0, g0, b1, m1, d1, g1, rfl, hH, hB⟩
          have hO : Only R v2 v3 := Only.of_below hB
          have O3 := hide (O2.out.trans hO)
          have P3 := hide (P2.out.below hB (Nat.le_refl _))
          have H3' := hide (hH.mono (show w6.heap.size ≤ v2.heap.size from O2.out.size))
          clear hH hB P2
          have L3 := hide ((hO.block g (heap_in L2.out) hgR).trans L2.out)
          clear L2
          clear hO HS O2
          have HS := hide (SB.out v3 ((O3.out.block w2.heap.size hl6 (by omega)).trans S6.out))
          refine hK.out _ _ HS.out ?_
          clear hK K
          (try simp only [Act.put, nzL])
          refine anyS_one (i := 6) rfl (by as_aux_lemma => kernel_rfl) (fun K hK => ?_)
          go_simp
          go_at_call 51
          refine (pick_any R _ 2 _ P3.out (by omega) (by omega) (by omega)).mono ?_
          rintro e v4 ⟨zi, rfl, hzi0, hzi1, hR, hO⟩
          have O4 := hide (O3.out.trans hO)
          have P4 := hide hR
          clear hR P3
          have L4 := hide ((hO.block g (heap_in L3.out) hgR).trans L3.out)
          clear L3
          have H4' := hide (H3'.out.agr (hO.agr hR6))
          clear H3'
          clear hO HS O3
          have HS := hide (SB.out v4 ((O4.out.block w2.heap.size hl6 (by omega)).trans S6.out))
          refine hK.out _ _ HS.out ?_
          clear hK K
          (try simp only [Act.put, nzL])
          obtain ⟨m, rfl⟩ := Int.eq_ofNat_of_zero_le hzi0
          have hm : m < 2 := by omega
          refine anyS_nx 7 (v := ?_) rfl rfl (by as_aux_lemma => kernel_rfl) (fun _ _ _ h => h) rfl ?_ HS.out ?_
          rotate_left
          · (intro wz hSw; obtain ⟨s0, s1, s2⟩ := hSw; go_simp)
            (try with_reducible rfl)
          (try simp only [Act.put, nzL])
          refine anyS_two (i := 8) (j := 9) rfl rfl (by as_aux_lemma => kernel_rfl) (fun K hK => ?_) (fun K hK => ?_)
          · obtain ⟨sx, hcx⟩ := lit2_at L4.out m hm
            go_simp
            refine hK.out _ _ HS.out ?_
            clear hK K
            (try simp only [Act.put, nzL])
            clear hcx
            refine anyS_one (i := 9) rfl (by as_aux_lemma => kernel_rfl) (fun K hK => ?_)
            have hO6 := O4.out
            have BE := hide (B6.out.trans (hO6.below (by omega) B6.out.size))
            have KE := hide ((hO6.block w.heap.size (heap_in K6.out) (by omega)).trans K6.out)
            have SE := hide ((hO6.block w2.heap.size hl6 (by omega)).trans S6.out)
            clear hO6 O4 P4 HS
            have kr := KE.out
            have r0 : v4.cell? ⟨w.heap.size, 0, none⟩ = some (.slice none 0 0) := by simp [World.cell?, kr]
            have r1 : v4.cell? ⟨w.heap.size, 1, none⟩ = some (.slice none 0 0) := by simp [World.cell?, kr]
            have t0 : v4.frozen? ⟨w.heap.size, 0, none⟩ = false := by simp [World.frozen?, kr]
            have t1 : v4.frozen? ⟨w.heap.size, 1, none⟩ = false := by simp [World.frozen?, kr]
            have l0 := heap_in kr
            clear kr
            go_simp
            clear r0 r1 t0 t1 l0
            have KF := hide (set_two (v0 := .slice b0 m0 d0) (v1 := .slice b1 m1 d1) KE.out)
            have BF := hide ((BE.out.setCell (p := ⟨w.heap.size, 0, none⟩) (Nat.le_refl _) (.slice b0 m0 d0)).setCell (p := ⟨w.heap.size, 1, none⟩) (Nat.le_refl _) (.slice b1 m1 d1))
            have HF := hide ((H4'.out.agr ((agr_set (w := v4) (j := 0) hw6 (.slice b0 m0 d0)).trans (agr_set (j := 1) hw6 (.slice b1 m1 d1)))).mono (show w.heap.size ≤ w6.heap.size by omega))
            have SF := hide (((Below.heap_setCell _ ⟨w.heap.size, 1, none⟩ (.slice b1 m1 d1) w2.heap.size (by show w2.heap.size ≠ w.heap.size; omega)).trans (Below.heap_setCell v4 ⟨w.heap.size, 0, none⟩ (.slice b0 m0 d0) w2.heap.size (by show w2.heap.size ≠ w.heap.size; omega))).trans SE.out)
            skip
            clear BE KE SE H4'
            generalize (v4.setCell ⟨w.heap.size, 0, none⟩ (.slice b0 m0 d0)).setCell ⟨w.heap.size, 1, none⟩ (.slice b1 m1 d1) = vF at *
            have HS := hide (SB.out vF SF.out)
            refine hK.out _ _ HS.out ?_
            clear hK K
            (try simp only [Act.put, nzL])
            iterate 2
              refine anyS_on 10 rfl rfl (by as_aux_lemma => kernel_rfl) (fun K hK => ?_)
              go_simp
              refine hK.out _ _ HS.out ?_
              clear hK K
              (try simp only [Act.put, nzL])
            refine wpAnyH_done (by as_aux_lemma => kernel_rfl) ?_ _
            have kr := KF.out
            have r0 : vF.cell? ⟨w.heap.size, 0, none⟩ = some (.slice b0 m0 d0) := by simp [World.cell?, kr]
            have r1 : vF.cell? ⟨w.heap.size, 1, none⟩ = some (.slice b1 m1 d1) := by simp [World.cell?, kr]
            clear kr
            go_wp2
            exact bodyPost_ret (v := .tuple #[.agg #[.slice b0 m0 d0, .slice b1 m1 d1], .string sx, .string ⟨#[120]⟩]) (by simp [results, Tryz.results8, go_sem, r0, r1]) rfl ⟨_, _, _, _, _, _, _, _, _, _, rfl, HF.out, BF.out⟩
          · skip
            have hO6 := O4.out
            have BE := hide (B6.out.trans (hO6.below (by omega) B6.out.size))
            have KE := hide ((hO6.block w.heap.size (heap_in K6.out) (by omega)).trans K6.out)
            have SE := hide ((hO6.block w2.heap.size hl6 (by omega)).trans S6.out)
            clear hO6 O4 P4 HS
            have kr := KE.out
            have r0 : v4.cell? ⟨w.heap.size, 0, none⟩ = some (.slice none 0 0) := by simp [World.cell?, kr]
            have r1 : v4.cell? ⟨w.heap.size, 1, none⟩ = some (.slice none 0 0) := by simp [World.cell?, kr]
            have t0 : v4.frozen? ⟨w.heap.size, 0, none⟩ = false := by simp [World.frozen?, kr]
            have t1 : v4.frozen? ⟨w.heap.size, 1, none⟩ = false := by simp [World.frozen?, kr]
            have l0 := heap_in kr
            clear kr
            go_simp
            clear r0 r1 t0 t1 l0
            have KF := hide (set_two (v0 := .slice b0 m0 d0) (v1 := .slice b1 m1 d1) KE.out)
            have BF := hide ((BE.out.setCell (p := ⟨w.heap.size, 0, none⟩) (Nat.le_refl _) (.slice b0 m0 d0)).setCell (p := ⟨w.heap.size, 1, none⟩) (Nat.le_refl _) (.slice b1 m1 d1))
            have HF := hide ((H4'.out.agr ((agr_set (w := v4) (j := 0) hw6 (.slice b0 m0 d0)).trans (agr_set (j := 1) hw6 (.slice b1 m1 d1)))).mono (show w.heap.size ≤ w6.heap.size by omega))
            have SF := hide (((Below.heap_setCell _ ⟨w.heap.size, 1, none⟩ (.slice b1 m1 d1) w2.heap.size (by show w2.heap.size ≠ w.heap.size; omega)).trans (Below.heap_setCell v4 ⟨w.heap.size, 0, none⟩ (.slice b0 m0 d0) w2.heap.size (by show w2.heap.size ≠ w.heap.size; omega))).trans SE.out)
            have LF := hide (((Below.heap_setCell _ ⟨w.heap.size, 1, none⟩ (.slice b1 m1 d1) g (by show g ≠ w.heap.size; omega)).trans (Below.heap_setCell v4 ⟨w.heap.size, 0, none⟩ (.slice b0 m0 d0) g (by show g ≠ w.heap.size; omega))).trans L4.out)
            clear L4
            clear BE KE SE H4'
            generalize (v4.setCell ⟨w.heap.size, 0, none⟩ (.slice b0 m0 d0)).setCell ⟨w.heap.size, 1, none⟩ (.slice b1 m1 d1) = vF at *
            have HS := hide (SB.out vF SF.out)
            refine hK.out _ _ HS.out ?_
            clear hK K
            (try simp only [Act.put, nzL])
            obtain ⟨sx, hcx⟩ := lit2_at LF.out m hm
            refine anyS_one (i := 8) rfl (by as_aux_lemma => kernel_rfl) (fun K hK => ?_)
            go_simp
            refine hK.out _ _ HS.out ?_
            clear hK K
            (try simp only [Act.put, nzL])
            iterate 2
              refine anyS_on 10 rfl rfl (by as_aux_lemma => kernel_rfl) (fun K hK => ?_)
              go_simp
              refine hK.out _ _ HS.out ?_
              clear hK K
              (try simp only [Act.put, nzL])
            refine wpAnyH_done (by as_aux_lemma => kernel_rfl) ?_ _
            have kr := KF.out
            have r0 : vF.cell? ⟨w.heap.size, 0, none⟩ = some (.slice b0 m0 d0) := by simp [World.cell?, kr]
            have r1 : vF.cell? ⟨w.heap.size, 1, none⟩ = some (.slice b1 m1 d1) := by simp [World.cell?, kr]
            clear kr
            go_wp2
            exact bodyPost_ret (v := .tuple #[.agg #[.slice b0 m0 d0, .slice b1 m1 d1], .string sx, .string ⟨#[120]⟩]) (by simp [results, Tryz.results8, go_sem, r0, r1]) rfl ⟨_, _, _, _, _, _, _, _, _, _, rfl, HF.out, BF.out⟩
      · skip
        go_simp
        have hB := (Below.refl v0.heap.size v0).alloc (Nat.le_refl _) (.cells #[.string ⟨#[97]⟩, .string ⟨#[122, 110, 101, 119]⟩] 9)
        have hO : Only R v0 (v0.alloc (.cells #[.string ⟨#[97]⟩, .string ⟨#[122, 110, 101, 119]⟩] 9)) := Only.of_below hB
        have L1 : Hid ((v0.alloc (.cells #[.string ⟨#[97]⟩, .string ⟨#[122, 110, 101, 119]⟩] 9)).heap[v0.heap.size]? = some (.cells #[.string ⟨#[97]⟩, .string ⟨#[122, 110, 101, 119]⟩] 9 (0, 0))) := heap_alloc_new v0 _
        have O1 := hide (O0.out.trans hO)
        have P1 := hide (P0.out.below hB (Nat.le_refl _))
        have hg6 : w6.heap.size ≤ v0.heap.size := O0.out.size
        clear hB P0
        skip
        generalize v0.alloc (.cells #[.string ⟨#[97]⟩, .string ⟨#[122, 110, 101, 119]⟩] 9) = v1 at *
        generalize v0.heap.size = g at L1 hg6 ⊢
        have hgR : g ≠ R := by omega
        clear hO HS O0
        have HS := hide (SB.out v1 ((O1.out.block w2.heap.size hl6 (by omega)).trans S6.out))
        refine hK.out _ _ HS.out ?_
        clear hK K
        (try simp only [Act.put, nzL])
        refine anyS_one (i := 2) rfl (by as_aux_lemma => kernel_rfl) (fun K hK => ?_)
        go_simp
        go_at_call 51
        refine (pick_any R _ 2 _ P1.out (by omega) (by omega) (by omega)).mono ?_
        rintro e v2 ⟨zl, rfl, hzl0, hzl1, hR, hO⟩
        have O2 := hide (O1.out.trans hO)
        have P2 := hide hR
        clear hR P1
        have L2 := hide ((hO.block g (heap_in L1.out) hgR).trans L1.out)
        clear L1
        skip
        clear hO HS O1
        have HS := hide (SB.out v2 ((O2.out.block w2.heap.size hl6 (by omega)).trans S6.out))
        refine hK.out _ _ HS.out ?_
        clear hK K
        (try simp only [Act.put, nzL])
        refine anyS_one (i := 3) rfl (by as_aux_lemma => kernel_rfl) (fun K hK => ?_)
        go_simp
        go_at_call 53
        refine (l2Full_any w1.heap.size n0 c0 n1 c1 a0 f0 a1 f1 zl _ (by omega) (by omega) (H6.out.agr (O2.out.agr hRb))).mono ?_
        rintro e v3 ⟨b0, m0, d0, g0, b1, m1, d1, g1, rfl, hH, hB⟩
        have hO : Only R v2 v3 := Only.of_below hB
        have O3 := hide (O2.out.trans hO)
        have P3 := hide (P2.out.below hB (Nat.le_refl _))
        have H3' := hide (hH.mono (show w6.heap.size ≤ v2.heap.size from O2.out.size))
        clear hH hB P2
        have L3 := hide ((hO.block g (heap_in L2.out) hgR).trans L2.out)
        clear L2
        clear hO HS O2
        have HS := hide (SB.out v3 ((O3.out.block w2.heap.size hl6 (by omega)).trans S6.out))
        refine hK.out _ _ HS.out ?_
        clear hK K
        (try simp only [Act.put, nzL])
        refine anyS_one (i := 6) rfl (by as_aux_lemma => kernel_rfl) (fun K hK => ?_)
        go_simp
        go_at_call 51
        refine (pick_any R _ 2 _ P3.out (by omega) (by omega) (by omega)).mono ?_
        rintro e v4 ⟨zi, rfl, hzi0, hzi1, hR, hO⟩
        have O4 := hide (O3.out.trans hO)
        have P4 := hide hR
        clear hR P3
        have L4 := hide ((hO.block g (heap_in L3.out) hgR).trans L3.out)
        clear L3
        have H4' := hide (H3'.out.agr (hO.agr hR6))
        clear H3'
        clear hO HS O3
        have HS := hide (SB.out v4 ((O4.out.block w2.heap.size hl6 (by omega)).trans S6.out))
        refine hK.out _ _ HS.out ?_
        clear hK K
        (try simp only [Act.put, nzL])
        obtain ⟨m, rfl⟩ := Int.eq_ofNat_of_zero_le hzi0
        have hm : m < 2 := by omega
        refine anyS_nx 7 (v := ?_) rfl rfl (by as_aux_lemma => kernel_rfl) (fun _ _ _ h => h) rfl ?_ HS.out ?_
        rotate_left
        · (intro wz hSw; obtain ⟨s0, s1, s2⟩ := hSw; go_simp)
          (try with_reducible rfl)
        (try simp only [Act.put, nzL])
        refine anyS_two (i := 8) (j := 9) rfl rfl (by as_aux_lemma => kernel_rfl) (fun K hK => ?_) (fun K hK => ?_)
        · obtain ⟨sx, hcx⟩ := lit2_at L4.out m hm
          go_simp
          refine hK.out _ _ HS.out ?_
          clear hK K
          (try simp only [Act.put, nzL])
          clear hcx
          refine anyS_one (i := 9) rfl (by as_aux_lemma => kernel_rfl) (fun K hK => ?_)
          have hO6 := O4.out
          have BE := hide (B6.out.trans (hO6.below (by omega) B6.out.size))
          have KE := hide ((hO6.block w.heap.size (heap_in K6.out) (by omega)).trans K6.out)
          have SE := hide ((hO6.block w2.heap.size hl6 (by omega)).trans S6.out)
          clear hO6 O4 P4 HS
          have kr := KE.out
          have r0 : v4.cell? ⟨w.heap.size, 0, none⟩ = some (.slice none 0 0) := by simp [World.cell?, kr]
          have r1 : v4.cell? ⟨w.heap.size, 1, none⟩ = some (.slice none 0 0) := by simp [World.cell?, kr]
          have t0 : v4.frozen? ⟨w.heap.size, 0, none⟩ = false := by simp [World.frozen?, kr]
          have t1 : v4.frozen? ⟨w.heap.size, 1, none⟩ = false := by simp [World.frozen?, kr]
          have l0 := heap_in kr
          clear kr
          go_simp
          clear r0 r1 t0 t1 l0
          have KF := hide (set_two (v0 := .slice b0 m0 d0) (v1 := .slice b1 m1 d1) KE.out)
          have BF := hide ((BE.out.setCell (p := ⟨w.heap.size, 0, none⟩) (Nat.le_refl _) (.slice b0 m0 d0)).setCell (p := ⟨w.heap.size, 1, none⟩) (Nat.le_refl _) (.slice b1 m1 d1))
          have HF := hide ((H4'.out.agr ((agr_set (w := v4) (j := 0) hw6 (.slice b0 m0 d0)).trans (agr_set (j := 1) hw6 (.slice b1 m1 d1)))).mono (show w.heap.size ≤ w6.heap.size by omega))
          have SF := hide (((Below.heap_setCell _ ⟨w.heap.size, 1, none⟩ (.slice b1 m1 d1) w2.heap.size (by show w2.heap.size ≠ w.heap.size; omega)).trans (Below.heap_setCell v4 ⟨w.heap.size, 0, none⟩ (.slice b0 m0 d0) w2.heap.size (by show w2.heap.size ≠ w.heap.size; omega))).trans SE.out)
          skip
          clear BE KE SE H4'
          generalize (v4.setCell ⟨w.heap.size, 0, none⟩ (.slice b0 m0 d0)).setCell ⟨w.heap.size, 1, none⟩ (.slice b1 m1 d1) = vF at *
          have HS := hide (SB.out vF SF.out)
          refine hK.out _ _ HS.out ?_
          clear hK K
          (try simp only [Act.put, nzL])
          iterate 2
            refine anyS_on 10 rfl rfl (by as_aux_lemma => kernel_rfl) (fun K hK => ?_)
            go_simp
            refine hK.out _ _ HS.out ?_
            clear hK K
            (try simp only [Act.put, nzL])
          refine wpAnyH_done (by as_aux_lemma => kernel_rfl) ?_ _
          have kr := KF.out
          have r0 : vF.cell? ⟨w.heap.size, 0, none⟩ = some (.slice b0 m0 d0) := by simp [World.cell?, kr]
          have r1 : vF.cell? ⟨w.heap.size, 1, none⟩ = some (.slice b1 m1 d1) := by simp [World.cell?, kr]
          clear kr
          go_wp2
          exact bodyPost_ret (v := .tuple #[.agg #[.slice b0 m0 d0, .slice b1 m1 d1], .string sx, .string ⟨#[120]⟩]) (by simp [results, Tryz.results8, go_sem, r0, r1]) rfl ⟨_, _, _, _, _, _, _, _, _, _, rfl, HF.out, BF.out⟩
        · skip
          have hO6 := O4.out
          have BE := hide (B6.out.trans (hO6.below (by omega) B6.out.size))
          have KE := hide ((hO6.block w.heap.size (heap_in K6.out) (by omega)).trans K6.out)
          have SE := hide ((hO6.block w2.heap.size hl6 (by omega)).trans S6.out)
          clear hO6 O4 P4 HS
          have kr := KE.out
          have r0 : v4.cell? ⟨w.heap.size, 0, none⟩ = some (.slice none 0 0) := by simp [World.cell?, kr]
          have r1 : v4.cell? ⟨w.heap.size, 1, none⟩ = some (.slice none 0 0) := by simp [World.cell?, kr]
          have t0 : v4.frozen? ⟨w.heap.size, 0, none⟩ = false := by simp [World.frozen?, kr]
          have t1 : v4.frozen? ⟨w.heap.size, 1, none⟩ = false := by simp [World.frozen?, kr]
          have l0 := heap_in kr
          clear kr
          go_simp
          clear r0 r1 t0 t1 l0
          have KF := hide (set_two (v0 := .slice b0 m0 d0) (v1 := .slice b1 m1 d1) KE.out)
          have BF := hide ((BE.out.setCell (p := ⟨w.heap.size, 0, none⟩) (Nat.le_refl _) (.slice b0 m0 d0)).setCell (p := ⟨w.heap.size, 1, none⟩) (Nat.le_refl _) (.slice b1 m1 d1))
          have HF := hide ((H4'.out.agr ((agr_set (w := v4) (j := 0) hw6 (.slice b0 m0 d0)).trans (agr_set (j := 1) hw6 (.slice b1 m1 d1)))).mono (show w.heap.size ≤ w6.heap.size by omega))
          have SF := hide (((Below.heap_setCell _ ⟨w.heap.size, 1, none⟩ (.slice b1 m1 d1) w2.heap.size (by show w2.heap.size ≠ w.heap.size; omega)).trans (Below.heap_setCell v4 ⟨w.heap.size, 0, none⟩ (.slice b0 m0 d0) w2.heap.size (by show w2.heap.size ≠ w.heap.size; omega))).trans SE.out)
          have LF := hide (((Below.heap_setCell _ ⟨w.heap.size, 1, none⟩ (.slice b1 m1 d1) g (by show g ≠ w.heap.size; omega)).trans (Below.heap_setCell v4 ⟨w.heap.size, 0, none⟩ (.slice b0 m0 d0) g (by show g ≠ w.heap.size; omega))).trans L4.out)
          clear L4
          clear BE KE SE H4'
          generalize (v4.setCell ⟨w.heap.size, 0, none⟩ (.slice b0 m0 d0)).setCell ⟨w.heap.size, 1, none⟩ (.slice b1 m1 d1) = vF at *
          have HS := hide (SB.out vF SF.out)
          refine hK.out _ _ HS.out ?_
          clear hK K
          (try simp only [Act.put, nzL])
          obtain ⟨sx, hcx⟩ := lit2_at LF.out m hm
          refine anyS_one (i := 8) rfl (by as_aux_lemma => kernel_rfl) (fun K hK => ?_)
          go_simp
          refine hK.out _ _ HS.out ?_
          clear hK K
          (try simp only [Act.put, nzL])
          iterate 2
            refine anyS_on 10 rfl rfl (by as_aux_lemma => kernel_rfl) (fun K hK => ?_)
            go_simp
            refine hK.out _ _ HS.out ?_
            clear hK K
            (try simp only [Act.put, nzL])
          refine wpAnyH_done (by as_aux_lemma => kernel_rfl) ?_ _
          have kr := KF.out
          have r0 : vF.cell? ⟨w.heap.size, 0, none⟩ = some (.slice b0 m0 d0) := by simp [World.cell?, kr]
          have r1 : vF.cell? ⟨w.heap.size, 1, none⟩ = some (.slice b1 m1 d1) := by simp [World.cell?, kr]
          clear kr
          go_wp2
          exact bodyPost_ret (v := .tuple #[.agg #[.slice b0 m0 d0, .slice b1 m1 d1], .string sx, .string ⟨#[120]⟩]) (by simp [results, Tryz.results8, go_sem, r0, r1]) rfl ⟨_, _, _, _, _, _, _, _, _, _, rfl, HF.out, BF.out⟩
    · go_wp2_with fail
      refine (pick_any R _ 20 _ R6.out (by omega) (by omega) (by omega)).mono ?_
      rintro e w7 ⟨z7, rfl, h70, h71, hR, hO⟩
      have B7 := hide (B6.out.trans (hO.below (by omega) B6.out.size))
      have H7 := hide (H6.out.agr (hO.agr hRb))
      have K7 := hide ((hO.block w.heap.size (heap_in K6.out) (by omega)).trans K6.out)
      have S7 := hide ((hO.block w2.heap.size (heap_in S6.out) (by omega)).trans S6.out)
      have R7 := hide hR
      clear hO hR B6 H6 K6 S6 R6
      by_cases h7 : z7 = 0
      · subst h7
        go_wp2_with fail
        have SB : Hid (∀ V : World, V.heap[w2.heap.size]? = some (.cells #[.slice a0 n0 c0, .slice a1 n1 c1] 26 (0, 0)) → V.heap[w2.heap.size]? = some (.cells #[.slice a0 n0 c0, .slice a1 n1 c1] 26 (0, 0)) ∧ V.cell? ⟨w2.heap.size, 0, none⟩ = some (.slice a0 n0 c0) ∧ V.cell? ⟨w2.heap.size, 1, none⟩ = some (.slice a1 n1 c1)) := fun V h => ⟨h, by simp [World.cell?, h], by simp [World.cell?, h]⟩
        refine wp_region_held_drew (S := fun V => V.heap[w2.heap.size]? = some (.cells #[.slice a0 n0 c0, .slice a1 n1 c1] 26 (0, 0)) ∧ V.cell? ⟨w2.heap.size, 0, none⟩ = some (.slice a0 n0 c0) ∧ V.cell? ⟨w2.heap.size, 1, none⟩ = some (.slice a1 n1 c1)) (by as_aux_lemma => kernel_rfl) (SB.out w7 S7.out) (fun hS => ?_)
        have HS := hide hS
        clear hS
        iterate 3
          refine anyS_nx 0 (v := ?_) rfl rfl (by as_aux_lemma => kernel_rfl) (fun _ _ _ h => h) rfl ?_ HS.out ?_
          rotate_left
          · (intro wz hSw; obtain ⟨s0, s1, s2⟩ := hSw; go_simp)
            (try with_reducible rfl)
          (try simp only [Act.put, nzL])
        refine anyS_one (i := 3) rfl (by as_aux_lemma => kernel_rfl) (fun K hK => ?_)
        go_simp
        go_at_call 51
        refine (pick_any R _ 2 _ (R7.out.below (Below.refl _ _).drew (Nat.le_refl _)) (by omega) (by omega) (by omega)).mono ?_
        rintro e w8 ⟨z8, rfl, h80, h81, hR, hO'⟩
        obtain ⟨m8, rfl⟩ := Int.eq_ofNat_of_zero_le h80
        have hO : Only R w7 w8 := (Only.of_below (Below.refl _ _).drew).trans hO'
        clear hO' HS
        have B8 := hide (B7.out.trans (hO.below (by omega) B7.out.size))
        have H8 := hide (H7.out.agr (hO.agr hRb))
        have K8 := hide ((hO.block w.heap.size (heap_in K7.out) (by omega)).trans K7.out)
        have S8 := hide ((hO.block w2.heap.size (heap_in S7.out) (by omega)).trans S7.out)
        have R8 := hide hR
        clear hO hR B7 H7 K7 S7 R7
        have HS := hide (SB.out w8 S8.out)
        refine hK.out _ _ HS.out ?_
        clear hK K
        (try simp only [Act.put, nzL])
        have hw20 : IntKind.i64.wrap (2000 + (m8 : Int)) = 2000 + (m8 : Int) := by rw [IntKind.wrap_i64]; omega
        refine anyS_one (i := 4) rfl (by as_aux_lemma => kernel_rfl) (fun K hK => ?_)
        go_simp
        refine hK.out _ _ HS.out ?_
        clear hK K
        (try simp only [Act.put, nzL])
        refine anyS_one (i := 5) rfl (by as_aux_lemma => kernel_rfl) (fun K hK => ?_)
        go_simp
        go_at_call 54
        refine (l1Many_any ⟨#[112]⟩ (2000 + m8) _ (by show 1 * (2000 + m8) ≤ 4000; omega) (by omega)).mono ?_
        rintro e w9 ⟨tx, rfl, _, rfl⟩
        refine hK.out _ _ HS.out ?_
        clear hK K
        (try simp only [Act.put, nzL])
        have HM := hide (H8.out.mono (show w.heap.size + 1 ≤ w1.heap.size by omega))
        have kr := K8.out
        have r0 : w9.cell? ⟨w.heap.size, 0, none⟩ = some (.slice none 0 0) := by simp [World.cell?, kr]
        have r1 : w9.cell? ⟨w.heap.size, 1, none⟩ = some (.slice none 0 0) := by simp [World.cell?, kr]
        have f0 : w9.frozen? ⟨w.heap.size, 0, none⟩ = false := by simp [World.frozen?, kr]
        have f1 : w9.frozen? ⟨w.heap.size, 1, none⟩ = false := by simp [World.frozen?, kr]
        have l0 := heap_in kr
        clear kr
        refine anyS_one (i := 6) rfl (by as_aux_lemma => kernel_rfl) (fun K hK => ?_)
        go_simp
        clear HS
        have HS := hide (SB.out ((w9.setCell ⟨w.heap.size, 0, none⟩ (.slice a0 n0 c0)).setCell ⟨w.heap.size, 1, none⟩ (.slice a1 n1 c1)) (((Below.heap_setCell _ ⟨w.heap.size, 1, none⟩ _ w2.heap.size (by show w2.heap.size ≠ w.heap.size; omega)).trans (Below.heap_setCell _ ⟨w.heap.size, 0, none⟩ _ w2.heap.size (by show w2.heap.size ≠ w.heap.size; omega))).trans S8.out))
        refine hK.out _ _ HS.out ?_
        clear hK K
        (try simp only [Act.put, nzL])
        have BE := hide ((B8.out.setCell (p := ⟨w.heap.size, 0, none⟩) (Nat.le_refl _) (.slice a0 n0 c0)).setCell (p := ⟨w.heap.size, 1, none⟩) (Nat.le_refl _) (.slice a1 n1 c1))
        have HE2 := hide ((HM.out.agr ((agr_set (j := 0) (show w.heap.size < w.heap.size + 1 by omega) (.slice a0 n0 c0)).trans (agr_set (j := 1) (show w.heap.size < w.heap.size + 1 by omega) (.slice a1 n1 c1)))).mono (Nat.le_succ w.heap.size))
        iterate 2
          refine anyS_on 7 rfl rfl (by as_aux_lemma => kernel_rfl) (fun K hK => ?_)
          go_simp
          refine hK.out _ _ HS.out ?_
          clear hK K
          (try simp only [Act.put, nzL])
        refine wpAnyH_done (by as_aux_lemma => kernel_rfl) ?_ _
        go_wp2
        exact bodyPost_ret (v := .tuple #[.agg #[.slice a0 n0 c0, .slice a1 n1 c1], .string nm, .string tx]) (by simp [results, Tryz.results8, go_sem, r0, r1]) rfl ⟨_, _, _, _, _, _, _, _, _, _, rfl, HE2.out, BE.out⟩
      · have ks7 := S7.out
        have y0 : w7.cell? ⟨w2.heap.size, 0, none⟩ = some (.slice a0 n0 c0) := by simp [World.cell?, ks7]
        have y1 : w7.cell? ⟨w2.heap.size, 1, none⟩ = some (.slice a1 n1 c1) := by simp [World.cell?, ks7]
        clear ks7
        go_wp2_with fail
        clear y0 y1
        have SB : Hid (∀ V : World, V.heap[w2.heap.size]? = some (.cells #[.slice a0 n0 c0, .slice a1 n1 c1] 26 (0, 0)) → V.heap[w2.heap.size]? = some (.cells #[.slice a0 n0 c0, .slice a1 n1 c1] 26 (0, 0)) ∧ V.cell? ⟨w2.heap.size, 0, none⟩ = some (.slice a0 n0 c0) ∧ V.cell? ⟨w2.heap.size, 1, none⟩ = some (.slice a1 n1 c1)) := fun V h => ⟨h, by simp [World.cell?, h], by simp [World.cell?, h]⟩
        refine wp_region_held_drew (S := fun V => V.heap[w2.heap.size]? = some (.cells #[.slice a0 n0 c0, .slice a1 n1 c1] 26 (0, 0)) ∧ V.cell? ⟨w2.heap.size, 0, none⟩ = some (.slice a0 n0 c0) ∧ V.cell? ⟨w2.heap.size, 1, none⟩ = some (.slice a1 n1 c1)) (by as_aux_lemma => kernel_rfl) (SB.out w7 S7.out) (fun hS => ?_)
        have HS := hide hS
        clear hS
        iterate 3
          refine anyS_nx 0 (v := ?_) rfl rfl (by as_aux_lemma => kernel_rfl) (fun _ _ _ h => h) rfl ?_ HS.out ?_
          rotate_left
          · (intro wz hSw; obtain ⟨s0, s1, s2⟩ := hSw; go_simp)
            (try with_reducible rfl)
          (try simp only [Act.put, nzL])
        refine anyS_one (i := 3) rfl (by as_aux_lemma => kernel_rfl) (fun K hK => ?_)
        go_simp
        go_at_call 55
        refine (l1Text_any R _ _ (R7.out.below (Below.refl _ _).drew (Nat.le_refl _)) (by omega)).mono ?_
        rintro e w8 ⟨tx, rfl, htx, q8, hq8, hR, hO'⟩
        have hO : Only R w7 w8 := (Only.of_below (Below.refl _ _).drew).trans hO'
        clear hO' HS
        have B8 := hide (B7.out.trans (hO.below (by omega) B7.out.size))
        have H8 := hide (H7.out.agr (hO.agr hRb))
        have K8 := hide ((hO.block w.heap.size (heap_in K7.out) (by omega)).trans K7.out)
        have S8 := hide ((hO.block w2.heap.size (heap_in S7.out) (by omega)).trans S7.out)
        have R8 := hide hR
        clear hO hR B7 H7 K7 S7 R7
        have HS := hide (SB.out w8 S8.out)
        refine hK.out _ _ HS.out ?_
        clear hK K
        (try simp only [Act.put, nzL])
        have HM := hide (H8.out.mono (show w.heap.size + 1 ≤ w1.heap.size by omega))
        have kr := K8.out
        have r0 : w8.cell? ⟨w.heap.size, 0, none⟩ = some (.slice none 0 0) := by simp [World.cell?, kr]
        have r1 : w8.cell? ⟨w.heap.size, 1, none⟩ = some (.slice none 0 0) := by simp [World.cell?, kr]
        have f0 : w8.frozen? ⟨w.heap.size, 0, none⟩ = false := by simp [World.frozen?, kr]
        have f1 : w8.frozen? ⟨w.heap.size, 1, none⟩ = false := by simp [World.frozen?, kr]
        have l0 := heap_in kr
        clear kr
        refine anyS_one (i := 4) rfl (by as_aux_lemma => kernel_rfl) (fun K hK => ?_)
        go_simp
        clear HS
        have HS := hide (SB.out ((w8.setCell ⟨w.heap.size, 0, none⟩ (.slice a0 n0 c0)).setCell ⟨w.heap.size, 1, none⟩ (.slice a1 n1 c1)) (((Below.heap_setCell _ ⟨w.heap.size, 1, none⟩ _ w2.heap.size (by show w2.heap.size ≠ w.heap.size; omega)).trans (Below.heap_setCell _ ⟨w.heap.size, 0, none⟩ _ w2.heap.size (by show w2.heap.size ≠ w.heap.size; omega))).trans S8.out))
        refine hK.out _ _ HS.out ?_
        clear hK K
        (try simp only [Act.put, nzL])
        have BE := hide ((B8.out.setCell (p := ⟨w.heap.size, 0, none⟩) (Nat.le_refl _) (.slice a0 n0 c0)).setCell (p := ⟨w.heap.size, 1, none⟩) (Nat.le_refl _) (.slice a1 n1 c1))
        have HE2 := hide ((HM.out.agr ((agr_set (j := 0) (show w.heap.size < w.heap.size + 1 by omega) (.slice a0 n0 c0)).trans (agr_set (j := 1) (show w.heap.size < w.heap.size + 1 by omega) (.slice a1 n1 c1)))).mono (Nat.le_succ w.heap.size))
        iterate 2
          refine anyS_on 5 rfl rfl (by as_aux_lemma => kernel_rfl) (fun K hK => ?_)
          go_simp
          refine hK.out _ _ HS.out ?_
          clear hK K
          (try simp only [Act.put, nzL])
        refine wpAnyH_done (by as_aux_lemma => kernel_rfl) ?_ _
        go_wp2
        exact bodyPost_ret (v := .tuple #[.agg #[.slice a0 n0 c0, .slice a1 n1 c1], .string nm, .string tx]) (by simp [results, Tryz.results8, go_sem, r0, r1]) rfl ⟨_, _, _, _, _, _, _, _, _, _, rfl, HE2.out, BE.out⟩
end Go.Proofs.YtkophfgkcijjkaaGreatDoor.Vp
