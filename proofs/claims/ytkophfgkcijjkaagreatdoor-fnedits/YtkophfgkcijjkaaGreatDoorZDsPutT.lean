import Derived.Test.YtkophfgkcijjkaaGreatDoorZDsPut
namespace Go.Proofs.YtkophfgkcijjkaaGreatDoor.Vp
open Go.RowKit Go.Proofs.YtkophfgkcijjkaaGreatDoor.Ca
def DPT (w : World) (e : Ending) (w' : World) : Prop := ∃ (a0 : Option Addr) (n0 c0 : Nat) (a1 : Option Addr) (n1 c1 : Nat) (t : ByteArray) (g m c : Nat) (f : Nat → Ins), e = .returned (.tuple #[.agg #[.slice a0 n0 c0, .slice a1 n1 c1], .string t, .agg #[.slice (some ⟨g, 0, none⟩) m c]]) ∧ RowIns w' g 0 m f ∧ m ≤ 201 ∧ (∀ j, j < m → (f j).s.size ≤ 5000) ∧ Below w.heap.size w w'
theorem ir_row {w : World} {base g c : Nat} {L : List I3} (h : IR w base g c L) : RowIns w g 0 L.length (insA L) := ⟨h.lt.2, h.at⟩
set_option maxRecDepth 100000 in
set_option maxHeartbeats 8000000 in
theorem drawPutT_any (a : Option Addr) (n cap : Nat) (w : World) (hn : (n : Int) ≤ 1048576) (hc : n ≤ cap) (hS : ByteSl w a n) :
    Calls Tryz.prog 9 #[.slice a n cap] w fun e w' => DPT w e w' := by
  have S0 := hide hS
  clear hS
  go_enter Tryz.func9, Tryz.ntmps9
  go_wp2_with fail
  have A0 := hide (((Below.refl w.heap.size w).alloc (Nat.le_refl _) (.cells #[.slice none 0 0, .slice none 0 0] 26)).alloc (by simp) (.cells #[.slice none 0 0] 31))
  have hzA : ((w.alloc (.cells #[.slice none 0 0, .slice none 0 0] 26)).alloc (.cells #[.slice none 0 0] 31)).heap.size = w.heap.size + 2 := by simp
  have KA : Hid (((w.alloc (.cells #[.slice none 0 0, .slice none 0 0] 26)).alloc (.cells #[.slice none 0 0] 31)).heap[w.heap.size]? = some (.cells #[.slice none 0 0, .slice none 0 0] 26 (0, 0))) := by
    have h1 := (Below.refl (w.alloc (.cells #[.slice none 0 0, .slice none 0 0] 26)).heap.size (w.alloc (.cells #[.slice none 0 0, .slice none 0 0] 26))).alloc (Nat.le_refl _) (.cells #[.slice none 0 0] 31)
    exact (h1.block w.heap.size (by simp)).trans (heap_alloc_new w _)
  have KB : Hid (((w.alloc (.cells #[.slice none 0 0, .slice none 0 0] 26)).alloc (.cells #[.slice none 0 0] 31)).heap[w.heap.size + 1]? = some (.cells #[.slice none 0 0] 31 (0, 0))) := by
    have h2 := heap_alloc_new (w.alloc (.cells #[.slice none 0 0, .slice none 0 0] 26)) (.cells #[.slice none 0 0] 31)
    rw [show (w.alloc (.cells #[.slice none 0 0, .slice none 0 0] 26)).heap.size = w.heap.size + 1 by simp] at h2
    exact h2
  generalize (w.alloc (.cells #[.slice none 0 0, .slice none 0 0] 26)).alloc (.cells #[.slice none 0 0] 31) = W0 at A0 KA KB hzA ⊢
  refine (l1Open_any a n cap _ hn hc (S0.out.below A0.out (Nat.le_refl _))).mono ?_
  rintro e w1 ⟨R, rfl, hRz, hR1, hB1⟩
  have R1 := hide hR1
  have hs1 := hB1.size
  have hRl := hR1.lt
  have T1 := hide ((S0.out.below A0.out (Nat.le_refl _)).below hB1 (Nat.le_refl _))
  have B1 := hide (A0.out.trans (hB1.mono (by omega)))
  have K1 := hide ((hB1.block w.heap.size (by omega)).trans KA.out)
  have M1 := hide ((hB1.block (w.heap.size + 1) (by omega)).trans KB.out)
  clear hR1 hB1 A0 KA KB
  go_wp2_with fail
  refine (drawPutS_any a n cap _ hn hc T1.out).mono ?_
  rintro e w2 ⟨a0, n0, c0, f0, a1, n1, c1, f1, t, tx, rfl, -, hB2⟩
  have hs2 := hB2.size
  have BS := (Below.refl w2.heap.size w2).alloc (Nat.le_refl _) (.cells #[.slice a0 n0 c0, .slice a1 n1 c1] 26)
  have BB := hide (hB2.trans (BS.mono hs2))
  have R6 := hide (R1.out.below BB.out (Nat.le_refl _))
  have B6 := hide (B1.out.trans (BB.out.mono (by omega)))
  have K6 := hide ((BB.out.block w.heap.size (by omega)).trans K1.out)
  have M6 := hide ((BB.out.block (w.heap.size + 1) (by omega)).trans M1.out)
  have S6 : Hid ((w2.alloc (.cells #[.slice a0 n0 c0, .slice a1 n1 c1] 26)).heap[w2.heap.size]? = some (.cells #[.slice a0 n0 c0, .slice a1 n1 c1] 26 (0, 0))) := heap_alloc_new w2 _
  clear hB2 BS BB R1 B1 K1 M1 T1
  go_wp2_with fail
  generalize w2.alloc (.cells #[.slice a0 n0 c0, .slice a1 n1 c1] 26) = w6 at R6 B6 K6 M6 S6 ⊢
  have SB : Hid (∀ V : World, V.heap[w2.heap.size]? = some (.cells #[.slice a0 n0 c0, .slice a1 n1 c1] 26 (0, 0)) → V.heap[w2.heap.size]? = some (.cells #[.slice a0 n0 c0, .slice a1 n1 c1] 26 (0, 0)) ∧ V.cell? ⟨w2.heap.size, 0, none⟩ = some (.slice a0 n0 c0) ∧ V.cell? ⟨w2.heap.size, 1, none⟩ = some (.slice a1 n1 c1)) := fun V h => ⟨h, by simp [World.cell?, h], by simp [World.cell?, h]⟩
  refine wp_region_held_drew (S := fun V => V.heap[w2.heap.size]? = some (.cells #[.slice a0 n0 c0, .slice a1 n1 c1] 26 (0, 0)) ∧ V.cell? ⟨w2.heap.size, 0, none⟩ = some (.slice a0 n0 c0) ∧ V.cell? ⟨w2.heap.size, 1, none⟩ = some (.slice a1 n1 c1)) (by as_aux_lemma => kernel_rfl) (SB.out w6 S6.out) (fun hS => ?_)
  have HS := hide hS
  clear hS
  have hl6 := heap_in S6.out
  have hs6 := B6.out.size
  have O0 : Hid (Only R w6 w6.drew) := Only.of_below (Below.refl _ _).drew
  have P0 := hide (R6.out.below (Below.refl _ _).drew (Nat.le_refl _))
  generalize w6.drew = v0 at O0 P0 HS ⊢
  iterate 3
    refine anyS_nx 0 (v := ?_) rfl rfl (by as_aux_lemma => kernel_rfl) (fun _ _ _ h => h) rfl ?_ HS.out ?_
    rotate_left
    · (intro wz hSw; obtain ⟨s0, s1, s2⟩ := hSw; go_simp)
      (try with_reducible rfl)
    (try simp only [Act.put, nzL])
  refine anyS_one (i := 3) rfl (by as_aux_lemma => kernel_rfl) (fun K hK => ?_)
  go_simp
  go_at_call 56
  refine (l1AnyProgram_any R _ _ P0.out (by omega)).mono ?_
  rintro e v4 ⟨L, g, c, rfl, hI, -, hlen, hsz, q4, hq4, -, hO⟩
  have hgb := hI.lt.1
  have h06 := O0.out.size
  have hO6 := O0.out.trans hO
  have I4 := hide (ir_row hI)
  have Z4 := hide (fI_size5 hsz)
  have BE := hide (B6.out.trans (hO6.below (by omega) B6.out.size))
  have KE := hide ((hO6.block w.heap.size (heap_in K6.out) (by omega)).trans K6.out)
  have ME := hide ((hO6.block (w.heap.size + 1) (heap_in M6.out) (by omega)).trans M6.out)
  have SE := hide ((hO6.block w2.heap.size hl6 (by omega)).trans S6.out)
  clear hI hsz hO hO6 HS P0 O0
  have HS := hide (SB.out v4 SE.out)
  refine hK.out _ _ HS.out ?_
  clear hK K
  (try simp only [Act.put, nzL])
  generalize L.length = m at hlen I4 Z4 ⊢
  generalize insA L = f at I4 Z4
  have kr := KE.out
  have r0 : v4.cell? ⟨w.heap.size, 0, none⟩ = some (.slice none 0 0) := by simp [World.cell?, kr]
  have r1 : v4.cell? ⟨w.heap.size, 1, none⟩ = some (.slice none 0 0) := by simp [World.cell?, kr]
  have t0 : v4.frozen? ⟨w.heap.size, 0, none⟩ = false := by simp [World.frozen?, kr]
  have t1 : v4.frozen? ⟨w.heap.size, 1, none⟩ = false := by simp [World.frozen?, kr]
  have l0 := heap_in kr
  clear kr
  refine anyS_one (i := 4) rfl (by as_aux_lemma => kernel_rfl) (fun K hK => ?_)
  go_simp
  clear r0 r1 t0 t1 l0 HS
  have KF := hide (set_two (v0 := .slice a0 n0 c0) (v1 := .slice a1 n1 c1) KE.out)
  have BF := hide ((BE.out.setCell (p := ⟨w.heap.size, 0, none⟩) (Nat.le_refl _) (.slice a0 n0 c0)).setCell (p := ⟨w.heap.size, 1, none⟩) (Nat.le_refl _) (.slice a1 n1 c1))
  have SF := hide (((Below.heap_setCell _ ⟨w.heap.size, 1, none⟩ (.slice a1 n1 c1) w2.heap.size (by show w2.heap.size ≠ w.heap.size; omega)).trans (Below.heap_setCell v4 ⟨w.heap.size, 0, none⟩ (.slice a0 n0 c0) w2.heap.size (by show w2.heap.size ≠ w.heap.size; omega))).trans SE.out)
  have MF := hide (((Below.heap_setCell _ ⟨w.heap.size, 1, none⟩ (.slice a1 n1 c1) (w.heap.size + 1) (by show w.heap.size + 1 ≠ w.heap.size; omega)).trans (Below.heap_setCell v4 ⟨w.heap.size, 0, none⟩ (.slice a0 n0 c0) (w.heap.size + 1) (by show w.heap.size + 1 ≠ w.heap.size; omega))).trans ME.out)
  have IF := hide ((I4.out.setOther ⟨w.heap.size, 0, none⟩ (by show w.heap.size ≠ g; omega) (.slice a0 n0 c0)).setOther ⟨w.heap.size, 1, none⟩ (by show w.heap.size ≠ g; omega) (.slice a1 n1 c1))
  clear BE KE ME SE I4
  generalize (v4.setCell ⟨w.heap.size, 0, none⟩ (.slice a0 n0 c0)).setCell ⟨w.heap.size, 1, none⟩ (.slice a1 n1 c1) = vF at *
  have HS := hide (SB.out vF SF.out)
  refine hK.out _ _ HS.out ?_
  clear hK K
  (try simp only [Act.put, nzL])
  refine anyS_one (i := 5) rfl (by as_aux_lemma => kernel_rfl) (fun K hK => ?_)
  go_simp
  refine hK.out _ _ HS.out ?_
  clear hK K
  (try simp only [Act.put, nzL])
  have kr := MF.out
  have r0 : vF.cell? ⟨w.heap.size + 1, 0, none⟩ = some (.slice none 0 0) := by simp [World.cell?, kr]
  have t0 : vF.frozen? ⟨w.heap.size + 1, 0, none⟩ = false := by simp [World.frozen?, kr]
  have l0 := heap_in kr
  have M0 : Hid ((vF.setCell ⟨w.heap.size + 1, 0, none⟩ (.slice (some ⟨g, 0, none⟩) m c)).cell? ⟨w.heap.size + 1, 0, none⟩ = some (.slice (some ⟨g, 0, none⟩) m c)) := World.cell?_setCell_same' _ _ _ (by rw [r0]; rfl)
  clear kr
  refine anyS_one (i := 6) rfl (by as_aux_lemma => kernel_rfl) (fun K hK => ?_)
  go_simp
  clear r0 t0 l0 HS
  have KG := hide ((Below.heap_setCell vF ⟨w.heap.size + 1, 0, none⟩ (.slice (some ⟨g, 0, none⟩) m c) w.heap.size (by show w.heap.size ≠ w.heap.size + 1; omega)).trans KF.out)
  have BG := hide (BF.out.setCell (p := ⟨w.heap.size + 1, 0, none⟩) (Nat.le_succ _) (.slice (some ⟨g, 0, none⟩) m c))
  have SG := hide ((Below.heap_setCell vF ⟨w.heap.size + 1, 0, none⟩ (.slice (some ⟨g, 0, none⟩) m c) w2.heap.size (by show w2.heap.size ≠ w.heap.size + 1; omega)).trans SF.out)
  have IG := hide (IF.out.setOther ⟨w.heap.size + 1, 0, none⟩ (by show w.heap.size + 1 ≠ g; omega) (.slice (some ⟨g, 0, none⟩) m c))
  clear KF BF SF IF MF
  generalize vF.setCell ⟨w.heap.size + 1, 0, none⟩ (.slice (some ⟨g, 0, none⟩) m c) = vG at *
  have HS := hide (SB.out vG SG.out)
  refine hK.out _ _ HS.out ?_
  clear hK K
  (try simp only [Act.put, nzL])
  refine wpAnyH_done (by as_aux_lemma => kernel_rfl) ?_ _
  have kr := KG.out
  have r0 : vG.cell? ⟨w.heap.size, 0, none⟩ = some (.slice a0 n0 c0) := by simp [World.cell?, kr]
  have r1 : vG.cell? ⟨w.heap.size, 1, none⟩ = some (.slice a1 n1 c1) := by simp [World.cell?, kr]
  have r2 := M0.out
  clear kr
  go_wp2
  exact bodyPost_ret (v := .tuple #[.agg #[.slice a0 n0 c0, .slice a1 n1 c1], .string t, .agg #[.slice (some ⟨g, 0, none⟩) m c]]) (by simp [results, Tryz.results9, go_sem, r0, r1, r2]) rfl ⟨_, _, _, _, _, _, _, g, m, c, f, rfl, IG.out, hlen, Z4.out, BG.out⟩
end Go.Proofs.YtkophfgkcijjkaaGreatDoor.Vp
