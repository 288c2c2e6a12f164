import Derived.Test.YtkophfgkcijjkaaGreatDoorYI
import Derived.Test.YtkophfgkcijjkaaGreatDoorZA
import Derived.Test.YtkophfgkcijjkaaGreatDoorZB
namespace Go.Proofs.YtkophfgkcijjkaaGreatDoor.Vp
open Go.RowKit Go.Proofs.YtkophfgkcijjkaaGreatDoor.Ca
def DF (w : World) (e : Ending) (w' : World) : Prop := ∃ (a0 : Option Addr) (n0 c0 : Nat) (f0 : Nat → Source) (a1 : Option Addr) (n1 c1 : Nat) (f1 : Nat → Target), e = .returned (.agg #[.slice a0 n0 c0, .slice a1 n1 c1]) ∧ HSp w.heap.size w' a0 n0 f0 a1 n1 f1 ∧ Below w.heap.size w w'
set_option maxRecDepth 100000 in
set_option maxHeartbeats 8000000 in
theorem l2Full_any (b0 n0 c0 n1 c1 : Nat) (a0 : Option Addr) (f0 : Nat → Source) (a1 : Option Addr) (f1 : Nat → Target) (less : Int) (w : World) (h0 : 0 ≤ less) (h1 : less ≤ 1) (hH : HSp b0 w a0 n0 f0 a1 n1 f1) :
    Calls Tryz.prog 53 #[.agg #[.slice a0 n0 c0, .slice a1 n1 c1], .int .i64 less] w fun e w' => DF w e w' := by
  have hn0 := hH.hn0
  have hn1 := hH.hn1
  obtain ⟨hs, ht⟩ := hH.sl w (Agr.refl _ _)
  have HF := hide hH.fit
  have HS := hide hs
  have HT := hide ht
  clear hs ht hH
  obtain ⟨i1', hj, hz0, hz1, hz2⟩ := info_parts infoTarget
  have A0 := hide (((Below.refl w.heap.size w).alloc (Nat.le_refl _) (.cells #[.slice a0 n0 c0, .slice a1 n1 c1] 26)).alloc (by simp) (.cells #[.slice none 0 0, .slice none 0 0] 26))
  have hzA : ((w.alloc (.cells #[.slice a0 n0 c0, .slice a1 n1 c1] 26)).alloc (.cells #[.slice none 0 0, .slice none 0 0] 26)).heap.size = w.heap.size + 2 := by simp
  have KR : Hid (((w.alloc (.cells #[.slice a0 n0 c0, .slice a1 n1 c1] 26)).alloc (.cells #[.slice none 0 0, .slice none 0 0] 26)).heap[w.heap.size + 1]? = some (.cells #[.slice none 0 0, .slice none 0 0] 26 (0, 0))) := by
    have h2 := heap_alloc_new (w.alloc (.cells #[.slice a0 n0 c0, .slice a1 n1 c1] 26)) (.cells #[.slice none 0 0, .slice none 0 0] 26)
    rw [show (w.alloc (.cells #[.slice a0 n0 c0, .slice a1 n1 c1] 26)).heap.size = w.heap.size + 1 by simp] at h2
    exact h2
  go_enter Tryz.func53, Tryz.ntmps53
  go_wp2_with fail
  generalize (w.alloc (.cells #[.slice a0 n0 c0, .slice a1 n1 c1] 26)).alloc (.cells #[.slice none 0 0, .slice none 0 0] 26) = W at A0 hzA KR ⊢
  refine (l2Without_any a0 n0 c0 f0 a1 n1 c1 f1 ⟨#[]⟩ W (by omega) (by omega) (HS.out.below A0.out (Nat.le_refl _)) (HT.out.below A0.out (Nat.le_refl _)) (fun i hi => by have := (HF.out i hi).1; unfold FitsTarget; omega)).mono ?_
  rintro e w1 ⟨v0, v1, RT, rfl, ho1, ht1, hM, hB1⟩
  obtain ⟨a2, c2, rfl⟩ := own_slice ho1
  obtain ⟨a3, c3, rfl⟩ := own_slice ht1.own
  have G1 := hide (gx_keep hM HF.out)
  have hl1 := keepT_lenR hM
  have hl0 := keepS_len f0 ⟨#[]⟩ n0
  clear hM HS HT HF
  generalize keepS f0 ⟨#[]⟩ n0 = LS at ho1 hl0 ⊢
  have hsz := hB1.size
  have X1 := hide (spx_new (rr := w.heap.size + 1) (base := w.heap.size + 2) ((hB1.block _ (by omega)).trans KR.out) (by omega) (by omega) (by omega) ho1 ht1)
  have B1 := hide ((A0.out.trans (hB1.mono (by omega))).alloc (by omega) (.cells #[.slice a2 LS.length c2, .slice a3 RT.length c3] 26))
  clear ho1 ht1 hB1 A0 KR
  have hw2 : IntKind.i64.wrap (200 - less) = 200 - less := by rw [IntKind.wrap_i64]; omega
  go_wp2_with fail
  generalize w1.alloc (.cells #[.slice a2 LS.length c2, .slice a3 RT.length c3] 26) = W2 at X1 B1 ⊢
  go_loopw [6] (fun i wr => ∃ (k : Nat) (v1 : Value) (RT' : List TR), i = .int .i64 k ∧ k ≤ RT'.length ∧ RT'.length ≤ 300 ∧ Hid (SpX (w.heap.size + 1) w1.heap.size (w.heap.size + 2) wr (.slice a2 LS.length c2) v1 LS RT') ∧ Hid (GX RT') ∧ Hid (Below w.heap.size w wr)) (fun i _ => 400 - (intOf i).toNat)
  case atStart => exact ⟨0, _, RT, rfl, by omega, by omega, X1.out, G1.out, B1.out⟩
  case round =>
    obtain ⟨k, v1, RT', rfl, hk, hk3, X2, G2, B2⟩ := hrel
    obtain ⟨a5, c5, rfl⟩ := own_slice X2.out.tgt.own
    obtain ⟨kc0, kc1⟩ := X2.out.cells
    have hxl := X2.out.lt
    have hw1 : IntKind.i64.wrap ((LS.length : Int) + RT'.length) = (LS.length : Int) + RT'.length := by rw [IntKind.wrap_i64]; omega
    by_cases hlt : (LS.length : Int) + RT'.length < 200 - less
    · have hwk : IntKind.i64.wrap ((k : Int) + 1) = (k : Int) + 1 := by rw [IntKind.wrap_i64]; omega
      go_wp2_with fail
      clear kc0 kc1
      have SQ : Hid (∀ V : World, (∀ j, j < wr.heap.size → some j ≠ (Value.slice a5 RT'.length c5).ownBlock → V.heap[j]? = wr.heap[j]?) → V.heap[w1.heap.size]? = some (.cells #[.slice a2 LS.length c2, .slice a5 RT'.length c5] 26 (0, 0)) ∧ V.cell? ⟨w1.heap.size, 1, none⟩ = some (.slice a5 RT'.length c5)) := fun V hV => by
        have h1 := (hV w1.heap.size X2.out.lt fun e => by
          obtain ⟨cur, hcur⟩ := X2.out.tgt.type _ e.symm
          have h3 := X2.out.box.symm.trans hcur
          cases h3).trans X2.out.box
        exact ⟨h1, by simp [World.cell?, h1]⟩
      refine wp_region_N (fun V => V.heap[w1.heap.size]? = some (.cells #[.slice a2 LS.length c2, .slice a5 RT'.length c5] 26 (0, 0)) ∧ V.cell? ⟨w1.heap.size, 1, none⟩ = some (.slice a5 RT'.length c5)) 13 (by as_aux_lemma => kernel_rfl) ?_
      have HS := hide (SQ.out wr.drew (fun j hj _ => rfl))
      iterate 3
        refine anyN_nx 0 (v := ?_) rfl rfl (by as_aux_lemma => kernel_rfl) (fun _ _ _ h => h) rfl ?_ HS.out ?_
        rotate_left
        · (intro wz hSw; obtain ⟨s0, s1⟩ := hSw; go_simp)
          (try with_reducible rfl)
        (try simp only [Act.put, nzL])
      refine anyN_one (i := 3) rfl (by as_aux_lemma => kernel_rfl) (fun K hK => ?_)
      go_simp
      go_at_call 127
      refine (l2Label_any k (by omega) _).mono ?_
      rintro e wl ⟨lb, rfl, hlb, hBl⟩
      have BL : Hid (Below wr.heap.size wr wl) := (Below.refl wr.heap.size wr).drew.trans hBl
      clear hBl HS
      have HS := hide (SQ.out wl (fun j hj _ => BL.out.block j hj))
      refine hK.out _ _ (fun _ => HS.out) ?_
      clear hK K
      (try simp only [Act.put, nzL])
      refine anyN_take (i := 4) (v := .string (⟨#[118]⟩ ++ lb)) rfl (by as_aux_lemma => kernel_rfl) (by as_aux_lemma => kernel_rfl) (by as_aux_lemma => kernel_rfl) (by as_aux_lemma => kernel_rfl) (fun _ _ _ h => h) rfl ?_ HS.out ?_
      · intro wz _
        go_simp
        omega
      (try simp only [Act.put, nzL])
      generalize (⟨#[118]⟩ : ByteArray) ++ lb = tn
      refine anyN_one (i := 5) rfl (by as_aux_lemma => kernel_rfl) (fun K hK => ?_)
      go_simp
      go_at_call 128
      refine (l1Lit_any _ _).mono ?_
      rintro e wm ⟨rfl, hBm⟩
      have BM := hide (BL.out.trans (hBm.mono BL.out.size))
      clear hBm HS
      have HS := hide (SQ.out wm (fun j hj _ => BM.out.block j hj))
      refine hK.out _ _ (fun _ => HS.out) ?_
      clear hK K
      (try simp only [Act.put, nzL])
      refine anyN_one (i := 6) rfl (by as_aux_lemma => kernel_rfl) (fun K hK => ?_)
      go_simp
      go_at_call 129
      refine (l1Op_any _ _).mono ?_
      rintro e wn ⟨rfl, hBn⟩
      have BN := hide (BM.out.trans (hBn.mono BM.out.size))
      clear hBn HS BL BM
      have hzn := BN.out.size
      have BI := hide (BN.out.alloc (by omega) (.cells #[.int .i64 1, .string ⟨#[107]⟩, .int .i64 0, .int .i64 15, .string ⟨#[]⟩, .int .i64 0] 176))
      have hxi := X2.out.hi
      have OI := hide (own_two wn (base := w.heap.size + 2) (by omega))
      have HS := hide (SQ.out wn (fun j hj _ => BN.out.block j hj))
      refine hK.out _ _ (fun _ => HS.out) ?_
      clear hK K HS
      (try simp only [Act.put, nzL])
      have HS := hide (SQ.out _ (fun j hj _ => BI.out.block j hj))
      iterate 3
        refine anyN_on 7 rfl rfl (by as_aux_lemma => kernel_rfl) (fun K hK => ?_)
        go_simp
        refine hK.out _ _ (fun _ => HS.out) ?_
        clear hK K
        (try simp only [Act.put, nzL])
      have hzb : (wn.alloc (.cells #[.int .i64 1, .string ⟨#[107]⟩, .int .i64 0, .int .i64 15, .string ⟨#[]⟩, .int .i64 0] 176)).heap.size = wn.heap.size + 1 := by simp
      have AB := hide (BI.out.alloc (by omega) (.cells #[.string tn, .slice (some ⟨wn.heap.size, 0, none⟩) 2 2] 104))
      refine anyN_one (i := 10) rfl (by as_aux_lemma => kernel_rfl) (fun K hK => ?_)
      go_simp
      have XA := hide (X2.out.below AB.out (Nat.le_refl _))
      have OA := hide (own_below OI.out ((Below.refl _ _).alloc (Nat.le_refl _) (.cells #[.string tn, .slice (some ⟨wn.heap.size, 0, none⟩) 2 2] 104)) (Nat.le_refl _))
      refine hK.out _ _ (fun _ => SQ.out _ (fun j hj _ => AB.out.block j hj)) ?_
      clear hK K
      (try simp only [Act.put, nzL])
      refine anyN_one (i := 11) rfl (by as_aux_lemma => kernel_rfl) (fun K hK => ?_)
      refine step_append_own_at rfl (.tmp 22) (.tmp 31) 24 rfl (w.heap.size + 2) 104 i1' (.agg #[.string ⟨#[]⟩, .slice none 0 0]) 2 40 Tryz.underlying24 hj hz0 hz1 hz2 rfl (by decide) (.slice a5 RT'.length c5) RT'.length (RT'.flatMap tgtV) (by simp [Act.eval]) XA.out.tgt.own ⟨wn.heap.size + 1, 0, none⟩ 1 1 (tgtV (⟨tn, 2, lsI twoL⟩, wn.heap.size, 2)) (by simp [Act.eval]) rfl (fun j u hu => two_new2 (hzb) _ _ _ j u hu) (by simp [tgtV, Value.oneCell']) (by unfold maxLen; omega) (by omega) (by have := XA.out.hi; have := XA.out.lt; omega) ?_
      intro v' w7 hown hgrow _
      obtain ⟨a7, c7, rfl⟩ := own_slice hown
      have S7 := hide (SQ.out w7 (fun j hj hne => (hgrow.block j (Nat.lt_of_lt_of_le hj AB.out.size) hne).trans (AB.out.block j hj)))
      obtain ⟨c8, b8⟩ := XA.out.addT (x := ⟨tn, 2, lsI twoL⟩) (g := wn.heap.size) (c := 2) (fun r hr e => by have := X2.out.tgt.ltg r hr; omega) OA.out hown hgrow
      have X9 := hide c8
      have B9 := hide b8
      clear hown hgrow c8 b8
      refine hK.out _ _ (fun _ => S7.out) ?_
      clear hK K
      (try simp only [Act.put, nzL])
      refine anyN_one (i := 12) rfl (by as_aux_lemma => kernel_rfl) (fun K hK => ?_)
      go_simp
      refine hK.out _ _ (fun _ => S7.out) ?_
      clear hK K
      (try simp only [Act.put, nzL])
      obtain ⟨s7, t7⟩ := S7.out
      have f7 : w7.frozen? ⟨w1.heap.size, 1, none⟩ = false := by simp [World.frozen?, s7]
      have l7 := heap_in s7
      clear s7
      refine anyN_one (i := 13) rfl (by as_aux_lemma => kernel_rfl) (fun K hK => ?_)
      go_simp
      refine hK.out _ _ (fun h => absurd rfl h) ?_
      clear hK K
      (try simp only [Act.put, nzL])
      refine anyN_done (by as_aux_lemma => kernel_rfl) ?_ _
      go_wp2
      have BB := hide ((AB.out.mono (show w.heap.size + 2 ≤ wr.heap.size by omega)).trans B9.out)
      refine ⟨⟨k + 1, .slice a7 (RT'.length + 1) c7, RT' ++ [((⟨tn, 2, lsI twoL⟩, wn.heap.size, 2) : TR)], by go_num, by rw [List.length_append]; exact Nat.succ_le_succ hk, by rw [List.length_append]; exact (by omega : RT'.length + 1 ≤ 300), X9.out, G2.out.add (r := (⟨tn, 2, lsI twoL⟩, wn.heap.size, 2)) (by show 2 ≤ 300; omega) two_size, B2.out.trans (BB.out.mono (by omega))⟩, by simp [intOf]; omega⟩
    · have kr := X2.out.res
      have r0 : wr.cell? ⟨w.heap.size + 1, 0, none⟩ = some (.slice none 0 0) := by simp [World.cell?, kr]
      have r1 : wr.cell? ⟨w.heap.size + 1, 1, none⟩ = some (.slice none 0 0) := by simp [World.cell?, kr]
      have f0 : wr.frozen? ⟨w.heap.size + 1, 0, none⟩ = false := by simp [World.frozen?, kr]
      have f1 : wr.frozen? ⟨w.heap.size + 1, 1, none⟩ = false := by simp [World.frozen?, kr]
      have l0 := heap_in kr
      clear kr
      have BE := hide ((B2.out.setCell (p := ⟨w.heap.size + 1, 0, none⟩) (Nat.le_succ _) (.slice a2 LS.length c2)).setCell (p := ⟨w.heap.size + 1, 1, none⟩) (Nat.le_succ _) (.slice a5 RT'.length c5))
      have HE := hide ((X2.out.fin rfl rfl (by omega) hk3 G2.out (.slice a2 LS.length c2) (.slice a5 RT'.length c5)).mono (show w.heap.size ≤ w.heap.size + 2 by omega))
      go_wp2
      exact bodyPost_ret (v := .agg #[.slice a2 LS.length c2, .slice a5 RT'.length c5]) (by simp [results, Tryz.results53, go_sem, r0, r1]) rfl ⟨_, _, _, _, _, _, _, _, rfl, HE.out, BE.out⟩
end Go.Proofs.YtkophfgkcijjkaaGreatDoor.Vp
namespace Go.Proofs.YtkophfgkcijjkaaGreatDoor.Vp
open Go.RowKit Go.Proofs.YtkophfgkcijjkaaGreatDoor.Ca
def DFn (n : Nat) (w : World) (e : Ending) (w' : World) : Prop := ∃ (a0 : Option Addr) (n0 c0 : Nat) (f0 : Nat → Source) (a1 : Option Addr) (n1 c1 : Nat) (f1 : Nat → Target), e = .returned (.agg #[.slice a0 n0 c0, .slice a1 n1 c1]) ∧ n1 = n ∧ HSp w.heap.size w' a0 n0 f0 a1 n1 f1 ∧ Below w.heap.size w w'
set_option maxRecDepth 100000 in
set_option maxHeartbeats 8000000 in
theorem l2Chain_num (n : Nat) (hn : n ≤ 200) (en : ByteArray) (he : en.size ≤ 5000) (w : World) :
    Calls Tryz.prog 123 #[.int .i64 n, .string en] w fun e w' => DFn n w e w' := by
  obtain ⟨i1', hj, hz0, hz1, hz2⟩ := info_parts infoTarget
  have hzA : (w.alloc (.cells #[.slice none 0 0, .slice none 0 0] 26)).heap.size = w.heap.size + 1 := by simp
  have hzB : ((w.alloc (.cells #[.slice none 0 0, .slice none 0 0] 26)).alloc (.cells #[.string ⟨#[97]⟩, .string ⟨#[103, 114, 111, 117, 110, 100]⟩] 100)).heap.size = w.heap.size + 1 + 1 := by simp
  have A0 := hide (((((Below.refl w.heap.size w).alloc (Nat.le_refl _) (.cells #[.slice none 0 0, .slice none 0 0] 26))).alloc (by omega) (.cells #[.string ⟨#[97]⟩, .string ⟨#[103, 114, 111, 117, 110, 100]⟩] 100)).alloc (by omega) (.cells #[.slice (some ⟨w.heap.size + 1, 0, none⟩) 1 1, .slice none 0 0] 26))
  have X1 : Hid (SpX w.heap.size (w.heap.size + 1 + 1) (w.heap.size + 1) (((w.alloc (.cells #[.slice none 0 0, .slice none 0 0] 26)).alloc (.cells #[.string ⟨#[97]⟩, .string ⟨#[103, 114, 111, 117, 110, 100]⟩] 100)).alloc (.cells #[.slice (some ⟨w.heap.size + 1, 0, none⟩) 1 1, .slice none 0 0] 26)) (.slice (some ⟨w.heap.size + 1, 0, none⟩) 1 1) (.slice none 0 0) [⟨⟨#[97]⟩, ⟨#[103, 114, 111, 117, 110, 100]⟩⟩] []) := by
    have k1 := heap_alloc_new w (.cells #[.slice none 0 0, .slice none 0 0] 26)
    have k2 := heap_alloc_new (w.alloc (.cells #[.slice none 0 0, .slice none 0 0] 26)) (.cells #[.string ⟨#[97]⟩, .string ⟨#[103, 114, 111, 117, 110, 100]⟩] 100)
    rw [hzA] at k2
    have BQ := (Below.refl (w.heap.size + 1) (w.alloc (.cells #[.slice none 0 0, .slice none 0 0] 26))).alloc (by omega) (.cells #[.string ⟨#[97]⟩, .string ⟨#[103, 114, 111, 117, 110, 100]⟩] 100)
    have h := spx_new (LS := [⟨⟨#[97]⟩, ⟨#[103, 114, 111, 117, 110, 100]⟩⟩]) (base := w.heap.size + 1) (base' := w.heap.size + 1) ((BQ.block w.heap.size (Nat.lt_succ_self _)).trans k1) (Nat.lt_succ_self _) (Nat.le_refl _) (by omega) (v0 := .slice (some ⟨w.heap.size + 1, 0, none⟩) 1 1) ⟨rfl, .inr ⟨w.heap.size + 1, 1, _, rfl, Nat.le_refl _, k2, Nat.le_refl _, by unfold maxLen; omega, rfl, rfl⟩⟩ (tRow_nil _ _)
    rw [hzB] at h
    exact h
  have hw2 : IntKind.i64.wrap ((n : Int) - 1) = (n : Int) - 1 := by rw [IntKind.wrap_i64]; omega
  clear hzA hzB
  go_enter Tryz.func123, Tryz.ntmps123
  go_wp2_with fail
  generalize ((w.alloc (.cells #[.slice none 0 0, .slice none 0 0] 26)).alloc (.cells #[.string ⟨#[97]⟩, .string ⟨#[103, 114, 111, 117, 110, 100]⟩] 100)).alloc (.cells #[.slice (some ⟨w.heap.size + 1, 0, none⟩) 1 1, .slice none 0 0] 26) = W2 at X1 A0 ⊢
  obtain ⟨LS, a2, c2, hLS, X1'⟩ : ∃ (LS : List Source) (a2 : Option Addr) (c2 : Nat), LS.length ≤ 300 ∧ Hid (SpX w.heap.size (w.heap.size + 1 + 1) (w.heap.size + 1) W2 (.slice a2 LS.length c2) (.slice none 0 0) LS []) := ⟨[⟨⟨#[97]⟩, ⟨#[103, 114, 111, 117, 110, 100]⟩⟩], some ⟨w.heap.size + 1, 0, none⟩, 1, by show 1 ≤ 300; omega, X1.out⟩
  clear X1
  generalize hxb : w.heap.size + 1 + 1 = xb at X1' ⊢
  clear hxb
  go_loopw [6] (fun i wr => ∃ (k : Nat) (v1 : Value) (RT' : List TR), i = .int .i64 k ∧ k ≤ n ∧ RT'.length = k ∧ Hid (SpX w.heap.size xb (w.heap.size + 1) wr (.slice a2 LS.length c2) v1 LS RT') ∧ Hid (GX RT') ∧ Hid (Below w.heap.size w wr)) (fun i _ => n - (intOf i).toNat)
  case atStart => exact ⟨0, _, [], rfl, by omega, rfl, X1'.out, fun _ h => absurd h List.not_mem_nil, A0.out⟩
  case round =>
    obtain ⟨k, v1, RT', rfl, hk, hkl, X2, G2, B2⟩ := hrel
    have HK : Hid (RT'.length = k) := hkl
    obtain ⟨a5, c5, rfl⟩ := own_slice X2.out.tgt.own
    obtain ⟨kc0, kc1⟩ := X2.out.cells
    have hxl := X2.out.lt
    have hrn : RT'.length ≤ 200 := by omega
    clear hkl
    by_cases hlt : k < n
    · have hwk : IntKind.i64.wrap ((k : Int) + 1) = (k : Int) + 1 := by rw [IntKind.wrap_i64]; omega
      go_wp2_with fail
      refine (l2Label_any (k + 1) (by omega) _).mono ?_
      rintro e wa ⟨nb, rfl, hnb, hBa⟩
      have X3 := hide (X2.out.below hBa (Nat.le_refl _))
      have B3 := hide (B2.out.trans (hBa.mono B2.out.size))
      obtain ⟨kc0, kc1⟩ := X3.out.cells
      have hxl := X3.out.lt
      clear hBa
      by_cases hla : (n : Int) - 1 = (k : Int)
      · go_wp2_with fail
        clear hla
        clear kc0 kc1
        have SQ : Hid (∀ V : World, (∀ j, j < wa.heap.size → some j ≠ (Value.slice a5 RT'.length c5).ownBlock → V.heap[j]? = wa.heap[j]?) → V.heap[xb]? = some (.cells #[.slice a2 LS.length c2, .slice a5 RT'.length c5] 26 (0, 0)) ∧ V.cell? ⟨xb, 1, none⟩ = some (.slice a5 RT'.length c5)) := fun V hV => by
          have h1 := (hV xb X3.out.lt fun e => by
            obtain ⟨cur, hcur⟩ := X3.out.tgt.type _ e.symm
            have h3 := X3.out.box.symm.trans hcur
            cases h3).trans X3.out.box
          exact ⟨h1, by simp [World.cell?, h1]⟩
        refine wp_region_N (fun V => V.heap[xb]? = some (.cells #[.slice a2 LS.length c2, .slice a5 RT'.length c5] 26 (0, 0)) ∧ V.cell? ⟨xb, 1, none⟩ = some (.slice a5 RT'.length c5)) 14 (by as_aux_lemma => kernel_rfl) ?_
        have HS := hide (SQ.out wa.drew (fun j hj _ => rfl))
        iterate 3
          refine anyN_nx 0 (v := ?_) rfl rfl (by as_aux_lemma => kernel_rfl) (fun _ _ _ h => h) rfl ?_ HS.out ?_
          rotate_left
          · (intro wz hSw; obtain ⟨s0, s1⟩ := hSw; go_simp)
            (try with_reducible rfl)
          (try simp only [Act.put, nzL])
        refine anyN_nx 4 (v := ?_) rfl rfl (by as_aux_lemma => kernel_rfl) (fun _ _ _ h => h) rfl ?_ HS.out ?_
        rotate_left
        · (intro wz hSw; obtain ⟨s0, s1⟩ := hSw; go_simp)
          (try with_reducible rfl)
        (try simp only [Act.put, nzL])
        refine anyN_one (i := 3) rfl (by as_aux_lemma => kernel_rfl) (fun K hK => ?_)
        go_simp
        go_at_call 127
        refine (l2Label_any k (by omega) _).mono ?_
        rintro e wl ⟨tn, rfl, htn, hBl⟩
        have BL : Hid (Below wa.heap.size wa wl) := (Below.refl wa.heap.size wa).drew.trans hBl
        clear hBl HS
        have HS := hide (SQ.out wl (fun j hj _ => BL.out.block j hj))
        refine hK.out _ _ (fun _ => HS.out) ?_
        clear hK K
        (try simp only [Act.put, nzL])
        refine anyN_one (i := 5) rfl (by as_aux_lemma => kernel_rfl) (fun K hK => ?_)
        go_simp
        go_at_call 128
        refine (l1Lit_any _ _).mono ?_
        rintro e wm ⟨rfl, hBm⟩
        have BM := hide (BL.out.trans (hBm.mono BL.out.size))
        clear hBm HS
        have HS := hide (SQ.out wm (fun j hj _ => BM.out.block j hj))
        refine hK.out _ _ (fun _ => HS.out) ?_
        clear hK K
        (try simp only [Act.put, nzL])
        refine anyN_one (i := 6) rfl (by as_aux_lemma => kernel_rfl) (fun K hK => ?_)
        go_simp
        go_at_call 129
        refine (l1Op_any _ _).mono ?_
        rintro e wo ⟨rfl, hBo⟩
        have BO := hide (BM.out.trans (hBo.mono BM.out.size))
        clear hBo HS
        have HS := hide (SQ.out wo (fun j hj _ => BO.out.block j hj))
        refine hK.out _ _ (fun _ => HS.out) ?_
        clear hK K
        (try simp only [Act.put, nzL])
        refine anyN_one (i := 7) rfl (by as_aux_lemma => kernel_rfl) (fun K hK => ?_)
        go_simp
        go_at_call 129
        refine (l1Op_any _ _).mono ?_
        rintro e wn ⟨rfl, hBn⟩
        have BN := hide (BO.out.trans (hBn.mono BO.out.size))
        clear hBn HS BL BM BO
        have hzn := BN.out.size
        have BI := hide (BN.out.alloc (by omega) (.cells #[.int .i64 1, .string en, .int .i64 0, .int .i64 12, .string ⟨#[]⟩, .int .i64 0, .int .i64 15, .string ⟨#[]⟩, .int .i64 0] 176))
        have hxi := X3.out.hi
        have OI := hide (own_three wn en (base := w.heap.size + 1) (by omega))
        have HS := hide (SQ.out wn (fun j hj _ => BN.out.block j hj))
        refine hK.out _ _ (fun _ => HS.out) ?_
        clear hK K HS
        (try simp only [Act.put, nzL])
        have HS := hide (SQ.out _ (fun j hj _ => BI.out.block j hj))
        iterate 3
          refine anyN_on 8 rfl rfl (by as_aux_lemma => kernel_rfl) (fun K hK => ?_)
          go_simp
          refine hK.out _ _ (fun _ => HS.out) ?_
          clear hK K
          (try simp only [Act.put, nzL])
        have hzb : (wn.alloc (.cells #[.int .i64 1, .string en, .int .i64 0, .int .i64 12, .string ⟨#[]⟩, .int .i64 0, .int .i64 15, .string ⟨#[]⟩, .int .i64 0] 176)).heap.size = wn.heap.size + 1 := by simp
        have AB := hide (BI.out.alloc (by omega) (.cells #[.string tn, .slice (some ⟨wn.heap.size, 0, none⟩) 3 3] 104))
        refine anyN_one (i := 11) rfl (by as_aux_lemma => kernel_rfl) (fun K hK => ?_)
        go_simp
        have XA := hide (X3.out.below AB.out (Nat.le_refl _))
        have OA := hide (own_below OI.out ((Below.refl _ _).alloc (Nat.le_refl _) (.cells #[.string tn, .slice (some ⟨wn.heap.size, 0, none⟩) 3 3] 104)) (Nat.le_refl _))
        refine hK.out _ _ (fun _ => SQ.out _ (fun j hj _ => AB.out.block j hj)) ?_
        clear hK K
        (try simp only [Act.put, nzL])
        refine anyN_one (i := 12) rfl (by as_aux_lemma => kernel_rfl) (fun K hK => ?_)
        refine step_append_own_at rfl (.tmp 25) (.tmp 35) 24 rfl (w.heap.size + 1) 104 i1' (.agg #[.string ⟨#[]⟩, .slice none 0 0]) 2 40 Tryz.underlying24 hj hz0 hz1 hz2 rfl (by decide) (.slice a5 RT'.length c5) RT'.length (RT'.flatMap tgtV) (by simp [Act.eval]) XA.out.tgt.own ⟨wn.heap.size + 1, 0, none⟩ 1 1 (tgtV (⟨tn, 3, lsI (threeL en)⟩, wn.heap.size, 3)) (by simp [Act.eval]) rfl (fun j u hu => two_new2 (hzb) _ _ _ j u hu) (by simp [tgtV, Value.oneCell']) (by unfold maxLen; omega) (by omega) (by have := XA.out.hi; have := XA.out.lt; omega) ?_
        intro v' w7 hown hgrow _
        obtain ⟨a7, c7, rfl⟩ := own_slice hown
        have S7 := hide (SQ.out w7 (fun j hj hne => (hgrow.block j (Nat.lt_of_lt_of_le hj AB.out.size) hne).trans (AB.out.block j hj)))
        obtain ⟨c8, b8⟩ := XA.out.addT (x := ⟨tn, 3, lsI (threeL en)⟩) (g := wn.heap.size) (c := 3) (fun r hr e => by have := X3.out.tgt.ltg r hr; omega) OA.out hown hgrow
        have X9 := hide c8
        have B9 := hide b8
        clear hown hgrow c8 b8
        refine hK.out _ _ (fun _ => S7.out) ?_
        clear hK K
        (try simp only [Act.put, nzL])
        refine anyN_one (i := 13) rfl (by as_aux_lemma => kernel_rfl) (fun K hK => ?_)
        go_simp
        refine hK.out _ _ (fun _ => S7.out) ?_
        clear hK K
        (try simp only [Act.put, nzL])
        obtain ⟨s7, t7⟩ := S7.out
        have f7 : w7.frozen? ⟨xb, 1, none⟩ = false := by simp [World.frozen?, s7]
        have l7 := heap_in s7
        clear s7
        refine anyN_one (i := 14) rfl (by as_aux_lemma => kernel_rfl) (fun K hK => ?_)
        go_simp
        refine hK.out _ _ (fun h => absurd rfl h) ?_
        clear hK K
        (try simp only [Act.put, nzL])
        refine anyN_done (by as_aux_lemma => kernel_rfl) ?_ _
        go_wp2
        have BB := hide ((AB.out.mono (show w.heap.size + 1 ≤ wa.heap.size by omega)).trans B9.out)
        refine ⟨⟨k + 1, .slice a7 (RT'.length + 1) c7, RT' ++ [((⟨tn, 3, lsI (threeL en)⟩, wn.heap.size, 3) : TR)], by go_num, by omega, by rw [List.length_append, HK.out]; rfl, X9.out, G2.out.add (r := (⟨tn, 3, lsI (threeL en)⟩, wn.heap.size, 3)) (by show 3 ≤ 300; omega) (three_size (by omega)), B3.out.trans (BB.out.mono (by omega))⟩, by simp [intOf]; omega⟩
      · have hlb : ¬ (k : Int) = (n : Int) - 1 := fun e => hla e.symm
        clear hla
        go_wp2_with fail
        clear hlb
        clear kc0 kc1
        have SQ : Hid (∀ V : World, (∀ j, j < wa.heap.size → some j ≠ (Value.slice a5 RT'.length c5).ownBlock → V.heap[j]? = wa.heap[j]?) → V.heap[xb]? = some (.cells #[.slice a2 LS.length c2, .slice a5 RT'.length c5] 26 (0, 0)) ∧ V.cell? ⟨xb, 1, none⟩ = some (.slice a5 RT'.length c5)) := fun V hV => by
          have h1 := (hV xb X3.out.lt fun e => by
            obtain ⟨cur, hcur⟩ := X3.out.tgt.type _ e.symm
            have h3 := X3.out.box.symm.trans hcur
            cases h3).trans X3.out.box
          exact ⟨h1, by simp [World.cell?, h1]⟩
        refine wp_region_N (fun V => V.heap[xb]? = some (.cells #[.slice a2 LS.length c2, .slice a5 RT'.length c5] 26 (0, 0)) ∧ V.cell? ⟨xb, 1, none⟩ = some (.slice a5 RT'.length c5)) 14 (by as_aux_lemma => kernel_rfl) ?_
        have HS := hide (SQ.out wa.drew (fun j hj _ => rfl))
        iterate 3
          refine anyN_nx 0 (v := ?_) rfl rfl (by as_aux_lemma => kernel_rfl) (fun _ _ _ h => h) rfl ?_ HS.out ?_
          rotate_left
          · (intro wz hSw; obtain ⟨s0, s1⟩ := hSw; go_simp)
            (try with_reducible rfl)
          (try simp only [Act.put, nzL])
        refine anyN_nx 4 (v := ?_) rfl rfl (by as_aux_lemma => kernel_rfl) (fun _ _ _ h => h) rfl ?_ HS.out ?_
        rotate_left
        · (intro wz hSw; obtain ⟨s0, s1⟩ := hSw; go_simp)
          (try with_reducible rfl)
        (try simp only [Act.put, nzL])
        refine anyN_one (i := 3) rfl (by as_aux_lemma => kernel_rfl) (fun K hK => ?_)
        go_simp
        go_at_call 127
        refine (l2Label_any k (by omega) _).mono ?_
        rintro e wl ⟨tn, rfl, htn, hBl⟩
        have BL : Hid (Below wa.heap.size wa wl) := (Below.refl wa.heap.size wa).drew.trans hBl
        clear hBl HS
        have HS := hide (SQ.out wl (fun j hj _ => BL.out.block j hj))
        refine hK.out _ _ (fun _ => HS.out) ?_
        clear hK K
        (try simp only [Act.put, nzL])
        refine anyN_one (i := 5) rfl (by as_aux_lemma => kernel_rfl) (fun K hK => ?_)
        go_simp
        go_at_call 128
        refine (l1Lit_any _ _).mono ?_
        rintro e wm ⟨rfl, hBm⟩
        have BM := hide (BL.out.trans (hBm.mono BL.out.size))
        clear hBm HS
        have HS := hide (SQ.out wm (fun j hj _ => BM.out.block j hj))
        refine hK.out _ _ (fun _ => HS.out) ?_
        clear hK K
        (try simp only [Act.put, nzL])
        refine anyN_one (i := 6) rfl (by as_aux_lemma => kernel_rfl) (fun K hK => ?_)
        go_simp
        go_at_call 129
        refine (l1Op_any _ _).mono ?_
        rintro e wo ⟨rfl, hBo⟩
        have BO := hide (BM.out.trans (hBo.mono BM.out.size))
        clear hBo HS
        have HS := hide (SQ.out wo (fun j hj _ => BO.out.block j hj))
        refine hK.out _ _ (fun _ => HS.out) ?_
        clear hK K
        (try simp only [Act.put, nzL])
        refine anyN_one (i := 7) rfl (by as_aux_lemma => kernel_rfl) (fun K hK => ?_)
        go_simp
        go_at_call 129
        refine (l1Op_any _ _).mono ?_
        rintro e wn ⟨rfl, hBn⟩
        have BN := hide (BO.out.trans (hBn.mono BO.out.size))
        clear hBn HS BL BM BO
        have hzn := BN.out.size
        have BI := hide (BN.out.alloc (by omega) (.cells #[.int .i64 1, .string nb, .int .i64 0, .int .i64 12, .string ⟨#[]⟩, .int .i64 0, .int .i64 15, .string ⟨#[]⟩, .int .i64 0] 176))
        have hxi := X3.out.hi
        have OI := hide (own_three wn nb (base := w.heap.size + 1) (by omega))
        have HS := hide (SQ.out wn (fun j hj _ => BN.out.block j hj))
        refine hK.out _ _ (fun _ => HS.out) ?_
        clear hK K HS
        (try simp only [Act.put, nzL])
        have HS := hide (SQ.out _ (fun j hj _ => BI.out.block j hj))
        iterate 3
          refine anyN_on 8 rfl rfl (by as_aux_lemma => kernel_rfl) (fun K hK => ?_)
          go_simp
          refine hK.out _ _ (fun _ => HS.out) ?_
          clear hK K
          (try simp only [Act.put, nzL])
        have hzb : (wn.alloc (.cells #[.int .i64 1, .string nb, .int .i64 0, .int .i64 12, .string ⟨#[]⟩, .int .i64 0, .int .i64 15, .string ⟨#[]⟩, .int .i64 0] 176)).heap.size = wn.heap.size + 1 := by simp
        have AB := hide (BI.out.alloc (by omega) (.cells #[.string tn, .slice (some ⟨wn.heap.size, 0, none⟩) 3 3] 104))
        refine anyN_one (i := 11) rfl (by as_aux_lemma => kernel_rfl) (fun K hK => ?_)
        go_simp
        have XA := hide (X3.out.below AB.out (Nat.le_refl _))
        have OA := hide (own_below OI.out ((Below.refl _ _).alloc (Nat.le_refl _) (.cells #[.string tn, .slice (some ⟨wn.heap.size, 0, none⟩) 3 3] 104)) (Nat.le_refl _))
        refine hK.out _ _ (fun _ => SQ.out _ (fun j hj _ => AB.out.block j hj)) ?_
        clear hK K
        (try simp only [Act.put, nzL])
        refine anyN_one (i := 12) rfl (by as_aux_lemma => kernel_rfl) (fun K hK => ?_)
        refine step_append_own_at rfl (.tmp 25) (.tmp 35) 24 rfl (w.heap.size + 1) 104 i1' (.agg #[.string ⟨#[]⟩, .slice none 0 0]) 2 40 Tryz.underlying24 hj hz0 hz1 hz2 rfl (by decide) (.slice a5 RT'.length c5) RT'.length (RT'.flatMap tgtV) (by simp [Act.eval]) XA.out.tgt.own ⟨wn.heap.size + 1, 0, none⟩ 1 1 (tgtV (⟨tn, 3, lsI (threeL nb)⟩, wn.heap.size, 3)) (by simp [Act.eval]) rfl (fun j u hu => two_new2 (hzb) _ _ _ j u hu) (by simp [tgtV, Value.oneCell']) (by unfold maxLen; omega) (by omega) (by have := XA.out.hi; have := XA.out.lt; omega) ?_
        intro v' w7 hown hgrow _
        obtain ⟨a7, c7, rfl⟩ := own_slice hown
        have S7 := hide (SQ.out w7 (fun j hj hne => (hgrow.block j (Nat.lt_of_lt_of_le hj AB.out.size) hne).trans (AB.out.block j hj)))
        obtain ⟨c8, b8⟩ := XA.out.addT (x := ⟨tn, 3, lsI (threeL nb)⟩) (g := wn.heap.size) (c := 3) (fun r hr e => by have := X3.out.tgt.ltg r hr; omega) OA.out hown hgrow
        have X9 := hide c8
        have B9 := hide b8
        clear hown hgrow c8 b8
        refine hK.out _ _ (fun _ => S7.out) ?_
        clear hK K
        (try simp only [Act.put, nzL])
        refine anyN_one (i := 13) rfl (by as_aux_lemma => kernel_rfl) (fun K hK => ?_)
        go_simp
        refine hK.out _ _ (fun _ => S7.out) ?_
        clear hK K
        (try simp only [Act.put, nzL])
        obtain ⟨s7, t7⟩ := S7.out
        have f7 : w7.frozen? ⟨xb, 1, none⟩ = false := by simp [World.frozen?, s7]
        have l7 := heap_in s7
        clear s7
        refine anyN_one (i := 14) rfl (by as_aux_lemma => kernel_rfl) (fun K hK => ?_)
        go_simp
        refine hK.out _ _ (fun h => absurd rfl h) ?_
        clear hK K
        (try simp only [Act.put, nzL])
        refine anyN_done (by as_aux_lemma => kernel_rfl) ?_ _
        go_wp2
        have BB := hide ((AB.out.mono (show w.heap.size + 1 ≤ wa.heap.size by omega)).trans B9.out)
        refine ⟨⟨k + 1, .slice a7 (RT'.length + 1) c7, RT' ++ [((⟨tn, 3, lsI (threeL nb)⟩, wn.heap.size, 3) : TR)], by go_num, by omega, by rw [List.length_append, HK.out]; rfl, X9.out, G2.out.add (r := (⟨tn, 3, lsI (threeL nb)⟩, wn.heap.size, 3)) (by show 3 ≤ 300; omega) (three_size (by omega)), B3.out.trans (BB.out.mono (by omega))⟩, by simp [intOf]; omega⟩
    · obtain rfl : k = n := by omega
      have kr := X2.out.res
      have r0 : wr.cell? ⟨w.heap.size, 0, none⟩ = some (.slice none 0 0) := by simp [World.cell?, kr]
      have r1 : wr.cell? ⟨w.heap.size, 1, none⟩ = some (.slice none 0 0) := by simp [World.cell?, kr]
      have f0 : wr.frozen? ⟨w.heap.size, 0, none⟩ = false := by simp [World.frozen?, kr]
      have f1 : wr.frozen? ⟨w.heap.size, 1, none⟩ = false := by simp [World.frozen?, kr]
      have l0 := heap_in kr
      clear kr
      have BE := hide ((B2.out.setCell (p := ⟨w.heap.size, 0, none⟩) (Nat.le_refl _) (.slice a2 LS.length c2)).setCell (p := ⟨w.heap.size, 1, none⟩) (Nat.le_refl _) (.slice a5 RT'.length c5))
      have HE := hide ((X2.out.fin rfl rfl hLS (by omega) G2.out (.slice a2 LS.length c2) (.slice a5 RT'.length c5)).mono (Nat.le_succ w.heap.size))
      go_wp2
      exact bodyPost_ret (v := .agg #[.slice a2 LS.length c2, .slice a5 RT'.length c5]) (by simp [results, Tryz.results123, go_sem, r0, r1]) rfl ⟨_, _, _, _, _, _, _, _, rfl, HK.out, HE.out, BE.out⟩
theorem l2Chain_any (n : Nat) (hn : n ≤ 200) (en : ByteArray) (he : en.size ≤ 5000) (w : World) : Calls Tryz.prog 123 #[.int .i64 n, .string en] w fun e w' => DF w e w' :=
  (l2Chain_num n hn en he w).mono fun _ _ ⟨a0, n0, c0, f0, a1, n1, c1, f1, h1, _, h2, h3⟩ => ⟨a0, n0, c0, f0, a1, n1, c1, f1, h1, h2, h3⟩
end Go.Proofs.YtkophfgkcijjkaaGreatDoor.Vp
