import Derived.Test.YtkophfgkcijjkaaGreatDoorZA
import Derived.Test.YtkophfgkcijjkaaGreatDoorZB
import Derived.Test.YtkophfgkcijjkaaGreatDoorYI
import Derived.Deep.LoopGhost
namespace Go.Proofs.YtkophfgkcijjkaaGreatDoor.Vp
open Go.RowKit Go.Proofs.YtkophfgkcijjkaaGreatDoor.Ca
def DSp (w : World) (R q ns nt : Nat) (e : Ending) (w' : World) : Prop := ∃ (LS : List Source) (RT : List TR) (v0 v1 : Value), e = .returned (.agg #[v0, v1]) ∧ w'.ownsRow (w.heap.size + 2) 100 2 v0 LS.length (LS.flatMap srcV) ∧ TRow w' (w.heap.size + 2) v1 RT ∧ SpG LS RT ∧ LS.length ≤ ns ∧ RT.length ≤ nt ∧ ∃ q' : Nat, q' ≤ q ∧ Rd w' R q' ∧ Only R w w'
def srcN (k : Nat) : ByteArray := (⟨#[97, 98, 99, 100, 101, 102]⟩ : ByteArray).extract k (k + 1)
theorem srcN_size : ∀ k, k < 6 → (srcN k).size = 1 := by decide
structure DP4 (w : World) (R : Nat) (v0 v1 : Value) (LS : List Source) (RT : List TR) (b q : Nat) (W : World) : Prop where
  C : SpB w.heap.size W v0 v1 LS RT
  P : ∃ g c n f, PrG (w.heap.size + 2) W RT b g c n f
  rd : Rd W R q
  O : Only R w W
  low : R < w.heap.size
theorem DP4.only {w W W' : World} {R b q q' : Nat} {v0 v1 : Value} {LS : List Source} {RT : List TR} (h : DP4 w R v0 v1 LS RT b q W) (hO : Only R W W') (hR : Rd W' R q') : DP4 w R v0 v1 LS RT b q' W' := by
  have hl := h.low
  obtain ⟨g, c, n, f, hP⟩ := h.P
  exact ⟨h.C.only hO h.low, ⟨g, c, n, f, hP.only hO (by omega)⟩, hR, h.O.trans hO, h.low⟩
theorem DP4.below {w W W' : World} {R b q : Nat} {v0 v1 : Value} {LS : List Source} {RT : List TR} (h : DP4 w R v0 v1 LS RT b q W) (hB : Below W.heap.size W W') : DP4 w R v0 v1 LS RT b q W' := by
  obtain ⟨g, c, n, f, hP⟩ := h.P
  exact ⟨h.C.below hB, ⟨g, c, n, f, hP.below hB (Nat.le_refl _)⟩, h.rd.below hB (Nat.le_refl _), h.O.then (hB.mono h.O.size), h.low⟩
set_option maxRecDepth 100000 in
set_option maxHeartbeats 8000000 in
theorem l2Draw_any (R p : Nat) (w : World) (hR : Rd w R p) (hp : p ≤ 10000) :
    Calls Tryz.prog 124 #[.pointer (some ⟨R, 0, none⟩)] w fun e w' => DSp w R (p + 5100) 6 8 e w' := by
  have HR := hide hR
  have hlow := hR.lt
  clear hR
  have C0 := hide (spb_new w)
  have B0 := hide (((Below.refl w.heap.size w).alloc (Nat.le_refl _) (.cells #[.slice none 0 0, .slice none 0 0] 26)).alloc (by simp) (.cells #[.slice none 0 0, .slice none 0 0] 26))
  obtain ⟨i0', hi, hy0, hy1, hy2⟩ := info_parts infoSource
  obtain ⟨i1', hj, hz0, hz1, hz2⟩ := info_parts infoTarget
  go_enter Tryz.func124, Tryz.ntmps124
  go_wp2_with fail
  generalize (w.alloc (.cells #[.slice none 0 0, .slice none 0 0] 26)).alloc (.cells #[.slice none 0 0, .slice none 0 0] 26) = W at C0 B0 ⊢
  have R0 := hide (HR.out.below B0.out (Nat.le_refl _))
  have O0 : Hid (Only R w W) := Only.of_below B0.out
  go_loopg [4] 6 (fun g i wr => ∃ (k q : Nat) (v0 : Value) (LS : List Source), k + g = 6 ∧ q ≤ p + 12 * k ∧ LS.length ≤ k ∧ i = .int .i64 k ∧ Hid (SpB w.heap.size wr v0 (.slice none 0 0) LS []) ∧ Hid (SpG LS []) ∧ Hid (Rd wr R q) ∧ Hid (Only R w wr))
  case atStart => exact ⟨0, p, _, [], by omega, by omega, Nat.le_refl _, rfl, C0.out, spg_nil, R0.out, O0.out⟩
  case round =>
    obtain ⟨k, q, v0, LS, hk, hq, hls, rfl, CC, GG, RR, OO⟩ := hrel
    by_cases hlt : k < 6
    · have hwk : IntKind.i64.wrap ((k : Int) + 1) = (k : Int) + 1 := by rw [IntKind.wrap_i64]; omega
      go_wp2_with fail
      refine (pick_any R q 5 _ RR.out (by omega) (by omega) (by omega)).mono ?_
      rintro e w1 ⟨z, rfl, hz0', hz1', hR1, hO1⟩
      have C1 := hide (CC.out.only hO1 hlow)
      have R1 := hide hR1
      have O1 := hide (OO.out.trans hO1)
      clear hR1 hO1
      by_cases hz : 0 < z
      · go_wp2_with fail
        refine (l1Text_any R _ _ R1.out (by omega)).mono ?_
        rintro e w2 ⟨t, rfl, ht, q2, hq2, hR2, hO2⟩
        have C2 := hide (C1.out.only hO2 hlow)
        have R2 := hide hR2
        have O2 := hide (O1.out.trans hO2)
        clear hR2 hO2
        go_wp2_with fail
        refine (pick_any R _ 2 _ R2.out (by omega) (by omega) (by omega)).mono ?_
        rintro e w3 ⟨y, rfl, hy0', hy1', hR3, hO3⟩
        have C3 := hide (C2.out.only hO3 hlow)
        have R3 := hide hR3
        have O3 := hide (O2.out.trans hO3)
        clear hR3 hO3
        go_upto_if 22 with fail
        go_cut [5] (fun s5 wx => ∃ (tx : ByteArray) (q4 : Nat), s5 = .string tx ∧ tx.size ≤ 5000 ∧ q4 ≤ q2 + 3 ∧ Hid (SpB w.heap.size wx v0 (.slice none 0 0) LS []) ∧ Hid (Rd wx R q4) ∧ Hid (Only R w wx))
        case first =>
          by_cases hy : y = 0
          · subst hy
            go_wp2_with fail
            refine (l1Name_any R _ _ R3.out (by omega)).mono ?_
            rintro e w4 ⟨s1, rfl, hs1, hR4, hO4⟩
            have C4 := hide (C3.out.only hO4 hlow)
            have R4 := hide hR4
            have O4 := hide (O3.out.trans hO4)
            clear hR4 hO4
            go_wp2_with fail
            refine (l1Name_any R _ _ R4.out (by omega)).mono ?_
            rintro e w5 ⟨s2, rfl, hs2, hR5, hO5⟩
            have C5 := hide (C4.out.only hO5 hlow)
            have R5 := hide hR5
            have O5 := hide (O4.out.trans hO5)
            clear hR5 hO5
            have htx : (s1 ++ ⟨#[32]⟩ ++ s2 ++ ⟨#[32]⟩ ++ t).size ≤ 5000 := by
              have e : (⟨#[32]⟩ : ByteArray).size = 1 := rfl
              simp only [ByteArray.size_append, e]
              omega
            go_wp2
            go_meet
            exact ⟨_, _, rfl, htx, by omega, C5.out, R5.out, O5.out⟩
          · go_wp2
            go_meet
            exact ⟨t, _, rfl, by omega, by omega, C3.out, R3.out, O3.out⟩
        case rest =>
        clear C3 R3 O3
        obtain ⟨tx, q4, rfl, htx, hq4, C5, R5, O5⟩ := hcut
        go_wp2_with fail
        have SQ : Hid (∀ V : World, (∀ j, j < wc.heap.size → some j ≠ v0.ownBlock → V.heap[j]? = wc.heap[j]?) → V.heap[w.heap.size + 1]? = some (.cells #[v0, .slice none 0 0] 26 (0, 0)) ∧ V.cell? ⟨w.heap.size + 1, 0, none⟩ = some v0) := fun V hV => by
          have h1 := (hV (w.heap.size + 1) C5.out.lt fun e => by have := (C5.out.src.lt _ e.symm).1; omega).trans C5.out.box
          exact ⟨h1, by simp [World.cell?, h1]⟩
        refine wp_region_N (fun V => V.heap[w.heap.size + 1]? = some (.cells #[v0, .slice none 0 0] 26 (0, 0)) ∧ V.cell? ⟨w.heap.size + 1, 0, none⟩ = some v0) 11 (by as_aux_lemma => kernel_rfl) ?_
        have HS := hide (SQ.out wc.drew (fun j hj _ => rfl))
        iterate 5
          refine anyN_nx 0 (v := ?_) rfl rfl (by as_aux_lemma => kernel_rfl) (fun _ _ _ h => h) rfl ?_ HS.out ?_
          rotate_left
          · (intro wz hSw; obtain ⟨s0, s1⟩ := hSw; go_simp)
            (try with_reducible rfl)
          (try simp only [Act.put, nzL])
        refine anyN_take (i := 5) (v := .string (srcN k)) rfl (by as_aux_lemma => kernel_rfl) (by as_aux_lemma => kernel_rfl) (by as_aux_lemma => kernel_rfl) (by as_aux_lemma => kernel_rfl) (fun _ _ _ h => h) rfl ?_ HS.out ?_
        · intro wz _
          go_simp
          rw [if_pos ⟨by omega, by omega⟩, if_pos (by omega)]
          rfl
        (try simp only [Act.put, nzL])
        iterate 2
          refine anyN_nx 6 (v := ?_) rfl rfl (by as_aux_lemma => kernel_rfl) (fun _ _ _ h => h) rfl ?_ HS.out ?_
          rotate_left
          · (intro wz hSw; obtain ⟨s0, s1⟩ := hSw; go_simp)
            (try with_reducible rfl)
          (try simp only [Act.put, nzL])
        refine anyN_one (i := 8) rfl (by as_aux_lemma => kernel_rfl) (fun K hK => ?_)
        go_simp
        have hbx := C5.out.lt
        have AB := hide (((Below.refl wc.heap.size wc).alloc (Nat.le_refl _) (.cells #[.string (srcN k), .string tx] 100)).drew)
        have C6 := hide (C5.out.below AB.out)
        have hz6 := AB.out.size
        refine hK.out _ _ (fun _ => SQ.out _ (fun j hj _ => AB.out.block j hj)) ?_
        clear hK K HS
        (try simp only [Act.put, nzL])
        refine anyN_one (i := 9) rfl (by as_aux_lemma => kernel_rfl) (fun K hK => ?_)
        refine step_append_own_at rfl (.tmp 33) (.tmp 40) 23 rfl (w.heap.size + 2) 100 i0' (.agg #[.string ⟨#[]⟩, .string ⟨#[]⟩]) 2 32 Tryz.underlying23 hi hy0 hy1 hy2 rfl (by decide) v0 LS.length (LS.flatMap srcV) (by simp [Act.eval]) C6.out.src ⟨wc.heap.size, 0, none⟩ 1 1 (srcV ⟨srcN k, tx⟩) (by simp [Act.eval]) rfl (fun j u hu => two_new wc _ _ _ j u hu) (by simp [srcV, Value.oneCell']) (by unfold maxLen; omega) (by omega) (by omega) ?_
        intro v' w7 hown hgrow _
        obtain ⟨a7, c7, rfl⟩ := own_slice hown
        have S7 := hide (SQ.out w7 (fun j hj hne => (hgrow.block j (Nat.lt_of_lt_of_le hj AB.out.size) hne).trans (AB.out.block j hj)))
        obtain ⟨c8, b8⟩ := C6.out.addS hown hgrow
        have C8 := hide c8
        have B8 := hide b8
        clear hown hgrow c8 b8
        refine hK.out _ _ (fun _ => S7.out) ?_
        clear hK K
        (try simp only [Act.put, nzL])
        refine anyN_one (i := 10) rfl (by as_aux_lemma => kernel_rfl) (fun K hK => ?_)
        go_simp
        refine hK.out _ _ (fun _ => S7.out) ?_
        clear hK K
        (try simp only [Act.put, nzL])
        obtain ⟨s7, t7⟩ := S7.out
        have f7 : w7.frozen? ⟨w.heap.size + 1, 0, none⟩ = false := by simp [World.frozen?, s7]
        have l7 := heap_in s7
        clear s7
        refine anyN_one (i := 11) rfl (by as_aux_lemma => kernel_rfl) (fun K hK => ?_)
        go_simp
        refine hK.out _ _ (fun h => absurd rfl h) ?_
        clear hK K
        (try simp only [Act.put, nzL])
        refine anyN_done (by as_aux_lemma => kernel_rfl) ?_ _
        go_wp2
        have BB := hide ((AB.out.mono (show w.heap.size + 1 ≤ wc.heap.size by omega)).trans B8.out)
        go_roundg (5 - k)
        case measure => omega
        case rel => exact ⟨k + 1, q4, .slice a7 (LS.length + 1) c7, LS ++ [(⟨srcN k, tx⟩ : Source)], by omega, by omega, by rw [List.length_append]; exact Nat.succ_le_succ hls, by go_num, C8.out, GG.out.addS (x := ⟨srcN k, tx⟩) (by show (srcN k).size ≤ 5000; rw [srcN_size k hlt]; omega) htx, R5.out.low BB.out (by omega), O5.out.then (BB.out.mono (Nat.le_succ _))⟩
      · go_wp2
        go_roundg (5 - k)
        case measure => omega
        case rel => exact ⟨k + 1, _, v0, LS, by omega, by omega, by omega, by go_num, C1.out, GG.out, R1.out, O1.out⟩
    · obtain rfl : k = 6 := by omega
      go_wp2_with fail
      refine (pick_any R q 8 _ RR.out (by omega) (by omega) (by omega)).mono ?_
      rintro e w1 ⟨z, rfl, hz0', hz1', hR1, hO1⟩
      have C1 := hide (CC.out.only hO1 hlow)
      have R1 := hide hR1
      have O1 := hide (OO.out.trans hO1)
      clear hR1 hO1
      obtain ⟨n, rfl⟩ : ∃ n : Nat, z = (n : Int) := ⟨z.toNat, by omega⟩
      go_wp2_with fail
      go_loopg [7] (n + 1) (fun g i wr => ∃ (j q : Nat) (v1 : Value) (RT : List TR), j + g = n + 1 ∧ q ≤ p + 73 + 620 * j ∧ RT.length = j ∧ i = .int .i64 j ∧ Hid (SpB w.heap.size wr v0 v1 LS RT) ∧ Hid (SpG LS RT) ∧ Hid (Rd wr R q) ∧ Hid (Only R w wr))
      case atStart => exact ⟨0, _, _, [], by omega, by omega, rfl, rfl, C1.out, GG.out, R1.out, O1.out⟩
      case round =>
        obtain ⟨j, q2, v1, RT, hj2, hq2, hrt, rfl, C2, G2, R2, O2⟩ := hrel
        obtain ⟨a1, c1, rfl⟩ := own_slice C2.out.tgt.own
        by_cases hjn : j < n + 1
        · have HRT : Hid (RT.length = j) := hrt
          have hrn : RT.length ≤ 8 := by omega
          clear hrt
          have hwk : IntKind.i64.wrap ((j : Int) + 1) = (j : Int) + 1 := by rw [IntKind.wrap_i64]; omega
          go_wp2_with fail
          refine (l1DrawProgram_any R q2 _ R2.out (by omega)).mono ?_
          rintro e w3 ⟨L, g, c, rfl, hI, hl1, hl2, hT, q3, hq3, hR3, hO3⟩
          have hlt2 := C2.out.lt
          have hs3 := hO3.size
          have C3 := hide (C2.out.only hO3 hlow)
          have B4 := hide ((Below.refl w3.heap.size w3).alloc (Nat.le_refl _) (.cells #[.slice (some ⟨g, 0, none⟩) L.length c] 31))
          have P4 := hide (prg_alloc (base := w.heap.size + 2) (RT := RT) hI (by omega) (fun r hr => C2.out.tgt.ltg r hr) (by omega) ⟨hl1, by omega⟩ hT)
          have C4 := hide (C3.out.below B4.out)
          have R4 := hide (hR3.below B4.out (Nat.le_refl _))
          have O4 := hide ((O2.out.trans hO3).then (B4.out.mono (by omega)))
          have D4 : Hid (DP4 w R v0 (.slice a1 RT.length c1) LS RT w3.heap.size q3 (w3.alloc (.cells #[.slice (some ⟨g, 0, none⟩) L.length c] 31))) := ⟨C4.out, ⟨_, _, _, _, P4.out⟩, R4.out, O4.out, hlow⟩
          clear hR3 hO3 hI hT C3 C4 P4 R4 O4
          go_upto_region 15 with fail
          generalize w3.alloc (.cells #[.slice (some ⟨g, 0, none⟩) L.length c] 31) = W4 at D4 B4 ⊢
          clear B4
          go_cut [59] (fun s59 wx => ∃ (b1 : Bool) (q4 : Nat), s59 = .bool b1 ∧ (b1 = true → 0 < j) ∧ q4 ≤ q3 + 1 ∧ Hid (DP4 w R v0 (.slice a1 RT.length c1) LS RT w3.heap.size q4 wx))
          case first =>
            by_cases hj0 : 0 < (j : Int)
            · go_wp2_with fail
              refine (pick_any R _ 5 _ D4.out.rd (by omega) (by omega) (by omega)).mono ?_
              rintro e w5 ⟨z5, rfl, h50, h51, hR5, hO5⟩
              have D5 := hide (D4.out.only hO5 hR5)
              clear hR5 hO5
              go_wp2
              go_meet
              exact ⟨_, _, rfl, fun _ => by omega, by omega, D5.out⟩
            · go_wp2
              go_meet
              exact ⟨_, _, rfl, fun h => by simp at h, by omega, D4.out⟩
          case rest =>
          clear D4
          obtain ⟨b1, q4, rfl, hb1, hq4, D5⟩ := hcut
          go_upto_if 59 with fail
          go_cut [] (fun wx => ∃ q5 : Nat, q5 ≤ q4 + 1 ∧ Hid (DP4 w R v0 (.slice a1 RT.length c1) LS RT w3.heap.size q5 wx))
          case first =>
            cases b1 with
            | true =>
              have hj0 : 0 < (j : Int) := by have := hb1 rfl; omega
              obtain ⟨gt, _, rfl, _⟩ := C2.out.tgt.atk (k := 0) (by have := HRT.out; omega)
              go_wp2_with fail
              have SQ : Hid (∀ V : World, (∀ j, j < wc.heap.size → j ≠ R → V.heap[j]? = wc.heap[j]?) → V.heap[w.heap.size + 1]? = some (.cells #[v0, (.slice (some ⟨gt, 0, none⟩) RT.length c1)] 26 (0, 0)) ∧ V.cell? ⟨w.heap.size + 1, 1, none⟩ = some (.slice (some ⟨gt, 0, none⟩) RT.length c1)) := fun V hV => by
                have h1 := (hV (w.heap.size + 1) D5.out.C.lt (by omega)).trans D5.out.C.box
                exact ⟨h1, by simp [World.cell?, h1]⟩
              refine wp_region_N (fun V => V.heap[w.heap.size + 1]? = some (.cells #[v0, (.slice (some ⟨gt, 0, none⟩) RT.length c1)] 26 (0, 0)) ∧ V.cell? ⟨w.heap.size + 1, 1, none⟩ = some (.slice (some ⟨gt, 0, none⟩) RT.length c1)) 11 (by as_aux_lemma => kernel_rfl) ?_
              have HS := hide (SQ.out wc.drew (fun j hj _ => rfl))
              iterate 6
                refine anyN_nx 0 (v := ?_) rfl rfl (by as_aux_lemma => kernel_rfl) (fun _ _ _ h => h) rfl ?_ HS.out ?_
                rotate_left
                · (intro wz hSw; obtain ⟨s0, s1⟩ := hSw; go_simp)
                  (try with_reducible rfl)
                (try simp only [Act.put, nzL])
              refine anyN_one (i := 6) rfl (by as_aux_lemma => kernel_rfl) (fun K hK => ?_)
              go_simp
              go_at_call 51
              refine (pick_any R _ (RT.length : Int) _ (D5.out.rd.below (Below.refl _ _).drew (Nat.le_refl _)) (by omega) (by have := HRT.out; omega) (by omega)).mono ?_
              rintro e w6 ⟨z6, rfl, h60, h61, hR6, hO6⟩
              obtain ⟨k6, rfl⟩ : ∃ k6 : Nat, z6 = (k6 : Int) := ⟨z6.toNat, by omega⟩
              have hk6 : k6 < RT.length := by omega
              have O6' : Hid (Only R wc w6) := (Only.of_below (Below.refl _ _).drew).trans hO6
              have D6 := hide (D5.out.only O6'.out hR6)
              clear hR6 hO6
              have S6 := hide (SQ.out w6 (fun j hj hne => O6'.out.block j hj hne))
              obtain ⟨gt', r6, hgt, hgl, hm6, hc0, hc1, hsl⟩ := D6.out.C.tgt.atk hk6
              have SL6 := hide hsl
              have M6 := hide hm6
              clear hsl hm6
              injection hgt with e1
              injection e1 with e2
              subst e2
              refine hK.out _ _ (fun _ => S6.out) ?_
              clear hK K HS
              (try simp only [Act.put, nzL])
              iterate 3
                refine anyN_on 7 rfl rfl (by as_aux_lemma => kernel_rfl) (fun K hK => ?_)
                go_simp
                refine hK.out _ _ (fun _ => S6.out) ?_
                clear hK K
                (try simp only [Act.put, nzL])
              refine anyN_one (i := 10) rfl (by as_aux_lemma => kernel_rfl) (fun K hK => ?_)
              go_simp
              go_at_call 80
              refine (l2Program_any _ _ _ r6.1.act _ (by have := (G2.out.t r6 M6.out).2.1.2; omega) SL6.out).mono ?_
              rintro e w7 ⟨g7, c7, rfl, hw7, hB7⟩
              have hf7 := G2.out.t r6 M6.out
              obtain ⟨gp, cp, mp, fp, hPP⟩ := (D6.out.below hB7).P
              have D7 := hide (D6.out.below hB7)
              have P8 := hide (hPP.put hw7 (by have := D6.out.C.lt; omega) (fun r hr => D6.out.C.tgt.ltg r hr) hf7.2.1 hf7.2.2)
              have S7 := hide (SQ.out w7 (fun j hj hne => (hB7.block j (Nat.lt_of_lt_of_le hj O6'.out.size)).trans (O6'.out.block j hj hne)))
              have k7 := hPP.blk.c0
              have z7 := hPP.blk.fz 0
              have l7 := hPP.blk.lt
              have lo7 := hPP.lo
              have B8 := hide ((Below.refl w3.heap.size w7).setCell (p := ⟨w3.heap.size, 0, none⟩) (Nat.le_refl _) (.slice (some ⟨g7, 0, none⟩) r6.1.actN c7))
              have D8 : Hid (DP4 w R v0 (.slice (some ⟨gt, 0, none⟩) RT.length c1) LS RT w3.heap.size _ (w7.setCell ⟨w3.heap.size, 0, none⟩ (.slice (some ⟨g7, 0, none⟩) r6.1.actN c7))) := ⟨D7.out.C.putP hPP.blk lo7 (.slice (some ⟨g7, 0, none⟩) r6.1.actN c7), ⟨_, _, _, _, P8.out⟩, D7.out.rd.low B8.out (by omega), D7.out.O.then (B8.out.mono (by omega)), hlow⟩
              clear hw7 hB7 hf7 hPP P8 B8
              refine hK.out _ _ (fun _ => S7.out) ?_
              clear hK K
              (try simp only [Act.put, nzL])
              refine anyN_one (i := 11) rfl (by as_aux_lemma => kernel_rfl) (fun K hK => ?_)
              go_simp
              refine hK.out _ _ (fun h => absurd rfl h) ?_
              clear hK K k7 z7
              (try simp only [Act.put, nzL])
              refine anyN_done (by as_aux_lemma => kernel_rfl) ?_ _
              go_wp2
              go_meet
              exact ⟨_, by omega, D8.out⟩
            | false =>
              go_wp2
              go_meet
              exact ⟨q4, by omega, D5.out⟩
          case rest =>
          clear D5
          obtain ⟨q5, hq5, D6⟩ := hcut
          go_wp2_with fail
          refine (pick_any R _ 2 _ D6.out.rd (by omega) (by omega) (by omega)).mono ?_
          rintro e w9 ⟨z9, rfl, h90, h91, hR9, hO9⟩
          have D9 := hide (D6.out.only hO9 hR9)
          clear hR9 hO9 D6
          go_upto_if 73 with fail
          go_cut [9] (fun _ wx => ∃ q8 : Nat, q8 ≤ q5 + 12 ∧ Hid (DP4 w R v0 (.slice a1 RT.length c1) LS RT w3.heap.size q8 wx))
          case first =>
            by_cases hz9 : z9 = 0
            · subst hz9
              go_upto_if 75 with fail
              go_cut [9] (fun s9 wx => ∃ (nm : ByteArray) (q6 : Nat), s9 = .string nm ∧ nm.size ≤ 5000 ∧ q6 ≤ q5 + 2 ∧ Hid (DP4 w R v0 (.slice a1 RT.length c1) LS RT w3.heap.size q6 wx))
              case first =>
                by_cases hj0 : 0 < (j : Int)
                · obtain ⟨gt, _, rfl, _⟩ := C2.out.tgt.atk (k := 0) (by have := HRT.out; omega)
                  go_wp2_with fail
                  have SQ : Hid (∀ V : World, (∀ j, j < w9.heap.size → j ≠ R → V.heap[j]? = w9.heap[j]?) → V.heap[w.heap.size + 1]? = some (.cells #[v0, (.slice (some ⟨gt, 0, none⟩) RT.length c1)] 26 (0, 0)) ∧ V.cell? ⟨w.heap.size + 1, 1, none⟩ = some (.slice (some ⟨gt, 0, none⟩) RT.length c1)) := fun V hV => by
                    have h1 := (hV (w.heap.size + 1) D9.out.C.lt (by omega)).trans D9.out.C.box
                    exact ⟨h1, by simp [World.cell?, h1]⟩
                  refine wp_region_N (fun V => V.heap[w.heap.size + 1]? = some (.cells #[v0, (.slice (some ⟨gt, 0, none⟩) RT.length c1)] 26 (0, 0)) ∧ V.cell? ⟨w.heap.size + 1, 1, none⟩ = some (.slice (some ⟨gt, 0, none⟩) RT.length c1)) 10 (by as_aux_lemma => kernel_rfl) ?_
                  have HS := hide (SQ.out w9.drew (fun j hj _ => rfl))
                  iterate 6
                    refine anyN_nx 0 (v := ?_) rfl rfl (by as_aux_lemma => kernel_rfl) (fun _ _ _ h => h) rfl ?_ HS.out ?_
                    rotate_left
                    · (intro wz hSw; obtain ⟨s0, s1⟩ := hSw; go_simp)
                      (try with_reducible rfl)
                    (try simp only [Act.put, nzL])
                  refine anyN_one (i := 6) rfl (by as_aux_lemma => kernel_rfl) (fun K hK => ?_)
                  go_simp
                  go_at_call 51
                  refine (pick_any R _ (RT.length : Int) _ (D9.out.rd.below (Below.refl _ _).drew (Nat.le_refl _)) (by omega) (by have := HRT.out; omega) (by omega)).mono ?_
                  rintro e w6 ⟨z6, rfl, h60, h61, hR6, hO6⟩
                  obtain ⟨k6, rfl⟩ : ∃ k6 : Nat, z6 = (k6 : Int) := ⟨z6.toNat, by omega⟩
                  have hk6 : k6 < RT.length := by omega
                  have O6' : Hid (Only R w9 w6) := (Only.of_below (Below.refl _ _).drew).trans hO6
                  have D6 := hide (D9.out.only O6'.out hR6)
                  clear hR6 hO6
                  have S6 := hide (SQ.out w6 (fun j hj hne => O6'.out.block j hj hne))
                  obtain ⟨gt', r6, hgt, hgl, hm6, hc0, hc1, hsl⟩ := D6.out.C.tgt.atk hk6
                  have SL6 := hide hsl
                  have M6 := hide hm6
                  clear hsl hm6
                  injection hgt with e1
                  injection e1 with e2
                  subst e2
                  refine hK.out _ _ (fun _ => S6.out) ?_
                  clear hK K HS
                  (try simp only [Act.put, nzL])
                  iterate 3
                    refine anyN_on 7 rfl rfl (by as_aux_lemma => kernel_rfl) (fun K hK => ?_)
                    go_simp
                    refine hK.out _ _ (fun _ => S6.out) ?_
                    clear hK K
                    (try simp only [Act.put, nzL])
                  refine anyN_one (i := 10) rfl (by as_aux_lemma => kernel_rfl) (fun K hK => ?_)
                  go_simp
                  refine hK.out _ _ (fun h => absurd rfl h) ?_
                  have hnm := (G2.out.t r6 M6.out).1
                  clear hK K SQ S6 SL6 M6
                  (try simp only [Act.put, nzL])
                  refine anyN_done (by as_aux_lemma => kernel_rfl) ?_ _
                  go_wp2
                  go_meet
                  exact ⟨r6.1.name, _, rfl, hnm, by omega, D6.out⟩
                · go_wp2
                  go_meet
                  exact ⟨⟨#[97]⟩, _, rfl, by decide, by omega, D9.out⟩
              case rest =>
              clear D9
              obtain ⟨nm, q6, rfl, hnm, hq6, D10⟩ := hcut
              go_wp2_with fail
              refine (l1Lit_any _ _).mono ?_
              rintro e wa ⟨rfl, hB⟩
              have Da := hide (D10.out.below hB)
              clear hB
              go_wp2_with fail
              refine (l1Op_any 12 _).mono ?_
              rintro e wb ⟨rfl, hB⟩
              have Db := hide (Da.out.below hB)
              clear hB Da
              go_wp2_with fail
              refine (l1Text_any R _ _ Db.out.rd (by omega)).mono ?_
              rintro e wd ⟨tc, rfl, htc, qc, hqc, hR, hO⟩
              have Dd := hide (Db.out.only hO hR)
              clear hO hR Db
              go_wp2_with fail
              refine (l1Lit_any tc _).mono ?_
              rintro e we ⟨rfl, hB⟩
              have De := hide (Dd.out.below hB)
              clear hB Dd
              go_wp2_with fail
              refine (l1Op_any 2 _).mono ?_
              rintro e wf ⟨rfl, hB⟩
              have Df := hide (De.out.below hB)
              clear hB De
              go_wp2_with fail
              refine (pick_any R _ 9 _ Df.out.rd (by omega) (by omega) (by omega)).mono ?_
              rintro e wg ⟨zf, rfl, hf0, hf1, hR, hO⟩
              have Dg := hide (Df.out.only hO hR)
              clear hO hR Df
              go_wp2_with fail
              refine (l1OpN_any 3 _ _).mono ?_
              rintro e wi ⟨rfl, hB⟩
              have Di := hide (Dg.out.below hB)
              clear hB Dg
              go_wp2_with fail
              refine (l1Op_any 15 _).mono ?_
              rintro e wh ⟨rfl, hB⟩
              have Dh := hide (Di.out.below hB)
              clear hB Di
              obtain ⟨gp, cp, mp, fp, hPP⟩ := Dh.out.P
              have kh := hPP.blk.c0
              have zh := hPP.blk.fz 0
              have lh := hPP.blk.lt
              have P10 := hide (hPP.six (fun r hr => Dh.out.C.tgt.ltg r hr) (by have := Dh.out.C.lt; omega) nm tc (1 + zf) hnm (by omega))
              have hzs : (wh.setCell ⟨w3.heap.size, 0, none⟩ (.slice (some ⟨wh.heap.size, 0, none⟩) 6 6)).heap.size = wh.heap.size := by simp
              have lo10 := hPP.lo
              have Ba := hide (((Below.refl w3.heap.size wh).setCell (p := ⟨w3.heap.size, 0, none⟩) (Nat.le_refl _) (.slice (some ⟨wh.heap.size, 0, none⟩) 6 6)).alloc (by rw [hzs]; omega) (.cells (sixC nm tc (1 + zf)) 176))
              have C10 := hide ((Dh.out.C.putP hPP.blk hPP.lo (.slice (some ⟨wh.heap.size, 0, none⟩) 6 6)).below ((Below.refl _ _).alloc (Nat.le_refl _) (.cells (sixC nm tc (1 + zf)) 176)))
              have R10 := hide (Dh.out.rd.low Ba.out (by omega))
              have O10 := hide (Dh.out.O.then (Ba.out.mono (by omega)))
              clear Ba hPP hzs
              go_wp2
              go_meet
              exact ⟨_, by omega, C10.out, ⟨_, _, _, _, P10.out⟩, R10.out, O10.out, hlow⟩
            · go_wp2
              go_meet
              exact ⟨_, by omega, D9.out⟩
          case rest =>
          clear D9
          obtain ⟨q8, hq8, D11⟩ := hcut
          go_wp2_with fail
          obtain ⟨gp, cp, mp, fp, hPP⟩ := D11.out.P
          have PP := hide hPP
          clear hPP
          have SQ : Hid (∀ V : World, (∀ j, j < wc.heap.size → some j ≠ (Value.slice a1 RT.length c1).ownBlock → V.heap[j]? = wc.heap[j]?) → V.heap[w.heap.size + 1]? = some (.cells #[v0, .slice a1 RT.length c1] 26 (0, 0)) ∧ V.cell? ⟨w.heap.size + 1, 1, none⟩ = some (.slice a1 RT.length c1) ∧ V.cell? ⟨w3.heap.size, 0, none⟩ = some (.slice (some ⟨gp, 0, none⟩) mp cp)) := fun V hV => by
            have h1 := (hV (w.heap.size + 1) D11.out.C.lt fun e => by have := (D11.out.C.tgt.own.lt _ e.symm).1; omega).trans D11.out.C.box
            have h2 : PB V w3.heap.size (.slice (some ⟨gp, 0, none⟩) mp cp) := (hV w3.heap.size PP.out.blk.lt fun e => by
              obtain ⟨cur, hcur⟩ := D11.out.C.tgt.type _ e.symm
              have h3 := PP.out.blk.symm.trans hcur
              cases h3).trans PP.out.blk
            exact ⟨h1, by simp [World.cell?, h1], h2.c0⟩
          refine wp_region_N (fun V => V.heap[w.heap.size + 1]? = some (.cells #[v0, .slice a1 RT.length c1] 26 (0, 0)) ∧ V.cell? ⟨w.heap.size + 1, 1, none⟩ = some (.slice a1 RT.length c1) ∧ V.cell? ⟨w3.heap.size, 0, none⟩ = some (.slice (some ⟨gp, 0, none⟩) mp cp)) 10 (by as_aux_lemma => kernel_rfl) ?_
          have HS := hide (SQ.out wc.drew (fun j hj _ => rfl))
          iterate 3
            refine anyN_nx 0 (v := ?_) rfl rfl (by as_aux_lemma => kernel_rfl) (fun _ _ _ h => h) rfl ?_ HS.out ?_
            rotate_left
            · (intro wz hSw; obtain ⟨s0, s1, s2⟩ := hSw; go_simp)
              (try with_reducible rfl)
            (try simp only [Act.put, nzL])
          refine anyN_nx 5 (v := ?_) rfl rfl (by as_aux_lemma => kernel_rfl) (fun _ _ _ h => h) rfl ?_ HS.out ?_
          rotate_left
          · (intro wz hSw; obtain ⟨s0, s1, s2⟩ := hSw; go_simp)
            (try with_reducible rfl)
          (try simp only [Act.put, nzL])
          refine anyN_one (i := 3) rfl (by as_aux_lemma => kernel_rfl) (fun K hK => ?_)
          go_simp
          go_at_call 126
          refine (l1Dec_small j (by omega) _).mono ?_
          rintro e wt ⟨rfl, hBt⟩
          have BT : Hid (Below wc.heap.size wc wt) := (Below.refl wc.heap.size wc).drew.trans hBt
          clear hBt
          refine hK.out _ _ (fun _ => SQ.out _ (fun j hj _ => BT.out.block j hj)) ?_
          clear hK K HS
          (try simp only [Act.put, nzL])
          refine anyN_one (i := 4) rfl (by as_aux_lemma => kernel_rfl) (fun K hK => ?_)
          go_simp
          refine hK.out _ _ (fun _ => SQ.out _ (fun j hj _ => BT.out.block j hj)) ?_
          clear hK K
          (try simp only [Act.put, nzL])
          have htn : ((⟨#[116]⟩ : ByteArray) ++ ⟨#[dig j]⟩).size ≤ 5000 := by
            have e1 : (⟨#[116]⟩ : ByteArray).size = 1 := rfl
            have e2 : (⟨#[dig j]⟩ : ByteArray).size = 1 := rfl
            simp only [ByteArray.size_append, e1, e2]
            omega
          generalize (⟨#[116]⟩ : ByteArray) ++ ⟨#[dig j]⟩ = tn at htn ⊢
          refine anyN_one (i := 6) rfl (by as_aux_lemma => kernel_rfl) (fun K hK => ?_)
          go_simp
          refine hK.out _ _ (fun _ => SQ.out _ (fun j hj _ => BT.out.block j hj)) ?_
          clear hK K
          (try simp only [Act.put, nzL])
          refine anyN_one (i := 7) rfl (by as_aux_lemma => kernel_rfl) (fun K hK => ?_)
          go_simp
          have hbx := D11.out.C.lt
          have hzt := BT.out.size
          have AB := hide (BT.out.alloc (by omega) (.cells #[.string tn, .slice (some ⟨gp, 0, none⟩) mp cp] 104))
          have C11 := hide (D11.out.C.below AB.out)
          have P11 := hide (PP.out.below AB.out (Nat.le_refl _))
          have hz6 := AB.out.size
          refine hK.out _ _ (fun _ => SQ.out _ (fun j hj _ => AB.out.block j hj)) ?_
          clear hK K
          (try simp only [Act.put, nzL])
          refine anyN_one (i := 8) rfl (by as_aux_lemma => kernel_rfl) (fun K hK => ?_)
          refine step_append_own_at rfl (.tmp 101) (.tmp 107) 24 rfl (w.heap.size + 2) 104 i1' (.agg #[.string ⟨#[]⟩, .slice none 0 0]) 2 40 Tryz.underlying24 hj hz0 hz1 hz2 rfl (by decide) (.slice a1 RT.length c1) RT.length (RT.flatMap tgtV) (by simp [Act.eval]) C11.out.tgt.own ⟨wt.heap.size, 0, none⟩ 1 1 (tgtV (⟨tn, mp, fp⟩, gp, cp)) (by simp [Act.eval]) rfl (fun j u hu => two_new wt _ _ _ j u hu) (by simp [tgtV, Value.oneCell']) (by unfold maxLen; omega) (by omega) (by omega) ?_
          intro v' w7 hown hgrow _
          obtain ⟨a7, c7, rfl⟩ := own_slice hown
          have S7 := hide (SQ.out w7 (fun j hj hne => (hgrow.block j (Nat.lt_of_lt_of_le hj AB.out.size) hne).trans (AB.out.block j hj)))
          obtain ⟨c8, b8⟩ := C11.out.addT (x := ⟨tn, mp, fp⟩) (g := gp) (c := cp) P11.out.new P11.out.own hown hgrow
          have C12 := hide c8
          have B12 := hide b8
          clear hown hgrow c8 b8
          refine hK.out _ _ (fun _ => S7.out) ?_
          clear hK K
          (try simp only [Act.put, nzL])
          refine anyN_one (i := 9) rfl (by as_aux_lemma => kernel_rfl) (fun K hK => ?_)
          go_simp
          refine hK.out _ _ (fun _ => S7.out) ?_
          clear hK K
          (try simp only [Act.put, nzL])
          obtain ⟨s7, t7, y7⟩ := S7.out
          have f7 : w7.frozen? ⟨w.heap.size + 1, 1, none⟩ = false := by simp [World.frozen?, s7]
          have l7 := heap_in s7
          clear s7 y7
          refine anyN_one (i := 10) rfl (by as_aux_lemma => kernel_rfl) (fun K hK => ?_)
          go_simp
          refine hK.out _ _ (fun h => absurd rfl h) ?_
          clear hK K
          (try simp only [Act.put, nzL])
          refine anyN_done (by as_aux_lemma => kernel_rfl) ?_ _
          go_wp2
          have BB := hide ((AB.out.mono (show w.heap.size + 1 ≤ wc.heap.size by omega)).trans B12.out)
          go_roundg (n - j)
          case measure => omega
          case rel => exact ⟨j + 1, q8, .slice a7 (RT.length + 1) c7, RT ++ [((⟨tn, mp, fp⟩, gp, cp) : TR)], by omega, by omega, by rw [List.length_append, HRT.out]; rfl, by go_num, C12.out, G2.out.addT (r := (⟨tn, mp, fp⟩, gp, cp)) htn PP.out.num PP.out.sz, D11.out.rd.low BB.out (by omega), D11.out.O.then (BB.out.mono (Nat.le_succ _))⟩
        · obtain rfl : j = n + 1 := by omega
          obtain ⟨a0, c0, rfl⟩ := own_slice C2.out.src
          obtain ⟨k0, k1⟩ := C2.out.cells
          have kr := C2.out.res
          have r0 : wr.cell? ⟨w.heap.size, 0, none⟩ = some (.slice none 0 0) := by simp [World.cell?, kr]
          have r1 : wr.cell? ⟨w.heap.size, 1, none⟩ = some (.slice none 0 0) := by simp [World.cell?, kr]
          have f0 : wr.frozen? ⟨w.heap.size, 0, none⟩ = false := by simp [World.frozen?, kr]
          have f1 : wr.frozen? ⟨w.heap.size, 1, none⟩ = false := by simp [World.frozen?, kr]
          have l0 := heap_in kr
          have l1 := C2.out.lt
          clear kr
          have BE := hide (((Below.refl w.heap.size wr).setCell (p := ⟨w.heap.size, 0, none⟩) (Nat.le_refl _) (.slice a0 LS.length c0)).setCell (p := ⟨w.heap.size, 1, none⟩) (Nat.le_refl _) (.slice a1 RT.length c1))
          have OE := hide (own_set (own_set C2.out.src (R := w.heap.size) (j := 0) (by omega) (.slice a0 LS.length c0)) (R := w.heap.size) (j := 1) (by omega) (.slice a1 RT.length c1))
          have TE := hide ((C2.out.tgt.set (X := w.heap.size) (j := 0) (by omega) (.slice a0 LS.length c0)).set (X := w.heap.size) (j := 1) (by omega) (.slice a1 RT.length c1))
          have HRT : Hid (RT.length = n + 1) := hrt
          clear hrt
          go_wp2
          exact bodyPost_ret (v := .agg #[.slice a0 LS.length c0, .slice a1 RT.length c1]) (by simp [results, Tryz.results124, go_sem, r0, r1]) rfl ⟨LS, RT, _, _, rfl, OE.out, TE.out, G2.out, by omega, by have := HRT.out; omega, q2, by omega, R2.out.low BE.out hlow, O2.out.then BE.out⟩
end Go.Proofs.YtkophfgkcijjkaaGreatDoor.Vp
