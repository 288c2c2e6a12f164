/-
  ParseProgram, spec.
-/
import Derived.Test.YtpefignfaooonaaGreatDoorZPaSpecR
import Derived.Test.YtpefignfaooonaaGreatDoorZPaImplQ
namespace Go.Proofs.YtpefignfaooonaaGreatDoor.Vp
open Go.RowKit

theorem parsed_err {S : List UInt8} {k : Int} (hS : S ≠ []) (h : pgm 0 (linesL S) = (2, k, [])) : parsed S = (2, k, []) := by
  unfold parsed
  rw [if_neg hS, h, if_neg (by simp)]
theorem parsed_many {S : List UInt8} {L : List I3} (hS : S ≠ []) (h : pgm 0 (linesL S) = (0, 0, L)) (hl : 200 < L.length) : parsed S = (3, 0, []) := by
  unfold parsed
  rw [if_neg hS, h, if_pos rfl, if_pos hl]
theorem parsed_ok {S : List UInt8} {L : List I3} (hS : S ≠ []) (h : pgm 0 (linesL S) = (0, 0, L)) (hl : ¬ 200 < L.length) : parsed S = (0, 0, L) := by
  unfold parsed
  rw [if_neg hS, h, if_pos rfl, if_neg hl]
theorem lines_short : ∀ (S : List UInt8) (l : List UInt8), l ∈ linesL S → l.length ≤ S.length
  | [], l, h => by simp [linesL] at h; simp [h]
  | c :: r, l, h => by
    have ih := lines_short r
    rw [linesL] at h
    split at h
    · rcases List.mem_cons.1 h with h | h
      · simp [h]
      · have := ih l h
        simp only [List.length_cons]
        omega
    · split at h
      · rename_i x xs hx
        rcases List.mem_cons.1 h with h | h
        · have := ih x (by rw [hx]; simp)
          rw [h]
          simp only [List.length_cons]
          omega
        · have := ih l (by rw [hx]; simp [h])
          simp only [List.length_cons]
          omega
      · rename_i hx
        exact absurd hx (linesL_ne r)
/-- What spec.ParseProgram and impl.ParseProgram answer. -/
def PqPost (S : List UInt8) (B : Nat) (e : Ending) (w' : World) : Prop := ∃ v, e = .returned (.tuple #[.agg #[v], .agg #[.int .i64 (parsed S).1, .int .i64 (parsed S).2.1]]) ∧ w'.ownsRow B 41 3 v (parsed S).2.2.length (i3L (parsed S).2.2)
theorem PqPost.err {S : List UInt8} {B : Nat} {w' : World} {c k : Int} (h : parsed S = (c, k, [])) : PqPost S B (.returned (.tuple #[.agg #[.slice none 0 0], .agg #[.int .i64 c, .int .i64 k]])) w' := by
  unfold PqPost
  rw [h]
  exact ⟨_, rfl, World.ownsRow_nil _ _ _ _⟩
theorem PqPost.ok {S : List UInt8} {B : Nat} {w' : World} {v : Value} {L : List I3} (h : parsed S = (0, 0, L)) (ho : w'.ownsRow B 41 3 v L.length (i3L L)) : PqPost S B (.returned (.tuple #[.agg #[v], .agg #[.int .i64 0, .int .i64 0]])) w' := by
  unfold PqPost
  rw [h]
  exact ⟨_, rfl, ho⟩
theorem own_strV {w : World} {base g cap : Nat} {L : List (List UInt8)} (h : w.ownsRow base 9 1 (.slice (some ⟨g, 0, none⟩) L.length cap) L.length (strV L)) : g < w.heap.size ∧ ∀ j (hj : j < L.length), w.cell? ⟨g, j, none⟩ = some (.string ⟨L[j].toArray⟩) := by
  rcases h.2 with ⟨hv, h0⟩ | ⟨g', cap', cur, hv, hb, hg, hc1, hc2, hc3, hc4⟩
  · simp at hv
  · simp only [Value.slice.injEq, Option.some.injEq, Addr.mk.injEq] at hv
    obtain ⟨⟨rfl, -⟩, -, rfl⟩ := hv
    refine ⟨(Array.getElem?_eq_some_iff.1 hg).1, fun j hj => ?_⟩
    have e1 : w.cell? ⟨g, j, none⟩ = cur[j]? := by simp [World.cell?, hg]
    have e2 : (cur.toList.take (L.length * 1))[j]? = (strV L)[j]? := by rw [hc4]
    rw [List.getElem?_take, if_pos (by omega), Array.getElem?_toList] at e2
    rw [e1, e2]
    simp [strV, hj]

set_option maxRecDepth 100000 in
set_option maxHeartbeats 1000000 in
theorem specParse_nil (w : World) :
    Calls Tryz.prog 5 #[.string ⟨#[]⟩] w fun e w' => PqPost [] w.heap.size e w' ∧ Below w.heap.size w w' := by
  have HR : Hid (parsed [] = (1, 0, [])) := by show _ = _; unfold parsed; rw [if_pos rfl]
  have A0 := hide ((Below.refl w.heap.size w).alloc (Nat.le_refl _) (.cells #[.slice none 0 0] 24))
  have A1 := hide (A0.out.alloc A0.out.size (.cells #[.int .i64 0, .int .i64 0] 26))
  have R1 := hide (two_new w).1
  have F1 := hide (two_new w).2
  go_enter Tryz.func5, Tryz.ntmps5
  go_upto_region 1 with fail
  generalize (w.alloc (.cells #[.slice none 0 0] 24)).alloc (.cells #[.int .i64 0, .int .i64 0] 26) = W1 at A1 R1 F1 ⊢
  have z1 : w.heap.size + 1 < W1.heap.size := F1.out.lt
  have d0 := R1.out.c0
  have d1 := R1.out.fz 0
  have f0 := F1.out.c0
  have f1 := F1.out.c1
  have g0 := F1.out.fz 0
  have g1 := F1.out.fz 1
  go_wp2
  try simp only [Exit.inBlock, Exit.then]
  refine bodyPost_ret (res_two rfl _ _ w.heap.size (w.heap.size + 1) _ _ _ rfl rfl ((((R1.out.set _).other _ (by show w.heap.size + 1 ≠ _; omega) _)).other _ (by show w.heap.size + 1 ≠ _; omega) _) ((F1.out.other _ (by show w.heap.size ≠ _; omega) _).all _ _)) rfl ?_
  exact ⟨PqPost.err HR.out, ((A1.out.setCell (p := ⟨w.heap.size, 0, none⟩) (Nat.le_refl _) _).setCell (p := ⟨w.heap.size + 1, 0, none⟩) (by show w.heap.size ≤ w.heap.size + 1; omega) _).setCell (p := ⟨w.heap.size + 1, 1, none⟩) (by show w.heap.size ≤ w.heap.size + 1; omega) _⟩

set_option maxRecDepth 100000 in
set_option maxHeartbeats 4000000 in
theorem specParse_go (src : ByteArray) (w : World) (hs : src.size ≤ 1048576) (hne : src.data.toList ≠ []) :
    Calls Tryz.prog 5 #[.string src] w fun e w' => PqPost src.data.toList w.heap.size e w' ∧ Below w.heap.size w w' := by
  obtain ⟨i0, hi, hy0, hy1, hy2⟩ := infoInsP
  have A0 := hide ((Below.refl w.heap.size w).alloc (Nat.le_refl _) (.cells #[.slice none 0 0] 24))
  have A1 := hide (A0.out.alloc A0.out.size (.cells #[.int .i64 0, .int .i64 0] 26))
  have R1 := hide (two_new w).1
  have F1 := hide (two_new w).2
  have hz : src.toList.isEmpty = false := by rw [ByteArray.toList_eq]; simpa using hne
  have hsz : ¬ 1500000 < (src.size : Int) := by omega
  have CUT := fun V => l1Cut_any src V (by omega)
  have HLS := hide (fun l (hl : l ∈ linesL src.data.toList) => lines_short src.data.toList l hl)
  rw [size_toL] at HLS
  have HP0 : Hid (pgm 0 (linesL src.data.toList) = comb [] (pgm 0 (linesL src.data.toList))) := (comb_nil _ _).symm
  have HPE := hide (fun k h => parsed_err (k := k) hne h)
  have HPM := hide (fun L h hl => parsed_many (L := L) hne h hl)
  have HPO := hide (fun L h hl => parsed_ok (L := L) hne h hl)
  have hpos : 0 < (linesL src.data.toList).length := List.length_pos_iff.2 (linesL_ne _)
  clear hne
  generalize linesL src.data.toList = LS at CUT HLS HP0 HPE HPM HPO hpos
  obtain ⟨N, hN⟩ : ∃ N, N = LS.length := ⟨_, rfl⟩
  rw [← hN] at CUT hpos
  go_enter Tryz.func5, Tryz.ntmps5
  go_wp2_with fail
  generalize (w.alloc (.cells #[.slice none 0 0] 24)).alloc (.cells #[.int .i64 0, .int .i64 0] 26) = W1 at A1 R1 F1 ⊢
  have z1 : w.heap.size + 1 < W1.heap.size := F1.out.lt
  refine (CUT W1).mono ?_
  rintro e W2 ⟨g, cap, rfl, ho, hNs, hB2⟩
  rw [hN] at ho
  obtain ⟨hg, hcell⟩ := own_strV ho
  have HCL := hide hcell
  have R2 := hide (R1.out.below hB2 (by omega))
  have F2 := hide (F1.out.below hB2 z1)
  have B2 := hide (A1.out.trans (hB2.mono (by omega)))
  have z2 : w.heap.size + 1 < W2.heap.size := F2.out.lt
  have HN := hide hN
  clear hB2 ho hcell A0 A1 R1 F1 CUT hN
  have P3 : Hid (PB (W2.alloc (.cells #[.slice none 0 0] 24)) W2.heap.size (.slice none 0 0)) := heap_alloc_new W2 _
  have B3 := hide ((Below.refl W2.heap.size W2).alloc (Nat.le_refl _) (.cells #[.slice none 0 0] 24))
  go_wp2
  generalize W2.alloc (.cells #[.slice none 0 0] 24) = W3 at P3 B3 ⊢
  go_loopw [6] (fun i wr => ∃ (k : Nat) (L : List I3) (a : Option Addr) (c : Nat), i = .int .i64 k ∧ k + 1 ≤ N ∧ Hid (k = L.length) ∧ Hid (pgm 0 LS = comb L (pgm k (LS.drop k))) ∧ Hid (PB wr W2.heap.size (.slice a k c)) ∧ Hid (wr.ownsRow (W2.heap.size + 1) 41 3 (.slice a k c) k (i3L L)) ∧ Hid (Below W2.heap.size W2 wr)) (fun i _ => N - (intOf i).toNat)
  case atStart => exact ⟨0, [], none, 0, rfl, by omega, rfl, HP0.out, P3.out, World.ownsRow_nil _ _ _ _, B3.out⟩
  case round =>
    clear P3 B3 HP0
    obtain ⟨k, L, a, c, rfl, hkN, HK, HP, HPB, HO, HB⟩ := hrel
    have hkl : k < LS.length := by rw [← HN.out]; omega
    have zr : W2.heap.size < wr.heap.size := HPB.out.lt
    have lc : wr.cell? ⟨g, k, none⟩ = some (.string ⟨(LS[k]).toArray⟩) := (HB.out.cell (p := ⟨g, k, none⟩) hg).trans (HCL.out k hkl)
    have hgr : g < wr.heap.size := by omega
    have hll := HLS.out LS[k] (List.getElem_mem hkl)
    have HDR := hide (List.drop_eq_getElem_cons hkl)
    generalize LS[k] = ln at lc hll HDR
    have R4 := hide (R2.out.below HB.out (by omega))
    have F4 := hide (F2.out.below HB.out (by omega))
    have B4 := hide (B2.out.trans (HB.out.mono (by omega)))
    by_cases hlt : k + 1 < N
    · have i1 : (k : Int) + 1 < N := by omega
      have ik : (k : Int) < N := by omega
      have hne2 : LS.drop (k + 1) ≠ [] := by
        intro h
        have := congrArg List.length h
        rw [List.length_drop, ← HN.out] at this
        simp at this
        omega
      have HNE := hide hne2
      clear hne2
      have RD := hide (l1Read_any ⟨ln.toArray⟩ wr (by show ln.length ≤ _; omega))
      go_wp2_with fail
      refine RD.out.mono ?_
      rintro e w5 ⟨rfl, hB5⟩
      have z5 : W2.heap.size < w5.heap.size := Nat.lt_of_lt_of_le zr hB5.size
      clear lc
      cases hr : readL ln with
      | none =>
        have HQ := hide (HPE.out (k : Int) (by rw [HP.out, HDR.out]; exact comb_err hr HNE.out))
        have X6 := hB5.alloc hB5.size (.cells #[.int .i64 0, .string ⟨#[]⟩, .int .i64 0] 41)
        have R6 := hide (R4.out.below X6 (by omega))
        have F6 := hide (F4.out.below X6 (by omega))
        have B6 := hide (B4.out.trans (X6.mono (by omega)))
        clear X6 hB5 hr
        simp only [readV]
        go_upto_region 9 with fail
        generalize w5.alloc (.cells #[.int .i64 0, .string ⟨#[]⟩, .int .i64 0] 41) = W6 at R6 F6 B6 ⊢
        have z6 : w.heap.size + 1 < W6.heap.size := F6.out.lt
        have d0 := R6.out.c0
        have d1 := R6.out.fz 0
        have f0 := F6.out.c0
        have f1 := F6.out.c1
        have g0 := F6.out.fz 0
        have g1 := F6.out.fz 1
        go_wp2
        try simp only [Exit.inBlock, Exit.then]
        refine bodyPost_ret (res_two rfl _ _ w.heap.size (w.heap.size + 1) _ _ _ rfl rfl ((((R6.out.set _).other _ (by show w.heap.size + 1 ≠ _; omega) _)).other _ (by show w.heap.size + 1 ≠ _; omega) _) ((F6.out.other _ (by show w.heap.size ≠ _; omega) _).all _ _)) rfl ?_
        exact ⟨PqPost.err HQ.out, ((B6.out.setCell (p := ⟨w.heap.size, 0, none⟩) (Nat.le_refl _) _).setCell (p := ⟨w.heap.size + 1, 0, none⟩) (by show w.heap.size ≤ w.heap.size + 1; omega) _).setCell (p := ⟨w.heap.size + 1, 1, none⟩) (by show w.heap.size ≤ w.heap.size + 1; omega) _⟩
      | some i =>
        have HQ : Hid (pgm 0 LS = comb (L ++ [i]) (pgm (k + 1) (LS.drop (k + 1)))) := by show _ = _; rw [HP.out, HDR.out]; exact comb_step hr HNE.out
        have X6 := hB5.alloc hB5.size (.cells #[.int .i64 i.1, .string ⟨i.2.1.toArray⟩, .int .i64 i.2.2] 41)
        have P6 := hide (HPB.out.below X6 zr)
        have O6 := hide (own_below HO.out X6 (Nat.le_refl _))
        have HB6 := hide (HB.out.trans (X6.mono (by omega)))
        have I6 := hide (CI.new w5 (.int .i64 i.1) (.string ⟨i.2.1.toArray⟩) (.int .i64 i.2.2))
        clear X6 hB5 hr HPB HO HB R4 F4 B4 HDR HP
        simp only [readV]
        go_upto_region 9 with fail
        generalize w5.alloc (.cells #[.int .i64 i.1, .string ⟨i.2.1.toArray⟩, .int .i64 i.2.2] 41) = W6 at P6 O6 HB6 I6 ⊢
        have z6 : W2.heap.size < W6.heap.size := P6.out.lt
        have z6' : w5.heap.size < W6.heap.size := I6.out.lt
        have p0 := P6.out.c0
        have c0 := I6.out.c0
        have c1 := I6.out.c1
        have c2 := I6.out.c2
        go_wp2_with (at_builtin; refine wpList_append_own _ rfl (.tmp 42) (.tmp 44) 22 rfl (W2.heap.size + 1) 41 i0 (.agg #[.int .i64 0, .string ⟨#[]⟩, .int .i64 0]) 3 32 Tryz.underlying22 hi hy0 hy1 hy2 rfl (by decide) (.slice a k c) k (i3L L) (by simp [Act.eval]) (O6.out.alloc _) ⟨W6.heap.size, 0, none⟩ 1 1 [.int .i64 i.1, .string ⟨i.2.1.toArray⟩, .int .i64 i.2.2] (by simp [Act.eval]) rfl (three_newP W6 _ _ _ _) (by simp [Value.oneCell']) (by unfold maxLen; omega) (by omega) (by simp; omega) ?_)
        intro v' w7 hown hgrow hnil
        obtain ⟨a', cap', rfl⟩ := own_slP hown
        have O7 := hide hown
        have G7 := hide hgrow
        have P7 : Hid (PB w7 W2.heap.size (.slice a k c)) := (hgrow.block W2.heap.size (by simp; omega) (fun e => by have := (O6.out.lt _ e.symm).1; omega)).trans ((heap_alloc_old _ _ z6).trans P6.out)
        have p5 := P7.out.c0
        have f5 := P7.out.fz 0
        clear hown hgrow hnil p0 c0 c1 c2
        have hz7 : W6.heap.size + 1 ≤ w7.heap.size := by have := G7.out.size; simpa using this
        have BG := Below.grown ((Below.refl (W2.heap.size + 1) W6).alloc (by omega) (.cells #[.int .i64 i.1, .string ⟨i.2.1.toArray⟩, .int .i64 i.2.2] 41)) G7.out (by simp; omega) (fun j e => (O6.out.lt j e).1)
        have BX := (BG.mono (show W2.heap.size ≤ W2.heap.size + 1 by omega)).setCell (p := ⟨W2.heap.size, 0, none⟩) (Nat.le_refl _) (.slice a' (k + 1) cap')
        have HB8 := hide (HB6.out.trans BX)
        have P8 := hide (P7.out.set (.slice a' (k + 1) cap'))
        have O8 := hide (own_setP (R := W2.heap.size) (j := 0) O7.out (by omega) (.slice a' (k + 1) cap'))
        have HK8 : Hid (k + 1 = (L ++ [i]).length) := by show _ = _; rw [List.length_append, ← HK.out]; rfl
        have HO8 : Hid (i3L (L ++ [i]) = i3L L ++ [.int .i64 i.1, .string ⟨i.2.1.toArray⟩, .int .i64 i.2.2]) := by show _ = _; rw [i3L_snoc]; rfl
        clear BG BX G7 O6 HB6 P6 I6
        go_wp2
        exact ⟨⟨k + 1, L ++ [i], a', cap', by go_num, by omega, HK8.out, HQ.out, P8.out, by show World.ownsRow _ _ _ _ _ _ _; rw [HO8.out]; exact O8.out, HB8.out⟩, by simp [intOf]; omega⟩
    · obtain rfl : N = k + 1 := by omega
      have HD1 : Hid (LS.drop k = [ln]) := by
        show _ = _
        rw [HDR.out]
        congr 1
        rw [List.drop_eq_nil_iff, ← HN.out]
        omega
      have i1 : ¬ (k : Int) + 1 < ((k + 1 : Nat) : Int) := by omega
      have ik : (k : Int) < ((k + 1 : Nat) : Int) := by omega
      clear HDR
      obtain ⟨RL, hRL⟩ : ∃ RL : ByteArray, RL = ⟨ln.toArray⟩ := ⟨_, rfl⟩
      rw [← hRL] at lc
      have hem : RL.toList.isEmpty = ln.isEmpty := by rw [hRL, strEmpty]
      clear hRL
      have z4 : w.heap.size + 1 < wr.heap.size := F4.out.lt
      have d0 := R4.out.c0
      have d1 := R4.out.fz 0
      have f0 := F4.out.c0
      have f1 := F4.out.c1
      have g0 := F4.out.fz 0
      have g1 := F4.out.fz 1
      cases ln with
      | cons x xs =>
        have HQ := hide (HPE.out (k : Int) (by rw [HP.out, HD1.out]; exact comb_open (by simp)))
        have hem : RL.toList.isEmpty = false := by rw [hem]; rfl
        go_wp2
        try simp only [Exit.inBlock, Exit.then]
        refine bodyPost_ret (res_two rfl _ _ w.heap.size (w.heap.size + 1) _ _ _ rfl rfl ((((R4.out.set _).other _ (by show w.heap.size + 1 ≠ _; omega) _)).other _ (by show w.heap.size + 1 ≠ _; omega) _) ((F4.out.other _ (by show w.heap.size ≠ _; omega) _).all _ _)) rfl ?_
        exact ⟨PqPost.err HQ.out, ((B4.out.setCell (p := ⟨w.heap.size, 0, none⟩) (Nat.le_refl _) _).setCell (p := ⟨w.heap.size + 1, 0, none⟩) (by show w.heap.size ≤ w.heap.size + 1; omega) _).setCell (p := ⟨w.heap.size + 1, 1, none⟩) (by show w.heap.size ≤ w.heap.size + 1; omega) _⟩
      | nil =>
        have HQ0 : Hid (pgm 0 LS = (0, 0, L)) := by show _ = _; rw [HP.out, HD1.out]; exact comb_end L k
        have hem : RL.toList.isEmpty = true := by rw [hem]; rfl
        have p0 := HPB.out.c0
        by_cases h2 : 200 < k
        · have i2 : 200 < (k : Int) := by omega
          have HQ := hide (HPM.out L HQ0.out (by rw [← HK.out]; exact h2))
          go_wp2
          try simp only [Exit.inBlock, Exit.then]
          refine bodyPost_ret (res_two rfl _ _ w.heap.size (w.heap.size + 1) _ _ _ rfl rfl ((((R4.out.set _).other _ (by show w.heap.size + 1 ≠ _; omega) _)).other _ (by show w.heap.size + 1 ≠ _; omega) _) ((F4.out.other _ (by show w.heap.size ≠ _; omega) _).all _ _)) rfl ?_
          exact ⟨PqPost.err HQ.out, ((B4.out.setCell (p := ⟨w.heap.size, 0, none⟩) (Nat.le_refl _) _).setCell (p := ⟨w.heap.size + 1, 0, none⟩) (by show w.heap.size ≤ w.heap.size + 1; omega) _).setCell (p := ⟨w.heap.size + 1, 1, none⟩) (by show w.heap.size ≤ w.heap.size + 1; omega) _⟩
        · have i2 : ¬ 200 < (k : Int) := by omega
          have HQ := hide (HPO.out L HQ0.out (by rw [← HK.out]; exact h2))
          have O9 := hide (own_mono HO.out (show w.heap.size + 2 ≤ W2.heap.size + 1 by omega))
          go_wp2
          try simp only [Exit.inBlock, Exit.then]
          refine bodyPost_ret (res_two rfl _ _ w.heap.size (w.heap.size + 1) _ _ _ rfl rfl ((((R4.out.set _).other _ (by show w.heap.size + 1 ≠ _; omega) _)).other _ (by show w.heap.size + 1 ≠ _; omega) _) ((F4.out.other _ (by show w.heap.size ≠ _; omega) _).all _ _)) rfl ?_
          exact ⟨PqPost.ok HQ.out (by rw [← HK.out]; exact own_mono (own_setP (own_setP (own_setP O9.out (by omega) _) (by omega) _) (by omega) _) (by omega)), ((B4.out.setCell (p := ⟨w.heap.size, 0, none⟩) (Nat.le_refl _) _).setCell (p := ⟨w.heap.size + 1, 0, none⟩) (by show w.heap.size ≤ w.heap.size + 1; omega) _).setCell (p := ⟨w.heap.size + 1, 1, none⟩) (by show w.heap.size ≤ w.heap.size + 1; omega) _⟩

theorem specParse_any (src : ByteArray) (w : World) (hs : src.size ≤ 1048576) :
    Calls Tryz.prog 5 #[.string src] w fun e w' => PqPost src.data.toList w.heap.size e w' ∧ Below w.heap.size w w' := by
  by_cases hS : src.data.toList = []
  · have hsrc : src = ⟨#[]⟩ := by
      refine ByteArray.ext (Array.ext' ?_)
      rw [hS]
    rw [hS]
    subst hsrc
    exact specParse_nil w
  · exact specParse_go src w hs hS

end Go.Proofs.YtpefignfaooonaaGreatDoor.Vp
