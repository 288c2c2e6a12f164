/-
  FnProgram: the law.
-/
import Derived.Test.YtpefignfaooonaaGreatDoorZFpDraws
import Derived.Test.YtpefignfaooonaaGreatDoorZFpW
import Derived.Test.YtpefignfaooonaaGreatDoorZPpImpl
import Derived.Test.YtpefignfaooonaaGreatDoorZPaImplQ
namespace Go.Proofs.YtpefignfaooonaaGreatDoor.Vp
open Go.RowKit

theorem parsed_nil : parsed [] = (1, 0, []) := by simp [parsed]
theorem linesB_ne {L : List I3} (h : L ≠ []) : linesB L ≠ [] := by
  obtain ⟨i, M, rfl⟩ := List.exists_cons_of_ne_nil h
  simp [linesB]
theorem parsed_lines {L : List I3} (hL : AllOk L) (hne : L ≠ []) (h : L.length ≤ 200) : parsed (linesB L) = (0, 0, L) := by
  unfold parsed
  rw [if_neg (linesB_ne hne), round_trip L hL, if_pos rfl, if_neg (by show ¬ 200 < L.length; omega)]
theorem parsed_cut {L : List I3} {i : I3} (hL : AllOk (L ++ [i])) : (parsed (linesB L ++ lineB i.1 i.2.1 i.2.2)).1 = 2 := by
  unfold parsed
  have hi := hL i (by simp)
  rw [if_neg (by simp [line_ne hi]), cut_short L i hL, if_neg (by show ¬ (2 : Int) = 0; omega)]
theorem linesB_two {L : List I3} (hL : AllOk L) (hne : L ≠ []) : 2 ≤ (linesB L).length := by
  obtain ⟨i, M, rfl⟩ := List.exists_cons_of_ne_nil hne
  have h := List.length_pos_iff.2 (line_ne (hL i (by simp)))
  simp only [linesB, List.flatMap_cons, List.length_append, List.length_cons]
  omega
theorem cut_code {L : List I3} (hL : AllOk L) (hne : L ≠ []) : (parsed ((linesB L).take ((linesB L).length - 1))).1 = 2 := by
  have e := List.dropLast_concat_getLast hne
  rw [← e] at hL ⊢
  rw [linesB_snoc, List.length_append, List.length_singleton, Nat.add_sub_cancel, List.take_left']
  · exact parsed_cut hL
  · rfl

set_option maxRecDepth 100000 in
set_option maxHeartbeats 4000000 in
theorem law_big (a : Option Addr) (n cap : Nat) (w : World) (h : 1048576 < (n : Int)) :
    Calls Tryz.prog 4 #[.slice a n cap] w fun e w' => e = .returned (.bool true) ∧ Below w.heap.size w w' := by
  go_enter Tryz.func4, Tryz.ntmps4
  go_wp2
  go_ret
  exact ⟨rfl, Below.refl _ _⟩

/-- What stands while the law runs: the drawn program and its box, the tables. -/
structure FSt (w W : World) (b3 g c : Nat) (L : List I3) : Prop where
  K : Below w.heap.size w W
  p3 : PB W b3 (.slice (some ⟨g, 0, none⟩) L.length c)
  ir : IR W w.heap.size g c L
theorem FSt.below {w W W' : World} {b3 g c : Nat} {L : List I3} (s : FSt w W b3 g c L) (hb : Below W.heap.size W W') : FSt w W' b3 g c L :=
  ⟨s.K.trans (hb.mono s.K.size), s.p3.below hb s.p3.lt, s.ir.below hb (Nat.le_refl _)⟩

set_option maxRecDepth 100000 in
set_option maxHeartbeats 8000000 in
theorem law_in (a : Option Addr) (n cap : Nat) (ps pm : Addr) (w : World) (hn : (n : Int) ≤ 1048576) (hc : n ≤ cap) (hS : ByteSl w a n) (hL : LayP w) (hE : EM w ps pm) (hg : ET w) :
    Calls Tryz.prog 4 #[.slice a n cap] w fun e w' => e = .returned (.bool true) ∧ Below w.heap.size w w' := by
  have IM := hide (fun (src : ByteArray) (hs : src.size ≤ 1500000) V (hV : Below w.heap.size w V) => implParse_any src ps pm V hs (hL.below hV (Nat.le_refl _)) (hE.below hV (Nat.le_refl _)) (hg.below hV (Nat.le_refl _)))
  have LY := hide (fun V (hV : Below w.heap.size w V) => hL.below hV (Nat.le_refl _))
  have DV := hide (drawValid_any a n cap w hn hc hS)
  have h1 : ¬ 1048576 < (n : Int) := by omega
  clear hL hE hg hS hc
  go_enter Tryz.func4, Tryz.ntmps4
  go_wp2_with fail
  refine DV.out.mono ?_
  rintro e w1 ⟨L, g, c, rfl, hI, hlen, hT, hB1⟩
  have AL := (Below.refl w1.heap.size w1).alloc (Nat.le_refl _) (.cells #[.slice (some ⟨g, 0, none⟩) L.length c] 24)
  have S2 : Hid (FSt w (w1.alloc (.cells #[.slice (some ⟨g, 0, none⟩) L.length c] 24)) w1.heap.size g c L) := ⟨hB1.trans (AL.mono hB1.size), heap_alloc_new w1 _, hI.below AL (Nat.le_refl _)⟩
  have HT := hide hT
  clear AL hI hT hB1 DV
  go_upto_region 4 with fail
  generalize w1.alloc (.cells #[.slice (some ⟨g, 0, none⟩) L.length c] 24) = W2 at S2 ⊢
  have d3 := S2.out.p3.c0
  have l3 := S2.out.p3.lt
  go_wp2_with fail
  refine (implPrint_row g 0 L.length c (fI L) W2 (by omega) S2.out.ir.lt.2 S2.out.ir.at (LY.out W2 S2.out.K).tb (LY.out W2 S2.out.K).tw (LY.out W2 S2.out.K).pw).mono ?_
  rintro e w3 ⟨rfl, hB3⟩
  have S3 := hide (S2.out.below hB3)
  clear hB3 d3 l3 S2
  cases hv : valid (fI L) L.length with
  | false =>
    have hpr : printed (fI L) L.length = [] := by simp [printed, hv]
    rw [hpr]
    have VF := hide hv
    clear hpr hv
    go_wp2_with fail
    refine (IM.out ⟨#[]⟩ (by show 0 ≤ 1500000; omega) w3 S3.out.K).mono ?_
    rintro e w4 ⟨⟨v, rfl, ho⟩, hB4⟩
    rw [show (⟨#[]⟩ : ByteArray).data.toList = [] from rfl, parsed_nil] at ho ⊢
    obtain ⟨a4, c4, rfl⟩ := own_slP ho
    have X5 := (hB4.alloc hB4.size (.cells #[.slice a4 0 c4] 24)).alloc (by have := hB4.size; simp; omega) (.cells #[.int .i64 1, .int .i64 0] 26)
    have S5 := hide (S3.out.below X5)
    have F5 : Hid (FB ((w4.alloc (.cells #[.slice a4 0 c4] 24)).alloc (.cells #[.int .i64 1, .int .i64 0] 26)) (w4.heap.size + 1) (.int .i64 1) (.int .i64 0)) := heap_alloc2_new w4 _ _
    clear X5 ho hB4 S3
    go_upto_region 6 with fail
    generalize (w4.alloc (.cells #[.slice a4 0 c4] 24)).alloc (.cells #[.int .i64 1, .int .i64 0] 26) = W5 at S5 F5 ⊢
    have d3 := S5.out.p3.c0
    have l3 := S5.out.p3.lt
    go_wp2_with fail
    refine (specValid_row g 0 L.length c (fI L) W5 (by omega) S5.out.ir.lt.2 S5.out.ir.at (fI_size HT.out)).mono ?_
    rintro e w6 ⟨rfl, hB6⟩
    rw [VF.out]
    have S6 := hide (S5.out.below hB6)
    have F6 := hide (F5.out.below hB6 F5.out.lt)
    clear hB6 d3 l3 S5 F5
    have d3 := S6.out.p3.c0
    have l3 := S6.out.p3.lt
    go_wp2_with fail
    refine (implValid_any g 0 L.length c (fI L) w6 (by omega) S6.out.ir.lt.2 S6.out.ir.at (LY.out w6 S6.out.K).tb).mono ?_
    rintro e w7 ⟨rfl, hB7⟩
    rw [VF.out]
    have S7 := hide (S6.out.below hB7)
    have F7 := hide (F6.out.below hB7 F6.out.lt)
    clear hB7 d3 l3 S6 F6
    have e0 := F7.out.c0
    have e1 := F7.out.c1
    have el := F7.out.lt
    have eq := eqlFault 1 0 1 0
    go_wp2
    go_ret
    exact ⟨rfl, S7.out.K⟩
  | true =>
    obtain ⟨ok, v1, v2⟩ := valid_parts hv
    have hok := allOk_of ok
    have hpr : printed (fI L) L.length = linesB L := by rw [printed, if_pos hv, progTo_all]
    have hps := progTo_le ok L.length (Nat.le_refl _)
    rw [progTo_all] at hps
    rw [hpr]
    have hne : L ≠ [] := List.length_pos_iff.1 (by omega)
    have h2 := linesB_two hok hne
    have PL := hide (parsed_lines hok hne (by omega))
    have PC := hide (cut_code hok hne)
    have VT := hide hv
    obtain ⟨s, hs⟩ : ∃ s : ByteArray, s = ⟨(linesB L).toArray⟩ := ⟨_, rfl⟩
    have HD : Hid (s.data.toList = linesB L) := by rw [hs]; exact rfl
    have hz : s.size = (linesB L).length := by rw [hs]; rfl
    rw [← hs]
    clear hpr hv ok hok hs
    have s2 : 2 ≤ s.size := by omega
    have s3 : s.size ≤ 1500000 := by omega
    go_wp2_with fail
    refine (IM.out s s3 w3 S3.out.K).mono ?_
    rintro e w4 ⟨⟨v, rfl, ho⟩, hB4⟩
    rw [HD.out, PL.out] at ho
    rw [HD.out, PL.out]
    obtain ⟨g4, c4, rfl, hI4⟩ := own_ir ho hne
    have X5 := (hB4.alloc hB4.size (.cells #[.slice (some ⟨g4, 0, none⟩) L.length c4] 24)).alloc (by have := hB4.size; simp; omega) (.cells #[.int .i64 0, .int .i64 0] 26)
    have X5' := ((Below.refl w4.heap.size w4).alloc (Nat.le_refl _) (.cells #[.slice (some ⟨g4, 0, none⟩) L.length c4] 24)).alloc (by simp) (.cells #[.int .i64 0, .int .i64 0] 26)
    have S5 := hide (S3.out.below X5)
    have F5 : Hid (FB ((w4.alloc (.cells #[.slice (some ⟨g4, 0, none⟩) L.length c4] 24)).alloc (.cells #[.int .i64 0, .int .i64 0] 26)) (w4.heap.size + 1) (.int .i64 0) (.int .i64 0)) := heap_alloc2_new w4 _ _
    have P5 : Hid (PB ((w4.alloc (.cells #[.slice (some ⟨g4, 0, none⟩) L.length c4] 24)).alloc (.cells #[.int .i64 0, .int .i64 0] 26)) w4.heap.size (.slice (some ⟨g4, 0, none⟩) L.length c4)) := by
      show _ = _
      rw [heap_alloc_old _ _ (by simp)]
      exact heap_alloc_new w4 _
    have I5 := hide (hI4.below X5' (Nat.le_refl _))
    clear X5 X5' ho hB4 S3 hI4
    go_upto_region 6 with fail
    generalize (w4.alloc (.cells #[.slice (some ⟨g4, 0, none⟩) L.length c4] 24)).alloc (.cells #[.int .i64 0, .int .i64 0] 26) = W5 at S5 F5 P5 I5 ⊢
    have d3 := S5.out.p3.c0
    have l3 := S5.out.p3.lt
    go_wp2_with fail
    refine (specValid_row g 0 L.length c (fI L) W5 (by omega) S5.out.ir.lt.2 S5.out.ir.at (fI_size HT.out)).mono ?_
    rintro e w6 ⟨rfl, hB6⟩
    rw [VT.out]
    have S6 := hide (S5.out.below hB6)
    have F6 := hide (F5.out.below hB6 F5.out.lt)
    have P6 := hide (P5.out.below hB6 P5.out.lt)
    have I6 := hide (I5.out.below hB6 (Nat.le_refl _))
    clear hB6 d3 l3 S5 F5 P5 I5
    go_wp2_with fail
    obtain ⟨t, ht⟩ : ∃ t, t = s.extract 0 ((linesB L).length - 1) := ⟨_, rfl⟩
    have hd : t.data.toList = (linesB L).take ((linesB L).length - 1) := by
      rw [ht, ByteArray.data_extract, Array.toList_extract, HD.out]
      simp
    have t3 : t.size ≤ 1500000 := by rw [ht, ByteArray.size_extract]; omega
    rw [← ht]
    clear ht
    refine (IM.out t t3 w6 S6.out.K).mono ?_
    rintro e w7 ⟨⟨v, rfl, ho⟩, hB7⟩
    rw [hd] at ho ⊢
    rw [PC.out]
    generalize (parsed ((linesB L).take ((linesB L).length - 1))).2.1 = ln at ⊢
    obtain ⟨a7, c7, rfl⟩ := own_slP ho
    generalize (parsed ((linesB L).take ((linesB L).length - 1))).2.2.length = n7 at ⊢
    have X8 := (hB7.alloc hB7.size (.cells #[.slice a7 n7 c7] 24)).alloc (by have := hB7.size; simp; omega) (.cells #[.int .i64 2, .int .i64 ln] 26)
    have S8 := hide (S6.out.below X8)
    have F8 := hide (F6.out.below X8 F6.out.lt)
    have P8 := hide (P6.out.below X8 P6.out.lt)
    have I8 := hide (I6.out.below X8 (Nat.le_refl _))
    have G8 : Hid (FB ((w7.alloc (.cells #[.slice a7 n7 c7] 24)).alloc (.cells #[.int .i64 2, .int .i64 ln] 26)) (w7.heap.size + 1) (.int .i64 2) (.int .i64 ln)) := heap_alloc2_new w7 _ _
    clear X8 ho hB7 S6 F6 P6 I6 hd
    go_upto_region 11 with fail
    generalize (w7.alloc (.cells #[.slice a7 n7 c7] 24)).alloc (.cells #[.int .i64 2, .int .i64 ln] 26) = W8 at S8 F8 P8 I8 G8 ⊢
    have d3 := S8.out.p3.c0
    have l3 := S8.out.p3.lt
    go_wp2_with fail
    refine (implValid_any g 0 L.length c (fI L) W8 (by omega) S8.out.ir.lt.2 S8.out.ir.at (LY.out W8 S8.out.K).tb).mono ?_
    rintro e w9 ⟨rfl, hB9⟩
    rw [VT.out]
    have S9 := hide (S8.out.below hB9)
    have F9 := hide (F8.out.below hB9 F8.out.lt)
    have P9 := hide (P8.out.below hB9 P8.out.lt)
    have I9 := hide (I8.out.below hB9 (Nat.le_refl _))
    have G9 := hide (G8.out.below hB9 G8.out.lt)
    clear hB9 d3 l3 S8 F8 P8 I8 G8
    have e0 := F9.out.c0
    have e1 := F9.out.c1
    have el := F9.out.lt
    have eq := eqlFault 0 0 0 0
    have d3 := S9.out.p3.c0
    have l3 := S9.out.p3.lt
    have d5 := P9.out.c0
    have l5 := P9.out.lt
    go_wp2_with fail
    refine (wProgram_same g c g4 c4 L.length (fI L) w9 (by omega) S9.out.ir.lt.2 I9.out.lt.2 S9.out.ir.at I9.out.at).mono ?_
    rintro e wa ⟨rfl, hBa⟩
    have Ka := hide (S9.out.K.trans (hBa.mono S9.out.K.size))
    have Ga := hide (G9.out.below hBa G9.out.lt)
    clear hBa e0 e1 el d3 l3 d5 l5 S9 F9 P9 I9 G9 eq
    have f0 := Ga.out.c0
    have fl := Ga.out.lt
    go_wp2
    go_ret
    exact ⟨rfl, Ka.out⟩

theorem law_program (a : Option Addr) (n cap : Nat) (ps pm : Addr) (w : World) (_hn : (n : Int) ≤ 9223372036854775807) (hc : n ≤ cap) (hS : ByteSl w a n) (hL : LayP w) (hE : EM w ps pm) (hg : ET w) :
    Calls Tryz.prog 4 #[.slice a n cap] w fun e w' => e = .returned (.bool true) ∧ Below w.heap.size w w' := by
  by_cases h : (n : Int) ≤ 1048576
  · exact law_in a n cap ps pm w h hc hS hL hE hg
  · exact law_big a n cap w (by omega)

end Go.Proofs.YtpefignfaooonaaGreatDoor.Vp
