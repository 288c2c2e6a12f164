/-
  ParseProgram, impl: readProgram.
-/
import Derived.Test.YtpefignfaooonaaGreatDoorZH
import Derived.Test.YtpefignfaooonaaGreatDoorZPaImplR
import Derived.Test.YtpefignfaooonaaGreatDoorZPaFaultB
namespace Go.Proofs.YtpefignfaooonaaGreatDoor.Vp
open Go.RowKit

/-- What readProgram answers, S not empty. -/
def RpPost (S : List UInt8) (pm : Addr) (B : Nat) (e : Ending) (w' : World) : Prop :=
  if (pgm 0 (linesL S)).1 = 0 then
    (if 200 < (pgm 0 (linesL S)).2.2.length then e = .returned (.tuple #[.agg #[.slice none 0 0], .iface 165 (.pointer (some pm))])
     else ∃ v, e = .returned (.tuple #[.agg #[v], .nilIface]) ∧ w'.ownsRow B 41 3 v (pgm 0 (linesL S)).2.2.length (i3L (pgm 0 (linesL S)).2.2))
  else ∃ er, er.oneCell' = true ∧ e = .returned (.tuple #[.agg #[.slice none 0 0], .iface 72 (.agg #[.int .i64 (pgm 0 (linesL S)).2.1, er])])
theorem rp_err {S : List UInt8} {pm : Addr} {B : Nat} {w' : World} {k : Int} {er : Value} (h : pgm 0 (linesL S) = (2, k, [])) (he : er.oneCell' = true) : RpPost S pm B (.returned (.tuple #[.agg #[.slice none 0 0], .iface 72 (.agg #[.int .i64 k, er])])) w' := by
  unfold RpPost
  rw [h, if_neg (by simp)]
  exact ⟨er, he, rfl⟩
theorem rp_many {S : List UInt8} {pm : Addr} {B : Nat} {w' : World} {L : List I3} (h : pgm 0 (linesL S) = (0, 0, L)) (hl : 200 < L.length) : RpPost S pm B (.returned (.tuple #[.agg #[.slice none 0 0], .iface 165 (.pointer (some pm))])) w' := by
  unfold RpPost
  rw [h, if_pos rfl, if_pos hl]
theorem rp_ok {S : List UInt8} {pm : Addr} {B : Nat} {w' : World} {L : List I3} {v : Value} (h : pgm 0 (linesL S) = (0, 0, L)) (hl : ¬ 200 < L.length) (ho : w'.ownsRow B 41 3 v L.length (i3L L)) : RpPost S pm B (.returned (.tuple #[.agg #[v], .nilIface])) w' := by
  unfold RpPost
  rw [h, if_pos rfl, if_neg hl]
  exact ⟨v, rfl, ho⟩
theorem EM.low {w0 w w' : World} {ps pm : Addr} {B : Nat} (h0 : EM w0 ps pm) (h : EM w ps pm) (hb : Below B w w') (hB : w0.heap.size ≤ B) : EM w' ps pm := by
  obtain ⟨g1, g2, g3, g4, g5, ⟨d, s, g6⟩, d', s', g7⟩ := h0
  obtain ⟨h1, h2, h3, h4, h5, ⟨c, t, h6⟩, c', t', h7⟩ := h
  have q6 := (Array.getElem?_eq_some_iff.1 g6).1
  have q7 := (Array.getElem?_eq_some_iff.1 g7).1
  exact ⟨Nat.lt_of_lt_of_le h1 hb.size, Nat.lt_of_lt_of_le h2 hb.size, (hb.cell (p := ⟨0, 0, none⟩) (Nat.lt_of_lt_of_le g1 hB)).trans h3, (hb.cell (p := ⟨2, 0, none⟩) (Nat.lt_of_lt_of_le g2 hB)).trans h4, h5, ⟨c, t, (hb.block ps.block (Nat.lt_of_lt_of_le q6 hB)).trans h6⟩, c', t', (hb.block pm.block (Nat.lt_of_lt_of_le q7 hB)).trans h7⟩
theorem infoInsP : ∃ i, Tryz.prog.info? 41 = some i ∧ i.zero = some (.agg #[.int .i64 0, .string ⟨#[]⟩, .int .i64 0]) ∧ i.size = 3 ∧ i.bytes = 32 := by
  obtain ⟨i, hi, hz⟩ := Option.map_eq_some_iff.1 infoIns
  simp only [Prod.mk.injEq] at hz
  exact ⟨i, hi, hz⟩
theorem take_snoc {L : List I3} (i : I3) (h : L.length < 200) : (L ++ [i]).take 200 = L.take 200 ++ [i] := by
  rw [List.take_of_length_le (by simp; omega), List.take_of_length_le (by omega)]
theorem take_more {L : List I3} (i : I3) (h : ¬ L.length < 200) : (L ++ [i]).take 200 = L.take 200 := by
  rw [List.take_append_of_le_length (by omega)]
/-- What the reading of a program leans on. -/
structure LayP (w : World) : Prop extends Lay w where
  un : EV w 1
theorem LayP.below {w w' : World} {B : Nat} (h : LayP w) (hb : Below B w w') (hB : w.heap.size ≤ B) : LayP w' := ⟨h.toLay.below hb hB, h.un.below hb (Nat.lt_of_lt_of_le h.un.1 hB)⟩
theorem LayP.low {w0 w w' : World} {B : Nat} (h0 : LayP w0) (h : LayP w) (hb : Below B w w') (hB : w0.heap.size ≤ B) : LayP w' := ⟨Lay.low h0.toLay h.toLay hb hB, h.un.below hb (Nat.lt_of_lt_of_le h0.un.1 hB)⟩
theorem own_slP {w : World} {base size n : Nat} {e : TypeId} {v : Value} {xs : List Value} (h : w.ownsRow base e size v n xs) : ∃ a cap, v = .slice a n cap := by
  rcases h.2 with ⟨hv, h0⟩ | ⟨g, cap, cur, hv, _⟩
  · exact ⟨none, 0, by rw [hv, h0]⟩
  · exact ⟨some ⟨g, 0, none⟩, cap, hv⟩
theorem strEmpty (l : List UInt8) : (⟨l.toArray⟩ : ByteArray).toList.isEmpty = l.isEmpty := by rw [ByteArray.toList_eq]

set_option maxRecDepth 100000 in
set_option maxHeartbeats 4000000 in
theorem readProgram_any (src : ByteArray) (ps pm : Addr) (w : World) (hs : src.size ≤ 1500000) (hne : src.data.toList ≠ []) (hL : LayP w) (hE : EM w ps pm) :
    Calls Tryz.prog 18 #[.string src] w fun e w' => RpPost src.data.toList pm (w.heap.size + 2) e w' ∧ Below w.heap.size w w' := by
  obtain ⟨i0, hi, hy0, hy1, hy2⟩ := infoInsP
  have A0 := hide ((Below.refl w.heap.size w).alloc (Nat.le_refl _) (.cells #[.slice none 0 0] 24))
  have A1 := hide (A0.out.alloc A0.out.size (.cells #[.slice none 0 0] 24))
  have z1 : ((w.alloc (.cells #[.slice none 0 0] 24)).alloc (.cells #[.slice none 0 0] 24)).heap.size = w.heap.size + 2 := by simp
  have R1 : Hid (PB ((w.alloc (.cells #[.slice none 0 0] 24)).alloc (.cells #[.slice none 0 0] 24)) w.heap.size (.slice none 0 0)) := by
    show _ = _
    rw [heap_alloc_old _ _ (by simp)]
    exact heap_alloc_new w _
  have P1 : Hid (PB ((w.alloc (.cells #[.slice none 0 0] 24)).alloc (.cells #[.slice none 0 0] 24)) (w.heap.size + 1) (.slice none 0 0)) := heap_alloc2_new w _ _
  have L1 := hide (hL.below A1.out (Nat.le_refl _))
  have E1 := hide (hE.below A1.out (Nat.le_refl _))
  have HL0 := hide hL
  have HE0 := hide hE
  have hz : src.toList.isEmpty = false := by rw [ByteArray.toList_eq]; simpa using hne
  have hsz : ¬ 1500000 < (src.size : Int) := by omega
  have HLN : Hid (src.data.toList.length ≤ 1500000) := by show _ ≤ _; rw [size_toL]; exact hs
  clear hL hE
  go_enter Tryz.func18, Tryz.ntmps18
  go_wp2
  clear A0 hz
  generalize (w.alloc (.cells #[.slice none 0 0] 24)).alloc (.cells #[.slice none 0 0] 24) = W1 at A1 z1 R1 P1 L1 E1 ⊢
  go_loopw [0, 5] (fun s i wr => ∃ (k : Nat) (rest : List UInt8) (L : List I3) (a : Option Addr) (n cap : Nat), s = .string ⟨rest.toArray⟩ ∧ rest.length + k ≤ 1500000 ∧ i = .int .i64 k ∧ Hid (k = L.length) ∧ Hid (pgm 0 (linesL src.data.toList) = comb L (pgm k (linesL rest))) ∧ Hid (PB wr w.heap.size (.slice none 0 0)) ∧ Hid (PB wr (w.heap.size + 1) (.slice a n cap)) ∧ Hid (n = (L.take 200).length) ∧ Hid (wr.ownsRow (w.heap.size + 2) 41 3 (.slice a n cap) n (i3L (L.take 200))) ∧ Hid (LayP wr) ∧ Hid (EM wr ps pm) ∧ Hid (Below w.heap.size w wr)) (fun s _ _ => strLen s)
  case atStart => exact ⟨0, src.data.toList, [], none, 0, 0, by simp, HLN.out, rfl, rfl, (comb_nil _ _).symm, R1.out, P1.out, rfl, World.ownsRow_nil _ _ _ _, L1.out, E1.out, A1.out⟩
  case round =>
    clear A1 z1 R1 P1 L1 E1 HLN hsz hne
    obtain ⟨k, rest, L, a, n, cap, rfl, hrk, rfl, HK, HP, HR, HPB, HN, HO, HL, HE, HB⟩ := hrel
    have zr : w.heap.size + 1 < wr.heap.size := HPB.out.lt
    cases rest with
    | nil =>
      have HQ : Hid (pgm 0 (linesL src.data.toList) = (0, 0, L)) := by show _ = _; rw [HP.out]; exact comb_end L k
      by_cases h2 : 200 < L.length
      · have h2' : 200 < (k : Int) := by have := HK.out; omega
        obtain ⟨_, e2, _, e4, _⟩ := HE.out
        have g2 : ¬ w.heap.size = 2 := by have := HE0.out.2.1; omega
        have g2' : ¬ 2 = w.heap.size := by omega
        have d0 := HR.out.c0
        have f0 := HR.out.fz 0
        go_wp2_with fail
        go_region
        all_goals
          go_wp2
          try simp only [Exit.inBlock, Exit.then]
          refine bodyPost_ret (res_prog rfl _ _ w.heap.size _ rfl (HR.out.set _)) rfl ?_
          exact ⟨rp_many HQ.out h2, (below_drewN HB.out _).setCell (p := ⟨w.heap.size, 0, none⟩) (Nat.le_refl _) _⟩
      · have h2' : ¬ 200 < (k : Int) := by have := HK.out; omega
        have hTk : Hid (L.take 200 = L) := List.take_of_length_le (by omega)
        have O1 := hide (own_setP (R := w.heap.size) (j := 0) HO.out (by omega) (.slice a n cap))
        have hnL : n = L.length := by rw [HN.out, hTk.out]
        have HNL := hide hnL
        clear hnL
        rw [hTk.out] at O1
        have d0 := HR.out.c0
        have f0 := HR.out.fz 0
        have c0 := HPB.out.c0
        go_wp2
        try simp only [Exit.inBlock, Exit.then]
        refine bodyPost_ret (res_prog rfl _ _ w.heap.size _ rfl (HR.out.set _)) rfl ?_
        exact ⟨rp_ok HQ.out h2 (by rw [← HNL.out]; exact O1.out), HB.out.setCell (p := ⟨w.heap.size, 0, none⟩) (Nat.le_refl _) _⟩
    | cons c r =>
      obtain ⟨RS, hRS⟩ : ∃ RS : ByteArray, RS = ⟨(c :: r).toArray⟩ := ⟨_, rfl⟩
      rw [← hRS]
      have hz : RS.toList.isEmpty = false := by rw [hRS, strEmpty]; rfl
      have hdl : RS.data.toList = c :: r := by rw [hRS]
      have hrs : RS.size = r.length + 1 := by rw [hRS]; simp [ByteArray.size]
      have CU := fun V => cut1_any RS 10 V (by unfold maxLen; simp only [List.length_cons] at hrk; omega)
      rw [hdl] at CU
      have HCT := hide (linesL_cut (c :: r))
      have hcl := (cutC_len 10 (c :: r)).1
      have HRL := hide (fun h => cutC_rest (c := 10) (s := c :: r) h)
      have HSZ := hide hrs
      clear hRS hdl hrs
      generalize cutC 10 (c :: r) = ct at CU HCT hcl HRL
      obtain ⟨ln, rs, en⟩ := ct
      simp only [List.length_cons] at hcl hrk
      go_wp2_with fail
      refine (CU _).mono ?_
      rintro e w1 ⟨rfl, m, hw1⟩
      have D1 : Below wr.heap.size wr w1 := by rw [hw1]; exact below_drewN (Below.refl _ _) m
      have R1 := hide (HR.out.below D1 (by omega))
      have P1 := hide (HPB.out.below D1 zr)
      have O1 := hide (own_below HO.out D1 (Nat.le_refl _))
      have L1 := hide (HL.out.below D1 (Nat.le_refl _))
      have E1 := hide (HE.out.below D1 (Nat.le_refl _))
      have B1 := hide (HB.out.trans (D1.mono (by omega)))
      have z1 : w.heap.size + 1 < w1.heap.size := P1.out.lt
      clear D1 hw1 HR HPB HO HL HE HB CU
      cases en with
      | false =>
        have HQ : Hid (pgm 0 (linesL src.data.toList) = (2, (k : Int), [])) := by
          show _ = _
          rw [HP.out, HCT.out, if_neg (by simp)]
          exact comb_open (by simp)
        obtain ⟨hzu, te, pe, hev⟩ := L1.out.un
        have g1 : ¬ w.heap.size = 1 := by have := HL0.out.un.1; omega
        have g1' : ¬ 1 = w.heap.size := by omega
        have d0 := R1.out.c0
        have f0 := R1.out.fz 0
        go_wp2_with fail
        go_region
        all_goals
          go_wp2
          try simp only [Exit.inBlock, Exit.then]
          refine bodyPost_ret (res_prog rfl _ _ w.heap.size _ rfl (R1.out.set _)) rfl ?_
          exact ⟨rp_err HQ.out (by rfl), (below_drewN B1.out _).setCell (p := ⟨w.heap.size, 0, none⟩) (Nat.le_refl _) _⟩
      | true =>
        have hrl := HRL.out rfl
        simp only [List.length_cons] at hrl
        have HLN : Hid (linesL (c :: r) = ln :: linesL rs) := by show _ = _; rw [HCT.out, if_pos rfl]
        have RI := hide (readIns_any ⟨ln.toArray⟩ w1 (by show ln.length ≤ _; omega) L1.out.toLay)
        clear HRL HCT
        go_wp2_with fail
        refine RI.out.mono ?_
        rintro e w2 ⟨hp, hB2⟩
        have R2 := hide (R1.out.below hB2 (by omega))
        have P2 := hide (P1.out.below hB2 z1)
        have O2 := hide (own_below O1.out hB2 (Nat.le_refl _))
        have L2 := hide (L1.out.below hB2 (Nat.le_refl _))
        have E2 := hide (E1.out.below hB2 (Nat.le_refl _))
        have B2 := hide (B1.out.trans (hB2.mono (by omega)))
        have z2 : w.heap.size + 1 < w2.heap.size := P2.out.lt
        clear hB2 RI R1 P1 O1 L1 E1 B1
        cases hr : readL ln with
        | none =>
          rw [hr] at hp
          obtain ⟨te, pe, rfl⟩ := hp
          have HQ : Hid (pgm 0 (linesL src.data.toList) = (2, (k : Int), [])) := by
            show _ = _
            rw [HP.out, HLN.out]
            exact comb_err hr (linesL_ne rs)
          have X3 := (Below.refl w2.heap.size w2).alloc (Nat.le_refl _) (.cells #[.int .i64 0, .string ⟨#[]⟩, .int .i64 0] 41)
          have R3 := hide (R2.out.below X3 (by omega))
          have B3 := hide (B2.out.trans (X3.mono (by omega)))
          clear X3 R2 P2 O2 L2 E2 B2
          go_upto_region 11 with fail
          generalize w2.alloc (.cells #[.int .i64 0, .string ⟨#[]⟩, .int .i64 0] 41) = W3 at R3 B3 ⊢
          have z3 : w.heap.size < W3.heap.size := R3.out.lt
          have d0 := R3.out.c0
          have f0 := R3.out.fz 0
          go_wp2
          try simp only [Exit.inBlock, Exit.then]
          refine bodyPost_ret (res_prog rfl _ _ w.heap.size _ rfl (R3.out.set _)) rfl ?_
          exact ⟨rp_err HQ.out (by rfl), B3.out.setCell (p := ⟨w.heap.size, 0, none⟩) (Nat.le_refl _) _⟩
        | some i =>
          rw [hr] at hp
          have hp : e = .returned (.tuple #[.agg #[.int .i64 i.1, .string ⟨i.2.1.toArray⟩, .int .i64 i.2.2], .nilIface]) := hp
          subst hp
          have HQ : Hid (pgm 0 (linesL src.data.toList) = comb (L ++ [i]) (pgm (k + 1) (linesL rs))) := by
            show _ = _
            rw [HP.out, HLN.out]
            exact comb_step hr (linesL_ne rs)
          have X3 := (Below.refl w2.heap.size w2).alloc (Nat.le_refl _) (.cells #[.int .i64 i.1, .string ⟨i.2.1.toArray⟩, .int .i64 i.2.2] 41)
          have R3 := hide (R2.out.below X3 (by omega))
          have P3 := hide (P2.out.below X3 z2)
          have O3 := hide (own_below O2.out X3 (Nat.le_refl _))
          have L3 := hide (L2.out.below X3 (Nat.le_refl _))
          have E3 := hide (E2.out.below X3 (Nat.le_refl _))
          have B3 := hide (B2.out.trans (X3.mono (by omega)))
          have I3 := hide (CI.new w2 (.int .i64 i.1) (.string ⟨i.2.1.toArray⟩) (.int .i64 i.2.2))
          have HV := hide (show i3V i = [.int .i64 i.1, .string ⟨i.2.1.toArray⟩, .int .i64 i.2.2] from rfl)
          clear X3 R2 P2 O2 L2 E2 B2 hr
          go_upto_region 11 with fail
          generalize w2.alloc (.cells #[.int .i64 i.1, .string ⟨i.2.1.toArray⟩, .int .i64 i.2.2] 41) = W3 at R3 P3 O3 L3 E3 B3 I3 ⊢
          have z3 : w.heap.size + 1 < W3.heap.size := P3.out.lt
          have z3' : w2.heap.size < W3.heap.size := I3.out.lt
          have hln3 : n ≤ 200 := by rw [HN.out, List.length_take]; omega
          by_cases h200 : k < 200
          · have i200 : (k : Int) < 200 := by omega
            have p0 := P3.out.c0
            have c0 := I3.out.c0
            have c1 := I3.out.c1
            have c2 := I3.out.c2
            go_wp2_with (at_builtin; refine wpList_append_own _ rfl (.tmp 52) (.tmp 54) 22 rfl (w.heap.size + 2) 41 i0 (.agg #[.int .i64 0, .string ⟨#[]⟩, .int .i64 0]) 3 32 Tryz.underlying22 hi hy0 hy1 hy2 rfl (by decide) (.slice a n cap) n (i3L (L.take 200)) (by simp [Act.eval]) (O3.out.alloc _) ⟨W3.heap.size, 0, none⟩ 1 1 [.int .i64 i.1, .string ⟨i.2.1.toArray⟩, .int .i64 i.2.2] (by simp [Act.eval]) rfl (three_newP W3 _ _ _ _) (by simp [Value.oneCell']) (by unfold maxLen; omega) (by omega) (by simp; omega) ?_)
            intro v' w5 hown hgrow hnil
            obtain ⟨a', cap', rfl⟩ := own_slP hown
            have O5 := hide hown
            have G5 := hide hgrow
            have P5 : Hid (PB w5 (w.heap.size + 1) (.slice a n cap)) := (hgrow.block (w.heap.size + 1) (by simp; omega) (fun e => by have := (O3.out.lt _ e.symm).1; omega)).trans ((heap_alloc_old _ _ z3).trans P3.out)
            have p5 := P5.out.c0
            have f5 := P5.out.fz 0
            clear hown hgrow hnil p0 c0 c1 c2
            have hk := HK.out
            have HT : Hid ((L ++ [i]).take 200 = L.take 200 ++ [i]) := take_snoc i (by omega)
            have hz5 : W3.heap.size + 1 ≤ w5.heap.size := by have := G5.out.size; simpa using this
            have R5 : Hid (PB w5 w.heap.size (.slice none 0 0)) := (G5.out.block w.heap.size (by simp; omega) (fun e => by have := (O3.out.lt _ e.symm).1; omega)).trans ((heap_alloc_old _ _ (by omega)).trans R3.out)
            have BG := Below.grown ((Below.refl (w.heap.size + 2) W3).alloc (by omega) (.cells #[.int .i64 i.1, .string ⟨i.2.1.toArray⟩, .int .i64 i.2.2] 41)) G5.out (by simp; omega) (fun j e => (O3.out.lt j e).1)
            have BX := (BG.mono (show w.heap.size + 1 ≤ w.heap.size + 2 by omega)).setCell (p := ⟨w.heap.size + 1, 0, none⟩) (Nat.le_refl _) (.slice a' (n + 1) cap')
            have L6 := hide (LayP.low HL0.out L3.out BX (by omega))
            have E6 := hide (EM.low HE0.out E3.out BX (by omega))
            have B6 := hide (B3.out.trans (BX.mono (by omega)))
            have R6 := hide (R5.out.other ⟨w.heap.size + 1, 0, none⟩ (by show w.heap.size + 1 ≠ w.heap.size; omega) (.slice a' (n + 1) cap'))
            have P6 := hide (P5.out.set (.slice a' (n + 1) cap'))
            have O6 := hide (own_setP (R := w.heap.size + 1) (j := 0) O5.out (by omega) (.slice a' (n + 1) cap'))
            have HN6 : Hid (n + 1 = ((L ++ [i]).take 200).length) := by show _ = _; rw [HT.out, List.length_append, ← HN.out]; rfl
            have HK6 : Hid (k + 1 = (L ++ [i]).length) := by show _ = _; rw [List.length_append, ← hk]; rfl
            have HO6 : Hid (i3L ((L ++ [i]).take 200) = i3L (L.take 200) ++ [.int .i64 i.1, .string ⟨i.2.1.toArray⟩, .int .i64 i.2.2]) := by show _ = _; rw [HT.out, i3L_snoc]; rfl
            have hmz : rs.length < RS.size := by rw [HSZ.out]; omega
            clear BG BX G5 R5 O3 L3 E3 B3 R3 P3 hk I3
            go_wp2
            exact ⟨⟨k + 1, rs, L ++ [i], a', n + 1, cap', rfl, by omega, by go_num, HK6.out, HQ.out, R6.out, P6.out, HN6.out, by show World.ownsRow _ _ _ _ _ _ _; rw [HO6.out]; exact O6.out, L6.out, E6.out, B6.out⟩, by show rs.length < RS.size; exact hmz⟩
          · have i200 : ¬ (k : Int) < 200 := by omega
            have hk := HK.out
            have HT : Hid ((L ++ [i]).take 200 = L.take 200) := take_more i (by omega)
            have HN6 : Hid (n = ((L ++ [i]).take 200).length) := by show _ = _; rw [HT.out]; exact HN.out
            have HK6 : Hid (k + 1 = (L ++ [i]).length) := by show _ = _; rw [List.length_append, ← hk]; rfl
            have hmz : rs.length < RS.size := by rw [HSZ.out]; omega
            clear hk
            go_wp2
            exact ⟨⟨k + 1, rs, L ++ [i], a, n, cap, rfl, by omega, by go_num, HK6.out, HQ.out, R3.out, P3.out, HN6.out, by show World.ownsRow _ _ _ _ _ _ _; rw [HT.out]; exact O3.out, L3.out, E3.out, B3.out⟩, by show rs.length < RS.size; exact hmz⟩

end Go.Proofs.YtpefignfaooonaaGreatDoor.Vp
