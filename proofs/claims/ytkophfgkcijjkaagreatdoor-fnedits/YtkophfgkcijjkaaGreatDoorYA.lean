import Derived.Test.YtkophfgkcijjkaaGreatDoorZZ
namespace Go.Proofs.YtkophfgkcijjkaaGreatDoor.Vp
open Go.RowKit
set_option maxRecDepth 100000 in
set_option maxHeartbeats 8000000 in
theorem specPutS_any (a0 : Option Addr) (n0 c0 : Nat) (f0 : Nat → Source) (a1 : Option Addr) (n1 c1 : Nat) (f1 : Nat → Target) (t tx : ByteArray) (w : World) (hn0 : (n0 : Int) ≤ 1048576) (hn1 : (n1 : Int) ≤ 1048576) (hv0 : SlSource w a0 n0 f0) (hv1 : SlTarget w a1 n1 f1) (hfit : ∀ i, i < n1 → FitsTarget (f1 i)) (hs : ∀ i, i < n1 → ∀ j, j < (f1 i).actN → ((f1 i).act j).s.size ≤ maxLen) :
    Calls Tryz.prog 11 #[.agg #[.slice a0 n0 c0, .slice a1 n1 c1], .string t, .string tx] w fun e w' => ∃ v0 v1 R, e = .returned (.tuple #[.agg #[v0, v1], .int .i64 (putC n0 f0 n1 f1 t tx)]) ∧ w'.ownsRow w.heap.size 100 2 v0 (putS n0 f0 n1 f1 t tx).length ((putS n0 f0 n1 f1 t tx).flatMap srcV) ∧ TRow w' w.heap.size v1 R ∧ R.map (·.1) = putT n0 f0 n1 f1 t tx ∧ Below w.heap.size w w' := by
  have V0 := hide hv0
  have V1 := hide hv1
  have HF := hide hfit
  have HS := hide hs
  clear hv0 hv1 hfit hs
  obtain ⟨i0', hii, hy0, hy1, hy2⟩ := info_parts infoSource
  obtain ⟨C, hC⟩ : ∃ C, C = checkC n0 f0 n1 f1 := ⟨_, rfl⟩
  obtain ⟨D, hD⟩ : ∃ D, D = putC n0 f0 n1 f1 t tx := ⟨_, rfl⟩
  obtain ⟨LS, hLS⟩ : ∃ LS, LS = putS n0 f0 n1 f1 t tx := ⟨_, rfl⟩
  obtain ⟨LT, hLT⟩ : ∃ LT, LT = putT n0 f0 n1 f1 t tx := ⟨_, rfl⟩
  rw [← hD, ← hLS, ← hLT]
  have HC := hide hC
  have HD := hide (hD.trans (by unfold putC; rw [← hC]))
  have HLS := hide (hLS.trans (by unfold putS; rw [← hD]))
  have HLT := hide (hLT.trans (by unfold putT; rw [← hD]))
  clear hC hD hLS hLT
  have A0 := hide (((Below.refl w.heap.size w).alloc (Nat.le_refl _) (.cells #[.slice a0 n0 c0, .slice a1 n1 c1] 26)).alloc (by simp) (.cells #[.slice none 0 0, .slice none 0 0] 26))
  have X0 := hide (pair_new w (.slice a0 n0 c0) (.slice a1 n1 c1) 26)
  go_enter Tryz.func11, Tryz.ntmps11
  go_wp2_with fail
  generalize (w.alloc (.cells #[.slice a0 n0 c0, .slice a1 n1 c1] 26)).alloc (.cells #[.slice none 0 0, .slice none 0 0] 26) = W at A0 X0 ⊢
  refine (specCheck_any a0 n0 c0 f0 a1 n1 c1 f1 _ hn0 hn1 (V0.out.below A0.out (Nat.le_refl _)) (V1.out.below A0.out (Nat.le_refl _)) HF.out HS.out).mono ?_
  rintro e w1 ⟨rfl, hB⟩
  rw [← HC.out]
  have X1 := hide (X0.out.below hB X0.out.lt')
  have B1 := hide (A0.out.trans (hB.mono A0.out.size))
  clear hB A0 X0
  by_cases hc : C = 0
  case neg =>
    have hd := HD.out
    rw [if_pos hc] at hd
    have hls := HLS.out
    rw [if_neg (by omega)] at hls
    have hlt := HLT.out
    rw [if_neg (by omega)] at hlt
    subst hd hls hlt
    have hc' : (C == 0) = false := by simpa using hc
    obtain ⟨r0, q0⟩ := X1.out.r0
    obtain ⟨r1, q1⟩ := X1.out.r1
    go_wp2
    exact bodyPost_ret (v := .tuple #[.agg #[.slice none 0 0, .slice none 0 0], .int .i64 1]) (by simp [results, Tryz.results11, go_sem, r0, r1]) rfl ⟨_, _, [], rfl, World.ownsRow_nil _ _ _ _, tRow_nil _ _, rfl, (B1.out.setCell (by simp) _).setCell (by simp) _⟩
  subst hc
  have hz := check_zero HC.out.symm
  have HZ := hide hz
  clear hz HC
  have hd1 := HD.out
  rw [if_neg (by omega)] at hd1
  have HD1 := hide hd1
  clear hd1 HD
  go_wp2_with fail
  refine (l1NameOk_any t _).mono ?_
  rintro e w2 ⟨rfl, hB⟩
  have X2 := hide (X1.out.below hB X1.out.lt')
  have B2 := hide (B1.out.trans (hB.mono B1.out.size))
  clear hB X1 B1
  by_cases hcode : nameOk t = false ∨ 2000 < (tx.size : Int)
  · have hd := HD1.out
    rw [if_pos hcode] at hd
    have hls := HLS.out
    rw [if_neg (by omega)] at hls
    have hlt := HLT.out
    rw [if_neg (by omega)] at hlt
    subst hd hls hlt
    obtain ⟨r0, q0⟩ := X2.out.r0
    obtain ⟨r1, q1⟩ := X2.out.r1
    cases hn : nameOk t with
    | false =>
      clear hcode
      go_wp2
      exact bodyPost_ret (v := .tuple #[.agg #[.slice none 0 0, .slice none 0 0], .int .i64 2]) (by simp [results, Tryz.results11, go_sem, r0, r1]) rfl ⟨_, _, [], rfl, World.ownsRow_nil _ _ _ _, tRow_nil _ _, rfl, (B2.out.setCell (by simp) _).setCell (by simp) _⟩
    | true =>
      have hbig : (2000 : Int) < tx.size := hcode.resolve_left (by simp [hn])
      clear hcode
      go_wp2
      exact bodyPost_ret (v := .tuple #[.agg #[.slice none 0 0, .slice none 0 0], .int .i64 2]) (by simp [results, Tryz.results11, go_sem, r0, r1]) rfl ⟨_, _, [], rfl, World.ownsRow_nil _ _ _ _, tRow_nil _ _, rfl, (B2.out.setCell (by simp) _).setCell (by simp) _⟩
  have hd2 := HD1.out
  rw [if_neg hcode] at hd2
  have HD2 := hide hd2
  have hn : nameOk t = true := by
    cases h : nameOk t with
    | true => rfl
    | false => exact absurd (.inl h) hcode
  have hbig : ¬ (2000 : Int) < tx.size := fun h => hcode (.inr h)
  clear hd2 HD1 hcode
  have k0 := X2.out.a0
  have k1 := X2.out.a1
  rw [hn]
  go_wp2_with fail
  refine (l2Without_any a0 n0 c0 f0 a1 n1 c1 f1 t _ hn0 hn1 (V0.out.below B2.out (Nat.le_refl _)) (V1.out.below B2.out (Nat.le_refl _)) HF.out).mono ?_
  rintro e w3 ⟨v0, v1, R, rfl, hO, hR, hM, hB⟩
  have hlt2 := X2.out.lt
  have X3 := hide (X2.out.below hB X2.out.lt')
  have B3 := hide (B2.out.trans (hB.mono B2.out.size))
  obtain ⟨sa, sc, rfl⟩ := own_slice hO
  obtain ⟨ta, tc, rfl⟩ := own_slice hR.own
  have eR : R.length = (keepT f1 t n1).length := by rw [← hM]; simp
  have hl0 := keepS_len f0 t n0
  have hl1 := keepT_len f1 t n1
  obtain ⟨L, hL⟩ : ∃ L, L = keepS f0 t n0 := ⟨_, rfl⟩
  obtain ⟨K, hK⟩ : ∃ K, K = keepT f1 t n1 := ⟨_, rfl⟩
  rw [← hL] at hO hl0 ⊢
  rw [← hK] at hM hl1 eR
  have hd3 := HD2.out
  rw [← hL, ← hK] at hd3
  have hls := HLS.out
  rw [← hL] at hls
  have hlt := HLT.out
  rw [← hK] at hlt
  have ER := hide eR
  have hlr : R.length ≤ n1 := by omega
  clear HD2 HLS HLT hL hK hB k0 k1 hn X2 B2 eR
  have O3 := hide (own_mono hO (base' := w.heap.size) (by omega))
  have RX : Hid (∀ w', Below w3.heap.size w3 w' → TRow w' (w2.heap.size + 3) (.slice ta R.length tc) R) := fun w' hb => hR.below hb (Nat.le_refl _)
  have HM := hide hM
  have hll : (L.length : Int) ≤ 1048576 := by omega
  clear hO hR hM
  have DB := hide ((Below.refl w3.heap.size w3).alloc (Nat.le_refl _) (.cells #[.slice sa L.length sc, .slice ta R.length tc] 26))
  have K8 := hide (twoF_box w3 (.slice sa L.length sc) (.slice ta R.length tc) 26)
  have X4 := hide (X3.out.below DB.out X3.out.lt')
  have B4 := hide (B3.out.trans (DB.out.mono B3.out.size))
  have O4 := hide (own_below O3.out DB.out (Nat.le_refl _))
  have DB4 := hide DB.out
  have hx8 : w.heap.size + 1 < w3.heap.size := X3.out.lt
  have c8 := K8.out.c0
  have c9 := K8.out.c1
  clear O3 DB
  by_cases hc3 : (200 : Int) ≤ L.length + R.length
  · rw [if_pos (by have := ER.out; omega)] at hd3
    rw [if_neg (by omega)] at hls hlt
    subst hd3 hls hlt
    obtain ⟨r0, q0⟩ := X3.out.r0
    obtain ⟨r1, q1⟩ := X3.out.r1
    clear c8 c9
    go_wp2
    exact bodyPost_ret (v := .tuple #[.agg #[.slice none 0 0, .slice none 0 0], .int .i64 3]) (by simp [results, Tryz.results11, go_sem, r0, r1, hx8]) rfl ⟨_, _, [], rfl, World.ownsRow_nil _ _ _ _, tRow_nil _ _, rfl, ((B3.out.setCell (by simp) _).setCell (by simp) _).alloc (by have := B3.out.size; simp; omega) _⟩
  clear X3 B3
  rw [if_neg (by have := ER.out; omega)] at hd3
  rw [if_pos hd3] at hls hlt
  subst hd3 hlt
  have HLS := hide hls
  clear hls
  go_wp2
  have hz4 : (w3.alloc (.cells #[.slice sa L.length sc, .slice ta R.length tc] 26)).heap.size = w3.heap.size + 1 := by simp
  generalize w3.alloc (.cells #[.slice sa L.length sc, .slice ta R.length tc] 26) = w4 at K8 X4 B4 O4 DB4 c8 c9 hz4 ⊢
  generalize w3.heap.size = X at K8 c8 c9 hx8 hz4 RX DB4 ⊢
  obtain ⟨bL, hbL⟩ : ∃ bL, bL = w4.heap.size := ⟨_, rfl⟩
  have E0 : Hid (Below bL w4 (w4.alloc (.cells #[] 100))) := by rw [hbL]; exact (Below.refl _ _).alloc (Nat.le_refl _) _
  have W0 : Hid ((w4.alloc (.cells #[] 100)).ownsRow bL 100 2 (.slice (some ⟨X + 1, 0, none⟩) 0 0) 0 []) := by rw [← hz4]; exact World.ownsRow_made w4 #[] 0 (by omega) (by unfold maxLen; omega) rfl
  have hXb : X < bL := by have := K8.out.lt; omega
  have HbL := hide hbL
  have HZ4 := hide hz4
  clear hbL hz4
  go_loopw [9, 10, 11] (fun v d i wr => ∃ (k : Nat) (db : Bool), k ≤ L.length ∧ i = .int .i64 k ∧ d = .bool db ∧ Hid (db = doneTo L t k) ∧ Hid (wr.ownsRow bL 100 2 v (insTo L ⟨t, tx⟩ t k).length ((insTo L ⟨t, tx⟩ t k).flatMap srcV)) ∧ Hid (Below bL w4 wr)) (fun _ _ i _ => L.length - (intOf i).toNat)
  case atStart => exact ⟨0, false, by omega, rfl, rfl, rfl, W0.out, E0.out⟩
  case round =>
    obtain ⟨k, db, hk, rfl, rfl, HDB, OW, HB⟩ := hrel
    have e8 := (HB.out.cell (p := ⟨X, 0, none⟩) hXb).trans c8
    have hlen := insTo_len L ⟨t, tx⟩ t k
    obtain ⟨hlen1, hlen2⟩ := hlen
    have HL2 := hide hlen2
    clear hlen2
    by_cases hlt : k < L.length
    · obtain ⟨b, off, rfl, hr⟩ := (own_src O4.out).resolve_left (by omega)
      obtain ⟨p0, p1⟩ := hr.2 k hlt
      have hbb : b < bL := by have := hr.1; have := HbL.out; omega
      have d0 := (HB.out.cell (p := ⟨b, off + k * 2, none⟩) hbb).trans p0
      have d1 := (HB.out.cell (p := ⟨b, off + k * 2 + 1, none⟩) hbb).trans p1
      clear hr
      cases db with
      | true =>
        have HI : Hid (insTo L ⟨t, tx⟩ t (k + 1) = insTo L ⟨t, tx⟩ t k ++ [srcF L k]) := by show (if _ then _ else _) = _; rw [if_neg (by rw [← HDB.out]; simp)]
        have HN : Hid (true = doneTo L t (k + 1)) := by show true = (doneTo L t k || _); rw [← HDB.out]; rfl
        go_wp2_with (at_builtin; (refine wpList_append_own _ rfl (.tmp 63) (.tmp 69) 23 rfl bL 100 i0' (.agg #[.string ⟨#[]⟩, .string ⟨#[]⟩]) 2 32 Tryz.underlying23 hii hy0 hy1 hy2 rfl (by decide) _ (insTo L ⟨t, tx⟩ t k).length ((insTo L ⟨t, tx⟩ t k).flatMap srcV) (by simp [Act.eval]) (OW.out.alloc _) ⟨wr.heap.size, 0, none⟩ 1 1 (srcV (srcF L k)) (by simp [Act.eval]) rfl (two_new wr _ _ _) (by simp [srcV, Value.oneCell']) (by unfold maxLen; omega) (by omega) (by have := HB.out.size; have := HbL.out; simp; omega) ?_; intro vy wy hown hgrow hnil; have OY := hide hown; have BY := hide (Below.grown (HB.out.alloc (by have := HB.out.size; have := HbL.out; omega) (.cells #[.string (srcF L k).name, .string (srcF L k).text] 100)) hgrow (by have := HB.out.size; have := HbL.out; simp; omega) (fun j e => (OW.out.lt j e).1)); clear hown hgrow hnil))
        exact ⟨⟨k + 1, true, by omega, by go_num, rfl, HN.out, by show World.ownsRow _ _ _ _ _ _ _; rw [HI.out, List.length_append, List.flatMap_append]; simpa using OY.out, BY.out⟩, by simp [intOf]; omega⟩
      | false =>
        cases hq : tless t (srcF L k).name with
        | true =>
          have HI : Hid (insTo L ⟨t, tx⟩ t (k + 1) = insTo L ⟨t, tx⟩ t k ++ [⟨t, tx⟩] ++ [srcF L k]) := by show (if _ then _ else _) = _; rw [if_pos ⟨HDB.out.symm, hq⟩]
          have HN : Hid (true = doneTo L t (k + 1)) := by show true = (doneTo L t k || _); rw [hq]; simp
          obtain ⟨q1, q2⟩ := tless_yes hq
          clear hq
          go_wp2_with (at_builtin; first | (refine wpList_append_own _ rfl (.tmp 57) (.tmp 61) 23 rfl bL 100 i0' (.agg #[.string ⟨#[]⟩, .string ⟨#[]⟩]) 2 32 Tryz.underlying23 hii hy0 hy1 hy2 rfl (by decide) _ (insTo L ⟨t, tx⟩ t k).length ((insTo L ⟨t, tx⟩ t k).flatMap srcV) (by simp [Act.eval]) (OW.out.alloc _) ⟨wr.heap.size, 0, none⟩ 1 1 (srcV ⟨t, tx⟩) (by simp [Act.eval]) rfl (two_new wr _ _ _) (by simp [srcV, Value.oneCell']) (by unfold maxLen; omega) (by omega) (by have := HB.out.size; have := HbL.out; simp; omega) ?_; intro vx wx hown hgrow hnil; have OX := hide hown; have BX := hide (Below.grown (HB.out.alloc (by have := HB.out.size; have := HbL.out; omega) (.cells #[.string t, .string tx] 100)) hgrow (by have := HB.out.size; have := HbL.out; simp; omega) (fun j e => (OW.out.lt j e).1)); have f8 := (BX.out.cell (p := ⟨X, 0, none⟩) hXb).trans c8; have g0 := (BX.out.cell (p := ⟨b, off + k * 2, none⟩) hbb).trans p0; have g1 := (BX.out.cell (p := ⟨b, off + k * 2 + 1, none⟩) hbb).trans p1; clear hown hgrow hnil) | (refine wpList_append_own _ rfl (.tmp 63) (.tmp 69) 23 rfl bL 100 i0' (.agg #[.string ⟨#[]⟩, .string ⟨#[]⟩]) 2 32 Tryz.underlying23 hii hy0 hy1 hy2 rfl (by decide) _ ((insTo L ⟨t, tx⟩ t k).length + 1) ((insTo L ⟨t, tx⟩ t k).flatMap srcV ++ srcV ⟨t, tx⟩) (by simp [Act.eval]) (OX.out.alloc _) ⟨wx.heap.size, 0, none⟩ 1 1 (srcV (srcF L k)) (by simp [Act.eval]) rfl (two_new wx _ _ _) (by simp [srcV, Value.oneCell']) (by unfold maxLen; omega) (by omega) (by have := BX.out.size; have := HbL.out; simp; omega) ?_; intro vy wy hown hgrow hnil; have OY := hide hown; have BY := hide (Below.grown (BX.out.alloc (by have := BX.out.size; have := HbL.out; omega) (.cells #[.string (srcF L k).name, .string (srcF L k).text] 100)) hgrow (by have := BX.out.size; have := HbL.out; simp; omega) (fun j e => (OX.out.lt j e).1)); clear hown hgrow hnil))
          exact ⟨⟨k + 1, true, by omega, by go_num, rfl, HN.out, by show World.ownsRow _ _ _ _ _ _ _; rw [HI.out, List.length_append, List.length_append, List.flatMap_append, List.flatMap_append]; simpa using OY.out, BY.out⟩, by simp [intOf]; omega⟩
        | false =>
          have HI : Hid (insTo L ⟨t, tx⟩ t (k + 1) = insTo L ⟨t, tx⟩ t k ++ [srcF L k]) := by show (if _ then _ else _) = _; rw [if_neg (by rw [hq]; simp)]
          have HN : Hid (false = doneTo L t (k + 1)) := by show false = (doneTo L t k || _); rw [← HDB.out, hq]; rfl
          have HQ := hide (tless_no hq)
          clear hq
          rcases HQ.out with q1 | ⟨q1, q2⟩
          all_goals
            go_wp2_with (at_builtin; (refine wpList_append_own _ rfl (.tmp 63) (.tmp 69) 23 rfl bL 100 i0' (.agg #[.string ⟨#[]⟩, .string ⟨#[]⟩]) 2 32 Tryz.underlying23 hii hy0 hy1 hy2 rfl (by decide) _ (insTo L ⟨t, tx⟩ t k).length ((insTo L ⟨t, tx⟩ t k).flatMap srcV) (by simp [Act.eval]) (OW.out.alloc _) ⟨wr.heap.size, 0, none⟩ 1 1 (srcV (srcF L k)) (by simp [Act.eval]) rfl (two_new wr _ _ _) (by simp [srcV, Value.oneCell']) (by unfold maxLen; omega) (by omega) (by have := HB.out.size; have := HbL.out; simp; omega) ?_; intro vy wy hown hgrow hnil; have OY := hide hown; have BY := hide (Below.grown (HB.out.alloc (by have := HB.out.size; have := HbL.out; omega) (.cells #[.string (srcF L k).name, .string (srcF L k).text] 100)) hgrow (by have := HB.out.size; have := HbL.out; simp; omega) (fun j e => (OW.out.lt j e).1)); clear hown hgrow hnil))
            exact ⟨⟨k + 1, false, by omega, by go_num, rfl, HN.out, by show World.ownsRow _ _ _ _ _ _ _; rw [HI.out, List.length_append, List.flatMap_append]; simpa using OY.out, BY.out⟩, by simp [intOf]; omega⟩
    · have e : L.length = k := by omega
      subst e
      cases db with
      | true =>
        have hi2 : insF L ⟨t, tx⟩ t = insTo L ⟨t, tx⟩ t L.length := by unfold insF; rw [if_pos HDB.out.symm]
        obtain ⟨va, vc, rfl⟩ := own_slice OW.out
        have OF : Hid (wr.ownsRow bL 100 2 (.slice va (insTo L ⟨t, tx⟩ t L.length).length vc) LS.length (LS.flatMap srcV)) := by
          show World.ownsRow _ _ _ _ _ _ _
          rw [HLS.out, hi2]
          exact OW.out
        have hb1 := HbL.out
        have hb2 := HZ4.out
        have H1 := hide hb1
        have H2 := hide hb2
        have H3 := hide hi2
        have e9 := (HB.out.cell (p := ⟨X, 1, none⟩) hXb).trans c9
        have y8 := (HB.out.frozen (p := ⟨X, 0, none⟩) hXb).trans K8.out.z0
        obtain ⟨r0, q0⟩ := (X4.out.below HB.out (by omega)).r0
        obtain ⟨r1, q1⟩ := (X4.out.below HB.out (by omega)).r1
        clear hb1 hb2 hi2
        go_wp2
        have hb1 := HbL.out
        have hb2 := HZ4.out
        exact bodyPost_ret (v := .tuple #[.agg #[.slice va (insTo L ⟨t, tx⟩ t L.length).length vc, .slice ta R.length tc], .int .i64 0]) (by simp [results, Tryz.results11, go_sem, r0, r1]) rfl ⟨_, _, R, rfl, own_mono (own_set (own_set (own_set OF.out (R := X) (j := 0) (by omega) _) (R := w.heap.size + 1) (j := 0) (by omega) _) (R := w.heap.size + 1) (j := 1) (by omega) _) (by omega), tRow_mono (((RX.out _ ((DB4.out.trans (HB.out.mono (by omega))).setCell (p := ⟨X, 0, none⟩) (Nat.le_refl _) _)).set (X := w.heap.size + 1) (j := 0) (by omega) _).set (X := w.heap.size + 1) (j := 1) (by omega) _) (by omega), HM.out, (((B4.out.trans (HB.out.mono (by omega))).setCell (by simp; omega) _).setCell (by simp) _).setCell (by simp) _⟩
      | false =>
        go_wp2_with (at_builtin; (refine wpList_append_own _ rfl (.tmp 73) (.tmp 77) 23 rfl bL 100 i0' (.agg #[.string ⟨#[]⟩, .string ⟨#[]⟩]) 2 32 Tryz.underlying23 hii hy0 hy1 hy2 rfl (by decide) _ (insTo L ⟨t, tx⟩ t L.length).length ((insTo L ⟨t, tx⟩ t L.length).flatMap srcV) (by simp [Act.eval]) (OW.out.alloc _) ⟨wr.heap.size, 0, none⟩ 1 1 (srcV ⟨t, tx⟩) (by simp [Act.eval]) rfl (two_new wr _ _ _) (by simp [srcV, Value.oneCell']) (by unfold maxLen; omega) (by omega) (by have := HB.out.size; have := HbL.out; simp; omega) ?_; intro vz wz hown hgrow hnil; obtain ⟨gs, cs, rfl⟩ := own_some hown (by omega); have OZ := hide hown; have BZ := hide (Below.grown (HB.out.alloc (by have := HB.out.size; have := HbL.out; omega) (.cells #[.string t, .string tx] 100)) hgrow (by have := HB.out.size; have := HbL.out; simp; omega) (fun j e => (OW.out.lt j e).1)); have f8 := (BZ.out.cell (p := ⟨X, 0, none⟩) hXb).trans c8; have f9 := (BZ.out.cell (p := ⟨X, 1, none⟩) hXb).trans c9; have y8 := (BZ.out.frozen (p := ⟨X, 0, none⟩) hXb).trans K8.out.z0; obtain ⟨r0, q0⟩ := (X4.out.below BZ.out (by have := HbL.out; have := HZ4.out; omega)).r0; obtain ⟨r1, q1⟩ := (X4.out.below BZ.out (by have := HbL.out; have := HZ4.out; omega)).r1; clear hown hgrow hnil))
        have hi2 : insF L ⟨t, tx⟩ t = insTo L ⟨t, tx⟩ t L.length ++ [⟨t, tx⟩] := by unfold insF; rw [if_neg (by rw [← HDB.out]; simp)]
        have OF : Hid (wz.ownsRow bL 100 2 (.slice (some ⟨gs, 0, none⟩) ((insTo L ⟨t, tx⟩ t L.length).length + 1) cs) LS.length (LS.flatMap srcV)) := by
          show World.ownsRow _ _ _ _ _ _ _
          rw [HLS.out, hi2, List.length_append, List.flatMap_append]
          simpa using OZ.out
        have hb1 := HbL.out
        have hb2 := HZ4.out
        exact bodyPost_ret (v := .tuple #[.agg #[.slice (some ⟨gs, 0, none⟩) ((insTo L ⟨t, tx⟩ t L.length).length + 1) cs, .slice ta R.length tc], .int .i64 0]) (by simp [results, Tryz.results11, go_sem, r0, r1]) rfl ⟨_, _, R, rfl, own_mono (own_set (own_set (own_set OF.out (R := X) (j := 0) (by omega) _) (R := w.heap.size + 1) (j := 0) (by omega) _) (R := w.heap.size + 1) (j := 1) (by omega) _) (by omega), tRow_mono (((RX.out _ ((DB4.out.trans (BZ.out.mono (by omega))).setCell (p := ⟨X, 0, none⟩) (Nat.le_refl _) _)).set (X := w.heap.size + 1) (j := 0) (by omega) _).set (X := w.heap.size + 1) (j := 1) (by omega) _) (by omega), HM.out, (((B4.out.trans (BZ.out.mono (by omega))).setCell (by simp; omega) _).setCell (by simp) _).setCell (by simp) _⟩
end Go.Proofs.YtkophfgkcijjkaaGreatDoor.Vp
