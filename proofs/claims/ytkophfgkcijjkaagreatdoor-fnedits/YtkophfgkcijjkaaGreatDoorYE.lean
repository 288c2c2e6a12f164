import Derived.Test.YtkophfgkcijjkaaGreatDoorYD
namespace Go.Proofs.YtkophfgkcijjkaaGreatDoor.Vp
open Go.RowKit
theorem alloc_or {w : World} {base size n : Nat} {e : TypeId} {v : Value} {xs : List Value} (h : w.ownsRow base e size v n xs ∨ ∃ b, v = .slice (some ⟨b, 0, none⟩) 0 0 ∧ n = 0 ∧ xs = []) (o : Obj) : (w.alloc o).ownsRow base e size v n xs ∨ ∃ b, v = .slice (some ⟨b, 0, none⟩) 0 0 ∧ n = 0 ∧ xs = [] :=
  h.imp (fun h => h.alloc o) id
theorem putT_end {w3 w6 wr : World} {base X Z bL lo m gb gc : Nat} {v0 v u0 u1 : Value} {R : List TR} {t : ByteArray} {fp : Nat → Ins} (RX : ∀ w', Below X w3 w' → TRow w' (base + 3) v0 R) (GB : Below X w3 wr) (HB : Below bL w6 wr) (OG : w6.ownsRow lo 176 3 (.slice (some ⟨gb, 0, none⟩) m gc) m (insL fp m)) (OF : wr.ownsRow bL 104 2 v (finR R (⟨t, m, fp⟩, gb, gc) t).length ((finR R (⟨t, m, fp⟩, gb, gc) t).flatMap tgtV)) (HNE : ∀ r ∈ R, r.2.1 < X) (hb : bL = w6.heap.size) (h1 : X < lo) (h2 : Z < base + 3) (h3 : base + 3 ≤ X) (h4 : lo ≤ bL) (h5 : lo ≤ gb) :
    TRow (((wr.setCell ⟨X, 1, none⟩ v).setCell ⟨Z, 0, none⟩ u0).setCell ⟨Z, 1, none⟩ u1) base v (finR R (⟨t, m, fp⟩, gb, gc) t) := by
  have T1 := RX _ (GB.setCell (p := ⟨X, 1, none⟩) (Nat.le_refl _) v)
  have OGr := own_set (own_below OG HB (by omega)) (R := X) (j := 1) (by omega) v
  have OFr := own_set OF (R := X) (j := 1) (by omega) v
  have T2 := (T1.set (X := Z) (j := 0) h2 u0).set (X := Z) (j := 1) h2 u1
  have OG2 := own_set (own_set OGr (R := Z) (j := 0) (by omega) u0) (R := Z) (j := 1) (by omega) u1
  have OF2 := own_set (own_set OFr (R := Z) (j := 0) (by omega) u0) (R := Z) (j := 1) (by omega) u1
  exact tRow_fin (tRow_mono T2 (by omega)) (own_act (x := ⟨t, m, fp⟩) (own_mono OG2 (by omega))) (fun r hr => by have := HNE r hr; show r.2.1 ≠ gb; omega) (own_mono OF2 (by omega))
set_option maxRecDepth 100000 in
set_option maxHeartbeats 8000000 in
theorem specPutT_any (a0 : Option Addr) (n0 c0 : Nat) (f0 : Nat → Source) (a1 : Option Addr) (n1 c1 : Nat) (f1 : Nat → Target) (t : ByteArray) (ap : Option Addr) (m cp : Nat) (fp : Nat → Ins) (w : World) (hn0 : (n0 : Int) ≤ 1048576) (hn1 : (n1 : Int) ≤ 1048576) (hm : m ≤ 1048576) (hv0 : SlSource w a0 n0 f0) (hv1 : SlTarget w a1 n1 f1) (hvp : SlIns w ap m fp) (hfit : ∀ i, i < n1 → FitsTarget (f1 i)) (hs : ∀ i, i < n1 → ∀ j, j < (f1 i).actN → ((f1 i).act j).s.size ≤ maxLen) (hsp : ∀ i, i < m → (fp i).s.size ≤ maxLen) :
    Calls Tryz.prog 17 #[.agg #[.slice a0 n0 c0, .slice a1 n1 c1], .string t, .agg #[.slice ap m cp]] w fun e w' => ∃ v0 v1 R, e = .returned (.tuple #[.agg #[v0, v1], .int .i64 (roomC n0 f0 n1 f1 t (valid fp m))]) ∧ w'.ownsRow w.heap.size 100 2 v0 (putTS n0 f0 n1 f1 t m fp).length ((putTS n0 f0 n1 f1 t m fp).flatMap srcV) ∧ TRow w' w.heap.size v1 R ∧ R.map (·.1) = putTT n0 f0 n1 f1 t m fp ∧ Below w.heap.size w w' := by
  have V0 := hide hv0
  have V1 := hide hv1
  have VP := hide hvp
  have HF := hide hfit
  have HS := hide hs
  have HSP := hide hsp
  clear hv0 hv1 hvp hfit hs hsp
  obtain ⟨i0', hii, hy0, hy1, hy2⟩ := info_parts infoTarget
  obtain ⟨C, hC⟩ : ∃ C, C = checkC n0 f0 n1 f1 := ⟨_, rfl⟩
  obtain ⟨rt, hrt⟩ : ∃ rt, rt = valid fp m := ⟨_, rfl⟩
  obtain ⟨D, hD⟩ : ∃ D, D = roomC n0 f0 n1 f1 t (valid fp m) := ⟨_, rfl⟩
  obtain ⟨LS, hLS⟩ : ∃ LS, LS = putTS n0 f0 n1 f1 t m fp := ⟨_, rfl⟩
  obtain ⟨LT, hLT⟩ : ∃ LT, LT = putTT n0 f0 n1 f1 t m fp := ⟨_, rfl⟩
  rw [← hD, ← hLS, ← hLT]
  have HC := hide hC
  have HR := hide hrt
  have HD := hide (hD.trans (by unfold roomC; rw [← hC, ← hrt]))
  have HLS := hide (hLS.trans (by unfold putTS; rw [← hD]))
  have HLT := hide (hLT.trans (by unfold putTT; rw [← hD]))
  clear hC hD hLS hLT hrt
  have A0 := hide ((((Below.refl w.heap.size w).alloc (Nat.le_refl _) (.cells #[.slice a0 n0 c0, .slice a1 n1 c1] 26)).alloc (by simp) (.cells #[.slice ap m cp] 31)).alloc (by simp; omega) (.cells #[.slice none 0 0, .slice none 0 0] 26))
  have X0 := hide (trio_new w (.slice a0 n0 c0) (.slice a1 n1 c1) (.slice ap m cp) 26 31)
  go_enter Tryz.func17, Tryz.ntmps17
  go_wp2_with fail
  generalize ((w.alloc (.cells #[.slice a0 n0 c0, .slice a1 n1 c1] 26)).alloc (.cells #[.slice ap m cp] 31)).alloc (.cells #[.slice none 0 0, .slice none 0 0] 26) = W at A0 X0 ⊢
  refine (specCheck_any a0 n0 c0 f0 a1 n1 c1 f1 _ hn0 hn1 (V0.out.below A0.out (Nat.le_refl _)) (V1.out.below A0.out (Nat.le_refl _)) HF.out HS.out).mono ?_
  rintro e w1 ⟨rfl, hB⟩
  rw [← HC.out]
  have X1 := hide (X0.out.below hB X0.out.lt)
  have B1 := hide (A0.out.trans (hB.mono A0.out.size))
  clear hB A0 X0
  by_cases hc : C = 0
  case neg =>
    have hd := HD.out
    rw [if_pos hc] at hd
    have hls := HLS.out
    rw [if_neg (by omega)] at hls
    have hlt := HLT.out
    rw [if_neg (by omega)] at hlt
    subst hd hls hlt
    have hc' : (C == 0) = false := by simpa using hc
    obtain ⟨r0, q0⟩ := X1.out.r0
    obtain ⟨r1, q1⟩ := X1.out.r1
    go_wp2
    exact bodyPost_ret (v := .tuple #[.agg #[.slice none 0 0, .slice none 0 0], .int .i64 1]) (by simp [results, Tryz.results17, go_sem, r0, r1]) rfl ⟨_, _, [], rfl, World.ownsRow_nil _ _ _ _, tRow_nil _ _, rfl, (B1.out.setCell (by simp; omega) _).setCell (by simp; omega) _⟩
  subst hc
  have hz := check_zero HC.out.symm
  have HZ := hide hz
  clear hz HC
  have hd1 := HD.out
  rw [if_neg (by omega)] at hd1
  have HD1 := hide hd1
  clear hd1 HD
  go_wp2_with fail
  refine (l1NameOk_any t _).mono ?_
  rintro e w2 ⟨rfl, hB⟩
  have X2 := hide (X1.out.below hB X1.out.lt)
  have B2 := hide (B1.out.trans (hB.mono B1.out.size))
  clear hB X1 B1
  cases hn : nameOk t with
  | false =>
    have hd := HD1.out
    rw [if_pos (.inl hn)] at hd
    have hls := HLS.out
    rw [if_neg (by omega)] at hls
    have hlt := HLT.out
    rw [if_neg (by omega)] at hlt
    subst hd hls hlt
    obtain ⟨r0, q0⟩ := X2.out.r0
    obtain ⟨r1, q1⟩ := X2.out.r1
    go_wp2
    exact bodyPost_ret (v := .tuple #[.agg #[.slice none 0 0, .slice none 0 0], .int .i64 2]) (by simp [results, Tryz.results17, go_sem, r0, r1]) rfl ⟨_, _, [], rfl, World.ownsRow_nil _ _ _ _, tRow_nil _ _, rfl, (B2.out.setCell (by simp; omega) _).setCell (by simp; omega) _⟩
  | true =>
  have k2 := X2.out.b0
  go_wp2_with fail
  refine (specValid_sl ap m cp fp _ hm (VP.out.below B2.out (Nat.le_refl _)) HSP.out).mono ?_
  rintro e w2' ⟨rfl, hB⟩
  rw [← HR.out]
  have X2' := hide (X2.out.below hB X2.out.lt)
  have B2' := hide (B2.out.trans (hB.mono B2.out.size))
  clear hB X2 B2 k2
  have hd2 := HD1.out
  rw [hn] at hd2
  clear HD1
  cases rt with
  | false =>
    rw [if_pos (.inr rfl)] at hd2
    have hls := HLS.out
    rw [if_neg (by omega)] at hls
    have hlt := HLT.out
    rw [if_neg (by omega)] at hlt
    subst hd2 hls hlt
    obtain ⟨r0, q0⟩ := X2'.out.r0
    obtain ⟨r1, q1⟩ := X2'.out.r1
    go_wp2
    exact bodyPost_ret (v := .tuple #[.agg #[.slice none 0 0, .slice none 0 0], .int .i64 2]) (by simp [results, Tryz.results17, go_sem, r0, r1]) rfl ⟨_, _, [], rfl, World.ownsRow_nil _ _ _ _, tRow_nil _ _, rfl, (B2'.out.setCell (by simp; omega) _).setCell (by simp; omega) _⟩
  | true =>
  rw [if_neg (by simp)] at hd2
  have HD2 := hide hd2
  clear hd2 hn
  have hm1 : 1 ≤ m := by
    have h := HR.out
    unfold valid at h
    have h2 := (Bool.and_eq_true_iff.1 h.symm).2
    have := (of_decide_eq_true h2).1
    omega
  obtain ⟨pb, po, rfl, hpr⟩ := VP.out.resolve_left (by omega)
  have HPR := hide hpr
  clear VP hpr HR
  have k0 := X2'.out.a0
  have k1 := X2'.out.a1
  go_wp2_with fail
  refine (l2Without_any a0 n0 c0 f0 a1 n1 c1 f1 t _ hn0 hn1 (V0.out.below B2'.out (Nat.le_refl _)) (V1.out.below B2'.out (Nat.le_refl _)) HF.out).mono ?_
  rintro e w3 ⟨v0, v1, R, rfl, hO, hR, hM, hB⟩
  have hlt2 := X2'.out.lt
  have X3 := hide (X2'.out.below hB X2'.out.lt)
  have B3 := hide (B2'.out.trans (hB.mono B2'.out.size))
  obtain ⟨sa, sc, rfl⟩ := own_slice hO
  obtain ⟨ta, tc, rfl⟩ := own_slice hR.own
  have eR : R.length = (keepT f1 t n1).length := by rw [← hM]; simp
  have hl0 := keepS_len f0 t n0
  have hl1 := keepT_len f1 t n1
  obtain ⟨L, hL⟩ : ∃ L, L = keepS f0 t n0 := ⟨_, rfl⟩
  obtain ⟨K, hK⟩ : ∃ K, K = keepT f1 t n1 := ⟨_, rfl⟩
  rw [← hL] at hO hl0 ⊢
  rw [← hK] at hM hl1 eR
  have hd3 := HD2.out
  rw [← hL, ← hK] at hd3
  have hls := HLS.out
  rw [← hL] at hls
  have hlt := HLT.out
  rw [← hK] at hlt
  have ER := hide eR
  have hlr : R.length ≤ n1 := by omega
  clear HD2 HLS HLT hL hK hB k0 k1 X2' B2' eR
  have hbw : w.heap.size + 3 ≤ w2'.heap.size := hlt2
  have O3 := hide (own_mono hO (base' := w.heap.size + 3) (by omega))
  have R3 := hide (tRow_mono hR (base' := w.heap.size + 3) (by omega))
  have HM := hide hM
  have hll : (L.length : Int) ≤ 1048576 := by omega
  clear hO hR hM
  have DB := hide ((Below.refl w3.heap.size w3).alloc (Nat.le_refl _) (.cells #[.slice sa L.length sc, .slice ta R.length tc] 26))
  have K8 := hide (twoF_box w3 (.slice sa L.length sc) (.slice ta R.length tc) 26)
  have X4 := hide (X3.out.below DB.out X3.out.lt)
  have B4 := hide (B3.out.trans (DB.out.mono B3.out.size))
  have O4 := hide (own_below O3.out DB.out (Nat.le_refl _))
  have R4 := hide (R3.out.below DB.out (Nat.le_refl _))
  have DB4 := hide DB.out
  have hx8 : w.heap.size + 2 < w3.heap.size := X3.out.lt
  have c8 := K8.out.c0
  have c9 := K8.out.c1
  clear DB
  by_cases hc3 : (200 : Int) ≤ L.length + R.length
  · rw [if_pos (by have := ER.out; omega)] at hd3
    rw [if_neg (by omega)] at hls hlt
    subst hd3 hls hlt
    obtain ⟨r0, q0⟩ := X3.out.r0
    obtain ⟨r1, q1⟩ := X3.out.r1
    clear c8 c9
    go_wp2
    exact bodyPost_ret (v := .tuple #[.agg #[.slice none 0 0, .slice none 0 0], .int .i64 3]) (by simp [results, Tryz.results17, go_sem, r0, r1, hx8]) rfl ⟨_, _, [], rfl, World.ownsRow_nil _ _ _ _, tRow_nil _ _, rfl, ((B3.out.setCell (by simp; omega) _).setCell (by simp; omega) _).alloc (by have := B3.out.size; simp; omega) _⟩
  clear X3
  rw [if_neg (by have := ER.out; omega)] at hd3
  rw [if_pos hd3] at hls hlt
  subst hd3 hls
  have HLT := hide hlt
  clear hlt
  have k2 := X4.out.b0
  have hz4 : (w3.alloc (.cells #[.slice sa LS.length sc, .slice ta R.length tc] 26)).heap.size = w3.heap.size + 1 := by simp
  have RX : Hid (∀ w', Below w3.heap.size w3 w' → TRow w' (w.heap.size + 3) (.slice ta R.length tc) R) := fun w' hb => R3.out.below hb (Nat.le_refl _)
  have OX : Hid (∀ w', Below w3.heap.size w3 w' → w'.ownsRow (w.heap.size + 3) 100 2 (.slice sa LS.length sc) LS.length (LS.flatMap srcV)) := fun w' hb => own_below O3.out hb (Nat.le_refl _)
  have HNE : Hid (∀ r ∈ R, r.2.1 < w3.heap.size) := fun r hr => (R3.out.act r hr).1.1
  have E5 := hide ((Below.refl (w3.alloc (.cells #[.slice sa LS.length sc, .slice ta R.length tc] 26)).heap.size (w3.alloc (.cells #[.slice sa LS.length sc, .slice ta R.length tc] 26))).alloc (Nat.le_refl _) (.cells #[] 104))
  have hz5 : ((w3.alloc (.cells #[.slice sa LS.length sc, .slice ta R.length tc] 26)).alloc (.cells #[] 104)).heap.size = (w3.alloc (.cells #[.slice sa LS.length sc, .slice ta R.length tc] 26)).heap.size + 1 := by simp
  have k3 := (E5.out.cell (p := ⟨w.heap.size + 1, 0, none⟩) (by show w.heap.size + 1 < _; have := X4.out.lt; omega)).trans k2
  have HPR4 := hide (HPR.out.below B4.out (Nat.le_refl _))
  have HZ4 := hide hz4
  have HZ5 := hide hz5
  clear R3 O3 k2 hz4 hz5
  go_wp2_with fail
  generalize (w3.alloc (.cells #[.slice sa LS.length sc, .slice ta R.length tc] 26)).alloc (.cells #[] 104) = w4a at E5 HZ5 k3 ⊢
  generalize w3.alloc (.cells #[.slice sa LS.length sc, .slice ta R.length tc] 26) = w4 at K8 X4 B4 O4 R4 c8 c9 HZ4 HZ5 DB4 E5 HPR4
  generalize w3.heap.size = X at K8 c8 c9 hx8 HZ4 RX OX HNE DB4 ⊢
  refine (l2Program_row pb po m cp fp _ (by omega) (HPR4.out.below E5.out (Nat.le_refl _))).mono ?_
  rintro e w5 ⟨gb, gc, rfl, hO5, hB5⟩
  have hzx : w4.heap.size = X + 1 := HZ4.out
  have hzy : w4a.heap.size = w4.heap.size + 1 := HZ5.out
  have F5 := hide (E5.out.trans (hB5.mono (by omega)))
  have OG := hide hO5
  have hgb := (own_lt hO5).1
  clear hO5 hB5 E5 HZ4 HZ5 k3 HPR4
  have hz6 : (w5.alloc (.cells #[.string t, .slice (some ⟨gb, 0, none⟩) m gc] 104)).heap.size = w5.heap.size + 1 := by simp
  have F6 := hide (F5.out.alloc F5.out.size (.cells #[.string t, .slice (some ⟨gb, 0, none⟩) m gc] 104))
  have y0 : (w5.alloc (.cells #[.string t, .slice (some ⟨gb, 0, none⟩) m gc] 104)).cell? ⟨w5.heap.size, 0, none⟩ = some (.string t) := by simp
  have y1 : (w5.alloc (.cells #[.string t, .slice (some ⟨gb, 0, none⟩) m gc] 104)).cell? ⟨w5.heap.size, 1, none⟩ = some (.slice (some ⟨gb, 0, none⟩) m gc) := by simp
  have OG6 := hide (OG.out.alloc (.cells #[.string t, .slice (some ⟨gb, 0, none⟩) m gc] 104))
  have hF6 := F6.out.size
  have HH6 := hide hF6
  clear hF6 OG F5
  go_wp2
  generalize w5.alloc (.cells #[.string t, .slice (some ⟨gb, 0, none⟩) m gc] 104) = w6 at hz6 F6 y0 y1 OG6 HH6 ⊢
  have hgw : gb < w6.heap.size := (own_lt OG6.out).2
  generalize w5.heap.size = Y at hz6 y0 y1 ⊢
  obtain ⟨bL, hbL⟩ : ∃ bL, bL = w6.heap.size := ⟨_, rfl⟩
  have HbL := hide hbL
  have hXb : X < bL := by have := HH6.out; omega
  have hYb : Y < bL := by omega
  have c8' := (F6.out.cell (p := ⟨X, 0, none⟩) (by show X < _; omega)).trans c8
  have c9' := (F6.out.cell (p := ⟨X, 1, none⟩) (by show X < _; omega)).trans c9
  have K8z := (F6.out.frozen (p := ⟨X, 1, none⟩) (by show X < _; omega)).trans K8.out.z1
  have X6 := hide (X4.out.below F6.out (by have := X4.out.lt; omega))
  have R6 := hide (R4.out.below F6.out (Nat.le_refl _))
  have F36 := hide (DB4.out.trans (F6.out.mono (by omega)))
  have hx9 : w.heap.size ≤ X := by omega
  have hb1 : X + 2 < bL + 0 := by have := HH6.out; omega
  clear c8 c9 K8 R4 O4 X4 B4 hz6 hbL DB4 F6 V0 V1 HF HS HSP HPR HZ HH6
  have c8 := c8'
  have c9 := c9'
  clear c8' c9'
  obtain ⟨I, hI⟩ : ∃ I, I = insG (nm1 (tgtF (R.map fun r : TR => r.1))) (fun j => R.getD j dfR) ((⟨t, m, fp⟩, gb, gc) : TR) t := ⟨_, rfl⟩
  obtain ⟨DN, hDN⟩ : ∃ DN, DN = doneG (nm1 (tgtF (R.map fun r : TR => r.1))) t := ⟨_, rfl⟩
  have HIS : Hid (∀ k, I (k + 1) = if DN k = false ∧ tless t (R.getD k dfR).1.name = true then I k ++ [(⟨t, m, fp⟩, gb, gc)] ++ [R.getD k dfR] else I k ++ [R.getD k dfR]) := fun k => by rw [hI, hDN, ← nm_getD R k]; rfl
  have HDS : Hid (∀ k, DN (k + 1) = (DN k || tless t (R.getD k dfR).1.name)) := fun k => by rw [hDN, ← nm_getD R k]; rfl
  have HIL : Hid (∀ k, (I k).length ≤ k + 1) := fun k => by rw [hI]; exact (insG_len _ _ _ _ k).1
  have HIN : Hid (∀ k, DN k = true → (I k).length ≠ 0) := fun k h => by rw [hI]; rw [hDN] at h; exact insG_ne h
  have HIF : Hid (finR R (⟨t, m, fp⟩, gb, gc) t = if DN R.length = true then I R.length else I R.length ++ [(⟨t, m, fp⟩, gb, gc)]) := by rw [hI, hDN]; rfl
  have HI0 : Hid (I 0 = [] ∧ DN 0 = false) := by rw [hI, hDN]; exact ⟨rfl, rfl⟩
  clear hI hDN
  go_loopw [9, 10, 12] (fun v d i wr => ∃ (k : Nat) (db : Bool), k ≤ R.length ∧ i = .int .i64 k ∧ d = .bool db ∧ Hid (db = DN k) ∧ Hid (wr.ownsRow bL 104 2 v (I k).length ((I k).flatMap tgtV) ∨ ∃ b, v = .slice (some ⟨b, 0, none⟩) 0 0 ∧ (I k).length = 0 ∧ (I k).flatMap tgtV = []) ∧ Hid (Below bL w6 wr)) (fun _ _ i _ => R.length - (intOf i).toNat)
  case atStart => exact ⟨0, false, by omega, rfl, rfl, HI0.out.2.symm, .inr ⟨_, rfl, by rw [HI0.out.1]; rfl, by rw [HI0.out.1]; rfl⟩, by rw [HbL.out]; exact Below.refl _ _⟩
  case round =>
    obtain ⟨k, db, hk, rfl, rfl, HDB, OW, HB⟩ := hrel
    have e9 := (HB.out.cell (p := ⟨X, 1, none⟩) hXb).trans c9
    have z0 := (HB.out.cell (p := ⟨Y, 0, none⟩) hYb).trans y0
    have z1 := (HB.out.cell (p := ⟨Y, 1, none⟩) hYb).trans y1
    have hlen1 := HIL.out k
    by_cases hlt : k < R.length
    · obtain ⟨b, off, rfl, hbl, hcl⟩ := trow_cells R6.out (by omega)
      obtain ⟨p0, p1⟩ := hcl k hlt
      have his := HIS.out k
      have hds := HDS.out k
      generalize R.getD k dfR = rk at p0 p1 his hds
      have HIS1 := hide his
      have HDS1 := hide hds
      clear his hds
      have hbb : b < bL := by have := HbL.out; omega
      have d0 := (HB.out.cell (p := ⟨b, off + k * 2, none⟩) hbb).trans p0
      have d1 := (HB.out.cell (p := ⟨b, off + k * 2 + 1, none⟩) hbb).trans p1
      clear hcl
      cases db with
      | true =>
        have HI : Hid (I (k + 1) = I k ++ [rk]) := by show _ = _; rw [HIS1.out, if_neg (by rw [← HDB.out]; simp)]
        have HN : Hid (true = DN (k + 1)) := by show true = _; rw [HDS1.out, ← HDB.out]; rfl
        go_wp2_with (at_builtin; (refine wpList_append_z rfl (.tmp 66) (.tmp 72) 24 rfl bL 104 i0' (.agg #[.string ⟨#[]⟩, .slice none 0 0]) 2 40 Tryz.underlying24 hii hy0 hy1 hy2 rfl (by decide) _ (I k).length ((I k).flatMap tgtV) (by simp [Act.eval]) (alloc_or OW.out _) ⟨wr.heap.size, 0, none⟩ 1 (tgtV rk) (by simp [Act.eval]) rfl (two_new wr _ _ _) (by simp [tgtV, Value.oneCell']) (by unfold maxLen; omega) (by omega) (by have := HB.out.size; have := HbL.out; simp; omega) ?_; intro vy wy hown hbel; have OY := hide hown; have BY := hide ((HB.out.alloc (by have := HB.out.size; have := HbL.out; omega) _).trans hbel); clear hown hbel))
        exact ⟨⟨k + 1, true, by omega, by go_num, rfl, HN.out, .inl (by rw [HI.out, List.length_append, List.flatMap_append]; simpa using OY.out), BY.out⟩, by simp [intOf]; omega⟩
      | false =>
        cases hq : tless t rk.1.name with
        | true =>
          have HI : Hid (I (k + 1) = I k ++ [(⟨t, m, fp⟩, gb, gc)] ++ [rk]) := by show _ = _; rw [HIS1.out, if_pos ⟨HDB.out.symm, hq⟩]
          have HN : Hid (true = DN (k + 1)) := by show true = _; rw [HDS1.out, hq]; simp
          obtain ⟨q1, q2⟩ := tless_yes hq
          clear hq
          go_wp2_with (at_builtin; first | (refine wpList_append_z rfl (.tmp 62) (.tmp 64) 24 rfl bL 104 i0' (.agg #[.string ⟨#[]⟩, .slice none 0 0]) 2 40 Tryz.underlying24 hii hy0 hy1 hy2 rfl (by decide) _ (I k).length ((I k).flatMap tgtV) (by simp [Act.eval]) (alloc_or OW.out _) ⟨wr.heap.size, 0, none⟩ 1 (tgtV (⟨t, m, fp⟩, gb, gc)) (by simp [Act.eval]) rfl (two_new wr _ _ _) (by simp [tgtV, Value.oneCell']) (by unfold maxLen; omega) (by omega) (by have := HB.out.size; have := HbL.out; simp; omega) ?_; intro vx wx hown hbel; have OX2 := hide hown; have BX := hide ((HB.out.alloc (by have := HB.out.size; have := HbL.out; omega) _).trans hbel); have f9 := (BX.out.cell (p := ⟨X, 1, none⟩) hXb).trans c9; have g0 := (BX.out.cell (p := ⟨b, off + k * 2, none⟩) hbb).trans p0; have g1 := (BX.out.cell (p := ⟨b, off + k * 2 + 1, none⟩) hbb).trans p1; clear hown hbel) | (refine wpList_append_z rfl (.tmp 66) (.tmp 72) 24 rfl bL 104 i0' (.agg #[.string ⟨#[]⟩, .slice none 0 0]) 2 40 Tryz.underlying24 hii hy0 hy1 hy2 rfl (by decide) _ ((I k).length + 1) ((I k).flatMap tgtV ++ tgtV (⟨t, m, fp⟩, gb, gc)) (by simp [Act.eval]) (.inl (OX2.out.alloc _)) ⟨wx.heap.size, 0, none⟩ 1 (tgtV rk) (by simp [Act.eval]) rfl (two_new wx _ _ _) (by simp [tgtV, Value.oneCell']) (by unfold maxLen; omega) (by omega) (by have := BX.out.size; have := HbL.out; simp; omega) ?_; intro vy wy hown hbel; have OY := hide hown; have BY := hide ((BX.out.alloc (by have := BX.out.size; have := HbL.out; omega) _).trans hbel); clear hown hbel))
          exact ⟨⟨k + 1, true, by omega, by go_num, rfl, HN.out, .inl (by rw [HI.out, List.length_append, List.length_append, List.flatMap_append, List.flatMap_append]; simpa using OY.out), BY.out⟩, by simp [intOf]; omega⟩
        | false =>
          have HI : Hid (I (k + 1) = I k ++ [rk]) := by show _ = _; rw [HIS1.out, if_neg (by rw [hq]; simp)]
          have HN : Hid (false = DN (k + 1)) := by show false = _; rw [HDS1.out, ← HDB.out, hq]; rfl
          have HQ := hide (tless_no hq)
          clear hq
          rcases HQ.out with q1 | ⟨q1, q2⟩
          all_goals
            go_wp2_with (at_builtin; (refine wpList_append_z rfl (.tmp 66) (.tmp 72) 24 rfl bL 104 i0' (.agg #[.string ⟨#[]⟩, .slice none 0 0]) 2 40 Tryz.underlying24 hii hy0 hy1 hy2 rfl (by decide) _ (I k).length ((I k).flatMap tgtV) (by simp [Act.eval]) (alloc_or OW.out _) ⟨wr.heap.size, 0, none⟩ 1 (tgtV rk) (by simp [Act.eval]) rfl (two_new wr _ _ _) (by simp [tgtV, Value.oneCell']) (by unfold maxLen; omega) (by omega) (by have := HB.out.size; have := HbL.out; simp; omega) ?_; intro vy wy hown hbel; have OY := hide hown; have BY := hide ((HB.out.alloc (by have := HB.out.size; have := HbL.out; omega) _).trans hbel); clear hown hbel))
            exact ⟨⟨k + 1, false, by omega, by go_num, rfl, HN.out, .inl (by rw [HI.out, List.length_append, List.flatMap_append]; simpa using OY.out), BY.out⟩, by simp [intOf]; omega⟩
    · have e : R.length = k := by omega
      subst e
      cases db with
      | true =>
        have hi2 : finR R (⟨t, m, fp⟩, gb, gc) t = I R.length := by rw [HIF.out, if_pos HDB.out.symm]
        have ow := OW.out.resolve_right (by rintro ⟨b, _, h0, _⟩; exact HIN.out _ HDB.out.symm h0)
        obtain ⟨va, vc, rfl⟩ := own_some ow (by have := HIN.out _ HDB.out.symm; omega)
        have OF : Hid (wr.ownsRow bL 104 2 (.slice (some ⟨va, 0, none⟩) (I R.length).length vc) (finR R (⟨t, m, fp⟩, gb, gc) t).length ((finR R (⟨t, m, fp⟩, gb, gc) t).flatMap tgtV)) := by
          show World.ownsRow _ _ _ _ _ _ _
          rw [hi2]
          exact ow
        have e8 := (HB.out.cell (p := ⟨X, 0, none⟩) hXb).trans c8
        have y9 := (HB.out.frozen (p := ⟨X, 1, none⟩) hXb).trans K8z
        obtain ⟨r0, q0⟩ := (X6.out.below HB.out (by omega)).r0
        obtain ⟨r1, q1⟩ := (X6.out.below HB.out (by omega)).r1
        have H3 := hide hi2
        clear hi2 ow OW
        go_wp2
        refine ?_
        have GB := hide (F36.out.trans (HB.out.mono (by omega)))
        refine bodyPost_ret (v := .tuple #[.agg #[.slice sa LS.length sc, .slice (some ⟨va, 0, none⟩) (I R.length).length vc], .int .i64 0]) (by simp [results, Tryz.results17, go_sem, r0, r1]) rfl ⟨_, _, finR R (⟨t, m, fp⟩, gb, gc) t, rfl, own_mono (own_set (own_set (OX.out _ ((GB.out).setCell (p := ⟨X, 1, none⟩) (Nat.le_refl _) _)) (R := w.heap.size + 2) (j := 0) (by omega) _) (R := w.heap.size + 2) (j := 1) (by omega) _) (by omega), ?_, (finR_map R (⟨t, m, fp⟩, gb, gc) t).trans (by rw [HM.out]; exact HLT.out.symm), (((B3.out.trans ((GB.out).mono hx9)).setCell (by simp; omega) _).setCell (by simp; omega) _).setCell (by simp; omega) _⟩
        exact putT_end (X := X) (Z := w.heap.size + 2) (bL := bL) (lo := w4a.heap.size) RX.out GB.out HB.out OG6.out OF.out HNE.out HbL.out (by omega) (by omega) (by omega) (by omega) hgb
      | false =>
        go_wp2_with (at_builtin; (refine wpList_append_z rfl (.tmp 76) (.tmp 78) 24 rfl bL 104 i0' (.agg #[.string ⟨#[]⟩, .slice none 0 0]) 2 40 Tryz.underlying24 hii hy0 hy1 hy2 rfl (by decide) _ (I R.length).length ((I R.length).flatMap tgtV) (by simp [Act.eval]) (alloc_or OW.out _) ⟨wr.heap.size, 0, none⟩ 1 (tgtV (⟨t, m, fp⟩, gb, gc)) (by simp [Act.eval]) rfl (two_new wr _ _ _) (by simp [tgtV, Value.oneCell']) (by unfold maxLen; omega) (by omega) (by have := HB.out.size; have := HbL.out; simp; omega) ?_; intro vz wz hown hbel; obtain ⟨gs, cs, rfl⟩ := own_some hown (Nat.succ_pos _); have OZ := hide hown; have BZ := hide ((HB.out.alloc (by have := HB.out.size; have := HbL.out; omega) _).trans hbel); have f8 := (BZ.out.cell (p := ⟨X, 0, none⟩) hXb).trans c8; have f9 := (BZ.out.cell (p := ⟨X, 1, none⟩) hXb).trans c9; have y9 := (BZ.out.frozen (p := ⟨X, 1, none⟩) hXb).trans K8z; obtain ⟨r0, q0⟩ := (X6.out.below BZ.out (by have := HbL.out; omega)).r0; obtain ⟨r1, q1⟩ := (X6.out.below BZ.out (by have := HbL.out; omega)).r1; clear hown hbel))
        have hi2 : finR R (⟨t, m, fp⟩, gb, gc) t = I R.length ++ [(⟨t, m, fp⟩, gb, gc)] := by rw [HIF.out, if_neg (by rw [← HDB.out]; simp)]
        have OF : Hid (wz.ownsRow bL 104 2 (.slice (some ⟨gs, 0, none⟩) ((I R.length).length + 1) cs) (finR R (⟨t, m, fp⟩, gb, gc) t).length ((finR R (⟨t, m, fp⟩, gb, gc) t).flatMap tgtV)) := by
          show World.ownsRow _ _ _ _ _ _ _
          rw [hi2, List.length_append, List.flatMap_append]
          simpa using OZ.out
        have GB := hide (F36.out.trans (BZ.out.mono (by omega)))
        refine bodyPost_ret (v := .tuple #[.agg #[.slice sa LS.length sc, .slice (some ⟨gs, 0, none⟩) ((I R.length).length + 1) cs], .int .i64 0]) (by simp [results, Tryz.results17, go_sem, r0, r1]) rfl ⟨_, _, finR R (⟨t, m, fp⟩, gb, gc) t, rfl, own_mono (own_set (own_set (OX.out _ ((GB.out).setCell (p := ⟨X, 1, none⟩) (Nat.le_refl _) _)) (R := w.heap.size + 2) (j := 0) (by omega) _) (R := w.heap.size + 2) (j := 1) (by omega) _) (by omega), ?_, (finR_map R (⟨t, m, fp⟩, gb, gc) t).trans (by rw [HM.out]; exact HLT.out.symm), (((B3.out.trans ((GB.out).mono hx9)).setCell (by simp; omega) _).setCell (by simp; omega) _).setCell (by simp; omega) _⟩
        exact putT_end (X := X) (Z := w.heap.size + 2) (bL := bL) (lo := w4a.heap.size) RX.out GB.out BZ.out OG6.out OF.out HNE.out HbL.out (by omega) (by omega) (by omega) (by omega) hgb
end Go.Proofs.YtkophfgkcijjkaaGreatDoor.Vp
