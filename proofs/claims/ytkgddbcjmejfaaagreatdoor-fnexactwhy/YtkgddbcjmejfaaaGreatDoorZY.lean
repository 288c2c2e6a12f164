/-
  Put together of: WhSpec3.
-/
import Derived.Test.YtkgddbcjmejfaaaGreatDoorZQ
import Derived.Test.YtkgddbcjmejfaaaGreatDoorZX

/-
  spec: Why.
-/
namespace Go.Proofs.YtkgddbcjmejfaaaGreatDoor.Vp
open Go.RowKit Go.Proofs.YtkgddbcjmejfaaaGreatDoor.Ca

theorem tl_at : ∀ (T : List TlR) (i j : Nat) (_ : j < 3) (r : TlR), T[i]? = some r → (T.flatMap tlV)[i * 3 + j]? = (tlV r)[j]?
  | [], i, j, _, r, h => by simp at h
  | y :: T, 0, j, hj, r, h => by
    simp at h
    subst h
    rw [List.flatMap_cons, Nat.zero_mul, Nat.zero_add, List.getElem?_append_left (by simp [tlV]; omega)]
  | y :: T, i + 1, j, hj, r, h => by
    rw [List.flatMap_cons, List.getElem?_append_right (by simp [tlV]; omega)]
    have := tl_at T i j hj r (by simpa using h)
    rw [show (i + 1) * 3 + j - (tlV y).length = i * 3 + j by simp [tlV]; omega]
    exact this
/-- The row of what is told, for good. -/
structure TRow (w : World) (a : Option Addr) (c : Nat) (T : List TlR) : Prop where
  own : ∃ base, w.ownsRow base 69 3 (.slice a T.length c) T.length (T.flatMap tlV)
  sl : ∀ r ∈ T, SlIns w r.2.1 r.1.actN r.1.act
theorem TRow.below {w w' : World} {a : Option Addr} {c B : Nat} {T : List TlR} (h : TRow w a c T) (hb : Below B w w') (hB : w.heap.size ≤ B) : TRow w' a c T := by
  obtain ⟨⟨base, h1⟩, h2⟩ := h
  exact ⟨⟨base, own_below h1 hb hB⟩, fun r hr => (h2 r hr).below hb hB⟩
theorem TRow.at {w : World} {a : Option Addr} {c i : Nat} {T : List TlR} {r : TlR} (h : TRow w a c T) (hr : T[i]? = some r) : ∃ g, a = some ⟨g, 0, none⟩ ∧ g < w.heap.size ∧ w.cell? ⟨g, i * 3, none⟩ = some (.int .i64 r.1.kind) ∧ w.cell? ⟨g, i * 3 + 1, none⟩ = some (.string r.1.text) ∧ w.cell? ⟨g, i * 3 + 2, none⟩ = some (.slice r.2.1 r.1.actN r.2.2) := by
  obtain ⟨⟨base, h1⟩, -⟩ := h
  have hi := (List.getElem?_eq_some_iff.1 hr).1
  obtain ⟨g, c', e⟩ := wh_some h1 (by omega)
  cases e
  have hc : ∀ j, j < 3 → ∀ u, (tlV r)[j]? = some u → w.cell? ⟨g, i * 3 + j, none⟩ = some u := fun j hj u hu => by
    have := h1.cells (g := g) rfl (i * 3 + j) u (by rw [tl_at T i j hj r hr]; exact hu)
    have ha : (⟨g, 0, none⟩ : Addr).add (i * 3 + j) = ⟨g, 0 + (i * 3 + j), none⟩ := by
      unfold Addr.add
      split <;> simp_all
    rw [ha, Nat.zero_add] at this
    exact this
  exact ⟨g, rfl, (h1.lt g rfl).2, hc 0 (by omega) _ rfl, hc 1 (by omega) _ rfl, hc 2 (by omega) _ rfl⟩

theorem tellLk_fits (g : Nat → Link) (nm : List UInt8) (j : Nat) : ∀ x ∈ tellLk g nm j, x.actN ≤ 1048576 := by
  induction j with
  | zero => intro x hx; cases hx
  | succ j ih =>
    intro x hx
    rw [tellLk] at hx
    rcases List.mem_append.1 hx with hx | hx
    · exact ih x hx
    · split at hx
      · simp at hx
        subst hx
        exact Nat.zero_le _
      · cases hx
theorem tells_fits {f : Nat → Deed} {nm : List UInt8} {n : Nat} (hf : ∀ i, i < n → FitsDeed (f i)) : ∀ x ∈ tellsTo f nm n, x.actN ≤ 1048576 := by
  induction n with
  | zero => intro x hx; cases hx
  | succ k ih =>
    intro x hx
    rw [tellsTo] at hx
    rcases List.mem_append.1 hx with hx | hx
    · rcases List.mem_append.1 hx with hx | hx
      · exact ih (fun i hi => hf i (by omega)) x hx
      · split at hx
        · simp at hx
          subst hx
          exact (hf k (by omega)).1
        · cases hx
    · exact tellLk_fits _ _ _ x hx

theorem two_boxes (w : World) (u v : Value) (cs : Array Value) (t t' : TypeId) : (((w.alloc (.cells #[u] t)).alloc (.cells #[v] t)).alloc (.cells cs t')).cell? ⟨w.heap.size, 0, none⟩ = some u ∧ (((w.alloc (.cells #[u] t)).alloc (.cells #[v] t)).alloc (.cells cs t')).cell? ⟨w.heap.size + 1, 0, none⟩ = some v := by
  obtain ⟨w1, e1⟩ : ∃ w1, w.alloc (.cells #[u] t) = w1 := ⟨_, rfl⟩
  obtain ⟨w2, e2⟩ : ∃ w2, w1.alloc (.cells #[v] t) = w2 := ⟨_, rfl⟩
  obtain ⟨w3, e3⟩ : ∃ w3, w2.alloc (.cells cs t') = w3 := ⟨_, rfl⟩
  rw [e1, e2, e3]
  have z1 : w1.heap.size = w.heap.size + 1 := by rw [← e1]; simp
  have z2 : w2.heap.size = w.heap.size + 2 := by rw [← e2]; simp; omega
  have b23 : Below w2.heap.size w2 w3 := by rw [← e3]; exact (Below.refl _ _).alloc (Nat.le_refl _) _
  have b13 : Below w1.heap.size w1 w3 := (by rw [← e2]; exact (Below.refl _ _).alloc (Nat.le_refl _) _ : Below w1.heap.size w1 w2).trans (b23.mono (by omega))
  have n1 : w1.cell? ⟨w.heap.size, 0, none⟩ = some u := by rw [← e1]; simp
  have n2 : w2.cell? ⟨w1.heap.size, 0, none⟩ = some v := by rw [← e2]; simp
  rw [z1] at n2
  exact ⟨(b13.cell (p := ⟨w.heap.size, 0, none⟩) (by show w.heap.size < _; omega)).trans n1, (b23.cell (p := ⟨w.heap.size + 1, 0, none⟩) (by show w.heap.size + 1 < _; omega)).trans n2⟩

set_option maxRecDepth 100000 in
set_option maxHeartbeats 8000000 in
theorem specWhy_any (a0 : Option Addr) (n c0 : Nat) (f : Nat → Deed) (a1 : Option Addr) (m c1 : Nat) (g : Nat → Deed) (w : World) (hn : (n : Int) ≤ 1048576) (hm : (m : Int) ≤ 1048576) (hv0 : SlDeed w a0 n f) (hv1 : SlDeed w a1 m g) (hfit0 : ∀ i, i < n → FitsDeed (f i)) (hfit1 : ∀ i, i < m → FitsDeed (g i)) (hsz0 : ∀ i, i < n → SizedDeed (f i)) (hsz1 : ∀ i, i < m → SizedDeed (g i)) :
    Calls Tryz.prog 15 #[.agg #[.slice a0 n c0], .agg #[.slice a1 m c1]] w fun e w' => ∃ b off k c : Nat, e = .returned (.slice (some ⟨b, off, none⟩) k c) ∧ k = (whyL f n g m).length ∧ RowStr w' b off k (nmF (whyL f n g m)) ∧ Below w.heap.size w w' := by
  have HV0 := hide hv0
  have HV1 := hide hv1
  have HM0 := hide hfit0
  have HM1 := hide hfit1
  have HZ0 := hide hsz0
  have HZ1 := hide hsz1
  clear hv0 hv1 hfit0 hfit1 hsz0 hsz1
  have A0 := hide ((((Below.refl w.heap.size w).alloc (Nat.le_refl _) (.cells #[.slice a0 n c0] 40)).alloc (by simp) (.cells #[.slice a1 m c1] 40)).alloc (by simp; omega) (.cells #[] 9))
  obtain ⟨k0, k1⟩ := two_boxes w (.slice a0 n c0) (.slice a1 m c1) #[] 40 9
  have E0 := hide (show RowStr (((w.alloc (.cells #[.slice a0 n c0] 40)).alloc (.cells #[.slice a1 m c1] 40)).alloc (.cells #[] 9)) (w.heap.size + 2) 0 0 (nmF []) from ⟨by simp, fun i hi => absurd hi (Nat.not_lt_zero _)⟩)
  obtain ⟨Y, hY⟩ : ∃ Y, Y = whyL f n g m := ⟨_, rfl⟩
  rw [← hY]
  have HY := hide hY
  clear hY
  go_enter Tryz.func15, Tryz.ntmps15
  go_wp2_with fail
  generalize ((w.alloc (.cells #[.slice a0 n c0] 40)).alloc (.cells #[.slice a1 m c1] 40)).alloc (.cells #[] 9) = W at A0 k0 k1 E0 ⊢
  have hz : w.heap.size + 2 < W.heap.size := E0.out.1
  refine (l3Ok_any a0 n c0 f _ hn (HV0.out.below A0.out (Nat.le_refl _)) HM0.out HZ0.out).mono ?_
  rintro e w1 ⟨rfl, hB⟩
  have B1 := hide (A0.out.trans (hB.mono A0.out.size))
  have E1 := hide (E0.out.below hB (Nat.le_refl _))
  have q0 := (hB.cell (p := ⟨w.heap.size, 0, none⟩) (by show w.heap.size < _; omega)).trans k0
  have q1 := (hB.cell (p := ⟨w.heap.size + 1, 0, none⟩) (by show w.heap.size + 1 < _; omega)).trans k1
  have hz1 : w.heap.size + 2 < w1.heap.size := Nat.lt_of_lt_of_le hz hB.size
  clear hB A0 E0 k0 k1 hz
  cases hok0 : accOk f n with
  | false =>
    obtain rfl : Y = [] := by rw [HY.out, whyL, if_neg (by rw [hok0]; simp)]
    go_wp2
    go_ret
    exact ⟨w.heap.size + 2, 0, 0, 0, rfl, rfl, E1.out, B1.out⟩
  | true =>
    have HOK0 := hide hok0
    clear hok0
    go_wp2_with fail
    refine (l3Ok_any a1 m c1 g _ hm (HV1.out.below B1.out (Nat.le_refl _)) HM1.out HZ1.out).mono ?_
    rintro e w2 ⟨rfl, hB⟩
    have B2 := hide (B1.out.trans (hB.mono B1.out.size))
    have E2 := hide (E1.out.below hB (Nat.le_refl _))
    have p0 := (hB.cell (p := ⟨w.heap.size, 0, none⟩) (by show w.heap.size < _; omega)).trans q0
    have p1 := (hB.cell (p := ⟨w.heap.size + 1, 0, none⟩) (by show w.heap.size + 1 < _; omega)).trans q1
    have hz2 : w.heap.size + 2 < w2.heap.size := Nat.lt_of_lt_of_le hz1 hB.size
    clear hB B1 E1 q0 q1 hz1
    cases hok1 : accOk g m with
    | false =>
      obtain rfl : Y = [] := by rw [HY.out, whyL, if_neg (by rw [hok1]; simp)]
      go_wp2
      go_ret
      exact ⟨w.heap.size + 2, 0, 0, 0, rfl, rfl, E2.out, B2.out⟩
    | true =>
      have HOK1 := hide hok1
      clear hok1
      obtain ⟨L, hL⟩ : ∃ L, L = nameL f n := ⟨_, rfl⟩
      have HYL : Hid (Y = L.filter (whyB f n g m)) := by show Y = _; rw [HY.out, whyL, if_pos ⟨HOK0.out, HOK1.out⟩, hL]
      have HLA : Hid (L.Pairwise (· < ·)) := by show List.Pairwise _ _; rw [hL]; exact nameL_asc f n
      have hLl : L.length ≤ n * 201 := by rw [hL]; exact nameL_len (accOk_links HOK0.out)
      have hna : nams f n = L := by rw [nams, if_pos HOK0.out, hL]
      obtain ⟨hn1, hn4, -⟩ := accOk_n HOK0.out
      obtain ⟨hm1, hm4, -⟩ := accOk_n HOK1.out
      clear hL HY
      go_wp2_with fail
      refine (specNames_any a0 n c0 f _ hn (HV0.out.below B2.out (Nat.le_refl _)) HM0.out HZ0.out).mono ?_
      rintro e w4 ⟨bn, on, ml, cl, rfl, hml, hRN, hB⟩
      rw [hna] at hml hRN
      have B4 := hide (B2.out.trans (hB.mono B2.out.size))
      have E4 := hide (E2.out.below hB (Nat.le_refl _))
      have y0 := (hB.cell (p := ⟨w.heap.size, 0, none⟩) (by show w.heap.size < _; omega)).trans p0
      have y1 := (hB.cell (p := ⟨w.heap.size + 1, 0, none⟩) (by show w.heap.size + 1 < _; omega)).trans p1
      have hz4 : w.heap.size + 2 < w4.heap.size := Nat.lt_of_lt_of_le hz2 hB.size
      have HY0 := hide y0
      have HY1 := hide y1
      have HRN := hide hRN
      have HML := hide hml
      have hml2 : (ml : Int) ≤ 1048576 := by omega
      clear hB B2 E2 p0 p1 hz2 y0 y1 hml hRN hna
      obtain ⟨b0, o0, rfl, hr0⟩ := (HV0.out).resolve_left (by omega)
      obtain ⟨b1, o1, rfl, hr1⟩ := (HV1.out).resolve_left (by omega)
      have R0 := hide (hr0.below B4.out (Nat.le_refl _))
      have R1 := hide (hr1.below B4.out (Nat.le_refl _))
      clear hr0 hr1
      go_wp2
      go_loopw [5, 7] (fun v i wr => ∃ (k bo oo mo co : Nat), k ≤ ml ∧ i = .int .i64 k ∧ v = .slice (some ⟨bo, oo, none⟩) mo co ∧ Hid (mo = (whyTo (whyB f n g m) L k).length) ∧ mo ≤ co ∧ Hid (RowStr wr bo oo mo (nmF (whyTo (whyB f n g m) L k))) ∧ Hid (Below w4.heap.size w4 wr)) (fun _ i _ => ml - (intOf i).toNat)
      case atStart => exact ⟨0, w.heap.size + 2, 0, 0, 0, by omega, rfl, rfl, rfl, by omega, E4.out, Below.refl _ _⟩
      case round =>
        obtain ⟨k, bo, oo, mo, co, hk, rfl, rfl, HM, hmc, HK, HB⟩ := hrel
        by_cases hlt : k < ml
        · have hkL : k < L.length := by have := HML.out; omega
          have hmo : mo ≤ L.length := by rw [HM.out]; exact whyTo_len _ _ _
          have hnx := whyTo_next (q := whyB f n g m) hkL
          have hltx := whyTo_lt (q := whyB f n g m) HLA.out hkL
          have hxe : (nmF L k).toList = L[k] := nmF_at hkL
          rw [← hxe] at hnx hltx
          generalize whyTo (whyB f n g m) L k = P at HM HK hnx hltx
          have HNX := hide hnx
          have HLX := hide hltx
          clear hnx hltx hxe
          have SK : Hid (∀ V, Below wr.heap.size wr V → V.cell? ⟨w.heap.size, 0, none⟩ = some (.slice (some ⟨b0, o0, none⟩) n c0) ∧ V.cell? ⟨w.heap.size + 1, 0, none⟩ = some (.slice (some ⟨b1, o1, none⟩) m c1) ∧ V.cell? ⟨bn, on + k, none⟩ = some (.string (nmF L k))) := fun V hV => by
            have K := HB.out.trans (hV.mono HB.out.size)
            exact ⟨(K.cell (p := ⟨w.heap.size, 0, none⟩) (by show w.heap.size < _; omega)).trans HY0.out, (K.cell (p := ⟨w.heap.size + 1, 0, none⟩) (by show w.heap.size + 1 < _; omega)).trans HY1.out, (HRN.out.below K (Nat.le_refl _)).2 k hlt⟩
          have T0 : Hid (∀ V, Below wr.heap.size wr V → Calls Tryz.prog 32 #[.agg #[.slice (some ⟨b0, o0, none⟩) n c0], .string (nmF L k)] V fun e w' => ∃ (a : Option Addr) (c : Nat) (T : List TlR), e = .returned (.slice a T.length c) ∧ w'.ownsRow V.heap.size 69 3 (.slice a T.length c) T.length (T.flatMap tlV) ∧ (∀ r ∈ T, SlIns V r.2.1 r.1.actN r.1.act) ∧ T.map (fun r => r.1) = tellsTo f (nmF L k).toList n ∧ Below V.heap.size V w') := fun V hV => l5Tells_any b0 o0 n c0 f (nmF L k) V (by omega) (R0.out.below (HB.out.trans (hV.mono HB.out.size)) (Nat.le_refl _)) (fun p hp => accOk_links HOK0.out p hp)
          have T1 : Hid (∀ V, Below wr.heap.size wr V → Calls Tryz.prog 32 #[.agg #[.slice (some ⟨b1, o1, none⟩) m c1], .string (nmF L k)] V fun e w' => ∃ (a : Option Addr) (c : Nat) (T : List TlR), e = .returned (.slice a T.length c) ∧ w'.ownsRow V.heap.size 69 3 (.slice a T.length c) T.length (T.flatMap tlV) ∧ (∀ r ∈ T, SlIns V r.2.1 r.1.actN r.1.act) ∧ T.map (fun r => r.1) = tellsTo g (nmF L k).toList m ∧ Below V.heap.size V w') := fun V hV => l5Tells_any b1 o1 m c1 g (nmF L k) V (by omega) (R1.out.below (HB.out.trans (hV.mono HB.out.size)) (Nat.le_refl _)) (fun p hp => accOk_links HOK1.out p hp)
          go_wp2_with fail
          go_region_held3 (fun V => V.cell? ⟨w.heap.size, 0, none⟩ = some (.slice (some ⟨b0, o0, none⟩) n c0) ∧ V.cell? ⟨w.heap.size + 1, 0, none⟩ = some (.slice (some ⟨b1, o1, none⟩) m c1) ∧ V.cell? ⟨bn, on + k, none⟩ = some (.string (nmF L k))) (first | exact SK.out _ (Below.refl _ _) | exact SK.out _ (Below.refl _ _).drew | exact SK.out _ D5.out)
            (first
            | (go_at_call 32; refine (T0.out _ (by first | exact (Below.refl _ _).drew | exact Below.refl _ _)).mono ?_; rintro e w5 ⟨xa, xc, X, rfl, hX1, hX2, hX3, hB⟩; have D5 : Hid (Below wr.heap.size wr w5) := ⟨hB.os, hB.tape, hB.output, hB.size, hB.block⟩; have XR : Hid (TRow w5 xa xc X) := ⟨⟨_, hX1⟩, fun r hr => (hX2 r hr).below hB (Nat.le_refl _)⟩; have XM := hide hX3; clear hX1 hX2 hX3 hB))
          have SK5 : Hid (∀ V, Below w5.heap.size w5 V → V.cell? ⟨w.heap.size, 0, none⟩ = some (.slice (some ⟨b0, o0, none⟩) n c0) ∧ V.cell? ⟨w.heap.size + 1, 0, none⟩ = some (.slice (some ⟨b1, o1, none⟩) m c1) ∧ V.cell? ⟨bn, on + k, none⟩ = some (.string (nmF L k))) := fun V hV => SK.out V (D5.out.trans (hV.mono D5.out.size))
          have T15 : Hid (∀ V, Below w5.heap.size w5 V → Calls Tryz.prog 32 #[.agg #[.slice (some ⟨b1, o1, none⟩) m c1], .string (nmF L k)] V fun e w' => ∃ (a : Option Addr) (c : Nat) (T : List TlR), e = .returned (.slice a T.length c) ∧ w'.ownsRow V.heap.size 69 3 (.slice a T.length c) T.length (T.flatMap tlV) ∧ (∀ r ∈ T, SlIns V r.2.1 r.1.actN r.1.act) ∧ T.map (fun r => r.1) = tellsTo g (nmF L k).toList m ∧ Below V.heap.size V w') := fun V hV => T1.out V (D5.out.trans (hV.mono D5.out.size))
          clear T0 T1
          go_simp
          go_wp2_with fail
          go_region_held3 (fun V => V.cell? ⟨w.heap.size, 0, none⟩ = some (.slice (some ⟨b0, o0, none⟩) n c0) ∧ V.cell? ⟨w.heap.size + 1, 0, none⟩ = some (.slice (some ⟨b1, o1, none⟩) m c1) ∧ V.cell? ⟨bn, on + k, none⟩ = some (.string (nmF L k))) (first | exact SK5.out _ (Below.refl _ _) | exact SK5.out _ (Below.refl _ _).drew | exact SK5.out _ D6.out)
            (first
            | (go_at_call 32; refine (T15.out _ (by first | exact (Below.refl _ _).drew | exact Below.refl _ _)).mono ?_; rintro e w6 ⟨ya, yc, Z, rfl, hX1, hX2, hX3, hB⟩; have D6 : Hid (Below w5.heap.size w5 w6) := ⟨hB.os, hB.tape, hB.output, hB.size, hB.block⟩; have ZR : Hid (TRow w6 ya yc Z) := ⟨⟨_, hX1⟩, fun r hr => (hX2 r hr).below hB (Nat.le_refl _)⟩; have ZM := hide hX3; clear hX1 hX2 hX3 hB))
          have XR6 := hide (XR.out.below D6.out (Nat.le_refl _))
          have B6 := hide ((HB.out.trans (D5.out.mono HB.out.size)).trans (D6.out.mono (Nat.le_trans HB.out.size D5.out.size)))
          have K6 := hide (HK.out.below (D5.out.trans (D6.out.mono D5.out.size)) (Nat.le_refl _))
          have HWB : Hid (whyB f n g m (nmF L k).toList = partB (X.map fun r => r.1) (Z.map fun r => r.1)) := by show _ = _; rw [whyB, XM.out, ZM.out]
          have hXl : X.length ≤ 80400 := by
            have h1 := congrArg List.length XM.out
            have h2 := tellsTo_len (f := f) (nm := (nmF L k).toList) (k := n) (fun p hp => accOk_links HOK0.out p hp)
            rw [List.length_map] at h1
            omega
          have hZl : Z.length ≤ 80400 := by
            have h1 := congrArg List.length ZM.out
            have h2 := tellsTo_len (f := g) (nm := (nmF L k).toList) (k := m) (fun p hp => accOk_links HOK1.out p hp)
            rw [List.length_map] at h1
            omega
          have FX : Hid (∀ r ∈ X, r.1.actN ≤ 1048576) := fun r hr => tells_fits HM0.out r.1 (by rw [← XM.out]; exact List.mem_map_of_mem (f := fun r : TlR => r.1) hr)
          have FZ : Hid (∀ r ∈ Z, r.1.actN ≤ 1048576) := fun r hr => tells_fits HM1.out r.1 (by rw [← ZM.out]; exact List.mem_map_of_mem (f := fun r : TlR => r.1) hr)
          have HPL : ∀ b : Bool, (putIf b P (nmF L k).toList).length ≤ 80401 := by
            intro b
            have h1 : P.length ≤ 80400 := by have := HM.out; omega
            unfold putIf
            split
            · simp; omega
            · omega
          have HPLH := hide HPL
          clear SK SK5 T15 XR D5 D6 HK HB XM ZM HPL
          obtain ⟨nm, hnm⟩ : ∃ nm, nm = nmF L k := ⟨_, rfl⟩
          rw [← hnm] at HNX HLX HWB HPLH
          have HNM := hide hnm
          clear hnm
          go_simp
          go_wp2
          generalize wr = wr0
          go_loopw [5, 10] (fun v j wr => ∃ (kk bq oq mq cq : Nat), kk ≤ X.length ∧ j = .int .i64 kk ∧ v = .slice (some ⟨bq, oq, none⟩) mq cq ∧ Hid (mq = (putIf (partB ((X.map fun r => r.1).take kk) (Z.map fun r => r.1)) P nm.toList).length) ∧ mq ≤ cq ∧ Hid (RowStr wr bq oq mq (nmF (putIf (partB ((X.map fun r => r.1).take kk) (Z.map fun r => r.1)) P nm.toList))) ∧ Hid (Below w6.heap.size w6 wr)) (fun _ j _ => X.length - (intOf j).toNat)
          case atStart => exact ⟨0, bo, oo, mo, co, by omega, rfl, rfl, HM.out, hmc, K6.out, Below.refl _ _⟩
          case round =>
            obtain ⟨kk, bq, oq, mq, cq, hkk, rfl, rfl, HQ, hqc, RQ, BQ⟩ := hrel
            by_cases hkx : kk < X.length
            · obtain ⟨rx, hrx⟩ : ∃ rx, X[kk]? = some rx := ⟨X[kk], List.getElem?_eq_getElem hkx⟩
              have hrm : rx ∈ X := List.mem_of_getElem? hrx
              have hkl : kk < (X.map fun r => r.1).length := by simpa using hkx
              have hxe : (X.map fun r => r.1)[kk] = rx.1 := by
                have h1 : (X.map fun r => r.1)[kk]? = some rx.1 := by rw [List.getElem?_map, hrx]; rfl
                exact Option.some.inj ((List.getElem?_eq_getElem hkl).symm.trans h1)
              have hpr := partB_row (ys := Z.map fun r => r.1) hkl
              rw [hxe] at hpr
              have HPR := hide hpr
              clear hpr hxe hkl
              generalize partB ((X.map fun r => r.1).take kk) (Z.map fun r => r.1) = bA at HQ RQ HPR
              have HRX := hide hrx
              have HRM := hide hrm
              clear hrx hrm
              go_wp2
              generalize wr = wr1 at RQ BQ ⊢
              go_loopw [5, 11] (fun v j wr => ∃ (jj b3 o3 m3 c3 : Nat), jj ≤ Z.length ∧ j = .int .i64 jj ∧ v = .slice (some ⟨b3, o3, none⟩) m3 c3 ∧ Hid (m3 = (putIf (bA || ((Z.map fun r => r.1).take jj).any fun y => !agreeB rx.1 y) P nm.toList).length) ∧ m3 ≤ c3 ∧ Hid (RowStr wr b3 o3 m3 (nmF (putIf (bA || ((Z.map fun r => r.1).take jj).any fun y => !agreeB rx.1 y) P nm.toList))) ∧ Hid (Below w6.heap.size w6 wr)) (fun _ j _ => Z.length - (intOf j).toNat)
              case atStart => exact ⟨0, bq, oq, mq, cq, by omega, rfl, rfl, by show mq = _; simpa using HQ.out, hqc, by show RowStr _ _ _ _ _; simpa using RQ.out, BQ.out⟩
              case round =>
                clear HQ hqc RQ BQ
                obtain ⟨jj, b3, o3, m3, c3, hjj, rfl, rfl, H3, hc3, R3, B3⟩ := hrel
                by_cases hjz : jj < Z.length
                · obtain ⟨rz, hrz⟩ : ∃ rz, Z[jj]? = some rz := ⟨Z[jj], List.getElem?_eq_getElem hjz⟩
                  have hzm : rz ∈ Z := List.mem_of_getElem? hrz
                  have hjl : jj < (Z.map fun r => r.1).length := by simpa using hjz
                  have hze : (Z.map fun r => r.1)[jj] = rz.1 := by
                    have h1 : (Z.map fun r => r.1)[jj]? = some rz.1 := by rw [List.getElem?_map, hrz]; rfl
                    exact Option.some.inj ((List.getElem?_eq_getElem hjl).symm.trans h1)
                  have hat := any_take_succ (p := fun y => !agreeB rx.1 y) hjl
                  rw [hze] at hat
                  have HAT := hide hat
                  clear hat hze hjl
                  obtain ⟨gx, rfl, hgx, x0, x1, x2⟩ := (XR6.out.below B3.out (Nat.le_refl _)).at HRX.out
                  obtain ⟨gz, rfl, hgz, z0, z1, z2⟩ := (ZR.out.below B3.out (Nat.le_refl _)).at hrz
                  have SX := hide ((XR6.out.below B3.out (Nat.le_refl _)).sl rx HRM.out)
                  have SZ := hide ((ZR.out.below B3.out (Nat.le_refl _)).sl rz hzm)
                  have fx := FX.out rx HRM.out
                  have fz := FZ.out rz hzm
                  have SK7 : Hid (∀ V, Below wr.heap.size wr V → V.cell? ⟨gx, kk * 3, none⟩ = some (.int .i64 rx.1.kind) ∧ V.cell? ⟨gx, kk * 3 + 1, none⟩ = some (.string rx.1.text) ∧ V.cell? ⟨gx, kk * 3 + 2, none⟩ = some (.slice rx.2.1 rx.1.actN rx.2.2) ∧ V.cell? ⟨gz, jj * 3, none⟩ = some (.int .i64 rz.1.kind) ∧ V.cell? ⟨gz, jj * 3 + 1, none⟩ = some (.string rz.1.text) ∧ V.cell? ⟨gz, jj * 3 + 2, none⟩ = some (.slice rz.2.1 rz.1.actN rz.2.2)) := fun V hV => ⟨(hV.cell (p := ⟨gx, _, none⟩) hgx).trans x0, (hV.cell (p := ⟨gx, _, none⟩) hgx).trans x1, (hV.cell (p := ⟨gx, _, none⟩) hgx).trans x2, (hV.cell (p := ⟨gz, _, none⟩) hgz).trans z0, (hV.cell (p := ⟨gz, _, none⟩) hgz).trans z1, (hV.cell (p := ⟨gz, _, none⟩) hgz).trans z2⟩
                  have AG : Hid (∀ V, Below wr.heap.size wr V → Calls Tryz.prog 33 #[.agg #[.int .i64 rx.1.kind, .string rx.1.text, .slice rx.2.1 rx.1.actN rx.2.2], .agg #[.int .i64 rz.1.kind, .string rz.1.text, .slice rz.2.1 rz.1.actN rz.2.2]] V fun e w' => e = .returned (.bool (agreeB rx.1 rz.1)) ∧ Below V.heap.size V w') := fun V hV => l5Agree_any rx.1 rz.1 rx.2.1 rx.2.2 rz.2.1 rz.2.2 V fx fz (SX.out.below hV (Nat.le_refl _)) (SZ.out.below hV (Nat.le_refl _))
                  go_wp2_with fail
                  clear x0 x1 x2 z0 z1 z2
                  go_region_held3 (fun V => V.cell? ⟨gx, kk * 3, none⟩ = some (.int .i64 rx.1.kind) ∧ V.cell? ⟨gx, kk * 3 + 1, none⟩ = some (.string rx.1.text) ∧ V.cell? ⟨gx, kk * 3 + 2, none⟩ = some (.slice rx.2.1 rx.1.actN rx.2.2) ∧ V.cell? ⟨gz, jj * 3, none⟩ = some (.int .i64 rz.1.kind) ∧ V.cell? ⟨gz, jj * 3 + 1, none⟩ = some (.string rz.1.text) ∧ V.cell? ⟨gz, jj * 3 + 2, none⟩ = some (.slice rz.2.1 rz.1.actN rz.2.2)) (first | exact SK7.out _ (Below.refl _ _) | exact SK7.out _ (Below.refl _ _).drew | exact SK7.out _ D8.out)
                    (first
                    | (go_at_call 33; refine (AG.out _ (by first | exact (Below.refl _ _).drew | exact Below.refl _ _)).mono ?_; rintro e w8 ⟨rfl, hB⟩; have D8 : Hid (Below wr.heap.size wr w8) := ⟨hB.os, hB.tape, hB.output, hB.size, hB.block⟩; clear hB))
                  have B8 := hide (B3.out.trans (D8.out.mono B3.out.size))
                  have R8 := hide (R3.out.below D8.out (Nat.le_refl _))
                  clear SK7 AG D8 R3 B3 SX SZ
                  generalize hA : agreeB rx.1 rz.1 = ag at HAT ⊢
                  clear hA
                  generalize ((Z.map fun r => r.1).take jj).any (fun y => !agreeB rx.1 y) = bJ at H3 R8 HAT
                  cases ag with
                  | true =>
                    have HAT2 : Hid (((Z.map fun r => r.1).take (jj + 1)).any (fun y => !agreeB rx.1 y) = bJ) := by show _ = _; rw [HAT.out]; simp
                    go_simp
                    go_wp2
                    exact ⟨⟨jj + 1, b3, o3, m3, c3, by omega, by go_num, rfl, by rw [HAT2.out]; exact H3.out, hc3, by rw [HAT2.out]; exact R8.out, B8.out⟩, by simp [intOf]; omega⟩
                  | false =>
                    have HAT2 : Hid (((Z.map fun r => r.1).take (jj + 1)).any (fun y => !agreeB rx.1 y) = true) := by show _ = _; rw [HAT.out]; simp
                    have xn : w8.cell? ⟨bn, on + k, none⟩ = some (.string nm) := by rw [HNM.out]; exact (HRN.out.below (B6.out.trans (B8.out.mono B6.out.size)) (Nat.le_refl _)).2 k hlt
                    have HPP := hide (putIf_put (b := bA || bJ) HLX.out)
                    have hm3 : (m3 : Int) ≤ 1048576 := by have := H3.out; have := HPLH.out (bA || bJ); omega
                    go_simp
                    go_wp2_with (go_at_call 21; refine (l5Put_any b3 o3 m3 c3 _ nm _ H3.out hm3 (by omega) R8.out).mono ?_; rintro e w9 ⟨b9, o9, m9, c9, rfl, hm9, hc9, hr9, hB⟩; rw [HPP.out] at hm9 hr9; have H9 := hide hm9; have R9 := hide hr9; have B9 := hide (B8.out.trans (hB.mono B8.out.size)); clear hm9 hr9 hB)
                    exact ⟨⟨jj + 1, b9, o9, m9, c9, by omega, by go_num, rfl, by rw [HAT2.out, Bool.or_true]; exact H9.out, by omega, by rw [HAT2.out, Bool.or_true]; exact R9.out, B9.out⟩, by simp [intOf]; omega⟩
                · have ej : jj = Z.length := by omega
                  have HFJ : Hid (partB ((X.map fun r => r.1).take (kk + 1)) (Z.map fun r => r.1) = (bA || ((Z.map fun r => r.1).take jj).any fun y => !agreeB rx.1 y)) := by
                    show _ = _
                    rw [HPR.out, ej, List.take_of_length_le (by simp)]
                  go_wp2
                  exact ⟨⟨kk + 1, b3, o3, m3, c3, by omega, by go_num, rfl, by rw [HFJ.out]; exact H3.out, hc3, by rw [HFJ.out]; exact R3.out, B3.out⟩, by simp [intOf]; omega⟩
            · have ek : kk = X.length := by omega
              have HFI : Hid (whyTo (whyB f n g m) L (k + 1) = putIf (partB ((X.map fun r => r.1).take kk) (Z.map fun r => r.1)) P nm.toList) := by
                show _ = _
                rw [HNX.out, HWB.out, ek]
                congr 1
                rw [List.take_of_length_le (by simp)]
              go_wp2
              exact ⟨⟨k + 1, bq, oq, mq, cq, by omega, by go_num, rfl, by rw [HFI.out]; exact HQ.out, by omega, by rw [HFI.out]; exact RQ.out, B6.out.trans (BQ.out.mono B6.out.size)⟩, by simp [intOf]; omega⟩
        · have e : k = ml := by omega
          have HYE : Hid (Y = whyTo (whyB f n g m) L k) := by show Y = _; rw [HYL.out, e, HML.out, whyTo_all]
          go_wp2
          go_ret
          exact ⟨bo, oo, mo, co, rfl, by rw [HYE.out]; exact HM.out, by rw [HYE.out]; exact HK.out, B4.out.trans (HB.out.mono B4.out.size)⟩

end Go.Proofs.YtkgddbcjmejfaaaGreatDoor.Vp
