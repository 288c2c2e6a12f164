/-
  spec: Cut.
-/
import Derived.Test.YtkikpcklccdihaaDoorZCuL3
import Derived.Test.YtkikpcklccdihaaDoorZCuAll
import Derived.Test.YtkikpcklccdihaaDoorZCuIdx
import Derived.Test.YtkikpcklccdihaaDoorZNmOk
import Derived.Deep.RegionHeld3
namespace Go.Proofs.YtkikpcklccdihaaDoor.Vp
open Go.RowKit Go.Proofs.YtkikpcklccdihaaDoor.Ca

/-- The boxes of spec.Cut: the account, the answer. -/
structure SpB (W : World) (h : Nat) (v : Value) : Prop where
  size : h + 2 ≤ W.heap.size
  a : W.cell? ⟨h, 0, none⟩ = some v
  r : W.cell? ⟨h + 1, 0, none⟩ = some (.slice none 0 0) ∧ W.frozen? ⟨h + 1, 0, none⟩ = false
theorem sp_new (w : World) (v : Value) (t1 : TypeId) : SpB ((w.alloc (.cells #[v] t1)).alloc (.cells #[.slice none 0 0] t1)) w.heap.size v := by
  obtain ⟨w1, e1⟩ : ∃ w1, w.alloc (.cells #[v] t1) = w1 := ⟨_, rfl⟩
  obtain ⟨w2, e2⟩ : ∃ w2, w1.alloc (.cells #[.slice none 0 0] t1) = w2 := ⟨_, rfl⟩
  rw [e1, e2]
  have z1 : w1.heap.size = w.heap.size + 1 := by rw [← e1]; simp
  have z2 : w2.heap.size = w.heap.size + 2 := by rw [← e2]; simp; omega
  have b12 : Below w1.heap.size w1 w2 := by rw [← e2]; exact (Below.refl _ _).alloc (Nat.le_refl _) _
  have n1 := cp_one w v t1
  have n2 := cp_one w1 (.slice none 0 0) t1
  rw [e1] at n1
  rw [e2, z1] at n2
  exact ⟨by omega, (b12.cell (p := ⟨w.heap.size, 0, none⟩) (by show w.heap.size < _; omega)).trans n1.1, n2⟩
theorem SpB.below {W W' : World} {h B : Nat} {v : Value} (b : SpB W h v) (hb : Below B W W') (hB : h + 2 ≤ B) : SpB W' h v :=
  ⟨Nat.le_trans b.size hb.size, (hb.cell (p := ⟨h, 0, none⟩) (by show h < B; omega)).trans b.a, (hb.cell (p := ⟨h + 1, 0, none⟩) (by show h + 1 < B; omega)).trans b.r.1, (hb.frozen (p := ⟨h + 1, 0, none⟩) (by show h + 1 < B; omega)).trans b.r.2⟩

/-- The links of the copies when those of pre are done, and the first k of x's. -/
def curAt (f : Nat → Deed) (L pre : List Nat) (x k : Nat) (q : Nat) : Nat → Link := if q ∈ pre then (fun j => mvLink L ((f q).links j)) else if q = x then mvTo L (f q).links k else (f q).links

theorem curAt_next {f : Nat → Deed} {L pre : List Nat} {x n q : Nat} (hq : q < n) : curAt f L pre n 0 q = curAt f L pre x 0 q := by
  unfold curAt
  by_cases h1 : q ∈ pre
  · rw [if_pos h1, if_pos h1]
  · rw [if_neg h1, if_neg h1, if_neg (by omega)]
    by_cases h2 : q = x
    · rw [if_pos h2, mvTo_zero]
    · rw [if_neg h2]
theorem curAt_done {f : Nat → Deed} {L pre : List Nat} {x n q : Nat} (hq : q < n) : lnkL (curAt f L pre x (f x).linksN q) (f q).linksN = lnkL (curAt f L (pre ++ [x]) n 0 q) (f q).linksN := by
  unfold curAt
  by_cases h1 : q ∈ pre
  · rw [if_pos h1, if_pos (List.mem_append_left _ h1)]
  · rw [if_neg h1]
    by_cases h2 : q = x
    · subst h2
      rw [if_pos rfl, if_pos (by simp), mvTo_all]
    · rw [if_neg h2, if_neg (by simp [h1, h2]), if_neg (by omega)]
theorem curAt_x {f : Nat → Deed} {L pre : List Nat} {x k : Nat} (hx : x ∉ pre) : curAt f L pre x k x = mvTo L (f x).links k := by
  unfold curAt
  rw [if_neg hx, if_pos rfl]
theorem curAt_same {f : Nat → Deed} {L pre : List Nat} {x k q : Nat} (h : ((f x).links k).ask = false) : curAt f L pre x (k + 1) q = curAt f L pre x k q := by
  unfold curAt
  by_cases h2 : q = x
  · subst h2
    rw [mvTo_same h]
  · rw [if_neg h2, if_neg h2]
theorem curAt_ask {f : Nat → Deed} {L pre : List Nat} {x k : Nat} (hx : x ∉ pre) (h : ((f x).links k).ask = true) : curAt f L pre x (k + 1) = fun q' => if q' = x then (fun j => if j = k then { curAt f L pre x k x j with at_ := ((L.idxOf ((f x).links k).at_.toNat : Nat) : Int) } else curAt f L pre x k x j) else curAt f L pre x k q' := by
  funext q'
  by_cases h2 : q' = x
  · subst h2
    rw [if_pos rfl, curAt_x hx, curAt_x hx, mvTo_ask h]
  · rw [if_neg h2]
    unfold curAt
    rw [if_neg h2, if_neg h2]

theorem mv_fits {f : Nat → Deed} {L : List Nat} {q : Nat} (h : FitsDeed (f q)) : FitsDeed (mv f L q) := h
theorem mv_sized {f : Nat → Deed} {L : List Nat} {q : Nat} (h : SizedDeed (f q)) : SizedDeed (mv f L q) := by
  obtain ⟨h1, h2, h3, h4, h5⟩ := h
  refine ⟨h1, h2, h3, h4, fun j hj => ?_⟩
  have := h5 j hj
  show (mvLink L ((f q).links j)).name.size ≤ maxLen
  unfold mvLink
  split
  · exact this
  · exact this
theorem dF_map {f : Nat → Deed} {L M : List Nat} {k : Nat} (hk : k < M.length) : dF (M.map (mv f L)) k = mv f L M[k] := by
  have h2 : (M.map (mv f L))[k]? = some (mv f L M[k]) := by rw [List.getElem?_map, List.getElem?_eq_getElem hk]; rfl
  rw [dF, List.getD_eq_getElem?_getD, h2]
  rfl

set_option maxRecDepth 100000 in
set_option maxHeartbeats 8000000 in
theorem specCut_any (b off n cap : Nat) (f : Nat → Deed) (t : ByteArray) (w : World) (hn : (n : Int) ≤ 1048576) (hf : RowDeedS w b off n f) (hfit : ∀ i, i < n → FitsDeed (f i)) (hsz : ∀ i, i < n → SizedDeed (f i)) :
    Calls Tryd.prog 5 #[.agg #[.slice (some ⟨b, off, none⟩) n cap], .string t] w fun e w' => ∃ a c, e = .returned (.agg #[.slice a (cutD f n t).length c]) ∧ SlDeed w' a (cutD f n t).length (dF (cutD f n t)) ∧ Below w.heap.size w w' := by
  have HF := hide hf
  have HM := hide hfit
  have HZ := hide hsz
  clear hf hfit hsz
  obtain ⟨i1', hjj, hy0, hy1, hy2⟩ := info_parts infoDeed
  have A0 := hide (((Below.refl w.heap.size w).alloc (Nat.le_refl _) (.cells #[.slice (some ⟨b, off, none⟩) n cap] 28)).alloc (by simp) (.cells #[.slice none 0 0] 28))
  have X0 := hide (sp_new w (.slice (some ⟨b, off, none⟩) n cap) 28)
  obtain ⟨C, hC⟩ : ∃ C, C = cutD f n t := ⟨_, rfl⟩
  rw [← hC]
  have HC := hide hC
  clear hC
  go_enter Tryd.func5, Tryd.ntmps5
  go_wp2_with fail
  generalize (w.alloc (.cells #[.slice (some ⟨b, off, none⟩) n cap] 28)).alloc (.cells #[.slice none 0 0] 28) = W0 at A0 X0 ⊢
  refine (l3At_row b off n cap f t _ hn (HF.out.below A0.out (Nat.le_refl _)).row).mono ?_
  rintro e w1 ⟨rfl, hB1⟩
  have B1 := hide (A0.out.trans (hB1.mono A0.out.size))
  have X1 := hide (X0.out.below hB1 X0.out.size)
  clear hB1 X0 A0
  have ha1 := X1.out.a
  go_wp2_with fail
  refine (l3Ok_any _ n cap f _ hn (HF.out.below B1.out (Nat.le_refl _)).row.sl HM.out HZ.out).mono ?_
  rintro e w2 ⟨rfl, hB2⟩
  have B2 := hide (B1.out.trans (hB2.mono B1.out.size))
  have X2 := hide (X1.out.below hB2 X1.out.size)
  clear hB2 X1 B1 ha1
  obtain ⟨r0, z0⟩ := X2.out.r
  cases hok : accOk f n with
  | false =>
    have HE : Hid (C = []) := by show C = []; rw [HC.out, cutD, if_neg (by rw [hok]; simp)]
    go_wp2
    exact bodyPost_ret (v := .agg #[.slice none 0 0]) (by simp [results, Tryd.results5, go_sem, r0]) rfl ⟨none, 0, by rw [HE.out]; rfl, .inl (by rw [HE.out]; rfl), B2.out.setCell (by show w.heap.size ≤ w.heap.size + 1; omega) _⟩
  | true =>
    have HOK := hide hok
    have hn2 := accOk_n hok
    clear hok
    have ha2 := X2.out.a
    rcases firstNo_cases (fun i => !((f i).name.toList == t.toList)) n with hw | ⟨p, hw, hp, -, -⟩
    · have HE : Hid (C = []) := by show C = []; rw [HC.out, cutD, if_pos HOK.out, if_pos (by unfold whereN; exact hw)]
      rw [whereN, hw]
      go_wp2
      exact bodyPost_ret (v := .agg #[.slice none 0 0]) (by simp [results, Tryd.results5, go_sem, r0]) rfl ⟨none, 0, by rw [HE.out]; rfl, .inl (by rw [HE.out]; rfl), B2.out.setCell (by show w.heap.size ≤ w.heap.size + 1; omega) _⟩
    · have HE : Hid (C = if accOk (dF (cutRaw f p)) (cutRaw f p).length = true then cutRaw f p else []) := by
        have e : whereN f t n = (p : Int) := hw
        show C = _
        rw [HC.out, cutD, if_pos HOK.out, e, if_neg (by omega), Int.toNat_natCast]
      rw [whereN, hw]
      have hA := ahead_of hn2.2.2
      have HAA := hide hA
      have hp1 : (p : Int) + 1 ≤ 400 := by omega
      have hn4 : (n : Int) ≤ 400 := by omega
      clear hA hn2
      go_wp2_with fail
      refine (l3OrderAt_any b off n cap p f _ HAA.out hp hn4 (HF.out.below B2.out (Nat.le_refl _)).row (fun i hi => accOk_links HOK.out i hi)).mono ?_
      rintro e w3 ⟨H, ov, rfl, hH, hc2, hO3, hB3⟩
      have B3 := hide (B2.out.trans (hB3.mono B2.out.size))
      have X3 := hide (X2.out.below hB3 X2.out.size)
      have O3 := hide hO3
      have C3 := hide hc2
      clear hB3 X2 B2 hO3 hc2 r0 z0 ha2
      have ha3 := X3.out.a
      go_wp2_with fail
      refine (l3Copy_any b off n cap f _ hn (HF.out.below B3.out (Nat.le_refl _)) HM.out).mono ?_
      rintro e w4 ⟨a7, c7, R, rfl, hD4, hR, hB4⟩
      have hRl : R.length = n := by have := congrArg List.length hR; simpa using this
      have HR : Hid (∀ q, q < n → (rAt R q).1 = f q) := by
        intro q hq
        have h1 : R[q]? = some R[q] := List.getElem?_eq_getElem (by omega)
        rw [rAt_eq h1]
        have h2 : (R.map (·.1))[q]? = some (f q) := by rw [hR, List.getElem?_map, List.getElem?_range hq]; rfl
        rw [List.getElem?_map, h1] at h2
        exact Option.some.inj h2
      obtain ⟨L, hL⟩ : ∃ L, L = cutL f p := ⟨_, rfl⟩
      have HGD : Hid (GoodL f [] L) := by show GoodL f [] L; rw [hL]; exact cutL_good HAA.out hp
      have HLT : Hid (∀ q ∈ L, q < n) := by intro q hq; rw [hL] at hq; have := cutL_lt HAA.out hp q hq; omega
      have hLl : L.length ≤ p + 1 := by rw [hL]; exact (cutL_len HAA.out hp).1
      have HRW : Hid (cutRaw f p = L.map (mv f L)) := by show _ = _; rw [hL]; rfl
      rw [← hL] at O3
      clear hL
      have hz4 : w3.heap.size ≤ w4.heap.size := hB4.size
      obtain ⟨g7, k7, hv7⟩ := cu_some hD4.own (by omega)
      cases hv7
      have hs3 := X3.out.size
      have A6 := hide (((Below.refl w4.heap.size w4).alloc (Nat.le_refl _) (.cells #[.slice (some ⟨g7, 0, none⟩) R.length c7] 28)).alloc (by simp) (.cells #[.slice none 0 0] 28))
      have hx7 := cp_one w4 (.slice (some ⟨g7, 0, none⟩) R.length c7) 28
      have hz5 : (w4.alloc (.cells #[.slice (some ⟨g7, 0, none⟩) R.length c7] 28)).heap.size = w4.heap.size + 1 := by simp
      have hx8 := cp_one (w4.alloc (.cells #[.slice (some ⟨g7, 0, none⟩) R.length c7] 28)) (.slice none 0 0) 28
      rw [hz5] at hx8
      have x7 : ((w4.alloc (.cells #[.slice (some ⟨g7, 0, none⟩) R.length c7] 28)).alloc (.cells #[.slice none 0 0] 28)).cell? ⟨w4.heap.size, 0, none⟩ = some (.slice (some ⟨g7, 0, none⟩) R.length c7) := (((Below.refl (w4.heap.size + 1) (w4.alloc (.cells #[.slice (some ⟨g7, 0, none⟩) R.length c7] 28))).alloc (by omega) (.cells #[.slice none 0 0] 28)).cell (p := ⟨w4.heap.size, 0, none⟩) (Nat.lt_succ_self _)).trans hx7.1
      have x8 := hx8
      have hz6 : w4.heap.size + 2 ≤ ((w4.alloc (.cells #[.slice (some ⟨g7, 0, none⟩) R.length c7] 28)).alloc (.cells #[.slice none 0 0] 28)).heap.size := by simp
      have AL6 := hide ((hD4.allB).below A6.out (Nat.le_refl _))
      have K6 := hide (hB4.trans (A6.out.mono hz4))
      have HA7 := hide x7
      have HA8 := hide x8
      clear hD4 hB4 hx7 hx8 hz5 x7 x8 hR ha3
      have HRL := hide hRl
      clear hRl
      go_wp2
      generalize (w4.alloc (.cells #[.slice (some ⟨g7, 0, none⟩) R.length c7] 28)).alloc (.cells #[.slice none 0 0] 28) = W6 at A6 AL6 K6 HA7 HA8 hz6 ⊢
      go_loopw [9] (fun i wr => ∃ (k : Nat) (vo : Value), k ≤ L.length ∧ i = .int .i64 k ∧ w4.heap.size + 2 ≤ wr.heap.size ∧ Hid (wr.cell? ⟨w4.heap.size, 0, none⟩ = some (.slice (some ⟨g7, 0, none⟩) R.length c7)) ∧ Hid (wr.cell? ⟨w4.heap.size + 1, 0, none⟩ = some vo ∧ wr.frozen? ⟨w4.heap.size + 1, 0, none⟩ = false) ∧ Hid (AllB wr (w3.heap.size + 3) w4.heap.size (.slice (some ⟨g7, 0, none⟩) R.length c7) R (curAt f L (L.take k) n 0)) ∧ Hid (wr.ownsRow (w4.heap.size + 2) 49 6 vo k (((L.take k).map (rAt R)).flatMap ddV)) ∧ Hid (Below w3.heap.size w3 wr)) (fun i _ => L.length - (intOf i).toNat)
      case atStart =>
        refine ⟨0, _, by omega, rfl, hz6, HA7.out, HA8.out, AL6.out.congr fun q r hr => ?_, World.ownsRow_nil _ _ _ _, K6.out⟩
        have hq : q < n := by have := (List.getElem?_eq_some_iff.1 hr).1; have := HRL.out; omega
        rw [HR.out q hq, curAt, List.take_zero, if_neg (by simp), if_neg (by omega)]
      case round =>
        clear A6 AL6 K6 HA7 HA8 hz6
        obtain ⟨i, vo, hi, rfl, hzr, C7, C8, AL, OW, KK⟩ := hrel
        have hc2 : wr.cell? ⟨H, 2, none⟩ = some ov := (KK.out.cell (p := ⟨H, 2, none⟩) hH).trans C3.out
        obtain ⟨go_, co, rfl⟩ := cu_slice (own_below O3.out KK.out (Nat.le_refl _))
        by_cases hlt : i < L.length
        · obtain ⟨x, hx⟩ : ∃ x, x = L[i] := ⟨_, rfl⟩
          have hxm : x ∈ L := by rw [hx]; exact List.getElem_mem hlt
          have hxn := HLT.out x hxm
          have HSP : Hid (L = L.take i ++ x :: L.drop (i + 1)) := by
            show _ = _
            rw [hx, ← List.drop_eq_getElem_cons hlt, List.take_append_drop]
          have HTK : Hid (L.take (i + 1) = L.take i ++ [x]) := by show _ = _; rw [hx, List.take_succ_eq_append_getElem hlt]
          have hTl : (L.take i).length = i := by rw [List.length_take]; omega
          have HPX : Hid (x ∉ L.take i ∧ ∀ j, j < (f x).linksN → ((f x).links j).ask = true → ((f x).links j).at_.toNat ∈ L.take i) := by
            have := goodL_at (p := L.take i) (x := x) (q := L.drop (i + 1)) HGD.out HSP.out
            rw [List.nil_append] at this
            exact this
          have hr : R[x]? = some (rAt R x) := by
            have hxl : x < R.length := (by have := HRL.out; omega)
            have h1 : R[x]? = some R[x] := List.getElem?_eq_getElem hxl
            rw [h1, rAt_eq h1]
          have HXR := hide hr
          have hrx := HR.out x hxn
          obtain ⟨gv, kv, hgo⟩ := cu_some (own_below O3.out KK.out (Nat.le_refl _)) (by omega)
          cases hgo
          have hoc : wr.cell? ⟨gv, i, none⟩ = some (.int .i64 (x : Int)) := (own_cell (own_below O3.out KK.out (Nat.le_refl _)) (j := i) (u := .int .i64 (x : Int)) (by rw [List.getElem?_map, List.getElem?_eq_getElem hlt, hx]; rfl)).1
          have hc7 := C7.out
          have cel : ∀ j, j < 6 → ∀ u, (ddV (rAt R x))[j]? = some u → wr.cell? ⟨g7, x * 6 + j, none⟩ = some u := fun j hj u hu => (drow_cell AL.out.own hr j hj hu).1
          obtain ⟨a4, c4, e4⟩ := cu_slice (AL.out.act x _ hr)
          obtain ⟨a5, c5, e5⟩ := cu_slice (AL.out.lnk x _ hr)
          have q0 := cel 0 (by omega) _ rfl
          have q1 := cel 1 (by omega) _ rfl
          have q2 := cel 2 (by omega) _ rfl
          have q3 := cel 3 (by omega) _ rfl
          have q4 := cel 4 (by omega) _ rfl
          have q5 := cel 5 (by omega) _ rfl
          rw [show x * 6 + 0 = x * 6 by omega] at q0
          rw [e4] at q4
          rw [e5] at q5
          rw [hrx] at q0 q1 q2 q3 q4 q5
          have HE4 := hide e4
          have HE5 := hide e5
          have HRX := hide hrx
          have HX := hide hx
          have HTL := hide hTl
          have hi0 : (0 : Int) ≤ (i : Int) := by omega
          have hiL : (i : Int) < L.length := by omega
          have hx0 : (0 : Int) ≤ (x : Int) := by omega
          have hxR : (x : Int) < R.length := by have := HRL.out; omega
          clear cel e4 e5 hrx hx hTl hr
          have hg7 := (own_lt AL.out.own).2
          have hgv := (own_lt (own_below O3.out KK.out (Nat.le_refl _))).2
          have hHr : H < wr.heap.size := Nat.lt_of_lt_of_le hH KK.out.size
          have SK : Hid (∀ V, Below wr.heap.size wr V → V.cell? ⟨w4.heap.size, 0, none⟩ = some (.slice (some ⟨g7, 0, none⟩) R.length c7) ∧ V.cell? ⟨H, 2, none⟩ = some (.slice (some ⟨gv, 0, none⟩) L.length co) ∧ V.cell? ⟨gv, i, none⟩ = some (.int .i64 (x : Int)) ∧ V.cell? ⟨g7, x * 6, none⟩ = some (.string (f x).name) ∧ V.cell? ⟨g7, x * 6 + 1, none⟩ = some (.int .i64 (f x).kind) ∧ V.cell? ⟨g7, x * 6 + 2, none⟩ = some (.int .i64 (f x).code) ∧ V.cell? ⟨g7, x * 6 + 3, none⟩ = some (.string (f x).text) ∧ V.cell? ⟨g7, x * 6 + 4, none⟩ = some (.slice a4 (f x).actN c4) ∧ V.cell? ⟨g7, x * 6 + 5, none⟩ = some (.slice a5 (f x).linksN c5)) := fun V hV => ⟨(hV.cell (p := ⟨w4.heap.size, 0, none⟩) (by show w4.heap.size < _; omega)).trans hc7, (hV.cell (p := ⟨H, 2, none⟩) hHr).trans hc2, (hV.cell (p := ⟨gv, i, none⟩) hgv).trans hoc, (hV.cell (p := ⟨g7, _, none⟩) hg7).trans q0, (hV.cell (p := ⟨g7, _, none⟩) hg7).trans q1, (hV.cell (p := ⟨g7, _, none⟩) hg7).trans q2, (hV.cell (p := ⟨g7, _, none⟩) hg7).trans q3, (hV.cell (p := ⟨g7, _, none⟩) hg7).trans q4, (hV.cell (p := ⟨g7, _, none⟩) hg7).trans q5⟩
          go_wp2_with fail
          clear hc7 hoc q0 q1 q2 q3 q4 q5 hc2
          go_region_held3 (fun V => V.cell? ⟨w4.heap.size, 0, none⟩ = some (.slice (some ⟨g7, 0, none⟩) R.length c7) ∧ V.cell? ⟨H, 2, none⟩ = some (.slice (some ⟨gv, 0, none⟩) L.length co) ∧ V.cell? ⟨gv, i, none⟩ = some (.int .i64 (x : Int)) ∧ V.cell? ⟨g7, x * 6, none⟩ = some (.string (f x).name) ∧ V.cell? ⟨g7, x * 6 + 1, none⟩ = some (.int .i64 (f x).kind) ∧ V.cell? ⟨g7, x * 6 + 2, none⟩ = some (.int .i64 (f x).code) ∧ V.cell? ⟨g7, x * 6 + 3, none⟩ = some (.string (f x).text) ∧ V.cell? ⟨g7, x * 6 + 4, none⟩ = some (.slice a4 (f x).actN c4) ∧ V.cell? ⟨g7, x * 6 + 5, none⟩ = some (.slice a5 (f x).linksN c5)) (first | exact SK.out _ (Below.refl _ _) | exact SK.out _ (Below.refl _ _).drew | exact SK.out _ ((Below.refl _ _).drew.alloc (Nat.le_refl _) _) | exact SK.out _ ((Below.refl _ _).alloc (Nat.le_refl _) _).drew | exact SK.out _ ((((((((Below.refl wr.heap.size wr).drew.alloc (Nat.le_refl _) _).setCell (Nat.le_refl _) _).setCell (Nat.le_refl _) _).setCell (Nat.le_refl _) _).setCell (Nat.le_refl _) _).setCell (Nat.le_refl _) _).setCell (Nat.le_refl _) _)) (fail)
          have A2 := hide ((Below.refl wr.heap.size wr).alloc (Nat.le_refl _) (.cells #[.string (f x).name, .int .i64 (f x).kind, .int .i64 (f x).code, .string (f x).text, .slice a4 (f x).actN c4, .slice a5 (f x).linksN c5] 49)).drew
          have S2 := hide ((six_new wr (.string (f x).name) (.int .i64 (f x).kind) (.int .i64 (f x).code) (.string (f x).text) (.slice a4 (f x).actN c4) (.slice a5 (f x).linksN c5) 49).blk (w' := (wr.alloc (.cells #[.string (f x).name, .int .i64 (f x).kind, .int .i64 (f x).code, .string (f x).text, .slice a4 (f x).actN c4, .slice a5 (f x).linksN c5] 49)).drew) (Nat.le_refl _) rfl)
          generalize (wr.alloc (.cells #[.string (f x).name, .int .i64 (f x).kind, .int .i64 (f x).code, .string (f x).text, .slice a4 (f x).actN c4, .slice a5 (f x).linksN c5] 49)).drew = W2 at A2 S2 ⊢
          have AL2 : Hid (AllB W2 (w3.heap.size + 3) w4.heap.size (.slice (some ⟨g7, 0, none⟩) R.length c7) R (curAt f L (L.take i) x 0)) := (AL.out.below A2.out (by omega)).congr fun q r hr => by rw [curAt_next (by have := (List.getElem?_eq_some_iff.1 hr).1; have := HRL.out; omega)]
          have D7 := hide ((A2.out.cell (p := ⟨w4.heap.size, 0, none⟩) (by show w4.heap.size < _; omega)).trans C7.out)
          have D8 : Hid (W2.cell? ⟨w4.heap.size + 1, 0, none⟩ = some vo ∧ W2.frozen? ⟨w4.heap.size + 1, 0, none⟩ = false) := ⟨(A2.out.cell (p := ⟨w4.heap.size + 1, 0, none⟩) (by show w4.heap.size + 1 < _; omega)).trans C8.out.1, (A2.out.frozen (p := ⟨w4.heap.size + 1, 0, none⟩) (by show w4.heap.size + 1 < _; omega)).trans C8.out.2⟩
          have OW2 := hide (own_below OW.out A2.out (Nat.le_refl _))
          have KK2 := hide (KK.out.trans (A2.out.mono KK.out.size))
          have hD : wr.heap.size < W2.heap.size := S2.out.lt
          clear AL C7 C8 OW KK SK hg7 hgv hHr
          obtain ⟨D, hDD⟩ : ∃ D, D = wr.heap.size := ⟨_, rfl⟩
          rw [← hDD] at S2 hD hzr ⊢
          clear hDD A2
          generalize hln : (f x).linksN = ln at S2 ⊢
          have HLN := hide hln
          clear hln
          have hln2 : ln ≤ 200 := by rw [← HLN.out]; exact accOk_links HOK.out x hxn
          go_wp2
          go_loopw [11] (fun kk wk => ∃ (j : Nat), j ≤ ln ∧ kk = .int .i64 j ∧ D < wk.heap.size ∧ Hid (Six wk D (.string (f x).name) (.int .i64 (f x).kind) (.int .i64 (f x).code) (.string (f x).text) (.slice a4 (f x).actN c4) (.slice a5 ln c5)) ∧ Hid (wk.cell? ⟨w4.heap.size, 0, none⟩ = some (.slice (some ⟨g7, 0, none⟩) R.length c7)) ∧ Hid (wk.cell? ⟨w4.heap.size + 1, 0, none⟩ = some vo ∧ wk.frozen? ⟨w4.heap.size + 1, 0, none⟩ = false) ∧ Hid (AllB wk (w3.heap.size + 3) w4.heap.size (.slice (some ⟨g7, 0, none⟩) R.length c7) R (curAt f L (L.take i) x j)) ∧ Hid (wk.ownsRow (w4.heap.size + 2) 49 6 vo i (((L.take i).map (rAt R)).flatMap ddV)) ∧ Hid (Below w3.heap.size w3 wk)) (fun kk _ => ln - (intOf kk).toNat)
          case atStart => exact ⟨0, by omega, rfl, hD, S2.out, D7.out, D8.out, AL2.out, OW2.out, KK2.out⟩
          case round =>
            clear hD S2 D7 D8 AL2 OW2 KK2
            obtain ⟨j, hj, rfl, hD, S3, C7, C8, AL, OW, KK⟩ := hrel
            have hx5 := S3.out.c5.1
            by_cases hlt2 : j < ln
            · have hlk := AL.out.lnk x _ HXR.out
              rw [HE5.out, HRX.out, HLN.out, curAt_x HPX.out.1] at hlk
              obtain ⟨gl, cl, hgl⟩ := cu_some hlk (by omega)
              cases hgl
              have hcell : ∀ m, m < 4 → ∀ u, (lnkV ((f x).links j))[m]? = some u → wr.cell? ⟨gl, j * 4 + m, none⟩ = some u ∧ wr.frozen? ⟨gl, j * 4 + m, none⟩ = false := fun m hm u hu => own_cell hlk (by rw [linkL_at _ hlt2 m hm, show mvTo L (f x).links j j = (f x).links j by simp [mvTo]]; exact hu)
              have f0 := (hcell 0 (by omega) _ rfl).1
              have f1 := (hcell 1 (by omega) _ rfl).1
              obtain ⟨f3, z3⟩ := hcell 3 (by omega) _ rfl
              rw [show j * 4 + 0 = j * 4 by omega] at f0
              have hgll := own_lt hlk
              have hgt := AL.out.topL x _ HXR.out gl (by rw [HE5.out]; rfl)
              have hsame := fun q => curAt_same (f := f) (L := L) (pre := L.take i) (x := x) (k := j) (q := q)
              have hask2 := curAt_ask (f := f) (L := L) (pre := L.take i) (x := x) (k := j) HPX.out.1
              have hpa := HPX.out.2 j (by rw [HLN.out]; exact hlt2)
              have hac := accOk_ask HOK.out x hxn j (by rw [HLN.out]; exact hlt2)
              generalize (f x).links j = y at f0 f1 f3 hsame hask2 hpa hac
              have HSM := hide hsame
              have HAK := hide hask2
              have HPA := hide hpa
              have HAC := hide hac
              clear hcell hsame hask2 hpa hac hlk
              cases hask : y.ask with
              | false =>
                have HS1 := hide (fun q => HSM.out q hask)
                rw [hask] at f1
                go_wp2
                exact ⟨⟨j + 1, by omega, by go_num, hD, S3.out, C7.out, C8.out, AL.out.congr fun q r _ => by rw [HS1.out q], OW.out, KK.out⟩, by simp [intOf]; omega⟩
              | true =>
                have HA1 := hide (HAK.out hask)
                obtain ⟨ha0, -, ha2⟩ := HAC.out hask
                have hmem := HPA.out hask
                obtain ⟨q, hq⟩ : ∃ q, q = y.at_.toNat := ⟨_, rfl⟩
                rw [← hq] at ha2 hmem HA1
                rw [hask] at f1
                obtain ⟨ao, co2, hvo⟩ := cu_slice OW.out
                subst hvo
                have hc8 := C8.out.1
                have hi4 : (i : Int) ≤ 400 := by omega
                have HTM : Hid (∀ q ∈ L.take i, q < n) := fun q hq => HLT.out q (List.mem_of_mem_take hq)
                have VW : Hid (whereN (dF ((L.take i).map (mv f L))) y.name i = ((L.idxOf q : Nat) : Int)) := by
                  have h1 := where_idx HOK.out HTM.out hmem (dF ((L.take i).map (mv f L))) (fun k hk => by
                    have h2 : ((L.take i).map (mv f L))[k]? = some (mv f L (L.take i)[k]) := by rw [List.getElem?_map, List.getElem?_eq_getElem hk]; rfl
                    rw [dF, List.getD_eq_getElem?_getD, h2]
                    rfl) ha2
                  rw [HTL.out] at h1
                  show _ = _
                  have h4 : L.idxOf q = (L.take i).idxOf q := (congrArg (fun l => List.idxOf q l) HSP.out).trans (by show List.idxOf q (L.take i ++ x :: L.drop (i + 1)) = _; rw [List.idxOf_append, if_pos hmem])
                  rw [whereN, h1, h4]
                have SL : Hid (SlDeed wr ao i (dF ((L.take i).map (mv f L)))) := by
                  have h1 := AL.out.rows (pre := L.take i) (base2 := w4.heap.size + 2) (a := ao) (c := co2) (by rw [HTL.out]; exact OW.out) (fun q hq => by have := HTM.out q hq; have := HRL.out; omega) (dF ((L.take i).map (mv f L))) (fun k hk => by
                    have h2 : ((L.take i).map (mv f L))[k]? = some (mv f L (L.take i)[k]) := by rw [List.getElem?_map, List.getElem?_eq_getElem hk]; rfl
                    have hm : (L.take i)[k] ∈ L.take i := List.getElem_mem hk
                    have h3 : dF ((L.take i).map (mv f L)) k = mv f L (L.take i)[k] := by rw [dF, List.getD_eq_getElem?_getD, h2]; rfl
                    rw [h3, HR.out _ (HTM.out _ hm), curAt, if_pos hm]
                    exact ⟨rfl, rfl, rfl, rfl, rfl, rfl, rfl, rfl⟩)
                  rw [HTL.out] at h1
                  exact h1
                generalize ((L.idxOf q : Nat) : Int) = ix at VW HA1
                have hX8 : w4.heap.size + 1 < wr.heap.size := by omega
                have hglw : gl < wr.heap.size := by omega
                have CT : Hid (∀ V, Below wr.heap.size wr V → Calls Tryd.prog 12 #[.agg #[.slice ao i co2], .string y.name] V fun e w' => e = .returned (.int .i64 ix) ∧ Below V.heap.size V w') := fun V hV => by
                  have h := l3At_any ao i co2 (dF ((L.take i).map (mv f L))) y.name V (by omega) (SL.out.below hV (Nat.le_refl _))
                  rw [VW.out] at h
                  exact h
                have SK : Hid (∀ V, Below wr.heap.size wr V → V.cell? ⟨D, 5, none⟩ = some (.slice (some ⟨gl, 0, none⟩) ln c5) ∧ V.cell? ⟨w4.heap.size + 1, 0, none⟩ = some (.slice ao i co2) ∧ V.cell? ⟨gl, j * 4, none⟩ = some (.string y.name)) := fun V hV => ⟨(hV.cell (p := ⟨D, 5, none⟩) hD).trans hx5, (hV.cell (p := ⟨w4.heap.size + 1, 0, none⟩) hX8).trans hc8, (hV.cell (p := ⟨gl, j * 4, none⟩) hglw).trans f0⟩
                have SKS : Hid (∀ V v, Below wr.heap.size wr V → (V.setCell ⟨gl, j * 4 + 3, none⟩ v).cell? ⟨D, 5, none⟩ = some (.slice (some ⟨gl, 0, none⟩) ln c5) ∧ (V.setCell ⟨gl, j * 4 + 3, none⟩ v).cell? ⟨w4.heap.size + 1, 0, none⟩ = some (.slice ao i co2) ∧ (V.setCell ⟨gl, j * 4 + 3, none⟩ v).cell? ⟨gl, j * 4, none⟩ = some (.string y.name)) := fun V v hV => by
                  obtain ⟨k1, k2, k3⟩ := SK.out V hV
                  exact ⟨(cell_far _ _ _ _ (by show gl ≠ D; omega)).trans k1, (cell_far _ _ _ _ (by show gl ≠ w4.heap.size + 1; omega)).trans k2, (World.cell?_setCell_other _ _ _ _ (by simp)).trans k3⟩
                have hj0 : (0 : Int) ≤ (j : Int) := by omega
                have hjl : (j : Int) < ln := by omega
                go_wp2_with fail
                clear hx5 hc8 f0 f1
                go_region_held3 (fun V => V.cell? ⟨D, 5, none⟩ = some (.slice (some ⟨gl, 0, none⟩) ln c5) ∧ V.cell? ⟨w4.heap.size + 1, 0, none⟩ = some (.slice ao i co2) ∧ V.cell? ⟨gl, j * 4, none⟩ = some (.string y.name)) (first | exact SK.out _ (Below.refl _ _) | exact SK.out _ (Below.refl _ _).drew | exact SK.out _ B1.out | exact SKS.out _ _ B1.out)
                  (first
                  | (go_at_call 12; refine (CT.out _ (by first | exact (Below.refl _ _).drew | exact Below.refl _ _)).mono ?_; rintro e w1 ⟨rfl, hB1⟩; have B1 : Hid (Below wr.heap.size wr w1) := ⟨hB1.os, hB1.tape, hB1.output, hB1.size, hB1.block⟩; have g3 := (B1.out.cell (p := ⟨gl, j * 4 + 3, none⟩) hglw).trans f3; have y3 := (B1.out.frozen (p := ⟨gl, j * 4 + 3, none⟩) hglw).trans z3; clear hB1))
                have hgne : gl ≠ D := by omega
                have S5 := hide ((S3.out.below B1.out hD).far (p := ⟨gl, j * 4 + 3, none⟩) hgne (.int .i64 ix))
                have F7 := hide ((cell_far w1 ⟨gl, j * 4 + 3, none⟩ ⟨w4.heap.size, 0, none⟩ (.int .i64 ix) (by show gl ≠ w4.heap.size; omega)).trans ((B1.out.cell (p := ⟨w4.heap.size, 0, none⟩) (by show w4.heap.size < _; omega)).trans C7.out))
                have F8 : Hid ((w1.setCell ⟨gl, j * 4 + 3, none⟩ (.int .i64 ix)).cell? ⟨w4.heap.size + 1, 0, none⟩ = some (.slice ao i co2) ∧ (w1.setCell ⟨gl, j * 4 + 3, none⟩ (.int .i64 ix)).frozen? ⟨w4.heap.size + 1, 0, none⟩ = false) := ⟨(SKS.out w1 _ B1.out).2.1, by rw [World.frozen?_setCell]; exact (B1.out.frozen (p := ⟨w4.heap.size + 1, 0, none⟩) hX8).trans C8.out.2⟩
                have OW5 := hide (cu_blk (w' := w1.setCell ⟨gl, j * 4 + 3, none⟩ (.int .i64 ix)) (own_below OW.out B1.out (Nat.le_refl _)) (fun k hk _ => Below.heap_setCell _ _ _ _ (by have := (OW.out.lt k hk).1; show k ≠ gl; omega)))
                have AL5 : Hid (AllB (w1.setCell ⟨gl, j * 4 + 3, none⟩ (.int .i64 ix)) (w3.heap.size + 3) w4.heap.size (.slice (some ⟨g7, 0, none⟩) R.length c7) R (curAt f L (L.take i) x (j + 1))) := by
                  show AllB _ _ _ _ _ _
                  rw [HA1.out]
                  exact (AL.out.below B1.out (by omega)).setLink HXR.out HE5.out (by rw [HRX.out, HLN.out]; exact hlt2) ix
                have KK5 := hide ((KK.out.trans (B1.out.mono KK.out.size)).setCell (p := ⟨gl, j * 4 + 3, none⟩) (by show w3.heap.size ≤ gl; omega) (.int .i64 ix))
                have hD5 : D < (w1.setCell ⟨gl, j * 4 + 3, none⟩ (.int .i64 ix)).heap.size := S5.out.lt
                go_simp
                go_wp2
                exact ⟨⟨j + 1, by omega, by go_num, hD5, S5.out, F7.out, F8.out, AL5.out, OW5.out, KK5.out⟩, by simp [intOf]; omega⟩
            · have ej : j = ln := by omega
              subst ej
              obtain ⟨ao, co2, hvo⟩ := cu_slice OW.out
              subst hvo
              obtain ⟨p0, _⟩ := S3.out.c0
              obtain ⟨p1, _⟩ := S3.out.c1
              obtain ⟨p2, _⟩ := S3.out.c2
              obtain ⟨p3, _⟩ := S3.out.c3
              obtain ⟨p4, _⟩ := S3.out.c4
              have hc8 := C8.out.1
              have HDV : Hid (ddV (rAt R x) = [.string (f x).name, .int .i64 (f x).kind, .int .i64 (f x).code, .string (f x).text, .slice a4 (f x).actN c4, .slice a5 j c5]) := by
                show _ = _
                rw [ddV, HE4.out, HE5.out, HRX.out, HLN.out]
              have hX8 : w4.heap.size + 1 < wr.heap.size := by omega
              have A7 := hide ((Below.refl wr.heap.size wr).alloc (Nat.le_refl _) (.cells #[.string (f x).name, .int .i64 (f x).kind, .int .i64 (f x).code, .string (f x).text, .slice a4 (f x).actN c4, .slice a5 j c5] 49))
              have R7 := hide (OW.out.alloc (.cells #[.string (f x).name, .int .i64 (f x).kind, .int .i64 (f x).code, .string (f x).text, .slice a4 (f x).actN c4, .slice a5 j c5] 49))
              have hz7 : w4.heap.size + 2 ≤ (wr.alloc (.cells #[.string (f x).name, .int .i64 (f x).kind, .int .i64 (f x).code, .string (f x).text, .slice a4 (f x).actN c4, .slice a5 j c5] 49)).heap.size := by simp; omega
              go_wp2_with (at_builtin; refine wpList_append_own _ rfl (.tmp 76) (.tmp 78) 26 rfl (w4.heap.size + 2) 49 i1' (.agg #[.string ⟨#[]⟩, .int .i64 0, .int .i64 0, .string ⟨#[]⟩, .slice none 0 0, .slice none 0 0]) 6 96 Tryd.underlying26 hjj hy0 hy1 hy2 rfl (by decide) (.slice ao i co2) i (((L.take i).map (rAt R)).flatMap ddV) (by simp [Act.eval]) R7.out ⟨wr.heap.size, 0, none⟩ 1 1 [.string (f x).name, .int .i64 (f x).kind, .int .i64 (f x).code, .string (f x).text, .slice a4 (f x).actN c4, .slice a5 j c5] (by simp [Act.eval]) rfl (cp_six wr _ _ _ _ _ _ _) (by simp [Value.oneCell']) (by unfold maxLen; omega) (by omega) hz7 ?_; intro v' w8 hown hgrow hnil; obtain ⟨gs, cs, rfl⟩ := cu_some hown (by omega); have E8 := hide (Below.grown (Below.refl (w4.heap.size + 2) _) hgrow hz7 (fun j e => (R7.out.lt j e).1)); have G8 := hide ((A7.out.mono (by omega)).trans E8.out); have O8 := hide hown; have k0 := (G8.out.cell (p := ⟨w4.heap.size + 1, 0, none⟩) (by show w4.heap.size + 1 < w4.heap.size + 2; omega)).trans hc8; have k1 := (G8.out.frozen (p := ⟨w4.heap.size + 1, 0, none⟩) (by show w4.heap.size + 1 < w4.heap.size + 2; omega)).trans C8.out.2; clear hown hgrow hnil)
              have hz8 := G8.out.size
              have O9 : Hid ((w8.setCell ⟨w4.heap.size + 1, 0, none⟩ (.slice (some ⟨gs, 0, none⟩) (i + 1) cs)).ownsRow (w4.heap.size + 2) 49 6 (.slice (some ⟨gs, 0, none⟩) (i + 1) cs) (i + 1) (((L.take (i + 1)).map (rAt R)).flatMap ddV)) := by
                show World.ownsRow _ _ _ _ _ _ _
                rw [HTK.out, List.map_append, List.flatMap_append]
                have := own_set (R := w4.heap.size + 1) (j := 0) O8.out (by omega) (.slice (some ⟨gs, 0, none⟩) (i + 1) cs)
                simpa [HDV.out] using this
              have AL9 : Hid (AllB (w8.setCell ⟨w4.heap.size + 1, 0, none⟩ (.slice (some ⟨gs, 0, none⟩) (i + 1) cs)) (w3.heap.size + 3) w4.heap.size (.slice (some ⟨g7, 0, none⟩) R.length c7) R (curAt f L (L.take (i + 1)) n 0)) := by
                refine ((AL.out.below G8.out (by omega)).set (p := ⟨w4.heap.size + 1, 0, none⟩) (by show w4.heap.size ≤ w4.heap.size + 1; omega) _).congr fun q r hr => ?_
                have hq : q < n := by have := (List.getElem?_eq_some_iff.1 hr).1; have := HRL.out; omega
                have hrq : r.1 = f q := by rw [← HR.out q hq, rAt_eq hr]
                rw [hrq, HTK.out, ← HLN.out]
                exact curAt_done hq
              refine ⟨⟨i + 1, .slice (some ⟨gs, 0, none⟩) (i + 1) cs, by omega, by go_num, by simp; omega, (cell_far _ _ _ _ (by show w4.heap.size + 1 ≠ w4.heap.size; omega)).trans ((G8.out.cell (p := ⟨w4.heap.size, 0, none⟩) (by show w4.heap.size < w4.heap.size + 2; omega)).trans C7.out), ⟨World.cell?_setCell_same' _ _ _ (by rw [k0]; rfl), by rw [World.frozen?_setCell]; exact k1⟩, AL9.out, O9.out, (KK.out.trans (G8.out.mono (by omega))).setCell (by show w3.heap.size ≤ w4.heap.size + 1; omega) _⟩, by simp [intOf]; omega⟩
        · have ei : i = L.length := by omega
          have HTA : Hid (L.take i = L) := by show _ = _; rw [ei, List.take_length]
          obtain ⟨ao, co2, hvo⟩ := cu_slice OW.out
          subst hvo
          have hc8 := C8.out.1
          have SLF : Hid (∀ V, AllB V (w3.heap.size + 3) w4.heap.size (.slice (some ⟨g7, 0, none⟩) R.length c7) R (curAt f L (L.take i) n 0) → V.ownsRow (w4.heap.size + 2) 49 6 (.slice ao i co2) i (((L.take i).map (rAt R)).flatMap ddV) → SlDeed V ao i (dF (cutRaw f p))) := by
            intro V hAV hOV
            have h1 := hAV.rows (pre := L) (base2 := w4.heap.size + 2) (a := ao) (c := co2) (by rw [HTA.out, ei] at hOV; exact hOV) (fun q hq => by have := HLT.out q hq; have := HRL.out; omega) (dF (L.map (mv f L))) (fun k hk => by
              have hm : L[k] ∈ L := List.getElem_mem hk
              rw [dF_map hk, HR.out _ (HLT.out _ hm), curAt, HTA.out, if_pos hm]
              exact ⟨rfl, rfl, rfl, rfl, rfl, rfl, rfl, rfl⟩)
            rw [← HRW.out, ← ei] at h1
            exact h1
          have SL := hide (SLF.out wr AL.out OW.out)
          have hcl : (cutRaw f p).length = i := by rw [HRW.out, List.length_map]; omega
          have HCL := hide hcl
          have B9 := hide (B3.out.trans (KK.out.mono B3.out.size))
          have X9 := hide (X3.out.below KK.out hs3)
          have hi4 : (i : Int) ≤ 400 := by omega
          clear hcl
          have HEI := hide ei
          clear ei
          go_wp2_with fail
          refine (l3Ok_any ao i co2 (dF (cutRaw f p)) _ (by omega) SL.out (fun k hk => by
            have hkl : k < L.length := by have := HEI.out; omega
            rw [HRW.out, dF_map hkl]
            exact mv_fits (HM.out _ (HLT.out _ (List.getElem_mem hkl)))) (fun k hk => by
            have hkl : k < L.length := by have := HEI.out; omega
            rw [HRW.out, dF_map hkl]
            exact mv_sized (HZ.out _ (HLT.out _ (List.getElem_mem hkl))))).mono ?_
          rintro e w9 ⟨rfl, hB9⟩
          have BA := hide (B9.out.trans (hB9.mono B9.out.size))
          have XA := hide (X9.out.below hB9 X9.out.size)
          have ALA := hide (AL.out.below hB9 (by omega))
          have OWA := hide (own_below OW.out hB9 (Nat.le_refl _))
          have k8 := (hB9.cell (p := ⟨w4.heap.size + 1, 0, none⟩) (by show w4.heap.size + 1 < _; omega)).trans hc8
          clear hB9 hc8
          obtain ⟨r0, z0⟩ := XA.out.r
          cases hok2 : accOk (dF (cutRaw f p)) i with
          | false =>
            have HE2 : Hid (C = []) := by show C = []; rw [HE.out, HCL.out, if_neg (by rw [hok2]; simp)]
            go_wp2
            exact bodyPost_ret (v := .agg #[.slice none 0 0]) (by simp [results, Tryd.results5, go_sem, r0]) rfl ⟨none, 0, by rw [HE2.out]; rfl, .inl (by rw [HE2.out]; rfl), BA.out.setCell (by show w.heap.size ≤ w.heap.size + 1; omega) _⟩
          | true =>
            have HE2 : Hid (C = cutRaw f p) := by show C = _; rw [HE.out, HCL.out, if_pos hok2]
            go_wp2
            refine bodyPost_ret (v := .agg #[.slice ao i co2]) (by simp [results, Tryd.results5, go_sem, r0]) rfl ⟨ao, co2, by rw [HE2.out, HCL.out], ?_, BA.out.setCell (by show w.heap.size ≤ w.heap.size + 1; omega) _⟩
            rw [HE2.out, HCL.out]
            exact SLF.out _ (ALA.out.keep fun k hk _ => Below.heap_setCell _ _ _ _ (by show k ≠ w.heap.size + 1; omega)) (own_set OWA.out (by omega) _)

end Go.Proofs.YtkikpcklccdihaaDoor.Vp
