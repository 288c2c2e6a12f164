/-
  impl: Cut.
-/
import Derived.Test.YtkikpcklccdihaaDoorZCuListed
import Derived.Test.YtkikpcklccdihaaDoorZCuIdx
import Derived.Test.YtkikpcklccdihaaDoorZNmValid
namespace Go.Proofs.YtkikpcklccdihaaDoor.Vp
open Go.RowKit Go.Proofs.YtkikpcklccdihaaDoor.Ca

theorem raw_mem {f : Nat → Deed} {n p : Nat} (hA : Ahead f n) (hp : p < n) {x : Deed} (hx : x ∈ cutRaw f p) : ∃ q, q < n ∧ x = mv f (cutL f p) q := by
  unfold cutRaw at hx
  obtain ⟨q, hq, rfl⟩ := List.mem_map.1 hx
  exact ⟨q, by have := cutL_lt hA hp q hq; omega, rfl⟩
theorem raw_fits {f : Nat → Deed} {n p : Nat} (hA : Ahead f n) (hp : p < n) (hf : ∀ i, i < n → FitsDeed (f i)) : ∀ x ∈ cutRaw f p, FitsDeed x := by
  intro x hx
  obtain ⟨q, hq, rfl⟩ := raw_mem hA hp hx
  exact hf q hq
theorem dF_mem {L : List Deed} {i : Nat} (hi : i < L.length) : dF L i ∈ L := by
  unfold dF
  rw [List.getD_eq_getElem?_getD, List.getElem?_eq_getElem hi]
  exact List.getElem_mem hi
theorem own_cap {w : World} {base size n : Nat} {e : TypeId} {a : Option Addr} {c : Nat} {xs : List Value} (h : w.ownsRow base e size (.slice a n c) n xs) : n ≤ c := by
  rcases h.2 with ⟨h1, h2⟩ | ⟨g, c', cur, h1, _, _, hc, _⟩
  · cases h1
    omega
  · cases h1
    exact hc

/-- The boxes of Cut: the account, the name, the answer. -/
structure CuB (W : World) (h : Nat) (v : Value) (t : ByteArray) : Prop where
  size : h + 3 ≤ W.heap.size
  a : W.cell? ⟨h, 0, none⟩ = some v
  n : W.cell? ⟨h + 1, 0, none⟩ = some (.string t)
  r : W.cell? ⟨h + 2, 0, none⟩ = some (.slice none 0 0) ∧ W.frozen? ⟨h + 2, 0, none⟩ = false
theorem cu_new (w : World) (v : Value) (t : ByteArray) (t1 t2 : TypeId) : CuB (((w.alloc (.cells #[v] t1)).alloc (.cells #[.string t] t2)).alloc (.cells #[.slice none 0 0] t1)) w.heap.size v t := by
  obtain ⟨w1, e1⟩ : ∃ w1, w.alloc (.cells #[v] t1) = w1 := ⟨_, rfl⟩
  obtain ⟨w2, e2⟩ : ∃ w2, w1.alloc (.cells #[.string t] t2) = w2 := ⟨_, rfl⟩
  obtain ⟨w3, e3⟩ : ∃ w3, w2.alloc (.cells #[.slice none 0 0] t1) = w3 := ⟨_, rfl⟩
  rw [e1, e2, e3]
  have z1 : w1.heap.size = w.heap.size + 1 := by rw [← e1]; simp
  have z2 : w2.heap.size = w.heap.size + 2 := by rw [← e2]; simp; omega
  have z3 : w3.heap.size = w.heap.size + 3 := by rw [← e3]; simp; omega
  have b23 : Below w2.heap.size w2 w3 := by rw [← e3]; exact (Below.refl _ _).alloc (Nat.le_refl _) _
  have b13 : Below w1.heap.size w1 w3 := (by rw [← e2]; exact (Below.refl _ _).alloc (Nat.le_refl _) _ : Below w1.heap.size w1 w2).trans (b23.mono (by omega))
  have n1 := li_one w v t1
  have n2 := li_one w1 (.string t) t2
  have n3 := li_one w2 (.slice none 0 0) t1
  rw [e1] at n1
  rw [e2, z1] at n2
  rw [e3, z2] at n3
  exact ⟨by omega, (b13.cell (p := ⟨w.heap.size, 0, none⟩) (by show w.heap.size < _; omega)).trans n1.1, (b23.cell (p := ⟨w.heap.size + 1, 0, none⟩) (by show w.heap.size + 1 < _; omega)).trans n2.1, n3⟩
theorem CuB.below {W W' : World} {h B : Nat} {v : Value} {t : ByteArray} (b : CuB W h v t) (hb : Below B W W') (hB : h + 3 ≤ B) : CuB W' h v t := by
  have c : ∀ k o, k < B → W'.cell? ⟨k, o, none⟩ = W.cell? ⟨k, o, none⟩ := fun k o hk => hb.cell (p := ⟨k, o, none⟩) hk
  exact ⟨Nat.le_trans b.size hb.size, (c _ _ (by omega)).trans b.a, (c _ _ (by omega)).trans b.n, (c _ _ (by omega)).trans b.r.1, (hb.frozen (p := ⟨h + 2, 0, none⟩) (by show h + 2 < B; omega)).trans b.r.2⟩

set_option maxRecDepth 100000 in
set_option maxHeartbeats 4000000 in
theorem implCut_any (b off n cap : Nat) (f : Nat → Deed) (t : ByteArray) (w : World) (hn : (n : Int) ≤ 1048576) (hf : RowDeedS w b off n f) (hcap : (n : Int) ≤ cap) (hfit : ∀ i, i < n → FitsDeed (f i)) (hT : Tab w) :
    Calls Tryd.prog 7 #[.agg #[.slice (some ⟨b, off, none⟩) n cap], .string t] w fun e w' => ∃ a c R, e = .returned (.agg #[.slice a R.length c]) ∧ DRow w' (w.heap.size + 3) (.slice a R.length c) R ∧ R.map (·.1) = cutD f n t ∧ Below w.heap.size w w' := by
  have HF := hide hf
  have HM := hide hfit
  have HT := hide hT
  clear hf hfit hT
  have A0 := hide ((((Below.refl w.heap.size w).alloc (Nat.le_refl _) (.cells #[.slice (some ⟨b, off, none⟩) n cap] 28)).alloc (by simp) (.cells #[.string t] 9)).alloc (by simp; omega) (.cells #[.slice none 0 0] 28))
  have X0 := hide (cu_new w (.slice (some ⟨b, off, none⟩) n cap) t 28 9)
  obtain ⟨C, hC⟩ : ∃ C, C = cutD f n t := ⟨_, rfl⟩
  rw [← hC]
  have HC := hide hC
  clear hC
  go_enter Tryd.func7, Tryd.ntmps7
  go_wp2_with fail
  generalize ((w.alloc (.cells #[.slice (some ⟨b, off, none⟩) n cap] 28)).alloc (.cells #[.string t] 9)).alloc (.cells #[.slice none 0 0] 28) = W0 at A0 X0 ⊢
  refine (validAccount_any _ n cap f _ hn (HF.out.below A0.out (Nat.le_refl _)).row.sl hcap HM.out (HT.out.below A0.out HT.out.1)).mono ?_
  rintro e w1 ⟨rfl, hB1⟩
  have B1 := hide (A0.out.trans (hB1.mono A0.out.size))
  have X1 := hide (X0.out.below hB1 X0.out.size)
  clear hB1 X0 A0
  cases hok : accOk f n with
  | false =>
    obtain ⟨r0, z0⟩ := X1.out.r
    have HE : Hid (C = []) := by show C = []; rw [HC.out, cutD, if_neg (by rw [hok]; simp)]
    go_wp2
    exact bodyPost_ret (v := .agg #[.slice none 0 0]) (by simp [results, Tryd.results7, go_sem, r0]) rfl ⟨none, 0, [], rfl, dRow_nil _ _, HE.out.symm, B1.out.setCell (by show w.heap.size ≤ w.heap.size + 2; omega) _⟩
  | true =>
    have HOK := hide hok
    have hn2 := accOk_n hok
    clear hok
    have ha1 := X1.out.a
    go_wp2_with fail
    refine (idxDeed_row b off n cap f (w.heap.size + 1) t _ hn (HF.out.below B1.out (Nat.le_refl _)).row X1.out.n (by have := X1.out.size; omega)).mono ?_
    rintro e w2 ⟨rfl, hB2⟩
    have B2 := hide (B1.out.trans (hB2.mono B1.out.size))
    have X2 := hide (X1.out.below hB2 X1.out.size)
    clear hB2 X1 B1 ha1
    obtain ⟨r0, z0⟩ := X2.out.r
    have ha2 := X2.out.a
    rcases firstNo_cases (fun i => !((f i).name.toList == t.toList)) n with hw | ⟨p, hw, hp, -, -⟩
    · have HE : Hid (C = []) := by show C = []; rw [HC.out, cutD, if_pos HOK.out, if_pos (by unfold whereN; exact hw)]
      rw [whereN, hw]
      go_wp2
      exact bodyPost_ret (v := .agg #[.slice none 0 0]) (by simp [results, Tryd.results7, go_sem, r0]) rfl ⟨none, 0, [], rfl, dRow_nil _ _, HE.out.symm, B2.out.setCell (by show w.heap.size ≤ w.heap.size + 2; omega) _⟩
    · have HE : Hid (C = if accOk (dF (cutRaw f p)) (cutRaw f p).length = true then cutRaw f p else []) := by
        have e : whereN f t n = (p : Int) := hw
        show C = _
        rw [HC.out, cutD, if_pos HOK.out, e, if_neg (by omega), Int.toNat_natCast]
      rw [whereN, hw]
      have hA := ahead_of hn2.2.2
      have HAA := hide hA
      have hp1 : (p : Int) + 1 ≤ 400 := by omega
      have hpc : (p : Int) + 1 ≤ cap := by omega
      go_wp2_with fail
      refine (listed_any b off (p + 1) cap f _ (ahead_le HAA.out (by omega)) (by omega) (by omega) ((HF.out.below B2.out (Nat.le_refl _)).le (by omega)) (fun i hi => accOk_links HOK.out i (by omega)) (fun i hi => HM.out i (by omega))).mono ?_
      rintro e w3 ⟨a, c, R, rfl, hD3, hR, hB3⟩
      rw [Nat.add_sub_cancel] at hR
      have hRl : R.length = (cutRaw f p).length := by rw [← hR]; simp
      have hRb : R.length ≤ p + 1 := by rw [hRl, cutRaw, List.length_map]; exact (cutL_len HAA.out hp).1
      have HR := hide hR
      have HRL := hide hRl
      have B3 := hide (B2.out.trans (hB3.mono B2.out.size))
      have X3 := hide (X2.out.below hB3 X2.out.size)
      have hz3 : w2.heap.size ≤ w3.heap.size := hB3.size
      have hs2 := X2.out.size
      have D3 := hide hD3
      have A4 := hide ((Below.refl w3.heap.size w3).alloc (Nat.le_refl _) (.cells #[.slice a R.length c] 28))
      have D4 := hide (hD3.below A4.out (Nat.le_refl _))
      have B4 := hide (B3.out.trans (A4.out.mono B3.out.size))
      have X4 := hide (X3.out.below A4.out X3.out.size)
      have V4 : Hid (SlDeed (w3.alloc (.cells #[.slice a R.length c] 28)) a R.length (dF (cutRaw f p))) := by have := D4.out.deeds; rw [hR] at this; exact this
      have hcc := own_cap hD3.own
      have k4 : (w3.alloc (.cells #[.slice a R.length c] 28)).cell? ⟨w3.heap.size, 0, none⟩ = some (.slice a R.length c) := by simp
      clear hD3 hR hB3 hRl r0 z0 ha2 D3 X3 B3 X2 B2
      go_wp2_with fail
      generalize w3.alloc (.cells #[.slice a R.length c] 28) = W4 at A4 D4 B4 X4 V4 k4 ⊢
      refine (validAccount_any a R.length c (dF (cutRaw f p)) _ (by omega) V4.out (by omega) (fun i hi => raw_fits HAA.out hp HM.out _ (dF_mem (by rw [← HRL.out]; exact hi))) (HT.out.below B4.out HT.out.1)).mono ?_
      rintro e w5 ⟨rfl, hB5⟩
      have B5 := hide (B4.out.trans (hB5.mono B4.out.size))
      have X5 := hide (X4.out.below hB5 X4.out.size)
      have D5 := hide (D4.out.below hB5 (Nat.le_refl _))
      have k5 := (hB5.cell (p := ⟨w3.heap.size, 0, none⟩) (by have := A4.out; show w3.heap.size < W4.heap.size; exact World.block_lt_of_cell? _ _ k4)).trans k4
      clear hB5 B4 X4 D4 k4 A4 V4
      obtain ⟨r0, z0⟩ := X5.out.r
      cases hok2 : accOk (dF (cutRaw f p)) R.length with
      | false =>
        have HE2 : Hid (C = []) := by show C = []; rw [HE.out, if_neg (by rw [← HRL.out, hok2]; simp)]
        go_wp2
        exact bodyPost_ret (v := .agg #[.slice none 0 0]) (by simp [results, Tryd.results7, go_sem, r0]) rfl ⟨none, 0, [], rfl, dRow_nil _ _, HE2.out.symm, B5.out.setCell (by show w.heap.size ≤ w.heap.size + 2; omega) _⟩
      | true =>
        have HE2 : Hid (C = cutRaw f p) := by show C = _; rw [HE.out, if_pos (by rw [← HRL.out, hok2])]
        go_wp2
        exact bodyPost_ret (v := .agg #[.slice a R.length c]) (by simp [results, Tryd.results7, go_sem, r0]) rfl ⟨a, c, R, rfl, (D5.out.mono (by omega)).set (e := 0) (.inl (by show w.heap.size + 2 < w.heap.size + 3; omega)) _, by rw [HR.out, HE2.out], B5.out.setCell (by show w.heap.size ≤ w.heap.size + 2; omega) _⟩

end Go.Proofs.YtkikpcklccdihaaDoor.Vp
