/-
  Put together of: WhImpl.
-/
import Derived.Test.YtkgddbcjmejfaaaGreatDoorZT
import Derived.Test.YtkgddbcjmejfaaaGreatDoorZW
import Derived.Test.YtkgddbcjmejfaaaGreatDoorZU
import Derived.Deep.DeepCutAuto

/-
  Why, impl: Why.
-/
namespace Go.Proofs.YtkgddbcjmejfaaaGreatDoor.Vp
open Go.RowKit Go.Maps Go.Sort

theorem mem_lnkL {acc : List (List UInt8)} {g : Nat → Link} {j : Nat} {z : List UInt8} (h : z ∈ acc ∨ ∃ i, i < j ∧ z = (g i).name.toList) : z ∈ lnkL acc g j := by
  induction j with
  | zero =>
    rcases h with h | ⟨i, hi, _⟩
    · exact h
    · omega
  | succ j ih =>
    rw [lnkL]
    refine (mem_lput _ _ _).2 ?_
    rcases h with h | ⟨i, hi, e⟩
    · exact .inl (ih (.inl h))
    · by_cases hj : i = j
      · subst hj
        exact .inr e
      · exact .inl (ih (.inr ⟨i, by omega, e⟩))
theorem tells_name {f : Nat → Deed} {s : List UInt8} {k : Nat} {x : Tl} (h : x ∈ tellsTo f s k) : s ∈ nameL f k := by
  induction k with
  | zero => cases h
  | succ k ih =>
    rw [tellsTo] at h
    rw [nameL]
    rcases List.mem_append.1 h with h | h
    · rcases List.mem_append.1 h with h | h
      · exact mem_lnkL (.inl ((mem_lput _ _ _).2 (.inl (ih h))))
      · split at h
        · rename_i hc
          exact mem_lnkL (.inl ((mem_lput _ _ _).2 (.inr hc.symm)))
        · cases h
    · obtain ⟨i, hi, _, e⟩ := tellLk_all h
      exact mem_lnkL (.inr ⟨i, hi, e.symm⟩)
theorem whyB_iff {f : Nat → Deed} {n : Nat} {g : Nat → Deed} {m : Nat} {s : List UInt8} : whyB f n g m s = true ↔ ∃ x ∈ tellsTo f s n, ∃ y ∈ tellsTo g s m, agreeB x y = false := by
  unfold whyB partB
  simp
theorem whyL_iff {f : Nat → Deed} {n : Nat} {g : Nat → Deed} {m : Nat} (hf : accOk f n = true) (hg : accOk g m = true) (s : List UInt8) : s ∈ whyL f n g m ↔ whyB f n g m s = true := by
  unfold whyL
  rw [if_pos ⟨hf, hg⟩, List.mem_filter]
  refine ⟨fun h => h.2, fun h => ⟨?_, h⟩⟩
  obtain ⟨x, hx, _⟩ := whyB_iff.1 h
  exact tells_name hx

theorem SetIs.blk {w w' : World} {mb n : Nat} {L : List (List UInt8)} (h : SetIs w mb n L) (hb : w'.heap[mb]? = w.heap[mb]?) : SetIs w' mb n L := by
  obtain ⟨D, ⟨es, clock, h1, Ft, hs, hD⟩, h2⟩ := h
  exact ⟨D, ⟨es, clock, hb.trans h1, Ft, hs, hD⟩, h2⟩
theorem RgN.cnt_le {w : World} {b r n : Nat} {G : List UInt8 → Option Value} {left : List UInt8 → Bool} {cnt : Nat} (h : RgN w b r n G left cnt) : cnt ≤ n := by
  obtain ⟨D, L, ⟨es, clock, since, seen, c0, h1, h2, h3, h4, h5, h6, h7, h8⟩, hG, hL⟩ := h
  have : (leftOf es seen).size ≤ es.size := Array.size_filter_le
  omega
theorem optMap (o : Option Nat) : (o.map fun b => Value.map (some b)).getD (.map none) = .map o := by
  cases o <;> rfl
theorem TaleG.setO {w w' : World} {lo tb n : Nat} {G : List UInt8 → Option Nat} {T : List UInt8 → Told → Prop} (h : TaleG w lo tb n G T) {B : Nat} (hb : Below B w w') (hB : w.heap.size ≤ B) (s : List UInt8) : SetO w' (G s) n (T s) := by
  cases e : G s with
  | none => exact h.no s e
  | some b => exact (h.set s b e).1.blk (hb.block b (Nat.lt_of_lt_of_le (h.set s b e).1.lt hB))
/-- T is what the account tells, its actions numbered by K. -/
def Tells (K : List UInt8 → List KAct) (f : Nat → Deed) (n : Nat) (T : List UInt8 → Told → Prop) : Prop :=
  (∀ s t, T s t ↔ ∃ x ∈ tellsTo f s n, t = encT K s x) ∧ ∀ s, ∀ x ∈ tellsTo f s n, InK K s x ∧ GoodT x
theorem tells_of {f : Nat → Deed} {n : Nat} {K0 K : List UInt8 → List KAct} (h : accOk f n = true) (hE : ExtK (actTo f K0 n) K) : Tells K f n (toldTo f K0 n) := by
  have hk := kinds_of h
  refine ⟨fun s t => ?_, fun s x hx => ⟨((tellsTo_in hk x hx).ext hE).1, tellsTo_good hk x hx⟩⟩
  rw [toldTo_iff hk]
  constructor
  · rintro ⟨x, hx, e⟩
    exact ⟨x, hx, e.trans ((tellsTo_in hk x hx).ext hE).2.symm⟩
  · rintro ⟨x, hx, e⟩
    exact ⟨x, hx, e.trans ((tellsTo_in hk x hx).ext hE).2⟩
theorem part_why {f : Nat → Deed} {n : Nat} {g : Nat → Deed} {m : Nat} {K : List UInt8 → List KAct} {T1 T2 : List UInt8 → Told → Prop} (h1 : Tells K f n T1) (h2 : Tells K g m T2) (s : List UInt8) : (∃ t u, T1 s t ∧ T2 s u ∧ goesB t u = false) ↔ whyB f n g m s = true := by
  rw [whyB_iff]
  constructor
  · rintro ⟨t, u, ht, hu, hg⟩
    obtain ⟨x, hx, rfl⟩ := (h1.1 s t).1 ht
    obtain ⟨y, hy, rfl⟩ := (h2.1 s u).1 hu
    refine ⟨x, hx, y, hy, ?_⟩
    rw [← goes_agree (h1.2 s x hx).2 (h2.2 s y hy).2 (h1.2 s x hx).1 (h2.2 s y hy).1]
    exact hg
  · rintro ⟨x, hx, y, hy, hg⟩
    refine ⟨_, _, (h1.1 s _).2 ⟨x, hx, rfl⟩, (h2.1 s _).2 ⟨y, hy, rfl⟩, ?_⟩
    rw [goes_agree (h1.2 s x hx).2 (h2.2 s y hy).2 (h1.2 s x hx).1 (h2.2 s y hy).1]
    exact hg

set_option maxRecDepth 100000 in
set_option maxHeartbeats 8000000 in
theorem implWhy_any (a0 : Option Addr) (n c0 : Nat) (f : Nat → Deed) (a1 : Option Addr) (m c1 : Nat) (g : Nat → Deed) (w : World) (hn : (n : Int) ≤ 1048576) (hm : (m : Int) ≤ 1048576) (hf : SlDeed w a0 n f) (hg : SlDeed w a1 m g) (hc0 : (n : Int) ≤ c0) (hc1 : (m : Int) ≤ c1) (hff : ∀ i, i < n → FitsDeed (f i)) (hfg : ∀ i, i < m → FitsDeed (g i)) (hsf : ∀ i, i < n → SizedDeed (f i)) (hsg : ∀ i, i < m → SizedDeed (g i)) (hT : Tab w) :
    Calls Tryz.prog 17 #[.agg #[.slice a0 n c0], .agg #[.slice a1 m c1]] w fun e w' => ∃ v, e = .returned v ∧ w'.ownsRow w.heap.size 9 1 v (whyL f n g m).length ((whyL f n g m).map encStr) ∧ Below w.heap.size w w' := by
  have HF := hide hf
  have HG := hide hg
  have HMF := hide hff
  have HMG := hide hfg
  have HZF := hide hsf
  have HZG := hide hsg
  have HT := hide hT
  clear hf hg hff hfg hsf hsg hT
  have A0 := hide (((Below.refl w.heap.size w).alloc (Nat.le_refl _) (.cells #[.slice a0 n c0] 40)).alloc (by simp) (.cells #[.slice a1 m c1] 40))
  have k0 : ((w.alloc (.cells #[.slice a0 n c0] 40)).alloc (.cells #[.slice a1 m c1] 40)).cell? ⟨w.heap.size, 0, none⟩ = some (.slice a0 n c0) := by simp [go_sem]
  have k1 : ((w.alloc (.cells #[.slice a0 n c0] 40)).alloc (.cells #[.slice a1 m c1] 40)).cell? ⟨w.heap.size + 1, 0, none⟩ = some (.slice a1 m c1) := by simp [go_sem]
  have hz : w.heap.size + 1 < ((w.alloc (.cells #[.slice a0 n c0] 40)).alloc (.cells #[.slice a1 m c1] 40)).heap.size := by simp
  obtain ⟨R, hR⟩ : ∃ R, R = whyL f n g m := ⟨_, rfl⟩
  rw [← hR]
  have HE := hide hR
  clear hR
  have HNO := hide (fun h : accOk f n = false ∨ accOk g m = false => (show R = [] by
    rw [HE.out]
    unfold whyL
    rw [if_neg]
    rintro ⟨h1, h2⟩
    rcases h with h | h
    · rw [h1] at h; cases h
    · rw [h2] at h; cases h))
  go_enter Tryz.func17, Tryz.ntmps17
  go_wp2_with fail
  generalize (w.alloc (.cells #[.slice a0 n c0] 40)).alloc (.cells #[.slice a1 m c1] 40) = W0 at A0 k0 k1 hz ⊢
  refine (validAccount_any a0 n c0 f _ hn (HF.out.below A0.out (Nat.le_refl _)) hc0 HMF.out (HT.out.below A0.out HT.out.1)).mono ?_
  rintro e w1 ⟨rfl, hB1⟩
  have B1 := hide (A0.out.trans (hB1.mono A0.out.size))
  have l0 := (hB1.cell (p := ⟨w.heap.size, 0, none⟩) (by show w.heap.size < _; omega)).trans k0
  have l1 := (hB1.cell (p := ⟨w.heap.size + 1, 0, none⟩) hz).trans k1
  have hz1 : w.heap.size + 1 < w1.heap.size := Nat.lt_of_lt_of_le hz hB1.size
  clear hB1 k0 k1 hz A0
  cases hfo : accOk f n with
  | false =>
    obtain rfl := HNO.out (.inl hfo)
    clear hfo
    go_wp2
    go_ret
    exact ⟨_, rfl, ⟨by simp, .inl ⟨rfl, rfl⟩⟩, B1.out⟩
  | true =>
    have OF := hide hfo
    go_wp2_with fail
    refine (validAccount_any a1 m c1 g _ hm (HG.out.below B1.out (Nat.le_refl _)) hc1 HMG.out (HT.out.below B1.out HT.out.1)).mono ?_
    rintro e w2 ⟨rfl, hB2⟩
    have B2 := hide (B1.out.trans (hB2.mono B1.out.size))
    have m0 := (hB2.cell (p := ⟨w.heap.size, 0, none⟩) (by show w.heap.size < _; omega)).trans l0
    have m1 := (hB2.cell (p := ⟨w.heap.size + 1, 0, none⟩) hz1).trans l1
    have hz2 : w.heap.size + 1 < w2.heap.size := Nat.lt_of_lt_of_le hz1 hB2.size
    clear hB2 l0 l1 hz1 hfo
    cases hgo : accOk g m with
    | false =>
      obtain rfl := HNO.out (.inr hgo)
      clear hgo
      go_wp2
      go_ret
      exact ⟨_, rfl, ⟨by simp, .inl ⟨rfl, rfl⟩⟩, B2.out⟩
    | true =>
      have OG := hide hgo
      clear hgo HNO
      obtain ⟨hn1, hn4, -⟩ := accOk_n OF.out
      obtain ⟨hm1, hm4, -⟩ := accOk_n OG.out
      obtain ⟨b0, o0, rfl, hrf⟩ := HF.out.resolve_left (by omega)
      obtain ⟨b1, o1, rfl, hrg⟩ := HG.out.resolve_left (by omega)
      have RF := hide (hrf.below B2.out (Nat.le_refl _))
      have RG := hide (hrg.below B2.out (Nat.le_refl _))
      have LF := hide (accOk_links OF.out)
      have LG := hide (accOk_links OG.out)
      clear hrf hrg HF HG B1
      have AC := hide (acts_new w2)
      have B3 := hide ((Below.refl w2.heap.size w2).alloc (Nat.le_refl _) (.map #[] 0))
      have hmm := @run_makeMap Tryz.prog
      go_wp2_with fail
      clear hmm
      have SK := hide (fun (V : World) (hV : Below w2.heap.size w2 V) => (show V.cell? ⟨w.heap.size, 0, none⟩ = some (.slice (some ⟨b0, o0, none⟩) n c0) ∧ V.cell? ⟨w.heap.size + 1, 0, none⟩ = some (.slice (some ⟨b1, o1, none⟩) m c1) from
        ⟨(hV.cell (p := ⟨w.heap.size, 0, none⟩) (by show w.heap.size < _; omega)).trans m0, (hV.cell (p := ⟨w.heap.size + 1, 0, none⟩) hz2).trans m1⟩))
      generalize w2.alloc (.map #[] 0) = W3 at AC B3 ⊢
      clear m0 m1
      obtain ⟨kb, hkb⟩ : ∃ kb, kb = w2.heap.size := ⟨_, rfl⟩
      have HKB := hide hkb
      rw [← hkb] at AC ⊢
      clear hkb
      go_cut [6, 7] (fun x y wx => ∃ (t1 t2 l1 l2 : Nat) (K : List UInt8 → List KAct) (T1 T2 : List UInt8 → Told → Prop), x = .map (some t1) ∧ y = .map (some t2) ∧ Hid (Tale wx l1 t1 100000 T1) ∧ Hid (Tale wx l2 t2 100000 T2) ∧ Hid (Tells K f n T1) ∧ Hid (Tells K g m T2) ∧ Hid (w2.heap.size ≤ l1 ∧ w2.heap.size ≤ l2) ∧ Hid (Below w2.heap.size w2 wx))
      case first =>
        have CA1 := hide (fun (V : World) (hV : Below W3.heap.size W3 V) => taleOf_any w2 kb 0 (fun _ => []) b0 o0 n c0 f V (by omega) hn1 hn4 LF.out HZF.out HMF.out (B3.out.trans (hV.mono B3.out.size)) RF.out (AC.out.below hV (Nat.le_refl _)))
        go_region_held3 (fun V => V.cell? ⟨w.heap.size, 0, none⟩ = some (.slice (some ⟨b0, o0, none⟩) n c0) ∧ V.cell? ⟨w.heap.size + 1, 0, none⟩ = some (.slice (some ⟨b1, o1, none⟩) m c1)) (first | exact SK.out _ B3.out | exact SK.out _ B3.out.drew | exact SK.out _ E5.out | exact SK.out _ E5.out.drew | exact SK.out _ E6.out | exact SK.out _ E6.out.drew)
          (first
          | (go_at_call 35; (with_reducible refine (CB2.out _ ?_).mono ?_); (first | exact Below.refl _ _ | exact (Below.refl _ _).drew); rintro e w6 ⟨t6, rfl, hT6, hA6, hK6⟩; have T6 := hide hT6; have K6 := hide hK6; have E6 := hide (E5.out.trans ⟨hK6.below.os, hK6.below.tape, hK6.below.output, hK6.below.size, hK6.below.block⟩); clear hT6 hA6 hK6)
          | (go_at_call 35; (with_reducible refine (CA1.out _ ?_).mono ?_); (first | exact Below.refl _ _ | exact (Below.refl _ _).drew); rintro e w5 ⟨t5, rfl, hT5, hA5, hK5⟩; have T5 := hide hT5; have K5 := hide hK5; have A5 := hide hA5; have E5 := hide (B3.out.trans (⟨hK5.below.os, hK5.below.tape, hK5.below.output, hK5.below.size, hK5.below.block⟩ : Below w2.heap.size W3 w5)); clear hT5 hA5 hK5; have CB2 := hide (fun (V : World) (hV : Below w5.heap.size w5 V) => taleOf_any w2 kb (0 + n) (actTo f (fun _ => []) n) b1 o1 m c1 g V (by omega) hm1 hm4 LG.out HZG.out HMG.out (E5.out.trans (hV.mono E5.out.size)) RG.out (A5.out.below hV (Nat.le_refl _)))))
        go_simp
        go_wp2_with fail
        go_meet
        exact ⟨t5, t6, W3.heap.size, w5.heap.size, actTo g (actTo f (fun _ => []) n) m, _, _, rfl, rfl, T5.out.ka K6.out AC.out.lt, T6.out, tells_of OF.out (actTo_ext _ _ _), tells_of OG.out (ExtK.refl _), ⟨B3.out.size, E5.out.size⟩, E6.out⟩
      case rest =>
        obtain ⟨t1, t2, l1, l2, K, T1, T2, rfl, rfl, ⟨G1, hG1⟩, ⟨G2, hG2⟩, HS1, HS2, HLL, HB⟩ := hcut
        have TG1 := hide hG1
        have TG2 := hide hG2
        have S0 := hide (setIs_new wc)
        have B5 := hide ((Below.refl wc.heap.size wc).alloc (Nat.le_refl _) (.map #[] 0))
        have N1 := hide (hG1.map.blk (B5.out.block _ hG1.map.lt))
        clear hG1 hG2 SK AC
        have hmm := @run_makeMap Tryz.prog
        go_wp2_with (first
          | (at_range; refine wpN_range _ rfl _ 74 rfl 77 Tryz.underlying74 t1 100000 _ rfl N1.out ?_; intro w6 cnt6 hrg6 hg6 hs6)
          | go_in)
        go_frame
        clear hmm
        have e5 : (wc.alloc (.map #[] 0)).heap.size = wc.heap.size + 1 := by simp
        rw [e5] at hrg6 ⊢
        have B6 := hide (B5.out.trans (below_of_grown (B := wc.heap.size) hg6 B5.out.size (fun j hj => by cases hj)))
        have S6 := hide (S0.out.blk (hg6.block wc.heap.size (by rw [e5]; omega) (by simp)))
        have R6 := hide hrg6
        have HZ := zeroSetT
        clear hrg6 hg6 hs6 e5 S0 N1
        go_loopw [29] (fun _ wr => ∃ left cnt q L, q + cnt ≤ 100000 ∧ Hid (RgN wr t1 (wc.heap.size + 1) 100000 (fun s => (G1 s).map fun b => .map (some b)) left cnt) ∧ Hid (SetIs wr wc.heap.size q L) ∧ Hid (L.Pairwise (· < ·)) ∧ Hid (∀ s, s ∈ L ↔ left s = false ∧ (G1 s).isSome = true ∧ whyB f n g m s = true) ∧ Hid (Below wc.heap.size wc wr)) (fun _ wr => wr.rangeLeft t1 (wc.heap.size + 1))
        case atStart =>
          refine ⟨_, cnt6, 0, [], by have := R6.out.cnt_le; omega, R6.out, S6.out, List.Pairwise.nil, fun s => ?_, B6.out⟩
          constructor
          · intro h; cases h
          · rintro ⟨h1, h2, -⟩
            rw [Option.isSome_map, h2] at h1
            cases h1
        case round =>
          obtain ⟨left, cnt, q, L, hq, HR, HS, HP, HL, HB7⟩ := hrel
          go_wp2_with (first
            | (at_next; refine wpN_next _ rfl _ rfl t1 (wc.heap.size + 1) 100000 _ left cnt rfl HR.out ?_ ?_)
            | go_in)
          · intro hdone
            have hL : L = R := by
              rw [HE.out]
              refine asc_ext HP.out (whyL_asc f n g m) fun s => ?_
              rw [whyL_iff OF.out OG.out, HL.out s]
              refine ⟨fun h => h.2.2, fun h => ⟨hdone s, ?_, h⟩⟩
              obtain ⟨t, u, ht, hu, _⟩ := (part_why HS1.out HS2.out s).2 h
              cases e : G1 s with
              | none => exact absurd ht (TG1.out.no s e t)
              | some b => rfl
            subst hL
            have B8 := hide (B2.out.trans ((HB.out.trans (HB7.out.mono HB.out.size)).mono B2.out.size))
            clear hdone
            go_wp2_with (go_at_call 27; refine (sorted_any wc.heap.size q L _ (by omega) HP.out HS.out).mono ?_; rintro e w8 ⟨v, rfl, ho, hB8⟩; have O8 := hide (own_mono ho B8.out.size); have B9 := hide (B8.out.trans (hB8.mono B8.out.size)); clear ho hB8)
            go_ret
            exact ⟨v, rfl, O8.out, B9.out⟩
          · intro x v w7 cnt7 hxs hlx b hb hv hrg7 hlt7 hg7 hs7 hen7
            subst hv
            have R7 := hide hrg7
            have B7 := hide (HB7.out.trans (below_of_grown (B := wc.heap.size) hg7 HB7.out.size (fun j hj => by cases hj; omega)))
            have S7 := hide (HS.out.blk (hg7.block wc.heap.size HS.out.lt (by simp)))
            have M7 := hide (show w7.rangeLeft t1 (wc.heap.size + 1) < wr.rangeLeft t1 (wc.heap.size + 1) by rw [hrg7.left_eq, HR.out.left_eq]; exact hlt7)
            have N7 := hide (TG2.out.map.blk (B7.out.block _ TG2.out.map.lt))
            have P1 := hide (hb ▸ TG1.out.setO B7.out (Nat.le_refl _) x.toList)
            have P2 := hide (TG2.out.setO B7.out (Nat.le_refl _) x.toList)
            have HX := hide hlx
            have HBX := hide hb
            have hq7 : q + 1 + cnt7 ≤ 100000 := by omega
            clear hrg7 hg7 hs7 hlt7 hb hlx
            obtain ⟨o2, ho2⟩ : ∃ o2, o2 = G2 x.toList := ⟨_, rfl⟩
            have HO2 := hide (show ((G2 x.toList).map fun b => Value.map (some b)).getD (.map none) = .map o2 by rw [ho2]; exact optMap _)
            rw [← ho2] at P2
            clear ho2
            go_wp2_with (first
              | (at_lookup; refine wpN_lookup _ rfl _ _ 74 rfl 77 Tryz.underlying74 (HZ _) t2 100000 _ rfl N7.out x rfl hxs (.map o2) HO2.out ?_)
              | (go_at_call 36; refine (part_any (some b) o2 100000 100000 (T1 x.toList) (T2 x.toList) _ P1.out P2.out).mono ?_; rintro e w8 ⟨r, rfl, hr8, hB8⟩; have R8 := hide hr8; have B8 := hide hB8; clear hr8 hB8; have S8 := hide (S7.out.blk (B8.out.block _ S7.out.lt)))
              | (go_at_call 24; refine (add_any wc.heap.size q L x _ (by omega) hxs S8.out).mono ?_; rintro e w9 ⟨rfl, hS9, hg9⟩; have S9 := hide hS9; have G9 := hide hg9; clear hS9 hg9)
              | go_in)
            · rename_i hr
              have hwhy : whyB f n g m x.toList = true := (part_why HS1.out HS2.out _).1 (R8.out.1 hr)
              have hlt := R7.out.lt
              have Rw := R7.out.blk (B8.out.block _ hlt.1) (B8.out.block _ hlt.2.1)
              have hlt8 := Rw.lt
              have Rx := Rw.blk (G9.out.block _ hlt8.1 (fun e => by have := TG1.out.map.lt; cases e; omega)) (G9.out.block _ hlt8.2.1 (by simp))
              refine ⟨⟨_, cnt7, q + 1, lput L x.toList, by omega, Rx, S9.out, asc_lput HP.out _, fun s => ?_, B7.out.trans ((B8.out.mono B7.out.size).trans (below_of_grown G9.out (Nat.le_trans B7.out.size B8.out.size) (fun j hj => by cases hj; exact Nat.le_refl _)))⟩, ?_⟩
              · rw [mem_lput, HL.out s]
                by_cases e : s = x.toList
                · subst e
                  simp [hwhy, HBX.out]
                · simp [e]
              · have := M7.out
                rw [R7.out.left_eq] at this
                rw [Rx.left_eq]
                exact this
            · rename_i hr
              have hwhy : whyB f n g m x.toList = false := by
                cases e : whyB f n g m x.toList with
                | false => rfl
                | true =>
                  have := R8.out.2 ((part_why HS1.out HS2.out _).2 e)
                  rw [hr] at this
                  cases this
              have hlt := R7.out.lt
              have Rw := R7.out.blk (B8.out.block _ hlt.1) (B8.out.block _ hlt.2.1)
              refine ⟨⟨_, cnt7, q, L, by omega, Rw, S8.out, HP.out, fun s => ?_, B7.out.trans (B8.out.mono B7.out.size)⟩, ?_⟩
              · rw [HL.out s]
                by_cases e : s = x.toList
                · subst e
                  simp [hwhy]
                · simp [e]
              · have := M7.out
                rw [R7.out.left_eq] at this
                rw [Rw.left_eq]
                exact this

end Go.Proofs.YtkgddbcjmejfaaaGreatDoor.Vp
