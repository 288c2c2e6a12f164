import Derived.Test.YtkophfgkcijjkaaGreatDoorZZ
import Derived.Test.YtkophfgkcijjkaaGreatDoorYG
namespace Go.Proofs.YtkophfgkcijjkaaGreatDoor.Vp
open Go.RowKit
structure GoodL (LS : List Source) (LT : List Target) : Prop where
  few : LS.length + LT.length ≤ 200
  src : ∀ x ∈ LS, nameOk x.name = true ∧ longT x = false
  tgt : ∀ x ∈ LT, nameOk x.name = true ∧ wrongA x = false
  s : LS.Pairwise fun a b => tless a.name b.name = true
  t : LT.Pairwise fun a b => tless a.name b.name = true
  apart : ∀ x ∈ LS, ∀ y ∈ LT, (y.name.toList == x.name.toList) = false
theorem namesTo_at {g : Nat → ByteArray} : ∀ {n : Nat}, namesTo g n = true → ∀ i, i < n → nameOk (g i) = true
  | 0, _, i, hi => absurd hi (Nat.not_lt_zero i)
  | n + 1, h, i, hi => by
    have h2 : (namesTo g n && nameOk (g n)) = true := h
    rw [Bool.and_eq_true] at h2
    by_cases e : i = n
    · rw [e]; exact h2.2
    · exact namesTo_at h2.1 i (by omega)
theorem namesTo_of {g : Nat → ByteArray} : ∀ {n : Nat}, (∀ i, i < n → nameOk (g i) = true) → namesTo g n = true
  | 0, _ => rfl
  | n + 1, h => by
    show (namesTo g n && nameOk (g n)) = true
    rw [namesTo_of fun i hi => h i (by omega), h n (Nat.lt_succ_self n)]
    rfl
theorem anyTo_no {p : Nat → Bool} : ∀ {n : Nat}, (∀ i, i < n → p i = false) → anyTo p n = false
  | 0, _ => rfl
  | n + 1, h => by
    show (anyTo p n || p n) = false
    rw [anyTo_no fun i hi => h i (by omega), h n (Nat.lt_succ_self n)]
    rfl
theorem isIn_no {g : Nat → ByteArray} {n : Nat} {t : ByteArray} : isIn g n t = false ↔ ∀ i, i < n → ((g i).toList == t.toList) = false := by
  unfold isIn
  rw [List.any_eq_false]
  constructor
  · intro h i hi
    have := h i (List.mem_range.2 hi)
    simpa using this
  · intro h i hi
    have := h i (List.mem_range.1 hi)
    simpa using this
theorem pair_range {α : Type} (f : Nat → α) (nm : α → ByteArray) {n : Nat} (h : ascTo (fun i => nm (f i)) n = true) : ((List.range n).map f).Pairwise fun a b => tless (nm a) (nm b) = true := by
  rw [List.pairwise_map]
  refine List.Pairwise.imp_of_mem ?_ List.pairwise_lt_range
  intro a b _ hb hab
  exact asc_lt h hab (List.mem_range.1 hb)
theorem good_of_check {n0 : Nat} {f0 : Nat → Source} {n1 : Nat} {f1 : Nat → Target} (h : checkC n0 f0 n1 f1 = 0) : GoodL ((List.range n0).map f0) ((List.range n1).map f1) := by
  unfold checkC at h
  by_cases a1 : 200 < n0 + n1
  · rw [if_pos a1] at h; cases h
  rw [if_neg a1] at h
  by_cases a2 : namesTo (nm0 f0) n0 = false
  · rw [if_pos a2] at h; cases h
  rw [if_neg a2] at h
  by_cases a3 : namesTo (nm1 f1) n1 = false
  · rw [if_pos a3] at h; cases h
  rw [if_neg a3] at h
  by_cases a4 : ascTo (nm0 f0) n0 = false
  · rw [if_pos a4] at h; cases h
  rw [if_neg a4] at h
  by_cases a5 : ascTo (nm1 f1) n1 = false
  · rw [if_pos a5] at h; cases h
  rw [if_neg a5] at h
  by_cases a6 : anyTo (fun i => isIn (nm1 f1) n1 (nm0 f0 i)) n0 = true
  · rw [if_pos a6] at h; cases h
  rw [if_neg a6] at h
  by_cases a7 : anyTo (fun i => longT (f0 i)) n0 = true
  · rw [if_pos a7] at h; cases h
  rw [if_neg a7] at h
  by_cases a8 : anyTo (fun i => wrongA (f1 i)) n1 = true
  · rw [if_pos a8] at h; cases h
  rw [Bool.not_eq_false] at a2 a3 a4 a5
  rw [Bool.not_eq_true] at a6 a7 a8
  refine ⟨by simp; omega, fun x hx => ?_, fun x hx => ?_, pair_range f0 (·.name) a4, pair_range f1 (·.name) a5, fun x hx y hy => ?_⟩
  · obtain ⟨i, hi, rfl⟩ := List.mem_map.1 hx
    have hi := List.mem_range.1 hi
    exact ⟨namesTo_at a2 i hi, anyTo_none a7 hi⟩
  · obtain ⟨i, hi, rfl⟩ := List.mem_map.1 hx
    have hi := List.mem_range.1 hi
    exact ⟨namesTo_at a3 i hi, anyTo_none a8 hi⟩
  · obtain ⟨i, hi, rfl⟩ := List.mem_map.1 hx
    obtain ⟨j, hj, rfl⟩ := List.mem_map.1 hy
    exact isIn_no.1 (anyTo_none a6 (List.mem_range.1 hi)) j (List.mem_range.1 hj)
theorem good_check {LS : List Source} {LT : List Target} (h : GoodL LS LT) : checkC LS.length (srcF LS) LT.length (tgtF LT) = 0 := by
  unfold checkC
  rw [if_neg (by have := h.few; omega), if_neg, if_neg, if_neg, if_neg, if_neg, if_neg, if_neg]
  · rw [Bool.not_eq_true]
    refine anyTo_no fun i hi => ?_
    rw [tgtF_at hi]
    exact (h.tgt _ (List.getElem_mem hi)).2
  · rw [Bool.not_eq_true]
    refine anyTo_no fun i hi => ?_
    rw [srcF_at hi]
    exact (h.src _ (List.getElem_mem hi)).2
  · rw [Bool.not_eq_true]
    refine anyTo_no fun i hi => isIn_no.2 fun j hj => ?_
    show ((tgtF LT j).name.toList == (srcF LS i).name.toList) = false
    rw [srcF_at hi, tgtF_at hj]
    exact h.apart _ (List.getElem_mem hi) _ (List.getElem_mem hj)
  · rw [Bool.not_eq_false]
    refine ascTo_of fun i j hij hj => ?_
    show tless (tgtF LT i).name (tgtF LT j).name = true
    rw [tgtF_at hj, tgtF_at (by omega)]
    exact List.pairwise_iff_getElem.1 h.t i j (by omega) hj hij
  · rw [Bool.not_eq_false]
    refine ascTo_of fun i j hij hj => ?_
    show tless (srcF LS i).name (srcF LS j).name = true
    rw [srcF_at hj, srcF_at (by omega)]
    exact List.pairwise_iff_getElem.1 h.s i j (by omega) hj hij
  · rw [Bool.not_eq_false]
    refine namesTo_of fun i hi => ?_
    show nameOk (tgtF LT i).name = true
    rw [tgtF_at hi]
    exact (h.tgt _ (List.getElem_mem hi)).1
  · rw [Bool.not_eq_false]
    refine namesTo_of fun i hi => ?_
    show nameOk (srcF LS i).name = true
    rw [srcF_at hi]
    exact (h.src _ (List.getElem_mem hi)).1
theorem GoodL.sub {LS LS' : List Source} {LT LT' : List Target} (h : GoodL LS LT) (hs : LS'.Sublist LS) (ht : LT'.Sublist LT) : GoodL LS' LT' :=
  ⟨by have := hs.length_le; have := ht.length_le; have := h.few; omega, fun x hx => h.src x (hs.subset hx), fun x hx => h.tgt x (ht.subset hx), h.s.sublist hs, h.t.sublist ht, fun x hx y hy => h.apart x (hs.subset hx) y (ht.subset hy)⟩
theorem good_keep {n0 : Nat} {f0 : Nat → Source} {n1 : Nat} {f1 : Nat → Target} (t : ByteArray) (h : checkC n0 f0 n1 f1 = 0) : GoodL (keepS f0 t n0) (keepT f1 t n1) :=
  (good_of_check h).sub List.filter_sublist List.filter_sublist
theorem split_at {g : Nat → ByteArray} {t : ByteArray} : ∀ {n : Nat}, ascTo g n = true → ∃ i, i ≤ n ∧ (∀ m, m < i → tless (g m) t = true) ∧ ∀ m, i ≤ m → m < n → tless (g m) t = false
  | 0, _ => ⟨0, Nat.le_refl _, fun m hm => absurd hm (Nat.not_lt_zero m), fun m _ hm => absurd hm (Nat.not_lt_zero m)⟩
  | n + 1, h => by
    obtain ⟨i, hi, h1, h2⟩ := split_at (t := t) (ascTo_mono (Nat.le_succ n) h)
    cases e : tless (g n) t with
    | true =>
      by_cases hin : i = n
      · subst hin
        refine ⟨i + 1, Nat.le_refl _, fun m hm => ?_, fun m hm hm2 => by omega⟩
        by_cases e2 : m = i
        · rw [e2]; exact e
        · exact h1 m (by omega)
      · have h3 := h2 i (Nat.le_refl _) (by omega)
        rw [tless_trans (asc_lt h (show i < n by omega) (Nat.lt_succ_self n)) e] at h3
        cases h3
    | false =>
      refine ⟨i, by omega, h1, fun m hm hm2 => ?_⟩
      by_cases e2 : m = n
      · rw [e2]; exact e
      · exact h2 m hm (by omega)
theorem pair_ins {α : Type} (nm : α → ByteArray) {L : List α} {x : α} {i : Nat} (h : L.Pairwise fun a b => tless (nm a) (nm b) = true) (h1 : ∀ m (hm : m < L.length), m < i → tless (nm L[m]) (nm x) = true) (h2 : ∀ m (hm : m < L.length), i ≤ m → tless (nm x) (nm L[m]) = true) : (L.take i ++ x :: L.drop i).Pairwise fun a b => tless (nm a) (nm b) = true := by
  have ha : ∀ a ∈ L.take i, tless (nm a) (nm x) = true := fun a ha => by
    obtain ⟨m, hm, rfl⟩ := List.getElem_of_mem ha
    rw [List.length_take] at hm
    rw [List.getElem_take]
    exact h1 m (by omega) (by omega)
  have hb : ∀ a ∈ L.drop i, tless (nm x) (nm a) = true := fun a ha => by
    obtain ⟨m, hm, rfl⟩ := List.getElem_of_mem ha
    rw [List.length_drop] at hm
    rw [List.getElem_drop]
    exact h2 _ (by omega) (by omega)
  rw [List.pairwise_append, List.pairwise_cons]
  refine ⟨h.sublist (List.take_sublist i L), ⟨hb, h.sublist (List.drop_sublist i L)⟩, fun a hA b hB => ?_⟩
  rcases List.mem_cons.1 hB with rfl | hB
  · exact ha a hA
  · exact tless_trans (ha a hA) (hb b hB)
theorem mem_ins {α : Type} {L : List α} {x y : α} {i : Nat} (h : y ∈ L.take i ++ x :: L.drop i) : y = x ∨ y ∈ L := by
  rcases List.mem_append.1 h with h | h
  · exact .inr (List.mem_of_mem_take h)
  · rcases List.mem_cons.1 h with h | h
    · exact .inl h
    · exact .inr (List.mem_of_mem_drop h)
theorem len_ins {α : Type} {L : List α} {x : α} {i : Nat} (hi : i ≤ L.length) : (L.take i ++ x :: L.drop i).length = L.length + 1 := by
  rw [List.length_append, List.length_cons, List.length_take, List.length_drop]; omega
theorem get_ins {α : Type} {L : List α} {x : α} {i : Nat} (hi : i ≤ L.length) : (L.take i ++ x :: L.drop i)[i]? = some x := by
  have e : (L.take i).length = i := by rw [List.length_take]; omega
  rw [List.getElem?_append_right (by omega), e, Nat.sub_self]
  rfl
theorem tless_other {a b : ByteArray} (h : tless b a = false) (he : (b.toList == a.toList) = false) : tless a b = true := by
  rcases tless_no h with h | ⟨_, h⟩
  · exact h
  · have e : a.toList = b.toList := by simpa using h
    rw [e] at he
    simp at he
theorem good_putS {LS : List Source} {LT : List Target} (h : GoodL LS LT) {t tx : ByteArray} (hl : LS.length + LT.length < 200) (hn : nameOk t = true) (hx : ¬ 2000 < (tx.size : Int)) (h0 : ∀ y ∈ LS, (y.name.toList == t.toList) = false) (h1 : ∀ y ∈ LT, (y.name.toList == t.toList) = false) :
    GoodL (insF LS ⟨t, tx⟩ t) LT ∧ ∃ i : Nat, (insF LS ⟨t, tx⟩ t)[i]? = some (⟨t, tx⟩ : Source) := by
  have hasc : ascTo (nm0 (srcF LS)) LS.length = true := ascTo_of fun i j hij hj => by
    show tless (srcF LS i).name (srcF LS j).name = true
    rw [srcF_at hj, srcF_at (by omega)]
    exact List.pairwise_iff_getElem.1 h.s i j (by omega) hj hij
  obtain ⟨i, hi, a1, a2⟩ := split_at (t := t) hasc
  rw [insF_at hi a1 a2 h0]
  refine ⟨⟨by rw [len_ins hi]; omega, fun y hy => ?_, h.tgt, ?_, h.t, fun y hy z hz => ?_⟩, i, get_ins hi⟩
  · rcases mem_ins hy with rfl | hy
    · exact ⟨hn, by simp [longT]; omega⟩
    · exact h.src y hy
  · refine pair_ins (fun y : Source => y.name) h.s (fun m hm hmi => ?_) (fun m hm hmi => ?_)
    · have := a1 m hmi
      rw [show nm0 (srcF LS) m = (srcF LS m).name from rfl, srcF_at hm] at this
      exact this
    · have := a2 m hmi hm
      rw [show nm0 (srcF LS) m = (srcF LS m).name from rfl, srcF_at hm] at this
      exact tless_other this (h0 _ (List.getElem_mem hm))
  · rcases mem_ins hy with rfl | hy
    · exact h1 z hz
    · exact h.apart y hy z hz
theorem good_putT {LS : List Source} {LT : List Target} (h : GoodL LS LT) {x : Target} {t : ByteArray} (ht : x.name = t) (hl : LS.length + LT.length < 200) (hn : nameOk t = true) (hx : wrongA x = false) (h0 : ∀ y ∈ LS, (y.name.toList == t.toList) = false) (h1 : ∀ y ∈ LT, (y.name.toList == t.toList) = false) :
    GoodL LS (insT LT x t) ∧ ∃ i : Nat, (insT LT x t)[i]? = some x := by
  have hasc : ascTo (nm1 (tgtF LT)) LT.length = true := ascTo_of fun i j hij hj => by
    show tless (tgtF LT i).name (tgtF LT j).name = true
    rw [tgtF_at hj, tgtF_at (by omega)]
    exact List.pairwise_iff_getElem.1 h.t i j (by omega) hj hij
  obtain ⟨i, hi, a1, a2⟩ := split_at (t := t) hasc
  rw [insT, finG_at hi a1 a2 fun m hm => by
    show ((tgtF LT m).name.toList == t.toList) = false
    rw [tgtF_at hm]
    exact h1 _ (List.getElem_mem hm)]
  refine ⟨⟨by rw [len_ins hi]; omega, h.src, fun y hy => ?_, h.s, ?_, fun y hy z hz => ?_⟩, i, get_ins hi⟩
  · rcases mem_ins hy with rfl | hy
    · exact ⟨ht ▸ hn, hx⟩
    · exact h.tgt y hy
  · subst ht
    refine pair_ins (fun y : Target => y.name) h.t (fun m hm hmi => ?_) (fun m hm hmi => ?_)
    · have := a1 m hmi
      rw [show nm1 (tgtF LT) m = (tgtF LT m).name from rfl, tgtF_at hm] at this
      exact this
    · have := a2 m hmi hm
      rw [show nm1 (tgtF LT) m = (tgtF LT m).name from rfl, tgtF_at hm] at this
      exact tless_other this (h1 _ (List.getElem_mem hm))
  · rcases mem_ins hz with rfl | hz
    · have := h0 y hy
      rw [ht]
      rw [beq_eq_false_iff_ne] at this ⊢
      exact fun e => this e.symm
    · exact h.apart y hy z hz
theorem keepT_no {f : Nat → Target} {n : Nat} {t : ByteArray} : ∀ y ∈ keepT f t n, (y.name.toList == t.toList) = false := by
  intro y hy
  simpa using (List.mem_filter.1 hy).2
theorem put_made {n0 : Nat} {f0 : Nat → Source} {n1 : Nat} {f1 : Nat → Target} {t tx : ByteArray} (h : putC n0 f0 n1 f1 t tx = 0) :
    GoodL (putS n0 f0 n1 f1 t tx) (putT n0 f0 n1 f1 t tx) ∧ (buildP ⟨(putS n0 f0 n1 f1 t tx).length, srcF (putS n0 f0 n1 f1 t tx), (putT n0 f0 n1 f1 t tx).length, tgtF (putT n0 f0 n1 f1 t tx)⟩ t).2 = ⟨0, tx, []⟩ := by
  have h' := h
  unfold putC at h'
  by_cases a1 : checkC n0 f0 n1 f1 ≠ 0
  · rw [if_pos a1] at h'; cases h'
  rw [if_neg a1] at h'
  by_cases a2 : nameOk t = false ∨ 2000 < (tx.size : Int)
  · rw [if_pos a2] at h'; cases h'
  rw [if_neg a2] at h'
  by_cases a3 : 200 ≤ (keepS f0 t n0).length + (keepT f1 t n1).length
  · rw [if_pos a3] at h'; cases h'
  have hc : checkC n0 f0 n1 f1 = 0 := by omega
  have hn : nameOk t = true := by rw [← Bool.not_eq_false]; exact fun e => a2 (.inl e)
  obtain ⟨g1, i, g2⟩ := good_putS (tx := tx) (good_keep t hc) (by omega) hn (fun e => a2 (.inr e)) keepS_not keepT_no
  have e0 : putS n0 f0 n1 f1 t tx = insF (keepS f0 t n0) ⟨t, tx⟩ t := by rw [putS, if_pos h]
  have e1 : putT n0 f0 n1 f1 t tx = keepT f1 t n1 := by rw [putT, if_pos h]
  rw [e0, e1]
  refine ⟨g1, ?_⟩
  generalize insF (keepS f0 t n0) ⟨t, tx⟩ t = L at g1 g2
  obtain ⟨hi, e⟩ := List.getElem?_eq_some_iff.1 g2
  have eI : srcF L i = ⟨t, tx⟩ := by rw [srcF_at hi, e]
  have hat : atI (nm0 (srcF L)) L.length t = some i := atI_first hi (by show (srcF L i).name.toList = _; rw [eI]) fun j hj => by
    show (srcF L j).name.toList ≠ t.toList
    have h3 := List.pairwise_iff_getElem.1 g1.s j i (by omega) hi hj
    rw [e] at h3
    have h4 := (tless_yes h3).2
    rw [srcF_at (by omega)]
    rw [beq_eq_false_iff_ne] at h4
    exact fun e => h4 e.symm
  have := build_source (S := ⟨L.length, srcF L, (keepT f1 t n1).length, tgtF (keepT f1 t n1)⟩) (nm := t) (i := i) (good_check g1) hn hat
  rw [this]
  show (⟨0, (srcF L i).text, []⟩ : ResL) = _
  rw [eI]
theorem put_drop {LS : List Source} {LT : List Target} (h : GoodL LS LT) {t : ByteArray} (hn : nameOk t = true) {i : Nat} {x : Target} (hx : LT[i]? = some x) (he : x.name = t) :
    dropC LS.length (srcF LS) LT.length (tgtF LT) t = 0 ∧ GoodL (dropS LS.length (srcF LS) LT.length (tgtF LT) t) (dropT LS.length (srcF LS) LT.length (tgtF LT) t) ∧
      (buildP ⟨(dropS LS.length (srcF LS) LT.length (tgtF LT) t).length, srcF (dropS LS.length (srcF LS) LT.length (tgtF LT) t), (dropT LS.length (srcF LS) LT.length (tgtF LT) t).length, tgtF (dropT LS.length (srcF LS) LT.length (tgtF LT) t)⟩ t).2 = ⟨4, t, []⟩ := by
  have hc := good_check h
  obtain ⟨hi, e⟩ := List.getElem?_eq_some_iff.1 hx
  have hin : isIn (nm1 (tgtF LT)) LT.length t = true := by
    unfold isIn
    rw [List.any_eq_true]
    refine ⟨i, List.mem_range.2 hi, ?_⟩
    show ((tgtF LT i).name.toList == t.toList) = true
    rw [tgtF_at hi, e, he]
    simp
  have hd : dropC LS.length (srcF LS) LT.length (tgtF LT) t = 0 := by
    unfold dropC
    rw [if_neg (by rw [hc]; simp), if_neg (by rw [hn]; simp), if_neg (by rw [hin]; simp)]
  have e0 : dropS LS.length (srcF LS) LT.length (tgtF LT) t = keepS (srcF LS) t LS.length := by rw [dropS, if_pos hd]
  have e1 : dropT LS.length (srcF LS) LT.length (tgtF LT) t = keepT (tgtF LT) t LT.length := by rw [dropT, if_pos hd]
  have hg := good_keep t hc
  rw [e0, e1]
  refine ⟨hd, hg, build_missing (good_check hg) hn (atI_miss fun j hj => ?_) (atI_miss fun j hj => ?_)⟩
  · show (srcF (keepS (srcF LS) t LS.length) j).name.toList ≠ t.toList
    rw [srcF_at hj]
    have := keepS_not (f := srcF LS) (n := LS.length) (t := t) _ (List.getElem_mem hj)
    exact beq_eq_false_iff_ne.1 this
  · show (tgtF (keepT (tgtF LT) t LT.length) j).name.toList ≠ t.toList
    rw [tgtF_at hj]
    have := keepT_no (f := tgtF LT) (n := LT.length) (t := t) _ (List.getElem_mem hj)
    exact beq_eq_false_iff_ne.1 this
end Go.Proofs.YtkophfgkcijjkaaGreatDoor.Vp
