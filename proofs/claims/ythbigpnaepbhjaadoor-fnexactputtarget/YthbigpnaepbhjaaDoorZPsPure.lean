/-
  PutSource: the place at which a source is put in.
-/
import Derived.Test.YthbigpnaepbhjaaDoorZPsBase
namespace Go.Proofs.YthbigpnaepbhjaaDoor.Vp
open Go.RowKit

theorem srcF_at {L : List Source} {i : Nat} (h : i < L.length) : srcF L i = L[i] := by
  rw [srcF, List.getD_eq_getElem?_getD, List.getElem?_eq_getElem h]; rfl
theorem ascTo_of {g : Nat → ByteArray} {n : Nat} (h : ∀ i j, i < j → j < n → tless (g i) (g j) = true) : ascTo g n = true := by
  induction n with
  | zero => rfl
  | succ k ih =>
    have h1 := ih (fun i j hij hj => h i j hij (by omega))
    cases k with
    | zero => rfl
    | succ m =>
      show (ascTo g (m + 1) && _) = true
      rw [h1]
      exact h m (m + 1) (by omega) (by omega)
theorem keepS_asc {f : Nat → Source} {n : Nat} (t : ByteArray) (h : ascTo (nm0 f) n = true) : ascTo (nm0 (srcF (keepS f t n))) (keepS f t n).length = true := by
  have hp : ((List.range n).map f).Pairwise fun a b => tless a.name b.name = true := by
    rw [List.pairwise_map]
    refine List.Pairwise.imp_of_mem ?_ List.pairwise_lt_range
    intro a b _ hb hab
    exact asc_lt h hab (List.mem_range.1 hb)
  have hq : (keepS f t n).Pairwise fun a b => tless a.name b.name = true := hp.filter _
  refine ascTo_of fun i j hij hj => ?_
  have hi : i < (keepS f t n).length := by omega
  show tless (srcF (keepS f t n) i).name (srcF (keepS f t n) j).name = true
  rw [srcF_at hi, srcF_at hj]
  exact List.pairwise_iff_getElem.1 hq i j hi hj hij
theorem keepS_not {f : Nat → Source} {n : Nat} {t : ByteArray} : ∀ y ∈ keepS f t n, (y.name.toList == t.toList) = false := by
  intro y hy
  simpa using (List.mem_filter.1 hy).2
theorem ins_before {L : List Source} {x : Source} {t : ByteArray} {i : Nat} (hi : i ≤ L.length) (h1 : ∀ m, m < i → tless (nm0 (srcF L) m) t = true) : ∀ k, k ≤ i → doneTo L t k = false ∧ insTo L x t k = L.take k
  | 0, _ => ⟨rfl, rfl⟩
  | k + 1, hk => by
    obtain ⟨ih1, ih2⟩ := ins_before (x := x) hi h1 k (by omega)
    have h3 : tless t (srcF L k).name = false := (tless_yes (h1 k (by omega))).1
    refine ⟨?_, ?_⟩
    · show (doneTo L t k || tless t (srcF L k).name) = false
      rw [ih1, h3]; rfl
    · show (if _ then _ else _) = _
      rw [if_neg (by rw [h3]; simp), ih2, srcF_at (by omega)]
      exact List.take_append_getElem (by omega)
theorem ins_behind {L : List Source} {x : Source} {t : ByteArray} {i : Nat} (hi : i ≤ L.length) (h1 : ∀ m, m < i → tless (nm0 (srcF L) m) t = true) (h2 : ∀ m, i ≤ m → m < L.length → tless (nm0 (srcF L) m) t = false) (h3 : ∀ y ∈ L, (y.name.toList == t.toList) = false) :
    ∀ d, i + d + 1 ≤ L.length → doneTo L t (i + d + 1) = true ∧ insTo L x t (i + d + 1) = L.take i ++ x :: (L.drop i).take (d + 1)
  | 0, hd => by
    obtain ⟨a1, a2⟩ := ins_before (x := x) hi h1 i (Nat.le_refl _)
    have hlt : i < L.length := by omega
    have h4 : tless t (srcF L i).name = true := by
      cases h : tless t (srcF L i).name with
      | true => rfl
      | false =>
        rcases tless_no h with h5 | ⟨_, h5⟩
        · have := h2 i (Nat.le_refl _) hlt
          rw [show nm0 (srcF L) i = (srcF L i).name from rfl, h5] at this
          cases this
        · rw [srcF_at hlt, h3 _ (List.getElem_mem hlt)] at h5
          cases h5
    refine ⟨?_, ?_⟩
    · show (doneTo L t i || tless t (srcF L i).name) = true
      rw [h4]; simp
    · show (if _ then _ else _) = _
      have e : (L.drop i).take (0 + 1) = [L[i]] := by rw [List.drop_eq_getElem_cons hlt]; rfl
      rw [if_pos ⟨a1, h4⟩, a2, srcF_at hlt, e]
      simp
  | d + 1, hd => by
    obtain ⟨a1, a2⟩ := ins_behind (x := x) hi h1 h2 h3 d (by omega)
    refine ⟨?_, ?_⟩
    · show (doneTo L t (i + d + 1) || _) = true
      rw [a1]; rfl
    · show (if _ then _ else _) = _
      rw [if_neg (by rw [show i + (d + 1) = i + d + 1 from rfl, a1]; simp)]
      show insTo L x t (i + d + 1) ++ [srcF L (i + d + 1)] = _
      have hl : d + 1 < (L.drop i).length := by rw [List.length_drop]; omega
      rw [a2, srcF_at (by omega), ← List.take_append_getElem hl, List.getElem_drop]
      simp [Nat.add_assoc]
/-- The list with x put in at the place that is found. -/
theorem insF_at {L : List Source} {x : Source} {t : ByteArray} {i : Nat} (hi : i ≤ L.length) (h1 : ∀ m, m < i → tless (nm0 (srcF L) m) t = true) (h2 : ∀ m, i ≤ m → m < L.length → tless (nm0 (srcF L) m) t = false) (h3 : ∀ y ∈ L, (y.name.toList == t.toList) = false) :
    insF L x t = L.take i ++ x :: L.drop i := by
  by_cases hl : i = L.length
  · subst hl
    obtain ⟨a1, a2⟩ := ins_before (x := x) hi h1 L.length (Nat.le_refl _)
    unfold insF
    rw [if_neg (by rw [a1]; simp), a2]
    simp
  · obtain ⟨d, hd⟩ : ∃ d, L.length = i + d + 1 := ⟨L.length - i - 1, by omega⟩
    obtain ⟨a1, a2⟩ := ins_behind (x := x) hi h1 h2 h3 d (by omega)
    unfold insF
    have e : (L.drop i).take (d + 1) = L.drop i := List.take_of_length_le (by rw [List.length_drop]; omega)
    rw [hd, if_pos a1, a2, e]
theorem take_flat (L : List Source) : ∀ i, (L.flatMap srcV).take (i * 2) = (L.take i).flatMap srcV ∧ (L.flatMap srcV).drop (i * 2) = (L.drop i).flatMap srcV := by
  induction L with
  | nil => intro i; simp
  | cons a l ih =>
    intro i
    cases i with
    | zero => simp
    | succ j =>
      obtain ⟨h1, h2⟩ := ih j
      have e : (j + 1) * 2 = j * 2 + 2 := by omega
      simp [e, srcV, h1, h2]

end Go.Proofs.YthbigpnaepbhjaaDoor.Vp
