/-
  PutTarget: the place at which a thing is put in, for lists of any kind.
-/
import Derived.Test.YthbigpnaepbhjaaDoorZPsBase
namespace Go.Proofs.YthbigpnaepbhjaaDoor.Vp
open Go.RowKit

def doneG (g : Nat → ByteArray) (t : ByteArray) : Nat → Bool
  | 0 => false
  | k + 1 => doneG g t k || tless t (g k)
def insG {α : Type} (g : Nat → ByteArray) (F : Nat → α) (x : α) (t : ByteArray) : Nat → List α
  | 0 => []
  | k + 1 => if doneG g t k = false ∧ tless t (g k) = true then insG g F x t k ++ [x] ++ [F k] else insG g F x t k ++ [F k]
/-- The list with x put in ahead of the first whose name is greater than t. -/
def finG {α : Type} (g : Nat → ByteArray) (F : Nat → α) (x : α) (t : ByteArray) (n : Nat) : List α := if doneG g t n = true then insG g F x t n else insG g F x t n ++ [x]
theorem insG_len {α : Type} (g : Nat → ByteArray) (F : Nat → α) (x : α) (t : ByteArray) (k : Nat) : (insG g F x t k).length ≤ k + 1 ∧ (doneG g t k = false → (insG g F x t k).length = k) := by
  induction k with
  | zero => simp [insG]
  | succ j ih =>
    simp only [insG, doneG]
    cases hd : doneG g t j with
    | false =>
      have h1 := ih.2 hd
      cases hl : tless t (g j) with
      | true => simp [h1]
      | false => simp [h1]
    | true =>
      have h1 := ih.1
      simp
      omega
theorem insG_map {α β : Type} (p : α → β) (g : Nat → ByteArray) (F : Nat → α) (x : α) (t : ByteArray) (k : Nat) : (insG g F x t k).map p = insG g (fun i => p (F i)) (p x) t k := by
  induction k with
  | zero => rfl
  | succ j ih =>
    simp only [insG]
    split <;> simp [ih]
theorem finG_map {α β : Type} (p : α → β) (g : Nat → ByteArray) (F : Nat → α) (x : α) (t : ByteArray) (n : Nat) : (finG g F x t n).map p = finG g (fun i => p (F i)) (p x) t n := by
  unfold finG
  split
  · exact insG_map p g F x t n
  · rw [List.map_append, insG_map]; rfl
theorem insG_before {α : Type} {g : Nat → ByteArray} {L : List α} {d x : α} {t : ByteArray} {i : Nat} (hi : i ≤ L.length) (h1 : ∀ m, m < i → tless (g m) t = true) : ∀ k, k ≤ i → doneG g t k = false ∧ insG g (fun j => L.getD j d) x t k = L.take k
  | 0, _ => ⟨rfl, rfl⟩
  | k + 1, hk => by
    obtain ⟨ih1, ih2⟩ := insG_before (d := d) (x := x) hi h1 k (by omega)
    have h3 : tless t (g k) = false := (tless_yes (h1 k (by omega))).1
    have e : L.getD k d = L[k]'(by omega) := by rw [List.getD_eq_getElem?_getD, List.getElem?_eq_getElem (by omega)]; rfl
    refine ⟨?_, ?_⟩
    · show (doneG g t k || tless t (g k)) = false
      rw [ih1, h3]; rfl
    · show (if _ then _ else _) = _
      rw [if_neg (by rw [h3]; simp), ih2]
      show L.take k ++ [L.getD k d] = _
      rw [e]
      exact List.take_append_getElem (by omega)
theorem insG_behind {α : Type} {g : Nat → ByteArray} {L : List α} {d x : α} {t : ByteArray} {i : Nat} (hi : i ≤ L.length) (h1 : ∀ m, m < i → tless (g m) t = true) (h2 : ∀ m, i ≤ m → m < L.length → tless (g m) t = false) (h3 : ∀ m, m < L.length → ((g m).toList == t.toList) = false) :
    ∀ e, i + e + 1 ≤ L.length → doneG g t (i + e + 1) = true ∧ insG g (fun j => L.getD j d) x t (i + e + 1) = L.take i ++ x :: (L.drop i).take (e + 1)
  | 0, hd => by
    obtain ⟨a1, a2⟩ := insG_before (d := d) (x := x) hi h1 i (Nat.le_refl _)
    have hlt : i < L.length := by omega
    have h4 : tless t (g i) = true := by
      cases h : tless t (g i) with
      | true => rfl
      | false =>
        rcases tless_no h with h5 | ⟨_, h5⟩
        · have := h2 i (Nat.le_refl _) hlt
          rw [h5] at this
          cases this
        · rw [h3 _ hlt] at h5
          cases h5
    have e : L.getD i d = L[i] := by rw [List.getD_eq_getElem?_getD, List.getElem?_eq_getElem hlt]; rfl
    refine ⟨?_, ?_⟩
    · show (doneG g t i || tless t (g i)) = true
      rw [h4]; simp
    · show (if _ then _ else _) = _
      have e2 : (L.drop i).take (0 + 1) = [L[i]] := by rw [List.drop_eq_getElem_cons hlt]; rfl
      rw [if_pos ⟨a1, h4⟩, a2]
      show L.take i ++ [x] ++ [L.getD i d] = _
      rw [e, e2]
      simp
  | k + 1, hd => by
    obtain ⟨a1, a2⟩ := insG_behind (d := d) (x := x) hi h1 h2 h3 k (by omega)
    have hl : k + 1 < (L.drop i).length := by rw [List.length_drop]; omega
    have e : L.getD (i + k + 1) d = L[i + k + 1]'(by omega) := by rw [List.getD_eq_getElem?_getD, List.getElem?_eq_getElem (by omega)]; rfl
    refine ⟨?_, ?_⟩
    · show (doneG g t (i + k + 1) || _) = true
      rw [a1]; rfl
    · show (if _ then _ else _) = _
      rw [if_neg (by rw [show i + (k + 1) = i + k + 1 from rfl, a1]; simp)]
      show insG g (fun j => L.getD j d) x t (i + k + 1) ++ [L.getD (i + k + 1) d] = _
      rw [a2, e, ← List.take_append_getElem hl, List.getElem_drop]
      simp [Nat.add_assoc]
theorem finG_at {α : Type} {g : Nat → ByteArray} {L : List α} {d x : α} {t : ByteArray} {i : Nat} (hi : i ≤ L.length) (h1 : ∀ m, m < i → tless (g m) t = true) (h2 : ∀ m, i ≤ m → m < L.length → tless (g m) t = false) (h3 : ∀ m, m < L.length → ((g m).toList == t.toList) = false) :
    finG g (fun j => L.getD j d) x t L.length = L.take i ++ x :: L.drop i := by
  by_cases hl : i = L.length
  · subst hl
    obtain ⟨a1, a2⟩ := insG_before (d := d) (x := x) hi h1 L.length (Nat.le_refl _)
    unfold finG
    rw [if_neg (by rw [a1]; simp), a2]
    simp
  · obtain ⟨k, hk⟩ : ∃ k, L.length = i + k + 1 := ⟨L.length - i - 1, by omega⟩
    obtain ⟨a1, a2⟩ := insG_behind (d := d) (x := x) hi h1 h2 h3 k (by omega)
    unfold finG
    have e : (L.drop i).take (k + 1) = L.drop i := List.take_of_length_le (by rw [List.length_drop]; omega)
    rw [hk, if_pos a1, a2, e]
theorem tgtF_at {L : List Target} {i : Nat} (h : i < L.length) : tgtF L i = L[i] := by
  rw [tgtF, List.getD_eq_getElem?_getD, List.getElem?_eq_getElem h]; rfl
theorem ascTo_of' {g : Nat → ByteArray} {n : Nat} (h : ∀ i j, i < j → j < n → tless (g i) (g j) = true) : ascTo g n = true := by
  induction n with
  | zero => rfl
  | succ k ih =>
    have h1 := ih (fun i j hij hj => h i j hij (by omega))
    cases k with
    | zero => rfl
    | succ m =>
      show (ascTo g (m + 1) && _) = true
      rw [h1]
      exact h m (m + 1) (by omega) (by omega)
theorem keepT_asc {f : Nat → Target} {n : Nat} (t : ByteArray) (h : ascTo (nm1 f) n = true) : ascTo (nm1 (tgtF (keepT f t n))) (keepT f t n).length = true := by
  have hp : ((List.range n).map f).Pairwise fun a b => tless a.name b.name = true := by
    rw [List.pairwise_map]
    refine List.Pairwise.imp_of_mem ?_ List.pairwise_lt_range
    intro a b _ hb hab
    exact asc_lt h hab (List.mem_range.1 hb)
  have hq : (keepT f t n).Pairwise fun a b => tless a.name b.name = true := hp.filter _
  refine ascTo_of' fun i j hij hj => ?_
  have hi : i < (keepT f t n).length := by omega
  show tless (tgtF (keepT f t n) i).name (tgtF (keepT f t n) j).name = true
  rw [tgtF_at hi, tgtF_at hj]
  exact List.pairwise_iff_getElem.1 hq i j hi hj hij
theorem keepT_not {f : Nat → Target} {n : Nat} {t : ByteArray} : ∀ m, m < (keepT f t n).length → ((nm1 (tgtF (keepT f t n)) m).toList == t.toList) = false := by
  intro m hm
  show ((tgtF (keepT f t n) m).name.toList == t.toList) = false
  rw [tgtF_at hm]
  simpa using (List.mem_filter.1 (List.getElem_mem hm)).2
/-- What PutTarget answers: the targets. -/
def insT (K : List Target) (x : Target) (t : ByteArray) : List Target := finG (nm1 (tgtF K)) (fun j => K.getD j dfT) x t K.length
theorem take_flatT (L : List TR) : ∀ i, (L.flatMap tgtV).take (i * 2) = (L.take i).flatMap tgtV ∧ (L.flatMap tgtV).drop (i * 2) = (L.drop i).flatMap tgtV := by
  induction L with
  | nil => intro i; simp
  | cons a l ih =>
    intro i
    cases i with
    | zero => simp
    | succ j =>
      obtain ⟨h1, h2⟩ := ih j
      have e : (j + 1) * 2 = j * 2 + 2 := by omega
      simp [e, tgtV, h1, h2]

end Go.Proofs.YthbigpnaepbhjaaDoor.Vp
