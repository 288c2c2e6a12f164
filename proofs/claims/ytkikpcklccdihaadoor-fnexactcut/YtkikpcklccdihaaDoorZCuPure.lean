/-
  Cut: what it answers.
-/
import Derived.Test.YtkikpcklccdihaaDoorZAcOk
namespace Go.Proofs.YtkikpcklccdihaaDoor.Vp
open Go.RowKit

/-- Each of the list is new, and what it asks for stands ahead of it. -/
def GoodL (f : Nat → Deed) : List Nat → List Nat → Prop
  | _, [] => True
  | pre, x :: xs => x ∉ pre ∧ (∀ i, i < (f x).linksN → ((f x).links i).ask = true → ((f x).links i).at_.toNat ∈ pre) ∧ GoodL f (pre ++ [x]) xs
theorem goodL_append {f : Nat → Deed} : ∀ {a pre b : List Nat}, GoodL f pre a → GoodL f (pre ++ a) b → GoodL f pre (a ++ b)
  | [], pre, b, _, h => by simpa using h
  | x :: xs, pre, b, h, k => ⟨h.1, h.2.1, goodL_append (a := xs) h.2.2 (by simpa using k)⟩
theorem goodL_at {f : Nat → Deed} : ∀ {a pre p : List Nat} {x : Nat} {q : List Nat}, GoodL f pre a → a = p ++ x :: q → x ∉ pre ++ p ∧ ∀ i, i < (f x).linksN → ((f x).links i).ask = true → ((f x).links i).at_.toNat ∈ pre ++ p
  | [], pre, p, x, q, _, e => by cases p <;> cases e
  | y :: ys, pre, [], x, q, h, e => by
    simp only [List.nil_append, List.cons.injEq] at e
    obtain ⟨rfl, rfl⟩ := e
    rw [List.append_nil]
    exact ⟨h.1, h.2.1⟩
  | y :: ys, pre, z :: p, x, q, h, e => by
    simp only [List.cons_append, List.cons.injEq] at e
    obtain ⟨rfl, rfl⟩ := e
    have := goodL_at (p := p) (x := x) (q := q) h.2.2 rfl
    simpa using this
def plc (r : (Nat → Bool) × List (Nat × Nat)) : List Nat := r.2.map fun z => z.1

theorem lst_good {f : Nat → Deed} {n : Nat} (hA : Ahead f n) : ∀ k p d s (pre : List Nat), p < k → p < n → s p = false → (∀ q, s q = true ↔ q ∈ pre) → GoodL f pre (plc (lst f k p d s)) ∧ ∀ q, (lst f k p d s).1 q = true ↔ q ∈ pre ++ plc (lst f k p d s)
  | 0, _, _, _, _, h, _, _, _ => absurd h (Nat.not_lt_zero _)
  | k + 1, p, d, s, pre, hk, hn, hs, hS => by
    have key : ∀ j, j ≤ (f p).linksN → GoodL f pre (plc (lks (lst f k) (f p) d s j)) ∧ (∀ q, (lks (lst f k) (f p) d s j).1 q = true ↔ q ∈ pre ++ plc (lks (lst f k) (f p) d s j)) ∧ ∀ i, i < j → ((f p).links i).ask = true → ((f p).links i).at_.toNat ∈ pre ++ plc (lks (lst f k) (f p) d s j) := by
      intro j
      induction j with
      | zero => exact fun _ => ⟨trivial, by simpa [lks, plc] using hS, fun i hi => absurd hi (Nat.not_lt_zero _)⟩
      | succ j ih =>
        intro hj
        obtain ⟨h1, h2, h3⟩ := ih (by omega)
        rw [lks]
        split
        · rename_i hc
          have ha := (hA p hn j (by omega) hc.1).1
          obtain ⟨g1, g2⟩ := lst_good hA k _ (d + 1) _ (pre ++ plc (lks (lst f k) (f p) d s j)) (by omega) (by omega) hc.2 h2
          obtain ⟨o, ho⟩ := (lst_inv hA k _ (d + 1) _ (by omega) (by omega) hc.2).last
          have e : plc ((lst f k ((f p).links j).at_.toNat (d + 1) (lks (lst f k) (f p) d s j).1).1, (lks (lst f k) (f p) d s j).2 ++ (lst f k ((f p).links j).at_.toNat (d + 1) (lks (lst f k) (f p) d s j).1).2) = plc (lks (lst f k) (f p) d s j) ++ plc (lst f k ((f p).links j).at_.toNat (d + 1) (lks (lst f k) (f p) d s j).1) := by
            unfold plc
            exact List.map_append
          rw [e]
          refine ⟨goodL_append h1 g1, fun q => by rw [← List.append_assoc]; exact g2 q, fun i hi hai => ?_⟩
          by_cases hij : i = j
          · subst hij
            refine List.mem_append_right _ (List.mem_append_right _ ?_)
            unfold plc
            rw [ho]
            simp
          · rw [← List.append_assoc]
            exact List.mem_append_left _ (h3 i (by omega) hai)
        · rename_i hc
          refine ⟨h1, h2, fun i hi hai => ?_⟩
          by_cases hij : i = j
          · subst hij
            rw [← h2]
            cases hv : (lks (lst f k) (f p) d s i).1 ((f p).links i).at_.toNat with
            | true => rfl
            | false => exact absurd ⟨hai, hv⟩ hc
          · exact h3 i (by omega) hai
    obtain ⟨h1, h2, h3⟩ := key (f p).linksN (Nat.le_refl _)
    have hp : (lks (lst f k) (f p) d s (f p).linksN).1 p = false := ((lks_inv (d := d) (s := s) hA hn (fun q d s hq hs => lst_inv hA k q d s (by omega) (by omega) hs) (f p).linksN (Nat.le_refl _)).1 p (Nat.le_refl _)).trans hs
    have e : plc (lst f (k + 1) p d s) = plc (lks (lst f k) (f p) d s (f p).linksN) ++ [p] := by
      unfold plc
      rw [lst]
      exact List.map_append
    rw [e]
    refine ⟨goodL_append h1 ⟨fun hm => ?_, h3, trivial⟩, fun q => ?_⟩
    · rw [← h2, hp] at hm
      cases hm
    · show put _ p q = true ↔ _
      rw [← List.append_assoc, List.mem_append, List.mem_singleton, ← h2, put]
      simp
      exact Or.comm

theorem lst_fuel {f : Nat → Deed} {n : Nat} (hA : Ahead f n) : ∀ k k' p d s, p < k → p < k' → p < n → lst f k p d s = lst f k' p d s
  | 0, _, _, _, _, h, _, _ => absurd h (Nat.not_lt_zero _)
  | _ + 1, 0, _, _, _, _, h, _ => absurd h (Nat.not_lt_zero _)
  | k + 1, k' + 1, p, d, s, h1, h2, hn => by
    have key : ∀ j, j ≤ (f p).linksN → lks (lst f k) (f p) d s j = lks (lst f k') (f p) d s j := by
      intro j
      induction j with
      | zero => intro _; rfl
      | succ j ih =>
        intro hj
        have e := ih (by omega)
        rw [lks, lks, e]
        by_cases hk : ((f p).links j).ask = true
        · have ha := (hA p hn j (by omega) hk).1
          rw [lst_fuel hA k k' _ (d + 1) _ (by omega) (by omega) (by omega)]
        · rw [if_neg (fun h => hk h.1), if_neg (fun h => hk h.1)]
    rw [lst, lst, key _ (Nat.le_refl _)]

/-- What is listed from a place on. -/
def cutL (f : Nat → Deed) (p : Nat) : List Nat := plc (lst f (p + 1) p 0 fun _ => false)
theorem cutL_good {f : Nat → Deed} {n p : Nat} (hA : Ahead f n) (hp : p < n) : GoodL f [] (cutL f p) := (lst_good hA (p + 1) p 0 (fun _ => false) [] (Nat.lt_succ_self _) hp rfl (by simp)).1
theorem cutL_fuel {f : Nat → Deed} {n p : Nat} (hA : Ahead f n) (hp : p < n) : plc (lst f n p 0 fun _ => false) = cutL f p := by
  unfold cutL
  rw [lst_fuel hA n (p + 1) p 0 _ hp (Nat.lt_succ_self _) hp]
theorem ahead_le {f : Nat → Deed} {n m : Nat} (hA : Ahead f n) (h : m ≤ n) : Ahead f m := fun p hp => hA p (by omega)
theorem cutL_listing {f : Nat → Deed} (p : Nat) : (listing f (p + 1)).map (fun z => z.1) = cutL f p := rfl
theorem cutL_lt {f : Nat → Deed} {n p : Nat} (hA : Ahead f n) (hp : p < n) : ∀ q ∈ cutL f p, q ≤ p := by
  intro q hq
  unfold cutL plc at hq
  obtain ⟨z, hz, rfl⟩ := List.mem_map.1 hq
  exact (lst_inv hA (p + 1) p 0 (fun _ => false) (Nat.lt_succ_self _) hp rfl).le z hz
theorem cutL_len {f : Nat → Deed} {n p : Nat} (hA : Ahead f n) (hp : p < n) : (cutL f p).length ≤ p + 1 ∧ 1 ≤ (cutL f p).length := by
  have h := lst_inv (ahead_le hA (by omega : p + 1 ≤ n)) (p + 1) p 0 (fun _ => false) (Nat.lt_succ_self _) (Nat.lt_succ_self _) rfl
  have h1 := h.num
  have h2 := cnt_le (lst f (p + 1) p 0 fun _ => false).1 (p + 1)
  obtain ⟨o, ho⟩ := h.last
  have h3 := congrArg List.length ho
  unfold cutL plc
  rw [List.length_map]
  simp at h3
  omega

/-- A link, a deed whose asks lead to the new places. -/
def mvLink (L : List Nat) (l : Link) : Link := if l.ask = true then { l with at_ := (L.idxOf l.at_.toNat : Int) } else l
def mv (f : Nat → Deed) (L : List Nat) (x : Nat) : Deed := { f x with links := fun j => mvLink L ((f x).links j) }
def noDeed : Deed := { name := ⟨#[]⟩, kind := 0, code := 0, text := ⟨#[]⟩, actN := 0, act := fun _ => ⟨0, ⟨#[]⟩, 0⟩, linksN := 0, links := fun _ => ⟨⟨#[]⟩, false, false, 0⟩ }
def dF (L : List Deed) (i : Nat) : Deed := L.getD i noDeed
/-- The first place of a name, or -1. -/
def whereN (f : Nat → Deed) (t : ByteArray) (n : Nat) : Int := firstNo (fun i => !((f i).name.toList == t.toList)) n
def cutRaw (f : Nat → Deed) (p : Nat) : List Deed := (cutL f p).map (mv f (cutL f p))
def cutD (f : Nat → Deed) (n : Nat) (t : ByteArray) : List Deed :=
  if accOk f n = true then
    if whereN f t n = -1 then [] else
    if accOk (dF (cutRaw f (whereN f t n).toNat)) (cutRaw f (whereN f t n).toNat).length = true then cutRaw f (whereN f t n).toNat else []
  else []

theorem firstNo_none {g : Nat → Bool} {n : Nat} (h : ∀ i, i < n → g i = true) : firstNo g n = -1 := firstNo_all h
theorem firstNo_cases (g : Nat → Bool) (n : Nat) : firstNo g n = -1 ∨ ∃ i : Nat, firstNo g n = (i : Int) ∧ i < n ∧ g i = false ∧ ∀ j, j < i → g j = true := by
  induction n with
  | zero => exact .inl rfl
  | succ k ih =>
    rw [firstNo]
    rcases ih with h | ⟨i, h, hi, hg, hj⟩
    · rw [if_pos h]
      cases hk : g k with
      | true => exact .inl rfl
      | false => exact .inr ⟨k, rfl, Nat.lt_succ_self _, hk, firstNo_ok h⟩
    · rw [if_neg (by omega)]
      exact .inr ⟨i, h, by omega, hg, hj⟩
/-- In a list of places without doubles the first deed of an asked name is the one that is meant. -/
theorem where_idx {f : Nat → Deed} {n : Nat} (hok : accOk f n = true) {pre : List Nat} (hpre : ∀ q ∈ pre, q < n) {p : Nat} (hp : p ∈ pre) (g : Nat → Deed) (hg : ∀ i (h : i < pre.length), (g i).name = (f pre[i]).name) {t : ByteArray} (ht : (f p).name.toList = t.toList) :
    firstNo (fun i => !((g i).name.toList == t.toList)) pre.length = ((pre.idxOf p : Nat) : Int) := by
  have hlt := List.idxOf_lt_length_of_mem hp
  refine firstNo_at hlt ?_ fun j hj => ?_
  · rw [hg _ hlt, List.getElem_idxOf hlt, ht]
    simp
  · have hjl : j < pre.length := by omega
    rw [hg j hjl]
    have hne : pre[j] ≠ p := fun e => by
      have := List.not_of_lt_findIdx (p := fun y => y == p) (xs := pre) (i := j) hj
      simp [e] at this
    have : (f pre[j]).name.toList ≠ t.toList := fun e => hne (accOk_new hok _ _ (hpre _ (List.getElem_mem hjl)) (hpre _ hp) (e.trans ht.symm))
    simp [this]

end Go.Proofs.YtkikpcklccdihaaDoor.Vp
