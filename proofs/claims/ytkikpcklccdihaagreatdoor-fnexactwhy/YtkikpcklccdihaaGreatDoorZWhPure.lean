/-
  Why: what it answers.
-/
import Derived.Test.YtkikpcklccdihaaGreatDoorZNmList
import Derived.Test.YtkikpcklccdihaaGreatDoorZInsB
namespace Go.Proofs.YtkikpcklccdihaaGreatDoor.Vp
open Go.RowKit

/-- What is told of a name: 1 a source, 2 nothing, 3 a target, 4 something, 5 not something. -/
structure Tl where
  kind : Int
  text : ByteArray
  actN : Nat
  act : Nat → Ins
def noAct : Nat → Ins := fun _ => ⟨0, ⟨#[]⟩, 0⟩
def dTell (x : Deed) : Tl := ⟨x.kind, if x.kind = 1 then x.text else ⟨#[]⟩, x.actN, x.act⟩
def lTell (l : Link) : Tl := ⟨if l.has = true then 4 else 5, ⟨#[]⟩, 0, noAct⟩
/-- What the first j links tell of a name. -/
def tellLk (g : Nat → Link) (nm : List UInt8) : Nat → List Tl
  | 0 => []
  | j + 1 => tellLk g nm j ++ (if (g j).name.toList = nm ∧ (g j).ask = false then [lTell (g j)] else [])
/-- What the first k deeds tell of a name. -/
def tellsTo (f : Nat → Deed) (nm : List UInt8) : Nat → List Tl
  | 0 => []
  | k + 1 => tellsTo f nm k ++ (if (f k).name.toList = nm then [dTell (f k)] else []) ++ tellLk (f k).links nm (f k).linksN
def thereB (x : Tl) : Bool := x.kind == 1 || x.kind == 3 || x.kind == 4
def agreeB (x y : Tl) : Bool := if thereB x != thereB y then false else if decide (3 < x.kind) || decide (3 < y.kind) || !thereB x then true else x.kind == y.kind && x.text.toList == y.text.toList && codeB x.act y.act x.actN y.actN
/-- One of xs can't be so with one of ys. -/
def partB (xs ys : List Tl) : Bool := xs.any fun x => ys.any fun y => !agreeB x y
def whyB (f : Nat → Deed) (n : Nat) (g : Nat → Deed) (m : Nat) (nm : List UInt8) : Bool := partB (tellsTo f nm n) (tellsTo g nm m)
def whyL (f : Nat → Deed) (n : Nat) (g : Nat → Deed) (m : Nat) : List (List UInt8) := if accOk f n = true ∧ accOk g m = true then (nameL f n).filter (whyB f n g m) else []

theorem tellLk_len (g : Nat → Link) (nm : List UInt8) (j : Nat) : (tellLk g nm j).length ≤ j := by
  induction j with
  | zero => exact Nat.le_refl _
  | succ j ih =>
    rw [tellLk, List.length_append]
    split
    · simp; omega
    · simp; omega
theorem tellsTo_len {f : Nat → Deed} {nm : List UInt8} {k : Nat} (h : ∀ p, p < k → (f p).linksN ≤ 200) : (tellsTo f nm k).length ≤ k * 201 := by
  induction k with
  | zero => exact Nat.le_refl _
  | succ k ih =>
    have h1 := ih fun p hp => h p (by omega)
    have h2 := tellLk_len (f k).links nm (f k).linksN
    have h3 := h k (by omega)
    rw [tellsTo, List.length_append, List.length_append]
    split
    · simp; omega
    · simp; omega
theorem whyL_asc (f : Nat → Deed) (n : Nat) (g : Nat → Deed) (m : Nat) : (whyL f n g m).Pairwise (· < ·) := by
  unfold whyL
  split
  · exact (nameL_asc f n).filter _
  · exact List.Pairwise.nil
theorem whyL_len (f : Nat → Deed) (n : Nat) (g : Nat → Deed) (m : Nat) : (whyL f n g m).length ≤ 1048576 := by
  unfold whyL
  split
  · rename_i h
    have h1 := accOk_n h.1
    have h2 := nameL_len (f := f) (k := n) (accOk_links h.1)
    have h3 := List.length_filter_le (whyB f n g m) (nameL f n)
    omega
  · simp
theorem lput_last {l : List (List UInt8)} {x : List UInt8} (h : ∀ y ∈ l, y < x) : lput l x = l ++ [x] := by
  induction l with
  | nil => rfl
  | cons y ys ih =>
    rw [lput, if_pos (h y (by simp)), ih fun z hz => h z (by simp [hz])]
    rfl
theorem lput_again {l : List (List UInt8)} {x : List UInt8} (h : ∀ y ∈ l, y < x) : lput (l ++ [x]) x = l ++ [x] := by
  induction l with
  | nil =>
    show lput [x] x = [x]
    rw [lput, if_neg (List.lt_irrefl x), if_pos rfl]
  | cons y ys ih =>
    show lput (y :: (ys ++ [x])) x = _
    rw [lput, if_pos (h y (by simp)), ih fun z hz => h z (by simp [hz])]
    rfl
/-- The list with x put behind it, if b. -/
def putIf (b : Bool) (l : List (List UInt8)) (x : List UInt8) : List (List UInt8) := if b = true then l ++ [x] else l
theorem putIf_put {b : Bool} {l : List (List UInt8)} {x : List UInt8} (h : ∀ y ∈ l, y < x) : lput (putIf b l x) x = putIf true l x := by
  unfold putIf
  cases b with
  | true => rw [if_pos rfl, lput_again h]
  | false => rw [if_neg (by simp), lput_last h, if_pos rfl]
/-- The answer behind i names. -/
def whyTo (q : List UInt8 → Bool) (L : List (List UInt8)) (i : Nat) : List (List UInt8) := (L.take i).filter q
theorem whyTo_next {q : List UInt8 → Bool} {L : List (List UInt8)} {i : Nat} (h : i < L.length) : whyTo q L (i + 1) = putIf (q L[i]) (whyTo q L i) L[i] := by
  unfold whyTo putIf
  rw [List.take_succ_eq_append_getElem h, List.filter_append]
  cases hq : q L[i] with
  | true => simp [hq]
  | false => simp [hq]
theorem whyTo_lt {q : List UInt8 → Bool} {L : List (List UInt8)} (hL : L.Pairwise (· < ·)) {i : Nat} (h : i < L.length) : ∀ y ∈ whyTo q L i, y < L[i] := by
  intro y hy
  have hy : y ∈ L.take i := (List.mem_filter.1 hy).1
  obtain ⟨j, hj, rfl⟩ := List.mem_iff_getElem.1 hy
  have hj1 : j < i := by simp at hj; omega
  rw [List.getElem_take]
  exact List.pairwise_iff_getElem.1 hL j i (by omega) h hj1
theorem whyTo_all (q : List UInt8 → Bool) (L : List (List UInt8)) : whyTo q L L.length = L.filter q := by
  unfold whyTo
  rw [List.take_length]
theorem whyTo_len (q : List UInt8 → Bool) (L : List (List UInt8)) (i : Nat) : (whyTo q L i).length ≤ L.length := by
  unfold whyTo
  have h1 := List.length_filter_le q (L.take i)
  have h2 : (L.take i).length ≤ L.length := by rw [List.length_take]; omega
  omega
/-- Whether one of the first k of xs can't be so with one of ys, or the next one with one of the first j. -/
def partAt (xs ys : List Tl) (k j : Nat) : Bool := partB (xs.take k) ys || partB ((xs.drop k).take 1) (ys.take j)
theorem any_take_succ {α : Type} {p : α → Bool} {l : List α} {i : Nat} (h : i < l.length) : (l.take (i + 1)).any p = ((l.take i).any p || p l[i]) := by
  rw [List.take_succ_eq_append_getElem h, List.any_append]
  simp
theorem partB_row {xs ys : List Tl} {k : Nat} (hk : k < xs.length) : partB (xs.take (k + 1)) ys = (partB (xs.take k) ys || ys.any fun y => !agreeB xs[k] y) := any_take_succ hk

end Go.Proofs.YtkikpcklccdihaaGreatDoor.Vp
