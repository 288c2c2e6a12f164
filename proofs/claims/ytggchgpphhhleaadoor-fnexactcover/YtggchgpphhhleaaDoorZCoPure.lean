/-
  What Cover answers.
-/
import Derived.Test.YtggchgpphhhleaaDoorZI
import Derived.Test.YtggchgpphhhleaaDoorZDAccS
import Derived.Test.YtggchgpphhhleaaDoorZMInt
namespace Go.Proofs.YtggchgpphhhleaaDoor.Vp
open Go.RowKit Go.Sort

/-- the account names the name. -/
def covs (x : Acc) (t : ByteArray) : Bool := decide (t.toList ∈ nams x.f x.n)
def covL (F : Nat → Acc) (t : ByteArray) : Nat → List Int
  | 0 => []
  | k + 1 => if covs (F k) t = true then covL F t k ++ [(k : Int)] else covL F t k
def cover (F : Nat → Acc) (m : Nat) (t : ByteArray) : List Int := if 50 < m then [] else covL F t m
theorem covL_len (F : Nat → Acc) (t : ByteArray) (k : Nat) : (covL F t k).length ≤ k := by
  induction k with
  | zero => exact Nat.le_refl _
  | succ k ih =>
    rw [covL]
    split
    · simp; omega
    · omega
theorem cover_len (F : Nat → Acc) (m : Nat) (t : ByteArray) : (cover F m t).length ≤ 1048576 := by
  unfold cover
  split
  · simp
  · have := covL_len F t m
    omega
theorem nams_asc (f : Nat → Deed) (n : Nat) : (nams f n).Pairwise (· < ·) := by
  unfold nams
  split
  · exact nameL_asc f n
  · exact List.Pairwise.nil
/-- the name is among the first j of a list. -/
def seen (L : List (List UInt8)) (t : ByteArray) (j : Nat) : Bool := decide (t.toList ∈ L.take j)
theorem seen_end (L : List (List UInt8)) (t : ByteArray) : seen L t L.length = decide (t.toList ∈ L) := by simp [seen]
theorem seen_succ {L : List (List UInt8)} {t : ByteArray} {j : Nat} (hj : j < L.length) : seen L t (j + 1) = (seen L t j || ((nmF L j).toList == t.toList)) := by
  unfold seen
  rw [← List.take_append_getElem hj, nmF_at hj]
  by_cases h : t.toList ∈ L.take j
  · simp only [List.mem_append, h, true_or, decide_true, Bool.true_or]
  · simp only [List.mem_append, h, false_or, List.mem_singleton, decide_false, Bool.false_or]
    by_cases e : t.toList = L[j]
    · simp [e]
    · have e' : L[j] ≠ t.toList := fun h => e h.symm
      simp [e, e']
theorem seen_new {L : List (List UInt8)} {t : ByteArray} {j : Nat} (hL : L.Pairwise (· < ·)) (hj : j < L.length) (h : (nmF L j).toList = t.toList) : seen L t j = false := by
  unfold seen
  rw [nmF_at hj] at h
  simp only [decide_eq_false_iff_not]
  intro hm
  obtain ⟨i, hi, he⟩ := List.getElem_of_mem hm
  rw [List.length_take] at hi
  rw [List.getElem_take] at he
  have := List.pairwise_iff_getElem.1 hL i j (by omega) hj (by omega)
  rw [he, h] at this
  exact List.lt_irrefl _ this
/-- a row of accounts as it was copied. -/
def AccE (w : World) (b m : Nat) (F : Nat → Acc) : Prop := b < w.heap.size ∧ ∀ i, i < m → ∃ a0, w.cell? ⟨b, i, none⟩ = some (.slice a0 (F i).n (F i).n) ∧ SlDeed w a0 (F i).n (F i).f
theorem AccE.below {w w' : World} {b m B : Nat} {F : Nat → Acc} (h : AccE w b m F) (hb : Below B w w') (hB : w.heap.size ≤ B) : AccE w' b m F := by
  refine ⟨Nat.lt_of_lt_of_le h.1 hb.size, fun i hi => ?_⟩
  obtain ⟨a0, h1, h2⟩ := h.2 i hi
  exact ⟨a0, (hb.cell (p := ⟨b, i, none⟩) (Nat.lt_of_lt_of_le h.1 hB)).trans h1, h2.below hb hB⟩
theorem OwnAcc.accE {w : World} {g m N : Nat} {F : Nat → Acc} {V : Nat → Value} {G H : Nat → Nat} (h : OwnAcc w g m m N F V G H) : AccE w g m F :=
  ⟨h.row.lt, fun i hi => ⟨_, by rw [h.row.cell hi, h.cell i hi], (h.own i hi).row.sl⟩⟩

end Go.Proofs.YtggchgpphhhleaaDoor.Vp
