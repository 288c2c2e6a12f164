/-
  spec: l1Step: what a plain one leaves. Written by tools/spec2.py.
-/
import Derived.Test.YtoaokmdhbagniaaDoorNxStp3
namespace Go.Proofs.YtoaokmdhbagniaaDoor.Vp
open Go.RowKit

theorem plainL_len (op n : Nat) (t a b : ByteArray) (h1 : 1 ≤ op) (h11 : op ≤ 11) : (plainL op n t a b).length = putsOf op := by
  rcases (show op = 1 ∨ op = 2 ∨ op = 3 ∨ op = 4 ∨ op = 5 ∨ op = 6 ∨ op = 7 ∨ op = 8 ∨ op = 9 ∨ op = 10 ∨ op = 11 by omega) with rfl | rfl | rfl | rfl | rfl | rfl | rfl | rfl | rfl | rfl | rfl
  all_goals rfl
theorem puts_le {op j : Nat} (h1 : 1 ≤ op) (h11 : op ≤ 11) (h : j < putsOf op) : op ≤ 8 := by
  rcases (show op = 1 ∨ op = 2 ∨ op = 3 ∨ op = 4 ∨ op = 5 ∨ op = 6 ∨ op = 7 ∨ op = 8 ∨ op = 9 ∨ op = 10 ∨ op = 11 by omega) with rfl | rfl | rfl | rfl | rfl | rfl | rfl | rfl | rfl | rfl | rfl
  all_goals simp [putsOf] at h ⊢
theorem puts_two (op : Nat) : putsOf op ≤ 2 := by
  unfold putsOf
  split
  · omega
  · split <;> omega
def plainSO (PL : List ByteArray) (pl : ByteArray) (r : List ByteArray) (p st l : Nat) : SO := if PL.all (fun x => decide (x.size ≤ 2000)) then .go p st l (PL.reverse ++ r) else .over 2 pl st
theorem take_next {PL : List ByteArray} {j : Nat} (h : j < PL.length) : (PL.take (j + 1)).map Value.string = (PL.take j).map Value.string ++ [.string (PL.getD j ⟨#[]⟩)] := by
  rw [List.take_add_one, List.map_append, List.getElem?_eq_getElem h]
  simp [h]
theorem strs_rev (PL r : List ByteArray) : strs (PL.reverse ++ r) = strs r ++ PL.map Value.string := by simp [strs]
theorem fits_no {PL : List ByteArray} {j : Nat} (h : j < PL.length) (hs : ¬ ((PL.getD j ⟨#[]⟩).size : Int) ≤ 2000) : PL.all (fun x => decide (x.size ≤ 2000)) = false := by
  simp only [List.all_eq_false]
  exact ⟨PL[j], List.getElem_mem h, by simp [h] at hs ⊢; omega⟩
theorem fits_yes {PL : List ByteArray} (h : ∀ i, i < PL.length → (PL.getD i ⟨#[]⟩).size ≤ 2000) : PL.all (fun x => decide (x.size ≤ 2000)) = true := by
  simp only [List.all_eq_true, decide_eq_true_eq]
  intro x hx
  obtain ⟨i, hi, rfl⟩ := List.mem_iff_getElem.1 hx
  have := h i hi
  simpa [hi] using this

end Go.Proofs.YtoaokmdhbagniaaDoor.Vp
