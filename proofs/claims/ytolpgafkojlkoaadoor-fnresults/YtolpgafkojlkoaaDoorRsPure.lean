/-
  Results written and read back.
-/
import Derived.Test.YtolpgafkojlkoaaDoorRsRes
import Derived.Test.YtolpgafkojlkoaaDoorFrLaw
import Derived.Test.YtolpgafkojlkoaaDoorRrRead
namespace Go.Proofs.YtolpgafkojlkoaaDoor.Vp
open Go.RowKit

theorem formT_size (c : Int) (t : ByteArray) (n : Nat) : (formT c t n).size ≤ 2002 := by
  unfold formT
  split
  · rename_i h
    obtain ⟨h0, h1, h2, _⟩ := h
    have hd := dec1s (k := c.toNat) (by omega)
    simp only [ByteArray.size_append, hd]
    show 1 + 1 + t.size ≤ 2002
    omega
  · show (0 : Nat) ≤ 2002
    omega

/-! Written and read back. -/

theorem dig_of {c : Int} (h0 : 0 ≤ c) (h1 : c ≤ 5) : (⟨(Lib.decDigits c.toNat).toArray⟩ : ByteArray) = ⟨#[dig c.toNat]⟩ := by
  rw [Lib.decDigits_one (by omega)]
  rfl
theorem form_list {c : Int} {t : ByteArray} (h0 : 0 ≤ c) (h1 : c ≤ 5) (h2 : t.size ≤ 2000) : (formT c t 0).data.toList = dig c.toNat :: 58 :: t.data.toList := by
  unfold formT
  rw [if_pos ⟨h0, h1, h2, rfl⟩, dig_of h0 h1]
  simp [ByteArray.data_append]
theorem dig_nat {n : Nat} (h : n ≤ 5) : (dig n).toNat = 48 + n := by
  unfold dig
  rw [UInt8.toNat_ofNat']
  omega
theorem form_no {c : Int} {t : ByteArray} {n : Nat} (h : ¬ (0 ≤ c ∧ c ≤ 5 ∧ t.size ≤ 2000 ∧ n = 0)) : formT c t n = ⟨#[]⟩ := by
  unfold formT
  rw [if_neg h]
theorem size_list (s : ByteArray) : s.size = s.data.toList.length := by
  show s.data.size = _
  simp
theorem ext_list {s t : ByteArray} (h : s.data.toList = t.data.toList) : s = t := by
  obtain ⟨⟨a⟩⟩ := s
  obtain ⟨⟨b⟩⟩ := t
  simp at h
  subst h
  rfl
theorem extract_list (s : ByteArray) : (s.extract 2 s.size).data.toList = s.data.toList.drop 2 := by
  rw [ByteArray.data_extract, Array.toList_extract, size_list]
  simp [List.take_of_length_le]
/-- What is written is read. -/
theorem read_form {c : Int} {t : ByteArray} (h0 : 0 ≤ c) (h1 : c ≤ 5) (h2 : t.size ≤ 2000) : readOk (formT c t 0) = true ∧ readC (formT c t 0) = c ∧ (formT c t 0).extract 2 (formT c t 0).size = t := by
  have hl := form_list h0 h1 h2
  have hn := dig_nat (n := c.toNat) (by omega)
  refine ⟨?_, ?_, ?_⟩
  · unfold readOk
    rw [size_list, hl]
    have : t.data.toList.length ≤ 2000 := by rw [← size_list]; exact h2
    simp [hn]
    omega
  · unfold readC
    rw [hl]
    show ((dig c.toNat).toNat : Int) - 48 = c
    rw [hn]
    omega
  · apply ext_list
    rw [extract_list, hl]
    rfl
theorem read_empty : readOk ⟨#[]⟩ = false := rfl
theorem form_ne {c : Int} {t : ByteArray} (h0 : 0 ≤ c) (h1 : c ≤ 5) (h2 : t.size ≤ 2000) : ¬ (formT c t 0).size = 0 := by
  rw [size_list, form_list h0 h1 h2]
  simp
/-- What is read is what was written. -/
theorem form_read {s : ByteArray} (h : readOk s = true) : formT (readC s) (s.extract 2 s.size) 0 = s := by
  have hx := extract_list s
  have hz : (s.extract 2 s.size).size = s.data.toList.length - 2 := by rw [size_list, hx]; simp
  unfold readOk at h
  match e : s.data.toList with
  | [] => rw [e] at h; simp at h
  | [a] => rw [e] at h; simp at h
  | a :: b :: r =>
    rw [e] at h hx hz
    simp only [Bool.and_eq_true, decide_eq_true_eq] at h
    obtain ⟨⟨h1, h2⟩, h3, h4, h5⟩ := h
    have hs := size_list s
    rw [e] at hs
    have hc : readC s = (a.toNat : Int) - 48 := by unfold readC; rw [e]
    have hl := form_list (c := readC s) (t := s.extract 2 s.size) (by omega) (by omega) (by rw [hz]; simp at hs ⊢; omega)
    apply ext_list
    rw [hl, e, hx]
    have ea : dig (readC s).toNat = a := by
      apply UInt8.toNat_inj.1
      rw [dig_nat (by omega), hc]
      omega
    have eb : b = 58 := UInt8.toNat_inj.1 (by rw [h5]; rfl)
    rw [ea, eb]
    rfl

end Go.Proofs.YtolpgafkojlkoaaDoor.Vp
