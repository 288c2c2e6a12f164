/-
  What is written of an instruction.
-/
import Derived.Test.YtolpgafkojlkoaaDoorVpOk
import Derived.Test.YtolpgafkojlkoaaDoorDDec
namespace Go.Proofs.YtolpgafkojlkoaaDoor.Vp
open Go.RowKit

/-- A hexadecimal digit. -/
def hexD (k : Nat) : UInt8 := ([48, 49, 50, 51, 52, 53, 54, 55, 56, 57, 97, 98, 99, 100, 101, 102] : List UInt8).getD k 0
def hex2 (c : UInt8) : List UInt8 := [hexD (c.toNat / 16), hexD (c.toNat % 16)]
def plainC (c : UInt8) : Bool := decide (32 ≤ c.toNat ∧ c.toNat ≤ 126 ∧ c.toNat ≠ 34 ∧ c.toNat ≠ 92)
def enc (c : UInt8) : List UInt8 := if plainC c = true then [c] else 92 :: hex2 c
def qTo (l : List UInt8) (k : Nat) : List UInt8 := 34 :: (l.take k).flatMap enc
def quoteB (l : List UInt8) : List UInt8 := qTo l l.length ++ [34]
theorem qTo_succ (s : ByteArray) (k : Nat) (h : k < s.size) : qTo s.data.toList (k + 1) = qTo s.data.toList k ++ enc s[k] := by
  unfold qTo
  rw [List.take_succ_eq_append_getElem (by simpa using h)]
  simp
  rfl
theorem enc_le (c : UInt8) : (enc c).length ≤ 3 := by
  unfold enc
  split <;> simp [hex2]
theorem flat_le (l : List UInt8) : (l.flatMap enc).length ≤ 3 * l.length := by
  induction l with
  | nil => simp
  | cons c r ih => have := enc_le c; simp only [List.flatMap_cons, List.length_append, List.length_cons]; omega
theorem qTo_le (l : List UInt8) (k : Nat) : (qTo l k).length ≤ 1 + 3 * k := by
  have h1 := flat_le (l.take k)
  have h2 := List.length_take_le k l
  simp only [qTo, List.length_cons]
  omega
theorem qTo_ne (l : List UInt8) (k : Nat) : qTo l k ≠ [] := by simp [qTo]
theorem quoteB_le (l : List UInt8) : (quoteB l).length ≤ 2 + 3 * l.length := by
  have := qTo_le l l.length
  simp only [quoteB, List.length_append, List.length_cons, List.length_nil]
  omega
def lineB (op : Int) (s : List UInt8) (n : Int) : List UInt8 :=
  if kind op = 1 then word op ++ (32 :: quoteB s) else if kind op = 0 then word op else word op ++ (32 :: Lib.decDigits n.toNat)
theorem dec_len (n : Nat) (h : n ≤ 2000) : (Lib.decDigits n).length ≤ 21 := by rw [← Lib.itoa_nonneg]; exact Lib.itoa_length_le _ (by omega) (by omega)
/-- The shapes of right instructions. -/
theorem insOk_cases {op : Int} {s : ByteArray} {n : Int} (h : insOk op s.size n = true) :
    (op = 1 ∧ s.size ≤ 2000 ∧ n = 0) ∨ ((op = 3 ∨ op = 4 ∨ op = 5 ∨ op = 10 ∨ op = 11) ∧ s = ⟨#[]⟩ ∧ ∃ m : Nat, n = m ∧ m ≤ 2000) ∨
    ((op = 2 ∨ op = 6 ∨ op = 7 ∨ op = 8 ∨ op = 9 ∨ op = 12 ∨ op = 13 ∨ op = 14 ∨ op = 15) ∧ s = ⟨#[]⟩ ∧ n = 0) := by
  unfold insOk at h
  rw [decide_eq_true_eq] at h
  obtain ⟨h1, h2, h3, h4, h5⟩ := h
  by_cases e1 : op = 1
  · subst e1
    simp [mostText, mostN] at h3 h5
    exact .inl ⟨rfl, by omega, by omega⟩
  · have hs : s.size = 0 := by simp only [mostText, if_neg e1] at h3; omega
    by_cases e2 : op = 3 ∨ op = 4 ∨ op = 5 ∨ op = 10 ∨ op = 11
    · obtain ⟨m, rfl⟩ := Int.eq_ofNat_of_zero_le h4
      refine .inr (.inl ⟨e2, empty_of_size hs, m, rfl, ?_⟩)
      unfold mostN at h5
      split at h5
      · omega
      · split at h5 <;> omega
    · refine .inr (.inr ⟨by omega, empty_of_size hs, ?_⟩)
      unfold mostN at h5
      rw [if_neg (by omega), if_neg (by omega)] at h5
      omega
theorem lineB_le (op : Int) (s : ByteArray) (n : Int) (h : insOk op s.size n = true) : (lineB op s.data.toList n).length ≤ 6010 := by
  rcases insOk_cases h with ⟨rfl, hs, rfl⟩ | ⟨hop, rfl, m, rfl, hm⟩ | ⟨hop, rfl, rfl⟩
  · have hq := quoteB_le s.data.toList
    have hl : s.data.toList.length = s.size := by simp
    simp [lineB, kind, word]
    omega
  · have hq := dec_len m hm
    rcases hop with rfl | rfl | rfl | rfl | rfl <;> simp [lineB, kind, word] <;> omega
  · rcases hop with rfl | rfl | rfl | rfl | rfl | rfl | rfl | rfl | rfl <;> simp [lineB, kind, word]

end Go.Proofs.YtolpgafkojlkoaaDoor.Vp
