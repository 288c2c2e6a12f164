/-
  ParseProgram: numbers and lines, pure.
-/
import Derived.Test.YtpefignfaooonaaGreatDoorZPaLine
namespace Go.Proofs.YtpefignfaooonaaGreatDoor.Vp
open Go.RowKit

theorem parse_app : ∀ (l : List UInt8) (acc : Nat) (r : List UInt8), Lib.parseUint10 acc (l ++ r) = match Lib.parseUint10 acc l with | .ok u => Lib.parseUint10 u r | .syntax => .syntax | .range => .range
  | [], acc, r => by simp [Lib.parseUint10]
  | c :: l, acc, r => by
    rw [List.cons_append, Lib.parseUint10, Lib.parseUint10]
    split
    · split
      · rfl
      · split
        · rfl
        · exact parse_app l _ r
    · rfl
theorem parse_dec : ∀ n : Nat, n < 18446744073709551616 → Lib.parseUint10 0 (Lib.decDigits n) = .ok n := by
  intro n
  induction n using Nat.strongRecOn with
  | ind n ih =>
    intro hn
    by_cases h1 : n < 10
    · rw [Lib.decDigits, dif_pos h1, Lib.parseUint10]
      have e : (UInt8.ofNat (48 + n)).toNat = 48 + n := by rw [UInt8.toNat_ofNat']; omega
      rw [e, if_pos (by omega), if_neg (by omega), if_neg (by omega), Lib.parseUint10]
      congr 1
      omega
    · have e : (dig (n % 10)).toNat = 48 + n % 10 := by unfold dig; rw [UInt8.toNat_ofNat']; omega
      rw [decDigits_snoc h1, parse_app, ih (n / 10) (by omega) (by omega)]
      simp only
      rw [Lib.parseUint10, e, if_pos (by omega), if_neg (by omega), if_neg (by omega), Lib.parseUint10]
      congr 1
      omega
theorem dec_head (n : Nat) : ∃ c r, Lib.decDigits n = c :: r ∧ 48 ≤ c.toNat ∧ c.toNat ≤ 57 := by
  induction n using Nat.strongRecOn with
  | ind n ih =>
    by_cases h1 : n < 10
    · refine ⟨UInt8.ofNat (48 + n), [], ?_, ?_⟩
      · rw [Lib.decDigits, dif_pos h1]
      · rw [UInt8.toNat_ofNat']
        omega
    · obtain ⟨c, r, h2, h3⟩ := ih (n / 10) (by omega)
      exact ⟨c, r ++ [dig (n % 10)], by rw [decDigits_snoc h1, h2]; rfl, h3⟩
theorem atoi_itoa (n : Int) (h1 : -9223372036854775808 ≤ n) (h2 : n ≤ 9223372036854775807) : Lib.atoiAll (Lib.itoa n) = .ok n := by
  unfold Lib.itoa
  by_cases h : n < 0
  · rw [if_pos h]
    have e : Lib.atoiAll (45 :: Lib.decDigits n.natAbs) = .ok (-(n.natAbs : Int)) := by
      unfold Lib.atoiAll
      simp only
      rw [if_pos (by decide), Lib.parseMag, if_neg (decDigits_pos _), parse_dec _ (by omega)]
      simp only
      rw [if_neg (by rintro ⟨h3, -⟩; exact h3 (by decide)), if_neg (by rintro ⟨-, h3⟩; omega), if_pos (by decide)]
    rw [e]
    congr 1
    omega
  · rw [if_neg h]
    obtain ⟨c, r, e, h3, h4⟩ := dec_head n.toNat
    have hp := parse_dec n.toNat (by omega)
    rw [e] at hp ⊢
    unfold Lib.atoiAll
    simp only
    rw [if_neg (by omega), Lib.parseMag, if_neg (by simp), hp]
    simp only
    rw [if_neg (by rintro ⟨-, h5⟩; omega), if_neg (by rintro ⟨h5, -⟩; omega), if_neg (by omega)]
    congr 1
    omega
/-- The decimals of ints. -/
def IsNum (s : List UInt8) (n : Int) : Prop := s = Lib.itoa n ∧ -9223372036854775808 ≤ n ∧ n ≤ 9223372036854775807
theorem isNum_ok {s : List UInt8} {n : Int} (h : IsNum s n) : Lib.atoiAll s = .ok n := by
  rw [h.1]
  exact atoi_itoa n h.2.1 h.2.2

/-- A number read loosely. -/
def numL (acc : Int) : List UInt8 → Int
  | [] => acc
  | c :: r => numL (acc * 10 + (c.toNat : Int) - 48) r
theorem numL_app : ∀ (l : List UInt8) (acc : Int) (r : List UInt8), numL acc (l ++ r) = numL (numL acc l) r
  | [], acc, r => rfl
  | c :: l, acc, r => by rw [List.cons_append, numL, numL, numL_app l]
theorem numL_dec (n : Nat) : numL 0 (Lib.decDigits n) = n := by
  induction n using Nat.strongRecOn with
  | ind n ih =>
    by_cases h1 : n < 10
    · rw [Lib.decDigits, dif_pos h1, numL, numL, UInt8.toNat_ofNat']
      omega
    · have e : (dig (n % 10)).toNat = 48 + n % 10 := by unfold dig; rw [UInt8.toNat_ofNat']; omega
      rw [decDigits_snoc h1, numL_app, ih (n / 10) (by omega), numL, numL, e]
      omega
theorem dec_len6 (n : Nat) (h : n ≤ 2000) : (Lib.decDigits n).length ≤ 6 := by
  by_cases h1 : n < 10
  · rw [Lib.decDigits, dif_pos h1]; simp
  · rw [decDigits_snoc h1]
    by_cases h2 : n / 10 < 10
    · rw [Lib.decDigits, dif_pos h2]; simp
    · rw [decDigits_snoc h2]
      by_cases h3 : n / 10 / 10 < 10
      · rw [Lib.decDigits, dif_pos h3]; simp
      · rw [decDigits_snoc h3]
        rw [Lib.decDigits, dif_pos (by omega)]
        simp
theorem numL6 (n : Nat) (h : n ≤ 2000) : numL 0 ((Lib.decDigits n).take 6) = n := by
  rw [List.take_of_length_le (dec_len6 n h), numL_dec]

/-- What stands in quotes, read loosely. -/
def loosU : List UInt8 → List UInt8
  | [] => []
  | [c] => [c]
  | [c, d] => [c, d]
  | c :: a :: b :: r => if c = 92 ∧ 0 ≤ hexI a ∧ 0 ≤ hexI b then byteOf a b :: loosU r else c :: loosU (a :: b :: r)
theorem loosU_plain {c : UInt8} (h : c ≠ 92) : ∀ r : List UInt8, loosU (c :: r) = c :: loosU r
  | [] => by simp [loosU]
  | [a] => by simp [loosU]
  | a :: b :: r => by rw [loosU, if_neg (fun h' => h h'.1)]
theorem loosU_enc : ∀ t : List UInt8, loosU (t.flatMap enc) = t
  | [] => by simp [loosU]
  | c :: t => by
    rw [List.flatMap_cons]
    by_cases hp : plainC c = true
    · have e : enc c = [c] := by simp [enc, hp]
      rw [e, List.singleton_append, loosU_plain (plain_not92 hp), loosU_enc t]
    · have hp' : plainC c = false := by simpa using hp
      have h1 : c.toNat < 256 := c.toNat_lt
      have e : enc c = [92, hexD (c.toNat / 16), hexD (c.toNat % 16)] := by simp [enc, hp', hex2]
      rw [e]
      show loosU (92 :: hexD (c.toNat / 16) :: hexD (c.toNat % 16) :: t.flatMap enc) = _
      rw [loosU, if_pos, byteOf_enc, loosU_enc t]
      refine ⟨rfl, ?_, ?_⟩
      · rw [hexI_hexD _ (by omega)]; omega
      · rw [hexI_hexD _ (by omega)]; omega
/-- Without its first byte and its last. -/
def innerL (s : List UInt8) : List UInt8 := (s.drop 1).take (s.length - 2)
theorem innerL_quote (t : List UInt8) : innerL (quoteB t) = t.flatMap enc := by
  rw [quoteB_eq]
  unfold innerL
  simp

/-- The pieces of a text between newlines. -/
def linesL : List UInt8 → List (List UInt8)
  | [] => [[]]
  | c :: r => if c = 10 then [] :: linesL r else match linesL r with | l :: ls => (c :: l) :: ls | [] => [[c]]
theorem linesL_ne (s : List UInt8) : linesL s ≠ [] := by
  cases s with
  | nil => simp [linesL]
  | cons c r =>
    rw [linesL]
    split
    · simp
    · split <;> simp
theorem linesL_no : ∀ {x : List UInt8}, (10 : UInt8) ∉ x → linesL x = [x]
  | [], _ => rfl
  | c :: x, h => by
    have h1 : c ≠ 10 := fun e => h (by simp [e])
    have h2 : (10 : UInt8) ∉ x := fun e => h (by simp [e])
    rw [linesL, if_neg h1, linesL_no h2]
theorem linesL_at : ∀ {x : List UInt8} (y : List UInt8), (10 : UInt8) ∉ x → linesL (x ++ 10 :: y) = x :: linesL y
  | [], y, _ => by simp [linesL]
  | c :: x, y, h => by
    have h1 : c ≠ 10 := fun e => h (by simp [e])
    have h2 : (10 : UInt8) ∉ x := fun e => h (by simp [e])
    rw [List.cons_append, linesL, if_neg h1, linesL_at y h2]
theorem linesL_cut (s : List UInt8) : linesL s = if (cutC 10 s).2.2 = true then (cutC 10 s).1 :: linesL (cutC 10 s).2.1 else [s] := by
  obtain ⟨h1, h2⟩ := cutC_inv 10 s
  cases e : (cutC 10 s).2.2 with
  | true =>
    rw [e, if_pos rfl] at h2
    rw [if_pos rfl]
    exact (congrArg linesL h2).trans (linesL_at _ h1)
  | false =>
    rw [e] at h2
    simp only [Bool.false_eq_true, if_false] at h2 ⊢
    rw [← h2] at h1
    exact linesL_no h1

/-- An instruction. -/
abbrev I3 := Int × List UInt8 × Int
/-- What is read loosely behind a word. -/
def candT (k : Int) (s : List UInt8) : List UInt8 := if kind k = 1 ∧ (word k).length < s.length then loosU (innerL (s.drop ((word k).length + 1))) else []
def candN (k : Int) (s : List UInt8) : Int := if ¬ kind k = 1 ∧ 0 < kind k ∧ (word k).length < s.length then numL 0 ((s.drop ((word k).length + 1)).take 6) else 0
theorem kind_ge (k : Int) : 0 ≤ kind k := by
  unfold kind
  split <;> omega
theorem most_kind {k : Int} (h : 1 ≤ k ∧ k ≤ 15) : (¬ kind k = 1 → mostText k = 0) ∧ (kind k = 1 ∨ kind k = 0 → mostN k = 0) ∧ mostN k ≤ 2000 := by
  rcases op_cases h with rfl | rfl | rfl | rfl | rfl | rfl | rfl | rfl | rfl | rfl | rfl | rfl | rfl | rfl | rfl <;> decide
theorem drop_word (x : List UInt8) (y : List UInt8) : (x ++ (32 :: y)).drop (x.length + 1) = y := by
  rw [List.drop_append]
  simp
theorem cand_of {s : List UInt8} {k : Int} {t : List UInt8} {m : Int} (h : IsLine s k t m) : candT k s = t ∧ candN k s = m := by
  obtain ⟨hi, rfl⟩ := h
  obtain ⟨h1, h2, h3, h4⟩ := ins_of hi
  obtain ⟨m1, m2, m3⟩ := most_kind h1
  by_cases k1 : kind k = 1
  · have e : lineB k t m = word k ++ (32 :: quoteB t) := by unfold lineB; rw [if_pos k1]
    have hl : (word k).length < (lineB k t m).length := by rw [e]; simp
    have := m2 (.inl k1)
    unfold candT candN
    rw [if_pos ⟨k1, hl⟩, if_neg (fun x => x.1 k1), e, drop_word, innerL_quote, loosU_enc]
    exact ⟨rfl, by omega⟩
  · have ht : t = [] := by
      have := m1 k1
      rw [← List.length_eq_zero_iff]
      omega
    unfold candT candN
    rw [if_neg (fun x => k1 x.1)]
    refine ⟨ht.symm, ?_⟩
    by_cases k0 : kind k = 0
    · have := m2 (.inr k0)
      rw [if_neg (fun x => by omega)]
      omega
    · have hp := kind_ge k
      have e : lineB k t m = word k ++ (32 :: Lib.decDigits m.toNat) := by unfold lineB; rw [if_neg k1, if_neg k0]
      have hl : (word k).length < (lineB k t m).length := by rw [e]; simp
      rw [if_pos ⟨k1, by omega, hl⟩, e, drop_word, numL6 m.toNat (by omega)]
      omega
/-- The instruction of a line, if it is one's: the one whose words, read loosely, are the line. -/
def readC (k : Int) (s : List UInt8) : Bool := insOk k (candT k s).length (candN k s) && decide (lineB k (candT k s) (candN k s) = s)
def readTo (s : List UInt8) : Nat → Option I3
  | 0 => none
  | k + 1 => if readC ((k + 1 : Nat) : Int) s = true then some (((k + 1 : Nat) : Int), candT ((k + 1 : Nat) : Int) s, candN ((k + 1 : Nat) : Int) s) else readTo s k
def readL (line : List UInt8) : Option I3 := readTo line 15
theorem readC_is {k : Int} {s : List UInt8} (h : readC k s = true) : IsLine s k (candT k s) (candN k s) := by
  unfold readC at h
  rw [Bool.and_eq_true, decide_eq_true_eq] at h
  exact ⟨h.1, h.2.symm⟩
theorem readTo_is {s : List UInt8} {i : I3} : ∀ {n : Nat}, readTo s n = some i → IsLine s i.1 i.2.1 i.2.2
  | 0, h => by simp [readTo] at h
  | n + 1, h => by
    rw [readTo] at h
    split at h
    · rename_i hc
      obtain rfl := Option.some.inj h
      exact readC_is hc
    · exact readTo_is h
theorem readTo_has {s : List UInt8} {k : Nat} (h0 : 0 < k) (hc : readC (k : Int) s = true) : ∀ {n : Nat}, k ≤ n → ∃ i, readTo s n = some i
  | 0, hn => by omega
  | n + 1, hn => by
    rw [readTo]
    split
    · exact ⟨_, rfl⟩
    · rename_i hx
      by_cases e : k = n + 1
      · subst e
        exact absurd hc hx
      · exact readTo_has h0 hc (by omega)
theorem readL_is {line : List UInt8} {i : I3} (h : readL line = some i) : IsLine line i.1 i.2.1 i.2.2 := readTo_is h
theorem readL_some {line : List UInt8} {i : I3} (h : IsLine line i.1 i.2.1 i.2.2) : readL line = some i := by
  obtain ⟨h1, h2⟩ := ins_of h.1
  obtain ⟨k, hk⟩ := Int.eq_ofNat_of_zero_le (show 0 ≤ i.1 by omega)
  obtain ⟨e1, e2⟩ := cand_of h
  have hc : readC (k : Int) line = true := by
    rw [← hk]
    unfold readC
    rw [e1, e2, Bool.and_eq_true, decide_eq_true_eq]
    exact ⟨h.1, h.2.symm⟩
  obtain ⟨j, hj⟩ := readTo_has (n := 15) (by omega) hc (by omega)
  obtain ⟨q1, q2, q3⟩ := isLine_one (readTo_is hj) h
  show readTo line 15 = some i
  rw [hj]
  exact congrArg some (Prod.ext q1 (Prod.ext q2 q3))
theorem readL_none {line : List UInt8} (h : ∀ i : I3, ¬ IsLine line i.1 i.2.1 i.2.2) : readL line = none := by
  cases hr : readL line with
  | none => rfl
  | some i => exact absurd (readL_is hr) (h i)
/-- A program read: a code, a line, the instructions. -/
def pgm : Nat → List (List UInt8) → Int × Int × List I3
  | k, [] => (2, k, [])
  | k, [l] => if l = [] then (0, 0, []) else (2, k, [])
  | k, l :: l' :: ls => match readL l with | none => (2, k, []) | some i => if (pgm (k + 1) (l' :: ls)).1 = 0 then (0, 0, i :: (pgm (k + 1) (l' :: ls)).2.2) else pgm (k + 1) (l' :: ls)

end Go.Proofs.YtpefignfaooonaaGreatDoor.Vp
