/-
  Put together of: PaPure.
-/
import Derived.Test.YtpefignfaooonaaGreatDoorZB
import Derived.Lib.IndexMore
import Derived.Lib.AtoiAll

/-
  ParseProgram: what is read, as functions over lists of bytes.
-/
namespace Go.Proofs.YtpefignfaooonaaGreatDoor.Vp
open Go.RowKit

/-- A text cut at the first byte c. -/
def cutC (c : UInt8) : List UInt8 → List UInt8 × List UInt8 × Bool
  | [] => ([], [], false)
  | b :: l => if b = c then ([], l, true) else (b :: (cutC c l).1, (cutC c l).2)
theorem index_one (c : UInt8) : ∀ s : List UInt8, -1 ≤ Lib.index s [c] ∧ Lib.cut s [c] = cutC c s
  | [] => by simp [Lib.index, Lib.cut, cutC]
  | b :: l => by
    obtain ⟨h1, h2⟩ := index_one c l
    by_cases e : b = c
    · subst e
      simp [Lib.index, Lib.cut, cutC]
    · have hp : List.isPrefixOf [c] (b :: l) = false := by
        simp [List.isPrefixOf]
        exact fun h => e h.symm
      have hi : Lib.index (b :: l) [c] = if Lib.index l [c] == -1 then -1 else Lib.index l [c] + 1 := by
        simp [Lib.index, hp]
      have hc : cutC c (b :: l) = (b :: (cutC c l).1, (cutC c l).2) := by simp [cutC, e]
      rw [hc, ← h2]
      unfold Lib.cut
      rw [hi]
      by_cases h0 : Lib.index l [c] = -1
      · rw [h0]
        simp
      · have h3 : 0 ≤ Lib.index l [c] := by omega
        have h4 : (Lib.index l [c] == -1) = false := by simpa using h0
        rw [h4]
        simp only [Bool.false_eq_true, if_false]
        rw [if_pos h3, if_pos (by omega)]
        refine ⟨by omega, ?_⟩
        rw [show (Lib.index l [c] + 1).toNat = (Lib.index l [c]).toNat + 1 by omega]
        simp
theorem cut_one (c : UInt8) (s : List UInt8) : Lib.cut s [c] = cutC c s := (index_one c s).2
theorem cutC_at {c : UInt8} : ∀ {x : List UInt8} (y : List UInt8), c ∉ x → cutC c (x ++ c :: y) = (x, y, true)
  | [], y, _ => by simp [cutC]
  | b :: x, y, h => by
    have h1 : b ≠ c := fun e => h (by simp [e])
    have h2 : c ∉ x := fun e => h (by simp [e])
    rw [List.cons_append, cutC, if_neg h1, cutC_at y h2]
theorem cutC_no {c : UInt8} : ∀ {x : List UInt8}, c ∉ x → cutC c x = (x, [], false)
  | [], _ => rfl
  | b :: x, h => by
    have h1 : b ≠ c := fun e => h (by simp [e])
    have h2 : c ∉ x := fun e => h (by simp [e])
    rw [cutC, if_neg h1, cutC_no h2]
theorem cutC_inv (c : UInt8) : ∀ s : List UInt8, c ∉ (cutC c s).1 ∧ s = if (cutC c s).2.2 = true then (cutC c s).1 ++ c :: (cutC c s).2.1 else (cutC c s).1
  | [] => by simp [cutC]
  | b :: l => by
    obtain ⟨h1, h2⟩ := cutC_inv c l
    by_cases e : b = c
    · subst e
      simp [cutC]
    · rw [cutC, if_neg e]
      refine ⟨fun h => ?_, ?_⟩
      · rcases List.mem_cons.1 h with h | h
        · exact e h.symm
        · exact h1 h
      · simp only
        split
        · rename_i hb
          rw [if_pos hb] at h2
          rw [List.cons_append, ← h2]
        · rename_i hb
          rw [if_neg hb] at h2
          rw [← h2]
theorem cutC_len (c : UInt8) (s : List UInt8) : (cutC c s).1.length ≤ s.length ∧ (cutC c s).2.1.length ≤ s.length := by
  induction s with
  | nil => simp [cutC]
  | cons b l ih =>
    rw [cutC]
    split
    · simp
    · simp
      omega
theorem cutC_rest {c : UInt8} {s : List UInt8} (h : (cutC c s).2.2 = true) : (cutC c s).2.1.length < s.length := by
  have := (cutC_inv c s).2
  rw [if_pos h] at this
  have h2 := congrArg List.length this
  simp at h2
  omega

/-- The place of a byte among the digits of hexadecimals. -/
def hexI (c : UInt8) : Int := if 48 ≤ c.toNat ∧ c.toNat ≤ 57 then (c.toNat : Int) - 48 else if 97 ≤ c.toNat ∧ c.toNat ≤ 102 then (c.toNat : Int) - 87 else -1
def byteOf (a b : UInt8) : UInt8 := UInt8.ofNat (16 * (hexI a).toNat + (hexI b).toNat)
theorem u8_all {p : UInt8 → Prop} (h : ∀ n : Fin 256, p (UInt8.ofNat n)) (c : UInt8) : p c := by
  have h1 : c.toNat < 256 := c.toNat_lt
  have h2 := h ⟨c.toNat, h1⟩
  simpa using h2
theorem hexI_lt (c : UInt8) : -1 ≤ hexI c ∧ hexI c < 16 := by
  unfold hexI
  split
  · omega
  · split
    · omega
    · omega
theorem hexI_hexD : ∀ k : Nat, k < 16 → hexI (hexD k) = k := by decide
theorem hexD_hexI (c : UInt8) : 0 ≤ hexI c → hexD (hexI c).toNat = c := by
  refine u8_all (p := fun c => 0 ≤ hexI c → hexD (hexI c).toNat = c) ?_ c
  decide +kernel
theorem byteOf_enc (c : UInt8) : byteOf (hexD (c.toNat / 16)) (hexD (c.toNat % 16)) = c := by
  have h1 : c.toNat < 256 := c.toNat_lt
  unfold byteOf
  rw [hexI_hexD _ (by omega), hexI_hexD _ (by omega)]
  simp only [Int.toNat_natCast]
  rw [show 16 * (c.toNat / 16) + c.toNat % 16 = c.toNat by omega]
  simp
theorem enc_byteOf {a b : UInt8} (ha : 0 ≤ hexI a) (hb : 0 ≤ hexI b) (hp : plainC (byteOf a b) = false) : enc (byteOf a b) = [92, a, b] := by
  have h1 := hexI_lt a
  have h2 := hexI_lt b
  have e : (byteOf a b).toNat = 16 * (hexI a).toNat + (hexI b).toNat := by
    unfold byteOf
    rw [UInt8.toNat_ofNat']
    omega
  unfold enc hex2
  rw [if_neg (by rw [hp]; simp), e]
  rw [show (16 * (hexI a).toNat + (hexI b).toNat) / 16 = (hexI a).toNat by omega, show (16 * (hexI a).toNat + (hexI b).toNat) % 16 = (hexI b).toNat by omega, hexD_hexI a ha, hexD_hexI b hb]

def unqH : List UInt8 → Option (UInt8 × List UInt8)
  | a :: b :: r => if 0 ≤ hexI a ∧ 0 ≤ hexI b ∧ plainC (byteOf a b) = false then some (byteOf a b, r) else none
  | _ => none
/-- One byte of what stands in quotes, and what stands behind it. -/
def unq1 : List UInt8 → Option (UInt8 × List UInt8)
  | [] => none
  | c :: r => if plainC c = true then some (c, r) else if c = 92 then unqH r else none
theorem unq1_some {x : List UInt8} {c : UInt8} {r : List UInt8} (h : unq1 x = some (c, r)) : x = enc c ++ r := by
  cases x with
  | nil => simp [unq1] at h
  | cons b l =>
    rw [unq1] at h
    split at h
    · rename_i hp
      simp at h
      obtain ⟨rfl, rfl⟩ := h
      simp [enc, hp]
    · split at h
      · rename_i h92
        subst h92
        match l, h with
        | p :: q :: r', h =>
          rw [unqH] at h
          split at h
          · rename_i hc
            simp at h
            obtain ⟨rfl, rfl⟩ := h
            rw [enc_byteOf hc.1 hc.2.1 hc.2.2]
            rfl
          · cases h
        | [p], h => cases h
        | [], h => cases h
      · cases h
theorem plain_not92 {c : UInt8} (h : plainC c = true) : c ≠ 92 := by
  intro e
  subst e
  revert h
  decide
theorem unq1_enc (c : UInt8) (r : List UInt8) : unq1 (enc c ++ r) = some (c, r) := by
  by_cases hp : plainC c = true
  · simp [enc, hp, unq1]
  · have hp' : plainC c = false := by simpa using hp
    have h1 : c.toNat < 256 := c.toNat_lt
    have e : enc c = [92, hexD (c.toNat / 16), hexD (c.toNat % 16)] := by simp [enc, hp', hex2]
    have h92 : plainC 92 = false := by decide
    rw [e]
    show unq1 (92 :: hexD (c.toNat / 16) :: hexD (c.toNat % 16) :: r) = _
    rw [unq1, if_neg (by rw [h92]; simp), if_pos rfl, unqH, if_pos, byteOf_enc]
    refine ⟨?_, ?_, ?_⟩
    · rw [hexI_hexD _ (by omega)]; omega
    · rw [hexI_hexD _ (by omega)]; omega
    · rw [byteOf_enc]; exact hp'
/-- What was read of the first k bytes: a text in quotes reads as t. -/
theorem enc_pos (c : UInt8) : 1 ≤ (enc c).length := by
  unfold enc
  split
  · simp
  · simp
/-- The texts whose quoting is x: at most one. -/
theorem flat_enc_inj : ∀ {t u : List UInt8}, t.flatMap enc = u.flatMap enc → t = u
  | [], [], _ => rfl
  | [], c :: u, h => by
    have h1 : 0 = (enc c ++ u.flatMap enc).length := congrArg List.length h
    have h2 := enc_pos c
    rw [List.length_append] at h1
    omega
  | c :: t, [], h => by
    have h1 : (enc c ++ t.flatMap enc).length = 0 := congrArg List.length h
    have h2 := enc_pos c
    rw [List.length_append] at h1
    omega
  | c :: t, d :: u, h => by
    rw [List.flatMap_cons, List.flatMap_cons] at h
    have h1 := unq1_enc c (t.flatMap enc)
    rw [h, unq1_enc] at h1
    simp at h1
    rw [h1.1, flat_enc_inj h1.2.symm]
theorem quoteB_eq (l : List UInt8) : quoteB l = 34 :: l.flatMap enc ++ [34] := by simp [quoteB, qTo]

end Go.Proofs.YtpefignfaooonaaGreatDoor.Vp
