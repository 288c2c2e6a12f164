/-
  Put together of: PaPure, PaLine, PaNum, PaCand.
-/
import Derived.Test.YtkbhcajiebeepaaGreatDoorZK
import Derived.Lib.IndexMore
import Derived.Lib.AtoiAll

/-
  ParseProgram: what is read, as functions over lists of bytes.
-/
namespace Go.Proofs.YtkbhcajiebeepaaGreatDoor.Vp
open Go.RowKit

/-- A text cut at the first byte c. -/
def cutC (c : UInt8) : List UInt8 → List UInt8 × List UInt8 × Bool
  | [] => ([], [], false)
  | b :: l => if b = c then ([], l, true) else (b :: (cutC c l).1, (cutC c l).2)
theorem index_one (c : UInt8) : ∀ s : List UInt8, -1 ≤ Lib.index s [c] ∧ Lib.cut s [c] = cutC c s
  | [] => by simp [Lib.index, Lib.cut, cutC]
  | b :: l => by
    obtain ⟨h1, h2⟩ := index_one c l
    by_cases e : b = c
    · subst e
      simp [Lib.index, Lib.cut, cutC]
    · have hp : List.isPrefixOf [c] (b :: l) = false := by
        simp [List.isPrefixOf]
        exact fun h => e h.symm
      have hi : Lib.index (b :: l) [c] = if Lib.index l [c] == -1 then -1 else Lib.index l [c] + 1 := by
        simp [Lib.index, hp]
      have hc : cutC c (b :: l) = (b :: (cutC c l).1, (cutC c l).2) := by simp [cutC, e]
      rw [hc, ← h2]
      unfold Lib.cut
      rw [hi]
      by_cases h0 : Lib.index l [c] = -1
      · rw [h0]
        simp
      · have h3 : 0 ≤ Lib.index l [c] := by omega
        have h4 : (Lib.index l [c] == -1) = false := by simpa using h0
        rw [h4]
        simp only [Bool.false_eq_true, if_false]
        rw [if_pos h3, if_pos (by omega)]
        refine ⟨by omega, ?_⟩
        rw [show (Lib.index l [c] + 1).toNat = (Lib.index l [c]).toNat + 1 by omega]
        simp
theorem cut_one (c : UInt8) (s : List UInt8) : Lib.cut s [c] = cutC c s := (index_one c s).2
theorem cutC_at {c : UInt8} : ∀ {x : List UInt8} (y : List UInt8), c ∉ x → cutC c (x ++ c :: y) = (x, y, true)
  | [], y, _ => by simp [cutC]
  | b :: x, y, h => by
    have h1 : b ≠ c := fun e => h (by simp [e])
    have h2 : c ∉ x := fun e => h (by simp [e])
    rw [List.cons_append, cutC, if_neg h1, cutC_at y h2]
theorem cutC_no {c : UInt8} : ∀ {x : List UInt8}, c ∉ x → cutC c x = (x, [], false)
  | [], _ => rfl
  | b :: x, h => by
    have h1 : b ≠ c := fun e => h (by simp [e])
    have h2 : c ∉ x := fun e => h (by simp [e])
    rw [cutC, if_neg h1, cutC_no h2]
theorem cutC_inv (c : UInt8) : ∀ s : List UInt8, c ∉ (cutC c s).1 ∧ s = if (cutC c s).2.2 = true then (cutC c s).1 ++ c :: (cutC c s).2.1 else (cutC c s).1
  | [] => by simp [cutC]
  | b :: l => by
    obtain ⟨h1, h2⟩ := cutC_inv c l
    by_cases e : b = c
    · subst e
      simp [cutC]
    · rw [cutC, if_neg e]
      refine ⟨fun h => ?_, ?_⟩
      · rcases List.mem_cons.1 h with h | h
        · exact e h.symm
        · exact h1 h
      · simp only
        split
        · rename_i hb
          rw [if_pos hb] at h2
          rw [List.cons_append, ← h2]
        · rename_i hb
          rw [if_neg hb] at h2
          rw [← h2]
theorem cutC_len (c : UInt8) (s : List UInt8) : (cutC c s).1.length ≤ s.length ∧ (cutC c s).2.1.length ≤ s.length := by
  induction s with
  | nil => simp [cutC]
  | cons b l ih =>
    rw [cutC]
    split
    · simp
    · simp
      omega
theorem cutC_rest {c : UInt8} {s : List UInt8} (h : (cutC c s).2.2 = true) : (cutC c s).2.1.length < s.length := by
  have := (cutC_inv c s).2
  rw [if_pos h] at this
  have h2 := congrArg List.length this
  simp at h2
  omega

/-- The place of a byte among the digits of hexadecimals. -/
def hexI (c : UInt8) : Int := if 48 ≤ c.toNat ∧ c.toNat ≤ 57 then (c.toNat : Int) - 48 else if 97 ≤ c.toNat ∧ c.toNat ≤ 102 then (c.toNat : Int) - 87 else -1
def byteOf (a b : UInt8) : UInt8 := UInt8.ofNat (16 * (hexI a).toNat + (hexI b).toNat)
theorem u8_all {p : UInt8 → Prop} (h : ∀ n : Fin 256, p (UInt8.ofNat n)) (c : UInt8) : p c := by
  have h1 : c.toNat < 256 := c.toNat_lt
  have h2 := h ⟨c.toNat, h1⟩
  simpa using h2
theorem hexI_lt (c : UInt8) : -1 ≤ hexI c ∧ hexI c < 16 := by
  unfold hexI
  split
  · omega
  · split
    · omega
    · omega
theorem hexI_hexD : ∀ k : Nat, k < 16 → hexI (hexD k) = k := by decide
theorem hexD_hexI (c : UInt8) : 0 ≤ hexI c → hexD (hexI c).toNat = c := by
  refine u8_all (p := fun c => 0 ≤ hexI c → hexD (hexI c).toNat = c) ?_ c
  decide +kernel
theorem byteOf_enc (c : UInt8) : byteOf (hexD (c.toNat / 16)) (hexD (c.toNat % 16)) = c := by
  have h1 : c.toNat < 256 := c.toNat_lt
  unfold byteOf
  rw [hexI_hexD _ (by omega), hexI_hexD _ (by omega)]
  simp only [Int.toNat_natCast]
  rw [show 16 * (c.toNat / 16) + c.toNat % 16 = c.toNat by omega]
  simp
theorem enc_byteOf {a b : UInt8} (ha : 0 ≤ hexI a) (hb : 0 ≤ hexI b) (hp : plainC (byteOf a b) = false) : enc (byteOf a b) = [92, a, b] := by
  have h1 := hexI_lt a
  have h2 := hexI_lt b
  have e : (byteOf a b).toNat = 16 * (hexI a).toNat + (hexI b).toNat := by
    unfold byteOf
    rw [UInt8.toNat_ofNat']
    omega
  unfold enc hex2
  rw [if_neg (by rw [hp]; simp), e]
  rw [show (16 * (hexI a).toNat + (hexI b).toNat) / 16 = (hexI a).toNat by omega, show (16 * (hexI a).toNat + (hexI b).toNat) % 16 = (hexI b).toNat by omega, hexD_hexI a ha, hexD_hexI b hb]

def unqH : List UInt8 → Option (UInt8 × List UInt8)
  | a :: b :: r => if 0 ≤ hexI a ∧ 0 ≤ hexI b ∧ plainC (byteOf a b) = false then some (byteOf a b, r) else none
  | _ => none
/-- One byte of what stands in quotes, and what stands behind it. -/
def unq1 : List UInt8 → Option (UInt8 × List UInt8)
  | [] => none
  | c :: r => if plainC c = true then some (c, r) else if c = 92 then unqH r else none
theorem unq1_some {x : List UInt8} {c : UInt8} {r : List UInt8} (h : unq1 x = some (c, r)) : x = enc c ++ r := by
  cases x with
  | nil => simp [unq1] at h
  | cons b l =>
    rw [unq1] at h
    split at h
    · rename_i hp
      simp at h
      obtain ⟨rfl, rfl⟩ := h
      simp [enc, hp]
    · split at h
      · rename_i h92
        subst h92
        match l, h with
        | p :: q :: r', h =>
          rw [unqH] at h
          split at h
          · rename_i hc
            simp at h
            obtain ⟨rfl, rfl⟩ := h
            rw [enc_byteOf hc.1 hc.2.1 hc.2.2]
            rfl
          · cases h
        | [p], h => cases h
        | [], h => cases h
      · cases h
theorem plain_not92 {c : UInt8} (h : plainC c = true) : c ≠ 92 := by
  intro e
  subst e
  revert h
  decide
theorem unq1_enc (c : UInt8) (r : List UInt8) : unq1 (enc c ++ r) = some (c, r) := by
  by_cases hp : plainC c = true
  · simp [enc, hp, unq1]
  · have hp' : plainC c = false := by simpa using hp
    have h1 : c.toNat < 256 := c.toNat_lt
    have e : enc c = [92, hexD (c.toNat / 16), hexD (c.toNat % 16)] := by simp [enc, hp', hex2]
    have h92 : plainC 92 = false := by decide
    rw [e]
    show unq1 (92 :: hexD (c.toNat / 16) :: hexD (c.toNat % 16) :: r) = _
    rw [unq1, if_neg (by rw [h92]; simp), if_pos rfl, unqH, if_pos, byteOf_enc]
    refine ⟨?_, ?_, ?_⟩
    · rw [hexI_hexD _ (by omega)]; omega
    · rw [hexI_hexD _ (by omega)]; omega
    · rw [byteOf_enc]; exact hp'
/-- What was read of the first k bytes: a text in quotes reads as t. -/
theorem enc_pos (c : UInt8) : 1 ≤ (enc c).length := by
  unfold enc
  split
  · simp
  · simp
/-- The texts whose quoting is x: at most one. -/
theorem flat_enc_inj : ∀ {t u : List UInt8}, t.flatMap enc = u.flatMap enc → t = u
  | [], [], _ => rfl
  | [], c :: u, h => by
    have h1 : 0 = (enc c ++ u.flatMap enc).length := congrArg List.length h
    have h2 := enc_pos c
    rw [List.length_append] at h1
    omega
  | c :: t, [], h => by
    have h1 : (enc c ++ t.flatMap enc).length = 0 := congrArg List.length h
    have h2 := enc_pos c
    rw [List.length_append] at h1
    omega
  | c :: t, d :: u, h => by
    rw [List.flatMap_cons, List.flatMap_cons] at h
    have h1 := unq1_enc c (t.flatMap enc)
    rw [h, unq1_enc] at h1
    simp at h1
    rw [h1.1, flat_enc_inj h1.2.symm]
theorem quoteB_eq (l : List UInt8) : quoteB l = 34 :: l.flatMap enc ++ [34] := by simp [quoteB, qTo]

end Go.Proofs.YtkbhcajiebeepaaGreatDoor.Vp

/-
  ParseProgram: the line of an instruction, read.
-/
namespace Go.Proofs.YtkbhcajiebeepaaGreatDoor.Vp
open Go.RowKit

/-- The instruction of a word. -/
def opF (w : List UInt8) : Int :=
  if w = word 1 then 1 else if w = word 2 then 2 else if w = word 3 then 3 else if w = word 4 then 4 else if w = word 5 then 5 else if w = word 6 then 6 else if w = word 7 then 7 else if w = word 8 then 8 else if w = word 9 then 9 else if w = word 10 then 10 else if w = word 11 then 11 else if w = word 12 then 12 else if w = word 13 then 13 else if w = word 14 then 14 else if w = word 15 then 15 else 0
theorem op_cases {k : Int} (h : 1 ≤ k ∧ k ≤ 15) : k = 1 ∨ k = 2 ∨ k = 3 ∨ k = 4 ∨ k = 5 ∨ k = 6 ∨ k = 7 ∨ k = 8 ∨ k = 9 ∨ k = 10 ∨ k = 11 ∨ k = 12 ∨ k = 13 ∨ k = 14 ∨ k = 15 := by omega
theorem opF_word {k : Int} (h : 1 ≤ k ∧ k ≤ 15) : opF (word k) = k := by
  rcases op_cases h with rfl | rfl | rfl | rfl | rfl | rfl | rfl | rfl | rfl | rfl | rfl | rfl | rfl | rfl | rfl <;> decide
theorem opF_inv (w : List UInt8) : opF w = 0 ∧ (∀ k, 1 ≤ k → k ≤ 15 → w ≠ word k) ∨ (1 ≤ opF w ∧ opF w ≤ 15 ∧ w = word (opF w)) := by
  by_cases h : ∃ k, 1 ≤ k ∧ k ≤ 15 ∧ w = word k
  · obtain ⟨k, h1, h2, rfl⟩ := h
    rw [opF_word ⟨h1, h2⟩]
    exact .inr ⟨h1, h2, rfl⟩
  · have h' : ∀ k, 1 ≤ k → k ≤ 15 → w ≠ word k := fun k h1 h2 e => h ⟨k, h1, h2, e⟩
    refine .inl ⟨?_, h'⟩
    unfold opF
    rw [if_neg (h' 1 (by omega) (by omega)), if_neg (h' 2 (by omega) (by omega)), if_neg (h' 3 (by omega) (by omega)), if_neg (h' 4 (by omega) (by omega)), if_neg (h' 5 (by omega) (by omega)), if_neg (h' 6 (by omega) (by omega)), if_neg (h' 7 (by omega) (by omega)), if_neg (h' 8 (by omega) (by omega)), if_neg (h' 9 (by omega) (by omega)), if_neg (h' 10 (by omega) (by omega)), if_neg (h' 11 (by omega) (by omega)), if_neg (h' 12 (by omega) (by omega)), if_neg (h' 13 (by omega) (by omega)), if_neg (h' 14 (by omega) (by omega)), if_neg (h' 15 (by omega) (by omega))]
theorem word_plain {k : Int} (h : 1 ≤ k ∧ k ≤ 15) : (32 : UInt8) ∉ word k := by
  rcases op_cases h with rfl | rfl | rfl | rfl | rfl | rfl | rfl | rfl | rfl | rfl | rfl | rfl | rfl | rfl | rfl <;> decide
theorem kind_text {k : Int} (h : 1 ≤ k ∧ k ≤ 15) : (kind k = 1 ↔ 0 < mostText k) ∧ (kind k = 0 ↔ ¬ 0 < mostText k ∧ ¬ 0 < mostN k) := by
  rcases op_cases h with rfl | rfl | rfl | rfl | rfl | rfl | rfl | rfl | rfl | rfl | rfl | rfl | rfl | rfl | rfl <;> decide

/-- The line is that of the instruction, which is right. -/
def IsLine (line : List UInt8) (op : Int) (s : List UInt8) (n : Int) : Prop := insOk op s.length n = true ∧ line = lineB op s n
theorem ins_of {op : Int} {sz : Nat} {n : Int} (h : insOk op sz n = true) : (1 ≤ op ∧ op ≤ 15) ∧ (sz : Int) ≤ mostText op ∧ 0 ≤ n ∧ n ≤ mostN op := by
  have := of_decide_eq_true h
  exact ⟨⟨this.1, this.2.1⟩, this.2.2.1, this.2.2.2⟩
theorem most_ge (op : Int) : 0 ≤ mostText op ∧ 0 ≤ mostN op := by
  unfold mostText mostN
  constructor
  · split <;> omega
  · split
    · omega
    · split <;> omega
theorem itoa_ne (n : Int) : Lib.itoa n ≠ [] := by
  unfold Lib.itoa
  split
  · simp
  · rw [Lib.decDigits]
    split <;> simp
theorem isLine_iff {line : List UInt8} {op : Int} {s : List UInt8} {n : Int} : IsLine line op s n ↔
    opF (cutC 32 line).1 = op ∧ insOk op s.length n = true ∧ (if kind op = 1 then (cutC 32 line).2.1 = quoteB s else if kind op = 0 then (cutC 32 line).2.2 = false else (cutC 32 line).2.1 = Lib.itoa n) := by
  constructor
  · rintro ⟨h, rfl⟩
    obtain ⟨h1, h2, h3, h4⟩ := ins_of h
    have hw := word_plain h1
    by_cases k1 : kind op = 1
    · have e : cutC 32 (lineB op s n) = (word op, quoteB s, true) := by
        unfold lineB
        rw [if_pos k1, cutC_at _ hw]
      rw [e, if_pos k1]
      exact ⟨opF_word h1, h, rfl⟩
    · by_cases k0 : kind op = 0
      · have e : cutC 32 (lineB op s n) = (word op, [], false) := by
          unfold lineB
          rw [if_neg k1, if_pos k0, cutC_no hw]
        rw [e, if_neg k1, if_pos k0]
        exact ⟨opF_word h1, h, rfl⟩
      · have e : cutC 32 (lineB op s n) = (word op, Lib.decDigits n.toNat, true) := by
          unfold lineB
          rw [if_neg k1, if_neg k0, cutC_at _ hw]
        rw [e, if_neg k1, if_neg k0]
        refine ⟨opF_word h1, h, ?_⟩
        unfold Lib.itoa
        rw [if_neg (by omega)]
  · rintro ⟨h0, h, hc⟩
    obtain ⟨h1, h2, h3, h4⟩ := ins_of h
    refine ⟨h, ?_⟩
    have hi := (cutC_inv 32 line).2
    have hw : (cutC 32 line).1 = word op := by
      rcases opF_inv (cutC 32 line).1 with ⟨h5, _⟩ | ⟨_, _, h5⟩
      · omega
      · rw [h0] at h5; exact h5
    have hsp : (cutC 32 line).2.1 ≠ [] → (cutC 32 line).2.2 = true := fun hne => by
      cases e : (cutC 32 line).2.2 with
      | true => rfl
      | false =>
        rw [e] at hi
        simp only [Bool.false_eq_true, if_false] at hi
        have h6 := (cutC_inv 32 line).1
        rw [← hi] at h6
        rw [cutC_no h6] at hne
        exact absurd rfl hne
    unfold lineB
    by_cases k1 : kind op = 1
    · rw [if_pos k1] at hc ⊢
      rw [hsp (by rw [hc, quoteB_eq]; simp), if_pos rfl, hw, hc] at hi
      exact hi
    · rw [if_neg k1] at hc ⊢
      by_cases k0 : kind op = 0
      · rw [if_pos k0] at hc ⊢
        rw [hc] at hi
        simp only [Bool.false_eq_true, if_false] at hi
        rw [hi]
        exact hw
      · rw [if_neg k0] at hc ⊢
        rw [hsp (by rw [hc]; exact itoa_ne n), if_pos rfl, hw, hc] at hi
        rw [hi]
        unfold Lib.itoa
        rw [if_neg (by omega)]
theorem decDigits_pos (n : Nat) : Lib.decDigits n ≠ [] := by
  rw [Lib.decDigits]
  split <;> simp
theorem decDigits_inj : ∀ (n m : Nat), Lib.decDigits n = Lib.decDigits m → n = m := by
  intro n
  induction n using Nat.strongRecOn with
  | ind n ih =>
    intro m h
    by_cases h1 : n < 10
    · by_cases h2 : m < 10
      · rw [Lib.decDigits, dif_pos h1, Lib.decDigits, dif_pos h2] at h
        have := congrArg (fun l => (l.headD 0).toNat) h
        simp at this
        omega
      · rw [Lib.decDigits, dif_pos h1, decDigits_snoc h2] at h
        have h3 := congrArg List.length h
        have h4 := List.length_pos_iff.2 (decDigits_pos (m / 10))
        simp only [List.length_append, List.length_cons, List.length_nil] at h3
        omega
    · by_cases h2 : m < 10
      · rw [decDigits_snoc h1] at h
        rw [Lib.decDigits.eq_1 m, dif_pos h2] at h
        have h3 := congrArg List.length h
        have h4 := List.length_pos_iff.2 (decDigits_pos (n / 10))
        simp only [List.length_append, List.length_cons, List.length_nil] at h3
        omega
      · rw [decDigits_snoc h1, decDigits_snoc h2] at h
        obtain ⟨h3, h4⟩ := List.append_inj' h rfl
        have h5 := ih (n / 10) (by omega) _ h3
        have h6 := congrArg (fun l => (l.headD 0).toNat) h4
        simp [dig] at h6
        omega
theorem isLine_one {line : List UInt8} {op op' : Int} {s s' : List UInt8} {n n' : Int} (h : IsLine line op s n) (h' : IsLine line op' s' n') : op = op' ∧ s = s' ∧ n = n' := by
  obtain ⟨a1, a2, a3⟩ := isLine_iff.1 h
  obtain ⟨b1, b2, b3⟩ := isLine_iff.1 h'
  have e : op = op' := a1.symm.trans b1
  subst e
  obtain ⟨c1, c2, c3, c4⟩ := ins_of a2
  obtain ⟨d1, d2, d3, d4⟩ := ins_of b2
  refine ⟨rfl, ?_⟩
  have hk : kind op ≠ 1 → s = [] ∧ s' = [] := fun hk => by
    have h0 : mostText op = 0 := by
      have := (most_ge op).1
      have h1 := (kind_text c1).1
      rcases Int.lt_or_le 0 (mostText op) with h2 | h2
      · exact absurd (h1.2 h2) hk
      · omega
    exact ⟨List.length_eq_zero_iff.1 (by omega), List.length_eq_zero_iff.1 (by omega)⟩
  by_cases k1 : kind op = 1
  · rw [if_pos k1] at a3 b3
    have hn : mostN op = 0 := by
      unfold kind at k1
      split at k1 <;> first | omega | rfl
    rw [a3, quoteB_eq, quoteB_eq] at b3
    have b4 := List.append_inj_left' (List.cons.inj b3).2 rfl
    exact ⟨flat_enc_inj b4, by omega⟩
  · obtain ⟨rfl, rfl⟩ := hk k1
    refine ⟨rfl, ?_⟩
    rw [if_neg k1] at a3 b3
    by_cases k0 : kind op = 0
    · have := ((kind_text c1).2.1 k0).2
      omega
    · rw [if_neg k0] at a3 b3
      rw [a3] at b3
      unfold Lib.itoa at b3
      rw [if_neg (by omega), if_neg (by omega)] at b3
      have := decDigits_inj _ _ b3
      omega

end Go.Proofs.YtkbhcajiebeepaaGreatDoor.Vp

/-
  ParseProgram: numbers and lines, pure.
-/
namespace Go.Proofs.YtkbhcajiebeepaaGreatDoor.Vp
open Go.RowKit

theorem parse_app : ∀ (l : List UInt8) (acc : Nat) (r : List UInt8), Lib.parseUint10 acc (l ++ r) = match Lib.parseUint10 acc l with | .ok u => Lib.parseUint10 u r | .syntax => .syntax | .range => .range
  | [], acc, r => by simp [Lib.parseUint10]
  | c :: l, acc, r => by
    rw [List.cons_append, Lib.parseUint10, Lib.parseUint10]
    split
    · split
      · rfl
      · split
        · rfl
        · exact parse_app l _ r
    · rfl
theorem parse_dec : ∀ n : Nat, n < 18446744073709551616 → Lib.parseUint10 0 (Lib.decDigits n) = .ok n := by
  intro n
  induction n using Nat.strongRecOn with
  | ind n ih =>
    intro hn
    by_cases h1 : n < 10
    · rw [Lib.decDigits, dif_pos h1, Lib.parseUint10]
      have e : (UInt8.ofNat (48 + n)).toNat = 48 + n := by rw [UInt8.toNat_ofNat']; omega
      rw [e, if_pos (by omega), if_neg (by omega), if_neg (by omega), Lib.parseUint10]
      congr 1
      omega
    · have e : (dig (n % 10)).toNat = 48 + n % 10 := by unfold dig; rw [UInt8.toNat_ofNat']; omega
      rw [decDigits_snoc h1, parse_app, ih (n / 10) (by omega) (by omega)]
      simp only
      rw [Lib.parseUint10, e, if_pos (by omega), if_neg (by omega), if_neg (by omega), Lib.parseUint10]
      congr 1
      omega
theorem dec_head (n : Nat) : ∃ c r, Lib.decDigits n = c :: r ∧ 48 ≤ c.toNat ∧ c.toNat ≤ 57 := by
  induction n using Nat.strongRecOn with
  | ind n ih =>
    by_cases h1 : n < 10
    · refine ⟨UInt8.ofNat (48 + n), [], ?_, ?_⟩
      · rw [Lib.decDigits, dif_pos h1]
      · rw [UInt8.toNat_ofNat']
        omega
    · obtain ⟨c, r, h2, h3⟩ := ih (n / 10) (by omega)
      exact ⟨c, r ++ [dig (n % 10)], by rw [decDigits_snoc h1, h2]; rfl, h3⟩
theorem atoi_itoa (n : Int) (h1 : -9223372036854775808 ≤ n) (h2 : n ≤ 9223372036854775807) : Lib.atoiAll (Lib.itoa n) = .ok n := by
  unfold Lib.itoa
  by_cases h : n < 0
  · rw [if_pos h]
    have e : Lib.atoiAll (45 :: Lib.decDigits n.natAbs) = .ok (-(n.natAbs : Int)) := by
      unfold Lib.atoiAll
      simp only
      rw [if_pos (by decide), Lib.parseMag, if_neg (decDigits_pos _), parse_dec _ (by omega)]
      simp only
      rw [if_neg (by rintro ⟨h3, -⟩; exact h3 (by decide)), if_neg (by rintro ⟨-, h3⟩; omega), if_pos (by decide)]
    rw [e]
    congr 1
    omega
  · rw [if_neg h]
    obtain ⟨c, r, e, h3, h4⟩ := dec_head n.toNat
    have hp := parse_dec n.toNat (by omega)
    rw [e] at hp ⊢
    unfold Lib.atoiAll
    simp only
    rw [if_neg (by omega), Lib.parseMag, if_neg (by simp), hp]
    simp only
    rw [if_neg (by rintro ⟨-, h5⟩; omega), if_neg (by rintro ⟨h5, -⟩; omega), if_neg (by omega)]
    congr 1
    omega
/-- The decimals of ints. -/
def IsNum (s : List UInt8) (n : Int) : Prop := s = Lib.itoa n ∧ -9223372036854775808 ≤ n ∧ n ≤ 9223372036854775807
theorem isNum_ok {s : List UInt8} {n : Int} (h : IsNum s n) : Lib.atoiAll s = .ok n := by
  rw [h.1]
  exact atoi_itoa n h.2.1 h.2.2

/-- A number read loosely. -/
def numL (acc : Int) : List UInt8 → Int
  | [] => acc
  | c :: r => numL (acc * 10 + (c.toNat : Int) - 48) r
theorem numL_app : ∀ (l : List UInt8) (acc : Int) (r : List UInt8), numL acc (l ++ r) = numL (numL acc l) r
  | [], acc, r => rfl
  | c :: l, acc, r => by rw [List.cons_append, numL, numL, numL_app l]
theorem numL_dec (n : Nat) : numL 0 (Lib.decDigits n) = n := by
  induction n using Nat.strongRecOn with
  | ind n ih =>
    by_cases h1 : n < 10
    · rw [Lib.decDigits, dif_pos h1, numL, numL, UInt8.toNat_ofNat']
      omega
    · have e : (dig (n % 10)).toNat = 48 + n % 10 := by unfold dig; rw [UInt8.toNat_ofNat']; omega
      rw [decDigits_snoc h1, numL_app, ih (n / 10) (by omega), numL, numL, e]
      omega
theorem dec_len6 (n : Nat) (h : n ≤ 2000) : (Lib.decDigits n).length ≤ 6 := by
  by_cases h1 : n < 10
  · rw [Lib.decDigits, dif_pos h1]; simp
  · rw [decDigits_snoc h1]
    by_cases h2 : n / 10 < 10
    · rw [Lib.decDigits, dif_pos h2]; simp
    · rw [decDigits_snoc h2]
      by_cases h3 : n / 10 / 10 < 10
      · rw [Lib.decDigits, dif_pos h3]; simp
      · rw [decDigits_snoc h3]
        rw [Lib.decDigits, dif_pos (by omega)]
        simp
theorem numL6 (n : Nat) (h : n ≤ 2000) : numL 0 ((Lib.decDigits n).take 6) = n := by
  rw [List.take_of_length_le (dec_len6 n h), numL_dec]

/-- What stands in quotes, read loosely. -/
def loosU : List UInt8 → List UInt8
  | [] => []
  | [c] => [c]
  | [c, d] => [c, d]
  | c :: a :: b :: r => if c = 92 ∧ 0 ≤ hexI a ∧ 0 ≤ hexI b then byteOf a b :: loosU r else c :: loosU (a :: b :: r)
theorem loosU_plain {c : UInt8} (h : c ≠ 92) : ∀ r : List UInt8, loosU (c :: r) = c :: loosU r
  | [] => by simp [loosU]
  | [a] => by simp [loosU]
  | a :: b :: r => by rw [loosU, if_neg (fun h' => h h'.1)]
theorem loosU_enc : ∀ t : List UInt8, loosU (t.flatMap enc) = t
  | [] => by simp [loosU]
  | c :: t => by
    rw [List.flatMap_cons]
    by_cases hp : plainC c = true
    · have e : enc c = [c] := by simp [enc, hp]
      rw [e, List.singleton_append, loosU_plain (plain_not92 hp), loosU_enc t]
    · have hp' : plainC c = false := by simpa using hp
      have h1 : c.toNat < 256 := c.toNat_lt
      have e : enc c = [92, hexD (c.toNat / 16), hexD (c.toNat % 16)] := by simp [enc, hp', hex2]
      rw [e]
      show loosU (92 :: hexD (c.toNat / 16) :: hexD (c.toNat % 16) :: t.flatMap enc) = _
      rw [loosU, if_pos, byteOf_enc, loosU_enc t]
      refine ⟨rfl, ?_, ?_⟩
      · rw [hexI_hexD _ (by omega)]; omega
      · rw [hexI_hexD _ (by omega)]; omega
/-- Without its first byte and its last. -/
def innerL (s : List UInt8) : List UInt8 := (s.drop 1).take (s.length - 2)
theorem innerL_quote (t : List UInt8) : innerL (quoteB t) = t.flatMap enc := by
  rw [quoteB_eq]
  unfold innerL
  simp

/-- The pieces of a text between newlines. -/
def linesL : List UInt8 → List (List UInt8)
  | [] => [[]]
  | c :: r => if c = 10 then [] :: linesL r else match linesL r with | l :: ls => (c :: l) :: ls | [] => [[c]]
theorem linesL_ne (s : List UInt8) : linesL s ≠ [] := by
  cases s with
  | nil => simp [linesL]
  | cons c r =>
    rw [linesL]
    split
    · simp
    · split <;> simp
theorem linesL_no : ∀ {x : List UInt8}, (10 : UInt8) ∉ x → linesL x = [x]
  | [], _ => rfl
  | c :: x, h => by
    have h1 : c ≠ 10 := fun e => h (by simp [e])
    have h2 : (10 : UInt8) ∉ x := fun e => h (by simp [e])
    rw [linesL, if_neg h1, linesL_no h2]
theorem linesL_at : ∀ {x : List UInt8} (y : List UInt8), (10 : UInt8) ∉ x → linesL (x ++ 10 :: y) = x :: linesL y
  | [], y, _ => by simp [linesL]
  | c :: x, y, h => by
    have h1 : c ≠ 10 := fun e => h (by simp [e])
    have h2 : (10 : UInt8) ∉ x := fun e => h (by simp [e])
    rw [List.cons_append, linesL, if_neg h1, linesL_at y h2]
theorem linesL_cut (s : List UInt8) : linesL s = if (cutC 10 s).2.2 = true then (cutC 10 s).1 :: linesL (cutC 10 s).2.1 else [s] := by
  obtain ⟨h1, h2⟩ := cutC_inv 10 s
  cases e : (cutC 10 s).2.2 with
  | true =>
    rw [e, if_pos rfl] at h2
    rw [if_pos rfl]
    exact (congrArg linesL h2).trans (linesL_at _ h1)
  | false =>
    rw [e] at h2
    simp only [Bool.false_eq_true, if_false] at h2 ⊢
    rw [← h2] at h1
    exact linesL_no h1

/-- An instruction. -/
abbrev I3 := Int × List UInt8 × Int
/-- What is read loosely behind a word. -/
def candT (k : Int) (s : List UInt8) : List UInt8 := if kind k = 1 ∧ (word k).length < s.length then loosU (innerL (s.drop ((word k).length + 1))) else []
def candN (k : Int) (s : List UInt8) : Int := if ¬ kind k = 1 ∧ 0 < kind k ∧ (word k).length < s.length then numL 0 ((s.drop ((word k).length + 1)).take 6) else 0
theorem kind_ge (k : Int) : 0 ≤ kind k := by
  unfold kind
  split <;> omega
theorem most_kind {k : Int} (h : 1 ≤ k ∧ k ≤ 15) : (¬ kind k = 1 → mostText k = 0) ∧ (kind k = 1 ∨ kind k = 0 → mostN k = 0) ∧ mostN k ≤ 2000 := by
  rcases op_cases h with rfl | rfl | rfl | rfl | rfl | rfl | rfl | rfl | rfl | rfl | rfl | rfl | rfl | rfl | rfl <;> decide
theorem drop_word (x : List UInt8) (y : List UInt8) : (x ++ (32 :: y)).drop (x.length + 1) = y := by
  rw [List.drop_append]
  simp
theorem cand_of {s : List UInt8} {k : Int} {t : List UInt8} {m : Int} (h : IsLine s k t m) : candT k s = t ∧ candN k s = m := by
  obtain ⟨hi, rfl⟩ := h
  obtain ⟨h1, h2, h3, h4⟩ := ins_of hi
  obtain ⟨m1, m2, m3⟩ := most_kind h1
  by_cases k1 : kind k = 1
  · have e : lineB k t m = word k ++ (32 :: quoteB t) := by unfold lineB; rw [if_pos k1]
    have hl : (word k).length < (lineB k t m).length := by rw [e]; simp
    have := m2 (.inl k1)
    unfold candT candN
    rw [if_pos ⟨k1, hl⟩, if_neg (fun x => x.1 k1), e, drop_word, innerL_quote, loosU_enc]
    exact ⟨rfl, by omega⟩
  · have ht : t = [] := by
      have := m1 k1
      rw [← List.length_eq_zero_iff]
      omega
    unfold candT candN
    rw [if_neg (fun x => k1 x.1)]
    refine ⟨ht.symm, ?_⟩
    by_cases k0 : kind k = 0
    · have := m2 (.inr k0)
      rw [if_neg (fun x => by omega)]
      omega
    · have hp := kind_ge k
      have e : lineB k t m = word k ++ (32 :: Lib.decDigits m.toNat) := by unfold lineB; rw [if_neg k1, if_neg k0]
      have hl : (word k).length < (lineB k t m).length := by rw [e]; simp
      rw [if_pos ⟨k1, by omega, hl⟩, e, drop_word, numL6 m.toNat (by omega)]
      omega
/-- The instruction of a line, if it is one's: the one whose words, read loosely, are the line. -/
def readC (k : Int) (s : List UInt8) : Bool := insOk k (candT k s).length (candN k s) && decide (lineB k (candT k s) (candN k s) = s)
def readTo (s : List UInt8) : Nat → Option I3
  | 0 => none
  | k + 1 => if readC ((k + 1 : Nat) : Int) s = true then some (((k + 1 : Nat) : Int), candT ((k + 1 : Nat) : Int) s, candN ((k + 1 : Nat) : Int) s) else readTo s k
def readL (line : List UInt8) : Option I3 := readTo line 15
theorem readC_is {k : Int} {s : List UInt8} (h : readC k s = true) : IsLine s k (candT k s) (candN k s) := by
  unfold readC at h
  rw [Bool.and_eq_true, decide_eq_true_eq] at h
  exact ⟨h.1, h.2.symm⟩
theorem readTo_is {s : List UInt8} {i : I3} : ∀ {n : Nat}, readTo s n = some i → IsLine s i.1 i.2.1 i.2.2
  | 0, h => by simp [readTo] at h
  | n + 1, h => by
    rw [readTo] at h
    split at h
    · rename_i hc
      obtain rfl := Option.some.inj h
      exact readC_is hc
    · exact readTo_is h
theorem readTo_has {s : List UInt8} {k : Nat} (h0 : 0 < k) (hc : readC (k : Int) s = true) : ∀ {n : Nat}, k ≤ n → ∃ i, readTo s n = some i
  | 0, hn => by omega
  | n + 1, hn => by
    rw [readTo]
    split
    · exact ⟨_, rfl⟩
    · rename_i hx
      by_cases e : k = n + 1
      · subst e
        exact absurd hc hx
      · exact readTo_has h0 hc (by omega)
theorem readL_is {line : List UInt8} {i : I3} (h : readL line = some i) : IsLine line i.1 i.2.1 i.2.2 := readTo_is h
theorem readL_some {line : List UInt8} {i : I3} (h : IsLine line i.1 i.2.1 i.2.2) : readL line = some i := by
  obtain ⟨h1, h2⟩ := ins_of h.1
  obtain ⟨k, hk⟩ := Int.eq_ofNat_of_zero_le (show 0 ≤ i.1 by omega)
  obtain ⟨e1, e2⟩ := cand_of h
  have hc : readC (k : Int) line = true := by
    rw [← hk]
    unfold readC
    rw [e1, e2, Bool.and_eq_true, decide_eq_true_eq]
    exact ⟨h.1, h.2.symm⟩
  obtain ⟨j, hj⟩ := readTo_has (n := 15) (by omega) hc (by omega)
  obtain ⟨q1, q2, q3⟩ := isLine_one (readTo_is hj) h
  show readTo line 15 = some i
  rw [hj]
  exact congrArg some (Prod.ext q1 (Prod.ext q2 q3))
theorem readL_none {line : List UInt8} (h : ∀ i : I3, ¬ IsLine line i.1 i.2.1 i.2.2) : readL line = none := by
  cases hr : readL line with
  | none => rfl
  | some i => exact absurd (readL_is hr) (h i)
/-- A program read: a code, a line, the instructions. -/
def pgm : Nat → List (List UInt8) → Int × Int × List I3
  | k, [] => (2, k, [])
  | k, [l] => if l = [] then (0, 0, []) else (2, k, [])
  | k, l :: l' :: ls => match readL l with | none => (2, k, []) | some i => if (pgm (k + 1) (l' :: ls)).1 = 0 then (0, 0, i :: (pgm (k + 1) (l' :: ls)).2.2) else pgm (k + 1) (l' :: ls)

end Go.Proofs.YtkbhcajiebeepaaGreatDoor.Vp

/-
  ParseProgram, spec: what is read loosely, pure.
-/
namespace Go.Proofs.YtkbhcajiebeepaaGreatDoor.Vp
open Go.RowKit

theorem cand_yes {s : List UInt8} {k : Int} (h1 : insOk k (candT k s).length (candN k s) = true) (h2 : lineB k (candT k s) (candN k s) = s) : readL s = some (k, candT k s, candN k s) := readL_some (i := (k, candT k s, candN k s)) ⟨h1, h2.symm⟩
theorem cand_no {s : List UInt8} {k : Int} (h : ¬ (insOk k (candT k s).length (candN k s) = true ∧ lineB k (candT k s) (candN k s) = s)) (t : List UInt8) (m : Int) : ¬ IsLine s k t m := by
  intro hl
  obtain ⟨e1, e2⟩ := cand_of hl
  rw [e1, e2] at h
  exact h ⟨hl.1, hl.2.symm⟩
theorem cand_end {s : List UInt8} (h : ∀ k : Int, 1 ≤ k → k < 16 → ∀ t m, ¬ IsLine s k t m) : readL s = none := readL_none fun i hi => by
  obtain ⟨h1, -⟩ := ins_of hi.1
  exact h i.1 h1.1 (by omega) _ _ hi
theorem loosU_len : ∀ l : List UInt8, (loosU l).length ≤ l.length
  | [] => by simp [loosU]
  | [c] => by simp [loosU]
  | [c, d] => by simp [loosU]
  | c :: a :: b :: r => by
    rw [loosU]
    split
    · have := loosU_len r
      simp only [List.length_cons]
      omega
    · have := loosU_len (a :: b :: r)
      simp only [List.length_cons] at this ⊢
      omega
theorem candT_len (k : Int) (s : List UInt8) : (candT k s).length ≤ s.length := by
  unfold candT
  split
  · have h1 := loosU_len (innerL (s.drop ((word k).length + 1)))
    have h2 : (innerL (s.drop ((word k).length + 1))).length ≤ s.length := by
      unfold innerL
      rw [List.length_take, List.length_drop, List.length_drop]
      omega
    omega
  · simp

end Go.Proofs.YtkbhcajiebeepaaGreatDoor.Vp
