/-
  ParseProgram: the line of an instruction, read.
-/
import Derived.Test.YtpefignfaooonaaGreatDoorZC
namespace Go.Proofs.YtpefignfaooonaaGreatDoor.Vp
open Go.RowKit

/-- The instruction of a word. -/
def opF (w : List UInt8) : Int :=
  if w = word 1 then 1 else if w = word 2 then 2 else if w = word 3 then 3 else if w = word 4 then 4 else if w = word 5 then 5 else if w = word 6 then 6 else if w = word 7 then 7 else if w = word 8 then 8 else if w = word 9 then 9 else if w = word 10 then 10 else if w = word 11 then 11 else if w = word 12 then 12 else if w = word 13 then 13 else if w = word 14 then 14 else if w = word 15 then 15 else 0
theorem op_cases {k : Int} (h : 1 ≤ k ∧ k ≤ 15) : k = 1 ∨ k = 2 ∨ k = 3 ∨ k = 4 ∨ k = 5 ∨ k = 6 ∨ k = 7 ∨ k = 8 ∨ k = 9 ∨ k = 10 ∨ k = 11 ∨ k = 12 ∨ k = 13 ∨ k = 14 ∨ k = 15 := by omega
theorem opF_word {k : Int} (h : 1 ≤ k ∧ k ≤ 15) : opF (word k) = k := by
  rcases op_cases h with rfl | rfl | rfl | rfl | rfl | rfl | rfl | rfl | rfl | rfl | rfl | rfl | rfl | rfl | rfl <;> decide
theorem opF_inv (w : List UInt8) : opF w = 0 ∧ (∀ k, 1 ≤ k → k ≤ 15 → w ≠ word k) ∨ (1 ≤ opF w ∧ opF w ≤ 15 ∧ w = word (opF w)) := by
  by_cases h : ∃ k, 1 ≤ k ∧ k ≤ 15 ∧ w = word k
  · obtain ⟨k, h1, h2, rfl⟩ := h
    rw [opF_word ⟨h1, h2⟩]
    exact .inr ⟨h1, h2, rfl⟩
  · have h' : ∀ k, 1 ≤ k → k ≤ 15 → w ≠ word k := fun k h1 h2 e => h ⟨k, h1, h2, e⟩
    refine .inl ⟨?_, h'⟩
    unfold opF
    rw [if_neg (h' 1 (by omega) (by omega)), if_neg (h' 2 (by omega) (by omega)), if_neg (h' 3 (by omega) (by omega)), if_neg (h' 4 (by omega) (by omega)), if_neg (h' 5 (by omega) (by omega)), if_neg (h' 6 (by omega) (by omega)), if_neg (h' 7 (by omega) (by omega)), if_neg (h' 8 (by omega) (by omega)), if_neg (h' 9 (by omega) (by omega)), if_neg (h' 10 (by omega) (by omega)), if_neg (h' 11 (by omega) (by omega)), if_neg (h' 12 (by omega) (by omega)), if_neg (h' 13 (by omega) (by omega)), if_neg (h' 14 (by omega) (by omega)), if_neg (h' 15 (by omega) (by omega))]
theorem word_plain {k : Int} (h : 1 ≤ k ∧ k ≤ 15) : (32 : UInt8) ∉ word k := by
  rcases op_cases h with rfl | rfl | rfl | rfl | rfl | rfl | rfl | rfl | rfl | rfl | rfl | rfl | rfl | rfl | rfl <;> decide
theorem kind_text {k : Int} (h : 1 ≤ k ∧ k ≤ 15) : (kind k = 1 ↔ 0 < mostText k) ∧ (kind k = 0 ↔ ¬ 0 < mostText k ∧ ¬ 0 < mostN k) := by
  rcases op_cases h with rfl | rfl | rfl | rfl | rfl | rfl | rfl | rfl | rfl | rfl | rfl | rfl | rfl | rfl | rfl <;> decide

/-- The line is that of the instruction, which is right. -/
def IsLine (line : List UInt8) (op : Int) (s : List UInt8) (n : Int) : Prop := insOk op s.length n = true ∧ line = lineB op s n
theorem ins_of {op : Int} {sz : Nat} {n : Int} (h : insOk op sz n = true) : (1 ≤ op ∧ op ≤ 15) ∧ (sz : Int) ≤ mostText op ∧ 0 ≤ n ∧ n ≤ mostN op := by
  have := of_decide_eq_true h
  exact ⟨⟨this.1, this.2.1⟩, this.2.2.1, this.2.2.2⟩
theorem most_ge (op : Int) : 0 ≤ mostText op ∧ 0 ≤ mostN op := by
  unfold mostText mostN
  constructor
  · split <;> omega
  · split
    · omega
    · split <;> omega
theorem itoa_ne (n : Int) : Lib.itoa n ≠ [] := by
  unfold Lib.itoa
  split
  · simp
  · rw [Lib.decDigits]
    split <;> simp
theorem isLine_iff {line : List UInt8} {op : Int} {s : List UInt8} {n : Int} : IsLine line op s n ↔
    opF (cutC 32 line).1 = op ∧ insOk op s.length n = true ∧ (if kind op = 1 then (cutC 32 line).2.1 = quoteB s else if kind op = 0 then (cutC 32 line).2.2 = false else (cutC 32 line).2.1 = Lib.itoa n) := by
  constructor
  · rintro ⟨h, rfl⟩
    obtain ⟨h1, h2, h3, h4⟩ := ins_of h
    have hw := word_plain h1
    by_cases k1 : kind op = 1
    · have e : cutC 32 (lineB op s n) = (word op, quoteB s, true) := by
        unfold lineB
        rw [if_pos k1, cutC_at _ hw]
      rw [e, if_pos k1]
      exact ⟨opF_word h1, h, rfl⟩
    · by_cases k0 : kind op = 0
      · have e : cutC 32 (lineB op s n) = (word op, [], false) := by
          unfold lineB
          rw [if_neg k1, if_pos k0, cutC_no hw]
        rw [e, if_neg k1, if_pos k0]
        exact ⟨opF_word h1, h, rfl⟩
      · have e : cutC 32 (lineB op s n) = (word op, Lib.decDigits n.toNat, true) := by
          unfold lineB
          rw [if_neg k1, if_neg k0, cutC_at _ hw]
        rw [e, if_neg k1, if_neg k0]
        refine ⟨opF_word h1, h, ?_⟩
        unfold Lib.itoa
        rw [if_neg (by omega)]
  · rintro ⟨h0, h, hc⟩
    obtain ⟨h1, h2, h3, h4⟩ := ins_of h
    refine ⟨h, ?_⟩
    have hi := (cutC_inv 32 line).2
    have hw : (cutC 32 line).1 = word op := by
      rcases opF_inv (cutC 32 line).1 with ⟨h5, _⟩ | ⟨_, _, h5⟩
      · omega
      · rw [h0] at h5; exact h5
    have hsp : (cutC 32 line).2.1 ≠ [] → (cutC 32 line).2.2 = true := fun hne => by
      cases e : (cutC 32 line).2.2 with
      | true => rfl
      | false =>
        rw [e] at hi
        simp only [Bool.false_eq_true, if_false] at hi
        have h6 := (cutC_inv 32 line).1
        rw [← hi] at h6
        rw [cutC_no h6] at hne
        exact absurd rfl hne
    unfold lineB
    by_cases k1 : kind op = 1
    · rw [if_pos k1] at hc ⊢
      rw [hsp (by rw [hc, quoteB_eq]; simp), if_pos rfl, hw, hc] at hi
      exact hi
    · rw [if_neg k1] at hc ⊢
      by_cases k0 : kind op = 0
      · rw [if_pos k0] at hc ⊢
        rw [hc] at hi
        simp only [Bool.false_eq_true, if_false] at hi
        rw [hi]
        exact hw
      · rw [if_neg k0] at hc ⊢
        rw [hsp (by rw [hc]; exact itoa_ne n), if_pos rfl, hw, hc] at hi
        rw [hi]
        unfold Lib.itoa
        rw [if_neg (by omega)]
theorem decDigits_pos (n : Nat) : Lib.decDigits n ≠ [] := by
  rw [Lib.decDigits]
  split <;> simp
theorem decDigits_inj : ∀ (n m : Nat), Lib.decDigits n = Lib.decDigits m → n = m := by
  intro n
  induction n using Nat.strongRecOn with
  | ind n ih =>
    intro m h
    by_cases h1 : n < 10
    · by_cases h2 : m < 10
      · rw [Lib.decDigits, dif_pos h1, Lib.decDigits, dif_pos h2] at h
        have := congrArg (fun l => (l.headD 0).toNat) h
        simp at this
        omega
      · rw [Lib.decDigits, dif_pos h1, decDigits_snoc h2] at h
        have h3 := congrArg List.length h
        have h4 := List.length_pos_iff.2 (decDigits_pos (m / 10))
        simp only [List.length_append, List.length_cons, List.length_nil] at h3
        omega
    · by_cases h2 : m < 10
      · rw [decDigits_snoc h1] at h
        rw [Lib.decDigits.eq_1 m, dif_pos h2] at h
        have h3 := congrArg List.length h
        have h4 := List.length_pos_iff.2 (decDigits_pos (n / 10))
        simp only [List.length_append, List.length_cons, List.length_nil] at h3
        omega
      · rw [decDigits_snoc h1, decDigits_snoc h2] at h
        obtain ⟨h3, h4⟩ := List.append_inj' h rfl
        have h5 := ih (n / 10) (by omega) _ h3
        have h6 := congrArg (fun l => (l.headD 0).toNat) h4
        simp [dig] at h6
        omega
theorem isLine_one {line : List UInt8} {op op' : Int} {s s' : List UInt8} {n n' : Int} (h : IsLine line op s n) (h' : IsLine line op' s' n') : op = op' ∧ s = s' ∧ n = n' := by
  obtain ⟨a1, a2, a3⟩ := isLine_iff.1 h
  obtain ⟨b1, b2, b3⟩ := isLine_iff.1 h'
  have e : op = op' := a1.symm.trans b1
  subst e
  obtain ⟨c1, c2, c3, c4⟩ := ins_of a2
  obtain ⟨d1, d2, d3, d4⟩ := ins_of b2
  refine ⟨rfl, ?_⟩
  have hk : kind op ≠ 1 → s = [] ∧ s' = [] := fun hk => by
    have h0 : mostText op = 0 := by
      have := (most_ge op).1
      have h1 := (kind_text c1).1
      rcases Int.lt_or_le 0 (mostText op) with h2 | h2
      · exact absurd (h1.2 h2) hk
      · omega
    exact ⟨List.length_eq_zero_iff.1 (by omega), List.length_eq_zero_iff.1 (by omega)⟩
  by_cases k1 : kind op = 1
  · rw [if_pos k1] at a3 b3
    have hn : mostN op = 0 := by
      unfold kind at k1
      split at k1 <;> first | omega | rfl
    rw [a3, quoteB_eq, quoteB_eq] at b3
    have b4 := List.append_inj_left' (List.cons.inj b3).2 rfl
    exact ⟨flat_enc_inj b4, by omega⟩
  · obtain ⟨rfl, rfl⟩ := hk k1
    refine ⟨rfl, ?_⟩
    rw [if_neg k1] at a3 b3
    by_cases k0 : kind op = 0
    · have := ((kind_text c1).2.1 k0).2
      omega
    · rw [if_neg k0] at a3 b3
      rw [a3] at b3
      unfold Lib.itoa at b3
      rw [if_neg (by omega), if_neg (by omega)] at b3
      have := decDigits_inj _ _ b3
      omega

end Go.Proofs.YtpefignfaooonaaGreatDoor.Vp
