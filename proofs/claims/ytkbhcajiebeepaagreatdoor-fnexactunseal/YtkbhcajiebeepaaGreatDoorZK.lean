/-
  Put together of: DDec, PpDef, PpHex, PpPlain.
-/
import Derived.Test.YtkbhcajiebeepaaGreatDoorZD
import Derived.Lib.ItoaNum
import Derived.Lib.ItoaLen
import Derived.Lib.ItoaMem
import Derived.Lib.SmallJoins

/-
  l1Dec: a decimal.
-/
namespace Go.Proofs.YtkbhcajiebeepaaGreatDoor.Vp
open Go.RowKit

/-- string([]byte{b}), the row just laid. -/
theorem conv_one (x : Int) (b : UInt8) (h : x = b.toNat) (w : World) (g : Nat) (hc : w.cell? ⟨g, 0, none⟩ = some (.int .u8 x)) : (convert 60 9 (.slice (some ⟨g, 0, none⟩) 1 1)).run Tryz.prog w = .ok (.string ⟨#[b]⟩) w := by
  refine run_convert_bytes_back _ 60 9 5 ⟨g, 0, none⟩ 1 [b] Tryz.underlying60 Tryz.underlying5 Tryz.underlying9 ?_
  intro j hj
  obtain rfl : j = 0 := by simpa using hj
  simp [Addr.add, hc, h]

/-- A decimal digit. -/
def dig (n : Nat) : UInt8 := UInt8.ofNat (48 + n)
theorem digit (n : Nat) (h : n < 10) : (48 + (n : Int)) = (dig n).toNat := by
  unfold dig
  rw [UInt8.toNat_ofNat']
  omega

theorem decDigits_snoc {n : Nat} (h : ¬ n < 10) : Lib.decDigits n = Lib.decDigits (n / 10) ++ [dig (n % 10)] := by
  rw [Lib.decDigits, dif_neg h]
  rfl

set_option maxHeartbeats 1000000 in
theorem l1Dec_small (n : Nat) (h : n < 10) (w : World) :
    Calls Tryz.prog 27 #[.int .i64 n] w fun e w' => e = .returned (.string ⟨#[dig n]⟩) ∧ Below w.heap.size w w' := by
  have hcv := conv_one (48 + (n : Int)) _ (digit n h)
  go_enter Tryz.func27, Tryz.ntmps27
  go_wp2
  go_ret
  exact ⟨rfl, (Below.refl _ _).alloc (Nat.le_refl _) _⟩

set_option maxHeartbeats 2000000 in
theorem l1Dec_any (n : Nat) : n ≤ 9223372036854775807 → ∀ w : World,
    Calls Tryz.prog 27 #[.int .i64 n] w fun e w' => e = .returned (.string ⟨(Lib.decDigits n).toArray⟩) ∧ Below w.heap.size w w' := by
  induction n using Nat.strongRecOn with
  | ind n ih =>
    intro hn w
    by_cases h : n < 10
    · rw [Lib.decDigits_one h]
      exact l1Dec_small n h w
    · have ih' : ∀ w : World, Calls Tryz.prog 27 #[.int .i64 ((n : Int) / 10)] w fun e w' => e = .returned (.string ⟨(Lib.decDigits (n / 10)).toArray⟩) ∧ Below w.heap.size w w' := fun w => ih (n / 10) (by omega) (by omega) w
      have IH := hide ih'
      clear ih ih'
      have hcv := conv_one (48 + (n : Int) % 10) (dig (n % 10)) (by have := digit (n % 10) (by omega); omega)
      have q1 : IntKind.i64.wrap ((n : Int) / 10) = (n : Int) / 10 := by rw [IntKind.wrap_i64]; omega
      have q2 : IntKind.i64.wrap ((n : Int) % 10) = (n : Int) % 10 := by rw [IntKind.wrap_i64]; omega
      have q3 : IntKind.i64.wrap (48 + (n : Int) % 10) = 48 + (n : Int) % 10 := by rw [IntKind.wrap_i64]; omega
      have q5 : (n : Int).tmod 10 = (n : Int) % 10 := Int.tmod_eq_emod_of_nonneg (by omega)
      have hl : (Lib.decDigits (n / 10)).length ≤ 21 := by rw [← Lib.itoa_nonneg]; exact Lib.itoa_length_le _ (by omega) (by omega)
      have q4 : IntKind.u8.wrap (48 + (n : Int) % 10) = 48 + (n : Int) % 10 := by rw [IntKind.wrap_u8]; omega
      go_enter Tryz.func27, Tryz.ntmps27
      go_wp2_with fail
      go_region_with (go_at_call 27; refine (IH.out _).mono ?_; rintro e w1 ⟨rfl, hB1⟩; have hc1 := (bcell hB1).1)
      all_goals
        go_wp2
        go_ret
        refine ⟨ret_str ?_, ?_⟩
        · rw [decDigits_snoc h]
          apply ByteArray.ext
          simp
        · first
            | exact ((Below.refl _ _).drew.trans hB1).alloc hB1.size _
            | exact (((Below.refl _ _).alloc (Nat.le_refl _) _).drew).trans (hB1.mono (by simp))

end Go.Proofs.YtkbhcajiebeepaaGreatDoor.Vp

/-
  What is written of an instruction.
-/
namespace Go.Proofs.YtkbhcajiebeepaaGreatDoor.Vp
open Go.RowKit

/-- A hexadecimal digit. -/
def hexD (k : Nat) : UInt8 := ([48, 49, 50, 51, 52, 53, 54, 55, 56, 57, 97, 98, 99, 100, 101, 102] : List UInt8).getD k 0
def hex2 (c : UInt8) : List UInt8 := [hexD (c.toNat / 16), hexD (c.toNat % 16)]
def plainC (c : UInt8) : Bool := decide (32 ≤ c.toNat ∧ c.toNat ≤ 126 ∧ c.toNat ≠ 34 ∧ c.toNat ≠ 92)
def enc (c : UInt8) : List UInt8 := if plainC c = true then [c] else 92 :: hex2 c
def qTo (l : List UInt8) (k : Nat) : List UInt8 := 34 :: (l.take k).flatMap enc
def quoteB (l : List UInt8) : List UInt8 := qTo l l.length ++ [34]
theorem qTo_succ (s : ByteArray) (k : Nat) (h : k < s.size) : qTo s.data.toList (k + 1) = qTo s.data.toList k ++ enc s[k] := by
  unfold qTo
  rw [List.take_succ_eq_append_getElem (by simpa using h)]
  simp
  rfl
theorem enc_le (c : UInt8) : (enc c).length ≤ 3 := by
  unfold enc
  split <;> simp [hex2]
theorem flat_le (l : List UInt8) : (l.flatMap enc).length ≤ 3 * l.length := by
  induction l with
  | nil => simp
  | cons c r ih => have := enc_le c; simp only [List.flatMap_cons, List.length_append, List.length_cons]; omega
theorem qTo_le (l : List UInt8) (k : Nat) : (qTo l k).length ≤ 1 + 3 * k := by
  have h1 := flat_le (l.take k)
  have h2 := List.length_take_le k l
  simp only [qTo, List.length_cons]
  omega
theorem qTo_ne (l : List UInt8) (k : Nat) : qTo l k ≠ [] := by simp [qTo]
theorem quoteB_le (l : List UInt8) : (quoteB l).length ≤ 2 + 3 * l.length := by
  have := qTo_le l l.length
  simp only [quoteB, List.length_append, List.length_cons, List.length_nil]
  omega
def lineB (op : Int) (s : List UInt8) (n : Int) : List UInt8 :=
  if kind op = 1 then word op ++ (32 :: quoteB s) else if kind op = 0 then word op else word op ++ (32 :: Lib.decDigits n.toNat)
theorem dec_len (n : Nat) (h : n ≤ 2000) : (Lib.decDigits n).length ≤ 21 := by rw [← Lib.itoa_nonneg]; exact Lib.itoa_length_le _ (by omega) (by omega)
/-- The shapes of right instructions. -/
theorem insOk_cases {op : Int} {s : ByteArray} {n : Int} (h : insOk op s.size n = true) :
    (op = 1 ∧ s.size ≤ 2000 ∧ n = 0) ∨ ((op = 3 ∨ op = 4 ∨ op = 5 ∨ op = 10 ∨ op = 11) ∧ s = ⟨#[]⟩ ∧ ∃ m : Nat, n = m ∧ m ≤ 2000) ∨
    ((op = 2 ∨ op = 6 ∨ op = 7 ∨ op = 8 ∨ op = 9 ∨ op = 12 ∨ op = 13 ∨ op = 14 ∨ op = 15) ∧ s = ⟨#[]⟩ ∧ n = 0) := by
  unfold insOk at h
  rw [decide_eq_true_eq] at h
  obtain ⟨h1, h2, h3, h4, h5⟩ := h
  by_cases e1 : op = 1
  · subst e1
    simp [mostText, mostN] at h3 h5
    exact .inl ⟨rfl, by omega, by omega⟩
  · have hs : s.size = 0 := by simp only [mostText, if_neg e1] at h3; omega
    by_cases e2 : op = 3 ∨ op = 4 ∨ op = 5 ∨ op = 10 ∨ op = 11
    · obtain ⟨m, rfl⟩ := Int.eq_ofNat_of_zero_le h4
      refine .inr (.inl ⟨e2, empty_of_size hs, m, rfl, ?_⟩)
      unfold mostN at h5
      split at h5
      · omega
      · split at h5 <;> omega
    · refine .inr (.inr ⟨by omega, empty_of_size hs, ?_⟩)
      unfold mostN at h5
      rw [if_neg (by omega), if_neg (by omega)] at h5
      omega
theorem lineB_le (op : Int) (s : ByteArray) (n : Int) (h : insOk op s.size n = true) : (lineB op s.data.toList n).length ≤ 6010 := by
  rcases insOk_cases h with ⟨rfl, hs, rfl⟩ | ⟨hop, rfl, m, rfl, hm⟩ | ⟨hop, rfl, rfl⟩
  · have hq := quoteB_le s.data.toList
    have hl : s.data.toList.length = s.size := by simp
    simp [lineB, kind, word]
    omega
  · have hq := dec_len m hm
    rcases hop with rfl | rfl | rfl | rfl | rfl <;> simp [lineB, kind, word] <;> omega
  · rcases hop with rfl | rfl | rfl | rfl | rfl | rfl | rfl | rfl | rfl <;> simp [lineB, kind, word]

end Go.Proofs.YtkbhcajiebeepaaGreatDoor.Vp

/-
  l1Hex: two hexadecimal digits.
-/
namespace Go.Proofs.YtkbhcajiebeepaaGreatDoor.Vp
open Go.RowKit

theorem hexAt (k : Nat) (h : k < 16) (w : World) : (Instr.index 9 (.string ⟨#[48, 49, 50, 51, 52, 53, 54, 55, 56, 57, 97, 98, 99, 100, 101, 102]⟩) (.int .u8 (k : Int))).run Tryz.prog w = .ok (.int .u8 (hexD k).toNat) w := by
  rcases (show k = 0 ∨ k = 1 ∨ k = 2 ∨ k = 3 ∨ k = 4 ∨ k = 5 ∨ k = 6 ∨ k = 7 ∨ k = 8 ∨ k = 9 ∨ k = 10 ∨ k = 11 ∨ k = 12 ∨ k = 13 ∨ k = 14 ∨ k = 15 by omega) with rfl | rfl | rfl | rfl | rfl | rfl | rfl | rfl | rfl | rfl | rfl | rfl | rfl | rfl | rfl | rfl
  all_goals kernel_rfl

set_option maxHeartbeats 1000000 in
theorem l1Hex_any (c : UInt8) (w : World) :
    Calls Tryz.prog 76 #[.int .u8 c.toNat] w fun e w' => e = .returned (.slice (some ⟨w.heap.size, 0, none⟩) 2 2) ∧ w'.ownsRow w.heap.size 5 1 (.slice (some ⟨w.heap.size, 0, none⟩) 2 2) 2 (Lib.byteCells (hex2 c)) ∧ Below w.heap.size w w' := by
  have hc := c.toNat_lt
  have i1 : ∀ w : World, (Instr.index 9 (.string ⟨#[48, 49, 50, 51, 52, 53, 54, 55, 56, 57, 97, 98, 99, 100, 101, 102]⟩) (.int .u8 ((c.toNat : Int) / 16))).run Tryz.prog w = .ok (.int .u8 (hexD (c.toNat / 16)).toNat) w := fun w => hexAt (c.toNat / 16) (by omega) w
  have i2 : ∀ w : World, (Instr.index 9 (.string ⟨#[48, 49, 50, 51, 52, 53, 54, 55, 56, 57, 97, 98, 99, 100, 101, 102]⟩) (.int .u8 ((c.toNat : Int) % 16))).run Tryz.prog w = .ok (.int .u8 (hexD (c.toNat % 16)).toNat) w := fun w => hexAt (c.toNat % 16) (by omega) w
  go_enter Tryz.func76, Tryz.ntmps76
  go_wp2
  go_region
  go_wp2
  go_ret
  refine ⟨rfl, ?_, ?_⟩
  · exact World.ownsRow_lit w #[.int .u8 (hexD (c.toNat / 16)).toNat, .int .u8 (hexD (c.toNat % 16)).toNat] 2 (Nat.le_refl _) (by unfold maxLen; omega) rfl
  · exact ((Below.refl _ _).alloc (Nat.le_refl _) _).drew

end Go.Proofs.YtkbhcajiebeepaaGreatDoor.Vp

/-
  impl.plain.
-/
namespace Go.Proofs.YtkbhcajiebeepaaGreatDoor.Vp
open Go.RowKit

theorem plainC_true {c : UInt8} (p1 : 32 ≤ (c.toNat : Int)) (p2 : (c.toNat : Int) ≤ 126) (p3 : ((c.toNat : Int) != 34) = true) (p4 : ((c.toNat : Int) != 92) = true) : plainC c = true := by
  simp only [bne_iff_ne, ne_eq] at p3 p4
  simp [plainC]
  omega
theorem plainC_false {c : UInt8} (h : ¬ (32 ≤ (c.toNat : Int) ∧ (c.toNat : Int) ≤ 126 ∧ ((c.toNat : Int) != 34) = true ∧ ((c.toNat : Int) != 92) = true)) : plainC c = false := by
  simp only [bne_iff_ne, ne_eq] at h
  simp [plainC]
  omega

set_option maxRecDepth 100000 in
set_option maxHeartbeats 1000000 in
theorem plain_any (c : UInt8) (w : World) : Calls Tryz.prog 90 #[.int .u8 c.toNat] w fun e w' => e = .returned (.bool (plainC c)) ∧ w' = w := by
  by_cases hp : 32 ≤ (c.toNat : Int) ∧ (c.toNat : Int) ≤ 126 ∧ ((c.toNat : Int) != 34) = true ∧ ((c.toNat : Int) != 92) = true
  · obtain ⟨p1, p2, p3, p4⟩ := hp
    rw [plainC_true p1 p2 p3 p4]
    go_enter Tryz.func90, Tryz.ntmps90
    go_wp2
    go_ret
    exact ⟨rfl, rfl⟩
  · rw [plainC_false hp]
    have hn : (c.toNat : Int) < 32 ∨ (32 ≤ (c.toNat : Int) ∧ 126 < (c.toNat : Int)) ∨ (32 ≤ (c.toNat : Int) ∧ (c.toNat : Int) ≤ 126 ∧ ((c.toNat : Int) != 34) = false) ∨ (32 ≤ (c.toNat : Int) ∧ (c.toNat : Int) ≤ 126 ∧ ((c.toNat : Int) != 34) = true ∧ ((c.toNat : Int) != 92) = false) := by
      simp only [bne_iff_ne, ne_eq, bne_eq_false_iff_eq] at hp ⊢
      omega
    clear hp
    rcases hn with p1 | ⟨p1, p2⟩ | ⟨p1, p2, p3⟩ | ⟨p1, p2, p3, p4⟩
    all_goals
      go_enter Tryz.func90, Tryz.ntmps90
      go_wp2
      go_ret
      exact ⟨rfl, rfl⟩

end Go.Proofs.YtkbhcajiebeepaaGreatDoor.Vp
