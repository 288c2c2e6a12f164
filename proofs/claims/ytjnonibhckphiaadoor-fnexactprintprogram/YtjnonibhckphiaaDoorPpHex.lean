/-
  l1Hex, l1Dec: two hexadecimal digits; a decimal.
-/
import Derived.Test.YtjnonibhckphiaaDoorVpLaw
import Derived.Lib.ItoaNum
import Derived.Lib.ItoaLen
import Derived.Lib.ItoaMem
import Derived.Lib.SmallJoins
namespace Go.Proofs.YtjnonibhckphiaaDoor.Vp
open Go.RowKit

/-- A hexadecimal digit. -/
def hexD (k : Nat) : UInt8 := ([48, 49, 50, 51, 52, 53, 54, 55, 56, 57, 97, 98, 99, 100, 101, 102] : List UInt8).getD k 0
def hex2 (c : UInt8) : List UInt8 := [hexD (c.toNat / 16), hexD (c.toNat % 16)]
theorem hexAt (k : Nat) (h : k < 16) (w : World) : (Instr.index 9 (.string ⟨#[48, 49, 50, 51, 52, 53, 54, 55, 56, 57, 97, 98, 99, 100, 101, 102]⟩) (.int .u8 (k : Int))).run Tryd.prog w = .ok (.int .u8 (hexD k).toNat) w := by
  rcases (show k = 0 ∨ k = 1 ∨ k = 2 ∨ k = 3 ∨ k = 4 ∨ k = 5 ∨ k = 6 ∨ k = 7 ∨ k = 8 ∨ k = 9 ∨ k = 10 ∨ k = 11 ∨ k = 12 ∨ k = 13 ∨ k = 14 ∨ k = 15 by omega) with rfl | rfl | rfl | rfl | rfl | rfl | rfl | rfl | rfl | rfl | rfl | rfl | rfl | rfl | rfl | rfl
  all_goals kernel_rfl

set_option maxHeartbeats 1000000 in
theorem l1Hex_any (c : UInt8) (w : World) :
    Calls Tryd.prog 31 #[.int .u8 c.toNat] w fun e w' => e = .returned (.slice (some ⟨w.heap.size, 0, none⟩) 2 2) ∧ w'.ownsRow w.heap.size 5 1 (.slice (some ⟨w.heap.size, 0, none⟩) 2 2) 2 (Lib.byteCells (hex2 c)) ∧ Below w.heap.size w w' := by
  have hc := c.toNat_lt
  have i1 : ∀ w : World, (Instr.index 9 (.string ⟨#[48, 49, 50, 51, 52, 53, 54, 55, 56, 57, 97, 98, 99, 100, 101, 102]⟩) (.int .u8 ((c.toNat : Int) / 16))).run Tryd.prog w = .ok (.int .u8 (hexD (c.toNat / 16)).toNat) w := fun w => hexAt (c.toNat / 16) (by omega) w
  have i2 : ∀ w : World, (Instr.index 9 (.string ⟨#[48, 49, 50, 51, 52, 53, 54, 55, 56, 57, 97, 98, 99, 100, 101, 102]⟩) (.int .u8 ((c.toNat : Int) % 16))).run Tryd.prog w = .ok (.int .u8 (hexD (c.toNat % 16)).toNat) w := fun w => hexAt (c.toNat % 16) (by omega) w
  go_enter Tryd.func31, Tryd.ntmps31
  go_wp2
  go_region
  go_wp2
  go_ret
  refine ⟨rfl, ?_, ?_⟩
  · exact World.ownsRow_lit w #[.int .u8 (hexD (c.toNat / 16)).toNat, .int .u8 (hexD (c.toNat % 16)).toNat] 2 (Nat.le_refl _) (by unfold maxLen; omega) rfl
  · exact ((Below.refl _ _).alloc (Nat.le_refl _) _).drew

theorem ret_str {a b : ByteArray} (h : a = b) : Ending.returned (.string a) = .returned (.string b) := by rw [h]
/-- string([]byte{b}), the row just laid. -/
theorem conv_one (x : Int) (b : UInt8) (h : x = b.toNat) (w : World) (g : Nat) (hc : w.cell? ⟨g, 0, none⟩ = some (.int .u8 x)) : (convert 40 9 (.slice (some ⟨g, 0, none⟩) 1 1)).run Tryd.prog w = .ok (.string ⟨#[b]⟩) w := by
  refine run_convert_bytes_back _ 40 9 5 ⟨g, 0, none⟩ 1 [b] Tryd.underlying40 Tryd.underlying5 Tryd.underlying9 ?_
  intro j hj
  obtain rfl : j = 0 := by simpa using hj
  simp [Addr.add, hc, h]

/-- A decimal digit. -/
def dig (n : Nat) : UInt8 := UInt8.ofNat (48 + n)
theorem digit (n : Nat) (h : n < 10) : (48 + (n : Int)) = (dig n).toNat := by
  unfold dig
  rw [UInt8.toNat_ofNat']
  omega

theorem decDigits_snoc {n : Nat} (h : ¬ n < 10) : Lib.decDigits n = Lib.decDigits (n / 10) ++ [dig (n % 10)] := by
  rw [Lib.decDigits, dif_neg h]
  rfl

set_option maxHeartbeats 1000000 in
theorem l1Dec_small (n : Nat) (h : n < 10) (w : World) :
    Calls Tryd.prog 27 #[.int .i64 n] w fun e w' => e = .returned (.string ⟨#[dig n]⟩) ∧ Below w.heap.size w w' := by
  have hcv := conv_one (48 + (n : Int)) _ (digit n h)
  go_enter Tryd.func27, Tryd.ntmps27
  go_wp2
  go_ret
  exact ⟨rfl, (Below.refl _ _).alloc (Nat.le_refl _) _⟩

set_option maxHeartbeats 2000000 in
theorem l1Dec_any (n : Nat) : n ≤ 9223372036854775807 → ∀ w : World,
    Calls Tryd.prog 27 #[.int .i64 n] w fun e w' => e = .returned (.string ⟨(Lib.decDigits n).toArray⟩) ∧ Below w.heap.size w w' := by
  induction n using Nat.strongRecOn with
  | ind n ih =>
    intro hn w
    by_cases h : n < 10
    · rw [Lib.decDigits_one h]
      exact l1Dec_small n h w
    · have ih' : ∀ w : World, Calls Tryd.prog 27 #[.int .i64 ((n : Int) / 10)] w fun e w' => e = .returned (.string ⟨(Lib.decDigits (n / 10)).toArray⟩) ∧ Below w.heap.size w w' := fun w => ih (n / 10) (by omega) (by omega) w
      have IH := hide ih'
      clear ih ih'
      have hcv := conv_one (48 + (n : Int) % 10) (dig (n % 10)) (by have := digit (n % 10) (by omega); omega)
      have q1 : IntKind.i64.wrap ((n : Int) / 10) = (n : Int) / 10 := by rw [IntKind.wrap_i64]; omega
      have q2 : IntKind.i64.wrap ((n : Int) % 10) = (n : Int) % 10 := by rw [IntKind.wrap_i64]; omega
      have q3 : IntKind.i64.wrap (48 + (n : Int) % 10) = 48 + (n : Int) % 10 := by rw [IntKind.wrap_i64]; omega
      have q5 : (n : Int).tmod 10 = (n : Int) % 10 := Int.tmod_eq_emod_of_nonneg (by omega)
      have hl : (Lib.decDigits (n / 10)).length ≤ 21 := by rw [← Lib.itoa_nonneg]; exact Lib.itoa_length_le _ (by omega) (by omega)
      have q4 : IntKind.u8.wrap (48 + (n : Int) % 10) = 48 + (n : Int) % 10 := by rw [IntKind.wrap_u8]; omega
      go_enter Tryd.func27, Tryd.ntmps27
      go_wp2_with fail
      go_region_with (go_at_call 27; refine (IH.out _).mono ?_; rintro e w1 ⟨rfl, hB1⟩; have hc1 := (bcell hB1).1)
      all_goals
        go_wp2
        go_ret
        refine ⟨ret_str ?_, ?_⟩
        · rw [decDigits_snoc h]
          apply ByteArray.ext
          simp
        · first
            | exact ((Below.refl _ _).drew.trans hB1).alloc hB1.size _
            | exact (((Below.refl _ _).alloc (Nat.le_refl _) _).drew).trans (hB1.mono (by simp))

end Go.Proofs.YtjnonibhckphiaaDoor.Vp
