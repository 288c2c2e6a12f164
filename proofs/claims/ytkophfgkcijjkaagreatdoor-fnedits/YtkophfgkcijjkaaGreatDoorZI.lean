import Derived.Test.YtkophfgkcijjkaaGreatDoorZC
import Derived.Lib.ItoaNum
import Derived.Lib.ItoaLen
import Derived.Lib.ItoaMem
import Derived.Lib.SmallJoins
namespace Go.Proofs.YtkophfgkcijjkaaGreatDoor.Vp
open Go.RowKit
theorem conv_one (x : Int) (b : UInt8) (h : x = b.toNat) (w : World) (g : Nat) (hc : w.cell? ⟨g, 0, none⟩ = some (.int .u8 x)) : (convert 22 9 (.slice (some ⟨g, 0, none⟩) 1 1)).run Tryz.prog w = .ok (.string ⟨#[b]⟩) w := by
  refine run_convert_bytes_back _ 22 9 5 ⟨g, 0, none⟩ 1 [b] Tryz.underlying22 Tryz.underlying5 Tryz.underlying9 ?_
  intro j hj
  obtain rfl : j = 0 := by simpa using hj
  simp [Addr.add, hc, h]
def dig (n : Nat) : UInt8 := UInt8.ofNat (48 + n)
theorem digit (n : Nat) (h : n < 10) : (48 + (n : Int)) = (dig n).toNat := by
  unfold dig
  rw [UInt8.toNat_ofNat']
  omega
theorem decDigits_snoc {n : Nat} (h : ¬ n < 10) : Lib.decDigits n = Lib.decDigits (n / 10) ++ [dig (n % 10)] := by
  rw [Lib.decDigits, dif_neg h]
  rfl
set_option maxHeartbeats 1000000 in
theorem l1Dec_small (n : Nat) (h : n < 10) (w : World) :
    Calls Tryz.prog 126 #[.int .i64 n] w fun e w' => e = .returned (.string ⟨#[dig n]⟩) ∧ Below w.heap.size w w' := by
  have hcv := conv_one (48 + (n : Int)) _ (digit n h)
  go_enter Tryz.func126, Tryz.ntmps126
  go_wp2
  go_ret
  exact ⟨rfl, (Below.refl _ _).alloc (Nat.le_refl _) _⟩
set_option maxHeartbeats 2000000 in
theorem l1Dec_any (n : Nat) : n ≤ 9223372036854775807 → ∀ w : World,
    Calls Tryz.prog 126 #[.int .i64 n] w fun e w' => e = .returned (.string ⟨(Lib.decDigits n).toArray⟩) ∧ Below w.heap.size w w' := by
  induction n using Nat.strongRecOn with
  | ind n ih =>
    intro hn w
    by_cases h : n < 10
    · rw [Lib.decDigits_one h]
      exact l1Dec_small n h w
    · have ih' : ∀ w : World, Calls Tryz.prog 126 #[.int .i64 ((n : Int) / 10)] w fun e w' => e = .returned (.string ⟨(Lib.decDigits (n / 10)).toArray⟩) ∧ Below w.heap.size w w' := fun w => ih (n / 10) (by omega) (by omega) w
      have IH := hide ih'
      clear ih ih'
      have hcv := conv_one (48 + (n : Int) % 10) (dig (n % 10)) (by have := digit (n % 10) (by omega); omega)
      have q1 : IntKind.i64.wrap ((n : Int) / 10) = (n : Int) / 10 := by rw [IntKind.wrap_i64]; omega
      have q2 : IntKind.i64.wrap ((n : Int) % 10) = (n : Int) % 10 := by rw [IntKind.wrap_i64]; omega
      have q3 : IntKind.i64.wrap (48 + (n : Int) % 10) = 48 + (n : Int) % 10 := by rw [IntKind.wrap_i64]; omega
      have q5 : (n : Int).tmod 10 = (n : Int) % 10 := Int.tmod_eq_emod_of_nonneg (by omega)
      have hl : (Lib.decDigits (n / 10)).length ≤ 21 := by rw [← Lib.itoa_nonneg]; exact Lib.itoa_length_le _ (by omega) (by omega)
      have q4 : IntKind.u8.wrap (48 + (n : Int) % 10) = 48 + (n : Int) % 10 := by rw [IntKind.wrap_u8]; omega
      go_enter Tryz.func126, Tryz.ntmps126
      go_wp2_with fail
      go_region_with (go_at_call 126; refine (IH.out _).mono ?_; rintro e w1 ⟨rfl, hB1⟩; have hc1 := (bcell hB1).1)
      all_goals
        go_wp2
        go_ret
        refine ⟨ret_str ?_, ?_⟩
        · rw [decDigits_snoc h]
          apply ByteArray.ext
          simp
        · first
            | exact ((Below.refl _ _).drew.trans hB1).alloc hB1.size _
            | exact (((Below.refl _ _).alloc (Nat.le_refl _) _).drew).trans (hB1.mono (by simp))
end Go.Proofs.YtkophfgkcijjkaaGreatDoor.Vp
namespace Go.Proofs.YtkophfgkcijjkaaGreatDoor.Vp
open Go.RowKit
def hexD (k : Nat) : UInt8 := ([48, 49, 50, 51, 52, 53, 54, 55, 56, 57, 97, 98, 99, 100, 101, 102] : List UInt8).getD k 0
def hex2 (c : UInt8) : List UInt8 := [hexD (c.toNat / 16), hexD (c.toNat % 16)]
def plainC (c : UInt8) : Bool := decide (32 ≤ c.toNat ∧ c.toNat ≤ 126 ∧ c.toNat ≠ 34 ∧ c.toNat ≠ 92)
def enc (c : UInt8) : List UInt8 := if plainC c = true then [c] else 92 :: hex2 c
theorem dec_len (n : Nat) (h : n ≤ 2000) : (Lib.decDigits n).length ≤ 21 := by rw [← Lib.itoa_nonneg]; exact Lib.itoa_length_le _ (by omega) (by omega)
end Go.Proofs.YtkophfgkcijjkaaGreatDoor.Vp
namespace Go.Proofs.YtkophfgkcijjkaaGreatDoor.Vp
open Go.RowKit
theorem conv_three (x y z : Int) (a b c : UInt8) (hx : x = a.toNat) (hy : y = b.toNat) (hz : z = c.toNat) (w : World) (g : Nat) (h0 : w.cell? ⟨g, 0, none⟩ = some (.int .u8 x)) (h1 : w.cell? ⟨g, 1, none⟩ = some (.int .u8 y)) (h2 : w.cell? ⟨g, 2, none⟩ = some (.int .u8 z)) : (convert 22 9 (.slice (some ⟨g, 0, none⟩) 3 3)).run Tryz.prog w = .ok (.string ⟨#[a, b, c]⟩) w := by
  refine run_convert_bytes_back _ 22 9 5 ⟨g, 0, none⟩ 3 [a, b, c] Tryz.underlying22 Tryz.underlying5 Tryz.underlying9 ?_
  intro j hj
  have hj : j < 3 := hj
  match j, hj with
  | 0, _ => simp [Addr.add, h0, hx]
  | 1, _ => simp [Addr.add, h1, hy]
  | 2, _ => simp [Addr.add, h2, hz]
  | k + 3, h => exact absurd h (by omega)
set_option maxHeartbeats 2000000 in
theorem l2Label_any (i : Nat) (h : i < 1000) (w : World) :
    Calls Tryz.prog 127 #[.int .i64 i] w fun e w' => ∃ s : ByteArray, e = .returned (.string s) ∧ s.size ≤ 4 ∧ Below w.heap.size w w' := by
  have hcv := conv_three (48 + (i : Int) / 100) (48 + (i : Int) / 10 % 10) (48 + (i : Int) % 10) (dig (i / 100)) (dig (i / 10 % 10)) (dig (i % 10)) (by have := digit (i / 100) (by omega); omega) (by have := digit (i / 10 % 10) (by omega); omega) (by have := digit (i % 10) (by omega); omega)
  have q1 : IntKind.i64.wrap ((i : Int) / 100) = (i : Int) / 100 := by rw [IntKind.wrap_i64]; omega
  have q2 : IntKind.i64.wrap ((i : Int) / 10) = (i : Int) / 10 := by rw [IntKind.wrap_i64]; omega
  have q3 : IntKind.i64.wrap ((i : Int) / 10 % 10) = (i : Int) / 10 % 10 := by rw [IntKind.wrap_i64]; omega
  have q4 : IntKind.i64.wrap ((i : Int) % 10) = (i : Int) % 10 := by rw [IntKind.wrap_i64]; omega
  have q5 : (i : Int).tmod 10 = (i : Int) % 10 := Int.tmod_eq_emod_of_nonneg (by omega)
  have q6 : ((i : Int) / 10).tmod 10 = (i : Int) / 10 % 10 := Int.tmod_eq_emod_of_nonneg (by omega)
  have r1 : IntKind.i64.wrap (48 + (i : Int) / 100) = 48 + (i : Int) / 100 := by rw [IntKind.wrap_i64]; omega
  have r2 : IntKind.i64.wrap (48 + (i : Int) / 10 % 10) = 48 + (i : Int) / 10 % 10 := by rw [IntKind.wrap_i64]; omega
  have r3 : IntKind.i64.wrap (48 + (i : Int) % 10) = 48 + (i : Int) % 10 := by rw [IntKind.wrap_i64]; omega
  have s1 : IntKind.u8.wrap (48 + (i : Int) / 100) = 48 + (i : Int) / 100 := by rw [IntKind.wrap_u8]; omega
  have s2 : IntKind.u8.wrap (48 + (i : Int) / 10 % 10) = 48 + (i : Int) / 10 % 10 := by rw [IntKind.wrap_u8]; omega
  have s3 : IntKind.u8.wrap (48 + (i : Int) % 10) = 48 + (i : Int) % 10 := by rw [IntKind.wrap_u8]; omega
  go_enter Tryz.func127, Tryz.ntmps127
  go_wp2
  go_ret
  refine ⟨_, rfl, ?_, (Below.refl _ _).alloc (Nat.le_refl _) _⟩
  simp only [ByteArray.size_append]
  exact Nat.le_refl 4
end Go.Proofs.YtkophfgkcijjkaaGreatDoor.Vp
