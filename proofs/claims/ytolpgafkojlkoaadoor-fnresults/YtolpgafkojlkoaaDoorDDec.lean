/-
  l1Dec: a decimal.
-/
import Derived.Test.YtolpgafkojlkoaaDoorDBase
import Derived.Lib.ItoaNum
import Derived.Lib.ItoaLen
import Derived.Lib.ItoaMem
import Derived.Lib.SmallJoins
namespace Go.Proofs.YtolpgafkojlkoaaDoor.Vp
open Go.RowKit

/-- string([]byte{b}), the row just laid. -/
theorem conv_one (x : Int) (b : UInt8) (h : x = b.toNat) (w : World) (g : Nat) (hc : w.cell? ⟨g, 0, none⟩ = some (.int .u8 x)) : (convert 31 9 (.slice (some ⟨g, 0, none⟩) 1 1)).run Tryd.prog w = .ok (.string ⟨#[b]⟩) w := by
  refine run_convert_bytes_back _ 31 9 5 ⟨g, 0, none⟩ 1 [b] Tryd.underlying31 Tryd.underlying5 Tryd.underlying9 ?_
  intro j hj
  obtain rfl : j = 0 := by simpa using hj
  simp [Addr.add, hc, h]

/-- A decimal digit. -/
def dig (n : Nat) : UInt8 := UInt8.ofNat (48 + n)
theorem digit (n : Nat) (h : n < 10) : (48 + (n : Int)) = (dig n).toNat := by
  unfold dig
  rw [UInt8.toNat_ofNat']
  omega

theorem decDigits_snoc {n : Nat} (h : ¬ n < 10) : Lib.decDigits n = Lib.decDigits (n / 10) ++ [dig (n % 10)] := by
  rw [Lib.decDigits, dif_neg h]
  rfl

set_option maxHeartbeats 1000000 in
theorem l1Dec_small (n : Nat) (h : n < 10) (w : World) :
    Calls Tryd.prog 31 #[.int .i64 n] w fun e w' => e = .returned (.string ⟨#[dig n]⟩) ∧ Below w.heap.size w w' := by
  have hcv := conv_one (48 + (n : Int)) _ (digit n h)
  go_enter Tryd.func31, Tryd.ntmps31
  go_wp2
  go_ret
  exact ⟨rfl, (Below.refl _ _).alloc (Nat.le_refl _) _⟩

set_option maxHeartbeats 2000000 in
theorem l1Dec_any (n : Nat) : n ≤ 9223372036854775807 → ∀ w : World,
    Calls Tryd.prog 31 #[.int .i64 n] w fun e w' => e = .returned (.string ⟨(Lib.decDigits n).toArray⟩) ∧ Below w.heap.size w w' := by
  induction n using Nat.strongRecOn with
  | ind n ih =>
    intro hn w
    by_cases h : n < 10
    · rw [Lib.decDigits_one h]
      exact l1Dec_small n h w
    · have ih' : ∀ w : World, Calls Tryd.prog 31 #[.int .i64 ((n : Int) / 10)] w fun e w' => e = .returned (.string ⟨(Lib.decDigits (n / 10)).toArray⟩) ∧ Below w.heap.size w w' := fun w => ih (n / 10) (by omega) (by omega) w
      have IH := hide ih'
      clear ih ih'
      have hcv := conv_one (48 + (n : Int) % 10) (dig (n % 10)) (by have := digit (n % 10) (by omega); omega)
      have q1 : IntKind.i64.wrap ((n : Int) / 10) = (n : Int) / 10 := by rw [IntKind.wrap_i64]; omega
      have q2 : IntKind.i64.wrap ((n : Int) % 10) = (n : Int) % 10 := by rw [IntKind.wrap_i64]; omega
      have q3 : IntKind.i64.wrap (48 + (n : Int) % 10) = 48 + (n : Int) % 10 := by rw [IntKind.wrap_i64]; omega
      have q5 : (n : Int).tmod 10 = (n : Int) % 10 := Int.tmod_eq_emod_of_nonneg (by omega)
      have hl : (Lib.decDigits (n / 10)).length ≤ 21 := by rw [← Lib.itoa_nonneg]; exact Lib.itoa_length_le _ (by omega) (by omega)
      have q4 : IntKind.u8.wrap (48 + (n : Int) % 10) = 48 + (n : Int) % 10 := by rw [IntKind.wrap_u8]; omega
      go_enter Tryd.func31, Tryd.ntmps31
      go_wp2_with fail
      go_region_with (go_at_call 31; refine (IH _).mono ?_; rintro e w1 ⟨rfl, hB1⟩; have hc1 := (bcell hB1).1)
      all_goals
        go_wp2
        go_ret
        refine ⟨ret_str ?_, ?_⟩
        · rw [decDigits_snoc h]
          apply ByteArray.ext
          simp
        · first
            | exact ((Below.refl _ _).drew.trans hB1).alloc hB1.size _
            | exact (((Below.refl _ _).alloc (Nat.le_refl _) _).drew).trans (hB1.mono (by simp))

end Go.Proofs.YtolpgafkojlkoaaDoor.Vp
