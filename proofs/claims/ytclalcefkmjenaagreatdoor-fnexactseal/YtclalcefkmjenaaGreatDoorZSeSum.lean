/-
  Seal: the sum of a text: impl.sum.
-/
import Derived.Test.YtclalcefkmjenaaGreatDoorZA
namespace Go.Proofs.YtclalcefkmjenaaGreatDoor.Vp
open Go.RowKit

def fnv (z : Int) (c : UInt8) : Int := IntKind.u64.wrap (bits BinOp.xor IntKind.u64 z (IntKind.u64.wrap (c.toNat : Int)) * 1099511628211)
/-- the sum of the first k bytes. -/
def sumTo (s : ByteArray) : Nat → Int
  | 0 => 14695981039346656037
  | k + 1 => fnv (sumTo s k) (s.data.toList.getD k 0)
theorem sumTo_in (s : ByteArray) (k : Nat) : 0 ≤ sumTo s k ∧ sumTo s k ≤ 18446744073709551615 := by
  cases k with
  | zero => exact ⟨(by decide : (0 : Int) ≤ 14695981039346656037), (by decide : (14695981039346656037 : Int) ≤ 18446744073709551615)⟩
  | succ k =>
    show 0 ≤ fnv _ _ ∧ fnv _ _ ≤ _
    unfold fnv
    rw [IntKind.wrap_u64]
    omega
theorem sumTo_succ (s : ByteArray) (k : Nat) (h : k < s.size) : sumTo s (k + 1) = IntKind.u64.wrap (bits BinOp.xor IntKind.u64 (sumTo s k) (IntKind.u64.wrap (s[k].toNat : Int)) * 1099511628211) := by
  have e : s.data.toList.getD k 0 = s[k] := by
    rw [List.getD_eq_getElem?_getD]
    have h2 : k < s.data.size := h
    rw [Array.getElem?_toList, Array.getElem?_eq_getElem h2]
    rfl
  rw [sumTo, fnv, e]

set_option maxHeartbeats 1000000 in
theorem sum_any (s : ByteArray) (w : World) (hs : (s.size : Int) ≤ 1048576) :
    Calls Tryz.prog 28 #[.string s] w fun e w' => e = .returned (.int .u64 (sumTo s s.size)) ∧ w' = w := by
  go_enter Tryz.func28, Tryz.ntmps28
  go_wp2
  go_loop [3, 7] (fun c i => ∃ (k : Nat) (z : Int), k ≤ s.size ∧ 0 ≤ z ∧ z ≤ 18446744073709551615 ∧ Hid (z = sumTo s k) ∧ c = .int .u64 z ∧ i = .int .i64 k) (fun _ i => s.size - (intOf i).toNat)
  case atStart => exact ⟨0, 14695981039346656037, by omega, by omega, by omega, rfl, rfl, rfl⟩
  case round =>
    obtain ⟨k, z, hk, hz0, hz1, HZ, rfl, rfl⟩ := hrel
    by_cases hlt : k < s.size
    · have HS : Hid (IntKind.u64.wrap (bits BinOp.xor IntKind.u64 z (IntKind.u64.wrap (s[k].toNat : Int)) * 1099511628211) = sumTo s (k + 1)) := by show _ = _; rw [HZ.out]; exact (sumTo_succ s k hlt).symm
      have HI := hide (sumTo_in s (k + 1))
      go_wp2
      rw [HS.out]
      exact ⟨⟨k + 1, _, by omega, HI.out.1, HI.out.2, rfl, rfl, by go_num⟩, by simp [intOf]; omega⟩
    · obtain rfl : k = s.size := by omega
      go_wp2
      go_ret
      exact ⟨by rw [← HZ.out]; rfl, by rfl⟩

end Go.Proofs.YtclalcefkmjenaaGreatDoor.Vp
