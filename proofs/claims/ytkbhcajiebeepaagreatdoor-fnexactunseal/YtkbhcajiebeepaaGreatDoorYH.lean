/-
  Put together of: SeOf.
-/
import Derived.Test.YtkbhcajiebeepaaGreatDoorZO
import Derived.Test.YtkbhcajiebeepaaGreatDoorYB

/-
  Seal: impl.sealOf.
-/
namespace Go.Proofs.YtkbhcajiebeepaaGreatDoor.Vp
open Go.RowKit

theorem digTo_pad {N m : Nat} (h : N < 16 ^ m) : ∀ c, digTo N (m + c) = Lib.repeatL [48] c ++ digTo N m
  | 0 => by simp [Lib.repeatL]
  | c + 1 => by
    have hlt : N < 16 ^ (m + c) := Nat.lt_of_lt_of_le h (Nat.pow_le_pow_right (by omega) (by omega))
    have e : N / 16 ^ (m + c) = 0 := Nat.div_eq_of_lt hlt
    rw [show m + (c + 1) = m + c + 1 by omega, digTo, e, digTo_pad h c]
    rfl
/-- what stands ahead of a form under a key. -/
def sealT (form key : ByteArray) : List UInt8 := digTo (sumTo (key ++ ⟨#[10]⟩ ++ form) (key ++ ⟨#[10]⟩ ++ form).size).toNat 16 ++ [10]
theorem repeat_len (c : Nat) : (Lib.repeatL [48] c).length = c := by
  induction c with
  | zero => rfl
  | succ c ih => simp [Lib.repeatL, ih]

set_option maxHeartbeats 1000000 in
theorem formatUint_in (N : Nat) (w : World) (hN : N ≤ 18446744073709551615) (h : Deb w) (hg : 10 < w.heap.size) :
    Calls Tryz.prog 70 #[.int .u64 (N : Int), .int .i64 16] w fun e w' => ∃ m : Nat, m ≤ 16 ∧ N < 16 ^ m ∧ e = .returned (.string ⟨(digTo N m).toArray⟩) ∧ Below w.heap.size w w' := by
  have H := hide h
  clear h
  go_enter Tryz.func70, Tryz.ntmps70
  go_wp2_with fail
  refine (formatBits_16 N _ hN H.out hg).mono ?_
  rintro e w1 ⟨m, hm, hlt, rfl, hB⟩
  have HB := hide hB
  have HL := hide hlt
  clear hB hlt
  go_wp2
  go_ret
  exact ⟨m, hm, HL.out, rfl, HB.out⟩

set_option maxHeartbeats 1000000 in
theorem formatUint_16 (N : Nat) (w : World) (hN : N ≤ 18446744073709551615) (h : Deb w) (hg : 10 < w.heap.size) :
    Calls Tryz.prog 45 #[.int .u64 (N : Int), .int .i64 16] w fun e w' => ∃ m : Nat, m ≤ 16 ∧ N < 16 ^ m ∧ e = .returned (.string ⟨(digTo N m).toArray⟩) ∧ Below w.heap.size w w' := by
  have H := hide h
  clear h
  go_enter Tryz.func45, Tryz.ntmps45
  go_wp2_with fail
  refine (formatUint_in N _ hN H.out hg).mono ?_
  rintro e w1 ⟨m, hm, hlt, rfl, hB⟩
  have HB := hide hB
  have HL := hide hlt
  clear hB hlt
  go_wp2
  go_ret
  exact ⟨m, hm, HL.out, rfl, HB.out⟩

set_option maxRecDepth 100000 in
set_option maxHeartbeats 2000000 in
theorem sealOf_any (form key : ByteArray) (w : World) (hf : form.size ≤ 1048576) (hk : key.size ≤ 60) (h : Deb w) (hg : 10 < w.heap.size) :
    Calls Tryz.prog 20 #[.string form, .string key] w fun e w' => e = .returned (.string ⟨(sealT form key).toArray⟩) ∧ Below w.heap.size w w' := by
  have H := hide h
  clear h
  obtain ⟨T, hT⟩ : ∃ T, T = sealT form key := ⟨_, rfl⟩
  rw [← hT]
  have hA1 : ¬ 9223372036854775807 < key.size + 1 := by omega
  have hA2 : ¬ 9223372036854775807 < key.size + 1 + form.size := by omega
  have hS : (key ++ ⟨#[10]⟩ ++ form).size ≤ 1048637 := by simp only [ByteArray.size_append]; have : (⟨#[10]⟩ : ByteArray).size = 1 := rfl; omega
  have SM := hide (sum_any (key ++ ⟨#[10]⟩ ++ form) w (by omega))
  obtain ⟨N, hN⟩ : ∃ N : Nat, sumTo (key ++ ⟨#[10]⟩ ++ form) (key ++ ⟨#[10]⟩ ++ form).size = (N : Int) := ⟨_, (Int.toNat_of_nonneg (sumTo_in _ _).1).symm⟩
  have hNb : N ≤ 18446744073709551615 := by have := (sumTo_in (key ++ ⟨#[10]⟩ ++ form) (key ++ ⟨#[10]⟩ ++ form).size).2; omega
  have HT : Hid (T = digTo N 16 ++ [10]) := by show _ = _; rw [hT]; unfold sealT; rw [hN]; rfl
  rw [hN] at SM
  clear hN hS hT
  go_enter Tryz.func20, Tryz.ntmps20
  go_wp2_with fail
  refine SM.out.mono ?_
  rintro e w1 ⟨rfl, rfl⟩
  go_wp2_with fail
  refine (formatUint_16 N _ hNb H.out hg).mono ?_
  rintro e w2 ⟨m, hm, hlt, rfl, hB⟩
  have HB := hide hB
  have hl := digTo_len N m
  obtain ⟨c, hc⟩ : ∃ c, m + c = 16 := ⟨16 - m, by omega⟩
  have HP : Hid (T = Lib.repeatL [48] c ++ digTo N m ++ [10]) := by show _ = _; rw [HT.out, ← hc, digTo_pad hlt c]
  have hrl := repeat_len c
  clear hB hlt HT SM
  generalize digTo N m = D at hl HP ⊢
  subst hl
  have hcm : (16 : Int) - (D.length : Int) = (c : Int) := by omega
  go_wp2_with fail
  refine (Tryz.strings_Repeat ⟨#[48]⟩ c _ (by omega) (by have e1 : (⟨#[48]⟩ : ByteArray).size = 1 := rfl; rw [e1]; omega)).mono ?_
  rintro e w3 ⟨rfl, hB3⟩
  have HB3 := hide (HB.out.trans (hB3.mono HB.out.size))
  clear hB3
  have e48 : (⟨#[48]⟩ : ByteArray).data.toList = [48] := rfl
  rw [e48]
  generalize Lib.repeatL [48] c = Rp at hrl HP ⊢
  go_wp2
  go_ret
  refine ⟨ret_str ?_, HB3.out⟩
  rw [HP.out]
  apply ByteArray.ext
  simp

end Go.Proofs.YtkbhcajiebeepaaGreatDoor.Vp
