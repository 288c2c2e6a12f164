/-
  FormResult, both ways; the law.
-/
import Derived.Test.YtolpgafkojlkoaaDoorDBase
import Derived.Test.YtolpgafkojlkoaaDoorDDec
import Derived.Test.YtolpgafkojlkoaaDoorDItoa
namespace Go.Proofs.YtolpgafkojlkoaaDoor.Vp
open Go.RowKit

/-- The form of a result. -/
def formT (c : Int) (t : ByteArray) (n : Nat) : ByteArray := if 0 ≤ c ∧ c ≤ 5 ∧ t.size ≤ 2000 ∧ n = 0 then (⟨(Lib.decDigits c.toNat).toArray⟩ : ByteArray) ++ ⟨#[58]⟩ ++ t else ⟨#[]⟩
theorem dec1 {k : Nat} (h : k ≤ 5) : (Lib.decDigits k).length = 1 := by rw [Lib.decDigits_one (by omega)]; rfl
theorem dec1s {k : Nat} (h : k ≤ 5) : (⟨(Lib.decDigits k).toArray⟩ : ByteArray).size = 1 := by
  show (Lib.decDigits k).toArray.size = 1
  simp [dec1 h]

set_option maxHeartbeats 2000000 in
theorem implForm_no (c : Int) (t : ByteArray) (a : Option Addr) (n cap : Nat) (w : World) (h : ¬ (0 ≤ c ∧ c ≤ 5 ∧ (t.size : Int) ≤ 2000 ∧ (n : Int) ≤ 0)) :
    Calls Tryd.prog 11 #[.agg #[.int .i64 c, .string t, .slice a n cap]] w fun e w' => e = .returned (.string ⟨#[]⟩) ∧ Below w.heap.size w w' := by
  by_cases h1 : 0 ≤ c
  · by_cases h2 : c ≤ 5
    · by_cases h3 : (t.size : Int) ≤ 2000
      · have h4 : ¬ (n : Int) ≤ 0 := by omega
        go_enter Tryd.func11, Tryd.ntmps11
        go_wp2
        go_ret
        exact ⟨rfl, (Below.refl _ _).alloc (Nat.le_refl _) _⟩
      · go_enter Tryd.func11, Tryd.ntmps11
        go_wp2
        go_ret
        exact ⟨rfl, (Below.refl _ _).alloc (Nat.le_refl _) _⟩
    · go_enter Tryd.func11, Tryd.ntmps11
      go_wp2
      go_ret
      exact ⟨rfl, (Below.refl _ _).alloc (Nat.le_refl _) _⟩
  · go_enter Tryd.func11, Tryd.ntmps11
    go_wp2
    go_ret
    exact ⟨rfl, (Below.refl _ _).alloc (Nat.le_refl _) _⟩

set_option maxHeartbeats 2000000 in
theorem specForm_no (c : Int) (t : ByteArray) (a : Option Addr) (n cap : Nat) (w : World) (h : ¬ (0 ≤ c ∧ c ≤ 5 ∧ (t.size : Int) ≤ 2000 ∧ (n : Int) ≤ 0)) :
    Calls Tryd.prog 9 #[.agg #[.int .i64 c, .string t, .slice a n cap]] w fun e w' => e = .returned (.string ⟨#[]⟩) ∧ Below w.heap.size w w' := by
  by_cases h1 : 0 ≤ c
  · by_cases h2 : c ≤ 5
    · by_cases h3 : (t.size : Int) ≤ 2000
      · have h4 : ¬ (n : Int) ≤ 0 := by omega
        go_enter Tryd.func9, Tryd.ntmps9
        go_wp2
        go_ret
        exact ⟨rfl, (Below.refl _ _).alloc (Nat.le_refl _) _⟩
      · go_enter Tryd.func9, Tryd.ntmps9
        go_wp2
        go_ret
        exact ⟨rfl, (Below.refl _ _).alloc (Nat.le_refl _) _⟩
    · go_enter Tryd.func9, Tryd.ntmps9
      go_wp2
      go_ret
      exact ⟨rfl, (Below.refl _ _).alloc (Nat.le_refl _) _⟩
  · go_enter Tryd.func9, Tryd.ntmps9
    go_wp2
    go_ret
    exact ⟨rfl, (Below.refl _ _).alloc (Nat.le_refl _) _⟩

set_option maxHeartbeats 2000000 in
theorem implForm_yes (k : Nat) (t : ByteArray) (a : Option Addr) (cap : Nat) (w : World) (hk : k ≤ 5) (ht : (t.size : Int) ≤ 2000) (hP : Pow w) :
    Calls Tryd.prog 11 #[.agg #[.int .i64 k, .string t, .slice a 0 cap]] w fun e w' => e = .returned (.string ((⟨(Lib.decDigits k).toArray⟩ : ByteArray) ++ ⟨#[58]⟩ ++ t)) ∧ Below w.heap.size w w' := by
  have HP := hide hP
  have hd := dec1s hk
  clear hP
  obtain ⟨D, hD⟩ : ∃ D : ByteArray, D = ⟨(Lib.decDigits k).toArray⟩ := ⟨_, rfl⟩
  rw [← hD] at hd ⊢
  have HD := hide hD
  clear hD
  go_enter Tryd.func11, Tryd.ntmps11
  have A0 := hide ((Below.refl w.heap.size w).alloc (Nat.le_refl _) (.cells #[.int .i64 k, .string t, .slice a 0 cap] 27))
  have HP1 := hide (HP.out.below A0.out (Nat.le_refl _))
  go_wp2_with fail
  go_region_with (go_at_call 33; refine (itoa_any k _ (by omega) ?_).mono ?_; (first | exact HP1.out | exact HP1.out.below (Below.refl _ _).drew (Nat.le_refl _)); rintro e w1 ⟨rfl, hB1⟩; rw [← HD.out]; have C1 : w1.cell? ⟨w.heap.size, 1, none⟩ = some (.string t) := (hB1.cell (p := ⟨w.heap.size, 1, none⟩) (by simp)).trans (by simp); have B1 : Hid (Below w.heap.size w w1) := Below.trans (by repeat (first | exact A0.out | apply Below.drew)) (hB1.mono (by simp)); clear hB1)
  all_goals
    go_wp2
    go_ret
    exact ⟨rfl, by repeat (first | exact B1.out | apply Below.drew)⟩

set_option maxHeartbeats 2000000 in
theorem specForm_yes (k : Nat) (t : ByteArray) (a : Option Addr) (cap : Nat) (w : World) (hk : k ≤ 5) (ht : (t.size : Int) ≤ 2000) :
    Calls Tryd.prog 9 #[.agg #[.int .i64 k, .string t, .slice a 0 cap]] w fun e w' => e = .returned (.string ((⟨(Lib.decDigits k).toArray⟩ : ByteArray) ++ ⟨#[58]⟩ ++ t)) ∧ Below w.heap.size w w' := by
  have hd := dec1s hk
  obtain ⟨D, hD⟩ : ∃ D : ByteArray, D = ⟨(Lib.decDigits k).toArray⟩ := ⟨_, rfl⟩
  rw [← hD] at hd ⊢
  have HD := hide hD
  clear hD
  go_enter Tryd.func9, Tryd.ntmps9
  have A0 := hide ((Below.refl w.heap.size w).alloc (Nat.le_refl _) (.cells #[.int .i64 k, .string t, .slice a 0 cap] 27))
  go_wp2_with fail
  go_region_with (go_at_call 31; refine (l1Dec_any k (by omega) _).mono ?_; rintro e w1 ⟨rfl, hB1⟩; rw [← HD.out]; have C1 : w1.cell? ⟨w.heap.size, 1, none⟩ = some (.string t) := (hB1.cell (p := ⟨w.heap.size, 1, none⟩) (by simp)).trans (by simp); have B1 : Hid (Below w.heap.size w w1) := Below.trans (by repeat (first | exact A0.out | apply Below.drew)) (hB1.mono (by simp)); clear hB1)
  all_goals
    go_wp2
    go_ret
    exact ⟨rfl, by repeat (first | exact B1.out | apply Below.drew)⟩

theorem formT_yes {k : Nat} {t : ByteArray} (hk : k ≤ 5) (ht : (t.size : Int) ≤ 2000) : formT k t 0 = (⟨(Lib.decDigits k).toArray⟩ : ByteArray) ++ ⟨#[58]⟩ ++ t := by
  unfold formT
  rw [if_pos (by omega)]
  rfl
theorem implForm_any (c : Int) (t : ByteArray) (a : Option Addr) (n cap : Nat) (w : World) (hP : Pow w) :
    Calls Tryd.prog 11 #[.agg #[.int .i64 c, .string t, .slice a n cap]] w fun e w' => e = .returned (.string (formT c t n)) ∧ Below w.heap.size w w' := by
  by_cases h : 0 ≤ c ∧ c ≤ 5 ∧ (t.size : Int) ≤ 2000 ∧ (n : Int) ≤ 0
  · obtain ⟨k, rfl⟩ := Int.eq_ofNat_of_zero_le h.1
    obtain rfl : n = 0 := by omega
    rw [formT_yes (by omega) h.2.2.1]
    exact implForm_yes k t a cap w (by omega) h.2.2.1 hP
  · have e : formT c t n = ⟨#[]⟩ := by unfold formT; rw [if_neg (by omega)]
    rw [e]
    exact implForm_no c t a n cap w h
theorem specForm_any (c : Int) (t : ByteArray) (a : Option Addr) (n cap : Nat) (w : World) :
    Calls Tryd.prog 9 #[.agg #[.int .i64 c, .string t, .slice a n cap]] w fun e w' => e = .returned (.string (formT c t n)) ∧ Below w.heap.size w w' := by
  by_cases h : 0 ≤ c ∧ c ≤ 5 ∧ (t.size : Int) ≤ 2000 ∧ (n : Int) ≤ 0
  · obtain ⟨k, rfl⟩ := Int.eq_ofNat_of_zero_le h.1
    obtain rfl : n = 0 := by omega
    rw [formT_yes (by omega) h.2.2.1]
    exact specForm_yes k t a cap w (by omega) h.2.2.1
  · have e : formT c t n = ⟨#[]⟩ := by unfold formT; rw [if_neg (by omega)]
    rw [e]
    exact specForm_no c t a n cap w h

end Go.Proofs.YtolpgafkojlkoaaDoor.Vp
