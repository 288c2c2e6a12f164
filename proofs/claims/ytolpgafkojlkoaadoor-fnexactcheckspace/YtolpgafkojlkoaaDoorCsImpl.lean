/-
  impl: the small ones of CheckSpace.
-/
import Derived.Test.YtolpgafkojlkoaaDoorDSpace
import Derived.Test.YtolpgafkojlkoaaDoorDRowS
import Derived.Test.YtolpgafkojlkoaaDoorDName
import Derived.OwnWalk
namespace Go.Proofs.YtolpgafkojlkoaaDoor.Vp
open Go.RowKit

def namesTo (g : Nat → ByteArray) : Nat → Bool
  | 0 => true
  | k + 1 => namesTo g k && nameOk (g k)
theorem namesTo_mono {g : Nat → ByteArray} {k n : Nat} (h : k ≤ n) (hn : namesTo g n = true) : namesTo g k = true := by
  induction n with
  | zero => obtain rfl : k = 0 := by omega
            exact hn
  | succ m ih =>
    by_cases e : k = m + 1
    · subst e; exact hn
    · simp only [namesTo, Bool.and_eq_true] at hn
      exact ih (by omega) hn.1
theorem namesTo_false {g : Nat → ByteArray} {k n : Nat} (h : k < n) (hk : nameOk (g k) = false) : namesTo g n = false := by
  cases e : namesTo g n with
  | false => rfl
  | true =>
    have h2 := namesTo_mono (show k + 1 ≤ n by omega) e
    simp [namesTo, hk] at h2

set_option maxHeartbeats 1000000 in
theorem things_any (a0 a1 : Option Addr) (n0 c0 n1 c1 : Nat) (w : World) (h0 : (n0 : Int) ≤ 1048576) (h1 : (n1 : Int) ≤ 1048576) :
    Calls Tryd.prog 47 #[.agg #[.slice a0 n0 c0, .slice a1 n1 c1]] w fun e w' => e = .returned (.int .i64 ((n0 : Int) + n1)) ∧ Below w.heap.size w w' := by
  go_enter Tryd.func47, Tryd.ntmps47
  go_wp2
  go_ret
  exact ⟨rfl, (Below.refl _ _).alloc (Nat.le_refl _) _⟩

set_option maxHeartbeats 1000000 in
theorem areNames_row (b off n cap : Nat) (g : Nat → ByteArray) (w : World) (hn : (n : Int) ≤ 1048576) (hr : RowStr w b off n g) :
    Calls Tryd.prog 50 #[.slice (some ⟨b, off, none⟩) n cap] w fun e w' => e = .returned (.bool (namesTo g n)) ∧ Below w.heap.size w w' := by
  have HR := hide hr
  clear hr
  go_enter Tryd.func50, Tryd.ntmps50
  go_wp2
  go_loopw [7] (fun i wr => ∃ k : Nat, k ≤ n ∧ i = .int .i64 k ∧ Hid (namesTo g k = true) ∧ Below w.heap.size w wr) (fun i _ => n - (intOf i).toNat)
  case atStart => exact ⟨0, by omega, rfl, rfl, Below.refl _ _⟩
  case round =>
    obtain ⟨k, hk, rfl, HK, hB⟩ := hrel
    have HB := hide hB
    clear hB
    by_cases hlt : k < n
    · have c0 := (HR.below HB (Nat.le_refl _)).2 k hlt
      go_wp2_with fail
      refine (isName_any _ _).mono ?_
      rintro e w1 ⟨rfl, hB1⟩
      have B1 := hide (HB.trans (hB1.mono HB.size))
      clear hB1
      cases hq : nameOk (g k) with
      | true =>
        have HQ := hide hq
        clear hq
        go_wp2
        exact ⟨⟨k + 1, by omega, by go_num, by show namesTo g (k + 1) = true; simp [namesTo, HK.out, HQ.out], B1.out⟩, by simp [intOf]; omega⟩
      | false =>
        have HQ := hide hq
        clear hq
        go_wp2
        go_ret
        exact ⟨ret_bool (namesTo_false hlt HQ).symm, B1⟩
    · have e : k = n := by omega
      subst e
      go_wp2
      go_ret
      exact ⟨ret_bool HK.symm, HB⟩

set_option maxHeartbeats 1000000 in
theorem areNames_nil (a : Option Addr) (cap : Nat) (w : World) : Calls Tryd.prog 50 #[.slice a 0 cap] w fun e w' => e = .returned (.bool true) ∧ w' = w := by
  go_enter Tryd.func50, Tryd.ntmps50
  go_wp2
  go_loop [7] (fun i => i = .int .i64 0) (fun _ => 0)
  case atStart => rfl
  case round =>
    subst hrel
    go_wp2
    go_ret
    exact ⟨rfl, rfl⟩
theorem areNames_any (a : Option Addr) (n cap : Nat) (g : Nat → ByteArray) (w : World) (hn : (n : Int) ≤ 1048576) (hr : SlStr w a n g) :
    Calls Tryd.prog 50 #[.slice a n cap] w fun e w' => e = .returned (.bool (namesTo g n)) ∧ Below w.heap.size w w' := by
  rcases hr with rfl | ⟨b, off, rfl, hr⟩
  · exact (areNames_nil a cap w).mono fun e w' ⟨p, q⟩ => ⟨p, by rw [q]; exact Below.refl _ _⟩
  · exact areNames_row b off n cap g w hn hr

/-- The order of texts, as the walk tells it. -/
def ascTo (g : Nat → ByteArray) : Nat → Bool
  | 0 => true
  | 1 => true
  | k + 2 => ascTo g (k + 1) && Op.bytesLess (g k).toList (g (k + 1)).toList
theorem ascTo_mono {g : Nat → ByteArray} {k n : Nat} (h : k ≤ n) (hn : ascTo g n = true) : ascTo g k = true := by
  induction n with
  | zero => obtain rfl : k = 0 := by omega
            exact hn
  | succ m ih =>
    by_cases e : k = m + 1
    · subst e; exact hn
    · cases m with
      | zero => obtain rfl : k = 0 := by omega
                rfl
      | succ j =>
        simp only [ascTo, Bool.and_eq_true] at hn
        exact ih (by omega) hn.1
theorem ascTo_false {g : Nat → ByteArray} {k n : Nat} (h : k + 1 < n) (hk : Op.bytesLess (g k).toList (g (k + 1)).toList = false) : ascTo g n = false := by
  cases e : ascTo g n with
  | false => rfl
  | true =>
    have h2 := ascTo_mono (show k + 2 ≤ n by omega) e
    simp [ascTo, hk] at h2

set_option maxHeartbeats 1000000 in
theorem ascending_row (b off n cap : Nat) (g : Nat → ByteArray) (w : World) (hn : (n : Int) ≤ 1048576) (hr : RowStr w b off n g) :
    Calls Tryd.prog 51 #[.slice (some ⟨b, off, none⟩) n cap] w fun e w' => e = .returned (.bool (ascTo g n)) ∧ Below w.heap.size w w' := by
  have HR := hide hr
  clear hr
  go_enter Tryd.func51, Tryd.ntmps51
  go_wp2
  go_loopw [3] (fun i wr => ∃ k : Nat, (k + 1 ≤ n ∨ k = 0) ∧ i = .int .i64 ((k : Int) + 1) ∧ Hid (ascTo g (k + 1) = true) ∧ Below w.heap.size w wr) (fun i _ => n + 1 - (intOf i).toNat)
  case atStart => exact ⟨0, .inr rfl, rfl, rfl, Below.refl _ _⟩
  case round =>
    obtain ⟨k, hk, rfl, HK, hB⟩ := hrel
    have HB := hide hB
    clear hB
    by_cases hlt : k + 1 < n
    · have c0 := (HR.below HB (Nat.le_refl _)).2 k (by omega)
      have c1 := (HR.below HB (Nat.le_refl _)).2 (k + 1) hlt
      have hlt' : (k : Int) + 1 < n := by omega
      go_wp2_with fail
      go_quiet (fail)
      have B1 := hide (below_drewN HB nq)
      clear c0 c1
      generalize wr.drewN nq = W at B1 ⊢
      cases hq : Op.bytesLess (g k).toList (g (k + 1)).toList with
      | true =>
        have HQ := hide hq
        clear hq
        go_wp2
        exact ⟨⟨k + 1, .inl (by omega), by go_num, by show ascTo g (k + 2) = true; simp [ascTo, HK.out, HQ.out], B1.out⟩, by simp [intOf]; omega⟩
      | false =>
        have HQ := hide hq
        clear hq
        go_wp2
        go_ret
        exact ⟨ret_bool (ascTo_false hlt HQ).symm, B1⟩
    · have hge : ¬ (k : Int) + 1 < n := by omega
      go_wp2
      go_ret
      exact ⟨ret_bool (ascTo_mono (show n ≤ k + 1 by omega) HK.out).symm, HB.out⟩

end Go.Proofs.YtolpgafkojlkoaaDoor.Vp
