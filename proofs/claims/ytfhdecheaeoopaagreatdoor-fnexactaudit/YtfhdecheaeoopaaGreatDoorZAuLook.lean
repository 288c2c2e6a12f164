/-
  spec: l2Source, l2Target: the place that they give.
-/
import Derived.Test.YtfhdecheaeoopaaGreatDoorZInsB
namespace Go.Proofs.YtfhdecheaeoopaaGreatDoor.Vp
open Go.RowKit

/-- a place: of the first of that name, or none. -/
def PlaceOf (g : Nat → ByteArray) (n : Nat) (t : ByteArray) (r : Int) : Prop := (r = -1 ∧ isIn g n t = false) ∨ ∃ k : Nat, r = k ∧ k < n ∧ ((g k).toList == t.toList) = true
theorem PlaceOf.has {g : Nat → ByteArray} {n : Nat} {t : ByteArray} {r : Int} (h : PlaceOf g n t r) : isIn g n t = decide (0 ≤ r) := by
  rcases h with ⟨rfl, h⟩ | ⟨k, rfl, hk, h⟩
  · rw [h]; rfl
  · rw [isIn_true hk h]; simp

set_option maxHeartbeats 1000000 in
theorem l2TargetAt_row (a0 : Option Addr) (n0 c0 b off n1 c1 : Nat) (f1 : Nat → Target) (t : ByteArray) (w : World) (hn1 : (n1 : Int) ≤ 1048576) (hv1 : RowTarget w b off n1 f1) :
    Calls Tryz.prog 29 #[.agg #[.slice a0 n0 c0, .slice (some ⟨b, off, none⟩) n1 c1], .string t] w fun e w' => ∃ r : Int, e = .returned (.int .i64 r) ∧ PlaceOf (nm1 f1) n1 t r ∧ Below w.heap.size w w' := by
  have A0 := hide ((Below.refl w.heap.size w).alloc (Nat.le_refl _) (.cells #[.slice a0 n0 c0, .slice (some ⟨b, off, none⟩) n1 c1] 43))
  have V1 := hide (hv1.below A0.out (Nat.le_refl _))
  have k1 : (w.alloc (.cells #[.slice a0 n0 c0, .slice (some ⟨b, off, none⟩) n1 c1] 43)).cell? ⟨w.heap.size, 1, none⟩ = some (.slice (some ⟨b, off, none⟩) n1 c1) := by simp
  clear hv1
  go_enter Tryz.func29, Tryz.ntmps29
  go_wp2
  generalize w.alloc (.cells #[.slice a0 n0 c0, .slice (some ⟨b, off, none⟩) n1 c1] 43) = W at A0 V1 k1 ⊢
  go_loop [5] (fun i => ∃ k : Nat, k ≤ n1 ∧ i = .int .i64 k ∧ Hid (isIn (nm1 f1) k t = false)) (fun i => n1 - (intOf i).toNat)
  case atStart => exact ⟨0, by omega, rfl, rfl⟩
  case round =>
    obtain ⟨k, hk, rfl, HK⟩ := hrel
    by_cases hlt : k < n1
    · obtain ⟨d0, ka, kc, d1, _⟩ := V1.out.2 k hlt
      cases hb : ((f1 k).name.toList == t.toList) with
      | true =>
        have HB := hide hb
        go_wp2
        go_ret
        exact ⟨k, rfl, .inr ⟨k, rfl, hlt, HB.out⟩, A0.out⟩
      | false =>
        have HB := hide hb
        go_wp2
        exact ⟨⟨k + 1, by omega, by go_num, by show isIn (nm1 f1) (k + 1) t = false; rw [isIn_succ, HK.out]; exact HB.out⟩, by simp [intOf]; omega⟩
    · have e : k = n1 := by omega
      subst e
      go_wp2
      go_ret
      exact ⟨-1, rfl, .inl ⟨rfl, HK.out⟩, A0.out⟩
set_option maxHeartbeats 1000000 in
theorem l2TargetAt_nil (a0 : Option Addr) (n0 c0 : Nat) (a1 : Option Addr) (c1 : Nat) (g : Nat → ByteArray) (t : ByteArray) (w : World) :
    Calls Tryz.prog 29 #[.agg #[.slice a0 n0 c0, .slice a1 0 c1], .string t] w fun e w' => ∃ r : Int, e = .returned (.int .i64 r) ∧ PlaceOf g 0 t r ∧ Below w.heap.size w w' := by
  have A0 := hide ((Below.refl w.heap.size w).alloc (Nat.le_refl _) (.cells #[.slice a0 n0 c0, .slice a1 0 c1] 43))
  go_enter Tryz.func29, Tryz.ntmps29
  go_wp2
  go_loop [5] (fun i => i = .int .i64 0) (fun _ => 0)
  case atStart => rfl
  case round =>
    subst hrel
    go_wp2
    go_ret
    exact ⟨-1, rfl, .inl ⟨rfl, isIn_zero _ _⟩, A0.out⟩
theorem l2TargetAt_any (a0 : Option Addr) (n0 c0 : Nat) (a1 : Option Addr) (n1 c1 : Nat) (f1 : Nat → Target) (t : ByteArray) (w : World) (hn1 : (n1 : Int) ≤ 1048576) (hv1 : SlTarget w a1 n1 f1) :
    Calls Tryz.prog 29 #[.agg #[.slice a0 n0 c0, .slice a1 n1 c1], .string t] w fun e w' => ∃ r : Int, e = .returned (.int .i64 r) ∧ PlaceOf (nm1 f1) n1 t r ∧ Below w.heap.size w w' := by
  rcases hv1 with rfl | ⟨b, off, rfl, hr⟩
  · exact l2TargetAt_nil a0 n0 c0 a1 c1 (nm1 f1) t w
  · exact l2TargetAt_row a0 n0 c0 b off n1 c1 f1 t w hn1 hr

set_option maxHeartbeats 1000000 in
theorem l2SourceAt_row (b off n0 c0 : Nat) (a1 : Option Addr) (n1 c1 : Nat) (f0 : Nat → Source) (t : ByteArray) (w : World) (hn0 : (n0 : Int) ≤ 1048576) (hv0 : RowSource w b off n0 f0) :
    Calls Tryz.prog 28 #[.agg #[.slice (some ⟨b, off, none⟩) n0 c0, .slice a1 n1 c1], .string t] w fun e w' => ∃ r : Int, e = .returned (.int .i64 r) ∧ PlaceOf (nm0 f0) n0 t r ∧ Below w.heap.size w w' := by
  have A0 := hide ((Below.refl w.heap.size w).alloc (Nat.le_refl _) (.cells #[.slice (some ⟨b, off, none⟩) n0 c0, .slice a1 n1 c1] 43))
  have V0 := hide (hv0.below A0.out (Nat.le_refl _))
  have k0 : (w.alloc (.cells #[.slice (some ⟨b, off, none⟩) n0 c0, .slice a1 n1 c1] 43)).cell? ⟨w.heap.size, 0, none⟩ = some (.slice (some ⟨b, off, none⟩) n0 c0) := by simp
  clear hv0
  go_enter Tryz.func28, Tryz.ntmps28
  go_wp2
  generalize w.alloc (.cells #[.slice (some ⟨b, off, none⟩) n0 c0, .slice a1 n1 c1] 43) = W at A0 V0 k0 ⊢
  go_loop [5] (fun i => ∃ k : Nat, k ≤ n0 ∧ i = .int .i64 k ∧ Hid (isIn (nm0 f0) k t = false)) (fun i => n0 - (intOf i).toNat)
  case atStart => exact ⟨0, by omega, rfl, rfl⟩
  case round =>
    obtain ⟨k, hk, rfl, HK⟩ := hrel
    by_cases hlt : k < n0
    · obtain ⟨d0, d1⟩ := V0.out.2 k hlt
      cases hb : ((f0 k).name.toList == t.toList) with
      | true =>
        have HB := hide hb
        go_wp2
        go_ret
        exact ⟨k, rfl, .inr ⟨k, rfl, hlt, HB.out⟩, A0.out⟩
      | false =>
        have HB := hide hb
        go_wp2
        exact ⟨⟨k + 1, by omega, by go_num, by show isIn (nm0 f0) (k + 1) t = false; rw [isIn_succ, HK.out]; exact HB.out⟩, by simp [intOf]; omega⟩
    · have e : k = n0 := by omega
      subst e
      go_wp2
      go_ret
      exact ⟨-1, rfl, .inl ⟨rfl, HK.out⟩, A0.out⟩
set_option maxHeartbeats 1000000 in
theorem l2SourceAt_nil (a0 : Option Addr) (c0 : Nat) (a1 : Option Addr) (n1 c1 : Nat) (g : Nat → ByteArray) (t : ByteArray) (w : World) :
    Calls Tryz.prog 28 #[.agg #[.slice a0 0 c0, .slice a1 n1 c1], .string t] w fun e w' => ∃ r : Int, e = .returned (.int .i64 r) ∧ PlaceOf g 0 t r ∧ Below w.heap.size w w' := by
  have A0 := hide ((Below.refl w.heap.size w).alloc (Nat.le_refl _) (.cells #[.slice a0 0 c0, .slice a1 n1 c1] 43))
  go_enter Tryz.func28, Tryz.ntmps28
  go_wp2
  go_loop [5] (fun i => i = .int .i64 0) (fun _ => 0)
  case atStart => rfl
  case round =>
    subst hrel
    go_wp2
    go_ret
    exact ⟨-1, rfl, .inl ⟨rfl, isIn_zero _ _⟩, A0.out⟩
theorem l2SourceAt_any (a0 : Option Addr) (n0 c0 : Nat) (a1 : Option Addr) (n1 c1 : Nat) (f0 : Nat → Source) (t : ByteArray) (w : World) (hn0 : (n0 : Int) ≤ 1048576) (hv0 : SlSource w a0 n0 f0) :
    Calls Tryz.prog 28 #[.agg #[.slice a0 n0 c0, .slice a1 n1 c1], .string t] w fun e w' => ∃ r : Int, e = .returned (.int .i64 r) ∧ PlaceOf (nm0 f0) n0 t r ∧ Below w.heap.size w w' := by
  rcases hv0 with rfl | ⟨b, off, rfl, hr⟩
  · exact l2SourceAt_nil a0 c0 a1 n1 c1 (nm0 f0) t w
  · exact l2SourceAt_row b off n0 c0 a1 n1 c1 f0 t w hn0 hr

end Go.Proofs.YtfhdecheaeoopaaGreatDoor.Vp
