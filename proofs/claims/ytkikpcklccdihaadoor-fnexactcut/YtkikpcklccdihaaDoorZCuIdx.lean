/-
  impl: the place of a name; spec: the same.
-/
import Derived.Test.YtkikpcklccdihaaDoorZCuPure
import Derived.Test.YtkikpcklccdihaaDoorZDOne
namespace Go.Proofs.YtkikpcklccdihaaDoor.Vp
open Go.RowKit

set_option maxRecDepth 100000 in
set_option maxHeartbeats 4000000 in
theorem cut1_any (x : Deed) (a4 a5 : Option Addr) (n4 n5 c4 c5 bn : Nat) (t : ByteArray) (w : World) (hn : w.cell? ⟨bn, 0, none⟩ = some (.string t)) (hnl : bn < w.heap.size) :
    Calls Tryd.prog 19 #[.agg #[.string x.name, .int .i64 x.kind, .int .i64 x.code, .string x.text, .slice a4 n4 c4, .slice a5 n5 c5], .pointer (some ⟨bn, 0, none⟩)] w fun e w' => e = .returned (.bool (x.name.toList == t.toList)) ∧ Below w.heap.size w w' := by
  have A0 := hide ((Below.refl w.heap.size w).alloc (Nat.le_refl _) (.cells #[.string x.name, .int .i64 x.kind, .int .i64 x.code, .string x.text, .slice a4 n4 c4, .slice a5 n5 c5] 49))
  have n0 := (A0.out.cell (p := ⟨bn, 0, none⟩) hnl).trans hn
  clear hn
  go_enter Tryd.func19, Tryd.ntmps19
  go_wp2
  go_ret
  exact ⟨rfl, A0.out⟩

set_option maxRecDepth 100000 in
set_option maxHeartbeats 4000000 in
theorem idxDeed_row (b off m c : Nat) (g : Nat → Deed) (bn : Nat) (t : ByteArray) (w : World) (hmm : (m : Int) ≤ 1048576) (hrow : RowDeed w b off m g) (hn : w.cell? ⟨bn, 0, none⟩ = some (.string t)) (hnl : bn < w.heap.size) :
    Calls Tryd.prog 18 #[.slice (some ⟨b, off, none⟩) m c, .func (.func 19) #[] #[.pointer (some ⟨bn, 0, none⟩)]] w fun e w' => e = .returned (.int .i64 (whereN g t m)) ∧ Below w.heap.size w w' := by
  have HW := hide hrow
  have HN := hide hn
  clear hrow hn
  go_enter Tryd.func18, Tryd.ntmps18
  go_wp2
  go_loopw [8] (fun i wr => ∃ k : Nat, k ≤ m ∧ i = .int .i64 k ∧ Hid (∀ j, j < k → (!((g j).name.toList == t.toList)) = true) ∧ Hid (Below w.heap.size w wr)) (fun i _ => m - (intOf i).toNat)
  case atStart => exact ⟨0, by omega, rfl, fun j hj => absurd hj (Nat.not_lt_zero _), Below.refl _ _⟩
  case round =>
    obtain ⟨k, hk, rfl, HK, HB⟩ := hrel
    by_cases hlt : k < m
    · obtain ⟨c0, c1, c2, c3, ⟨a4, d4, c4, _⟩, ⟨a5, d5, c5, _⟩⟩ := (HW.out.below HB.out (Nat.le_refl _)).2 k hlt
      cases hb : ((g k).name.toList == t.toList) with
      | true =>
        have HQ := hide hb
        clear hb
        go_wp2_with (go_at_call 19; refine (cut1_any (g k) a4 a5 _ _ d4 d5 bn t _ ((HB.out.cell (p := ⟨bn, 0, none⟩) hnl).trans HN.out) (Nat.lt_of_lt_of_le hnl HB.out.size)).mono ?_; rintro e w1 ⟨rfl, hB⟩; rw [HQ.out]; have B1 := hide (HB.out.trans (hB.mono HB.out.size)); clear hB)
        go_ret
        refine ⟨?_, B1.out⟩
        rw [whereN, firstNo_at hlt (by rw [HQ.out]; rfl) HK.out]
        rfl
      | false =>
        have HQ := hide hb
        clear hb
        go_wp2_with (go_at_call 19; refine (cut1_any (g k) a4 a5 _ _ d4 d5 bn t _ ((HB.out.cell (p := ⟨bn, 0, none⟩) hnl).trans HN.out) (Nat.lt_of_lt_of_le hnl HB.out.size)).mono ?_; rintro e w1 ⟨rfl, hB⟩; rw [HQ.out]; have B1 := hide (HB.out.trans (hB.mono HB.out.size)); clear hB)
        refine ⟨⟨k + 1, by omega, by go_num, fun j hj => ?_, B1.out⟩, by simp [intOf]; omega⟩
        by_cases e : j = k
        · subst e; rw [HQ.out]; rfl
        · exact HK.out j (by omega)
    · have e : k = m := by omega
      subst e
      go_wp2
      go_ret
      refine ⟨?_, HB.out⟩
      rw [whereN, firstNo_all HK.out]
      rfl

set_option maxRecDepth 100000 in
set_option maxHeartbeats 4000000 in
theorem l3At_row (b off m c : Nat) (g : Nat → Deed) (t : ByteArray) (w : World) (hmm : (m : Int) ≤ 1048576) (hrow : RowDeed w b off m g) :
    Calls Tryd.prog 12 #[.agg #[.slice (some ⟨b, off, none⟩) m c], .string t] w fun e w' => e = .returned (.int .i64 (whereN g t m)) ∧ Below w.heap.size w w' := by
  have A0 := hide ((Below.refl w.heap.size w).alloc (Nat.le_refl _) (.cells #[.slice (some ⟨b, off, none⟩) m c] 28))
  have HW := hide (hrow.below A0.out (Nat.le_refl _))
  have k0 : (w.alloc (.cells #[.slice (some ⟨b, off, none⟩) m c] 28)).cell? ⟨w.heap.size, 0, none⟩ = some (.slice (some ⟨b, off, none⟩) m c) := by simp
  clear hrow
  go_enter Tryd.func12, Tryd.ntmps12
  go_wp2
  generalize w.alloc (.cells #[.slice (some ⟨b, off, none⟩) m c] 28) = W at A0 HW k0 ⊢
  go_loop [5] (fun i => ∃ k : Nat, k ≤ m ∧ i = .int .i64 k ∧ Hid (∀ j, j < k → (!((g j).name.toList == t.toList)) = true)) (fun i => m - (intOf i).toNat)
  case atStart => exact ⟨0, by omega, rfl, fun j hj => absurd hj (Nat.not_lt_zero _)⟩
  case round =>
    obtain ⟨k, hk, rfl, HK⟩ := hrel
    by_cases hlt : k < m
    · obtain ⟨c0, _⟩ := HW.out.2 k hlt
      cases hb : ((g k).name.toList == t.toList) with
      | true =>
        have HQ := hide hb
        go_wp2
        go_ret
        refine ⟨?_, A0.out⟩
        rw [whereN, firstNo_at hlt (by rw [HQ.out]; rfl) HK.out]
        rfl
      | false =>
        have HQ := hide hb
        go_wp2
        refine ⟨⟨k + 1, by omega, by go_num, fun j hj => ?_⟩, by simp [intOf]; omega⟩
        by_cases e : j = k
        · subst e; rw [HQ.out]; rfl
        · exact HK.out j (by omega)
    · have e : k = m := by omega
      subst e
      go_wp2
      go_ret
      refine ⟨?_, A0.out⟩
      rw [whereN, firstNo_all HK.out]
      rfl

set_option maxRecDepth 100000 in
set_option maxHeartbeats 4000000 in
theorem l3At_nil (a : Option Addr) (c : Nat) (g : Nat → Deed) (t : ByteArray) (w : World) :
    Calls Tryd.prog 12 #[.agg #[.slice a 0 c], .string t] w fun e w' => e = .returned (.int .i64 (whereN g t 0)) ∧ Below w.heap.size w w' := by
  have A0 := hide ((Below.refl w.heap.size w).alloc (Nat.le_refl _) (.cells #[.slice a 0 c] 28))
  have k0 : (w.alloc (.cells #[.slice a 0 c] 28)).cell? ⟨w.heap.size, 0, none⟩ = some (.slice a 0 c) := by simp
  go_enter Tryd.func12, Tryd.ntmps12
  go_wp2
  generalize w.alloc (.cells #[.slice a 0 c] 28) = W at A0 k0 ⊢
  go_loop [5] (fun i => i = .int .i64 0) (fun _ => 0)
  case atStart => rfl
  case round =>
    subst hrel
    go_wp2
    go_ret
    exact ⟨rfl, A0.out⟩
theorem l3At_any (a : Option Addr) (m c : Nat) (g : Nat → Deed) (t : ByteArray) (w : World) (hmm : (m : Int) ≤ 1048576) (hv : SlDeed w a m g) :
    Calls Tryd.prog 12 #[.agg #[.slice a m c], .string t] w fun e w' => e = .returned (.int .i64 (whereN g t m)) ∧ Below w.heap.size w w' := by
  by_cases hz : m = 0
  · subst hz
    exact l3At_nil a c g t w
  · obtain ⟨b, off, rfl, hr⟩ := hv.resolve_left hz
    exact l3At_row b off m c g t w hmm hr

end Go.Proofs.YtkikpcklccdihaaDoor.Vp
