/-
  spec: the small ones of CheckSpace.
-/
import Derived.Test.YtolpgafkojlkoaaDoorCsCheck
namespace Go.Proofs.YtolpgafkojlkoaaDoor.Vp
open Go.RowKit

theorem isIn_succ (g : Nat → ByteArray) (k : Nat) (t : ByteArray) : isIn g (k + 1) t = (isIn g k t || ((g k).toList == t.toList)) := by simp [isIn, List.range_succ]
theorem isIn_true {g : Nat → ByteArray} {k n : Nat} {t : ByteArray} (h : k < n) (hk : ((g k).toList == t.toList) = true) : isIn g n t = true := by
  simp only [isIn, List.any_eq_true, List.mem_range]
  exact ⟨k, h, hk⟩

set_option maxHeartbeats 1000000 in
theorem l2Target_row (a0 : Option Addr) (n0 c0 b off n1 c1 : Nat) (f1 : Nat → Target) (t : ByteArray) (w : World) (hn1 : (n1 : Int) ≤ 1048576) (hv1 : RowTarget w b off n1 f1) :
    Calls Tryd.prog 44 #[.agg #[.slice a0 n0 c0, .slice (some ⟨b, off, none⟩) n1 c1], .string t] w fun e w' => ∃ r : Int, e = .returned (.int .i64 r) ∧ decide (0 ≤ r) = isIn (nm1 f1) n1 t ∧ Below w.heap.size w w' := by
  obtain ⟨W, hwW⟩ : ∃ W : World, w.alloc (.cells #[.slice a0 n0 c0, .slice (some ⟨b, off, none⟩) n1 c1] 46) = W := ⟨_, rfl⟩
  obtain ⟨A0, -, -⟩ := nb1 hwW
  have HWW := hide hwW
  clear hwW
  have V1 := hide (hv1.below A0 (Nat.le_refl _))
  have k1 : W.cell? ⟨w.heap.size, 1, none⟩ = some (.slice (some ⟨b, off, none⟩) n1 c1) := by rw [← HWW.out]; simp
  clear hv1
  go_enter Tryd.func44, Tryd.ntmps44
  go_wp2
  rw [HWW.out]
  clear HWW
  go_loop [5] (fun i => ∃ k : Nat, k ≤ n1 ∧ i = .int .i64 k ∧ Hid (isIn (nm1 f1) k t = false)) (fun i => n1 - (intOf i).toNat)
  case atStart => exact ⟨0, by omega, rfl, rfl⟩
  case round =>
    obtain ⟨k, hk, rfl, HK⟩ := hrel
    by_cases hlt : k < n1
    · obtain ⟨d0, ka, kc, d1, _⟩ := V1.2 k hlt
      cases hb : ((f1 k).name.toList == t.toList) with
      | true =>
        have HB := hide hb
        go_wp2
        go_ret
        exact ⟨k, rfl, by rw [isIn_true (g := nm1 f1) hlt HB.out]; simp, A0.out⟩
      | false =>
        have HB := hide hb
        go_wp2
        exact ⟨⟨k + 1, by omega, by go_num, by show isIn (nm1 f1) (k + 1) t = false; rw [isIn_succ, HK.out]; exact HB⟩, by simp [intOf]; omega⟩
    · have e : k = n1 := by omega
      subst e
      go_wp2
      go_ret
      exact ⟨-1, rfl, by rw [HK.out]; rfl, A0⟩

end Go.Proofs.YtolpgafkojlkoaaDoor.Vp
