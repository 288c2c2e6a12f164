/-
  isName leaves the world as it is.
-/
import Derived.Test.YtolpgafkojlkoabDoorDName
namespace Go.Proofs.YtolpgafkojlkoabDoor.Vp
open Go.RowKit

set_option maxHeartbeats 1000000 in
theorem isName_same (s : ByteArray) (w : World) : Calls Tryd.prog 32 #[.string s] w fun e w' => e = .returned (.bool (nameOk s)) ∧ w' = w := by
  by_cases h1 : 1 ≤ (s.size : Int)
  · by_cases h2 : (s.size : Int) ≤ 60
    · have HV : Hid (nameOk s = nameTo s s.size) := by
        show nameOk s = nameTo s s.size
        unfold nameOk
        rw [show decide (1 ≤ s.size ∧ s.size ≤ 60) = true by simp; omega, Bool.true_and]
      go_enter Tryd.func32, Tryd.ntmps32
      go_wp2
      go_loopw [14] (fun i wr => ∃ k : Nat, k ≤ s.size ∧ i = .int .i64 k ∧ nameTo s k = true ∧ wr = w) (fun i _ => s.size - (intOf i).toNat)
      case atStart => exact ⟨0, by omega, rfl, rfl, rfl⟩
      case round =>
        obtain ⟨k, hk, rfl, hok, hB⟩ := hrel
        have HB := hide hB
        have HK := hide hok
        clear hB hok
        by_cases hlt : k < s.size
        · by_cases p1 : 33 ≤ (s[k].toNat : Int)
          · by_cases p2 : (s[k].toNat : Int) ≤ 126
            · go_wp2
              exact ⟨⟨k + 1, by omega, by go_num, by rw [nameTo_succ hlt, HK.out]; simp; omega, HB⟩, by simp [intOf]; omega⟩
            · go_wp2
              go_ret
              exact ⟨ret_bool (by rw [HV.out, nameTo_false hlt (by omega)]), HB⟩
          · go_wp2
            go_ret
            exact ⟨ret_bool (by rw [HV.out, nameTo_false hlt (by omega)]), HB⟩
        · have e : k = s.size := by omega
          subst e
          go_wp2
          go_ret
          exact ⟨ret_bool (by rw [HV.out, HK.out]), HB.out⟩
    · have e : nameOk s = false := by
        unfold nameOk
        rw [show decide (1 ≤ s.size ∧ s.size ≤ 60) = false by simp; omega, Bool.false_and]
      rw [e]
      clear e
      go_enter Tryd.func32, Tryd.ntmps32
      go_wp2
      go_ret
      exact ⟨rfl, rfl⟩
  · have e : nameOk s = false := by
      unfold nameOk
      rw [show decide (1 ≤ s.size ∧ s.size ≤ 60) = false by simp; omega, Bool.false_and]
    rw [e]
    clear e
    go_enter Tryd.func32, Tryd.ntmps32
    go_wp2
    go_ret
    exact ⟨rfl, rfl⟩

end Go.Proofs.YtolpgafkojlkoabDoor.Vp
