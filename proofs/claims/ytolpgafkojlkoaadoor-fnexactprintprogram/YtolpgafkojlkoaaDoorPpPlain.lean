/-
  impl.plain.
-/
import Derived.Test.YtolpgafkojlkoaaDoorPpDef
namespace Go.Proofs.YtolpgafkojlkoaaDoor.Vp
open Go.RowKit

theorem plainC_true {c : UInt8} (p1 : 32 ≤ (c.toNat : Int)) (p2 : (c.toNat : Int) ≤ 126) (p3 : ((c.toNat : Int) != 34) = true) (p4 : ((c.toNat : Int) != 92) = true) : plainC c = true := by
  simp only [bne_iff_ne, ne_eq] at p3 p4
  simp [plainC]
  omega
theorem plainC_false {c : UInt8} (h : ¬ (32 ≤ (c.toNat : Int) ∧ (c.toNat : Int) ≤ 126 ∧ ((c.toNat : Int) != 34) = true ∧ ((c.toNat : Int) != 92) = true)) : plainC c = false := by
  simp only [bne_iff_ne, ne_eq] at h
  simp [plainC]
  omega

set_option maxRecDepth 100000 in
set_option maxHeartbeats 1000000 in
theorem plain_any (c : UInt8) (w : World) : Calls Tryd.prog 95 #[.int .u8 c.toNat] w fun e w' => e = .returned (.bool (plainC c)) ∧ w' = w := by
  by_cases hp : 32 ≤ (c.toNat : Int) ∧ (c.toNat : Int) ≤ 126 ∧ ((c.toNat : Int) != 34) = true ∧ ((c.toNat : Int) != 92) = true
  · obtain ⟨p1, p2, p3, p4⟩ := hp
    rw [plainC_true p1 p2 p3 p4]
    go_enter Tryd.func95, Tryd.ntmps95
    go_wp2
    go_ret
    exact ⟨rfl, rfl⟩
  · rw [plainC_false hp]
    have hn : (c.toNat : Int) < 32 ∨ (32 ≤ (c.toNat : Int) ∧ 126 < (c.toNat : Int)) ∨ (32 ≤ (c.toNat : Int) ∧ (c.toNat : Int) ≤ 126 ∧ ((c.toNat : Int) != 34) = false) ∨ (32 ≤ (c.toNat : Int) ∧ (c.toNat : Int) ≤ 126 ∧ ((c.toNat : Int) != 34) = true ∧ ((c.toNat : Int) != 92) = false) := by
      simp only [bne_iff_ne, ne_eq, bne_eq_false_iff_eq] at hp ⊢
      omega
    clear hp
    rcases hn with p1 | ⟨p1, p2⟩ | ⟨p1, p2, p3⟩ | ⟨p1, p2, p3, p4⟩
    all_goals
      go_enter Tryd.func95, Tryd.ntmps95
      go_wp2
      go_ret
      exact ⟨rfl, rfl⟩

end Go.Proofs.YtolpgafkojlkoaaDoor.Vp
