/-
  Rows of texts compared.
-/
import Derived.Test.YtolpgafkojlkoaaDoorDRowS
namespace Go.Proofs.YtolpgafkojlkoaaDoor.Vp
open Go.RowKit

set_option maxHeartbeats 1000000 in
theorem eqStringS_row (b off cap b2 off2 cap2 n : Nat) (f : Nat → ByteArray) (w : World) (hn : n ≤ 1048576) (hf : RowStr w b off n f) (hf2 : RowStr w b2 off2 n f) :
    Calls Tryd.prog 34 #[.slice (some ⟨b, off, none⟩) n cap, .slice (some ⟨b2, off2, none⟩) n cap2] w fun e w' => e = .returned (.bool true) ∧ Below w.heap.size w w' := by
  have HF := hide hf
  have HF2 := hide hf2
  clear hf hf2
  go_enter Tryd.func34, Tryd.ntmps34
  go_wp2
  go_loopw [5] (fun i wr => ∃ k : Nat, k ≤ n ∧ i = .int .i64 k ∧ Below w.heap.size w wr) (fun i _ => n - (intOf i).toNat)
  case atStart => exact ⟨0, by omega, rfl, Below.refl _ _⟩
  case round =>
    obtain ⟨k, hk, rfl, hB⟩ := hrel
    have HB := hide hB
    clear hB
    by_cases hlt : k < n
    · have c0 := (HF.below HB (Nat.le_refl _)).2 k hlt
      have d0 := (HF2.below HB (Nat.le_refl _)).2 k hlt
      go_wp2_with fail
      go_quiet (fail)
      have HB1 := hide (below_drewN HB nq)
      clear c0 d0
      generalize wr.drewN nq = W at HB1 ⊢
      have c0 := (HF.below HB1 (Nat.le_refl _)).2 k hlt
      have d0 := (HF2.below HB1 (Nat.le_refl _)).2 k hlt
      go_wp2
      exact ⟨⟨k + 1, by omega, by go_num, HB1⟩, by simp [intOf]; omega⟩
    · have e : k = n := by omega
      subst e
      go_wp2
      go_ret
      exact ⟨rfl, HB⟩

set_option maxHeartbeats 1000000 in
theorem eqStringS_nil (a a2 : Option Addr) (cap cap2 : Nat) (w : World) :
    Calls Tryd.prog 34 #[.slice a 0 cap, .slice a2 0 cap2] w fun e w' => e = .returned (.bool true) ∧ w' = w := by
  go_enter Tryd.func34, Tryd.ntmps34
  go_wp2
  go_loop [5] (fun i => i = .int .i64 0) (fun _ => 0)
  case atStart => rfl
  case round =>
    subst hrel
    go_wp2
    go_ret
    exact ⟨rfl, rfl⟩

theorem eqStringS_any (a a2 : Option Addr) (cap cap2 n : Nat) (f : Nat → ByteArray) (w : World) (hn : n ≤ 1048576) (h : SlStr w a n f) (h2 : SlStr w a2 n f) :
    Calls Tryd.prog 34 #[.slice a n cap, .slice a2 n cap2] w fun e w' => e = .returned (.bool true) ∧ Below w.heap.size w w' := by
  by_cases hz : n = 0
  · subst hz
    exact (eqStringS_nil a a2 cap cap2 w).mono fun _ _ ⟨a, b⟩ => ⟨a, by rw [b]; exact Below.refl _ _⟩
  · rcases h with h | ⟨b, off, rfl, hf⟩
    · exact absurd h hz
    · rcases h2 with h | ⟨b2, off2, rfl, hf2⟩
      · exact absurd h hz
      · exact eqStringS_row b off cap b2 off2 cap2 n f w hn hf hf2

end Go.Proofs.YtolpgafkojlkoaaDoor.Vp
