/-
  Marks of accounts.
-/
import Derived.Test.YtkikpcklccdihaaGreatDoorZMDeed
namespace Go.Proofs.YtkikpcklccdihaaGreatDoor.Vp
open Go.RowKit

set_option maxRecDepth 100000 in
set_option maxHeartbeats 4000000 in
theorem markAccount_row (T n cap k0 : Nat) (A L a l : Nat → Nat) (w : World) (hn : (n : Int) ≤ 1048576) (h1 : 1 ≤ (k0 : Int)) (h2 : (k0 : Int) ≤ 1125899906842624) (hP : DPlan T n A L a l) (hC : DCells w T n A L a l) :
    Calls Tryz.prog 10 #[.agg #[.slice (some ⟨T, 0, none⟩) n cap], .int .i64 k0] w fun e w' => e = .returned (.int .i64 ((dAt a l k0 n : Nat) : Int)) ∧ DMarked w' T n A L a l k0 ∧ Touch (DBlk T n A L a l) w w' := by
  have A0 := hide ((Below.refl w.heap.size w).alloc (Nat.le_refl _) (.cells #[.slice (some ⟨T, 0, none⟩) n cap] 30))
  have HC := hide (hC.below A0.out (Nat.le_refl _))
  have HP := hide hP
  clear hC hP
  go_enter Tryz.func10, Tryz.ntmps10
  go_wp2_with fail
  refine (markDeedS_row T n cap k0 A L a l _ hn h1 h2 HP.out HC.out).mono ?_
  rintro e w1 ⟨rfl, hM, hT⟩
  have M1 := hide hM
  have T1 := hide ((Touch.of_below A0.out (Nat.le_refl _)).trans hT)
  clear hM hT
  go_wp2
  go_ret
  exact ⟨rfl, M1.out, T1.out⟩

/-- An account that was copied is marked: no block is touched that was there before or is there behind. -/
theorem markAccount_own (g n N : Nat) (f : Nat → Deed) (w : World) (hn : (n : Int) ≤ 1048576) (hf : ∀ i, i < n → FitsDeed (f i)) (h : OwnDeed2 w g n n N f) (hN : g < N) :
    Calls Tryz.prog 10 #[.agg #[.slice (some ⟨g, 0, none⟩) n n], .int .i64 1] w fun e w' => ∃ q : Nat, e = .returned (.int .i64 q) ∧ Touch (fun x => g ≤ x ∧ x < N) w w' := by
  obtain ⟨A, L, hP, hC, hB⟩ := h.plan hf
  refine (markAccount_row g n n 1 A L _ _ w hn (by omega) (by omega) hP hC).mono ?_
  rintro e w' ⟨rfl, -, hT⟩
  exact ⟨_, rfl, hT.mono fun x hx => ⟨(hB x hx).1, by rcases (hB x hx).2 with h | h <;> omega⟩⟩

end Go.Proofs.YtkikpcklccdihaaGreatDoor.Vp
