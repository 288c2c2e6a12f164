/-
  Put together of: FpDraw.
-/
import Derived.Test.YtpefignfaooonaaGreatDoorZF
import Derived.Test.YtpefignfaooonaaGreatDoorZH
import Derived.Test.YtpefignfaooonaaGreatDoorZB
import Derived.Test.YtpefignfaooonaaGreatDoorZD

/-
  FnProgram: the draws: names, instructions.
-/
namespace Go.Proofs.YtpefignfaooonaaGreatDoor.Vp
open Go.RowKit

theorem res_ins1 {fn : Func} {p : Tmp} (h : fn.results = #[.cell p 41]) (tmps : Array Value) (w : World) (g : Nat) (x y z : Value) (hp : tmps.getD p undef = .pointer (some ⟨g, 0, none⟩)) (hC : CI w g x y z) :
    (results fn tmps).run Tryz.prog w = .ok (.agg #[x, y, z]) w :=
  results_cell_row h tmps w g 41 #[x, y, z] (0, 0) _ hp hC Tryz.underlying41 rfl sizeIns

set_option maxRecDepth 100000 in
set_option maxHeartbeats 1000000 in
theorem l1Lit_any (s : ByteArray) (w : World) : Calls Tryz.prog 46 #[.string s] w fun e w' => e = .returned (.agg #[.int .i64 1, .string s, .int .i64 0]) ∧ Below w.heap.size w w' := by
  go_enter Tryz.func46, Tryz.ntmps46
  go_wp2
  try simp only [Exit.inBlock, Exit.then]
  refine bodyPost_ret (res_ins1 rfl _ _ w.heap.size _ _ _ rfl (CI.new w _ _ _)) rfl ?_
  exact ⟨rfl, (Below.refl _ _).alloc (Nat.le_refl _) _⟩
set_option maxRecDepth 100000 in
set_option maxHeartbeats 1000000 in
theorem l1Op_any (op : Int) (w : World) : Calls Tryz.prog 44 #[.int .i64 op] w fun e w' => e = .returned (.agg #[.int .i64 op, .string ⟨#[]⟩, .int .i64 0]) ∧ Below w.heap.size w w' := by
  go_enter Tryz.func44, Tryz.ntmps44
  go_wp2
  try simp only [Exit.inBlock, Exit.then]
  refine bodyPost_ret (res_ins1 rfl _ _ w.heap.size _ _ _ rfl (CI.new w _ _ _)) rfl ?_
  exact ⟨rfl, (Below.refl _ _).alloc (Nat.le_refl _) _⟩
set_option maxRecDepth 100000 in
set_option maxHeartbeats 1000000 in
theorem l1OpN_any (op n : Int) (w : World) : Calls Tryz.prog 45 #[.int .i64 op, .int .i64 n] w fun e w' => e = .returned (.agg #[.int .i64 op, .string ⟨#[]⟩, .int .i64 n]) ∧ Below w.heap.size w w' := by
  go_enter Tryz.func45, Tryz.ntmps45
  go_wp2
  try simp only [Exit.inBlock, Exit.then]
  refine bodyPost_ret (res_ins1 rfl _ _ w.heap.size _ _ _ rfl (CI.new w _ _ _)) rfl ?_
  exact ⟨rfl, (Below.refl _ _).alloc (Nat.le_refl _) _⟩

set_option maxRecDepth 100000 in
set_option maxHeartbeats 1000000 in
theorem l1Small_any (n : Int) (w : World) : Calls Tryz.prog 67 #[.int .i64 n] w fun e w' => e = .returned (.int .i64 (if 200 < n then 200 else n)) ∧ w' = w := by
  by_cases h : 200 < n
  · rw [if_pos h]
    go_enter Tryz.func67, Tryz.ntmps67
    go_wp2
    go_ret
    exact ⟨rfl, rfl⟩
  · rw [if_neg h]
    go_enter Tryz.func67, Tryz.ntmps67
    go_wp2
    go_ret
    exact ⟨rfl, rfl⟩

set_option maxRecDepth 100000 in
set_option maxHeartbeats 2000000 in
theorem l1Name_any (R p : Nat) (w : World) (hR : Rd w R p) (hp : (p : Int) ≤ 90000) :
    Calls Tryz.prog 47 #[.pointer (some ⟨R, 0, none⟩)] w fun e w' => ∃ t : ByteArray, e = .returned (.string t) ∧ t.size ≤ 30 ∧ Rd w' R (p + 1) ∧ Only R w w' := by
  have HR := hide hR
  clear hR
  go_enter Tryz.func47, Tryz.ntmps47
  go_wp2_with fail
  refine (pick_any R p 16 _ HR.out (by omega) (by omega) (by omega)).mono ?_
  rintro e w1 ⟨z, rfl, hz0, hz1, hR1, hO1⟩
  have R1 := hide hR1
  have O1 := hide hO1
  clear hR1 hO1
  by_cases h6 : z < 6
  · rcases (show z = 0 ∨ z = 1 ∨ z = 2 ∨ z = 3 ∨ z = 4 ∨ z = 5 by omega) with rfl | rfl | rfl | rfl | rfl | rfl
    all_goals
      go_wp2
      go_ret
      exact ⟨_, rfl, by decide, R1.out, O1.out⟩
  · by_cases h14 : z < 14
    · obtain ⟨m, rfl⟩ : ∃ m : Nat, z = (m : Int) + 6 := ⟨(z - 6).toNat, by omega⟩
      have hm : m ≤ 7 := by omega
      have DC := hide (fun V => l1Dec_any m (by omega) V)
      have hd := dec_len m (by omega)
      go_wp2_with fail
      refine (DC.out _).mono ?_
      rintro e w2 ⟨rfl, hB2⟩
      have R2 := hide (R1.out.below hB2 (Nat.le_refl _))
      have O2 := hide (O1.out.trans (Only.of_below hB2))
      clear hB2
      go_wp2
      go_ret
      exact ⟨_, rfl, by rw [ByteArray.size_append]; show 1 + (Lib.decDigits m).length ≤ 30; omega, R2.out, O2.out⟩
    · go_wp2
      go_ret
      exact ⟨_, rfl, by decide, R1.out, O1.out⟩

end Go.Proofs.YtpefignfaooonaaGreatDoor.Vp
