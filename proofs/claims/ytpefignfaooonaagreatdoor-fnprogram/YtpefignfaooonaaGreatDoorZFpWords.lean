/-
  FnProgram: l1Words, l1DrawProgram. Written by tools/fpprog.py.
-/
import Derived.Test.YtpefignfaooonaaGreatDoorZFpSt
namespace Go.Proofs.YtpefignfaooonaaGreatDoor.Vp
open Go.RowKit

set_option maxRecDepth 100000 in
set_option maxHeartbeats 2000000 in
theorem l1Words_any (n : Nat) (w : World) (hn : (n : Int) ≤ 300) :
    Calls Tryz.prog 49 #[.int .i64 n] w fun e w' => ∃ (L : List I3) (g : Nat), e = .returned (.slice (some ⟨g, 0, none⟩) 7 7) ∧ IR w' w.heap.size g 7 L ∧ L.length = 7 ∧ (∀ i ∈ L, i.2.1.length ≤ 5000) ∧ Below w.heap.size w w' := by
  go_enter Tryz.func49, Tryz.ntmps49
  go_wp2_with fail
  refine (l1Many_any ⟨#[97, 32]⟩ n _ (by show 2 * n ≤ 4000; omega) (by omega)).mono ?_
  rintro e Wx ⟨t, rfl, ht, hw⟩
  rw [hw]
  have h5 : t.size ≤ 5000 := Nat.le_trans ht (by show 2 * n ≤ 5000; omega)
  clear ht hw
  go_wp2_with fail
  refine (l1Lit_any t _).mono ?_
  rintro e W1 ⟨rfl, hB⟩
  have B1 := hide (hB)
  clear hB
  go_wp2_with fail
  refine (l1Op_any 7 _).mono ?_
  rintro e W2 ⟨rfl, hB⟩
  have B2 := hide (B1.out.trans (hB.mono B1.out.size))
  clear hB
  go_wp2_with fail
  refine (l1OpN_any 5 0 _).mono ?_
  rintro e W3 ⟨rfl, hB⟩
  have B3 := hide (B2.out.trans (hB.mono B2.out.size))
  clear hB
  go_wp2_with fail
  refine (l1Op_any 13 _).mono ?_
  rintro e W4 ⟨rfl, hB⟩
  have B4 := hide (B3.out.trans (hB.mono B3.out.size))
  clear hB
  go_wp2_with fail
  refine (l1Op_any 9 _).mono ?_
  rintro e W5 ⟨rfl, hB⟩
  have B5 := hide (B4.out.trans (hB.mono B4.out.size))
  clear hB
  go_wp2_with fail
  refine (l1OpN_any 4 2 _).mono ?_
  rintro e W6 ⟨rfl, hB⟩
  have B6 := hide (B5.out.trans (hB.mono B5.out.size))
  clear hB
  go_wp2_with fail
  refine (l1OpN_any 10 1 _).mono ?_
  rintro e W7 ⟨rfl, hB⟩
  have B7 := hide (B6.out.trans (hB.mono B6.out.size))
  clear hB
  go_wp2
  go_ret
  refine ⟨[(1, t.data.toList, 0), (7, [], 0), (5, [], 0), (13, [], 0), (9, [], 0), (4, [], 2), (10, [], 1)], _, rfl, IR.new W7 _ B7.out.size _ _ rfl _ rfl (by omega), rfl, ?_, B7.out.alloc B7.out.size _⟩
  intro i hi
  simp only [List.mem_cons, List.not_mem_nil, or_false] at hi
  rcases hi with rfl | rfl | rfl | rfl | rfl | rfl | rfl
  · show t.data.toList.length ≤ 5000
    rw [Array.length_toList]
    exact h5
  all_goals exact Nat.zero_le _

end Go.Proofs.YtpefignfaooonaaGreatDoor.Vp
