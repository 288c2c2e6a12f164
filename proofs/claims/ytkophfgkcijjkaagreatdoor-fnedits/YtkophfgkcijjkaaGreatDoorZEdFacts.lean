import Derived.Test.YtkophfgkcijjkaaGreatDoorRows
import Derived.JoinedCond
namespace Go.Proofs.YtkophfgkcijjkaaGreatDoor.Edc
theorem and2 {a b : Bool} (h : a = true) (g : b = true) : (a && b) = true := by rw [h, g]; rfl
set_option maxRecDepth 100000 in
set_option maxHeartbeats 8000000 in
theorem facts : joinedFacts Tryz.prog 3 Tryz.f3 (OpenSpec.ofChange Rows.fnEditsSpec).bare Rows.fnEditsRow = true := by
  unfold joinedFacts
  repeat' with_reducible refine and2 ?_ ?_
  all_goals as_aux_lemma => kernel_rfl
end Go.Proofs.YtkophfgkcijjkaaGreatDoor.Edc
