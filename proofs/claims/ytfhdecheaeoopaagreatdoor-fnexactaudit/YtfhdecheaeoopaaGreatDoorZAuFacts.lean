/-
  FnExactAudit: what the row says of the program, fact by fact (one fact, one lemma: in one piece the kernel outgrows its lid).
-/
import Derived.Test.YtfhdecheaeoopaaGreatDoorRows
import Derived.JoinedCond
import Derived.KernelRfl
namespace Go.Proofs.YtfhdecheaeoopaaGreatDoor.Auc

theorem and2 {a b : Bool} (h : a = true) (g : b = true) : (a && b) = true := by rw [h, g]; rfl
set_option maxRecDepth 100000 in
set_option maxHeartbeats 8000000 in
theorem facts : joinedFacts Tryz.prog 4 Tryz.f4 (OpenSpec.ofChange Rows.fnExactAuditSpec).bare Rows.fnExactAuditRow = true := by
  unfold joinedFacts
  repeat' with_reducible refine and2 ?_ ?_
  all_goals as_aux_lemma => kernel_rfl

end Go.Proofs.YtfhdecheaeoopaaGreatDoor.Auc
