import Derived.Test.YtkophfgkcijjkaaGreatDoorRows
import Derived.JoinedCond
set_option maxRecDepth 100000
set_option maxHeartbeats 8000000
namespace Go.Proofs.YtkophfgkcijjkaaGreatDoor.Fmc
theorem xv {a b:Bool}(h:a=true)(g:b=true):(a && b)=true:=by rw [h,g];rfl
theorem facts:joinedFacts Tryz.prog 5 Tryz.f5 (OpenSpec.ofChange Rows.fnMadeSpec).bare Rows.fnMadeRow=true:=by
 unfold joinedFacts
 repeat' with_reducible refine xv ?_ ?_
 all_goals as_aux_lemma=>kernel_rfl
end Go.Proofs.YtkophfgkcijjkaaGreatDoor.Fmc
