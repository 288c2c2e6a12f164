import Derived.Test.YtkophfgkcijjkaaGreatDoorRows
import Derived.JoinedCond
set_option maxRecDepth 100000
set_option maxHeartbeats 8000000
namespace Go.Proofs.YtkophfgkcijjkaaGreatDoor.Nnc
theorem zC {a b:Bool}(h:a=true)(g:b=true):(a && b)=true:=by rw[h,g];rfl
theorem facts:joinedFacts Tryz.prog 6 Tryz.f6 (OpenSpec.ofChange Rows.fnNamesSpec).bare Rows.fnNamesRow=true:=by
 unfold joinedFacts;repeat' with_reducible refine zC ?_ ?_
 all_goals as_aux_lemma=>kernel_rfl
end Go.Proofs.YtkophfgkcijjkaaGreatDoor.Nnc
