import Derived.Test.YtfnbojfnelfnkaaGreatDoorRows
import Derived.JoinedCond
import Derived.KernelRfl
set_option maxRecDepth 100000
set_option maxHeartbeats 8000000
namespace Go.Proofs.YtfnbojfnelfnkaaGreatDoor.Mac
theorem and2 {a b:Bool}(h:a=true)(g:b=true):(a && b)=true:=by rw [h,g];rfl
theorem facts:joinedFacts Tryz.prog 4 Tryz.f4 (OpenSpec.ofChange Rows.fnExactMakeSpec).bare Rows.fnExactMakeRow=true:=by
 unfold joinedFacts
 repeat' with_reducible refine and2 ?_ ?_
 all_goals as_aux_lemma=>kernel_rfl
end Go.Proofs.YtfnbojfnelfnkaaGreatDoor.Mac
