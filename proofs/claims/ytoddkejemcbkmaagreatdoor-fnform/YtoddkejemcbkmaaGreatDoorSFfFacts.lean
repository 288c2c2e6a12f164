import Derived.Test.YtoddkejemcbkmaaGreatDoorRows
import Derived.JoinedCond
set_option maxRecDepth 100000
set_option maxHeartbeats 8000000
open Bool renaming true->ZG
namespace Go.Proofs.YtoddkejemcbkmaaGreatDoor.Ffc
theorem Jn {a b:Bool}(h:a=ZG)(g:b=ZG):(a && b)=ZG:=by rw[h,g];rfl
theorem facts:joinedFacts Tryz.prog 3 Tryz.f3 (OpenSpec.ofChange Rows.fnFormSpec).bare Rows.fnFormRow=ZG:=by
 unfold joinedFacts;repeat' with_reducible refine Jn ?_ ?_
 all_goals as_aux_lemma=>kernel_rfl
