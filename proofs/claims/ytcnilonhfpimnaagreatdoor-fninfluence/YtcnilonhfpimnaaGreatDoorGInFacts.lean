import Derived.Test.YtcnilonhfpimnaaGreatDoorRows
import Derived.JoinedCond
set_option linter.all false
set_option maxRecDepth 100000
set_option maxHeartbeats 8000000
open Bool renaming true->ZH
namespace Go.Proofs.YtcnilonhfpimnaaGreatDoor.Inc
def JE {a b:Bool}(h:a=ZH)(g:b=ZH):(a && b)=ZH:=by rw[h,g];rfl
def facts:joinedFacts Tryz.prog 3 Tryz.f3 (OpenSpec.ofChange Rows.fnInfluenceSpec).bare Rows.fnInfluenceRow=ZH:=by
 unfold joinedFacts;repeat' with_reducible refine JE ?_ ?_
 all_goals as_aux_lemma=>kernel_rfl
