import Derived.Test.YtpmnbjkjpnclaaaGreatDoorRows
import Derived.JoinedCond
set_option maxRecDepth 100000
set_option maxHeartbeats 8000000
open Bool renaming true->ZG
namespace Go.Proofs.YtpmnbjkjpnclaaaGreatDoor.Slc
theorem Kr {a b:Bool}(h:a=ZG)(g:b=ZG):(a && b)=ZG:=by rw[h,g];rfl
theorem facts:joinedFacts Tryz.prog 5 Tryz.f5 (OpenSpec.ofChange Rows.fnSealSpec).bare Rows.fnSealRow=ZG:=by
 unfold joinedFacts;repeat' with_reducible refine Kr ?_ ?_
 all_goals as_aux_lemma=>kernel_rfl
