import Derived.Test.YtpmnbjkjpnclaaaGreatDoorRows
import Derived.JoinedCond
set_option maxRecDepth 100000
set_option maxHeartbeats 8000000
open Bool renaming true->ZF
namespace Go.Proofs.YtpmnbjkjpnclaaaGreatDoor.Txc
theorem FH {a b:Bool}(h:a=ZF)(g:b=ZF):(a && b)=ZF:=by rw[h,g];rfl
theorem facts:joinedFacts Tryz.prog 3 Tryz.f3 (OpenSpec.ofChange Rows.fnTextsSpec).bare Rows.fnTextsRow=ZF:=by
 unfold joinedFacts;repeat' with_reducible refine FH ?_ ?_
 all_goals as_aux_lemma=>kernel_rfl
