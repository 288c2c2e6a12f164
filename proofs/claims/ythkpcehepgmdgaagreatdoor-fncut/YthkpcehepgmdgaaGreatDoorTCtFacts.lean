import Derived.Test.YthkpcehepgmdgaaGreatDoorRows
import Derived.JoinedCond
set_option maxRecDepth 100000
set_option maxHeartbeats 8000000
open Bool renaming true->ZF
namespace Go.Proofs.YthkpcehepgmdgaaGreatDoor.Ctc
theorem Hg {a b:Bool}(h:a=ZF)(g:b=ZF):(a && b)=ZF:=by rw[h,g];rfl
theorem facts:joinedFacts Tryz.prog 3 Tryz.f3 (OpenSpec.ofChange Rows.fnCutSpec).bare Rows.fnCutRow=ZF:=by
 unfold joinedFacts;repeat' with_reducible refine Hg ?_ ?_
 all_goals as_aux_lemma=>kernel_rfl
