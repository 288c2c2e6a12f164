import Derived.Test.YtamacmnikdejeaaGreatDoorRows
import Derived.JoinedCond
set_option maxRecDepth 100000
set_option maxHeartbeats 8000000
open Bool renaming true->ZD
namespace Go.Proofs.YtamacmnikdejeaaGreatDoor.Hec
theorem GW {a b:Bool}(h:a=ZD)(g:b=ZD):(a && b)=ZD:=by rw[h,g];rfl
theorem facts:joinedFacts Tryz.prog 5 Tryz.f5 (OpenSpec.ofChange Rows.fnHeartSpec).bare Rows.fnHeartRow=ZD:=by
 unfold joinedFacts;repeat' with_reducible refine GW ?_ ?_
 all_goals as_aux_lemma=>kernel_rfl
