import Derived.Test.YtamacmnikdejeaaGreatDoorRows
import Derived.JoinedCond
set_option maxRecDepth 100000
set_option maxHeartbeats 8000000
open Bool renaming true->QD
namespace Go.Proofs.YtamacmnikdejeaaGreatDoor.Fwc
theorem EZ {a b:Bool}(h:a=QD)(g:b=QD):(a && b)=QD:=by rw[h,g];rfl
theorem facts:joinedFacts Tryz.prog 3 Tryz.f3 (OpenSpec.ofChange Rows.fnFollowsSpec).bare Rows.fnFollowsRow=QD:=by
 unfold joinedFacts;repeat' with_reducible refine EZ ?_ ?_
 all_goals as_aux_lemma=>kernel_rfl
end Go.Proofs.YtamacmnikdejeaaGreatDoor.Fwc
