import Derived.Test.YtamacmnikdejeaaGreatDoorRows
import Derived.JoinedCond
set_option maxRecDepth 100000
set_option maxHeartbeats 8000000
open Bool renaming true->QR
namespace Go.Proofs.YtamacmnikdejeaaGreatDoor.Wyc
theorem Gz {a b:Bool}(h:a=QR)(g:b=QR):(a && b)=QR:=by rw[h,g];rfl
theorem facts:joinedFacts Tryz.prog 4 Tryz.f4 (OpenSpec.ofChange Rows.fnWhySpec).bare Rows.fnWhyRow=QR:=by
 unfold joinedFacts;repeat' with_reducible refine Gz ?_ ?_
 all_goals as_aux_lemma=>kernel_rfl
end Go.Proofs.YtamacmnikdejeaaGreatDoor.Wyc
