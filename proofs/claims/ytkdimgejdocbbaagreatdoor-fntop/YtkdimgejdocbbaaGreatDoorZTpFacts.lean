import Derived.Test.YtkdimgejdocbbaaGreatDoorRows
import Derived.JoinedCond
set_option maxRecDepth 100000
set_option maxHeartbeats 8000000
open Bool renaming true->QC
namespace Go.Proofs.YtkdimgejdocbbaaGreatDoor.Tpc
theorem Fe {a b:Bool}(h:a=QC)(g:b=QC):(a && b)=QC:=by rw[h,g];rfl
theorem facts:joinedFacts Tryz.prog 8 Tryz.f8 (OpenSpec.ofChange Rows.fnTopSpec).bare Rows.fnTopRow=QC:=by
 unfold joinedFacts;repeat' with_reducible refine Fe ?_ ?_
 all_goals as_aux_lemma=>kernel_rfl
end Go.Proofs.YtkdimgejdocbbaaGreatDoor.Tpc
