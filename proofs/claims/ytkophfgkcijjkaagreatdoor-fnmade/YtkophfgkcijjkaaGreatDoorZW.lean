import Derived.Test.YtkophfgkcijjkaaGreatDoorZV
import Derived.Test.YtkophfgkcijjkaaGreatDoorZQ
namespace Go.Proofs.YtkophfgkcijjkaaGreatDoor.Vp
open RowKit
theorem sq (L:List I3):i3L L=bP (df L) L.length:=by
 have e:(List.range L.length).map (df L)=L.map fun x=>(⟨x.1,⟨x.2.1.toArray⟩,x.2.2⟩:Ins):=by
  refine List.ext_getElem (by simp) fun i h1 h2=>?_
  have hi:i<L.length:=by simpa using h2
  simp [df,hi]
 rw [bP,e,List.flatMap_map]
 rfl
end Go.Proofs.YtkophfgkcijjkaaGreatDoor.Vp
