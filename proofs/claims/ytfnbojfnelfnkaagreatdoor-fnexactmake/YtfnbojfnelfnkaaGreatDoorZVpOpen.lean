import Derived.Test.YtfnbojfnelfnkaaGreatDoorZD
import Derived.Test.YtfnbojfnelfnkaaGreatDoorCards
import Derived.ProofKit
import Derived.OpenShut
import Derived.Deep.Slices
import Derived.Deep.Strs
import Derived.MakeChecks
set_option maxRecDepth 100000
namespace Go.Proofs.YtfnbojfnelfnkaaGreatDoor.Vp
open Go.ChangeShapes Go.WideShapes Go.ChangeAt Go.RowKit Go.Deep
theorem cells3:Tryz.prog.cellsOf 3=1:=by kernel_rfl
theorem cells9:Tryz.prog.cellsOf 9=1:=by kernel_rfl
theorem cells22:Tryz.prog.cellsOf 126=1:=by kernel_rfl
theorem cells24:Tryz.prog.cellsOf 128=1:=by kernel_rfl
theorem cells52:Tryz.prog.cellsOf 219=3:=by kernel_rfl
theorem cells57:Tryz.prog.cellsOf 201=5:=by kernel_rfl
theorem cells?_three {w:World}{base:Nat}{a:Addr}{cs:List Value}(h:w.cells? base a 3=some cs) :
  ∃ v0 v1 v2,cs=[v0,v1,v2]∧w.cell? (a.add 0)=some v0∧w.cell? (a.add 1)=some v1∧w.cell? (a.add 2)=some v2:=by
 unfold World.cells? at h
 split at h
 ·simp only [show List.range 3=[0,1,2] from rfl,List.mapM_cons,List.mapM_nil,Option.bind_eq_bind,Option.bind_eq_some_iff,Option.pure_def,Option.some.injEq] at h
  obtain ⟨v0,h0,r1,⟨v1,h1,r2,⟨v2,h2,r3,rfl,rfl⟩,rfl⟩,rfl⟩:=h
  exact ⟨v0,v1,v2,rfl,h0,h1,h2⟩
 ·cases h
theorem open_ins {H:Type}{enc:TypeId × Value→H}{w:World}{base:Nat}{spare:Nat→Bool}{held:Bool}{fuel:Nat}{cs:List Value}{x:DataW H × List MemPlace}
  (h:DataW.trod enc Tryz.prog w base spare held fuel 219 cs=some x):∃ i:Ins,cs=[.int .i64 i.op,.string i.s,.int .i64 i.n]∧i.s.size≤maxLen:=by
 obtain ⟨y0,y1,y2,n,_,hl,h0,h1,h2⟩:=trod_struct3 Tryz.underlying219 h
 rw [cells52] at hl
 match cs,hl with
 | [a,b,c],_ =>
  simp only [cells3,cells9] at h0 h1 h2
  obtain ⟨op,e0,_,_⟩:=DataW.trod_int Tryz.underlying3 h0
  obtain ⟨s,e1,_,hs⟩:=DataW.trod_string Tryz.underlying9 h1
  obtain ⟨n,e2,_,_⟩:=DataW.trod_int Tryz.underlying3 h2
  simp at e0 e1 e2
  exact ⟨⟨op,s,n⟩,by rw [e0,e1,e2],hs⟩
end Go.Proofs.YtfnbojfnelfnkaaGreatDoor.Vp
