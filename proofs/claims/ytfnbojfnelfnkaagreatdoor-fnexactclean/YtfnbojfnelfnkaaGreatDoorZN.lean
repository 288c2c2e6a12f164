import Derived.Test.YtfnbojfnelfnkaaGreatDoorZG
import Derived.Test.YtfnbojfnelfnkaaGreatDoorZI
import Derived.Test.YtfnbojfnelfnkaaGreatDoorZC
import Derived.Lib.SliceRun
namespace Go.Proofs.YtfnbojfnelfnkaaGreatDoor.Vp
open Go.RowKit
theorem addr_add (b off j:Nat):(⟨b,off,none⟩:Addr).add j=⟨b,off+j,none⟩:=by
 unfold Addr.add
 split<;>simp_all
theorem flat_at {α:Type}(g:α→List Value)(C:Nat)(hC:∀ x,(g x).length=C):∀ (L:List α) (i j:Nat) (_:j<C) (x:α),L[i]?=some x→(L.flatMap g)[i*C+j]?=(g x)[j]?
 | [],i,j,_,x,h=>by simp at h
 | y :: L,0,j,hj,x,h=>by
  simp at h
  subst h
  rw [List.flatMap_cons,Nat.zero_mul,Nat.zero_add,List.getElem?_append_left (by rw [hC];exact hj)]
 | y :: L,i+1,j,hj,x,h=>by
  simp at h
  rw [List.flatMap_cons,List.getElem?_append_right (by rw [hC,Nat.succ_mul];omega),hC,show (i+1)*C+j - C=i*C+j by rw [Nat.succ_mul];omega]
  exact flat_at g C hC L i j hj x h
theorem own_cell {w:World}{base size n g cap:Nat}{e:TypeId}{xs:List Value}(h:w.ownsRow base e size (.slice (some ⟨g,0,none⟩) n cap) n xs){j:Nat}{u:Value}(hu:xs[j]?=some u):w.cell? ⟨g,j,none⟩=some u∧w.frozen? ⟨g,j,none⟩=false:=by
 refine ⟨?_,?_⟩
 ·have:=h.cells (g:=g) rfl j u hu
  have ha:(⟨g,0,none⟩:Addr).add j=⟨g,j,none⟩:=by rw [addr_add];simp
  rwa [ha] at this
 ·rcases h.2 with ⟨hv,_⟩ | ⟨g',cap',cur,hv,_,hg,_⟩
  ·simp at hv
  ·simp at hv
   obtain ⟨rfl,rfl⟩:=hv
   simp [World.frozen?,hg]
theorem own_lt {w:World}{base size n g cap:Nat}{e:TypeId}{xs:List Value}(h:w.ownsRow base e size (.slice (some ⟨g,0,none⟩) n cap) n xs):base≤g∧g<w.heap.size:=h.lt g rfl
end Go.Proofs.YtfnbojfnelfnkaaGreatDoor.Vp
