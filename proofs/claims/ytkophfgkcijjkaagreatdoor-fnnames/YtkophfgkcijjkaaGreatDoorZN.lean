import Derived.Test.YtkophfgkcijjkaaGreatDoorZF
import Derived.Test.YtkophfgkcijjkaaGreatDoorZL
namespace Go.Proofs.YtkophfgkcijjkaaGreatDoor.Vp
open RowKit
def cG (f:Nat->ar)(d:Int)(x:Nat × Nat):Int:=if (f x.1).kind=3/\60<=x.2/\(d<0∨(x.1:Int)<d) then (x.1:Int) else d
def cF (f:Nat->ar)(d:Int):List (Nat × Nat)->Int
 | []=>d
 | x :: xs=>cF f (cG f d x) xs
theorem jF (f:Nat->ar)(d:Int)(b c:List (Nat × Nat)):cF f d (b++c)=cF f (cF f d b) c:=by
 induction b generalizing d with
 | nil=>rfl
 | cons x b g=>simp only[List.cons_append,cF];exact g _
theorem sI (f:Nat->ar)(d:Int)(x y:Nat × Nat):cG f (cG f d x) y=cG f (cG f d y) x:=by
 unfold cG;by_cases b:(f x.1).kind=3/\60<=x.2
 ·by_cases c:(f y.1).kind=3/\60<=y.2
  ·simp only[b.1,b.2,c.1,c.2,true_and]
   (repeat' split)<;>omega
  ·have e:∀ z:Prop,¬ ((f y.1).kind=3/\60<=y.2/\z):=fun z h=>c ⟨h.1,h.2.1⟩
   rw[if_neg (e _),if_neg (e _)]
 ·have e:∀ z:Prop,¬ ((f x.1).kind=3/\60<=x.2/\z):=fun z h=>b ⟨h.1,h.2.1⟩
  rw[if_neg (e _),if_neg (e _)]
theorem qF (f:Nat->ar)(d:Int)(x:Nat × Nat)(b:List (Nat × Nat)):cF f (cG f d x) b=cG f (cF f d b) x:=by
 induction b generalizing d with
 | nil=>rfl
 | cons y ys c =>simp only[cF];rw[sI,c]
def TyAt (w:World)(g:Nat)(e:TypeId):Prop:=∃ b,w.heap[g]?=some (.cells b e (0,0))
structure Kpt (H M:Nat)(W W':World):Prop where
 size:W.heap.size<=W'.heap.size
 keep:∀ k e,TyAt W k e->e≠3->k≠H->k≠M->W'.heap[k]?=W.heap[k]?
theorem Kpt.refl (H M:Nat)(W:World):Kpt H M W W:=⟨Nat.le_refl _,fun _ _ _ _ _ _=>rfl⟩
theorem Kpt.trans {H M:Nat}{A B C:World}(h:Kpt H M A B)(k:Kpt H M B C):Kpt H M A C :=
 ⟨Nat.le_trans h.size k.size,fun i e hi d f g=>by
  have b:=h.keep i e hi d f g;obtain⟨c,j⟩:=hi
  exact(k.keep i e ⟨c,b.trans j⟩ d f g).trans b⟩
theorem Kpt.of_below {H M:Nat}{W b:World}(h:Below W.heap.size W b):Kpt H M W b :=
 ⟨h.size,fun k e d _ _ _=>by obtain⟨c,f⟩:=d;exact h.block k (Array.getElem?_eq_some_iff.1 f).1⟩
theorem Kpt.setCell {H M j:Nat}(W:World)(g:Nat)(hg:g=H∨g=M)(v:Value):Kpt H M W (W.setCell ⟨g,j,none⟩ v) :=
 ⟨by simp,fun k _ _ _ h1 h2=>qh _ _ _ _ (by show k≠g;omega)⟩
structure SLs (w0 W:World)(n1 b off n cap H M:Nat)(s:Nat->Bool)(ov:Value)(ord:List Nat)(dp:Int):Prop where
 c0:W.cell? ⟨H,0,none⟩=some (.slice (some ⟨b,off,none⟩) n cap)
 c1:W.cell? ⟨H,1,none⟩=some (.slice (some ⟨M,0,none⟩) n n)
 c2:W.cell? ⟨H,2,none⟩=some ov/\W.frozen? ⟨H,2,none⟩=false
 c3:W.cell? ⟨H,3,none⟩=some (.int .i64 dp)/\W.frozen? ⟨H,3,none⟩=false
 row:∀ q,q<n->W.cell? ⟨M,q,none⟩=some (.bool (s q))/\W.frozen? ⟨M,q,none⟩=false
 ord:W.ownsRow n1 3 1 ov ord.length (ord.map fun q:Nat=>Value.int .i64 (q:Int))
 low:Below w0.heap.size w0 W
 hH:w0.heap.size<=H/\H<n1
 hM:w0.heap.size<=M/\M<n1
 ne:H≠M
 hz:n1<=W.heap.size
theorem SLs.blocks {g W d:World}{n1 b off n cap H M:Nat}{s:Nat->Bool}{j i:Value}{ord f:List Nat}{p:Int}(h:SLs g W n1 b off n cap H M s j ord p)(hz:W.heap.size<=d.heap.size)(l:d.heap[H]?=W.heap[H]?)(m:d.heap[M]?=W.heap[M]?)(u:Below g.heap.size g d)(r:i=j)(t:d.ownsRow n1 3 1 j f.length (f.map fun q:Nat=>Value.int .i64 (q:Int))):SLs g d n1 b off n cap H M s i f p:=by subst r;have c:∀ o,d.cell? ⟨H,o,none⟩=W.cell? ⟨H,o,none⟩:=fun o=>cq (a:=⟨H,o,none⟩) l;have z:∀ o,d.frozen? ⟨H,o,none⟩=W.frozen? ⟨H,o,none⟩:=fun o=>World.frozen?_of_block (a:=⟨H,o,none⟩) l;exact⟨(c 0).trans h.c0,(c 1).trans h.c1,⟨(c 2).trans h.c2.1,(z 2).trans h.c2.2⟩,⟨(c 3).trans h.c3.1,(z 3).trans h.c3.2⟩,fun q k=>⟨(cq (a:=⟨M,q,none⟩) m).trans (h.row q k).1,(World.frozen?_of_block (a:=⟨M,q,none⟩) m).trans (h.row q k).2⟩,t,u,h.hH,h.hM,h.ne,Nat.le_trans h.hz hz⟩
theorem SLs.below {g W d:World}{n1 b off n cap H M:Nat}{s:Nat->Bool}{c:Value}{ord:List Nat}{f:Int}(h:SLs g W n1 b off n cap H M s c ord f)(hb:Below W.heap.size W d):SLs g d n1 b off n cap H M s c ord f :=
 h.blocks hb.size (hb.block H (by have:=h.hH;have:=h.hz;omega)) (hb.block M (by have:=h.hM;have:=h.hz;omega)) (h.low.trans (hb.mono h.low.size)) rfl (own_below h.ord hb ly)
theorem kV {w:World}{b c n R j:Nat}{e:TypeId}{v:Value}{d:List Value}(h:w.ownsRow b e c v n d)(hR:R<b)(u:Value):(w.setCell ⟨R,j,none⟩ u).ownsRow b e c v n d:=by
 refine h.kept (row:=some R) ⟨rfl,rfl,rfl,by simp[World.setCell],fun k _ f=>qh _ _ _ _ (by simpa using f)⟩ ?_;cases hv:v.ownBlock with
 | none=>exact .inl rfl
 | some k=>exact .inr fun g=>by have:=(h.lt k hv).1;cases g;omega
theorem SLs.mark {f W:World}{n1 b off n cap H M p:Nat}{s:Nat->Bool}{g:Value}{ord:List Nat}{i:Int}(h:SLs f W n1 b off n cap H M s g ord i)(hp:p<n):SLs f (W.setCell ⟨M,p,none⟩ (.bool true)) n1 b off n cap H M (put s p) g ord i:=by
 have c:∀ o,(W.setCell ⟨M,p,none⟩ (.bool true)).cell? ⟨H,o,none⟩=W.cell? ⟨H,o,none⟩:=fun o=>sq _ _ _ _ (by first | (simp;done) | (simp;exact fun e=>absurd e.symm h.ne) | (simp;exact fun e=>absurd e h.ne) | (simp;omega));refine⟨(c 0).trans h.c0,(c 1).trans h.c1,⟨(c 2).trans h.c2.1,by simpa using h.c2.2⟩,⟨(c 3).trans h.c3.1,by simpa using h.c3.2⟩,fun q d=>⟨?_,by simpa using(h.row q d).2⟩,kV h.ord h.hM.2 _,h.low.setCell h.hM.1 _,h.hH,h.hM,h.ne,by simpa using h.hz⟩;by_cases e:q=p
 ·subst e
  rw[World.cell?_setCell_same' _ _ _ (by rw[(h.row q d).1];rfl)];simp[put]
 ·rw[sq _ _ _ _ (by first | (simp;done) | (simp;exact fun e=>absurd e.symm h.ne) | (simp;exact fun e=>absurd e h.ne) | (simp;omega)),(h.row q d).1]
  simp[put,e]
theorem SLs.deep {d W:World}{n1 b off n cap H M:Nat}{s:Nat->Bool}{g:Value}{ord:List Nat}{i:Int}(h:SLs d W n1 b off n cap H M s g ord i)(v:Int):SLs d (W.setCell ⟨H,3,none⟩ (.int .i64 v)) n1 b off n cap H M s g ord v:=by have c:∀ o,o≠3->(W.setCell ⟨H,3,none⟩ (.int .i64 v)).cell? ⟨H,o,none⟩=W.cell? ⟨H,o,none⟩:=fun o ho=>sq _ _ _ _ (by first | (simp;done) | (simp;exact fun e=>absurd e.symm h.ne) | (simp;exact fun e=>absurd e h.ne) | (simp;omega));refine⟨(c 0 (by omega)).trans h.c0,(c 1 (by omega)).trans h.c1,⟨(c 2 (by omega)).trans h.c2.1,by simpa using h.c2.2⟩,⟨World.cell?_setCell_same' _ _ _ (by rw[h.c3.1];rfl),by simpa using h.c3.2⟩,fun q f=>⟨(sq _ _ _ _ (by first | (simp;done) | (simp;exact fun e=>absurd e.symm h.ne) | (simp;exact fun e=>absurd e h.ne) | (simp;omega))).trans (h.row q f).1,by simpa using(h.row q f).2⟩,kV h.ord h.hH.2 _,h.low.setCell h.hH.1 _,h.hH,h.hM,h.ne,by simpa using h.hz⟩
end Go.Proofs.YtkophfgkcijjkaaGreatDoor.Vp
