import Derived.Test.YtamacmnikdejeaaGreatDoorSE
import Derived.Test.YtamacmnikdejeaaGreatDoorSL
open Go.Addr renaming mk->N
open Option renaming none->Z,some->T
open Go.Value renaming int->J,bool->QC
open Go.IntKind renaming i64->I
open Go renaming World->G,Value->QE
open Bool renaming false->QB
namespace Go.Proofs.YtamacmnikdejeaaGreatDoor.Vp
open RowKit
def cJ (f:Nat->ah)(d:Int)(x:Nat × Nat):Int:=if (f x.1).kind=3/\60<=x.2/\(d<0∨(x.1:Int)<d) then (x.1:Int) else d
def cG (f:Nat->ah)(d:Int):List (Nat × Nat)->Int
 | []=>d
 | x :: xs=>cG f (cJ f d x) xs
theorem lK (f:Nat->ah)(d:Int)(b g:List (Nat × Nat)):cG f d (b++g)=cG f (cG f d b) g:=by
 induction b generalizing d with
 | nil=>rfl
 | cons x b h=>simp only[JB,cG];exact h _
theorem vZ (f:Nat->ah)(d:Int)(x y:Nat × Nat):cJ f (cJ f d x) y=cJ f (cJ f d y) x:=by
 unfold cJ;by_cases b:(f x.1).kind=3/\60<=x.2
 ·by_cases g:(f y.1).kind=3/\60<=y.2
  ·simp only[b.1,b.2,g.1,g.2,MV]
   (repeat' split)<;>omega
  ·have e:∀ z:Prop,¬ ((f y.1).kind=3/\60<=y.2/\z):=fun z h=>g ⟨h.1,h.2.1⟩
   rw[cM (e _),cM (e _)]
 ·have e:∀ z:Prop,¬ ((f x.1).kind=3/\60<=x.2/\z):=fun z h=>b ⟨h.1,h.2.1⟩
  rw[cM (e _),cM (e _)]
theorem ug (f:Nat->ah)(d:Int)(x:Nat × Nat)(b:List (Nat × Nat)):cG f (cJ f d x) b=cJ f (cG f d b) x:=by
 induction b generalizing d with
 | nil=>rfl
 | cons y ys g =>simp only[cG];rw[vZ,g]
def TyAt (w:G)(g:Nat)(e:TypeId):Prop:=∃ b,w.heap[g]?=T (.cells b e (0,0))
structure Kpt (H M:Nat)(W W':G):Prop where
 size:W.heap.size<=W'.heap.size
 keep:∀ k e,TyAt W k e->e≠3->k≠H->k≠M->W'.heap[k]?=W.heap[k]?
theorem Kpt.trans {H M:Nat}{A B C:G}(h:Kpt H M A B)(k:Kpt H M B C):Kpt H M A C :=
 ⟨p9 h.size k.size,fun i e hi f h1 h2=>by
  have b:=h.keep i e hi f h1 h2;obtain⟨c,g⟩:=hi
  exact(k.keep i e ⟨c,b.trans g⟩ f h1 h2).trans b⟩
theorem Kpt.of_below {H M:Nat}{W b:G}(h:Below W.heap.size W b):Kpt H M W b :=
 ⟨h.size,fun k e f _ _ _=>by obtain⟨c,g⟩:=f;exact h.block k (BO.1 g).1⟩
theorem Kpt.setCell {H M j:Nat}(W:G)(g:Nat)(hg:g=H∨g=M)(v:QE):Kpt H M W (W.setCell (N g j Z) v) :=
 ⟨by simp,fun k _ _ _ h1 h2=>qh _ _ _ _ (by show k≠g;omega)⟩
structure SLs (w0 W:G)(n1 b off n cap H M:Nat)(s:Nat->Bool)(ov:QE)(ord:List Nat)(dp:Int):Prop where
 c0:W.cell? (N H 0 Z)=T (.slice (T (N b off Z)) n cap)
 c1:W.cell? (N H 1 Z)=T (.slice (T (N M 0 Z)) n n)
 c2:W.cell? (N H 2 Z)=T ov/\W.frozen? (N H 2 Z)=QB
 c3:W.cell? (N H 3 Z)=T (J I dp)/\W.frozen? (N H 3 Z)=QB
 row:∀ q,q<n->W.cell? (N M q Z)=T (QC (s q))/\W.frozen? (N M q Z)=QB
 ord:W.ownsRow n1 3 1 ov ord.length (ord.map fun q:Nat=>Value.int I (q:Int))
 low:Below w0.heap.size w0 W
 hH:w0.heap.size<=H/\H<n1
 hM:w0.heap.size<=M/\M<n1
 ne:H≠M
 hz:n1<=W.heap.size
theorem SLs.blocks {i W f:G}{n1 b off n cap H M:Nat}{s:Nat->Bool}{l j:QE}{ord g:List Nat}{p:Int}(h:SLs i W n1 b off n cap H M s l ord p)(hz:W.heap.size<=f.heap.size)(t:f.heap[H]?=W.heap[H]?)(m:f.heap[M]?=W.heap[M]?)(u:Below i.heap.size i f)(x:j=l)(y:f.ownsRow n1 3 1 l g.length (g.map fun q:Nat=>Value.int I (q:Int))):SLs i f n1 b off n cap H M s j g p:=by subst x;have c:∀ o,f.cell? (N H o Z)=W.cell? (N H o Z):=fun o=>cq (a:=(N H o Z)) t;have z:∀ o,f.frozen? (N H o Z)=W.frozen? (N H o Z):=fun o=>IQ (a:=(N H o Z)) t;exact⟨(c 0).trans h.c0,(c 1).trans h.c1,⟨(c 2).trans h.c2.1,(z 2).trans h.c2.2⟩,⟨(c 3).trans h.c3.1,(z 3).trans h.c3.2⟩,fun q r=>⟨(cq (a:=(N M q Z)) m).trans (h.row q r).1,(IQ (a:=(N M q Z)) m).trans (h.row q r).2⟩,y,u,h.hH,h.hM,h.ne,p9 h.hz hz⟩
theorem SLs.below {g W i:G}{n1 b off n cap H M:Nat}{s:Nat->Bool}{f:QE}{ord:List Nat}{j:Int}(h:SLs g W n1 b off n cap H M s f ord j)(hb:Below W.heap.size W i):SLs g i n1 b off n cap H M s f ord j :=
 h.blocks hb.size (hb.block H (by have:=h.hH;have:=h.hz;omega)) (hb.block M (by have:=h.hM;have:=h.hz;omega)) (h.low.trans (hb.mono h.low.size)) rfl (own_below h.ord hb ly)
theorem nK {w:G}{b g n R j:Nat}{e:TypeId}{v:QE}{f:List QE}(h:w.ownsRow b e g v n f)(hR:R<b)(u:QE):(w.setCell (N R j Z) u).ownsRow b e g v n f:=by
 refine h.kept (row:=T R) ⟨rfl,rfl,rfl,by simp[World.setCell],fun k _ i=>qh _ _ _ _ (by simpa using i)⟩ ?_;cases hv:v.ownBlock with
 | none=>exact .inl rfl
 | some k=>exact .inr fun l=>by have:=(h.lt k hv).1;cases l;omega
theorem SLs.mark {g W:G}{n1 b off n cap H M p:Nat}{s:Nat->Bool}{i:QE}{ord:List Nat}{j:Int}(h:SLs g W n1 b off n cap H M s i ord j)(hp:p<n):SLs g (W.setCell (N M p Z) (QC true)) n1 b off n cap H M (put s p) i ord j:=by
 have c:∀ o,(W.setCell (N M p Z) (QC true)).cell? (N H o Z)=W.cell? (N H o Z):=fun o=>sq _ _ _ _ (by first | (simp;done) | (simp;exact fun e=>absurd e.symm h.ne) | (simp;exact fun e=>absurd e h.ne) | (simp;omega));refine⟨(c 0).trans h.c0,(c 1).trans h.c1,⟨(c 2).trans h.c2.1,by simpa using h.c2.2⟩,⟨(c 3).trans h.c3.1,by simpa using h.c3.2⟩,fun q f=>⟨?_,by simpa using(h.row q f).2⟩,nK h.ord h.hM.2 _,h.low.setCell h.hM.1 _,h.hH,h.hM,h.ne,by simpa using h.hz⟩;by_cases e:q=p
 ·subst e
  rw[AI _ _ _ (by rw[(h.row q f).1];rfl)];simp[put]
 ·rw[sq _ _ _ _ (by first | (simp;done) | (simp;exact fun e=>absurd e.symm h.ne) | (simp;exact fun e=>absurd e h.ne) | (simp;omega)),(h.row q f).1]
  simp[put,e]
theorem SLs.deep {f W:G}{n1 b off n cap H M:Nat}{s:Nat->Bool}{g:QE}{ord:List Nat}{j:Int}(h:SLs f W n1 b off n cap H M s g ord j)(v:Int):SLs f (W.setCell (N H 3 Z) (J I v)) n1 b off n cap H M s g ord v:=by have c:∀ o,o≠3->(W.setCell (N H 3 Z) (J I v)).cell? (N H o Z)=W.cell? (N H o Z):=fun o ho=>sq _ _ _ _ (by first | (simp;done) | (simp;exact fun e=>absurd e.symm h.ne) | (simp;exact fun e=>absurd e h.ne) | (simp;omega));refine⟨(c 0 (by omega)).trans h.c0,(c 1 (by omega)).trans h.c1,⟨(c 2 (by omega)).trans h.c2.1,by simpa using h.c2.2⟩,⟨AI _ _ _ (by rw[h.c3.1];rfl),by simpa using h.c3.2⟩,fun q i=>⟨(sq _ _ _ _ (by first | (simp;done) | (simp;exact fun e=>absurd e.symm h.ne) | (simp;exact fun e=>absurd e h.ne) | (simp;omega))).trans (h.row q i).1,by simpa using(h.row q i).2⟩,nK h.ord h.hH.2 _,h.low.setCell h.hH.1 _,h.hH,h.hM,h.ne,by simpa using h.hz⟩
end Go.Proofs.YtamacmnikdejeaaGreatDoor.Vp
