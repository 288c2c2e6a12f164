import Derived.Test.YtkdimgejdocbbaaGreatDoorZE
import Derived.Test.YtkdimgejdocbbaaGreatDoorZL
open Go.Addr renaming mk->J
open Option renaming none->Z,some->Q
open Go.Value renaming int->N,bool->QA
open Go.IntKind renaming i64->I
open Go renaming World->E,Value->QB
open Bool renaming false->D
namespace Go.Proofs.YtkdimgejdocbbaaGreatDoor.Vp
open RowKit
def cI (f:Nat->aj)(d:Int)(x:Nat × Nat):Int:=if (f x.1).kind=3/\60<=x.2/\(d<0∨(x.1:Int)<d) then (x.1:Int) else d
def cH (f:Nat->aj)(d:Int):List (Nat × Nat)->Int
 | []=>d
 | x :: xs=>cH f (cI f d x) xs
theorem ly (f:Nat->aj)(d:Int)(b g:List (Nat × Nat)):cH f d (b++g)=cH f (cH f d b) g:=by
 induction b generalizing d with
 | nil=>rfl
 | cons x b h=>simp only[I4,cH];exact h _
theorem vS (f:Nat->aj)(d:Int)(x y:Nat × Nat):cI f (cI f d x) y=cI f (cI f d y) x:=by
 unfold cI;by_cases b:(f x.1).kind=3/\60<=x.2
 ·by_cases g:(f y.1).kind=3/\60<=y.2
  ·simp only[b.1,b.2,g.1,g.2,LN]
   (repeat' split)<;>omega
  ·have e:∀ z:Prop,¬ ((f y.1).kind=3/\60<=y.2/\z):=fun z h=>g ⟨h.1,h.2.1⟩
   rw[a8 (e _),a8 (e _)]
 ·have e:∀ z:Prop,¬ ((f x.1).kind=3/\60<=x.2/\z):=fun z h=>b ⟨h.1,h.2.1⟩
  rw[a8 (e _),a8 (e _)]
theorem tM (f:Nat->aj)(d:Int)(x:Nat × Nat)(b:List (Nat × Nat)):cH f (cI f d x) b=cI f (cH f d b) x:=by
 induction b generalizing d with
 | nil=>rfl
 | cons y ys g =>simp only[cH];rw[vS,g]
def TyAt (w:E)(g:Nat)(e:TypeId):Prop:=∃ b,w.heap[g]?=Q (.cells b e (0,0))
structure Kpt (H M:Nat)(W W':E):Prop where
 size:W.heap.size<=W'.heap.size
 keep:∀ k e,TyAt W k e->e≠3->k≠H->k≠M->W'.heap[k]?=W.heap[k]?
theorem Kpt.trans {H M:Nat}{A B C:E}(h:Kpt H M A B)(k:Kpt H M B C):Kpt H M A C :=
 ⟨j5 h.size k.size,fun i e hi b h1 h2=>by
  have d:=h.keep i e hi b h1 h2;obtain⟨c,f⟩:=hi
  exact(k.keep i e ⟨c,d.trans f⟩ b h1 h2).trans d⟩
theorem Kpt.of_below {H M:Nat}{W b:E}(h:Below W.heap.size W b):Kpt H M W b :=
 ⟨h.size,fun k e d _ _ _=>by obtain⟨c,f⟩:=d;exact h.block k (x4.1 f).1⟩
theorem Kpt.setCell {H M j:Nat}(W:E)(g:Nat)(hg:g=H∨g=M)(v:QB):Kpt H M W (W.setCell (J g j Z) v) :=
 ⟨by simp,fun k _ _ _ h1 h2=>qh _ _ _ _ (by show k≠g;omega)⟩
structure SLs (w0 W:E)(n1 b off n cap H M:Nat)(s:Nat->Bool)(ov:QB)(ord:List Nat)(dp:Int):Prop where
 c0:W.cell? (J H 0 Z)=Q (.slice (Q (J b off Z)) n cap)
 c1:W.cell? (J H 1 Z)=Q (.slice (Q (J M 0 Z)) n n)
 c2:W.cell? (J H 2 Z)=Q ov/\W.frozen? (J H 2 Z)=D
 c3:W.cell? (J H 3 Z)=Q (N I dp)/\W.frozen? (J H 3 Z)=D
 row:∀ q,q<n->W.cell? (J M q Z)=Q (QA (s q))/\W.frozen? (J M q Z)=D
 ord:W.ownsRow n1 3 1 ov ord.length (ord.map fun q:Nat=>Value.int I (q:Int))
 low:Below w0.heap.size w0 W
 hH:w0.heap.size<=H/\H<n1
 hM:w0.heap.size<=M/\M<n1
 ne:H≠M
 hz:n1<=W.heap.size
theorem SLs.blocks {g W d:E}{n1 b off n j H M:Nat}{s:Nat->Bool}{k i:QB}{ord f:List Nat}{l:Int}(h:SLs g W n1 b off n j H M s k ord l)(hz:W.heap.size<=d.heap.size)(p:d.heap[H]?=W.heap[H]?)(m:d.heap[M]?=W.heap[M]?)(t:Below g.heap.size g d)(x:i=k)(u:d.ownsRow n1 3 1 k f.length (f.map fun q:Nat=>Value.int I (q:Int))):SLs g d n1 b off n j H M s i f l:=by subst x;have c:∀ o,d.cell? (J H o Z)=W.cell? (J H o Z):=fun o=>cq (a:=(J H o Z)) p;have z:∀ o,d.frozen? (J H o Z)=W.frozen? (J H o Z):=fun o=>DC (a:=(J H o Z)) p;exact⟨(c 0).trans h.c0,(c 1).trans h.c1,⟨(c 2).trans h.c2.1,(z 2).trans h.c2.2⟩,⟨(c 3).trans h.c3.1,(z 3).trans h.c3.2⟩,fun q r=>⟨(cq (a:=(J M q Z)) m).trans (h.row q r).1,(DC (a:=(J M q Z)) m).trans (h.row q r).2⟩,u,t,h.hH,h.hM,h.ne,j5 h.hz hz⟩
theorem SLs.below {g W j:E}{n1 b off n d H M:Nat}{s:Nat->Bool}{i:QB}{ord:List Nat}{f:Int}(h:SLs g W n1 b off n d H M s i ord f)(hb:Below W.heap.size W j):SLs g j n1 b off n d H M s i ord f :=
 h.blocks hb.size (hb.block H (by have:=h.hH;have:=h.hz;omega)) (hb.block M (by have:=h.hM;have:=h.hz;omega)) (h.low.trans (hb.mono h.low.size)) rfl (own_below h.ord hb lr)
theorem mY {w:E}{b f n R j:Nat}{e:TypeId}{v:QB}{d:List QB}(h:w.ownsRow b e f v n d)(hR:R<b)(u:QB):(w.setCell (J R j Z) u).ownsRow b e f v n d:=by
 refine h.kept (row:=Q R) ⟨rfl,rfl,rfl,by simp[World.setCell],fun k _ g=>qh _ _ _ _ (by simpa using g)⟩ ?_;cases hv:v.ownBlock with
 | none=>exact .inl rfl
 | some k=>exact .inr fun i=>by have:=(h.lt k hv).1;cases i;omega
theorem SLs.mark {i W:E}{n1 b off n d H M p:Nat}{s:Nat->Bool}{j:QB}{ord:List Nat}{g:Int}(h:SLs i W n1 b off n d H M s j ord g)(hp:p<n):SLs i (W.setCell (J M p Z) (QA true)) n1 b off n d H M (put s p) j ord g:=by
 have c:∀ o,(W.setCell (J M p Z) (QA true)).cell? (J H o Z)=W.cell? (J H o Z):=fun o=>sq _ _ _ _ (by first | (simp;done) | (simp;exact fun e=>absurd e.symm h.ne) | (simp;exact fun e=>absurd e h.ne) | (simp;omega));refine⟨(c 0).trans h.c0,(c 1).trans h.c1,⟨(c 2).trans h.c2.1,by simpa using h.c2.2⟩,⟨(c 3).trans h.c3.1,by simpa using h.c3.2⟩,fun q f=>⟨?_,by simpa using(h.row q f).2⟩,mY h.ord h.hM.2 _,h.low.setCell h.hM.1 _,h.hH,h.hM,h.ne,by simpa using h.hz⟩;by_cases e:q=p
 ·subst e
  rw[AI _ _ _ (by rw[(h.row q f).1];rfl)];simp[put]
 ·rw[sq _ _ _ _ (by first | (simp;done) | (simp;exact fun e=>absurd e.symm h.ne) | (simp;exact fun e=>absurd e h.ne) | (simp;omega)),(h.row q f).1]
  simp[put,e]
theorem SLs.deep {f W:E}{n1 b off n d H M:Nat}{s:Nat->Bool}{g:QB}{ord:List Nat}{j:Int}(h:SLs f W n1 b off n d H M s g ord j)(v:Int):SLs f (W.setCell (J H 3 Z) (N I v)) n1 b off n d H M s g ord v:=by have c:∀ o,o≠3->(W.setCell (J H 3 Z) (N I v)).cell? (J H o Z)=W.cell? (J H o Z):=fun o ho=>sq _ _ _ _ (by first | (simp;done) | (simp;exact fun e=>absurd e.symm h.ne) | (simp;exact fun e=>absurd e h.ne) | (simp;omega));refine⟨(c 0 (by omega)).trans h.c0,(c 1 (by omega)).trans h.c1,⟨(c 2 (by omega)).trans h.c2.1,by simpa using h.c2.2⟩,⟨AI _ _ _ (by rw[h.c3.1];rfl),by simpa using h.c3.2⟩,fun q i=>⟨(sq _ _ _ _ (by first | (simp;done) | (simp;exact fun e=>absurd e.symm h.ne) | (simp;exact fun e=>absurd e h.ne) | (simp;omega))).trans (h.row q i).1,by simpa using(h.row q i).2⟩,mY h.ord h.hH.2 _,h.low.setCell h.hH.1 _,h.hH,h.hM,h.ne,by simpa using h.hz⟩
end Go.Proofs.YtkdimgejdocbbaaGreatDoor.Vp
