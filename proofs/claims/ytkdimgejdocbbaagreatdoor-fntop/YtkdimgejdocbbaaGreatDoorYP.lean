import Derived.Test.YtkdimgejdocbbaaGreatDoorYM
import Derived.Deep.WholeRow
import Derived.Test.YtkdimgejdocbbaaGreatDoorZL
import Derived.Deep.DeepCutAuto
set_option maxRecDepth 1000000
set_option maxHeartbeats 8000000
set_option linter.unusedSimpArgs false
open Go.Addr renaming mk->J
open Go.Value renaming slice->Y,string->U,int->N,bool->QA,agg->QE
open Option renaming none->Z,some->Q
open Go.Obj renaming cells->T
open Go.IntKind renaming i64->I
open Go renaming World->E,Value->QB,TypeId->QF
open Bool renaming false->D,true->QC
open Go.Ending renaming returned->QD
namespace Go.Proofs.YtkdimgejdocbbaaGreatDoor.Vp
open RowKit
theorem Ap (w b:E)(d:Array QB)(ty:QF)(QK:Obj)(j:Nat)(v:QB)(hz:b.heap.size=w.heap.size)(f:d[j]?=Q v):((b.alloc (T d ty)).alloc QK).cell? (J w.heap.size j Z)=Q v:=by rw[<-hz,((eI (b.alloc (T d ty)).heap.size _).alloc lr QK).cell (p:=(J b.heap.size j Z)) (by simp)];simp[f]
def jG (m:Mst)(c:Int):Turn:=⟨QC,c,m.t.name,D,⟨#[]⟩,m.steps⟩
theorem yk {b:Nat}{d:QB}{m:Mst}{w:E}(hM:MAt w b d m)(x:Bool)(c:Int)(t:ByteArray):∃ W,(((((((w.setCell (J b 55 Z) (QA D)).setCell (J b 56 Z) (N I 0)).setCell (J b 57 Z) (U ⟨#[]⟩)).setCell (J b 58 Z) (QA D)).setCell (J b 59 Z) (U ⟨#[]⟩)).setCell (J b 60 Z) (N I 0)).alloc (T #[QA x,N I c,U t] 66)).alloc (T #[QA m.t.over,N I m.t.code,U m.t.text,QA m.t.ask,U m.t.name,N I m.t.steps] 61)=W/\MAt W b d { m with t:=cK }/\Only b w W/\W.cell? (J w.heap.size 0 Z)=Q (QA x)/\W.cell? (J w.heap.size 1 Z)=Q (N I c)/\W.cell? (J w.heap.size 2 Z)=Q (U t)/\W.cell? (J (w.heap.size+1) 3 Z)=Q (QA m.t.ask)/\W.cell? (J (w.heap.size+1) 4 Z)=Q (U m.t.name)/\W.heap.size=w.heap.size+2 :=
 ⟨_,rfl,((hM.setTurn cK).al _).al _,((Cj (Only.refl b w) cK).al _).al _,Ap w _ _ _ _ _ _ (by simp) rfl,Ap w _ _ _ _ _ _ (by simp) rfl,Ap w _ _ _ _ _ _ (by simp) rfl,jA _ _ _ _ _ _ (by simp) rfl,jA _ _ _ _ _ _ (by simp) rfl,by simp⟩
def lX (m:Mst)(x:Bool)(c:Int)(t:ByteArray):Mst :=
 if m.t.ask=D then { m with t:=cK,S:=upd m.S m.size (dX x),size:=m.size+1 } else if x=D then { m with t:=jG m 4 } else if (c == 0)=D then { m with t:=jG m 5 } else { m with t:=cK,S:=upd m.S m.size t,size:=m.size+1 }
theorem Aq {m u:Mst}{x:Bool}{c:Int}{t:ByteArray}(h:u=lX m x c t):(m.t.ask=D/\u={ m with t:=cK,S:=upd m.S m.size (dX x),size:=m.size+1 })∨(m.t.ask=QC/\x=D/\u={ m with t:=jG m 4 })∨(m.t.ask=QC/\x=QC/\(c == 0)=D/\u={ m with t:=jG m 5 })∨(m.t.ask=QC/\x=QC/\c=0/\u={ m with t:=cK,S:=upd m.S m.size t,size:=m.size+1 }):=by unfold lX at h;cases ha:m.t.ask<;>cases x<;>cases hc:(c == 0)<;>simp_all
theorem iA (b:Nat)(i:QB)(m:Mst)(x:Bool)(c:Int)(t:ByteArray)(w:E)(hM:MAt w b i m)(QQ:m.size<50):Calls Tryz.prog 102 #[.pointer (Q (J b 0 Z)),QE #[QA x,N I c,U t]] w fun e w'=>e=QD (.tuple #[])/\MAt w' b i (lX m x c t)/\Only b w w':=by
 obtain⟨u,q⟩:∃ u,u=lX m x c t:=⟨_,rfl⟩
 rw[<-q];have s:=ae (Aq q);clear q;have hlt:=hM.lt;obtain⟨⟨c5,G⟩,⟨C,QM⟩,⟨M,L⟩,⟨H,QO⟩,⟨QN,K⟩,B,y⟩:=hM.turn;obtain⟨W,A,n,k,q0,q1,q2,QP,p4,hz⟩:=yk hM x c t;have z:=ae A;have g:=ae n;have o:=ae k;clear hM A n k;go_enter Tryz.func102,Tryz.ntmps102;go_upto_region 4 with fail;rw[z.out];clear z c5 C M H QN B G QM L QO K y;have hz0:w.heap.size<W.heap.size:=by omega
 have hz1:w.heap.size+1<W.heap.size:=by omega
 clear hz;rcases s.out with ⟨h,rfl⟩ | ⟨h,rfl,rfl⟩ | ⟨h,rfl,hc,rfl⟩ | ⟨h,rfl,rfl,rfl⟩
 all_goals
  rw[h] at QP;clear s;go_wp2_with (go_at_call 173;refine(jL b i { m with t:=cK } _ _ _ g).mono ?_;rintro e p ⟨rfl,f,d⟩;have l:=ae f;have j:Hid (Only b w p):=o.trans d;clear f d)
  (try go_region_with (first | (go_at_call 172;refine(lP _ _).mono ?_;rintro e w1 ⟨rfl,r⟩;subst r) | (go_at_call 171;refine(oX b i { m with t:=cK } _ _ ?_ QQ).mono ?_;(first | exact g | exact g.drew | exact g.drew.drew);rintro e p ⟨rfl,f,d⟩;have l:=ae f;have j:Hid (Only b w p):=Only.trans (by repeat (first | exact o | apply Only.drew)) d;clear f d)))
  all_goals
   (try go_wp2)
   refine lI rfl rfl ?_;exact⟨rfl,l,j⟩
theorem wO (b:Nat)(d:QB)(m:Mst)(x:Bool)(c:Int)(t:ByteArray)(w:E)(hM:MAt w b d m)(g:m.t.ask=D)(f:m.size<50):Calls Tryz.prog 102 #[.pointer (Q (J b 0 Z)),QE #[QA x,N I c,U t]] w fun e w'=>e=QD (.tuple #[])/\MAt w' b d { m with t:=cK,S:=upd m.S m.size (dX x),size:=m.size+1 }/\Only b w w':=by have h:=iA b d m x c t w hM f;rwa[lX,eT g] at h
theorem wP (b:Nat)(d:QB)(m:Mst)(t:ByteArray)(w:E)(hM:MAt w b d m)(g:m.t.ask=QC)(f:m.size<50):Calls Tryz.prog 102 #[.pointer (Q (J b 0 Z)),QE #[QA QC,N I 0,U t]] w fun e w'=>e=QD (.tuple #[])/\MAt w' b d { m with t:=cK,S:=upd m.S m.size t,size:=m.size+1 }/\Only b w w':=by have h:=iA b d m QC 0 t w hM f;rwa[lX,a8 (by simp[g]),a8 (by simp),a8 (by simp)] at h
theorem pi (b:Nat)(d:QB)(m:Mst)(c:Int)(t:ByteArray)(w:E)(hM:MAt w b d m)(g:m.t.ask=QC)(f:m.size<50):Calls Tryz.prog 102 #[.pointer (Q (J b 0 Z)),QE #[QA D,N I c,U t]] w fun e w'=>e=QD (.tuple #[])/\MAt w' b d { m with t:=jG m 4 }/\Only b w w':=by have h:=iA b d m D c t w hM f;rwa[lX,a8 (by simp[g]),eT rfl] at h
theorem sD (b:Nat)(d:QB)(m:Mst)(c:Int)(t:ByteArray)(w:E)(hM:MAt w b d m)(i:m.t.ask=QC)(f:(c == 0)=D)(g:m.size<50):Calls Tryz.prog 102 #[.pointer (Q (J b 0 Z)),QE #[QA QC,N I c,U t]] w fun e w'=>e=QD (.tuple #[])/\MAt w' b d { m with t:=jG m 5 }/\Only b w w':=by have h:=iA b d m QC c t w hM g;rwa[lX,a8 (by simp[i]),a8 (by simp),eT f] at h
def m0:Mst:={ S:=fun _=>⟨#[]⟩,size:=0,place:=0,steps:=0,looks:=0,t:=cK }
def eU (b:QB):Array QB:=(Array.range 61).map (m0.F b)
theorem ym (a:Option Addr)(n cap:Nat):Tryz.prog.built 142 [(1,Y a n cap)]=Q (eU (Y a n cap)):=by kernel_rfl
theorem infoM:(Tryz.prog.info? 142).map (·.size)=Q 61:=by kernel_rfl
theorem iB (b:QB):(eU b).size=61:=by simp[eU]
theorem Ar (b:QB)(j:Nat)(h:j<61):(eU b)[j]?=Q (m0.F b j):=by simp[eU,h]
theorem pT (a:Option Addr)(n cap:Nat):(eU (Y a n cap)).all (·.oneCell')=QC:=by kernel_rfl
theorem sE (w:E)(a:Option Addr)(n cap:Nat):MAt (w.alloc (T (eU (Y a n cap)) 142)) w.heap.size (Y a n cap) m0:=by
 refine⟨by simp,fun j b=>⟨?_,?_⟩⟩
 ·rw[World.cell?_alloc_new]
  exact Ar _ j b
 ·simp
theorem sF {P:Program}{d:Array Oper}{rest:List Oper}{o:Oper}{a:Act}{w:E}{QL:Exit->Act->E->Prop}(g:o.guard=Z)(t:QF)(b:Array (Nat × Operand))(j:o.op=.build t b)
  (l:List (Nat × QB)) (cells:Array QB) (f:(b.map fun(i,x)=>(i,a.eval x)).toList=l) (hb:P.built t l=Q cells) (h:wpList P d QL rest (a.put o.dst (QE cells)) w):wpList P d QL (o :: rest) a w:=by
 refine wpList_build g t b j (by rw[f,hb];rfl) ?_;rw[f,hb];exact h
theorem Pow.lt {w:E}(h:Pow w):2<w.heap.size:=by
 have d:=KI gPow h 0;rcases IW 2 w.heap.size with b | b
 ·exact b
 ·simp[World.cell?,JE b,Lib.pow10Tab] at d
theorem Sim.push {m:Mst}{p st l:Nat}{s:List ByteArray}(b:Sim m p st l s)(x:ByteArray)(d:x.size<=2000)(hl:s.length<50):Sim { m with t:=cK,S:=upd m.S m.size x,size:=m.size+1 } p st l (x :: s) :=
 ⟨by rw[b.size];exact b.rep.push x,by simp[b.size],by simp;omega,b.hpl,b.hst,b.hlk,fun z hz=>by
  rcases BC.1 hz with rfl | hz
  ·exact d
  ·exact b.le z hz,b.pl,b.st,b.lk⟩
theorem iC (b:Bool):(dX b).size<=2000:=by cases b<;>decide
def Six (w:E)(g:Nat):Prop:=g<w.heap.size/\∀ j,j<6->∃ v,w.cell? (J g j Z)=Q v/\w.frozen? (J g j Z)=D
theorem Six.below {w f:E}{g B:Nat}(h:Six w g)(b:Below B w f)(d:g<B):Six f g:=⟨ll h.1 b.size,fun j i=>by
 obtain⟨v,h1,h2⟩:=h.2 j i
 exact⟨v,(b.cell (p:=(J g j Z)) d).trans h1,(b.frozen (p:=(J g j Z)) d).trans h2⟩⟩
theorem Six.only {w i:E}{g b:Nat}(h:Six w g)(d:Only b w i)(f:g≠b):Six i g:=⟨ll h.1 d.size,fun j k=>by
 obtain⟨v,h1,h2⟩:=h.2 j k
 exact⟨v,(d.cell g j h.1 f).trans h1,(d.frozen g j h.1 f).trans h2⟩⟩
theorem jQ (w:E)(v0 v1 v2 v3 v4 v5:QB)(t:QF):Six (w.alloc (T #[v0,v1,v2,v3,v4,v5] t)) w.heap.size:=⟨by simp,fun j hj=>by
 rcases(show j=0∨j=1∨j=2∨j=3∨j=4∨j=5 by omega) with rfl | rfl | rfl | rfl | rfl | rfl
 all_goals exact⟨_,by simp;rfl,by simp⟩⟩
theorem dV {B g:Nat}{u w:E}(h:Below B u w)(b:B<=g)(v0 v1 v2 v3 v4 v5:QB):Below B u ((((((w.setCell (J g 0 Z) v0).setCell (J g 1 Z) v1).setCell (J g 2 Z) v2).setCell (J g 3 Z) v3).setCell (J g 4 Z) v4).setCell (J g 5 Z) v5) :=
 (((((h.setCell b v0).setCell b v1).setCell b v2).setCell b v3).setCell b v4).setCell b v5
def Goes (f:Nat->Ins)(cnt:Nat)(m:Mst)(H:Halt):Prop:=(m.t=cK/\∃ p k l s,Sim m p k l s/\kq f cnt (2001 - k) p k l s=Q H)∨eE m H
def badT:Turn:=⟨D,9,⟨#[]⟩,D,⟨#[]⟩,0⟩
def mC (f:Nat->Ins)(cnt:Nat)(y:Nat->aA)(n:Nat):Turn:=if valid f cnt=D then badT else if 200<n then badT else if bR y n=D then badT else bV f cnt y n 2001 0 0 0 []
theorem nD {f:Nat->Ins}{cnt:Nat}{m:Mst}{p st l:Nat}{s:List ByteArray}(d:m.t=cK)(b:Sim m p st l s):∃ H,Goes f cnt m H/\fR l H/\∀ y n,dM f cnt y n H=bV f cnt y n (2001 - st) p st l s:=by obtain⟨H,hH⟩:=pS f cnt (2001 - st) p st l s b.st (by have:=b.st;omega);exact⟨H,.inl ⟨d,p,st,l,s,b,hH⟩,(nC f cnt (fun _=>⟨D,0,⟨#[]⟩⟩) 0 _ p st l s H b.st rfl hH).2,fun y n=>(nC f cnt y n _ p st l s H b.st rfl hH).1.symm⟩
theorem ua (b:Nat)(k:QB)(f:Nat->Ins)(cnt:Nat)(m:Mst)(a:Bool)(nm:ByteArray)(s:List ByteArray)(p st l:Nat)(r:aA)(w:E)(hM:MAt w b k m)(G:eE m (.inr (a,nm,s,p,st,l)))(hl:1<=l)(H:r.text.size<=2000):Calls Tryz.prog 102 #[.pointer (Q (J b 0 Z)),QE #[QA r.has,N I r.code,U r.text]] w fun e w'=>e=QD (.tuple #[])/\∃ QP g,MAt w' b k QP/\Goes f cnt QP g/\fR l g/\(∀ y n,l<=n->y (l - 1)=r->dM f cnt y n (.inr (a,nm,s,p,st,l))=dM f cnt y n g)/\Only b w w':=by
 obtain⟨QQ,o,hnm,x⟩:=G;have q:m.t.ask=a:=by rw[QQ]
 have u:m.t.name=nm:=by rw[QQ]
 have hz:m.size<50:=by rw[o.size];exact x
 cases a with
 | false =>refine(wO b k m r.has r.code r.text w hM q hz).mono ?_;rintro e w' ⟨rfl,d,h⟩;obtain⟨g,z,A,C⟩:=nD (f:=f) (cnt:=cnt) (m:={ m with t:=cK,S:=upd m.S m.size (dX r.has),size:=m.size+1 }) rfl (o.push (dX r.has) (iC _) x);refine⟨rfl,_,g,d,z,A,fun y n B i=>?_,h⟩;rw[C y n];simp only[dM,i];rw[a8 (by omega),eT trivial]
 | true =>
  by_cases h1:r.has=D
  ·rw[h1]
   refine(pi b k m r.code r.text w hM q hz).mono ?_;rintro e w' ⟨rfl,d,h⟩;refine⟨rfl,_,.inl (4,nm,st),d,.inr ?_,trivial,fun y n B i=>?_,h⟩
   ·show jG m 4=_
    simp only[jG,u,o.hst]
   ·simp only[dM,i]
    rw[a8 (by omega)];simp[h1]
  ·have j:r.has=QC:=by simpa using h1
   by_cases h2:r.code=0
   ·rw[j,h2]
    refine(wP b k m r.text w hM q hz).mono ?_;rintro e w' ⟨rfl,d,h⟩;obtain⟨g,z,A,C⟩:=nD (f:=f) (cnt:=cnt) (m:={ m with t:=cK,S:=upd m.S m.size r.text,size:=m.size+1 }) rfl (o.push r.text H x);refine⟨rfl,_,g,d,z,A,fun y n B i=>?_,h⟩;rw[C y n];simp only[dM,i];rw[a8 (by omega)];simp[j,h2]
   ·rw[j]
    refine(sD b k m r.code r.text w hM q (by simpa using h2) hz).mono ?_;rintro e w' ⟨rfl,d,h⟩;refine⟨rfl,_,.inl (5,nm,st),d,.inr ?_,trivial,fun y n B i=>?_,h⟩
    ·show jG m 5=_
     simp only[jG,u,o.hst]
    ·simp only[dM,i]
     rw[a8 (by omega)];simp[j,h2]
theorem yn (d f cnt cap:Nat)(w:E):Calls Tryz.prog 228 #[QE #[Y (Q (J d f Z)) cnt cap]] w fun e w'=>∃ b,e=QD (.func (.func 253) #[] #[.pointer (Q (J b 0 Z))])/\w.heap.size<=b/\MAt w' b (Y (Q (J d f Z)) cnt cap) m0/\Below w.heap.size w w':=by
 have i:=ae ((Qs w).alloc lr (T #[Y (Q (J d f Z)) cnt cap] 31));have k0:(w.alloc (T #[Y (Q (J d f Z)) cnt cap] 31)).cell? (J w.heap.size 0 Z)=Q (Y (Q (J d f Z)) cnt cap):=by simp
 have z0:(w.alloc (T #[Y (Q (J d f Z)) cnt cap] 31)).heap.size=w.heap.size+1:=by simp
 have g:=ae (sE (w.alloc (T #[Y (Q (J d f Z)) cnt cap] 31)) (Q (J d f Z)) cnt cap);have h:=ae (by have:=g.out;rw[z0] at this;exact this);have j:=ae (i.alloc i.size (T (eU (Y (Q (J d f Z)) cnt cap)) 142));go_enter Tryz.func228,Tryz.ntmps228
 go_wp2_with (first
  | (refine sF rfl 142 #[(1,.tmp 5)] rfl [(1,Y (Q (J d f Z)) cnt cap)] (eU (Y (Q (J d f Z)) cnt cap)) (by simp[Act.eval]) (ym _ _ _) ?_)
  | (refine wpList_store_row rfl 142 (.tmp 3) (.tmp 6) rfl (w.heap.size+1) (eU (Y (Q (J d f Z)) cnt cap)) rfl rfl _ _ (by rw[<-z0];exact heap_alloc_last _ _) (infoM.trans (by rw[iB])) (by rw[iB];rfl) (pT _ _ _) ?_;rw[<-z0,World.setRow_alloc_new])
  | fail)
 go_ret;exact⟨_,rfl,by first | (simp;done) | (simp;omega),h,j⟩
theorem oF (b l n cnt cap:Nat)(f:Nat->Ins)(m:Mst)(H:Halt)(r:aA)(w:E)(hM:MAt w b (Y (Q (J l n Z)) cnt cap) m)(G:Env w b l n cnt f)(QG:m.t.name=⟨#[]⟩)(QM:cnt<=200)(x:cQ f cnt=QC)(QN:Goes f cnt m H):Calls Tryz.prog 253 #[QE #[QA r.has,N I r.code,U r.text],.pointer (Q (J b 0 Z))] w fun e w'=>∃ u,e=QD u.t.v/\MAt w' b (Y (Q (J l n Z)) cnt cap) u/\eE u H/\Only b w w':=by
 have QQ:=hM.lt;have i:=ae ((hM.al (T #[QA r.has,N I r.code,U r.text] 66)).al (T #[QA D,N I 0,U ⟨#[]⟩,QA D,U ⟨#[]⟩,N I 0] 61));have j:=ae (((Only.refl b w).al (T #[QA r.has,N I r.code,U r.text] 66)).al (T #[QA D,N I 0,U ⟨#[]⟩,QA D,U ⟨#[]⟩,N I 0] 61));have k:=jQ (w.alloc (T #[QA r.has,N I r.code,U r.text] 66)) (QA D) (N I 0) (U ⟨#[]⟩) (QA D) (U ⟨#[]⟩) (N I 0) 61;rw[show(w.alloc (T #[QA r.has,N I r.code,U r.text] 66)).heap.size=w.heap.size+1 by simp] at k;have y:=ae k;have HE:=ae G;have HG:=ae QN;obtain⟨⟨c5,O⟩,⟨K,z6⟩,⟨c7,QH⟩,⟨S,QJ⟩,⟨C,X⟩,QO,B⟩:=i.turn;rw[QG] at C;clear hM G QN k c5 O K z6 c7 QH S QJ X QO B;go_enter Tryz.func253,Tryz.ntmps253;go_wp2_with fail;clear C;generalize ((w.alloc (T #[QA r.has,N I r.code,U r.text] 66)).alloc (T #[QA D,N I 0,U ⟨#[]⟩,QA D,U ⟨#[]⟩,N I 0] 61))=W0 at i j y ⊢;have hb0:b<W0.heap.size:=i.lt;refine(uO b l n cnt cap f m H _ i (HE.only QQ j) QM x HG).mono ?_;rintro e W ⟨d,rfl,s,q,o⟩;have p:=ae o;clear o;have h:=ae (y.only p (by omega));have hx3:w.heap.size+1<W.heap.size:=h.1;have z:=ae s;have A:=ae q;have QP:=ae (j.trans p);clear s q;obtain⟨v0,P,y0⟩:=h.2 0 (by omega);obtain⟨v1,M,y1⟩:=h.2 1 (by omega);obtain⟨v2,QL,y2⟩:=h.2 2 (by omega);obtain⟨v3,q3,y3⟩:=h.2 3 (by omega);obtain⟨v4,L,y4⟩:=h.2 4 (by omega);obtain⟨v5,V,y5⟩:=h.2 5 (by omega);have g:w.heap.size+1≠b:=by omega
 have R:=ae ((((((z.other (w.heap.size+1) 0 (QA d.t.over) g).other (w.heap.size+1) 1 (N I d.t.code) g).other (w.heap.size+1) 2 (U d.t.text) g).other (w.heap.size+1) 3 (QA d.t.ask) g).other (w.heap.size+1) 4 (U d.t.name) g).other (w.heap.size+1) 5 (N I d.t.steps) g);have QK:=ae ((((((QP.setNew (w.heap.size+1) 0 (QA d.t.over) (by omega)).setNew (w.heap.size+1) 1 (N I d.t.code) (by omega)).setNew (w.heap.size+1) 2 (U d.t.text) (by omega)).setNew (w.heap.size+1) 3 (QA d.t.ask) (by omega)).setNew (w.heap.size+1) 4 (U d.t.name) (by omega)).setNew (w.heap.size+1) 5 (N I d.t.steps) (by omega));simp only[Turn.v];go_wp2;exact bp (v:=d.t.v) (by simp[results,Tryz.results253,go_sem,Turn.v,P,M,QL,q3,L,V]) rfl ⟨d,rfl,R,A,QK⟩
theorem jp (b x o cnt cap:Nat)(f:Nat->Ins)(m:Mst)(a:Bool)(nm:ByteArray)(s:List ByteArray)(p st l:Nat)(r:aA)(w:E)(hM:MAt w b (Y (Q (J x o Z)) cnt cap) m)(S:Env w b x o cnt f)(z:eE m (.inr (a,nm,s,p,st,l)))(hl:1<=l)(hr:r.text.size<=2000)(hc:cnt<=200)(O:cQ f cnt=QC):Calls Tryz.prog 253 #[QE #[QA r.has,N I r.code,U r.text],.pointer (Q (J b 0 Z))] w fun e w'=>∃ M k,e=QD M.t.v/\MAt w' b (Y (Q (J x o Z)) cnt cap) M/\eE M k/\fR l k/\(∀ y n,l<=n->y (l - 1)=r->dM f cnt y n (.inr (a,nm,s,p,st,l))=dM f cnt y n k)/\Only b w w':=by
 have QG:=hM.lt;have j:=ae ((hM.al (T #[QA r.has,N I r.code,U r.text] 66)).al (T #[QA D,N I 0,U ⟨#[]⟩,QA D,U ⟨#[]⟩,N I 0] 61));have u:=ae (((Only.refl b w).al (T #[QA r.has,N I r.code,U r.text] 66)).al (T #[QA D,N I 0,U ⟨#[]⟩,QA D,U ⟨#[]⟩,N I 0] 61));have q:=jQ (w.alloc (T #[QA r.has,N I r.code,U r.text] 66)) (QA D) (N I 0) (U ⟨#[]⟩) (QA D) (U ⟨#[]⟩) (N I 0) 61;rw[show(w.alloc (T #[QA r.has,N I r.code,U r.text] 66)).heap.size=w.heap.size+1 by simp] at q;have QM:=ae q;have HE:=ae S;have HS:=ae z;have QQ:m.t.name=nm:=by have:=z.1;rw[this]
 have g:nm.toList.isEmpty=D:=by
  have hn:=z.2.2.1;have h0:¬ nm.size=0:=by simp only[au,gM,j4] at hn;omega
  have:=lG h0;cases h:nm.toList with
  | nil=>exact absurd h this
  | cons _ _=>rfl
 obtain⟨⟨c5,z5⟩,⟨c6,z6⟩,⟨c7,z7⟩,⟨c8,z8⟩,⟨QK,z9⟩,QH,X⟩:=j.turn;rw[QQ] at QK;clear hM S z q QQ c5 z5 c6 z6 c7 z7 c8 z8 z9 QH X;go_enter Tryz.func253,Tryz.ntmps253;go_wp2_with fail;clear QK g;generalize ((w.alloc (T #[QA r.has,N I r.code,U r.text] 66)).alloc (T #[QA D,N I 0,U ⟨#[]⟩,QA D,U ⟨#[]⟩,N I 0] 61))=W0 at j u QM ⊢;have hb0:b<W0.heap.size:=j.lt;refine(ua b (Y (Q (J x o Z)) cnt cap) f cnt m a nm s p st l r _ j HS hl hr).mono ?_;rintro e w1 ⟨rfl,m1,k,QO,L,H,A,QP⟩;have aq:=ae QO;have W:=ae L;have QJ:=ae H;have V:=ae A;have QN:=ae QP;clear QO L H A QP;go_wp2_with fail;refine(uO b x o cnt cap f m1 k _ aq (HE.only QG (u.trans QN)) hc O W).mono ?_;rintro e w3 ⟨d,rfl,C,K,G⟩;have B:=ae (QN.trans G);clear G;have i:=ae (QM.only B (by omega));have hx3:w.heap.size+1<w3.heap.size:=i.1;have P:=ae C;have QL:=ae K;have R:=ae (u.trans B);clear C K;obtain⟨v0,q0,y0⟩:=i.2 0 (by omega);obtain⟨v1,q1,y1⟩:=i.2 1 (by omega);obtain⟨v2,q2,y2⟩:=i.2 2 (by omega);obtain⟨v3,q3,y3⟩:=i.2 3 (by omega);obtain⟨v4,q4,y4⟩:=i.2 4 (by omega);obtain⟨v5,q5,y5⟩:=i.2 5 (by omega);have g:w.heap.size+1≠b:=by omega
 have MM:=ae ((((((P.other (w.heap.size+1) 0 (QA d.t.over) g).other (w.heap.size+1) 1 (N I d.t.code) g).other (w.heap.size+1) 2 (U d.t.text) g).other (w.heap.size+1) 3 (QA d.t.ask) g).other (w.heap.size+1) 4 (U d.t.name) g).other (w.heap.size+1) 5 (N I d.t.steps) g);have OO:=ae ((((((R.setNew (w.heap.size+1) 0 (QA d.t.over) (by omega)).setNew (w.heap.size+1) 1 (N I d.t.code) (by omega)).setNew (w.heap.size+1) 2 (U d.t.text) (by omega)).setNew (w.heap.size+1) 3 (QA d.t.ask) (by omega)).setNew (w.heap.size+1) 4 (U d.t.name) (by omega)).setNew (w.heap.size+1) 5 (N I d.t.steps) (by omega));simp only[Turn.v];go_wp2;exact bp (v:=d.t.v) (by simp[results,Tryz.results253,go_sem,Turn.v,q0,q1,q2,q3,q4,q5]) rfl ⟨d,k,rfl,MM,QL,QJ,V,OO⟩
theorem mN {f:Nat->Ins}{cnt i:Nat}{y:Nat->aA}{m:Mst}{H:Halt}(b:eE m H)(hL:fR i H):dM f cnt y i H=m.t:=by
 rcases H with ⟨c,x,k⟩ | ⟨a,nm,s,p,k,l⟩
 ·exact(show m.t=⟨QC,c,x,D,⟨#[]⟩,k⟩ from b).symm
 ·have d:l=i+1:=hL
  subst d;simp only[dM,JD];rw[eT lr ];exact b.1.symm
theorem jH {m:Mst}{H:Halt}(d:eE m H)(b:m.t.over=D):∃ a nm s p k l,H=.inr (a,nm,s,p,k,l):=by
 rcases H with ⟨c,x,k⟩ | ⟨a,nm,s,p,k,l⟩
 ·have:m.t=⟨QC,c,x,D,⟨#[]⟩,k⟩:=d
  rw[this] at b;simp at b
 ·exact⟨a,nm,s,p,k,l,rfl⟩
def TurnBox (w:E)(g:Nat)(t:Turn):Prop:=g<w.heap.size/\(w.cell? (J g 0 Z)=Q (QA t.over)/\w.cell? (J g 1 Z)=Q (N I t.code)/\w.cell? (J g 2 Z)=Q (U t.text)/\w.cell? (J g 3 Z)=Q (QA t.ask)/\w.cell? (J g 4 Z)=Q (U t.name)/\w.cell? (J g 5 Z)=Q (N I t.steps))/\∀ j,w.frozen? (J g j Z)=D
theorem TurnBox.below {w w':E}{g B:Nat}{t:Turn}(h:TurnBox w g t)(hb:Below B w w')(b:g<B):TurnBox w' g t:=by obtain⟨h1,⟨c0,c1,c2,c3,c4,c5⟩,hz⟩:=h;exact⟨ll h1 hb.size,⟨(hb.cell (p:=(J g _ Z)) b).trans c0,(hb.cell (p:=(J g _ Z)) b).trans c1,(hb.cell (p:=(J g _ Z)) b).trans c2,(hb.cell (p:=(J g _ Z)) b).trans c3,(hb.cell (p:=(J g _ Z)) b).trans c4,(hb.cell (p:=(J g _ Z)) b).trans c5⟩,fun j=>(hb.frozen (p:=(J g j Z)) b).trans (hz j)⟩
theorem TurnBox.only {w w':E}{g b:Nat}{t:Turn}(h:TurnBox w g t)(d:Only b w w')(f:g≠b):TurnBox w' g t:=by obtain⟨h1,⟨c0,c1,c2,c3,c4,c5⟩,hz⟩:=h;exact⟨ll h1 d.size,⟨(d.cell g _ h1 f).trans c0,(d.cell g _ h1 f).trans c1,(d.cell g _ h1 f).trans c2,(d.cell g _ h1 f).trans c3,(d.cell g _ h1 f).trans c4,(d.cell g _ h1 f).trans c5⟩,fun j=>(d.frozen g j h1 f).trans (hz j)⟩
theorem As (w:E)(t:Turn)(ty:QF):TurnBox (w.alloc (T #[QA t.over,N I t.code,U t.text,QA t.ask,U t.name,N I t.steps] ty)) w.heap.size t :=
 ⟨by simp,⟨by simp,by simp,by simp,by simp,by simp,by simp⟩,fun j=>by simp⟩
def eF (w:E)(g:Nat)(t:Turn):E:=(((((w.setCell (J g 0 Z) (QA t.over)).setCell (J g 1 Z) (N I t.code)).setCell (J g 2 Z) (U t.text)).setCell (J g 3 Z) (QA t.ask)).setCell (J g 4 Z) (U t.name)).setCell (J g 5 Z) (N I t.steps)
theorem uQ {w:E}{g:Nat}{u:Turn}(t:Turn)(h:TurnBox w g u):TurnBox (eF w g t) g t:=by obtain⟨h1,⟨c0,c1,c2,c3,c4,c5⟩,hz⟩:=h;refine⟨by simpa[eF] using h1,⟨?_,?_,?_,?_,?_,?_⟩,fun j=>by simpa[eF] using hz j⟩;all_goals simp[eF,go_sem,c0,c1,c2,c3,c4,c5]
theorem kD {w:E}{g:Nat}(t:Turn):Only g w (eF w g t):=bZ (bZ (bZ (bZ (bZ (bZ (Only.refl g w) 0 _) 1 _) 2 _) 3 _) 4 _) 5 _
theorem MAt.boxed {w:E}{b:Nat}{f:QB}{m:Mst}(h:MAt w b f m){g:Nat}(d:g≠b)(t:Turn):MAt (eF w g t) b f m :=
 (((((h.other g 0 (QA t.over) d).other g 1 (N I t.code) d).other g 2 (U t.text) d).other g 3 (QA t.ask) d).other g 4 (U t.name) d).other g 5 (N I t.steps) d
abbrev dN (at_:Int)(sv:QB)(st lk:Int)(d:Bool)(c:Int)(x:ByteArray)(ask:Bool)(nm:ByteArray)(b:Bool):QB :=
 QE #[N I at_,sv,N I st,N I lk,QA d,N I c,U x,QA ask,U nm,QA b]
theorem dD {B g:Nat}{u w:E}(h:Below B u w)(b:B<=g)(v0 v1 v2 v3 v4 v5 v6 v7 v8 v9:QB):Below B u ((((((((((w.setCell (J g 0 Z) v0).setCell (J g 1 Z) v1).setCell (J g 2 Z) v2).setCell (J g 3 Z) v3).setCell (J g 4 Z) v4).setCell (J g 5 Z) v5).setCell (J g 6 Z) v6).setCell (J g 7 Z) v7).setCell (J g 8 Z) v8).setCell (J g 9 Z) v9) :=
 (((((((((h.setCell b v0).setCell b v1).setCell b v2).setCell b v3).setCell b v4).setCell b v5).setCell b v6).setCell b v7).setCell b v8).setCell b v9
theorem fl (at_:Int)(a:Option Addr)(n cap:Nat)(st lk:Int)(f:Bool)(c0:Int)(d:ByteArray)(ask:Bool)(nm:ByteArray)(b:Bool)(c:Int)(x:ByteArray)(w:E):Calls Tryz.prog 255 #[dN at_ (Y a n cap) st lk f c0 d ask nm b,N I c,U x] w fun e w'=>e=QD (dN at_ (Y a n cap) st lk QC c x ask nm b)/\Below w.heap.size w w':=by go_enter Tryz.func255,Tryz.ntmps255;go_wp2;refine bp (v:=dN at_ (Y a n cap) st lk QC c x ask nm b) (by simp[results,Tryz.results255,go_sem]) rfl ⟨rfl,(br.alloc lr _).alloc (by simp) _⟩
theorem ub (op:Nat)(w:E)(h1:1<=op)(h15:op<=15):Calls Tryz.prog 256 #[N I op] w fun e w'=>e=QD (.tuple #[N I (aM op),N I (bG op)])/\w'=w:=by
 rcases(show op=1∨op=2∨op=3∨op=4∨op=5∨op=6∨op=7∨op=8∨op=9∨op=10∨op=11∨op=12∨op=13∨op=14∨op=15 by omega) with rfl | rfl | rfl | rfl | rfl | rfl | rfl | rfl | rfl | rfl | rfl | rfl | rfl | rfl | rfl;all_goals
  go_enter Tryz.func256,Tryz.ntmps256;go_wp2;refine bp (v:=.tuple #[N I (aM _),N I (bG _)]) (by simp[results,Tryz.results256,go_sem,aM,bG]) rfl ⟨rfl,rfl⟩
def b9 (op n:Nat)(t a b:ByteArray):List ByteArray :=
 match op with
 | 1=>[t]
 | 2=>[b++a]
 | 3=>[if n<a.size then a.extract 0 n else a]
 | 4=>[if n<a.size then a.extract n a.size else ⟨#[]⟩]
 | 5=>[fA a n]
 | 6=>[dX (a.toList == b.toList)]
 | 7=>[a,a]
 | 8=>[a,b]
 | _=>[]
theorem lY (w:E)(x:ByteArray)(g:Nat)(b:g=w.heap.size):RowStr (w.alloc (T #[U x] 9)) g 0 1 (fun i=>[x].getD i ⟨#[]⟩):=by
 subst b
 exact⟨by simp,fun i hi=>by
  obtain rfl:i=0:=by omega
  simp⟩
theorem El (w:E)(x y:ByteArray)(g:Nat)(b:g=w.heap.size):RowStr (w.alloc (T #[U x,U y] 9)) g 0 2 (fun i=>[x,y].getD i ⟨#[]⟩):=by subst b;exact⟨by simp,fun i hi=>by rcases(show i=0∨i=1 by omega) with rfl | rfl<;>simp⟩
theorem uc (op n:Nat)(t a b:ByteArray)(w:E)(h1:1<=op)(h8:op<=8)(l:a.size<=2000)(hb:b.size<=2000)(k:n<=2000):Calls Tryz.prog 258 #[QE #[N I op,U t,N I n],U a,U b] w fun e w'=>∃ g,e=QD (Y (Q (J g 0 Z)) (b9 op n t a b).length (b9 op n t a b).length)/\RowStr w' g 0 (b9 op n t a b).length (fun i=>(b9 op n t a b).getD i ⟨#[]⟩)/\w.heap.size<=g/\Below w.heap.size w w':=by
 have d:=ae ((Qs w).alloc lr (T #[N I op,U t,N I n] 188));rcases(show op=1∨op=2∨op=3∨op=4∨op=5∨op=6∨op=7∨op=8 by omega) with rfl | rfl | rfl | rfl | rfl | rfl | rfl | rfl
 ·go_enter Tryz.func258,Tryz.ntmps258
  go_wp2;go_ret;exact⟨_,rfl,lY _ t _ (by simp),by simp,d.alloc (by simp) _⟩
 ·go_enter Tryz.func258,Tryz.ntmps258
  go_wp2;go_ret;exact⟨_,rfl,lY _ (b++a) _ (by simp),by simp,d.alloc (by simp) _⟩
 ·by_cases h:(n:Int)<a.size
  ·have e:b9 3 n t a b=[a.extract 0 n]:=by simp[b9];omega
   rw[e];clear e;go_enter Tryz.func258,Tryz.ntmps258;go_wp2;go_ret;exact⟨_,rfl,lY _ _ _ (by simp),by simp,d.alloc (by simp) _⟩
  ·have e:b9 3 n t a b=[a]:=by simp[b9];omega
   rw[e];clear e;go_enter Tryz.func258,Tryz.ntmps258;go_wp2;go_ret;exact⟨_,rfl,lY _ _ _ (by simp),by simp,d.alloc (by simp) _⟩
 ·by_cases h:(n:Int)<a.size
  ·have e:b9 4 n t a b=[a.extract n a.size]:=by simp[b9];omega
   rw[e];clear e;go_enter Tryz.func258,Tryz.ntmps258;go_wp2;go_ret;exact⟨_,rfl,lY _ _ _ (by simp),by simp,d.alloc (by simp) _⟩
  ·have e:b9 4 n t a b=[⟨#[]⟩]:=by simp[b9];omega
   rw[e];clear e;go_enter Tryz.func258,Tryz.ntmps258;go_wp2;go_ret;exact⟨_,rfl,lY _ _ _ (by simp),by simp,d.alloc (by simp) _⟩
 ·go_enter Tryz.func258,Tryz.ntmps258
  go_wp2_with fail;refine(tX a n _ l k).mono ?_;rintro e m ⟨rfl,f⟩;have j:=ae (d.trans (f.mono (by simp)));clear f;go_wp2;go_ret;exact⟨_,rfl,lY _ (fA a n) _ rfl,j.size,j.alloc j.size _⟩
 ·go_enter Tryz.func258,Tryz.ntmps258
  go_wp2_with fail;refine(oq _ _).mono ?_;rintro e m ⟨rfl,rfl⟩;go_wp2;go_ret;exact⟨_,rfl,lY _ (dX (a.toList == b.toList)) _ (by simp),by simp,d.alloc (by simp) _⟩
 ·go_enter Tryz.func258,Tryz.ntmps258
  go_wp2;go_ret;exact⟨_,rfl,El _ a a _ (by simp),by simp,d.alloc (by simp) _⟩
 ·go_enter Tryz.func258,Tryz.ntmps258
  go_wp2;go_ret;exact⟨_,rfl,El _ a b _ (by simp),by simp,d.alloc (by simp) _⟩
def Ten (w:E)(g:Nat)(v0 v1 v2 v3 v4 v5 v6 v7 v8 v9:QB):Prop:=g<w.heap.size/\(w.cell? (J g 0 Z)=Q v0/\w.frozen? (J g 0 Z)=D)/\(w.cell? (J g 1 Z)=Q v1/\w.frozen? (J g 1 Z)=D)/\(w.cell? (J g 2 Z)=Q v2/\w.frozen? (J g 2 Z)=D)/\(w.cell? (J g 3 Z)=Q v3/\w.frozen? (J g 3 Z)=D)/\(w.cell? (J g 4 Z)=Q v4/\w.frozen? (J g 4 Z)=D)/\(w.cell? (J g 5 Z)=Q v5/\w.frozen? (J g 5 Z)=D)/\(w.cell? (J g 6 Z)=Q v6/\w.frozen? (J g 6 Z)=D)/\(w.cell? (J g 7 Z)=Q v7/\w.frozen? (J g 7 Z)=D)/\(w.cell? (J g 8 Z)=Q v8/\w.frozen? (J g 8 Z)=D)/\(w.cell? (J g 9 Z)=Q v9/\w.frozen? (J g 9 Z)=D)
section
variable {w w':E}{g:Nat}{v0 v1 v2 v3 v4 v5 v6 v7 v8 v9:QB}
theorem Ten.of_block (h:Ten w g v0 v1 v2 v3 v4 v5 v6 v7 v8 v9)(hz:w.heap.size<=w'.heap.size)(hb:w'.heap[g]?=w.heap[g]?):Ten w' g v0 v1 v2 v3 v4 v5 v6 v7 v8 v9:=by have d:∀ o,w'.cell? (J g o Z)=w.cell? (J g o Z):=fun o=>cq (a:=(J g o Z)) hb;have b:∀ o,w'.frozen? (J g o Z)=w.frozen? (J g o Z):=fun o=>DC (a:=(J g o Z)) hb;unfold Ten at h ⊢;simp only[d,b];exact⟨ll h.1 hz,h.2⟩
theorem Ten.below {B:Nat}(h:Ten w g v0 v1 v2 v3 v4 v5 v6 v7 v8 v9)(hb:Below B w w')(b:g<B):Ten w' g v0 v1 v2 v3 v4 v5 v6 v7 v8 v9:=h.of_block hb.size (hb.block g b)
theorem Ten.grown {row:Option Nat}(h:Ten w g v0 v1 v2 v3 v4 v5 v6 v7 v8 v9)(hb:w.grownBy w' row)(b:Q g≠row):Ten w' g v0 v1 v2 v3 v4 v5 v6 v7 v8 v9:=h.of_block hb.size (hb.block g h.1 b)
theorem Ten.al (h:Ten w g v0 v1 v2 v3 v4 v5 v6 v7 v8 v9)(o:Obj):Ten (w.alloc o) g v0 v1 v2 v3 v4 v5 v6 v7 v8 v9:=h.below ((Qs w).alloc lr o) h.1
theorem Ten.other (h:Ten w g v0 v1 v2 v3 v4 v5 v6 v7 v8 v9)(p:Addr)(u:QB)(b:p.block≠g):Ten (w.setCell p u) g v0 v1 v2 v3 v4 v5 v6 v7 v8 v9:=h.of_block (by simp) (qh w p u g (fun e=>b e.symm))
end
theorem jR (w:E)(v0 v1 v2 v3 v4 v5 v6 v7 v8 v9:QB)(t:QF)(g:Nat)(b:g=w.heap.size):Ten (w.alloc (T #[v0,v1,v2,v3,v4,v5,v6,v7,v8,v9] t)) g v0 v1 v2 v3 v4 v5 v6 v7 v8 v9:=by subst b;simp[Ten]
section
variable {w:E}{g:Nat}{v0 v1 v2 v3 v4 v5 v6 v7 v8 v9:QB}
theorem Ten.sets (h:Ten w g v0 v1 v2 v3 v4 v5 v6 v7 v8 v9)(u:QB):Ten (w.setCell (J g 0 Z) u) g u v1 v2 v3 v4 v5 v6 v7 v8 v9/\Ten (w.setCell (J g 1 Z) u) g v0 u v2 v3 v4 v5 v6 v7 v8 v9/\Ten (w.setCell (J g 2 Z) u) g v0 v1 u v3 v4 v5 v6 v7 v8 v9/\Ten (w.setCell (J g 3 Z) u) g v0 v1 v2 u v4 v5 v6 v7 v8 v9/\Ten (w.setCell (J g 4 Z) u) g v0 v1 v2 v3 u v5 v6 v7 v8 v9/\Ten (w.setCell (J g 5 Z) u) g v0 v1 v2 v3 v4 u v6 v7 v8 v9/\Ten (w.setCell (J g 6 Z) u) g v0 v1 v2 v3 v4 v5 u v7 v8 v9/\Ten (w.setCell (J g 7 Z) u) g v0 v1 v2 v3 v4 v5 v6 u v8 v9/\Ten (w.setCell (J g 8 Z) u) g v0 v1 v2 v3 v4 v5 v6 v7 u v9/\Ten (w.setCell (J g 9 Z) u) g v0 v1 v2 v3 v4 v5 v6 v7 v8 u:=by have o:∀ i j:Nat,i≠j->(w.setCell (J g i Z) u).cell? (J g j Z)=w.cell? (J g j Z):=fun i j hij=>sq _ _ _ _ (by simp);have s:∀ i v,w.cell? (J g i Z)=Q v->(w.setCell (J g i Z) u).cell? (J g i Z)=Q u:=fun i v e=>AI _ _ _ (by rw[e];rfl);obtain⟨t,⟨p,QP⟩,⟨m,QQ⟩,⟨n,C⟩,⟨f,H⟩,⟨b,B⟩,⟨l,z⟩,⟨q,G⟩,⟨k,A⟩,⟨d,y⟩,r,x⟩:=h;simp[Ten,o,t,s _ _ p,s _ _ m,s _ _ n,s _ _ f,s _ _ b,s _ _ l,s _ _ q,s _ _ k,s _ _ d,s _ _ r,p,m,n,f,b,l,q,k,d,r,QP,QQ,C,H,B,z,G,A,y,x]
theorem Ten.set0 (h:Ten w g v0 v1 v2 v3 v4 v5 v6 v7 v8 v9)(u:QB):Ten (w.setCell (J g 0 Z) u) g u v1 v2 v3 v4 v5 v6 v7 v8 v9:=(h.sets u).1
theorem Ten.set1 (h:Ten w g v0 v1 v2 v3 v4 v5 v6 v7 v8 v9)(u:QB):Ten (w.setCell (J g 1 Z) u) g v0 u v2 v3 v4 v5 v6 v7 v8 v9:=(h.sets u).2.1
theorem Ten.set2 (h:Ten w g v0 v1 v2 v3 v4 v5 v6 v7 v8 v9)(u:QB):Ten (w.setCell (J g 2 Z) u) g v0 v1 u v3 v4 v5 v6 v7 v8 v9:=(h.sets u).2.2.1
theorem Ten.set3 (h:Ten w g v0 v1 v2 v3 v4 v5 v6 v7 v8 v9)(u:QB):Ten (w.setCell (J g 3 Z) u) g v0 v1 v2 u v4 v5 v6 v7 v8 v9:=(h.sets u).2.2.2.1
theorem Ten.set4 (h:Ten w g v0 v1 v2 v3 v4 v5 v6 v7 v8 v9)(u:QB):Ten (w.setCell (J g 4 Z) u) g v0 v1 v2 v3 u v5 v6 v7 v8 v9:=(h.sets u).2.2.2.2.1
theorem Ten.set5 (h:Ten w g v0 v1 v2 v3 v4 v5 v6 v7 v8 v9)(u:QB):Ten (w.setCell (J g 5 Z) u) g v0 v1 v2 v3 v4 u v6 v7 v8 v9:=(h.sets u).2.2.2.2.2.1
theorem Ten.set6 (h:Ten w g v0 v1 v2 v3 v4 v5 v6 v7 v8 v9)(u:QB):Ten (w.setCell (J g 6 Z) u) g v0 v1 v2 v3 v4 v5 u v7 v8 v9:=(h.sets u).2.2.2.2.2.2.1
theorem Ten.set7 (h:Ten w g v0 v1 v2 v3 v4 v5 v6 v7 v8 v9)(u:QB):Ten (w.setCell (J g 7 Z) u) g v0 v1 v2 v3 v4 v5 v6 u v8 v9:=(h.sets u).2.2.2.2.2.2.2.1
theorem Ten.set8 (h:Ten w g v0 v1 v2 v3 v4 v5 v6 v7 v8 v9)(u:QB):Ten (w.setCell (J g 8 Z) u) g v0 v1 v2 v3 v4 v5 v6 v7 u v9:=(h.sets u).2.2.2.2.2.2.2.2.1
theorem Ten.set9 (h:Ten w g v0 v1 v2 v3 v4 v5 v6 v7 v8 v9)(u:QB):Ten (w.setCell (J g 9 Z) u) g v0 v1 v2 v3 v4 v5 v6 v7 v8 u:=(h.sets u).2.2.2.2.2.2.2.2.2
end
theorem Em (w:E)(b:Array QB)(ty:QF)(R QH:Obj)(j:Nat)(v:QB)(d:b[j]?=Q v):(((w.alloc (T b ty)).alloc R).alloc QH).cell? (J w.heap.size j Z)=Q v:=by rw[(((eI (w.alloc (T b ty)).heap.size _).alloc lr R).alloc (by simp) QH).cell (p:=(J w.heap.size j Z)) (by simp)];simp[d]
abbrev SO:=(Nat × Nat × Nat × List ByteArray) ⊕ (Int × ByteArray × Nat) ⊕ (Bool × ByteArray × Nat)
abbrev strs (s:List ByteArray):List QB:=s.reverse.map Value.string
def SoIs (w:E)(base:Nat)(v:QB):SO->Prop
 | .inl (p,st,l,s)=>∃ a cap,v=dN p (Y a s.length cap) st l D 0 ⟨#[]⟩ D ⟨#[]⟩ D/\w.ownsRow base 9 1 (Y a s.length cap) s.length (strs s)
 | .inr (.inl (c,x,st))=>∃ (at_:Int) (a:Option Addr) (n cap:Nat) (lk:Int),v=dN at_ (Y a n cap) st lk QC c x D ⟨#[]⟩ D
 | .inr (.inr (ask,nm,st))=>∃ (at_:Int) (a:Option Addr) (n cap:Nat) (lk:Int),v=dN at_ (Y a n cap) st lk D 0 ⟨#[]⟩ ask nm QC
theorem SoIs.kept {w w':E}{base b:Nat}{v:QB}{r:SO}(h:SoIs w base v r)(hb:Below w.heap.size w w')(d:b<=base):SoIs w' b v r:=by
 rcases r with ⟨p,st,l,s⟩ | ⟨c,x,st⟩ | ⟨ask,nm,st⟩
 ·obtain⟨a,cap,e,f⟩:=h
  exact⟨a,cap,e,aI (own_below f hb lr) d⟩
 ·exact h
 ·exact h
theorem yo {w:E}{base:Nat}{e:QF}{g k n cap:Nat}{s0:ByteArray}{i:Int}{b:List QB}(h:w.ownsRow base e 1 (Y (Q (J g 0 Z)) n cap) n b)(f:b[0]?=Q (U s0))(d:w.cell? (J k 0 Z)=Q (N I i)):k≠g:=by rintro rfl;have:=h.cells (g:=k) rfl 0 _ f;simp[Addr.add] at this;rw[d] at this;simp at this
theorem fS (x:ByteArray)(s:List ByteArray):strs (x :: s)=strs s++[U x]:=by simp[strs]
theorem uR {x:ByteArray}{s:List ByteArray}:∃ s0,(strs s++[Value.string x])[0]?=Q (U s0):=by
 rw[<-fS];simp only[strs,ID,KE];have h:0<(x :: s).reverse.length:=by simp
 exact⟨_,_,gq h,rfl⟩
theorem dE {w:E}{base g n cap:Nat}{e:QF}{b:List QB}(h:w.ownsRow base e 1 (Y (Q (J g 0 Z)) n cap) n b){k:Nat}(d:k≠g)(u:QB)(j:Nat):(w.setCell (J k j Z) u).ownsRow base e 1 (Y (Q (J g 0 Z)) n cap) n b :=
 MJ h (by simp[Value.ownBlock];exact fun e=>d e.symm) u
theorem Au {w:E}{base g n cap:Nat}{e:QF}{d:List QB}(h:w.ownsRow base e 1 (Y (Q (J g 0 Z)) n cap) n d){k:Nat}(b:k≠g)(v0 v1 v2 v3 v4 v5 v6 v7 v8 v9:QB):World.ownsRow ((((((((((w.setCell (J k 0 Z) v0).setCell (J k 1 Z) v1).setCell (J k 2 Z) v2).setCell (J k 3 Z) v3).setCell (J k 4 Z) v4).setCell (J k 5 Z) v5).setCell (J k 6 Z) v6).setCell (J k 7 Z) v7).setCell (J k 8 Z) v8).setCell (J k 9 Z) v9) base e 1 (Y (Q (J g 0 Z)) n cap) n d :=
 dE (dE (dE (dE (dE (dE (dE (dE (dE (dE h b v0 0) b v1 1) b v2 2) b v3 3) b v4 4) b v5 5) b v6 6) b v7 7) b v8 8) b v9 9
def jq (y:Nat->aA)(n:Nat)(a:Bool)(nm:ByteArray)(s:List ByteArray)(p st l:Nat):SO :=
 if n<=l then .inr (.inr (a,nm,st)) else if a=D then .inl (p,st,(l+1),(dX (y l).has :: s)) else if (y l).has=D then .inr (.inl (4,nm,st))
 else if (y l).code=0 then .inl (p,st,(l+1),((y l).text :: s)) else .inr (.inl (5,nm,st))
def ja (y:Nat->aA)(n op:Nat)(pl nm:ByteArray)(s:List ByteArray)(p st l:Nat):SO :=
 if au nm=D then .inr (.inl (2,pl,st)) else if l=200 then .inr (.inl (3,⟨#[]⟩,st)) else jq y n ((op:Int) == 12) nm s p st l
theorem yp {y:Nat->aA}{n op:Nat}{pl nm:ByteArray}{s:List ByteArray}{p st l:Nat}{b:SO}(h:b=ja y n op pl nm s p st l)(i:op=12∨op=13):(au nm=D/\b=.inr (.inl (2,pl,st)))∨(au nm=QC/\((l:Int) == 200)=QC/\b=.inr (.inl (3,⟨#[]⟩,st))) ∨
  (au nm=QC/\((l:Int) == 200)=D/\((n<=l/\b=.inr (.inr (((op:Int) == 12),nm,st)))∨(l<n/\((op=13/\b=.inl (p,st,(l+1),(dX (y l).has :: s)))∨(op=12/\(((y l).has=D/\b=.inr (.inl (4,nm,st)))∨((y l).has=QC/\(((y l).code=0/\b=.inl (p,st,(l+1),((y l).text :: s)))∨(((y l).code == 0)=D/\b=.inr (.inl (5,nm,st))))))))))):=by
 unfold ja jq at h;by_cases h1:au nm=D
 ·rw[eT h1] at h;exact .inl ⟨h1,h⟩
 rw[a8 h1] at h;have h1:au nm=QC:=by simpa using h1
 by_cases h2:l=200
 ·rw[eT h2] at h;exact .inr (.inl ⟨h1,by simp;omega,h⟩)
 rw[a8 h2] at h;refine .inr (.inr ⟨h1,by simp;omega,?_⟩);by_cases g:n<=l
 ·rw[eT g] at h;exact .inl ⟨g,h⟩
 rw[a8 g] at h;refine .inr ⟨by omega,?_⟩;rcases i with rfl | rfl
 ·rw[a8 (by simp)] at h
  by_cases d:(y l).has=D
  ·rw[eT d] at h;exact .inr ⟨rfl,.inl ⟨d,h⟩⟩
  rw[a8 d] at h;by_cases f:(y l).code=0
  ·rw[eT f] at h;exact .inr ⟨rfl,.inr ⟨by simpa using d,.inl ⟨f,h⟩⟩⟩
  rw[a8 f] at h;exact .inr ⟨rfl,.inr ⟨by simpa using d,.inr ⟨by simpa using f,h⟩⟩⟩
 ·rw[eT (by simp)] at h;exact .inl ⟨rfl,h⟩
structure LkS (w:E)(op:Int)(base:Nat)(a:Option Addr)(cap:Nat)(s:List ByteArray)(p st lk:Int)(V:E):Prop where
 run:Ten V (w.heap.size+1) (N I p) (Y a s.length cap) (N I st) (N I lk) (QA D) (N I 0) (U ⟨#[]⟩) (QA D) (U ⟨#[]⟩) (QA D)
 zer:Ten V (w.heap.size+1+1) (N I 0) (Y Z 0 0) (N I 0) (N I 0) (QA D) (N I 0) (U ⟨#[]⟩) (QA D) (U ⟨#[]⟩) (QA D)
 bl:Below w.heap.size w V
 own:V.ownsRow base 9 1 (Y a s.length cap) s.length (strs s)
 ne:∀ k,w.heap.size<=k->Value.ownBlock (Y a s.length cap)≠Q k
 arg:V.cell? (J w.heap.size 0 Z)=Q (N I op)
section
variable {w V QJ:E}{base cap:Nat}{a:Option Addr}{s:List ByteArray}{op p st lk:Int}
theorem LkS.below (h:LkS w op base a cap s p st lk V)(b:Below V.heap.size V QJ):LkS w op base a cap s p st lk QJ :=
 ⟨h.run.below b h.run.1,h.zer.below b h.zer.1,h.bl.trans (b.mono h.bl.size),own_below h.own b lr,h.ne,(b.cell (p:=(J w.heap.size 0 Z)) (by have:=h.run.1;show w.heap.size<_;omega)).trans h.arg⟩
theorem LkS.next (h:LkS w op base a cap s p st lk V)(q:Int):LkS w op base a cap s p st q (V.setCell (J (w.heap.size+1) 3 Z) (N I q)) :=
 ⟨h.run.set3 _,h.zer.other _ _ (by simp),h.bl.setCell (p:=(J (w.heap.size+1) 3 Z)) (by simp) _,MJ h.own (a:=(J (w.heap.size+1) 3 Z)) (h.ne _ (by simp)) _,h.ne,(sq _ _ _ _ (by simp)).trans h.arg⟩
theorem LkS.al (h:LkS w op base a cap s p st lk V)(o:Obj):LkS w op base a cap s p st lk (V.alloc o):=h.below (br.alloc lr o)
theorem LkS.drew (h:LkS w op base a cap s p st lk V):LkS w op base a cap s p st lk V.drew:=h.below br.drew
theorem LkS.grown (h:LkS w op base a cap s p st lk V)(b:V.grownBy QJ (Value.slice a s.length cap).ownBlock)(hb:base<=w.heap.size):Ten QJ (w.heap.size+1) (N I p) (Y a s.length cap) (N I st) (N I lk) (QA D) (N I 0) (U ⟨#[]⟩) (QA D) (U ⟨#[]⟩) (QA D)/\Ten QJ (w.heap.size+1+1) (N I 0) (Y Z 0 0) (N I 0) (N I 0) (QA D) (N I 0) (U ⟨#[]⟩) (QA D) (U ⟨#[]⟩) (QA D)/\Below base w QJ :=
 ⟨h.run.grown b fun e=>h.ne _ (by omega) e.symm,h.zer.grown b fun e=>h.ne _ (by omega) e.symm,bg (h.bl.mono hb) b (j5 hb h.bl.size) fun k e=>(h.own.lt k e).1⟩
end
theorem wQ (op:Nat)(t:ByteArray)(k:Int)(p st l:Nat)(a:Option Addr)(cap:Nat)(s:List ByteArray)(nm pl:ByteArray)(b2 o2 n QJ base:Nat)(y:Nat->aA)(w:E)
  (hY:RowReply w b2 o2 n y) (QG:w.ownsRow base 9 1 (Y a s.length cap) s.length (strs s)) (hb:base<=w.heap.size) (ex:op=12∨op=13) (hl:l<=200) (hs:s.length<=50) :
  Calls Tryz.prog 257 #[QE #[N I op,U t,N I k],dN p (Y a s.length cap) st l D 0 ⟨#[]⟩ D ⟨#[]⟩ D,U nm,U pl,Y (Q (J b2 o2 Z)) n QJ] w fun e w'=>∃ v,e=QD v/\SoIs w' base v (ja y n op pl nm s p st l)/\Below base w w':=by
 obtain⟨so,u⟩:∃ so,so=ja y n op pl nm s p st l:=⟨_,rfl⟩
 rw[<-u];have HQ:=ae (yp u ex);have HY:=ae hY;have QK:=ae ((((Qs w).alloc lr (T #[N I op,U t,N I k] 188)).alloc (by simp) (T #[N I p,Y a s.length cap,N I st,N I l,QA D,N I 0,U ⟨#[]⟩,QA D,U ⟨#[]⟩,QA D] 292)).alloc (by simp<;>omega) (T #[N I 0,Y Z 0 0,N I 0,N I 0,QA D,N I 0,U ⟨#[]⟩,QA D,U ⟨#[]⟩,QA D] 292));have C:=ae (LkS.mk (p:=p) (st:=st) (lk:=l) ((jR (w.alloc (T #[N I op,U t,N I k] 188)) _ _ _ _ _ _ _ _ _ _ 292 (w.heap.size+1) (by simp)).al _) (jR _ _ _ _ _ _ _ _ _ _ _ 292 (w.heap.size+1+1) (by simp)) QK.out (own_below QG QK lr) (fun k hk e=>by have:=(QG.lt k e).2;omega) (Em w #[N I op,U t,N I k] 188 (T #[N I p,Y a s.length cap,N I st,N I l,QA D,N I 0,U ⟨#[]⟩,QA D,U ⟨#[]⟩,QA D] 292) (T #[N I 0,Y Z 0 0,N I 0,N I 0,QA D,N I 0,U ⟨#[]⟩,QA D,U ⟨#[]⟩,QA D] 292) 0 (N I op) rfl));clear u hY QG QK;go_enter Tryz.func257,Tryz.ntmps257;go_wp2_with fail;generalize ((w.alloc (T #[N I op,U t,N I k] 188)).alloc (T #[N I p,Y a s.length cap,N I st,N I l,QA D,N I 0,U ⟨#[]⟩,QA D,U ⟨#[]⟩,QA D] 292)).alloc (T #[N I 0,Y Z 0 0,N I 0,N I 0,QA D,N I 0,U ⟨#[]⟩,QA D,U ⟨#[]⟩,QA D] 292)=W0 at C ⊢;refine(cX nm _).mono ?_;rintro e f ⟨rfl,QP⟩;replace C:=ae (C.below QP);have hz1:=C.zer.1;have i0:=C.arg;clear QP;have R1:=ae C.run;obtain⟨x,⟨c0,f0⟩,⟨c1,f1⟩,⟨c2,M⟩,⟨c3,f3⟩,⟨c4,X⟩,⟨c5,f5⟩,⟨c6,f6⟩,⟨QH,QM⟩,⟨V,QL⟩,c9,f9⟩:=R1.out;rcases HQ.out with ⟨h1,rfl⟩ | ⟨h1,h2,rfl⟩ | ⟨h1,h2,⟨h3,rfl⟩ | ⟨h3,h⟩⟩
 all_goals
  rw[h1];clear HQ
 case' inr.inr.inl =>
  have ZE:=ae (((C.zer.other (J (w.heap.size+1) 9 Z) (QA QC) (by simp)).other (J (w.heap.size+1) 7 Z) (QA ((op:Int) == 12)) (by simp)).other (J (w.heap.size+1) 8 Z) (U nm) (by simp));have B2:=ae (((C.bl.setCell (p:=(J (w.heap.size+1) 9 Z)) (by simp) (QA QC)).setCell (p:=(J (w.heap.size+1) 7 Z)) (by simp) (QA ((op:Int) == 12))).setCell (p:=(J (w.heap.size+1) 8 Z)) (by simp) (U nm));obtain⟨B,⟨z0,R⟩,⟨z1,P⟩,⟨z2,y2⟩,⟨z3,y3⟩,⟨g,y4⟩,⟨m,y5⟩,⟨q,S⟩,⟨j,y7⟩,⟨i,y8⟩,o,O⟩:=ZE.out;have hw:(n:Int)<=l:=by omega
  go_wp2;exact bp (v:=dN p (Y a s.length cap) st l D 0 ⟨#[]⟩ ((op:Int) == 12) nm QC) (by simp[results,Tryz.results257,go_sem,z0,z1,z2,z3,g,m,q,j,i,o]) rfl ⟨_,rfl,⟨_,_,_,_,_,rfl⟩,dD (B2.mono hb) (by omega) _ _ _ _ _ _ _ _ _ _⟩
 case' inr.inr.inr =>
  obtain⟨d0,d1,d2⟩:=(HY.below C.bl lr).2 l h3;have hln:(l:Int)<n:=by omega
  have hz0:w.heap.size<f.heap.size:=by omega
  have hz01:w.heap.size+1<f.heap.size:=by omega
  replace C:=ae ((C.next ((l:Int)+1)).al (T #[QA (y l).has,N I (y l).code,U (y l).text] 66));have g0:=jA (f.setCell (J (w.heap.size+1) 3 Z) (N I ((l:Int)+1))) #[QA (y l).has,N I (y l).code,U (y l).text] 66 f.heap.size 0 (QA (y l).has) (by simp) rfl;have g1:=jA (f.setCell (J (w.heap.size+1) 3 Z) (N I ((l:Int)+1))) #[QA (y l).has,N I (y l).code,U (y l).text] 66 f.heap.size 1 (N I (y l).code) (by simp) rfl;have g2:=jA (f.setCell (J (w.heap.size+1) 3 Z) (N I ((l:Int)+1))) #[QA (y l).has,N I (y l).code,U (y l).text] 66 f.heap.size 2 (U (y l).text) (by simp) rfl;have la:f.heap.size<((f.setCell (J (w.heap.size+1) 3 Z) (N I ((l:Int)+1))).alloc (T #[QA (y l).has,N I (y l).code,U (y l).text] 66)).heap.size:=by simp
  go_upto_region 12 with fail;clear x c0 f0 c1 f1 c2 M c3 f3 c4 X c5 f5 c6 f6 QH QM V QL c9 f9 R1 d0 d1 d2 i0;generalize (f.setCell (J (w.heap.size+1) 3 Z) (N I ((l:Int)+1))).alloc (T #[QA (y l).has,N I (y l).code,U (y l).text] 66)=W at C g0 g1 g2 la ⊢;have i0:=C.arg;have hbW:base<=W.heap.size:=j5 hb C.bl.size;obtain⟨QO,hi,K,L,H⟩:=IQ fW;obtain⟨x,⟨c0,f0⟩,⟨c1,f1⟩,⟨c2,M⟩,⟨c3,f3⟩,⟨c4,X⟩,⟨c5,f5⟩,⟨c6,f6⟩,⟨QH,QM⟩,⟨V,QL⟩,c9,f9⟩:=C.run;rcases h with ⟨rfl,rfl⟩ | ⟨rfl,⟨h4,rfl⟩ | ⟨h4,⟨h5,rfl⟩ | ⟨h5,rfl⟩⟩⟩
  case' inr.inl | inr.inr.inr=>rw[h4] at g0
  case' inr.inr.inl =>rw[h4] at g0;rw[h5] at g1;go_wp2_with (at_builtin;refine CL _ rfl (.tmp 70) (.tmp 73) 39 rfl base 9 QO (U ⟨#[]⟩) 1 16 Tryz.underlying39 hi K L H rfl (by decide) (Y a s.length cap) s.length (strs s) (by simp[Act.eval]) (by first | exact C.own.alloc _ | exact C.own.drew.alloc _ | exact C.own.drew.drew.alloc _) (J W.heap.size 0 Z) 1 1 [U (y l).text] (by simp[Act.eval]) rfl (by first | exact dh W _ _ | exact dh W.drew _ _ | exact dh W.drew.drew _ _) (by simp[Value.oneCell']) (by unfold maxLen;omega) (by omega) (by simp<;>omega) ?_;intro v' w2 b d r;obtain⟨z,A,rfl⟩:=gw b (by omega);have G:=ae (LkS.grown (by first | exact C.al _ | exact C.drew.al _ | exact C.drew.drew.al _) d hb);obtain⟨ld,⟨k0,m0⟩,⟨k1,m1⟩,⟨k2,m2⟩,⟨k3,m3⟩,⟨k4,m4⟩,⟨k5,m5⟩,⟨k6,m6⟩,⟨k7,m7⟩,⟨k8,m8⟩,k9,m9⟩:=G.1;obtain⟨B,⟨z0,R⟩,⟨z1,P⟩,⟨z2,y2⟩,⟨z3,y3⟩,⟨g,y4⟩,⟨m,y5⟩,⟨q,S⟩,⟨j,y7⟩,⟨i,y8⟩,o,O⟩:=G.2.1)
  case' inl =>go_wp2_with fail;go_region_law (first | (refine cZ rfl (.tmp 49) (.tmp 53) 39 rfl base 9 QO (U ⟨#[]⟩) 1 16 Tryz.underlying39 hi K L H rfl (by decide) (Y a s.length cap) s.length (strs s) (by simp[Act.eval]) (by first | exact C.own.alloc _ | exact C.own.drew.alloc _ | exact C.own.drew.drew.alloc _) (J W.heap.size 0 Z) 1 1 [U (dX (y l).has)] (by simp[Act.eval]) rfl (by first | exact dh W _ _ | exact dh W.drew _ _ | exact dh W.drew.drew _ _) (by simp[Value.oneCell']) (by unfold maxLen;omega) (by omega) (by simp<;>omega) ?_;intro v' w2 b d r;obtain⟨z,A,rfl⟩:=gw b (by omega);have G:=ae (LkS.grown (by first | exact C.al _ | exact C.drew.al _ | exact C.drew.drew.al _) d hb);obtain⟨ld,⟨k0,m0⟩,⟨k1,m1⟩,⟨k2,m2⟩,⟨k3,m3⟩,⟨k4,m4⟩,⟨k5,m5⟩,⟨k6,m6⟩,⟨k7,m7⟩,⟨k8,m8⟩,k9,m9⟩:=G.1;obtain⟨B,⟨z0,R⟩,⟨z1,P⟩,⟨z2,y2⟩,⟨z3,y3⟩,⟨g,y4⟩,⟨m,y5⟩,⟨q,S⟩,⟨j,y7⟩,⟨i,y8⟩,o,O⟩:=G.2.1) | (go_simp;go_at_call 277;refine(oq _ _).mono ?_;rintro e w9 ⟨rfl,aq⟩;subst aq))
  all_goals (try (have QN:=yo b (uR (s:=s)).choose_spec G.1.2.1.1;have fd:=yo b (uR (s:=s)).choose_spec G.2.1.2.1.1;have bt:=ae (dE b QN (Y (Q (J z 0 Z)) (s.length+1) A) 1);have B4:=ae (G.2.2.setCell (p:=(J (w.heap.size+1) 1 Z)) (by simp;omega) (Y (Q (J z 0 Z)) (s.length+1) A));clear b d r QN;(try go_wp2);refine bp (v:=dN p (Y (Q (J z 0 Z)) (s.length+1) A) st ((l:Int)+1) D 0 ⟨#[]⟩ D ⟨#[]⟩ D) (by simp[results,Tryz.results257,go_sem,z0,z1,z2,z3,g,m,q,j,i,o]) rfl ⟨_,rfl,⟨Q (J z 0 Z),A,by simp,?_⟩,dD B4.out (by omega) _ _ _ _ _ _ _ _ _ _⟩;rw[fS];exact Au bt fd _ _ _ _ _ _ _ _ _ _))
 all_goals
  go_wp2_with fail;refine(fl _ _ _ _ _ _ _ _ _ _ _ _ _ _ _).mono ?_;rintro e w2 ⟨rfl,QQ⟩;replace C:=ae (C.below QQ);clear QQ x c0 f0 c1 f1 c2 M c3 f3 c4 X c5 f5 c6 f6 QH QM V QL c9 f9;obtain⟨B,⟨z0,R⟩,⟨z1,P⟩,⟨z2,y2⟩,⟨z3,y3⟩,⟨g,y4⟩,⟨m,y5⟩,⟨q,S⟩,⟨j,y7⟩,⟨i,y8⟩,o,O⟩:=C.zer;go_wp2;first
   | exact bp (v:=dN p (Y a s.length cap) st l QC 3 ⟨#[]⟩ D ⟨#[]⟩ D) (by simp[results,Tryz.results257,go_sem,z0,z1,z2,z3,g,m,q,j,i,o]) rfl ⟨_,rfl,⟨_,_,_,_,_,rfl⟩,dD (C.bl.mono hb) (by omega) _ _ _ _ _ _ _ _ _ _⟩
   | exact bp (v:=dN p (Y a s.length cap) st l QC 2 pl D ⟨#[]⟩ D) (by simp[results,Tryz.results257,go_sem,z0,z1,z2,z3,g,m,q,j,i,o]) rfl ⟨_,rfl,⟨_,_,_,_,_,rfl⟩,dD (C.bl.mono hb) (by omega) _ _ _ _ _ _ _ _ _ _⟩
   | exact bp (v:=dN p (Y a s.length cap) st ((l:Int)+1) QC 4 nm D ⟨#[]⟩ D) (by simp[results,Tryz.results257,go_sem,z0,z1,z2,z3,g,m,q,j,i,o]) rfl ⟨_,rfl,⟨_,_,_,_,_,rfl⟩,dD (C.bl.mono hb) (by omega) _ _ _ _ _ _ _ _ _ _⟩
   | exact bp (v:=dN p (Y a s.length cap) st ((l:Int)+1) QC 5 nm D ⟨#[]⟩ D) (by simp[results,Tryz.results257,go_sem,z0,z1,z2,z3,g,m,q,j,i,o]) rfl ⟨_,rfl,⟨_,_,_,_,_,rfl⟩,dD (C.bl.mono hb) (by omega) _ _ _ _ _ _ _ _ _ _⟩
theorem add0 (g j:Nat):((J g 0 Z):Addr).add j=(J g j Z):=by unfold Addr.add;split<;>simp_all
theorem CU {w:E}{base g cap:Nat}{e:QF}{x:ByteArray}{r:List ByteArray}(h:w.ownsRow base e 1 (Y (Q (J g 0 Z)) (r.length+1) cap) (r.length+1) (strs (x :: r))):w.cell? (J g r.length Z)=Q (U x):=by have:=h.cells (g:=g) rfl r.length (U x) (by rw[fS,AT (by simp)];simp);rwa[add0] at this
theorem CY {w:E}{base g cap:Nat}{e:QF}{x z:ByteArray}{r:List ByteArray}(h:w.ownsRow base e 1 (Y (Q (J g 0 Z)) (r.length+2) cap) (r.length+2) (strs (x :: z :: r))):w.cell? (J g (r.length+1) Z)=Q (U x)/\w.cell? (J g r.length Z)=Q (U z):=by have h1:=h.cells (g:=g) rfl (r.length+1) (U x) (by rw[fS,AT (by simp)];simp);have h2:=h.cells (g:=g) rfl r.length (U z) (by rw[fS,IJ (by simp),fS,AT (by simp)];simp);rw[add0] at h1 h2;exact⟨h1,h2⟩
theorem CZ {w:E}{base n cap:Nat}{e:QF}{g:Nat}{b:List QB}(h:w.ownsRow base e 1 (Y (Q (J g 0 Z)) n cap) n b):n<=cap:=by
 rcases h.2 with ⟨f,_⟩ | ⟨g,c,cur,d,_,_,hn,_⟩
 ·simp at f
 ·simp at d
  omega
theorem C7 {w:E}{base g n cap:Nat}{e:QF}{r:List ByteArray}{xs:List QB}(h:w.ownsRow base e 1 (Y (Q (J g 0 Z)) n cap) n (strs r++xs)):∀ j u,(strs r)[j]?=Q u->w.cell? (((J g 0 Z):Addr).add j)=Q u:=fun j u b =>h.cells (g:=g) rfl j u (by rw[IJ (by obtain⟨d,_⟩:=kS.1 b;exact d)];exact b)
theorem pU {w:E}{base n:Nat}{e:QF}{v:QB}{d:List QB}(h:w.ownsRow base e 1 v n d)(b:v≠.slice Z 0 0):∃ g cap,v=Y (Q (J g 0 Z)) n cap/\base<=g:=by
 rcases h.2 with ⟨i,_⟩ | ⟨g,cap,cur,b,f,_⟩
 ·exact absurd i b
 ·exact⟨g,cap,b,f⟩
theorem Av (r:List ByteArray):∀ u∈strs r,u.oneCell'=QC:=by intro u b;obtain⟨x,_,rfl⟩:=IC.1 b;rfl
theorem SoIs.form {w:E}{base:Nat}{v:QB}{r:SO}(h:SoIs w base v r):∃ (at_:Int) (a:Option Addr) (n cap:Nat) (st lk:Int) (d:Bool) (c:Int) (x:ByteArray) (ask:Bool) (nm:ByteArray) (b:Bool),v=dN at_ (Y a n cap) st lk d c x ask nm b:=by
 rcases r with ⟨p,st,l,s⟩ | ⟨c,x,st⟩ | ⟨ask,nm,st⟩
 ·obtain⟨a,cap,e,_⟩:=h
  exact⟨_,_,_,_,_,_,_,_,_,_,_,_,e⟩
 ·obtain⟨at_,a,n,cap,lk,e⟩:=h
  exact⟨_,_,_,_,_,_,_,_,_,_,_,_,e⟩
 ·obtain⟨at_,a,n,cap,lk,e⟩:=h
  exact⟨_,_,_,_,_,_,_,_,_,_,_,_,e⟩
theorem SoIs.set {w:E}{base:Nat}{v:QB}{r:SO}(h:SoIs w base v r){k:Nat}(b:k<base)(j:Nat)(u:QB):SoIs (w.setCell (J k j Z) u) base v r:=by
 rcases r with ⟨p,st,l,s⟩ | ⟨c,x,st⟩ | ⟨ask,nm,st⟩
 ·obtain⟨a,cap,e,d⟩:=h
  exact⟨a,cap,e,MK d (a:=(J k j Z)) b u⟩
 ·exact h
 ·exact h
theorem SoIs.mono {w:E}{base base':Nat}{v:QB}{r:SO}(h:SoIs w base v r)(hb:base'<=base):SoIs w base' v r:=h.kept br hb
theorem yq {w:E}{base:Nat}{v:QB}{r:SO}(h:SoIs w base v r){k:Nat}(b:k<base)(v0 v1 v2 v3 v4 v5 v6 v7 v8 v9:QB):SoIs ((((((((((w.setCell (J k 0 Z) v0).setCell (J k 1 Z) v1).setCell (J k 2 Z) v2).setCell (J k 3 Z) v3).setCell (J k 4 Z) v4).setCell (J k 5 Z) v5).setCell (J k 6 Z) v6).setCell (J k 7 Z) v7).setCell (J k 8 Z) v8).setCell (J k 9 Z) v9) base v r :=
 (((((((((h.set b 0 v0).set b 1 v1).set b 2 v2).set b 3 v3).set b 4 v4).set b 5 v5).set b 6 v6).set b 7 v7).set b 8 v8).set b 9 v9
theorem wR (op n:Nat)(t a b:ByteArray)(h1:1<=op)(h11:op<=11):(b9 op n t a b).length=bG op:=by rcases(show op=1∨op=2∨op=3∨op=4∨op=5∨op=6∨op=7∨op=8∨op=9∨op=10∨op=11 by omega) with rfl | rfl | rfl | rfl | rfl | rfl | rfl | rfl | rfl | rfl | rfl;all_goals rfl
theorem Dc {op j:Nat}(h1:1<=op)(h11:op<=11)(h:j<bG op):op<=8:=by rcases(show op=1∨op=2∨op=3∨op=4∨op=5∨op=6∨op=7∨op=8∨op=9∨op=10∨op=11 by omega) with rfl | rfl | rfl | rfl | rfl | rfl | rfl | rfl | rfl | rfl | rfl;all_goals simp[bG] at h ⊢
theorem Aw (op:Nat):bG op<=2:=by
 unfold bG;split
 ·omega
 ·split<;>omega
def fT (b:List ByteArray)(pl:ByteArray)(r:List ByteArray)(p st l:Nat):SO:=if b.all (fun x=>decide (x.size<=2000)) then .inl (p,st,l,(b.reverse++r)) else .inr (.inl (2,pl,st))
theorem yr {b:List ByteArray}{j:Nat}(h:j<b.length):(b.take (j+1)).map Value.string=(b.take j).map Value.string++[U (b.getD j ⟨#[]⟩)]:=by rw[List.take_add_one,E2,gq h];simp[h]
theorem Ax (b r:List ByteArray):strs (b.reverse++r)=strs r++b.map Value.string:=by simp[strs]
theorem Dj {b:List ByteArray}{j:Nat}(h:j<b.length)(d:¬ ((b.getD j ⟨#[]⟩).size:Int)<=2000):b.all (fun x=>decide (x.size<=2000))=D:=by simp only[List.all_eq_false];exact⟨b[j],gz h,by simp[h] at d ⊢;omega⟩
theorem Ay {b:List ByteArray}(h:∀ i,i<b.length->(b.getD i ⟨#[]⟩).size<=2000):b.all (fun x=>decide (x.size<=2000))=QC:=by simp only[List.all_eq_true,j4];intro x d;obtain⟨i,hi,rfl⟩:=List.mem_iff_getElem.1 d;have:=h i hi;simpa[hi] using this
def gD (y:Nat->aA)(n place st looks:Nat):Res->SO
 | .inr (.inl (c,x))=>.inr (.inl (c,x,st))
 | .inl (s',p)=>.inl (p,st,looks,s')
 | .inr (.inr (a,nm,s'))=>jq y n a nm s' (place+1) st looks
def fF (f:Nat->Ins)(cnt:Nat)(y:Nat->aA)(n place steps looks:Nat)(s:List ByteArray):SO:=gD y n place (cF cnt place steps) looks (bH f cnt place steps looks s)
theorem yt {w:E}{base n cap:Nat}{e:QF}{a:Option Addr}{f:List QB}(h:w.ownsRow base e 1 (Y a n cap) n f):(a=Z/\n=0/\cap=0)∨∃ g,a=Q (J g 0 Z):=by
 rcases h.2 with ⟨d,_⟩ | ⟨g,c,cur,b,_⟩
 ·simp only[CN] at d
  exact .inl d
 ·simp only[CN] at b
  exact .inr ⟨g,b.1⟩
theorem wS (op k:Nat)(t a b:ByteArray)(h1:1<=op)(h11:op<=11)(h2:op≠2)(f:t.size<=2000)(d:a.size<=2000)(hb:b.size<=2000):(b9 op k t a b).all (fun x=>decide (x.size<=2000))=QC:=by
 rcases(show op=1∨op=3∨op=4∨op=5∨op=6∨op=7∨op=8∨op=9∨op=10∨op=11 by omega) with rfl | rfl | rfl | rfl | rfl | rfl | rfl | rfl | rfl | rfl
 ·simp[b9,f]
 ·simp only[b9,MV,NC,JX,j4]
  split
  ·simp;omega
  ·exact d
 ·simp only[b9,MV,NC,JX,j4]
  split
  ·simp;omega
  ·decide
 ·simp only[b9,MV,NC,JX,j4]
  exact j5 (oD _ _) d
 ·simp only[b9,MV,NC,JX,j4]
  exact iC _
 ·simp[b9,d]
 ·simp[b9,d,hb]
 ·rfl
 ·rfl
 ·rfl
theorem wT (op k:Nat)(t a b pl:ByteArray)(r:List ByteArray)(p st l:Nat)(h1:1<=op)(d:op<=11)(h2:op≠2)(f:t.size<=2000)(g:a.size<=2000)(hb:b.size<=2000):fT (b9 op k t a b) pl r p st l=.inl (p,st,l,((b9 op k t a b).reverse++r)):=by unfold fT;rw[wS op k t a b h1 d h2 f g hb];rfl
theorem En (k:Nat)(t x z:ByteArray)(r:List ByteArray)(y:Nat->aA)(n place st looks:Nat):gD y n place st looks (cC 2 k t place looks (x :: z :: r))=fT (b9 2 k t x z) (dI place) r (place+1) st looks:=by
 unfold fT;simp only[cC,b9,MV,NC,JX,JP];by_cases h:z.size+x.size<=2000
 ·rw[eT h,eT (by simpa using h)]
  rfl
 ·rw[a8 h,a8 (by simpa using h)]
  rfl
theorem uS (op:Nat)(y:Nat->aA)(n place st looks:Nat)(x:ByteArray)(r:List ByteArray)(b:Bool)(hb:((op:Int) == 12)=b):gD y n place st looks (gR b x r place looks)=ja y n op (dI place) x r (place+1) st looks:=by
 unfold gR ja;rw[hb];by_cases h1:au x=D
 ·rw[eT h1,eT h1]
  rfl
 ·rw[a8 h1,a8 h1]
  by_cases h2:looks=200
  ·rw[eT h2,eT h2]
   rfl
  ·rw[a8 h2,a8 h2]
   rfl
theorem Az (l r:List ByteArray):strs (l++r)=strs r++strs l:=by simp[strs]
def kE (op:Nat)(s:List ByteArray):ByteArray:=if 0<aM op then s.getD 0 ⟨#[]⟩ else ⟨#[]⟩
def pj (op:Nat)(s:List ByteArray):ByteArray:=if 1<aM op then s.getD 1 ⟨#[]⟩ else ⟨#[]⟩
def lZ (op k:Nat)(a:ByteArray)(place:Nat):Nat:=if op=10 then k else if op=11/\(a.toList=[]∨(a.toList == [48])=QC) then k else place+1
theorem Fb {op k place:Nat}{A:ByteArray}(h:op=10∨op=11/\A.toList.isEmpty=QC∨op=11/\(A.toList == [48])=QC):lZ op k A place=k:=by
 unfold lZ;rcases h with rfl | ⟨rfl,h⟩ | ⟨rfl,h⟩
 ·rfl
 ·rw[a8 (by omega),eT ⟨rfl,.inl (List.isEmpty_iff.1 h)⟩]
 ·rw[a8 (by omega),eT ⟨rfl,.inr h⟩]
theorem Dk (op:Nat)(A:ByteArray)(h:op<=15):op=15∨op=14∨op=12∨op=13∨op=10∨(op=11/\A.toList.isEmpty=QC)∨(op=11/\A.toList.isEmpty=D/\(A.toList == [48])=QC)∨(op=11/\A.toList.isEmpty=D/\(A.toList == [48])=D)∨op<=9:=by
 by_cases e:op=11
 ·subst e
  cases A.toList.isEmpty<;>cases (A.toList == [48])<;>simp
 ·omega
theorem sG {s:List ByteArray}(h:∀ x∈s,x.size<=2000)(op:Nat):(kE op s).size<=2000/\(pj op s).size<=2000:=by
 have g:∀ j,(s.getD j ⟨#[]⟩).size<=2000:=fun j=>by
  rw[vF];rcases hj:s[j]? with _ | x
  ·exact CP _
  ·exact h x (D0 hj)
 refine⟨?_,?_⟩
 ·unfold kE
  split
  ·exact g 0
  ·exact CP _
 ·unfold pj
  split
  ·exact g 1
  ·exact CP _
theorem AA (op k:Nat)(t:ByteArray)(s:List ByteArray)(y:Nat->aA)(n place st looks:Nat)(h1:1<=op)(d:op<=11)(hb:aM op<=s.length)(h:t.size<=2000)(b:∀ x∈s,x.size<=2000):gD y n place st looks (cC op k t place looks s)=fT (b9 op k t (kE op s) (pj op s)) (dI place) (s.drop (aM op)) (lZ op k (kE op s) place) st looks:=by
 have g:=(sG b op).1;have f:=(sG b op).2;by_cases h2:op=2
 ·subst h2
  match s,hb with
  | x :: z :: r,_=>exact En k t x z r y n place st looks
 ·rw[wT op k t _ _ _ _ _ _ _ h1 d h2 h g f]
  rcases(show op=1∨op=3∨op=4∨op=5∨op=6∨op=7∨op=8∨op=9∨op=10∨op=11 by omega) with rfl | rfl | rfl | rfl | rfl | rfl | rfl | rfl | rfl | rfl
  ·rfl
  iterate 3
   ·match s,hb with
    | x :: r,_=>rfl
  ·match s,hb with
   | x :: z :: r,_=>rfl
  ·match s,hb with
   | x :: r,_=>rfl
  ·match s,hb with
   | x :: z :: r,_=>rfl
  ·match s,hb with
   | x :: r,_=>rfl
  ·rfl
  ·match s,hb with
   | x :: r,_ =>show gD y n place st looks (cC 11 k t place looks (x :: r))=.inl (lZ 11 k x place,st,looks,r);simp only[cC,gD,lZ,show((11:Nat)=10)=False by simp,LM,LN]
theorem Dl (op k:Nat)(t:ByteArray)(s:List ByteArray)(y:Nat->aA)(n place st looks:Nat)(h:op=12∨op=13)(hb:aM op<=s.length):gD y n place st looks (cC op k t place looks s)=ja y n op (dI place) (kE op s) (s.drop (aM op)) (place+1) st looks:=by
 rcases h with rfl | rfl
 ·match s,hb with
  | x :: r,_=>exact uS 12 y n place st looks x r QC rfl
 ·match s,hb with
  | x :: r,_=>exact uS 13 y n place st looks x r D rfl
theorem uT (op k:Nat)(t:ByteArray)(s:List ByteArray)(y:Nat->aA)(n place st looks:Nat)(h:op=14∨op=15)(hb:aM op<=s.length):gD y n place st looks (cC op k t place looks s)=.inr (.inl (15 - (op:Int),kE op s,st)):=by
 rcases h with rfl | rfl
 ·match s,hb with
  | x :: r,_=>rfl
 ·match s,hb with
  | x :: r,_=>rfl
def eG (f:Nat->aj)(l:Link):aA :=
 if l.ask=QC then
  (if (f l.at_.toNat).kind=1 then ⟨QC,0,(f l.at_.toNat).text⟩ else if (f l.at_.toNat).kind=3 then ⟨QC,(f l.at_.toNat).code,(f l.at_.toNat).text⟩ else ⟨D,0,⟨#[]⟩⟩)
 else ⟨l.has,0,⟨#[]⟩⟩
def yOf (f:Nat->aj)(p:Nat)(k:Nat):aA:=eG f ((f p).links k)
def aY (f:Nat->aj)(p k:Nat):Turn:=bV (f p).act (f p).actN (yOf f p) k 2001 0 0 0 []
def eV (f:Nat->aj)(p k:Nat):Bool:=(aY f p k).over || !((aY f p k).name.toList == ((f p).links k).name.toList) || !((aY f p k).ask == ((f p).links k).ask)
def dO (f:Nat->aj)(p:Nat):Nat->Nat->Nat
 | 0,k=>k
 | j+1,k=>if eV f p k=QC then k else dO f p j (k+1)
def aN (f:Nat->aj)(p:Nat):Nat:=dO f p (f p).linksN 0
def rm (f:Nat->aj)(p:Nat):Int :=
 if aN f p<(f p).linksN then 4 else if (aY f p (aN f p)).over=D then 4 else if (aY f p (aN f p)).code=(f p).code/\(aY f p (aN f p)).text.toList=(f p).text.toList then 0 else 5
def codeF (f:Nat->aj)(p:Nat):Int:=if (f p).kind=3 then rm f p else 0
def fD (f:Nat->aj):Nat->Int × Int
 | 0=>(0,0)
 | k+1=>if (fD f k).1=0 then (if codeF f k=0 then (0,0) else (codeF f k,(k:Int))) else fD f k
def sH (f:Nat->aj)(n:Nat):Int × Int:=if aX f n=QC then fD f n else (1,0)
theorem kF (f:Nat->aj)(p:Nat):∀ j k,k<=dO f p j k/\dO f p j k<=k+j
 | 0,k=>⟨j6 _,j6 _⟩
 | j+1,k=>by
  rw[dO];split
  ·omega
  ·have:=kF f p j (k+1)
   omega
theorem sI {f:Nat->aj}{p j k:Nat}(h:eV f p k=D):dO f p (j+1) k=dO f p j (k+1):=by rw[dO,a8 (by rw[h];simp)]
theorem kG {f:Nat->aj}{p j k:Nat}(h:eV f p k=QC):dO f p (j+1) k=k:=by rw[dO,eT h]
theorem oG {f:Nat->aj}{n k:Nat}(hk:k<n)(d:∀ i,i<k->codeF f i=0)(h:codeF f k≠0):fD f n=(codeF f k,(k:Int)):=by
 have hz:∀ m,m<=k->fD f m=(0,0):=by
  intro m hm;induction m with
  | zero=>rfl
  | succ m b=>rw[fD,b (by omega),eT rfl,eT (d m (by omega))]
 induction n with
 | zero=>omega
 | succ n b =>
  rw[fD];by_cases e:k=n
  ·subst e
   rw[hz k lr,eT rfl,a8 h]
  ·rw[b (by omega),a8 h]
theorem yu {f:Nat->aj}{n:Nat}(b:∀ i,i<n->codeF f i=0):fD f n=(0,0):=by
 induction n with
 | zero=>rfl
 | succ m d=>rw[fD,d fun i hi=>b i (by omega),eT rfl,eT (b m (by omega))]
theorem dZ {f:Nat->aj}{n:Nat}(h:aX f n=QC):∀ p,p<n->(f p).text.size<=2000/\((f p).kind=1/\(f p).code=0∨(f p).kind=2/\(f p).code=0/\(f p).text.size=0∨(f p).kind=3/\0<=(f p).code/\(f p).code<=5/\valid (f p).act (f p).actN=QC/\(f p).linksN<=200):=by
 intro p g;have h1:=dW (dU h).2.2 p g;simp only[bc,gM,kindOk,j4] at h1;obtain⟨⟨_,d⟩,h2⟩:=h1;refine⟨d,?_⟩;split at h2
 ·rename_i b
  simp only[aO,gM,j4] at h2;exact .inl ⟨b,h2.1.1⟩
 ·split at h2
  ·rename_i b
   simp only[aO,gM,j4] at h2;exact .inr (.inl ⟨b,h2.1.1.1,h2.2⟩)
  ·split at h2
   ·rename_i b
    simp only[ce,gM,j4] at h2;exact .inr (.inr ⟨b,h2.1.1.1.1,h2.1.1.1.2,h2.1.1.2,h2.1.2⟩)
   ·simp at h2
theorem uU {f:Nat->aj}{n:Nat}(h:aX f n=QC){l:Link}(b:l.ask=QC->l.at_.toNat<n):bT (eG f l)=QC:=by
 unfold eG bT;split
 ·rename_i d
  obtain⟨h1,h2⟩:=dZ h _ (b d);split
  ·simp;omega
  ·split
   ·rename_i hk1 hk3
    rcases h2 with h2 | h2 | h2
    ·omega
    ·omega
    ·simp;omega
   ·exact JJ ⟨CP _,by decide,by decide⟩
 ·exact JJ ⟨CP _,Int.le_refl _,show(0:Int)<=7 by decide⟩
theorem mc {f:Nat->aj}{n:Nat}(h:aX f n=QC){l:Link}(j:l.ask=QC)(g:l.at_.toNat<n):eG f l=⟨decide (¬ (f l.at_.toNat).kind=2),(f l.at_.toNat).code,(f l.at_.toNat).text⟩:=by
 obtain⟨h1,h2⟩:=dZ h _ g;unfold eG;rw[eT j];rcases h2 with ⟨b,d⟩ | ⟨b,d,i⟩ | ⟨b,d⟩
 ·rw[eT b,b,d];rfl
 ·rw[a8 (by omega),a8 (by omega),b,d]
  have:(f l.at_.toNat).text=⟨#[]⟩:=NJ (J4 i);rw[this];rfl
 ·rw[a8 (by omega),eT b,b];rfl
theorem mO (g b n cap:Nat)(f:Nat->aj)(l:Link)(w:E)(m:aX f n=QC)(k:RowDeed w g b n f)(s:l.ask=QC->0<=l.at_/\l.at_.toNat<n):Calls Tryz.prog 229 #[QE #[Y (Q (J g b Z)) n cap],QE #[U l.name,QA l.ask,QA l.has,N I l.at_]] w fun e w'=>e=QD (QE #[QA (eG f l).has,N I (eG f l).code,U (eG f l).text])/\Below w.heap.size w w':=by
 have QN:=ae k;have o:=ae (fun B:l.ask=QC=>mc m B (s B).2);have z:=ae s;have q:=ae (show l.ask=D->eG f l=⟨l.has,0,⟨#[]⟩⟩ from fun h=>by unfold eG;rw[a8 (by rw[h];simp)]);clear k m s;obtain⟨R,hR⟩:∃ R,R=eG f l:=⟨_,rfl⟩
 rw[<-hR] at o q ⊢;clear hR;obtain⟨nm,ask,d,at_⟩:=l;dsimp only at o z q ⊢;have r:=ae ((((Qs w).alloc lr (T #[Y (Q (J g b Z)) n cap] 50)).alloc (by simp) (T #[U nm,QA ask,QA d,N I at_] 64)).alloc (by simp;omega) (T #[QA D,N I 0,U ⟨#[]⟩] 66));cases ask with
 | false =>
  obtain rfl:R=⟨d,0,⟨#[]⟩⟩:=q.out rfl;dsimp only;go_enter Tryz.func229,Tryz.ntmps229;go_wp2
  exact bp (v:=QE #[QA d,N I 0,U ⟨#[]⟩]) (by simp[results,Tryz.results229,go_sem]) rfl ⟨rfl,by
   repeat (first | exact eI _ _ | refine Below.alloc ?_ (by simp<;>omega) _)⟩
 | true =>
  obtain⟨h1,h2⟩:=z.out rfl;obtain⟨p,rfl⟩:=xT h1;have QL:p<n:=by simpa using h2
  obtain rfl:R=⟨decide (¬ (f p).kind=2),(f p).code,(f p).text⟩:=by have:=o.out rfl;simpa using this
  dsimp only;obtain⟨V,QK,QO,QP,⟨O,y,M,QQ⟩,⟨C,t,H,K⟩⟩:=(QN.out.below r.out lr).2 p QL;clear QQ K o q z;have hpn:(p:Int)<n:=by omega
  go_enter Tryz.func229,Tryz.ntmps229;go_wp2_with fail;clear V QK QO QP M H;have z0:(((w.alloc (T #[Y (Q (J g b Z)) n cap] 50)).alloc (T #[U nm,QA QC,QA d,N I (p:Int)] 64)).alloc (T #[QA D,N I 0,U ⟨#[]⟩] 66)).heap.size=w.heap.size+3:=by simp
  have c0:(((w.alloc (T #[Y (Q (J g b Z)) n cap] 50)).alloc (T #[U nm,QA QC,QA d,N I (p:Int)] 64)).alloc (T #[QA D,N I 0,U ⟨#[]⟩] 66)).cell? (J (w.heap.size+1+1) 0 Z)=Q (QA D):=by simp[go_sem]
  have x:(((w.alloc (T #[Y (Q (J g b Z)) n cap] 50)).alloc (T #[U nm,QA QC,QA d,N I (p:Int)] 64)).alloc (T #[QA D,N I 0,U ⟨#[]⟩] 66)).frozen? (J (w.heap.size+1+1) 0 Z)=D:=by simp[go_sem]
  have c1:(((w.alloc (T #[Y (Q (J g b Z)) n cap] 50)).alloc (T #[U nm,QA QC,QA d,N I (p:Int)] 64)).alloc (T #[QA D,N I 0,U ⟨#[]⟩] 66)).cell? (J (w.heap.size+1+1) 1 Z)=Q (N I 0):=by simp[go_sem]
  have u:(((w.alloc (T #[Y (Q (J g b Z)) n cap] 50)).alloc (T #[U nm,QA QC,QA d,N I (p:Int)] 64)).alloc (T #[QA D,N I 0,U ⟨#[]⟩] 66)).frozen? (J (w.heap.size+1+1) 1 Z)=D:=by simp[go_sem]
  have c2:(((w.alloc (T #[Y (Q (J g b Z)) n cap] 50)).alloc (T #[U nm,QA QC,QA d,N I (p:Int)] 64)).alloc (T #[QA D,N I 0,U ⟨#[]⟩] 66)).cell? (J (w.heap.size+1+1) 2 Z)=Q (U ⟨#[]⟩):=by simp[go_sem]
  have A:(((w.alloc (T #[Y (Q (J g b Z)) n cap] 50)).alloc (T #[U nm,QA QC,QA d,N I (p:Int)] 64)).alloc (T #[QA D,N I 0,U ⟨#[]⟩] 66)).frozen? (J (w.heap.size+1+1) 2 Z)=D:=by simp[go_sem]
  generalize ((w.alloc (T #[Y (Q (J g b Z)) n cap] 50)).alloc (T #[U nm,QA QC,QA d,N I (p:Int)] 64)).alloc (T #[QA D,N I 0,U ⟨#[]⟩] 66)=P at r z0 c0 c1 c2 x u A ⊢;refine(pF (f p) O y C t _).mono ?_;rintro e QJ ⟨rfl,j⟩;have i:w.heap.size+1+1<P.heap.size:=by omega
  have S:=(j.cell (p:=(J (w.heap.size+1+1) 0 Z)) i).trans c0;have G:=(j.cell (p:=(J (w.heap.size+1+1) 1 Z)) i).trans c1;have L:=(j.cell (p:=(J (w.heap.size+1+1) 2 Z)) i).trans c2;have e0:=(j.frozen (p:=(J (w.heap.size+1+1) 0 Z)) i).trans x;have e1:=(j.frozen (p:=(J (w.heap.size+1+1) 1 Z)) i).trans u;have e2:=(j.frozen (p:=(J (w.heap.size+1+1) 2 Z)) i).trans A;have QM:=ae (r.out.trans (j.mono r.out.size));have hz1:w.heap.size+1+1<QJ.heap.size:=ll i j.size;clear j c0 c1 c2 x u A;go_wp2;exact bp (v:=QE #[QA (decide (¬ (f p).kind=2)),N I (f p).code,U (f p).text]) (by simp[results,Tryz.results229,go_sem,S,G,L]) rfl ⟨rfl,((QM.out.setCell (p:=(J (w.heap.size+1+1) 0 Z)) (by simp;omega) _).setCell (p:=(J (w.heap.size+1+1) 1 Z)) (by simp;omega) _).setCell (p:=(J (w.heap.size+1+1) 2 Z)) (by simp;omega) _⟩
theorem iD (K q n cap:Nat)(f:Nat->aj)(p C A o:Nat)(a1:Option Addr)(r:Nat)(w:E)(S:aX f n=QC)(hp:p<n)(hk:(f p).kind=3)(DA:RowDeed w K q n f)(hI:RowIns w C A (f p).actN (f p).act)(FD:SlLink w a1 (f p).linksN (f p).links)(Ft:Tab2 w)(n6:Pow w):Calls Tryz.prog 185 #[QE #[Y (Q (J K q Z)) n cap],QE #[U (f p).name,N I (f p).kind,N I (f p).code,U (f p).text,Y (Q (J C A Z)) (f p).actN o,Y a1 (f p).linksN r]] w fun e w'=>e=QD (.tuple #[(aY f p (aN f p)).v,N I (((f p).linksN:Int) - (aN f p:Int))])/\Below w.heap.size w w':=by
 have FI:valid (f p).act (f p).actN=QC/\(f p).linksN<=200:=by
  rcases(dZ S p hp).2 with h | h | h
  ·omega
  ·omega
  ·exact⟨h.2.2.2.1,h.2.2.2.2⟩
 obtain⟨hv,hN⟩:=FI;have Fr:(f p).actN<=200:=by have:=(bY hv).2.2;omega
 have Fq:=ae (bY hv).1;have X:=ae S;have n8:=ae (fun j (hj:j<(f p).linksN) (ha:((f p).links j).ask=QC)=>(⟨(gX S p hp j hj ha).1,Nat.lt_trans (gX S p hp j hj ha).2.1 hp⟩:0<=((f p).links j).at_/\((f p).links j).at_.toNat<n));have At:=ae DA;have HI:=ae hI;have FO:=ae FD;have Fs:=ae Ft;have n7:=ae n6;have hib:=hI.1;have Fj:=Ft.1;have hpwb:=n6.lt;clear S DA hI FD Ft n6 hv hk;obtain⟨O,Fi⟩:∃ O,O=aY f p (aN f p):=⟨_,rfl⟩
 obtain⟨P,DE⟩:∃ P,P=aN f p:=⟨_,rfl⟩
 rw[<-Fi,<-DE];have aq:=ae Fi;have QP:=ae DE;clear Fi DE;have QJ:=ae (show Below w.heap.size w (((w.alloc (T #[Y (Q (J K q Z)) n cap] 50)).alloc (T #[U (f p).name,N I (f p).kind,N I (f p).code,U (f p).text,Y (Q (J C A Z)) (f p).actN o,Y a1 (f p).linksN r] 58)).alloc (T #[QA D,N I 0,U ⟨#[]⟩,QA D,U ⟨#[]⟩,N I 0] 61)) from(((Qs w).alloc lr (T #[Y (Q (J K q Z)) n cap] 50)).alloc (by simp) (T #[U (f p).name,N I (f p).kind,N I (f p).code,U (f p).text,Y (Q (J C A Z)) (f p).actN o,Y a1 (f p).linksN r] 58)).alloc (by simp;omega) (T #[QA D,N I 0,U ⟨#[]⟩,QA D,U ⟨#[]⟩,N I 0] 61));have zA:(((w.alloc (T #[Y (Q (J K q Z)) n cap] 50)).alloc (T #[U (f p).name,N I (f p).kind,N I (f p).code,U (f p).text,Y (Q (J C A Z)) (f p).actN o,Y a1 (f p).linksN r] 58)).alloc (T #[QA D,N I 0,U ⟨#[]⟩,QA D,U ⟨#[]⟩,N I 0] 61)).heap.size=w.heap.size+3:=by simp
 have kA:(((w.alloc (T #[Y (Q (J K q Z)) n cap] 50)).alloc (T #[U (f p).name,N I (f p).kind,N I (f p).code,U (f p).text,Y (Q (J C A Z)) (f p).actN o,Y a1 (f p).linksN r] 58)).alloc (T #[QA D,N I 0,U ⟨#[]⟩,QA D,U ⟨#[]⟩,N I 0] 61)).cell? (J w.heap.size 0 Z)=Q (Y (Q (J K q Z)) n cap):=by simp[go_sem]
 have FN:(((w.alloc (T #[Y (Q (J K q Z)) n cap] 50)).alloc (T #[U (f p).name,N I (f p).kind,N I (f p).code,U (f p).text,Y (Q (J C A Z)) (f p).actN o,Y a1 (f p).linksN r] 58)).alloc (T #[QA D,N I 0,U ⟨#[]⟩,QA D,U ⟨#[]⟩,N I 0] 61)).cell? (J (w.heap.size+1) 4 Z)=Q (Y (Q (J C A Z)) (f p).actN o):=by simp[go_sem]
 have W:(((w.alloc (T #[Y (Q (J K q Z)) n cap] 50)).alloc (T #[U (f p).name,N I (f p).kind,N I (f p).code,U (f p).text,Y (Q (J C A Z)) (f p).actN o,Y a1 (f p).linksN r] 58)).alloc (T #[QA D,N I 0,U ⟨#[]⟩,QA D,U ⟨#[]⟩,N I 0] 61)).cell? (J (w.heap.size+1) 5 Z)=Q (Y a1 (f p).linksN r):=by simp[go_sem]
 have XA:=ae (by have h:=jQ ((w.alloc (T #[Y (Q (J K q Z)) n cap] 50)).alloc (T #[U (f p).name,N I (f p).kind,N I (f p).code,U (f p).text,Y (Q (J C A Z)) (f p).actN o,Y a1 (f p).linksN r] 58)) (QA D) (N I 0) (U ⟨#[]⟩) (QA D) (U ⟨#[]⟩) (N I 0) 61;rw[show((w.alloc (T #[Y (Q (J K q Z)) n cap] 50)).alloc (T #[U (f p).name,N I (f p).kind,N I (f p).code,U (f p).text,Y (Q (J C A Z)) (f p).actN o,Y a1 (f p).linksN r] 58)).heap.size=w.heap.size+1+1 by simp] at h;exact h);have S0:Sim m0 0 0 0 []:=⟨trivial,rfl,by simp,rfl,rfl,rfl,by simp,by omega,by omega,by omega⟩
 obtain⟨H0,FG,Fw,Fz⟩:=nD (f:=(f p).act) (cnt:=(f p).actN) (m:=m0) rfl S0;have FJ:=ae FG;have FQ:=ae Fw;have FP:=ae Fz;clear FG Fw Fz S0;go_enter Tryz.func185,Tryz.ntmps185;go_wp2_with fail;generalize ((w.alloc (T #[Y (Q (J K q Z)) n cap] 50)).alloc (T #[U (f p).name,N I (f p).kind,N I (f p).code,U (f p).text,Y (Q (J C A Z)) (f p).actN o,Y a1 (f p).linksN r] 58)).alloc (T #[QA D,N I 0,U ⟨#[]⟩,QA D,U ⟨#[]⟩,N I 0] 61)=WA at QJ zA kA FN W XA ⊢;refine(yn C A (f p).actN o _).mono ?_;rintro e w1 ⟨b,rfl,hb,Bk,Fv⟩;have Fy:=ae Bk;have B1:Hid (Below (w.heap.size+3) WA w1):=by show Below _ _ _;rw[<-zA];exact Fv
 have Fk:w.heap.size+3<=b:=by omega
 have hb1:b<w1.heap.size:=Bk.lt;have th:=ae (QJ.out.trans (B1.out.mono (by omega)));clear Bk Fv hb;have Fx:Hid (Env w1 b C A (f p).actN (f p).act):=⟨HI.out.below th.out lr,Fs.out.below th.out Fj,n7.out.below th.out lr,by omega,by omega,by omega⟩
 go_wp2_with fail;refine(oF b C A (f p).actN o (f p).act m0 H0 ⟨D,0,⟨#[]⟩⟩ _ Fy.out Fx.out rfl Fr Fq.out FJ.out).mono ?_;rintro e w2 ⟨B,rfl,FC,FA,FF⟩;have sm:=ae FC;have FL:=ae FA;have B2:=ae (B1.out.trans (FF.below Fk (by have:=B1.out.size;omega)));clear FC FA FF Fy Fx;simp only[Turn.v];have FH:=ae (sm.out.al (T #[QA B.t.over,N I B.t.code,U B.t.text,QA B.t.ask,U B.t.name,N I B.t.steps] 61));have Fu:=ae (As w2 B.t 61);have B3:=ae (B2.out.alloc (by have:=B2.out.size;omega) (T #[QA B.t.over,N I B.t.code,U B.t.text,QA B.t.ask,U B.t.name,N I B.t.steps] 61));have d5:=(B3.out.cell (p:=(J (w.heap.size+1) 5 Z)) (show w.heap.size+1<w.heap.size+3 by omega)).trans W;have Fp:w.heap.size+3<=w2.heap.size:=by have:=B2.out.size;omega
 have FM:b<w2.heap.size:=sm.out.lt;go_wp2;clear d5 sm B2;generalize w2.alloc (T #[QA B.t.over,N I B.t.code,U B.t.text,QA B.t.ask,U B.t.name,N I B.t.steps] 61)=W3 at FH Fu B3 ⊢;generalize w2.heap.size=g7 at Fu Fp FM ⊢;go_loopw [19] (fun i wr=>∃ (k:Nat) (QO:Mst) (H:Halt),k<=(f p).linksN/\i=N I k/\Hid (MAt wr b (Y (Q (J C A Z)) (f p).actN o) QO)/\Hid (TurnBox wr g7 QO.t)/\Hid (eE QO H)/\Hid (fR k H)/\Hid (∀ n,k<=n->dM (f p).act (f p).actN (yOf f p) n H=bV (f p).act (f p).actN (yOf f p) n 2001 0 0 0 [])/\Hid (dO f p ((f p).linksN - k) k=aN f p)/\Hid (Below (w.heap.size+3) WA wr)) (fun i _=>(f p).linksN - (intOf i).toNat);case atStart=>exact⟨0,B,H0,by omega,rfl,FH.out,Fu.out,FL.out,FQ.out,fun n _=>FP.out (yOf f p) n,rfl,B3.out⟩
 case round =>
  obtain⟨k,QO,H,hkN,rfl,HM,TB,HS,HL,HC,QK,BW⟩:=hrel;have Fo:=ae (QJ.out.trans (BW.out.mono (by omega)));have QQ:Hid (QO.t=aY f p k):=by show _=_;rw[<-mN (f:=(f p).act) (cnt:=(f p).actN) (y:=yOf f p) HS.out HL.out];exact HC.out k lr
  by_cases n9:k<(f p).linksN
  ·obtain⟨bl,offl,rfl,FE⟩:=(FO.out.below Fo.out lr).resolve_left (by omega)
   obtain⟨r0,r1,r2,r3⟩:=FE.2 k n9;obtain⟨l,hl⟩:∃ l,(f p).links k=l:=⟨_,rfl⟩
   rw[hl] at r0 r1 r2 r3;obtain⟨nm,ask,G,at_⟩:=l;dsimp only at r0 r1 r2 r3;have x:=ae hl;clear FE hl;obtain⟨j0,V⟩:∃ j0,(f p).linksN - k=j0+1:=⟨(f p).linksN - k - 1,by omega⟩
   have u:=ae (BW.out.alloc (by have:=BW.out.size;omega) (T #[U nm,QA ask,QA G,N I at_] 64));have TL:=ae (TB.out.below ((Qs wr).alloc lr (T #[U nm,QA ask,QA G,N I at_] 64)) TB.out.1);have ML:=ae (HM.out.al (T #[U nm,QA ask,QA G,N I at_] 64));obtain⟨tl,⟨t0,t1,t2,t3,t4,t5⟩,tz⟩:=TL.out;clear tz;cases ho:QO.t.over with
   | true =>
    rw[ho] at t0;have s:Hid (eV f p k=QC):=by show _=_;unfold eV;rw[<-QQ.out,x.out];rw[ho];rfl
    have z:Hid (P=k):=by show _=_;rw[QP.out,<-QK.out,V,kG s.out]
    have M:Hid (O=QO.t):=by show _=_;rw[aq.out,<-QP.out,z.out,QQ.out]
    have d5:=(u.out.cell (p:=(J (w.heap.size+1) 5 Z)) (show w.heap.size+1<w.heap.size+3 by omega)).trans W;have QM:=ae (QJ.out.trans (u.out.mono (by omega)));have d:=ae (XA.out.below u.out (by omega));have hx:=d.out.1;obtain⟨v0,q0,y0⟩:=d.out.2 0 (by omega);obtain⟨v1,QG,y1⟩:=d.out.2 1 (by omega);obtain⟨v2,q2,y2⟩:=d.out.2 2 (by omega);obtain⟨v3,q3,y3⟩:=d.out.2 3 (by omega);obtain⟨v4,q4,y4⟩:=d.out.2 4 (by omega);obtain⟨v5,QH,y5⟩:=d.out.2 5 (by omega);go_wp2_with fail;go_region;all_goals
     go_wp2;exact bp (v:=.tuple #[O.v,N I (((f p).linksN:Int) - (P:Int))]) (by rw[M.out,z.out];simp[results,Tryz.results185,go_sem,Turn.v,ho,q0,QG,q2,q3,q4,QH]) rfl ⟨rfl,(dV QM.out (by omega) _ _ _ _ _ _).drew⟩
   | false =>
    rw[ho] at t0;cases hn:(QO.t.name.toList == nm.toList) with
    | false =>
     have s:Hid (eV f p k=QC):=by show _=_;unfold eV;rw[<-QQ.out,x.out];simp[ho,hn]
     have z:Hid (P=k):=by show _=_;rw[QP.out,<-QK.out,V,kG s.out]
     have M:Hid (O=QO.t):=by show _=_;rw[aq.out,<-QP.out,z.out,QQ.out]
     have d5:=(u.out.cell (p:=(J (w.heap.size+1) 5 Z)) (show w.heap.size+1<w.heap.size+3 by omega)).trans W;have QM:=ae (QJ.out.trans (u.out.mono (by omega)));have d:=ae (XA.out.below u.out (by omega));have hx:=d.out.1;obtain⟨v0,q0,y0⟩:=d.out.2 0 (by omega);obtain⟨v1,QG,y1⟩:=d.out.2 1 (by omega);obtain⟨v2,q2,y2⟩:=d.out.2 2 (by omega);obtain⟨v3,q3,y3⟩:=d.out.2 3 (by omega);obtain⟨v4,q4,y4⟩:=d.out.2 4 (by omega);obtain⟨v5,QH,y5⟩:=d.out.2 5 (by omega);go_wp2_with fail;go_region;all_goals
      go_wp2;exact bp (v:=.tuple #[O.v,N I (((f p).linksN:Int) - (P:Int))]) (by rw[M.out,z.out];simp[results,Tryz.results185,go_sem,Turn.v,ho,q0,QG,q2,q3,q4,QH]) rfl ⟨rfl,(dV QM.out (by omega) _ _ _ _ _ _).drew⟩
    | true =>
     cases hak:QO.t.ask with
     | true =>
      rw[hak] at t3;cases ask with
      | true =>
       have s:Hid (eV f p k=D):=by show _=_;unfold eV;rw[<-QQ.out,x.out];simp[ho,hn,hak]
       obtain⟨a,Fl,s2,pp,st,l,rfl⟩:=jH HS.out ho;have el:l=k+1:=HL.out;subst el;have ex:=(u.out.cell (p:=(J w.heap.size 0 Z)) (show w.heap.size<w.heap.size+3 by omega)).trans kA;have QM:=ae (QJ.out.trans (u.out.mono (by omega)));have HY:Hid (eG f ⟨nm,QC,G,at_⟩=yOf f p k):=by show _=_;unfold yOf;rw[x.out]
       have Fd:=ae (uU (l:=⟨nm,QC,G,at_⟩) X.out (fun ha=>by have:=n8.out k n9 (by rw[x.out]);rw[x.out] at this;exact this.2));have ro:Hid ((eG f ⟨nm,QC,G,at_⟩).text.size<=2000):=by have:=Fd.out;simp only[bT,j4] at this;exact this.1
       have FK:Hid (0<=at_/\at_.toNat<n):=by have:=n8.out k n9 (by rw[x.out]);rw[x.out] at this;exact this
       go_wp2_with fail;clear t0 t1 t2 t3 t4 t5 r0 r1 r2 r3;generalize wr.alloc (T #[U nm,QA QC,QA G,N I at_] 64)=WL at u TL ML QM ex tl ⊢;refine(mO K q n cap f ⟨nm,QC,G,at_⟩ _ X.out (At.out.below QM.out lr) (fun _=>FK.out)).mono ?_;rintro e w4 ⟨rfl,L⟩;have qr:b<WL.heap.size:=ML.out.lt;have M4:=ae (ML.out.below L qr);have T4:=ae (TL.out.below L tl);have B4:=ae (u.out.trans (L.mono (by have:=u.out.size;omega)));have QL:=ae (QJ.out.trans (B4.out.mono (by omega)));have Fh:Hid (Env w4 b C A (f p).actN (f p).act):=⟨HI.out.below QL.out lr,Fs.out.below QL.out Fj,n7.out.below QL.out lr,by omega,by omega,by omega⟩
       clear L ex;go_wp2_with fail;refine(jp b C A (f p).actN o (f p).act QO a Fl s2 pp st (k+1) (eG f ⟨nm,QC,G,at_⟩) _ M4.out Fh.out HS.out (by omega) ro.out Fr Fq.out).mono ?_;rintro e w5 ⟨m2,H2,rfl,bt,ld,mv,la,R⟩;have fd:g7≠b:=by omega
       have T5:=ae (T4.out.only R fd);have M5:=ae (bt.boxed fd m2.t);have X5:=ae (uQ m2.t T5.out);have B5:=ae (B4.out.trans (R.below Fk (by have:=B4.out.size;omega)));have B6:=ae (B5.out.trans ((kD (w:=w5) (g:=g7) m2.t).below Fp (by have:=B5.out.size;omega)));have DQ:=ae ld;have ph:=ae mv;have Fm:Hid (∀ n,k+1<=n->dM (f p).act (f p).actN (yOf f p) n H2=bV (f p).act (f p).actN (yOf f p) n 2001 0 0 0 []):=fun n hn=>(la (yOf f p) n hn (by rw[JD];exact HY.out.symm)).symm.trans (HC.out n (by omega));have ur:Hid (dO f p ((f p).linksN - (k+1)) (k+1)=aN f p):=by show _=_;rw[<-QK.out,V,sI s.out,show(f p).linksN - (k+1)=j0 by omega]
       obtain⟨ul,⟨u0,u1,u2,u3,u4,u5⟩,QN⟩:=T5.out;have z0:=QN 0;have z1:=QN 1;have z2:=QN 2;have z3:=QN 3;have z4:=QN 4;have z5:=QN 5;clear bt ld mv la R M4 T4 QN;simp only[Turn.v];go_wp2;exact⟨⟨k+1,m2,H2,by omega,by go_num,M5.out,X5.out,DQ.out,ph.out,Fm.out,ur.out,B6.out⟩,by simp[intOf];omega⟩
      | false =>
       have s:Hid (eV f p k=QC):=by show _=_;unfold eV;rw[<-QQ.out,x.out];simp[ho,hn,hak]
       have z:Hid (P=k):=by show _=_;rw[QP.out,<-QK.out,V,kG s.out]
       have M:Hid (O=QO.t):=by show _=_;rw[aq.out,<-QP.out,z.out,QQ.out]
       have d5:=(u.out.cell (p:=(J (w.heap.size+1) 5 Z)) (show w.heap.size+1<w.heap.size+3 by omega)).trans W;have QM:=ae (QJ.out.trans (u.out.mono (by omega)));have d:=ae (XA.out.below u.out (by omega));have hx:=d.out.1;obtain⟨v0,q0,y0⟩:=d.out.2 0 (by omega);obtain⟨v1,QG,y1⟩:=d.out.2 1 (by omega);obtain⟨v2,q2,y2⟩:=d.out.2 2 (by omega);obtain⟨v3,q3,y3⟩:=d.out.2 3 (by omega);obtain⟨v4,q4,y4⟩:=d.out.2 4 (by omega);obtain⟨v5,QH,y5⟩:=d.out.2 5 (by omega);go_wp2_with fail;go_region;all_goals
        go_wp2;exact bp (v:=.tuple #[O.v,N I (((f p).linksN:Int) - (P:Int))]) (by rw[M.out,z.out];simp[results,Tryz.results185,go_sem,Turn.v,ho,hak,q0,QG,q2,q3,q4,QH]) rfl ⟨rfl,(dV QM.out (by omega) _ _ _ _ _ _).drew⟩
     | false =>
      rw[hak] at t3;cases ask with
      | true =>
       have s:Hid (eV f p k=QC):=by show _=_;unfold eV;rw[<-QQ.out,x.out];simp[ho,hn,hak]
       have z:Hid (P=k):=by show _=_;rw[QP.out,<-QK.out,V,kG s.out]
       have M:Hid (O=QO.t):=by show _=_;rw[aq.out,<-QP.out,z.out,QQ.out]
       have d5:=(u.out.cell (p:=(J (w.heap.size+1) 5 Z)) (show w.heap.size+1<w.heap.size+3 by omega)).trans W;have QM:=ae (QJ.out.trans (u.out.mono (by omega)));have d:=ae (XA.out.below u.out (by omega));have hx:=d.out.1;obtain⟨v0,q0,y0⟩:=d.out.2 0 (by omega);obtain⟨v1,QG,y1⟩:=d.out.2 1 (by omega);obtain⟨v2,q2,y2⟩:=d.out.2 2 (by omega);obtain⟨v3,q3,y3⟩:=d.out.2 3 (by omega);obtain⟨v4,q4,y4⟩:=d.out.2 4 (by omega);obtain⟨v5,QH,y5⟩:=d.out.2 5 (by omega);go_wp2_with fail;go_region;all_goals
        go_wp2;exact bp (v:=.tuple #[O.v,N I (((f p).linksN:Int) - (P:Int))]) (by rw[M.out,z.out];simp[results,Tryz.results185,go_sem,Turn.v,ho,hak,q0,QG,q2,q3,q4,QH]) rfl ⟨rfl,(dV QM.out (by omega) _ _ _ _ _ _).drew⟩
      | false =>
       have s:Hid (eV f p k=D):=by show _=_;unfold eV;rw[<-QQ.out,x.out];simp[ho,hn,hak]
       obtain⟨a,Fl,s2,pp,st,l,rfl⟩:=jH HS.out ho;have el:l=k+1:=HL.out;subst el;have ex:=(u.out.cell (p:=(J w.heap.size 0 Z)) (show w.heap.size<w.heap.size+3 by omega)).trans kA;have QM:=ae (QJ.out.trans (u.out.mono (by omega)));have HY:Hid (eG f ⟨nm,D,G,at_⟩=yOf f p k):=by show _=_;unfold yOf;rw[x.out]
       have Fd:=ae (uU (l:=⟨nm,D,G,at_⟩) X.out (fun ha=>by have:=n8.out k n9 (by rw[x.out];exact ha);rw[x.out] at this;exact this.2));have ro:Hid ((eG f ⟨nm,D,G,at_⟩).text.size<=2000):=by have:=Fd.out;simp only[bT,j4] at this;exact this.1
       go_wp2_with fail;clear t0 t1 t2 t3 t4 t5 r0 r1 r2 r3;generalize wr.alloc (T #[U nm,QA D,QA G,N I at_] 64)=WL at u TL ML QM ex tl ⊢;refine(mO K q n cap f ⟨nm,D,G,at_⟩ _ X.out (At.out.below QM.out lr) (fun h=>by cases h)).mono ?_;rintro e w4 ⟨rfl,L⟩;have qr:b<WL.heap.size:=ML.out.lt;have M4:=ae (ML.out.below L qr);have T4:=ae (TL.out.below L tl);have B4:=ae (u.out.trans (L.mono (by have:=u.out.size;omega)));have QL:=ae (QJ.out.trans (B4.out.mono (by omega)));have Fh:Hid (Env w4 b C A (f p).actN (f p).act):=⟨HI.out.below QL.out lr,Fs.out.below QL.out Fj,n7.out.below QL.out lr,by omega,by omega,by omega⟩
       clear L ex;go_wp2_with fail;refine(jp b C A (f p).actN o (f p).act QO a Fl s2 pp st (k+1) (eG f ⟨nm,D,G,at_⟩) _ M4.out Fh.out HS.out (by omega) ro.out Fr Fq.out).mono ?_;rintro e w5 ⟨m2,H2,rfl,bt,ld,mv,la,R⟩;have fd:g7≠b:=by omega
       have T5:=ae (T4.out.only R fd);have M5:=ae (bt.boxed fd m2.t);have X5:=ae (uQ m2.t T5.out);have B5:=ae (B4.out.trans (R.below Fk (by have:=B4.out.size;omega)));have B6:=ae (B5.out.trans ((kD (w:=w5) (g:=g7) m2.t).below Fp (by have:=B5.out.size;omega)));have DQ:=ae ld;have ph:=ae mv;have Fm:Hid (∀ n,k+1<=n->dM (f p).act (f p).actN (yOf f p) n H2=bV (f p).act (f p).actN (yOf f p) n 2001 0 0 0 []):=fun n hn=>(la (yOf f p) n hn (by rw[JD];exact HY.out.symm)).symm.trans (HC.out n (by omega));have ur:Hid (dO f p ((f p).linksN - (k+1)) (k+1)=aN f p):=by show _=_;rw[<-QK.out,V,sI s.out,show(f p).linksN - (k+1)=j0 by omega]
       obtain⟨ul,⟨u0,u1,u2,u3,u4,u5⟩,QN⟩:=T5.out;have z0:=QN 0;have z1:=QN 1;have z2:=QN 2;have z3:=QN 3;have z4:=QN 4;have z5:=QN 5;clear bt ld mv la R M4 T4 QN;simp only[Turn.v];go_wp2;exact⟨⟨k+1,m2,H2,by omega,by go_num,M5.out,X5.out,DQ.out,ph.out,Fm.out,ur.out,B6.out⟩,by simp[intOf];omega⟩
  ·obtain rfl:k=(f p).linksN:=by omega
   have z:Hid (P=(f p).linksN):=by show _=_;rw[QP.out,<-QK.out,JW];rfl
   have M:Hid (O=QO.t):=by show _=_;rw[aq.out,<-QP.out,z.out,QQ.out]
   obtain⟨tl,⟨t0,t1,t2,t3,t4,t5⟩,tz⟩:=TB.out;have d:=ae (XA.out.below BW.out (by omega));have hx:=d.out.1;obtain⟨v0,q0,y0⟩:=d.out.2 0 (by omega);obtain⟨v1,QG,y1⟩:=d.out.2 1 (by omega);obtain⟨v2,q2,y2⟩:=d.out.2 2 (by omega);obtain⟨v3,q3,y3⟩:=d.out.2 3 (by omega);obtain⟨v4,q4,y4⟩:=d.out.2 4 (by omega);obtain⟨v5,QH,y5⟩:=d.out.2 5 (by omega);clear tz;go_wp2;exact bp (v:=.tuple #[O.v,N I (((f p).linksN:Int) - (P:Int))]) (by rw[M.out,z.out];simp[results,Tryz.results185,go_sem,Turn.v,q0,QG,q2,q3,q4,QH]) rfl ⟨rfl,by first | exact dV Fo.out (by omega) _ _ _ _ _ _ | exact dV Fo.out.drew (by omega) _ _ _ _ _ _⟩
def fm (f:Nat->aj)(p:Nat):Bool:=if (f p).kind=3 then (!(aY f p (aN f p)).over || decide (aN f p<(f p).linksN)) else D
def jb (f:Nat->aj)(p:Nat):Bool:=if (f p).kind=3 then (!decide ((aY f p (aN f p)).code=(f p).code) || !((aY f p (aN f p)).text.toList == (f p).text.toList)) else D
theorem uV (f:Nat->aj)(p:Nat):codeF f p=if fm f p=QC then 4 else if jb f p=QC then 5 else 0:=by
 unfold codeF fm jb;by_cases b:(f p).kind=3
 ·rw[eT b,eT b,eT b]
  unfold rm;by_cases h1:aN f p<(f p).linksN
  ·simp[h1]
  ·cases ho:(aY f p (aN f p)).over with
   | false=>simp[h1]
   | true =>
    by_cases h2:(aY f p (aN f p)).code=(f p).code
    ·by_cases d:(aY f p (aN f p)).text.toList=(f p).text.toList
     ·simp[h1,h2,d]
     ·have g:((aY f p (aN f p)).text.toList == (f p).text.toList)=D:=by simpa using d
      simp[h1,h2,d,g]
    ·simp[h1,h2]
 ·rw[a8 b,a8 b,a8 b]
  simp
theorem gi {w:E}{a:Option Addr}{f:Nat->Ins}{n:Nat}(h:SlIns w a n f)(i:valid f n=QC):∃ d g,a=Q (J d g Z)/\RowIns w d g n f:=by
 have hn:=(bY i).2;rcases h with h | ⟨b,off,e,j⟩
 ·omega
 ·exact⟨b,off,e,j⟩
theorem wU (A b n cap:Nat)(f:Nat->aj)(p:Nat)(a0:Option Addr)(i:Nat)(a1:Option Addr)(j:Nat)(w:E)(g:aX f n=QC)(O:p<n)(o:RowDeed w A b n f)(QL:SlIns w a0 (f p).actN (f p).act)(QQ:SlLink w a1 (f p).linksN (f p).links)(y:Tab2 w)(m:Pow w):Calls Tryz.prog 118 #[QE #[Y (Q (J A b Z)) n cap,Y Z 0 0,Y Z 0 0],QE #[U (f p).name,N I (f p).kind,N I (f p).code,U (f p).text,Y a0 (f p).actN i,Y a1 (f p).linksN j]] w fun e w'=>e=QD (QA (fm f p))/\Below w.heap.size w w':=by
 obtain⟨r,G⟩:∃ r,r=fm f p:=⟨_,rfl⟩
 rw[<-G];have QN:=ae (show r=if (f p).kind=3 then (!(aY f p (aN f p)).over || decide (aN f p<(f p).linksN)) else D from G);clear G;have l:=ae (((Qs w).alloc lr (T #[Y (Q (J A b Z)) n cap,Y Z 0 0,Y Z 0 0] 165)).alloc (by simp) (T #[U (f p).name,N I (f p).kind,N I (f p).code,U (f p).text,Y a0 (f p).actN i,Y a1 (f p).linksN j] 58));have K:=ae o;have QK:=ae QL;have L:=ae QQ;have R:=ae y;have QO:=ae m;have QM:=y.1;clear o QL QQ y m;by_cases k:(f p).kind=3
 ·have u:valid (f p).act (f p).actN=QC:=by
   rcases(dZ g p O).2 with h | h | h
   ·omega
   ·omega
   ·exact h.2.2.2.1
  obtain⟨X,QG,rfl,B⟩:=gi QK.out u;have M:=ae B;have V:=ae k;have z:Hid (r=(!(aY f p (aN f p)).over || decide (aN f p<(f p).linksN))):=by show _=_;rw[QN.out,eT k]
  have C:=kF f p (f p).linksN 0;have QP:Hid (aN f p<=(f p).linksN):=by show dO f p (f p).linksN 0<=_;omega
  have H:=ae g;rw[k] at l;clear B u QK g C QN;have s:=fun W (d:Below w.heap.size w W)=>iD A b n cap f p X QG i a1 j W H.out O V.out (K.out.below d lr) (M.out.below d lr) (L.out.below d lr) (R.out.below d QM) (QO.out.below d lr);generalize aY f p (aN f p)=t at z s;generalize aN f p=q at z s QP;rw[k] at s;have S:=ae s;clear s;rw[k];go_enter Tryz.func118,Tryz.ntmps118;go_wp2_with fail;refine(S.out _ l.out).mono ?_;rintro e w1 ⟨rfl,d⟩;have QJ:=ae (l.out.trans (d.mono l.out.size));have x:=ae (QJ.out.alloc QJ.out.size (T #[QA t.over,N I t.code,U t.text,QA t.ask,U t.name,N I t.steps] 61));have C:=QP.out;clear d;simp only[Turn.v];cases ho:t.over with
  | false =>
   obtain rfl:r=QC:=by rw[z.out,ho];rfl
   rw[ho] at x;go_wp2;go_ret;exact⟨rfl,x.out⟩
  | true =>
   rw[ho] at x;by_cases P:q<(f p).linksN
   ·obtain rfl:r=QC:=by rw[z.out,ho];simp[P]
    have hgt:(0:Int)<((f p).linksN:Int) - (q:Int):=by omega
    go_wp2;go_ret;exact⟨rfl,x.out⟩
   ·obtain rfl:r=D:=by rw[z.out,ho];simp[P]
    have hz:((f p).linksN:Int) - (q:Int)=0:=by omega
    rw[hz];go_wp2;go_ret;exact⟨rfl,x.out⟩
 ·obtain rfl:r=D:=by rw[QN.out,a8 k]
  go_enter Tryz.func118,Tryz.ntmps118;go_wp2;go_ret;exact⟨rfl,l.out⟩
theorem AD (A d n cap:Nat)(f:Nat->aj)(p:Nat)(a0:Option Addr)(i:Nat)(a1:Option Addr)(j:Nat)(w:E)(g:aX f n=QC)(O:p<n)(s:RowDeed w A d n f)(P:SlIns w a0 (f p).actN (f p).act)(QQ:SlLink w a1 (f p).linksN (f p).links)(y:Tab2 w)(o:Pow w):Calls Tryz.prog 119 #[QE #[Y (Q (J A d Z)) n cap,Y Z 0 0,Y Z 0 0],QE #[U (f p).name,N I (f p).kind,N I (f p).code,U (f p).text,Y a0 (f p).actN i,Y a1 (f p).linksN j]] w fun e w'=>e=QD (QA (jb f p))/\Below w.heap.size w w':=by
 obtain⟨r,QP⟩:∃ r,r=jb f p:=⟨_,rfl⟩
 rw[<-QP];have QN:=ae (show r=if (f p).kind=3 then (!decide ((aY f p (aN f p)).code=(f p).code) || !((aY f p (aN f p)).text.toList == (f p).text.toList)) else D from QP);clear QP;have m:=ae (((Qs w).alloc lr (T #[Y (Q (J A d Z)) n cap,Y Z 0 0,Y Z 0 0] 165)).alloc (by simp) (T #[U (f p).name,N I (f p).kind,N I (f p).code,U (f p).text,Y a0 (f p).actN i,Y a1 (f p).linksN j] 58));have K:=ae s;have S:=ae P;have L:=ae QQ;have QL:=ae y;have QO:=ae o;have QM:=y.1;clear s P QQ y o;by_cases k:(f p).kind=3
 ·have x:valid (f p).act (f p).actN=QC:=by
   rcases(dZ g p O).2 with h | h | h
   ·omega
   ·omega
   ·exact h.2.2.2.1
  obtain⟨QJ,V,rfl,C⟩:=gi S.out x;have M:=ae C;have QK:=ae k;have z:Hid (r=(!decide ((aY f p (aN f p)).code=(f p).code) || !((aY f p (aN f p)).text.toList == (f p).text.toList))):=by show _=_;rw[QN.out,eT k]
  have G:=ae g;rw[k] at m;clear C x S g QN;have u:=fun W (b:Below w.heap.size w W)=>iD A d n cap f p QJ V i a1 j W G.out O QK.out (K.out.below b lr) (M.out.below b lr) (L.out.below b lr) (QL.out.below b QM) (QO.out.below b lr);generalize aY f p (aN f p)=t at z u;generalize aN f p=q at z u;rw[k] at u;have R:=ae u;clear u;rw[k];go_enter Tryz.func119,Tryz.ntmps119;go_wp2_with fail;refine(R.out _ m.out).mono ?_;rintro e H ⟨rfl,b⟩;have d2:H.cell? (J (w.heap.size+1) 2 Z)=Q (N I (f p).code):=(b.cell (p:=(J (w.heap.size+1) 2 Z)) (by simp)).trans (by simp[go_sem]);have d3:H.cell? (J (w.heap.size+1) 3 Z)=Q (U (f p).text):=(b.cell (p:=(J (w.heap.size+1) 3 Z)) (by simp)).trans (by simp[go_sem]);have hz1:w.heap.size+1<H.heap.size:=by have:=b.size;simp at this;omega
  have l:=ae (m.out.trans (b.mono m.out.size));clear b;simp only[Turn.v];by_cases B:t.code=(f p).code
  ·cases ht:(t.text.toList == (f p).text.toList) with
   | true =>
    obtain rfl:r=D:=by rw[z.out];simp[B,ht]
    go_wp2;go_ret;exact⟨rfl,l.out.alloc l.out.size _⟩
   | false =>
    obtain rfl:r=QC:=by rw[z.out];simp[B,ht]
    go_wp2;go_ret;exact⟨rfl,l.out.alloc l.out.size _⟩
  ·obtain rfl:r=QC:=by rw[z.out];simp[B]
   have hc2:(t.code == (f p).code)=D:=by simpa using B
   go_wp2;go_ret;exact⟨rfl,l.out.alloc l.out.size _⟩
 ·obtain rfl:r=D:=by rw[QN.out,a8 k]
  go_enter Tryz.func119,Tryz.ntmps119;go_wp2;go_ret;exact⟨rfl,m.out⟩
theorem qU (s l n cap t:Nat)(f:Nat->aj)(w:E)(hn:(n:Int)<=400)(QN:aX f n=QC)(P:RowDeed w s l n f)(QK:Tab2 w)(K:Pow w)(G:t<w.heap.size)
  (k0:w.cell? (J t 0 Z)=Q (N I 4)) (k1:w.cell? (J t 1 Z)=Q (.func (.func 118) #[] #[])) (k2:w.cell? (J t 2 Z)=Q (N I 5)) (k3:w.cell? (J t 3 Z)=Q (.func (.func 119) #[] #[])) :
  Calls Tryz.prog 117 #[QE #[Y (Q (J s l Z)) n cap,Y Z 0 0,Y Z 0 0],Y (Q (J t 0 Z)) 2 2] w fun e w'=>e=QD (.tuple #[N I (fD f n).1,N I (fD f n).2])/\Below w.heap.size w w':=by
 obtain⟨R,hR⟩:∃ R,R=fD f n:=⟨_,rfl⟩
 rw[<-hR];have HR:=ae hR;clear hR;have A0:=ae ((Qs w).alloc lr (T #[Y (Q (J s l Z)) n cap,Y Z 0 0,Y Z 0 0] 165));have m0:(w.alloc (T #[Y (Q (J s l Z)) n cap,Y Z 0 0,Y Z 0 0] 165)).cell? (J w.heap.size 0 Z)=Q (Y (Q (J s l Z)) n cap):=by simp
 have m1:(w.alloc (T #[Y (Q (J s l Z)) n cap,Y Z 0 0,Y Z 0 0] 165)).cell? (J w.heap.size 1 Z)=Q (Y Z 0 0):=by simp
 have m2:(w.alloc (T #[Y (Q (J s l Z)) n cap,Y Z 0 0,Y Z 0 0] 165)).cell? (J w.heap.size 2 Z)=Q (Y Z 0 0):=by simp
 have hz:(w.alloc (T #[Y (Q (J s l Z)) n cap,Y Z 0 0,Y Z 0 0] 165)).heap.size=w.heap.size+1:=by simp
 have QP:=ae P;have L:=ae QN;have ex:=ae QK;have M:=ae K;have QG:=QK.1;have W:=ae (And.intro k0 (And.intro k1 (And.intro k2 k3)));clear P QN QK K k0 k1 k2 k3;go_enter Tryz.func117,Tryz.ntmps117;go_wp2;go_step3;go_wp2;go_step3;go_wp2;generalize w.alloc (T #[Y (Q (J s l Z)) n cap,Y Z 0 0,Y Z 0 0] 165)=WA at A0 m0 m1 m2 hz ⊢;go_loopw [6,7,16] (fun c6 c7 i wr=>∃ k:Nat,k<=n/\c6=N I 0/\c7=N I 0/\i=N I k/\Hid (∀ j,j<k->codeF f j=0)/\Hid (Below (w.heap.size+1) WA wr)) (fun _ _ i _=>n - (intOf i).toNat);case atStart=>exact⟨0,by omega,rfl,rfl,rfl,fun j hj=>absurd hj (CS _),eI _ _⟩
 case round =>
  obtain⟨k,hk,rfl,rfl,rfl,QJ,V⟩:=hrel;have BW:=ae (A0.out.trans (V.out.mono (by omega)));by_cases A:k<n
  ·obtain⟨p0,p1,p2,p3,⟨a0,b,p4,q4⟩,⟨a1,d,p5,q5⟩⟩:=(QP.out.below BW.out lr).2 k A
   have O:=ae (uV f k);have D1:=ae ((Qs wr).alloc lr (T #[U (f k).name,N I (f k).kind,N I (f k).code,U (f k).text,Y a0 (f k).actN b,Y a1 (f k).linksN d] 58));have B1:=ae (V.out.alloc (by have:=V.out.size;omega) (T #[U (f k).name,N I (f k).kind,N I (f k).code,U (f k).text,Y a0 (f k).actN b,Y a1 (f k).linksN d] 58));have QI:=ae (show SlIns wr a0 (f k).actN (f k).act/\SlLink wr a1 (f k).linksN (f k).links from⟨q4,q5⟩);have H:=ae (And.intro (QI.out.1.below D1.out lr) (QI.out.2.below D1.out lr));have e0:(wr.alloc (T #[U (f k).name,N I (f k).kind,N I (f k).code,U (f k).text,Y a0 (f k).actN b,Y a1 (f k).linksN d] 58)).cell? (J wr.heap.size 0 Z)=Q (U (f k).name):=by simp
   have e1:(wr.alloc (T #[U (f k).name,N I (f k).kind,N I (f k).code,U (f k).text,Y a0 (f k).actN b,Y a1 (f k).linksN d] 58)).cell? (J wr.heap.size 1 Z)=Q (N I (f k).kind):=by simp
   have e2:(wr.alloc (T #[U (f k).name,N I (f k).kind,N I (f k).code,U (f k).text,Y a0 (f k).actN b,Y a1 (f k).linksN d] 58)).cell? (J wr.heap.size 2 Z)=Q (N I (f k).code):=by simp
   have e3:(wr.alloc (T #[U (f k).name,N I (f k).kind,N I (f k).code,U (f k).text,Y a0 (f k).actN b,Y a1 (f k).linksN d] 58)).cell? (J wr.heap.size 3 Z)=Q (U (f k).text):=by simp
   have e4:(wr.alloc (T #[U (f k).name,N I (f k).kind,N I (f k).code,U (f k).text,Y a0 (f k).actN b,Y a1 (f k).linksN d] 58)).cell? (J wr.heap.size 4 Z)=Q (Y a0 (f k).actN b):=by simp
   have e5:(wr.alloc (T #[U (f k).name,N I (f k).kind,N I (f k).code,U (f k).text,Y a0 (f k).actN b,Y a1 (f k).linksN d] 58)).cell? (J wr.heap.size 5 Z)=Q (Y a1 (f k).linksN d):=by simp
   have fd:(wr.alloc (T #[U (f k).name,N I (f k).kind,N I (f k).code,U (f k).text,Y a0 (f k).actN b,Y a1 (f k).linksN d] 58)).heap.size=wr.heap.size+1:=by simp
   have la:w.heap.size+1<=wr.heap.size:=by have:=V.out.size;omega
   clear q4 q5;go_wp2;clear p0 p1 p2 p3 p4 p5 D1;generalize wr.alloc (T #[U (f k).name,N I (f k).kind,N I (f k).code,U (f k).text,Y a0 (f k).actN b,Y a1 (f k).linksN d] 58)=WD at B1 H e0 e1 e2 e3 e4 e5 fd ⊢;generalize wr.heap.size=o at e0 e1 e2 e3 e4 e5 fd la ⊢;go_loopw [6,7,23] (fun c6 c7 i w2=>∃ j:Nat,j<=2/\c6=N I 0/\c7=N I 0/\i=N I j/\Hid (1<=j->fm f k=D)/\Hid (2<=j->jb f k=D)/\Hid (Below (o+1) WD w2)) (fun _ _ i _=>2 - (intOf i).toNat);case atStart=>exact⟨0,by omega,rfl,rfl,rfl,(fun h=>by omega),(fun h=>by omega),eI _ _⟩
   case round =>
    obtain⟨j,hj,rfl,rfl,rfl,HS,HN,g⟩:=hrel;have QL:=ae (B1.out.trans (g.out.mono (by omega)));have z:=ae (A0.out.trans (QL.out.mono (by omega)));have X:=(z.out.cell (p:=(J t 0 Z)) G).trans W.out.1;have QH:=(z.out.cell (p:=(J t 1 Z)) G).trans W.out.2.1;have aq:=(z.out.cell (p:=(J t 2 Z)) G).trans W.out.2.2.1;have bt:=(z.out.cell (p:=(J t 3 Z)) G).trans W.out.2.2.2;have f0:=(g.out.cell (p:=(J o 0 Z)) (lj o)).trans e0;have f1:=(g.out.cell (p:=(J o 1 Z)) (lj o)).trans e1;have f2:=(g.out.cell (p:=(J o 2 Z)) (lj o)).trans e2;have f3:=(g.out.cell (p:=(J o 3 Z)) (lj o)).trans e3;have f4:=(g.out.cell (p:=(J o 4 Z)) (lj o)).trans e4;have f5:=(g.out.cell (p:=(J o 5 Z)) (lj o)).trans e5;have g0:=(QL.out.cell (p:=(J w.heap.size 0 Z)) (lj w.heap.size)).trans m0;have g1:=(QL.out.cell (p:=(J w.heap.size 1 Z)) (lj w.heap.size)).trans m1;have g2:=(QL.out.cell (p:=(J w.heap.size 2 Z)) (lj w.heap.size)).trans m2;have hs1:o<wr.heap.size:=by have:=g.out.size;omega
    have hs2:w.heap.size<wr.heap.size:=by omega
    have hs3:t<wr.heap.size:=by omega
    rcases(show j=0∨j=1∨j=2 by omega) with rfl | rfl | rfl
    ·have S:=fun(w:E) (a:Addr) (m:Mode)=>ND Tryz.prog w a (.func (.func 118) #[] #[]) m rfl
     have B:=ae ((Qs wr).alloc lr (T #[N I 4,.func (.func 118) #[] #[]] 168));have q:=ae (z.out.alloc z.out.size (T #[N I 4,.func (.func 118) #[] #[]] 168));have QQ:=ae (And.intro ((H.out.1.below g.out (by omega)).below B.out lr) ((H.out.2.below g.out (by omega)).below B.out lr));have C:=ae (g.out.alloc (by have:=g.out.size;omega) (T #[N I 4,.func (.func 118) #[] #[]] 168));have r:(wr.alloc (T #[N I 4,.func (.func 118) #[] #[]] 168)).cell? (J wr.heap.size 0 Z)=Q (N I 4):=by simp
     have y:wr.heap.size<(wr.alloc (T #[N I 4,.func (.func 118) #[] #[]] 168)).heap.size:=by simp
     go_wp2_with fail;clear f0 f1 f2 f3 f4 f5 g0 g1 g2 X QH aq bt S;generalize wr.alloc (T #[N I 4,.func (.func 118) #[] #[]] 168)=WX at B q QQ C r y ⊢;refine(wU s l n cap f k a0 b a1 d _ L.out A (QP.out.below q.out lr) QQ.out.1 QQ.out.2 (ex.out.below q.out QG) (M.out.below q.out lr)).mono ?_;rintro e w3 ⟨rfl,x⟩;have W3:=ae (q.out.trans (x.mono q.out.size));have C3:=ae (C.out.trans (x.mono (by have:=C.out.size;omega)));have cz:=(x.cell (p:=(J wr.heap.size 0 Z)) y).trans r;clear x r;cases hb:fm f k with
     | true =>
      have u:Hid (codeF f k=4):=by show _=_;rw[O.out];rw[eT hb]
      have QM:Hid (R=(4,(k:Int))):=by show _=_;rw[HR.out,oG A QJ.out (by rw[u.out];decide),u.out]
      go_wp2;try rw[JB]
      go_ret2;exact⟨by simp[QM.out],W3.out⟩
     | false =>have QO:=ae hb;go_wp2;exact⟨⟨1,by omega,rfl,rfl,by go_num,fun _=>QO.out,(fun h=>by omega),C3.out⟩,by simp[intOf]⟩
    ·have S:=fun(w:E) (a:Addr) (m:Mode)=>ND Tryz.prog w a (.func (.func 119) #[] #[]) m rfl
     have B:=ae ((Qs wr).alloc lr (T #[N I 5,.func (.func 119) #[] #[]] 168));have q:=ae (z.out.alloc z.out.size (T #[N I 5,.func (.func 119) #[] #[]] 168));have QQ:=ae (And.intro ((H.out.1.below g.out (by omega)).below B.out lr) ((H.out.2.below g.out (by omega)).below B.out lr));have C:=ae (g.out.alloc (by have:=g.out.size;omega) (T #[N I 5,.func (.func 119) #[] #[]] 168));have r:(wr.alloc (T #[N I 5,.func (.func 119) #[] #[]] 168)).cell? (J wr.heap.size 0 Z)=Q (N I 5):=by simp
     have y:wr.heap.size<(wr.alloc (T #[N I 5,.func (.func 119) #[] #[]] 168)).heap.size:=by simp
     go_wp2_with fail;clear f0 f1 f2 f3 f4 f5 g0 g1 g2 X QH aq bt S;generalize wr.alloc (T #[N I 5,.func (.func 119) #[] #[]] 168)=WX at B q QQ C r y ⊢;refine(AD s l n cap f k a0 b a1 d _ L.out A (QP.out.below q.out lr) QQ.out.1 QQ.out.2 (ex.out.below q.out QG) (M.out.below q.out lr)).mono ?_;rintro e w3 ⟨rfl,x⟩;have W3:=ae (q.out.trans (x.mono q.out.size));have C3:=ae (C.out.trans (x.mono (by have:=C.out.size;omega)));have cz:=(x.cell (p:=(J wr.heap.size 0 Z)) y).trans r;clear x r;cases hb:jb f k with
     | true =>
      have u:Hid (codeF f k=5):=by show _=_;rw[O.out];rw[a8 (by rw[HS.out (by omega)];simp),eT hb]
      have QM:Hid (R=(5,(k:Int))):=by show _=_;rw[HR.out,oG A QJ.out (by rw[u.out];decide),u.out]
      go_wp2;try rw[JB]
      go_ret2;exact⟨by simp[QM.out],W3.out⟩
     | false =>have QO:=ae hb;go_wp2;exact⟨⟨2,by omega,rfl,rfl,by go_num,fun _=>HS.out (by omega),fun _=>QO.out,C3.out⟩,by simp[intOf]⟩
    ·have u:Hid (codeF f k=0):=by show _=_;rw[O.out,a8 (by rw[HS.out (by omega)];simp),a8 (by rw[HN.out (by omega)];simp)]
     go_wp2
     exact⟨⟨k+1,by omega,rfl,rfl,by go_num,fun j hj=>by
      by_cases e:j=k
      ·subst e;exact u.out
      ·exact QJ.out j (by omega),QL.out⟩,by simp[intOf];omega⟩
  ·obtain rfl:k=n:=by omega
   have QM:Hid (R=(0,0)):=by show _=_;rw[HR.out];exact yu QJ.out
   go_wp2;try rw[JB]
   go_ret2;exact⟨by simp[QM.out],BW.out⟩
theorem ud (L:Option Addr)(B H:Nat)(G:Option Addr)(QO QP:Nat)(A b n cap:Nat)(f:Nat->aj)(p:Nat)(a0:Option Addr)(i:Nat)(a1:Option Addr)(j:Nat)(w:E)(g:aX f n=QC)(QJ:p<n)(o:RowDeed w A b n f)(X:SlIns w a0 (f p).actN (f p).act)(QN:SlLink w a1 (f p).linksN (f p).links)(y:Tab2 w)(m:Pow w):Calls Tryz.prog 118 #[QE #[Y (Q (J A b Z)) n cap,Y L B H,Y G QO QP],QE #[U (f p).name,N I (f p).kind,N I (f p).code,U (f p).text,Y a0 (f p).actN i,Y a1 (f p).linksN j]] w fun e w'=>e=QD (QA (fm f p))/\Below w.heap.size w w':=by
 obtain⟨r,M⟩:∃ r,r=fm f p:=⟨_,rfl⟩
 rw[<-M];have P:=ae (show r=if (f p).kind=3 then (!(aY f p (aN f p)).over || decide (aN f p<(f p).linksN)) else D from M);clear M;have l:=ae (((Qs w).alloc lr (T #[Y (Q (J A b Z)) n cap,Y L B H,Y G QO QP] 165)).alloc (by simp) (T #[U (f p).name,N I (f p).kind,N I (f p).code,U (f p).text,Y a0 (f p).actN i,Y a1 (f p).linksN j] 58));have QL:=ae o;have HI:=ae X;have R:=ae QN;have QG:=ae y;have O:=ae m;have QK:=y.1;clear o X QN y m;by_cases k:(f p).kind=3
 ·have u:valid (f p).act (f p).actN=QC:=by
   rcases(dZ g p QJ).2 with h | h | h
   ·omega
   ·omega
   ·exact h.2.2.2.1
  obtain⟨pb,po,rfl,C⟩:=gi HI.out u;have S:=ae C;have HK:=ae k;have z:Hid (r=(!(aY f p (aN f p)).over || decide (aN f p<(f p).linksN))):=by show _=_;rw[P.out,eT k]
  have QQ:=kF f p (f p).linksN 0;have K:Hid (aN f p<=(f p).linksN):=by show dO f p (f p).linksN 0<=_;omega
  have QM:=ae g;rw[k] at l;clear C u HI g QQ P;have s:=fun W (d:Below w.heap.size w W)=>iD A b n cap f p pb po i a1 j W QM.out QJ HK.out (QL.out.below d lr) (S.out.below d lr) (R.out.below d lr) (QG.out.below d QK) (O.out.below d lr);generalize aY f p (aN f p)=t at z s;generalize aN f p=q at z s K;rw[k] at s;have QH:=ae s;clear s;rw[k];go_enter Tryz.func118,Tryz.ntmps118;go_wp2_with fail;refine(QH.out _ l.out).mono ?_;rintro e w1 ⟨rfl,d⟩;have B1:=ae (l.out.trans (d.mono l.out.size));have x:=ae (B1.out.alloc B1.out.size (T #[QA t.over,N I t.code,U t.text,QA t.ask,U t.name,N I t.steps] 61));have QQ:=K.out;clear d;simp only[Turn.v];cases ho:t.over with
  | false =>
   obtain rfl:r=QC:=by rw[z.out,ho];rfl
   rw[ho] at x;go_wp2;go_ret;exact⟨rfl,x.out⟩
  | true =>
   rw[ho] at x;by_cases V:q<(f p).linksN
   ·obtain rfl:r=QC:=by rw[z.out,ho];simp[V]
    have hgt:(0:Int)<((f p).linksN:Int) - (q:Int):=by omega
    go_wp2;go_ret;exact⟨rfl,x.out⟩
   ·obtain rfl:r=D:=by rw[z.out,ho];simp[V]
    have hz:((f p).linksN:Int) - (q:Int)=0:=by omega
    rw[hz];go_wp2;go_ret;exact⟨rfl,x.out⟩
 ·obtain rfl:r=D:=by rw[P.out,a8 k]
  go_enter Tryz.func118,Tryz.ntmps118;go_wp2;go_ret;exact⟨rfl,l.out⟩
theorem yv (K:Option Addr)(C H:Nat)(G:Option Addr)(QO QP:Nat)(A d n cap:Nat)(f:Nat->aj)(p:Nat)(a0:Option Addr)(i:Nat)(a1:Option Addr)(j:Nat)(w:E)(g:aX f n=QC)(QJ:p<n)(s:RowDeed w A d n f)(V:SlIns w a0 (f p).actN (f p).act)(QN:SlLink w a1 (f p).linksN (f p).links)(y:Tab2 w)(o:Pow w):Calls Tryz.prog 119 #[QE #[Y (Q (J A d Z)) n cap,Y K C H,Y G QO QP],QE #[U (f p).name,N I (f p).kind,N I (f p).code,U (f p).text,Y a0 (f p).actN i,Y a1 (f p).linksN j]] w fun e w'=>e=QD (QA (jb f p))/\Below w.heap.size w w':=by
 obtain⟨r,L⟩:∃ r,r=jb f p:=⟨_,rfl⟩
 rw[<-L];have P:=ae (show r=if (f p).kind=3 then (!decide ((aY f p (aN f p)).code=(f p).code) || !((aY f p (aN f p)).text.toList == (f p).text.toList)) else D from L);clear L;have m:=ae (((Qs w).alloc lr (T #[Y (Q (J A d Z)) n cap,Y K C H,Y G QO QP] 165)).alloc (by simp) (T #[U (f p).name,N I (f p).kind,N I (f p).code,U (f p).text,Y a0 (f p).actN i,Y a1 (f p).linksN j] 58));have QL:=ae s;have QH:=ae V;have R:=ae QN;have X:=ae y;have O:=ae o;have QK:=y.1;clear s V QN y o;by_cases k:(f p).kind=3
 ·have x:valid (f p).act (f p).actN=QC:=by
   rcases(dZ g p QJ).2 with h | h | h
   ·omega
   ·omega
   ·exact h.2.2.2.1
  obtain⟨pb,po,rfl,QQ⟩:=gi QH.out x;have S:=ae QQ;have HK:=ae k;have z:Hid (r=(!decide ((aY f p (aN f p)).code=(f p).code) || !((aY f p (aN f p)).text.toList == (f p).text.toList))):=by show _=_;rw[P.out,eT k]
  have M:=ae g;rw[k] at m;clear QQ x QH g P;have u:=fun W (b:Below w.heap.size w W)=>iD A d n cap f p pb po i a1 j W M.out QJ HK.out (QL.out.below b lr) (S.out.below b lr) (R.out.below b lr) (X.out.below b QK) (O.out.below b lr);generalize aY f p (aN f p)=t at z u;generalize aN f p=q at z u;rw[k] at u;have QG:=ae u;clear u;rw[k];go_enter Tryz.func119,Tryz.ntmps119;go_wp2_with fail;refine(QG.out _ m.out).mono ?_;rintro e QM ⟨rfl,b⟩;have d2:QM.cell? (J (w.heap.size+1) 2 Z)=Q (N I (f p).code):=(b.cell (p:=(J (w.heap.size+1) 2 Z)) (by simp)).trans (by simp[go_sem]);have d3:QM.cell? (J (w.heap.size+1) 3 Z)=Q (U (f p).text):=(b.cell (p:=(J (w.heap.size+1) 3 Z)) (by simp)).trans (by simp[go_sem]);have hz1:w.heap.size+1<QM.heap.size:=by have:=b.size;simp at this;omega
  have l:=ae (m.out.trans (b.mono m.out.size));clear b;simp only[Turn.v];by_cases B:t.code=(f p).code
  ·cases ht:(t.text.toList == (f p).text.toList) with
   | true =>
    obtain rfl:r=D:=by rw[z.out];simp[B,ht]
    go_wp2;go_ret;exact⟨rfl,l.out.alloc l.out.size _⟩
   | false =>
    obtain rfl:r=QC:=by rw[z.out];simp[B,ht]
    go_wp2;go_ret;exact⟨rfl,l.out.alloc l.out.size _⟩
  ·obtain rfl:r=QC:=by rw[z.out];simp[B]
   have hc2:(t.code == (f p).code)=D:=by simpa using B
   go_wp2;go_ret;exact⟨rfl,l.out.alloc l.out.size _⟩
 ·obtain rfl:r=D:=by rw[P.out,a8 k]
  go_enter Tryz.func119,Tryz.ntmps119;go_wp2;go_ret;exact⟨rfl,m.out⟩
end Go.Proofs.YtkdimgejdocbbaaGreatDoor.Vp
