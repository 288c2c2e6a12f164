import Derived.Test.YtamacmnikdejeaaGreatDoorRN
import Derived.Deep.WholeRow
import Derived.Test.YtamacmnikdejeaaGreatDoorSL
import Derived.Deep.DeepCutAuto
set_option maxRecDepth 1000000
set_option maxHeartbeats 8000000
set_option linter.unusedSimpArgs false
open Go.Addr renaming mk->N
open Go.Value renaming slice->Y,string->U,int->J,bool->QC,agg->QG
open Option renaming none->Z,some->T
open Go.Obj renaming cells->Q
open Go.IntKind renaming i64->I
open Go renaming World->G,Value->QE
open Bool renaming false->QB,true->QD
open Go.Ending renaming returned->QF
namespace Go.Proofs.YtamacmnikdejeaaGreatDoor.Vp
open RowKit
theorem Ai (w b:G)(f:Array QE)(ty:TypeId)(QL:Obj)(j:Nat)(v:QE)(hz:b.heap.size=w.heap.size)(g:f[j]?=T v):((b.alloc (Q f ty)).alloc QL).cell? (N w.heap.size j Z)=T v:=by rw[<-hz,((a8 (b.alloc (Q f ty)).heap.size _).alloc ly QL).cell (p:=(N b.heap.size j Z)) (by simp)];simp[g]
def jQ (m:Mst)(c:Int):Turn:=⟨QD,c,m.t.name,QB,⟨#[]⟩,m.steps⟩
theorem yn {b:Nat}{f:QE}{m:Mst}{w:G}(hM:MAt w b f m)(x:Bool)(c:Int)(t:ByteArray):∃ W,(((((((w.setCell (N b 55 Z) (QC QB)).setCell (N b 56 Z) (J I 0)).setCell (N b 57 Z) (U ⟨#[]⟩)).setCell (N b 58 Z) (QC QB)).setCell (N b 59 Z) (U ⟨#[]⟩)).setCell (N b 60 Z) (J I 0)).alloc (Q #[QC x,J I c,U t] 156)).alloc (Q #[QC m.t.over,J I m.t.code,U m.t.text,QC m.t.ask,U m.t.name,J I m.t.steps] 150)=W/\MAt W b f { m with t:=cO }/\Only b w W/\W.cell? (N w.heap.size 0 Z)=T (QC x)/\W.cell? (N w.heap.size 1 Z)=T (J I c)/\W.cell? (N w.heap.size 2 Z)=T (U t)/\W.cell? (N (w.heap.size+1) 3 Z)=T (QC m.t.ask)/\W.cell? (N (w.heap.size+1) 4 Z)=T (U m.t.name)/\W.heap.size=w.heap.size+2 :=
 ⟨_,rfl,((hM.setTurn cO).al _).al _,((BV (Only.refl b w) cO).al _).al _,Ai w _ _ _ _ _ _ (by simp) rfl,Ai w _ _ _ _ _ _ (by simp) rfl,Ai w _ _ _ _ _ _ (by simp) rfl,jK _ _ _ _ _ _ (by simp) rfl,jK _ _ _ _ _ _ (by simp) rfl,by simp⟩
def me (m:Mst)(x:Bool)(c:Int)(t:ByteArray):Mst :=
 if m.t.ask=QB then { m with t:=cO,S:=upd m.S m.size (eh x),size:=m.size+1 } else if x=QB then { m with t:=jQ m 4 } else if (c == 0)=QB then { m with t:=jQ m 5 } else { m with t:=cO,S:=upd m.S m.size t,size:=m.size+1 }
theorem Aj {m u:Mst}{x:Bool}{c:Int}{t:ByteArray}(h:u=me m x c t):(m.t.ask=QB/\u={ m with t:=cO,S:=upd m.S m.size (eh x),size:=m.size+1 })∨(m.t.ask=QD/\x=QB/\u={ m with t:=jQ m 4 })∨(m.t.ask=QD/\x=QD/\(c == 0)=QB/\u={ m with t:=jQ m 5 })∨(m.t.ask=QD/\x=QD/\c=0/\u={ m with t:=cO,S:=upd m.S m.size t,size:=m.size+1 }):=by unfold me at h;cases ha:m.t.ask<;>cases x<;>cases hc:(c == 0)<;>simp_all
theorem iF (b:Nat)(j:QE)(m:Mst)(x:Bool)(c:Int)(t:ByteArray)(w:G)(hM:MAt w b j m)(E:m.size<50):Calls Tryz.prog 167 #[.pointer (T (N b 0 Z)),QG #[QC x,J I c,U t]] w fun e w'=>e=QF (.tuple #[])/\MAt w' b j (me m x c t)/\Only b w w':=by
 obtain⟨u,s⟩:∃ u,u=me m x c t:=⟨_,rfl⟩
 rw[<-s];have A:=ae (Aj s);clear s;have hlt:=hM.lt;obtain⟨⟨c5,QO⟩,⟨P,QP⟩,⟨M,K⟩,⟨H,QR⟩,⟨QN,O⟩,B,z⟩:=hM.turn;obtain⟨W,D,p,o,q0,q1,q2,L,p4,hz⟩:=yn hM x c t;have C:=ae D;have h:=ae p;have l:=ae o;clear hM D p o;go_enter Tryz.func167,Tryz.ntmps167;go_upto_region 4 with fail;rw[C.out];clear C c5 P M H QN B QO QP K QR O z;have hz0:w.heap.size<W.heap.size:=by omega
 have hz1:w.heap.size+1<W.heap.size:=by omega
 clear hz;rcases A.out with ⟨i,rfl⟩ | ⟨i,rfl,rfl⟩ | ⟨i,rfl,hc,rfl⟩ | ⟨i,rfl,rfl,rfl⟩
 all_goals
  rw[i] at L;clear A;go_wp2_with (go_at_call 192;refine(jV b j { m with t:=cO } _ _ _ h).mono ?_;rintro e r ⟨rfl,f,g⟩;have q:=ae f;have n:Hid (Only b w r):=l.trans g;clear f g)
  (try go_region_with (first | (go_at_call 191;refine(lU _ _).mono ?_;rintro e w1 ⟨rfl,y⟩;subst y) | (go_at_call 190;refine(pG b j { m with t:=cO } _ _ ?_ E).mono ?_;(first | exact h | exact h.drew | exact h.drew.drew);rintro e r ⟨rfl,f,g⟩;have q:=ae f;have n:Hid (Only b w r):=Only.trans (by repeat (first | exact l | apply Only.drew)) g;clear f g)))
  all_goals
   (try go_wp2)
   refine lO rfl rfl ?_;exact⟨rfl,q,n⟩
theorem wW (b:Nat)(f:QE)(m:Mst)(x:Bool)(c:Int)(t:ByteArray)(w:G)(hM:MAt w b f m)(i:m.t.ask=QB)(g:m.size<50):Calls Tryz.prog 167 #[.pointer (T (N b 0 Z)),QG #[QC x,J I c,U t]] w fun e w'=>e=QF (.tuple #[])/\MAt w' b f { m with t:=cO,S:=upd m.S m.size (eh x),size:=m.size+1 }/\Only b w w':=by have h:=iF b f m x c t w hM g;rwa[me,gM i] at h
theorem wX (b:Nat)(f:QE)(m:Mst)(t:ByteArray)(w:G)(hM:MAt w b f m)(i:m.t.ask=QD)(g:m.size<50):Calls Tryz.prog 167 #[.pointer (T (N b 0 Z)),QG #[QC QD,J I 0,U t]] w fun e w'=>e=QF (.tuple #[])/\MAt w' b f { m with t:=cO,S:=upd m.S m.size t,size:=m.size+1 }/\Only b w w':=by have h:=iF b f m QD 0 t w hM g;rwa[me,cM (by simp[i]),cM (by simp),cM (by simp)] at h
theorem pT (b:Nat)(f:QE)(m:Mst)(c:Int)(t:ByteArray)(w:G)(hM:MAt w b f m)(i:m.t.ask=QD)(g:m.size<50):Calls Tryz.prog 167 #[.pointer (T (N b 0 Z)),QG #[QC QB,J I c,U t]] w fun e w'=>e=QF (.tuple #[])/\MAt w' b f { m with t:=jQ m 4 }/\Only b w w':=by have h:=iF b f m QB c t w hM g;rwa[me,cM (by simp[i]),gM rfl] at h
theorem tj (b:Nat)(f:QE)(m:Mst)(c:Int)(t:ByteArray)(w:G)(hM:MAt w b f m)(j:m.t.ask=QD)(i:(c == 0)=QB)(g:m.size<50):Calls Tryz.prog 167 #[.pointer (T (N b 0 Z)),QG #[QC QD,J I c,U t]] w fun e w'=>e=QF (.tuple #[])/\MAt w' b f { m with t:=jQ m 5 }/\Only b w w':=by have h:=iF b f m QD c t w hM g;rwa[me,cM (by simp[j]),cM (by simp),gM i] at h
def m0:Mst:={ S:=fun _=>⟨#[]⟩,size:=0,place:=0,steps:=0,looks:=0,t:=cO }
def gO (b:QE):Array QE:=(Array.range 61).map (m0.F b)
theorem Ed (a:Option Addr)(n cap:Nat):Tryz.prog.built 253 [(1,Y a n cap)]=T (gO (Y a n cap)):=by kernel_rfl
theorem infoM:(Tryz.prog.info? 253).map (·.size)=T 61:=by kernel_rfl
theorem pa (b:QE):(gO b).size=61:=by simp[gO]
theorem Ak (b:QE)(j:Nat)(h:j<61):(gO b)[j]?=T (m0.F b j):=by simp[gO,h]
theorem yo (a:Option Addr)(n cap:Nat):(gO (Y a n cap)).all (·.oneCell')=QD:=by kernel_rfl
theorem Al (w:G)(a:Option Addr)(n cap:Nat):MAt (w.alloc (Q (gO (Y a n cap)) 253)) w.heap.size (Y a n cap) m0:=by
 refine⟨by simp,fun j b=>⟨?_,?_⟩⟩
 ·rw[World.cell?_alloc_new]
  exact Ak _ j b
 ·simp
theorem Am {P:Program}{f:Array Oper}{rest:List Oper}{o:Oper}{a:Act}{w:G}{QM:Exit->Act->G->Prop}(m:o.guard=Z)(t:TypeId)(b:Array (Nat × Operand))(j:o.op=.build t b)
  (l:List (Nat × QE)) (cells:Array QE) (g:(b.map fun(i,x)=>(i,a.eval x)).toList=l) (hb:P.built t l=T cells) (h:wpList P f QM rest (a.put o.dst (QG cells)) w):wpList P f QM (o :: rest) a w:=by
 refine wpList_build m t b j (by rw[g,hb];rfl) ?_;rw[g,hb];exact h
theorem Pow.lt {w:G}(h:Pow w):2<w.heap.size:=by
 have f:=KZ gPow h 0;rcases JK 2 w.heap.size with b | b
 ·exact b
 ·simp[World.cell?,JP b,Lib.pow10Tab] at f
theorem Sim.push {m:Mst}{p st l:Nat}{s:List ByteArray}(b:Sim m p st l s)(x:ByteArray)(f:x.size<=2000)(hl:s.length<50):Sim { m with t:=cO,S:=upd m.S m.size x,size:=m.size+1 } p st l (x :: s) :=
 ⟨by rw[b.size];exact b.rep.push x,by simp[b.size],by simp;omega,b.hpl,b.hst,b.hlk,fun z hz=>by
  rcases p6.1 hz with rfl | hz
  ·exact f
  ·exact b.le z hz,b.pl,b.st,b.lk⟩
theorem iG (b:Bool):(eh b).size<=2000:=by cases b<;>decide
def Six (w:G)(g:Nat):Prop:=g<w.heap.size/\∀ j,j<6->∃ v,w.cell? (N g j Z)=T v/\w.frozen? (N g j Z)=QB
theorem Six.below {w f:G}{g B:Nat}(h:Six w g)(b:Below B w f)(i:g<B):Six f g:=⟨lj h.1 b.size,fun j l=>by
 obtain⟨v,h1,h2⟩:=h.2 j l
 exact⟨v,(b.cell (p:=(N g j Z)) i).trans h1,(b.frozen (p:=(N g j Z)) i).trans h2⟩⟩
theorem Six.only {w i:G}{g b:Nat}(h:Six w g)(f:Only b w i)(l:g≠b):Six i g:=⟨lj h.1 f.size,fun j m=>by
 obtain⟨v,h1,h2⟩:=h.2 j m
 exact⟨v,(f.cell g j h.1 l).trans h1,(f.frozen g j h.1 l).trans h2⟩⟩
theorem j8 (w:G)(v0 v1 v2 v3 v4 v5:QE)(t:TypeId):Six (w.alloc (Q #[v0,v1,v2,v3,v4,v5] t)) w.heap.size:=⟨by simp,fun j hj=>by
 rcases(show j=0∨j=1∨j=2∨j=3∨j=4∨j=5 by omega) with rfl | rfl | rfl | rfl | rfl | rfl
 all_goals exact⟨_,by simp;rfl,by simp⟩⟩
theorem dY {B g:Nat}{u w:G}(h:Below B u w)(b:B<=g)(v0 v1 v2 v3 v4 v5:QE):Below B u ((((((w.setCell (N g 0 Z) v0).setCell (N g 1 Z) v1).setCell (N g 2 Z) v2).setCell (N g 3 Z) v3).setCell (N g 4 Z) v4).setCell (N g 5 Z) v5) :=
 (((((h.setCell b v0).setCell b v1).setCell b v2).setCell b v3).setCell b v4).setCell b v5
def Goes (f:Nat->Ins)(cnt:Nat)(m:Mst)(H:Halt):Prop:=(m.t=cO/\∃ p k l s,Sim m p k l s/\kL f cnt (2001 - k) p k l s=T H)∨fj m H
def badT:Turn:=⟨QB,9,⟨#[]⟩,QB,⟨#[]⟩,0⟩
def mN (f:Nat->Ins)(cnt:Nat)(y:Nat->aC)(n:Nat):Turn:=if valid f cnt=QB then badT else if 200<n then badT else if bO y n=QB then badT else bT f cnt y n 2001 0 0 0 []
def dk (f:Nat->ah)(l:Link):aC :=
 if l.ask=QD then
  (if (f l.at_.toNat).kind=1 then ⟨QD,0,(f l.at_.toNat).text⟩ else if (f l.at_.toNat).kind=3 then ⟨QD,(f l.at_.toNat).code,(f l.at_.toNat).text⟩ else ⟨QB,0,⟨#[]⟩⟩)
 else ⟨l.has,0,⟨#[]⟩⟩
def yOf (f:Nat->ah)(p:Nat)(k:Nat):aC:=dk f ((f p).links k)
def aU (f:Nat->ah)(p k:Nat):Turn:=bT (f p).act (f p).actN (yOf f p) k 2001 0 0 0 []
def bY (f:Nat->ah)(p k:Nat):Bool:=(aU f p k).over || !((aU f p k).name.toList == ((f p).links k).name.toList) || !((aU f p k).ask == ((f p).links k).ask)
def dG (f:Nat->ah)(p:Nat):Nat->Nat->Nat
 | 0,k=>k
 | j+1,k=>if bY f p k=QD then k else dG f p j (k+1)
def aN (f:Nat->ah)(p:Nat):Nat:=dG f p (f p).linksN 0
def fC (f:Nat->ah)(p:Nat):Int :=
 if aN f p<(f p).linksN then 4 else if (aU f p (aN f p)).over=QB then 4 else if (aU f p (aN f p)).code=(f p).code/\(aU f p (aN f p)).text.toList=(f p).text.toList then 0 else 5
def codeF (f:Nat->ah)(p:Nat):Int:=if (f p).kind=3 then fC f p else 0
def fc (f:Nat->ah):Nat->Int × Int
 | 0=>(0,0)
 | k+1=>if (fc f k).1=0 then (if codeF f k=0 then (0,0) else (codeF f k,(k:Int))) else fc f k
def fk (f:Nat->ah)(n:Nat):Int × Int:=if aK f n=QD then fc f n else (1,0)
theorem kO (f:Nat->ah)(p:Nat):∀ j k,k<=dG f p j k/\dG f p j k<=k+j
 | 0,k=>⟨j6 _,j6 _⟩
 | j+1,k=>by
  rw[dG];split
  ·omega
  ·have:=kO f p j (k+1)
   omega
theorem oe {f:Nat->ah}{p j k:Nat}(h:bY f p k=QB):dG f p (j+1) k=dG f p j (k+1):=by rw[dG,cM (by rw[h];simp)]
theorem je {f:Nat->ah}{p j k:Nat}(h:bY f p k=QD):dG f p (j+1) k=k:=by rw[dG,gM h]
theorem iH {f:Nat->ah}{n k:Nat}(hk:k<n)(g:∀ i,i<k->codeF f i=0)(h:codeF f k≠0):fc f n=(codeF f k,(k:Int)):=by
 have hz:∀ m,m<=k->fc f m=(0,0):=by
  intro m hm;induction m with
  | zero=>rfl
  | succ m b=>rw[fc,b (by omega),gM rfl,gM (g m (by omega))]
 induction n with
 | zero=>omega
 | succ n b =>
  rw[fc];by_cases e:k=n
  ·subst e
   rw[hz k ly,gM rfl,cM h]
  ·rw[b (by omega),cM h]
theorem qI {f:Nat->ah}{n:Nat}(b:∀ i,i<n->codeF f i=0):fc f n=(0,0):=by
 induction n with
 | zero=>rfl
 | succ m g=>rw[fc,g fun i hi=>b i (by omega),gM rfl,gM (b m (by omega))]
theorem cF {f:Nat->ah}{n:Nat}(h:aK f n=QD):∀ p,p<n->(f p).text.size<=2000/\((f p).kind=1/\(f p).code=0∨(f p).kind=2/\(f p).code=0/\(f p).text.size=0∨(f p).kind=3/\0<=(f p).code/\(f p).code<=5/\valid (f p).act (f p).actN=QD/\(f p).linksN<=200):=by
 intro p i;have h1:=dZ (eB h).2.2 p i;simp only[aW,j4,kindOk,j5] at h1;obtain⟨⟨_,g⟩,h2⟩:=h1;refine⟨g,?_⟩;split at h2
 ·rename_i b
  simp only[aS,j4,j5] at h2;exact .inl ⟨b,h2.1.1⟩
 ·split at h2
  ·rename_i b
   simp only[aS,j4,j5] at h2;exact .inr (.inl ⟨b,h2.1.1.1,h2.2⟩)
  ·split at h2
   ·rename_i b
    simp only[bQ,j4,j5] at h2;exact .inr (.inr ⟨b,h2.1.1.1.1,h2.1.1.1.2,h2.1.1.2,h2.1.2⟩)
   ·simp at h2
theorem pU {f:Nat->ah}{n:Nat}(h:aK f n=QD){l:Link}(b:l.ask=QD->l.at_.toNat<n):ce (dk f l)=QD:=by
 unfold dk ce;split
 ·rename_i g
  obtain⟨h1,h2⟩:=cF h _ (b g);split
  ·simp;omega
  ·split
   ·rename_i hk1 hk3
    rcases h2 with h2 | h2 | h2
    ·omega
    ·omega
    ·simp;omega
   ·exact JF ⟨DN _,by decide,by decide⟩
 ·exact JF ⟨DN _,NP _,show(0:Int)<=7 by decide⟩
theorem tk {y:Nat->aC}{k:Nat}(h:∀ i,i<k->ce (y i)=QD):bO y k=QD:=by
 induction k with
 | zero=>rfl
 | succ k b=>rw[bO,b fun i hi=>h i (by omega),h k (by omega)];rfl
theorem mf {f:Nat->ah}{n:Nat}(h:aK f n=QD){l:Link}(j:l.ask=QD)(i:l.at_.toNat<n):dk f l=⟨decide (¬ (f l.at_.toNat).kind=2),(f l.at_.toNat).code,(f l.at_.toNat).text⟩:=by
 obtain⟨h1,h2⟩:=cF h _ i;unfold dk;rw[gM j];rcases h2 with ⟨b,g⟩ | ⟨b,g,m⟩ | ⟨b,g⟩
 ·rw[gM b,b,g];rfl
 ·rw[cM (by omega),cM (by omega),b,g]
  have:(f l.at_.toNat).text=⟨#[]⟩:=NQ (KQ m);rw[this];rfl
 ·rw[cM (by omega),gM b,b];rfl
theorem og {f:Nat->Ins}{cnt:Nat}{m:Mst}{p st l:Nat}{s:List ByteArray}(g:m.t=cO)(b:Sim m p st l s):∃ H,Goes f cnt m H/\iR l H/\∀ y n,ez f cnt y n H=bT f cnt y n (2001 - st) p st l s:=by obtain⟨H,hH⟩:=ym f cnt (2001 - st) p st l s b.st (by have:=b.st;omega);exact⟨H,.inl ⟨g,p,st,l,s,b,hH⟩,(sX f cnt (fun _=>⟨QB,0,⟨#[]⟩⟩) 0 _ p st l s H b.st rfl hH).2,fun y n=>(sX f cnt y n _ p st l s H b.st rfl hH).1.symm⟩
theorem ux (b:Nat)(q:QE)(f:Nat->Ins)(cnt:Nat)(m:Mst)(a:Bool)(nm:ByteArray)(s:List ByteArray)(p st l:Nat)(r:aC)(w:G)(hM:MAt w b q m)(E:fj m (.inr (a,nm,s,p,st,l)))(hl:1<=l)(QP:r.text.size<=2000):Calls Tryz.prog 167 #[.pointer (T (N b 0 Z)),QG #[QC r.has,J I r.code,U r.text]] w fun e w'=>e=QF (.tuple #[])/\∃ H i,MAt w' b q H/\Goes f cnt H i/\iR l i/\(∀ y n,l<=n->y (l - 1)=r->ez f cnt y n (.inr (a,nm,s,p,st,l))=ez f cnt y n i)/\Only b w w':=by
 obtain⟨QR,u,hnm,A⟩:=E;have x:m.t.ask=a:=by rw[QR]
 have z:m.t.name=nm:=by rw[QR]
 have hz:m.size<50:=by rw[u.size];exact A
 cases a with
 | false =>refine(wW b q m r.has r.code r.text w hM x hz).mono ?_;rintro e w' ⟨rfl,g,j⟩;obtain⟨i,C,B,D⟩:=og (f:=f) (cnt:=cnt) (m:={ m with t:=cO,S:=upd m.S m.size (eh r.has),size:=m.size+1 }) rfl (u.push (eh r.has) (iG _) A);refine⟨rfl,_,i,g,C,B,fun y n hn h=>?_,j⟩;rw[D y n];simp only[ez,h];rw[cM (by omega),gM trivial]
 | true =>
  by_cases h1:r.has=QB
  ·rw[h1]
   refine(pT b q m r.code r.text w hM x hz).mono ?_;rintro e w' ⟨rfl,g,j⟩;refine⟨rfl,_,.inl (4,nm,st),g,.inr ?_,trivial,fun y n hn h=>?_,j⟩
   ·show jQ m 4=_
    simp only[jQ,z,u.hst]
   ·simp only[ez,h]
    rw[cM (by omega)];simp[h1]
  ·have o:r.has=QD:=by simpa using h1
   by_cases h2:r.code=0
   ·rw[o,h2]
    refine(wX b q m r.text w hM x hz).mono ?_;rintro e w' ⟨rfl,g,j⟩;obtain⟨i,C,B,D⟩:=og (f:=f) (cnt:=cnt) (m:={ m with t:=cO,S:=upd m.S m.size r.text,size:=m.size+1 }) rfl (u.push r.text QP A);refine⟨rfl,_,i,g,C,B,fun y n hn h=>?_,j⟩;rw[D y n];simp only[ez,h];rw[cM (by omega)];simp[o,h2]
   ·rw[o]
    refine(tj b q m r.code r.text w hM x (by simpa using h2) hz).mono ?_;rintro e w' ⟨rfl,g,j⟩;refine⟨rfl,_,.inl (5,nm,st),g,.inr ?_,trivial,fun y n hn h=>?_,j⟩
    ·show jQ m 5=_
     simp only[jQ,z,u.hst]
    ·simp only[ez,h]
     rw[cM (by omega)];simp[o,h2]
theorem yp (g f cnt cap:Nat)(w:G):Calls Tryz.prog 136 #[QG #[Y (T (N g f Z)) cnt cap]] w fun e w'=>∃ b,e=QF (.func (.func 166) #[] #[.pointer (T (N b 0 Z))])/\w.heap.size<=b/\MAt w' b (Y (T (N g f Z)) cnt cap) m0/\Below w.heap.size w w':=by
 have j:=ae ((q9 w).alloc ly (Q #[Y (T (N g f Z)) cnt cap] 43));have k0:(w.alloc (Q #[Y (T (N g f Z)) cnt cap] 43)).cell? (N w.heap.size 0 Z)=T (Y (T (N g f Z)) cnt cap):=by simp
 have z0:(w.alloc (Q #[Y (T (N g f Z)) cnt cap] 43)).heap.size=w.heap.size+1:=by simp
 have h:=ae (Al (w.alloc (Q #[Y (T (N g f Z)) cnt cap] 43)) (T (N g f Z)) cnt cap);have i:=ae (by have:=h.out;rw[z0] at this;exact this);have l:=ae (j.alloc j.size (Q (gO (Y (T (N g f Z)) cnt cap)) 253));go_enter Tryz.func136,Tryz.ntmps136
 go_wp2_with (first
  | (refine Am rfl 253 #[(1,.tmp 5)] rfl [(1,Y (T (N g f Z)) cnt cap)] (gO (Y (T (N g f Z)) cnt cap)) (by simp[Act.eval]) (Ed _ _ _) ?_)
  | (refine wpList_store_row rfl 253 (.tmp 3) (.tmp 6) rfl (w.heap.size+1) (gO (Y (T (N g f Z)) cnt cap)) rfl rfl _ _ (by rw[<-z0];exact heap_alloc_last _ _) (infoM.trans (by rw[pa])) (by rw[pa];rfl) (yo _ _ _) ?_;rw[<-z0,World.setRow_alloc_new])
  | fail)
 go_ret;exact⟨_,rfl,by first | (simp;done) | (simp;omega),i,l⟩
theorem wY (b p o cnt cap:Nat)(f:Nat->Ins)(m:Mst)(H:Halt)(r:aC)(w:G)(hM:MAt w b (Y (T (N p o Z)) cnt cap) m)(B:Env w b p o cnt f)(hn:m.t.name=⟨#[]⟩)(W:cnt<=200)(E:cQ f cnt=QD)(K:Goes f cnt m H):Calls Tryz.prog 166 #[QG #[QC r.has,J I r.code,U r.text],.pointer (T (N b 0 Z))] w fun e w'=>∃ y,e=QF y.t.v/\MAt w' b (Y (T (N p o Z)) cnt cap) y/\fj y H/\Only b w w':=by
 have QR:=hM.lt;have j:=ae ((hM.al (Q #[QC r.has,J I r.code,U r.text] 156)).al (Q #[QC QB,J I 0,U ⟨#[]⟩,QC QB,U ⟨#[]⟩,J I 0] 150));have l:=ae (((Only.refl b w).al (Q #[QC r.has,J I r.code,U r.text] 156)).al (Q #[QC QB,J I 0,U ⟨#[]⟩,QC QB,U ⟨#[]⟩,J I 0] 150));have n:=j8 (w.alloc (Q #[QC r.has,J I r.code,U r.text] 156)) (QC QB) (J I 0) (U ⟨#[]⟩) (QC QB) (U ⟨#[]⟩) (J I 0) 150;rw[show(w.alloc (Q #[QC r.has,J I r.code,U r.text] 156)).heap.size=w.heap.size+1 by simp] at n;have QO:=ae n;have HE:=ae B;have QM:=ae K;obtain⟨⟨c5,QL⟩,⟨c6,R⟩,⟨QJ,X⟩,⟨O,M⟩,⟨QP,z9⟩,D,C⟩:=j.turn;rw[hn] at QP;clear hM B K n c5 QL c6 R QJ X O M z9 D C;go_enter Tryz.func166,Tryz.ntmps166;go_wp2_with fail;clear QP;generalize ((w.alloc (Q #[QC r.has,J I r.code,U r.text] 156)).alloc (Q #[QC QB,J I 0,U ⟨#[]⟩,QC QB,U ⟨#[]⟩,J I 0] 150))=W0 at j l QO ⊢;have hb0:b<W0.heap.size:=j.lt;refine(vg b p o cnt cap f m H _ j (HE.only QR l) W E QM).mono ?_;rintro e w3 ⟨g,rfl,s,q,x⟩;have u:=ae x;clear x;have i:=ae (QO.only u (by omega));have hx3:w.heap.size+1<w3.heap.size:=i.1;have z:=ae s;have L:=ae q;have A:=ae (l.trans u);clear s q;obtain⟨v0,QH,y0⟩:=i.2 0 (by omega);obtain⟨v1,q1,y1⟩:=i.2 1 (by omega);obtain⟨v2,q2,y2⟩:=i.2 2 (by omega);obtain⟨v3,QN,y3⟩:=i.2 3 (by omega);obtain⟨v4,P,y4⟩:=i.2 4 (by omega);obtain⟨v5,QK,y5⟩:=i.2 5 (by omega);have h:w.heap.size+1≠b:=by omega
 have S:=ae ((((((z.other (w.heap.size+1) 0 (QC g.t.over) h).other (w.heap.size+1) 1 (J I g.t.code) h).other (w.heap.size+1) 2 (U g.t.text) h).other (w.heap.size+1) 3 (QC g.t.ask) h).other (w.heap.size+1) 4 (U g.t.name) h).other (w.heap.size+1) 5 (J I g.t.steps) h);have V:=ae ((((((A.setNew (w.heap.size+1) 0 (QC g.t.over) (by omega)).setNew (w.heap.size+1) 1 (J I g.t.code) (by omega)).setNew (w.heap.size+1) 2 (U g.t.text) (by omega)).setNew (w.heap.size+1) 3 (QC g.t.ask) (by omega)).setNew (w.heap.size+1) 4 (U g.t.name) (by omega)).setNew (w.heap.size+1) 5 (J I g.t.steps) (by omega));simp only[Turn.v];go_wp2;exact bp (v:=g.t.v) (by simp[results,Tryz.results166,go_sem,Turn.v,QH,q1,q2,QN,P,QK]) rfl ⟨g,rfl,S,L,V⟩
theorem qJ (b x u cnt cap:Nat)(f:Nat->Ins)(m:Mst)(a:Bool)(nm:ByteArray)(s:List ByteArray)(p st l:Nat)(r:aC)(w:G)(hM:MAt w b (Y (T (N x u Z)) cnt cap) m)(hE:Env w b x u cnt f)(B:fj m (.inr (a,nm,s,p,st,l)))(hl:1<=l)(hr:r.text.size<=2000)(hc:cnt<=200)(aq:cQ f cnt=QD):Calls Tryz.prog 166 #[QG #[QC r.has,J I r.code,U r.text],.pointer (T (N b 0 Z))] w fun e w'=>∃ O q,e=QF O.t.v/\MAt w' b (Y (T (N x u Z)) cnt cap) O/\fj O q/\iR l q/\(∀ y n,l<=n->y (l - 1)=r->ez f cnt y n (.inr (a,nm,s,p,st,l))=ez f cnt y n q)/\Only b w w':=by
 have S:=hM.lt;have o:=ae ((hM.al (Q #[QC r.has,J I r.code,U r.text] 156)).al (Q #[QC QB,J I 0,U ⟨#[]⟩,QC QB,U ⟨#[]⟩,J I 0] 150));have z:=ae (((Only.refl b w).al (Q #[QC r.has,J I r.code,U r.text] 156)).al (Q #[QC QB,J I 0,U ⟨#[]⟩,QC QB,U ⟨#[]⟩,J I 0] 150));have A:=j8 (w.alloc (Q #[QC r.has,J I r.code,U r.text] 156)) (QC QB) (J I 0) (U ⟨#[]⟩) (QC QB) (U ⟨#[]⟩) (J I 0) 150;rw[show(w.alloc (Q #[QC r.has,J I r.code,U r.text] 156)).heap.size=w.heap.size+1 by simp] at A;have X0:=ae A;have HE:=ae hE;have HS:=ae B;have QN:m.t.name=nm:=by have:=B.1;rw[this]
 have i:nm.toList.isEmpty=QB:=by
  have hn:=B.2.2.1;have h0:¬ nm.size=0:=by simp only[au,j4,j5] at hn;omega
  have:=lM h0;cases h:nm.toList with
  | nil=>exact absurd h this
  | cons _ _=>rfl
 obtain⟨⟨c5,z5⟩,⟨c6,z6⟩,⟨c7,z7⟩,⟨c8,z8⟩,⟨QK,z9⟩,R,QH⟩:=o.turn;rw[QN] at QK;clear hM hE B A QN c5 z5 c6 z6 c7 z7 c8 z8 z9 R QH;go_enter Tryz.func166,Tryz.ntmps166;go_wp2_with fail;clear QK i;generalize ((w.alloc (Q #[QC r.has,J I r.code,U r.text] 156)).alloc (Q #[QC QB,J I 0,U ⟨#[]⟩,QC QB,U ⟨#[]⟩,J I 0] 150))=W0 at o z X0 ⊢;have hb0:b<W0.heap.size:=o.lt;refine(ux b (Y (T (N x u Z)) cnt cap) f cnt m a nm s p st l r _ o HS hl hr).mono ?_;rintro e w1 ⟨rfl,m1,q,QO,H,D,C,QP⟩;have V:=ae QO;have QL:=ae H;have W:=ae D;have P:=ae C;have M:=ae QP;clear QO H D C QP;go_wp2_with fail;refine(vg b x u cnt cap f m1 q _ V (HE.only S (z.trans M)) hc aq QL).mono ?_;rintro e w3 ⟨g,rfl,L,K,E⟩;have QR:=ae (M.trans E);clear E;have j:=ae (X0.only QR (by omega));have hx3:w.heap.size+1<w3.heap.size:=j.1;have X:=ae L;have QJ:=ae K;have QM:=ae (z.trans QR);clear L K;obtain⟨v0,q0,y0⟩:=j.2 0 (by omega);obtain⟨v1,q1,y1⟩:=j.2 1 (by omega);obtain⟨v2,q2,y2⟩:=j.2 2 (by omega);obtain⟨v3,q3,y3⟩:=j.2 3 (by omega);obtain⟨v4,q4,y4⟩:=j.2 4 (by omega);obtain⟨v5,q5,y5⟩:=j.2 5 (by omega);have i:w.heap.size+1≠b:=by omega
 have MM:=ae ((((((X.other (w.heap.size+1) 0 (QC g.t.over) i).other (w.heap.size+1) 1 (J I g.t.code) i).other (w.heap.size+1) 2 (U g.t.text) i).other (w.heap.size+1) 3 (QC g.t.ask) i).other (w.heap.size+1) 4 (U g.t.name) i).other (w.heap.size+1) 5 (J I g.t.steps) i);have OO:=ae ((((((QM.setNew (w.heap.size+1) 0 (QC g.t.over) (by omega)).setNew (w.heap.size+1) 1 (J I g.t.code) (by omega)).setNew (w.heap.size+1) 2 (U g.t.text) (by omega)).setNew (w.heap.size+1) 3 (QC g.t.ask) (by omega)).setNew (w.heap.size+1) 4 (U g.t.name) (by omega)).setNew (w.heap.size+1) 5 (J I g.t.steps) (by omega));simp only[Turn.v];go_wp2;exact bp (v:=g.t.v) (by simp[results,Tryz.results166,go_sem,Turn.v,q0,q1,q2,q3,q4,q5]) rfl ⟨g,q,rfl,MM,QJ,W,P,OO⟩
theorem uy {f:Nat->Ins}{cnt i:Nat}{y:Nat->aC}{m:Mst}{H:Halt}(b:fj m H)(hL:iR i H):ez f cnt y i H=m.t:=by
 rcases H with ⟨c,x,k⟩ | ⟨a,nm,s,p,k,l⟩
 ·exact(show m.t=⟨QD,c,x,QB,⟨#[]⟩,k⟩ from b).symm
 ·have g:l=i+1:=hL
  subst g;simp only[ez,JW];rw[gM ly ];exact b.1.symm
theorem ng {m:Mst}{H:Halt}(f:fj m H)(b:m.t.over=QB):∃ a nm s p k l,H=.inr (a,nm,s,p,k,l):=by
 rcases H with ⟨c,x,k⟩ | ⟨a,nm,s,p,k,l⟩
 ·have:m.t=⟨QD,c,x,QB,⟨#[]⟩,k⟩:=f
  rw[this] at b;simp at b
 ·exact⟨a,nm,s,p,k,l,rfl⟩
def TurnBox (w:G)(g:Nat)(t:Turn):Prop:=g<w.heap.size/\(w.cell? (N g 0 Z)=T (QC t.over)/\w.cell? (N g 1 Z)=T (J I t.code)/\w.cell? (N g 2 Z)=T (U t.text)/\w.cell? (N g 3 Z)=T (QC t.ask)/\w.cell? (N g 4 Z)=T (U t.name)/\w.cell? (N g 5 Z)=T (J I t.steps))/\∀ j,w.frozen? (N g j Z)=QB
theorem TurnBox.below {w w':G}{g B:Nat}{t:Turn}(h:TurnBox w g t)(hb:Below B w w')(b:g<B):TurnBox w' g t:=by obtain⟨h1,⟨c0,c1,c2,c3,c4,c5⟩,hz⟩:=h;exact⟨lj h1 hb.size,⟨(hb.cell (p:=(N g _ Z)) b).trans c0,(hb.cell (p:=(N g _ Z)) b).trans c1,(hb.cell (p:=(N g _ Z)) b).trans c2,(hb.cell (p:=(N g _ Z)) b).trans c3,(hb.cell (p:=(N g _ Z)) b).trans c4,(hb.cell (p:=(N g _ Z)) b).trans c5⟩,fun j=>(hb.frozen (p:=(N g j Z)) b).trans (hz j)⟩
theorem TurnBox.only {w w':G}{g b:Nat}{t:Turn}(h:TurnBox w g t)(f:Only b w w')(i:g≠b):TurnBox w' g t:=by obtain⟨h1,⟨c0,c1,c2,c3,c4,c5⟩,hz⟩:=h;exact⟨lj h1 f.size,⟨(f.cell g _ h1 i).trans c0,(f.cell g _ h1 i).trans c1,(f.cell g _ h1 i).trans c2,(f.cell g _ h1 i).trans c3,(f.cell g _ h1 i).trans c4,(f.cell g _ h1 i).trans c5⟩,fun j=>(f.frozen g j h1 i).trans (hz j)⟩
theorem An (w:G)(t:Turn)(ty:TypeId):TurnBox (w.alloc (Q #[QC t.over,J I t.code,U t.text,QC t.ask,U t.name,J I t.steps] ty)) w.heap.size t :=
 ⟨by simp,⟨by simp,by simp,by simp,by simp,by simp,by simp⟩,fun j=>by simp⟩
def iS (w:G)(g:Nat)(t:Turn):G:=(((((w.setCell (N g 0 Z) (QC t.over)).setCell (N g 1 Z) (J I t.code)).setCell (N g 2 Z) (U t.text)).setCell (N g 3 Z) (QC t.ask)).setCell (N g 4 Z) (U t.name)).setCell (N g 5 Z) (J I t.steps)
theorem vi {w:G}{g:Nat}{u:Turn}(t:Turn)(h:TurnBox w g u):TurnBox (iS w g t) g t:=by obtain⟨h1,⟨c0,c1,c2,c3,c4,c5⟩,hz⟩:=h;refine⟨by simpa[iS] using h1,⟨?_,?_,?_,?_,?_,?_⟩,fun j=>by simpa[iS] using hz j⟩;all_goals simp[iS,go_sem,c0,c1,c2,c3,c4,c5]
theorem tm {w:G}{g:Nat}(t:Turn):Only g w (iS w g t):=ci (ci (ci (ci (ci (ci (Only.refl g w) 0 _) 1 _) 2 _) 3 _) 4 _) 5 _
theorem MAt.boxed {w:G}{b:Nat}{i:QE}{m:Mst}(h:MAt w b i m){g:Nat}(f:g≠b)(t:Turn):MAt (iS w g t) b i m :=
 (((((h.other g 0 (QC t.over) f).other g 1 (J I t.code) f).other g 2 (U t.text) f).other g 3 (QC t.ask) f).other g 4 (U t.name) f).other g 5 (J I t.steps) f
abbrev dP (at_:Int)(sv:QE)(st lk:Int)(b:Bool)(c:Int)(x:ByteArray)(ask:Bool)(nm:ByteArray)(f:Bool):QE :=
 QG #[J I at_,sv,J I st,J I lk,QC b,J I c,U x,QC ask,U nm,QC f]
theorem dH {B g:Nat}{u w:G}(h:Below B u w)(b:B<=g)(v0 v1 v2 v3 v4 v5 v6 v7 v8 v9:QE):Below B u ((((((((((w.setCell (N g 0 Z) v0).setCell (N g 1 Z) v1).setCell (N g 2 Z) v2).setCell (N g 3 Z) v3).setCell (N g 4 Z) v4).setCell (N g 5 Z) v5).setCell (N g 6 Z) v6).setCell (N g 7 Z) v7).setCell (N g 8 Z) v8).setCell (N g 9 Z) v9) :=
 (((((((((h.setCell b v0).setCell b v1).setCell b v2).setCell b v3).setCell b v4).setCell b v5).setCell b v6).setCell b v7).setCell b v8).setCell b v9
theorem fl (at_:Int)(a:Option Addr)(n cap:Nat)(st lk:Int)(f:Bool)(c0:Int)(g:ByteArray)(ask:Bool)(nm:ByteArray)(b:Bool)(c:Int)(x:ByteArray)(w:G):Calls Tryz.prog 173 #[dP at_ (Y a n cap) st lk f c0 g ask nm b,J I c,U x] w fun e w'=>e=QF (dP at_ (Y a n cap) st lk QD c x ask nm b)/\Below w.heap.size w w':=by go_enter Tryz.func173,Tryz.ntmps173;go_wp2;refine bp (v:=dP at_ (Y a n cap) st lk QD c x ask nm b) (by simp[results,Tryz.results173,go_sem]) rfl ⟨rfl,(br.alloc ly _).alloc (by simp) _⟩
theorem uA (op:Nat)(w:G)(h1:1<=op)(h15:op<=15):Calls Tryz.prog 174 #[J I op] w fun e w'=>e=QF (.tuple #[J I (aT op),J I (bF op)])/\w'=w:=by
 rcases(show op=1∨op=2∨op=3∨op=4∨op=5∨op=6∨op=7∨op=8∨op=9∨op=10∨op=11∨op=12∨op=13∨op=14∨op=15 by omega) with rfl | rfl | rfl | rfl | rfl | rfl | rfl | rfl | rfl | rfl | rfl | rfl | rfl | rfl | rfl;all_goals
  go_enter Tryz.func174,Tryz.ntmps174;go_wp2;refine bp (v:=.tuple #[J I (aT _),J I (bF _)]) (by simp[results,Tryz.results174,go_sem,aT,bF]) rfl ⟨rfl,rfl⟩
def bU (op n:Nat)(t a b:ByteArray):List ByteArray :=
 match op with
 | 1=>[t]
 | 2=>[b++a]
 | 3=>[if n<a.size then a.extract 0 n else a]
 | 4=>[if n<a.size then a.extract n a.size else ⟨#[]⟩]
 | 5=>[fB a n]
 | 6=>[eh (a.toList == b.toList)]
 | 7=>[a,a]
 | 8=>[a,b]
 | _=>[]
theorem mg (w:G)(x:ByteArray)(g:Nat)(b:g=w.heap.size):RowStr (w.alloc (Q #[U x] 9)) g 0 1 (fun i=>[x].getD i ⟨#[]⟩):=by
 subst b
 exact⟨by simp,fun i hi=>by
  obtain rfl:i=0:=by omega
  simp⟩
theorem Ee (w:G)(x y:ByteArray)(g:Nat)(b:g=w.heap.size):RowStr (w.alloc (Q #[U x,U y] 9)) g 0 2 (fun i=>[x,y].getD i ⟨#[]⟩):=by subst b;exact⟨by simp,fun i hi=>by rcases(show i=0∨i=1 by omega) with rfl | rfl<;>simp⟩
theorem uB (op n:Nat)(t a b:ByteArray)(w:G)(h1:1<=op)(h8:op<=8)(m:a.size<=2000)(hb:b.size<=2000)(hn:n<=2000):Calls Tryz.prog 176 #[QG #[J I op,U t,J I n],U a,U b] w fun e w'=>∃ g,e=QF (Y (T (N g 0 Z)) (bU op n t a b).length (bU op n t a b).length)/\RowStr w' g 0 (bU op n t a b).length (fun i=>(bU op n t a b).getD i ⟨#[]⟩)/\w.heap.size<=g/\Below w.heap.size w w':=by
 have f:=ae ((q9 w).alloc ly (Q #[J I op,U t,J I n] 146));rcases(show op=1∨op=2∨op=3∨op=4∨op=5∨op=6∨op=7∨op=8 by omega) with rfl | rfl | rfl | rfl | rfl | rfl | rfl | rfl
 ·go_enter Tryz.func176,Tryz.ntmps176
  go_wp2;go_ret;exact⟨_,rfl,mg _ t _ (by simp),by simp,f.alloc (by simp) _⟩
 ·go_enter Tryz.func176,Tryz.ntmps176
  go_wp2;go_ret;exact⟨_,rfl,mg _ (b++a) _ (by simp),by simp,f.alloc (by simp) _⟩
 ·by_cases h:(n:Int)<a.size
  ·have e:bU 3 n t a b=[a.extract 0 n]:=by simp[bU];omega
   rw[e];clear e;go_enter Tryz.func176,Tryz.ntmps176;go_wp2;go_ret;exact⟨_,rfl,mg _ _ _ (by simp),by simp,f.alloc (by simp) _⟩
  ·have e:bU 3 n t a b=[a]:=by simp[bU];omega
   rw[e];clear e;go_enter Tryz.func176,Tryz.ntmps176;go_wp2;go_ret;exact⟨_,rfl,mg _ _ _ (by simp),by simp,f.alloc (by simp) _⟩
 ·by_cases h:(n:Int)<a.size
  ·have e:bU 4 n t a b=[a.extract n a.size]:=by simp[bU];omega
   rw[e];clear e;go_enter Tryz.func176,Tryz.ntmps176;go_wp2;go_ret;exact⟨_,rfl,mg _ _ _ (by simp),by simp,f.alloc (by simp) _⟩
  ·have e:bU 4 n t a b=[⟨#[]⟩]:=by simp[bU];omega
   rw[e];clear e;go_enter Tryz.func176,Tryz.ntmps176;go_wp2;go_ret;exact⟨_,rfl,mg _ _ _ (by simp),by simp,f.alloc (by simp) _⟩
 ·go_enter Tryz.func176,Tryz.ntmps176
  go_wp2_with fail;refine(us a n _ m hn).mono ?_;rintro e o ⟨rfl,j⟩;have l:=ae (f.trans (j.mono (by simp)));clear j;go_wp2;go_ret;exact⟨_,rfl,mg _ (fB a n) _ rfl,l.size,l.alloc l.size _⟩
 ·go_enter Tryz.func176,Tryz.ntmps176
  go_wp2_with fail;refine(oV _ _).mono ?_;rintro e o ⟨rfl,rfl⟩;go_wp2;go_ret;exact⟨_,rfl,mg _ (eh (a.toList == b.toList)) _ (by simp),by simp,f.alloc (by simp) _⟩
 ·go_enter Tryz.func176,Tryz.ntmps176
  go_wp2;go_ret;exact⟨_,rfl,Ee _ a a _ (by simp),by simp,f.alloc (by simp) _⟩
 ·go_enter Tryz.func176,Tryz.ntmps176
  go_wp2;go_ret;exact⟨_,rfl,Ee _ a b _ (by simp),by simp,f.alloc (by simp) _⟩
def Ten (w:G)(g:Nat)(v0 v1 v2 v3 v4 v5 v6 v7 v8 v9:QE):Prop:=g<w.heap.size/\(w.cell? (N g 0 Z)=T v0/\w.frozen? (N g 0 Z)=QB)/\(w.cell? (N g 1 Z)=T v1/\w.frozen? (N g 1 Z)=QB)/\(w.cell? (N g 2 Z)=T v2/\w.frozen? (N g 2 Z)=QB)/\(w.cell? (N g 3 Z)=T v3/\w.frozen? (N g 3 Z)=QB)/\(w.cell? (N g 4 Z)=T v4/\w.frozen? (N g 4 Z)=QB)/\(w.cell? (N g 5 Z)=T v5/\w.frozen? (N g 5 Z)=QB)/\(w.cell? (N g 6 Z)=T v6/\w.frozen? (N g 6 Z)=QB)/\(w.cell? (N g 7 Z)=T v7/\w.frozen? (N g 7 Z)=QB)/\(w.cell? (N g 8 Z)=T v8/\w.frozen? (N g 8 Z)=QB)/\(w.cell? (N g 9 Z)=T v9/\w.frozen? (N g 9 Z)=QB)
section
variable {w w':G}{g:Nat}{v0 v1 v2 v3 v4 v5 v6 v7 v8 v9:QE}
theorem Ten.of_block (h:Ten w g v0 v1 v2 v3 v4 v5 v6 v7 v8 v9)(hz:w.heap.size<=w'.heap.size)(hb:w'.heap[g]?=w.heap[g]?):Ten w' g v0 v1 v2 v3 v4 v5 v6 v7 v8 v9:=by have f:∀ o,w'.cell? (N g o Z)=w.cell? (N g o Z):=fun o=>cq (a:=(N g o Z)) hb;have b:∀ o,w'.frozen? (N g o Z)=w.frozen? (N g o Z):=fun o=>IQ (a:=(N g o Z)) hb;unfold Ten at h ⊢;simp only[f,b];exact⟨lj h.1 hz,h.2⟩
theorem Ten.below {B:Nat}(h:Ten w g v0 v1 v2 v3 v4 v5 v6 v7 v8 v9)(hb:Below B w w')(b:g<B):Ten w' g v0 v1 v2 v3 v4 v5 v6 v7 v8 v9:=h.of_block hb.size (hb.block g b)
theorem Ten.grown {row:Option Nat}(h:Ten w g v0 v1 v2 v3 v4 v5 v6 v7 v8 v9)(hb:w.grownBy w' row)(b:T g≠row):Ten w' g v0 v1 v2 v3 v4 v5 v6 v7 v8 v9:=h.of_block hb.size (hb.block g h.1 b)
theorem Ten.al (h:Ten w g v0 v1 v2 v3 v4 v5 v6 v7 v8 v9)(o:Obj):Ten (w.alloc o) g v0 v1 v2 v3 v4 v5 v6 v7 v8 v9:=h.below ((q9 w).alloc ly o) h.1
theorem Ten.other (h:Ten w g v0 v1 v2 v3 v4 v5 v6 v7 v8 v9)(p:Addr)(u:QE)(b:p.block≠g):Ten (w.setCell p u) g v0 v1 v2 v3 v4 v5 v6 v7 v8 v9:=h.of_block (by simp) (qh w p u g (fun e=>b e.symm))
end
theorem j9 (w:G)(v0 v1 v2 v3 v4 v5 v6 v7 v8 v9:QE)(t:TypeId)(g:Nat)(b:g=w.heap.size):Ten (w.alloc (Q #[v0,v1,v2,v3,v4,v5,v6,v7,v8,v9] t)) g v0 v1 v2 v3 v4 v5 v6 v7 v8 v9:=by subst b;simp[Ten]
section
variable {w:G}{g:Nat}{v0 v1 v2 v3 v4 v5 v6 v7 v8 v9:QE}
theorem Ten.sets (h:Ten w g v0 v1 v2 v3 v4 v5 v6 v7 v8 v9)(u:QE):Ten (w.setCell (N g 0 Z) u) g u v1 v2 v3 v4 v5 v6 v7 v8 v9/\Ten (w.setCell (N g 1 Z) u) g v0 u v2 v3 v4 v5 v6 v7 v8 v9/\Ten (w.setCell (N g 2 Z) u) g v0 v1 u v3 v4 v5 v6 v7 v8 v9/\Ten (w.setCell (N g 3 Z) u) g v0 v1 v2 u v4 v5 v6 v7 v8 v9/\Ten (w.setCell (N g 4 Z) u) g v0 v1 v2 v3 u v5 v6 v7 v8 v9/\Ten (w.setCell (N g 5 Z) u) g v0 v1 v2 v3 v4 u v6 v7 v8 v9/\Ten (w.setCell (N g 6 Z) u) g v0 v1 v2 v3 v4 v5 u v7 v8 v9/\Ten (w.setCell (N g 7 Z) u) g v0 v1 v2 v3 v4 v5 v6 u v8 v9/\Ten (w.setCell (N g 8 Z) u) g v0 v1 v2 v3 v4 v5 v6 v7 u v9/\Ten (w.setCell (N g 9 Z) u) g v0 v1 v2 v3 v4 v5 v6 v7 v8 u:=by have o:∀ i j:Nat,i≠j->(w.setCell (N g i Z) u).cell? (N g j Z)=w.cell? (N g j Z):=fun i j hij=>sq _ _ _ _ (by simp);have s:∀ i v,w.cell? (N g i Z)=T v->(w.setCell (N g i Z) u).cell? (N g i Z)=T u:=fun i v e=>AI _ _ _ (by rw[e];rfl);obtain⟨A,⟨p,QO⟩,⟨n,H⟩,⟨q,y⟩,⟨r,C⟩,⟨m,D⟩,⟨x,QR⟩,⟨f,E⟩,⟨t,B⟩,⟨b,z⟩,l,QP⟩:=h;simp[Ten,o,A,s _ _ p,s _ _ n,s _ _ q,s _ _ r,s _ _ m,s _ _ x,s _ _ f,s _ _ t,s _ _ b,s _ _ l,p,n,q,r,m,x,f,t,b,l,QO,H,y,C,D,QR,E,B,z,QP]
theorem Ten.set0 (h:Ten w g v0 v1 v2 v3 v4 v5 v6 v7 v8 v9)(u:QE):Ten (w.setCell (N g 0 Z) u) g u v1 v2 v3 v4 v5 v6 v7 v8 v9:=(h.sets u).1
theorem Ten.set1 (h:Ten w g v0 v1 v2 v3 v4 v5 v6 v7 v8 v9)(u:QE):Ten (w.setCell (N g 1 Z) u) g v0 u v2 v3 v4 v5 v6 v7 v8 v9:=(h.sets u).2.1
theorem Ten.set2 (h:Ten w g v0 v1 v2 v3 v4 v5 v6 v7 v8 v9)(u:QE):Ten (w.setCell (N g 2 Z) u) g v0 v1 u v3 v4 v5 v6 v7 v8 v9:=(h.sets u).2.2.1
theorem Ten.set3 (h:Ten w g v0 v1 v2 v3 v4 v5 v6 v7 v8 v9)(u:QE):Ten (w.setCell (N g 3 Z) u) g v0 v1 v2 u v4 v5 v6 v7 v8 v9:=(h.sets u).2.2.2.1
theorem Ten.set4 (h:Ten w g v0 v1 v2 v3 v4 v5 v6 v7 v8 v9)(u:QE):Ten (w.setCell (N g 4 Z) u) g v0 v1 v2 v3 u v5 v6 v7 v8 v9:=(h.sets u).2.2.2.2.1
theorem Ten.set5 (h:Ten w g v0 v1 v2 v3 v4 v5 v6 v7 v8 v9)(u:QE):Ten (w.setCell (N g 5 Z) u) g v0 v1 v2 v3 v4 u v6 v7 v8 v9:=(h.sets u).2.2.2.2.2.1
theorem Ten.set6 (h:Ten w g v0 v1 v2 v3 v4 v5 v6 v7 v8 v9)(u:QE):Ten (w.setCell (N g 6 Z) u) g v0 v1 v2 v3 v4 v5 u v7 v8 v9:=(h.sets u).2.2.2.2.2.2.1
theorem Ten.set7 (h:Ten w g v0 v1 v2 v3 v4 v5 v6 v7 v8 v9)(u:QE):Ten (w.setCell (N g 7 Z) u) g v0 v1 v2 v3 v4 v5 v6 u v8 v9:=(h.sets u).2.2.2.2.2.2.2.1
theorem Ten.set8 (h:Ten w g v0 v1 v2 v3 v4 v5 v6 v7 v8 v9)(u:QE):Ten (w.setCell (N g 8 Z) u) g v0 v1 v2 v3 v4 v5 v6 v7 u v9:=(h.sets u).2.2.2.2.2.2.2.2.1
theorem Ten.set9 (h:Ten w g v0 v1 v2 v3 v4 v5 v6 v7 v8 v9)(u:QE):Ten (w.setCell (N g 9 Z) u) g v0 v1 v2 v3 v4 v5 v6 v7 v8 u:=(h.sets u).2.2.2.2.2.2.2.2.2
end
theorem Ef (w:G)(b:Array QE)(ty:TypeId)(R QJ:Obj)(j:Nat)(v:QE)(f:b[j]?=T v):(((w.alloc (Q b ty)).alloc R).alloc QJ).cell? (N w.heap.size j Z)=T v:=by rw[(((a8 (w.alloc (Q b ty)).heap.size _).alloc ly R).alloc (by simp) QJ).cell (p:=(N w.heap.size j Z)) (by simp)];simp[f]
abbrev SO:=(Nat × Nat × Nat × List ByteArray) ⊕ (Int × ByteArray × Nat) ⊕ (Bool × ByteArray × Nat)
abbrev strs (s:List ByteArray):List QE:=s.reverse.map Value.string
def SoIs (w:G)(base:Nat)(v:QE):SO->Prop
 | .inl (p,st,l,s)=>∃ a cap,v=dP p (Y a s.length cap) st l QB 0 ⟨#[]⟩ QB ⟨#[]⟩ QB/\w.ownsRow base 9 1 (Y a s.length cap) s.length (strs s)
 | .inr (.inl (c,x,st))=>∃ (at_:Int) (a:Option Addr) (n cap:Nat) (lk:Int),v=dP at_ (Y a n cap) st lk QD c x QB ⟨#[]⟩ QB
 | .inr (.inr (ask,nm,st))=>∃ (at_:Int) (a:Option Addr) (n cap:Nat) (lk:Int),v=dP at_ (Y a n cap) st lk QB 0 ⟨#[]⟩ ask nm QD
theorem SoIs.kept {w w':G}{base b:Nat}{v:QE}{r:SO}(h:SoIs w base v r)(hb:Below w.heap.size w w')(f:b<=base):SoIs w' b v r:=by
 rcases r with ⟨p,st,l,s⟩ | ⟨c,x,st⟩ | ⟨ask,nm,st⟩
 ·obtain⟨a,cap,e,g⟩:=h
  exact⟨a,cap,e,aE (own_below g hb ly) f⟩
 ·exact h
 ·exact h
theorem yq {w:G}{base:Nat}{e:TypeId}{g k n cap:Nat}{s0:ByteArray}{i:Int}{b:List QE}(h:w.ownsRow base e 1 (Y (T (N g 0 Z)) n cap) n b)(j:b[0]?=T (U s0))(f:w.cell? (N k 0 Z)=T (J I i)):k≠g:=by rintro rfl;have:=h.cells (g:=k) rfl 0 _ j;simp[Addr.add] at this;rw[f] at this;simp at this
theorem fR (x:ByteArray)(s:List ByteArray):strs (x :: s)=strs s++[U x]:=by simp[strs]
theorem vj {x:ByteArray}{s:List ByteArray}:∃ s0,(strs s++[Value.string x])[0]?=T (U s0):=by
 rw[<-fR];simp only[strs,IH,J0];have h:0<(x :: s).reverse.length:=by simp
 exact⟨_,_,gq h,rfl⟩
theorem dI {w:G}{base g n cap:Nat}{e:TypeId}{b:List QE}(h:w.ownsRow base e 1 (Y (T (N g 0 Z)) n cap) n b){k:Nat}(f:k≠g)(u:QE)(j:Nat):(w.setCell (N k j Z) u).ownsRow base e 1 (Y (T (N g 0 Z)) n cap) n b :=
 MK h (by simp[Value.ownBlock];exact fun e=>f e.symm) u
theorem Ao {w:G}{base g n cap:Nat}{e:TypeId}{f:List QE}(h:w.ownsRow base e 1 (Y (T (N g 0 Z)) n cap) n f){k:Nat}(b:k≠g)(v0 v1 v2 v3 v4 v5 v6 v7 v8 v9:QE):World.ownsRow ((((((((((w.setCell (N k 0 Z) v0).setCell (N k 1 Z) v1).setCell (N k 2 Z) v2).setCell (N k 3 Z) v3).setCell (N k 4 Z) v4).setCell (N k 5 Z) v5).setCell (N k 6 Z) v6).setCell (N k 7 Z) v7).setCell (N k 8 Z) v8).setCell (N k 9 Z) v9) base e 1 (Y (T (N g 0 Z)) n cap) n f :=
 dI (dI (dI (dI (dI (dI (dI (dI (dI (dI h b v0 0) b v1 1) b v2 2) b v3 3) b v4 4) b v5 5) b v6 6) b v7 7) b v8 8) b v9 9
def jC (y:Nat->aC)(n:Nat)(a:Bool)(nm:ByteArray)(s:List ByteArray)(p st l:Nat):SO :=
 if n<=l then .inr (.inr (a,nm,st)) else if a=QB then .inl (p,st,(l+1),(eh (y l).has :: s)) else if (y l).has=QB then .inr (.inl (4,nm,st))
 else if (y l).code=0 then .inl (p,st,(l+1),((y l).text :: s)) else .inr (.inl (5,nm,st))
def jf (y:Nat->aC)(n op:Nat)(pl nm:ByteArray)(s:List ByteArray)(p st l:Nat):SO :=
 if au nm=QB then .inr (.inl (2,pl,st)) else if l=200 then .inr (.inl (3,⟨#[]⟩,st)) else jC y n ((op:Int) == 12) nm s p st l
theorem yr {y:Nat->aC}{n op:Nat}{pl nm:ByteArray}{s:List ByteArray}{p st l:Nat}{b:SO}(h:b=jf y n op pl nm s p st l)(j:op=12∨op=13):(au nm=QB/\b=.inr (.inl (2,pl,st)))∨(au nm=QD/\((l:Int) == 200)=QD/\b=.inr (.inl (3,⟨#[]⟩,st))) ∨
  (au nm=QD/\((l:Int) == 200)=QB/\((n<=l/\b=.inr (.inr (((op:Int) == 12),nm,st)))∨(l<n/\((op=13/\b=.inl (p,st,(l+1),(eh (y l).has :: s)))∨(op=12/\(((y l).has=QB/\b=.inr (.inl (4,nm,st)))∨((y l).has=QD/\(((y l).code=0/\b=.inl (p,st,(l+1),((y l).text :: s)))∨(((y l).code == 0)=QB/\b=.inr (.inl (5,nm,st))))))))))):=by
 unfold jf jC at h;by_cases h1:au nm=QB
 ·rw[gM h1] at h;exact .inl ⟨h1,h⟩
 rw[cM h1] at h;have h1:au nm=QD:=by simpa using h1
 by_cases h2:l=200
 ·rw[gM h2] at h;exact .inr (.inl ⟨h1,by simp;omega,h⟩)
 rw[cM h2] at h;refine .inr (.inr ⟨h1,by simp;omega,?_⟩);by_cases i:n<=l
 ·rw[gM i] at h;exact .inl ⟨i,h⟩
 rw[cM i] at h;refine .inr ⟨by omega,?_⟩;rcases j with rfl | rfl
 ·rw[cM (by simp)] at h
  by_cases f:(y l).has=QB
  ·rw[gM f] at h;exact .inr ⟨rfl,.inl ⟨f,h⟩⟩
  rw[cM f] at h;by_cases g:(y l).code=0
  ·rw[gM g] at h;exact .inr ⟨rfl,.inr ⟨by simpa using f,.inl ⟨g,h⟩⟩⟩
  rw[cM g] at h;exact .inr ⟨rfl,.inr ⟨by simpa using f,.inr ⟨by simpa using g,h⟩⟩⟩
 ·rw[gM (by simp)] at h;exact .inl ⟨rfl,h⟩
structure LkS (w:G)(op:Int)(base:Nat)(a:Option Addr)(cap:Nat)(s:List ByteArray)(p st lk:Int)(V:G):Prop where
 run:Ten V (w.heap.size+1) (J I p) (Y a s.length cap) (J I st) (J I lk) (QC QB) (J I 0) (U ⟨#[]⟩) (QC QB) (U ⟨#[]⟩) (QC QB)
 zer:Ten V (w.heap.size+1+1) (J I 0) (Y Z 0 0) (J I 0) (J I 0) (QC QB) (J I 0) (U ⟨#[]⟩) (QC QB) (U ⟨#[]⟩) (QC QB)
 bl:Below w.heap.size w V
 own:V.ownsRow base 9 1 (Y a s.length cap) s.length (strs s)
 ne:∀ k,w.heap.size<=k->Value.ownBlock (Y a s.length cap)≠T k
 arg:V.cell? (N w.heap.size 0 Z)=T (J I op)
section
variable {w V QK:G}{base cap:Nat}{a:Option Addr}{s:List ByteArray}{op p st lk:Int}
theorem LkS.below (h:LkS w op base a cap s p st lk V)(b:Below V.heap.size V QK):LkS w op base a cap s p st lk QK :=
 ⟨h.run.below b h.run.1,h.zer.below b h.zer.1,h.bl.trans (b.mono h.bl.size),own_below h.own b ly,h.ne,(b.cell (p:=(N w.heap.size 0 Z)) (by have:=h.run.1;show w.heap.size<_;omega)).trans h.arg⟩
theorem LkS.next (h:LkS w op base a cap s p st lk V)(q:Int):LkS w op base a cap s p st q (V.setCell (N (w.heap.size+1) 3 Z) (J I q)) :=
 ⟨h.run.set3 _,h.zer.other _ _ (by simp),h.bl.setCell (p:=(N (w.heap.size+1) 3 Z)) (by simp) _,MK h.own (a:=(N (w.heap.size+1) 3 Z)) (h.ne _ (by simp)) _,h.ne,(sq _ _ _ _ (by simp)).trans h.arg⟩
theorem LkS.al (h:LkS w op base a cap s p st lk V)(o:Obj):LkS w op base a cap s p st lk (V.alloc o):=h.below (br.alloc ly o)
theorem LkS.drew (h:LkS w op base a cap s p st lk V):LkS w op base a cap s p st lk V.drew:=h.below br.drew
theorem LkS.grown (h:LkS w op base a cap s p st lk V)(b:V.grownBy QK (Value.slice a s.length cap).ownBlock)(hb:base<=w.heap.size):Ten QK (w.heap.size+1) (J I p) (Y a s.length cap) (J I st) (J I lk) (QC QB) (J I 0) (U ⟨#[]⟩) (QC QB) (U ⟨#[]⟩) (QC QB)/\Ten QK (w.heap.size+1+1) (J I 0) (Y Z 0 0) (J I 0) (J I 0) (QC QB) (J I 0) (U ⟨#[]⟩) (QC QB) (U ⟨#[]⟩) (QC QB)/\Below base w QK :=
 ⟨h.run.grown b fun e=>h.ne _ (by omega) e.symm,h.zer.grown b fun e=>h.ne _ (by omega) e.symm,bg (h.bl.mono hb) b (p9 hb h.bl.size) fun k e=>(h.own.lt k e).1⟩
end
theorem wZ (op:Nat)(t:ByteArray)(k:Int)(p st l:Nat)(a:Option Addr)(cap:Nat)(s:List ByteArray)(nm pl:ByteArray)(b2 o2 n QH base:Nat)(y:Nat->aC)(w:G)
  (hY:RowReply w b2 o2 n y) (hO:w.ownsRow base 9 1 (Y a s.length cap) s.length (strs s)) (hb:base<=w.heap.size) (la:op=12∨op=13) (hl:l<=200) (hs:s.length<=50) :
  Calls Tryz.prog 175 #[QG #[J I op,U t,J I k],dP p (Y a s.length cap) st l QB 0 ⟨#[]⟩ QB ⟨#[]⟩ QB,U nm,U pl,Y (T (N b2 o2 Z)) n QH] w fun e w'=>∃ v,e=QF v/\SoIs w' base v (jf y n op pl nm s p st l)/\Below base w w':=by
 obtain⟨so,x⟩:∃ so,so=jf y n op pl nm s p st l:=⟨_,rfl⟩
 rw[<-x];have HQ:=ae (yr x la);have HY:=ae hY;have QK:=ae ((((q9 w).alloc ly (Q #[J I op,U t,J I k] 146)).alloc (by simp) (Q #[J I p,Y a s.length cap,J I st,J I l,QC QB,J I 0,U ⟨#[]⟩,QC QB,U ⟨#[]⟩,QC QB] 216)).alloc (by simp<;>omega) (Q #[J I 0,Y Z 0 0,J I 0,J I 0,QC QB,J I 0,U ⟨#[]⟩,QC QB,U ⟨#[]⟩,QC QB] 216));have C:=ae (LkS.mk (p:=p) (st:=st) (lk:=l) ((j9 (w.alloc (Q #[J I op,U t,J I k] 146)) _ _ _ _ _ _ _ _ _ _ 216 (w.heap.size+1) (by simp)).al _) (j9 _ _ _ _ _ _ _ _ _ _ _ 216 (w.heap.size+1+1) (by simp)) QK.out (own_below hO QK ly) (fun k hk e=>by have:=(hO.lt k e).2;omega) (Ef w #[J I op,U t,J I k] 146 (Q #[J I p,Y a s.length cap,J I st,J I l,QC QB,J I 0,U ⟨#[]⟩,QC QB,U ⟨#[]⟩,QC QB] 216) (Q #[J I 0,Y Z 0 0,J I 0,J I 0,QC QB,J I 0,U ⟨#[]⟩,QC QB,U ⟨#[]⟩,QC QB] 216) 0 (J I op) rfl));clear x hY hO QK;go_enter Tryz.func175,Tryz.ntmps175;go_wp2_with fail;generalize ((w.alloc (Q #[J I op,U t,J I k] 146)).alloc (Q #[J I p,Y a s.length cap,J I st,J I l,QC QB,J I 0,U ⟨#[]⟩,QC QB,U ⟨#[]⟩,QC QB] 216)).alloc (Q #[J I 0,Y Z 0 0,J I 0,J I 0,QC QB,J I 0,U ⟨#[]⟩,QC QB,U ⟨#[]⟩,QC QB] 216)=W0 at C ⊢;refine(cP nm _).mono ?_;rintro e g ⟨rfl,H⟩;replace C:=ae (C.below H);have hz1:=C.zer.1;have i0:=C.arg;clear H;have R1:=ae C.run;obtain⟨z,⟨c0,f0⟩,⟨c1,f1⟩,⟨c2,R⟩,⟨c3,QM⟩,⟨c4,f4⟩,⟨c5,f5⟩,⟨V,QL⟩,⟨c7,f7⟩,⟨c8,O⟩,c9,f9⟩:=R1.out;rcases HQ.out with ⟨h1,rfl⟩ | ⟨h1,h2,rfl⟩ | ⟨h1,h2,⟨h3,rfl⟩ | ⟨h3,h⟩⟩
 all_goals
  rw[h1];clear HQ
 case' inr.inr.inl =>
  have ZE:=ae (((C.zer.other (N (w.heap.size+1) 9 Z) (QC QD) (by simp)).other (N (w.heap.size+1) 7 Z) (QC ((op:Int) == 12)) (by simp)).other (N (w.heap.size+1) 8 Z) (U nm) (by simp));have B2:=ae (((C.bl.setCell (p:=(N (w.heap.size+1) 9 Z)) (by simp) (QC QD)).setCell (p:=(N (w.heap.size+1) 7 Z)) (by simp) (QC ((op:Int) == 12))).setCell (p:=(N (w.heap.size+1) 8 Z)) (by simp) (U nm));obtain⟨B,⟨z0,y0⟩,⟨z1,QJ⟩,⟨z2,y2⟩,⟨z3,P⟩,⟨i,y4⟩,⟨q,y5⟩,⟨o,X⟩,⟨r,y7⟩,⟨m,S⟩,j,M⟩:=ZE.out;have hw:(n:Int)<=l:=by omega
  go_wp2;exact bp (v:=dP p (Y a s.length cap) st l QB 0 ⟨#[]⟩ ((op:Int) == 12) nm QD) (by simp[results,Tryz.results175,go_sem,z0,z1,z2,z3,i,q,o,r,m,j]) rfl ⟨_,rfl,⟨_,_,_,_,_,rfl⟩,dH (B2.mono hb) (by omega) _ _ _ _ _ _ _ _ _ _⟩
 case' inr.inr.inr =>
  obtain⟨d0,d1,d2⟩:=(HY.below C.bl ly).2 l h3;have hln:(l:Int)<n:=by omega
  have hz0:w.heap.size<g.heap.size:=by omega
  have hz01:w.heap.size+1<g.heap.size:=by omega
  replace C:=ae ((C.next ((l:Int)+1)).al (Q #[QC (y l).has,J I (y l).code,U (y l).text] 156));have g0:=jK (g.setCell (N (w.heap.size+1) 3 Z) (J I ((l:Int)+1))) #[QC (y l).has,J I (y l).code,U (y l).text] 156 g.heap.size 0 (QC (y l).has) (by simp) rfl;have g1:=jK (g.setCell (N (w.heap.size+1) 3 Z) (J I ((l:Int)+1))) #[QC (y l).has,J I (y l).code,U (y l).text] 156 g.heap.size 1 (J I (y l).code) (by simp) rfl;have g2:=jK (g.setCell (N (w.heap.size+1) 3 Z) (J I ((l:Int)+1))) #[QC (y l).has,J I (y l).code,U (y l).text] 156 g.heap.size 2 (U (y l).text) (by simp) rfl;have bt:g.heap.size<((g.setCell (N (w.heap.size+1) 3 Z) (J I ((l:Int)+1))).alloc (Q #[QC (y l).has,J I (y l).code,U (y l).text] 156)).heap.size:=by simp
  go_upto_region 12 with fail;clear z c0 f0 c1 f1 c2 R c3 QM c4 f4 c5 f5 V QL c7 f7 c8 O c9 f9 R1 d0 d1 d2 i0;generalize (g.setCell (N (w.heap.size+1) 3 Z) (J I ((l:Int)+1))).alloc (Q #[QC (y l).has,J I (y l).code,U (y l).text] 156)=W at C g0 g1 g2 bt ⊢;have i0:=C.arg;have hbW:base<=W.heap.size:=p9 hb C.bl.size;obtain⟨D,hi,QO,E,L⟩:=IL fW;obtain⟨z,⟨c0,f0⟩,⟨c1,f1⟩,⟨c2,R⟩,⟨c3,QM⟩,⟨c4,f4⟩,⟨c5,f5⟩,⟨V,QL⟩,⟨c7,f7⟩,⟨c8,O⟩,c9,f9⟩:=C.run;rcases h with ⟨rfl,rfl⟩ | ⟨rfl,⟨QN,rfl⟩ | ⟨QN,⟨h5,rfl⟩ | ⟨h5,rfl⟩⟩⟩
  case' inr.inl | inr.inr.inr=>rw[QN] at g0
  case' inr.inr.inl =>rw[QN] at g0;rw[h5] at g1;go_wp2_with (at_builtin;refine CW _ rfl (.tmp 70) (.tmp 73) 35 rfl base 9 D (U ⟨#[]⟩) 1 16 Tryz.underlying35 hi QO E L rfl (by decide) (Y a s.length cap) s.length (strs s) (by simp[Act.eval]) (by first | exact C.own.alloc _ | exact C.own.drew.alloc _ | exact C.own.drew.drew.alloc _) (N W.heap.size 0 Z) 1 1 [U (y l).text] (by simp[Act.eval]) rfl (by first | exact eZ W _ _ | exact eZ W.drew _ _ | exact eZ W.drew.drew _ _) (by simp[Value.oneCell']) (by unfold maxLen;omega) (by omega) (by simp<;>omega) ?_;intro v' w2 b f u;obtain⟨gg,A,rfl⟩:=iX b (by omega);have QR:=ae (LkS.grown (by first | exact C.al _ | exact C.drew.al _ | exact C.drew.drew.al _) f hb);obtain⟨aq,⟨k0,m0⟩,⟨k1,m1⟩,⟨k2,m2⟩,⟨k3,m3⟩,⟨k4,m4⟩,⟨k5,m5⟩,⟨k6,m6⟩,⟨k7,m7⟩,⟨k8,m8⟩,k9,m9⟩:=QR.1;obtain⟨B,⟨z0,y0⟩,⟨z1,QJ⟩,⟨z2,y2⟩,⟨z3,P⟩,⟨i,y4⟩,⟨q,y5⟩,⟨o,X⟩,⟨r,y7⟩,⟨m,S⟩,j,M⟩:=QR.2.1)
  case' inl =>go_wp2_with fail;go_region_law (first | (refine d9 rfl (.tmp 49) (.tmp 53) 35 rfl base 9 D (U ⟨#[]⟩) 1 16 Tryz.underlying35 hi QO E L rfl (by decide) (Y a s.length cap) s.length (strs s) (by simp[Act.eval]) (by first | exact C.own.alloc _ | exact C.own.drew.alloc _ | exact C.own.drew.drew.alloc _) (N W.heap.size 0 Z) 1 1 [U (eh (y l).has)] (by simp[Act.eval]) rfl (by first | exact eZ W _ _ | exact eZ W.drew _ _ | exact eZ W.drew.drew _ _) (by simp[Value.oneCell']) (by unfold maxLen;omega) (by omega) (by simp<;>omega) ?_;intro v' w2 b f u;obtain⟨gg,A,rfl⟩:=iX b (by omega);have QR:=ae (LkS.grown (by first | exact C.al _ | exact C.drew.al _ | exact C.drew.drew.al _) f hb);obtain⟨aq,⟨k0,m0⟩,⟨k1,m1⟩,⟨k2,m2⟩,⟨k3,m3⟩,⟨k4,m4⟩,⟨k5,m5⟩,⟨k6,m6⟩,⟨k7,m7⟩,⟨k8,m8⟩,k9,m9⟩:=QR.1;obtain⟨B,⟨z0,y0⟩,⟨z1,QJ⟩,⟨z2,y2⟩,⟨z3,P⟩,⟨i,y4⟩,⟨q,y5⟩,⟨o,X⟩,⟨r,y7⟩,⟨m,S⟩,j,M⟩:=QR.2.1) | (go_simp;go_at_call 194;refine(oV _ _).mono ?_;rintro e w9 ⟨rfl,ex⟩;subst ex))
  all_goals (try (have K:=yq b (vj (s:=s)).choose_spec QR.1.2.1.1;have fd:=yq b (vj (s:=s)).choose_spec QR.2.1.2.1.1;have ld:=ae (dI b K (Y (T (N gg 0 Z)) (s.length+1) A) 1);have B4:=ae (QR.2.2.setCell (p:=(N (w.heap.size+1) 1 Z)) (by simp;omega) (Y (T (N gg 0 Z)) (s.length+1) A));clear b f u K;(try go_wp2);refine bp (v:=dP p (Y (T (N gg 0 Z)) (s.length+1) A) st ((l:Int)+1) QB 0 ⟨#[]⟩ QB ⟨#[]⟩ QB) (by simp[results,Tryz.results175,go_sem,z0,z1,z2,z3,i,q,o,r,m,j]) rfl ⟨_,rfl,⟨T (N gg 0 Z),A,by simp,?_⟩,dH B4.out (by omega) _ _ _ _ _ _ _ _ _ _⟩;rw[fR];exact Ao ld fd _ _ _ _ _ _ _ _ _ _))
 all_goals
  go_wp2_with fail;refine(fl _ _ _ _ _ _ _ _ _ _ _ _ _ _ _).mono ?_;rintro e w2 ⟨rfl,QP⟩;replace C:=ae (C.below QP);clear QP z c0 f0 c1 f1 c2 R c3 QM c4 f4 c5 f5 V QL c7 f7 c8 O c9 f9;obtain⟨B,⟨z0,y0⟩,⟨z1,QJ⟩,⟨z2,y2⟩,⟨z3,P⟩,⟨i,y4⟩,⟨q,y5⟩,⟨o,X⟩,⟨r,y7⟩,⟨m,S⟩,j,M⟩:=C.zer;go_wp2;first
   | exact bp (v:=dP p (Y a s.length cap) st l QD 3 ⟨#[]⟩ QB ⟨#[]⟩ QB) (by simp[results,Tryz.results175,go_sem,z0,z1,z2,z3,i,q,o,r,m,j]) rfl ⟨_,rfl,⟨_,_,_,_,_,rfl⟩,dH (C.bl.mono hb) (by omega) _ _ _ _ _ _ _ _ _ _⟩
   | exact bp (v:=dP p (Y a s.length cap) st l QD 2 pl QB ⟨#[]⟩ QB) (by simp[results,Tryz.results175,go_sem,z0,z1,z2,z3,i,q,o,r,m,j]) rfl ⟨_,rfl,⟨_,_,_,_,_,rfl⟩,dH (C.bl.mono hb) (by omega) _ _ _ _ _ _ _ _ _ _⟩
   | exact bp (v:=dP p (Y a s.length cap) st ((l:Int)+1) QD 4 nm QB ⟨#[]⟩ QB) (by simp[results,Tryz.results175,go_sem,z0,z1,z2,z3,i,q,o,r,m,j]) rfl ⟨_,rfl,⟨_,_,_,_,_,rfl⟩,dH (C.bl.mono hb) (by omega) _ _ _ _ _ _ _ _ _ _⟩
   | exact bp (v:=dP p (Y a s.length cap) st ((l:Int)+1) QD 5 nm QB ⟨#[]⟩ QB) (by simp[results,Tryz.results175,go_sem,z0,z1,z2,z3,i,q,o,r,m,j]) rfl ⟨_,rfl,⟨_,_,_,_,_,rfl⟩,dH (C.bl.mono hb) (by omega) _ _ _ _ _ _ _ _ _ _⟩
theorem add0 (g j:Nat):((N g 0 Z):Addr).add j=(N g j Z):=by unfold Addr.add;split<;>simp_all
theorem CN {w:G}{base g cap:Nat}{e:TypeId}{x:ByteArray}{r:List ByteArray}(h:w.ownsRow base e 1 (Y (T (N g 0 Z)) (r.length+1) cap) (r.length+1) (strs (x :: r))):w.cell? (N g r.length Z)=T (U x):=by have:=h.cells (g:=g) rfl r.length (U x) (by rw[fR,BS (by simp)];simp);rwa[add0] at this
theorem CO {w:G}{base g cap:Nat}{e:TypeId}{x z:ByteArray}{r:List ByteArray}(h:w.ownsRow base e 1 (Y (T (N g 0 Z)) (r.length+2) cap) (r.length+2) (strs (x :: z :: r))):w.cell? (N g (r.length+1) Z)=T (U x)/\w.cell? (N g r.length Z)=T (U z):=by have h1:=h.cells (g:=g) rfl (r.length+1) (U x) (by rw[fR,BS (by simp)];simp);have h2:=h.cells (g:=g) rfl r.length (U z) (by rw[fR,IG (by simp),fR,BS (by simp)];simp);rw[add0] at h1 h2;exact⟨h1,h2⟩
theorem CP {w:G}{base n cap:Nat}{e:TypeId}{g:Nat}{f:List QE}(h:w.ownsRow base e 1 (Y (T (N g 0 Z)) n cap) n f):n<=cap:=by
 rcases h.2 with ⟨b,_⟩ | ⟨g,c,cur,i,_,_,hn,_⟩
 ·simp at b
 ·simp at i
  omega
theorem CQ {w:G}{base g n cap:Nat}{e:TypeId}{r:List ByteArray}{xs:List QE}(h:w.ownsRow base e 1 (Y (T (N g 0 Z)) n cap) n (strs r++xs)):∀ j u,(strs r)[j]?=T u->w.cell? (((N g 0 Z):Addr).add j)=T u:=fun j u b =>h.cells (g:=g) rfl j u (by rw[IG (by obtain⟨f,_⟩:=j2.1 b;exact f)];exact b)
theorem qK {w:G}{base n:Nat}{e:TypeId}{v:QE}{i:List QE}(h:w.ownsRow base e 1 v n i)(b:v≠.slice Z 0 0):∃ g cap,v=Y (T (N g 0 Z)) n cap/\base<=g:=by
 rcases h.2 with ⟨f,_⟩ | ⟨g,cap,cur,b,j,_⟩
 ·exact absurd f b
 ·exact⟨g,cap,b,j⟩
theorem Ap (r:List ByteArray):∀ u∈strs r,u.oneCell'=QD:=by intro u b;obtain⟨x,_,rfl⟩:=IW.1 b;rfl
theorem SoIs.form {w:G}{base:Nat}{v:QE}{r:SO}(h:SoIs w base v r):∃ (at_:Int) (a:Option Addr) (n cap:Nat) (st lk:Int) (b:Bool) (c:Int) (x:ByteArray) (ask:Bool) (nm:ByteArray) (f:Bool),v=dP at_ (Y a n cap) st lk b c x ask nm f:=by
 rcases r with ⟨p,st,l,s⟩ | ⟨c,x,st⟩ | ⟨ask,nm,st⟩
 ·obtain⟨a,cap,e,_⟩:=h
  exact⟨_,_,_,_,_,_,_,_,_,_,_,_,e⟩
 ·obtain⟨at_,a,n,cap,lk,e⟩:=h
  exact⟨_,_,_,_,_,_,_,_,_,_,_,_,e⟩
 ·obtain⟨at_,a,n,cap,lk,e⟩:=h
  exact⟨_,_,_,_,_,_,_,_,_,_,_,_,e⟩
theorem SoIs.set {w:G}{base:Nat}{v:QE}{r:SO}(h:SoIs w base v r){k:Nat}(f:k<base)(j:Nat)(u:QE):SoIs (w.setCell (N k j Z) u) base v r:=by
 rcases r with ⟨p,st,l,s⟩ | ⟨c,x,st⟩ | ⟨ask,nm,st⟩
 ·obtain⟨a,cap,e,b⟩:=h
  exact⟨a,cap,e,MN b (a:=(N k j Z)) f u⟩
 ·exact h
 ·exact h
theorem SoIs.mono {w:G}{base base':Nat}{v:QE}{r:SO}(h:SoIs w base v r)(hb:base'<=base):SoIs w base' v r:=h.kept br hb
theorem yt {w:G}{base:Nat}{v:QE}{r:SO}(h:SoIs w base v r){k:Nat}(b:k<base)(v0 v1 v2 v3 v4 v5 v6 v7 v8 v9:QE):SoIs ((((((((((w.setCell (N k 0 Z) v0).setCell (N k 1 Z) v1).setCell (N k 2 Z) v2).setCell (N k 3 Z) v3).setCell (N k 4 Z) v4).setCell (N k 5 Z) v5).setCell (N k 6 Z) v6).setCell (N k 7 Z) v7).setCell (N k 8 Z) v8).setCell (N k 9 Z) v9) base v r :=
 (((((((((h.set b 0 v0).set b 1 v1).set b 2 v2).set b 3 v3).set b 4 v4).set b 5 v5).set b 6 v6).set b 7 v7).set b 8 v8).set b 9 v9
theorem xa (op n:Nat)(t a b:ByteArray)(h1:1<=op)(h11:op<=11):(bU op n t a b).length=bF op:=by rcases(show op=1∨op=2∨op=3∨op=4∨op=5∨op=6∨op=7∨op=8∨op=9∨op=10∨op=11 by omega) with rfl | rfl | rfl | rfl | rfl | rfl | rfl | rfl | rfl | rfl | rfl;all_goals rfl
theorem CS {op j:Nat}(h1:1<=op)(h11:op<=11)(h:j<bF op):op<=8:=by rcases(show op=1∨op=2∨op=3∨op=4∨op=5∨op=6∨op=7∨op=8∨op=9∨op=10∨op=11 by omega) with rfl | rfl | rfl | rfl | rfl | rfl | rfl | rfl | rfl | rfl | rfl;all_goals simp[bF] at h ⊢
theorem Aq (op:Nat):bF op<=2:=by
 unfold bF;split
 ·omega
 ·split<;>omega
def fS (b:List ByteArray)(pl:ByteArray)(r:List ByteArray)(p st l:Nat):SO:=if b.all (fun x=>decide (x.size<=2000)) then .inl (p,st,l,(b.reverse++r)) else .inr (.inl (2,pl,st))
theorem yu {b:List ByteArray}{j:Nat}(h:j<b.length):(b.take (j+1)).map Value.string=(b.take j).map Value.string++[U (b.getD j ⟨#[]⟩)]:=by rw[LF,HJ,gq h];simp[h]
theorem Ar (b r:List ByteArray):strs (b.reverse++r)=strs r++b.map Value.string:=by simp[strs]
theorem CU {b:List ByteArray}{j:Nat}(h:j<b.length)(f:¬ ((b.getD j ⟨#[]⟩).size:Int)<=2000):b.all (fun x=>decide (x.size<=2000))=QB:=by simp only[List.all_eq_false];exact⟨b[j],gj h,by simp[h] at f ⊢;omega⟩
theorem As {b:List ByteArray}(h:∀ i,i<b.length->(b.getD i ⟨#[]⟩).size<=2000):b.all (fun x=>decide (x.size<=2000))=QD:=by simp only[List.all_eq_true,j5];intro x f;obtain⟨i,hi,rfl⟩:=List.mem_iff_getElem.1 f;have:=h i hi;simpa[hi] using this
def gF (y:Nat->aC)(n place st looks:Nat):Res->SO
 | .inr (.inl (c,x))=>.inr (.inl (c,x,st))
 | .inl (s',p)=>.inl (p,st,looks,s')
 | .inr (.inr (a,nm,s'))=>jC y n a nm s' (place+1) st looks
def fF (f:Nat->Ins)(cnt:Nat)(y:Nat->aC)(n place steps looks:Nat)(s:List ByteArray):SO:=gF y n place (cE cnt place steps) looks (bG f cnt place steps looks s)
theorem yv {w:G}{base n cap:Nat}{e:TypeId}{a:Option Addr}{i:List QE}(h:w.ownsRow base e 1 (Y a n cap) n i):(a=Z/\n=0/\cap=0)∨∃ g,a=T (N g 0 Z):=by
 rcases h.2 with ⟨b,_⟩ | ⟨g,c,cur,f,_⟩
 ·simp only[IB] at b
  exact .inl b
 ·simp only[IB] at f
  exact .inr ⟨g,f.1⟩
theorem xc (op k:Nat)(t a b:ByteArray)(h1:1<=op)(h11:op<=11)(h2:op≠2)(g:t.size<=2000)(f:a.size<=2000)(hb:b.size<=2000):(bU op k t a b).all (fun x=>decide (x.size<=2000))=QD:=by
 rcases(show op=1∨op=3∨op=4∨op=5∨op=6∨op=7∨op=8∨op=9∨op=10∨op=11 by omega) with rfl | rfl | rfl | rfl | rfl | rfl | rfl | rfl | rfl | rfl
 ·simp[bU,g]
 ·simp only[bU,MS,NI,KM,j5]
  split
  ·simp;omega
  ·exact f
 ·simp only[bU,MS,NI,KM,j5]
  split
  ·simp;omega
  ·decide
 ·simp only[bU,MS,NI,KM,j5]
  exact p9 (o8 _ _) f
 ·simp only[bU,MS,NI,KM,j5]
  exact iG _
 ·simp[bU,f]
 ·simp[bU,f,hb]
 ·rfl
 ·rfl
 ·rfl
theorem xd (op k:Nat)(t a b pl:ByteArray)(r:List ByteArray)(p st l:Nat)(h1:1<=op)(f:op<=11)(h2:op≠2)(h:t.size<=2000)(g:a.size<=2000)(hb:b.size<=2000):fS (bU op k t a b) pl r p st l=.inl (p,st,l,((bU op k t a b).reverse++r)):=by unfold fS;rw[xc op k t a b h1 f h2 h g hb];rfl
theorem Eg (k:Nat)(t x z:ByteArray)(r:List ByteArray)(y:Nat->aC)(n place st looks:Nat):gF y n place st looks (cu 2 k t place looks (x :: z :: r))=fS (bU 2 k t x z) (dK place) r (place+1) st looks:=by
 unfold fS;simp only[cu,bU,MS,NI,KM,JC];by_cases h:z.size+x.size<=2000
 ·rw[gM h,gM (by simpa using h)]
  rfl
 ·rw[cM h,cM (by simpa using h)]
  rfl
theorem vl (op:Nat)(y:Nat->aC)(n place st looks:Nat)(x:ByteArray)(r:List ByteArray)(b:Bool)(hb:((op:Int) == 12)=b):gF y n place st looks (gL b x r place looks)=jf y n op (dK place) x r (place+1) st looks:=by
 unfold gL jf;rw[hb];by_cases h1:au x=QB
 ·rw[gM h1,gM h1]
  rfl
 ·rw[cM h1,cM h1]
  by_cases h2:looks=200
  ·rw[gM h2,gM h2]
   rfl
  ·rw[cM h2,cM h2]
   rfl
theorem Au (l r:List ByteArray):strs (l++r)=strs r++strs l:=by simp[strs]
def kQ (op:Nat)(s:List ByteArray):ByteArray:=if 0<aT op then s.getD 0 ⟨#[]⟩ else ⟨#[]⟩
def pV (op:Nat)(s:List ByteArray):ByteArray:=if 1<aT op then s.getD 1 ⟨#[]⟩ else ⟨#[]⟩
def mh (op k:Nat)(a:ByteArray)(place:Nat):Nat:=if op=10 then k else if op=11/\(a.toList=[]∨(a.toList == [48])=QD) then k else place+1
theorem EY {op k place:Nat}{A:ByteArray}(h:op=10∨op=11/\A.toList.isEmpty=QD∨op=11/\(A.toList == [48])=QD):mh op k A place=k:=by
 unfold mh;rcases h with rfl | ⟨rfl,h⟩ | ⟨rfl,h⟩
 ·rfl
 ·rw[cM (by omega),gM ⟨rfl,.inl (List.isEmpty_iff.1 h)⟩]
 ·rw[cM (by omega),gM ⟨rfl,.inr h⟩]
theorem CX (op:Nat)(A:ByteArray)(h:op<=15):op=15∨op=14∨op=12∨op=13∨op=10∨(op=11/\A.toList.isEmpty=QD)∨(op=11/\A.toList.isEmpty=QB/\(A.toList == [48])=QD)∨(op=11/\A.toList.isEmpty=QB/\(A.toList == [48])=QB)∨op<=9:=by
 by_cases e:op=11
 ·subst e
  cases A.toList.isEmpty<;>cases (A.toList == [48])<;>simp
 ·omega
theorem tp {s:List ByteArray}(h:∀ x∈s,x.size<=2000)(op:Nat):(kQ op s).size<=2000/\(pV op s).size<=2000:=by
 have g:∀ j,(s.getD j ⟨#[]⟩).size<=2000:=fun j=>by
  rw[CL];rcases hj:s[j]? with _ | x
  ·exact DN _
  ·exact h x (IE hj)
 refine⟨?_,?_⟩
 ·unfold kQ
  split
  ·exact g 0
  ·exact DN _
 ·unfold pV
  split
  ·exact g 1
  ·exact DN _
theorem Av (op k:Nat)(t:ByteArray)(s:List ByteArray)(y:Nat->aC)(n place st looks:Nat)(h1:1<=op)(f:op<=11)(hb:aT op<=s.length)(g:t.size<=2000)(b:∀ x∈s,x.size<=2000):gF y n place st looks (cu op k t place looks s)=fS (bU op k t (kQ op s) (pV op s)) (dK place) (s.drop (aT op)) (mh op k (kQ op s) place) st looks:=by
 have i:=(tp b op).1;have h:=(tp b op).2;by_cases h2:op=2
 ·subst h2
  match s,hb with
  | x :: z :: r,_=>exact Eg k t x z r y n place st looks
 ·rw[xd op k t _ _ _ _ _ _ _ h1 f h2 g i h]
  rcases(show op=1∨op=3∨op=4∨op=5∨op=6∨op=7∨op=8∨op=9∨op=10∨op=11 by omega) with rfl | rfl | rfl | rfl | rfl | rfl | rfl | rfl | rfl | rfl
  ·rfl
  iterate 3
   ·match s,hb with
    | x :: r,_=>rfl
  ·match s,hb with
   | x :: z :: r,_=>rfl
  ·match s,hb with
   | x :: r,_=>rfl
  ·match s,hb with
   | x :: z :: r,_=>rfl
  ·match s,hb with
   | x :: r,_=>rfl
  ·rfl
  ·match s,hb with
   | x :: r,_ =>show gF y n place st looks (cu 11 k t place looks (x :: r))=.inl (mh 11 k x place,st,looks,r);simp only[cu,gF,mh,show((11:Nat)=10)=False by simp,L9,MV]
theorem CY (op k:Nat)(t:ByteArray)(s:List ByteArray)(y:Nat->aC)(n place st looks:Nat)(h:op=12∨op=13)(hb:aT op<=s.length):gF y n place st looks (cu op k t place looks s)=jf y n op (dK place) (kQ op s) (s.drop (aT op)) (place+1) st looks:=by
 rcases h with rfl | rfl
 ·match s,hb with
  | x :: r,_=>exact vl 12 y n place st looks x r QD rfl
 ·match s,hb with
  | x :: r,_=>exact vl 13 y n place st looks x r QB rfl
theorem vm (op k:Nat)(t:ByteArray)(s:List ByteArray)(y:Nat->aC)(n place st looks:Nat)(h:op=14∨op=15)(hb:aT op<=s.length):gF y n place st looks (cu op k t place looks s)=.inr (.inl (15 - (op:Int),kQ op s,st)):=by
 rcases h with rfl | rfl
 ·match s,hb with
  | x :: r,_=>rfl
 ·match s,hb with
  | x :: r,_=>rfl
theorem nh (j b n cap:Nat)(f:Nat->ah)(l:Link)(w:G)(o:aK f n=QD)(q:RowDeed w j b n f)(y:l.ask=QD->0<=l.at_/\l.at_.toNat<n):Calls Tryz.prog 137 #[QG #[Y (T (N j b Z)) n cap],QG #[U l.name,QC l.ask,QC l.has,J I l.at_]] w fun e w'=>e=QF (QG #[QC (dk f l).has,J I (dk f l).code,U (dk f l).text])/\Below w.heap.size w w':=by
 have O:=ae q;have s:=ae (fun D:l.ask=QD=>mf o D (y D).2);have C:=ae y;have r:=ae (show l.ask=QB->dk f l=⟨l.has,0,⟨#[]⟩⟩ from fun h=>by unfold dk;rw[cM (by rw[h];simp)]);clear q o y;obtain⟨R,hR⟩:∃ R,R=dk f l:=⟨_,rfl⟩
 rw[<-hR] at s r ⊢;clear hR;obtain⟨nm,ask,g,at_⟩:=l;dsimp only at s C r ⊢;have t:=ae ((((q9 w).alloc ly (Q #[Y (T (N j b Z)) n cap] 25)).alloc (by simp) (Q #[U nm,QC ask,QC g,J I at_] 129)).alloc (by simp;omega) (Q #[QC QB,J I 0,U ⟨#[]⟩] 156));cases ask with
 | false =>
  obtain rfl:R=⟨g,0,⟨#[]⟩⟩:=r.out rfl;dsimp only;go_enter Tryz.func137,Tryz.ntmps137;go_wp2
  exact bp (v:=QG #[QC g,J I 0,U ⟨#[]⟩]) (by simp[results,Tryz.results137,go_sem]) rfl ⟨rfl,by
   repeat (first | exact a8 _ _ | refine LZ ?_ (by simp<;>omega) _)⟩
 | true =>
  obtain⟨h1,h2⟩:=C.out rfl;obtain⟨p,rfl⟩:=nX h1;have QR:p<n:=by simpa using h2
  obtain rfl:R=⟨decide (¬ (f p).kind=2),(f p).code,(f p).text⟩:=by have:=s.out rfl;simpa using this
  dsimp only;obtain⟨K,QL,L,W,⟨QK,u,QP,H⟩,⟨S,A,X,QO⟩⟩:=(O.out.below t.out ly).2 p QR;clear H QO s r C;have hpn:(p:Int)<n:=by omega
  go_enter Tryz.func137,Tryz.ntmps137;go_wp2_with fail;clear K QL L W QP X;have z0:(((w.alloc (Q #[Y (T (N j b Z)) n cap] 25)).alloc (Q #[U nm,QC QD,QC g,J I (p:Int)] 129)).alloc (Q #[QC QB,J I 0,U ⟨#[]⟩] 156)).heap.size=w.heap.size+3:=by simp
  have c0:(((w.alloc (Q #[Y (T (N j b Z)) n cap] 25)).alloc (Q #[U nm,QC QD,QC g,J I (p:Int)] 129)).alloc (Q #[QC QB,J I 0,U ⟨#[]⟩] 156)).cell? (N (w.heap.size+1+1) 0 Z)=T (QC QB):=by simp[go_sem]
  have z:(((w.alloc (Q #[Y (T (N j b Z)) n cap] 25)).alloc (Q #[U nm,QC QD,QC g,J I (p:Int)] 129)).alloc (Q #[QC QB,J I 0,U ⟨#[]⟩] 156)).frozen? (N (w.heap.size+1+1) 0 Z)=QB:=by simp[go_sem]
  have c1:(((w.alloc (Q #[Y (T (N j b Z)) n cap] 25)).alloc (Q #[U nm,QC QD,QC g,J I (p:Int)] 129)).alloc (Q #[QC QB,J I 0,U ⟨#[]⟩] 156)).cell? (N (w.heap.size+1+1) 1 Z)=T (J I 0):=by simp[go_sem]
  have x:(((w.alloc (Q #[Y (T (N j b Z)) n cap] 25)).alloc (Q #[U nm,QC QD,QC g,J I (p:Int)] 129)).alloc (Q #[QC QB,J I 0,U ⟨#[]⟩] 156)).frozen? (N (w.heap.size+1+1) 1 Z)=QB:=by simp[go_sem]
  have c2:(((w.alloc (Q #[Y (T (N j b Z)) n cap] 25)).alloc (Q #[U nm,QC QD,QC g,J I (p:Int)] 129)).alloc (Q #[QC QB,J I 0,U ⟨#[]⟩] 156)).cell? (N (w.heap.size+1+1) 2 Z)=T (U ⟨#[]⟩):=by simp[go_sem]
  have B:(((w.alloc (Q #[Y (T (N j b Z)) n cap] 25)).alloc (Q #[U nm,QC QD,QC g,J I (p:Int)] 129)).alloc (Q #[QC QB,J I 0,U ⟨#[]⟩] 156)).frozen? (N (w.heap.size+1+1) 2 Z)=QB:=by simp[go_sem]
  generalize ((w.alloc (Q #[Y (T (N j b Z)) n cap] 25)).alloc (Q #[U nm,QC QD,QC g,J I (p:Int)] 129)).alloc (Q #[QC QB,J I 0,U ⟨#[]⟩] 156)=QM at t z0 c0 c1 c2 z x B ⊢;refine(xR (f p) QK u S A _).mono ?_;rintro e QN ⟨rfl,m⟩;have i:w.heap.size+1+1<QM.heap.size:=by omega
  have V:=(m.cell (p:=(N (w.heap.size+1+1) 0 Z)) i).trans c0;have E:=(m.cell (p:=(N (w.heap.size+1+1) 1 Z)) i).trans c1;have M:=(m.cell (p:=(N (w.heap.size+1+1) 2 Z)) i).trans c2;have e0:=(m.frozen (p:=(N (w.heap.size+1+1) 0 Z)) i).trans z;have e1:=(m.frozen (p:=(N (w.heap.size+1+1) 1 Z)) i).trans x;have e2:=(m.frozen (p:=(N (w.heap.size+1+1) 2 Z)) i).trans B;have P:=ae (t.out.trans (m.mono t.out.size));have hz1:w.heap.size+1+1<QN.heap.size:=lj i m.size;clear m c0 c1 c2 z x B;go_wp2;exact bp (v:=QG #[QC (decide (¬ (f p).kind=2)),J I (f p).code,U (f p).text]) (by simp[results,Tryz.results137,go_sem,V,E,M]) rfl ⟨rfl,((P.out.setCell (p:=(N (w.heap.size+1+1) 0 Z)) (by simp;omega) _).setCell (p:=(N (w.heap.size+1+1) 1 Z)) (by simp;omega) _).setCell (p:=(N (w.heap.size+1+1) 2 Z)) (by simp;omega) _⟩
theorem iI (L r n cap:Nat)(f:Nat->ah)(p C B q:Nat)(a1:Option Addr)(u:Nat)(w:G)(QK:aK f n=QD)(hp:p<n)(hk:(f p).kind=3)(At:RowDeed w L r n f)(hI:RowIns w C B (f p).actN (f p).act)(Fu:SlLink w a1 (f p).linksN (f p).links)(Fg:Tab2 w)(n7:Pow w):Calls Tryz.prog 87 #[QG #[Y (T (N L r Z)) n cap],QG #[U (f p).name,J I (f p).kind,J I (f p).code,U (f p).text,Y (T (N C B Z)) (f p).actN q,Y a1 (f p).linksN u]] w fun e w'=>e=QF (.tuple #[(aU f p (aN f p)).v,J I (((f p).linksN:Int) - (aN f p:Int))])/\Below w.heap.size w w':=by
 have Fz:valid (f p).act (f p).actN=QD/\(f p).linksN<=200:=by
  rcases(cF QK p hp).2 with h | h | h
  ·omega
  ·omega
  ·exact⟨h.2.2.2.1,h.2.2.2.2⟩
 obtain⟨hv,hN⟩:=Fz;have Fk:(f p).actN<=200:=by have:=(bN hv).2.2;omega
 have CD:=ae (bN hv).1;have QH:=ae QK;have n6:=ae (fun j (hj:j<(f p).linksN) (ha:((f p).links j).ask=QD)=>(⟨(ec QK p hp j hj ha).1,Nat.lt_trans (ec QK p hp j hj ha).2.1 hp⟩:0<=((f p).links j).at_/\((f p).links j).at_.toNat<n));have qr:=ae At;have HI:=ae hI;have FD:=ae Fu;have DQ:=ae Fg;have n8:=ae n7;have hib:=hI.1;have sm:=Fg.1;have hpwb:=n7.lt;clear QK At hI Fu Fg n7 hv hk;obtain⟨QM,ro⟩:∃ QM,QM=aU f p (aN f p):=⟨_,rfl⟩
 obtain⟨P,ur⟩:∃ P,P=aN f p:=⟨_,rfl⟩
 rw[<-ro,<-ur];have bt:=ae ro;have QR:=ae ur;clear ro ur;have S:=ae (show Below w.heap.size w (((w.alloc (Q #[Y (T (N L r Z)) n cap] 25)).alloc (Q #[U (f p).name,J I (f p).kind,J I (f p).code,U (f p).text,Y (T (N C B Z)) (f p).actN q,Y a1 (f p).linksN u] 46)).alloc (Q #[QC QB,J I 0,U ⟨#[]⟩,QC QB,U ⟨#[]⟩,J I 0] 150)) from(((q9 w).alloc ly (Q #[Y (T (N L r Z)) n cap] 25)).alloc (by simp) (Q #[U (f p).name,J I (f p).kind,J I (f p).code,U (f p).text,Y (T (N C B Z)) (f p).actN q,Y a1 (f p).linksN u] 46)).alloc (by simp;omega) (Q #[QC QB,J I 0,U ⟨#[]⟩,QC QB,U ⟨#[]⟩,J I 0] 150));have zA:(((w.alloc (Q #[Y (T (N L r Z)) n cap] 25)).alloc (Q #[U (f p).name,J I (f p).kind,J I (f p).code,U (f p).text,Y (T (N C B Z)) (f p).actN q,Y a1 (f p).linksN u] 46)).alloc (Q #[QC QB,J I 0,U ⟨#[]⟩,QC QB,U ⟨#[]⟩,J I 0] 150)).heap.size=w.heap.size+3:=by simp
 have kA:(((w.alloc (Q #[Y (T (N L r Z)) n cap] 25)).alloc (Q #[U (f p).name,J I (f p).kind,J I (f p).code,U (f p).text,Y (T (N C B Z)) (f p).actN q,Y a1 (f p).linksN u] 46)).alloc (Q #[QC QB,J I 0,U ⟨#[]⟩,QC QB,U ⟨#[]⟩,J I 0] 150)).cell? (N w.heap.size 0 Z)=T (Y (T (N L r Z)) n cap):=by simp[go_sem]
 have FH:(((w.alloc (Q #[Y (T (N L r Z)) n cap] 25)).alloc (Q #[U (f p).name,J I (f p).kind,J I (f p).code,U (f p).text,Y (T (N C B Z)) (f p).actN q,Y a1 (f p).linksN u] 46)).alloc (Q #[QC QB,J I 0,U ⟨#[]⟩,QC QB,U ⟨#[]⟩,J I 0] 150)).cell? (N (w.heap.size+1) 4 Z)=T (Y (T (N C B Z)) (f p).actN q):=by simp[go_sem]
 have X:(((w.alloc (Q #[Y (T (N L r Z)) n cap] 25)).alloc (Q #[U (f p).name,J I (f p).kind,J I (f p).code,U (f p).text,Y (T (N C B Z)) (f p).actN q,Y a1 (f p).linksN u] 46)).alloc (Q #[QC QB,J I 0,U ⟨#[]⟩,QC QB,U ⟨#[]⟩,J I 0] 150)).cell? (N (w.heap.size+1) 5 Z)=T (Y a1 (f p).linksN u):=by simp[go_sem]
 have XA:=ae (by have h:=j8 ((w.alloc (Q #[Y (T (N L r Z)) n cap] 25)).alloc (Q #[U (f p).name,J I (f p).kind,J I (f p).code,U (f p).text,Y (T (N C B Z)) (f p).actN q,Y a1 (f p).linksN u] 46)) (QC QB) (J I 0) (U ⟨#[]⟩) (QC QB) (U ⟨#[]⟩) (J I 0) 150;rw[show((w.alloc (Q #[Y (T (N L r Z)) n cap] 25)).alloc (Q #[U (f p).name,J I (f p).kind,J I (f p).code,U (f p).text,Y (T (N C B Z)) (f p).actN q,Y a1 (f p).linksN u] 46)).heap.size=w.heap.size+1+1 by simp] at h;exact h);have S0:Sim m0 0 0 0 []:=⟨trivial,rfl,by simp,rfl,rfl,rfl,by simp,by omega,by omega,by omega⟩
 obtain⟨H0,Fo,Fw,Fy⟩:=og (f:=(f p).act) (cnt:=(f p).actN) (m:=m0) rfl S0;have FK:=ae Fo;have FA:=ae Fw;have FC:=ae Fy;clear Fo Fw Fy S0;go_enter Tryz.func87,Tryz.ntmps87;go_wp2_with fail;generalize ((w.alloc (Q #[Y (T (N L r Z)) n cap] 25)).alloc (Q #[U (f p).name,J I (f p).kind,J I (f p).code,U (f p).text,Y (T (N C B Z)) (f p).actN q,Y a1 (f p).linksN u] 46)).alloc (Q #[QC QB,J I 0,U ⟨#[]⟩,QC QB,U ⟨#[]⟩,J I 0] 150)=WA at S zA kA FH X XA ⊢;refine(yp C B (f p).actN q _).mono ?_;rintro e w1 ⟨b,rfl,hb,DE,Fv⟩;have Fx:=ae DE;have B1:Hid (Below (w.heap.size+3) WA w1):=by show Below _ _ _;rw[<-zA];exact Fv
 have Fb:w.heap.size+3<=b:=by omega
 have hb1:b<w1.heap.size:=DE.lt;have Fa:=ae (S.out.trans (B1.out.mono (by omega)));clear DE Fv hb;have Fs:Hid (Env w1 b C B (f p).actN (f p).act):=⟨HI.out.below Fa.out ly,DQ.out.below Fa.out sm,n8.out.below Fa.out ly,by omega,by omega,by omega⟩
 go_wp2_with fail;refine(wY b C B (f p).actN q (f p).act m0 H0 ⟨QB,0,⟨#[]⟩⟩ _ Fx.out Fs.out rfl Fk CD.out FK.out).mono ?_;rintro e w2 ⟨D,rfl,Fp,Ft,Fm⟩;have Fj:=ae Fp;have FJ:=ae Ft;have B2:=ae (B1.out.trans (Fm.below Fb (by have:=B1.out.size;omega)));clear Fp Ft Fm Fx Fs;simp only[Turn.v];have Fn:=ae (Fj.out.al (Q #[QC D.t.over,J I D.t.code,U D.t.text,QC D.t.ask,U D.t.name,J I D.t.steps] 150));have Fd:=ae (An w2 D.t 150);have B3:=ae (B2.out.alloc (by have:=B2.out.size;omega) (Q #[QC D.t.over,J I D.t.code,U D.t.text,QC D.t.ask,U D.t.name,J I D.t.steps] 150));have d5:=(B3.out.cell (p:=(N (w.heap.size+1) 5 Z)) (show w.heap.size+1<w.heap.size+3 by omega)).trans X;have Fl:w.heap.size+3<=w2.heap.size:=by have:=B2.out.size;omega
 have FF:b<w2.heap.size:=Fj.out.lt;go_wp2;clear d5 Fj B2;generalize w2.alloc (Q #[QC D.t.over,J I D.t.code,U D.t.text,QC D.t.ask,U D.t.name,J I D.t.steps] 150)=W3 at Fn Fd B3 ⊢;generalize w2.heap.size=g7 at Fd Fl FF ⊢;go_loopw [19] (fun i wr=>∃ (k:Nat) (K:Mst) (H:Halt),k<=(f p).linksN/\i=J I k/\Hid (MAt wr b (Y (T (N C B Z)) (f p).actN q) K)/\Hid (TurnBox wr g7 K.t)/\Hid (fj K H)/\Hid (iR k H)/\Hid (∀ n,k<=n->ez (f p).act (f p).actN (yOf f p) n H=bT (f p).act (f p).actN (yOf f p) n 2001 0 0 0 [])/\Hid (dG f p ((f p).linksN - k) k=aN f p)/\Hid (Below (w.heap.size+3) WA wr)) (fun i _=>(f p).linksN - (intOf i).toNat);case atStart=>exact⟨0,D,H0,by omega,rfl,Fn.out,Fd.out,FJ.out,FA.out,fun n _=>FC.out (yOf f p) n,rfl,B3.out⟩
 case round =>
  obtain⟨k,K,H,hkN,rfl,HM,TB,HS,HL,HC,V,BW⟩:=hrel;have Ff:=ae (S.out.trans (BW.out.mono (by omega)));have E:Hid (K.t=aU f p k):=by show _=_;rw[<-uy (f:=(f p).act) (cnt:=(f p).actN) (y:=yOf f p) HS.out HL.out];exact HC.out k ly
  by_cases n9:k<(f p).linksN
  ·obtain⟨bl,offl,rfl,Fq⟩:=(FD.out.below Ff.out ly).resolve_left (by omega)
   obtain⟨r0,r1,r2,r3⟩:=Fq.2 k n9;obtain⟨l,hl⟩:∃ l,(f p).links k=l:=⟨_,rfl⟩
   rw[hl] at r0 r1 r2 r3;obtain⟨nm,ask,QO,at_⟩:=l;dsimp only at r0 r1 r2 r3;have z:=ae hl;clear Fq hl;obtain⟨j0,W⟩:∃ j0,(f p).linksN - k=j0+1:=⟨(f p).linksN - k - 1,by omega⟩
   have x:=ae (BW.out.alloc (by have:=BW.out.size;omega) (Q #[U nm,QC ask,QC QO,J I at_] 129));have TL:=ae (TB.out.below ((q9 wr).alloc ly (Q #[U nm,QC ask,QC QO,J I at_] 129)) TB.out.1);have ML:=ae (HM.out.al (Q #[U nm,QC ask,QC QO,J I at_] 129));obtain⟨tl,⟨t0,t1,t2,t3,t4,t5⟩,tz⟩:=TL.out;clear tz;cases ho:K.t.over with
   | true =>
    rw[ho] at t0;have s:Hid (bY f p k=QD):=by show _=_;unfold bY;rw[<-E.out,z.out];rw[ho];rfl
    have A:Hid (P=k):=by show _=_;rw[QR.out,<-V.out,W,je s.out]
    have M:Hid (QM=K.t):=by show _=_;rw[bt.out,<-QR.out,A.out,E.out]
    have d5:=(x.out.cell (p:=(N (w.heap.size+1) 5 Z)) (show w.heap.size+1<w.heap.size+3 by omega)).trans X;have O:=ae (S.out.trans (x.out.mono (by omega)));have o:=ae (XA.out.below x.out (by omega));have hx:=o.out.1;obtain⟨v0,q0,y0⟩:=o.out.2 0 (by omega);obtain⟨v1,QJ,y1⟩:=o.out.2 1 (by omega);obtain⟨v2,q2,y2⟩:=o.out.2 2 (by omega);obtain⟨v3,q3,y3⟩:=o.out.2 3 (by omega);obtain⟨v4,q4,y4⟩:=o.out.2 4 (by omega);obtain⟨v5,q5,y5⟩:=o.out.2 5 (by omega);go_wp2_with fail;go_region;all_goals
     go_wp2;exact bp (v:=.tuple #[QM.v,J I (((f p).linksN:Int) - (P:Int))]) (by rw[M.out,A.out];simp[results,Tryz.results87,go_sem,Turn.v,ho,q0,QJ,q2,q3,q4,q5]) rfl ⟨rfl,(dY O.out (by omega) _ _ _ _ _ _).drew⟩
   | false =>
    rw[ho] at t0;cases hn:(K.t.name.toList == nm.toList) with
    | false =>
     have s:Hid (bY f p k=QD):=by show _=_;unfold bY;rw[<-E.out,z.out];simp[ho,hn]
     have A:Hid (P=k):=by show _=_;rw[QR.out,<-V.out,W,je s.out]
     have M:Hid (QM=K.t):=by show _=_;rw[bt.out,<-QR.out,A.out,E.out]
     have d5:=(x.out.cell (p:=(N (w.heap.size+1) 5 Z)) (show w.heap.size+1<w.heap.size+3 by omega)).trans X;have O:=ae (S.out.trans (x.out.mono (by omega)));have o:=ae (XA.out.below x.out (by omega));have hx:=o.out.1;obtain⟨v0,q0,y0⟩:=o.out.2 0 (by omega);obtain⟨v1,QJ,y1⟩:=o.out.2 1 (by omega);obtain⟨v2,q2,y2⟩:=o.out.2 2 (by omega);obtain⟨v3,q3,y3⟩:=o.out.2 3 (by omega);obtain⟨v4,q4,y4⟩:=o.out.2 4 (by omega);obtain⟨v5,q5,y5⟩:=o.out.2 5 (by omega);go_wp2_with fail;go_region;all_goals
      go_wp2;exact bp (v:=.tuple #[QM.v,J I (((f p).linksN:Int) - (P:Int))]) (by rw[M.out,A.out];simp[results,Tryz.results87,go_sem,Turn.v,ho,q0,QJ,q2,q3,q4,q5]) rfl ⟨rfl,(dY O.out (by omega) _ _ _ _ _ _).drew⟩
    | true =>
     cases hak:K.t.ask with
     | true =>
      rw[hak] at t3;cases ask with
      | true =>
       have s:Hid (bY f p k=QB):=by show _=_;unfold bY;rw[<-E.out,z.out];simp[ho,hn,hak]
       obtain⟨a,Fi,s2,pp,st,l,rfl⟩:=ng HS.out ho;have el:l=k+1:=HL.out;subst el;have ld:=(x.out.cell (p:=(N w.heap.size 0 Z)) (show w.heap.size<w.heap.size+3 by omega)).trans kA;have O:=ae (S.out.trans (x.out.mono (by omega)));have HY:Hid (dk f ⟨nm,QD,QO,at_⟩=yOf f p k):=by show _=_;unfold yOf;rw[z.out]
       have E9:=ae (pU (l:=⟨nm,QD,QO,at_⟩) QH.out (fun ha=>by have:=n6.out k n9 (by rw[z.out]);rw[z.out] at this;exact this.2));have DS:Hid ((dk f ⟨nm,QD,QO,at_⟩).text.size<=2000):=by have:=E9.out;simp only[ce,j5] at this;exact this.1
       have FG:Hid (0<=at_/\at_.toNat<n):=by have:=n6.out k n9 (by rw[z.out]);rw[z.out] at this;exact this
       go_wp2_with fail;clear t0 t1 t2 t3 t4 t5 r0 r1 r2 r3;generalize wr.alloc (Q #[U nm,QC QD,QC QO,J I at_] 129)=WL at x TL ML O ld tl ⊢;refine(nh L r n cap f ⟨nm,QD,QO,at_⟩ _ QH.out (qr.out.below O.out ly) (fun _=>FG.out)).mono ?_;rintro e w4 ⟨rfl,QN⟩;have Fe:b<WL.heap.size:=ML.out.lt;have M4:=ae (ML.out.below QN Fe);have T4:=ae (TL.out.below QN tl);have B4:=ae (x.out.trans (QN.mono (by have:=x.out.size;omega)));have QL:=ae (S.out.trans (B4.out.mono (by omega)));have th:Hid (Env w4 b C B (f p).actN (f p).act):=⟨HI.out.below QL.out ly,DQ.out.below QL.out sm,n8.out.below QL.out ly,by omega,by omega,by omega⟩
       clear QN ld;go_wp2_with fail;refine(qJ b C B (f p).actN q (f p).act K a Fi s2 pp st (k+1) (dk f ⟨nm,QD,QO,at_⟩) _ M4.out th.out HS.out (by omega) DS.out Fk CD.out).mono ?_;rintro e w5 ⟨m2,H2,rfl,la,fd,aq,mv,R⟩;have ex:g7≠b:=by omega
       have T5:=ae (T4.out.only R ex);have M5:=ae (la.boxed ex m2.t);have X5:=ae (vi m2.t T5.out);have B5:=ae (B4.out.trans (R.below Fb (by have:=B4.out.size;omega)));have B6:=ae (B5.out.trans ((tm (w:=w5) (g:=g7) m2.t).below Fl (by have:=B5.out.size;omega)));have Fc:=ae fd;have Bk:=ae aq;have ph:Hid (∀ n,k+1<=n->ez (f p).act (f p).actN (yOf f p) n H2=bT (f p).act (f p).actN (yOf f p) n 2001 0 0 0 []):=fun n hn=>(mv (yOf f p) n hn (by rw[JW];exact HY.out.symm)).symm.trans (HC.out n (by omega));have Fh:Hid (dG f p ((f p).linksN - (k+1)) (k+1)=aN f p):=by show _=_;rw[<-V.out,W,oe s.out,show(f p).linksN - (k+1)=j0 by omega]
       obtain⟨ul,⟨u0,u1,u2,u3,u4,u5⟩,QP⟩:=T5.out;have z0:=QP 0;have z1:=QP 1;have z2:=QP 2;have z3:=QP 3;have z4:=QP 4;have z5:=QP 5;clear la fd aq mv R M4 T4 QP;simp only[Turn.v];go_wp2;exact⟨⟨k+1,m2,H2,by omega,by go_num,M5.out,X5.out,Fc.out,Bk.out,ph.out,Fh.out,B6.out⟩,by simp[intOf];omega⟩
      | false =>
       have s:Hid (bY f p k=QD):=by show _=_;unfold bY;rw[<-E.out,z.out];simp[ho,hn,hak]
       have A:Hid (P=k):=by show _=_;rw[QR.out,<-V.out,W,je s.out]
       have M:Hid (QM=K.t):=by show _=_;rw[bt.out,<-QR.out,A.out,E.out]
       have d5:=(x.out.cell (p:=(N (w.heap.size+1) 5 Z)) (show w.heap.size+1<w.heap.size+3 by omega)).trans X;have O:=ae (S.out.trans (x.out.mono (by omega)));have o:=ae (XA.out.below x.out (by omega));have hx:=o.out.1;obtain⟨v0,q0,y0⟩:=o.out.2 0 (by omega);obtain⟨v1,QJ,y1⟩:=o.out.2 1 (by omega);obtain⟨v2,q2,y2⟩:=o.out.2 2 (by omega);obtain⟨v3,q3,y3⟩:=o.out.2 3 (by omega);obtain⟨v4,q4,y4⟩:=o.out.2 4 (by omega);obtain⟨v5,q5,y5⟩:=o.out.2 5 (by omega);go_wp2_with fail;go_region;all_goals
        go_wp2;exact bp (v:=.tuple #[QM.v,J I (((f p).linksN:Int) - (P:Int))]) (by rw[M.out,A.out];simp[results,Tryz.results87,go_sem,Turn.v,ho,hak,q0,QJ,q2,q3,q4,q5]) rfl ⟨rfl,(dY O.out (by omega) _ _ _ _ _ _).drew⟩
     | false =>
      rw[hak] at t3;cases ask with
      | true =>
       have s:Hid (bY f p k=QD):=by show _=_;unfold bY;rw[<-E.out,z.out];simp[ho,hn,hak]
       have A:Hid (P=k):=by show _=_;rw[QR.out,<-V.out,W,je s.out]
       have M:Hid (QM=K.t):=by show _=_;rw[bt.out,<-QR.out,A.out,E.out]
       have d5:=(x.out.cell (p:=(N (w.heap.size+1) 5 Z)) (show w.heap.size+1<w.heap.size+3 by omega)).trans X;have O:=ae (S.out.trans (x.out.mono (by omega)));have o:=ae (XA.out.below x.out (by omega));have hx:=o.out.1;obtain⟨v0,q0,y0⟩:=o.out.2 0 (by omega);obtain⟨v1,QJ,y1⟩:=o.out.2 1 (by omega);obtain⟨v2,q2,y2⟩:=o.out.2 2 (by omega);obtain⟨v3,q3,y3⟩:=o.out.2 3 (by omega);obtain⟨v4,q4,y4⟩:=o.out.2 4 (by omega);obtain⟨v5,q5,y5⟩:=o.out.2 5 (by omega);go_wp2_with fail;go_region;all_goals
        go_wp2;exact bp (v:=.tuple #[QM.v,J I (((f p).linksN:Int) - (P:Int))]) (by rw[M.out,A.out];simp[results,Tryz.results87,go_sem,Turn.v,ho,hak,q0,QJ,q2,q3,q4,q5]) rfl ⟨rfl,(dY O.out (by omega) _ _ _ _ _ _).drew⟩
      | false =>
       have s:Hid (bY f p k=QB):=by show _=_;unfold bY;rw[<-E.out,z.out];simp[ho,hn,hak]
       obtain⟨a,Fi,s2,pp,st,l,rfl⟩:=ng HS.out ho;have el:l=k+1:=HL.out;subst el;have ld:=(x.out.cell (p:=(N w.heap.size 0 Z)) (show w.heap.size<w.heap.size+3 by omega)).trans kA;have O:=ae (S.out.trans (x.out.mono (by omega)));have HY:Hid (dk f ⟨nm,QB,QO,at_⟩=yOf f p k):=by show _=_;unfold yOf;rw[z.out]
       have E9:=ae (pU (l:=⟨nm,QB,QO,at_⟩) QH.out (fun ha=>by have:=n6.out k n9 (by rw[z.out];exact ha);rw[z.out] at this;exact this.2));have DS:Hid ((dk f ⟨nm,QB,QO,at_⟩).text.size<=2000):=by have:=E9.out;simp only[ce,j5] at this;exact this.1
       go_wp2_with fail;clear t0 t1 t2 t3 t4 t5 r0 r1 r2 r3;generalize wr.alloc (Q #[U nm,QC QB,QC QO,J I at_] 129)=WL at x TL ML O ld tl ⊢;refine(nh L r n cap f ⟨nm,QB,QO,at_⟩ _ QH.out (qr.out.below O.out ly) (fun h=>by cases h)).mono ?_;rintro e w4 ⟨rfl,QN⟩;have Fe:b<WL.heap.size:=ML.out.lt;have M4:=ae (ML.out.below QN Fe);have T4:=ae (TL.out.below QN tl);have B4:=ae (x.out.trans (QN.mono (by have:=x.out.size;omega)));have QL:=ae (S.out.trans (B4.out.mono (by omega)));have th:Hid (Env w4 b C B (f p).actN (f p).act):=⟨HI.out.below QL.out ly,DQ.out.below QL.out sm,n8.out.below QL.out ly,by omega,by omega,by omega⟩
       clear QN ld;go_wp2_with fail;refine(qJ b C B (f p).actN q (f p).act K a Fi s2 pp st (k+1) (dk f ⟨nm,QB,QO,at_⟩) _ M4.out th.out HS.out (by omega) DS.out Fk CD.out).mono ?_;rintro e w5 ⟨m2,H2,rfl,la,fd,aq,mv,R⟩;have ex:g7≠b:=by omega
       have T5:=ae (T4.out.only R ex);have M5:=ae (la.boxed ex m2.t);have X5:=ae (vi m2.t T5.out);have B5:=ae (B4.out.trans (R.below Fb (by have:=B4.out.size;omega)));have B6:=ae (B5.out.trans ((tm (w:=w5) (g:=g7) m2.t).below Fl (by have:=B5.out.size;omega)));have Fc:=ae fd;have Bk:=ae aq;have ph:Hid (∀ n,k+1<=n->ez (f p).act (f p).actN (yOf f p) n H2=bT (f p).act (f p).actN (yOf f p) n 2001 0 0 0 []):=fun n hn=>(mv (yOf f p) n hn (by rw[JW];exact HY.out.symm)).symm.trans (HC.out n (by omega));have Fh:Hid (dG f p ((f p).linksN - (k+1)) (k+1)=aN f p):=by show _=_;rw[<-V.out,W,oe s.out,show(f p).linksN - (k+1)=j0 by omega]
       obtain⟨ul,⟨u0,u1,u2,u3,u4,u5⟩,QP⟩:=T5.out;have z0:=QP 0;have z1:=QP 1;have z2:=QP 2;have z3:=QP 3;have z4:=QP 4;have z5:=QP 5;clear la fd aq mv R M4 T4 QP;simp only[Turn.v];go_wp2;exact⟨⟨k+1,m2,H2,by omega,by go_num,M5.out,X5.out,Fc.out,Bk.out,ph.out,Fh.out,B6.out⟩,by simp[intOf];omega⟩
  ·obtain rfl:k=(f p).linksN:=by omega
   have A:Hid (P=(f p).linksN):=by show _=_;rw[QR.out,<-V.out,J2];rfl
   have M:Hid (QM=K.t):=by show _=_;rw[bt.out,<-QR.out,A.out,E.out]
   obtain⟨tl,⟨t0,t1,t2,t3,t4,t5⟩,tz⟩:=TB.out;have o:=ae (XA.out.below BW.out (by omega));have hx:=o.out.1;obtain⟨v0,q0,y0⟩:=o.out.2 0 (by omega);obtain⟨v1,QJ,y1⟩:=o.out.2 1 (by omega);obtain⟨v2,q2,y2⟩:=o.out.2 2 (by omega);obtain⟨v3,q3,y3⟩:=o.out.2 3 (by omega);obtain⟨v4,q4,y4⟩:=o.out.2 4 (by omega);obtain⟨v5,q5,y5⟩:=o.out.2 5 (by omega);clear tz;go_wp2;exact bp (v:=.tuple #[QM.v,J I (((f p).linksN:Int) - (P:Int))]) (by rw[M.out,A.out];simp[results,Tryz.results87,go_sem,Turn.v,q0,QJ,q2,q3,q4,q5]) rfl ⟨rfl,by first | exact dY Ff.out (by omega) _ _ _ _ _ _ | exact dY Ff.out.drew (by omega) _ _ _ _ _ _⟩
def fm (f:Nat->ah)(p:Nat):Bool:=if (f p).kind=3 then (!(aU f p (aN f p)).over || decide (aN f p<(f p).linksN)) else QB
def jg (f:Nat->ah)(p:Nat):Bool:=if (f p).kind=3 then (!decide ((aU f p (aN f p)).code=(f p).code) || !((aU f p (aN f p)).text.toList == (f p).text.toList)) else QB
theorem vq (f:Nat->ah)(p:Nat):codeF f p=if fm f p=QD then 4 else if jg f p=QD then 5 else 0:=by
 unfold codeF fm jg;by_cases b:(f p).kind=3
 ·rw[gM b,gM b,gM b]
  unfold fC;by_cases h1:aN f p<(f p).linksN
  ·simp[h1]
  ·cases ho:(aU f p (aN f p)).over with
   | false=>simp[h1]
   | true =>
    by_cases h2:(aU f p (aN f p)).code=(f p).code
    ·by_cases g:(aU f p (aN f p)).text.toList=(f p).text.toList
     ·simp[h1,h2,g]
     ·have h:((aU f p (aN f p)).text.toList == (f p).text.toList)=QB:=by simpa using g
      simp[h1,h2,g,h]
    ·simp[h1,h2]
 ·rw[cM b,cM b,cM b]
  simp
theorem gu {w:G}{a:Option Addr}{f:Nat->Ins}{n:Nat}(h:SlIns w a n f)(l:valid f n=QD):∃ i g,a=T (N i g Z)/\RowIns w i g n f:=by
 have hn:=(bN l).2;rcases h with h | ⟨b,off,e,j⟩
 ·omega
 ·exact⟨b,off,e,j⟩
theorem xe (C b n cap:Nat)(f:Nat->ah)(p:Nat)(a0:Option Addr)(j:Nat)(a1:Option Addr)(i:Nat)(w:G)(l:aK f n=QD)(S:p<n)(o:RowDeed w C b n f)(R:SlIns w a0 (f p).actN (f p).act)(E:SlLink w a1 (f p).linksN (f p).links)(B:Tab2 w)(u:Pow w):Calls Tryz.prog 39 #[QG #[Y (T (N C b Z)) n cap,Y Z 0 0,Y Z 0 0],QG #[U (f p).name,J I (f p).kind,J I (f p).code,U (f p).text,Y a0 (f p).actN j,Y a1 (f p).linksN i]] w fun e w'=>e=QF (QC (fm f p))/\Below w.heap.size w w':=by
 obtain⟨r,K⟩:∃ r,r=fm f p:=⟨_,rfl⟩
 rw[<-K];have L:=ae (show r=if (f p).kind=3 then (!(aU f p (aN f p)).over || decide (aN f p<(f p).linksN)) else QB from K);clear K;have x:=ae (((q9 w).alloc ly (Q #[Y (T (N C b Z)) n cap,Y Z 0 0,Y Z 0 0] 77)).alloc (by simp) (Q #[U (f p).name,J I (f p).kind,J I (f p).code,U (f p).text,Y a0 (f p).actN j,Y a1 (f p).linksN i] 46));have QO:=ae o;have QL:=ae R;have X:=ae E;have QM:=ae B;have M:=ae u;have QN:=B.1;clear o R E B u;by_cases m:(f p).kind=3
 ·have A:valid (f p).act (f p).actN=QD:=by
   rcases(cF l p S).2 with h | h | h
   ·omega
   ·omega
   ·exact h.2.2.2.1
  obtain⟨pb,QJ,rfl,H⟩:=gu QL.out A;have QK:=ae H;have QH:=ae m;have y:Hid (r=(!(aU f p (aN f p)).over || decide (aN f p<(f p).linksN))):=by show _=_;rw[L.out,gM m]
  have QR:=kO f p (f p).linksN 0;have D:Hid (aN f p<=(f p).linksN):=by show dG f p (f p).linksN 0<=_;omega
  have QP:=ae l;rw[m] at x;clear H A QL l QR L;have z:=fun W (g:Below w.heap.size w W)=>iI C b n cap f p pb QJ j a1 i W QP.out S QH.out (QO.out.below g ly) (QK.out.below g ly) (X.out.below g ly) (QM.out.below g QN) (M.out.below g ly);generalize aU f p (aN f p)=t at y z;generalize aN f p=q at y z D;rw[m] at z;have O:=ae z;clear z;rw[m];go_enter Tryz.func39,Tryz.ntmps39;go_wp2_with fail;refine(O.out _ x.out).mono ?_;rintro e w1 ⟨rfl,g⟩;have V:=ae (x.out.trans (g.mono x.out.size));have s:=ae (V.out.alloc V.out.size (Q #[QC t.over,J I t.code,U t.text,QC t.ask,U t.name,J I t.steps] 150));have QR:=D.out;clear g;simp only[Turn.v];cases ho:t.over with
  | false =>
   obtain rfl:r=QD:=by rw[y.out,ho];rfl
   rw[ho] at s;go_wp2;go_ret;exact⟨rfl,s.out⟩
  | true =>
   rw[ho] at s;by_cases P:q<(f p).linksN
   ·obtain rfl:r=QD:=by rw[y.out,ho];simp[P]
    have hgt:(0:Int)<((f p).linksN:Int) - (q:Int):=by omega
    go_wp2;go_ret;exact⟨rfl,s.out⟩
   ·obtain rfl:r=QB:=by rw[y.out,ho];simp[P]
    have hz:((f p).linksN:Int) - (q:Int)=0:=by omega
    rw[hz];go_wp2;go_ret;exact⟨rfl,s.out⟩
 ·obtain rfl:r=QB:=by rw[L.out,cM m]
  go_enter Tryz.func39,Tryz.ntmps39;go_wp2;go_ret;exact⟨rfl,x.out⟩
theorem Aw (D g n cap:Nat)(f:Nat->ah)(p:Nat)(a0:Option Addr)(j:Nat)(a1:Option Addr)(i:Nat)(w:G)(l:aK f n=QD)(R:p<n)(s:RowDeed w D g n f)(QM:SlIns w a0 (f p).actN (f p).act)(E:SlLink w a1 (f p).linksN (f p).links)(B:Tab2 w)(u:Pow w):Calls Tryz.prog 40 #[QG #[Y (T (N D g Z)) n cap,Y Z 0 0,Y Z 0 0],QG #[U (f p).name,J I (f p).kind,J I (f p).code,U (f p).text,Y a0 (f p).actN j,Y a1 (f p).linksN i]] w fun e w'=>e=QF (QC (jg f p))/\Below w.heap.size w w':=by
 obtain⟨r,K⟩:∃ r,r=jg f p:=⟨_,rfl⟩
 rw[<-K];have L:=ae (show r=if (f p).kind=3 then (!decide ((aU f p (aN f p)).code=(f p).code) || !((aU f p (aN f p)).text.toList == (f p).text.toList)) else QB from K);clear K;have x:=ae (((q9 w).alloc ly (Q #[Y (T (N D g Z)) n cap,Y Z 0 0,Y Z 0 0] 77)).alloc (by simp) (Q #[U (f p).name,J I (f p).kind,J I (f p).code,U (f p).text,Y a0 (f p).actN j,Y a1 (f p).linksN i] 46));have QP:=ae s;have S:=ae QM;have QK:=ae E;have P:=ae B;have M:=ae u;have QN:=B.1;clear s QM E B u;by_cases m:(f p).kind=3
 ·have A:valid (f p).act (f p).actN=QD:=by
   rcases(cF l p R).2 with h | h | h
   ·omega
   ·omega
   ·exact h.2.2.2.1
  obtain⟨QH,X,rfl,QR⟩:=gu S.out A;have QL:=ae QR;have V:=ae m;have y:Hid (r=(!decide ((aU f p (aN f p)).code=(f p).code) || !((aU f p (aN f p)).text.toList == (f p).text.toList))):=by show _=_;rw[L.out,gM m]
  have H:=ae l;rw[m] at x;clear QR A S l L;have z:=fun W (b:Below w.heap.size w W)=>iI D g n cap f p QH X j a1 i W H.out R V.out (QP.out.below b ly) (QL.out.below b ly) (QK.out.below b ly) (P.out.below b QN) (M.out.below b ly);generalize aU f p (aN f p)=t at y z;generalize aN f p=q at y z;rw[m] at z;have O:=ae z;clear z;rw[m];go_enter Tryz.func40,Tryz.ntmps40;go_wp2_with fail;refine(O.out _ x.out).mono ?_;rintro e QO ⟨rfl,b⟩;have d2:QO.cell? (N (w.heap.size+1) 2 Z)=T (J I (f p).code):=(b.cell (p:=(N (w.heap.size+1) 2 Z)) (by simp)).trans (by simp[go_sem]);have d3:QO.cell? (N (w.heap.size+1) 3 Z)=T (U (f p).text):=(b.cell (p:=(N (w.heap.size+1) 3 Z)) (by simp)).trans (by simp[go_sem]);have hz1:w.heap.size+1<QO.heap.size:=by have:=b.size;simp at this;omega
  have o:=ae (x.out.trans (b.mono x.out.size));clear b;simp only[Turn.v];by_cases C:t.code=(f p).code
  ·cases ht:(t.text.toList == (f p).text.toList) with
   | true =>
    obtain rfl:r=QB:=by rw[y.out];simp[C,ht]
    go_wp2;go_ret;exact⟨rfl,o.out.alloc o.out.size _⟩
   | false =>
    obtain rfl:r=QD:=by rw[y.out];simp[C,ht]
    go_wp2;go_ret;exact⟨rfl,o.out.alloc o.out.size _⟩
  ·obtain rfl:r=QD:=by rw[y.out];simp[C]
   have hc2:(t.code == (f p).code)=QB:=by simpa using C
   go_wp2;go_ret;exact⟨rfl,o.out.alloc o.out.size _⟩
 ·obtain rfl:r=QB:=by rw[L.out,cM m]
  go_enter Tryz.func40,Tryz.ntmps40;go_wp2;go_ret;exact⟨rfl,x.out⟩
theorem uC (D:Option Addr)(QP QO:Nat)(H:Option Addr)(QN L:Nat)(C b n cap:Nat)(f:Nat->ah)(p:Nat)(a0:Option Addr)(j:Nat)(a1:Option Addr)(i:Nat)(w:G)(l:aK f n=QD)(QJ:p<n)(o:RowDeed w C b n f)(QH:SlIns w a0 (f p).actN (f p).act)(QR:SlLink w a1 (f p).linksN (f p).links)(B:Tab2 w)(u:Pow w):Calls Tryz.prog 39 #[QG #[Y (T (N C b Z)) n cap,Y D QP QO,Y H QN L],QG #[U (f p).name,J I (f p).kind,J I (f p).code,U (f p).text,Y a0 (f p).actN j,Y a1 (f p).linksN i]] w fun e w'=>e=QF (QC (fm f p))/\Below w.heap.size w w':=by
 obtain⟨r,QM⟩:∃ r,r=fm f p:=⟨_,rfl⟩
 rw[<-QM];have R:=ae (show r=if (f p).kind=3 then (!(aU f p (aN f p)).over || decide (aN f p<(f p).linksN)) else QB from QM);clear QM;have x:=ae (((q9 w).alloc ly (Q #[Y (T (N C b Z)) n cap,Y D QP QO,Y H QN L] 77)).alloc (by simp) (Q #[U (f p).name,J I (f p).kind,J I (f p).code,U (f p).text,Y a0 (f p).actN j,Y a1 (f p).linksN i] 46));have P:=ae o;have HI:=ae QH;have bt:=ae QR;have X:=ae B;have S:=ae u;have QL:=B.1;clear o QH QR B u;by_cases m:(f p).kind=3
 ·have A:valid (f p).act (f p).actN=QD:=by
   rcases(cF l p QJ).2 with h | h | h
   ·omega
   ·omega
   ·exact h.2.2.2.1
  obtain⟨pb,po,rfl,M⟩:=gu HI.out A;have aq:=ae M;have HK:=ae m;have y:Hid (r=(!(aU f p (aN f p)).over || decide (aN f p<(f p).linksN))):=by show _=_;rw[R.out,gM m]
  have K:=kO f p (f p).linksN 0;have E:Hid (aN f p<=(f p).linksN):=by show dG f p (f p).linksN 0<=_;omega
  have O:=ae l;rw[m] at x;clear M A HI l K R;have z:=fun W (g:Below w.heap.size w W)=>iI C b n cap f p pb po j a1 i W O.out QJ HK.out (P.out.below g ly) (aq.out.below g ly) (bt.out.below g ly) (X.out.below g QL) (S.out.below g ly);generalize aU f p (aN f p)=t at y z;generalize aN f p=q at y z E;rw[m] at z;have QK:=ae z;clear z;rw[m];go_enter Tryz.func39,Tryz.ntmps39;go_wp2_with fail;refine(QK.out _ x.out).mono ?_;rintro e w1 ⟨rfl,g⟩;have B1:=ae (x.out.trans (g.mono x.out.size));have s:=ae (B1.out.alloc B1.out.size (Q #[QC t.over,J I t.code,U t.text,QC t.ask,U t.name,J I t.steps] 150));have K:=E.out;clear g;simp only[Turn.v];cases ho:t.over with
  | false =>
   obtain rfl:r=QD:=by rw[y.out,ho];rfl
   rw[ho] at s;go_wp2;go_ret;exact⟨rfl,s.out⟩
  | true =>
   rw[ho] at s;by_cases V:q<(f p).linksN
   ·obtain rfl:r=QD:=by rw[y.out,ho];simp[V]
    have hgt:(0:Int)<((f p).linksN:Int) - (q:Int):=by omega
    go_wp2;go_ret;exact⟨rfl,s.out⟩
   ·obtain rfl:r=QB:=by rw[y.out,ho];simp[V]
    have hz:((f p).linksN:Int) - (q:Int)=0:=by omega
    rw[hz];go_wp2;go_ret;exact⟨rfl,s.out⟩
 ·obtain rfl:r=QB:=by rw[R.out,cM m]
  go_enter Tryz.func39,Tryz.ntmps39;go_wp2;go_ret;exact⟨rfl,x.out⟩
theorem yw (E:Option Addr)(QP QO:Nat)(H:Option Addr)(M K:Nat)(D g n cap:Nat)(f:Nat->ah)(p:Nat)(a0:Option Addr)(j:Nat)(a1:Option Addr)(i:Nat)(w:G)(l:aK f n=QD)(QH:p<n)(s:RowDeed w D g n f)(X:SlIns w a0 (f p).actN (f p).act)(QR:SlLink w a1 (f p).linksN (f p).links)(B:Tab2 w)(u:Pow w):Calls Tryz.prog 40 #[QG #[Y (T (N D g Z)) n cap,Y E QP QO,Y H M K],QG #[U (f p).name,J I (f p).kind,J I (f p).code,U (f p).text,Y a0 (f p).actN j,Y a1 (f p).linksN i]] w fun e w'=>e=QF (QC (jg f p))/\Below w.heap.size w w':=by
 obtain⟨r,QM⟩:∃ r,r=jg f p:=⟨_,rfl⟩
 rw[<-QM];have R:=ae (show r=if (f p).kind=3 then (!decide ((aU f p (aN f p)).code=(f p).code) || !((aU f p (aN f p)).text.toList == (f p).text.toList)) else QB from QM);clear QM;have x:=ae (((q9 w).alloc ly (Q #[Y (T (N D g Z)) n cap,Y E QP QO,Y H M K] 77)).alloc (by simp) (Q #[U (f p).name,J I (f p).kind,J I (f p).code,U (f p).text,Y a0 (f p).actN j,Y a1 (f p).linksN i] 46));have O:=ae s;have QJ:=ae X;have bt:=ae QR;have V:=ae B;have S:=ae u;have QL:=B.1;clear s X QR B u;by_cases m:(f p).kind=3
 ·have A:valid (f p).act (f p).actN=QD:=by
   rcases(cF l p QH).2 with h | h | h
   ·omega
   ·omega
   ·exact h.2.2.2.1
  obtain⟨pb,po,rfl,L⟩:=gu QJ.out A;have aq:=ae L;have HK:=ae m;have y:Hid (r=(!decide ((aU f p (aN f p)).code=(f p).code) || !((aU f p (aN f p)).text.toList == (f p).text.toList))):=by show _=_;rw[R.out,gM m]
  have QN:=ae l;rw[m] at x;clear L A QJ l R;have z:=fun W (b:Below w.heap.size w W)=>iI D g n cap f p pb po j a1 i W QN.out QH HK.out (O.out.below b ly) (aq.out.below b ly) (bt.out.below b ly) (V.out.below b QL) (S.out.below b ly);generalize aU f p (aN f p)=t at y z;generalize aN f p=q at y z;rw[m] at z;have QK:=ae z;clear z;rw[m];go_enter Tryz.func40,Tryz.ntmps40;go_wp2_with fail;refine(QK.out _ x.out).mono ?_;rintro e P ⟨rfl,b⟩;have d2:P.cell? (N (w.heap.size+1) 2 Z)=T (J I (f p).code):=(b.cell (p:=(N (w.heap.size+1) 2 Z)) (by simp)).trans (by simp[go_sem]);have d3:P.cell? (N (w.heap.size+1) 3 Z)=T (U (f p).text):=(b.cell (p:=(N (w.heap.size+1) 3 Z)) (by simp)).trans (by simp[go_sem]);have hz1:w.heap.size+1<P.heap.size:=by have:=b.size;simp at this;omega
  have o:=ae (x.out.trans (b.mono x.out.size));clear b;simp only[Turn.v];by_cases C:t.code=(f p).code
  ·cases ht:(t.text.toList == (f p).text.toList) with
   | true =>
    obtain rfl:r=QB:=by rw[y.out];simp[C,ht]
    go_wp2;go_ret;exact⟨rfl,o.out.alloc o.out.size _⟩
   | false =>
    obtain rfl:r=QD:=by rw[y.out];simp[C,ht]
    go_wp2;go_ret;exact⟨rfl,o.out.alloc o.out.size _⟩
  ·obtain rfl:r=QD:=by rw[y.out];simp[C]
   have hc2:(t.code == (f p).code)=QB:=by simpa using C
   go_wp2;go_ret;exact⟨rfl,o.out.alloc o.out.size _⟩
 ·obtain rfl:r=QB:=by rw[R.out,cM m]
  go_enter Tryz.func40,Tryz.ntmps40;go_wp2;go_ret;exact⟨rfl,x.out⟩
theorem rN (u o n cap s:Nat)(f:Nat->ah)(w:G)(hn:(n:Int)<=400)(K:aK f n=QD)(P:RowDeed w u o n f)(QN:Tab2 w)(QO:Pow w)(H:s<w.heap.size)
  (k0:w.cell? (N s 0 Z)=T (J I 4)) (k1:w.cell? (N s 1 Z)=T (.func (.func 39) #[] #[])) (k2:w.cell? (N s 2 Z)=T (J I 5)) (k3:w.cell? (N s 3 Z)=T (.func (.func 40) #[] #[])) :
  Calls Tryz.prog 38 #[QG #[Y (T (N u o Z)) n cap,Y Z 0 0,Y Z 0 0],Y (T (N s 0 Z)) 2 2] w fun e w'=>e=QF (.tuple #[J I (fc f n).1,J I (fc f n).2])/\Below w.heap.size w w':=by
 obtain⟨R,hR⟩:∃ R,R=fc f n:=⟨_,rfl⟩
 rw[<-hR];have HR:=ae hR;clear hR;have A0:=ae ((q9 w).alloc ly (Q #[Y (T (N u o Z)) n cap,Y Z 0 0,Y Z 0 0] 77));have m0:(w.alloc (Q #[Y (T (N u o Z)) n cap,Y Z 0 0,Y Z 0 0] 77)).cell? (N w.heap.size 0 Z)=T (Y (T (N u o Z)) n cap):=by simp
 have m1:(w.alloc (Q #[Y (T (N u o Z)) n cap,Y Z 0 0,Y Z 0 0] 77)).cell? (N w.heap.size 1 Z)=T (Y Z 0 0):=by simp
 have m2:(w.alloc (Q #[Y (T (N u o Z)) n cap,Y Z 0 0,Y Z 0 0] 77)).cell? (N w.heap.size 2 Z)=T (Y Z 0 0):=by simp
 have hz:(w.alloc (Q #[Y (T (N u o Z)) n cap,Y Z 0 0,Y Z 0 0] 77)).heap.size=w.heap.size+1:=by simp
 have C:=ae P;have QP:=ae K;have ex:=ae QN;have QL:=ae QO;have QJ:=QN.1;have W:=ae (And.intro k0 (And.intro k1 (And.intro k2 k3)));clear P K QN QO k0 k1 k2 k3;go_enter Tryz.func38,Tryz.ntmps38;go_wp2;go_step3;go_wp2;go_step3;go_wp2;generalize w.alloc (Q #[Y (T (N u o Z)) n cap,Y Z 0 0,Y Z 0 0] 77)=WA at A0 m0 m1 m2 hz ⊢;go_loopw [6,7,16] (fun c6 c7 i wr=>∃ k:Nat,k<=n/\c6=J I 0/\c7=J I 0/\i=J I k/\Hid (∀ j,j<k->codeF f j=0)/\Hid (Below (w.heap.size+1) WA wr)) (fun _ _ i _=>n - (intOf i).toNat);case atStart=>exact⟨0,by omega,rfl,rfl,rfl,fun j hj=>absurd hj (E4 _),a8 _ _⟩
 case round =>
  obtain⟨k,hk,rfl,rfl,rfl,X,V⟩:=hrel;have BW:=ae (A0.out.trans (V.out.mono (by omega)));by_cases z:k<n
  ·obtain⟨p0,p1,p2,p3,⟨a0,b,p4,q4⟩,⟨a1,g,p5,q5⟩⟩:=(C.out.below BW.out ly).2 k z
   have O:=ae (vq f k);have D1:=ae ((q9 wr).alloc ly (Q #[U (f k).name,J I (f k).kind,J I (f k).code,U (f k).text,Y a0 (f k).actN b,Y a1 (f k).linksN g] 46));have B1:=ae (V.out.alloc (by have:=V.out.size;omega) (Q #[U (f k).name,J I (f k).kind,J I (f k).code,U (f k).text,Y a0 (f k).actN b,Y a1 (f k).linksN g] 46));have QI:=ae (show SlIns wr a0 (f k).actN (f k).act/\SlLink wr a1 (f k).linksN (f k).links from⟨q4,q5⟩);have QM:=ae (And.intro (QI.out.1.below D1.out ly) (QI.out.2.below D1.out ly));have e0:(wr.alloc (Q #[U (f k).name,J I (f k).kind,J I (f k).code,U (f k).text,Y a0 (f k).actN b,Y a1 (f k).linksN g] 46)).cell? (N wr.heap.size 0 Z)=T (U (f k).name):=by simp
   have e1:(wr.alloc (Q #[U (f k).name,J I (f k).kind,J I (f k).code,U (f k).text,Y a0 (f k).actN b,Y a1 (f k).linksN g] 46)).cell? (N wr.heap.size 1 Z)=T (J I (f k).kind):=by simp
   have e2:(wr.alloc (Q #[U (f k).name,J I (f k).kind,J I (f k).code,U (f k).text,Y a0 (f k).actN b,Y a1 (f k).linksN g] 46)).cell? (N wr.heap.size 2 Z)=T (J I (f k).code):=by simp
   have e3:(wr.alloc (Q #[U (f k).name,J I (f k).kind,J I (f k).code,U (f k).text,Y a0 (f k).actN b,Y a1 (f k).linksN g] 46)).cell? (N wr.heap.size 3 Z)=T (U (f k).text):=by simp
   have e4:(wr.alloc (Q #[U (f k).name,J I (f k).kind,J I (f k).code,U (f k).text,Y a0 (f k).actN b,Y a1 (f k).linksN g] 46)).cell? (N wr.heap.size 4 Z)=T (Y a0 (f k).actN b):=by simp
   have e5:(wr.alloc (Q #[U (f k).name,J I (f k).kind,J I (f k).code,U (f k).text,Y a0 (f k).actN b,Y a1 (f k).linksN g] 46)).cell? (N wr.heap.size 5 Z)=T (Y a1 (f k).linksN g):=by simp
   have aq:(wr.alloc (Q #[U (f k).name,J I (f k).kind,J I (f k).code,U (f k).text,Y a0 (f k).actN b,Y a1 (f k).linksN g] 46)).heap.size=wr.heap.size+1:=by simp
   have ld:w.heap.size+1<=wr.heap.size:=by have:=V.out.size;omega
   clear q4 q5;go_wp2;clear p0 p1 p2 p3 p4 p5 D1;generalize wr.alloc (Q #[U (f k).name,J I (f k).kind,J I (f k).code,U (f k).text,Y a0 (f k).actN b,Y a1 (f k).linksN g] 46)=WD at B1 QM e0 e1 e2 e3 e4 e5 aq ⊢;generalize wr.heap.size=q at e0 e1 e2 e3 e4 e5 aq ld ⊢;go_loopw [6,7,23] (fun c6 c7 i w2=>∃ j:Nat,j<=2/\c6=J I 0/\c7=J I 0/\i=J I j/\Hid (1<=j->fm f k=QB)/\Hid (2<=j->jg f k=QB)/\Hid (Below (q+1) WD w2)) (fun _ _ i _=>2 - (intOf i).toNat);case atStart=>exact⟨0,by omega,rfl,rfl,rfl,(fun h=>by omega),(fun h=>by omega),a8 _ _⟩
   case round =>
    obtain⟨j,hj,rfl,rfl,rfl,HS,HN,l⟩:=hrel;have M:=ae (B1.out.trans (l.out.mono (by omega)));have A:=ae (A0.out.trans (M.out.mono (by omega)));have la:=(A.out.cell (p:=(N s 0 Z)) H).trans W.out.1;have QH:=(A.out.cell (p:=(N s 1 Z)) H).trans W.out.2.1;have bt:=(A.out.cell (p:=(N s 2 Z)) H).trans W.out.2.2.1;have fd:=(A.out.cell (p:=(N s 3 Z)) H).trans W.out.2.2.2;have f0:=(l.out.cell (p:=(N q 0 Z)) (eL q)).trans e0;have f1:=(l.out.cell (p:=(N q 1 Z)) (eL q)).trans e1;have f2:=(l.out.cell (p:=(N q 2 Z)) (eL q)).trans e2;have f3:=(l.out.cell (p:=(N q 3 Z)) (eL q)).trans e3;have f4:=(l.out.cell (p:=(N q 4 Z)) (eL q)).trans e4;have f5:=(l.out.cell (p:=(N q 5 Z)) (eL q)).trans e5;have g0:=(M.out.cell (p:=(N w.heap.size 0 Z)) (eL w.heap.size)).trans m0;have g1:=(M.out.cell (p:=(N w.heap.size 1 Z)) (eL w.heap.size)).trans m1;have g2:=(M.out.cell (p:=(N w.heap.size 2 Z)) (eL w.heap.size)).trans m2;have hs1:q<wr.heap.size:=by have:=l.out.size;omega
    have hs2:w.heap.size<wr.heap.size:=by omega
    have hs3:s<wr.heap.size:=by omega
    rcases(show j=0∨j=1∨j=2 by omega) with rfl | rfl | rfl
    ·have S:=fun(w:G) (a:Addr) (m:Mode)=>NJ Tryz.prog w a (.func (.func 39) #[] #[]) m rfl
     have D:=ae ((q9 wr).alloc ly (Q #[J I 4,.func (.func 39) #[] #[]] 80));have r:=ae (A.out.alloc A.out.size (Q #[J I 4,.func (.func 39) #[] #[]] 80));have E:=ae (And.intro ((QM.out.1.below l.out (by omega)).below D.out ly) ((QM.out.2.below l.out (by omega)).below D.out ly));have QR:=ae (l.out.alloc (by have:=l.out.size;omega) (Q #[J I 4,.func (.func 39) #[] #[]] 80));have x:(wr.alloc (Q #[J I 4,.func (.func 39) #[] #[]] 80)).cell? (N wr.heap.size 0 Z)=T (J I 4):=by simp
     have B:wr.heap.size<(wr.alloc (Q #[J I 4,.func (.func 39) #[] #[]] 80)).heap.size:=by simp
     go_wp2_with fail;clear f0 f1 f2 f3 f4 f5 g0 g1 g2 la QH bt fd S;generalize wr.alloc (Q #[J I 4,.func (.func 39) #[] #[]] 80)=WX at D r E QR x B ⊢;refine(xe u o n cap f k a0 b a1 g _ QP.out z (C.out.below r.out ly) E.out.1 E.out.2 (ex.out.below r.out QJ) (QL.out.below r.out ly)).mono ?_;rintro e w3 ⟨rfl,y⟩;have W3:=ae (r.out.trans (y.mono r.out.size));have C3:=ae (QR.out.trans (y.mono (by have:=QR.out.size;omega)));have cz:=(y.cell (p:=(N wr.heap.size 0 Z)) B).trans x;clear y x;cases hb:fm f k with
     | true =>
      have t:Hid (codeF f k=4):=by show _=_;rw[O.out];rw[gM hb]
      have QK:Hid (R=(4,(k:Int))):=by show _=_;rw[HR.out,iH z X.out (by rw[t.out];decide),t.out]
      go_wp2;try rw[JM]
      go_ret2;exact⟨by simp[QK.out],W3.out⟩
     | false =>have L:=ae hb;go_wp2;exact⟨⟨1,by omega,rfl,rfl,by go_num,fun _=>L.out,(fun h=>by omega),C3.out⟩,by simp[intOf]⟩
    ·have S:=fun(w:G) (a:Addr) (m:Mode)=>NJ Tryz.prog w a (.func (.func 40) #[] #[]) m rfl
     have D:=ae ((q9 wr).alloc ly (Q #[J I 5,.func (.func 40) #[] #[]] 80));have r:=ae (A.out.alloc A.out.size (Q #[J I 5,.func (.func 40) #[] #[]] 80));have E:=ae (And.intro ((QM.out.1.below l.out (by omega)).below D.out ly) ((QM.out.2.below l.out (by omega)).below D.out ly));have QR:=ae (l.out.alloc (by have:=l.out.size;omega) (Q #[J I 5,.func (.func 40) #[] #[]] 80));have x:(wr.alloc (Q #[J I 5,.func (.func 40) #[] #[]] 80)).cell? (N wr.heap.size 0 Z)=T (J I 5):=by simp
     have B:wr.heap.size<(wr.alloc (Q #[J I 5,.func (.func 40) #[] #[]] 80)).heap.size:=by simp
     go_wp2_with fail;clear f0 f1 f2 f3 f4 f5 g0 g1 g2 la QH bt fd S;generalize wr.alloc (Q #[J I 5,.func (.func 40) #[] #[]] 80)=WX at D r E QR x B ⊢;refine(Aw u o n cap f k a0 b a1 g _ QP.out z (C.out.below r.out ly) E.out.1 E.out.2 (ex.out.below r.out QJ) (QL.out.below r.out ly)).mono ?_;rintro e w3 ⟨rfl,y⟩;have W3:=ae (r.out.trans (y.mono r.out.size));have C3:=ae (QR.out.trans (y.mono (by have:=QR.out.size;omega)));have cz:=(y.cell (p:=(N wr.heap.size 0 Z)) B).trans x;clear y x;cases hb:jg f k with
     | true =>
      have t:Hid (codeF f k=5):=by show _=_;rw[O.out];rw[cM (by rw[HS.out (by omega)];simp),gM hb]
      have QK:Hid (R=(5,(k:Int))):=by show _=_;rw[HR.out,iH z X.out (by rw[t.out];decide),t.out]
      go_wp2;try rw[JM]
      go_ret2;exact⟨by simp[QK.out],W3.out⟩
     | false =>have L:=ae hb;go_wp2;exact⟨⟨2,by omega,rfl,rfl,by go_num,fun _=>HS.out (by omega),fun _=>L.out,C3.out⟩,by simp[intOf]⟩
    ·have t:Hid (codeF f k=0):=by show _=_;rw[O.out,cM (by rw[HS.out (by omega)];simp),cM (by rw[HN.out (by omega)];simp)]
     go_wp2
     exact⟨⟨k+1,by omega,rfl,rfl,by go_num,fun j hj=>by
      by_cases e:j=k
      ·subst e;exact t.out
      ·exact X.out j (by omega),M.out⟩,by simp[intOf];omega⟩
  ·obtain rfl:k=n:=by omega
   have QK:Hid (R=(0,0)):=by show _=_;rw[HR.out];exact qI X.out
   go_wp2;try rw[JM]
   go_ret2;exact⟨by simp[QK.out],BW.out⟩
theorem mi (q b n cap:Nat)(f:Nat->ah)(l:Link)(w:G)(h:RowDeed w q b n f)(s:l.ask=QD->0<=l.at_/\l.at_.toNat<n):Calls Tryz.prog 90 #[QG #[Y (T (N q b Z)) n cap],QG #[U l.name,QC l.ask,QC l.has,J I l.at_]] w fun e w'=>e=QF (QG #[QC (dk f l).has,J I (dk f l).code,U (dk f l).text])/\Below w.heap.size w w':=by
 have x:=ae h;have r:=ae s;have j:=ae (show dk f l=if l.ask=QD then (if (f l.at_.toNat).kind=1 then ⟨QD,0,(f l.at_.toNat).text⟩ else if (f l.at_.toNat).kind=3 then ⟨QD,(f l.at_.toNat).code,(f l.at_.toNat).text⟩ else ⟨QB,0,⟨#[]⟩⟩) else ⟨l.has,0,⟨#[]⟩⟩ from rfl);clear h s;obtain⟨R,hR⟩:∃ R,R=dk f l:=⟨_,rfl⟩
 rw[<-hR] at j ⊢;clear hR;obtain⟨nm,ask,o,at_⟩:=l;dsimp only at r j ⊢;have u:=ae ((((q9 w).alloc ly (Q #[Y (T (N q b Z)) n cap] 25)).alloc (by simp) (Q #[U nm,QC ask,QC o,J I at_] 129)).alloc (by simp;omega) (Q #[QC QB,J I 0,U ⟨#[]⟩] 156));cases ask with
 | false =>
  obtain rfl:R=⟨o,0,⟨#[]⟩⟩:=by have:=j.out;simpa using this
  dsimp only;go_enter Tryz.func90,Tryz.ntmps90;go_wp2
  exact bp (v:=QG #[QC o,J I 0,U ⟨#[]⟩]) (by simp[results,Tryz.results90,go_sem]) rfl ⟨rfl,by
   repeat (first | exact a8 _ _ | refine LZ ?_ (by simp<;>omega) _)⟩
 | true =>
  obtain⟨h1,h2⟩:=r.out rfl;obtain⟨p,rfl⟩:=nX h1;have y:p<n:=by simpa using h2
  have i:=ae (show R=if (f p).kind=1 then ⟨QD,0,(f p).text⟩ else if (f p).kind=3 then ⟨QD,(f p).code,(f p).text⟩ else ⟨QB,0,⟨#[]⟩⟩ by have:=j.out;simpa using this);clear j;obtain⟨p0,p1,p2,p3,⟨a2,cap2,p4,t⟩,⟨a3,cap3,p5,z⟩⟩:=(x.out.below u.out ly).2 p y;clear t z r;have hpn:(p:Int)<n:=by omega
  go_enter Tryz.func90,Tryz.ntmps90;by_cases g:(f p).kind=1
  ·obtain rfl:R=⟨QD,0,(f p).text⟩:=by rw[i.out,gM g]
   go_wp2
   exact bp (v:=QG #[QC QD,J I 0,U (f p).text]) (by simp[results,Tryz.results90,go_sem]) rfl ⟨rfl,by
    repeat (first | exact a8 _ _ | refine LZ ?_ (by simp<;>omega) _)⟩
  ·by_cases m:(f p).kind=3
   ·obtain rfl:R=⟨QD,(f p).code,(f p).text⟩:=by rw[i.out,cM g,gM m]
    go_wp2
    exact bp (v:=QG #[QC QD,J I (f p).code,U (f p).text]) (by simp[results,Tryz.results90,go_sem]) rfl ⟨rfl,by
     repeat (first | exact a8 _ _ | refine LZ ?_ (by simp<;>omega) _)⟩
   ·obtain rfl:R=⟨QB,0,⟨#[]⟩⟩:=by rw[i.out,cM g,cM m]
    go_wp2
    exact bp (v:=QG #[QC QB,J I 0,U ⟨#[]⟩]) (by simp[results,Tryz.results90,go_sem]) rfl ⟨rfl,by
     repeat (first | exact a8 _ _ | refine LZ ?_ (by simp<;>omega) _)⟩
end Go.Proofs.YtamacmnikdejeaaGreatDoor.Vp
