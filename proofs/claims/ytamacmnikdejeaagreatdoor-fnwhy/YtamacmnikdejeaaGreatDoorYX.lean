import Derived.Test.YtamacmnikdejeaaGreatDoorYT
import Derived.Deep.WholeRow
import Derived.Deep.DeepCutAuto
set_option maxRecDepth 1000000
set_option maxHeartbeats 8000000
open Go.Addr renaming mk->T
open Go.Value renaming slice->Y,string->U,int->I,bool->QT,agg->QV
open Option renaming none->Z,some->N
open Go.Obj renaming cells->Q
open Go.IntKind renaming i64->J
open Go renaming World->H,Value->QS
open Bool renaming false->QQ,true->QR
open Go.Ending renaming returned->QU
namespace Go.Proofs.YtamacmnikdejeaaGreatDoor.Vp
open RowKit
def m0:Mst:={ S:=fun _=>⟨#[]⟩,size:=0,place:=0,steps:=0,looks:=0,t:=yV }
theorem lL (b:Bool):(iH b).size<=2000:=by cases b<;>decide
def Six (w:H)(g:Nat):Prop:=g<w.heap.size/\∀ j,j<6->∃ v,w.cell? (T g j Z)=N v/\w.frozen? (T g j Z)=QQ
theorem Six.below {w f:H}{g B:Nat}(h:Six w g)(b:Below B w f)(c:g<B):Six f g:=⟨lj h.1 b.size,fun j i=>by
 obtain⟨v,h1,h2⟩:=h.2 j i
 exact⟨v,(b.cell (p:=(T g j Z)) c).trans h1,(b.frozen (p:=(T g j Z)) c).trans h2⟩⟩
theorem Six.only {w i:H}{g b:Nat}(h:Six w g)(c:Only b w i)(f:g≠b):Six i g:=⟨lj h.1 c.size,fun j l=>by
 obtain⟨v,h1,h2⟩:=h.2 j l
 exact⟨v,(c.cell g j h.1 f).trans h1,(c.frozen g j h.1 f).trans h2⟩⟩
theorem wu (w:H)(v0 v1 v2 v3 v4 v5:QS)(t:TypeId):Six (w.alloc (Q #[v0,v1,v2,v3,v4,v5] t)) w.heap.size:=⟨by simp,fun j hj=>by
 rcases(show j=0∨j=1∨j=2∨j=3∨j=4∨j=5 by omega) with rfl | rfl | rfl | rfl | rfl | rfl
 all_goals exact⟨_,by simp;rfl,by simp⟩⟩
theorem js {B g:Nat}{u w:H}(h:Below B u w)(b:B<=g)(v0 v1 v2 v3 v4 v5:QS):Below B u ((((((w.setCell (T g 0 Z) v0).setCell (T g 1 Z) v1).setCell (T g 2 Z) v2).setCell (T g 3 Z) v3).setCell (T g 4 Z) v4).setCell (T g 5 Z) v5) :=
 (((((h.setCell b v0).setCell b v1).setCell b v2).setCell b v3).setCell b v4).setCell b v5
def badT:Turn:=⟨QQ,9,⟨#[]⟩,QQ,⟨#[]⟩,0⟩
def sE (f:Nat->Ins)(cnt:Nat)(y:Nat->aI)(n:Nat):Turn:=if valid f cnt=QQ then badT else if 200<n then badT else if ce y n=QQ then badT else cV f cnt y n 2001 0 0 0 []
def qy (f:Nat->aj)(l:Link):aI :=
 if l.ask=QR then
  (if (f l.at_.toNat).kind=1 then ⟨QR,0,(f l.at_.toNat).text⟩ else if (f l.at_.toNat).kind=3 then ⟨QR,(f l.at_.toNat).code,(f l.at_.toNat).text⟩ else ⟨QQ,0,⟨#[]⟩⟩)
 else ⟨l.has,0,⟨#[]⟩⟩
def yOf (f:Nat->aj)(p:Nat)(k:Nat):aI:=qy f ((f p).links k)
def cQ (f:Nat->aj)(p k:Nat):Turn:=cV (f p).act (f p).actN (yOf f p) k 2001 0 0 0 []
def tS (f:Nat->aj)(p k:Nat):Bool:=(cQ f p k).over || !((cQ f p k).name.toList == ((f p).links k).name.toList) || !((cQ f p k).ask == ((f p).links k).ask)
def ji (f:Nat->aj)(p:Nat):Nat->Nat->Nat
 | 0,k=>k
 | j+1,k=>if tS f p k=QR then k else ji f p j (k+1)
def gV (f:Nat->aj)(p:Nat):Nat:=ji f p (f p).linksN 0
def xZ (f:Nat->aj)(p:Nat):Int :=
 if gV f p<(f p).linksN then 4 else if (cQ f p (gV f p)).over=QQ then 4 else if (cQ f p (gV f p)).code=(f p).code/\(cQ f p (gV f p)).text.toList=(f p).text.toList then 0 else 5
def codeF (f:Nat->aj)(p:Nat):Int:=if (f p).kind=3 then xZ f p else 0
theorem tT (f:Nat->aj)(p:Nat):∀ j k,k<=ji f p j k/\ji f p j k<=k+j
 | 0,k=>⟨j5 _,j5 _⟩
 | j+1,k=>by
  rw[ji];split
  ·omega
  ·have:=tT f p j (k+1)
   omega
theorem pL {f:Nat->aj}{n:Nat}(h:aZ f n=QR):∀ p,p<n->(f p).text.size<=2000/\((f p).kind=1/\(f p).code=0∨(f p).kind=2/\(f p).code=0/\(f p).text.size=0∨(f p).kind=3/\0<=(f p).code/\(f p).code<=5/\valid (f p).act (f p).actN=QR/\(f p).linksN<=200):=by
 intro p c;have h1:=dM (dX h).2.2 p c;simp only[bi,gB,kindOk,kP] at h1;obtain⟨⟨_,g⟩,h2⟩:=h1;refine⟨g,?_⟩;split at h2
 ·rename_i b
  simp only[aP,gB,kP] at h2;exact .inl ⟨b,h2.1.1⟩
 ·split at h2
  ·rename_i b
   simp only[aP,gB,kP] at h2;exact .inr (.inl ⟨b,h2.1.1.1,h2.2⟩)
  ·split at h2
   ·rename_i b
    simp only[ci,gB,kP] at h2;exact .inr (.inr ⟨b,h2.1.1.1.1,h2.1.1.1.2,h2.1.1.2,h2.1.2⟩)
   ·simp at h2
theorem rA {f:Nat->aj}{n:Nat}(h:aZ f n=QR){l:Link}(g:l.ask=QR)(j:l.at_.toNat<n):qy f l=⟨decide (¬ (f l.at_.toNat).kind=2),(f l.at_.toNat).code,(f l.at_.toNat).text⟩:=by
 obtain⟨h1,h2⟩:=pL h _ j;unfold qy;rw[gA g];rcases h2 with ⟨b,c⟩ | ⟨b,c,i⟩ | ⟨b,c⟩
 ·rw[gA b,b,c];rfl
 ·rw[eI (by omega),eI (by omega),b,c]
  have:(f l.at_.toNat).text=⟨#[]⟩:=PO (MV i);rw[this];rfl
 ·rw[eI (by omega),gA b,b];rfl
abbrev ei (at_:Int)(sv:QS)(st lk:Int)(f:Bool)(c:Int)(x:ByteArray)(ask:Bool)(nm:ByteArray)(b:Bool):QS :=
 QV #[I J at_,sv,I J st,I J lk,QT f,I J c,U x,QT ask,U nm,QT b]
theorem ec {B g:Nat}{u w:H}(h:Below B u w)(b:B<=g)(v0 v1 v2 v3 v4 v5 v6 v7 v8 v9:QS):Below B u ((((((((((w.setCell (T g 0 Z) v0).setCell (T g 1 Z) v1).setCell (T g 2 Z) v2).setCell (T g 3 Z) v3).setCell (T g 4 Z) v4).setCell (T g 5 Z) v5).setCell (T g 6 Z) v6).setCell (T g 7 Z) v7).setCell (T g 8 Z) v8).setCell (T g 9 Z) v9) :=
 (((((((((h.setCell b v0).setCell b v1).setCell b v2).setCell b v3).setCell b v4).setCell b v5).setCell b v6).setCell b v7).setCell b v8).setCell b v9
theorem fG (at_:Int)(a:Option Addr)(n cap:Nat)(st lk:Int)(g:Bool)(c0:Int)(f:ByteArray)(ask:Bool)(nm:ByteArray)(b:Bool)(c:Int)(x:ByteArray)(w:H):Calls Tryz.prog 173 #[ei at_ (Y a n cap) st lk g c0 f ask nm b,I J c,U x] w fun e w'=>e=QU (ei at_ (Y a n cap) st lk QR c x ask nm b)/\Below w.heap.size w w':=by go_enter Tryz.func173,Tryz.ntmps173;go_wp2;refine bp (v:=ei at_ (Y a n cap) st lk QR c x ask nm b) (by simp[results,Tryz.results173,go_sem]) rfl ⟨rfl,(br.alloc ly _).alloc (by simp) _⟩
theorem vt (op:Nat)(w:H)(h1:1<=op)(h15:op<=15):Calls Tryz.prog 174 #[I J op] w fun e w'=>e=QU (.tuple #[I J (bC op),I J (cC op)])/\w'=w:=by
 rcases(show op=1∨op=2∨op=3∨op=4∨op=5∨op=6∨op=7∨op=8∨op=9∨op=10∨op=11∨op=12∨op=13∨op=14∨op=15 by omega) with rfl | rfl | rfl | rfl | rfl | rfl | rfl | rfl | rfl | rfl | rfl | rfl | rfl | rfl | rfl;all_goals
  go_enter Tryz.func174,Tryz.ntmps174;go_wp2;refine bp (v:=.tuple #[I J (bC _),I J (cC _)]) (by simp[results,Tryz.results174,go_sem,bC,cC]) rfl ⟨rfl,rfl⟩
def bY (op n:Nat)(t a b:ByteArray):List ByteArray :=
 match op with
 | 1=>[t]
 | 2=>[b++a]
 | 3=>[if n<a.size then a.extract 0 n else a]
 | 4=>[if n<a.size then a.extract n a.size else ⟨#[]⟩]
 | 5=>[jY a n]
 | 6=>[iH (a.toList == b.toList)]
 | 7=>[a,a]
 | 8=>[a,b]
 | _=>[]
theorem na (w:H)(x:ByteArray)(g:Nat)(b:g=w.heap.size):RowStr (w.alloc (Q #[U x] 9)) g 0 1 (fun i=>[x].getD i ⟨#[]⟩):=by
 subst b
 exact⟨by simp,fun i hi=>by
  obtain rfl:i=0:=by omega
  simp⟩
theorem FP (w:H)(x y:ByteArray)(g:Nat)(b:g=w.heap.size):RowStr (w.alloc (Q #[U x,U y] 9)) g 0 2 (fun i=>[x,y].getD i ⟨#[]⟩):=by subst b;exact⟨by simp,fun i hi=>by rcases(show i=0∨i=1 by omega) with rfl | rfl<;>simp⟩
theorem vu (op n:Nat)(t a b:ByteArray)(w:H)(h1:1<=op)(h8:op<=8)(l:a.size<=2000)(hb:b.size<=2000)(hn:n<=2000):Calls Tryz.prog 176 #[QV #[I J op,U t,I J n],U a,U b] w fun e w'=>∃ g,e=QU (Y (N (T g 0 Z)) (bY op n t a b).length (bY op n t a b).length)/\RowStr w' g 0 (bY op n t a b).length (fun i=>(bY op n t a b).getD i ⟨#[]⟩)/\w.heap.size<=g/\Below w.heap.size w w':=by
 have c:=ae ((q9 w).alloc ly (Q #[I J op,U t,I J n] 146));rcases(show op=1∨op=2∨op=3∨op=4∨op=5∨op=6∨op=7∨op=8 by omega) with rfl | rfl | rfl | rfl | rfl | rfl | rfl | rfl
 ·go_enter Tryz.func176,Tryz.ntmps176
  go_wp2;go_ret;exact⟨_,rfl,na _ t _ (by simp),by simp,c.alloc (by simp) _⟩
 ·go_enter Tryz.func176,Tryz.ntmps176
  go_wp2;go_ret;exact⟨_,rfl,na _ (b++a) _ (by simp),by simp,c.alloc (by simp) _⟩
 ·by_cases h:(n:Int)<a.size
  ·have e:bY 3 n t a b=[a.extract 0 n]:=by simp[bY];omega
   rw[e];clear e;go_enter Tryz.func176,Tryz.ntmps176;go_wp2;go_ret;exact⟨_,rfl,na _ _ _ (by simp),by simp,c.alloc (by simp) _⟩
  ·have e:bY 3 n t a b=[a]:=by simp[bY];omega
   rw[e];clear e;go_enter Tryz.func176,Tryz.ntmps176;go_wp2;go_ret;exact⟨_,rfl,na _ _ _ (by simp),by simp,c.alloc (by simp) _⟩
 ·by_cases h:(n:Int)<a.size
  ·have e:bY 4 n t a b=[a.extract n a.size]:=by simp[bY];omega
   rw[e];clear e;go_enter Tryz.func176,Tryz.ntmps176;go_wp2;go_ret;exact⟨_,rfl,na _ _ _ (by simp),by simp,c.alloc (by simp) _⟩
  ·have e:bY 4 n t a b=[⟨#[]⟩]:=by simp[bY];omega
   rw[e];clear e;go_enter Tryz.func176,Tryz.ntmps176;go_wp2;go_ret;exact⟨_,rfl,na _ _ _ (by simp),by simp,c.alloc (by simp) _⟩
 ·go_enter Tryz.func176,Tryz.ntmps176
  go_wp2_with fail;refine(vh a n _ l hn).mono ?_;rintro e m ⟨rfl,f⟩;have j:=ae (c.trans (f.mono (by simp)));clear f;go_wp2;go_ret;exact⟨_,rfl,na _ (jY a n) _ rfl,j.size,j.alloc j.size _⟩
 ·go_enter Tryz.func176,Tryz.ntmps176
  go_wp2_with fail;refine(pD _ _).mono ?_;rintro e m ⟨rfl,rfl⟩;go_wp2;go_ret;exact⟨_,rfl,na _ (iH (a.toList == b.toList)) _ (by simp),by simp,c.alloc (by simp) _⟩
 ·go_enter Tryz.func176,Tryz.ntmps176
  go_wp2;go_ret;exact⟨_,rfl,FP _ a a _ (by simp),by simp,c.alloc (by simp) _⟩
 ·go_enter Tryz.func176,Tryz.ntmps176
  go_wp2;go_ret;exact⟨_,rfl,FP _ a b _ (by simp),by simp,c.alloc (by simp) _⟩
def Ten (w:H)(g:Nat)(v0 v1 v2 v3 v4 v5 v6 v7 v8 v9:QS):Prop:=g<w.heap.size/\(w.cell? (T g 0 Z)=N v0/\w.frozen? (T g 0 Z)=QQ)/\(w.cell? (T g 1 Z)=N v1/\w.frozen? (T g 1 Z)=QQ)/\(w.cell? (T g 2 Z)=N v2/\w.frozen? (T g 2 Z)=QQ)/\(w.cell? (T g 3 Z)=N v3/\w.frozen? (T g 3 Z)=QQ)/\(w.cell? (T g 4 Z)=N v4/\w.frozen? (T g 4 Z)=QQ)/\(w.cell? (T g 5 Z)=N v5/\w.frozen? (T g 5 Z)=QQ)/\(w.cell? (T g 6 Z)=N v6/\w.frozen? (T g 6 Z)=QQ)/\(w.cell? (T g 7 Z)=N v7/\w.frozen? (T g 7 Z)=QQ)/\(w.cell? (T g 8 Z)=N v8/\w.frozen? (T g 8 Z)=QQ)/\(w.cell? (T g 9 Z)=N v9/\w.frozen? (T g 9 Z)=QQ)
section
variable {w w':H}{g:Nat}{v0 v1 v2 v3 v4 v5 v6 v7 v8 v9:QS}
theorem Ten.of_block (h:Ten w g v0 v1 v2 v3 v4 v5 v6 v7 v8 v9)(hz:w.heap.size<=w'.heap.size)(hb:w'.heap[g]?=w.heap[g]?):Ten w' g v0 v1 v2 v3 v4 v5 v6 v7 v8 v9:=by have c:∀ o,w'.cell? (T g o Z)=w.cell? (T g o Z):=fun o=>cj (a:=(T g o Z)) hb;have b:∀ o,w'.frozen? (T g o Z)=w.frozen? (T g o Z):=fun o=>JW (a:=(T g o Z)) hb;unfold Ten at h ⊢;simp only[c,b];exact⟨lj h.1 hz,h.2⟩
theorem Ten.below {B:Nat}(h:Ten w g v0 v1 v2 v3 v4 v5 v6 v7 v8 v9)(hb:Below B w w')(b:g<B):Ten w' g v0 v1 v2 v3 v4 v5 v6 v7 v8 v9:=h.of_block hb.size (hb.block g b)
theorem Ten.grown {row:Option Nat}(h:Ten w g v0 v1 v2 v3 v4 v5 v6 v7 v8 v9)(hb:w.grownBy w' row)(b:N g≠row):Ten w' g v0 v1 v2 v3 v4 v5 v6 v7 v8 v9:=h.of_block hb.size (hb.block g h.1 b)
theorem Ten.al (h:Ten w g v0 v1 v2 v3 v4 v5 v6 v7 v8 v9)(o:Obj):Ten (w.alloc o) g v0 v1 v2 v3 v4 v5 v6 v7 v8 v9:=h.below ((q9 w).alloc ly o) h.1
theorem Ten.other (h:Ten w g v0 v1 v2 v3 v4 v5 v6 v7 v8 v9)(p:Addr)(u:QS)(b:p.block≠g):Ten (w.setCell p u) g v0 v1 v2 v3 v4 v5 v6 v7 v8 v9:=h.of_block (by simp) (qh w p u g (fun e=>b e.symm))
end
theorem kU (w:H)(v0 v1 v2 v3 v4 v5 v6 v7 v8 v9:QS)(t:TypeId)(g:Nat)(b:g=w.heap.size):Ten (w.alloc (Q #[v0,v1,v2,v3,v4,v5,v6,v7,v8,v9] t)) g v0 v1 v2 v3 v4 v5 v6 v7 v8 v9:=by subst b;simp[Ten]
section
variable {w:H}{g:Nat}{v0 v1 v2 v3 v4 v5 v6 v7 v8 v9:QS}
theorem Ten.sets (h:Ten w g v0 v1 v2 v3 v4 v5 v6 v7 v8 v9)(u:QS):Ten (w.setCell (T g 0 Z) u) g u v1 v2 v3 v4 v5 v6 v7 v8 v9/\Ten (w.setCell (T g 1 Z) u) g v0 u v2 v3 v4 v5 v6 v7 v8 v9/\Ten (w.setCell (T g 2 Z) u) g v0 v1 u v3 v4 v5 v6 v7 v8 v9/\Ten (w.setCell (T g 3 Z) u) g v0 v1 v2 u v4 v5 v6 v7 v8 v9/\Ten (w.setCell (T g 4 Z) u) g v0 v1 v2 v3 u v5 v6 v7 v8 v9/\Ten (w.setCell (T g 5 Z) u) g v0 v1 v2 v3 v4 u v6 v7 v8 v9/\Ten (w.setCell (T g 6 Z) u) g v0 v1 v2 v3 v4 v5 u v7 v8 v9/\Ten (w.setCell (T g 7 Z) u) g v0 v1 v2 v3 v4 v5 v6 u v8 v9/\Ten (w.setCell (T g 8 Z) u) g v0 v1 v2 v3 v4 v5 v6 v7 u v9/\Ten (w.setCell (T g 9 Z) u) g v0 v1 v2 v3 v4 v5 v6 v7 v8 u:=by have o:∀ i j:Nat,i≠j->(w.setCell (T g i Z) u).cell? (T g j Z)=w.cell? (T g j Z):=fun i j hij=>sq _ _ _ _ (by simp);have s:∀ i v,w.cell? (T g i Z)=N v->(w.setCell (T g i Z) u).cell? (T g i Z)=N u:=fun i v e=>p7 _ _ _ (by rw[e];rfl);obtain⟨z,⟨b,D⟩,⟨m,ZB⟩,⟨n,A⟩,⟨r,E⟩,⟨t,y⟩,⟨c,B⟩,⟨l,F⟩,⟨q,G⟩,⟨f,C⟩,p,x⟩:=h;simp[Ten,o,z,s _ _ b,s _ _ m,s _ _ n,s _ _ r,s _ _ t,s _ _ c,s _ _ l,s _ _ q,s _ _ f,s _ _ p,b,m,n,r,t,c,l,q,f,p,D,ZB,A,E,y,B,F,G,C,x]
theorem Ten.set0 (h:Ten w g v0 v1 v2 v3 v4 v5 v6 v7 v8 v9)(u:QS):Ten (w.setCell (T g 0 Z) u) g u v1 v2 v3 v4 v5 v6 v7 v8 v9:=(h.sets u).1
theorem Ten.set1 (h:Ten w g v0 v1 v2 v3 v4 v5 v6 v7 v8 v9)(u:QS):Ten (w.setCell (T g 1 Z) u) g v0 u v2 v3 v4 v5 v6 v7 v8 v9:=(h.sets u).2.1
theorem Ten.set2 (h:Ten w g v0 v1 v2 v3 v4 v5 v6 v7 v8 v9)(u:QS):Ten (w.setCell (T g 2 Z) u) g v0 v1 u v3 v4 v5 v6 v7 v8 v9:=(h.sets u).2.2.1
theorem Ten.set3 (h:Ten w g v0 v1 v2 v3 v4 v5 v6 v7 v8 v9)(u:QS):Ten (w.setCell (T g 3 Z) u) g v0 v1 v2 u v4 v5 v6 v7 v8 v9:=(h.sets u).2.2.2.1
theorem Ten.set4 (h:Ten w g v0 v1 v2 v3 v4 v5 v6 v7 v8 v9)(u:QS):Ten (w.setCell (T g 4 Z) u) g v0 v1 v2 v3 u v5 v6 v7 v8 v9:=(h.sets u).2.2.2.2.1
theorem Ten.set5 (h:Ten w g v0 v1 v2 v3 v4 v5 v6 v7 v8 v9)(u:QS):Ten (w.setCell (T g 5 Z) u) g v0 v1 v2 v3 v4 u v6 v7 v8 v9:=(h.sets u).2.2.2.2.2.1
theorem Ten.set6 (h:Ten w g v0 v1 v2 v3 v4 v5 v6 v7 v8 v9)(u:QS):Ten (w.setCell (T g 6 Z) u) g v0 v1 v2 v3 v4 v5 u v7 v8 v9:=(h.sets u).2.2.2.2.2.2.1
theorem Ten.set7 (h:Ten w g v0 v1 v2 v3 v4 v5 v6 v7 v8 v9)(u:QS):Ten (w.setCell (T g 7 Z) u) g v0 v1 v2 v3 v4 v5 v6 u v8 v9:=(h.sets u).2.2.2.2.2.2.2.1
theorem Ten.set8 (h:Ten w g v0 v1 v2 v3 v4 v5 v6 v7 v8 v9)(u:QS):Ten (w.setCell (T g 8 Z) u) g v0 v1 v2 v3 v4 v5 v6 v7 u v9:=(h.sets u).2.2.2.2.2.2.2.2.1
theorem Ten.set9 (h:Ten w g v0 v1 v2 v3 v4 v5 v6 v7 v8 v9)(u:QS):Ten (w.setCell (T g 9 Z) u) g v0 v1 v2 v3 v4 v5 v6 v7 v8 u:=(h.sets u).2.2.2.2.2.2.2.2.2
end
theorem FQ (w:H)(b:Array QS)(ty:TypeId)(R QX:Obj)(j:Nat)(v:QS)(c:b[j]?=N v):(((w.alloc (Q b ty)).alloc R).alloc QX).cell? (T w.heap.size j Z)=N v:=by rw[(((eL (w.alloc (Q b ty)).heap.size _).alloc ly R).alloc (by simp) QX).cell (p:=(T w.heap.size j Z)) (by simp)];simp[c]
abbrev SO:=(Nat × Nat × Nat × List ByteArray) ⊕ (Int × ByteArray × Nat) ⊕ (Bool × ByteArray × Nat)
abbrev strs (s:List ByteArray):List QS:=s.reverse.map Value.string
def SoIs (w:H)(base:Nat)(v:QS):SO->Prop
 | .inl (p,st,l,s)=>∃ a cap,v=ei p (Y a s.length cap) st l QQ 0 ⟨#[]⟩ QQ ⟨#[]⟩ QQ/\w.ownsRow base 9 1 (Y a s.length cap) s.length (strs s)
 | .inr (.inl (c,x,st))=>∃ (at_:Int) (a:Option Addr) (n cap:Nat) (lk:Int),v=ei at_ (Y a n cap) st lk QR c x QQ ⟨#[]⟩ QQ
 | .inr (.inr (ask,nm,st))=>∃ (at_:Int) (a:Option Addr) (n cap:Nat) (lk:Int),v=ei at_ (Y a n cap) st lk QQ 0 ⟨#[]⟩ ask nm QR
theorem SoIs.kept {w w':H}{base b:Nat}{v:QS}{r:SO}(h:SoIs w base v r)(hb:Below w.heap.size w w')(f:b<=base):SoIs w' b v r:=by
 rcases r with ⟨p,st,l,s⟩ | ⟨c,x,st⟩ | ⟨ask,nm,st⟩
 ·obtain⟨a,cap,e,g⟩:=h
  exact⟨a,cap,e,aE (own_below g hb ly) f⟩
 ·exact h
 ·exact h
theorem zO {w:H}{base:Nat}{e:TypeId}{g k n cap:Nat}{j:ByteArray}{i:Int}{b:List QS}(h:w.ownsRow base e 1 (Y (N (T g 0 Z)) n cap) n b)(c:b[0]?=N (U j))(f:w.cell? (T k 0 Z)=N (I J i)):k≠g:=by rintro rfl;have:=h.cells (g:=k) rfl 0 _ c;simp[Addr.add] at this;rw[f] at this;simp at this
theorem gI (x:ByteArray)(s:List ByteArray):strs (x :: s)=strs s++[U x]:=by simp[strs]
theorem wv {x:ByteArray}{s:List ByteArray}:∃ b,(strs s++[Value.string x])[0]?=N (U b):=by
 rw[<-gI];simp only[strs,IN,MG];have h:0<(x :: s).reverse.length:=by simp
 exact⟨_,_,gq h,rfl⟩
theorem ed {w:H}{base g n cap:Nat}{e:TypeId}{b:List QS}(h:w.ownsRow base e 1 (Y (N (T g 0 Z)) n cap) n b){k:Nat}(c:k≠g)(u:QS)(j:Nat):(w.setCell (T k j Z) u).ownsRow base e 1 (Y (N (T g 0 Z)) n cap) n b :=
 PH h (by simp[Value.ownBlock];exact fun e=>c e.symm) u
theorem Cs {w:H}{base g n cap:Nat}{e:TypeId}{c:List QS}(h:w.ownsRow base e 1 (Y (N (T g 0 Z)) n cap) n c){k:Nat}(b:k≠g)(v0 v1 v2 v3 v4 v5 v6 v7 v8 v9:QS):World.ownsRow ((((((((((w.setCell (T k 0 Z) v0).setCell (T k 1 Z) v1).setCell (T k 2 Z) v2).setCell (T k 3 Z) v3).setCell (T k 4 Z) v4).setCell (T k 5 Z) v5).setCell (T k 6 Z) v6).setCell (T k 7 Z) v7).setCell (T k 8 Z) v8).setCell (T k 9 Z) v9) base e 1 (Y (N (T g 0 Z)) n cap) n c :=
 ed (ed (ed (ed (ed (ed (ed (ed (ed (ed h b v0 0) b v1 1) b v2 2) b v3 3) b v4 4) b v5 5) b v6 6) b v7 7) b v8 8) b v9 9
def j7 (y:Nat->aI)(n:Nat)(a:Bool)(nm:ByteArray)(s:List ByteArray)(p st l:Nat):SO :=
 if n<=l then .inr (.inr (a,nm,st)) else if a=QQ then .inl (p,st,(l+1),(iH (y l).has :: s)) else if (y l).has=QQ then .inr (.inl (4,nm,st))
 else if (y l).code=0 then .inl (p,st,(l+1),((y l).text :: s)) else .inr (.inl (5,nm,st))
def jG (y:Nat->aI)(n op:Nat)(b nm:ByteArray)(s:List ByteArray)(p st l:Nat):SO :=
 if av nm=QQ then .inr (.inl (2,b,st)) else if l=200 then .inr (.inl (3,⟨#[]⟩,st)) else j7 y n ((op:Int) == 12) nm s p st l
theorem zP {y:Nat->aI}{n op:Nat}{i nm:ByteArray}{s:List ByteArray}{p st l:Nat}{b:SO}(h:b=jG y n op i nm s p st l)(j:op=12∨op=13):(av nm=QQ/\b=.inr (.inl (2,i,st)))∨(av nm=QR/\((l:Int) == 200)=QR/\b=.inr (.inl (3,⟨#[]⟩,st))) ∨
  (av nm=QR/\((l:Int) == 200)=QQ/\((n<=l/\b=.inr (.inr (((op:Int) == 12),nm,st)))∨(l<n/\((op=13/\b=.inl (p,st,(l+1),(iH (y l).has :: s)))∨(op=12/\(((y l).has=QQ/\b=.inr (.inl (4,nm,st)))∨((y l).has=QR/\(((y l).code=0/\b=.inl (p,st,(l+1),((y l).text :: s)))∨(((y l).code == 0)=QQ/\b=.inr (.inl (5,nm,st))))))))))):=by
 unfold jG j7 at h;by_cases h1:av nm=QQ
 ·rw[gA h1] at h;exact .inl ⟨h1,h⟩
 rw[eI h1] at h;have h1:av nm=QR:=by simpa using h1
 by_cases h2:l=200
 ·rw[gA h2] at h;exact .inr (.inl ⟨h1,by simp;omega,h⟩)
 rw[eI h2] at h;refine .inr (.inr ⟨h1,by simp;omega,?_⟩);by_cases g:n<=l
 ·rw[gA g] at h;exact .inl ⟨g,h⟩
 rw[eI g] at h;refine .inr ⟨by omega,?_⟩;rcases j with rfl | rfl
 ·rw[eI (by simp)] at h
  by_cases c:(y l).has=QQ
  ·rw[gA c] at h;exact .inr ⟨rfl,.inl ⟨c,h⟩⟩
  rw[eI c] at h;by_cases f:(y l).code=0
  ·rw[gA f] at h;exact .inr ⟨rfl,.inr ⟨by simpa using c,.inl ⟨f,h⟩⟩⟩
  rw[eI f] at h;exact .inr ⟨rfl,.inr ⟨by simpa using c,.inr ⟨by simpa using f,h⟩⟩⟩
 ·rw[gA (by simp)] at h;exact .inl ⟨rfl,h⟩
structure LkS (w:H)(op:Int)(base:Nat)(a:Option Addr)(cap:Nat)(s:List ByteArray)(p st lk:Int)(V:H):Prop where
 run:Ten V (w.heap.size+1) (I J p) (Y a s.length cap) (I J st) (I J lk) (QT QQ) (I J 0) (U ⟨#[]⟩) (QT QQ) (U ⟨#[]⟩) (QT QQ)
 zer:Ten V (w.heap.size+1+1) (I J 0) (Y Z 0 0) (I J 0) (I J 0) (QT QQ) (I J 0) (U ⟨#[]⟩) (QT QQ) (U ⟨#[]⟩) (QT QQ)
 bl:Below w.heap.size w V
 own:V.ownsRow base 9 1 (Y a s.length cap) s.length (strs s)
 ne:∀ k,w.heap.size<=k->Value.ownBlock (Y a s.length cap)≠N k
 arg:V.cell? (T w.heap.size 0 Z)=N (I J op)
section
variable {w V QY:H}{base cap:Nat}{a:Option Addr}{s:List ByteArray}{op p st lk:Int}
theorem LkS.below (h:LkS w op base a cap s p st lk V)(b:Below V.heap.size V QY):LkS w op base a cap s p st lk QY :=
 ⟨h.run.below b h.run.1,h.zer.below b h.zer.1,h.bl.trans (b.mono h.bl.size),own_below h.own b ly,h.ne,(b.cell (p:=(T w.heap.size 0 Z)) (by have:=h.run.1;show w.heap.size<_;omega)).trans h.arg⟩
theorem LkS.next (h:LkS w op base a cap s p st lk V)(q:Int):LkS w op base a cap s p st q (V.setCell (T (w.heap.size+1) 3 Z) (I J q)) :=
 ⟨h.run.set3 _,h.zer.other _ _ (by simp),h.bl.setCell (p:=(T (w.heap.size+1) 3 Z)) (by simp) _,PH h.own (a:=(T (w.heap.size+1) 3 Z)) (h.ne _ (by simp)) _,h.ne,(sq _ _ _ _ (by simp)).trans h.arg⟩
theorem LkS.al (h:LkS w op base a cap s p st lk V)(o:Obj):LkS w op base a cap s p st lk (V.alloc o):=h.below (br.alloc ly o)
theorem LkS.drew (h:LkS w op base a cap s p st lk V):LkS w op base a cap s p st lk V.drew:=h.below br.drew
theorem LkS.grown (h:LkS w op base a cap s p st lk V)(b:V.grownBy QY (Value.slice a s.length cap).ownBlock)(hb:base<=w.heap.size):Ten QY (w.heap.size+1) (I J p) (Y a s.length cap) (I J st) (I J lk) (QT QQ) (I J 0) (U ⟨#[]⟩) (QT QQ) (U ⟨#[]⟩) (QT QQ)/\Ten QY (w.heap.size+1+1) (I J 0) (Y Z 0 0) (I J 0) (I J 0) (QT QQ) (I J 0) (U ⟨#[]⟩) (QT QQ) (U ⟨#[]⟩) (QT QQ)/\Below base w QY :=
 ⟨h.run.grown b fun e=>h.ne _ (by omega) e.symm,h.zer.grown b fun e=>h.ne _ (by omega) e.symm,bg (h.bl.mono hb) b (j4 hb h.bl.size) fun k e=>(h.own.lt k e).1⟩
end
theorem x6 (op:Nat)(t:ByteArray)(k:Int)(p st l:Nat)(a:Option Addr)(cap:Nat)(s:List ByteArray)(nm B:ByteArray)(b2 o2 n aq base:Nat)(y:Nat->aI)(w:H)
  (hY:RowReply w b2 o2 n y) (Q2:w.ownsRow base 9 1 (Y a s.length cap) s.length (strs s)) (hb:base<=w.heap.size) (la:op=12∨op=13) (hl:l<=200) (hs:s.length<=50) :
  Calls Tryz.prog 175 #[QV #[I J op,U t,I J k],ei p (Y a s.length cap) st l QQ 0 ⟨#[]⟩ QQ ⟨#[]⟩ QQ,U nm,U B,Y (N (T b2 o2 Z)) n aq] w fun e w'=>∃ v,e=QU v/\SoIs w' base v (jG y n op B nm s p st l)/\Below base w w':=by
 obtain⟨so,z⟩:∃ so,so=jG y n op B nm s p st l:=⟨_,rfl⟩
 rw[<-z];have HQ:=ae (zP z la);have HY:=ae hY;have A0:=ae ((((q9 w).alloc ly (Q #[I J op,U t,I J k] 146)).alloc (by simp) (Q #[I J p,Y a s.length cap,I J st,I J l,QT QQ,I J 0,U ⟨#[]⟩,QT QQ,U ⟨#[]⟩,QT QQ] 216)).alloc (by simp<;>omega) (Q #[I J 0,Y Z 0 0,I J 0,I J 0,QT QQ,I J 0,U ⟨#[]⟩,QT QQ,U ⟨#[]⟩,QT QQ] 216));have C:=ae (LkS.mk (p:=p) (st:=st) (lk:=l) ((kU (w.alloc (Q #[I J op,U t,I J k] 146)) _ _ _ _ _ _ _ _ _ _ 216 (w.heap.size+1) (by simp)).al _) (kU _ _ _ _ _ _ _ _ _ _ _ 216 (w.heap.size+1+1) (by simp)) A0.out (own_below Q2 A0 ly) (fun k hk e=>by have:=(Q2.lt k e).2;omega) (FQ w #[I J op,U t,I J k] 146 (Q #[I J p,Y a s.length cap,I J st,I J l,QT QQ,I J 0,U ⟨#[]⟩,QT QQ,U ⟨#[]⟩,QT QQ] 216) (Q #[I J 0,Y Z 0 0,I J 0,I J 0,QT QQ,I J 0,U ⟨#[]⟩,QT QQ,U ⟨#[]⟩,QT QQ] 216) 0 (I J op) rfl));clear z hY Q2 A0;go_enter Tryz.func175,Tryz.ntmps175;go_wp2_with fail;generalize ((w.alloc (Q #[I J op,U t,I J k] 146)).alloc (Q #[I J p,Y a s.length cap,I J st,I J l,QT QQ,I J 0,U ⟨#[]⟩,QT QQ,U ⟨#[]⟩,QT QQ] 216)).alloc (Q #[I J 0,Y Z 0 0,I J 0,I J 0,QT QQ,I J 0,U ⟨#[]⟩,QT QQ,U ⟨#[]⟩,QT QQ] 216)=W0 at C ⊢;refine(cY nm _).mono ?_;rintro e f ⟨rfl,ZB⟩;replace C:=ae (C.below ZB);have hz1:=C.zer.1;have i0:=C.arg;clear ZB;have R1:=ae C.run;obtain⟨r,⟨c0,f0⟩,⟨c1,f1⟩,⟨c2,L⟩,⟨c3,f3⟩,⟨c4,O⟩,⟨c5,f5⟩,⟨c6,R⟩,⟨V,f7⟩,⟨P,f8⟩,c9,QW⟩:=R1.out;rcases HQ.out with ⟨h1,rfl⟩ | ⟨h1,h2,rfl⟩ | ⟨h1,h2,⟨h3,rfl⟩ | ⟨h3,h⟩⟩
 all_goals
  rw[h1];clear HQ
 case' inr.inr.inl =>
  have ZE:=ae (((C.zer.other (T (w.heap.size+1) 9 Z) (QT QR) (by simp)).other (T (w.heap.size+1) 7 Z) (QT ((op:Int) == 12)) (by simp)).other (T (w.heap.size+1) 8 Z) (U nm) (by simp));have B2:=ae (((C.bl.setCell (p:=(T (w.heap.size+1) 9 Z)) (by simp) (QT QR)).setCell (p:=(T (w.heap.size+1) 7 Z)) (by simp) (QT ((op:Int) == 12))).setCell (p:=(T (w.heap.size+1) 8 Z)) (by simp) (U nm));obtain⟨u,⟨z0,y0⟩,⟨z1,QX⟩,⟨z2,X⟩,⟨z3,M⟩,⟨i,QZ⟩,⟨q,y5⟩,⟨j,S⟩,⟨g,y7⟩,⟨m,y8⟩,o,QY⟩:=ZE.out;have hw:(n:Int)<=l:=by omega
  go_wp2;exact bp (v:=ei p (Y a s.length cap) st l QQ 0 ⟨#[]⟩ ((op:Int) == 12) nm QR) (by simp[results,Tryz.results175,go_sem,z0,z1,z2,z3,i,q,j,g,m,o]) rfl ⟨_,rfl,⟨_,_,_,_,_,rfl⟩,ec (B2.mono hb) (by omega) _ _ _ _ _ _ _ _ _ _⟩
 case' inr.inr.inr =>
  obtain⟨d0,d1,d2⟩:=(HY.below C.bl ly).2 l h3;have hln:(l:Int)<n:=by omega
  have hz0:w.heap.size<f.heap.size:=by omega
  have hz01:w.heap.size+1<f.heap.size:=by omega
  replace C:=ae ((C.next ((l:Int)+1)).al (Q #[QT (y l).has,I J (y l).code,U (y l).text] 156));have g0:=mH (f.setCell (T (w.heap.size+1) 3 Z) (I J ((l:Int)+1))) #[QT (y l).has,I J (y l).code,U (y l).text] 156 f.heap.size 0 (QT (y l).has) (by simp) rfl;have g1:=mH (f.setCell (T (w.heap.size+1) 3 Z) (I J ((l:Int)+1))) #[QT (y l).has,I J (y l).code,U (y l).text] 156 f.heap.size 1 (I J (y l).code) (by simp) rfl;have g2:=mH (f.setCell (T (w.heap.size+1) 3 Z) (I J ((l:Int)+1))) #[QT (y l).has,I J (y l).code,U (y l).text] 156 f.heap.size 2 (U (y l).text) (by simp) rfl;have mv:f.heap.size<((f.setCell (T (w.heap.size+1) 3 Z) (I J ((l:Int)+1))).alloc (Q #[QT (y l).has,I J (y l).code,U (y l).text] 156)).heap.size:=by simp
  go_upto_region 12 with fail;clear r c0 f0 c1 f1 c2 L c3 f3 c4 O c5 f5 c6 R V f7 P f8 c9 QW R1 d0 d1 d2 i0;generalize (f.setCell (T (w.heap.size+1) 3 Z) (I J ((l:Int)+1))).alloc (Q #[QT (y l).has,I J (y l).code,U (y l).text] 156)=W at C g0 g1 g2 mv ⊢;have i0:=C.arg;have hbW:base<=W.heap.size:=j4 hb C.bl.size;obtain⟨E,hi,Q9,K,D⟩:=JV lm;obtain⟨r,⟨c0,f0⟩,⟨c1,f1⟩,⟨c2,L⟩,⟨c3,f3⟩,⟨c4,O⟩,⟨c5,f5⟩,⟨c6,R⟩,⟨V,f7⟩,⟨P,f8⟩,c9,QW⟩:=C.run;rcases h with ⟨rfl,rfl⟩ | ⟨rfl,⟨Q0,rfl⟩ | ⟨Q0,⟨h5,rfl⟩ | ⟨h5,rfl⟩⟩⟩
  case' inr.inl | inr.inr.inr=>rw[Q0] at g0
  case' inr.inr.inl =>rw[Q0] at g0;rw[h5] at g1;go_wp2_with (at_builtin;refine wC _ rfl (.tmp 70) (.tmp 73) 35 rfl base 9 E (U ⟨#[]⟩) 1 16 Tryz.underlying35 hi Q9 K D rfl (by decide) (Y a s.length cap) s.length (strs s) (by simp[Act.eval]) (by first | exact C.own.alloc _ | exact C.own.drew.alloc _ | exact C.own.drew.drew.alloc _) (T W.heap.size 0 Z) 1 1 [U (y l).text] (by simp[Act.eval]) rfl (by first | exact dW W _ _ | exact dW W.drew _ _ | exact dW W.drew.drew _ _) (by simp[Value.oneCell']) (by unfold maxLen;omega) (by omega) (by simp<;>omega) ?_;intro v' w2 b c x;obtain⟨gg,A,rfl⟩:=gv b (by omega);have G:=ae (LkS.grown (by first | exact C.al _ | exact C.drew.al _ | exact C.drew.drew.al _) c hb);obtain⟨fd,⟨k0,m0⟩,⟨k1,m1⟩,⟨k2,m2⟩,⟨k3,m3⟩,⟨k4,m4⟩,⟨k5,m5⟩,⟨k6,m6⟩,⟨k7,m7⟩,⟨k8,m8⟩,k9,m9⟩:=G.1;obtain⟨u,⟨z0,y0⟩,⟨z1,QX⟩,⟨z2,X⟩,⟨z3,M⟩,⟨i,QZ⟩,⟨q,y5⟩,⟨j,S⟩,⟨g,y7⟩,⟨m,y8⟩,o,QY⟩:=G.2.1)
  case' inl =>go_wp2_with fail;go_region_law (first | (refine dn rfl (.tmp 49) (.tmp 53) 35 rfl base 9 E (U ⟨#[]⟩) 1 16 Tryz.underlying35 hi Q9 K D rfl (by decide) (Y a s.length cap) s.length (strs s) (by simp[Act.eval]) (by first | exact C.own.alloc _ | exact C.own.drew.alloc _ | exact C.own.drew.drew.alloc _) (T W.heap.size 0 Z) 1 1 [U (iH (y l).has)] (by simp[Act.eval]) rfl (by first | exact dW W _ _ | exact dW W.drew _ _ | exact dW W.drew.drew _ _) (by simp[Value.oneCell']) (by unfold maxLen;omega) (by omega) (by simp<;>omega) ?_;intro v' w2 b c x;obtain⟨gg,A,rfl⟩:=gv b (by omega);have G:=ae (LkS.grown (by first | exact C.al _ | exact C.drew.al _ | exact C.drew.drew.al _) c hb);obtain⟨fd,⟨k0,m0⟩,⟨k1,m1⟩,⟨k2,m2⟩,⟨k3,m3⟩,⟨k4,m4⟩,⟨k5,m5⟩,⟨k6,m6⟩,⟨k7,m7⟩,⟨k8,m8⟩,k9,m9⟩:=G.1;obtain⟨u,⟨z0,y0⟩,⟨z1,QX⟩,⟨z2,X⟩,⟨z3,M⟩,⟨i,QZ⟩,⟨q,y5⟩,⟨j,S⟩,⟨g,y7⟩,⟨m,y8⟩,o,QY⟩:=G.2.1) | (go_simp;go_at_call 194;refine(pD _ _).mono ?_;rintro e w9 ⟨rfl,bt⟩;subst bt))
  all_goals (try (have ZA:=zO b (wv (s:=s)).choose_spec G.1.2.1.1;have ld:=zO b (wv (s:=s)).choose_spec G.2.1.2.1.1;have n8:=ae (ed b ZA (Y (N (T gg 0 Z)) (s.length+1) A) 1);have B4:=ae (G.2.2.setCell (p:=(T (w.heap.size+1) 1 Z)) (by simp;omega) (Y (N (T gg 0 Z)) (s.length+1) A));clear b c x ZA;(try go_wp2);refine bp (v:=ei p (Y (N (T gg 0 Z)) (s.length+1) A) st ((l:Int)+1) QQ 0 ⟨#[]⟩ QQ ⟨#[]⟩ QQ) (by simp[results,Tryz.results175,go_sem,z0,z1,z2,z3,i,q,j,g,m,o]) rfl ⟨_,rfl,⟨N (T gg 0 Z),A,by simp,?_⟩,ec B4.out (by omega) _ _ _ _ _ _ _ _ _ _⟩;rw[gI];exact Cs n8 ld _ _ _ _ _ _ _ _ _ _))
 all_goals
  go_wp2_with fail;refine(fG _ _ _ _ _ _ _ _ _ _ _ _ _ _ _).mono ?_;rintro e w2 ⟨rfl,F⟩;replace C:=ae (C.below F);clear F r c0 f0 c1 f1 c2 L c3 f3 c4 O c5 f5 c6 R V f7 P f8 c9 QW;obtain⟨u,⟨z0,y0⟩,⟨z1,QX⟩,⟨z2,X⟩,⟨z3,M⟩,⟨i,QZ⟩,⟨q,y5⟩,⟨j,S⟩,⟨g,y7⟩,⟨m,y8⟩,o,QY⟩:=C.zer;go_wp2;first
   | exact bp (v:=ei p (Y a s.length cap) st l QR 3 ⟨#[]⟩ QQ ⟨#[]⟩ QQ) (by simp[results,Tryz.results175,go_sem,z0,z1,z2,z3,i,q,j,g,m,o]) rfl ⟨_,rfl,⟨_,_,_,_,_,rfl⟩,ec (C.bl.mono hb) (by omega) _ _ _ _ _ _ _ _ _ _⟩
   | exact bp (v:=ei p (Y a s.length cap) st l QR 2 B QQ ⟨#[]⟩ QQ) (by simp[results,Tryz.results175,go_sem,z0,z1,z2,z3,i,q,j,g,m,o]) rfl ⟨_,rfl,⟨_,_,_,_,_,rfl⟩,ec (C.bl.mono hb) (by omega) _ _ _ _ _ _ _ _ _ _⟩
   | exact bp (v:=ei p (Y a s.length cap) st ((l:Int)+1) QR 4 nm QQ ⟨#[]⟩ QQ) (by simp[results,Tryz.results175,go_sem,z0,z1,z2,z3,i,q,j,g,m,o]) rfl ⟨_,rfl,⟨_,_,_,_,_,rfl⟩,ec (C.bl.mono hb) (by omega) _ _ _ _ _ _ _ _ _ _⟩
   | exact bp (v:=ei p (Y a s.length cap) st ((l:Int)+1) QR 5 nm QQ ⟨#[]⟩ QQ) (by simp[results,Tryz.results175,go_sem,z0,z1,z2,z3,i,q,j,g,m,o]) rfl ⟨_,rfl,⟨_,_,_,_,_,rfl⟩,ec (C.bl.mono hb) (by omega) _ _ _ _ _ _ _ _ _ _⟩
theorem add0 (g j:Nat):((T g 0 Z):Addr).add j=(T g j Z):=by unfold Addr.add;split<;>simp_all
theorem ED {w:H}{base g cap:Nat}{e:TypeId}{x:ByteArray}{r:List ByteArray}(h:w.ownsRow base e 1 (Y (N (T g 0 Z)) (r.length+1) cap) (r.length+1) (strs (x :: r))):w.cell? (T g r.length Z)=N (U x):=by have:=h.cells (g:=g) rfl r.length (U x) (by rw[gI,p8 (by simp)];simp);rwa[add0] at this
theorem EE {w:H}{base g cap:Nat}{e:TypeId}{x z:ByteArray}{r:List ByteArray}(h:w.ownsRow base e 1 (Y (N (T g 0 Z)) (r.length+2) cap) (r.length+2) (strs (x :: z :: r))):w.cell? (T g (r.length+1) Z)=N (U x)/\w.cell? (T g r.length Z)=N (U z):=by have h1:=h.cells (g:=g) rfl (r.length+1) (U x) (by rw[gI,p8 (by simp)];simp);have h2:=h.cells (g:=g) rfl r.length (U z) (by rw[gI,IH (by simp),gI,p8 (by simp)];simp);rw[add0] at h1 h2;exact⟨h1,h2⟩
theorem EF {w:H}{base n cap:Nat}{e:TypeId}{g:Nat}{i:List QS}(h:w.ownsRow base e 1 (Y (N (T g 0 Z)) n cap) n i):n<=cap:=by
 rcases h.2 with ⟨f,_⟩ | ⟨g,c,cur,b,_,_,hn,_⟩
 ·simp at f
 ·simp at b
  omega
theorem EI {w:H}{base g n cap:Nat}{e:TypeId}{r:List ByteArray}{xs:List QS}(h:w.ownsRow base e 1 (Y (N (T g 0 Z)) n cap) n (strs r++xs)):∀ j u,(strs r)[j]?=N u->w.cell? (((T g 0 Z):Addr).add j)=N u:=fun j u b =>h.cells (g:=g) rfl j u (by rw[IH (by obtain⟨c,_⟩:=gM.1 b;exact c)];exact b)
theorem rB {w:H}{base n:Nat}{e:TypeId}{v:QS}{i:List QS}(h:w.ownsRow base e 1 v n i)(b:v≠.slice Z 0 0):∃ g cap,v=Y (N (T g 0 Z)) n cap/\base<=g:=by
 rcases h.2 with ⟨f,_⟩ | ⟨g,cap,cur,b,c,_⟩
 ·exact absurd f b
 ·exact⟨g,cap,b,c⟩
theorem Ct (r:List ByteArray):∀ u∈strs r,u.oneCell'=QR:=by intro u b;obtain⟨x,_,rfl⟩:=JQ.1 b;rfl
theorem SoIs.form {w:H}{base:Nat}{v:QS}{r:SO}(h:SoIs w base v r):∃ (at_:Int) (a:Option Addr) (n cap:Nat) (st lk:Int) (f:Bool) (c:Int) (x:ByteArray) (ask:Bool) (nm:ByteArray) (b:Bool),v=ei at_ (Y a n cap) st lk f c x ask nm b:=by
 rcases r with ⟨p,st,l,s⟩ | ⟨c,x,st⟩ | ⟨ask,nm,st⟩
 ·obtain⟨a,cap,e,_⟩:=h
  exact⟨_,_,_,_,_,_,_,_,_,_,_,_,e⟩
 ·obtain⟨at_,a,n,cap,lk,e⟩:=h
  exact⟨_,_,_,_,_,_,_,_,_,_,_,_,e⟩
 ·obtain⟨at_,a,n,cap,lk,e⟩:=h
  exact⟨_,_,_,_,_,_,_,_,_,_,_,_,e⟩
theorem SoIs.set {w:H}{base:Nat}{v:QS}{r:SO}(h:SoIs w base v r){k:Nat}(f:k<base)(j:Nat)(u:QS):SoIs (w.setCell (T k j Z) u) base v r:=by
 rcases r with ⟨p,st,l,s⟩ | ⟨c,x,st⟩ | ⟨ask,nm,st⟩
 ·obtain⟨a,cap,e,b⟩:=h
  exact⟨a,cap,e,PI b (a:=(T k j Z)) f u⟩
 ·exact h
 ·exact h
theorem SoIs.mono {w:H}{base base':Nat}{v:QS}{r:SO}(h:SoIs w base v r)(hb:base'<=base):SoIs w base' v r:=h.kept br hb
theorem zQ {w:H}{base:Nat}{v:QS}{r:SO}(h:SoIs w base v r){k:Nat}(b:k<base)(v0 v1 v2 v3 v4 v5 v6 v7 v8 v9:QS):SoIs ((((((((((w.setCell (T k 0 Z) v0).setCell (T k 1 Z) v1).setCell (T k 2 Z) v2).setCell (T k 3 Z) v3).setCell (T k 4 Z) v4).setCell (T k 5 Z) v5).setCell (T k 6 Z) v6).setCell (T k 7 Z) v7).setCell (T k 8 Z) v8).setCell (T k 9 Z) v9) base v r :=
 (((((((((h.set b 0 v0).set b 1 v1).set b 2 v2).set b 3 v3).set b 4 v4).set b 5 v5).set b 6 v6).set b 7 v7).set b 8 v8).set b 9 v9
theorem x7 (op n:Nat)(t a b:ByteArray)(h1:1<=op)(h11:op<=11):(bY op n t a b).length=cC op:=by rcases(show op=1∨op=2∨op=3∨op=4∨op=5∨op=6∨op=7∨op=8∨op=9∨op=10∨op=11 by omega) with rfl | rfl | rfl | rfl | rfl | rfl | rfl | rfl | rfl | rfl | rfl;all_goals rfl
theorem EJ {op j:Nat}(h1:1<=op)(h11:op<=11)(h:j<cC op):op<=8:=by rcases(show op=1∨op=2∨op=3∨op=4∨op=5∨op=6∨op=7∨op=8∨op=9∨op=10∨op=11 by omega) with rfl | rfl | rfl | rfl | rfl | rfl | rfl | rfl | rfl | rfl | rfl;all_goals simp[cC] at h ⊢
theorem Cu (op:Nat):cC op<=2:=by
 unfold cC;split
 ·omega
 ·split<;>omega
def gJ (b:List ByteArray)(c:ByteArray)(r:List ByteArray)(p st l:Nat):SO:=if b.all (fun x=>decide (x.size<=2000)) then .inl (p,st,l,(b.reverse++r)) else .inr (.inl (2,c,st))
theorem zR {b:List ByteArray}{j:Nat}(h:j<b.length):(b.take (j+1)).map Value.string=(b.take j).map Value.string++[U (b.getD j ⟨#[]⟩)]:=by rw[NL,CV,gq h];simp[h]
theorem Cv (b r:List ByteArray):strs (b.reverse++r)=strs r++b.map Value.string:=by simp[strs]
theorem EK {b:List ByteArray}{j:Nat}(h:j<b.length)(c:¬ ((b.getD j ⟨#[]⟩).size:Int)<=2000):b.all (fun x=>decide (x.size<=2000))=QQ:=by simp only[List.all_eq_false];exact⟨b[j],gj h,by simp[h] at c ⊢;omega⟩
theorem Cw {b:List ByteArray}(h:∀ i,i<b.length->(b.getD i ⟨#[]⟩).size<=2000):b.all (fun x=>decide (x.size<=2000))=QR:=by simp only[List.all_eq_true,kP];intro x c;obtain⟨i,hi,rfl⟩:=NP.1 c;have:=h i hi;simpa[hi] using this
def iw (y:Nat->aI)(n place st looks:Nat):Res->SO
 | .inr (.inl (c,x))=>.inr (.inl (c,x,st))
 | .inl (s',p)=>.inl (p,st,looks,s')
 | .inr (.inr (a,nm,s'))=>j7 y n a nm s' (place+1) st looks
def fW (f:Nat->Ins)(cnt:Nat)(y:Nat->aI)(n place steps looks:Nat)(s:List ByteArray):SO:=iw y n place (fm cnt place steps) looks (cP f cnt place steps looks s)
theorem zS {w:H}{base n cap:Nat}{e:TypeId}{a:Option Addr}{i:List QS}(h:w.ownsRow base e 1 (Y a n cap) n i):(a=Z/\n=0/\cap=0)∨∃ g,a=N (T g 0 Z):=by
 rcases h.2 with ⟨f,_⟩ | ⟨g,c,cur,b,_⟩
 ·simp only[I5] at f
  exact .inl f
 ·simp only[I5] at b
  exact .inr ⟨g,b.1⟩
theorem x8 (op k:Nat)(t a b:ByteArray)(h1:1<=op)(h11:op<=11)(h2:op≠2)(f:t.size<=2000)(c:a.size<=2000)(hb:b.size<=2000):(bY op k t a b).all (fun x=>decide (x.size<=2000))=QR:=by
 rcases(show op=1∨op=3∨op=4∨op=5∨op=6∨op=7∨op=8∨op=9∨op=10∨op=11 by omega) with rfl | rfl | rfl | rfl | rfl | rfl | rfl | rfl | rfl | rfl
 ·simp[bY,f]
 ·simp only[bY,PQ,QI,LP,kP]
  split
  ·simp;omega
  ·exact c
 ·simp only[bY,PQ,QI,LP,kP]
  split
  ·simp;omega
  ·decide
 ·simp only[bY,PQ,QI,LP,kP]
  exact j4 (pG _ _) c
 ·simp only[bY,PQ,QI,LP,kP]
  exact lL _
 ·simp[bY,c]
 ·simp[bY,c,hb]
 ·rfl
 ·rfl
 ·rfl
theorem x9 (op k:Nat)(t a b f:ByteArray)(r:List ByteArray)(p st l:Nat)(h1:1<=op)(c:op<=11)(h2:op≠2)(h:t.size<=2000)(g:a.size<=2000)(hb:b.size<=2000):gJ (bY op k t a b) f r p st l=.inl (p,st,l,((bY op k t a b).reverse++r)):=by unfold gJ;rw[x8 op k t a b h1 c h2 h g hb];rfl
theorem Fz9 (k:Nat)(t x z:ByteArray)(r:List ByteArray)(y:Nat->aI)(n place st looks:Nat):iw y n place st looks (dJ 2 k t place looks (x :: z :: r))=gJ (bY 2 k t x z) (eX place) r (place+1) st looks:=by
 unfold gJ;simp only[dJ,bY,PQ,QI,LP,KZ];by_cases h:z.size+x.size<=2000
 ·rw[gA h,gA (by simpa using h)]
  rfl
 ·rw[eI h,eI (by simpa using h)]
  rfl
theorem ww (op:Nat)(y:Nat->aI)(n place st looks:Nat)(x:ByteArray)(r:List ByteArray)(b:Bool)(hb:((op:Int) == 12)=b):iw y n place st looks (jZ b x r place looks)=jG y n op (eX place) x r (place+1) st looks:=by
 unfold jZ jG;rw[hb];by_cases h1:av x=QQ
 ·rw[gA h1,gA h1]
  rfl
 ·rw[eI h1,eI h1]
  by_cases h2:looks=200
  ·rw[gA h2,gA h2]
   rfl
  ·rw[eI h2,eI h2]
   rfl
theorem Cx (l r:List ByteArray):strs (l++r)=strs r++strs l:=by simp[strs]
def lM (op:Nat)(s:List ByteArray):ByteArray:=if 0<bC op then s.getD 0 ⟨#[]⟩ else ⟨#[]⟩
def qA (op:Nat)(s:List ByteArray):ByteArray:=if 1<bC op then s.getD 1 ⟨#[]⟩ else ⟨#[]⟩
def nd (op k:Nat)(a:ByteArray)(place:Nat):Nat:=if op=10 then k else if op=11/\(a.toList=[]∨(a.toList == [48])=QR) then k else place+1
theorem Gy {op k place:Nat}{A:ByteArray}(h:op=10∨op=11/\A.toList.isEmpty=QR∨op=11/\(A.toList == [48])=QR):nd op k A place=k:=by
 unfold nd;rcases h with rfl | ⟨rfl,h⟩ | ⟨rfl,h⟩
 ·rfl
 ·rw[eI (by omega),gA ⟨rfl,.inl (List.isEmpty_iff.1 h)⟩]
 ·rw[eI (by omega),gA ⟨rfl,.inr h⟩]
theorem EN (op:Nat)(A:ByteArray)(h:op<=15):op=15∨op=14∨op=12∨op=13∨op=10∨(op=11/\A.toList.isEmpty=QR)∨(op=11/\A.toList.isEmpty=QQ/\(A.toList == [48])=QR)∨(op=11/\A.toList.isEmpty=QQ/\(A.toList == [48])=QQ)∨op<=9:=by
 by_cases e:op=11
 ·subst e
  cases A.toList.isEmpty<;>cases (A.toList == [48])<;>simp
 ·omega
theorem tU {s:List ByteArray}(h:∀ x∈s,x.size<=2000)(op:Nat):(lM op s).size<=2000/\(qA op s).size<=2000:=by
 have g:∀ j,(s.getD j ⟨#[]⟩).size<=2000:=fun j=>by
  rw[BO];rcases hj:s[j]? with _ | x
  ·exact AI _
  ·exact h x (IF hj)
 refine⟨?_,?_⟩
 ·unfold lM
  split
  ·exact g 0
  ·exact AI _
 ·unfold qA
  split
  ·exact g 1
  ·exact AI _
theorem Cy (op k:Nat)(t:ByteArray)(s:List ByteArray)(y:Nat->aI)(n place st looks:Nat)(h1:1<=op)(c:op<=11)(hb:bC op<=s.length)(g:t.size<=2000)(b:∀ x∈s,x.size<=2000):iw y n place st looks (dJ op k t place looks s)=gJ (bY op k t (lM op s) (qA op s)) (eX place) (s.drop (bC op)) (nd op k (lM op s) place) st looks:=by
 have f:=(tU b op).1;have h:=(tU b op).2;by_cases h2:op=2
 ·subst h2
  match s,hb with
  | x :: z :: r,_=>exact Fz9 k t x z r y n place st looks
 ·rw[x9 op k t _ _ _ _ _ _ _ h1 c h2 g f h]
  rcases(show op=1∨op=3∨op=4∨op=5∨op=6∨op=7∨op=8∨op=9∨op=10∨op=11 by omega) with rfl | rfl | rfl | rfl | rfl | rfl | rfl | rfl | rfl | rfl
  ·rfl
  iterate 3
   ·match s,hb with
    | x :: r,_=>rfl
  ·match s,hb with
   | x :: z :: r,_=>rfl
  ·match s,hb with
   | x :: r,_=>rfl
  ·match s,hb with
   | x :: z :: r,_=>rfl
  ·match s,hb with
   | x :: r,_=>rfl
  ·rfl
  ·match s,hb with
   | x :: r,_ =>show iw y n place st looks (dJ 11 k t place looks (x :: r))=.inl (nd 11 k x place,st,looks,r);simp only[dJ,iw,nd,show((11:Nat)=10)=False by simp,PC,PR]
theorem EO (op k:Nat)(t:ByteArray)(s:List ByteArray)(y:Nat->aI)(n place st looks:Nat)(h:op=12∨op=13)(hb:bC op<=s.length):iw y n place st looks (dJ op k t place looks s)=jG y n op (eX place) (lM op s) (s.drop (bC op)) (place+1) st looks:=by
 rcases h with rfl | rfl
 ·match s,hb with
  | x :: r,_=>exact ww 12 y n place st looks x r QR rfl
 ·match s,hb with
  | x :: r,_=>exact ww 13 y n place st looks x r QQ rfl
theorem wA (op k:Nat)(t:ByteArray)(s:List ByteArray)(y:Nat->aI)(n place st looks:Nat)(h:op=14∨op=15)(hb:bC op<=s.length):iw y n place st looks (dJ op k t place looks s)=.inr (.inl (15 - (op:Int),lM op s,st)):=by
 rcases h with rfl | rfl
 ·match s,hb with
  | x :: r,_=>rfl
 ·match s,hb with
  | x :: r,_=>rfl
end Go.Proofs.YtamacmnikdejeaaGreatDoor.Vp
