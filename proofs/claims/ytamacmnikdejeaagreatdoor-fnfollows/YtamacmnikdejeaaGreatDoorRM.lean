import Derived.Test.YtamacmnikdejeaaGreatDoorSU
import Derived.Test.YtamacmnikdejeaaGreatDoorRH
set_option maxRecDepth 100000
set_option maxHeartbeats 8000000
set_option linter.unusedSimpArgs false
open Go.Addr renaming mk->N
open Go.Value renaming slice->Y,string->U,int->J,agg->QG
open Option renaming none->Z,some->T
open Go.Obj renaming cells->Q
open Go.IntKind renaming i64->I
open Go renaming World->G,Value->QE
open Bool renaming false->QB,true->QD
open Go.Ending renaming returned->QF
namespace Go.Proofs.YtamacmnikdejeaaGreatDoor.Vp
open RowKit
def keepS (f:Nat->Source)(t:ByteArray)(k:Nat):List Source:=((List.range k).map f).filter fun x=>!(x.name.toList == t.toList)
def keepT (f:Nat->Target)(t:ByteArray)(k:Nat):List Target:=((List.range k).map f).filter fun x=>!(x.name.toList == t.toList)
theorem wN {f:Nat->Source}{t:ByteArray}{k:Nat}(h:((f k).name.toList == t.toList)=QD):keepS f t (k+1)=keepS f t k:=by simp only[keepS,JA,HJ,LX];simp[h]
theorem wO {f:Nat->Source}{t:ByteArray}{k:Nat}(h:((f k).name.toList == t.toList)=QB):keepS f t (k+1)=keepS f t k++[f k]:=by simp only[keepS,JA,HJ,LX];simp[h]
theorem wP {f:Nat->Target}{t:ByteArray}{k:Nat}(h:((f k).name.toList == t.toList)=QD):keepT f t (k+1)=keepT f t k:=by simp only[keepT,JA,HJ,LX];simp[h]
theorem wQ {f:Nat->Target}{t:ByteArray}{k:Nat}(h:((f k).name.toList == t.toList)=QB):keepT f t (k+1)=keepT f t k++[f k]:=by simp only[keepT,JA,HJ,LX];simp[h]
theorem jA (f:Nat->Source)(t:ByteArray)(k:Nat):(keepS f t k).length<=k:=by have:=MJ (fun x:Source=>!(x.name.toList == t.toList)) ((List.range k).map f);simpa[keepS] using this
theorem ma (f:Nat->Target)(t:ByteArray)(k:Nat):(keepT f t k).length<=k:=by have:=MJ (fun x:Target=>!(x.name.toList == t.toList)) ((List.range k).map f);simpa[keepT] using this
theorem dV {w:G}{b size n:Nat}{e:TypeId}{v:QE}{f:List QE}(h:w.ownsRow b e size v n f)(hn:0<n):∃ g cap,v=Y (T (N g 0 Z)) n cap:=by
 rcases h.2 with ⟨_,h0⟩ | ⟨g,cap,cur,rfl,_⟩
 ·omega
 ·exact⟨g,cap,rfl⟩
theorem aP {w:G}{b size n:Nat}{e:TypeId}{v:QE}{f:List QE}(h:w.ownsRow b e size v n f):∃ a cap,v=Y a n cap:=by
 rcases h.2 with ⟨rfl,rfl⟩ | ⟨g,cap,cur,rfl,_⟩
 ·exact⟨_,_,rfl⟩
 ·exact⟨_,_,rfl⟩
theorem cL (w:G)(x y:QE)(t:TypeId):∀ j u,[x,y][j]?=T u->(w.alloc (Q #[x,y] t)).cell? (((N w.heap.size 0 Z):Addr).add j)=T u:=by
 intro j u b;rw[addr_add,D0];match j,b with
 | 0,b=>simp at b;subst b;simp
 | 1,b=>simp at b;subst b;simp
abbrev TR:=Target × Nat × Nat
def bc (r:TR):List QE:=[U r.1.name,Y (T (N r.2.1 0 Z)) r.1.actN r.2.2]
structure TRow (w:G)(base:Nat)(v:QE)(R:List TR):Prop where
 own:w.ownsRow base 125 2 v R.length (R.flatMap bc)
 act:∀ r∈R,RowIns w r.2.1 0 r.1.actN r.1.act/\(∃ F,Cells w r.2.1 0 (r.1.actN*3) F)/\TypeAt w r.2.1 146/\base<=r.2.1
 up:R.Pairwise fun a b=>a.2.1≠b.2.1
theorem TypeAt.block {w b:G}{g:Nat}{e:TypeId}(h:TypeAt w g e)(hb:b.heap[g]?=w.heap[g]?):TypeAt b g e:=by obtain⟨c,f⟩:=h;exact⟨c,hb.trans f⟩
theorem RowIns.block {w b:G}{g off n:Nat}{f:Nat->Ins}(h:RowIns w g off n f)(hz:w.heap.size<=b.heap.size)(hb:b.heap[g]?=w.heap[g]?):RowIns b g off n f:=by refine⟨lj h.1 hz,fun i hi=>?_⟩;obtain⟨j,h1,h2⟩:=h.2 i hi;exact⟨(cq (a:=(N g _ Z)) hb).trans j,(cq (a:=(N g _ Z)) hb).trans h1,(cq (a:=(N g _ Z)) hb).trans h2⟩
theorem Cells.block {w f:G}{b off m:Nat}{F:Nat->QE}(h:Cells w b off m F)(hz:w.heap.size<=f.heap.size)(e:f.heap[b]?=w.heap[b]?):Cells f b off m F :=
 ⟨lj h.1 hz,fun j g=>⟨(cq (a:=(N b (off+j) Z)) e).trans (h.2 j g).1,(IQ (a:=(N b (off+j) Z)) e).trans (h.2 j g).2⟩⟩
theorem TRow.below {w g:G}{b B:Nat}{v:QE}{R:List TR}(h:TRow w b v R)(hb:Below B w g)(f:w.heap.size<=B):TRow g b v R:=by refine⟨own_below h.own hb f,fun r j=>?_,h.up⟩;obtain⟨h1,⟨F,h2⟩,l,i⟩:=h.act r j;have e:=hb.block r.2.1 (lj h1.1 f);exact⟨h1.block hb.size e,⟨F,h2.block hb.size e⟩,l.block e,i⟩
theorem TRow.set {w:G}{b X j:Nat}{v:QE}{R:List TR}(h:TRow w b v R)(hX:X<b)(u:QE):TRow (w.setCell (N X j Z) u) b v R:=by refine⟨aV h.own hX u,fun r g=>?_,h.up⟩;obtain⟨h1,⟨F,h2⟩,i,f⟩:=h.act r g;have e:(w.setCell (N X j Z) u).heap[r.2.1]?=w.heap[r.2.1]?:=qh _ _ _ _ (by simp;omega);exact⟨h1.block (by simp) e,⟨F,h2.block (by simp) e⟩,i.block e,f⟩
theorem cT (w:G)(b:Nat):TRow w b (Y Z 0 0) []:=⟨BG _ _ _ _,fun r f=>absurd f (by simp),List.Pairwise.nil⟩
theorem TRow.type {w:G}{f:Nat}{v:QE}{R:List TR}(h:TRow w f v R):∀ k,v.ownBlock=T k->TypeAt w k 125:=by
 intro k b;rcases h.own.2 with ⟨rfl,_⟩ | ⟨g,cap,i,rfl,_,j,_⟩
 ·simp[Value.ownBlock] at b
 ·simp[Value.ownBlock] at b
  subst b;exact⟨i,j⟩
theorem TRow.more {w n s:G}{f g c:Nat}{v t:QE}{R:List TR}{x:Target}(h:TRow w f v R)(hb:Below w.heap.size w n)(hg:w.heap.size<=g)(m:f<=g)
  (y:n.ownsRow f 146 3 (Y (T (N g 0 Z)) x.actN c) x.actN (ct x.act x.actN)) (q:s.ownsRow f 125 2 t (R.length+1) (R.flatMap bc++bc (x,g,c))) (i:n.grownBy s v.ownBlock):TRow s f t (R++[(x,g,c)]):=by
 have p:∀ k,TypeAt n k 146->T k≠v.ownBlock:=fun k B e=>by have A:=(h.below hb ly).type k e.symm;exact eC B A (by decide) rfl
 have u:∀ r∈R,r.2.1<w.heap.size:=fun r j=>(h.act r j).1.1;refine⟨by simpa using q,fun r j=>?_,?_⟩
 ·rcases nL.1 j with j | j
  ·obtain⟨h1,⟨F,h2⟩,l,z⟩:=(h.below hb ly).act r j
   have e:=i.block r.2.1 h1.1 (p _ l);exact⟨h1.block i.size e,⟨F,h2.block i.size e⟩,l.block e,z⟩
  ·simp at j
   subst j;obtain⟨h1,F,h2⟩:=jX y;have l:=iZ y;have e:=i.block g h1.1 (p _ l);exact⟨h1.block i.size e,⟨F,h2.block i.size e⟩,l.block e,m⟩
 ·rw[JG]
  refine⟨h.up,by simp,fun a C b o=>?_⟩;simp at o;subst o;have:=u a C;show a.2.1≠g;omega
theorem yg {w:G}{b0 o s0 s1 n0 n1:Nat}{n h:TypeId}{b m:QE}{p r:List QE}(s:w.ownsRow b0 n s0 b n0 p)(h1:w.ownsRow o h s1 m n1 r)(j:n≠h):b.ownBlock=Z∨b.ownBlock≠m.ownBlock:=by
 rcases s.2 with ⟨rfl,_⟩ | ⟨g,cap,l,rfl,_,q,_⟩
 ·exact .inl rfl
 ·right
  rcases h1.2 with ⟨rfl,_⟩ | ⟨g',cap',f,rfl,_,i,_⟩
  ·simp[Value.ownBlock]
  ·simp only[Value.ownBlock,ne_eq,IF]
   exact eC ⟨l,q⟩ ⟨f,i⟩ j
structure Boxes (w:G)(h:Nat)(p0 p1 v0 v1:QE):Prop where
 lt:h+2<w.heap.size
 a0:w.cell? (N h 0 Z)=T p0
 a1:w.cell? (N h 1 Z)=T p1
 r0:w.cell? (N (h+1) 0 Z)=T (Y Z 0 0)/\w.frozen? (N (h+1) 0 Z)=QB
 r1:w.cell? (N (h+1) 1 Z)=T (Y Z 0 0)/\w.frozen? (N (h+1) 1 Z)=QB
 o0:w.cell? (N (h+1+1) 0 Z)=T v0/\w.frozen? (N (h+1+1) 0 Z)=QB
 o1:w.cell? (N (h+1+1) 1 Z)=T v1/\w.frozen? (N (h+1+1) 1 Z)=QB
theorem Boxes.below {w g:G}{h B:Nat}{l n j m:QE}(b:Boxes w h l n j m)(hb:Below B w g)(hB:h+3<=B):Boxes g h l n j m:=by have c:∀ k o,k<B->g.cell? (N k o Z)=w.cell? (N k o Z):=fun k o i=>hb.cell (p:=(N k o Z)) i;have f:∀ k o,k<B->g.frozen? (N k o Z)=w.frozen? (N k o Z):=fun k o i=>hb.frozen (p:=(N k o Z)) i;exact⟨lj b.lt hb.size,(c _ _ (by omega)).trans b.a0,(c _ _ (by omega)).trans b.a1,⟨(c _ _ (by omega)).trans b.r0.1,(f _ _ (by omega)).trans b.r0.2⟩,⟨(c _ _ (by omega)).trans b.r1.1,(f _ _ (by omega)).trans b.r1.2⟩,⟨(c _ _ (by omega)).trans b.o0.1,(f _ _ (by omega)).trans b.o0.2⟩,⟨(c _ _ (by omega)).trans b.o1.1,(f _ _ (by omega)).trans b.o1.2⟩⟩
theorem Boxes.set0 {w:G}{h:Nat}{f i l g:QE}(b:Boxes w h f i l g)(u:QE):Boxes (w.setCell (N (h+1+1) 0 Z) u) h f i u g:=by have e:∀ k o,k≠h+1+1->(w.setCell (N (h+1+1) 0 Z) u).cell? (N k o Z)=w.cell? (N k o Z):=fun k o j=>cell_far _ _ _ _ (by simpa using fun e=>j e.symm);exact⟨by simpa using b.lt,(e _ _ (by omega)).trans b.a0,(e _ _ (by omega)).trans b.a1,⟨(e _ _ (by omega)).trans b.r0.1,by simpa using b.r0.2⟩,⟨(e _ _ (by omega)).trans b.r1.1,by simpa using b.r1.2⟩,⟨AI _ _ _ (by rw[b.o0.1];rfl),by simpa using b.o0.2⟩,⟨(sq _ _ _ _ (by simp)).trans b.o1.1,by simpa using b.o1.2⟩⟩
theorem Boxes.set1 {w:G}{h:Nat}{g i f l:QE}(b:Boxes w h g i f l)(u:QE):Boxes (w.setCell (N (h+1+1) 1 Z) u) h g i f u:=by have e:∀ k o,k≠h+1+1->(w.setCell (N (h+1+1) 1 Z) u).cell? (N k o Z)=w.cell? (N k o Z):=fun k o j=>cell_far _ _ _ _ (by simpa using fun e=>j e.symm);exact⟨by simpa using b.lt,(e _ _ (by omega)).trans b.a0,(e _ _ (by omega)).trans b.a1,⟨(e _ _ (by omega)).trans b.r0.1,by simpa using b.r0.2⟩,⟨(e _ _ (by omega)).trans b.r1.1,by simpa using b.r1.2⟩,⟨(sq _ _ _ _ (by simp)).trans b.o0.1,by simpa using b.o0.2⟩,⟨AI _ _ _ (by rw[b.o1.1];rfl),by simpa using b.o1.2⟩⟩
theorem yi (w:G)(b f:QE)(t:TypeId):Boxes (((w.alloc (Q #[b,f] t)).alloc (Q #[Y Z 0 0,Y Z 0 0] t)).alloc (Q #[Y Z 0 0,Y Z 0 0] t)) w.heap.size b f (Y Z 0 0) (Y Z 0 0):=by
 have A:Below (w.heap.size+1) (w.alloc (Q #[b,f] t)) (((w.alloc (Q #[b,f] t)).alloc (Q #[Y Z 0 0,Y Z 0 0] t)).alloc (Q #[Y Z 0 0,Y Z 0 0] t)):=(br.alloc (by simp) _).alloc (by simp) _;have C:Below (w.heap.size+1+1) ((w.alloc (Q #[b,f] t)).alloc (Q #[Y Z 0 0,Y Z 0 0] t)) (((w.alloc (Q #[b,f] t)).alloc (Q #[Y Z 0 0,Y Z 0 0] t)).alloc (Q #[Y Z 0 0,Y Z 0 0] t)):=br.alloc (by simp) _;have hz:(w.alloc (Q #[b,f] t)).heap.size=w.heap.size+1:=by simp
 have g:((w.alloc (Q #[b,f] t)).alloc (Q #[Y Z 0 0,Y Z 0 0] t)).heap.size=w.heap.size+1+1:=by simp
 refine⟨by simp,?_,?_,⟨?_,?_⟩,⟨?_,?_⟩,⟨?_,?_⟩,⟨?_,?_⟩⟩
 ·exact(A.cell (p:=(N w.heap.size 0 Z)) (eL _)).trans (by simp)
 ·exact(A.cell (p:=(N w.heap.size 1 Z)) (eL _)).trans (by simp)
 ·refine(C.cell (p:=(N (w.heap.size+1) 0 Z)) (eL _)).trans ?_
  rw[<-hz];simp
 ·refine(C.frozen (p:=(N (w.heap.size+1) 0 Z)) (eL _)).trans ?_
  rw[<-hz];simp
 ·refine(C.cell (p:=(N (w.heap.size+1) 1 Z)) (eL _)).trans ?_
  rw[<-hz];simp
 ·refine(C.frozen (p:=(N (w.heap.size+1) 1 Z)) (eL _)).trans ?_
  rw[<-hz];simp
 all_goals
  rw[<-g];clear A C hz g;generalize (w.alloc (Q #[b,f] t)).alloc (Q #[Y Z 0 0,Y Z 0 0] t)=W;simp
def kG (n0:Nat)(f0:Nat->Source)(n1:Nat)(f1:Nat->Target)(t:ByteArray):Int :=
 if bh n0 f0 n1 f1≠0 then 1 else if au t=QB then 2 else if (aG (nm0 f0) n0 t || aG (nm1 f1) n1 t)=QB then 4 else 0
def iD (n0:Nat)(f0:Nat->Source)(n1:Nat)(f1:Nat->Target)(t:ByteArray):List Source:=if kG n0 f0 n1 f1 t=0 then keepS f0 t n0 else []
def kH (n0:Nat)(f0:Nat->Source)(n1:Nat)(f1:Nat->Target)(t:ByteArray):List Target:=if kG n0 f0 n1 f1 t=0 then keepT f1 t n1 else []
theorem iE {p:Nat->Bool}{n i:Nat}(h:aJ p n=QB)(hi:i<n):p i=QB:=by
 cases e:p i with
 | false=>rfl
 | true=>rw[cW hi e] at h;cases h
theorem kI {n0:Nat}{f0:Nat->Source}{n1:Nat}{f1:Nat->Target}(h:bh n0 f0 n1 f1=0):aI (nm0 f0) n0=QD/\aI (nm1 f1) n1=QD/\∀ i,i<n1->1<=(f1 i).actN:=by
 unfold bh at h;split at h;· omega
 split at h;· omega
 split at h;· omega
 split at h;· omega
 split at h;· omega
 split at h;· omega
 split at h;· omega
 split at h;· omega
 rename_i g f _ _ j;refine⟨by simpa using g,by simpa using f,fun i hi=>?_⟩;have b:=iE (by simpa using j) hi;have l:valid (f1 i).act (f1 i).actN=QD:=by simpa[b9] using b
 have:=(bN l).2.1;omega
theorem fQ {w:G}{b base':Nat}{v:QE}{R:List TR}(h:TRow w b v R)(hb:base'<=b):TRow w base' v R:=by refine⟨aE h.own hb,fun r f=>?_,h.up⟩;obtain⟨h1,h2,g,h4⟩:=h.act r f;exact⟨h1,h2,g,by omega⟩
structure Pair (w:G)(h:Nat)(p0 p1:QE):Prop where
 lt:h+1<w.heap.size
 a0:w.cell? (N h 0 Z)=T p0
 a1:w.cell? (N h 1 Z)=T p1
 r0:w.cell? (N (h+1) 0 Z)=T (Y Z 0 0)/\w.frozen? (N (h+1) 0 Z)=QB
 r1:w.cell? (N (h+1) 1 Z)=T (Y Z 0 0)/\w.frozen? (N (h+1) 1 Z)=QB
theorem Pair.lt' {w:G}{h:Nat}{f g:QE}(b:Pair w h f g):h+2<=w.heap.size:=b.lt
theorem Pair.below {w g:G}{h B:Nat}{j l:QE}(b:Pair w h j l)(hb:Below B w g)(hB:h+2<=B):Pair g h j l:=by have c:∀ k o,k<B->g.cell? (N k o Z)=w.cell? (N k o Z):=fun k o i=>hb.cell (p:=(N k o Z)) i;have f:∀ k o,k<B->g.frozen? (N k o Z)=w.frozen? (N k o Z):=fun k o i=>hb.frozen (p:=(N k o Z)) i;exact⟨lj b.lt hb.size,(c _ _ (by omega)).trans b.a0,(c _ _ (by omega)).trans b.a1,⟨(c _ _ (by omega)).trans b.r0.1,(f _ _ (by omega)).trans b.r0.2⟩,⟨(c _ _ (by omega)).trans b.r1.1,(f _ _ (by omega)).trans b.r1.2⟩⟩
theorem sO (w:G)(b f:QE)(t:TypeId):Pair ((w.alloc (Q #[b,f] t)).alloc (Q #[Y Z 0 0,Y Z 0 0] t)) w.heap.size b f:=by
 have A:Below (w.heap.size+1) (w.alloc (Q #[b,f] t)) ((w.alloc (Q #[b,f] t)).alloc (Q #[Y Z 0 0,Y Z 0 0] t)):=br.alloc (by simp) _;have hz:(w.alloc (Q #[b,f] t)).heap.size=w.heap.size+1:=by simp
 refine⟨by simp,(A.cell (p:=(N w.heap.size 0 Z)) (eL _)).trans (by simp),(A.cell (p:=(N w.heap.size 1 Z)) (eL _)).trans (by simp),⟨?_,?_⟩,⟨?_,?_⟩⟩;all_goals
  rw[<-hz];clear A hz;generalize w.alloc (Q #[b,f] t)=W;simp
theorem sP (b off n0 c0:Nat)(a1:Option Addr)(n1 c1:Nat)(f0:Nat->Source)(t:ByteArray)(w:G)(hn0:(n0:Int)<=1048576)(j:RowSource w b off n0 f0):Calls Tryz.prog 73 #[QG #[Y (T (N b off Z)) n0 c0,Y a1 n1 c1],U t] w fun e p=>∃ r:Int,e=QF (J I r)/\decide (0<=r)=aG (nm0 f0) n0 t/\Below w.heap.size w p:=by
 have f:=ae ((q9 w).alloc ly (Q #[Y (T (N b off Z)) n0 c0,Y a1 n1 c1] 29));have m:=ae (j.below f ly);have o:(w.alloc (Q #[Y (T (N b off Z)) n0 c0,Y a1 n1 c1] 29)).cell? (N w.heap.size 0 Z)=T (Y (T (N b off Z)) n0 c0):=by simp
 clear j;go_enter Tryz.func73,Tryz.ntmps73;go_wp2;generalize w.alloc (Q #[Y (T (N b off Z)) n0 c0,Y a1 n1 c1] 29)=W at f m o ⊢;go_loop [5] (fun i=>∃ k:Nat,k<=n0/\i=J I k/\Hid (aG (nm0 f0) k t=QB)) (fun i=>n0 - (intOf i).toNat);case atStart=>exact⟨0,by omega,rfl,rfl⟩
 case round =>
  obtain⟨k,hk,rfl,n⟩:=hrel;by_cases h:k<n0
  ·obtain⟨d0,d1⟩:=m.2 k h
   cases hb:((f0 k).name.toList == t.toList) with
   | true =>have l:=ae hb;go_wp2;go_ret;exact⟨k,rfl,by rw[fO (g:=nm0 f0) h l.out];simp,f.out⟩
   | false =>have l:=ae hb;go_wp2;exact⟨⟨k+1,by omega,by go_num,by show aG (nm0 f0) (k+1) t=QB;rw[jv,n.out];exact l⟩,by simp[intOf];omega⟩
  ·have e:k=n0:=by omega
   subst e;go_wp2;go_ret;exact⟨-1,rfl,by rw[n.out];rfl,f⟩
theorem sQ (a0:Option Addr)(c0:Nat)(a1:Option Addr)(n1 c1:Nat)(g:Nat->ByteArray)(t:ByteArray)(w:G):Calls Tryz.prog 73 #[QG #[Y a0 0 c0,Y a1 n1 c1],U t] w fun e b=>∃ r:Int,e=QF (J I r)/\decide (0<=r)=aG g 0 t/\Below w.heap.size w b:=by
 have f:=ae ((q9 w).alloc ly (Q #[Y a0 0 c0,Y a1 n1 c1] 29));go_enter Tryz.func73,Tryz.ntmps73;go_wp2;go_loop [5] (fun i=>i=J I 0) (fun _=>0);case atStart=>rfl
 case round =>subst hrel;go_wp2;go_ret;exact⟨-1,rfl,by rw[ju];rfl,f⟩
theorem sR (a0:Option Addr)(n0 c0:Nat)(a1:Option Addr)(n1 c1:Nat)(f0:Nat->Source)(t:ByteArray)(w:G)(hn0:(n0:Int)<=1048576)(f:SlSource w a0 n0 f0):Calls Tryz.prog 73 #[QG #[Y a0 n0 c0,Y a1 n1 c1],U t] w fun e h=>∃ r:Int,e=QF (J I r)/\decide (0<=r)=aG (nm0 f0) n0 t/\Below w.heap.size w h:=by
 rcases f with rfl | ⟨b,off,rfl,g⟩
 ·exact sQ a0 c0 a1 n1 c1 (nm0 f0) t w
 ·exact sP b off n0 c0 a1 n1 c1 f0 t w hn0 g
def dfS:Source:=⟨⟨#[]⟩,⟨#[]⟩⟩
def dfT:Target:=⟨⟨#[]⟩,0,fun _=>⟨0,⟨#[]⟩,0⟩⟩
def dfR:TR:=(dfT,0,0)
def ba (L:List Source)(i:Nat):Source:=L.getD i dfS
def be (L:List Target)(i:Nat):Target:=L.getD i dfT
theorem mL {w:G}{b c:Nat}{a:Option Addr}{L:List Source}(h:w.ownsRow b 121 2 (Y a L.length c) L.length (L.flatMap bC)):SlSource w a L.length (ba L):=by
 by_cases hn:L.length=0
 ·exact .inl hn
 ·obtain⟨g,c',e⟩:=dV h (by omega)
  simp at e;obtain⟨rfl,rfl⟩:=e;refine .inr ⟨g,0,rfl,(cX h).2,fun i hi=>?_⟩;have f:L[i]?=T (ba L i):=by rw[ba,CL,gq hi];rfl
  refine⟨?_,?_⟩
  ·have:=(bv h (j:=i*2) (u:=U (ba L i).name) (by have:=cK bC 2 (fun _=>rfl) L i 0 (by omega) _ f;simpa[bC] using this)).1
   rwa[show 0+i*2=i*2 by omega]
  ·have:=(bv h (j:=i*2+1) (u:=U (ba L i).text) (by have:=cK bC 2 (fun _=>rfl) L i 1 (by omega) _ f;simpa[bC] using this)).1
   rwa[show 0+i*2+1=i*2+1 by omega]
theorem ve {R:List TR}{i:Nat}(hi:i<R.length):∃ r,R[i]?=T r/\r∈R:=⟨R[i],gq hi,gj hi⟩
theorem zZ {w:G}{b c:Nat}{a:Option Addr}{R:List TR}(h:TRow w b (Y a R.length c) R):SlTarget w a R.length (be (R.map (·.1))):=by
 by_cases hn:R.length=0
 ·exact .inl hn
 ·obtain⟨g,c',e⟩:=dV h.own (by omega)
  simp at e;obtain⟨rfl,rfl⟩:=e;refine .inr ⟨g,0,rfl,(cX h.own).2,fun i hi=>?_⟩;obtain⟨r,f,l⟩:=ve hi;have m:be (R.map (·.1)) i=r.1:=by rw[be,CL,IH,f];rfl
  rw[m];obtain⟨h1,_,_,_⟩:=h.act r l;refine⟨?_,T (N r.2.1 0 Z),r.2.2,?_,h1.sl⟩
  ·have:=(bv h.own (j:=i*2) (u:=U r.1.name) (by have:=cK bc 2 (fun _=>rfl) R i 0 (by omega) _ f;simpa[bc] using this)).1
   rwa[show 0+i*2=i*2 by omega]
  ·have:=(bv h.own (j:=i*2+1) (u:=Y (T (N r.2.1 0 Z)) r.1.actN r.2.2) (by have:=cK bc 2 (fun _=>rfl) R i 1 (by omega) _ f;simpa[bc] using this)).1
   rwa[show 0+i*2+1=i*2+1 by omega]
theorem E7 {w m:G}{b size n:Nat}{e:TypeId}{v:QE}{f:List QE}{P:Nat->Prop}(h:w.ownsRow b e size v n f)(o:Touch P w m)(p:∀ k,v.ownBlock=T k->¬ P k):m.ownsRow b e size v n f:=by
 refine⟨h.1,?_⟩;rcases h.2 with h | ⟨g,cap,j,i,q,l,r⟩
 ·exact .inl h
 ·refine .inr ⟨g,cap,j,i,q,(o.block g ?_ (p g (by rw[i];rfl))).trans l,r⟩
  exact(BO.1 l).1
theorem pR:∀ a b:List UInt8,decide (0<Lib.compareBytes a b)=Op.bytesLess b a
 | [],[]=>by simp[Lib.compareBytes,Op.bytesLess]
 | [],_ :: _=>by simp[Lib.compareBytes,Op.bytesLess]
 | _ :: _,[]=>by simp[Lib.compareBytes,Op.bytesLess]
 | a :: x,b :: y=>by
  have i:=pR x y;rw[Lib.compareBytes,Op.bytesLess,<-i];by_cases h1:a<b
  ·have f:¬ b=a:=fun e=>by subst e;exact(UInt8.lt_irrefl _ h1)
   have g:¬ b<a:=fun h=>UInt8.lt_irrefl _ (UInt8.lt_trans h1 h);simp[h1,f,g]
  ·rw[cM h1]
   by_cases h2:b<a
   ·simp[h2]
   ·have f:a=b:=UInt8.le_antisymm (ME.1 h2) (ME.1 h1)
    subst f;simp[h1]
theorem gY {a b:ByteArray}(h:aw b a=QD):aw a b=QB/\(a.toList == b.toList)=QB:=by have h1:=mK a.data.toList b.data.toList;have h2:=kF a.data.toList b.data.toList;have f:=pR a.data.toList b.data.toList;simp only[aw,IX] at h ⊢;rw[<-h1,<-h2];rw[<-f] at h;simp at h ⊢;omega
theorem jb {a b:ByteArray}(h:aw b a=QB):aw a b=QD∨(aw a b=QB/\(a.toList == b.toList)=QD):=by have h1:=mK a.data.toList b.data.toList;have h2:=kF a.data.toList b.data.toList;have f:=pR a.data.toList b.data.toList;simp only[aw,IX] at h ⊢;rw[<-h1,<-h2];rw[<-f] at h;simp only[IT,j5] at h ⊢;omega
structure EX (w:G)(b:Nat)(v0 v1:QE):Prop where
 lt:b<w.heap.size
 c0:w.cell? (N b 0 Z)=T v0
 c1:w.cell? (N b 1 Z)=T v1
 z0:w.frozen? (N b 0 Z)=QB
 z1:w.frozen? (N b 1 Z)=QB
theorem sS (w:G)(f b:QE)(t:TypeId):EX (w.alloc (Q #[f,b] t)) w.heap.size f b:=⟨by simp,by simp,by simp,by simp,by simp⟩
def dq (L:List Source)(t:ByteArray):Nat->Bool
 | 0=>QB
 | k+1=>dq L t k || aw t (ba L k).name
def bS (L:List Source)(x:Source)(t:ByteArray):Nat->List Source
 | 0=>[]
 | k+1=>if dq L t k=QB/\aw t (ba L k).name=QD then bS L x t k++[x]++[ba L k] else bS L x t k++[ba L k]
def iw (L:List Source)(x:Source)(t:ByteArray):List Source:=if dq L t L.length=QD then bS L x t L.length else bS L x t L.length++[x]
theorem yj (L:List Source)(x:Source)(t:ByteArray)(k:Nat):(bS L x t k).length<=k+1/\(dq L t k=QB->(bS L x t k).length=k):=by
 induction k with
 | zero=>simp[bS]
 | succ j b =>
  simp only[bS,dq];cases hd:dq L t j with
  | false =>
   have h1:=b.2 hd;cases hl:aw t (ba L j).name with
   | true=>simp[h1]
   | false=>simp[h1]
  | true =>have h1:=b.1;simp;omega
def mc (n0:Nat)(f0:Nat->Source)(n1:Nat)(f1:Nat->Target)(t tx:ByteArray):Int :=
 if bh n0 f0 n1 f1≠0 then 1 else if au t=QB∨2000<(tx.size:Int) then 2 else if 200<=(keepS f0 t n0).length+(keepT f1 t n1).length then 3 else 0
def gE (n0:Nat)(f0:Nat->Source)(n1:Nat)(f1:Nat->Target)(t tx:ByteArray):List Source:=if mc n0 f0 n1 f1 t tx=0 then iw (keepS f0 t n0) ⟨t,tx⟩ t else []
def jc (n0:Nat)(f0:Nat->Source)(n1:Nat)(f1:Nat->Target)(t tx:ByteArray):List Target:=if mc n0 f0 n1 f1 t tx=0 then keepT f1 t n1 else []
theorem dt {L:List Source}{i:Nat}(h:i<L.length):ba L i=L[i]:=by rw[ba,CL,gq h];rfl
theorem kJ {g:Nat->ByteArray}{n:Nat}(h:∀ i j,i<j->j<n->aw (g i) (g j)=QD):aI g n=QD:=by
 induction n with
 | zero=>rfl
 | succ k f =>
  have h1:=f (fun i j b hj=>h i j b (by omega));cases k with
  | zero=>rfl
  | succ m =>show(aI g (m+1) && _)=QD;rw[h1];exact h m (m+1) (by omega) (by omega)
theorem qH {f:Nat->Source}{n:Nat}{t:ByteArray}:∀ y∈keepS f t n,(y.name.toList == t.toList)=QB:=by intro y b;simpa using(NE.1 b).2
theorem kK {L:List Source}{x:Source}{t:ByteArray}{i:Nat}(hi:i<=L.length)(h1:∀ m,m<i->aw (nm0 (ba L) m) t=QD):∀ k,k<=i->dq L t k=QB/\bS L x t k=L.take k
 | 0,_=>⟨rfl,rfl⟩
 | k+1,hk=>by
  obtain⟨g,f⟩:=kK (x:=x) hi h1 k (by omega);have b:aw t (ba L k).name=QB:=(gY (h1 k (by omega))).1;refine⟨?_,?_⟩
  ·show(dq L t k || aw t (ba L k).name)=QB
   rw[g,b];rfl
  ·show(if _ then _ else _)=_
   rw[cM (by rw[b];simp),f,dt (by omega)];exact KN (by omega)
theorem o6 {L:List Source}{x:Source}{t:ByteArray}{i:Nat}(hi:i<=L.length)(h1:∀ m,m<i->aw (nm0 (ba L) m) t=QD)(h2:∀ m,i<=m->m<L.length->aw (nm0 (ba L) m) t=QB)(l:∀ y∈L,(y.name.toList == t.toList)=QB):∀ d,i+d+1<=L.length->dq L t (i+d+1)=QD/\bS L x t (i+d+1)=L.take i++x :: (L.drop i).take (d+1)
 | 0,hd=>by
  obtain⟨a1,g⟩:=kK (x:=x) hi h1 i ly;have b:i<L.length:=by omega
  have j:aw t (ba L i).name=QD:=by
   cases h:aw t (ba L i).name with
   | true=>rfl
   | false =>
    rcases jb h with f | ⟨_,f⟩
    ·have:=h2 i ly b
     rw[show nm0 (ba L) i=(ba L i).name from rfl,f] at this;cases this
    ·rw[dt b,l _ (gj b)] at f
     cases f
  refine⟨?_,?_⟩
  ·show(dq L t i || aw t (ba L i).name)=QD
   rw[j];simp
  ·show(if _ then _ else _)=_
   have e:(L.drop i).take (0+1)=[L[i]]:=by rw[LM b];rfl
   rw[gM ⟨a1,j⟩,g,dt b,e];simp
 | d+1,hd=>by
  obtain⟨a1,g⟩:=o6 (x:=x) hi h1 h2 l d (by omega);refine⟨?_,?_⟩
  ·show(dq L t (i+d+1) || _)=QD
   rw[a1];rfl
  ·show(if _ then _ else _)=_
   rw[cM (by rw[show i+(d+1)=i+d+1 from rfl,a1];simp)];show bS L x t (i+d+1)++[ba L (i+d+1)]=_;have n:d+1<(L.drop i).length:=by rw[IM];omega
   rw[g,dt (by omega),<-KN n,MG];simp[MR]
theorem Cw {L:List Source}{x:Source}{t:ByteArray}{i:Nat}(hi:i<=L.length)(h1:∀ m,m<i->aw (nm0 (ba L) m) t=QD)(h2:∀ m,i<=m->m<L.length->aw (nm0 (ba L) m) t=QB)(f:∀ y∈L,(y.name.toList == t.toList)=QB):iw L x t=L.take i++x :: L.drop i:=by
 by_cases h:i=L.length
 ·subst h
  obtain⟨a1,b⟩:=kK (x:=x) hi h1 L.length ly;unfold iw;rw[cM (by rw[a1];simp),b];simp
 ·obtain⟨d,g⟩:∃ d,L.length=i+d+1:=⟨L.length - i - 1,by omega⟩
  obtain⟨a1,b⟩:=o6 (x:=x) hi h1 h2 f d (by omega);unfold iw;have e:(L.drop i).take (d+1)=L.drop i:=I8 (by rw[IM];omega);rw[g,gM a1,b,e]
def dO (g:Nat->ByteArray)(t:ByteArray):Nat->Bool
 | 0=>QB
 | k+1=>dO g t k || aw t (g k)
def eE {b:Type}(g:Nat->ByteArray)(F:Nat->b)(x:b)(t:ByteArray):Nat->List b
 | 0=>[]
 | k+1=>if dO g t k=QB/\aw t (g k)=QD then eE g F x t k++[x]++[F k] else eE g F x t k++[F k]
def jO {b:Type}(g:Nat->ByteArray)(F:Nat->b)(x:b)(t:ByteArray)(n:Nat):List b:=if dO g t n=QD then eE g F x t n else eE g F x t n++[x]
theorem Aa {f:Type}(g:Nat->ByteArray)(F:Nat->f)(x:f)(t:ByteArray)(k:Nat):(eE g F x t k).length<=k+1/\(dO g t k=QB->(eE g F x t k).length=k):=by
 induction k with
 | zero=>simp[eE]
 | succ j b =>
  simp only[eE,dO];cases hd:dO g t j with
  | false =>
   have h1:=b.2 hd;cases hl:aw t (g j) with
   | true=>simp[h1]
   | false=>simp[h1]
  | true =>have h1:=b.1;simp;omega
theorem sT {b h:Type}(p:b->h)(g:Nat->ByteArray)(F:Nat->b)(x:b)(t:ByteArray)(k:Nat):(eE g F x t k).map p=eE g (fun i=>p (F i)) (p x) t k:=by
 induction k with
 | zero=>rfl
 | succ j f =>simp only[eE];split<;>simp[f]
theorem Ab {b f:Type}(p:b->f)(g:Nat->ByteArray)(F:Nat->b)(x:b)(t:ByteArray)(n:Nat):(jO g F x t n).map p=jO g (fun i=>p (F i)) (p x) t n:=by
 unfold jO;split
 ·exact sT p g F x t n
 ·rw[HJ,sT];rfl
theorem jP {b:Type}{g:Nat->ByteArray}{L:List b}{d x:b}{t:ByteArray}{i:Nat}(hi:i<=L.length)(h1:∀ m,m<i->aw (g m) t=QD):∀ k,k<=i->dO g t k=QB/\eE g (fun j=>L.getD j d) x t k=L.take k
 | 0,_=>⟨rfl,rfl⟩
 | k+1,hk=>by
  obtain⟨l,h⟩:=jP (d:=d) (x:=x) hi h1 k (by omega);have f:aw t (g k)=QB:=(gY (h1 k (by omega))).1;have e:L.getD k d=L[k]'(by omega):=by rw[CL,gq (by omega)];rfl
  refine⟨?_,?_⟩
  ·show(dO g t k || aw t (g k))=QB
   rw[l,f];rfl
  ·show(if _ then _ else _)=_
   rw[cM (by rw[f];simp),h];show L.take k++[L.getD k d]=_;rw[e];exact KN (by omega)
theorem nf {o:Type}{g:Nat->ByteArray}{L:List o}{d x:o}{t:ByteArray}{i:Nat}(hi:i<=L.length)(h1:∀ m,m<i->aw (g m) t=QD)(h2:∀ m,i<=m->m<L.length->aw (g m) t=QB)(p:∀ m,m<L.length->((g m).toList == t.toList)=QB):∀ e,i+e+1<=L.length->dO g t (i+e+1)=QD/\eE g (fun j=>L.getD j d) x t (i+e+1)=L.take i++x :: (L.drop i).take (e+1)
 | 0,hd=>by
  obtain⟨a1,l⟩:=jP (d:=d) (x:=x) hi h1 i ly;have b:i<L.length:=by omega
  have n:aw t (g i)=QD:=by
   cases h:aw t (g i) with
   | true=>rfl
   | false =>
    rcases jb h with f | ⟨_,f⟩
    ·have:=h2 i ly b
     rw[f] at this;cases this
    ·rw[p _ b] at f
     cases f
  have e:L.getD i d=L[i]:=by rw[CL,gq b];rfl
  refine⟨?_,?_⟩
  ·show(dO g t i || aw t (g i))=QD
   rw[n];simp
  ·show(if _ then _ else _)=_
   have r:(L.drop i).take (0+1)=[L[i]]:=by rw[LM b];rfl
   rw[gM ⟨a1,n⟩,l];show L.take i++[x]++[L.getD i d]=_;rw[e,r];simp
 | k+1,hd=>by
  obtain⟨a1,l⟩:=nf (d:=d) (x:=x) hi h1 h2 p k (by omega);have q:k+1<(L.drop i).length:=by rw[IM];omega
  have e:L.getD (i+k+1) d=L[i+k+1]'(by omega):=by rw[CL,gq (by omega)];rfl
  refine⟨?_,?_⟩
  ·show(dO g t (i+k+1) || _)=QD
   rw[a1];rfl
  ·show(if _ then _ else _)=_
   rw[cM (by rw[show i+(k+1)=i+k+1 from rfl,a1];simp)];show eE g (fun j=>L.getD j d) x t (i+k+1)++[L.getD (i+k+1) d]=_;rw[l,e,<-KN q,MG];simp[MR]
theorem Cx {f:Type}{g:Nat->ByteArray}{L:List f}{d x:f}{t:ByteArray}{i:Nat}(hi:i<=L.length)(h1:∀ m,m<i->aw (g m) t=QD)(h2:∀ m,i<=m->m<L.length->aw (g m) t=QB)(h:∀ m,m<L.length->((g m).toList == t.toList)=QB):jO g (fun j=>L.getD j d) x t L.length=L.take i++x :: L.drop i:=by
 by_cases l:i=L.length
 ·subst l
  obtain⟨a1,b⟩:=jP (d:=d) (x:=x) hi h1 L.length ly;unfold jO;rw[cM (by rw[a1];simp),b];simp
 ·obtain⟨k,n⟩:∃ k,L.length=i+k+1:=⟨L.length - i - 1,by omega⟩
  obtain⟨a1,b⟩:=nf (d:=d) (x:=x) hi h1 h2 h k (by omega);unfold jO;have e:(L.drop i).take (k+1)=L.drop i:=I8 (by rw[IM];omega);rw[n,gM a1,b,e]
theorem dX {L:List Target}{i:Nat}(h:i<L.length):be L i=L[i]:=by rw[be,CL,gq h];rfl
theorem ES {g:Nat->ByteArray}{n:Nat}(h:∀ i j,i<j->j<n->aw (g i) (g j)=QD):aI g n=QD:=by
 induction n with
 | zero=>rfl
 | succ k f =>
  have h1:=f (fun i j b hj=>h i j b (by omega));cases k with
  | zero=>rfl
  | succ m =>show(aI g (m+1) && _)=QD;rw[h1];exact h m (m+1) (by omega) (by omega)
def od (K:List Target)(x:Target)(t:ByteArray):List Target:=jO (nm1 (be K)) (fun j=>K.getD j dfT) x t K.length
def jB (n0:Nat)(f0:Nat->Source)(n1:Nat)(f1:Nat->Target)(t:ByteArray)(b:Bool):Int :=
 if bh n0 f0 n1 f1≠0 then 1 else if au t=QB∨b=QB then 2 else if 200<=(keepS f0 t n0).length+(keepT f1 t n1).length then 3 else 0
theorem eW (a0:Option Addr)(n0 c0:Nat)(f0:Nat->Source)(a1:Option Addr)(n1 c1:Nat)(f1:Nat->Target)(t:ByteArray)(w:G)(hn0:(n0:Int)<=1048576)(hn1:(n1:Int)<=1048576)(QP:SlSource w a0 n0 f0)(QO:SlTarget w a1 n1 f1)(B:∀ i,i<n1->bk (f1 i)):Calls Tryz.prog 65 #[QG #[Y a0 n0 c0,Y a1 n1 c1],U t] w fun e S=>∃ o q R,e=QF (QG #[o,q])/\S.ownsRow (w.heap.size+3) 121 2 o (keepS f0 t n0).length ((keepS f0 t n0).flatMap bC)/\TRow S (w.heap.size+3) q R/\R.map (·.1)=keepT f1 t n1/\Below w.heap.size w S:=by
 have V0:=ae QP;have V1:=ae QO;have HF:=ae B;clear QP QO B;obtain⟨V,hi,n7,X,n8⟩:=IL iC;obtain⟨bt,hj,mv,la,ld⟩:=IL fw;have A0:=ae ((((q9 w).alloc ly (Q #[Y a0 n0 c0,Y a1 n1 c1] 29)).alloc (by simp) (Q #[Y Z 0 0,Y Z 0 0] 29)).alloc (by simp;omega) (Q #[Y Z 0 0,Y Z 0 0] 29));have X0:=ae (yi w (Y a0 n0 c0) (Y a1 n1 c1) 29);go_enter Tryz.func65,Tryz.ntmps65;go_wp2;generalize ((w.alloc (Q #[Y a0 n0 c0,Y a1 n1 c1] 29)).alloc (Q #[Y Z 0 0,Y Z 0 0] 29)).alloc (Q #[Y Z 0 0,Y Z 0 0] 29)=W at A0 X0 ⊢;go_loopw [6] (fun i wr=>∃ (k:Nat) (o:QE),k<=n0/\i=J I k/\Hid (Boxes wr w.heap.size (Y a0 n0 c0) (Y a1 n1 c1) o (Y Z 0 0))/\Hid (wr.ownsRow (w.heap.size+3) 121 2 o (keepS f0 t k).length ((keepS f0 t k).flatMap bC))/\Hid (Below w.heap.size w wr)) (fun i _=>n0 - (intOf i).toNat);case atStart=>exact⟨0,_,by omega,rfl,X0,BG _ _ _ _,A0⟩
 case round =>
  obtain⟨k,o,QH,rfl,f,A,n⟩:=hrel;have L:=f.lt;by_cases s:k<n0
  ·obtain⟨b,off,rfl,r⟩:=V0.resolve_left (by omega)
   obtain⟨QL,QN⟩:=(r.2 k s).below n r.1;clear r;have hll:=jA f0 t k;have O:=f.a0;cases hq:((f0 k).name.toList == t.toList) with
   | true =>have z:=ae hq;go_wp2;exact⟨⟨k+1,o,by omega,by go_num,f,by show World.ownsRow _ _ _ _ _ _ _;rw[wN z.out];exact A,n⟩,by simp[intOf];omega⟩
   | false =>
    have z:=ae hq;obtain⟨x0,y0⟩:=f.o0;have QR:=ae ((a8 (w.heap.size+3) wr).drew.alloc (by simp;omega) (Q #[U (f0 k).name,U (f0 k).text] 121));go_wp2_with fail
    go_region_law (first
     | (refine d9 rfl (.tmp 25) (.tmp 31) 26 rfl (w.heap.size+3) 121 V (QG #[U ⟨#[]⟩,U ⟨#[]⟩]) 2 32 Tryz.underlying26 hi n7 X n8 rfl (by decide) o (keepS f0 t k).length ((keepS f0 t k).flatMap bC) (by simp[Act.eval]) (A.drew.alloc _) (N wr.heap.size 0 Z) 1 1 (bC (f0 k)) (by simp[Act.eval]) rfl (cL wr.drew _ _ _) (by simp[bC,Value.oneCell']) (by unfold maxLen;omega) (by omega) (by simp<;>omega) ?_;intro v' w2 m h u;obtain⟨gs,cs,rfl⟩:=dV m (by omega);have O2:=ae m;have M:=ae (bg QR h (by simp<;>omega) (fun j e=>(A.lt j e).1));obtain⟨x2,y2⟩:=(f.below M ly).o0;clear m h u))
    all_goals
     clear x0 y0 O;go_wp2;exact⟨⟨k+1,_,by omega,by go_num,(f.below M ly).set0 _,by show World.ownsRow _ _ _ _ _ _ _;rw[wO z.out,eI,EQ];simpa using aV O2.out (by omega) _,(n.trans (M.mono (by omega))).setCell (by simp;omega) _⟩,by simp[intOf];omega⟩
  ·have e:n0=k:=by omega
   subst e;have O:=f.a0;have H:=f.a1;go_wp2;clear O H s QH;generalize wr=W1 at f A n L ⊢;go_loopw [7] (fun i wr=>∃ (k:Nat) (q:QE) (R:List TR),k<=n1/\i=J I k/\Hid (Boxes wr w.heap.size (Y a0 n0 c0) (Y a1 n1 c1) o q)/\Hid (wr.ownsRow (w.heap.size+3) 121 2 o (keepS f0 t n0).length ((keepS f0 t n0).flatMap bC))/\Hid (TRow wr (w.heap.size+3) q R)/\Hid (R.map (·.1)=keepT f1 t k)/\Hid (Below w.heap.size w wr)) (fun i _=>n1 - (intOf i).toNat);case atStart=>exact⟨0,_,[],by omega,rfl,f,A,cT _ _,rfl,n⟩
   case round =>
    clear f A n;obtain⟨k,q,R,QH,rfl,f,D,y,E,n⟩:=hrel;have hlt4:=f.lt;by_cases s:k<n1
    ·obtain⟨b,off,rfl,r⟩:=V1.resolve_left (by omega)
     obtain⟨QL,ka,kc,QN,hx⟩:=(r.2 k s).below n ly r.1;have HX:=ae hx;have QJ:=r.1;clear r hx;have hRl:R.length<=1048576:=by have h1:=BC List.length E.out;have h2:=ma f1 t k;simp at h1;omega
     have aq:((f1 k).actN:Int)<=1048576:=by have:=HF.out k s;unfold bk at this;omega
     have H:=f.a1;have hbh:¬ b=w.heap.size+1+1:=by omega
     have hbh2:¬ w.heap.size+1+1=b:=by omega
     have hbw:b<wr.heap.size:=lj QJ n.size;cases hq:((f1 k).name.toList == t.toList) with
     | true =>have z:=ae hq;go_wp2;exact⟨⟨k+1,q,R,by omega,by go_num,f,D,y,by show _=keepT f1 t (k+1);rw[wP z.out];exact E,n⟩,by simp[intOf];omega⟩
     | false =>
      have z:=ae hq;obtain⟨x1,y1⟩:=f.o1;have QR:=ae (q9 wr).drew;go_wp2_with fail
      go_region_law (first
       | (go_simp;go_at_call 67;refine(iv ka (f1 k).actN kc (f1 k).act _ aq (HX.below QR ly)).mono ?_;rintro e C ⟨g,c,rfl,P,hB⟩;have l:=ae (QR.trans (hB.mono (by simp)));have fd:=(l.cell (p:=(N b (off+k*2) Z)) hbw).trans QL;have n6:=(l.cell (p:=(N b (off+k*2+1) Z)) hbw).trans QN;have K:=(cX P).1;have OC:=ae (aE P (base':=w.heap.size+3) (by simp;omega));have QM:wr.heap.size<=g:=(by simpa using K);obtain⟨xC,yC⟩:=(f.below l (by omega)).o1;have kC:=(f.below l (by omega)).a1;have hzC:w.heap.size+1+1<C.heap.size:=(by have:=(f.below l (by omega)).lt;omega);have hyC:w.heap.size<C.heap.size:=(by omega);have hxC:b<C.heap.size:=(by have:=l.size;omega);clear hB P K)
       | (refine d9 rfl (.tmp 50) (.tmp 65) 27 rfl (w.heap.size+3) 125 bt (QG #[U ⟨#[]⟩,Y Z 0 0]) 2 40 Tryz.underlying27 hj mv la ld rfl (by decide) q R.length (R.flatMap bc) (by simp[Act.eval]) ((y.below l ly).own.alloc _) (N C.heap.size 0 Z) 1 1 (bc (f1 k,g,c)) (by simp[Act.eval]) rfl (cL C _ _ _) (by simp[bc,Value.oneCell']) (by unfold maxLen;omega) (by omega) (by first | (simp;done) | (simp;omega) | (have:=l.size;simp;omega)) ?_;intro v' w2 m h u;obtain⟨gs,cs,rfl⟩:=dV m (by omega);have T2:=ae (y.more (x:=f1 k) (g:=g) (c:=c) (l.alloc l.size _) QM (by omega) (OC.alloc _) m h);have QK:=ae (bg ((l.mono (show w.heap.size+3<=wr.heap.size by omega)).alloc (by have:=l.size;omega) _) h (by have:=l.size;simp;omega) (fun j e=>(y.own.lt j e).1));obtain⟨x2,y2⟩:=(f.below QK ly).o1;have ex:=ae ((own_below D (l.alloc l.size _) ly).kept h (yg (own_below D (l.alloc l.size (Q #[U (f1 k).name,Y (T (N g 0 Z)) (f1 k).actN c] 125)) ly) ((y.below l ly).own.alloc _) (by decide)));clear m h u))
      all_goals
       clear fd n6 xC yC x1 y1 H kC QL QN;go_wp2;exact⟨⟨k+1,_,R++[(f1 k,g,c)],by omega,by go_num,(f.below QK ly).set1 _,aV ex (by omega) _,T2.set (by omega) _,by show _=keepT f1 t (k+1);rw[wQ z.out,HJ,E.out];rfl,(n.trans (QK.mono (by omega))).setCell (by simp;omega) _⟩,by simp[intOf];omega⟩
    ·have e:n1=k:=by omega
     subst e;have H:=f.a1;obtain⟨sa,sc,rfl⟩:=aP D;obtain⟨ta,tc,rfl⟩:=aP y.own;obtain⟨r0,q0⟩:=f.r0;obtain⟨r1,q1⟩:=f.r1;obtain⟨m0,_⟩:=f.o0;obtain⟨m1,_⟩:=f.o1;go_wp2;exact bp (v:=QG #[Y sa _ sc,Y ta _ tc]) (by simp[results,Tryz.results65,go_sem,r0,r1]) rfl ⟨_,_,R,rfl,aV (aV D (by omega) _) (by omega) _,(y.set (by omega) _).set (by omega) _,E,(n.setCell (by simp) _).setCell (by simp) _⟩
theorem sU (a0:Option Addr)(n0 c0:Nat)(f0:Nat->Source)(a1:Option Addr)(n1 c1:Nat)(f1:Nat->Target)(t tx:ByteArray)(w:G)(hn0:(n0:Int)<=1048576)(hn1:(n1:Int)<=1048576)(ro:SlSource w a0 n0 f0)(ur:SlTarget w a1 n1 f1)(n6:∀ i,i<n1->bk (f1 i))(hs:∀ i,i<n1->∀ j,j<(f1 i).actN->((f1 i).act j).s.size<=maxLen):Calls Tryz.prog 20 #[QG #[Y a0 n0 c0,Y a1 n1 c1],U t,U tx] w fun e QK=>∃ v0 v1 R,e=QF (.tuple #[QG #[v0,v1],J I (mc n0 f0 n1 f1 t tx)])/\QK.ownsRow w.heap.size 121 2 v0 (gE n0 f0 n1 f1 t tx).length ((gE n0 f0 n1 f1 t tx).flatMap bC)/\TRow QK w.heap.size v1 R/\R.map (·.1)=jc n0 f0 n1 f1 t tx/\Below w.heap.size w QK:=by
 have V0:=ae ro;have V1:=ae ur;have HF:=ae n6;have HS:=ae hs;clear ro ur n6 hs;obtain⟨QO,QN,O,M,P⟩:=IL iC;obtain⟨C,hC⟩:∃ C,C=bh n0 f0 n1 f1:=⟨_,rfl⟩
 obtain⟨D,hD⟩:∃ D,D=mc n0 f0 n1 f1 t tx:=⟨_,rfl⟩
 obtain⟨LS,qr⟩:∃ LS,LS=gE n0 f0 n1 f1 t tx:=⟨_,rfl⟩
 obtain⟨LT,n8⟩:∃ LT,LT=jc n0 f0 n1 f1 t tx:=⟨_,rfl⟩
 rw[<-hD,<-qr,<-n8];have HC:=ae hC;have HD:=ae (hD.trans (by unfold mc;rw[<-hC]));have z:=ae (qr.trans (by unfold gE;rw[<-hD]));have aq:=ae (n8.trans (by unfold jc;rw[<-hD]));clear hC hD qr n8;have A0:=ae (((q9 w).alloc ly (Q #[Y a0 n0 c0,Y a1 n1 c1] 29)).alloc (by simp) (Q #[Y Z 0 0,Y Z 0 0] 29));have X0:=ae (sO w (Y a0 n0 c0) (Y a1 n1 c1) 29);go_enter Tryz.func20,Tryz.ntmps20;go_wp2_with fail;generalize (w.alloc (Q #[Y a0 n0 c0,Y a1 n1 c1] 29)).alloc (Q #[Y Z 0 0,Y Z 0 0] 29)=W at A0 X0 ⊢;refine(eV a0 n0 c0 f0 a1 n1 c1 f1 _ hn0 hn1 (V0.below A0 ly) (V1.below A0 ly) HF HS).mono ?_;rintro e w1 ⟨rfl,x⟩;rw[<-HC.out];have X1:=ae (X0.below x X0.lt');have B1:=ae (A0.trans (x.mono A0.size));clear x A0 X0;by_cases hc:C=0;case neg =>
  have hd:=HD.out;rw[gM hc] at hd;have r:=z.out;rw[cM (by omega)] at r;have o:=aq.out;rw[cM (by omega)] at o;subst hd r o;have hc':(C == 0)=QB:=by simpa using hc
  obtain⟨r0,q0⟩:=X1.r0;obtain⟨r1,QL⟩:=X1.r1;go_wp2;exact bp (v:=.tuple #[QG #[Y Z 0 0,Y Z 0 0],J I 1]) (by simp[results,Tryz.results20,go_sem,r0,r1]) rfl ⟨_,_,[],rfl,BG _ _ _ _,cT _ _,rfl,(B1.setCell (by simp) _).setCell (by simp) _⟩
 subst hc;have hz:=kI HC.symm;have HZ:=ae hz;clear hz HC;have n9:=HD.out;rw[cM (by omega)] at n9;have mv:=ae n9;clear n9 HD;go_wp2_with fail;refine(cP t _).mono ?_;rintro e w2 ⟨rfl,x⟩;have QP:=ae (X1.below x X1.lt');have QH:=ae (B1.trans (x.mono B1.size));clear x X1 B1;by_cases n:au t=QB∨2000<(tx.size:Int)
 ·have hd:=mv.out
  rw[gM n] at hd;have r:=z.out;rw[cM (by omega)] at r;have o:=aq.out;rw[cM (by omega)] at o;subst hd r o;obtain⟨r0,q0⟩:=QP.r0;obtain⟨r1,QL⟩:=QP.r1;cases hn:au t with
  | false =>clear n;go_wp2;exact bp (v:=.tuple #[QG #[Y Z 0 0,Y Z 0 0],J I 2]) (by simp[results,Tryz.results20,go_sem,r0,r1]) rfl ⟨_,_,[],rfl,BG _ _ _ _,cT _ _,rfl,(QH.setCell (by simp) _).setCell (by simp) _⟩
  | true =>have Bk:(2000:Int)<tx.size:=n.resolve_left (by simp[hn]);clear n;go_wp2;exact bp (v:=.tuple #[QG #[Y Z 0 0,Y Z 0 0],J I 2]) (by simp[results,Tryz.results20,go_sem,r0,r1]) rfl ⟨_,_,[],rfl,BG _ _ _ _,cT _ _,rfl,(QH.setCell (by simp) _).setCell (by simp) _⟩
 have n7:=mv.out;rw[cM n] at n7;have sm:=ae n7;have hn:au t=QD:=by
  cases h:au t with
  | true=>rfl
  | false=>exact absurd (.inl h) n
 have Bk:¬ (2000:Int)<tx.size:=fun h=>n (.inr h);clear n7 mv n;have k0:=QP.a0;have k1:=QP.a1;rw[hn];go_wp2_with fail;refine(eW a0 n0 c0 f0 a1 n1 c1 f1 t _ hn0 hn1 (V0.below QH ly) (V1.below QH ly) HF).mono ?_;rintro e B ⟨v0,v1,R,rfl,hO,hR,hM,x⟩;have hlt2:=QP.lt;have X3:=ae (QP.below x QP.lt');have B3:=ae (QH.trans (x.mono QH.size));obtain⟨sa,sc,rfl⟩:=aP hO;obtain⟨ta,V,rfl⟩:=aP hR.own;have eR:R.length=(keepT f1 t n1).length:=by rw[<-hM];simp
 have CD:=jA f0 t n0;have DE:=ma f1 t n1;obtain⟨L,hL⟩:∃ L,L=keepS f0 t n0:=⟨_,rfl⟩
 obtain⟨K,hK⟩:∃ K,K=keepT f1 t n1:=⟨_,rfl⟩
 rw[<-hL] at hO CD ⊢;rw[<-hK] at hM DE eR;have E:=sm.out;rw[<-hL,<-hK] at E;have r:=z.out;rw[<-hL] at r;have o:=aq.out;rw[<-hK] at o;have ER:=ae eR;have hlr:R.length<=n1:=by omega
 clear sm z aq hL hK x k0 k1 hn QP QH eR;have O3:=ae (aE hO (base':=w.heap.size) (by omega));have RX:Hid (∀ QK,Below B.heap.size B QK->TRow QK (w2.heap.size+3) (Y ta R.length V) R):=fun QK hb=>hR.below hb ly;have HM:=ae hM;have hll:(L.length:Int)<=1048576:=by omega
 clear hO hR hM;have DB:=ae ((q9 B).alloc ly (Q #[Y sa L.length sc,Y ta R.length V] 29));have K8:=ae (sS B (Y sa L.length sc) (Y ta R.length V) 29);have X4:=ae (X3.below DB X3.lt');have B4:=ae (B3.trans (DB.mono B3.size));have O4:=ae (own_below O3 DB ly);have fd:=ae DB.out;have th:w.heap.size+1<B.heap.size:=X3.lt;have c8:=K8.c0;have c9:=K8.c1;clear O3 DB;by_cases hc3:(200:Int)<=L.length+R.length
 ·rw[gM (by have:=ER.out;omega)] at E
  rw[cM (by omega)] at r o;subst E r o;obtain⟨r0,q0⟩:=X3.r0;obtain⟨r1,QL⟩:=X3.r1;clear c8 c9;go_wp2;exact bp (v:=.tuple #[QG #[Y Z 0 0,Y Z 0 0],J I 3]) (by simp[results,Tryz.results20,go_sem,r0,r1,th]) rfl ⟨_,_,[],rfl,BG _ _ _ _,cT _ _,rfl,((B3.setCell (by simp) _).setCell (by simp) _).alloc (by have:=B3.size;simp;omega) _⟩
 clear X3 B3;rw[cM (by have:=ER.out;omega)] at E;rw[gM E] at r o;subst E o;have z:=ae r;clear r;go_wp2;have S:(B.alloc (Q #[Y sa L.length sc,Y ta R.length V] 29)).heap.size=B.heap.size+1:=by simp
 generalize B.alloc (Q #[Y sa L.length sc,Y ta R.length V] 29)=w4 at K8 X4 B4 O4 fd c8 c9 S ⊢;generalize B.heap.size=X at K8 c8 c9 th S RX fd ⊢;obtain⟨u,ph⟩:∃ u,u=w4.heap.size:=⟨_,rfl⟩
 have E0:Hid (Below u w4 (w4.alloc (Q #[] 121))):=by rw[ph];exact br.alloc ly _
 have W0:Hid ((w4.alloc (Q #[] 121)).ownsRow u 121 2 (Y (T (N (X+1) 0 Z)) 0 0) 0 []):=by rw[<-S];exact I7 w4 #[] 0 (by omega) (by unfold maxLen;omega) rfl
 have y:X<u:=by have:=K8.lt;omega
 have g:=ae ph;have H:=ae S;clear ph S;go_loopw [9,10,11] (fun v d i wr=>∃ (k:Nat) (db:Bool),k<=L.length/\i=J I k/\d=.bool db/\Hid (db=dq L t k)/\Hid (wr.ownsRow u 121 2 v (bS L ⟨t,tx⟩ t k).length ((bS L ⟨t,tx⟩ t k).flatMap bC))/\Hid (Below u w4 wr)) (fun _ _ i _=>L.length - (intOf i).toNat);case atStart=>exact⟨0,QB,by omega,rfl,rfl,rfl,W0,E0⟩
 case round =>
  obtain⟨k,db,hk,rfl,rfl,QR,A,m⟩:=hrel;have e8:=(m.cell (p:=(N X 0 Z)) y).trans c8;have At:=yj L ⟨t,tx⟩ t k;obtain⟨hlen1,bt⟩:=At;have HL2:=ae bt;clear bt;by_cases o:k<L.length
  ·obtain⟨b,off,rfl,hr⟩:=(mL O4).resolve_left (by omega)
   obtain⟨p0,p1⟩:=hr.2 k o;have ex:b<u:=by have:=hr.1;have:=g.out;omega
   have d0:=(m.cell (p:=(N b (off+k*2) Z)) ex).trans p0;have d1:=(m.cell (p:=(N b (off+k*2+1) Z)) ex).trans p1;clear hr;cases db with
   | true =>
    have HI:Hid (bS L ⟨t,tx⟩ t (k+1)=bS L ⟨t,tx⟩ t k++[ba L k]):=by show(if _ then _ else _)=_;rw[cM (by rw[<-QR.out];simp)]
    have HN:Hid (QD=dq L t (k+1)):=by show QD=(dq L t k || _);rw[<-QR.out];rfl
    go_wp2_with (at_builtin;(refine CW _ rfl (.tmp 63) (.tmp 69) 26 rfl u 121 QO (QG #[U ⟨#[]⟩,U ⟨#[]⟩]) 2 32 Tryz.underlying26 QN O M P rfl (by decide) _ (bS L ⟨t,tx⟩ t k).length ((bS L ⟨t,tx⟩ t k).flatMap bC) (by simp[Act.eval]) (A.alloc _) (N wr.heap.size 0 Z) 1 1 (bC (ba L k)) (by simp[Act.eval]) rfl (cL wr _ _ _) (by simp[bC,Value.oneCell']) (by unfold maxLen;omega) (by omega) (by have:=m.size;have:=g.out;simp;omega) ?_;intro vy wy l f q;have OY:=ae l;have BY:=ae (bg (m.alloc (by have:=m.size;have:=g.out;omega) (Q #[U (ba L k).name,U (ba L k).text] 121)) f (by have:=m.size;have:=g.out;simp;omega) (fun j e=>(A.lt j e).1));clear l f q));exact⟨⟨k+1,QD,by omega,by go_num,rfl,HN,by show World.ownsRow _ _ _ _ _ _ _;rw[HI.out,eI,EQ];simpa using OY.out,BY⟩,by simp[intOf];omega⟩
   | false =>
    cases hq:aw t (ba L k).name with
    | true =>
     have HI:Hid (bS L ⟨t,tx⟩ t (k+1)=bS L ⟨t,tx⟩ t k++[⟨t,tx⟩]++[ba L k]):=by show(if _ then _ else _)=_;rw[gM ⟨QR.symm,hq⟩]
     have HN:Hid (QD=dq L t (k+1)):=by show QD=(dq L t k || _);rw[hq];simp
     obtain⟨QL,q2⟩:=gY hq;clear hq;go_wp2_with (at_builtin;first | (refine CW _ rfl (.tmp 57) (.tmp 61) 26 rfl u 121 QO (QG #[U ⟨#[]⟩,U ⟨#[]⟩]) 2 32 Tryz.underlying26 QN O M P rfl (by decide) _ (bS L ⟨t,tx⟩ t k).length ((bS L ⟨t,tx⟩ t k).flatMap bC) (by simp[Act.eval]) (A.alloc _) (N wr.heap.size 0 Z) 1 1 (bC ⟨t,tx⟩) (by simp[Act.eval]) rfl (cL wr _ _ _) (by simp[bC,Value.oneCell']) (by unfold maxLen;omega) (by omega) (by have:=m.size;have:=g.out;simp;omega) ?_;intro vx wx l f q;have OX:=ae l;have QJ:=ae (bg (m.alloc (by have:=m.size;have:=g.out;omega) (Q #[U t,U tx] 121)) f (by have:=m.size;have:=g.out;simp;omega) (fun j e=>(A.lt j e).1));have f8:=(QJ.cell (p:=(N X 0 Z)) y).trans c8;have g0:=(QJ.cell (p:=(N b (off+k*2) Z)) ex).trans p0;have g1:=(QJ.cell (p:=(N b (off+k*2+1) Z)) ex).trans p1;clear l f q) | (refine CW _ rfl (.tmp 63) (.tmp 69) 26 rfl u 121 QO (QG #[U ⟨#[]⟩,U ⟨#[]⟩]) 2 32 Tryz.underlying26 QN O M P rfl (by decide) _ ((bS L ⟨t,tx⟩ t k).length+1) ((bS L ⟨t,tx⟩ t k).flatMap bC++bC ⟨t,tx⟩) (by simp[Act.eval]) (OX.alloc _) (N wx.heap.size 0 Z) 1 1 (bC (ba L k)) (by simp[Act.eval]) rfl (cL wx _ _ _) (by simp[bC,Value.oneCell']) (by unfold maxLen;omega) (by omega) (by have:=QJ.size;have:=g.out;simp;omega) ?_;intro vy wy l f q;have OY:=ae l;have BY:=ae (bg (QJ.alloc (by have:=QJ.size;have:=g.out;omega) (Q #[U (ba L k).name,U (ba L k).text] 121)) f (by have:=QJ.size;have:=g.out;simp;omega) (fun j e=>(OX.lt j e).1));clear l f q));exact⟨⟨k+1,QD,by omega,by go_num,rfl,HN,by show World.ownsRow _ _ _ _ _ _ _;rw[HI.out,eI,eI,EQ,EQ];simpa using OY.out,BY⟩,by simp[intOf];omega⟩
    | false =>
     have HI:Hid (bS L ⟨t,tx⟩ t (k+1)=bS L ⟨t,tx⟩ t k++[ba L k]):=by show(if _ then _ else _)=_;rw[cM (by rw[hq];simp)]
     have HN:Hid (QB=dq L t (k+1)):=by show QB=(dq L t k || _);rw[<-QR.out,hq];rfl
     have HQ:=ae (jb hq);clear hq;rcases HQ.out with QL | ⟨QL,q2⟩
     all_goals
      go_wp2_with (at_builtin;(refine CW _ rfl (.tmp 63) (.tmp 69) 26 rfl u 121 QO (QG #[U ⟨#[]⟩,U ⟨#[]⟩]) 2 32 Tryz.underlying26 QN O M P rfl (by decide) _ (bS L ⟨t,tx⟩ t k).length ((bS L ⟨t,tx⟩ t k).flatMap bC) (by simp[Act.eval]) (A.alloc _) (N wr.heap.size 0 Z) 1 1 (bC (ba L k)) (by simp[Act.eval]) rfl (cL wr _ _ _) (by simp[bC,Value.oneCell']) (by unfold maxLen;omega) (by omega) (by have:=m.size;have:=g.out;simp;omega) ?_;intro vy wy l f q;have OY:=ae l;have BY:=ae (bg (m.alloc (by have:=m.size;have:=g.out;omega) (Q #[U (ba L k).name,U (ba L k).text] 121)) f (by have:=m.size;have:=g.out;simp;omega) (fun j e=>(A.lt j e).1));clear l f q));exact⟨⟨k+1,QB,by omega,by go_num,rfl,HN,by show World.ownsRow _ _ _ _ _ _ _;rw[HI.out,eI,EQ];simpa using OY.out,BY⟩,by simp[intOf];omega⟩
  ·have e:L.length=k:=by omega
   subst e;cases db with
   | true =>
    have QM:iw L ⟨t,tx⟩ t=bS L ⟨t,tx⟩ t L.length:=by unfold iw;rw[gM QR.symm]
    obtain⟨va,vc,rfl⟩:=aP A;have OF:Hid (wr.ownsRow u 121 2 (Y va (bS L ⟨t,tx⟩ t L.length).length vc) LS.length (LS.flatMap bC)):=by show World.ownsRow _ _ _ _ _ _ _;rw[z.out,QM];exact A
    have ld:=g.out;have la:=H.out;have H1:=ae ld;have H2:=ae la;have H3:=ae QM;have e9:=(m.cell (p:=(N X 1 Z)) y).trans c9;have y8:=(m.frozen (p:=(N X 0 Z)) y).trans K8.z0;obtain⟨r0,q0⟩:=(X4.below m (by omega)).r0;obtain⟨r1,QL⟩:=(X4.below m (by omega)).r1;clear ld la QM;go_wp2;have ld:=g.out;have la:=H.out;exact bp (v:=.tuple #[QG #[Y va (bS L ⟨t,tx⟩ t L.length).length vc,Y ta R.length V],J I 0]) (by simp[results,Tryz.results20,go_sem,r0,r1]) rfl ⟨_,_,R,rfl,aE (aV (aV (aV OF (R:=X) (j:=0) (by omega) _) (R:=w.heap.size+1) (j:=0) (by omega) _) (R:=w.heap.size+1) (j:=1) (by omega) _) (by omega),fQ (((RX _ ((fd.trans (m.mono (by omega))).setCell (p:=(N X 0 Z)) ly _)).set (X:=w.heap.size+1) (j:=0) (by omega) _).set (X:=w.heap.size+1) (j:=1) (by omega) _) (by omega),HM,(((B4.trans (m.mono (by omega))).setCell (by simp;omega) _).setCell (by simp) _).setCell (by simp) _⟩
   | false =>
    go_wp2_with (at_builtin;(refine CW _ rfl (.tmp 73) (.tmp 77) 26 rfl u 121 QO (QG #[U ⟨#[]⟩,U ⟨#[]⟩]) 2 32 Tryz.underlying26 QN O M P rfl (by decide) _ (bS L ⟨t,tx⟩ t L.length).length ((bS L ⟨t,tx⟩ t L.length).flatMap bC) (by simp[Act.eval]) (A.alloc _) (N wr.heap.size 0 Z) 1 1 (bC ⟨t,tx⟩) (by simp[Act.eval]) rfl (cL wr _ _ _) (by simp[bC,Value.oneCell']) (by unfold maxLen;omega) (by omega) (by have:=m.size;have:=g.out;simp;omega) ?_;intro vz wz l f q;obtain⟨gs,cs,rfl⟩:=dV l (by omega);have OZ:=ae l;have BZ:=ae (bg (m.alloc (by have:=m.size;have:=g.out;omega) (Q #[U t,U tx] 121)) f (by have:=m.size;have:=g.out;simp;omega) (fun j e=>(A.lt j e).1));have f8:=(BZ.cell (p:=(N X 0 Z)) y).trans c8;have f9:=(BZ.cell (p:=(N X 1 Z)) y).trans c9;have y8:=(BZ.frozen (p:=(N X 0 Z)) y).trans K8.z0;obtain⟨r0,q0⟩:=(X4.below BZ (by have:=g.out;have:=H.out;omega)).r0;obtain⟨r1,QL⟩:=(X4.below BZ (by have:=g.out;have:=H.out;omega)).r1;clear l f q));have QM:iw L ⟨t,tx⟩ t=bS L ⟨t,tx⟩ t L.length++[⟨t,tx⟩]:=by unfold iw;rw[cM (by rw[<-QR.out];simp)]
    have OF:Hid (wz.ownsRow u 121 2 (Y (T (N gs 0 Z)) ((bS L ⟨t,tx⟩ t L.length).length+1) cs) LS.length (LS.flatMap bC)):=by show World.ownsRow _ _ _ _ _ _ _;rw[z.out,QM,eI,EQ];simpa using OZ.out
    have ld:=g.out;have la:=H.out;exact bp (v:=.tuple #[QG #[Y (T (N gs 0 Z)) ((bS L ⟨t,tx⟩ t L.length).length+1) cs,Y ta R.length V],J I 0]) (by simp[results,Tryz.results20,go_sem,r0,r1]) rfl ⟨_,_,R,rfl,aE (aV (aV (aV OF (R:=X) (j:=0) (by omega) _) (R:=w.heap.size+1) (j:=0) (by omega) _) (R:=w.heap.size+1) (j:=1) (by omega) _) (by omega),fQ (((RX _ ((fd.trans (BZ.mono (by omega))).setCell (p:=(N X 0 Z)) ly _)).set (X:=w.heap.size+1) (j:=0) (by omega) _).set (X:=w.heap.size+1) (j:=1) (by omega) _) (by omega),HM,(((B4.trans (BZ.mono (by omega))).setCell (by simp;omega) _).setCell (by simp) _).setCell (by simp) _⟩
theorem sV (a0:Option Addr)(n0 c0:Nat)(f0:Nat->Source)(a1:Option Addr)(n1 c1:Nat)(f1:Nat->Target)(t:ByteArray)(w:G)(hn0:(n0:Int)<=1048576)(hn1:(n1:Int)<=1048576)(aq:SlSource w a0 n0 f0)(ex:SlTarget w a1 n1 f1)(QL:∀ i,i<n1->bk (f1 i))(hs:∀ i,i<n1->∀ j,j<(f1 i).actN->((f1 i).act j).s.size<=maxLen):Calls Tryz.prog 29 #[QG #[Y a0 n0 c0,Y a1 n1 c1],U t] w fun e w'=>∃ v0 v1 R,e=QF (.tuple #[QG #[v0,v1],J I (kG n0 f0 n1 f1 t)])/\w'.ownsRow w.heap.size 121 2 v0 (iD n0 f0 n1 f1 t).length ((iD n0 f0 n1 f1 t).flatMap bC)/\TRow w' w.heap.size v1 R/\R.map (·.1)=kH n0 f0 n1 f1 t/\Below w.heap.size w w':=by
 have V0:=ae aq;have QJ:=ae ex;have HF:=ae QL;have HS:=ae hs;clear aq ex QL hs;obtain⟨C,hC⟩:∃ C,C=bh n0 f0 n1 f1:=⟨_,rfl⟩
 obtain⟨D,S⟩:∃ D,D=kG n0 f0 n1 f1 t:=⟨_,rfl⟩
 obtain⟨LS,O⟩:∃ LS,LS=iD n0 f0 n1 f1 t:=⟨_,rfl⟩
 obtain⟨LT,QH⟩:∃ LT,LT=kH n0 f0 n1 f1 t:=⟨_,rfl⟩
 rw[<-S,<-O,<-QH];have HC:=ae hC;have HD:=ae (S.trans (by unfold kG;rw[<-hC]));have o:=ae (O.trans (by unfold iD;rw[<-S]));have n:=ae (QH.trans (by unfold kH;rw[<-S]));clear hC S O QH;have QR:=ae (((q9 w).alloc ly (Q #[Y a0 n0 c0,Y a1 n1 c1] 29)).alloc (by simp) (Q #[Y Z 0 0,Y Z 0 0] 29));have X0:=ae (sO w (Y a0 n0 c0) (Y a1 n1 c1) 29);go_enter Tryz.func29,Tryz.ntmps29;go_wp2_with fail;generalize (w.alloc (Q #[Y a0 n0 c0,Y a1 n1 c1] 29)).alloc (Q #[Y Z 0 0,Y Z 0 0] 29)=W at QR X0 ⊢;refine(eV a0 n0 c0 f0 a1 n1 c1 f1 _ hn0 hn1 (V0.below QR ly) (QJ.below QR ly) HF HS).mono ?_;rintro e w1 ⟨rfl,b⟩;rw[<-HC.out];have QM:=ae (X0.below b X0.lt');have B1:=ae (QR.trans (b.mono QR.size));clear b QR X0;by_cases hc:C=0;case neg =>
  have h:=HD.out;rw[gM hc] at h;have g:=o.out;rw[cM (by omega)] at g;have f:=n.out;rw[cM (by omega)] at f;subst h g f;have hc':(C == 0)=QB:=by simpa using hc
  obtain⟨r0,q0⟩:=QM.r0;obtain⟨r1,q1⟩:=QM.r1;go_wp2;exact bp (v:=.tuple #[QG #[Y Z 0 0,Y Z 0 0],J I 1]) (by simp[results,Tryz.results29,go_sem,r0,r1]) rfl ⟨_,_,[],rfl,BG _ _ _ _,cT _ _,rfl,(B1.setCell (by simp) _).setCell (by simp) _⟩
 subst hc;have hz:=kI HC.symm;have HZ:=ae hz;clear hz HC;have L:=HD.out;rw[cM (by omega)] at L;have P:=ae L;clear L HD;go_wp2_with fail;refine(cP t _).mono ?_;rintro e w2 ⟨rfl,b⟩;have u:=ae (QM.below b QM.lt');have M:=ae (B1.trans (b.mono B1.size));clear b QM B1;cases hn:au t with
 | false =>have h:=P.out;rw[gM hn] at h;have g:=o.out;rw[cM (by omega)] at g;have f:=n.out;rw[cM (by omega)] at f;subst h g f;clear hn;obtain⟨r0,q0⟩:=u.r0;obtain⟨r1,q1⟩:=u.r1;go_wp2;exact bp (v:=.tuple #[QG #[Y Z 0 0,Y Z 0 0],J I 2]) (by simp[results,Tryz.results29,go_sem,r0,r1]) rfl ⟨_,_,[],rfl,BG _ _ _ _,cT _ _,rfl,(M.setCell (by simp) _).setCell (by simp) _⟩
 | true =>
  have QK:=P.out;rw[cM (by simp[hn])] at QK;have QN:=ae QK;clear QK P hn;have H:=u.a0;have QO:=u.a1;go_wp2_with fail;refine(sR a0 n0 c0 a1 n1 c1 f0 t _ hn0 (V0.below M ly)).mono ?_;rintro e wS ⟨r,rfl,E,b⟩;have QP:=ae (u.below b u.lt');have V:=ae (M.trans (b.mono M.size));clear b u M H QO;have H:=QP.a0;have QO:=QP.a1;by_cases hr:r<0
  ·have bt:Hid (aG (nm0 f0) n0 t=QB):=by show _=QB;rw[<-E];simpa using hr
   clear E;go_wp2_with fail;refine(lS a0 n0 c0 a1 n1 c1 f1 t _ hn1 (QJ.below V ly)).mono ?_;rintro e w3 ⟨q,rfl,B,b⟩;have l:=ae (QP.below b QP.lt');have m:=ae (V.trans (b.mono V.size));clear b QP V H QO;have H:=l.a0;have QO:=l.a1;by_cases hq:q<0
   ·have hi:(aG (nm0 f0) n0 t || aG (nm1 f1) n1 t)=QB:=by rw[bt.out,<-B];simpa using hq
    clear B;have h:=QN.out;rw[gM hi] at h;have g:=o.out;rw[cM (by omega)] at g;have f:=n.out;rw[cM (by omega)] at f;subst h g f;obtain⟨r0,q0⟩:=l.r0;obtain⟨r1,q1⟩:=l.r1;go_wp2;exact bp (v:=.tuple #[QG #[Y Z 0 0,Y Z 0 0],J I 4]) (by simp[results,Tryz.results29,go_sem,r0,r1]) rfl ⟨_,_,[],rfl,BG _ _ _ _,cT _ _,rfl,(m.setCell (by simp) _).setCell (by simp) _⟩
   ·have hi:(aG (nm0 f0) n0 t || aG (nm1 f1) n1 t)=QD:=by rw[bt.out,<-B];simpa using hq
    clear B;have h:=QN.out;rw[cM (by simp[hi])] at h;have g:=o.out;rw[gM h] at g;have f:=n.out;rw[gM h] at f;subst h g f;go_wp2_with fail;refine(eW a0 n0 c0 f0 a1 n1 c1 f1 t _ hn0 hn1 (V0.below m ly) (QJ.below m ly) HF).mono ?_;rintro e w4 ⟨v0,v1,R,rfl,A,hR,hM,b⟩;have K:=ae (l.below b l.lt');have fd:=l.lt;have B4:=ae (m.trans (b.mono m.size));obtain⟨p,x,rfl⟩:=aP A;obtain⟨z,y,rfl⟩:=aP hR.own;have O4:=ae (aE (aV (aV (R:=w.heap.size+1) (j:=0) A (by omega) (Y p (keepS f0 t n0).length x)) (R:=w.heap.size+1) (j:=1) (by omega) (Y z R.length y)) (base':=w.heap.size) (by omega));have T4:=ae (fQ ((hR.set (X:=w.heap.size+1) (j:=0) (by omega) (Y p (keepS f0 t n0).length x)).set (X:=w.heap.size+1) (j:=1) (by omega) (Y z R.length y)) (base':=w.heap.size) (by omega));have HM:=ae hM;clear A hR b hM H QO;obtain⟨r0,q0⟩:=K.r0;obtain⟨r1,q1⟩:=K.r1;go_wp2;exact bp (v:=.tuple #[QG #[Y p (keepS f0 t n0).length x,Y z R.length y],J I 0]) (by simp[results,Tryz.results29,go_sem,r0,r1]) rfl ⟨_,_,R,rfl,O4,T4,HM,(B4.setCell (by simp) _).setCell (by simp) _⟩
  ·have hi:(aG (nm0 f0) n0 t || aG (nm1 f1) n1 t)=QD:=by rw[<-E];have:decide (0<=r)=QD:=JF (by omega);rw[this];rfl
   clear E;have l:=QP;have m:=V;have h:=QN.out;rw[cM (by simp[hi])] at h;have g:=o.out;rw[gM h] at g;have f:=n.out;rw[gM h] at f;subst h g f;go_wp2_with fail;refine(eW a0 n0 c0 f0 a1 n1 c1 f1 t _ hn0 hn1 (V0.below m ly) (QJ.below m ly) HF).mono ?_;rintro e w4 ⟨v0,v1,R,rfl,A,hR,hM,b⟩;have K:=ae (l.below b l.lt');have fd:=l.lt;have B4:=ae (m.trans (b.mono m.size));obtain⟨p,x,rfl⟩:=aP A;obtain⟨z,y,rfl⟩:=aP hR.own;have O4:=ae (aE (aV (aV (R:=w.heap.size+1) (j:=0) A (by omega) (Y p (keepS f0 t n0).length x)) (R:=w.heap.size+1) (j:=1) (by omega) (Y z R.length y)) (base':=w.heap.size) (by omega));have T4:=ae (fQ ((hR.set (X:=w.heap.size+1) (j:=0) (by omega) (Y p (keepS f0 t n0).length x)).set (X:=w.heap.size+1) (j:=1) (by omega) (Y z R.length y)) (base':=w.heap.size) (by omega));have HM:=ae hM;clear A hR b hM H QO;obtain⟨r0,q0⟩:=K.r0;obtain⟨r1,q1⟩:=K.r1;go_wp2;exact bp (v:=.tuple #[QG #[Y p (keepS f0 t n0).length x,Y z R.length y],J I 0]) (by simp[results,Tryz.results29,go_sem,r0,r1]) rfl ⟨_,_,R,rfl,O4,T4,HM,(B4.setCell (by simp) _).setCell (by simp) _⟩
end Go.Proofs.YtamacmnikdejeaaGreatDoor.Vp
