import Derived.Test.YtkdimgejdocbbaaGreatDoorYT
import Derived.Test.YtkdimgejdocbbaaGreatDoorYA
set_option maxRecDepth 100000
set_option maxHeartbeats 4000000
open Go.Addr renaming mk->J
open Go.Value renaming slice->Z,string->U
open Option renaming none->Y,some->N
open Go.Obj renaming cells->T
open Go renaming World->E,Value->QB
namespace Go.Proofs.YtkdimgejdocbbaaGreatDoor.Vp
open RowKit
def sZ (f:Nat->Ins)(n:Nat):List I3:=(List.range n).map fun i=>((f i).op,(f i).s.data.toList,(f i).n)
theorem AV (f:Nat->Ins)(n:Nat):(sZ f n).length=n:=by simp[sZ]
theorem AX (f:Nat->Ins)(n:Nat):i3L (sZ f n)=cB f n:=by rw[i3L,sZ,cB,LB,LB];rfl
theorem um (R p g c n:Nat)(f:Nat->Ins)(w:E)(hR:Rd w R p)(k:p<=20000)(d:RowIns w g 0 n f)(hn:1<=n/\n<=200)(l:∀ j,j<n->(f j).s.size<=5000):Calls Tryz.prog 145 #[.pointer (N (J R 0 Y)),.agg #[Z (N (J g 0 Y)) n c]] w fun e o=>DP w R (p+1000) 0 201 e o:=by
 have b:=AV f n
 have h:=lE R p g c (sZ f n) w hR k d.1 (by rw[AX];exact o7 d) (by omega) (by intro e;rw[e] at b;simp at b;omega) (by
  intro i hi;obtain⟨j,m,rfl⟩:=ID.1 hi;have:=l j (BO.1 m)
  simpa using this)
 rw[b] at h;exact h
theorem mE {w:E}{b:Nat}{s0 s1 g d f:ByteArray}{t:TypeId}{fz:Nat × Nat}(h:w.heap[b]?=N (T #[U s0,U s1,U g,U d,U f] t fz))(k:Nat)(i:k<5):∃ s,w.cell? (J b k Y)=N (U s):=by
 match k,i with
 | 0,_=>exact⟨s0,by simp[World.cell?,h]⟩
 | 1,_=>exact⟨s1,by simp[World.cell?,h]⟩
 | 2,_=>exact⟨g,by simp[World.cell?,h]⟩
 | 3,_=>exact⟨d,by simp[World.cell?,h]⟩
 | 4,_=>exact⟨f,by simp[World.cell?,h]⟩
 | j+5,h5=>exact absurd h5 (by omega)
section
variable {W:E}{rr xb base:Nat}{LS:List Source}{RR:List TR}
theorem SpX.setA {gt c1 n1 g c n n0 c0:Nat}{a0:Option Addr}{f:Nat->Ins}{r0:TR}(h:SpX rr xb base W (Z a0 n0 c0) (Z (N (J gt 0 Y)) n1 c1) LS (r0 :: RR))(C:n0=LS.length)(x:n1=(r0 :: RR).length)(QN:RowIns W g 0 n f)(G:TypeAt W g 188)(hb:base<=g)(QL:n<=300)(QQ:∀ j,j<n->(f j).s.size<=5000)(H:LS.length<=300)(h1:(r0 :: RR).length<=300)(QP:GX (r0 :: RR)):HSp base (W.setCell (J gt 1 Y) (Z (N (J g 0 Y)) n c)) a0 n0 (aP LS) (N (J gt 0 Y)) n1 (bo ((((⟨r0.1.name,n,f⟩,N (J g 0 Y),c):TO) :: RR.map upO).map (·.1)))/\(W.setCell (J gt 1 Y) (Z (N (J g 0 Y)) n c)).heap[xb]?=N (T #[Z a0 n0 c0,Z (N (J gt 0 Y)) n1 c1] 26 (0,0))/\(W.setCell (J gt 1 Y) (Z (N (J g 0 Y)) n c)).heap[rr]?=N (T #[Z Y 0 0,Z Y 0 0] 26 (0,0))/\Below base W (W.setCell (J gt 1 Y) (Z (N (J g 0 Y)) n c)):=by
 have i:W.ownsRow base 108 2 (Z (N (J gt 0 Y)) n1 c1) n1 ((r0 :: RR).flatMap aV):=by have h2:=h.tgt.own;rw[<-x] at h2;exact h2
 have u:=(i.lt gt rfl).1;have t:TypeAt W gt 108:=h.tgt.type gt rfl;obtain⟨B,m⟩:=t;have far:∀ (X:Nat) o,W.heap[X]?=N (T o 26 (0,0))->(W.setCell (J gt 1 Y) (Z (N (J g 0 Y)) n c)).heap[X]?=N (T o 26 (0,0)):=by intro X o z;refine(qh W (J gt 1 Y) _ X ?_).trans z;intro e;have e:X=gt:=e;subst e;have:=z.symm.trans m;cases this
 refine⟨?_,far _ _ h.box,far _ _ h.res,(eI base W).setCell (p:=(J gt 1 Y)) u _⟩;refine ve (c1:=c1) (eW h.src m (by decide) _) C ?_ (by rw[x];simp) H (by simpa using h1) ?_ ?_
 ·have h2:=mo i (j:=1) (Z (N (J g 0 Y)) n c)
  have L:((r0 :: RR).flatMap aV).set 1 (Z (N (J g 0 Y)) n c)=(((⟨r0.1.name,n,f⟩,N (J g 0 Y),c):TO) :: RR.map upO).flatMap toV:=by rw[I9,I9,<-nH];rfl
  rw[L] at h2;exact h2
 ·intro r b
  have d:∀ k,TypeAt W k 188->(W.setCell (J gt 1 Y) (Z (N (J g 0 Y)) n c)).heap[k]?=W.heap[k]?:=fun k A=>qh W (J gt 1 Y) _ k (by
   intro q;have q:k=gt:=q;rw[q] at A
   exact ey A (⟨B,m⟩:TypeAt W gt 108) (by decide) rfl)
  rcases BC.1 b with rfl | b
  ·exact⟨g,rfl,hb,QN.block (by simp) (d g G)⟩
  ·obtain⟨y,l,rfl⟩:=ID.1 b
   obtain⟨K,_,M,QO⟩:=h.tgt.act y (mq _ l);exact⟨y.2.1,rfl,QO,K.block (by simp) (d _ M)⟩
 ·intro r b
  rcases BC.1 b with rfl | b
  ·exact⟨QL,QQ⟩
  ·obtain⟨y,l,rfl⟩:=ID.1 b
   exact QP y (mq _ l)
end
structure Sw (rr xb base:Nat)(W:E)(v0:QB)(gt n1 c1:Nat)(LS:List Source)(RT:List TR)(xs:List QB):Prop where
 res:W.heap[rr]?=N (T #[Z Y 0 0,Z Y 0 0] 26 (0,0))
 box:W.heap[xb]?=N (T #[v0,Z (N (J gt 0 Y)) n1 c1] 26 (0,0))
 src:W.ownsRow base 104 2 v0 LS.length (LS.flatMap bC)
 own:W.ownsRow base 108 2 (Z (N (J gt 0 Y)) n1 c1) n1 xs
 act:∀ r∈RT,RowIns W r.2.1 0 r.1.actN r.1.act/\(∃ F,Cells W r.2.1 0 (r.1.actN*3) F)/\TypeAt W r.2.1 188/\base<=r.2.1
section
variable {W W':E}{rr xb base gt n1 c1:Nat}{v0:QB}{LS:List Source}{RT:List TR}{xs:List QB}
theorem SpX.sw (h:SpX rr xb base W v0 (Z (N (J gt 0 Y)) n1 c1) LS RT)(b:n1=RT.length):Sw rr xb base W v0 gt n1 c1 LS RT (RT.flatMap aV) :=
 ⟨h.res,h.box,h.src,by have h2:=h.tgt.own;rw[<-b] at h2;exact h2,h.tgt.act⟩
theorem Sw.set (h:Sw rr xb base W v0 gt n1 c1 LS RT xs)(j:Nat)(u:QB):Sw rr xb base (W.setCell (J gt j Y) u) v0 gt n1 c1 LS RT (xs.set j u):=by
 have f:TypeAt W gt 108:=dQ h.own gt rfl;obtain⟨i,b⟩:=f;have far:∀ (X:Nat) d,W.heap[X]?=N (T d 26 (0,0))->(W.setCell (J gt j Y) u).heap[X]?=N (T d 26 (0,0)):=by intro X d g;refine(qh W (J gt j Y) _ X ?_).trans g;intro e;have e:X=gt:=e;subst e;have:=g.symm.trans b;cases this
 exact⟨far _ _ h.res,far _ _ h.box,eW h.src b (by decide) u,mo h.own u,AU h.act ⟨i,b⟩ u⟩
theorem Sw.drew (h:Sw rr xb base W v0 gt n1 c1 LS RT xs):Sw rr xb base W.drew v0 gt n1 c1 LS RT xs :=
 ⟨h.res,h.box,own_below h.src br.drew lr,own_below h.own br.drew lr,fun r i=>by
  obtain⟨g,⟨F,f⟩,b,d⟩:=h.act r i
  exact⟨g.block lr rfl,⟨F,f.block lr rfl⟩,b.block rfl,d⟩⟩
theorem Sw.fin {a0:Option Addr}{n0 c0:Nat}(h:Sw rr xb base W (Z a0 n0 c0) gt n1 c1 LS RT xs)(f:n0=LS.length){L:List TR}(m:xs=(L.map upO).flatMap toV)(i:n1=L.length)(l:LS.length<=300)(h1:L.length<=300)(hL:∀ r∈L,r∈RT)(j:GX RT):HSp base W a0 n0 (aP LS) (N (J gt 0 Y)) n1 (bo ((L.map upO).map (·.1))):=by
 subst m;refine ve (c1:=c1) h.src f h.own (by rw[i];simp) l (by simpa using h1) (fun r b=>?_) (fun r b=>?_)
 ·obtain⟨y,d,rfl⟩:=ID.1 b
  obtain⟨k,_,q3,g⟩:=h.act y (hL y d);exact⟨y.2.1,rfl,g,k⟩
 ·obtain⟨y,d,rfl⟩:=ID.1 b
  exact j y (hL y d)
end
theorem nI (R p:Nat)(w:E)(hR:Rd w R p)(hp:p<=10000):Calls Tryz.prog 62 #[.pointer (N (J R 0 Y))] w fun e V=>DP w R (p+1700) 0 201 e V:=by
 have W:=ae hR;have i:=hR.lt;clear hR;go_enter Tryz.func62,Tryz.ntmps62;go_wp2_with fail;have r:=ae ((Qs w).alloc lr (T #[Z Y 0 0] 31));have QQ:Hid (PB (w.alloc (T #[Z Y 0 0] 31)) w.heap.size (Z Y 0 0)):=eL w _;have H:(w.alloc (T #[Z Y 0 0] 31)).heap.size=w.heap.size+1:=by simp
 generalize w.alloc (T #[Z Y 0 0] 31)=QP at r QQ H ⊢;have QM:Hid (Only R w QP):=Only.of_below r;refine(iw R p _ (W.below r lr) (by omega)).mono ?_;rintro e d ⟨L,g,c,rfl,l,hlo,hL,P,q,hq,hR,b⟩;have hs2:=b.size;have k:=(Qs d).alloc lr (T #[Z (N (J g 0 Y)) L.length c] 31);have x:=ae (hR.below k lr);have I3:=ae (l.below k lr);have n:=ae (PB.below ((b.block w.heap.size (by omega) (by omega)).trans QQ:PB d w.heap.size (Z Y 0 0)) k (by omega));have G:=ae ((QM.trans b).then (k.mono (by omega)));have s:Hid (PB (d.alloc (T #[Z (N (J g 0 Y)) L.length c] 31)) d.heap.size (Z (N (J g 0 Y)) L.length c)):=eL d _;have O:=ae P;clear l hR b k r QQ QM P;go_wp2_with fail;generalize d.alloc (T #[Z (N (J g 0 Y)) L.length c] 31)=W3 at x I3 n G s ⊢;refine(aD R _ 6 _ x (by omega) (by omega) (by omega)).mono ?_;rintro e t ⟨z,rfl,zz0,zz1,hR,b⟩;have S:=ae hR;have QJ:=ae (I3.only b (by omega));have f:Hid (PB t w.heap.size (Z Y 0 0)):=(b.block w.heap.size n.lt (by omega)).trans n;have QL:Hid (PB t d.heap.size (Z (N (J g 0 Y)) L.length c)):=(b.block d.heap.size s.lt (by omega)).trans s;have K:=ae (G.trans b);clear hR b x I3 n s G;have q0:=QL.c0;have ql:=QL.lt;by_cases hz:z=0
 ·subst hz
  go_wp2_with fail;refine(tS R (q+1) g c L _ QP.heap.size S (by omega) QJ (by omega) (IH.1 (by omega)) O).mono ?_;rintro e QN ⟨M,o,c5,rfl,l,hlo5,QO,u,X,hq5,hR,b⟩;have h:PB QN w.heap.size (Z Y 0 0):=(b.block w.heap.size f.lt (by omega)).trans f;have QG:=h.c0;have QH:=h.fz 0;have zl:=h.lt;have B:=ae (aI (aG (aI l (show w.heap.size+1<=t.heap.size by omega)) (show w.heap.size<w.heap.size+1 by omega) (j:=0) (Z (N (J o 0 Y)) M.length c5)) (show w.heap.size<=w.heap.size+1 by omega));have C:=ae (h.set (Z (N (J o 0 Y)) M.length c5));have m:=ae ((eI w.heap.size QN).setCell (p:=(J w.heap.size 0 Y)) lr (Z (N (J o 0 Y)) M.length c5));have A:=ae (hR.low m i);have y:=ae ((K.trans b).then m);have QK:=ae u;clear l hR b h u;go_wp2;try simp only[Exit.inBlock,Exit.then]
  refine bp (hZ rfl _ _ w.heap.size _ rfl C) rfl ?_;exact⟨M,o,c5,rfl,B,CS _,QO,QK,X,by omega,A,y⟩
 ·have QG:=f.c0
  have QH:=f.fz 0;have zl:=f.lt;have B:=ae (aI (aG (aI QJ (show w.heap.size+1<=QP.heap.size by omega)) (show w.heap.size<w.heap.size+1 by omega) (j:=0) (Z (N (J g 0 Y)) L.length c)) (show w.heap.size<=w.heap.size+1 by omega));have C:=ae (f.set (Z (N (J g 0 Y)) L.length c));have m:=ae ((eI w.heap.size t).setCell (p:=(J w.heap.size 0 Y)) lr (Z (N (J g 0 Y)) L.length c));have A:=ae (S.low m i);have y:=ae (K.then m);go_wp2;try simp only[Exit.inBlock,Exit.then]
  refine bp (hZ rfl _ _ w.heap.size _ rfl C) rfl ?_;exact⟨L,g,c,rfl,B,CS _,by omega,O,_,by omega,A,y⟩
end Go.Proofs.YtkdimgejdocbbaaGreatDoor.Vp
