import Derived.Test.YtkdimgejdocbbaaGreatDoorYT
import Derived.Test.YtkdimgejdocbbaaGreatDoorYA
set_option maxRecDepth 100000
set_option maxHeartbeats 4000000
open Go.Addr renaming mk->J
open Go.Value renaming slice->Y,string->U
open Option renaming none->Z,some->Q
open Go.Obj renaming cells->T
open Go renaming World->E,Value->QB
namespace Go.Proofs.YtkdimgejdocbbaaGreatDoor.Vp
open RowKit
def sZ (f:Nat->Ins)(n:Nat):List I3:=(List.range n).map fun i=>((f i).op,(f i).s.data.toList,(f i).n)
theorem AV (f:Nat->Ins)(n:Nat):(sZ f n).length=n:=by simp[sZ]
theorem AX (f:Nat->Ins)(n:Nat):i3L (sZ f n)=cB f n:=by rw[i3L,sZ,cB,KV,KV];rfl
theorem um (R p g c n:Nat)(f:Nat->Ins)(w:E)(hR:Rd w R p)(o:p<=20000)(d:RowIns w g 0 n f)(hn:1<=n/\n<=200)(l:∀ j,j<n->(f j).s.size<=5000):Calls Tryz.prog 145 #[.pointer (Q (J R 0 Z)),.agg #[Y (Q (J g 0 Z)) n c]] w fun e m=>DP w R (p+1000) 0 201 e m:=by
 have b:=AV f n
 have h:=lE R p g c (sZ f n) w hR o d.1 (by rw[AX];exact o7 d) (by omega) (by intro e;rw[e] at b;simp at b;omega) (by
  intro i hi;obtain⟨j,k,rfl⟩:=IC.1 hi;have:=l j (BO.1 k)
  simpa using this)
 rw[b] at h;exact h
theorem mE {w:E}{b:Nat}{s0 s1 d f g:ByteArray}{t:TypeId}{fz:Nat × Nat}(h:w.heap[b]?=Q (T #[U s0,U s1,U d,U f,U g] t fz))(k:Nat)(i:k<5):∃ s,w.cell? (J b k Z)=Q (U s):=by
 match k,i with
 | 0,_=>exact⟨s0,by simp[World.cell?,h]⟩
 | 1,_=>exact⟨s1,by simp[World.cell?,h]⟩
 | 2,_=>exact⟨d,by simp[World.cell?,h]⟩
 | 3,_=>exact⟨f,by simp[World.cell?,h]⟩
 | 4,_=>exact⟨g,by simp[World.cell?,h]⟩
 | j+5,h5=>exact absurd h5 (by omega)
section
variable {W:E}{rr xb base:Nat}{LS:List Source}{RR:List TR}
theorem SpX.setA {gt c1 n1 g c n n0 c0:Nat}{a0:Option Addr}{f:Nat->Ins}{r0:TR}(h:SpX rr xb base W (Y a0 n0 c0) (Y (Q (J gt 0 Z)) n1 c1) LS (r0 :: RR))(QP:n0=LS.length)(x:n1=(r0 :: RR).length)(L:RowIns W g 0 n f)(QN:TypeAt W g 188)(hb:base<=g)(K:n<=300)(QQ:∀ j,j<n->(f j).s.size<=5000)(QM:LS.length<=300)(h1:(r0 :: RR).length<=300)(QO:GX (r0 :: RR)):HSp base (W.setCell (J gt 1 Z) (Y (Q (J g 0 Z)) n c)) a0 n0 (aP LS) (Q (J gt 0 Z)) n1 (bo ((((⟨r0.1.name,n,f⟩,Q (J g 0 Z),c):TO) :: RR.map upO).map (·.1)))/\(W.setCell (J gt 1 Z) (Y (Q (J g 0 Z)) n c)).heap[xb]?=Q (T #[Y a0 n0 c0,Y (Q (J gt 0 Z)) n1 c1] 26 (0,0))/\(W.setCell (J gt 1 Z) (Y (Q (J g 0 Z)) n c)).heap[rr]?=Q (T #[Y Z 0 0,Y Z 0 0] 26 (0,0))/\Below base W (W.setCell (J gt 1 Z) (Y (Q (J g 0 Z)) n c)):=by
 have i:W.ownsRow base 108 2 (Y (Q (J gt 0 Z)) n1 c1) n1 ((r0 :: RR).flatMap aV):=by have h2:=h.tgt.own;rw[<-x] at h2;exact h2
 have B:=(i.lt gt rfl).1;have A:TypeAt W gt 108:=h.tgt.type gt rfl;obtain⟨u,l⟩:=A;have far:∀ (X:Nat) m,W.heap[X]?=Q (T m 26 (0,0))->(W.setCell (J gt 1 Z) (Y (Q (J g 0 Z)) n c)).heap[X]?=Q (T m 26 (0,0)):=by intro X m z;refine(qh W (J gt 1 Z) _ X ?_).trans z;intro e;have e:X=gt:=e;subst e;have:=z.symm.trans l;cases this
 refine⟨?_,far _ _ h.box,far _ _ h.res,(eI base W).setCell (p:=(J gt 1 Z)) B _⟩;refine ve (c1:=c1) (eW h.src l (by decide) _) QP ?_ (by rw[x];simp) QM (by simpa using h1) ?_ ?_
 ·have h2:=mo i (j:=1) (Y (Q (J g 0 Z)) n c)
  have H:((r0 :: RR).flatMap aV).set 1 (Y (Q (J g 0 Z)) n c)=(((⟨r0.1.name,n,f⟩,Q (J g 0 Z),c):TO) :: RR.map upO).flatMap toV:=by rw[I8,I8,<-nH];rfl
  rw[H] at h2;exact h2
 ·intro r b
  have d:∀ k,TypeAt W k 188->(W.setCell (J gt 1 Z) (Y (Q (J g 0 Z)) n c)).heap[k]?=W.heap[k]?:=fun k t=>qh W (J gt 1 Z) _ k (by
   intro o;have o:k=gt:=o;rw[o] at t
   exact ey t (⟨u,l⟩:TypeAt W gt 108) (by decide) rfl)
  rcases BC.1 b with rfl | b
  ·exact⟨g,rfl,hb,L.block (by simp) (d g QN)⟩
  ·obtain⟨y,q,rfl⟩:=IC.1 b
   obtain⟨G,_,M,C⟩:=h.tgt.act y (mq _ q);exact⟨y.2.1,rfl,C,G.block (by simp) (d _ M)⟩
 ·intro r b
  rcases BC.1 b with rfl | b
  ·exact⟨K,QQ⟩
  ·obtain⟨y,q,rfl⟩:=IC.1 b
   exact QO y (mq _ q)
end
structure Sw (rr xb base:Nat)(W:E)(v0:QB)(gt n1 c1:Nat)(LS:List Source)(RT:List TR)(xs:List QB):Prop where
 res:W.heap[rr]?=Q (T #[Y Z 0 0,Y Z 0 0] 26 (0,0))
 box:W.heap[xb]?=Q (T #[v0,Y (Q (J gt 0 Z)) n1 c1] 26 (0,0))
 src:W.ownsRow base 104 2 v0 LS.length (LS.flatMap bC)
 own:W.ownsRow base 108 2 (Y (Q (J gt 0 Z)) n1 c1) n1 xs
 act:∀ r∈RT,RowIns W r.2.1 0 r.1.actN r.1.act/\(∃ F,Cells W r.2.1 0 (r.1.actN*3) F)/\TypeAt W r.2.1 188/\base<=r.2.1
section
variable {W W':E}{rr xb base gt n1 c1:Nat}{v0:QB}{LS:List Source}{RT:List TR}{xs:List QB}
theorem SpX.sw (h:SpX rr xb base W v0 (Y (Q (J gt 0 Z)) n1 c1) LS RT)(b:n1=RT.length):Sw rr xb base W v0 gt n1 c1 LS RT (RT.flatMap aV) :=
 ⟨h.res,h.box,h.src,by have h2:=h.tgt.own;rw[<-b] at h2;exact h2,h.tgt.act⟩
theorem Sw.set (h:Sw rr xb base W v0 gt n1 c1 LS RT xs)(j:Nat)(u:QB):Sw rr xb base (W.setCell (J gt j Z) u) v0 gt n1 c1 LS RT (xs.set j u):=by
 have f:TypeAt W gt 108:=dQ h.own gt rfl;obtain⟨i,d⟩:=f;have far:∀ (X:Nat) b,W.heap[X]?=Q (T b 26 (0,0))->(W.setCell (J gt j Z) u).heap[X]?=Q (T b 26 (0,0)):=by intro X b g;refine(qh W (J gt j Z) _ X ?_).trans g;intro e;have e:X=gt:=e;subst e;have:=g.symm.trans d;cases this
 exact⟨far _ _ h.res,far _ _ h.box,eW h.src d (by decide) u,mo h.own u,AU h.act ⟨i,d⟩ u⟩
theorem Sw.drew (h:Sw rr xb base W v0 gt n1 c1 LS RT xs):Sw rr xb base W.drew v0 gt n1 c1 LS RT xs :=
 ⟨h.res,h.box,own_below h.src br.drew lr,own_below h.own br.drew lr,fun r i=>by
  obtain⟨g,⟨F,f⟩,b,d⟩:=h.act r i
  exact⟨g.block lr rfl,⟨F,f.block lr rfl⟩,b.block rfl,d⟩⟩
theorem Sw.fin {a0:Option Addr}{n0 c0:Nat}(h:Sw rr xb base W (Y a0 n0 c0) gt n1 c1 LS RT xs)(g:n0=LS.length){L:List TR}(i:xs=(L.map upO).flatMap toV)(l:n1=L.length)(m:LS.length<=300)(h1:L.length<=300)(hL:∀ r∈L,r∈RT)(k:GX RT):HSp base W a0 n0 (aP LS) (Q (J gt 0 Z)) n1 (bo ((L.map upO).map (·.1))):=by
 subst i;refine ve (c1:=c1) h.src g h.own (by rw[l];simp) m (by simpa using h1) (fun r b=>?_) (fun r b=>?_)
 ·obtain⟨y,d,rfl⟩:=IC.1 b
  obtain⟨j,_,q3,f⟩:=h.act y (hL y d);exact⟨y.2.1,rfl,f,j⟩
 ·obtain⟨y,d,rfl⟩:=IC.1 b
  exact k y (hL y d)
end
theorem nI (R p:Nat)(w:E)(hR:Rd w R p)(hp:p<=10000):Calls Tryz.prog 62 #[.pointer (Q (J R 0 Z))] w fun e X=>DP w R (p+1700) 0 201 e X:=by
 have QH:=ae hR;have i:=hR.lt;clear hR;go_enter Tryz.func62,Tryz.ntmps62;go_wp2_with fail;have n:=ae ((Qs w).alloc lr (T #[Y Z 0 0] 31));have x:Hid (PB (w.alloc (T #[Y Z 0 0] 31)) w.heap.size (Y Z 0 0)):=eL w _;have QK:(w.alloc (T #[Y Z 0 0] 31)).heap.size=w.heap.size+1:=by simp
 generalize w.alloc (T #[Y Z 0 0] 31)=QQ at n x QK ⊢;have QJ:Hid (Only R w QQ):=Only.of_below n;refine(iw R p _ (QH.below n lr) (by omega)).mono ?_;rintro e d ⟨L,g,c,rfl,k,hlo,hL,QM,q,hq,hR,b⟩;have hs2:=b.size;have h:=(Qs d).alloc lr (T #[Y (Q (J g 0 Z)) L.length c] 31);have QP:=ae (hR.below h lr);have I3:=ae (k.below h lr);have t:=ae (PB.below ((b.block w.heap.size (by omega) (by omega)).trans x:PB d w.heap.size (Y Z 0 0)) h (by omega));have y:=ae ((QJ.trans b).then (h.mono (by omega)));have r:Hid (PB (d.alloc (T #[Y (Q (J g 0 Z)) L.length c] 31)) d.heap.size (Y (Q (J g 0 Z)) L.length c)):=eL d _;have H:=ae QM;clear k hR b h n x QJ QM;go_wp2_with fail;generalize d.alloc (T #[Y (Q (J g 0 Z)) L.length c] 31)=W3 at QP I3 t y r ⊢;refine(aD R _ 6 _ QP (by omega) (by omega) (by omega)).mono ?_;rintro e o ⟨z,rfl,zz0,zz1,hR,b⟩;have K:=ae hR;have QL:=ae (I3.only b (by omega));have f:Hid (PB o w.heap.size (Y Z 0 0)):=(b.block w.heap.size t.lt (by omega)).trans t;have QO:Hid (PB o d.heap.size (Y (Q (J g 0 Z)) L.length c)):=(b.block d.heap.size r.lt (by omega)).trans r;have O:=ae (y.trans b);clear hR b QP I3 t r y;have q0:=QO.c0;have ql:=QO.lt;by_cases hz:z=0
 ·subst hz
  go_wp2_with fail;refine(tS R (q+1) g c L _ QQ.heap.size K (by omega) QL (by omega) (IE.1 (by omega)) H).mono ?_;rintro e P ⟨M,s,c5,rfl,k,hlo5,S,u,q5,hq5,hR,b⟩;have l:PB P w.heap.size (Y Z 0 0):=(b.block w.heap.size f.lt (by omega)).trans f;have QG:=l.c0;have V:=l.fz 0;have W:=l.lt;have C:=ae (aI (aG (aI k (show w.heap.size+1<=o.heap.size by omega)) (show w.heap.size<w.heap.size+1 by omega) (j:=0) (Y (Q (J s 0 Z)) M.length c5)) (show w.heap.size<=w.heap.size+1 by omega));have A:=ae (l.set (Y (Q (J s 0 Z)) M.length c5));have m:=ae ((eI w.heap.size P).setCell (p:=(J w.heap.size 0 Z)) lr (Y (Q (J s 0 Z)) M.length c5));have B:=ae (hR.low m i);have G:=ae ((O.trans b).then m);have QN:=ae u;clear k hR b l u;go_wp2;try simp only[Exit.inBlock,Exit.then]
  refine bp (hZ rfl _ _ w.heap.size _ rfl A) rfl ?_;exact⟨M,s,c5,rfl,C,CP _,S,QN,q5,by omega,B,G⟩
 ·have QG:=f.c0
  have V:=f.fz 0;have W:=f.lt;have C:=ae (aI (aG (aI QL (show w.heap.size+1<=QQ.heap.size by omega)) (show w.heap.size<w.heap.size+1 by omega) (j:=0) (Y (Q (J g 0 Z)) L.length c)) (show w.heap.size<=w.heap.size+1 by omega));have A:=ae (f.set (Y (Q (J g 0 Z)) L.length c));have m:=ae ((eI w.heap.size o).setCell (p:=(J w.heap.size 0 Z)) lr (Y (Q (J g 0 Z)) L.length c));have B:=ae (K.low m i);have G:=ae (O.then m);go_wp2;try simp only[Exit.inBlock,Exit.then]
  refine bp (hZ rfl _ _ w.heap.size _ rfl A) rfl ?_;exact⟨L,g,c,rfl,C,CP _,by omega,H,_,by omega,B,G⟩
end Go.Proofs.YtkdimgejdocbbaaGreatDoor.Vp
