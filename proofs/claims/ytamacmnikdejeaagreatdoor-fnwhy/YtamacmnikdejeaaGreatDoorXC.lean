import Derived.Test.YtamacmnikdejeaaGreatDoorXB
import Derived.Test.YtamacmnikdejeaaGreatDoorYI
set_option maxRecDepth 100000
set_option maxHeartbeats 4000000
open Go.Addr renaming mk->T
open Go.Value renaming slice->Y,string->U,int->I,agg->QV
open Option renaming none->Z,some->N
open Go.Obj renaming cells->Q
open Go.IntKind renaming i64->J
open Go renaming World->H,Value->QS
namespace Go.Proofs.YtamacmnikdejeaaGreatDoor.Vp
open RowKit
def uk (f:Nat->Ins)(n:Nat):List I3:=(List.range n).map fun i=>((f i).op,(f i).s.data.toList,(f i).n)
theorem CZ (f:Nat->Ins)(n:Nat):(uk f n).length=n:=by simp[uk]
theorem Dc (f:Nat->Ins)(n:Nat):i3L (uk f n)=cF f n:=by rw[i3L,uk,cF,NS,NS];rfl
theorem ni (QZ:Nat)(l:200<=QZ/\QZ<=299)(R p g c n:Nat)(f:Nat->Ins)(w:H)(hR:Rd w R p)(q:p<=20000)(m:RowIns w g 0 n f)(hn:1<=n/\n<=QZ)(o:∀ j,j<n->(f j).s.size<=5000):Calls Tryz.prog 78 #[.pointer (N (T R 0 Z)),QV #[Y (N (T g 0 Z)) n c]] w fun e r=>DP w R (p+1000) 0 (QZ+1) e r:=by
 have b:=CZ f n
 have h:=kO QZ l R p g c (uk f n) w hR q m.1 (by rw[Dc];exact vW m) (by omega) (by intro e;rw[e] at b;simp at b;omega) (by
  intro i hi;obtain⟨j,t,rfl⟩:=JQ.1 hi;have:=o j (H7.1 t)
  simpa using this)
 rw[b] at h;exact h
theorem vH (R p g c n:Nat)(f:Nat->Ins)(w:H)(hR:Rd w R p)(i:p<=20000)(h:RowIns w g 0 n f)(hn:1<=n/\n<=200)(b:∀ j,j<n->(f j).s.size<=5000):Calls Tryz.prog 78 #[.pointer (N (T R 0 Z)),QV #[Y (N (T g 0 Z)) n c]] w fun e l=>DP w R (p+1000) 0 201 e l :=
 ni 200 ⟨j5 _,by omega⟩ R p g c n f w hR i h hn b
theorem nM {w:H}{b:Nat}{i g f c l:ByteArray}{t:TypeId}{fz:Nat × Nat}(h:w.heap[b]?=N (Q #[U i,U g,U f,U c,U l] t fz))(k:Nat)(m:k<5):∃ s,w.cell? (T b k Z)=N (U s):=by
 match k,m with
 | 0,_=>exact⟨i,by simp[World.cell?,h]⟩
 | 1,_=>exact⟨g,by simp[World.cell?,h]⟩
 | 2,_=>exact⟨f,by simp[World.cell?,h]⟩
 | 3,_=>exact⟨c,by simp[World.cell?,h]⟩
 | 4,_=>exact⟨l,by simp[World.cell?,h]⟩
 | j+5,h5=>exact absurd h5 (by omega)
section
variable {W:H}{rr xb base:Nat}{LS:List Source}{RR:List TR}
theorem SpX.setA {gt c1 n1 g c n n0 c0:Nat}{a0:Option Addr}{f:Nat->Ins}{r0:TR}(h:SpX rr xb base W (Y a0 n0 c0) (Y (N (T gt 0 Z)) n1 c1) LS (r0 :: RR))(ZA:n0=LS.length)(B:n1=(r0 :: RR).length)(L:RowIns W g 0 n f)(F:TypeAt W g 146)(hb:base<=g)(hn:n<=300)(C:∀ j,j<n->(f j).s.size<=5000)(K:LS.length<=300)(h1:(r0 :: RR).length<=300)(G:GX (r0 :: RR)):HSp base (W.setCell (T gt 1 Z) (Y (N (T g 0 Z)) n c)) a0 n0 (aR LS) (N (T gt 0 Z)) n1 (aT ((((⟨r0.1.name,n,f⟩,N (T g 0 Z),c):TO) :: RR.map upO).map (·.1)))/\(W.setCell (T gt 1 Z) (Y (N (T g 0 Z)) n c)).heap[xb]?=N (Q #[Y a0 n0 c0,Y (N (T gt 0 Z)) n1 c1] 29 (0,0))/\(W.setCell (T gt 1 Z) (Y (N (T g 0 Z)) n c)).heap[rr]?=N (Q #[Y Z 0 0,Y Z 0 0] 29 (0,0))/\Below base W (W.setCell (T gt 1 Z) (Y (N (T g 0 Z)) n c)):=by
 have l:W.ownsRow base 125 2 (Y (N (T gt 0 Z)) n1 c1) n1 ((r0 :: RR).flatMap bc):=by have h2:=h.tgt.own;rw[<-B] at h2;exact h2
 have z:=(l.lt gt rfl).1;have u:TypeAt W gt 125:=h.tgt.type gt rfl;obtain⟨x,t⟩:=u;have far:∀ (X:Nat) q,W.heap[X]?=N (Q q 29 (0,0))->(W.setCell (T gt 1 Z) (Y (N (T g 0 Z)) n c)).heap[X]?=N (Q q 29 (0,0)):=by intro X q hX;refine(qh W (T gt 1 Z) _ X ?_).trans hX;intro e;have e:X=gt:=e;subst e;have:=hX.symm.trans t;cases this
 refine⟨?_,far _ _ h.box,far _ _ h.res,(eL base W).setCell (p:=(T gt 1 Z)) z _⟩;refine wI (c1:=c1) (dP h.src t (by decide) _) ZA ?_ (by rw[B];simp) K (by simpa using h1) ?_ ?_
 ·have h2:=gK l (j:=1) (Y (N (T g 0 Z)) n c)
  have D:((r0 :: RR).flatMap bc).set 1 (Y (N (T g 0 Z)) n c)=(((⟨r0.1.name,n,f⟩,N (T g 0 Z),c):TO) :: RR.map upO).flatMap toV:=by rw[JU,JU,<-oQ];rfl
  rw[D] at h2;exact h2
 ·intro r b
  have i:∀ k,TypeAt W k 146->(W.setCell (T gt 1 Z) (Y (N (T g 0 Z)) n c)).heap[k]?=W.heap[k]?:=fun k A=>qh W (T gt 1 Z) _ k (by
   intro m;have m:k=gt:=m;rw[m] at A
   exact eW A (⟨x,t⟩:TypeAt W gt 125) (by decide) rfl)
  rcases nD.1 b with rfl | b
  ·exact⟨g,rfl,hb,L.block (by simp) (i g F)⟩
  ·obtain⟨y,o,rfl⟩:=JQ.1 b
   obtain⟨E,_,Q9,ZB⟩:=h.tgt.act y (mz _ o);exact⟨y.2.1,rfl,ZB,E.block (by simp) (i _ Q9)⟩
 ·intro r b
  rcases nD.1 b with rfl | b
  ·exact⟨hn,C⟩
  ·obtain⟨y,o,rfl⟩:=JQ.1 b
   exact G y (mz _ o)
end
structure Sw (rr xb base:Nat)(W:H)(v0:QS)(gt n1 c1:Nat)(LS:List Source)(RT:List TR)(xs:List QS):Prop where
 res:W.heap[rr]?=N (Q #[Y Z 0 0,Y Z 0 0] 29 (0,0))
 box:W.heap[xb]?=N (Q #[v0,Y (N (T gt 0 Z)) n1 c1] 29 (0,0))
 src:W.ownsRow base 121 2 v0 LS.length (LS.flatMap bG)
 own:W.ownsRow base 125 2 (Y (N (T gt 0 Z)) n1 c1) n1 xs
 act:∀ r∈RT,RowIns W r.2.1 0 r.1.actN r.1.act/\(∃ F,Cells W r.2.1 0 (r.1.actN*3) F)/\TypeAt W r.2.1 146/\base<=r.2.1
section
variable {W W':H}{rr xb base gt n1 c1:Nat}{v0:QS}{LS:List Source}{RT:List TR}{xs:List QS}
theorem SpX.sw (h:SpX rr xb base W v0 (Y (N (T gt 0 Z)) n1 c1) LS RT)(b:n1=RT.length):Sw rr xb base W v0 gt n1 c1 LS RT (RT.flatMap bc) :=
 ⟨h.res,h.box,h.src,by have h2:=h.tgt.own;rw[<-b] at h2;exact h2,h.tgt.act⟩
theorem Sw.set (h:Sw rr xb base W v0 gt n1 c1 LS RT xs)(j:Nat)(u:QS):Sw rr xb base (W.setCell (T gt j Z) u) v0 gt n1 c1 LS RT (xs.set j u):=by
 have g:TypeAt W gt 125:=er h.own gt rfl;obtain⟨f,b⟩:=g;have far:∀ (X:Nat) c,W.heap[X]?=N (Q c 29 (0,0))->(W.setCell (T gt j Z) u).heap[X]?=N (Q c 29 (0,0)):=by intro X c hX;refine(qh W (T gt j Z) _ X ?_).trans hX;intro e;have e:X=gt:=e;subst e;have:=hX.symm.trans b;cases this
 exact⟨far _ _ h.res,far _ _ h.box,dP h.src b (by decide) u,gK h.own u,CU h.act ⟨f,b⟩ u⟩
theorem Sw.drew (h:Sw rr xb base W v0 gt n1 c1 LS RT xs):Sw rr xb base W.drew v0 gt n1 c1 LS RT xs :=
 ⟨h.res,h.box,own_below h.src br.drew ly,own_below h.own br.drew ly,fun r b=>by
  obtain⟨g,⟨F,i⟩,c,f⟩:=h.act r b
  exact⟨g.block ly rfl,⟨F,i.block ly rfl⟩,c.block rfl,f⟩⟩
theorem Sw.fin {a0:Option Addr}{n0 c0:Nat}(h:Sw rr xb base W (Y a0 n0 c0) gt n1 c1 LS RT xs)(l:n0=LS.length){L:List TR}(f:xs=(L.map upO).flatMap toV)(n:n1=L.length)(m:LS.length<=300)(h1:L.length<=300)(hL:∀ r∈L,r∈RT)(g:GX RT):HSp base W a0 n0 (aR LS) (N (T gt 0 Z)) n1 (aT ((L.map upO).map (·.1))):=by
 subst f;refine wI (c1:=c1) h.src l h.own (by rw[n];simp) m (by simpa using h1) (fun r b=>?_) (fun r b=>?_)
 ·obtain⟨y,c,rfl⟩:=JQ.1 b
  obtain⟨j,_,q3,i⟩:=h.act y (hL y c);exact⟨y.2.1,rfl,i,j⟩
 ·obtain⟨y,c,rfl⟩:=JQ.1 b
  exact g y (hL y c)
end
theorem Ai (R p:Nat)(m:Int)(w:H)(hR:Rd w R p)(hp:(p:Int)<=100000)(hm:m<1):Calls Tryz.prog 33 #[.pointer (N (T R 0 Z)),I J m] w fun e b=>e=.returned (I J 0)/\Rd b R (p+1)/\Only R w b:=by have c:=ae hR.step;have f:Hid (Only R w (w.setCell (T R 1 Z) (I J ((p:Int)+1)))):=gu (Only.refl R w) 1 _;obtain⟨a,n,cap,hl,hn,h0,⟨h1,h2⟩,g⟩:=hR;clear g;go_enter Tryz.func33,Tryz.ntmps33;go_wp2;go_ret;exact⟨rfl,c,f⟩
theorem vI (R p g c:Nat)(w:H)(hR:Rd w R p)(hp:p<=20000):Calls Tryz.prog 78 #[.pointer (N (T R 0 Z)),QV #[Y (N (T g 0 Z)) 0 c]] w fun e F=>DP w R (p+1000) 0 201 e F:=by
 have n:=ae (rq hR (Y (N (T g 0 Z)) 0 c));obtain⟨D,hi,t,A,s⟩:=tw;clear hR;go_enter Tryz.func78,Tryz.ntmps78;go_wp2_with (at_builtin;refine wC _ rfl (.tmp 7) (.tmp 9) 41 rfl (w.heap.size+2) 146 D (QV #[I J 0,U ⟨#[]⟩,I J 0]) 3 32 Tryz.underlying41 hi t A s rfl (by decide) (Y (N (T (w.heap.size+2) 0 Z)) 0 0) 0 [] (by simp[Act.eval]) n.ir (T g 0 Z) 0 c [] (by simp[Act.eval]) rfl (fun j u m=>by simp at m) (fun u m=>by simp at m) (by unfold maxLen;omega) (by omega) (by simp) ?_);intro q x b y f;replace b:x.ownsRow (w.heap.size+2) 146 3 q 0 []:=b
 obtain⟨o,c1,rfl⟩:∃ g c,q=Y (N (T g 0 Z)) 0 c:=(by
  rcases b.2 with ⟨rfl,_⟩ | ⟨g,c,cur,rfl,_⟩
  ·exact(f rfl).elim
  ·exact⟨g,c,rfl⟩)
 have B:IR x (w.heap.size+2) o c1 []:=b;have l:=ae (n.app0 (M:=[]) (n':=200) B y (by simp) (fun i hi=>by simp at hi));rw[JT] at l;clear B y n b f;go_wp2_with fail;refine(Ai R _ 0 _ l.st.1 (by omega) (by omega)).mono ?_;rintro e W2 ⟨rfl,hR,z⟩;have r:=ae (l.only z hR);clear z hR l;have h:=r.st.2.2.1;have zl:=h.lt;have d0:=h.c0;have d1:=h.fz 0;have fin:=ae (r.fin (Y (N (T o 0 Z)) 0 c1));clear h;go_wp2;obtain⟨f1,C,f3,E,ZB,G⟩:=fin.out;try simp only[Exit.inBlock,Exit.then]
 refine bp (gG rfl _ _ (w.heap.size+1) _ rfl f1) rfl ?_;exact⟨[],o,c1,rfl,C,by omega,by simp,E,_,by omega,ZB,G⟩
theorem oR (R p:Nat)(w:H)(hR:Rd w R p)(hp:p<=10000):Calls Tryz.prog 58 #[.pointer (N (T R 0 Z))] w fun e QX=>DP w R (p+1700) 0 201 e QX:=by
 have W:=ae hR;have n:=hR.lt;clear hR;go_enter Tryz.func58,Tryz.ntmps58;go_wp2_with fail;have u:=ae ((q9 w).alloc ly (Q #[Y Z 0 0] 43));have G:Hid (PB (w.alloc (Q #[Y Z 0 0] 43)) w.heap.size (Y Z 0 0)):=cM w _;have O:(w.alloc (Q #[Y Z 0 0] 43)).heap.size=w.heap.size+1:=by simp
 generalize w.alloc (Q #[Y Z 0 0] 43)=C at u G O ⊢;have Q0:Hid (Only R w C):=Only.of_below u;refine(fT R p _ (W.below u ly) (by omega)).mono ?_;rintro e f ⟨L,g,c,rfl,o,hlo,hL,V,q,hq,hR,b⟩;have hs2:=b.size;have m:=(q9 f).alloc ly (Q #[Y (N (T g 0 Z)) L.length c] 43);have E:=ae (hR.below m ly);have I3:=ae (o.below m ly);have t:=ae (PB.below ((b.block w.heap.size (by omega) (by omega)).trans G:PB f w.heap.size (Y Z 0 0)) m (by omega));have ZB:=ae ((Q0.trans b).then (m.mono (by omega)));have x:Hid (PB (f.alloc (Q #[Y (N (T g 0 Z)) L.length c] 43)) f.heap.size (Y (N (T g 0 Z)) L.length c)):=cM f _;have Q9:=ae V;clear o hR b m u G Q0 V;go_wp2_with fail;generalize f.alloc (Q #[Y (N (T g 0 Z)) L.length c] 43)=W3 at E I3 t ZB x ⊢;refine(aw R _ 6 _ E (by omega) (by omega) (by omega)).mono ?_;rintro e r ⟨z,rfl,zz0,zz1,hR,b⟩;have P:=ae hR;have QZ:=ae (I3.only b (by omega));have h:Hid (PB r w.heap.size (Y Z 0 0)):=(b.block w.heap.size t.lt (by omega)).trans t;have S:Hid (PB r f.heap.size (Y (N (T g 0 Z)) L.length c)):=(b.block f.heap.size x.lt (by omega)).trans x;have QY:=ae (ZB.trans b);clear hR b E I3 t x ZB;have q0:=S.c0;have ql:=S.lt;by_cases hz:z=0
 ·subst hz
  go_wp2_with fail;refine(vb R (q+1) g c L _ C.heap.size P (by omega) QZ (by omega) (JS.1 (by omega)) Q9).mono ?_;rintro e Q2 ⟨M,s,c5,rfl,o,hlo5,K,y,QW,hq5,hR,b⟩;have i:PB Q2 w.heap.size (Y Z 0 0):=(b.block w.heap.size h.lt (by omega)).trans h;have X:=i.c0;have d1:=i.fz 0;have zl:=i.lt;have B:=ae (aE (aS (aE o (show w.heap.size+1<=r.heap.size by omega)) (show w.heap.size<w.heap.size+1 by omega) (j:=0) (Y (N (T s 0 Z)) M.length c5)) (show w.heap.size<=w.heap.size+1 by omega));have A:=ae (i.set (Y (N (T s 0 Z)) M.length c5));have l:=ae ((eL w.heap.size Q2).setCell (p:=(T w.heap.size 0 Z)) ly (Y (N (T s 0 Z)) M.length c5));have D:=ae (hR.low l n);have F:=ae ((QY.trans b).then l);have ZA:=ae y;clear o hR b i y;go_wp2;try simp only[Exit.inBlock,Exit.then]
  refine bp (gG rfl _ _ w.heap.size _ rfl A) rfl ?_;exact⟨M,s,c5,rfl,B,AI _,K,ZA,QW,by omega,D,F⟩
 ·have X:=h.c0
  have d1:=h.fz 0;have zl:=h.lt;have B:=ae (aE (aS (aE QZ (show w.heap.size+1<=C.heap.size by omega)) (show w.heap.size<w.heap.size+1 by omega) (j:=0) (Y (N (T g 0 Z)) L.length c)) (show w.heap.size<=w.heap.size+1 by omega));have A:=ae (h.set (Y (N (T g 0 Z)) L.length c));have l:=ae ((eL w.heap.size r).setCell (p:=(T w.heap.size 0 Z)) ly (Y (N (T g 0 Z)) L.length c));have D:=ae (P.low l n);have F:=ae (QY.then l);go_wp2;try simp only[Exit.inBlock,Exit.then]
  refine bp (gG rfl _ _ w.heap.size _ rfl A) rfl ?_;exact⟨L,g,c,rfl,B,AI _,by omega,Q9,_,by omega,D,F⟩
end Go.Proofs.YtamacmnikdejeaaGreatDoor.Vp
