import Derived.Test.YtamacmnikdejeaaGreatDoorRU
import Derived.Test.YtamacmnikdejeaaGreatDoorRB
set_option maxRecDepth 100000
set_option maxHeartbeats 4000000
open Go.Addr renaming mk->N
open Go.Value renaming slice->Y,string->U,int->J,agg->QG
open Option renaming none->Z,some->T
open Go.Obj renaming cells->Q
open Go.IntKind renaming i64->I
open Go renaming World->G,Value->QE
namespace Go.Proofs.YtamacmnikdejeaaGreatDoor.Vp
open RowKit
def tJ (f:Nat->Ins)(n:Nat):List I3:=(List.range n).map fun i=>((f i).op,(f i).s.data.toList,(f i).n)
theorem AV (f:Nat->Ins)(n:Nat):(tJ f n).length=n:=by simp[tJ]
theorem AX (f:Nat->Ins)(n:Nat):i3L (tJ f n)=ct f n:=by rw[i3L,tJ,ct,LK,LK];rfl
theorem mC (QN:Nat)(m:200<=QN/\QN<=299)(R p g c n:Nat)(f:Nat->Ins)(w:G)(hR:Rd w R p)(q:p<=20000)(l:RowIns w g 0 n f)(hn:1<=n/\n<=QN)(o:∀ j,j<n->(f j).s.size<=5000):Calls Tryz.prog 78 #[.pointer (T (N R 0 Z)),QG #[Y (T (N g 0 Z)) n c]] w fun e t=>DP w R (p+1000) 0 (QN+1) e t:=by
 have b:=AV f n
 have h:=pO QN m R p g c (tJ f n) w hR q l.1 (by rw[AX];exact uX l) (by omega) (by intro e;rw[e] at b;simp at b;omega) (by
  intro i hi;obtain⟨j,r,rfl⟩:=IW.1 hi;have:=o j (HU.1 r)
  simpa using this)
 rw[b] at h;exact h
theorem uL (R p g c n:Nat)(f:Nat->Ins)(w:G)(hR:Rd w R p)(i:p<=20000)(h:RowIns w g 0 n f)(hn:1<=n/\n<=200)(b:∀ j,j<n->(f j).s.size<=5000):Calls Tryz.prog 78 #[.pointer (T (N R 0 Z)),QG #[Y (T (N g 0 Z)) n c]] w fun e l=>DP w R (p+1000) 0 201 e l :=
 mC 200 ⟨j6 _,by omega⟩ R p g c n f w hR i h hn b
theorem mS {w:G}{b:Nat}{s0 s1 g i f:ByteArray}{t:TypeId}{fz:Nat × Nat}(h:w.heap[b]?=T (Q #[U s0,U s1,U g,U i,U f] t fz))(k:Nat)(l:k<5):∃ s,w.cell? (N b k Z)=T (U s):=by
 match k,l with
 | 0,_=>exact⟨s0,by simp[World.cell?,h]⟩
 | 1,_=>exact⟨s1,by simp[World.cell?,h]⟩
 | 2,_=>exact⟨g,by simp[World.cell?,h]⟩
 | 3,_=>exact⟨i,by simp[World.cell?,h]⟩
 | 4,_=>exact⟨f,by simp[World.cell?,h]⟩
 | j+5,h5=>exact absurd h5 (by omega)
section
variable {W:G}{rr xb base:Nat}{LS:List Source}{RR:List TR}
theorem SpX.setA {gt c1 n1 g c n n0 c0:Nat}{a0:Option Addr}{f:Nat->Ins}{r0:TR}(h:SpX rr xb base W (Y a0 n0 c0) (Y (T (N gt 0 Z)) n1 c1) LS (r0 :: RR))(L:n0=LS.length)(A:n1=(r0 :: RR).length)(K:RowIns W g 0 n f)(QR:TypeAt W g 146)(hb:base<=g)(hn:n<=300)(C:∀ j,j<n->(f j).s.size<=5000)(H:LS.length<=300)(h1:(r0 :: RR).length<=300)(QO:GX (r0 :: RR)):HSp base (W.setCell (N gt 1 Z) (Y (T (N g 0 Z)) n c)) a0 n0 (ba LS) (T (N gt 0 Z)) n1 (be ((((⟨r0.1.name,n,f⟩,T (N g 0 Z),c):TO) :: RR.map upO).map (·.1)))/\(W.setCell (N gt 1 Z) (Y (T (N g 0 Z)) n c)).heap[xb]?=T (Q #[Y a0 n0 c0,Y (T (N gt 0 Z)) n1 c1] 29 (0,0))/\(W.setCell (N gt 1 Z) (Y (T (N g 0 Z)) n c)).heap[rr]?=T (Q #[Y Z 0 0,Y Z 0 0] 29 (0,0))/\Below base W (W.setCell (N gt 1 Z) (Y (T (N g 0 Z)) n c)):=by
 have l:W.ownsRow base 125 2 (Y (T (N gt 0 Z)) n1 c1) n1 ((r0 :: RR).flatMap bc):=by have h2:=h.tgt.own;rw[<-A] at h2;exact h2
 have B:=(l.lt gt rfl).1;have z:TypeAt W gt 125:=h.tgt.type gt rfl;obtain⟨x,m⟩:=z;have far:∀ (X:Nat) q,W.heap[X]?=T (Q q 29 (0,0))->(W.setCell (N gt 1 Z) (Y (T (N g 0 Z)) n c)).heap[X]?=T (Q q 29 (0,0)):=by intro X q hX;refine(qh W (N gt 1 Z) _ X ?_).trans hX;intro e;have e:X=gt:=e;subst e;have:=hX.symm.trans m;cases this
 refine⟨?_,far _ _ h.box,far _ _ h.res,(a8 base W).setCell (p:=(N gt 1 Z)) B _⟩;refine vC (c1:=c1) (dy h.src m (by decide) _) L ?_ (by rw[A];simp) H (by simpa using h1) ?_ ?_
 ·have h2:=fV l (j:=1) (Y (T (N g 0 Z)) n c)
  have QP:((r0 :: RR).flatMap bc).set 1 (Y (T (N g 0 Z)) n c)=(((⟨r0.1.name,n,f⟩,T (N g 0 Z),c):TO) :: RR.map upO).flatMap toV:=by rw[IY,IY,<-ox];rfl
  rw[QP] at h2;exact h2
 ·intro r b
  have i:∀ k,TypeAt W k 146->(W.setCell (N gt 1 Z) (Y (T (N g 0 Z)) n c)).heap[k]?=W.heap[k]?:=fun k u=>qh W (N gt 1 Z) _ k (by
   intro o;have o:k=gt:=o;rw[o] at u
   exact eC u (⟨x,m⟩:TypeAt W gt 125) (by decide) rfl)
  rcases p6.1 b with rfl | b
  ·exact⟨g,rfl,hb,K.block (by simp) (i g QR)⟩
  ·obtain⟨y,t,rfl⟩:=IW.1 b
   obtain⟨M,_,D,E⟩:=h.tgt.act y (mq _ t);exact⟨y.2.1,rfl,E,M.block (by simp) (i _ D)⟩
 ·intro r b
  rcases p6.1 b with rfl | b
  ·exact⟨hn,C⟩
  ·obtain⟨y,t,rfl⟩:=IW.1 b
   exact QO y (mq _ t)
end
structure Sw (rr xb base:Nat)(W:G)(v0:QE)(gt n1 c1:Nat)(LS:List Source)(RT:List TR)(xs:List QE):Prop where
 res:W.heap[rr]?=T (Q #[Y Z 0 0,Y Z 0 0] 29 (0,0))
 box:W.heap[xb]?=T (Q #[v0,Y (T (N gt 0 Z)) n1 c1] 29 (0,0))
 src:W.ownsRow base 121 2 v0 LS.length (LS.flatMap bC)
 own:W.ownsRow base 125 2 (Y (T (N gt 0 Z)) n1 c1) n1 xs
 act:∀ r∈RT,RowIns W r.2.1 0 r.1.actN r.1.act/\(∃ F,Cells W r.2.1 0 (r.1.actN*3) F)/\TypeAt W r.2.1 146/\base<=r.2.1
section
variable {W W':G}{rr xb base gt n1 c1:Nat}{v0:QE}{LS:List Source}{RT:List TR}{xs:List QE}
theorem SpX.sw (h:SpX rr xb base W v0 (Y (T (N gt 0 Z)) n1 c1) LS RT)(b:n1=RT.length):Sw rr xb base W v0 gt n1 c1 LS RT (RT.flatMap bc) :=
 ⟨h.res,h.box,h.src,by have h2:=h.tgt.own;rw[<-b] at h2;exact h2,h.tgt.act⟩
theorem Sw.set (h:Sw rr xb base W v0 gt n1 c1 LS RT xs)(j:Nat)(u:QE):Sw rr xb base (W.setCell (N gt j Z) u) v0 gt n1 c1 LS RT (xs.set j u):=by
 have i:TypeAt W gt 125:=dT h.own gt rfl;obtain⟨g,b⟩:=i;have far:∀ (X:Nat) f,W.heap[X]?=T (Q f 29 (0,0))->(W.setCell (N gt j Z) u).heap[X]?=T (Q f 29 (0,0)):=by intro X f hX;refine(qh W (N gt j Z) _ X ?_).trans hX;intro e;have e:X=gt:=e;subst e;have:=hX.symm.trans b;cases this
 exact⟨far _ _ h.res,far _ _ h.box,dy h.src b (by decide) u,fV h.own u,AU h.act ⟨g,b⟩ u⟩
theorem Sw.drew (h:Sw rr xb base W v0 gt n1 c1 LS RT xs):Sw rr xb base W.drew v0 gt n1 c1 LS RT xs :=
 ⟨h.res,h.box,own_below h.src br.drew ly,own_below h.own br.drew ly,fun r f=>by
  obtain⟨i,⟨F,b⟩,g,j⟩:=h.act r f
  exact⟨i.block ly rfl,⟨F,b.block ly rfl⟩,g.block rfl,j⟩⟩
theorem Sw.fin {a0:Option Addr}{n0 c0:Nat}(h:Sw rr xb base W (Y a0 n0 c0) gt n1 c1 LS RT xs)(n:n0=LS.length){L:List TR}(i:xs=(L.map upO).flatMap toV)(g:n1=L.length)(m:LS.length<=300)(h1:L.length<=300)(hL:∀ r∈L,r∈RT)(l:GX RT):HSp base W a0 n0 (ba LS) (T (N gt 0 Z)) n1 (be ((L.map upO).map (·.1))):=by
 subst i;refine vC (c1:=c1) h.src n h.own (by rw[g];simp) m (by simpa using h1) (fun r b=>?_) (fun r b=>?_)
 ·obtain⟨y,f,rfl⟩:=IW.1 b
  obtain⟨o,_,q3,j⟩:=h.act y (hL y f);exact⟨y.2.1,rfl,j,o⟩
 ·obtain⟨y,f,rfl⟩:=IW.1 b
  exact l y (hL y f)
end
theorem yQ (R p:Nat)(m:Int)(w:G)(hR:Rd w R p)(hp:(p:Int)<=100000)(hm:m<1):Calls Tryz.prog 33 #[.pointer (T (N R 0 Z)),J I m] w fun e f=>e=.returned (J I 0)/\Rd f R (p+1)/\Only R w f:=by have hst:=ae hR.step;have b:Hid (Only R w (w.setCell (N R 1 Z) (J I ((p:Int)+1)))):=ci (Only.refl R w) 1 _;obtain⟨a,n,cap,hl,hn,h0,⟨h1,h2⟩,g⟩:=hR;clear g;go_enter Tryz.func33,Tryz.ntmps33;go_wp2;go_ret;exact⟨rfl,hst,b⟩
theorem uM (R p g c:Nat)(w:G)(hR:Rd w R p)(hp:p<=20000):Calls Tryz.prog 78 #[.pointer (T (N R 0 Z)),QG #[Y (T (N g 0 Z)) 0 c]] w fun e H=>DP w R (p+1000) 0 201 e H:=by
 have m:=ae (qE hR (Y (T (N g 0 Z)) 0 c));obtain⟨E,hi,x,q,A⟩:=nQ;clear hR;go_enter Tryz.func78,Tryz.ntmps78;go_wp2_with (at_builtin;refine CW _ rfl (.tmp 7) (.tmp 9) 41 rfl (w.heap.size+2) 146 E (QG #[J I 0,U ⟨#[]⟩,J I 0]) 3 32 Tryz.underlying41 hi x q A rfl (by decide) (Y (T (N (w.heap.size+2) 0 Z)) 0 0) 0 [] (by simp[Act.eval]) m.ir (N g 0 Z) 0 c [] (by simp[Act.eval]) rfl (fun j u o=>by simp at o) (fun u o=>by simp at o) (by unfold maxLen;omega) (by omega) (by simp) ?_);intro y t b z f;replace b:t.ownsRow (w.heap.size+2) 146 3 y 0 []:=b
 obtain⟨n,c1,rfl⟩:∃ g c,y=Y (T (N g 0 Z)) 0 c:=(by
  rcases b.2 with ⟨rfl,_⟩ | ⟨g,c,cur,rfl,_⟩
  ·exact(f rfl).elim
  ·exact⟨g,c,rfl⟩)
 have r:IR t (w.heap.size+2) n c1 []:=b;have h:=ae (m.app0 (M:=[]) (n':=200) r z (by simp) (fun i hi=>by simp at hi));rw[IN] at h;clear r z m b f;go_wp2_with fail;refine(yQ R _ 0 _ h.st.1 (by omega) (by omega)).mono ?_;rintro e W2 ⟨rfl,hR,B⟩;have s:=ae (h.only B hR);clear B hR h;have l:=s.st.2.2.1;have zl:=l.lt;have d0:=l.c0;have d1:=l.fz 0;have fin:=ae (s.fin (Y (T (N n 0 Z)) 0 c1));clear l;go_wp2;obtain⟨f1,QR,f3,D,C,QP⟩:=fin.out;try simp only[Exit.inBlock,Exit.then]
 refine bp (jw rfl _ _ (w.heap.size+1) _ rfl f1) rfl ?_;exact⟨[],n,c1,rfl,QR,by omega,by simp,D,_,by omega,C,QP⟩
end Go.Proofs.YtamacmnikdejeaaGreatDoor.Vp
