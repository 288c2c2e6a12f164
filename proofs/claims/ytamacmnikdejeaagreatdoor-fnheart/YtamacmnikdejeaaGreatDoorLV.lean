import Derived.Test.YtamacmnikdejeaaGreatDoorLU
import Derived.Deep.CutBlock
set_option maxRecDepth 100000
set_option maxHeartbeats 4000000
open Go renaming Addr.mk->Q,Value.slice->Y,Value.string->U,Value.int->J,Value.agg->ZG,Obj.cells->N,IntKind.i64->I,World->E,Value->ZB,Proofs.Tryz.prog->Pg
open Option renaming none->Z,some->T
namespace Go.Proofs.YtamacmnikdejeaaGreatDoor.Vp
open Tryz RowKit
variable {n0:Nat}{a0:Option Addr}
theorem qO (ZN:Nat)(hNN:200<=ZN/\ZN<=299)(R p g c:Nat)(L:List I3)(w:E)(hR:Rd w R p)(hp:p<=20000)(P:g<w.heap.size)(hN:∀j u,(i3L L)[j]?=T u->w.cell? (((Q g 0 Z):Addr).add j)=T u)(hn:L.length<=ZN)(G:L≠[])(hT:∀i∈L,i.2.1.length<=5000):Calls Pg 78 #[.pointer (T (Q R 0 Z)),ZG #[Y (T (Q g 0 Z)) L.length c]] w λe w'=>DP w R (p+1000) 0 (ZN+1) e w':=by
 have A2:=(((BS w).alloc ly (N #[Y (T (Q g 0 Z)) L.length c] 43)).alloc (by simp) (N #[Y Z 0 0] 43)).alloc (by simp;omega) (N #[] 146);have X:=ae (ry hR (Y (T (Q g 0 Z)) L.length c));have N0:=ae (λ(j:Nat) (u:ZB) (ZJ:(i3L L)[j]?=T u)=>(A2.cell (p:=((Q g 0 Z):Addr).add j) (by rw[ik];exact P)).trans (hN j u ZJ));have HT:=ae hT;have hl:0<L.length:=LG.2 G;clear A2 hR hN hT P;go_enter func78,ntmps78;go_wp2_with (at_builtin;refine fY rfl (.tmp 7) (.tmp 9) rfl (w.heap.size+2) (w.heap.size+2) 0 [] (by simp[Act.eval]) X.ir (Q g 0 Z) L.length c L (by simp[Act.eval]) rfl G N0.out (by simp only[KF];omega) (by simp) ?_);intro W c1 W1 ZQ x;have ZO:=ae (X.app0 (n':=ZN) ZQ x (by simp only[KF];omega) HT);rw[LA] at ZO;clear ZQ x X N0 HT G;go_wp2_with fail;refine(ay R _ (L.length:Int) _ ZO.st.rd (by omega) (by omega) (by omega)).mono ?_;rintro e W2 ⟨z,rfl,z0,z1,hR,h⟩;obtain⟨k,rfl⟩:∃k:Nat,z=(k:Int):=⟨z.toNat,by omega⟩
 have ZL:=ae (ZO.ac h hR);have m:k<L.length:=by omega
 have nz:¬ ((L.length:Int)=0):=by omega
 clear h hR ZO;go_wp2_with fail;refine(ay R _ 7 _ ZL.st.rd (by omega) (by omega) (by omega)).mono ?_;rintro e r ⟨s,rfl,s0,s1,hR,h⟩;have f:=ae (ZL.ac h hR);clear h hR ZL;go_upto_block 0 with fail;go_cut [5] (λv wx=>∃(B A ZM:Nat) (H:List I3),v=Y (T (Q B 0 Z)) H.length A/\ZM<=p+1000/\Hid (SC w R (w.heap.size+1) wx ZM B A H (ZN+1)));case rest =>
  clear f;obtain⟨B,A,ZM,H,rfl,hq,b⟩:=hcut;have ZP:=b.st.2.2.1;have zl:=ZP.lt;have d0:=ZP.c0;have d1:=ZP.fz 0;have fin:=ae (b.fin (Y (T (Q B 0 Z)) H.length A));have ln:=b.len;clear ZP b;go_wp2;obtain⟨f1,f2,f3,f4,f5,f6⟩:=fin.out;try simp only[Exit.inBlock,Exit.then]
  refine bp (jx rfl _ _ (w.heap.size+1) _ rfl f1) rfl ?_;exact⟨H,B,A,rfl,f2,by omega,by omega,f4,_,by omega,f5,f6⟩
 rcases(show s=0∨s=1∨s=2∨s=3∨s=6∨s=4∨s=5 by omega) with rfl|rfl|rfl|rfl|rfl|rfl|rfl;case' inl =>go_wp2_with fail;refine(ay R _ 18 _ f.st.rd (by omega) (by omega) (by omega)).mono ?_;rintro e C ⟨y,rfl,V,y1,hR,h⟩;have b:=ae (f.ac h hR);have o:=ae (b.set3 (j:=0) m (by omega) (y - 1,(L.getD k (0,[],0)).2) (J I (y - 1)) rfl (b.H k m));clear h hR f
 case' inr.inl =>have b:=f;have o:=ae (b.set3 (j:=2) m (by omega) ((L.getD k (0,[],0)).1,(L.getD k (0,[],0)).2.1,(wrap64 ((cZ L k).n+1))) (J I (wrap64 ((cZ L k).n+1))) rfl (b.H k m));clear f
 case' inr.inr.inl =>
  have q:=ae (f.aa ((BS r).alloc ly (N #[J I (-1),J I 2000,J I 2001,J I 200,J I 201,J I 1000000007] 3)));have sz3:=q.st.lt;have V0:=ae (λj u=>jO r #[J I (-1),J I 2000,J I 2001,J I 200,J I 201,J I 1000000007] 3 _ j u rfl);have rl:=f.st.rd.lt;go_wp2_with fail;refine(ay R _ 6 _ q.st.rd (by omega) (by omega) (by omega)).mono ?_;rintro e C ⟨y,rfl,V,y1,hR,h⟩;have b:=ae (q.ac h hR);have sz4:r.heap.size<C.heap.size:=by have:=h.size;simp at this;omega
  obtain⟨j,u,rfl,cv⟩:∃(j:Nat) (u:Int),y=j/\C.cell? (Q r.heap.size j Z)=T (J I u):=by have l:=λj u ZJ=>(h.cell r.heap.size j (by simp) (by omega)).trans (V0 j u ZJ);rcases(show y=0∨y=1∨y=2∨y=3∨y=4∨y=5 by omega) with rfl|rfl|rfl|rfl|rfl|rfl;all_goals first|exact⟨0,_,rfl,l 0 _ rfl⟩|exact⟨1,_,rfl,l 1 _ rfl⟩|exact⟨2,_,rfl,l 2 _ rfl⟩|exact⟨3,_,rfl,l 3 _ rfl⟩|exact⟨4,_,rfl,l 4 _ rfl⟩|exact⟨5,_,rfl,l 5 _ rfl⟩
  have o:=ae (b.set3 (j:=2) m (by omega) ((L.getD k (0,[],0)).1,(L.getD k (0,[],0)).2.1,u) (J I u) rfl (b.H k m));clear h hR f q V0
 case' inr.inr.inr.inl =>
  go_wp2_with fail;refine(ay R _ 2 _ f.st.rd (by omega) (by omega) (by omega)).mono ?_;rintro e C ⟨y,rfl,V,y1,hR,h⟩;have b:=ae (f.ac h hR);clear h hR f;go_wp2_with fail;obtain⟨m0,O⟩:∃m0:Nat,2000+y=(m0:Int):=⟨(2000+y).toNat,by omega⟩
  rw[O];refine(eW ⟨#[116]⟩ m0 _ (by show 1*m0<=4000;omega) (by omega)).mono ?_;rintro e Wm ⟨t,rfl,ht,hw⟩;rw[hw]
  have o:=ae (b.set3 (j:=1) m (by omega) ((L.getD k (0,[],0)).1,t.data.toList,(L.getD k (0,[],0)).2.2) (U t) rfl (by
   rw[NO]
   exact nL ht (by show 1*m0<=5000;omega)))
  clear ht O hw
 case' inr.inr.inr.inr.inl =>have b:=f;have o:=ae (b.set3 (j:=1) m (by omega) ((L.getD k (0,[],0)).1,[121],(L.getD k (0,[],0)).2.2) (U ⟨#[121]⟩) rfl (by simp));clear f
 case inr.inr.inr.inr.inr.inl =>
  have hc1:L.length<=c1:=by
   rcases f.ir.2 with ⟨l,_⟩|⟨_,_,_,l,_,_,h1,_⟩
   {simp at l};{simp only[KK] at l;omega}
  have b:=ae (f.take k (by omega));have lq:(L.take k).length=k:=by rw[LY];omega
  clear f;go_wp2;go_meet;exact⟨W,c1,_,L.take k,by rw[lq],by omega,b.mono (by omega)⟩
 case inr.inr.inr.inr.inr.inr =>
  have bd:=f.len;go_wp2;go_loopw [5] (λv wr=>∃(D c2 ZK:Nat) (M:List I3),v=Y (T (Q D 0 Z)) M.length c2/\SC w R (w.heap.size+1) wr ZK D c2 M (ZN+1)/\ZK<=p+10+M.length) (λv _=>ZN+2 - (match v with|Y _ n _=>n|_=>0));case atStart=>exact⟨W,c1,_,L,rfl,f.mono (by omega),by omega⟩
  case round =>
   obtain⟨D,c2,ZK,M,rfl,ZI,hq⟩:=hrel;have CC:=ae ZI;have ln:=ZI.len;clear ZI f;go_wp2_with fail;refine(ay R _ 2 _ CC.st.rd (by omega) (by omega) (by omega)).mono ?_;rintro e C ⟨y,rfl,V,y1,hR,h⟩;have b:=ae (CC.ac h hR);clear h hR CC;by_cases hlt:(M.length:Int)<200+y;{go_wp2_with fail;refine(bm 9 _).mono ?_;rintro e K ⟨rfl,hB⟩;have o:=ae (b.aa hB);clear hB b;have S:=ae (o.aa ((BS K).alloc ly (N #[J I 9,U ⟨#[]⟩,J I 0] 146)));have zl:=o.st.lt;go_wp2_with (at_builtin;refine fY rfl (.tmp 81) (.tmp 83) rfl (w.heap.size+2) D c2 M (by simp[Act.eval]) S.ir (Q K.heap.size 0 Z) 1 1 [(9,[],0)] (by simp[Act.eval]) rfl (by simp) (ew K #[J I 9,U ⟨#[]⟩,J I 0] _) (by simp only[xT,KF];omega) (by simp;omega) ?_);intro g3 c3 W6 ZQ x;have C6:=ae (S.app0 (n':=ZN+1) ZQ x (by show M.length+1<=ZN+1;omega) (λi hi=>by rw[hU.1 hi];exact IH _));clear ZQ x S o;go_wp2;exact⟨⟨g3,c3,_,M++[(9,[],0)],by simp,C6.out,by simp only[eL,xT,KF];omega⟩,by simp;omega⟩};{go_wp2;go_meet;exact⟨D,c2,_,M,rfl,by omega,b⟩}
 all_goals
  obtain⟨x0,x1,x2⟩:=b.ir.at k m;rw[IT] at x0 x1 x2;have fz0:=b.ir.fz (k*3);have fz1:=b.ir.fz (k*3+1);have fz2:=b.ir.fz (k*3+2);have gl:=b.ir.lt.2;clear b;go_wp2;go_meet;exact⟨W,c1,_,_,by rw[KQ],by omega,o.mono (by rw[KQ];omega)⟩
def uG (f:Nat->Ins)(n:Nat):List I3:=(List.range n).map λi=>((f i).op,(f i).s.data.toList,(f i).n)
theorem Dk (f:Nat->Ins)(n:Nat):(uG f n).length=n:=by simp[uG]
theorem Dl (f:Nat->Ins)(n:Nat):i3L (uG f n)=bV f n:=by rw[i3L,uG,bV,QT,QT];rfl
theorem mR (ZN:Nat)(l:200<=ZN/\ZN<=299)(R p g c n:Nat)(f:Nat->Ins)(w:E)(hR:Rd w R p)(o:p<=20000)(m:RowIns w g 0 n f)(hn:1<=n/\n<=ZN)(r:∀j,j<n->(f j).s.size<=5000):Calls Pg 78 #[.pointer (T (Q R 0 Z)),ZG #[Y (T (Q g 0 Z)) n c]] w λe t=>DP w R (p+1000) 0 (ZN+1) e t:=by
 have b:=Dk f n
 have h:=qO ZN l R p g c (uG f n) w hR o m.1 (by rw[Dl];exact qw m) (by omega) (by intro e;rw[e] at b;simp at b;omega) (by
  intro i hi;obtain⟨j,q,rfl⟩:=LM.1 hi;have:=r j (KV.1 q)
  simpa using this)
 rw[b] at h;exact h
theorem vS (R p g c n:Nat)(f:Nat->Ins)(w:E)(hR:Rd w R p)(h:p<=20000)(b:RowIns w g 0 n f)(hn:1<=n/\n<=200)(l:∀j,j<n->(f j).s.size<=5000):Calls Pg 78 #[.pointer (T (Q R 0 Z)),ZG #[Y (T (Q g 0 Z)) n c]] w λe i=>DP w R (p+1000) 0 201 e i :=
 mR 200 ⟨nX _,by omega⟩ R p g c n f w hR h b hn l
theorem ny{w:E}{b:Nat}{s0 s1 i f g:ByteArray}{t:TypeId}{fz:Nat × Nat}(h:w.heap[b]?=T (N #[U s0,U s1,U i,U f,U g] t fz))(k:Nat)(l:k<5):∃s,w.cell? (Q b k Z)=T (U s):=by
 match k,l with
 |0,_=>exact⟨s0,by simp[World.cell?,h]⟩
 |1,_=>exact⟨s1,by simp[World.cell?,h]⟩
 |2,_=>exact⟨i,by simp[World.cell?,h]⟩
 |3,_=>exact⟨f,by simp[World.cell?,h]⟩
 |4,_=>exact⟨g,by simp[World.cell?,h]⟩
 |j+5,h5=>exact absurd h5 (by omega)
section
variable {W:E}{rr xb base:Nat}{LS:List Source}{RR:List TR}
theorem SpX.setA{gt c1 n1 g c n c0:Nat}{f:Nat->Ins}{r0:TR}(h:SpX rr xb base W (Y a0 n0 c0) (Y (T (Q gt 0 Z)) n1 c1) LS (r0::RR))(ZP:n0=LS.length)(A:n1=(r0::RR).length)(C:RowIns W g 0 n f)(ZQ:TypeAt W g 146)(hb:base<=g)(hn:n<=300)(D:∀j,j<n->(f j).s.size<=5000)(M:LS.length<=300)(h1:(r0::RR).length<=300)(G:GX (r0::RR)):HSp base (W.setCell (Q gt 1 Z) (Y (T (Q g 0 Z)) n c)) a0 n0 (cI LS) (T (Q gt 0 Z)) n1 (bK ((((⟨r0.1.e,n,f⟩,T (Q g 0 Z),c):TO)::RR.map upO).map (·.1)))/\(W.setCell (Q gt 1 Z) (Y (T (Q g 0 Z)) n c)).heap[xb]?=T (N #[Y a0 n0 c0,Y (T (Q gt 0 Z)) n1 c1] 29 (0,0))/\(W.setCell (Q gt 1 Z) (Y (T (Q g 0 Z)) n c)).heap[rr]?=T (N #[Y Z 0 0,Y Z 0 0] 29 (0,0))/\Below base W (W.setCell (Q gt 1 Z) (Y (T (Q g 0 Z)) n c)):=by
 have l:W.ownsRow base 125 2 (Y (T (Q gt 0 Z)) n1 c1) n1 ((r0::RR).flatMap aZ):=by have h2:=h.w.y;rw[<-A] at h2;exact h2
 have z:=(l.lt gt rfl).1;have B:TypeAt W gt 125:=h.w.type gt rfl;obtain⟨x,m⟩:=B;have far:∀(X:Nat) q,W.heap[X]?=T (N q 29 (0,0))->(W.setCell (Q gt 1 Z) (Y (T (Q g 0 Z)) n c)).heap[X]?=T (N q 29 (0,0)):=by intro X q hX;refine(qh W (Q gt 1 Z) _ X ?_).trans hX;intro e;have e:X=gt:=e;subst e;have:=hX.symm.trans m;cases this
 refine⟨?_,far _ _ h.l,far _ _ h.res,(cM base W).setCell (p:=(Q gt 1 Z)) z _⟩;refine wW (c1:=c1) (dy h.src m (by decide) _) ZP ?_ (by rw[A];simp) M (by simpa using h1) ?_ ?_
 ·have h2:=gw l (j:=1) (Y (T (Q g 0 Z)) n c);have K:((r0::RR).flatMap aZ).set 1 (Y (T (Q g 0 Z)) n c)=(((⟨r0.1.e,n,f⟩,T (Q g 0 Z),c):TO)::RR.map upO).flatMap toV:=by rw[LI,LI,<-oQ];rfl
  rw[K] at h2;exact h2
 ·intro r b
  have i:∀k,TypeAt W k 146->(W.setCell (Q gt 1 Z) (Y (T (Q g 0 Z)) n c)).heap[k]?=W.heap[k]?:=λk u=>qh W (Q gt 1 Z) _ k (by
   intro o;have o:k=gt:=o;rw[o] at u
   exact eE u (⟨x,m⟩:TypeAt W gt 125) (by decide) rfl)
  rcases A9.1 b with rfl|b;{exact⟨g,rfl,hb,C.block (by simp) (i g ZQ)⟩};{obtain⟨y,t,rfl⟩:=LM.1 b;obtain⟨L,_,ZO,H⟩:=h.w.u y (mq _ t);exact⟨y.2.1,rfl,H,L.block (by simp) (i _ ZO)⟩}
 {intro r b;rcases A9.1 b with rfl|b;{exact⟨hn,D⟩};{obtain⟨y,t,rfl⟩:=LM.1 b;exact G y (mq _ t)}}
end
structure Sw (rr xb base:Nat)(W:E)(v0:ZB)(gt n1 c1:Nat)(LS:List Source)(RT:List TR)(xs:List ZB):Prop where
 res:W.heap[rr]?=T (N #[Y Z 0 0,Y Z 0 0] 29 (0,0))
 l:W.heap[xb]?=T (N #[v0,Y (T (Q gt 0 Z)) n1 c1] 29 (0,0))
 src:W.ownsRow base 121 2 v0 LS.length (LS.flatMap bC)
 y:W.ownsRow base 125 2 (Y (T (Q gt 0 Z)) n1 c1) n1 xs
 u:∀r∈RT,RowIns W r.2.1 0 r.1.h r.1.u/\(∃F,Cells W r.2.1 0 (r.1.h*3) F)/\TypeAt W r.2.1 146/\base<=r.2.1
section
variable {W W':E}{rr xb base gt n1 c1:Nat}{v0:ZB}{LS:List Source}{RT:List TR}{xs:List ZB}
theorem SpX.sw (h:SpX rr xb base W v0 (Y (T (Q gt 0 Z)) n1 c1) LS RT)(b:n1=RT.length):Sw rr xb base W v0 gt n1 c1 LS RT (RT.flatMap aZ) :=
 ⟨h.res,h.l,h.src,by have h2:=h.w.y;rw[<-b] at h2;exact h2,h.w.u⟩
theorem Sw.set (h:Sw rr xb base W v0 gt n1 c1 LS RT xs)(j:Nat)(u:ZB):Sw rr xb base (W.setCell (Q gt j Z) u) v0 gt n1 c1 LS RT (xs.set j u):=by
 have i:TypeAt W gt 125:=dY h.y gt rfl;obtain⟨g,f⟩:=i;have far:∀(X:Nat) b,W.heap[X]?=T (N b 29 (0,0))->(W.setCell (Q gt j Z) u).heap[X]?=T (N b 29 (0,0)):=by intro X b hX;refine(qh W (Q gt j Z) _ X ?_).trans hX;intro e;have e:X=gt:=e;subst e;have:=hX.symm.trans f;cases this
 exact⟨far _ _ h.res,far _ _ h.l,dy h.src f (by decide) u,gw h.y u,Dj h.u ⟨g,f⟩ u⟩
theorem Sw.drew (h:Sw rr xb base W v0 gt n1 c1 LS RT xs):Sw rr xb base W.drew v0 gt n1 c1 LS RT xs :=
 ⟨h.res,h.l,own_below h.src br.drew ly,own_below h.y br.drew ly,λr f=>by
  obtain⟨j,⟨F,b⟩,g,i⟩:=h.u r f
  exact⟨j.block ly rfl,⟨F,b.block ly rfl⟩,g.block rfl,i⟩⟩
theorem Sw.fin{c0:Nat}(h:Sw rr xb base W (Y a0 n0 c0) gt n1 c1 LS RT xs)(g:n0=LS.length){L:List TR}(l:xs=(L.map upO).flatMap toV)(i:n1=L.length)(o:LS.length<=300)(h1:L.length<=300)(hL:∀r∈L,r∈RT)(m:GX RT):HSp base W a0 n0 (cI LS) (T (Q gt 0 Z)) n1 (bK ((L.map upO).map (·.1))):=by
 subst l;refine wW (c1:=c1) h.src g h.y (by rw[i];simp) o (by simpa using h1) (λr b=>?_) λr b=>?_;{obtain⟨y,f,rfl⟩:=LM.1 b;obtain⟨j,_,q3,n⟩:=h.u y (hL y f);exact⟨y.2.1,rfl,n,j⟩};{obtain⟨y,f,rfl⟩:=LM.1 b;exact m y (hL y f)}
end
theorem Am (R p:Nat)(m:Int)(w:E)(hR:Rd w R p)(hp:(p:Int)<=100000)(hm:m<1):Calls Pg 33 #[.pointer (T (Q R 0 Z)),J I m] w λe f=>e=.returned (J I 0)/\Rd f R (p+1)/\Only R w f:=by have hst:=ae hR.step;have b:Hid (Only R w (w.setCell (Q R 1 Z) (J I ((p:Int)+1)))):=ce (Only.refl R w) 1 _;obtain⟨a,n,cap,hl,hn,h0,⟨h1,h2⟩,g⟩:=hR;clear g;go_enter func33,ntmps33;go_wp2;go_ret;exact⟨rfl,hst,b⟩
theorem vT (R p g c:Nat)(w:E)(hR:Rd w R p)(hp:p<=20000):Calls Pg 78 #[.pointer (T (Q R 0 Z)),ZG #[Y (T (Q g 0 Z)) 0 c]] w λe H=>DP w R (p+1000) 0 201 e H:=by
 have n:=ae (ry hR (Y (T (Q g 0 Z)) 0 c));obtain⟨ZP,hi,A,q,B⟩:=ol;clear hR;go_enter func78,ntmps78;go_wp2_with (at_builtin;refine E4 _ rfl (.tmp 7) (.tmp 9) 41 rfl (w.heap.size+2) 146 ZP (ZG #[J I 0,U ⟨#[]⟩,J I 0]) 3 32 MV hi A q B rfl (by decide) (Y (T (Q (w.heap.size+2) 0 Z)) 0 0) 0 [] (by simp[Act.eval]) n.ir (Q g 0 Z) 0 c [] (by simp[Act.eval]) rfl (λj u o=>by simp at o) (λu o=>by simp at o) (by unfold maxLen;omega) (by omega) (by simp) ?_);intro t r b x f;replace b:r.ownsRow (w.heap.size+2) 146 3 t 0 []:=b
 obtain⟨m,c1,rfl⟩:∃g c,t=Y (T (Q g 0 Z)) 0 c:=(by
  rcases b.2 with ⟨rfl,_⟩|⟨g,c,cur,rfl,_⟩
  {exact(f rfl).elim}
  ·exact⟨g,c,rfl⟩)
 have z:IR r (w.heap.size+2) m c1 []:=b;have l:=ae (n.app0 (M:=[]) (n':=200) z x (by simp) (λi hi=>by simp at hi));rw[LA] at l;clear z x n b f;go_wp2_with fail;refine(Am R _ 0 _ l.st.1 (by omega) (by omega)).mono ?_;rintro e W2 ⟨rfl,hR,s⟩;have y:=ae (l.ac s hR);clear s hR l;have h:=y.st.2.2.1;have zl:=h.lt;have d0:=h.c0;have d1:=h.fz 0;have fin:=ae (y.fin (Y (T (Q m 0 Z)) 0 c1));clear h;go_wp2;obtain⟨f1,G,f3,C,D,ZQ⟩:=fin.out;try simp only[Exit.inBlock,Exit.then]
 refine bp (jx rfl _ _ (w.heap.size+1) _ rfl f1) rfl ?_;exact⟨[],m,c1,rfl,G,by omega,by simp,C,_,by omega,D,ZQ⟩
