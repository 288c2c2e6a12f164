import Derived.Test.YtpmnbjkjpnclaaaGreatDoorLY
import Derived.Deep.CutBlock
set_option maxRecDepth 100000
set_option maxHeartbeats 4000000
open Go renaming Addr.mk->N,Value.slice->Y,Value.string->U,Value.int->Q,Value.agg->ZG,Obj.cells->J,IntKind.i64->I,World->M,Value->ZB,Proofs.Tryz.prog->Pg
open Option renaming none->Z,some->T
namespace Go.Proofs.YtpmnbjkjpnclaaaGreatDoor.Vp
open Tryz RowKit
variable {n0:Nat}{a0:Option Addr}
theorem py (ZM:Nat)(hNN:200<=ZM/\ZM<=299)(R p g c:Nat)(L:List I3)(w:M)(hR:Rd w R p)(hp:p<=20000)(O:g<w.heap.size)(hN:∀j u,(i3L L)[j]?=T u->w.cell? (((N g 0 Z):Addr).add j)=T u)(hn:L.length<=ZM)(C:L≠[])(hT:∀i∈L,i.2.1.length<=5000):Calls Pg 96 #[.pointer (T (N R 0 Z)),ZG #[Y (T (N g 0 Z)) L.length c]] w λe w'=>DP w R (p+1000) 0 (ZM+1) e w':=by
 have A2:=(((BS w).alloc ly (J #[Y (T (N g 0 Z)) L.length c] 43)).alloc (by simp) (J #[Y Z 0 0] 43)).alloc (by simp;omega) (J #[] 151);have S:=ae (pU hR (Y (T (N g 0 Z)) L.length c));have N0:=ae (λ(j:Nat) (u:ZB) (ZI:(i3L L)[j]?=T u)=>(A2.cell (p:=((N g 0 Z):Addr).add j) (by rw[fB];exact O)).trans (hN j u ZI));have HT:=ae hT;have hl:0<L.length:=JX.2 C;clear A2 hR hN hT O;go_enter func96,ntmps96;go_wp2_with (at_builtin;refine gi rfl (.tmp 7) (.tmp 9) rfl (w.heap.size+2) (w.heap.size+2) 0 [] (by simp[Act.eval]) S.ir (N g 0 Z) L.length c L (by simp[Act.eval]) rfl C N0.out (by simp only[JJ];omega) (by simp) ?_);intro ZN c1 W1 x H;have ZO:=ae (S.app0 (n':=ZM) x H (by simp only[JJ];omega) HT);rw[JW] at ZO;clear x H S N0 HT C;go_wp2_with fail;refine(aw R _ (L.length:Int) _ ZO.st.rd (by omega) (by omega) (by omega)).mono ?_;rintro e W2 ⟨z,rfl,z0,z1,hR,h⟩;obtain⟨k,rfl⟩:∃k:Nat,z=(k:Int):=⟨z.toNat,by omega⟩
 have W:=ae (ZO.ac h hR);have m:k<L.length:=by omega
 have nz:¬ ((L.length:Int)=0):=by omega
 clear h hR ZO;go_wp2_with fail;refine(aw R _ 7 _ W.st.rd (by omega) (by omega) (by omega)).mono ?_;rintro e r ⟨s,rfl,s0,s1,hR,h⟩;have f:=ae (W.ac h hR);clear h hR W;go_upto_block 0 with fail;go_cut [5] (λv wx=>∃(G D ZL:Nat) (E:List I3),v=Y (T (N G 0 Z)) E.length D/\ZL<=p+1000/\Hid (SC w R (w.heap.size+1) wx ZL G D E (ZM+1)));case rest =>
  clear f;obtain⟨G,D,ZL,E,rfl,hq,b⟩:=hcut;have K:=b.st.2.2.1;have zl:=K.lt;have d0:=K.c0;have d1:=K.fz 0;have fin:=ae (b.fin (Y (T (N G 0 Z)) E.length D));have ln:=b.len;clear K b;go_wp2;obtain⟨f1,f2,f3,f4,f5,f6⟩:=fin.out;try simp only[Exit.inBlock,Exit.then]
  refine bp (iX rfl _ _ (w.heap.size+1) _ rfl f1) rfl ?_;exact⟨E,G,D,rfl,f2,by omega,by omega,f4,_,by omega,f5,f6⟩
 rcases(show s=0∨s=1∨s=2∨s=3∨s=6∨s=4∨s=5 by omega) with rfl|rfl|rfl|rfl|rfl|rfl|rfl;case' inl =>go_wp2_with fail;refine(aw R _ 18 _ f.st.rd (by omega) (by omega) (by omega)).mono ?_;rintro e A ⟨y,rfl,V,y1,hR,h⟩;have b:=ae (f.ac h hR);have o:=ae (b.set3 (j:=0) m (by omega) (y - 1,(L.getD k (0,[],0)).2) (Q I (y - 1)) rfl (b.y k m));clear h hR f
 case' inr.inl =>have b:=f;have o:=ae (b.set3 (j:=2) m (by omega) ((L.getD k (0,[],0)).1,(L.getD k (0,[],0)).2.1,(wrap64 ((dm L k).n+1))) (Q I (wrap64 ((dm L k).n+1))) rfl (b.y k m));clear f
 case' inr.inr.inl =>
  have q:=ae (f.aa ((BS r).alloc ly (J #[Q I (-1),Q I 2000,Q I 2001,Q I 200,Q I 201,Q I 1000000007] 3)));have sz3:=q.st.lt;have V0:=ae (λj u=>jl r #[Q I (-1),Q I 2000,Q I 2001,Q I 200,Q I 201,Q I 1000000007] 3 _ j u rfl);have rl:=f.st.rd.lt;go_wp2_with fail;refine(aw R _ 6 _ q.st.rd (by omega) (by omega) (by omega)).mono ?_;rintro e A ⟨y,rfl,V,y1,hR,h⟩;have b:=ae (q.ac h hR);have sz4:r.heap.size<A.heap.size:=by have:=h.size;simp at this;omega
  obtain⟨j,u,rfl,cv⟩:∃(j:Nat) (u:Int),y=j/\A.cell? (N r.heap.size j Z)=T (Q I u):=by have l:=λj u ZI=>(h.cell r.heap.size j (by simp) (by omega)).trans (V0 j u ZI);rcases(show y=0∨y=1∨y=2∨y=3∨y=4∨y=5 by omega) with rfl|rfl|rfl|rfl|rfl|rfl;all_goals first|exact⟨0,_,rfl,l 0 _ rfl⟩|exact⟨1,_,rfl,l 1 _ rfl⟩|exact⟨2,_,rfl,l 2 _ rfl⟩|exact⟨3,_,rfl,l 3 _ rfl⟩|exact⟨4,_,rfl,l 4 _ rfl⟩|exact⟨5,_,rfl,l 5 _ rfl⟩
  have o:=ae (b.set3 (j:=2) m (by omega) ((L.getD k (0,[],0)).1,(L.getD k (0,[],0)).2.1,u) (Q I u) rfl (b.y k m));clear h hR f q V0
 case' inr.inr.inr.inl =>
  go_wp2_with fail;refine(aw R _ 2 _ f.st.rd (by omega) (by omega) (by omega)).mono ?_;rintro e A ⟨y,rfl,V,y1,hR,h⟩;have b:=ae (f.ac h hR);clear h hR f;go_wp2_with fail;obtain⟨m0,P⟩:∃m0:Nat,2000+y=(m0:Int):=⟨(2000+y).toNat,by omega⟩
  rw[P];refine(ej ⟨#[116]⟩ m0 _ (by show 1*m0<=4000;omega) (by omega)).mono ?_;rintro e Wm ⟨t,rfl,ht,hw⟩;rw[hw]
  have o:=ae (b.set3 (j:=1) m (by omega) ((L.getD k (0,[],0)).1,t.data.toList,(L.getD k (0,[],0)).2.2) (U t) rfl (by
   rw[ME]
   exact nD ht (by show 1*m0<=5000;omega)))
  clear ht P hw
 case' inr.inr.inr.inr.inl =>have b:=f;have o:=ae (b.set3 (j:=1) m (by omega) ((L.getD k (0,[],0)).1,[121],(L.getD k (0,[],0)).2.2) (U ⟨#[121]⟩) rfl (by simp));clear f
 case inr.inr.inr.inr.inr.inl =>
  have hc1:L.length<=c1:=by
   rcases f.ir.2 with ⟨l,_⟩|⟨_,_,_,l,_,_,h1,_⟩
   {simp at l};{simp only[JG] at l;omega}
  have b:=ae (f.take k (by omega));have lq:(L.take k).length=k:=by rw[KN];omega
  clear f;go_wp2;go_meet;exact⟨ZN,c1,_,L.take k,by rw[lq],by omega,b.mono (by omega)⟩
 case inr.inr.inr.inr.inr.inr =>
  have bd:=f.len;go_wp2;go_loopw [5] (λv wr=>∃(B c2 ZK:Nat) (ZQ:List I3),v=Y (T (N B 0 Z)) ZQ.length c2/\SC w R (w.heap.size+1) wr ZK B c2 ZQ (ZM+1)/\ZK<=p+10+ZQ.length) (λv _=>ZM+2 - (match v with|Y _ n _=>n|_=>0));case atStart=>exact⟨ZN,c1,_,L,rfl,f.mono (by omega),by omega⟩
  case round =>
   obtain⟨B,c2,ZK,ZQ,rfl,hC,hq⟩:=hrel;have ZJ:=ae hC;have ln:=hC.len;clear hC f;go_wp2_with fail;refine(aw R _ 2 _ ZJ.st.rd (by omega) (by omega) (by omega)).mono ?_;rintro e A ⟨y,rfl,V,y1,hR,h⟩;have b:=ae (ZJ.ac h hR);clear h hR ZJ;by_cases hlt:(ZQ.length:Int)<200+y;{go_wp2_with fail;refine(ba 9 _).mono ?_;rintro e ZP ⟨rfl,hB⟩;have o:=ae (b.aa hB);clear hB b;have X:=ae (o.aa ((BS ZP).alloc ly (J #[Q I 9,U ⟨#[]⟩,Q I 0] 151)));have zl:=o.st.lt;go_wp2_with (at_builtin;refine gi rfl (.tmp 81) (.tmp 83) rfl (w.heap.size+2) B c2 ZQ (by simp[Act.eval]) X.ir (N ZP.heap.size 0 Z) 1 1 [(9,[],0)] (by simp[Act.eval]) rfl (by simp) (ed ZP #[Q I 9,U ⟨#[]⟩,Q I 0] _) (by simp only[BG,JJ];omega) (by simp;omega) ?_);intro g3 c3 W6 x H;have C6:=ae (X.app0 (n':=ZM+1) x H (by show ZQ.length+1<=ZM+1;omega) (λi hi=>by rw[hU.1 hi];exact IH _));clear x H X o;go_wp2;exact⟨⟨g3,c3,_,ZQ++[(9,[],0)],by simp,C6.out,by simp only[eL,BG,JJ];omega⟩,by simp;omega⟩};{go_wp2;go_meet;exact⟨B,c2,_,ZQ,rfl,by omega,b⟩}
 all_goals
  obtain⟨x0,x1,x2⟩:=b.ir.at k m;rw[JC] at x0 x1 x2;have fz0:=b.ir.fz (k*3);have fz1:=b.ir.fz (k*3+1);have fz2:=b.ir.fz (k*3+2);have gl:=b.ir.lt.2;clear b;go_wp2;go_meet;exact⟨ZN,c1,_,_,by rw[JN],by omega,o.mono (by rw[JN];omega)⟩
def sY (f:Nat->Ins)(n:Nat):List I3:=(List.range n).map λi=>((f i).op,(f i).s.data.toList,(f i).n)
theorem AP (f:Nat->Ins)(n:Nat):(sY f n).length=n:=by simp[sY]
theorem AQ (f:Nat->Ins)(n:Nat):i3L (sY f n)=bX f n:=by rw[i3L,sY,bX,PC,PC];rfl
theorem lJ (ZM:Nat)(m:200<=ZM/\ZM<=299)(R p g c n:Nat)(f:Nat->Ins)(w:M)(hR:Rd w R p)(o:p<=20000)(l:RowIns w g 0 n f)(hn:1<=n/\n<=ZM)(r:∀j,j<n->(f j).s.size<=5000):Calls Pg 96 #[.pointer (T (N R 0 Z)),ZG #[Y (T (N g 0 Z)) n c]] w λe t=>DP w R (p+1000) 0 (ZM+1) e t:=by
 have b:=AP f n
 have h:=py ZM m R p g c (sY f n) w hR o l.1 (by rw[AQ];exact uQ l) (by omega) (by intro e;rw[e] at b;simp at b;omega) (by
  intro i hi;obtain⟨j,q,rfl⟩:=KH.1 hi;have:=r j (J4.1 q)
  simpa using this)
 rw[b] at h;exact h
theorem uw (R p g c n:Nat)(f:Nat->Ins)(w:M)(hR:Rd w R p)(l:p<=20000)(b:RowIns w g 0 n f)(hn:1<=n/\n<=200)(h:∀j,j<n->(f j).s.size<=5000):Calls Pg 96 #[.pointer (T (N R 0 Z)),ZG #[Y (T (N g 0 Z)) n c]] w λe i=>DP w R (p+1000) 0 201 e i :=
 lJ 200 ⟨nX _,by omega⟩ R p g c n f w hR l b hn h
theorem lZ{w:M}{b:Nat}{s0 s1 i g f:ByteArray}{t:TypeId}{fz:Nat × Nat}(h:w.heap[b]?=T (J #[U s0,U s1,U i,U g,U f] t fz))(k:Nat)(l:k<5):∃s,w.cell? (N b k Z)=T (U s):=by
 match k,l with
 |0,_=>exact⟨s0,by simp[World.cell?,h]⟩
 |1,_=>exact⟨s1,by simp[World.cell?,h]⟩
 |2,_=>exact⟨i,by simp[World.cell?,h]⟩
 |3,_=>exact⟨g,by simp[World.cell?,h]⟩
 |4,_=>exact⟨f,by simp[World.cell?,h]⟩
 |j+5,h5=>exact absurd h5 (by omega)
section
variable {W:M}{rr xb base:Nat}{LS:List Source}{RR:List TR}
theorem SpX.setA{gt c1 n1 g c n c0:Nat}{f:Nat->Ins}{r0:TR}(h:SpX rr xb base W (Y a0 n0 c0) (Y (T (N gt 0 Z)) n1 c1) LS (r0::RR))(L:n0=LS.length)(B:n1=(r0::RR).length)(C:RowIns W g 0 n f)(D:TypeAt W g 151)(hb:base<=g)(hn:n<=300)(K:∀j,j<n->(f j).s.size<=5000)(E:LS.length<=300)(h1:(r0::RR).length<=300)(ZO:GX (r0::RR)):HSp base (W.setCell (N gt 1 Z) (Y (T (N g 0 Z)) n c)) a0 n0 (bY LS) (T (N gt 0 Z)) n1 (bD ((((⟨r0.1.e,n,f⟩,T (N g 0 Z),c):TO)::RR.map upO).map (·.1)))/\(W.setCell (N gt 1 Z) (Y (T (N g 0 Z)) n c)).heap[xb]?=T (J #[Y a0 n0 c0,Y (T (N gt 0 Z)) n1 c1] 27 (0,0))/\(W.setCell (N gt 1 Z) (Y (T (N g 0 Z)) n c)).heap[rr]?=T (J #[Y Z 0 0,Y Z 0 0] 27 (0,0))/\Below base W (W.setCell (N gt 1 Z) (Y (T (N g 0 Z)) n c)):=by
 have l:W.ownsRow base 146 2 (Y (T (N gt 0 Z)) n1 c1) n1 ((r0::RR).flatMap aS):=by have h2:=h.j.x;rw[<-B] at h2;exact h2
 have z:=(l.lt gt rfl).1;have A:TypeAt W gt 146:=h.j.type gt rfl;obtain⟨x,q⟩:=A;have far:∀(X:Nat) t,W.heap[X]?=T (J t 27 (0,0))->(W.setCell (N gt 1 Z) (Y (T (N g 0 Z)) n c)).heap[X]?=T (J t 27 (0,0)):=by intro X t hX;refine(qh W (N gt 1 Z) _ X ?_).trans hX;intro e;have e:X=gt:=e;subst e;have:=hX.symm.trans q;cases this
 refine⟨?_,far _ _ h.ab,far _ _ h.res,(cM base W).setCell (p:=(N gt 1 Z)) z _⟩;refine vl (c1:=c1) (da h.src q (by decide) _) L ?_ (by rw[B];simp) E (by simpa using h1) ?_ ?_
 ·have h2:=fG l (j:=1) (Y (T (N g 0 Z)) n c);have ZQ:((r0::RR).flatMap aS).set 1 (Y (T (N g 0 Z)) n c)=(((⟨r0.1.e,n,f⟩,T (N g 0 Z),c):TO)::RR.map upO).flatMap toV:=by rw[JZ,JZ,<-nw];rfl
  rw[ZQ] at h2;exact h2
 ·intro r b
  have i:∀k,TypeAt W k 151->(W.setCell (N gt 1 Z) (Y (T (N g 0 Z)) n c)).heap[k]?=W.heap[k]?:=λk u=>qh W (N gt 1 Z) _ k (by
   intro o;have o:k=gt:=o;rw[o] at u
   exact dW u (⟨x,q⟩:TypeAt W gt 146) (by decide) rfl)
  rcases BO.1 b with rfl|b;{exact⟨g,rfl,hb,C.block (by simp) (i g D)⟩};{obtain⟨y,m,rfl⟩:=KH.1 b;obtain⟨ZP,_,G,H⟩:=h.j.D y (mq _ m);exact⟨y.2.1,rfl,H,ZP.block (by simp) (i _ G)⟩}
 {intro r b;rcases BO.1 b with rfl|b;{exact⟨hn,K⟩};{obtain⟨y,m,rfl⟩:=KH.1 b;exact ZO y (mq _ m)}}
end
structure Sw (rr xb base:Nat)(W:M)(v0:ZB)(gt n1 c1:Nat)(LS:List Source)(RT:List TR)(xs:List ZB):Prop where
 res:W.heap[rr]?=T (J #[Y Z 0 0,Y Z 0 0] 27 (0,0))
 ab:W.heap[xb]?=T (J #[v0,Y (T (N gt 0 Z)) n1 c1] 27 (0,0))
 src:W.ownsRow base 142 2 v0 LS.length (LS.flatMap bi)
 x:W.ownsRow base 146 2 (Y (T (N gt 0 Z)) n1 c1) n1 xs
 D:∀r∈RT,RowIns W r.2.1 0 r.1.m r.1.D/\(∃F,Cells W r.2.1 0 (r.1.m*3) F)/\TypeAt W r.2.1 151/\base<=r.2.1
section
variable {W W':M}{rr xb base gt n1 c1:Nat}{v0:ZB}{LS:List Source}{RT:List TR}{xs:List ZB}
theorem SpX.sw (h:SpX rr xb base W v0 (Y (T (N gt 0 Z)) n1 c1) LS RT)(b:n1=RT.length):Sw rr xb base W v0 gt n1 c1 LS RT (RT.flatMap aS) :=
 ⟨h.res,h.ab,h.src,by have h2:=h.j.x;rw[<-b] at h2;exact h2,h.j.D⟩
theorem Sw.set (h:Sw rr xb base W v0 gt n1 c1 LS RT xs)(j:Nat)(u:ZB):Sw rr xb base (W.setCell (N gt j Z) u) v0 gt n1 c1 LS RT (xs.set j u):=by
 have i:TypeAt W gt 146:=dE h.x gt rfl;obtain⟨g,b⟩:=i;have far:∀(X:Nat) f,W.heap[X]?=T (J f 27 (0,0))->(W.setCell (N gt j Z) u).heap[X]?=T (J f 27 (0,0)):=by intro X f hX;refine(qh W (N gt j Z) _ X ?_).trans hX;intro e;have e:X=gt:=e;subst e;have:=hX.symm.trans b;cases this
 exact⟨far _ _ h.res,far _ _ h.ab,da h.src b (by decide) u,fG h.x u,AO h.D ⟨g,b⟩ u⟩
theorem Sw.drew (h:Sw rr xb base W v0 gt n1 c1 LS RT xs):Sw rr xb base W.drew v0 gt n1 c1 LS RT xs :=
 ⟨h.res,h.ab,own_below h.src br.drew ly,own_below h.x br.drew ly,λr g=>by
  obtain⟨b,⟨F,j⟩,f,i⟩:=h.D r g
  exact⟨b.block ly rfl,⟨F,j.block ly rfl⟩,f.block rfl,i⟩⟩
theorem Sw.fin{c0:Nat}(h:Sw rr xb base W (Y a0 n0 c0) gt n1 c1 LS RT xs)(n:n0=LS.length){L:List TR}(o:xs=(L.map upO).flatMap toV)(i:n1=L.length)(l:LS.length<=300)(h1:L.length<=300)(hL:∀r∈L,r∈RT)(j:GX RT):HSp base W a0 n0 (bY LS) (T (N gt 0 Z)) n1 (bD ((L.map upO).map (·.1))):=by
 subst o;refine vl (c1:=c1) h.src n h.x (by rw[i];simp) l (by simpa using h1) (λr b=>?_) λr b=>?_;{obtain⟨y,f,rfl⟩:=KH.1 b;obtain⟨g,_,q3,m⟩:=h.D y (hL y f);exact⟨y.2.1,rfl,m,g⟩};{obtain⟨y,f,rfl⟩:=KH.1 b;exact j y (hL y f)}
end
theorem yI (R p:Nat)(m:Int)(w:M)(hR:Rd w R p)(hp:(p:Int)<=100000)(hm:m<1):Calls Pg 40 #[.pointer (T (N R 0 Z)),Q I m] w λe f=>e=.returned (Q I 0)/\Rd f R (p+1)/\Only R w f:=by have hst:=ae hR.step;have b:Hid (Only R w (w.setCell (N R 1 Z) (Q I ((p:Int)+1)))):=bO (Only.refl R w) 1 _;obtain⟨a,n,cap,hl,hn,h0,⟨h1,h2⟩,g⟩:=hR;clear g;go_enter func40,ntmps40;go_wp2;go_ret;exact⟨rfl,hst,b⟩
theorem ux (R p g c:Nat)(w:M)(hR:Rd w R p)(hp:p<=20000):Calls Pg 96 #[.pointer (T (N R 0 Z)),ZG #[Y (T (N g 0 Z)) 0 c]] w λe H=>DP w R (p+1000) 0 201 e H:=by
 have n:=ae (pU hR (Y (T (N g 0 Z)) 0 c));obtain⟨D,hi,y,A,x⟩:=rK;clear hR;go_enter func96,ntmps96;go_wp2_with (at_builtin;refine IS _ rfl (.tmp 7) (.tmp 9) 41 rfl (w.heap.size+2) 151 D (ZG #[Q I 0,U ⟨#[]⟩,Q I 0]) 3 32 QF hi y A x rfl (by decide) (Y (T (N (w.heap.size+2) 0 Z)) 0 0) 0 [] (by simp[Act.eval]) n.ir (N g 0 Z) 0 c [] (by simp[Act.eval]) rfl (λj u o=>by simp at o) (λu o=>by simp at o) (by unfold maxLen;omega) (by omega) (by simp) ?_);intro r B b z f;replace b:B.ownsRow (w.heap.size+2) 151 3 r 0 []:=b
 obtain⟨m,c1,rfl⟩:∃g c,r=Y (T (N g 0 Z)) 0 c:=(by
  rcases b.2 with ⟨rfl,_⟩|⟨g,c,cur,rfl,_⟩
  {exact(f rfl).elim}
  ·exact⟨g,c,rfl⟩)
 have q:IR B (w.heap.size+2) m c1 []:=b;have h:=ae (n.app0 (ZQ:=[]) (n':=200) q z (by simp) (λi hi=>by simp at hi));rw[JW] at h;clear q z n b f;go_wp2_with fail;refine(yI R _ 0 _ h.st.1 (by omega) (by omega)).mono ?_;rintro e W2 ⟨rfl,hR,t⟩;have s:=ae (h.ac t hR);clear t hR h;have l:=s.st.2.2.1;have zl:=l.lt;have d0:=l.c0;have d1:=l.fz 0;have fin:=ae (s.fin (Y (T (N m 0 Z)) 0 c1));clear l;go_wp2;obtain⟨f1,E,f3,ZP,C,G⟩:=fin.out;try simp only[Exit.inBlock,Exit.then]
 refine bp (iX rfl _ _ (w.heap.size+1) _ rfl f1) rfl ?_;exact⟨[],m,c1,rfl,E,by omega,by simp,ZP,_,by omega,C,G⟩
