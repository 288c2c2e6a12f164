import Derived.Test.YtcnilonhfpimnaaGreatDoorEA
import Derived.Deep.CutBlock
set_option linter.all false
set_option maxRecDepth 100000
set_option maxHeartbeats 4000000
open Go renaming Addr.mk->T,Value.slice->Z,Value.string->U,Value.int->J,Value.agg->ZJ,Obj.cells->N,IntKind.i64->I,World->E,Value->ZB,World.heap->B,Proofs.Tryz.prog->Pg
open Option renaming none->Y,some->Q
open Array renaming size->z
open List renaming length->A
namespace Go.Proofs.YtcnilonhfpimnaaGreatDoor.Vp
open Tryz RowKit
variable {n0:Nat}{a0:O_}
def lC (ZQ:Nat)(hNN:200<=ZQ/\ZQ<=299)(R p g c:Nat)(L:List I3)(w:E)(hR:Rd w R p)(hp:p<=20000)(O:g<z (B w))(hN:∀j u,(i3L L)[j]?=Q u->w.cell? (((T g 0 Y):Addr).add j)=Q u)(hn:A L<=ZQ)(ZT:L≠[])(hT:∀i∈L,i.2.1.length<=5000):Calls Pg 51 #[.pointer (Q (T R 0 Y)),ZJ #[Z (Q (T g 0 Y)) (A L) c]] w λe w'=>DP w R (p+1000) 0 (ZQ+1) e w':=by
 have A2:=(((BS w).alloc ly (N #[Z (Q (T g 0 Y)) (A L) c] 37)).alloc (by simp) (N #[Z Y 0 0] 37)).alloc (by simp;omega) (N #[] 102);have ZN:=ae (sC hR (Z (Q (T g 0 Y)) (A L) c));have N0:=ae (λ(j:Nat) (u:ZB) (S:(i3L L)[j]?=Q u)=>(A2.O (p:=((T g 0 Y):Addr).add j) (by rw[gK];exact O)).k (hN j u S));have HT:=ae hT;have hl:0<A L:=NW.2 ZT;clear A2 hR hN hT O;go_enter func51,ntmps51;go_wp2_with (at_builtin;refine gL rfl (.tmp 7) (.tmp 9) rfl (z (B w)+2) (z (B w)+2) 0 [] (by simp[Act.eval]) ZN.ir (T g 0 Y) (A L) c L (by simp[Act.eval]) rfl ZT N0.i (by simp only[IT];omega) (by simp) ?_);intro W c1 W1 G C;have ZS:=ae (ZN.app0 (n':=ZQ) G C (by simp only[IT];omega) HT);rw[NS] at ZS;clear G C ZN N0 HT ZT;go_wp2_with fail;refine(ay R _ (A L:Int) _ ZS.st.rd (by omega) (by omega) (by omega)).P ?_;rintro e W2⟨ZU,rfl,z0,z1,hR,h⟩;obtain⟨k,rfl⟩:∃k:Nat,ZU=(k:Int):=⟨ZU.toNat,by omega⟩
 have ZL:=ae (ZS.ac h hR);have m:k<A L:=by omega
 have nz:¬ ((A L:Int)=0):=by omega
 clear h hR ZS;go_wp2_with fail;refine(ay R _ 7 _ ZL.st.rd (by omega) (by omega) (by omega)).P ?_;rintro e r⟨s,rfl,s0,s1,hR,h⟩;have f:=ae (ZL.ac h hR);clear h hR ZL;go_upto_block 0 with fail;go_cut [5] (λv wx=>∃(x ZV q':Nat) (H:List I3),v=Z (Q (T x 0 Y)) (A H) ZV/\q'<=p+1000/\Hid (SC w R (z (B w)+1) wx q' x ZV H (ZQ+1)));case rest =>
  clear f;obtain⟨x,ZV,q',H,rfl,hq,b⟩:=hcut;have K:=b.st.2.2.1;have zl:=K.lt;have d0:=K.c0;have d1:=K.fz 0;have fin:=ae (b.fin (Z (Q (T x 0 Y)) (A H) ZV));have ln:=b.len;clear K b;go_wp2;obtain⟨f1,f2,f3,f4,f5,f6⟩:=fin.i;try simp only[Exit.inBlock,Exit.then]
  refine bp (gN rfl _ _ (z (B w)+1) _ rfl f1) rfl ?_;exact⟨H,x,ZV,rfl,f2,by omega,by omega,f4,_,by omega,f5,f6⟩
 rcases(show s=0\/s=1\/s=2\/s=3\/s=6\/s=4\/s=5 by omega) with rfl|rfl|rfl|rfl|rfl|rfl|rfl;case' inl =>go_wp2_with fail;refine(ay R _ 18 _ f.st.rd (by omega) (by omega) (by omega)).P ?_;rintro e D⟨y,rfl,ZM,y1,hR,h⟩;have b:=ae (f.ac h hR);have o:=ae (b.set3 (j:=0) m (by omega) (y - 1,(L.getD k (0,[],0)).2) (J I (y - 1)) rfl (b.H k m));clear h hR f
 case' inr.inl =>have b:=f;have o:=ae (b.set3 (j:=2) m (by omega) ((L.getD k (0,[],0)).1,(L.getD k (0,[],0)).2.1,(wrap64 ((cY L k).n+1))) (J I (wrap64 ((cY L k).n+1))) rfl (b.H k m));clear f
 case' inr.inr.inl =>
  have q:=ae (f.aa ((BS r).alloc ly (N #[J I (-1),J I 2000,J I 2001,J I 200,J I 201,J I 1000000007] 3)));have sz3:=q.st.lt;have V0:=ae (λj u=>kH r #[J I (-1),J I 2000,J I 2001,J I 200,J I 201,J I 1000000007] 3 _ j u rfl);have rl:=f.st.rd.lt;go_wp2_with fail;refine(ay R _ 6 _ q.st.rd (by omega) (by omega) (by omega)).P ?_;rintro e D⟨y,rfl,ZM,y1,hR,h⟩;have b:=ae (q.ac h hR);have sz4:z (B r)<z (B D):=by have:=h.size;simp at this;omega
  obtain⟨j,u,rfl,cv⟩:∃(j:Nat) (u:Int),y=j/\D.cell? (T (z (B r)) j Y)=Q (J I u):=by have l:=λj u S=>(h.O (z (B r)) j (by simp) (by omega)).k (V0 j u S);rcases(show y=0\/y=1\/y=2\/y=3\/y=4\/y=5 by omega) with rfl|rfl|rfl|rfl|rfl|rfl;all_goals first|exact⟨0,_,rfl,l 0 _ rfl⟩|exact⟨1,_,rfl,l 1 _ rfl⟩|exact⟨2,_,rfl,l 2 _ rfl⟩|exact⟨3,_,rfl,l 3 _ rfl⟩|exact⟨4,_,rfl,l 4 _ rfl⟩|exact⟨5,_,rfl,l 5 _ rfl⟩
  have o:=ae (b.set3 (j:=2) m (by omega) ((L.getD k (0,[],0)).1,(L.getD k (0,[],0)).2.1,u) (J I u) rfl (b.H k m));clear h hR f q V0
 case' inr.inr.inr.inl =>
  go_wp2_with fail;refine(ay R _ 2 _ f.st.rd (by omega) (by omega) (by omega)).P ?_;rintro e D⟨y,rfl,ZM,y1,hR,h⟩;have b:=ae (f.ac h hR);clear h hR f;go_wp2_with fail;obtain⟨m0,P⟩:∃m0:Nat,2000+y=(m0:Int):=⟨(2000+y).toNat,by omega⟩
  rw[P];refine(eP ⟨#[116]⟩ m0 _ (by show 1*m0<=4000;omega) (by omega)).P ?_;rintro e Wm⟨t,rfl,ht,hw⟩;rw[hw]
  have o:=ae (b.set3 (j:=1) m (by omega) ((L.getD k (0,[],0)).1,t.data.toList,(L.getD k (0,[],0)).2.2) (U t) rfl (by
   rw[RC]
   exact nX ht (by show 1*m0<=5000;omega)))
  clear ht P hw
 case' inr.inr.inr.inr.inl =>have b:=f;have o:=ae (b.set3 (j:=1) m (by omega) ((L.getD k (0,[],0)).1,[121],(L.getD k (0,[],0)).2.2) (U ⟨#[121]⟩) rfl (by simp));clear f
 case inr.inr.inr.inr.inr.inl =>
  have hc1:A L<=c1:=by
   rcases f.ir.2 with⟨l,_⟩|⟨_,_,_,l,_,_,h1,_⟩
   {simp at l};{simp only[IS] at l;omega}
  have b:=ae (f.take k (by omega));have lq:(L.take k).length=k:=by rw[OD];omega
  clear f;go_wp2;go_meet;exact⟨W,c1,_,L.take k,by rw[lq],by omega,b.P (by omega)⟩
 case inr.inr.inr.inr.inr.inr =>
  have bd:=f.len;go_wp2;go_loopw [5] (λv wr=>∃(ZW c2 ZO:Nat) (M:List I3),v=Z (Q (T ZW 0 Y)) (A M) c2/\SC w R (z (B w)+1) wr ZO ZW c2 M (ZQ+1)/\ZO<=p+10+A M) (λv _=>ZQ+2 - (match v with|Z _ n _=>n|_=>0));case atStart=>exact⟨W,c1,_,L,rfl,f.P (by omega),by omega⟩
  case round =>
   obtain⟨ZW,c2,ZO,M,rfl,X,hq⟩:=hrel;have ZP:=ae X;have ln:=X.len;clear X f;go_wp2_with fail;refine(ay R _ 2 _ ZP.st.rd (by omega) (by omega) (by omega)).P ?_;rintro e D⟨y,rfl,ZM,y1,hR,h⟩;have b:=ae (ZP.ac h hR);clear h hR ZP;by_cases hlt:(A M:Int)<200+y;{go_wp2_with fail;refine(bq 9 _).P ?_;rintro e ZR⟨rfl,hB⟩;have o:=ae (b.aa hB);clear hB b;have V:=ae (o.aa ((BS ZR).alloc ly (N #[J I 9,U ⟨#[]⟩,J I 0] 102)));have zl:=o.st.lt;go_wp2_with (at_builtin;refine gL rfl (.tmp 81) (.tmp 83) rfl (z (B w)+2) ZW c2 M (by simp[Act.eval]) V.ir (T (z (B ZR)) 0 Y) 1 1 [(9,[],0)] (by simp[Act.eval]) rfl (by simp) (eQ ZR #[J I 9,U ⟨#[]⟩,J I 0] _) (by simp only[vF,IT];omega) (by simp;omega) ?_);intro g3 c3 W6 G C;have C6:=ae (V.app0 (n':=ZQ+1) G C (by show (A M)+1<=ZQ+1;omega) (λi hi=>by rw[j4.1 hi];exact DW _));clear G C V o;go_wp2;exact⟨⟨g3,c3,_,M++[(9,[],0)],by simp,C6.i,by simp only[cM,vF,IT];omega⟩,by simp;omega⟩};{go_wp2;go_meet;exact⟨ZW,c2,_,M,rfl,by omega,b⟩}
 all_goals
  obtain⟨x0,x1,x2⟩:=b.ir.at k m;rw[I5] at x0 x1 x2;have fz0:=b.ir.fz (k*3);have fz1:=b.ir.fz (k*3+1);have fz2:=b.ir.fz (k*3+2);have gl:=b.ir.lt.2;clear b;go_wp2;go_meet;exact⟨W,c1,_,_,by rw[NJ],by omega,o.P (by rw[NJ];omega)⟩
def tW (R p g c:Nat)(L:List I3)(w:E)(hR:Rd w R p)(m:p<=20000)(f:g<z (B w))(n:∀j u,(i3L L)[j]?=Q u->w.cell? (((T g 0 Y):Addr).add j)=Q u)(hn:A L<=200)(b:L≠[])(h:∀i∈L,i.2.1.length<=5000):Calls Pg 51 #[.pointer (Q (T R 0 Y)),ZJ #[Z (Q (T g 0 Y)) (A L) c]] w λe l=>DP w R (p+1000) 0 201 e l:=
 lC 200 ⟨p7 _,by omega⟩ R p g c L w hR m f n hn b h
def xz (R p g c:Nat)(L:List I3)(w:E)(base:Nat)(hR:Rd w R p)(l:p<=20000)(b:IR w base g c L)(hn:A L<=200)(f:L≠[])(h:∀i∈L,i.2.1.length<=5000):Calls Pg 51 #[.pointer (Q (T R 0 Y)),ZJ #[Z (Q (T g 0 Y)) (A L) c]] w λe j=>DP w R (p+1000) 0 201 e j:=
 tW R p g c L w hR l b.lt.2 b.news hn f h
def vM (f:Nat->Ins)(n:Nat):List I3:=(List.range n).map λi=>((f i).op,(f i).s.data.toList,(f i).n)
def FD (f:Nat->Ins)(n:Nat):(vM f n).length=n:=by simp[vM]
def FF (f:Nat->Ins)(n:Nat):i3L (vM f n)=bZ f n:=by rw[i3L,vM,bZ,UW,UW];rfl
def nY (ZQ:Nat)(m:200<=ZQ/\ZQ<=299)(R p g c n:Nat)(f:Nat->Ins)(w:E)(hR:Rd w R p)(o:p<=20000)(l:Qj w g 0 n f)(hn:1<=n/\n<=ZQ)(q:∀j,j<n->(f j).s.size<=5000):Calls Pg 51 #[.pointer (Q (T R 0 Y)),ZJ #[Z (Q (T g 0 Y)) n c]] w λe t=>DP w R (p+1000) 0 (ZQ+1) e t:=by
 have b:=FD f n
 have h:=lC ZQ m R p g c (vM f n) w hR o l.1 (by rw[FF];exact rz l) (by omega) (by intro e;rw[e] at b;simp at b;omega) (by
  intro i hi;obtain⟨j,r,rfl⟩:=NN.1 hi;have:=q j (IH.1 r)
  simpa using this)
 rw[b] at h;exact h
def xA (R p g c n:Nat)(f:Nat->Ins)(w:E)(hR:Rd w R p)(i:p<=20000)(b:Qj w g 0 n f)(hn:1<=n/\n<=200)(l:∀j,j<n->(f j).s.size<=5000):Calls Pg 51 #[.pointer (Q (T R 0 Y)),ZJ #[Z (Q (T g 0 Y)) n c]] w λe h=>DP w R (p+1000) 0 201 e h:=
 nY 200 ⟨p7 _,by omega⟩ R p g c n f w hR i b hn l
def oE{w:E}{b:Nat}{s0 s1 g f i:F_}{t:TypeId}{fz:Nat × Nat}(h:w.heap[b]?=Q (N #[U s0,U s1,U g,U f,U i] t fz))(k:Nat)(l:k<5):∃s,w.cell? (T b k Y)=Q (U s):=by
 match k,l with
 |0,_=>exact⟨s0,by simp[World.cell?,h]⟩
 |1,_=>exact⟨s1,by simp[World.cell?,h]⟩
 |2,_=>exact⟨g,by simp[World.cell?,h]⟩
 |3,_=>exact⟨f,by simp[World.cell?,h]⟩
 |4,_=>exact⟨i,by simp[World.cell?,h]⟩
 |j+5,h5=>exact absurd h5 (by omega)
section
variable {W:E}{rr xb base:Nat}{LS:List Source}{RR:List TR}
def SpX.setA{gt c1 n1 g c n c0:Nat}{f:Nat->Ins}{r0:TR}(h:SpX rr xb base W (Z a0 n0 c0) (Z (Q (T gt 0 Y)) n1 c1) LS (r0::RR))(ZR:n0=A LS)(ZV:n1=(r0::RR).length)(K:Qj W g 0 n f)(ZS:Qk W g 102)(hb:base<=g)(hn:n<=300)(C:∀j,j<n->(f j).s.size<=5000)(G:A LS<=300)(h1:(r0::RR).length<=300)(D:GX (r0::RR)):HSp base (W.setCell (T gt 1 Y) (Z (Q (T g 0 Y)) n c)) a0 n0 (aV LS) (Q (T gt 0 Y)) n1 (aW ((((⟨r0.1.e,n,f⟩,Q (T g 0 Y),c):TO)::RR.map upO).map (·.1)))/\(W.setCell (T gt 1 Y) (Z (Q (T g 0 Y)) n c)).heap[xb]?=Q (N #[Z a0 n0 c0,Z (Q (T gt 0 Y)) n1 c1] 29 (0,0))/\(W.setCell (T gt 1 Y) (Z (Q (T g 0 Y)) n c)).heap[rr]?=Q (N #[Z Y 0 0,Z Y 0 0] 29 (0,0))/\Below base W (W.setCell (T gt 1 Y) (Z (Q (T g 0 Y)) n c)):=by
 have l:W.ownsRow base 86 2 (Z (Q (T gt 0 Y)) n1 c1) n1 ((r0::RR).flatMap aZ):=by have h2:=h.w.u;rw[<-ZV] at h2;exact h2
 have ZU:=(l.lt gt rfl).1;have ZW:Qk W gt 86:=h.w.type gt rfl;obtain⟨x,m⟩:=ZW;have far:∀(X:Nat) t,W.heap[X]?=Q (N t 29 (0,0))->(W.setCell (T gt 1 Y) (Z (Q (T g 0 Y)) n c)).heap[X]?=Q (N t 29 (0,0)):=by intro X t hX;refine(qh W (T gt 1 Y) _ X ?_).k hX;intro e;have e:X=gt:=e;subst e;have:=hX.c.k m;cases this
 refine⟨?_,far _ _ h.ab,far _ _ h.res,(a8 base W).setCell (p:=(T gt 1 Y)) ZU _⟩;refine yu (c1:=c1) (dJ h.src m (by decide) _) ZR ?_ (by rw[ZV];simp) G (by simpa using h1) ?_ ?_
 ·have h2:=gU l (j:=1) (Z (Q (T g 0 Y)) n c);have H:((r0::RR).flatMap aZ).set 1 (Z (Q (T g 0 Y)) n c)=(((⟨r0.1.e,n,f⟩,Q (T g 0 Y),c):TO)::RR.map upO).flatMap toV:=by rw[N9,N9,<-pE];rfl
  rw[H] at h2;exact h2
 ·intro r b
  have i:∀k,Qk W k 102->(W.setCell (T gt 1 Y) (Z (Q (T g 0 Y)) n c)).heap[k]?=W.heap[k]?:=λk u=>qh W (T gt 1 Y) _ k (by
   intro o;have o:k=gt:=o;rw[o] at u
   exact fc u (⟨x,m⟩:Qk W gt 86) (by decide) rfl)
  rcases vG.1 b with rfl|b;{exact⟨g,rfl,hb,K.p (by simp) (i g ZS)⟩};{obtain⟨y,q,rfl⟩:=NN.1 b;obtain⟨M,_,ZT,L⟩:=h.w.q y (mq _ q);exact⟨y.2.1,rfl,L,M.p (by simp) (i _ ZT)⟩}
 {intro r b;rcases vG.1 b with rfl|b;{exact⟨hn,C⟩};{obtain⟨y,q,rfl⟩:=NN.1 b;exact D y (mq _ q)}}
end
structure Sw (rr xb base:Nat)(W:E)(v0:ZB)(gt n1 c1:Nat)(LS:List Source)(RT:List TR)(xs:List ZB):Prop where
 res:W.heap[rr]?=Q (N #[Z Y 0 0,Z Y 0 0] 29 (0,0))
 ab:W.heap[xb]?=Q (N #[v0,Z (Q (T gt 0 Y)) n1 c1] 29 (0,0))
 src:W.ownsRow base 82 2 v0 (A LS) (LS.flatMap bF)
 u:W.ownsRow base 86 2 (Z (Q (T gt 0 Y)) n1 c1) n1 xs
 q:∀r∈RT,Qj W r.2.1 0 r.1.h r.1.q/\(∃F,Cells W r.2.1 0 (r.1.h*3) F)/\Qk W r.2.1 102/\base<=r.2.1
section
variable {W W':E}{rr xb base gt n1 c1:Nat}{v0:ZB}{LS:List Source}{RT:List TR}{xs:List ZB}
def SpX.sw (h:SpX rr xb base W v0 (Z (Q (T gt 0 Y)) n1 c1) LS RT)(b:n1=A RT):Sw rr xb base W v0 gt n1 c1 LS RT (RT.flatMap aZ):=
 ⟨h.res,h.ab,h.src,by have h2:=h.w.u;rw[<-b] at h2;exact h2,h.w.q⟩
def Sw.set (h:Sw rr xb base W v0 gt n1 c1 LS RT xs)(j:Nat)(u:ZB):Sw rr xb base (W.setCell (T gt j Y) u) v0 gt n1 c1 LS RT (xs.set j u):=by
 have i:Qk W gt 86:=eo h.u gt rfl;obtain⟨g,f⟩:=i;have far:∀(X:Nat) b,W.heap[X]?=Q (N b 29 (0,0))->(W.setCell (T gt j Y) u).heap[X]?=Q (N b 29 (0,0)):=by intro X b hX;refine(qh W (T gt j Y) _ X ?_).k hX;intro e;have e:X=gt:=e;subst e;have:=hX.c.k f;cases this
 exact⟨far _ _ h.res,far _ _ h.ab,dJ h.src f (by decide) u,gU h.u u,FC h.q ⟨g,f⟩ u⟩
def Sw.drew (h:Sw rr xb base W v0 gt n1 c1 LS RT xs):Sw rr xb base W.drew v0 gt n1 c1 LS RT xs:=
 ⟨h.res,h.ab,K_ h.src br.drew ly,K_ h.u br.drew ly,λr g=>by
  obtain⟨i,⟨F,f⟩,b,j⟩:=h.q r g
  exact⟨i.p ly rfl,⟨F,f.p ly rfl⟩,b.p rfl,j⟩⟩
def Sw.fin{c0:Nat}(h:Sw rr xb base W (Z a0 n0 c0) gt n1 c1 LS RT xs)(g:n0=A LS){L:List TR}(j:xs=(L.map upO).flatMap toV)(l:n1=A L)(n:A LS<=300)(h1:A L<=300)(hL:∀r∈L,r∈RT)(m:GX RT):HSp base W a0 n0 (aV LS) (Q (T gt 0 Y)) n1 (aW ((L.map upO).map (·.1))):=by
 subst j;refine yu (c1:=c1) h.src g h.u (by rw[l];simp) n (by simpa using h1) (λr f=>?_) λr f=>?_;{obtain⟨y,b,rfl⟩:=NN.1 f;obtain⟨o,_,q3,i⟩:=h.q y (hL y b);exact⟨y.2.1,rfl,i,o⟩};{obtain⟨y,b,rfl⟩:=NN.1 f;exact m y (hL y b)}
end
def Cw (R p:Nat)(m:Int)(w:E)(hR:Rd w R p)(hp:(p:Int)<=100000)(hm:m<1):Calls Pg 19 #[.pointer (Q (T R 0 Y)),J I m] w λe f=>e=.returned (J I 0)/\Rd f R (p+1)/\zt R w f:=by have hst:=ae hR.step;have b:Hid (zt R w (w.setCell (T R 1 Y) (J I ((p:Int)+1)))):=ce (zt.refl R w) 1 _;obtain⟨a,n,j_,hl,hn,h0,⟨h1,h2⟩,g⟩:=hR;clear g;go_enter func19,ntmps19;go_wp2;go_ret;exact⟨rfl,hst,b⟩
def xB (R p g c:Nat)(w:E)(hR:Rd w R p)(hp:p<=20000):Calls Pg 51 #[.pointer (Q (T R 0 Y)),ZJ #[Z (Q (T g 0 Y)) 0 c]] w λe H=>DP w R (p+1000) 0 201 e H:=by
 have o:=ae (sC hR (Z (Q (T g 0 Y)) 0 c));obtain⟨G,hi,s,y,ZU⟩:=pj;clear hR;go_enter func51,ntmps51;go_wp2_with (at_builtin;refine DN _ rfl (.tmp 7) (.tmp 9) 35 rfl (z (B w)+2) 102 G (ZJ #[J I 0,U ⟨#[]⟩,J I 0]) 3 32 QE hi s y ZU rfl (by decide) (Z (Q (T (z (B w)+2) 0 Y)) 0 0) 0 [] (by simp[Act.eval]) o.ir (T g 0 Y) 0 c [] (by simp[Act.eval]) rfl (λj u n=>by simp at n) (λu n=>by simp at n) (by unfold maxLen;omega) (by omega) (by simp) ?_);intro r ZW b t f;replace b:ZW.ownsRow (z (B w)+2) 102 3 r 0 []:=b
 obtain⟨m,c1,rfl⟩:∃g c,r=Z (Q (T g 0 Y)) 0 c:=(by
  rcases b.2 with⟨rfl,_⟩|⟨g,c,cur,rfl,_⟩
  {exact(f rfl).elim}
  ·exact⟨g,c,rfl⟩)
 have ZV:IR ZW (z (B w)+2) m c1 []:=b;have h:=ae (o.app0 (M:=[]) (n':=200) ZV t (by simp) (λi hi=>by simp at hi));rw[NS] at h;clear ZV t o b f;go_wp2_with fail;refine(Cw R _ 0 _ h.st.1 (by omega) (by omega)).P ?_;rintro e W2⟨rfl,hR,q⟩;have x:=ae (h.ac q hR);clear q hR h;have l:=x.st.2.2.1;have zl:=l.lt;have d0:=l.c0;have d1:=l.fz 0;have fin:=ae (x.fin (Z (Q (T m 0 Y)) 0 c1));clear l;go_wp2;obtain⟨f1,C,f3,D,ZS,ZT⟩:=fin.i;try simp only[Exit.inBlock,Exit.then]
 refine bp (gN rfl _ _ (z (B w)+1) _ rfl f1) rfl ?_;exact⟨[],m,c1,rfl,C,by omega,by simp,D,_,by omega,ZS,ZT⟩
def pF (R p:Nat)(w:E)(hR:Rd w R p)(hp:p<=10000):Calls Pg 30 #[.pointer (Q (T R 0 Y))] w λe w'=>DP w R (p+1700) 0 201 e w':=by
 have HR:=ae hR;have t:=hR.lt;clear hR;go_enter func30,ntmps30;go_wp2_with fail;obtain⟨y,h⟩:∃W:E,w.alloc (N #[Z Y 0 0] 37)=W:=⟨_,rfl⟩
 obtain⟨H,-,hz0⟩:=nb1 h;have f:=ae h;clear h;have P0:Hid (PB y (z (B w)) (Z Y 0 0)):=by rw[<-f.i];exact gM w _
 rw[f.i];clear f;have V:Hid (zt R w y):=zt.l H;refine(fZ R p _ (HR.aa H ly) (by omega)).P ?_;rintro e o⟨L,g,c,rfl,u,hlo,hL,ZL,q,hq,hR,b⟩;have hs2:=b.size;obtain⟨W3,l⟩:∃W:E,o.alloc (N #[Z (Q (T g 0 Y)) (A L) c] 37)=W:=⟨_,rfl⟩
 obtain⟨i,-,-⟩:=nb1 l;replace i:=i.i;have m:=ae l;clear l;have ZP:=ae (hR.aa i ly);have I3:=ae (u.aa i ly);have ZR:=ae (PB.aa ((b.p (z (B w)) (by omega) (by omega)).k P0:PB o (z (B w)) (Z Y 0 0)) i (by omega));have ZQ:=ae ((V.k b).then (i.P (by omega)));have ZT:Hid (PB W3 (z (B o)) (Z (Q (T g 0 Y)) (A L) c)):=by rw[<-m.i];exact gM o _
 have O:=ae ZL;clear u hR b i H P0 V ZL;go_wp2_with fail;rw[m.i];clear m;refine(ay R _ 6 _ ZP (by omega) (by omega) (by omega)).P ?_;rintro e ZW⟨ZU,rfl,zz0,zz1,hR,b⟩;have K:=ae hR;have ZN:=ae (I3.ac b (by omega));have n:Hid (PB ZW (z (B w)) (Z Y 0 0)):=(b.p (z (B w)) ZR.lt (by omega)).k ZR;have S:Hid (PB ZW (z (B o)) (Z (Q (T g 0 Y)) (A L) c)):=(b.p (z (B o)) ZT.lt (by omega)).k ZT;have P:=ae (ZQ.k b);clear hR b ZP I3 ZR ZT ZQ;have q0:=S.c0;have ql:=S.lt;by_cases hz:ZU=0
 ·subst hz;go_wp2_with fail;refine(xz R (q+1) g c L _ (z (B y)) K (by omega) ZN (by omega) (NW.1 (by omega)) O).P ?_;rintro e ZM⟨M,x,c5,rfl,u,hlo5,ZO,ZV,q5,hq5,hR,b⟩;have s:PB ZM (z (B w)) (Z Y 0 0):=(b.p (z (B w)) n.lt (by omega)).k n;have d0:=s.c0;have d1:=s.fz 0;have zl:=s.lt;have C:=ae (aE (aH (aE u (show (z (B w))+1<=z (B ZW) by omega)) (show (z (B w))<z (B w)+1 by omega) (j:=0) (Z (Q (T x 0 Y)) (A M) c5)) (show (z (B w))<=z (B w)+1 by omega));have D:=ae (s.set (Z (Q (T x 0 Y)) (A M) c5));have r:=ae ((a8 (z (B w)) ZM).setCell (p:=(T (z (B w)) 0 Y)) ly (Z (Q (T x 0 Y)) (A M) c5));have ZS:=ae (hR.low r t);have G:=ae ((P.k b).then r);have X:=ae ZV;clear u hR b s ZV;go_wp2;try simp only[Exit.inBlock,Exit.then]
  refine bp (gN rfl _ _ (z (B w)) _ rfl D) rfl ?_;exact⟨M,x,c5,rfl,C,DW _,ZO,X,q5,by omega,ZS,G⟩
 ·have d0:=n.c0;have d1:=n.fz 0;have zl:=n.lt;have C:=ae (aE (aH (aE ZN (show (z (B w))+1<=z (B y) by omega)) (show (z (B w))<z (B w)+1 by omega) (j:=0) (Z (Q (T g 0 Y)) (A L) c)) (show (z (B w))<=z (B w)+1 by omega));have D:=ae (n.set (Z (Q (T g 0 Y)) (A L) c));have r:=ae ((a8 (z (B w)) ZW).setCell (p:=(T (z (B w)) 0 Y)) ly (Z (Q (T g 0 Y)) (A L) c));have ZS:=ae (K.low r t);have G:=ae (P.then r);go_wp2;try simp only[Exit.inBlock,Exit.then]
  refine bp (gN rfl _ _ (z (B w)) _ rfl D) rfl ?_;exact⟨L,g,c,rfl,C,DW _,by omega,O,_,by omega,ZS,G⟩
