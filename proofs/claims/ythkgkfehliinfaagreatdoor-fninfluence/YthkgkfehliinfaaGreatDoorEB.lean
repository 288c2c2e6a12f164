import Derived.Test.YthkgkfehliinfaaGreatDoorEA
import Derived.Deep.CutBlock
set_option linter.all false
set_option maxRecDepth 100000
set_option maxHeartbeats 4000000
open Go renaming Addr.mk->Q,Value.slice->Y,Value.string->U,Value.int->J,Value.agg->ZJ,Obj.cells->N,IntKind.i64->I,World->E,Value->ZB,World.heap->B,World.setCell->ZU,Proofs.Tryz.prog->Pg
open Option renaming none->Z,some->T
open Array renaming size->z
open List renaming length->A
namespace Go.Proofs.YthkgkfehliinfaaGreatDoor.Vp
open Tryz RowKit
variable {n0:Nat}{a0:O_}
def lC (ZQ:Nat)(hNN:200<=ZQ/\ZQ<=299)(R p g c:Nat)(L:List I3)(w:E)(hR:Rd w R p)(hp:p<=20000)(O:g<z (B w))(hN:∀j u,(i3L L)[j]?=T u->w.cell? (((Q g 0 Z):Addr).add j)=T u)(hn:A L<=ZQ)(x:L≠[])(hT:∀i∈L,i.2.1.length<=5000):Calls Pg 66 #[.pointer (T (Q R 0 Z)),ZJ #[Y (T (Q g 0 Z)) (A L) c]] w λe w'=>DP w R (p+1000) 0 (ZQ+1) e w':=by
 have A2:=(((BS w).alloc ly (N #[Y (T (Q g 0 Z)) (A L) c] 37)).alloc (by simp) (N #[Y Z 0 0] 37)).alloc (by simp;omega) (N #[] 124);have ZL:=ae (sC hR (Y (T (Q g 0 Z)) (A L) c));have N0:=ae (λ(j:Nat) (u:ZB) (hu:(i3L L)[j]?=T u)=>(A2.O (p:=((Q g 0 Z):Addr).add j) (by rw[gK];exact O)).k (hN j u hu));have HT:=ae hT;have hl:0<A L:=NW.2 x;clear A2 hR hN hT O;go_enter func66,ntmps66;go_wp2_with (at_builtin;refine gL rfl (.tmp 7) (.tmp 9) rfl (z (B w)+2) (z (B w)+2) 0 [] (by simp[Act.eval]) ZL.ir (Q g 0 Z) (A L) c L (by simp[Act.eval]) rfl x N0.i (by simp only[IS];omega) (by simp) ?_);intro g1 c1 W1 C ZT;have K:=ae (ZL.app0 (n':=ZQ) C ZT (by simp only[IS];omega) HT);rw[NS] at K;clear C ZT ZL N0 HT x;go_wp2_with fail;refine(ay R _ (A L:Int) _ K.st.rd (by omega) (by omega) (by omega)).P ?_;rintro e W2⟨ZV,rfl,z0,z1,hR,h⟩;obtain⟨k,rfl⟩:∃k:Nat,ZV=(k:Int):=⟨ZV.toNat,by omega⟩
 have ZM:=ae (K.ac h hR);have o:k<A L:=by omega
 have nz:¬ ((A L:Int)=0):=by omega
 clear h hR K;go_wp2_with fail;refine(ay R _ 7 _ ZM.st.rd (by omega) (by omega) (by omega)).P ?_;rintro e r⟨s,rfl,s0,s1,hR,h⟩;have f:=ae (ZM.ac h hR);clear h hR ZM;go_upto_block 0 with fail;go_cut [5] (λv wx=>∃(ZW D W:Nat) (G:List I3),v=Y (T (Q ZW 0 Z)) (A G) D/\W<=p+1000/\Hid (SC w R (z (B w)+1) wx W ZW D G (ZQ+1)));case rest =>
  clear f;obtain⟨ZW,D,W,G,rfl,hq,b⟩:=hcut;have ZS:=b.st.2.2.1;have zl:=ZS.lt;have d0:=ZS.c0;have d1:=ZS.fz 0;have fin:=ae (b.fin (Y (T (Q ZW 0 Z)) (A G) D));have ln:=b.len;clear ZS b;go_wp2;obtain⟨f1,f2,f3,f4,f5,f6⟩:=fin.i;try simp only[Exit.inBlock,Exit.then]
  refine bp (gN rfl _ _ (z (B w)+1) _ rfl f1) rfl ?_;exact⟨G,ZW,D,rfl,f2,by omega,by omega,f4,_,by omega,f5,f6⟩
 rcases(show s=0\/s=1\/s=2\/s=3\/s=6\/s=4\/s=5 by omega) with rfl|rfl|rfl|rfl|rfl|rfl|rfl;case' inl =>go_wp2_with fail;refine(ay R _ 18 _ f.st.rd (by omega) (by omega) (by omega)).P ?_;rintro e ZX⟨y,rfl,X,V,hR,h⟩;have b:=ae (f.ac h hR);have m:=ae (b.set3 (j:=0) o (by omega) (y - 1,(L.getD k (0,[],0)).2) (J I (y - 1)) rfl (b.H k o));clear h hR f
 case' inr.inl =>have b:=f;have m:=ae (b.set3 (j:=2) o (by omega) ((L.getD k (0,[],0)).1,(L.getD k (0,[],0)).2.1,(wrap64 ((cY L k).n+1))) (J I (wrap64 ((cY L k).n+1))) rfl (b.H k o));clear f
 case' inr.inr.inl =>
  have q:=ae (f.aa ((BS r).alloc ly (N #[J I (-1),J I 2000,J I 2001,J I 200,J I 201,J I 1000000007] 3)));have sz3:=q.st.lt;have V0:=ae (λj u=>kH r #[J I (-1),J I 2000,J I 2001,J I 200,J I 201,J I 1000000007] 3 _ j u rfl);have rl:=f.st.rd.lt;go_wp2_with fail;refine(ay R _ 6 _ q.st.rd (by omega) (by omega) (by omega)).P ?_;rintro e ZX⟨y,rfl,X,V,hR,h⟩;have b:=ae (q.ac h hR);have sz4:z (B r)<z (B ZX):=by have:=h.size;simp at this;omega
  obtain⟨j,u,rfl,cv⟩:∃(j:Nat) (u:Int),y=j/\ZX.cell? (Q (z (B r)) j Z)=T (J I u):=by have l:=λj u hu=>(h.O (z (B r)) j (by simp) (by omega)).k (V0 j u hu);rcases(show y=0\/y=1\/y=2\/y=3\/y=4\/y=5 by omega) with rfl|rfl|rfl|rfl|rfl|rfl;all_goals first|exact⟨0,_,rfl,l 0 _ rfl⟩|exact⟨1,_,rfl,l 1 _ rfl⟩|exact⟨2,_,rfl,l 2 _ rfl⟩|exact⟨3,_,rfl,l 3 _ rfl⟩|exact⟨4,_,rfl,l 4 _ rfl⟩|exact⟨5,_,rfl,l 5 _ rfl⟩
  have m:=ae (b.set3 (j:=2) o (by omega) ((L.getD k (0,[],0)).1,(L.getD k (0,[],0)).2.1,u) (J I u) rfl (b.H k o));clear h hR f q V0
 case' inr.inr.inr.inl =>
  go_wp2_with fail;refine(ay R _ 2 _ f.st.rd (by omega) (by omega) (by omega)).P ?_;rintro e ZX⟨y,rfl,X,V,hR,h⟩;have b:=ae (f.ac h hR);clear h hR f;go_wp2_with fail;obtain⟨m0,P⟩:∃m0:Nat,2000+y=(m0:Int):=⟨(2000+y).toNat,by omega⟩
  rw[P];refine(eP ⟨#[116]⟩ m0 _ (by show 1*m0<=4000;omega) (by omega)).P ?_;rintro e Wm⟨t,rfl,ht,hw⟩;rw[hw]
  have m:=ae (b.set3 (j:=1) o (by omega) ((L.getD k (0,[],0)).1,t.data.toList,(L.getD k (0,[],0)).2.2) (U t) rfl (by
   rw[RC]
   exact nX ht (by show 1*m0<=5000;omega)))
  clear ht P hw
 case' inr.inr.inr.inr.inl =>have b:=f;have m:=ae (b.set3 (j:=1) o (by omega) ((L.getD k (0,[],0)).1,[121],(L.getD k (0,[],0)).2.2) (U ⟨#[121]⟩) rfl (by simp));clear f
 case inr.inr.inr.inr.inr.inl =>
  have hc1:A L<=c1:=by
   rcases f.ir.2 with⟨l,_⟩|⟨_,_,_,l,_,_,h1,_⟩
   {simp at l};{simp only[IN] at l;omega}
  have b:=ae (f.take k (by omega));have lq:(L.take k).length=k:=by rw[OD];omega
  clear f;go_wp2;go_meet;exact⟨g1,c1,_,L.take k,by rw[lq],by omega,b.P (by omega)⟩
 case inr.inr.inr.inr.inr.inr =>
  have bd:=f.len;go_wp2;go_loopw [5] (λv wr=>∃(H c2 ZP:Nat) (M:List I3),v=Y (T (Q H 0 Z)) (A M) c2/\SC w R (z (B w)+1) wr ZP H c2 M (ZQ+1)/\ZP<=p+10+A M) (λv _=>ZQ+2 - (match v with|Y _ n _=>n|_=>0));case atStart=>exact⟨g1,c1,_,L,rfl,f.P (by omega),by omega⟩
  case round =>
   obtain⟨H,c2,ZP,M,rfl,ZO,hq⟩:=hrel;have ZN:=ae ZO;have ln:=ZO.len;clear ZO f;go_wp2_with fail;refine(ay R _ 2 _ ZN.st.rd (by omega) (by omega) (by omega)).P ?_;rintro e ZX⟨y,rfl,X,V,hR,h⟩;have b:=ae (ZN.ac h hR);clear h hR ZN;by_cases hlt:(A M:Int)<200+y;{go_wp2_with fail;refine(bq 9 _).P ?_;rintro e ZR⟨rfl,hB⟩;have m:=ae (b.aa hB);clear hB b;have S:=ae (m.aa ((BS ZR).alloc ly (N #[J I 9,U ⟨#[]⟩,J I 0] 124)));have zl:=m.st.lt;go_wp2_with (at_builtin;refine gL rfl (.tmp 81) (.tmp 83) rfl (z (B w)+2) H c2 M (by simp[Act.eval]) S.ir (Q (z (B ZR)) 0 Z) 1 1 [(9,[],0)] (by simp[Act.eval]) rfl (by simp) (eQ ZR #[J I 9,U ⟨#[]⟩,J I 0] _) (by simp only[vF,IS];omega) (by simp;omega) ?_);intro g3 c3 W6 C ZT;have C6:=ae (S.app0 (n':=ZQ+1) C ZT (by show (A M)+1<=ZQ+1;omega) (λi hi=>by rw[j4.1 hi];exact DW _));clear C ZT S m;go_wp2;exact⟨⟨g3,c3,_,M++[(9,[],0)],by simp,C6.i,by simp only[cM,vF,IS];omega⟩,by simp;omega⟩};{go_wp2;go_meet;exact⟨H,c2,_,M,rfl,by omega,b⟩}
 all_goals
  obtain⟨x0,x1,x2⟩:=b.ir.at k o;rw[IT] at x0 x1 x2;have fz0:=b.ir.fz (k*3);have fz1:=b.ir.fz (k*3+1);have fz2:=b.ir.fz (k*3+2);have gl:=b.ir.lt.2;clear b;go_wp2;go_meet;exact⟨g1,c1,_,_,by rw[NJ],by omega,m.P (by rw[NJ];omega)⟩
def tW (R p g c:Nat)(L:List I3)(w:E)(hR:Rd w R p)(l:p<=20000)(b:g<z (B w))(n:∀j u,(i3L L)[j]?=T u->w.cell? (((Q g 0 Z):Addr).add j)=T u)(hn:A L<=200)(f:L≠[])(h:∀i∈L,i.2.1.length<=5000):Calls Pg 66 #[.pointer (T (Q R 0 Z)),ZJ #[Y (T (Q g 0 Z)) (A L) c]] w λe m=>DP w R (p+1000) 0 201 e m:=
 lC 200 ⟨p7 _,by omega⟩ R p g c L w hR l b n hn f h
def xz (R p g c:Nat)(L:List I3)(w:E)(base:Nat)(hR:Rd w R p)(j:p<=20000)(f:IR w base g c L)(hn:A L<=200)(b:L≠[])(h:∀i∈L,i.2.1.length<=5000):Calls Pg 66 #[.pointer (T (Q R 0 Z)),ZJ #[Y (T (Q g 0 Z)) (A L) c]] w λe l=>DP w R (p+1000) 0 201 e l:=
 tW R p g c L w hR j f.lt.2 f.news hn b h
def vM (f:Nat->Ins)(n:Nat):List I3:=(List.range n).map λi=>((f i).op,(f i).s.data.toList,(f i).n)
def FD (f:Nat->Ins)(n:Nat):(vM f n).length=n:=by simp[vM]
def FF (f:Nat->Ins)(n:Nat):i3L (vM f n)=bZ f n:=by rw[i3L,vM,bZ,UW,UW];rfl
def nY (ZQ:Nat)(l:200<=ZQ/\ZQ<=299)(R p g c n:Nat)(f:Nat->Ins)(w:E)(hR:Rd w R p)(o:p<=20000)(m:Q_ w g 0 n f)(hn:1<=n/\n<=ZQ)(r:∀j,j<n->(f j).s.size<=5000):Calls Pg 66 #[.pointer (T (Q R 0 Z)),ZJ #[Y (T (Q g 0 Z)) n c]] w λe t=>DP w R (p+1000) 0 (ZQ+1) e t:=by
 have b:=FD f n
 have h:=lC ZQ l R p g c (vM f n) w hR o m.1 (by rw[FF];exact rz m) (by omega) (by intro e;rw[e] at b;simp at b;omega) (by
  intro i hi;obtain⟨j,q,rfl⟩:=NN.1 hi;have:=r j (E4.1 q)
  simpa using this)
 rw[b] at h;exact h
def xA (R p g c n:Nat)(f:Nat->Ins)(w:E)(hR:Rd w R p)(b:p<=20000)(h:Q_ w g 0 n f)(hn:1<=n/\n<=200)(i:∀j,j<n->(f j).s.size<=5000):Calls Pg 66 #[.pointer (T (Q R 0 Z)),ZJ #[Y (T (Q g 0 Z)) n c]] w λe l=>DP w R (p+1000) 0 201 e l:=
 nY 200 ⟨p7 _,by omega⟩ R p g c n f w hR b h hn i
def oE{w:E}{b:Nat}{s0 s1 i f g:F_}{t:TypeId}{fz:Nat × Nat}(h:w.heap[b]?=T (N #[U s0,U s1,U i,U f,U g] t fz))(k:Nat)(l:k<5):∃s,w.cell? (Q b k Z)=T (U s):=by
 match k,l with
 |0,_=>exact⟨s0,by simp[World.cell?,h]⟩
 |1,_=>exact⟨s1,by simp[World.cell?,h]⟩
 |2,_=>exact⟨i,by simp[World.cell?,h]⟩
 |3,_=>exact⟨f,by simp[World.cell?,h]⟩
 |4,_=>exact⟨g,by simp[World.cell?,h]⟩
 |j+5,h5=>exact absurd h5 (by omega)
section
variable {W:E}{rr xb base:Nat}{LS:List Source}{RR:List TR}
def SpX.setA{gt c1 n1 g c n c0:Nat}{f:Nat->Ins}{r0:TR}(h:SpX rr xb base W (Y a0 n0 c0) (Y (T (Q gt 0 Z)) n1 c1) LS (r0::RR))(ZT:n0=A LS)(ZV:n1=(r0::RR).length)(C:Q_ W g 0 n f)(H:Qz W g 124)(hb:base<=g)(hn:n<=300)(ZS:∀j,j<n->(f j).s.size<=5000)(G:A LS<=300)(h1:(r0::RR).length<=300)(ZR:GX (r0::RR)):HSp base (ZU W (Q gt 1 Z) (Y (T (Q g 0 Z)) n c)) a0 n0 (aV LS) (T (Q gt 0 Z)) n1 (aW ((((⟨r0.1.e,n,f⟩,T (Q g 0 Z),c):TO)::RR.map upO).map (·.1)))/\(ZU W (Q gt 1 Z) (Y (T (Q g 0 Z)) n c)).heap[xb]?=T (N #[Y a0 n0 c0,Y (T (Q gt 0 Z)) n1 c1] 29 (0,0))/\(ZU W (Q gt 1 Z) (Y (T (Q g 0 Z)) n c)).heap[rr]?=T (N #[Y Z 0 0,Y Z 0 0] 29 (0,0))/\Below base W (ZU W (Q gt 1 Z) (Y (T (Q g 0 Z)) n c)):=by
 have l:W.ownsRow base 95 2 (Y (T (Q gt 0 Z)) n1 c1) n1 ((r0::RR).flatMap aZ):=by have h2:=h.w.y;rw[<-ZV] at h2;exact h2
 have ZW:=(l.lt gt rfl).1;have x:Qz W gt 95:=h.w.type gt rfl;obtain⟨u,o⟩:=x;have far:∀(X:Nat) q,W.heap[X]?=T (N q 29 (0,0))->(ZU W (Q gt 1 Z) (Y (T (Q g 0 Z)) n c)).heap[X]?=T (N q 29 (0,0)):=by intro X q hX;refine(qh W (Q gt 1 Z) _ X ?_).k hX;intro e;have e:X=gt:=e;subst e;have:=hX.c.k o;cases this
 refine⟨?_,far _ _ h.ab,far _ _ h.res,(a8 base W).setCell (p:=(Q gt 1 Z)) ZW _⟩;refine yu (c1:=c1) (dJ h.src o (by decide) _) ZT ?_ (by rw[ZV];simp) G (by simpa using h1) ?_ ?_
 ·have h2:=gU l (j:=1) (Y (T (Q g 0 Z)) n c);have L:((r0::RR).flatMap aZ).set 1 (Y (T (Q g 0 Z)) n c)=(((⟨r0.1.e,n,f⟩,T (Q g 0 Z),c):TO)::RR.map upO).flatMap toV:=by rw[N9,N9,<-pE];rfl
  rw[L] at h2;exact h2
 ·intro r b
  have i:∀k,Qz W k 124->(ZU W (Q gt 1 Z) (Y (T (Q g 0 Z)) n c)).heap[k]?=W.heap[k]?:=λk ZX=>qh W (Q gt 1 Z) _ k (by
   intro t;have t:k=gt:=t;rw[t] at ZX
   exact fc ZX (⟨u,o⟩:Qz W gt 95) (by decide) rfl)
  rcases vG.1 b with rfl|b;{exact⟨g,rfl,hb,C.p (by simp) (i g H)⟩};{obtain⟨y,m,rfl⟩:=NN.1 b;obtain⟨K,_,M,D⟩:=h.w.u y (mq _ m);exact⟨y.2.1,rfl,D,K.p (by simp) (i _ M)⟩}
 {intro r b;rcases vG.1 b with rfl|b;{exact⟨hn,ZS⟩};{obtain⟨y,m,rfl⟩:=NN.1 b;exact ZR y (mq _ m)}}
end
structure Sw (rr xb base:Nat)(W:E)(v0:ZB)(gt n1 c1:Nat)(LS:List Source)(RT:List TR)(xs:List ZB):Prop where
 res:W.heap[rr]?=T (N #[Y Z 0 0,Y Z 0 0] 29 (0,0))
 ab:W.heap[xb]?=T (N #[v0,Y (T (Q gt 0 Z)) n1 c1] 29 (0,0))
 src:W.ownsRow base 91 2 v0 (A LS) (LS.flatMap bF)
 y:W.ownsRow base 95 2 (Y (T (Q gt 0 Z)) n1 c1) n1 xs
 u:∀r∈RT,Q_ W r.2.1 0 r.1.h r.1.u/\(∃F,Cells W r.2.1 0 (r.1.h*3) F)/\Qz W r.2.1 124/\base<=r.2.1
section
variable {W W':E}{rr xb base gt n1 c1:Nat}{v0:ZB}{LS:List Source}{RT:List TR}{xs:List ZB}
def SpX.sw (h:SpX rr xb base W v0 (Y (T (Q gt 0 Z)) n1 c1) LS RT)(b:n1=A RT):Sw rr xb base W v0 gt n1 c1 LS RT (RT.flatMap aZ):=
 ⟨h.res,h.ab,h.src,by have h2:=h.w.y;rw[<-b] at h2;exact h2,h.w.u⟩
def Sw.set (h:Sw rr xb base W v0 gt n1 c1 LS RT xs)(j:Nat)(u:ZB):Sw rr xb base (ZU W (Q gt j Z) u) v0 gt n1 c1 LS RT (xs.set j u):=by
 have i:Qz W gt 95:=eo h.y gt rfl;obtain⟨g,b⟩:=i;have far:∀(X:Nat) f,W.heap[X]?=T (N f 29 (0,0))->(ZU W (Q gt j Z) u).heap[X]?=T (N f 29 (0,0)):=by intro X f hX;refine(qh W (Q gt j Z) _ X ?_).k hX;intro e;have e:X=gt:=e;subst e;have:=hX.c.k b;cases this
 exact⟨far _ _ h.res,far _ _ h.ab,dJ h.src b (by decide) u,gU h.y u,FC h.u ⟨g,b⟩ u⟩
def Sw.drew (h:Sw rr xb base W v0 gt n1 c1 LS RT xs):Sw rr xb base W.drew v0 gt n1 c1 LS RT xs:=
 ⟨h.res,h.ab,J_ h.src br.drew ly,J_ h.y br.drew ly,λr j=>by
  obtain⟨f,⟨F,g⟩,b,i⟩:=h.u r j
  exact⟨f.p ly rfl,⟨F,g.p ly rfl⟩,b.p rfl,i⟩⟩
def Sw.fin{c0:Nat}(h:Sw rr xb base W (Y a0 n0 c0) gt n1 c1 LS RT xs)(l:n0=A LS){L:List TR}(o:xs=(L.map upO).flatMap toV)(n:n1=A L)(m:A LS<=300)(h1:A L<=300)(hL:∀r∈L,r∈RT)(g:GX RT):HSp base W a0 n0 (aV LS) (T (Q gt 0 Z)) n1 (aW ((L.map upO).map (·.1))):=by
 subst o;refine yu (c1:=c1) h.src l h.y (by rw[n];simp) m (by simpa using h1) (λr f=>?_) λr f=>?_;{obtain⟨y,b,rfl⟩:=NN.1 f;obtain⟨i,_,q3,j⟩:=h.u y (hL y b);exact⟨y.2.1,rfl,j,i⟩};{obtain⟨y,b,rfl⟩:=NN.1 f;exact g y (hL y b)}
end
def Cw (R p:Nat)(m:Int)(w:E)(hR:Rd w R p)(hp:(p:Int)<=100000)(hm:m<1):Calls Pg 25 #[.pointer (T (Q R 0 Z)),J I m] w λe b=>e=.returned (J I 0)/\Rd b R (p+1)/\zd R w b:=by have hst:=ae hR.step;have f:Hid (zd R w (ZU w (Q R 1 Z) (J I ((p:Int)+1)))):=ce (zd.refl R w) 1 _;obtain⟨a,n,j_,hl,hn,h0,⟨h1,h2⟩,g⟩:=hR;clear g;go_enter func25,ntmps25;go_wp2;go_ret;exact⟨rfl,hst,f⟩
def xB (R p g c:Nat)(w:E)(hR:Rd w R p)(hp:p<=20000):Calls Pg 66 #[.pointer (T (Q R 0 Z)),ZJ #[Y (T (Q g 0 Z)) 0 c]] w λe ZT=>DP w R (p+1000) 0 201 e ZT:=by
 have m:=ae (sC hR (Y (T (Q g 0 Z)) 0 c));obtain⟨G,hi,ZV,t,r⟩:=pj;clear hR;go_enter func66,ntmps66;go_wp2_with (at_builtin;refine DN _ rfl (.tmp 7) (.tmp 9) 35 rfl (z (B w)+2) 124 G (ZJ #[J I 0,U ⟨#[]⟩,J I 0]) 3 32 QE hi ZV t r rfl (by decide) (Y (T (Q (z (B w)+2) 0 Z)) 0 0) 0 [] (by simp[Act.eval]) m.ir (Q g 0 Z) 0 c [] (by simp[Act.eval]) rfl (λj u n=>by simp at n) (λu n=>by simp at n) (by unfold maxLen;omega) (by omega) (by simp) ?_);intro q ZX b y f;replace b:ZX.ownsRow (z (B w)+2) 124 3 q 0 []:=b
 obtain⟨o,c1,rfl⟩:∃g c,q=Y (T (Q g 0 Z)) 0 c:=(by
  rcases b.2 with⟨rfl,_⟩|⟨g,c,cur,rfl,_⟩
  {exact(f rfl).elim}
  ·exact⟨g,c,rfl⟩)
 have ZW:IR ZX (z (B w)+2) o c1 []:=b;have l:=ae (m.app0 (M:=[]) (n':=200) ZW y (by simp) (λi hi=>by simp at hi));rw[NS] at l;clear ZW y m b f;go_wp2_with fail;refine(Cw R _ 0 _ l.st.1 (by omega) (by omega)).P ?_;rintro e W2⟨rfl,hR,s⟩;have x:=ae (l.ac s hR);clear s hR l;have h:=x.st.2.2.1;have zl:=h.lt;have d0:=h.c0;have d1:=h.fz 0;have fin:=ae (x.fin (Y (T (Q o 0 Z)) 0 c1));clear h;go_wp2;obtain⟨f1,D,f3,ZS,C,H⟩:=fin.i;try simp only[Exit.inBlock,Exit.then]
 refine bp (gN rfl _ _ (z (B w)+1) _ rfl f1) rfl ?_;exact⟨[],o,c1,rfl,D,by omega,by simp,ZS,_,by omega,C,H⟩
def pF (R p:Nat)(w:E)(hR:Rd w R p)(hp:p<=10000):Calls Pg 36 #[.pointer (T (Q R 0 Z))] w λe w'=>DP w R (p+1700) 0 201 e w':=by
 have HR:=ae hR;have s:=hR.lt;clear hR;go_enter func36,ntmps36;go_wp2_with fail;obtain⟨x,l⟩:∃W:E,w.alloc (N #[Y Z 0 0] 37)=W:=⟨_,rfl⟩
 obtain⟨ZS,-,hz0⟩:=nb1 l;have i:=ae l;clear l;have ZQ:Hid (PB x (z (B w)) (Y Z 0 0)):=by rw[<-i.i];exact gM w _
 rw[i.i];clear i;have K:Hid (zd R w x):=zd.q ZS;refine(fZ R p _ (HR.aa ZS ly) (by omega)).P ?_;rintro e n⟨L,g,c,rfl,u,hlo,hL,S,q,hq,hR,b⟩;have hs2:=b.size;obtain⟨W3,h⟩:∃W:E,n.alloc (N #[Y (T (Q g 0 Z)) (A L) c] 37)=W:=⟨_,rfl⟩
 obtain⟨f,-,-⟩:=nb1 h;replace f:=f.i;have m:=ae h;clear h;have P:=ae (hR.aa f ly);have I3:=ae (u.aa f ly);have H:=ae (PB.aa ((b.p (z (B w)) (by omega) (by omega)).k ZQ:PB n (z (B w)) (Y Z 0 0)) f (by omega));have ZL:=ae ((K.k b).then (f.P (by omega)));have ZR:Hid (PB W3 (z (B n)) (Y (T (Q g 0 Z)) (A L) c)):=by rw[<-m.i];exact gM n _
 have X:=ae S;clear u hR b f ZS ZQ K S;go_wp2_with fail;rw[m.i];clear m;refine(ay R _ 6 _ P (by omega) (by omega) (by omega)).P ?_;rintro e ZX⟨ZV,rfl,zz0,zz1,hR,b⟩;have ZO:=ae hR;have ZM:=ae (I3.ac b (by omega));have o:Hid (PB ZX (z (B w)) (Y Z 0 0)):=(b.p (z (B w)) H.lt (by omega)).k H;have V:Hid (PB ZX (z (B n)) (Y (T (Q g 0 Z)) (A L) c)):=(b.p (z (B n)) ZR.lt (by omega)).k ZR;have O:=ae (ZL.k b);clear hR b P I3 H ZR ZL;have q0:=V.c0;have ql:=V.lt;by_cases hz:ZV=0
 ·subst hz;go_wp2_with fail;refine(xz R (q+1) g c L _ (z (B x)) ZO (by omega) ZM (by omega) (NW.1 (by omega)) X).P ?_;rintro e ZN⟨M,y,c5,rfl,u,hlo5,ZP,ZW,q5,hq5,hR,b⟩;have r:PB ZN (z (B w)) (Y Z 0 0):=(b.p (z (B w)) o.lt (by omega)).k o;have d0:=r.c0;have d1:=r.fz 0;have zl:=r.lt;have G:=ae (aE (aH (aE u (show (z (B w))+1<=z (B ZX) by omega)) (show (z (B w))<z (B w)+1 by omega) (j:=0) (Y (T (Q y 0 Z)) (A M) c5)) (show (z (B w))<=z (B w)+1 by omega));have ZT:=ae (r.set (Y (T (Q y 0 Z)) (A M) c5));have t:=ae ((a8 (z (B w)) ZN).setCell (p:=(Q (z (B w)) 0 Z)) ly (Y (T (Q y 0 Z)) (A M) c5));have D:=ae (hR.low t s);have C:=ae ((O.k b).then t);have aq:=ae ZW;clear u hR b r ZW;go_wp2;try simp only[Exit.inBlock,Exit.then]
  refine bp (gN rfl _ _ (z (B w)) _ rfl ZT) rfl ?_;exact⟨M,y,c5,rfl,G,DW _,ZP,aq,q5,by omega,D,C⟩
 ·have d0:=o.c0;have d1:=o.fz 0;have zl:=o.lt;have G:=ae (aE (aH (aE ZM (show (z (B w))+1<=z (B x) by omega)) (show (z (B w))<z (B w)+1 by omega) (j:=0) (Y (T (Q g 0 Z)) (A L) c)) (show (z (B w))<=z (B w)+1 by omega));have ZT:=ae (o.set (Y (T (Q g 0 Z)) (A L) c));have t:=ae ((a8 (z (B w)) ZX).setCell (p:=(Q (z (B w)) 0 Z)) ly (Y (T (Q g 0 Z)) (A L) c));have D:=ae (ZO.low t s);have C:=ae (O.then t);go_wp2;try simp only[Exit.inBlock,Exit.then]
  refine bp (gN rfl _ _ (z (B w)) _ rfl ZT) rfl ?_;exact⟨L,g,c,rfl,G,DW _,by omega,X,_,by omega,D,C⟩
