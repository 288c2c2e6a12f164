import Derived.Test.YtcnilonhfpimnaaGreatDoorEA
import Derived.Deep.CutBlock
set_option linter.all false
set_option maxRecDepth 100000
set_option maxHeartbeats 4000000
open Go renaming Addr.mk->T,Value.slice->Y,Value.string->U,Value.int->J,Value.agg->ZJ,Obj.cells->N,IntKind.i64->I,World->E,Value->ZB,World.heap->B,World.setCell->ZU,Proofs.Tryz.prog->Pg,Calls->Qw
open Option renaming none->Z,some->Q
open Array renaming size->z
open List renaming length->A
namespace Go.Proofs.YtcnilonhfpimnaaGreatDoor.Vp
open Tryz RowKit
variable {n0:Nat}{a0:O_}
def lC (ZQ:Nat)(hNN:200<=ZQ/\ZQ<=299)(R p g c:Nat)(L:List I3)(w:E)(hR:Rd w R p)(hp:p<=20000)(O:g<z (B w))(hN:∀j u,(i3L L)[j]?=Q u->w.cell? (((T g 0 Z):Addr).add j)=Q u)(hn:A L<=ZQ)(ZW:L≠[])(hT:∀i∈L,i.2.1.length<=5000):Qw Pg 51 #[.pointer (Q (T R 0 Z)),ZJ #[Y (Q (T g 0 Z)) (A L) c]] w λe w'=>DP w R (p+1000) 0 (ZQ+1) e w':=by
 have A2:=(((BS w).alloc ly (N #[Y (Q (T g 0 Z)) (A L) c] 37)).alloc (by simp) (N #[Y Z 0 0] 37)).alloc (by simp;omega) (N #[] 102);have W:=ae (sC hR (Y (Q (T g 0 Z)) (A L) c));have N0:=ae (λ(j:Nat) (u:ZB) (ZL:(i3L L)[j]?=Q u)=>(A2.O (p:=((T g 0 Z):Addr).add j) (by rw[gK];exact O)).k (hN j u ZL));have HT:=ae hT;have hl:0<A L:=NV.2 ZW;clear A2 hR hN hT O;go_enter func51,ntmps51;go_wp2_with (at_builtin;refine gL rfl (.tmp 7) (.tmp 9) rfl (z (B w)+2) (z (B w)+2) 0 [] (by simp[Act.eval]) W.ir (T g 0 Z) (A L) c L (by simp[Act.eval]) rfl ZW N0.i (by simp only[IS];omega) (by simp) ?_);intro ZM c1 W1 x C;have K:=ae (W.app0 (n':=ZQ) x C (by simp only[IS];omega) HT);rw[NR] at K;clear x C W N0 HT ZW;go_wp2_with fail;refine(ay R _ (A L:Int) _ K.st.rd (by omega) (by omega) (by omega)).P ?_;rintro e W2⟨ZV,rfl,z0,z1,hR,h⟩;obtain⟨k,rfl⟩:∃k:Nat,ZV=(k:Int):=⟨ZV.toNat,by omega⟩
 have S:=ae (K.ac h hR);have m:k<A L:=by omega
 have nz:¬ ((A L:Int)=0):=by omega
 clear h hR K;go_wp2_with fail;refine(ay R _ 7 _ S.st.rd (by omega) (by omega) (by omega)).P ?_;rintro e r⟨s,rfl,s0,s1,hR,h⟩;have f:=ae (S.ac h hR);clear h hR S;go_upto_block 0 with fail;go_cut [5] (λv wx=>∃(ZX G V:Nat) (D:List I3),v=Y (Q (T ZX 0 Z)) (A D) G/\V<=p+1000/\Hid (SC w R (z (B w)+1) wx V ZX G D (ZQ+1)));case rest =>
  clear f;obtain⟨ZX,G,V,D,rfl,hq,b⟩:=hcut;have ZS:=b.st.2.2.1;have zl:=ZS.lt;have d0:=ZS.c0;have d1:=ZS.fz 0;have fin:=ae (b.fin (Y (Q (T ZX 0 Z)) (A D) G));have ln:=b.len;clear ZS b;go_wp2;obtain⟨f1,f2,f3,f4,f5,f6⟩:=fin.i;try simp only[Exit.inBlock,Exit.then]
  refine bp (gN rfl _ _ (z (B w)+1) _ rfl f1) rfl ?_;exact⟨D,ZX,G,rfl,f2,by omega,by omega,f4,_,by omega,f5,f6⟩
 rcases(show s=0\/s=1\/s=2\/s=3\/s=6\/s=4\/s=5 by omega) with rfl|rfl|rfl|rfl|rfl|rfl|rfl;case' inl =>go_wp2_with fail;refine(ay R _ 18 _ f.st.rd (by omega) (by omega) (by omega)).P ?_;rintro e ZT⟨y,rfl,y0,ZP,hR,h⟩;have b:=ae (f.ac h hR);have o:=ae (b.set3 (j:=0) m (by omega) (y - 1,(L.getD k (0,[],0)).2) (J I (y - 1)) rfl (b.H k m));clear h hR f
 case' inr.inl =>have b:=f;have o:=ae (b.set3 (j:=2) m (by omega) ((L.getD k (0,[],0)).1,(L.getD k (0,[],0)).2.1,(wrap64 ((cY L k).n+1))) (J I (wrap64 ((cY L k).n+1))) rfl (b.H k m));clear f
 case' inr.inr.inl =>
  have q:=ae (f.aa ((BS r).alloc ly (N #[J I (-1),J I 2000,J I 2001,J I 200,J I 201,J I 1000000007] 3)));have sz3:=q.st.lt;have V0:=ae (λj u=>kH r #[J I (-1),J I 2000,J I 2001,J I 200,J I 201,J I 1000000007] 3 _ j u rfl);have rl:=f.st.rd.lt;go_wp2_with fail;refine(ay R _ 6 _ q.st.rd (by omega) (by omega) (by omega)).P ?_;rintro e ZT⟨y,rfl,y0,ZP,hR,h⟩;have b:=ae (q.ac h hR);have sz4:z (B r)<z (B ZT):=by have:=h.size;simp at this;omega
  obtain⟨j,u,rfl,cv⟩:∃(j:Nat) (u:Int),y=j/\ZT.cell? (T (z (B r)) j Z)=Q (J I u):=by have l:=λj u ZL=>(h.O (z (B r)) j (by simp) (by omega)).k (V0 j u ZL);rcases(show y=0\/y=1\/y=2\/y=3\/y=4\/y=5 by omega) with rfl|rfl|rfl|rfl|rfl|rfl;all_goals first|exact⟨0,_,rfl,l 0 _ rfl⟩|exact⟨1,_,rfl,l 1 _ rfl⟩|exact⟨2,_,rfl,l 2 _ rfl⟩|exact⟨3,_,rfl,l 3 _ rfl⟩|exact⟨4,_,rfl,l 4 _ rfl⟩|exact⟨5,_,rfl,l 5 _ rfl⟩
  have o:=ae (b.set3 (j:=2) m (by omega) ((L.getD k (0,[],0)).1,(L.getD k (0,[],0)).2.1,u) (J I u) rfl (b.H k m));clear h hR f q V0
 case' inr.inr.inr.inl =>
  go_wp2_with fail;refine(ay R _ 2 _ f.st.rd (by omega) (by omega) (by omega)).P ?_;rintro e ZT⟨y,rfl,y0,ZP,hR,h⟩;have b:=ae (f.ac h hR);clear h hR f;go_wp2_with fail;obtain⟨m0,P⟩:∃m0:Nat,2000+y=(m0:Int):=⟨(2000+y).toNat,by omega⟩
  rw[P];refine(eP ⟨#[116]⟩ m0 _ (by show 1*m0<=4000;omega) (by omega)).P ?_;rintro e Wm⟨t,rfl,ht,hw⟩;rw[hw]
  have o:=ae (b.set3 (j:=1) m (by omega) ((L.getD k (0,[],0)).1,t.data.toList,(L.getD k (0,[],0)).2.2) (U t) rfl (by
   rw[Q9]
   exact nX ht (by show 1*m0<=5000;omega)))
  clear ht P hw
 case' inr.inr.inr.inr.inl =>have b:=f;have o:=ae (b.set3 (j:=1) m (by omega) ((L.getD k (0,[],0)).1,[121],(L.getD k (0,[],0)).2.2) (U ⟨#[121]⟩) rfl (by simp));clear f
 case inr.inr.inr.inr.inr.inl =>
  have hc1:A L<=c1:=by
   rcases f.ir.2 with⟨l,_⟩|⟨_,_,_,l,_,_,h1,_⟩
   {simp at l};{simp only[IN] at l;omega}
  have b:=ae (f.take k (by omega));have lq:(L.take k).length=k:=by rw[N9];omega
  clear f;go_wp2;go_meet;exact⟨ZM,c1,_,L.take k,by rw[lq],by omega,b.P (by omega)⟩
 case inr.inr.inr.inr.inr.inr =>
  have bd:=f.len;go_wp2;go_loopw [5] (λv wr=>∃(H c2 ZN:Nat) (M:List I3),v=Y (Q (T H 0 Z)) (A M) c2/\SC w R (z (B w)+1) wr ZN H c2 M (ZQ+1)/\ZN<=p+10+A M) (λv _=>ZQ+2 - (match v with|Y _ n _=>n|_=>0));case atStart=>exact⟨ZM,c1,_,L,rfl,f.P (by omega),by omega⟩
  case round =>
   obtain⟨H,c2,ZN,M,rfl,ZO,hq⟩:=hrel;have CC:=ae ZO;have ln:=ZO.len;clear ZO f;go_wp2_with fail;refine(ay R _ 2 _ CC.st.rd (by omega) (by omega) (by omega)).P ?_;rintro e ZT⟨y,rfl,y0,ZP,hR,h⟩;have b:=ae (CC.ac h hR);clear h hR CC;by_cases hlt:(A M:Int)<200+y;{go_wp2_with fail;refine(bq 9 _).P ?_;rintro e ZR⟨rfl,hB⟩;have o:=ae (b.aa hB);clear hB b;have X:=ae (o.aa ((BS ZR).alloc ly (N #[J I 9,U ⟨#[]⟩,J I 0] 102)));have zl:=o.st.lt;go_wp2_with (at_builtin;refine gL rfl (.tmp 81) (.tmp 83) rfl (z (B w)+2) H c2 M (by simp[Act.eval]) X.ir (T (z (B ZR)) 0 Z) 1 1 [(9,[],0)] (by simp[Act.eval]) rfl (by simp) (eQ ZR #[J I 9,U ⟨#[]⟩,J I 0] _) (by simp only[vF,IS];omega) (by simp;omega) ?_);intro g3 c3 W6 x C;have C6:=ae (X.app0 (n':=ZQ+1) x C (by show (A M)+1<=ZQ+1;omega) (λi hi=>by rw[j4.1 hi];exact DW _));clear x C X o;go_wp2;exact⟨⟨g3,c3,_,M++[(9,[],0)],by simp,C6.i,by simp only[cM,vF,IS];omega⟩,by simp;omega⟩};{go_wp2;go_meet;exact⟨H,c2,_,M,rfl,by omega,b⟩}
 all_goals
  obtain⟨x0,x1,x2⟩:=b.ir.at k m;rw[IT] at x0 x1 x2;have fz0:=b.ir.fz (k*3);have fz1:=b.ir.fz (k*3+1);have fz2:=b.ir.fz (k*3+2);have gl:=b.ir.lt.2;clear b;go_wp2;go_meet;exact⟨ZM,c1,_,_,by rw[NI],by omega,o.P (by rw[NI];omega)⟩
def tW (R p g c:Nat)(L:List I3)(w:E)(hR:Rd w R p)(h:p<=20000)(b:g<z (B w))(l:∀j u,(i3L L)[j]?=Q u->w.cell? (((T g 0 Z):Addr).add j)=Q u)(hn:A L<=200)(f:L≠[])(m:∀i∈L,i.2.1.length<=5000):Qw Pg 51 #[.pointer (Q (T R 0 Z)),ZJ #[Y (Q (T g 0 Z)) (A L) c]] w λe n=>DP w R (p+1000) 0 201 e n:=
 lC 200 ⟨p7 _,by omega⟩ R p g c L w hR h b l hn f m
def xz (R p g c:Nat)(L:List I3)(w:E)(base:Nat)(hR:Rd w R p)(h:p<=20000)(b:IR w base g c L)(hn:A L<=200)(f:L≠[])(j:∀i∈L,i.2.1.length<=5000):Qw Pg 51 #[.pointer (Q (T R 0 Z)),ZJ #[Y (Q (T g 0 Z)) (A L) c]] w λe l=>DP w R (p+1000) 0 201 e l:=
 tW R p g c L w hR h b.lt.2 b.news hn f j
def vM (f:Nat->Ins)(n:Nat):List I3:=(List.range n).map λi=>((f i).op,(f i).s.data.toList,(f i).n)
def FD (f:Nat->Ins)(n:Nat):(vM f n).length=n:=by simp[vM]
def FF (f:Nat->Ins)(n:Nat):i3L (vM f n)=bZ f n:=by rw[i3L,vM,bZ,UW,UW];rfl
def nY (ZQ:Nat)(m:200<=ZQ/\ZQ<=299)(R p g c n:Nat)(f:Nat->Ins)(w:E)(hR:Rd w R p)(r:p<=20000)(l:Q_ w g 0 n f)(hn:1<=n/\n<=ZQ)(t:∀j,j<n->(f j).s.size<=5000):Qw Pg 51 #[.pointer (Q (T R 0 Z)),ZJ #[Y (Q (T g 0 Z)) n c]] w λe q=>DP w R (p+1000) 0 (ZQ+1) e q:=by
 have b:=FD f n
 have h:=lC ZQ m R p g c (vM f n) w hR r l.1 (by rw[FF];exact rz l) (by omega) (by intro e;rw[e] at b;simp at b;omega) (by
  intro i hi;obtain⟨j,o,rfl⟩:=NM.1 hi;have:=t j (E4.1 o)
  simpa using this)
 rw[b] at h;exact h
def xA (R p g c n:Nat)(f:Nat->Ins)(w:E)(hR:Rd w R p)(h:p<=20000)(b:Q_ w g 0 n f)(hn:1<=n/\n<=200)(i:∀j,j<n->(f j).s.size<=5000):Qw Pg 51 #[.pointer (Q (T R 0 Z)),ZJ #[Y (Q (T g 0 Z)) n c]] w λe l=>DP w R (p+1000) 0 201 e l:=
 nY 200 ⟨p7 _,by omega⟩ R p g c n f w hR h b hn i
def oE{w:E}{b:Nat}{s0 s1 g i f:F_}{t:TypeId}{fz:Nat × Nat}(h:w.heap[b]?=Q (N #[U s0,U s1,U g,U i,U f] t fz))(k:Nat)(l:k<5):∃s,w.cell? (T b k Z)=Q (U s):=by
 match k,l with
 |0,_=>exact⟨s0,by simp[World.cell?,h]⟩
 |1,_=>exact⟨s1,by simp[World.cell?,h]⟩
 |2,_=>exact⟨g,by simp[World.cell?,h]⟩
 |3,_=>exact⟨i,by simp[World.cell?,h]⟩
 |4,_=>exact⟨f,by simp[World.cell?,h]⟩
 |j+5,h5=>exact absurd h5 (by omega)
section
variable {W:E}{rr xb base:Nat}{LS:List Source}{RR:List TR}
def SpX.setA{gt c1 n1 g c n c0:Nat}{f:Nat->Ins}{r0:TR}(h:SpX rr xb base W (Y a0 n0 c0) (Y (Q (T gt 0 Z)) n1 c1) LS (r0::RR))(ZS:n0=A LS)(ZX:n1=(r0::RR).length)(D:Q_ W g 0 n f)(ZT:Qz W g 102)(hb:base<=g)(hn:n<=300)(M:∀j,j<n->(f j).s.size<=5000)(L:A LS<=300)(h1:(r0::RR).length<=300)(H:GX (r0::RR)):HSp base (ZU W (T gt 1 Z) (Y (Q (T g 0 Z)) n c)) a0 n0 (aV LS) (Q (T gt 0 Z)) n1 (aW ((((⟨r0.1.e,n,f⟩,Q (T g 0 Z),c):TO)::RR.map upO).map (·.1)))/\(ZU W (T gt 1 Z) (Y (Q (T g 0 Z)) n c)).heap[xb]?=Q (N #[Y a0 n0 c0,Y (Q (T gt 0 Z)) n1 c1] 29 (0,0))/\(ZU W (T gt 1 Z) (Y (Q (T g 0 Z)) n c)).heap[rr]?=Q (N #[Y Z 0 0,Y Z 0 0] 29 (0,0))/\Below base W (ZU W (T gt 1 Z) (Y (Q (T g 0 Z)) n c)):=by
 have l:W.ownsRow base 86 2 (Y (Q (T gt 0 Z)) n1 c1) n1 ((r0::RR).flatMap aZ):=by have h2:=h.w.u;rw[<-ZX] at h2;exact h2
 have ZW:=(l.lt gt rfl).1;have x:Qz W gt 86:=h.w.type gt rfl;obtain⟨u,t⟩:=x;have far:∀(X:Nat) o,W.heap[X]?=Q (N o 29 (0,0))->(ZU W (T gt 1 Z) (Y (Q (T g 0 Z)) n c)).heap[X]?=Q (N o 29 (0,0)):=by intro X o hX;refine(qh W (T gt 1 Z) _ X ?_).k hX;intro e;have e:X=gt:=e;subst e;have:=hX.c.k t;cases this
 refine⟨?_,far _ _ h.ab,far _ _ h.res,(a8 base W).setCell (p:=(T gt 1 Z)) ZW _⟩;refine yu (c1:=c1) (dJ h.src t (by decide) _) ZS ?_ (by rw[ZX];simp) L (by simpa using h1) ?_ ?_
 ·have h2:=gU l (j:=1) (Y (Q (T g 0 Z)) n c);have K:((r0::RR).flatMap aZ).set 1 (Y (Q (T g 0 Z)) n c)=(((⟨r0.1.e,n,f⟩,Q (T g 0 Z),c):TO)::RR.map upO).flatMap toV:=by rw[NZ,NZ,<-pE];rfl
  rw[K] at h2;exact h2
 ·intro r b
  have i:∀k,Qz W k 102->(ZU W (T gt 1 Z) (Y (Q (T g 0 Z)) n c)).heap[k]?=W.heap[k]?:=λk ZV=>qh W (T gt 1 Z) _ k (by
   intro m;have m:k=gt:=m;rw[m] at ZV
   exact fc ZV (⟨u,t⟩:Qz W gt 86) (by decide) rfl)
  rcases vG.1 b with rfl|b;{exact⟨g,rfl,hb,D.p (by simp) (i g ZT)⟩};{obtain⟨y,q,rfl⟩:=NM.1 b;obtain⟨ZR,_,C,G⟩:=h.w.q y (mq _ q);exact⟨y.2.1,rfl,G,ZR.p (by simp) (i _ C)⟩}
 {intro r b;rcases vG.1 b with rfl|b;{exact⟨hn,M⟩};{obtain⟨y,q,rfl⟩:=NM.1 b;exact H y (mq _ q)}}
end
structure Sw (rr xb base:Nat)(W:E)(v0:ZB)(gt n1 c1:Nat)(LS:List Source)(RT:List TR)(xs:List ZB):Prop where
 res:W.heap[rr]?=Q (N #[Y Z 0 0,Y Z 0 0] 29 (0,0))
 ab:W.heap[xb]?=Q (N #[v0,Y (Q (T gt 0 Z)) n1 c1] 29 (0,0))
 src:W.ownsRow base 82 2 v0 (A LS) (LS.flatMap bF)
 u:W.ownsRow base 86 2 (Y (Q (T gt 0 Z)) n1 c1) n1 xs
 q:∀r∈RT,Q_ W r.2.1 0 r.1.h r.1.q/\(∃F,Cells W r.2.1 0 (r.1.h*3) F)/\Qz W r.2.1 102/\base<=r.2.1
section
variable {W W':E}{rr xb base gt n1 c1:Nat}{v0:ZB}{LS:List Source}{RT:List TR}{xs:List ZB}
def SpX.sw (h:SpX rr xb base W v0 (Y (Q (T gt 0 Z)) n1 c1) LS RT)(b:n1=A RT):Sw rr xb base W v0 gt n1 c1 LS RT (RT.flatMap aZ):=
 ⟨h.res,h.ab,h.src,by have h2:=h.w.u;rw[<-b] at h2;exact h2,h.w.q⟩
def Sw.set (h:Sw rr xb base W v0 gt n1 c1 LS RT xs)(j:Nat)(u:ZB):Sw rr xb base (ZU W (T gt j Z) u) v0 gt n1 c1 LS RT (xs.set j u):=by
 have i:Qz W gt 86:=eo h.u gt rfl;obtain⟨g,f⟩:=i;have far:∀(X:Nat) b,W.heap[X]?=Q (N b 29 (0,0))->(ZU W (T gt j Z) u).heap[X]?=Q (N b 29 (0,0)):=by intro X b hX;refine(qh W (T gt j Z) _ X ?_).k hX;intro e;have e:X=gt:=e;subst e;have:=hX.c.k f;cases this
 exact⟨far _ _ h.res,far _ _ h.ab,dJ h.src f (by decide) u,gU h.u u,FC h.q ⟨g,f⟩ u⟩
def Sw.drew (h:Sw rr xb base W v0 gt n1 c1 LS RT xs):Sw rr xb base W.drew v0 gt n1 c1 LS RT xs:=
 ⟨h.res,h.ab,J_ h.src br.drew ly,J_ h.u br.drew ly,λr i=>by
  obtain⟨g,⟨F,f⟩,b,j⟩:=h.q r i
  exact⟨g.p ly rfl,⟨F,f.p ly rfl⟩,b.p rfl,j⟩⟩
def Sw.fin{c0:Nat}(h:Sw rr xb base W (Y a0 n0 c0) gt n1 c1 LS RT xs)(m:n0=A LS){L:List TR}(i:xs=(L.map upO).flatMap toV)(g:n1=A L)(o:A LS<=300)(h1:A L<=300)(hL:∀r∈L,r∈RT)(l:GX RT):HSp base W a0 n0 (aV LS) (Q (T gt 0 Z)) n1 (aW ((L.map upO).map (·.1))):=by
 subst i;refine yu (c1:=c1) h.src m h.u (by rw[g];simp) o (by simpa using h1) (λr b=>?_) λr b=>?_;{obtain⟨y,f,rfl⟩:=NM.1 b;obtain⟨n,_,q3,j⟩:=h.q y (hL y f);exact⟨y.2.1,rfl,j,n⟩};{obtain⟨y,f,rfl⟩:=NM.1 b;exact l y (hL y f)}
end
def Cw (R p:Nat)(m:Int)(w:E)(hR:Rd w R p)(hp:(p:Int)<=100000)(hm:m<1):Qw Pg 19 #[.pointer (Q (T R 0 Z)),J I m] w λe f=>e=.returned (J I 0)/\Rd f R (p+1)/\zt R w f:=by have hst:=ae hR.step;have b:Hid (zt R w (ZU w (T R 1 Z) (J I ((p:Int)+1)))):=ce (zt.refl R w) 1 _;obtain⟨a,n,j_,hl,hn,h0,⟨h1,h2⟩,g⟩:=hR;clear g;go_enter func19,ntmps19;go_wp2;go_ret;exact⟨rfl,hst,b⟩
def xB (R p g c:Nat)(w:E)(hR:Rd w R p)(hp:p<=20000):Qw Pg 51 #[.pointer (Q (T R 0 Z)),ZJ #[Y (Q (T g 0 Z)) 0 c]] w λe ZS=>DP w R (p+1000) 0 201 e ZS:=by
 have m:=ae (sC hR (Y (Q (T g 0 Z)) 0 c));obtain⟨G,hi,x,s,ZW⟩:=pj;clear hR;go_enter func51,ntmps51;go_wp2_with (at_builtin;refine DN _ rfl (.tmp 7) (.tmp 9) 35 rfl (z (B w)+2) 102 G (ZJ #[J I 0,U ⟨#[]⟩,J I 0]) 3 32 QD hi x s ZW rfl (by decide) (Y (Q (T (z (B w)+2) 0 Z)) 0 0) 0 [] (by simp[Act.eval]) m.ir (T g 0 Z) 0 c [] (by simp[Act.eval]) rfl (λj u n=>by simp at n) (λu n=>by simp at n) (by unfold maxLen;omega) (by omega) (by simp) ?_);intro ZX t b r f;replace b:t.ownsRow (z (B w)+2) 102 3 ZX 0 []:=b
 obtain⟨o,c1,rfl⟩:∃g c,ZX=Y (Q (T g 0 Z)) 0 c:=(by
  rcases b.2 with⟨rfl,_⟩|⟨g,c,cur,rfl,_⟩
  {exact(f rfl).elim}
  ·exact⟨g,c,rfl⟩)
 have q:IR t (z (B w)+2) o c1 []:=b;have l:=ae (m.app0 (M:=[]) (n':=200) q r (by simp) (λi hi=>by simp at hi));rw[NR] at l;clear q r m b f;go_wp2_with fail;refine(Cw R _ 0 _ l.st.1 (by omega) (by omega)).P ?_;rintro e W2⟨rfl,hR,ZV⟩;have y:=ae (l.ac ZV hR);clear ZV hR l;have h:=y.st.2.2.1;have zl:=h.lt;have d0:=h.c0;have d1:=h.fz 0;have fin:=ae (y.fin (Y (Q (T o 0 Z)) 0 c1));clear h;go_wp2;obtain⟨f1,ZT,f3,D,C,H⟩:=fin.i;try simp only[Exit.inBlock,Exit.then]
 refine bp (gN rfl _ _ (z (B w)+1) _ rfl f1) rfl ?_;exact⟨[],o,c1,rfl,ZT,by omega,by simp,D,_,by omega,C,H⟩
def pF (R p:Nat)(w:E)(hR:Rd w R p)(hp:p<=10000):Qw Pg 30 #[.pointer (Q (T R 0 Z))] w λe w'=>DP w R (p+1700) 0 201 e w':=by
 have HR:=ae hR;have t:=hR.lt;clear hR;go_enter func30,ntmps30;go_wp2_with fail;obtain⟨y,h⟩:∃W:E,w.alloc (N #[Y Z 0 0] 37)=W:=⟨_,rfl⟩
 obtain⟨H,-,hz0⟩:=nb1 h;have f:=ae h;clear h;have ZQ:Hid (PB y (z (B w)) (Y Z 0 0)):=by rw[<-f.i];exact gM w _
 rw[f.i];clear f;have ZN:Hid (zt R w y):=zt.l H;refine(fZ R p _ (HR.aa H ly) (by omega)).P ?_;rintro e n⟨L,g,c,rfl,r,hlo,hL,X,q,hq,hR,b⟩;have hs2:=b.size;obtain⟨W3,l⟩:∃W:E,n.alloc (N #[Y (Q (T g 0 Z)) (A L) c] 37)=W:=⟨_,rfl⟩
 obtain⟨i,-,-⟩:=nb1 l;replace i:=i.i;have m:=ae l;clear l;have ZL:=ae (hR.aa i ly);have I3:=ae (r.aa i ly);have C:=ae (PB.aa ((b.p (z (B w)) (by omega) (by omega)).k ZQ:PB n (z (B w)) (Y Z 0 0)) i (by omega));have ZP:=ae ((ZN.k b).then (i.P (by omega)));have ZR:Hid (PB W3 (z (B n)) (Y (Q (T g 0 Z)) (A L) c)):=by rw[<-m.i];exact gM n _
 have V:=ae X;clear r hR b i H ZQ ZN X;go_wp2_with fail;rw[m.i];clear m;refine(ay R _ 6 _ ZL (by omega) (by omega) (by omega)).P ?_;rintro e x⟨ZV,rfl,zz0,zz1,hR,b⟩;have R4:=ae hR;have O:=ae (I3.ac b (by omega));have o:Hid (PB x (z (B w)) (Y Z 0 0)):=(b.p (z (B w)) C.lt (by omega)).k C;have K:Hid (PB x (z (B n)) (Y (Q (T g 0 Z)) (A L) c)):=(b.p (z (B n)) ZR.lt (by omega)).k ZR;have P:=ae (ZP.k b);clear hR b ZL I3 C ZR ZP;have q0:=K.c0;have ql:=K.lt;by_cases hz:ZV=0
 ·subst hz;go_wp2_with fail;refine(xz R (q+1) g c L _ (z (B y)) R4 (by omega) O (by omega) (NV.1 (by omega)) V).P ?_;rintro e S⟨M,ZX,c5,rfl,r,hlo5,ZO,ZW,q5,hq5,hR,b⟩;have u:PB S (z (B w)) (Y Z 0 0):=(b.p (z (B w)) o.lt (by omega)).k o;have d0:=u.c0;have d1:=u.fz 0;have zl:=u.lt;have ZS:=ae (aE (aH (aE r (show (z (B w))+1<=z (B x) by omega)) (show (z (B w))<z (B w)+1 by omega) (j:=0) (Y (Q (T ZX 0 Z)) (A M) c5)) (show (z (B w))<=z (B w)+1 by omega));have D:=ae (u.set (Y (Q (T ZX 0 Z)) (A M) c5));have s:=ae ((a8 (z (B w)) S).setCell (p:=(T (z (B w)) 0 Z)) ly (Y (Q (T ZX 0 Z)) (A M) c5));have ZT:=ae (hR.low s t);have G:=ae ((P.k b).then s);have ZM:=ae ZW;clear r hR b u ZW;go_wp2;try simp only[Exit.inBlock,Exit.then]
  refine bp (gN rfl _ _ (z (B w)) _ rfl D) rfl ?_;exact⟨M,ZX,c5,rfl,ZS,DW _,ZO,ZM,q5,by omega,ZT,G⟩
 ·have d0:=o.c0;have d1:=o.fz 0;have zl:=o.lt;have ZS:=ae (aE (aH (aE O (show (z (B w))+1<=z (B y) by omega)) (show (z (B w))<z (B w)+1 by omega) (j:=0) (Y (Q (T g 0 Z)) (A L) c)) (show (z (B w))<=z (B w)+1 by omega));have D:=ae (o.set (Y (Q (T g 0 Z)) (A L) c));have s:=ae ((a8 (z (B w)) x).setCell (p:=(T (z (B w)) 0 Z)) ly (Y (Q (T g 0 Z)) (A L) c));have ZT:=ae (R4.low s t);have G:=ae (P.then s);go_wp2;try simp only[Exit.inBlock,Exit.then]
  refine bp (gN rfl _ _ (z (B w)) _ rfl D) rfl ?_;exact⟨L,g,c,rfl,ZS,DW _,by omega,V,_,by omega,ZT,G⟩
