import Derived.Test.YthkpcehepgmdgaaGreatDoorTY
import Derived.Test.YthkpcehepgmdgaaGreatDoorTF
set_option maxRecDepth 100000
set_option maxHeartbeats 8000000
open Go renaming Addr.mk->Q,Value.slice->Z,Value.string->U,Value.int->J,Value.bool->ZC,Value.agg->ZH,Obj.cells->N,IntKind.i64->I,World->G,Value->ZD,World.heap->h,World.ownsRow->ZW,World.cell?->ZU,World.frozen?->ZV,World.setCell->ZT
open Option renaming none->Y,some->T
open Bool renaming false->ZB
open Array renaming size->A
namespace Go.Proofs.YthkpcehepgmdgaaGreatDoor.Vp
open Tryz RowKit
variable {H M b n n1 off cap j:Nat}{W f:G}{s:Nat->Bool}{i:ZD}
def cT (f:Nat->af)(d:Int)(x:Nat × Nat):Int:=if (f x.1).H=3/\60<=x.2/\(d<0∨(x.1:Int)<d) then (x.1:Int) else d
def cP (f:Nat->af)(d:Int):List (Nat × Nat)->Int
 |[]=>d
 |x::xs=>cP f (cT f d x) xs
theorem lX (f:Nat->af)(d:Int)(b g:List (Nat × Nat)):cP f d (b++g)=cP f (cP f d b) g:=by
 induction b generalizing d with
 |nil=>rfl
 |cons x b ZY=>simp only[LQ,cP];exact ZY _
theorem xK (f:Nat->af)(d:Int)(x y:Nat × Nat):cT f (cT f d x) y=cT f (cT f d y) x:=by
 unfold cT;by_cases g:(f x.1).H=3/\60<=x.2;{by_cases b:(f y.1).H=3/\60<=y.2;{simp only[g.1,g.2,b.1,b.2,TG];(repeat' split)<;>omega};{have e:∀z:Prop,¬ ((f y.1).H=3/\60<=y.2/\z):=λz ZY=>b ⟨ZY.1,ZY.2.1⟩;rw[eT (e _),eT (e _)]}};{have e:∀z:Prop,¬ ((f x.1).H=3/\60<=x.2/\z):=λz ZY=>g ⟨ZY.1,ZY.2.1⟩;rw[eT (e _),eT (e _)]}
theorem vf (f:Nat->af)(d:Int)(x:Nat × Nat)(b:List (Nat × Nat)):cP f (cT f d x) b=cT f (cP f d b) x:=by
 induction b generalizing d with
 |nil=>rfl
 |cons y ys g =>simp only[cP];rw[xK,g]
def TyAt (w:G)(g:Nat)(e:TypeId):Prop:=∃b,w.heap[g]?=T (N b e (0,0))
structure Kpt (H M:Nat)(W W':G):Prop where
 size:A (h W)<=A (h W')
 keep:∀k e,TyAt W k e->e≠3->k≠H->k≠M->W'.heap[k]?=W.heap[k]?
theorem Kpt.trans{ZX B C:G}(ZY:Kpt H M ZX B)(k:Kpt H M B C):Kpt H M ZX C :=
 ⟨AD ZY.size k.size,λi e hi b h1 h2=>by
  have f:=ZY.keep i e hi b h1 h2;obtain⟨c,g⟩:=hi
  exact(k.keep i e ⟨c,f.trans g⟩ b h1 h2).trans f⟩
theorem Kpt.q{b:G}(ZY:Below (A (h W)) W b):Kpt H M W b :=
 ⟨ZY.size,λk e f _ _ _=>by obtain⟨c,g⟩:=f;exact ZY.block k (A9.1 g).1⟩
theorem Kpt.setCell (W:G)(g:Nat)(hg:g=H∨g=M)(v:ZD):Kpt H M W (ZT W (Q g j Y) v) :=
 ⟨by simp,λk _ _ _ h1 h2=>qh _ _ _ _ (by show k≠g;omega)⟩
structure SLs (w0 W:G)(n1 b off n cap H M:Nat)(s:Nat->Bool)(ov:ZD)(ord:List Nat)(dp:Int):Prop where
 c0:ZU W (Q H 0 Y)=T (Z (T (Q b off Y)) n cap)
 c1:ZU W (Q H 1 Y)=T (Z (T (Q M 0 Y)) n n)
 c2:ZU W (Q H 2 Y)=T ov/\ZV W (Q H 2 Y)=ZB
 c3:ZU W (Q H 3 Y)=T (J I dp)/\ZV W (Q H 3 Y)=ZB
 row:∀q,q<n->ZU W (Q M q Y)=T (ZC (s q))/\ZV W (Q M q Y)=ZB
 ord:ZW W n1 3 1 ov ord.length (ord.map λq:Nat=>Value.int I (q:Int))
 low:Below (A (h w0)) w0 W
 hH:A (h w0)<=H/\H<n1
 hM:A (h w0)<=M/\M<n1
 ne:H≠M
 hz:n1<=A (h W)
theorem SLs.blocks{i:G}{l j:ZD}{ord g:List Nat}{r:Int}(ZY:SLs i W n1 b off n cap H M s l ord r)(hz:A (h W)<=A (h f))(p:f.heap[H]?=W.heap[H]?)(m:f.heap[M]?=W.heap[M]?)(y:Below (A (h i)) i f)(x:j=l)(u:ZW f n1 3 1 l g.length (g.map λq:Nat=>Value.int I (q:Int))):SLs i f n1 b off n cap H M s j g r:=by subst x;have c:∀o,ZU f (Q H o Y)=ZU W (Q H o Y):=λo=>cq (a:=(Q H o Y)) p;have z:∀o,ZV f (Q H o Y)=ZV W (Q H o Y):=λo=>LF (a:=(Q H o Y)) p;exact⟨(c 0).trans ZY.c0,(c 1).trans ZY.c1,⟨(c 2).trans ZY.c2.1,(z 2).trans ZY.c2.2⟩,⟨(c 3).trans ZY.c3.1,(z 3).trans ZY.c3.2⟩,λq t=>⟨(cq (a:=(Q M q Y)) m).trans (ZY.row q t).1,(LF (a:=(Q M q Y)) m).trans (ZY.row q t).2⟩,u,y,ZY.hH,ZY.hM,ZY.ne,AD ZY.hz hz⟩
theorem SLs.aa{j:G}{ord:List Nat}{g:Int}(ZY:SLs j W n1 b off n cap H M s i ord g)(hb:Below (A (h W)) W f):SLs j f n1 b off n cap H M s i ord g :=
 ZY.blocks hb.size (hb.block H (by have:=ZY.hH;have:=ZY.hz;omega)) (hb.block M (by have:=ZY.hM;have:=ZY.hz;omega)) (ZY.low.trans (hb.mono ZY.low.size)) rfl (own_below ZY.ord hb ly)
theorem ou{w:G}{g R:Nat}{e:TypeId}{v:ZD}{f:List ZD}(ZY:ZW w b e g v n f)(hR:R<b)(u:ZD):(ZT w (Q R j Y) u).ownsRow b e g v n f:=by
 refine ZY.kept (row:=T R) ⟨rfl,rfl,rfl,by simp[World.setCell],λk _ i=>qh _ _ _ _ (by simpa using i)⟩ ?_;cases hv:v.ownBlock with
 |none=>exact .inl rfl
 |some k=>exact .inr λl=>by have:=(ZY.lt k hv).1;cases l;omega
theorem SLs.mark{g:G}{p:Nat}{j:ZD}{ord:List Nat}{i:Int}(ZY:SLs g W n1 b off n cap H M s j ord i)(hp:p<n):SLs g (ZT W (Q M p Y) (ZC true)) n1 b off n cap H M (put s p) j ord i:=by
 have c:∀o,ZU (ZT W (Q M p Y) (ZC true)) (Q H o Y)=ZU W (Q H o Y):=λo=>sq _ _ _ _ (by first|(simp;done)|(simp;exact λe=>absurd e.symm ZY.ne)|(simp;exact λe=>absurd e ZY.ne)|(simp;omega));refine⟨(c 0).trans ZY.c0,(c 1).trans ZY.c1,⟨(c 2).trans ZY.c2.1,by simpa using ZY.c2.2⟩,⟨(c 3).trans ZY.c3.1,by simpa using ZY.c3.2⟩,λq f=>⟨?_,by simpa using(ZY.row q f).2⟩,ou ZY.ord ZY.hM.2 _,ZY.low.setCell ZY.hM.1 _,ZY.hH,ZY.hM,ZY.ne,by simpa using ZY.hz⟩;by_cases e:q=p;{subst e;rw[AT _ _ _ (by rw[(ZY.row q f).1];rfl)];simp[put]};{rw[sq _ _ _ _ (by first|(simp;done)|(simp;exact λe=>absurd e.symm ZY.ne)|(simp;exact λe=>absurd e ZY.ne)|(simp;omega)),(ZY.row q f).1];simp[put,e]}
theorem SLs.deep{ord:List Nat}{j:Int}(ZY:SLs f W n1 b off n cap H M s i ord j)(v:Int):SLs f (ZT W (Q H 3 Y) (J I v)) n1 b off n cap H M s i ord v:=by have c:∀o,o≠3->ZU (ZT W (Q H 3 Y) (J I v)) (Q H o Y)=ZU W (Q H o Y):=λo ho=>sq _ _ _ _ (by first|(simp;done)|(simp;exact λe=>absurd e.symm ZY.ne)|(simp;exact λe=>absurd e ZY.ne)|(simp;omega));refine⟨(c 0 (by omega)).trans ZY.c0,(c 1 (by omega)).trans ZY.c1,⟨(c 2 (by omega)).trans ZY.c2.1,by simpa using ZY.c2.2⟩,⟨AT _ _ _ (by rw[ZY.c3.1];rfl),by simpa using ZY.c3.2⟩,λq g=>⟨(sq _ _ _ _ (by first|(simp;done)|(simp;exact λe=>absurd e.symm ZY.ne)|(simp;exact λe=>absurd e ZY.ne)|(simp;omega))).trans (ZY.row q g).1,by simpa using(ZY.row q g).2⟩,ou ZY.ord ZY.hH.2 _,ZY.low.setCell ZY.hH.1 _,ZY.hH,ZY.hM,ZY.ne,by simpa using ZY.hz⟩
open Ca
theorem qW (x:af)(a0:Option Addr)(c0:Nat)(a1:Option Addr)(c1 pb np cp:Nat)(L:List Nat)(w:G)(la:bJ x)(ZJ:SlIns w a0 x.l x.u)(aq:SlLink w a1 x.f x.m)(ur:pb<A (h w))
  (hpl:∀j,j<x.f->(x.m j).ask=true->0<=(x.m j).L/\(x.m j).L.toNat<np/\w.cell? ⟨pb,(x.m j).L.toNat,Y⟩=T (J I ((L.idxOf (x.m j).L.toNat:Nat):Int))) :
  Calls Tryz.prog 47 #[ZH #[U x.e,J I x.H,J I x.E,U x.B,Z a0 x.l c0,Z a1 x.f c1],Z (T (Q pb 0 Y)) np cp] w λe w'=>∃a4 d4 a5 d5,e=.returned (ZH #[U x.e,J I x.H,J I x.E,U x.B,Z a4 x.l d4,Z a5 x.f d5])/\DSub w' (A (h w)) ({ x with m:=λj=>dG L (x.m j) },Z a4 x.l d4,Z a5 x.f d5)/\Below (A (h w)) w w':=by
 obtain⟨hf0,hf1⟩:=la;have M:=ae (((q9 w).alloc ly (N #[U x.e,J I x.H,J I x.E,U x.B,Z a0 x.l c0,Z a1 x.f c1] 44)).alloc (by simp) (N #[U ⟨#[]⟩,J I 0,J I 0,U ⟨#[]⟩,Z Y 0 0,Z Y 0 0] 44));have SS:=AY w (U x.e) (J I x.H) (J I x.E) (U x.B) (Z a0 x.l c0) (Z a1 x.f c1) (U ⟨#[]⟩) (J I 0) (J I 0) (U ⟨#[]⟩) (Z Y 0 0) (Z Y 0 0) 44;have X0:=ae SS.1;have Y0:=ae SS.2;have R0:=ae (ZJ.aa M.out ly);have At:=ae aq;have n9:=ae hpl;have ro:((w.alloc (N #[U x.e,J I x.H,J I x.E,U x.B,Z a0 x.l c0,Z a1 x.f c1] 44)).alloc (N #[U ⟨#[]⟩,J I 0,J I 0,U ⟨#[]⟩,Z Y 0 0,Z Y 0 0] 44)).heap.size=A (h w)+2:=by simp
 clear ZJ aq hpl SS;go_enter func47,ntmps47;go_wp2_with fail;generalize (w.alloc (N #[U x.e,J I x.H,J I x.E,U x.B,Z a0 x.l c0,Z a1 x.f c1] 44)).alloc (N #[U ⟨#[]⟩,J I 0,J I 0,U ⟨#[]⟩,Z Y 0 0,Z Y 0 0] 44)=W0 at M X0 Y0 R0 ro ⊢;refine(pj a0 x.l c0 x.u _ (by omega) R0.out).mono ?_;rintro e w1 ⟨s0,b,rfl,bt,X⟩;have B:=ae X;have O1:=ae bt;clear bt X;have V:=ae (X0.out.aa B.out (by omega));have Y1:=ae (Y0.out.aa B.out (by omega));obtain⟨x4,z4⟩:=V.out.c4;have W:=V.out.c5.1;have ZM:=ae (V.out.set4 (Z s0 x.l b));have Y2:=ae (Y1.out.far (p:=(Q (A (h w)) 4 Y)) (by simp) (Z s0 x.l b));have ZN:=ae ((M.out.trans (B.out.mono M.out.size)).setCell (p:=(Q (A (h w)) 4 Y)) ly (Z s0 x.l b));have O2:=ae (aC (R:=A (h w)) (j:=4) O1.out (by omega) (Z s0 x.l b));have R2:Hid (SlLink (ZT w1 (Q (A (h w)) 4 Y) (Z s0 x.l b)) a1 x.f x.m):=At.out.aa ZN.out ly;have qr:A (h w)+2<=A (h (ZT w1 (Q (A (h w)) 4 Y) (Z s0 x.l b))):=by have:=B.out.size;simp;omega
 have y5:=ZM.out.c5.1;go_wp2_with fail;generalize ZT w1 (Q (A (h w)) 4 Y) (Z s0 x.l b)=W2 at ZM Y2 ZN O2 R2 qr y5 ⊢;clear x4 z4 W V Y1 O1 B;refine(tp a1 x.f c1 x.m _ (by omega) R2.out).mono ?_;rintro e w3 ⟨s1,l,rfl,ZK,fd⟩;have D:=ae fd;have X3:=ae (ZM.out.aa D.out (by omega));have Y3:=ae (Y2.out.aa D.out (by omega));obtain⟨W,z5⟩:=X3.out.c5;have ZO:=ae (X3.out.set5 (Z s1 x.f l));have Y4:=ae (Y3.out.far (p:=(Q (A (h w)) 5 Y)) (by simp) (Z s1 x.f l));have B4:=ae ((ZN.out.trans (D.out.mono ZN.out.size)).setCell (p:=(Q (A (h w)) 5 Y)) ly (Z s1 x.f l));have O4:=ae (aC (R:=A (h w)) (j:=5) (aA (own_below O2.out D.out ly) (show (A (h w))+2<=A (h W0) by omega)) (by omega) (Z s1 x.f l));have P4:=ae (aC (R:=A (h w)) (j:=5) (aA ZK (show (A (h w))+2<=A (h W2) by omega)) (by omega) (Z s1 x.f l));clear ZK fd;have y6:=ZO.out.c5.1;go_wp2;generalize ZT w3 (Q (A (h w)) 5 Y) (Z s1 x.f l)=W4 at ZO Y4 B4 O4 P4 y6 ⊢;clear W z5 X3 Y3 ZM Y2 D y5 y6 O2 R2;go_loopw [18] (λi wr=>∃k:Nat,k<=x.f/\i=J I k/\Hid (DBox wr (A (h w)) (U x.e) (J I x.H) (J I x.E) (U x.B) (Z s0 x.l b) (Z s1 x.f l))/\Hid (DBox wr (A (h w)+1) (U ⟨#[]⟩) (J I 0) (J I 0) (U ⟨#[]⟩) (Z Y 0 0) (Z Y 0 0))/\Hid (ZW wr (A (h w)+2) 90 3 (Z s0 x.l b) x.l (bK x.u x.l))/\Hid (ZW wr (A (h w)+2) 68 4 (Z s1 x.f l) x.f (bq (fu L x.m k) x.f))/\Hid (Below (A (h w)) w wr)) (λi _=>x.f - (intOf i).toNat);case atStart=>exact⟨0,by omega,rfl,ZO.out,Y4.out,O4.out,by rw[qU];exact P4.out,B4.out⟩
 case round =>
  clear ZO Y4 O4 P4 B4;obtain⟨k,hk,rfl,m,n,O5,r,B5⟩:=hrel;by_cases ZS:k<x.f
  ·obtain⟨g,rfl⟩:=Et r.out (by omega);have hg1:=(cu r.out).1;have ZY:∀j,j<4->∀u,(dt (x.m k))[j]?=T u->ZU wr (Q g (k*4+j) Y)=T u/\ZV wr (Q g (k*4+j) Y)=ZB:=λj hj u hu=>a8 r.out (by rw[fe _ ZS j hj,show fu L x.m k k=x.m k by simp[fu]];exact hu);obtain⟨f0,_⟩:=ZY 0 (by omega) _ rfl;obtain⟨f1,_⟩:=ZY 1 (by omega) _ rfl;obtain⟨f2,_⟩:=ZY 2 (by omega) _ rfl;obtain⟨f3,O⟩:=ZY 3 (by omega) _ rfl;clear ZY;rw[show k*4+0=k*4 by omega] at f0;have hpl:=n9.out k ZS;have ZP:=qV (L:=L) (f:=x.m) (i:=k);have H:=tr (L:=L) (f:=x.m) (i:=k);generalize x.m k=y at f0 f1 f2 f3 hpl ZP H;have HP:=ae hpl;have n8:=ae ZP;have n7:=ae H;clear hpl ZP H;have t:g<A (h wr):=(cu r.out).2;have ph:=m.out.lt;have ZQ:=ae ((q9 wr).alloc ly (N #[U y.e,ZC y.ask,ZC y.has,J I y.L] 68));have z:=ae (m.out.aa ZQ.out ph);have P:=ae (n.out.aa ZQ.out n.out.lt);have S:=ae (O5.out.alloc (N #[U y.e,ZC y.ask,ZC y.has,J I y.L] 68));have ZL:=ae (r.out.alloc (N #[U y.e,ZC y.ask,ZC y.has,J I y.L] 68));have K:=ae (B5.out.alloc B5.out.size (N #[U y.e,ZC y.ask,ZC y.has,J I y.L] 68));have h3:=(ZQ.out.cell (p:=(Q g (k*4+3) Y)) t).trans f3;have sm:=(ZQ.out.frozen (p:=(Q g (k*4+3) Y)) t).trans O;have e1:(wr.alloc (N #[U y.e,ZC y.ask,ZC y.has,J I y.L] 68)).cell? (Q (A (h wr)) 1 Y)=T (ZC y.ask):=by simp
   have e3:(wr.alloc (N #[U y.e,ZC y.ask,ZC y.has,J I y.L] 68)).cell? (Q (A (h wr)) 3 Y)=T (J I y.L):=by simp
   go_upto_if 24 with fail;generalize wr.alloc (N #[U y.e,ZC y.ask,ZC y.has,J I y.L] 68)=C at ZQ z P S ZL K e1 e3 h3 sm ⊢;clear f0 f1 f2 f3 O;cases hask:y.ask with
   |false =>have s:=ae (n8.out hask);rw[hask] at e1;go_wp2;exact⟨⟨k+1,by omega,by go_num,z.out,P.out,S.out,by rw[s.out];exact ZL.out,K.out⟩,by simp[intOf];omega⟩
   |true =>
    have s:=ae (n7.out hask);obtain⟨th,ex,o⟩:=HP.out hask;obtain⟨q,hq⟩:∃q:Nat,y.L=(q:Int):=⟨y.L.toNat,by omega⟩
    rw[hq] at th ex o e3 s;simp only[MV] at ex o s;have ld:=(K.out.cell (p:=(Q pb q Y)) ur).trans o;have hqi:(q:Int)<np:=by omega
    have W:=z.out.c5.1;rw[hask] at e1;generalize ((L.idxOf q:Nat):Int)=E at o ld s;have ZX:=ae (q9 C).drew;have hz6:A (h C)=C.drew.heap.size:=rfl;have X7:=ae ((z.out.aa ZX.out z.out.lt).far (p:=(Q g (k*4+3) Y)) (by show g≠A (h w);omega) (J I E));have Y7:=ae ((P.out.aa ZX.out P.out.lt).far (p:=(Q g (k*4+3) Y)) (by show g≠A (h w)+1;omega) (J I E));have O7:=ae (cH (w':=C.drew.setCell (Q g (k*4+3) Y) (J I E)) (own_below S.out ZX.out ly) (λj hj _=>qh _ _ _ _ (λe=>by have h1:=eF S.out j hj;have h2:=eF ZL.out g rfl;have e:j=g:=e;rw[e] at h1;exact h1.ne (by decide) h2)));have P7:=ae (nK (own_below ZL.out ZX.out ly) ZS E);have B7:=ae ((K.out.trans (ZX.out.mono K.out.size)).setCell (p:=(Q g (k*4+3) Y)) (by show (A (h w))<=g;omega) (J I E));go_wp2_with fail;go_region;all_goals
     go_wp2;exact⟨⟨k+1,by omega,by go_num,X7.out,Y7.out,O7.out,by rw[s.out];exact P7.out,B7.out⟩,by simp[intOf];omega⟩
  ·have e:k=x.f:=by omega
   subst e;obtain⟨a0,_⟩:=m.out.c0;obtain⟨a1,_⟩:=m.out.c1;obtain⟨a2,_⟩:=m.out.c2;obtain⟨a3,_⟩:=m.out.c3;obtain⟨a4,_⟩:=m.out.c4;obtain⟨a5,_⟩:=m.out.c5;obtain⟨r0,q0⟩:=n.out.c0;obtain⟨r1,q1⟩:=n.out.c1;obtain⟨r2,q2⟩:=n.out.c2;obtain⟨O,q3⟩:=n.out.c3;obtain⟨r4,q4⟩:=n.out.c4;obtain⟨r5,q5⟩:=n.out.c5;have OF:=ae (aC (aC (aC (aC (aC (aC (aA O5.out (show (A (h w))+2<=A (h w)+2 by omega)) (R:=A (h w)+1) (j:=0) (by omega) (U x.e)) (R:=A (h w)+1) (j:=1) (by omega) (J I x.H)) (R:=A (h w)+1) (j:=2) (by omega) (J I x.E)) (R:=A (h w)+1) (j:=3) (by omega) (U x.B)) (R:=A (h w)+1) (j:=4) (by omega) (Z s0 x.l b)) (R:=A (h w)+1) (j:=5) (by omega) (Z s1 x.f l));have PF:=ae (aC (aC (aC (aC (aC (aC r.out (R:=A (h w)+1) (j:=0) (by omega) (U x.e)) (R:=A (h w)+1) (j:=1) (by omega) (J I x.H)) (R:=A (h w)+1) (j:=2) (by omega) (J I x.E)) (R:=A (h w)+1) (j:=3) (by omega) (U x.B)) (R:=A (h w)+1) (j:=4) (by omega) (Z s0 x.l b)) (R:=A (h w)+1) (j:=5) (by omega) (Z s1 x.f l));have BF:=ae ((((((B5.out.setCell (p:=(Q (A (h w)+1) 0 Y)) (IS _) (U x.e)).setCell (p:=(Q (A (h w)+1) 1 Y)) (IS _) (J I x.H)).setCell (p:=(Q (A (h w)+1) 2 Y)) (IS _) (J I x.E)).setCell (p:=(Q (A (h w)+1) 3 Y)) (IS _) (U x.B)).setCell (p:=(Q (A (h w)+1) 4 Y)) (IS _) (Z s0 x.l b)).setCell (p:=(Q (A (h w)+1) 5 Y)) (IS _) (Z s1 x.f l));go_wp2;exact bp (v:=ZH #[U x.e,J I x.H,J I x.E,U x.B,Z s0 x.l b,Z s1 x.f l]) (by simp[results,results47,go_sem,r0,r1,r2,O,r4,r5]) rfl ⟨_,b,_,l,rfl,⟨aA OF.out (by omega),by rw[<-tq];exact aA PF.out (by omega)⟩,BF.out⟩
