import Derived.Test.YtamacmnikdejeaaGreatDoorMF
import Derived.Test.YtamacmnikdejeaaGreatDoorKY
import Derived.Sort.EncStr
set_option maxRecDepth 100000
set_option maxHeartbeats 4000000
open Go renaming Addr.mk->Q,Value.slice->Y,Value.string->U,Value.int->J,Value.bool->ZC,Value.agg->ZG,Obj.cells->N,IntKind.i64->I,World->E,Ending.returned->ZF,Proofs.Tryz.prog->Pg
open Option renaming none->Z,some->T
open Bool renaming false->ZA,true->ZD
namespace Go.Proofs.YtamacmnikdejeaaGreatDoor.Vp
open Tryz RowKit
variable {f:Nat->au}{n:Nat}
section
variable {S S2:Spc}{k t:ByteArray}
theorem r9 {c:Nat->Int}:∀{n:Nat},(eP c n).1=0->∀i,i<n->c i=0
 |0,_,i,hi=>absurd hi (by omega)
 |n+1,h,i,hi=>by
  rw[eP] at h;split at h
  ·rename_i b
   split at h
   ·rcases QX.1 hi with e|rfl
    ·exact r9 b i e
    ·assumption
   ·contradiction
  ·contradiction
theorem FU (i:bv f n=ZD):(iC S.n0 S.f0 S.n1 S.f1 f n).1=0 ↔ bq S.n0 S.f0 S.n1 S.f1=0/\∀p,p<n->Borne S f p:=by
 unfold iC;rw[j6 i];constructor;{intro h;split at h;{rename_i g;refine⟨g,λp b=>?_⟩;have:=r9 h p b;unfold dq at this;split at this;{omega};split at this;{omega};rename_i h1 h2;exact⟨by simpa using h1,by simpa using h2,this⟩};{cases h}};{rintro⟨g,h⟩;rw[j6 g,mQ λp b=>by unfold dq;rw[eT (by rw[(h p b).lie];simp),eT (by rw[(h p b).has];simp)];exact(h p b).run]}
theorem sd (h:bv f n=ZD):((aV S (f (n - 1)).e).1.length=n/\∀i,i<n->DeedEq (f i) (dF (aT S (aV S (f (n - 1)).e).1) i)) ↔ (iC S.n0 S.f0 S.n1 S.f1 f n).1=0:=by
 have hn:=fl h;rw[FU h];constructor
 ·rintro⟨h1,h2⟩;rcases jX S (f (n - 1)).e with ⟨e,-⟩|⟨M,e,g,j,q,hb⟩
  {rw[e] at h1;have h0:0=n:=h1;omega};{rw[hb] at h1 h2;have h1:M.length=n:=h1;obtain⟨a,b⟩:=rR g j q;rw[h1] at a b;exact⟨g.chk,λp m=>yB a (λi hi=>(h2 i hi).symm) m (b p m)⟩}
 ·rintro⟨o,l⟩;have g:=SpcOk.of o;have hb:(aV S (f (n - 1)).e).1=cC S f n:=by unfold aV;rw[j6 ⟨o,(gv h (show n - 1<n by omega)).1⟩,yw h g l]
  rw[hb];exact⟨by simp[cC],λi hi=>(yx h g l hi).symm⟩
end
def lS (x y:Link):Bool:=x.e.toList == y.e.toList && x.ask == y.ask && x.has == y.has && x.G == y.G
theorem FV{x y:Link}(h:lS x y=ZD):x=y:=by obtain⟨a,b,c,d⟩:=x;obtain⟨a',b',c',d'⟩:=y;simp only[lS,nD,PH] at h;obtain⟨⟨⟨h1,rfl⟩,rfl⟩,rfl⟩:=h;rw[eX h1]
theorem FW (x y:Link)(w:E):(binOp .neq 129 (ZG #[U x.e,ZC x.ask,ZC x.has,J I x.G]) (ZG #[U y.e,ZC y.ask,ZC y.has,J I y.G])).run Pg w=.ok (ZC (!lS x y)) w:=by
 have g:Pg.underlying 129=T (.struct (Pg.fieldsOf 129)):=by kernel_rfl
 have f:Pg.stoodInHeld 129=ZA:=by kernel_rfl
 rw[run_neq_struct,show(10000:Nat)=9999+1 from rfl,run_equalIn_agg w 9999 129 _ _ g f];simp only[Program.fieldsOf,underlying129];go_simp;unfold lS;by_cases h1:x.e.toList=y.e.toList<;>by_cases h2:x.ask=y.ask<;>by_cases b:x.has=y.has<;>by_cases h:x.G=y.G<;>simp[h1,h2,b,h]
theorem vf (a:Option Addr)(n c:Nat)(f:Nat->Ins)(u:Option Addr)(m B:Nat)(g:Nat->Ins)(w:E)(hn:n<=1048576)(ZP:SlIns w a n f)(G:SlIns w u m g):Calls Pg 105 #[ZG #[Y a n c],ZG #[Y u m B]] w λe X=>e=ZF (ZC (cB f g n m))/\Below w.heap.size w X:=by
 have S:=ae ZP;have ZL:=ae G;clear ZP G;obtain⟨s,o⟩:∃W:E,(w.alloc (N #[Y a n c] 43)).alloc (N #[Y u m B] 43)=W:=⟨_,rfl⟩
 obtain⟨K,-,-,-⟩:=nb2 o;have j:=ae o;clear o;have C:Hid (PB s w.heap.size (Y a n c)):=by rw[<-j.out];show _=_;rw[UJ _ _ (by simp)];exact gM w _
 have ZQ:Hid (PB s (w.heap.size+1) (Y u m B)):=by rw[<-j.out];exact PK w _ _
 obtain⟨r,l⟩:∃r,r=cB f g n m:=⟨_,rfl⟩
 rw[<-l];have D:=ae l;clear l;go_enter func105,ntmps105;go_upto_region 1 with fail;rw[j.out];clear j;have z0:=C.c0;have z1:=ZQ.c0;have ZK:=C.lt;have P:=ZQ.lt;by_cases z:n=m;case neg =>
  have h2:((n:Int) == (m:Int))=ZA:=by simp;omega
  go_wp2;go_ret;exact⟨bj (by rw[D.out];simp[cB,z]),K⟩
 subst z;go_wp2;clear z0 z1;go_loopw [5] (λi wr=>∃k:Nat,k<=n/\i=J I k/\Hid (cH f g k=ZD)/\Hid (∃q,wr=s.drewN q)) (λi _=>n - (intOf i).toNat);case atStart=>exact⟨0,by omega,rfl,rfl,0,rfl⟩
 case round =>
  obtain⟨k,hk,rfl,H,O⟩:=hrel;have y:Hid (Below s.heap.size s wr):=by obtain⟨q,p⟩:=O.out;rw[p];exact AI br q
  have z0:=(C.aa y ZK).c0;have z1:=(ZQ.aa y P).c0;have l2:=y.size;have x:=ae (K.trans (y.mono (by omega)));by_cases t:k<n
  ·rcases S.aa x ly with h|⟨b,off,rfl,l⟩
   {omega};rcases ZL.aa x ly with h|⟨b',off',rfl,p⟩
   {omega};obtain⟨c0,c1,c2⟩:=l.2 k t;obtain⟨R,V,ZM⟩:=p.2 k t;have hb:=l.1;have M:=p.1;clear l p;have hlt2:(k:Int)<n:=by omega
   have ZN:=sZ (f k) (g k);go_wp2_with fail;go_quiet (fail);have L:Hid (∃q,wr.drewN nq=s.drewN q):=by obtain⟨q,p⟩:=O.out;exact⟨q+nq,by rw[p,World.drewN_drewN]⟩
   have ZO:=ae (AI x nq);clear c0 c1 c2 R V ZM ZN z0 z1 hb M;generalize wr.drewN nq=W at L ZO ⊢;cases hb:jL (f k) (g k) with
   |true =>have A:=ae hb;clear hb;go_wp2;exact⟨⟨k+1,by omega,by go_num,by show cH f g (k+1)=ZD;rw[cH,H.out,A.out];rfl,L⟩,by simp[intOf];omega⟩
   |false =>have A:=ae hb;clear hb;go_wp2;go_ret;exact⟨bj (by rw[D.out];simp[cB,jM t A.out]),ZO⟩
  ·obtain rfl:k=n:=by omega
   go_wp2;go_ret;exact⟨bj (by rw[D.out];simp[cB,H.out]),x⟩
def Ex (ZQ:Prop)(w:E)(e:Ending)(f:E):Prop:=∃b:Bool,e=ZF (ZC b)/\(b=ZD ↔ ZQ)/\Below w.heap.size w f
theorem AX (x y:au):((x.e.toList == y.e.toList)=ZA/\¬ DeedEq x y)∨(x.e=y.e/\(x.L == y.L)=ZA/\¬ x.L=y.L/\¬ DeedEq x y)∨(x.e=y.e/\x.L=y.L/\(x.M == y.M)=ZA/\¬ x.M=y.M/\¬ DeedEq x y)∨(x.e=y.e/\x.L=y.L/\x.M=y.M/\(x.H.toList == y.H.toList)=ZA/\¬ DeedEq x y)∨(x.e=y.e/\x.L=y.L/\x.M=y.M/\x.H=y.H/\((x.f:Int) == (y.f:Int))=ZA/\¬ DeedEq x y)∨(x.e=y.e/\x.L=y.L/\x.M=y.M/\x.H=y.H/\x.f=y.f):=by
 cases h0:(x.e.toList == y.e.toList)
 {exact .inl ⟨rfl,λe=>by rw[e.e] at h0;simp at h0⟩};cases h1:(x.L == y.L)
 {exact .inr (.inl ⟨bytes_beq h0,rfl,by simpa using h1,λe=>by rw[e.L] at h1;simp at h1⟩)};cases h2:(x.M == y.M)
 {exact .inr (.inr (.inl ⟨bytes_beq h0,by simpa using h1,rfl,by simpa using h2,λe=>by rw[e.M] at h2;simp at h2⟩))};cases h3:(x.H.toList == y.H.toList)
 {exact .inr (.inr (.inr (.inl ⟨bytes_beq h0,by simpa using h1,by simpa using h2,rfl,λe=>by rw[e.H] at h3;simp at h3⟩)))};cases h4:((x.f:Int) == (y.f:Int))
 {exact .inr (.inr (.inr (.inr (.inl ⟨bytes_beq h0,by simpa using h1,by simpa using h2,bytes_beq h3,rfl,λe=>by rw[e.f] at h4;simp at h4⟩))))};exact .inr (.inr (.inr (.inr (.inr ⟨bytes_beq h0,by simpa using h1,by simpa using h2,bytes_beq h3,by simp at h4;omega⟩))))
def DeB (V:E)(b:Nat)(x:au)(a0:Option Addr)(c0:Nat)(a1:Option Addr)(c1:Nat):Prop:=V.heap[b]?=T (N #[U x.e,J I x.L,J I x.M,U x.H,Y a0 x.h c0,Y a1 x.f c1] 46 (0,0))
section
variable {V ZK:E}{b:Nat}{x:au}{a0 a1:Option Addr}{c0 c1:Nat}
theorem DeB.cells (h:DeB V b x a0 c0 a1 c1):b<V.heap.size/\V.cell? (Q b 0 Z)=T (U x.e)/\V.cell? (Q b 1 Z)=T (J I x.L)/\V.cell? (Q b 2 Z)=T (J I x.M)/\V.cell? (Q b 3 Z)=T (U x.H)/\V.cell? (Q b 4 Z)=T (Y a0 x.h c0)/\V.cell? (Q b 5 Z)=T (Y a1 x.f c1):=by have f:V.heap[b]?=_:=h;refine⟨ar f,?_,?_,?_,?_,?_,?_⟩<;>simp[World.cell?,f]
theorem DeB.aa (h:DeB V b x a0 c0 a1 c1)(hb:Below V.heap.size V ZK):DeB ZK b x a0 c0 a1 c1:=(hb.block b (ar h)).trans h
end
theorem AY (x y:au)(a0:Option Addr)(c0:Nat)(a1:Option Addr)(c1:Nat)(b0:Option Addr)(q:Nat)(l:Option Addr)(r:Nat)(w:E)(j:dw x)(O:SlIns w a0 x.h x.u)(M:SlLink w a1 x.f x.m)(K:SlIns w b0 y.h y.u)(L:SlLink w l y.f y.m):Calls Pg 68 #[ZG #[U x.e,J I x.L,J I x.M,U x.H,Y a0 x.h c0,Y a1 x.f c1],ZG #[U y.e,J I y.L,J I y.M,U y.H,Y b0 y.h q,Y l y.f r]] w λe w'=>Ex (DeedEq x y) w e w':=by
 obtain⟨n,t⟩:∃n,n=w.alloc (N #[U x.e,J I x.L,J I x.M,U x.H,Y a0 x.h c0,Y a1 x.f c1] 46):=⟨_,rfl⟩
 have ZM:=(BS w).alloc ly (N #[U x.e,J I x.L,J I x.M,U x.H,Y a0 x.h c0,Y a1 x.f c1] 46);have P0:DeB (w.alloc (N #[U x.e,J I x.L,J I x.M,U x.H,Y a0 x.h c0,Y a1 x.f c1] 46)) w.heap.size x a0 c0 a1 c1:=gM w _;have hz:(w.alloc (N #[U x.e,J I x.L,J I x.M,U x.H,Y a0 x.h c0,Y a1 x.f c1] 46)).heap.size=w.heap.size+1:=by simp
 rw[<-t] at ZM P0 hz;have D:=ae (ZM.alloc (by omega) (N #[U y.e,J I y.L,J I y.M,U y.H,Y b0 y.h q,Y l y.f r] 46));have X:=ae (P0.aa ((BS n).alloc ly (N #[U y.e,J I y.L,J I y.M,U y.H,Y b0 y.h q,Y l y.f r] 46)));have Q1:Hid (DeB (n.alloc (N #[U y.e,J I y.L,J I y.M,U y.H,Y b0 y.h q,Y l y.f r] 46)) (w.heap.size+1) y b0 q l r):=by rw[<-hz];exact gM n _
 have CP:=ae (λV (o:Below w.heap.size w V)=>vf a0 x.h c0 x.u b0 y.h q y.u V j.1 (O.aa o ly) (K.aa o ly));have P:=ae M;have ZL:=ae L;have bt:=j.2;clear O M K L j ZM P0;have m:Hid (DeedEq x y->cB x.u y.u x.h y.h=ZD/\∀i,i<x.f->lS (x.m i) (y.m i)=ZD):=λh=>⟨by simp[cB,h.h,lI λi hi=>h.u i (by rw[h.h];exact hi)],λi hi=>by rw[h.m i hi];simp[lS]⟩
 have f:Hid (x.e=y.e->x.L=y.L->x.M=y.M->x.H=y.H->x.f=y.f->cB x.u y.u x.h y.h=ZD->(∀i,i<x.f->lS (x.m i) (y.m i)=ZD)->DeedEq x y):=λh1 h2 h3 h4 h5 S h7=>by simp only[cB,nD,p6] at S;exact⟨h1,h2,h3,h4,S.1,uw S.2,h5,λi hi=>FV (h7 i hi)⟩
 have A:=ae (AX x y);generalize cB x.u y.u x.h y.h=cb at CP m f;generalize DeedEq x y=ZQ at m f A ⊢;go_enter func68,ntmps68;go_upto_region 1 with fail;rw[<-t];clear t hz;generalize World.alloc n _=R at D X Q1 ⊢;obtain⟨B,z0,z1,z2,z3,z4,u⟩:=X.cells;obtain⟨s,y0,y1,y2,y3,y4,ZP⟩:=Q1.cells;have hw:=D.size;have SQ:Hid (∀V,Below R.heap.size R V->w.heap.size<V.heap.size/\w.heap.size+1<V.heap.size/\V.cell? (Q w.heap.size 5 Z)=T (Y a1 x.f c1)/\V.cell? (Q (w.heap.size+1) 5 Z)=T (Y l y.f r)):=λV o=>⟨lj B o.size,lj s o.size,(o.cell (p:=(Q w.heap.size 5 Z)) B).trans u,(o.cell (p:=(Q (w.heap.size+1) 5 Z)) s).trans ZP⟩
 clear X Q1;have g:=A.out;clear A;generalize x.m=xl at P m f;generalize y.m=ZK at ZL m f;generalize x.e=n1 at z0 f g ⊢;generalize x.L=k1 at z1 f g ⊢;generalize x.M=g1 at z2 f g ⊢;generalize x.H=t1 at z3 f g ⊢;generalize x.f=G at u f g P m SQ bt ⊢;generalize y.f=m2 at ZP f g ZL SQ ⊢;rcases g with ⟨h,ZN⟩|⟨rfl,h,h',ZN⟩|⟨rfl,rfl,h,h',ZN⟩|⟨rfl,rfl,rfl,h,ZN⟩|⟨rfl,rfl,rfl,rfl,h,ZN⟩|⟨rfl,rfl,rfl,rfl,rfl⟩
 iterate 5
  ·have z:=ae ZN
   clear ZN;go_wp2;go_ret;exact⟨ZA,rfl,⟨nofun,λe=>(z.out e).elim⟩,D⟩
 have HJ:=ae (f.out rfl rfl rfl rfl rfl);clear f;go_wp2_with fail;refine(CP.out R D).mono ?_;rintro e w1 ⟨rfl,hB⟩;have ZJ:=ae (D.trans (hB.mono hw));have C:=ae hB;clear hB CP z0 z1 z2 z3 z4 u y0 y1 y2 y3 y4 ZP B s hw;cases cb with
 |false =>go_wp2;go_ret;exact⟨ZA,rfl,⟨nofun,λe=>by have:=(m.out e).1;cases this⟩,ZJ⟩
 |true =>
  go_wp2;go_loopw [5] (λi wr=>∃k:Nat,k<=G/\i=J I k/\Hid (∀i,i<k->lS (xl i) (ZK i)=ZD)/\Hid (Below w1.heap.size w1 wr)) (λi _=>G - (intOf i).toNat);case atStart=>exact⟨0,by omega,rfl,λi hi=>absurd hi (by omega),cM _ _⟩
  case round =>
   obtain⟨k,hk,rfl,HK,HW⟩:=hrel;have ZO:=ae (ZJ.trans (HW.mono ZJ.size));obtain⟨B,s,u,ZP⟩:=SQ.out _ (C.trans (HW.mono C.size));by_cases H:k<G
   ·rcases P.aa ZO ly with h|⟨b,off,rfl,hr⟩
    {omega};rcases ZL.aa ZO ly with h|⟨b',off',rfl,ZI⟩
    {omega};obtain⟨e0,e1,e2,e3⟩:=hr.2 k H;obtain⟨g0,g1,g2,g3⟩:=ZI.2 k H;have hb:=hr.1;have ex:=ZI.1;clear hr ZI;have hlt2:(k:Int)<G:=by omega
    have aq:=FW (xl k) (ZK k);go_wp2_with fail;go_quiet (fail);have C:=ae (AI HW nq);have B2:=ae (AI ZO nq);clear e0 e1 e2 e3 g0 g1 g2 g3 aq u ZP hb ex B s;generalize wr.drewN nq=W at C B2 ⊢;cases hb:lS (xl k) (ZK k) with
    |true =>
     have z:=ae hb;clear hb;go_wp2
     exact⟨⟨k+1,by omega,by go_num,(λi hi=>by
      rcases QX.1 hi with h|rfl;{exact HK i h}
      ·exact z),C⟩,by simp[intOf];omega⟩
    |false =>have z:=ae hb;clear hb;go_wp2;go_ret;exact⟨ZA,rfl,⟨nofun,λe=>by have:=(m.out e).2 k H;rw[z.out] at this;cases this⟩,B2⟩
   ·obtain rfl:k=G:=by omega
    go_wp2;go_ret;exact⟨ZD,rfl,⟨λ_=>HJ.out (by simp) HK.out,λ_=>rfl⟩,ZO⟩
theorem mX (a:Option Addr)(n c:Nat)(f:Nat->au)(s:Option Addr)(m A:Nat)(g:Nat->au)(w:E)(hn:n<=1048576)(R:SlDeed w a n f)(ZM:SlDeed w s m g)(r:∀i,i<n->dw (f i)):Calls Pg 22 #[ZG #[Y a n c],ZG #[Y s m A]] w λe L=>Ex (m=n/\∀i,i<n->DeedEq (f i) (g i)) w e L:=by
 have HF:=ae R;have HG:=ae ZM;have HM:=ae r;clear R ZM r;obtain⟨q,o⟩:∃W:E,(w.alloc (N #[Y a n c] 25)).alloc (N #[Y s m A] 25)=W:=⟨_,rfl⟩
 obtain⟨t,-,ZP,-⟩:=nb2 o;have j:=ae o;clear o;have ZL:Hid (q.heap[w.heap.size]?=T (N #[Y a n c] 25 (0,0))):=by rw[<-j.out];show _=_;rw[UJ _ _ (by simp)];exact gM w _
 go_enter func22,ntmps22;go_upto_region 1 with fail;rw[j.out];clear j;have l0:=ar ZL.out;have ZK:=ar ZP.out;have M:=t.size;have S:Hid (∀V,Below q.heap.size q V->V.cell? (Q w.heap.size 0 Z)=T (Y a n c)/\V.cell? (Q (w.heap.size+1) 0 Z)=T (Y s m A)):=λV l=>by have ZQ:=(l.block _ l0).trans ZL.out;have G:=(l.block _ ZK).trans ZP.out;constructor<;>simp[World.cell?,ZQ,G]
 obtain⟨z0,z1⟩:=S.out q br;by_cases x:n=m;case neg =>
  have h2:((n:Int) == (m:Int))=ZA:=by simp;omega
  go_wp2;go_ret;exact⟨ZA,rfl,⟨nofun,λh=>absurd h.1.symm x⟩,t⟩
 subst x;go_wp2;clear z0 z1;go_loopw [5] (λi wr=>∃k:Nat,k<=n/\i=J I k/\Hid (∀i,i<k->DeedEq (f i) (g i))/\Hid (Below q.heap.size q wr)) (λi _=>n - (intOf i).toNat);case atStart=>exact⟨0,by omega,rfl,λi hi=>absurd hi (by omega),cM _ _⟩
 case round =>
  obtain⟨k,hk,rfl,H,u⟩:=hrel;obtain⟨z0,z1⟩:=S.out _ u.out;have l2:=u.size;have B:=ae (t.trans (u.mono M));by_cases p:k<n
  ·rcases HF.aa B ly with h|⟨b,off,rfl,D⟩
   {omega};rcases HG.aa B ly with h|⟨b',off',rfl,C⟩
   {omega};obtain⟨ZQ,G,p2,X,⟨x4,k4,p4,P⟩,⟨x5,k5,ZJ,ZO⟩⟩:=D.2 k p;obtain⟨q0,q1,q2,q3,⟨u4,m4,q4,K⟩,⟨u5,m5,ZI,ZN⟩⟩:=C.2 k p;have hb:=D.1;have hb':=C.1;have CD:=ae (λV (l:Below wr.heap.size wr V)=>AY (f k) (g k) x4 k4 x5 k5 u4 m4 u5 m5 V (HM.out k p) (P.aa l ly) (ZO.aa l ly) (K.aa l ly) (ZN.aa l ly));clear D C P ZO K ZN;have hlt2:(k:Int)<n:=by omega
   go_wp2_with fail;go_region_with (go_at_call 68;refine(CD.out _ (by repeat (first|exact cM _ _|apply Below.drew))).mono ?_;rintro e L ⟨bb,rfl,z,y⟩);all_goals
    have O:=ae (Below.trans (by repeat (first|exact u.out|apply Below.drew)) (y.mono l2));have B2:=ae (t.trans (O.mono M));clear y ZQ G p2 X p4 ZJ q0 q1 q2 q3 q4 ZI z0 z1;cases bb with
    |true =>
     go_wp2
     exact⟨⟨k+1,by omega,by go_num,(λi hi=>by
      rcases QX.1 hi with h|rfl
      ·exact H i h
      ·exact z.1 rfl),O⟩,by simp[intOf];omega⟩
    |false =>go_wp2;go_ret;exact⟨ZA,rfl,⟨nofun,λh=>by have:=z.2 (h k p);cases this⟩,B2⟩
  ·obtain rfl:k=n:=by omega
   go_wp2;go_ret;exact⟨ZD,rfl,⟨λ_=>H.out,λ_=>rfl⟩,B⟩
