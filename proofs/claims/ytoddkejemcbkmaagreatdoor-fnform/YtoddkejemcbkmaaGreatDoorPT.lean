import Derived.Test.YtoddkejemcbkmaaGreatDoorPU
import Derived.Laws.StructEq
import Derived.Sort.EncStr
set_option maxRecDepth 100000
set_option maxHeartbeats 4000000
open Go renaming Addr.mk->Q,Value.slice->Z,Value.string->U,Value.int->J,Value.bool->ZD,Obj.cells->N,IntKind.i64->I,World->M,Ending.returned->ZF,Proofs.Tryz.prog->Pg
open Option renaming none->Y,some->T
open Bool renaming false->ZA,true->ZG
namespace Go.Proofs.YtoddkejemcbkmaaGreatDoor.Vp
open Tryz RowKit
theorem IC (x y:Ins)(w:M):(binOp .neq 90 (.agg #[J I x.op,U x.s,J I x.n]) (.agg #[J I y.op,U y.s,J I y.n])).run Pg w=.ok (ZD (!mD x y)) w:=by
 have b:Pg.underlying 90=T (.struct (Pg.fieldsOf 90)):=by kernel_rfl
 have c:Pg.stoodInHeld 90=ZA:=by kernel_rfl
 rw[run_neq_struct,show(10000:Nat)=9999+1 from rfl,run_equalIn_agg w 9999 90 _ _ b c];simp only[Program.fieldsOf,underlying90];go_simp;unfold mD;by_cases h1:x.op=y.op<;>by_cases h2:x.s.toList=y.s.toList<;>by_cases h3:x.n=y.n<;>simp[h1,h2,h3]
def mj (x y:Link):Bool:=x.e.toList == y.e.toList && x.ask == y.ask && x.has == y.has && x.L == y.L
theorem Hg {x y:Link}(h:mj x y=ZG):x=y:=by obtain⟨a,b,c,d⟩:=x;obtain⟨a',b',c',d'⟩:=y;simp only[mj,zA,beq_iff_eq] at h;obtain⟨⟨⟨h1,rfl⟩,rfl⟩,rfl⟩:=h;rw[oB h1]
theorem Hh (x y:Link)(w:M):(binOp .neq 93 (.agg #[U x.e,ZD x.ask,ZD x.has,J I x.L]) (.agg #[U y.e,ZD y.ask,ZD y.has,J I y.L])).run Pg w=.ok (ZD (!mj x y)) w:=by
 have b:Pg.underlying 93=T (.struct (Pg.fieldsOf 93)):=by kernel_rfl
 have c:Pg.stoodInHeld 93=ZA:=by kernel_rfl
 rw[run_neq_struct,show(10000:Nat)=9999+1 from rfl,run_equalIn_agg w 9999 93 _ _ b c];simp only[Program.fieldsOf,underlying93];go_simp;unfold mj;by_cases h1:x.e.toList=y.e.toList<;>by_cases h2:x.ask=y.ask<;>by_cases h3:x.has=y.has<;>by_cases h4:x.L=y.L<;>simp[h1,h2,h3,h4]
theorem vf (a:Option Addr)(n c:Nat)(f:Nat->Ins)(y:Option Addr)(m A:Nat)(g:Nat->Ins)(w:M)(hn:n<=1048576)(ZQ:SlIns w a n f)(F:SlIns w y m g):Calls Pg 58 #[.agg #[Z a n c],.agg #[Z y m A]] w λe ZK=>e=ZF (ZD (iH f g n m))/\Below w.heap.size w ZK:=by
 have V:=ae ZQ;have O:=ae F;clear ZQ F;obtain⟨s,p⟩:∃W:M,(w.alloc (N #[Z a n c] 59)).alloc (N #[Z y m A] 59)=W:=⟨_,rfl⟩
 obtain⟨ZO,-,-,-⟩:=nb2 p;have j:=ae p;clear p;have B:Hid (PB s w.heap.size (Z a n c)):=by rw[<-j.out];show _=_;rw[OP _ _ (by simp)];exact n6 w _
 have D:Hid (PB s (w.heap.size+1) (Z y m A)):=by rw[<-j.out];exact SW w _ _
 obtain⟨r,l⟩:∃r,r=iH f g n m:=⟨_,rfl⟩
 rw[<-l];have E:=ae l;clear l;go_enter func58,ntmps58;go_upto_region 1 with fail;rw[j.out];clear j;have z0:=B.c0;have z1:=D.c0;have S:=B.lt;have P:=D.lt;by_cases z:n=m;case neg =>
  have h2:((n:Int) == (m:Int))=ZA:=by simp;omega
  go_wp2;go_ret;exact⟨cF (by rw[E.out];simp[iH,z]),ZO⟩
 subst z;go_wp2;clear z0 z1;go_loopw [5] (λi wr=>∃k:Nat,k<=n/\i=J I k/\Hid (fe f g k=ZG)/\Hid (∃q,wr=s.drewN q)) (λi _=>n - (intOf i).toNat);case atStart=>exact⟨0,by omega,rfl,rfl,0,rfl⟩
 case round =>
  obtain⟨k,hk,rfl,ZP,L⟩:=hrel;have u:Hid (Below s.heap.size s wr):=by obtain⟨q,o⟩:=L.out;rw[o];exact AS br q
  have z0:=(B.aa u S).c0;have z1:=(D.aa u P).c0;have l2:=u.size;have x:=ae (ZO.trans (u.mono (by omega)));by_cases t:k<n
  ·rcases V.aa x ly with h|⟨b,off,rfl,l⟩
   {omega};rcases O.aa x ly with h|⟨b',off',rfl,o⟩
   {omega};obtain⟨c0,c1,c2⟩:=l.2 k t;obtain⟨ZM,R,ZL⟩:=o.2 k t;have hb:=l.1;have G:=o.1;clear l o;have hlt2:(k:Int)<n:=by omega
   have H:=IC (f k) (g k);go_wp2_with fail;go_quiet (fail);have K:Hid (∃q,wr.drewN nq=s.drewN q):=by obtain⟨q,o⟩:=L.out;exact⟨q+nq,by rw[o,World.drewN_drewN]⟩
   have ZN:=ae (AS x nq);clear c0 c1 c2 ZM R ZL H z0 z1 hb G;generalize wr.drewN nq=W at K ZN ⊢;cases hb:mD (f k) (g k) with
   |true =>have C:=ae hb;clear hb;go_wp2;exact⟨⟨k+1,by omega,by go_num,by show fe f g (k+1)=ZG;rw[fe,ZP.out,C.out];rfl,K⟩,by simp[intOf];omega⟩
   |false =>have C:=ae hb;clear hb;go_wp2;go_ret;exact⟨cF (by rw[E.out];simp[iH,vA t C.out]),ZN⟩
  ·obtain rfl:k=n:=by omega
   go_wp2;go_ret;exact⟨cF (by rw[E.out];simp[iH,ZP.out]),x⟩
def FJ (E:Prop)(w:M)(e:Ending)(c:M):Prop:=∃b:Bool,e=ZF (ZD b)/\(b=ZG ↔ E)/\Below w.heap.size w c
theorem Ci (x y:Deed):((x.e.toList == y.e.toList)=ZA/\¬ fv x y)∨(x.e=y.e/\(x.E == y.E)=ZA/\¬ x.E=y.E/\¬ fv x y)∨(x.e=y.e/\x.E=y.E/\(x.B == y.B)=ZA/\¬ x.B=y.B/\¬ fv x y)∨(x.e=y.e/\x.E=y.E/\x.B=y.B/\(x.h.toList == y.h.toList)=ZA/\¬ fv x y)∨(x.e=y.e/\x.E=y.E/\x.B=y.B/\x.h=y.h/\((x.b:Int) == (y.b:Int))=ZA/\¬ fv x y)∨(x.e=y.e/\x.E=y.E/\x.B=y.B/\x.h=y.h/\x.b=y.b):=by
 cases h0:(x.e.toList == y.e.toList)
 {exact .inl ⟨rfl,λe=>by rw[e.e] at h0;simp at h0⟩};cases h1:(x.E == y.E)
 {exact .inr (.inl ⟨bytes_beq h0,rfl,by simpa using h1,λe=>by rw[e.E] at h1;simp at h1⟩)};cases h2:(x.B == y.B)
 {exact .inr (.inr (.inl ⟨bytes_beq h0,by simpa using h1,rfl,by simpa using h2,λe=>by rw[e.B] at h2;simp at h2⟩))};cases h3:(x.h.toList == y.h.toList)
 {exact .inr (.inr (.inr (.inl ⟨bytes_beq h0,by simpa using h1,by simpa using h2,rfl,λe=>by rw[e.h] at h3;simp at h3⟩)))};cases h4:((x.b:Int) == (y.b:Int))
 {exact .inr (.inr (.inr (.inr (.inl ⟨bytes_beq h0,by simpa using h1,by simpa using h2,bytes_beq h3,rfl,λe=>by rw[e.b] at h4;simp at h4⟩))))};exact .inr (.inr (.inr (.inr (.inr ⟨bytes_beq h0,by simpa using h1,by simpa using h2,bytes_beq h3,by simp at h4;omega⟩))))
def DeB (V:M)(b:Nat)(x:Deed)(a0:Option Addr)(c0:Nat)(a1:Option Addr)(c1:Nat):Prop:=V.heap[b]?=T (N #[U x.e,J I x.E,J I x.B,U x.h,Z a0 x.f c0,Z a1 x.b c1] 62 (0,0))
section
variable {V ZK:M}{b:Nat}{x:Deed}{a0 a1:Option Addr}{c0 c1:Nat}
theorem DeB.cells (h:DeB V b x a0 c0 a1 c1):b<V.heap.size/\V.cell? (Q b 0 Y)=T (U x.e)/\V.cell? (Q b 1 Y)=T (J I x.E)/\V.cell? (Q b 2 Y)=T (J I x.B)/\V.cell? (Q b 3 Y)=T (U x.h)/\V.cell? (Q b 4 Y)=T (Z a0 x.f c0)/\V.cell? (Q b 5 Y)=T (Z a1 x.b c1):=by have c:V.heap[b]?=_:=h;refine⟨ah c,?_,?_,?_,?_,?_,?_⟩<;>simp[World.cell?,c]
theorem DeB.aa (h:DeB V b x a0 c0 a1 c1)(hb:Below V.heap.size V ZK):DeB ZK b x a0 c0 a1 c1:=(hb.block b (ah h)).trans h
end
theorem Cj (x y:Deed)(a0:Option Addr)(c0:Nat)(a1:Option Addr)(c1:Nat)(b0:Option Addr)(o:Nat)(n:Option Addr)(q:Nat)(w:M)(j:dk x)(ZP:SlIns w a0 x.f x.G)(L:SlLink w a1 x.b x.m)(ZO:SlIns w b0 y.f y.G)(K:SlLink w n y.b y.m):Calls Pg 32 #[.agg #[U x.e,J I x.E,J I x.B,U x.h,Z a0 x.f c0,Z a1 x.b c1],.agg #[U y.e,J I y.E,J I y.B,U y.h,Z b0 y.f o,Z n y.b q]] w λe w'=>FJ (fv x y) w e w':=by
 obtain⟨m,t⟩:∃m,m=w.alloc (N #[U x.e,J I x.E,J I x.B,U x.h,Z a0 x.f c0,Z a1 x.b c1] 62):=⟨_,rfl⟩
 have P:=(q9 w).alloc ly (N #[U x.e,J I x.E,J I x.B,U x.h,Z a0 x.f c0,Z a1 x.b c1] 62);have ZK:DeB (w.alloc (N #[U x.e,J I x.E,J I x.B,U x.h,Z a0 x.f c0,Z a1 x.b c1] 62)) w.heap.size x a0 c0 a1 c1:=n6 w _;have hz:(w.alloc (N #[U x.e,J I x.E,J I x.B,U x.h,Z a0 x.f c0,Z a1 x.b c1] 62)).heap.size=w.heap.size+1:=by simp
 rw[<-t] at P ZK hz;have G:=ae (P.alloc (by omega) (N #[U y.e,J I y.E,J I y.B,U y.h,Z b0 y.f o,Z n y.b q] 62));have ZM:=ae (ZK.aa ((q9 m).alloc ly (N #[U y.e,J I y.E,J I y.B,U y.h,Z b0 y.f o,Z n y.b q] 62)));have ZQ:Hid (DeB (m.alloc (N #[U y.e,J I y.E,J I y.B,U y.h,Z b0 y.f o,Z n y.b q] 62)) (w.heap.size+1) y b0 o n q):=by rw[<-hz];exact n6 m _
 have CP:=ae (λV (f:Below w.heap.size w V)=>vf a0 x.f c0 x.G b0 y.f o y.G V j.1 (ZP.aa f ly) (ZO.aa f ly));have V1:=ae L;have U1:=ae K;have aq:=j.2;clear ZP L ZO K j P ZK;have g:Hid (fv x y->iH x.G y.G x.f y.f=ZG/\∀i,i<x.b->mj (x.m i) (y.m i)=ZG):=λh=>⟨by simp[iH,h.f,pW λi hi=>h.G i (by rw[h.f];exact hi)],λi hi=>by rw[h.m i hi];simp[mj]⟩
 have c:Hid (x.e=y.e->x.E=y.E->x.B=y.B->x.h=y.h->x.b=y.b->iH x.G y.G x.f y.f=ZG->(∀i,i<x.b->mj (x.m i) (y.m i)=ZG)->fv x y):=λh1 h2 h3 h4 h5 h6 h7=>by simp only[iH,zA,z8] at h6;exact⟨h1,h2,h3,h4,h6.1,Eq h6.2,h5,λi hi=>Hg (h7 i hi)⟩
 have B:=ae (Ci x y);generalize iH x.G y.G x.f y.f=cb at CP g c;generalize fv x y=E at g c B ⊢;go_enter func32,ntmps32;go_upto_region 1 with fail;rw[<-t];clear t hz;generalize World.alloc m _=S at G ZM ZQ ⊢;obtain⟨C,z0,z1,z2,z3,z4,F⟩:=ZM.cells;obtain⟨r,y0,y1,y2,y3,y4,D⟩:=ZQ.cells;have hw:=G.size;have ZL:Hid (∀V,Below S.heap.size S V->w.heap.size<V.heap.size/\w.heap.size+1<V.heap.size/\V.cell? (Q w.heap.size 5 Y)=T (Z a1 x.b c1)/\V.cell? (Q (w.heap.size+1) 5 Y)=T (Z n y.b q)):=λV f=>⟨lj C f.size,lj r f.size,(f.cell (p:=(Q w.heap.size 5 Y)) C).trans F,(f.cell (p:=(Q (w.heap.size+1) 5 Y)) r).trans D⟩
 clear ZM ZQ;have l:=B.out;clear B;generalize x.m=xl at V1 g c;generalize y.m=ZJ at U1 g c;generalize x.e=n1 at z0 c l ⊢;generalize x.E=k1 at z1 c l ⊢;generalize x.B=g1 at z2 c l ⊢;generalize x.h=t1 at z3 c l ⊢;generalize x.b=u at F c l V1 g ZL aq ⊢;generalize y.b=m2 at D c l U1 ZL ⊢;rcases l with ⟨h,ZN⟩|⟨rfl,h,h',ZN⟩|⟨rfl,rfl,h,h',ZN⟩|⟨rfl,rfl,rfl,h,ZN⟩|⟨rfl,rfl,rfl,rfl,h,ZN⟩|⟨rfl,rfl,rfl,rfl,rfl⟩
 iterate 5
  ·have A:=ae ZN
   clear ZN;go_wp2;go_ret;exact⟨ZA,rfl,⟨nofun,λe=>(A.out e).elim⟩,G⟩
 have HJ:=ae (c.out rfl rfl rfl rfl rfl);clear c;go_wp2_with fail;refine(CP.out S G).mono ?_;rintro e w1 ⟨rfl,ZI⟩;have A2:=ae (G.trans (ZI.mono hw));have s:=ae ZI;clear ZI CP z0 z1 z2 z3 z4 F y0 y1 y2 y3 y4 D C r hw;cases cb with
 |false =>go_wp2;go_ret;exact⟨ZA,rfl,⟨nofun,λe=>by have:=(g.out e).1;cases this⟩,A2⟩
 |true =>
  go_wp2;go_loopw [5] (λi wr=>∃k:Nat,k<=u/\i=J I k/\Hid (∀i,i<k->mj (xl i) (ZJ i)=ZG)/\Hid (Below w1.heap.size w1 wr)) (λi _=>u - (intOf i).toNat);case atStart=>exact⟨0,by omega,rfl,λi hi=>absurd hi (by omega),eL _ _⟩
  case round =>
   obtain⟨k,hk,rfl,HK,R⟩:=hrel;have H:=ae (A2.trans (R.mono A2.size));obtain⟨C,r,F,D⟩:=ZL.out _ (s.trans (R.mono s.size));by_cases z:k<u
   ·rcases V1.aa H ly with h|⟨b,off,rfl,X⟩
    {omega};rcases U1.aa H ly with h|⟨b',off',rfl,O⟩
    {omega};obtain⟨e0,e1,e2,e3⟩:=X.2 k z;obtain⟨g0,g1,g2,g3⟩:=O.2 k z;have hb:=X.1;have dg:=O.1;clear X O;have hlt2:(k:Int)<u:=by omega
    have bt:=Hh (xl k) (ZJ k);go_wp2_with fail;go_quiet (fail);have s:=ae (AS R nq);have B2:=ae (AS H nq);clear e0 e1 e2 e3 g0 g1 g2 g3 bt F D hb dg C r;generalize wr.drewN nq=W at s B2 ⊢;cases hb:mj (xl k) (ZJ k) with
    |true =>
     have A:=ae hb;clear hb;go_wp2
     exact⟨⟨k+1,by omega,by go_num,(λi hi=>by
      rcases Nat.lt_succ_iff_lt_or_eq.1 hi with h|rfl;{exact HK i h}
      ·exact A),s⟩,by simp[intOf];omega⟩
    |false =>have A:=ae hb;clear hb;go_wp2;go_ret;exact⟨ZA,rfl,⟨nofun,λe=>by have:=(g.out e).2 k z;rw[A.out] at this;cases this⟩,B2⟩
   ·obtain rfl:k=u:=by omega
    go_wp2;go_ret;exact⟨ZG,rfl,⟨λ_=>HJ.out (by simp) HK.out,λ_=>rfl⟩,H⟩
theorem vg (a:Option Addr)(n c:Nat)(f:Nat->Deed)(s:Option Addr)(m B:Nat)(g:Nat->Deed)(w:M)(hn:n<=1048576)(S:SlDeed w a n f)(G:SlDeed w s m g)(r:∀i,i<n->dk (f i)):Calls Pg 9 #[.agg #[Z a n c],.agg #[Z s m B]] w λe P=>FJ (m=n/\∀i,i<n->fv (f i) (g i)) w e P:=by
 have HF:=ae S;have HG:=ae G;have HM:=ae r;clear S G r;obtain⟨q,l⟩:∃W:M,(w.alloc (N #[Z a n c] 25)).alloc (N #[Z s m B] 25)=W:=⟨_,rfl⟩
 obtain⟨u,-,ZO,-⟩:=nb2 l;have o:=ae l;clear l;have ZN:Hid (q.heap[w.heap.size]?=T (N #[Z a n c] 25 (0,0))):=by rw[<-o.out];show _=_;rw[OP _ _ (by simp)];exact n6 w _
 go_enter func9,ntmps9;go_upto_region 1 with fail;rw[o.out];clear o;have l0:=ah ZN.out;have ZL:=ah ZO.out;have R:=u.size;have ZQ:Hid (∀V,Below q.heap.size q V->V.cell? (Q w.heap.size 0 Y)=T (Z a n c)/\V.cell? (Q (w.heap.size+1) 0 Y)=T (Z s m B)):=λV j=>by have F:=(j.block _ l0).trans ZN.out;have D:=(j.block _ ZL).trans ZO.out;constructor<;>simp[World.cell?,F,D]
 obtain⟨z0,z1⟩:=ZQ.out q br;by_cases x:n=m;case neg =>
  have h2:((n:Int) == (m:Int))=ZA:=by simp;omega
  go_wp2;go_ret;exact⟨ZA,rfl,⟨nofun,λh=>absurd h.1.symm x⟩,u⟩
 subst x;go_wp2;clear z0 z1;go_loopw [5] (λi wr=>∃k:Nat,k<=n/\i=J I k/\Hid (∀i,i<k->fv (f i) (g i))/\Hid (Below q.heap.size q wr)) (λi _=>n - (intOf i).toNat);case atStart=>exact⟨0,by omega,rfl,λi hi=>absurd hi (by omega),eL _ _⟩
 case round =>
  obtain⟨k,hk,rfl,K,t⟩:=hrel;obtain⟨z0,z1⟩:=ZQ.out _ t.out;have X:=t.size;have E:=ae (u.trans (t.mono R));by_cases p:k<n
  ·rcases HF.aa E ly with h|⟨b,off,rfl,C⟩
   {omega};rcases HG.aa E ly with h|⟨b',off',rfl,A⟩
   {omega};obtain⟨F,D,p2,p3,⟨x4,k4,p4,O⟩,⟨x5,k5,p5,ZP⟩⟩:=C.2 k p;obtain⟨q0,ZI,q2,q3,⟨u4,ZK,q4,ZM⟩,⟨u5,m5,q5,H⟩⟩:=A.2 k p;have hb:=C.1;have hb':=A.1;have CD:=ae (λV (j:Below wr.heap.size wr V)=>Cj (f k) (g k) x4 k4 x5 k5 u4 ZK u5 m5 V (HM.out k p) (O.aa j ly) (ZP.aa j ly) (ZM.aa j ly) (H.aa j ly));clear C A O ZP ZM H;have hlt2:(k:Int)<n:=by omega
   go_wp2_with fail;go_region_with (go_at_call 32;refine(CD.out _ (by repeat (first|exact eL _ _|apply QK))).mono ?_;rintro e P ⟨ZJ,rfl,y,z⟩);all_goals
    have L:=ae (Below.trans (by repeat (first|exact t.out|apply QK)) (z.mono X));have B2:=ae (u.trans (L.mono R));clear z F D p2 p3 p4 p5 q0 ZI q2 q3 q4 q5 z0 z1;cases ZJ with
    |true =>
     go_wp2
     exact⟨⟨k+1,by omega,by go_num,(λi hi=>by
      rcases Nat.lt_succ_iff_lt_or_eq.1 hi with h|rfl
      ·exact K i h
      ·exact y.1 rfl),L⟩,by simp[intOf];omega⟩
    |false =>go_wp2;go_ret;exact⟨ZA,rfl,⟨nofun,λh=>by have:=y.2 (h k p);cases this⟩,B2⟩
  ·obtain rfl:k=n:=by omega
   go_wp2;go_ret;exact⟨ZG,rfl,⟨λ_=>K.out,λ_=>rfl⟩,E⟩
