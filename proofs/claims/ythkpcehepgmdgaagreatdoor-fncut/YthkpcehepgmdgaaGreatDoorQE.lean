import Derived.Test.YthkpcehepgmdgaaGreatDoorRD
import Derived.Test.YthkpcehepgmdgaaGreatDoorQG
import Derived.Sort.EncStr
set_option maxRecDepth 100000
set_option maxHeartbeats 4000000
open Go renaming Addr.mk->Q,Value.slice->Z,Value.string->U,Value.int->J,Value.bool->ZC,Value.agg->ZH,Obj.cells->N,IntKind.i64->I,World->G,Ending.returned->ZG,Proofs.Tryz.prog->Pg
open Option renaming none->Y,some->T
open Bool renaming false->ZB,true->ZF
namespace Go.Proofs.YthkpcehepgmdgaaGreatDoor.Vp
open Tryz RowKit
section
variable {S S2:Spc}{k t:ByteArray}
theorem rN {c:Nat->Int}:∀{n:Nat},(eV c n).1=0->∀i,i<n->c i=0
 |0,_,i,hi=>absurd hi (by omega)
 |n+1,h,i,hi=>by
  rw[eV] at h;split at h
  ·rename_i b
   split at h
   ·rcases QT.1 hi with e|rfl
    ·exact rN b i e
    ·assumption
   ·contradiction
  ·contradiction
theorem xg {f:Nat->af}{n:Nat}(i:aK f n=ZF):(fZ S.n0 S.f0 S.n1 S.f1 f n).1=0 ↔ bm S.n0 S.f0 S.n1 S.f1=0/\∀p,p<n->Borne S f p:=by
 unfold fZ;rw[hU i];constructor;{intro h;split at h;{rename_i g;refine⟨g,λp b=>?_⟩;have:=rN h p b;unfold dx at this;split at this;{omega};split at this;{omega};rename_i h1 h2;exact⟨by simpa using h1,by simpa using h2,this⟩};{cases h}};{rintro⟨g,h⟩;rw[hU g,mN λp b=>by unfold dx;rw[eT (by rw[(h p b).lie];simp),eT (by rw[(h p b).has];simp)];exact(h p b).run]}
end
def lT (x y:Link):Bool:=x.e.toList == y.e.toList && x.ask == y.ask && x.has == y.has && x.L == y.L
theorem FF {x y:Link}(h:lT x y=ZF):x=y:=by obtain⟨a,b,c,d⟩:=x;obtain⟨a',b',c',d'⟩:=y;simp only[lT,j5,ON] at h;obtain⟨⟨⟨h1,rfl⟩,rfl⟩,rfl⟩:=h;rw[fa h1]
theorem FG (x y:Link)(w:G):(binOp .neq 68 (ZH #[U x.e,ZC x.ask,ZC x.has,J I x.L]) (ZH #[U y.e,ZC y.ask,ZC y.has,J I y.L])).run Pg w=.ok (ZC (!lT x y)) w:=by
 have f:Pg.underlying 68=T (.struct (Pg.fieldsOf 68)):=by kernel_rfl
 have g:Pg.stoodInHeld 68=ZB:=by kernel_rfl
 rw[run_neq_struct,show(10000:Nat)=9999+1 from rfl,run_equalIn_agg w 9999 68 _ _ f g];simp only[Program.fieldsOf,underlying68];go_simp;unfold lT;by_cases h1:x.e.toList=y.e.toList<;>by_cases h2:x.ask=y.ask<;>by_cases b:x.has=y.has<;>by_cases h:x.L=y.L<;>simp[h1,h2,b,h]
theorem uT (a:Option Addr)(n c:Nat)(f:Nat->Ins)(x:Option Addr)(m B:Nat)(g:Nat->Ins)(w:G)(hn:n<=1048576)(ZQ:SlIns w a n f)(K:SlIns w x m g):Calls Pg 44 #[ZH #[Z a n c],ZH #[Z x m B]] w λe V=>e=ZG (ZC (cK f g n m))/\Below w.heap.size w V:=by
 have ZM:=ae ZQ;have R:=ae K;clear ZQ K;obtain⟨s,p⟩:∃W:G,(w.alloc (N #[Z a n c] 41)).alloc (N #[Z x m B] 41)=W:=⟨_,rfl⟩
 obtain⟨ZP,-,-,-⟩:=nb2 p;have j:=ae p;clear p;have A:Hid (PB s w.heap.size (Z a n c)):=by rw[<-j.out];show _=_;rw[UI _ _ (by simp)];exact nD w _
 have E:Hid (PB s (w.heap.size+1) (Z x m B)):=by rw[<-j.out];exact PQ w _ _
 obtain⟨r,l⟩:∃r,r=cK f g n m:=⟨_,rfl⟩
 rw[<-l];have D:=ae l;clear l;go_enter func44,ntmps44;go_upto_region 1 with fail;rw[j.out];clear j;have z0:=A.c0;have z1:=E.c0;have S:=A.lt;have X:=E.lt;by_cases z:n=m;case neg =>
  have h2:((n:Int) == (m:Int))=ZB:=by simp;omega
  go_wp2;go_ret;exact⟨be (by rw[D.out];simp[cK,z]),ZP⟩
 subst z;go_wp2;clear z0 z1;go_loopw [5] (λi wr=>∃k:Nat,k<=n/\i=J I k/\Hid (cX f g k=ZF)/\Hid (∃q,wr=s.drewN q)) (λi _=>n - (intOf i).toNat);case atStart=>exact⟨0,by omega,rfl,rfl,0,rfl⟩
 case round =>
  obtain⟨k,hk,rfl,ZS,O⟩:=hrel;have u:Hid (Below s.heap.size s wr):=by obtain⟨q,o⟩:=O.out;rw[o];exact BG br q
  have z0:=(A.aa u S).c0;have z1:=(E.aa u X).c0;have l2:=u.size;have y:=ae (ZP.trans (u.mono (by omega)));by_cases t:k<n
  ·rcases ZM.aa y ly with h|⟨b,off,rfl,l⟩
   {omega};rcases R.aa y ly with h|⟨b',off',rfl,o⟩
   {omega};obtain⟨c0,c1,c2⟩:=l.2 k t;obtain⟨P,ZN,ZL⟩:=o.2 k t;have hb:=l.1;have H:=o.1;clear l o;have hlt2:(k:Int)<n:=by omega
   have ZO:=ux (f k) (g k);go_wp2_with fail;go_quiet (fail);have M:Hid (∃q,wr.drewN nq=s.drewN q):=by obtain⟨q,o⟩:=O.out;exact⟨q+nq,by rw[o,World.drewN_drewN]⟩
   have L:=ae (BG y nq);clear c0 c1 c2 P ZN ZL ZO z0 z1 hb H;generalize wr.drewN nq=W at M L ⊢;cases hb:jQ (f k) (g k) with
   |true =>have C:=ae hb;clear hb;go_wp2;exact⟨⟨k+1,by omega,by go_num,by show cX f g (k+1)=ZF;rw[cX,ZS.out,C.out];rfl,M⟩,by simp[intOf];omega⟩
   |false =>have C:=ae hb;clear hb;go_wp2;go_ret;exact⟨be (by rw[D.out];simp[cK,jR t C.out]),L⟩
  ·obtain rfl:k=n:=by omega
   go_wp2;go_ret;exact⟨be (by rw[D.out];simp[cK,ZS.out]),y⟩
def El (E:Prop)(w:G)(e:Ending)(f:G):Prop:=∃b:Bool,e=ZG (ZC b)/\(b=ZF ↔ E)/\Below w.heap.size w f
theorem AQ (x y:af):((x.e.toList == y.e.toList)=ZB/\¬ DeedEq x y)∨(x.e=y.e/\(x.H == y.H)=ZB/\¬ x.H=y.H/\¬ DeedEq x y)∨(x.e=y.e/\x.H=y.H/\(x.E == y.E)=ZB/\¬ x.E=y.E/\¬ DeedEq x y)∨(x.e=y.e/\x.H=y.H/\x.E=y.E/\(x.B.toList == y.B.toList)=ZB/\¬ DeedEq x y)∨(x.e=y.e/\x.H=y.H/\x.E=y.E/\x.B=y.B/\((x.f:Int) == (y.f:Int))=ZB/\¬ DeedEq x y)∨(x.e=y.e/\x.H=y.H/\x.E=y.E/\x.B=y.B/\x.f=y.f):=by
 cases h0:(x.e.toList == y.e.toList)
 {exact .inl ⟨rfl,λe=>by rw[e.e] at h0;simp at h0⟩};cases h1:(x.H == y.H)
 {exact .inr (.inl ⟨bytes_beq h0,rfl,by simpa using h1,λe=>by rw[e.H] at h1;simp at h1⟩)};cases h2:(x.E == y.E)
 {exact .inr (.inr (.inl ⟨bytes_beq h0,by simpa using h1,rfl,by simpa using h2,λe=>by rw[e.E] at h2;simp at h2⟩))};cases h3:(x.B.toList == y.B.toList)
 {exact .inr (.inr (.inr (.inl ⟨bytes_beq h0,by simpa using h1,by simpa using h2,rfl,λe=>by rw[e.B] at h3;simp at h3⟩)))};cases h4:((x.f:Int) == (y.f:Int))
 {exact .inr (.inr (.inr (.inr (.inl ⟨bytes_beq h0,by simpa using h1,by simpa using h2,bytes_beq h3,rfl,λe=>by rw[e.f] at h4;simp at h4⟩))))};exact .inr (.inr (.inr (.inr (.inr ⟨bytes_beq h0,by simpa using h1,by simpa using h2,bytes_beq h3,by simp at h4;omega⟩))))
def DeB (V:G)(b:Nat)(x:af)(a0:Option Addr)(c0:Nat)(a1:Option Addr)(c1:Nat):Prop:=V.heap[b]?=T (N #[U x.e,J I x.H,J I x.E,U x.B,Z a0 x.l c0,Z a1 x.f c1] 44 (0,0))
section
variable {V ZL:G}{b:Nat}{x:af}{a0 a1:Option Addr}{c0 c1:Nat}
theorem DeB.cells (h:DeB V b x a0 c0 a1 c1):b<V.heap.size/\V.cell? (Q b 0 Y)=T (U x.e)/\V.cell? (Q b 1 Y)=T (J I x.H)/\V.cell? (Q b 2 Y)=T (J I x.E)/\V.cell? (Q b 3 Y)=T (U x.B)/\V.cell? (Q b 4 Y)=T (Z a0 x.l c0)/\V.cell? (Q b 5 Y)=T (Z a1 x.f c1):=by have f:V.heap[b]?=_:=h;refine⟨ag f,?_,?_,?_,?_,?_,?_⟩<;>simp[World.cell?,f]
end
theorem AR (x y:af)(a0:Option Addr)(c0:Nat)(a1:Option Addr)(c1:Nat)(b0:Option Addr)(ZS:Nat)(B:Option Addr)(ZQ:Nat)(w:G)(g:bJ x)(L:SlIns w a0 x.l x.u)(O:SlLink w a1 x.f x.m)(M:SlIns w b0 y.l y.u)(K:SlLink w B y.f y.m):Calls Pg 16 #[ZH #[U x.e,J I x.H,J I x.E,U x.B,Z a0 x.l c0,Z a1 x.f c1],ZH #[U y.e,J I y.H,J I y.E,U y.B,Z b0 y.l ZS,Z B y.f ZQ]] w λe w'=>El (DeedEq x y) w e w':=by
 obtain⟨q,hW⟩:∃W:G,(w.alloc (N #[U x.e,J I x.H,J I x.E,U x.B,Z a0 x.l c0,Z a1 x.f c1] 44)).alloc (N #[U y.e,J I y.H,J I y.E,U y.B,Z b0 y.l ZS,Z B y.f ZQ] 44)=W:=⟨_,rfl⟩
 obtain⟨H,P0,P1,-⟩:=nb2 hW;have Q0:Hid (DeB q w.heap.size x a0 c0 a1 c1):=P0;have Q1:Hid (DeB q (w.heap.size+1) y b0 ZS B ZQ):=P1;have n:=ae hW;have S:=ae (λV (m:Below w.heap.size w V)=>uT a0 x.l c0 x.u b0 y.l ZS y.u V g.1 (L.aa m ly) (M.aa m ly));have X:=ae O;have U1:=ae K;have bt:=g.2;clear L O M K g P0 P1 hW;have j:Hid (DeedEq x y->cK x.u y.u x.l y.l=ZF/\∀i,i<x.f->lT (x.m i) (y.m i)=ZF):=λh=>⟨by simp[cK,h.l,lN λi hi=>h.u i (by rw[h.l];exact hi)],λi hi=>by rw[h.m i hi];simp[lT]⟩
 have f:Hid (x.e=y.e->x.H=y.H->x.E=y.E->x.B=y.B->x.f=y.f->cK x.u y.u x.l y.l=ZF->(∀i,i<x.f->lT (x.m i) (y.m i)=ZF)->DeedEq x y):=λh1 h2 h3 h4 h5 ZN h7=>by simp only[cK,j5,nX] at ZN;exact⟨h1,h2,h3,h4,ZN.1,un ZN.2,h5,λi hi=>FF (h7 i hi)⟩
 have o:=ae (AQ x y);generalize cK x.u y.u x.l y.l=cb at S j f;generalize DeedEq x y=E at j f o ⊢;go_enter func16,ntmps16;go_upto_region 1 with fail;rw[n.out];clear n;obtain⟨r,z0,z1,z2,z3,z4,D⟩:=Q0.cells;obtain⟨z,y0,y1,y2,y3,y4,A⟩:=Q1.cells;have hw:=H.size;have ZL:Hid (∀V,Below q.heap.size q V->w.heap.size<V.heap.size/\w.heap.size+1<V.heap.size/\V.cell? (Q w.heap.size 5 Y)=T (Z a1 x.f c1)/\V.cell? (Q (w.heap.size+1) 5 Y)=T (Z B y.f ZQ)):=λV m=>⟨lj r m.size,lj z m.size,(m.cell (p:=(Q w.heap.size 5 Y)) r).trans D,(m.cell (p:=(Q (w.heap.size+1) 5 Y)) z).trans A⟩
 clear Q0 Q1;have l:=o.out;clear o;generalize x.m=R at X j f;generalize y.m=ZM at U1 j f;generalize x.e=n1 at z0 f l ⊢;generalize x.H=k1 at z1 f l ⊢;generalize x.E=g1 at z2 f l ⊢;generalize x.B=t1 at z3 f l ⊢;generalize x.f=s at D f l X j ZL bt ⊢;generalize y.f=m2 at A f l U1 ZL ⊢;rcases l with ⟨h,ZO⟩|⟨rfl,h,h',ZO⟩|⟨rfl,rfl,h,h',ZO⟩|⟨rfl,rfl,rfl,h,ZO⟩|⟨rfl,rfl,rfl,rfl,h,ZO⟩|⟨rfl,rfl,rfl,rfl,rfl⟩
 iterate 5
  ·have C:=ae ZO
   clear ZO;go_wp2;go_ret;exact⟨ZB,rfl,⟨nofun,λe=>(C.out e).elim⟩,H⟩
 have HJ:=ae (f.out rfl rfl rfl rfl rfl);clear f;go_wp2_with fail;refine(S.out q H).mono ?_;rintro e w1 ⟨rfl,ZK⟩;have P:=ae (H.trans (ZK.mono hw));have t:=ae ZK;clear ZK S z0 z1 z2 z3 z4 D y0 y1 y2 y3 y4 A r z hw;cases cb with
 |false =>go_wp2;go_ret;exact⟨ZB,rfl,⟨nofun,λe=>by have:=(j.out e).1;cases this⟩,P⟩
 |true =>
  go_wp2;go_loopw [5] (λi wr=>∃k:Nat,k<=s/\i=J I k/\Hid (∀i,i<k->lT (R i) (ZM i)=ZF)/\Hid (Below w1.heap.size w1 wr)) (λi _=>s - (intOf i).toNat);case atStart=>exact⟨0,by omega,rfl,λi hi=>absurd hi (by omega),cM _ _⟩
  case round =>
   obtain⟨k,hk,rfl,HK,n⟩:=hrel;have ZP:=ae (P.trans (n.mono P.size));obtain⟨r,z,D,A⟩:=ZL.out _ (t.trans (n.mono t.size));by_cases u:k<s
   ·rcases X.aa ZP ly with h|⟨b,off,rfl,ZJ⟩
    {omega};rcases U1.aa ZP ly with h|⟨b',off',rfl,hq⟩
    {omega};obtain⟨e0,e1,e2,e3⟩:=ZJ.2 k u;obtain⟨g0,g1,g2,g3⟩:=hq.2 k u;have hb:=ZJ.1;have aq:=hq.1;clear ZJ hq;have hlt2:(k:Int)<s:=by omega
    have ex:=FG (R k) (ZM k);go_wp2_with fail;go_quiet (fail);have t:=ae (BG n nq);have B2:=ae (BG ZP nq);clear e0 e1 e2 e3 g0 g1 g2 g3 ex D A hb aq r z;generalize wr.drewN nq=W at t B2 ⊢;cases hb:lT (R k) (ZM k) with
    |true =>
     have C:=ae hb;clear hb;go_wp2
     exact⟨⟨k+1,by omega,by go_num,(λi hi=>by
      rcases QT.1 hi with h|rfl;{exact HK i h}
      ·exact C),t⟩,by simp[intOf];omega⟩
    |false =>have C:=ae hb;clear hb;go_wp2;go_ret;exact⟨ZB,rfl,⟨nofun,λe=>by have:=(j.out e).2 k u;rw[C.out] at this;cases this⟩,B2⟩
   ·obtain rfl:k=s:=by omega
    go_wp2;go_ret;exact⟨ZF,rfl,⟨λ_=>HJ.out (by simp) HK.out,λ_=>rfl⟩,ZP⟩
theorem mU (a:Option Addr)(n c:Nat)(f:Nat->af)(s:Option Addr)(m A:Nat)(g:Nat->af)(w:G)(hn:n<=1048576)(S:SlDeed w a n f)(ZM:SlDeed w s m g)(r:∀i,i<n->bJ (f i)):Calls Pg 5 #[ZH #[Z a n c],ZH #[Z s m A]] w λe K=>El (m=n/\∀i,i<n->DeedEq (f i) (g i)) w e K:=by
 have HF:=ae S;have X:=ae ZM;have HM:=ae r;clear S ZM r;obtain⟨q,l⟩:∃W:G,(w.alloc (N #[Z a n c] 25)).alloc (N #[Z s m A] 25)=W:=⟨_,rfl⟩
 obtain⟨t,-,ZQ,-⟩:=nb2 l;have j:=ae l;clear l;have H:Hid (q.heap[w.heap.size]?=T (N #[Z a n c] 25 (0,0))):=by rw[<-j.out];show _=_;rw[UI _ _ (by simp)];exact nD w _
 go_enter func5,ntmps5;go_upto_region 1 with fail;rw[j.out];clear j;have l0:=ag H.out;have l1:=ag ZQ.out;have O:=t.size;have ZN:Hid (∀V,Below q.heap.size q V->V.cell? (Q w.heap.size 0 Y)=T (Z a n c)/\V.cell? (Q (w.heap.size+1) 0 Y)=T (Z s m A)):=λV o=>by have E:=(o.block _ l0).trans H.out;have C:=(o.block _ l1).trans ZQ.out;constructor<;>simp[World.cell?,E,C]
 obtain⟨z0,z1⟩:=ZN.out q br;by_cases y:n=m;case neg =>
  have h2:((n:Int) == (m:Int))=ZB:=by simp;omega
  go_wp2;go_ret;exact⟨ZB,rfl,⟨nofun,λh=>absurd h.1.symm y⟩,t⟩
 subst y;go_wp2;clear z0 z1;go_loopw [5] (λi wr=>∃k:Nat,k<=n/\i=J I k/\Hid (∀i,i<k->DeedEq (f i) (g i))/\Hid (Below q.heap.size q wr)) (λi _=>n - (intOf i).toNat);case atStart=>exact⟨0,by omega,rfl,λi hi=>absurd hi (by omega),cM _ _⟩
 case round =>
  obtain⟨k,hk,rfl,L,u⟩:=hrel;obtain⟨z0,z1⟩:=ZN.out _ u.out;have l2:=u.size;have B:=ae (t.trans (u.mono O));by_cases p:k<n
  ·rcases HF.aa B ly with h|⟨b,off,rfl,D⟩
   {omega};rcases X.aa B ly with h|⟨b',off',rfl,ZS⟩
   {omega};obtain⟨E,C,p2,p3,⟨x4,k4,ZJ,R⟩,⟨x5,k5,p5,M⟩⟩:=D.2 k p;obtain⟨q0,q1,q2,q3,⟨u4,m4,q4,ZP⟩,⟨u5,m5,ZL,ZO⟩⟩:=ZS.2 k p;have hb:=D.1;have hb':=ZS.1;have ZK:=ae (λV (o:Below wr.heap.size wr V)=>AR (f k) (g k) x4 k4 x5 k5 u4 m4 u5 m5 V (HM.out k p) (R.aa o ly) (M.aa o ly) (ZP.aa o ly) (ZO.aa o ly));clear D ZS R M ZP ZO;have hlt2:(k:Int)<n:=by omega
   go_wp2_with fail;go_region_with (go_at_call 16;refine(ZK.out _ (by repeat (first|exact cM _ _|apply Below.drew))).mono ?_;rintro e K ⟨bb,rfl,x,z⟩);all_goals
    have P:=ae (Below.trans (by repeat (first|exact u.out|apply Below.drew)) (z.mono l2));have B2:=ae (t.trans (P.mono O));clear z E C p2 p3 ZJ p5 q0 q1 q2 q3 q4 ZL z0 z1;cases bb with
    |true =>
     go_wp2
     exact⟨⟨k+1,by omega,by go_num,(λi hi=>by
      rcases QT.1 hi with h|rfl
      ·exact L i h
      ·exact x.1 rfl),P⟩,by simp[intOf];omega⟩
    |false =>go_wp2;go_ret;exact⟨ZB,rfl,⟨nofun,λh=>by have:=x.2 (h k p);cases this⟩,B2⟩
  ·obtain rfl:k=n:=by omega
   go_wp2;go_ret;exact⟨ZF,rfl,⟨λ_=>L.out,λ_=>rfl⟩,B⟩
