import Derived.Test.YtpmnbjkjpnclaaaGreatDoorTie
import Derived.ProofKit
import Derived.OpenShut
import Derived.Deep.DeepHandedRow
import Derived.Lib.LaidTab
import Derived.Stop.LaidErr
import Derived.Stop.LaidTwo
import Derived.Test.YtpmnbjkjpnclaaaGreatDoorOJ
import Derived.Test.YtpmnbjkjpnclaaaGreatDoorOB
import Derived.Laws.StructEq
import Derived.Sort.EncStr
set_option maxRecDepth 100000
set_option maxHeartbeats 16000000
set_option linter.unusedSimpArgs false
open Go renaming Addr.mk->Q,Value.slice->Z,Obj.cells->J,IntKind.i64->I,World->M,Value->ZC,TypeId->ZI,Ending.returned->ZF,World.heap->U,World.cell?->A,Proofs.Tryz.prog->Pg
open Option renaming none->Y,some->T
open Bool renaming false->ZA,true->ZG
open Array renaming size->N
namespace Go.Proofs.YtpmnbjkjpnclaaaGreatDoor.Vp
open RowKit
theorem JW (x y:Ins)(w:M):(binOp .neq 151 (.agg #[.int I x.op,.string x.s,.int I x.n]) (.agg #[.int I y.op,.string y.s,.int I y.n])).run Pg w=.ok (.bool (!mS x y)) w:=by
 have c:Pg.underlying 151=T (.struct (Pg.fieldsOf 151)):=by kernel_rfl
 have b:Pg.stoodInHeld 151=ZA:=by kernel_rfl
 rw[run_neq_struct,show(10000:Nat)=9999+1 from rfl,run_equalIn_agg w 9999 151 _ _ c b];simp only[Program.fieldsOf,WX];go_simp;unfold mS;by_cases h1:x.op=y.op<;>by_cases h2:x.s.toList=y.s.toList<;>by_cases h3:x.n=y.n<;>simp[h1,h2,h3]
def mJ (x y:Link):Bool:=x.e.toList == y.e.toList && x.ask == y.ask && x.has == y.has && x.L == y.L
theorem I7 {x y:Link}(h:mJ x y=ZG):x=y:=by obtain⟨a,b,c,d⟩:=x;obtain⟨a',b',c',d'⟩:=y;simp only[mJ,zA,beq_iff_eq] at h;obtain⟨⟨⟨h1,rfl⟩,rfl⟩,rfl⟩:=h;rw[oS h1]
theorem I8 (x y:Link)(w:M):(binOp .neq 91 (.agg #[.string x.e,.bool x.ask,.bool x.has,.int I x.L]) (.agg #[.string y.e,.bool y.ask,.bool y.has,.int I y.L])).run Pg w=.ok (.bool (!mJ x y)) w:=by
 have c:Pg.underlying 91=T (.struct (Pg.fieldsOf 91)):=by kernel_rfl
 have b:Pg.stoodInHeld 91=ZA:=by kernel_rfl
 rw[run_neq_struct,show(10000:Nat)=9999+1 from rfl,run_equalIn_agg w 9999 91 _ _ c b];simp only[Program.fieldsOf,Tryz.underlying91];go_simp;unfold mJ;by_cases h1:x.e.toList=y.e.toList<;>by_cases h2:x.ask=y.ask<;>by_cases h3:x.has=y.has<;>by_cases h4:x.L=y.L<;>simp[h1,h2,h3,h4]
theorem wI (a:Option Addr)(n c:Nat)(f:Nat->Ins)(u:Option Addr)(m E:Nat)(g:Nat->Ins)(w:M)(hn:n<=1048576)(ZQ:SlIns w a n f)(ZP:SlIns w u m g):Calls Pg 116 #[.agg #[Z a n c],.agg #[Z u m E]] w λe R=>e=ZF (.bool (iR f g n m))/\Below (N (U w)) w R:=by
 have O:=ae ZQ;have P:=ae ZP;clear ZQ ZP;obtain⟨s,p⟩:∃W:M,(w.alloc (J #[Z a n c] 43)).alloc (J #[Z u m E] 43)=W:=⟨_,rfl⟩
 obtain⟨K,-,-,-⟩:=nb2 p;have j:=ae p;clear p;have D:Hid (PB s (N (U w)) (Z a n c)):=by rw[<-j.out];show _=_;rw[QR _ _ (by simp)];exact nL w _
 have C:Hid (PB s (N (U w)+1) (Z u m E)):=by rw[<-j.out];exact UY w _ _
 obtain⟨r,l⟩:∃r,r=iR f g n m:=⟨_,rfl⟩
 rw[<-l];have ZS:=ae l;clear l;go_enter Tryz.func116,Tryz.ntmps116;go_upto_region 1 with fail;rw[j.out];clear j;have z0:=D.c0;have z1:=C.c0;have ZM:=D.lt;have ZN:=C.lt;by_cases z:n=m;case neg =>
  have h2:((n:Int) == (m:Int))=ZA:=by simp;omega
  go_wp2;go_ret;exact⟨cG (by rw[ZS.out];simp[iR,z]),K⟩
 subst z;go_wp2;clear z0 z1;go_loopw [5] (λi wr=>∃k:Nat,k<=n/\i=.int I k/\Hid (fo f g k=ZG)/\Hid (∃q,wr=s.drewN q)) (λi _=>n - (intOf i).toNat);case atStart=>exact⟨0,by omega,rfl,rfl,0,rfl⟩
 case round =>
  obtain⟨k,hk,rfl,G,ZR⟩:=hrel;have x:Hid (Below (N (U s)) s wr):=by obtain⟨q,o⟩:=ZR.out;rw[o];exact BM br q
  have z0:=(D.aa x ZM).c0;have z1:=(C.aa x ZN).c0;have l2:=x.size;have y:=ae (K.trans (x.mono (by omega)));by_cases t:k<n
  ·rcases O.aa y ly with h|⟨b,off,rfl,l⟩
   {omega};rcases P.aa y ly with h|⟨b',off',rfl,o⟩
   {omega};obtain⟨c0,c1,c2⟩:=l.2 k t;obtain⟨V,ZL,S⟩:=o.2 k t;have hb:=l.1;have ZO:=o.1;clear l o;have hlt2:(k:Int)<n:=by omega
   have L:=JW (f k) (g k);go_wp2_with fail;go_quiet (fail);have H:Hid (∃q,wr.drewN nq=s.drewN q):=by obtain⟨q,o⟩:=ZR.out;exact⟨q+nq,by rw[o,World.drewN_drewN]⟩
   have F:=ae (BM y nq);clear c0 c1 c2 V ZL S L z0 z1 hb ZO;generalize wr.drewN nq=W at H F ⊢;cases hb:mS (f k) (g k) with
   |true =>have B:=ae hb;clear hb;go_wp2;exact⟨⟨k+1,by omega,by go_num,by show fo f g (k+1)=ZG;rw[fo,G.out,B.out];rfl,H⟩,by simp[intOf];omega⟩
   |false =>have B:=ae hb;clear hb;go_wp2;go_ret;exact⟨cG (by rw[ZS.out];simp[iR,wM t B.out]),F⟩
  ·obtain rfl:k=n:=by omega
   go_wp2;go_ret;exact⟨cG (by rw[ZS.out];simp[iR,G.out]),y⟩
def GQ (E:Prop)(w:M)(e:Ending)(c:M):Prop:=∃b:Bool,e=ZF (.bool b)/\(b=ZG ↔ E)/\Below (N (U w)) w c
theorem DK (x y:Deed):((x.e.toList == y.e.toList)=ZA/\¬ fD x y)∨(x.e=y.e/\(x.m == y.m)=ZA/\¬ x.m=y.m/\¬ fD x y)∨(x.e=y.e/\x.m=y.m/\(x.E == y.E)=ZA/\¬ x.E=y.E/\¬ fD x y)∨(x.e=y.e/\x.m=y.m/\x.E=y.E/\(x.B.toList == y.B.toList)=ZA/\¬ fD x y)∨(x.e=y.e/\x.m=y.m/\x.E=y.E/\x.B=y.B/\((x.b:Int) == (y.b:Int))=ZA/\¬ fD x y)∨(x.e=y.e/\x.m=y.m/\x.E=y.E/\x.B=y.B/\x.b=y.b):=by
 cases h0:(x.e.toList == y.e.toList)
 {exact .inl ⟨rfl,λe=>by rw[e.e] at h0;simp at h0⟩};cases h1:(x.m == y.m)
 {exact .inr (.inl ⟨bytes_beq h0,rfl,by simpa using h1,λe=>by rw[e.m] at h1;simp at h1⟩)};cases h2:(x.E == y.E)
 {exact .inr (.inr (.inl ⟨bytes_beq h0,by simpa using h1,rfl,by simpa using h2,λe=>by rw[e.E] at h2;simp at h2⟩))};cases h3:(x.B.toList == y.B.toList)
 {exact .inr (.inr (.inr (.inl ⟨bytes_beq h0,by simpa using h1,by simpa using h2,rfl,λe=>by rw[e.B] at h3;simp at h3⟩)))};cases h4:((x.b:Int) == (y.b:Int))
 {exact .inr (.inr (.inr (.inr (.inl ⟨bytes_beq h0,by simpa using h1,by simpa using h2,bytes_beq h3,rfl,λe=>by rw[e.b] at h4;simp at h4⟩))))};exact .inr (.inr (.inr (.inr (.inr ⟨bytes_beq h0,by simpa using h1,by simpa using h2,bytes_beq h3,by simp at h4;omega⟩))))
def DeB (V:M)(b:Nat)(x:Deed)(a0:Option Addr)(c0:Nat)(a1:Option Addr)(c1:Nat):Prop:=V.heap[b]?=T (J #[.string x.e,.int I x.m,.int I x.E,.string x.B,Z a0 x.f c0,Z a1 x.b c1] 46 (0,0))
section
variable {V ZL:M}{b:Nat}{x:Deed}{a0 a1:Option Addr}{c0 c1:Nat}
theorem DeB.cells (h:DeB V b x a0 c0 a1 c1):b<N (U V)/\A V (Q b 0 Y)=T (.string x.e)/\A V (Q b 1 Y)=T (.int I x.m)/\A V (Q b 2 Y)=T (.int I x.E)/\A V (Q b 3 Y)=T (.string x.B)/\A V (Q b 4 Y)=T (Z a0 x.f c0)/\A V (Q b 5 Y)=T (Z a1 x.b c1):=by have c:V.heap[b]?=_:=h;refine⟨ag c,?_,?_,?_,?_,?_,?_⟩<;>simp[World.cell?,c]
theorem DeB.aa (h:DeB V b x a0 c0 a1 c1)(hb:Below (N (U V)) V ZL):DeB ZL b x a0 c0 a1 c1:=(hb.block b (ag h)).trans h
end
theorem DO (x y:Deed)(a0:Option Addr)(c0:Nat)(a1:Option Addr)(c1:Nat)(b0:Option Addr)(q:Nat)(j:Option Addr)(o:Nat)(w:M)(f:cV x)(L:SlIns w a0 x.f x.H)(ZQ:SlLink w a1 x.b x.D)(ZP:SlIns w b0 y.f y.H)(K:SlLink w j y.b y.D):Calls Pg 58 #[.agg #[.string x.e,.int I x.m,.int I x.E,.string x.B,Z a0 x.f c0,Z a1 x.b c1],.agg #[.string y.e,.int I y.m,.int I y.E,.string y.B,Z b0 y.f q,Z j y.b o]] w λe w'=>GQ (fD x y) w e w':=by
 obtain⟨g,F⟩:∃g,g=w.alloc (J #[.string x.e,.int I x.m,.int I x.E,.string x.B,Z a0 x.f c0,Z a1 x.b c1] 46):=⟨_,rfl⟩
 have A1:=(q9 w).alloc ly (J #[.string x.e,.int I x.m,.int I x.E,.string x.B,Z a0 x.f c0,Z a1 x.b c1] 46);have ZK:DeB (w.alloc (J #[.string x.e,.int I x.m,.int I x.E,.string x.B,Z a0 x.f c0,Z a1 x.b c1] 46)) (N (U w)) x a0 c0 a1 c1:=nL w _;have hz:(w.alloc (J #[.string x.e,.int I x.m,.int I x.E,.string x.B,Z a0 x.f c0,Z a1 x.b c1] 46)).heap.size=N (U w)+1:=by simp
 rw[<-F] at A1 ZK hz;have r:=ae (A1.alloc (by omega) (J #[.string y.e,.int I y.m,.int I y.E,.string y.B,Z b0 y.f q,Z j y.b o] 46));have ZN:=ae (ZK.aa ((q9 g).alloc ly (J #[.string y.e,.int I y.m,.int I y.E,.string y.B,Z b0 y.f q,Z j y.b o] 46)));have Q1:Hid (DeB (g.alloc (J #[.string y.e,.int I y.m,.int I y.E,.string y.B,Z b0 y.f q,Z j y.b o] 46)) (N (U w)+1) y b0 q j o):=by rw[<-hz];exact nL g _
 have ZR:=ae (λV (n:Below (N (U w)) w V)=>wI a0 x.f c0 x.H b0 y.f q y.H V f.1 (L.aa n ly) (ZP.aa n ly));have O:=ae ZQ;have U1:=ae K;have dg:=f.2;clear L ZQ ZP K f A1 ZK;have m:Hid (fD x y->iR x.H y.H x.f y.f=ZG/\∀i,i<x.b->mJ (x.D i) (y.D i)=ZG):=λh=>⟨by simp[iR,h.f,qE λi hi=>h.H i (by rw[h.f];exact hi)],λi hi=>by rw[h.D i hi];simp[mJ]⟩
 have c:Hid (x.e=y.e->x.m=y.m->x.E=y.E->x.B=y.B->x.b=y.b->iR x.H y.H x.f y.f=ZG->(∀i,i<x.b->mJ (x.D i) (y.D i)=ZG)->fD x y):=λh1 h2 h3 h4 h5 ZJ h7=>by simp only[iR,zA,z8] at ZJ;exact⟨h1,h2,h3,h4,ZJ.1,Fz ZJ.2,h5,λi hi=>I7 (h7 i hi)⟩
 have u:=ae (DK x y);generalize iR x.H y.H x.f y.f=cb at ZR m c;generalize fD x y=E at m c u ⊢;go_enter Tryz.func58,Tryz.ntmps58;go_upto_region 1 with fail;rw[<-F];clear F hz;generalize World.alloc g _=P at r ZN Q1 ⊢;obtain⟨B,z0,z1,z2,z3,z4,D⟩:=ZN.cells;obtain⟨s,y0,y1,y2,y3,y4,t⟩:=Q1.cells;have hw:=r.size;have ZM:Hid (∀V,Below (N (U P)) P V->N (U w)<N (U V)/\(N (U w))+1<N (U V)/\A V (Q (N (U w)) 5 Y)=T (Z a1 x.b c1)/\A V (Q (N (U w)+1) 5 Y)=T (Z j y.b o)):=λV n=>⟨lj B n.size,lj s n.size,(n.cell (p:=(Q (N (U w)) 5 Y)) B).trans D,(n.cell (p:=(Q (N (U w)+1) 5 Y)) s).trans t⟩
 clear ZN Q1;have l:=u.out;clear u;generalize x.D=ZL at O m c;generalize y.D=yl at U1 m c;generalize x.e=n1 at z0 c l ⊢;generalize x.m=k1 at z1 c l ⊢;generalize x.E=g1 at z2 c l ⊢;generalize x.B=t1 at z3 c l ⊢;generalize x.b=G at D c l O m ZM dg ⊢;generalize y.b=m2 at t c l U1 ZM ⊢;rcases l with ⟨h,ZO⟩|⟨rfl,h,h',ZO⟩|⟨rfl,rfl,h,h',ZO⟩|⟨rfl,rfl,rfl,h,ZO⟩|⟨rfl,rfl,rfl,rfl,h,ZO⟩|⟨rfl,rfl,rfl,rfl,rfl⟩
 iterate 5
  ·have ZS:=ae ZO
   clear ZO;go_wp2;go_ret;exact⟨ZA,rfl,⟨nofun,λe=>(ZS.out e).elim⟩,r⟩
 have HJ:=ae (c.out rfl rfl rfl rfl rfl);clear c;go_wp2_with fail;refine(ZR.out P r).mono ?_;rintro e w1 ⟨rfl,hB⟩;have S:=ae (r.trans (hB.mono hw));have z:=ae hB;clear hB ZR z0 z1 z2 z3 z4 D y0 y1 y2 y3 y4 t B s hw;cases cb with
 |false =>go_wp2;go_ret;exact⟨ZA,rfl,⟨nofun,λe=>by have:=(m.out e).1;cases this⟩,S⟩
 |true =>
  go_wp2;go_loopw [5] (λi wr=>∃k:Nat,k<=G/\i=.int I k/\Hid (∀i,i<k->mJ (ZL i) (yl i)=ZG)/\Hid (Below (N (U w1)) w1 wr)) (λi _=>G - (intOf i).toNat);case atStart=>exact⟨0,by omega,rfl,λi hi=>absurd hi (by omega),dB _ _⟩
  case round =>
   obtain⟨k,hk,rfl,HK,X⟩:=hrel;have H:=ae (S.trans (X.mono S.size));obtain⟨B,s,D,t⟩:=ZM.out _ (z.trans (X.mono z.size));by_cases C:k<G
   ·rcases O.aa H ly with h|⟨b,off,rfl,R⟩
    {omega};rcases U1.aa H ly with h|⟨b',off',rfl,hq⟩
    {omega};obtain⟨e0,e1,e2,e3⟩:=R.2 k C;obtain⟨g0,g1,g2,g3⟩:=hq.2 k C;have hb:=R.1;have bt:=hq.1;clear R hq;have hlt2:(k:Int)<G:=by omega
    have aq:=I8 (ZL k) (yl k);go_wp2_with fail;go_quiet (fail);have z:=ae (BM X nq);have B2:=ae (BM H nq);clear e0 e1 e2 e3 g0 g1 g2 g3 aq D t hb bt B s;generalize wr.drewN nq=W at z B2 ⊢;cases hb:mJ (ZL k) (yl k) with
    |true =>
     have ZS:=ae hb;clear hb;go_wp2
     exact⟨⟨k+1,by omega,by go_num,(λi hi=>by
      rcases Nat.lt_succ_iff_lt_or_eq.1 hi with h|rfl;{exact HK i h}
      ·exact ZS),z⟩,by simp[intOf];omega⟩
    |false =>have ZS:=ae hb;clear hb;go_wp2;go_ret;exact⟨ZA,rfl,⟨nofun,λe=>by have:=(m.out e).2 k C;rw[ZS.out] at this;cases this⟩,B2⟩
   ·obtain rfl:k=G:=by omega
    go_wp2;go_ret;exact⟨ZG,rfl,⟨λ_=>HJ.out (by simp) HK.out,λ_=>rfl⟩,H⟩
theorem wJ (a:Option Addr)(n c:Nat)(f:Nat->Deed)(t:Option Addr)(m B:Nat)(g:Nat->Deed)(w:M)(hn:n<=1048576)(S:SlDeed w a n f)(P:SlDeed w t m g)(r:∀i,i<n->cV (f i)):Calls Pg 16 #[.agg #[Z a n c],.agg #[Z t m B]] w λe K=>GQ (m=n/\∀i,i<n->fD (f i) (g i)) w e K:=by
 have HF:=ae S;have HG:=ae P;have HM:=ae r;clear S P r;obtain⟨q,l⟩:∃W:M,(w.alloc (J #[Z a n c] 37)).alloc (J #[Z t m B] 37)=W:=⟨_,rfl⟩
 obtain⟨s,-,H,-⟩:=nb2 l;have j:=ae l;clear l;have ZR:Hid (q.heap[N (U w)]?=T (J #[Z a n c] 37 (0,0))):=by rw[<-j.out];show _=_;rw[QR _ _ (by simp)];exact nL w _
 go_enter Tryz.func16,Tryz.ntmps16;go_upto_region 1 with fail;rw[j.out];clear j;have l0:=ag ZR.out;have l1:=ag H.out;have ZP:=s.size;have L:Hid (∀V,Below (N (U q)) q V->A V (Q (N (U w)) 0 Y)=T (Z a n c)/\A V (Q (N (U w)+1) 0 Y)=T (Z t m B)):=λV o=>by have D:=(o.block _ l0).trans ZR.out;have E:=(o.block _ l1).trans H.out;constructor<;>simp[World.cell?,D,E]
 obtain⟨z0,z1⟩:=L.out q br;by_cases z:n=m;case neg =>
  have h2:((n:Int) == (m:Int))=ZA:=by simp;omega
  go_wp2;go_ret;exact⟨ZA,rfl,⟨nofun,λh=>absurd h.1.symm z⟩,s⟩
 subst z;go_wp2;clear z0 z1;go_loopw [5] (λi wr=>∃k:Nat,k<=n/\i=.int I k/\Hid (∀i,i<k->fD (f i) (g i))/\Hid (Below (N (U q)) q wr)) (λi _=>n - (intOf i).toNat);case atStart=>exact⟨0,by omega,rfl,λi hi=>absurd hi (by omega),dB _ _⟩
 case round =>
  obtain⟨k,hk,rfl,R,u⟩:=hrel;obtain⟨z0,z1⟩:=L.out _ u.out;have l2:=u.size;have ZS:=ae (s.trans (u.mono ZP));by_cases p:k<n
  ·rcases HF.aa ZS ly with h|⟨b,off,rfl,C⟩
   {omega};rcases HG.aa ZS ly with h|⟨b',off',rfl,F⟩
   {omega};obtain⟨D,E,ZK,p3,⟨x4,ZM,X,G⟩,⟨x5,ZL,p5,ZO⟩⟩:=C.2 k p;obtain⟨q0,q1,q2,q3,⟨u4,m4,q4,ZQ⟩,⟨u5,m5,ZJ,ZN⟩⟩:=F.2 k p;have hb:=C.1;have hb':=F.1;have CD:=ae (λV (o:Below (N (U wr)) wr V)=>DO (f k) (g k) x4 ZM x5 ZL u4 m4 u5 m5 V (HM.out k p) (G.aa o ly) (ZO.aa o ly) (ZQ.aa o ly) (ZN.aa o ly));clear C F G ZO ZQ ZN;have hlt2:(k:Int)<n:=by omega
   go_wp2_with fail;go_region_with (go_at_call 58;refine(CD.out _ (by repeat (first|exact dB _ _|apply TF))).mono ?_;rintro e K ⟨bb,rfl,y,x⟩);all_goals
    have O:=ae (Below.trans (by repeat (first|exact u.out|apply TF)) (x.mono l2));have B2:=ae (s.trans (O.mono ZP));clear x D E ZK p3 X p5 q0 q1 q2 q3 q4 ZJ z0 z1;cases bb with
    |true =>
     go_wp2
     exact⟨⟨k+1,by omega,by go_num,(λi hi=>by
      rcases Nat.lt_succ_iff_lt_or_eq.1 hi with h|rfl
      ·exact R i h
      ·exact y.1 rfl),O⟩,by simp[intOf];omega⟩
    |false =>go_wp2;go_ret;exact⟨ZA,rfl,⟨nofun,λh=>by have:=y.2 (h k p);cases this⟩,B2⟩
  ·obtain rfl:k=n:=by omega
   go_wp2;go_ret;exact⟨ZG,rfl,⟨λ_=>R.out,λ_=>rfl⟩,ZS⟩
open Ca
theorem qQ (s:ByteArray)(w:M)(c:s.size<=maxLen):Calls Pg 84 #[.string s] w λe b=>eA w s.data.toList e b :=
 rU s w c (λh V=>Ay s V h)
structure FfS (w:M)(ab:Nat)(a:Option Addr)(n c:Nat)(f:Nat->Deed)(V:M):Prop where
 bl:Below (N (U w)) w V
 ac:HAc (N (U w)) V a n c f
 bx:V.heap[ab]?=T (J #[Z a n c] 37 (0,0))
theorem FfS.aa {w V ZL:M}{g n c:Nat}{a:Option Addr}{f:Nat->Deed}(h:FfS w g a n c f V)(b:Below (N (U V)) V ZL):FfS w g a n c f ZL:=⟨h.bl.trans (b.mono h.bl.size),h.ac.agr (dX b ly),(b.block _ (ag h.bx)).trans h.bx⟩
theorem FfS.cell {w V:M}{b n c:Nat}{a:Option Addr}{f:Nat->Deed}(h:FfS w b a n c f V):A V (Q b 0 Y)=T (Z a n c):=by have hb:=h.bx;simp[World.cell?,hb]
theorem xK (x:Deed):fD x (norm x):=⟨rfl,rfl,rfl,rfl,rfl,λ_ b=>(p6 b).symm,rfl,λ_ b=>(p6 b).symm⟩
theorem DT {s:ByteArray}{S:List UInt8}(h:s=⟨S.toArray⟩):s.data.toList=S:=by rw[h]
theorem DU {C k s:ByteArray}(b:s=df C k)(c:¬ s.toList=[]):s.extract 17 s.size=C/\18<=s.size/\¬ C.toList=[]:=by
 have f:=jF C k;have g:(⟨#[]⟩:ByteArray).toList=[]:=by rw[BG]
 unfold df at b;split at b;{rw[b] at c;exact absurd g c}
 ·rename_i h;split at b;{rw[b] at c;exact absurd g c}
  ·have i:(eI C k).length=17:=CV.symm.trans f;refine⟨lI ?_,?_,h⟩;{rw[pI,b,pJ];show((eI C k)++C.data.toList).drop 17=_;rw[List.drop_left' i]}
   ·rw[b,IH,f];have h1:C.data.toList≠[]:=by rwa[BG] at h
    have h2:=GC.2 h1;rw[aO] at h2;omega
theorem Gu (a:Option Addr)(n cap:Nat)(w:M)(hn:(n:Int)<=9223372036854775807)(hc:n<=cap)(ZJ:ByteSl w a n)(hL:Lay w)(hE:EV w 3)(hD:Deb w):Calls Pg 5 #[Z a n cap] w λe L=>e=ZF (.bool ZG)/\Below (N (U w)) w L:=by
 by_cases hbig:1048576<(n:Int)
 {go_enter YC,Tryz.ntmps5;go_wp2;go_ret;exact⟨rfl,dB _ _⟩};have fd:10<N (U w):=by
  rcases PR 10 (N (U w)) with h'|h';{exact h'};{simp[Deb,World.cell?,QK h'] at hD}
 have ZO:=ae (λV (j:Below (N (U w)) w V)=>(⟨hL.aa j ly,hE.aa j hE.1,(j.cell (p:=(Q 10 15 Y)) fd).trans hD,lj fd j.size⟩:Lay V/\EV V 3/\Deb V/\10<N (U V)));have DM:=ae (nK a n cap w (by omega) hc ZJ);have DR:=ae (λV (j:Below (N (U w)) w V)=>rW a n cap V (by omega) hc (ZJ.aa j ly));clear hL hE ZJ hc hD fd;go_enter YC,Tryz.ntmps5;go_wp2_with fail;refine DM.out.mono ?_;rintro e ZN ⟨d,m,c,f,o,rfl,R,Fn,bt⟩;clear DM;have hm5:=R.hn;have hmc:=R.cap;have O:=ae (show ∀i,i<m->cV (f i) from λi hi=>(R.ak i hi).fits);have ZP:=ae (show ∀i,i<m->fk (f i) from λi hi=>(R.ak i hi).sized);obtain⟨W1,n9⟩:∃W:M,ZN.alloc (J #[Z d m c] 37)=W:=⟨_,rfl⟩
 obtain⟨A1,k1,-⟩:=nb1 n9;have sm:=ae n9;have D1:Hid (FfS w (N (U ZN)) d m c f W1):=⟨bt.trans (A1.out.mono bt.size),R.agr (dX A1 ly),k1⟩
 obtain⟨C,hC⟩:∃C:ByteArray,C=⟨(bG f m).toArray⟩:=⟨_,rfl⟩
 obtain⟨s,hs⟩:∃s:ByteArray,s=df C o:=⟨_,rfl⟩
 have GS:(s.size:Int)<=300017:=by rw[hs,hC];exact qP f m o
 have FI:Hid (∀V,FfS w (N (U ZN)) d m c f V->Calls Pg 23 #[.agg #[Z d m c],.string o] V λe L=>e=ZF (.string s)/\Below (N (U V)) V L):=λV j=>by rw[hs,hC];obtain⟨l,-,B,z⟩:=ZO.out V j.bl;exact nJ d m c f o V (by omega) (by omega) j.ac.here (by omega) O l.tb l.tw l.pw B z
 have FS:Hid (∀V,FfS w (N (U ZN)) d m c f V->Calls Pg 24 #[.agg #[Z d m c],.string o] V λe L=>e=ZF (.string s)/\Below (N (U V)) V L):=λV j=>by rw[hs,hC];exact j9 d m c f o V (by omega) (by omega) j.ac.here O ZP
 have FO:Hid (∀V,FfS w (N (U ZN)) d m c f V->Calls Pg 26 #[.agg #[Z d m c]] V λe L=>e=ZF (.string C)/\Below (N (U V)) V L):=λV j=>by rw[hC];exact iy d m c f V (by omega) j.ac.here (by omega) O (ZO.out V j.bl).1.tb (ZO.out V j.bl).1.tw (ZO.out V j.bl).1.pw
 have ZK:=ae (DT hC);have ZL:=ae hs;clear A1 k1 R bt n9 hs hC;go_upto_region 4 with fail;rw[sm.out];clear sm;generalize (N (U ZN))=ab at D1 FI FS FO ⊢;have x1:=D1.cell;have l1:=ag D1.bx;go_wp2_with fail;refine(FI.out _ D1).mono ?_;rintro e w2 ⟨rfl,g⟩;have D2:=ae (D1.aa g);clear g D1 x1 l1 FI;have x2:=D2.cell;have l2:=ag D2.bx;go_wp2_with fail;refine(FS.out _ D2).mono ?_;rintro e w3 ⟨rfl,g⟩;have y:=ae (D2.aa g);clear g D2 x2 l2 FS;go_upto_region 7 with fail;go_cut [31] (λb wx=>∃v:Bool,b=.bool v/\(v=ZG->¬ s.toList=[])/\Hid (FfS w ab d m c f wx));case first =>
  by_cases H:s.toList=[]
  {have Hx:s=⟨#[]⟩:=lI (by rw[<-BG,H]);subst Hx;clear ZL H ZK FO ZP O;go_wp2;go_meet;exact⟨ZA,rfl,λh=>(by cases h),y⟩}
  ·have Id:s.toList.isEmpty=ZA:=by simpa using H
   go_wp2;go_meet;exact⟨ZG,rfl,λ_=>H,y⟩
 case rest =>
 clear y;obtain⟨v,rfl,hv,y⟩:=hcut;generalize wc=W3 at y ⊢;go_upto_if 31 with fail;go_cut [] (λwx=>Hid (Below (N (U w)) w wx));case first =>
  cases v with
  |false =>clear ZL ZK FO ZP O;go_wp2;go_meet;exact y.bl
  |true =>
   have H:=hv rfl;clear hv;obtain⟨hT,h18,P⟩:=DU ZL H;have Id:s.toList.isEmpty=ZA:=by simpa using H
   have q:gj s o:=(pK (by omega) (by rw[hT];exact P)).1 (by rw[hT];exact ZL.out.symm);have DQ:¬ bG f m=[]:=by rw[BG,ZK.out] at P;exact P
   have Lb:=ae q;have HT:=ae hT;clear q hT P;go_wp2_with fail;obtain⟨l,q2,B,z⟩:=ZO.out _ y.bl;refine(lH s o _ (by omega) (by omega) l q2 B z).mono ?_;rintro e w4 ⟨r,ZQ,c4,u,hI,rfl,qr,DS,JT,g⟩;have ph:=hI.1 Lb;rw[HT.out,ZK.out] at ph;obtain rfl:=ph.2 f m rfl DQ;have h4:u.map (·.1)=nrm f m:=DS;have DE:u.length=m:=by have:=wA List.length h4;rw[lv,Q9] at this;exact this
   have H4:=ae h4;have KZ:=ae DE;have D4:=y.aa g;obtain⟨W4,dg⟩:∃W:M,w4.alloc (J #[Z ZQ u.length c4] 37)=W:=⟨_,rfl⟩
   obtain⟨A4,k4,-⟩:=nb1 dg;have ur:=ae dg;have D5:=ae (D4.aa A4);have S5:=ae (qr.aa A4 ly).am;clear g D4 y qr dg A4 hI ph DS JT h4 DE DQ l q2 B z ZK ZL;simp only[Option.isSome_some];go_upto_region 9 with fail;rw[ur.out];clear ur;generalize (N (U w4))=X at k4 ⊢;go_wp2_with fail;have At:∀V,FfS w ab d m c f V->V.heap[X]?=T (J #[Z ZQ u.length c4] 37 (0,0))->(A V (Q ab 0 Y)=T (Z d m c)/\ab<N (U V))/\A V (Q X 0 Y)=T (Z ZQ u.length c4)/\X<N (U V):=λV h1 h2=>⟨⟨h1.cell,ag h1.bx⟩,by simp[World.cell?,h2],ag h2⟩
   have la:=ae At;clear At;have D6:=ae (D5.aa br.drew);have S6:Hid (SlDeed W4.drew ZQ u.length (dF (u.map (λx=>x.1)))):=S5;have k6:Hid (W4.drew.heap[X]?=T (J #[Z ZQ u.length c4] 37 (0,0))):=k4;refine wp_region_held_drew (S:=λV=>(A V (Q ab 0 Y)=T (Z d m c)/\ab<N (U V))/\A V (Q X 0 Y)=T (Z ZQ u.length c4)/\X<N (U V)) (by kernel_rfl) (la.out _ D6 k6) λZJ=>?_;have ZS:=ae ZJ;clear ZJ D5 S5 k4;generalize W4.drew=v5 at D6 S6 k6 ZS ⊢;have h18i:¬ (s.size:Int)<18:=by omega
   have h17:(17:Int)<=(s.size:Int):=by omega
   iterate 5
    refine bI 0 (v:=?_) rfl rfl (by kernel_rfl) (λ_ _ _ h=>h) rfl ?_ ZS ?_;rotate_left
    ·(intro wz G;obtain⟨⟨s0,s1⟩,s2,s3⟩:=G;go_simp)
     (try with_reducible rfl)
    (try simp only[Act.put,nzL])
   refine aS (i:=5) rfl (by kernel_rfl) λK hK=>?_;go_simp;go_at_call 16;refine(wJ d m c f ZQ u.length c4 (dF (u.map (λx=>x.1))) _ (by omega) D6.ac.here S6.out O).mono ?_;rintro e v6 ⟨b,rfl,hb,g⟩
   obtain rfl:b=ZG:=hb.2 ⟨KZ,λi hi=>by
    rw[H4.out,Bu f hi]
    exact xK _⟩
   have ZR:=ae (D6.aa g);have F:=ae ((g.block _ (ag k6.out)).trans k6);clear hb g D6 k6 ZS S6;have ZS:=ae (la.out _ ZR F);refine hK _ _ ZS ?_;clear hK K
   (try simp only[Act.put,nzL])
   have hT:=HT.out;iterate 11
    refine bI 6 (v:=?_) rfl rfl (by kernel_rfl) (λ_ _ _ h=>h) rfl ?_ ZS ?_;rotate_left
    ·(intro wz G;obtain⟨⟨s0,s1⟩,s2,s3⟩:=G;go_simp)
     (try with_reducible rfl)
    (try simp only[Act.put,nzL])
   refine aS (i:=17) rfl (by kernel_rfl) λK hK=>?_;go_simp;go_at_call 26;refine(FO.out _ ZR).mono ?_;rintro e v8 ⟨rfl,g⟩;have D8:=ae (ZR.aa g);have k8:=ae ((g.block _ (ag F.out)).trans F);clear g ZR F ZS;have ZS:=ae (la.out _ D8 k8);refine hK _ _ ZS ?_;clear hK K
   (try simp only[Act.put,nzL])
   iterate 2
    refine bI 18 (v:=?_) rfl rfl (by kernel_rfl) (λ_ _ _ h=>h) rfl ?_ ZS ?_;rotate_left
    ·(intro wz G;obtain⟨⟨s0,s1⟩,s2,s3⟩:=G;go_simp)
     (try with_reducible rfl)
    (try simp only[Act.put,nzL])
   refine wpAnyH_done (by kernel_rfl) ?_ _;go_wp2;go_meet;exact D8.bl
 case rest =>
 clear ZL ZK FO ZP O hv y Fn GS;have B5:=ae hcut.out;clear hcut;generalize wc=W5 at B5 ⊢;go_wp2_with fail;refine(DR.out _ B5).mono ?_;rintro e w6 ⟨t,k,rfl,ht,hk,g⟩;have ZM:=ae (B5.trans (g.mono B5.size));clear g B5 DR;obtain⟨l,q2,B,z⟩:=ZO.out _ ZM;go_wp2_with fail;refine(lH t k _ (by omega) (by omega) l q2 B z).mono ?_;rintro e w7 ⟨r,a7,c7,E,hI,rfl,ld,Fk,th,g⟩;obtain⟨W7,mv⟩:∃W:M,w7.alloc (J #[Z a7 E.length c7] 37)=W:=⟨_,rfl⟩
 obtain⟨A7,F,-⟩:=nb1 mv;have DH:=ae mv;have hcp:=wv ld.i;have ZR:=ae (ld.aa A7 ly);have B7:=ae ((ZM.trans (g.mono ZM.size)).trans (A7.out.mono (ZM.trans (g.mono ZM.size)).size));have HI:=ae hI;have HM:=ae Fk;have ZP:=ae th;clear g ld hI Fk th mv A7 ZM l q2 B z;go_wp2_with fail;rw[DH.out];clear DH;generalize (N (U w7))=xb at F ⊢;refine(tX t k _ (by omega) (by omega) (λV=>qQ _ V (by rw[SD];unfold maxLen;omega))).mono ?_;rintro e w8 ⟨r8,a8,c8,R8,Fm,rfl,-,-,-,g⟩;obtain rfl:=Gs HI Fm;obtain⟨W8,aq⟩:∃W:M,w8.alloc (J #[Z a8 R8.length c8] 37)=W:=⟨_,rfl⟩
 obtain⟨A8,-,-⟩:=nb1 aq;have ro:=ae aq;have C8:=g.trans (A8.out.mono g.size);have D8:=ae (ZR.aa C8 ly);have B8:=ae (B7.trans (C8.mono B7.size));have k8:=ae ((C8.block _ (ag F.out)).trans F);clear g Fm aq A8 C8 ZR B7 F;go_upto_region 14 with fail;rw[ro.out];clear ro;have l8:=ag k8.out;have x8:A W8 (Q xb 0 Y)=T (Z a7 E.length c7):=by simp[World.cell?,k8.out]
 cases r with
 |none =>simp only[Option.isSome_none];go_wp2;go_ret;exact⟨rfl,B8⟩
 |some D =>
  have q:gj t k:=UN λh=>by have:=HI.2 h;cases this
  obtain⟨f7,n7,h1,h2,h3⟩:=(HI.1 q).1 D rfl;have h4:E.map (·.1)=nrm f7 n7:=HM.out.trans h3;have La:n7=E.length:=by have:=wA List.length h4;rw[lv,Q9] at this;exact this.symm
  subst La;have Bk:SlDeed W8 a7 E.length f7:=by have h:=D8.am;rw[h4] at h;exact qb h
  have Fd:=nV (f:=f7) (n:=E.length) (k:=300001) (by rw[<-h4];exact ZP) (by omega);have hRl:E.length<=300001:=by have:=ZP.1;simpa using this
  obtain⟨l,-,B,z⟩:=ZO.out _ B8;have FA:=nJ a7 E.length c7 f7 k W8 (by omega) (by omega) Bk (by omega) (λi hi=>(Fd i hi).1) l.tb l.tw l.pw B z;have es:(⟨(bG f7 E.length).toArray⟩:ByteArray)=t.extract 17 t.size:=lI (by rw[<-h1]);rw[es,(pK q.1 (by rw[BG];exact h2)).2 q] at FA;have KV:=ae FA;clear FA Bk Fd h1 h2 h3 h4 es q l B z;simp only[Option.isSome_some];go_wp2_with fail;refine KV.out.mono ?_;rintro e w9 ⟨rfl,g⟩;have B9:=ae (B8.trans (g.mono B8.size));clear g;go_wp2;go_ret;exact⟨rfl,B9⟩
end Go.Proofs.YtpmnbjkjpnclaaaGreatDoor.Vp
namespace Go.Proofs.YtpmnbjkjpnclaaaGreatDoor.Slc
open Go.ChangeShapes Go.WideShapes Go.ChangeAt RowKit Go.Deep Vp
theorem own:ownKnob Pg.godebug=Y:=by kernel_rfl
theorem laidOut:laidOutB Pg=ZG:=by kernel_rfl
abbrev pM:String:="loop.example/kilndeed/impl.rows"
theorem gRows:Pg.globalNamed pM=T 1:=by kernel_rfl
theorem tRows:(Pg.globals[1]?).map (·.type)=T 325:=by kernel_rfl
theorem tPow:(Pg.globals[2]?).map (·.type)=T 338:=by kernel_rfl
theorem Gv:Pg.cellsOf 338=20:=by kernel_rfl
theorem Gw:Pg.cellsOf 203=1:=by kernel_rfl
theorem KP:Pg.cellsOf 324=5:=by kernel_rfl
theorem KQ:Pg.cellsOf 3=1:=by kernel_rfl
theorem JX:Pg.cellsOf 9=1:=by kernel_rfl
theorem cES:Pg.cellsOf 397=1:=by kernel_rfl
theorem JY:∀k:Nat,k<16->∃(t p:DataW Unit) (L:List (DataW Unit)),Rows.laid_loop_example_kilndeed_impl_rows=.agg L/\L[k]?=T (.agg [.lit (.string (word k)),.lit (.int I (aE k)),.lit (.int I (bO k)),t,p]):=by intro k hk;rcases(show k=0∨k=1∨k=2∨k=3∨k=4∨k=5∨k=6∨k=7∨k=8∨k=9∨k=10∨k=11∨k=12∨k=13∨k=14∨k=15 by omega) with rfl|rfl|rfl|rfl|rfl|rfl|rfl|rfl|rfl|rfl|rfl|rfl|rfl|rfl|rfl|rfl;all_goals exact⟨_,_,_,rfl,rfl⟩
theorem ke {b:List ZC}{o j:Nat}{v:ZC}(c:j<5)(h:(((b.drop o).take 5).drop j).take 1=[v]):b[o+j]?=T v:=by
 have h2:((((b.drop o).take 5).drop j).take 1)[0]?=T v:=by rw[h];rfl
 simpa[XC,c] using h2
theorem yI {W:M}{enc:ZI × ZC->Unit}{sp:Nat->Bool}{r:Bool}{u:Nat}{c:Array ZC}{p:List MemPlace}(f:W.var? Pg pM=T c)
  (F:DataW.trod enc Pg W 0 sp r u 325 c.toList=T (Rows.laid_loop_example_kilndeed_impl_rows,p)):Tab W/\TabW W:=by
 obtain⟨xs,m,_,x,_,hn,o⟩:=DataW.trod_array Tryz.underlying325 F;rw[KP] at o;have i:∀k,k<16->c.toList[k*5+0]?=T (.string ⟨(word k).toArray⟩)/\c.toList[k*5+1]?=T (.int I (aE k))/\c.toList[k*5+2]?=T (.int I (bO k)):=by
  intro k g;obtain⟨t,p,L,hL,j⟩:=JY k g;rw[hL] at x;simp only[LN,DataW.agg.injEq] at x;have b:=o k g;rw[x.1,OH] at j;obtain⟨y,ZO,l⟩:=OQ.1 j;rw[ZO] at b;obtain⟨h,n,_,E,_,_,s⟩:=DataW.trod_struct Tryz.underlying324 b;have hz:h.map (·.1)=[.lit (.string (word k)),.lit (.int I (aE k)),.lit (.int I (bO k)),t,p]:=by rw[E] at l;simpa using l
  have z:DataW.trod _ Pg W 0 _ _ n 9 ((((c.toList.drop (k*5)).take 5).drop 0).take (Pg.cellsOf 9))=h[0]?:=s 0 _ rfl;have h1:DataW.trod _ Pg W 0 _ _ n 3 ((((c.toList.drop (k*5)).take 5).drop 1).take (Pg.cellsOf 3))=h[1]?:=s 1 _ rfl;have h2:DataW.trod _ Pg W 0 _ _ n 3 ((((c.toList.drop (k*5)).take 5).drop 2).take (Pg.cellsOf 3))=h[2]?:=s 2 _ rfl;rw[KQ] at h1 h2;rw[JX] at z;match h,hz with
  |[y0,y1,y2,y3,y4],hz =>
   simp only[PU,PX,List.cons.injEq,and_true] at hz;obtain⟨O,ZS,ZQ,_⟩:=DataW.trod_string F3 (show DataW.trod _ Pg W 0 _ _ n 9 _=T y0 from z);obtain⟨z1,D,K,_⟩:=DataW.trod_int PK (show DataW.trod _ Pg W 0 _ _ n 3 _=T y1 from h1);obtain⟨z2,B,G,_⟩:=DataW.trod_int PK (show DataW.trod _ Pg W 0 _ _ n 3 _=T y2 from h2);have ZP:O=⟨(word k).toArray⟩:=by have:=hz.1;rw[ZQ] at this;simp only[DataW.lit.injEq,Lit.string.injEq] at this;rw[<-this]
   have H:z1=aE k:=by have:=hz.2.1;rw[K] at this;simpa using this
   have ZR:z2=bO k:=by have:=hz.2.2.1;rw[G] at this;simpa using this
   rw[ZP] at ZS;rw[H] at D;rw[ZR] at B;exact⟨ke (by omega) ZS,ke (by omega) D,ke (by omega) B⟩
 refine⟨⟨?_,λk g=>?_⟩,λk g=>?_⟩;{have C:=TW gRows f 1;have:=(i 0 (by omega)).2.1;simp only[WQ,FM,L8] at this;rw[this] at C;rcases PR 1 (N (U W)) with q|q;{exact q};{simp[World.cell?,QK q] at C}};{have c1:=TW gRows f (k*5+1);have c2:=TW gRows f (k*5+2);have b:=i k g;simp only[L8] at b;exact⟨c1.trans b.2.1,c2.trans b.2.2⟩};{have c0:=TW gRows f (k*5);have b:=i k g;simp only[L8,P6] at b;exact c0.trans b.1}
theorem JZ {W:M}{enc:ZI × ZC->Unit}{sp:Nat->Bool}{b:Bool}{c:Nat}{f:Array ZC}{p:List MemPlace}(g:W.var? Pg "internal/strconv.uint64pow10"=T f)
  (h:DataW.trod enc Pg W 0 sp b c 338 f.toList=T (Rows.laid_internal_strconv_uint64pow10,p)):Pow W:=by
 have e:=Lib.cells_of_tab (k:=.u64) (zs:=Lib.pow10Tab) XI U5 Gw Gv h;show W.var? Pg _=T _;rw[g,<-e]
theorem mP:Pg.globalNamed "loop.example/kilndeed/impl.errNoTarget"=T 3:=by kernel_rfl
theorem mQ:(Pg.globals[3]?).map (·.type)=T 207:=by kernel_rfl
theorem tr:Pg.globalNamed "loop.example/kilndeed/impl.errWord"=T 0:=by kernel_rfl
theorem ts:(Pg.globals[0]?).map (·.type)=T 207:=by kernel_rfl
theorem nM:Pg.globalNamed "loop.example/kilndeed/impl.errOperand"=T 7:=by kernel_rfl
theorem nN:(Pg.globals[7]?).map (·.type)=T 207:=by kernel_rfl
theorem oO:Pg.globalNamed "loop.example/kilndeed/impl.errNumber"=T 5:=by kernel_rfl
theorem oP:(Pg.globals[5]?).map (·.type)=T 207:=by kernel_rfl
theorem qR:Pg.globalNamed "loop.example/kilndeed/impl.errQuote"=T 6:=by kernel_rfl
theorem qS:(Pg.globals[6]?).map (·.type)=T 207:=by kernel_rfl
theorem qT:Pg.globalNamed "loop.example/kilndeed/impl.errBound"=T 8:=by kernel_rfl
theorem qU:(Pg.globals[8]?).map (·.type)=T 207:=by kernel_rfl
theorem AE:Pg.globalNamed "strconv.ErrRange"=T 12:=by kernel_rfl
theorem AG:(Pg.globals[12]?).map (·.type)=T 207:=by kernel_rfl
theorem xL:Pg.globalNamed "strconv.ErrSyntax"=T 11:=by kernel_rfl
theorem xM:(Pg.globals[11]?).map (·.type)=T 207:=by kernel_rfl
theorem star : "*"++"errors.errorString"="*errors.errorString":=by decide
theorem Kx (u:ZI)(h:Pg.typeName? 3 u=T "*errors.errorString"):u=395 :=
 typeName_ptr_named (nm:="errors.errorString") (by rw[star];kernel_rfl) (by kernel_rfl) (by decide) u (by rw[star];exact h)
theorem nO {n:String}{d:DataW Unit}{r:List (String × DataW Unit)}{W:M}(h:laidMet Pg ((n,d)::r) W):∃g t c b p,Pg.globalNamed n=T g/\(Pg.globals[g]?).map (·.type)=T t/\W.var? Pg n=T c/\DataW.trod (λ_=>()) Pg W 0 (λ_=>ZG) ZA b t c.toList=T (d,p):=by obtain⟨ps,⟨g,t,c,b,p,q,h1,h2,h3,h4,_⟩,_⟩:=h;exact⟨g,t,c,b,p,h1,h2,h3,h4⟩
theorem Ky {W:M}{n:String}{g:Nat}{x:ZC}(c:Pg.globalNamed n=T g)(f:W.var? Pg n=T #[x]):g<N (U W)/\A W (Q g 0 Y)=T x:=by
 have b:A W (Q g 0 Y)=T x:=by simpa using TW c f 0
 refine⟨?_,b⟩;rcases PR g (N (U W)) with h|h;{exact h};{simp[World.cell?,QK h] at b}
theorem nP {W:M}{n:String}{g:Nat}{text:List UInt8}{r:List (String × DataW Unit)}(h:laidMet Pg ((n,.iface "*errors.errorString" (.ptr (.agg [.lit (.string text)])))::r) W)(b:Pg.globalNamed n=T g)(f:(Pg.globals[g]?).map (·.type)=T 207):EV W g:=by obtain⟨a,s,c,_⟩:=laid_sentinel h b f U2 Kx Tryz.underlying395 Tryz.underlying397 rfl rfl F3 cES JX;obtain⟨h1,h2⟩:=Ky b c;exact⟨h1,_,_,h2⟩
theorem J0 {W:M}{c:Array ZC}(b:W.var? Pg "internal/strconv.uint64pow10"=T c):2<N (U W):=by
 rcases PR 2 (N (U W)) with h|h;{exact h};{simp[World.var?,gPow,QK h] at b}
theorem gDeb:Pg.globalNamed "math/bits.deBruijn64tab"=T 10:=by kernel_rfl
theorem tDeb:(Pg.globals[10]?).map (·.type)=T 370:=by kernel_rfl
theorem Gx:Pg.cellsOf 370=64:=by kernel_rfl
theorem yJ:Pg.cellsOf 5=1:=by kernel_rfl
def J4:List Int:=([.int .u8 0,.int .u8 1,.int .u8 56,.int .u8 2,.int .u8 57,.int .u8 49,.int .u8 28,.int .u8 3,.int .u8 61,.int .u8 58,.int .u8 42,.int .u8 50,.int .u8 38,.int .u8 29,.int .u8 17,.int .u8 4,.int .u8 62,.int .u8 47,.int .u8 59,.int .u8 36,.int .u8 45,.int .u8 43,.int .u8 51,.int .u8 22,.int .u8 53,.int .u8 39,.int .u8 33,.int .u8 30,.int .u8 24,.int .u8 18,.int .u8 12,.int .u8 5,.int .u8 63,.int .u8 55,.int .u8 48,.int .u8 27,.int .u8 60,.int .u8 41,.int .u8 37,.int .u8 16,.int .u8 46,.int .u8 35,.int .u8 44,.int .u8 21,.int .u8 52,.int .u8 32,.int .u8 23,.int .u8 11,.int .u8 54,.int .u8 26,.int .u8 40,.int .u8 15,.int .u8 34,.int .u8 20,.int .u8 31,.int .u8 10,.int .u8 25,.int .u8 14,.int .u8 19,.int .u8 9,.int .u8 13,.int .u8 8,.int .u8 7,.int .u8 6]:List ZC).map fun | .int _ z=>z|_=>0
theorem J5 {W:M}{enc:ZI × ZC->Unit}{sp:Nat->Bool}{f:Bool}{g:Nat}{b:Array ZC}{p:List MemPlace}(i:W.var? Pg "math/bits.deBruijn64tab"=T b)
  (j:DataW.trod enc Pg W 0 sp f g 370 b.toList=T (Rows.laid_math_bits_deBruijn64tab,p)):Deb W:=by
 have e:=Lib.cells_of_tab (k:=.u8) (zs:=J4) XJ N5 yJ Gx j;have c:=TW gDeb i 15;have h:b.toList[15]?=T (.int .u8 4):=by rw[e];rfl
 rw[L8] at h;exact c.trans h
def tu:List (String × DataW Unit):=[("math/bits.deBruijn32tab",Rows.laid_math_bits_deBruijn32tab),("math/bits.deBruijn64tab",Rows.laid_math_bits_deBruijn64tab),("internal/strconv.uint64pow10",Rows.laid_internal_strconv_uint64pow10),("strconv.ErrRange",Rows.laid_strconv_ErrRange),("strconv.ErrSyntax",Rows.laid_strconv_ErrSyntax),("loop.example/kilndeed/impl.rows",Rows.laid_loop_example_kilndeed_impl_rows),("loop.example/kilndeed/impl.errWord",Rows.laid_loop_example_kilndeed_impl_errWord),("loop.example/kilndeed/impl.errOperand",Rows.laid_loop_example_kilndeed_impl_errOperand),("loop.example/kilndeed/impl.errNumber",Rows.laid_loop_example_kilndeed_impl_errNumber),("loop.example/kilndeed/impl.errQuote",Rows.laid_loop_example_kilndeed_impl_errQuote),("loop.example/kilndeed/impl.errBound",Rows.laid_loop_example_kilndeed_impl_errBound),("loop.example/kilndeed/impl.errNoTarget",Rows.laid_loop_example_kilndeed_impl_errNoTarget)]
theorem AH {W:M}(h:laidMetH Pg Rows.fnSealRow.laid W):laidMet Pg tu W:=by rw[MakeChecks.laidMetH_plain _ _ _ (by kernel_rfl)] at h;exact h
theorem tables {W:M}(h:laidMetH Pg Rows.fnSealRow.laid W):Lay W/\EV W 3/\Deb W:=by have i:=AH h;unfold tu at i;have h1:=i.tail;obtain⟨g1,t1,cs1,f1,p1,ZS,x,o,r⟩:=nO h1;obtain rfl:=BC (gDeb.symm.trans ZS);obtain rfl:=BC (tDeb.symm.trans x);have h2:=h1.tail;obtain⟨g2,t2,cs2,f2,p2,l,m,g,q⟩:=nO h2;obtain rfl:=BC (gPow.symm.trans l);obtain rfl:=BC (tPow.symm.trans m);have h3:=h2.tail;have h4:=h3.tail;have n:=h4.tail;obtain⟨g5,t5,cs5,f5,p5,z,s,f,b⟩:=nO n;obtain rfl:=BC (gRows.symm.trans z);obtain rfl:=BC (tRows.symm.trans s);have j:=n.tail;have y:=j.tail;have t:=y.tail;have p:=t.tail;have c:=p.tail;have u:=c.tail;exact⟨⟨(yI f b).2,(yI f b).1,nP p qR qS,nP t oO oP,nP j tr ts,nP y nM nN,nP c qT qU,nP h4 xL xM,nP h3 AE AG,JZ g q,J0 g⟩,nP u mP mQ,J5 o r⟩
