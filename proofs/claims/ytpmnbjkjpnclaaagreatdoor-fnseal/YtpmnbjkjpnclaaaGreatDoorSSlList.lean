import Derived.Test.YtpmnbjkjpnclaaaGreatDoorTie
import Derived.ProofKit
import Derived.OpenShut
import Derived.Deep.DeepHandedRow
import Derived.Lib.LaidTab
import Derived.Stop.LaidErr
import Derived.Stop.LaidTwo
import Derived.Test.YtpmnbjkjpnclaaaGreatDoorOJ
import Derived.Test.YtpmnbjkjpnclaaaGreatDoorOF
import Derived.Test.YtpmnbjkjpnclaaaGreatDoorOB
import Derived.Laws.StructEq
import Derived.Sort.EncStr
set_option maxRecDepth 100000
set_option maxHeartbeats 16000000
set_option linter.unusedSimpArgs false
open Go renaming Addr.mk->Q,Value.slice->Z,Obj.cells->N,IntKind.i64->I,World->M,Value->ZC,TypeId->ZH,Ending.returned->ZF,World.heap->Y,World.cell?->A,Proofs.Tryz.prog->Pg
open Option renaming none->U,some->T
open Bool renaming false->ZA,true->ZG
open Array renaming size->J
namespace Go.Proofs.YtpmnbjkjpnclaaaGreatDoor.Vp
open RowKit
theorem JI (x y:Ins)(w:M):(binOp .neq 151 (.agg #[.int I x.op,.string x.s,.int I x.n]) (.agg #[.int I y.op,.string y.s,.int I y.n])).run Pg w=.ok (.bool (!mP x y)) w:=by
 have c:Pg.underlying 151=T (.struct (Pg.fieldsOf 151)):=by kernel_rfl
 have b:Pg.stoodInHeld 151=ZA:=by kernel_rfl
 rw[run_neq_struct,show(10000:Nat)=9999+1 from rfl,run_equalIn_agg w 9999 151 _ _ c b];simp only[Program.fieldsOf,WP];go_simp;unfold mP;by_cases h1:x.op=y.op<;>by_cases h2:x.s.toList=y.s.toList<;>by_cases h3:x.n=y.n<;>simp[h1,h2,h3]
def mG (x y:Link):Bool:=x.e.toList == y.e.toList && x.ask == y.ask && x.has == y.has && x.L == y.L
theorem IJ {x y:Link}(h:mG x y=ZG):x=y:=by obtain⟨a,b,c,d⟩:=x;obtain⟨a',b',c',d'⟩:=y;simp only[mG,z8,beq_iff_eq] at h;obtain⟨⟨⟨h1,rfl⟩,rfl⟩,rfl⟩:=h;rw[oO h1]
theorem IK (x y:Link)(w:M):(binOp .neq 91 (.agg #[.string x.e,.bool x.ask,.bool x.has,.int I x.L]) (.agg #[.string y.e,.bool y.ask,.bool y.has,.int I y.L])).run Pg w=.ok (.bool (!mG x y)) w:=by
 have c:Pg.underlying 91=T (.struct (Pg.fieldsOf 91)):=by kernel_rfl
 have b:Pg.stoodInHeld 91=ZA:=by kernel_rfl
 rw[run_neq_struct,show(10000:Nat)=9999+1 from rfl,run_equalIn_agg w 9999 91 _ _ c b];simp only[Program.fieldsOf,Tryz.underlying91];go_simp;unfold mG;by_cases h1:x.e.toList=y.e.toList<;>by_cases h2:x.ask=y.ask<;>by_cases h3:x.has=y.has<;>by_cases h4:x.L=y.L<;>simp[h1,h2,h3,h4]
theorem wE (a:Option Addr)(n c:Nat)(f:Nat->Ins)(x:Option Addr)(m E:Nat)(g:Nat->Ins)(w:M)(hn:n<=1048576)(F:SlIns w a n f)(ZP:SlIns w x m g):Calls Pg 116 #[.agg #[Z a n c],.agg #[Z x m E]] w λe O=>e=ZF (.bool (iP f g n m))/\Below (J (Y w)) w O:=by
 have V:=ae F;have ZL:=ae ZP;clear F ZP;obtain⟨s,l⟩:∃W:M,(w.alloc (N #[Z a n c] 43)).alloc (N #[Z x m E] 43)=W:=⟨_,rfl⟩
 obtain⟨ZO,-,-,-⟩:=nb2 l;have j:=ae l;clear l;have D:Hid (PB s (J (Y w)) (Z a n c)):=by rw[<-j.out];show _=_;rw[QI _ _ (by simp)];exact nL w _
 have C:Hid (PB s (J (Y w)+1) (Z x m E)):=by rw[<-j.out];exact US w _ _
 obtain⟨r,p⟩:∃r,r=iP f g n m:=⟨_,rfl⟩
 rw[<-p];have ZR:=ae p;clear p;go_enter Tryz.func116,Tryz.ntmps116;go_upto_region 1 with fail;rw[j.out];clear j;have z0:=D.c0;have z1:=C.c0;have R:=D.lt;have ZJ:=C.lt;by_cases z:n=m;case neg =>
  have h2:((n:Int) == (m:Int))=ZA:=by simp;omega
  go_wp2;go_ret;exact⟨cG (by rw[ZR.out];simp[iP,z]),ZO⟩
 subst z;go_wp2;clear z0 z1;go_loopw [5] (λi wr=>∃k:Nat,k<=n/\i=.int I k/\Hid (fm f g k=ZG)/\Hid (∃q,wr=s.drewN q)) (λi _=>n - (intOf i).toNat);case atStart=>exact⟨0,by omega,rfl,rfl,0,rfl⟩
 case round =>
  obtain⟨k,hk,rfl,ZN,K⟩:=hrel;have y:Hid (Below (J (Y s)) s wr):=by obtain⟨q,o⟩:=K.out;rw[o];exact BM br q
  have z0:=(D.aa y R).c0;have z1:=(C.aa y ZJ).c0;have l2:=y.size;have u:=ae (ZO.trans (y.mono (by omega)));by_cases t:k<n
  ·rcases V.aa u ly with h|⟨b,off,rfl,p⟩
   {omega};rcases ZL.aa u ly with h|⟨b',off',rfl,o⟩
   {omega};obtain⟨c0,c1,c2⟩:=p.2 k t;obtain⟨ZM,P,S⟩:=o.2 k t;have hb:=p.1;have H:=o.1;clear p o;have hlt2:(k:Int)<n:=by omega
   have L:=JI (f k) (g k);go_wp2_with fail;go_quiet (fail);have ZQ:Hid (∃q,wr.drewN nq=s.drewN q):=by obtain⟨q,o⟩:=K.out;exact⟨q+nq,by rw[o,World.drewN_drewN]⟩
   have G:=ae (BM u nq);clear c0 c1 c2 ZM P S L z0 z1 hb H;generalize wr.drewN nq=W at ZQ G ⊢;cases hb:mP (f k) (g k) with
   |true =>have B:=ae hb;clear hb;go_wp2;exact⟨⟨k+1,by omega,by go_num,by show fm f g (k+1)=ZG;rw[fm,ZN.out,B.out];rfl,ZQ⟩,by simp[intOf];omega⟩
   |false =>have B:=ae hb;clear hb;go_wp2;go_ret;exact⟨cG (by rw[ZR.out];simp[iP,wJ t B.out]),G⟩
  ·obtain rfl:k=n:=by omega
   go_wp2;go_ret;exact⟨cG (by rw[ZR.out];simp[iP,ZN.out]),u⟩
def GF (E:Prop)(w:M)(e:Ending)(c:M):Prop:=∃b:Bool,e=ZF (.bool b)/\(b=ZG ↔ E)/\Below (J (Y w)) w c
theorem Dw (x y:Deed):((x.e.toList == y.e.toList)=ZA/\¬ fC x y)∨(x.e=y.e/\(x.m == y.m)=ZA/\¬ x.m=y.m/\¬ fC x y)∨(x.e=y.e/\x.m=y.m/\(x.E == y.E)=ZA/\¬ x.E=y.E/\¬ fC x y)∨(x.e=y.e/\x.m=y.m/\x.E=y.E/\(x.B.toList == y.B.toList)=ZA/\¬ fC x y)∨(x.e=y.e/\x.m=y.m/\x.E=y.E/\x.B=y.B/\((x.b:Int) == (y.b:Int))=ZA/\¬ fC x y)∨(x.e=y.e/\x.m=y.m/\x.E=y.E/\x.B=y.B/\x.b=y.b):=by
 cases h0:(x.e.toList == y.e.toList)
 {exact .inl ⟨rfl,λe=>by rw[e.e] at h0;simp at h0⟩};cases h1:(x.m == y.m)
 {exact .inr (.inl ⟨bytes_beq h0,rfl,by simpa using h1,λe=>by rw[e.m] at h1;simp at h1⟩)};cases h2:(x.E == y.E)
 {exact .inr (.inr (.inl ⟨bytes_beq h0,by simpa using h1,rfl,by simpa using h2,λe=>by rw[e.E] at h2;simp at h2⟩))};cases h3:(x.B.toList == y.B.toList)
 {exact .inr (.inr (.inr (.inl ⟨bytes_beq h0,by simpa using h1,by simpa using h2,rfl,λe=>by rw[e.B] at h3;simp at h3⟩)))};cases h4:((x.b:Int) == (y.b:Int))
 {exact .inr (.inr (.inr (.inr (.inl ⟨bytes_beq h0,by simpa using h1,by simpa using h2,bytes_beq h3,rfl,λe=>by rw[e.b] at h4;simp at h4⟩))))};exact .inr (.inr (.inr (.inr (.inr ⟨bytes_beq h0,by simpa using h1,by simpa using h2,bytes_beq h3,by simp at h4;omega⟩))))
def DeB (V:M)(b:Nat)(x:Deed)(a0:Option Addr)(c0:Nat)(a1:Option Addr)(c1:Nat):Prop:=V.heap[b]?=T (N #[.string x.e,.int I x.m,.int I x.E,.string x.B,Z a0 x.f c0,Z a1 x.b c1] 46 (0,0))
section
variable {V ZJ:M}{b:Nat}{x:Deed}{a0 a1:Option Addr}{c0 c1:Nat}
theorem DeB.cells (h:DeB V b x a0 c0 a1 c1):b<J (Y V)/\A V (Q b 0 U)=T (.string x.e)/\A V (Q b 1 U)=T (.int I x.m)/\A V (Q b 2 U)=T (.int I x.E)/\A V (Q b 3 U)=T (.string x.B)/\A V (Q b 4 U)=T (Z a0 x.f c0)/\A V (Q b 5 U)=T (Z a1 x.b c1):=by have c:V.heap[b]?=_:=h;refine⟨ag c,?_,?_,?_,?_,?_,?_⟩<;>simp[World.cell?,c]
theorem DeB.aa (h:DeB V b x a0 c0 a1 c1)(hb:Below (J (Y V)) V ZJ):DeB ZJ b x a0 c0 a1 c1:=(hb.block b (ag h)).trans h
end
theorem Dx (x y:Deed)(a0:Option Addr)(c0:Nat)(a1:Option Addr)(c1:Nat)(b0:Option Addr)(q:Nat)(g:Option Addr)(o:Nat)(w:M)(n:cV x)(ZP:SlIns w a0 x.f x.H)(K:SlLink w a1 x.b x.D)(ZN:SlIns w b0 y.f y.H)(L:SlLink w g y.b y.D):Calls Pg 58 #[.agg #[.string x.e,.int I x.m,.int I x.E,.string x.B,Z a0 x.f c0,Z a1 x.b c1],.agg #[.string y.e,.int I y.m,.int I y.E,.string y.B,Z b0 y.f q,Z g y.b o]] w λe w'=>GF (fC x y) w e w':=by
 obtain⟨j,ZR⟩:∃j,j=w.alloc (N #[.string x.e,.int I x.m,.int I x.E,.string x.B,Z a0 x.f c0,Z a1 x.b c1] 46):=⟨_,rfl⟩
 have A1:=(q9 w).alloc ly (N #[.string x.e,.int I x.m,.int I x.E,.string x.B,Z a0 x.f c0,Z a1 x.b c1] 46);have ZL:DeB (w.alloc (N #[.string x.e,.int I x.m,.int I x.E,.string x.B,Z a0 x.f c0,Z a1 x.b c1] 46)) (J (Y w)) x a0 c0 a1 c1:=nL w _;have hz:(w.alloc (N #[.string x.e,.int I x.m,.int I x.E,.string x.B,Z a0 x.f c0,Z a1 x.b c1] 46)).heap.size=J (Y w)+1:=by simp
 rw[<-ZR] at A1 ZL hz;have G:=ae (A1.alloc (by omega) (N #[.string y.e,.int I y.m,.int I y.E,.string y.B,Z b0 y.f q,Z g y.b o] 46));have Q0:=ae (ZL.aa ((q9 j).alloc ly (N #[.string y.e,.int I y.m,.int I y.E,.string y.B,Z b0 y.f q,Z g y.b o] 46)));have ZQ:Hid (DeB (j.alloc (N #[.string y.e,.int I y.m,.int I y.E,.string y.B,Z b0 y.f q,Z g y.b o] 46)) (J (Y w)+1) y b0 q g o):=by rw[<-hz];exact nL j _
 have ZI:=ae (λV (f:Below (J (Y w)) w V)=>wE a0 x.f c0 x.H b0 y.f q y.H V n.1 (ZP.aa f ly) (ZN.aa f ly));have V1:=ae K;have S:=ae L;have dg:=n.2;clear ZP K ZN L n A1 ZL;have l:Hid (fC x y->iP x.H y.H x.f y.f=ZG/\∀i,i<x.b->mG (x.D i) (y.D i)=ZG):=λh=>⟨by simp[iP,h.f,qB λi hi=>h.H i (by rw[h.f];exact hi)],λi hi=>by rw[h.D i hi];simp[mG]⟩
 have c:Hid (x.e=y.e->x.m=y.m->x.E=y.E->x.B=y.B->x.b=y.b->iP x.H y.H x.f y.f=ZG->(∀i,i<x.b->mG (x.D i) (y.D i)=ZG)->fC x y):=λh1 h2 h3 h4 h5 h6 h7=>by simp only[iP,z8,AI] at h6;exact⟨h1,h2,h3,h4,h6.1,Fs h6.2,h5,λi hi=>IJ (h7 i hi)⟩
 have u:=ae (Dw x y);generalize iP x.H y.H x.f y.f=cb at ZI l c;generalize fC x y=E at l c u ⊢;go_enter Tryz.func58,Tryz.ntmps58;go_upto_region 1 with fail;rw[<-ZR];clear ZR hz;generalize World.alloc j _=W0 at G Q0 ZQ ⊢;obtain⟨t,z0,z1,z2,z3,z4,D⟩:=Q0.cells;obtain⟨s,y0,y1,y2,y3,y4,F⟩:=ZQ.cells;have hw:=G.size;have ZJ:Hid (∀V,Below (J (Y W0)) W0 V->J (Y w)<J (Y V)/\(J (Y w))+1<J (Y V)/\A V (Q (J (Y w)) 5 U)=T (Z a1 x.b c1)/\A V (Q (J (Y w)+1) 5 U)=T (Z g y.b o)):=λV f=>⟨lj t f.size,lj s f.size,(f.cell (p:=(Q (J (Y w)) 5 U)) t).trans D,(f.cell (p:=(Q (J (Y w)+1) 5 U)) s).trans F⟩
 clear Q0 ZQ;have m:=u.out;clear u;generalize x.D=O at V1 l c;generalize y.D=yl at S l c;generalize x.e=n1 at z0 c m ⊢;generalize x.m=k1 at z1 c m ⊢;generalize x.E=g1 at z2 c m ⊢;generalize x.B=t1 at z3 c m ⊢;generalize x.b=B at D c m V1 l ZJ dg ⊢;generalize y.b=m2 at F c m S ZJ ⊢;rcases m with ⟨h,ZO⟩|⟨rfl,h,h',ZO⟩|⟨rfl,rfl,h,h',ZO⟩|⟨rfl,rfl,rfl,h,ZO⟩|⟨rfl,rfl,rfl,rfl,h,ZO⟩|⟨rfl,rfl,rfl,rfl,rfl⟩
 iterate 5
  ·have C:=ae ZO
   clear ZO;go_wp2;go_ret;exact⟨ZA,rfl,⟨nofun,λe=>(C.out e).elim⟩,G⟩
 have HJ:=ae (c.out rfl rfl rfl rfl rfl);clear c;go_wp2_with fail;refine(ZI.out W0 G).mono ?_;rintro e w1 ⟨rfl,ZM⟩;have R:=ae (G.trans (ZM.mono hw));have z:=ae ZM;clear ZM ZI z0 z1 z2 z3 z4 D y0 y1 y2 y3 y4 F t s hw;cases cb with
 |false =>go_wp2;go_ret;exact⟨ZA,rfl,⟨nofun,λe=>by have:=(l.out e).1;cases this⟩,R⟩
 |true =>
  go_wp2;go_loopw [5] (λi wr=>∃k:Nat,k<=B/\i=.int I k/\Hid (∀i,i<k->mG (O i) (yl i)=ZG)/\Hid (Below (J (Y w1)) w1 wr)) (λi _=>B - (intOf i).toNat);case atStart=>exact⟨0,by omega,rfl,λi hi=>absurd hi (by omega),dB _ _⟩
  case round =>
   obtain⟨k,hk,rfl,HK,ZK⟩:=hrel;have H:=ae (R.trans (ZK.mono R.size));obtain⟨t,s,D,F⟩:=ZJ.out _ (z.trans (ZK.mono z.size));by_cases r:k<B
   ·rcases V1.aa H ly with h|⟨b,off,rfl,X⟩
    {omega};rcases S.aa H ly with h|⟨b',off',rfl,P⟩
    {omega};obtain⟨e0,e1,e2,e3⟩:=X.2 k r;obtain⟨g0,g1,g2,g3⟩:=P.2 k r;have hb:=X.1;have aq:=P.1;clear X P;have hlt2:(k:Int)<B:=by omega
    have bt:=IK (O k) (yl k);go_wp2_with fail;go_quiet (fail);have z:=ae (BM ZK nq);have B2:=ae (BM H nq);clear e0 e1 e2 e3 g0 g1 g2 g3 bt D F hb aq t s;generalize wr.drewN nq=W at z B2 ⊢;cases hb:mG (O k) (yl k) with
    |true =>
     have C:=ae hb;clear hb;go_wp2
     exact⟨⟨k+1,by omega,by go_num,(λi hi=>by
      rcases Nat.lt_succ_iff_lt_or_eq.1 hi with h|rfl;{exact HK i h}
      ·exact C),z⟩,by simp[intOf];omega⟩
    |false =>have C:=ae hb;clear hb;go_wp2;go_ret;exact⟨ZA,rfl,⟨nofun,λe=>by have:=(l.out e).2 k r;rw[C.out] at this;cases this⟩,B2⟩
   ·obtain rfl:k=B:=by omega
    go_wp2;go_ret;exact⟨ZG,rfl,⟨λ_=>HJ.out (by simp) HK.out,λ_=>rfl⟩,H⟩
theorem wF (a:Option Addr)(n c:Nat)(f:Nat->Deed)(t:Option Addr)(m F:Nat)(g:Nat->Deed)(w:M)(hn:n<=1048576)(G:SlDeed w a n f)(K:SlDeed w t m g)(r:∀i,i<n->cV (f i)):Calls Pg 16 #[.agg #[Z a n c],.agg #[Z t m F]] w λe P=>GF (m=n/\∀i,i<n->fC (f i) (g i)) w e P:=by
 have HF:=ae G;have HG:=ae K;have ZK:=ae r;clear G K r;obtain⟨q,o⟩:∃W:M,(w.alloc (N #[Z a n c] 37)).alloc (N #[Z t m F] 37)=W:=⟨_,rfl⟩
 obtain⟨u,-,ZN,-⟩:=nb2 o;have l:=ae o;clear o;have ZQ:Hid (q.heap[J (Y w)]?=T (N #[Z a n c] 37 (0,0))):=by rw[<-l.out];show _=_;rw[QI _ _ (by simp)];exact nL w _
 go_enter Tryz.func16,Tryz.ntmps16;go_upto_region 1 with fail;rw[l.out];clear l;have l0:=ag ZQ.out;have l1:=ag ZN.out;have ZP:=u.size;have ZO:Hid (∀V,Below (J (Y q)) q V->A V (Q (J (Y w)) 0 U)=T (Z a n c)/\A V (Q (J (Y w)+1) 0 U)=T (Z t m F)):=λV j=>by have E:=(j.block _ l0).trans ZQ.out;have C:=(j.block _ l1).trans ZN.out;constructor<;>simp[World.cell?,E,C]
 obtain⟨z0,z1⟩:=ZO.out q br;by_cases z:n=m;case neg =>
  have h2:((n:Int) == (m:Int))=ZA:=by simp;omega
  go_wp2;go_ret;exact⟨ZA,rfl,⟨nofun,λh=>absurd h.1.symm z⟩,u⟩
 subst z;go_wp2;clear z0 z1;go_loopw [5] (λi wr=>∃k:Nat,k<=n/\i=.int I k/\Hid (∀i,i<k->fC (f i) (g i))/\Hid (Below (J (Y q)) q wr)) (λi _=>n - (intOf i).toNat);case atStart=>exact⟨0,by omega,rfl,λi hi=>absurd hi (by omega),dB _ _⟩
 case round =>
  obtain⟨k,hk,rfl,S,s⟩:=hrel;obtain⟨z0,z1⟩:=ZO.out _ s.out;have l2:=s.size;have ZR:=ae (u.trans (s.mono ZP));by_cases p:k<n
  ·rcases HF.aa ZR ly with h|⟨b,off,rfl,D⟩
   {omega};rcases HG.aa ZR ly with h|⟨b',off',rfl,B⟩
   {omega};obtain⟨E,C,p2,p3,⟨X,k4,p4,ZM⟩,⟨x5,k5,ZL,R⟩⟩:=D.2 k p;obtain⟨q0,q1,ZJ,q3,⟨u4,m4,q4,L⟩,⟨u5,ZI,q5,H⟩⟩:=B.2 k p;have hb:=D.1;have hb':=B.1;have CD:=ae (λV (j:Below (J (Y wr)) wr V)=>Dx (f k) (g k) X k4 x5 k5 u4 m4 u5 ZI V (ZK.out k p) (ZM.aa j ly) (R.aa j ly) (L.aa j ly) (H.aa j ly));clear D B ZM R L H;have hlt2:(k:Int)<n:=by omega
   go_wp2_with fail;go_region_with (go_at_call 58;refine(CD.out _ (by repeat (first|exact dB _ _|apply SW))).mono ?_;rintro e P ⟨bb,rfl,y,x⟩);all_goals
    have O:=ae (Below.trans (by repeat (first|exact s.out|apply SW)) (x.mono l2));have B2:=ae (u.trans (O.mono ZP));clear x E C p2 p3 p4 ZL q0 q1 ZJ q3 q4 q5 z0 z1;cases bb with
    |true =>
     go_wp2
     exact⟨⟨k+1,by omega,by go_num,(λi hi=>by
      rcases Nat.lt_succ_iff_lt_or_eq.1 hi with h|rfl
      ·exact S i h
      ·exact y.1 rfl),O⟩,by simp[intOf];omega⟩
    |false =>go_wp2;go_ret;exact⟨ZA,rfl,⟨nofun,λh=>by have:=y.2 (h k p);cases this⟩,B2⟩
  ·obtain rfl:k=n:=by omega
   go_wp2;go_ret;exact⟨ZG,rfl,⟨λ_=>S.out,λ_=>rfl⟩,ZR⟩
open Ca
theorem qN (s:ByteArray)(w:M)(c:s.size<=maxLen):Calls Pg 84 #[.string s] w λe b=>ez w s.data.toList e b :=
 rR s w c (λh V=>Au s V h)
structure FfS (w:M)(ab:Nat)(a:Option Addr)(n c:Nat)(f:Nat->Deed)(V:M):Prop where
 bl:Below (J (Y w)) w V
 ac:HAc (J (Y w)) V a n c f
 bx:V.heap[ab]?=T (N #[Z a n c] 37 (0,0))
theorem FfS.aa {w V ZJ:M}{g n c:Nat}{a:Option Addr}{f:Nat->Deed}(h:FfS w g a n c f V)(b:Below (J (Y V)) V ZJ):FfS w g a n c f ZJ:=⟨h.bl.trans (b.mono h.bl.size),h.ac.agr (dX b ly),(b.block _ (ag h.bx)).trans h.bx⟩
theorem FfS.cell {w V:M}{b n c:Nat}{a:Option Addr}{f:Nat->Deed}(h:FfS w b a n c f V):A V (Q b 0 U)=T (Z a n c):=by have hb:=h.bx;simp[World.cell?,hb]
theorem xH (x:Deed):fC x (norm x):=⟨rfl,rfl,rfl,rfl,rfl,λ_ b=>(p6 b).symm,rfl,λ_ b=>(p6 b).symm⟩
theorem Dy {s:ByteArray}{S:List UInt8}(h:s=⟨S.toArray⟩):s.data.toList=S:=by rw[h]
theorem Dz {C k s:ByteArray}(b:s=df C k)(c:¬ s.toList=[]):s.extract 17 s.size=C/\18<=s.size/\¬ C.toList=[]:=by
 have f:=jE C k;have h:(⟨#[]⟩:ByteArray).toList=[]:=by rw[BG]
 unfold df at b;split at b;{rw[b] at c;exact absurd h c}
 ·rename_i g;split at b;{rw[b] at c;exact absurd h c}
  ·have i:(eG C k).length=17:=CV.symm.trans f;refine⟨lH ?_,?_,g⟩;{rw[pE,b,pF];show((eG C k)++C.data.toList).drop 17=_;rw[List.drop_left' i]}
   ·rw[b,IH,f];have h1:C.data.toList≠[]:=by rwa[BG] at g
    have h2:=GC.2 h1;rw[aO] at h2;omega
theorem Gm (a:Option Addr)(n cap:Nat)(w:M)(hn:(n:Int)<=9223372036854775807)(hc:n<=cap)(ZL:ByteSl w a n)(hL:Lay w)(hE:EV w 3)(hD:Deb w):Calls Pg 5 #[Z a n cap] w λe O=>e=ZF (.bool ZG)/\Below (J (Y w)) w O:=by
 by_cases hbig:1048576<(n:Int)
 {go_enter XR,Tryz.ntmps5;go_wp2;go_ret;exact⟨rfl,dB _ _⟩};have fd:10<J (Y w):=by
  rcases PJ 10 (J (Y w)) with h'|h';{exact h'};{simp[Deb,World.cell?,QD h'] at hD}
 have ZN:=ae (λV (j:Below (J (Y w)) w V)=>(⟨hL.aa j ly,hE.aa j hE.1,(j.cell (p:=(Q 10 15 U)) fd).trans hD,lj fd j.size⟩:Lay V/\EV V 3/\Deb V/\10<J (Y V)));have DM:=ae (nH a n cap w (by omega) hc ZL);have DR:=ae (λV (j:Below (J (Y w)) w V)=>rT a n cap V (by omega) hc (ZL.aa j ly));clear hL hE ZL hc hD fd;go_enter XR,Tryz.ntmps5;go_wp2_with fail;refine DM.out.mono ?_;rintro e ZI ⟨d,m,c,f,o,rfl,hA,Id,ph⟩;clear DM;have hm5:=hA.hn;have hmc:=hA.cap;have H:=ae (show ∀i,i<m->cV (f i) from λi hi=>(hA.ad i hi).fits);have ZQ:=ae (show ∀i,i<m->fj (f i) from λi hi=>(hA.ad i hi).sized);obtain⟨W1,dg⟩:∃W:M,ZI.alloc (N #[Z d m c] 37)=W:=⟨_,rfl⟩
 obtain⟨A1,k1,-⟩:=nb1 dg;have Bk:=ae dg;have D1:Hid (FfS w (J (Y ZI)) d m c f W1):=⟨ph.trans (A1.out.mono ph.size),hA.agr (dX A1 ly),k1⟩
 obtain⟨C,hC⟩:∃C:ByteArray,C=⟨(bF f m).toArray⟩:=⟨_,rfl⟩
 obtain⟨s,hs⟩:∃s:ByteArray,s=df C o:=⟨_,rfl⟩
 have Fn:(s.size:Int)<=300017:=by rw[hs,hC];exact qM f m o
 have FI:Hid (∀V,FfS w (J (Y ZI)) d m c f V->Calls Pg 23 #[.agg #[Z d m c],.string o] V λe O=>e=ZF (.string s)/\Below (J (Y V)) V O):=λV j=>by rw[hs,hC];obtain⟨l,-,B,ZR⟩:=ZN.out V j.bl;exact nG d m c f o V (by omega) (by omega) j.ac.here (by omega) H l.tb l.tw l.pw B ZR
 have FQ0:Hid (∀V,FfS w (J (Y ZI)) d m c f V->Calls Pg 24 #[.agg #[Z d m c],.string o] V λe O=>e=ZF (.string s)/\Below (J (Y V)) V O):=λV j=>by rw[hs,hC];exact j8 d m c f o V (by omega) (by omega) j.ac.here H ZQ
 have FO:Hid (∀V,FfS w (J (Y ZI)) d m c f V->Calls Pg 26 #[.agg #[Z d m c]] V λe O=>e=ZF (.string C)/\Below (J (Y V)) V O):=λV j=>by rw[hC];exact iu d m c f V (by omega) j.ac.here (by omega) H (ZN.out V j.bl).1.tb (ZN.out V j.bl).1.tw (ZN.out V j.bl).1.pw
 have X:=ae (Dy hC);have ZJ:=ae hs;clear A1 k1 hA ph dg hs hC;go_upto_region 4 with fail;rw[Bk.out];clear Bk;generalize (J (Y ZI))=R at D1 FI FQ0 FO ⊢;have x1:=D1.cell;have l1:=ag D1.bx;go_wp2_with fail;refine(FI.out _ D1).mono ?_;rintro e w2 ⟨rfl,g⟩;have D2:=ae (D1.aa g);clear g D1 x1 l1 FI;have x2:=D2.cell;have l2:=ag D2.bx;go_wp2_with fail;refine(FQ0.out _ D2).mono ?_;rintro e w3 ⟨rfl,g⟩;have z:=ae (D2.aa g);clear g D2 x2 l2 FQ0;go_upto_region 7 with fail;go_cut [31] (λb wx=>∃v:Bool,b=.bool v/\(v=ZG->¬ s.toList=[])/\Hid (FfS w R d m c f wx));case first =>
  by_cases ZO:s.toList=[]
  {have Hx:s=⟨#[]⟩:=lH (by rw[<-BG,ZO]);subst Hx;clear ZJ ZO X FO ZQ H;go_wp2;go_meet;exact⟨ZA,rfl,λh=>(by cases h),z⟩}
  ·have Ku:s.toList.isEmpty=ZA:=by simpa using ZO
   go_wp2;go_meet;exact⟨ZG,rfl,λ_=>ZO,z⟩
 case rest =>
 clear z;obtain⟨v,rfl,hv,z⟩:=hcut;generalize wc=W3 at z ⊢;go_upto_if 31 with fail;go_cut [] (λwx=>Hid (Below (J (Y w)) w wx));case first =>
  cases v with
  |false =>clear ZJ X FO ZQ H;go_wp2;go_meet;exact z.bl
  |true =>
   have ZO:=hv rfl;clear hv;obtain⟨hT,h18,P⟩:=Dz ZJ ZO;have Ku:s.toList.isEmpty=ZA:=by simpa using ZO
   have u:fZ s o:=(pG (by omega) (by rw[hT];exact P)).1 (by rw[hT];exact ZJ.out.symm);have th:¬ bF f m=[]:=by rw[BG,X.out] at P;exact P
   have Kt:=ae u;have HT:=ae hT;clear u hT P;go_wp2_with fail;obtain⟨l,q2,B,ZR⟩:=ZN.out _ z.bl;refine(lG s o _ (by omega) (by omega) l q2 B ZR).mono ?_;rintro e w4 ⟨r,ZP,c4,q,hI,rfl,Fd,qr,Kv,g⟩;have bt:=hI.1 Kt;rw[HT.out,X.out] at bt;obtain rfl:=bt.2 f m rfl th;have h4:q.map (·.1)=nrm f m:=qr;have DQ:q.length=m:=by have:=wA List.length h4;rw[lu,QX] at this;exact this
   have H4:=ae h4;have Kw:=ae DQ;have D4:=z.aa g;obtain⟨W4,aq⟩:∃W:M,w4.alloc (N #[Z ZP q.length c4] 37)=W:=⟨_,rfl⟩
   obtain⟨A4,k4,-⟩:=nb1 aq;have DH:=ae aq;have D5:=ae (D4.aa A4);have S5:=ae (Fd.aa A4 ly).ak;clear g D4 z Fd aq A4 hI bt qr Kv h4 DQ th l q2 B ZR X ZJ;simp only[Option.isSome_some];go_upto_region 9 with fail;rw[DH.out];clear DH;generalize (J (Y w4))=ZK at k4 ⊢;go_wp2_with fail;have At:∀V,FfS w R d m c f V->V.heap[ZK]?=T (N #[Z ZP q.length c4] 37 (0,0))->(A V (Q R 0 U)=T (Z d m c)/\R<J (Y V))/\A V (Q ZK 0 U)=T (Z ZP q.length c4)/\ZK<J (Y V):=λV h1 h2=>⟨⟨h1.cell,ag h1.bx⟩,by simp[World.cell?,h2],ag h2⟩
   have mv:=ae At;clear At;have D6:=ae (D5.aa br.drew);have S6:Hid (SlDeed W4.drew ZP q.length (dF (q.map (λx=>x.1)))):=S5;have k6:Hid (W4.drew.heap[ZK]?=T (N #[Z ZP q.length c4] 37 (0,0))):=k4;refine wp_region_held_drew (S:=λV=>(A V (Q R 0 U)=T (Z d m c)/\R<J (Y V))/\A V (Q ZK 0 U)=T (Z ZP q.length c4)/\ZK<J (Y V)) (by kernel_rfl) (mv.out _ D6 k6) λZL=>?_;have y:=ae ZL;clear ZL D5 S5 k4;generalize W4.drew=v5 at D6 S6 k6 y ⊢;have h18i:¬ (s.size:Int)<18:=by omega
   have h17:(17:Int)<=(s.size:Int):=by omega
   iterate 5
    refine bI 0 (v:=?_) rfl rfl (by kernel_rfl) (λ_ _ _ h=>h) rfl ?_ y ?_;rotate_left
    ·(intro wz G;obtain⟨⟨s0,s1⟩,s2,s3⟩:=G;go_simp)
     (try with_reducible rfl)
    (try simp only[Act.put,nzL])
   refine aS (i:=5) rfl (by kernel_rfl) λK hK=>?_;go_simp;go_at_call 16;refine(wF d m c f ZP q.length c4 (dF (q.map (λx=>x.1))) _ (by omega) D6.ac.here S6.out H).mono ?_;rintro e v6 ⟨b,rfl,hb,g⟩
   obtain rfl:b=ZG:=hb.2 ⟨Kw,λi hi=>by
    rw[H4.out,Bp f hi]
    exact xH _⟩
   have L:=ae (D6.aa g);have E:=ae ((g.block _ (ag k6.out)).trans k6);clear hb g D6 k6 y S6;have y:=ae (mv.out _ L E);refine hK _ _ y ?_;clear hK K
   (try simp only[Act.put,nzL])
   have hT:=HT.out;iterate 11
    refine bI 6 (v:=?_) rfl rfl (by kernel_rfl) (λ_ _ _ h=>h) rfl ?_ y ?_;rotate_left
    ·(intro wz G;obtain⟨⟨s0,s1⟩,s2,s3⟩:=G;go_simp)
     (try with_reducible rfl)
    (try simp only[Act.put,nzL])
   refine aS (i:=17) rfl (by kernel_rfl) λK hK=>?_;go_simp;go_at_call 26;refine(FO.out _ L).mono ?_;rintro e v8 ⟨rfl,g⟩;have D8:=ae (L.aa g);have k8:=ae ((g.block _ (ag E.out)).trans E);clear g L E y;have y:=ae (mv.out _ D8 k8);refine hK _ _ y ?_;clear hK K
   (try simp only[Act.put,nzL])
   iterate 2
    refine bI 18 (v:=?_) rfl rfl (by kernel_rfl) (λ_ _ _ h=>h) rfl ?_ y ?_;rotate_left
    ·(intro wz G;obtain⟨⟨s0,s1⟩,s2,s3⟩:=G;go_simp)
     (try with_reducible rfl)
    (try simp only[Act.put,nzL])
   refine wpAnyH_done (by kernel_rfl) ?_ _;go_wp2;go_meet;exact D8.bl
 case rest =>
 clear ZJ X FO ZQ H hv z Id Fn;have B5:=ae hcut.out;clear hcut;generalize wc=W5 at B5 ⊢;go_wp2_with fail;refine(DR.out _ B5).mono ?_;rintro e w6 ⟨t,k,rfl,ht,hk,g⟩;have ZM:=ae (B5.trans (g.mono B5.size));clear g B5 DR;obtain⟨l,q2,B,ZR⟩:=ZN.out _ ZM;go_wp2_with fail;refine(lG t k _ (by omega) (by omega) l q2 B ZR).mono ?_;rintro e w7 ⟨r,a7,c7,F,hI,rfl,la,Fk,Fm,g⟩;obtain⟨W7,ld⟩:∃W:M,w7.alloc (N #[Z a7 F.length c7] 37)=W:=⟨_,rfl⟩
 obtain⟨A7,E,-⟩:=nb1 ld;have ur:=ae ld;have hcp:=wk la.i;have L:=ae (la.aa A7 ly);have B7:=ae ((ZM.trans (g.mono ZM.size)).trans (A7.out.mono (ZM.trans (g.mono ZM.size)).size));have HI:=ae hI;have HM:=ae Fk;have ZQ:=ae Fm;clear g la hI Fk Fm ld A7 ZM l q2 B ZR;go_wp2_with fail;rw[ur.out];clear ur;generalize (J (Y w7))=xb at E ⊢;refine(tU t k _ (by omega) (by omega) (λV=>qN _ V (by rw[RQ];unfold maxLen;omega))).mono ?_;rintro e w8 ⟨r8,a8,c8,R8,DS,rfl,-,-,-,g⟩;obtain rfl:=Gk HI DS;obtain⟨W8,n9⟩:∃W:M,w8.alloc (N #[Z a8 R8.length c8] 37)=W:=⟨_,rfl⟩
 obtain⟨A8,-,-⟩:=nb1 n9;have DE:=ae n9;have C8:=g.trans (A8.out.mono g.size);have D8:=ae (L.aa C8 ly);have B8:=ae (B7.trans (C8.mono B7.size));have k8:=ae ((C8.block _ (ag E.out)).trans E);clear g DS n9 A8 C8 L B7 E;go_upto_region 14 with fail;rw[DE.out];clear DE;have l8:=ag k8.out;have x8:A W8 (Q xb 0 U)=T (Z a7 F.length c7):=by simp[World.cell?,k8.out]
 cases r with
 |none =>simp only[Option.isSome_none];go_wp2;go_ret;exact⟨rfl,B8⟩
 |some D =>
  have u:fZ t k:=UH λh=>by have:=HI.2 h;cases this
  obtain⟨f7,n7,h1,h2,h3⟩:=(HI.1 u).1 D rfl;have h4:F.map (·.1)=nrm f7 n7:=HM.out.trans h3;have JT:n7=F.length:=by have:=wA List.length h4;rw[lu,QX] at this;exact this.symm
  subst JT;have ro:SlDeed W8 a7 F.length f7:=by have h:=D8.ak;rw[h4] at h;exact pW h
  have sm:=nS (f:=f7) (n:=F.length) (k:=300001) (by rw[<-h4];exact ZQ) (by omega);have hRl:F.length<=300001:=by have:=ZQ.1;simpa using this
  obtain⟨l,-,B,ZR⟩:=ZN.out _ B8;have FA:=nG a7 F.length c7 f7 k W8 (by omega) (by omega) ro (by omega) (λi hi=>(sm i hi).1) l.tb l.tw l.pw B ZR;have es:(⟨(bF f7 F.length).toArray⟩:ByteArray)=t.extract 17 t.size:=lH (by rw[<-h1]);rw[es,(pG u.1 (by rw[BG];exact h2)).2 u] at FA;have GS:=ae FA;clear FA ro sm h1 h2 h3 h4 es u l B ZR;simp only[Option.isSome_some];go_wp2_with fail;refine GS.out.mono ?_;rintro e w9 ⟨rfl,g⟩;have B9:=ae (B8.trans (g.mono B8.size));clear g;go_wp2;go_ret;exact⟨rfl,B9⟩
end Go.Proofs.YtpmnbjkjpnclaaaGreatDoor.Vp
namespace Go.Proofs.YtpmnbjkjpnclaaaGreatDoor.Slc
open Go.ChangeShapes Go.WideShapes Go.ChangeAt RowKit Go.Deep Vp
theorem own:ownKnob Pg.godebug=U:=by kernel_rfl
theorem laidOut:laidOutB Pg=ZG:=by kernel_rfl
abbrev pI:String:="loop.example/kilndeed/impl.rows"
theorem gRows:Pg.globalNamed pI=T 1:=by kernel_rfl
theorem tRows:(Pg.globals[1]?).map (·.type)=T 325:=by kernel_rfl
theorem tPow:(Pg.globals[2]?).map (·.type)=T 338:=by kernel_rfl
theorem Gn:Pg.cellsOf 338=20:=by kernel_rfl
theorem Gp:Pg.cellsOf 203=1:=by kernel_rfl
theorem Ko:Pg.cellsOf 324=5:=by kernel_rfl
theorem Kq:Pg.cellsOf 3=1:=by kernel_rfl
theorem JJ:Pg.cellsOf 9=1:=by kernel_rfl
theorem cES:Pg.cellsOf 397=1:=by kernel_rfl
theorem JK:∀k:Nat,k<16->∃(t p:DataW Unit) (L:List (DataW Unit)),Rows.laid_loop_example_kilndeed_impl_rows=.agg L/\L[k]?=T (.agg [.lit (.string (word k)),.lit (.int I (aE k)),.lit (.int I (bO k)),t,p]):=by intro k hk;rcases(show k=0∨k=1∨k=2∨k=3∨k=4∨k=5∨k=6∨k=7∨k=8∨k=9∨k=10∨k=11∨k=12∨k=13∨k=14∨k=15 by omega) with rfl|rfl|rfl|rfl|rfl|rfl|rfl|rfl|rfl|rfl|rfl|rfl|rfl|rfl|rfl|rfl;all_goals exact⟨_,_,_,rfl,rfl⟩
theorem j9 {b:List ZC}{o j:Nat}{v:ZC}(c:j<5)(h:(((b.drop o).take 5).drop j).take 1=[v]):b[o+j]?=T v:=by
 have h2:((((b.drop o).take 5).drop j).take 1)[0]?=T v:=by rw[h];rfl
 simpa[WU,c] using h2
theorem yF {W:M}{enc:ZH × ZC->Unit}{sp:Nat->Bool}{r:Bool}{x:Nat}{c:Array ZC}{p:List MemPlace}(f:W.var? Pg pI=T c)
  (B:DataW.trod enc Pg W 0 sp r x 325 c.toList=T (Rows.laid_loop_example_kilndeed_impl_rows,p)):Tab W/\TabW W:=by
 obtain⟨xs,m,_,s,_,hn,o⟩:=DataW.trod_array Tryz.underlying325 B;rw[Ko] at o;have i:∀k,k<16->c.toList[k*5+0]?=T (.string ⟨(word k).toArray⟩)/\c.toList[k*5+1]?=T (.int I (aE k))/\c.toList[k*5+2]?=T (.int I (bO k)):=by
  intro k g;obtain⟨t,p,L,hL,l⟩:=JK k g;rw[hL] at s;simp only[LK,DataW.agg.injEq] at s;have b:=o k g;rw[s.1,NZ] at l;obtain⟨y,G,j⟩:=OB.1 l;rw[G] at b;obtain⟨h,n,_,E,_,_,q⟩:=DataW.trod_struct Tryz.underlying324 b;have hz:h.map (·.1)=[.lit (.string (word k)),.lit (.int I (aE k)),.lit (.int I (bO k)),t,p]:=by rw[E] at j;simpa using j
  have ZR:DataW.trod _ Pg W 0 _ _ n 9 ((((c.toList.drop (k*5)).take 5).drop 0).take (Pg.cellsOf 9))=h[0]?:=q 0 _ rfl;have h1:DataW.trod _ Pg W 0 _ _ n 3 ((((c.toList.drop (k*5)).take 5).drop 1).take (Pg.cellsOf 3))=h[1]?:=q 1 _ rfl;have h2:DataW.trod _ Pg W 0 _ _ n 3 ((((c.toList.drop (k*5)).take 5).drop 2).take (Pg.cellsOf 3))=h[2]?:=q 2 _ rfl;rw[Kq] at h1 h2;rw[JJ] at ZR;match h,hz with
  |[y0,y1,y2,y3,y4],hz =>
   simp only[PM,PQ,List.cons.injEq,and_true] at hz;obtain⟨H,C,ZP,_⟩:=DataW.trod_string F3 (show DataW.trod _ Pg W 0 _ _ n 9 _=T y0 from ZR);obtain⟨z1,z,ZN,_⟩:=DataW.trod_int PD (show DataW.trod _ Pg W 0 _ _ n 3 _=T y1 from h1);obtain⟨z2,F,ZQ,_⟩:=DataW.trod_int PD (show DataW.trod _ Pg W 0 _ _ n 3 _=T y2 from h2);have O:H=⟨(word k).toArray⟩:=by have:=hz.1;rw[ZP] at this;simp only[DataW.lit.injEq,Lit.string.injEq] at this;rw[<-this]
   have ZO:z1=aE k:=by have:=hz.2.1;rw[ZN] at this;simpa using this
   have K:z2=bO k:=by have:=hz.2.2.1;rw[ZQ] at this;simpa using this
   rw[O] at C;rw[ZO] at z;rw[K] at F;exact⟨j9 (by omega) C,j9 (by omega) z,j9 (by omega) F⟩
 refine⟨⟨?_,λk g=>?_⟩,λk g=>?_⟩;{have D:=TO gRows f 1;have:=(i 0 (by omega)).2.1;simp only[WH,FM,LY] at this;rw[this] at D;rcases PJ 1 (J (Y W)) with u|u;{exact u};{simp[World.cell?,QD u] at D}};{have c1:=TO gRows f (k*5+1);have c2:=TO gRows f (k*5+2);have b:=i k g;simp only[LY] at b;exact⟨c1.trans b.2.1,c2.trans b.2.2⟩};{have c0:=TO gRows f (k*5);have b:=i k g;simp only[LY,PT] at b;exact c0.trans b.1}
theorem JL {W:M}{enc:ZH × ZC->Unit}{sp:Nat->Bool}{b:Bool}{c:Nat}{f:Array ZC}{p:List MemPlace}(g:W.var? Pg "internal/strconv.uint64pow10"=T f)
  (h:DataW.trod enc Pg W 0 sp b c 338 f.toList=T (Rows.laid_internal_strconv_uint64pow10,p)):Pow W:=by
 have e:=Lib.cells_of_tab (k:=.u64) (zs:=Lib.pow10Tab) XB UY Gp Gn h;show W.var? Pg _=T _;rw[g,<-e]
theorem mM:Pg.globalNamed "loop.example/kilndeed/impl.errNoTarget"=T 3:=by kernel_rfl
theorem mN:(Pg.globals[3]?).map (·.type)=T 207:=by kernel_rfl
theorem tm:Pg.globalNamed "loop.example/kilndeed/impl.errWord"=T 0:=by kernel_rfl
theorem tp:(Pg.globals[0]?).map (·.type)=T 207:=by kernel_rfl
theorem nI:Pg.globalNamed "loop.example/kilndeed/impl.errOperand"=T 7:=by kernel_rfl
theorem nJ:(Pg.globals[7]?).map (·.type)=T 207:=by kernel_rfl
theorem oK:Pg.globalNamed "loop.example/kilndeed/impl.errNumber"=T 5:=by kernel_rfl
theorem oL:(Pg.globals[5]?).map (·.type)=T 207:=by kernel_rfl
theorem qO:Pg.globalNamed "loop.example/kilndeed/impl.errQuote"=T 6:=by kernel_rfl
theorem qP:(Pg.globals[6]?).map (·.type)=T 207:=by kernel_rfl
theorem qQ:Pg.globalNamed "loop.example/kilndeed/impl.errBound"=T 8:=by kernel_rfl
theorem qR:(Pg.globals[8]?).map (·.type)=T 207:=by kernel_rfl
theorem Ax:Pg.globalNamed "strconv.ErrRange"=T 12:=by kernel_rfl
theorem Ay:(Pg.globals[12]?).map (·.type)=T 207:=by kernel_rfl
theorem xI:Pg.globalNamed "strconv.ErrSyntax"=T 11:=by kernel_rfl
theorem xJ:(Pg.globals[11]?).map (·.type)=T 207:=by kernel_rfl
theorem star : "*"++"errors.errorString"="*errors.errorString":=by decide
theorem Ke (u:ZH)(h:Pg.typeName? 3 u=T "*errors.errorString"):u=395 :=
 typeName_ptr_named (nm:="errors.errorString") (by rw[star];kernel_rfl) (by kernel_rfl) (by decide) u (by rw[star];exact h)
theorem nK {n:String}{d:DataW Unit}{r:List (String × DataW Unit)}{W:M}(h:laidMet Pg ((n,d)::r) W):∃g t c b p,Pg.globalNamed n=T g/\(Pg.globals[g]?).map (·.type)=T t/\W.var? Pg n=T c/\DataW.trod (λ_=>()) Pg W 0 (λ_=>ZG) ZA b t c.toList=T (d,p):=by obtain⟨ps,⟨g,t,c,b,p,q,h1,h2,h3,h4,_⟩,_⟩:=h;exact⟨g,t,c,b,p,h1,h2,h3,h4⟩
theorem Kf {W:M}{n:String}{g:Nat}{x:ZC}(c:Pg.globalNamed n=T g)(f:W.var? Pg n=T #[x]):g<J (Y W)/\A W (Q g 0 U)=T x:=by
 have b:A W (Q g 0 U)=T x:=by simpa using TO c f 0
 refine⟨?_,b⟩;rcases PJ g (J (Y W)) with h|h;{exact h};{simp[World.cell?,QD h] at b}
theorem nM {W:M}{n:String}{g:Nat}{text:List UInt8}{r:List (String × DataW Unit)}(h:laidMet Pg ((n,.iface "*errors.errorString" (.ptr (.agg [.lit (.string text)])))::r) W)(b:Pg.globalNamed n=T g)(f:(Pg.globals[g]?).map (·.type)=T 207):EV W g:=by obtain⟨a,s,c,_⟩:=laid_sentinel h b f UV Ke Tryz.underlying395 Tryz.underlying397 rfl rfl F3 cES JJ;obtain⟨h1,h2⟩:=Kf b c;exact⟨h1,_,_,h2⟩
theorem JM {W:M}{c:Array ZC}(b:W.var? Pg "internal/strconv.uint64pow10"=T c):2<J (Y W):=by
 rcases PJ 2 (J (Y W)) with h|h;{exact h};{simp[World.var?,gPow,QD h] at b}
theorem gDeb:Pg.globalNamed "math/bits.deBruijn64tab"=T 10:=by kernel_rfl
theorem tDeb:(Pg.globals[10]?).map (·.type)=T 370:=by kernel_rfl
theorem Gq:Pg.cellsOf 370=64:=by kernel_rfl
theorem yG:Pg.cellsOf 5=1:=by kernel_rfl
def JO:List Int:=([.int .u8 0,.int .u8 1,.int .u8 56,.int .u8 2,.int .u8 57,.int .u8 49,.int .u8 28,.int .u8 3,.int .u8 61,.int .u8 58,.int .u8 42,.int .u8 50,.int .u8 38,.int .u8 29,.int .u8 17,.int .u8 4,.int .u8 62,.int .u8 47,.int .u8 59,.int .u8 36,.int .u8 45,.int .u8 43,.int .u8 51,.int .u8 22,.int .u8 53,.int .u8 39,.int .u8 33,.int .u8 30,.int .u8 24,.int .u8 18,.int .u8 12,.int .u8 5,.int .u8 63,.int .u8 55,.int .u8 48,.int .u8 27,.int .u8 60,.int .u8 41,.int .u8 37,.int .u8 16,.int .u8 46,.int .u8 35,.int .u8 44,.int .u8 21,.int .u8 52,.int .u8 32,.int .u8 23,.int .u8 11,.int .u8 54,.int .u8 26,.int .u8 40,.int .u8 15,.int .u8 34,.int .u8 20,.int .u8 31,.int .u8 10,.int .u8 25,.int .u8 14,.int .u8 19,.int .u8 9,.int .u8 13,.int .u8 8,.int .u8 7,.int .u8 6]:List ZC).map fun | .int _ z=>z|_=>0
theorem JP {W:M}{enc:ZH × ZC->Unit}{sp:Nat->Bool}{b:Bool}{f:Nat}{g:Array ZC}{p:List MemPlace}(i:W.var? Pg "math/bits.deBruijn64tab"=T g)
  (j:DataW.trod enc Pg W 0 sp b f 370 g.toList=T (Rows.laid_math_bits_deBruijn64tab,p)):Deb W:=by
 have e:=Lib.cells_of_tab (k:=.u8) (zs:=JO) XC L3 yG Gq j;have c:=TO gDeb i 15;have h:g.toList[15]?=T (.int .u8 4):=by rw[e];rfl
 rw[LY] at h;exact c.trans h
def tq:List (String × DataW Unit):=[("math/bits.deBruijn32tab",Rows.laid_math_bits_deBruijn32tab),("math/bits.deBruijn64tab",Rows.laid_math_bits_deBruijn64tab),("internal/strconv.uint64pow10",Rows.laid_internal_strconv_uint64pow10),("strconv.ErrRange",Rows.laid_strconv_ErrRange),("strconv.ErrSyntax",Rows.laid_strconv_ErrSyntax),("loop.example/kilndeed/impl.rows",Rows.laid_loop_example_kilndeed_impl_rows),("loop.example/kilndeed/impl.errWord",Rows.laid_loop_example_kilndeed_impl_errWord),("loop.example/kilndeed/impl.errOperand",Rows.laid_loop_example_kilndeed_impl_errOperand),("loop.example/kilndeed/impl.errNumber",Rows.laid_loop_example_kilndeed_impl_errNumber),("loop.example/kilndeed/impl.errQuote",Rows.laid_loop_example_kilndeed_impl_errQuote),("loop.example/kilndeed/impl.errBound",Rows.laid_loop_example_kilndeed_impl_errBound),("loop.example/kilndeed/impl.errNoTarget",Rows.laid_loop_example_kilndeed_impl_errNoTarget)]
theorem Az {W:M}(h:laidMetH Pg Rows.fnSealRow.laid W):laidMet Pg tq W:=by rw[MakeChecks.laidMetH_plain _ _ _ (by kernel_rfl)] at h;exact h
theorem tables {W:M}(h:laidMetH Pg Rows.fnSealRow.laid W):Lay W/\EV W 3/\Deb W:=by have j:=Az h;unfold tq at j;have h1:=j.tail;obtain⟨g1,t1,cs1,f1,p1,i,l,p,n⟩:=nK h1;obtain rfl:=BC (gDeb.symm.trans i);obtain rfl:=BC (tDeb.symm.trans l);have h2:=h1.tail;obtain⟨g2,t2,cs2,f2,p2,m,s,c,r⟩:=nK h2;obtain rfl:=BC (gPow.symm.trans m);obtain rfl:=BC (tPow.symm.trans s);have h3:=h2.tail;have h4:=h3.tail;have t:=h4.tail;obtain⟨g5,t5,cs5,f5,p5,y,q,g,b⟩:=nK t;obtain rfl:=BC (gRows.symm.trans y);obtain rfl:=BC (tRows.symm.trans q);have z:=t.tail;have ZR:=z.tail;have x:=ZR.tail;have o:=x.tail;have f:=o.tail;have u:=f.tail;exact⟨⟨(yF g b).2,(yF g b).1,nM o qO qP,nM x oK oL,nM z tm tp,nM ZR nI nJ,nM f qQ qR,nM h4 xI xJ,nM h3 Ax Ay,JL c r,JM c⟩,nM u mM mN,JP p n⟩
