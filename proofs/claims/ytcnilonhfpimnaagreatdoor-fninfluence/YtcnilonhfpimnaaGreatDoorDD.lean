import Derived.Test.YtcnilonhfpimnaaGreatDoorEC
import Derived.Test.YtcnilonhfpimnaaGreatDoorDF
set_option linter.all false
set_option maxRecDepth 100000
set_option maxHeartbeats 4000000
open Go renaming Addr.mk->T,Value.slice->Z,Value.string->U,Value.int->J,Value.bool->ZF,Value.agg->ZJ,Obj.cells->N,IntKind.i64->I,World->E,Ending.returned->ZI,Proofs.Tryz.prog->Pg
open Option renaming none->Y,some->Q
open Bool renaming false->ZA,true->ZH
namespace Go.Proofs.YtcnilonhfpimnaaGreatDoor.Vp
open Tryz RowKit
variable {t:F_}{W:E}{n0 n1 n m:Nat}{f0:Nat->Source}{f1:Nat->Target}{f:Nat->au}{a0 a1:O_}{b:Type}
def MSp (W:E)(a0:O_)(c0:Nat)(a1:O_)(c1:Nat)(f:List Source)(g:List Target):Prop:=
 ∃(b:Nat) (R:List TR),W.ownsRow b 82 2 (Z a0 f.length c0) f.length (f.flatMap bF)/\TRow W b (Z a1 R.length c1) R/\R.map (·.1)=g
def wL{b:Nat}{i h:Value}{f:List Source}{R:List TR}{g:List Target}(j:W.ownsRow b 82 2 i f.length (f.flatMap bF))(h1:TRow W b h R)(h2:R.map (·.1)=g):∃a0 c0 a1 c1,i=Z a0 f.length c0/\h=Z a1 g.length c1/\MSp W a0 c0 a1 c1 f g:=by obtain⟨a0,c0,rfl⟩:=aJ j;obtain⟨a1,c1,rfl⟩:=aJ h1.u;refine⟨a0,c0,a1,c1,rfl,?_,b,R,j,h1,h2⟩;rw[<-h2,PJ]
def MSp.aa{V:E}{c0 c1 B:Nat}{i:List Source}{f:List Target}(h:MSp W a0 c0 a1 c1 i f)(hb:Below B W V)(g:W.heap.size<=B):MSp V a0 c0 a1 c1 i f:=by obtain⟨b,R,j,h1,h2⟩:=h;exact⟨b,R,K_ j hb g,h1.aa hb g,h2⟩
def MSp.s0{c0 c1:Nat}{b:List Source}{f:List Target}(h:MSp W a0 c0 a1 c1 b f):Qy W a0 b.length (aV b):=by obtain⟨base,R,g,h1,h2⟩:=h;exact kZ g
def MSp.s1{c0 c1:Nat}{f:List Source}{b:List Target}(h:MSp W a0 c0 a1 c1 f b):Qx W a1 b.length (aW b):=by obtain⟨base,R,h0,h1,rfl⟩:=h;have:=uR h1;rw[PJ];exact this
def Dv{b:Nat->Ins}(h:fW n0 f0 n1 f1 t (valid b m)=0):aA t=ZH/\GoodE (d9 n0 f0 n1 f1 t m b) (eE n0 f0 n1 f1 t m b)/\∃i:Nat,(eE n0 f0 n1 f1 t m b)[i]?=Q ⟨t,m,b⟩:=by
 have f:=h;unfold fW at f;by_cases a1:aR n0 f0 n1 f1≠0;{rw[eT a1] at f;cases f};rw[eI a1] at f;by_cases g:aA t=ZA\/valid b m=ZA;{rw[eT g] at f;cases f};rw[eI g] at f;by_cases p:200<=(Qz f0 t n0).length+(Qq f1 t n1).length;{rw[eT p] at f;cases f};have l:aR n0 f0 n1 f1=0:=by omega
 have hn:aA t=ZH:=by rw[<-QK];exact λe=>g (.inl e)
 have o:valid b m=ZH:=by rw[<-QK];exact λe=>g (.inr e)
 obtain⟨j,q⟩:=Cq (x:=⟨t,m,b⟩) (t:=t) (iY t l) rfl (by omega) hn (by unfold cP;simp[o]) nB pC;have n:d9 n0 f0 n1 f1 t m b=Qz f0 t n0:=by rw[d9,eT h]
 have r:eE n0 f0 n1 f1 t m b=jO (Qq f1 t n1) ⟨t,m,b⟩ t:=by rw[eE,eT h]
 rw[n,r];exact⟨hn,j,q⟩
structure Besd (S S2:J_)(k:F_):Prop where
 s:∀y:Source,y.e.toList≠k.toList->(y∈(List.range S2.n0).map S2.f0 ↔ y∈(List.range S.n0).map S.f0)
 t:∀y:Target,y.e.toList≠k.toList->(y∈(List.range S2.n1).map S2.f1 ↔ y∈(List.range S.n1).map S.f1)
def tu{g:Type}(p:g->Bool)(f:Nat->g)(n:Nat):aM (λi=>p (f i)) n=ZH ↔ ∃y∈(List.range n).map f,p y=ZH:=by
 constructor;{intro h;obtain⟨k,b,hb⟩:=gJ h;exact⟨f k,NN.2 ⟨k,IH.2 b,rfl⟩,hb⟩};{rintro⟨y,j,hb⟩;obtain⟨k,b,rfl⟩:=NN.1 j;exact cS (IH.1 b) hb}
def mM (nm:b->F_)(f:Nat->b)(n:Nat)(t:F_):aF (λi=>nm (f i)) n t=ZH ↔ ∃y∈(List.range n).map f,((nm y).toList == t.toList)=ZH:=by simp only[aF,TI,NN,IH];exact⟨λ⟨k,h,e⟩=>⟨_,⟨k,h,rfl⟩,e⟩,λ⟨_,⟨k,h,rfl⟩,e⟩=>⟨k,h,e⟩⟩
def mN{p:b->Bool}{q:b->Prop}{A B:List b}(h:∀y,q y->(y∈B ↔ y∈A))(f:∀y,p y=ZH->q y):(∃y∈B,p y=ZH) ↔ ∃y∈A,p y=ZH:=
 ⟨λ⟨y,h1,h2⟩=>⟨y,(h y (f y h2)).1 h1,h2⟩,λ⟨y,h1,h2⟩=>⟨y,(h y (f y h2)).2 h1,h2⟩⟩
section
variable {S S2:J_}{k t:F_}
def Besd.src (h:Besd S S2 k)(f:t.toList≠k.toList)(x:F_):jd S2.n0 S2.f0 t x=jd S.n0 S.f0 t x:=by have e:=λ(S:J_)=>tu (λy:Source=>y.e.toList == t.toList && y.H.toList == x.toList) S.f0 S.n0;rw[OJ];exact(e S2).k ((mN h.s λy b=>by simp at b;rw[b.1];exact f).k (e S).c)
def Besd.w (h:Besd S S2 k)(g:t.toList≠k.toList)(n:Nat)(f:Nat->Ins):iB S2.n1 S2.f1 t n f=iB S.n1 S.f1 t n f:=by have e:=λ(S:J_)=>tu (λy:Target=>y.e.toList == t.toList && cD y.q f y.h n) S.f1 S.n1;rw[OJ];exact(e S2).k ((mN h.t λy b=>by simp at b;rw[b.1];exact g).k (e S).c)
def Besd.has (h:Besd S S2 k)(f:t.toList≠k.toList):hZ S2.n0 S2.f0 S2.n1 S2.f1 t=hZ S.n0 S.f0 S.n1 S.f1 t:=by
 have g:aF (nm0 S2.f0) S2.n0 t=aF (nm0 S.f0) S.n0 t:=by rw[OJ];exact(mM (λy:Source=>y.e) S2.f0 _ t).k ((mN h.s λy b=>by simp at b;rw[b];exact f).k (mM (λy:Source=>y.e) S.f0 _ t).c)
 have i:aF (nm1 S2.f1) S2.n1 t=aF (nm1 S.f1) S.n1 t:=by rw[OJ];exact(mM (λy:Target=>y.e) S2.f1 _ t).k ((mN h.t λy b=>by simp at b;rw[b];exact f).k (mM (λy:Target=>y.e) S.f1 _ t).c)
 unfold hZ;rw[g,i]
def Besd.borne (h:Besd S S2 k){p:Nat}(b:k.toList ∉ cG f n)(l:p<n)(g:Borne S f p):Borne S2 f p:=by
 rw[Bl] at b;have hn:(f p).e.toList≠k.toList:=λe=>b ⟨p,l,.inl e⟩;refine⟨?_,nV λj i=>?_,g.run⟩;{have:=g.lie;unfold gD at this ⊢;rw[h.src hn,h.w hn,h.has hn];exact this};{have:=iG g.has i;unfold dY at this ⊢;rw[h.has λe=>b ⟨p,l,.inr ⟨j,i,e⟩⟩];exact this}
def tv {c:Nat->Int}:∀{n:Nat},(fi c n).1=0->∀i,i<n->c i=0
 |0,_,i,hi=>absurd hi (by omega)
 |n+1,h,i,hi=>by
  rw[fi] at h;split at h
  ·rename_i b
   split at h
   ·rcases TG.1 hi with e|rfl
    ·exact tv b i e
    ·assumption
   ·contradiction
  ·contradiction
def r9 (i:bc f n=ZH):(fj S.n0 S.f0 S.n1 S.f1 f n).1=0 ↔ aR S.n0 S.f0 S.n1 S.f1=0/\∀p,p<n->Borne S f p:=by
 unfold fj;rw[eT i];constructor;{intro h;split at h;{rename_i g;refine⟨g,λp b=>?_⟩;have:=tv h p b;unfold dx at this;split at this;{omega};split at this;{omega};rename_i h1 h2;exact⟨by simpa using h1,by simpa using h2,this⟩};{cases h}};{rintro⟨g,h⟩;rw[eT g,nW λp b=>by unfold dx;rw[eI (by rw[(h p b).lie];simp),eI (by rw[(h p b).has];simp)];exact(h p b).run]}
def Dw (g:bc f n=ZH):((bE S (f (n - 1)).e).1.length=n/\∀i,i<n->DeedEq (f i) (dF (bk S (bE S (f (n - 1)).e).1) i)) ↔ (fj S.n0 S.f0 S.n1 S.f1 f n).1=0:=by
 have hn:=er g;rw[r9 g];constructor
 ·rintro⟨h1,h2⟩;rcases o8 S (f (n - 1)).e with⟨e,-⟩|⟨M,e,h,m,q,hb⟩
  {rw[e] at h1;have h0:0=n:=h1;omega};{rw[hb] at h1 h2;have h1:M.length=n:=h1;obtain⟨a,b⟩:=Co h m q;rw[h1] at a b;exact⟨h.chk,λp j=>Ac a (λi hi=>(h2 i hi).c) j (b p j)⟩}
 ·rintro⟨l,o⟩;have h:=SpcOk.of l;have hb:(bE S (f (n - 1)).e).1=cF S f n:=by unfold bE;rw[eT ⟨l,(gT g (show n - 1<n by omega)).1⟩,zZ g h o]
  rw[hb];exact⟨by simp[cF],λi hi=>(Aa g h o hi).c⟩
end
def wM{L:List b}{x y:b}{i:Nat}:y∈L.take i++x::L.drop i ↔ y=x\/y∈L:=
 ⟨lB,λh=>by
  rcases h with rfl|h
  ·simp
  ·rw[<-QO i L] at h
   rcases p8.1 h with h|h
   ·exact p8.2 (.inl h)
   ·exact p8.2 (.inr (mq _ h))⟩
def Gu{b:List Source}{n:List Target}(h:GoodE b n){x:Source}(o:∀y∈b,(y.e.toList == t.toList)=ZA){y:Source}:y∈ik b x t ↔ y=x\/y∈b:=by
 have f:aK (nm0 (aV b)) b.length=ZH:=iD λi j g l=>by show aC (aV b i).e (aV b j).e=ZH;rw[dh l,dh (by omega)];exact ES.1 h.s i j (by omega) l g
 obtain⟨i,hi,a1,m⟩:=jV (t:=t) f;rw[xZ hi a1 m o];exact wM
def Gv{q:List Source}{b:List Target}(h:GoodE q b){x:Target}(p:∀y∈b,(y.e.toList == t.toList)=ZA){y:Target}:y∈jO b x t ↔ y=x\/y∈b:=by
 have f:aK (nm1 (aW b)) b.length=ZH:=iD λi j g n=>by show aC (aW b i).e (aW b j).e=ZH;rw[dy n,dy (by omega)];exact ES.1 h.t i j (by omega) n g
 obtain⟨i,hi,a1,o⟩:=jV (t:=t) f
 rw[jO,x7 hi a1 o λm l=>by
  show((aW b m).e.toList == t.toList)=ZA;rw[dy l]
  exact p _ (gz l)]
 exact wM
def spL (b:List Source)(f:List Target):J_:=⟨b.length,aV b,f.length,aW f⟩
def sd{k:F_}{g:List Source}{f:List Target}(h:∀y:Source,y.e.toList≠k.toList->(y∈g ↔ y∈Qz f0 k n0))(h1:∀y:Target,y.e.toList≠k.toList->(y∈f ↔ y∈Qq f1 k n1)):Besd ⟨n0,f0,n1,f1⟩ (spL g f) k:=
 ⟨λy b=>by
  show y∈(List.range g.length).map (aV g) ↔ _;rw[Ae,h y b];simp[Qz,b],λy b=>by
  show y∈(List.range f.length).map (aW f) ↔ _;rw[Af,h1 y b]
  simp[Qq,b]⟩
def Dx{tx:F_}(h:iC n0 f0 n1 f1 t tx=0):Besd ⟨n0,f0,n1,f1⟩ (spL (eZ n0 f0 n1 f1 t tx) (fC n0 f0 n1 f1 t tx)) t:=by
 have g:aR n0 f0 n1 f1=0:=by
  have b:=h;unfold iC at b;split at b;{cases b};{omega}
 refine sd (λy f=>?_) λy _=>by rw[fC,eT h];rw[eZ,eT h,Gu (iY t g) nB];exact⟨λe=>e.resolve_left λe=>f (by rw[e]),.inr⟩
def Dy{b:Nat->Ins}(h:fW n0 f0 n1 f1 t (valid b m)=0):Besd ⟨n0,f0,n1,f1⟩ (spL (d9 n0 f0 n1 f1 t m b) (eE n0 f0 n1 f1 t m b)) t:=by
 have i:aR n0 f0 n1 f1=0:=by
  have f:=h;unfold fW at f;split at f;{cases f};{omega}
 refine sd (λy _=>by rw[d9,eT h]) λy g=>?_;rw[eE,eT h,Gv (iY t i) pC];exact⟨λe=>e.resolve_left λe=>g (by rw[e]),.inr⟩
def mO{S S2:J_}{k:F_}(h:Besd S S2 k)(l:aR S2.n0 S2.f0 S2.n1 S2.f1=0)(i:bc f n=ZH)(j:∀p,p<n->Borne S f p)(b:k.toList ∉ ii f n):(fj S2.n0 S2.f0 S2.n1 S2.f1 f n).1=0:=
 (r9 i).2 ⟨l,λp g=>h.borne (n:=n) (by rw[ii,eT i] at b;exact b) g (j p g)⟩
def mP (x y:Link):Bool:=x.e.toList == y.e.toList && x.ask == y.ask && x.has == y.has && x.G == y.G
def It{x y:Link}(h:mP x y=ZH):x=y:=by obtain⟨a,b,c,d⟩:=x;obtain⟨a',b',c',d'⟩:=y;simp only[mP,j6,TS] at h;obtain⟨⟨⟨h1,rfl⟩,rfl⟩,rfl⟩:=h;rw[fy h1]
def Iu (x y:Link)(w:E):(binOp .neq 65 (ZJ #[U x.e,ZF x.ask,ZF x.has,J I x.G]) (ZJ #[U y.e,ZF y.ask,ZF y.has,J I y.G])).run Pg w=.ok (ZF (!mP x y)) w:=by
 have b:Pg.underlying 65=Q (.struct (Pg.fieldsOf 65)):=by kernel_rfl
 have g:Pg.stoodInHeld 65=ZA:=by kernel_rfl
 rw[run_neq_struct,show(10000:Nat)=9999+1 from rfl,run_equalIn_agg w 9999 65 _ _ b g];simp only[Program.fieldsOf,underlying65];go_simp;unfold mP;by_cases h1:x.e.toList=y.e.toList<;>by_cases h2:x.ask=y.ask<;>by_cases h:x.has=y.has<;>by_cases f:x.G=y.G<;>simp[h1,h2,h,f]
def wN (a:O_)(n c:Nat)(f:Nat->Ins)(u:O_)(m A:Nat)(g:Nat->Ins)(w:E)(hn:n<=1048576)(M:SlIns w a n f)(K:SlIns w u m g):Calls Pg 119 #[ZJ #[Z a n c],ZJ #[Z u m A]] w λe ZO=>e=ZI (ZF (cD f g n m))/\Below w.heap.size w ZO:=by
 have S:=ae M;have R:=ae K;clear M K;obtain⟨s,p⟩:∃W:E,(w.alloc (N #[Z a n c] 37)).alloc (N #[Z u m A] 37)=W:=⟨_,rfl⟩
 obtain⟨O,-,-,-⟩:=nb2 p;have j:=ae p;clear p;have D:Hid (PB s w.heap.size (Z a n c)):=by rw[<-j.i];show _=_;rw[UK _ _ (by simp)];exact gM w _
 have B:Hid (PB s (w.heap.size+1) (Z u m A)):=by rw[<-j.i];exact SL w _ _
 obtain⟨r,l⟩:∃r,r=cD f g n m:=⟨_,rfl⟩
 rw[<-l];have C:=ae l;clear l;go_enter func119,ntmps119;go_upto_region 1 with fail;rw[j.i];clear j;have z0:=D.c0;have z1:=B.c0;have X:=D.lt;have ZP:=B.lt;by_cases z:n=m;case neg =>
  have h2:((n:Int) == (m:Int))=ZA:=by simp;omega
  go_wp2;go_ret;exact⟨bv (by rw[C.i];simp[cD,z]),O⟩
 subst z;go_wp2;clear z0 z1;go_loopw [5] (λi wr=>∃k:Nat,k<=n/\i=J I k/\Hid (cO f g k=ZH)/\Hid (∃q,wr=s.drewN q)) (λi _=>n - (intOf i).toNat);case atStart=>exact⟨0,by omega,rfl,rfl,0,rfl⟩
 case round =>
  obtain⟨k,hk,rfl,ZR,ZS⟩:=hrel;have y:Hid (Below s.heap.size s wr):=by obtain⟨q,o⟩:=ZS.i;rw[o];exact AD br q
  have z0:=(D.aa y X).c0;have z1:=(B.aa y ZP).c0;have l2:=y.size;have x:=ae (O.k (y.P (by omega)));by_cases t:k<n
  ·rcases S.aa x ly with h|⟨b,off,rfl,l⟩
   {omega};rcases R.aa x ly with h|⟨b',off',rfl,o⟩
   {omega};obtain⟨c0,c1,c2⟩:=l.2 k t;obtain⟨P,V,ZN⟩:=o.2 k t;have hb:=l.1;have L:=o.1;clear l o;have hlt2:(k:Int)<n:=by omega
   have ZQ:=vN (f k) (g k);go_wp2_with fail;go_quiet (fail);have G:Hid (∃q,wr.drewN nq=s.drewN q):=by obtain⟨q,o⟩:=ZS.i;exact⟨q+nq,by rw[o,World.drewN_drewN]⟩
   have H:=ae (AD x nq);clear c0 c1 c2 P V ZN ZQ z0 z1 hb L;generalize wr.drewN nq=W at G H ⊢;cases hb:kE (f k) (g k) with
   |true =>have ZT:=ae hb;clear hb;go_wp2;exact⟨⟨k+1,by omega,by go_num,by show cO f g (k+1)=ZH;rw[cO,ZR.i,ZT.i];rfl,G⟩,by simp[intOf];omega⟩
   |false =>have ZT:=ae hb;clear hb;go_wp2;go_ret;exact⟨bv (by rw[C.i];simp[cD,kF t ZT.i]),H⟩
  ·obtain rfl:k=n:=by omega
   go_wp2;go_ret;exact⟨bv (by rw[C.i];simp[cD,ZR.i]),x⟩
def GM (ZT:Prop)(w:E)(e:Ending)(f:E):Prop:=∃b:Bool,e=ZI (ZF b)/\(b=ZH ↔ ZT)/\Below w.heap.size w f
def Dz (x y:au):((x.e.toList == y.e.toList)=ZA/\¬ DeedEq x y)\/(x.e=y.e/\(x.L == y.L)=ZA/\¬ x.L=y.L/\¬ DeedEq x y)\/(x.e=y.e/\x.L=y.L/\(x.M == y.M)=ZA/\¬ x.M=y.M/\¬ DeedEq x y)\/(x.e=y.e/\x.L=y.L/\x.M=y.M/\(x.H.toList == y.H.toList)=ZA/\¬ DeedEq x y)\/(x.e=y.e/\x.L=y.L/\x.M=y.M/\x.H=y.H/\((x.f:Int) == (y.f:Int))=ZA/\¬ DeedEq x y)\/(x.e=y.e/\x.L=y.L/\x.M=y.M/\x.H=y.H/\x.f=y.f):=by
 cases h0:(x.e.toList == y.e.toList)
 {exact .inl ⟨rfl,λe=>by rw[e.e] at h0;simp at h0⟩};cases h1:(x.L == y.L)
 {exact .inr (.inl ⟨Qw h0,rfl,by simpa using h1,λe=>by rw[e.L] at h1;simp at h1⟩)};cases h2:(x.M == y.M)
 {exact .inr (.inr (.inl ⟨Qw h0,by simpa using h1,rfl,by simpa using h2,λe=>by rw[e.M] at h2;simp at h2⟩))};cases h3:(x.H.toList == y.H.toList)
 {exact .inr (.inr (.inr (.inl ⟨Qw h0,by simpa using h1,by simpa using h2,rfl,λe=>by rw[e.H] at h3;simp at h3⟩)))};cases h4:((x.f:Int) == (y.f:Int))
 {exact .inr (.inr (.inr (.inr (.inl ⟨Qw h0,by simpa using h1,by simpa using h2,Qw h3,rfl,λe=>by rw[e.f] at h4;simp at h4⟩))))};exact .inr (.inr (.inr (.inr (.inr ⟨Qw h0,by simpa using h1,by simpa using h2,Qw h3,by simp at h4;omega⟩))))
def DeB (V:E)(b:Nat)(x:au)(a0:O_)(c0:Nat)(a1:O_)(c1:Nat):Prop:=V.heap[b]?=Q (N #[U x.e,J I x.L,J I x.M,U x.H,Z a0 x.h c0,Z a1 x.f c1] 62 (0,0))
section
variable {V ZN:E}{b:Nat}{x:au}{a0 a1:O_}{c0 c1:Nat}
def DeB.cells (h:DeB V b x a0 c0 a1 c1):b<V.heap.size/\V.cell? (T b 0 Y)=Q (U x.e)/\V.cell? (T b 1 Y)=Q (J I x.L)/\V.cell? (T b 2 Y)=Q (J I x.M)/\V.cell? (T b 3 Y)=Q (U x.H)/\V.cell? (T b 4 Y)=Q (Z a0 x.h c0)/\V.cell? (T b 5 Y)=Q (Z a1 x.f c1):=by have f:V.heap[b]?=_:=h;refine⟨aj f,?_,?_,?_,?_,?_,?_⟩<;>simp[World.cell?,f]
end
def DD (x y:au)(a0:O_)(c0:Nat)(a1:O_)(c1:Nat)(b0:O_)(G:Nat)(s:O_)(ZR:Nat)(w:E)(j:cX x)(M:SlIns w a0 x.h x.q)(L:SlLink w a1 x.f x.m)(O:SlIns w b0 y.h y.q)(K:SlLink w s y.f y.m):Calls Pg 77 #[ZJ #[U x.e,J I x.L,J I x.M,U x.H,Z a0 x.h c0,Z a1 x.f c1],ZJ #[U y.e,J I y.L,J I y.M,U y.H,Z b0 y.h G,Z s y.f ZR]] w λe w'=>GM (DeedEq x y) w e w':=by
 obtain⟨u,ZL⟩:∃W:E,(w.alloc (N #[U x.e,J I x.L,J I x.M,U x.H,Z a0 x.h c0,Z a1 x.f c1] 62)).alloc (N #[U y.e,J I y.L,J I y.M,U y.H,Z b0 y.h G,Z s y.f ZR] 62)=W:=⟨_,rfl⟩
 obtain⟨ZS,P0,P1,-⟩:=nb2 ZL;have Q0:Hid (DeB u w.heap.size x a0 c0 a1 c1):=P0;have Q1:Hid (DeB u (w.heap.size+1) y b0 G s ZR):=P1;have n:=ae ZL;have S:=ae (λV (g:Below w.heap.size w V)=>wN a0 x.h c0 x.q b0 y.h G y.q V j.1 (M.aa g ly) (O.aa g ly));have P:=ae L;have U1:=ae K;have ex:=j.2;clear M L O K j P0 P1 ZL;have l:Hid (DeedEq x y->cD x.q y.q x.h y.h=ZH/\∀i,i<x.f->mP (x.m i) (y.m i)=ZH):=λh=>⟨by simp[cD,h.h,mw λi hi=>h.q i (by rw[h.h];exact hi)],λi hi=>by rw[h.m i hi];simp[mP]⟩
 have f:Hid (x.e=y.e->x.L=y.L->x.M=y.M->x.H=y.H->x.f=y.f->cD x.q y.q x.h y.h=ZH->(∀i,i<x.f->mP (x.m i) (y.m i)=ZH)->DeedEq x y):=λh1 h2 h3 h4 h5 ZO h7=>by simp only[cD,j6,nD] at ZO;exact⟨h1,h2,h3,h4,ZO.1,vB ZO.2,h5,λi hi=>It (h7 i hi)⟩
 have q:=ae (Dz x y);generalize cD x.q y.q x.h y.h=cb at S l f;generalize DeedEq x y=ZT at l f q ⊢;go_enter func77,ntmps77;go_upto_region 1 with fail;rw[n.i];clear n;obtain⟨C,z0,z1,z2,z3,z4,t⟩:=Q0.cells;obtain⟨B,y0,y1,y2,y3,y4,D⟩:=Q1.cells;have hw:=ZS.size;have ZM:Hid (∀V,Below u.heap.size u V->w.heap.size<V.heap.size/\w.heap.size+1<V.heap.size/\V.cell? (T w.heap.size 5 Y)=Q (Z a1 x.f c1)/\V.cell? (T (w.heap.size+1) 5 Y)=Q (Z s y.f ZR)):=λV g=>⟨lj C g.size,lj B g.size,(g.O (p:=(T w.heap.size 5 Y)) C).k t,(g.O (p:=(T (w.heap.size+1) 5 Y)) B).k D⟩
 clear Q0 Q1;have m:=q.i;clear q;generalize x.m=xl at P l f;generalize y.m=ZN at U1 l f;generalize x.e=n1 at z0 f m ⊢;generalize x.L=k1 at z1 f m ⊢;generalize x.M=g1 at z2 f m ⊢;generalize x.H=t1 at z3 f m ⊢;generalize x.f=z at t f m P l ZM ex ⊢;generalize y.f=m2 at D f m U1 ZM ⊢;rcases m with⟨h,ZQ⟩|⟨rfl,h,h',ZQ⟩|⟨rfl,rfl,h,h',ZQ⟩|⟨rfl,rfl,rfl,h,ZQ⟩|⟨rfl,rfl,rfl,rfl,h,ZQ⟩|⟨rfl,rfl,rfl,rfl,rfl⟩
 iterate 5
  ·have r:=ae ZQ
   clear ZQ;go_wp2;go_ret;exact⟨ZA,rfl,⟨nofun,λe=>(r.i e).elim⟩,ZS⟩
 have HJ:=ae (f.i rfl rfl rfl rfl rfl);clear f;go_wp2_with fail;refine(S.i u ZS).P ?_;rintro e w1⟨rfl,X⟩;have R:=ae (ZS.k (X.P hw));have o:=ae X;clear X S z0 z1 z2 z3 z4 t y0 y1 y2 y3 y4 D C B hw;cases cb with
 |false =>go_wp2;go_ret;exact⟨ZA,rfl,⟨nofun,λe=>by have:=(l.i e).1;cases this⟩,R⟩
 |true =>
  go_wp2;go_loopw [5] (λi wr=>∃k:Nat,k<=z/\i=J I k/\Hid (∀i,i<k->mP (xl i) (ZN i)=ZH)/\Hid (Below w1.heap.size w1 wr)) (λi _=>z - (intOf i).toNat);case atStart=>exact⟨0,by omega,rfl,λi hi=>absurd hi (by omega),a8 _ _⟩
  case round =>
   obtain⟨k,hk,rfl,HK,n⟩:=hrel;have H:=ae (R.k (n.P R.size));obtain⟨C,B,t,D⟩:=ZM.i _ (o.k (n.P o.size));by_cases A:k<z
   ·rcases P.aa H ly with h|⟨b,off,rfl,ZP⟩
    {omega};rcases U1.aa H ly with h|⟨b',off',rfl,hq⟩
    {omega};obtain⟨e0,e1,e2,e3⟩:=ZP.2 k A;obtain⟨g0,g1,g2,g3⟩:=hq.2 k A;have hb:=ZP.1;have aq:=hq.1;clear ZP hq;have hlt2:(k:Int)<z:=by omega
    have bt:=Iu (xl k) (ZN k);go_wp2_with fail;go_quiet (fail);have o:=ae (AD n nq);have B2:=ae (AD H nq);clear e0 e1 e2 e3 g0 g1 g2 g3 bt t D hb aq C B;generalize wr.drewN nq=W at o B2 ⊢;cases hb:mP (xl k) (ZN k) with
    |true =>
     have r:=ae hb;clear hb;go_wp2
     exact⟨⟨k+1,by omega,by go_num,(λi hi=>by
      rcases TG.1 hi with h|rfl;{exact HK i h}
      ·exact r),o⟩,by simp[intOf];omega⟩
    |false =>have r:=ae hb;clear hb;go_wp2;go_ret;exact⟨ZA,rfl,⟨nofun,λe=>by have:=(l.i e).2 k A;rw[r.i] at this;cases this⟩,B2⟩
   ·obtain rfl:k=z:=by omega
    go_wp2;go_ret;exact⟨ZH,rfl,⟨λ_=>HJ.i (by simp) HK.i,λ_=>rfl⟩,H⟩
def wO (a:O_)(n c:Nat)(f:Nat->au)(s:O_)(m C:Nat)(g:Nat->au)(w:E)(hn:n<=1048576)(ZQ:SlDeed w a n f)(H:SlDeed w s m g)(r:∀i,i<n->cX (f i)):Calls Pg 46 #[ZJ #[Z a n c],ZJ #[Z s m C]] w λe L=>GM (m=n/\∀i,i<n->DeedEq (f i) (g i)) w e L:=by
 have HF:=ae ZQ;have HG:=ae H;have HM:=ae r;clear ZQ H r;obtain⟨q,o⟩:∃W:E,(w.alloc (N #[Z a n c] 25)).alloc (N #[Z s m C] 25)=W:=⟨_,rfl⟩
 obtain⟨t,-,M,-⟩:=nb2 o;have j:=ae o;clear o;have ZP:Hid (q.heap[w.heap.size]?=Q (N #[Z a n c] 25 (0,0))):=by rw[<-j.i];show _=_;rw[UK _ _ (by simp)];exact gM w _
 go_enter func46,ntmps46;go_upto_region 1 with fail;rw[j.i];clear j;have l0:=aj ZP.i;have l1:=aj M.i;have ZS:=t.size;have ZO:Hid (∀V,Below q.heap.size q V->V.cell? (T w.heap.size 0 Y)=Q (Z a n c)/\V.cell? (T (w.heap.size+1) 0 Y)=Q (Z s m C)):=λV l=>by have ZT:=(l.p _ l0).k ZP.i;have B:=(l.p _ l1).k M.i;constructor<;>simp[World.cell?,ZT,B]
 obtain⟨z0,z1⟩:=ZO.i q br;by_cases y:n=m;case neg =>
  have h2:((n:Int) == (m:Int))=ZA:=by simp;omega
  go_wp2;go_ret;exact⟨ZA,rfl,⟨nofun,λh=>absurd h.1.c y⟩,t⟩
 subst y;go_wp2;clear z0 z1;go_loopw [5] (λi wr=>∃k:Nat,k<=n/\i=J I k/\Hid (∀i,i<k->DeedEq (f i) (g i))/\Hid (Below q.heap.size q wr)) (λi _=>n - (intOf i).toNat);case atStart=>exact⟨0,by omega,rfl,λi hi=>absurd hi (by omega),a8 _ _⟩
 case round =>
  obtain⟨k,hk,rfl,K,u⟩:=hrel;obtain⟨z0,z1⟩:=ZO.i _ u.i;have l2:=u.size;have G:=ae (t.k (u.P ZS));by_cases p:k<n
  ·rcases HF.aa G ly with h|⟨b,off,rfl,A⟩
   {omega};rcases HG.aa G ly with h|⟨b',off',rfl,D⟩
   {omega};obtain⟨ZT,B,p2,p3,⟨x4,k4,ZL,ZR⟩,⟨x5,k5,ZM,S⟩⟩:=A.2 k p;obtain⟨q0,q1,X,q3,⟨u4,m4,q4,O⟩,⟨u5,m5,ZN,R⟩⟩:=D.2 k p;have hb:=A.1;have hb':=D.1;have CD:=ae (λV (l:Below wr.heap.size wr V)=>DD (f k) (g k) x4 k4 x5 k5 u4 m4 u5 m5 V (HM.i k p) (ZR.aa l ly) (S.aa l ly) (O.aa l ly) (R.aa l ly));clear A D ZR S O R;have hlt2:(k:Int)<n:=by omega
   go_wp2_with fail;go_region_with (go_at_call 77;refine(CD.i _ (by repeat (first|exact a8 _ _|apply Below.drew))).P ?_;rintro e L⟨bb,rfl,x,z⟩);all_goals
    have P:=ae (Below.trans (by repeat (first|exact u.i|apply Below.drew)) (z.P l2));have B2:=ae (t.k (P.P ZS));clear z ZT B p2 p3 ZL ZM q0 q1 X q3 q4 ZN z0 z1;cases bb with
    |true =>
     go_wp2
     exact⟨⟨k+1,by omega,by go_num,(λi hi=>by
      rcases TG.1 hi with h|rfl
      ·exact K i h
      ·exact x.1 rfl),P⟩,by simp[intOf];omega⟩
    |false =>go_wp2;go_ret;exact⟨ZA,rfl,⟨nofun,λh=>by have:=x.2 (h k p);cases this⟩,B2⟩
  ·obtain rfl:k=n:=by omega
   go_wp2;go_ret;exact⟨ZH,rfl,⟨λ_=>K.i,λ_=>rfl⟩,G⟩
