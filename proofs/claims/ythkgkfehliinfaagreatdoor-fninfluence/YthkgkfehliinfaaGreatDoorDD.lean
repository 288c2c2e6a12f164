import Derived.Test.YthkgkfehliinfaaGreatDoorEC
import Derived.Test.YthkgkfehliinfaaGreatDoorDF
set_option linter.all false
set_option maxRecDepth 100000
set_option maxHeartbeats 4000000
open Go renaming Addr.mk->Q,Value.slice->Y,Value.string->U,Value.int->J,Value.bool->ZF,Value.agg->ZJ,Obj.cells->N,IntKind.i64->I,World->E,Ending.returned->ZI,Proofs.Tryz.prog->Pg
open Option renaming none->Z,some->T
open Bool renaming false->ZA,true->ZH
namespace Go.Proofs.YthkgkfehliinfaaGreatDoor.Vp
open Tryz RowKit
variable {t:F_}{W:E}{f:List Source}{n0 n1 n m:Nat}{f0:Nat->Source}{f1:Nat->Target}{g:List Target}{a0 a1:O_}{b:Type}
def MSp (W:E)(a0:O_)(c0:Nat)(a1:O_)(c1:Nat)(f:List Source)(g:List Target):Prop:=
 ∃(b:Nat) (R:List TR),W.ownsRow b 91 2 (Y a0 f.length c0) f.length (f.flatMap bF)/\TRow W b (Y a1 R.length c1) R/\R.map (·.1)=g
def wL{b:Nat}{h i:Value}{R:List TR}(j:W.ownsRow b 91 2 h f.length (f.flatMap bF))(h1:TRow W b i R)(h2:R.map (·.1)=g):∃a0 c0 a1 c1,h=Y a0 f.length c0/\i=Y a1 g.length c1/\MSp W a0 c0 a1 c1 f g:=by obtain⟨a0,c0,rfl⟩:=aJ j;obtain⟨a1,c1,rfl⟩:=aJ h1.y;refine⟨a0,c0,a1,c1,rfl,?_,b,R,j,h1,h2⟩;rw[<-h2,PJ]
def MSp.aa{V:E}{c0 c1 B:Nat}{i:List Target}(h:MSp W a0 c0 a1 c1 f i)(hb:Below B W V)(g:W.heap.size<=B):MSp V a0 c0 a1 c1 f i:=by obtain⟨b,R,j,h1,h2⟩:=h;exact⟨b,R,J_ j hb g,h1.aa hb g,h2⟩
def MSp.s0{c0 c1:Nat}{b:List Source}(h:MSp W a0 c0 a1 c1 b g):Qx W a0 b.length (aV b):=by obtain⟨base,R,f,h1,h2⟩:=h;exact kZ f
def MSp.s1{c0 c1:Nat}{b:List Target}(h:MSp W a0 c0 a1 c1 f b):Qq W a1 b.length (aW b):=by obtain⟨base,R,h0,h1,rfl⟩:=h;have:=uN h1;rw[PJ];exact this
def Dv{b:Nat->Ins}(h:fW n0 f0 n1 f1 t (valid b m)=0):aA t=ZH/\GoodE (d9 n0 f0 n1 f1 t m b) (eE n0 f0 n1 f1 t m b)/\∃i:Nat,(eE n0 f0 n1 f1 t m b)[i]?=T ⟨t,m,b⟩:=by
 have f:=h;unfold fW at f;by_cases a1:aR n0 f0 n1 f1≠0;{rw[eT a1] at f;cases f};rw[eI a1] at f;by_cases g:aA t=ZA\/valid b m=ZA;{rw[eT g] at f;cases f};rw[eI g] at f;by_cases r:200<=(Qy f0 t n0).length+(Qj f1 t n1).length;{rw[eT r] at f;cases f};have l:aR n0 f0 n1 f1=0:=by omega
 have hn:aA t=ZH:=by rw[<-QK];exact λe=>g (.inl e)
 have n:valid b m=ZH:=by rw[<-QK];exact λe=>g (.inr e)
 obtain⟨o,q⟩:=Cq (x:=⟨t,m,b⟩) (t:=t) (iY t l) rfl (by omega) hn (by unfold cP;simp[n]) nB pC;have j:d9 n0 f0 n1 f1 t m b=Qy f0 t n0:=by rw[d9,eT h]
 have p:eE n0 f0 n1 f1 t m b=jN (Qj f1 t n1) ⟨t,m,b⟩ t:=by rw[eE,eT h]
 rw[j,p];exact⟨hn,o,q⟩
structure Besd (S S2:x_)(k:F_):Prop where
 s:∀y:Source,y.e.toList≠k.toList->(y∈(List.range S2.n0).map S2.f0 ↔ y∈(List.range S.n0).map S.f0)
 t:∀y:Target,y.e.toList≠k.toList->(y∈(List.range S2.n1).map S2.f1 ↔ y∈(List.range S.n1).map S.f1)
def tu{g:Type}(p:g->Bool)(f:Nat->g)(n:Nat):aM (λi=>p (f i)) n=ZH ↔ ∃y∈(List.range n).map f,p y=ZH:=by
 constructor;{intro h;obtain⟨k,b,hb⟩:=gJ h;exact⟨f k,NN.2 ⟨k,E4.2 b,rfl⟩,hb⟩};{rintro⟨y,j,hb⟩;obtain⟨k,b,rfl⟩:=NN.1 j;exact cS (E4.1 b) hb}
def mM (nm:b->F_)(f:Nat->b)(n:Nat)(t:F_):aF (λi=>nm (f i)) n t=ZH ↔ ∃y∈(List.range n).map f,((nm y).toList == t.toList)=ZH:=by simp only[aF,TH,NN,E4];exact⟨λ⟨k,h,e⟩=>⟨_,⟨k,h,rfl⟩,e⟩,λ⟨_,⟨k,h,rfl⟩,e⟩=>⟨k,h,e⟩⟩
def mN{p:b->Bool}{q:b->Prop}{A B:List b}(h:∀y,q y->(y∈B ↔ y∈A))(f:∀y,p y=ZH->q y):(∃y∈B,p y=ZH) ↔ ∃y∈A,p y=ZH:=
 ⟨λ⟨y,h1,h2⟩=>⟨y,(h y (f y h2)).1 h1,h2⟩,λ⟨y,h1,h2⟩=>⟨y,(h y (f y h2)).2 h1,h2⟩⟩
section
variable {S S2:x_}{k t:F_}
def Besd.src (h:Besd S S2 k)(f:t.toList≠k.toList)(x:F_):jd S2.n0 S2.f0 t x=jd S.n0 S.f0 t x:=by have e:=λ(S:x_)=>tu (λy:Source=>y.e.toList == t.toList && y.H.toList == x.toList) S.f0 S.n0;rw[OJ];exact(e S2).k ((mN h.s λy b=>by simp at b;rw[b.1];exact f).k (e S).c)
def Besd.w (h:Besd S S2 k)(g:t.toList≠k.toList)(n:Nat)(f:Nat->Ins):iB S2.n1 S2.f1 t n f=iB S.n1 S.f1 t n f:=by have e:=λ(S:x_)=>tu (λy:Target=>y.e.toList == t.toList && cD y.u f y.h n) S.f1 S.n1;rw[OJ];exact(e S2).k ((mN h.t λy b=>by simp at b;rw[b.1];exact g).k (e S).c)
def Besd.has (h:Besd S S2 k)(f:t.toList≠k.toList):hZ S2.n0 S2.f0 S2.n1 S2.f1 t=hZ S.n0 S.f0 S.n1 S.f1 t:=by
 have i:aF (nm0 S2.f0) S2.n0 t=aF (nm0 S.f0) S.n0 t:=by rw[OJ];exact(mM (λy:Source=>y.e) S2.f0 _ t).k ((mN h.s λy b=>by simp at b;rw[b];exact f).k (mM (λy:Source=>y.e) S.f0 _ t).c)
 have g:aF (nm1 S2.f1) S2.n1 t=aF (nm1 S.f1) S.n1 t:=by rw[OJ];exact(mM (λy:Target=>y.e) S2.f1 _ t).k ((mN h.t λy b=>by simp at b;rw[b];exact f).k (mM (λy:Target=>y.e) S.f1 _ t).c)
 unfold hZ;rw[i,g]
def Besd.borne (h:Besd S S2 k){f:Nat->au}{p:Nat}(b:k.toList ∉ cG f n)(i:p<n)(g:Borne S f p):Borne S2 f p:=by
 rw[Br] at b;have hn:(f p).e.toList≠k.toList:=λe=>b ⟨p,i,.inl e⟩;refine⟨?_,nV λj l=>?_,g.run⟩;{have:=g.lie;unfold gD at this ⊢;rw[h.src hn,h.w hn,h.has hn];exact this};{have:=iG g.has l;unfold dY at this ⊢;rw[h.has λe=>b ⟨p,i,.inr ⟨j,l,e⟩⟩];exact this}
def tv {c:Nat->Int}:∀{n:Nat},(fi c n).1=0->∀i,i<n->c i=0
 |0,_,i,hi=>absurd hi (by omega)
 |n+1,h,i,hi=>by
  rw[fi] at h;split at h
  ·rename_i b
   split at h
   ·rcases TF.1 hi with e|rfl
    ·exact tv b i e
    ·assumption
   ·contradiction
  ·contradiction
def r9{f:Nat->au}(i:bc f n=ZH):(fj S.n0 S.f0 S.n1 S.f1 f n).1=0 ↔ aR S.n0 S.f0 S.n1 S.f1=0/\∀p,p<n->Borne S f p:=by
 unfold fj;rw[eT i];constructor;{intro h;split at h;{rename_i g;refine⟨g,λp b=>?_⟩;have:=tv h p b;unfold dx at this;split at this;{omega};split at this;{omega};rename_i h1 h2;exact⟨by simpa using h1,by simpa using h2,this⟩};{cases h}};{rintro⟨g,h⟩;rw[eT g,nW λp b=>by unfold dx;rw[eI (by rw[(h p b).lie];simp),eI (by rw[(h p b).has];simp)];exact(h p b).run]}
def Dw{f:Nat->au}(h:bc f n=ZH):((bE S (f (n - 1)).e).1.length=n/\∀i,i<n->DeedEq (f i) (dF (bk S (bE S (f (n - 1)).e).1) i)) ↔ (fj S.n0 S.f0 S.n1 S.f1 f n).1=0:=by
 have hn:=er h;rw[r9 h];constructor
 ·rintro⟨h1,h2⟩;rcases o8 S (f (n - 1)).e with⟨e,-⟩|⟨M,e,g,m,q,hb⟩
  {rw[e] at h1;have h0:0=n:=h1;omega};{rw[hb] at h1 h2;have h1:M.length=n:=h1;obtain⟨a,b⟩:=Co g m q;rw[h1] at a b;exact⟨g.chk,λp j=>Ac a (λi hi=>(h2 i hi).c) j (b p j)⟩}
 ·rintro⟨o,l⟩;have g:=SpcOk.of o;have hb:(bE S (f (n - 1)).e).1=cF S f n:=by unfold bE;rw[eT ⟨o,(gT h (show n - 1<n by omega)).1⟩,zZ h g l]
  rw[hb];exact⟨by simp[cF],λi hi=>(Aa h g l hi).c⟩
end
def wM{L:List b}{x y:b}{i:Nat}:y∈L.take i++x::L.drop i ↔ y=x\/y∈L:=
 ⟨lB,λh=>by
  rcases h with rfl|h
  ·simp
  ·rw[<-QO i L] at h
   rcases p8.1 h with h|h
   ·exact p8.2 (.inl h)
   ·exact p8.2 (.inr (mq _ h))⟩
def Gu{b:List Source}{o:List Target}(h:GoodE b o){x:Source}(n:∀y∈b,(y.e.toList == t.toList)=ZA){y:Source}:y∈ii b x t ↔ y=x\/y∈b:=by
 have f:aK (nm0 (aV b)) b.length=ZH:=iD λi j g l=>by show aC (aV b i).e (aV b j).e=ZH;rw[dh l,dh (by omega)];exact D0.1 h.s i j (by omega) l g
 obtain⟨i,hi,a1,m⟩:=jV (t:=t) f;rw[xV hi a1 m n];exact wM
def Gv{p:List Source}{b:List Target}(h:GoodE p b){x:Target}(q:∀y∈b,(y.e.toList == t.toList)=ZA){y:Target}:y∈jN b x t ↔ y=x\/y∈b:=by
 have f:aK (nm1 (aW b)) b.length=ZH:=iD λi j l n=>by show aC (aW b i).e (aW b j).e=ZH;rw[dy n,dy (by omega)];exact D0.1 h.t i j (by omega) n l
 obtain⟨i,hi,a1,o⟩:=jV (t:=t) f
 rw[jN,xW hi a1 o λm g=>by
  show((aW b m).e.toList == t.toList)=ZA;rw[dy g]
  exact q _ (gz g)]
 exact wM
def spL (b:List Source)(f:List Target):x_:=⟨b.length,aV b,f.length,aW f⟩
def sd{k:F_}(h:∀y:Source,y.e.toList≠k.toList->(y∈f ↔ y∈Qy f0 k n0))(h1:∀y:Target,y.e.toList≠k.toList->(y∈g ↔ y∈Qj f1 k n1)):Besd ⟨n0,f0,n1,f1⟩ (spL f g) k:=
 ⟨λy b=>by
  show y∈(List.range f.length).map (aV f) ↔ _;rw[Ae,h y b];simp[Qy,b],λy b=>by
  show y∈(List.range g.length).map (aW g) ↔ _;rw[Af,h1 y b]
  simp[Qj,b]⟩
def Dx{tx:F_}(h:iC n0 f0 n1 f1 t tx=0):Besd ⟨n0,f0,n1,f1⟩ (spL (eZ n0 f0 n1 f1 t tx) (fC n0 f0 n1 f1 t tx)) t:=by
 have g:aR n0 f0 n1 f1=0:=by
  have b:=h;unfold iC at b;split at b;{cases b};{omega}
 refine sd (λy f=>?_) λy _=>by rw[fC,eT h];rw[eZ,eT h,Gu (iY t g) nB];exact⟨λe=>e.resolve_left λe=>f (by rw[e]),.inr⟩
def Dy{b:Nat->Ins}(h:fW n0 f0 n1 f1 t (valid b m)=0):Besd ⟨n0,f0,n1,f1⟩ (spL (d9 n0 f0 n1 f1 t m b) (eE n0 f0 n1 f1 t m b)) t:=by
 have i:aR n0 f0 n1 f1=0:=by
  have f:=h;unfold fW at f;split at f;{cases f};{omega}
 refine sd (λy _=>by rw[d9,eT h]) λy g=>?_;rw[eE,eT h,Gv (iY t i) pC];exact⟨λe=>e.resolve_left λe=>g (by rw[e]),.inr⟩
def mO{S S2:x_}{k:F_}(h:Besd S S2 k)(j:aR S2.n0 S2.f0 S2.n1 S2.f1=0){f:Nat->au}(g:bc f n=ZH)(l:∀p,p<n->Borne S f p)(i:k.toList ∉ ip f n):(fj S2.n0 S2.f0 S2.n1 S2.f1 f n).1=0:=
 (r9 g).2 ⟨j,λp b=>h.borne (n:=n) (by rw[ip,eT g] at i;exact i) b (l p b)⟩
def mP (x y:Link):Bool:=x.e.toList == y.e.toList && x.ask == y.ask && x.has == y.has && x.G == y.G
def It{x y:Link}(h:mP x y=ZH):x=y:=by obtain⟨a,b,c,d⟩:=x;obtain⟨a',b',c',d'⟩:=y;simp only[mP,j6,TS] at h;obtain⟨⟨⟨h1,rfl⟩,rfl⟩,rfl⟩:=h;rw[fy h1]
def Iu (x y:Link)(w:E):(binOp .neq 74 (ZJ #[U x.e,ZF x.ask,ZF x.has,J I x.G]) (ZJ #[U y.e,ZF y.ask,ZF y.has,J I y.G])).run Pg w=.ok (ZF (!mP x y)) w:=by
 have h:Pg.underlying 74=T (.struct (Pg.fieldsOf 74)):=by kernel_rfl
 have g:Pg.stoodInHeld 74=ZA:=by kernel_rfl
 rw[run_neq_struct,show(10000:Nat)=9999+1 from rfl,run_equalIn_agg w 9999 74 _ _ h g];simp only[Program.fieldsOf,underlying74];go_simp;unfold mP;by_cases h1:x.e.toList=y.e.toList<;>by_cases h2:x.ask=y.ask<;>by_cases b:x.has=y.has<;>by_cases f:x.G=y.G<;>simp[h1,h2,b,f]
def wN (a:O_)(n c:Nat)(f:Nat->Ins)(x:O_)(m A:Nat)(g:Nat->Ins)(w:E)(hn:n<=1048576)(ZS:SlIns w a n f)(M:SlIns w x m g):Calls Pg 94 #[ZJ #[Y a n c],ZJ #[Y x m A]] w λe ZO=>e=ZI (ZF (cD f g n m))/\Below w.heap.size w ZO:=by
 have ZP:=ae ZS;have S:=ae M;clear ZS M;obtain⟨s,p⟩:∃W:E,(w.alloc (N #[Y a n c] 37)).alloc (N #[Y x m A] 37)=W:=⟨_,rfl⟩
 obtain⟨O,-,-,-⟩:=nb2 p;have j:=ae p;clear p;have B:Hid (PB s w.heap.size (Y a n c)):=by rw[<-j.i];show _=_;rw[UK _ _ (by simp)];exact gM w _
 have D:Hid (PB s (w.heap.size+1) (Y x m A)):=by rw[<-j.i];exact SL w _ _
 obtain⟨r,o⟩:∃r,r=cD f g n m:=⟨_,rfl⟩
 rw[<-o];have C:=ae o;clear o;go_enter func94,ntmps94;go_upto_region 1 with fail;rw[j.i];clear j;have z0:=B.c0;have z1:=D.c0;have X:=B.lt;have R:=D.lt;by_cases z:n=m;case neg =>
  have h2:((n:Int) == (m:Int))=ZA:=by simp;omega
  go_wp2;go_ret;exact⟨bv (by rw[C.i];simp[cD,z]),O⟩
 subst z;go_wp2;clear z0 z1;go_loopw [5] (λi wr=>∃k:Nat,k<=n/\i=J I k/\Hid (cO f g k=ZH)/\Hid (∃q,wr=s.drewN q)) (λi _=>n - (intOf i).toNat);case atStart=>exact⟨0,by omega,rfl,rfl,0,rfl⟩
 case round =>
  obtain⟨k,hk,rfl,ZR,H⟩:=hrel;have y:Hid (Below s.heap.size s wr):=by obtain⟨q,l⟩:=H.i;rw[l];exact AD br q
  have z0:=(B.aa y X).c0;have z1:=(D.aa y R).c0;have l2:=y.size;have u:=ae (O.k (y.P (by omega)));by_cases t:k<n
  ·rcases ZP.aa u ly with h|⟨b,off,rfl,o⟩
   {omega};rcases S.aa u ly with h|⟨b',off',rfl,l⟩
   {omega};obtain⟨c0,c1,c2⟩:=o.2 k t;obtain⟨P,ZN,V⟩:=l.2 k t;have hb:=o.1;have ZQ:=l.1;clear o l;have hlt2:(k:Int)<n:=by omega
   have K:=vN (f k) (g k);go_wp2_with fail;go_quiet (fail);have L:Hid (∃q,wr.drewN nq=s.drewN q):=by obtain⟨q,l⟩:=H.i;exact⟨q+nq,by rw[l,World.drewN_drewN]⟩
   have G:=ae (AD u nq);clear c0 c1 c2 P ZN V K z0 z1 hb ZQ;generalize wr.drewN nq=W at L G ⊢;cases hb:kE (f k) (g k) with
   |true =>have ZT:=ae hb;clear hb;go_wp2;exact⟨⟨k+1,by omega,by go_num,by show cO f g (k+1)=ZH;rw[cO,ZR.i,ZT.i];rfl,L⟩,by simp[intOf];omega⟩
   |false =>have ZT:=ae hb;clear hb;go_wp2;go_ret;exact⟨bv (by rw[C.i];simp[cD,kF t ZT.i]),G⟩
  ·obtain rfl:k=n:=by omega
   go_wp2;go_ret;exact⟨bv (by rw[C.i];simp[cD,ZR.i]),u⟩
def GM (ZT:Prop)(w:E)(e:Ending)(f:E):Prop:=∃b:Bool,e=ZI (ZF b)/\(b=ZH ↔ ZT)/\Below w.heap.size w f
def Dz (x y:au):((x.e.toList == y.e.toList)=ZA/\¬ DeedEq x y)\/(x.e=y.e/\(x.m == y.m)=ZA/\¬ x.m=y.m/\¬ DeedEq x y)\/(x.e=y.e/\x.m=y.m/\(x.M == y.M)=ZA/\¬ x.M=y.M/\¬ DeedEq x y)\/(x.e=y.e/\x.m=y.m/\x.M=y.M/\(x.H.toList == y.H.toList)=ZA/\¬ DeedEq x y)\/(x.e=y.e/\x.m=y.m/\x.M=y.M/\x.H=y.H/\((x.f:Int) == (y.f:Int))=ZA/\¬ DeedEq x y)\/(x.e=y.e/\x.m=y.m/\x.M=y.M/\x.H=y.H/\x.f=y.f):=by
 cases h0:(x.e.toList == y.e.toList)
 {exact .inl ⟨rfl,λe=>by rw[e.e] at h0;simp at h0⟩};cases h1:(x.m == y.m)
 {exact .inr (.inl ⟨Qv h0,rfl,by simpa using h1,λe=>by rw[e.m] at h1;simp at h1⟩)};cases h2:(x.M == y.M)
 {exact .inr (.inr (.inl ⟨Qv h0,by simpa using h1,rfl,by simpa using h2,λe=>by rw[e.M] at h2;simp at h2⟩))};cases h3:(x.H.toList == y.H.toList)
 {exact .inr (.inr (.inr (.inl ⟨Qv h0,by simpa using h1,by simpa using h2,rfl,λe=>by rw[e.H] at h3;simp at h3⟩)))};cases h4:((x.f:Int) == (y.f:Int))
 {exact .inr (.inr (.inr (.inr (.inl ⟨Qv h0,by simpa using h1,by simpa using h2,Qv h3,rfl,λe=>by rw[e.f] at h4;simp at h4⟩))))};exact .inr (.inr (.inr (.inr (.inr ⟨Qv h0,by simpa using h1,by simpa using h2,Qv h3,by simp at h4;omega⟩))))
def DeB (V:E)(b:Nat)(x:au)(a0:O_)(c0:Nat)(a1:O_)(c1:Nat):Prop:=V.heap[b]?=T (N #[U x.e,J I x.m,J I x.M,U x.H,Y a0 x.h c0,Y a1 x.f c1] 58 (0,0))
section
variable {V ZN:E}{b:Nat}{x:au}{a0 a1:O_}{c0 c1:Nat}
def DeB.cells (h:DeB V b x a0 c0 a1 c1):b<V.heap.size/\V.cell? (Q b 0 Z)=T (U x.e)/\V.cell? (Q b 1 Z)=T (J I x.m)/\V.cell? (Q b 2 Z)=T (J I x.M)/\V.cell? (Q b 3 Z)=T (U x.H)/\V.cell? (Q b 4 Z)=T (Y a0 x.h c0)/\V.cell? (Q b 5 Z)=T (Y a1 x.f c1):=by have f:V.heap[b]?=_:=h;refine⟨aj f,?_,?_,?_,?_,?_,?_⟩<;>simp[World.cell?,f]
end
def DD (x y:au)(a0:O_)(c0:Nat)(a1:O_)(c1:Nat)(b0:O_)(H:Nat)(A:O_)(ZS:Nat)(w:E)(l:cX x)(O:SlIns w a0 x.h x.u)(L:SlLink w a1 x.f x.l)(K:SlIns w b0 y.h y.u)(M:SlLink w A y.f y.l):Calls Pg 54 #[ZJ #[U x.e,J I x.m,J I x.M,U x.H,Y a0 x.h c0,Y a1 x.f c1],ZJ #[U y.e,J I y.m,J I y.M,U y.H,Y b0 y.h H,Y A y.f ZS]] w λe w'=>GM (DeedEq x y) w e w':=by
 obtain⟨z,hW⟩:∃W:E,(w.alloc (N #[U x.e,J I x.m,J I x.M,U x.H,Y a0 x.h c0,Y a1 x.f c1] 58)).alloc (N #[U y.e,J I y.m,J I y.M,U y.H,Y b0 y.h H,Y A y.f ZS] 58)=W:=⟨_,rfl⟩
 obtain⟨ZR,P0,P1,-⟩:=nb2 hW;have Q0:Hid (DeB z w.heap.size x a0 c0 a1 c1):=P0;have Q1:Hid (DeB z (w.heap.size+1) y b0 H A ZS):=P1;have n:=ae hW;have ZM:=ae (λV (j:Below w.heap.size w V)=>wN a0 x.h c0 x.u b0 y.h H y.u V l.1 (O.aa j ly) (K.aa j ly));have S:=ae L;have U1:=ae M;have aq:=l.2;clear O L K M l P0 P1 hW;have m:Hid (DeedEq x y->cD x.u y.u x.h y.h=ZH/\∀i,i<x.f->mP (x.l i) (y.l i)=ZH):=λh=>⟨by simp[cD,h.h,mw λi hi=>h.u i (by rw[h.h];exact hi)],λi hi=>by rw[h.l i hi];simp[mP]⟩
 have f:Hid (x.e=y.e->x.m=y.m->x.M=y.M->x.H=y.H->x.f=y.f->cD x.u y.u x.h y.h=ZH->(∀i,i<x.f->mP (x.l i) (y.l i)=ZH)->DeedEq x y):=λh1 h2 h3 h4 h5 P h7=>by simp only[cD,j6,nD] at P;exact⟨h1,h2,h3,h4,P.1,vB P.2,h5,λi hi=>It (h7 i hi)⟩
 have s:=ae (Dz x y);generalize cD x.u y.u x.h y.h=cb at ZM m f;generalize DeedEq x y=ZT at m f s ⊢;go_enter func54,ntmps54;go_upto_region 1 with fail;rw[n.i];clear n;obtain⟨D,z0,z1,z2,z3,z4,r⟩:=Q0.cells;obtain⟨o,y0,y1,y2,y3,y4,C⟩:=Q1.cells;have hw:=ZR.size;have R:Hid (∀V,Below z.heap.size z V->w.heap.size<V.heap.size/\w.heap.size+1<V.heap.size/\V.cell? (Q w.heap.size 5 Z)=T (Y a1 x.f c1)/\V.cell? (Q (w.heap.size+1) 5 Z)=T (Y A y.f ZS)):=λV j=>⟨lj D j.size,lj o j.size,(j.O (p:=(Q w.heap.size 5 Z)) D).k r,(j.O (p:=(Q (w.heap.size+1) 5 Z)) o).k C⟩
 clear Q0 Q1;have g:=s.i;clear s;generalize x.l=xl at S m f;generalize y.l=ZP at U1 m f;generalize x.e=n1 at z0 f g ⊢;generalize x.m=k1 at z1 f g ⊢;generalize x.M=g1 at z2 f g ⊢;generalize x.H=t1 at z3 f g ⊢;generalize x.f=u at r f g S m R aq ⊢;generalize y.f=m2 at C f g U1 R ⊢;rcases g with⟨h,ZQ⟩|⟨rfl,h,h',ZQ⟩|⟨rfl,rfl,h,h',ZQ⟩|⟨rfl,rfl,rfl,h,ZQ⟩|⟨rfl,rfl,rfl,rfl,h,ZQ⟩|⟨rfl,rfl,rfl,rfl,rfl⟩
 iterate 5
  ·have B:=ae ZQ
   clear ZQ;go_wp2;go_ret;exact⟨ZA,rfl,⟨nofun,λe=>(B.i e).elim⟩,ZR⟩
 have HJ:=ae (f.i rfl rfl rfl rfl rfl);clear f;go_wp2_with fail;refine(ZM.i z ZR).P ?_;rintro e w1⟨rfl,ZN⟩;have ZO:=ae (ZR.k (ZN.P hw));have t:=ae ZN;clear ZN ZM z0 z1 z2 z3 z4 r y0 y1 y2 y3 y4 C D o hw;cases cb with
 |false =>go_wp2;go_ret;exact⟨ZA,rfl,⟨nofun,λe=>by have:=(m.i e).1;cases this⟩,ZO⟩
 |true =>
  go_wp2;go_loopw [5] (λi wr=>∃k:Nat,k<=u/\i=J I k/\Hid (∀i,i<k->mP (xl i) (ZP i)=ZH)/\Hid (Below w1.heap.size w1 wr)) (λi _=>u - (intOf i).toNat);case atStart=>exact⟨0,by omega,rfl,λi hi=>absurd hi (by omega),a8 _ _⟩
  case round =>
   obtain⟨k,hk,rfl,HK,n⟩:=hrel;have G:=ae (ZO.k (n.P ZO.size));obtain⟨D,o,r,C⟩:=R.i _ (t.k (n.P t.size));by_cases q:k<u
   ·rcases S.aa G ly with h|⟨b,off,rfl,ZL⟩
    {omega};rcases U1.aa G ly with h|⟨b',off',rfl,X⟩
    {omega};obtain⟨e0,e1,e2,e3⟩:=ZL.2 k q;obtain⟨g0,g1,g2,g3⟩:=X.2 k q;have hb:=ZL.1;have ex:=X.1;clear ZL X;have hlt2:(k:Int)<u:=by omega
    have bt:=Iu (xl k) (ZP k);go_wp2_with fail;go_quiet (fail);have t:=ae (AD n nq);have B2:=ae (AD G nq);clear e0 e1 e2 e3 g0 g1 g2 g3 bt r C hb ex D o;generalize wr.drewN nq=W at t B2 ⊢;cases hb:mP (xl k) (ZP k) with
    |true =>
     have B:=ae hb;clear hb;go_wp2
     exact⟨⟨k+1,by omega,by go_num,(λi hi=>by
      rcases TF.1 hi with h|rfl;{exact HK i h}
      ·exact B),t⟩,by simp[intOf];omega⟩
    |false =>have B:=ae hb;clear hb;go_wp2;go_ret;exact⟨ZA,rfl,⟨nofun,λe=>by have:=(m.i e).2 k q;rw[B.i] at this;cases this⟩,B2⟩
   ·obtain rfl:k=u:=by omega
    go_wp2;go_ret;exact⟨ZH,rfl,⟨λ_=>HJ.i (by simp) HK.i,λ_=>rfl⟩,G⟩
def wO (a:O_)(n c:Nat)(f:Nat->au)(t:O_)(m ZT:Nat)(g:Nat->au)(w:E)(hn:n<=1048576)(H:SlDeed w a n f)(ZR:SlDeed w t m g)(r:∀i,i<n->cX (f i)):Calls Pg 19 #[ZJ #[Y a n c],ZJ #[Y t m ZT]] w λe ZO=>GM (m=n/\∀i,i<n->DeedEq (f i) (g i)) w e ZO:=by
 have HF:=ae H;have HG:=ae ZR;have HM:=ae r;clear H ZR r;obtain⟨q,j⟩:∃W:E,(w.alloc (N #[Y a n c] 25)).alloc (N #[Y t m ZT] 25)=W:=⟨_,rfl⟩
 obtain⟨u,-,P,-⟩:=nb2 j;have o:=ae j;clear j;have S:Hid (q.heap[w.heap.size]?=T (N #[Y a n c] 25 (0,0))):=by rw[<-o.i];show _=_;rw[UK _ _ (by simp)];exact gM w _
 go_enter func19,ntmps19;go_upto_region 1 with fail;rw[o.i];clear o;have l0:=aj S.i;have l1:=aj P.i;have M:=u.size;have ZP:Hid (∀V,Below q.heap.size q V->V.cell? (Q w.heap.size 0 Z)=T (Y a n c)/\V.cell? (Q (w.heap.size+1) 0 Z)=T (Y t m ZT)):=λV l=>by have G:=(l.p _ l0).k S.i;have C:=(l.p _ l1).k P.i;constructor<;>simp[World.cell?,G,C]
 obtain⟨z0,z1⟩:=ZP.i q br;by_cases y:n=m;case neg =>
  have h2:((n:Int) == (m:Int))=ZA:=by simp;omega
  go_wp2;go_ret;exact⟨ZA,rfl,⟨nofun,λh=>absurd h.1.c y⟩,u⟩
 subst y;go_wp2;clear z0 z1;go_loopw [5] (λi wr=>∃k:Nat,k<=n/\i=J I k/\Hid (∀i,i<k->DeedEq (f i) (g i))/\Hid (Below q.heap.size q wr)) (λi _=>n - (intOf i).toNat);case atStart=>exact⟨0,by omega,rfl,λi hi=>absurd hi (by omega),a8 _ _⟩
 case round =>
  obtain⟨k,hk,rfl,ZS,s⟩:=hrel;obtain⟨z0,z1⟩:=ZP.i _ s.i;have l2:=s.size;have A:=ae (u.k (s.P M));by_cases p:k<n
  ·rcases HF.aa A ly with h|⟨b,off,rfl,D⟩
   {omega};rcases HG.aa A ly with h|⟨b',off',rfl,B⟩
   {omega};obtain⟨G,C,p2,p3,⟨x4,k4,p4,ZQ⟩,⟨x5,k5,p5,R⟩⟩:=D.2 k p;obtain⟨q0,q1,q2,q3,⟨u4,m4,ZN,O⟩,⟨u5,ZL,X,K⟩⟩:=B.2 k p;have hb:=D.1;have hb':=B.1;have CD:=ae (λV (l:Below wr.heap.size wr V)=>DD (f k) (g k) x4 k4 x5 k5 u4 m4 u5 ZL V (HM.i k p) (ZQ.aa l ly) (R.aa l ly) (O.aa l ly) (K.aa l ly));clear D B ZQ R O K;have hlt2:(k:Int)<n:=by omega
   go_wp2_with fail;go_region_with (go_at_call 54;refine(CD.i _ (by repeat (first|exact a8 _ _|apply Below.drew))).P ?_;rintro e ZO⟨bb,rfl,z,x⟩);all_goals
    have L:=ae (Below.trans (by repeat (first|exact s.i|apply Below.drew)) (x.P l2));have ZM:=ae (u.k (L.P M));clear x G C p2 p3 p4 p5 q0 q1 q2 q3 ZN X z0 z1;cases bb with
    |true =>
     go_wp2
     exact⟨⟨k+1,by omega,by go_num,(λi hi=>by
      rcases TF.1 hi with h|rfl
      ·exact ZS i h
      ·exact z.1 rfl),L⟩,by simp[intOf];omega⟩
    |false =>go_wp2;go_ret;exact⟨ZA,rfl,⟨nofun,λh=>by have:=z.2 (h k p);cases this⟩,ZM⟩
  ·obtain rfl:k=n:=by omega
   go_wp2;go_ret;exact⟨ZH,rfl,⟨λ_=>ZS.i,λ_=>rfl⟩,A⟩
