import Derived.Test.YtcnilonhfpimnaaGreatDoorEC
import Derived.Test.YtcnilonhfpimnaaGreatDoorDF
set_option linter.all false
set_option maxRecDepth 100000
set_option maxHeartbeats 4000000
open Go renaming Addr.mk->T,Value.slice->Y,Value.string->U,Value.int->J,Value.bool->ZF,Value.agg->ZJ,Obj.cells->N,IntKind.i64->I,World->E,Ending.returned->ZI,Proofs.Tryz.prog->Pg
open Option renaming none->Z,some->Q
open Bool renaming false->ZA,true->ZH
namespace Go.Proofs.YtcnilonhfpimnaaGreatDoor.Vp
open Tryz RowKit
variable {t:F_}{W:E}{n0 n1 n m:Nat}{f0:Nat->Source}{f1:Nat->Target}{f:Nat->au}{a0 a1:O_}{b:Type}{g:List Target}
def MSp (W:E)(a0:O_)(c0:Nat)(a1:O_)(c1:Nat)(f:List Source)(g:List Target):Prop:=
 ∃(b:Nat) (R:List TR),W.ownsRow b 82 2 (Y a0 f.length c0) f.length (f.flatMap bF)/\TRow W b (Y a1 R.length c1) R/\R.map (·.1)=g
def wL{b:Nat}{j h:Value}{f:List Source}{R:List TR}(i:W.ownsRow b 82 2 j f.length (f.flatMap bF))(h1:TRow W b h R)(h2:R.map (·.1)=g):∃a0 c0 a1 c1,j=Y a0 f.length c0/\h=Y a1 g.length c1/\MSp W a0 c0 a1 c1 f g:=by obtain⟨a0,c0,rfl⟩:=aJ i;obtain⟨a1,c1,rfl⟩:=aJ h1.u;refine⟨a0,c0,a1,c1,rfl,?_,b,R,i,h1,h2⟩;rw[<-h2,PI]
def MSp.aa{V:E}{c0 c1 B:Nat}{i:List Source}{f:List Target}(h:MSp W a0 c0 a1 c1 i f)(hb:Below B W V)(g:W.heap.size<=B):MSp V a0 c0 a1 c1 i f:=by obtain⟨b,R,j,h1,h2⟩:=h;exact⟨b,R,J_ j hb g,h1.aa hb g,h2⟩
def MSp.s0{c0 c1:Nat}{b:List Source}(h:MSp W a0 c0 a1 c1 b g):Qx W a0 b.length (aV b):=by obtain⟨base,R,f,h1,h2⟩:=h;exact kZ f
def MSp.s1{c0 c1:Nat}{f:List Source}{b:List Target}(h:MSp W a0 c0 a1 c1 f b):Qq W a1 b.length (aW b):=by obtain⟨base,R,h0,h1,rfl⟩:=h;have:=uR h1;rw[PI];exact this
def Dv{b:Nat->Ins}(h:fW n0 f0 n1 f1 t (valid b m)=0):aA t=ZH/\GoodE (d9 n0 f0 n1 f1 t m b) (eE n0 f0 n1 f1 t m b)/\∃i:Nat,(eE n0 f0 n1 f1 t m b)[i]?=Q ⟨t,m,b⟩:=by
 have f:=h;unfold fW at f;by_cases a1:aR n0 f0 n1 f1≠0;{rw[eT a1] at f;cases f};rw[eI a1] at f;by_cases g:aA t=ZA\/valid b m=ZA;{rw[eT g] at f;cases f};rw[eI g] at f;by_cases l:200<=(Qy f0 t n0).length+(Qj f1 t n1).length;{rw[eT l] at f;cases f};have r:aR n0 f0 n1 f1=0:=by omega
 have hn:aA t=ZH:=by rw[<-QH];exact λe=>g (.inl e)
 have j:valid b m=ZH:=by rw[<-QH];exact λe=>g (.inr e)
 obtain⟨q,p⟩:=Cq (x:=⟨t,m,b⟩) (t:=t) (iY t r) rfl (by omega) hn (by unfold cP;simp[j]) nB pC;have n:d9 n0 f0 n1 f1 t m b=Qy f0 t n0:=by rw[d9,eT h]
 have o:eE n0 f0 n1 f1 t m b=jO (Qj f1 t n1) ⟨t,m,b⟩ t:=by rw[eE,eT h]
 rw[n,o];exact⟨hn,q,p⟩
structure Besd (S S2:xl)(k:F_):Prop where
 s:∀y:Source,y.e.toList≠k.toList->(y∈(List.range S2.n0).map S2.f0 ↔ y∈(List.range S.n0).map S.f0)
 t:∀y:Target,y.e.toList≠k.toList->(y∈(List.range S2.n1).map S2.f1 ↔ y∈(List.range S.n1).map S.f1)
def tu{g:Type}(p:g->Bool)(f:Nat->g)(n:Nat):aM (λi=>p (f i)) n=ZH ↔ ∃y∈(List.range n).map f,p y=ZH:=by
 constructor;{intro h;obtain⟨k,b,hb⟩:=gJ h;exact⟨f k,NM.2 ⟨k,E4.2 b,rfl⟩,hb⟩};{rintro⟨y,j,hb⟩;obtain⟨k,b,rfl⟩:=NM.1 j;exact cS (E4.1 b) hb}
def mM (nm:b->F_)(f:Nat->b)(n:Nat)(t:F_):aF (λi=>nm (f i)) n t=ZH ↔ ∃y∈(List.range n).map f,((nm y).toList == t.toList)=ZH:=by simp only[aF,TI,NM,E4];exact⟨λ⟨k,h,e⟩=>⟨_,⟨k,h,rfl⟩,e⟩,λ⟨_,⟨k,h,rfl⟩,e⟩=>⟨k,h,e⟩⟩
def mN{p:b->Bool}{q:b->Prop}{A B:List b}(h:∀y,q y->(y∈B ↔ y∈A))(f:∀y,p y=ZH->q y):(∃y∈B,p y=ZH) ↔ ∃y∈A,p y=ZH:=
 ⟨λ⟨y,h1,h2⟩=>⟨y,(h y (f y h2)).1 h1,h2⟩,λ⟨y,h1,h2⟩=>⟨y,(h y (f y h2)).2 h1,h2⟩⟩
section
variable {S S2:xl}{k t:F_}
def Besd.src (h:Besd S S2 k)(f:t.toList≠k.toList)(x:F_):jd S2.n0 S2.f0 t x=jd S.n0 S.f0 t x:=by have e:=λ(S:xl)=>tu (λy:Source=>y.e.toList == t.toList && y.H.toList == x.toList) S.f0 S.n0;rw[OH];exact(e S2).k ((mN h.s λy b=>by simp at b;rw[b.1];exact f).k (e S).c)
def Besd.w (h:Besd S S2 k)(g:t.toList≠k.toList)(n:Nat)(f:Nat->Ins):iB S2.n1 S2.f1 t n f=iB S.n1 S.f1 t n f:=by have e:=λ(S:xl)=>tu (λy:Target=>y.e.toList == t.toList && cD y.q f y.h n) S.f1 S.n1;rw[OH];exact(e S2).k ((mN h.t λy b=>by simp at b;rw[b.1];exact g).k (e S).c)
def Besd.has (h:Besd S S2 k)(f:t.toList≠k.toList):hZ S2.n0 S2.f0 S2.n1 S2.f1 t=hZ S.n0 S.f0 S.n1 S.f1 t:=by
 have g:aF (nm0 S2.f0) S2.n0 t=aF (nm0 S.f0) S.n0 t:=by rw[OH];exact(mM (λy:Source=>y.e) S2.f0 _ t).k ((mN h.s λy b=>by simp at b;rw[b];exact f).k (mM (λy:Source=>y.e) S.f0 _ t).c)
 have i:aF (nm1 S2.f1) S2.n1 t=aF (nm1 S.f1) S.n1 t:=by rw[OH];exact(mM (λy:Target=>y.e) S2.f1 _ t).k ((mN h.t λy b=>by simp at b;rw[b];exact f).k (mM (λy:Target=>y.e) S.f1 _ t).c)
 unfold hZ;rw[g,i]
def Besd.borne (h:Besd S S2 k){p:Nat}(g:k.toList ∉ cG f n)(l:p<n)(b:Borne S f p):Borne S2 f p:=by
 rw[Bl] at g;have hn:(f p).e.toList≠k.toList:=λe=>g ⟨p,l,.inl e⟩;refine⟨?_,nV λj i=>?_,b.run⟩;{have:=b.lie;unfold gD at this ⊢;rw[h.src hn,h.w hn,h.has hn];exact this};{have:=iG b.has i;unfold dY at this ⊢;rw[h.has λe=>g ⟨p,l,.inr ⟨j,i,e⟩⟩];exact this}
def tv {c:Nat->Int}:∀{n:Nat},(fi c n).1=0->∀i,i<n->c i=0
 |0,_,i,hi=>absurd hi (by omega)
 |n+1,h,i,hi=>by
  rw[fi] at h;split at h
  ·rename_i b
   split at h
   ·rcases TG.1 hi with e|rfl
    ·exact tv b i e
    ·assumption
   ·contradiction
  ·contradiction
def r9 (i:bc f n=ZH):(fj S.n0 S.f0 S.n1 S.f1 f n).1=0 ↔ aR S.n0 S.f0 S.n1 S.f1=0/\∀p,p<n->Borne S f p:=by
 unfold fj;rw[eT i];constructor;{intro h;split at h;{rename_i g;refine⟨g,λp b=>?_⟩;have:=tv h p b;unfold dx at this;split at this;{omega};split at this;{omega};rename_i h1 h2;exact⟨by simpa using h1,by simpa using h2,this⟩};{cases h}};{rintro⟨g,h⟩;rw[eT g,nW λp b=>by unfold dx;rw[eI (by rw[(h p b).lie];simp),eI (by rw[(h p b).has];simp)];exact(h p b).run]}
def Dw (g:bc f n=ZH):((bE S (f (n - 1)).e).1.length=n/\∀i,i<n->DeedEq (f i) (dF (bk S (bE S (f (n - 1)).e).1) i)) ↔ (fj S.n0 S.f0 S.n1 S.f1 f n).1=0:=by
 have hn:=er g;rw[r9 g];constructor
 ·rintro⟨h1,h2⟩;rcases o8 S (f (n - 1)).e with⟨e,-⟩|⟨M,e,h,o,q,hb⟩
  {rw[e] at h1;have h0:0=n:=h1;omega};{rw[hb] at h1 h2;have h1:M.length=n:=h1;obtain⟨a,b⟩:=Co h o q;rw[h1] at a b;exact⟨h.chk,λp l=>Ac a (λi hi=>(h2 i hi).c) l (b p l)⟩}
 ·rintro⟨m,j⟩;have h:=SpcOk.of m;have hb:(bE S (f (n - 1)).e).1=cF S f n:=by unfold bE;rw[eT ⟨m,(gT g (show n - 1<n by omega)).1⟩,zZ g h j]
  rw[hb];exact⟨by simp[cF],λi hi=>(Aa g h j hi).c⟩
end
def wM{L:List b}{x y:b}{i:Nat}:y∈L.take i++x::L.drop i ↔ y=x\/y∈L:=
 ⟨lB,λh=>by
  rcases h with rfl|h
  ·simp
  ·rw[<-QN i L] at h
   rcases p8.1 h with h|h
   ·exact p8.2 (.inl h)
   ·exact p8.2 (.inr (mq _ h))⟩
def Gu{b:List Source}{m:List Target}(h:GoodE b m){x:Source}(o:∀y∈b,(y.e.toList == t.toList)=ZA){y:Source}:y∈ik b x t ↔ y=x\/y∈b:=by
 have f:aK (nm0 (aV b)) b.length=ZH:=iD λi j l g=>by show aC (aV b i).e (aV b j).e=ZH;rw[dh g,dh (by omega)];exact D0.1 h.s i j (by omega) g l
 obtain⟨i,hi,a1,n⟩:=jV (t:=t) f;rw[xZ hi a1 n o];exact wM
def Gv{p:List Source}{b:List Target}(h:GoodE p b){x:Target}(q:∀y∈b,(y.e.toList == t.toList)=ZA){y:Target}:y∈jO b x t ↔ y=x\/y∈b:=by
 have f:aK (nm1 (aW b)) b.length=ZH:=iD λi j n l=>by show aC (aW b i).e (aW b j).e=ZH;rw[dy l,dy (by omega)];exact D0.1 h.t i j (by omega) l n
 obtain⟨i,hi,a1,o⟩:=jV (t:=t) f
 rw[jO,x7 hi a1 o λm g=>by
  show((aW b m).e.toList == t.toList)=ZA;rw[dy g]
  exact q _ (gz g)]
 exact wM
def spL (f:List Source)(b:List Target):xl:=⟨f.length,aV f,b.length,aW b⟩
def sd{k:F_}{g:List Source}{f:List Target}(h:∀y:Source,y.e.toList≠k.toList->(y∈g ↔ y∈Qy f0 k n0))(h1:∀y:Target,y.e.toList≠k.toList->(y∈f ↔ y∈Qj f1 k n1)):Besd ⟨n0,f0,n1,f1⟩ (spL g f) k:=
 ⟨λy b=>by
  show y∈(List.range g.length).map (aV g) ↔ _;rw[Ae,h y b];simp[Qy,b],λy b=>by
  show y∈(List.range f.length).map (aW f) ↔ _;rw[Af,h1 y b]
  simp[Qj,b]⟩
def Dx{tx:F_}(h:iC n0 f0 n1 f1 t tx=0):Besd ⟨n0,f0,n1,f1⟩ (spL (eZ n0 f0 n1 f1 t tx) (fC n0 f0 n1 f1 t tx)) t:=by
 have f:aR n0 f0 n1 f1=0:=by
  have b:=h;unfold iC at b;split at b;{cases b};{omega}
 refine sd (λy g=>?_) λy _=>(by rw[fC,eT h]);rw[eZ,eT h,Gu (iY t f) nB];exact⟨λe=>e.resolve_left λe=>g (by rw[e]),.inr⟩
def Dy{f:Nat->Ins}(h:fW n0 f0 n1 f1 t (valid f m)=0):Besd ⟨n0,f0,n1,f1⟩ (spL (d9 n0 f0 n1 f1 t m f) (eE n0 f0 n1 f1 t m f)) t:=by
 have g:aR n0 f0 n1 f1=0:=by
  have b:=h;unfold fW at b;split at b;{cases b};{omega}
 refine sd (λy _=>by rw[d9,eT h]) λy i=>?_;rw[eE,eT h,Gv (iY t g) pC];exact⟨λe=>e.resolve_left λe=>i (by rw[e]),.inr⟩
def mO{S S2:xl}{k:F_}(h:Besd S S2 k)(l:aR S2.n0 S2.f0 S2.n1 S2.f1=0)(g:bc f n=ZH)(j:∀p,p<n->Borne S f p)(i:k.toList ∉ ii f n):(fj S2.n0 S2.f0 S2.n1 S2.f1 f n).1=0:=
 (r9 g).2 ⟨l,λp b=>h.borne (n:=n) (by rw[ii,eT g] at i;exact i) b (j p b)⟩
def mP (x y:Link):Bool:=x.e.toList == y.e.toList && x.ask == y.ask && x.has == y.has && x.G == y.G
def It{x y:Link}(h:mP x y=ZH):x=y:=by obtain⟨a,b,c,d⟩:=x;obtain⟨a',b',c',d'⟩:=y;simp only[mP,j6,TS] at h;obtain⟨⟨⟨h1,rfl⟩,rfl⟩,rfl⟩:=h;rw[fy h1]
def Iu (x y:Link)(w:E):(binOp .neq 65 (ZJ #[U x.e,ZF x.ask,ZF x.has,J I x.G]) (ZJ #[U y.e,ZF y.ask,ZF y.has,J I y.G])).run Pg w=.ok (ZF (!mP x y)) w:=by
 have h:Pg.underlying 65=Q (.struct (Pg.fieldsOf 65)):=by kernel_rfl
 have b:Pg.stoodInHeld 65=ZA:=by kernel_rfl
 rw[run_neq_struct,show(10000:Nat)=9999+1 from rfl,run_equalIn_agg w 9999 65 _ _ h b];simp only[Program.fieldsOf,underlying65];go_simp;unfold mP;by_cases h1:x.e.toList=y.e.toList<;>by_cases h2:x.ask=y.ask<;>by_cases f:x.has=y.has<;>by_cases g:x.G=y.G<;>simp[h1,h2,f,g]
def wN (a:O_)(n c:Nat)(f:Nat->Ins)(y:O_)(m ZT:Nat)(g:Nat->Ins)(w:E)(hn:n<=1048576)(ZQ:SlIns w a n f)(K:SlIns w y m g):Calls Pg 119 #[ZJ #[Y a n c],ZJ #[Y y m ZT]] w λe ZP=>e=ZI (ZF (cD f g n m))/\Below w.heap.size w ZP:=by
 have R:=ae ZQ;have S:=ae K;clear ZQ K;obtain⟨s,o⟩:∃W:E,(w.alloc (N #[Y a n c] 37)).alloc (N #[Y y m ZT] 37)=W:=⟨_,rfl⟩
 obtain⟨O,-,-,-⟩:=nb2 o;have j:=ae o;clear o;have B:Hid (PB s w.heap.size (Y a n c)):=by rw[<-j.i];show _=_;rw[UK _ _ (by simp)];exact gM w _
 have A:Hid (PB s (w.heap.size+1) (Y y m ZT)):=by rw[<-j.i];exact SL w _ _
 obtain⟨r,p⟩:∃r,r=cD f g n m:=⟨_,rfl⟩
 rw[<-p];have C:=ae p;clear p;go_enter func119,ntmps119;go_upto_region 1 with fail;rw[j.i];clear j;have z0:=B.c0;have z1:=A.c0;have P:=B.lt;have ZO:=A.lt;by_cases z:n=m;case neg =>
  have h2:((n:Int) == (m:Int))=ZA:=by simp;omega
  go_wp2;go_ret;exact⟨bv (by rw[C.i];simp[cD,z]),O⟩
 subst z;go_wp2;clear z0 z1;go_loopw [5] (λi wr=>∃k:Nat,k<=n/\i=J I k/\Hid (cO f g k=ZH)/\Hid (∃q,wr=s.drewN q)) (λi _=>n - (intOf i).toNat);case atStart=>exact⟨0,by omega,rfl,rfl,0,rfl⟩
 case round =>
  obtain⟨k,hk,rfl,ZS,L⟩:=hrel;have u:Hid (Below s.heap.size s wr):=by obtain⟨q,l⟩:=L.i;rw[l];exact AD br q
  have z0:=(B.aa u P).c0;have z1:=(A.aa u ZO).c0;have l2:=u.size;have x:=ae (O.k (u.P (by omega)));by_cases t:k<n
  ·rcases R.aa x ly with h|⟨b,off,rfl,p⟩
   {omega};rcases S.aa x ly with h|⟨b',off',rfl,l⟩
   {omega};obtain⟨c0,c1,c2⟩:=p.2 k t;obtain⟨V,X,ZN⟩:=l.2 k t;have hb:=p.1;have M:=l.1;clear p l;have hlt2:(k:Int)<n:=by omega
   have ZR:=vN (f k) (g k);go_wp2_with fail;go_quiet (fail);have H:Hid (∃q,wr.drewN nq=s.drewN q):=by obtain⟨q,l⟩:=L.i;exact⟨q+nq,by rw[l,World.drewN_drewN]⟩
   have G:=ae (AD x nq);clear c0 c1 c2 V X ZN ZR z0 z1 hb M;generalize wr.drewN nq=W at H G ⊢;cases hb:kE (f k) (g k) with
   |true =>have D:=ae hb;clear hb;go_wp2;exact⟨⟨k+1,by omega,by go_num,by show cO f g (k+1)=ZH;rw[cO,ZS.i,D.i];rfl,H⟩,by simp[intOf];omega⟩
   |false =>have D:=ae hb;clear hb;go_wp2;go_ret;exact⟨bv (by rw[C.i];simp[cD,kF t D.i]),G⟩
  ·obtain rfl:k=n:=by omega
   go_wp2;go_ret;exact⟨bv (by rw[C.i];simp[cD,ZS.i]),x⟩
def GM (ZT:Prop)(w:E)(e:Ending)(f:E):Prop:=∃b:Bool,e=ZI (ZF b)/\(b=ZH ↔ ZT)/\Below w.heap.size w f
def Dz (x y:au):((x.e.toList == y.e.toList)=ZA/\¬ DeedEq x y)\/(x.e=y.e/\(x.L == y.L)=ZA/\¬ x.L=y.L/\¬ DeedEq x y)\/(x.e=y.e/\x.L=y.L/\(x.M == y.M)=ZA/\¬ x.M=y.M/\¬ DeedEq x y)\/(x.e=y.e/\x.L=y.L/\x.M=y.M/\(x.H.toList == y.H.toList)=ZA/\¬ DeedEq x y)\/(x.e=y.e/\x.L=y.L/\x.M=y.M/\x.H=y.H/\((x.f:Int) == (y.f:Int))=ZA/\¬ DeedEq x y)\/(x.e=y.e/\x.L=y.L/\x.M=y.M/\x.H=y.H/\x.f=y.f):=by
 cases h0:(x.e.toList == y.e.toList)
 {exact .inl ⟨rfl,λe=>by rw[e.e] at h0;simp at h0⟩};cases h1:(x.L == y.L)
 {exact .inr (.inl ⟨Qv h0,rfl,by simpa using h1,λe=>by rw[e.L] at h1;simp at h1⟩)};cases h2:(x.M == y.M)
 {exact .inr (.inr (.inl ⟨Qv h0,by simpa using h1,rfl,by simpa using h2,λe=>by rw[e.M] at h2;simp at h2⟩))};cases h3:(x.H.toList == y.H.toList)
 {exact .inr (.inr (.inr (.inl ⟨Qv h0,by simpa using h1,by simpa using h2,rfl,λe=>by rw[e.H] at h3;simp at h3⟩)))};cases h4:((x.f:Int) == (y.f:Int))
 {exact .inr (.inr (.inr (.inr (.inl ⟨Qv h0,by simpa using h1,by simpa using h2,Qv h3,rfl,λe=>by rw[e.f] at h4;simp at h4⟩))))};exact .inr (.inr (.inr (.inr (.inr ⟨Qv h0,by simpa using h1,by simpa using h2,Qv h3,by simp at h4;omega⟩))))
def DeB (V:E)(b:Nat)(x:au)(a0:O_)(c0:Nat)(a1:O_)(c1:Nat):Prop:=V.heap[b]?=Q (N #[U x.e,J I x.L,J I x.M,U x.H,Y a0 x.h c0,Y a1 x.f c1] 62 (0,0))
section
variable {V ZN:E}{b:Nat}{x:au}{a0 a1:O_}{c0 c1:Nat}
def DeB.cells (h:DeB V b x a0 c0 a1 c1):b<V.heap.size/\V.cell? (T b 0 Z)=Q (U x.e)/\V.cell? (T b 1 Z)=Q (J I x.L)/\V.cell? (T b 2 Z)=Q (J I x.M)/\V.cell? (T b 3 Z)=Q (U x.H)/\V.cell? (T b 4 Z)=Q (Y a0 x.h c0)/\V.cell? (T b 5 Z)=Q (Y a1 x.f c1):=by have f:V.heap[b]?=_:=h;refine⟨aj f,?_,?_,?_,?_,?_,?_⟩<;>simp[World.cell?,f]
end
def DD (x y:au)(a0:O_)(c0:Nat)(a1:O_)(c1:Nat)(b0:O_)(H:Nat)(q:O_)(ZS:Nat)(w:E)(l:cX x)(L:SlIns w a0 x.h x.q)(O:SlLink w a1 x.f x.m)(K:SlIns w b0 y.h y.q)(M:SlLink w q y.f y.m):Calls Pg 77 #[ZJ #[U x.e,J I x.L,J I x.M,U x.H,Y a0 x.h c0,Y a1 x.f c1],ZJ #[U y.e,J I y.L,J I y.M,U y.H,Y b0 y.h H,Y q y.f ZS]] w λe w'=>GM (DeedEq x y) w e w':=by
 obtain⟨u,ZO⟩:∃W:E,(w.alloc (N #[U x.e,J I x.L,J I x.M,U x.H,Y a0 x.h c0,Y a1 x.f c1] 62)).alloc (N #[U y.e,J I y.L,J I y.M,U y.H,Y b0 y.h H,Y q y.f ZS] 62)=W:=⟨_,rfl⟩
 obtain⟨ZR,P0,P1,-⟩:=nb2 ZO;have Q0:Hid (DeB u w.heap.size x a0 c0 a1 c1):=P0;have Q1:Hid (DeB u (w.heap.size+1) y b0 H q ZS):=P1;have n:=ae ZO;have R:=ae (λV (m:Below w.heap.size w V)=>wN a0 x.h c0 x.q b0 y.h H y.q V l.1 (L.aa m ly) (K.aa m ly));have ZL:=ae O;have U1:=ae M;have ex:=l.2;clear L O K M l P0 P1 ZO;have j:Hid (DeedEq x y->cD x.q y.q x.h y.h=ZH/\∀i,i<x.f->mP (x.m i) (y.m i)=ZH):=λh=>⟨by simp[cD,h.h,mw λi hi=>h.q i (by rw[h.h];exact hi)],λi hi=>by rw[h.m i hi];simp[mP]⟩
 have f:Hid (x.e=y.e->x.L=y.L->x.M=y.M->x.H=y.H->x.f=y.f->cD x.q y.q x.h y.h=ZH->(∀i,i<x.f->mP (x.m i) (y.m i)=ZH)->DeedEq x y):=λh1 h2 h3 h4 h5 h6 h7=>by simp only[cD,j6,nD] at h6;exact⟨h1,h2,h3,h4,h6.1,vB h6.2,h5,λi hi=>It (h7 i hi)⟩
 have D:=ae (Dz x y);generalize cD x.q y.q x.h y.h=cb at R j f;generalize DeedEq x y=ZT at j f D ⊢;go_enter func77,ntmps77;go_upto_region 1 with fail;rw[n.i];clear n;obtain⟨B,z0,z1,z2,z3,z4,A⟩:=Q0.cells;obtain⟨t,y0,y1,y2,y3,y4,z⟩:=Q1.cells;have hw:=ZR.size;have P:Hid (∀V,Below u.heap.size u V->w.heap.size<V.heap.size/\w.heap.size+1<V.heap.size/\V.cell? (T w.heap.size 5 Z)=Q (Y a1 x.f c1)/\V.cell? (T (w.heap.size+1) 5 Z)=Q (Y q y.f ZS)):=λV m=>⟨lj B m.size,lj t m.size,(m.O (p:=(T w.heap.size 5 Z)) B).k A,(m.O (p:=(T (w.heap.size+1) 5 Z)) t).k z⟩
 clear Q0 Q1;have g:=D.i;clear D;generalize x.m=S at ZL j f;generalize y.m=ZN at U1 j f;generalize x.e=n1 at z0 f g ⊢;generalize x.L=k1 at z1 f g ⊢;generalize x.M=g1 at z2 f g ⊢;generalize x.H=t1 at z3 f g ⊢;generalize x.f=o at A f g ZL j P ex ⊢;generalize y.f=m2 at z f g U1 P ⊢;rcases g with⟨h,ZQ⟩|⟨rfl,h,h',ZQ⟩|⟨rfl,rfl,h,h',ZQ⟩|⟨rfl,rfl,rfl,h,ZQ⟩|⟨rfl,rfl,rfl,rfl,h,ZQ⟩|⟨rfl,rfl,rfl,rfl,rfl⟩
 iterate 5
  ·have C:=ae ZQ
   clear ZQ;go_wp2;go_ret;exact⟨ZA,rfl,⟨nofun,λe=>(C.i e).elim⟩,ZR⟩
 have HJ:=ae (f.i rfl rfl rfl rfl rfl);clear f;go_wp2_with fail;refine(R.i u ZR).P ?_;rintro e w1⟨rfl,X⟩;have A2:=ae (ZR.k (X.P hw));have r:=ae X;clear X R z0 z1 z2 z3 z4 A y0 y1 y2 y3 y4 z B t hw;cases cb with
 |false =>go_wp2;go_ret;exact⟨ZA,rfl,⟨nofun,λe=>by have:=(j.i e).1;cases this⟩,A2⟩
 |true =>
  go_wp2;go_loopw [5] (λi wr=>∃k:Nat,k<=o/\i=J I k/\Hid (∀i,i<k->mP (S i) (ZN i)=ZH)/\Hid (Below w1.heap.size w1 wr)) (λi _=>o - (intOf i).toNat);case atStart=>exact⟨0,by omega,rfl,λi hi=>absurd hi (by omega),a8 _ _⟩
  case round =>
   obtain⟨k,hk,rfl,HK,n⟩:=hrel;have G:=ae (A2.k (n.P A2.size));obtain⟨B,t,A,z⟩:=P.i _ (r.k (n.P r.size));by_cases s:k<o
   ·rcases ZL.aa G ly with h|⟨b,off,rfl,ZM⟩
    {omega};rcases U1.aa G ly with h|⟨b',off',rfl,ZP⟩
    {omega};obtain⟨e0,e1,e2,e3⟩:=ZM.2 k s;obtain⟨g0,g1,g2,g3⟩:=ZP.2 k s;have hb:=ZM.1;have bt:=ZP.1;clear ZM ZP;have hlt2:(k:Int)<o:=by omega
    have aq:=Iu (S k) (ZN k);go_wp2_with fail;go_quiet (fail);have r:=ae (AD n nq);have B2:=ae (AD G nq);clear e0 e1 e2 e3 g0 g1 g2 g3 aq A z hb bt B t;generalize wr.drewN nq=W at r B2 ⊢;cases hb:mP (S k) (ZN k) with
    |true =>
     have C:=ae hb;clear hb;go_wp2
     exact⟨⟨k+1,by omega,by go_num,(λi hi=>by
      rcases TG.1 hi with h|rfl;{exact HK i h}
      ·exact C),r⟩,by simp[intOf];omega⟩
    |false =>have C:=ae hb;clear hb;go_wp2;go_ret;exact⟨ZA,rfl,⟨nofun,λe=>by have:=(j.i e).2 k s;rw[C.i] at this;cases this⟩,B2⟩
   ·obtain rfl:k=o:=by omega
    go_wp2;go_ret;exact⟨ZH,rfl,⟨λ_=>HJ.i (by simp) HK.i,λ_=>rfl⟩,G⟩
def wO (a:O_)(n c:Nat)(f:Nat->au)(t:O_)(m A:Nat)(g:Nat->au)(w:E)(hn:n<=1048576)(S:SlDeed w a n f)(O:SlDeed w t m g)(r:∀i,i<n->cX (f i)):Calls Pg 46 #[ZJ #[Y a n c],ZJ #[Y t m A]] w λe M=>GM (m=n/\∀i,i<n->DeedEq (f i) (g i)) w e M:=by
 have HF:=ae S;have HG:=ae O;have HM:=ae r;clear S O r;obtain⟨q,o⟩:∃W:E,(w.alloc (N #[Y a n c] 25)).alloc (N #[Y t m A] 25)=W:=⟨_,rfl⟩
 obtain⟨u,-,H,-⟩:=nb2 o;have j:=ae o;clear o;have ZO:Hid (q.heap[w.heap.size]?=Q (N #[Y a n c] 25 (0,0))):=by rw[<-j.i];show _=_;rw[UK _ _ (by simp)];exact gM w _
 go_enter func46,ntmps46;go_upto_region 1 with fail;rw[j.i];clear j;have l0:=aj ZO.i;have l1:=aj H.i;have ZS:=u.size;have L:Hid (∀V,Below q.heap.size q V->V.cell? (T w.heap.size 0 Z)=Q (Y a n c)/\V.cell? (T (w.heap.size+1) 0 Z)=Q (Y t m A)):=λV l=>by have B:=(l.p _ l0).k ZO.i;have D:=(l.p _ l1).k H.i;constructor<;>simp[World.cell?,B,D]
 obtain⟨z0,z1⟩:=L.i q br;by_cases z:n=m;case neg =>
  have h2:((n:Int) == (m:Int))=ZA:=by simp;omega
  go_wp2;go_ret;exact⟨ZA,rfl,⟨nofun,λh=>absurd h.1.c z⟩,u⟩
 subst z;go_wp2;clear z0 z1;go_loopw [5] (λi wr=>∃k:Nat,k<=n/\i=J I k/\Hid (∀i,i<k->DeedEq (f i) (g i))/\Hid (Below q.heap.size q wr)) (λi _=>n - (intOf i).toNat);case atStart=>exact⟨0,by omega,rfl,λi hi=>absurd hi (by omega),a8 _ _⟩
 case round =>
  obtain⟨k,hk,rfl,R,s⟩:=hrel;obtain⟨z0,z1⟩:=L.i _ s.i;have l2:=s.size;have C:=ae (u.k (s.P ZS));by_cases p:k<n
  ·rcases HF.aa C ly with h|⟨b,off,rfl,G⟩
   {omega};rcases HG.aa C ly with h|⟨b',off',rfl,ZT⟩
   {omega};obtain⟨B,D,p2,p3,⟨x4,k4,X,P⟩,⟨ZL,k5,p5,ZQ⟩⟩:=G.2 k p;obtain⟨q0,q1,q2,ZN,⟨u4,m4,q4,K⟩,⟨u5,m5,q5,ZP⟩⟩:=ZT.2 k p;have hb:=G.1;have hb':=ZT.1;have CD:=ae (λV (l:Below wr.heap.size wr V)=>DD (f k) (g k) x4 k4 ZL k5 u4 m4 u5 m5 V (HM.i k p) (P.aa l ly) (ZQ.aa l ly) (K.aa l ly) (ZP.aa l ly));clear G ZT P ZQ K ZP;have hlt2:(k:Int)<n:=by omega
   go_wp2_with fail;go_region_with (go_at_call 77;refine(CD.i _ (by repeat (first|exact a8 _ _|apply Below.drew))).P ?_;rintro e M⟨ZM,rfl,x,y⟩);all_goals
    have ZR:=ae (Below.trans (by repeat (first|exact s.i|apply Below.drew)) (y.P l2));have B2:=ae (u.k (ZR.P ZS));clear y B D p2 p3 X p5 q0 q1 q2 ZN q4 q5 z0 z1;cases ZM with
    |true =>
     go_wp2
     exact⟨⟨k+1,by omega,by go_num,(λi hi=>by
      rcases TG.1 hi with h|rfl
      ·exact R i h
      ·exact x.1 rfl),ZR⟩,by simp[intOf];omega⟩
    |false =>go_wp2;go_ret;exact⟨ZA,rfl,⟨nofun,λh=>by have:=x.2 (h k p);cases this⟩,B2⟩
  ·obtain rfl:k=n:=by omega
   go_wp2;go_ret;exact⟨ZH,rfl,⟨λ_=>R.i,λ_=>rfl⟩,C⟩
