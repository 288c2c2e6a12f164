import Derived.Test.YtcnilonhfpimnaaGreatDoorFZ
import Derived.Laws.StructEq
set_option linter.all false
set_option maxRecDepth 100000
set_option maxHeartbeats 8000000
open Go renaming Addr.mk->T,Value.slice->Y,Value.string->U,Value.int->J,Value.bool->ZF,Value.agg->ZJ,Obj.cells->N,IntKind.i64->I,World->E,Ending.returned->ZI,World.heap->A,World.cell?->ZU,Proofs.Tryz.prog->Pg,Calls->Qw
open Option renaming none->Z,some->Q
open Bool renaming false->ZA,true->ZH
open Array renaming size->B
namespace Go.Proofs.YtcnilonhfpimnaaGreatDoor.Vp
open Tryz RowKit
def vN (x y:Ins)(w:E):(binOp .neq 102 (ZJ #[J I x.op,U x.s,J I x.n]) (ZJ #[J I y.op,U y.s,J I y.n])).run Pg w=.ok (ZF (!kE x y)) w:=by
 have g:Pg.underlying 102=Q (.struct (Pg.fieldsOf 102)):=by kernel_rfl
 have b:Pg.stoodInHeld 102=ZA:=by kernel_rfl
 rw[run_neq_struct,show(10000:Nat)=9999+1 from rfl,run_equalIn_agg w 9999 102 _ _ g b];simp only[Program.fieldsOf,underlying102];go_simp;unfold kE;by_cases h1:x.op=y.op<;>by_cases h2:x.s.toList=y.s.toList<;>by_cases f:x.n=y.n<;>simp[h1,h2,f]
def vO (b off n j_:Nat)(f:Nat->Ins)(t j s:Nat)(g:Nat->Ins)(w:E)(hn:n<=1048576)(ZW:Q_ w b off n f)(z:Q_ w t j n g):Qw Pg 97 #[Y (Q (T b off Z)) n j_,Y (Q (T t j Z)) n s] w λe C=>e=ZI (ZF (cO f g n))/\∃m,C=w.drewN m:=by
 have H:=ae ZW;have ZV:=ae z;clear ZW z;go_enter func97,ntmps97;go_wp2;go_loopw [13] (λi wr=>∃k:Nat,k<=n/\i=J I k/\Hid (cO f g k=ZH)/\Hid (∃q,wr=w.drewN q)) (λi _=>n - (intOf i).toNat);case atStart=>exact⟨0,by omega,rfl,rfl,0,rfl⟩
 case round =>
  obtain⟨k,hk,rfl,y,p⟩:=hrel;have u:Hid (Below (B (A w)) w wr):=by obtain⟨q,o⟩:=p.i;rw[o];exact AD br q
  by_cases h:k<n
  ·obtain⟨c0,c1,c2⟩:=(H.i.aa u.i ly).2 k h;obtain⟨ZT,G,D⟩:=(ZV.i.aa u.i ly).2 k h;have hlt2:(k:Int)<n:=by omega
   have x:=vN (f k) (g k);go_wp2_with fail;go_quiet (fail);have l:Hid (∃q,wr.drewN nq=w.drewN q):=by obtain⟨q,o⟩:=p.i;exact⟨q+nq,by rw[o,World.drewN_drewN]⟩
   clear c0 c1 c2 ZT G D x;generalize wr.drewN nq=W at l ⊢;cases hb:kE (f k) (g k) with
   |true =>have r:=ae hb;clear hb;go_wp2;exact⟨⟨k+1,by omega,by go_num,by show cO f g (k+1)=ZH;rw[cO,y.i,r.i];rfl,l.i⟩,by simp[intOf];omega⟩
   |false =>have r:=ae hb;clear hb;go_wp2;go_ret;exact⟨bv (kF h r.i).c,l.i⟩
  ·obtain rfl:k=n:=by omega
   go_wp2;go_ret;exact⟨bv y.i.c,p.i⟩
def nZ (a:O_)(j_:Nat)(f:O_)(b:Nat)(w:E):Qw Pg 97 #[Y a 0 j_,Y f 0 b] w λe g=>e=ZI (ZF ZH)/\g=w:=by
 go_enter func97,ntmps97;go_wp2;go_loop [13] (λi=>i=J I 0) (λ_=>0);case atStart=>rfl
 case round =>subst hrel;go_wp2;go_ret;exact⟨rfl,rfl⟩
def vP (a:O_)(n j_:Nat)(f:O_)(m b:Nat)(w:E)(h:(n:Int)≠m):Qw Pg 97 #[Y a n j_,Y f m b] w λe g=>e=ZI (ZF ZA)/\g=w:=by
 have h2:((n:Int) == (m:Int))=ZA:=by simpa using h
 go_enter func97,ntmps97;go_wp2;go_ret;exact⟨rfl,rfl⟩
def vQ (a:O_)(n j_:Nat)(f:Nat->Ins)(j:O_)(m i:Nat)(g:Nat->Ins)(w:E)(hn:n<=1048576)(hm:m<=1048576)(r:SlIns w a n f)(o:SlIns w j m g):Qw Pg 97 #[Y a n j_,Y j m i] w λe l=>e=ZI (ZF (cD f g n m))/\∃m,l=w.drewN m:=by
 by_cases h:n=m
 ·subst h;have s:cD f g n n=cO f g n:=by simp[cD]
  rw[s];rcases r with rfl|⟨b,off,rfl,r⟩
  {exact(nZ a j_ j i w).P λe l ⟨p,q⟩=>⟨p,0,by rw[q];rfl⟩}
  ·rcases o with rfl|⟨u,t,rfl,o⟩
   {exact(nZ _ j_ j i w).P λe l ⟨p,q⟩=>⟨p,0,by rw[q];rfl⟩};{exact vO b off n j_ f u t i g w hn r o}
 ·have s:cD f g n m=ZA:=by simp[cD,h]
  rw[s];exact(vP a n j_ j m i w (by omega)).P λe l ⟨p,q⟩=>⟨p,0,by rw[q];rfl⟩
def Ah (b off n j_:Nat)(f:Nat->Ins)(r h l:Nat)(g:Nat->Ins)(w:E)(hn:n<=1048576)(C:Q_ w b off n f)(ZW:Q_ w r h n g):Qw Pg 66 #[ZJ #[Y (Q (T b off Z)) n j_],ZJ #[Y (Q (T r h Z)) n l]] w λe ZR=>e=ZI (ZF (cO f g n))/\Below (B (A w)) w ZR:=by
 obtain⟨W,q⟩:∃W:E,(w.alloc (N #[Y (Q (T b off Z)) n j_] 37)).alloc (N #[Y (Q (T r h Z)) n l] 37)=W:=⟨_,rfl⟩
 obtain⟨D,-,-,-⟩:=nb2 q;have j:=ae q;clear q;have ZS:ZU W (T (B (A w)) 0 Z)=Q (Y (Q (T b off Z)) n j_):=by rw[<-j.i];simp[go_sem]
 have G:ZU W (T (B (A w)+1) 0 Z)=Q (Y (Q (T r h Z)) n l):=by rw[<-j.i];simp[go_sem]
 have hz:B (A w)+1<B (A W):=by rw[<-j.i];simp
 have O:=ae C;have H:=ae ZW;clear C ZW;go_enter func66,ntmps66;go_wp2;rw[j.i];clear j;go_loopw [5] (λi wr=>∃k:Nat,k<=n/\i=J I k/\Hid (cO f g k=ZH)/\Hid (Below (B (A W)) W wr)) (λi _=>n - (intOf i).toNat);case atStart=>exact⟨0,by omega,rfl,rfl,a8 _ _⟩
 case round =>
  obtain⟨k,hk,rfl,z,m⟩:=hrel;have s:=ae (D.i.k (m.i.P D.i.size));have L:=(m.i.O (p:=(T (B (A w)) 0 Z)) (by show (B (A w))<_;omega)).k ZS;have ZT:=(m.i.O (p:=(T (B (A w)+1) 0 Z)) hz).k G;have ZV:B (A w)+1<B (A wr):=lj hz m.i.size;by_cases o:k<n
  ·obtain⟨c0,c1,c2⟩:=(O.i.aa s.i ly).2 k o;obtain⟨M,ZQ,K⟩:=(H.i.aa s.i ly).2 k o;have hlt2:(k:Int)<n:=by omega
   have x:=vN (f k) (g k);go_wp2_with fail;go_quiet (fail);have u:=ae (AD m.i nq);have y:=ae (AD s.i nq);clear c0 c1 c2 M ZQ K x L ZT ZV;generalize wr.drewN nq=W' at u y ⊢;cases hb:kE (f k) (g k) with
   |true =>have t:=ae hb;clear hb;go_wp2;exact⟨⟨k+1,by omega,by go_num,by show cO f g (k+1)=ZH;rw[cO,z.i,t.i];rfl,u.i⟩,by simp[intOf];omega⟩
   |false =>have t:=ae hb;clear hb;go_wp2;go_ret;exact⟨bv (kF o t.i).c,y.i⟩
  ·obtain rfl:k=n:=by omega
   go_wp2;go_ret;exact⟨bv z.i.c,s.i⟩
def qM (a:O_)(j_:Nat)(f:O_)(b:Nat)(w:E):Qw Pg 66 #[ZJ #[Y a 0 j_],ZJ #[Y f 0 b]] w λe h=>e=ZI (ZF ZH)/\Below (B (A w)) w h:=by
 have g:=ae (((BS w).alloc ly (N #[Y a 0 j_] 37)).alloc (by simp) (N #[Y f 0 b] 37));go_enter func66,ntmps66;go_wp2;go_loop [5] (λi=>i=J I 0) (λ_=>0);case atStart=>rfl
 case round =>subst hrel;go_wp2;go_ret;exact⟨rfl,g.i⟩
def Ai (a:O_)(n j_:Nat)(f:O_)(m b:Nat)(w:E)(h:(n:Int)≠m):Qw Pg 66 #[ZJ #[Y a n j_],ZJ #[Y f m b]] w λe i=>e=ZI (ZF ZA)/\Below (B (A w)) w i:=by
 have g:=ae (((BS w).alloc ly (N #[Y a n j_] 37)).alloc (by simp) (N #[Y f m b] 37));have h2:((n:Int) == (m:Int))=ZA:=by simpa using h
 go_enter func66,ntmps66;go_wp2;go_ret;exact⟨rfl,g.i⟩
def Aj (a:O_)(n j_:Nat)(f:Nat->Ins)(j:O_)(m i:Nat)(g:Nat->Ins)(w:E)(hn:n<=1048576)(hm:m<=1048576)(o:SlIns w a n f)(l:SlIns w j m g):Qw Pg 66 #[ZJ #[Y a n j_],ZJ #[Y j m i]] w λe s=>e=ZI (ZF (cD f g n m))/\Below (B (A w)) w s:=by
 by_cases h:n=m
 ·subst h;have p:cD f g n n=cO f g n:=by simp[cD]
  rw[p];rcases o with rfl|⟨b,off,rfl,o⟩
  {exact qM a j_ j i w}
  ·rcases l with rfl|⟨r,q,rfl,l⟩
   {exact qM _ j_ j i w};{exact Ah b off n j_ f r q i g w hn o l}
 ·have p:cD f g n m=ZA:=by simp[cD,h]
  rw[p];exact Ai a n j_ j m i w (by omega)
def Cx (d:au)(a0:O_)(x:Nat)(a1:O_)(ZR:Nat)(u:O_)(n0 ZV:Nat)(f0:Nat->Source)(q:O_)(n1 z:Nat)(f1:Nat->Target)(w:E)(hn0:(n0:Int)<=1048576)(hn1:(n1:Int)<=1048576)(ZP:Qx w u n0 f0)(V:Qq w q n1 f1)(ZN:aK (nm0 f0) n0=ZH)(S:aK (nm1 f1) n1=ZH)(hI:SlIns w a0 d.h d.q)(mv:d.h<=1048576)(R:∀i,i<n1->aP (f1 i)):Qw Pg 26 #[ZJ #[U d.e,J I d.L,J I d.M,U d.H,Y a0 d.h x,Y a1 d.f ZR],ZJ #[Y u n0 ZV,Y q n1 z]] w λe w'=>e=ZI (ZF (!gD n0 f0 n1 f1 d))/\Below (B (A w)) w w':=by
 obtain⟨r,hr⟩:∃r,r=gD n0 f0 n1 f1 d:=⟨_,rfl⟩
 rw[<-hr];have ZT:=ae (show r=if d.L=1 then !jd n0 f0 d.e d.H else if d.L=3 then !iB n1 f1 d.e d.h d.q else hZ n0 f0 n1 f1 d.e from hr);clear hr;obtain⟨W,L⟩:∃W:E,(w.alloc (N #[U d.e,J I d.L,J I d.M,U d.H,Y a0 d.h x,Y a1 d.f ZR] 62)).alloc (N #[Y u n0 ZV,Y q n1 z] 29)=W:=⟨_,rfl⟩
 obtain⟨ZO,-,-,-⟩:=nb2 L;have g:=ae L;clear L;have ZS:=ae ZP;have K:=ae V;have fd:=ae ZN;have ex:=ae S;have HI:=ae hI;have bt:=ae R;clear ZP V ZN S hI R;have c0:ZU W (T (B (A w)) 0 Z)=Q (U d.e):=by rw[<-g.i];simp[go_sem]
 have c1:ZU W (T (B (A w)) 1 Z)=Q (J I d.L):=by rw[<-g.i];simp[go_sem]
 have c3:ZU W (T (B (A w)) 3 Z)=Q (U d.H):=by rw[<-g.i];simp[go_sem]
 have c4:ZU W (T (B (A w)) 4 Z)=Q (Y a0 d.h x):=by rw[<-g.i];simp[go_sem]
 have c5:ZU W (T (B (A w)+1) 0 Z)=Q (Y u n0 ZV):=by rw[<-g.i];simp[go_sem]
 have c6:ZU W (T (B (A w)+1) 1 Z)=Q (Y q n1 z):=by rw[<-g.i];simp[go_sem]
 have hz:B (A w)+1<B (A W):=by rw[<-g.i];simp
 go_enter func26,ntmps26;go_wp2_with fail;rw[g.i];clear g;refine(kW u n0 ZV q n1 z f0 d.e _ hn0 (ZS.i.aa ZO.i ly)).P ?_;rintro e w1⟨s,rfl,ZM,f⟩;have ZQ:=ae ZM;have O:=ae (ZO.i.k (f.P ZO.i.size));have m:B (A w)<B (A W):=by omega
 have x0:=(f.O (p:=(T (B (A w)) 0 Z)) m).k c0;have x1:=(f.O (p:=(T (B (A w)) 1 Z)) m).k c1;have x3:=(f.O (p:=(T (B (A w)) 3 Z)) m).k c3;have x4:=(f.O (p:=(T (B (A w)) 4 Z)) m).k c4;have x5:=(f.O (p:=(T (B (A w)+1) 0 Z)) hz).k c5;have x6:=(f.O (p:=(T (B (A w)+1) 1 Z)) hz).k c6;have D:B (A w)+1<B (A w1):=lj hz f.size;clear f ZM ZO c0 c1 c3 c4 c5 c6 hz m;go_wp2_with fail;refine(kV u n0 ZV q n1 z f1 d.e _ hn1 (K.i.aa O.i ly)).P ?_;rintro e P⟨t,rfl,ZL,f⟩;have H:=ae ZL;have j:=ae (O.i.k (f.P O.i.size));have m:B (A w)<B (A w1):=by omega
 have y1:=(f.O (p:=(T (B (A w)) 1 Z)) m).k x1;have y3:=(f.O (p:=(T (B (A w)) 3 Z)) m).k x3;have y4:=(f.O (p:=(T (B (A w)) 4 Z)) m).k x4;have y5:=(f.O (p:=(T (B (A w)+1) 0 Z)) D).k x5;have y6:=(f.O (p:=(T (B (A w)+1) 1 Z)) D).k x6;have hz2:B (A w)+1<B (A P):=lj D f.size;clear f ZL O x0 x1 x3 x4 x5 x6 D m;by_cases ZW:d.L=1
 ·have n:Hid (r=!jd n0 f0 d.e d.H):=by show _=_;rw[ZT.i,eT ZW]
  rw[ZW] at y1;clear ZT;rcases ZQ.i with⟨rfl,M⟩|⟨i,rfl,o,y⟩
  ·obtain rfl:r=ZH:=by rw[n.i];unfold jd;rw[lN M];rfl
   clear ZQ M;have hg:decide ((0:Int)<=-1)=ZA:=rfl;go_wp2_with fail;go_quiet (fail);go_wp2;go_ret;exact⟨rfl,AD j.i _⟩
  ·have h:Hid (r=!((f0 i).H.toList == d.H.toList)):=by show _=_;rw[n.i];unfold jd;rw[ox fd.i o y]
   obtain⟨b,off,rfl,l⟩:=ZS.i.resolve_left (by omega);obtain⟨e0,e1⟩:=(l.aa j.i ly).2 i o;have aq:(i:Int)<n0:=by omega
   have ld:decide ((0:Int)<=i)=ZH:=QC (by omega);clear ZQ y l n ZS;cases G:((f0 i).H.toList == d.H.toList) with
   |true =>
    obtain rfl:r=ZA:=by rw[h.i,G];rfl
    go_wp2_with fail;go_quiet (fail);go_wp2;go_ret;exact⟨rfl,AD j.i _⟩
   |false =>
    obtain rfl:r=ZH:=by rw[h.i,G];rfl
    go_wp2_with fail;go_quiet (fail);go_wp2;go_ret;exact⟨rfl,AD j.i _⟩
 ·by_cases C:d.L=3
  ·have n:Hid (r=!iB n1 f1 d.e d.h d.q):=by show _=_;rw[ZT.i,eI ZW,eT C]
   rw[C] at y1;clear ZT;rcases H.i with⟨rfl,M⟩|⟨i,rfl,o,y⟩
   ·obtain rfl:r=ZH:=by rw[n.i];unfold iB;rw[lN M];rfl
    clear H M;have hg:decide ((0:Int)<=-1)=ZA:=rfl;go_wp2_with fail;go_quiet (fail);go_wp2;go_ret;exact⟨rfl,AD j.i _⟩
   ·have h:Hid (r=!cD (f1 i).q d.q (f1 i).h d.h):=by show _=_;rw[n.i];unfold iB;rw[ox ex.i o y]
    obtain⟨b,off,rfl,l⟩:=K.i.resolve_left (by omega);obtain⟨e0,ka,kc,e1,q1⟩:=(l.aa j.i ly).2 i o;have Q1:=ae (show SlIns P ka (f1 i).h (f1 i).q from q1);have aq:(i:Int)<n1:=by omega
    have ld:decide ((0:Int)<=i)=ZH:=QC (by omega);clear H y l n K q1;have EQ:=ae (λW (f:Below (B (A P)) P W)=>Aj ka (f1 i).h kc (f1 i).q a0 d.h x d.q W (bt.i i o) mv (Q1.i.aa f ly) ((HI.i.aa j.i ly).aa f ly));generalize cD (f1 i).q d.q (f1 i).h d.h=c at h EQ;go_wp2_with fail
    go_region_with (first
     |(go_at_call 66;refine(EQ.i _ ?_).P ?_;(first|exact a8 _ _|exact br.drew);rintro e w3⟨rfl,f⟩))
    all_goals
     go_simp;go_wp2;go_ret;exact⟨by simp[h.i],j.i.k (Below.mono ⟨f.os,f.tape,f.output,f.size,f.p⟩ j.i.size)⟩
  ·have n:Hid (r=hZ n0 f0 n1 f1 d.e):=by show _=_;rw[ZT.i,eI ZW,eI C]
   have hk1b:(d.L == 1)=ZA:=by simpa using ZW
   have hk3b:(d.L == 3)=ZA:=by simpa using C
   have h:Hid (r=(decide (0<=s) || decide (0<=t))):=by show _=_;rw[n.i];unfold hZ;rw[ZQ.i.has,H.i.has]
   clear ZT n ZQ H;by_cases hs:0<=s
   ·obtain rfl:r=ZH:=by rw[h.i];simp[hs]
    have la:¬ s<0:=by omega
    go_wp2;go_ret;exact⟨rfl,j.i⟩
   ·have la:s<0:=by omega
    by_cases G:0<=t
    ·obtain rfl:r=ZH:=by rw[h.i];simp[G]
     have X:¬ t<0:=by omega
     go_wp2;go_ret;exact⟨by simp[X],j.i⟩
    ·obtain rfl:r=ZA:=by rw[h.i];simp[hs,G]
     have X:t<0:=by omega
     go_wp2;go_ret;exact⟨rfl,j.i⟩
def FG (W L n j_:Nat)(o:O_)(n0 y:Nat)(f0:Nat->Source)(m:O_)(n1 u:Nat)(f1:Nat->Target)(d:au)(a0:O_)(z:Nat)(a1:O_)(K:Nat)(w:E)(hn0:(n0:Int)<=1048576)(hn1:(n1:Int)<=1048576)(ZO:Qx w o n0 f0)(ZQ:Qq w m n1 f1)(M:aK (nm0 f0) n0=ZH)(P:aK (nm1 f1) n1=ZH)(ZN:SlIns w a0 d.h d.q)(aq:d.h<=1048576)(O:∀i,i<n1->aP (f1 i)):Qw Pg 61 #[ZJ #[Y (Q (T W L Z)) n j_,Y o n0 y,Y m n1 u],ZJ #[U d.e,J I d.L,J I d.M,U d.H,Y a0 d.h z,Y a1 d.f K]] w λe w'=>e=ZI (ZF (gD n0 f0 n1 f1 d))/\Below (B (A w)) w w':=by
 obtain⟨r,S⟩:∃r,r=gD n0 f0 n1 f1 d:=⟨_,rfl⟩
 rw[<-S];have ZR:=ae (show r=if d.L=1 then !jd n0 f0 d.e d.H else if d.L=3 then !iB n1 f1 d.e d.h d.q else hZ n0 f0 n1 f1 d.e from S);clear S;have h:=ae (((BS w).alloc ly (N #[Y (Q (T W L Z)) n j_,Y o n0 y,Y m n1 u] 107)).alloc (by simp) (N #[U d.e,J I d.L,J I d.M,U d.H,Y a0 d.h z,Y a1 d.f K] 62));have ZS:=ae ZO;have G:=ae ZQ;have H:=ae M;have D:=ae P;have HI:=ae ZN;have ZP:=ae O;clear ZO ZQ M P ZN O;by_cases ZV:d.L=1
 ·have ZW:Hid (r=!jd n0 f0 d.e d.H):=by show _=_;rw[ZR.i,eT ZV]
  clear ZR;rw[ZV] at h ⊢;go_enter func61,ntmps61;go_wp2_with fail;refine(fe o n0 y m n1 u f0 d.e _ hn0 (ZS.i.aa h.i ly) H.i).P ?_;rintro e j⟨i,rfl,hi,h1,h2,f⟩;have g:=kU H.i hi h1 h2;have g1:ZU j (T (B (A w)) 1 Z)=Q (Y o n0 y):=(f.O (p:=(T (B (A w)) 1 Z)) (by simp;omega)).k (by simp[go_sem]);have d3:ZU j (T (B (A w)+1) 3 Z)=Q (U d.H):=(f.O (p:=(T (B (A w)+1) 3 Z)) (by simp)).k (by simp[go_sem]);have X:B (A w)+1<B (A j):=by have:=f.size;simp at this;omega
  have l:=ae (h.i.k (f.P h.i.size));clear f h1 h2 h;cases hq:aF (nm0 f0) n0 d.e with
  |false =>
   obtain rfl:r=ZH:=by rw[ZW.i];unfold jd;rw[lN hq];rfl
   clear g;go_wp2_with fail;go_quiet (fail);go_wp2;go_ret;exact⟨rfl,AD l.i _⟩
  |true =>
   rw[hq] at g;obtain⟨x,C⟩:i<n0/\((nm0 f0 i).toList == d.e.toList)=ZH:=by simpa using g.c
   have s:Hid (r=!((f0 i).H.toList == d.H.toList)):=by show _=_;rw[ZW.i];unfold jd;rw[ox H.i x C]
   obtain⟨b,off,rfl,t⟩:=ZS.i.resolve_left (by omega);obtain⟨e0,e1⟩:=(t.aa l.i ly).2 i x;have R:(i:Int)<n0:=by omega
   clear g C t ZW ZS;cases ht:((f0 i).H.toList == d.H.toList) with
   |true =>
    obtain rfl:r=ZA:=by rw[s.i,ht];rfl
    go_wp2_with fail;go_quiet (fail);go_wp2;go_ret;exact⟨rfl,AD l.i _⟩
   |false =>
    obtain rfl:r=ZH:=by rw[s.i,ht];rfl
    go_wp2_with fail;go_quiet (fail);go_wp2;go_ret;exact⟨rfl,AD l.i _⟩
 ·by_cases ZT:d.L=3
  ·have ZW:Hid (r=!iB n1 f1 d.e d.h d.q):=by show _=_;rw[ZR.i,eI ZV,eT ZT]
   clear ZR;rw[ZT] at h ⊢;go_enter func61,ntmps61;go_wp2_with fail;refine(fU o n0 y m n1 u f1 d.e _ hn1 (G.i.aa h.i ly) D.i).P ?_;rintro e j⟨i,rfl,hi,h1,h2,f⟩;have g:=kU D.i hi h1 h2;have g2:ZU j (T (B (A w)) 2 Z)=Q (Y m n1 u):=(f.O (p:=(T (B (A w)) 2 Z)) (by simp;omega)).k (by simp[go_sem]);have d4:ZU j (T (B (A w)+1) 4 Z)=Q (Y a0 d.h z):=(f.O (p:=(T (B (A w)+1) 4 Z)) (by simp)).k (by simp[go_sem]);have X:B (A w)+1<B (A j):=by have:=f.size;simp at this;omega
   have l:=ae (h.i.k (f.P h.i.size));clear f h1 h2 h;cases hq:aF (nm1 f1) n1 d.e with
   |false =>
    obtain rfl:r=ZH:=by rw[ZW.i];unfold iB;rw[lN hq];rfl
    clear g;go_wp2_with fail;go_quiet (fail);go_wp2;go_ret;exact⟨rfl,AD l.i _⟩
   |true =>
    rw[hq] at g;obtain⟨x,C⟩:i<n1/\((nm1 f1 i).toList == d.e.toList)=ZH:=by simpa using g.c
    have s:Hid (r=!cD (f1 i).q d.q (f1 i).h d.h):=by show _=_;rw[ZW.i];unfold iB;rw[ox D.i x C]
    obtain⟨b,off,rfl,t⟩:=G.i.resolve_left (by omega);obtain⟨e0,V,kc,e1,ZM⟩:=(t.aa l.i ly).2 i x;have Q1:=ae (show SlIns j V (f1 i).h (f1 i).q from ZM);have R:(i:Int)<n1:=by omega
    clear g C t ZW G ZM;have ZL:=ae (λq=>vQ V (f1 i).h kc (f1 i).q a0 d.h z d.q (j.drewN q) (ZP.i i x) aq (Q1.i.aa (AD br q) ly) ((HI.i.aa l.i ly).aa (AD (BS j) q) ly));generalize cD (f1 i).q d.q (f1 i).h d.h=c at s ZL;go_wp2_with fail;go_quiet ((go_at_call 97;exact Calls.quiet_of (ZL.i _)));have B2:=ae (AD l.i nq);go_wp2;go_ret;exact⟨by simp[s.i],B2.i⟩
  ·have ZW:Hid (r=hZ n0 f0 n1 f1 d.e):=by show _=_;rw[ZR.i,eI ZV,eI ZT]
   have hk1b:(d.L == 1)=ZA:=by simpa using ZV
   have hk3b:(d.L == 3)=ZA:=by simpa using ZT
   clear ZR;go_enter func61,ntmps61;go_wp2_with fail;refine(rC o n0 y f0 m n1 u f1 d.e _ hn0 hn1 (ZS.i.aa h.i ly) (G.i.aa h.i ly) H.i D.i).P ?_;rintro e j⟨rfl,f⟩;have l:=ae (h.i.k (f.P h.i.size));have s:Hid ((aF (nm0 f0) n0 d.e || aF (nm1 f1) n1 d.e)=r):=ZW.i.c;clear f;rw[s.i];go_wp2;go_ret;exact⟨rfl,l.i⟩
def FH {w:E}{b:Nat}{f g:Value}{t:TypeId}{z:Nat × Nat}(h:w.heap[b]?=Q (N #[f,g] t z)):ZU w (T b 0 Z)=Q f:=by simp[World.cell?,h]
def tX (G o n j_ b:Nat)(y:O_)(n0 C:Nat)(f0:Nat->Source)(x:O_)(n1 ZW:Nat)(f1:Nat->Target)(f:Nat->au)(w:E)(hn:(n:Int)<=400)(hn0:(n0:Int)<=1048576)(hn1:(n1:Int)<=1048576)(ZL:bc f n=ZH)(X:Qk w G o n f)(ro:Qx w y n0 f0)(ZN:Qq w x n1 f1)(sm:aK (nm0 f0) n0=ZH)(ph:aK (nm1 f1) n1=ZH)(ld:∀i,i<n->(f i).h<=1048576)(ex:∀i,i<n->(f i).f<=1048576)(n8:∀i,i<n1->aP (f1 i))(ZO:Tab2 w)(V:Pow w)(u:b<B (A w))
  (k0:ZU w (T b 0 Z)=Q (J I 2)) (k1:ZU w (T b 1 Z)=Q (.func (.func 61) #[] #[])) (k2:ZU w (T b 2 Z)=Q (J I 3)) (k3:ZU w (T b 3 Z)=Q (.func (.func 62) #[] #[])) (k4:ZU w (T b 4 Z)=Q (J I 4)) (k5:ZU w (T b 5 Z)=Q (.func (.func 63) #[] #[])) (k6:ZU w (T b 6 Z)=Q (J I 5)) (k7:ZU w (T b 7 Z)=Q (.func (.func 64) #[] #[])) :
  Qw Pg 60 #[ZJ #[Y (Q (T G o Z)) n j_,Y y n0 C,Y x n1 ZW],Y (Q (T b 0 Z)) 4 4] w λe w'=>e=ZI (.tuple #[J I (fi (dx n0 f0 n1 f1 f) n).1,J I (fi (dx n0 f0 n1 f1 f) n).2])/\Below (B (A w)) w w':=by
 obtain⟨R,hR⟩:∃R,R=fi (dx n0 f0 n1 f1 f) n:=⟨_,rfl⟩
 rw[<-hR];have HR:=ae hR;clear hR;obtain⟨WA,K⟩:∃W:E,w.alloc (N #[Y (Q (T G o Z)) n j_,Y y n0 C,Y x n1 ZW] 107)=W:=⟨_,rfl⟩
 obtain⟨A0,-,hz⟩:=nb1 K;have ZV:=ae K;clear K;have m0:ZU WA (T (B (A w)) 0 Z)=Q (Y (Q (T G o Z)) n j_):=by rw[<-ZV.i];simp
 have m1:ZU WA (T (B (A w)) 1 Z)=Q (Y y n0 C):=by rw[<-ZV.i];simp
 have m2:ZU WA (T (B (A w)) 2 Z)=Q (Y x n1 ZW):=by rw[<-ZV.i];simp
 have L:=ae X;have S:=ae ZL;have bt:=ae ro;have fd:=ae ZN;have aq:=ae sm;have mv:=ae ph;have Fm:=ae ld;have ur:=ae ex;have Hx:=ae n8;have n9:=ae ZO;have ZP:=ae V;have qr:=ZO.1;have H:=ae (And.intro k0 (And.intro k1 (And.intro k2 (And.intro k3 (And.intro k4 (And.intro k5 (And.intro k6 k7)))))));clear X ZL ro ZN sm ph ld ex n8 ZO V k0 k1 k2 k3 k4 k5 k6 k7;go_enter func60,ntmps60;go_wp2;go_step3;go_wp2;go_step3;go_wp2;rw[ZV.i];clear ZV;go_loopw [6,7,16] (λc6 c7 i wr=>∃k:Nat,k<=n/\c6=J I 0/\c7=J I 0/\i=J I k/\Hid (∀j,j<k->dx n0 f0 n1 f1 f j=0)/\Hid (Below (B (A w)+1) WA wr)) (λ_ _ i _=>n - (intOf i).toNat);case atStart=>exact⟨0,by omega,rfl,rfl,rfl,λj hj=>absurd hj (NE _),a8 _ _⟩
 case round =>
  obtain⟨k,hk,rfl,rfl,rfl,HZ,HB⟩:=hrel;have BW:=ae (A0.i.k (HB.i.P (by omega)));by_cases ZT:k<n
  ·obtain⟨p0,p1,p2,p3,⟨a0,s,p4,q4⟩,⟨a1,r,p5,q5⟩⟩:=(L.i.aa BW.i ly).2 k ZT;have la:=ae (Fz n0 f0 n1 f1 f k);obtain⟨ZS,ZR⟩:∃W:E,wr.alloc (N #[U (f k).e,J I (f k).L,J I (f k).M,U (f k).H,Y a0 (f k).h s,Y a1 (f k).f r] 62)=W:=⟨_,rfl⟩
   obtain⟨D1,-,GS⟩:=nb1 ZR;have l:=ae ZR;clear ZR;have B1:=ae (HB.i.alloc (by have:=HB.i.size;omega) (N #[U (f k).e,J I (f k).L,J I (f k).M,U (f k).H,Y a0 (f k).h s,Y a1 (f k).f r] 62));have QI:=ae (show SlIns wr a0 (f k).h (f k).q/\SlLink wr a1 (f k).f (f k).m from⟨q4,q5⟩);have QJ:=ae (And.intro (QI.i.1.aa D1.i ly) (QI.i.2.aa D1.i ly));have e0:ZU ZS (T (B (A wr)) 0 Z)=Q (U (f k).e):=by rw[<-l.i];simp
   have e1:ZU ZS (T (B (A wr)) 1 Z)=Q (J I (f k).L):=by rw[<-l.i];simp
   have e2:ZU ZS (T (B (A wr)) 2 Z)=Q (J I (f k).M):=by rw[<-l.i];simp
   have e3:ZU ZS (T (B (A wr)) 3 Z)=Q (U (f k).H):=by rw[<-l.i];simp
   have e4:ZU ZS (T (B (A wr)) 4 Z)=Q (Y a0 (f k).h s):=by rw[<-l.i];simp
   have e5:ZU ZS (T (B (A wr)) 5 Z)=Q (Y a1 (f k).f r):=by rw[<-l.i];simp
   have JH:B (A w)+1<=B (A wr):=by have:=HB.i.size;omega
   clear q4 q5;go_wp2;clear p0 p1 p2 p3 p4 p5 D1;rw[l.i] at B1 ⊢;clear l;generalize (B (A wr))=t at e0 e1 e2 e3 e4 e5 GS JH ⊢;go_loopw [6,7,23] (λc6 c7 i w2=>∃j:Nat,j<=4/\c6=J I 0/\c7=J I 0/\i=J I j/\Hid (1<=j->gD n0 f0 n1 f1 (f k)=ZA)/\Hid (2<=j->hasB n0 f0 n1 f1 (f k)=ZA)/\Hid (3<=j->jS f k=ZA)/\Hid (4<=j->py f k=ZA)/\Hid (Below (t+1) ZS w2)) (λ_ _ i _=>4 - (intOf i).toNat);case atStart=>exact⟨0,by omega,rfl,rfl,rfl,(λh=>by omega),(λh=>by omega),(λh=>by omega),(λh=>by omega),a8 _ _⟩
   case round =>
    obtain⟨j,hj,rfl,rfl,rfl,ZM,N1,N2,N3,g⟩:=hrel;have P:=ae (B1.i.k (g.i.P (by omega)));have D:=ae (A0.i.k (P.i.P (by omega)));have DQ:=(D.i.O (p:=(T b 0 Z)) u).k H.i.1;have JM:=(D.i.O (p:=(T b 1 Z)) u).k H.i.2.1;have Id:=(D.i.O (p:=(T b 2 Z)) u).k H.i.2.2.1;have JG:=(D.i.O (p:=(T b 3 Z)) u).k H.i.2.2.2.1;have JK:=(D.i.O (p:=(T b 4 Z)) u).k H.i.2.2.2.2.1;have JN:=(D.i.O (p:=(T b 5 Z)) u).k H.i.2.2.2.2.2.1;have Fd:=(D.i.O (p:=(T b 6 Z)) u).k H.i.2.2.2.2.2.2.1;have th:=(D.i.O (p:=(T b 7 Z)) u).k H.i.2.2.2.2.2.2.2;have DE:=(g.i.O (p:=(T t 0 Z)) (eL t)).k e0;have JJ:=(g.i.O (p:=(T t 1 Z)) (eL t)).k e1;have Fk:=(g.i.O (p:=(T t 2 Z)) (eL t)).k e2;have JI:=(g.i.O (p:=(T t 3 Z)) (eL t)).k e3;have JL:=(g.i.O (p:=(T t 4 Z)) (eL t)).k e4;have Bk:=(g.i.O (p:=(T t 5 Z)) (eL t)).k e5;have g0:=(P.i.O (p:=(T (B (A w)) 0 Z)) (eL (B (A w)))).k m0;have g1:=(P.i.O (p:=(T (B (A w)) 1 Z)) (eL (B (A w)))).k m1;have g2:=(P.i.O (p:=(T (B (A w)) 2 Z)) (eL (B (A w)))).k m2;have ZN:t<B (A wr):=by have:=g.i.size;omega
    have hs2:B (A w)<B (A wr):=by omega
    have hs3:b<B (A wr):=by omega
    rcases(show(True/\j=0)\/(True/\j=1)\/(True/\j=2)\/(True/\j=3)\/j=4 by rcases(show j=0\/j=1\/j=2\/j=3\/j=4 by omega) with h|h|h|h|h<;>simp[h]) with⟨M0,rfl⟩|⟨M1,rfl⟩|⟨M2,rfl⟩|⟨M3,rfl⟩|rfl;rotate_left 4
    ·have q:Hid (dx n0 f0 n1 f1 f k=0):=by show _=_;rw[la.i,eI (by rw[ZM.i (by omega)];simp),eI (by rw[N1.i (by omega)];simp),eI (by rw[N2.i (by omega)];simp),eI (by rw[N3.i (by omega)];simp)]
     go_wp2
     exact⟨⟨k+1,by omega,rfl,rfl,by go_num,λj hj=>by
      by_cases e:j=k;{subst e;exact q.i}
      ·exact HZ.i j (by omega),P.i⟩,by simp[intOf];omega⟩
    all_goals
     have At:=λ(w:E) (a:Addr) (m:Mode) (F:Nat)=>run_store Pg w a (.func (.func F) #[] #[]) m rfl;go_wp2_with fail;clear DE JJ Fk JI JL Bk g0 g1 g2 DQ JM Id JG JK JN Fd th At;generalize hW:World.alloc wr _=WX;obtain⟨DC,kc,hzx⟩:=nb1 hW;clear hW;have z:=ae (D.i.k (DC.i.P D.i.size));have O:=ae (And.intro ((QJ.i.1.aa g.i (by omega)).aa DC.i ly) ((QJ.i.2.aa g.i (by omega)).aa DC.i ly));have BC:=ae (g.i.k (DC.i.P (by have:=g.i.size;omega)));first
      |(guard_hyp M0;refine(FG G o n j_ y n0 C f0 x n1 ZW f1 (f k) a0 s a1 r _ hn0 hn1 (bt.i.aa z.i ly) (fd.i.aa z.i ly) aq.i mv.i O.i.1 (Fm.i k ZT) Hx.i).P ?_)
      |(guard_hyp M1;refine(zn G o n j_ y n0 C f0 x n1 ZW f1 (f k) a0 s a1 r _ hn0 hn1 (bt.i.aa z.i ly) (fd.i.aa z.i ly) aq.i mv.i O.i.2 (ur.i k ZT)).P ?_)
      |(guard_hyp M2;refine(xq y n0 C x n1 ZW G o n j_ f k a0 s a1 r _ S.i ZT (L.i.aa z.i ly) O.i.1 O.i.2 (n9.i.aa z.i qr) (ZP.i.aa z.i ly)).P ?_)
      |(guard_hyp M3;refine(BP y n0 C x n1 ZW G o n j_ f k a0 s a1 r _ S.i ZT (L.i.aa z.i ly) O.i.1 O.i.2 (n9.i.aa z.i qr) (ZP.i.aa z.i ly)).P ?_)
     rintro e w3⟨rfl,hB⟩;have W3:=ae (z.i.k (hB.P z.i.size));have C3:=ae (BC.i.k (hB.P (by have:=BC.i.size;omega)));have cz:=FH ((hB.p _ (by omega)).k kc.i);clear hB kc;first
      |(guard_hyp M0;cases hb:gD n0 f0 n1 f1 (f k))
      |(guard_hyp M1;cases hb:hasB n0 f0 n1 f1 (f k))
      |(guard_hyp M2;cases hb:jS f k)
      |(guard_hyp M3;cases hb:py f k)
     ·have M:=ae hb
      go_wp2;first
       |(guard_hyp M0;exact⟨⟨1,by omega,rfl,rfl,by go_num,(λ_=>M.i),(λh=>by omega),(λh=>by omega),(λh=>by omega),C3.i⟩,by simp[intOf]⟩)
       |(guard_hyp M1;exact⟨⟨2,by omega,rfl,rfl,by go_num,(λ_=>ZM.i (by omega)),(λ_=>M.i),(λh=>by omega),(λh=>by omega),C3.i⟩,by simp[intOf]⟩)
       |(guard_hyp M2;exact⟨⟨3,by omega,rfl,rfl,by go_num,(λ_=>ZM.i (by omega)),(λ_=>N1.i (by omega)),(λ_=>M.i),(λh=>by omega),C3.i⟩,by simp[intOf]⟩)
       |(guard_hyp M3;exact⟨⟨4,by omega,rfl,rfl,by go_num,(λ_=>ZM.i (by omega)),(λ_=>N1.i (by omega)),(λ_=>N2.i (by omega)),(λ_=>M.i),C3.i⟩,by simp[intOf]⟩)
     ·have q:=la.i
      (try rw[ZM.i (by omega)] at q)
      (try rw[N1.i (by omega)] at q)
      (try rw[N2.i (by omega)] at q)
      rw[hb] at q;simp at q;have ZQ:=HR.i;rw[ju ZT HZ.i (by rw[q];decide),q] at ZQ;replace ZQ:=ae ZQ;clear q;go_wp2;try rw[XO]
      go_ret2;exact⟨by simp[ZQ.i],W3.i⟩
  ·obtain rfl:k=n:=by omega
   have ZQ:Hid (R=(0,0)):=by show _=_;rw[HR.i];exact nW HZ.i
   go_wp2;try rw[XO]
   go_ret2;exact⟨by simp[ZQ.i],BW.i⟩
