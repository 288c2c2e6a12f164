import Derived.Test.YtcnilonhfpimnaaGreatDoorFZ
import Derived.Laws.StructEq
set_option linter.all false
set_option maxRecDepth 100000
set_option maxHeartbeats 8000000
open Go renaming Addr.mk->T,Value.slice->Z,Value.string->U,Value.int->J,Value.bool->ZF,Value.agg->ZJ,Obj.cells->N,IntKind.i64->I,World->E,Ending.returned->ZI,World.heap->A,World.cell?->ZU,Proofs.Tryz.prog->Pg
open Option renaming none->Y,some->Q
open Bool renaming false->ZA,true->ZH
open Array renaming size->B
namespace Go.Proofs.YtcnilonhfpimnaaGreatDoor.Vp
open Tryz RowKit
def vN (x y:Ins)(w:E):(binOp .neq 102 (ZJ #[J I x.op,U x.s,J I x.n]) (ZJ #[J I y.op,U y.s,J I y.n])).run Pg w=.ok (ZF (!kE x y)) w:=by
 have b:Pg.underlying 102=Q (.struct (Pg.fieldsOf 102)):=by kernel_rfl
 have f:Pg.stoodInHeld 102=ZA:=by kernel_rfl
 rw[run_neq_struct,show(10000:Nat)=9999+1 from rfl,run_equalIn_agg w 9999 102 _ _ b f];simp only[Program.fieldsOf,underlying102];go_simp;unfold kE;by_cases h1:x.op=y.op<;>by_cases h2:x.s.toList=y.s.toList<;>by_cases g:x.n=y.n<;>simp[h1,h2,g]
def vO (b off n j_:Nat)(f:Nat->Ins)(u j r:Nat)(g:Nat->Ins)(w:E)(hn:n<=1048576)(y:Qj w b off n f)(t:Qj w u j n g):Calls Pg 97 #[Z (Q (T b off Y)) n j_,Z (Q (T u j Y)) n r] w λe ZT=>e=ZI (ZF (cO f g n))/\∃m,ZT=w.drewN m:=by
 have C:=ae y;have G:=ae t;clear y t;go_enter func97,ntmps97;go_wp2;go_loopw [13] (λi wr=>∃k:Nat,k<=n/\i=J I k/\Hid (cO f g k=ZH)/\Hid (∃q,wr=w.drewN q)) (λi _=>n - (intOf i).toNat);case atStart=>exact⟨0,by omega,rfl,rfl,0,rfl⟩
 case round =>
  obtain⟨k,hk,rfl,x,o⟩:=hrel;have ZW:Hid (Below (B (A w)) w wr):=by obtain⟨q,s⟩:=o.i;rw[s];exact AD br q
  by_cases h:k<n
  ·obtain⟨c0,c1,c2⟩:=(C.i.aa ZW.i ly).2 k h;obtain⟨ZV,H,D⟩:=(G.i.aa ZW.i ly).2 k h;have hlt2:(k:Int)<n:=by omega
   have z:=vN (f k) (g k);go_wp2_with fail;go_quiet (fail);have l:Hid (∃q,wr.drewN nq=w.drewN q):=by obtain⟨q,s⟩:=o.i;exact⟨q+nq,by rw[s,World.drewN_drewN]⟩
   clear c0 c1 c2 ZV H D z;generalize wr.drewN nq=W at l ⊢;cases hb:kE (f k) (g k) with
   |true =>have p:=ae hb;clear hb;go_wp2;exact⟨⟨k+1,by omega,by go_num,by show cO f g (k+1)=ZH;rw[cO,x.i,p.i];rfl,l.i⟩,by simp[intOf];omega⟩
   |false =>have p:=ae hb;clear hb;go_wp2;go_ret;exact⟨bv (kF h p.i).c,l.i⟩
  ·obtain rfl:k=n:=by omega
   go_wp2;go_ret;exact⟨bv x.i.c,o.i⟩
def nZ (a:O_)(j_:Nat)(f:O_)(b:Nat)(w:E):Calls Pg 97 #[Z a 0 j_,Z f 0 b] w λe g=>e=ZI (ZF ZH)/\g=w:=by
 go_enter func97,ntmps97;go_wp2;go_loop [13] (λi=>i=J I 0) (λ_=>0);case atStart=>rfl
 case round =>subst hrel;go_wp2;go_ret;exact⟨rfl,rfl⟩
def vP (a:O_)(n j_:Nat)(f:O_)(m b:Nat)(w:E)(h:(n:Int)≠m):Calls Pg 97 #[Z a n j_,Z f m b] w λe g=>e=ZI (ZF ZA)/\g=w:=by
 have h2:((n:Int) == (m:Int))=ZA:=by simpa using h
 go_enter func97,ntmps97;go_wp2;go_ret;exact⟨rfl,rfl⟩
def vQ (a:O_)(n j_:Nat)(f:Nat->Ins)(j:O_)(m i:Nat)(g:Nat->Ins)(w:E)(hn:n<=1048576)(hm:m<=1048576)(o:SlIns w a n f)(t:SlIns w j m g):Calls Pg 97 #[Z a n j_,Z j m i] w λe l=>e=ZI (ZF (cD f g n m))/\∃m,l=w.drewN m:=by
 by_cases h:n=m
 ·subst h;have s:cD f g n n=cO f g n:=by simp[cD]
  rw[s];rcases o with rfl|⟨b,off,rfl,o⟩
  {exact(nZ a j_ j i w).P λe l ⟨p,q⟩=>⟨p,0,by rw[q];rfl⟩}
  ·rcases t with rfl|⟨u,r,rfl,t⟩
   {exact(nZ _ j_ j i w).P λe l ⟨p,q⟩=>⟨p,0,by rw[q];rfl⟩};{exact vO b off n j_ f u r i g w hn o t}
 ·have s:cD f g n m=ZA:=by simp[cD,h]
  rw[s];exact(vP a n j_ j m i w (by omega)).P λe l ⟨p,q⟩=>⟨p,0,by rw[q];rfl⟩
def Ah (b off n j_:Nat)(f:Nat->Ins)(s h l:Nat)(g:Nat->Ins)(w:E)(hn:n<=1048576)(ZV:Qj w b off n f)(x:Qj w s h n g):Calls Pg 66 #[ZJ #[Z (Q (T b off Y)) n j_],ZJ #[Z (Q (T s h Y)) n l]] w λe K=>e=ZI (ZF (cO f g n))/\Below (B (A w)) w K:=by
 obtain⟨W,q⟩:∃W:E,(w.alloc (N #[Z (Q (T b off Y)) n j_] 37)).alloc (N #[Z (Q (T s h Y)) n l] 37)=W:=⟨_,rfl⟩
 obtain⟨D,-,-,-⟩:=nb2 q;have j:=ae q;clear q;have ZR:ZU W (T (B (A w)) 0 Y)=Q (Z (Q (T b off Y)) n j_):=by rw[<-j.i];simp[go_sem]
 have G:ZU W (T (B (A w)+1) 0 Y)=Q (Z (Q (T s h Y)) n l):=by rw[<-j.i];simp[go_sem]
 have hz:B (A w)+1<B (A W):=by rw[<-j.i];simp
 have H:=ae ZV;have L:=ae x;clear ZV x;go_enter func66,ntmps66;go_wp2;rw[j.i];clear j;go_loopw [5] (λi wr=>∃k:Nat,k<=n/\i=J I k/\Hid (cO f g k=ZH)/\Hid (Below (B (A W)) W wr)) (λi _=>n - (intOf i).toNat);case atStart=>exact⟨0,by omega,rfl,rfl,a8 _ _⟩
 case round =>
  obtain⟨k,hk,rfl,ZW,o⟩:=hrel;have r:=ae (D.i.k (o.i.P D.i.size));have O:=(o.i.O (p:=(T (B (A w)) 0 Y)) (by show (B (A w))<_;omega)).k ZR;have M:=(o.i.O (p:=(T (B (A w)+1) 0 Y)) hz).k G;have y:B (A w)+1<B (A wr):=lj hz o.i.size;by_cases m:k<n
  ·obtain⟨c0,c1,c2⟩:=(H.i.aa r.i ly).2 k m;obtain⟨ZT,ZQ,ZS⟩:=(L.i.aa r.i ly).2 k m;have hlt2:(k:Int)<n:=by omega
   have C:=vN (f k) (g k);go_wp2_with fail;go_quiet (fail);have u:=ae (AD o.i nq);have z:=ae (AD r.i nq);clear c0 c1 c2 ZT ZQ ZS C O M y;generalize wr.drewN nq=W' at u z ⊢;cases hb:kE (f k) (g k) with
   |true =>have t:=ae hb;clear hb;go_wp2;exact⟨⟨k+1,by omega,by go_num,by show cO f g (k+1)=ZH;rw[cO,ZW.i,t.i];rfl,u.i⟩,by simp[intOf];omega⟩
   |false =>have t:=ae hb;clear hb;go_wp2;go_ret;exact⟨bv (kF m t.i).c,z.i⟩
  ·obtain rfl:k=n:=by omega
   go_wp2;go_ret;exact⟨bv ZW.i.c,r.i⟩
def qM (a:O_)(j_:Nat)(f:O_)(b:Nat)(w:E):Calls Pg 66 #[ZJ #[Z a 0 j_],ZJ #[Z f 0 b]] w λe h=>e=ZI (ZF ZH)/\Below (B (A w)) w h:=by
 have g:=ae (((BS w).alloc ly (N #[Z a 0 j_] 37)).alloc (by simp) (N #[Z f 0 b] 37));go_enter func66,ntmps66;go_wp2;go_loop [5] (λi=>i=J I 0) (λ_=>0);case atStart=>rfl
 case round =>subst hrel;go_wp2;go_ret;exact⟨rfl,g.i⟩
def Ai (a:O_)(n j_:Nat)(f:O_)(m b:Nat)(w:E)(h:(n:Int)≠m):Calls Pg 66 #[ZJ #[Z a n j_],ZJ #[Z f m b]] w λe i=>e=ZI (ZF ZA)/\Below (B (A w)) w i:=by
 have g:=ae (((BS w).alloc ly (N #[Z a n j_] 37)).alloc (by simp) (N #[Z f m b] 37));have h2:((n:Int) == (m:Int))=ZA:=by simpa using h
 go_enter func66,ntmps66;go_wp2;go_ret;exact⟨rfl,g.i⟩
def Aj (a:O_)(n j_:Nat)(f:Nat->Ins)(j:O_)(m i:Nat)(g:Nat->Ins)(w:E)(hn:n<=1048576)(hm:m<=1048576)(l:SlIns w a n f)(q:SlIns w j m g):Calls Pg 66 #[ZJ #[Z a n j_],ZJ #[Z j m i]] w λe s=>e=ZI (ZF (cD f g n m))/\Below (B (A w)) w s:=by
 by_cases h:n=m
 ·subst h;have p:cD f g n n=cO f g n:=by simp[cD]
  rw[p];rcases l with rfl|⟨b,off,rfl,l⟩
  {exact qM a j_ j i w}
  ·rcases q with rfl|⟨r,o,rfl,q⟩
   {exact qM _ j_ j i w};{exact Ah b off n j_ f r o i g w hn l q}
 ·have p:cD f g n m=ZA:=by simp[cD,h]
  rw[p];exact Ai a n j_ j m i w (by omega)
def Cx (d:au)(a0:O_)(x:Nat)(a1:O_)(G:Nat)(o:O_)(n0 ZW:Nat)(f0:Nat->Source)(q:O_)(n1 z:Nat)(f1:Nat->Target)(w:E)(hn0:(n0:Int)<=1048576)(hn1:(n1:Int)<=1048576)(ZL:Qy w o n0 f0)(S:Qx w q n1 f1)(X:aK (nm0 f0) n0=ZH)(ZM:aK (nm1 f1) n1=ZH)(hI:SlIns w a0 d.h d.q)(ld:d.h<=1048576)(ZN:∀i,i<n1->aP (f1 i)):Calls Pg 26 #[ZJ #[U d.e,J I d.L,J I d.M,U d.H,Z a0 d.h x,Z a1 d.f G],ZJ #[Z o n0 ZW,Z q n1 z]] w λe w'=>e=ZI (ZF (!gD n0 f0 n1 f1 d))/\Below (B (A w)) w w':=by
 obtain⟨r,hr⟩:∃r,r=gD n0 f0 n1 f1 d:=⟨_,rfl⟩
 rw[<-hr];have ZT:=ae (show r=if d.L=1 then !jd n0 f0 d.e d.H else if d.L=3 then !iB n1 f1 d.e d.h d.q else hZ n0 f0 n1 f1 d.e from hr);clear hr;obtain⟨W,ZQ⟩:∃W:E,(w.alloc (N #[U d.e,J I d.L,J I d.M,U d.H,Z a0 d.h x,Z a1 d.f G] 62)).alloc (N #[Z o n0 ZW,Z q n1 z] 29)=W:=⟨_,rfl⟩
 obtain⟨O,-,-,-⟩:=nb2 ZQ;have g:=ae ZQ;clear ZQ;have M:=ae ZL;have K:=ae S;have la:=ae X;have fd:=ae ZM;have HI:=ae hI;have mv:=ae ZN;clear ZL S X ZM hI ZN;have c0:ZU W (T (B (A w)) 0 Y)=Q (U d.e):=by rw[<-g.i];simp[go_sem]
 have c1:ZU W (T (B (A w)) 1 Y)=Q (J I d.L):=by rw[<-g.i];simp[go_sem]
 have c3:ZU W (T (B (A w)) 3 Y)=Q (U d.H):=by rw[<-g.i];simp[go_sem]
 have c4:ZU W (T (B (A w)) 4 Y)=Q (Z a0 d.h x):=by rw[<-g.i];simp[go_sem]
 have c5:ZU W (T (B (A w)+1) 0 Y)=Q (Z o n0 ZW):=by rw[<-g.i];simp[go_sem]
 have c6:ZU W (T (B (A w)+1) 1 Y)=Q (Z q n1 z):=by rw[<-g.i];simp[go_sem]
 have hz:B (A w)+1<B (A W):=by rw[<-g.i];simp
 go_enter func26,ntmps26;go_wp2_with fail;rw[g.i];clear g;refine(kW o n0 ZW q n1 z f0 d.e _ hn0 (M.i.aa O.i ly)).P ?_;rintro e w1⟨s,rfl,V,f⟩;have ZS:=ae V;have P:=ae (O.i.k (f.P O.i.size));have m:B (A w)<B (A W):=by omega
 have x0:=(f.O (p:=(T (B (A w)) 0 Y)) m).k c0;have x1:=(f.O (p:=(T (B (A w)) 1 Y)) m).k c1;have x3:=(f.O (p:=(T (B (A w)) 3 Y)) m).k c3;have x4:=(f.O (p:=(T (B (A w)) 4 Y)) m).k c4;have x5:=(f.O (p:=(T (B (A w)+1) 0 Y)) hz).k c5;have x6:=(f.O (p:=(T (B (A w)+1) 1 Y)) hz).k c6;have D:B (A w)+1<B (A w1):=lj hz f.size;clear f V O c0 c1 c3 c4 c5 c6 hz m;go_wp2_with fail;refine(kV o n0 ZW q n1 z f1 d.e _ hn1 (K.i.aa P.i ly)).P ?_;rintro e ZO⟨t,rfl,R,f⟩;have L:=ae R;have j:=ae (P.i.k (f.P P.i.size));have m:B (A w)<B (A w1):=by omega
 have y1:=(f.O (p:=(T (B (A w)) 1 Y)) m).k x1;have y3:=(f.O (p:=(T (B (A w)) 3 Y)) m).k x3;have y4:=(f.O (p:=(T (B (A w)) 4 Y)) m).k x4;have y5:=(f.O (p:=(T (B (A w)+1) 0 Y)) D).k x5;have y6:=(f.O (p:=(T (B (A w)+1) 1 Y)) D).k x6;have hz2:B (A w)+1<B (A ZO):=lj D f.size;clear f R P x0 x1 x3 x4 x5 x6 D m;by_cases y:d.L=1
 ·have n:Hid (r=!jd n0 f0 d.e d.H):=by show _=_;rw[ZT.i,eT y]
  rw[y] at y1;clear ZT;rcases ZS.i with⟨rfl,H⟩|⟨i,rfl,u,ZV⟩
  ·obtain rfl:r=ZH:=by rw[n.i];unfold jd;rw[lN H];rfl
   clear ZS H;have hg:decide ((0:Int)<=-1)=ZA:=rfl;go_wp2_with fail;go_quiet (fail);go_wp2;go_ret;exact⟨rfl,AD j.i _⟩
  ·have h:Hid (r=!((f0 i).H.toList == d.H.toList)):=by show _=_;rw[n.i];unfold jd;rw[ox la.i u ZV]
   obtain⟨b,off,rfl,l⟩:=M.i.resolve_left (by omega);obtain⟨e0,e1⟩:=(l.aa j.i ly).2 i u;have aq:(i:Int)<n0:=by omega
   have bt:decide ((0:Int)<=i)=ZH:=QD (by omega);clear ZS ZV l n M;cases ZR:((f0 i).H.toList == d.H.toList) with
   |true =>
    obtain rfl:r=ZA:=by rw[h.i,ZR];rfl
    go_wp2_with fail;go_quiet (fail);go_wp2;go_ret;exact⟨rfl,AD j.i _⟩
   |false =>
    obtain rfl:r=ZH:=by rw[h.i,ZR];rfl
    go_wp2_with fail;go_quiet (fail);go_wp2;go_ret;exact⟨rfl,AD j.i _⟩
 ·by_cases C:d.L=3
  ·have n:Hid (r=!iB n1 f1 d.e d.h d.q):=by show _=_;rw[ZT.i,eI y,eT C]
   rw[C] at y1;clear ZT;rcases L.i with⟨rfl,H⟩|⟨i,rfl,u,ZV⟩
   ·obtain rfl:r=ZH:=by rw[n.i];unfold iB;rw[lN H];rfl
    clear L H;have hg:decide ((0:Int)<=-1)=ZA:=rfl;go_wp2_with fail;go_quiet (fail);go_wp2;go_ret;exact⟨rfl,AD j.i _⟩
   ·have h:Hid (r=!cD (f1 i).q d.q (f1 i).h d.h):=by show _=_;rw[n.i];unfold iB;rw[ox fd.i u ZV]
    obtain⟨b,off,rfl,l⟩:=K.i.resolve_left (by omega);obtain⟨e0,ka,kc,e1,q1⟩:=(l.aa j.i ly).2 i u;have Q1:=ae (show SlIns ZO ka (f1 i).h (f1 i).q from q1);have aq:(i:Int)<n1:=by omega
    have bt:decide ((0:Int)<=i)=ZH:=QD (by omega);clear L ZV l n K q1;have EQ:=ae (λW (f:Below (B (A ZO)) ZO W)=>Aj ka (f1 i).h kc (f1 i).q a0 d.h x d.q W (mv.i i u) ld (Q1.i.aa f ly) ((HI.i.aa j.i ly).aa f ly));generalize cD (f1 i).q d.q (f1 i).h d.h=c at h EQ;go_wp2_with fail
    go_region_with (first
     |(go_at_call 66;refine(EQ.i _ ?_).P ?_;(first|exact a8 _ _|exact br.drew);rintro e w3⟨rfl,f⟩))
    all_goals
     go_simp;go_wp2;go_ret;exact⟨by simp[h.i],j.i.k (Below.mono ⟨f.os,f.tape,f.output,f.size,f.p⟩ j.i.size)⟩
  ·have n:Hid (r=hZ n0 f0 n1 f1 d.e):=by show _=_;rw[ZT.i,eI y,eI C]
   have hk1b:(d.L == 1)=ZA:=by simpa using y
   have hk3b:(d.L == 3)=ZA:=by simpa using C
   have h:Hid (r=(decide (0<=s) || decide (0<=t))):=by show _=_;rw[n.i];unfold hZ;rw[ZS.i.has,L.i.has]
   clear ZT n ZS L;by_cases hs:0<=s
   ·obtain rfl:r=ZH:=by rw[h.i];simp[hs]
    have ex:¬ s<0:=by omega
    go_wp2;go_ret;exact⟨rfl,j.i⟩
   ·have ex:s<0:=by omega
    by_cases ZR:0<=t
    ·obtain rfl:r=ZH:=by rw[h.i];simp[ZR]
     have ZP:¬ t<0:=by omega
     go_wp2;go_ret;exact⟨by simp[ZP],j.i⟩
    ·obtain rfl:r=ZA:=by rw[h.i];simp[hs,ZR]
     have ZP:t<0:=by omega
     go_wp2;go_ret;exact⟨rfl,j.i⟩
def FG (ZN L n j_:Nat)(m:O_)(n0 x:Nat)(f0:Nat->Source)(s:O_)(n1 u:Nat)(f1:Nat->Target)(d:au)(a0:O_)(z:Nat)(a1:O_)(K:Nat)(w:E)(hn0:(n0:Int)<=1048576)(hn1:(n1:Int)<=1048576)(ZO:Qy w m n0 f0)(M:Qx w s n1 f1)(ZQ:aK (nm0 f0) n0=ZH)(P:aK (nm1 f1) n1=ZH)(ZM:SlIns w a0 d.h d.q)(V:d.h<=1048576)(O:∀i,i<n1->aP (f1 i)):Calls Pg 61 #[ZJ #[Z (Q (T ZN L Y)) n j_,Z m n0 x,Z s n1 u],ZJ #[U d.e,J I d.L,J I d.M,U d.H,Z a0 d.h z,Z a1 d.f K]] w λe w'=>e=ZI (ZF (gD n0 f0 n1 f1 d))/\Below (B (A w)) w w':=by
 obtain⟨r,R⟩:∃r,r=gD n0 f0 n1 f1 d:=⟨_,rfl⟩
 rw[<-R];have ZR:=ae (show r=if d.L=1 then !jd n0 f0 d.e d.H else if d.L=3 then !iB n1 f1 d.e d.h d.q else hZ n0 f0 n1 f1 d.e from R);clear R;have h:=ae (((BS w).alloc ly (N #[Z (Q (T ZN L Y)) n j_,Z m n0 x,Z s n1 u] 107)).alloc (by simp) (N #[U d.e,J I d.L,J I d.M,U d.H,Z a0 d.h z,Z a1 d.f K] 62));have H:=ae ZO;have G:=ae M;have ZT:=ae ZQ;have D:=ae P;have HI:=ae ZM;have X:=ae O;clear ZO M ZQ P ZM O;by_cases C:d.L=1
 ·have ZW:Hid (r=!jd n0 f0 d.e d.H):=by show _=_;rw[ZR.i,eT C]
  clear ZR;rw[C] at h ⊢;go_enter func61,ntmps61;go_wp2_with fail;refine(fe m n0 x s n1 u f0 d.e _ hn0 (H.i.aa h.i ly) ZT.i).P ?_;rintro e j⟨i,rfl,hi,h1,h2,f⟩;have g:=kU ZT.i hi h1 h2;have g1:ZU j (T (B (A w)) 1 Y)=Q (Z m n0 x):=(f.O (p:=(T (B (A w)) 1 Y)) (by simp;omega)).k (by simp[go_sem]);have d3:ZU j (T (B (A w)+1) 3 Y)=Q (U d.H):=(f.O (p:=(T (B (A w)+1) 3 Y)) (by simp)).k (by simp[go_sem]);have ZL:B (A w)+1<B (A j):=by have:=f.size;simp at this;omega
  have l:=ae (h.i.k (f.P h.i.size));clear f h1 h2 h;cases hq:aF (nm0 f0) n0 d.e with
  |false =>
   obtain rfl:r=ZH:=by rw[ZW.i];unfold jd;rw[lN hq];rfl
   clear g;go_wp2_with fail;go_quiet (fail);go_wp2;go_ret;exact⟨rfl,AD l.i _⟩
  |true =>
   rw[hq] at g;obtain⟨y,ZV⟩:i<n0/\((nm0 f0 i).toList == d.e.toList)=ZH:=by simpa using g.c
   have t:Hid (r=!((f0 i).H.toList == d.H.toList)):=by show _=_;rw[ZW.i];unfold jd;rw[ox ZT.i y ZV]
   obtain⟨b,off,rfl,o⟩:=H.i.resolve_left (by omega);obtain⟨e0,e1⟩:=(o.aa l.i ly).2 i y;have S:(i:Int)<n0:=by omega
   clear g ZV o ZW H;cases ht:((f0 i).H.toList == d.H.toList) with
   |true =>
    obtain rfl:r=ZA:=by rw[t.i,ht];rfl
    go_wp2_with fail;go_quiet (fail);go_wp2;go_ret;exact⟨rfl,AD l.i _⟩
   |false =>
    obtain rfl:r=ZH:=by rw[t.i,ht];rfl
    go_wp2_with fail;go_quiet (fail);go_wp2;go_ret;exact⟨rfl,AD l.i _⟩
 ·by_cases ZS:d.L=3
  ·have ZW:Hid (r=!iB n1 f1 d.e d.h d.q):=by show _=_;rw[ZR.i,eI C,eT ZS]
   clear ZR;rw[ZS] at h ⊢;go_enter func61,ntmps61;go_wp2_with fail;refine(fU m n0 x s n1 u f1 d.e _ hn1 (G.i.aa h.i ly) D.i).P ?_;rintro e j⟨i,rfl,hi,h1,h2,f⟩;have g:=kU D.i hi h1 h2;have g2:ZU j (T (B (A w)) 2 Y)=Q (Z s n1 u):=(f.O (p:=(T (B (A w)) 2 Y)) (by simp;omega)).k (by simp[go_sem]);have d4:ZU j (T (B (A w)+1) 4 Y)=Q (Z a0 d.h z):=(f.O (p:=(T (B (A w)+1) 4 Y)) (by simp)).k (by simp[go_sem]);have ZL:B (A w)+1<B (A j):=by have:=f.size;simp at this;omega
   have l:=ae (h.i.k (f.P h.i.size));clear f h1 h2 h;cases hq:aF (nm1 f1) n1 d.e with
   |false =>
    obtain rfl:r=ZH:=by rw[ZW.i];unfold iB;rw[lN hq];rfl
    clear g;go_wp2_with fail;go_quiet (fail);go_wp2;go_ret;exact⟨rfl,AD l.i _⟩
   |true =>
    rw[hq] at g;obtain⟨y,ZV⟩:i<n1/\((nm1 f1 i).toList == d.e.toList)=ZH:=by simpa using g.c
    have t:Hid (r=!cD (f1 i).q d.q (f1 i).h d.h):=by show _=_;rw[ZW.i];unfold iB;rw[ox D.i y ZV]
    obtain⟨b,off,rfl,o⟩:=G.i.resolve_left (by omega);obtain⟨e0,ZP,kc,e1,q1⟩:=(o.aa l.i ly).2 i y;have Q1:=ae (show SlIns j ZP (f1 i).h (f1 i).q from q1);have S:(i:Int)<n1:=by omega
    clear g ZV o ZW G q1;have W:=ae (λq=>vQ ZP (f1 i).h kc (f1 i).q a0 d.h z d.q (j.drewN q) (X.i i y) V (Q1.i.aa (AD br q) ly) ((HI.i.aa l.i ly).aa (AD (BS j) q) ly));generalize cD (f1 i).q d.q (f1 i).h d.h=c at t W;go_wp2_with fail;go_quiet ((go_at_call 97;exact Calls.quiet_of (W.i _)));have B2:=ae (AD l.i nq);go_wp2;go_ret;exact⟨by simp[t.i],B2.i⟩
  ·have ZW:Hid (r=hZ n0 f0 n1 f1 d.e):=by show _=_;rw[ZR.i,eI C,eI ZS]
   have hk1b:(d.L == 1)=ZA:=by simpa using C
   have hk3b:(d.L == 3)=ZA:=by simpa using ZS
   clear ZR;go_enter func61,ntmps61;go_wp2_with fail;refine(rC m n0 x f0 s n1 u f1 d.e _ hn0 hn1 (H.i.aa h.i ly) (G.i.aa h.i ly) ZT.i D.i).P ?_;rintro e j⟨rfl,f⟩;have l:=ae (h.i.k (f.P h.i.size));have t:Hid ((aF (nm0 f0) n0 d.e || aF (nm1 f1) n1 d.e)=r):=ZW.i.c;clear f;rw[t.i];go_wp2;go_ret;exact⟨rfl,l.i⟩
def FH {w:E}{b:Nat}{f g:Value}{t:TypeId}{z:Nat × Nat}(h:w.heap[b]?=Q (N #[f,g] t z)):ZU w (T b 0 Y)=Q f:=by simp[World.cell?,h]
def tX (H l n j_ b:Nat)(u:O_)(n0 C:Nat)(f0:Nat->Source)(y:O_)(n1 ZV:Nat)(f1:Nat->Target)(f:Nat->au)(w:E)(hn:(n:Int)<=400)(hn0:(n0:Int)<=1048576)(hn1:(n1:Int)<=1048576)(X:bc f n=ZH)(ZP:Qv w H l n f)(ro:Qy w u n0 f0)(P:Qx w y n1 f1)(fd:aK (nm0 f0) n0=ZH)(la:aK (nm1 f1) n1=ZH)(qr:∀i,i<n->(f i).h<=1048576)(sm:∀i,i<n->(f i).f<=1048576)(ld:∀i,i<n1->aP (f1 i))(ZL:Tab2 w)(S:Pow w)(x:b<B (A w))
  (k0:ZU w (T b 0 Y)=Q (J I 2)) (k1:ZU w (T b 1 Y)=Q (.func (.func 61) #[] #[])) (k2:ZU w (T b 2 Y)=Q (J I 3)) (k3:ZU w (T b 3 Y)=Q (.func (.func 62) #[] #[])) (k4:ZU w (T b 4 Y)=Q (J I 4)) (k5:ZU w (T b 5 Y)=Q (.func (.func 63) #[] #[])) (k6:ZU w (T b 6 Y)=Q (J I 5)) (k7:ZU w (T b 7 Y)=Q (.func (.func 64) #[] #[])) :
  Calls Pg 60 #[ZJ #[Z (Q (T H l Y)) n j_,Z u n0 C,Z y n1 ZV],Z (Q (T b 0 Y)) 4 4] w λe w'=>e=ZI (.tuple #[J I (fi (dx n0 f0 n1 f1 f) n).1,J I (fi (dx n0 f0 n1 f1 f) n).2])/\Below (B (A w)) w w':=by
 obtain⟨R,hR⟩:∃R,R=fi (dx n0 f0 n1 f1 f) n:=⟨_,rfl⟩
 rw[<-hR];have HR:=ae hR;clear hR;obtain⟨WA,K⟩:∃W:E,w.alloc (N #[Z (Q (T H l Y)) n j_,Z u n0 C,Z y n1 ZV] 107)=W:=⟨_,rfl⟩
 obtain⟨A0,-,hz⟩:=nb1 K;have ZW:=ae K;clear K;have m0:ZU WA (T (B (A w)) 0 Y)=Q (Z (Q (T H l Y)) n j_):=by rw[<-ZW.i];simp
 have m1:ZU WA (T (B (A w)) 1 Y)=Q (Z u n0 C):=by rw[<-ZW.i];simp
 have m2:ZU WA (T (B (A w)) 2 Y)=Q (Z y n1 ZV):=by rw[<-ZW.i];simp
 have ZS:=ae ZP;have ZO:=ae X;have ex:=ae ro;have ph:=ae P;have bt:=ae fd;have n8:=ae la;have Fm:=ae qr;have At:=ae sm;have JJ:=ae ld;have aq:=ae ZL;have ZN:=ae S;have mv:=ZL.1;have G:=ae (And.intro k0 (And.intro k1 (And.intro k2 (And.intro k3 (And.intro k4 (And.intro k5 (And.intro k6 k7)))))));clear ZP X ro P fd la qr sm ld ZL S k0 k1 k2 k3 k4 k5 k6 k7;go_enter func60,ntmps60;go_wp2;go_step3;go_wp2;go_step3;go_wp2;rw[ZW.i];clear ZW;go_loopw [6,7,16] (λc6 c7 i wr=>∃k:Nat,k<=n/\c6=J I 0/\c7=J I 0/\i=J I k/\Hid (∀j,j<k->dx n0 f0 n1 f1 f j=0)/\Hid (Below (B (A w)+1) WA wr)) (λ_ _ i _=>n - (intOf i).toNat);case atStart=>exact⟨0,by omega,rfl,rfl,rfl,λj hj=>absurd hj (NF _),a8 _ _⟩
 case round =>
  obtain⟨k,hk,rfl,rfl,rfl,HZ,HB⟩:=hrel;have BW:=ae (A0.i.k (HB.i.P (by omega)));by_cases ZT:k<n
  ·obtain⟨p0,p1,p2,p3,⟨a0,r,p4,q4⟩,⟨a1,s,p5,q5⟩⟩:=(ZS.i.aa BW.i ly).2 k ZT;have n9:=ae (Fz n0 f0 n1 f1 f k);obtain⟨L,ZR⟩:∃W:E,wr.alloc (N #[U (f k).e,J I (f k).L,J I (f k).M,U (f k).H,Z a0 (f k).h r,Z a1 (f k).f s] 62)=W:=⟨_,rfl⟩
   obtain⟨D1,-,JG⟩:=nb1 ZR;have o:=ae ZR;clear ZR;have B1:=ae (HB.i.alloc (by have:=HB.i.size;omega) (N #[U (f k).e,J I (f k).L,J I (f k).M,U (f k).H,Z a0 (f k).h r,Z a1 (f k).f s] 62));have QI:=ae (show SlIns wr a0 (f k).h (f k).q/\SlLink wr a1 (f k).f (f k).m from⟨q4,q5⟩);have QJ:=ae (And.intro (QI.i.1.aa D1.i ly) (QI.i.2.aa D1.i ly));have e0:ZU L (T (B (A wr)) 0 Y)=Q (U (f k).e):=by rw[<-o.i];simp
   have e1:ZU L (T (B (A wr)) 1 Y)=Q (J I (f k).L):=by rw[<-o.i];simp
   have e2:ZU L (T (B (A wr)) 2 Y)=Q (J I (f k).M):=by rw[<-o.i];simp
   have e3:ZU L (T (B (A wr)) 3 Y)=Q (U (f k).H):=by rw[<-o.i];simp
   have e4:ZU L (T (B (A wr)) 4 Y)=Q (Z a0 (f k).h r):=by rw[<-o.i];simp
   have e5:ZU L (T (B (A wr)) 5 Y)=Q (Z a1 (f k).f s):=by rw[<-o.i];simp
   have Fk:B (A w)+1<=B (A wr):=by have:=HB.i.size;omega
   clear q4 q5;go_wp2;clear p0 p1 p2 p3 p4 p5 D1;rw[o.i] at B1 ⊢;clear o;generalize (B (A wr))=t at e0 e1 e2 e3 e4 e5 JG Fk ⊢;go_loopw [6,7,23] (λc6 c7 i w2=>∃j:Nat,j<=4/\c6=J I 0/\c7=J I 0/\i=J I j/\Hid (1<=j->gD n0 f0 n1 f1 (f k)=ZA)/\Hid (2<=j->hasB n0 f0 n1 f1 (f k)=ZA)/\Hid (3<=j->jS f k=ZA)/\Hid (4<=j->py f k=ZA)/\Hid (Below (t+1) L w2)) (λ_ _ i _=>4 - (intOf i).toNat);case atStart=>exact⟨0,by omega,rfl,rfl,rfl,(λh=>by omega),(λh=>by omega),(λh=>by omega),(λh=>by omega),a8 _ _⟩
   case round =>
    obtain⟨j,hj,rfl,rfl,rfl,V,N1,N2,N3,g⟩:=hrel;have ZM:=ae (B1.i.k (g.i.P (by omega)));have D:=ae (A0.i.k (ZM.i.P (by omega)));have JI:=(D.i.O (p:=(T b 0 Y)) x).k G.i.1;have Id:=(D.i.O (p:=(T b 1 Y)) x).k G.i.2.1;have th:=(D.i.O (p:=(T b 2 Y)) x).k G.i.2.2.1;have JM:=(D.i.O (p:=(T b 3 Y)) x).k G.i.2.2.2.1;have JL:=(D.i.O (p:=(T b 4 Y)) x).k G.i.2.2.2.2.1;have JN:=(D.i.O (p:=(T b 5 Y)) x).k G.i.2.2.2.2.2.1;have DQ:=(D.i.O (p:=(T b 6 Y)) x).k G.i.2.2.2.2.2.2.1;have GS:=(D.i.O (p:=(T b 7 Y)) x).k G.i.2.2.2.2.2.2.2;have Hx:=(g.i.O (p:=(T t 0 Y)) (eL t)).k e0;have Bk:=(g.i.O (p:=(T t 1 Y)) (eL t)).k e1;have DE:=(g.i.O (p:=(T t 2 Y)) (eL t)).k e2;have Fd:=(g.i.O (p:=(T t 3 Y)) (eL t)).k e3;have JK:=(g.i.O (p:=(T t 4 Y)) (eL t)).k e4;have ur:=(g.i.O (p:=(T t 5 Y)) (eL t)).k e5;have g0:=(ZM.i.O (p:=(T (B (A w)) 0 Y)) (eL (B (A w)))).k m0;have g1:=(ZM.i.O (p:=(T (B (A w)) 1 Y)) (eL (B (A w)))).k m1;have g2:=(ZM.i.O (p:=(T (B (A w)) 2 Y)) (eL (B (A w)))).k m2;have P:t<B (A wr):=by have:=g.i.size;omega
    have hs2:B (A w)<B (A wr):=by omega
    have hs3:b<B (A wr):=by omega
    rcases(show(True/\j=0)\/(True/\j=1)\/(True/\j=2)\/(True/\j=3)\/j=4 by rcases(show j=0\/j=1\/j=2\/j=3\/j=4 by omega) with h|h|h|h|h<;>simp[h]) with⟨M0,rfl⟩|⟨M1,rfl⟩|⟨M2,rfl⟩|⟨M3,rfl⟩|rfl;rotate_left 4
    ·have q:Hid (dx n0 f0 n1 f1 f k=0):=by show _=_;rw[n9.i,eI (by rw[V.i (by omega)];simp),eI (by rw[N1.i (by omega)];simp),eI (by rw[N2.i (by omega)];simp),eI (by rw[N3.i (by omega)];simp)]
     go_wp2
     exact⟨⟨k+1,by omega,rfl,rfl,by go_num,λj hj=>by
      by_cases e:j=k;{subst e;exact q.i}
      ·exact HZ.i j (by omega),ZM.i⟩,by simp[intOf];omega⟩
    all_goals
     have JH:=λ(w:E) (a:Addr) (m:Mode) (F:Nat)=>run_store Pg w a (.func (.func F) #[] #[]) m rfl;go_wp2_with fail;clear Hx Bk DE Fd JK ur g0 g1 g2 JI Id th JM JL JN DQ GS JH;generalize hW:World.alloc wr _=WX;obtain⟨DC,kc,hzx⟩:=nb1 hW;clear hW;have z:=ae (D.i.k (DC.i.P D.i.size));have O:=ae (And.intro ((QJ.i.1.aa g.i (by omega)).aa DC.i ly) ((QJ.i.2.aa g.i (by omega)).aa DC.i ly));have BC:=ae (g.i.k (DC.i.P (by have:=g.i.size;omega)));first
      |(guard_hyp M0;refine(FG H l n j_ u n0 C f0 y n1 ZV f1 (f k) a0 r a1 s _ hn0 hn1 (ex.i.aa z.i ly) (ph.i.aa z.i ly) bt.i n8.i O.i.1 (Fm.i k ZT) JJ.i).P ?_)
      |(guard_hyp M1;refine(zn H l n j_ u n0 C f0 y n1 ZV f1 (f k) a0 r a1 s _ hn0 hn1 (ex.i.aa z.i ly) (ph.i.aa z.i ly) bt.i n8.i O.i.2 (At.i k ZT)).P ?_)
      |(guard_hyp M2;refine(xq u n0 C y n1 ZV H l n j_ f k a0 r a1 s _ ZO.i ZT (ZS.i.aa z.i ly) O.i.1 O.i.2 (aq.i.aa z.i mv) (ZN.i.aa z.i ly)).P ?_)
      |(guard_hyp M3;refine(BP u n0 C y n1 ZV H l n j_ f k a0 r a1 s _ ZO.i ZT (ZS.i.aa z.i ly) O.i.1 O.i.2 (aq.i.aa z.i mv) (ZN.i.aa z.i ly)).P ?_)
     rintro e w3⟨rfl,hB⟩;have W3:=ae (z.i.k (hB.P z.i.size));have C3:=ae (BC.i.k (hB.P (by have:=BC.i.size;omega)));have cz:=FH ((hB.p _ (by omega)).k kc.i);clear hB kc;first
      |(guard_hyp M0;cases hb:gD n0 f0 n1 f1 (f k))
      |(guard_hyp M1;cases hb:hasB n0 f0 n1 f1 (f k))
      |(guard_hyp M2;cases hb:jS f k)
      |(guard_hyp M3;cases hb:py f k)
     ·have M:=ae hb
      go_wp2;first
       |(guard_hyp M0;exact⟨⟨1,by omega,rfl,rfl,by go_num,(λ_=>M.i),(λh=>by omega),(λh=>by omega),(λh=>by omega),C3.i⟩,by simp[intOf]⟩)
       |(guard_hyp M1;exact⟨⟨2,by omega,rfl,rfl,by go_num,(λ_=>V.i (by omega)),(λ_=>M.i),(λh=>by omega),(λh=>by omega),C3.i⟩,by simp[intOf]⟩)
       |(guard_hyp M2;exact⟨⟨3,by omega,rfl,rfl,by go_num,(λ_=>V.i (by omega)),(λ_=>N1.i (by omega)),(λ_=>M.i),(λh=>by omega),C3.i⟩,by simp[intOf]⟩)
       |(guard_hyp M3;exact⟨⟨4,by omega,rfl,rfl,by go_num,(λ_=>V.i (by omega)),(λ_=>N1.i (by omega)),(λ_=>N2.i (by omega)),(λ_=>M.i),C3.i⟩,by simp[intOf]⟩)
     ·have q:=n9.i
      (try rw[V.i (by omega)] at q)
      (try rw[N1.i (by omega)] at q)
      (try rw[N2.i (by omega)] at q)
      rw[hb] at q;simp at q;have ZQ:=HR.i;rw[ju ZT HZ.i (by rw[q];decide),q] at ZQ;replace ZQ:=ae ZQ;clear q;go_wp2;try rw[XO]
      go_ret2;exact⟨by simp[ZQ.i],W3.i⟩
  ·obtain rfl:k=n:=by omega
   have ZQ:Hid (R=(0,0)):=by show _=_;rw[HR.i];exact nW HZ.i
   go_wp2;try rw[XO]
   go_ret2;exact⟨by simp[ZQ.i],BW.i⟩
