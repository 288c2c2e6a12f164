import Derived.Test.YthkgkfehliinfaaGreatDoorFZ
import Derived.Laws.StructEq
set_option linter.all false
set_option maxRecDepth 100000
set_option maxHeartbeats 8000000
open Go renaming Addr.mk->Q,Value.slice->Y,Value.string->U,Value.int->J,Value.bool->ZF,Value.agg->ZJ,Obj.cells->N,IntKind.i64->I,World->E,Ending.returned->ZI,World.heap->A,World.cell?->ZU,Proofs.Tryz.prog->Pg
open Option renaming none->Z,some->T
open Bool renaming false->ZA,true->ZH
open Array renaming size->B
namespace Go.Proofs.YthkgkfehliinfaaGreatDoor.Vp
open Tryz RowKit
def vN (x y:Ins)(w:E):(binOp .neq 124 (ZJ #[J I x.op,U x.s,J I x.n]) (ZJ #[J I y.op,U y.s,J I y.n])).run Pg w=.ok (ZF (!kE x y)) w:=by
 have g:Pg.underlying 124=T (.struct (Pg.fieldsOf 124)):=by kernel_rfl
 have f:Pg.stoodInHeld 124=ZA:=by kernel_rfl
 rw[run_neq_struct,show(10000:Nat)=9999+1 from rfl,run_equalIn_agg w 9999 124 _ _ g f];simp only[Program.fieldsOf,underlying124];go_simp;unfold kE;by_cases h1:x.op=y.op<;>by_cases h2:x.s.toList=y.s.toList<;>by_cases b:x.n=y.n<;>simp[h1,h2,b]
def vO (b off n j_:Nat)(f:Nat->Ins)(z j r:Nat)(g:Nat->Ins)(w:E)(hn:n<=1048576)(t:Q_ w b off n f)(y:Q_ w z j n g):Calls Pg 116 #[Y (T (Q b off Z)) n j_,Y (T (Q z j Z)) n r] w λe G=>e=ZI (ZF (cO f g n))/\∃m,G=w.drewN m:=by
 have C:=ae t;have ZT:=ae y;clear t y;go_enter func116,ntmps116;go_wp2;go_loopw [13] (λi wr=>∃k:Nat,k<=n/\i=J I k/\Hid (cO f g k=ZH)/\Hid (∃q,wr=w.drewN q)) (λi _=>n - (intOf i).toNat);case atStart=>exact⟨0,by omega,rfl,rfl,0,rfl⟩
 case round =>
  obtain⟨k,hk,rfl,u,p⟩:=hrel;have ZW:Hid (Below (B (A w)) w wr):=by obtain⟨q,l⟩:=p.i;rw[l];exact AD br q
  by_cases h:k<n
  ·obtain⟨c0,c1,c2⟩:=(C.i.aa ZW.i ly).2 k h;obtain⟨ZV,D,H⟩:=(ZT.i.aa ZW.i ly).2 k h;have hlt2:(k:Int)<n:=by omega
   have x:=vN (f k) (g k);go_wp2_with fail;go_quiet (fail);have o:Hid (∃q,wr.drewN nq=w.drewN q):=by obtain⟨q,l⟩:=p.i;exact⟨q+nq,by rw[l,World.drewN_drewN]⟩
   clear c0 c1 c2 ZV D H x;generalize wr.drewN nq=W at o ⊢;cases hb:kE (f k) (g k) with
   |true =>have s:=ae hb;clear hb;go_wp2;exact⟨⟨k+1,by omega,by go_num,by show cO f g (k+1)=ZH;rw[cO,u.i,s.i];rfl,o.i⟩,by simp[intOf];omega⟩
   |false =>have s:=ae hb;clear hb;go_wp2;go_ret;exact⟨bv (kF h s.i).c,o.i⟩
  ·obtain rfl:k=n:=by omega
   go_wp2;go_ret;exact⟨bv u.i.c,p.i⟩
def nZ (a:O_)(j_:Nat)(f:O_)(b:Nat)(w:E):Calls Pg 116 #[Y a 0 j_,Y f 0 b] w λe g=>e=ZI (ZF ZH)/\g=w:=by
 go_enter func116,ntmps116;go_wp2;go_loop [13] (λi=>i=J I 0) (λ_=>0);case atStart=>rfl
 case round =>subst hrel;go_wp2;go_ret;exact⟨rfl,rfl⟩
def vP (a:O_)(n j_:Nat)(f:O_)(m b:Nat)(w:E)(h:(n:Int)≠m):Calls Pg 116 #[Y a n j_,Y f m b] w λe g=>e=ZI (ZF ZA)/\g=w:=by
 have h2:((n:Int) == (m:Int))=ZA:=by simpa using h
 go_enter func116,ntmps116;go_wp2;go_ret;exact⟨rfl,rfl⟩
def vQ (a:O_)(n j_:Nat)(f:Nat->Ins)(j:O_)(m i:Nat)(g:Nat->Ins)(w:E)(hn:n<=1048576)(hm:m<=1048576)(s:SlIns w a n f)(o:SlIns w j m g):Calls Pg 116 #[Y a n j_,Y j m i] w λe l=>e=ZI (ZF (cD f g n m))/\∃m,l=w.drewN m:=by
 by_cases h:n=m
 ·subst h;have t:cD f g n n=cO f g n:=by simp[cD]
  rw[t];rcases s with rfl|⟨b,off,rfl,s⟩
  {exact(nZ a j_ j i w).P λe l ⟨p,q⟩=>⟨p,0,by rw[q];rfl⟩}
  ·rcases o with rfl|⟨u,r,rfl,o⟩
   {exact(nZ _ j_ j i w).P λe l ⟨p,q⟩=>⟨p,0,by rw[q];rfl⟩};{exact vO b off n j_ f u r i g w hn s o}
 ·have t:cD f g n m=ZA:=by simp[cD,h]
  rw[t];exact(vP a n j_ j m i w (by omega)).P λe l ⟨p,q⟩=>⟨p,0,by rw[q];rfl⟩
def Ah (b off n j_:Nat)(f:Nat->Ins)(s h l:Nat)(g:Nat->Ins)(w:E)(hn:n<=1048576)(u:Q_ w b off n f)(z:Q_ w s h n g):Calls Pg 81 #[ZJ #[Y (T (Q b off Z)) n j_],ZJ #[Y (T (Q s h Z)) n l]] w λe M=>e=ZI (ZF (cO f g n))/\Below (B (A w)) w M:=by
 obtain⟨W,o⟩:∃W:E,(w.alloc (N #[Y (T (Q b off Z)) n j_] 37)).alloc (N #[Y (T (Q s h Z)) n l] 37)=W:=⟨_,rfl⟩
 obtain⟨D,-,-,-⟩:=nb2 o;have j:=ae o;clear o;have K:ZU W (Q (B (A w)) 0 Z)=T (Y (T (Q b off Z)) n j_):=by rw[<-j.i];simp[go_sem]
 have ZS:ZU W (Q (B (A w)+1) 0 Z)=T (Y (T (Q s h Z)) n l):=by rw[<-j.i];simp[go_sem]
 have hz:B (A w)+1<B (A W):=by rw[<-j.i];simp
 have G:=ae u;have L:=ae z;clear u z;go_enter func81,ntmps81;go_wp2;rw[j.i];clear j;go_loopw [5] (λi wr=>∃k:Nat,k<=n/\i=J I k/\Hid (cO f g k=ZH)/\Hid (Below (B (A W)) W wr)) (λi _=>n - (intOf i).toNat);case atStart=>exact⟨0,by omega,rfl,rfl,a8 _ _⟩
 case round =>
  obtain⟨k,hk,rfl,x,q⟩:=hrel;have r:=ae (D.i.k (q.i.P D.i.size));have O:=(q.i.O (p:=(Q (B (A w)) 0 Z)) (by show (B (A w))<_;omega)).k K;have H:=(q.i.O (p:=(Q (B (A w)+1) 0 Z)) hz).k ZS;have C:B (A w)+1<B (A wr):=lj hz q.i.size;by_cases m:k<n
  ·obtain⟨c0,c1,c2⟩:=(G.i.aa r.i ly).2 k m;obtain⟨ZT,ZR,ZQ⟩:=(L.i.aa r.i ly).2 k m;have hlt2:(k:Int)<n:=by omega
   have y:=vN (f k) (g k);go_wp2_with fail;go_quiet (fail);have ZW:=ae (AD q.i nq);have ZV:=ae (AD r.i nq);clear c0 c1 c2 ZT ZR ZQ y O H C;generalize wr.drewN nq=W' at ZW ZV ⊢;cases hb:kE (f k) (g k) with
   |true =>have t:=ae hb;clear hb;go_wp2;exact⟨⟨k+1,by omega,by go_num,by show cO f g (k+1)=ZH;rw[cO,x.i,t.i];rfl,ZW.i⟩,by simp[intOf];omega⟩
   |false =>have t:=ae hb;clear hb;go_wp2;go_ret;exact⟨bv (kF m t.i).c,ZV.i⟩
  ·obtain rfl:k=n:=by omega
   go_wp2;go_ret;exact⟨bv x.i.c,r.i⟩
def qM (a:O_)(j_:Nat)(f:O_)(b:Nat)(w:E):Calls Pg 81 #[ZJ #[Y a 0 j_],ZJ #[Y f 0 b]] w λe h=>e=ZI (ZF ZH)/\Below (B (A w)) w h:=by
 have g:=ae (((BS w).alloc ly (N #[Y a 0 j_] 37)).alloc (by simp) (N #[Y f 0 b] 37));go_enter func81,ntmps81;go_wp2;go_loop [5] (λi=>i=J I 0) (λ_=>0);case atStart=>rfl
 case round =>subst hrel;go_wp2;go_ret;exact⟨rfl,g.i⟩
def Ai (a:O_)(n j_:Nat)(f:O_)(m b:Nat)(w:E)(h:(n:Int)≠m):Calls Pg 81 #[ZJ #[Y a n j_],ZJ #[Y f m b]] w λe i=>e=ZI (ZF ZA)/\Below (B (A w)) w i:=by
 have g:=ae (((BS w).alloc ly (N #[Y a n j_] 37)).alloc (by simp) (N #[Y f m b] 37));have h2:((n:Int) == (m:Int))=ZA:=by simpa using h
 go_enter func81,ntmps81;go_wp2;go_ret;exact⟨rfl,g.i⟩
def Aj (a:O_)(n j_:Nat)(f:Nat->Ins)(j:O_)(m i:Nat)(g:Nat->Ins)(w:E)(hn:n<=1048576)(hm:m<=1048576)(p:SlIns w a n f)(l:SlIns w j m g):Calls Pg 81 #[ZJ #[Y a n j_],ZJ #[Y j m i]] w λe s=>e=ZI (ZF (cD f g n m))/\Below (B (A w)) w s:=by
 by_cases h:n=m
 ·subst h;have q:cD f g n n=cO f g n:=by simp[cD]
  rw[q];rcases p with rfl|⟨b,off,rfl,p⟩
  {exact qM a j_ j i w}
  ·rcases l with rfl|⟨r,o,rfl,l⟩
   {exact qM _ j_ j i w};{exact Ah b off n j_ f r o i g w hn p l}
 ·have q:cD f g n m=ZA:=by simp[cD,h]
  rw[q];exact Ai a n j_ j m i w (by omega)
def Cx (d:au)(a0:O_)(x:Nat)(a1:O_)(H:Nat)(u:O_)(n0 ZV:Nat)(f0:Nat->Source)(o:O_)(n1 ZW:Nat)(f1:Nat->Target)(w:E)(hn0:(n0:Int)<=1048576)(hn1:(n1:Int)<=1048576)(ZM:Qx w u n0 f0)(X:Qq w o n1 f1)(R:aK (nm0 f0) n0=ZH)(ZN:aK (nm1 f1) n1=ZH)(hI:SlIns w a0 d.h d.u)(ex:d.h<=1048576)(V:∀i,i<n1->aP (f1 i)):Calls Pg 32 #[ZJ #[U d.e,J I d.m,J I d.M,U d.H,Y a0 d.h x,Y a1 d.f H],ZJ #[Y u n0 ZV,Y o n1 ZW]] w λe w'=>e=ZI (ZF (!gD n0 f0 n1 f1 d))/\Below (B (A w)) w w':=by
 obtain⟨r,hr⟩:∃r,r=gD n0 f0 n1 f1 d:=⟨_,rfl⟩
 rw[<-hr];have ZT:=ae (show r=if d.m=1 then !jd n0 f0 d.e d.H else if d.m=3 then !iB n1 f1 d.e d.h d.u else hZ n0 f0 n1 f1 d.e from hr);clear hr;obtain⟨W,K⟩:∃W:E,(w.alloc (N #[U d.e,J I d.m,J I d.M,U d.H,Y a0 d.h x,Y a1 d.f H] 58)).alloc (N #[Y u n0 ZV,Y o n1 ZW] 29)=W:=⟨_,rfl⟩
 obtain⟨P,-,-,-⟩:=nb2 K;have h:=ae K;clear K;have ZS:=ae ZM;have M:=ae X;have la:=ae R;have mv:=ae ZN;have HI:=ae hI;have fd:=ae V;clear ZM X R ZN hI V;have c0:ZU W (Q (B (A w)) 0 Z)=T (U d.e):=by rw[<-h.i];simp[go_sem]
 have c1:ZU W (Q (B (A w)) 1 Z)=T (J I d.m):=by rw[<-h.i];simp[go_sem]
 have c3:ZU W (Q (B (A w)) 3 Z)=T (U d.H):=by rw[<-h.i];simp[go_sem]
 have c4:ZU W (Q (B (A w)) 4 Z)=T (Y a0 d.h x):=by rw[<-h.i];simp[go_sem]
 have c5:ZU W (Q (B (A w)+1) 0 Z)=T (Y u n0 ZV):=by rw[<-h.i];simp[go_sem]
 have c6:ZU W (Q (B (A w)+1) 1 Z)=T (Y o n1 ZW):=by rw[<-h.i];simp[go_sem]
 have hz:B (A w)+1<B (A W):=by rw[<-h.i];simp
 go_enter func32,ntmps32;go_wp2_with fail;rw[h.i];clear h;refine(kW u n0 ZV o n1 ZW f0 d.e _ hn0 (ZS.i.aa P.i ly)).P ?_;rintro e w1⟨s,rfl,ZL,f⟩;have ZQ:=ae ZL;have O:=ae (P.i.k (f.P P.i.size));have n:B (A w)<B (A W):=by omega
 have x0:=(f.O (p:=(Q (B (A w)) 0 Z)) n).k c0;have x1:=(f.O (p:=(Q (B (A w)) 1 Z)) n).k c1;have x3:=(f.O (p:=(Q (B (A w)) 3 Z)) n).k c3;have x4:=(f.O (p:=(Q (B (A w)) 4 Z)) n).k c4;have x5:=(f.O (p:=(Q (B (A w)+1) 0 Z)) hz).k c5;have x6:=(f.O (p:=(Q (B (A w)+1) 1 Z)) hz).k c6;have C:B (A w)+1<B (A w1):=lj hz f.size;clear f ZL P c0 c1 c3 c4 c5 c6 hz n;go_wp2_with fail;refine(kV u n0 ZV o n1 ZW f1 d.e _ hn1 (M.i.aa O.i ly)).P ?_;rintro e ZP⟨t,rfl,ZO,f⟩;have L:=ae ZO;have j:=ae (O.i.k (f.P O.i.size));have n:B (A w)<B (A w1):=by omega
 have y1:=(f.O (p:=(Q (B (A w)) 1 Z)) n).k x1;have y3:=(f.O (p:=(Q (B (A w)) 3 Z)) n).k x3;have y4:=(f.O (p:=(Q (B (A w)) 4 Z)) n).k x4;have y5:=(f.O (p:=(Q (B (A w)+1) 0 Z)) C).k x5;have y6:=(f.O (p:=(Q (B (A w)+1) 1 Z)) C).k x6;have hz2:B (A w)+1<B (A ZP):=lj C f.size;clear f ZO O x0 x1 x3 x4 x5 x6 C n;by_cases y:d.m=1
 ·have m:Hid (r=!jd n0 f0 d.e d.H):=by show _=_;rw[ZT.i,eT y]
  rw[y] at y1;clear ZT;rcases ZQ.i with⟨rfl,G⟩|⟨i,rfl,q,z⟩
  ·obtain rfl:r=ZH:=by rw[m.i];unfold jd;rw[lN G];rfl
   clear ZQ G;have hg:decide ((0:Int)<=-1)=ZA:=rfl;go_wp2_with fail;go_quiet (fail);go_wp2;go_ret;exact⟨rfl,AD j.i _⟩
  ·have g:Hid (r=!((f0 i).H.toList == d.H.toList)):=by show _=_;rw[m.i];unfold jd;rw[ox la.i q z]
   obtain⟨b,off,rfl,l⟩:=ZS.i.resolve_left (by omega);obtain⟨e0,e1⟩:=(l.aa j.i ly).2 i q;have aq:(i:Int)<n0:=by omega
   have bt:decide ((0:Int)<=i)=ZH:=QD (by omega);clear ZQ z l m ZS;cases ZR:((f0 i).H.toList == d.H.toList) with
   |true =>
    obtain rfl:r=ZA:=by rw[g.i,ZR];rfl
    go_wp2_with fail;go_quiet (fail);go_wp2;go_ret;exact⟨rfl,AD j.i _⟩
   |false =>
    obtain rfl:r=ZH:=by rw[g.i,ZR];rfl
    go_wp2_with fail;go_quiet (fail);go_wp2;go_ret;exact⟨rfl,AD j.i _⟩
 ·by_cases D:d.m=3
  ·have m:Hid (r=!iB n1 f1 d.e d.h d.u):=by show _=_;rw[ZT.i,eI y,eT D]
   rw[D] at y1;clear ZT;rcases L.i with⟨rfl,G⟩|⟨i,rfl,q,z⟩
   ·obtain rfl:r=ZH:=by rw[m.i];unfold iB;rw[lN G];rfl
    clear L G;have hg:decide ((0:Int)<=-1)=ZA:=rfl;go_wp2_with fail;go_quiet (fail);go_wp2;go_ret;exact⟨rfl,AD j.i _⟩
   ·have g:Hid (r=!cD (f1 i).u d.u (f1 i).h d.h):=by show _=_;rw[m.i];unfold iB;rw[ox mv.i q z]
    obtain⟨b,off,rfl,l⟩:=M.i.resolve_left (by omega);obtain⟨e0,ka,kc,e1,q1⟩:=(l.aa j.i ly).2 i q;have Q1:=ae (show SlIns ZP ka (f1 i).h (f1 i).u from q1);have aq:(i:Int)<n1:=by omega
    have bt:decide ((0:Int)<=i)=ZH:=QD (by omega);clear L z l m M q1;have EQ:=ae (λW (f:Below (B (A ZP)) ZP W)=>Aj ka (f1 i).h kc (f1 i).u a0 d.h x d.u W (fd.i i q) ex (Q1.i.aa f ly) ((HI.i.aa j.i ly).aa f ly));generalize cD (f1 i).u d.u (f1 i).h d.h=c at g EQ;go_wp2_with fail
    go_region_with (first
     |(go_at_call 81;refine(EQ.i _ ?_).P ?_;(first|exact a8 _ _|exact br.drew);rintro e w3⟨rfl,f⟩))
    all_goals
     go_simp;go_wp2;go_ret;exact⟨by simp[g.i],j.i.k (Below.mono ⟨f.os,f.tape,f.output,f.size,f.p⟩ j.i.size)⟩
  ·have m:Hid (r=hZ n0 f0 n1 f1 d.e):=by show _=_;rw[ZT.i,eI y,eI D]
   have hk1b:(d.m == 1)=ZA:=by simpa using y
   have hk3b:(d.m == 3)=ZA:=by simpa using D
   have g:Hid (r=(decide (0<=s) || decide (0<=t))):=by show _=_;rw[m.i];unfold hZ;rw[ZQ.i.has,L.i.has]
   clear ZT m ZQ L;by_cases hs:0<=s
   ·obtain rfl:r=ZH:=by rw[g.i];simp[hs]
    have ld:¬ s<0:=by omega
    go_wp2;go_ret;exact⟨rfl,j.i⟩
   ·have ld:s<0:=by omega
    by_cases ZR:0<=t
    ·obtain rfl:r=ZH:=by rw[g.i];simp[ZR]
     have S:¬ t<0:=by omega
     go_wp2;go_ret;exact⟨by simp[S],j.i⟩
    ·obtain rfl:r=ZA:=by rw[g.i];simp[hs,ZR]
     have S:t<0:=by omega
     go_wp2;go_ret;exact⟨rfl,j.i⟩
def FG (ZN L n j_:Nat)(t:O_)(n0 y:Nat)(f0:Nat->Source)(l:O_)(n1 u:Nat)(f1:Nat->Target)(d:au)(a0:O_)(ZW:Nat)(a1:O_)(K:Nat)(w:E)(hn0:(n0:Int)<=1048576)(hn1:(n1:Int)<=1048576)(ZP:Qx w t n0 f0)(P:Qq w l n1 f1)(M:aK (nm0 f0) n0=ZH)(ZQ:aK (nm1 f1) n1=ZH)(ZL:SlIns w a0 d.h d.u)(X:d.h<=1048576)(O:∀i,i<n1->aP (f1 i)):Calls Pg 76 #[ZJ #[Y (T (Q ZN L Z)) n j_,Y t n0 y,Y l n1 u],ZJ #[U d.e,J I d.m,J I d.M,U d.H,Y a0 d.h ZW,Y a1 d.f K]] w λe w'=>e=ZI (ZF (gD n0 f0 n1 f1 d))/\Below (B (A w)) w w':=by
 obtain⟨r,S⟩:∃r,r=gD n0 f0 n1 f1 d:=⟨_,rfl⟩
 rw[<-S];have ZR:=ae (show r=if d.m=1 then !jd n0 f0 d.e d.H else if d.m=3 then !iB n1 f1 d.e d.h d.u else hZ n0 f0 n1 f1 d.e from S);clear S;have h:=ae (((BS w).alloc ly (N #[Y (T (Q ZN L Z)) n j_,Y t n0 y,Y l n1 u] 129)).alloc (by simp) (N #[U d.e,J I d.m,J I d.M,U d.H,Y a0 d.h ZW,Y a1 d.f K] 58));have ZT:=ae ZP;have D:=ae P;have G:=ae M;have ZS:=ae ZQ;have HI:=ae ZL;have ZO:=ae O;clear ZP P M ZQ ZL O;by_cases ZV:d.m=1
 ·have z:Hid (r=!jd n0 f0 d.e d.H):=by show _=_;rw[ZR.i,eT ZV]
  clear ZR;rw[ZV] at h ⊢;go_enter func76,ntmps76;go_wp2_with fail;refine(fe t n0 y l n1 u f0 d.e _ hn0 (ZT.i.aa h.i ly) G.i).P ?_;rintro e j⟨i,rfl,hi,h1,h2,f⟩;have g:=kU G.i hi h1 h2;have g1:ZU j (Q (B (A w)) 1 Z)=T (Y t n0 y):=(f.O (p:=(Q (B (A w)) 1 Z)) (by simp;omega)).k (by simp[go_sem]);have d3:ZU j (Q (B (A w)+1) 3 Z)=T (U d.H):=(f.O (p:=(Q (B (A w)+1) 3 Z)) (by simp)).k (by simp[go_sem]);have V:B (A w)+1<B (A j):=by have:=f.size;simp at this;omega
  have m:=ae (h.i.k (f.P h.i.size));clear f h1 h2 h;cases hq:aF (nm0 f0) n0 d.e with
  |false =>
   obtain rfl:r=ZH:=by rw[z.i];unfold jd;rw[lN hq];rfl
   clear g;go_wp2_with fail;go_quiet (fail);go_wp2;go_ret;exact⟨rfl,AD m.i _⟩
  |true =>
   rw[hq] at g;obtain⟨x,C⟩:i<n0/\((nm0 f0 i).toList == d.e.toList)=ZH:=by simpa using g.c
   have o:Hid (r=!((f0 i).H.toList == d.H.toList)):=by show _=_;rw[z.i];unfold jd;rw[ox G.i x C]
   obtain⟨b,off,rfl,s⟩:=ZT.i.resolve_left (by omega);obtain⟨e0,e1⟩:=(s.aa m.i ly).2 i x;have R:(i:Int)<n0:=by omega
   clear g C s z ZT;cases ht:((f0 i).H.toList == d.H.toList) with
   |true =>
    obtain rfl:r=ZA:=by rw[o.i,ht];rfl
    go_wp2_with fail;go_quiet (fail);go_wp2;go_ret;exact⟨rfl,AD m.i _⟩
   |false =>
    obtain rfl:r=ZH:=by rw[o.i,ht];rfl
    go_wp2_with fail;go_quiet (fail);go_wp2;go_ret;exact⟨rfl,AD m.i _⟩
 ·by_cases H:d.m=3
  ·have z:Hid (r=!iB n1 f1 d.e d.h d.u):=by show _=_;rw[ZR.i,eI ZV,eT H]
   clear ZR;rw[H] at h ⊢;go_enter func76,ntmps76;go_wp2_with fail;refine(fU t n0 y l n1 u f1 d.e _ hn1 (D.i.aa h.i ly) ZS.i).P ?_;rintro e j⟨i,rfl,hi,h1,h2,f⟩;have g:=kU ZS.i hi h1 h2;have g2:ZU j (Q (B (A w)) 2 Z)=T (Y l n1 u):=(f.O (p:=(Q (B (A w)) 2 Z)) (by simp;omega)).k (by simp[go_sem]);have d4:ZU j (Q (B (A w)+1) 4 Z)=T (Y a0 d.h ZW):=(f.O (p:=(Q (B (A w)+1) 4 Z)) (by simp)).k (by simp[go_sem]);have V:B (A w)+1<B (A j):=by have:=f.size;simp at this;omega
   have m:=ae (h.i.k (f.P h.i.size));clear f h1 h2 h;cases hq:aF (nm1 f1) n1 d.e with
   |false =>
    obtain rfl:r=ZH:=by rw[z.i];unfold iB;rw[lN hq];rfl
    clear g;go_wp2_with fail;go_quiet (fail);go_wp2;go_ret;exact⟨rfl,AD m.i _⟩
   |true =>
    rw[hq] at g;obtain⟨x,C⟩:i<n1/\((nm1 f1 i).toList == d.e.toList)=ZH:=by simpa using g.c
    have o:Hid (r=!cD (f1 i).u d.u (f1 i).h d.h):=by show _=_;rw[z.i];unfold iB;rw[ox ZS.i x C]
    obtain⟨b,off,rfl,s⟩:=D.i.resolve_left (by omega);obtain⟨e0,W,kc,e1,q1⟩:=(s.aa m.i ly).2 i x;have Q1:=ae (show SlIns j W (f1 i).h (f1 i).u from q1);have R:(i:Int)<n1:=by omega
    clear g C s z D q1;have ZM:=ae (λq=>vQ W (f1 i).h kc (f1 i).u a0 d.h ZW d.u (j.drewN q) (ZO.i i x) X (Q1.i.aa (AD br q) ly) ((HI.i.aa m.i ly).aa (AD (BS j) q) ly));generalize cD (f1 i).u d.u (f1 i).h d.h=c at o ZM;go_wp2_with fail;go_quiet ((go_at_call 116;exact Calls.quiet_of (ZM.i _)));have B2:=ae (AD m.i nq);go_wp2;go_ret;exact⟨by simp[o.i],B2.i⟩
  ·have z:Hid (r=hZ n0 f0 n1 f1 d.e):=by show _=_;rw[ZR.i,eI ZV,eI H]
   have hk1b:(d.m == 1)=ZA:=by simpa using ZV
   have hk3b:(d.m == 3)=ZA:=by simpa using H
   clear ZR;go_enter func76,ntmps76;go_wp2_with fail;refine(rC t n0 y f0 l n1 u f1 d.e _ hn0 hn1 (ZT.i.aa h.i ly) (D.i.aa h.i ly) G.i ZS.i).P ?_;rintro e j⟨rfl,f⟩;have m:=ae (h.i.k (f.P h.i.size));have o:Hid ((aF (nm0 f0) n0 d.e || aF (nm1 f1) n1 d.e)=r):=z.i.c;clear f;rw[o.i];go_wp2;go_ret;exact⟨rfl,m.i⟩
def FH {w:E}{b:Nat}{f g:Value}{t:TypeId}{z:Nat × Nat}(h:w.heap[b]?=T (N #[f,g] t z)):ZU w (Q b 0 Z)=T f:=by simp[World.cell?,h]
def tX (H o n j_ b:Nat)(y:O_)(n0 C:Nat)(f0:Nat->Source)(u:O_)(n1 ZW:Nat)(f1:Nat->Target)(f:Nat->au)(w:E)(hn:(n:Int)<=400)(hn0:(n0:Int)<=1048576)(hn1:(n1:Int)<=1048576)(S:bc f n=ZH)(P:Qk w H o n f)(la:Qx w y n0 f0)(ZN:Qq w u n1 f1)(ld:aK (nm0 f0) n0=ZH)(ro:aK (nm1 f1) n1=ZH)(aq:∀i,i<n->(f i).h<=1048576)(n9:∀i,i<n->(f i).f<=1048576)(sm:∀i,i<n1->aP (f1 i))(ZL:Tab2 w)(X:Pow w)(x:b<B (A w))
  (k0:ZU w (Q b 0 Z)=T (J I 2)) (k1:ZU w (Q b 1 Z)=T (.func (.func 76) #[] #[])) (k2:ZU w (Q b 2 Z)=T (J I 3)) (k3:ZU w (Q b 3 Z)=T (.func (.func 77) #[] #[])) (k4:ZU w (Q b 4 Z)=T (J I 4)) (k5:ZU w (Q b 5 Z)=T (.func (.func 78) #[] #[])) (k6:ZU w (Q b 6 Z)=T (J I 5)) (k7:ZU w (Q b 7 Z)=T (.func (.func 79) #[] #[])) :
  Calls Pg 75 #[ZJ #[Y (T (Q H o Z)) n j_,Y y n0 C,Y u n1 ZW],Y (T (Q b 0 Z)) 4 4] w λe w'=>e=ZI (.tuple #[J I (fi (dx n0 f0 n1 f1 f) n).1,J I (fi (dx n0 f0 n1 f1 f) n).2])/\Below (B (A w)) w w':=by
 obtain⟨R,hR⟩:∃R,R=fi (dx n0 f0 n1 f1 f) n:=⟨_,rfl⟩
 rw[<-hR];have HR:=ae hR;clear hR;obtain⟨WA,ZS⟩:∃W:E,w.alloc (N #[Y (T (Q H o Z)) n j_,Y y n0 C,Y u n1 ZW] 129)=W:=⟨_,rfl⟩
 obtain⟨A0,-,hz⟩:=nb1 ZS;have ZV:=ae ZS;clear ZS;have m0:ZU WA (Q (B (A w)) 0 Z)=T (Y (T (Q H o Z)) n j_):=by rw[<-ZV.i];simp
 have m1:ZU WA (Q (B (A w)) 1 Z)=T (Y y n0 C):=by rw[<-ZV.i];simp
 have m2:ZU WA (Q (B (A w)) 2 Z)=T (Y u n1 ZW):=by rw[<-ZV.i];simp
 have K:=ae P;have ZP:=ae S;have mv:=ae la;have bt:=ae ZN;have qr:=ae ld;have fd:=ae ro;have JJ:=ae aq;have DQ:=ae n9;have JG:=ae sm;have ex:=ae ZL;have ZM:=ae X;have n8:=ZL.1;have G:=ae (And.intro k0 (And.intro k1 (And.intro k2 (And.intro k3 (And.intro k4 (And.intro k5 (And.intro k6 k7)))))));clear P S la ZN ld ro aq n9 sm ZL X k0 k1 k2 k3 k4 k5 k6 k7;go_enter func75,ntmps75;go_wp2;go_step3;go_wp2;go_step3;go_wp2;rw[ZV.i];clear ZV;go_loopw [6,7,16] (λc6 c7 i wr=>∃k:Nat,k<=n/\c6=J I 0/\c7=J I 0/\i=J I k/\Hid (∀j,j<k->dx n0 f0 n1 f1 f j=0)/\Hid (Below (B (A w)+1) WA wr)) (λ_ _ i _=>n - (intOf i).toNat);case atStart=>exact⟨0,by omega,rfl,rfl,rfl,λj hj=>absurd hj (NF _),a8 _ _⟩
 case round =>
  obtain⟨k,hk,rfl,rfl,rfl,HZ,HB⟩:=hrel;have BW:=ae (A0.i.k (HB.i.P (by omega)));by_cases ZT:k<n
  ·obtain⟨p0,p1,p2,p3,⟨a0,r,p4,q4⟩,⟨a1,s,p5,q5⟩⟩:=(K.i.aa BW.i ly).2 k ZT;have ph:=ae (Fz n0 f0 n1 f1 f k);obtain⟨L,ZR⟩:∃W:E,wr.alloc (N #[U (f k).e,J I (f k).m,J I (f k).M,U (f k).H,Y a0 (f k).h r,Y a1 (f k).f s] 58)=W:=⟨_,rfl⟩
   obtain⟨D1,-,JM⟩:=nb1 ZR;have l:=ae ZR;clear ZR;have B1:=ae (HB.i.alloc (by have:=HB.i.size;omega) (N #[U (f k).e,J I (f k).m,J I (f k).M,U (f k).H,Y a0 (f k).h r,Y a1 (f k).f s] 58));have QI:=ae (show SlIns wr a0 (f k).h (f k).u/\SlLink wr a1 (f k).f (f k).l from⟨q4,q5⟩);have QJ:=ae (And.intro (QI.i.1.aa D1.i ly) (QI.i.2.aa D1.i ly));have e0:ZU L (Q (B (A wr)) 0 Z)=T (U (f k).e):=by rw[<-l.i];simp
   have e1:ZU L (Q (B (A wr)) 1 Z)=T (J I (f k).m):=by rw[<-l.i];simp
   have e2:ZU L (Q (B (A wr)) 2 Z)=T (J I (f k).M):=by rw[<-l.i];simp
   have e3:ZU L (Q (B (A wr)) 3 Z)=T (U (f k).H):=by rw[<-l.i];simp
   have e4:ZU L (Q (B (A wr)) 4 Z)=T (Y a0 (f k).h r):=by rw[<-l.i];simp
   have e5:ZU L (Q (B (A wr)) 5 Z)=T (Y a1 (f k).f s):=by rw[<-l.i];simp
   have JH:B (A w)+1<=B (A wr):=by have:=HB.i.size;omega
   clear q4 q5;go_wp2;clear p0 p1 p2 p3 p4 p5 D1;rw[l.i] at B1 ⊢;clear l;generalize (B (A wr))=t at e0 e1 e2 e3 e4 e5 JM JH ⊢;go_loopw [6,7,23] (λc6 c7 i w2=>∃j:Nat,j<=4/\c6=J I 0/\c7=J I 0/\i=J I j/\Hid (1<=j->gD n0 f0 n1 f1 (f k)=ZA)/\Hid (2<=j->hasB n0 f0 n1 f1 (f k)=ZA)/\Hid (3<=j->jS f k=ZA)/\Hid (4<=j->py f k=ZA)/\Hid (Below (t+1) L w2)) (λ_ _ i _=>4 - (intOf i).toNat);case atStart=>exact⟨0,by omega,rfl,rfl,rfl,(λh=>by omega),(λh=>by omega),(λh=>by omega),(λh=>by omega),a8 _ _⟩
   case round =>
    obtain⟨j,hj,rfl,rfl,rfl,V,N1,N2,N3,g⟩:=hrel;have ZO:=ae (B1.i.k (g.i.P (by omega)));have D:=ae (A0.i.k (ZO.i.P (by omega)));have GS:=(D.i.O (p:=(Q b 0 Z)) x).k G.i.1;have At:=(D.i.O (p:=(Q b 1 Z)) x).k G.i.2.1;have JI:=(D.i.O (p:=(Q b 2 Z)) x).k G.i.2.2.1;have JL:=(D.i.O (p:=(Q b 3 Z)) x).k G.i.2.2.2.1;have ur:=(D.i.O (p:=(Q b 4 Z)) x).k G.i.2.2.2.2.1;have Hx:=(D.i.O (p:=(Q b 5 Z)) x).k G.i.2.2.2.2.2.1;have DE:=(D.i.O (p:=(Q b 6 Z)) x).k G.i.2.2.2.2.2.2.1;have Id:=(D.i.O (p:=(Q b 7 Z)) x).k G.i.2.2.2.2.2.2.2;have JK:=(g.i.O (p:=(Q t 0 Z)) (eL t)).k e0;have JN:=(g.i.O (p:=(Q t 1 Z)) (eL t)).k e1;have Fd:=(g.i.O (p:=(Q t 2 Z)) (eL t)).k e2;have th:=(g.i.O (p:=(Q t 3 Z)) (eL t)).k e3;have Bk:=(g.i.O (p:=(Q t 4 Z)) (eL t)).k e4;have Fk:=(g.i.O (p:=(Q t 5 Z)) (eL t)).k e5;have g0:=(ZO.i.O (p:=(Q (B (A w)) 0 Z)) (eL (B (A w)))).k m0;have g1:=(ZO.i.O (p:=(Q (B (A w)) 1 Z)) (eL (B (A w)))).k m1;have g2:=(ZO.i.O (p:=(Q (B (A w)) 2 Z)) (eL (B (A w)))).k m2;have ZN:t<B (A wr):=by have:=g.i.size;omega
    have hs2:B (A w)<B (A wr):=by omega
    have hs3:b<B (A wr):=by omega
    rcases(show(True/\j=0)\/(True/\j=1)\/(True/\j=2)\/(True/\j=3)\/j=4 by rcases(show j=0\/j=1\/j=2\/j=3\/j=4 by omega) with h|h|h|h|h<;>simp[h]) with⟨M0,rfl⟩|⟨M1,rfl⟩|⟨M2,rfl⟩|⟨M3,rfl⟩|rfl;rotate_left 4
    ·have q:Hid (dx n0 f0 n1 f1 f k=0):=by show _=_;rw[ph.i,eI (by rw[V.i (by omega)];simp),eI (by rw[N1.i (by omega)];simp),eI (by rw[N2.i (by omega)];simp),eI (by rw[N3.i (by omega)];simp)]
     go_wp2
     exact⟨⟨k+1,by omega,rfl,rfl,by go_num,λj hj=>by
      by_cases e:j=k;{subst e;exact q.i}
      ·exact HZ.i j (by omega),ZO.i⟩,by simp[intOf];omega⟩
    all_goals
     have Fm:=λ(w:E) (a:Addr) (m:Mode) (F:Nat)=>run_store Pg w a (.func (.func F) #[] #[]) m rfl;go_wp2_with fail;clear JK JN Fd th Bk Fk g0 g1 g2 GS At JI JL ur Hx DE Id Fm;generalize hW:World.alloc wr _=WX;obtain⟨DC,kc,hzx⟩:=nb1 hW;clear hW;have z:=ae (D.i.k (DC.i.P D.i.size));have ZQ:=ae (And.intro ((QJ.i.1.aa g.i (by omega)).aa DC.i ly) ((QJ.i.2.aa g.i (by omega)).aa DC.i ly));have BC:=ae (g.i.k (DC.i.P (by have:=g.i.size;omega)));first
      |(guard_hyp M0;refine(FG H o n j_ y n0 C f0 u n1 ZW f1 (f k) a0 r a1 s _ hn0 hn1 (mv.i.aa z.i ly) (bt.i.aa z.i ly) qr.i fd.i ZQ.i.1 (JJ.i k ZT) JG.i).P ?_)
      |(guard_hyp M1;refine(zn H o n j_ y n0 C f0 u n1 ZW f1 (f k) a0 r a1 s _ hn0 hn1 (mv.i.aa z.i ly) (bt.i.aa z.i ly) qr.i fd.i ZQ.i.2 (DQ.i k ZT)).P ?_)
      |(guard_hyp M2;refine(xq y n0 C u n1 ZW H o n j_ f k a0 r a1 s _ ZP.i ZT (K.i.aa z.i ly) ZQ.i.1 ZQ.i.2 (ex.i.aa z.i n8) (ZM.i.aa z.i ly)).P ?_)
      |(guard_hyp M3;refine(BP y n0 C u n1 ZW H o n j_ f k a0 r a1 s _ ZP.i ZT (K.i.aa z.i ly) ZQ.i.1 ZQ.i.2 (ex.i.aa z.i n8) (ZM.i.aa z.i ly)).P ?_)
     rintro e w3⟨rfl,hB⟩;have W3:=ae (z.i.k (hB.P z.i.size));have C3:=ae (BC.i.k (hB.P (by have:=BC.i.size;omega)));have cz:=FH ((hB.p _ (by omega)).k kc.i);clear hB kc;first
      |(guard_hyp M0;cases hb:gD n0 f0 n1 f1 (f k))
      |(guard_hyp M1;cases hb:hasB n0 f0 n1 f1 (f k))
      |(guard_hyp M2;cases hb:jS f k)
      |(guard_hyp M3;cases hb:py f k)
     ·have M:=ae hb
      go_wp2;first
       |(guard_hyp M0;exact⟨⟨1,by omega,rfl,rfl,by go_num,(λ_=>M.i),(λh=>by omega),(λh=>by omega),(λh=>by omega),C3.i⟩,by simp[intOf]⟩)
       |(guard_hyp M1;exact⟨⟨2,by omega,rfl,rfl,by go_num,(λ_=>V.i (by omega)),(λ_=>M.i),(λh=>by omega),(λh=>by omega),C3.i⟩,by simp[intOf]⟩)
       |(guard_hyp M2;exact⟨⟨3,by omega,rfl,rfl,by go_num,(λ_=>V.i (by omega)),(λ_=>N1.i (by omega)),(λ_=>M.i),(λh=>by omega),C3.i⟩,by simp[intOf]⟩)
       |(guard_hyp M3;exact⟨⟨4,by omega,rfl,rfl,by go_num,(λ_=>V.i (by omega)),(λ_=>N1.i (by omega)),(λ_=>N2.i (by omega)),(λ_=>M.i),C3.i⟩,by simp[intOf]⟩)
     ·have q:=ph.i
      (try rw[V.i (by omega)] at q)
      (try rw[N1.i (by omega)] at q)
      (try rw[N2.i (by omega)] at q)
      rw[hb] at q;simp at q;have O:=HR.i;rw[ju ZT HZ.i (by rw[q];decide),q] at O;replace O:=ae O;clear q;go_wp2;try rw[XO]
      go_ret2;exact⟨by simp[O.i],W3.i⟩
  ·obtain rfl:k=n:=by omega
   have O:Hid (R=(0,0)):=by show _=_;rw[HR.i];exact nW HZ.i
   go_wp2;try rw[XO]
   go_ret2;exact⟨by simp[O.i],BW.i⟩
