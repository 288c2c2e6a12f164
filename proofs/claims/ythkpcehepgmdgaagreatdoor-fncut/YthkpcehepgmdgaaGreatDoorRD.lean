import Derived.Test.YthkpcehepgmdgaaGreatDoorRA
import Derived.Test.YthkpcehepgmdgaaGreatDoorSK
import Derived.Laws.StructEq
set_option maxRecDepth 100000
set_option maxHeartbeats 8000000
open Go renaming Addr.mk->Q,Value.slice->Z,Value.string->U,Value.int->J,Value.bool->ZC,Value.agg->ZH,Obj.cells->N,IntKind.i64->I,World->G,Ending.returned->ZG,World.heap->h,World.cell?->ZT,Proofs.Tryz.prog->Pg
open Option renaming none->Y,some->T
open Bool renaming false->ZB,true->ZF
open Array renaming size->A
namespace Go.Proofs.YthkpcehepgmdgaaGreatDoor.Vp
open Tryz RowKit
theorem ux (x y:Ins)(w:G):(binOp .neq 90 (ZH #[J I x.op,U x.s,J I x.n]) (ZH #[J I y.op,U y.s,J I y.n])).run Pg w=.ok (ZC (!jQ x y)) w:=by
 have f:Pg.underlying 90=T (.struct (Pg.fieldsOf 90)):=by kernel_rfl
 have g:Pg.stoodInHeld 90=ZB:=by kernel_rfl
 rw[run_neq_struct,show(10000:Nat)=9999+1 from rfl,run_equalIn_agg w 9999 90 _ _ f g];simp only[Program.fieldsOf,underlying90];go_simp;unfold jQ;by_cases h1:x.op=y.op<;>by_cases h2:x.s.toList=y.s.toList<;>by_cases b:x.n=y.n<;>simp[h1,h2,b]
theorem uy (b off n cap:Nat)(f:Nat->Ins)(y ZV o:Nat)(g:Nat->Ins)(w:G)(hn:n<=1048576)(x:RowIns w b off n f)(z:RowIns w y ZV n g):Calls Pg 107 #[Z (T (Q b off Y)) n cap,Z (T (Q y ZV Y)) n o] w λe E=>e=ZG (ZC (cX f g n))/\∃m,E=w.drewN m:=by
 have ZS:=ae x;have D:=ae z;clear x z;go_enter func107,ntmps107;go_wp2;go_loopw [13] (λi wr=>∃k:Nat,k<=n/\i=J I k/\Hid (cX f g k=ZF)/\Hid (∃q,wr=w.drewN q)) (λi _=>n - (intOf i).toNat);case atStart=>exact⟨0,by omega,rfl,rfl,0,rfl⟩
 case round =>
  obtain⟨k,hk,rfl,u,s⟩:=hrel;have t:Hid (Below (A (h w)) w wr):=by obtain⟨q,p⟩:=s.out;rw[p];exact BG br q
  by_cases j:k<n
  ·obtain⟨c0,c1,c2⟩:=(ZS.out.aa t.out ly).2 k j;obtain⟨B,C,H⟩:=(D.out.aa t.out ly).2 k j;have hlt2:(k:Int)<n:=by omega
   have ZU:=ux (f k) (g k);go_wp2_with fail;go_quiet (fail);have l:Hid (∃q,wr.drewN nq=w.drewN q):=by obtain⟨q,p⟩:=s.out;exact⟨q+nq,by rw[p,World.drewN_drewN]⟩
   clear c0 c1 c2 B C H ZU;generalize wr.drewN nq=W at l ⊢;cases hb:jQ (f k) (g k) with
   |true =>have r:=ae hb;clear hb;go_wp2;exact⟨⟨k+1,by omega,by go_num,by show cX f g (k+1)=ZF;rw[cX,u.out,r.out];rfl,l.out⟩,by simp[intOf];omega⟩
   |false =>have r:=ae hb;clear hb;go_wp2;go_ret;exact⟨be (jR j r.out).symm,l.out⟩
  ·obtain rfl:k=n:=by omega
   go_wp2;go_ret;exact⟨be u.out.symm,s.out⟩
theorem mQ (a:Option Addr)(cap:Nat)(f:Option Addr)(b:Nat)(w:G):Calls Pg 107 #[Z a 0 cap,Z f 0 b] w λe g=>e=ZG (ZC ZF)/\g=w:=by
 go_enter func107,ntmps107;go_wp2;go_loop [13] (λi=>i=J I 0) (λ_=>0);case atStart=>rfl
 case round =>subst hrel;go_wp2;go_ret;exact⟨rfl,rfl⟩
theorem uA (a:Option Addr)(n cap:Nat)(f:Option Addr)(m b:Nat)(w:G)(ZV:(n:Int)≠m):Calls Pg 107 #[Z a n cap,Z f m b] w λe g=>e=ZG (ZC ZB)/\g=w:=by
 have h2:((n:Int) == (m:Int))=ZB:=by simpa using ZV
 go_enter func107,ntmps107;go_wp2;go_ret;exact⟨rfl,rfl⟩
theorem uB (a:Option Addr)(n cap:Nat)(f:Nat->Ins)(j:Option Addr)(m i:Nat)(g:Nat->Ins)(w:G)(hn:n<=1048576)(hm:m<=1048576)(s:SlIns w a n f)(t:SlIns w j m g):Calls Pg 107 #[Z a n cap,Z j m i] w λe l=>e=ZG (ZC (cK f g n m))/\∃m,l=w.drewN m:=by
 by_cases ZV:n=m
 ·subst ZV;have o:cK f g n n=cX f g n:=by simp[cK]
  rw[o];rcases s with rfl|⟨b,off,rfl,s⟩
  {exact(mQ a cap j i w).mono λe l ⟨p,q⟩=>⟨p,0,by rw[q];rfl⟩}
  ·rcases t with rfl|⟨u,r,rfl,t⟩
   {exact(mQ _ cap j i w).mono λe l ⟨p,q⟩=>⟨p,0,by rw[q];rfl⟩};{exact uy b off n cap f u r i g w hn s t}
 ·have o:cK f g n m=ZB:=by simp[cK,ZV]
  rw[o];exact(uA a n cap j m i w (by omega)).mono λe l ⟨p,q⟩=>⟨p,0,by rw[q];rfl⟩
theorem yJ (b off n cap:Nat)(f:Nat->Ins)(r ZV l:Nat)(g:Nat->Ins)(w:G)(hn:n<=1048576)(ZU:RowIns w b off n f)(B:RowIns w r ZV n g):Calls Pg 66 #[ZH #[Z (T (Q b off Y)) n cap],ZH #[Z (T (Q r ZV Y)) n l]] w λe M=>e=ZG (ZC (cX f g n))/\Below (A (h w)) w M:=by
 obtain⟨W,m⟩:∃W:G,(w.alloc (N #[Z (T (Q b off Y)) n cap] 41)).alloc (N #[Z (T (Q r ZV Y)) n l] 41)=W:=⟨_,rfl⟩
 obtain⟨u,-,-,-⟩:=nb2 m;have j:=ae m;clear m;have ZS:ZT W (Q (A (h w)) 0 Y)=T (Z (T (Q b off Y)) n cap):=by rw[<-j.out];simp[go_sem]
 have K:ZT W (Q (A (h w)+1) 0 Y)=T (Z (T (Q r ZV Y)) n l):=by rw[<-j.out];simp[go_sem]
 have hz:A (h w)+1<A (h W):=by rw[<-j.out];simp
 have ZO:=ae ZU;have ZQ:=ae B;clear ZU B;go_enter func66,ntmps66;go_wp2;rw[j.out];clear j;go_loopw [5] (λi wr=>∃k:Nat,k<=n/\i=J I k/\Hid (cX f g k=ZF)/\Hid (Below (A (h W)) W wr)) (λi _=>n - (intOf i).toNat);case atStart=>exact⟨0,by omega,rfl,rfl,cM _ _⟩
 case round =>
  obtain⟨k,hk,rfl,z,q⟩:=hrel;have s:=ae (u.out.trans (q.out.mono u.out.size));have ZP:=(q.out.cell (p:=(Q (A (h w)) 0 Y)) (by show (A (h w))<_;omega)).trans ZS;have L:=(q.out.cell (p:=(Q (A (h w)+1) 0 Y)) hz).trans K;have y:A (h w)+1<A (h wr):=lj hz q.out.size;by_cases o:k<n
  ·obtain⟨c0,c1,c2⟩:=(ZO.out.aa s.out ly).2 k o;obtain⟨E,H,O⟩:=(ZQ.out.aa s.out ly).2 k o;have hlt2:(k:Int)<n:=by omega
   have D:=ux (f k) (g k);go_wp2_with fail;go_quiet (fail);have x:=ae (BG q.out nq);have C:=ae (BG s.out nq);clear c0 c1 c2 E H O D ZP L y;generalize wr.drewN nq=W' at x C ⊢;cases hb:jQ (f k) (g k) with
   |true =>have t:=ae hb;clear hb;go_wp2;exact⟨⟨k+1,by omega,by go_num,by show cX f g (k+1)=ZF;rw[cX,z.out,t.out];rfl,x.out⟩,by simp[intOf];omega⟩
   |false =>have t:=ae hb;clear hb;go_wp2;go_ret;exact⟨be (jR o t.out).symm,C.out⟩
  ·obtain rfl:k=n:=by omega
   go_wp2;go_ret;exact⟨be z.out.symm,s.out⟩
theorem pM (a:Option Addr)(cap:Nat)(f:Option Addr)(b:Nat)(w:G):Calls Pg 66 #[ZH #[Z a 0 cap],ZH #[Z f 0 b]] w λe ZV=>e=ZG (ZC ZF)/\Below (A (h w)) w ZV:=by
 have g:=ae (((q9 w).alloc ly (N #[Z a 0 cap] 41)).alloc (by simp) (N #[Z f 0 b] 41));go_enter func66,ntmps66;go_wp2;go_loop [5] (λi=>i=J I 0) (λ_=>0);case atStart=>rfl
 case round =>subst hrel;go_wp2;go_ret;exact⟨rfl,g.out⟩
theorem yK (a:Option Addr)(n cap:Nat)(f:Option Addr)(m b:Nat)(w:G)(ZV:(n:Int)≠m):Calls Pg 66 #[ZH #[Z a n cap],ZH #[Z f m b]] w λe i=>e=ZG (ZC ZB)/\Below (A (h w)) w i:=by
 have g:=ae (((q9 w).alloc ly (N #[Z a n cap] 41)).alloc (by simp) (N #[Z f m b] 41));have h2:((n:Int) == (m:Int))=ZB:=by simpa using ZV
 go_enter func66,ntmps66;go_wp2;go_ret;exact⟨rfl,g.out⟩
theorem yM (a:Option Addr)(n cap:Nat)(f:Nat->Ins)(j:Option Addr)(m i:Nat)(g:Nat->Ins)(w:G)(hn:n<=1048576)(hm:m<=1048576)(p:SlIns w a n f)(q:SlIns w j m g):Calls Pg 66 #[ZH #[Z a n cap],ZH #[Z j m i]] w λe s=>e=ZG (ZC (cK f g n m))/\Below (A (h w)) w s:=by
 by_cases ZV:n=m
 ·subst ZV;have l:cK f g n n=cX f g n:=by simp[cK]
  rw[l];rcases p with rfl|⟨b,off,rfl,p⟩
  {exact pM a cap j i w}
  ·rcases q with rfl|⟨r,o,rfl,q⟩
   {exact pM _ cap j i w};{exact yJ b off n cap f r o i g w hn p q}
 ·have l:cK f g n m=ZB:=by simp[cK,ZV]
  rw[l];exact yK a n cap j m i w (by omega)
theorem Av (d:af)(a0:Option Addr)(x:Nat)(a1:Option Addr)(K:Nat)(q:Option Addr)(n0 B:Nat)(f0:Nat->Source)(u:Option Addr)(n1 z:Nat)(f1:Nat->Target)(w:G)(hn0:(n0:Int)<=1048576)(hn1:(n1:Int)<=1048576)(R:SlSource w q n0 f0)(S:SlTarget w u n1 f1)(ZK:aJ (nm0 f0) n0=ZF)(ZJ:aJ (nm1 f1) n1=ZF)(hI:SlIns w a0 d.l d.u)(la:d.l<=1048576)(X:∀i,i<n1->aU (f1 i)):Calls Pg 30 #[ZH #[U d.e,J I d.H,J I d.E,U d.B,Z a0 d.l x,Z a1 d.f K],ZH #[Z q n0 B,Z u n1 z]] w λe w'=>e=ZG (ZC (!gU n0 f0 n1 f1 d))/\Below (A (h w)) w w':=by
 obtain⟨r,hr⟩:∃r,r=gU n0 f0 n1 f1 d:=⟨_,rfl⟩
 rw[<-hr];have E:=ae (show r=if d.H=1 then !jU n0 f0 d.e d.B else if d.H=3 then !jV n1 f1 d.e d.l d.u else jn n0 f0 n1 f1 d.e from hr);clear hr;obtain⟨W,L⟩:∃W:G,(w.alloc (N #[U d.e,J I d.H,J I d.E,U d.B,Z a0 d.l x,Z a1 d.f K] 44)).alloc (N #[Z q n0 B,Z u n1 z] 33)=W:=⟨_,rfl⟩
 obtain⟨O,-,-,-⟩:=nb2 L;have g:=ae L;clear L;have ZQ:=ae R;have ZS:=ae S;have n7:=ae ZK;have ld:=ae ZJ;have HI:=ae hI;have fd:=ae X;clear R S ZK ZJ hI X;have c0:ZT W (Q (A (h w)) 0 Y)=T (U d.e):=by rw[<-g.out];simp[go_sem]
 have c1:ZT W (Q (A (h w)) 1 Y)=T (J I d.H):=by rw[<-g.out];simp[go_sem]
 have c3:ZT W (Q (A (h w)) 3 Y)=T (U d.B):=by rw[<-g.out];simp[go_sem]
 have c4:ZT W (Q (A (h w)) 4 Y)=T (Z a0 d.l x):=by rw[<-g.out];simp[go_sem]
 have c5:ZT W (Q (A (h w)+1) 0 Y)=T (Z q n0 B):=by rw[<-g.out];simp[go_sem]
 have c6:ZT W (Q (A (h w)+1) 1 Y)=T (Z u n1 z):=by rw[<-g.out];simp[go_sem]
 have hz:A (h w)+1<A (h W):=by rw[<-g.out];simp
 go_enter func30,ntmps30;go_wp2_with fail;rw[g.out];clear g;refine(ki q n0 B u n1 z f0 d.e _ hn0 (ZQ.out.aa O.out ly)).mono ?_;rintro e w1 ⟨s,rfl,ZL,f⟩;have ZP:=ae ZL;have ZN:=ae (O.out.trans (f.mono O.out.size));have m:A (h w)<A (h W):=by omega
 have x0:=(f.cell (p:=(Q (A (h w)) 0 Y)) m).trans c0;have x1:=(f.cell (p:=(Q (A (h w)) 1 Y)) m).trans c1;have x3:=(f.cell (p:=(Q (A (h w)) 3 Y)) m).trans c3;have x4:=(f.cell (p:=(Q (A (h w)) 4 Y)) m).trans c4;have x5:=(f.cell (p:=(Q (A (h w)+1) 0 Y)) hz).trans c5;have x6:=(f.cell (p:=(Q (A (h w)+1) 1 Y)) hz).trans c6;have D:A (h w)+1<A (h w1):=lj hz f.size;clear f ZL O c0 c1 c3 c4 c5 c6 hz m;go_wp2_with fail;refine(kf q n0 B u n1 z f1 d.e _ hn1 (ZS.out.aa ZN.out ly)).mono ?_;rintro e P ⟨t,rfl,ZM,f⟩;have H:=ae ZM;have j:=ae (ZN.out.trans (f.mono ZN.out.size));have m:A (h w)<A (h w1):=by omega
 have y1:=(f.cell (p:=(Q (A (h w)) 1 Y)) m).trans x1;have y3:=(f.cell (p:=(Q (A (h w)) 3 Y)) m).trans x3;have y4:=(f.cell (p:=(Q (A (h w)) 4 Y)) m).trans x4;have y5:=(f.cell (p:=(Q (A (h w)+1) 0 Y)) D).trans x5;have y6:=(f.cell (p:=(Q (A (h w)+1) 1 Y)) D).trans x6;have hz2:A (h w)+1<A (h P):=lj D f.size;clear f ZM ZN x0 x1 x3 x4 x5 x6 D m;by_cases ZU:d.H=1
 ·have n:Hid (r=!jU n0 f0 d.e d.B):=by show _=_;rw[E.out,hU ZU]
  rw[ZU] at y1;clear E;rcases ZP.out with ⟨rfl,ZO⟩|⟨i,rfl,o,y⟩
  ·obtain rfl:r=ZF:=by rw[n.out];unfold jU;rw[kV ZO];rfl
   clear ZP ZO;have hg:decide ((0:Int)<=-1)=ZB:=rfl;go_wp2_with fail;go_quiet (fail);go_wp2;go_ret;exact⟨rfl,BG j.out _⟩
  ·have ZV:Hid (r=!((f0 i).B.toList == d.B.toList)):=by show _=_;rw[n.out];unfold jU;rw[nd n7.out o y]
   obtain⟨b,off,rfl,l⟩:=ZQ.out.resolve_left (by omega);obtain⟨e0,e1⟩:=(l.aa j.out ly).2 i o;have aq:(i:Int)<n0:=by omega
   have bt:decide ((0:Int)<=i)=ZF:=MR (by omega);clear ZP y l n ZQ;cases M:((f0 i).B.toList == d.B.toList) with
   |true =>
    obtain rfl:r=ZB:=by rw[ZV.out,M];rfl
    go_wp2_with fail;go_quiet (fail);go_wp2;go_ret;exact⟨rfl,BG j.out _⟩
   |false =>
    obtain rfl:r=ZF:=by rw[ZV.out,M];rfl
    go_wp2_with fail;go_quiet (fail);go_wp2;go_ret;exact⟨rfl,BG j.out _⟩
 ·by_cases C:d.H=3
  ·have n:Hid (r=!jV n1 f1 d.e d.l d.u):=by show _=_;rw[E.out,eT ZU,hU C]
   rw[C] at y1;clear E;rcases H.out with ⟨rfl,ZO⟩|⟨i,rfl,o,y⟩
   ·obtain rfl:r=ZF:=by rw[n.out];unfold jV;rw[kV ZO];rfl
    clear H ZO;have hg:decide ((0:Int)<=-1)=ZB:=rfl;go_wp2_with fail;go_quiet (fail);go_wp2;go_ret;exact⟨rfl,BG j.out _⟩
   ·have ZV:Hid (r=!cK (f1 i).u d.u (f1 i).l d.l):=by show _=_;rw[n.out];unfold jV;rw[nd ld.out o y]
    obtain⟨b,off,rfl,l⟩:=ZS.out.resolve_left (by omega);obtain⟨e0,ka,kc,e1,q1⟩:=(l.aa j.out ly).2 i o;have Q1:=ae (show SlIns P ka (f1 i).l (f1 i).u from q1);have aq:(i:Int)<n1:=by omega
    have bt:decide ((0:Int)<=i)=ZF:=MR (by omega);clear H y l n ZS q1;have EQ:=ae (λW (f:Below (A (h P)) P W)=>yM ka (f1 i).l kc (f1 i).u a0 d.l x d.u W (fd.out i o) la (Q1.out.aa f ly) ((HI.out.aa j.out ly).aa f ly));generalize cK (f1 i).u d.u (f1 i).l d.l=c at ZV EQ;go_wp2_with fail
    go_region_with (first
     |(go_at_call 66;refine(EQ.out _ ?_).mono ?_;(first|exact cM _ _|exact br.drew);rintro e w3 ⟨rfl,f⟩))
    all_goals
     go_simp;go_wp2;go_ret;exact⟨by simp[ZV.out],j.out.trans (Below.mono ⟨f.os,f.tape,f.output,f.size,f.block⟩ j.out.size)⟩
  ·have n:Hid (r=jn n0 f0 n1 f1 d.e):=by show _=_;rw[E.out,eT ZU,eT C]
   have hk1b:(d.H == 1)=ZB:=by simpa using ZU
   have hk3b:(d.H == 3)=ZB:=by simpa using C
   have ZV:Hid (r=(decide (0<=s) || decide (0<=t))):=by show _=_;rw[n.out];unfold jn;rw[ZP.out.has,H.out.has]
   clear E n ZP H;by_cases hs:0<=s
   ·obtain rfl:r=ZF:=by rw[ZV.out];simp[hs]
    have ex:¬ s<0:=by omega
    go_wp2;go_ret;exact⟨rfl,j.out⟩
   ·have ex:s<0:=by omega
    by_cases M:0<=t
    ·obtain rfl:r=ZF:=by rw[ZV.out];simp[M]
     have V:¬ t<0:=by omega
     go_wp2;go_ret;exact⟨by simp[V],j.out⟩
    ·obtain rfl:r=ZB:=by rw[ZV.out];simp[hs,M]
     have V:t<0:=by omega
     go_wp2;go_ret;exact⟨rfl,j.out⟩
theorem Dk (ZJ L n cap:Nat)(o:Option Addr)(n0 y:Nat)(f0:Nat->Source)(t:Option Addr)(n1 x:Nat)(f1:Nat->Target)(d:af)(a0:Option Addr)(z:Nat)(a1:Option Addr)(K:Nat)(w:G)(hn0:(n0:Int)<=1048576)(hn1:(n1:Int)<=1048576)(ZO:SlSource w o n0 f0)(O:SlTarget w t n1 f1)(P:aJ (nm0 f0) n0=ZF)(ZN:aJ (nm1 f1) n1=ZF)(ZM:SlIns w a0 d.l d.u)(ZK:d.l<=1048576)(M:∀i,i<n1->aU (f1 i)):Calls Pg 71 #[ZH #[Z (T (Q ZJ L Y)) n cap,Z o n0 y,Z t n1 x],ZH #[U d.e,J I d.H,J I d.E,U d.B,Z a0 d.l z,Z a1 d.f K]] w λe w'=>e=ZG (ZC (gU n0 f0 n1 f1 d))/\Below (A (h w)) w w':=by
 obtain⟨r,R⟩:∃r,r=gU n0 f0 n1 f1 d:=⟨_,rfl⟩
 rw[<-R];have ZP:=ae (show r=if d.H=1 then !jU n0 f0 d.e d.B else if d.H=3 then !jV n1 f1 d.e d.l d.u else jn n0 f0 n1 f1 d.e from R);clear R;have f:=ae (((q9 w).alloc ly (N #[Z (T (Q ZJ L Y)) n cap,Z o n0 y,Z t n1 x] 129)).alloc (by simp) (N #[U d.e,J I d.H,J I d.E,U d.B,Z a0 d.l z,Z a1 d.f K] 44));have H:=ae ZO;have E:=ae O;have ZQ:=ae P;have ZS:=ae ZN;have HI:=ae ZM;have W:=ae M;clear ZO O P ZN ZM M;by_cases C:d.H=1
 ·have ZU:Hid (r=!jU n0 f0 d.e d.B):=by show _=_;rw[ZP.out,hU C]
  clear ZP;rw[C] at f ⊢;go_enter func71,ntmps71;go_wp2_with fail;refine(kj o n0 y t n1 x f0 d.e _ hn0 (H.out.aa f.out ly) ZQ.out).mono ?_;rintro e j ⟨i,rfl,hi,h1,h2,g⟩;have ZV:=mZ ZQ.out hi h1 h2;have g1:ZT j (Q (A (h w)) 1 Y)=T (Z o n0 y):=(g.cell (p:=(Q (A (h w)) 1 Y)) (by simp;omega)).trans (by simp[go_sem]);have d3:ZT j (Q (A (h w)+1) 3 Y)=T (U d.B):=(g.cell (p:=(Q (A (h w)+1) 3 Y)) (by simp)).trans (by simp[go_sem]);have ZL:A (h w)+1<A (h j):=by have:=g.size;simp at this;omega
  have l:=ae (f.out.trans (g.mono f.out.size));clear g h1 h2 f;cases hq:aG (nm0 f0) n0 d.e with
  |false =>
   obtain rfl:r=ZF:=by rw[ZU.out];unfold jU;rw[kV hq];rfl
   clear ZV;go_wp2_with fail;go_quiet (fail);go_wp2;go_ret;exact⟨rfl,BG l.out _⟩
  |true =>
   rw[hq] at ZV;obtain⟨u,B⟩:i<n0/\((nm0 f0 i).toList == d.e.toList)=ZF:=by simpa using ZV.symm
   have m:Hid (r=!((f0 i).B.toList == d.B.toList)):=by show _=_;rw[ZU.out];unfold jU;rw[nd ZQ.out u B]
   obtain⟨b,off,rfl,s⟩:=H.out.resolve_left (by omega);obtain⟨e0,e1⟩:=(s.aa l.out ly).2 i u;have S:(i:Int)<n0:=by omega
   clear ZV B s ZU H;cases ht:((f0 i).B.toList == d.B.toList) with
   |true =>
    obtain rfl:r=ZB:=by rw[m.out,ht];rfl
    go_wp2_with fail;go_quiet (fail);go_wp2;go_ret;exact⟨rfl,BG l.out _⟩
   |false =>
    obtain rfl:r=ZF:=by rw[m.out,ht];rfl
    go_wp2_with fail;go_quiet (fail);go_wp2;go_ret;exact⟨rfl,BG l.out _⟩
 ·by_cases D:d.H=3
  ·have ZU:Hid (r=!jV n1 f1 d.e d.l d.u):=by show _=_;rw[ZP.out,eT C,hU D]
   clear ZP;rw[D] at f ⊢;go_enter func71,ntmps71;go_wp2_with fail;refine(kl o n0 y t n1 x f1 d.e _ hn1 (E.out.aa f.out ly) ZS.out).mono ?_;rintro e j ⟨i,rfl,hi,h1,h2,g⟩;have ZV:=mZ ZS.out hi h1 h2;have g2:ZT j (Q (A (h w)) 2 Y)=T (Z t n1 x):=(g.cell (p:=(Q (A (h w)) 2 Y)) (by simp;omega)).trans (by simp[go_sem]);have d4:ZT j (Q (A (h w)+1) 4 Y)=T (Z a0 d.l z):=(g.cell (p:=(Q (A (h w)+1) 4 Y)) (by simp)).trans (by simp[go_sem]);have ZL:A (h w)+1<A (h j):=by have:=g.size;simp at this;omega
   have l:=ae (f.out.trans (g.mono f.out.size));clear g h1 h2 f;cases hq:aG (nm1 f1) n1 d.e with
   |false =>
    obtain rfl:r=ZF:=by rw[ZU.out];unfold jV;rw[kV hq];rfl
    clear ZV;go_wp2_with fail;go_quiet (fail);go_wp2;go_ret;exact⟨rfl,BG l.out _⟩
   |true =>
    rw[hq] at ZV;obtain⟨u,B⟩:i<n1/\((nm1 f1 i).toList == d.e.toList)=ZF:=by simpa using ZV.symm
    have m:Hid (r=!cK (f1 i).u d.u (f1 i).l d.l):=by show _=_;rw[ZU.out];unfold jV;rw[nd ZS.out u B]
    obtain⟨b,off,rfl,s⟩:=E.out.resolve_left (by omega);obtain⟨e0,V,kc,e1,q1⟩:=(s.aa l.out ly).2 i u;have Q1:=ae (show SlIns j V (f1 i).l (f1 i).u from q1);have S:(i:Int)<n1:=by omega
    clear ZV B s ZU E q1;have X:=ae (λq=>uB V (f1 i).l kc (f1 i).u a0 d.l z d.u (j.drewN q) (W.out i u) ZK (Q1.out.aa (BG br q) ly) ((HI.out.aa l.out ly).aa (BG (q9 j) q) ly));generalize cK (f1 i).u d.u (f1 i).l d.l=c at m X;go_wp2_with fail;go_quiet ((go_at_call 107;exact Calls.quiet_of (X.out _)));have B2:=ae (BG l.out nq);go_wp2;go_ret;exact⟨by simp[m.out],B2.out⟩
  ·have ZU:Hid (r=jn n0 f0 n1 f1 d.e):=by show _=_;rw[ZP.out,eT C,eT D]
   have hk1b:(d.H == 1)=ZB:=by simpa using C
   have hk3b:(d.H == 3)=ZB:=by simpa using D
   clear ZP;go_enter func71,ntmps71;go_wp2_with fail;refine(wv o n0 y f0 t n1 x f1 d.e _ hn0 hn1 (H.out.aa f.out ly) (E.out.aa f.out ly) ZQ.out ZS.out).mono ?_;rintro e j ⟨rfl,g⟩;have l:=ae (f.out.trans (g.mono f.out.size));have m:Hid ((aG (nm0 f0) n0 d.e || aG (nm1 f1) n1 d.e)=r):=ZU.out.symm;clear g;rw[m.out];go_wp2;go_ret;exact⟨rfl,l.out⟩
theorem Dl {w:G}{b:Nat}{f g:Value}{t:TypeId}{z:Nat × Nat}(ZV:w.heap[b]?=T (N #[f,g] t z)):ZT w (Q b 0 Y)=T f:=by simp[World.cell?,ZV]
theorem sD (H l n cap b:Nat)(y:Option Addr)(n0 C:Nat)(f0:Nat->Source)(u:Option Addr)(n1 ZU:Nat)(f1:Nat->Target)(f:Nat->af)(w:G)(hn:(n:Int)<=400)(hn0:(n0:Int)<=1048576)(hn1:(n1:Int)<=1048576)(ZJ:aK f n=ZF)(S:RowDeed w H l n f)(bt:SlSource w y n0 f0)(X:SlTarget w u n1 f1)(n7:aJ (nm0 f0) n0=ZF)(n8:aJ (nm1 f1) n1=ZF)(la:∀i,i<n->(f i).l<=1048576)(qr:∀i,i<n->(f i).f<=1048576)(ld:∀i,i<n1->aU (f1 i))(P:Tab2 w)(ZN:Pow w)(x:b<A (h w))
  (k0:ZT w (Q b 0 Y)=T (J I 2)) (k1:ZT w (Q b 1 Y)=T (.func (.func 71) #[] #[])) (k2:ZT w (Q b 2 Y)=T (J I 3)) (k3:ZT w (Q b 3 Y)=T (.func (.func 72) #[] #[])) (k4:ZT w (Q b 4 Y)=T (J I 4)) (k5:ZT w (Q b 5 Y)=T (.func (.func 73) #[] #[])) (k6:ZT w (Q b 6 Y)=T (J I 5)) (k7:ZT w (Q b 7 Y)=T (.func (.func 74) #[] #[])) :
  Calls Pg 70 #[ZH #[Z (T (Q H l Y)) n cap,Z y n0 C,Z u n1 ZU],Z (T (Q b 0 Y)) 4 4] w λe w'=>e=ZG (.tuple #[J I (eV (dx n0 f0 n1 f1 f) n).1,J I (eV (dx n0 f0 n1 f1 f) n).2])/\Below (A (h w)) w w':=by
 obtain⟨R,hR⟩:∃R,R=eV (dx n0 f0 n1 f1 f) n:=⟨_,rfl⟩
 rw[<-hR];have HR:=ae hR;clear hR;obtain⟨WA,ZP⟩:∃W:G,w.alloc (N #[Z (T (Q H l Y)) n cap,Z y n0 C,Z u n1 ZU] 129)=W:=⟨_,rfl⟩
 obtain⟨A0,-,hz⟩:=nb1 ZP;have B:=ae ZP;clear ZP;have m0:ZT WA (Q (A (h w)) 0 Y)=T (Z (T (Q H l Y)) n cap):=by rw[<-B.out];simp
 have m1:ZT WA (Q (A (h w)) 1 Y)=T (Z y n0 C):=by rw[<-B.out];simp
 have m2:ZT WA (Q (A (h w)) 2 Y)=T (Z u n1 ZU):=by rw[<-B.out];simp
 have ZQ:=ae S;have V:=ae ZJ;have fd:=ae bt;have ph:=ae X;have n9:=ae n7;have sm:=ae n8;have th:=ae la;have Hp:=ae qr;have DQ:=ae ld;have ex:=ae P;have ZL:=ae ZN;have aq:=P.1;have ZS:=ae (And.intro k0 (And.intro k1 (And.intro k2 (And.intro k3 (And.intro k4 (And.intro k5 (And.intro k6 k7)))))));clear S ZJ bt X n7 n8 la qr ld P ZN k0 k1 k2 k3 k4 k5 k6 k7;go_enter func70,ntmps70;go_wp2;go_step3;go_wp2;go_step3;go_wp2;rw[B.out];clear B;go_loopw [6,7,16] (λc6 c7 i wr=>∃k:Nat,k<=n/\c6=J I 0/\c7=J I 0/\i=J I k/\Hid (∀j,j<k->dx n0 f0 n1 f1 f j=0)/\Hid (Below (A (h w)+1) WA wr)) (λ_ _ i _=>n - (intOf i).toNat);case atStart=>exact⟨0,by omega,rfl,rfl,rfl,λj hj=>absurd hj (IT _),cM _ _⟩
 case round =>
  obtain⟨k,hk,rfl,rfl,rfl,HZ,HB⟩:=hrel;have BW:=ae (A0.out.trans (HB.out.mono (by omega)));by_cases E:k<n
  ·obtain⟨p0,p1,p2,p3,⟨a0,s,p4,q4⟩,⟨a1,r,p5,q5⟩⟩:=(ZQ.out.aa BW.out ly).2 k E;have ro:=ae (CY n0 f0 n1 f1 f k);obtain⟨L,K⟩:∃W:G,wr.alloc (N #[U (f k).e,J I (f k).H,J I (f k).E,U (f k).B,Z a0 (f k).l s,Z a1 (f k).f r] 44)=W:=⟨_,rfl⟩
   obtain⟨D1,-,Fd⟩:=nb1 K;have o:=ae K;clear K;have B1:=ae (HB.out.alloc (by have:=HB.out.size;omega) (N #[U (f k).e,J I (f k).H,J I (f k).E,U (f k).B,Z a0 (f k).l s,Z a1 (f k).f r] 44));have QI:=ae (show SlIns wr a0 (f k).l (f k).u/\SlLink wr a1 (f k).f (f k).m from⟨q4,q5⟩);have QJ:=ae (And.intro (QI.out.1.aa D1.out ly) (QI.out.2.aa D1.out ly));have e0:ZT L (Q (A (h wr)) 0 Y)=T (U (f k).e):=by rw[<-o.out];simp
   have e1:ZT L (Q (A (h wr)) 1 Y)=T (J I (f k).H):=by rw[<-o.out];simp
   have e2:ZT L (Q (A (h wr)) 2 Y)=T (J I (f k).E):=by rw[<-o.out];simp
   have e3:ZT L (Q (A (h wr)) 3 Y)=T (U (f k).B):=by rw[<-o.out];simp
   have e4:ZT L (Q (A (h wr)) 4 Y)=T (Z a0 (f k).l s):=by rw[<-o.out];simp
   have e5:ZT L (Q (A (h wr)) 5 Y)=T (Z a1 (f k).f r):=by rw[<-o.out];simp
   have Ho:A (h w)+1<=A (h wr):=by have:=HB.out.size;omega
   clear q4 q5;go_wp2;clear p0 p1 p2 p3 p4 p5 D1;rw[o.out] at B1 ⊢;clear o;generalize (A (h wr))=t at e0 e1 e2 e3 e4 e5 Fd Ho ⊢;go_loopw [6,7,23] (λc6 c7 i w2=>∃j:Nat,j<=4/\c6=J I 0/\c7=J I 0/\i=J I j/\Hid (1<=j->gU n0 f0 n1 f1 (f k)=ZB)/\Hid (2<=j->hasB n0 f0 n1 f1 (f k)=ZB)/\Hid (3<=j->js f k=ZB)/\Hid (4<=j->oG f k=ZB)/\Hid (Below (t+1) L w2)) (λ_ _ i _=>4 - (intOf i).toNat);case atStart=>exact⟨0,by omega,rfl,rfl,rfl,(λZV=>by omega),(λZV=>by omega),(λZV=>by omega),(λZV=>by omega),cM _ _⟩
   case round =>
    obtain⟨j,hj,rfl,rfl,rfl,ZM,N1,N2,N3,g⟩:=hrel;have ZK:=ae (B1.out.trans (g.out.mono (by omega)));have D:=ae (A0.out.trans (ZK.out.mono (by omega)));have ur:=(D.out.cell (p:=(Q b 0 Y)) x).trans ZS.out.1;have Hn:=(D.out.cell (p:=(Q b 1 Y)) x).trans ZS.out.2.1;have Bk:=(D.out.cell (p:=(Q b 2 Y)) x).trans ZS.out.2.2.1;have Hi:=(D.out.cell (p:=(Q b 3 Y)) x).trans ZS.out.2.2.2.1;have GS:=(D.out.cell (p:=(Q b 4 Y)) x).trans ZS.out.2.2.2.2.1;have Fk:=(D.out.cell (p:=(Q b 5 Y)) x).trans ZS.out.2.2.2.2.2.1;have Fm:=(D.out.cell (p:=(Q b 6 Y)) x).trans ZS.out.2.2.2.2.2.2.1;have At:=(D.out.cell (p:=(Q b 7 Y)) x).trans ZS.out.2.2.2.2.2.2.2;have Hj:=(g.out.cell (p:=(Q t 0 Y)) (gM t)).trans e0;have Hl:=(g.out.cell (p:=(Q t 1 Y)) (gM t)).trans e1;have Fn:=(g.out.cell (p:=(Q t 2 Y)) (gM t)).trans e2;have Hm:=(g.out.cell (p:=(Q t 3 Y)) (gM t)).trans e3;have DE:=(g.out.cell (p:=(Q t 4 Y)) (gM t)).trans e4;have DS:=(g.out.cell (p:=(Q t 5 Y)) (gM t)).trans e5;have g0:=(ZK.out.cell (p:=(Q (A (h w)) 0 Y)) (gM (A (h w)))).trans m0;have g1:=(ZK.out.cell (p:=(Q (A (h w)) 1 Y)) (gM (A (h w)))).trans m1;have g2:=(ZK.out.cell (p:=(Q (A (h w)) 2 Y)) (gM (A (h w)))).trans m2;have X:t<A (h wr):=by have:=g.out.size;omega
    have hs2:A (h w)<A (h wr):=by omega
    have hs3:b<A (h wr):=by omega
    rcases(show(True/\j=0)∨(True/\j=1)∨(True/\j=2)∨(True/\j=3)∨j=4 by rcases(show j=0∨j=1∨j=2∨j=3∨j=4 by omega) with ZV|ZV|ZV|ZV|ZV<;>simp[ZV]) with ⟨M0,rfl⟩|⟨M1,rfl⟩|⟨M2,rfl⟩|⟨M3,rfl⟩|rfl;rotate_left 4
    ·have q:Hid (dx n0 f0 n1 f1 f k=0):=by show _=_;rw[ro.out,eT (by rw[ZM.out (by omega)];simp),eT (by rw[N1.out (by omega)];simp),eT (by rw[N2.out (by omega)];simp),eT (by rw[N3.out (by omega)];simp)]
     go_wp2
     exact⟨⟨k+1,by omega,rfl,rfl,by go_num,λj hj=>by
      by_cases e:j=k;{subst e;exact q.out}
      ·exact HZ.out j (by omega),ZK.out⟩,by simp[intOf];omega⟩
    all_goals
     have Hk:=λ(w:G) (a:Addr) (m:Mode) (F:Nat)=>run_store Pg w a (.func (.func F) #[] #[]) m rfl;go_wp2_with fail;clear Hj Hl Fn Hm DE DS g0 g1 g2 ur Hn Bk Hi GS Fk Fm At Hk;generalize hW:World.alloc wr _=WX;obtain⟨DC,kc,hzx⟩:=nb1 hW;clear hW;have z:=ae (D.out.trans (DC.out.mono D.out.size));have O:=ae (And.intro ((QJ.out.1.aa g.out (by omega)).aa DC.out ly) ((QJ.out.2.aa g.out (by omega)).aa DC.out ly));have BC:=ae (g.out.trans (DC.out.mono (by have:=g.out.size;omega)));first
      |(guard_hyp M0;refine(Dk H l n cap y n0 C f0 u n1 ZU f1 (f k) a0 s a1 r _ hn0 hn1 (fd.out.aa z.out ly) (ph.out.aa z.out ly) n9.out sm.out O.out.1 (th.out k E) DQ.out).mono ?_)
      |(guard_hyp M1;refine(xO H l n cap y n0 C f0 u n1 ZU f1 (f k) a0 s a1 r _ hn0 hn1 (fd.out.aa z.out ly) (ph.out.aa z.out ly) n9.out sm.out O.out.2 (Hp.out k E)).mono ?_)
      |(guard_hyp M2;refine(vH y n0 C u n1 ZU H l n cap f k a0 s a1 r _ V.out E (ZQ.out.aa z.out ly) O.out.1 O.out.2 (ex.out.aa z.out aq) (ZL.out.aa z.out ly)).mono ?_)
      |(guard_hyp M3;refine(zY y n0 C u n1 ZU H l n cap f k a0 s a1 r _ V.out E (ZQ.out.aa z.out ly) O.out.1 O.out.2 (ex.out.aa z.out aq) (ZL.out.aa z.out ly)).mono ?_)
     rintro e w3 ⟨rfl,hB⟩;have W3:=ae (z.out.trans (hB.mono z.out.size));have C3:=ae (BC.out.trans (hB.mono (by have:=BC.out.size;omega)));have cz:=Dl ((hB.block _ (by omega)).trans kc.out);clear hB kc;first
      |(guard_hyp M0;cases hb:gU n0 f0 n1 f1 (f k))
      |(guard_hyp M1;cases hb:hasB n0 f0 n1 f1 (f k))
      |(guard_hyp M2;cases hb:js f k)
      |(guard_hyp M3;cases hb:oG f k)
     ·have M:=ae hb
      go_wp2;first
       |(guard_hyp M0;exact⟨⟨1,by omega,rfl,rfl,by go_num,(λ_=>M.out),(λZV=>by omega),(λZV=>by omega),(λZV=>by omega),C3.out⟩,by simp[intOf]⟩)
       |(guard_hyp M1;exact⟨⟨2,by omega,rfl,rfl,by go_num,(λ_=>ZM.out (by omega)),(λ_=>M.out),(λZV=>by omega),(λZV=>by omega),C3.out⟩,by simp[intOf]⟩)
       |(guard_hyp M2;exact⟨⟨3,by omega,rfl,rfl,by go_num,(λ_=>ZM.out (by omega)),(λ_=>N1.out (by omega)),(λ_=>M.out),(λZV=>by omega),C3.out⟩,by simp[intOf]⟩)
       |(guard_hyp M3;exact⟨⟨4,by omega,rfl,rfl,by go_num,(λ_=>ZM.out (by omega)),(λ_=>N1.out (by omega)),(λ_=>N2.out (by omega)),(λ_=>M.out),C3.out⟩,by simp[intOf]⟩)
     ·have q:=ro.out
      (try rw[ZM.out (by omega)] at q)
      (try rw[N1.out (by omega)] at q)
      (try rw[N2.out (by omega)] at q)
      rw[hb] at q;simp at q;have ZO:=HR.out;rw[iZ E HZ.out (by rw[q];decide),q] at ZO;replace ZO:=ae ZO;clear q;go_wp2;try rw[TZ]
      go_ret2;exact⟨by simp[ZO.out],W3.out⟩
  ·obtain rfl:k=n:=by omega
   have ZO:Hid (R=(0,0)):=by show _=_;rw[HR.out];exact mN HZ.out
   go_wp2;try rw[TZ]
   go_ret2;exact⟨by simp[ZO.out],BW.out⟩
