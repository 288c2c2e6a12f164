import Derived.Test.YtpmnbjkjpnclaaaGreatDoorMQ
import Derived.Laws.StructEq
set_option maxRecDepth 100000
set_option maxHeartbeats 4000000
open Go renaming Addr.mk->N,Value.slice->Y,Value.string->U,Value.int->Q,Value.bool->ZC,Value.agg->ZG,Obj.cells->J,IntKind.i64->I,World->M,Ending.returned->ZD,World.heap->A,Proofs.Tryz.prog->Pg
open Option renaming none->Z,some->T
open Bool renaming false->ZA,true->ZF
open Array renaming size->z
namespace Go.Proofs.YtpmnbjkjpnclaaaGreatDoor.Vp
open Tryz RowKit
theorem Es (x y:Ins)(w:M):(binOp .neq 151 (ZG #[Q I x.op,U x.s,Q I x.n]) (ZG #[Q I y.op,U y.s,Q I y.n])).run Pg w=.ok (ZC (!mG x y)) w:=by
 have f:Pg.underlying 151=T (.struct (Pg.fieldsOf 151)):=by kernel_rfl
 have g:Pg.stoodInHeld 151=ZA:=by kernel_rfl
 rw[run_neq_struct,show(10000:Nat)=9999+1 from rfl,run_equalIn_agg w 9999 151 _ _ f g];simp only[Program.fieldsOf,underlying151];go_simp;unfold mG;by_cases h1:x.op=y.op<;>by_cases h2:x.s.toList=y.s.toList<;>by_cases b:x.n=y.n<;>simp[h1,h2,b]
theorem vY (b off n cap:Nat)(f:Nat->Ins)(r h l:Nat)(g:Nat->Ins)(w:M)(hn:n<=1048576)(D:RowIns w b off n f)(x:RowIns w r h n g):Calls Pg 105 #[ZG #[Y (T (N b off Z)) n cap],ZG #[Y (T (N r h Z)) n l]] w λe ZM=>e=ZD (ZC (ei f g n))/\Below (z (A w)) w ZM:=by
 obtain⟨W,q⟩:∃W:M,(w.alloc (J #[Y (T (N b off Z)) n cap] 43)).alloc (J #[Y (T (N r h Z)) n l] 43)=W:=⟨_,rfl⟩
 obtain⟨B,-,-,-⟩:=nb2 q;have j:=ae q;clear q;have E:W.cell? (N (z (A w)) 0 Z)=T (Y (T (N b off Z)) n cap):=by rw[<-j.out];simp[go_sem]
 have H:W.cell? (N (z (A w)+1) 0 Z)=T (Y (T (N r h Z)) n l):=by rw[<-j.out];simp[go_sem]
 have hz:z (A w)+1<z (A W):=by rw[<-j.out];simp
 have K:=ae D;have L:=ae x;clear D x;go_enter func105,ntmps105;go_wp2;rw[j.out];clear j;go_loopw [5] (λi wr=>∃k:Nat,k<=n/\i=Q I k/\Hid (ei f g k=ZF)/\Hid (Below (z (A W)) W wr)) (λi _=>n - (intOf i).toNat);case atStart=>exact⟨0,by omega,rfl,rfl,cM _ _⟩
 case round =>
  obtain⟨k,hk,rfl,C,m⟩:=hrel;have s:=ae (B.out.trans (m.out.mono B.out.size));have G:=(m.out.cell (p:=(N (z (A w)) 0 Z)) (by show (z (A w))<_;omega)).trans E;have O:=(m.out.cell (p:=(N (z (A w)+1) 0 Z)) hz).trans H;have y:z (A w)+1<z (A wr):=lj hz m.out.size;by_cases o:k<n
  ·obtain⟨c0,c1,c2⟩:=(K.out.aa s.out ly).2 k o;obtain⟨ZQ,ZP,ZO⟩:=(L.out.aa s.out ly).2 k o;have hlt2:(k:Int)<n:=by omega
   have ZR:=Es (f k) (g k);go_wp2_with fail;go_quiet (fail);have u:=ae (E9 m.out nq);have ZS:=ae (E9 s.out nq);clear c0 c1 c2 ZQ ZP ZO ZR G O y;generalize wr.drewN nq=W' at u ZS ⊢;cases hb:mG (f k) (g k) with
   |true =>have t:=ae hb;clear hb;go_wp2;exact⟨⟨k+1,by omega,by go_num,by show ei f g (k+1)=ZF;rw[ei,C.out,t.out];rfl,u.out⟩,by simp[intOf];omega⟩
   |false =>have t:=ae hb;clear hb;go_wp2;go_ret;exact⟨bq (tQ o t.out).symm,ZS.out⟩
  ·obtain rfl:k=n:=by omega
   go_wp2;go_ret;exact⟨bq C.out.symm,s.out⟩
theorem nV (a:Option Addr)(cap:Nat)(f:Option Addr)(b:Nat)(w:M):Calls Pg 105 #[ZG #[Y a 0 cap],ZG #[Y f 0 b]] w λe h=>e=ZD (ZC ZF)/\Below (z (A w)) w h:=by
 have g:=ae (((BS w).alloc ly (J #[Y a 0 cap] 43)).alloc (by simp) (J #[Y f 0 b] 43));go_enter func105,ntmps105;go_wp2;go_loop [5] (λi=>i=Q I 0) (λ_=>0);case atStart=>rfl
 case round =>subst hrel;go_wp2;go_ret;exact⟨rfl,g.out⟩
theorem vZ (a:Option Addr)(n cap:Nat)(f:Option Addr)(m b:Nat)(w:M)(h:(n:Int)≠m):Calls Pg 105 #[ZG #[Y a n cap],ZG #[Y f m b]] w λe i=>e=ZD (ZC ZA)/\Below (z (A w)) w i:=by
 have g:=ae (((BS w).alloc ly (J #[Y a n cap] 43)).alloc (by simp) (J #[Y f m b] 43));have h2:((n:Int) == (m:Int))=ZA:=by simpa using h
 go_enter func105,ntmps105;go_wp2;go_ret;exact⟨rfl,g.out⟩
theorem wj (a:Option Addr)(n cap:Nat)(f:Nat->Ins)(j:Option Addr)(m i:Nat)(g:Nat->Ins)(w:M)(hn:n<=1048576)(hm:m<=1048576)(l:SlIns w a n f)(o:SlIns w j m g):Calls Pg 105 #[ZG #[Y a n cap],ZG #[Y j m i]] w λe s=>e=ZD (ZC (iq f g n m))/\Below (z (A w)) w s:=by
 by_cases h:n=m
 ·subst h;have q:iq f g n n=ei f g n:=by simp[iq]
  rw[q];rcases l with rfl|⟨b,off,rfl,l⟩
  {exact nV a cap j i w}
  ·rcases o with rfl|⟨r,p,rfl,o⟩
   {exact nV _ cap j i w};{exact vY b off n cap f r p i g w hn l o}
 ·have q:iq f g n m=ZA:=by simp[iq,h]
  rw[q];exact vZ a n cap j m i w (by omega)
theorem xQ (d:aj)(a0:Option Addr)(x:Nat)(a1:Option Addr)(H:Nat)(u:Option Addr)(n0 y:Nat)(f0:Nat->Source)(o:Option Addr)(n1 ZR:Nat)(f1:Nat->Target)(w:M)(hn0:(n0:Int)<=1048576)(hn1:(n1:Int)<=1048576)(ZI:SlSource w u n0 f0)(ZK:SlTarget w o n1 f1)(R:aP (nm0 f0) n0=ZF)(X:aP (nm1 f1) n1=ZF)(hI:SlIns w a0 d.m d.D)(ex:d.m<=1048576)(S:∀i,i<n1->aY (f1 i)):Calls Pg 50 #[ZG #[U d.e,Q I d.H,Q I d.E,U d.y,Y a0 d.m x,Y a1 d.l H],ZG #[Y u n0 y,Y o n1 ZR]] w λe w'=>e=ZD (ZC (!mJ n0 f0 n1 f1 d))/\Below (z (A w)) w w':=by
 obtain⟨r,hr⟩:∃r,r=mJ n0 f0 n1 f1 d:=⟨_,rfl⟩
 rw[<-hr];have E:=ae (show r=if d.H=1 then !rF n0 f0 d.e d.y else if d.H=3 then !rG n1 f1 d.e d.m d.D else mI n0 f0 n1 f1 d.e from hr);clear hr;obtain⟨W,L⟩:∃W:M,(w.alloc (J #[U d.e,Q I d.H,Q I d.E,U d.y,Y a0 d.m x,Y a1 d.l H] 46)).alloc (J #[Y u n0 y,Y o n1 ZR] 27)=W:=⟨_,rfl⟩
 obtain⟨P,-,-,-⟩:=nb2 L;have g:=ae L;clear L;have ZP:=ae ZI;have G:=ae ZK;have ld:=ae R;have mv:=ae X;have HI:=ae hI;have bt:=ae S;clear ZI ZK R X hI S;have c0:W.cell? (N (z (A w)) 0 Z)=T (U d.e):=by rw[<-g.out];simp[go_sem]
 have c1:W.cell? (N (z (A w)) 1 Z)=T (Q I d.H):=by rw[<-g.out];simp[go_sem]
 have c3:W.cell? (N (z (A w)) 3 Z)=T (U d.y):=by rw[<-g.out];simp[go_sem]
 have c4:W.cell? (N (z (A w)) 4 Z)=T (Y a0 d.m x):=by rw[<-g.out];simp[go_sem]
 have c5:W.cell? (N (z (A w)+1) 0 Z)=T (Y u n0 y):=by rw[<-g.out];simp[go_sem]
 have c6:W.cell? (N (z (A w)+1) 1 Z)=T (Y o n1 ZR):=by rw[<-g.out];simp[go_sem]
 have hz:z (A w)+1<z (A W):=by rw[<-g.out];simp
 go_enter func50,ntmps50;go_wp2_with fail;rw[g.out];clear g;refine(jx u n0 y o n1 ZR f0 d.e _ hn0 (ZP.out.aa P.out ly)).mono ?_;rintro e w1 ⟨s,rfl,V,f⟩;have ZQ:=ae V;have O:=ae (P.out.trans (f.mono P.out.size));have m:z (A w)<z (A W):=by omega
 have x0:=(f.cell (p:=(N (z (A w)) 0 Z)) m).trans c0;have x1:=(f.cell (p:=(N (z (A w)) 1 Z)) m).trans c1;have x3:=(f.cell (p:=(N (z (A w)) 3 Z)) m).trans c3;have x4:=(f.cell (p:=(N (z (A w)) 4 Z)) m).trans c4;have x5:=(f.cell (p:=(N (z (A w)+1) 0 Z)) hz).trans c5;have x6:=(f.cell (p:=(N (z (A w)+1) 1 Z)) hz).trans c6;have C:z (A w)+1<z (A w1):=lj hz f.size;clear f V P c0 c1 c3 c4 c5 c6 hz m;go_wp2_with fail;refine(jw u n0 y o n1 ZR f1 d.e _ hn1 (G.out.aa O.out ly)).mono ?_;rintro e ZN ⟨t,rfl,ZJ,f⟩;have ZM:=ae ZJ;have j:=ae (O.out.trans (f.mono O.out.size));have m:z (A w)<z (A w1):=by omega
 have y1:=(f.cell (p:=(N (z (A w)) 1 Z)) m).trans x1;have y3:=(f.cell (p:=(N (z (A w)) 3 Z)) m).trans x3;have y4:=(f.cell (p:=(N (z (A w)) 4 Z)) m).trans x4;have y5:=(f.cell (p:=(N (z (A w)+1) 0 Z)) C).trans x5;have y6:=(f.cell (p:=(N (z (A w)+1) 1 Z)) C).trans x6;have hz2:z (A w)+1<z (A ZN):=lj C f.size;clear f ZJ O x0 x1 x3 x4 x5 x6 C m;by_cases B:d.H=1
 ·have n:Hid (r=!rF n0 f0 d.e d.y):=by show _=_;rw[E.out,nL B]
  rw[B] at y1;clear E;rcases ZQ.out with ⟨rfl,K⟩|⟨i,rfl,q,ZS⟩
  ·obtain rfl:r=ZF:=by rw[n.out];unfold rF;rw[rD K];rfl
   clear ZQ K;have hg:decide ((0:Int)<=-1)=ZA:=rfl;go_wp2_with fail;go_quiet (fail);go_wp2;go_ret;exact⟨rfl,E9 j.out _⟩
  ·have h:Hid (r=!((f0 i).y.toList == d.y.toList)):=by show _=_;rw[n.out];unfold rF;rw[uN ld.out q ZS]
   obtain⟨b,off,rfl,l⟩:=ZP.out.resolve_left (by omega);obtain⟨e0,e1⟩:=(l.aa j.out ly).2 i q;have aq:(i:Int)<n0:=by omega
   have n8:decide ((0:Int)<=i)=ZF:=LD (by omega);clear ZQ ZS l n ZP;cases ZO:((f0 i).y.toList == d.y.toList) with
   |true =>
    obtain rfl:r=ZA:=by rw[h.out,ZO];rfl
    go_wp2_with fail;go_quiet (fail);go_wp2;go_ret;exact⟨rfl,E9 j.out _⟩
   |false =>
    obtain rfl:r=ZF:=by rw[h.out,ZO];rfl
    go_wp2_with fail;go_quiet (fail);go_wp2;go_ret;exact⟨rfl,E9 j.out _⟩
 ·by_cases D:d.H=3
  ·have n:Hid (r=!rG n1 f1 d.e d.m d.D):=by show _=_;rw[E.out,eT B,nL D]
   rw[D] at y1;clear E;rcases ZM.out with ⟨rfl,K⟩|⟨i,rfl,q,ZS⟩
   ·obtain rfl:r=ZF:=by rw[n.out];unfold rG;rw[rD K];rfl
    clear ZM K;have hg:decide ((0:Int)<=-1)=ZA:=rfl;go_wp2_with fail;go_quiet (fail);go_wp2;go_ret;exact⟨rfl,E9 j.out _⟩
   ·have h:Hid (r=!iq (f1 i).D d.D (f1 i).m d.m):=by show _=_;rw[n.out];unfold rG;rw[uN mv.out q ZS]
    obtain⟨b,off,rfl,l⟩:=G.out.resolve_left (by omega);obtain⟨e0,ka,kc,e1,q1⟩:=(l.aa j.out ly).2 i q;have Q1:=ae (show SlIns ZN ka (f1 i).m (f1 i).D from q1);have aq:(i:Int)<n1:=by omega
    have n8:decide ((0:Int)<=i)=ZF:=LD (by omega);clear ZM ZS l n G q1;have EQ:=ae (λW (f:Below (z (A ZN)) ZN W)=>wj ka (f1 i).m kc (f1 i).D a0 d.m x d.D W (bt.out i q) ex (Q1.out.aa f ly) ((HI.out.aa j.out ly).aa f ly));generalize iq (f1 i).D d.D (f1 i).m d.m=c at h EQ;go_wp2_with fail
    go_region_with (first
     |(go_at_call 105;refine(EQ.out _ ?_).mono ?_;(first|exact cM _ _|exact br.drew);rintro e w3 ⟨rfl,f⟩))
    all_goals
     go_simp;go_wp2;go_ret;exact⟨by simp[h.out],j.out.trans (Below.mono ⟨f.os,f.tape,f.output,f.size,f.block⟩ j.out.size)⟩
  ·have n:Hid (r=mI n0 f0 n1 f1 d.e):=by show _=_;rw[E.out,eT B,eT D]
   have hk1b:(d.H == 1)=ZA:=by simpa using B
   have hk3b:(d.H == 3)=ZA:=by simpa using D
   have h:Hid (r=(decide (0<=s) || decide (0<=t))):=by show _=_;rw[n.out];unfold mI;rw[ZQ.out.has,ZM.out.has]
   clear E n ZQ ZM;by_cases hs:0<=s
   ·obtain rfl:r=ZF:=by rw[h.out];simp[hs]
    have fd:¬ s<0:=by omega
    go_wp2;go_ret;exact⟨rfl,j.out⟩
   ·have fd:s<0:=by omega
    by_cases ZO:0<=t
    ·obtain rfl:r=ZF:=by rw[h.out];simp[ZO]
     have ZL:¬ t<0:=by omega
     go_wp2;go_ret;exact⟨by simp[ZL],j.out⟩
    ·obtain rfl:r=ZA:=by rw[h.out];simp[hs,ZO]
     have ZL:t<0:=by omega
     go_wp2;go_ret;exact⟨rfl,j.out⟩
