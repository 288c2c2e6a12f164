import Derived.Test.YtamacmnikdejeaaGreatDoorLT
import Derived.Test.YtamacmnikdejeaaGreatDoorLJ
import Derived.Test.YtamacmnikdejeaaGreatDoorMF
set_option maxRecDepth 100000
set_option maxHeartbeats 8000000
open Go renaming Addr.mk->Q,Value.slice->Y,Value.string->U,Value.int->J,Value.agg->ZG,Obj.cells->N,IntKind.i64->I,World->E,Ending.returned->ZF,World.heap->A,World.cell?->z
open Option renaming none->Z,some->T
open Bool renaming false->ZA,true->ZD
open Array renaming size->B
namespace Go.Proofs.YtamacmnikdejeaaGreatDoor.Vp
open Tryz RowKit
theorem An (d:au)(a0:Option Addr)(x:Nat)(a1:Option Addr)(ZP:Nat)(o:Option Addr)(n0 ZR:Nat)(f0:Nat->Source)(q:Option Addr)(n1 ZS:Nat)(f1:Nat->Target)(w:E)(hn0:(n0:Int)<=1048576)(hn1:(n1:Int)<=1048576)(S:SlSource w o n0 f0)(ZL:SlTarget w q n1 f1)(ZK:aL (nm0 f0) n0=ZD)(R:aL (nm1 f1) n1=ZD)(hI:SlIns w a0 d.h d.u)(mv:d.h<=1048576)(ZI:∀i,i<n1->aX (f1 i)):Calls Tryz.prog 72 #[ZG #[U d.e,J I d.L,J I d.M,U d.H,Y a0 d.h x,Y a1 d.f ZP],ZG #[Y o n0 ZR,Y q n1 ZS]] w λe w'=>e=ZF (.bool (!gE n0 f0 n1 f1 d))/\Below (B (A w)) w w':=by
 obtain⟨r,hr⟩:∃r,r=gE n0 f0 n1 f1 d:=⟨_,rfl⟩
 rw[<-hr];have ZQ:=ae (show r=if d.L=1 then !jP n0 f0 d.e d.H else if d.L=3 then !je n1 f1 d.e d.h d.u else jd n0 f0 n1 f1 d.e from hr);clear hr;obtain⟨W,M⟩:∃W:E,(w.alloc (N #[U d.e,J I d.L,J I d.M,U d.H,Y a0 d.h x,Y a1 d.f ZP] 46)).alloc (N #[Y o n0 ZR,Y q n1 ZS] 29)=W:=⟨_,rfl⟩
 obtain⟨ZM,-,-,-⟩:=nb2 M;have h:=ae M;clear M;have G:=ae S;have H:=ae ZL;have ld:=ae ZK;have bt:=ae R;have HI:=ae hI;have fd:=ae ZI;clear S ZL ZK R hI ZI;have c0:z W (Q (B (A w)) 0 Z)=T (U d.e):=by rw[<-h.out];simp[go_sem]
 have c1:z W (Q (B (A w)) 1 Z)=T (J I d.L):=by rw[<-h.out];simp[go_sem]
 have c3:z W (Q (B (A w)) 3 Z)=T (U d.H):=by rw[<-h.out];simp[go_sem]
 have c4:z W (Q (B (A w)) 4 Z)=T (Y a0 d.h x):=by rw[<-h.out];simp[go_sem]
 have c5:z W (Q (B (A w)+1) 0 Z)=T (Y o n0 ZR):=by rw[<-h.out];simp[go_sem]
 have c6:z W (Q (B (A w)+1) 1 Z)=T (Y q n1 ZS):=by rw[<-h.out];simp[go_sem]
 have hz:B (A w)+1<B (A W):=by rw[<-h.out];simp
 go_enter func72,ntmps72;go_wp2_with fail;rw[h.out];clear h;refine(j7 o n0 ZR q n1 ZS f0 d.e _ hn0 (G.out.aa ZM.out ly)).mono ?_;rintro e w1 ⟨s,rfl,X,f⟩;have ZN:=ae X;have P:=ae (ZM.out.trans (f.mono ZM.out.size));have n:B (A w)<B (A W):=by omega
 have x0:=(f.cell (p:=(Q (B (A w)) 0 Z)) n).trans c0;have x1:=(f.cell (p:=(Q (B (A w)) 1 Z)) n).trans c1;have x3:=(f.cell (p:=(Q (B (A w)) 3 Z)) n).trans c3;have x4:=(f.cell (p:=(Q (B (A w)) 4 Z)) n).trans c4;have x5:=(f.cell (p:=(Q (B (A w)+1) 0 Z)) hz).trans c5;have x6:=(f.cell (p:=(Q (B (A w)+1) 1 Z)) hz).trans c6;have D:B (A w)+1<B (A w1):=lj hz f.size;clear f X ZM c0 c1 c3 c4 c5 c6 hz n;go_wp2_with fail;refine(jZ o n0 ZR q n1 ZS f1 d.e _ hn1 (H.out.aa P.out ly)).mono ?_;rintro e O ⟨t,rfl,ZJ,f⟩;have K:=ae ZJ;have j:=ae (P.out.trans (f.mono P.out.size));have n:B (A w)<B (A w1):=by omega
 have y1:=(f.cell (p:=(Q (B (A w)) 1 Z)) n).trans x1;have y3:=(f.cell (p:=(Q (B (A w)) 3 Z)) n).trans x3;have y4:=(f.cell (p:=(Q (B (A w)) 4 Z)) n).trans x4;have y5:=(f.cell (p:=(Q (B (A w)+1) 0 Z)) D).trans x5;have y6:=(f.cell (p:=(Q (B (A w)+1) 1 Z)) D).trans x6;have hz2:B (A w)+1<B (A O):=lj D f.size;clear f ZJ P x0 x1 x3 x4 x5 x6 D n;by_cases ZT:d.L=1
 ·have m:Hid (r=!jP n0 f0 d.e d.H):=by show _=_;rw[ZQ.out,j6 ZT]
  rw[ZT] at y1;clear ZQ;rcases ZN.out with ⟨rfl,ZO⟩|⟨i,rfl,u,y⟩
  ·obtain rfl:r=ZD:=by rw[m.out];unfold jP;rw[kL ZO];rfl
   clear ZN ZO;have hg:decide ((0:Int)<=-1)=ZA:=rfl;go_wp2_with fail;go_quiet (fail);go_wp2;go_ret;exact⟨rfl,AI j.out _⟩
  ·have g:Hid (r=!((f0 i).H.toList == d.H.toList)):=by show _=_;rw[m.out];unfold jP;rw[nf ld.out u y]
   obtain⟨b,off,rfl,l⟩:=G.out.resolve_left (by omega);obtain⟨e0,e1⟩:=(l.aa j.out ly).2 i u;have aq:(i:Int)<n0:=by omega
   have ex:decide ((0:Int)<=i)=ZD:=MK (by omega);clear ZN y l m G;cases L:((f0 i).H.toList == d.H.toList) with
   |true =>
    obtain rfl:r=ZA:=by rw[g.out,L];rfl
    go_wp2_with fail;go_quiet (fail);go_wp2;go_ret;exact⟨rfl,AI j.out _⟩
   |false =>
    obtain rfl:r=ZD:=by rw[g.out,L];rfl
    go_wp2_with fail;go_quiet (fail);go_wp2;go_ret;exact⟨rfl,AI j.out _⟩
 ·by_cases C:d.L=3
  ·have m:Hid (r=!je n1 f1 d.e d.h d.u):=by show _=_;rw[ZQ.out,eT ZT,j6 C]
   rw[C] at y1;clear ZQ;rcases K.out with ⟨rfl,ZO⟩|⟨i,rfl,u,y⟩
   ·obtain rfl:r=ZD:=by rw[m.out];unfold je;rw[kL ZO];rfl
    clear K ZO;have hg:decide ((0:Int)<=-1)=ZA:=rfl;go_wp2_with fail;go_quiet (fail);go_wp2;go_ret;exact⟨rfl,AI j.out _⟩
   ·have g:Hid (r=!cB (f1 i).u d.u (f1 i).h d.h):=by show _=_;rw[m.out];unfold je;rw[nf bt.out u y]
    obtain⟨b,off,rfl,l⟩:=H.out.resolve_left (by omega);obtain⟨e0,ka,kc,e1,q1⟩:=(l.aa j.out ly).2 i u;have Q1:=ae (show SlIns O ka (f1 i).h (f1 i).u from q1);have aq:(i:Int)<n1:=by omega
    have ex:decide ((0:Int)<=i)=ZD:=MK (by omega);clear K y l m H q1;have EQ:=ae (λW (f:Below (B (A O)) O W)=>xx ka (f1 i).h kc (f1 i).u a0 d.h x d.u W (fd.out i u) mv (Q1.out.aa f ly) ((HI.out.aa j.out ly).aa f ly));generalize cB (f1 i).u d.u (f1 i).h d.h=c at g EQ;go_wp2_with fail
    go_region_with (first
     |(go_at_call 103;refine(EQ.out _ ?_).mono ?_;(first|exact cM _ _|exact br.drew);rintro e w3 ⟨rfl,f⟩))
    all_goals
     go_simp;go_wp2;go_ret;exact⟨by simp[g.out],j.out.trans (Below.mono ⟨f.os,f.tape,f.output,f.size,f.block⟩ j.out.size)⟩
  ·have m:Hid (r=jd n0 f0 n1 f1 d.e):=by show _=_;rw[ZQ.out,eT ZT,eT C]
   have hk1b:(d.L == 1)=ZA:=by simpa using ZT
   have hk3b:(d.L == 3)=ZA:=by simpa using C
   have g:Hid (r=(decide (0<=s) || decide (0<=t))):=by show _=_;rw[m.out];unfold jd;rw[ZN.out.has,K.out.has]
   clear ZQ m ZN K;by_cases hs:0<=s
   ·obtain rfl:r=ZD:=by rw[g.out];simp[hs]
    have la:¬ s<0:=by omega
    go_wp2;go_ret;exact⟨rfl,j.out⟩
   ·have la:s<0:=by omega
    by_cases L:0<=t
    ·obtain rfl:r=ZD:=by rw[g.out];simp[L]
     have V:¬ t<0:=by omega
     go_wp2;go_ret;exact⟨by simp[V],j.out⟩
    ·obtain rfl:r=ZA:=by rw[g.out];simp[hs,L]
     have V:t<0:=by omega
     go_wp2;go_ret;exact⟨rfl,j.out⟩
theorem Dm (bd L n cap:Nat)(l:Option Addr)(n0 x:Nat)(f0:Nat->Source)(m:Option Addr)(n1 u:Nat)(f1:Nat->Target)(d:au)(a0:Option Addr)(ZT:Nat)(a1:Option Addr)(K:Nat)(w:E)(hn0:(n0:Int)<=1048576)(hn1:(n1:Int)<=1048576)(ZN:SlSource w l n0 f0)(O:SlTarget w m n1 f1)(P:aL (nm0 f0) n0=ZD)(M:aL (nm1 f1) n1=ZD)(ZI:SlIns w a0 d.h d.u)(ZJ:d.h<=1048576)(ZM:∀i,i<n1->aX (f1 i)):Calls Tryz.prog 70 #[ZG #[Y (T (Q bd L Z)) n cap,Y l n0 x,Y m n1 u],ZG #[U d.e,J I d.L,J I d.M,U d.H,Y a0 d.h ZT,Y a1 d.f K]] w λe w'=>e=ZF (.bool (gE n0 f0 n1 f1 d))/\Below (B (A w)) w w':=by
 obtain⟨r,R⟩:∃r,r=gE n0 f0 n1 f1 d:=⟨_,rfl⟩
 rw[<-R];have ZO:=ae (show r=if d.L=1 then !jP n0 f0 d.e d.H else if d.L=3 then !je n1 f1 d.e d.h d.u else jd n0 f0 n1 f1 d.e from R);clear R;have h:=ae (((BS w).alloc ly (N #[Y (T (Q bd L Z)) n cap,Y l n0 x,Y m n1 u] 77)).alloc (by simp) (N #[U d.e,J I d.L,J I d.M,U d.H,Y a0 d.h ZT,Y a1 d.f K] 46));have D:=ae ZN;have G:=ae O;have H:=ae P;have ZP:=ae M;have HI:=ae ZI;have V:=ae ZM;clear ZN O P M ZI ZM;by_cases C:d.L=1
 ·have ZS:Hid (r=!jP n0 f0 d.e d.H):=by show _=_;rw[ZO.out,j6 C]
  clear ZO;rw[C] at h ⊢;go_enter func70,ntmps70;go_wp2_with fail;refine(eF l n0 x m n1 u f0 d.e _ hn0 (D.out.aa h.out ly) H.out).mono ?_;rintro e j ⟨i,rfl,hi,h1,h2,f⟩;have g:=iU H.out hi h1 h2;have g1:z j (Q (B (A w)) 1 Z)=T (Y l n0 x):=(f.cell (p:=(Q (B (A w)) 1 Z)) (by simp;omega)).trans (by simp[go_sem]);have d3:z j (Q (B (A w)+1) 3 Z)=T (U d.H):=(f.cell (p:=(Q (B (A w)+1) 3 Z)) (by simp)).trans (by simp[go_sem]);have ZK:B (A w)+1<B (A j):=by have:=f.size;simp at this;omega
  have o:=ae (h.out.trans (f.mono h.out.size));clear f h1 h2 h;cases hq:aG (nm0 f0) n0 d.e with
  |false =>
   obtain rfl:r=ZD:=by rw[ZS.out];unfold jP;rw[kL hq];rfl
   clear g;go_wp2_with fail;go_quiet (fail);go_wp2;go_ret;exact⟨rfl,AI o.out _⟩
  |true =>
   rw[hq] at g;obtain⟨y,ZR⟩:i<n0/\((nm0 f0 i).toList == d.e.toList)=ZD:=by simpa using g.symm
   have s:Hid (r=!((f0 i).H.toList == d.H.toList)):=by show _=_;rw[ZS.out];unfold jP;rw[nf H.out y ZR]
   obtain⟨b,off,rfl,t⟩:=D.out.resolve_left (by omega);obtain⟨e0,e1⟩:=(t.aa o.out ly).2 i y;have S:(i:Int)<n0:=by omega
   clear g ZR t ZS D;cases ht:((f0 i).H.toList == d.H.toList) with
   |true =>
    obtain rfl:r=ZA:=by rw[s.out,ht];rfl
    go_wp2_with fail;go_quiet (fail);go_wp2;go_ret;exact⟨rfl,AI o.out _⟩
   |false =>
    obtain rfl:r=ZD:=by rw[s.out,ht];rfl
    go_wp2_with fail;go_quiet (fail);go_wp2;go_ret;exact⟨rfl,AI o.out _⟩
 ·by_cases ZQ:d.L=3
  ·have ZS:Hid (r=!je n1 f1 d.e d.h d.u):=by show _=_;rw[ZO.out,eT C,j6 ZQ]
   clear ZO;rw[ZQ] at h ⊢;go_enter func70,ntmps70;go_wp2_with fail;refine(fE l n0 x m n1 u f1 d.e _ hn1 (G.out.aa h.out ly) ZP.out).mono ?_;rintro e j ⟨i,rfl,hi,h1,h2,f⟩;have g:=iU ZP.out hi h1 h2;have g2:z j (Q (B (A w)) 2 Z)=T (Y m n1 u):=(f.cell (p:=(Q (B (A w)) 2 Z)) (by simp;omega)).trans (by simp[go_sem]);have d4:z j (Q (B (A w)+1) 4 Z)=T (Y a0 d.h ZT):=(f.cell (p:=(Q (B (A w)+1) 4 Z)) (by simp)).trans (by simp[go_sem]);have ZK:B (A w)+1<B (A j):=by have:=f.size;simp at this;omega
   have o:=ae (h.out.trans (f.mono h.out.size));clear f h1 h2 h;cases hq:aG (nm1 f1) n1 d.e with
   |false =>
    obtain rfl:r=ZD:=by rw[ZS.out];unfold je;rw[kL hq];rfl
    clear g;go_wp2_with fail;go_quiet (fail);go_wp2;go_ret;exact⟨rfl,AI o.out _⟩
   |true =>
    rw[hq] at g;obtain⟨y,ZR⟩:i<n1/\((nm1 f1 i).toList == d.e.toList)=ZD:=by simpa using g.symm
    have s:Hid (r=!cB (f1 i).u d.u (f1 i).h d.h):=by show _=_;rw[ZS.out];unfold je;rw[nf ZP.out y ZR]
    obtain⟨b,off,rfl,t⟩:=G.out.resolve_left (by omega);obtain⟨e0,X,kc,e1,ZL⟩:=(t.aa o.out ly).2 i y;have Q1:=ae (show SlIns j X (f1 i).h (f1 i).u from ZL);have S:(i:Int)<n1:=by omega
    clear g ZR t ZS G ZL;have W:=ae (λq=>tk X (f1 i).h kc (f1 i).u a0 d.h ZT d.u (j.drewN q) (V.out i y) ZJ (Q1.out.aa (AI br q) ly) ((HI.out.aa o.out ly).aa (AI (BS j) q) ly));generalize cB (f1 i).u d.u (f1 i).h d.h=c at s W;go_wp2_with fail;go_quiet ((go_at_call 119;exact Calls.quiet_of (W.out _)));have B2:=ae (AI o.out nq);go_wp2;go_ret;exact⟨by simp[s.out],B2.out⟩
  ·have ZS:Hid (r=jd n0 f0 n1 f1 d.e):=by show _=_;rw[ZO.out,eT C,eT ZQ]
   have hk1b:(d.L == 1)=ZA:=by simpa using C
   have hk3b:(d.L == 3)=ZA:=by simpa using ZQ
   clear ZO;go_enter func70,ntmps70;go_wp2_with fail;refine(qA l n0 x f0 m n1 u f1 d.e _ hn0 hn1 (D.out.aa h.out ly) (G.out.aa h.out ly) H.out ZP.out).mono ?_;rintro e j ⟨rfl,f⟩;have o:=ae (h.out.trans (f.mono h.out.size));have s:Hid ((aG (nm0 f0) n0 d.e || aG (nm1 f1) n1 d.e)=r):=ZS.out.symm;clear f;rw[s.out];go_wp2;go_ret;exact⟨rfl,o.out⟩
theorem Dn {w:E}{b:Nat}{f g:Value}{t:TypeId}{ZT:Nat × Nat}(h:w.heap[b]?=T (N #[f,g] t ZT)):z w (Q b 0 Z)=T f:=by simp[World.cell?,h]
theorem sO (H o n cap b:Nat)(u:Option Addr)(n0 ZS:Nat)(f0:Nat->Source)(y:Option Addr)(n1 C:Nat)(f1:Nat->Target)(f:Nat->au)(w:E)(hn:(n:Int)<=400)(hn0:(n0:Int)<=1048576)(hn1:(n1:Int)<=1048576)(ZI:bv f n=ZD)(V:RowDeed w H o n f)(n9:SlSource w u n0 f0)(S:SlTarget w y n1 f1)(qr:aL (nm0 f0) n0=ZD)(bt:aL (nm1 f1) n1=ZD)(n8:∀i,i<n->(f i).h<=1048576)(fd:∀i,i<n->(f i).f<=1048576)(ld:∀i,i<n1->aX (f1 i))(X:Tab2 w)(ZM:Pow w)(x:b<B (A w))
  (k0:z w (Q b 0 Z)=T (J I 2)) (k1:z w (Q b 1 Z)=T (.func (.func 70) #[] #[])) (k2:z w (Q b 2 Z)=T (J I 3)) (k3:z w (Q b 3 Z)=T (.func (.func 71) #[] #[])) (k4:z w (Q b 4 Z)=T (J I 4)) (k5:z w (Q b 5 Z)=T (.func (.func 39) #[] #[])) (k6:z w (Q b 6 Z)=T (J I 5)) (k7:z w (Q b 7 Z)=T (.func (.func 40) #[] #[])) :
  Calls Tryz.prog 38 #[ZG #[Y (T (Q H o Z)) n cap,Y u n0 ZS,Y y n1 C],Y (T (Q b 0 Z)) 4 4] w λe w'=>e=ZF (.tuple #[J I (eP (dq n0 f0 n1 f1 f) n).1,J I (eP (dq n0 f0 n1 f1 f) n).2])/\Below (B (A w)) w w':=by
 obtain⟨R,hR⟩:∃R,R=eP (dq n0 f0 n1 f1 f) n:=⟨_,rfl⟩
 rw[<-hR];have HR:=ae hR;clear hR;obtain⟨WA,K⟩:∃W:E,w.alloc (N #[Y (T (Q H o Z)) n cap,Y u n0 ZS,Y y n1 C] 77)=W:=⟨_,rfl⟩
 obtain⟨A0,-,hz⟩:=nb1 K;have ZR:=ae K;clear K;have m0:z WA (Q (B (A w)) 0 Z)=T (Y (T (Q H o Z)) n cap):=by rw[<-ZR.out];simp
 have m1:z WA (Q (B (A w)) 1 Z)=T (Y u n0 ZS):=by rw[<-ZR.out];simp
 have m2:z WA (Q (B (A w)) 2 Z)=T (Y y n1 C):=by rw[<-ZR.out];simp
 have L:=ae V;have P:=ae ZI;have aq:=ae n9;have ph:=ae S;have n7:=ae qr;have la:=ae bt;have DQ:=ae n8;have Hd:=ae fd;have Hc:=ae ld;have ex:=ae X;have ZL:=ae ZM;have mv:=X.1;have G:=ae (And.intro k0 (And.intro k1 (And.intro k2 (And.intro k3 (And.intro k4 (And.intro k5 (And.intro k6 k7)))))));clear V ZI n9 S qr bt n8 fd ld X ZM k0 k1 k2 k3 k4 k5 k6 k7;go_enter func38,ntmps38;go_wp2;go_step3;go_wp2;go_step3;go_wp2;rw[ZR.out];clear ZR;go_loopw [6,7,16] (λc6 c7 i wr=>∃k:Nat,k<=n/\c6=J I 0/\c7=J I 0/\i=J I k/\Hid (∀j,j<k->dq n0 f0 n1 f1 f j=0)/\Hid (Below (B (A w)+1) WA wr)) (λ_ _ i _=>n - (intOf i).toNat);case atStart=>exact⟨0,by omega,rfl,rfl,rfl,λj hj=>absurd hj (KO _),cM _ _⟩
 case round =>
  obtain⟨k,hk,rfl,rfl,rfl,HZ,HB⟩:=hrel;have BW:=ae (A0.out.trans (HB.out.mono (by omega)));by_cases ZQ:k<n
  ·obtain⟨p0,p1,p2,p3,⟨a0,s,p4,q4⟩,⟨a1,r,p5,q5⟩⟩:=(L.out.aa BW.out ly).2 k ZQ;have n6:=ae (Dc n0 f0 n1 f1 f k);obtain⟨ZP,ZO⟩:∃W:E,wr.alloc (N #[U (f k).e,J I (f k).L,J I (f k).M,U (f k).H,Y a0 (f k).h s,Y a1 (f k).f r] 46)=W:=⟨_,rfl⟩
   obtain⟨D1,-,Bk⟩:=nb1 ZO;have l:=ae ZO;clear ZO;have B1:=ae (HB.out.alloc (by have:=HB.out.size;omega) (N #[U (f k).e,J I (f k).L,J I (f k).M,U (f k).H,Y a0 (f k).h s,Y a1 (f k).f r] 46));have QI:=ae (show SlIns wr a0 (f k).h (f k).u/\SlLink wr a1 (f k).f (f k).m from⟨q4,q5⟩);have QJ:=ae (And.intro (QI.out.1.aa D1.out ly) (QI.out.2.aa D1.out ly));have e0:z ZP (Q (B (A wr)) 0 Z)=T (U (f k).e):=by rw[<-l.out];simp
   have e1:z ZP (Q (B (A wr)) 1 Z)=T (J I (f k).L):=by rw[<-l.out];simp
   have e2:z ZP (Q (B (A wr)) 2 Z)=T (J I (f k).M):=by rw[<-l.out];simp
   have e3:z ZP (Q (B (A wr)) 3 Z)=T (U (f k).H):=by rw[<-l.out];simp
   have e4:z ZP (Q (B (A wr)) 4 Z)=T (Y a0 (f k).h s):=by rw[<-l.out];simp
   have e5:z ZP (Q (B (A wr)) 5 Z)=T (Y a1 (f k).f r):=by rw[<-l.out];simp
   have Fk:B (A w)+1<=B (A wr):=by have:=HB.out.size;omega
   clear q4 q5;go_wp2;clear p0 p1 p2 p3 p4 p5 D1;rw[l.out] at B1 ⊢;clear l;generalize (B (A wr))=t at e0 e1 e2 e3 e4 e5 Bk Fk ⊢;go_loopw [6,7,23] (λc6 c7 i w2=>∃j:Nat,j<=4/\c6=J I 0/\c7=J I 0/\i=J I j/\Hid (1<=j->gE n0 f0 n1 f1 (f k)=ZA)/\Hid (2<=j->hasB n0 f0 n1 f1 (f k)=ZA)/\Hid (3<=j->jl f k=ZA)/\Hid (4<=j->oK f k=ZA)/\Hid (Below (t+1) ZP w2)) (λ_ _ i _=>4 - (intOf i).toNat);case atStart=>exact⟨0,by omega,rfl,rfl,rfl,(λh=>by omega),(λh=>by omega),(λh=>by omega),(λh=>by omega),cM _ _⟩
   case round =>
    obtain⟨j,hj,rfl,rfl,rfl,ZJ,N1,N2,N3,g⟩:=hrel;have ZK:=ae (B1.out.trans (g.out.mono (by omega)));have D:=ae (A0.out.trans (ZK.out.mono (by omega)));have DE:=(D.out.cell (p:=(Q b 0 Z)) x).trans G.out.1;have GS:=(D.out.cell (p:=(Q b 1 Z)) x).trans G.out.2.1;have G8:=(D.out.cell (p:=(Q b 2 Z)) x).trans G.out.2.2.1;have DS:=(D.out.cell (p:=(Q b 3 Z)) x).trans G.out.2.2.2.1;have Hf:=(D.out.cell (p:=(Q b 4 Z)) x).trans G.out.2.2.2.2.1;have Ha:=(D.out.cell (p:=(Q b 5 Z)) x).trans G.out.2.2.2.2.2.1;have He:=(D.out.cell (p:=(Q b 6 Z)) x).trans G.out.2.2.2.2.2.2.1;have ro:=(D.out.cell (p:=(Q b 7 Z)) x).trans G.out.2.2.2.2.2.2.2;have sm:=(g.out.cell (p:=(Q t 0 Z)) (j4 t)).trans e0;have Hb:=(g.out.cell (p:=(Q t 1 Z)) (j4 t)).trans e1;have ur:=(g.out.cell (p:=(Q t 2 Z)) (j4 t)).trans e2;have Fm:=(g.out.cell (p:=(Q t 3 Z)) (j4 t)).trans e3;have Fd:=(g.out.cell (p:=(Q t 4 Z)) (j4 t)).trans e4;have At:=(g.out.cell (p:=(Q t 5 Z)) (j4 t)).trans e5;have g0:=(ZK.out.cell (p:=(Q (B (A w)) 0 Z)) (j4 (B (A w)))).trans m0;have g1:=(ZK.out.cell (p:=(Q (B (A w)) 1 Z)) (j4 (B (A w)))).trans m1;have g2:=(ZK.out.cell (p:=(Q (B (A w)) 2 Z)) (j4 (B (A w)))).trans m2;have S:t<B (A wr):=by have:=g.out.size;omega
    have hs2:B (A w)<B (A wr):=by omega
    have hs3:b<B (A wr):=by omega
    rcases(show(True/\j=0)∨(True/\j=1)∨(True/\j=2)∨(True/\j=3)∨j=4 by rcases(show j=0∨j=1∨j=2∨j=3∨j=4 by omega) with h|h|h|h|h<;>simp[h]) with ⟨M0,rfl⟩|⟨M1,rfl⟩|⟨M2,rfl⟩|⟨M3,rfl⟩|rfl;rotate_left 4
    ·have q:Hid (dq n0 f0 n1 f1 f k=0):=by show _=_;rw[n6.out,eT (by rw[ZJ.out (by omega)];simp),eT (by rw[N1.out (by omega)];simp),eT (by rw[N2.out (by omega)];simp),eT (by rw[N3.out (by omega)];simp)]
     go_wp2
     exact⟨⟨k+1,by omega,rfl,rfl,by go_num,λj hj=>by
      by_cases e:j=k;{subst e;exact q.out}
      ·exact HZ.out j (by omega),ZK.out⟩,by simp[intOf];omega⟩
    all_goals
     have th:=λ(w:E) (a:Addr) (m:Mode) (F:Nat)=>run_store Tryz.prog w a (.func (.func F) #[] #[]) m rfl;go_wp2_with fail;clear sm Hb ur Fm Fd At g0 g1 g2 DE GS G8 DS Hf Ha He ro th;generalize hW:World.alloc wr _=WX;obtain⟨DC,kc,hzx⟩:=nb1 hW;clear hW;have ZT:=ae (D.out.trans (DC.out.mono D.out.size));have ZN:=ae (And.intro ((QJ.out.1.aa g.out (by omega)).aa DC.out ly) ((QJ.out.2.aa g.out (by omega)).aa DC.out ly));have BC:=ae (g.out.trans (DC.out.mono (by have:=g.out.size;omega)));first
      |(guard_hyp M0;refine(Dm H o n cap u n0 ZS f0 y n1 C f1 (f k) a0 s a1 r _ hn0 hn1 (aq.out.aa ZT.out ly) (ph.out.aa ZT.out ly) n7.out la.out ZN.out.1 (DQ.out k ZQ) Hc.out).mono ?_)
      |(guard_hyp M1;refine(xR H o n cap u n0 ZS f0 y n1 C f1 (f k) a0 s a1 r _ hn0 hn1 (aq.out.aa ZT.out ly) (ph.out.aa ZT.out ly) n7.out la.out ZN.out.2 (Hd.out k ZQ)).mono ?_)
      |(guard_hyp M2;refine(vK u n0 ZS y n1 C H o n cap f k a0 s a1 r _ P.out ZQ (L.out.aa ZT.out ly) ZN.out.1 ZN.out.2 (ex.out.aa ZT.out mv) (ZL.out.aa ZT.out ly)).mono ?_)
      |(guard_hyp M3;refine(zU u n0 ZS y n1 C H o n cap f k a0 s a1 r _ P.out ZQ (L.out.aa ZT.out ly) ZN.out.1 ZN.out.2 (ex.out.aa ZT.out mv) (ZL.out.aa ZT.out ly)).mono ?_)
     rintro e w3 ⟨rfl,hB⟩;have W3:=ae (ZT.out.trans (hB.mono ZT.out.size));have C3:=ae (BC.out.trans (hB.mono (by have:=BC.out.size;omega)));have cz:=Dn ((hB.block _ (by omega)).trans kc.out);clear hB kc;first
      |(guard_hyp M0;cases hb:gE n0 f0 n1 f1 (f k))
      |(guard_hyp M1;cases hb:hasB n0 f0 n1 f1 (f k))
      |(guard_hyp M2;cases hb:jl f k)
      |(guard_hyp M3;cases hb:oK f k)
     ·have M:=ae hb
      go_wp2;first
       |(guard_hyp M0;exact⟨⟨1,by omega,rfl,rfl,by go_num,(λ_=>M.out),(λh=>by omega),(λh=>by omega),(λh=>by omega),C3.out⟩,by simp[intOf]⟩)
       |(guard_hyp M1;exact⟨⟨2,by omega,rfl,rfl,by go_num,(λ_=>ZJ.out (by omega)),(λ_=>M.out),(λh=>by omega),(λh=>by omega),C3.out⟩,by simp[intOf]⟩)
       |(guard_hyp M2;exact⟨⟨3,by omega,rfl,rfl,by go_num,(λ_=>ZJ.out (by omega)),(λ_=>N1.out (by omega)),(λ_=>M.out),(λh=>by omega),C3.out⟩,by simp[intOf]⟩)
       |(guard_hyp M3;exact⟨⟨4,by omega,rfl,rfl,by go_num,(λ_=>ZJ.out (by omega)),(λ_=>N1.out (by omega)),(λ_=>N2.out (by omega)),(λ_=>M.out),C3.out⟩,by simp[intOf]⟩)
     ·have q:=n6.out
      (try rw[ZJ.out (by omega)] at q)
      (try rw[N1.out (by omega)] at q)
      (try rw[N2.out (by omega)] at q)
      rw[hb] at q;simp at q;have O:=HR.out;rw[iP ZQ HZ.out (by rw[q];decide),q] at O;replace O:=ae O;clear q;go_wp2;try rw[T3]
      go_ret2;exact⟨by simp[O.out],W3.out⟩
  ·obtain rfl:k=n:=by omega
   have O:Hid (R=(0,0)):=by show _=_;rw[HR.out];exact mQ HZ.out
   go_wp2;try rw[T3]
   go_ret2;exact⟨by simp[O.out],BW.out⟩
