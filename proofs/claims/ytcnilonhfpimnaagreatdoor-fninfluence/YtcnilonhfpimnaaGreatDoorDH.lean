import Derived.Test.YtcnilonhfpimnaaGreatDoorEC
import Derived.Test.YtcnilonhfpimnaaGreatDoorFY
import Derived.Test.YtcnilonhfpimnaaGreatDoorFI
import Derived.Deep.RegionHeld3
set_option linter.all false
set_option maxRecDepth 100000
set_option maxHeartbeats 8000000
open Go renaming Addr.mk->T,Value.slice->Y,Value.string->U,Value.int->J,Value.bool->ZF,Value.agg->ZJ,Obj.cells->N,IntKind.i64->I,World->E,Ending.returned->ZI,World.heap->A,World.cell?->ZU,Calls->Qw
open Option renaming none->Z,some->Q
open Bool renaming false->ZA,true->ZH
open Array renaming size->z
namespace Go.Proofs.YtcnilonhfpimnaaGreatDoor.Vp
open Tryz RowKit
def t6 (a:O_)(n j_:Nat)(f:Nat->au)(l:O_)(n0 q:Nat)(f0:Nat->Source)(j:O_)(n1 o:Nat)(f1:Nat->Target)(w:E)(hn:(n:Int)<=1048576)(hn0:(n0:Int)<=1048576)(hn1:(n1:Int)<=1048576)(hv:SlDeed w a n f)(bt:(n:Int)<=j_)(G:∀i,i<n->cX (f i))(S:Qx w l n0 f0)(ZP:Qq w j n1 f1)(ZO:∀i,i<n1->aP (f1 i))(B:Tab w)(C:Tab2 w)(ZS:Pow w):Qw Tryz.prog 23 #[ZJ #[Y a n j_],ZJ #[Y l n0 q,Y j n1 o]] w λe w'=>e=ZI (.tuple #[J I (fj n0 f0 n1 f1 f n).1,J I (fj n0 f0 n1 f1 f n).2])/\Below (z (A w)) w w':=by
 have ZM:=ae hv;have HM:=ae G;have R:=ae S;have ZN:=ae ZP;have O:=ae ZO;have L:=ae B;have la:=ae C;have aq:=ae ZS;have ld:=C.1;clear hv G S ZP ZO B C ZS;obtain⟨W,H⟩:∃W:E,(w.alloc (N #[Y a n j_] 25)).alloc (N #[Y l n0 q,Y j n1 o] 29)=W:=⟨_,rfl⟩
 obtain⟨ZR,-,-,-⟩:=nb2 H;have m:=ae H;clear H;have k0:ZU W (T (z (A w)) 0 Z)=Q (Y a n j_):=by rw[<-m.i];simp[go_sem]
 have k1:ZU W (T (z (A w)+1) 0 Z)=Q (Y l n0 q):=by rw[<-m.i];simp[go_sem]
 have k2:ZU W (T (z (A w)+1) 1 Z)=Q (Y j n1 o):=by rw[<-m.i];simp[go_sem]
 have hz:z (A w)+1<z (A W):=by rw[<-m.i];simp
 obtain⟨t,s,B⟩:∃t s,fj n0 f0 n1 f1 f n=(t,s):=⟨_,_,rfl⟩
 rw[B];have ZQ:=ae (show(if bc f n=ZH then (if aR n0 f0 n1 f1=0 then fi (dx n0 f0 n1 f1 f) n else (1,0)) else (1,0))=(t,s) from B);clear B;go_enter func23,ntmps23;go_wp2_with fail;rw[m.i];clear m;refine(jL a n j_ f _ hn (ZM.i.aa ZR.i ly) bt HM.i (L.i.aa ZR.i L.i.1)).P ?_;rintro e w1⟨rfl,g⟩;have ZW:=ae (ZR.i.k (g.P ZR.i.size));have l0:=(g.O (p:=(T (z (A w)) 0 Z)) (by show (z (A w))<_;omega)).k k0;have l1:=(g.O (p:=(T (z (A w)+1) 0 Z)) hz).k k1;have l2:=(g.O (p:=(T (z (A w)+1) 1 Z)) hz).k k2;have ZV:z (A w)+1<z (A w1):=lj hz g.size;clear g ZR k0 k1 k2 hz;have HO:=ae (λh:bc f n=ZH=>(⟨er h,h⟩:(1<=n/\n<=400/\aQ (bw f) n=-1)/\bc f n=ZH));obtain⟨r,hr⟩:∃r,r=bc f n:=⟨_,rfl⟩
 rw[<-hr] at ZQ ⊢;have X:=ae hr;clear hr;cases r with
 |false =>
  obtain⟨rfl,rfl⟩:(1:Int)=t/\(0:Int)=s:=by have:=ZQ.i;simpa using this
  go_wp2;go_ret2;exact⟨rfl,ZW.i⟩
 |true =>
  have M:=ae (show(if aR n0 f0 n1 f1=0 then fi (dx n0 f0 n1 f1 f) n else (1,0))=(t,s) by have:=ZQ.i;simpa using this);obtain⟨⟨hn1',hn4,-⟩,ZT⟩:=HO.i X.i.c;have ZL:=ae ZT;clear ZQ HO ZT X;obtain⟨b,off,rfl,D⟩:=ZM.i.resolve_left (by omega);have HR:=ae D;clear ZM D;go_wp2_with fail;refine(mU l n0 q f0 j n1 o f1 _ hn0 hn1 (R.i.aa ZW.i ly) (ZN.i.aa ZW.i ly) O.i (L.i.aa ZW.i L.i.1)).P ?_;rintro e w2⟨rfl,g⟩;have B2:=ae (ZW.i.k (g.P ZW.i.size));have m0:=(g.O (p:=(T (z (A w)) 0 Z)) (by show (z (A w))<_;omega)).k l0;have m1:=(g.O (p:=(T (z (A w)+1) 0 Z)) ZV).k l1;have m2:=(g.O (p:=(T (z (A w)+1) 1 Z)) ZV).k l2;have hz2:z (A w)+1<z (A w2):=lj ZV g.size;clear g l0 l1 l2 ZV;have V:=ae (λh:aR n0 f0 n1 f1=0=>nh h);obtain⟨c,hc⟩:∃c,c=aR n0 f0 n1 f1:=⟨_,rfl⟩
  rw[<-hc] at M ⊢;have P:=ae hc;clear hc;by_cases K:c=0;{subst K;have HG:=ae (show fi (dx n0 f0 n1 f1 f) n=(t,s) by have:=M.i;simpa using this);obtain⟨x,y,hfew⟩:=V.i P.i.c;have fd:=ae x;have ex:=ae y;clear M V P x y;have u:=ae (B2.i.alloc B2.i.size (N #[J I 2,.func (.func 61) #[] #[],J I 3,.func (.func 62) #[] #[],J I 4,.func (.func 63) #[] #[],J I 5,.func (.func 64) #[] #[]] 110));go_wp2_with fail;refine(tX b off n j_ (z (A w2)) l n0 q f0 j n1 o f1 f _ (by omega) hn0 hn1 ZL.i (HR.i.aa u.i ly) (R.i.aa u.i ly) (ZN.i.aa u.i ly) fd.i ex.i (λi hi=>(HM.i i hi).1) (λi hi=>(HM.i i hi).2) O.i (la.i.aa u.i ld) (aq.i.aa u.i ly) (by simp) (by simp) (by simp) (by simp) (by simp) (by simp) (by simp) (by simp) (by simp)).P ?_;rintro e w3⟨rfl,g⟩;have B3:=ae (u.i.k (g.P u.i.size));clear g;rw[HG.i];go_wp2;go_ret2;exact⟨rfl,B3.i⟩}
  ·obtain⟨rfl,rfl⟩:(1:Int)=t/\(0:Int)=s:=by have:=M.i;simpa[K] using this
   have hc2:(c == 0)=ZA:=by simpa using K
   go_wp2;go_ret2;exact⟨rfl,B2.i⟩
def o9 {g:B_}{n:Nat}{t:F_}{r s:Int}(f:aK g n=ZH)(h1:PlaceOf g n t r)(h2:PlaceOf g n t s):r=s:=by
 rcases h1 with⟨rfl,h1⟩|⟨i,rfl,hi,h1⟩
 ·rcases h2 with⟨rfl,h2⟩|⟨j,rfl,b,h2⟩
  {rfl};{rw[eO b h2] at h1;cases h1}
 ·rcases h2 with⟨rfl,h2⟩|⟨j,rfl,b,h2⟩
  {rw[eO hi h1] at h2;cases h2};{rw[asc_one f hi b h1 h2]}
def oq (g:B_)(n:Nat)(t:F_):∃r,PlaceOf g n t r:=by
 cases h:aF g n t with
 |false=>exact⟨-1,.inl ⟨rfl,h⟩⟩
 |true =>obtain⟨k,b,h1⟩:=pa h;exact⟨k,.inr ⟨k,rfl,b,h1⟩⟩
def xK (a0:O_)(n0 c0:Nat)(a1:O_)(n1 c1:Nat)(f0:Nat->Source)(t:F_)(S:Int)(w:E)(hn0:(n0:Int)<=1048576)(b:Qx w a0 n0 f0)(j:aK (nm0 f0) n0=ZH)(g:PlaceOf (nm0 f0) n0 t S):Qw Tryz.prog 27 #[ZJ #[Y a0 n0 c0,Y a1 n1 c1],U t] w λe h=>e=ZI (J I S)/\Below (z (A w)) w h:=
 (kW a0 n0 c0 a1 n1 c1 f0 t w hn0 b).P λ_ _ ⟨_,f,i,hb⟩=>⟨by rw[f,o9 j i g],hb⟩
def xL (a0:O_)(n0 c0:Nat)(a1:O_)(n1 c1:Nat)(f1:Nat->Target)(t:F_)(S:Int)(w:E)(hn1:(n1:Int)<=1048576)(b:Qq w a1 n1 f1)(j:aK (nm1 f1) n1=ZH)(g:PlaceOf (nm1 f1) n1 t S):Qw Tryz.prog 28 #[ZJ #[Y a0 n0 c0,Y a1 n1 c1],U t] w λe h=>e=ZI (J I S)/\Below (z (A w)) w h:=
 (kV a0 n0 c0 a1 n1 c1 f1 t w hn1 b).P λ_ _ ⟨_,f,i,hb⟩=>⟨by rw[f,o9 j i g],hb⟩
def t8 (a:O_)(n j_:Nat)(f:Nat->au)(o:O_)(n0 u:Nat)(f0:Nat->Source)(m:O_)(n1 q:Nat)(f1:Nat->Target)(w:E)(hn:(n:Int)<=1048576)(hn0:(n0:Int)<=1048576)(hn1:(n1:Int)<=1048576)(hv:SlDeed w a n f)(ld:∀i,i<n->cX (f i))(GS:∀i,i<n->fo (f i))(JH:Qx w o n0 f0)(At:Qq w m n1 f1)(Hx:∀i,i<n1->aP (f1 i))(JG:∀i,i<n1->∀j,j<(f1 i).h->((f1 i).q j).s.size<=maxLen):Qw Tryz.prog 6 #[ZJ #[Y a n j_],ZJ #[Y o n0 u,Y m n1 q]] w λe w'=>e=ZI (.tuple #[J I (fj n0 f0 n1 f1 f n).1,J I (fj n0 f0 n1 f1 f n).2])/\Below (z (A w)) w w':=by
  have HV:=ae hv;have HM:=ae ld;have HZ:=ae GS;have la:=ae JH;have mv:=ae At;have DE:=ae Hx;have JR:=ae JG;clear hv ld GS JH At Hx JG;have A0:=ae (((BS w).alloc ly (N #[Y a n j_] 25)).alloc (by simp) (N #[Y o n0 u,Y m n1 q] 29));have X0:=ae (AH w (Y a n j_) (Y o n0 u) (Y m n1 q) 25 29);obtain⟨D,ZW,P⟩:∃D ZW,fj n0 f0 n1 f1 f n=(D,ZW):=⟨_,_,rfl⟩
  rw[P];have HE:=ae (show(if bc f n=ZH then (if aR n0 f0 n1 f1=0 then fi (dx n0 f0 n1 f1 f) n else (1,0)) else (1,0))=(D,ZW) from P);clear P;go_enter func6,ntmps6;go_wp2_with fail;generalize World.alloc (World.alloc w _) _=W at A0 X0 ⊢;refine(uC a n j_ f _ hn (HV.i.aa A0.i ly) HM.i HZ.i).P ?_;rintro e w1⟨rfl,g⟩;have B1:=ae (A0.i.k (g.P A0.i.size));have X1:=ae (X0.i.aa g X0.i.lt);clear g A0 X0;have HO:=ae (λh:bc f n=ZH=>(⟨er h,h⟩:(1<=n/\n<=400/\aQ (bw f) n=-1)/\bc f n=ZH));obtain⟨r,hr⟩:∃r,r=bc f n:=⟨_,rfl⟩
  rw[<-hr] at HE ⊢;have JL:=ae hr;clear hr;obtain⟨K,ZR,ZQ,M⟩:=X1.i;cases r with
  |false =>
    obtain⟨rfl,rfl⟩:(1:Int)=D/\(0:Int)=ZW:=by have:=HE.i;simpa using this
    go_wp2;go_ret2;exact⟨rfl,B1.i⟩
  |true =>
    have HF:=ae (show(if aR n0 f0 n1 f1=0 then fi (dx n0 f0 n1 f1 f) n else (1,0))=(D,ZW) by have:=HE.i;simpa using this);obtain⟨⟨hn1',hn4,-⟩,ro⟩:=HO.i JL.i.c;have JM:=ae ro;clear HE HO ro JL;obtain⟨b,off,rfl,qr⟩:=HV.i.resolve_left (by omega);have HR:=ae qr;clear HV qr;go_wp2_with fail;refine(eK o n0 u f0 m n1 q f1 _ hn0 hn1 (la.i.aa B1.i ly) (mv.i.aa B1.i ly) DE.i JR.i).P ?_;rintro e w2⟨rfl,g⟩;have B2:=ae (B1.i.k (g.P B1.i.size));have X2:=ae (X1.i.aa g X1.i.lt);clear g X1 K ZR ZQ M;have Bk:=ae (λh:aR n0 f0 n1 f1=0=>nh h);obtain⟨c,hc⟩:∃c,c=aR n0 f0 n1 f1:=⟨_,rfl⟩
    rw[<-hc] at HF ⊢;have Fd:=ae hc;clear hc;by_cases n9:c=0;case neg =>
      obtain⟨rfl,rfl⟩:(1:Int)=D/\(0:Int)=ZW:=by have:=HF.i;simpa[n9] using this
      have JO:(c == 0)=ZA:=by simpa using n9
      go_wp2;go_ret2;exact⟨rfl,B2.i⟩
    subst n9;have HG:=ae (show fi (dx n0 f0 n1 f1 f) n=(D,ZW) by have:=HF.i;simpa using this);obtain⟨fd,bt,hfew⟩:=Bk.i Fd.i.c;have ur:=ae fd;have DQ:=ae bt;clear HF Bk Fd fd bt;go_wp2;go_loopw [6] (λv wr=>∃i:Nat,i<=n/\v=J I i/\Hid (∀j,j<i->dx n0 f0 n1 f1 f j=0)/\Hid (Below (z (A w2)) w2 wr)) (λi _=>n - (intOf i).toNat);case atStart=>exact⟨0,by omega,rfl,λj hj=>absurd hj (NE _),a8 _ _⟩
    case round =>
      obtain⟨i,hin,rfl,HD,HB⟩:=hrel;have X3:=ae (X2.i.aa HB.i X2.i.lt);have R2:=ae (B2.i.k (HB.i.P B2.i.size));obtain⟨K,ZR,ZQ,M⟩:=X3.i;by_cases x:i<n;case neg =>
        obtain rfl:i=n:=by omega
        have h:=nW HD.i;rw[HG.i] at h;simp only[LK] at h;obtain⟨rfl,rfl⟩:=h;go_wp2;go_ret2;exact⟨rfl,R2.i⟩
      have hlt2:(i:Int)<n:=by omega
      have O:=HR.i.aa R2.i ly;have JI:=ae O;obtain⟨o0,o1,o2,o3,⟨a0,sm,o4,q4⟩,⟨a1,ZM,o5,q5⟩⟩:=O.2 i x;have QI:=ae (show SlIns wr a0 (f i).h (f i).q/\SlLink wr a1 (f i).f (f i).m from⟨q4,q5⟩);clear O q4 q5;obtain⟨WD,hW⟩:∃W:E,wr.alloc (N #[U (f i).e,J I (f i).L,J I (f i).M,U (f i).H,Y a0 (f i).h sm,Y a1 (f i).f ZM] 62)=W:=⟨_,rfl⟩
      obtain⟨ZN,kD,R⟩:=nb1 hW;have HW:=ae hW;clear hW;have e1:ZU WD (T (z (A wr)) 1 Z)=Q (J I (f i).L):=by rw[Lib.cell_of_heap kD.i];rfl
      have e5:ZU WD (T (z (A wr)) 5 Z)=Q (Y a1 (f i).f ZM):=by rw[Lib.cell_of_heap kD.i];rfl
      replace R:z (A wr)<z (A WD):=by omega
      clear kD;go_wp2_with fail;clear o0 o1 o2 o3 o4 o5;rw[HW.i];clear HW;have R3:=ae (R2.i.k (ZN.i.P R2.i.size));have B3:=ae (HB.i.k (ZN.i.P HB.i.size));refine(Cx (f i) a0 sm a1 ZM o n0 u f0 m n1 q f1 _ hn0 hn1 (la.i.aa R3.i ly) (mv.i.aa R3.i ly) ur.i DQ.i (QI.i.1.aa ZN.i ly) (HM.i i x).1 DE.i).P ?_;rintro e w4⟨rfl,g⟩;have X4:=ae ((X3.i.aa ZN.i X3.i.lt).aa g (by have:=X3.i.lt;have:=ZN.i.size;omega));have R4:=ae (R3.i.k (g.P R3.i.size));have B4:=ae (B3.i.k (g.P B3.i.size));have D4:=ae (ZN.i.k (g.P ZN.i.size));have g1:=(g.O (p:=(T (z (A wr)) 1 Z)) R).k e1;have g5:=(g.O (p:=(T (z (A wr)) 5 Z)) R).k e5;have aq:z (A wr)<z (A w4):=lj R g.size;have n8:=ae (show dx n0 f0 n1 f1 f i=if gD n0 f0 n1 f1 (f i)=ZH then 2 else if hasB n0 f0 n1 f1 (f i)=ZH then 3 else codeF f i from rfl);clear g ZN R3 B3 e1 e5 R K ZR ZQ M X3;obtain⟨K,ZR,ZQ,M⟩:=X4.i;cases hq:gD n0 f0 n1 f1 (f i) with
      |true =>
        have y:Hid ((2:Int)=D/\(i:Int)=ZW):=by
          have ZO:dx n0 f0 n1 f1 f i=2:=by rw[n8.i,eT hq]
          have h:=ju x HD.i (by rw[ZO];decide);rw[HG.i,ZO] at h;simp only[LK] at h;exact⟨h.1.c,h.2.c⟩
        go_wp2;go_ret2;exact⟨by rw[y.i.1,y.i.2];rfl,R4.i⟩
      |false =>
        have HQ:=ae hq;have QJ:=ae (And.intro (QI.i.1.aa D4.i ly) (QI.i.2.aa D4.i ly));have JU:=ae (JI.i.aa D4.i ly);have hll:=(HM.i i x).2;clear hq QI JI D4 HB R2 ZR ZQ M K;generalize (z (A wr))=gd at g1 g5 aq ⊢;obtain⟨K,ZR,ZQ,M⟩:=X4.i;go_wp2;go_loopw [8] (λv w5=>∃k:Nat,k<=(f i).f/\v=J I k/\Hid (aM (λk=>dY n0 f0 n1 f1 ((f i).m k)) k=ZA)/\Hid (Below (z (A w4)) w4 w5)) (λk _=>(f i).f - (intOf k).toNat);case atStart=>exact⟨0,by omega,rfl,rfl,a8 _ _⟩
        case round =>
          obtain⟨k,hk,rfl,HN,l⟩:=hrel;have X5:=ae (X4.i.aa l.i X4.i.lt);have R5:=ae (R4.i.k (l.i.P R4.i.size));have JJ:=(l.i.O (p:=(T gd 1 Z)) aq).k g1;have JP:=(l.i.O (p:=(T gd 5 Z)) aq).k g5;have hgz':gd<z (A wr):=lj aq l.i.size;clear K ZR ZQ M;obtain⟨K,ZR,ZQ,M⟩:=X5.i;by_cases hlk:k<(f i).f
          · have hlk2:(k:Int)<(f i).f:=by omega
            obtain⟨lb,lo,JV,Fk⟩:=(QJ.i.2.aa l.i ly).resolve_left (by omega);subst JV;obtain⟨p0,p1,p2,p3⟩:=Fk.2 k hlk;clear Fk;have HX:=ae (show aM (λk=>dY n0 f0 n1 f1 ((f i).m k)) (k+1)=dY n0 f0 n1 f1 ((f i).m k) by rw[aM,HN.i];rfl);have HY:=ae (λh:dY n0 f0 n1 f1 ((f i).m k)=ZH=>show hasB n0 f0 n1 f1 (f i)=ZH from cS (p:=λk=>dY n0 f0 n1 f1 ((f i).m k)) hlk h);generalize (f i).m k=X at p0 p1 p2 p3 HX HY;obtain⟨S,hS⟩:=oq (nm0 f0) n0 X.e;obtain⟨ZP,P⟩:=oq (nm1 f1) n1 X.e;have ex:=ae (show dY n0 f0 n1 f1 X=(!X.ask && !(X.has == (decide (0<=S) || decide (0<=ZP)))) by unfold dY hZ;rw[hS.has,P.has]);have PS:=ae hS;have PT:=ae P;have JT:=ae (show(S=-1\/∃s:Nat,S=s)/\(ZP=-1\/∃t:Nat,ZP=t) from⟨hS.elim (λh=>.inl h.1) (λ⟨k,h,_⟩=>.inr ⟨k,h⟩),P.elim (λh=>.inl h.1) (λ⟨k,h,_⟩=>.inr ⟨k,h⟩)⟩);clear hS P;cases hask:X.ask with
            |true =>
              have Fm:dY n0 f0 n1 f1 X=ZA:=by rw[ex.i,hask];rfl
              have JS:=ae (HX.i.k Fm);have BL:=ae (l.i.alloc l.i.size (N #[U X.e,ZF ZH,ZF X.has,J I X.G] 65));rw[hask] at p1;clear Fm HX HY ex PS PT;go_wp2_with fail;go_quiet (fail);have BQ:=ae (AD BL.i nq);go_wp2;exact⟨⟨k+1,by omega,by go_num,JS.i,BQ.i⟩,by simp[intOf];omega⟩
            |false =>
              obtain⟨c,th⟩:∃c,c=X.has:=⟨_,rfl⟩
              obtain⟨nm,Id⟩:∃nm,nm=X.e:=⟨_,rfl⟩
              have L:Hid (dY n0 f0 n1 f1 X=!(c == (decide (0<=S) || decide (0<=ZP)))):=by show _=_;rw[ex.i,hask,th];rfl
              rw[hask] at p1;rw[<-th] at p2;rw[<-Id] at p0 PS PT;have D6:=ae ((BS wr).alloc ly (N #[U nm,ZF ZA,ZF c,J I X.G] 65));have m0:(wr.alloc (N #[U nm,ZF ZA,ZF c,J I X.G] 65)).cell? (T (z (A wr)) 0 Z)=Q (U nm):=by simp
              have m1:(wr.alloc (N #[U nm,ZF ZA,ZF c,J I X.G] 65)).cell? (T (z (A wr)) 1 Z)=Q (ZF ZA):=by simp
              have m2:(wr.alloc (N #[U nm,ZF ZA,ZF c,J I X.G] 65)).cell? (T (z (A wr)) 2 Z)=Q (ZF c):=by simp
              have ZS:z (A wr)<(wr.alloc (N #[U nm,ZF ZA,ZF c,J I X.G] 65)).heap.size:=by simp
              clear th Id hask ex;go_wp2_with fail;have X6:=ae (X5.i.aa D6.i X5.i.lt);clear p0 p1 p2 p3 JJ JP K ZR ZQ M;generalize World.alloc wr _=ZV at D6 m0 m1 m2 ZS X6 ⊢;have B6:=ae (l.i.k (D6.i.P l.i.size));have R6:=ae (R5.i.k (D6.i.P R5.i.size));have CS:=ae (λV (g:Below (z (A ZV)) ZV V)=>xK o n0 u m n1 q f0 nm S V hn0 ((la.i.aa R6.i ly).aa g ly) ur.i PS.i);have CT:=ae (λV (g:Below (z (A ZV)) ZV V)=>xL o n0 u m n1 q f1 nm ZP V hn1 ((mv.i.aa R6.i ly).aa g ly) DQ.i PT.i);generalize (z (A wr))=B at m0 m1 m2 ZS ⊢;clear D6 PS PT X5 R5
              have y:=ae (λh:dY n0 f0 n1 f1 X=ZH=>(show(3:Int)=D/\(i:Int)=ZW by
                have ZO:dx n0 f0 n1 f1 f i=3:=by rw[n8.i,eI (by rw[HQ.i];simp),eT (HY.i h)]
                have h:=ju x HD.i (by rw[ZO];decide);rw[HG.i,ZO] at h;simp only[LK] at h
                exact⟨h.1.c,h.2.c⟩))
              have SK:=ae (λV (g:Below (z (A ZV)) ZV V)=>(show ZU V (T B 0 Z)=Q (U nm)/\ZU V (T B 1 Z)=Q (ZF ZA)/\ZU V (T B 2 Z)=Q (ZF c)/\ZU V (T (z (A w)+1) 0 Z)=Q (Y o n0 u)/\ZU V (T (z (A w)+1) 1 Z)=Q (Y m n1 q) from⟨(g.O (p:=(T B 0 Z)) ZS).k m0,(g.O (p:=(T B 1 Z)) ZS).k m1,(g.O (p:=(T B 2 Z)) ZS).k m2,(X6.i.aa g X6.i.lt).c1,(X6.i.aa g X6.i.lt).c2⟩));clear m0 m1 m2;have hst:(S=-1\/∃s:Nat,S=s)/\(ZP=-1\/∃t:Nat,ZP=t):=JT.i;rcases hst with⟨rfl|⟨s,rfl⟩,JK⟩
              · rcases JK with rfl|⟨t,rfl⟩
                all_goals
                  go_region_held3 (λV=>ZU V (T B 0 Z)=Q (U nm)/\ZU V (T B 1 Z)=Q (ZF ZA)/\ZU V (T B 2 Z)=Q (ZF c)/\ZU V (T (z (A w)+1) 0 Z)=Q (Y o n0 u)/\ZU V (T (z (A w)+1) 1 Z)=Q (Y m n1 q)) (first|exact SK.i _ br|exact SK.i _ br.drew|exact SK.i _ ZT.i|exact SK.i _ BT.i)
                    (first
                    |(go_at_call 27;refine(CS.i _ ?_).P ?_;(first|exact a8 _ _|exact br.drew);rintro e wS⟨rfl,g⟩;have ZT:Hid (Below (z (A ZV)) ZV wS):=⟨g.os,g.tape,g.output,g.size,g.p⟩;clear g)
                    |(go_at_call 28;refine(CT.i _ ?_).P ?_;(first|exact ZT.i|exact ZT.i.drew);rintro e wT⟨rfl,g⟩;have BT:Hid (Below (z (A ZV)) ZV wT):=ZT.i.k (Below.mono (⟨g.os,g.tape,g.output,g.size,g.p⟩:Below (z (A wS)) wS wT) ZT.i.size);clear g))
                  all_goals
                    go_simp;cases c
                    all_goals
                      go_wp2;first
                        |exact⟨⟨k+1,by omega,by go_num,HX.i.k (by rw[L.i];simp),B6.i.k (BT.i.P B6.i.size)⟩,by simp[intOf];omega⟩
                        | (go_ret2
                           have ZL:=y.i (by rw[L.i];simp)
                           exact⟨by rw[ZL.1,ZL.2];rfl,R6.i.k (BT.i.P R6.i.size)⟩)
              · clear CT JK;obtain⟨z0,z1,z2,z3,z4⟩:=SK.i _ br;first
                  | go_region_with (first
                    |(go_at_call 27;refine(CS.i _ ?_).P ?_;(first|exact a8 _ _|exact br.drew);rintro e wS⟨rfl,g⟩;have ZT:Hid (Below (z (A ZV)) ZV wS):=⟨g.os,g.tape,g.output,g.size,g.p⟩;obtain⟨u0,u1,u2,u3,u4⟩:=SK.i _ ZT.i;have hsz1:B<z (A wS):=lj ZS ZT.i.size;clear g))
                  |fail
                all_goals
                  go_simp;cases c
                  all_goals
                    go_wp2;first
                      |exact⟨⟨k+1,by omega,by go_num,HX.i.k (by rw[L.i];simp),B6.i.k (ZT.i.P B6.i.size)⟩,by simp[intOf];omega⟩
                      | (go_ret2
                         have ZL:=y.i (by rw[L.i];simp)
                         exact⟨by rw[ZL.1,ZL.2];rfl,R6.i.k (ZT.i.P R6.i.size)⟩)
          · obtain rfl:k=(f i).f:=by omega
            have JQ:=ae (show hasB n0 f0 n1 f1 (f i)=ZA from HN.i);have ph:Hid (dx n0 f0 n1 f1 f i=codeF f i):=by show _=_;rw[n8.i,eI (by rw[HQ.i];simp),eI (by rw[JQ.i];simp)]
            have B5:=ae (B4.i.k (l.i.P B4.i.size));by_cases H:(f i).L=3
            · have JN:=ae H;have G:Hid (dx n0 f0 n1 f1 f i=gB f i):=by show _=_;rw[ph.i];unfold codeF;rw[eT H]
              rw[H] at JJ;clear H ph;go_wp2_with fail;refine(BU b off n j_ f i _ (by omega) JM.i x JN.i (JU.i.aa l.i ly) (HZ.i i x)).P ?_;rintro e w6⟨rfl,g⟩;have B7:=ae (B5.i.k (g.P B5.i.size));have R7:=ae (R5.i.k (g.P R5.i.size));clear g;obtain⟨C,hC⟩:∃C,C=gB f i:=⟨_,rfl⟩
              rw[<-hC];rw[<-hC] at G;clear hC;by_cases hc:C=0
              · subst hc;go_wp2
                exact⟨⟨i+1,by omega,by go_num,λj hj=>by
                  by_cases e:j=i;{subst e;exact G.i}
                  · exact HD.i j (by omega),B7.i⟩,by simp[intOf];omega⟩
              · have JO:(C == 0)=ZA:=by simpa using hc
                have y:Hid (C=D/\(i:Int)=ZW):=by have h:=ju x HD.i (by rw[G.i];exact hc);rw[HG.i,G.i] at h;simp only[LK] at h;exact⟨h.1.c,h.2.c⟩
                go_wp2;go_ret2;exact⟨by rw[y.i.1,y.i.2];rfl,R7.i⟩
            · have G:Hid (dx n0 f0 n1 f1 f i=0):=by show _=_;rw[ph.i];unfold codeF;rw[eI H]
              have hk2:((f i).L == 3)=ZA:=by simpa using H
              go_wp2
              exact⟨⟨i+1,by omega,by go_num,λj hj=>by
                  by_cases e:j=i;{subst e;exact G.i}
                  · exact HD.i j (by omega),B5.i⟩,by simp[intOf];omega⟩
