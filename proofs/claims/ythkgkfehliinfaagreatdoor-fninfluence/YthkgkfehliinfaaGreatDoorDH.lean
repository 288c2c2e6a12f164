import Derived.Test.YthkgkfehliinfaaGreatDoorEC
import Derived.Test.YthkgkfehliinfaaGreatDoorFY
import Derived.Test.YthkgkfehliinfaaGreatDoorFJ
import Derived.Deep.RegionHeld3
set_option linter.all false
set_option maxRecDepth 100000
set_option maxHeartbeats 8000000
open Go renaming Addr.mk->Q,Value.slice->Y,Value.string->U,Value.int->J,Value.bool->ZF,Value.agg->ZJ,Obj.cells->N,IntKind.i64->I,World->E,Ending.returned->ZI,World.heap->A,World.cell?->ZU
open Option renaming none->Z,some->T
open Bool renaming false->ZA,true->ZH
open Array renaming size->z
namespace Go.Proofs.YthkgkfehliinfaaGreatDoor.Vp
open Tryz RowKit
def t6 (a:O_)(n j_:Nat)(f:Nat->au)(m:O_)(n0 q:Nat)(f0:Nat->Source)(j:O_)(n1 o:Nat)(f1:Nat->Target)(w:E)(hn:(n:Int)<=1048576)(hn0:(n0:Int)<=1048576)(hn1:(n1:Int)<=1048576)(hv:SlDeed w a n f)(aq:(n:Int)<=j_)(ZS:∀i,i<n->cX (f i))(X:Qx w m n0 f0)(ZN:Qq w j n1 f1)(ZO:∀i,i<n1->aP (f1 i))(ZW:Tab w)(ZT:Tab2 w)(C:Pow w):Calls Tryz.prog 29 #[ZJ #[Y a n j_],ZJ #[Y m n0 q,Y j n1 o]] w λe w'=>e=ZI (.tuple #[J I (fj n0 f0 n1 f1 f n).1,J I (fj n0 f0 n1 f1 f n).2])/\Below (z (A w)) w w':=by
 have ZL:=ae hv;have HM:=ae ZS;have O:=ae X;have R:=ae ZN;have ZP:=ae ZO;have M:=ae ZW;have la:=ae ZT;have ex:=ae C;have fd:=ZT.1;clear hv ZS X ZN ZO ZW ZT C;obtain⟨W,D⟩:∃W:E,(w.alloc (N #[Y a n j_] 25)).alloc (N #[Y m n0 q,Y j n1 o] 29)=W:=⟨_,rfl⟩
 obtain⟨ZR,-,-,-⟩:=nb2 D;have l:=ae D;clear D;have k0:ZU W (Q (z (A w)) 0 Z)=T (Y a n j_):=by rw[<-l.i];simp[go_sem]
 have k1:ZU W (Q (z (A w)+1) 0 Z)=T (Y m n0 q):=by rw[<-l.i];simp[go_sem]
 have k2:ZU W (Q (z (A w)+1) 1 Z)=T (Y j n1 o):=by rw[<-l.i];simp[go_sem]
 have hz:z (A w)+1<z (A W):=by rw[<-l.i];simp
 obtain⟨t,s,ZW⟩:∃t s,fj n0 f0 n1 f1 f n=(t,s):=⟨_,_,rfl⟩
 rw[ZW];have ZQ:=ae (show(if bc f n=ZH then (if aR n0 f0 n1 f1=0 then fi (dx n0 f0 n1 f1 f) n else (1,0)) else (1,0))=(t,s) from ZW);clear ZW;go_enter func29,ntmps29;go_wp2_with fail;rw[l.i];clear l;refine(jL a n j_ f _ hn (ZL.i.aa ZR.i ly) aq HM.i (M.i.aa ZR.i M.i.1)).P ?_;rintro e w1⟨rfl,g⟩;have B:=ae (ZR.i.k (g.P ZR.i.size));have l0:=(g.O (p:=(Q (z (A w)) 0 Z)) (by show (z (A w))<_;omega)).k k0;have l1:=(g.O (p:=(Q (z (A w)+1) 0 Z)) hz).k k1;have l2:=(g.O (p:=(Q (z (A w)+1) 1 Z)) hz).k k2;have ZV:z (A w)+1<z (A w1):=lj hz g.size;clear g ZR k0 k1 k2 hz;have HO:=ae (λh:bc f n=ZH=>(⟨er h,h⟩:(1<=n/\n<=400/\aQ (bw f) n=-1)/\bc f n=ZH));obtain⟨r,ZM⟩:∃r,r=bc f n:=⟨_,rfl⟩
 rw[<-ZM] at ZQ ⊢;have P:=ae ZM;clear ZM;cases r with
 |false =>
  obtain⟨rfl,rfl⟩:(1:Int)=t/\(0:Int)=s:=by have:=ZQ.i;simpa using this
  go_wp2;go_ret2;exact⟨rfl,B.i⟩
 |true =>
  have L:=ae (show(if aR n0 f0 n1 f1=0 then fi (dx n0 f0 n1 f1 f) n else (1,0))=(t,s) by have:=ZQ.i;simpa using this);obtain⟨⟨hn1',hn4,-⟩,H⟩:=HO.i P.i.c;have bt:=ae H;clear ZQ HO H P;obtain⟨b,off,rfl,G⟩:=ZL.i.resolve_left (by omega);have HR:=ae G;clear ZL G;go_wp2_with fail;refine(mU m n0 q f0 j n1 o f1 _ hn0 hn1 (O.i.aa B.i ly) (R.i.aa B.i ly) ZP.i (M.i.aa B.i M.i.1)).P ?_;rintro e w2⟨rfl,g⟩;have B2:=ae (B.i.k (g.P B.i.size));have m0:=(g.O (p:=(Q (z (A w)) 0 Z)) (by show (z (A w))<_;omega)).k l0;have m1:=(g.O (p:=(Q (z (A w)+1) 0 Z)) ZV).k l1;have m2:=(g.O (p:=(Q (z (A w)+1) 1 Z)) ZV).k l2;have hz2:z (A w)+1<z (A w2):=lj ZV g.size;clear g l0 l1 l2 ZV;have S:=ae (λh:aR n0 f0 n1 f1=0=>nh h);obtain⟨c,hc⟩:∃c,c=aR n0 f0 n1 f1:=⟨_,rfl⟩
  rw[<-hc] at L ⊢;have V:=ae hc;clear hc;by_cases K:c=0;{subst K;have HG:=ae (show fi (dx n0 f0 n1 f1 f) n=(t,s) by have:=L.i;simpa using this);obtain⟨x,y,hfew⟩:=S.i V.i.c;have ld:=ae x;have mv:=ae y;clear L S V x y;have u:=ae (B2.i.alloc B2.i.size (N #[J I 2,.func (.func 76) #[] #[],J I 3,.func (.func 77) #[] #[],J I 4,.func (.func 78) #[] #[],J I 5,.func (.func 79) #[] #[]] 132));go_wp2_with fail;refine(tX b off n j_ (z (A w2)) m n0 q f0 j n1 o f1 f _ (by omega) hn0 hn1 bt.i (HR.i.aa u.i ly) (O.i.aa u.i ly) (R.i.aa u.i ly) ld.i mv.i (λi hi=>(HM.i i hi).1) (λi hi=>(HM.i i hi).2) ZP.i (la.i.aa u.i fd) (ex.i.aa u.i ly) (by simp) (by simp) (by simp) (by simp) (by simp) (by simp) (by simp) (by simp) (by simp)).P ?_;rintro e w3⟨rfl,g⟩;have B3:=ae (u.i.k (g.P u.i.size));clear g;rw[HG.i];go_wp2;go_ret2;exact⟨rfl,B3.i⟩}
  ·obtain⟨rfl,rfl⟩:(1:Int)=t/\(0:Int)=s:=by have:=L.i;simpa[K] using this
   have hc2:(c == 0)=ZA:=by simpa using K
   go_wp2;go_ret2;exact⟨rfl,B2.i⟩
def o9 {g:B_}{n:Nat}{t:F_}{r s:Int}(f:aK g n=ZH)(h1:PlaceOf g n t r)(h2:PlaceOf g n t s):r=s:=by
 rcases h1 with⟨rfl,h1⟩|⟨i,rfl,hi,h1⟩
 ·rcases h2 with⟨rfl,h2⟩|⟨j,rfl,b,h2⟩
  {rfl};{rw[eO b h2] at h1;cases h1}
 ·rcases h2 with⟨rfl,h2⟩|⟨j,rfl,b,h2⟩
  {rw[eO hi h1] at h2;cases h2};{rw[asc_one f hi b h1 h2]}
def oq (g:B_)(n:Nat)(t:F_):∃r,PlaceOf g n t r:=by
 cases h:aF g n t with
 |false=>exact⟨-1,.inl ⟨rfl,h⟩⟩
 |true =>obtain⟨k,b,h1⟩:=pa h;exact⟨k,.inr ⟨k,rfl,b,h1⟩⟩
def xK (a0:O_)(n0 c0:Nat)(a1:O_)(n1 c1:Nat)(f0:Nat->Source)(t:F_)(S:Int)(w:E)(hn0:(n0:Int)<=1048576)(b:Qx w a0 n0 f0)(i:aK (nm0 f0) n0=ZH)(g:PlaceOf (nm0 f0) n0 t S):Calls Tryz.prog 33 #[ZJ #[Y a0 n0 c0,Y a1 n1 c1],U t] w λe j=>e=ZI (J I S)/\Below (z (A w)) w j:=
 (kW a0 n0 c0 a1 n1 c1 f0 t w hn0 b).P λ_ _ ⟨_,h,f,hb⟩=>⟨by rw[h,o9 i f g],hb⟩
def xL (a0:O_)(n0 c0:Nat)(a1:O_)(n1 c1:Nat)(f1:Nat->Target)(t:F_)(S:Int)(w:E)(hn1:(n1:Int)<=1048576)(b:Qq w a1 n1 f1)(i:aK (nm1 f1) n1=ZH)(g:PlaceOf (nm1 f1) n1 t S):Calls Tryz.prog 34 #[ZJ #[Y a0 n0 c0,Y a1 n1 c1],U t] w λe j=>e=ZI (J I S)/\Below (z (A w)) w j:=
 (kV a0 n0 c0 a1 n1 c1 f1 t w hn1 b).P λ_ _ ⟨_,h,f,hb⟩=>⟨by rw[h,o9 i f g],hb⟩
def t8 (a:O_)(n j_:Nat)(f:Nat->au)(o:O_)(n0 u:Nat)(f0:Nat->Source)(m:O_)(n1 q:Nat)(f1:Nat->Target)(w:E)(hn:(n:Int)<=1048576)(hn0:(n0:Int)<=1048576)(hn1:(n1:Int)<=1048576)(hv:SlDeed w a n f)(ur:∀i,i<n->cX (f i))(JG:∀i,i<n->fo (f i))(GS:Qx w o n0 f0)(Fd:Qq w m n1 f1)(JL:∀i,i<n1->aP (f1 i))(Id:∀i,i<n1->∀j,j<(f1 i).h->((f1 i).u j).s.size<=maxLen):Calls Tryz.prog 7 #[ZJ #[Y a n j_],ZJ #[Y o n0 u,Y m n1 q]] w λe w'=>e=ZI (.tuple #[J I (fj n0 f0 n1 f1 f n).1,J I (fj n0 f0 n1 f1 f n).2])/\Below (z (A w)) w w':=by
  have HV:=ae hv;have HM:=ae ur;have HZ:=ae JG;have qr:=ae GS;have ld:=ae Fd;have JJ:=ae JL;have JS:=ae Id;clear hv ur JG GS Fd JL Id;have A0:=ae (((BS w).alloc ly (N #[Y a n j_] 25)).alloc (by simp) (N #[Y o n0 u,Y m n1 q] 29));have X0:=ae (AH w (Y a n j_) (Y o n0 u) (Y m n1 q) 25 29);obtain⟨D,B,R⟩:∃D B,fj n0 f0 n1 f1 f n=(D,B):=⟨_,_,rfl⟩
  rw[R];have HE:=ae (show(if bc f n=ZH then (if aR n0 f0 n1 f1=0 then fi (dx n0 f0 n1 f1 f) n else (1,0)) else (1,0))=(D,B) from R);clear R;go_enter func7,ntmps7;go_wp2_with fail;generalize World.alloc (World.alloc w _) _=W at A0 X0 ⊢;refine(uC a n j_ f _ hn (HV.i.aa A0.i ly) HM.i HZ.i).P ?_;rintro e w1⟨rfl,g⟩;have B1:=ae (A0.i.k (g.P A0.i.size));have X1:=ae (X0.i.aa g X0.i.lt);clear g A0 X0;have HO:=ae (λh:bc f n=ZH=>(⟨er h,h⟩:(1<=n/\n<=400/\aQ (bw f) n=-1)/\bc f n=ZH));obtain⟨r,hr⟩:∃r,r=bc f n:=⟨_,rfl⟩
  rw[<-hr] at HE ⊢;have JH:=ae hr;clear hr;obtain⟨O,L,ZR,K⟩:=X1.i;cases r with
  |false =>
    obtain⟨rfl,rfl⟩:(1:Int)=D/\(0:Int)=B:=by have:=HE.i;simpa using this
    go_wp2;go_ret2;exact⟨rfl,B1.i⟩
  |true =>
    have HF:=ae (show(if aR n0 f0 n1 f1=0 then fi (dx n0 f0 n1 f1 f) n else (1,0))=(D,B) by have:=HE.i;simpa using this);obtain⟨⟨hn1',hn4,-⟩,n8⟩:=HO.i JH.i.c;have JN:=ae n8;clear HE HO n8 JH;obtain⟨b,off,rfl,mv⟩:=HV.i.resolve_left (by omega);have HR:=ae mv;clear HV mv;go_wp2_with fail;refine(eK o n0 u f0 m n1 q f1 _ hn0 hn1 (qr.i.aa B1.i ly) (ld.i.aa B1.i ly) JJ.i JS.i).P ?_;rintro e w2⟨rfl,g⟩;have B2:=ae (B1.i.k (g.P B1.i.size));have X2:=ae (X1.i.aa g X1.i.lt);clear g X1 O L ZR K;have DQ:=ae (λh:aR n0 f0 n1 f1=0=>nh h);obtain⟨c,ZM⟩:∃c,c=aR n0 f0 n1 f1:=⟨_,rfl⟩
    rw[<-ZM] at HF ⊢;have Fm:=ae ZM;clear ZM;by_cases ph:c=0;case neg =>
      obtain⟨rfl,rfl⟩:(1:Int)=D/\(0:Int)=B:=by have:=HF.i;simpa[ph] using this
      have JP:(c == 0)=ZA:=by simpa using ph
      go_wp2;go_ret2;exact⟨rfl,B2.i⟩
    subst ph;have HG:=ae (show fi (dx n0 f0 n1 f1 f) n=(D,B) by have:=HF.i;simpa using this);obtain⟨fd,bt,hfew⟩:=DQ.i Fm.i.c;have JK:=ae fd;have Fk:=ae bt;clear HF DQ Fm fd bt;go_wp2;go_loopw [6] (λv wr=>∃i:Nat,i<=n/\v=J I i/\Hid (∀j,j<i->dx n0 f0 n1 f1 f j=0)/\Hid (Below (z (A w2)) w2 wr)) (λi _=>n - (intOf i).toNat);case atStart=>exact⟨0,by omega,rfl,λj hj=>absurd hj (NF _),a8 _ _⟩
    case round =>
      obtain⟨i,hin,rfl,HD,HB⟩:=hrel;have X3:=ae (X2.i.aa HB.i X2.i.lt);have R2:=ae (B2.i.k (HB.i.P B2.i.size));obtain⟨O,L,ZR,K⟩:=X3.i;by_cases x:i<n;case neg =>
        obtain rfl:i=n:=by omega
        have h:=nW HD.i;rw[HG.i] at h;simp only[LK] at h;obtain⟨rfl,rfl⟩:=h;go_wp2;go_ret2;exact⟨rfl,R2.i⟩
      have hlt2:(i:Int)<n:=by omega
      have ZQ:=HR.i.aa R2.i ly;have JM:=ae ZQ;obtain⟨o0,o1,o2,o3,⟨a0,n9,o4,q4⟩,⟨a1,aq,o5,q5⟩⟩:=ZQ.2 i x;have QI:=ae (show SlIns wr a0 (f i).h (f i).u/\SlLink wr a1 (f i).f (f i).l from⟨q4,q5⟩);clear ZQ q4 q5;obtain⟨WD,hW⟩:∃W:E,wr.alloc (N #[U (f i).e,J I (f i).m,J I (f i).M,U (f i).H,Y a0 (f i).h n9,Y a1 (f i).f aq] 58)=W:=⟨_,rfl⟩
      obtain⟨ZP,kD,ZL⟩:=nb1 hW;have HW:=ae hW;clear hW;have e1:ZU WD (Q (z (A wr)) 1 Z)=T (J I (f i).m):=by rw[Lib.cell_of_heap kD.i];rfl
      have e5:ZU WD (Q (z (A wr)) 5 Z)=T (Y a1 (f i).f aq):=by rw[Lib.cell_of_heap kD.i];rfl
      replace ZL:z (A wr)<z (A WD):=by omega
      clear kD;go_wp2_with fail;clear o0 o1 o2 o3 o4 o5;rw[HW.i];clear HW;have R3:=ae (R2.i.k (ZP.i.P R2.i.size));have B3:=ae (HB.i.k (ZP.i.P HB.i.size));refine(Cx (f i) a0 n9 a1 aq o n0 u f0 m n1 q f1 _ hn0 hn1 (qr.i.aa R3.i ly) (ld.i.aa R3.i ly) JK.i Fk.i (QI.i.1.aa ZP.i ly) (HM.i i x).1 JJ.i).P ?_;rintro e w4⟨rfl,g⟩;have X4:=ae ((X3.i.aa ZP.i X3.i.lt).aa g (by have:=X3.i.lt;have:=ZP.i.size;omega));have R4:=ae (R3.i.k (g.P R3.i.size));have B4:=ae (B3.i.k (g.P B3.i.size));have D4:=ae (ZP.i.k (g.P ZP.i.size));have g1:=(g.O (p:=(Q (z (A wr)) 1 Z)) ZL).k e1;have g5:=(g.O (p:=(Q (z (A wr)) 5 Z)) ZL).k e5;have la:z (A wr)<z (A w4):=lj ZL g.size;have sm:=ae (show dx n0 f0 n1 f1 f i=if gD n0 f0 n1 f1 (f i)=ZH then 2 else if hasB n0 f0 n1 f1 (f i)=ZH then 3 else codeF f i from rfl);clear g ZP R3 B3 e1 e5 ZL O L ZR K X3;obtain⟨O,L,ZR,K⟩:=X4.i;cases hq:gD n0 f0 n1 f1 (f i) with
      |true =>
        have y:Hid ((2:Int)=D/\(i:Int)=B):=by
          have ZN:dx n0 f0 n1 f1 f i=2:=by rw[sm.i,eT hq]
          have h:=ju x HD.i (by rw[ZN];decide);rw[HG.i,ZN] at h;simp only[LK] at h;exact⟨h.1.c,h.2.c⟩
        go_wp2;go_ret2;exact⟨by rw[y.i.1,y.i.2];rfl,R4.i⟩
      |false =>
        have HQ:=ae hq;have QJ:=ae (And.intro (QI.i.1.aa D4.i ly) (QI.i.2.aa D4.i ly));have JV:=ae (JM.i.aa D4.i ly);have hll:=(HM.i i x).2;clear hq QI JM D4 HB R2 L ZR K O;generalize (z (A wr))=gd at g1 g5 la ⊢;obtain⟨O,L,ZR,K⟩:=X4.i;go_wp2;go_loopw [8] (λv w5=>∃k:Nat,k<=(f i).f/\v=J I k/\Hid (aM (λk=>dY n0 f0 n1 f1 ((f i).l k)) k=ZA)/\Hid (Below (z (A w4)) w4 w5)) (λk _=>(f i).f - (intOf k).toNat);case atStart=>exact⟨0,by omega,rfl,rfl,a8 _ _⟩
        case round =>
          obtain⟨k,hk,rfl,HN,l⟩:=hrel;have X5:=ae (X4.i.aa l.i X4.i.lt);have R5:=ae (R4.i.k (l.i.P R4.i.size));have JI:=(l.i.O (p:=(Q gd 1 Z)) la).k g1;have JO:=(l.i.O (p:=(Q gd 5 Z)) la).k g5;have hgz':gd<z (A wr):=lj la l.i.size;clear O L ZR K;obtain⟨O,L,ZR,K⟩:=X5.i;by_cases hlk:k<(f i).f
          · have hlk2:(k:Int)<(f i).f:=by omega
            obtain⟨lb,lo,JQ,Hx⟩:=(QJ.i.2.aa l.i ly).resolve_left (by omega);subst JQ;obtain⟨p0,p1,p2,p3⟩:=Hx.2 k hlk;clear Hx;have HX:=ae (show aM (λk=>dY n0 f0 n1 f1 ((f i).l k)) (k+1)=dY n0 f0 n1 f1 ((f i).l k) by rw[aM,HN.i];rfl);have HY:=ae (λh:dY n0 f0 n1 f1 ((f i).l k)=ZH=>show hasB n0 f0 n1 f1 (f i)=ZH from cS (p:=λk=>dY n0 f0 n1 f1 ((f i).l k)) hlk h);generalize (f i).l k=X at p0 p1 p2 p3 HX HY;obtain⟨S,hS⟩:=oq (nm0 f0) n0 X.e;obtain⟨ZO,R⟩:=oq (nm1 f1) n1 X.e;have ex:=ae (show dY n0 f0 n1 f1 X=(!X.ask && !(X.has == (decide (0<=S) || decide (0<=ZO)))) by unfold dY hZ;rw[hS.has,R.has]);have PS:=ae hS;have PT:=ae R;have JR:=ae (show(S=-1\/∃s:Nat,S=s)/\(ZO=-1\/∃t:Nat,ZO=t) from⟨hS.elim (λh=>.inl h.1) (λ⟨k,h,_⟩=>.inr ⟨k,h⟩),R.elim (λh=>.inl h.1) (λ⟨k,h,_⟩=>.inr ⟨k,h⟩)⟩);clear hS R;cases hask:X.ask with
            |true =>
              have DE:dY n0 f0 n1 f1 X=ZA:=by rw[ex.i,hask];rfl
              have JW:=ae (HX.i.k DE);have BL:=ae (l.i.alloc l.i.size (N #[U X.e,ZF ZH,ZF X.has,J I X.G] 74));rw[hask] at p1;clear DE HX HY ex PS PT;go_wp2_with fail;go_quiet (fail);have BQ:=ae (AD BL.i nq);go_wp2;exact⟨⟨k+1,by omega,by go_num,JW.i,BQ.i⟩,by simp[intOf];omega⟩
            |false =>
              obtain⟨c,ro⟩:∃c,c=X.has:=⟨_,rfl⟩
              obtain⟨nm,At⟩:∃nm,nm=X.e:=⟨_,rfl⟩
              have M:Hid (dY n0 f0 n1 f1 X=!(c == (decide (0<=S) || decide (0<=ZO)))):=by show _=_;rw[ex.i,hask,ro];rfl
              rw[hask] at p1;rw[<-ro] at p2;rw[<-At] at p0 PS PT;have D6:=ae ((BS wr).alloc ly (N #[U nm,ZF ZA,ZF c,J I X.G] 74));have m0:(wr.alloc (N #[U nm,ZF ZA,ZF c,J I X.G] 74)).cell? (Q (z (A wr)) 0 Z)=T (U nm):=by simp
              have m1:(wr.alloc (N #[U nm,ZF ZA,ZF c,J I X.G] 74)).cell? (Q (z (A wr)) 1 Z)=T (ZF ZA):=by simp
              have m2:(wr.alloc (N #[U nm,ZF ZA,ZF c,J I X.G] 74)).cell? (Q (z (A wr)) 2 Z)=T (ZF c):=by simp
              have H:z (A wr)<(wr.alloc (N #[U nm,ZF ZA,ZF c,J I X.G] 74)).heap.size:=by simp
              clear ro At hask ex;go_wp2_with fail;have X6:=ae (X5.i.aa D6.i X5.i.lt);clear p0 p1 p2 p3 JI JO O L ZR K;generalize World.alloc wr _=ZV at D6 m0 m1 m2 H X6 ⊢;have B6:=ae (l.i.k (D6.i.P l.i.size));have R6:=ae (R5.i.k (D6.i.P R5.i.size));have CS:=ae (λV (g:Below (z (A ZV)) ZV V)=>xK o n0 u m n1 q f0 nm S V hn0 ((qr.i.aa R6.i ly).aa g ly) JK.i PS.i);have CT:=ae (λV (g:Below (z (A ZV)) ZV V)=>xL o n0 u m n1 q f1 nm ZO V hn1 ((ld.i.aa R6.i ly).aa g ly) Fk.i PT.i);generalize (z (A wr))=ZT at m0 m1 m2 H ⊢;clear D6 PS PT X5 R5
              have y:=ae (λh:dY n0 f0 n1 f1 X=ZH=>(show(3:Int)=D/\(i:Int)=B by
                have ZN:dx n0 f0 n1 f1 f i=3:=by rw[sm.i,eI (by rw[HQ.i];simp),eT (HY.i h)]
                have h:=ju x HD.i (by rw[ZN];decide);rw[HG.i,ZN] at h;simp only[LK] at h
                exact⟨h.1.c,h.2.c⟩))
              have SK:=ae (λV (g:Below (z (A ZV)) ZV V)=>(show ZU V (Q ZT 0 Z)=T (U nm)/\ZU V (Q ZT 1 Z)=T (ZF ZA)/\ZU V (Q ZT 2 Z)=T (ZF c)/\ZU V (Q (z (A w)+1) 0 Z)=T (Y o n0 u)/\ZU V (Q (z (A w)+1) 1 Z)=T (Y m n1 q) from⟨(g.O (p:=(Q ZT 0 Z)) H).k m0,(g.O (p:=(Q ZT 1 Z)) H).k m1,(g.O (p:=(Q ZT 2 Z)) H).k m2,(X6.i.aa g X6.i.lt).c1,(X6.i.aa g X6.i.lt).c2⟩));clear m0 m1 m2;have hst:(S=-1\/∃s:Nat,S=s)/\(ZO=-1\/∃t:Nat,ZO=t):=JR.i;rcases hst with⟨rfl|⟨s,rfl⟩,Bk⟩
              · rcases Bk with rfl|⟨t,rfl⟩
                all_goals
                  go_region_held3 (λV=>ZU V (Q ZT 0 Z)=T (U nm)/\ZU V (Q ZT 1 Z)=T (ZF ZA)/\ZU V (Q ZT 2 Z)=T (ZF c)/\ZU V (Q (z (A w)+1) 0 Z)=T (Y o n0 u)/\ZU V (Q (z (A w)+1) 1 Z)=T (Y m n1 q)) (first|exact SK.i _ br|exact SK.i _ br.drew|exact SK.i _ ZW.i|exact SK.i _ BT.i)
                    (first
                    |(go_at_call 33;refine(CS.i _ ?_).P ?_;(first|exact a8 _ _|exact br.drew);rintro e wS⟨rfl,g⟩;have ZW:Hid (Below (z (A ZV)) ZV wS):=⟨g.os,g.tape,g.output,g.size,g.p⟩;clear g)
                    |(go_at_call 34;refine(CT.i _ ?_).P ?_;(first|exact ZW.i|exact ZW.i.drew);rintro e wT⟨rfl,g⟩;have BT:Hid (Below (z (A ZV)) ZV wT):=ZW.i.k (Below.mono (⟨g.os,g.tape,g.output,g.size,g.p⟩:Below (z (A wS)) wS wT) ZW.i.size);clear g))
                  all_goals
                    go_simp;cases c
                    all_goals
                      go_wp2;first
                        |exact⟨⟨k+1,by omega,by go_num,HX.i.k (by rw[M.i];simp),B6.i.k (BT.i.P B6.i.size)⟩,by simp[intOf];omega⟩
                        | (go_ret2
                           have P:=y.i (by rw[M.i];simp)
                           exact⟨by rw[P.1,P.2];rfl,R6.i.k (BT.i.P R6.i.size)⟩)
              · clear CT Bk;obtain⟨z0,z1,z2,z3,z4⟩:=SK.i _ br;first
                  | go_region_with (first
                    |(go_at_call 33;refine(CS.i _ ?_).P ?_;(first|exact a8 _ _|exact br.drew);rintro e wS⟨rfl,g⟩;have ZW:Hid (Below (z (A ZV)) ZV wS):=⟨g.os,g.tape,g.output,g.size,g.p⟩;obtain⟨u0,u1,u2,u3,u4⟩:=SK.i _ ZW.i;have hsz1:ZT<z (A wS):=lj H ZW.i.size;clear g))
                  |fail
                all_goals
                  go_simp;cases c
                  all_goals
                    go_wp2;first
                      |exact⟨⟨k+1,by omega,by go_num,HX.i.k (by rw[M.i];simp),B6.i.k (ZW.i.P B6.i.size)⟩,by simp[intOf];omega⟩
                      | (go_ret2
                         have P:=y.i (by rw[M.i];simp)
                         exact⟨by rw[P.1,P.2];rfl,R6.i.k (ZW.i.P R6.i.size)⟩)
          · obtain rfl:k=(f i).f:=by omega
            have JT:=ae (show hasB n0 f0 n1 f1 (f i)=ZA from HN.i);have th:Hid (dx n0 f0 n1 f1 f i=codeF f i):=by show _=_;rw[sm.i,eI (by rw[HQ.i];simp),eI (by rw[JT.i];simp)]
            have B5:=ae (B4.i.k (l.i.P B4.i.size));by_cases ZS:(f i).m=3
            · have JU:=ae ZS;have G:Hid (dx n0 f0 n1 f1 f i=gB f i):=by show _=_;rw[th.i];unfold codeF;rw[eT ZS]
              rw[ZS] at JI;clear ZS th;go_wp2_with fail;refine(BU b off n j_ f i _ (by omega) JN.i x JU.i (JV.i.aa l.i ly) (HZ.i i x)).P ?_;rintro e w6⟨rfl,g⟩;have B7:=ae (B5.i.k (g.P B5.i.size));have R7:=ae (R5.i.k (g.P R5.i.size));clear g;obtain⟨C,hC⟩:∃C,C=gB f i:=⟨_,rfl⟩
              rw[<-hC];rw[<-hC] at G;clear hC;by_cases ZM:C=0
              · subst ZM;go_wp2
                exact⟨⟨i+1,by omega,by go_num,λj hj=>by
                  by_cases e:j=i;{subst e;exact G.i}
                  · exact HD.i j (by omega),B7.i⟩,by simp[intOf];omega⟩
              · have JP:(C == 0)=ZA:=by simpa using ZM
                have y:Hid (C=D/\(i:Int)=B):=by have h:=ju x HD.i (by rw[G.i];exact ZM);rw[HG.i,G.i] at h;simp only[LK] at h;exact⟨h.1.c,h.2.c⟩
                go_wp2;go_ret2;exact⟨by rw[y.i.1,y.i.2];rfl,R7.i⟩
            · have G:Hid (dx n0 f0 n1 f1 f i=0):=by show _=_;rw[th.i];unfold codeF;rw[eI ZS]
              have hk2:((f i).m == 3)=ZA:=by simpa using ZS
              go_wp2
              exact⟨⟨i+1,by omega,by go_num,λj hj=>by
                  by_cases e:j=i;{subst e;exact G.i}
                  · exact HD.i j (by omega),B5.i⟩,by simp[intOf];omega⟩
