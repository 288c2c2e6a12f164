import Derived.Test.YtcnilonhfpimnaaGreatDoorEC
import Derived.Test.YtcnilonhfpimnaaGreatDoorFY
import Derived.Test.YtcnilonhfpimnaaGreatDoorFI
import Derived.Deep.RegionHeld3
set_option linter.all false
set_option maxRecDepth 100000
set_option maxHeartbeats 8000000
open Go renaming Addr.mk->T,Value.slice->Z,Value.string->U,Value.int->J,Value.bool->ZF,Value.agg->ZJ,Obj.cells->N,IntKind.i64->I,World->E,Ending.returned->ZI,World.heap->A,World.cell?->ZU
open Option renaming none->Y,some->Q
open Bool renaming false->ZA,true->ZH
open Array renaming size->z
namespace Go.Proofs.YtcnilonhfpimnaaGreatDoor.Vp
open Tryz RowKit
def t6 (a:O_)(n j_:Nat)(f:Nat->au)(j:O_)(n0 q:Nat)(f0:Nat->Source)(l:O_)(n1 o:Nat)(f1:Nat->Target)(w:E)(hn:(n:Int)<=1048576)(hn0:(n0:Int)<=1048576)(hn1:(n1:Int)<=1048576)(hv:SlDeed w a n f)(ZM:(n:Int)<=j_)(D:∀i,i<n->cX (f i))(V:Qy w j n0 f0)(O:Qx w l n1 f1)(ZO:∀i,i<n1->aP (f1 i))(B:Tab w)(K:Tab2 w)(ZT:Pow w):Calls Tryz.prog 23 #[ZJ #[Z a n j_],ZJ #[Z j n0 q,Z l n1 o]] w λe w'=>e=ZI (.tuple #[J I (fj n0 f0 n1 f1 f n).1,J I (fj n0 f0 n1 f1 f n).2])/\Below (z (A w)) w w':=by
 have HV:=ae hv;have HM:=ae D;have ZP:=ae V;have R:=ae O;have ZN:=ae ZO;have M:=ae B;have ex:=ae K;have aq:=ae ZT;have bt:=K.1;clear hv D V O ZO B K ZT;obtain⟨W,ZR⟩:∃W:E,(w.alloc (N #[Z a n j_] 25)).alloc (N #[Z j n0 q,Z l n1 o] 29)=W:=⟨_,rfl⟩
 obtain⟨G,-,-,-⟩:=nb2 ZR;have m:=ae ZR;clear ZR;have k0:ZU W (T (z (A w)) 0 Y)=Q (Z a n j_):=by rw[<-m.i];simp[go_sem]
 have k1:ZU W (T (z (A w)+1) 0 Y)=Q (Z j n0 q):=by rw[<-m.i];simp[go_sem]
 have k2:ZU W (T (z (A w)+1) 1 Y)=Q (Z l n1 o):=by rw[<-m.i];simp[go_sem]
 have hz:z (A w)+1<z (A W):=by rw[<-m.i];simp
 obtain⟨s,t,B⟩:∃s t,fj n0 f0 n1 f1 f n=(s,t):=⟨_,_,rfl⟩
 rw[B];have L:=ae (show(if bc f n=ZH then (if aR n0 f0 n1 f1=0 then fi (dx n0 f0 n1 f1 f) n else (1,0)) else (1,0))=(s,t) from B);clear B;go_enter func23,ntmps23;go_wp2_with fail;rw[m.i];clear m;refine(jL a n j_ f _ hn (HV.i.aa G.i ly) ZM HM.i (M.i.aa G.i M.i.1)).P ?_;rintro e w1⟨rfl,g⟩;have ZW:=ae (G.i.k (g.P G.i.size));have l0:=(g.O (p:=(T (z (A w)) 0 Y)) (by show (z (A w))<_;omega)).k k0;have l1:=(g.O (p:=(T (z (A w)+1) 0 Y)) hz).k k1;have l2:=(g.O (p:=(T (z (A w)+1) 1 Y)) hz).k k2;have ZV:z (A w)+1<z (A w1):=lj hz g.size;clear g G k0 k1 k2 hz;have HO:=ae (λh:bc f n=ZH=>(⟨er h,h⟩:(1<=n/\n<=400/\aQ (bw f) n=-1)/\bc f n=ZH));obtain⟨r,hr⟩:∃r,r=bc f n:=⟨_,rfl⟩
 rw[<-hr] at L ⊢;have P:=ae hr;clear hr;cases r with
 |false =>
  obtain⟨rfl,rfl⟩:(1:Int)=s/\(0:Int)=t:=by have:=L.i;simpa using this
  go_wp2;go_ret2;exact⟨rfl,ZW.i⟩
 |true =>
  have ZQ:=ae (show(if aR n0 f0 n1 f1=0 then fi (dx n0 f0 n1 f1 f) n else (1,0))=(s,t) by have:=L.i;simpa using this);obtain⟨⟨hn1',hn4,-⟩,ZS⟩:=HO.i P.i.c;have ZL:=ae ZS;clear L HO ZS P;obtain⟨b,off,rfl,H⟩:=HV.i.resolve_left (by omega);have HR:=ae H;clear HV H;go_wp2_with fail;refine(mU j n0 q f0 l n1 o f1 _ hn0 hn1 (ZP.i.aa ZW.i ly) (R.i.aa ZW.i ly) ZN.i (M.i.aa ZW.i M.i.1)).P ?_;rintro e w2⟨rfl,g⟩;have B2:=ae (ZW.i.k (g.P ZW.i.size));have m0:=(g.O (p:=(T (z (A w)) 0 Y)) (by show (z (A w))<_;omega)).k l0;have m1:=(g.O (p:=(T (z (A w)+1) 0 Y)) ZV).k l1;have m2:=(g.O (p:=(T (z (A w)+1) 1 Y)) ZV).k l2;have hz2:z (A w)+1<z (A w2):=lj ZV g.size;clear g l0 l1 l2 ZV;have S:=ae (λh:aR n0 f0 n1 f1=0=>nh h);obtain⟨c,hc⟩:∃c,c=aR n0 f0 n1 f1:=⟨_,rfl⟩
  rw[<-hc] at ZQ ⊢;have X:=ae hc;clear hc;by_cases C:c=0;{subst C;have HG:=ae (show fi (dx n0 f0 n1 f1 f) n=(s,t) by have:=ZQ.i;simpa using this);obtain⟨y,x,hfew⟩:=S.i X.i.c;have la:=ae y;have fd:=ae x;clear ZQ S X y x;have u:=ae (B2.i.alloc B2.i.size (N #[J I 2,.func (.func 61) #[] #[],J I 3,.func (.func 62) #[] #[],J I 4,.func (.func 63) #[] #[],J I 5,.func (.func 64) #[] #[]] 110));go_wp2_with fail;refine(tX b off n j_ (z (A w2)) j n0 q f0 l n1 o f1 f _ (by omega) hn0 hn1 ZL.i (HR.i.aa u.i ly) (ZP.i.aa u.i ly) (R.i.aa u.i ly) la.i fd.i (λi hi=>(HM.i i hi).1) (λi hi=>(HM.i i hi).2) ZN.i (ex.i.aa u.i bt) (aq.i.aa u.i ly) (by simp) (by simp) (by simp) (by simp) (by simp) (by simp) (by simp) (by simp) (by simp)).P ?_;rintro e w3⟨rfl,g⟩;have B3:=ae (u.i.k (g.P u.i.size));clear g;rw[HG.i];go_wp2;go_ret2;exact⟨rfl,B3.i⟩}
  ·obtain⟨rfl,rfl⟩:(1:Int)=s/\(0:Int)=t:=by have:=ZQ.i;simpa[C] using this
   have hc2:(c == 0)=ZA:=by simpa using C
   go_wp2;go_ret2;exact⟨rfl,B2.i⟩
def o9 {g:B_}{n:Nat}{t:F_}{r s:Int}(f:aK g n=ZH)(h1:PlaceOf g n t r)(h2:PlaceOf g n t s):r=s:=by
 rcases h1 with⟨rfl,h1⟩|⟨i,rfl,hi,h1⟩
 ·rcases h2 with⟨rfl,h2⟩|⟨j,rfl,b,h2⟩
  {rfl};{rw[eO b h2] at h1;cases h1}
 ·rcases h2 with⟨rfl,h2⟩|⟨j,rfl,b,h2⟩
  {rw[eO hi h1] at h2;cases h2};{rw[asc_one f hi b h1 h2]}
def oq (g:B_)(n:Nat)(t:F_):∃r,PlaceOf g n t r:=by
 cases h:aF g n t with
 |false=>exact⟨-1,.inl ⟨rfl,h⟩⟩
 |true =>obtain⟨k,b,h1⟩:=pa h;exact⟨k,.inr ⟨k,rfl,b,h1⟩⟩
def xK (a0:O_)(n0 c0:Nat)(a1:O_)(n1 c1:Nat)(f0:Nat->Source)(t:F_)(S:Int)(w:E)(hn0:(n0:Int)<=1048576)(b:Qy w a0 n0 f0)(h:aK (nm0 f0) n0=ZH)(i:PlaceOf (nm0 f0) n0 t S):Calls Tryz.prog 27 #[ZJ #[Z a0 n0 c0,Z a1 n1 c1],U t] w λe j=>e=ZI (J I S)/\Below (z (A w)) w j:=
 (kW a0 n0 c0 a1 n1 c1 f0 t w hn0 b).P λ_ _ ⟨_,f,g,hb⟩=>⟨by rw[f,o9 h g i],hb⟩
def xL (a0:O_)(n0 c0:Nat)(a1:O_)(n1 c1:Nat)(f1:Nat->Target)(t:F_)(S:Int)(w:E)(hn1:(n1:Int)<=1048576)(b:Qx w a1 n1 f1)(h:aK (nm1 f1) n1=ZH)(i:PlaceOf (nm1 f1) n1 t S):Calls Tryz.prog 28 #[ZJ #[Z a0 n0 c0,Z a1 n1 c1],U t] w λe j=>e=ZI (J I S)/\Below (z (A w)) w j:=
 (kV a0 n0 c0 a1 n1 c1 f1 t w hn1 b).P λ_ _ ⟨_,f,g,hb⟩=>⟨by rw[f,o9 h g i],hb⟩
def t8 (a:O_)(n j_:Nat)(f:Nat->au)(m:O_)(n0 u:Nat)(f0:Nat->Source)(o:O_)(n1 q:Nat)(f1:Nat->Target)(w:E)(hn:(n:Int)<=1048576)(hn0:(n0:Int)<=1048576)(hn1:(n1:Int)<=1048576)(hv:SlDeed w a n f)(mv:∀i,i<n->cX (f i))(Bk:∀i,i<n->fo (f i))(JL:Qy w m n0 f0)(At:Qx w o n1 f1)(Id:∀i,i<n1->aP (f1 i))(Fk:∀i,i<n1->∀j,j<(f1 i).h->((f1 i).q j).s.size<=maxLen):Calls Tryz.prog 6 #[ZJ #[Z a n j_],ZJ #[Z m n0 u,Z o n1 q]] w λe w'=>e=ZI (.tuple #[J I (fj n0 f0 n1 f1 f n).1,J I (fj n0 f0 n1 f1 f n).2])/\Below (z (A w)) w w':=by
  have HV:=ae hv;have HM:=ae mv;have HZ:=ae Bk;have n9:=ae JL;have th:=ae At;have JJ:=ae Id;have JV:=ae Fk;clear hv mv Bk JL At Id Fk;have A0:=ae (((BS w).alloc ly (N #[Z a n j_] 25)).alloc (by simp) (N #[Z m n0 u,Z o n1 q] 29));have X0:=ae (AH w (Z a n j_) (Z m n0 u) (Z o n1 q) 25 29);obtain⟨ZW,ZT,ZM⟩:∃ZW ZT,fj n0 f0 n1 f1 f n=(ZW,ZT):=⟨_,_,rfl⟩
  rw[ZM];have HE:=ae (show(if bc f n=ZH then (if aR n0 f0 n1 f1=0 then fi (dx n0 f0 n1 f1 f) n else (1,0)) else (1,0))=(ZW,ZT) from ZM);clear ZM;go_enter func6,ntmps6;go_wp2_with fail;generalize World.alloc (World.alloc w _) _=W at A0 X0 ⊢;refine(uC a n j_ f _ hn (HV.i.aa A0.i ly) HM.i HZ.i).P ?_;rintro e w1⟨rfl,g⟩;have B1:=ae (A0.i.k (g.P A0.i.size));have X1:=ae (X0.i.aa g X0.i.lt);clear g A0 X0;have HO:=ae (λh:bc f n=ZH=>(⟨er h,h⟩:(1<=n/\n<=400/\aQ (bw f) n=-1)/\bc f n=ZH));obtain⟨r,hr⟩:∃r,r=bc f n:=⟨_,rfl⟩
  rw[<-hr] at HE ⊢;have GS:=ae hr;clear hr;obtain⟨ZQ,ZR,L,M⟩:=X1.i;cases r with
  |false =>
    obtain⟨rfl,rfl⟩:(1:Int)=ZW/\(0:Int)=ZT:=by have:=HE.i;simpa using this
    go_wp2;go_ret2;exact⟨rfl,B1.i⟩
  |true =>
    have HF:=ae (show(if aR n0 f0 n1 f1=0 then fi (dx n0 f0 n1 f1 f) n else (1,0))=(ZW,ZT) by have:=HE.i;simpa using this);obtain⟨⟨hn1',hn4,-⟩,ur⟩:=HO.i GS.i.c;have JN:=ae ur;clear HE HO ur GS;obtain⟨b,off,rfl,ph⟩:=HV.i.resolve_left (by omega);have HR:=ae ph;clear HV ph;go_wp2_with fail;refine(eK m n0 u f0 o n1 q f1 _ hn0 hn1 (n9.i.aa B1.i ly) (th.i.aa B1.i ly) JJ.i JV.i).P ?_;rintro e w2⟨rfl,g⟩;have B2:=ae (B1.i.k (g.P B1.i.size));have X2:=ae (X1.i.aa g X1.i.lt);clear g X1 ZQ ZR L M;have DQ:=ae (λh:aR n0 f0 n1 f1=0=>nh h);obtain⟨c,ZL⟩:∃c,c=aR n0 f0 n1 f1:=⟨_,rfl⟩
    rw[<-ZL] at HF ⊢;have Fm:=ae ZL;clear ZL;by_cases qr:c=0;case neg =>
      obtain⟨rfl,rfl⟩:(1:Int)=ZW/\(0:Int)=ZT:=by have:=HF.i;simpa[qr] using this
      have JQ:(c == 0)=ZA:=by simpa using qr
      go_wp2;go_ret2;exact⟨rfl,B2.i⟩
    subst qr;have HG:=ae (show fi (dx n0 f0 n1 f1 f) n=(ZW,ZT) by have:=HF.i;simpa using this);obtain⟨ex,fd,hfew⟩:=DQ.i Fm.i.c;have DE:=ae ex;have JG:=ae fd;clear HF DQ Fm ex fd;go_wp2;go_loopw [6] (λv wr=>∃i:Nat,i<=n/\v=J I i/\Hid (∀j,j<i->dx n0 f0 n1 f1 f j=0)/\Hid (Below (z (A w2)) w2 wr)) (λi _=>n - (intOf i).toNat);case atStart=>exact⟨0,by omega,rfl,λj hj=>absurd hj (NF _),a8 _ _⟩
    case round =>
      obtain⟨i,hin,rfl,HD,HB⟩:=hrel;have X3:=ae (X2.i.aa HB.i X2.i.lt);have R2:=ae (B2.i.k (HB.i.P B2.i.size));obtain⟨ZQ,ZR,L,M⟩:=X3.i;by_cases x:i<n;case neg =>
        obtain rfl:i=n:=by omega
        have h:=nW HD.i;rw[HG.i] at h;simp only[LK] at h;obtain⟨rfl,rfl⟩:=h;go_wp2;go_ret2;exact⟨rfl,R2.i⟩
      have hlt2:(i:Int)<n:=by omega
      have O:=HR.i.aa R2.i ly;have JI:=ae O;obtain⟨o0,o1,o2,o3,⟨a0,n8,o4,q4⟩,⟨a1,aq,o5,q5⟩⟩:=O.2 i x;have QI:=ae (show SlIns wr a0 (f i).h (f i).q/\SlLink wr a1 (f i).f (f i).m from⟨q4,q5⟩);clear O q4 q5;obtain⟨WD,hW⟩:∃W:E,wr.alloc (N #[U (f i).e,J I (f i).L,J I (f i).M,U (f i).H,Z a0 (f i).h n8,Z a1 (f i).f aq] 62)=W:=⟨_,rfl⟩
      obtain⟨ZO,kD,ZN⟩:=nb1 hW;have HW:=ae hW;clear hW;have e1:ZU WD (T (z (A wr)) 1 Y)=Q (J I (f i).L):=by rw[Lib.cell_of_heap kD.i];rfl
      have e5:ZU WD (T (z (A wr)) 5 Y)=Q (Z a1 (f i).f aq):=by rw[Lib.cell_of_heap kD.i];rfl
      replace ZN:z (A wr)<z (A WD):=by omega
      clear kD;go_wp2_with fail;clear o0 o1 o2 o3 o4 o5;rw[HW.i];clear HW;have R3:=ae (R2.i.k (ZO.i.P R2.i.size));have B3:=ae (HB.i.k (ZO.i.P HB.i.size));refine(Cx (f i) a0 n8 a1 aq m n0 u f0 o n1 q f1 _ hn0 hn1 (n9.i.aa R3.i ly) (th.i.aa R3.i ly) DE.i JG.i (QI.i.1.aa ZO.i ly) (HM.i i x).1 JJ.i).P ?_;rintro e w4⟨rfl,g⟩;have X4:=ae ((X3.i.aa ZO.i X3.i.lt).aa g (by have:=X3.i.lt;have:=ZO.i.size;omega));have R4:=ae (R3.i.k (g.P R3.i.size));have B4:=ae (B3.i.k (g.P B3.i.size));have D4:=ae (ZO.i.k (g.P ZO.i.size));have g1:=(g.O (p:=(T (z (A wr)) 1 Y)) ZN).k e1;have g5:=(g.O (p:=(T (z (A wr)) 5 Y)) ZN).k e5;have bt:z (A wr)<z (A w4):=lj ZN g.size;have sm:=ae (show dx n0 f0 n1 f1 f i=if gD n0 f0 n1 f1 (f i)=ZH then 2 else if hasB n0 f0 n1 f1 (f i)=ZH then 3 else codeF f i from rfl);clear g ZO R3 B3 e1 e5 ZN ZQ ZR L M X3;obtain⟨ZQ,ZR,L,M⟩:=X4.i;cases hq:gD n0 f0 n1 f1 (f i) with
      |true =>
        have y:Hid ((2:Int)=ZW/\(i:Int)=ZT):=by
          have R:dx n0 f0 n1 f1 f i=2:=by rw[sm.i,eT hq]
          have h:=ju x HD.i (by rw[R];decide);rw[HG.i,R] at h;simp only[LK] at h;exact⟨h.1.c,h.2.c⟩
        go_wp2;go_ret2;exact⟨by rw[y.i.1,y.i.2];rfl,R4.i⟩
      |false =>
        have HQ:=ae hq;have QJ:=ae (And.intro (QI.i.1.aa D4.i ly) (QI.i.2.aa D4.i ly));have JR:=ae (JI.i.aa D4.i ly);have hll:=(HM.i i x).2;clear hq QI JI D4 HB R2 ZR L M ZQ;generalize (z (A wr))=gd at g1 g5 bt ⊢;obtain⟨ZQ,ZR,L,M⟩:=X4.i;go_wp2;go_loopw [8] (λv w5=>∃k:Nat,k<=(f i).f/\v=J I k/\Hid (aM (λk=>dY n0 f0 n1 f1 ((f i).m k)) k=ZA)/\Hid (Below (z (A w4)) w4 w5)) (λk _=>(f i).f - (intOf k).toNat);case atStart=>exact⟨0,by omega,rfl,rfl,a8 _ _⟩
        case round =>
          obtain⟨k,hk,rfl,HN,l⟩:=hrel;have X5:=ae (X4.i.aa l.i X4.i.lt);have R5:=ae (R4.i.k (l.i.P R4.i.size));have JM:=(l.i.O (p:=(T gd 1 Y)) bt).k g1;have JU:=(l.i.O (p:=(T gd 5 Y)) bt).k g5;have hgz':gd<z (A wr):=lj bt l.i.size;clear ZQ ZR L M;obtain⟨ZQ,ZR,L,M⟩:=X5.i;by_cases hlk:k<(f i).f
          · have hlk2:(k:Int)<(f i).f:=by omega
            obtain⟨lb,lo,JS,JK⟩:=(QJ.i.2.aa l.i ly).resolve_left (by omega);subst JS;obtain⟨p0,p1,p2,p3⟩:=JK.2 k hlk;clear JK;have HX:=ae (show aM (λk=>dY n0 f0 n1 f1 ((f i).m k)) (k+1)=dY n0 f0 n1 f1 ((f i).m k) by rw[aM,HN.i];rfl);have HY:=ae (λh:dY n0 f0 n1 f1 ((f i).m k)=ZH=>show hasB n0 f0 n1 f1 (f i)=ZH from cS (p:=λk=>dY n0 f0 n1 f1 ((f i).m k)) hlk h);generalize (f i).m k=X at p0 p1 p2 p3 HX HY;obtain⟨S,hS⟩:=oq (nm0 f0) n0 X.e;obtain⟨ZP,ZM⟩:=oq (nm1 f1) n1 X.e;have la:=ae (show dY n0 f0 n1 f1 X=(!X.ask && !(X.has == (decide (0<=S) || decide (0<=ZP)))) by unfold dY hZ;rw[hS.has,ZM.has]);have PS:=ae hS;have PT:=ae ZM;have JP:=ae (show(S=-1\/∃s:Nat,S=s)/\(ZP=-1\/∃t:Nat,ZP=t) from⟨hS.elim (λh=>.inl h.1) (λ⟨k,h,_⟩=>.inr ⟨k,h⟩),ZM.elim (λh=>.inl h.1) (λ⟨k,h,_⟩=>.inr ⟨k,h⟩)⟩);clear hS ZM;cases hask:X.ask with
            |true =>
              have JH:dY n0 f0 n1 f1 X=ZA:=by rw[la.i,hask];rfl
              have JO:=ae (HX.i.k JH);have BL:=ae (l.i.alloc l.i.size (N #[U X.e,ZF ZH,ZF X.has,J I X.G] 65));rw[hask] at p1;clear JH HX HY la PS PT;go_wp2_with fail;go_quiet (fail);have BQ:=ae (AD BL.i nq);go_wp2;exact⟨⟨k+1,by omega,by go_num,JO.i,BQ.i⟩,by simp[intOf];omega⟩
            |false =>
              obtain⟨c,ld⟩:∃c,c=X.has:=⟨_,rfl⟩
              obtain⟨nm,Fd⟩:∃nm,nm=X.e:=⟨_,rfl⟩
              have K:Hid (dY n0 f0 n1 f1 X=!(c == (decide (0<=S) || decide (0<=ZP)))):=by show _=_;rw[la.i,hask,ld];rfl
              rw[hask] at p1;rw[<-ld] at p2;rw[<-Fd] at p0 PS PT;have D6:=ae ((BS wr).alloc ly (N #[U nm,ZF ZA,ZF c,J I X.G] 65));have m0:(wr.alloc (N #[U nm,ZF ZA,ZF c,J I X.G] 65)).cell? (T (z (A wr)) 0 Y)=Q (U nm):=by simp
              have m1:(wr.alloc (N #[U nm,ZF ZA,ZF c,J I X.G] 65)).cell? (T (z (A wr)) 1 Y)=Q (ZF ZA):=by simp
              have m2:(wr.alloc (N #[U nm,ZF ZA,ZF c,J I X.G] 65)).cell? (T (z (A wr)) 2 Y)=Q (ZF c):=by simp
              have G:z (A wr)<(wr.alloc (N #[U nm,ZF ZA,ZF c,J I X.G] 65)).heap.size:=by simp
              clear ld Fd hask la;go_wp2_with fail;have X6:=ae (X5.i.aa D6.i X5.i.lt);clear p0 p1 p2 p3 JM JU ZQ ZR L M;generalize World.alloc wr _=ZV at D6 m0 m1 m2 G X6 ⊢;have B6:=ae (l.i.k (D6.i.P l.i.size));have R6:=ae (R5.i.k (D6.i.P R5.i.size));have CS:=ae (λV (g:Below (z (A ZV)) ZV V)=>xK m n0 u o n1 q f0 nm S V hn0 ((n9.i.aa R6.i ly).aa g ly) DE.i PS.i);have CT:=ae (λV (g:Below (z (A ZV)) ZV V)=>xL m n0 u o n1 q f1 nm ZP V hn1 ((th.i.aa R6.i ly).aa g ly) JG.i PT.i);generalize (z (A wr))=D at m0 m1 m2 G ⊢;clear D6 PS PT X5 R5
              have y:=ae (λh:dY n0 f0 n1 f1 X=ZH=>(show(3:Int)=ZW/\(i:Int)=ZT by
                have R:dx n0 f0 n1 f1 f i=3:=by rw[sm.i,eI (by rw[HQ.i];simp),eT (HY.i h)]
                have h:=ju x HD.i (by rw[R];decide);rw[HG.i,R] at h;simp only[LK] at h
                exact⟨h.1.c,h.2.c⟩))
              have SK:=ae (λV (g:Below (z (A ZV)) ZV V)=>(show ZU V (T D 0 Y)=Q (U nm)/\ZU V (T D 1 Y)=Q (ZF ZA)/\ZU V (T D 2 Y)=Q (ZF c)/\ZU V (T (z (A w)+1) 0 Y)=Q (Z m n0 u)/\ZU V (T (z (A w)+1) 1 Y)=Q (Z o n1 q) from⟨(g.O (p:=(T D 0 Y)) G).k m0,(g.O (p:=(T D 1 Y)) G).k m1,(g.O (p:=(T D 2 Y)) G).k m2,(X6.i.aa g X6.i.lt).c1,(X6.i.aa g X6.i.lt).c2⟩));clear m0 m1 m2;have hst:(S=-1\/∃s:Nat,S=s)/\(ZP=-1\/∃t:Nat,ZP=t):=JP.i;rcases hst with⟨rfl|⟨s,rfl⟩,Hx⟩
              · rcases Hx with rfl|⟨t,rfl⟩
                all_goals
                  go_region_held3 (λV=>ZU V (T D 0 Y)=Q (U nm)/\ZU V (T D 1 Y)=Q (ZF ZA)/\ZU V (T D 2 Y)=Q (ZF c)/\ZU V (T (z (A w)+1) 0 Y)=Q (Z m n0 u)/\ZU V (T (z (A w)+1) 1 Y)=Q (Z o n1 q)) (first|exact SK.i _ br|exact SK.i _ br.drew|exact SK.i _ B.i|exact SK.i _ BT.i)
                    (first
                    |(go_at_call 27;refine(CS.i _ ?_).P ?_;(first|exact a8 _ _|exact br.drew);rintro e wS⟨rfl,g⟩;have B:Hid (Below (z (A ZV)) ZV wS):=⟨g.os,g.tape,g.output,g.size,g.p⟩;clear g)
                    |(go_at_call 28;refine(CT.i _ ?_).P ?_;(first|exact B.i|exact B.i.drew);rintro e wT⟨rfl,g⟩;have BT:Hid (Below (z (A ZV)) ZV wT):=B.i.k (Below.mono (⟨g.os,g.tape,g.output,g.size,g.p⟩:Below (z (A wS)) wS wT) B.i.size);clear g))
                  all_goals
                    go_simp;cases c
                    all_goals
                      go_wp2;first
                        |exact⟨⟨k+1,by omega,by go_num,HX.i.k (by rw[K.i];simp),B6.i.k (BT.i.P B6.i.size)⟩,by simp[intOf];omega⟩
                        | (go_ret2
                           have P:=y.i (by rw[K.i];simp)
                           exact⟨by rw[P.1,P.2];rfl,R6.i.k (BT.i.P R6.i.size)⟩)
              · clear CT Hx;obtain⟨z0,z1,z2,z3,z4⟩:=SK.i _ br;first
                  | go_region_with (first
                    |(go_at_call 27;refine(CS.i _ ?_).P ?_;(first|exact a8 _ _|exact br.drew);rintro e wS⟨rfl,g⟩;have B:Hid (Below (z (A ZV)) ZV wS):=⟨g.os,g.tape,g.output,g.size,g.p⟩;obtain⟨u0,u1,u2,u3,u4⟩:=SK.i _ B.i;have hsz1:D<z (A wS):=lj G B.i.size;clear g))
                  |fail
                all_goals
                  go_simp;cases c
                  all_goals
                    go_wp2;first
                      |exact⟨⟨k+1,by omega,by go_num,HX.i.k (by rw[K.i];simp),B6.i.k (B.i.P B6.i.size)⟩,by simp[intOf];omega⟩
                      | (go_ret2
                         have P:=y.i (by rw[K.i];simp)
                         exact⟨by rw[P.1,P.2];rfl,R6.i.k (B.i.P R6.i.size)⟩)
          · obtain rfl:k=(f i).f:=by omega
            have JW:=ae (show hasB n0 f0 n1 f1 (f i)=ZA from HN.i);have ro:Hid (dx n0 f0 n1 f1 f i=codeF f i):=by show _=_;rw[sm.i,eI (by rw[HQ.i];simp),eI (by rw[JW.i];simp)]
            have B5:=ae (B4.i.k (l.i.P B4.i.size));by_cases ZS:(f i).L=3
            · have JT:=ae ZS;have H:Hid (dx n0 f0 n1 f1 f i=gB f i):=by show _=_;rw[ro.i];unfold codeF;rw[eT ZS]
              rw[ZS] at JM;clear ZS ro;go_wp2_with fail;refine(BU b off n j_ f i _ (by omega) JN.i x JT.i (JR.i.aa l.i ly) (HZ.i i x)).P ?_;rintro e w6⟨rfl,g⟩;have B7:=ae (B5.i.k (g.P B5.i.size));have R7:=ae (R5.i.k (g.P R5.i.size));clear g;obtain⟨C,hC⟩:∃C,C=gB f i:=⟨_,rfl⟩
              rw[<-hC];rw[<-hC] at H;clear hC;by_cases ZL:C=0
              · subst ZL;go_wp2
                exact⟨⟨i+1,by omega,by go_num,λj hj=>by
                  by_cases e:j=i;{subst e;exact H.i}
                  · exact HD.i j (by omega),B7.i⟩,by simp[intOf];omega⟩
              · have JQ:(C == 0)=ZA:=by simpa using ZL
                have y:Hid (C=ZW/\(i:Int)=ZT):=by have h:=ju x HD.i (by rw[H.i];exact ZL);rw[HG.i,H.i] at h;simp only[LK] at h;exact⟨h.1.c,h.2.c⟩
                go_wp2;go_ret2;exact⟨by rw[y.i.1,y.i.2];rfl,R7.i⟩
            · have H:Hid (dx n0 f0 n1 f1 f i=0):=by show _=_;rw[ro.i];unfold codeF;rw[eI ZS]
              have hk2:((f i).L == 3)=ZA:=by simpa using ZS
              go_wp2
              exact⟨⟨i+1,by omega,by go_num,λj hj=>by
                  by_cases e:j=i;{subst e;exact H.i}
                  · exact HD.i j (by omega),B5.i⟩,by simp[intOf];omega⟩
