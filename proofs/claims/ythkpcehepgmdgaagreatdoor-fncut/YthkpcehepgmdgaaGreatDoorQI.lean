import Derived.Test.YthkpcehepgmdgaaGreatDoorRD
import Derived.Test.YthkpcehepgmdgaaGreatDoorSZ
import Derived.Test.YthkpcehepgmdgaaGreatDoorSN
import Derived.Deep.RegionHeld3
set_option maxRecDepth 100000
set_option maxHeartbeats 8000000
open Go renaming Addr.mk->Q,Value.slice->Z,Value.string->U,Value.int->J,Value.bool->ZC,Value.agg->ZH,Obj.cells->N,IntKind.i64->I,World->G,Ending.returned->ZG,World.heap->h,World.cell?->ZT
open Option renaming none->Y,some->T
open Bool renaming false->ZB,true->ZF
open Array renaming size->A
namespace Go.Proofs.YthkpcehepgmdgaaGreatDoor.Vp
open Tryz RowKit
theorem sF (a:Option Addr)(n cap:Nat)(f:Nat->af)(l:Option Addr)(n0 q:Nat)(f0:Nat->Source)(m:Option Addr)(n1 o:Nat)(f1:Nat->Target)(w:G)(hn:(n:Int)<=1048576)(hn0:(n0:Int)<=1048576)(hn1:(n1:Int)<=1048576)(hv:SlDeed w a n f)(aq:(n:Int)<=cap)(D:∀i,i<n->bJ (f i))(P:SlSource w l n0 f0)(ZN:SlTarget w m n1 f1)(V:∀i,i<n1->aU (f1 i))(ZU:Tab w)(E:Tab2 w)(ZQ:Pow w):Calls Tryz.prog 34 #[ZH #[Z a n cap],ZH #[Z l n0 q,Z m n1 o]] w λe w'=>e=ZG (.tuple #[J I (fZ n0 f0 n1 f1 f n).1,J I (fZ n0 f0 n1 f1 f n).2])/\Below (A (h w)) w w':=by
 have HV:=ae hv;have HM:=ae D;have R:=ae P;have O:=ae ZN;have S:=ae V;have M:=ae ZU;have fd:=ae E;have bt:=ae ZQ;have ex:=E.1;clear hv D P ZN V ZU E ZQ;obtain⟨W,H⟩:∃W:G,(w.alloc (N #[Z a n cap] 25)).alloc (N #[Z l n0 q,Z m n1 o] 33)=W:=⟨_,rfl⟩
 obtain⟨C,-,-,-⟩:=nb2 H;have j:=ae H;clear H;have k0:ZT W (Q (A (h w)) 0 Y)=T (Z a n cap):=by rw[<-j.out];simp[go_sem]
 have k1:ZT W (Q (A (h w)+1) 0 Y)=T (Z l n0 q):=by rw[<-j.out];simp[go_sem]
 have k2:ZT W (Q (A (h w)+1) 1 Y)=T (Z m n1 o):=by rw[<-j.out];simp[go_sem]
 have hz:A (h w)+1<A (h W):=by rw[<-j.out];simp
 obtain⟨s,u,ZU⟩:∃s u,fZ n0 f0 n1 f1 f n=(s,u):=⟨_,_,rfl⟩
 rw[ZU];have L:=ae (show(if aK f n=ZF then (if bm n0 f0 n1 f1=0 then eV (dx n0 f0 n1 f1 f) n else (1,0)) else (1,0))=(s,u) from ZU);clear ZU;go_enter func34,ntmps34;go_wp2_with fail;rw[j.out];clear j;refine(fW a n cap f _ hn (HV.out.aa C.out ly) aq HM.out (M.out.aa C.out M.out.1)).mono ?_;rintro e w1 ⟨rfl,g⟩;have B:=ae (C.out.trans (g.mono C.out.size));have l0:=(g.cell (p:=(Q (A (h w)) 0 Y)) (by show (A (h w))<_;omega)).trans k0;have l1:=(g.cell (p:=(Q (A (h w)+1) 0 Y)) hz).trans k1;have l2:=(g.cell (p:=(Q (A (h w)+1) 1 Y)) hz).trans k2;have z:A (h w)+1<A (h w1):=lj hz g.size;clear g C k0 k1 k2 hz;have HO:=ae (λZV:aK f n=ZF=>(⟨dy ZV,ZV⟩:(1<=n/\n<=400/\aE (ba f) n=-1)/\aK f n=ZF));obtain⟨r,hr⟩:∃r,r=aK f n:=⟨_,rfl⟩
 rw[<-hr] at L ⊢;have X:=ae hr;clear hr;cases r with
 |false =>
  obtain⟨rfl,rfl⟩:(1:Int)=s/\(0:Int)=u:=by have:=L.out;simpa using this
  go_wp2;go_ret2;exact⟨rfl,B.out⟩
 |true =>
  have ZO:=ae (show(if bm n0 f0 n1 f1=0 then eV (dx n0 f0 n1 f1 f) n else (1,0))=(s,u) by have:=L.out;simpa using this);obtain⟨⟨hn1',hn4,-⟩,ZS⟩:=HO.out X.out.symm;have ZJ:=ae ZS;clear L HO ZS X;obtain⟨b,off,rfl,K⟩:=HV.out.resolve_left (by omega);have HR:=ae K;clear HV K;go_wp2_with fail;refine(rZ l n0 q f0 m n1 o f1 _ hn0 hn1 (R.out.aa B.out ly) (O.out.aa B.out ly) S.out (M.out.aa B.out M.out.1)).mono ?_;rintro e w2 ⟨rfl,g⟩;have B2:=ae (B.out.trans (g.mono B.out.size));have m0:=(g.cell (p:=(Q (A (h w)) 0 Y)) (by show (A (h w))<_;omega)).trans l0;have m1:=(g.cell (p:=(Q (A (h w)+1) 0 Y)) z).trans l1;have m2:=(g.cell (p:=(Q (A (h w)+1) 1 Y)) z).trans l2;have hz2:A (h w)+1<A (h w2):=lj z g.size;clear g l0 l1 l2 z;have ZL:=ae (λZV:bm n0 f0 n1 f1=0=>mh ZV);obtain⟨c,ZK⟩:∃c,c=bm n0 f0 n1 f1:=⟨_,rfl⟩
  rw[<-ZK] at ZO ⊢;have ZM:=ae ZK;clear ZK;by_cases ZP:c=0;{subst ZP;have HG:=ae (show eV (dx n0 f0 n1 f1 f) n=(s,u) by have:=ZO.out;simpa using this);obtain⟨y,x,hfew⟩:=ZL.out ZM.out.symm;have ld:=ae y;have la:=ae x;clear ZO ZL ZM y x;have t:=ae (B2.out.alloc B2.out.size (N #[J I 2,.func (.func 71) #[] #[],J I 3,.func (.func 72) #[] #[],J I 4,.func (.func 73) #[] #[],J I 5,.func (.func 74) #[] #[]] 132));go_wp2_with fail;refine(sD b off n cap (A (h w2)) l n0 q f0 m n1 o f1 f _ (by omega) hn0 hn1 ZJ.out (HR.out.aa t.out ly) (R.out.aa t.out ly) (O.out.aa t.out ly) ld.out la.out (λi hi=>(HM.out i hi).1) (λi hi=>(HM.out i hi).2) S.out (fd.out.aa t.out ex) (bt.out.aa t.out ly) (by simp) (by simp) (by simp) (by simp) (by simp) (by simp) (by simp) (by simp) (by simp)).mono ?_;rintro e w3 ⟨rfl,g⟩;have B3:=ae (t.out.trans (g.mono t.out.size));clear g;rw[HG.out];go_wp2;go_ret2;exact⟨rfl,B3.out⟩}
  ·obtain⟨rfl,rfl⟩:(1:Int)=s/\(0:Int)=u:=by have:=ZO.out;simpa[ZP] using this
   have hc2:(c == 0)=ZB:=by simpa using ZP
   go_wp2;go_ret2;exact⟨rfl,B2.out⟩
theorem od {g:Nat->ByteArray}{n:Nat}{t:ByteArray}{r s:Int}(f:aJ g n=ZF)(h1:PlaceOf g n t r)(h2:PlaceOf g n t s):r=s:=by
 rcases h1 with ⟨rfl,h1⟩|⟨i,rfl,hi,h1⟩
 ·rcases h2 with ⟨rfl,h2⟩|⟨j,rfl,b,h2⟩
  {rfl};{rw[eC b h2] at h1;cases h1}
 ·rcases h2 with ⟨rfl,h2⟩|⟨j,rfl,b,h2⟩
  {rw[eC hi h1] at h2;cases h2};{rw[asc_one f hi b h1 h2]}
theorem mV (g:Nat->ByteArray)(n:Nat)(t:ByteArray):∃r,PlaceOf g n t r:=by
 cases ZV:aG g n t with
 |false=>exact⟨-1,.inl ⟨rfl,ZV⟩⟩
 |true =>obtain⟨k,b,h1⟩:=ol ZV;exact⟨k,.inr ⟨k,rfl,b,h1⟩⟩
theorem vX (a0:Option Addr)(n0 c0:Nat)(a1:Option Addr)(n1 c1:Nat)(f0:Nat->Source)(t:ByteArray)(S:Int)(w:G)(hn0:(n0:Int)<=1048576)(b:SlSource w a0 n0 f0)(ZV:aJ (nm0 f0) n0=ZF)(g:PlaceOf (nm0 f0) n0 t S):Calls Tryz.prog 31 #[ZH #[Z a0 n0 c0,Z a1 n1 c1],U t] w λe j=>e=ZG (J I S)/\Below (A (h w)) w j :=
 (ki a0 n0 c0 a1 n1 c1 f0 t w hn0 b).mono λ_ _ ⟨_,f,i,hb⟩=>⟨by rw[f,od ZV i g],hb⟩
theorem vY (a0:Option Addr)(n0 c0:Nat)(a1:Option Addr)(n1 c1:Nat)(f1:Nat->Target)(t:ByteArray)(S:Int)(w:G)(hn1:(n1:Int)<=1048576)(b:SlTarget w a1 n1 f1)(ZV:aJ (nm1 f1) n1=ZF)(g:PlaceOf (nm1 f1) n1 t S):Calls Tryz.prog 32 #[ZH #[Z a0 n0 c0,Z a1 n1 c1],U t] w λe j=>e=ZG (J I S)/\Below (A (h w)) w j :=
 (kf a0 n0 c0 a1 n1 c1 f1 t w hn1 b).mono λ_ _ ⟨_,f,i,hb⟩=>⟨by rw[f,od ZV i g],hb⟩
theorem sG (a:Option Addr)(n cap:Nat)(f:Nat->af)(o:Option Addr)(n0 u:Nat)(f0:Nat->Source)(m:Option Addr)(n1 q:Nat)(f1:Nat->Target)(w:G)(hn:(n:Int)<=1048576)(hn0:(n0:Int)<=1048576)(hn1:(n1:Int)<=1048576)(hv:SlDeed w a n f)(ld:∀i,i<n->bJ (f i))(Hn:∀i,i<n->eY (f i))(At:SlSource w o n0 f0)(GS:SlTarget w m n1 f1)(Fk:∀i,i<n1->aU (f1 i))(Hm:∀i,i<n1->∀j,j<(f1 i).l->((f1 i).u j).s.size<=maxLen):Calls Tryz.prog 9 #[ZH #[Z a n cap],ZH #[Z o n0 u,Z m n1 q]] w λe w'=>e=ZG (.tuple #[J I (fZ n0 f0 n1 f1 f n).1,J I (fZ n0 f0 n1 f1 f n).2])/\Below (A (h w)) w w':=by
  have HV:=ae hv;have HM:=ae ld;have HZ:=ae Hn;have n7:=ae At;have qr:=ae GS;have Bk:=ae Fk;have Hz:=ae Hm;clear hv ld Hn At GS Fk Hm;have A0:=ae (((q9 w).alloc ly (N #[Z a n cap] 25)).alloc (by simp) (N #[Z o n0 u,Z m n1 q] 33));have X0:=ae (zk w (Z a n cap) (Z o n0 u) (Z m n1 q) 25 33);obtain⟨D,E,ZK⟩:∃D E,fZ n0 f0 n1 f1 f n=(D,E):=⟨_,_,rfl⟩
  rw[ZK];have HE:=ae (show(if aK f n=ZF then (if bm n0 f0 n1 f1=0 then eV (dx n0 f0 n1 f1 f) n else (1,0)) else (1,0))=(D,E) from ZK);clear ZK;go_enter func9,ntmps9;go_wp2_with fail;generalize World.alloc (World.alloc w _) _=W at A0 X0 ⊢;refine(oA a n cap f _ hn (HV.out.aa A0.out ly) HM.out HZ.out).mono ?_;rintro e w1 ⟨rfl,g⟩;have B1:=ae (A0.out.trans (g.mono A0.out.size));have X1:=ae (X0.out.aa g X0.out.lt);clear g A0 X0;have HO:=ae (λZV:aK f n=ZF=>(⟨dy ZV,ZV⟩:(1<=n/\n<=400/\aE (ba f) n=-1)/\aK f n=ZF));obtain⟨r,hr⟩:∃r,r=aK f n:=⟨_,rfl⟩
  rw[<-hr] at HE ⊢;have Hl:=ae hr;clear hr;obtain⟨ZP,M,K,ZO⟩:=X1.out;cases r with
  |false =>
    obtain⟨rfl,rfl⟩:(1:Int)=D/\(0:Int)=E:=by have:=HE.out;simpa using this
    go_wp2;go_ret2;exact⟨rfl,B1.out⟩
  |true =>
    have HF:=ae (show(if bm n0 f0 n1 f1=0 then eV (dx n0 f0 n1 f1 f) n else (1,0))=(D,E) by have:=HE.out;simpa using this);obtain⟨⟨hn1',hn4,-⟩,ro⟩:=HO.out Hl.out.symm;have Hp:=ae ro;clear HE HO ro Hl;obtain⟨b,off,rfl,ph⟩:=HV.out.resolve_left (by omega);have HR:=ae ph;clear HV ph;go_wp2_with fail;refine(eu o n0 u f0 m n1 q f1 _ hn0 hn1 (n7.out.aa B1.out ly) (qr.out.aa B1.out ly) Bk.out Hz.out).mono ?_;rintro e w2 ⟨rfl,g⟩;have B2:=ae (B1.out.trans (g.mono B1.out.size));have X2:=ae (X1.out.aa g X1.out.lt);clear g X1 ZP M K ZO;have DS:=ae (λZV:bm n0 f0 n1 f1=0=>mh ZV);obtain⟨c,ZJ⟩:∃c,c=bm n0 f0 n1 f1:=⟨_,rfl⟩
    rw[<-ZJ] at HF ⊢;have DE:=ae ZJ;clear ZJ;by_cases ur:c=0;case neg =>
      obtain⟨rfl,rfl⟩:(1:Int)=D/\(0:Int)=E:=by have:=HF.out;simpa[ur] using this
      have Hq:(c == 0)=ZB:=by simpa using ur
      go_wp2;go_ret2;exact⟨rfl,B2.out⟩
    subst ur;have HG:=ae (show eV (dx n0 f0 n1 f1 f) n=(D,E) by have:=HF.out;simpa using this);obtain⟨ex,bt,hfew⟩:=DS.out DE.out.symm;have Fn:=ae ex;have Hk:=ae bt;clear HF DS DE ex bt;go_wp2;go_loopw [6] (λv wr=>∃i:Nat,i<=n/\v=J I i/\Hid (∀j,j<i->dx n0 f0 n1 f1 f j=0)/\Hid (Below (A (h w2)) w2 wr)) (λi _=>n - (intOf i).toNat);case atStart=>exact⟨0,by omega,rfl,λj hj=>absurd hj (IT _),cM _ _⟩
    case round =>
      obtain⟨i,hin,rfl,HD,HB⟩:=hrel;have X3:=ae (X2.out.aa HB.out X2.out.lt);have R2:=ae (B2.out.trans (HB.out.mono B2.out.size));obtain⟨ZP,M,K,ZO⟩:=X3.out;by_cases x:i<n;case neg =>
        obtain rfl:i=n:=by omega
        have ZV:=mN HD.out;rw[HG.out] at ZV;simp only[KJ] at ZV;obtain⟨rfl,rfl⟩:=ZV;go_wp2;go_ret2;exact⟨rfl,R2.out⟩
      have hlt2:(i:Int)<n:=by omega
      have L:=HR.out.aa R2.out ly;have Fm:=ae L;obtain⟨o0,o1,o2,o3,⟨a0,sm,o4,q4⟩,⟨a1,aq,o5,q5⟩⟩:=L.2 i x;have QI:=ae (show SlIns wr a0 (f i).l (f i).u/\SlLink wr a1 (f i).f (f i).m from⟨q4,q5⟩);clear L q4 q5;obtain⟨WD,hW⟩:∃W:G,wr.alloc (N #[U (f i).e,J I (f i).H,J I (f i).E,U (f i).B,Z a0 (f i).l sm,Z a1 (f i).f aq] 44)=W:=⟨_,rfl⟩
      obtain⟨ZN,kD,ZL⟩:=nb1 hW;have HW:=ae hW;clear hW;have e1:ZT WD (Q (A (h wr)) 1 Y)=T (J I (f i).H):=by rw[Lib.cell_of_heap kD.out];rfl
      have e5:ZT WD (Q (A (h wr)) 5 Y)=T (Z a1 (f i).f aq):=by rw[Lib.cell_of_heap kD.out];rfl
      replace ZL:A (h wr)<A (h WD):=by omega
      clear kD;go_wp2_with fail;clear o0 o1 o2 o3 o4 o5;rw[HW.out];clear HW;have R3:=ae (R2.out.trans (ZN.out.mono R2.out.size));have B3:=ae (HB.out.trans (ZN.out.mono HB.out.size));refine(Av (f i) a0 sm a1 aq o n0 u f0 m n1 q f1 _ hn0 hn1 (n7.out.aa R3.out ly) (qr.out.aa R3.out ly) Fn.out Hk.out (QI.out.1.aa ZN.out ly) (HM.out i x).1 Bk.out).mono ?_;rintro e w4 ⟨rfl,g⟩;have X4:=ae ((X3.out.aa ZN.out X3.out.lt).aa g (by have:=X3.out.lt;have:=ZN.out.size;omega));have R4:=ae (R3.out.trans (g.mono R3.out.size));have B4:=ae (B3.out.trans (g.mono B3.out.size));have D4:=ae (ZN.out.trans (g.mono ZN.out.size));have g1:=(g.cell (p:=(Q (A (h wr)) 1 Y)) ZL).trans e1;have g5:=(g.cell (p:=(Q (A (h wr)) 5 Y)) ZL).trans e5;have la:A (h wr)<A (h w4):=lj ZL g.size;have th:=ae (show dx n0 f0 n1 f1 f i=if gU n0 f0 n1 f1 (f i)=ZF then 2 else if hasB n0 f0 n1 f1 (f i)=ZF then 3 else codeF f i from rfl);clear g ZN R3 B3 e1 e5 ZL ZP M K ZO X3;obtain⟨ZP,M,K,ZO⟩:=X4.out;cases hq:gU n0 f0 n1 f1 (f i) with
      |true =>
        have y:Hid ((2:Int)=D/\(i:Int)=E):=by
          have P:dx n0 f0 n1 f1 f i=2:=by rw[th.out,hU hq]
          have ZV:=iZ x HD.out (by rw[P];decide);rw[HG.out,P] at ZV;simp only[KJ] at ZV;exact⟨ZV.1.symm,ZV.2.symm⟩
        go_wp2;go_ret2;exact⟨by rw[y.out.1,y.out.2];rfl,R4.out⟩
      |false =>
        have HQ:=ae hq;have QJ:=ae (And.intro (QI.out.1.aa D4.out ly) (QI.out.2.aa D4.out ly));have Ht:=ae (Fm.out.aa D4.out ly);have hll:=(HM.out i x).2;clear hq QI Fm D4 HB R2 M K ZO ZP;generalize (A (h wr))=gd at g1 g5 la ⊢;obtain⟨ZP,M,K,ZO⟩:=X4.out;go_wp2;go_loopw [8] (λv w5=>∃k:Nat,k<=(f i).f/\v=J I k/\Hid (aI (λk=>dT n0 f0 n1 f1 ((f i).m k)) k=ZB)/\Hid (Below (A (h w4)) w4 w5)) (λk _=>(f i).f - (intOf k).toNat);case atStart=>exact⟨0,by omega,rfl,rfl,cM _ _⟩
        case round =>
          obtain⟨k,hk,rfl,HN,l⟩:=hrel;have X5:=ae (X4.out.aa l.out X4.out.lt);have R5:=ae (R4.out.trans (l.out.mono R4.out.size));have DQ:=(l.out.cell (p:=(Q gd 1 Y)) la).trans g1;have Hw:=(l.out.cell (p:=(Q gd 5 Y)) la).trans g5;have hgz':gd<A (h wr):=lj la l.out.size;clear ZP M K ZO;obtain⟨ZP,M,K,ZO⟩:=X5.out;by_cases hlk:k<(f i).f
          · have hlk2:(k:Int)<(f i).f:=by omega
            obtain⟨lb,lo,Hr,Ho⟩:=(QJ.out.2.aa l.out ly).resolve_left (by omega);subst Hr;obtain⟨p0,p1,p2,p3⟩:=Ho.2 k hlk;clear Ho;have HX:=ae (show aI (λk=>dT n0 f0 n1 f1 ((f i).m k)) (k+1)=dT n0 f0 n1 f1 ((f i).m k) by rw[aI,HN.out];rfl);have HY:=ae (λZV:dT n0 f0 n1 f1 ((f i).m k)=ZF=>show hasB n0 f0 n1 f1 (f i)=ZF from cY (p:=λk=>dT n0 f0 n1 f1 ((f i).m k)) hlk ZV);generalize (f i).m k=X at p0 p1 p2 p3 HX HY;obtain⟨S,hS⟩:=mV (nm0 f0) n0 X.e;obtain⟨ZM,ZK⟩:=mV (nm1 f1) n1 X.e;have fd:=ae (show dT n0 f0 n1 f1 X=(!X.ask && !(X.has == (decide (0<=S) || decide (0<=ZM)))) by unfold dT jn;rw[hS.has,ZK.has]);have PS:=ae hS;have PT:=ae ZK;have Hu:=ae (show(S=-1∨∃s:Nat,S=s)/\(ZM=-1∨∃t:Nat,ZM=t) from⟨hS.elim (λZV=>.inl ZV.1) (λ⟨k,ZV,_⟩=>.inr ⟨k,ZV⟩),ZK.elim (λZV=>.inl ZV.1) (λ⟨k,ZV,_⟩=>.inr ⟨k,ZV⟩)⟩);clear hS ZK;cases hask:X.ask with
            |true =>
              have Fd:dT n0 f0 n1 f1 X=ZB:=by rw[fd.out,hask];rfl
              have Hx:=ae (HX.out.trans Fd);have BL:=ae (l.out.alloc l.out.size (N #[U X.e,ZC ZF,ZC X.has,J I X.L] 68));rw[hask] at p1;clear Fd HX HY fd PS PT;go_wp2_with fail;go_quiet (fail);have BQ:=ae (BG BL.out nq);go_wp2;exact⟨⟨k+1,by omega,by go_num,Hx.out,BQ.out⟩,by simp[intOf];omega⟩
            |false =>
              obtain⟨c,n8⟩:∃c,c=X.has:=⟨_,rfl⟩
              obtain⟨nm,Hi⟩:∃nm,nm=X.e:=⟨_,rfl⟩
              have O:Hid (dT n0 f0 n1 f1 X=!(c == (decide (0<=S) || decide (0<=ZM)))):=by show _=_;rw[fd.out,hask,n8];rfl
              rw[hask] at p1;rw[<-n8] at p2;rw[<-Hi] at p0 PS PT;have D6:=ae ((q9 wr).alloc ly (N #[U nm,ZC ZB,ZC c,J I X.L] 68));have m0:(wr.alloc (N #[U nm,ZC ZB,ZC c,J I X.L] 68)).cell? (Q (A (h wr)) 0 Y)=T (U nm):=by simp
              have m1:(wr.alloc (N #[U nm,ZC ZB,ZC c,J I X.L] 68)).cell? (Q (A (h wr)) 1 Y)=T (ZC ZB):=by simp
              have m2:(wr.alloc (N #[U nm,ZC ZB,ZC c,J I X.L] 68)).cell? (Q (A (h wr)) 2 Y)=T (ZC c):=by simp
              have ZQ:A (h wr)<(wr.alloc (N #[U nm,ZC ZB,ZC c,J I X.L] 68)).heap.size:=by simp
              clear n8 Hi hask fd;go_wp2_with fail;have X6:=ae (X5.out.aa D6.out X5.out.lt);clear p0 p1 p2 p3 DQ Hw ZP M K ZO;generalize World.alloc wr _=z at D6 m0 m1 m2 ZQ X6 ⊢;have B6:=ae (l.out.trans (D6.out.mono l.out.size));have R6:=ae (R5.out.trans (D6.out.mono R5.out.size));have CS:=ae (λV (g:Below (A (h z)) z V)=>vX o n0 u m n1 q f0 nm S V hn0 ((n7.out.aa R6.out ly).aa g ly) Fn.out PS.out);have CT:=ae (λV (g:Below (A (h z)) z V)=>vY o n0 u m n1 q f1 nm ZM V hn1 ((qr.out.aa R6.out ly).aa g ly) Hk.out PT.out);generalize (A (h wr))=B at m0 m1 m2 ZQ ⊢;clear D6 PS PT X5 R5
              have y:=ae (λZV:dT n0 f0 n1 f1 X=ZF=>(show(3:Int)=D/\(i:Int)=E by
                have P:dx n0 f0 n1 f1 f i=3:=by rw[th.out,eT (by rw[HQ.out];simp),hU (HY.out ZV)]
                have ZV:=iZ x HD.out (by rw[P];decide);rw[HG.out,P] at ZV;simp only[KJ] at ZV
                exact⟨ZV.1.symm,ZV.2.symm⟩))
              have SK:=ae (λV (g:Below (A (h z)) z V)=>(show ZT V (Q B 0 Y)=T (U nm)/\ZT V (Q B 1 Y)=T (ZC ZB)/\ZT V (Q B 2 Y)=T (ZC c)/\ZT V (Q (A (h w)+1) 0 Y)=T (Z o n0 u)/\ZT V (Q (A (h w)+1) 1 Y)=T (Z m n1 q) from⟨(g.cell (p:=(Q B 0 Y)) ZQ).trans m0,(g.cell (p:=(Q B 1 Y)) ZQ).trans m1,(g.cell (p:=(Q B 2 Y)) ZQ).trans m2,(X6.out.aa g X6.out.lt).c1,(X6.out.aa g X6.out.lt).c2⟩));clear m0 m1 m2;have hst:(S=-1∨∃s:Nat,S=s)/\(ZM=-1∨∃t:Nat,ZM=t):=Hu.out;rcases hst with ⟨rfl|⟨s,rfl⟩,Hj⟩
              · rcases Hj with rfl|⟨t,rfl⟩
                all_goals
                  go_region_held3 (λV=>ZT V (Q B 0 Y)=T (U nm)/\ZT V (Q B 1 Y)=T (ZC ZB)/\ZT V (Q B 2 Y)=T (ZC c)/\ZT V (Q (A (h w)+1) 0 Y)=T (Z o n0 u)/\ZT V (Q (A (h w)+1) 1 Y)=T (Z m n1 q)) (first|exact SK.out _ br|exact SK.out _ br.drew|exact SK.out _ ZU.out|exact SK.out _ BT.out)
                    (first
                    |(go_at_call 31;refine(CS.out _ ?_).mono ?_;(first|exact cM _ _|exact br.drew);rintro e wS ⟨rfl,g⟩;have ZU:Hid (Below (A (h z)) z wS):=⟨g.os,g.tape,g.output,g.size,g.block⟩;clear g)
                    |(go_at_call 32;refine(CT.out _ ?_).mono ?_;(first|exact ZU.out|exact ZU.out.drew);rintro e wT ⟨rfl,g⟩;have BT:Hid (Below (A (h z)) z wT):=ZU.out.trans (Below.mono (⟨g.os,g.tape,g.output,g.size,g.block⟩:Below (A (h wS)) wS wT) ZU.out.size);clear g))
                  all_goals
                    go_simp;cases c
                    all_goals
                      go_wp2;first
                        |exact⟨⟨k+1,by omega,by go_num,HX.out.trans (by rw[O.out];simp),B6.out.trans (BT.out.mono B6.out.size)⟩,by simp[intOf];omega⟩
                        | (go_ret2
                           have R:=y.out (by rw[O.out];simp)
                           exact⟨by rw[R.1,R.2];rfl,R6.out.trans (BT.out.mono R6.out.size)⟩)
              · clear CT Hj;obtain⟨z0,z1,z2,z3,z4⟩:=SK.out _ br;first
                  | go_region_with (first
                    |(go_at_call 31;refine(CS.out _ ?_).mono ?_;(first|exact cM _ _|exact br.drew);rintro e wS ⟨rfl,g⟩;have ZU:Hid (Below (A (h z)) z wS):=⟨g.os,g.tape,g.output,g.size,g.block⟩;obtain⟨u0,u1,u2,u3,u4⟩:=SK.out _ ZU.out;have hsz1:B<A (h wS):=lj ZQ ZU.out.size;clear g))
                  |fail
                all_goals
                  go_simp;cases c
                  all_goals
                    go_wp2;first
                      |exact⟨⟨k+1,by omega,by go_num,HX.out.trans (by rw[O.out];simp),B6.out.trans (ZU.out.mono B6.out.size)⟩,by simp[intOf];omega⟩
                      | (go_ret2
                         have R:=y.out (by rw[O.out];simp)
                         exact⟨by rw[R.1,R.2];rfl,R6.out.trans (ZU.out.mono R6.out.size)⟩)
          · obtain rfl:k=(f i).f:=by omega
            have Hv:=ae (show hasB n0 f0 n1 f1 (f i)=ZB from HN.out);have n9:Hid (dx n0 f0 n1 f1 f i=codeF f i):=by show _=_;rw[th.out,eT (by rw[HQ.out];simp),eT (by rw[Hv.out];simp)]
            have B5:=ae (B4.out.trans (l.out.mono B4.out.size));by_cases H:(f i).H=3
            · have Hy:=ae H;have ZS:Hid (dx n0 f0 n1 f1 f i=fS f i):=by show _=_;rw[n9.out];unfold codeF;rw[hU H]
              rw[H] at DQ;clear H n9;go_wp2_with fail;refine(Aa b off n cap f i _ (by omega) Hp.out x Hy.out (Ht.out.aa l.out ly) (HZ.out i x)).mono ?_;rintro e w6 ⟨rfl,g⟩;have B7:=ae (B5.out.trans (g.mono B5.out.size));have R7:=ae (R5.out.trans (g.mono R5.out.size));clear g;obtain⟨C,hC⟩:∃C,C=fS f i:=⟨_,rfl⟩
              rw[<-hC];rw[<-hC] at ZS;clear hC;by_cases ZJ:C=0
              · subst ZJ;go_wp2
                exact⟨⟨i+1,by omega,by go_num,λj hj=>by
                  by_cases e:j=i;{subst e;exact ZS.out}
                  · exact HD.out j (by omega),B7.out⟩,by simp[intOf];omega⟩
              · have Hq:(C == 0)=ZB:=by simpa using ZJ
                have y:Hid (C=D/\(i:Int)=E):=by have ZV:=iZ x HD.out (by rw[ZS.out];exact ZJ);rw[HG.out,ZS.out] at ZV;simp only[KJ] at ZV;exact⟨ZV.1.symm,ZV.2.symm⟩
                go_wp2;go_ret2;exact⟨by rw[y.out.1,y.out.2];rfl,R7.out⟩
            · have ZS:Hid (dx n0 f0 n1 f1 f i=0):=by show _=_;rw[n9.out];unfold codeF;rw[eT H]
              have hk2:((f i).H == 3)=ZB:=by simpa using H
              go_wp2
              exact⟨⟨i+1,by omega,by go_num,λj hj=>by
                  by_cases e:j=i;{subst e;exact ZS.out}
                  · exact HD.out j (by omega),B5.out⟩,by simp[intOf];omega⟩
