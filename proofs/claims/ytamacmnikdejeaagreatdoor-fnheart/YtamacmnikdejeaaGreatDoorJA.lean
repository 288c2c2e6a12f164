import Derived.Test.YtamacmnikdejeaaGreatDoorLW
import Derived.Test.YtamacmnikdejeaaGreatDoorLS
import Derived.Test.YtamacmnikdejeaaGreatDoorLH
import Derived.Deep.RegionHeld3
set_option maxRecDepth 100000
set_option maxHeartbeats 8000000
open Go renaming Addr.mk->Q,Value.slice->Y,Value.string->U,Value.int->J,Value.bool->ZC,Value.agg->ZG,Obj.cells->N,IntKind.i64->I,World->E,Ending.returned->ZF,World.heap->B,World.cell?->A
open Option renaming none->Z,some->T
open Bool renaming false->ZA,true->ZD
open Array renaming size->z
namespace Go.Proofs.YtamacmnikdejeaaGreatDoor.Vp
open Tryz RowKit
theorem sR (a:Option Addr)(n cap:Nat)(f:Nat->au)(j:Option Addr)(n0 q:Nat)(f0:Nat->Source)(l:Option Addr)(n1 o:Nat)(f1:Nat->Target)(w:E)(hn:(n:Int)<=1048576)(hn0:(n0:Int)<=1048576)(hn1:(n1:Int)<=1048576)(hv:SlDeed w a n f)(ZI:(n:Int)<=cap)(D:∀i,i<n->dw (f i))(ZM:SlSource w j n0 f0)(S:SlTarget w l n1 f1)(ZL:∀i,i<n1->aX (f1 i))(ZT:Tab w)(ZQ:Tab2 w)(G:Pow w):Calls Tryz.prog 23 #[ZG #[Y a n cap],ZG #[Y j n0 q,Y l n1 o]] w λe w'=>e=ZF (.tuple #[J I (iC n0 f0 n1 f1 f n).1,J I (iC n0 f0 n1 f1 f n).2])/\Below (z (B w)) w w':=by
 have HV:=ae hv;have ZJ:=ae D;have O:=ae ZM;have R:=ae S;have V:=ae ZL;have M:=ae ZT;have ex:=ae ZQ;have bt:=ae G;have la:=ZQ.1;clear hv D ZM S ZL ZT ZQ G;obtain⟨W,ZP⟩:∃W:E,(w.alloc (N #[Y a n cap] 25)).alloc (N #[Y j n0 q,Y l n1 o] 29)=W:=⟨_,rfl⟩
 obtain⟨K,-,-,-⟩:=nb2 ZP;have m:=ae ZP;clear ZP;have k0:A W (Q (z (B w)) 0 Z)=T (Y a n cap):=by rw[<-m.out];simp[go_sem]
 have k1:A W (Q (z (B w)+1) 0 Z)=T (Y j n0 q):=by rw[<-m.out];simp[go_sem]
 have k2:A W (Q (z (B w)+1) 1 Z)=T (Y l n1 o):=by rw[<-m.out];simp[go_sem]
 have hz:z (B w)+1<z (B W):=by rw[<-m.out];simp
 obtain⟨s,u,ZT⟩:∃s u,iC n0 f0 n1 f1 f n=(s,u):=⟨_,_,rfl⟩
 rw[ZT];have L:=ae (show(if bv f n=ZD then (if bq n0 f0 n1 f1=0 then eP (dq n0 f0 n1 f1 f) n else (1,0)) else (1,0))=(s,u) from ZT);clear ZT;go_enter func23,ntmps23;go_wp2_with fail;rw[m.out];clear m;refine(ou a n cap f _ hn (HV.out.aa K.out ly) ZI ZJ.out (M.out.aa K.out M.out.1)).mono ?_;rintro e w1 ⟨rfl,g⟩;have ZS:=ae (K.out.trans (g.mono K.out.size));have l0:=(g.cell (p:=(Q (z (B w)) 0 Z)) (by show (z (B w))<_;omega)).trans k0;have l1:=(g.cell (p:=(Q (z (B w)+1) 0 Z)) hz).trans k1;have l2:=(g.cell (p:=(Q (z (B w)+1) 1 Z)) hz).trans k2;have y:z (B w)+1<z (B w1):=lj hz g.size;clear g K k0 k1 k2 hz;have HO:=ae (λh:bv f n=ZD=>(⟨fl h,h⟩:(1<=n/\n<=400/\aI (bi f) n=-1)/\bv f n=ZD));obtain⟨r,hr⟩:∃r,r=bv f n:=⟨_,rfl⟩
 rw[<-hr] at L ⊢;have P:=ae hr;clear hr;cases r with
 |false =>
  obtain⟨rfl,rfl⟩:(1:Int)=s/\(0:Int)=u:=by have:=L.out;simpa using this
  go_wp2;go_ret2;exact⟨rfl,ZS.out⟩
 |true =>
  have ZN:=ae (show(if bq n0 f0 n1 f1=0 then eP (dq n0 f0 n1 f1 f) n else (1,0))=(s,u) by have:=L.out;simpa using this);obtain⟨⟨hn1',hn4,-⟩,H⟩:=HO.out P.out.symm;have aq:=ae H;clear L HO H P;obtain⟨b,off,rfl,ZO⟩:=HV.out.resolve_left (by omega);have HR:=ae ZO;clear HV ZO;go_wp2_with fail;refine(lW j n0 q f0 l n1 o f1 _ hn0 hn1 (O.out.aa ZS.out ly) (R.out.aa ZS.out ly) V.out (M.out.aa ZS.out M.out.1)).mono ?_;rintro e w2 ⟨rfl,g⟩;have B2:=ae (ZS.out.trans (g.mono ZS.out.size));have m0:=(g.cell (p:=(Q (z (B w)) 0 Z)) (by show (z (B w))<_;omega)).trans l0;have m1:=(g.cell (p:=(Q (z (B w)+1) 0 Z)) y).trans l1;have m2:=(g.cell (p:=(Q (z (B w)+1) 1 Z)) y).trans l2;have hz2:z (B w)+1<z (B w2):=lj y g.size;clear g l0 l1 l2 y;have ZK:=ae (λh:bq n0 f0 n1 f1=0=>mj h);obtain⟨c,hc⟩:∃c,c=bq n0 f0 n1 f1:=⟨_,rfl⟩
  rw[<-hc] at ZN ⊢;have X:=ae hc;clear hc;by_cases C:c=0;{subst C;have HG:=ae (show eP (dq n0 f0 n1 f1 f) n=(s,u) by have:=ZN.out;simpa using this);obtain⟨x,ZR,hfew⟩:=ZK.out X.out.symm;have ld:=ae x;have fd:=ae ZR;clear ZN ZK X x ZR;have t:=ae (B2.out.alloc B2.out.size (N #[J I 2,.func (.func 70) #[] #[],J I 3,.func (.func 71) #[] #[],J I 4,.func (.func 39) #[] #[],J I 5,.func (.func 40) #[] #[]] 80));go_wp2_with fail;refine(sO b off n cap (z (B w2)) j n0 q f0 l n1 o f1 f _ (by omega) hn0 hn1 aq.out (HR.out.aa t.out ly) (O.out.aa t.out ly) (R.out.aa t.out ly) ld.out fd.out (λi hi=>(ZJ.out i hi).1) (λi hi=>(ZJ.out i hi).2) V.out (ex.out.aa t.out la) (bt.out.aa t.out ly) (by simp) (by simp) (by simp) (by simp) (by simp) (by simp) (by simp) (by simp) (by simp)).mono ?_;rintro e w3 ⟨rfl,g⟩;have B3:=ae (t.out.trans (g.mono t.out.size));clear g;rw[HG.out];go_wp2;go_ret2;exact⟨rfl,B3.out⟩}
  ·obtain⟨rfl,rfl⟩:(1:Int)=s/\(0:Int)=u:=by have:=ZN.out;simpa[C] using this
   have hc2:(c == 0)=ZA:=by simpa using C
   go_wp2;go_ret2;exact⟨rfl,B2.out⟩
theorem nZ {g:Nat->ByteArray}{n:Nat}{t:ByteArray}{r s:Int}(f:aL g n=ZD)(h1:PlaceOf g n t r)(h2:PlaceOf g n t s):r=s:=by
 rcases h1 with ⟨rfl,h1⟩|⟨i,rfl,hi,h1⟩
 ·rcases h2 with ⟨rfl,h2⟩|⟨j,rfl,b,h2⟩
  {rfl};{rw[er b h2] at h1;cases h1}
 ·rcases h2 with ⟨rfl,h2⟩|⟨j,rfl,b,h2⟩
  {rw[er hi h1] at h2;cases h2};{rw[asc_one f hi b h1 h2]}
theorem mZ (g:Nat->ByteArray)(n:Nat)(t:ByteArray):∃r,PlaceOf g n t r:=by
 cases h:aG g n t with
 |false=>exact⟨-1,.inl ⟨rfl,h⟩⟩
 |true =>obtain⟨k,b,h1⟩:=oe h;exact⟨k,.inr ⟨k,rfl,b,h1⟩⟩
theorem ws (a0:Option Addr)(n0 c0:Nat)(a1:Option Addr)(n1 c1:Nat)(f0:Nat->Source)(t:ByteArray)(S:Int)(w:E)(hn0:(n0:Int)<=1048576)(b:SlSource w a0 n0 f0)(h:aL (nm0 f0) n0=ZD)(i:PlaceOf (nm0 f0) n0 t S):Calls Tryz.prog 73 #[ZG #[Y a0 n0 c0,Y a1 n1 c1],U t] w λe j=>e=ZF (J I S)/\Below (z (B w)) w j :=
 (j7 a0 n0 c0 a1 n1 c1 f0 t w hn0 b).mono λ_ _ ⟨_,f,g,hb⟩=>⟨by rw[f,nZ h g i],hb⟩
theorem wu (a0:Option Addr)(n0 c0:Nat)(a1:Option Addr)(n1 c1:Nat)(f1:Nat->Target)(t:ByteArray)(S:Int)(w:E)(hn1:(n1:Int)<=1048576)(b:SlTarget w a1 n1 f1)(h:aL (nm1 f1) n1=ZD)(i:PlaceOf (nm1 f1) n1 t S):Calls Tryz.prog 74 #[ZG #[Y a0 n0 c0,Y a1 n1 c1],U t] w λe j=>e=ZF (J I S)/\Below (z (B w)) w j :=
 (jZ a0 n0 c0 a1 n1 c1 f1 t w hn1 b).mono λ_ _ ⟨_,f,g,hb⟩=>⟨by rw[f,nZ h g i],hb⟩
theorem sS (a:Option Addr)(n cap:Nat)(f:Nat->au)(m:Option Addr)(n0 x:Nat)(f0:Nat->Source)(o:Option Addr)(n1 y:Nat)(f1:Nat->Target)(w:E)(hn:(n:Int)<=1048576)(hn0:(n0:Int)<=1048576)(hn1:(n1:Int)<=1048576)(hv:SlDeed w a n f)(n7:∀i,i<n->dw (f i))(DE:∀i,i<n->ie (f i))(Hb:SlSource w m n0 f0)(ur:SlTarget w o n1 f1)(DS:∀i,i<n1->aX (f1 i))(At:∀i,i<n1->∀j,j<(f1 i).h->((f1 i).u j).s.size<=maxLen):Calls Tryz.prog 24 #[ZG #[Y a n cap],ZG #[Y m n0 x,Y o n1 y]] w λe w'=>e=ZF (.tuple #[J I (iC n0 f0 n1 f1 f n).1,J I (iC n0 f0 n1 f1 f n).2])/\Below (z (B w)) w w':=by
  have HV:=ae hv;have HM:=ae n7;have HZ:=ae DE;have mv:=ae Hb;have ro:=ae ur;have Hd:=ae DS;have Hn:=ae At;clear hv n7 DE Hb ur DS At;have A0:=ae (((BS w).alloc ly (N #[Y a n cap] 25)).alloc (by simp) (N #[Y m n0 x,Y o n1 y] 29));have X0:=ae (ze w (Y a n cap) (Y m n0 x) (Y o n1 y) 25 29);obtain⟨ZP,K,hT⟩:∃ZP K,iC n0 f0 n1 f1 f n=(ZP,K):=⟨_,_,rfl⟩
  rw[hT];have HE:=ae (show(if bv f n=ZD then (if bq n0 f0 n1 f1=0 then eP (dq n0 f0 n1 f1 f) n else (1,0)) else (1,0))=(ZP,K) from hT);clear hT;go_enter func24,ntmps24;go_wp2_with fail;generalize World.alloc (World.alloc w _) _=W at A0 X0 ⊢;refine(BH a n cap f _ hn (HV.out.aa A0.out ly) HM.out HZ.out).mono ?_;rintro e w1 ⟨rfl,g⟩;have B1:=ae (A0.out.trans (g.mono A0.out.size));have X1:=ae (X0.out.aa g X0.out.lt);clear g A0 X0;have HO:=ae (λh:bv f n=ZD=>(⟨fl h,h⟩:(1<=n/\n<=400/\aI (bi f) n=-1)/\bv f n=ZD));obtain⟨r,hr⟩:∃r,r=bv f n:=⟨_,rfl⟩
  rw[<-hr] at HE ⊢;have Ha:=ae hr;clear hr;obtain⟨R,ZJ,ZM,ZK⟩:=X1.out;cases r with
  |false =>
    obtain⟨rfl,rfl⟩:(1:Int)=ZP/\(0:Int)=K:=by have:=HE.out;simpa using this
    go_wp2;go_ret2;exact⟨rfl,B1.out⟩
  |true =>
    have HF:=ae (show(if bq n0 f0 n1 f1=0 then eP (dq n0 f0 n1 f1 f) n else (1,0))=(ZP,K) by have:=HE.out;simpa using this);obtain⟨⟨hn1',hn4,-⟩,sm⟩:=HO.out Ha.out.symm;have Hf:=ae sm;clear HE HO sm Ha;obtain⟨b,off,rfl,n8⟩:=HV.out.resolve_left (by omega);have HR:=ae n8;clear HV n8;go_wp2_with fail;refine(eo m n0 x f0 o n1 y f1 _ hn0 hn1 (mv.out.aa B1.out ly) (ro.out.aa B1.out ly) Hd.out Hn.out).mono ?_;rintro e w2 ⟨rfl,g⟩;have B2:=ae (B1.out.trans (g.mono B1.out.size));have X2:=ae (X1.out.aa g X1.out.lt);clear g X1 R ZJ ZM ZK;have Fd:=ae (λh:bq n0 f0 n1 f1=0=>mj h);obtain⟨c,hc⟩:∃c,c=bq n0 f0 n1 f1:=⟨_,rfl⟩
    rw[<-hc] at HF ⊢;have GS:=ae hc;clear hc;by_cases n6:c=0;case neg =>
      obtain⟨rfl,rfl⟩:(1:Int)=ZP/\(0:Int)=K:=by have:=HF.out;simpa[n6] using this
      have Hg:(c == 0)=ZA:=by simpa using n6
      go_wp2;go_ret2;exact⟨rfl,B2.out⟩
    subst n6;have HG:=ae (show eP (dq n0 f0 n1 f1 f) n=(ZP,K) by have:=HF.out;simpa using this);obtain⟨fd,ld,hfew⟩:=Fd.out GS.out.symm;have Fm:=ae fd;have DQ:=ae ld;clear HF Fd GS fd ld;go_wp2;go_loopw [6] (λv wr=>∃i:Nat,i<=n/\v=J I i/\Hid (∀j,j<i->dq n0 f0 n1 f1 f j=0)/\Hid (Below (z (B w2)) w2 wr)) (λi _=>n - (intOf i).toNat);case atStart=>exact⟨0,by omega,rfl,λj hj=>absurd hj (KO _),cM _ _⟩
    case round =>
      obtain⟨i,hin,rfl,HD,HB⟩:=hrel;have X3:=ae (X2.out.aa HB.out X2.out.lt);have R2:=ae (B2.out.trans (HB.out.mono B2.out.size));obtain⟨R,ZJ,ZM,ZK⟩:=X3.out;by_cases G:i<n;case neg =>
        obtain rfl:i=n:=by omega
        have h:=mQ HD.out;rw[HG.out] at h;simp only[KH] at h;obtain⟨rfl,rfl⟩:=h;go_wp2;go_ret2;exact⟨rfl,R2.out⟩
      have hlt2:(i:Int)<n:=by omega
      have P:=HR.out.aa R2.out ly;have Hc:=ae P;obtain⟨o0,o1,o2,o3,⟨a0,H,o4,q4⟩,⟨a1,ZS,o5,q5⟩⟩:=P.2 i G;have QI:=ae (show SlIns wr a0 (f i).h (f i).u/\SlLink wr a1 (f i).f (f i).m from⟨q4,q5⟩);clear P q4 q5;have ZI:=ae ((BS wr).alloc ly (N #[U (f i).e,J I (f i).L,J I (f i).M,U (f i).H,Y a0 (f i).h H,Y a1 (f i).f ZS] 46));have e1:(wr.alloc (N #[U (f i).e,J I (f i).L,J I (f i).M,U (f i).H,Y a0 (f i).h H,Y a1 (f i).f ZS] 46)).cell? (Q (z (B wr)) 1 Z)=T (J I (f i).L):=by simp
      have e5:(wr.alloc (N #[U (f i).e,J I (f i).L,J I (f i).M,U (f i).H,Y a0 (f i).h H,Y a1 (f i).f ZS] 46)).cell? (Q (z (B wr)) 5 Z)=T (Y a1 (f i).f ZS):=by simp
      have bt:z (B wr)<(wr.alloc (N #[U (f i).e,J I (f i).L,J I (f i).M,U (f i).H,Y a0 (f i).h H,Y a1 (f i).f ZS] 46)).heap.size:=by simp
      go_wp2_with fail;clear o0 o1 o2 o3 o4 o5;generalize World.alloc wr _=WD at ZI e1 e5 bt ⊢;have R3:=ae (R2.out.trans (ZI.out.mono R2.out.size));have B3:=ae (HB.out.trans (ZI.out.mono HB.out.size));refine(An (f i) a0 H a1 ZS m n0 x f0 o n1 y f1 _ hn0 hn1 (mv.out.aa R3.out ly) (ro.out.aa R3.out ly) Fm.out DQ.out (QI.out.1.aa ZI.out ly) (HM.out i G).1 Hd.out).mono ?_;rintro e w4 ⟨rfl,g⟩;have X4:=ae ((X3.out.aa ZI.out X3.out.lt).aa g (by have:=X3.out.lt;have:=ZI.out.size;omega));have R4:=ae (R3.out.trans (g.mono R3.out.size));have B4:=ae (B3.out.trans (g.mono B3.out.size));have D4:=ae (ZI.out.trans (g.mono ZI.out.size));have g1:=(g.cell (p:=(Q (z (B wr)) 1 Z)) bt).trans e1;have g5:=(g.cell (p:=(Q (z (B wr)) 5 Z)) bt).trans e5;have ex:z (B wr)<z (B w4):=lj bt g.size;have ph:=ae (show dq n0 f0 n1 f1 f i=if gE n0 f0 n1 f1 (f i)=ZD then 2 else if hasB n0 f0 n1 f1 (f i)=ZD then 3 else codeF f i from rfl);clear g ZI R3 B3 e1 e5 bt R ZJ ZM ZK X3;obtain⟨R,ZJ,ZM,ZK⟩:=X4.out;cases hq:gE n0 f0 n1 f1 (f i) with
      |true =>
        have ZR:Hid ((2:Int)=ZP/\(i:Int)=K):=by
          have aq:dq n0 f0 n1 f1 f i=2:=by rw[ph.out,j6 hq]
          have h:=iP G HD.out (by rw[aq];decide);rw[HG.out,aq] at h;simp only[KH] at h;exact⟨h.1.symm,h.2.symm⟩
        go_wp2;go_ret2;exact⟨by rw[ZR.out.1,ZR.out.2];rfl,R4.out⟩
      |false =>
        have HQ:=ae hq;have QJ:=ae (And.intro (QI.out.1.aa D4.out ly) (QI.out.2.aa D4.out ly));have Hl:=ae (Hc.out.aa D4.out ly);have hll:=(HM.out i G).2;clear hq QI Hc D4 HB R2 ZJ ZM ZK R;generalize (z (B wr))=gd at g1 g5 ex ⊢;obtain⟨R,ZJ,ZM,ZK⟩:=X4.out;go_wp2;go_loopw [8] (λv w5=>∃k:Nat,k<=(f i).f/\v=J I k/\Hid (aM (λk=>dZ n0 f0 n1 f1 ((f i).m k)) k=ZA)/\Hid (Below (z (B w4)) w4 w5)) (λk _=>(f i).f - (intOf k).toNat);case atStart=>exact⟨0,by omega,rfl,rfl,cM _ _⟩
        case round =>
          obtain⟨k,hk,rfl,HN,l⟩:=hrel;have X5:=ae (X4.out.aa l.out X4.out.lt);have R5:=ae (R4.out.trans (l.out.mono R4.out.size));have Fk:=(l.out.cell (p:=(Q gd 1 Z)) ex).trans g1;have Hh:=(l.out.cell (p:=(Q gd 5 Z)) ex).trans g5;have hgz':gd<z (B wr):=lj ex l.out.size;clear R ZJ ZM ZK;obtain⟨R,ZJ,ZM,ZK⟩:=X5.out;by_cases hlk:k<(f i).f
          · have hlk2:(k:Int)<(f i).f:=by omega
            obtain⟨lb,lo,Ho,th⟩:=(QJ.out.2.aa l.out ly).resolve_left (by omega);subst Ho;obtain⟨p0,p1,p2,p3⟩:=th.2 k hlk;clear th;have HX:=ae (show aM (λk=>dZ n0 f0 n1 f1 ((f i).m k)) (k+1)=dZ n0 f0 n1 f1 ((f i).m k) by rw[aM,HN.out];rfl);have HY:=ae (λh:dZ n0 f0 n1 f1 ((f i).m k)=ZD=>show hasB n0 f0 n1 f1 (f i)=ZD from cW (p:=λk=>dZ n0 f0 n1 f1 ((f i).m k)) hlk h);generalize (f i).m k=X at p0 p1 p2 p3 HX HY;obtain⟨S,hS⟩:=mZ (nm0 f0) n0 X.e;obtain⟨ZL,hT⟩:=mZ (nm1 f1) n1 X.e;have la:=ae (show dZ n0 f0 n1 f1 X=(!X.ask && !(X.has == (decide (0<=S) || decide (0<=ZL)))) by unfold dZ jd;rw[hS.has,hT.has]);have PS:=ae hS;have PT:=ae hT;have Hk:=ae (show(S=-1∨∃s:Nat,S=s)/\(ZL=-1∨∃t:Nat,ZL=t) from⟨hS.elim (λh=>.inl h.1) (λ⟨k,h,_⟩=>.inr ⟨k,h⟩),hT.elim (λh=>.inl h.1) (λ⟨k,h,_⟩=>.inr ⟨k,h⟩)⟩);clear hS hT;cases hask:X.ask with
            |true =>
              have He:dZ n0 f0 n1 f1 X=ZA:=by rw[la.out,hask];rfl
              have Hi:=ae (HX.out.trans He);have BL:=ae (l.out.alloc l.out.size (N #[U X.e,ZC ZD,ZC X.has,J I X.G] 129));rw[hask] at p1;clear He HX HY la PS PT;go_wp2_with fail;go_quiet (fail);have BQ:=ae (AI BL.out nq);go_wp2;exact⟨⟨k+1,by omega,by go_num,Hi.out,BQ.out⟩,by simp[intOf];omega⟩
            |false =>
              obtain⟨c,qr⟩:∃c,c=X.has:=⟨_,rfl⟩
              obtain⟨nm,G8⟩:∃nm,nm=X.e:=⟨_,rfl⟩
              have D:Hid (dZ n0 f0 n1 f1 X=!(c == (decide (0<=S) || decide (0<=ZL)))):=by show _=_;rw[la.out,hask,qr];rfl
              rw[hask] at p1;rw[<-qr] at p2;rw[<-G8] at p0 PS PT;have D6:=ae ((BS wr).alloc ly (N #[U nm,ZC ZA,ZC c,J I X.G] 129));have m0:(wr.alloc (N #[U nm,ZC ZA,ZC c,J I X.G] 129)).cell? (Q (z (B wr)) 0 Z)=T (U nm):=by simp
              have m1:(wr.alloc (N #[U nm,ZC ZA,ZC c,J I X.G] 129)).cell? (Q (z (B wr)) 1 Z)=T (ZC ZA):=by simp
              have m2:(wr.alloc (N #[U nm,ZC ZA,ZC c,J I X.G] 129)).cell? (Q (z (B wr)) 2 Z)=T (ZC c):=by simp
              have O:z (B wr)<(wr.alloc (N #[U nm,ZC ZA,ZC c,J I X.G] 129)).heap.size:=by simp
              clear qr G8 hask la;go_wp2_with fail;have X6:=ae (X5.out.aa D6.out X5.out.lt);clear p0 p1 p2 p3 Fk Hh R ZJ ZM ZK;generalize World.alloc wr _=q at D6 m0 m1 m2 O X6 ⊢;have B6:=ae (l.out.trans (D6.out.mono l.out.size));have R6:=ae (R5.out.trans (D6.out.mono R5.out.size));have CS:=ae (λV (g:Below (z (B q)) q V)=>ws m n0 x o n1 y f0 nm S V hn0 ((mv.out.aa R6.out ly).aa g ly) Fm.out PS.out);have CT:=ae (λV (g:Below (z (B q)) q V)=>wu m n0 x o n1 y f1 nm ZL V hn1 ((ro.out.aa R6.out ly).aa g ly) DQ.out PT.out);generalize (z (B wr))=ZT at m0 m1 m2 O ⊢;clear D6 PS PT X5 R5
              have ZR:=ae (λh:dZ n0 f0 n1 f1 X=ZD=>(show(3:Int)=ZP/\(i:Int)=K by
                have aq:dq n0 f0 n1 f1 f i=3:=by rw[ph.out,eT (by rw[HQ.out];simp),j6 (HY.out h)]
                have h:=iP G HD.out (by rw[aq];decide);rw[HG.out,aq] at h;simp only[KH] at h
                exact⟨h.1.symm,h.2.symm⟩))
              have ZO:=ae (λV (g:Below (z (B q)) q V)=>(show A V (Q ZT 0 Z)=T (U nm)/\A V (Q ZT 1 Z)=T (ZC ZA)/\A V (Q ZT 2 Z)=T (ZC c)/\A V (Q (z (B w)+1) 0 Z)=T (Y m n0 x)/\A V (Q (z (B w)+1) 1 Z)=T (Y o n1 y) from⟨(g.cell (p:=(Q ZT 0 Z)) O).trans m0,(g.cell (p:=(Q ZT 1 Z)) O).trans m1,(g.cell (p:=(Q ZT 2 Z)) O).trans m2,(X6.out.aa g X6.out.lt).c1,(X6.out.aa g X6.out.lt).c2⟩));clear m0 m1 m2;have hst:(S=-1∨∃s:Nat,S=s)/\(ZL=-1∨∃t:Nat,ZL=t):=Hk.out;rcases hst with ⟨rfl|⟨s,rfl⟩,Bk⟩
              · rcases Bk with rfl|⟨t,rfl⟩
                · go_region_held3 (λV=>A V (Q ZT 0 Z)=T (U nm)/\A V (Q ZT 1 Z)=T (ZC ZA)/\A V (Q ZT 2 Z)=T (ZC c)/\A V (Q (z (B w)+1) 0 Z)=T (Y m n0 x)/\A V (Q (z (B w)+1) 1 Z)=T (Y o n1 y)) (first|exact ZO.out _ br|exact ZO.out _ br.drew|exact ZO.out _ u.out|exact ZO.out _ BT.out)
                    (first
                    |(go_at_call 73;refine(CS.out _ ?_).mono ?_;(first|exact cM _ _|exact br.drew);rintro e L ⟨rfl,g⟩;have u:Hid (Below (z (B q)) q L):=⟨g.os,g.tape,g.output,g.size,g.block⟩;clear g)
                    |(go_at_call 74;refine(CT.out _ ?_).mono ?_;(first|exact u.out|exact u.out.drew);rintro e wT ⟨rfl,g⟩;have BT:Hid (Below (z (B q)) q wT):=u.out.trans (Below.mono (⟨g.os,g.tape,g.output,g.size,g.block⟩:Below (z (B L)) L wT) u.out.size);clear g))
                  all_goals
                    go_simp;cases c
                    all_goals
                      go_wp2;first
                        |exact⟨⟨k+1,by omega,by go_num,HX.out.trans (by rw[D.out];simp),B6.out.trans (BT.out.mono B6.out.size)⟩,by simp[intOf];omega⟩
                        | (go_ret2
                           have ZQ:=ZR.out (by rw[D.out];simp)
                           exact⟨by rw[ZQ.1,ZQ.2];rfl,R6.out.trans (BT.out.mono R6.out.size)⟩)
                · go_region_held3 (λV=>A V (Q ZT 0 Z)=T (U nm)/\A V (Q ZT 1 Z)=T (ZC ZA)/\A V (Q ZT 2 Z)=T (ZC c)/\A V (Q (z (B w)+1) 0 Z)=T (Y m n0 x)/\A V (Q (z (B w)+1) 1 Z)=T (Y o n1 y)) (first|exact ZO.out _ br|exact ZO.out _ br.drew|exact ZO.out _ u.out|exact ZO.out _ BT.out)
                    (first
                    |(go_at_call 73;refine(CS.out _ ?_).mono ?_;(first|exact cM _ _|exact br.drew);rintro e L ⟨rfl,g⟩;have u:Hid (Below (z (B q)) q L):=⟨g.os,g.tape,g.output,g.size,g.block⟩;clear g)
                    |(go_at_call 74;refine(CT.out _ ?_).mono ?_;(first|exact u.out|exact u.out.drew);rintro e wT ⟨rfl,g⟩;have BT:Hid (Below (z (B q)) q wT):=u.out.trans (Below.mono (⟨g.os,g.tape,g.output,g.size,g.block⟩:Below (z (B L)) L wT) u.out.size);clear g))
                  all_goals
                    go_simp;cases c
                    all_goals
                      go_wp2;first
                        |exact⟨⟨k+1,by omega,by go_num,HX.out.trans (by rw[D.out];simp),B6.out.trans (BT.out.mono B6.out.size)⟩,by simp[intOf];omega⟩
                        | (go_ret2
                           have ZQ:=ZR.out (by rw[D.out];simp)
                           exact⟨by rw[ZQ.1,ZQ.2];rfl,R6.out.trans (BT.out.mono R6.out.size)⟩)
              · clear CT Bk;obtain⟨z0,z1,z2,z3,z4⟩:=ZO.out _ br;first
                  | go_region_with (first
                    |(go_at_call 73;refine(CS.out _ ?_).mono ?_;(first|exact cM _ _|exact br.drew);rintro e L ⟨rfl,g⟩;have u:Hid (Below (z (B q)) q L):=⟨g.os,g.tape,g.output,g.size,g.block⟩;obtain⟨u0,u1,u2,u3,u4⟩:=ZO.out _ u.out;have hsz1:ZT<z (B L):=lj O u.out.size;clear g))
                  |fail
                all_goals
                  go_simp;cases c
                  all_goals
                    go_wp2;first
                      |exact⟨⟨k+1,by omega,by go_num,HX.out.trans (by rw[D.out];simp),B6.out.trans (u.out.mono B6.out.size)⟩,by simp[intOf];omega⟩
                      | (go_ret2
                         have ZQ:=ZR.out (by rw[D.out];simp)
                         exact⟨by rw[ZQ.1,ZQ.2];rfl,R6.out.trans (u.out.mono R6.out.size)⟩)
          · obtain rfl:k=(f i).f:=by omega
            have Hj:=ae (show hasB n0 f0 n1 f1 (f i)=ZA from HN.out);have n9:Hid (dq n0 f0 n1 f1 f i=codeF f i):=by show _=_;rw[ph.out,eT (by rw[HQ.out];simp),eT (by rw[Hj.out];simp)]
            have B5:=ae (B4.out.trans (l.out.mono B4.out.size));by_cases M:(f i).L=3
            · have Hm:=ae M;have ZN:Hid (dq n0 f0 n1 f1 f i=fP f i):=by show _=_;rw[n9.out];unfold codeF;rw[j6 M]
              rw[M] at Fk;clear M n9;go_wp2_with fail;refine(zW b off n cap f i _ (by omega) Hf.out G Hm.out (Hl.out.aa l.out ly) (HZ.out i G)).mono ?_;rintro e w6 ⟨rfl,g⟩;have B7:=ae (B5.out.trans (g.mono B5.out.size));have R7:=ae (R5.out.trans (g.mono R5.out.size));clear g;obtain⟨C,hC⟩:∃C,C=fP f i:=⟨_,rfl⟩
              rw[<-hC];rw[<-hC] at ZN;clear hC;by_cases hc:C=0
              · subst hc;go_wp2
                exact⟨⟨i+1,by omega,by go_num,λj hj=>by
                  by_cases e:j=i;{subst e;exact ZN.out}
                  · exact HD.out j (by omega),B7.out⟩,by simp[intOf];omega⟩
              · have Hg:(C == 0)=ZA:=by simpa using hc
                have ZR:Hid (C=ZP/\(i:Int)=K):=by have h:=iP G HD.out (by rw[ZN.out];exact hc);rw[HG.out,ZN.out] at h;simp only[KH] at h;exact⟨h.1.symm,h.2.symm⟩
                go_wp2;go_ret2;exact⟨by rw[ZR.out.1,ZR.out.2];rfl,R7.out⟩
            · have ZN:Hid (dq n0 f0 n1 f1 f i=0):=by show _=_;rw[n9.out];unfold codeF;rw[eT M]
              have hk2:((f i).L == 3)=ZA:=by simpa using M
              go_wp2
              exact⟨⟨i+1,by omega,by go_num,λj hj=>by
                  by_cases e:j=i;{subst e;exact ZN.out}
                  · exact HD.out j (by omega),B5.out⟩,by simp[intOf];omega⟩
