import Derived.Test.YtpmnbjkjpnclaaaGreatDoorLX
import Derived.Test.YtpmnbjkjpnclaaaGreatDoorMS
import Derived.Test.YtpmnbjkjpnclaaaGreatDoorLW
import Derived.Test.YtpmnbjkjpnclaaaGreatDoorLH
import Derived.Deep.RegionHeld3
set_option maxRecDepth 100000
set_option maxHeartbeats 8000000
open Go renaming Addr.mk->N,Value.slice->Y,Value.string->U,Value.int->Q,Value.bool->ZC,Value.agg->ZG,Obj.cells->J,IntKind.i64->I,World->M,Ending.returned->ZD,World.heap->z,World.cell?->A
open Option renaming none->Z,some->T
open Bool renaming false->ZA,true->ZF
open Array renaming size->B
namespace Go.Proofs.YtpmnbjkjpnclaaaGreatDoor.Vp
open RowKit
theorem mD {g:Nat->ByteArray}{n:Nat}{t:ByteArray}{r s:Int}(f:aP g n=ZF)(h1:PlaceOf g n t r)(h2:PlaceOf g n t s):r=s:=by
 rcases h1 with ⟨rfl,h1⟩|⟨i,rfl,hi,h1⟩
 ·rcases h2 with ⟨rfl,h2⟩|⟨j,rfl,b,h2⟩
  {rfl};{rw[dM b h2] at h1;cases h1}
 ·rcases h2 with ⟨rfl,h2⟩|⟨j,rfl,b,h2⟩
  {rw[dM hi h1] at h2;cases h2};{rw[asc_one f hi b h1 h2]}
theorem lO (g:Nat->ByteArray)(n:Nat)(t:ByteArray):∃r,PlaceOf g n t r:=by
 cases h:aF g n t with
 |false=>exact⟨-1,.inl ⟨rfl,h⟩⟩
 |true =>obtain⟨k,b,h1⟩:=rC h;exact⟨k,.inr ⟨k,rfl,b,h1⟩⟩
theorem uI (a0:Option Addr)(n0 c0:Nat)(a1:Option Addr)(n1 c1:Nat)(f0:Nat->Source)(t:ByteArray)(S:Int)(w:M)(hn0:(n0:Int)<=1048576)(b:SlSource w a0 n0 f0)(h:aP (nm0 f0) n0=ZF)(j:PlaceOf (nm0 f0) n0 t S):Calls Tryz.prog 51 #[ZG #[Y a0 n0 c0,Y a1 n1 c1],U t] w λe i=>e=ZD (Q I S)/\Below (B (z w)) w i :=
 (jx a0 n0 c0 a1 n1 c1 f0 t w hn0 b).mono λ_ _ ⟨_,f,g,hb⟩=>⟨by rw[f,mD h g j],hb⟩
theorem uJ (a0:Option Addr)(n0 c0:Nat)(a1:Option Addr)(n1 c1:Nat)(f1:Nat->Target)(t:ByteArray)(S:Int)(w:M)(hn1:(n1:Int)<=1048576)(b:SlTarget w a1 n1 f1)(h:aP (nm1 f1) n1=ZF)(j:PlaceOf (nm1 f1) n1 t S):Calls Tryz.prog 52 #[ZG #[Y a0 n0 c0,Y a1 n1 c1],U t] w λe i=>e=ZD (Q I S)/\Below (B (z w)) w i :=
 (jw a0 n0 c0 a1 n1 c1 f1 t w hn1 b).mono λ_ _ ⟨_,f,g,hb⟩=>⟨by rw[f,mD h g j],hb⟩
theorem qZ (a:Option Addr)(n cap:Nat)(f:Nat->aj)(o:Option Addr)(n0 x:Nat)(f0:Nat->Source)(m:Option Addr)(n1 y:Nat)(f1:Nat->Target)(w:M)(hn:(n:Int)<=1048576)(hn0:(n0:Int)<=1048576)(hn1:(n1:Int)<=1048576)(hv:SlDeed w a n f)(ph:∀i,i<n->dQ (f i))(FK:∀i,i<n->eQ (f i))(Fk:SlSource w o n0 f0)(DS:SlTarget w m n1 f1)(FP:∀i,i<n1->aY (f1 i))(FO:∀i,i<n1->∀j,j<(f1 i).m->((f1 i).D j).s.size<=maxLen):Calls Tryz.prog 11 #[ZG #[Y a n cap],ZG #[Y o n0 x,Y m n1 y]] w λe w'=>e=ZD (.tuple #[Q I (js n0 f0 n1 f1 f n).1,Q I (js n0 f0 n1 f1 f n).2])/\Below (B (z w)) w w':=by
  have HV:=ae hv;have HM:=ae ph;have HZ:=ae FK;have ro:=ae Fk;have n8:=ae DS;have CD:=ae FP;have F3:=ae FO;clear hv ph FK Fk DS FP FO;have A0:=ae (((BS w).alloc ly (J #[Y a n cap] 37)).alloc (by simp) (J #[Y o n0 x,Y m n1 y] 27));have X0:=ae (xK w (Y a n cap) (Y o n0 x) (Y m n1 y) 37 27);obtain⟨L,ZO,hT⟩:∃L ZO,js n0 f0 n1 f1 f n=(L,ZO):=⟨_,_,rfl⟩
  rw[hT];have HE:=ae (show(if bK f n=ZF then (if be n0 f0 n1 f1=0 then fU (fc n0 f0 n1 f1 f) n else (1,0)) else (1,0))=(L,ZO) from hT);clear hT;go_enter Tryz.func11,Tryz.ntmps11;go_wp2_with fail;generalize World.alloc (World.alloc w _) _=W at A0 X0 ⊢;refine(rR a n cap f _ hn (HV.out.aa A0.out ly) HM.out HZ.out).mono ?_;rintro e w1 ⟨rfl,g⟩;have B1:=ae (A0.out.trans (g.mono A0.out.size));have X1:=ae (X0.out.aa g X0.out.lt);clear g A0 X0;have HO:=ae (λh:bK f n=ZF=>(⟨fx h,h⟩:(1<=n/\n<=400/\aK (bc f) n=-1)/\bK f n=ZF));obtain⟨r,hr⟩:∃r,r=bK f n:=⟨_,rfl⟩
  rw[<-hr] at HE ⊢;have DQ:=ae hr;clear hr;obtain⟨ZJ,ZK,ZN,P⟩:=X1.out;cases r with
  |false =>
    obtain⟨rfl,rfl⟩:(1:Int)=L/\(0:Int)=ZO:=by have:=HE.out;simpa using this
    go_wp2;go_ret2;exact⟨rfl,B1.out⟩
  |true =>
    have HF:=ae (show(if be n0 f0 n1 f1=0 then fU (fc n0 f0 n1 f1 f) n else (1,0))=(L,ZO) by have:=HE.out;simpa using this);obtain⟨⟨hn1',hn4,-⟩,qr⟩:=HO.out DQ.out.symm;have FY:=ae qr;clear HE HO qr DQ;obtain⟨b,off,rfl,n9⟩:=HV.out.resolve_left (by omega);have HR:=ae n9;clear HV n9;go_wp2_with fail;refine(dK o n0 x f0 m n1 y f1 _ hn0 hn1 (ro.out.aa B1.out ly) (n8.out.aa B1.out ly) CD.out F3.out).mono ?_;rintro e w2 ⟨rfl,g⟩;have B2:=ae (B1.out.trans (g.mono B1.out.size));have X2:=ae (X1.out.aa g X1.out.lt);clear g X1 ZJ ZK ZN P;have FV:=ae (λh:be n0 f0 n1 f1=0=>pO h);obtain⟨c,hc⟩:∃c,c=be n0 f0 n1 f1:=⟨_,rfl⟩
    rw[<-hc] at HF ⊢;have FX:=ae hc;clear hc;by_cases sm:c=0;case neg =>
      obtain⟨rfl,rfl⟩:(1:Int)=L/\(0:Int)=ZO:=by have:=HF.out;simpa[sm] using this
      have Gc:(c == 0)=ZA:=by simpa using sm
      go_wp2;go_ret2;exact⟨rfl,B2.out⟩
    subst sm;have HG:=ae (show fU (fc n0 f0 n1 f1 f) n=(L,ZO) by have:=HF.out;simpa using this);obtain⟨fd,ld,hfew⟩:=FV.out FX.out.symm;have FU:=ae fd;have Fm:=ae ld;clear HF FV FX fd ld;go_wp2;go_loopw [6] (λv wr=>∃i:Nat,i<=n/\v=Q I i/\Hid (∀j,j<i->fc n0 f0 n1 f1 f j=0)/\Hid (Below (B (z w2)) w2 wr)) (λi _=>n - (intOf i).toNat);case atStart=>exact⟨0,by omega,rfl,λj hj=>absurd hj (JI _),cM _ _⟩
    case round =>
      obtain⟨i,hin,rfl,HD,HB⟩:=hrel;have X3:=ae (X2.out.aa HB.out X2.out.lt);have R2:=ae (B2.out.trans (HB.out.mono B2.out.size));obtain⟨ZJ,ZK,ZN,P⟩:=X3.out;by_cases G:i<n;case neg =>
        obtain rfl:i=n:=by omega
        have h:=qp HD.out;rw[HG.out] at h;simp only[JL] at h;obtain⟨rfl,rfl⟩:=h;go_wp2;go_ret2;exact⟨rfl,R2.out⟩
      have hlt2:(i:Int)<n:=by omega
      have ZI:=HR.out.aa R2.out ly;have FW:=ae ZI;obtain⟨o0,o1,o2,o3,⟨a0,H,o4,q4⟩,⟨a1,ZR,o5,q5⟩⟩:=ZI.2 i G;have QI:=ae (show SlIns wr a0 (f i).m (f i).D/\SlLink wr a1 (f i).l (f i).u from⟨q4,q5⟩);clear ZI q4 q5;have R:=ae ((BS wr).alloc ly (J #[U (f i).e,Q I (f i).H,Q I (f i).E,U (f i).y,Y a0 (f i).m H,Y a1 (f i).l ZR] 46));have e1:(wr.alloc (J #[U (f i).e,Q I (f i).H,Q I (f i).E,U (f i).y,Y a0 (f i).m H,Y a1 (f i).l ZR] 46)).cell? (N (B (z wr)) 1 Z)=T (Q I (f i).H):=by simp
      have e5:(wr.alloc (J #[U (f i).e,Q I (f i).H,Q I (f i).E,U (f i).y,Y a0 (f i).m H,Y a1 (f i).l ZR] 46)).cell? (N (B (z wr)) 5 Z)=T (Y a1 (f i).l ZR):=by simp
      have bt:B (z wr)<(wr.alloc (J #[U (f i).e,Q I (f i).H,Q I (f i).E,U (f i).y,Y a0 (f i).m H,Y a1 (f i).l ZR] 46)).heap.size:=by simp
      go_wp2_with fail;clear o0 o1 o2 o3 o4 o5;generalize World.alloc wr _=WD at R e1 e5 bt ⊢;have R3:=ae (R2.out.trans (R.out.mono R2.out.size));have B3:=ae (HB.out.trans (R.out.mono HB.out.size));refine(xQ (f i) a0 H a1 ZR o n0 x f0 m n1 y f1 _ hn0 hn1 (ro.out.aa R3.out ly) (n8.out.aa R3.out ly) FU.out Fm.out (QI.out.1.aa R.out ly) (HM.out i G).1 CD.out).mono ?_;rintro e w4 ⟨rfl,g⟩;have X4:=ae ((X3.out.aa R.out X3.out.lt).aa g (by have:=X3.out.lt;have:=R.out.size;omega));have R4:=ae (R3.out.trans (g.mono R3.out.size));have B4:=ae (B3.out.trans (g.mono B3.out.size));have D4:=ae (R.out.trans (g.mono R.out.size));have g1:=(g.cell (p:=(N (B (z wr)) 1 Z)) bt).trans e1;have g5:=(g.cell (p:=(N (B (z wr)) 5 Z)) bt).trans e5;have ex:B (z wr)<B (z w4):=lj bt g.size;have ur:=ae (show fc n0 f0 n1 f1 f i=if mJ n0 f0 n1 f1 (f i)=ZF then 2 else if hasB n0 f0 n1 f1 (f i)=ZF then 3 else codeF f i from rfl);clear g R R3 B3 e1 e5 bt ZJ ZK ZN P X3;obtain⟨ZJ,ZK,ZN,P⟩:=X4.out;cases hq:mJ n0 f0 n1 f1 (f i) with
      |true =>
        have ZS:Hid ((2:Int)=L/\(i:Int)=ZO):=by
          have aq:fc n0 f0 n1 f1 f i=2:=by rw[ur.out,nL hq]
          have h:=ke G HD.out (by rw[aq];decide);rw[HG.out,aq] at h;simp only[JL] at h;exact⟨h.1.symm,h.2.symm⟩
        go_wp2;go_ret2;exact⟨by rw[ZS.out.1,ZS.out.2];rfl,R4.out⟩
      |false =>
        have HQ:=ae hq;have QJ:=ae (And.intro (QI.out.1.aa D4.out ly) (QI.out.2.aa D4.out ly));have F8:=ae (FW.out.aa D4.out ly);have hll:=(HM.out i G).2;clear hq QI FW D4 HB R2 ZK ZN P ZJ;generalize (B (z wr))=gd at g1 g5 ex ⊢;obtain⟨ZJ,ZK,ZN,P⟩:=X4.out;go_wp2;go_loopw [8] (λv w5=>∃k:Nat,k<=(f i).l/\v=Q I k/\Hid (aM (λk=>gU n0 f0 n1 f1 ((f i).u k)) k=ZA)/\Hid (Below (B (z w4)) w4 w5)) (λk _=>(f i).l - (intOf k).toNat);case atStart=>exact⟨0,by omega,rfl,rfl,cM _ _⟩
        case round =>
          obtain⟨k,hk,rfl,HN,l⟩:=hrel;have X5:=ae (X4.out.aa l.out X4.out.lt);have R5:=ae (R4.out.trans (l.out.mono R4.out.size));have Fd:=(l.out.cell (p:=(N gd 1 Z)) ex).trans g1;have Gb:=(l.out.cell (p:=(N gd 5 Z)) ex).trans g5;have hgz':gd<B (z wr):=lj ex l.out.size;clear ZJ ZK ZN P;obtain⟨ZJ,ZK,ZN,P⟩:=X5.out;by_cases hlk:k<(f i).l
          · have hlk2:(k:Int)<(f i).l:=by omega
            obtain⟨lb,lo,F0,FM⟩:=(QJ.out.2.aa l.out ly).resolve_left (by omega);subst F0;obtain⟨p0,p1,p2,p3⟩:=FM.2 k hlk;clear FM;have HX:=ae (show aM (λk=>gU n0 f0 n1 f1 ((f i).u k)) (k+1)=gU n0 f0 n1 f1 ((f i).u k) by rw[aM,HN.out];rfl);have HY:=ae (λh:gU n0 f0 n1 f1 ((f i).u k)=ZF=>show hasB n0 f0 n1 f1 (f i)=ZF from dy (p:=λk=>gU n0 f0 n1 f1 ((f i).u k)) hlk h);generalize (f i).u k=X at p0 p1 p2 p3 HX HY;obtain⟨S,hS⟩:=lO (nm0 f0) n0 X.e;obtain⟨ZL,hT⟩:=lO (nm1 f1) n1 X.e;have mv:=ae (show gU n0 f0 n1 f1 X=(!X.ask && !(X.has == (decide (0<=S) || decide (0<=ZL)))) by unfold gU mI;rw[hS.has,hT.has]);have PS:=ae hS;have PT:=ae hT;have F7:=ae (show(S=-1∨∃s:Nat,S=s)/\(ZL=-1∨∃t:Nat,ZL=t) from⟨hS.elim (λh=>.inl h.1) (λ⟨k,h,_⟩=>.inr ⟨k,h⟩),hT.elim (λh=>.inl h.1) (λ⟨k,h,_⟩=>.inr ⟨k,h⟩)⟩);clear hS hT;cases hask:X.ask with
            |true =>
              have Bk:gU n0 f0 n1 f1 X=ZA:=by rw[mv.out,hask];rfl
              have Ga:=ae (HX.out.trans Bk);have BL:=ae (l.out.alloc l.out.size (J #[U X.e,ZC ZF,ZC X.has,Q I X.G] 91));rw[hask] at p1;clear Bk HX HY mv PS PT;go_wp2_with fail;go_quiet (fail);have BQ:=ae (E9 BL.out nq);go_wp2;exact⟨⟨k+1,by omega,by go_num,Ga.out,BQ.out⟩,by simp[intOf];omega⟩
            |false =>
              obtain⟨c,At⟩:∃c,c=X.has:=⟨_,rfl⟩
              obtain⟨nm,FQ⟩:∃nm,nm=X.e:=⟨_,rfl⟩
              have D:Hid (gU n0 f0 n1 f1 X=!(c == (decide (0<=S) || decide (0<=ZL)))):=by show _=_;rw[mv.out,hask,At];rfl
              rw[hask] at p1;rw[<-At] at p2;rw[<-FQ] at p0 PS PT;have D6:=ae ((BS wr).alloc ly (J #[U nm,ZC ZA,ZC c,Q I X.G] 91));have m0:(wr.alloc (J #[U nm,ZC ZA,ZC c,Q I X.G] 91)).cell? (N (B (z wr)) 0 Z)=T (U nm):=by simp
              have m1:(wr.alloc (J #[U nm,ZC ZA,ZC c,Q I X.G] 91)).cell? (N (B (z wr)) 1 Z)=T (ZC ZA):=by simp
              have m2:(wr.alloc (J #[U nm,ZC ZA,ZC c,Q I X.G] 91)).cell? (N (B (z wr)) 2 Z)=T (ZC c):=by simp
              have ZQ:B (z wr)<(wr.alloc (J #[U nm,ZC ZA,ZC c,Q I X.G] 91)).heap.size:=by simp
              clear At FQ hask mv;go_wp2_with fail;have X6:=ae (X5.out.aa D6.out X5.out.lt);clear p0 p1 p2 p3 Fd Gb ZJ ZK ZN P;generalize World.alloc wr _=q at D6 m0 m1 m2 ZQ X6 ⊢;have B6:=ae (l.out.trans (D6.out.mono l.out.size));have R6:=ae (R5.out.trans (D6.out.mono R5.out.size));have CS:=ae (λV (g:Below (B (z q)) q V)=>uI o n0 x m n1 y f0 nm S V hn0 ((ro.out.aa R6.out ly).aa g ly) FU.out PS.out);have CT:=ae (λV (g:Below (B (z q)) q V)=>uJ o n0 x m n1 y f1 nm ZL V hn1 ((n8.out.aa R6.out ly).aa g ly) Fm.out PT.out);generalize (B (z wr))=ZT at m0 m1 m2 ZQ ⊢;clear D6 PS PT X5 R5
              have ZS:=ae (λh:gU n0 f0 n1 f1 X=ZF=>(show(3:Int)=L/\(i:Int)=ZO by
                have aq:fc n0 f0 n1 f1 f i=3:=by rw[ur.out,eT (by rw[HQ.out];simp),nL (HY.out h)]
                have h:=ke G HD.out (by rw[aq];decide);rw[HG.out,aq] at h;simp only[JL] at h
                exact⟨h.1.symm,h.2.symm⟩))
              have K:=ae (λV (g:Below (B (z q)) q V)=>(show A V (N ZT 0 Z)=T (U nm)/\A V (N ZT 1 Z)=T (ZC ZA)/\A V (N ZT 2 Z)=T (ZC c)/\A V (N (B (z w)+1) 0 Z)=T (Y o n0 x)/\A V (N (B (z w)+1) 1 Z)=T (Y m n1 y) from⟨(g.cell (p:=(N ZT 0 Z)) ZQ).trans m0,(g.cell (p:=(N ZT 1 Z)) ZQ).trans m1,(g.cell (p:=(N ZT 2 Z)) ZQ).trans m2,(X6.out.aa g X6.out.lt).c1,(X6.out.aa g X6.out.lt).c2⟩));clear m0 m1 m2;have hst:(S=-1∨∃s:Nat,S=s)/\(ZL=-1∨∃t:Nat,ZL=t):=F7.out;rcases hst with ⟨rfl|⟨s,rfl⟩,DE⟩
              · rcases DE with rfl|⟨t,rfl⟩
                · go_region_held3 (λV=>A V (N ZT 0 Z)=T (U nm)/\A V (N ZT 1 Z)=T (ZC ZA)/\A V (N ZT 2 Z)=T (ZC c)/\A V (N (B (z w)+1) 0 Z)=T (Y o n0 x)/\A V (N (B (z w)+1) 1 Z)=T (Y m n1 y)) (first|exact K.out _ br|exact K.out _ br.drew|exact K.out _ u.out|exact K.out _ BT.out)
                    (first
                    |(go_at_call 51;refine(CS.out _ ?_).mono ?_;(first|exact cM _ _|exact br.drew);rintro e ZP ⟨rfl,g⟩;have u:Hid (Below (B (z q)) q ZP):=⟨g.os,g.tape,g.output,g.size,g.block⟩;clear g)
                    |(go_at_call 52;refine(CT.out _ ?_).mono ?_;(first|exact u.out|exact u.out.drew);rintro e wT ⟨rfl,g⟩;have BT:Hid (Below (B (z q)) q wT):=u.out.trans (Below.mono (⟨g.os,g.tape,g.output,g.size,g.block⟩:Below (B (z ZP)) ZP wT) u.out.size);clear g))
                  all_goals
                    go_simp;cases c
                    all_goals
                      go_wp2;first
                        |exact⟨⟨k+1,by omega,by go_num,HX.out.trans (by rw[D.out];simp),B6.out.trans (BT.out.mono B6.out.size)⟩,by simp[intOf];omega⟩
                        | (go_ret2
                           have E:=ZS.out (by rw[D.out];simp)
                           exact⟨by rw[E.1,E.2];rfl,R6.out.trans (BT.out.mono R6.out.size)⟩)
                · go_region_held3 (λV=>A V (N ZT 0 Z)=T (U nm)/\A V (N ZT 1 Z)=T (ZC ZA)/\A V (N ZT 2 Z)=T (ZC c)/\A V (N (B (z w)+1) 0 Z)=T (Y o n0 x)/\A V (N (B (z w)+1) 1 Z)=T (Y m n1 y)) (first|exact K.out _ br|exact K.out _ br.drew|exact K.out _ u.out|exact K.out _ BT.out)
                    (first
                    |(go_at_call 51;refine(CS.out _ ?_).mono ?_;(first|exact cM _ _|exact br.drew);rintro e ZP ⟨rfl,g⟩;have u:Hid (Below (B (z q)) q ZP):=⟨g.os,g.tape,g.output,g.size,g.block⟩;clear g)
                    |(go_at_call 52;refine(CT.out _ ?_).mono ?_;(first|exact u.out|exact u.out.drew);rintro e wT ⟨rfl,g⟩;have BT:Hid (Below (B (z q)) q wT):=u.out.trans (Below.mono (⟨g.os,g.tape,g.output,g.size,g.block⟩:Below (B (z ZP)) ZP wT) u.out.size);clear g))
                  all_goals
                    go_simp;cases c
                    all_goals
                      go_wp2;first
                        |exact⟨⟨k+1,by omega,by go_num,HX.out.trans (by rw[D.out];simp),B6.out.trans (BT.out.mono B6.out.size)⟩,by simp[intOf];omega⟩
                        | (go_ret2
                           have E:=ZS.out (by rw[D.out];simp)
                           exact⟨by rw[E.1,E.2];rfl,R6.out.trans (BT.out.mono R6.out.size)⟩)
              · clear CT DE;obtain⟨z0,z1,z2,z3,z4⟩:=K.out _ br;first
                  | go_region_with (first
                    |(go_at_call 51;refine(CS.out _ ?_).mono ?_;(first|exact cM _ _|exact br.drew);rintro e ZP ⟨rfl,g⟩;have u:Hid (Below (B (z q)) q ZP):=⟨g.os,g.tape,g.output,g.size,g.block⟩;obtain⟨u0,u1,u2,u3,u4⟩:=K.out _ u.out;have hsz1:ZT<B (z ZP):=lj ZQ u.out.size;clear g))
                  |fail
                all_goals
                  go_simp;cases c
                  all_goals
                    go_wp2;first
                      |exact⟨⟨k+1,by omega,by go_num,HX.out.trans (by rw[D.out];simp),B6.out.trans (u.out.mono B6.out.size)⟩,by simp[intOf];omega⟩
                      | (go_ret2
                         have E:=ZS.out (by rw[D.out];simp)
                         exact⟨by rw[E.1,E.2];rfl,R6.out.trans (u.out.mono R6.out.size)⟩)
          · obtain rfl:k=(f i).l:=by omega
            have FZ:=ae (show hasB n0 f0 n1 f1 (f i)=ZA from HN.out);have th:Hid (fc n0 f0 n1 f1 f i=codeF f i):=by show _=_;rw[ur.out,eT (by rw[HQ.out];simp),eT (by rw[FZ.out];simp)]
            have B5:=ae (B4.out.trans (l.out.mono B4.out.size));by_cases O:(f i).H=3
            · have F9:=ae O;have ZM:Hid (fc n0 f0 n1 f1 f i=gD f i):=by show _=_;rw[th.out];unfold codeF;rw[nL O]
              rw[O] at Fd;clear O th;go_wp2_with fail;refine(yr b off n cap f i _ (by omega) FY.out G F9.out (F8.out.aa l.out ly) (HZ.out i G)).mono ?_;rintro e w6 ⟨rfl,g⟩;have B7:=ae (B5.out.trans (g.mono B5.out.size));have R7:=ae (R5.out.trans (g.mono R5.out.size));clear g;obtain⟨C,hC⟩:∃C,C=gD f i:=⟨_,rfl⟩
              rw[<-hC];rw[<-hC] at ZM;clear hC;by_cases hc:C=0
              · subst hc;go_wp2
                exact⟨⟨i+1,by omega,by go_num,λj hj=>by
                  by_cases e:j=i;{subst e;exact ZM.out}
                  · exact HD.out j (by omega),B7.out⟩,by simp[intOf];omega⟩
              · have Gc:(C == 0)=ZA:=by simpa using hc
                have ZS:Hid (C=L/\(i:Int)=ZO):=by have h:=ke G HD.out (by rw[ZM.out];exact hc);rw[HG.out,ZM.out] at h;simp only[JL] at h;exact⟨h.1.symm,h.2.symm⟩
                go_wp2;go_ret2;exact⟨by rw[ZS.out.1,ZS.out.2];rfl,R7.out⟩
            · have ZM:Hid (fc n0 f0 n1 f1 f i=0):=by show _=_;rw[th.out];unfold codeF;rw[eT O]
              have hk2:((f i).H == 3)=ZA:=by simpa using O
              go_wp2
              exact⟨⟨i+1,by omega,by go_num,λj hj=>by
                  by_cases e:j=i;{subst e;exact ZM.out}
                  · exact HD.out j (by omega),B5.out⟩,by simp[intOf];omega⟩
