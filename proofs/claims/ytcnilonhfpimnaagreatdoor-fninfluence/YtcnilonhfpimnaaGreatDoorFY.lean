import Derived.Test.YtcnilonhfpimnaaGreatDoorFW
import Derived.Deep.CutBlock
set_option linter.all false
set_option maxRecDepth 1000000
set_option maxHeartbeats 8000000
open Go renaming Addr.mk->T,Value.slice->Y,Value.string->U,Value.int->J,Value.bool->ZF,Value.agg->ZJ,Obj.cells->N,IntKind.i64->I,World->E,Value->ZB,TypeId->ZK,Ending.returned->ZI,World.heap->z,World.ownsRow->ZX,World.alloc->ZV,World.cell?->ZW,World.setCell->ZU,Proofs.Tryz.prog->Pg,Calls->Qw
open Option renaming none->Z,some->Q
open Bool renaming false->ZA,true->ZH
open Array renaming size->A
open List renaming length->B
namespace Go.Proofs.YtcnilonhfpimnaaGreatDoor.Vp
open Tryz RowKit
variable {p n g zd v_ x_:Nat}{w:E}{f:Nat->au}{b s:List F_}{y:Nat->aD}{e:ZK}
def zP (pb po yh fd zd v_ x_:Nat)(f:Nat->Ins)(a:O_)(s:List F_)(j_ b2 o2 n JK At:Nat)(y:Nat->aD)(w:E)
  (hP:Q_ w pb po yh f) (hY:RowReply w b2 o2 n y) (hO:ZX w At 9 1 (Y a (B s) j_) (B s) (strs s)) (hp:zd<=2000) (hst:v_<=2000) (hlk:x_<=200) (hs:B s<=50) (JX:∀x∈s,x.size<=2000) (JT:dn f yh=ZH) :
  Qw Pg 104 #[ZJ #[Y (Q (T pb po Z)) yh fd],ec zd (Y a (B s) j_) v_ x_ ZA 0 ⟨#[]⟩ ZA ⟨#[]⟩ ZA,Y (Q (T b2 o2 Z)) n JK] w λe w'=>∃v,e=ZI v/\SoIs w' (A (z w)) v (gn f yh y n zd v_ x_ s)/\Below (A (z w)) w w':=by
 obtain⟨so,la⟩:∃so,so=gn f yh y n zd v_ x_ s:=⟨_,rfl⟩
 rw[<-la];have S0:=ae la;clear la;have HP:=ae hP;have HY:=ae hY;have HO:=ae hO;have HK:=ae JT;have HL:=ae JX;clear hP hY hO JT JX;have A0:=ae ((((BS w).alloc ly (N #[Y (Q (T pb po Z)) yh fd] 37)).alloc (by simp) (N #[J I zd,Y a (B s) j_,J I v_,J I x_,ZF ZA,J I 0,U ⟨#[]⟩,ZF ZA,U ⟨#[]⟩,ZF ZA] 170)).alloc (by simp<;>omega) (N #[J I 0,Y Z 0 0,J I 0,J I 0,ZF ZA,J I 0,U ⟨#[]⟩,ZF ZA,U ⟨#[]⟩,ZF ZA] 170));have R0:=ae ((lp (ZV w (N #[Y (Q (T pb po Z)) yh fd] 37)) (J I zd) (Y a (B s) j_) (J I v_) (J I x_) (ZF ZA) (J I 0) (U ⟨#[]⟩) (ZF ZA) (U ⟨#[]⟩) (ZF ZA) 170 (A (z w)+1) (by simp)).al (N #[J I 0,Y Z 0 0,J I 0,J I 0,ZF ZA,J I 0,U ⟨#[]⟩,ZF ZA,U ⟨#[]⟩,ZF ZA] 170));have Z0:=ae (lp (ZV (ZV w (N #[Y (Q (T pb po Z)) yh fd] 37)) (N #[J I zd,Y a (B s) j_,J I v_,J I x_,ZF ZA,J I 0,U ⟨#[]⟩,ZF ZA,U ⟨#[]⟩,ZF ZA] 170)) (J I 0) (Y Z 0 0) (J I 0) (J I 0) (ZF ZA) (J I 0) (U ⟨#[]⟩) (ZF ZA) (U ⟨#[]⟩) (ZF ZA) 170 (A (z w)+1+1) (by simp));go_enter func104,ntmps104;go_wp2_with fail;refine(sA zd (by omega) _).P ?_;rintro e l⟨rfl,aq⟩;have hD:(⟨(Lib.decDigits zd).toArray⟩:F_)=dV zd:=rfl;rw[hD];have R1:=ae (R0.aa aq (by simp<;>omega));have Z1:=ae (Z0.aa aq (by simp<;>omega));have B1:=ae (A0.k (aq.P (by simp<;>omega)));have pP:ZW l (T (A (z w)) 0 Z)=Q (Y (Q (T pb po Z)) yh fd):=(aq.O (p:=(T (A (z w)) 0 Z)) (by simp<;>omega)).k (IW _ _ _ _ _ _ _ rfl);have O1:=ae (J_ HO B1 ly);have hz1:A (z w)+1+1<A (z l):=Z1.1;have hz0:A (z w)<A (z l):=by omega
 have hz01:A (z w)+1<A (z l):=by omega
 clear aq A0 R0 Z0 hD;obtain⟨m,⟨c0,f0⟩,⟨c1,f1⟩,⟨c2,ZL⟩,⟨c3,ZO⟩,⟨c4,X⟩,⟨c5,V⟩,⟨c6,ZM⟩,⟨c7,ZN⟩,⟨L,S⟩,ZP,P⟩:=R1.i;rcases Int.lt_or_le (zd:Int) yh with h1|h1;rotate_left;{have S1:Hid (so=.inr (.inl (2,(dV zd),v_))):=S0.k (show gn f yh y n zd v_ x_ s=.inr (.inl (2,(dV zd),v_)) by have h:yh<=zd:=(by omega);simp[gn,iE,bQ,cU,h]);go_wp2_with fail;refine(fN _ _ _ _ _ _ _ _ _ _ _ _ _ _ _).P ?_;rintro e w5⟨rfl,b⟩;have R:=ae (Z1.aa b Z1.1);have D:=ae (B1.k (b.P B1.size));clear b;clear m c0 f0 c1 f1 c2 ZL c3 ZO c4 X c5 V c6 ZM c7 ZN L S ZP P;obtain⟨mv,⟨z0,y0⟩,⟨z1,y1⟩,⟨z2,y2⟩,⟨z3,y3⟩,⟨ZR,y4⟩,⟨O,y5⟩,⟨K,y6⟩,⟨G,y7⟩,⟨H,y8⟩,ZS,y9⟩:=R.i;go_wp2;refine bp (v:=ec zd (Y a (B s) j_) v_ x_ ZH 2 (dV zd) ZA ⟨#[]⟩ ZA) (by simp[results,Q3,go_sem,z0,z1,z2,z3,ZR,O,K,G,H,ZS]) rfl ⟨_,rfl,(by rw[S1.i];exact⟨_,_,_,_,_,rfl⟩),dS D (by omega) _ _ _ _ _ _ _ _ _ _⟩};rcases Bool.eq_false_or_eq_true ((v_:Int) == 2000) with h2|h2;{have S1:Hid (so=.inr (.inl (3,⟨#[]⟩,v_))):=S0.k (show gn f yh y n zd v_ x_ s=.inr (.inl (3,⟨#[]⟩,v_)) by have h:¬ yh<=zd:=(by omega);have e:v_=2000:=(by simp at h2;omega);simp[gn,iE,bQ,cU,h,e]);go_wp2_with fail;refine(fN _ _ _ _ _ _ _ _ _ _ _ _ _ _ _).P ?_;rintro e w5⟨rfl,b⟩;have R:=ae (Z1.aa b Z1.1);have D:=ae (B1.k (b.P B1.size));clear b;clear m c0 f0 c1 f1 c2 ZL c3 ZO c4 X c5 V c6 ZM c7 ZN L S ZP P;obtain⟨mv,⟨z0,y0⟩,⟨z1,y1⟩,⟨z2,y2⟩,⟨z3,y3⟩,⟨ZR,y4⟩,⟨O,y5⟩,⟨K,y6⟩,⟨G,y7⟩,⟨H,y8⟩,ZS,y9⟩:=R.i;go_wp2;refine bp (v:=ec zd (Y a (B s) j_) v_ x_ ZH 3 ⟨#[]⟩ ZA ⟨#[]⟩ ZA) (by simp[results,Q3,go_sem,z0,z1,z2,z3,ZR,O,K,G,H,ZS]) rfl ⟨_,rfl,(by rw[S1.i];exact⟨_,_,_,_,_,rfl⟩),dS D (by omega) _ _ _ _ _ _ _ _ _ _⟩};have hi:=j7 HK.i (show zd<yh by omega);simp only[cL,nD] at hi;obtain⟨op,GS⟩:=p9 (show 0<=(f zd).op by omega);obtain⟨k,hk⟩:=p9 hi.2.2.2.1;have Kh:dX (f zd).op<=2000:=by unfold dX;split<;>(try split)<;>omega
 have J4:bW (f zd).op<=2000:=by unfold bW;split<;>omega
 have J8:k<=2000:=by omega
 have J7:(f zd).s.size<=2000:=by omega
 have ur:1<=op:=by omega
 have JO:op<=15:=by omega
 have EP:Hid (so=if fg op s=ZA then .inr (.inl (2,(dV zd),(v_+1))) else iE y n zd (v_+1) x_ (cK op k (f zd).s zd x_ s)):=by
  show _=_;rw[S0.i];have q1:¬ yh<=zd:=by omega
  have q2:¬ v_=2000:=by simp at h2;omega
  simp only[gn,bQ,cU,q1,q2,UI,GS,hk,Int.toNat_natCast];split<;>rfl
 clear hi Kh J4 HK;obtain⟨d0,d1,d2⟩:=(HP.aa B1 ly).2 zd (by omega);rw[GS] at d0;rw[hk] at d2;have hpb:pb<A (z w):=HP.1;have Kp:=(K_ l (T (A (z w)+1) 2 Z) (T pb (po+zd*3) Z) (J I ((v_:Int)+1)) (by simp;omega)).k d0;have Kg:=(K_ l (T (A (z w)+1) 2 Z) (T pb (po+zd*3+1) Z) (J I ((v_:Int)+1)) (by simp;omega)).k d1;have Ko:=(K_ l (T (A (z w)+1) 2 Z) (T pb (po+zd*3+2) Z) (J I ((v_:Int)+1)) (by simp;omega)).k d2;have JN:∀j,A (z w)<=j->Value.ownBlock (Y a (B s) j_)≠Q j:=λj hj e=>by have:=(HO.lt j e).2;omega
 have R2:=ae ((R1.set2 (J I ((v_:Int)+1))).al (N #[J I op,U (f zd).s,J I k] 102));have Z2:=ae ((Z1.other (T (A (z w)+1) 2 Z) (J I ((v_:Int)+1)) (by simp)).al (N #[J I op,U (f zd).s,J I k] 102));have O2:=ae ((WG O1 (a:=(T (A (z w)+1) 2 Z)) (JN _ (by simp)) (J I ((v_:Int)+1))).alloc (N #[J I op,U (f zd).s,J I k] 102));have B2:=ae ((B1.setCell (p:=(T (A (z w)+1) 2 Z)) (by simp) (J I ((v_:Int)+1))).alloc (by have:=B1.size;simpa using this) (N #[J I op,U (f zd).s,J I k] 102));have g0:ZW (ZV (ZU l (T (A (z w)+1) 2 Z) (J I ((v_:Int)+1))) (N #[J I op,U (f zd).s,J I k] 102)) (T (A (z l)) 0 Z)=Q (J I op):=kH _ _ _ _ _ _ (by simp) rfl;have g1:ZW (ZV (ZU l (T (A (z w)+1) 2 Z) (J I ((v_:Int)+1))) (N #[J I op,U (f zd).s,J I k] 102)) (T (A (z l)) 1 Z)=Q (U (f zd).s):=kH _ _ _ _ _ _ (by simp) rfl;have g2:ZW (ZV (ZU l (T (A (z w)+1) 2 Z) (J I ((v_:Int)+1))) (N #[J I op,U (f zd).s,J I k] 102)) (T (A (z l)) 2 Z)=Q (J I k):=kH _ _ _ _ _ _ (by simp) rfl;have ex:A (z l)<A (z (ZV (ZU l (T (A (z w)+1) 2 Z) (J I ((v_:Int)+1))) (N #[J I op,U (f zd).s,J I k] 102))):=by simp
 clear JN;go_wp2_with fail;refine(xo op _ ur JO).P ?_;rintro e w9⟨rfl,Kc⟩;subst Kc;clear m c0 f0 c1 f1 c2 ZL c3 ZO c4 X c5 V c6 ZM c7 ZN L S ZP P;clear d0 d1 d2 Kp Kg Ko GS hk pP;generalize World.alloc (World.setCell l _ _) _=W at R2 Z2 O2 B2 g0 g1 g2 ex ⊢;obtain⟨m,⟨c0,f0⟩,⟨c1,f1⟩,⟨c2,ZL⟩,⟨c3,ZO⟩,⟨c4,X⟩,⟨c5,V⟩,⟨c6,ZM⟩,⟨c7,ZN⟩,⟨L,S⟩,ZP,P⟩:=R2.i;have hpt:=Fb op;have J9:aX op<=2:=by unfold aX;split<;>(try split)<;>omega
 by_cases hb:fg op s=ZA
 ·have S1:Hid (so=.inr (.inl (2,(dV zd),(v_+1)))):=by rw[EP.i,eT hb];rfl
  have hA:(B s:Int)<(aX op:Nat)\/¬ (B s:Int)<(aX op:Nat)/\(50:Int)<(B s:Int) - (aX op:Nat)+(bN op:Nat):=by simp only[fg,NY] at hb;omega
  clear hb EP;rcases hA with hA|⟨hA,JR⟩
  iterate 2
   ·go_wp2_with fail
    refine(fN _ _ _ _ _ _ _ _ _ _ _ _ _ _ _).P ?_;rintro e w5⟨rfl,b⟩;have R:=ae (Z2.aa b Z2.1);have D:=ae (B2.k (b.P B2.size));clear b;clear m c0 f0 c1 f1 c2 ZL c3 ZO c4 X c5 V c6 ZM c7 ZN L S ZP P;obtain⟨mv,⟨z0,y0⟩,⟨z1,y1⟩,⟨z2,y2⟩,⟨z3,y3⟩,⟨ZR,y4⟩,⟨O,y5⟩,⟨K,y6⟩,⟨G,y7⟩,⟨H,y8⟩,ZS,y9⟩:=R.i;go_wp2;refine bp (v:=ec zd (Y a (B s) j_) ((v_:Int)+1) x_ ZH 2 (dV zd) ZA ⟨#[]⟩ ZA) (by simp[results,Q3,go_sem,z0,z1,z2,z3,ZR,O,K,G,H,ZS]) rfl ⟨_,rfl,(by rw[S1.i];exact⟨_,_,_,_,_,rfl⟩),dS D (by omega) _ _ _ _ _ _ _ _ _ _⟩
 have JU:aX op<=B s/\(B s) - aX op+bN op<=50:=by simpa[fg] using hb
 have hA:¬ (B s:Int)<(aX op:Nat):=by omega
 have JR:¬ (50:Int)<(B s:Int) - (aX op:Nat)+(bN op:Nat):=by omega
 have SO:Hid (so=iE y n zd (v_+1) x_ (cK op k (f zd).s zd x_ s)):=by rw[EP.i,eI hb];rfl
 have HB:=ae JU.1;have Kj:(s.drop (aX op)).length+bN op<=50:=by rw[NN];omega
 clear hb JU EP;obtain⟨ZY,JY⟩:∃ZY,ZY=lZ op s:=⟨_,rfl⟩
 obtain⟨Z8,aq⟩:∃Z8,Z8=rI op s:=⟨_,rfl⟩
 obtain⟨r,n9⟩:∃r,r=s.drop (aX op):=⟨_,rfl⟩
 rw[<-n9] at Kj;have EA:=ae JY;have EB:=ae aq;have ER:=ae n9;clear S0 JY aq n9;go_upto_if 68 with fail;go_cut [11] (λsa M=>sa=U ZY/\W=M);case first =>
  by_cases ht:(0:Int)<(aX op:Nat)
  ·rcases s with _|⟨x,q⟩
   {exact absurd HB.i (by simp;omega)}
   ·obtain⟨g,c,e⟩:=iA O2 (by simp);obtain⟨rfl,-⟩:=T6 e;have t1:=Hl O2.i;have Kr:B q<=50:=by simp at hs;omega
    obtain rfl:ZY=x:=by rw[EA.i];unfold lZ;rw[eT (by omega)];rfl
    rw[vF] at c1;go_wp2;go_meet;exact⟨rfl,rfl⟩
  ·obtain rfl:ZY=⟨#[]⟩:=by rw[EA.i];unfold lZ;rw[eI (by omega)]
   go_wp2;go_meet;exact⟨rfl,rfl⟩
 case rest =>
 obtain⟨rfl,rfl⟩:=hcut;go_upto_if 78 with fail;go_cut [12] (λsa M=>sa=U Z8/\W=M);case first =>
  by_cases ht:(1:Int)<(aX op:Nat)
  ·rcases s with _|⟨x,_|⟨ZZ,q⟩⟩
   {exact absurd HB.i (by simp;omega)};{exact absurd HB.i (by simp;omega)}
   ·obtain⟨g,c,e⟩:=iA O2 (by simp);obtain⟨rfl,-⟩:=T6 e;obtain⟨t1,t2⟩:=Hm O2;have Kr:B q+1<=50:=by simp at hs;omega
    obtain rfl:Z8=ZZ:=by rw[EB.i];unfold rI;rw[eT (by omega)];rfl
    rw[vF,vF] at c1;go_wp2;go_meet;exact⟨rfl,rfl⟩
  ·obtain rfl:Z8=⟨#[]⟩:=by rw[EB.i];unfold rI;rw[eI (by omega)]
   go_wp2;go_meet;exact⟨rfl,rfl⟩
 case rest =>
 obtain⟨rfl,rfl⟩:=hcut;have hl:B s=B r+aX op:=by rw[ER.i,NN];have:=HB.i;omega
 go_upto_region 17 with fail;go_cut [13] (λsr M=>∃gr cr,sr=Y (Q (T gr 0 Z)) (B r) cr/\(A (z W))<=gr/\Hid (ZX M (A (z W)) 9 1 (Y (Q (T gr 0 Z)) (B r) cr) (B r) (strs r))/\Hid (Below (A (z W)) W M));case first =>
  rcases BJ O2.i with⟨rfl,hz,rfl⟩|⟨g,rfl⟩
  ·obtain rfl:s=[]:=VJ.1 hz;obtain rfl:r=[]:=by rw[ER.i];simp
   have J0:aX op=0:=by simpa using HB.i
   have h0:((aX op:Nat):Int)=0:=by rw[J0];rfl
   have hw3:-((aX op:Nat):Int)=0:=by rw[h0];decide
   have hw4:0 - ((aX op:Nat):Int)=0:=by rw[h0];decide
   clear h0 J0 hl;have AL:=ae ((BS W).alloc ly (N #[] 9));have OM:=ae (OU (base:=A (z W)) (e:=9) (size:=1) W #[] 0 ly (by unfold maxLen;omega) rfl);go_wp2;go_meet;exact⟨_,_,rfl,p7 _,OM,AL⟩
  ·have hcap:(B r:Int)<=j_:=by have:=Hn O2.i;omega
   have J5:Hid (∀j u,(strs r)[j]?=Q u->(ZV W (N #[] 9)).cell? (((T g 0 Z):Addr).add j)=Q u):=Ho (xs:=strs (s.take (aX op))) (by
    have h:=O2.alloc (N #[] 9);rw[ER.i,<-Ff,QN]
    exact h)
   obtain⟨t,ht⟩:∃t,t=aX op:=⟨_,rfl⟩
   rw[<-ht] at hl J9 ⊢;rw[hl] at c1 hs;have HS:=ae hs;have HL:=ae hl;clear hs hl;obtain⟨JH,hi,JJ,Hx,JI⟩:=NO gX;go_wp2_with (at_builtin;refine DN _ rfl (.tmp 87) (.tmp 95) 43 rfl (A (z W)) 9 JH (U ⟨#[]⟩) 1 16 NG hi JJ Hx JI rfl (by decide) (Y (Q (T (A (z W)) 0 Z)) 0 0) 0 [] (by simp[Act.eval]) (OU W #[] 0 ly (by unfold maxLen;omega) rfl) (T g 0 Z) (B r) j_ (strs r) (by simp[Act.eval]) (by simp[strs]) J5.i (Fa _) (by unfold maxLen;omega) (by omega) (by simp) ?_;intro v' w2 ph Fd JG;simp only[IT,NR] at ph;obtain⟨gr,cr,rfl,JP⟩:=sM ph (λe=>by simpa using JG.1 e);have B3:=ae (bg ((BS W).alloc ly (N #[] 9)) Fd (by simp) (λj e=>by simp[Value.ownBlock] at e;omega));have DQ:=ae ph;clear ph Fd JG);go_meet;exact⟨gr,cr,rfl,JP,DQ,B3⟩
 case rest =>
 clear hl hA JR;obtain⟨gr,cr,rfl,JP,DQ,B3⟩:=hcut;have Fk:A (z w)<=A (z W):=B2.size;have n9:A (z w)+1<A (z W):=R2.1;have Bk:A (z w)+1+1<A (z W):=Z2.1;have JM:A (z w)+1≠gr:=by omega
 have Ki:A (z W)<=A (z wc):=B3.size;clear m c0 f0 c1 f1 c2 ZL c3 ZO c4 X c5 V c6 ZM c7 ZN L S ZP P;have R3:=ae (R2.aa B3 R2.1);have Z3:=ae (Z2.aa B3 Z2.1);have G0:=(B3.O (p:=(T (A (z l)) 0 Z)) ex).k g0;have G1:=(B3.O (p:=(T (A (z l)) 1 Z)) ex).k g1;have G2:=(B3.O (p:=(T (A (z l)) 2 Z)) ex).k g2;have R4:=ae (R3.set0 (J I ((zd:Int)+1)));have Z4:=ae (Z3.other (T (A (z w)+1) 0 Z) (J I ((zd:Int)+1)) (by simp));have B4:=ae ((B2.k (B3.P B2.size)).setCell (p:=(T (A (z w)+1) 0 Z)) (by simp) (J I ((zd:Int)+1)));have O4:=ae (dT DQ JM (J I ((zd:Int)+1)) 0);have H0:=(K_ _ (T (A (z w)+1) 0 Z) (T (A (z l)) 0 Z) (J I ((zd:Int)+1)) (by simp;omega)).k G0;have H1:=(K_ _ (T (A (z w)+1) 0 Z) (T (A (z l)) 1 Z) (J I ((zd:Int)+1)) (by simp;omega)).k G1;have H2:=(K_ _ (T (A (z w)+1) 0 Z) (T (A (z l)) 2 Z) (J I ((zd:Int)+1)) (by simp;omega)).k G2;have bt:A (z W)<=A (z (ZU wc (T (A (z w)+1) 0 Z) (J I ((zd:Int)+1)))):=by simpa using Ki
 obtain⟨Kn,⟨e0,v0⟩,⟨e1,v1⟩,⟨e2,v2⟩,⟨e3,v3⟩,⟨e4,v4⟩,⟨e5,v5⟩,⟨e6,v6⟩,⟨e7,v7⟩,⟨e8,v8⟩,e9,v9⟩:=R3.i;go_upto_block 0 with fail;clear Kn e0 v0 e1 v1 e2 v2 e3 v3 e4 v4 e5 v5 e6 v6 e7 v7 e8 v8 e9 v9;clear g0 g1 g2 G0 G1 G2 B3 R3 Z3 DQ R2 Z2 O2;generalize World.setCell wc _ _=W5 at R4 Z4 B4 O4 H0 H1 H2 bt ⊢;obtain⟨Kb,Kf⟩:ZY.size<=2000/\Z8.size<=2000:=by rw[EA.i,EB.i];exact vg HL op
 obtain⟨C,JS⟩:∃C,C=nJ op k ZY zd:=⟨_,rfl⟩
 have th:=ae JS;clear JS;go_cut [] (λM=>op<=11/\Hid (Ten M (A (z w)+1) (J I C) (Y a (B s) j_) (J I ((v_:Int)+1)) (J I x_) (ZF ZA) (J I 0) (U ⟨#[]⟩) (ZF ZA) (U ⟨#[]⟩) (ZF ZA))/\Hid (Ten M (A (z w)+1+1) (J I 0) (Y Z 0 0) (J I 0) (J I 0) (ZF ZA) (J I 0) (U ⟨#[]⟩) (ZF ZA) (U ⟨#[]⟩) (ZF ZA))/\Hid (Below (A (z w)) w M)/\Hid (ZX M (A (z W)) 9 1 (Y (Q (T gr 0 Z)) (B r) cr) (B r) (strs r))/\ZW M (T (A (z l)) 0 Z)=Q (J I op)/\ZW M (T (A (z l)) 1 Z)=Q (U (f zd).s)/\ZW M (T (A (z l)) 2 Z)=Q (J I k)/\(A (z W))<=A (z M));case first =>
  obtain⟨m,⟨c0,f0⟩,⟨c1,f1⟩,⟨c2,ZL⟩,⟨c3,ZO⟩,⟨c4,X⟩,⟨c5,V⟩,⟨c6,ZM⟩,⟨c7,ZN⟩,⟨L,S⟩,ZP,P⟩:=R4.i;rcases Hr op ZY JO with rfl|rfl|rfl|rfl|rfl|⟨rfl,q1⟩|⟨rfl,q1,q2⟩|⟨rfl,q1,q2⟩|h9;{go_wp2_with fail;refine(fN _ _ _ _ _ _ _ _ _ _ _ _ _ _ _).P ?_;rintro e w5⟨rfl,b⟩;have R:=ae (Z4.aa b Z4.1);have D:=ae (B4.k (b.P B4.size));clear b;clear m c0 f0 c1 f1 c2 ZL c3 ZO c4 X c5 V c6 ZM c7 ZN L S ZP P;obtain⟨mv,⟨z0,y0⟩,⟨z1,y1⟩,⟨z2,y2⟩,⟨z3,y3⟩,⟨ZR,y4⟩,⟨O,y5⟩,⟨K,y6⟩,⟨G,y7⟩,⟨H,y8⟩,ZS,y9⟩:=R.i;go_wp2;refine bp (v:=ec ((zd:Int)+1) (Y a (B s) j_) ((v_:Int)+1) x_ ZH 0 ZY ZA ⟨#[]⟩ ZA) (by simp[results,Q3,go_sem,z0,z1,z2,z3,ZR,O,K,G,H,ZS]) rfl ⟨_,rfl,(by rw[SO.i,ye _ _ _ _ _ _ _ _ _ (by simp) HB.i,<-EA.i];exact⟨_,_,_,_,_,rfl⟩),dS D (by omega) _ _ _ _ _ _ _ _ _ _⟩};{go_wp2_with fail;refine(fN _ _ _ _ _ _ _ _ _ _ _ _ _ _ _).P ?_;rintro e w5⟨rfl,b⟩;have R:=ae (Z4.aa b Z4.1);have D:=ae (B4.k (b.P B4.size));clear b;clear m c0 f0 c1 f1 c2 ZL c3 ZO c4 X c5 V c6 ZM c7 ZN L S ZP P;obtain⟨mv,⟨z0,y0⟩,⟨z1,y1⟩,⟨z2,y2⟩,⟨z3,y3⟩,⟨ZR,y4⟩,⟨O,y5⟩,⟨K,y6⟩,⟨G,y7⟩,⟨H,y8⟩,ZS,y9⟩:=R.i;go_wp2;refine bp (v:=ec ((zd:Int)+1) (Y a (B s) j_) ((v_:Int)+1) x_ ZH 1 ZY ZA ⟨#[]⟩ ZA) (by simp[results,Q3,go_sem,z0,z1,z2,z3,ZR,O,K,G,H,ZS]) rfl ⟨_,rfl,(by rw[SO.i,ye _ _ _ _ _ _ _ _ _ (by simp) HB.i,<-EA.i];exact⟨_,_,_,_,_,rfl⟩),dS D (by omega) _ _ _ _ _ _ _ _ _ _⟩};iterate 2
   ·go_wp2_with fail
    have Z5:=ae (Z4.other (T (A (z w)+1) 1 Z) (Y (Q (T gr 0 Z)) (B r) cr) (by simp));have D:=ae (B4.setCell (p:=(T (A (z w)+1) 1 Z)) (by simp) (Y (Q (T gr 0 Z)) (B r) cr));have O5:=ae (dT O4 JM (Y (Q (T gr 0 Z)) (B r) cr) 1);have Y5:=ae (HY.aa D ly);have hq:=λ(o:Nat) (ho:o=12\/o=13)=>zJ o (f zd).s k (zd+1) (v_+1) x_ (Q (T gr 0 Z)) cr r ZY (dV zd) b2 o2 n JK (A (z W)) y _ Y5 O5 (by simpa using bt) ho hlk (by omega);rw[show((zd+1:Nat):Int)=(zd:Int)+1 by omega,show((v_+1:Nat):Int)=(v_:Int)+1 by omega] at hq;refine(hq _ (by simp)).P ?_;rintro e w5⟨v,rfl,la,b⟩;have Kk:=ae la;obtain⟨l0,l1,l2,l3,l4,l5,l6,l7,l8,l9,Kq,Kl,rfl⟩:=la.form;have R:=ae (Z5.aa b Bk);have B6:=ae (D.k (b.P Fk));clear b hq la;clear m c0 f0 c1 f1 c2 ZL c3 ZO c4 X c5 V c6 ZM c7 ZN L S ZP P;obtain⟨mv,⟨z0,y0⟩,⟨z1,y1⟩,⟨z2,y2⟩,⟨z3,y3⟩,⟨ZR,y4⟩,⟨O,y5⟩,⟨K,y6⟩,⟨G,y7⟩,⟨H,y8⟩,ZS,y9⟩:=R.i;go_wp2;refine bp (v:=ec l0 (Y l1 l2 l3) l4 l5 l6 l7 l8 l9 Kq Kl) (by simp[results,Q3,go_sem,z0,z1,z2,z3,ZR,O,K,G,H,ZS]) rfl ⟨_,rfl,(by rw[SO.i,Ht _ _ _ _ _ _ _ _ _ (by simp) HB.i,<-EA.i,<-ER.i];exact(BD Kk Bk _ _ _ _ _ _ _ _ _ _).P Fk),dS B6 (by omega) _ _ _ _ _ _ _ _ _ _⟩
  iterate 3
   ·obtain rfl:C=k:=th.k (JC (by first|exact .inl rfl|exact .inr (.inl ⟨rfl,q1⟩)|exact .inr (.inr ⟨rfl,q2⟩)))
    have R5:=ae (R4.set0 (J I C));have Z5:=ae (Z4.other (T (A (z w)+1) 0 Z) (J I C) (by simp));have D:=ae (B4.setCell (p:=(T (A (z w)+1) 0 Z)) (by simp) (J I C));have O5:=ae (dT O4 JM (J I C) 0);have I0:=(K_ _ (T (A (z w)+1) 0 Z) (T (A (z l)) 0 Z) (J I (C:Int)) (by simp;omega)).k H0;have I1:=(K_ _ (T (A (z w)+1) 0 Z) (T (A (z l)) 1 Z) (J I (C:Int)) (by simp;omega)).k H1;have I2:=(K_ _ (T (A (z w)+1) 0 Z) (T (A (z l)) 2 Z) (J I (C:Int)) (by simp;omega)).k H2;have HI:=ae I0;have Kd:=ae I1;have Km:=ae I2;clear I0 I1 I2;go_wp2;go_meet;exact⟨by omega,R5,Z5,D,O5,HI,Kd,Km,by simpa using bt⟩
  ·obtain rfl:C=zd+1:=by rw[th.i];unfold nJ;rw[eI (by decide),eI (λh=>h.2.elim (λe=>by rw[e] at q1;cases q1) (λe=>by rw[e] at q2;cases q2))]
   go_wp2;go_meet;exact⟨by omega,by show Ten _ _ _ _ _ _ _ _ _ _ _ _;rw[show((zd+1:Nat):Int)=(zd:Int)+1 by omega];exact R4,Z4,B4,O4,H0,H1,H2,bt⟩
  ·obtain rfl:C=zd+1:=by rw[th.i];unfold nJ;rw[eI (by omega),eI (by omega)]
   have n15:((op:Int) == 15)=ZA:=by simp;omega
   have n14:((op:Int) == 14)=ZA:=by simp;omega
   have n12:((op:Int) == 12)=ZA:=by simp;omega
   have n13:((op:Int) == 13)=ZA:=by simp;omega
   have n10:((op:Int) == 10)=ZA:=by simp;omega
   have n11:((op:Int) == 11)=ZA:=by simp;omega
   go_wp2;go_meet;exact⟨by omega,by show Ten _ _ _ _ _ _ _ _ _ _ _ _;rw[show((zd+1:Nat):Int)=(zd:Int)+1 by omega];exact R4,Z4,B4,O4,H0,H1,H2,bt⟩
 case rest =>
 clear R4 Z4 B4 O4 H0 H1 H2 bt;obtain⟨Id,R4,Z4,B4,O4,G0,G1,G2,bt⟩:=hcut;obtain⟨ZQ,DE⟩:∃ZQ,ZQ=cB op k (f zd).s ZY Z8:=⟨_,rfl⟩
 have n8:Hid (ZQ=cB op k (f zd).s ZY Z8/\(B ZQ)=bN op):=⟨DE,by rw[DE];exact zK _ _ _ _ _ ur Id⟩
 have JW:Hid (so=gR ZQ (dV zd) r C (v_+1) x_):=by show _=_;rw[SO.i,Fg _ _ _ _ _ _ _ _ _ ur Id HB.i J7 HL.i,DE,<-EA.i,<-EB.i,<-ER.i,<-th.i]
 clear DE SO EA EB ER th;go_wp2_with fail;go_loopw [13,14] (λrest i wr=>∃j:Nat,j<=bN op/\i=J I j/\∃g6 cx,rest=Y (Q (T g6 0 Z)) (B r+j) cx/\Hid (wr.ownsRow (A (z W)) 9 1 (Y (Q (T g6 0 Z)) (B r+j) cx) (B r+j) (strs r++(ZQ.take j).map Value.string))/\Hid (Below (A (z W)) wc wr)/\Hid (∀i,i<j->(ZQ.getD i ⟨#[]⟩).size<=2000)) (λ_ i _=>bN op - (intOf i).toNat);case atStart=>exact⟨0,by omega,rfl,gr,cr,rfl,(by show World.ownsRow _ _ _ _ _ _ _;rw[List.take_zero,VN,XI];exact O4),a8 _ _,λi hi=>absurd hi (NE _)⟩
 case round =>
  obtain⟨j,hj,rfl,g6,cx,rfl,O6,B6,S6⟩:=hrel;have R6:=ae (R4.aa B6 n9);have Z6:=ae (Z4.aa B6 Bk);have i0:=(B6.O (p:=(T (A (z l)) 0 Z)) ex).k G0;have i1:=(B6.O (p:=(T (A (z l)) 1 Z)) ex).k G1;have i2:=(B6.O (p:=(T (A (z l)) 2 Z)) ex).k G2;have JZ:A (z W)<=A (z wr):=nX bt B6.size;have B7:=ae (B4.k (B6.P Fk));by_cases JL:j<bN op
  ·have h8:op<=8:=Hp ur Id JL;have JV:j<B ZQ:=by rw[n8.2];exact JL
   go_wp2_with fail;refine(xp op k (f zd).s ZY Z8 _ ur h8 Kb Kf J8).P ?_;rintro e w6⟨g7,rfl,ro,Ke,ld⟩;rw[<-n8.1] at ro ⊢;rw[n8.2] at ro ⊢;have q6:ZW w6 (T g7 j Z)=Q (U (ZQ.getD j ⟨#[]⟩)):=by have:=ro.2 j JL;rwa[IT] at this
   obtain⟨ZT,hE⟩:∃ZT,ZT=ZQ.getD j ⟨#[]⟩:=⟨_,rfl⟩
   rw[<-hE] at q6;have HE:=ae hE;clear hE;have O7:=ae (J_ O6 ld ly);have B8:=ae (B6.k (ld.P JZ));have J6:A (z W)<=A (z w6):=nX JZ ld.size;have R7:=ae (R6.aa ld R6.1);have Z7:=ae (Z6.aa ld Z6.1);have B9:=ae (B7.k (ld.P B7.size));clear ro Ke ld i0 i1 i2 R6 Z6;by_cases Ks:(ZT.size:Int)<=2000
   ·obtain⟨JH,hi,JJ,Hx,JI⟩:=NO gX;go_wp2_with (at_builtin;refine DN _ rfl (.tmp 158) (.tmp 163) 43 rfl (A (z W)) 9 JH (U ⟨#[]⟩) 1 16 NG hi JJ Hx JI rfl (by decide) (Y (Q (T g6 0 Z)) (B r+j) cx) (B r+j) (strs r++(ZQ.take j).map Value.string) (by simp[Act.eval]) (O7.alloc _) (T (A (z w6)) 0 Z) 1 1 [U ZT] (by simp[Act.eval]) rfl (ep w6 _ _) (by simp[Value.oneCell']) (by unfold maxLen;omega) (by omega) (by simp<;>omega) ?_;intro v' w7 qr sm Fm;obtain⟨g8,L,rfl,hg8⟩:=sM qr (λe=>by simpa using Fm.1 e);have O8:=ae qr;have Ka:=ae (bg (B8.alloc J6 (N #[U ZT] 9)) sm (by simp<;>omega) (λi e=>(O7.lt i e).1));clear qr sm Fm)
    exact⟨⟨j+1,by omega,by go_num,g8,L,rfl,by show World.ownsRow _ _ _ _ _ _ _;rw[BH JV,<-NP,<-HE.i];exact O8,Ka,λi hi=>by
     by_cases e:i=j;{subst e;rw[<-HE.i];omega}
     ·exact S6 i (by omega)⟩,by simp[intOf];omega⟩
   {have ER:=ae (show so=.inr (.inl (2,(dV zd),(v_+1))) by rw[JW.i];unfold gR;rw[Hq JV (by rw[<-HE.i];exact Ks)];rfl);obtain⟨m,⟨c0,f0⟩,⟨c1,f1⟩,⟨c2,ZL⟩,⟨c3,ZO⟩,⟨c4,X⟩,⟨c5,V⟩,⟨c6,ZM⟩,⟨c7,ZN⟩,⟨L,S⟩,ZP,P⟩:=R7.i;go_wp2_with fail;refine(fN _ _ _ _ _ _ _ _ _ _ _ _ _ _ _).P ?_;rintro e w5⟨rfl,b⟩;have R:=ae (Z7.aa b Z7.1);have D:=ae (B9.k (b.P B9.size));clear b;clear m c0 f0 c1 f1 c2 ZL c3 ZO c4 X c5 V c6 ZM c7 ZN L S ZP P;obtain⟨mv,⟨z0,y0⟩,⟨z1,y1⟩,⟨z2,y2⟩,⟨z3,y3⟩,⟨ZR,y4⟩,⟨O,y5⟩,⟨K,y6⟩,⟨G,y7⟩,⟨H,y8⟩,ZS,y9⟩:=R.i;go_wp2;refine bp (v:=ec C (Y a (B s) j_) ((v_:Int)+1) x_ ZH 2 (dV zd) ZA ⟨#[]⟩ ZA) (by simp[results,Q3,go_sem,z0,z1,z2,z3,ZR,O,K,G,H,ZS]) rfl ⟨_,rfl,(by rw[ER.i];exact⟨_,_,_,_,_,rfl⟩),dS D (by omega) _ _ _ _ _ _ _ _ _ _⟩}
  ·have e:j=bN op:=by omega
   subst e;have ER:=ae (show so=.inl (C,(v_+1),x_,(ZQ.reverse++r)) by rw[JW.i];unfold gR;rw[Fe (λi hi=>S6.i i (by rw[n8.2] at hi;exact hi))];rfl);have JQ:=ae (show(ZQ.reverse++r).length=B r+bN op by rw[cM,List.length_reverse,n8.2];omega);obtain⟨m,⟨c0,f0⟩,⟨c1,f1⟩,⟨c2,ZL⟩,⟨c3,ZO⟩,⟨c4,X⟩,⟨c5,V⟩,⟨c6,ZM⟩,⟨c7,ZN⟩,⟨L,S⟩,ZP,P⟩:=R6.i;obtain⟨mv,⟨z0,y0⟩,⟨z1,y1⟩,⟨z2,y2⟩,⟨z3,y3⟩,⟨ZR,y4⟩,⟨O,y5⟩,⟨K,y6⟩,⟨G,y7⟩,⟨H,y8⟩,ZS,y9⟩:=Z6.i;have OE:=ae (WH O6 (a:=(T (A (z w)+1) 1 Z)) n9 (Y (Q (T g6 0 Z)) (B r+bN op) cx));have BE:=ae (B7.setCell (p:=(T (A (z w)+1) 1 Z)) (by simp) (Y (Q (T g6 0 Z)) (B r+bN op) cx));go_wp2;refine bp (v:=ec C (Y (Q (T g6 0 Z)) (B r+bN op) cx) ((v_:Int)+1) x_ ZA 0 ⟨#[]⟩ ZA ⟨#[]⟩ ZA) (by simp[results,Q3,go_sem,z0,z1,z2,z3,ZR,O,K,G,H,ZS]) rfl ⟨_,rfl,?_,dS BE (by omega) _ _ _ _ _ _ _ _ _ _⟩;rw[ER.i];refine(BD (v:=ec C (Y (Q (T g6 0 Z)) (B r+bN op) cx) ((v_:Int)+1) x_ ZA 0 ⟨#[]⟩ ZA ⟨#[]⟩ ZA) (base:=A (z W)) ?_ Bk _ _ _ _ _ _ _ _ _ _).P Fk;refine⟨Q (T g6 0 Z),cx,by rw[JQ.i];simp,?_⟩;rw[JQ.i,Fc];have h:=OE.i;rw[show ZQ.take (bN op)=ZQ by rw[<-n8.2];exact List.take_length] at h;exact h
def IY (f:Nat->Ins)(yh:Nat)(y:Nat->aD)(n:Nat)(ZP:Turn)(st:Nat):SO->Prop
 |.inr (.inl (c,x,k))=>ZP=gi c x k
 |.inr (.inr (a,nm,k))=>ZP=oA a nm k
 |.inl (p,k,l,s)=>k=st+1/\k<=2000/\cA f yh y n (2001 - k) p k l s=ZP/\p<=2000/\l<=200/\(B s)<=50/\∀x∈s,x.size<=2000
def xr{f:Nat->Ins}{yh:Nat}(i:B b<=50)(h:∀x∈b,x.size<=2000)(hlk:x_<=200)(g:dn f yh=ZH)(hc:yh<=200):rG (bQ f yh zd v_ x_ b) x_:=by
 unfold bQ;split;{trivial}
 ·rename_i h1;split;{trivial}
  ·split;{trivial}
   ·rename_i j;have hi:=j7 g (show zd<yh by omega);simp only[cL,nD] at hi;obtain⟨i1,i2,i3,i4,i5⟩:=hi;have hmt:dX (f zd).op<=2000:=by unfold dX;split<;>(try split)<;>omega
    have hmt2:bW (f zd).op<=2000:=by unfold bW;split<;>omega
    exact ji _ _ _ _ _ _ i h (by omega) (by omega) (by omega) hlk (by omega) (by omega) (by simpa using j)
def xt{f:Nat->Ins}{yh:Nat}{a:Bool}{nm:F_}(h:bQ f yh zd v_ x_ b=.inr (.inr (a,nm,s))):zd<yh:=by
 unfold bQ at h;split at h;{cases h};{omega}
def Hv{f:Nat->Ins}{yh:Nat}{ZP:Turn}{st l:Nat}(hst:st<=2000)(o:l<=200)(ZY:B s<=50)(u:∀x∈s,x.size<=2000)(q:dn f yh=ZH)(ZT:yh<=200)(C:bU y n=ZH)
  (b:cA f yh y n (2001 - st) p st l s=ZP):IY f yh y n ZP st (gn f yh y n p st l s):=by
 obtain⟨j,Z8⟩:∃j,2001 - st=j+1:=⟨2000 - st,by omega⟩
 rw[Z8,cA] at b;have hF:=xr (zd:=p) (v_:=st) ZY u o q ZT;unfold gn;rcases h:bQ f yh p st l s with⟨D,p'⟩|⟨c,x⟩|⟨a,nm,D⟩
 {rw[h] at b hF;obtain⟨m,G⟩:=jP h;obtain⟨f1,i,r⟩:=hF;simp only[m] at b ⊢;exact⟨rfl,by omega,by rw[show 2001 - (st+1)=j by omega];exact b,r,o,f1,i⟩};{rw[h] at b;exact b.c};{rw[h] at b hF;obtain⟨m,G⟩:=lX h;obtain⟨f1,i,r,f4⟩:=hF;have hp:=xt h;simp only[m] at b ⊢;simp only[iE,kj];by_cases h1:n<=l;{rw[eT h1] at b ⊢;exact b.c};{rw[eI h1] at b ⊢;by_cases h2:a=ZA;{rw[eT h2] at b ⊢;refine⟨rfl,by omega,by rw[show 2001 - (st+1)=j by omega];exact b,by omega,by omega,by simp;omega,λx g=>?_⟩;rcases vG.1 g with rfl|g;{exact jr _};{exact i x g}};{rw[eI h2] at b ⊢;by_cases t:(y l).has=ZA;{rw[eT t] at b ⊢;exact b.c};{rw[eI t] at b ⊢;by_cases ZZ:(y l).M=0;{rw[eT ZZ] at b ⊢;refine⟨rfl,by omega,by rw[show 2001 - (st+1)=j by omega];exact b,by omega,by omega,by simp;omega,λx g=>?_⟩;rcases vG.1 g with rfl|g;{exact(EI C (show l<n by omega)).1};{exact i x g}};{rw[eI ZZ] at b ⊢;exact b.c}}}}}
def Ten.put{j m i p q o b l f n:ZB}(h:Ten w g j m i p q o b l f n)(u0 u1 u2 u3 u4 u5 u6 u7 u8 u9:ZB):Ten (ZU (ZU (ZU (ZU (ZU (ZU (ZU (ZU (ZU (ZU w (T g 0 Z) u0) (T g 1 Z) u1) (T g 2 Z) u2) (T g 3 Z) u3) (T g 4 Z) u4) (T g 5 Z) u5) (T g 6 Z) u6) (T g 7 Z) u7) (T g 8 Z) u8) (T g 9 Z) u9) g u0 u1 u2 u3 u4 u5 u6 u7 u8 u9:=
 (((((((((h.set0 u0).set1 u1).set2 u2).set3 u3).set4 u4).set5 u5).set6 u6).set7 u7).set8 u8).set9 u9
def pz{u:E}(h:zt g u w)(u0 u1 u2 u3 u4 u5 u6 u7 u8 u9:ZB):zt g u (ZU (ZU (ZU (ZU (ZU (ZU (ZU (ZU (ZU (ZU w (T g 0 Z) u0) (T g 1 Z) u1) (T g 2 Z) u2) (T g 3 Z) u3) (T g 4 Z) u4) (T g 5 Z) u5) (T g 6 Z) u6) (T g 7 Z) u7) (T g 8 Z) u8) (T g 9 Z) u9):=
 ce (ce (ce (ce (ce (ce (ce (ce (ce (ce h 0 u0) 1 u1) 2 u2) 3 u3) 4 u4) 5 u5) 6 u6) 7 u7) 8 u8) 9 u9
def yi (w:E)(g b:Nat)(f:Nat->Ins)(yh:Nat)(y:Nat->aD)(n:Nat)(ZP:Turn)(k:Nat):Prop:=
 (∃p st l s a j_,Ten w g (J I (p:Nat)) (Y a (List.length s) j_) (J I (st:Nat)) (J I (l:Nat)) (ZF ZA) (J I 0) (U ⟨#[]⟩) (ZF ZA) (U ⟨#[]⟩) (ZF ZA)/\ZX w b 9 1 (Y a (B s) j_) (B s) (strs s) /\
  st<=2000/\cA f yh y n (2001 - st) p st l s=ZP/\p<=2000/\l<=200/\(B s)<=50/\(∀x∈s,x.size<=2000)/\2002 - st<=k) \/
 (∃at_ sv lk c x,∃st:Nat,Ten w g at_ sv (J I st) lk (ZF ZH) (J I c) (U x) (ZF ZA) (U ⟨#[]⟩) (ZF ZA)/\ZP=gi c x st) \/
 (∃at_ sv lk a nm,∃st:Nat,Ten w g at_ sv (J I st) lk (ZF ZA) (J I 0) (U ⟨#[]⟩) (ZF a) (U nm) (ZF ZH)/\ZP=oA a nm st)
def Hw{b j_:Nat}{a:O_}{f:List ZB}(h:ZX w b e 1 (Y a n j_) n f){k:Nat}(y:k<b)(l o t r x q g m i p:ZB):World.ownsRow (ZU (ZU (ZU (ZU (ZU (ZU (ZU (ZU (ZU (ZU w (T k 0 Z) l) (T k 1 Z) o) (T k 2 Z) t) (T k 3 Z) r) (T k 4 Z) x) (T k 5 Z) q) (T k 6 Z) g) (T k 7 Z) m) (T k 8 Z) i) (T k 9 Z) p) b e 1 (Y a n j_) n f:=by have s:∀{w:E} (j:Nat) (u:ZB),ZX w b e 1 (Y a n j_) n f->(ZU w (T k j Z) u).ownsRow b e 1 (Y a n j_) n f:=λj u h=>WH h (a:=(T k j Z)) y u;exact s 9 p (s 8 i (s 7 m (s 6 g (s 5 q (s 4 x (s 3 r (s 2 t (s 1 o (s 0 l h)))))))))
def oS (h g yh j_ n r:Nat)(K:O_)(f:Nat->Ins)(w:E)(hn:yh<=1048576)(o:valid f yh=ZH->200<(n:Int))(x:Q_ w h g yh f)(ZZ:∀i,i<yh->(f i).s.size<=maxLen):Qw Pg 67 #[ZJ #[Y (Q (T h g Z)) yh j_],Y K n r] w λe q=>e=ZI badT.v/\Below (A (z w)) w q:=by
 have L:=ae x;have t:=ae ((((BS w).alloc ly (N #[Y (Q (T h g Z)) yh j_] 37))).alloc (by simp) (N #[ZF ZA,J I 0,U ⟨#[]⟩,ZF ZA,U ⟨#[]⟩,J I 0] 116));have l:=lm (ZV w (N #[Y (Q (T h g Z)) yh j_] 37)) (ZF ZA) (J I 0) (U ⟨#[]⟩) (ZF ZA) (U ⟨#[]⟩) (J I 0) 116;rw[show(A (z (ZV w (N #[Y (Q (T h g Z)) yh j_] 37))))=A (z w)+1 by simp] at l;have u:=ae l;have p:=λq h1 h2=>gy h g yh j_ f q hn h1 h2 ZZ;generalize valid f yh=b at o p;have y:=ae p;have G:=ae o;clear l p x ZZ o;go_enter func67,ntmps67;go_wp2_with fail;have m:=ae (L.aa t ly);refine(y _ m.1 m.2).P ?_;rintro e w1⟨rfl,j⟩;have ZR:=ae (u.aa j (by simp));have D:=ae (t.k (j.P (by simp;omega)));clear j t u m;obtain⟨⟨v0,H,y0⟩,⟨v1,ZS,y1⟩,⟨v2,Z8,y2⟩,⟨v3,ZY,y3⟩,⟨v4,ZT,y4⟩,⟨v5,C,y5⟩⟩:=bl6 ZR.2;cases b
 all_goals
  (try have hn2:=G.i rfl)
  go_wp2;refine bp (v:=badT.v) (by simp[results,UO,go_sem,Turn.v,badT,H,ZS,Z8,ZY,ZT,C]) rfl ⟨rfl,fX D (by omega) _ _ _ _ _ _⟩
def xu (h o yh j_ ZN o2 n S:Nat)(f:Nat->Ins)(y:Nat->aD)(w:E)(hn:yh<=1048576)(hv:valid f yh=ZH)(hn2:(n:Int)<=200)(hP:Q_ w h o yh f)(hY:RowReply w ZN o2 n y)(hs:∀i,i<yh->(f i).s.size<=maxLen)(ZP:Turn)(hT:ZP=if bU y n=ZA then badT else cA f yh y n 2001 0 0 0 []):Qw Pg 67 #[ZJ #[Y (Q (T h o Z)) yh j_],Y (Q (T ZN o2 Z)) n S] w λe w'=>e=ZI ZP.v/\Below (A (z w)) w w':=by
 have HV:=ae (bJ hv).1;have ro:yh<=200:=by have:=(bJ hv).2.2;omega
 have ZM:=ae hY;have ZO:=ae hT;clear hY hT;have HP:=ae hP;have A0:=ae ((((BS w).alloc ly (N #[Y (Q (T h o Z)) yh j_] 37))).alloc (by simp) (N #[ZF ZA,J I 0,U ⟨#[]⟩,ZF ZA,U ⟨#[]⟩,J I 0] 116));have R:=lm (ZV w (N #[Y (Q (T h o Z)) yh j_] 37)) (ZF ZA) (J I 0) (U ⟨#[]⟩) (ZF ZA) (U ⟨#[]⟩) (J I 0) 116;rw[show(A (z (ZV w (N #[Y (Q (T h o Z)) yh j_] 37))))=A (z w)+1 by simp] at R;have X0:=ae R;have IV:=λw' h1 h2=>gy h o yh j_ f w' hn h1 h2 hs;rw[hv] at IV;have n9:=ae IV;clear R IV hP hs hv;go_enter func67,ntmps67;go_wp2_with fail;have P1:=ae (HP.aa A0 ly);refine(n9 _ P1.1 P1.2).P ?_;rintro e w1⟨rfl,L⟩;have c1:ZW w1 (T (A (z w)) 0 Z)=Q (Y (Q (T h o Z)) yh j_):=(L.O (p:=(T (A (z w)) 0 Z)) (by simp;omega)).k (by simp);have HX:=ae (X0.aa L (by simp));have B1:=ae (A0.k (L.P (by simp;omega)));have z1:A (z w)+1<A (z w1):=HX.1;clear L A0 X0 P1;have ph:=ae (ZM.aa B1 ly);go_wp2_with fail;go_loopw [5] (λi wr=>∃j:Nat,j<=n/\i=J I j/\Hid (bU y j=ZH)/\Below (A (z w1)) w1 wr) (λi _=>n - (intOf i).toNat);case atStart=>exact⟨0,by omega,rfl,rfl,a8 _ _⟩
 case round =>
  obtain⟨j,hj,rfl,HK,ZL⟩:=hrel;have r:=ae (HX.aa ZL HX.1);have D:=ae (B1.k (ZL.P B1.size));have cp:ZW wr (T (A (z w)) 0 Z)=Q (Y (Q (T h o Z)) yh j_):=(ZL.O (p:=(T (A (z w)) 0 Z)) (by simp;omega)).k c1;have zr:A (z w)+1<A (z wr):=r.1;have fd:=ae ZL;clear ZL;by_cases t:j<n
  ·obtain⟨d0,d1,d2⟩:=(ZM.aa D ly).2 j t;obtain⟨⟨v0,Z8,y0⟩,⟨v1,K,y1⟩,⟨v2,H,y2⟩,⟨v3,ZZ,y3⟩,⟨v4,ZS,y4⟩,⟨v5,G,y5⟩⟩:=bl6 r.2;by_cases g1:((y j).H.size:Int)<=2000
   ·by_cases g2:0<=(y j).M
    ·by_cases g3:(y j).M<=7;{go_wp2;refine⟨⟨j+1,by omega,by go_num,?_,?_⟩,by simp[intOf];omega⟩;{show bU y (j+1)=ZH;simp only[bU,HK.i,cI,P9,nD];omega};{exact fd}}
     ·go_wp2;have u:ZP=badT:=by rw[ZO.i,eT (ip t (by simp only[cI,NY];omega))]
      refine bp (v:=badT.v) (by simp[results,UO,go_sem,Turn.v,badT,Z8,K,H,ZZ,ZS,G]) rfl ⟨by rw[u],fX D (by omega) _ _ _ _ _ _⟩
    ·go_wp2;have u:ZP=badT:=by rw[ZO.i,eT (ip t (by simp only[cI,NY];omega))]
     refine bp (v:=badT.v) (by simp[results,UO,go_sem,Turn.v,badT,Z8,K,H,ZZ,ZS,G]) rfl ⟨by rw[u],fX D (by omega) _ _ _ _ _ _⟩
   ·go_wp2;have u:ZP=badT:=by rw[ZO.i,eT (ip t (by simp only[cI,NY];omega))]
    refine bp (v:=badT.v) (by simp[results,UO,go_sem,Turn.v,badT,Z8,K,H,ZZ,ZS,G]) rfl ⟨by rw[u],fX D (by omega) _ _ _ _ _ _⟩
  ·have e:j=n:=by omega
   subst e;have u:ZP=cA f yh y j 2001 0 0 0 []:=by rw[ZO.i,eI (by simp[HK.i])]
   have ET:=ae u;clear u ZO ph;have RN:=ae (lp wr (J I 0) (Y Z 0 0) (J I 0) (J I 0) (ZF ZA) (J I 0) (U ⟨#[]⟩) (ZF ZA) (U ⟨#[]⟩) (ZF ZA) 170 (A (z wr)) rfl);obtain⟨ZQ,C⟩:∃W:E,ZV wr (N #[J I 0,Y Z 0 0,J I 0,J I 0,ZF ZA,J I 0,U ⟨#[]⟩,ZF ZA,U ⟨#[]⟩,ZF ZA] 170)=W:=⟨_,rfl⟩
   obtain⟨A2,-,-⟩:=nb1 C;have ZY:=ae C;clear C;have XN:=ae (r.aa A2 r.1);have BN:=ae (D.k (A2.P D.size));have cN:=(A2.O (p:=(T (A (z w)) 0 Z)) (by simp;omega)).k cp;have V:A (z wr)<A (z ZQ):=by cases ZY.i;simp
   go_wp2_with fail;clear c1 cp;rw[ZY.i] at RN ⊢;clear ZY;generalize (A (z wr))=rb at RN zr V ⊢;have n8:ZN<rb:=lj ZM.1 (by omega);have ur:h<rb:=lj HP.1 (by omega);have S0:Hid (yi ZQ rb (A (z ZQ)) f yh y j ZP 2002):=.inl ⟨0,0,0,[],Z,0,RN,CP _ _ _ _,by omega,ET.c,by omega,by omega,by simp,by simp,by omega⟩;have PN:=ae (HP.aa BN ly);have YN:=ae (ZM.aa BN ly);clear RN ET r D fd t HX B1 HP ZM;go_loopg [] 2002 (λg wr=>yi wr rb (A (z ZQ)) f yh y j ZP g/\zt rb ZQ wr);case atStart=>exact⟨S0,zt.refl _ _⟩
   case round =>
    obtain⟨hst,ZT⟩:=hrel;have HO:=ae ZT;have cw:ZW wr (T (A (z w)) 0 Z)=Q (Y (Q (T h o Z)) yh j_):=(ZT.O (A (z w)) 0 (by omega) (by omega)).k cN;have ld:rb<A (z wr):=lj V ZT.size;have bt:=ae (ZT.aa (p7 rb) (TQ V));have BW:=ae (BN.k (ZT.aa (show (A (z w))<=rb by omega) (by omega)));have XW:=ae (XN.ac ZT (by omega));have zw:A (z w)+1<A (z wr):=XW.1;clear ZT;rcases hst with⟨p,st,l,s,a,mv,b,P,k1,k2,k3,k4,k5,k6,k7⟩|⟨at_,sv,lk,c,x,st,b,m⟩|⟨at_,sv,lk,a,nm,st,b,m⟩
    ·have qr:=ae b;have OW:=ae P;have sm:=ae (Hv k1 k4 k5 k6 HV ro HK k2);have K6:=ae k6;have PW:Hid (Q_ wr h o yh f):=⟨lj PN.1 HO.size,λi hi=>(PN.2 i hi).aa bt ur⟩
     have YW:Hid (RowReply wr ZN o2 j y):=⟨lj YN.1 HO.size,λi hi=>(YN.2 i hi).aa bt n8⟩
     obtain⟨aq,⟨c0,f0⟩,⟨c1,f1⟩,⟨c2,f2⟩,⟨c3,f3⟩,⟨c4,f4⟩,⟨c5,f5⟩,⟨c6,f6⟩,⟨c7,f7⟩,⟨c8,f8⟩,c9,f9⟩:=b;clear P k2 k6;go_wp2_with fail;refine(zP h o yh j_ p st l f a s mv ZN o2 j S (A (z ZQ)) y _ PW YW OW k3 k1 k4 k5 K6 HV).P ?_;rintro e w3⟨v,rfl,M,X⟩;have O:=ae (qr.aa X ld);have O3:=ae (HO.ak X);clear aq c0 f0 c1 f1 c2 f2 c3 f3 c4 f4 c5 f5 c6 f6 c7 f7 c8 f8 c9 f9;clear X;have q:=sm.i;obtain⟨g,rfl⟩:∃g,gk=g+1:=⟨gk - 1,by omega⟩
     generalize gn f yh y j p st l s=so at M q;rcases so with⟨p',th,l',s'⟩|⟨c,x,k⟩|⟨a1,nm,k⟩
     ·obtain⟨a',c',rfl,la⟩:=M;obtain⟨m1,m2,m3,m4,m5,m6,m7⟩:=q;have OE:=ae la;have M3:=ae m3;have M7:=ae m7;have M1:=ae m1;clear la m3 m7 m1;obtain⟨ex,⟨e0,u0⟩,⟨e1,u1⟩,⟨e2,u2⟩,⟨e3,u3⟩,⟨e4,u4⟩,⟨e5,u5⟩,⟨e6,u6⟩,⟨e7,u7⟩,⟨e8,u8⟩,e9,u9⟩:=O.i;go_wp2;go_roundg g;case measure=>omega
      case rel=>exact⟨.inl ⟨p',th,l',s',a',c',O.put _ _ _ _ _ _ _ _ _ _,aE (Hw OE ld _ _ _ _ _ _ _ _ _ _) HO.size,m2,M3,m4,m5,m6,M7,by have:=M1.i;omega⟩,pz O3 _ _ _ _ _ _ _ _ _ _⟩
     ·obtain⟨at_,a',n',c',lk,rfl⟩:=M;have m:ZP=gi c x k:=q;have ZR:=ae m;clear m q;obtain⟨ex,⟨e0,u0⟩,⟨e1,u1⟩,⟨e2,u2⟩,⟨e3,u3⟩,⟨e4,u4⟩,⟨e5,u5⟩,⟨e6,u6⟩,⟨e7,u7⟩,⟨e8,u8⟩,e9,u9⟩:=O.i;go_wp2;go_roundg g;case measure=>omega
      case rel=>exact⟨.inr (.inl ⟨_,_,_,_,_,_,O.put _ _ _ _ _ _ _ _ _ _,ZR⟩),pz O3 _ _ _ _ _ _ _ _ _ _⟩
     ·obtain⟨at_,a',n',c',lk,rfl⟩:=M;have m:ZP=oA a1 nm k:=q;have ZR:=ae m;clear m q;obtain⟨ex,⟨e0,u0⟩,⟨e1,u1⟩,⟨e2,u2⟩,⟨e3,u3⟩,⟨e4,u4⟩,⟨e5,u5⟩,⟨e6,u6⟩,⟨e7,u7⟩,⟨e8,u8⟩,e9,u9⟩:=O.i;go_wp2;go_roundg g;case measure=>omega
      case rel=>exact⟨.inr (.inr ⟨_,_,_,_,_,_,O.put _ _ _ _ _ _ _ _ _ _,ZR⟩),pz O3 _ _ _ _ _ _ _ _ _ _⟩
    {have ZR:=ae m;obtain⟨aq,⟨c0,f0⟩,⟨c1,f1⟩,⟨c2,f2⟩,⟨c3,f3⟩,⟨c4,f4⟩,⟨c5,f5⟩,⟨c6,f6⟩,⟨c7,f7⟩,⟨c8,f8⟩,c9,f9⟩:=b;obtain⟨⟨v0,Z8,y0⟩,⟨v1,K,y1⟩,⟨v2,H,y2⟩,⟨v3,ZZ,y3⟩,⟨v4,ZS,y4⟩,⟨v5,G,y5⟩⟩:=bl6 XW.2;clear m;go_wp2;refine bp (v:=ZP.v) (by rw[ZR.i];simp[results,UO,go_sem,Turn.v,gi,Z8,K,H,ZZ,ZS,G]) rfl ⟨rfl,fX BW (by omega) _ _ _ _ _ _⟩};{have ZR:=ae m;obtain⟨aq,⟨c0,f0⟩,⟨c1,f1⟩,⟨c2,f2⟩,⟨c3,f3⟩,⟨c4,f4⟩,⟨c5,f5⟩,⟨c6,f6⟩,⟨c7,f7⟩,⟨c8,f8⟩,c9,f9⟩:=b;obtain⟨⟨v0,Z8,y0⟩,⟨v1,K,y1⟩,⟨v2,H,y2⟩,⟨v3,ZZ,y3⟩,⟨v4,ZS,y4⟩,⟨v5,G,y5⟩⟩:=bl6 XW.2;clear m;go_wp2;refine bp (v:=ZP.v) (by rw[ZR.i];simp[results,UO,go_sem,Turn.v,oA,Z8,K,H,ZZ,ZS,G]) rfl ⟨rfl,fX BW (by omega) _ _ _ _ _ _⟩}
def nO (g j yh j_ l o n b:Nat)(f:Nat->Ins)(y:Nat->aD)(w:E)(hn:yh<=1048576)(m:Q_ w g j yh f)(t:RowReply w l o n y)(p:∀i,i<yh->(f i).s.size<=maxLen):Qw Pg 67 #[ZJ #[Y (Q (T g j Z)) yh j_],Y (Q (T l o Z)) n b] w λe r=>e=ZI (oB f yh y n).v/\Below (A (z w)) w r:=by
 unfold oB;by_cases h1:valid f yh=ZA;{rw[eT h1];exact oS g j yh j_ n b _ f w hn (λh=>absurd (h1.c.k h) (by simp)) m p}
 ·have q:valid f yh=ZH:=by simpa using h1
  rw[eI h1];by_cases h2:200<n;{rw[eT h2];exact oS g j yh j_ n b _ f w hn (λ_=>by omega) m p};{rw[eI h2];exact xu g j yh j_ l o n b f y w hn q (by omega) m t p _ rfl}
def lu (y:Nat->aD)(i:Nat):List ZB:=[ZF (y i).has,J I (y i).M,U (y i).H]
def mc (y:Nat->aD):Nat->List ZB
 |0=>[]
 |k+1=>mc y k++lu y k
def pA (y:Nat->aD)(k:Nat):(mc y k).length=k*3:=by
 induction k with
 |zero=>rfl
 |succ k b=>simp[mc,lu,b];omega
def yj (y:Nat->aD){i j:Nat}(b:j<3):∀k,i<k->(mc y k)[i*3+j]?=(lu y i)[j]?
 |0,h=>absurd h (NE _)
 |k+1,h=>by
  rw[mc];by_cases e:i=k
  ·subst e
   rw[KK (by rw[pA];omega),pA,show i*3+j - i*3=j by omega]
  ·rw[NH (by rw[pA];omega)]
   exact yj y b k (by omega)
def xv{c k:Nat}(h:ZX w n 119 3 (Y (Q (T g 0 Z)) k c) k (mc y k)):RowReply w g 0 k y:=by
 rcases h.2 with⟨f,h0⟩|⟨g',j_,l,f,hb,m,hc1,hc2,hc3,o⟩
 {simp at f}
 ·simp only[IN,L8,RJ] at f;obtain⟨⟨rfl,-⟩,-,rfl⟩:=f;have p:g<A (z w):=by
   rcases OR g (A (z w)) with h1|h1;{exact h1};{rw[PL h1] at m;simp at m}
  have b:∀i j,i<k->j<3->ZW w (T g (0+i*3+j) Z)=(lu y i)[j]?:=by
   intro i j hi s;have r:ZW w (T g (0+i*3+j) Z)=l[i*3+j]?:=by simp[World.cell?,m]
   have q:(l.toList.take (k*3))[i*3+j]?=(mc y k)[i*3+j]?:=by rw[o]
   rw[TV,eT (by omega),NS,yj y s k hi] at q;rw[r,q]
  refine⟨p,λi hi=>⟨?_,?_,?_⟩⟩;{exact b i 0 hi (by omega)};{exact b i 1 hi (by omega)};{exact b i 2 hi (by omega)}
def nP (w:E)(x y ZZ:ZB)(t:ZK):∀j u,[x,y,ZZ][j]?=Q u->(ZV w (N #[x,y,ZZ] t)).cell? (((T (A (z w)) 0 Z):Addr).add j)=Q u:=by
 intro j u b;match j,b with
 |0,b=>simp at b;subst b;simp[Addr.add]
 |1,b=>simp at b;subst b;simp[Addr.add]
 |2,b=>simp at b;subst b;simp[Addr.add]
def BR:(Pg.info? 119).map (λi=>(i.zero,i.size,i.bytes))=Q (Q (ZJ #[ZF ZA,J I 0,U ⟨#[]⟩]),3,32):=by kernel_rfl
def zQ{b:Nat}{v:ZB}{i:List ZB}(h:ZX w b e 3 v n i)(hn:0<n):∃g c,v=Y (Q (T g 0 Z)) n c:=by
 rcases h.2 with⟨f,h0⟩|⟨g,j_,cur,f,_⟩
 {omega};{exact⟨g,j_,f⟩}
def GI:ZB->Nat
 |Y _ n _=>n
 |_=>0
def nQ {f:Nat->au}{p:Nat}:∀k,k<=(f p).f->(∀i,i<k->eA f p i=ZA)->eF f p ((f p).f - k) k=bD f p
 |0,_,_=>rfl
 |k+1,hk,h=>by have:=nQ (f:=f) (p:=p) k (by omega) λi hi=>h i (by omega);rw[<-this,show(f p).f - k=((f p).f - (k+1))+1 by omega,vh (h k (by omega))]
def Fh{k:Nat}(hk:k<(f p).f)(h:∀i,i<k->eA f p i=ZA)(b:eA f p k=ZH):bD f p=k:=by rw[<-nQ k (by omega) h,show(f p).f - k=((f p).f - (k+1))+1 by omega,vi b]
def Fi (h:∀i,i<(f p).f->eA f p i=ZA):bD f p=(f p).f:=by rw[<-nQ (f p).f ly h,UV];rfl
def vm{k:Nat}(b:k<(f p).f)(h:∀i,i<k->eA f p i=ZA)(g:eA f p k=ZH):gB f p=4:=by unfold gB;rw[Fh b h g,eT b]
def vq (h:∀i,i<(f p).f->eA f p i=ZA):gB f p=if (bB f p (f p).f).K=ZA then 4 else if (bB f p (f p).f).M=(f p).M/\(bB f p (f p).f).H.toList=(f p).H.toList then 0 else 5:=by unfold gB;rw[Fi h,eI (Nat.lt_irrefl _)]
def Fj{k:Nat}(b:bc f n=ZH)(g:p<n)(hk3:(f p).L=3)(hk:k<=(f p).f):oB (f p).q (f p).h (yOf f p) k=bB f p k:=by
 have j:valid (f p).q (f p).h=ZH/\(f p).f<=200:=by
  rcases(ed b p g).2 with h|h|h;{omega};{omega};{exact⟨h.2.2.2.1,h.2.2.2.2⟩}
 have l:bU (yOf f p) k=ZH:=vj λi hi=>yg b λm=>Nat.lt_trans (fq b p g i (by omega) m).2.1 g;unfold oB bB;rw[eI (by rw[j.1];simp),eI (by omega),eI (by rw[l];simp)]
def BU (r m n j_:Nat)(f:Nat->au)(p:Nat)(w:E)(_hn:(n:Int)<=400)(ZY:bc f n=ZH)(V:p<n)(hk:(f p).L=3)(M:Qk w r m n f)(n8:fo (f p)):Qw Pg 29 #[ZJ #[Y (Q (T r m Z)) n j_],J I p] w λe w'=>e=ZI (J I (gB f p))/\Below (A (z w)) w w':=by
 obtain⟨i0,hi,Fm,Fd,JG⟩:=NO BR;have hN:(f p).f<=200:=by
  rcases(ed ZY p V).2 with h|h|h;{omega};{omega};{exact h.2.2.2.2}
 have hv:valid (f p).q (f p).h=ZH:=by
  rcases(ed ZY p V).2 with h|h|h;{omega};{omega};{exact h.2.2.2.1}
 have Fk:(f p).h<=200:=by have:=(bJ hv).2.2;omega
 have JI:=ae (λk (Hx:k<=(f p).f)=>Fj ZY V hk Hx);have DE:=ae (λj (hj:j<(f p).f) (ha:((f p).m j).ask=ZH)=>(⟨(fq ZY p V j hj ha).1,Nat.lt_trans (fq ZY p V j hj ha).2.1 V⟩:0<=((f p).m j).G/\((f p).m j).G.toNat<n));have JH:=ae (show ∀i,i<(f p).h->((f p).q i).s.size<=maxLen from n8.2.2.1.2);have ZQ:=ae M;obtain⟨o0,o1,o2,o3,⟨a0,o,o4,hI⟩,⟨a1,q,o5,ph⟩⟩:=M.2 p V;obtain⟨y,ZZ,rfl,qr⟩:∃y ZZ,a0=Q (T y ZZ Z)/\Q_ w y ZZ (f p).h (f p).q:=by
  have:=(bJ hv).2;rcases hI with h|⟨b,off,e,hr⟩
  {omega};{exact⟨b,off,e,hr⟩}
 have HI:=ae qr;have th:=ae ph;have H:=M.1;clear qr hI ph M n8 ZY hk hv;have hpn:(p:Int)<n:=by omega
 obtain⟨C,hC⟩:∃C,C=gB f p:=⟨_,rfl⟩
 rw[<-hC];have ZM:=ae hC;clear hC;have P:=ae ((BS w).alloc ly (N #[Y (Q (T r m Z)) n j_] 25));have W:=ae (P.i.alloc P.i.size (N #[U (f p).e,J I (f p).L,J I (f p).M,U (f p).H,Y (Q (T y ZZ Z)) (f p).h o,Y a1 (f p).f q] 62));have zD:A (z (ZV (ZV w (N #[Y (Q (T r m Z)) n j_] 25)) (N #[U (f p).e,J I (f p).L,J I (f p).M,U (f p).H,Y (Q (T y ZZ Z)) (f p).h o,Y a1 (f p).f q] 62)))=A (z w)+2:=by simp
 have kA:ZW (ZV (ZV w (N #[Y (Q (T r m Z)) n j_] 25)) (N #[U (f p).e,J I (f p).L,J I (f p).M,U (f p).H,Y (Q (T y ZZ Z)) (f p).h o,Y a1 (f p).f q] 62)) (T (A (z w)) 0 Z)=Q (Y (Q (T r m Z)) n j_):=by simp[go_sem]
 have ur:ZW (ZV (ZV w (N #[Y (Q (T r m Z)) n j_] 25)) (N #[U (f p).e,J I (f p).L,J I (f p).M,U (f p).H,Y (Q (T y ZZ Z)) (f p).h o,Y a1 (f p).f q] 62)) (T (A (z w)+1) 2 Z)=Q (J I (f p).M):=by simp[go_sem]
 have n9:ZW (ZV (ZV w (N #[Y (Q (T r m Z)) n j_] 25)) (N #[U (f p).e,J I (f p).L,J I (f p).M,U (f p).H,Y (Q (T y ZZ Z)) (f p).h o,Y a1 (f p).f q] 62)) (T (A (z w)+1) 3 Z)=Q (U (f p).H):=by simp[go_sem]
 have ro:ZW (ZV (ZV w (N #[Y (Q (T r m Z)) n j_] 25)) (N #[U (f p).e,J I (f p).L,J I (f p).M,U (f p).H,Y (Q (T y ZZ Z)) (f p).h o,Y a1 (f p).f q] 62)) (T (A (z w)+1) 4 Z)=Q (Y (Q (T y ZZ Z)) (f p).h o):=by simp[go_sem]
 have bt:ZW (ZV (ZV w (N #[Y (Q (T r m Z)) n j_] 25)) (N #[U (f p).e,J I (f p).L,J I (f p).M,U (f p).H,Y (Q (T y ZZ Z)) (f p).h o,Y a1 (f p).f q] 62)) (T (A (z w)+1) 5 Z)=Q (Y a1 (f p).f q):=by simp[go_sem]
 have p0:=(P.i.O (p:=(T r (m+p*6) Z)) H).k o0;have p1:=(P.i.O (p:=(T r (m+p*6+1) Z)) H).k o1;have p2:=(P.i.O (p:=(T r (m+p*6+2) Z)) H).k o2;have p3:=(P.i.O (p:=(T r (m+p*6+3) Z)) H).k o3;have p4:=(P.i.O (p:=(T r (m+p*6+4) Z)) H).k o4;have p5:=(P.i.O (p:=(T r (m+p*6+5) Z)) H).k o5;clear o0 o1 o2 o3 o4 o5;have OL:=ae (by have h:=xP (ZV (ZV w (N #[Y (Q (T r m Z)) n j_] 25)) (N #[U (f p).e,J I (f p).L,J I (f p).M,U (f p).H,Y (Q (T y ZZ Z)) (f p).h o,Y a1 (f p).f q] 62)) 119 3;rw[zD] at h;exact h);have BL:=ae ((a8 (A (z w)+2) (ZV (ZV w (N #[Y (Q (T r m Z)) n j_] 25)) (N #[U (f p).e,J I (f p).L,J I (f p).M,U (f p).H,Y (Q (T y ZZ Z)) (f p).h o,Y a1 (f p).f q] 62))).alloc (by rw[zD];exact p7 _) (N #[] 119));go_enter func29,ntmps29;go_wp2;clear p0 p1 p2 p3 p4 p5;generalize World.alloc (World.alloc w _) _=sm at W zD kA ur n9 ro bt OL BL ⊢;generalize World.alloc sm _=W0 at OL BL ⊢;go_loopw [6] (λv wr=>∃(k g c:Nat),k<=(f p).f/\v=Y (Q (T g 0 Z)) k c/\Hid (wr.ownsRow (A (z w)+2) 119 3 (Y (Q (T g 0 Z)) k c) k (mc (yOf f p) k))/\Hid (∀i,i<k->eA f p i=ZA)/\Hid (Below (A (z w)+2) sm wr)) (λv _=>(f p).f+1 - GI v);case atStart=>exact⟨0,A (z w)+2,0,by omega,rfl,OL.i,λi hi=>absurd hi (NE _),BL.i⟩
 case round =>
  obtain⟨k,g,c,JJ,rfl,HO,HF,HB⟩:=hrel;have RW:=ae (W.i.k (HB.i.P (by omega)));have d4:=(HB.i.O (p:=(T (A (z w)+1) 4 Z)) (show (A (z w))+1<A (z w)+2 by omega)).k ro;go_wp2_with fail;clear d4;refine(nO y ZZ (f p).h o g 0 k c (f p).q (yOf f p) _ (by omega) (HI.i.aa RW.i ly) (xv HO.i) JH.i).P ?_;rintro e w1⟨rfl,ex⟩;rw[JI.i k JJ];obtain⟨t,ht⟩:∃t,t=bB f p k:=⟨_,rfl⟩
  rw[<-ht];have ZT:=ae ht;have ZO:=ae (HB.i.k (ex.P (by have:=HB.i.size;omega)));have O1:=ae (J_ HO.i ex ly);have ZL:A (z w)+2<=A (z w1):=by have:=ZO.i.size;omega
  have hz2:A (z w)+1<A (z w1):=by omega
  have hz3:A (z w)<A (z w1):=by omega
  have d2:=(ZO.i.O (p:=(T (A (z w)+1) 2 Z)) (show (A (z w))+1<A (z w)+2 by omega)).k ur;have d3:=(ZO.i.O (p:=(T (A (z w)+1) 3 Z)) (show (A (z w))+1<A (z w)+2 by omega)).k n9;have d5:=(ZO.i.O (p:=(T (A (z w)+1) 5 Z)) (show (A (z w))+1<A (z w)+2 by omega)).k bt;have ZP:=ae (ZO.i.alloc ZL (N #[ZF t.K,J I t.M,U t.H,ZF t.ask,U t.e,J I t.j] 116));have Z8:=ae (W.i.k (ZP.i.P (by omega)));have X:=ae (O1.i.alloc (N #[ZF t.K,J I t.M,U t.H,ZF t.ask,U t.e,J I t.j] 116));clear ht ex HO HB;simp only[Turn.v];cases ho:t.K with
  |true =>
   rw[ho] at ZP Z8 X;by_cases G:k<(f p).f
   ·have At:(k:Int)<(f p).f:=by omega
    have u:Hid (eA f p k=ZH):=by show _=_;unfold eA;rw[<-ZT.i];rw[ho];rfl
    have x:Hid (C=4):=by show _=_;rw[ZM.i];exact vm G HF.i u.i
    go_wp2;go_ret;exact⟨by simp[x.i],Z8.i⟩
   ·obtain rfl:k=(f p).f:=by omega
    have S:=ae (vq HF.i);by_cases hc:t.M=(f p).M
    ·cases htx:(t.H.toList == (f p).H.toList) with
     |true =>
      have x:Hid (C=0):=by show _=_;rw[ZM.i,S.i,<-ZT.i,ho,eI (by simp),eT ⟨hc,TS.1 htx⟩]
      go_wp2;go_ret;exact⟨by simp[x.i],W.i.k ((ZO.i.alloc ZL _).P (by omega))⟩
     |false =>
      have x:Hid (C=5):=by show _=_;rw[ZM.i,S.i,<-ZT.i,ho,eI (by simp),eI (λh=>by rw[h.2] at htx;simp at htx)]
      go_wp2;go_ret;exact⟨by simp[x.i],W.i.k ((ZO.i.alloc ZL _).P (by omega))⟩
    ·have x:Hid (C=5):=by show _=_;rw[ZM.i,S.i,<-ZT.i,ho,eI (by simp),eI (λh=>hc h.1)]
     have Fk:(t.M == (f p).M)=ZA:=by simpa using hc
     go_wp2;go_ret;exact⟨by simp[x.i],W.i.k ((ZO.i.alloc ZL _).P (by omega))⟩
  |false =>
   rw[ho] at ZP Z8 X;by_cases G:k<(f p).f
   ·have At:(k:Int)<(f p).f:=by omega
    have hge:decide ((f p).f<=k)=ZA:=by simp;omega
    obtain⟨bl,offl,rfl,la⟩:=(th.i.aa Z8.i ly).resolve_left (by omega);obtain⟨r0,r1,ZS,L⟩:=la.2 k G;obtain⟨l,hl⟩:∃l,(f p).m k=l:=⟨_,rfl⟩
    rw[hl] at r0 r1 ZS L;obtain⟨nm,ask,hs,at_⟩:=l;dsimp only at r0 r1 ZS L;have O:=ae hl;clear la hl;have R:(t.e.toList == nm.toList)=(nm.toList == t.e.toList):=by rw[OH,TS,TS];exact eq_comm
    have WY:(eA f p k=ZH/\((nm.toList == t.e.toList)=ZA\/(nm.toList == t.e.toList)=ZH/\(t.ask=ZH/\ask=ZA\/t.ask=ZA/\ask=ZH)))\/(eA f p k=ZA/\(nm.toList == t.e.toList)=ZH/\t.ask=ask):=by unfold eA;rw[<-ZT.i,O.i,ho,R];cases (nm.toList == t.e.toList)<;>cases t.ask<;>cases ask<;>simp
    rcases WY with⟨u,WY⟩|⟨u,hn,ZN⟩
    ·replace u:=ae u;have x:Hid (C=4):=by show _=_;rw[ZM.i];exact vm G HF.i u.i
     rcases WY with hn|⟨hn,⟨ZN,rfl⟩|⟨ZN,rfl⟩⟩
     all_goals
      have GS:=R.k hn;clear R
      (try rw[ZN] at ZP Z8 X r0 r1 ZS L)
      go_wp2_with fail;go_quiet (fail);have ZR:=ae (AD Z8.i nq);clear r0 r1 ZS L ZP Z8 X d2 d3 d5;generalize World.drewN (World.alloc w1 _) nq=WQ at ZR ⊢;go_wp2;go_ret;exact⟨by simp[x.i],ZR.i⟩
    ·replace u:=ae u;have GS:=R.k hn;clear R;rw[ZN] at ZP Z8 X r0 r1 ZS L;have HY:Hid (eJ f ⟨nm,ask,hs,at_⟩=yOf f p k):=by show _=_;unfold yOf;rw[O.i]
     have Id:Hid (ask=ZH->0<=at_/\at_.toNat<n):=λha=>by have:=DE.i k G (by rw[O.i];exact ha);rw[O.i] at this;exact this
     cases ask
     all_goals
      go_wp2_with fail;go_quiet (fail);have ZR:=ae (AD ZP.i nq);have RQ:=ae (W.i.k (ZR.i.P (by omega)));have OQ:=ae (J_ X.i (AD br nq) ly);clear r0 r1 ZS L ZP Z8 X d2 d3 d5;generalize World.drewN (World.alloc w1 _) nq=WQ at ZR RQ OQ ⊢;have kA2:=(ZR.i.O (p:=(T (A (z w)) 0 Z)) (show (A (z w))<A (z w)+2 by omega)).k kA;have d5:=(ZR.i.O (p:=(T (A (z w)+1) 5 Z)) (show (A (z w))+1<A (z w)+2 by omega)).k bt;have Bk:=(th.i.aa RQ.i ly).resolve_left (by omega);obtain⟨bl2,offl2,eb,fd⟩:=Bk;simp only[L8,RJ,and_true] at eb;obtain⟨rfl,rfl⟩:=eb;obtain⟨r0,r1,ZS,L⟩:=fd.2 k G;rw[O.i] at r0 r1 ZS L;dsimp only at r0 r1 ZS L;have mv:A (z w)+2<=A (z WQ):=by have:=ZR.i.size;omega
      clear fd;go_wp2_with fail
      go_region_law (first
       |(refine dR rfl (.tmp 67) (.tmp 75) 114 rfl (A (z w)+2) 119 i0 (ZJ #[ZF ZA,J I 0,U ⟨#[]⟩]) 3 32 YM hi Fm Fd JG rfl (by decide) (Y (Q (T g 0 Z)) k c) k (mc (yOf f p) k) (by simp[Act.eval]) (by first|exact O5.i.alloc _|exact O5.i.drew.alloc _|exact O5.i.drew.drew.alloc _) (T (A (z w5)) 0 Z) 1 1 (lu (yOf f p) k) (by simp[Act.eval]) rfl (by first|exact nP w5 _ _ _ _|exact nP w5.drew _ _ _ _|exact nP w5.drew.drew _ _ _ _) (by simp[lu,Value.oneCell']) (by unfold maxLen;omega) (by omega) (by simp<;>omega) ?_;intro v6 w6 aq K DQ;have O6:=ae aq;(first|have B6:=ae (bg (B5.i.alloc ld _) K (by simp<;>omega) (λj e=>(O5.i.lt j e).1))|have B6:=ae (bg (B5.i.drew.alloc (by simpa using ld) _) K (by simp<;>omega) (λj e=>(O5.i.lt j e).1)));clear aq K DQ)
       |(go_simp;go_at_call 68;(first|(guard_hyp ZN:t.ask=ZH;refine(nN r m n j_ f ⟨nm,ZH,hs,at_⟩ _ ?_ (λ_=>Id.i (by simp))).P ?_)|refine(nN r m n j_ f ⟨nm,ZA,hs,at_⟩ _ ?_ (λh=>by cases h)).P ?_);(first|exact ZQ.i.aa RQ.i ly|exact ZQ.i.aa RQ.i.drew ly|exact ZQ.i.aa RQ.i.drew.drew ly|exact ZQ.i.aa RQ.i.drew.drew.drew ly);rintro e w5⟨rfl,D⟩;rw[HY.i];have D5:Hid (Below (A (z WQ)) WQ w5):=⟨D.os,D.tape,D.output,D.size,D.p⟩;have O5:=ae (J_ OQ.i D5.i ly);have B5:=ae (ZR.i.k (D5.i.P mv));have ld:A (z w)+2<=A (z w5):=(nX mv D5.i.size);clear D))
      all_goals
       obtain⟨g6,c6,rfl⟩:=zQ O6.i (by omega);go_simp;go_wp2
       exact⟨⟨k+1,g6,c6,by omega,rfl,O6.i,λi hi=>by
        by_cases e:i=k
        ·subst e;exact u.i
        ·exact HF.i i (by omega),B6.i⟩,by simp[GI];omega⟩
   ·obtain rfl:k=(f p).f:=by omega
    have S:=ae (vq HF.i);have x:Hid (C=4):=by show _=_;rw[ZM.i,S.i,<-ZT.i,ho,eT rfl]
    go_wp2_with fail;go_quiet (fail);go_wp2;go_ret;exact⟨by simp[x.i],by first|exact AD Z8.i _|exact Z8.i⟩
