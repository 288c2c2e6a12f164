import Derived.Test.YtcnilonhfpimnaaGreatDoorFW
import Derived.Deep.CutBlock
set_option linter.all false
set_option maxRecDepth 1000000
set_option maxHeartbeats 8000000
open Go renaming Addr.mk->T,Value.slice->Z,Value.string->U,Value.int->J,Value.bool->ZF,Value.agg->ZJ,Obj.cells->N,IntKind.i64->I,World->E,Value->ZB,TypeId->ZK,Ending.returned->ZI,World.heap->z,World.ownsRow->ZW,World.alloc->ZU,World.cell?->ZV,Proofs.Tryz.prog->Pg
open Option renaming none->Y,some->Q
open Bool renaming false->ZA,true->ZH
open Array renaming size->A
open List renaming length->B
namespace Go.Proofs.YtcnilonhfpimnaaGreatDoor.Vp
open Tryz RowKit
variable {p n g zd v_ x_:Nat}{w:E}{f:Nat->au}{b s:List F_}{y:Nat->aD}{e:ZK}
def zP (pb po yh fd zd v_ x_:Nat)(f:Nat->Ins)(a:O_)(s:List F_)(j_ b2 o2 n JK At:Nat)(y:Nat->aD)(w:E)
  (hP:Qj w pb po yh f) (hY:RowReply w b2 o2 n y) (hO:ZW w At 9 1 (Z a (B s) j_) (B s) (strs s)) (hp:zd<=2000) (hst:v_<=2000) (hlk:x_<=200) (hs:B s<=50) (JY:∀x∈s,x.size<=2000) (JR:dn f yh=ZH) :
  Calls Pg 104 #[ZJ #[Z (Q (T pb po Y)) yh fd],ec zd (Z a (B s) j_) v_ x_ ZA 0 ⟨#[]⟩ ZA ⟨#[]⟩ ZA,Z (Q (T b2 o2 Y)) n JK] w λe w'=>∃v,e=ZI v/\SoIs w' (A (z w)) v (gn f yh y n zd v_ x_ s)/\Below (A (z w)) w w':=by
 obtain⟨so,mv⟩:∃so,so=gn f yh y n zd v_ x_ s:=⟨_,rfl⟩
 rw[<-mv];have S0:=ae mv;clear mv;have HP:=ae hP;have HY:=ae hY;have HO:=ae hO;have HK:=ae JR;have HL:=ae JY;clear hP hY hO JR JY;have A0:=ae ((((BS w).alloc ly (N #[Z (Q (T pb po Y)) yh fd] 37)).alloc (by simp) (N #[J I zd,Z a (B s) j_,J I v_,J I x_,ZF ZA,J I 0,U ⟨#[]⟩,ZF ZA,U ⟨#[]⟩,ZF ZA] 170)).alloc (by simp<;>omega) (N #[J I 0,Z Y 0 0,J I 0,J I 0,ZF ZA,J I 0,U ⟨#[]⟩,ZF ZA,U ⟨#[]⟩,ZF ZA] 170));have R0:=ae ((lp (ZU w (N #[Z (Q (T pb po Y)) yh fd] 37)) (J I zd) (Z a (B s) j_) (J I v_) (J I x_) (ZF ZA) (J I 0) (U ⟨#[]⟩) (ZF ZA) (U ⟨#[]⟩) (ZF ZA) 170 (A (z w)+1) (by simp)).al (N #[J I 0,Z Y 0 0,J I 0,J I 0,ZF ZA,J I 0,U ⟨#[]⟩,ZF ZA,U ⟨#[]⟩,ZF ZA] 170));have Z0:=ae (lp (ZU (ZU w (N #[Z (Q (T pb po Y)) yh fd] 37)) (N #[J I zd,Z a (B s) j_,J I v_,J I x_,ZF ZA,J I 0,U ⟨#[]⟩,ZF ZA,U ⟨#[]⟩,ZF ZA] 170)) (J I 0) (Z Y 0 0) (J I 0) (J I 0) (ZF ZA) (J I 0) (U ⟨#[]⟩) (ZF ZA) (U ⟨#[]⟩) (ZF ZA) 170 (A (z w)+1+1) (by simp));go_enter func104,ntmps104;go_wp2_with fail;refine(sA zd (by omega) _).P ?_;rintro e l⟨rfl,bt⟩;have hD:(⟨(Lib.decDigits zd).toArray⟩:F_)=dV zd:=rfl;rw[hD];have R1:=ae (R0.aa bt (by simp<;>omega));have Z1:=ae (Z0.aa bt (by simp<;>omega));have B1:=ae (A0.k (bt.P (by simp<;>omega)));have pP:ZV l (T (A (z w)) 0 Y)=Q (Z (Q (T pb po Y)) yh fd):=(bt.O (p:=(T (A (z w)) 0 Y)) (by simp<;>omega)).k (IW _ _ _ _ _ _ _ rfl);have O1:=ae (K_ HO B1 ly);have hz1:A (z w)+1+1<A (z l):=Z1.1;have hz0:A (z w)<A (z l):=by omega
 have hz01:A (z w)+1<A (z l):=by omega
 clear bt A0 R0 Z0 hD;obtain⟨m,⟨c0,f0⟩,⟨c1,f1⟩,⟨c2,ZM⟩,⟨c3,ZN⟩,⟨c4,P⟩,⟨c5,ZL⟩,⟨c6,X⟩,⟨ZP,V⟩,⟨ZS,R⟩,c9,S⟩:=R1.i;rcases Int.lt_or_le (zd:Int) yh with h1|h1;rotate_left;{have S1:Hid (so=.inr (.inl (2,(dV zd),v_))):=S0.k (show gn f yh y n zd v_ x_ s=.inr (.inl (2,(dV zd),v_)) by have h:yh<=zd:=(by omega);simp[gn,iE,bQ,cU,h]);go_wp2_with fail;refine(fN _ _ _ _ _ _ _ _ _ _ _ _ _ _ _).P ?_;rintro e w5⟨rfl,b⟩;have ZE:=ae (Z1.aa b Z1.1);have D:=ae (B1.k (b.P B1.size));clear b;clear m c0 f0 c1 f1 c2 ZM c3 ZN c4 P c5 ZL c6 X ZP V ZS R c9 S;obtain⟨la,⟨z0,y0⟩,⟨z1,y1⟩,⟨z2,y2⟩,⟨z3,y3⟩,⟨H,y4⟩,⟨K,y5⟩,⟨L,y6⟩,⟨ZQ,y7⟩,⟨G,y8⟩,O,y9⟩:=ZE.i;go_wp2;refine bp (v:=ec zd (Z a (B s) j_) v_ x_ ZH 2 (dV zd) ZA ⟨#[]⟩ ZA) (by simp[results,Q9,go_sem,z0,z1,z2,z3,H,K,L,ZQ,G,O]) rfl ⟨_,rfl,(by rw[S1.i];exact⟨_,_,_,_,_,rfl⟩),dS D (by omega) _ _ _ _ _ _ _ _ _ _⟩};rcases Bool.eq_false_or_eq_true ((v_:Int) == 2000) with h2|h2;{have S1:Hid (so=.inr (.inl (3,⟨#[]⟩,v_))):=S0.k (show gn f yh y n zd v_ x_ s=.inr (.inl (3,⟨#[]⟩,v_)) by have h:¬ yh<=zd:=(by omega);have e:v_=2000:=(by simp at h2;omega);simp[gn,iE,bQ,cU,h,e]);go_wp2_with fail;refine(fN _ _ _ _ _ _ _ _ _ _ _ _ _ _ _).P ?_;rintro e w5⟨rfl,b⟩;have ZE:=ae (Z1.aa b Z1.1);have D:=ae (B1.k (b.P B1.size));clear b;clear m c0 f0 c1 f1 c2 ZM c3 ZN c4 P c5 ZL c6 X ZP V ZS R c9 S;obtain⟨la,⟨z0,y0⟩,⟨z1,y1⟩,⟨z2,y2⟩,⟨z3,y3⟩,⟨H,y4⟩,⟨K,y5⟩,⟨L,y6⟩,⟨ZQ,y7⟩,⟨G,y8⟩,O,y9⟩:=ZE.i;go_wp2;refine bp (v:=ec zd (Z a (B s) j_) v_ x_ ZH 3 ⟨#[]⟩ ZA ⟨#[]⟩ ZA) (by simp[results,Q9,go_sem,z0,z1,z2,z3,H,K,L,ZQ,G,O]) rfl ⟨_,rfl,(by rw[S1.i];exact⟨_,_,_,_,_,rfl⟩),dS D (by omega) _ _ _ _ _ _ _ _ _ _⟩};have hi:=j7 HK.i (show zd<yh by omega);simp only[cL,nD] at hi;obtain⟨op,JL⟩:=p9 (show 0<=(f zd).op by omega);obtain⟨k,hk⟩:=p9 hi.2.2.2.1;have Kd:dX (f zd).op<=2000:=by unfold dX;split<;>(try split)<;>omega
 have J5:bW (f zd).op<=2000:=by unfold bW;split<;>omega
 have Ki:k<=2000:=by omega
 have J6:(f zd).s.size<=2000:=by omega
 have ur:1<=op:=by omega
 have JW:op<=15:=by omega
 have EP:Hid (so=if fg op s=ZA then .inr (.inl (2,(dV zd),(v_+1))) else iE y n zd (v_+1) x_ (cK op k (f zd).s zd x_ s)):=by
  show _=_;rw[S0.i];have q1:¬ yh<=zd:=by omega
  have q2:¬ v_=2000:=by simp at h2;omega
  simp only[gn,bQ,cU,q1,q2,UI,JL,hk,Int.toNat_natCast];split<;>rfl
 clear hi Kd J5 HK;obtain⟨d0,d1,d2⟩:=(HP.aa B1 ly).2 zd (by omega);rw[JL] at d0;rw[hk] at d2;have hpb:pb<A (z w):=HP.1;have Kc:=(Q_ l (T (A (z w)+1) 2 Y) (T pb (po+zd*3) Y) (J I ((v_:Int)+1)) (by simp;omega)).k d0;have Kp:=(Q_ l (T (A (z w)+1) 2 Y) (T pb (po+zd*3+1) Y) (J I ((v_:Int)+1)) (by simp;omega)).k d1;have J7:=(Q_ l (T (A (z w)+1) 2 Y) (T pb (po+zd*3+2) Y) (J I ((v_:Int)+1)) (by simp;omega)).k d2;have JZ:∀j,A (z w)<=j->Value.ownBlock (Z a (B s) j_)≠Q j:=λj hj e=>by have:=(HO.lt j e).2;omega
 have R2:=ae ((R1.set2 (J I ((v_:Int)+1))).al (N #[J I op,U (f zd).s,J I k] 102));have Z2:=ae ((Z1.other (T (A (z w)+1) 2 Y) (J I ((v_:Int)+1)) (by simp)).al (N #[J I op,U (f zd).s,J I k] 102));have O2:=ae ((WG O1 (a:=(T (A (z w)+1) 2 Y)) (JZ _ (by simp)) (J I ((v_:Int)+1))).alloc (N #[J I op,U (f zd).s,J I k] 102));have B2:=ae ((B1.setCell (p:=(T (A (z w)+1) 2 Y)) (by simp) (J I ((v_:Int)+1))).alloc (by have:=B1.size;simpa using this) (N #[J I op,U (f zd).s,J I k] 102));have g0:((l.setCell (T (A (z w)+1) 2 Y) (J I ((v_:Int)+1))).alloc (N #[J I op,U (f zd).s,J I k] 102)).cell? (T (A (z l)) 0 Y)=Q (J I op):=kH _ _ _ _ _ _ (by simp) rfl;have g1:((l.setCell (T (A (z w)+1) 2 Y) (J I ((v_:Int)+1))).alloc (N #[J I op,U (f zd).s,J I k] 102)).cell? (T (A (z l)) 1 Y)=Q (U (f zd).s):=kH _ _ _ _ _ _ (by simp) rfl;have g2:((l.setCell (T (A (z w)+1) 2 Y) (J I ((v_:Int)+1))).alloc (N #[J I op,U (f zd).s,J I k] 102)).cell? (T (A (z l)) 2 Y)=Q (J I k):=kH _ _ _ _ _ _ (by simp) rfl;have ld:A (z l)<((l.setCell (T (A (z w)+1) 2 Y) (J I ((v_:Int)+1))).alloc (N #[J I op,U (f zd).s,J I k] 102)).heap.size:=by simp
 clear JZ;go_wp2_with fail;refine(xo op _ ur JW).P ?_;rintro e w9⟨rfl,Kj⟩;subst Kj;clear m c0 f0 c1 f1 c2 ZM c3 ZN c4 P c5 ZL c6 X ZP V ZS R c9 S;clear d0 d1 d2 Kc Kp J7 JL hk pP;generalize World.alloc (World.setCell l _ _) _=W at R2 Z2 O2 B2 g0 g1 g2 ld ⊢;obtain⟨m,⟨c0,f0⟩,⟨c1,f1⟩,⟨c2,ZM⟩,⟨c3,ZN⟩,⟨c4,P⟩,⟨c5,ZL⟩,⟨c6,X⟩,⟨ZP,V⟩,⟨ZS,R⟩,c9,S⟩:=R2.i;have hpt:=Fb op;have Kr:aX op<=2:=by unfold aX;split<;>(try split)<;>omega
 by_cases hb:fg op s=ZA
 ·have S1:Hid (so=.inr (.inl (2,(dV zd),(v_+1)))):=by rw[EP.i,eT hb];rfl
  have hA:(B s:Int)<(aX op:Nat)\/¬ (B s:Int)<(aX op:Nat)/\(50:Int)<(B s:Int) - (aX op:Nat)+(bN op:Nat):=by simp only[fg,NZ] at hb;omega
  clear hb EP;rcases hA with hA|⟨hA,JU⟩
  iterate 2
   ·go_wp2_with fail
    refine(fN _ _ _ _ _ _ _ _ _ _ _ _ _ _ _).P ?_;rintro e w5⟨rfl,b⟩;have ZE:=ae (Z2.aa b Z2.1);have D:=ae (B2.k (b.P B2.size));clear b;clear m c0 f0 c1 f1 c2 ZM c3 ZN c4 P c5 ZL c6 X ZP V ZS R c9 S;obtain⟨la,⟨z0,y0⟩,⟨z1,y1⟩,⟨z2,y2⟩,⟨z3,y3⟩,⟨H,y4⟩,⟨K,y5⟩,⟨L,y6⟩,⟨ZQ,y7⟩,⟨G,y8⟩,O,y9⟩:=ZE.i;go_wp2;refine bp (v:=ec zd (Z a (B s) j_) ((v_:Int)+1) x_ ZH 2 (dV zd) ZA ⟨#[]⟩ ZA) (by simp[results,Q9,go_sem,z0,z1,z2,z3,H,K,L,ZQ,G,O]) rfl ⟨_,rfl,(by rw[S1.i];exact⟨_,_,_,_,_,rfl⟩),dS D (by omega) _ _ _ _ _ _ _ _ _ _⟩
 have JV:aX op<=B s/\(B s) - aX op+bN op<=50:=by simpa[fg] using hb
 have hA:¬ (B s:Int)<(aX op:Nat):=by omega
 have JU:¬ (50:Int)<(B s:Int) - (aX op:Nat)+(bN op:Nat):=by omega
 have SO:Hid (so=iE y n zd (v_+1) x_ (cK op k (f zd).s zd x_ s)):=by rw[EP.i,eI hb];rfl
 have HB:=ae JV.1;have Kn:(s.drop (aX op)).length+bN op<=50:=by rw[NO];omega
 clear hb JV EP;obtain⟨ZX,JS⟩:∃ZX,ZX=lZ op s:=⟨_,rfl⟩
 obtain⟨ZZ,bt⟩:∃ZZ,ZZ=rI op s:=⟨_,rfl⟩
 obtain⟨r,n9⟩:∃r,r=s.drop (aX op):=⟨_,rfl⟩
 rw[<-n9] at Kn;have EA:=ae JS;have EB:=ae bt;have ER:=ae n9;clear S0 JS bt n9;go_upto_if 68 with fail;go_cut [11] (λsa ZR=>sa=U ZX/\W=ZR);case first =>
  by_cases ht:(0:Int)<(aX op:Nat)
  ·rcases s with _|⟨x,q⟩
   {exact absurd HB.i (by simp;omega)}
   ·obtain⟨g,c,e⟩:=iA O2 (by simp);obtain⟨rfl,-⟩:=T6 e;have t1:=Hl O2.i;have Ko:B q<=50:=by simp at hs;omega
    obtain rfl:ZX=x:=by rw[EA.i];unfold lZ;rw[eT (by omega)];rfl
    rw[vF] at c1;go_wp2;go_meet;exact⟨rfl,rfl⟩
  ·obtain rfl:ZX=⟨#[]⟩:=by rw[EA.i];unfold lZ;rw[eI (by omega)]
   go_wp2;go_meet;exact⟨rfl,rfl⟩
 case rest =>
 obtain⟨rfl,rfl⟩:=hcut;go_upto_if 78 with fail;go_cut [12] (λsa ZR=>sa=U ZZ/\W=ZR);case first =>
  by_cases ht:(1:Int)<(aX op:Nat)
  ·rcases s with _|⟨x,_|⟨ZY,q⟩⟩
   {exact absurd HB.i (by simp;omega)};{exact absurd HB.i (by simp;omega)}
   ·obtain⟨g,c,e⟩:=iA O2 (by simp);obtain⟨rfl,-⟩:=T6 e;obtain⟨t1,t2⟩:=Hm O2;have Ko:B q+1<=50:=by simp at hs;omega
    obtain rfl:ZZ=ZY:=by rw[EB.i];unfold rI;rw[eT (by omega)];rfl
    rw[vF,vF] at c1;go_wp2;go_meet;exact⟨rfl,rfl⟩
  ·obtain rfl:ZZ=⟨#[]⟩:=by rw[EB.i];unfold rI;rw[eI (by omega)]
   go_wp2;go_meet;exact⟨rfl,rfl⟩
 case rest =>
 obtain⟨rfl,rfl⟩:=hcut;have hl:B s=B r+aX op:=by rw[ER.i,NO];have:=HB.i;omega
 go_upto_region 17 with fail;go_cut [13] (λsr ZR=>∃ZO cr,sr=Z (Q (T ZO 0 Y)) (B r) cr/\(A (z W))<=ZO/\Hid (ZW ZR (A (z W)) 9 1 (Z (Q (T ZO 0 Y)) (B r) cr) (B r) (strs r))/\Hid (Below (A (z W)) W ZR));case first =>
  rcases BJ O2.i with⟨rfl,hz,rfl⟩|⟨g,rfl⟩
  ·obtain rfl:s=[]:=VJ.1 hz;obtain rfl:r=[]:=by rw[ER.i];simp
   have JT:aX op=0:=by simpa using HB.i
   have h0:((aX op:Nat):Int)=0:=by rw[JT];rfl
   have hw3:-((aX op:Nat):Int)=0:=by rw[h0];decide
   have hw4:0 - ((aX op:Nat):Int)=0:=by rw[h0];decide
   clear h0 JT hl;have AL:=ae ((BS W).alloc ly (N #[] 9));have OM:=ae (OV (base:=A (z W)) (e:=9) (size:=1) W #[] 0 ly (by unfold maxLen;omega) rfl);go_wp2;go_meet;exact⟨_,_,rfl,p7 _,OM,AL⟩
  ·have hcap:(B r:Int)<=j_:=by have:=Hn O2.i;omega
   have J4:Hid (∀j u,(strs r)[j]?=Q u->(ZU W (N #[] 9)).cell? (((T g 0 Y):Addr).add j)=Q u):=Ho (xs:=strs (s.take (aX op))) (by
    have h:=O2.alloc (N #[] 9);rw[ER.i,<-Ff,QO]
    exact h)
   obtain⟨t,ht⟩:∃t,t=aX op:=⟨_,rfl⟩
   rw[<-ht] at hl Kr ⊢;rw[hl] at c1 hs;have HS:=ae hs;have HL:=ae hl;clear hs hl;obtain⟨JG,hi,JM,GS,JH⟩:=NP gX;go_wp2_with (at_builtin;refine DN _ rfl (.tmp 87) (.tmp 95) 43 rfl (A (z W)) 9 JG (U ⟨#[]⟩) 1 16 NH hi JM GS JH rfl (by decide) (Z (Q (T (A (z W)) 0 Y)) 0 0) 0 [] (by simp[Act.eval]) (OV W #[] 0 ly (by unfold maxLen;omega) rfl) (T g 0 Y) (B r) j_ (strs r) (by simp[Act.eval]) (by simp[strs]) J4.i (Fa _) (by unfold maxLen;omega) (by omega) (by simp) ?_;intro v' w2 ro DE Id;simp only[I5,NS] at ro;obtain⟨ZO,cr,rfl,JN⟩:=sM ro (λe=>by simpa using Id.1 e);have B3:=ae (bg ((BS W).alloc ly (N #[] 9)) DE (by simp) (λj e=>by simp[Value.ownBlock] at e;omega));have Fm:=ae ro;clear ro DE Id);go_meet;exact⟨ZO,cr,rfl,JN,Fm,B3⟩
 case rest =>
 clear hl hA JU;obtain⟨ZO,cr,rfl,JN,Fm,B3⟩:=hcut;have Fk:A (z w)<=A (z W):=B2.size;have n9:A (z w)+1<A (z W):=R2.1;have Fd:A (z w)+1+1<A (z W):=Z2.1;have JJ:A (z w)+1≠ZO:=by omega
 have J8:A (z W)<=A (z wc):=B3.size;clear m c0 f0 c1 f1 c2 ZM c3 ZN c4 P c5 ZL c6 X ZP V ZS R c9 S;have R3:=ae (R2.aa B3 R2.1);have Z3:=ae (Z2.aa B3 Z2.1);have G0:=(B3.O (p:=(T (A (z l)) 0 Y)) ld).k g0;have G1:=(B3.O (p:=(T (A (z l)) 1 Y)) ld).k g1;have G2:=(B3.O (p:=(T (A (z l)) 2 Y)) ld).k g2;have R4:=ae (R3.set0 (J I ((zd:Int)+1)));have Z4:=ae (Z3.other (T (A (z w)+1) 0 Y) (J I ((zd:Int)+1)) (by simp));have B4:=ae ((B2.k (B3.P B2.size)).setCell (p:=(T (A (z w)+1) 0 Y)) (by simp) (J I ((zd:Int)+1)));have O4:=ae (dT Fm JJ (J I ((zd:Int)+1)) 0);have H0:=(Q_ _ (T (A (z w)+1) 0 Y) (T (A (z l)) 0 Y) (J I ((zd:Int)+1)) (by simp;omega)).k G0;have H1:=(Q_ _ (T (A (z w)+1) 0 Y) (T (A (z l)) 1 Y) (J I ((zd:Int)+1)) (by simp;omega)).k G1;have H2:=(Q_ _ (T (A (z w)+1) 0 Y) (T (A (z l)) 2 Y) (J I ((zd:Int)+1)) (by simp;omega)).k G2;have aq:A (z W)<=(wc.setCell (T (A (z w)+1) 0 Y) (J I ((zd:Int)+1))).heap.size:=by simpa using J8
 obtain⟨Kg,⟨e0,v0⟩,⟨e1,v1⟩,⟨e2,v2⟩,⟨e3,v3⟩,⟨e4,v4⟩,⟨e5,v5⟩,⟨e6,v6⟩,⟨e7,v7⟩,⟨e8,v8⟩,e9,v9⟩:=R3.i;go_upto_block 0 with fail;clear Kg e0 v0 e1 v1 e2 v2 e3 v3 e4 v4 e5 v5 e6 v6 e7 v7 e8 v8 e9 v9;clear g0 g1 g2 G0 G1 G2 B3 R3 Z3 Fm R2 Z2 O2;generalize World.setCell wc _ _=W5 at R4 Z4 B4 O4 H0 H1 H2 aq ⊢;obtain⟨Km,J9⟩:ZX.size<=2000/\ZZ.size<=2000:=by rw[EA.i,EB.i];exact vg HL op
 obtain⟨C,JP⟩:∃C,C=nJ op k ZX zd:=⟨_,rfl⟩
 have th:=ae JP;clear JP;go_cut [] (λZR=>op<=11/\Hid (Ten ZR (A (z w)+1) (J I C) (Z a (B s) j_) (J I ((v_:Int)+1)) (J I x_) (ZF ZA) (J I 0) (U ⟨#[]⟩) (ZF ZA) (U ⟨#[]⟩) (ZF ZA))/\Hid (Ten ZR (A (z w)+1+1) (J I 0) (Z Y 0 0) (J I 0) (J I 0) (ZF ZA) (J I 0) (U ⟨#[]⟩) (ZF ZA) (U ⟨#[]⟩) (ZF ZA))/\Hid (Below (A (z w)) w ZR)/\Hid (ZW ZR (A (z W)) 9 1 (Z (Q (T ZO 0 Y)) (B r) cr) (B r) (strs r))/\ZV ZR (T (A (z l)) 0 Y)=Q (J I op)/\ZV ZR (T (A (z l)) 1 Y)=Q (U (f zd).s)/\ZV ZR (T (A (z l)) 2 Y)=Q (J I k)/\(A (z W))<=A (z ZR));case first =>
  obtain⟨m,⟨c0,f0⟩,⟨c1,f1⟩,⟨c2,ZM⟩,⟨c3,ZN⟩,⟨c4,P⟩,⟨c5,ZL⟩,⟨c6,X⟩,⟨ZP,V⟩,⟨ZS,R⟩,c9,S⟩:=R4.i;rcases Hr op ZX JW with rfl|rfl|rfl|rfl|rfl|⟨rfl,q1⟩|⟨rfl,q1,q2⟩|⟨rfl,q1,q2⟩|h9;{go_wp2_with fail;refine(fN _ _ _ _ _ _ _ _ _ _ _ _ _ _ _).P ?_;rintro e w5⟨rfl,b⟩;have ZE:=ae (Z4.aa b Z4.1);have D:=ae (B4.k (b.P B4.size));clear b;clear m c0 f0 c1 f1 c2 ZM c3 ZN c4 P c5 ZL c6 X ZP V ZS R c9 S;obtain⟨la,⟨z0,y0⟩,⟨z1,y1⟩,⟨z2,y2⟩,⟨z3,y3⟩,⟨H,y4⟩,⟨K,y5⟩,⟨L,y6⟩,⟨ZQ,y7⟩,⟨G,y8⟩,O,y9⟩:=ZE.i;go_wp2;refine bp (v:=ec ((zd:Int)+1) (Z a (B s) j_) ((v_:Int)+1) x_ ZH 0 ZX ZA ⟨#[]⟩ ZA) (by simp[results,Q9,go_sem,z0,z1,z2,z3,H,K,L,ZQ,G,O]) rfl ⟨_,rfl,(by rw[SO.i,ye _ _ _ _ _ _ _ _ _ (by simp) HB.i,<-EA.i];exact⟨_,_,_,_,_,rfl⟩),dS D (by omega) _ _ _ _ _ _ _ _ _ _⟩};{go_wp2_with fail;refine(fN _ _ _ _ _ _ _ _ _ _ _ _ _ _ _).P ?_;rintro e w5⟨rfl,b⟩;have ZE:=ae (Z4.aa b Z4.1);have D:=ae (B4.k (b.P B4.size));clear b;clear m c0 f0 c1 f1 c2 ZM c3 ZN c4 P c5 ZL c6 X ZP V ZS R c9 S;obtain⟨la,⟨z0,y0⟩,⟨z1,y1⟩,⟨z2,y2⟩,⟨z3,y3⟩,⟨H,y4⟩,⟨K,y5⟩,⟨L,y6⟩,⟨ZQ,y7⟩,⟨G,y8⟩,O,y9⟩:=ZE.i;go_wp2;refine bp (v:=ec ((zd:Int)+1) (Z a (B s) j_) ((v_:Int)+1) x_ ZH 1 ZX ZA ⟨#[]⟩ ZA) (by simp[results,Q9,go_sem,z0,z1,z2,z3,H,K,L,ZQ,G,O]) rfl ⟨_,rfl,(by rw[SO.i,ye _ _ _ _ _ _ _ _ _ (by simp) HB.i,<-EA.i];exact⟨_,_,_,_,_,rfl⟩),dS D (by omega) _ _ _ _ _ _ _ _ _ _⟩};iterate 2
   ·go_wp2_with fail
    have Z5:=ae (Z4.other (T (A (z w)+1) 1 Y) (Z (Q (T ZO 0 Y)) (B r) cr) (by simp));have D:=ae (B4.setCell (p:=(T (A (z w)+1) 1 Y)) (by simp) (Z (Q (T ZO 0 Y)) (B r) cr));have O5:=ae (dT O4 JJ (Z (Q (T ZO 0 Y)) (B r) cr) 1);have Y5:=ae (HY.aa D ly);have hq:=λ(o:Nat) (ho:o=12\/o=13)=>zJ o (f zd).s k (zd+1) (v_+1) x_ (Q (T ZO 0 Y)) cr r ZX (dV zd) b2 o2 n JK (A (z W)) y _ Y5 O5 (by simpa using aq) ho hlk (by omega);rw[show((zd+1:Nat):Int)=(zd:Int)+1 by omega,show((v_+1:Nat):Int)=(v_:Int)+1 by omega] at hq;refine(hq _ (by simp)).P ?_;rintro e w5⟨v,rfl,mv,b⟩;have Kb:=ae mv;obtain⟨l0,l1,l2,l3,l4,l5,l6,l7,l8,l9,Ka,Kh,rfl⟩:=mv.form;have ZE:=ae (Z5.aa b Fd);have B6:=ae (D.k (b.P Fk));clear b hq mv;clear m c0 f0 c1 f1 c2 ZM c3 ZN c4 P c5 ZL c6 X ZP V ZS R c9 S;obtain⟨la,⟨z0,y0⟩,⟨z1,y1⟩,⟨z2,y2⟩,⟨z3,y3⟩,⟨H,y4⟩,⟨K,y5⟩,⟨L,y6⟩,⟨ZQ,y7⟩,⟨G,y8⟩,O,y9⟩:=ZE.i;go_wp2;refine bp (v:=ec l0 (Z l1 l2 l3) l4 l5 l6 l7 l8 l9 Ka Kh) (by simp[results,Q9,go_sem,z0,z1,z2,z3,H,K,L,ZQ,G,O]) rfl ⟨_,rfl,(by rw[SO.i,Ht _ _ _ _ _ _ _ _ _ (by simp) HB.i,<-EA.i,<-ER.i];exact(BD Kb Fd _ _ _ _ _ _ _ _ _ _).P Fk),dS B6 (by omega) _ _ _ _ _ _ _ _ _ _⟩
  iterate 3
   ·obtain rfl:C=k:=th.k (JC (by first|exact .inl rfl|exact .inr (.inl ⟨rfl,q1⟩)|exact .inr (.inr ⟨rfl,q2⟩)))
    have R5:=ae (R4.set0 (J I C));have Z5:=ae (Z4.other (T (A (z w)+1) 0 Y) (J I C) (by simp));have D:=ae (B4.setCell (p:=(T (A (z w)+1) 0 Y)) (by simp) (J I C));have O5:=ae (dT O4 JJ (J I C) 0);have I0:=(Q_ _ (T (A (z w)+1) 0 Y) (T (A (z l)) 0 Y) (J I (C:Int)) (by simp;omega)).k H0;have I1:=(Q_ _ (T (A (z w)+1) 0 Y) (T (A (z l)) 1 Y) (J I (C:Int)) (by simp;omega)).k H1;have I2:=(Q_ _ (T (A (z w)+1) 0 Y) (T (A (z l)) 2 Y) (J I (C:Int)) (by simp;omega)).k H2;have HI:=ae I0;have Kf:=ae I1;have Kq:=ae I2;clear I0 I1 I2;go_wp2;go_meet;exact⟨by omega,R5,Z5,D,O5,HI,Kf,Kq,by simpa using aq⟩
  ·obtain rfl:C=zd+1:=by rw[th.i];unfold nJ;rw[eI (by decide),eI (λh=>h.2.elim (λe=>by rw[e] at q1;cases q1) (λe=>by rw[e] at q2;cases q2))]
   go_wp2;go_meet;exact⟨by omega,by show Ten _ _ _ _ _ _ _ _ _ _ _ _;rw[show((zd+1:Nat):Int)=(zd:Int)+1 by omega];exact R4,Z4,B4,O4,H0,H1,H2,aq⟩
  ·obtain rfl:C=zd+1:=by rw[th.i];unfold nJ;rw[eI (by omega),eI (by omega)]
   have n15:((op:Int) == 15)=ZA:=by simp;omega
   have n14:((op:Int) == 14)=ZA:=by simp;omega
   have n12:((op:Int) == 12)=ZA:=by simp;omega
   have n13:((op:Int) == 13)=ZA:=by simp;omega
   have n10:((op:Int) == 10)=ZA:=by simp;omega
   have n11:((op:Int) == 11)=ZA:=by simp;omega
   go_wp2;go_meet;exact⟨by omega,by show Ten _ _ _ _ _ _ _ _ _ _ _ _;rw[show((zd+1:Nat):Int)=(zd:Int)+1 by omega];exact R4,Z4,B4,O4,H0,H1,H2,aq⟩
 case rest =>
 clear R4 Z4 B4 O4 H0 H1 H2 aq;obtain⟨JI,R4,Z4,B4,O4,G0,G1,G2,aq⟩:=hcut;obtain⟨M,Bk⟩:∃M,M=cB op k (f zd).s ZX ZZ:=⟨_,rfl⟩
 have n8:Hid (M=cB op k (f zd).s ZX ZZ/\(B M)=bN op):=⟨Bk,by rw[Bk];exact zK _ _ _ _ _ ur JI⟩
 have JQ:Hid (so=gR M (dV zd) r C (v_+1) x_):=by show _=_;rw[SO.i,Fg _ _ _ _ _ _ _ _ _ ur JI HB.i J6 HL.i,Bk,<-EA.i,<-EB.i,<-ER.i,<-th.i]
 clear Bk SO EA EB ER th;go_wp2_with fail;go_loopw [13,14] (λrest i wr=>∃j:Nat,j<=bN op/\i=J I j/\∃g6 cx,rest=Z (Q (T g6 0 Y)) (B r+j) cx/\Hid (wr.ownsRow (A (z W)) 9 1 (Z (Q (T g6 0 Y)) (B r+j) cx) (B r+j) (strs r++(M.take j).map Value.string))/\Hid (Below (A (z W)) wc wr)/\Hid (∀i,i<j->(M.getD i ⟨#[]⟩).size<=2000)) (λ_ i _=>bN op - (intOf i).toNat);case atStart=>exact⟨0,by omega,rfl,ZO,cr,rfl,(by show World.ownsRow _ _ _ _ _ _ _;rw[List.take_zero,VN,XI];exact O4),a8 _ _,λi hi=>absurd hi (NF _)⟩
 case round =>
  obtain⟨j,hj,rfl,g6,cx,rfl,O6,B6,S6⟩:=hrel;have R6:=ae (R4.aa B6 n9);have Z6:=ae (Z4.aa B6 Fd);have i0:=(B6.O (p:=(T (A (z l)) 0 Y)) ld).k G0;have i1:=(B6.O (p:=(T (A (z l)) 1 Y)) ld).k G1;have i2:=(B6.O (p:=(T (A (z l)) 2 Y)) ld).k G2;have JO:A (z W)<=A (z wr):=nX aq B6.size;have B7:=ae (B4.k (B6.P Fk));by_cases Hx:j<bN op
  ·have h8:op<=8:=Hp ur JI Hx;have J0:j<B M:=by rw[n8.2];exact Hx
   go_wp2_with fail;refine(xp op k (f zd).s ZX ZZ _ ur h8 Km J9 Ki).P ?_;rintro e w6⟨g7,rfl,qr,Kk,ex⟩;rw[<-n8.1] at qr ⊢;rw[n8.2] at qr ⊢;have q6:ZV w6 (T g7 j Y)=Q (U (M.getD j ⟨#[]⟩)):=by have:=qr.2 j Hx;rwa[I5] at this
   obtain⟨ZT,hE⟩:∃ZT,ZT=M.getD j ⟨#[]⟩:=⟨_,rfl⟩
   rw[<-hE] at q6;have HE:=ae hE;clear hE;have O7:=ae (K_ O6 ex ly);have B8:=ae (B6.k (ex.P JO));have Ks:A (z W)<=A (z w6):=nX JO ex.size;have R7:=ae (R6.aa ex R6.1);have Z7:=ae (Z6.aa ex Z6.1);have B9:=ae (B7.k (ex.P B7.size));clear qr Kk ex i0 i1 i2 R6 Z6;by_cases Kl:(ZT.size:Int)<=2000
   ·obtain⟨JG,hi,JM,GS,JH⟩:=NP gX;go_wp2_with (at_builtin;refine DN _ rfl (.tmp 158) (.tmp 163) 43 rfl (A (z W)) 9 JG (U ⟨#[]⟩) 1 16 NH hi JM GS JH rfl (by decide) (Z (Q (T g6 0 Y)) (B r+j) cx) (B r+j) (strs r++(M.take j).map Value.string) (by simp[Act.eval]) (O7.alloc _) (T (A (z w6)) 0 Y) 1 1 [U ZT] (by simp[Act.eval]) rfl (ep w6 _ _) (by simp[Value.oneCell']) (by unfold maxLen;omega) (by omega) (by simp<;>omega) ?_;intro v' w7 ph sm DQ;obtain⟨g8,ZS,rfl,hg8⟩:=sM ph (λe=>by simpa using DQ.1 e);have O8:=ae ph;have Ke:=ae (bg (B8.alloc Ks (N #[U ZT] 9)) sm (by simp<;>omega) (λi e=>(O7.lt i e).1));clear ph sm DQ)
    exact⟨⟨j+1,by omega,by go_num,g8,ZS,rfl,by show World.ownsRow _ _ _ _ _ _ _;rw[BH J0,<-NQ,<-HE.i];exact O8,Ke,λi hi=>by
     by_cases e:i=j;{subst e;rw[<-HE.i];omega}
     ·exact S6 i (by omega)⟩,by simp[intOf];omega⟩
   {have ER:=ae (show so=.inr (.inl (2,(dV zd),(v_+1))) by rw[JQ.i];unfold gR;rw[Hq J0 (by rw[<-HE.i];exact Kl)];rfl);obtain⟨m,⟨c0,f0⟩,⟨c1,f1⟩,⟨c2,ZM⟩,⟨c3,ZN⟩,⟨c4,P⟩,⟨c5,ZL⟩,⟨c6,X⟩,⟨ZP,V⟩,⟨ZS,R⟩,c9,S⟩:=R7.i;go_wp2_with fail;refine(fN _ _ _ _ _ _ _ _ _ _ _ _ _ _ _).P ?_;rintro e w5⟨rfl,b⟩;have ZE:=ae (Z7.aa b Z7.1);have D:=ae (B9.k (b.P B9.size));clear b;clear m c0 f0 c1 f1 c2 ZM c3 ZN c4 P c5 ZL c6 X ZP V ZS R c9 S;obtain⟨la,⟨z0,y0⟩,⟨z1,y1⟩,⟨z2,y2⟩,⟨z3,y3⟩,⟨H,y4⟩,⟨K,y5⟩,⟨L,y6⟩,⟨ZQ,y7⟩,⟨G,y8⟩,O,y9⟩:=ZE.i;go_wp2;refine bp (v:=ec C (Z a (B s) j_) ((v_:Int)+1) x_ ZH 2 (dV zd) ZA ⟨#[]⟩ ZA) (by simp[results,Q9,go_sem,z0,z1,z2,z3,H,K,L,ZQ,G,O]) rfl ⟨_,rfl,(by rw[ER.i];exact⟨_,_,_,_,_,rfl⟩),dS D (by omega) _ _ _ _ _ _ _ _ _ _⟩}
  ·have e:j=bN op:=by omega
   subst e;have ER:=ae (show so=.inl (C,(v_+1),x_,(M.reverse++r)) by rw[JQ.i];unfold gR;rw[Fe (λi hi=>S6.i i (by rw[n8.2] at hi;exact hi))];rfl);have JX:=ae (show(M.reverse++r).length=B r+bN op by rw[cM,List.length_reverse,n8.2];omega);obtain⟨m,⟨c0,f0⟩,⟨c1,f1⟩,⟨c2,ZM⟩,⟨c3,ZN⟩,⟨c4,P⟩,⟨c5,ZL⟩,⟨c6,X⟩,⟨ZP,V⟩,⟨ZS,R⟩,c9,S⟩:=R6.i;obtain⟨la,⟨z0,y0⟩,⟨z1,y1⟩,⟨z2,y2⟩,⟨z3,y3⟩,⟨H,y4⟩,⟨K,y5⟩,⟨L,y6⟩,⟨ZQ,y7⟩,⟨G,y8⟩,O,y9⟩:=Z6.i;have OE:=ae (WH O6 (a:=(T (A (z w)+1) 1 Y)) n9 (Z (Q (T g6 0 Y)) (B r+bN op) cx));have BE:=ae (B7.setCell (p:=(T (A (z w)+1) 1 Y)) (by simp) (Z (Q (T g6 0 Y)) (B r+bN op) cx));go_wp2;refine bp (v:=ec C (Z (Q (T g6 0 Y)) (B r+bN op) cx) ((v_:Int)+1) x_ ZA 0 ⟨#[]⟩ ZA ⟨#[]⟩ ZA) (by simp[results,Q9,go_sem,z0,z1,z2,z3,H,K,L,ZQ,G,O]) rfl ⟨_,rfl,?_,dS BE (by omega) _ _ _ _ _ _ _ _ _ _⟩;rw[ER.i];refine(BD (v:=ec C (Z (Q (T g6 0 Y)) (B r+bN op) cx) ((v_:Int)+1) x_ ZA 0 ⟨#[]⟩ ZA ⟨#[]⟩ ZA) (base:=A (z W)) ?_ Fd _ _ _ _ _ _ _ _ _ _).P Fk;refine⟨Q (T g6 0 Y),cx,by rw[JX.i];simp,?_⟩;rw[JX.i,Fc];have h:=OE.i;rw[show M.take (bN op)=M by rw[<-n8.2];exact List.take_length] at h;exact h
def IY (f:Nat->Ins)(yh:Nat)(y:Nat->aD)(n:Nat)(ZP:Turn)(st:Nat):SO->Prop
 |.inr (.inl (c,x,k))=>ZP=gi c x k
 |.inr (.inr (a,nm,k))=>ZP=oA a nm k
 |.inl (p,k,l,s)=>k=st+1/\k<=2000/\cA f yh y n (2001 - k) p k l s=ZP/\p<=2000/\l<=200/\(B s)<=50/\∀x∈s,x.size<=2000
def xr{f:Nat->Ins}{yh:Nat}(i:B b<=50)(h:∀x∈b,x.size<=2000)(hlk:x_<=200)(g:dn f yh=ZH)(hc:yh<=200):rG (bQ f yh zd v_ x_ b) x_:=by
 unfold bQ;split;{trivial}
 ·rename_i h1;split;{trivial}
  ·split;{trivial}
   ·rename_i j;have hi:=j7 g (show zd<yh by omega);simp only[cL,nD] at hi;obtain⟨i1,i2,i3,i4,i5⟩:=hi;have hmt:dX (f zd).op<=2000:=by unfold dX;split<;>(try split)<;>omega
    have hmt2:bW (f zd).op<=2000:=by unfold bW;split<;>omega
    exact ji _ _ _ _ _ _ i h (by omega) (by omega) (by omega) hlk (by omega) (by omega) (by simpa using j)
def xt{f:Nat->Ins}{yh:Nat}{a:Bool}{nm:F_}(h:bQ f yh zd v_ x_ b=.inr (.inr (a,nm,s))):zd<yh:=by
 unfold bQ at h;split at h;{cases h};{omega}
def Hv{f:Nat->Ins}{yh:Nat}{ZP:Turn}{st l:Nat}(hst:st<=2000)(r:l<=200)(D:B s<=50)(ZY:∀x∈s,x.size<=2000)(u:dn f yh=ZH)(C:yh<=200)(ZX:bU y n=ZH)
  (b:cA f yh y n (2001 - st) p st l s=ZP):IY f yh y n ZP st (gn f yh y n p st l s):=by
 obtain⟨j,ZZ⟩:∃j,2001 - st=j+1:=⟨2000 - st,by omega⟩
 rw[ZZ,cA] at b;have hF:=xr (zd:=p) (v_:=st) D ZY r u C;unfold gn;rcases h:bQ f yh p st l s with⟨G,p'⟩|⟨c,x⟩|⟨a,nm,G⟩
 {rw[h] at b hF;obtain⟨m,ZT⟩:=jP h;obtain⟨f1,i,o⟩:=hF;simp only[m] at b ⊢;exact⟨rfl,by omega,by rw[show 2001 - (st+1)=j by omega];exact b,o,r,f1,i⟩};{rw[h] at b;exact b.c};{rw[h] at b hF;obtain⟨m,ZT⟩:=lX h;obtain⟨f1,i,o,f4⟩:=hF;have hp:=xt h;simp only[m] at b ⊢;simp only[iE,kj];by_cases h1:n<=l;{rw[eT h1] at b ⊢;exact b.c};{rw[eI h1] at b ⊢;by_cases h2:a=ZA;{rw[eT h2] at b ⊢;refine⟨rfl,by omega,by rw[show 2001 - (st+1)=j by omega];exact b,by omega,by omega,by simp;omega,λx g=>?_⟩;rcases vG.1 g with rfl|g;{exact jr _};{exact i x g}};{rw[eI h2] at b ⊢;by_cases t:(y l).has=ZA;{rw[eT t] at b ⊢;exact b.c};{rw[eI t] at b ⊢;by_cases q:(y l).M=0;{rw[eT q] at b ⊢;refine⟨rfl,by omega,by rw[show 2001 - (st+1)=j by omega];exact b,by omega,by omega,by simp;omega,λx g=>?_⟩;rcases vG.1 g with rfl|g;{exact(EI ZX (show l<n by omega)).1};{exact i x g}};{rw[eI q] at b ⊢;exact b.c}}}}}
def Ten.put{p o f j l i m q n b:ZB}(h:Ten w g p o f j l i m q n b)(u0 u1 u2 u3 u4 u5 u6 u7 u8 u9:ZB):Ten ((((((((((w.setCell (T g 0 Y) u0).setCell (T g 1 Y) u1).setCell (T g 2 Y) u2).setCell (T g 3 Y) u3).setCell (T g 4 Y) u4).setCell (T g 5 Y) u5).setCell (T g 6 Y) u6).setCell (T g 7 Y) u7).setCell (T g 8 Y) u8).setCell (T g 9 Y) u9) g u0 u1 u2 u3 u4 u5 u6 u7 u8 u9:=
 (((((((((h.set0 u0).set1 u1).set2 u2).set3 u3).set4 u4).set5 u5).set6 u6).set7 u7).set8 u8).set9 u9
def pz{u:E}(h:zt g u w)(u0 u1 u2 u3 u4 u5 u6 u7 u8 u9:ZB):zt g u ((((((((((w.setCell (T g 0 Y) u0).setCell (T g 1 Y) u1).setCell (T g 2 Y) u2).setCell (T g 3 Y) u3).setCell (T g 4 Y) u4).setCell (T g 5 Y) u5).setCell (T g 6 Y) u6).setCell (T g 7 Y) u7).setCell (T g 8 Y) u8).setCell (T g 9 Y) u9):=
 ce (ce (ce (ce (ce (ce (ce (ce (ce (ce h 0 u0) 1 u1) 2 u2) 3 u3) 4 u4) 5 u5) 6 u6) 7 u7) 8 u8) 9 u9
def yi (w:E)(g b:Nat)(f:Nat->Ins)(yh:Nat)(y:Nat->aD)(n:Nat)(ZP:Turn)(k:Nat):Prop:=
 (∃p st l s a j_,Ten w g (J I (p:Nat)) (Z a (List.length s) j_) (J I (st:Nat)) (J I (l:Nat)) (ZF ZA) (J I 0) (U ⟨#[]⟩) (ZF ZA) (U ⟨#[]⟩) (ZF ZA)/\ZW w b 9 1 (Z a (B s) j_) (B s) (strs s) /\
  st<=2000/\cA f yh y n (2001 - st) p st l s=ZP/\p<=2000/\l<=200/\(B s)<=50/\(∀x∈s,x.size<=2000)/\2002 - st<=k) \/
 (∃at_ sv lk c x,∃st:Nat,Ten w g at_ sv (J I st) lk (ZF ZH) (J I c) (U x) (ZF ZA) (U ⟨#[]⟩) (ZF ZA)/\ZP=gi c x st) \/
 (∃at_ sv lk a nm,∃st:Nat,Ten w g at_ sv (J I st) lk (ZF ZA) (J I 0) (U ⟨#[]⟩) (ZF a) (U nm) (ZF ZH)/\ZP=oA a nm st)
def Hw{b j_:Nat}{a:O_}{f:List ZB}(h:ZW w b e 1 (Z a n j_) n f){k:Nat}(y:k<b)(t r i m o l p x q g:ZB):World.ownsRow ((((((((((w.setCell (T k 0 Y) t).setCell (T k 1 Y) r).setCell (T k 2 Y) i).setCell (T k 3 Y) m).setCell (T k 4 Y) o).setCell (T k 5 Y) l).setCell (T k 6 Y) p).setCell (T k 7 Y) x).setCell (T k 8 Y) q).setCell (T k 9 Y) g) b e 1 (Z a n j_) n f:=by have s:∀{w:E} (j:Nat) (u:ZB),ZW w b e 1 (Z a n j_) n f->(w.setCell (T k j Y) u).ownsRow b e 1 (Z a n j_) n f:=λj u h=>WH h (a:=(T k j Y)) y u;exact s 9 g (s 8 q (s 7 x (s 6 p (s 5 l (s 4 o (s 3 m (s 2 i (s 1 r (s 0 t h)))))))))
def oS (h g yh j_ n t:Nat)(ZR:O_)(f:Nat->Ins)(w:E)(hn:yh<=1048576)(q:valid f yh=ZH->200<(n:Int))(x:Qj w h g yh f)(u:∀i,i<yh->(f i).s.size<=maxLen):Calls Pg 67 #[ZJ #[Z (Q (T h g Y)) yh j_],Z ZR n t] w λe o=>e=ZI badT.v/\Below (A (z w)) w o:=by
 have ZT:=ae x;have r:=ae ((((BS w).alloc ly (N #[Z (Q (T h g Y)) yh j_] 37))).alloc (by simp) (N #[ZF ZA,J I 0,U ⟨#[]⟩,ZF ZA,U ⟨#[]⟩,J I 0] 116));have l:=lm (ZU w (N #[Z (Q (T h g Y)) yh j_] 37)) (ZF ZA) (J I 0) (U ⟨#[]⟩) (ZF ZA) (U ⟨#[]⟩) (J I 0) 116;rw[show(A (z (ZU w (N #[Z (Q (T h g Y)) yh j_] 37))))=A (z w)+1 by simp] at l;have y:=ae l;have m:=λo h1 h2=>gy h g yh j_ f o hn h1 h2 u;generalize valid f yh=b at q m;have ZY:=ae m;have H:=ae q;clear l m x u q;go_enter func67,ntmps67;go_wp2_with fail;have p:=ae (ZT.aa r ly);refine(ZY _ p.1 p.2).P ?_;rintro e w1⟨rfl,j⟩;have K:=ae (y.aa j (by simp));have D:=ae (r.k (j.P (by simp;omega)));clear j r y p;obtain⟨⟨v0,C,y0⟩,⟨v1,L,y1⟩,⟨v2,ZZ,y2⟩,⟨v3,G,y3⟩,⟨v4,ZS,y4⟩,⟨v5,ZX,y5⟩⟩:=bl6 K.2;cases b
 all_goals
  (try have hn2:=H.i rfl)
  go_wp2;refine bp (v:=badT.v) (by simp[results,UO,go_sem,Turn.v,badT,C,L,ZZ,G,ZS,ZX]) rfl ⟨rfl,fX D (by omega) _ _ _ _ _ _⟩
def xu (h m yh j_ ZO o2 n aq:Nat)(f:Nat->Ins)(y:Nat->aD)(w:E)(hn:yh<=1048576)(hv:valid f yh=ZH)(hn2:(n:Int)<=200)(hP:Qj w h m yh f)(hY:RowReply w ZO o2 n y)(hs:∀i,i<yh->(f i).s.size<=maxLen)(ZP:Turn)(hT:ZP=if bU y n=ZA then badT else cA f yh y n 2001 0 0 0 []):Calls Pg 67 #[ZJ #[Z (Q (T h m Y)) yh j_],Z (Q (T ZO o2 Y)) n aq] w λe w'=>e=ZI ZP.v/\Below (A (z w)) w w':=by
 have HV:=ae (bJ hv).1;have ph:yh<=200:=by have:=(bJ hv).2.2;omega
 have X:=ae hY;have R:=ae hT;clear hY hT;have HP:=ae hP;have A0:=ae ((((BS w).alloc ly (N #[Z (Q (T h m Y)) yh j_] 37))).alloc (by simp) (N #[ZF ZA,J I 0,U ⟨#[]⟩,ZF ZA,U ⟨#[]⟩,J I 0] 116));have P:=lm (ZU w (N #[Z (Q (T h m Y)) yh j_] 37)) (ZF ZA) (J I 0) (U ⟨#[]⟩) (ZF ZA) (U ⟨#[]⟩) (J I 0) 116;rw[show(A (z (ZU w (N #[Z (Q (T h m Y)) yh j_] 37))))=A (z w)+1 by simp] at P;have X0:=ae P;have IV:=λw' h1 h2=>gy h m yh j_ f w' hn h1 h2 hs;rw[hv] at IV;have th:=ae IV;clear P IV hP hs hv;go_enter func67,ntmps67;go_wp2_with fail;have P1:=ae (HP.aa A0 ly);refine(th _ P1.1 P1.2).P ?_;rintro e w1⟨rfl,L⟩;have c1:ZV w1 (T (A (z w)) 0 Y)=Q (Z (Q (T h m Y)) yh j_):=(L.O (p:=(T (A (z w)) 0 Y)) (by simp;omega)).k (by simp);have HX:=ae (X0.aa L (by simp));have B1:=ae (A0.k (L.P (by simp;omega)));have z1:A (z w)+1<A (z w1):=HX.1;clear L A0 X0 P1;have sm:=ae (X.aa B1 ly);go_wp2_with fail;go_loopw [5] (λi wr=>∃j:Nat,j<=n/\i=J I j/\Hid (bU y j=ZH)/\Below (A (z w1)) w1 wr) (λi _=>n - (intOf i).toNat);case atStart=>exact⟨0,by omega,rfl,rfl,a8 _ _⟩
 case round =>
  obtain⟨j,hj,rfl,HK,S⟩:=hrel;have r:=ae (HX.aa S HX.1);have H:=ae (B1.k (S.P B1.size));have cp:ZV wr (T (A (z w)) 0 Y)=Q (Z (Q (T h m Y)) yh j_):=(S.O (p:=(T (A (z w)) 0 Y)) (by simp;omega)).k c1;have zr:A (z w)+1<A (z wr):=r.1;have bt:=ae S;clear S;by_cases u:j<n
  ·obtain⟨d0,d1,d2⟩:=(X.aa H ly).2 j u;obtain⟨⟨v0,C,y0⟩,⟨v1,D,y1⟩,⟨v2,ZY,y2⟩,⟨v3,ZR,y3⟩,⟨v4,K,y4⟩,⟨v5,ZT,y5⟩⟩:=bl6 r.2;by_cases g1:((y j).H.size:Int)<=2000
   ·by_cases g2:0<=(y j).M
    ·by_cases g3:(y j).M<=7;{go_wp2;refine⟨⟨j+1,by omega,by go_num,?_,?_⟩,by simp[intOf];omega⟩;{show bU y (j+1)=ZH;simp only[bU,HK.i,cI,QB,nD];omega};{exact bt}}
     ·go_wp2;have t:ZP=badT:=by rw[R.i,eT (ip u (by simp only[cI,NZ];omega))]
      refine bp (v:=badT.v) (by simp[results,UO,go_sem,Turn.v,badT,C,D,ZY,ZR,K,ZT]) rfl ⟨by rw[t],fX H (by omega) _ _ _ _ _ _⟩
    ·go_wp2;have t:ZP=badT:=by rw[R.i,eT (ip u (by simp only[cI,NZ];omega))]
     refine bp (v:=badT.v) (by simp[results,UO,go_sem,Turn.v,badT,C,D,ZY,ZR,K,ZT]) rfl ⟨by rw[t],fX H (by omega) _ _ _ _ _ _⟩
   ·go_wp2;have t:ZP=badT:=by rw[R.i,eT (ip u (by simp only[cI,NZ];omega))]
    refine bp (v:=badT.v) (by simp[results,UO,go_sem,Turn.v,badT,C,D,ZY,ZR,K,ZT]) rfl ⟨by rw[t],fX H (by omega) _ _ _ _ _ _⟩
  ·have e:j=n:=by omega
   subst e;have t:ZP=cA f yh y j 2001 0 0 0 []:=by rw[R.i,eI (by simp[HK.i])]
   have ET:=ae t;clear t R sm;have RN:=ae (lp wr (J I 0) (Z Y 0 0) (J I 0) (J I 0) (ZF ZA) (J I 0) (U ⟨#[]⟩) (ZF ZA) (U ⟨#[]⟩) (ZF ZA) 170 (A (z wr)) rfl);obtain⟨O,G⟩:∃W:E,ZU wr (N #[J I 0,Z Y 0 0,J I 0,J I 0,ZF ZA,J I 0,U ⟨#[]⟩,ZF ZA,U ⟨#[]⟩,ZF ZA] 170)=W:=⟨_,rfl⟩
   obtain⟨A2,-,-⟩:=nb1 G;have ZX:=ae G;clear G;have XN:=ae (r.aa A2 r.1);have BN:=ae (H.k (A2.P H.size));have cN:=(A2.O (p:=(T (A (z w)) 0 Y)) (by simp;omega)).k cp;have ZL:A (z wr)<A (z O):=by cases ZX.i;simp
   go_wp2_with fail;clear c1 cp;rw[ZX.i] at RN ⊢;clear ZX;generalize (A (z wr))=rb at RN zr ZL ⊢;have n8:ZO<rb:=lj X.1 (by omega);have ur:h<rb:=lj HP.1 (by omega);have S0:Hid (yi O rb (A (z O)) f yh y j ZP 2002):=.inl ⟨0,0,0,[],Y,0,RN,CP _ _ _ _,by omega,ET.c,by omega,by omega,by simp,by simp,by omega⟩;have PN:=ae (HP.aa BN ly);have YN:=ae (X.aa BN ly);clear RN ET r H bt u HX B1 HP X;go_loopg [] 2002 (λg wr=>yi wr rb (A (z O)) f yh y j ZP g/\zt rb O wr);case atStart=>exact⟨S0,zt.refl _ _⟩
   case round =>
    obtain⟨hst,ZS⟩:=hrel;have HO:=ae ZS;have cw:ZV wr (T (A (z w)) 0 Y)=Q (Z (Q (T h m Y)) yh j_):=(ZS.O (A (z w)) 0 (by omega) (by omega)).k cN;have ld:rb<A (z wr):=lj ZL ZS.size;have ex:=ae (ZS.aa (p7 rb) (TQ ZL));have BW:=ae (BN.k (ZS.aa (show (A (z w))<=rb by omega) (by omega)));have XW:=ae (XN.ac ZS (by omega));have zw:A (z w)+1<A (z wr):=XW.1;clear ZS;rcases hst with⟨p,st,l,s,a,mv,b,V,k1,k2,k3,k4,k5,k6,k7⟩|⟨at_,sv,lk,c,x,st,b,o⟩|⟨at_,sv,lk,a,nm,st,b,o⟩
    ·have ro:=ae b;have OW:=ae V;have qr:=ae (Hv k1 k4 k5 k6 HV ph HK k2);have K6:=ae k6;have PW:Hid (Qj wr h m yh f):=⟨lj PN.1 HO.size,λi hi=>(PN.2 i hi).aa ex ur⟩
     have YW:Hid (RowReply wr ZO o2 j y):=⟨lj YN.1 HO.size,λi hi=>(YN.2 i hi).aa ex n8⟩
     obtain⟨ZM,⟨c0,f0⟩,⟨c1,f1⟩,⟨c2,f2⟩,⟨c3,f3⟩,⟨c4,f4⟩,⟨c5,f5⟩,⟨c6,f6⟩,⟨c7,f7⟩,⟨c8,f8⟩,c9,f9⟩:=b;clear V k2 k6;go_wp2_with fail;refine(zP h m yh j_ p st l f a s mv ZO o2 j aq (A (z O)) y _ PW YW OW k3 k1 k4 k5 K6 HV).P ?_;rintro e w3⟨v,rfl,M,ZN⟩;have ZQ:=ae (ro.aa ZN ld);have O3:=ae (HO.ak ZN);clear ZM c0 f0 c1 f1 c2 f2 c3 f3 c4 f4 c5 f5 c6 f6 c7 f7 c8 f8 c9 f9;clear ZN;have q:=qr.i;obtain⟨g,rfl⟩:∃g,gk=g+1:=⟨gk - 1,by omega⟩
     generalize gn f yh y j p st l s=so at M q;rcases so with⟨p',n9,l',s'⟩|⟨c,x,k⟩|⟨a1,nm,k⟩
     ·obtain⟨a',c',rfl,fd⟩:=M;obtain⟨m1,m2,m3,m4,m5,m6,m7⟩:=q;have OE:=ae fd;have M3:=ae m3;have M7:=ae m7;have M1:=ae m1;clear fd m3 m7 m1;obtain⟨la,⟨e0,u0⟩,⟨e1,u1⟩,⟨e2,u2⟩,⟨e3,u3⟩,⟨e4,u4⟩,⟨e5,u5⟩,⟨e6,u6⟩,⟨e7,u7⟩,⟨e8,u8⟩,e9,u9⟩:=ZQ.i;go_wp2;go_roundg g;case measure=>omega
      case rel=>exact⟨.inl ⟨p',n9,l',s',a',c',ZQ.put _ _ _ _ _ _ _ _ _ _,aE (Hw OE ld _ _ _ _ _ _ _ _ _ _) HO.size,m2,M3,m4,m5,m6,M7,by have:=M1.i;omega⟩,pz O3 _ _ _ _ _ _ _ _ _ _⟩
     ·obtain⟨at_,a',n',c',lk,rfl⟩:=M;have o:ZP=gi c x k:=q;have ZZ:=ae o;clear o q;obtain⟨la,⟨e0,u0⟩,⟨e1,u1⟩,⟨e2,u2⟩,⟨e3,u3⟩,⟨e4,u4⟩,⟨e5,u5⟩,⟨e6,u6⟩,⟨e7,u7⟩,⟨e8,u8⟩,e9,u9⟩:=ZQ.i;go_wp2;go_roundg g;case measure=>omega
      case rel=>exact⟨.inr (.inl ⟨_,_,_,_,_,_,ZQ.put _ _ _ _ _ _ _ _ _ _,ZZ⟩),pz O3 _ _ _ _ _ _ _ _ _ _⟩
     ·obtain⟨at_,a',n',c',lk,rfl⟩:=M;have o:ZP=oA a1 nm k:=q;have ZZ:=ae o;clear o q;obtain⟨la,⟨e0,u0⟩,⟨e1,u1⟩,⟨e2,u2⟩,⟨e3,u3⟩,⟨e4,u4⟩,⟨e5,u5⟩,⟨e6,u6⟩,⟨e7,u7⟩,⟨e8,u8⟩,e9,u9⟩:=ZQ.i;go_wp2;go_roundg g;case measure=>omega
      case rel=>exact⟨.inr (.inr ⟨_,_,_,_,_,_,ZQ.put _ _ _ _ _ _ _ _ _ _,ZZ⟩),pz O3 _ _ _ _ _ _ _ _ _ _⟩
    {have ZZ:=ae o;obtain⟨ZM,⟨c0,f0⟩,⟨c1,f1⟩,⟨c2,f2⟩,⟨c3,f3⟩,⟨c4,f4⟩,⟨c5,f5⟩,⟨c6,f6⟩,⟨c7,f7⟩,⟨c8,f8⟩,c9,f9⟩:=b;obtain⟨⟨v0,C,y0⟩,⟨v1,D,y1⟩,⟨v2,ZY,y2⟩,⟨v3,ZR,y3⟩,⟨v4,K,y4⟩,⟨v5,ZT,y5⟩⟩:=bl6 XW.2;clear o;go_wp2;refine bp (v:=ZP.v) (by rw[ZZ.i];simp[results,UO,go_sem,Turn.v,gi,C,D,ZY,ZR,K,ZT]) rfl ⟨rfl,fX BW (by omega) _ _ _ _ _ _⟩};{have ZZ:=ae o;obtain⟨ZM,⟨c0,f0⟩,⟨c1,f1⟩,⟨c2,f2⟩,⟨c3,f3⟩,⟨c4,f4⟩,⟨c5,f5⟩,⟨c6,f6⟩,⟨c7,f7⟩,⟨c8,f8⟩,c9,f9⟩:=b;obtain⟨⟨v0,C,y0⟩,⟨v1,D,y1⟩,⟨v2,ZY,y2⟩,⟨v3,ZR,y3⟩,⟨v4,K,y4⟩,⟨v5,ZT,y5⟩⟩:=bl6 XW.2;clear o;go_wp2;refine bp (v:=ZP.v) (by rw[ZZ.i];simp[results,UO,go_sem,Turn.v,oA,C,D,ZY,ZR,K,ZT]) rfl ⟨rfl,fX BW (by omega) _ _ _ _ _ _⟩}
def nO (j g yh j_ l o n b:Nat)(f:Nat->Ins)(y:Nat->aD)(w:E)(hn:yh<=1048576)(p:Qj w j g yh f)(r:RowReply w l o n y)(m:∀i,i<yh->(f i).s.size<=maxLen):Calls Pg 67 #[ZJ #[Z (Q (T j g Y)) yh j_],Z (Q (T l o Y)) n b] w λe t=>e=ZI (oB f yh y n).v/\Below (A (z w)) w t:=by
 unfold oB;by_cases h1:valid f yh=ZA;{rw[eT h1];exact oS j g yh j_ n b _ f w hn (λh=>absurd (h1.c.k h) (by simp)) p m}
 ·have q:valid f yh=ZH:=by simpa using h1
  rw[eI h1];by_cases h2:200<n;{rw[eT h2];exact oS j g yh j_ n b _ f w hn (λ_=>by omega) p m};{rw[eI h2];exact xu j g yh j_ l o n b f y w hn q (by omega) p r m _ rfl}
def lu (y:Nat->aD)(i:Nat):List ZB:=[ZF (y i).has,J I (y i).M,U (y i).H]
def mc (y:Nat->aD):Nat->List ZB
 |0=>[]
 |k+1=>mc y k++lu y k
def pA (y:Nat->aD)(k:Nat):(mc y k).length=k*3:=by
 induction k with
 |zero=>rfl
 |succ k b=>simp[mc,lu,b];omega
def yj (y:Nat->aD){i j:Nat}(b:j<3):∀k,i<k->(mc y k)[i*3+j]?=(lu y i)[j]?
 |0,h=>absurd h (NF _)
 |k+1,h=>by
  rw[mc];by_cases e:i=k
  ·subst e
   rw[KK (by rw[pA];omega),pA,show i*3+j - i*3=j by omega]
  ·rw[NI (by rw[pA];omega)]
   exact yj y b k (by omega)
def xv{m c k:Nat}(h:ZW w m 119 3 (Z (Q (T g 0 Y)) k c) k (mc y k)):RowReply w g 0 k y:=by
 rcases h.2 with⟨f,h0⟩|⟨g',j_,l,f,hb,n,hc1,hc2,hc3,p⟩
 {simp at f}
 ·simp only[IS,ND,RP] at f;obtain⟨⟨rfl,-⟩,-,rfl⟩:=f;have o:g<A (z w):=by
   rcases OT g (A (z w)) with h1|h1;{exact h1};{rw[PO h1] at n;simp at n}
  have b:∀i j,i<k->j<3->ZV w (T g (0+i*3+j) Y)=(lu y i)[j]?:=by
   intro i j hi s;have r:ZV w (T g (0+i*3+j) Y)=l[i*3+j]?:=by simp[World.cell?,n]
   have q:(l.toList.take (k*3))[i*3+j]?=(mc y k)[i*3+j]?:=by rw[p]
   rw[TV,eT (by omega),NT,yj y s k hi] at q;rw[r,q]
  refine⟨o,λi hi=>⟨?_,?_,?_⟩⟩;{exact b i 0 hi (by omega)};{exact b i 1 hi (by omega)};{exact b i 2 hi (by omega)}
def nP (w:E)(x y ZY:ZB)(t:ZK):∀j u,[x,y,ZY][j]?=Q u->(ZU w (N #[x,y,ZY] t)).cell? (((T (A (z w)) 0 Y):Addr).add j)=Q u:=by
 intro j u b;match j,b with
 |0,b=>simp at b;subst b;simp[Addr.add]
 |1,b=>simp at b;subst b;simp[Addr.add]
 |2,b=>simp at b;subst b;simp[Addr.add]
def BR:(Pg.info? 119).map (λi=>(i.zero,i.size,i.bytes))=Q (Q (ZJ #[ZF ZA,J I 0,U ⟨#[]⟩]),3,32):=by kernel_rfl
def zQ{b:Nat}{v:ZB}{i:List ZB}(h:ZW w b e 3 v n i)(hn:0<n):∃g c,v=Z (Q (T g 0 Y)) n c:=by
 rcases h.2 with⟨f,h0⟩|⟨g,j_,cur,f,_⟩
 {omega};{exact⟨g,j_,f⟩}
def GI:ZB->Nat
 |Z _ n _=>n
 |_=>0
def nQ {f:Nat->au}{p:Nat}:∀k,k<=(f p).f->(∀i,i<k->eA f p i=ZA)->eF f p ((f p).f - k) k=bD f p
 |0,_,_=>rfl
 |k+1,hk,h=>by have:=nQ (f:=f) (p:=p) k (by omega) λi hi=>h i (by omega);rw[<-this,show(f p).f - k=((f p).f - (k+1))+1 by omega,vh (h k (by omega))]
def Fh{k:Nat}(hk:k<(f p).f)(h:∀i,i<k->eA f p i=ZA)(b:eA f p k=ZH):bD f p=k:=by rw[<-nQ k (by omega) h,show(f p).f - k=((f p).f - (k+1))+1 by omega,vi b]
def Fi (h:∀i,i<(f p).f->eA f p i=ZA):bD f p=(f p).f:=by rw[<-nQ (f p).f ly h,UV];rfl
def vm{k:Nat}(b:k<(f p).f)(h:∀i,i<k->eA f p i=ZA)(g:eA f p k=ZH):gB f p=4:=by unfold gB;rw[Fh b h g,eT b]
def vq (h:∀i,i<(f p).f->eA f p i=ZA):gB f p=if (bB f p (f p).f).K=ZA then 4 else if (bB f p (f p).f).M=(f p).M/\(bB f p (f p).f).H.toList=(f p).H.toList then 0 else 5:=by unfold gB;rw[Fi h,eI (Nat.lt_irrefl _)]
def Fj{k:Nat}(b:bc f n=ZH)(g:p<n)(hk3:(f p).L=3)(hk:k<=(f p).f):oB (f p).q (f p).h (yOf f p) k=bB f p k:=by
 have j:valid (f p).q (f p).h=ZH/\(f p).f<=200:=by
  rcases(ed b p g).2 with h|h|h;{omega};{omega};{exact⟨h.2.2.2.1,h.2.2.2.2⟩}
 have l:bU (yOf f p) k=ZH:=vj λi hi=>yg b λm=>Nat.lt_trans (fq b p g i (by omega) m).2.1 g;unfold oB bB;rw[eI (by rw[j.1];simp),eI (by omega),eI (by rw[l];simp)]
def BU (r m n j_:Nat)(f:Nat->au)(p:Nat)(w:E)(_hn:(n:Int)<=400)(ZX:bc f n=ZH)(V:p<n)(hk:(f p).L=3)(L:Qv w r m n f)(la:fo (f p)):Calls Pg 29 #[ZJ #[Z (Q (T r m Y)) n j_],J I p] w λe w'=>e=ZI (J I (gB f p))/\Below (A (z w)) w w':=by
 obtain⟨i0,hi,JJ,Fm,GS⟩:=NP BR;have hN:(f p).f<=200:=by
  rcases(ed ZX p V).2 with h|h|h;{omega};{omega};{exact h.2.2.2.2}
 have hv:valid (f p).q (f p).h=ZH:=by
  rcases(ed ZX p V).2 with h|h|h;{omega};{omega};{exact h.2.2.2.1}
 have Hx:(f p).h<=200:=by have:=(bJ hv).2.2;omega
 have Fk:=ae (λk (Fd:k<=(f p).f)=>Fj ZX V hk Fd);have Bk:=ae (λj (hj:j<(f p).f) (ha:((f p).m j).ask=ZH)=>(⟨(fq ZX p V j hj ha).1,Nat.lt_trans (fq ZX p V j hj ha).2.1 V⟩:0<=((f p).m j).G/\((f p).m j).G.toNat<n));have JG:=ae (show ∀i,i<(f p).h->((f p).q i).s.size<=maxLen from la.2.2.1.2);have ZS:=ae L;obtain⟨o0,o1,o2,o3,⟨a0,o,o4,hI⟩,⟨a1,q,o5,n8⟩⟩:=L.2 p V;obtain⟨ZY,y,rfl,ur⟩:∃ZY y,a0=Q (T ZY y Y)/\Qj w ZY y (f p).h (f p).q:=by
  have:=(bJ hv).2;rcases hI with h|⟨b,off,e,hr⟩
  {omega};{exact⟨b,off,e,hr⟩}
 have HI:=ae ur;have ph:=ae n8;have H:=L.1;clear ur hI n8 L la ZX hk hv;have hpn:(p:Int)<n:=by omega
 obtain⟨C,hC⟩:∃C,C=gB f p:=⟨_,rfl⟩
 rw[<-hC];have HC:=ae hC;clear hC;have ZP:=ae ((BS w).alloc ly (N #[Z (Q (T r m Y)) n j_] 25));have X:=ae (ZP.i.alloc ZP.i.size (N #[U (f p).e,J I (f p).L,J I (f p).M,U (f p).H,Z (Q (T ZY y Y)) (f p).h o,Z a1 (f p).f q] 62));have zD:A (z (ZU (ZU w (N #[Z (Q (T r m Y)) n j_] 25)) (N #[U (f p).e,J I (f p).L,J I (f p).M,U (f p).H,Z (Q (T ZY y Y)) (f p).h o,Z a1 (f p).f q] 62)))=A (z w)+2:=by simp
 have kA:ZV (ZU (ZU w (N #[Z (Q (T r m Y)) n j_] 25)) (N #[U (f p).e,J I (f p).L,J I (f p).M,U (f p).H,Z (Q (T ZY y Y)) (f p).h o,Z a1 (f p).f q] 62)) (T (A (z w)) 0 Y)=Q (Z (Q (T r m Y)) n j_):=by simp[go_sem]
 have ro:ZV (ZU (ZU w (N #[Z (Q (T r m Y)) n j_] 25)) (N #[U (f p).e,J I (f p).L,J I (f p).M,U (f p).H,Z (Q (T ZY y Y)) (f p).h o,Z a1 (f p).f q] 62)) (T (A (z w)+1) 2 Y)=Q (J I (f p).M):=by simp[go_sem]
 have sm:ZV (ZU (ZU w (N #[Z (Q (T r m Y)) n j_] 25)) (N #[U (f p).e,J I (f p).L,J I (f p).M,U (f p).H,Z (Q (T ZY y Y)) (f p).h o,Z a1 (f p).f q] 62)) (T (A (z w)+1) 3 Y)=Q (U (f p).H):=by simp[go_sem]
 have n9:ZV (ZU (ZU w (N #[Z (Q (T r m Y)) n j_] 25)) (N #[U (f p).e,J I (f p).L,J I (f p).M,U (f p).H,Z (Q (T ZY y Y)) (f p).h o,Z a1 (f p).f q] 62)) (T (A (z w)+1) 4 Y)=Q (Z (Q (T ZY y Y)) (f p).h o):=by simp[go_sem]
 have ex:ZV (ZU (ZU w (N #[Z (Q (T r m Y)) n j_] 25)) (N #[U (f p).e,J I (f p).L,J I (f p).M,U (f p).H,Z (Q (T ZY y Y)) (f p).h o,Z a1 (f p).f q] 62)) (T (A (z w)+1) 5 Y)=Q (Z a1 (f p).f q):=by simp[go_sem]
 have p0:=(ZP.i.O (p:=(T r (m+p*6) Y)) H).k o0;have p1:=(ZP.i.O (p:=(T r (m+p*6+1) Y)) H).k o1;have p2:=(ZP.i.O (p:=(T r (m+p*6+2) Y)) H).k o2;have p3:=(ZP.i.O (p:=(T r (m+p*6+3) Y)) H).k o3;have p4:=(ZP.i.O (p:=(T r (m+p*6+4) Y)) H).k o4;have p5:=(ZP.i.O (p:=(T r (m+p*6+5) Y)) H).k o5;clear o0 o1 o2 o3 o4 o5;have OL:=ae (by have h:=xP (ZU (ZU w (N #[Z (Q (T r m Y)) n j_] 25)) (N #[U (f p).e,J I (f p).L,J I (f p).M,U (f p).H,Z (Q (T ZY y Y)) (f p).h o,Z a1 (f p).f q] 62)) 119 3;rw[zD] at h;exact h);have BL:=ae ((a8 (A (z w)+2) (ZU (ZU w (N #[Z (Q (T r m Y)) n j_] 25)) (N #[U (f p).e,J I (f p).L,J I (f p).M,U (f p).H,Z (Q (T ZY y Y)) (f p).h o,Z a1 (f p).f q] 62))).alloc (by rw[zD];exact p7 _) (N #[] 119));go_enter func29,ntmps29;go_wp2;clear p0 p1 p2 p3 p4 p5;generalize World.alloc (World.alloc w _) _=th at X zD kA ro sm n9 ex OL BL ⊢;generalize World.alloc th _=W0 at OL BL ⊢;go_loopw [6] (λv wr=>∃(k g c:Nat),k<=(f p).f/\v=Z (Q (T g 0 Y)) k c/\Hid (wr.ownsRow (A (z w)+2) 119 3 (Z (Q (T g 0 Y)) k c) k (mc (yOf f p) k))/\Hid (∀i,i<k->eA f p i=ZA)/\Hid (Below (A (z w)+2) th wr)) (λv _=>(f p).f+1 - GI v);case atStart=>exact⟨0,A (z w)+2,0,by omega,rfl,OL.i,λi hi=>absurd hi (NF _),BL.i⟩
 case round =>
  obtain⟨k,g,c,Id,rfl,HO,HF,HB⟩:=hrel;have RW:=ae (X.i.k (HB.i.P (by omega)));have d4:=(HB.i.O (p:=(T (A (z w)+1) 4 Y)) (show (A (z w))+1<A (z w)+2 by omega)).k n9;go_wp2_with fail;clear d4;refine(nO ZY y (f p).h o g 0 k c (f p).q (yOf f p) _ (by omega) (HI.i.aa RW.i ly) (xv HO.i) JG.i).P ?_;rintro e w1⟨rfl,aq⟩;rw[Fk.i k Id];obtain⟨t,ht⟩:∃t,t=bB f p k:=⟨_,rfl⟩
  rw[<-ht];have D:=ae ht;have ZN:=ae (HB.i.k (aq.P (by have:=HB.i.size;omega)));have O1:=ae (K_ HO.i aq ly);have ZM:A (z w)+2<=A (z w1):=by have:=ZN.i.size;omega
  have hz2:A (z w)+1<A (z w1):=by omega
  have hz3:A (z w)<A (z w1):=by omega
  have d2:=(ZN.i.O (p:=(T (A (z w)+1) 2 Y)) (show (A (z w))+1<A (z w)+2 by omega)).k ro;have d3:=(ZN.i.O (p:=(T (A (z w)+1) 3 Y)) (show (A (z w))+1<A (z w)+2 by omega)).k sm;have d5:=(ZN.i.O (p:=(T (A (z w)+1) 5 Y)) (show (A (z w))+1<A (z w)+2 by omega)).k ex;have O:=ae (ZN.i.alloc ZM (N #[ZF t.K,J I t.M,U t.H,ZF t.ask,U t.e,J I t.j] 116));have ZZ:=ae (X.i.k (O.i.P (by omega)));have W:=ae (O1.i.alloc (N #[ZF t.K,J I t.M,U t.H,ZF t.ask,U t.e,J I t.j] 116));clear ht aq HO HB;simp only[Turn.v];cases ho:t.K with
  |true =>
   rw[ho] at O ZZ W;by_cases ZT:k<(f p).f
   ·have DQ:(k:Int)<(f p).f:=by omega
    have u:Hid (eA f p k=ZH):=by show _=_;unfold eA;rw[<-D.i];rw[ho];rfl
    have x:Hid (C=4):=by show _=_;rw[HC.i];exact vm ZT HF.i u.i
    go_wp2;go_ret;exact⟨by simp[x.i],ZZ.i⟩
   ·obtain rfl:k=(f p).f:=by omega
    have ZO:=ae (vq HF.i);by_cases hc:t.M=(f p).M
    ·cases htx:(t.H.toList == (f p).H.toList) with
     |true =>
      have x:Hid (C=0):=by show _=_;rw[HC.i,ZO.i,<-D.i,ho,eI (by simp),eT ⟨hc,TS.1 htx⟩]
      go_wp2;go_ret;exact⟨by simp[x.i],X.i.k ((ZN.i.alloc ZM _).P (by omega))⟩
     |false =>
      have x:Hid (C=5):=by show _=_;rw[HC.i,ZO.i,<-D.i,ho,eI (by simp),eI (λh=>by rw[h.2] at htx;simp at htx)]
      go_wp2;go_ret;exact⟨by simp[x.i],X.i.k ((ZN.i.alloc ZM _).P (by omega))⟩
    ·have x:Hid (C=5):=by show _=_;rw[HC.i,ZO.i,<-D.i,ho,eI (by simp),eI (λh=>hc h.1)]
     have Hx:(t.M == (f p).M)=ZA:=by simpa using hc
     go_wp2;go_ret;exact⟨by simp[x.i],X.i.k ((ZN.i.alloc ZM _).P (by omega))⟩
  |false =>
   rw[ho] at O ZZ W;by_cases ZT:k<(f p).f
   ·have DQ:(k:Int)<(f p).f:=by omega
    have hge:decide ((f p).f<=k)=ZA:=by simp;omega
    obtain⟨bl,offl,rfl,ld⟩:=(ph.i.aa ZZ.i ly).resolve_left (by omega);obtain⟨r0,r1,K,M⟩:=ld.2 k ZT;obtain⟨l,hl⟩:∃l,(f p).m k=l:=⟨_,rfl⟩
    rw[hl] at r0 r1 K M;obtain⟨nm,ask,hs,at_⟩:=l;dsimp only at r0 r1 K M;have P:=ae hl;clear ld hl;have S:(t.e.toList == nm.toList)=(nm.toList == t.e.toList):=by rw[OJ,TS,TS];exact eq_comm
    have WY:(eA f p k=ZH/\((nm.toList == t.e.toList)=ZA\/(nm.toList == t.e.toList)=ZH/\(t.ask=ZH/\ask=ZA\/t.ask=ZA/\ask=ZH)))\/(eA f p k=ZA/\(nm.toList == t.e.toList)=ZH/\t.ask=ask):=by unfold eA;rw[<-D.i,P.i,ho,S];cases (nm.toList == t.e.toList)<;>cases t.ask<;>cases ask<;>simp
    rcases WY with⟨u,WY⟩|⟨u,hn,R⟩
    ·replace u:=ae u;have x:Hid (C=4):=by show _=_;rw[HC.i];exact vm ZT HF.i u.i
     rcases WY with hn|⟨hn,⟨R,rfl⟩|⟨R,rfl⟩⟩
     all_goals
      have JI:=S.k hn;clear S
      (try rw[R] at O ZZ W r0 r1 K M)
      go_wp2_with fail;go_quiet (fail);have ZR:=ae (AD ZZ.i nq);clear r0 r1 K M O ZZ W d2 d3 d5;generalize World.drewN (World.alloc w1 _) nq=WQ at ZR ⊢;go_wp2;go_ret;exact⟨by simp[x.i],ZR.i⟩
    ·replace u:=ae u;have JI:=S.k hn;clear S;rw[R] at O ZZ W r0 r1 K M;have HY:Hid (eJ f ⟨nm,ask,hs,at_⟩=yOf f p k):=by show _=_;unfold yOf;rw[P.i]
     have JH:Hid (ask=ZH->0<=at_/\at_.toNat<n):=λha=>by have:=Bk.i k ZT (by rw[P.i];exact ha);rw[P.i] at this;exact this
     cases ask
     all_goals
      go_wp2_with fail;go_quiet (fail);have ZR:=ae (AD O.i nq);have ZL:=ae (X.i.k (ZR.i.P (by omega)));have OQ:=ae (K_ W.i (AD br nq) ly);clear r0 r1 K M O ZZ W d2 d3 d5;generalize World.drewN (World.alloc w1 _) nq=WQ at ZR ZL OQ ⊢;have kA2:=(ZR.i.O (p:=(T (A (z w)) 0 Y)) (show (A (z w))<A (z w)+2 by omega)).k kA;have d5:=(ZR.i.O (p:=(T (A (z w)+1) 5 Y)) (show (A (z w))+1<A (z w)+2 by omega)).k ex;have DE:=(ph.i.aa ZL.i ly).resolve_left (by omega);obtain⟨bl2,offl2,eb,fd⟩:=DE;simp only[ND,RP,and_true] at eb;obtain⟨rfl,rfl⟩:=eb;obtain⟨r0,r1,K,M⟩:=fd.2 k ZT;rw[P.i] at r0 r1 K M;dsimp only at r0 r1 K M;have qr:A (z w)+2<=A (z WQ):=by have:=ZR.i.size;omega
      clear fd;go_wp2_with fail
      go_region_law (first
       |(refine dR rfl (.tmp 67) (.tmp 75) 114 rfl (A (z w)+2) 119 i0 (ZJ #[ZF ZA,J I 0,U ⟨#[]⟩]) 3 32 YM hi JJ Fm GS rfl (by decide) (Z (Q (T g 0 Y)) k c) k (mc (yOf f p) k) (by simp[Act.eval]) (by first|exact O5.i.alloc _|exact O5.i.drew.alloc _|exact O5.i.drew.drew.alloc _) (T (A (z w5)) 0 Y) 1 1 (lu (yOf f p) k) (by simp[Act.eval]) rfl (by first|exact nP w5 _ _ _ _|exact nP w5.drew _ _ _ _|exact nP w5.drew.drew _ _ _ _) (by simp[lu,Value.oneCell']) (by unfold maxLen;omega) (by omega) (by simp<;>omega) ?_;intro v6 w6 bt ZQ At;have O6:=ae bt;(first|have B6:=ae (bg (B5.i.alloc mv _) ZQ (by simp<;>omega) (λj e=>(O5.i.lt j e).1))|have B6:=ae (bg (B5.i.drew.alloc (by simpa using mv) _) ZQ (by simp<;>omega) (λj e=>(O5.i.lt j e).1)));clear bt ZQ At)
       |(go_simp;go_at_call 68;(first|(guard_hyp R:t.ask=ZH;refine(nN r m n j_ f ⟨nm,ZH,hs,at_⟩ _ ?_ (λ_=>JH.i (by simp))).P ?_)|refine(nN r m n j_ f ⟨nm,ZA,hs,at_⟩ _ ?_ (λh=>by cases h)).P ?_);(first|exact ZS.i.aa ZL.i ly|exact ZS.i.aa ZL.i.drew ly|exact ZS.i.aa ZL.i.drew.drew ly|exact ZS.i.aa ZL.i.drew.drew.drew ly);rintro e w5⟨rfl,G⟩;rw[HY.i];have D5:Hid (Below (A (z WQ)) WQ w5):=⟨G.os,G.tape,G.output,G.size,G.p⟩;have O5:=ae (K_ OQ.i D5.i ly);have B5:=ae (ZR.i.k (D5.i.P qr));have mv:A (z w)+2<=A (z w5):=(nX qr D5.i.size);clear G))
      all_goals
       obtain⟨g6,c6,rfl⟩:=zQ O6.i (by omega);go_simp;go_wp2
       exact⟨⟨k+1,g6,c6,by omega,rfl,O6.i,λi hi=>by
        by_cases e:i=k
        ·subst e;exact u.i
        ·exact HF.i i (by omega),B6.i⟩,by simp[GI];omega⟩
   ·obtain rfl:k=(f p).f:=by omega
    have ZO:=ae (vq HF.i);have x:Hid (C=4):=by show _=_;rw[HC.i,ZO.i,<-D.i,ho,eT rfl]
    go_wp2_with fail;go_quiet (fail);go_wp2;go_ret;exact⟨by simp[x.i],by first|exact AD ZZ.i _|exact ZZ.i⟩
