import Derived.Test.YthkgkfehliinfaaGreatDoorFW
import Derived.Deep.CutBlock
set_option linter.all false
set_option maxRecDepth 1000000
set_option maxHeartbeats 8000000
open Go renaming Addr.mk->Q,Value.slice->Y,Value.string->U,Value.int->J,Value.bool->ZF,Value.agg->ZJ,Obj.cells->N,IntKind.i64->I,World->E,Value->ZB,TypeId->ZK,Ending.returned->ZI,World.heap->z,World.ownsRow->ZX,World.alloc->ZV,World.cell?->ZW,World.setCell->ZU,Proofs.Tryz.prog->Pg
open Option renaming none->Z,some->T
open Bool renaming false->ZA,true->ZH
open Array renaming size->B
open List renaming length->A
namespace Go.Proofs.YthkgkfehliinfaaGreatDoor.Vp
open Tryz RowKit
variable {p n g z_ k_ v_:Nat}{w:E}{f:Nat->au}{b s:List F_}{y:Nat->aD}{e:ZK}
def zP (pb po y_ ex z_ k_ v_:Nat)(f:Nat->Ins)(a:O_)(s:List F_)(j_ b2 o2 n JM At:Nat)(y:Nat->aD)(w:E)
  (hP:Q_ w pb po y_ f) (hY:RowReply w b2 o2 n y) (hO:ZX w At 9 1 (Y a (A s) j_) (A s) (strs s)) (hp:z_<=2000) (hst:k_<=2000) (hlk:v_<=200) (hs:A s<=50) (JX:∀x∈s,x.size<=2000) (JW:dn f y_=ZH) :
  Calls Pg 122 #[ZJ #[Y (T (Q pb po Z)) y_ ex],ec z_ (Y a (A s) j_) k_ v_ ZA 0 ⟨#[]⟩ ZA ⟨#[]⟩ ZA,Y (T (Q b2 o2 Z)) n JM] w λe w'=>∃v,e=ZI v/\SoIs w' (B (z w)) v (gn f y_ y n z_ k_ v_ s)/\Below (B (z w)) w w':=by
 obtain⟨so,la⟩:∃so,so=gn f y_ y n z_ k_ v_ s:=⟨_,rfl⟩
 rw[<-la];have S0:=ae la;clear la;have HP:=ae hP;have HY:=ae hY;have HO:=ae hO;have HK:=ae JW;have HL:=ae JX;clear hP hY hO JW JX;have A0:=ae ((((BS w).alloc ly (N #[Y (T (Q pb po Z)) y_ ex] 37)).alloc (by simp) (N #[J I z_,Y a (A s) j_,J I k_,J I v_,ZF ZA,J I 0,U ⟨#[]⟩,ZF ZA,U ⟨#[]⟩,ZF ZA] 192)).alloc (by simp<;>omega) (N #[J I 0,Y Z 0 0,J I 0,J I 0,ZF ZA,J I 0,U ⟨#[]⟩,ZF ZA,U ⟨#[]⟩,ZF ZA] 192));have R0:=ae ((lp (ZV w (N #[Y (T (Q pb po Z)) y_ ex] 37)) (J I z_) (Y a (A s) j_) (J I k_) (J I v_) (ZF ZA) (J I 0) (U ⟨#[]⟩) (ZF ZA) (U ⟨#[]⟩) (ZF ZA) 192 (B (z w)+1) (by simp)).al (N #[J I 0,Y Z 0 0,J I 0,J I 0,ZF ZA,J I 0,U ⟨#[]⟩,ZF ZA,U ⟨#[]⟩,ZF ZA] 192));have Z0:=ae (lp (ZV (ZV w (N #[Y (T (Q pb po Z)) y_ ex] 37)) (N #[J I z_,Y a (A s) j_,J I k_,J I v_,ZF ZA,J I 0,U ⟨#[]⟩,ZF ZA,U ⟨#[]⟩,ZF ZA] 192)) (J I 0) (Y Z 0 0) (J I 0) (J I 0) (ZF ZA) (J I 0) (U ⟨#[]⟩) (ZF ZA) (U ⟨#[]⟩) (ZF ZA) 192 (B (z w)+1+1) (by simp));go_enter func122,ntmps122;go_wp2_with fail;refine(sA z_ (by omega) _).P ?_;rintro e l⟨rfl,aq⟩;have hD:(⟨(Lib.decDigits z_).toArray⟩:F_)=dV z_:=rfl;rw[hD];have R1:=ae (R0.aa aq (by simp<;>omega));have Z1:=ae (Z0.aa aq (by simp<;>omega));have B1:=ae (A0.k (aq.P (by simp<;>omega)));have pP:ZW l (Q (B (z w)) 0 Z)=T (Y (T (Q pb po Z)) y_ ex):=(aq.O (p:=(Q (B (z w)) 0 Z)) (by simp<;>omega)).k (IW _ _ _ _ _ _ _ rfl);have O1:=ae (J_ HO B1 ly);have hz1:B (z w)+1+1<B (z l):=Z1.1;have hz0:B (z w)<B (z l):=by omega
 have hz01:B (z w)+1<B (z l):=by omega
 clear aq A0 R0 Z0 hD;obtain⟨m,⟨c0,f0⟩,⟨c1,f1⟩,⟨c2,ZL⟩,⟨c3,ZN⟩,⟨c4,ZP⟩,⟨c5,ZM⟩,⟨P,V⟩,⟨c7,S⟩,⟨M,R⟩,c9,ZO⟩:=R1.i;rcases Int.lt_or_le (z_:Int) y_ with h1|h1;rotate_left;{have S1:Hid (so=.inr (.inl (2,(dV z_),k_))):=S0.k (show gn f y_ y n z_ k_ v_ s=.inr (.inl (2,(dV z_),k_)) by have h:y_<=z_:=(by omega);simp[gn,iE,bQ,cU,h]);go_wp2_with fail;refine(fN _ _ _ _ _ _ _ _ _ _ _ _ _ _ _).P ?_;rintro e w5⟨rfl,b⟩;have X:=ae (Z1.aa b Z1.1);have D:=ae (B1.k (b.P B1.size));clear b;clear m c0 f0 c1 f1 c2 ZL c3 ZN c4 ZP c5 ZM P V c7 S M R c9 ZO;obtain⟨ld,⟨z0,y0⟩,⟨z1,y1⟩,⟨z2,y2⟩,⟨z3,y3⟩,⟨H,y4⟩,⟨G,y5⟩,⟨O,y6⟩,⟨ZQ,y7⟩,⟨ZS,y8⟩,ZR,y9⟩:=X.i;go_wp2;refine bp (v:=ec z_ (Y a (A s) j_) k_ v_ ZH 2 (dV z_) ZA ⟨#[]⟩ ZA) (by simp[results,Q9,go_sem,z0,z1,z2,z3,H,G,O,ZQ,ZS,ZR]) rfl ⟨_,rfl,(by rw[S1.i];exact⟨_,_,_,_,_,rfl⟩),dS D (by omega) _ _ _ _ _ _ _ _ _ _⟩};rcases Bool.eq_false_or_eq_true ((k_:Int) == 2000) with h2|h2;{have S1:Hid (so=.inr (.inl (3,⟨#[]⟩,k_))):=S0.k (show gn f y_ y n z_ k_ v_ s=.inr (.inl (3,⟨#[]⟩,k_)) by have h:¬ y_<=z_:=(by omega);have e:k_=2000:=(by simp at h2;omega);simp[gn,iE,bQ,cU,h,e]);go_wp2_with fail;refine(fN _ _ _ _ _ _ _ _ _ _ _ _ _ _ _).P ?_;rintro e w5⟨rfl,b⟩;have X:=ae (Z1.aa b Z1.1);have D:=ae (B1.k (b.P B1.size));clear b;clear m c0 f0 c1 f1 c2 ZL c3 ZN c4 ZP c5 ZM P V c7 S M R c9 ZO;obtain⟨ld,⟨z0,y0⟩,⟨z1,y1⟩,⟨z2,y2⟩,⟨z3,y3⟩,⟨H,y4⟩,⟨G,y5⟩,⟨O,y6⟩,⟨ZQ,y7⟩,⟨ZS,y8⟩,ZR,y9⟩:=X.i;go_wp2;refine bp (v:=ec z_ (Y a (A s) j_) k_ v_ ZH 3 ⟨#[]⟩ ZA ⟨#[]⟩ ZA) (by simp[results,Q9,go_sem,z0,z1,z2,z3,H,G,O,ZQ,ZS,ZR]) rfl ⟨_,rfl,(by rw[S1.i];exact⟨_,_,_,_,_,rfl⟩),dS D (by omega) _ _ _ _ _ _ _ _ _ _⟩};have hi:=j7 HK.i (show z_<y_ by omega);simp only[cL,nD] at hi;obtain⟨op,JH⟩:=p9 (show 0<=(f z_).op by omega);obtain⟨k,hk⟩:=p9 hi.2.2.2.1;have J7:dX (f z_).op<=2000:=by unfold dX;split<;>(try split)<;>omega
 have J5:bW (f z_).op<=2000:=by unfold bW;split<;>omega
 have Ks:k<=2000:=by omega
 have Kd:(f z_).s.size<=2000:=by omega
 have ur:1<=op:=by omega
 have JS:op<=15:=by omega
 have EP:Hid (so=if fg op s=ZA then .inr (.inl (2,(dV z_),(k_+1))) else iE y n z_ (k_+1) v_ (cK op k (f z_).s z_ v_ s)):=by
  show _=_;rw[S0.i];have q1:¬ y_<=z_:=by omega
  have q2:¬ k_=2000:=by simp at h2;omega
  simp only[gn,bQ,cU,q1,q2,UI,JH,hk,Int.toNat_natCast];split<;>rfl
 clear hi J7 J5 HK;obtain⟨d0,d1,d2⟩:=(HP.aa B1 ly).2 z_ (by omega);rw[JH] at d0;rw[hk] at d2;have hpb:pb<B (z w):=HP.1;have J8:=(K_ l (Q (B (z w)+1) 2 Z) (Q pb (po+z_*3) Z) (J I ((k_:Int)+1)) (by simp;omega)).k d0;have Km:=(K_ l (Q (B (z w)+1) 2 Z) (Q pb (po+z_*3+1) Z) (J I ((k_:Int)+1)) (by simp;omega)).k d1;have Kj:=(K_ l (Q (B (z w)+1) 2 Z) (Q pb (po+z_*3+2) Z) (J I ((k_:Int)+1)) (by simp;omega)).k d2;have JP:∀j,B (z w)<=j->Value.ownBlock (Y a (A s) j_)≠T j:=λj hj e=>by have:=(HO.lt j e).2;omega
 have R2:=ae ((R1.set2 (J I ((k_:Int)+1))).al (N #[J I op,U (f z_).s,J I k] 124));have Z2:=ae ((Z1.other (Q (B (z w)+1) 2 Z) (J I ((k_:Int)+1)) (by simp)).al (N #[J I op,U (f z_).s,J I k] 124));have O2:=ae ((WG O1 (a:=(Q (B (z w)+1) 2 Z)) (JP _ (by simp)) (J I ((k_:Int)+1))).alloc (N #[J I op,U (f z_).s,J I k] 124));have B2:=ae ((B1.setCell (p:=(Q (B (z w)+1) 2 Z)) (by simp) (J I ((k_:Int)+1))).alloc (by have:=B1.size;simpa using this) (N #[J I op,U (f z_).s,J I k] 124));have g0:ZW (ZV (ZU l (Q (B (z w)+1) 2 Z) (J I ((k_:Int)+1))) (N #[J I op,U (f z_).s,J I k] 124)) (Q (B (z l)) 0 Z)=T (J I op):=kH _ _ _ _ _ _ (by simp) rfl;have g1:ZW (ZV (ZU l (Q (B (z w)+1) 2 Z) (J I ((k_:Int)+1))) (N #[J I op,U (f z_).s,J I k] 124)) (Q (B (z l)) 1 Z)=T (U (f z_).s):=kH _ _ _ _ _ _ (by simp) rfl;have g2:ZW (ZV (ZU l (Q (B (z w)+1) 2 Z) (J I ((k_:Int)+1))) (N #[J I op,U (f z_).s,J I k] 124)) (Q (B (z l)) 2 Z)=T (J I k):=kH _ _ _ _ _ _ (by simp) rfl;have mv:B (z l)<B (z (ZV (ZU l (Q (B (z w)+1) 2 Z) (J I ((k_:Int)+1))) (N #[J I op,U (f z_).s,J I k] 124))):=by simp
 clear JP;go_wp2_with fail;refine(xo op _ ur JS).P ?_;rintro e w9⟨rfl,Kl⟩;subst Kl;clear m c0 f0 c1 f1 c2 ZL c3 ZN c4 ZP c5 ZM P V c7 S M R c9 ZO;clear d0 d1 d2 J8 Km Kj JH hk pP;generalize World.alloc (World.setCell l _ _) _=W at R2 Z2 O2 B2 g0 g1 g2 mv ⊢;obtain⟨m,⟨c0,f0⟩,⟨c1,f1⟩,⟨c2,ZL⟩,⟨c3,ZN⟩,⟨c4,ZP⟩,⟨c5,ZM⟩,⟨P,V⟩,⟨c7,S⟩,⟨M,R⟩,c9,ZO⟩:=R2.i;have hpt:=Fb op;have Kp:aX op<=2:=by unfold aX;split<;>(try split)<;>omega
 by_cases hb:fg op s=ZA
 ·have S1:Hid (so=.inr (.inl (2,(dV z_),(k_+1)))):=by rw[EP.i,eT hb];rfl
  have hA:(A s:Int)<(aX op:Nat)\/¬ (A s:Int)<(aX op:Nat)/\(50:Int)<(A s:Int) - (aX op:Nat)+(bN op:Nat):=by simp only[fg,NZ] at hb;omega
  clear hb EP;rcases hA with hA|⟨hA,J0⟩
  iterate 2
   ·go_wp2_with fail
    refine(fN _ _ _ _ _ _ _ _ _ _ _ _ _ _ _).P ?_;rintro e w5⟨rfl,b⟩;have X:=ae (Z2.aa b Z2.1);have D:=ae (B2.k (b.P B2.size));clear b;clear m c0 f0 c1 f1 c2 ZL c3 ZN c4 ZP c5 ZM P V c7 S M R c9 ZO;obtain⟨ld,⟨z0,y0⟩,⟨z1,y1⟩,⟨z2,y2⟩,⟨z3,y3⟩,⟨H,y4⟩,⟨G,y5⟩,⟨O,y6⟩,⟨ZQ,y7⟩,⟨ZS,y8⟩,ZR,y9⟩:=X.i;go_wp2;refine bp (v:=ec z_ (Y a (A s) j_) ((k_:Int)+1) v_ ZH 2 (dV z_) ZA ⟨#[]⟩ ZA) (by simp[results,Q9,go_sem,z0,z1,z2,z3,H,G,O,ZQ,ZS,ZR]) rfl ⟨_,rfl,(by rw[S1.i];exact⟨_,_,_,_,_,rfl⟩),dS D (by omega) _ _ _ _ _ _ _ _ _ _⟩
 have JT:aX op<=A s/\(A s) - aX op+bN op<=50:=by simpa[fg] using hb
 have hA:¬ (A s:Int)<(aX op:Nat):=by omega
 have J0:¬ (50:Int)<(A s:Int) - (aX op:Nat)+(bN op:Nat):=by omega
 have SO:Hid (so=iE y n z_ (k_+1) v_ (cK op k (f z_).s z_ v_ s)):=by rw[EP.i,eI hb];rfl
 have HB:=ae JT.1;have Kf:(s.drop (aX op)).length+bN op<=50:=by rw[NO];omega
 clear hb JT EP;obtain⟨Z8,JN⟩:∃Z8,Z8=lZ op s:=⟨_,rfl⟩
 obtain⟨ZY,aq⟩:∃ZY,ZY=rI op s:=⟨_,rfl⟩
 obtain⟨r,n9⟩:∃r,r=s.drop (aX op):=⟨_,rfl⟩
 rw[<-n9] at Kf;have EA:=ae JN;have EB:=ae aq;have ER:=ae n9;clear S0 JN aq n9;go_upto_if 68 with fail;go_cut [11] (λsa K=>sa=U Z8/\W=K);case first =>
  by_cases ht:(0:Int)<(aX op:Nat)
  ·rcases s with _|⟨x,q⟩
   {exact absurd HB.i (by simp;omega)}
   ·obtain⟨g,c,e⟩:=iA O2 (by simp);obtain⟨rfl,-⟩:=T6 e;have t1:=Hl O2.i;have Ki:A q<=50:=by simp at hs;omega
    obtain rfl:Z8=x:=by rw[EA.i];unfold lZ;rw[eT (by omega)];rfl
    rw[vF] at c1;go_wp2;go_meet;exact⟨rfl,rfl⟩
  ·obtain rfl:Z8=⟨#[]⟩:=by rw[EA.i];unfold lZ;rw[eI (by omega)]
   go_wp2;go_meet;exact⟨rfl,rfl⟩
 case rest =>
 obtain⟨rfl,rfl⟩:=hcut;go_upto_if 78 with fail;go_cut [12] (λsa K=>sa=U ZY/\W=K);case first =>
  by_cases ht:(1:Int)<(aX op:Nat)
  ·rcases s with _|⟨x,_|⟨ZZ,q⟩⟩
   {exact absurd HB.i (by simp;omega)};{exact absurd HB.i (by simp;omega)}
   ·obtain⟨g,c,e⟩:=iA O2 (by simp);obtain⟨rfl,-⟩:=T6 e;obtain⟨t1,t2⟩:=Hm O2;have Ki:A q+1<=50:=by simp at hs;omega
    obtain rfl:ZY=ZZ:=by rw[EB.i];unfold rI;rw[eT (by omega)];rfl
    rw[vF,vF] at c1;go_wp2;go_meet;exact⟨rfl,rfl⟩
  ·obtain rfl:ZY=⟨#[]⟩:=by rw[EB.i];unfold rI;rw[eI (by omega)]
   go_wp2;go_meet;exact⟨rfl,rfl⟩
 case rest =>
 obtain⟨rfl,rfl⟩:=hcut;have hl:A s=A r+aX op:=by rw[ER.i,NO];have:=HB.i;omega
 go_upto_region 17 with fail;go_cut [13] (λsr K=>∃gr cr,sr=Y (T (Q gr 0 Z)) (A r) cr/\(B (z W))<=gr/\Hid (ZX K (B (z W)) 9 1 (Y (T (Q gr 0 Z)) (A r) cr) (A r) (strs r))/\Hid (Below (B (z W)) W K));case first =>
  rcases BJ O2.i with⟨rfl,hz,rfl⟩|⟨g,rfl⟩
  ·obtain rfl:s=[]:=VJ.1 hz;obtain rfl:r=[]:=by rw[ER.i];simp
   have JZ:aX op=0:=by simpa using HB.i
   have h0:((aX op:Nat):Int)=0:=by rw[JZ];rfl
   have hw3:-((aX op:Nat):Int)=0:=by rw[h0];decide
   have hw4:0 - ((aX op:Nat):Int)=0:=by rw[h0];decide
   clear h0 JZ hl;have AL:=ae ((BS W).alloc ly (N #[] 9));have OM:=ae (OV (base:=B (z W)) (e:=9) (size:=1) W #[] 0 ly (by unfold maxLen;omega) rfl);go_wp2;go_meet;exact⟨_,_,rfl,p7 _,OM,AL⟩
  ·have hcap:(A r:Int)<=j_:=by have:=Hn O2.i;omega
   have J4:Hid (∀j u,(strs r)[j]?=T u->(ZV W (N #[] 9)).cell? (((Q g 0 Z):Addr).add j)=T u):=Ho (xs:=strs (s.take (aX op))) (by
    have h:=O2.alloc (N #[] 9);rw[ER.i,<-Ff,QO]
    exact h)
   obtain⟨t,ht⟩:∃t,t=aX op:=⟨_,rfl⟩
   rw[<-ht] at hl Kp ⊢;rw[hl] at c1 hs;have HS:=ae hs;have HL:=ae hl;clear hs hl;obtain⟨JI,hi,JJ,Id,GS⟩:=NP gX;go_wp2_with (at_builtin;refine DN _ rfl (.tmp 87) (.tmp 95) 43 rfl (B (z W)) 9 JI (U ⟨#[]⟩) 1 16 NH hi JJ Id GS rfl (by decide) (Y (T (Q (B (z W)) 0 Z)) 0 0) 0 [] (by simp[Act.eval]) (OV W #[] 0 ly (by unfold maxLen;omega) rfl) (Q g 0 Z) (A r) j_ (strs r) (by simp[Act.eval]) (by simp[strs]) J4.i (Fa _) (by unfold maxLen;omega) (by omega) (by simp) ?_;intro v' w2 ph Bk JK;simp only[IT,NS] at ph;obtain⟨gr,cr,rfl,JO⟩:=sM ph (λe=>by simpa using JK.1 e);have B3:=ae (bg ((BS W).alloc ly (N #[] 9)) Bk (by simp) (λj e=>by simp[Value.ownBlock] at e;omega));have DQ:=ae ph;clear ph Bk JK);go_meet;exact⟨gr,cr,rfl,JO,DQ,B3⟩
 case rest =>
 clear hl hA J0;obtain⟨gr,cr,rfl,JO,DQ,B3⟩:=hcut;have Fd:B (z w)<=B (z W):=B2.size;have n9:B (z w)+1<B (z W):=R2.1;have DE:B (z w)+1+1<B (z W):=Z2.1;have JG:B (z w)+1≠gr:=by omega
 have Kh:B (z W)<=B (z wc):=B3.size;clear m c0 f0 c1 f1 c2 ZL c3 ZN c4 ZP c5 ZM P V c7 S M R c9 ZO;have R3:=ae (R2.aa B3 R2.1);have Z3:=ae (Z2.aa B3 Z2.1);have G0:=(B3.O (p:=(Q (B (z l)) 0 Z)) mv).k g0;have G1:=(B3.O (p:=(Q (B (z l)) 1 Z)) mv).k g1;have G2:=(B3.O (p:=(Q (B (z l)) 2 Z)) mv).k g2;have R4:=ae (R3.set0 (J I ((z_:Int)+1)));have Z4:=ae (Z3.other (Q (B (z w)+1) 0 Z) (J I ((z_:Int)+1)) (by simp));have B4:=ae ((B2.k (B3.P B2.size)).setCell (p:=(Q (B (z w)+1) 0 Z)) (by simp) (J I ((z_:Int)+1)));have O4:=ae (dT DQ JG (J I ((z_:Int)+1)) 0);have H0:=(K_ _ (Q (B (z w)+1) 0 Z) (Q (B (z l)) 0 Z) (J I ((z_:Int)+1)) (by simp;omega)).k G0;have H1:=(K_ _ (Q (B (z w)+1) 0 Z) (Q (B (z l)) 1 Z) (J I ((z_:Int)+1)) (by simp;omega)).k G1;have H2:=(K_ _ (Q (B (z w)+1) 0 Z) (Q (B (z l)) 2 Z) (J I ((z_:Int)+1)) (by simp;omega)).k G2;have bt:B (z W)<=B (z (ZU wc (Q (B (z w)+1) 0 Z) (J I ((z_:Int)+1)))):=by simpa using Kh
 obtain⟨J9,⟨e0,v0⟩,⟨e1,v1⟩,⟨e2,v2⟩,⟨e3,v3⟩,⟨e4,v4⟩,⟨e5,v5⟩,⟨e6,v6⟩,⟨e7,v7⟩,⟨e8,v8⟩,e9,v9⟩:=R3.i;go_upto_block 0 with fail;clear J9 e0 v0 e1 v1 e2 v2 e3 v3 e4 v4 e5 v5 e6 v6 e7 v7 e8 v8 e9 v9;clear g0 g1 g2 G0 G1 G2 B3 R3 Z3 DQ R2 Z2 O2;generalize World.setCell wc _ _=W5 at R4 Z4 B4 O4 H0 H1 H2 bt ⊢;obtain⟨J6,Kb⟩:Z8.size<=2000/\ZY.size<=2000:=by rw[EA.i,EB.i];exact vg HL op
 obtain⟨C,JR⟩:∃C,C=nJ op k Z8 z_:=⟨_,rfl⟩
 have th:=ae JR;clear JR;go_cut [] (λK=>op<=11/\Hid (Ten K (B (z w)+1) (J I C) (Y a (A s) j_) (J I ((k_:Int)+1)) (J I v_) (ZF ZA) (J I 0) (U ⟨#[]⟩) (ZF ZA) (U ⟨#[]⟩) (ZF ZA))/\Hid (Ten K (B (z w)+1+1) (J I 0) (Y Z 0 0) (J I 0) (J I 0) (ZF ZA) (J I 0) (U ⟨#[]⟩) (ZF ZA) (U ⟨#[]⟩) (ZF ZA))/\Hid (Below (B (z w)) w K)/\Hid (ZX K (B (z W)) 9 1 (Y (T (Q gr 0 Z)) (A r) cr) (A r) (strs r))/\ZW K (Q (B (z l)) 0 Z)=T (J I op)/\ZW K (Q (B (z l)) 1 Z)=T (U (f z_).s)/\ZW K (Q (B (z l)) 2 Z)=T (J I k)/\(B (z W))<=B (z K));case first =>
  obtain⟨m,⟨c0,f0⟩,⟨c1,f1⟩,⟨c2,ZL⟩,⟨c3,ZN⟩,⟨c4,ZP⟩,⟨c5,ZM⟩,⟨P,V⟩,⟨c7,S⟩,⟨M,R⟩,c9,ZO⟩:=R4.i;rcases Hr op Z8 JS with rfl|rfl|rfl|rfl|rfl|⟨rfl,q1⟩|⟨rfl,q1,q2⟩|⟨rfl,q1,q2⟩|h9;{go_wp2_with fail;refine(fN _ _ _ _ _ _ _ _ _ _ _ _ _ _ _).P ?_;rintro e w5⟨rfl,b⟩;have X:=ae (Z4.aa b Z4.1);have D:=ae (B4.k (b.P B4.size));clear b;clear m c0 f0 c1 f1 c2 ZL c3 ZN c4 ZP c5 ZM P V c7 S M R c9 ZO;obtain⟨ld,⟨z0,y0⟩,⟨z1,y1⟩,⟨z2,y2⟩,⟨z3,y3⟩,⟨H,y4⟩,⟨G,y5⟩,⟨O,y6⟩,⟨ZQ,y7⟩,⟨ZS,y8⟩,ZR,y9⟩:=X.i;go_wp2;refine bp (v:=ec ((z_:Int)+1) (Y a (A s) j_) ((k_:Int)+1) v_ ZH 0 Z8 ZA ⟨#[]⟩ ZA) (by simp[results,Q9,go_sem,z0,z1,z2,z3,H,G,O,ZQ,ZS,ZR]) rfl ⟨_,rfl,(by rw[SO.i,ye _ _ _ _ _ _ _ _ _ (by simp) HB.i,<-EA.i];exact⟨_,_,_,_,_,rfl⟩),dS D (by omega) _ _ _ _ _ _ _ _ _ _⟩};{go_wp2_with fail;refine(fN _ _ _ _ _ _ _ _ _ _ _ _ _ _ _).P ?_;rintro e w5⟨rfl,b⟩;have X:=ae (Z4.aa b Z4.1);have D:=ae (B4.k (b.P B4.size));clear b;clear m c0 f0 c1 f1 c2 ZL c3 ZN c4 ZP c5 ZM P V c7 S M R c9 ZO;obtain⟨ld,⟨z0,y0⟩,⟨z1,y1⟩,⟨z2,y2⟩,⟨z3,y3⟩,⟨H,y4⟩,⟨G,y5⟩,⟨O,y6⟩,⟨ZQ,y7⟩,⟨ZS,y8⟩,ZR,y9⟩:=X.i;go_wp2;refine bp (v:=ec ((z_:Int)+1) (Y a (A s) j_) ((k_:Int)+1) v_ ZH 1 Z8 ZA ⟨#[]⟩ ZA) (by simp[results,Q9,go_sem,z0,z1,z2,z3,H,G,O,ZQ,ZS,ZR]) rfl ⟨_,rfl,(by rw[SO.i,ye _ _ _ _ _ _ _ _ _ (by simp) HB.i,<-EA.i];exact⟨_,_,_,_,_,rfl⟩),dS D (by omega) _ _ _ _ _ _ _ _ _ _⟩};iterate 2
   ·go_wp2_with fail
    have Z5:=ae (Z4.other (Q (B (z w)+1) 1 Z) (Y (T (Q gr 0 Z)) (A r) cr) (by simp));have D:=ae (B4.setCell (p:=(Q (B (z w)+1) 1 Z)) (by simp) (Y (T (Q gr 0 Z)) (A r) cr));have O5:=ae (dT O4 JG (Y (T (Q gr 0 Z)) (A r) cr) 1);have Y5:=ae (HY.aa D ly);have hq:=λ(o:Nat) (ho:o=12\/o=13)=>zJ o (f z_).s k (z_+1) (k_+1) v_ (T (Q gr 0 Z)) cr r Z8 (dV z_) b2 o2 n JM (B (z W)) y _ Y5 O5 (by simpa using bt) ho hlk (by omega);rw[show((z_+1:Nat):Int)=(z_:Int)+1 by omega,show((k_+1:Nat):Int)=(k_:Int)+1 by omega] at hq;refine(hq _ (by simp)).P ?_;rintro e w5⟨v,rfl,la,b⟩;have Ka:=ae la;obtain⟨l0,l1,l2,l3,l4,l5,l6,l7,l8,l9,Ko,Kr,rfl⟩:=la.form;have X:=ae (Z5.aa b DE);have B6:=ae (D.k (b.P Fd));clear b hq la;clear m c0 f0 c1 f1 c2 ZL c3 ZN c4 ZP c5 ZM P V c7 S M R c9 ZO;obtain⟨ld,⟨z0,y0⟩,⟨z1,y1⟩,⟨z2,y2⟩,⟨z3,y3⟩,⟨H,y4⟩,⟨G,y5⟩,⟨O,y6⟩,⟨ZQ,y7⟩,⟨ZS,y8⟩,ZR,y9⟩:=X.i;go_wp2;refine bp (v:=ec l0 (Y l1 l2 l3) l4 l5 l6 l7 l8 l9 Ko Kr) (by simp[results,Q9,go_sem,z0,z1,z2,z3,H,G,O,ZQ,ZS,ZR]) rfl ⟨_,rfl,(by rw[SO.i,Ht _ _ _ _ _ _ _ _ _ (by simp) HB.i,<-EA.i,<-ER.i];exact(BD Ka DE _ _ _ _ _ _ _ _ _ _).P Fd),dS B6 (by omega) _ _ _ _ _ _ _ _ _ _⟩
  iterate 3
   ·obtain rfl:C=k:=th.k (JC (by first|exact .inl rfl|exact .inr (.inl ⟨rfl,q1⟩)|exact .inr (.inr ⟨rfl,q2⟩)))
    have R5:=ae (R4.set0 (J I C));have Z5:=ae (Z4.other (Q (B (z w)+1) 0 Z) (J I C) (by simp));have D:=ae (B4.setCell (p:=(Q (B (z w)+1) 0 Z)) (by simp) (J I C));have O5:=ae (dT O4 JG (J I C) 0);have I0:=(K_ _ (Q (B (z w)+1) 0 Z) (Q (B (z l)) 0 Z) (J I (C:Int)) (by simp;omega)).k H0;have I1:=(K_ _ (Q (B (z w)+1) 0 Z) (Q (B (z l)) 1 Z) (J I (C:Int)) (by simp;omega)).k H1;have I2:=(K_ _ (Q (B (z w)+1) 0 Z) (Q (B (z l)) 2 Z) (J I (C:Int)) (by simp;omega)).k H2;have HI:=ae I0;have Kk:=ae I1;have Kq:=ae I2;clear I0 I1 I2;go_wp2;go_meet;exact⟨by omega,R5,Z5,D,O5,HI,Kk,Kq,by simpa using bt⟩
  ·obtain rfl:C=z_+1:=by rw[th.i];unfold nJ;rw[eI (by decide),eI (λh=>h.2.elim (λe=>by rw[e] at q1;cases q1) (λe=>by rw[e] at q2;cases q2))]
   go_wp2;go_meet;exact⟨by omega,by show Ten _ _ _ _ _ _ _ _ _ _ _ _;rw[show((z_+1:Nat):Int)=(z_:Int)+1 by omega];exact R4,Z4,B4,O4,H0,H1,H2,bt⟩
  ·obtain rfl:C=z_+1:=by rw[th.i];unfold nJ;rw[eI (by omega),eI (by omega)]
   have n15:((op:Int) == 15)=ZA:=by simp;omega
   have n14:((op:Int) == 14)=ZA:=by simp;omega
   have n12:((op:Int) == 12)=ZA:=by simp;omega
   have n13:((op:Int) == 13)=ZA:=by simp;omega
   have n10:((op:Int) == 10)=ZA:=by simp;omega
   have n11:((op:Int) == 11)=ZA:=by simp;omega
   go_wp2;go_meet;exact⟨by omega,by show Ten _ _ _ _ _ _ _ _ _ _ _ _;rw[show((z_+1:Nat):Int)=(z_:Int)+1 by omega];exact R4,Z4,B4,O4,H0,H1,H2,bt⟩
 case rest =>
 clear R4 Z4 B4 O4 H0 H1 H2 bt;obtain⟨JL,R4,Z4,B4,O4,G0,G1,G2,bt⟩:=hcut;obtain⟨L,Fk⟩:∃L,L=cB op k (f z_).s Z8 ZY:=⟨_,rfl⟩
 have n8:Hid (L=cB op k (f z_).s Z8 ZY/\(A L)=bN op):=⟨Fk,by rw[Fk];exact zK _ _ _ _ _ ur JL⟩
 have JY:Hid (so=gR L (dV z_) r C (k_+1) v_):=by show _=_;rw[SO.i,Fg _ _ _ _ _ _ _ _ _ ur JL HB.i Kd HL.i,Fk,<-EA.i,<-EB.i,<-ER.i,<-th.i]
 clear Fk SO EA EB ER th;go_wp2_with fail;go_loopw [13,14] (λrest i wr=>∃j:Nat,j<=bN op/\i=J I j/\∃g6 cx,rest=Y (T (Q g6 0 Z)) (A r+j) cx/\Hid (wr.ownsRow (B (z W)) 9 1 (Y (T (Q g6 0 Z)) (A r+j) cx) (A r+j) (strs r++(L.take j).map Value.string))/\Hid (Below (B (z W)) wc wr)/\Hid (∀i,i<j->(L.getD i ⟨#[]⟩).size<=2000)) (λ_ i _=>bN op - (intOf i).toNat);case atStart=>exact⟨0,by omega,rfl,gr,cr,rfl,(by show World.ownsRow _ _ _ _ _ _ _;rw[List.take_zero,VN,XI];exact O4),a8 _ _,λi hi=>absurd hi (NF _)⟩
 case round =>
  obtain⟨j,hj,rfl,g6,cx,rfl,O6,B6,S6⟩:=hrel;have R6:=ae (R4.aa B6 n9);have Z6:=ae (Z4.aa B6 DE);have i0:=(B6.O (p:=(Q (B (z l)) 0 Z)) mv).k G0;have i1:=(B6.O (p:=(Q (B (z l)) 1 Z)) mv).k G1;have i2:=(B6.O (p:=(Q (B (z l)) 2 Z)) mv).k G2;have JQ:B (z W)<=B (z wr):=nX bt B6.size;have B7:=ae (B4.k (B6.P Fd));by_cases Hx:j<bN op
  ·have h8:op<=8:=Hp ur JL Hx;have JV:j<A L:=by rw[n8.2];exact Hx
   go_wp2_with fail;refine(xp op k (f z_).s Z8 ZY _ ur h8 J6 Kb Ks).P ?_;rintro e w6⟨g7,rfl,ro,Ke,fd⟩;rw[<-n8.1] at ro ⊢;rw[n8.2] at ro ⊢;have q6:ZW w6 (Q g7 j Z)=T (U (L.getD j ⟨#[]⟩)):=by have:=ro.2 j Hx;rwa[IT] at this
   obtain⟨ZT,hE⟩:∃ZT,ZT=L.getD j ⟨#[]⟩:=⟨_,rfl⟩
   rw[<-hE] at q6;have HE:=ae hE;clear hE;have O7:=ae (J_ O6 fd ly);have B8:=ae (B6.k (fd.P JQ));have Kg:B (z W)<=B (z w6):=nX JQ fd.size;have R7:=ae (R6.aa fd R6.1);have Z7:=ae (Z6.aa fd Z6.1);have B9:=ae (B7.k (fd.P B7.size));clear ro Ke fd i0 i1 i2 R6 Z6;by_cases Kn:(ZT.size:Int)<=2000
   ·obtain⟨JI,hi,JJ,Id,GS⟩:=NP gX;go_wp2_with (at_builtin;refine DN _ rfl (.tmp 158) (.tmp 163) 43 rfl (B (z W)) 9 JI (U ⟨#[]⟩) 1 16 NH hi JJ Id GS rfl (by decide) (Y (T (Q g6 0 Z)) (A r+j) cx) (A r+j) (strs r++(L.take j).map Value.string) (by simp[Act.eval]) (O7.alloc _) (Q (B (z w6)) 0 Z) 1 1 [U ZT] (by simp[Act.eval]) rfl (ep w6 _ _) (by simp[Value.oneCell']) (by unfold maxLen;omega) (by omega) (by simp<;>omega) ?_;intro v' w7 qr sm Fm;obtain⟨g8,M,rfl,hg8⟩:=sM qr (λe=>by simpa using Fm.1 e);have O8:=ae qr;have Kc:=ae (bg (B8.alloc Kg (N #[U ZT] 9)) sm (by simp<;>omega) (λi e=>(O7.lt i e).1));clear qr sm Fm)
    exact⟨⟨j+1,by omega,by go_num,g8,M,rfl,by show World.ownsRow _ _ _ _ _ _ _;rw[BH JV,<-NQ,<-HE.i];exact O8,Kc,λi hi=>by
     by_cases e:i=j;{subst e;rw[<-HE.i];omega}
     ·exact S6 i (by omega)⟩,by simp[intOf];omega⟩
   {have ER:=ae (show so=.inr (.inl (2,(dV z_),(k_+1))) by rw[JY.i];unfold gR;rw[Hq JV (by rw[<-HE.i];exact Kn)];rfl);obtain⟨m,⟨c0,f0⟩,⟨c1,f1⟩,⟨c2,ZL⟩,⟨c3,ZN⟩,⟨c4,ZP⟩,⟨c5,ZM⟩,⟨P,V⟩,⟨c7,S⟩,⟨M,R⟩,c9,ZO⟩:=R7.i;go_wp2_with fail;refine(fN _ _ _ _ _ _ _ _ _ _ _ _ _ _ _).P ?_;rintro e w5⟨rfl,b⟩;have X:=ae (Z7.aa b Z7.1);have D:=ae (B9.k (b.P B9.size));clear b;clear m c0 f0 c1 f1 c2 ZL c3 ZN c4 ZP c5 ZM P V c7 S M R c9 ZO;obtain⟨ld,⟨z0,y0⟩,⟨z1,y1⟩,⟨z2,y2⟩,⟨z3,y3⟩,⟨H,y4⟩,⟨G,y5⟩,⟨O,y6⟩,⟨ZQ,y7⟩,⟨ZS,y8⟩,ZR,y9⟩:=X.i;go_wp2;refine bp (v:=ec C (Y a (A s) j_) ((k_:Int)+1) v_ ZH 2 (dV z_) ZA ⟨#[]⟩ ZA) (by simp[results,Q9,go_sem,z0,z1,z2,z3,H,G,O,ZQ,ZS,ZR]) rfl ⟨_,rfl,(by rw[ER.i];exact⟨_,_,_,_,_,rfl⟩),dS D (by omega) _ _ _ _ _ _ _ _ _ _⟩}
  ·have e:j=bN op:=by omega
   subst e;have ER:=ae (show so=.inl (C,(k_+1),v_,(L.reverse++r)) by rw[JY.i];unfold gR;rw[Fe (λi hi=>S6.i i (by rw[n8.2] at hi;exact hi))];rfl);have JU:=ae (show(L.reverse++r).length=A r+bN op by rw[cM,List.length_reverse,n8.2];omega);obtain⟨m,⟨c0,f0⟩,⟨c1,f1⟩,⟨c2,ZL⟩,⟨c3,ZN⟩,⟨c4,ZP⟩,⟨c5,ZM⟩,⟨P,V⟩,⟨c7,S⟩,⟨M,R⟩,c9,ZO⟩:=R6.i;obtain⟨ld,⟨z0,y0⟩,⟨z1,y1⟩,⟨z2,y2⟩,⟨z3,y3⟩,⟨H,y4⟩,⟨G,y5⟩,⟨O,y6⟩,⟨ZQ,y7⟩,⟨ZS,y8⟩,ZR,y9⟩:=Z6.i;have OE:=ae (WH O6 (a:=(Q (B (z w)+1) 1 Z)) n9 (Y (T (Q g6 0 Z)) (A r+bN op) cx));have BE:=ae (B7.setCell (p:=(Q (B (z w)+1) 1 Z)) (by simp) (Y (T (Q g6 0 Z)) (A r+bN op) cx));go_wp2;refine bp (v:=ec C (Y (T (Q g6 0 Z)) (A r+bN op) cx) ((k_:Int)+1) v_ ZA 0 ⟨#[]⟩ ZA ⟨#[]⟩ ZA) (by simp[results,Q9,go_sem,z0,z1,z2,z3,H,G,O,ZQ,ZS,ZR]) rfl ⟨_,rfl,?_,dS BE (by omega) _ _ _ _ _ _ _ _ _ _⟩;rw[ER.i];refine(BD (v:=ec C (Y (T (Q g6 0 Z)) (A r+bN op) cx) ((k_:Int)+1) v_ ZA 0 ⟨#[]⟩ ZA ⟨#[]⟩ ZA) (base:=B (z W)) ?_ DE _ _ _ _ _ _ _ _ _ _).P Fd;refine⟨T (Q g6 0 Z),cx,by rw[JU.i];simp,?_⟩;rw[JU.i,Fc];have h:=OE.i;rw[show L.take (bN op)=L by rw[<-n8.2];exact List.take_length] at h;exact h
def IY (f:Nat->Ins)(y_:Nat)(y:Nat->aD)(n:Nat)(ZO:Turn)(st:Nat):SO->Prop
 |.inr (.inl (c,x,k))=>ZO=gi c x k
 |.inr (.inr (a,nm,k))=>ZO=oA a nm k
 |.inl (p,k,l,s)=>k=st+1/\k<=2000/\cA f y_ y n (2001 - k) p k l s=ZO/\p<=2000/\l<=200/\(A s)<=50/\∀x∈s,x.size<=2000
def xr{f:Nat->Ins}{y_:Nat}(j:A b<=50)(h:∀x∈b,x.size<=2000)(hlk:v_<=200)(g:dn f y_=ZH)(hc:y_<=200):rF (bQ f y_ z_ k_ v_ b) v_:=by
 unfold bQ;split;{trivial}
 ·rename_i h1;split;{trivial}
  ·split;{trivial}
   ·rename_i i;have hi:=j7 g (show z_<y_ by omega);simp only[cL,nD] at hi;obtain⟨i1,i2,i3,i4,i5⟩:=hi;have hmt:dX (f z_).op<=2000:=by unfold dX;split<;>(try split)<;>omega
    have hmt2:bW (f z_).op<=2000:=by unfold bW;split<;>omega
    exact ji _ _ _ _ _ _ j h (by omega) (by omega) (by omega) hlk (by omega) (by omega) (by simpa using i)
def xt{f:Nat->Ins}{y_:Nat}{a:Bool}{nm:F_}(h:bQ f y_ z_ k_ v_ b=.inr (.inr (a,nm,s))):z_<y_:=by
 unfold bQ at h;split at h;{cases h};{omega}
def Hv{f:Nat->Ins}{y_:Nat}{ZO:Turn}{st l:Nat}(hst:st<=2000)(t:l<=200)(G:A s<=50)(q:∀x∈s,x.size<=2000)(o:dn f y_=ZH)(ZY:y_<=200)(ZT:bU y n=ZH)
  (b:cA f y_ y n (2001 - st) p st l s=ZO):IY f y_ y n ZO st (gn f y_ y n p st l s):=by
 obtain⟨j,C⟩:∃j,2001 - st=j+1:=⟨2000 - st,by omega⟩
 rw[C,cA] at b;have hF:=xr (z_:=p) (k_:=st) G q t o ZY;unfold gn;rcases h:bQ f y_ p st l s with⟨Z8,p'⟩|⟨c,x⟩|⟨a,nm,Z8⟩
 {rw[h] at b hF;obtain⟨m,D⟩:=jO h;obtain⟨f1,i,ZZ⟩:=hF;simp only[m] at b ⊢;exact⟨rfl,by omega,by rw[show 2001 - (st+1)=j by omega];exact b,ZZ,t,f1,i⟩};{rw[h] at b;exact b.c};{rw[h] at b hF;obtain⟨m,D⟩:=lW h;obtain⟨f1,i,ZZ,f4⟩:=hF;have hp:=xt h;simp only[m] at b ⊢;simp only[iE,kj];by_cases h1:n<=l;{rw[eT h1] at b ⊢;exact b.c};{rw[eI h1] at b ⊢;by_cases h2:a=ZA;{rw[eT h2] at b ⊢;refine⟨rfl,by omega,by rw[show 2001 - (st+1)=j by omega];exact b,by omega,by omega,by simp;omega,λx g=>?_⟩;rcases vG.1 g with rfl|g;{exact jr _};{exact i x g}};{rw[eI h2] at b ⊢;by_cases r:(y l).has=ZA;{rw[eT r] at b ⊢;exact b.c};{rw[eI r] at b ⊢;by_cases u:(y l).M=0;{rw[eT u] at b ⊢;refine⟨rfl,by omega,by rw[show 2001 - (st+1)=j by omega];exact b,by omega,by omega,by simp;omega,λx g=>?_⟩;rcases vG.1 g with rfl|g;{exact(Ey ZT (show l<n by omega)).1};{exact i x g}};{rw[eI u] at b ⊢;exact b.c}}}}}
def Ten.put{b l n m o i j p f q:ZB}(h:Ten w g b l n m o i j p f q)(u0 u1 u2 u3 u4 u5 u6 u7 u8 u9:ZB):Ten (ZU (ZU (ZU (ZU (ZU (ZU (ZU (ZU (ZU (ZU w (Q g 0 Z) u0) (Q g 1 Z) u1) (Q g 2 Z) u2) (Q g 3 Z) u3) (Q g 4 Z) u4) (Q g 5 Z) u5) (Q g 6 Z) u6) (Q g 7 Z) u7) (Q g 8 Z) u8) (Q g 9 Z) u9) g u0 u1 u2 u3 u4 u5 u6 u7 u8 u9:=
 (((((((((h.set0 u0).set1 u1).set2 u2).set3 u3).set4 u4).set5 u5).set6 u6).set7 u7).set8 u8).set9 u9
def pz{u:E}(h:zd g u w)(u0 u1 u2 u3 u4 u5 u6 u7 u8 u9:ZB):zd g u (ZU (ZU (ZU (ZU (ZU (ZU (ZU (ZU (ZU (ZU w (Q g 0 Z) u0) (Q g 1 Z) u1) (Q g 2 Z) u2) (Q g 3 Z) u3) (Q g 4 Z) u4) (Q g 5 Z) u5) (Q g 6 Z) u6) (Q g 7 Z) u7) (Q g 8 Z) u8) (Q g 9 Z) u9):=
 ce (ce (ce (ce (ce (ce (ce (ce (ce (ce h 0 u0) 1 u1) 2 u2) 3 u3) 4 u4) 5 u5) 6 u6) 7 u7) 8 u8) 9 u9
def yi (w:E)(g b:Nat)(f:Nat->Ins)(y_:Nat)(y:Nat->aD)(n:Nat)(ZO:Turn)(k:Nat):Prop:=
 (∃p st l s a j_,Ten w g (J I (p:Nat)) (Y a (List.length s) j_) (J I (st:Nat)) (J I (l:Nat)) (ZF ZA) (J I 0) (U ⟨#[]⟩) (ZF ZA) (U ⟨#[]⟩) (ZF ZA)/\ZX w b 9 1 (Y a (A s) j_) (A s) (strs s) /\
  st<=2000/\cA f y_ y n (2001 - st) p st l s=ZO/\p<=2000/\l<=200/\(A s)<=50/\(∀x∈s,x.size<=2000)/\2002 - st<=k) \/
 (∃at_ sv lk c x,∃st:Nat,Ten w g at_ sv (J I st) lk (ZF ZH) (J I c) (U x) (ZF ZA) (U ⟨#[]⟩) (ZF ZA)/\ZO=gi c x st) \/
 (∃at_ sv lk a nm,∃st:Nat,Ten w g at_ sv (J I st) lk (ZF ZA) (J I 0) (U ⟨#[]⟩) (ZF a) (U nm) (ZF ZH)/\ZO=oA a nm st)
def Hw{b j_:Nat}{a:O_}{f:List ZB}(h:ZX w b e 1 (Y a n j_) n f){k:Nat}(y:k<b)(g o q p r l m t i x:ZB):World.ownsRow (ZU (ZU (ZU (ZU (ZU (ZU (ZU (ZU (ZU (ZU w (Q k 0 Z) g) (Q k 1 Z) o) (Q k 2 Z) q) (Q k 3 Z) p) (Q k 4 Z) r) (Q k 5 Z) l) (Q k 6 Z) m) (Q k 7 Z) t) (Q k 8 Z) i) (Q k 9 Z) x) b e 1 (Y a n j_) n f:=by have s:∀{w:E} (j:Nat) (u:ZB),ZX w b e 1 (Y a n j_) n f->(ZU w (Q k j Z) u).ownsRow b e 1 (Y a n j_) n f:=λj u h=>WH h (a:=(Q k j Z)) y u;exact s 9 x (s 8 i (s 7 t (s 6 m (s 5 l (s 4 r (s 3 p (s 2 q (s 1 o (s 0 g h)))))))))
def oS (g h y_ j_ n t:Nat)(ZT:O_)(f:Nat->Ins)(w:E)(hn:y_<=1048576)(o:valid f y_=ZH->200<(n:Int))(u:Q_ w g h y_ f)(x:∀i,i<y_->(f i).s.size<=maxLen):Calls Pg 82 #[ZJ #[Y (T (Q g h Z)) y_ j_],Y ZT n t] w λe p=>e=ZI badT.v/\Below (B (z w)) w p:=by
 have H:=ae u;have r:=ae ((((BS w).alloc ly (N #[Y (T (Q g h Z)) y_ j_] 37))).alloc (by simp) (N #[ZF ZA,J I 0,U ⟨#[]⟩,ZF ZA,U ⟨#[]⟩,J I 0] 138));have j:=lm (ZV w (N #[Y (T (Q g h Z)) y_ j_] 37)) (ZF ZA) (J I 0) (U ⟨#[]⟩) (ZF ZA) (U ⟨#[]⟩) (J I 0) 138;rw[show(B (z (ZV w (N #[Y (T (Q g h Z)) y_ j_] 37))))=B (z w)+1 by simp] at j;have y:=ae j;have m:=λp h1 h2=>gy g h y_ j_ f p hn h1 h2 x;generalize valid f y_=b at o m;have ZZ:=ae m;have Z8:=ae o;clear j m u x o;go_enter func82,ntmps82;go_wp2_with fail;have q:=ae (H.aa r ly);refine(ZZ _ q.1 q.2).P ?_;rintro e w1⟨rfl,l⟩;have G:=ae (y.aa l (by simp));have L:=ae (r.k (l.P (by simp;omega)));clear l r y q;obtain⟨⟨v0,K,y0⟩,⟨v1,ZS,y1⟩,⟨v2,ZY,y2⟩,⟨v3,ZR,y3⟩,⟨v4,C,y4⟩,⟨v5,D,y5⟩⟩:=bl6 G.2;cases b
 all_goals
  (try have hn2:=Z8.i rfl)
  go_wp2;refine bp (v:=badT.v) (by simp[results,UO,go_sem,Turn.v,badT,K,ZS,ZY,ZR,C,D]) rfl ⟨rfl,fX L (by omega) _ _ _ _ _ _⟩
def xu (h o y_ j_ S o2 n aq:Nat)(f:Nat->Ins)(y:Nat->aD)(w:E)(hn:y_<=1048576)(hv:valid f y_=ZH)(hn2:(n:Int)<=200)(hP:Q_ w h o y_ f)(hY:RowReply w S o2 n y)(hs:∀i,i<y_->(f i).s.size<=maxLen)(ZO:Turn)(hT:ZO=if bU y n=ZA then badT else cA f y_ y n 2001 0 0 0 []):Calls Pg 82 #[ZJ #[Y (T (Q h o Z)) y_ j_],Y (T (Q S o2 Z)) n aq] w λe w'=>e=ZI ZO.v/\Below (B (z w)) w w':=by
 have HV:=ae (bJ hv).1;have n8:y_<=200:=by have:=(bJ hv).2.2;omega
 have ZN:=ae hY;have ZM:=ae hT;clear hY hT;have HP:=ae hP;have A0:=ae ((((BS w).alloc ly (N #[Y (T (Q h o Z)) y_ j_] 37))).alloc (by simp) (N #[ZF ZA,J I 0,U ⟨#[]⟩,ZF ZA,U ⟨#[]⟩,J I 0] 138));have ZP:=lm (ZV w (N #[Y (T (Q h o Z)) y_ j_] 37)) (ZF ZA) (J I 0) (U ⟨#[]⟩) (ZF ZA) (U ⟨#[]⟩) (J I 0) 138;rw[show(B (z (ZV w (N #[Y (T (Q h o Z)) y_ j_] 37))))=B (z w)+1 by simp] at ZP;have X0:=ae ZP;have IV:=λw' h1 h2=>gy h o y_ j_ f w' hn h1 h2 hs;rw[hv] at IV;have n9:=ae IV;clear ZP IV hP hs hv;go_enter func82,ntmps82;go_wp2_with fail;have P1:=ae (HP.aa A0 ly);refine(n9 _ P1.1 P1.2).P ?_;rintro e w1⟨rfl,L⟩;have c1:ZW w1 (Q (B (z w)) 0 Z)=T (Y (T (Q h o Z)) y_ j_):=(L.O (p:=(Q (B (z w)) 0 Z)) (by simp;omega)).k (by simp);have HX:=ae (X0.aa L (by simp));have B1:=ae (A0.k (L.P (by simp;omega)));have z1:B (z w)+1<B (z w1):=HX.1;clear L A0 X0 P1;have ro:=ae (ZN.aa B1 ly);go_wp2_with fail;go_loopw [5] (λi wr=>∃j:Nat,j<=n/\i=J I j/\Hid (bU y j=ZH)/\Below (B (z w1)) w1 wr) (λi _=>n - (intOf i).toNat);case atStart=>exact⟨0,by omega,rfl,rfl,a8 _ _⟩
 case round =>
  obtain⟨j,hj,rfl,HK,V⟩:=hrel;have u:=ae (HX.aa V HX.1);have D:=ae (B1.k (V.P B1.size));have cp:ZW wr (Q (B (z w)) 0 Z)=T (Y (T (Q h o Z)) y_ j_):=(V.O (p:=(Q (B (z w)) 0 Z)) (by simp;omega)).k c1;have zr:B (z w)+1<B (z wr):=u.1;have ex:=ae V;clear V;by_cases r:j<n
  ·obtain⟨d0,d1,d2⟩:=(ZN.aa D ly).2 j r;obtain⟨⟨v0,C,y0⟩,⟨v1,K,y1⟩,⟨v2,ZS,y2⟩,⟨v3,ZR,y3⟩,⟨v4,G,y4⟩,⟨v5,ZZ,y5⟩⟩:=bl6 u.2;by_cases g1:((y j).H.size:Int)<=2000
   ·by_cases g2:0<=(y j).M
    ·by_cases g3:(y j).M<=7;{go_wp2;refine⟨⟨j+1,by omega,by go_num,?_,?_⟩,by simp[intOf];omega⟩;{show bU y (j+1)=ZH;simp only[bU,HK.i,cI,QB,nD];omega};{exact ex}}
     ·go_wp2;have t:ZO=badT:=by rw[ZM.i,eT (ij r (by simp only[cI,NZ];omega))]
      refine bp (v:=badT.v) (by simp[results,UO,go_sem,Turn.v,badT,C,K,ZS,ZR,G,ZZ]) rfl ⟨by rw[t],fX D (by omega) _ _ _ _ _ _⟩
    ·go_wp2;have t:ZO=badT:=by rw[ZM.i,eT (ij r (by simp only[cI,NZ];omega))]
     refine bp (v:=badT.v) (by simp[results,UO,go_sem,Turn.v,badT,C,K,ZS,ZR,G,ZZ]) rfl ⟨by rw[t],fX D (by omega) _ _ _ _ _ _⟩
   ·go_wp2;have t:ZO=badT:=by rw[ZM.i,eT (ij r (by simp only[cI,NZ];omega))]
    refine bp (v:=badT.v) (by simp[results,UO,go_sem,Turn.v,badT,C,K,ZS,ZR,G,ZZ]) rfl ⟨by rw[t],fX D (by omega) _ _ _ _ _ _⟩
  ·have e:j=n:=by omega
   subst e;have t:ZO=cA f y_ y j 2001 0 0 0 []:=by rw[ZM.i,eI (by simp[HK.i])]
   have ET:=ae t;clear t ZM ro;have RN:=ae (lp wr (J I 0) (Y Z 0 0) (J I 0) (J I 0) (ZF ZA) (J I 0) (U ⟨#[]⟩) (ZF ZA) (U ⟨#[]⟩) (ZF ZA) 192 (B (z wr)) rfl);obtain⟨O,H⟩:∃W:E,ZV wr (N #[J I 0,Y Z 0 0,J I 0,J I 0,ZF ZA,J I 0,U ⟨#[]⟩,ZF ZA,U ⟨#[]⟩,ZF ZA] 192)=W:=⟨_,rfl⟩
   obtain⟨A2,-,-⟩:=nb1 H;have ZY:=ae H;clear H;have XN:=ae (u.aa A2 u.1);have BN:=ae (D.k (A2.P D.size));have cN:=(A2.O (p:=(Q (B (z w)) 0 Z)) (by simp;omega)).k cp;have R:B (z wr)<B (z O):=by cases ZY.i;simp
   go_wp2_with fail;clear c1 cp;rw[ZY.i] at RN ⊢;clear ZY;generalize (B (z wr))=rb at RN zr R ⊢;have ph:S<rb:=lj ZN.1 (by omega);have th:h<rb:=lj HP.1 (by omega);have S0:Hid (yi O rb (B (z O)) f y_ y j ZO 2002):=.inl ⟨0,0,0,[],Z,0,RN,CP _ _ _ _,by omega,ET.c,by omega,by omega,by simp,by simp,by omega⟩;have PN:=ae (HP.aa BN ly);have YN:=ae (ZN.aa BN ly);clear RN ET u D ex r HX B1 HP ZN;go_loopg [] 2002 (λg wr=>yi wr rb (B (z O)) f y_ y j ZO g/\zd rb O wr);case atStart=>exact⟨S0,zd.refl _ _⟩
   case round =>
    obtain⟨hst,Z8⟩:=hrel;have HO:=ae Z8;have cw:ZW wr (Q (B (z w)) 0 Z)=T (Y (T (Q h o Z)) y_ j_):=(Z8.O (B (z w)) 0 (by omega) (by omega)).k cN;have fd:rb<B (z wr):=lj R Z8.size;have la:=ae (Z8.aa (p7 rb) (TQ R));have BW:=ae (BN.k (Z8.aa (show (B (z w))<=rb by omega) (by omega)));have XW:=ae (XN.ac Z8 (by omega));have zw:B (z w)+1<B (z wr):=XW.1;clear Z8;rcases hst with⟨p,st,l,s,a,mv,b,P,k1,k2,k3,k4,k5,k6,k7⟩|⟨at_,sv,lk,c,x,st,b,m⟩|⟨at_,sv,lk,a,nm,st,b,m⟩
    ·have ur:=ae b;have OW:=ae P;have qr:=ae (Hv k1 k4 k5 k6 HV n8 HK k2);have K6:=ae k6;have PW:Hid (Q_ wr h o y_ f):=⟨lj PN.1 HO.size,λi hi=>(PN.2 i hi).aa la th⟩
     have YW:Hid (RowReply wr S o2 j y):=⟨lj YN.1 HO.size,λi hi=>(YN.2 i hi).aa la ph⟩
     obtain⟨ZL,⟨c0,f0⟩,⟨c1,f1⟩,⟨c2,f2⟩,⟨c3,f3⟩,⟨c4,f4⟩,⟨c5,f5⟩,⟨c6,f6⟩,⟨c7,f7⟩,⟨c8,f8⟩,c9,f9⟩:=b;clear P k2 k6;go_wp2_with fail;refine(zP h o y_ j_ p st l f a s mv S o2 j aq (B (z O)) y _ PW YW OW k3 k1 k4 k5 K6 HV).P ?_;rintro e w3⟨v,rfl,M,X⟩;have ZQ:=ae (ur.aa X fd);have O3:=ae (HO.ak X);clear ZL c0 f0 c1 f1 c2 f2 c3 f3 c4 f4 c5 f5 c6 f6 c7 f7 c8 f8 c9 f9;clear X;have q:=qr.i;obtain⟨g,rfl⟩:∃g,gk=g+1:=⟨gk - 1,by omega⟩
     generalize gn f y_ y j p st l s=so at M q;rcases so with⟨p',sm,l',s'⟩|⟨c,x,k⟩|⟨a1,nm,k⟩
     ·obtain⟨a',c',rfl,ld⟩:=M;obtain⟨m1,m2,m3,m4,m5,m6,m7⟩:=q;have OE:=ae ld;have M3:=ae m3;have M7:=ae m7;have M1:=ae m1;clear ld m3 m7 m1;obtain⟨bt,⟨e0,u0⟩,⟨e1,u1⟩,⟨e2,u2⟩,⟨e3,u3⟩,⟨e4,u4⟩,⟨e5,u5⟩,⟨e6,u6⟩,⟨e7,u7⟩,⟨e8,u8⟩,e9,u9⟩:=ZQ.i;go_wp2;go_roundg g;case measure=>omega
      case rel=>exact⟨.inl ⟨p',sm,l',s',a',c',ZQ.put _ _ _ _ _ _ _ _ _ _,aE (Hw OE fd _ _ _ _ _ _ _ _ _ _) HO.size,m2,M3,m4,m5,m6,M7,by have:=M1.i;omega⟩,pz O3 _ _ _ _ _ _ _ _ _ _⟩
     ·obtain⟨at_,a',n',c',lk,rfl⟩:=M;have m:ZO=gi c x k:=q;have ZT:=ae m;clear m q;obtain⟨bt,⟨e0,u0⟩,⟨e1,u1⟩,⟨e2,u2⟩,⟨e3,u3⟩,⟨e4,u4⟩,⟨e5,u5⟩,⟨e6,u6⟩,⟨e7,u7⟩,⟨e8,u8⟩,e9,u9⟩:=ZQ.i;go_wp2;go_roundg g;case measure=>omega
      case rel=>exact⟨.inr (.inl ⟨_,_,_,_,_,_,ZQ.put _ _ _ _ _ _ _ _ _ _,ZT⟩),pz O3 _ _ _ _ _ _ _ _ _ _⟩
     ·obtain⟨at_,a',n',c',lk,rfl⟩:=M;have m:ZO=oA a1 nm k:=q;have ZT:=ae m;clear m q;obtain⟨bt,⟨e0,u0⟩,⟨e1,u1⟩,⟨e2,u2⟩,⟨e3,u3⟩,⟨e4,u4⟩,⟨e5,u5⟩,⟨e6,u6⟩,⟨e7,u7⟩,⟨e8,u8⟩,e9,u9⟩:=ZQ.i;go_wp2;go_roundg g;case measure=>omega
      case rel=>exact⟨.inr (.inr ⟨_,_,_,_,_,_,ZQ.put _ _ _ _ _ _ _ _ _ _,ZT⟩),pz O3 _ _ _ _ _ _ _ _ _ _⟩
    {have ZT:=ae m;obtain⟨ZL,⟨c0,f0⟩,⟨c1,f1⟩,⟨c2,f2⟩,⟨c3,f3⟩,⟨c4,f4⟩,⟨c5,f5⟩,⟨c6,f6⟩,⟨c7,f7⟩,⟨c8,f8⟩,c9,f9⟩:=b;obtain⟨⟨v0,C,y0⟩,⟨v1,K,y1⟩,⟨v2,ZS,y2⟩,⟨v3,ZR,y3⟩,⟨v4,G,y4⟩,⟨v5,ZZ,y5⟩⟩:=bl6 XW.2;clear m;go_wp2;refine bp (v:=ZO.v) (by rw[ZT.i];simp[results,UO,go_sem,Turn.v,gi,C,K,ZS,ZR,G,ZZ]) rfl ⟨rfl,fX BW (by omega) _ _ _ _ _ _⟩};{have ZT:=ae m;obtain⟨ZL,⟨c0,f0⟩,⟨c1,f1⟩,⟨c2,f2⟩,⟨c3,f3⟩,⟨c4,f4⟩,⟨c5,f5⟩,⟨c6,f6⟩,⟨c7,f7⟩,⟨c8,f8⟩,c9,f9⟩:=b;obtain⟨⟨v0,C,y0⟩,⟨v1,K,y1⟩,⟨v2,ZS,y2⟩,⟨v3,ZR,y3⟩,⟨v4,G,y4⟩,⟨v5,ZZ,y5⟩⟩:=bl6 XW.2;clear m;go_wp2;refine bp (v:=ZO.v) (by rw[ZT.i];simp[results,UO,go_sem,Turn.v,oA,C,K,ZS,ZR,G,ZZ]) rfl ⟨rfl,fX BW (by omega) _ _ _ _ _ _⟩}
def nO (j g y_ j_ o l n b:Nat)(f:Nat->Ins)(y:Nat->aD)(w:E)(hn:y_<=1048576)(m:Q_ w j g y_ f)(t:RowReply w o l n y)(p:∀i,i<y_->(f i).s.size<=maxLen):Calls Pg 82 #[ZJ #[Y (T (Q j g Z)) y_ j_],Y (T (Q o l Z)) n b] w λe r=>e=ZI (oB f y_ y n).v/\Below (B (z w)) w r:=by
 unfold oB;by_cases h1:valid f y_=ZA;{rw[eT h1];exact oS j g y_ j_ n b _ f w hn (λh=>absurd (h1.c.k h) (by simp)) m p}
 ·have q:valid f y_=ZH:=by simpa using h1
  rw[eI h1];by_cases h2:200<n;{rw[eT h2];exact oS j g y_ j_ n b _ f w hn (λ_=>by omega) m p};{rw[eI h2];exact xu j g y_ j_ o l n b f y w hn q (by omega) m t p _ rfl}
def lu (y:Nat->aD)(i:Nat):List ZB:=[ZF (y i).has,J I (y i).M,U (y i).H]
def mc (y:Nat->aD):Nat->List ZB
 |0=>[]
 |k+1=>mc y k++lu y k
def pA (y:Nat->aD)(k:Nat):(mc y k).length=k*3:=by
 induction k with
 |zero=>rfl
 |succ k b=>simp[mc,lu,b];omega
def yj (y:Nat->aD){i j:Nat}(b:j<3):∀k,i<k->(mc y k)[i*3+j]?=(lu y i)[j]?
 |0,h=>absurd h (NF _)
 |k+1,h=>by
  rw[mc];by_cases e:i=k
  ·subst e
   rw[KK (by rw[pA];omega),pA,show i*3+j - i*3=j by omega]
  ·rw[NI (by rw[pA];omega)]
   exact yj y b k (by omega)
def xv{c k:Nat}(h:ZX w n 141 3 (Y (T (Q g 0 Z)) k c) k (mc y k)):RowReply w g 0 k y:=by
 rcases h.2 with⟨f,h0⟩|⟨g',j_,l,f,hb,m,hc1,hc2,hc3,q⟩
 {simp at f}
 ·simp only[IN,ND,RP] at f;obtain⟨⟨rfl,-⟩,-,rfl⟩:=f;have o:g<B (z w):=by
   rcases OT g (B (z w)) with h1|h1;{exact h1};{rw[PO h1] at m;simp at m}
  have b:∀i j,i<k->j<3->ZW w (Q g (0+i*3+j) Z)=(lu y i)[j]?:=by
   intro i j hi r;have s:ZW w (Q g (0+i*3+j) Z)=l[i*3+j]?:=by simp[World.cell?,m]
   have p:(l.toList.take (k*3))[i*3+j]?=(mc y k)[i*3+j]?:=by rw[q]
   rw[TV,eT (by omega),NT,yj y r k hi] at p;rw[s,p]
  refine⟨o,λi hi=>⟨?_,?_,?_⟩⟩;{exact b i 0 hi (by omega)};{exact b i 1 hi (by omega)};{exact b i 2 hi (by omega)}
def nP (w:E)(x y ZZ:ZB)(t:ZK):∀j u,[x,y,ZZ][j]?=T u->(ZV w (N #[x,y,ZZ] t)).cell? (((Q (B (z w)) 0 Z):Addr).add j)=T u:=by
 intro j u b;match j,b with
 |0,b=>simp at b;subst b;simp[Addr.add]
 |1,b=>simp at b;subst b;simp[Addr.add]
 |2,b=>simp at b;subst b;simp[Addr.add]
def BR:(Pg.info? 141).map (λi=>(i.zero,i.size,i.bytes))=T (T (ZJ #[ZF ZA,J I 0,U ⟨#[]⟩]),3,32):=by kernel_rfl
def zQ{b:Nat}{v:ZB}{i:List ZB}(h:ZX w b e 3 v n i)(hn:0<n):∃g c,v=Y (T (Q g 0 Z)) n c:=by
 rcases h.2 with⟨f,h0⟩|⟨g,j_,cur,f,_⟩
 {omega};{exact⟨g,j_,f⟩}
def GI:ZB->Nat
 |Y _ n _=>n
 |_=>0
def nQ {f:Nat->au}{p:Nat}:∀k,k<=(f p).f->(∀i,i<k->eA f p i=ZA)->eF f p ((f p).f - k) k=bD f p
 |0,_,_=>rfl
 |k+1,hk,h=>by have:=nQ (f:=f) (p:=p) k (by omega) λi hi=>h i (by omega);rw[<-this,show(f p).f - k=((f p).f - (k+1))+1 by omega,vh (h k (by omega))]
def Fh{k:Nat}(hk:k<(f p).f)(h:∀i,i<k->eA f p i=ZA)(b:eA f p k=ZH):bD f p=k:=by rw[<-nQ k (by omega) h,show(f p).f - k=((f p).f - (k+1))+1 by omega,vi b]
def Fi (h:∀i,i<(f p).f->eA f p i=ZA):bD f p=(f p).f:=by rw[<-nQ (f p).f ly h,UV];rfl
def vm{k:Nat}(b:k<(f p).f)(h:∀i,i<k->eA f p i=ZA)(g:eA f p k=ZH):gB f p=4:=by unfold gB;rw[Fh b h g,eT b]
def vq (h:∀i,i<(f p).f->eA f p i=ZA):gB f p=if (bB f p (f p).f).L=ZA then 4 else if (bB f p (f p).f).M=(f p).M/\(bB f p (f p).f).H.toList=(f p).H.toList then 0 else 5:=by unfold gB;rw[Fi h,eI (Nat.lt_irrefl _)]
def Fj{k:Nat}(b:bc f n=ZH)(g:p<n)(hk3:(f p).m=3)(hk:k<=(f p).f):oB (f p).u (f p).h (yOf f p) k=bB f p k:=by
 have j:valid (f p).u (f p).h=ZH/\(f p).f<=200:=by
  rcases(ed b p g).2 with h|h|h;{omega};{omega};{exact⟨h.2.2.2.1,h.2.2.2.2⟩}
 have m:bU (yOf f p) k=ZH:=vj λi hi=>yg b λl=>Nat.lt_trans (fq b p g i (by omega) l).2.1 g;unfold oB bB;rw[eI (by rw[j.1];simp),eI (by omega),eI (by rw[m];simp)]
def BU (r m n j_:Nat)(f:Nat->au)(p:Nat)(w:E)(_hn:(n:Int)<=400)(Z8:bc f n=ZH)(W:p<n)(hk:(f p).m=3)(ZR:Qk w r m n f)(sm:fo (f p)):Calls Pg 35 #[ZJ #[Y (T (Q r m Z)) n j_],J I p] w λe w'=>e=ZI (J I (gB f p))/\Below (B (z w)) w w':=by
 obtain⟨i0,hi,JH,Fm,Fk⟩:=NP BR;have hN:(f p).f<=200:=by
  rcases(ed Z8 p W).2 with h|h|h;{omega};{omega};{exact h.2.2.2.2}
 have hv:valid (f p).u (f p).h=ZH:=by
  rcases(ed Z8 p W).2 with h|h|h;{omega};{omega};{exact h.2.2.2.1}
 have GS:(f p).h<=200:=by have:=(bJ hv).2.2;omega
 have JG:=ae (λk (JJ:k<=(f p).f)=>Fj Z8 W hk JJ);have DQ:=ae (λj (hj:j<(f p).f) (ha:((f p).l j).ask=ZH)=>(⟨(fq Z8 p W j hj ha).1,Nat.lt_trans (fq Z8 p W j hj ha).2.1 W⟩:0<=((f p).l j).G/\((f p).l j).G.toNat<n));have Id:=ae (show ∀i,i<(f p).h->((f p).u i).s.size<=maxLen from sm.2.2.1.2);have ZQ:=ae ZR;obtain⟨o0,o1,o2,o3,⟨a0,o,o4,hI⟩,⟨a1,q,o5,mv⟩⟩:=ZR.2 p W;obtain⟨y,ZZ,rfl,qr⟩:∃y ZZ,a0=T (Q y ZZ Z)/\Q_ w y ZZ (f p).h (f p).u:=by
  have:=(bJ hv).2;rcases hI with h|⟨b,off,e,hr⟩
  {omega};{exact⟨b,off,e,hr⟩}
 have HI:=ae qr;have n9:=ae mv;have ZT:=ZR.1;clear qr hI mv ZR sm Z8 hk hv;have hpn:(p:Int)<n:=by omega
 obtain⟨C,hC⟩:∃C,C=gB f p:=⟨_,rfl⟩
 rw[<-hC];have ZM:=ae hC;clear hC;have ZP:=ae ((BS w).alloc ly (N #[Y (T (Q r m Z)) n j_] 25));have X:=ae (ZP.i.alloc ZP.i.size (N #[U (f p).e,J I (f p).m,J I (f p).M,U (f p).H,Y (T (Q y ZZ Z)) (f p).h o,Y a1 (f p).f q] 58));have zD:B (z (ZV (ZV w (N #[Y (T (Q r m Z)) n j_] 25)) (N #[U (f p).e,J I (f p).m,J I (f p).M,U (f p).H,Y (T (Q y ZZ Z)) (f p).h o,Y a1 (f p).f q] 58)))=B (z w)+2:=by simp
 have kA:ZW (ZV (ZV w (N #[Y (T (Q r m Z)) n j_] 25)) (N #[U (f p).e,J I (f p).m,J I (f p).M,U (f p).H,Y (T (Q y ZZ Z)) (f p).h o,Y a1 (f p).f q] 58)) (Q (B (z w)) 0 Z)=T (Y (T (Q r m Z)) n j_):=by simp[go_sem]
 have ld:ZW (ZV (ZV w (N #[Y (T (Q r m Z)) n j_] 25)) (N #[U (f p).e,J I (f p).m,J I (f p).M,U (f p).H,Y (T (Q y ZZ Z)) (f p).h o,Y a1 (f p).f q] 58)) (Q (B (z w)+1) 2 Z)=T (J I (f p).M):=by simp[go_sem]
 have n8:ZW (ZV (ZV w (N #[Y (T (Q r m Z)) n j_] 25)) (N #[U (f p).e,J I (f p).m,J I (f p).M,U (f p).H,Y (T (Q y ZZ Z)) (f p).h o,Y a1 (f p).f q] 58)) (Q (B (z w)+1) 3 Z)=T (U (f p).H):=by simp[go_sem]
 have ro:ZW (ZV (ZV w (N #[Y (T (Q r m Z)) n j_] 25)) (N #[U (f p).e,J I (f p).m,J I (f p).M,U (f p).H,Y (T (Q y ZZ Z)) (f p).h o,Y a1 (f p).f q] 58)) (Q (B (z w)+1) 4 Z)=T (Y (T (Q y ZZ Z)) (f p).h o):=by simp[go_sem]
 have fd:ZW (ZV (ZV w (N #[Y (T (Q r m Z)) n j_] 25)) (N #[U (f p).e,J I (f p).m,J I (f p).M,U (f p).H,Y (T (Q y ZZ Z)) (f p).h o,Y a1 (f p).f q] 58)) (Q (B (z w)+1) 5 Z)=T (Y a1 (f p).f q):=by simp[go_sem]
 have p0:=(ZP.i.O (p:=(Q r (m+p*6) Z)) ZT).k o0;have p1:=(ZP.i.O (p:=(Q r (m+p*6+1) Z)) ZT).k o1;have p2:=(ZP.i.O (p:=(Q r (m+p*6+2) Z)) ZT).k o2;have p3:=(ZP.i.O (p:=(Q r (m+p*6+3) Z)) ZT).k o3;have p4:=(ZP.i.O (p:=(Q r (m+p*6+4) Z)) ZT).k o4;have p5:=(ZP.i.O (p:=(Q r (m+p*6+5) Z)) ZT).k o5;clear o0 o1 o2 o3 o4 o5;have OL:=ae (by have h:=xP (ZV (ZV w (N #[Y (T (Q r m Z)) n j_] 25)) (N #[U (f p).e,J I (f p).m,J I (f p).M,U (f p).H,Y (T (Q y ZZ Z)) (f p).h o,Y a1 (f p).f q] 58)) 141 3;rw[zD] at h;exact h);have BL:=ae ((a8 (B (z w)+2) (ZV (ZV w (N #[Y (T (Q r m Z)) n j_] 25)) (N #[U (f p).e,J I (f p).m,J I (f p).M,U (f p).H,Y (T (Q y ZZ Z)) (f p).h o,Y a1 (f p).f q] 58))).alloc (by rw[zD];exact p7 _) (N #[] 141));go_enter func35,ntmps35;go_wp2;clear p0 p1 p2 p3 p4 p5;generalize World.alloc (World.alloc w _) _=ur at X zD kA ld n8 ro fd OL BL ⊢;generalize World.alloc ur _=W0 at OL BL ⊢;go_loopw [6] (λv wr=>∃(k g c:Nat),k<=(f p).f/\v=Y (T (Q g 0 Z)) k c/\Hid (wr.ownsRow (B (z w)+2) 141 3 (Y (T (Q g 0 Z)) k c) k (mc (yOf f p) k))/\Hid (∀i,i<k->eA f p i=ZA)/\Hid (Below (B (z w)+2) ur wr)) (λv _=>(f p).f+1 - GI v);case atStart=>exact⟨0,B (z w)+2,0,by omega,rfl,OL.i,λi hi=>absurd hi (NF _),BL.i⟩
 case round =>
  obtain⟨k,g,c,Hx,rfl,HO,HF,HB⟩:=hrel;have RW:=ae (X.i.k (HB.i.P (by omega)));have d4:=(HB.i.O (p:=(Q (B (z w)+1) 4 Z)) (show (B (z w))+1<B (z w)+2 by omega)).k ro;go_wp2_with fail;clear d4;refine(nO y ZZ (f p).h o g 0 k c (f p).u (yOf f p) _ (by omega) (HI.i.aa RW.i ly) (xv HO.i) Id.i).P ?_;rintro e w1⟨rfl,bt⟩;rw[JG.i k Hx];obtain⟨t,ht⟩:∃t,t=bB f p k:=⟨_,rfl⟩
  rw[<-ht];have H:=ae ht;have ZO:=ae (HB.i.k (bt.P (by have:=HB.i.size;omega)));have O1:=ae (J_ HO.i bt ly);have ZL:B (z w)+2<=B (z w1):=by have:=ZO.i.size;omega
  have hz2:B (z w)+1<B (z w1):=by omega
  have hz3:B (z w)<B (z w1):=by omega
  have d2:=(ZO.i.O (p:=(Q (B (z w)+1) 2 Z)) (show (B (z w))+1<B (z w)+2 by omega)).k ld;have d3:=(ZO.i.O (p:=(Q (B (z w)+1) 3 Z)) (show (B (z w))+1<B (z w)+2 by omega)).k n8;have d5:=(ZO.i.O (p:=(Q (B (z w)+1) 5 Z)) (show (B (z w))+1<B (z w)+2 by omega)).k fd;have O:=ae (ZO.i.alloc ZL (N #[ZF t.L,J I t.M,U t.H,ZF t.ask,U t.e,J I t.j] 138));have ZY:=ae (X.i.k (O.i.P (by omega)));have V:=ae (O1.i.alloc (N #[ZF t.L,J I t.M,U t.H,ZF t.ask,U t.e,J I t.j] 138));clear ht bt HO HB;simp only[Turn.v];cases ho:t.L with
  |true =>
   rw[ho] at O ZY V;by_cases D:k<(f p).f
   ·have Bk:(k:Int)<(f p).f:=by omega
    have u:Hid (eA f p k=ZH):=by show _=_;unfold eA;rw[<-H.i];rw[ho];rfl
    have x:Hid (C=4):=by show _=_;rw[ZM.i];exact vm D HF.i u.i
    go_wp2;go_ret;exact⟨by simp[x.i],ZY.i⟩
   ·obtain rfl:k=(f p).f:=by omega
    have S:=ae (vq HF.i);by_cases hc:t.M=(f p).M
    ·cases htx:(t.H.toList == (f p).H.toList) with
     |true =>
      have x:Hid (C=0):=by show _=_;rw[ZM.i,S.i,<-H.i,ho,eI (by simp),eT ⟨hc,TS.1 htx⟩]
      go_wp2;go_ret;exact⟨by simp[x.i],X.i.k ((ZO.i.alloc ZL _).P (by omega))⟩
     |false =>
      have x:Hid (C=5):=by show _=_;rw[ZM.i,S.i,<-H.i,ho,eI (by simp),eI (λh=>by rw[h.2] at htx;simp at htx)]
      go_wp2;go_ret;exact⟨by simp[x.i],X.i.k ((ZO.i.alloc ZL _).P (by omega))⟩
    ·have x:Hid (C=5):=by show _=_;rw[ZM.i,S.i,<-H.i,ho,eI (by simp),eI (λh=>hc h.1)]
     have GS:(t.M == (f p).M)=ZA:=by simpa using hc
     go_wp2;go_ret;exact⟨by simp[x.i],X.i.k ((ZO.i.alloc ZL _).P (by omega))⟩
  |false =>
   rw[ho] at O ZY V;by_cases D:k<(f p).f
   ·have Bk:(k:Int)<(f p).f:=by omega
    have hge:decide ((f p).f<=k)=ZA:=by simp;omega
    obtain⟨bl,offl,rfl,th⟩:=(n9.i.aa ZY.i ly).resolve_left (by omega);obtain⟨r0,r1,K,M⟩:=th.2 k D;obtain⟨l,hl⟩:∃l,(f p).l k=l:=⟨_,rfl⟩
    rw[hl] at r0 r1 K M;obtain⟨nm,ask,hs,at_⟩:=l;dsimp only at r0 r1 K M;have R:=ae hl;clear th hl;have P:(t.e.toList == nm.toList)=(nm.toList == t.e.toList):=by rw[OJ,TS,TS];exact eq_comm
    have WY:(eA f p k=ZH/\((nm.toList == t.e.toList)=ZA\/(nm.toList == t.e.toList)=ZH/\(t.ask=ZH/\ask=ZA\/t.ask=ZA/\ask=ZH)))\/(eA f p k=ZA/\(nm.toList == t.e.toList)=ZH/\t.ask=ask):=by unfold eA;rw[<-H.i,R.i,ho,P];cases (nm.toList == t.e.toList)<;>cases t.ask<;>cases ask<;>simp
    rcases WY with⟨u,WY⟩|⟨u,hn,ZN⟩
    ·replace u:=ae u;have x:Hid (C=4):=by show _=_;rw[ZM.i];exact vm D HF.i u.i
     rcases WY with hn|⟨hn,⟨ZN,rfl⟩|⟨ZN,rfl⟩⟩
     all_goals
      have JI:=P.k hn;clear P
      (try rw[ZN] at O ZY V r0 r1 K M)
      go_wp2_with fail;go_quiet (fail);have L:=ae (AD ZY.i nq);clear r0 r1 K M O ZY V d2 d3 d5;generalize World.drewN (World.alloc w1 _) nq=WQ at L ⊢;go_wp2;go_ret;exact⟨by simp[x.i],L.i⟩
    ·replace u:=ae u;have JI:=P.k hn;clear P;rw[ZN] at O ZY V r0 r1 K M;have HY:Hid (eJ f ⟨nm,ask,hs,at_⟩=yOf f p k):=by show _=_;unfold yOf;rw[R.i]
     have Fd:Hid (ask=ZH->0<=at_/\at_.toNat<n):=λha=>by have:=DQ.i k D (by rw[R.i];exact ha);rw[R.i] at this;exact this
     cases ask
     all_goals
      go_wp2_with fail;go_quiet (fail);have L:=ae (AD O.i nq);have RQ:=ae (X.i.k (L.i.P (by omega)));have OQ:=ae (J_ V.i (AD br nq) ly);clear r0 r1 K M O ZY V d2 d3 d5;generalize World.drewN (World.alloc w1 _) nq=WQ at L RQ OQ ⊢;have kA2:=(L.i.O (p:=(Q (B (z w)) 0 Z)) (show (B (z w))<B (z w)+2 by omega)).k kA;have d5:=(L.i.O (p:=(Q (B (z w)+1) 5 Z)) (show (B (z w))+1<B (z w)+2 by omega)).k fd;have At:=(n9.i.aa RQ.i ly).resolve_left (by omega);obtain⟨bl2,offl2,eb,ex⟩:=At;simp only[ND,RP,and_true] at eb;obtain⟨rfl,rfl⟩:=eb;obtain⟨r0,r1,K,M⟩:=ex.2 k D;rw[R.i] at r0 r1 K M;dsimp only at r0 r1 K M;have ph:B (z w)+2<=B (z WQ):=by have:=L.i.size;omega
      clear ex;go_wp2_with fail
      go_region_law (first
       |(refine dR rfl (.tmp 67) (.tmp 75) 136 rfl (B (z w)+2) 141 i0 (ZJ #[ZF ZA,J I 0,U ⟨#[]⟩]) 3 32 YM hi JH Fm Fk rfl (by decide) (Y (T (Q g 0 Z)) k c) k (mc (yOf f p) k) (by simp[Act.eval]) (by first|exact O5.i.alloc _|exact O5.i.drew.alloc _|exact O5.i.drew.drew.alloc _) (Q (B (z w5)) 0 Z) 1 1 (lu (yOf f p) k) (by simp[Act.eval]) rfl (by first|exact nP w5 _ _ _ _|exact nP w5.drew _ _ _ _|exact nP w5.drew.drew _ _ _ _) (by simp[lu,Value.oneCell']) (by unfold maxLen;omega) (by omega) (by simp<;>omega) ?_;intro v6 w6 aq ZS DE;have O6:=ae aq;(first|have B6:=ae (bg (B5.i.alloc la _) ZS (by simp<;>omega) (λj e=>(O5.i.lt j e).1))|have B6:=ae (bg (B5.i.drew.alloc (by simpa using la) _) ZS (by simp<;>omega) (λj e=>(O5.i.lt j e).1)));clear aq ZS DE)
       |(go_simp;go_at_call 83;(first|(guard_hyp ZN:t.ask=ZH;refine(nN r m n j_ f ⟨nm,ZH,hs,at_⟩ _ ?_ (λ_=>Fd.i (by simp))).P ?_)|refine(nN r m n j_ f ⟨nm,ZA,hs,at_⟩ _ ?_ (λh=>by cases h)).P ?_);(first|exact ZQ.i.aa RQ.i ly|exact ZQ.i.aa RQ.i.drew ly|exact ZQ.i.aa RQ.i.drew.drew ly|exact ZQ.i.aa RQ.i.drew.drew.drew ly);rintro e w5⟨rfl,G⟩;rw[HY.i];have D5:Hid (Below (B (z WQ)) WQ w5):=⟨G.os,G.tape,G.output,G.size,G.p⟩;have O5:=ae (J_ OQ.i D5.i ly);have B5:=ae (L.i.k (D5.i.P ph));have la:B (z w)+2<=B (z w5):=(nX ph D5.i.size);clear G))
      all_goals
       obtain⟨g6,c6,rfl⟩:=zQ O6.i (by omega);go_simp;go_wp2
       exact⟨⟨k+1,g6,c6,by omega,rfl,O6.i,λi hi=>by
        by_cases e:i=k
        ·subst e;exact u.i
        ·exact HF.i i (by omega),B6.i⟩,by simp[GI];omega⟩
   ·obtain rfl:k=(f p).f:=by omega
    have S:=ae (vq HF.i);have x:Hid (C=4):=by show _=_;rw[ZM.i,S.i,<-H.i,ho,eT rfl]
    go_wp2_with fail;go_quiet (fail);go_wp2;go_ret;exact⟨by simp[x.i],by first|exact AD ZY.i _|exact ZY.i⟩
