import Derived.Test.YtamacmnikdejeaaGreatDoorYX
import Derived.Deep.CutBlock
set_option maxRecDepth 1000000
set_option maxHeartbeats 8000000
open Go.Addr renaming mk->T
open Go.Value renaming slice->Y,string->U,int->I,bool->QT,agg->QV
open Option renaming none->Z,some->N
open Go.Obj renaming cells->Q
open Go.IntKind renaming i64->J
open Go renaming World->H,Value->QS
open Bool renaming false->QQ,true->QR
open Go.Ending renaming returned->QU
namespace Go.Proofs.YtamacmnikdejeaaGreatDoor.Vp
open RowKit
theorem yd (pb po cnt mv place steps looks:Nat)(f:Nat->Ins)(a:Option Addr)(s:List ByteArray)(cap b2 o2 n GL Bk:Nat)(y:Nat->aI)(w:H)
  (hP:RowIns w pb po cnt f) (hY:RowReply w b2 o2 n y) (hO:w.ownsRow Bk 9 1 (Y a s.length cap) s.length (strs s)) (hp:place<=2000) (hst:steps<=2000) (H6:looks<=200) (hs:s.length<=50) (GT:∀ x∈s,x.size<=2000) (GS:dT f cnt=QR) :
  Calls Tryz.prog 140 #[QV #[Y (N (T pb po Z)) cnt mv],ei place (Y a s.length cap) steps looks QQ 0 ⟨#[]⟩ QQ ⟨#[]⟩ QQ,Y (N (T b2 o2 Z)) n GL] w fun e w'=>∃ v,e=QU v/\SoIs w' w.heap.size v (fW f cnt y n place steps looks s)/\Below w.heap.size w w':=by
 obtain⟨so,la⟩:∃ so,so=fW f cnt y n place steps looks s:=⟨_,rfl⟩
 rw[<-la];have S0:=ae la;clear la;have HP:=ae hP;have HY:=ae hY;have HO:=ae hO;have HK:=ae GS;have HL:=ae GT;clear hP hY hO GS GT;have A0:=ae ((((q9 w).alloc ly (Q #[Y (N (T pb po Z)) cnt mv] 43)).alloc (by simp) (Q #[I J place,Y a s.length cap,I J steps,I J looks,QT QQ,I J 0,U ⟨#[]⟩,QT QQ,U ⟨#[]⟩,QT QQ] 216)).alloc (by simp<;>omega) (Q #[I J 0,Y Z 0 0,I J 0,I J 0,QT QQ,I J 0,U ⟨#[]⟩,QT QQ,U ⟨#[]⟩,QT QQ] 216));have R0:=ae ((kU (w.alloc (Q #[Y (N (T pb po Z)) cnt mv] 43)) (I J place) (Y a s.length cap) (I J steps) (I J looks) (QT QQ) (I J 0) (U ⟨#[]⟩) (QT QQ) (U ⟨#[]⟩) (QT QQ) 216 (w.heap.size+1) (by simp)).al (Q #[I J 0,Y Z 0 0,I J 0,I J 0,QT QQ,I J 0,U ⟨#[]⟩,QT QQ,U ⟨#[]⟩,QT QQ] 216));have Z0:=ae (kU ((w.alloc (Q #[Y (N (T pb po Z)) cnt mv] 43)).alloc (Q #[I J place,Y a s.length cap,I J steps,I J looks,QT QQ,I J 0,U ⟨#[]⟩,QT QQ,U ⟨#[]⟩,QT QQ] 216)) (I J 0) (Y Z 0 0) (I J 0) (I J 0) (QT QQ) (I J 0) (U ⟨#[]⟩) (QT QQ) (U ⟨#[]⟩) (QT QQ) 216 (w.heap.size+1+1) (by simp));go_enter Tryz.func140,Tryz.ntmps140;go_wp2_with fail;refine(qZ place (by omega) _).mono ?_;rintro e l ⟨rfl,bt⟩;have hD:(⟨(Lib.decDigits place).toArray⟩:ByteArray)=eX place:=rfl;rw[hD];have R1:=ae (R0.below bt (by simp<;>omega));have Z1:=ae (Z0.below bt (by simp<;>omega));have B1:=ae (A0.trans (bt.mono (by simp<;>omega)));have pP:l.cell? (T w.heap.size 0 Z)=N (Y (N (T pb po Z)) cnt mv):=(bt.cell (p:=(T w.heap.size 0 Z)) (by simp<;>omega)).trans (FQ _ _ _ _ _ _ _ rfl);have O1:=ae (own_below HO B1 ly);have hz1:w.heap.size+1+1<l.heap.size:=Z1.1;have hz0:w.heap.size<l.heap.size:=by omega
 have hz01:w.heap.size+1<l.heap.size:=by omega
 clear bt A0 R0 Z0 hD;obtain⟨m,⟨c0,f0⟩,⟨c1,f1⟩,⟨c2,QY⟩,⟨c3,f3⟩,⟨c4,Q0⟩,⟨c5,P⟩,⟨Q2,R⟩,⟨S,QW⟩,⟨F,f8⟩,V,O⟩:=R1.out;rcases Int.lt_or_le (place:Int) cnt with h1 | h1;rotate_left
 ·have S1:Hid (so=.inr (.inl (2,(eX place),steps))):=S0.trans (show fW f cnt y n place steps looks s=.inr (.inl (2,(eX place),steps)) by have h:cnt<=place:=(by omega);simp[fW,iw,cP,fm,h])
  go_wp2_with fail;refine(fG _ _ _ _ _ _ _ _ _ _ _ _ _ _ _).mono ?_;rintro e w5 ⟨rfl,b⟩;have QX:=ae (Z1.below b Z1.1);have D:=ae (B1.trans (b.mono B1.size));clear b;clear m c0 f0 c1 f1 c2 QY c3 f3 c4 Q0 c5 P Q2 R S QW F f8 V O;obtain⟨n8,⟨z0,y0⟩,⟨z1,y1⟩,⟨z2,y2⟩,⟨z3,y3⟩,⟨G,y4⟩,⟨Q9,y5⟩,⟨ZB,y6⟩,⟨K,y7⟩,⟨M,y8⟩,ZA,y9⟩:=QX.out;go_wp2;refine bp (v:=ei place (Y a s.length cap) steps looks QR 2 (eX place) QQ ⟨#[]⟩ QQ) (by simp[results,Tryz.results140,go_sem,z0,z1,z2,z3,G,Q9,ZB,K,M,ZA]) rfl ⟨_,rfl,(by rw[S1.out];exact⟨_,_,_,_,_,rfl⟩),ec D (by omega) _ _ _ _ _ _ _ _ _ _⟩
 rcases Bool.eq_false_or_eq_true ((steps:Int) == 2000) with h2 | h2
 ·have S1:Hid (so=.inr (.inl (3,⟨#[]⟩,steps))):=S0.trans (show fW f cnt y n place steps looks s=.inr (.inl (3,⟨#[]⟩,steps)) by have h:¬ cnt<=place:=(by omega);have e:steps=2000:=(by simp at h2;omega);simp[fW,iw,cP,fm,h,e])
  go_wp2_with fail;refine(fG _ _ _ _ _ _ _ _ _ _ _ _ _ _ _).mono ?_;rintro e w5 ⟨rfl,b⟩;have QX:=ae (Z1.below b Z1.1);have D:=ae (B1.trans (b.mono B1.size));clear b;clear m c0 f0 c1 f1 c2 QY c3 f3 c4 Q0 c5 P Q2 R S QW F f8 V O;obtain⟨n8,⟨z0,y0⟩,⟨z1,y1⟩,⟨z2,y2⟩,⟨z3,y3⟩,⟨G,y4⟩,⟨Q9,y5⟩,⟨ZB,y6⟩,⟨K,y7⟩,⟨M,y8⟩,ZA,y9⟩:=QX.out;go_wp2;refine bp (v:=ei place (Y a s.length cap) steps looks QR 3 ⟨#[]⟩ QQ ⟨#[]⟩ QQ) (by simp[results,Tryz.results140,go_sem,z0,z1,z2,z3,G,Q9,ZB,K,M,ZA]) rfl ⟨_,rfl,(by rw[S1.out];exact⟨_,_,_,_,_,rfl⟩),ec D (by omega) _ _ _ _ _ _ _ _ _ _⟩
 have hi:=nA HK.out (show place<cnt by omega);simp only[cK,kP] at hi;obtain⟨op,GK⟩:=nL (show 0<=(f place).op by omega);obtain⟨k,hk⟩:=nL hi.2.2.2.1;have Ht:fg (f place).op<=2000:=by unfold fg;split<;>(try split)<;>omega
 have Hd:bW (f place).op<=2000:=by unfold bW;split<;>omega
 have Hf:k<=2000:=by omega
 have Ho:(f place).s.size<=2000:=by omega
 have At:1<=op:=by omega
 have GP:op<=15:=by omega
 have EP:Hid (so=if jF op s=QQ then .inr (.inl (2,(eX place),(steps+1))) else iw y n place (steps+1) looks (dJ op k (f place).s place looks s)):=by
  show _=_;rw[S0.out];have q1:¬ cnt<=place:=by omega
  have q2:¬ steps=2000:=by simp at h2;omega
  simp only[fW,cP,fm,q1,q2,PC,GK,hk,Int.toNat_natCast];split<;>rfl
 clear hi Ht Hd HK;obtain⟨d0,d1,d2⟩:=(HP.below B1 ly).2 place (by omega);rw[GK] at d0;rw[hk] at d2;have hpb:pb<w.heap.size:=HP.1;have Ia:=(cell_far l (T (w.heap.size+1) 2 Z) (T pb (po+place*3) Z) (I J ((steps:Int)+1)) (by simp;omega)).trans d0;have Hp:=(cell_far l (T (w.heap.size+1) 2 Z) (T pb (po+place*3+1) Z) (I J ((steps:Int)+1)) (by simp;omega)).trans d1;have Hh:=(cell_far l (T (w.heap.size+1) 2 Z) (T pb (po+place*3+2) Z) (I J ((steps:Int)+1)) (by simp;omega)).trans d2;have GU:∀ j,w.heap.size<=j->Value.ownBlock (Y a s.length cap)≠N j:=fun j hj e=>by have:=(HO.lt j e).2;omega
 have R2:=ae ((R1.set2 (I J ((steps:Int)+1))).al (Q #[I J op,U (f place).s,I J k] 146));have Z2:=ae ((Z1.other (T (w.heap.size+1) 2 Z) (I J ((steps:Int)+1)) (by simp)).al (Q #[I J op,U (f place).s,I J k] 146));have O2:=ae ((PH O1 (a:=(T (w.heap.size+1) 2 Z)) (GU _ (by simp)) (I J ((steps:Int)+1))).alloc (Q #[I J op,U (f place).s,I J k] 146));have B2:=ae ((B1.setCell (p:=(T (w.heap.size+1) 2 Z)) (by simp) (I J ((steps:Int)+1))).alloc (by have:=B1.size;simpa using this) (Q #[I J op,U (f place).s,I J k] 146));have g0:((l.setCell (T (w.heap.size+1) 2 Z) (I J ((steps:Int)+1))).alloc (Q #[I J op,U (f place).s,I J k] 146)).cell? (T l.heap.size 0 Z)=N (I J op):=mH _ _ _ _ _ _ (by simp) rfl;have g1:((l.setCell (T (w.heap.size+1) 2 Z) (I J ((steps:Int)+1))).alloc (Q #[I J op,U (f place).s,I J k] 146)).cell? (T l.heap.size 1 Z)=N (U (f place).s):=mH _ _ _ _ _ _ (by simp) rfl;have g2:((l.setCell (T (w.heap.size+1) 2 Z) (I J ((steps:Int)+1))).alloc (Q #[I J op,U (f place).s,I J k] 146)).cell? (T l.heap.size 2 Z)=N (I J k):=mH _ _ _ _ _ _ (by simp) rfl;have ld:l.heap.size<((l.setCell (T (w.heap.size+1) 2 Z) (I J ((steps:Int)+1))).alloc (Q #[I J op,U (f place).s,I J k] 146)).heap.size:=by simp
 clear GU;go_wp2_with fail;refine(vt op _ At GP).mono ?_;rintro e w9 ⟨rfl,Hz⟩;subst Hz;clear m c0 f0 c1 f1 c2 QY c3 f3 c4 Q0 c5 P Q2 R S QW F f8 V O;clear d0 d1 d2 Ia Hp Hh GK hk pP;generalize ((l.setCell (T (w.heap.size+1) 2 Z) (I J ((steps:Int)+1))).alloc (Q #[I J op,U (f place).s,I J k] 146))=W at R2 Z2 O2 B2 g0 g1 g2 ld ⊢;obtain⟨m,⟨c0,f0⟩,⟨c1,f1⟩,⟨c2,QY⟩,⟨c3,f3⟩,⟨c4,Q0⟩,⟨c5,P⟩,⟨Q2,R⟩,⟨S,QW⟩,⟨F,f8⟩,V,O⟩:=R2.out;have hpt:=Cu op;have Hl:bC op<=2:=by unfold bC;split<;>(try split)<;>omega
 by_cases hb:jF op s=QQ
 ·have S1:Hid (so=.inr (.inl (2,(eX place),(steps+1)))):=by rw[EP.out,gA hb];rfl
  have hA:(s.length:Int)<(bC op:Nat)∨¬ (s.length:Int)<(bC op:Nat)/\(50:Int)<(s.length:Int) - (bC op:Nat)+(cC op:Nat):=by simp only[jF,JX] at hb;omega
  clear hb EP;rcases hA with hA | ⟨hA,GV⟩
  iterate 2
   ·go_wp2_with fail
    refine(fG _ _ _ _ _ _ _ _ _ _ _ _ _ _ _).mono ?_;rintro e w5 ⟨rfl,b⟩;have QX:=ae (Z2.below b Z2.1);have D:=ae (B2.trans (b.mono B2.size));clear b;clear m c0 f0 c1 f1 c2 QY c3 f3 c4 Q0 c5 P Q2 R S QW F f8 V O;obtain⟨n8,⟨z0,y0⟩,⟨z1,y1⟩,⟨z2,y2⟩,⟨z3,y3⟩,⟨G,y4⟩,⟨Q9,y5⟩,⟨ZB,y6⟩,⟨K,y7⟩,⟨M,y8⟩,ZA,y9⟩:=QX.out;go_wp2;refine bp (v:=ei place (Y a s.length cap) ((steps:Int)+1) looks QR 2 (eX place) QQ ⟨#[]⟩ QQ) (by simp[results,Tryz.results140,go_sem,z0,z1,z2,z3,G,Q9,ZB,K,M,ZA]) rfl ⟨_,rfl,(by rw[S1.out];exact⟨_,_,_,_,_,rfl⟩),ec D (by omega) _ _ _ _ _ _ _ _ _ _⟩
 have GY:bC op<=s.length/\s.length - bC op+cC op<=50:=by simpa[jF] using hb
 have hA:¬ (s.length:Int)<(bC op:Nat):=by omega
 have GV:¬ (50:Int)<(s.length:Int) - (bC op:Nat)+(cC op:Nat):=by omega
 have SO:Hid (so=iw y n place (steps+1) looks (dJ op k (f place).s place looks s)):=by rw[EP.out,eI hb];rfl
 have HB:=ae GY.1;have Hv:(s.drop (bC op)).length+cC op<=50:=by rw[JZ];omega
 clear hb GY EP;obtain⟨A,Ha⟩:∃ A,A=lM op s:=⟨_,rfl⟩
 obtain⟨B,bt⟩:∃ B,B=qA op s:=⟨_,rfl⟩
 obtain⟨r,n9⟩:∃ r,r=s.drop (bC op):=⟨_,rfl⟩
 rw[<-n9] at Hv;have EA:=ae Ha;have EB:=ae bt;have ER:=ae n9;clear S0 Ha bt n9;go_upto_if 68 with fail;go_cut [11] (fun sa QZ=>sa=U A/\W=QZ);case first =>
  by_cases ht:(0:Int)<(bC op:Nat)
  ·rcases s with _ | ⟨x,q⟩
   ·exact absurd HB.out (by simp;omega)
   ·obtain⟨g,c,e⟩:=gv O2 (by simp)
    obtain⟨rfl,-⟩:=NF e;have t1:=ED O2.out;have HU:q.length<=50:=by simp at hs;omega
    obtain rfl:A=x:=by rw[EA.out];unfold lM;rw[gA (by omega)];rfl
    rw[z8] at c1;go_wp2;go_meet;exact⟨rfl,rfl⟩
  ·obtain rfl:A=⟨#[]⟩:=by rw[EA.out];unfold lM;rw[eI (by omega)]
   go_wp2;go_meet;exact⟨rfl,rfl⟩
 case rest =>
 obtain⟨rfl,rfl⟩:=hcut;go_upto_if 78 with fail;go_cut [12] (fun sa QZ=>sa=U B/\W=QZ);case first =>
  by_cases ht:(1:Int)<(bC op:Nat)
  ·rcases s with _ | ⟨x,_ | ⟨z,q⟩⟩
   ·exact absurd HB.out (by simp;omega)
   ·exact absurd HB.out (by simp;omega)
   ·obtain⟨g,c,e⟩:=gv O2 (by simp)
    obtain⟨rfl,-⟩:=NF e;obtain⟨t1,t2⟩:=EE O2;have HU:q.length+1<=50:=by simp at hs;omega
    obtain rfl:B=z:=by rw[EB.out];unfold qA;rw[gA (by omega)];rfl
    rw[z8,z8] at c1;go_wp2;go_meet;exact⟨rfl,rfl⟩
  ·obtain rfl:B=⟨#[]⟩:=by rw[EB.out];unfold qA;rw[eI (by omega)]
   go_wp2;go_meet;exact⟨rfl,rfl⟩
 case rest =>
 obtain⟨rfl,rfl⟩:=hcut;have hl:s.length=r.length+bC op:=by rw[ER.out,JZ];have:=HB.out;omega
 go_upto_region 17 with fail;go_cut [13] (fun sr QZ=>∃ X cr,sr=Y (N (T X 0 Z)) r.length cr/\W.heap.size<=X/\Hid (QZ.ownsRow W.heap.size 9 1 (Y (N (T X 0 Z)) r.length cr) r.length (strs r))/\Hid (Below W.heap.size W QZ));case first =>
  rcases zS O2.out with ⟨rfl,hz,rfl⟩ | ⟨g,rfl⟩
  ·obtain rfl:s=[]:=OJ.1 hz
   obtain rfl:r=[]:=by rw[ER.out];simp
   have GO:bC op=0:=by simpa using HB.out
   have h0:((bC op:Nat):Int)=0:=by rw[GO];rfl
   have hw3:-((bC op:Nat):Int)=0:=by rw[h0];decide
   have hw4:0 - ((bC op:Nat):Int)=0:=by rw[h0];decide
   clear h0 GO hl;have AL:=ae ((q9 W).alloc ly (Q #[] 9));have OM:=ae (J9 (base:=W.heap.size) (e:=9) (size:=1) W #[] 0 ly (by unfold maxLen;omega) rfl);go_wp2;go_meet;exact⟨_,_,rfl,j5 _,OM,AL⟩
  ·have hcap:(r.length:Int)<=cap:=by have:=EF O2.out;omega
   have He:Hid (∀ j u,(strs r)[j]?=N u->(W.alloc (Q #[] 9)).cell? (((T g 0 Z):Addr).add j)=N u):=EI (xs:=strs (s.take (bC op))) (by
    have h:=O2.alloc (Q #[] 9);rw[ER.out,<-Cx,LJ]
    exact h)
   obtain⟨t,ht⟩:∃ t,t=bC op:=⟨_,rfl⟩
   rw[<-ht] at hl Hl ⊢;rw[hl] at c1 hs;have HS:=ae hs;have HL:=ae hl;clear hs hl;obtain⟨GD,hi,GJ,GF,GM⟩:=JV lm;go_wp2_with (at_builtin;refine wC _ rfl (.tmp 87) (.tmp 95) 35 rfl W.heap.size 9 GD (U ⟨#[]⟩) 1 16 Tryz.underlying35 hi GJ GF GM rfl (by decide) (Y (N (T W.heap.size 0 Z)) 0 0) 0 [] (by simp[Act.eval]) (J9 W #[] 0 ly (by unfold maxLen;omega) rfl) (T g 0 Z) r.length cap (strs r) (by simp[Act.eval]) (by simp[strs]) He.out (Ct _) (by unfold maxLen;omega) (by omega) (by simp) ?_;intro v' w2 qr Fd GE;simp only[DN,JT] at qr;obtain⟨X,cr,rfl,Hb⟩:=rB qr (fun e=>by simpa using GE.1 e);have B3:=ae (bg ((q9 W).alloc ly (Q #[] 9)) Fd (by simp) (fun j e=>by simp[Value.ownBlock] at e;omega));have DE:=ae qr;clear qr Fd GE);go_meet;exact⟨X,cr,rfl,Hb,DE,B3⟩
 case rest =>
 clear hl hA GV;obtain⟨X,cr,rfl,Hb,DE,B3⟩:=hcut;have DQ:w.heap.size<=W.heap.size:=B2.size;have n9:w.heap.size+1<W.heap.size:=R2.1;have Fn:w.heap.size+1+1<W.heap.size:=Z2.1;have GI:w.heap.size+1≠X:=by omega
 have Hr:W.heap.size<=wc.heap.size:=B3.size;clear m c0 f0 c1 f1 c2 QY c3 f3 c4 Q0 c5 P Q2 R S QW F f8 V O;have R3:=ae (R2.below B3 R2.1);have Z3:=ae (Z2.below B3 Z2.1);have G0:=(B3.cell (p:=(T l.heap.size 0 Z)) ld).trans g0;have G1:=(B3.cell (p:=(T l.heap.size 1 Z)) ld).trans g1;have G2:=(B3.cell (p:=(T l.heap.size 2 Z)) ld).trans g2;have R4:=ae (R3.set0 (I J ((place:Int)+1)));have Z4:=ae (Z3.other (T (w.heap.size+1) 0 Z) (I J ((place:Int)+1)) (by simp));have B4:=ae ((B2.trans (B3.mono B2.size)).setCell (p:=(T (w.heap.size+1) 0 Z)) (by simp) (I J ((place:Int)+1)));have O4:=ae (ed DE GI (I J ((place:Int)+1)) 0);have H0:=(cell_far _ (T (w.heap.size+1) 0 Z) (T l.heap.size 0 Z) (I J ((place:Int)+1)) (by simp;omega)).trans G0;have H1:=(cell_far _ (T (w.heap.size+1) 0 Z) (T l.heap.size 1 Z) (I J ((place:Int)+1)) (by simp;omega)).trans G1;have H2:=(cell_far _ (T (w.heap.size+1) 0 Z) (T l.heap.size 2 Z) (I J ((place:Int)+1)) (by simp;omega)).trans G2;have aq:W.heap.size<=(wc.setCell (T (w.heap.size+1) 0 Z) (I J ((place:Int)+1))).heap.size:=by simpa using Hr
 obtain⟨Hj,⟨e0,v0⟩,⟨e1,v1⟩,⟨e2,v2⟩,⟨e3,v3⟩,⟨e4,v4⟩,⟨e5,v5⟩,⟨e6,v6⟩,⟨e7,v7⟩,⟨e8,v8⟩,e9,v9⟩:=R3.out;go_upto_block 0 with fail;clear Hj e0 v0 e1 v1 e2 v2 e3 v3 e4 v4 e5 v5 e6 v6 e7 v7 e8 v8 e9 v9;clear g0 g1 g2 G0 G1 G2 B3 R3 Z3 DE R2 Z2 O2;generalize wc.setCell (T (w.heap.size+1) 0 Z) (I J ((place:Int)+1))=W5 at R4 Z4 B4 O4 H0 H1 H2 aq ⊢;obtain⟨Hn,Hx⟩:A.size<=2000/\B.size<=2000:=by rw[EA.out,EB.out];exact tU HL op
 obtain⟨C,GQ⟩:∃ C,C=nd op k A place:=⟨_,rfl⟩
 have ur:=ae GQ;clear GQ;go_cut [] (fun QZ=>op<=11/\Hid (Ten QZ (w.heap.size+1) (I J C) (Y a s.length cap) (I J ((steps:Int)+1)) (I J looks) (QT QQ) (I J 0) (U ⟨#[]⟩) (QT QQ) (U ⟨#[]⟩) (QT QQ))/\Hid (Ten QZ (w.heap.size+1+1) (I J 0) (Y Z 0 0) (I J 0) (I J 0) (QT QQ) (I J 0) (U ⟨#[]⟩) (QT QQ) (U ⟨#[]⟩) (QT QQ))/\Hid (Below w.heap.size w QZ)/\Hid (QZ.ownsRow W.heap.size 9 1 (Y (N (T X 0 Z)) r.length cr) r.length (strs r))/\QZ.cell? (T l.heap.size 0 Z)=N (I J op)/\QZ.cell? (T l.heap.size 1 Z)=N (U (f place).s)/\QZ.cell? (T l.heap.size 2 Z)=N (I J k)/\W.heap.size<=QZ.heap.size);case first =>
  obtain⟨m,⟨c0,f0⟩,⟨c1,f1⟩,⟨c2,QY⟩,⟨c3,f3⟩,⟨c4,Q0⟩,⟨c5,P⟩,⟨Q2,R⟩,⟨S,QW⟩,⟨F,f8⟩,V,O⟩:=R4.out;rcases EN op A GP with rfl | rfl | rfl | rfl | rfl | ⟨rfl,q1⟩ | ⟨rfl,q1,q2⟩ | ⟨rfl,q1,q2⟩ | h9
  ·go_wp2_with fail
   refine(fG _ _ _ _ _ _ _ _ _ _ _ _ _ _ _).mono ?_;rintro e w5 ⟨rfl,b⟩;have QX:=ae (Z4.below b Z4.1);have D:=ae (B4.trans (b.mono B4.size));clear b;clear m c0 f0 c1 f1 c2 QY c3 f3 c4 Q0 c5 P Q2 R S QW F f8 V O;obtain⟨n8,⟨z0,y0⟩,⟨z1,y1⟩,⟨z2,y2⟩,⟨z3,y3⟩,⟨G,y4⟩,⟨Q9,y5⟩,⟨ZB,y6⟩,⟨K,y7⟩,⟨M,y8⟩,ZA,y9⟩:=QX.out;go_wp2;refine bp (v:=ei ((place:Int)+1) (Y a s.length cap) ((steps:Int)+1) looks QR 0 A QQ ⟨#[]⟩ QQ) (by simp[results,Tryz.results140,go_sem,z0,z1,z2,z3,G,Q9,ZB,K,M,ZA]) rfl ⟨_,rfl,(by rw[SO.out,wA _ _ _ _ _ _ _ _ _ (by simp) HB.out,<-EA.out];exact⟨_,_,_,_,_,rfl⟩),ec D (by omega) _ _ _ _ _ _ _ _ _ _⟩
  ·go_wp2_with fail
   refine(fG _ _ _ _ _ _ _ _ _ _ _ _ _ _ _).mono ?_;rintro e w5 ⟨rfl,b⟩;have QX:=ae (Z4.below b Z4.1);have D:=ae (B4.trans (b.mono B4.size));clear b;clear m c0 f0 c1 f1 c2 QY c3 f3 c4 Q0 c5 P Q2 R S QW F f8 V O;obtain⟨n8,⟨z0,y0⟩,⟨z1,y1⟩,⟨z2,y2⟩,⟨z3,y3⟩,⟨G,y4⟩,⟨Q9,y5⟩,⟨ZB,y6⟩,⟨K,y7⟩,⟨M,y8⟩,ZA,y9⟩:=QX.out;go_wp2;refine bp (v:=ei ((place:Int)+1) (Y a s.length cap) ((steps:Int)+1) looks QR 1 A QQ ⟨#[]⟩ QQ) (by simp[results,Tryz.results140,go_sem,z0,z1,z2,z3,G,Q9,ZB,K,M,ZA]) rfl ⟨_,rfl,(by rw[SO.out,wA _ _ _ _ _ _ _ _ _ (by simp) HB.out,<-EA.out];exact⟨_,_,_,_,_,rfl⟩),ec D (by omega) _ _ _ _ _ _ _ _ _ _⟩
  iterate 2
   ·go_wp2_with fail
    have Z5:=ae (Z4.other (T (w.heap.size+1) 1 Z) (Y (N (T X 0 Z)) r.length cr) (by simp));have D:=ae (B4.setCell (p:=(T (w.heap.size+1) 1 Z)) (by simp) (Y (N (T X 0 Z)) r.length cr));have O5:=ae (ed O4 GI (Y (N (T X 0 Z)) r.length cr) 1);have Y5:=ae (HY.below D ly);have hq:=fun(o:Nat) (ho:o=12∨o=13)=>x6 o (f place).s k (place+1) (steps+1) looks (N (T X 0 Z)) cr r A (eX place) b2 o2 n GL W.heap.size y _ Y5 O5 (by simpa using aq) ho H6 (by omega);rw[show((place+1:Nat):Int)=(place:Int)+1 by omega,show((steps+1:Nat):Int)=(steps:Int)+1 by omega] at hq;refine(hq _ (by simp)).mono ?_;rintro e w5 ⟨v,rfl,la,b⟩;have Hm:=ae la;obtain⟨l0,l1,l2,l3,l4,l5,l6,l7,l8,l9,Hw,Ib,rfl⟩:=la.form;have QX:=ae (Z5.below b Fn);have B6:=ae (D.trans (b.mono DQ));clear b hq la;clear m c0 f0 c1 f1 c2 QY c3 f3 c4 Q0 c5 P Q2 R S QW F f8 V O;obtain⟨n8,⟨z0,y0⟩,⟨z1,y1⟩,⟨z2,y2⟩,⟨z3,y3⟩,⟨G,y4⟩,⟨Q9,y5⟩,⟨ZB,y6⟩,⟨K,y7⟩,⟨M,y8⟩,ZA,y9⟩:=QX.out;go_wp2;refine bp (v:=ei l0 (Y l1 l2 l3) l4 l5 l6 l7 l8 l9 Hw Ib) (by simp[results,Tryz.results140,go_sem,z0,z1,z2,z3,G,Q9,ZB,K,M,ZA]) rfl ⟨_,rfl,(by rw[SO.out,EO _ _ _ _ _ _ _ _ _ (by simp) HB.out,<-EA.out,<-ER.out];exact(zQ Hm Fn _ _ _ _ _ _ _ _ _ _).mono DQ),ec B6 (by omega) _ _ _ _ _ _ _ _ _ _⟩
  iterate 3
   ·obtain rfl:C=k:=ur.trans (Gy (by first | exact .inl rfl | exact .inr (.inl ⟨rfl,q1⟩) | exact .inr (.inr ⟨rfl,q2⟩)))
    have R5:=ae (R4.set0 (I J C));have Z5:=ae (Z4.other (T (w.heap.size+1) 0 Z) (I J C) (by simp));have D:=ae (B4.setCell (p:=(T (w.heap.size+1) 0 Z)) (by simp) (I J C));have O5:=ae (ed O4 GI (I J C) 0);have I0:=(cell_far _ (T (w.heap.size+1) 0 Z) (T l.heap.size 0 Z) (I J (C:Int)) (by simp;omega)).trans H0;have I1:=(cell_far _ (T (w.heap.size+1) 0 Z) (T l.heap.size 1 Z) (I J (C:Int)) (by simp;omega)).trans H1;have I2:=(cell_far _ (T (w.heap.size+1) 0 Z) (T l.heap.size 2 Z) (I J (C:Int)) (by simp;omega)).trans H2;have HI:=ae I0;have Hk:=ae I1;have Hy:=ae I2;clear I0 I1 I2;go_wp2;go_meet;exact⟨by omega,R5,Z5,D,O5,HI,Hk,Hy,by simpa using aq⟩
  ·obtain rfl:C=place+1:=by rw[ur.out];unfold nd;rw[eI (by decide),eI (fun h=>h.2.elim (fun e=>by rw[e] at q1;cases q1) (fun e=>by rw[e] at q2;cases q2))]
   go_wp2;go_meet;exact⟨by omega,by show Ten _ _ _ _ _ _ _ _ _ _ _ _;rw[show((place+1:Nat):Int)=(place:Int)+1 by omega];exact R4,Z4,B4,O4,H0,H1,H2,aq⟩
  ·obtain rfl:C=place+1:=by rw[ur.out];unfold nd;rw[eI (by omega),eI (by omega)]
   have n15:((op:Int) == 15)=QQ:=by simp;omega
   have n14:((op:Int) == 14)=QQ:=by simp;omega
   have n12:((op:Int) == 12)=QQ:=by simp;omega
   have n13:((op:Int) == 13)=QQ:=by simp;omega
   have n10:((op:Int) == 10)=QQ:=by simp;omega
   have n11:((op:Int) == 11)=QQ:=by simp;omega
   go_wp2;go_meet;exact⟨by omega,by show Ten _ _ _ _ _ _ _ _ _ _ _ _;rw[show((place+1:Nat):Int)=(place:Int)+1 by omega];exact R4,Z4,B4,O4,H0,H1,H2,aq⟩
 case rest =>
 clear R4 Z4 B4 O4 H0 H1 H2 aq;obtain⟨GC,R4,Z4,B4,O4,G0,G1,G2,aq⟩:=hcut;obtain⟨L,Fm⟩:∃ L,L=bY op k (f place).s A B:=⟨_,rfl⟩
 have ph:Hid (L=bY op k (f place).s A B/\L.length=cC op):=⟨Fm,by rw[Fm];exact x7 _ _ _ _ _ At GC⟩
 have Hc:Hid (so=gJ L (eX place) r C (steps+1) looks):=by show _=_;rw[SO.out,Cy _ _ _ _ _ _ _ _ _ At GC HB.out Ho HL.out,Fm,<-EA.out,<-EB.out,<-ER.out,<-ur.out]
 clear Fm SO EA EB ER ur;go_wp2_with fail;go_loopw [13,14] (fun rest i wr=>∃ j:Nat,j<=cC op/\i=I J j/\∃ g6 cx,rest=Y (N (T g6 0 Z)) (r.length+j) cx/\Hid (wr.ownsRow W.heap.size 9 1 (Y (N (T g6 0 Z)) (r.length+j) cx) (r.length+j) (strs r++(L.take j).map Value.string))/\Hid (Below W.heap.size wc wr)/\Hid (∀ i,i<j->(L.getD i ⟨#[]⟩).size<=2000)) (fun _ i _=>cC op - (intOf i).toNat);case atStart=>exact⟨0,by omega,rfl,X,cr,rfl,(by show World.ownsRow _ _ _ _ _ _ _;rw[List.take_zero,QF,L8];exact O4),eL _ _,fun i hi=>absurd hi (JP _)⟩
 case round =>
  obtain⟨j,hj,rfl,g6,cx,rfl,O6,B6,S6⟩:=hrel;have R6:=ae (R4.below B6 n9);have Z6:=ae (Z4.below B6 Fn);have i0:=(B6.cell (p:=(T l.heap.size 0 Z)) ld).trans G0;have i1:=(B6.cell (p:=(T l.heap.size 1 Z)) ld).trans G1;have i2:=(B6.cell (p:=(T l.heap.size 2 Z)) ld).trans G2;have GW:W.heap.size<=wr.heap.size:=j4 aq B6.size;have B7:=ae (B4.trans (B6.mono DQ));by_cases GH:j<cC op
  ·have h8:op<=8:=EJ At GC GH
   have GN:j<L.length:=by rw[ph.2];exact GH
   go_wp2_with fail;refine(vu op k (f place).s A B _ At h8 Hn Hx Hf).mono ?_;rintro e w6 ⟨g7,rfl,sm,Hg,fd⟩;rw[<-ph.1] at sm ⊢;rw[ph.2] at sm ⊢;have q6:w6.cell? (T g7 j Z)=N (U (L.getD j ⟨#[]⟩)):=by have:=sm.2 j GH;rwa[DN] at this
   obtain⟨E,hE⟩:∃ E,E=L.getD j ⟨#[]⟩:=⟨_,rfl⟩
   rw[<-hE] at q6;have HE:=ae hE;clear hE;have O7:=ae (own_below O6 fd ly);have B8:=ae (B6.trans (fd.mono GW));have Hq:W.heap.size<=w6.heap.size:=j4 GW fd.size;have R7:=ae (R6.below fd R6.1);have Z7:=ae (Z6.below fd Z6.1);have B9:=ae (B7.trans (fd.mono B7.size));clear sm Hg fd i0 i1 i2 R6 Z6;by_cases Hu:(E.size:Int)<=2000
   ·obtain⟨GD,hi,GJ,GF,GM⟩:=JV lm
    go_wp2_with (at_builtin;refine wC _ rfl (.tmp 158) (.tmp 163) 35 rfl W.heap.size 9 GD (U ⟨#[]⟩) 1 16 Tryz.underlying35 hi GJ GF GM rfl (by decide) (Y (N (T g6 0 Z)) (r.length+j) cx) (r.length+j) (strs r++(L.take j).map Value.string) (by simp[Act.eval]) (O7.alloc _) (T w6.heap.size 0 Z) 1 1 [U E] (by simp[Act.eval]) rfl (dW w6 _ _) (by simp[Value.oneCell']) (by unfold maxLen;omega) (by omega) (by simp<;>omega) ?_;intro v' w7 ro th Fk;obtain⟨g8,F,rfl,hg8⟩:=rB ro (fun e=>by simpa using Fk.1 e);have O8:=ae ro;have Hi:=ae (bg (B8.alloc Hq (Q #[U E] 9)) th (by simp<;>omega) (fun i e=>(O7.lt i e).1));clear ro th Fk)
    exact⟨⟨j+1,by omega,by go_num,g8,F,rfl,by show World.ownsRow _ _ _ _ _ _ _;rw[zR GN,<-JM,<-HE.out];exact O8,Hi,fun i hi=>by
     by_cases e:i=j
     ·subst e;rw[<-HE.out];omega
     ·exact S6 i (by omega)⟩,by simp[intOf];omega⟩
   ·have ER:=ae (show so=.inr (.inl (2,(eX place),(steps+1))) by rw[Hc.out];unfold gJ;rw[EK GN (by rw[<-HE.out];exact Hu)];rfl)
    obtain⟨m,⟨c0,f0⟩,⟨c1,f1⟩,⟨c2,QY⟩,⟨c3,f3⟩,⟨c4,Q0⟩,⟨c5,P⟩,⟨Q2,R⟩,⟨S,QW⟩,⟨F,f8⟩,V,O⟩:=R7.out;go_wp2_with fail;refine(fG _ _ _ _ _ _ _ _ _ _ _ _ _ _ _).mono ?_;rintro e w5 ⟨rfl,b⟩;have QX:=ae (Z7.below b Z7.1);have D:=ae (B9.trans (b.mono B9.size));clear b;clear m c0 f0 c1 f1 c2 QY c3 f3 c4 Q0 c5 P Q2 R S QW F f8 V O;obtain⟨n8,⟨z0,y0⟩,⟨z1,y1⟩,⟨z2,y2⟩,⟨z3,y3⟩,⟨G,y4⟩,⟨Q9,y5⟩,⟨ZB,y6⟩,⟨K,y7⟩,⟨M,y8⟩,ZA,y9⟩:=QX.out;go_wp2;refine bp (v:=ei C (Y a s.length cap) ((steps:Int)+1) looks QR 2 (eX place) QQ ⟨#[]⟩ QQ) (by simp[results,Tryz.results140,go_sem,z0,z1,z2,z3,G,Q9,ZB,K,M,ZA]) rfl ⟨_,rfl,(by rw[ER.out];exact⟨_,_,_,_,_,rfl⟩),ec D (by omega) _ _ _ _ _ _ _ _ _ _⟩
  ·have e:j=cC op:=by omega
   subst e;have ER:=ae (show so=.inl (C,(steps+1),looks,(L.reverse++r)) by rw[Hc.out];unfold gJ;rw[Cw (fun i hi=>S6.out i (by rw[ph.2] at hi;exact hi))];rfl);have G8:=ae (show(L.reverse++r).length=r.length+cC op by rw[a8,List.length_reverse,ph.2];omega);obtain⟨m,⟨c0,f0⟩,⟨c1,f1⟩,⟨c2,QY⟩,⟨c3,f3⟩,⟨c4,Q0⟩,⟨c5,P⟩,⟨Q2,R⟩,⟨S,QW⟩,⟨F,f8⟩,V,O⟩:=R6.out;obtain⟨n8,⟨z0,y0⟩,⟨z1,y1⟩,⟨z2,y2⟩,⟨z3,y3⟩,⟨G,y4⟩,⟨Q9,y5⟩,⟨ZB,y6⟩,⟨K,y7⟩,⟨M,y8⟩,ZA,y9⟩:=Z6.out;have OE:=ae (PI O6 (a:=(T (w.heap.size+1) 1 Z)) n9 (Y (N (T g6 0 Z)) (r.length+cC op) cx));have BE:=ae (B7.setCell (p:=(T (w.heap.size+1) 1 Z)) (by simp) (Y (N (T g6 0 Z)) (r.length+cC op) cx));go_wp2;refine bp (v:=ei C (Y (N (T g6 0 Z)) (r.length+cC op) cx) ((steps:Int)+1) looks QQ 0 ⟨#[]⟩ QQ ⟨#[]⟩ QQ) (by simp[results,Tryz.results140,go_sem,z0,z1,z2,z3,G,Q9,ZB,K,M,ZA]) rfl ⟨_,rfl,?_,ec BE (by omega) _ _ _ _ _ _ _ _ _ _⟩;rw[ER.out];refine(zQ (v:=ei C (Y (N (T g6 0 Z)) (r.length+cC op) cx) ((steps:Int)+1) looks QQ 0 ⟨#[]⟩ QQ ⟨#[]⟩ QQ) (base:=W.heap.size) ?_ Fn _ _ _ _ _ _ _ _ _ _).mono DQ;refine⟨N (T g6 0 Z),cx,by rw[G8.out];simp,?_⟩;rw[G8.out,Cv];have h:=OE.out;rw[show L.take (cC op)=L by rw[<-ph.2];exact List.take_length] at h;exact h
def FU (f:Nat->Ins)(cnt:Nat)(y:Nat->aI)(n:Nat)(Q2:Turn)(st:Nat):SO->Prop
 | .inr (.inl (c,x,k))=>Q2=iv c x k
 | .inr (.inr (a,nm,k))=>Q2=pH a nm k
 | .inl (p,k,l,s)=>k=st+1/\k<=2000/\cV f cnt y n (2001 - k) p k l s=Q2/\p<=2000/\l<=200/\s.length<=50/\∀ x∈s,x.size<=2000
theorem vv {f:Nat->Ins}{cnt place steps looks:Nat}{b:List ByteArray}(j:b.length<=50)(h:∀ x∈b,x.size<=2000)(g:looks<=200)(c:dT f cnt=QR)(hc:cnt<=200):tN (cP f cnt place steps looks b) looks:=by
 unfold cP;split
 ·trivial
 ·rename_i h1
  split
  ·trivial
  ·split
   ·trivial
   ·rename_i i
    have hi:=nA c (show place<cnt by omega);simp only[cK,kP] at hi;obtain⟨i1,i2,i3,i4,i5⟩:=hi;have hmt:fg (f place).op<=2000:=by unfold fg;split<;>(try split)<;>omega
    have hmt2:bW (f place).op<=2000:=by unfold bW;split<;>omega
    exact mE _ _ _ _ _ _ j h (by omega) (by omega) (by omega) g (by omega) (by omega) (by simpa using i)
theorem vA {f:Nat->Ins}{cnt place steps looks:Nat}{b:List ByteArray}{a:Bool}{nm:ByteArray}{s:List ByteArray}(h:cP f cnt place steps looks b=.inr (.inr (a,nm,s))):place<cnt:=by
 unfold cP at h;split at h
 ·cases h
 ·omega
theorem EV {f:Nat->Ins}{cnt:Nat}{y:Nat->aI}{n:Nat}{Q2:Turn}{p st l:Nat}{s:List ByteArray}(hst:st<=2000)(z:l<=200)(E:s.length<=50)(q:∀ x∈s,x.size<=2000)(t:dT f cnt=QR)(D:cnt<=200)(A:ce y n=QR)
  (b:cV f cnt y n (2001 - st) p st l s=Q2):FU f cnt y n Q2 st (fW f cnt y n p st l s):=by
 obtain⟨j,F⟩:∃ j,2001 - st=j+1:=⟨2000 - st,by omega⟩
 rw[F,cV] at b;have hF:=vv (place:=p) (steps:=st) E q z t D;unfold fW;rcases h:cP f cnt p st l s with ⟨C,p'⟩ | ⟨c,x⟩ | ⟨a,nm,C⟩
 ·rw[h] at b hF
  obtain⟨m,B⟩:=tO h;obtain⟨f1,i,r⟩:=hF;simp only[m] at b ⊢;exact⟨rfl,by omega,by rw[show 2001 - (st+1)=j by omega];exact b,r,z,f1,i⟩
 ·rw[h] at b
  exact b.symm
 ·rw[h] at b hF
  obtain⟨m,B⟩:=pI h;obtain⟨f1,i,r,f4⟩:=hF;have hp:=vA h;simp only[m] at b ⊢;simp only[iw,j7];by_cases h1:n<=l
  ·rw[gA h1] at b ⊢
   exact b.symm
  ·rw[eI h1] at b ⊢
   by_cases h2:a=QQ
   ·rw[gA h2] at b ⊢
    refine⟨rfl,by omega,by rw[show 2001 - (st+1)=j by omega];exact b,by omega,by omega,by simp;omega,fun x g=>?_⟩;rcases nD.1 g with rfl | g
    ·exact lL _
    ·exact i x g
   ·rw[eI h2] at b ⊢
    by_cases u:(y l).has=QQ
    ·rw[gA u] at b ⊢
     exact b.symm
    ·rw[eI u] at b ⊢
     by_cases o:(y l).code=0
     ·rw[gA o] at b ⊢
      refine⟨rfl,by omega,by rw[show 2001 - (st+1)=j by omega];exact b,by omega,by omega,by simp;omega,fun x g=>?_⟩;rcases nD.1 g with rfl | g
      ·exact(Co A (show l<n by omega)).1
      ·exact i x g
     ·rw[eI o] at b ⊢
      exact b.symm
theorem Ten.put {w:H}{g:Nat}{p l i n c m o f j b:QS}(h:Ten w g p l i n c m o f j b)(u0 u1 u2 u3 u4 u5 u6 u7 u8 u9:QS):Ten ((((((((((w.setCell (T g 0 Z) u0).setCell (T g 1 Z) u1).setCell (T g 2 Z) u2).setCell (T g 3 Z) u3).setCell (T g 4 Z) u4).setCell (T g 5 Z) u5).setCell (T g 6 Z) u6).setCell (T g 7 Z) u7).setCell (T g 8 Z) u8).setCell (T g 9 Z) u9) g u0 u1 u2 u3 u4 u5 u6 u7 u8 u9 :=
 (((((((((h.set0 u0).set1 u1).set2 u2).set3 u3).set4 u4).set5 u5).set6 u6).set7 u7).set8 u8).set9 u9
theorem oL {g:Nat}{u w:H}(h:Only g u w)(u0 u1 u2 u3 u4 u5 u6 u7 u8 u9:QS):Only g u ((((((((((w.setCell (T g 0 Z) u0).setCell (T g 1 Z) u1).setCell (T g 2 Z) u2).setCell (T g 3 Z) u3).setCell (T g 4 Z) u4).setCell (T g 5 Z) u5).setCell (T g 6 Z) u6).setCell (T g 7 Z) u7).setCell (T g 8 Z) u8).setCell (T g 9 Z) u9) :=
 gu (gu (gu (gu (gu (gu (gu (gu (gu (gu h 0 u0) 1 u1) 2 u2) 3 u3) 4 u4) 5 u5) 6 u6) 7 u7) 8 u8) 9 u9
def wB (w:H)(g b:Nat)(f:Nat->Ins)(cnt:Nat)(y:Nat->aI)(n:Nat)(Q2:Turn)(k:Nat):Prop :=
 (∃ p st l s a cap,Ten w g (I J (p:Nat)) (Y a (List.length s) cap) (I J (st:Nat)) (I J (l:Nat)) (QT QQ) (I J 0) (U ⟨#[]⟩) (QT QQ) (U ⟨#[]⟩) (QT QQ)/\w.ownsRow b 9 1 (Y a s.length cap) s.length (strs s) /\
  st<=2000/\cV f cnt y n (2001 - st) p st l s=Q2/\p<=2000/\l<=200/\s.length<=50/\(∀ x∈s,x.size<=2000)/\2002 - st<=k) ∨
 (∃ at_ sv h c x,∃ st:Nat,Ten w g at_ sv (I J st) h (QT QR) (I J c) (U x) (QT QQ) (U ⟨#[]⟩) (QT QQ)/\Q2=iv c x st) ∨
 (∃ at_ sv h a nm,∃ st:Nat,Ten w g at_ sv (I J st) h (QT QQ) (I J 0) (U ⟨#[]⟩) (QT a) (U nm) (QT QR)/\Q2=pH a nm st)
theorem EW {w:H}{b n cap:Nat}{e:TypeId}{a:Option Addr}{c:List QS}(h:w.ownsRow b e 1 (Y a n cap) n c){k:Nat}(x:k<b)(t o l q g p r i m f:QS):World.ownsRow ((((((((((w.setCell (T k 0 Z) t).setCell (T k 1 Z) o).setCell (T k 2 Z) l).setCell (T k 3 Z) q).setCell (T k 4 Z) g).setCell (T k 5 Z) p).setCell (T k 6 Z) r).setCell (T k 7 Z) i).setCell (T k 8 Z) m).setCell (T k 9 Z) f) b e 1 (Y a n cap) n c:=by have s:∀ {w:H} (j:Nat) (u:QS),w.ownsRow b e 1 (Y a n cap) n c->(w.setCell (T k j Z) u).ownsRow b e 1 (Y a n cap) n c:=fun j u h=>PI h (a:=(T k j Z)) x u;exact s 9 f (s 8 m (s 7 i (s 6 r (s 5 p (s 4 g (s 3 q (s 2 l (s 1 o (s 0 t h)))))))))
theorem nY (c g cnt cap n r:Nat)(G:Option Addr)(f:Nat->Ins)(w:H)(hn:cnt<=1048576)(q:valid f cnt=QR->200<(n:Int))(x:RowIns w c g cnt f)(u:∀ i,i<cnt->(f i).s.size<=maxLen):Calls Tryz.prog 89 #[QV #[Y (N (T c g Z)) cnt cap],Y G n r] w fun e o=>e=QU badT.v/\Below w.heap.size w o:=by
 have D:=ae x;have p:=ae ((((q9 w).alloc ly (Q #[Y (N (T c g Z)) cnt cap] 43))).alloc (by simp) (Q #[QT QQ,I J 0,U ⟨#[]⟩,QT QQ,U ⟨#[]⟩,I J 0] 150));have j:=wu (w.alloc (Q #[Y (N (T c g Z)) cnt cap] 43)) (QT QQ) (I J 0) (U ⟨#[]⟩) (QT QQ) (U ⟨#[]⟩) (I J 0) 150;rw[show(w.alloc (Q #[Y (N (T c g Z)) cnt cap] 43)).heap.size=w.heap.size+1 by simp] at j;have z:=ae j;have t:=fun o h1 h2=>fY c g cnt cap f o hn h1 h2 u;generalize valid f cnt=b at q t;have y:=ae t;have ZB:=ae q;clear j t x u q;go_enter Tryz.func89,Tryz.ntmps89;go_wp2_with fail;have m:=ae (D.below p ly);refine(y _ m.1 m.2).mono ?_;rintro e w1 ⟨rfl,l⟩;have h:=ae (z.below l (by simp));have E:=ae (p.trans (l.mono (by simp;omega)));clear l p z m;obtain⟨v0,B,y0⟩:=h.2 0 (by omega);obtain⟨v1,C,y1⟩:=h.2 1 (by omega);obtain⟨v2,ZA,y2⟩:=h.2 2 (by omega);obtain⟨v3,Q9,y3⟩:=h.2 3 (by omega);obtain⟨v4,F,y4⟩:=h.2 4 (by omega);obtain⟨v5,A,y5⟩:=h.2 5 (by omega);cases b
 all_goals
  (try have hn2:=ZB.out rfl)
  go_wp2;refine bp (v:=badT.v) (by simp[results,Tryz.results89,go_sem,Turn.v,badT,B,C,ZA,Q9,F,A]) rfl ⟨rfl,js E (by omega) _ _ _ _ _ _⟩
theorem vB (o q cnt cap X o2 n QY:Nat)(f:Nat->Ins)(y:Nat->aI)(w:H)(hn:cnt<=1048576)(hv:valid f cnt=QR)(hn2:(n:Int)<=200)(hP:RowIns w o q cnt f)(hY:RowReply w X o2 n y)(hs:∀ i,i<cnt->(f i).s.size<=maxLen)(Q2:Turn)(hT:Q2=if ce y n=QQ then badT else cV f cnt y n 2001 0 0 0 []):Calls Tryz.prog 89 #[QV #[Y (N (T o q Z)) cnt cap],Y (N (T X o2 Z)) n QY] w fun e w'=>e=QU Q2.v/\Below w.heap.size w w':=by
 have HV:=ae (cJ hv).1;have At:cnt<=200:=by have:=(cJ hv).2.2;omega
 have QZ:=ae hY;have Q0:=ae hT;clear hY hT;have HP:=ae hP;have A0:=ae ((((q9 w).alloc ly (Q #[Y (N (T o q Z)) cnt cap] 43))).alloc (by simp) (Q #[QT QQ,I J 0,U ⟨#[]⟩,QT QQ,U ⟨#[]⟩,I J 0] 150));have W:=wu (w.alloc (Q #[Y (N (T o q Z)) cnt cap] 43)) (QT QQ) (I J 0) (U ⟨#[]⟩) (QT QQ) (U ⟨#[]⟩) (I J 0) 150;rw[show(w.alloc (Q #[Y (N (T o q Z)) cnt cap] 43)).heap.size=w.heap.size+1 by simp] at W;have X0:=ae W;have IV:=fun w' h1 h2=>fY o q cnt cap f w' hn h1 h2 hs;rw[hv] at IV;have ur:=ae IV;clear W IV hP hs hv;go_enter Tryz.func89,Tryz.ntmps89;go_wp2_with fail;have P1:=ae (HP.below A0 ly);refine(ur _ P1.1 P1.2).mono ?_;rintro e w1 ⟨rfl,Q9⟩;have c1:w1.cell? (T w.heap.size 0 Z)=N (Y (N (T o q Z)) cnt cap):=(Q9.cell (p:=(T w.heap.size 0 Z)) (by simp;omega)).trans (by simp);have QW:=ae (X0.below Q9 (by simp));have B1:=ae (A0.trans (Q9.mono (by simp;omega)));have z1:w.heap.size+1<w1.heap.size:=QW.1;clear Q9 A0 X0 P1;have ro:=ae (QZ.below B1 ly);go_wp2_with fail;go_loopw [5] (fun i wr=>∃ j:Nat,j<=n/\i=I J j/\Hid (ce y j=QR)/\Below w1.heap.size w1 wr) (fun i _=>n - (intOf i).toNat);case atStart=>exact⟨0,by omega,rfl,rfl,eL _ _⟩
 case round =>
  obtain⟨j,hj,rfl,HK,V⟩:=hrel;have b:=ae (QW.below V QW.1);have C:=ae (B1.trans (V.mono B1.size));have cp:wr.cell? (T w.heap.size 0 Z)=N (Y (N (T o q Z)) cnt cap):=(V.cell (p:=(T w.heap.size 0 Z)) (by simp;omega)).trans c1;have zr:w.heap.size+1<wr.heap.size:=b.1;have aq:=ae V;clear V;by_cases z:j<n
  ·obtain⟨d0,d1,d2⟩:=(QZ.below C ly).2 j z
   obtain⟨v0,ZB,y0⟩:=b.2 0 (by omega);obtain⟨v1,B,y1⟩:=b.2 1 (by omega);obtain⟨v2,ZA,y2⟩:=b.2 2 (by omega);obtain⟨v3,E,y3⟩:=b.2 3 (by omega);obtain⟨v4,G,y4⟩:=b.2 4 (by omega);obtain⟨v5,F,y5⟩:=b.2 5 (by omega);by_cases g1:((y j).text.size:Int)<=2000
   ·by_cases g2:0<=(y j).code
    ·by_cases g3:(y j).code<=7
     ·go_wp2
      refine⟨⟨j+1,by omega,by go_num,?_,?_⟩,by simp[intOf];omega⟩
      ·show ce y (j+1)=QR
       simp only[ce,HK.out,dh,LA,kP];omega
      ·exact aq
     ·go_wp2
      have u:Q2=badT:=by rw[Q0.out,gA (gU z (by simp only[dh,JX];omega))]
      refine bp (v:=badT.v) (by simp[results,Tryz.results89,go_sem,Turn.v,badT,ZB,B,ZA,E,G,F]) rfl ⟨by rw[u],js C (by omega) _ _ _ _ _ _⟩
    ·go_wp2
     have u:Q2=badT:=by rw[Q0.out,gA (gU z (by simp only[dh,JX];omega))]
     refine bp (v:=badT.v) (by simp[results,Tryz.results89,go_sem,Turn.v,badT,ZB,B,ZA,E,G,F]) rfl ⟨by rw[u],js C (by omega) _ _ _ _ _ _⟩
   ·go_wp2
    have u:Q2=badT:=by rw[Q0.out,gA (gU z (by simp only[dh,JX];omega))]
    refine bp (v:=badT.v) (by simp[results,Tryz.results89,go_sem,Turn.v,badT,ZB,B,ZA,E,G,F]) rfl ⟨by rw[u],js C (by omega) _ _ _ _ _ _⟩
  ·have e:j=n:=by omega
   subst e;have u:Q2=cV f cnt y j 2001 0 0 0 []:=by rw[Q0.out,eI (by simp[HK.out])]
   have ET:=ae u;clear u Q0 ro;have RN:=ae (kU wr (I J 0) (Y Z 0 0) (I J 0) (I J 0) (QT QQ) (I J 0) (U ⟨#[]⟩) (QT QQ) (U ⟨#[]⟩) (QT QQ) 216 wr.heap.size rfl);have A2:=ae ((q9 wr).alloc ly (Q #[I J 0,Y Z 0 0,I J 0,I J 0,QT QQ,I J 0,U ⟨#[]⟩,QT QQ,U ⟨#[]⟩,QT QQ] 216));have XN:=ae (b.below A2 b.1);have QX:=ae (C.trans (A2.mono C.size));have cN:=(A2.cell (p:=(T w.heap.size 0 Z)) (by simp;omega)).trans cp;have L:wr.heap.size<(wr.alloc (Q #[I J 0,Y Z 0 0,I J 0,I J 0,QT QQ,I J 0,U ⟨#[]⟩,QT QQ,U ⟨#[]⟩,QT QQ] 216)).heap.size:=by simp
   go_wp2_with fail;clear c1 cp;generalize wr.alloc (Q #[I J 0,Y Z 0 0,I J 0,I J 0,QT QQ,I J 0,U ⟨#[]⟩,QT QQ,U ⟨#[]⟩,QT QQ] 216)=S at RN XN QX cN L ⊢;generalize wr.heap.size=rb at RN zr L ⊢;have n8:X<rb:=lj QZ.1 (by omega);have th:o<rb:=lj HP.1 (by omega);have S0:Hid (wB S rb S.heap.size f cnt y j Q2 2002):=.inl ⟨0,0,0,[],Z,0,RN,CP _ _ _ _,by omega,ET.symm,by omega,by omega,by simp,by simp,by omega⟩;have PN:=ae (HP.below QX ly);have YN:=ae (QZ.below QX ly);clear RN ET b C aq z QW B1 HP QZ;go_loopg [] 2002 (fun g wr=>wB wr rb S.heap.size f cnt y j Q2 g/\Only rb S wr);case atStart=>exact⟨S0,Only.refl _ _⟩
   case round =>
    obtain⟨ph,D⟩:=hrel;have HO:=ae D;have cw:wr.cell? (T w.heap.size 0 Z)=N (Y (N (T o q Z)) cnt cap):=(D.cell w.heap.size 0 (by omega) (by omega)).trans cN;have fd:rb<wr.heap.size:=lj L D.size;have la:=ae (D.below (j5 rb) (QD L));have BW:=ae (QX.trans (D.below (show w.heap.size<=rb by omega) (by omega)));have m:=ae (XN.only D (by omega));have zw:w.heap.size+1<wr.heap.size:=m.1;clear D;rcases ph with ⟨p,st,l,s,a,mv,h,O,k1,k2,k3,k4,k5,k6,k7⟩ | ⟨at_,sv,lk,c,x,st,h,r⟩ | ⟨at_,sv,lk,a,nm,st,h,r⟩
    ·have sm:=ae h
     have OW:=ae O;have n9:=ae (EV k1 k4 k5 k6 HV At HK k2);have K6:=ae k6;have PW:Hid (RowIns wr o q cnt f):=⟨lj PN.1 HO.size,fun i hi=>(PN.2 i hi).below la th⟩
     have YW:Hid (RowReply wr X o2 j y):=⟨lj YN.1 HO.size,fun i hi=>(YN.2 i hi).below la n8⟩
     obtain⟨R,⟨c0,f0⟩,⟨c1,f1⟩,⟨c2,f2⟩,⟨c3,f3⟩,⟨c4,f4⟩,⟨c5,f5⟩,⟨c6,f6⟩,⟨c7,f7⟩,⟨c8,f8⟩,c9,f9⟩:=h;clear O k2 k6;go_wp2_with fail;refine(yd o q cnt cap p st l f a s mv X o2 j QY S.heap.size y _ PW YW OW k3 k1 k4 k5 K6 HV).mono ?_;rintro e w3 ⟨v,rfl,K,P⟩;have M:=ae (sm.below P fd);have O3:=ae (HO.bel P);clear R c0 f0 c1 f1 c2 f2 c3 f3 c4 f4 c5 f5 c6 f6 c7 f7 c8 f8 c9 f9;clear P;have t:=n9.out;obtain⟨g,rfl⟩:∃ g,gk=g+1:=⟨gk - 1,by omega⟩
     generalize fW f cnt y j p st l s=so at K t;rcases so with ⟨p',qr,l',s'⟩ | ⟨c,x,k⟩ | ⟨a1,nm,k⟩
     ·obtain⟨a',c',rfl,ld⟩:=K
      obtain⟨m1,m2,m3,m4,m5,m6,m7⟩:=t;have OE:=ae ld;have M3:=ae m3;have M7:=ae m7;have M1:=ae m1;clear ld m3 m7 m1;obtain⟨bt,⟨e0,u0⟩,⟨e1,u1⟩,⟨e2,u2⟩,⟨e3,u3⟩,⟨e4,u4⟩,⟨e5,u5⟩,⟨e6,u6⟩,⟨e7,u7⟩,⟨e8,u8⟩,e9,u9⟩:=M.out;go_wp2;go_roundg g;case measure=>omega
      case rel=>exact⟨.inl ⟨p',qr,l',s',a',c',M.put _ _ _ _ _ _ _ _ _ _,aE (EW OE fd _ _ _ _ _ _ _ _ _ _) HO.size,m2,M3,m4,m5,m6,M7,by have:=M1.out;omega⟩,oL O3 _ _ _ _ _ _ _ _ _ _⟩
     ·obtain⟨at_,a',n',c',lk,rfl⟩:=K
      have r:Q2=iv c x k:=t;have A:=ae r;clear r t;obtain⟨bt,⟨e0,u0⟩,⟨e1,u1⟩,⟨e2,u2⟩,⟨e3,u3⟩,⟨e4,u4⟩,⟨e5,u5⟩,⟨e6,u6⟩,⟨e7,u7⟩,⟨e8,u8⟩,e9,u9⟩:=M.out;go_wp2;go_roundg g;case measure=>omega
      case rel=>exact⟨.inr (.inl ⟨_,_,_,_,_,_,M.put _ _ _ _ _ _ _ _ _ _,A⟩),oL O3 _ _ _ _ _ _ _ _ _ _⟩
     ·obtain⟨at_,a',n',c',lk,rfl⟩:=K
      have r:Q2=pH a1 nm k:=t;have A:=ae r;clear r t;obtain⟨bt,⟨e0,u0⟩,⟨e1,u1⟩,⟨e2,u2⟩,⟨e3,u3⟩,⟨e4,u4⟩,⟨e5,u5⟩,⟨e6,u6⟩,⟨e7,u7⟩,⟨e8,u8⟩,e9,u9⟩:=M.out;go_wp2;go_roundg g;case measure=>omega
      case rel=>exact⟨.inr (.inr ⟨_,_,_,_,_,_,M.put _ _ _ _ _ _ _ _ _ _,A⟩),oL O3 _ _ _ _ _ _ _ _ _ _⟩
    ·have A:=ae r
     obtain⟨R,⟨c0,f0⟩,⟨c1,f1⟩,⟨c2,f2⟩,⟨c3,f3⟩,⟨c4,f4⟩,⟨c5,f5⟩,⟨c6,f6⟩,⟨c7,f7⟩,⟨c8,f8⟩,c9,f9⟩:=h;obtain⟨v0,ZB,y0⟩:=m.2 0 (by omega);obtain⟨v1,B,y1⟩:=m.2 1 (by omega);obtain⟨v2,ZA,y2⟩:=m.2 2 (by omega);obtain⟨v3,E,y3⟩:=m.2 3 (by omega);obtain⟨v4,G,y4⟩:=m.2 4 (by omega);obtain⟨v5,F,y5⟩:=m.2 5 (by omega);clear r;go_wp2;refine bp (v:=Q2.v) (by rw[A.out];simp[results,Tryz.results89,go_sem,Turn.v,iv,ZB,B,ZA,E,G,F]) rfl ⟨rfl,js BW (by omega) _ _ _ _ _ _⟩
    ·have A:=ae r
     obtain⟨R,⟨c0,f0⟩,⟨c1,f1⟩,⟨c2,f2⟩,⟨c3,f3⟩,⟨c4,f4⟩,⟨c5,f5⟩,⟨c6,f6⟩,⟨c7,f7⟩,⟨c8,f8⟩,c9,f9⟩:=h;obtain⟨v0,ZB,y0⟩:=m.2 0 (by omega);obtain⟨v1,B,y1⟩:=m.2 1 (by omega);obtain⟨v2,ZA,y2⟩:=m.2 2 (by omega);obtain⟨v3,E,y3⟩:=m.2 3 (by omega);obtain⟨v4,G,y4⟩:=m.2 4 (by omega);obtain⟨v5,F,y5⟩:=m.2 5 (by omega);clear r;go_wp2;refine bp (v:=Q2.v) (by rw[A.out];simp[results,Tryz.results89,go_sem,Turn.v,pH,ZB,B,ZA,E,G,F]) rfl ⟨rfl,js BW (by omega) _ _ _ _ _ _⟩
theorem tV (c g cnt cap l j n b:Nat)(f:Nat->Ins)(y:Nat->aI)(w:H)(hn:cnt<=1048576)(o:RowIns w c g cnt f)(q:RowReply w l j n y)(m:∀ i,i<cnt->(f i).s.size<=maxLen):Calls Tryz.prog 89 #[QV #[Y (N (T c g Z)) cnt cap],Y (N (T l j Z)) n b] w fun e r=>e=QU (sE f cnt y n).v/\Below w.heap.size w r:=by
 unfold sE;by_cases h1:valid f cnt=QQ
 ·rw[gA h1]
  exact nY c g cnt cap n b _ f w hn (fun h=>absurd (h1.symm.trans h) (by simp)) o m
 ·have p:valid f cnt=QR:=by simpa using h1
  rw[eI h1];by_cases h2:200<n
  ·rw[gA h2]
   exact nY c g cnt cap n b _ f w hn (fun _=>by omega) o m
  ·rw[eI h2]
   exact vB c g cnt cap l j n b f y w hn p (by omega) o q m _ rfl
end Go.Proofs.YtamacmnikdejeaaGreatDoor.Vp
