import Derived.Test.YtamacmnikdejeaaGreatDoorRQ
import Derived.Deep.CutBlock
set_option maxRecDepth 1000000
set_option maxHeartbeats 8000000
open Go.Addr renaming mk->N
open Go.Value renaming slice->Y,string->U,int->J,bool->QC,agg->QG
open Option renaming none->Z,some->T
open Go.Obj renaming cells->Q
open Go.IntKind renaming i64->I
open Go renaming World->G,Value->QE
open Bool renaming false->QB,true->QD
open Go.Ending renaming returned->QF
namespace Go.Proofs.YtamacmnikdejeaaGreatDoor.Vp
open RowKit
theorem xf (pb po cnt ex place steps looks:Nat)(f:Nat->Ins)(a:Option Addr)(s:List ByteArray)(cap b2 o2 n E9 th:Nat)(y:Nat->aC)(w:G)
  (hP:RowIns w pb po cnt f) (hY:RowReply w b2 o2 n y) (hO:w.ownsRow th 9 1 (Y a s.length cap) s.length (strs s)) (hp:place<=2000) (hst:steps<=2000) (hlk:looks<=200) (hs:s.length<=50) (Fl:∀ x∈s,x.size<=2000) (Fj:cQ f cnt=QD) :
  Calls Tryz.prog 140 #[QG #[Y (T (N pb po Z)) cnt ex],dP place (Y a s.length cap) steps looks QB 0 ⟨#[]⟩ QB ⟨#[]⟩ QB,Y (T (N b2 o2 Z)) n E9] w fun e w'=>∃ v,e=QF v/\SoIs w' w.heap.size v (fF f cnt y n place steps looks s)/\Below w.heap.size w w':=by
 obtain⟨so,mv⟩:∃ so,so=fF f cnt y n place steps looks s:=⟨_,rfl⟩
 rw[<-mv];have S0:=ae mv;clear mv;have HP:=ae hP;have HY:=ae hY;have HO:=ae hO;have HK:=ae Fj;have HL:=ae Fl;clear hP hY hO Fj Fl;have A0:=ae ((((q9 w).alloc ly (Q #[Y (T (N pb po Z)) cnt ex] 43)).alloc (by simp) (Q #[J I place,Y a s.length cap,J I steps,J I looks,QC QB,J I 0,U ⟨#[]⟩,QC QB,U ⟨#[]⟩,QC QB] 216)).alloc (by simp<;>omega) (Q #[J I 0,Y Z 0 0,J I 0,J I 0,QC QB,J I 0,U ⟨#[]⟩,QC QB,U ⟨#[]⟩,QC QB] 216));have R0:=ae ((j9 (w.alloc (Q #[Y (T (N pb po Z)) cnt ex] 43)) (J I place) (Y a s.length cap) (J I steps) (J I looks) (QC QB) (J I 0) (U ⟨#[]⟩) (QC QB) (U ⟨#[]⟩) (QC QB) 216 (w.heap.size+1) (by simp)).al (Q #[J I 0,Y Z 0 0,J I 0,J I 0,QC QB,J I 0,U ⟨#[]⟩,QC QB,U ⟨#[]⟩,QC QB] 216));have Z0:=ae (j9 ((w.alloc (Q #[Y (T (N pb po Z)) cnt ex] 43)).alloc (Q #[J I place,Y a s.length cap,J I steps,J I looks,QC QB,J I 0,U ⟨#[]⟩,QC QB,U ⟨#[]⟩,QC QB] 216)) (J I 0) (Y Z 0 0) (J I 0) (J I 0) (QC QB) (J I 0) (U ⟨#[]⟩) (QC QB) (U ⟨#[]⟩) (QC QB) 216 (w.heap.size+1+1) (by simp));go_enter Tryz.func140,Tryz.ntmps140;go_wp2_with fail;refine(qA place (by omega) _).mono ?_;rintro e l ⟨rfl,aq⟩;have hD:(⟨(Lib.decDigits place).toArray⟩:ByteArray)=dK place:=rfl;rw[hD];have R1:=ae (R0.below aq (by simp<;>omega));have Z1:=ae (Z0.below aq (by simp<;>omega));have B1:=ae (A0.trans (aq.mono (by simp<;>omega)));have pP:l.cell? (N w.heap.size 0 Z)=T (Y (T (N pb po Z)) cnt ex):=(aq.cell (p:=(N w.heap.size 0 Z)) (by simp<;>omega)).trans (Ef _ _ _ _ _ _ _ rfl);have O1:=ae (own_below HO B1 ly);have hz1:w.heap.size+1+1<l.heap.size:=Z1.1;have hz0:w.heap.size<l.heap.size:=by omega
 have hz01:w.heap.size+1<l.heap.size:=by omega
 clear aq A0 R0 Z0 hD;obtain⟨m,⟨c0,f0⟩,⟨c1,f1⟩,⟨c2,P⟩,⟨c3,QH⟩,⟨c4,R⟩,⟨c5,QJ⟩,⟨c6,V⟩,⟨S,QK⟩,⟨K,X⟩,QL,f9⟩:=R1.out;rcases Int.lt_or_le (place:Int) cnt with h1 | h1;rotate_left
 ·have S1:Hid (so=.inr (.inl (2,(dK place),steps))):=S0.trans (show fF f cnt y n place steps looks s=.inr (.inl (2,(dK place),steps)) by have h:cnt<=place:=(by omega);simp[fF,gF,bG,cE,h])
  go_wp2_with fail;refine(fl _ _ _ _ _ _ _ _ _ _ _ _ _ _ _).mono ?_;rintro e w5 ⟨rfl,b⟩;have QM:=ae (Z1.below b Z1.1);have D:=ae (B1.trans (b.mono B1.size));clear b;clear m c0 f0 c1 f1 c2 P c3 QH c4 R c5 QJ c6 V S QK K X QL f9;obtain⟨fd,⟨z0,y0⟩,⟨z1,y1⟩,⟨z2,y2⟩,⟨z3,y3⟩,⟨QO,y4⟩,⟨O,y5⟩,⟨QN,y6⟩,⟨QP,y7⟩,⟨M,y8⟩,L,y9⟩:=QM.out;go_wp2;refine bp (v:=dP place (Y a s.length cap) steps looks QD 2 (dK place) QB ⟨#[]⟩ QB) (by simp[results,Tryz.results140,go_sem,z0,z1,z2,z3,QO,O,QN,QP,M,L]) rfl ⟨_,rfl,(by rw[S1.out];exact⟨_,_,_,_,_,rfl⟩),dH D (by omega) _ _ _ _ _ _ _ _ _ _⟩
 rcases Bool.eq_false_or_eq_true ((steps:Int) == 2000) with h2 | h2
 ·have S1:Hid (so=.inr (.inl (3,⟨#[]⟩,steps))):=S0.trans (show fF f cnt y n place steps looks s=.inr (.inl (3,⟨#[]⟩,steps)) by have h:¬ cnt<=place:=(by omega);have e:steps=2000:=(by simp at h2;omega);simp[fF,gF,bG,cE,h,e])
  go_wp2_with fail;refine(fl _ _ _ _ _ _ _ _ _ _ _ _ _ _ _).mono ?_;rintro e w5 ⟨rfl,b⟩;have QM:=ae (Z1.below b Z1.1);have D:=ae (B1.trans (b.mono B1.size));clear b;clear m c0 f0 c1 f1 c2 P c3 QH c4 R c5 QJ c6 V S QK K X QL f9;obtain⟨fd,⟨z0,y0⟩,⟨z1,y1⟩,⟨z2,y2⟩,⟨z3,y3⟩,⟨QO,y4⟩,⟨O,y5⟩,⟨QN,y6⟩,⟨QP,y7⟩,⟨M,y8⟩,L,y9⟩:=QM.out;go_wp2;refine bp (v:=dP place (Y a s.length cap) steps looks QD 3 ⟨#[]⟩ QB ⟨#[]⟩ QB) (by simp[results,Tryz.results140,go_sem,z0,z1,z2,z3,QO,O,QN,QP,M,L]) rfl ⟨_,rfl,(by rw[S1.out];exact⟨_,_,_,_,_,rfl⟩),dH D (by omega) _ _ _ _ _ _ _ _ _ _⟩
 have hi:=js HK.out (show place<cnt by omega);simp only[cy,j5] at hi;obtain⟨op,DS⟩:=nX (show 0<=(f place).op by omega);obtain⟨k,hk⟩:=nX hi.2.2.2.1;have FJ:dM (f place).op<=2000:=by unfold dM;split<;>(try split)<;>omega
 have Fy:bP (f place).op<=2000:=by unfold bP;split<;>omega
 have F0:k<=2000:=by omega
 have FH:(f place).s.size<=2000:=by omega
 have qr:1<=op:=by omega
 have Fp:op<=15:=by omega
 have EP:Hid (so=if eF op s=QB then .inr (.inl (2,(dK place),(steps+1))) else gF y n place (steps+1) looks (cu op k (f place).s place looks s)):=by
  show _=_;rw[S0.out];have q1:¬ cnt<=place:=by omega
  have q2:¬ steps=2000:=by simp at h2;omega
  simp only[fF,bG,cE,q1,q2,L9,DS,hk,Int.toNat_natCast];split<;>rfl
 clear hi FJ Fy HK;obtain⟨d0,d1,d2⟩:=(HP.below B1 ly).2 place (by omega);rw[DS] at d0;rw[hk] at d2;have hpb:pb<w.heap.size:=HP.1;have FX:=(cell_far l (N (w.heap.size+1) 2 Z) (N pb (po+place*3) Z) (J I ((steps:Int)+1)) (by simp;omega)).trans d0;have FG:=(cell_far l (N (w.heap.size+1) 2 Z) (N pb (po+place*3+1) Z) (J I ((steps:Int)+1)) (by simp;omega)).trans d1;have FD:=(cell_far l (N (w.heap.size+1) 2 Z) (N pb (po+place*3+2) Z) (J I ((steps:Int)+1)) (by simp;omega)).trans d2;have Fq:∀ j,w.heap.size<=j->Value.ownBlock (Y a s.length cap)≠T j:=fun j hj e=>by have:=(HO.lt j e).2;omega
 have R2:=ae ((R1.set2 (J I ((steps:Int)+1))).al (Q #[J I op,U (f place).s,J I k] 146));have Z2:=ae ((Z1.other (N (w.heap.size+1) 2 Z) (J I ((steps:Int)+1)) (by simp)).al (Q #[J I op,U (f place).s,J I k] 146));have O2:=ae ((MK O1 (a:=(N (w.heap.size+1) 2 Z)) (Fq _ (by simp)) (J I ((steps:Int)+1))).alloc (Q #[J I op,U (f place).s,J I k] 146));have B2:=ae ((B1.setCell (p:=(N (w.heap.size+1) 2 Z)) (by simp) (J I ((steps:Int)+1))).alloc (by have:=B1.size;simpa using this) (Q #[J I op,U (f place).s,J I k] 146));have g0:((l.setCell (N (w.heap.size+1) 2 Z) (J I ((steps:Int)+1))).alloc (Q #[J I op,U (f place).s,J I k] 146)).cell? (N l.heap.size 0 Z)=T (J I op):=jK _ _ _ _ _ _ (by simp) rfl;have g1:((l.setCell (N (w.heap.size+1) 2 Z) (J I ((steps:Int)+1))).alloc (Q #[J I op,U (f place).s,J I k] 146)).cell? (N l.heap.size 1 Z)=T (U (f place).s):=jK _ _ _ _ _ _ (by simp) rfl;have g2:((l.setCell (N (w.heap.size+1) 2 Z) (J I ((steps:Int)+1))).alloc (Q #[J I op,U (f place).s,J I k] 146)).cell? (N l.heap.size 2 Z)=T (J I k):=jK _ _ _ _ _ _ (by simp) rfl;have la:l.heap.size<((l.setCell (N (w.heap.size+1) 2 Z) (J I ((steps:Int)+1))).alloc (Q #[J I op,U (f place).s,J I k] 146)).heap.size:=by simp
 clear Fq;go_wp2_with fail;refine(uA op _ qr Fp).mono ?_;rintro e w9 ⟨rfl,FQ⟩;subst FQ;clear m c0 f0 c1 f1 c2 P c3 QH c4 R c5 QJ c6 V S QK K X QL f9;clear d0 d1 d2 FX FG FD DS hk pP;generalize ((l.setCell (N (w.heap.size+1) 2 Z) (J I ((steps:Int)+1))).alloc (Q #[J I op,U (f place).s,J I k] 146))=W at R2 Z2 O2 B2 g0 g1 g2 la ⊢;obtain⟨m,⟨c0,f0⟩,⟨c1,f1⟩,⟨c2,P⟩,⟨c3,QH⟩,⟨c4,R⟩,⟨c5,QJ⟩,⟨c6,V⟩,⟨S,QK⟩,⟨K,X⟩,QL,f9⟩:=R2.out;have hpt:=Aq op;have FC:aT op<=2:=by unfold aT;split<;>(try split)<;>omega
 by_cases hb:eF op s=QB
 ·have S1:Hid (so=.inr (.inl (2,(dK place),(steps+1)))):=by rw[EP.out,gM hb];rfl
  have hA:(s.length:Int)<(aT op:Nat)∨¬ (s.length:Int)<(aT op:Nat)/\(50:Int)<(s.length:Int) - (aT op:Nat)+(bF op:Nat):=by simp only[eF,IT] at hb;omega
  clear hb EP;rcases hA with hA | ⟨hA,Fo⟩
  iterate 2
   ·go_wp2_with fail
    refine(fl _ _ _ _ _ _ _ _ _ _ _ _ _ _ _).mono ?_;rintro e w5 ⟨rfl,b⟩;have QM:=ae (Z2.below b Z2.1);have D:=ae (B2.trans (b.mono B2.size));clear b;clear m c0 f0 c1 f1 c2 P c3 QH c4 R c5 QJ c6 V S QK K X QL f9;obtain⟨fd,⟨z0,y0⟩,⟨z1,y1⟩,⟨z2,y2⟩,⟨z3,y3⟩,⟨QO,y4⟩,⟨O,y5⟩,⟨QN,y6⟩,⟨QP,y7⟩,⟨M,y8⟩,L,y9⟩:=QM.out;go_wp2;refine bp (v:=dP place (Y a s.length cap) ((steps:Int)+1) looks QD 2 (dK place) QB ⟨#[]⟩ QB) (by simp[results,Tryz.results140,go_sem,z0,z1,z2,z3,QO,O,QN,QP,M,L]) rfl ⟨_,rfl,(by rw[S1.out];exact⟨_,_,_,_,_,rfl⟩),dH D (by omega) _ _ _ _ _ _ _ _ _ _⟩
 have Ft:aT op<=s.length/\s.length - aT op+bF op<=50:=by simpa[eF] using hb
 have hA:¬ (s.length:Int)<(aT op:Nat):=by omega
 have Fo:¬ (50:Int)<(s.length:Int) - (aT op:Nat)+(bF op:Nat):=by omega
 have SO:Hid (so=gF y n place (steps+1) looks (cu op k (f place).s place looks s)):=by rw[EP.out,cM hb];rfl
 have HB:=ae Ft.1;have Fz:(s.drop (aT op)).length+bF op<=50:=by rw[IM];omega
 clear hb Ft EP;obtain⟨A,Fu⟩:∃ A,A=kQ op s:=⟨_,rfl⟩
 obtain⟨B,aq⟩:∃ B,B=pV op s:=⟨_,rfl⟩
 obtain⟨r,n6⟩:∃ r,r=s.drop (aT op):=⟨_,rfl⟩
 rw[<-n6] at Fz;have EA:=ae Fu;have EB:=ae aq;have ER:=ae n6;clear S0 Fu aq n6;go_upto_if 68 with fail;go_cut [11] (fun sa H=>sa=U A/\W=H);case first =>
  by_cases ht:(0:Int)<(aT op:Nat)
  ·rcases s with _ | ⟨x,q⟩
   ·exact absurd HB.out (by simp;omega)
   ·obtain⟨g,c,e⟩:=iX O2 (by simp)
    obtain⟨rfl,-⟩:=KI e;have t1:=CN O2.out;have F1:q.length<=50:=by simp at hs;omega
    obtain rfl:A=x:=by rw[EA.out];unfold kQ;rw[gM (by omega)];rfl
    rw[nD] at c1;go_wp2;go_meet;exact⟨rfl,rfl⟩
  ·obtain rfl:A=⟨#[]⟩:=by rw[EA.out];unfold kQ;rw[cM (by omega)]
   go_wp2;go_meet;exact⟨rfl,rfl⟩
 case rest =>
 obtain⟨rfl,rfl⟩:=hcut;go_upto_if 78 with fail;go_cut [12] (fun sa H=>sa=U B/\W=H);case first =>
  by_cases ht:(1:Int)<(aT op:Nat)
  ·rcases s with _ | ⟨x,_ | ⟨z,q⟩⟩
   ·exact absurd HB.out (by simp;omega)
   ·exact absurd HB.out (by simp;omega)
   ·obtain⟨g,c,e⟩:=iX O2 (by simp)
    obtain⟨rfl,-⟩:=KI e;obtain⟨t1,t2⟩:=CO O2;have F1:q.length+1<=50:=by simp at hs;omega
    obtain rfl:B=z:=by rw[EB.out];unfold pV;rw[gM (by omega)];rfl
    rw[nD,nD] at c1;go_wp2;go_meet;exact⟨rfl,rfl⟩
  ·obtain rfl:B=⟨#[]⟩:=by rw[EB.out];unfold pV;rw[cM (by omega)]
   go_wp2;go_meet;exact⟨rfl,rfl⟩
 case rest =>
 obtain⟨rfl,rfl⟩:=hcut;have hl:s.length=r.length+aT op:=by rw[ER.out,IM];have:=HB.out;omega
 go_upto_region 17 with fail;go_cut [13] (fun sr H=>∃ gr cr,sr=Y (T (N gr 0 Z)) r.length cr/\W.heap.size<=gr/\Hid (H.ownsRow W.heap.size 9 1 (Y (T (N gr 0 Z)) r.length cr) r.length (strs r))/\Hid (Below W.heap.size W H));case first =>
  rcases yv O2.out with ⟨rfl,hz,rfl⟩ | ⟨g,rfl⟩
  ·obtain rfl:s=[]:=L8.1 hz
   obtain rfl:r=[]:=by rw[ER.out];simp
   have Fs:aT op=0:=by simpa using HB.out
   have h0:((aT op:Nat):Int)=0:=by rw[Fs];rfl
   have hw3:-((aT op:Nat):Int)=0:=by rw[h0];decide
   have hw4:0 - ((aT op:Nat):Int)=0:=by rw[h0];decide
   clear h0 Fs hl;have AL:=ae ((q9 W).alloc ly (Q #[] 9));have OM:=ae (I7 (base:=W.heap.size) (e:=9) (size:=1) W #[] 0 ly (by unfold maxLen;omega) rfl);go_wp2;go_meet;exact⟨_,_,rfl,j6 _,OM,AL⟩
  ·have hcap:(r.length:Int)<=cap:=by have:=CP O2.out;omega
   have Fx:Hid (∀ j u,(strs r)[j]?=T u->(W.alloc (Q #[] 9)).cell? (((N g 0 Z):Addr).add j)=T u):=CQ (xs:=strs (s.take (aT op))) (by
    have h:=O2.alloc (Q #[] 9);rw[ER.out,<-Au,J9]
    exact h)
   obtain⟨t,ht⟩:∃ t,t=aT op:=⟨_,rfl⟩
   rw[<-ht] at hl FC ⊢;rw[hl] at c1 hs;have HS:=ae hs;have HL:=ae hl;clear hs hl;obtain⟨Fe,hi,Fg,Fa,Fh⟩:=IL fW;go_wp2_with (at_builtin;refine CW _ rfl (.tmp 87) (.tmp 95) 35 rfl W.heap.size 9 Fe (U ⟨#[]⟩) 1 16 Tryz.underlying35 hi Fg Fa Fh rfl (by decide) (Y (T (N W.heap.size 0 Z)) 0 0) 0 [] (by simp[Act.eval]) (I7 W #[] 0 ly (by unfold maxLen;omega) rfl) (N g 0 Z) r.length cap (strs r) (by simp[Act.eval]) (by simp[strs]) Fx.out (Ap _) (by unfold maxLen;omega) (by omega) (by simp) ?_;intro v' w2 n9 At Fd;simp only[D0,IN] at n9;obtain⟨gr,cr,rfl,Fi⟩:=qK n9 (fun e=>by simpa using Fd.1 e);have B3:=ae (bg ((q9 W).alloc ly (Q #[] 9)) At (by simp) (fun j e=>by simp[Value.ownBlock] at e;omega));have DE:=ae n9;clear n9 At Fd);go_meet;exact⟨gr,cr,rfl,Fi,DE,B3⟩
 case rest =>
 clear hl hA Fo;obtain⟨gr,cr,rfl,Fi,DE,B3⟩:=hcut;have DQ:w.heap.size<=W.heap.size:=B2.size;have n6:w.heap.size+1<W.heap.size:=R2.1;have CD:w.heap.size+1+1<W.heap.size:=Z2.1;have Fb:w.heap.size+1≠gr:=by omega
 have FY:W.heap.size<=wc.heap.size:=B3.size;clear m c0 f0 c1 f1 c2 P c3 QH c4 R c5 QJ c6 V S QK K X QL f9;have R3:=ae (R2.below B3 R2.1);have Z3:=ae (Z2.below B3 Z2.1);have G0:=(B3.cell (p:=(N l.heap.size 0 Z)) la).trans g0;have G1:=(B3.cell (p:=(N l.heap.size 1 Z)) la).trans g1;have G2:=(B3.cell (p:=(N l.heap.size 2 Z)) la).trans g2;have R4:=ae (R3.set0 (J I ((place:Int)+1)));have Z4:=ae (Z3.other (N (w.heap.size+1) 0 Z) (J I ((place:Int)+1)) (by simp));have B4:=ae ((B2.trans (B3.mono B2.size)).setCell (p:=(N (w.heap.size+1) 0 Z)) (by simp) (J I ((place:Int)+1)));have O4:=ae (dI DE Fb (J I ((place:Int)+1)) 0);have H0:=(cell_far _ (N (w.heap.size+1) 0 Z) (N l.heap.size 0 Z) (J I ((place:Int)+1)) (by simp;omega)).trans G0;have H1:=(cell_far _ (N (w.heap.size+1) 0 Z) (N l.heap.size 1 Z) (J I ((place:Int)+1)) (by simp;omega)).trans G1;have H2:=(cell_far _ (N (w.heap.size+1) 0 Z) (N l.heap.size 2 Z) (J I ((place:Int)+1)) (by simp;omega)).trans G2;have bt:W.heap.size<=(wc.setCell (N (w.heap.size+1) 0 Z) (J I ((place:Int)+1))).heap.size:=by simpa using FY
 obtain⟨F7,⟨e0,v0⟩,⟨e1,v1⟩,⟨e2,v2⟩,⟨e3,v3⟩,⟨e4,v4⟩,⟨e5,v5⟩,⟨e6,v6⟩,⟨e7,v7⟩,⟨e8,v8⟩,e9,v9⟩:=R3.out;go_upto_block 0 with fail;clear F7 e0 v0 e1 v1 e2 v2 e3 v3 e4 v4 e5 v5 e6 v6 e7 v7 e8 v8 e9 v9;clear g0 g1 g2 G0 G1 G2 B3 R3 Z3 DE R2 Z2 O2;generalize wc.setCell (N (w.heap.size+1) 0 Z) (J I ((place:Int)+1))=W5 at R4 Z4 B4 O4 H0 H1 H2 bt ⊢;obtain⟨FP,FO⟩:A.size<=2000/\B.size<=2000:=by rw[EA.out,EB.out];exact tp HL op
 obtain⟨C,Fm⟩:∃ C,C=mh op k A place:=⟨_,rfl⟩
 have ro:=ae Fm;clear Fm;go_cut [] (fun H=>op<=11/\Hid (Ten H (w.heap.size+1) (J I C) (Y a s.length cap) (J I ((steps:Int)+1)) (J I looks) (QC QB) (J I 0) (U ⟨#[]⟩) (QC QB) (U ⟨#[]⟩) (QC QB))/\Hid (Ten H (w.heap.size+1+1) (J I 0) (Y Z 0 0) (J I 0) (J I 0) (QC QB) (J I 0) (U ⟨#[]⟩) (QC QB) (U ⟨#[]⟩) (QC QB))/\Hid (Below w.heap.size w H)/\Hid (H.ownsRow W.heap.size 9 1 (Y (T (N gr 0 Z)) r.length cr) r.length (strs r))/\H.cell? (N l.heap.size 0 Z)=T (J I op)/\H.cell? (N l.heap.size 1 Z)=T (U (f place).s)/\H.cell? (N l.heap.size 2 Z)=T (J I k)/\W.heap.size<=H.heap.size);case first =>
  obtain⟨m,⟨c0,f0⟩,⟨c1,f1⟩,⟨c2,P⟩,⟨c3,QH⟩,⟨c4,R⟩,⟨c5,QJ⟩,⟨c6,V⟩,⟨S,QK⟩,⟨K,X⟩,QL,f9⟩:=R4.out;rcases CX op A Fp with rfl | rfl | rfl | rfl | rfl | ⟨rfl,q1⟩ | ⟨rfl,q1,q2⟩ | ⟨rfl,q1,q2⟩ | h9
  ·go_wp2_with fail
   refine(fl _ _ _ _ _ _ _ _ _ _ _ _ _ _ _).mono ?_;rintro e w5 ⟨rfl,b⟩;have QM:=ae (Z4.below b Z4.1);have D:=ae (B4.trans (b.mono B4.size));clear b;clear m c0 f0 c1 f1 c2 P c3 QH c4 R c5 QJ c6 V S QK K X QL f9;obtain⟨fd,⟨z0,y0⟩,⟨z1,y1⟩,⟨z2,y2⟩,⟨z3,y3⟩,⟨QO,y4⟩,⟨O,y5⟩,⟨QN,y6⟩,⟨QP,y7⟩,⟨M,y8⟩,L,y9⟩:=QM.out;go_wp2;refine bp (v:=dP ((place:Int)+1) (Y a s.length cap) ((steps:Int)+1) looks QD 0 A QB ⟨#[]⟩ QB) (by simp[results,Tryz.results140,go_sem,z0,z1,z2,z3,QO,O,QN,QP,M,L]) rfl ⟨_,rfl,(by rw[SO.out,vm _ _ _ _ _ _ _ _ _ (by simp) HB.out,<-EA.out];exact⟨_,_,_,_,_,rfl⟩),dH D (by omega) _ _ _ _ _ _ _ _ _ _⟩
  ·go_wp2_with fail
   refine(fl _ _ _ _ _ _ _ _ _ _ _ _ _ _ _).mono ?_;rintro e w5 ⟨rfl,b⟩;have QM:=ae (Z4.below b Z4.1);have D:=ae (B4.trans (b.mono B4.size));clear b;clear m c0 f0 c1 f1 c2 P c3 QH c4 R c5 QJ c6 V S QK K X QL f9;obtain⟨fd,⟨z0,y0⟩,⟨z1,y1⟩,⟨z2,y2⟩,⟨z3,y3⟩,⟨QO,y4⟩,⟨O,y5⟩,⟨QN,y6⟩,⟨QP,y7⟩,⟨M,y8⟩,L,y9⟩:=QM.out;go_wp2;refine bp (v:=dP ((place:Int)+1) (Y a s.length cap) ((steps:Int)+1) looks QD 1 A QB ⟨#[]⟩ QB) (by simp[results,Tryz.results140,go_sem,z0,z1,z2,z3,QO,O,QN,QP,M,L]) rfl ⟨_,rfl,(by rw[SO.out,vm _ _ _ _ _ _ _ _ _ (by simp) HB.out,<-EA.out];exact⟨_,_,_,_,_,rfl⟩),dH D (by omega) _ _ _ _ _ _ _ _ _ _⟩
  iterate 2
   ·go_wp2_with fail
    have Z5:=ae (Z4.other (N (w.heap.size+1) 1 Z) (Y (T (N gr 0 Z)) r.length cr) (by simp));have D:=ae (B4.setCell (p:=(N (w.heap.size+1) 1 Z)) (by simp) (Y (T (N gr 0 Z)) r.length cr));have O5:=ae (dI O4 Fb (Y (T (N gr 0 Z)) r.length cr) 1);have Y5:=ae (HY.below D ly);have hq:=fun(o:Nat) (ho:o=12∨o=13)=>wZ o (f place).s k (place+1) (steps+1) looks (T (N gr 0 Z)) cr r A (dK place) b2 o2 n E9 W.heap.size y _ Y5 O5 (by simpa using bt) ho hlk (by omega);rw[show((place+1:Nat):Int)=(place:Int)+1 by omega,show((steps+1:Nat):Int)=(steps:Int)+1 by omega] at hq;refine(hq _ (by simp)).mono ?_;rintro e w5 ⟨v,rfl,mv,b⟩;have FA:=ae mv;obtain⟨l0,l1,l2,l3,l4,l5,l6,l7,l8,l9,F3,FW,rfl⟩:=mv.form;have QM:=ae (Z5.below b CD);have B6:=ae (D.trans (b.mono DQ));clear b hq mv;clear m c0 f0 c1 f1 c2 P c3 QH c4 R c5 QJ c6 V S QK K X QL f9;obtain⟨fd,⟨z0,y0⟩,⟨z1,y1⟩,⟨z2,y2⟩,⟨z3,y3⟩,⟨QO,y4⟩,⟨O,y5⟩,⟨QN,y6⟩,⟨QP,y7⟩,⟨M,y8⟩,L,y9⟩:=QM.out;go_wp2;refine bp (v:=dP l0 (Y l1 l2 l3) l4 l5 l6 l7 l8 l9 F3 FW) (by simp[results,Tryz.results140,go_sem,z0,z1,z2,z3,QO,O,QN,QP,M,L]) rfl ⟨_,rfl,(by rw[SO.out,CY _ _ _ _ _ _ _ _ _ (by simp) HB.out,<-EA.out,<-ER.out];exact(yt FA CD _ _ _ _ _ _ _ _ _ _).mono DQ),dH B6 (by omega) _ _ _ _ _ _ _ _ _ _⟩
  iterate 3
   ·obtain rfl:C=k:=ro.trans (EY (by first | exact .inl rfl | exact .inr (.inl ⟨rfl,q1⟩) | exact .inr (.inr ⟨rfl,q2⟩)))
    have R5:=ae (R4.set0 (J I C));have Z5:=ae (Z4.other (N (w.heap.size+1) 0 Z) (J I C) (by simp));have D:=ae (B4.setCell (p:=(N (w.heap.size+1) 0 Z)) (by simp) (J I C));have O5:=ae (dI O4 Fb (J I C) 0);have I0:=(cell_far _ (N (w.heap.size+1) 0 Z) (N l.heap.size 0 Z) (J I (C:Int)) (by simp;omega)).trans H0;have I1:=(cell_far _ (N (w.heap.size+1) 0 Z) (N l.heap.size 1 Z) (J I (C:Int)) (by simp;omega)).trans H1;have I2:=(cell_far _ (N (w.heap.size+1) 0 Z) (N l.heap.size 2 Z) (J I (C:Int)) (by simp;omega)).trans H2;have HI:=ae I0;have FM:=ae I1;have FK:=ae I2;clear I0 I1 I2;go_wp2;go_meet;exact⟨by omega,R5,Z5,D,O5,HI,FM,FK,by simpa using bt⟩
  ·obtain rfl:C=place+1:=by rw[ro.out];unfold mh;rw[cM (by decide),cM (fun h=>h.2.elim (fun e=>by rw[e] at q1;cases q1) (fun e=>by rw[e] at q2;cases q2))]
   go_wp2;go_meet;exact⟨by omega,by show Ten _ _ _ _ _ _ _ _ _ _ _ _;rw[show((place+1:Nat):Int)=(place:Int)+1 by omega];exact R4,Z4,B4,O4,H0,H1,H2,bt⟩
  ·obtain rfl:C=place+1:=by rw[ro.out];unfold mh;rw[cM (by omega),cM (by omega)]
   have n15:((op:Int) == 15)=QB:=by simp;omega
   have n14:((op:Int) == 14)=QB:=by simp;omega
   have n12:((op:Int) == 12)=QB:=by simp;omega
   have n13:((op:Int) == 13)=QB:=by simp;omega
   have n10:((op:Int) == 10)=QB:=by simp;omega
   have n11:((op:Int) == 11)=QB:=by simp;omega
   go_wp2;go_meet;exact⟨by omega,by show Ten _ _ _ _ _ _ _ _ _ _ _ _;rw[show((place+1:Nat):Int)=(place:Int)+1 by omega];exact R4,Z4,B4,O4,H0,H1,H2,bt⟩
 case rest =>
 clear R4 Z4 B4 O4 H0 H1 H2 bt;obtain⟨Ff,R4,Z4,B4,O4,G0,G1,G2,bt⟩:=hcut;obtain⟨QR,Bk⟩:∃ QR,QR=bU op k (f place).s A B:=⟨_,rfl⟩
 have n7:Hid (QR=bU op k (f place).s A B/\QR.length=bF op):=⟨Bk,by rw[Bk];exact xa _ _ _ _ _ qr Ff⟩
 have Fv:Hid (so=fS QR (dK place) r C (steps+1) looks):=by show _=_;rw[SO.out,Av _ _ _ _ _ _ _ _ _ qr Ff HB.out FH HL.out,Bk,<-EA.out,<-EB.out,<-ER.out,<-ro.out]
 clear Bk SO EA EB ER ro;go_wp2_with fail;go_loopw [13,14] (fun rest i wr=>∃ j:Nat,j<=bF op/\i=J I j/\∃ g6 cx,rest=Y (T (N g6 0 Z)) (r.length+j) cx/\Hid (wr.ownsRow W.heap.size 9 1 (Y (T (N g6 0 Z)) (r.length+j) cx) (r.length+j) (strs r++(QR.take j).map Value.string))/\Hid (Below W.heap.size wc wr)/\Hid (∀ i,i<j->(QR.getD i ⟨#[]⟩).size<=2000)) (fun _ i _=>bF op - (intOf i).toNat);case atStart=>exact⟨0,by omega,rfl,gr,cr,rfl,(by show World.ownsRow _ _ _ _ _ _ _;rw[List.take_zero,NG,ND];exact O4),a8 _ _,fun i hi=>absurd hi (E4 _)⟩
 case round =>
  obtain⟨j,hj,rfl,g6,cx,rfl,O6,B6,S6⟩:=hrel;have R6:=ae (R4.below B6 n6);have Z6:=ae (Z4.below B6 CD);have i0:=(B6.cell (p:=(N l.heap.size 0 Z)) la).trans G0;have i1:=(B6.cell (p:=(N l.heap.size 1 Z)) la).trans G1;have i2:=(B6.cell (p:=(N l.heap.size 2 Z)) la).trans G2;have Fw:W.heap.size<=wr.heap.size:=p9 bt B6.size;have B7:=ae (B4.trans (B6.mono DQ));by_cases Fc:j<bF op
  ·have h8:op<=8:=CS qr Ff Fc
   have Fn:j<QR.length:=by rw[n7.2];exact Fc
   go_wp2_with fail;refine(uB op k (f place).s A B _ qr h8 FP FO F0).mono ?_;rintro e w6 ⟨g7,rfl,ph,FV,ld⟩;rw[<-n7.1] at ph ⊢;rw[n7.2] at ph ⊢;have q6:w6.cell? (N g7 j Z)=T (U (QR.getD j ⟨#[]⟩)):=by have:=ph.2 j Fc;rwa[D0] at this
   obtain⟨E,hE⟩:∃ E,E=QR.getD j ⟨#[]⟩:=⟨_,rfl⟩
   rw[<-hE] at q6;have HE:=ae hE;clear hE;have O7:=ae (own_below O6 ld ly);have B8:=ae (B6.trans (ld.mono Fw));have FF:W.heap.size<=w6.heap.size:=p9 Fw ld.size;have R7:=ae (R6.below ld R6.1);have Z7:=ae (Z6.below ld Z6.1);have B9:=ae (B7.trans (ld.mono B7.size));clear ph FV ld i0 i1 i2 R6 Z6;by_cases FZ:(E.size:Int)<=2000
   ·obtain⟨Fe,hi,Fg,Fa,Fh⟩:=IL fW
    go_wp2_with (at_builtin;refine CW _ rfl (.tmp 158) (.tmp 163) 35 rfl W.heap.size 9 Fe (U ⟨#[]⟩) 1 16 Tryz.underlying35 hi Fg Fa Fh rfl (by decide) (Y (T (N g6 0 Z)) (r.length+j) cx) (r.length+j) (strs r++(QR.take j).map Value.string) (by simp[Act.eval]) (O7.alloc _) (N w6.heap.size 0 Z) 1 1 [U E] (by simp[Act.eval]) rfl (eZ w6 _ _) (by simp[Value.oneCell']) (by unfold maxLen;omega) (by omega) (by simp<;>omega) ?_;intro v' w7 n8 sm ur;obtain⟨g8,K,rfl,hg8⟩:=qK n8 (fun e=>by simpa using ur.1 e);have O8:=ae n8;have FU:=ae (bg (B8.alloc FF (Q #[U E] 9)) sm (by simp<;>omega) (fun i e=>(O7.lt i e).1));clear n8 sm ur)
    exact⟨⟨j+1,by omega,by go_num,g8,K,rfl,by show World.ownsRow _ _ _ _ _ _ _;rw[yu Fn,<-II,<-HE.out];exact O8,FU,fun i hi=>by
     by_cases e:i=j
     ·subst e;rw[<-HE.out];omega
     ·exact S6 i (by omega)⟩,by simp[intOf];omega⟩
   ·have ER:=ae (show so=.inr (.inl (2,(dK place),(steps+1))) by rw[Fv.out];unfold fS;rw[CU Fn (by rw[<-HE.out];exact FZ)];rfl)
    obtain⟨m,⟨c0,f0⟩,⟨c1,f1⟩,⟨c2,P⟩,⟨c3,QH⟩,⟨c4,R⟩,⟨c5,QJ⟩,⟨c6,V⟩,⟨S,QK⟩,⟨K,X⟩,QL,f9⟩:=R7.out;go_wp2_with fail;refine(fl _ _ _ _ _ _ _ _ _ _ _ _ _ _ _).mono ?_;rintro e w5 ⟨rfl,b⟩;have QM:=ae (Z7.below b Z7.1);have D:=ae (B9.trans (b.mono B9.size));clear b;clear m c0 f0 c1 f1 c2 P c3 QH c4 R c5 QJ c6 V S QK K X QL f9;obtain⟨fd,⟨z0,y0⟩,⟨z1,y1⟩,⟨z2,y2⟩,⟨z3,y3⟩,⟨QO,y4⟩,⟨O,y5⟩,⟨QN,y6⟩,⟨QP,y7⟩,⟨M,y8⟩,L,y9⟩:=QM.out;go_wp2;refine bp (v:=dP C (Y a s.length cap) ((steps:Int)+1) looks QD 2 (dK place) QB ⟨#[]⟩ QB) (by simp[results,Tryz.results140,go_sem,z0,z1,z2,z3,QO,O,QN,QP,M,L]) rfl ⟨_,rfl,(by rw[ER.out];exact⟨_,_,_,_,_,rfl⟩),dH D (by omega) _ _ _ _ _ _ _ _ _ _⟩
  ·have e:j=bF op:=by omega
   subst e;have ER:=ae (show so=.inl (C,(steps+1),looks,(QR.reverse++r)) by rw[Fv.out];unfold fS;rw[As (fun i hi=>S6.out i (by rw[n7.2] at hi;exact hi))];rfl);have Fk:=ae (show(QR.reverse++r).length=r.length+bF op by rw[eI,List.length_reverse,n7.2];omega);obtain⟨m,⟨c0,f0⟩,⟨c1,f1⟩,⟨c2,P⟩,⟨c3,QH⟩,⟨c4,R⟩,⟨c5,QJ⟩,⟨c6,V⟩,⟨S,QK⟩,⟨K,X⟩,QL,f9⟩:=R6.out;obtain⟨fd,⟨z0,y0⟩,⟨z1,y1⟩,⟨z2,y2⟩,⟨z3,y3⟩,⟨QO,y4⟩,⟨O,y5⟩,⟨QN,y6⟩,⟨QP,y7⟩,⟨M,y8⟩,L,y9⟩:=Z6.out;have OE:=ae (MN O6 (a:=(N (w.heap.size+1) 1 Z)) n6 (Y (T (N g6 0 Z)) (r.length+bF op) cx));have BE:=ae (B7.setCell (p:=(N (w.heap.size+1) 1 Z)) (by simp) (Y (T (N g6 0 Z)) (r.length+bF op) cx));go_wp2;refine bp (v:=dP C (Y (T (N g6 0 Z)) (r.length+bF op) cx) ((steps:Int)+1) looks QB 0 ⟨#[]⟩ QB ⟨#[]⟩ QB) (by simp[results,Tryz.results140,go_sem,z0,z1,z2,z3,QO,O,QN,QP,M,L]) rfl ⟨_,rfl,?_,dH BE (by omega) _ _ _ _ _ _ _ _ _ _⟩;rw[ER.out];refine(yt (v:=dP C (Y (T (N g6 0 Z)) (r.length+bF op) cx) ((steps:Int)+1) looks QB 0 ⟨#[]⟩ QB ⟨#[]⟩ QB) (base:=W.heap.size) ?_ CD _ _ _ _ _ _ _ _ _ _).mono DQ;refine⟨T (N g6 0 Z),cx,by rw[Fk.out];simp,?_⟩;rw[Fk.out,Ar];have h:=OE.out;rw[show QR.take (bF op)=QR by rw[<-n7.2];exact List.take_length] at h;exact h
def Eh (f:Nat->Ins)(cnt:Nat)(y:Nat->aC)(n:Nat)(QL:Turn)(st:Nat):SO->Prop
 | .inr (.inl (c,x,k))=>QL=fE c x k
 | .inr (.inr (a,nm,k))=>QL=mM a nm k
 | .inl (p,k,l,s)=>k=st+1/\k<=2000/\bT f cnt y n (2001 - k) p k l s=QL/\p<=2000/\l<=200/\s.length<=50/\∀ x∈s,x.size<=2000
theorem uD {f:Nat->Ins}{cnt place steps looks:Nat}{b:List ByteArray}(j:b.length<=50)(g:∀ x∈b,x.size<=2000)(hlk:looks<=200)(h:cQ f cnt=QD)(hc:cnt<=200):pS (bG f cnt place steps looks b) looks:=by
 unfold bG;split
 ·trivial
 ·rename_i h1
  split
  ·trivial
  ·split
   ·trivial
   ·rename_i i
    have hi:=js h (show place<cnt by omega);simp only[cy,j5] at hi;obtain⟨i1,i2,i3,i4,i5⟩:=hi;have hmt:dM (f place).op<=2000:=by unfold dM;split<;>(try split)<;>omega
    have hmt2:bP (f place).op<=2000:=by unfold bP;split<;>omega
    exact ix _ _ _ _ _ _ j g (by omega) (by omega) (by omega) hlk (by omega) (by omega) (by simpa using i)
theorem uE {f:Nat->Ins}{cnt place steps looks:Nat}{b:List ByteArray}{a:Bool}{nm:ByteArray}{s:List ByteArray}(h:bG f cnt place steps looks b=.inr (.inr (a,nm,s))):place<cnt:=by
 unfold bG at h;split at h
 ·cases h
 ·omega
theorem Dj {f:Nat->Ins}{cnt:Nat}{y:Nat->aC}{n:Nat}{QL:Turn}{p st l:Nat}{s:List ByteArray}(hst:st<=2000)(t:l<=200)(A:s.length<=50)(u:∀ x∈s,x.size<=2000)(z:cQ f cnt=QD)(QR:cnt<=200)(B:bO y n=QD)
  (b:bT f cnt y n (2001 - st) p st l s=QL):Eh f cnt y n QL st (fF f cnt y n p st l s):=by
 obtain⟨j,E⟩:∃ j,2001 - st=j+1:=⟨2000 - st,by omega⟩
 rw[E,bT] at b;have hF:=uD (place:=p) (steps:=st) A u t z QR;unfold fF;rcases h:bG f cnt p st l s with ⟨C,p'⟩ | ⟨c,x⟩ | ⟨a,nm,C⟩
 ·rw[h] at b hF
  obtain⟨m,D⟩:=jd h;obtain⟨f1,i,q⟩:=hF;simp only[m] at b ⊢;exact⟨rfl,by omega,by rw[show 2001 - (st+1)=j by omega];exact b,q,t,f1,i⟩
 ·rw[h] at b
  exact b.symm
 ·rw[h] at b hF
  obtain⟨m,D⟩:=kM h;obtain⟨f1,i,q,f4⟩:=hF;have hp:=uE h;simp only[m] at b ⊢;simp only[gF,jC];by_cases h1:n<=l
  ·rw[gM h1] at b ⊢
   exact b.symm
  ·rw[cM h1] at b ⊢
   by_cases h2:a=QB
   ·rw[gM h2] at b ⊢
    refine⟨rfl,by omega,by rw[show 2001 - (st+1)=j by omega];exact b,by omega,by omega,by simp;omega,fun x g=>?_⟩;rcases p6.1 g with rfl | g
    ·exact iG _
    ·exact i x g
   ·rw[cM h2] at b ⊢
    by_cases r:(y l).has=QB
    ·rw[gM r] at b ⊢
     exact b.symm
    ·rw[cM r] at b ⊢
     by_cases o:(y l).code=0
     ·rw[gM o] at b ⊢
      refine⟨rfl,by omega,by rw[show 2001 - (st+1)=j by omega];exact b,by omega,by omega,by simp;omega,fun x g=>?_⟩;rcases p6.1 g with rfl | g
      ·exact(Ae B (show l<n by omega)).1
      ·exact i x g
     ·rw[cM o] at b ⊢
      exact b.symm
theorem Ten.put {w:G}{g:Nat}{n o f p j l b m i q:QE}(h:Ten w g n o f p j l b m i q)(u0 u1 u2 u3 u4 u5 u6 u7 u8 u9:QE):Ten ((((((((((w.setCell (N g 0 Z) u0).setCell (N g 1 Z) u1).setCell (N g 2 Z) u2).setCell (N g 3 Z) u3).setCell (N g 4 Z) u4).setCell (N g 5 Z) u5).setCell (N g 6 Z) u6).setCell (N g 7 Z) u7).setCell (N g 8 Z) u8).setCell (N g 9 Z) u9) g u0 u1 u2 u3 u4 u5 u6 u7 u8 u9 :=
 (((((((((h.set0 u0).set1 u1).set2 u2).set3 u3).set4 u4).set5 u5).set6 u6).set7 u7).set8 u8).set9 u9
theorem oh {g:Nat}{u w:G}(h:Only g u w)(u0 u1 u2 u3 u4 u5 u6 u7 u8 u9:QE):Only g u ((((((((((w.setCell (N g 0 Z) u0).setCell (N g 1 Z) u1).setCell (N g 2 Z) u2).setCell (N g 3 Z) u3).setCell (N g 4 Z) u4).setCell (N g 5 Z) u5).setCell (N g 6 Z) u6).setCell (N g 7 Z) u7).setCell (N g 8 Z) u8).setCell (N g 9 Z) u9) :=
 ci (ci (ci (ci (ci (ci (ci (ci (ci (ci h 0 u0) 1 u1) 2 u2) 3 u3) 4 u4) 5 u5) 6 u6) 7 u7) 8 u8) 9 u9
def vr (w:G)(g b:Nat)(f:Nat->Ins)(cnt:Nat)(y:Nat->aC)(n:Nat)(QL:Turn)(k:Nat):Prop :=
 (∃ p st l s a cap,Ten w g (J I (p:Nat)) (Y a (List.length s) cap) (J I (st:Nat)) (J I (l:Nat)) (QC QB) (J I 0) (U ⟨#[]⟩) (QC QB) (U ⟨#[]⟩) (QC QB)/\w.ownsRow b 9 1 (Y a s.length cap) s.length (strs s) /\
  st<=2000/\bT f cnt y n (2001 - st) p st l s=QL/\p<=2000/\l<=200/\s.length<=50/\(∀ x∈s,x.size<=2000)/\2002 - st<=k) ∨
 (∃ at_ sv lk c x,∃ st:Nat,Ten w g at_ sv (J I st) lk (QC QD) (J I c) (U x) (QC QB) (U ⟨#[]⟩) (QC QB)/\QL=fE c x st) ∨
 (∃ at_ sv lk a nm,∃ st:Nat,Ten w g at_ sv (J I st) lk (QC QB) (J I 0) (U ⟨#[]⟩) (QC a) (U nm) (QC QD)/\QL=mM a nm st)
theorem Dk {w:G}{b n cap:Nat}{e:TypeId}{a:Option Addr}{f:List QE}(h:w.ownsRow b e 1 (Y a n cap) n f){k:Nat}(y:k<b)(q r i t m o g p l x:QE):World.ownsRow ((((((((((w.setCell (N k 0 Z) q).setCell (N k 1 Z) r).setCell (N k 2 Z) i).setCell (N k 3 Z) t).setCell (N k 4 Z) m).setCell (N k 5 Z) o).setCell (N k 6 Z) g).setCell (N k 7 Z) p).setCell (N k 8 Z) l).setCell (N k 9 Z) x) b e 1 (Y a n cap) n f:=by have s:∀ {w:G} (j:Nat) (u:QE),w.ownsRow b e 1 (Y a n cap) n f->(w.setCell (N k j Z) u).ownsRow b e 1 (Y a n cap) n f:=fun j u h=>MN h (a:=(N k j Z)) y u;exact s 9 x (s 8 l (s 7 p (s 6 g (s 5 o (s 4 m (s 3 t (s 2 i (s 1 r (s 0 q h)))))))))
theorem ni (j h cnt cap n o:Nat)(K:Option Addr)(f:Nat->Ins)(w:G)(hn:cnt<=1048576)(p:valid f cnt=QD->200<(n:Int))(y:RowIns w j h cnt f)(x:∀ i,i<cnt->(f i).s.size<=maxLen):Calls Tryz.prog 89 #[QG #[Y (T (N j h Z)) cnt cap],Y K n o] w fun e u=>e=QF badT.v/\Below w.heap.size w u:=by
 have H:=ae y;have t:=ae ((((q9 w).alloc ly (Q #[Y (T (N j h Z)) cnt cap] 43))).alloc (by simp) (Q #[QC QB,J I 0,U ⟨#[]⟩,QC QB,U ⟨#[]⟩,J I 0] 150));have m:=j8 (w.alloc (Q #[Y (T (N j h Z)) cnt cap] 43)) (QC QB) (J I 0) (U ⟨#[]⟩) (QC QB) (U ⟨#[]⟩) (J I 0) 150;rw[show(w.alloc (Q #[Y (T (N j h Z)) cnt cap] 43)).heap.size=w.heap.size+1 by simp] at m;have z:=ae m;have r:=fun u h1 h2=>fH j h cnt cap f u hn h1 h2 x;generalize valid f cnt=b at p r;have A:=ae r;have B:=ae p;clear m r y x p;go_enter Tryz.func89,Tryz.ntmps89;go_wp2_with fail;have q:=ae (H.below t ly);refine(A _ q.1 q.2).mono ?_;rintro e w1 ⟨rfl,l⟩;have g:=ae (z.below l (by simp));have QO:=ae (t.trans (l.mono (by simp;omega)));clear l t z q;obtain⟨v0,QR,y0⟩:=g.2 0 (by omega);obtain⟨v1,L,y1⟩:=g.2 1 (by omega);obtain⟨v2,QP,y2⟩:=g.2 2 (by omega);obtain⟨v3,C,y3⟩:=g.2 3 (by omega);obtain⟨v4,D,y4⟩:=g.2 4 (by omega);obtain⟨v5,E,y5⟩:=g.2 5 (by omega);cases b
 all_goals
  (try have hn2:=B.out rfl)
  go_wp2;refine bp (v:=badT.v) (by simp[results,Tryz.results89,go_sem,Turn.v,badT,QR,L,QP,C,D,E]) rfl ⟨rfl,dY QO (by omega) _ _ _ _ _ _⟩
theorem uF (o q cnt cap QJ o2 n W:Nat)(f:Nat->Ins)(y:Nat->aC)(w:G)(hn:cnt<=1048576)(hv:valid f cnt=QD)(hn2:(n:Int)<=200)(hP:RowIns w o q cnt f)(hY:RowReply w QJ o2 n y)(hs:∀ i,i<cnt->(f i).s.size<=maxLen)(QL:Turn)(hT:QL=if bO y n=QB then badT else bT f cnt y n 2001 0 0 0 []):Calls Tryz.prog 89 #[QG #[Y (T (N o q Z)) cnt cap],Y (T (N QJ o2 Z)) n W] w fun e w'=>e=QF QL.v/\Below w.heap.size w w':=by
 have HV:=ae (bN hv).1;have ro:cnt<=200:=by have:=(bN hv).2.2;omega
 have QK:=ae hY;have QM:=ae hT;clear hY hT;have HP:=ae hP;have A0:=ae ((((q9 w).alloc ly (Q #[Y (T (N o q Z)) cnt cap] 43))).alloc (by simp) (Q #[QC QB,J I 0,U ⟨#[]⟩,QC QB,U ⟨#[]⟩,J I 0] 150));have QH:=j8 (w.alloc (Q #[Y (T (N o q Z)) cnt cap] 43)) (QC QB) (J I 0) (U ⟨#[]⟩) (QC QB) (U ⟨#[]⟩) (J I 0) 150;rw[show(w.alloc (Q #[Y (T (N o q Z)) cnt cap] 43)).heap.size=w.heap.size+1 by simp] at QH;have X0:=ae QH;have IV:=fun w' h1 h2=>fH o q cnt cap f w' hn h1 h2 hs;rw[hv] at IV;have n9:=ae IV;clear QH IV hP hs hv;go_enter Tryz.func89,Tryz.ntmps89;go_wp2_with fail;have P1:=ae (HP.below A0 ly);refine(n9 _ P1.1 P1.2).mono ?_;rintro e w1 ⟨rfl,QN⟩;have c1:w1.cell? (N w.heap.size 0 Z)=T (Y (T (N o q Z)) cnt cap):=(QN.cell (p:=(N w.heap.size 0 Z)) (by simp;omega)).trans (by simp);have HX:=ae (X0.below QN (by simp));have B1:=ae (A0.trans (QN.mono (by simp;omega)));have z1:w.heap.size+1<w1.heap.size:=HX.1;clear QN A0 X0 P1;have mv:=ae (QK.below B1 ly);go_wp2_with fail;go_loopw [5] (fun i wr=>∃ j:Nat,j<=n/\i=J I j/\Hid (bO y j=QD)/\Below w1.heap.size w1 wr) (fun i _=>n - (intOf i).toNat);case atStart=>exact⟨0,by omega,rfl,rfl,a8 _ _⟩
 case round =>
  obtain⟨j,hj,rfl,HK,S⟩:=hrel;have b:=ae (HX.below S HX.1);have C:=ae (B1.trans (S.mono B1.size));have cp:wr.cell? (N w.heap.size 0 Z)=T (Y (T (N o q Z)) cnt cap):=(S.cell (p:=(N w.heap.size 0 Z)) (by simp;omega)).trans c1;have zr:w.heap.size+1<wr.heap.size:=b.1;have bt:=ae S;clear S;by_cases u:j<n
  ·obtain⟨d0,d1,d2⟩:=(QK.below C ly).2 j u
   obtain⟨v0,QO,y0⟩:=b.2 0 (by omega);obtain⟨v1,B,y1⟩:=b.2 1 (by omega);obtain⟨v2,D,y2⟩:=b.2 2 (by omega);obtain⟨v3,QP,y3⟩:=b.2 3 (by omega);obtain⟨v4,H,y4⟩:=b.2 4 (by omega);obtain⟨v5,K,y5⟩:=b.2 5 (by omega);by_cases g1:((y j).text.size:Int)<=2000
   ·by_cases g2:0<=(y j).code
    ·by_cases g3:(y j).code<=7
     ·go_wp2
      refine⟨⟨j+1,by omega,by go_num,?_,?_⟩,by simp[intOf];omega⟩
      ·show bO y (j+1)=QD
       simp only[bO,HK.out,ce,JJ,j5];omega
      ·exact bt
     ·go_wp2
      have z:QL=badT:=by rw[QM.out,gM (gi u (by simp only[ce,IT];omega))]
      refine bp (v:=badT.v) (by simp[results,Tryz.results89,go_sem,Turn.v,badT,QO,B,D,QP,H,K]) rfl ⟨by rw[z],dY C (by omega) _ _ _ _ _ _⟩
    ·go_wp2
     have z:QL=badT:=by rw[QM.out,gM (gi u (by simp only[ce,IT];omega))]
     refine bp (v:=badT.v) (by simp[results,Tryz.results89,go_sem,Turn.v,badT,QO,B,D,QP,H,K]) rfl ⟨by rw[z],dY C (by omega) _ _ _ _ _ _⟩
   ·go_wp2
    have z:QL=badT:=by rw[QM.out,gM (gi u (by simp only[ce,IT];omega))]
    refine bp (v:=badT.v) (by simp[results,Tryz.results89,go_sem,Turn.v,badT,QO,B,D,QP,H,K]) rfl ⟨by rw[z],dY C (by omega) _ _ _ _ _ _⟩
  ·have e:j=n:=by omega
   subst e;have z:QL=bT f cnt y j 2001 0 0 0 []:=by rw[QM.out,cM (by simp[HK.out])]
   have ET:=ae z;clear z QM mv;have RN:=ae (j9 wr (J I 0) (Y Z 0 0) (J I 0) (J I 0) (QC QB) (J I 0) (U ⟨#[]⟩) (QC QB) (U ⟨#[]⟩) (QC QB) 216 wr.heap.size rfl);have A2:=ae ((q9 wr).alloc ly (Q #[J I 0,Y Z 0 0,J I 0,J I 0,QC QB,J I 0,U ⟨#[]⟩,QC QB,U ⟨#[]⟩,QC QB] 216));have XN:=ae (b.below A2 b.1);have BN:=ae (C.trans (A2.mono C.size));have cN:=(A2.cell (p:=(N w.heap.size 0 Z)) (by simp;omega)).trans cp;have L:wr.heap.size<(wr.alloc (Q #[J I 0,Y Z 0 0,J I 0,J I 0,QC QB,J I 0,U ⟨#[]⟩,QC QB,U ⟨#[]⟩,QC QB] 216)).heap.size:=by simp
   go_wp2_with fail;clear c1 cp;generalize wr.alloc (Q #[J I 0,Y Z 0 0,J I 0,J I 0,QC QB,J I 0,U ⟨#[]⟩,QC QB,U ⟨#[]⟩,QC QB] 216)=X at RN XN BN cN L ⊢;generalize wr.heap.size=A at RN zr L ⊢;have n8:QJ<A:=lj QK.1 (by omega);have qr:o<A:=lj HP.1 (by omega);have S0:Hid (vr X A X.heap.size f cnt y j QL 2002):=.inl ⟨0,0,0,[],Z,0,RN,BG _ _ _ _,by omega,ET.symm,by omega,by omega,by simp,by simp,by omega⟩;have PN:=ae (HP.below BN ly);have YN:=ae (QK.below BN ly);clear RN ET b C bt u HX B1 HP QK;go_loopg [] 2002 (fun g wr=>vr wr A X.heap.size f cnt y j QL g/\Only A X wr);case atStart=>exact⟨S0,Only.refl _ _⟩
   case round =>
    obtain⟨hst,QR⟩:=hrel;have HO:=ae QR;have cw:wr.cell? (N w.heap.size 0 Z)=T (Y (T (N o q Z)) cnt cap):=(QR.cell w.heap.size 0 (by omega) (by omega)).trans cN;have fd:A<wr.heap.size:=lj L QR.size;have ex:=ae (QR.below (j6 A) (LJ L));have BW:=ae (BN.trans (QR.below (show w.heap.size<=A by omega) (by omega)));have m:=ae (XN.only QR (by omega));have zw:w.heap.size+1<wr.heap.size:=m.1;clear QR;rcases hst with ⟨p,st,l,s,a,ld,h,R,k1,k2,k3,k4,k5,k6,k7⟩ | ⟨at_,sv,lk,c,x,st,h,r⟩ | ⟨at_,sv,lk,a,nm,st,h,r⟩
    ·have n7:=ae h
     have OW:=ae R;have ph:=ae (Dj k1 k4 k5 k6 HV ro HK k2);have K6:=ae k6;have PW:Hid (RowIns wr o q cnt f):=⟨lj PN.1 HO.size,fun i hi=>(PN.2 i hi).below ex qr⟩
     have YW:Hid (RowReply wr QJ o2 j y):=⟨lj YN.1 HO.size,fun i hi=>(YN.2 i hi).below ex n8⟩
     obtain⟨P,⟨c0,f0⟩,⟨c1,f1⟩,⟨c2,f2⟩,⟨c3,f3⟩,⟨c4,f4⟩,⟨c5,f5⟩,⟨c6,f6⟩,⟨c7,f7⟩,⟨c8,f8⟩,c9,f9⟩:=h;clear R k2 k6;go_wp2_with fail;refine(xf o q cnt cap p st l f a s ld QJ o2 j W X.heap.size y _ PW YW OW k3 k1 k4 k5 K6 HV).mono ?_;rintro e w3 ⟨v,rfl,M,V⟩;have O:=ae (n7.below V fd);have O3:=ae (HO.bel V);clear P c0 f0 c1 f1 c2 f2 c3 f3 c4 f4 c5 f5 c6 f6 c7 f7 c8 f8 c9 f9;clear V;have t:=ph.out;obtain⟨g,rfl⟩:∃ g,gk=g+1:=⟨gk - 1,by omega⟩
     generalize fF f cnt y j p st l s=so at M t;rcases so with ⟨p',n6,l',s'⟩ | ⟨c,x,k⟩ | ⟨a1,nm,k⟩
     ·obtain⟨a',c',rfl,aq⟩:=M
      obtain⟨m1,m2,m3,m4,m5,m6,m7⟩:=t;have OE:=ae aq;have M3:=ae m3;have M7:=ae m7;have M1:=ae m1;clear aq m3 m7 m1;obtain⟨la,⟨e0,u0⟩,⟨e1,u1⟩,⟨e2,u2⟩,⟨e3,u3⟩,⟨e4,u4⟩,⟨e5,u5⟩,⟨e6,u6⟩,⟨e7,u7⟩,⟨e8,u8⟩,e9,u9⟩:=O.out;go_wp2;go_roundg g;case measure=>omega
      case rel=>exact⟨.inl ⟨p',n6,l',s',a',c',O.put _ _ _ _ _ _ _ _ _ _,aE (Dk OE fd _ _ _ _ _ _ _ _ _ _) HO.size,m2,M3,m4,m5,m6,M7,by have:=M1.out;omega⟩,oh O3 _ _ _ _ _ _ _ _ _ _⟩
     ·obtain⟨at_,a',n',c',lk,rfl⟩:=M
      have r:QL=fE c x k:=t;have E:=ae r;clear r t;obtain⟨la,⟨e0,u0⟩,⟨e1,u1⟩,⟨e2,u2⟩,⟨e3,u3⟩,⟨e4,u4⟩,⟨e5,u5⟩,⟨e6,u6⟩,⟨e7,u7⟩,⟨e8,u8⟩,e9,u9⟩:=O.out;go_wp2;go_roundg g;case measure=>omega
      case rel=>exact⟨.inr (.inl ⟨_,_,_,_,_,_,O.put _ _ _ _ _ _ _ _ _ _,E⟩),oh O3 _ _ _ _ _ _ _ _ _ _⟩
     ·obtain⟨at_,a',n',c',lk,rfl⟩:=M
      have r:QL=mM a1 nm k:=t;have E:=ae r;clear r t;obtain⟨la,⟨e0,u0⟩,⟨e1,u1⟩,⟨e2,u2⟩,⟨e3,u3⟩,⟨e4,u4⟩,⟨e5,u5⟩,⟨e6,u6⟩,⟨e7,u7⟩,⟨e8,u8⟩,e9,u9⟩:=O.out;go_wp2;go_roundg g;case measure=>omega
      case rel=>exact⟨.inr (.inr ⟨_,_,_,_,_,_,O.put _ _ _ _ _ _ _ _ _ _,E⟩),oh O3 _ _ _ _ _ _ _ _ _ _⟩
    ·have E:=ae r
     obtain⟨P,⟨c0,f0⟩,⟨c1,f1⟩,⟨c2,f2⟩,⟨c3,f3⟩,⟨c4,f4⟩,⟨c5,f5⟩,⟨c6,f6⟩,⟨c7,f7⟩,⟨c8,f8⟩,c9,f9⟩:=h;obtain⟨v0,QO,y0⟩:=m.2 0 (by omega);obtain⟨v1,B,y1⟩:=m.2 1 (by omega);obtain⟨v2,D,y2⟩:=m.2 2 (by omega);obtain⟨v3,QP,y3⟩:=m.2 3 (by omega);obtain⟨v4,H,y4⟩:=m.2 4 (by omega);obtain⟨v5,K,y5⟩:=m.2 5 (by omega);clear r;go_wp2;refine bp (v:=QL.v) (by rw[E.out];simp[results,Tryz.results89,go_sem,Turn.v,fE,QO,B,D,QP,H,K]) rfl ⟨rfl,dY BW (by omega) _ _ _ _ _ _⟩
    ·have E:=ae r
     obtain⟨P,⟨c0,f0⟩,⟨c1,f1⟩,⟨c2,f2⟩,⟨c3,f3⟩,⟨c4,f4⟩,⟨c5,f5⟩,⟨c6,f6⟩,⟨c7,f7⟩,⟨c8,f8⟩,c9,f9⟩:=h;obtain⟨v0,QO,y0⟩:=m.2 0 (by omega);obtain⟨v1,B,y1⟩:=m.2 1 (by omega);obtain⟨v2,D,y2⟩:=m.2 2 (by omega);obtain⟨v3,QP,y3⟩:=m.2 3 (by omega);obtain⟨v4,H,y4⟩:=m.2 4 (by omega);obtain⟨v5,K,y5⟩:=m.2 5 (by omega);clear r;go_wp2;refine bp (v:=QL.v) (by rw[E.out];simp[results,Tryz.results89,go_sem,Turn.v,mM,QO,B,D,QP,H,K]) rfl ⟨rfl,dY BW (by omega) _ _ _ _ _ _⟩
theorem mj (j g cnt cap o p n b:Nat)(f:Nat->Ins)(y:Nat->aC)(w:G)(hn:cnt<=1048576)(m:RowIns w j g cnt f)(r:RowReply w o p n y)(l:∀ i,i<cnt->(f i).s.size<=maxLen):Calls Tryz.prog 89 #[QG #[Y (T (N j g Z)) cnt cap],Y (T (N o p Z)) n b] w fun e t=>e=QF (mN f cnt y n).v/\Below w.heap.size w t:=by
 unfold mN;by_cases h1:valid f cnt=QB
 ·rw[gM h1]
  exact ni j g cnt cap n b _ f w hn (fun h=>absurd (h1.symm.trans h) (by simp)) m l
 ·have q:valid f cnt=QD:=by simpa using h1
  rw[cM h1];by_cases h2:200<n
  ·rw[gM h2]
   exact ni j g cnt cap n b _ f w hn (fun _=>by omega) m l
  ·rw[cM h2]
   exact uF j g cnt cap o p n b f y w hn q (by omega) m r l _ rfl
def gZ (y:Nat->aC)(i:Nat):List QE:=[QC (y i).has,J I (y i).code,U (y i).text]
def jR (y:Nat->aC):Nat->List QE
 | 0=>[]
 | k+1=>jR y k++gZ y k
theorem ol (y:Nat->aC)(k:Nat):(jR y k).length=k*3:=by
 induction k with
 | zero=>rfl
 | succ k b=>simp[jR,gZ,b];omega
theorem vt (y:Nat->aC){i j:Nat}(b:j<3):∀ k,i<k->(jR y k)[i*3+j]?=(gZ y i)[j]?
 | 0,h=>absurd h (E4 _)
 | k+1,h=>by
  rw[jR];by_cases e:i=k
  ·subst e
   rw[BS (by rw[ol];omega),ol,show i*3+j - i*3=j by omega]
  ·rw[IG (by rw[ol];omega)]
   exact vt y b k (by omega)
theorem uG {w:G}{n g c k:Nat}{y:Nat->aC}(h:w.ownsRow n 156 3 (Y (T (N g 0 Z)) k c) k (jR y k)):RowReply w g 0 k y:=by
 rcases h.2 with ⟨f,h0⟩ | ⟨g',cap,l,f,hb,m,hc1,hc2,hc3,p⟩
 ·simp at f
 ·simp only[IB,IF,J4] at f
  obtain⟨⟨rfl,-⟩,-,rfl⟩:=f;have o:g<w.heap.size:=by
   rcases JK g w.heap.size with h1 | h1
   ·exact h1
   ·rw[JP h1] at m;simp at m
  have b:∀ i j,i<k->j<3->w.cell? (N g (0+i*3+j) Z)=(gZ y i)[j]?:=by
   intro i j hi s;have r:w.cell? (N g (0+i*3+j) Z)=l[i*3+j]?:=by simp[World.cell?,m]
   have q:(l.toList.take (k*3))[i*3+j]?=(jR y k)[i*3+j]?:=by rw[p]
   rw[NO,gM (by omega),IJ,vt y s k hi] at q;rw[r,q]
  refine⟨o,fun i hi=>⟨?_,?_,?_⟩⟩
  ·exact b i 0 hi (by omega)
  ·exact b i 1 hi (by omega)
  ·exact b i 2 hi (by omega)
theorem fT (w:G)(x y z:QE)(t:TypeId):∀ j u,[x,y,z][j]?=T u->(w.alloc (Q #[x,y,z] t)).cell? (((N w.heap.size 0 Z):Addr).add j)=T u:=by
 intro j u b;match j,b with
 | 0,b=>simp at b;subst b;simp[Addr.add]
 | 1,b=>simp at b;subst b;simp[Addr.add]
 | 2,b=>simp at b;subst b;simp[Addr.add]
theorem yx:(Tryz.prog.info? 156).map (fun i=>(i.zero,i.size,i.bytes))=T (T (QG #[QC QB,J I 0,U ⟨#[]⟩]),3,32):=by kernel_rfl
theorem pi {w:G}{b n:Nat}{e:TypeId}{v:QE}{i:List QE}(h:w.ownsRow b e 3 v n i)(hn:0<n):∃ g c,v=Y (T (N g 0 Z)) n c:=by
 rcases h.2 with ⟨f,h0⟩ | ⟨g,cap,cur,f,_⟩
 ·omega
 ·exact⟨g,cap,f⟩
def xg:QE->Nat
 | Y _ n _=>n
 | _=>0
theorem mo {f:Nat->ah}{p:Nat}:∀ k,k<=(f p).linksN->(∀ i,i<k->bY f p i=QB)->dG f p ((f p).linksN - k) k=aN f p
 | 0,_,_=>rfl
 | k+1,hk,h=>by have:=mo (f:=f) (p:=p) k (by omega) fun i hi=>h i (by omega);rw[<-this,show(f p).linksN - k=((f p).linksN - (k+1))+1 by omega,oe (h k (by omega))]
theorem Ax {f:Nat->ah}{p k:Nat}(hk:k<(f p).linksN)(h:∀ i,i<k->bY f p i=QB)(b:bY f p k=QD):aN f p=k:=by rw[<-mo k (by omega) h,show(f p).linksN - k=((f p).linksN - (k+1))+1 by omega,je b]
theorem Ay {f:Nat->ah}{p:Nat}(h:∀ i,i<(f p).linksN->bY f p i=QB):aN f p=(f p).linksN:=by rw[<-mo (f p).linksN ly h,J2];rfl
theorem kU {f:Nat->ah}{p k:Nat}(b:k<(f p).linksN)(h:∀ i,i<k->bY f p i=QB)(g:bY f p k=QD):fC f p=4:=by unfold fC;rw[Ax b h g,gM b]
theorem tq {f:Nat->ah}{p:Nat}(h:∀ i,i<(f p).linksN->bY f p i=QB):fC f p=if (aU f p (f p).linksN).over=QB then 4 else if (aU f p (f p).linksN).code=(f p).code/\(aU f p (f p).linksN).text.toList=(f p).text.toList then 0 else 5:=by unfold fC;rw[Ay h,cM (Nat.lt_irrefl _)]
theorem Az {f:Nat->ah}{n p k:Nat}(b:aK f n=QD)(g:p<n)(hk3:(f p).kind=3)(hk:k<=(f p).linksN):mN (f p).act (f p).actN (yOf f p) k=aU f p k:=by
 have l:valid (f p).act (f p).actN=QD/\(f p).linksN<=200:=by
  rcases(cF b p g).2 with h | h | h
  ·omega
  ·omega
  ·exact⟨h.2.2.2.1,h.2.2.2.2⟩
 have j:bO (yOf f p) k=QD:=tk fun i hi=>pU b fun m=>Nat.lt_trans (ec b p g i (by omega) m).2.1 g;unfold mN aU;rw[cM (by rw[l.1];simp),cM (by omega),cM (by rw[j];simp)]
theorem yy (y m n cap:Nat)(f:Nat->ah)(p:Nat)(w:G)(_hn:(n:Int)<=400)(O:aK f n=QD)(hp:p<n)(hk:(f p).kind=3)(W:RowDeed w y m n f)(n8:gT (f p)):Calls Tryz.prog 42 #[QG #[Y (T (N y m Z)) n cap],J I p] w fun e w'=>e=QF (J I (fC f p))/\Below w.heap.size w w':=by
 obtain⟨i0,hi,ur,ro,At⟩:=IL yx;have hN:(f p).linksN<=200:=by
  rcases(cF O p hp).2 with h | h | h
  ·omega
  ·omega
  ·exact h.2.2.2.2
 have hv:valid (f p).act (f p).actN=QD:=by
  rcases(cF O p hp).2 with h | h | h
  ·omega
  ·omega
  ·exact h.2.2.2.1
 have Ff:(f p).actN<=200:=by have:=(bN hv).2.2;omega
 have DS:=ae (fun k (Fe:k<=(f p).linksN)=>Az O hp hk Fe);have DE:=ae (fun j (hj:j<(f p).linksN) (ha:((f p).links j).ask=QD)=>(⟨(ec O p hp j hj ha).1,Nat.lt_trans (ec O p hp j hj ha).2.1 hp⟩:0<=((f p).links j).at_/\((f p).links j).at_.toNat<n));have Fa:=ae (show ∀ i,i<(f p).actN->((f p).act i).s.size<=maxLen from n8.2.2.1.2);have B:=ae W;obtain⟨o0,o1,o2,o3,⟨a0,o,o4,hI⟩,⟨a1,r,o5,sm⟩⟩:=W.2 p hp;obtain⟨K,QO,rfl,Bk⟩:∃ K QO,a0=T (N K QO Z)/\RowIns w K QO (f p).actN (f p).act:=by
  have:=(bN hv).2;rcases hI with h | ⟨b,off,e,hr⟩
  ·omega
  ·exact⟨b,off,e,hr⟩
 have HI:=ae Bk;have mv:=ae sm;have V:=W.1;clear Bk hI sm W n8 O hk hv;have hpn:(p:Int)<n:=by omega
 obtain⟨C,hC⟩:∃ C,C=fC f p:=⟨_,rfl⟩
 rw[<-hC];have HC:=ae hC;clear hC;have A0:=ae ((q9 w).alloc ly (Q #[Y (T (N y m Z)) n cap] 25));have AD:=ae (A0.out.alloc A0.out.size (Q #[U (f p).name,J I (f p).kind,J I (f p).code,U (f p).text,Y (T (N K QO Z)) (f p).actN o,Y a1 (f p).linksN r] 46));have zD:((w.alloc (Q #[Y (T (N y m Z)) n cap] 25)).alloc (Q #[U (f p).name,J I (f p).kind,J I (f p).code,U (f p).text,Y (T (N K QO Z)) (f p).actN o,Y a1 (f p).linksN r] 46)).heap.size=w.heap.size+2:=by simp
 have kA:((w.alloc (Q #[Y (T (N y m Z)) n cap] 25)).alloc (Q #[U (f p).name,J I (f p).kind,J I (f p).code,U (f p).text,Y (T (N K QO Z)) (f p).actN o,Y a1 (f p).linksN r] 46)).cell? (N w.heap.size 0 Z)=T (Y (T (N y m Z)) n cap):=by simp[go_sem]
 have qr:((w.alloc (Q #[Y (T (N y m Z)) n cap] 25)).alloc (Q #[U (f p).name,J I (f p).kind,J I (f p).code,U (f p).text,Y (T (N K QO Z)) (f p).actN o,Y a1 (f p).linksN r] 46)).cell? (N (w.heap.size+1) 2 Z)=T (J I (f p).code):=by simp[go_sem]
 have n9:((w.alloc (Q #[Y (T (N y m Z)) n cap] 25)).alloc (Q #[U (f p).name,J I (f p).kind,J I (f p).code,U (f p).text,Y (T (N K QO Z)) (f p).actN o,Y a1 (f p).linksN r] 46)).cell? (N (w.heap.size+1) 3 Z)=T (U (f p).text):=by simp[go_sem]
 have CD:((w.alloc (Q #[Y (T (N y m Z)) n cap] 25)).alloc (Q #[U (f p).name,J I (f p).kind,J I (f p).code,U (f p).text,Y (T (N K QO Z)) (f p).actN o,Y a1 (f p).linksN r] 46)).cell? (N (w.heap.size+1) 4 Z)=T (Y (T (N K QO Z)) (f p).actN o):=by simp[go_sem]
 have fd:((w.alloc (Q #[Y (T (N y m Z)) n cap] 25)).alloc (Q #[U (f p).name,J I (f p).kind,J I (f p).code,U (f p).text,Y (T (N K QO Z)) (f p).actN o,Y a1 (f p).linksN r] 46)).cell? (N (w.heap.size+1) 5 Z)=T (Y a1 (f p).linksN r):=by simp[go_sem]
 have p0:=(A0.out.cell (p:=(N y (m+p*6) Z)) V).trans o0;have p1:=(A0.out.cell (p:=(N y (m+p*6+1) Z)) V).trans o1;have p2:=(A0.out.cell (p:=(N y (m+p*6+2) Z)) V).trans o2;have p3:=(A0.out.cell (p:=(N y (m+p*6+3) Z)) V).trans o3;have p4:=(A0.out.cell (p:=(N y (m+p*6+4) Z)) V).trans o4;have p5:=(A0.out.cell (p:=(N y (m+p*6+5) Z)) V).trans o5;clear o0 o1 o2 o3 o4 o5;have OL:=ae (by have h:=Ci ((w.alloc (Q #[Y (T (N y m Z)) n cap] 25)).alloc (Q #[U (f p).name,J I (f p).kind,J I (f p).code,U (f p).text,Y (T (N K QO Z)) (f p).actN o,Y a1 (f p).linksN r] 46)) 156 3;rw[zD] at h;exact h);have BL:=ae ((a8 (w.heap.size+2) ((w.alloc (Q #[Y (T (N y m Z)) n cap] 25)).alloc (Q #[U (f p).name,J I (f p).kind,J I (f p).code,U (f p).text,Y (T (N K QO Z)) (f p).actN o,Y a1 (f p).linksN r] 46))).alloc (by rw[zD];exact j6 _) (Q #[] 156));go_enter Tryz.func42,Tryz.ntmps42;go_wp2;clear p0 p1 p2 p3 p4 p5;generalize (w.alloc (Q #[Y (T (N y m Z)) n cap] 25)).alloc (Q #[U (f p).name,J I (f p).kind,J I (f p).code,U (f p).text,Y (T (N K QO Z)) (f p).actN o,Y a1 (f p).linksN r] 46)=th at AD zD kA qr n9 CD fd OL BL ⊢;generalize th.alloc (Q #[] 156)=W0 at OL BL ⊢;go_loopw [6] (fun v wr=>∃ (k g c:Nat),k<=(f p).linksN/\v=Y (T (N g 0 Z)) k c/\Hid (wr.ownsRow (w.heap.size+2) 156 3 (Y (T (N g 0 Z)) k c) k (jR (yOf f p) k))/\Hid (∀ i,i<k->bY f p i=QB)/\Hid (Below (w.heap.size+2) th wr)) (fun v _=>(f p).linksN+1 - xg v);case atStart=>exact⟨0,w.heap.size+2,0,by omega,rfl,OL.out,fun i hi=>absurd hi (E4 _),BL.out⟩
 case round =>
  obtain⟨k,g,c,Fb,rfl,HO,HF,HB⟩:=hrel;have RW:=ae (AD.out.trans (HB.out.mono (by omega)));have d4:=(HB.out.cell (p:=(N (w.heap.size+1) 4 Z)) (show w.heap.size+1<w.heap.size+2 by omega)).trans CD;go_wp2_with fail;clear d4;refine(mj K QO (f p).actN o g 0 k c (f p).act (yOf f p) _ (by omega) (HI.out.below RW.out ly) (uG HO.out) Fa.out).mono ?_;rintro e QH ⟨rfl,n6⟩;rw[DS.out k Fb];obtain⟨t,ht⟩:∃ t,t=aU f p k:=⟨_,rfl⟩
  rw[<-ht];have QR:=ae ht;have B1:=ae (HB.out.trans (n6.mono (by have:=HB.out.size;omega)));have O1:=ae (own_below HO.out n6 ly);have ld:w.heap.size+2<=QH.heap.size:=by have:=B1.out.size;omega
  have hz2:w.heap.size+1<QH.heap.size:=by omega
  have hz3:w.heap.size<QH.heap.size:=by omega
  have d2:=(B1.out.cell (p:=(N (w.heap.size+1) 2 Z)) (show w.heap.size+1<w.heap.size+2 by omega)).trans qr;have d3:=(B1.out.cell (p:=(N (w.heap.size+1) 3 Z)) (show w.heap.size+1<w.heap.size+2 by omega)).trans n9;have d5:=(B1.out.cell (p:=(N (w.heap.size+1) 5 Z)) (show w.heap.size+1<w.heap.size+2 by omega)).trans fd;have P:=ae (B1.out.alloc ld (Q #[QC t.over,J I t.code,U t.text,QC t.ask,U t.name,J I t.steps] 150));have E:=ae (AD.out.trans (P.out.mono (by omega)));have QL:=ae (O1.out.alloc (Q #[QC t.over,J I t.code,U t.text,QC t.ask,U t.name,J I t.steps] 150));clear ht n6 HO HB;simp only[Turn.v];cases ho:t.over with
  | true =>
   rw[ho] at P E QL;by_cases L:k<(f p).linksN
   ·have DQ:(k:Int)<(f p).linksN:=by omega
    have q:Hid (bY f p k=QD):=by show _=_;unfold bY;rw[<-QR.out];rw[ho];rfl
    have u:Hid (C=4):=by show _=_;rw[HC.out];exact kU L HF.out q.out
    go_wp2;go_ret;exact⟨by simp[u.out],E.out⟩
   ·obtain rfl:k=(f p).linksN:=by omega
    have X:=ae (tq HF.out);by_cases hc:t.code=(f p).code
    ·cases htx:(t.text.toList == (f p).text.toList) with
     | true =>
      have u:Hid (C=0):=by show _=_;rw[HC.out,X.out,<-QR.out,ho,cM (by simp),gM ⟨hc,LU.1 htx⟩]
      go_wp2;go_ret;exact⟨by simp[u.out],AD.out.trans ((B1.out.alloc ld _).mono (by omega))⟩
     | false =>
      have u:Hid (C=5):=by show _=_;rw[HC.out,X.out,<-QR.out,ho,cM (by simp),cM (fun h=>by rw[h.2] at htx;simp at htx)]
      go_wp2;go_ret;exact⟨by simp[u.out],AD.out.trans ((B1.out.alloc ld _).mono (by omega))⟩
    ·have u:Hid (C=5):=by show _=_;rw[HC.out,X.out,<-QR.out,ho,cM (by simp),cM (fun h=>hc h.1)]
     have Ff:(t.code == (f p).code)=QB:=by simpa using hc
     go_wp2;go_ret;exact⟨by simp[u.out],AD.out.trans ((B1.out.alloc ld _).mono (by omega))⟩
  | false =>
   rw[ho] at P E QL;by_cases L:k<(f p).linksN
   ·have DQ:(k:Int)<(f p).linksN:=by omega
    have hge:decide ((f p).linksN<=k)=QB:=by simp;omega
    obtain⟨bl,offl,rfl,ph⟩:=(mv.out.below E.out ly).resolve_left (by omega);obtain⟨r0,r1,H,QP⟩:=ph.2 k L;obtain⟨l,hl⟩:∃ l,(f p).links k=l:=⟨_,rfl⟩
    rw[hl] at r0 r1 H QP;obtain⟨nm,ask,hs,at_⟩:=l;dsimp only at r0 r1 H QP;have D:=ae hl;clear ph hl;cases hn:(nm.toList == t.name.toList) with
    | false =>
     have la:(t.name.toList == nm.toList)=QB:=by rw[LN] at hn ⊢;exact fun h=>hn h.symm
     have q:Hid (bY f p k=QD):=by show _=_;unfold bY;rw[<-QR.out,D.out];simp[la]
     have u:Hid (C=4):=by show _=_;rw[HC.out];exact kU L HF.out q.out
     go_wp2_with fail;go_quiet (fail);have x:=ae (AT E.out nq);clear r0 r1 H QP P E QL d2 d3 d5;generalize (QH.alloc (Q #[QC QB,J I t.code,U t.text,QC t.ask,U t.name,J I t.steps] 150)).drewN nq=QK at x ⊢;go_wp2;go_ret;exact⟨by simp[u.out],x.out⟩
    | true =>
     have la:(t.name.toList == nm.toList)=QD:=by rw[LU] at hn ⊢;exact hn.symm
     cases hta:t.ask with
     | true =>
      rw[hta] at P E QL r0 r1 H QP;cases ask with
      | true =>
       have q:Hid (bY f p k=QB):=by show _=_;unfold bY;rw[<-QR.out,D.out];simp[ho,la,hta]
       have HY:Hid (dk f ⟨nm,QD,hs,at_⟩=yOf f p k):=by show _=_;unfold yOf;rw[D.out]
       have Fc:Hid (0<=at_/\at_.toNat<n):=by have:=DE.out k L (by rw[D.out]);rw[D.out] at this;exact this
       go_wp2_with fail;go_quiet (fail);have x:=ae (AT P.out nq);have M:=ae (AD.out.trans (x.out.mono (by omega)));have OQ:=ae (own_below QL.out (AT br nq) ly);clear r0 r1 H QP P E QL d2 d3 d5;generalize (QH.alloc (Q #[QC QB,J I t.code,U t.text,QC QD,U t.name,J I t.steps] 150)).drewN nq=QK at x M OQ ⊢;have Fd:=(x.out.cell (p:=(N w.heap.size 0 Z)) (show w.heap.size<w.heap.size+2 by omega)).trans kA;have d5:=(x.out.cell (p:=(N (w.heap.size+1) 5 Z)) (show w.heap.size+1<w.heap.size+2 by omega)).trans fd;have ex:=(mv.out.below M.out ly).resolve_left (by omega);obtain⟨E9,n7,eb,S⟩:=ex;simp only[IF,J4,and_true] at eb;obtain⟨rfl,rfl⟩:=eb;obtain⟨r0,r1,H,QP⟩:=S.2 k L;rw[D.out] at r0 r1 H QP;dsimp only at r0 r1 H QP;have QJ:w.heap.size+2<=QK.heap.size:=by have:=x.out.size;omega
       clear S;go_wp2_with fail
       go_region_law (first
        | (refine d9 rfl (.tmp 67) (.tmp 75) 153 rfl (w.heap.size+2) 156 i0 (QG #[QC QB,J I 0,U ⟨#[]⟩]) 3 32 Tryz.underlying153 hi ur ro At rfl (by decide) (Y (T (N g 0 Z)) k c) k (jR (yOf f p) k) (by simp[Act.eval]) (by first | exact QM.out.alloc _ | exact QM.out.drew.alloc _ | exact QM.out.drew.drew.alloc _) (N QN.heap.size 0 Z) 1 1 (gZ (yOf f p) k) (by simp[Act.eval]) rfl (by first | exact fT QN _ _ _ _ | exact fT QN.drew _ _ _ _ | exact fT QN.drew.drew _ _ _ _) (by simp[gZ,Value.oneCell']) (by unfold maxLen;omega) (by omega) (by simp<;>omega) ?_;intro v6 w6 R A bt;have O6:=ae R;(first | have B6:=ae (bg (B5.out.alloc aq _) A (by simp<;>omega) (fun j e=>(QM.out.lt j e).1)) | have B6:=ae (bg (B5.out.drew.alloc (by simpa using aq) _) A (by simp<;>omega) (fun j e=>(QM.out.lt j e).1)));clear R A bt)
        | (go_simp;go_at_call 90;refine(mi y m n cap f ⟨nm,QD,hs,at_⟩ _ ?_ (fun _=>Fc.out)).mono ?_;(first | exact B.out.below M.out ly | exact B.out.below M.out.drew ly | exact B.out.below M.out.drew.drew ly | exact B.out.below M.out.drew.drew.drew ly);rintro e QN ⟨rfl,z⟩;rw[HY.out];have D5:Hid (Below QK.heap.size QK QN):=⟨z.os,z.tape,z.output,z.size,z.block⟩;have QM:=ae (own_below OQ.out D5.out ly);have B5:=ae (x.out.trans (D5.out.mono QJ));have aq:w.heap.size+2<=QN.heap.size:=(p9 QJ D5.out.size);clear z))
       all_goals
        obtain⟨g6,c6,rfl⟩:=pi O6.out (by omega);go_simp;go_wp2
        exact⟨⟨k+1,g6,c6,by omega,rfl,O6.out,fun i hi=>by
         by_cases e:i=k
         ·subst e;exact q.out
         ·exact HF.out i (by omega),B6.out⟩,by simp[xg];omega⟩
      | false =>
       have q:Hid (bY f p k=QD):=by show _=_;unfold bY;rw[<-QR.out,D.out];simp[hta]
       have u:Hid (C=4):=by show _=_;rw[HC.out];exact kU L HF.out q.out
       go_wp2_with fail;go_quiet (fail);have x:=ae (AT E.out nq);clear r0 r1 H QP P E QL d2 d3 d5;generalize (QH.alloc (Q #[QC QB,J I t.code,U t.text,QC QD,U t.name,J I t.steps] 150)).drewN nq=QK at x ⊢;go_wp2;go_ret;exact⟨by simp[u.out],x.out⟩
     | false =>
      rw[hta] at P E QL r0 r1 H QP;cases ask with
      | true =>
       have q:Hid (bY f p k=QD):=by show _=_;unfold bY;rw[<-QR.out,D.out];simp[hta]
       have u:Hid (C=4):=by show _=_;rw[HC.out];exact kU L HF.out q.out
       go_wp2_with fail;go_quiet (fail);have x:=ae (AT E.out nq);clear r0 r1 H QP P E QL d2 d3 d5;generalize (QH.alloc (Q #[QC QB,J I t.code,U t.text,QC QB,U t.name,J I t.steps] 150)).drewN nq=QK at x ⊢;go_wp2;go_ret;exact⟨by simp[u.out],x.out⟩
      | false =>
       have q:Hid (bY f p k=QB):=by show _=_;unfold bY;rw[<-QR.out,D.out];simp[ho,la,hta]
       have HY:Hid (dk f ⟨nm,QB,hs,at_⟩=yOf f p k):=by show _=_;unfold yOf;rw[D.out]
       go_wp2_with fail;go_quiet (fail);have x:=ae (AT P.out nq);have M:=ae (AD.out.trans (x.out.mono (by omega)));have OQ:=ae (own_below QL.out (AT br nq) ly);clear r0 r1 H QP P E QL d2 d3 d5;generalize (QH.alloc (Q #[QC QB,J I t.code,U t.text,QC QB,U t.name,J I t.steps] 150)).drewN nq=QK at x M OQ ⊢;have Fd:=(x.out.cell (p:=(N w.heap.size 0 Z)) (show w.heap.size<w.heap.size+2 by omega)).trans kA;have d5:=(x.out.cell (p:=(N (w.heap.size+1) 5 Z)) (show w.heap.size+1<w.heap.size+2 by omega)).trans fd;have ex:=(mv.out.below M.out ly).resolve_left (by omega);obtain⟨E9,n7,eb,S⟩:=ex;simp only[IF,J4,and_true] at eb;obtain⟨rfl,rfl⟩:=eb;obtain⟨r0,r1,H,QP⟩:=S.2 k L;rw[D.out] at r0 r1 H QP;dsimp only at r0 r1 H QP;have QJ:w.heap.size+2<=QK.heap.size:=by have:=x.out.size;omega
       clear S;go_wp2_with fail
       go_region_law (first
        | (refine d9 rfl (.tmp 67) (.tmp 75) 153 rfl (w.heap.size+2) 156 i0 (QG #[QC QB,J I 0,U ⟨#[]⟩]) 3 32 Tryz.underlying153 hi ur ro At rfl (by decide) (Y (T (N g 0 Z)) k c) k (jR (yOf f p) k) (by simp[Act.eval]) (by first | exact QM.out.alloc _ | exact QM.out.drew.alloc _ | exact QM.out.drew.drew.alloc _) (N QN.heap.size 0 Z) 1 1 (gZ (yOf f p) k) (by simp[Act.eval]) rfl (by first | exact fT QN _ _ _ _ | exact fT QN.drew _ _ _ _ | exact fT QN.drew.drew _ _ _ _) (by simp[gZ,Value.oneCell']) (by unfold maxLen;omega) (by omega) (by simp<;>omega) ?_;intro v6 w6 R A bt;have O6:=ae R;(first | have B6:=ae (bg (B5.out.alloc aq _) A (by simp<;>omega) (fun j e=>(QM.out.lt j e).1)) | have B6:=ae (bg (B5.out.drew.alloc (by simpa using aq) _) A (by simp<;>omega) (fun j e=>(QM.out.lt j e).1)));clear R A bt)
        | (go_simp;go_at_call 90;refine(mi y m n cap f ⟨nm,QB,hs,at_⟩ _ ?_ (fun h=>by cases h)).mono ?_;(first | exact B.out.below M.out ly | exact B.out.below M.out.drew ly | exact B.out.below M.out.drew.drew ly | exact B.out.below M.out.drew.drew.drew ly);rintro e QN ⟨rfl,z⟩;rw[HY.out];have D5:Hid (Below QK.heap.size QK QN):=⟨z.os,z.tape,z.output,z.size,z.block⟩;have QM:=ae (own_below OQ.out D5.out ly);have B5:=ae (x.out.trans (D5.out.mono QJ));have aq:w.heap.size+2<=QN.heap.size:=(p9 QJ D5.out.size);clear z))
       all_goals
        obtain⟨g6,c6,rfl⟩:=pi O6.out (by omega);go_simp;go_wp2
        exact⟨⟨k+1,g6,c6,by omega,rfl,O6.out,fun i hi=>by
         by_cases e:i=k
         ·subst e;exact q.out
         ·exact HF.out i (by omega),B6.out⟩,by simp[xg];omega⟩
   ·obtain rfl:k=(f p).linksN:=by omega
    have X:=ae (tq HF.out);have u:Hid (C=4):=by show _=_;rw[HC.out,X.out,<-QR.out,ho,gM rfl]
    go_wp2_with fail;go_quiet (fail);go_wp2;go_ret;exact⟨by simp[u.out],by first | exact AT E.out _ | exact E.out⟩
end Go.Proofs.YtamacmnikdejeaaGreatDoor.Vp
