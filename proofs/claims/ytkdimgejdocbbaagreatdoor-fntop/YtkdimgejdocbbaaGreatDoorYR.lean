import Derived.Test.YtkdimgejdocbbaaGreatDoorYP
import Derived.Deep.CutBlock
set_option maxRecDepth 1000000
set_option maxHeartbeats 8000000
open Go.Addr renaming mk->J
open Go.Value renaming slice->Z,string->U,int->Q,bool->QA,agg->QE
open Option renaming none->Y,some->N
open Go.Obj renaming cells->T
open Go.IntKind renaming i64->I
open Go renaming World->E,Value->QB
open Bool renaming false->D,true->QC
open Go.Ending renaming returned->QD
namespace Go.Proofs.YtkdimgejdocbbaaGreatDoor.Vp
open RowKit
theorem wV (pb po cnt ex place steps looks:Nat)(f:Nat->Ins)(a:Option Addr)(s:List ByteArray)(l b2 o2 n Fq th:Nat)(y:Nat->aA)(w:E)
  (hP:RowIns w pb po cnt f) (hY:RowReply w b2 o2 n y) (hO:w.ownsRow th 9 1 (Z a s.length l) s.length (strs s)) (hp:place<=2000) (hst:steps<=2000) (hlk:looks<=200) (hs:s.length<=50) (Fw:∀ x∈s,x.size<=2000) (Fz:cQ f cnt=QC) :
  Calls Tryz.prog 230 #[QE #[Z (N (J pb po Y)) cnt ex],dN place (Z a s.length l) steps looks D 0 ⟨#[]⟩ D ⟨#[]⟩ D,Z (N (J b2 o2 Y)) n Fq] w fun e w'=>∃ v,e=QD v/\SoIs w' w.heap.size v (fF f cnt y n place steps looks s)/\Below w.heap.size w w':=by
 obtain⟨so,mv⟩:∃ so,so=fF f cnt y n place steps looks s:=⟨_,rfl⟩
 rw[<-mv];have S0:=ae mv;clear mv;have HP:=ae hP;have HY:=ae hY;have HO:=ae hO;have HK:=ae Fz;have HL:=ae Fw;clear hP hY hO Fz Fw;have A0:=ae ((((Qs w).alloc lr (T #[Z (N (J pb po Y)) cnt ex] 31)).alloc (by simp) (T #[Q I place,Z a s.length l,Q I steps,Q I looks,QA D,Q I 0,U ⟨#[]⟩,QA D,U ⟨#[]⟩,QA D] 292)).alloc (by simp<;>omega) (T #[Q I 0,Z Y 0 0,Q I 0,Q I 0,QA D,Q I 0,U ⟨#[]⟩,QA D,U ⟨#[]⟩,QA D] 292));have R0:=ae ((jR (w.alloc (T #[Z (N (J pb po Y)) cnt ex] 31)) (Q I place) (Z a s.length l) (Q I steps) (Q I looks) (QA D) (Q I 0) (U ⟨#[]⟩) (QA D) (U ⟨#[]⟩) (QA D) 292 (w.heap.size+1) (by simp)).al (T #[Q I 0,Z Y 0 0,Q I 0,Q I 0,QA D,Q I 0,U ⟨#[]⟩,QA D,U ⟨#[]⟩,QA D] 292));have Z0:=ae (jR ((w.alloc (T #[Z (N (J pb po Y)) cnt ex] 31)).alloc (T #[Q I place,Z a s.length l,Q I steps,Q I looks,QA D,Q I 0,U ⟨#[]⟩,QA D,U ⟨#[]⟩,QA D] 292)) (Q I 0) (Z Y 0 0) (Q I 0) (Q I 0) (QA D) (Q I 0) (U ⟨#[]⟩) (QA D) (U ⟨#[]⟩) (QA D) 292 (w.heap.size+1+1) (by simp));go_enter Tryz.func230,Tryz.ntmps230;go_wp2_with fail;refine(pH place (by omega) _).mono ?_;rintro e d ⟨rfl,aq⟩;have hD:(⟨(Lib.decDigits place).toArray⟩:ByteArray)=dI place:=rfl;rw[hD];have R1:=ae (R0.below aq (by simp<;>omega));have Z1:=ae (Z0.below aq (by simp<;>omega));have B1:=ae (A0.trans (aq.mono (by simp<;>omega)));have pP:d.cell? (J w.heap.size 0 Y)=N (Z (N (J pb po Y)) cnt ex):=(aq.cell (p:=(J w.heap.size 0 Y)) (by simp<;>omega)).trans (Em _ _ _ _ _ _ _ rfl);have O1:=ae (own_below HO B1 lr);have hz1:w.heap.size+1+1<d.heap.size:=Z1.1;have hz0:w.heap.size<d.heap.size:=by omega
 have hz01:w.heap.size+1<d.heap.size:=by omega
 clear aq A0 R0 Z0 hD;obtain⟨m,⟨c0,f0⟩,⟨c1,f1⟩,⟨c2,P⟩,⟨c3,QG⟩,⟨c4,f4⟩,⟨c5,QJ⟩,⟨c6,QH⟩,⟨QM,R⟩,⟨L,S⟩,X,QK⟩:=R1.out;rcases Int.lt_or_le (place:Int) cnt with h1 | h1;rotate_left
 ·have S1:Hid (so=.inr (.inl (2,(dI place),steps))):=S0.trans (show fF f cnt y n place steps looks s=.inr (.inl (2,(dI place),steps)) by have h:cnt<=place:=(by omega);simp[fF,gD,bH,cF,h])
  go_wp2_with fail;refine(fl _ _ _ _ _ _ _ _ _ _ _ _ _ _ _).mono ?_;rintro e w5 ⟨rfl,b⟩;have V:=ae (Z1.below b Z1.1);have QQ:=ae (B1.trans (b.mono B1.size));clear b;clear m c0 f0 c1 f1 c2 P c3 QG c4 f4 c5 QJ c6 QH QM R L S X QK;obtain⟨ld,⟨z0,y0⟩,⟨z1,y1⟩,⟨z2,y2⟩,⟨z3,y3⟩,⟨O,y4⟩,⟨G,y5⟩,⟨M,y6⟩,⟨QO,y7⟩,⟨QN,y8⟩,H,y9⟩:=V.out;go_wp2;refine bp (v:=dN place (Z a s.length l) steps looks QC 2 (dI place) D ⟨#[]⟩ D) (by simp[results,Tryz.results230,go_sem,z0,z1,z2,z3,O,G,M,QO,QN,H]) rfl ⟨_,rfl,(by rw[S1.out];exact⟨_,_,_,_,_,rfl⟩),dD QQ (by omega) _ _ _ _ _ _ _ _ _ _⟩
 rcases Bool.eq_false_or_eq_true ((steps:Int) == 2000) with h2 | h2
 ·have S1:Hid (so=.inr (.inl (3,⟨#[]⟩,steps))):=S0.trans (show fF f cnt y n place steps looks s=.inr (.inl (3,⟨#[]⟩,steps)) by have h:¬ cnt<=place:=(by omega);have e:steps=2000:=(by simp at h2;omega);simp[fF,gD,bH,cF,h,e])
  go_wp2_with fail;refine(fl _ _ _ _ _ _ _ _ _ _ _ _ _ _ _).mono ?_;rintro e w5 ⟨rfl,b⟩;have V:=ae (Z1.below b Z1.1);have QQ:=ae (B1.trans (b.mono B1.size));clear b;clear m c0 f0 c1 f1 c2 P c3 QG c4 f4 c5 QJ c6 QH QM R L S X QK;obtain⟨ld,⟨z0,y0⟩,⟨z1,y1⟩,⟨z2,y2⟩,⟨z3,y3⟩,⟨O,y4⟩,⟨G,y5⟩,⟨M,y6⟩,⟨QO,y7⟩,⟨QN,y8⟩,H,y9⟩:=V.out;go_wp2;refine bp (v:=dN place (Z a s.length l) steps looks QC 3 ⟨#[]⟩ D ⟨#[]⟩ D) (by simp[results,Tryz.results230,go_sem,z0,z1,z2,z3,O,G,M,QO,QN,H]) rfl ⟨_,rfl,(by rw[S1.out];exact⟨_,_,_,_,_,rfl⟩),dD QQ (by omega) _ _ _ _ _ _ _ _ _ _⟩
 have hi:=jj HK.out (show place<cnt by omega);simp only[cD,j4] at hi;obtain⟨op,Fh⟩:=x4 (show 0<=(f place).op by omega);obtain⟨k,hk⟩:=x4 hi.2.2.2.1;have FJ:dK (f place).op<=2000:=by unfold dK;split<;>(try split)<;>omega
 have FH:bP (f place).op<=2000:=by unfold bP;split<;>omega
 have F0:k<=2000:=by omega
 have FV:(f place).s.size<=2000:=by omega
 have qr:1<=op:=by omega
 have Fr:op<=15:=by omega
 have EP:Hid (so=if eC op s=D then .inr (.inl (2,(dI place),(steps+1))) else gD y n place (steps+1) looks (cC op k (f place).s place looks s)):=by
  show _=_;rw[S0.out];have q1:¬ cnt<=place:=by omega
  have q2:¬ steps=2000:=by simp at h2;omega
  simp only[fF,bH,cF,q1,q2,LQ,Fh,hk,KV];split<;>rfl
 clear hi FJ FH HK;obtain⟨d0,d1,d2⟩:=(HP.below B1 lr).2 place (by omega);rw[Fh] at d0;rw[hk] at d2;have hpb:pb<w.heap.size:=HP.1;have FP:=(cell_far d (J (w.heap.size+1) 2 Y) (J pb (po+place*3) Y) (Q I ((steps:Int)+1)) (by simp;omega)).trans d0;have FW:=(cell_far d (J (w.heap.size+1) 2 Y) (J pb (po+place*3+1) Y) (Q I ((steps:Int)+1)) (by simp;omega)).trans d1;have FT:=(cell_far d (J (w.heap.size+1) 2 Y) (J pb (po+place*3+2) Y) (Q I ((steps:Int)+1)) (by simp;omega)).trans d2;have FC:∀ j,w.heap.size<=j->Value.ownBlock (Z a s.length l)≠N j:=fun j hj e=>by have:=(HO.lt j e).2;omega
 have R2:=ae ((R1.set2 (Q I ((steps:Int)+1))).al (T #[Q I op,U (f place).s,Q I k] 188));have Z2:=ae ((Z1.other (J (w.heap.size+1) 2 Y) (Q I ((steps:Int)+1)) (by simp)).al (T #[Q I op,U (f place).s,Q I k] 188));have O2:=ae ((MO O1 (a:=(J (w.heap.size+1) 2 Y)) (FC _ (by simp)) (Q I ((steps:Int)+1))).alloc (T #[Q I op,U (f place).s,Q I k] 188));have B2:=ae ((B1.setCell (p:=(J (w.heap.size+1) 2 Y)) (by simp) (Q I ((steps:Int)+1))).alloc (by have:=B1.size;simpa using this) (T #[Q I op,U (f place).s,Q I k] 188));have g0:((d.setCell (J (w.heap.size+1) 2 Y) (Q I ((steps:Int)+1))).alloc (T #[Q I op,U (f place).s,Q I k] 188)).cell? (J d.heap.size 0 Y)=N (Q I op):=jA _ _ _ _ _ _ (by simp) rfl;have g1:((d.setCell (J (w.heap.size+1) 2 Y) (Q I ((steps:Int)+1))).alloc (T #[Q I op,U (f place).s,Q I k] 188)).cell? (J d.heap.size 1 Y)=N (U (f place).s):=jA _ _ _ _ _ _ (by simp) rfl;have g2:((d.setCell (J (w.heap.size+1) 2 Y) (Q I ((steps:Int)+1))).alloc (T #[Q I op,U (f place).s,Q I k] 188)).cell? (J d.heap.size 2 Y)=N (Q I k):=jA _ _ _ _ _ _ (by simp) rfl;have la:d.heap.size<((d.setCell (J (w.heap.size+1) 2 Y) (Q I ((steps:Int)+1))).alloc (T #[Q I op,U (f place).s,Q I k] 188)).heap.size:=by simp
 clear FC;go_wp2_with fail;refine(ub op _ qr Fr).mono ?_;rintro e w9 ⟨rfl,FI⟩;subst FI;clear m c0 f0 c1 f1 c2 P c3 QG c4 f4 c5 QJ c6 QH QM R L S X QK;clear d0 d1 d2 FP FW FT Fh hk pP;generalize ((d.setCell (J (w.heap.size+1) 2 Y) (Q I ((steps:Int)+1))).alloc (T #[Q I op,U (f place).s,Q I k] 188))=W at R2 Z2 O2 B2 g0 g1 g2 la ⊢;obtain⟨m,⟨c0,f0⟩,⟨c1,f1⟩,⟨c2,P⟩,⟨c3,QG⟩,⟨c4,f4⟩,⟨c5,QJ⟩,⟨c6,QH⟩,⟨QM,R⟩,⟨L,S⟩,X,QK⟩:=R2.out;have hpt:=Aw op;have FL:aM op<=2:=by unfold aM;split<;>(try split)<;>omega
 by_cases hb:eC op s=D
 ·have S1:Hid (so=.inr (.inl (2,(dI place),(steps+1)))):=by rw[EP.out,eT hb];rfl
  have hA:(s.length:Int)<(aM op:Nat)∨¬ (s.length:Int)<(aM op:Nat)/\(50:Int)<(s.length:Int) - (aM op:Nat)+(bG op:Nat):=by simp only[eC,IL] at hb;omega
  clear hb EP;rcases hA with hA | ⟨hA,Ft⟩
  iterate 2
   ·go_wp2_with fail
    refine(fl _ _ _ _ _ _ _ _ _ _ _ _ _ _ _).mono ?_;rintro e w5 ⟨rfl,b⟩;have V:=ae (Z2.below b Z2.1);have QQ:=ae (B2.trans (b.mono B2.size));clear b;clear m c0 f0 c1 f1 c2 P c3 QG c4 f4 c5 QJ c6 QH QM R L S X QK;obtain⟨ld,⟨z0,y0⟩,⟨z1,y1⟩,⟨z2,y2⟩,⟨z3,y3⟩,⟨O,y4⟩,⟨G,y5⟩,⟨M,y6⟩,⟨QO,y7⟩,⟨QN,y8⟩,H,y9⟩:=V.out;go_wp2;refine bp (v:=dN place (Z a s.length l) ((steps:Int)+1) looks QC 2 (dI place) D ⟨#[]⟩ D) (by simp[results,Tryz.results230,go_sem,z0,z1,z2,z3,O,G,M,QO,QN,H]) rfl ⟨_,rfl,(by rw[S1.out];exact⟨_,_,_,_,_,rfl⟩),dD QQ (by omega) _ _ _ _ _ _ _ _ _ _⟩
 have Fx:aM op<=s.length/\s.length - aM op+bG op<=50:=by simpa[eC] using hb
 have hA:¬ (s.length:Int)<(aM op:Nat):=by omega
 have Ft:¬ (50:Int)<(s.length:Int) - (aM op:Nat)+(bG op:Nat):=by omega
 have SO:Hid (so=gD y n place (steps+1) looks (cC op k (f place).s place looks s)):=by rw[EP.out,a8 hb];rfl
 have HB:=ae Fx.1;have F3:(s.drop (aM op)).length+bG op<=50:=by rw[II];omega
 clear hb Fx EP;obtain⟨A,Fy⟩:∃ A,A=kE op s:=⟨_,rfl⟩
 obtain⟨B,aq⟩:∃ B,B=pj op s:=⟨_,rfl⟩
 obtain⟨r,n6⟩:∃ r,r=s.drop (aM op):=⟨_,rfl⟩
 rw[<-n6] at F3;have EA:=ae Fy;have EB:=ae aq;have ER:=ae n6;clear S0 Fy aq n6;go_upto_if 68 with fail;go_cut [11] (fun sa K=>sa=U A/\W=K);case first =>
  by_cases ht:(0:Int)<(aM op:Nat)
  ·rcases s with _ | ⟨x,q⟩
   ·exact absurd HB.out (by simp;omega)
   ·obtain⟨g,c,e⟩:=gw O2 (by simp)
    obtain⟨rfl,-⟩:=Value.slice.inj e;have t1:=CU O2.out;have FX:q.length<=50:=by simp at hs;omega
    obtain rfl:A=x:=by rw[EA.out];unfold kE;rw[eT (by omega)];rfl
    rw[p7] at c1;go_wp2;go_meet;exact⟨rfl,rfl⟩
  ·obtain rfl:A=⟨#[]⟩:=by rw[EA.out];unfold kE;rw[a8 (by omega)]
   go_wp2;go_meet;exact⟨rfl,rfl⟩
 case rest =>
 obtain⟨rfl,rfl⟩:=hcut;go_upto_if 78 with fail;go_cut [12] (fun sa K=>sa=U B/\W=K);case first =>
  by_cases ht:(1:Int)<(aM op:Nat)
  ·rcases s with _ | ⟨x,_ | ⟨z,q⟩⟩
   ·exact absurd HB.out (by simp;omega)
   ·exact absurd HB.out (by simp;omega)
   ·obtain⟨g,c,e⟩:=gw O2 (by simp)
    obtain⟨rfl,-⟩:=Value.slice.inj e;obtain⟨t1,t2⟩:=CY O2;have FX:q.length+1<=50:=by simp at hs;omega
    obtain rfl:B=z:=by rw[EB.out];unfold pj;rw[eT (by omega)];rfl
    rw[p7,p7] at c1;go_wp2;go_meet;exact⟨rfl,rfl⟩
  ·obtain rfl:B=⟨#[]⟩:=by rw[EB.out];unfold pj;rw[a8 (by omega)]
   go_wp2;go_meet;exact⟨rfl,rfl⟩
 case rest =>
 obtain⟨rfl,rfl⟩:=hcut;have hl:s.length=r.length+aM op:=by rw[ER.out,II];have:=HB.out;omega
 go_upto_region 17 with fail;go_cut [13] (fun sr K=>∃ gr cr,sr=Z (N (J gr 0 Y)) r.length cr/\W.heap.size<=gr/\Hid (K.ownsRow W.heap.size 9 1 (Z (N (J gr 0 Y)) r.length cr) r.length (strs r))/\Hid (Below W.heap.size W K));case first =>
  rcases yt O2.out with ⟨rfl,hz,rfl⟩ | ⟨g,rfl⟩
  ·obtain rfl:s=[]:=List.length_eq_zero_iff.1 hz
   obtain rfl:r=[]:=by rw[ER.out];simp
   have Fv:aM op=0:=by simpa using HB.out
   have h0:((aM op:Nat):Int)=0:=by rw[Fv];rfl
   have hw3:-((aM op:Nat):Int)=0:=by rw[h0];decide
   have hw4:0 - ((aM op:Nat):Int)=0:=by rw[h0];decide
   clear h0 Fv hl;have AL:=ae ((Qs W).alloc lr (T #[] 9));have OM:=ae (JD (base:=W.heap.size) (e:=9) (size:=1) W #[] 0 lr (by unfold maxLen;omega) rfl);go_wp2;go_meet;exact⟨_,_,rfl,j6 _,OM,AL⟩
  ·have hcap:(r.length:Int)<=l:=by have:=CZ O2.out;omega
   have FG:Hid (∀ j u,(strs r)[j]?=N u->(W.alloc (T #[] 9)).cell? (((J g 0 Y):Addr).add j)=N u):=C7 (xs:=strs (s.take (aM op))) (by
    have h:=O2.alloc (T #[] 9);rw[ER.out,<-Az,KP]
    exact h)
   obtain⟨t,ht⟩:∃ t,t=aM op:=⟨_,rfl⟩
   rw[<-ht] at hl FL ⊢;rw[hl] at c1 hs;have HS:=ae hs;have HL:=ae hl;clear hs hl;obtain⟨Fi,hi,Fm,Fd,Fo⟩:=IS fW;go_wp2_with (at_builtin;refine CD _ rfl (.tmp 87) (.tmp 95) 39 rfl W.heap.size 9 Fi (U ⟨#[]⟩) 1 16 Tryz.underlying39 hi Fm Fd Fo rfl (by decide) (Z (N (J W.heap.size 0 Y)) 0 0) 0 [] (by simp[Act.eval]) (JD W #[] 0 lr (by unfold maxLen;omega) rfl) (J g 0 Y) r.length l (strs r) (by simp[Act.eval]) (by simp[strs]) FG.out (Av _) (by unfold maxLen;omega) (by omega) (by simp) ?_;intro v' w2 ph Bk Fk;simp only[DC,IN] at ph;obtain⟨gr,cr,rfl,FA⟩:=pU ph (fun e=>by simpa using Fk.1 e);have B3:=ae (bg ((Qs W).alloc lr (T #[] 9)) Bk (by simp) (fun j e=>by simp[Value.ownBlock] at e;omega));have DA:=ae ph;clear ph Bk Fk);go_meet;exact⟨gr,cr,rfl,FA,DA,B3⟩
 case rest =>
 clear hl hA Ft;obtain⟨gr,cr,rfl,FA,DA,B3⟩:=hcut;have At:w.heap.size<=W.heap.size:=B2.size;have n6:w.heap.size+1<W.heap.size:=R2.1;have DQ:w.heap.size+1+1<W.heap.size:=Z2.1;have Fp:w.heap.size+1≠gr:=by omega
 have FY:W.heap.size<=wc.heap.size:=B3.size;clear m c0 f0 c1 f1 c2 P c3 QG c4 f4 c5 QJ c6 QH QM R L S X QK;have R3:=ae (R2.below B3 R2.1);have Z3:=ae (Z2.below B3 Z2.1);have G0:=(B3.cell (p:=(J d.heap.size 0 Y)) la).trans g0;have G1:=(B3.cell (p:=(J d.heap.size 1 Y)) la).trans g1;have G2:=(B3.cell (p:=(J d.heap.size 2 Y)) la).trans g2;have R4:=ae (R3.set0 (Q I ((place:Int)+1)));have Z4:=ae (Z3.other (J (w.heap.size+1) 0 Y) (Q I ((place:Int)+1)) (by simp));have B4:=ae ((B2.trans (B3.mono B2.size)).setCell (p:=(J (w.heap.size+1) 0 Y)) (by simp) (Q I ((place:Int)+1)));have O4:=ae (dE DA Fp (Q I ((place:Int)+1)) 0);have H0:=(cell_far _ (J (w.heap.size+1) 0 Y) (J d.heap.size 0 Y) (Q I ((place:Int)+1)) (by simp;omega)).trans G0;have H1:=(cell_far _ (J (w.heap.size+1) 0 Y) (J d.heap.size 1 Y) (Q I ((place:Int)+1)) (by simp;omega)).trans G1;have H2:=(cell_far _ (J (w.heap.size+1) 0 Y) (J d.heap.size 2 Y) (Q I ((place:Int)+1)) (by simp;omega)).trans G2;have bt:W.heap.size<=(wc.setCell (J (w.heap.size+1) 0 Y) (Q I ((place:Int)+1))).heap.size:=by simpa using FY
 obtain⟨FQ,⟨e0,v0⟩,⟨e1,v1⟩,⟨e2,v2⟩,⟨e3,v3⟩,⟨e4,v4⟩,⟨e5,v5⟩,⟨e6,v6⟩,⟨e7,v7⟩,⟨e8,v8⟩,e9,v9⟩:=R3.out;go_upto_block 0 with fail;clear FQ e0 v0 e1 v1 e2 v2 e3 v3 e4 v4 e5 v5 e6 v6 e7 v7 e8 v8 e9 v9;clear g0 g1 g2 G0 G1 G2 B3 R3 Z3 DA R2 Z2 O2;generalize wc.setCell (J (w.heap.size+1) 0 Y) (Q I ((place:Int)+1))=W5 at R4 Z4 B4 O4 H0 H1 H2 bt ⊢;obtain⟨F8,F7⟩:A.size<=2000/\B.size<=2000:=by rw[EA.out,EB.out];exact sG HL op
 obtain⟨C,FF⟩:∃ C,C=lZ op k A place:=⟨_,rfl⟩
 have ro:=ae FF;clear FF;go_cut [] (fun K=>op<=11/\Hid (Ten K (w.heap.size+1) (Q I C) (Z a s.length l) (Q I ((steps:Int)+1)) (Q I looks) (QA D) (Q I 0) (U ⟨#[]⟩) (QA D) (U ⟨#[]⟩) (QA D))/\Hid (Ten K (w.heap.size+1+1) (Q I 0) (Z Y 0 0) (Q I 0) (Q I 0) (QA D) (Q I 0) (U ⟨#[]⟩) (QA D) (U ⟨#[]⟩) (QA D))/\Hid (Below w.heap.size w K)/\Hid (K.ownsRow W.heap.size 9 1 (Z (N (J gr 0 Y)) r.length cr) r.length (strs r))/\K.cell? (J d.heap.size 0 Y)=N (Q I op)/\K.cell? (J d.heap.size 1 Y)=N (U (f place).s)/\K.cell? (J d.heap.size 2 Y)=N (Q I k)/\W.heap.size<=K.heap.size);case first =>
  obtain⟨m,⟨c0,f0⟩,⟨c1,f1⟩,⟨c2,P⟩,⟨c3,QG⟩,⟨c4,f4⟩,⟨c5,QJ⟩,⟨c6,QH⟩,⟨QM,R⟩,⟨L,S⟩,X,QK⟩:=R4.out;rcases Dk op A Fr with rfl | rfl | rfl | rfl | rfl | ⟨rfl,q1⟩ | ⟨rfl,q1,q2⟩ | ⟨rfl,q1,q2⟩ | h9
  ·go_wp2_with fail
   refine(fl _ _ _ _ _ _ _ _ _ _ _ _ _ _ _).mono ?_;rintro e w5 ⟨rfl,b⟩;have V:=ae (Z4.below b Z4.1);have QQ:=ae (B4.trans (b.mono B4.size));clear b;clear m c0 f0 c1 f1 c2 P c3 QG c4 f4 c5 QJ c6 QH QM R L S X QK;obtain⟨ld,⟨z0,y0⟩,⟨z1,y1⟩,⟨z2,y2⟩,⟨z3,y3⟩,⟨O,y4⟩,⟨G,y5⟩,⟨M,y6⟩,⟨QO,y7⟩,⟨QN,y8⟩,H,y9⟩:=V.out;go_wp2;refine bp (v:=dN ((place:Int)+1) (Z a s.length l) ((steps:Int)+1) looks QC 0 A D ⟨#[]⟩ D) (by simp[results,Tryz.results230,go_sem,z0,z1,z2,z3,O,G,M,QO,QN,H]) rfl ⟨_,rfl,(by rw[SO.out,uT _ _ _ _ _ _ _ _ _ (by simp) HB.out,<-EA.out];exact⟨_,_,_,_,_,rfl⟩),dD QQ (by omega) _ _ _ _ _ _ _ _ _ _⟩
  ·go_wp2_with fail
   refine(fl _ _ _ _ _ _ _ _ _ _ _ _ _ _ _).mono ?_;rintro e w5 ⟨rfl,b⟩;have V:=ae (Z4.below b Z4.1);have QQ:=ae (B4.trans (b.mono B4.size));clear b;clear m c0 f0 c1 f1 c2 P c3 QG c4 f4 c5 QJ c6 QH QM R L S X QK;obtain⟨ld,⟨z0,y0⟩,⟨z1,y1⟩,⟨z2,y2⟩,⟨z3,y3⟩,⟨O,y4⟩,⟨G,y5⟩,⟨M,y6⟩,⟨QO,y7⟩,⟨QN,y8⟩,H,y9⟩:=V.out;go_wp2;refine bp (v:=dN ((place:Int)+1) (Z a s.length l) ((steps:Int)+1) looks QC 1 A D ⟨#[]⟩ D) (by simp[results,Tryz.results230,go_sem,z0,z1,z2,z3,O,G,M,QO,QN,H]) rfl ⟨_,rfl,(by rw[SO.out,uT _ _ _ _ _ _ _ _ _ (by simp) HB.out,<-EA.out];exact⟨_,_,_,_,_,rfl⟩),dD QQ (by omega) _ _ _ _ _ _ _ _ _ _⟩
  iterate 2
   ·go_wp2_with fail
    have Z5:=ae (Z4.other (J (w.heap.size+1) 1 Y) (Z (N (J gr 0 Y)) r.length cr) (by simp));have QQ:=ae (B4.setCell (p:=(J (w.heap.size+1) 1 Y)) (by simp) (Z (N (J gr 0 Y)) r.length cr));have O5:=ae (dE O4 Fp (Z (N (J gr 0 Y)) r.length cr) 1);have Y5:=ae (HY.below QQ lr);have hq:=fun(o:Nat) (ho:o=12∨o=13)=>wQ o (f place).s k (place+1) (steps+1) looks (N (J gr 0 Y)) cr r A (dI place) b2 o2 n Fq W.heap.size y _ Y5 O5 (by simpa using bt) ho hlk (by omega);rw[show((place+1:Nat):Int)=(place:Int)+1 by omega,show((steps+1:Nat):Int)=(steps:Int)+1 by omega] at hq;refine(hq _ (by simp)).mono ?_;rintro e w5 ⟨v,rfl,mv,b⟩;have FN:=ae mv;obtain⟨l0,l1,l2,l3,l4,l5,l6,l7,l8,l9,F4,FZ,rfl⟩:=mv.form;have V:=ae (Z5.below b DQ);have B6:=ae (QQ.trans (b.mono At));clear b hq mv;clear m c0 f0 c1 f1 c2 P c3 QG c4 f4 c5 QJ c6 QH QM R L S X QK;obtain⟨ld,⟨z0,y0⟩,⟨z1,y1⟩,⟨z2,y2⟩,⟨z3,y3⟩,⟨O,y4⟩,⟨G,y5⟩,⟨M,y6⟩,⟨QO,y7⟩,⟨QN,y8⟩,H,y9⟩:=V.out;go_wp2;refine bp (v:=dN l0 (Z l1 l2 l3) l4 l5 l6 l7 l8 l9 F4 FZ) (by simp[results,Tryz.results230,go_sem,z0,z1,z2,z3,O,G,M,QO,QN,H]) rfl ⟨_,rfl,(by rw[SO.out,Dl _ _ _ _ _ _ _ _ _ (by simp) HB.out,<-EA.out,<-ER.out];exact(yq FN DQ _ _ _ _ _ _ _ _ _ _).mono At),dD B6 (by omega) _ _ _ _ _ _ _ _ _ _⟩
  iterate 3
   ·obtain rfl:C=k:=ro.trans (Fb (by first | exact .inl rfl | exact .inr (.inl ⟨rfl,q1⟩) | exact .inr (.inr ⟨rfl,q2⟩)))
    have R5:=ae (R4.set0 (Q I C));have Z5:=ae (Z4.other (J (w.heap.size+1) 0 Y) (Q I C) (by simp));have QQ:=ae (B4.setCell (p:=(J (w.heap.size+1) 0 Y)) (by simp) (Q I C));have O5:=ae (dE O4 Fp (Q I C) 0);have I0:=(cell_far _ (J (w.heap.size+1) 0 Y) (J d.heap.size 0 Y) (Q I (C:Int)) (by simp;omega)).trans H0;have I1:=(cell_far _ (J (w.heap.size+1) 0 Y) (J d.heap.size 1 Y) (Q I (C:Int)) (by simp;omega)).trans H1;have I2:=(cell_far _ (J (w.heap.size+1) 0 Y) (J d.heap.size 2 Y) (Q I (C:Int)) (by simp;omega)).trans H2;have HI:=ae I0;have F9:=ae I1;have FO:=ae I2;clear I0 I1 I2;go_wp2;go_meet;exact⟨by omega,R5,Z5,QQ,O5,HI,F9,FO,by simpa using bt⟩
  ·obtain rfl:C=place+1:=by rw[ro.out];unfold lZ;rw[a8 (by decide),a8 (fun h=>h.2.elim (fun e=>by rw[e] at q1;cases q1) (fun e=>by rw[e] at q2;cases q2))]
   go_wp2;go_meet;exact⟨by omega,by show Ten _ _ _ _ _ _ _ _ _ _ _ _;rw[show((place+1:Nat):Int)=(place:Int)+1 by omega];exact R4,Z4,B4,O4,H0,H1,H2,bt⟩
  ·obtain rfl:C=place+1:=by rw[ro.out];unfold lZ;rw[a8 (by omega),a8 (by omega)]
   have n15:((op:Int) == 15)=D:=by simp;omega
   have n14:((op:Int) == 14)=D:=by simp;omega
   have n12:((op:Int) == 12)=D:=by simp;omega
   have n13:((op:Int) == 13)=D:=by simp;omega
   have n10:((op:Int) == 10)=D:=by simp;omega
   have n11:((op:Int) == 11)=D:=by simp;omega
   go_wp2;go_meet;exact⟨by omega,by show Ten _ _ _ _ _ _ _ _ _ _ _ _;rw[show((place+1:Nat):Int)=(place:Int)+1 by omega];exact R4,Z4,B4,O4,H0,H1,H2,bt⟩
 case rest =>
 clear R4 Z4 B4 O4 H0 H1 H2 bt;obtain⟨Fl,R4,Z4,B4,O4,G0,G1,G2,bt⟩:=hcut;obtain⟨QL,ur⟩:∃ QL,QL=b9 op k (f place).s A B:=⟨_,rfl⟩
 have n7:Hid (QL=b9 op k (f place).s A B/\QL.length=bG op):=⟨ur,by rw[ur];exact wR _ _ _ _ _ qr Fl⟩
 have Fs:Hid (so=fT QL (dI place) r C (steps+1) looks):=by show _=_;rw[SO.out,AA _ _ _ _ _ _ _ _ _ qr Fl HB.out FV HL.out,ur,<-EA.out,<-EB.out,<-ER.out,<-ro.out]
 clear ur SO EA EB ER ro;go_wp2_with fail;go_loopw [13,14] (fun rest i wr=>∃ j:Nat,j<=bG op/\i=Q I j/\∃ g6 cx,rest=Z (N (J g6 0 Y)) (r.length+j) cx/\Hid (wr.ownsRow W.heap.size 9 1 (Z (N (J g6 0 Y)) (r.length+j) cx) (r.length+j) (strs r++(QL.take j).map Value.string))/\Hid (Below W.heap.size wc wr)/\Hid (∀ i,i<j->(QL.getD i ⟨#[]⟩).size<=2000)) (fun _ i _=>bG op - (intOf i).toNat);case atStart=>exact⟨0,by omega,rfl,gr,cr,rfl,(by show World.ownsRow _ _ _ _ _ _ _;rw[List.take_zero,LV,NA];exact O4),eI _ _,fun i hi=>absurd hi (CV _)⟩
 case round =>
  obtain⟨j,hj,rfl,g6,cx,rfl,O6,B6,S6⟩:=hrel;have R6:=ae (R4.below B6 n6);have Z6:=ae (Z4.below B6 DQ);have i0:=(B6.cell (p:=(J d.heap.size 0 Y)) la).trans G0;have i1:=(B6.cell (p:=(J d.heap.size 1 Y)) la).trans G1;have i2:=(B6.cell (p:=(J d.heap.size 2 Y)) la).trans G2;have FE:W.heap.size<=wr.heap.size:=j5 bt B6.size;have B7:=ae (B4.trans (B6.mono At));by_cases Fj:j<bG op
  ·have h8:op<=8:=Dc qr Fl Fj
   have Fu:j<QL.length:=by rw[n7.2];exact Fj
   go_wp2_with fail;refine(uc op k (f place).s A B _ qr h8 F8 F7 F0).mono ?_;rintro e w6 ⟨g7,rfl,n9,FM,fd⟩;rw[<-n7.1] at n9 ⊢;rw[n7.2] at n9 ⊢;have q6:w6.cell? (J g7 j Y)=N (U (QL.getD j ⟨#[]⟩)):=by have:=n9.2 j Fj;rwa[DC] at this
   obtain⟨QP,hE⟩:∃ QP,QP=QL.getD j ⟨#[]⟩:=⟨_,rfl⟩
   rw[<-hE] at q6;have HE:=ae hE;clear hE;have O7:=ae (own_below O6 fd lr);have B8:=ae (B6.trans (fd.mono FE));have FS:W.heap.size<=w6.heap.size:=j5 FE fd.size;have R7:=ae (R6.below fd R6.1);have Z7:=ae (Z6.below fd Z6.1);have B9:=ae (B7.trans (fd.mono B7.size));clear n9 FM fd i0 i1 i2 R6 Z6;by_cases FU:(QP.size:Int)<=2000
   ·obtain⟨Fi,hi,Fm,Fd,Fo⟩:=IS fW
    go_wp2_with (at_builtin;refine CD _ rfl (.tmp 158) (.tmp 163) 39 rfl W.heap.size 9 Fi (U ⟨#[]⟩) 1 16 Tryz.underlying39 hi Fm Fd Fo rfl (by decide) (Z (N (J g6 0 Y)) (r.length+j) cx) (r.length+j) (strs r++(QL.take j).map Value.string) (by simp[Act.eval]) (O7.alloc _) (J w6.heap.size 0 Y) 1 1 [U QP] (by simp[Act.eval]) rfl (dh w6 _ _) (by simp[Value.oneCell']) (by unfold maxLen;omega) (by omega) (by simp<;>omega) ?_;intro v' w7 n8 sm DE;obtain⟨g8,L,rfl,hg8⟩:=pU n8 (fun e=>by simpa using DE.1 e);have O8:=ae n8;have FK:=ae (bg (B8.alloc FS (T #[U QP] 9)) sm (by simp<;>omega) (fun i e=>(O7.lt i e).1));clear n8 sm DE)
    exact⟨⟨j+1,by omega,by go_num,g8,L,rfl,by show World.ownsRow _ _ _ _ _ _ _;rw[yr Fu,<-IB,<-HE.out];exact O8,FK,fun i hi=>by
     by_cases e:i=j
     ·subst e;rw[<-HE.out];omega
     ·exact S6 i (by omega)⟩,by simp[intOf];omega⟩
   ·have ER:=ae (show so=.inr (.inl (2,(dI place),(steps+1))) by rw[Fs.out];unfold fT;rw[Dj Fu (by rw[<-HE.out];exact FU)];rfl)
    obtain⟨m,⟨c0,f0⟩,⟨c1,f1⟩,⟨c2,P⟩,⟨c3,QG⟩,⟨c4,f4⟩,⟨c5,QJ⟩,⟨c6,QH⟩,⟨QM,R⟩,⟨L,S⟩,X,QK⟩:=R7.out;go_wp2_with fail;refine(fl _ _ _ _ _ _ _ _ _ _ _ _ _ _ _).mono ?_;rintro e w5 ⟨rfl,b⟩;have V:=ae (Z7.below b Z7.1);have QQ:=ae (B9.trans (b.mono B9.size));clear b;clear m c0 f0 c1 f1 c2 P c3 QG c4 f4 c5 QJ c6 QH QM R L S X QK;obtain⟨ld,⟨z0,y0⟩,⟨z1,y1⟩,⟨z2,y2⟩,⟨z3,y3⟩,⟨O,y4⟩,⟨G,y5⟩,⟨M,y6⟩,⟨QO,y7⟩,⟨QN,y8⟩,H,y9⟩:=V.out;go_wp2;refine bp (v:=dN C (Z a s.length l) ((steps:Int)+1) looks QC 2 (dI place) D ⟨#[]⟩ D) (by simp[results,Tryz.results230,go_sem,z0,z1,z2,z3,O,G,M,QO,QN,H]) rfl ⟨_,rfl,(by rw[ER.out];exact⟨_,_,_,_,_,rfl⟩),dD QQ (by omega) _ _ _ _ _ _ _ _ _ _⟩
  ·have e:j=bG op:=by omega
   subst e;have ER:=ae (show so=.inl (C,(steps+1),looks,(QL.reverse++r)) by rw[Fs.out];unfold fT;rw[Ay (fun i hi=>S6.out i (by rw[n7.2] at hi;exact hi))];rfl);have FD:=ae (show(QL.reverse++r).length=r.length+bG op by rw[cM,List.length_reverse,n7.2];omega);obtain⟨m,⟨c0,f0⟩,⟨c1,f1⟩,⟨c2,P⟩,⟨c3,QG⟩,⟨c4,f4⟩,⟨c5,QJ⟩,⟨c6,QH⟩,⟨QM,R⟩,⟨L,S⟩,X,QK⟩:=R6.out;obtain⟨ld,⟨z0,y0⟩,⟨z1,y1⟩,⟨z2,y2⟩,⟨z3,y3⟩,⟨O,y4⟩,⟨G,y5⟩,⟨M,y6⟩,⟨QO,y7⟩,⟨QN,y8⟩,H,y9⟩:=Z6.out;have OE:=ae (MP O6 (a:=(J (w.heap.size+1) 1 Y)) n6 (Z (N (J g6 0 Y)) (r.length+bG op) cx));have BE:=ae (B7.setCell (p:=(J (w.heap.size+1) 1 Y)) (by simp) (Z (N (J g6 0 Y)) (r.length+bG op) cx));go_wp2;refine bp (v:=dN C (Z (N (J g6 0 Y)) (r.length+bG op) cx) ((steps:Int)+1) looks D 0 ⟨#[]⟩ D ⟨#[]⟩ D) (by simp[results,Tryz.results230,go_sem,z0,z1,z2,z3,O,G,M,QO,QN,H]) rfl ⟨_,rfl,?_,dD BE (by omega) _ _ _ _ _ _ _ _ _ _⟩;rw[ER.out];refine(yq (v:=dN C (Z (N (J g6 0 Y)) (r.length+bG op) cx) ((steps:Int)+1) looks D 0 ⟨#[]⟩ D ⟨#[]⟩ D) (base:=W.heap.size) ?_ DQ _ _ _ _ _ _ _ _ _ _).mono At;refine⟨N (J g6 0 Y),cx,by rw[FD.out];simp,?_⟩;rw[FD.out,Ax];have h:=OE.out;rw[show QL.take (bG op)=QL by rw[<-n7.2];exact List.take_length] at h;exact h
def Eo (f:Nat->Ins)(cnt:Nat)(y:Nat->aA)(n:Nat)(QK:Turn)(st:Nat):SO->Prop
 | .inr (.inl (c,x,k))=>QK=fC c x k
 | .inr (.inr (a,nm,k))=>QK=mB a nm k
 | .inl (p,k,l,s)=>k=st+1/\k<=2000/\bV f cnt y n (2001 - k) p k l s=QK/\p<=2000/\l<=200/\s.length<=50/\∀ x∈s,x.size<=2000
theorem ue {f:Nat->Ins}{cnt place steps looks:Nat}{b:List ByteArray}(h:b.length<=50)(g:∀ x∈b,x.size<=2000)(hlk:looks<=200)(d:cQ f cnt=QC)(hc:cnt<=200):pd (bH f cnt place steps looks b) looks:=by
 unfold bH;split
 ·trivial
 ·rename_i h1
  split
  ·trivial
  ·split
   ·trivial
   ·rename_i i
    have hi:=jj d (show place<cnt by omega);simp only[cD,j4] at hi;obtain⟨i1,i2,i3,i4,i5⟩:=hi;have hmt:dK (f place).op<=2000:=by unfold dK;split<;>(try split)<;>omega
    have hmt2:bP (f place).op<=2000:=by unfold bP;split<;>omega
    exact iu _ _ _ _ _ _ h g (by omega) (by omega) (by omega) hlk (by omega) (by omega) (by simpa using i)
theorem ug {f:Nat->Ins}{cnt place steps looks:Nat}{b:List ByteArray}{a:Bool}{nm:ByteArray}{s:List ByteArray}(h:bH f cnt place steps looks b=.inr (.inr (a,nm,s))):place<cnt:=by
 unfold bH at h;split at h
 ·cases h
 ·omega
theorem Do {f:Nat->Ins}{cnt:Nat}{y:Nat->aA}{n:Nat}{QK:Turn}{p st l:Nat}{s:List ByteArray}(hst:st<=2000)(q:l<=200)(A:s.length<=50)(m:∀ x∈s,x.size<=2000)(k:cQ f cnt=QC)(C:cnt<=200)(u:bR y n=QC)
  (b:bV f cnt y n (2001 - st) p st l s=QK):Eo f cnt y n QK st (fF f cnt y n p st l s):=by
 obtain⟨j,B⟩:∃ j,2001 - st=j+1:=⟨2000 - st,by omega⟩
 rw[B,bV] at b;have hF:=ue (place:=p) (steps:=st) A m q k C;unfold fF;rcases h:bH f cnt p st l s with ⟨QQ,p'⟩ | ⟨c,x⟩ | ⟨a,nm,QQ⟩
 ·rw[h] at b hF
  obtain⟨i,z⟩:=i8 h;obtain⟨f1,g,t⟩:=hF;simp only[i] at b ⊢;exact⟨rfl,by omega,by rw[show 2001 - (st+1)=j by omega];exact b,t,q,f1,g⟩
 ·rw[h] at b
  exact b.symm
 ·rw[h] at b hF
  obtain⟨i,z⟩:=ku h;obtain⟨f1,g,t,f4⟩:=hF;have hp:=ug h;simp only[i] at b ⊢;simp only[gD,jq];by_cases h1:n<=l
  ·rw[eT h1] at b ⊢
   exact b.symm
  ·rw[a8 h1] at b ⊢
   by_cases h2:a=D
   ·rw[eT h2] at b ⊢
    refine⟨rfl,by omega,by rw[show 2001 - (st+1)=j by omega];exact b,by omega,by omega,by simp;omega,fun x d=>?_⟩;rcases BC.1 d with rfl | d
    ·exact iC _
    ·exact g x d
   ·rw[a8 h2] at b ⊢
    by_cases r:(y l).has=D
    ·rw[eT r] at b ⊢
     exact b.symm
    ·rw[a8 r] at b ⊢
     by_cases o:(y l).code=0
     ·rw[eT o] at b ⊢
      refine⟨rfl,by omega,by rw[show 2001 - (st+1)=j by omega];exact b,by omega,by omega,by simp;omega,fun x d=>?_⟩;rcases BC.1 d with rfl | d
      ·exact(Al u (show l<n by omega)).1
      ·exact g x d
     ·rw[a8 o] at b ⊢
      exact b.symm
theorem Ten.put {w:E}{g:Nat}{o f k d n i l j b m:QB}(h:Ten w g o f k d n i l j b m)(u0 u1 u2 u3 u4 u5 u6 u7 u8 u9:QB):Ten ((((((((((w.setCell (J g 0 Y) u0).setCell (J g 1 Y) u1).setCell (J g 2 Y) u2).setCell (J g 3 Y) u3).setCell (J g 4 Y) u4).setCell (J g 5 Y) u5).setCell (J g 6 Y) u6).setCell (J g 7 Y) u7).setCell (J g 8 Y) u8).setCell (J g 9 Y) u9) g u0 u1 u2 u3 u4 u5 u6 u7 u8 u9 :=
 (((((((((h.set0 u0).set1 u1).set2 u2).set3 u3).set4 u4).set5 u5).set6 u6).set7 u7).set8 u8).set9 u9
theorem nE {g:Nat}{u w:E}(h:Only g u w)(u0 u1 u2 u3 u4 u5 u6 u7 u8 u9:QB):Only g u ((((((((((w.setCell (J g 0 Y) u0).setCell (J g 1 Y) u1).setCell (J g 2 Y) u2).setCell (J g 3 Y) u3).setCell (J g 4 Y) u4).setCell (J g 5 Y) u5).setCell (J g 6 Y) u6).setCell (J g 7 Y) u7).setCell (J g 8 Y) u8).setCell (J g 9 Y) u9) :=
 bZ (bZ (bZ (bZ (bZ (bZ (bZ (bZ (bZ (bZ h 0 u0) 1 u1) 2 u2) 3 u3) 4 u4) 5 u5) 6 u6) 7 u7) 8 u8) 9 u9
def uW (w:E)(g d:Nat)(f:Nat->Ins)(cnt:Nat)(y:Nat->aA)(n:Nat)(QK:Turn)(k:Nat):Prop :=
 (∃ p st l s a b,Ten w g (Q I (p:Nat)) (Z a (List.length s) b) (Q I (st:Nat)) (Q I (l:Nat)) (QA D) (Q I 0) (U ⟨#[]⟩) (QA D) (U ⟨#[]⟩) (QA D)/\w.ownsRow d 9 1 (Z a s.length b) s.length (strs s) /\
  st<=2000/\bV f cnt y n (2001 - st) p st l s=QK/\p<=2000/\l<=200/\s.length<=50/\(∀ x∈s,x.size<=2000)/\2002 - st<=k) ∨
 (∃ at_ sv lk c x,∃ st:Nat,Ten w g at_ sv (Q I st) lk (QA QC) (Q I c) (U x) (QA D) (U ⟨#[]⟩) (QA D)/\QK=fC c x st) ∨
 (∃ at_ sv lk a nm,∃ st:Nat,Ten w g at_ sv (Q I st) lk (QA D) (Q I 0) (U ⟨#[]⟩) (QA a) (U nm) (QA QC)/\QK=mB a nm st)
theorem Dp {w:E}{b n d:Nat}{e:TypeId}{a:Option Addr}{f:List QB}(h:w.ownsRow b e 1 (Z a n d) n f){k:Nat}(y:k<b)(x l p i t m q o g r:QB):World.ownsRow ((((((((((w.setCell (J k 0 Y) x).setCell (J k 1 Y) l).setCell (J k 2 Y) p).setCell (J k 3 Y) i).setCell (J k 4 Y) t).setCell (J k 5 Y) m).setCell (J k 6 Y) q).setCell (J k 7 Y) o).setCell (J k 8 Y) g).setCell (J k 9 Y) r) b e 1 (Z a n d) n f:=by have s:∀ {w:E} (j:Nat) (u:QB),w.ownsRow b e 1 (Z a n d) n f->(w.setCell (J k j Y) u).ownsRow b e 1 (Z a n d) n f:=fun j u h=>MP h (a:=(J k j Y)) y u;exact s 9 r (s 8 g (s 7 o (s 6 q (s 5 m (s 4 t (s 3 i (s 2 p (s 1 l (s 0 x h)))))))))
theorem mP (h g cnt d n q:Nat)(C:Option Addr)(f:Nat->Ins)(w:E)(L:cnt<=1048576)(r:valid f cnt=QC->200<(n:Int))(z:RowIns w h g cnt f)(u:∀ i,i<cnt->(f i).s.size<=maxLen):Calls Tryz.prog 186 #[QE #[Z (N (J h g Y)) cnt d],Z C n q] w fun e o=>e=QD badT.v/\Below w.heap.size w o:=by
 have QP:=ae z;have t:=ae ((((Qs w).alloc lr (T #[Z (N (J h g Y)) cnt d] 31))).alloc (by simp) (T #[QA D,Q I 0,U ⟨#[]⟩,QA D,U ⟨#[]⟩,Q I 0] 61));have l:=jQ (w.alloc (T #[Z (N (J h g Y)) cnt d] 31)) (QA D) (Q I 0) (U ⟨#[]⟩) (QA D) (U ⟨#[]⟩) (Q I 0) 61;rw[show(w.alloc (T #[Z (N (J h g Y)) cnt d] 31)).heap.size=w.heap.size+1 by simp] at l;have x:=ae l;have p:=fun o h1 h2=>fJ h g cnt d f o L h1 h2 u;generalize valid f cnt=b at r p;have y:=ae p;have B:=ae r;clear l p z u r;go_enter Tryz.func186,Tryz.ntmps186;go_wp2_with fail;have m:=ae (QP.below t lr);refine(y _ m.1 m.2).mono ?_;rintro e w1 ⟨rfl,k⟩;have j:=ae (x.below k (by simp));have A:=ae (t.trans (k.mono (by simp;omega)));clear k t x m;obtain⟨v0,QN,y0⟩:=j.2 0 (by omega);obtain⟨v1,H,y1⟩:=j.2 1 (by omega);obtain⟨v2,K,y2⟩:=j.2 2 (by omega);obtain⟨v3,QO,y3⟩:=j.2 3 (by omega);obtain⟨v4,G,y4⟩:=j.2 4 (by omega);obtain⟨v5,QQ,y5⟩:=j.2 5 (by omega);cases b
 all_goals
  (try have hn2:=B.out rfl)
  go_wp2;refine bp (v:=badT.v) (by simp[results,Tryz.results186,go_sem,Turn.v,badT,QN,H,K,QO,G,QQ]) rfl ⟨rfl,dV A (by omega) _ _ _ _ _ _⟩
theorem uh (o r cnt d P o2 n QH:Nat)(f:Nat->Ins)(y:Nat->aA)(w:E)(hn:cnt<=1048576)(hv:valid f cnt=QC)(hn2:(n:Int)<=200)(hP:RowIns w o r cnt f)(hY:RowReply w P o2 n y)(hs:∀ i,i<cnt->(f i).s.size<=maxLen)(QK:Turn)(hT:QK=if bR y n=D then badT else bV f cnt y n 2001 0 0 0 []):Calls Tryz.prog 186 #[QE #[Z (N (J o r Y)) cnt d],Z (N (J P o2 Y)) n QH] w fun e w'=>e=QD QK.v/\Below w.heap.size w w':=by
 have HV:=ae (bY hv).1;have mv:cnt<=200:=by have:=(bY hv).2.2;omega
 have O:=ae hY;have QM:=ae hT;clear hY hT;have QG:=ae hP;have A0:=ae ((((Qs w).alloc lr (T #[Z (N (J o r Y)) cnt d] 31))).alloc (by simp) (T #[QA D,Q I 0,U ⟨#[]⟩,QA D,U ⟨#[]⟩,Q I 0] 61));have R:=jQ (w.alloc (T #[Z (N (J o r Y)) cnt d] 31)) (QA D) (Q I 0) (U ⟨#[]⟩) (QA D) (U ⟨#[]⟩) (Q I 0) 61;rw[show(w.alloc (T #[Z (N (J o r Y)) cnt d] 31)).heap.size=w.heap.size+1 by simp] at R;have X0:=ae R;have IV:=fun w' h1 h2=>fJ o r cnt d f w' hn h1 h2 hs;rw[hv] at IV;have qr:=ae IV;clear R IV hP hs hv;go_enter Tryz.func186,Tryz.ntmps186;go_wp2_with fail;have P1:=ae (QG.below A0 lr);refine(qr _ P1.1 P1.2).mono ?_;rintro e w1 ⟨rfl,K⟩;have c1:w1.cell? (J w.heap.size 0 Y)=N (Z (N (J o r Y)) cnt d):=(K.cell (p:=(J w.heap.size 0 Y)) (by simp;omega)).trans (by simp);have HX:=ae (X0.below K (by simp));have B1:=ae (A0.trans (K.mono (by simp;omega)));have z1:w.heap.size+1<w1.heap.size:=HX.1;clear K A0 X0 P1;have ro:=ae (O.below B1 lr);go_wp2_with fail;go_loopw [5] (fun i wr=>∃ j:Nat,j<=n/\i=Q I j/\Hid (bR y j=QC)/\Below w1.heap.size w1 wr) (fun i _=>n - (intOf i).toNat);case atStart=>exact⟨0,by omega,rfl,rfl,eI _ _⟩
 case round =>
  obtain⟨j,hj,rfl,HK,QJ⟩:=hrel;have b:=ae (HX.below QJ HX.1);have H:=ae (B1.trans (QJ.mono B1.size));have cp:wr.cell? (J w.heap.size 0 Y)=N (Z (N (J o r Y)) cnt d):=(QJ.cell (p:=(J w.heap.size 0 Y)) (by simp;omega)).trans c1;have zr:w.heap.size+1<wr.heap.size:=b.1;have fd:=ae QJ;clear QJ;by_cases z:j<n
  ·obtain⟨d0,d1,d2⟩:=(O.below H lr).2 j z
   obtain⟨v0,QN,y0⟩:=b.2 0 (by omega);obtain⟨v1,C,y1⟩:=b.2 1 (by omega);obtain⟨v2,G,y2⟩:=b.2 2 (by omega);obtain⟨v3,QP,y3⟩:=b.2 3 (by omega);obtain⟨v4,B,y4⟩:=b.2 4 (by omega);obtain⟨v5,QO,y5⟩:=b.2 5 (by omega);by_cases g1:((y j).text.size:Int)<=2000
   ·by_cases g2:0<=(y j).code
    ·by_cases g3:(y j).code<=7
     ·go_wp2
      refine⟨⟨j+1,by omega,by go_num,?_,?_⟩,by simp[intOf];omega⟩
      ·show bR y (j+1)=QC
       simp only[bR,HK.out,bT,JA,j4];omega
      ·exact fd
     ·go_wp2
      have u:QK=badT:=by rw[QM.out,eT (gh z (by simp only[bT,IL];omega))]
      refine bp (v:=badT.v) (by simp[results,Tryz.results186,go_sem,Turn.v,badT,QN,C,G,QP,B,QO]) rfl ⟨by rw[u],dV H (by omega) _ _ _ _ _ _⟩
    ·go_wp2
     have u:QK=badT:=by rw[QM.out,eT (gh z (by simp only[bT,IL];omega))]
     refine bp (v:=badT.v) (by simp[results,Tryz.results186,go_sem,Turn.v,badT,QN,C,G,QP,B,QO]) rfl ⟨by rw[u],dV H (by omega) _ _ _ _ _ _⟩
   ·go_wp2
    have u:QK=badT:=by rw[QM.out,eT (gh z (by simp only[bT,IL];omega))]
    refine bp (v:=badT.v) (by simp[results,Tryz.results186,go_sem,Turn.v,badT,QN,C,G,QP,B,QO]) rfl ⟨by rw[u],dV H (by omega) _ _ _ _ _ _⟩
  ·have e:j=n:=by omega
   subst e;have u:QK=bV f cnt y j 2001 0 0 0 []:=by rw[QM.out,a8 (by simp[HK.out])]
   have ET:=ae u;clear u QM ro;have RN:=ae (jR wr (Q I 0) (Z Y 0 0) (Q I 0) (Q I 0) (QA D) (Q I 0) (U ⟨#[]⟩) (QA D) (U ⟨#[]⟩) (QA D) 292 wr.heap.size rfl);have A2:=ae ((Qs wr).alloc lr (T #[Q I 0,Z Y 0 0,Q I 0,Q I 0,QA D,Q I 0,U ⟨#[]⟩,QA D,U ⟨#[]⟩,QA D] 292));have XN:=ae (b.below A2 b.1);have BN:=ae (H.trans (A2.mono H.size));have cN:=(A2.cell (p:=(J w.heap.size 0 Y)) (by simp;omega)).trans cp;have L:wr.heap.size<(wr.alloc (T #[Q I 0,Z Y 0 0,Q I 0,Q I 0,QA D,Q I 0,U ⟨#[]⟩,QA D,U ⟨#[]⟩,QA D] 292)).heap.size:=by simp
   go_wp2_with fail;clear c1 cp;generalize wr.alloc (T #[Q I 0,Z Y 0 0,Q I 0,Q I 0,QA D,Q I 0,U ⟨#[]⟩,QA D,U ⟨#[]⟩,QA D] 292)=S at RN XN BN cN L ⊢;generalize wr.heap.size=rb at RN zr L ⊢;have n7:P<rb:=ll O.1 (by omega);have n8:o<rb:=ll QG.1 (by omega);have S0:Hid (uW S rb S.heap.size f cnt y j QK 2002):=.inl ⟨0,0,0,[],Y,0,RN,H7 _ _ _ _,by omega,ET.symm,by omega,by omega,by simp,by simp,by omega⟩;have PN:=ae (QG.below BN lr);have YN:=ae (O.below BN lr);clear RN ET b H fd z HX B1 QG O;go_loopg [] 2002 (fun g wr=>uW wr rb S.heap.size f cnt y j QK g/\Only rb S wr);case atStart=>exact⟨S0,Only.refl _ _⟩
   case round =>
    obtain⟨hst,A⟩:=hrel;have HO:=ae A;have cw:wr.cell? (J w.heap.size 0 Y)=N (Z (N (J o r Y)) cnt d):=(A.cell w.heap.size 0 (by omega) (by omega)).trans cN;have ex:rb<wr.heap.size:=ll L A.size;have bt:=ae (A.below (j6 rb) (KI L));have BW:=ae (BN.trans (A.below (show w.heap.size<=rb by omega) (by omega)));have m:=ae (XN.only A (by omega));have zw:w.heap.size+1<wr.heap.size:=m.1;clear A;rcases hst with ⟨p,st,l,s,a,ld,h,W,k1,k2,k3,k4,k5,k6,k7⟩ | ⟨at_,sv,lk,c,x,st,h,q⟩ | ⟨at_,sv,lk,a,nm,st,h,q⟩
    ·have n6:=ae h
     have OW:=ae W;have ph:=ae (Do k1 k4 k5 k6 HV mv HK k2);have K6:=ae k6;have PW:Hid (RowIns wr o r cnt f):=⟨ll PN.1 HO.size,fun i hi=>(PN.2 i hi).below bt n8⟩
     have YW:Hid (RowReply wr P o2 j y):=⟨ll YN.1 HO.size,fun i hi=>(YN.2 i hi).below bt n7⟩
     obtain⟨V,⟨c0,f0⟩,⟨c1,f1⟩,⟨c2,f2⟩,⟨c3,f3⟩,⟨c4,f4⟩,⟨c5,f5⟩,⟨c6,f6⟩,⟨c7,f7⟩,⟨c8,f8⟩,c9,f9⟩:=h;clear W k2 k6;go_wp2_with fail;refine(wV o r cnt d p st l f a s ld P o2 j QH S.heap.size y _ PW YW OW k3 k1 k4 k5 K6 HV).mono ?_;rintro e w3 ⟨v,rfl,M,X⟩;have QL:=ae (n6.below X ex);have O3:=ae (HO.bel X);clear V c0 f0 c1 f1 c2 f2 c3 f3 c4 f4 c5 f5 c6 f6 c7 f7 c8 f8 c9 f9;clear X;have t:=ph.out;obtain⟨g,rfl⟩:∃ g,gk=g+1:=⟨gk - 1,by omega⟩
     generalize fF f cnt y j p st l s=so at M t;rcases so with ⟨p',n9,l',s'⟩ | ⟨c,x,k⟩ | ⟨a1,nm,k⟩
     ·obtain⟨a',c',rfl,la⟩:=M
      obtain⟨m1,m2,m3,m4,m5,m6,m7⟩:=t;have OE:=ae la;have M3:=ae m3;have M7:=ae m7;have M1:=ae m1;clear la m3 m7 m1;obtain⟨aq,⟨e0,u0⟩,⟨e1,u1⟩,⟨e2,u2⟩,⟨e3,u3⟩,⟨e4,u4⟩,⟨e5,u5⟩,⟨e6,u6⟩,⟨e7,u7⟩,⟨e8,u8⟩,e9,u9⟩:=QL.out;go_wp2;go_roundg g;case measure=>omega
      case rel=>exact⟨.inl ⟨p',n9,l',s',a',c',QL.put _ _ _ _ _ _ _ _ _ _,aI (Dp OE ex _ _ _ _ _ _ _ _ _ _) HO.size,m2,M3,m4,m5,m6,M7,by have:=M1.out;omega⟩,nE O3 _ _ _ _ _ _ _ _ _ _⟩
     ·obtain⟨at_,a',n',c',lk,rfl⟩:=M
      have q:QK=fC c x k:=t;have QQ:=ae q;clear q t;obtain⟨aq,⟨e0,u0⟩,⟨e1,u1⟩,⟨e2,u2⟩,⟨e3,u3⟩,⟨e4,u4⟩,⟨e5,u5⟩,⟨e6,u6⟩,⟨e7,u7⟩,⟨e8,u8⟩,e9,u9⟩:=QL.out;go_wp2;go_roundg g;case measure=>omega
      case rel=>exact⟨.inr (.inl ⟨_,_,_,_,_,_,QL.put _ _ _ _ _ _ _ _ _ _,QQ⟩),nE O3 _ _ _ _ _ _ _ _ _ _⟩
     ·obtain⟨at_,a',n',c',lk,rfl⟩:=M
      have q:QK=mB a1 nm k:=t;have QQ:=ae q;clear q t;obtain⟨aq,⟨e0,u0⟩,⟨e1,u1⟩,⟨e2,u2⟩,⟨e3,u3⟩,⟨e4,u4⟩,⟨e5,u5⟩,⟨e6,u6⟩,⟨e7,u7⟩,⟨e8,u8⟩,e9,u9⟩:=QL.out;go_wp2;go_roundg g;case measure=>omega
      case rel=>exact⟨.inr (.inr ⟨_,_,_,_,_,_,QL.put _ _ _ _ _ _ _ _ _ _,QQ⟩),nE O3 _ _ _ _ _ _ _ _ _ _⟩
    ·have QQ:=ae q
     obtain⟨V,⟨c0,f0⟩,⟨c1,f1⟩,⟨c2,f2⟩,⟨c3,f3⟩,⟨c4,f4⟩,⟨c5,f5⟩,⟨c6,f6⟩,⟨c7,f7⟩,⟨c8,f8⟩,c9,f9⟩:=h;obtain⟨v0,QN,y0⟩:=m.2 0 (by omega);obtain⟨v1,C,y1⟩:=m.2 1 (by omega);obtain⟨v2,G,y2⟩:=m.2 2 (by omega);obtain⟨v3,QP,y3⟩:=m.2 3 (by omega);obtain⟨v4,B,y4⟩:=m.2 4 (by omega);obtain⟨v5,QO,y5⟩:=m.2 5 (by omega);clear q;go_wp2;refine bp (v:=QK.v) (by rw[QQ.out];simp[results,Tryz.results186,go_sem,Turn.v,fC,QN,C,G,QP,B,QO]) rfl ⟨rfl,dV BW (by omega) _ _ _ _ _ _⟩
    ·have QQ:=ae q
     obtain⟨V,⟨c0,f0⟩,⟨c1,f1⟩,⟨c2,f2⟩,⟨c3,f3⟩,⟨c4,f4⟩,⟨c5,f5⟩,⟨c6,f6⟩,⟨c7,f7⟩,⟨c8,f8⟩,c9,f9⟩:=h;obtain⟨v0,QN,y0⟩:=m.2 0 (by omega);obtain⟨v1,C,y1⟩:=m.2 1 (by omega);obtain⟨v2,G,y2⟩:=m.2 2 (by omega);obtain⟨v3,QP,y3⟩:=m.2 3 (by omega);obtain⟨v4,B,y4⟩:=m.2 4 (by omega);obtain⟨v5,QO,y5⟩:=m.2 5 (by omega);clear q;go_wp2;refine bp (v:=QK.v) (by rw[QQ.out];simp[results,Tryz.results186,go_sem,Turn.v,mB,QN,C,G,QP,B,QO]) rfl ⟨rfl,dV BW (by omega) _ _ _ _ _ _⟩
theorem sJ (j g cnt d k m n b:Nat)(f:Nat->Ins)(y:Nat->aA)(w:E)(p:cnt<=1048576)(o:RowIns w j g cnt f)(r:RowReply w k m n y)(l:∀ i,i<cnt->(f i).s.size<=maxLen):Calls Tryz.prog 186 #[QE #[Z (N (J j g Y)) cnt d],Z (N (J k m Y)) n b] w fun e t=>e=QD (mC f cnt y n).v/\Below w.heap.size w t:=by
 unfold mC;by_cases h1:valid f cnt=D
 ·rw[eT h1]
  exact mP j g cnt d n b _ f w p (fun h=>absurd (h1.symm.trans h) (by simp)) o l
 ·have q:valid f cnt=QC:=by simpa using h1
  rw[a8 h1];by_cases h2:200<n
  ·rw[eT h2]
   exact mP j g cnt d n b _ f w p (fun _=>by omega) o l
  ·rw[a8 h2]
   exact uh j g cnt d k m n b f y w p q (by omega) o r l _ rfl
end Go.Proofs.YtkdimgejdocbbaaGreatDoor.Vp
