import Derived.Test.YtkdimgejdocbbaaGreatDoorYP
import Derived.Deep.CutBlock
set_option maxRecDepth 1000000
set_option maxHeartbeats 8000000
open Go.Addr renaming mk->J
open Go.Value renaming slice->Y,string->U,int->N,bool->QA,agg->QE
open Option renaming none->Z,some->Q
open Go.Obj renaming cells->T
open Go.IntKind renaming i64->I
open Go renaming World->E,Value->QB
open Bool renaming false->D,true->QC
open Go.Ending renaming returned->QD
namespace Go.Proofs.YtkdimgejdocbbaaGreatDoor.Vp
open RowKit
theorem wV (pb po cnt mv place steps looks:Nat)(f:Nat->Ins)(a:Option Addr)(s:List ByteArray)(l b2 o2 n Fd th:Nat)(y:Nat->aA)(w:E)
  (hP:RowIns w pb po cnt f) (hY:RowReply w b2 o2 n y) (hO:w.ownsRow th 9 1 (Y a s.length l) s.length (strs s)) (hp:place<=2000) (hst:steps<=2000) (hlk:looks<=200) (hs:s.length<=50) (Fr:∀ x∈s,x.size<=2000) (Fz:cQ f cnt=QC) :
  Calls Tryz.prog 230 #[QE #[Y (Q (J pb po Z)) cnt mv],dN place (Y a s.length l) steps looks D 0 ⟨#[]⟩ D ⟨#[]⟩ D,Y (Q (J b2 o2 Z)) n Fd] w fun e w'=>∃ v,e=QD v/\SoIs w' w.heap.size v (fF f cnt y n place steps looks s)/\Below w.heap.size w w':=by
 obtain⟨so,la⟩:∃ so,so=fF f cnt y n place steps looks s:=⟨_,rfl⟩
 rw[<-la];have S0:=ae la;clear la;have HP:=ae hP;have HY:=ae hY;have HO:=ae hO;have HK:=ae Fz;have HL:=ae Fr;clear hP hY hO Fz Fr;have A0:=ae ((((Qs w).alloc lr (T #[Y (Q (J pb po Z)) cnt mv] 31)).alloc (by simp) (T #[N I place,Y a s.length l,N I steps,N I looks,QA D,N I 0,U ⟨#[]⟩,QA D,U ⟨#[]⟩,QA D] 292)).alloc (by simp<;>omega) (T #[N I 0,Y Z 0 0,N I 0,N I 0,QA D,N I 0,U ⟨#[]⟩,QA D,U ⟨#[]⟩,QA D] 292));have R0:=ae ((jR (w.alloc (T #[Y (Q (J pb po Z)) cnt mv] 31)) (N I place) (Y a s.length l) (N I steps) (N I looks) (QA D) (N I 0) (U ⟨#[]⟩) (QA D) (U ⟨#[]⟩) (QA D) 292 (w.heap.size+1) (by simp)).al (T #[N I 0,Y Z 0 0,N I 0,N I 0,QA D,N I 0,U ⟨#[]⟩,QA D,U ⟨#[]⟩,QA D] 292));have Z0:=ae (jR ((w.alloc (T #[Y (Q (J pb po Z)) cnt mv] 31)).alloc (T #[N I place,Y a s.length l,N I steps,N I looks,QA D,N I 0,U ⟨#[]⟩,QA D,U ⟨#[]⟩,QA D] 292)) (N I 0) (Y Z 0 0) (N I 0) (N I 0) (QA D) (N I 0) (U ⟨#[]⟩) (QA D) (U ⟨#[]⟩) (QA D) 292 (w.heap.size+1+1) (by simp));go_enter Tryz.func230,Tryz.ntmps230;go_wp2_with fail;refine(pH place (by omega) _).mono ?_;rintro e d ⟨rfl,aq⟩;have hD:(⟨(Lib.decDigits place).toArray⟩:ByteArray)=dI place:=rfl;rw[hD];have R1:=ae (R0.below aq (by simp<;>omega));have Z1:=ae (Z0.below aq (by simp<;>omega));have B1:=ae (A0.trans (aq.mono (by simp<;>omega)));have pP:d.cell? (J w.heap.size 0 Z)=Q (Y (Q (J pb po Z)) cnt mv):=(aq.cell (p:=(J w.heap.size 0 Z)) (by simp<;>omega)).trans (Em _ _ _ _ _ _ _ rfl);have O1:=ae (own_below HO B1 lr);have hz1:w.heap.size+1+1<d.heap.size:=Z1.1;have hz0:w.heap.size<d.heap.size:=by omega
 have hz01:w.heap.size+1<d.heap.size:=by omega
 clear aq A0 R0 Z0 hD;obtain⟨m,⟨c0,f0⟩,⟨c1,f1⟩,⟨c2,QL⟩,⟨c3,QJ⟩,⟨c4,QG⟩,⟨c5,f5⟩,⟨X,QH⟩,⟨R,QK⟩,⟨L,V⟩,P,f9⟩:=R1.out;rcases Int.lt_or_le (place:Int) cnt with h1 | h1;rotate_left
 ·have S1:Hid (so=.inr (.inl (2,(dI place),steps))):=S0.trans (show fF f cnt y n place steps looks s=.inr (.inl (2,(dI place),steps)) by have h:cnt<=place:=(by omega);simp[fF,gD,bH,cF,h])
  go_wp2_with fail;refine(fl _ _ _ _ _ _ _ _ _ _ _ _ _ _ _).mono ?_;rintro e w5 ⟨rfl,b⟩;have S:=ae (Z1.below b Z1.1);have QQ:=ae (B1.trans (b.mono B1.size));clear b;clear m c0 f0 c1 f1 c2 QL c3 QJ c4 QG c5 f5 X QH R QK L V P f9;obtain⟨ld,⟨z0,y0⟩,⟨z1,y1⟩,⟨z2,y2⟩,⟨z3,y3⟩,⟨K,y4⟩,⟨H,y5⟩,⟨QN,y6⟩,⟨QO,y7⟩,⟨M,y8⟩,O,y9⟩:=S.out;go_wp2;refine bp (v:=dN place (Y a s.length l) steps looks QC 2 (dI place) D ⟨#[]⟩ D) (by simp[results,Tryz.results230,go_sem,z0,z1,z2,z3,K,H,QN,QO,M,O]) rfl ⟨_,rfl,(by rw[S1.out];exact⟨_,_,_,_,_,rfl⟩),dD QQ (by omega) _ _ _ _ _ _ _ _ _ _⟩
 rcases Bool.eq_false_or_eq_true ((steps:Int) == 2000) with h2 | h2
 ·have S1:Hid (so=.inr (.inl (3,⟨#[]⟩,steps))):=S0.trans (show fF f cnt y n place steps looks s=.inr (.inl (3,⟨#[]⟩,steps)) by have h:¬ cnt<=place:=(by omega);have e:steps=2000:=(by simp at h2;omega);simp[fF,gD,bH,cF,h,e])
  go_wp2_with fail;refine(fl _ _ _ _ _ _ _ _ _ _ _ _ _ _ _).mono ?_;rintro e w5 ⟨rfl,b⟩;have S:=ae (Z1.below b Z1.1);have QQ:=ae (B1.trans (b.mono B1.size));clear b;clear m c0 f0 c1 f1 c2 QL c3 QJ c4 QG c5 f5 X QH R QK L V P f9;obtain⟨ld,⟨z0,y0⟩,⟨z1,y1⟩,⟨z2,y2⟩,⟨z3,y3⟩,⟨K,y4⟩,⟨H,y5⟩,⟨QN,y6⟩,⟨QO,y7⟩,⟨M,y8⟩,O,y9⟩:=S.out;go_wp2;refine bp (v:=dN place (Y a s.length l) steps looks QC 3 ⟨#[]⟩ D ⟨#[]⟩ D) (by simp[results,Tryz.results230,go_sem,z0,z1,z2,z3,K,H,QN,QO,M,O]) rfl ⟨_,rfl,(by rw[S1.out];exact⟨_,_,_,_,_,rfl⟩),dD QQ (by omega) _ _ _ _ _ _ _ _ _ _⟩
 have hi:=jj HK.out (show place<cnt by omega);simp only[cD,j4] at hi;obtain⟨op,Fq⟩:=xT (show 0<=(f place).op by omega);obtain⟨k,hk⟩:=xT hi.2.2.2.1;have FJ:dK (f place).op<=2000:=by unfold dK;split<;>(try split)<;>omega
 have FG:bP (f place).op<=2000:=by unfold bP;split<;>omega
 have F8:k<=2000:=by omega
 have FV:(f place).s.size<=2000:=by omega
 have qr:1<=op:=by omega
 have Fw:op<=15:=by omega
 have EP:Hid (so=if eC op s=D then .inr (.inl (2,(dI place),(steps+1))) else gD y n place (steps+1) looks (cC op k (f place).s place looks s)):=by
  show _=_;rw[S0.out];have q1:¬ cnt<=place:=by omega
  have q2:¬ steps=2000:=by simp at h2;omega
  simp only[fF,bH,cF,q1,q2,LM,Fq,hk,KQ];split<;>rfl
 clear hi FJ FG HK;obtain⟨d0,d1,d2⟩:=(HP.below B1 lr).2 place (by omega);rw[Fq] at d0;rw[hk] at d2;have hpb:pb<w.heap.size:=HP.1;have FZ:=(cell_far d (J (w.heap.size+1) 2 Z) (J pb (po+place*3) Z) (N I ((steps:Int)+1)) (by simp;omega)).trans d0;have FO:=(cell_far d (J (w.heap.size+1) 2 Z) (J pb (po+place*3+1) Z) (N I ((steps:Int)+1)) (by simp;omega)).trans d1;have FP:=(cell_far d (J (w.heap.size+1) 2 Z) (J pb (po+place*3+2) Z) (N I ((steps:Int)+1)) (by simp;omega)).trans d2;have FC:∀ j,w.heap.size<=j->Value.ownBlock (Y a s.length l)≠Q j:=fun j hj e=>by have:=(HO.lt j e).2;omega
 have R2:=ae ((R1.set2 (N I ((steps:Int)+1))).al (T #[N I op,U (f place).s,N I k] 188));have Z2:=ae ((Z1.other (J (w.heap.size+1) 2 Z) (N I ((steps:Int)+1)) (by simp)).al (T #[N I op,U (f place).s,N I k] 188));have O2:=ae ((MJ O1 (a:=(J (w.heap.size+1) 2 Z)) (FC _ (by simp)) (N I ((steps:Int)+1))).alloc (T #[N I op,U (f place).s,N I k] 188));have B2:=ae ((B1.setCell (p:=(J (w.heap.size+1) 2 Z)) (by simp) (N I ((steps:Int)+1))).alloc (by have:=B1.size;simpa using this) (T #[N I op,U (f place).s,N I k] 188));have g0:((d.setCell (J (w.heap.size+1) 2 Z) (N I ((steps:Int)+1))).alloc (T #[N I op,U (f place).s,N I k] 188)).cell? (J d.heap.size 0 Z)=Q (N I op):=jA _ _ _ _ _ _ (by simp) rfl;have g1:((d.setCell (J (w.heap.size+1) 2 Z) (N I ((steps:Int)+1))).alloc (T #[N I op,U (f place).s,N I k] 188)).cell? (J d.heap.size 1 Z)=Q (U (f place).s):=jA _ _ _ _ _ _ (by simp) rfl;have g2:((d.setCell (J (w.heap.size+1) 2 Z) (N I ((steps:Int)+1))).alloc (T #[N I op,U (f place).s,N I k] 188)).cell? (J d.heap.size 2 Z)=Q (N I k):=jA _ _ _ _ _ _ (by simp) rfl;have fd:d.heap.size<((d.setCell (J (w.heap.size+1) 2 Z) (N I ((steps:Int)+1))).alloc (T #[N I op,U (f place).s,N I k] 188)).heap.size:=by simp
 clear FC;go_wp2_with fail;refine(ub op _ qr Fw).mono ?_;rintro e w9 ⟨rfl,FN⟩;subst FN;clear m c0 f0 c1 f1 c2 QL c3 QJ c4 QG c5 f5 X QH R QK L V P f9;clear d0 d1 d2 FZ FO FP Fq hk pP;generalize ((d.setCell (J (w.heap.size+1) 2 Z) (N I ((steps:Int)+1))).alloc (T #[N I op,U (f place).s,N I k] 188))=W at R2 Z2 O2 B2 g0 g1 g2 fd ⊢;obtain⟨m,⟨c0,f0⟩,⟨c1,f1⟩,⟨c2,QL⟩,⟨c3,QJ⟩,⟨c4,QG⟩,⟨c5,f5⟩,⟨X,QH⟩,⟨R,QK⟩,⟨L,V⟩,P,f9⟩:=R2.out;have hpt:=Aw op;have FM:aM op<=2:=by unfold aM;split<;>(try split)<;>omega
 by_cases hb:eC op s=D
 ·have S1:Hid (so=.inr (.inl (2,(dI place),(steps+1)))):=by rw[EP.out,eT hb];rfl
  have hA:(s.length:Int)<(aM op:Nat)∨¬ (s.length:Int)<(aM op:Nat)/\(50:Int)<(s.length:Int) - (aM op:Nat)+(bG op:Nat):=by simp only[eC,IK] at hb;omega
  clear hb EP;rcases hA with hA | ⟨hA,FE⟩
  iterate 2
   ·go_wp2_with fail
    refine(fl _ _ _ _ _ _ _ _ _ _ _ _ _ _ _).mono ?_;rintro e w5 ⟨rfl,b⟩;have S:=ae (Z2.below b Z2.1);have QQ:=ae (B2.trans (b.mono B2.size));clear b;clear m c0 f0 c1 f1 c2 QL c3 QJ c4 QG c5 f5 X QH R QK L V P f9;obtain⟨ld,⟨z0,y0⟩,⟨z1,y1⟩,⟨z2,y2⟩,⟨z3,y3⟩,⟨K,y4⟩,⟨H,y5⟩,⟨QN,y6⟩,⟨QO,y7⟩,⟨M,y8⟩,O,y9⟩:=S.out;go_wp2;refine bp (v:=dN place (Y a s.length l) ((steps:Int)+1) looks QC 2 (dI place) D ⟨#[]⟩ D) (by simp[results,Tryz.results230,go_sem,z0,z1,z2,z3,K,H,QN,QO,M,O]) rfl ⟨_,rfl,(by rw[S1.out];exact⟨_,_,_,_,_,rfl⟩),dD QQ (by omega) _ _ _ _ _ _ _ _ _ _⟩
 have Ft:aM op<=s.length/\s.length - aM op+bG op<=50:=by simpa[eC] using hb
 have hA:¬ (s.length:Int)<(aM op:Nat):=by omega
 have FE:¬ (50:Int)<(s.length:Int) - (aM op:Nat)+(bG op:Nat):=by omega
 have SO:Hid (so=gD y n place (steps+1) looks (cC op k (f place).s place looks s)):=by rw[EP.out,a8 hb];rfl
 have HB:=ae Ft.1;have F1:(s.drop (aM op)).length+bG op<=50:=by rw[IH];omega
 clear hb Ft EP;obtain⟨A,Fx⟩:∃ A,A=kE op s:=⟨_,rfl⟩
 obtain⟨B,aq⟩:∃ B,B=pj op s:=⟨_,rfl⟩
 obtain⟨r,n6⟩:∃ r,r=s.drop (aM op):=⟨_,rfl⟩
 rw[<-n6] at F1;have EA:=ae Fx;have EB:=ae aq;have ER:=ae n6;clear S0 Fx aq n6;go_upto_if 68 with fail;go_cut [11] (fun sa G=>sa=U A/\W=G);case first =>
  by_cases ht:(0:Int)<(aM op:Nat)
  ·rcases s with _ | ⟨x,q⟩
   ·exact absurd HB.out (by simp;omega)
   ·obtain⟨g,c,e⟩:=gw O2 (by simp)
    obtain⟨rfl,-⟩:=Value.slice.inj e;have t1:=CU O2.out;have FX:q.length<=50:=by simp at hs;omega
    obtain rfl:A=x:=by rw[EA.out];unfold kE;rw[eT (by omega)];rfl
    rw[o3] at c1;go_wp2;go_meet;exact⟨rfl,rfl⟩
  ·obtain rfl:A=⟨#[]⟩:=by rw[EA.out];unfold kE;rw[a8 (by omega)]
   go_wp2;go_meet;exact⟨rfl,rfl⟩
 case rest =>
 obtain⟨rfl,rfl⟩:=hcut;go_upto_if 78 with fail;go_cut [12] (fun sa G=>sa=U B/\W=G);case first =>
  by_cases ht:(1:Int)<(aM op:Nat)
  ·rcases s with _ | ⟨x,_ | ⟨z,q⟩⟩
   ·exact absurd HB.out (by simp;omega)
   ·exact absurd HB.out (by simp;omega)
   ·obtain⟨g,c,e⟩:=gw O2 (by simp)
    obtain⟨rfl,-⟩:=Value.slice.inj e;obtain⟨t1,t2⟩:=CY O2;have FX:q.length+1<=50:=by simp at hs;omega
    obtain rfl:B=z:=by rw[EB.out];unfold pj;rw[eT (by omega)];rfl
    rw[o3,o3] at c1;go_wp2;go_meet;exact⟨rfl,rfl⟩
  ·obtain rfl:B=⟨#[]⟩:=by rw[EB.out];unfold pj;rw[a8 (by omega)]
   go_wp2;go_meet;exact⟨rfl,rfl⟩
 case rest =>
 obtain⟨rfl,rfl⟩:=hcut;have hl:s.length=r.length+aM op:=by rw[ER.out,IH];have:=HB.out;omega
 go_upto_region 17 with fail;go_cut [13] (fun sr G=>∃ gr cr,sr=Y (Q (J gr 0 Z)) r.length cr/\W.heap.size<=gr/\Hid (G.ownsRow W.heap.size 9 1 (Y (Q (J gr 0 Z)) r.length cr) r.length (strs r))/\Hid (Below W.heap.size W G));case first =>
  rcases yt O2.out with ⟨rfl,hz,rfl⟩ | ⟨g,rfl⟩
  ·obtain rfl:s=[]:=List.length_eq_zero_iff.1 hz
   obtain rfl:r=[]:=by rw[ER.out];simp
   have FF:aM op=0:=by simpa using HB.out
   have h0:((aM op:Nat):Int)=0:=by rw[FF];rfl
   have hw3:-((aM op:Nat):Int)=0:=by rw[h0];decide
   have hw4:0 - ((aM op:Nat):Int)=0:=by rw[h0];decide
   clear h0 FF hl;have AL:=ae ((Qs W).alloc lr (T #[] 9));have OM:=ae (JC (base:=W.heap.size) (e:=9) (size:=1) W #[] 0 lr (by unfold maxLen;omega) rfl);go_wp2;go_meet;exact⟨_,_,rfl,j6 _,OM,AL⟩
  ·have hcap:(r.length:Int)<=l:=by have:=CZ O2.out;omega
   have FH:Hid (∀ j u,(strs r)[j]?=Q u->(W.alloc (T #[] 9)).cell? (((J g 0 Z):Addr).add j)=Q u):=C7 (xs:=strs (s.take (aM op))) (by
    have h:=O2.alloc (T #[] 9);rw[ER.out,<-Az,KM]
    exact h)
   obtain⟨t,ht⟩:∃ t,t=aM op:=⟨_,rfl⟩
   rw[<-ht] at hl FM ⊢;rw[hl] at c1 hs;have HS:=ae hs;have HL:=ae hl;clear hs hl;obtain⟨Fp,hi,Fo,Fm,Fh⟩:=IQ fW;go_wp2_with (at_builtin;refine CL _ rfl (.tmp 87) (.tmp 95) 39 rfl W.heap.size 9 Fp (U ⟨#[]⟩) 1 16 Tryz.underlying39 hi Fo Fm Fh rfl (by decide) (Y (Q (J W.heap.size 0 Z)) 0 0) 0 [] (by simp[Act.eval]) (JC W #[] 0 lr (by unfold maxLen;omega) rfl) (J g 0 Z) r.length l (strs r) (by simp[Act.eval]) (by simp[strs]) FH.out (Av _) (by unfold maxLen;omega) (by omega) (by simp) ?_;intro v' w2 n9 DE Fj;simp only[C9,IM] at n9;obtain⟨gr,cr,rfl,Fu⟩:=pU n9 (fun e=>by simpa using Fj.1 e);have B3:=ae (bg ((Qs W).alloc lr (T #[] 9)) DE (by simp) (fun j e=>by simp[Value.ownBlock] at e;omega));have DA:=ae n9;clear n9 DE Fj);go_meet;exact⟨gr,cr,rfl,Fu,DA,B3⟩
 case rest =>
 clear hl hA FE;obtain⟨gr,cr,rfl,Fu,DA,B3⟩:=hcut;have DQ:w.heap.size<=W.heap.size:=B2.size;have n6:w.heap.size+1<W.heap.size:=R2.1;have At:w.heap.size+1+1<W.heap.size:=Z2.1;have Fl:w.heap.size+1≠gr:=by omega
 have FW:W.heap.size<=wc.heap.size:=B3.size;clear m c0 f0 c1 f1 c2 QL c3 QJ c4 QG c5 f5 X QH R QK L V P f9;have R3:=ae (R2.below B3 R2.1);have Z3:=ae (Z2.below B3 Z2.1);have G0:=(B3.cell (p:=(J d.heap.size 0 Z)) fd).trans g0;have G1:=(B3.cell (p:=(J d.heap.size 1 Z)) fd).trans g1;have G2:=(B3.cell (p:=(J d.heap.size 2 Z)) fd).trans g2;have R4:=ae (R3.set0 (N I ((place:Int)+1)));have Z4:=ae (Z3.other (J (w.heap.size+1) 0 Z) (N I ((place:Int)+1)) (by simp));have B4:=ae ((B2.trans (B3.mono B2.size)).setCell (p:=(J (w.heap.size+1) 0 Z)) (by simp) (N I ((place:Int)+1)));have O4:=ae (dE DA Fl (N I ((place:Int)+1)) 0);have H0:=(cell_far _ (J (w.heap.size+1) 0 Z) (J d.heap.size 0 Z) (N I ((place:Int)+1)) (by simp;omega)).trans G0;have H1:=(cell_far _ (J (w.heap.size+1) 0 Z) (J d.heap.size 1 Z) (N I ((place:Int)+1)) (by simp;omega)).trans G1;have H2:=(cell_far _ (J (w.heap.size+1) 0 Z) (J d.heap.size 2 Z) (N I ((place:Int)+1)) (by simp;omega)).trans G2;have bt:W.heap.size<=(wc.setCell (J (w.heap.size+1) 0 Z) (N I ((place:Int)+1))).heap.size:=by simpa using FW
 obtain⟨F7,⟨e0,v0⟩,⟨e1,v1⟩,⟨e2,v2⟩,⟨e3,v3⟩,⟨e4,v4⟩,⟨e5,v5⟩,⟨e6,v6⟩,⟨e7,v7⟩,⟨e8,v8⟩,e9,v9⟩:=R3.out;go_upto_block 0 with fail;clear F7 e0 v0 e1 v1 e2 v2 e3 v3 e4 v4 e5 v5 e6 v6 e7 v7 e8 v8 e9 v9;clear g0 g1 g2 G0 G1 G2 B3 R3 Z3 DA R2 Z2 O2;generalize wc.setCell (J (w.heap.size+1) 0 Z) (N I ((place:Int)+1))=W5 at R4 Z4 B4 O4 H0 H1 H2 bt ⊢;obtain⟨FI,FQ⟩:A.size<=2000/\B.size<=2000:=by rw[EA.out,EB.out];exact sG HL op
 obtain⟨C,Fs⟩:∃ C,C=lZ op k A place:=⟨_,rfl⟩
 have ro:=ae Fs;clear Fs;go_cut [] (fun G=>op<=11/\Hid (Ten G (w.heap.size+1) (N I C) (Y a s.length l) (N I ((steps:Int)+1)) (N I looks) (QA D) (N I 0) (U ⟨#[]⟩) (QA D) (U ⟨#[]⟩) (QA D))/\Hid (Ten G (w.heap.size+1+1) (N I 0) (Y Z 0 0) (N I 0) (N I 0) (QA D) (N I 0) (U ⟨#[]⟩) (QA D) (U ⟨#[]⟩) (QA D))/\Hid (Below w.heap.size w G)/\Hid (G.ownsRow W.heap.size 9 1 (Y (Q (J gr 0 Z)) r.length cr) r.length (strs r))/\G.cell? (J d.heap.size 0 Z)=Q (N I op)/\G.cell? (J d.heap.size 1 Z)=Q (U (f place).s)/\G.cell? (J d.heap.size 2 Z)=Q (N I k)/\W.heap.size<=G.heap.size);case first =>
  obtain⟨m,⟨c0,f0⟩,⟨c1,f1⟩,⟨c2,QL⟩,⟨c3,QJ⟩,⟨c4,QG⟩,⟨c5,f5⟩,⟨X,QH⟩,⟨R,QK⟩,⟨L,V⟩,P,f9⟩:=R4.out;rcases Dk op A Fw with rfl | rfl | rfl | rfl | rfl | ⟨rfl,q1⟩ | ⟨rfl,q1,q2⟩ | ⟨rfl,q1,q2⟩ | h9
  ·go_wp2_with fail
   refine(fl _ _ _ _ _ _ _ _ _ _ _ _ _ _ _).mono ?_;rintro e w5 ⟨rfl,b⟩;have S:=ae (Z4.below b Z4.1);have QQ:=ae (B4.trans (b.mono B4.size));clear b;clear m c0 f0 c1 f1 c2 QL c3 QJ c4 QG c5 f5 X QH R QK L V P f9;obtain⟨ld,⟨z0,y0⟩,⟨z1,y1⟩,⟨z2,y2⟩,⟨z3,y3⟩,⟨K,y4⟩,⟨H,y5⟩,⟨QN,y6⟩,⟨QO,y7⟩,⟨M,y8⟩,O,y9⟩:=S.out;go_wp2;refine bp (v:=dN ((place:Int)+1) (Y a s.length l) ((steps:Int)+1) looks QC 0 A D ⟨#[]⟩ D) (by simp[results,Tryz.results230,go_sem,z0,z1,z2,z3,K,H,QN,QO,M,O]) rfl ⟨_,rfl,(by rw[SO.out,uT _ _ _ _ _ _ _ _ _ (by simp) HB.out,<-EA.out];exact⟨_,_,_,_,_,rfl⟩),dD QQ (by omega) _ _ _ _ _ _ _ _ _ _⟩
  ·go_wp2_with fail
   refine(fl _ _ _ _ _ _ _ _ _ _ _ _ _ _ _).mono ?_;rintro e w5 ⟨rfl,b⟩;have S:=ae (Z4.below b Z4.1);have QQ:=ae (B4.trans (b.mono B4.size));clear b;clear m c0 f0 c1 f1 c2 QL c3 QJ c4 QG c5 f5 X QH R QK L V P f9;obtain⟨ld,⟨z0,y0⟩,⟨z1,y1⟩,⟨z2,y2⟩,⟨z3,y3⟩,⟨K,y4⟩,⟨H,y5⟩,⟨QN,y6⟩,⟨QO,y7⟩,⟨M,y8⟩,O,y9⟩:=S.out;go_wp2;refine bp (v:=dN ((place:Int)+1) (Y a s.length l) ((steps:Int)+1) looks QC 1 A D ⟨#[]⟩ D) (by simp[results,Tryz.results230,go_sem,z0,z1,z2,z3,K,H,QN,QO,M,O]) rfl ⟨_,rfl,(by rw[SO.out,uT _ _ _ _ _ _ _ _ _ (by simp) HB.out,<-EA.out];exact⟨_,_,_,_,_,rfl⟩),dD QQ (by omega) _ _ _ _ _ _ _ _ _ _⟩
  iterate 2
   ·go_wp2_with fail
    have Z5:=ae (Z4.other (J (w.heap.size+1) 1 Z) (Y (Q (J gr 0 Z)) r.length cr) (by simp));have QQ:=ae (B4.setCell (p:=(J (w.heap.size+1) 1 Z)) (by simp) (Y (Q (J gr 0 Z)) r.length cr));have O5:=ae (dE O4 Fl (Y (Q (J gr 0 Z)) r.length cr) 1);have Y5:=ae (HY.below QQ lr);have hq:=fun(o:Nat) (ho:o=12∨o=13)=>wQ o (f place).s k (place+1) (steps+1) looks (Q (J gr 0 Z)) cr r A (dI place) b2 o2 n Fd W.heap.size y _ Y5 O5 (by simpa using bt) ho hlk (by omega);rw[show((place+1:Nat):Int)=(place:Int)+1 by omega,show((steps+1:Nat):Int)=(steps:Int)+1 by omega] at hq;refine(hq _ (by simp)).mono ?_;rintro e w5 ⟨v,rfl,la,b⟩;have FK:=ae la;obtain⟨l0,l1,l2,l3,l4,l5,l6,l7,l8,l9,FL,FY,rfl⟩:=la.form;have S:=ae (Z5.below b At);have B6:=ae (QQ.trans (b.mono DQ));clear b hq la;clear m c0 f0 c1 f1 c2 QL c3 QJ c4 QG c5 f5 X QH R QK L V P f9;obtain⟨ld,⟨z0,y0⟩,⟨z1,y1⟩,⟨z2,y2⟩,⟨z3,y3⟩,⟨K,y4⟩,⟨H,y5⟩,⟨QN,y6⟩,⟨QO,y7⟩,⟨M,y8⟩,O,y9⟩:=S.out;go_wp2;refine bp (v:=dN l0 (Y l1 l2 l3) l4 l5 l6 l7 l8 l9 FL FY) (by simp[results,Tryz.results230,go_sem,z0,z1,z2,z3,K,H,QN,QO,M,O]) rfl ⟨_,rfl,(by rw[SO.out,Dl _ _ _ _ _ _ _ _ _ (by simp) HB.out,<-EA.out,<-ER.out];exact(yq FK At _ _ _ _ _ _ _ _ _ _).mono DQ),dD B6 (by omega) _ _ _ _ _ _ _ _ _ _⟩
  iterate 3
   ·obtain rfl:C=k:=ro.trans (Fb (by first | exact .inl rfl | exact .inr (.inl ⟨rfl,q1⟩) | exact .inr (.inr ⟨rfl,q2⟩)))
    have R5:=ae (R4.set0 (N I C));have Z5:=ae (Z4.other (J (w.heap.size+1) 0 Z) (N I C) (by simp));have QQ:=ae (B4.setCell (p:=(J (w.heap.size+1) 0 Z)) (by simp) (N I C));have O5:=ae (dE O4 Fl (N I C) 0);have I0:=(cell_far _ (J (w.heap.size+1) 0 Z) (J d.heap.size 0 Z) (N I (C:Int)) (by simp;omega)).trans H0;have I1:=(cell_far _ (J (w.heap.size+1) 0 Z) (J d.heap.size 1 Z) (N I (C:Int)) (by simp;omega)).trans H1;have I2:=(cell_far _ (J (w.heap.size+1) 0 Z) (J d.heap.size 2 Z) (N I (C:Int)) (by simp;omega)).trans H2;have HI:=ae I0;have FU:=ae I1;have F4:=ae I2;clear I0 I1 I2;go_wp2;go_meet;exact⟨by omega,R5,Z5,QQ,O5,HI,FU,F4,by simpa using bt⟩
  ·obtain rfl:C=place+1:=by rw[ro.out];unfold lZ;rw[a8 (by decide),a8 (fun h=>h.2.elim (fun e=>by rw[e] at q1;cases q1) (fun e=>by rw[e] at q2;cases q2))]
   go_wp2;go_meet;exact⟨by omega,by show Ten _ _ _ _ _ _ _ _ _ _ _ _;rw[show((place+1:Nat):Int)=(place:Int)+1 by omega];exact R4,Z4,B4,O4,H0,H1,H2,bt⟩
  ·obtain rfl:C=place+1:=by rw[ro.out];unfold lZ;rw[a8 (by omega),a8 (by omega)]
   have n15:((op:Int) == 15)=D:=by simp;omega
   have n14:((op:Int) == 14)=D:=by simp;omega
   have n12:((op:Int) == 12)=D:=by simp;omega
   have n13:((op:Int) == 13)=D:=by simp;omega
   have n10:((op:Int) == 10)=D:=by simp;omega
   have n11:((op:Int) == 11)=D:=by simp;omega
   go_wp2;go_meet;exact⟨by omega,by show Ten _ _ _ _ _ _ _ _ _ _ _ _;rw[show((place+1:Nat):Int)=(place:Int)+1 by omega];exact R4,Z4,B4,O4,H0,H1,H2,bt⟩
 case rest =>
 clear R4 Z4 B4 O4 H0 H1 H2 bt;obtain⟨Fk,R4,Z4,B4,O4,G0,G1,G2,bt⟩:=hcut;obtain⟨QM,Bk⟩:∃ QM,QM=b9 op k (f place).s A B:=⟨_,rfl⟩
 have n7:Hid (QM=b9 op k (f place).s A B/\QM.length=bG op):=⟨Bk,by rw[Bk];exact wR _ _ _ _ _ qr Fk⟩
 have FA:Hid (so=fT QM (dI place) r C (steps+1) looks):=by show _=_;rw[SO.out,AA _ _ _ _ _ _ _ _ _ qr Fk HB.out FV HL.out,Bk,<-EA.out,<-EB.out,<-ER.out,<-ro.out]
 clear Bk SO EA EB ER ro;go_wp2_with fail;go_loopw [13,14] (fun rest i wr=>∃ j:Nat,j<=bG op/\i=N I j/\∃ g6 cx,rest=Y (Q (J g6 0 Z)) (r.length+j) cx/\Hid (wr.ownsRow W.heap.size 9 1 (Y (Q (J g6 0 Z)) (r.length+j) cx) (r.length+j) (strs r++(QM.take j).map Value.string))/\Hid (Below W.heap.size wc wr)/\Hid (∀ i,i<j->(QM.getD i ⟨#[]⟩).size<=2000)) (fun _ i _=>bG op - (intOf i).toNat);case atStart=>exact⟨0,by omega,rfl,gr,cr,rfl,(by show World.ownsRow _ _ _ _ _ _ _;rw[List.take_zero,LQ,MZ];exact O4),eI _ _,fun i hi=>absurd hi (CS _)⟩
 case round =>
  obtain⟨j,hj,rfl,g6,cx,rfl,O6,B6,S6⟩:=hrel;have R6:=ae (R4.below B6 n6);have Z6:=ae (Z4.below B6 At);have i0:=(B6.cell (p:=(J d.heap.size 0 Z)) fd).trans G0;have i1:=(B6.cell (p:=(J d.heap.size 1 Z)) fd).trans G1;have i2:=(B6.cell (p:=(J d.heap.size 2 Z)) fd).trans G2;have Fy:W.heap.size<=wr.heap.size:=j5 bt B6.size;have B7:=ae (B4.trans (B6.mono DQ));by_cases Fi:j<bG op
  ·have h8:op<=8:=Dc qr Fk Fi
   have FD:j<QM.length:=by rw[n7.2];exact Fi
   go_wp2_with fail;refine(uc op k (f place).s A B _ qr h8 FI FQ F8).mono ?_;rintro e w6 ⟨g7,rfl,n8,F3,ex⟩;rw[<-n7.1] at n8 ⊢;rw[n7.2] at n8 ⊢;have q6:w6.cell? (J g7 j Z)=Q (U (QM.getD j ⟨#[]⟩)):=by have:=n8.2 j Fi;rwa[C9] at this
   obtain⟨QP,hE⟩:∃ QP,QP=QM.getD j ⟨#[]⟩:=⟨_,rfl⟩
   rw[<-hE] at q6;have HE:=ae hE;clear hE;have O7:=ae (own_below O6 ex lr);have B8:=ae (B6.trans (ex.mono Fy));have FT:W.heap.size<=w6.heap.size:=j5 Fy ex.size;have R7:=ae (R6.below ex R6.1);have Z7:=ae (Z6.below ex Z6.1);have B9:=ae (B7.trans (ex.mono B7.size));clear n8 F3 ex i0 i1 i2 R6 Z6;by_cases F9:(QP.size:Int)<=2000
   ·obtain⟨Fp,hi,Fo,Fm,Fh⟩:=IQ fW
    go_wp2_with (at_builtin;refine CL _ rfl (.tmp 158) (.tmp 163) 39 rfl W.heap.size 9 Fp (U ⟨#[]⟩) 1 16 Tryz.underlying39 hi Fo Fm Fh rfl (by decide) (Y (Q (J g6 0 Z)) (r.length+j) cx) (r.length+j) (strs r++(QM.take j).map Value.string) (by simp[Act.eval]) (O7.alloc _) (J w6.heap.size 0 Z) 1 1 [U QP] (by simp[Act.eval]) rfl (dh w6 _ _) (by simp[Value.oneCell']) (by unfold maxLen;omega) (by omega) (by simp<;>omega) ?_;intro v' w7 ph sm ur;obtain⟨g8,L,rfl,hg8⟩:=pU ph (fun e=>by simpa using ur.1 e);have O8:=ae ph;have F0:=ae (bg (B8.alloc FT (T #[U QP] 9)) sm (by simp<;>omega) (fun i e=>(O7.lt i e).1));clear ph sm ur)
    exact⟨⟨j+1,by omega,by go_num,g8,L,rfl,by show World.ownsRow _ _ _ _ _ _ _;rw[yr FD,<-IA,<-HE.out];exact O8,F0,fun i hi=>by
     by_cases e:i=j
     ·subst e;rw[<-HE.out];omega
     ·exact S6 i (by omega)⟩,by simp[intOf];omega⟩
   ·have ER:=ae (show so=.inr (.inl (2,(dI place),(steps+1))) by rw[FA.out];unfold fT;rw[Dj FD (by rw[<-HE.out];exact F9)];rfl)
    obtain⟨m,⟨c0,f0⟩,⟨c1,f1⟩,⟨c2,QL⟩,⟨c3,QJ⟩,⟨c4,QG⟩,⟨c5,f5⟩,⟨X,QH⟩,⟨R,QK⟩,⟨L,V⟩,P,f9⟩:=R7.out;go_wp2_with fail;refine(fl _ _ _ _ _ _ _ _ _ _ _ _ _ _ _).mono ?_;rintro e w5 ⟨rfl,b⟩;have S:=ae (Z7.below b Z7.1);have QQ:=ae (B9.trans (b.mono B9.size));clear b;clear m c0 f0 c1 f1 c2 QL c3 QJ c4 QG c5 f5 X QH R QK L V P f9;obtain⟨ld,⟨z0,y0⟩,⟨z1,y1⟩,⟨z2,y2⟩,⟨z3,y3⟩,⟨K,y4⟩,⟨H,y5⟩,⟨QN,y6⟩,⟨QO,y7⟩,⟨M,y8⟩,O,y9⟩:=S.out;go_wp2;refine bp (v:=dN C (Y a s.length l) ((steps:Int)+1) looks QC 2 (dI place) D ⟨#[]⟩ D) (by simp[results,Tryz.results230,go_sem,z0,z1,z2,z3,K,H,QN,QO,M,O]) rfl ⟨_,rfl,(by rw[ER.out];exact⟨_,_,_,_,_,rfl⟩),dD QQ (by omega) _ _ _ _ _ _ _ _ _ _⟩
  ·have e:j=bG op:=by omega
   subst e;have ER:=ae (show so=.inl (C,(steps+1),looks,(QM.reverse++r)) by rw[FA.out];unfold fT;rw[Ay (fun i hi=>S6.out i (by rw[n7.2] at hi;exact hi))];rfl);have Fv:=ae (show(QM.reverse++r).length=r.length+bG op by rw[cM,List.length_reverse,n7.2];omega);obtain⟨m,⟨c0,f0⟩,⟨c1,f1⟩,⟨c2,QL⟩,⟨c3,QJ⟩,⟨c4,QG⟩,⟨c5,f5⟩,⟨X,QH⟩,⟨R,QK⟩,⟨L,V⟩,P,f9⟩:=R6.out;obtain⟨ld,⟨z0,y0⟩,⟨z1,y1⟩,⟨z2,y2⟩,⟨z3,y3⟩,⟨K,y4⟩,⟨H,y5⟩,⟨QN,y6⟩,⟨QO,y7⟩,⟨M,y8⟩,O,y9⟩:=Z6.out;have OE:=ae (MK O6 (a:=(J (w.heap.size+1) 1 Z)) n6 (Y (Q (J g6 0 Z)) (r.length+bG op) cx));have BE:=ae (B7.setCell (p:=(J (w.heap.size+1) 1 Z)) (by simp) (Y (Q (J g6 0 Z)) (r.length+bG op) cx));go_wp2;refine bp (v:=dN C (Y (Q (J g6 0 Z)) (r.length+bG op) cx) ((steps:Int)+1) looks D 0 ⟨#[]⟩ D ⟨#[]⟩ D) (by simp[results,Tryz.results230,go_sem,z0,z1,z2,z3,K,H,QN,QO,M,O]) rfl ⟨_,rfl,?_,dD BE (by omega) _ _ _ _ _ _ _ _ _ _⟩;rw[ER.out];refine(yq (v:=dN C (Y (Q (J g6 0 Z)) (r.length+bG op) cx) ((steps:Int)+1) looks D 0 ⟨#[]⟩ D ⟨#[]⟩ D) (base:=W.heap.size) ?_ At _ _ _ _ _ _ _ _ _ _).mono DQ;refine⟨Q (J g6 0 Z),cx,by rw[Fv.out];simp,?_⟩;rw[Fv.out,Ax];have h:=OE.out;rw[show QM.take (bG op)=QM by rw[<-n7.2];exact List.take_length] at h;exact h
def Eo (f:Nat->Ins)(cnt:Nat)(y:Nat->aA)(n:Nat)(QK:Turn)(st:Nat):SO->Prop
 | .inr (.inl (c,x,k))=>QK=fC c x k
 | .inr (.inr (a,nm,k))=>QK=mB a nm k
 | .inl (p,k,l,s)=>k=st+1/\k<=2000/\bV f cnt y n (2001 - k) p k l s=QK/\p<=2000/\l<=200/\s.length<=50/\∀ x∈s,x.size<=2000
theorem ue {f:Nat->Ins}{cnt place steps looks:Nat}{b:List ByteArray}(h:b.length<=50)(d:∀ x∈b,x.size<=2000)(hlk:looks<=200)(g:cQ f cnt=QC)(hc:cnt<=200):pd (bH f cnt place steps looks b) looks:=by
 unfold bH;split
 ·trivial
 ·rename_i h1
  split
  ·trivial
  ·split
   ·trivial
   ·rename_i i
    have hi:=jj g (show place<cnt by omega);simp only[cD,j4] at hi;obtain⟨i1,i2,i3,i4,i5⟩:=hi;have hmt:dK (f place).op<=2000:=by unfold dK;split<;>(try split)<;>omega
    have hmt2:bP (f place).op<=2000:=by unfold bP;split<;>omega
    exact iu _ _ _ _ _ _ h d (by omega) (by omega) (by omega) hlk (by omega) (by omega) (by simpa using i)
theorem ug {f:Nat->Ins}{cnt place steps looks:Nat}{b:List ByteArray}{a:Bool}{nm:ByteArray}{s:List ByteArray}(h:bH f cnt place steps looks b=.inr (.inr (a,nm,s))):place<cnt:=by
 unfold bH at h;split at h
 ·cases h
 ·omega
theorem Do {f:Nat->Ins}{cnt:Nat}{y:Nat->aA}{n:Nat}{QK:Turn}{p st l:Nat}{s:List ByteArray}(hst:st<=2000)(k:l<=200)(z:s.length<=50)(o:∀ x∈s,x.size<=2000)(m:cQ f cnt=QC)(C:cnt<=200)(A:bR y n=QC)
  (b:bV f cnt y n (2001 - st) p st l s=QK):Eo f cnt y n QK st (fF f cnt y n p st l s):=by
 obtain⟨j,u⟩:∃ j,2001 - st=j+1:=⟨2000 - st,by omega⟩
 rw[u,bV] at b;have hF:=ue (place:=p) (steps:=st) z o k m C;unfold fF;rcases h:bH f cnt p st l s with ⟨B,p'⟩ | ⟨c,x⟩ | ⟨a,nm,B⟩
 ·rw[h] at b hF
  obtain⟨i,QQ⟩:=i8 h;obtain⟨f1,g,q⟩:=hF;simp only[i] at b ⊢;exact⟨rfl,by omega,by rw[show 2001 - (st+1)=j by omega];exact b,q,k,f1,g⟩
 ·rw[h] at b
  exact b.symm
 ·rw[h] at b hF
  obtain⟨i,QQ⟩:=ku h;obtain⟨f1,g,q,f4⟩:=hF;have hp:=ug h;simp only[i] at b ⊢;simp only[gD,jq];by_cases h1:n<=l
  ·rw[eT h1] at b ⊢
   exact b.symm
  ·rw[a8 h1] at b ⊢
   by_cases h2:a=D
   ·rw[eT h2] at b ⊢
    refine⟨rfl,by omega,by rw[show 2001 - (st+1)=j by omega];exact b,by omega,by omega,by simp;omega,fun x d=>?_⟩;rcases BC.1 d with rfl | d
    ·exact iC _
    ·exact g x d
   ·rw[a8 h2] at b ⊢
    by_cases r:(y l).has=D
    ·rw[eT r] at b ⊢
     exact b.symm
    ·rw[a8 r] at b ⊢
     by_cases t:(y l).code=0
     ·rw[eT t] at b ⊢
      refine⟨rfl,by omega,by rw[show 2001 - (st+1)=j by omega];exact b,by omega,by omega,by simp;omega,fun x d=>?_⟩;rcases BC.1 d with rfl | d
      ·exact(Al A (show l<n by omega)).1
      ·exact g x d
     ·rw[a8 t] at b ⊢
      exact b.symm
theorem Ten.put {w:E}{g:Nat}{l j d k o f b i m n:QB}(h:Ten w g l j d k o f b i m n)(u0 u1 u2 u3 u4 u5 u6 u7 u8 u9:QB):Ten ((((((((((w.setCell (J g 0 Z) u0).setCell (J g 1 Z) u1).setCell (J g 2 Z) u2).setCell (J g 3 Z) u3).setCell (J g 4 Z) u4).setCell (J g 5 Z) u5).setCell (J g 6 Z) u6).setCell (J g 7 Z) u7).setCell (J g 8 Z) u8).setCell (J g 9 Z) u9) g u0 u1 u2 u3 u4 u5 u6 u7 u8 u9 :=
 (((((((((h.set0 u0).set1 u1).set2 u2).set3 u3).set4 u4).set5 u5).set6 u6).set7 u7).set8 u8).set9 u9
theorem nE {g:Nat}{u w:E}(h:Only g u w)(u0 u1 u2 u3 u4 u5 u6 u7 u8 u9:QB):Only g u ((((((((((w.setCell (J g 0 Z) u0).setCell (J g 1 Z) u1).setCell (J g 2 Z) u2).setCell (J g 3 Z) u3).setCell (J g 4 Z) u4).setCell (J g 5 Z) u5).setCell (J g 6 Z) u6).setCell (J g 7 Z) u7).setCell (J g 8 Z) u8).setCell (J g 9 Z) u9) :=
 bZ (bZ (bZ (bZ (bZ (bZ (bZ (bZ (bZ (bZ h 0 u0) 1 u1) 2 u2) 3 u3) 4 u4) 5 u5) 6 u6) 7 u7) 8 u8) 9 u9
def uW (w:E)(g d:Nat)(f:Nat->Ins)(cnt:Nat)(y:Nat->aA)(n:Nat)(QK:Turn)(k:Nat):Prop :=
 (∃ p st l s a b,Ten w g (N I (p:Nat)) (Y a (List.length s) b) (N I (st:Nat)) (N I (l:Nat)) (QA D) (N I 0) (U ⟨#[]⟩) (QA D) (U ⟨#[]⟩) (QA D)/\w.ownsRow d 9 1 (Y a s.length b) s.length (strs s) /\
  st<=2000/\bV f cnt y n (2001 - st) p st l s=QK/\p<=2000/\l<=200/\s.length<=50/\(∀ x∈s,x.size<=2000)/\2002 - st<=k) ∨
 (∃ at_ sv lk c x,∃ st:Nat,Ten w g at_ sv (N I st) lk (QA QC) (N I c) (U x) (QA D) (U ⟨#[]⟩) (QA D)/\QK=fC c x st) ∨
 (∃ at_ sv lk a nm,∃ st:Nat,Ten w g at_ sv (N I st) lk (QA D) (N I 0) (U ⟨#[]⟩) (QA a) (U nm) (QA QC)/\QK=mB a nm st)
theorem Dp {w:E}{b n d:Nat}{e:TypeId}{a:Option Addr}{f:List QB}(h:w.ownsRow b e 1 (Y a n d) n f){k:Nat}(y:k<b)(q o i p g l x m r t:QB):World.ownsRow ((((((((((w.setCell (J k 0 Z) q).setCell (J k 1 Z) o).setCell (J k 2 Z) i).setCell (J k 3 Z) p).setCell (J k 4 Z) g).setCell (J k 5 Z) l).setCell (J k 6 Z) x).setCell (J k 7 Z) m).setCell (J k 8 Z) r).setCell (J k 9 Z) t) b e 1 (Y a n d) n f:=by have s:∀ {w:E} (j:Nat) (u:QB),w.ownsRow b e 1 (Y a n d) n f->(w.setCell (J k j Z) u).ownsRow b e 1 (Y a n d) n f:=fun j u h=>MK h (a:=(J k j Z)) y u;exact s 9 t (s 8 r (s 7 m (s 6 x (s 5 l (s 4 g (s 3 p (s 2 i (s 1 o (s 0 q h)))))))))
theorem mP (g h cnt d n o:Nat)(QN:Option Addr)(f:Nat->Ins)(w:E)(H:cnt<=1048576)(t:valid f cnt=QC->200<(n:Int))(y:RowIns w g h cnt f)(u:∀ i,i<cnt->(f i).s.size<=maxLen):Calls Tryz.prog 186 #[QE #[Y (Q (J g h Z)) cnt d],Y QN n o] w fun e q=>e=QD badT.v/\Below w.heap.size w q:=by
 have A:=ae y;have m:=ae ((((Qs w).alloc lr (T #[Y (Q (J g h Z)) cnt d] 31))).alloc (by simp) (T #[QA D,N I 0,U ⟨#[]⟩,QA D,U ⟨#[]⟩,N I 0] 61));have l:=jQ (w.alloc (T #[Y (Q (J g h Z)) cnt d] 31)) (QA D) (N I 0) (U ⟨#[]⟩) (QA D) (U ⟨#[]⟩) (N I 0) 61;rw[show(w.alloc (T #[Y (Q (J g h Z)) cnt d] 31)).heap.size=w.heap.size+1 by simp] at l;have x:=ae l;have p:=fun q h1 h2=>fJ g h cnt d f q H h1 h2 u;generalize valid f cnt=b at t p;have z:=ae p;have L:=ae t;clear l p y u t;go_enter Tryz.func186,Tryz.ntmps186;go_wp2_with fail;have r:=ae (A.below m lr);refine(z _ r.1 r.2).mono ?_;rintro e w1 ⟨rfl,k⟩;have j:=ae (x.below k (by simp));have QO:=ae (m.trans (k.mono (by simp;omega)));clear k m x r;obtain⟨v0,QQ,y0⟩:=j.2 0 (by omega);obtain⟨v1,C,y1⟩:=j.2 1 (by omega);obtain⟨v2,G,y2⟩:=j.2 2 (by omega);obtain⟨v3,K,y3⟩:=j.2 3 (by omega);obtain⟨v4,B,y4⟩:=j.2 4 (by omega);obtain⟨v5,QP,y5⟩:=j.2 5 (by omega);cases b
 all_goals
  (try have hn2:=L.out rfl)
  go_wp2;refine bp (v:=badT.v) (by simp[results,Tryz.results186,go_sem,Turn.v,badT,QQ,C,G,K,B,QP]) rfl ⟨rfl,dV QO (by omega) _ _ _ _ _ _⟩
theorem uh (o q cnt d S o2 n O:Nat)(f:Nat->Ins)(y:Nat->aA)(w:E)(hn:cnt<=1048576)(hv:valid f cnt=QC)(hn2:(n:Int)<=200)(hP:RowIns w o q cnt f)(hY:RowReply w S o2 n y)(hs:∀ i,i<cnt->(f i).s.size<=maxLen)(QK:Turn)(hT:QK=if bR y n=D then badT else bV f cnt y n 2001 0 0 0 []):Calls Tryz.prog 186 #[QE #[Y (Q (J o q Z)) cnt d],Y (Q (J S o2 Z)) n O] w fun e w'=>e=QD QK.v/\Below w.heap.size w w':=by
 have HV:=ae (bY hv).1;have ro:cnt<=200:=by have:=(bY hv).2.2;omega
 have QG:=ae hY;have QJ:=ae hT;clear hY hT;have HP:=ae hP;have A0:=ae ((((Qs w).alloc lr (T #[Y (Q (J o q Z)) cnt d] 31))).alloc (by simp) (T #[QA D,N I 0,U ⟨#[]⟩,QA D,U ⟨#[]⟩,N I 0] 61));have P:=jQ (w.alloc (T #[Y (Q (J o q Z)) cnt d] 31)) (QA D) (N I 0) (U ⟨#[]⟩) (QA D) (U ⟨#[]⟩) (N I 0) 61;rw[show(w.alloc (T #[Y (Q (J o q Z)) cnt d] 31)).heap.size=w.heap.size+1 by simp] at P;have X0:=ae P;have IV:=fun w' h1 h2=>fJ o q cnt d f w' hn h1 h2 hs;rw[hv] at IV;have n9:=ae IV;clear P IV hP hs hv;go_enter Tryz.func186,Tryz.ntmps186;go_wp2_with fail;have P1:=ae (HP.below A0 lr);refine(n9 _ P1.1 P1.2).mono ?_;rintro e w1 ⟨rfl,K⟩;have c1:w1.cell? (J w.heap.size 0 Z)=Q (Y (Q (J o q Z)) cnt d):=(K.cell (p:=(J w.heap.size 0 Z)) (by simp;omega)).trans (by simp);have QH:=ae (X0.below K (by simp));have B1:=ae (A0.trans (K.mono (by simp;omega)));have z1:w.heap.size+1<w1.heap.size:=QH.1;clear K A0 X0 P1;have qr:=ae (QG.below B1 lr);go_wp2_with fail;go_loopw [5] (fun i wr=>∃ j:Nat,j<=n/\i=N I j/\Hid (bR y j=QC)/\Below w1.heap.size w1 wr) (fun i _=>n - (intOf i).toNat);case atStart=>exact⟨0,by omega,rfl,rfl,eI _ _⟩
 case round =>
  obtain⟨j,hj,rfl,HK,W⟩:=hrel;have b:=ae (QH.below W QH.1);have G:=ae (B1.trans (W.mono B1.size));have cp:wr.cell? (J w.heap.size 0 Z)=Q (Y (Q (J o q Z)) cnt d):=(W.cell (p:=(J w.heap.size 0 Z)) (by simp;omega)).trans c1;have zr:w.heap.size+1<wr.heap.size:=b.1;have ex:=ae W;clear W;by_cases u:j<n
  ·obtain⟨d0,d1,d2⟩:=(QG.below G lr).2 j u
   obtain⟨v0,C,y0⟩:=b.2 0 (by omega);obtain⟨v1,A,y1⟩:=b.2 1 (by omega);obtain⟨v2,QQ,y2⟩:=b.2 2 (by omega);obtain⟨v3,QN,y3⟩:=b.2 3 (by omega);obtain⟨v4,QP,y4⟩:=b.2 4 (by omega);obtain⟨v5,B,y5⟩:=b.2 5 (by omega);by_cases g1:((y j).text.size:Int)<=2000
   ·by_cases g2:0<=(y j).code
    ·by_cases g3:(y j).code<=7
     ·go_wp2
      refine⟨⟨j+1,by omega,by go_num,?_,?_⟩,by simp[intOf];omega⟩
      ·show bR y (j+1)=QC
       simp only[bR,HK.out,bT,I9,j4];omega
      ·exact ex
     ·go_wp2
      have z:QK=badT:=by rw[QJ.out,eT (gh u (by simp only[bT,IK];omega))]
      refine bp (v:=badT.v) (by simp[results,Tryz.results186,go_sem,Turn.v,badT,C,A,QQ,QN,QP,B]) rfl ⟨by rw[z],dV G (by omega) _ _ _ _ _ _⟩
    ·go_wp2
     have z:QK=badT:=by rw[QJ.out,eT (gh u (by simp only[bT,IK];omega))]
     refine bp (v:=badT.v) (by simp[results,Tryz.results186,go_sem,Turn.v,badT,C,A,QQ,QN,QP,B]) rfl ⟨by rw[z],dV G (by omega) _ _ _ _ _ _⟩
   ·go_wp2
    have z:QK=badT:=by rw[QJ.out,eT (gh u (by simp only[bT,IK];omega))]
    refine bp (v:=badT.v) (by simp[results,Tryz.results186,go_sem,Turn.v,badT,C,A,QQ,QN,QP,B]) rfl ⟨by rw[z],dV G (by omega) _ _ _ _ _ _⟩
  ·have e:j=n:=by omega
   subst e;have z:QK=bV f cnt y j 2001 0 0 0 []:=by rw[QJ.out,a8 (by simp[HK.out])]
   have ET:=ae z;clear z QJ qr;have RN:=ae (jR wr (N I 0) (Y Z 0 0) (N I 0) (N I 0) (QA D) (N I 0) (U ⟨#[]⟩) (QA D) (U ⟨#[]⟩) (QA D) 292 wr.heap.size rfl);have A2:=ae ((Qs wr).alloc lr (T #[N I 0,Y Z 0 0,N I 0,N I 0,QA D,N I 0,U ⟨#[]⟩,QA D,U ⟨#[]⟩,QA D] 292));have XN:=ae (b.below A2 b.1);have BN:=ae (G.trans (A2.mono G.size));have cN:=(A2.cell (p:=(J w.heap.size 0 Z)) (by simp;omega)).trans cp;have L:wr.heap.size<(wr.alloc (T #[N I 0,Y Z 0 0,N I 0,N I 0,QA D,N I 0,U ⟨#[]⟩,QA D,U ⟨#[]⟩,QA D] 292)).heap.size:=by simp
   go_wp2_with fail;clear c1 cp;generalize wr.alloc (T #[N I 0,Y Z 0 0,N I 0,N I 0,QA D,N I 0,U ⟨#[]⟩,QA D,U ⟨#[]⟩,QA D] 292)=X at RN XN BN cN L ⊢;generalize wr.heap.size=rb at RN zr L ⊢;have n8:S<rb:=ll QG.1 (by omega);have n7:o<rb:=ll HP.1 (by omega);have S0:Hid (uW X rb X.heap.size f cnt y j QK 2002):=.inl ⟨0,0,0,[],Z,0,RN,E4 _ _ _ _,by omega,ET.symm,by omega,by omega,by simp,by simp,by omega⟩;have PN:=ae (HP.below BN lr);have YN:=ae (QG.below BN lr);clear RN ET b G ex u QH B1 HP QG;go_loopg [] 2002 (fun g wr=>uW wr rb X.heap.size f cnt y j QK g/\Only rb X wr);case atStart=>exact⟨S0,Only.refl _ _⟩
   case round =>
    obtain⟨hst,H⟩:=hrel;have HO:=ae H;have cw:wr.cell? (J w.heap.size 0 Z)=Q (Y (Q (J o q Z)) cnt d):=(H.cell w.heap.size 0 (by omega) (by omega)).trans cN;have aq:rb<wr.heap.size:=ll L H.size;have la:=ae (H.below (j6 rb) (J9 L));have BW:=ae (BN.trans (H.below (show w.heap.size<=rb by omega) (by omega)));have m:=ae (XN.only H (by omega));have zw:w.heap.size+1<wr.heap.size:=m.1;clear H;rcases hst with ⟨p,st,l,s,a,ld,h,QL,k1,k2,k3,k4,k5,k6,k7⟩ | ⟨at_,sv,lk,c,x,st,h,r⟩ | ⟨at_,sv,lk,a,nm,st,h,r⟩
    ·have n6:=ae h
     have OW:=ae QL;have ph:=ae (Do k1 k4 k5 k6 HV ro HK k2);have K6:=ae k6;have PW:Hid (RowIns wr o q cnt f):=⟨ll PN.1 HO.size,fun i hi=>(PN.2 i hi).below la n7⟩
     have YW:Hid (RowReply wr S o2 j y):=⟨ll YN.1 HO.size,fun i hi=>(YN.2 i hi).below la n8⟩
     obtain⟨R,⟨c0,f0⟩,⟨c1,f1⟩,⟨c2,f2⟩,⟨c3,f3⟩,⟨c4,f4⟩,⟨c5,f5⟩,⟨c6,f6⟩,⟨c7,f7⟩,⟨c8,f8⟩,c9,f9⟩:=h;clear QL k2 k6;go_wp2_with fail;refine(wV o q cnt d p st l f a s ld S o2 j O X.heap.size y _ PW YW OW k3 k1 k4 k5 K6 HV).mono ?_;rintro e w3 ⟨v,rfl,M,V⟩;have QM:=ae (n6.below V aq);have O3:=ae (HO.bel V);clear R c0 f0 c1 f1 c2 f2 c3 f3 c4 f4 c5 f5 c6 f6 c7 f7 c8 f8 c9 f9;clear V;have t:=ph.out;obtain⟨g,rfl⟩:∃ g,gk=g+1:=⟨gk - 1,by omega⟩
     generalize fF f cnt y j p st l s=so at M t;rcases so with ⟨p',mv,l',s'⟩ | ⟨c,x,k⟩ | ⟨a1,nm,k⟩
     ·obtain⟨a',c',rfl,bt⟩:=M
      obtain⟨m1,m2,m3,m4,m5,m6,m7⟩:=t;have OE:=ae bt;have M3:=ae m3;have M7:=ae m7;have M1:=ae m1;clear bt m3 m7 m1;obtain⟨fd,⟨e0,u0⟩,⟨e1,u1⟩,⟨e2,u2⟩,⟨e3,u3⟩,⟨e4,u4⟩,⟨e5,u5⟩,⟨e6,u6⟩,⟨e7,u7⟩,⟨e8,u8⟩,e9,u9⟩:=QM.out;go_wp2;go_roundg g;case measure=>omega
      case rel=>exact⟨.inl ⟨p',mv,l',s',a',c',QM.put _ _ _ _ _ _ _ _ _ _,aI (Dp OE aq _ _ _ _ _ _ _ _ _ _) HO.size,m2,M3,m4,m5,m6,M7,by have:=M1.out;omega⟩,nE O3 _ _ _ _ _ _ _ _ _ _⟩
     ·obtain⟨at_,a',n',c',lk,rfl⟩:=M
      have r:QK=fC c x k:=t;have QO:=ae r;clear r t;obtain⟨fd,⟨e0,u0⟩,⟨e1,u1⟩,⟨e2,u2⟩,⟨e3,u3⟩,⟨e4,u4⟩,⟨e5,u5⟩,⟨e6,u6⟩,⟨e7,u7⟩,⟨e8,u8⟩,e9,u9⟩:=QM.out;go_wp2;go_roundg g;case measure=>omega
      case rel=>exact⟨.inr (.inl ⟨_,_,_,_,_,_,QM.put _ _ _ _ _ _ _ _ _ _,QO⟩),nE O3 _ _ _ _ _ _ _ _ _ _⟩
     ·obtain⟨at_,a',n',c',lk,rfl⟩:=M
      have r:QK=mB a1 nm k:=t;have QO:=ae r;clear r t;obtain⟨fd,⟨e0,u0⟩,⟨e1,u1⟩,⟨e2,u2⟩,⟨e3,u3⟩,⟨e4,u4⟩,⟨e5,u5⟩,⟨e6,u6⟩,⟨e7,u7⟩,⟨e8,u8⟩,e9,u9⟩:=QM.out;go_wp2;go_roundg g;case measure=>omega
      case rel=>exact⟨.inr (.inr ⟨_,_,_,_,_,_,QM.put _ _ _ _ _ _ _ _ _ _,QO⟩),nE O3 _ _ _ _ _ _ _ _ _ _⟩
    ·have QO:=ae r
     obtain⟨R,⟨c0,f0⟩,⟨c1,f1⟩,⟨c2,f2⟩,⟨c3,f3⟩,⟨c4,f4⟩,⟨c5,f5⟩,⟨c6,f6⟩,⟨c7,f7⟩,⟨c8,f8⟩,c9,f9⟩:=h;obtain⟨v0,C,y0⟩:=m.2 0 (by omega);obtain⟨v1,A,y1⟩:=m.2 1 (by omega);obtain⟨v2,QQ,y2⟩:=m.2 2 (by omega);obtain⟨v3,QN,y3⟩:=m.2 3 (by omega);obtain⟨v4,QP,y4⟩:=m.2 4 (by omega);obtain⟨v5,B,y5⟩:=m.2 5 (by omega);clear r;go_wp2;refine bp (v:=QK.v) (by rw[QO.out];simp[results,Tryz.results186,go_sem,Turn.v,fC,C,A,QQ,QN,QP,B]) rfl ⟨rfl,dV BW (by omega) _ _ _ _ _ _⟩
    ·have QO:=ae r
     obtain⟨R,⟨c0,f0⟩,⟨c1,f1⟩,⟨c2,f2⟩,⟨c3,f3⟩,⟨c4,f4⟩,⟨c5,f5⟩,⟨c6,f6⟩,⟨c7,f7⟩,⟨c8,f8⟩,c9,f9⟩:=h;obtain⟨v0,C,y0⟩:=m.2 0 (by omega);obtain⟨v1,A,y1⟩:=m.2 1 (by omega);obtain⟨v2,QQ,y2⟩:=m.2 2 (by omega);obtain⟨v3,QN,y3⟩:=m.2 3 (by omega);obtain⟨v4,QP,y4⟩:=m.2 4 (by omega);obtain⟨v5,B,y5⟩:=m.2 5 (by omega);clear r;go_wp2;refine bp (v:=QK.v) (by rw[QO.out];simp[results,Tryz.results186,go_sem,Turn.v,mB,C,A,QQ,QN,QP,B]) rfl ⟨rfl,dV BW (by omega) _ _ _ _ _ _⟩
theorem sJ (g j cnt d m o n b:Nat)(f:Nat->Ins)(y:Nat->aA)(w:E)(l:cnt<=1048576)(p:RowIns w g j cnt f)(r:RowReply w m o n y)(k:∀ i,i<cnt->(f i).s.size<=maxLen):Calls Tryz.prog 186 #[QE #[Y (Q (J g j Z)) cnt d],Y (Q (J m o Z)) n b] w fun e t=>e=QD (mC f cnt y n).v/\Below w.heap.size w t:=by
 unfold mC;by_cases h1:valid f cnt=D
 ·rw[eT h1]
  exact mP g j cnt d n b _ f w l (fun h=>absurd (h1.symm.trans h) (by simp)) p k
 ·have q:valid f cnt=QC:=by simpa using h1
  rw[a8 h1];by_cases h2:200<n
  ·rw[eT h2]
   exact mP g j cnt d n b _ f w l (fun _=>by omega) p k
  ·rw[a8 h2]
   exact uh g j cnt d m o n b f y w l q (by omega) p r k _ rfl
end Go.Proofs.YtkdimgejdocbbaaGreatDoor.Vp
