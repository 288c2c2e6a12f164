import Derived.Test.YtamacmnikdejeaaGreatDoorLQ
import Derived.Deep.CutBlock
set_option maxRecDepth 1000000
set_option maxHeartbeats 8000000
set_option linter.unusedSimpArgs false
open Go renaming Addr.mk->Q,Value.slice->Y,Value.string->U,Value.int->J,Value.bool->ZC,Value.agg->ZG,Obj.cells->N,IntKind.i64->I,World->E,Value->ZB,TypeId->ZH,Ending.returned->ZF,World.heap->B,World.alloc->z,Proofs.Tryz.prog->Pg
open Option renaming none->Z,some->T
open Bool renaming false->ZA,true->ZD
open Array renaming size->A
namespace Go.Proofs.YtamacmnikdejeaaGreatDoor.Vp
open Tryz RowKit
variable {p n g place steps looks:Nat}{w:E}{f:Nat->au}{b s:List ByteArray}{y:Nat->aC}{e:ZH}
theorem ym (pb po cnt fd place steps looks:Nat)(f:Nat->Ins)(a:Option Addr)(s:List ByteArray)(cap b2 o2 n G8 th:Nat)(y:Nat->aC)(w:E)
  (hP:RowIns w pb po cnt f) (hY:RowReply w b2 o2 n y) (hO:w.ownsRow th 9 1 (Y a s.length cap) s.length (strs s)) (hp:place<=2000) (hst:steps<=2000) (hlk:looks<=200) (hs:s.length<=50) (Hi:∀x∈s,x.size<=2000) (Hm:cY f cnt=ZD) :
  Calls Pg 140 #[ZG #[Y (T (Q pb po Z)) cnt fd],dT place (Y a s.length cap) steps looks ZA 0 ⟨#[]⟩ ZA ⟨#[]⟩ ZA,Y (T (Q b2 o2 Z)) n G8] w λe w'=>∃v,e=ZF v/\SoIs w' (A (B w)) v (fJ f cnt y n place steps looks s)/\Below (A (B w)) w w':=by
 obtain⟨so,ld⟩:∃so,so=fJ f cnt y n place steps looks s:=⟨_,rfl⟩
 rw[<-ld];have S0:=ae ld;clear ld;have HP:=ae hP;have HY:=ae hY;have HO:=ae hO;have HK:=ae Hm;have HL:=ae Hi;clear hP hY hO Hm Hi;have A0:=ae ((((BS w).alloc ly (N #[Y (T (Q pb po Z)) cnt fd] 43)).alloc (by simp) (N #[J I place,Y a s.length cap,J I steps,J I looks,ZC ZA,J I 0,U ⟨#[]⟩,ZC ZA,U ⟨#[]⟩,ZC ZA] 216)).alloc (by simp<;>omega) (N #[J I 0,Y Z 0 0,J I 0,J I 0,ZC ZA,J I 0,U ⟨#[]⟩,ZC ZA,U ⟨#[]⟩,ZC ZA] 216));have R0:=ae ((kf (z w (N #[Y (T (Q pb po Z)) cnt fd] 43)) (J I place) (Y a s.length cap) (J I steps) (J I looks) (ZC ZA) (J I 0) (U ⟨#[]⟩) (ZC ZA) (U ⟨#[]⟩) (ZC ZA) 216 (A (B w)+1) (by simp)).al (N #[J I 0,Y Z 0 0,J I 0,J I 0,ZC ZA,J I 0,U ⟨#[]⟩,ZC ZA,U ⟨#[]⟩,ZC ZA] 216));have Z0:=ae (kf ((z w (N #[Y (T (Q pb po Z)) cnt fd] 43)).alloc (N #[J I place,Y a s.length cap,J I steps,J I looks,ZC ZA,J I 0,U ⟨#[]⟩,ZC ZA,U ⟨#[]⟩,ZC ZA] 216)) (J I 0) (Y Z 0 0) (J I 0) (J I 0) (ZC ZA) (J I 0) (U ⟨#[]⟩) (ZC ZA) (U ⟨#[]⟩) (ZC ZA) 216 (A (B w)+1+1) (by simp));go_enter func140,ntmps140;go_wp2_with fail;refine(rq place (by omega) _).mono ?_;rintro e l ⟨rfl,bt⟩;have hD:(⟨(Lib.decDigits place).toArray⟩:ByteArray)=dO place:=rfl;rw[hD];have R1:=ae (R0.aa bt (by simp<;>omega));have Z1:=ae (Z0.aa bt (by simp<;>omega));have B1:=ae (A0.trans (bt.mono (by simp<;>omega)));have pP:l.cell? (Q (A (B w)) 0 Z)=T (Y (T (Q pb po Z)) cnt fd):=(bt.cell (p:=(Q (A (B w)) 0 Z)) (by simp<;>omega)).trans (Gi _ _ _ _ _ _ _ rfl);have O1:=ae (own_below HO B1 ly);have hz1:A (B w)+1+1<A (B l):=Z1.1;have hz0:A (B w)<A (B l):=by omega
 have hz01:A (B w)+1<A (B l):=by omega
 clear bt A0 R0 Z0 hD;obtain⟨m,⟨c0,f0⟩,⟨c1,f1⟩,⟨c2,ZK⟩,⟨c3,ZJ⟩,⟨c4,R⟩,⟨c5,P⟩,⟨c6,V⟩,⟨ZM,X⟩,⟨O,f8⟩,ZI,S⟩:=R1.out;rcases Int.lt_or_le (place:Int) cnt with h1|h1;rotate_left;{have S1:Hid (so=.inr (.inl (2,(dO place),steps))):=S0.trans (show fJ f cnt y n place steps looks s=.inr (.inl (2,(dO place),steps)) by have h:cnt<=place:=(by omega);simp[fJ,gQ,bN,cL,h]);go_wp2_with fail;refine(fw _ _ _ _ _ _ _ _ _ _ _ _ _ _ _).mono ?_;rintro e w5 ⟨rfl,b⟩;have ZE:=ae (Z1.aa b Z1.1);have D:=ae (B1.trans (b.mono B1.size));clear b;clear m c0 f0 c1 f1 c2 ZK c3 ZJ c4 R c5 P c6 V ZM X O f8 ZI S;obtain⟨ex,⟨z0,y0⟩,⟨z1,y1⟩,⟨z2,y2⟩,⟨z3,y3⟩,⟨G,y4⟩,⟨L,y5⟩,⟨ZO,y6⟩,⟨ZP,y7⟩,⟨ZN,y8⟩,K,y9⟩:=ZE.out;go_wp2;refine bp (v:=dT place (Y a s.length cap) steps looks ZD 2 (dO place) ZA ⟨#[]⟩ ZA) (by simp[results,NN,go_sem,z0,z1,z2,z3,G,L,ZO,ZP,ZN,K]) rfl ⟨_,rfl,(by rw[S1.out];exact⟨_,_,_,_,_,rfl⟩),dL D (by omega) _ _ _ _ _ _ _ _ _ _⟩};rcases Bool.eq_false_or_eq_true ((steps:Int) == 2000) with h2|h2;{have S1:Hid (so=.inr (.inl (3,⟨#[]⟩,steps))):=S0.trans (show fJ f cnt y n place steps looks s=.inr (.inl (3,⟨#[]⟩,steps)) by have h:¬ cnt<=place:=(by omega);have e:steps=2000:=(by simp at h2;omega);simp[fJ,gQ,bN,cL,h,e]);go_wp2_with fail;refine(fw _ _ _ _ _ _ _ _ _ _ _ _ _ _ _).mono ?_;rintro e w5 ⟨rfl,b⟩;have ZE:=ae (Z1.aa b Z1.1);have D:=ae (B1.trans (b.mono B1.size));clear b;clear m c0 f0 c1 f1 c2 ZK c3 ZJ c4 R c5 P c6 V ZM X O f8 ZI S;obtain⟨ex,⟨z0,y0⟩,⟨z1,y1⟩,⟨z2,y2⟩,⟨z3,y3⟩,⟨G,y4⟩,⟨L,y5⟩,⟨ZO,y6⟩,⟨ZP,y7⟩,⟨ZN,y8⟩,K,y9⟩:=ZE.out;go_wp2;refine bp (v:=dT place (Y a s.length cap) steps looks ZD 3 ⟨#[]⟩ ZA ⟨#[]⟩ ZA) (by simp[results,NN,go_sem,z0,z1,z2,z3,G,L,ZO,ZP,ZN,K]) rfl ⟨_,rfl,(by rw[S1.out];exact⟨_,_,_,_,_,rfl⟩),dL D (by omega) _ _ _ _ _ _ _ _ _ _⟩};have hi:=jv HK.out (show place<cnt by omega);simp only[cG,p6] at hi;obtain⟨op,Fm⟩:=AD (show 0<=(f place).op by omega);obtain⟨k,hk⟩:=AD hi.2.2.2.1;have H7:dQ (f place).op<=2000:=by unfold dQ;split<;>(try split)<;>omega
 have Hv:bT (f place).op<=2000:=by unfold bT;split<;>omega
 have Hy:k<=2000:=by omega
 have Io:(f place).s.size<=2000:=by omega
 have sm:1<=op:=by omega
 have Hh:op<=15:=by omega
 have EP:Hid (so=if eJ op s=ZA then .inr (.inl (2,(dO place),(steps+1))) else gQ y n place (steps+1) looks (cF op k (f place).s place looks s)):=by
  show _=_;rw[S0.out];have q1:¬ cnt<=place:=by omega
  have q2:¬ steps=2000:=by simp at h2;omega
  simp only[fJ,bN,cL,q1,q2,RV,Fm,hk,Int.toNat_natCast];split<;>rfl
 clear hi H7 Hv HK;obtain⟨d0,d1,d2⟩:=(HP.aa B1 ly).2 place (by omega);rw[Fm] at d0;rw[hk] at d2;have hpb:pb<A (B w):=HP.1;have Im:=(cell_far l (Q (A (B w)+1) 2 Z) (Q pb (po+place*3) Z) (J I ((steps:Int)+1)) (by simp;omega)).trans d0;have Ic:=(cell_far l (Q (A (B w)+1) 2 Z) (Q pb (po+place*3+1) Z) (J I ((steps:Int)+1)) (by simp;omega)).trans d1;have H9:=(cell_far l (Q (A (B w)+1) 2 Z) (Q pb (po+place*3+2) Z) (J I ((steps:Int)+1)) (by simp;omega)).trans d2;have Hf:∀j,A (B w)<=j->Value.ownBlock (Y a s.length cap)≠T j:=λj hj e=>by have:=(HO.lt j e).2;omega
 have R2:=ae ((R1.set2 (J I ((steps:Int)+1))).al (N #[J I op,U (f place).s,J I k] 146));have Z2:=ae ((Z1.other (Q (A (B w)+1) 2 Z) (J I ((steps:Int)+1)) (by simp)).al (N #[J I op,U (f place).s,J I k] 146));have O2:=ae ((TC O1 (a:=(Q (A (B w)+1) 2 Z)) (Hf _ (by simp)) (J I ((steps:Int)+1))).alloc (N #[J I op,U (f place).s,J I k] 146));have B2:=ae ((B1.setCell (p:=(Q (A (B w)+1) 2 Z)) (by simp) (J I ((steps:Int)+1))).alloc (by have:=B1.size;simpa using this) (N #[J I op,U (f place).s,J I k] 146));have g0:((l.setCell (Q (A (B w)+1) 2 Z) (J I ((steps:Int)+1))).alloc (N #[J I op,U (f place).s,J I k] 146)).cell? (Q (A (B l)) 0 Z)=T (J I op):=jO _ _ _ _ _ _ (by simp) rfl;have g1:((l.setCell (Q (A (B w)+1) 2 Z) (J I ((steps:Int)+1))).alloc (N #[J I op,U (f place).s,J I k] 146)).cell? (Q (A (B l)) 1 Z)=T (U (f place).s):=jO _ _ _ _ _ _ (by simp) rfl;have g2:((l.setCell (Q (A (B w)+1) 2 Z) (J I ((steps:Int)+1))).alloc (N #[J I op,U (f place).s,J I k] 146)).cell? (Q (A (B l)) 2 Z)=T (J I k):=jO _ _ _ _ _ _ (by simp) rfl;have la:A (B l)<((l.setCell (Q (A (B w)+1) 2 Z) (J I ((steps:Int)+1))).alloc (N #[J I op,U (f place).s,J I k] 146)).heap.size:=by simp
 clear Hf;go_wp2_with fail;refine(vI op _ sm Hh).mono ?_;rintro e w9 ⟨rfl,Ii⟩;subst Ii;clear m c0 f0 c1 f1 c2 ZK c3 ZJ c4 R c5 P c6 V ZM X O f8 ZI S;clear d0 d1 d2 Im Ic H9 Fm hk pP;generalize World.alloc (World.setCell l _ _) _=W at R2 Z2 O2 B2 g0 g1 g2 la ⊢;obtain⟨m,⟨c0,f0⟩,⟨c1,f1⟩,⟨c2,ZK⟩,⟨c3,ZJ⟩,⟨c4,R⟩,⟨c5,P⟩,⟨c6,V⟩,⟨ZM,X⟩,⟨O,f8⟩,ZI,S⟩:=R2.out;have hpt:=Cp op;have Hw:aS op<=2:=by unfold aS;split<;>(try split)<;>omega
 by_cases hb:eJ op s=ZA
 ·have S1:Hid (so=.inr (.inl (2,(dO place),(steps+1)))):=by rw[EP.out,j6 hb];rfl
  have hA:(s.length:Int)<(aS op:Nat)∨¬ (s.length:Int)<(aS op:Nat)/\(50:Int)<(s.length:Int) - (aS op:Nat)+(bJ op:Nat):=by simp only[eJ,LH] at hb;omega
  clear hb EP;rcases hA with hA|⟨hA,Hk⟩
  iterate 2
   ·go_wp2_with fail
    refine(fw _ _ _ _ _ _ _ _ _ _ _ _ _ _ _).mono ?_;rintro e w5 ⟨rfl,b⟩;have ZE:=ae (Z2.aa b Z2.1);have D:=ae (B2.trans (b.mono B2.size));clear b;clear m c0 f0 c1 f1 c2 ZK c3 ZJ c4 R c5 P c6 V ZM X O f8 ZI S;obtain⟨ex,⟨z0,y0⟩,⟨z1,y1⟩,⟨z2,y2⟩,⟨z3,y3⟩,⟨G,y4⟩,⟨L,y5⟩,⟨ZO,y6⟩,⟨ZP,y7⟩,⟨ZN,y8⟩,K,y9⟩:=ZE.out;go_wp2;refine bp (v:=dT place (Y a s.length cap) ((steps:Int)+1) looks ZD 2 (dO place) ZA ⟨#[]⟩ ZA) (by simp[results,NN,go_sem,z0,z1,z2,z3,G,L,ZO,ZP,ZN,K]) rfl ⟨_,rfl,(by rw[S1.out];exact⟨_,_,_,_,_,rfl⟩),dL D (by omega) _ _ _ _ _ _ _ _ _ _⟩
 have Hj:aS op<=s.length/\s.length - aS op+bJ op<=50:=by simpa[eJ] using hb
 have hA:¬ (s.length:Int)<(aS op:Nat):=by omega
 have Hk:¬ (50:Int)<(s.length:Int) - (aS op:Nat)+(bJ op:Nat):=by omega
 have SO:Hid (so=gQ y n place (steps+1) looks (cF op k (f place).s place looks s)):=by rw[EP.out,eT hb];rfl
 have HB:=ae Hj.1;have H6:(s.drop (aS op)).length+bJ op<=50:=by rw[LP];omega
 clear hb Hj EP;obtain⟨ZR,Hq⟩:∃ZR,ZR=lv op s:=⟨_,rfl⟩
 obtain⟨ZS,bt⟩:∃ZS,ZS=qG op s:=⟨_,rfl⟩
 obtain⟨r,n7⟩:∃r,r=s.drop (aS op):=⟨_,rfl⟩
 rw[<-n7] at H6;have EA:=ae Hq;have EB:=ae bt;have ER:=ae n7;clear S0 Hq bt n7;go_upto_if 68 with fail;go_cut [11] (λsa H=>sa=U ZR/\W=H);case first =>
  by_cases ht:(0:Int)<(aS op:Nat)
  ·rcases s with _|⟨x,q⟩
   {exact absurd HB.out (by simp;omega)}
   ·obtain⟨g,c,e⟩:=ja O2 (by simp);obtain⟨rfl,-⟩:=PO e;have t1:=Fc O2.out;have Ih:q.length<=50:=by simp at hs;omega
    obtain rfl:ZR=x:=by rw[EA.out];unfold lv;rw[j6 (by omega)];rfl
    rw[xT] at c1;go_wp2;go_meet;exact⟨rfl,rfl⟩
  ·obtain rfl:ZR=⟨#[]⟩:=by rw[EA.out];unfold lv;rw[eT (by omega)]
   go_wp2;go_meet;exact⟨rfl,rfl⟩
 case rest =>
 obtain⟨rfl,rfl⟩:=hcut;go_upto_if 78 with fail;go_cut [12] (λsa H=>sa=U ZS/\W=H);case first =>
  by_cases ht:(1:Int)<(aS op:Nat)
  ·rcases s with _|⟨x,_|⟨ZT,q⟩⟩
   {exact absurd HB.out (by simp;omega)};{exact absurd HB.out (by simp;omega)}
   ·obtain⟨g,c,e⟩:=ja O2 (by simp);obtain⟨rfl,-⟩:=PO e;obtain⟨t1,t2⟩:=Fe O2;have Ih:q.length+1<=50:=by simp at hs;omega
    obtain rfl:ZS=ZT:=by rw[EB.out];unfold qG;rw[j6 (by omega)];rfl
    rw[xT,xT] at c1;go_wp2;go_meet;exact⟨rfl,rfl⟩
  ·obtain rfl:ZS=⟨#[]⟩:=by rw[EB.out];unfold qG;rw[eT (by omega)]
   go_wp2;go_meet;exact⟨rfl,rfl⟩
 case rest =>
 obtain⟨rfl,rfl⟩:=hcut;have hl:s.length=r.length+aS op:=by rw[ER.out,LP];have:=HB.out;omega
 go_upto_region 17 with fail;go_cut [13] (λsr H=>∃ZL cr,sr=Y (T (Q ZL 0 Z)) r.length cr/\(A (B W))<=ZL/\Hid (H.ownsRow (A (B W)) 9 1 (Y (T (Q ZL 0 Z)) r.length cr) r.length (strs r))/\Hid (Below (A (B W)) W H));case first =>
  rcases zT O2.out with ⟨rfl,hz,rfl⟩|⟨g,rfl⟩
  ·obtain rfl:s=[]:=RP.1 hz;obtain rfl:r=[]:=by rw[ER.out];simp
   have Hn:aS op=0:=by simpa using HB.out
   have h0:((aS op:Nat):Int)=0:=by rw[Hn];rfl
   have hw3:-((aS op:Nat):Int)=0:=by rw[h0];decide
   have hw4:0 - ((aS op:Nat):Int)=0:=by rw[h0];decide
   clear h0 Hn hl;have AL:=ae ((BS W).alloc ly (N #[] 9));have OM:=ae (LV (base:=A (B W)) (e:=9) (size:=1) W #[] 0 ly (by unfold maxLen;omega) rfl);go_wp2;go_meet;exact⟨_,_,rfl,nX _,OM,AL⟩
  ·have hcap:(r.length:Int)<=cap:=by have:=Ff O2.out;omega
   have Hu:Hid (∀j u,(strs r)[j]?=T u->(z W (N #[] 9)).cell? (((Q g 0 Z):Addr).add j)=T u):=Fg (xs:=strs (s.take (aS op))) (by
    have h:=O2.alloc (N #[] 9);rw[ER.out,<-Cu,NU]
    exact h)
   obtain⟨t,ht⟩:∃t,t=aS op:=⟨_,rfl⟩
   rw[<-ht] at hl Hw ⊢;rw[hl] at c1 hs;have HS:=ae hs;have HL:=ae hl;clear hs hl;obtain⟨GS,hi,Hc,Fd,He⟩:=KZ gA;go_wp2_with (at_builtin;refine E4 _ rfl (.tmp 87) (.tmp 95) 35 rfl (A (B W)) 9 GS (U ⟨#[]⟩) 1 16 LL hi Hc Fd He rfl (by decide) (Y (T (Q (A (B W)) 0 Z)) 0 0) 0 [] (by simp[Act.eval]) (LV W #[] 0 ly (by unfold maxLen;omega) rfl) (Q g 0 Z) r.length cap (strs r) (by simp[Act.eval]) (by simp[strs]) Hu.out (Co _) (by unfold maxLen;omega) (by omega) (by simp) ?_;intro v' w2 n9 DQ Hb;simp only[IT,LA] at n9;obtain⟨ZL,cr,rfl,Hl⟩:=rF n9 (λe=>by simpa using Hb.1 e);have B3:=ae (bg ((BS W).alloc ly (N #[] 9)) DQ (by simp) (λj e=>by simp[Value.ownBlock] at e;omega));have ur:=ae n9;clear n9 DQ Hb);go_meet;exact⟨ZL,cr,rfl,Hl,ur,B3⟩
 case rest =>
 clear hl hA Hk;obtain⟨ZL,cr,rfl,Hl,ur,B3⟩:=hcut;have At:A (B w)<=A (B W):=B2.size;have n7:A (B w)+1<A (B W):=R2.1;have DS:A (B w)+1+1<A (B W):=Z2.1;have Hd:A (B w)+1≠ZL:=by omega
 have Ie:A (B W)<=A (B wc):=B3.size;clear m c0 f0 c1 f1 c2 ZK c3 ZJ c4 R c5 P c6 V ZM X O f8 ZI S;have R3:=ae (R2.aa B3 R2.1);have Z3:=ae (Z2.aa B3 Z2.1);have G0:=(B3.cell (p:=(Q (A (B l)) 0 Z)) la).trans g0;have G1:=(B3.cell (p:=(Q (A (B l)) 1 Z)) la).trans g1;have G2:=(B3.cell (p:=(Q (A (B l)) 2 Z)) la).trans g2;have R4:=ae (R3.set0 (J I ((place:Int)+1)));have Z4:=ae (Z3.other (Q (A (B w)+1) 0 Z) (J I ((place:Int)+1)) (by simp));have B4:=ae ((B2.trans (B3.mono B2.size)).setCell (p:=(Q (A (B w)+1) 0 Z)) (by simp) (J I ((place:Int)+1)));have O4:=ae (dM ur Hd (J I ((place:Int)+1)) 0);have H0:=(cell_far _ (Q (A (B w)+1) 0 Z) (Q (A (B l)) 0 Z) (J I ((place:Int)+1)) (by simp;omega)).trans G0;have H1:=(cell_far _ (Q (A (B w)+1) 0 Z) (Q (A (B l)) 1 Z) (J I ((place:Int)+1)) (by simp;omega)).trans G1;have H2:=(cell_far _ (Q (A (B w)+1) 0 Z) (Q (A (B l)) 2 Z) (J I ((place:Int)+1)) (by simp;omega)).trans G2;have aq:A (B W)<=(wc.setCell (Q (A (B w)+1) 0 Z) (J I ((place:Int)+1))).heap.size:=by simpa using Ie
 obtain⟨Ia,⟨e0,v0⟩,⟨e1,v1⟩,⟨e2,v2⟩,⟨e3,v3⟩,⟨e4,v4⟩,⟨e5,v5⟩,⟨e6,v6⟩,⟨e7,v7⟩,⟨e8,v8⟩,e9,v9⟩:=R3.out;go_upto_block 0 with fail;clear Ia e0 v0 e1 v1 e2 v2 e3 v3 e4 v4 e5 v5 e6 v6 e7 v7 e8 v8 e9 v9;clear g0 g1 g2 G0 G1 G2 B3 R3 Z3 ur R2 Z2 O2;generalize World.setCell wc _ _=W5 at R4 Z4 B4 O4 H0 H1 H2 aq ⊢;obtain⟨Ij,Id⟩:ZR.size<=2000/\ZS.size<=2000:=by rw[EA.out,EB.out];exact uh HL op
 obtain⟨C,Ho⟩:∃C,C=mE op k ZR place:=⟨_,rfl⟩
 have ro:=ae Ho;clear Ho;go_cut [] (λH=>op<=11/\Hid (Ten H (A (B w)+1) (J I C) (Y a s.length cap) (J I ((steps:Int)+1)) (J I looks) (ZC ZA) (J I 0) (U ⟨#[]⟩) (ZC ZA) (U ⟨#[]⟩) (ZC ZA))/\Hid (Ten H (A (B w)+1+1) (J I 0) (Y Z 0 0) (J I 0) (J I 0) (ZC ZA) (J I 0) (U ⟨#[]⟩) (ZC ZA) (U ⟨#[]⟩) (ZC ZA))/\Hid (Below (A (B w)) w H)/\Hid (H.ownsRow (A (B W)) 9 1 (Y (T (Q ZL 0 Z)) r.length cr) r.length (strs r))/\H.cell? (Q (A (B l)) 0 Z)=T (J I op)/\H.cell? (Q (A (B l)) 1 Z)=T (U (f place).s)/\H.cell? (Q (A (B l)) 2 Z)=T (J I k)/\(A (B W))<=A (B H));case first =>
  obtain⟨m,⟨c0,f0⟩,⟨c1,f1⟩,⟨c2,ZK⟩,⟨c3,ZJ⟩,⟨c4,R⟩,⟨c5,P⟩,⟨c6,V⟩,⟨ZM,X⟩,⟨O,f8⟩,ZI,S⟩:=R4.out;rcases Fj op ZR Hh with rfl|rfl|rfl|rfl|rfl|⟨rfl,q1⟩|⟨rfl,q1,q2⟩|⟨rfl,q1,q2⟩|h9;{go_wp2_with fail;refine(fw _ _ _ _ _ _ _ _ _ _ _ _ _ _ _).mono ?_;rintro e w5 ⟨rfl,b⟩;have ZE:=ae (Z4.aa b Z4.1);have D:=ae (B4.trans (b.mono B4.size));clear b;clear m c0 f0 c1 f1 c2 ZK c3 ZJ c4 R c5 P c6 V ZM X O f8 ZI S;obtain⟨ex,⟨z0,y0⟩,⟨z1,y1⟩,⟨z2,y2⟩,⟨z3,y3⟩,⟨G,y4⟩,⟨L,y5⟩,⟨ZO,y6⟩,⟨ZP,y7⟩,⟨ZN,y8⟩,K,y9⟩:=ZE.out;go_wp2;refine bp (v:=dT ((place:Int)+1) (Y a s.length cap) ((steps:Int)+1) looks ZD 0 ZR ZA ⟨#[]⟩ ZA) (by simp[results,NN,go_sem,z0,z1,z2,z3,G,L,ZO,ZP,ZN,K]) rfl ⟨_,rfl,(by rw[SO.out,wL _ _ _ _ _ _ _ _ _ (by simp) HB.out,<-EA.out];exact⟨_,_,_,_,_,rfl⟩),dL D (by omega) _ _ _ _ _ _ _ _ _ _⟩};{go_wp2_with fail;refine(fw _ _ _ _ _ _ _ _ _ _ _ _ _ _ _).mono ?_;rintro e w5 ⟨rfl,b⟩;have ZE:=ae (Z4.aa b Z4.1);have D:=ae (B4.trans (b.mono B4.size));clear b;clear m c0 f0 c1 f1 c2 ZK c3 ZJ c4 R c5 P c6 V ZM X O f8 ZI S;obtain⟨ex,⟨z0,y0⟩,⟨z1,y1⟩,⟨z2,y2⟩,⟨z3,y3⟩,⟨G,y4⟩,⟨L,y5⟩,⟨ZO,y6⟩,⟨ZP,y7⟩,⟨ZN,y8⟩,K,y9⟩:=ZE.out;go_wp2;refine bp (v:=dT ((place:Int)+1) (Y a s.length cap) ((steps:Int)+1) looks ZD 1 ZR ZA ⟨#[]⟩ ZA) (by simp[results,NN,go_sem,z0,z1,z2,z3,G,L,ZO,ZP,ZN,K]) rfl ⟨_,rfl,(by rw[SO.out,wL _ _ _ _ _ _ _ _ _ (by simp) HB.out,<-EA.out];exact⟨_,_,_,_,_,rfl⟩),dL D (by omega) _ _ _ _ _ _ _ _ _ _⟩};iterate 2
   ·go_wp2_with fail
    have Z5:=ae (Z4.other (Q (A (B w)+1) 1 Z) (Y (T (Q ZL 0 Z)) r.length cr) (by simp));have D:=ae (B4.setCell (p:=(Q (A (B w)+1) 1 Z)) (by simp) (Y (T (Q ZL 0 Z)) r.length cr));have O5:=ae (dM O4 Hd (Y (T (Q ZL 0 Z)) r.length cr) 1);have Y5:=ae (HY.aa D ly);have hq:=λ(o:Nat) (ho:o=12∨o=13)=>ye o (f place).s k (place+1) (steps+1) looks (T (Q ZL 0 Z)) cr r ZR (dO place) b2 o2 n G8 (A (B W)) y _ Y5 O5 (by simpa using aq) ho hlk (by omega);rw[show((place+1:Nat):Int)=(place:Int)+1 by omega,show((steps+1:Nat):Int)=(steps:Int)+1 by omega] at hq;refine(hq _ (by simp)).mono ?_;rintro e w5 ⟨v,rfl,ld,b⟩;have Iq:=ae ld;obtain⟨l0,l1,l2,l3,l4,l5,l6,l7,l8,l9,Ir,Hz,rfl⟩:=ld.form;have ZE:=ae (Z5.aa b DS);have B6:=ae (D.trans (b.mono At));clear b hq ld;clear m c0 f0 c1 f1 c2 ZK c3 ZJ c4 R c5 P c6 V ZM X O f8 ZI S;obtain⟨ex,⟨z0,y0⟩,⟨z1,y1⟩,⟨z2,y2⟩,⟨z3,y3⟩,⟨G,y4⟩,⟨L,y5⟩,⟨ZO,y6⟩,⟨ZP,y7⟩,⟨ZN,y8⟩,K,y9⟩:=ZE.out;go_wp2;refine bp (v:=dT l0 (Y l1 l2 l3) l4 l5 l6 l7 l8 l9 Ir Hz) (by simp[results,NN,go_sem,z0,z1,z2,z3,G,L,ZO,ZP,ZN,K]) rfl ⟨_,rfl,(by rw[SO.out,Fl _ _ _ _ _ _ _ _ _ (by simp) HB.out,<-EA.out,<-ER.out];exact(zQ Iq DS _ _ _ _ _ _ _ _ _ _).mono At),dL B6 (by omega) _ _ _ _ _ _ _ _ _ _⟩
  iterate 3
   ·obtain rfl:C=k:=ro.trans (GU (by first|exact .inl rfl|exact .inr (.inl ⟨rfl,q1⟩)|exact .inr (.inr ⟨rfl,q2⟩)))
    have R5:=ae (R4.set0 (J I C));have Z5:=ae (Z4.other (Q (A (B w)+1) 0 Z) (J I C) (by simp));have D:=ae (B4.setCell (p:=(Q (A (B w)+1) 0 Z)) (by simp) (J I C));have O5:=ae (dM O4 Hd (J I C) 0);have I0:=(cell_far _ (Q (A (B w)+1) 0 Z) (Q (A (B l)) 0 Z) (J I (C:Int)) (by simp;omega)).trans H0;have I1:=(cell_far _ (Q (A (B w)+1) 0 Z) (Q (A (B l)) 1 Z) (J I (C:Int)) (by simp;omega)).trans H1;have I2:=(cell_far _ (Q (A (B w)+1) 0 Z) (Q (A (B l)) 2 Z) (J I (C:Int)) (by simp;omega)).trans H2;have HI:=ae I0;have Ip:=ae I1;have Hx:=ae I2;clear I0 I1 I2;go_wp2;go_meet;exact⟨by omega,R5,Z5,D,O5,HI,Ip,Hx,by simpa using aq⟩
  ·obtain rfl:C=place+1:=by rw[ro.out];unfold mE;rw[eT (by decide),eT (λh=>h.2.elim (λe=>by rw[e] at q1;cases q1) (λe=>by rw[e] at q2;cases q2))]
   go_wp2;go_meet;exact⟨by omega,by show Ten _ _ _ _ _ _ _ _ _ _ _ _;rw[show((place+1:Nat):Int)=(place:Int)+1 by omega];exact R4,Z4,B4,O4,H0,H1,H2,aq⟩
  ·obtain rfl:C=place+1:=by rw[ro.out];unfold mE;rw[eT (by omega),eT (by omega)]
   have n15:((op:Int) == 15)=ZA:=by simp;omega
   have n14:((op:Int) == 14)=ZA:=by simp;omega
   have n12:((op:Int) == 12)=ZA:=by simp;omega
   have n13:((op:Int) == 13)=ZA:=by simp;omega
   have n10:((op:Int) == 10)=ZA:=by simp;omega
   have n11:((op:Int) == 11)=ZA:=by simp;omega
   go_wp2;go_meet;exact⟨by omega,by show Ten _ _ _ _ _ _ _ _ _ _ _ _;rw[show((place+1:Nat):Int)=(place:Int)+1 by omega];exact R4,Z4,B4,O4,H0,H1,H2,aq⟩
 case rest =>
 clear R4 Z4 B4 O4 H0 H1 H2 aq;obtain⟨Fk,R4,Z4,B4,O4,G0,G1,G2,aq⟩:=hcut;obtain⟨M,DE⟩:∃M,M=b9 op k (f place).s ZR ZS:=⟨_,rfl⟩
 have n6:Hid (M=b9 op k (f place).s ZR ZS/\M.length=bJ op):=⟨DE,by rw[DE];exact yg _ _ _ _ _ sm Fk⟩
 have Hg:Hid (so=gn M (dO place) r C (steps+1) looks):=by show _=_;rw[SO.out,Cv _ _ _ _ _ _ _ _ _ sm Fk HB.out Io HL.out,DE,<-EA.out,<-EB.out,<-ER.out,<-ro.out]
 clear DE SO EA EB ER ro;go_wp2_with fail;go_loopw [13,14] (λrest i wr=>∃j:Nat,j<=bJ op/\i=J I j/\∃g6 cx,rest=Y (T (Q g6 0 Z)) (r.length+j) cx/\Hid (wr.ownsRow (A (B W)) 9 1 (Y (T (Q g6 0 Z)) (r.length+j) cx) (r.length+j) (strs r++(M.take j).map Value.string))/\Hid (Below (A (B W)) wc wr)/\Hid (∀i,i<j->(M.getD i ⟨#[]⟩).size<=2000)) (λ_ i _=>bJ op - (intOf i).toNat);case atStart=>exact⟨0,by omega,rfl,ZL,cr,rfl,(by show World.ownsRow _ _ _ _ _ _ _;rw[List.take_zero,R8,TZ];exact O4),cM _ _,λi hi=>absurd hi (KO _)⟩
 case round =>
  obtain⟨j,hj,rfl,g6,cx,rfl,O6,B6,S6⟩:=hrel;have R6:=ae (R4.aa B6 n7);have Z6:=ae (Z4.aa B6 DS);have i0:=(B6.cell (p:=(Q (A (B l)) 0 Z)) la).trans G0;have i1:=(B6.cell (p:=(Q (A (B l)) 1 Z)) la).trans G1;have i2:=(B6.cell (p:=(Q (A (B l)) 2 Z)) la).trans G2;have Hp:A (B W)<=A (B wr):=nL aq B6.size;have B7:=ae (B4.trans (B6.mono At));by_cases Ha:j<bJ op
  ·have h8:op<=8:=Fh sm Fk Ha;have Hr:j<M.length:=by rw[n6.2];exact Ha
   go_wp2_with fail;refine(vJ op k (f place).s ZR ZS _ sm h8 Ij Id Hy).mono ?_;rintro e w6 ⟨g7,rfl,n8,Ig,mv⟩;rw[<-n6.1] at n8 ⊢;rw[n6.2] at n8 ⊢;have q6:w6.cell? (Q g7 j Z)=T (U (M.getD j ⟨#[]⟩)):=by have:=n8.2 j Ha;rwa[IT] at this
   obtain⟨ZQ,hE⟩:∃ZQ,ZQ=M.getD j ⟨#[]⟩:=⟨_,rfl⟩
   rw[<-hE] at q6;have HE:=ae hE;clear hE;have O7:=ae (own_below O6 mv ly);have B8:=ae (B6.trans (mv.mono Hp));have Ib:A (B W)<=A (B w6):=nL Hp mv.size;have R7:=ae (R6.aa mv R6.1);have Z7:=ae (Z6.aa mv Z6.1);have B9:=ae (B7.trans (mv.mono B7.size));clear n8 Ig mv i0 i1 i2 R6 Z6;by_cases Il:(ZQ.size:Int)<=2000
   ·obtain⟨GS,hi,Hc,Fd,He⟩:=KZ gA;go_wp2_with (at_builtin;refine E4 _ rfl (.tmp 158) (.tmp 163) 35 rfl (A (B W)) 9 GS (U ⟨#[]⟩) 1 16 LL hi Hc Fd He rfl (by decide) (Y (T (Q g6 0 Z)) (r.length+j) cx) (r.length+j) (strs r++(M.take j).map Value.string) (by simp[Act.eval]) (O7.alloc _) (Q (A (B w6)) 0 Z) 1 1 [U ZQ] (by simp[Act.eval]) rfl (fk w6 _ _) (by simp[Value.oneCell']) (by unfold maxLen;omega) (by omega) (by simp<;>omega) ?_;intro v' w7 ph qr Bk;obtain⟨g8,O,rfl,hg8⟩:=rF ph (λe=>by simpa using Bk.1 e);have O8:=ae ph;have Ik:=ae (bg (B8.alloc Ib (N #[U ZQ] 9)) qr (by simp<;>omega) (λi e=>(O7.lt i e).1));clear ph qr Bk)
    exact⟨⟨j+1,by omega,by go_num,g8,O,rfl,by show World.ownsRow _ _ _ _ _ _ _;rw[zR Hr,<-KU,<-HE.out];exact O8,Ik,λi hi=>by
     by_cases e:i=j;{subst e;rw[<-HE.out];omega}
     ·exact S6 i (by omega)⟩,by simp[intOf];omega⟩
   {have ER:=ae (show so=.inr (.inl (2,(dO place),(steps+1))) by rw[Hg.out];unfold gn;rw[Fi Hr (by rw[<-HE.out];exact Il)];rfl);obtain⟨m,⟨c0,f0⟩,⟨c1,f1⟩,⟨c2,ZK⟩,⟨c3,ZJ⟩,⟨c4,R⟩,⟨c5,P⟩,⟨c6,V⟩,⟨ZM,X⟩,⟨O,f8⟩,ZI,S⟩:=R7.out;go_wp2_with fail;refine(fw _ _ _ _ _ _ _ _ _ _ _ _ _ _ _).mono ?_;rintro e w5 ⟨rfl,b⟩;have ZE:=ae (Z7.aa b Z7.1);have D:=ae (B9.trans (b.mono B9.size));clear b;clear m c0 f0 c1 f1 c2 ZK c3 ZJ c4 R c5 P c6 V ZM X O f8 ZI S;obtain⟨ex,⟨z0,y0⟩,⟨z1,y1⟩,⟨z2,y2⟩,⟨z3,y3⟩,⟨G,y4⟩,⟨L,y5⟩,⟨ZO,y6⟩,⟨ZP,y7⟩,⟨ZN,y8⟩,K,y9⟩:=ZE.out;go_wp2;refine bp (v:=dT C (Y a s.length cap) ((steps:Int)+1) looks ZD 2 (dO place) ZA ⟨#[]⟩ ZA) (by simp[results,NN,go_sem,z0,z1,z2,z3,G,L,ZO,ZP,ZN,K]) rfl ⟨_,rfl,(by rw[ER.out];exact⟨_,_,_,_,_,rfl⟩),dL D (by omega) _ _ _ _ _ _ _ _ _ _⟩}
  ·have e:j=bJ op:=by omega
   subst e;have ER:=ae (show so=.inl (C,(steps+1),looks,(M.reverse++r)) by rw[Hg.out];unfold gn;rw[Ct (λi hi=>S6.out i (by rw[n6.2] at hi;exact hi))];rfl);have Ht:=ae (show(M.reverse++r).length=r.length+bJ op by rw[eL,List.length_reverse,n6.2];omega);obtain⟨m,⟨c0,f0⟩,⟨c1,f1⟩,⟨c2,ZK⟩,⟨c3,ZJ⟩,⟨c4,R⟩,⟨c5,P⟩,⟨c6,V⟩,⟨ZM,X⟩,⟨O,f8⟩,ZI,S⟩:=R6.out;obtain⟨ex,⟨z0,y0⟩,⟨z1,y1⟩,⟨z2,y2⟩,⟨z3,y3⟩,⟨G,y4⟩,⟨L,y5⟩,⟨ZO,y6⟩,⟨ZP,y7⟩,⟨ZN,y8⟩,K,y9⟩:=Z6.out;have OE:=ae (TF O6 (a:=(Q (A (B w)+1) 1 Z)) n7 (Y (T (Q g6 0 Z)) (r.length+bJ op) cx));have BE:=ae (B7.setCell (p:=(Q (A (B w)+1) 1 Z)) (by simp) (Y (T (Q g6 0 Z)) (r.length+bJ op) cx));go_wp2;refine bp (v:=dT C (Y (T (Q g6 0 Z)) (r.length+bJ op) cx) ((steps:Int)+1) looks ZA 0 ⟨#[]⟩ ZA ⟨#[]⟩ ZA) (by simp[results,NN,go_sem,z0,z1,z2,z3,G,L,ZO,ZP,ZN,K]) rfl ⟨_,rfl,?_,dL BE (by omega) _ _ _ _ _ _ _ _ _ _⟩;rw[ER.out];refine(zQ (v:=dT C (Y (T (Q g6 0 Z)) (r.length+bJ op) cx) ((steps:Int)+1) looks ZA 0 ⟨#[]⟩ ZA ⟨#[]⟩ ZA) (base:=A (B W)) ?_ DS _ _ _ _ _ _ _ _ _ _).mono At;refine⟨T (Q g6 0 Z),cx,by rw[Ht.out];simp,?_⟩;rw[Ht.out,Cq];have h:=OE.out;rw[show M.take (bJ op)=M by rw[<-n6.2];exact List.take_length] at h;exact h
def Gk (f:Nat->Ins)(cnt:Nat)(y:Nat->aC)(n:Nat)(ZL:Turn)(st:Nat):SO->Prop
 |.inr (.inl (c,x,k))=>ZL=fH c x k
 |.inr (.inr (a,nm,k))=>ZL=nr a nm k
 |.inl (p,k,l,s)=>k=st+1/\k<=2000/\bZ f cnt y n (2001 - k) p k l s=ZL/\p<=2000/\l<=200/\s.length<=50/\∀x∈s,x.size<=2000
theorem vL{f:Nat->Ins}{cnt:Nat}(i:b.length<=50)(g:∀x∈b,x.size<=2000)(hlk:looks<=200)(h:cY f cnt=ZD)(hc:cnt<=200):qE (bN f cnt place steps looks b) looks:=by
 unfold bN;split;{trivial}
 ·rename_i h1;split;{trivial}
  ·split;{trivial}
   ·rename_i j;have hi:=jv h (show place<cnt by omega);simp only[cG,p6] at hi;obtain⟨i1,i2,i3,i4,i5⟩:=hi;have hmt:dQ (f place).op<=2000:=by unfold dQ;split<;>(try split)<;>omega
    have hmt2:bT (f place).op<=2000:=by unfold bT;split<;>omega
    exact iB _ _ _ _ _ _ i g (by omega) (by omega) (by omega) hlk (by omega) (by omega) (by simpa using j)
theorem vM{f:Nat->Ins}{cnt:Nat}{a:Bool}{nm:ByteArray}(h:bN f cnt place steps looks b=.inr (.inr (a,nm,s))):place<cnt:=by
 unfold bN at h;split at h;{cases h};{omega}
theorem Fs{f:Nat->Ins}{cnt:Nat}{ZL:Turn}{st l:Nat}(hst:st<=2000)(o:l<=200)(D:s.length<=50)(r:∀x∈s,x.size<=2000)(q:cY f cnt=ZD)(ZS:cnt<=200)(ZR:bS y n=ZD)
  (b:bZ f cnt y n (2001 - st) p st l s=ZL):Gk f cnt y n ZL st (fJ f cnt y n p st l s):=by
 obtain⟨j,ZQ⟩:∃j,2001 - st=j+1:=⟨2000 - st,by omega⟩
 rw[ZQ,bZ] at b;have hF:=vL (place:=p) (steps:=st) D r o q ZS;unfold fJ;rcases h:bN f cnt p st l s with ⟨G,p'⟩|⟨c,x⟩|⟨a,nm,G⟩
 {rw[h] at b hF;obtain⟨m,C⟩:=jj h;obtain⟨f1,i,u⟩:=hF;simp only[m] at b ⊢;exact⟨rfl,by omega,by rw[show 2001 - (st+1)=j by omega];exact b,u,o,f1,i⟩};{rw[h] at b;exact b.symm};{rw[h] at b hF;obtain⟨m,C⟩:=lm h;obtain⟨f1,i,u,f4⟩:=hF;have hp:=vM h;simp only[m] at b ⊢;simp only[gQ,jC];by_cases h1:n<=l;{rw[j6 h1] at b ⊢;exact b.symm};{rw[eT h1] at b ⊢;by_cases h2:a=ZA;{rw[j6 h2] at b ⊢;refine⟨rfl,by omega,by rw[show 2001 - (st+1)=j by omega];exact b,by omega,by omega,by simp;omega,λx g=>?_⟩;rcases A9.1 g with rfl|g;{exact iM _};{exact i x g}};{rw[eT h2] at b ⊢;by_cases t:(y l).has=ZA;{rw[j6 t] at b ⊢;exact b.symm};{rw[eT t] at b ⊢;by_cases ZT:(y l).M=0;{rw[j6 ZT] at b ⊢;refine⟨rfl,by omega,by rw[show 2001 - (st+1)=j by omega];exact b,by omega,by omega,by simp;omega,λx g=>?_⟩;rcases A9.1 g with rfl|g;{exact(Ce ZR (show l<n by omega)).1};{exact i x g}};{rw[eT ZT] at b ⊢;exact b.symm}}}}}
theorem Ten.put{f i m l p j b q o n:ZB}(h:Ten w g f i m l p j b q o n)(u0 u1 u2 u3 u4 u5 u6 u7 u8 u9:ZB):Ten ((((((((((w.setCell (Q g 0 Z) u0).setCell (Q g 1 Z) u1).setCell (Q g 2 Z) u2).setCell (Q g 3 Z) u3).setCell (Q g 4 Z) u4).setCell (Q g 5 Z) u5).setCell (Q g 6 Z) u6).setCell (Q g 7 Z) u7).setCell (Q g 8 Z) u8).setCell (Q g 9 Z) u9) g u0 u1 u2 u3 u4 u5 u6 u7 u8 u9 :=
 (((((((((h.set0 u0).set1 u1).set2 u2).set3 u3).set4 u4).set5 u5).set6 u6).set7 u7).set8 u8).set9 u9
theorem oL{u:E}(h:Only g u w)(u0 u1 u2 u3 u4 u5 u6 u7 u8 u9:ZB):Only g u ((((((((((w.setCell (Q g 0 Z) u0).setCell (Q g 1 Z) u1).setCell (Q g 2 Z) u2).setCell (Q g 3 Z) u3).setCell (Q g 4 Z) u4).setCell (Q g 5 Z) u5).setCell (Q g 6 Z) u6).setCell (Q g 7 Z) u7).setCell (Q g 8 Z) u8).setCell (Q g 9 Z) u9) :=
 ce (ce (ce (ce (ce (ce (ce (ce (ce (ce h 0 u0) 1 u1) 2 u2) 3 u3) 4 u4) 5 u5) 6 u6) 7 u7) 8 u8) 9 u9
def wN (w:E)(g b:Nat)(f:Nat->Ins)(cnt:Nat)(y:Nat->aC)(n:Nat)(ZL:Turn)(k:Nat):Prop :=
 (∃p st l s a cap,Ten w g (J I (p:Nat)) (Y a (List.length s) cap) (J I (st:Nat)) (J I (l:Nat)) (ZC ZA) (J I 0) (U ⟨#[]⟩) (ZC ZA) (U ⟨#[]⟩) (ZC ZA)/\w.ownsRow b 9 1 (Y a s.length cap) s.length (strs s) /\
  st<=2000/\bZ f cnt y n (2001 - st) p st l s=ZL/\p<=2000/\l<=200/\s.length<=50/\(∀x∈s,x.size<=2000)/\2002 - st<=k) ∨
 (∃at_ sv lk c x,∃st:Nat,Ten w g at_ sv (J I st) lk (ZC ZD) (J I c) (U x) (ZC ZA) (U ⟨#[]⟩) (ZC ZA)/\ZL=fH c x st) ∨
 (∃at_ sv lk a nm,∃st:Nat,Ten w g at_ sv (J I st) lk (ZC ZA) (J I 0) (U ⟨#[]⟩) (ZC a) (U nm) (ZC ZD)/\ZL=nr a nm st)
theorem Ft{b cap:Nat}{a:Option Addr}{f:List ZB}(h:w.ownsRow b e 1 (Y a n cap) n f){k:Nat}(y:k<b)(i l o p t m g x r q:ZB):World.ownsRow ((((((((((w.setCell (Q k 0 Z) i).setCell (Q k 1 Z) l).setCell (Q k 2 Z) o).setCell (Q k 3 Z) p).setCell (Q k 4 Z) t).setCell (Q k 5 Z) m).setCell (Q k 6 Z) g).setCell (Q k 7 Z) x).setCell (Q k 8 Z) r).setCell (Q k 9 Z) q) b e 1 (Y a n cap) n f:=by have s:∀{w:E} (j:Nat) (u:ZB),w.ownsRow b e 1 (Y a n cap) n f->(w.setCell (Q k j Z) u).ownsRow b e 1 (Y a n cap) n f:=λj u h=>TF h (a:=(Q k j Z)) y u;exact s 9 q (s 8 r (s 7 x (s 6 g (s 5 m (s 4 t (s 3 p (s 2 o (s 1 l (s 0 i h)))))))))
theorem nP (h g cnt cap n p:Nat)(D:Option Addr)(f:Nat->Ins)(w:E)(hn:cnt<=1048576)(q:valid f cnt=ZD->200<(n:Int))(ZT:RowIns w h g cnt f)(x:∀i,i<cnt->(f i).s.size<=maxLen):Calls Pg 89 #[ZG #[Y (T (Q h g Z)) cnt cap],Y D n p] w λe t=>e=ZF badT.v/\Below (A (B w)) w t:=by
 have ZR:=ae ZT;have o:=ae ((((BS w).alloc ly (N #[Y (T (Q h g Z)) cnt cap] 43))).alloc (by simp) (N #[ZC ZA,J I 0,U ⟨#[]⟩,ZC ZA,U ⟨#[]⟩,J I 0] 150));have j:=ke (z w (N #[Y (T (Q h g Z)) cnt cap] 43)) (ZC ZA) (J I 0) (U ⟨#[]⟩) (ZC ZA) (U ⟨#[]⟩) (J I 0) 150;rw[show(z w (N #[Y (T (Q h g Z)) cnt cap] 43)).heap.size=A (B w)+1 by simp] at j;have y:=ae j;have m:=λt h1 h2=>fN h g cnt cap f t hn h1 h2 x;generalize valid f cnt=b at q m;have u:=ae m;have L:=ae q;clear j m ZT x q;go_enter func89,ntmps89;go_wp2_with fail;have r:=ae (ZR.aa o ly);refine(u _ r.1 r.2).mono ?_;rintro e w1 ⟨rfl,l⟩;have G:=ae (y.aa l (by simp));have ZP:=ae (o.trans (l.mono (by simp;omega)));clear l o y r;obtain⟨⟨v0,C,y0⟩,⟨v1,ZO,y1⟩,⟨v2,K,y2⟩,⟨v3,H,y3⟩,⟨v4,ZQ,y4⟩,⟨v5,ZS,y5⟩⟩:=bl6 G.2;cases b
 all_goals
  (try have hn2:=L.out rfl)
  go_wp2;refine bp (v:=badT.v) (by simp[results,QH,go_sem,Turn.v,badT,C,ZO,K,H,ZQ,ZS]) rfl ⟨rfl,fG ZP (by omega) _ _ _ _ _ _⟩
theorem vN (h m cnt cap b2 o2 n ZK:Nat)(f:Nat->Ins)(y:Nat->aC)(w:E)(hn:cnt<=1048576)(hv:valid f cnt=ZD)(hn2:(n:Int)<=200)(hP:RowIns w h m cnt f)(hY:RowReply w b2 o2 n y)(hs:∀i,i<cnt->(f i).s.size<=maxLen)(ZL:Turn)(hT:ZL=if bS y n=ZA then badT else bZ f cnt y n 2001 0 0 0 []):Calls Pg 89 #[ZG #[Y (T (Q h m Z)) cnt cap],Y (T (Q b2 o2 Z)) n ZK] w λe w'=>e=ZF ZL.v/\Below (A (B w)) w w':=by
 have HV:=ae (bF hv).1;have n8:cnt<=200:=by have:=(bF hv).2.2;omega
 have V:=ae hY;have S:=ae hT;clear hY hT;have HP:=ae hP;have A0:=ae ((((BS w).alloc ly (N #[Y (T (Q h m Z)) cnt cap] 43))).alloc (by simp) (N #[ZC ZA,J I 0,U ⟨#[]⟩,ZC ZA,U ⟨#[]⟩,J I 0] 150));have X:=ke (z w (N #[Y (T (Q h m Z)) cnt cap] 43)) (ZC ZA) (J I 0) (U ⟨#[]⟩) (ZC ZA) (U ⟨#[]⟩) (J I 0) 150;rw[show(z w (N #[Y (T (Q h m Z)) cnt cap] 43)).heap.size=A (B w)+1 by simp] at X;have X0:=ae X;have IV:=λw' h1 h2=>fN h m cnt cap f w' hn h1 h2 hs;rw[hv] at IV;have ph:=ae IV;clear X IV hP hs hv;go_enter func89,ntmps89;go_wp2_with fail;have P1:=ae (HP.aa A0 ly);refine(ph _ P1.1 P1.2).mono ?_;rintro e w1 ⟨rfl,M⟩;have c1:w1.cell? (Q (A (B w)) 0 Z)=T (Y (T (Q h m Z)) cnt cap):=(M.cell (p:=(Q (A (B w)) 0 Z)) (by simp;omega)).trans (by simp);have HX:=ae (X0.aa M (by simp));have B1:=ae (A0.trans (M.mono (by simp;omega)));have z1:A (B w)+1<A (B w1):=HX.1;clear M A0 X0 P1;have n6:=ae (V.aa B1 ly);go_wp2_with fail;go_loopw [5] (λi wr=>∃j:Nat,j<=n/\i=J I j/\Hid (bS y j=ZD)/\Below (A (B w1)) w1 wr) (λi _=>n - (intOf i).toNat);case atStart=>exact⟨0,by omega,rfl,rfl,cM _ _⟩
 case round =>
  obtain⟨j,hj,rfl,HK,ZJ⟩:=hrel;have r:=ae (HX.aa ZJ HX.1);have ZQ:=ae (B1.trans (ZJ.mono B1.size));have cp:wr.cell? (Q (A (B w)) 0 Z)=T (Y (T (Q h m Z)) cnt cap):=(ZJ.cell (p:=(Q (A (B w)) 0 Z)) (by simp;omega)).trans c1;have zr:A (B w)+1<A (B wr):=r.1;have bt:=ae ZJ;clear ZJ;by_cases t:j<n
  ·obtain⟨d0,d1,d2⟩:=(V.aa ZQ ly).2 j t;obtain⟨⟨v0,G,y0⟩,⟨v1,L,y1⟩,⟨v2,C,y2⟩,⟨v3,ZP,y3⟩,⟨v4,ZS,y4⟩,⟨v5,ZR,y5⟩⟩:=bl6 r.2;by_cases g1:((y j).H.size:Int)<=2000
   ·by_cases g2:0<=(y j).M
    ·by_cases g3:(y j).M<=7;{go_wp2;refine⟨⟨j+1,by omega,by go_num,?_,?_⟩,by simp[intOf];omega⟩;{show bS y (j+1)=ZD;simp only[bS,HK.out,cD,MR,p6];omega};{exact bt}}
     ·go_wp2;have ZT:ZL=badT:=by rw[S.out,j6 (gI t (by simp only[cD,LH];omega))]
      refine bp (v:=badT.v) (by simp[results,QH,go_sem,Turn.v,badT,G,L,C,ZP,ZS,ZR]) rfl ⟨by rw[ZT],fG ZQ (by omega) _ _ _ _ _ _⟩
    ·go_wp2;have ZT:ZL=badT:=by rw[S.out,j6 (gI t (by simp only[cD,LH];omega))]
     refine bp (v:=badT.v) (by simp[results,QH,go_sem,Turn.v,badT,G,L,C,ZP,ZS,ZR]) rfl ⟨by rw[ZT],fG ZQ (by omega) _ _ _ _ _ _⟩
   ·go_wp2;have ZT:ZL=badT:=by rw[S.out,j6 (gI t (by simp only[cD,LH];omega))]
    refine bp (v:=badT.v) (by simp[results,QH,go_sem,Turn.v,badT,G,L,C,ZP,ZS,ZR]) rfl ⟨by rw[ZT],fG ZQ (by omega) _ _ _ _ _ _⟩
  ·have e:j=n:=by omega
   subst e;have ZT:ZL=bZ f cnt y j 2001 0 0 0 []:=by rw[S.out,eT (by simp[HK.out])]
   have ET:=ae ZT;clear ZT S n6;have RN:=ae (kf wr (J I 0) (Y Z 0 0) (J I 0) (J I 0) (ZC ZA) (J I 0) (U ⟨#[]⟩) (ZC ZA) (U ⟨#[]⟩) (ZC ZA) 216 (A (B wr)) rfl);obtain⟨P,K⟩:∃W:E,z wr (N #[J I 0,Y Z 0 0,J I 0,J I 0,ZC ZA,J I 0,U ⟨#[]⟩,ZC ZA,U ⟨#[]⟩,ZC ZA] 216)=W:=⟨_,rfl⟩
   obtain⟨A2,-,-⟩:=nb1 K;have D:=ae K;clear K;have XN:=ae (r.aa A2 r.1);have BN:=ae (ZQ.trans (A2.mono ZQ.size));have cN:=(A2.cell (p:=(Q (A (B w)) 0 Z)) (by simp;omega)).trans cp;have ZM:A (B wr)<A (B P):=by cases D.out;simp
   go_wp2_with fail;clear c1 cp;rw[D.out] at RN ⊢;clear D;generalize (A (B wr))=u at RN zr ZM ⊢;have qr:b2<u:=lj V.1 (by omega);have n7:h<u:=lj HP.1 (by omega);have S0:Hid (wN P u (A (B P)) f cnt y j ZL 2002):=.inl ⟨0,0,0,[],Z,0,RN,CL _ _ _ _,by omega,ET.symm,by omega,by omega,by simp,by simp,by omega⟩;have PN:=ae (HP.aa BN ly);have YN:=ae (V.aa BN ly);clear RN ET r ZQ bt t HX B1 HP V;go_loopg [] 2002 (λg wr=>wN wr u (A (B P)) f cnt y j ZL g/\Only u P wr);case atStart=>exact⟨S0,Only.refl _ _⟩
   case round =>
    obtain⟨hst,ZO⟩:=hrel;have HO:=ae ZO;have cw:wr.cell? (Q (A (B w)) 0 Z)=T (Y (T (Q h m Z)) cnt cap):=(ZO.cell (A (B w)) 0 (by omega) (by omega)).trans cN;have la:u<A (B wr):=lj ZM ZO.size;have ld:=ae (ZO.aa (nX u) (QM ZM));have BW:=ae (BN.trans (ZO.aa (show (A (B w))<=u by omega) (by omega)));have XW:=ae (XN.ac ZO (by omega));have zw:A (B w)+1<A (B wr):=XW.1;clear ZO;rcases hst with ⟨p,st,l,s,a,mv,b,ZI,k1,k2,k3,k4,k5,k6,k7⟩|⟨at_,sv,lk,c,x,st,b,o⟩|⟨at_,sv,lk,a,nm,st,b,o⟩
    ·have ro:=ae b;have OW:=ae ZI;have n9:=ae (Fs k1 k4 k5 k6 HV n8 HK k2);have K6:=ae k6;have PW:Hid (RowIns wr h m cnt f):=⟨lj PN.1 HO.size,λi hi=>(PN.2 i hi).aa ld n7⟩
     have YW:Hid (RowReply wr b2 o2 j y):=⟨lj YN.1 HO.size,λi hi=>(YN.2 i hi).aa ld qr⟩
     obtain⟨aq,⟨c0,f0⟩,⟨c1,f1⟩,⟨c2,f2⟩,⟨c3,f3⟩,⟨c4,f4⟩,⟨c5,f5⟩,⟨c6,f6⟩,⟨c7,f7⟩,⟨c8,f8⟩,c9,f9⟩:=b;clear ZI k2 k6;go_wp2_with fail;refine(ym h m cnt cap p st l f a s mv b2 o2 j ZK (A (B P)) y _ PW YW OW k3 k1 k4 k5 K6 HV).mono ?_;rintro e w3 ⟨v,rfl,ZN,R⟩;have O:=ae (ro.aa R la);have O3:=ae (HO.ak R);clear aq c0 f0 c1 f1 c2 f2 c3 f3 c4 f4 c5 f5 c6 f6 c7 f7 c8 f8 c9 f9;clear R;have q:=n9.out;obtain⟨g,rfl⟩:∃g,gk=g+1:=⟨gk - 1,by omega⟩
     generalize fJ f cnt y j p st l s=so at ZN q;rcases so with ⟨p',sm,l',s'⟩|⟨c,x,k⟩|⟨a1,nm,k⟩
     ·obtain⟨a',c',rfl,ex⟩:=ZN;obtain⟨m1,m2,m3,m4,m5,m6,m7⟩:=q;have OE:=ae ex;have M3:=ae m3;have M7:=ae m7;have M1:=ae m1;clear ex m3 m7 m1;obtain⟨fd,⟨e0,u0⟩,⟨e1,u1⟩,⟨e2,u2⟩,⟨e3,u3⟩,⟨e4,u4⟩,⟨e5,u5⟩,⟨e6,u6⟩,⟨e7,u7⟩,⟨e8,u8⟩,e9,u9⟩:=O.out;go_wp2;go_roundg g;case measure=>omega
      case rel=>exact⟨.inl ⟨p',sm,l',s',a',c',O.put _ _ _ _ _ _ _ _ _ _,aF (Ft OE la _ _ _ _ _ _ _ _ _ _) HO.size,m2,M3,m4,m5,m6,M7,by have:=M1.out;omega⟩,oL O3 _ _ _ _ _ _ _ _ _ _⟩
     ·obtain⟨at_,a',n',c',lk,rfl⟩:=ZN;have o:ZL=fH c x k:=q;have H:=ae o;clear o q;obtain⟨fd,⟨e0,u0⟩,⟨e1,u1⟩,⟨e2,u2⟩,⟨e3,u3⟩,⟨e4,u4⟩,⟨e5,u5⟩,⟨e6,u6⟩,⟨e7,u7⟩,⟨e8,u8⟩,e9,u9⟩:=O.out;go_wp2;go_roundg g;case measure=>omega
      case rel=>exact⟨.inr (.inl ⟨_,_,_,_,_,_,O.put _ _ _ _ _ _ _ _ _ _,H⟩),oL O3 _ _ _ _ _ _ _ _ _ _⟩
     ·obtain⟨at_,a',n',c',lk,rfl⟩:=ZN;have o:ZL=nr a1 nm k:=q;have H:=ae o;clear o q;obtain⟨fd,⟨e0,u0⟩,⟨e1,u1⟩,⟨e2,u2⟩,⟨e3,u3⟩,⟨e4,u4⟩,⟨e5,u5⟩,⟨e6,u6⟩,⟨e7,u7⟩,⟨e8,u8⟩,e9,u9⟩:=O.out;go_wp2;go_roundg g;case measure=>omega
      case rel=>exact⟨.inr (.inr ⟨_,_,_,_,_,_,O.put _ _ _ _ _ _ _ _ _ _,H⟩),oL O3 _ _ _ _ _ _ _ _ _ _⟩
    {have H:=ae o;obtain⟨aq,⟨c0,f0⟩,⟨c1,f1⟩,⟨c2,f2⟩,⟨c3,f3⟩,⟨c4,f4⟩,⟨c5,f5⟩,⟨c6,f6⟩,⟨c7,f7⟩,⟨c8,f8⟩,c9,f9⟩:=b;obtain⟨⟨v0,G,y0⟩,⟨v1,L,y1⟩,⟨v2,C,y2⟩,⟨v3,ZP,y3⟩,⟨v4,ZS,y4⟩,⟨v5,ZR,y5⟩⟩:=bl6 XW.2;clear o;go_wp2;refine bp (v:=ZL.v) (by rw[H.out];simp[results,QH,go_sem,Turn.v,fH,G,L,C,ZP,ZS,ZR]) rfl ⟨rfl,fG BW (by omega) _ _ _ _ _ _⟩};{have H:=ae o;obtain⟨aq,⟨c0,f0⟩,⟨c1,f1⟩,⟨c2,f2⟩,⟨c3,f3⟩,⟨c4,f4⟩,⟨c5,f5⟩,⟨c6,f6⟩,⟨c7,f7⟩,⟨c8,f8⟩,c9,f9⟩:=b;obtain⟨⟨v0,G,y0⟩,⟨v1,L,y1⟩,⟨v2,C,y2⟩,⟨v3,ZP,y3⟩,⟨v4,ZS,y4⟩,⟨v5,ZR,y5⟩⟩:=bl6 XW.2;clear o;go_wp2;refine bp (v:=ZL.v) (by rw[H.out];simp[results,QH,go_sem,Turn.v,nr,G,L,C,ZP,ZS,ZR]) rfl ⟨rfl,fG BW (by omega) _ _ _ _ _ _⟩}
theorem mI (j g cnt cap o p n b:Nat)(f:Nat->Ins)(y:Nat->aC)(w:E)(hn:cnt<=1048576)(m:RowIns w j g cnt f)(r:RowReply w o p n y)(l:∀i,i<cnt->(f i).s.size<=maxLen):Calls Pg 89 #[ZG #[Y (T (Q j g Z)) cnt cap],Y (T (Q o p Z)) n b] w λe t=>e=ZF (nu f cnt y n).v/\Below (A (B w)) w t:=by
 unfold nu;by_cases h1:valid f cnt=ZA;{rw[j6 h1];exact nP j g cnt cap n b _ f w hn (λh=>absurd (h1.symm.trans h) (by simp)) m l}
 ·have q:valid f cnt=ZD:=by simpa using h1
  rw[eT h1];by_cases h2:200<n;{rw[j6 h2];exact nP j g cnt cap n b _ f w hn (λ_=>by omega) m l};{rw[eT h2];exact vN j g cnt cap o p n b f y w hn q (by omega) m r l _ rfl}
def ki (y:Nat->aC)(i:Nat):List ZB:=[ZC (y i).has,J I (y i).M,U (y i).H]
def lw (y:Nat->aC):Nat->List ZB
 |0=>[]
 |k+1=>lw y k++ki y k
theorem oM (y:Nat->aC)(k:Nat):(lw y k).length=k*3:=by
 induction k with
 |zero=>rfl
 |succ k b=>simp[lw,ki,b];omega
theorem wO (y:Nat->aC){i j:Nat}(b:j<3):∀k,i<k->(lw y k)[i*3+j]?=(ki y i)[j]?
 |0,h=>absurd h (KO _)
 |k+1,h=>by
  rw[lw];by_cases e:i=k
  ·subst e
   rw[KL (by rw[oM];omega),oM,show i*3+j - i*3=j by omega]
  ·rw[KP (by rw[oM];omega)]
   exact wO y b k (by omega)
theorem vO{c k:Nat}(h:w.ownsRow n 156 3 (Y (T (Q g 0 Z)) k c) k (lw y k)):RowReply w g 0 k y:=by
 rcases h.2 with ⟨f,h0⟩|⟨g',cap,l,f,hb,m,hc1,hc2,hc3,p⟩
 {simp at f}
 ·simp only[KK,KJ,OT] at f;obtain⟨⟨rfl,-⟩,-,rfl⟩:=f;have q:g<A (B w):=by
   rcases MG g (A (B w)) with h1|h1;{exact h1};{rw[MS h1] at m;simp at m}
  have b:∀i j,i<k->j<3->w.cell? (Q g (0+i*3+j) Z)=(ki y i)[j]?:=by
   intro i j hi s;have r:w.cell? (Q g (0+i*3+j) Z)=l[i*3+j]?:=by simp[World.cell?,m]
   have o:(l.toList.take (k*3))[i*3+j]?=(lw y k)[i*3+j]?:=by rw[p]
   rw[UO,j6 (by omega),LD,wO y s k hi] at o;rw[r,o]
  refine⟨q,λi hi=>⟨?_,?_,?_⟩⟩;{exact b i 0 hi (by omega)};{exact b i 1 hi (by omega)};{exact b i 2 hi (by omega)}
theorem mJ (w:E)(x y ZT:ZB)(t:ZH):∀j u,[x,y,ZT][j]?=T u->(z w (N #[x,y,ZT] t)).cell? (((Q (A (B w)) 0 Z):Addr).add j)=T u:=by
 intro j u b;match j,b with
 |0,b=>simp at b;subst b;simp[Addr.add]
 |1,b=>simp at b;subst b;simp[Addr.add]
 |2,b=>simp at b;subst b;simp[Addr.add]
theorem zV:(Pg.info? 156).map (λi=>(i.zero,i.size,i.bytes))=T (T (ZG #[ZC ZA,J I 0,U ⟨#[]⟩]),3,32):=by kernel_rfl
theorem yn{b:Nat}{v:ZB}{i:List ZB}(h:w.ownsRow b e 3 v n i)(hn:0<n):∃g c,v=Y (T (Q g 0 Z)) n c:=by
 rcases h.2 with ⟨f,h0⟩|⟨g,cap,cur,f,_⟩
 {omega};{exact⟨g,cap,f⟩}
def Et:ZB->Nat
 |Y _ n _=>n
 |_=>0
theorem mK {f:Nat->au}{p:Nat}:∀k,k<=(f p).f->(∀i,i<k->ec f p i=ZA)->ee f p ((f p).f - k) k=bu f p
 |0,_,_=>rfl
 |k+1,hk,h=>by have:=mK (f:=f) (p:=p) k (by omega) λi hi=>h i (by omega);rw[<-this,show(f p).f - k=((f p).f - (k+1))+1 by omega,ui (h k (by omega))]
theorem Cw{k:Nat}(hk:k<(f p).f)(h:∀i,i<k->ec f p i=ZA)(b:ec f p k=ZD):bu f p=k:=by rw[<-mK k (by omega) h,show(f p).f - k=((f p).f - (k+1))+1 by omega,uj b]
theorem Cx (h:∀i,i<(f p).f->ec f p i=ZA):bu f p=(f p).f:=by rw[<-mK (f p).f ly h,SU];rfl
theorem um{k:Nat}(b:k<(f p).f)(h:∀i,i<k->ec f p i=ZA)(g:ec f p k=ZD):fP f p=4:=by unfold fP;rw[Cw b h g,j6 b]
theorem un (h:∀i,i<(f p).f->ec f p i=ZA):fP f p=if (bo f p (f p).f).K=ZA then 4 else if (bo f p (f p).f).M=(f p).M/\(bo f p (f p).f).H.toList=(f p).H.toList then 0 else 5:=by unfold fP;rw[Cx h,eT (Nat.lt_irrefl _)]
theorem Cy{k:Nat}(b:bv f n=ZD)(g:p<n)(hk3:(f p).L=3)(hk:k<=(f p).f):nu (f p).u (f p).h (yOf f p) k=bo f p k:=by
 have m:valid (f p).u (f p).h=ZD/\(f p).f<=200:=by
  rcases(dU b p g).2 with h|h|h;{omega};{omega};{exact⟨h.2.2.2.1,h.2.2.2.2⟩}
 have j:bS (yOf f p) k=ZD:=uk λi hi=>wM b λl=>Nat.lt_trans (eS b p g i (by omega) l).2.1 g;unfold nu bo;rw[eT (by rw[m.1];simp),eT (by omega),eT (by rw[j];simp)]
theorem zW (r m n cap:Nat)(f:Nat->au)(p:Nat)(w:E)(_hn:(n:Int)<=400)(ZR:bv f n=ZD)(V:p<n)(hk:(f p).L=3)(ZO:RowDeed w r m n f)(ld:ie (f p)):Calls Pg 42 #[ZG #[Y (T (Q r m Z)) n cap],J I p] w λe w'=>e=ZF (J I (fP f p))/\Below (A (B w)) w w':=by
 obtain⟨i0,hi,G8,GS,Hb⟩:=KZ zV;have hN:(f p).f<=200:=by
  rcases(dU ZR p V).2 with h|h|h;{omega};{omega};{exact h.2.2.2.2}
 have hv:valid (f p).u (f p).h=ZD:=by
  rcases(dU ZR p V).2 with h|h|h;{omega};{omega};{exact h.2.2.2.1}
 have Fk:(f p).h<=200:=by have:=(bF hv).2.2;omega
 have DQ:=ae (λk (Ha:k<=(f p).f)=>Cy ZR V hk Ha);have th:=ae (λj (hj:j<(f p).f) (ha:((f p).m j).ask=ZD)=>(⟨(eS ZR p V j hj ha).1,Nat.lt_trans (eS ZR p V j hj ha).2.1 V⟩:0<=((f p).m j).G/\((f p).m j).G.toNat<n));have DS:=ae (show ∀i,i<(f p).h->((f p).u i).s.size<=maxLen from ld.2.2.1.2);have ZN:=ae ZO;obtain⟨o0,o1,o2,o3,⟨a0,o,o4,hI⟩,⟨a1,q,o5,la⟩⟩:=ZO.2 p V;obtain⟨y,ZT,rfl,n8⟩:∃y ZT,a0=T (Q y ZT Z)/\RowIns w y ZT (f p).h (f p).u:=by
  have:=(bF hv).2;rcases hI with h|⟨b,off,e,hr⟩
  {omega};{exact⟨b,off,e,hr⟩}
 have HI:=ae n8;have n9:=ae la;have H:=ZO.1;clear n8 hI la ZO ld ZR hk hv;have hpn:(p:Int)<n:=by omega
 obtain⟨C,hC⟩:∃C,C=fP f p:=⟨_,rfl⟩
 rw[<-hC];have ZJ:=ae hC;clear hC;have ZK:=ae ((BS w).alloc ly (N #[Y (T (Q r m Z)) n cap] 25));have X:=ae (ZK.out.alloc ZK.out.size (N #[U (f p).e,J I (f p).L,J I (f p).M,U (f p).H,Y (T (Q y ZT Z)) (f p).h o,Y a1 (f p).f q] 46));have zD:((z w (N #[Y (T (Q r m Z)) n cap] 25)).alloc (N #[U (f p).e,J I (f p).L,J I (f p).M,U (f p).H,Y (T (Q y ZT Z)) (f p).h o,Y a1 (f p).f q] 46)).heap.size=A (B w)+2:=by simp
 have kA:((z w (N #[Y (T (Q r m Z)) n cap] 25)).alloc (N #[U (f p).e,J I (f p).L,J I (f p).M,U (f p).H,Y (T (Q y ZT Z)) (f p).h o,Y a1 (f p).f q] 46)).cell? (Q (A (B w)) 0 Z)=T (Y (T (Q r m Z)) n cap):=by simp[go_sem]
 have ph:((z w (N #[Y (T (Q r m Z)) n cap] 25)).alloc (N #[U (f p).e,J I (f p).L,J I (f p).M,U (f p).H,Y (T (Q y ZT Z)) (f p).h o,Y a1 (f p).f q] 46)).cell? (Q (A (B w)+1) 2 Z)=T (J I (f p).M):=by simp[go_sem]
 have n6:((z w (N #[Y (T (Q r m Z)) n cap] 25)).alloc (N #[U (f p).e,J I (f p).L,J I (f p).M,U (f p).H,Y (T (Q y ZT Z)) (f p).h o,Y a1 (f p).f q] 46)).cell? (Q (A (B w)+1) 3 Z)=T (U (f p).H):=by simp[go_sem]
 have ro:((z w (N #[Y (T (Q r m Z)) n cap] 25)).alloc (N #[U (f p).e,J I (f p).L,J I (f p).M,U (f p).H,Y (T (Q y ZT Z)) (f p).h o,Y a1 (f p).f q] 46)).cell? (Q (A (B w)+1) 4 Z)=T (Y (T (Q y ZT Z)) (f p).h o):=by simp[go_sem]
 have ex:((z w (N #[Y (T (Q r m Z)) n cap] 25)).alloc (N #[U (f p).e,J I (f p).L,J I (f p).M,U (f p).H,Y (T (Q y ZT Z)) (f p).h o,Y a1 (f p).f q] 46)).cell? (Q (A (B w)+1) 5 Z)=T (Y a1 (f p).f q):=by simp[go_sem]
 have p0:=(ZK.out.cell (p:=(Q r (m+p*6) Z)) H).trans o0;have p1:=(ZK.out.cell (p:=(Q r (m+p*6+1) Z)) H).trans o1;have p2:=(ZK.out.cell (p:=(Q r (m+p*6+2) Z)) H).trans o2;have p3:=(ZK.out.cell (p:=(Q r (m+p*6+3) Z)) H).trans o3;have p4:=(ZK.out.cell (p:=(Q r (m+p*6+4) Z)) H).trans o4;have p5:=(ZK.out.cell (p:=(Q r (m+p*6+5) Z)) H).trans o5;clear o0 o1 o2 o3 o4 o5;have OL:=ae (by have h:=Ez ((z w (N #[Y (T (Q r m Z)) n cap] 25)).alloc (N #[U (f p).e,J I (f p).L,J I (f p).M,U (f p).H,Y (T (Q y ZT Z)) (f p).h o,Y a1 (f p).f q] 46)) 156 3;rw[zD] at h;exact h);have BL:=ae ((cM (A (B w)+2) ((z w (N #[Y (T (Q r m Z)) n cap] 25)).alloc (N #[U (f p).e,J I (f p).L,J I (f p).M,U (f p).H,Y (T (Q y ZT Z)) (f p).h o,Y a1 (f p).f q] 46))).alloc (by rw[zD];exact nX _) (N #[] 156));go_enter func42,ntmps42;go_wp2;clear p0 p1 p2 p3 p4 p5;generalize World.alloc (World.alloc w _) _=qr at X zD kA ph n6 ro ex OL BL ⊢;generalize World.alloc qr _=W0 at OL BL ⊢;go_loopw [6] (λv wr=>∃(k g c:Nat),k<=(f p).f/\v=Y (T (Q g 0 Z)) k c/\Hid (wr.ownsRow (A (B w)+2) 156 3 (Y (T (Q g 0 Z)) k c) k (lw (yOf f p) k))/\Hid (∀i,i<k->ec f p i=ZA)/\Hid (Below (A (B w)+2) qr wr)) (λv _=>(f p).f+1 - Et v);case atStart=>exact⟨0,A (B w)+2,0,by omega,rfl,OL.out,λi hi=>absurd hi (KO _),BL.out⟩
 case round =>
  obtain⟨k,g,c,DE,rfl,HO,HF,HB⟩:=hrel;have RW:=ae (X.out.trans (HB.out.mono (by omega)));have d4:=(HB.out.cell (p:=(Q (A (B w)+1) 4 Z)) (show (A (B w))+1<A (B w)+2 by omega)).trans ro;go_wp2_with fail;clear d4;refine(mI y ZT (f p).h o g 0 k c (f p).u (yOf f p) _ (by omega) (HI.out.aa RW.out ly) (vO HO.out) DS.out).mono ?_;rintro e w1 ⟨rfl,aq⟩;rw[DQ.out k DE];obtain⟨t,ht⟩:∃t,t=bo f p k:=⟨_,rfl⟩
  rw[<-ht];have G:=ae ht;have S:=ae (HB.out.trans (aq.mono (by have:=HB.out.size;omega)));have O1:=ae (own_below HO.out aq ly);have ZI:A (B w)+2<=A (B w1):=by have:=S.out.size;omega
  have hz2:A (B w)+1<A (B w1):=by omega
  have hz3:A (B w)<A (B w1):=by omega
  have d2:=(S.out.cell (p:=(Q (A (B w)+1) 2 Z)) (show (A (B w))+1<A (B w)+2 by omega)).trans ph;have d3:=(S.out.cell (p:=(Q (A (B w)+1) 3 Z)) (show (A (B w))+1<A (B w)+2 by omega)).trans n6;have d5:=(S.out.cell (p:=(Q (A (B w)+1) 5 Z)) (show (A (B w))+1<A (B w)+2 by omega)).trans ex;have R:=ae (S.out.alloc ZI (N #[ZC t.K,J I t.M,U t.H,ZC t.ask,U t.e,J I t.j] 150));have ZS:=ae (X.out.trans (R.out.mono (by omega)));have W:=ae (O1.out.alloc (N #[ZC t.K,J I t.M,U t.H,ZC t.ask,U t.e,J I t.j] 150));clear ht aq HO HB;simp only[Turn.v];cases ho:t.K with
  |true =>
   rw[ho] at R ZS W;by_cases ZQ:k<(f p).f
   ·have ur:(k:Int)<(f p).f:=by omega
    have u:Hid (ec f p k=ZD):=by show _=_;unfold ec;rw[<-G.out];rw[ho];rfl
    have x:Hid (C=4):=by show _=_;rw[ZJ.out];exact um ZQ HF.out u.out
    go_wp2;go_ret;exact⟨by simp[x.out],ZS.out⟩
   ·obtain rfl:k=(f p).f:=by omega
    have ZL:=ae (un HF.out);by_cases hc:t.M=(f p).M
    ·cases htx:(t.H.toList == (f p).H.toList) with
     |true =>
      have x:Hid (C=0):=by show _=_;rw[ZJ.out,ZL.out,<-G.out,ho,eT (by simp),j6 ⟨hc,PH.1 htx⟩]
      go_wp2;go_ret;exact⟨by simp[x.out],X.out.trans ((S.out.alloc ZI _).mono (by omega))⟩
     |false =>
      have x:Hid (C=5):=by show _=_;rw[ZJ.out,ZL.out,<-G.out,ho,eT (by simp),eT (λh=>by rw[h.2] at htx;simp at htx)]
      go_wp2;go_ret;exact⟨by simp[x.out],X.out.trans ((S.out.alloc ZI _).mono (by omega))⟩
    ·have x:Hid (C=5):=by show _=_;rw[ZJ.out,ZL.out,<-G.out,ho,eT (by simp),eT (λh=>hc h.1)]
     have Fk:(t.M == (f p).M)=ZA:=by simpa using hc
     go_wp2;go_ret;exact⟨by simp[x.out],X.out.trans ((S.out.alloc ZI _).mono (by omega))⟩
  |false =>
   rw[ho] at R ZS W;by_cases ZQ:k<(f p).f
   ·have ur:(k:Int)<(f p).f:=by omega
    have hge:decide ((f p).f<=k)=ZA:=by simp;omega
    obtain⟨bl,offl,rfl,mv⟩:=(n9.out.aa ZS.out ly).resolve_left (by omega);obtain⟨r0,r1,ZP,M⟩:=mv.2 k ZQ;obtain⟨l,hl⟩:∃l,(f p).m k=l:=⟨_,rfl⟩
    rw[hl] at r0 r1 ZP M;obtain⟨nm,ask,hs,at_⟩:=l;dsimp only at r0 r1 ZP M;have P:=ae hl;clear mv hl;have ZM:(t.e.toList == nm.toList)=(nm.toList == t.e.toList):=by rw[L9,PH,PH];exact eq_comm
    have WY:(ec f p k=ZD/\((nm.toList == t.e.toList)=ZA∨(nm.toList == t.e.toList)=ZD/\(t.ask=ZD/\ask=ZA∨t.ask=ZA/\ask=ZD)))∨(ec f p k=ZA/\(nm.toList == t.e.toList)=ZD/\t.ask=ask):=by unfold ec;rw[<-G.out,P.out,ho,ZM];cases (nm.toList == t.e.toList)<;>cases t.ask<;>cases ask<;>simp
    rcases WY with ⟨u,WY⟩|⟨u,hn,O⟩
    ·replace u:=ae u;have x:Hid (C=4):=by show _=_;rw[ZJ.out];exact um ZQ HF.out u.out
     rcases WY with hn|⟨hn,⟨O,rfl⟩|⟨O,rfl⟩⟩
     all_goals
      have Fm:=ZM.trans hn;clear ZM
      (try rw[O] at R ZS W r0 r1 ZP M)
      go_wp2_with fail;go_quiet (fail);have K:=ae (AI ZS.out nq);clear r0 r1 ZP M R ZS W d2 d3 d5;generalize World.drewN (World.alloc w1 _) nq=WQ at K ⊢;go_wp2;go_ret;exact⟨by simp[x.out],K.out⟩
    ·replace u:=ae u;have Fm:=ZM.trans hn;clear ZM;rw[O] at R ZS W r0 r1 ZP M;have HY:Hid (ej f ⟨nm,ask,hs,at_⟩=yOf f p k):=by show _=_;unfold yOf;rw[P.out]
     have Fd:Hid (ask=ZD->0<=at_/\at_.toNat<n):=λha=>by have:=th.out k ZQ (by rw[P.out];exact ha);rw[P.out] at this;exact this
     cases ask
     all_goals
      go_wp2_with fail;go_quiet (fail);have K:=ae (AI R.out nq);have RQ:=ae (X.out.trans (K.out.mono (by omega)));have OQ:=ae (own_below W.out (AI br nq) ly);clear r0 r1 ZP M R ZS W d2 d3 d5;generalize World.drewN (World.alloc w1 _) nq=WQ at K RQ OQ ⊢;have kA2:=(K.out.cell (p:=(Q (A (B w)) 0 Z)) (show (A (B w))<A (B w)+2 by omega)).trans kA;have d5:=(K.out.cell (p:=(Q (A (B w)+1) 5 Z)) (show (A (B w))+1<A (B w)+2 by omega)).trans ex;have Bk:=(n9.out.aa RQ.out ly).resolve_left (by omega);obtain⟨bl2,offl2,eb,bt⟩:=Bk;simp only[KJ,OT,and_true] at eb;obtain⟨rfl,rfl⟩:=eb;obtain⟨r0,r1,ZP,M⟩:=bt.2 k ZQ;rw[P.out] at r0 r1 ZP M;dsimp only at r0 r1 ZP M;have sm:A (B w)+2<=A (B WQ):=by have:=K.out.size;omega
      clear bt;go_wp2_with fail
      go_region_law (first
       |(refine fs rfl (.tmp 67) (.tmp 75) 153 rfl (A (B w)+2) 156 i0 (ZG #[ZC ZA,J I 0,U ⟨#[]⟩]) 3 32 UQ hi G8 GS Hb rfl (by decide) (Y (T (Q g 0 Z)) k c) k (lw (yOf f p) k) (by simp[Act.eval]) (by first|exact O5.out.alloc _|exact O5.out.drew.alloc _|exact O5.out.drew.drew.alloc _) (Q (A (B w5)) 0 Z) 1 1 (ki (yOf f p) k) (by simp[Act.eval]) rfl (by first|exact mJ w5 _ _ _ _|exact mJ w5.drew _ _ _ _|exact mJ w5.drew.drew _ _ _ _) (by simp[ki,Value.oneCell']) (by unfold maxLen;omega) (by omega) (by simp<;>omega) ?_;intro v6 w6 fd L At;have O6:=ae fd;(first|have B6:=ae (bg (B5.out.alloc n7 _) L (by simp<;>omega) (λj e=>(O5.out.lt j e).1))|have B6:=ae (bg (B5.out.drew.alloc (by simpa using n7) _) L (by simp<;>omega) (λj e=>(O5.out.lt j e).1)));clear fd L At)
       |(go_simp;go_at_call 90;(first|(guard_hyp O:t.ask=ZD;refine(mH r m n cap f ⟨nm,ZD,hs,at_⟩ _ ?_ (λ_=>Fd.out (by simp))).mono ?_)|refine(mH r m n cap f ⟨nm,ZA,hs,at_⟩ _ ?_ (λh=>by cases h)).mono ?_);(first|exact ZN.out.aa RQ.out ly|exact ZN.out.aa RQ.out.drew ly|exact ZN.out.aa RQ.out.drew.drew ly|exact ZN.out.aa RQ.out.drew.drew.drew ly);rintro e w5 ⟨rfl,D⟩;rw[HY.out];have D5:Hid (Below (A (B WQ)) WQ w5):=⟨D.os,D.tape,D.output,D.size,D.block⟩;have O5:=ae (own_below OQ.out D5.out ly);have B5:=ae (K.out.trans (D5.out.mono sm));have n7:A (B w)+2<=A (B w5):=(nL sm D5.out.size);clear D))
      all_goals
       obtain⟨g6,c6,rfl⟩:=yn O6.out (by omega);go_simp;go_wp2
       exact⟨⟨k+1,g6,c6,by omega,rfl,O6.out,λi hi=>by
        by_cases e:i=k
        ·subst e;exact u.out
        ·exact HF.out i (by omega),B6.out⟩,by simp[Et];omega⟩
   ·obtain rfl:k=(f p).f:=by omega
    have ZL:=ae (un HF.out);have x:Hid (C=4):=by show _=_;rw[ZJ.out,ZL.out,<-G.out,ho,j6 rfl]
    go_wp2_with fail;go_quiet (fail);go_wp2;go_ret;exact⟨by simp[x.out],by first|exact AI ZS.out _|exact ZS.out⟩
