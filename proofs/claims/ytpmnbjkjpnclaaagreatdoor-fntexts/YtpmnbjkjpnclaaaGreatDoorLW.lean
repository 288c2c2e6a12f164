import Derived.Test.YtpmnbjkjpnclaaaGreatDoorLU
import Derived.Deep.CutBlock
set_option maxRecDepth 1000000
set_option maxHeartbeats 8000000
set_option linter.unusedSimpArgs false
open Go renaming Addr.mk->N,Value.slice->Y,Value.string->U,Value.int->Q,Value.bool->ZC,Value.agg->ZG,Obj.cells->J,IntKind.i64->I,World->M,Value->ZB,TypeId->ZH,Ending.returned->ZD,World.heap->z,World.alloc->A,Proofs.Tryz.prog->Pg
open Option renaming none->Z,some->T
open Bool renaming false->ZA,true->ZF
open Array renaming size->B
namespace Go.Proofs.YtpmnbjkjpnclaaaGreatDoor.Vp
open Tryz RowKit
variable {p n g place steps looks:Nat}{w:M}{f:Nat->aj}{b s:List ByteArray}{y:Nat->aB}{e:ZH}
theorem wX (pb po cnt n8 place steps looks:Nat)(f:Nat->Ins)(a:Option Addr)(s:List ByteArray)(cap b2 o2 n FP Bk:Nat)(y:Nat->aB)(w:M)
  (hP:RowIns w pb po cnt f) (hY:RowReply w b2 o2 n y) (hO:w.ownsRow Bk 9 1 (Y a s.length cap) s.length (strs s)) (hp:place<=2000) (hst:steps<=2000) (hlk:looks<=200) (hs:s.length<=50) (Gf:∀x∈s,x.size<=2000) (F7:cX f cnt=ZF) :
  Calls Pg 156 #[ZG #[Y (T (N pb po Z)) cnt n8],dB place (Y a s.length cap) steps looks ZA 0 ⟨#[]⟩ ZA ⟨#[]⟩ ZA,Y (T (N b2 o2 Z)) n FP] w λe w'=>∃v,e=ZD v/\SoIs w' (B (z w)) v (fh f cnt y n place steps looks s)/\Below (B (z w)) w w':=by
 obtain⟨so,fd⟩:∃so,so=fh f cnt y n place steps looks s:=⟨_,rfl⟩
 rw[<-fd];have S0:=ae fd;clear fd;have HP:=ae hP;have HY:=ae hY;have HO:=ae hO;have HK:=ae F7;have HL:=ae Gf;clear hP hY hO F7 Gf;have A0:=ae ((((BS w).alloc ly (J #[Y (T (N pb po Z)) cnt n8] 43)).alloc (by simp) (J #[Q I place,Y a s.length cap,Q I steps,Q I looks,ZC ZA,Q I 0,U ⟨#[]⟩,ZC ZA,U ⟨#[]⟩,ZC ZA] 226)).alloc (by simp<;>omega) (J #[Q I 0,Y Z 0 0,Q I 0,Q I 0,ZC ZA,Q I 0,U ⟨#[]⟩,ZC ZA,U ⟨#[]⟩,ZC ZA] 226));have R0:=ae ((jA (A w (J #[Y (T (N pb po Z)) cnt n8] 43)) (Q I place) (Y a s.length cap) (Q I steps) (Q I looks) (ZC ZA) (Q I 0) (U ⟨#[]⟩) (ZC ZA) (U ⟨#[]⟩) (ZC ZA) 226 (B (z w)+1) (by simp)).al (J #[Q I 0,Y Z 0 0,Q I 0,Q I 0,ZC ZA,Q I 0,U ⟨#[]⟩,ZC ZA,U ⟨#[]⟩,ZC ZA] 226));have Z0:=ae (jA ((A w (J #[Y (T (N pb po Z)) cnt n8] 43)).alloc (J #[Q I place,Y a s.length cap,Q I steps,Q I looks,ZC ZA,Q I 0,U ⟨#[]⟩,ZC ZA,U ⟨#[]⟩,ZC ZA] 226)) (Q I 0) (Y Z 0 0) (Q I 0) (Q I 0) (ZC ZA) (Q I 0) (U ⟨#[]⟩) (ZC ZA) (U ⟨#[]⟩) (ZC ZA) 226 (B (z w)+1+1) (by simp));go_enter func156,ntmps156;go_wp2_with fail;refine(kQ place (by omega) _).mono ?_;rintro e l ⟨rfl,bt⟩;have hD:(⟨(Lib.decDigits place).toArray⟩:ByteArray)=dw place:=rfl;rw[hD];have R1:=ae (R0.aa bt (by simp<;>omega));have Z1:=ae (Z0.aa bt (by simp<;>omega));have B1:=ae (A0.trans (bt.mono (by simp<;>omega)));have pP:l.cell? (N (B (z w)) 0 Z)=T (Y (T (N pb po Z)) cnt n8):=(bt.cell (p:=(N (B (z w)) 0 Z)) (by simp<;>omega)).trans (EJ _ _ _ _ _ _ _ rfl);have O1:=ae (own_below HO B1 ly);have hz1:B (z w)+1+1<B (z l):=Z1.1;have hz0:B (z w)<B (z l):=by omega
 have hz01:B (z w)+1<B (z l):=by omega
 clear bt A0 R0 Z0 hD;obtain⟨m,⟨c0,f0⟩,⟨c1,f1⟩,⟨c2,R⟩,⟨c3,V⟩,⟨c4,X⟩,⟨c5,P⟩,⟨c6,S⟩,⟨ZK,ZN⟩,⟨L,f8⟩,ZI,ZL⟩:=R1.out;rcases Int.lt_or_le (place:Int) cnt with h1|h1;rotate_left;{have S1:Hid (so=.inr (.inl (2,(dw place),steps))):=S0.trans (show fh f cnt y n place steps looks s=.inr (.inl (2,(dw place),steps)) by have h:cnt<=place:=(by omega);simp[fh,gv,bv,cj,h]);go_wp2_with fail;refine(eU _ _ _ _ _ _ _ _ _ _ _ _ _ _ _).mono ?_;rintro e w5 ⟨rfl,b⟩;have ZE:=ae (Z1.aa b Z1.1);have D:=ae (B1.trans (b.mono B1.size));clear b;clear m c0 f0 c1 f1 c2 R c3 V c4 X c5 P c6 S ZK ZN L f8 ZI ZL;obtain⟨ex,⟨z0,y0⟩,⟨z1,y1⟩,⟨z2,y2⟩,⟨z3,y3⟩,⟨ZQ,y4⟩,⟨K,y5⟩,⟨H,y6⟩,⟨G,y7⟩,⟨ZO,y8⟩,ZP,y9⟩:=ZE.out;go_wp2;refine bp (v:=dB place (Y a s.length cap) steps looks ZF 2 (dw place) ZA ⟨#[]⟩ ZA) (by simp[results,MC,go_sem,z0,z1,z2,z3,ZQ,K,H,G,ZO,ZP]) rfl ⟨_,rfl,(by rw[S1.out];exact⟨_,_,_,_,_,rfl⟩),dq D (by omega) _ _ _ _ _ _ _ _ _ _⟩};rcases Bool.eq_false_or_eq_true ((steps:Int) == 2000) with h2|h2;{have S1:Hid (so=.inr (.inl (3,⟨#[]⟩,steps))):=S0.trans (show fh f cnt y n place steps looks s=.inr (.inl (3,⟨#[]⟩,steps)) by have h:¬ cnt<=place:=(by omega);have e:steps=2000:=(by simp at h2;omega);simp[fh,gv,bv,cj,h,e]);go_wp2_with fail;refine(eU _ _ _ _ _ _ _ _ _ _ _ _ _ _ _).mono ?_;rintro e w5 ⟨rfl,b⟩;have ZE:=ae (Z1.aa b Z1.1);have D:=ae (B1.trans (b.mono B1.size));clear b;clear m c0 f0 c1 f1 c2 R c3 V c4 X c5 P c6 S ZK ZN L f8 ZI ZL;obtain⟨ex,⟨z0,y0⟩,⟨z1,y1⟩,⟨z2,y2⟩,⟨z3,y3⟩,⟨ZQ,y4⟩,⟨K,y5⟩,⟨H,y6⟩,⟨G,y7⟩,⟨ZO,y8⟩,ZP,y9⟩:=ZE.out;go_wp2;refine bp (v:=dB place (Y a s.length cap) steps looks ZF 3 ⟨#[]⟩ ZA ⟨#[]⟩ ZA) (by simp[results,MC,go_sem,z0,z1,z2,z3,ZQ,K,H,G,ZO,ZP]) rfl ⟨_,rfl,(by rw[S1.out];exact⟨_,_,_,_,_,rfl⟩),dq D (by omega) _ _ _ _ _ _ _ _ _ _⟩};have hi:=iU HK.out (show place<cnt by omega);simp only[b9,xT] at hi;obtain⟨op,Fm⟩:=AT (show 0<=(f place).op by omega);obtain⟨k,hk⟩:=AT hi.2.2.2.1;have Gy:dx (f place).op<=2000:=by unfold dx;split<;>(try split)<;>omega
 have Gi:bF (f place).op<=2000:=by unfold bF;split<;>omega
 have Gr:k<=2000:=by omega
 have GA:(f place).s.size<=2000:=by omega
 have th:1<=op:=by omega
 have F8:op<=15:=by omega
 have EP:Hid (so=if dZ op s=ZA then .inr (.inl (2,(dw place),(steps+1))) else gv y n place (steps+1) looks (bZ op k (f place).s place looks s)):=by
  show _=_;rw[S0.out];have q1:¬ cnt<=place:=by omega
  have q2:¬ steps=2000:=by simp at h2;omega
  simp only[fh,bv,cj,q1,q2,P2,Fm,hk,Int.toNat_natCast];split<;>rfl
 clear hi Gy Gi HK;obtain⟨d0,d1,d2⟩:=(HP.aa B1 ly).2 place (by omega);rw[Fm] at d0;rw[hk] at d2;have hpb:pb<B (z w):=HP.1;have GI:=(cell_far l (N (B (z w)+1) 2 Z) (N pb (po+place*3) Z) (Q I ((steps:Int)+1)) (by simp;omega)).trans d0;have GC:=(cell_far l (N (B (z w)+1) 2 Z) (N pb (po+place*3+1) Z) (Q I ((steps:Int)+1)) (by simp;omega)).trans d1;have Gt:=(cell_far l (N (B (z w)+1) 2 Z) (N pb (po+place*3+2) Z) (Q I ((steps:Int)+1)) (by simp;omega)).trans d2;have F0:∀j,B (z w)<=j->Value.ownBlock (Y a s.length cap)≠T j:=λj hj e=>by have:=(HO.lt j e).2;omega
 have R2:=ae ((R1.set2 (Q I ((steps:Int)+1))).al (J #[Q I op,U (f place).s,Q I k] 151));have Z2:=ae ((Z1.other (N (B (z w)+1) 2 Z) (Q I ((steps:Int)+1)) (by simp)).al (J #[Q I op,U (f place).s,Q I k] 151));have O2:=ae ((QU O1 (a:=(N (B (z w)+1) 2 Z)) (F0 _ (by simp)) (Q I ((steps:Int)+1))).alloc (J #[Q I op,U (f place).s,Q I k] 151));have B2:=ae ((B1.setCell (p:=(N (B (z w)+1) 2 Z)) (by simp) (Q I ((steps:Int)+1))).alloc (by have:=B1.size;simpa using this) (J #[Q I op,U (f place).s,Q I k] 151));have g0:((l.setCell (N (B (z w)+1) 2 Z) (Q I ((steps:Int)+1))).alloc (J #[Q I op,U (f place).s,Q I k] 151)).cell? (N (B (z l)) 0 Z)=T (Q I op):=jl _ _ _ _ _ _ (by simp) rfl;have g1:((l.setCell (N (B (z w)+1) 2 Z) (Q I ((steps:Int)+1))).alloc (J #[Q I op,U (f place).s,Q I k] 151)).cell? (N (B (z l)) 1 Z)=T (U (f place).s):=jl _ _ _ _ _ _ (by simp) rfl;have g2:((l.setCell (N (B (z w)+1) 2 Z) (Q I ((steps:Int)+1))).alloc (J #[Q I op,U (f place).s,Q I k] 151)).cell? (N (B (z l)) 2 Z)=T (Q I k):=jl _ _ _ _ _ _ (by simp) rfl;have ld:B (z l)<((l.setCell (N (B (z w)+1) 2 Z) (Q I ((steps:Int)+1))).alloc (J #[Q I op,U (f place).s,Q I k] 151)).heap.size:=by simp
 clear F0;go_wp2_with fail;refine(um op _ th F8).mono ?_;rintro e w9 ⟨rfl,Gw⟩;subst Gw;clear m c0 f0 c1 f1 c2 R c3 V c4 X c5 P c6 S ZK ZN L f8 ZI ZL;clear d0 d1 d2 GI GC Gt Fm hk pP;generalize World.alloc (World.setCell l _ _) _=W at R2 Z2 O2 B2 g0 g1 g2 ld ⊢;obtain⟨m,⟨c0,f0⟩,⟨c1,f1⟩,⟨c2,R⟩,⟨c3,V⟩,⟨c4,X⟩,⟨c5,P⟩,⟨c6,S⟩,⟨ZK,ZN⟩,⟨L,f8⟩,ZI,ZL⟩:=R2.out;have hpt:=Aq op;have Gn:aJ op<=2:=by unfold aJ;split<;>(try split)<;>omega
 by_cases hb:dZ op s=ZA
 ·have S1:Hid (so=.inr (.inl (2,(dw place),(steps+1)))):=by rw[EP.out,nL hb];rfl
  have hA:(s.length:Int)<(aJ op:Nat)∨¬ (s.length:Int)<(aJ op:Nat)/\(50:Int)<(s.length:Int) - (aJ op:Nat)+(bu op:Nat):=by simp only[dZ,JY] at hb;omega
  clear hb EP;rcases hA with hA|⟨hA,Ge⟩
  iterate 2
   ·go_wp2_with fail
    refine(eU _ _ _ _ _ _ _ _ _ _ _ _ _ _ _).mono ?_;rintro e w5 ⟨rfl,b⟩;have ZE:=ae (Z2.aa b Z2.1);have D:=ae (B2.trans (b.mono B2.size));clear b;clear m c0 f0 c1 f1 c2 R c3 V c4 X c5 P c6 S ZK ZN L f8 ZI ZL;obtain⟨ex,⟨z0,y0⟩,⟨z1,y1⟩,⟨z2,y2⟩,⟨z3,y3⟩,⟨ZQ,y4⟩,⟨K,y5⟩,⟨H,y6⟩,⟨G,y7⟩,⟨ZO,y8⟩,ZP,y9⟩:=ZE.out;go_wp2;refine bp (v:=dB place (Y a s.length cap) ((steps:Int)+1) looks ZF 2 (dw place) ZA ⟨#[]⟩ ZA) (by simp[results,MC,go_sem,z0,z1,z2,z3,ZQ,K,H,G,ZO,ZP]) rfl ⟨_,rfl,(by rw[S1.out];exact⟨_,_,_,_,_,rfl⟩),dq D (by omega) _ _ _ _ _ _ _ _ _ _⟩
 have FZ:aJ op<=s.length/\s.length - aJ op+bu op<=50:=by simpa[dZ] using hb
 have hA:¬ (s.length:Int)<(aJ op:Nat):=by omega
 have Ge:¬ (50:Int)<(s.length:Int) - (aJ op:Nat)+(bu op:Nat):=by omega
 have SO:Hid (so=gv y n place (steps+1) looks (bZ op k (f place).s place looks s)):=by rw[EP.out,eT hb];rfl
 have HB:=ae FZ.1;have GJ:(s.drop (aJ op)).length+bu op<=50:=by rw[J6];omega
 clear hb FZ EP;obtain⟨ZT,Gb⟩:∃ZT,ZT=j5 op s:=⟨_,rfl⟩
 obtain⟨ZR,bt⟩:∃ZR,ZR=pk op s:=⟨_,rfl⟩
 obtain⟨r,ph⟩:∃r,r=s.drop (aJ op):=⟨_,rfl⟩
 rw[<-ph] at GJ;have EA:=ae Gb;have EB:=ae bt;have ER:=ae ph;clear S0 Gb bt ph;go_upto_if 68 with fail;go_cut [11] (λsa O=>sa=U ZT/\W=O);case first =>
  by_cases ht:(0:Int)<(aJ op:Nat)
  ·rcases s with _|⟨x,q⟩
   {exact absurd HB.out (by simp;omega)}
   ·obtain⟨g,c,e⟩:=fY O2 (by simp);obtain⟨rfl,-⟩:=NQ e;have t1:=Dn O2.out;have GE:q.length<=50:=by simp at hs;omega
    obtain rfl:ZT=x:=by rw[EA.out];unfold j5;rw[nL (by omega)];rfl
    rw[BG] at c1;go_wp2;go_meet;exact⟨rfl,rfl⟩
  ·obtain rfl:ZT=⟨#[]⟩:=by rw[EA.out];unfold j5;rw[eT (by omega)]
   go_wp2;go_meet;exact⟨rfl,rfl⟩
 case rest =>
 obtain⟨rfl,rfl⟩:=hcut;go_upto_if 78 with fail;go_cut [12] (λsa O=>sa=U ZR/\W=O);case first =>
  by_cases ht:(1:Int)<(aJ op:Nat)
  ·rcases s with _|⟨x,_|⟨ZS,q⟩⟩
   {exact absurd HB.out (by simp;omega)};{exact absurd HB.out (by simp;omega)}
   ·obtain⟨g,c,e⟩:=fY O2 (by simp);obtain⟨rfl,-⟩:=NQ e;obtain⟨t1,t2⟩:=Do O2;have GE:q.length+1<=50:=by simp at hs;omega
    obtain rfl:ZR=ZS:=by rw[EB.out];unfold pk;rw[nL (by omega)];rfl
    rw[BG,BG] at c1;go_wp2;go_meet;exact⟨rfl,rfl⟩
  ·obtain rfl:ZR=⟨#[]⟩:=by rw[EB.out];unfold pk;rw[eT (by omega)]
   go_wp2;go_meet;exact⟨rfl,rfl⟩
 case rest =>
 obtain⟨rfl,rfl⟩:=hcut;have hl:s.length=r.length+aJ op:=by rw[ER.out,J6];have:=HB.out;omega
 go_upto_region 17 with fail;go_cut [13] (λsr O=>∃ZJ cr,sr=Y (T (N ZJ 0 Z)) r.length cr/\(B (z W))<=ZJ/\Hid (O.ownsRow (B (z W)) 9 1 (Y (T (N ZJ 0 Z)) r.length cr) r.length (strs r))/\Hid (Below (B (z W)) W O));case first =>
  rcases yo O2.out with ⟨rfl,hz,rfl⟩|⟨g,rfl⟩
  ·obtain rfl:s=[]:=PX.1 hz;obtain rfl:r=[]:=by rw[ER.out];simp
   have F3:aJ op=0:=by simpa using HB.out
   have h0:((aJ op:Nat):Int)=0:=by rw[F3];rfl
   have hw3:-((aJ op:Nat):Int)=0:=by rw[h0];decide
   have hw4:0 - ((aJ op:Nat):Int)=0:=by rw[h0];decide
   clear h0 F3 hl;have AL:=ae ((BS W).alloc ly (J #[] 9));have OM:=ae (KJ (base:=B (z W)) (e:=9) (size:=1) W #[] 0 ly (by unfold maxLen;omega) rfl);go_wp2;go_meet;exact⟨_,_,rfl,nX _,OM,AL⟩
  ·have hcap:(r.length:Int)<=cap:=by have:=Dp O2.out;omega
   have Gj:Hid (∀j u,(strs r)[j]?=T u->(A W (J #[] 9)).cell? (((N g 0 Z):Addr).add j)=T u):=Dq (xs:=strs (s.take (aJ op))) (by
    have h:=O2.alloc (J #[] 9);rw[ER.out,<-Au,MQ]
    exact h)
   obtain⟨t,ht⟩:∃t,t=aJ op:=⟨_,rfl⟩
   rw[<-ht] at hl Gn ⊢;rw[hl] at c1 hs;have HS:=ae hs;have HL:=ae hl;clear hs hl;obtain⟨FK,hi,FQ,FX,FV⟩:=JT fK;go_wp2_with (at_builtin;refine IS _ rfl (.tmp 87) (.tmp 95) 30 rfl (B (z W)) 9 FK (U ⟨#[]⟩) 1 16 JD hi FQ FX FV rfl (by decide) (Y (T (N (B (z W)) 0 Z)) 0 0) 0 [] (by simp[Act.eval]) (KJ W #[] 0 ly (by unfold maxLen;omega) rfl) (N g 0 Z) r.length cap (strs r) (by simp[Act.eval]) (by simp[strs]) Gj.out (Ap _) (by unfold maxLen;omega) (by omega) (by simp) ?_;intro v' w2 sm CD FM;simp only[JC,JW] at sm;obtain⟨ZJ,cr,rfl,Ga⟩:=qd sm (λe=>by simpa using FM.1 e);have B3:=ae (bg ((BS W).alloc ly (J #[] 9)) CD (by simp) (λj e=>by simp[Value.ownBlock] at e;omega));have Fk:=ae sm;clear sm CD FM);go_meet;exact⟨ZJ,cr,rfl,Ga,Fk,B3⟩
 case rest =>
 clear hl hA Ge;obtain⟨ZJ,cr,rfl,Ga,Fk,B3⟩:=hcut;have Fd:B (z w)<=B (z W):=B2.size;have ph:B (z w)+1<B (z W):=R2.1;have DQ:B (z w)+1+1<B (z W):=Z2.1;have FU:B (z w)+1≠ZJ:=by omega
 have Gv:B (z W)<=B (z wc):=B3.size;clear m c0 f0 c1 f1 c2 R c3 V c4 X c5 P c6 S ZK ZN L f8 ZI ZL;have R3:=ae (R2.aa B3 R2.1);have Z3:=ae (Z2.aa B3 Z2.1);have G0:=(B3.cell (p:=(N (B (z l)) 0 Z)) ld).trans g0;have G1:=(B3.cell (p:=(N (B (z l)) 1 Z)) ld).trans g1;have G2:=(B3.cell (p:=(N (B (z l)) 2 Z)) ld).trans g2;have R4:=ae (R3.set0 (Q I ((place:Int)+1)));have Z4:=ae (Z3.other (N (B (z w)+1) 0 Z) (Q I ((place:Int)+1)) (by simp));have B4:=ae ((B2.trans (B3.mono B2.size)).setCell (p:=(N (B (z w)+1) 0 Z)) (by simp) (Q I ((place:Int)+1)));have O4:=ae (dr Fk FU (Q I ((place:Int)+1)) 0);have H0:=(cell_far _ (N (B (z w)+1) 0 Z) (N (B (z l)) 0 Z) (Q I ((place:Int)+1)) (by simp;omega)).trans G0;have H1:=(cell_far _ (N (B (z w)+1) 0 Z) (N (B (z l)) 1 Z) (Q I ((place:Int)+1)) (by simp;omega)).trans G1;have H2:=(cell_far _ (N (B (z w)+1) 0 Z) (N (B (z l)) 2 Z) (Q I ((place:Int)+1)) (by simp;omega)).trans G2;have aq:B (z W)<=(wc.setCell (N (B (z w)+1) 0 Z) (Q I ((place:Int)+1))).heap.size:=by simpa using Gv
 obtain⟨Gs,⟨e0,v0⟩,⟨e1,v1⟩,⟨e2,v2⟩,⟨e3,v3⟩,⟨e4,v4⟩,⟨e5,v5⟩,⟨e6,v6⟩,⟨e7,v7⟩,⟨e8,v8⟩,e9,v9⟩:=R3.out;go_upto_block 0 with fail;clear Gs e0 v0 e1 v1 e2 v2 e3 v3 e4 v4 e5 v5 e6 v6 e7 v7 e8 v8 e9 v9;clear g0 g1 g2 G0 G1 G2 B3 R3 Z3 Fk R2 Z2 O2;generalize World.setCell wc _ _=W5 at R4 Z4 B4 O4 H0 H1 H2 aq ⊢;obtain⟨GH,Gk⟩:ZT.size<=2000/\ZR.size<=2000:=by rw[EA.out,EB.out];exact sL HL op
 obtain⟨C,FY⟩:∃C,C=lA op k ZT place:=⟨_,rfl⟩
 have At:=ae FY;clear FY;go_cut [] (λO=>op<=11/\Hid (Ten O (B (z w)+1) (Q I C) (Y a s.length cap) (Q I ((steps:Int)+1)) (Q I looks) (ZC ZA) (Q I 0) (U ⟨#[]⟩) (ZC ZA) (U ⟨#[]⟩) (ZC ZA))/\Hid (Ten O (B (z w)+1+1) (Q I 0) (Y Z 0 0) (Q I 0) (Q I 0) (ZC ZA) (Q I 0) (U ⟨#[]⟩) (ZC ZA) (U ⟨#[]⟩) (ZC ZA))/\Hid (Below (B (z w)) w O)/\Hid (O.ownsRow (B (z W)) 9 1 (Y (T (N ZJ 0 Z)) r.length cr) r.length (strs r))/\O.cell? (N (B (z l)) 0 Z)=T (Q I op)/\O.cell? (N (B (z l)) 1 Z)=T (U (f place).s)/\O.cell? (N (B (z l)) 2 Z)=T (Q I k)/\(B (z W))<=B (z O));case first =>
  obtain⟨m,⟨c0,f0⟩,⟨c1,f1⟩,⟨c2,R⟩,⟨c3,V⟩,⟨c4,X⟩,⟨c5,P⟩,⟨c6,S⟩,⟨ZK,ZN⟩,⟨L,f8⟩,ZI,ZL⟩:=R4.out;rcases Dt op ZT F8 with rfl|rfl|rfl|rfl|rfl|⟨rfl,q1⟩|⟨rfl,q1,q2⟩|⟨rfl,q1,q2⟩|h9;{go_wp2_with fail;refine(eU _ _ _ _ _ _ _ _ _ _ _ _ _ _ _).mono ?_;rintro e w5 ⟨rfl,b⟩;have ZE:=ae (Z4.aa b Z4.1);have D:=ae (B4.trans (b.mono B4.size));clear b;clear m c0 f0 c1 f1 c2 R c3 V c4 X c5 P c6 S ZK ZN L f8 ZI ZL;obtain⟨ex,⟨z0,y0⟩,⟨z1,y1⟩,⟨z2,y2⟩,⟨z3,y3⟩,⟨ZQ,y4⟩,⟨K,y5⟩,⟨H,y6⟩,⟨G,y7⟩,⟨ZO,y8⟩,ZP,y9⟩:=ZE.out;go_wp2;refine bp (v:=dB ((place:Int)+1) (Y a s.length cap) ((steps:Int)+1) looks ZF 0 ZT ZA ⟨#[]⟩ ZA) (by simp[results,MC,go_sem,z0,z1,z2,z3,ZQ,K,H,G,ZO,ZP]) rfl ⟨_,rfl,(by rw[SO.out,ve _ _ _ _ _ _ _ _ _ (by simp) HB.out,<-EA.out];exact⟨_,_,_,_,_,rfl⟩),dq D (by omega) _ _ _ _ _ _ _ _ _ _⟩};{go_wp2_with fail;refine(eU _ _ _ _ _ _ _ _ _ _ _ _ _ _ _).mono ?_;rintro e w5 ⟨rfl,b⟩;have ZE:=ae (Z4.aa b Z4.1);have D:=ae (B4.trans (b.mono B4.size));clear b;clear m c0 f0 c1 f1 c2 R c3 V c4 X c5 P c6 S ZK ZN L f8 ZI ZL;obtain⟨ex,⟨z0,y0⟩,⟨z1,y1⟩,⟨z2,y2⟩,⟨z3,y3⟩,⟨ZQ,y4⟩,⟨K,y5⟩,⟨H,y6⟩,⟨G,y7⟩,⟨ZO,y8⟩,ZP,y9⟩:=ZE.out;go_wp2;refine bp (v:=dB ((place:Int)+1) (Y a s.length cap) ((steps:Int)+1) looks ZF 1 ZT ZA ⟨#[]⟩ ZA) (by simp[results,MC,go_sem,z0,z1,z2,z3,ZQ,K,H,G,ZO,ZP]) rfl ⟨_,rfl,(by rw[SO.out,ve _ _ _ _ _ _ _ _ _ (by simp) HB.out,<-EA.out];exact⟨_,_,_,_,_,rfl⟩),dq D (by omega) _ _ _ _ _ _ _ _ _ _⟩};iterate 2
   ·go_wp2_with fail
    have Z5:=ae (Z4.other (N (B (z w)+1) 1 Z) (Y (T (N ZJ 0 Z)) r.length cr) (by simp));have D:=ae (B4.setCell (p:=(N (B (z w)+1) 1 Z)) (by simp) (Y (T (N ZJ 0 Z)) r.length cr));have O5:=ae (dr O4 FU (Y (T (N ZJ 0 Z)) r.length cr) 1);have Y5:=ae (HY.aa D ly);have hq:=λ(o:Nat) (ho:o=12∨o=13)=>wQ o (f place).s k (place+1) (steps+1) looks (T (N ZJ 0 Z)) cr r ZT (dw place) b2 o2 n FP (B (z W)) y _ Y5 O5 (by simpa using aq) ho hlk (by omega);rw[show((place+1:Nat):Int)=(place:Int)+1 by omega,show((steps+1:Nat):Int)=(steps:Int)+1 by omega] at hq;refine(hq _ (by simp)).mono ?_;rintro e w5 ⟨v,rfl,fd,b⟩;have Gz:=ae fd;obtain⟨l0,l1,l2,l3,l4,l5,l6,l7,l8,l9,GK,GF,rfl⟩:=fd.form;have ZE:=ae (Z5.aa b DQ);have B6:=ae (D.trans (b.mono Fd));clear b hq fd;clear m c0 f0 c1 f1 c2 R c3 V c4 X c5 P c6 S ZK ZN L f8 ZI ZL;obtain⟨ex,⟨z0,y0⟩,⟨z1,y1⟩,⟨z2,y2⟩,⟨z3,y3⟩,⟨ZQ,y4⟩,⟨K,y5⟩,⟨H,y6⟩,⟨G,y7⟩,⟨ZO,y8⟩,ZP,y9⟩:=ZE.out;go_wp2;refine bp (v:=dB l0 (Y l1 l2 l3) l4 l5 l6 l7 l8 l9 GK GF) (by simp[results,MC,go_sem,z0,z1,z2,z3,ZQ,K,H,G,ZO,ZP]) rfl ⟨_,rfl,(by rw[SO.out,Du _ _ _ _ _ _ _ _ _ (by simp) HB.out,<-EA.out,<-ER.out];exact(ym Gz DQ _ _ _ _ _ _ _ _ _ _).mono Fd),dq B6 (by omega) _ _ _ _ _ _ _ _ _ _⟩
  iterate 3
   ·obtain rfl:C=k:=At.trans (FF (by first|exact .inl rfl|exact .inr (.inl ⟨rfl,q1⟩)|exact .inr (.inr ⟨rfl,q2⟩)))
    have R5:=ae (R4.set0 (Q I C));have Z5:=ae (Z4.other (N (B (z w)+1) 0 Z) (Q I C) (by simp));have D:=ae (B4.setCell (p:=(N (B (z w)+1) 0 Z)) (by simp) (Q I C));have O5:=ae (dr O4 FU (Q I C) 0);have I0:=(cell_far _ (N (B (z w)+1) 0 Z) (N (B (z l)) 0 Z) (Q I (C:Int)) (by simp;omega)).trans H0;have I1:=(cell_far _ (N (B (z w)+1) 0 Z) (N (B (z l)) 1 Z) (Q I (C:Int)) (by simp;omega)).trans H1;have I2:=(cell_far _ (N (B (z w)+1) 0 Z) (N (B (z l)) 2 Z) (Q I (C:Int)) (by simp;omega)).trans H2;have HI:=ae I0;have Gp:=ae I1;have Gm:=ae I2;clear I0 I1 I2;go_wp2;go_meet;exact⟨by omega,R5,Z5,D,O5,HI,Gp,Gm,by simpa using aq⟩
  ·obtain rfl:C=place+1:=by rw[At.out];unfold lA;rw[eT (by decide),eT (λh=>h.2.elim (λe=>by rw[e] at q1;cases q1) (λe=>by rw[e] at q2;cases q2))]
   go_wp2;go_meet;exact⟨by omega,by show Ten _ _ _ _ _ _ _ _ _ _ _ _;rw[show((place+1:Nat):Int)=(place:Int)+1 by omega];exact R4,Z4,B4,O4,H0,H1,H2,aq⟩
  ·obtain rfl:C=place+1:=by rw[At.out];unfold lA;rw[eT (by omega),eT (by omega)]
   have n15:((op:Int) == 15)=ZA:=by simp;omega
   have n14:((op:Int) == 14)=ZA:=by simp;omega
   have n12:((op:Int) == 12)=ZA:=by simp;omega
   have n13:((op:Int) == 13)=ZA:=by simp;omega
   have n10:((op:Int) == 10)=ZA:=by simp;omega
   have n11:((op:Int) == 11)=ZA:=by simp;omega
   go_wp2;go_meet;exact⟨by omega,by show Ten _ _ _ _ _ _ _ _ _ _ _ _;rw[show((place+1:Nat):Int)=(place:Int)+1 by omega];exact R4,Z4,B4,O4,H0,H1,H2,aq⟩
 case rest =>
 clear R4 Z4 B4 O4 H0 H1 H2 aq;obtain⟨FW,R4,Z4,B4,O4,G0,G1,G2,aq⟩:=hcut;obtain⟨ZM,DE⟩:∃ZM,ZM=bN op k (f place).s ZT ZR:=⟨_,rfl⟩
 have n9:Hid (ZM=bN op k (f place).s ZT ZR/\ZM.length=bu op):=⟨DE,by rw[DE];exact wR _ _ _ _ _ th FW⟩
 have Gg:Hid (so=fE ZM (dw place) r C (steps+1) looks):=by show _=_;rw[SO.out,Av _ _ _ _ _ _ _ _ _ th FW HB.out GA HL.out,DE,<-EA.out,<-EB.out,<-ER.out,<-At.out]
 clear DE SO EA EB ER At;go_wp2_with fail;go_loopw [13,14] (λrest i wr=>∃j:Nat,j<=bu op/\i=Q I j/\∃g6 cx,rest=Y (T (N g6 0 Z)) (r.length+j) cx/\Hid (wr.ownsRow (B (z W)) 9 1 (Y (T (N g6 0 Z)) (r.length+j) cx) (r.length+j) (strs r++(ZM.take j).map Value.string))/\Hid (Below (B (z W)) wc wr)/\Hid (∀i,i<j->(ZM.getD i ⟨#[]⟩).size<=2000)) (λ_ i _=>bu op - (intOf i).toNat);case atStart=>exact⟨0,by omega,rfl,ZJ,cr,rfl,(by show World.ownsRow _ _ _ _ _ _ _;rw[List.take_zero,P9,List.append_nil];exact O4),cM _ _,λi hi=>absurd hi (JI _)⟩
 case round =>
  obtain⟨j,hj,rfl,g6,cx,rfl,O6,B6,S6⟩:=hrel;have R6:=ae (R4.aa B6 ph);have Z6:=ae (Z4.aa B6 DQ);have i0:=(B6.cell (p:=(N (B (z l)) 0 Z)) ld).trans G0;have i1:=(B6.cell (p:=(N (B (z l)) 1 Z)) ld).trans G1;have i2:=(B6.cell (p:=(N (B (z l)) 2 Z)) ld).trans G2;have Gc:B (z W)<=B (z wr):=nD aq B6.size;have B7:=ae (B4.trans (B6.mono Fd));by_cases FO:j<bu op
  ·have h8:op<=8:=Dr th FW FO;have Gh:j<ZM.length:=by rw[n9.2];exact FO
   go_wp2_with fail;refine(un op k (f place).s ZT ZR _ th h8 GH Gk Gr).mono ?_;rintro e w6 ⟨g7,rfl,ro,Gq,mv⟩;rw[<-n9.1] at ro ⊢;rw[n9.2] at ro ⊢;have q6:w6.cell? (N g7 j Z)=T (U (ZM.getD j ⟨#[]⟩)):=by have:=ro.2 j FO;rwa[JC] at this
   obtain⟨E,hE⟩:∃E,E=ZM.getD j ⟨#[]⟩:=⟨_,rfl⟩
   rw[<-hE] at q6;have HE:=ae hE;clear hE;have O7:=ae (own_below O6 mv ly);have B8:=ae (B6.trans (mv.mono Gc));have Gl:B (z W)<=B (z w6):=nD Gc mv.size;have R7:=ae (R6.aa mv R6.1);have Z7:=ae (Z6.aa mv Z6.1);have B9:=ae (B7.trans (mv.mono B7.size));clear ro Gq mv i0 i1 i2 R6 Z6;by_cases Gu:(E.size:Int)<=2000
   ·obtain⟨FK,hi,FQ,FX,FV⟩:=JT fK;go_wp2_with (at_builtin;refine IS _ rfl (.tmp 158) (.tmp 163) 30 rfl (B (z W)) 9 FK (U ⟨#[]⟩) 1 16 JD hi FQ FX FV rfl (by decide) (Y (T (N g6 0 Z)) (r.length+j) cx) (r.length+j) (strs r++(ZM.take j).map Value.string) (by simp[Act.eval]) (O7.alloc _) (N (B (z w6)) 0 Z) 1 1 [U E] (by simp[Act.eval]) rfl (cT w6 _ _) (by simp[Value.oneCell']) (by unfold maxLen;omega) (by omega) (by simp<;>omega) ?_;intro v' w7 qr ur DS;obtain⟨g8,L,rfl,hg8⟩:=qd qr (λe=>by simpa using DS.1 e);have O8:=ae qr;have Gx:=ae (bg (B8.alloc Gl (J #[U E] 9)) ur (by simp<;>omega) (λi e=>(O7.lt i e).1));clear qr ur DS)
    exact⟨⟨j+1,by omega,by go_num,g8,L,rfl,by show World.ownsRow _ _ _ _ _ _ _;rw[yn Gh,<-KQ,<-HE.out];exact O8,Gx,λi hi=>by
     by_cases e:i=j;{subst e;rw[<-HE.out];omega}
     ·exact S6 i (by omega)⟩,by simp[intOf];omega⟩
   {have ER:=ae (show so=.inr (.inl (2,(dw place),(steps+1))) by rw[Gg.out];unfold fE;rw[Ds Gh (by rw[<-HE.out];exact Gu)];rfl);obtain⟨m,⟨c0,f0⟩,⟨c1,f1⟩,⟨c2,R⟩,⟨c3,V⟩,⟨c4,X⟩,⟨c5,P⟩,⟨c6,S⟩,⟨ZK,ZN⟩,⟨L,f8⟩,ZI,ZL⟩:=R7.out;go_wp2_with fail;refine(eU _ _ _ _ _ _ _ _ _ _ _ _ _ _ _).mono ?_;rintro e w5 ⟨rfl,b⟩;have ZE:=ae (Z7.aa b Z7.1);have D:=ae (B9.trans (b.mono B9.size));clear b;clear m c0 f0 c1 f1 c2 R c3 V c4 X c5 P c6 S ZK ZN L f8 ZI ZL;obtain⟨ex,⟨z0,y0⟩,⟨z1,y1⟩,⟨z2,y2⟩,⟨z3,y3⟩,⟨ZQ,y4⟩,⟨K,y5⟩,⟨H,y6⟩,⟨G,y7⟩,⟨ZO,y8⟩,ZP,y9⟩:=ZE.out;go_wp2;refine bp (v:=dB C (Y a s.length cap) ((steps:Int)+1) looks ZF 2 (dw place) ZA ⟨#[]⟩ ZA) (by simp[results,MC,go_sem,z0,z1,z2,z3,ZQ,K,H,G,ZO,ZP]) rfl ⟨_,rfl,(by rw[ER.out];exact⟨_,_,_,_,_,rfl⟩),dq D (by omega) _ _ _ _ _ _ _ _ _ _⟩}
  ·have e:j=bu op:=by omega
   subst e;have ER:=ae (show so=.inl (C,(steps+1),looks,(ZM.reverse++r)) by rw[Gg.out];unfold fE;rw[As (λi hi=>S6.out i (by rw[n9.2] at hi;exact hi))];rfl);have F9:=ae (show(ZM.reverse++r).length=r.length+bu op by rw[eL,List.length_reverse,n9.2];omega);obtain⟨m,⟨c0,f0⟩,⟨c1,f1⟩,⟨c2,R⟩,⟨c3,V⟩,⟨c4,X⟩,⟨c5,P⟩,⟨c6,S⟩,⟨ZK,ZN⟩,⟨L,f8⟩,ZI,ZL⟩:=R6.out;obtain⟨ex,⟨z0,y0⟩,⟨z1,y1⟩,⟨z2,y2⟩,⟨z3,y3⟩,⟨ZQ,y4⟩,⟨K,y5⟩,⟨H,y6⟩,⟨G,y7⟩,⟨ZO,y8⟩,ZP,y9⟩:=Z6.out;have OE:=ae (QV O6 (a:=(N (B (z w)+1) 1 Z)) ph (Y (T (N g6 0 Z)) (r.length+bu op) cx));have BE:=ae (B7.setCell (p:=(N (B (z w)+1) 1 Z)) (by simp) (Y (T (N g6 0 Z)) (r.length+bu op) cx));go_wp2;refine bp (v:=dB C (Y (T (N g6 0 Z)) (r.length+bu op) cx) ((steps:Int)+1) looks ZA 0 ⟨#[]⟩ ZA ⟨#[]⟩ ZA) (by simp[results,MC,go_sem,z0,z1,z2,z3,ZQ,K,H,G,ZO,ZP]) rfl ⟨_,rfl,?_,dq BE (by omega) _ _ _ _ _ _ _ _ _ _⟩;rw[ER.out];refine(ym (v:=dB C (Y (T (N g6 0 Z)) (r.length+bu op) cx) ((steps:Int)+1) looks ZA 0 ⟨#[]⟩ ZA ⟨#[]⟩ ZA) (base:=B (z W)) ?_ DQ _ _ _ _ _ _ _ _ _ _).mono Fd;refine⟨T (N g6 0 Z),cx,by rw[F9.out];simp,?_⟩;rw[F9.out,Ar];have h:=OE.out;rw[show ZM.take (bu op)=ZM by rw[<-n9.2];exact List.take_length] at h;exact h
def EN (f:Nat->Ins)(cnt:Nat)(y:Nat->aB)(n:Nat)(ZL:Turn)(st:Nat):SO->Prop
 |.inr (.inl (c,x,k))=>ZL=fe c x k
 |.inr (.inr (a,nm,k))=>ZL=lV a nm k
 |.inl (p,k,l,s)=>k=st+1/\k<=2000/\bT f cnt y n (2001 - k) p k l s=ZL/\p<=2000/\l<=200/\s.length<=50/\∀x∈s,x.size<=2000
theorem uo{f:Nat->Ins}{cnt:Nat}(j:b.length<=50)(h:∀x∈b,x.size<=2000)(hlk:looks<=200)(g:cX f cnt=ZF)(hc:cnt<=200):pi (bv f cnt place steps looks b) looks:=by
 unfold bv;split;{trivial}
 ·rename_i h1;split;{trivial}
  ·split;{trivial}
   ·rename_i i;have hi:=iU g (show place<cnt by omega);simp only[b9,xT] at hi;obtain⟨i1,i2,i3,i4,i5⟩:=hi;have hmt:dx (f place).op<=2000:=by unfold dx;split<;>(try split)<;>omega
    have hmt2:bF (f place).op<=2000:=by unfold bF;split<;>omega
    exact gY _ _ _ _ _ _ j h (by omega) (by omega) (by omega) hlk (by omega) (by omega) (by simpa using i)
theorem uq{f:Nat->Ins}{cnt:Nat}{a:Bool}{nm:ByteArray}(h:bv f cnt place steps looks b=.inr (.inr (a,nm,s))):place<cnt:=by
 unfold bv at h;split at h;{cases h};{omega}
theorem Dy{f:Nat->Ins}{cnt:Nat}{ZL:Turn}{st l:Nat}(hst:st<=2000)(ZS:l<=200)(D:s.length<=50)(t:∀x∈s,x.size<=2000)(u:cX f cnt=ZF)(ZR:cnt<=200)(ZT:bE y n=ZF)
  (b:bT f cnt y n (2001 - st) p st l s=ZL):EN f cnt y n ZL st (fh f cnt y n p st l s):=by
 obtain⟨j,C⟩:∃j,2001 - st=j+1:=⟨2000 - st,by omega⟩
 rw[C,bT] at b;have hF:=uo (place:=p) (steps:=st) D t ZS u ZR;unfold fh;rcases h:bv f cnt p st l s with ⟨G,p'⟩|⟨c,x⟩|⟨a,nm,G⟩
 {rw[h] at b hF;obtain⟨m,E⟩:=iM h;obtain⟨f1,i,o⟩:=hF;simp only[m] at b ⊢;exact⟨rfl,by omega,by rw[show 2001 - (st+1)=j by omega];exact b,o,ZS,f1,i⟩};{rw[h] at b;exact b.symm};{rw[h] at b hF;obtain⟨m,E⟩:=jY h;obtain⟨f1,i,o,f4⟩:=hF;have hp:=uq h;simp only[m] at b ⊢;simp only[gv,jb];by_cases h1:n<=l;{rw[nL h1] at b ⊢;exact b.symm};{rw[eT h1] at b ⊢;by_cases h2:a=ZA;{rw[nL h2] at b ⊢;refine⟨rfl,by omega,by rw[show 2001 - (st+1)=j by omega];exact b,by omega,by omega,by simp;omega,λx g=>?_⟩;rcases BO.1 g with rfl|g;{exact ix _};{exact i x g}};{rw[eT h2] at b ⊢;by_cases r:(y l).has=ZA;{rw[nL r] at b ⊢;exact b.symm};{rw[eT r] at b ⊢;by_cases q:(y l).E=0;{rw[nL q] at b ⊢;refine⟨rfl,by omega,by rw[show 2001 - (st+1)=j by omega];exact b,by omega,by omega,by simp;omega,λx g=>?_⟩;rcases BO.1 g with rfl|g;{exact(Af ZT (show l<n by omega)).1};{exact i x g}};{rw[eT q] at b ⊢;exact b.symm}}}}}
theorem Ten.put{o l j b p q i m n f:ZB}(h:Ten w g o l j b p q i m n f)(u0 u1 u2 u3 u4 u5 u6 u7 u8 u9:ZB):Ten ((((((((((w.setCell (N g 0 Z) u0).setCell (N g 1 Z) u1).setCell (N g 2 Z) u2).setCell (N g 3 Z) u3).setCell (N g 4 Z) u4).setCell (N g 5 Z) u5).setCell (N g 6 Z) u6).setCell (N g 7 Z) u7).setCell (N g 8 Z) u8).setCell (N g 9 Z) u9) g u0 u1 u2 u3 u4 u5 u6 u7 u8 u9 :=
 (((((((((h.set0 u0).set1 u1).set2 u2).set3 u3).set4 u4).set5 u5).set6 u6).set7 u7).set8 u8).set9 u9
theorem nf{u:M}(h:Only g u w)(u0 u1 u2 u3 u4 u5 u6 u7 u8 u9:ZB):Only g u ((((((((((w.setCell (N g 0 Z) u0).setCell (N g 1 Z) u1).setCell (N g 2 Z) u2).setCell (N g 3 Z) u3).setCell (N g 4 Z) u4).setCell (N g 5 Z) u5).setCell (N g 6 Z) u6).setCell (N g 7 Z) u7).setCell (N g 8 Z) u8).setCell (N g 9 Z) u9) :=
 bO (bO (bO (bO (bO (bO (bO (bO (bO (bO h 0 u0) 1 u1) 2 u2) 3 u3) 4 u4) 5 u5) 6 u6) 7 u7) 8 u8) 9 u9
def vf (w:M)(g b:Nat)(f:Nat->Ins)(cnt:Nat)(y:Nat->aB)(n:Nat)(ZL:Turn)(k:Nat):Prop :=
 (∃p st l s a cap,Ten w g (Q I (p:Nat)) (Y a (List.length s) cap) (Q I (st:Nat)) (Q I (l:Nat)) (ZC ZA) (Q I 0) (U ⟨#[]⟩) (ZC ZA) (U ⟨#[]⟩) (ZC ZA)/\w.ownsRow b 9 1 (Y a s.length cap) s.length (strs s) /\
  st<=2000/\bT f cnt y n (2001 - st) p st l s=ZL/\p<=2000/\l<=200/\s.length<=50/\(∀x∈s,x.size<=2000)/\2002 - st<=k) ∨
 (∃at_ sv lk c x,∃st:Nat,Ten w g at_ sv (Q I st) lk (ZC ZF) (Q I c) (U x) (ZC ZA) (U ⟨#[]⟩) (ZC ZA)/\ZL=fe c x st) ∨
 (∃at_ sv lk a nm,∃st:Nat,Ten w g at_ sv (Q I st) lk (ZC ZA) (Q I 0) (U ⟨#[]⟩) (ZC a) (U nm) (ZC ZF)/\ZL=lV a nm st)
theorem Dz{b cap:Nat}{a:Option Addr}{f:List ZB}(h:w.ownsRow b e 1 (Y a n cap) n f){k:Nat}(y:k<b)(r o m g t x l p q i:ZB):World.ownsRow ((((((((((w.setCell (N k 0 Z) r).setCell (N k 1 Z) o).setCell (N k 2 Z) m).setCell (N k 3 Z) g).setCell (N k 4 Z) t).setCell (N k 5 Z) x).setCell (N k 6 Z) l).setCell (N k 7 Z) p).setCell (N k 8 Z) q).setCell (N k 9 Z) i) b e 1 (Y a n cap) n f:=by have s:∀{w:M} (j:Nat) (u:ZB),w.ownsRow b e 1 (Y a n cap) n f->(w.setCell (N k j Z) u).ownsRow b e 1 (Y a n cap) n f:=λj u h=>QV h (a:=(N k j Z)) y u;exact s 9 i (s 8 q (s 7 p (s 6 l (s 5 x (s 4 t (s 3 g (s 2 m (s 1 o (s 0 r h)))))))))
theorem mx (g h cnt cap n o:Nat)(K:Option Addr)(f:Nat->Ins)(w:M)(hn:cnt<=1048576)(q:valid f cnt=ZF->200<(n:Int))(x:RowIns w g h cnt f)(u:∀i,i<cnt->(f i).s.size<=maxLen):Calls Pg 106 #[ZG #[Y (T (N g h Z)) cnt cap],Y K n o] w λe t=>e=ZD badT.v/\Below (B (z w)) w t:=by
 have H:=ae x;have m:=ae ((((BS w).alloc ly (J #[Y (T (N g h Z)) cnt cap] 43))).alloc (by simp) (J #[ZC ZA,Q I 0,U ⟨#[]⟩,ZC ZA,U ⟨#[]⟩,Q I 0] 163));have l:=lW (A w (J #[Y (T (N g h Z)) cnt cap] 43)) (ZC ZA) (Q I 0) (U ⟨#[]⟩) (ZC ZA) (U ⟨#[]⟩) (Q I 0) 163;rw[show(A w (J #[Y (T (N g h Z)) cnt cap] 43)).heap.size=B (z w)+1 by simp] at l;have y:=ae l;have p:=λt h1 h2=>fl g h cnt cap f t hn h1 h2 u;generalize valid f cnt=b at q p;have ZS:=ae p;have E:=ae q;clear l p x u q;go_enter func106,ntmps106;go_wp2_with fail;have r:=ae (H.aa m ly);refine(ZS _ r.1 r.2).mono ?_;rintro e w1 ⟨rfl,j⟩;have L:=ae (y.aa j (by simp));have C:=ae (m.trans (j.mono (by simp;omega)));clear j m y r;obtain⟨⟨v0,ZP,y0⟩,⟨v1,G,y1⟩,⟨v2,ZT,y2⟩,⟨v3,ZR,y3⟩,⟨v4,D,y4⟩,⟨v5,ZO,y5⟩⟩:=bl6 L.2;cases b
 all_goals
  (try have hn2:=E.out rfl)
  go_wp2;refine bp (v:=badT.v) (by simp[results,NR,go_sem,Turn.v,badT,ZP,G,ZT,ZR,D,ZO]) rfl ⟨rfl,iE C (by omega) _ _ _ _ _ _⟩
theorem us (h o cnt cap S o2 n ZJ:Nat)(f:Nat->Ins)(y:Nat->aB)(w:M)(hn:cnt<=1048576)(hv:valid f cnt=ZF)(hn2:(n:Int)<=200)(hP:RowIns w h o cnt f)(hY:RowReply w S o2 n y)(hs:∀i,i<cnt->(f i).s.size<=maxLen)(ZL:Turn)(hT:ZL=if bE y n=ZA then badT else bT f cnt y n 2001 0 0 0 []):Calls Pg 106 #[ZG #[Y (T (N h o Z)) cnt cap],Y (T (N S o2 Z)) n ZJ] w λe w'=>e=ZD ZL.v/\Below (B (z w)) w w':=by
 have HV:=ae (bM hv).1;have At:cnt<=200:=by have:=(bM hv).2.2;omega
 have HY:=ae hY;have R:=ae hT;clear hY hT;have HP:=ae hP;have A0:=ae ((((BS w).alloc ly (J #[Y (T (N h o Z)) cnt cap] 43))).alloc (by simp) (J #[ZC ZA,Q I 0,U ⟨#[]⟩,ZC ZA,U ⟨#[]⟩,Q I 0] 163));have ZI:=lW (A w (J #[Y (T (N h o Z)) cnt cap] 43)) (ZC ZA) (Q I 0) (U ⟨#[]⟩) (ZC ZA) (U ⟨#[]⟩) (Q I 0) 163;rw[show(A w (J #[Y (T (N h o Z)) cnt cap] 43)).heap.size=B (z w)+1 by simp] at ZI;have X0:=ae ZI;have IV:=λw' h1 h2=>fl h o cnt cap f w' hn h1 h2 hs;rw[hv] at IV;have qr:=ae IV;clear ZI IV hP hs hv;go_enter func106,ntmps106;go_wp2_with fail;have P1:=ae (HP.aa A0 ly);refine(qr _ P1.1 P1.2).mono ?_;rintro e w1 ⟨rfl,ZM⟩;have c1:w1.cell? (N (B (z w)) 0 Z)=T (Y (T (N h o Z)) cnt cap):=(ZM.cell (p:=(N (B (z w)) 0 Z)) (by simp;omega)).trans (by simp);have HX:=ae (X0.aa ZM (by simp));have B1:=ae (A0.trans (ZM.mono (by simp;omega)));have z1:B (z w)+1<B (z w1):=HX.1;clear ZM A0 X0 P1;have n9:=ae (HY.aa B1 ly);go_wp2_with fail;go_loopw [5] (λi wr=>∃j:Nat,j<=n/\i=Q I j/\Hid (bE y j=ZF)/\Below (B (z w1)) w1 wr) (λi _=>n - (intOf i).toNat);case atStart=>exact⟨0,by omega,rfl,rfl,cM _ _⟩
 case round =>
  obtain⟨j,hj,rfl,HK,X⟩:=hrel;have t:=ae (HX.aa X HX.1);have ZO:=ae (B1.trans (X.mono B1.size));have cp:wr.cell? (N (B (z w)) 0 Z)=T (Y (T (N h o Z)) cnt cap):=(X.cell (p:=(N (B (z w)) 0 Z)) (by simp;omega)).trans c1;have zr:B (z w)+1<B (z wr):=t.1;have ex:=ae X;clear X;by_cases ZS:j<n
  ·obtain⟨d0,d1,d2⟩:=(HY.aa ZO ly).2 j ZS;obtain⟨⟨v0,G,y0⟩,⟨v1,E,y1⟩,⟨v2,C,y2⟩,⟨v3,ZP,y3⟩,⟨v4,ZT,y4⟩,⟨v5,D,y5⟩⟩:=bl6 t.2;by_cases g1:((y j).y.size:Int)<=2000
   ·by_cases g2:0<=(y j).E
    ·by_cases g3:(y j).E<=7;{go_wp2;refine⟨⟨j+1,by omega,by go_num,?_,?_⟩,by simp[intOf];omega⟩;{show bE y (j+1)=ZF;simp only[bE,HK.out,ci,ND,xT];omega};{exact ex}}
     ·go_wp2;have r:ZL=badT:=by rw[R.out,nL (fQ ZS (by simp only[ci,JY];omega))]
      refine bp (v:=badT.v) (by simp[results,NR,go_sem,Turn.v,badT,G,E,C,ZP,ZT,D]) rfl ⟨by rw[r],iE ZO (by omega) _ _ _ _ _ _⟩
    ·go_wp2;have r:ZL=badT:=by rw[R.out,nL (fQ ZS (by simp only[ci,JY];omega))]
     refine bp (v:=badT.v) (by simp[results,NR,go_sem,Turn.v,badT,G,E,C,ZP,ZT,D]) rfl ⟨by rw[r],iE ZO (by omega) _ _ _ _ _ _⟩
   ·go_wp2;have r:ZL=badT:=by rw[R.out,nL (fQ ZS (by simp only[ci,JY];omega))]
    refine bp (v:=badT.v) (by simp[results,NR,go_sem,Turn.v,badT,G,E,C,ZP,ZT,D]) rfl ⟨by rw[r],iE ZO (by omega) _ _ _ _ _ _⟩
  ·have e:j=n:=by omega
   subst e;have r:ZL=bT f cnt y j 2001 0 0 0 []:=by rw[R.out,eT (by simp[HK.out])]
   have ET:=ae r;clear r R n9;have RN:=ae (jA wr (Q I 0) (Y Z 0 0) (Q I 0) (Q I 0) (ZC ZA) (Q I 0) (U ⟨#[]⟩) (ZC ZA) (U ⟨#[]⟩) (ZC ZA) 226 (B (z wr)) rfl);obtain⟨P,L⟩:∃W:M,A wr (J #[Q I 0,Y Z 0 0,Q I 0,Q I 0,ZC ZA,Q I 0,U ⟨#[]⟩,ZC ZA,U ⟨#[]⟩,ZC ZA] 226)=W:=⟨_,rfl⟩
   obtain⟨A2,-,-⟩:=nb1 L;have ZR:=ae L;clear L;have XN:=ae (t.aa A2 t.1);have BN:=ae (ZO.trans (A2.mono ZO.size));have cN:=(A2.cell (p:=(N (B (z w)) 0 Z)) (by simp;omega)).trans cp;have ZN:B (z wr)<B (z P):=by cases ZR.out;simp
   go_wp2_with fail;clear c1 cp;rw[ZR.out] at RN ⊢;clear ZR;generalize (B (z wr))=u at RN zr ZN ⊢;have ro:S<u:=lj HY.1 (by omega);have ph:h<u:=lj HP.1 (by omega);have S0:Hid (vf P u (B (z P)) f cnt y j ZL 2002):=.inl ⟨0,0,0,[],Z,0,RN,ES _ _ _ _,by omega,ET.symm,by omega,by omega,by simp,by simp,by omega⟩;have PN:=ae (HP.aa BN ly);have YN:=ae (HY.aa BN ly);clear RN ET t ZO ex ZS HX B1 HP HY;go_loopg [] 2002 (λg wr=>vf wr u (B (z P)) f cnt y j ZL g/\Only u P wr);case atStart=>exact⟨S0,Only.refl _ _⟩
   case round =>
    obtain⟨hst,K⟩:=hrel;have HO:=ae K;have cw:wr.cell? (N (B (z w)) 0 Z)=T (Y (T (N h o Z)) cnt cap):=(K.cell (B (z w)) 0 (by omega) (by omega)).trans cN;have ld:u<B (z wr):=lj ZN K.size;have fd:=ae (K.aa (nX u) (NH ZN));have BW:=ae (BN.trans (K.aa (show (B (z w))<=u by omega) (by omega)));have XW:=ae (XN.ac K (by omega));have zw:B (z w)+1<B (z wr):=XW.1;clear K;rcases hst with ⟨p,st,l,s,a,n8,b,aq,k1,k2,k3,k4,k5,k6,k7⟩|⟨at_,sv,lk,c,x,st,b,m⟩|⟨at_,sv,lk,a,nm,st,b,m⟩
    ·have th:=ae b;have OW:=ae aq;have ur:=ae (Dy k1 k4 k5 k6 HV At HK k2);have K6:=ae k6;have PW:Hid (RowIns wr h o cnt f):=⟨lj PN.1 HO.size,λi hi=>(PN.2 i hi).aa fd ph⟩
     have YW:Hid (RowReply wr S o2 j y):=⟨lj YN.1 HO.size,λi hi=>(YN.2 i hi).aa fd ro⟩
     obtain⟨V,⟨c0,f0⟩,⟨c1,f1⟩,⟨c2,f2⟩,⟨c3,f3⟩,⟨c4,f4⟩,⟨c5,f5⟩,⟨c6,f6⟩,⟨c7,f7⟩,⟨c8,f8⟩,c9,f9⟩:=b;clear aq k2 k6;go_wp2_with fail;refine(wX h o cnt cap p st l f a s n8 S o2 j ZJ (B (z P)) y _ PW YW OW k3 k1 k4 k5 K6 HV).mono ?_;rintro e w3 ⟨v,rfl,ZQ,ZK⟩;have O:=ae (th.aa ZK ld);have O3:=ae (HO.X ZK);clear V c0 f0 c1 f1 c2 f2 c3 f3 c4 f4 c5 f5 c6 f6 c7 f7 c8 f8 c9 f9;clear ZK;have q:=ur.out;obtain⟨g,rfl⟩:∃g,gk=g+1:=⟨gk - 1,by omega⟩
     generalize fh f cnt y j p st l s=so at ZQ q;rcases so with ⟨p',sm,l',s'⟩|⟨c,x,k⟩|⟨a1,nm,k⟩
     ·obtain⟨a',c',rfl,mv⟩:=ZQ;obtain⟨m1,m2,m3,m4,m5,m6,m7⟩:=q;have OE:=ae mv;have M3:=ae m3;have M7:=ae m7;have M1:=ae m1;clear mv m3 m7 m1;obtain⟨bt,⟨e0,u0⟩,⟨e1,u1⟩,⟨e2,u2⟩,⟨e3,u3⟩,⟨e4,u4⟩,⟨e5,u5⟩,⟨e6,u6⟩,⟨e7,u7⟩,⟨e8,u8⟩,e9,u9⟩:=O.out;go_wp2;go_roundg g;case measure=>omega
      case rel=>exact⟨.inl ⟨p',sm,l',s',a',c',O.put _ _ _ _ _ _ _ _ _ _,aC (Dz OE ld _ _ _ _ _ _ _ _ _ _) HO.size,m2,M3,m4,m5,m6,M7,by have:=M1.out;omega⟩,nf O3 _ _ _ _ _ _ _ _ _ _⟩
     ·obtain⟨at_,a',n',c',lk,rfl⟩:=ZQ;have m:ZL=fe c x k:=q;have H:=ae m;clear m q;obtain⟨bt,⟨e0,u0⟩,⟨e1,u1⟩,⟨e2,u2⟩,⟨e3,u3⟩,⟨e4,u4⟩,⟨e5,u5⟩,⟨e6,u6⟩,⟨e7,u7⟩,⟨e8,u8⟩,e9,u9⟩:=O.out;go_wp2;go_roundg g;case measure=>omega
      case rel=>exact⟨.inr (.inl ⟨_,_,_,_,_,_,O.put _ _ _ _ _ _ _ _ _ _,H⟩),nf O3 _ _ _ _ _ _ _ _ _ _⟩
     ·obtain⟨at_,a',n',c',lk,rfl⟩:=ZQ;have m:ZL=lV a1 nm k:=q;have H:=ae m;clear m q;obtain⟨bt,⟨e0,u0⟩,⟨e1,u1⟩,⟨e2,u2⟩,⟨e3,u3⟩,⟨e4,u4⟩,⟨e5,u5⟩,⟨e6,u6⟩,⟨e7,u7⟩,⟨e8,u8⟩,e9,u9⟩:=O.out;go_wp2;go_roundg g;case measure=>omega
      case rel=>exact⟨.inr (.inr ⟨_,_,_,_,_,_,O.put _ _ _ _ _ _ _ _ _ _,H⟩),nf O3 _ _ _ _ _ _ _ _ _ _⟩
    {have H:=ae m;obtain⟨V,⟨c0,f0⟩,⟨c1,f1⟩,⟨c2,f2⟩,⟨c3,f3⟩,⟨c4,f4⟩,⟨c5,f5⟩,⟨c6,f6⟩,⟨c7,f7⟩,⟨c8,f8⟩,c9,f9⟩:=b;obtain⟨⟨v0,G,y0⟩,⟨v1,E,y1⟩,⟨v2,C,y2⟩,⟨v3,ZP,y3⟩,⟨v4,ZT,y4⟩,⟨v5,D,y5⟩⟩:=bl6 XW.2;clear m;go_wp2;refine bp (v:=ZL.v) (by rw[H.out];simp[results,NR,go_sem,Turn.v,fe,G,E,C,ZP,ZT,D]) rfl ⟨rfl,iE BW (by omega) _ _ _ _ _ _⟩};{have H:=ae m;obtain⟨V,⟨c0,f0⟩,⟨c1,f1⟩,⟨c2,f2⟩,⟨c3,f3⟩,⟨c4,f4⟩,⟨c5,f5⟩,⟨c6,f6⟩,⟨c7,f7⟩,⟨c8,f8⟩,c9,f9⟩:=b;obtain⟨⟨v0,G,y0⟩,⟨v1,E,y1⟩,⟨v2,C,y2⟩,⟨v3,ZP,y3⟩,⟨v4,ZT,y4⟩,⟨v5,D,y5⟩⟩:=bl6 XW.2;clear m;go_wp2;refine bp (v:=ZL.v) (by rw[H.out];simp[results,NR,go_sem,Turn.v,lV,G,E,C,ZP,ZT,D]) rfl ⟨rfl,iE BW (by omega) _ _ _ _ _ _⟩}
theorem lC (g j cnt cap l m n b:Nat)(f:Nat->Ins)(y:Nat->aB)(w:M)(hn:cnt<=1048576)(p:RowIns w g j cnt f)(r:RowReply w l m n y)(o:∀i,i<cnt->(f i).s.size<=maxLen):Calls Pg 106 #[ZG #[Y (T (N g j Z)) cnt cap],Y (T (N l m Z)) n b] w λe t=>e=ZD (lX f cnt y n).v/\Below (B (z w)) w t:=by
 unfold lX;by_cases h1:valid f cnt=ZA;{rw[nL h1];exact mx g j cnt cap n b _ f w hn (λh=>absurd (h1.symm.trans h) (by simp)) p o}
 ·have q:valid f cnt=ZF:=by simpa using h1
  rw[eT h1];by_cases h2:200<n;{rw[nL h2];exact mx g j cnt cap n b _ f w hn (λ_=>by omega) p o};{rw[eT h2];exact us g j cnt cap l m n b f y w hn q (by omega) p r o _ rfl}
def jB (y:Nat->aB)(i:Nat):List ZB:=[ZC (y i).has,Q I (y i).E,U (y i).y]
def j6 (y:Nat->aB):Nat->List ZB
 |0=>[]
 |k+1=>j6 y k++jB y k
theorem ng (y:Nat->aB)(k:Nat):(j6 y k).length=k*3:=by
 induction k with
 |zero=>rfl
 |succ k b=>simp[j6,jB,b];omega
theorem vg (y:Nat->aB){i j:Nat}(b:j<3):∀k,i<k->(j6 y k)[i*3+j]?=(jB y i)[j]?
 |0,h=>absurd h (JI _)
 |k+1,h=>by
  rw[j6];by_cases e:i=k
  ·subst e
   rw[JP (by rw[ng];omega),ng,show i*3+j - i*3=j by omega]
  ·rw[JU (by rw[ng];omega)]
   exact vg y b k (by omega)
theorem ut{c k:Nat}(h:w.ownsRow n 166 3 (Y (T (N g 0 Z)) k c) k (j6 y k)):RowReply w g 0 k y:=by
 rcases h.2 with ⟨f,h0⟩|⟨g',cap,l,f,hb,m,hc1,hc2,hc3,o⟩
 {simp at f}
 ·simp only[JG,JE,MK] at f;obtain⟨⟨rfl,-⟩,-,rfl⟩:=f;have p:g<B (z w):=by
   rcases J7 g (B (z w)) with h1|h1;{exact h1};{rw[LA h1] at m;simp at m}
  have b:∀i j,i<k->j<3->w.cell? (N g (0+i*3+j) Z)=(jB y i)[j]?:=by
   intro i j hi s;have r:w.cell? (N g (0+i*3+j) Z)=l[i*3+j]?:=by simp[World.cell?,m]
   have q:(l.toList.take (k*3))[i*3+j]?=(j6 y k)[i*3+j]?:=by rw[o]
   rw[NI,nL (by omega),JQ,vg y s k hi] at q;rw[r,q]
  refine⟨p,λi hi=>⟨?_,?_,?_⟩⟩;{exact b i 0 hi (by omega)};{exact b i 1 hi (by omega)};{exact b i 2 hi (by omega)}
theorem lD (w:M)(x y ZS:ZB)(t:ZH):∀j u,[x,y,ZS][j]?=T u->(A w (J #[x,y,ZS] t)).cell? (((N (B (z w)) 0 Z):Addr).add j)=T u:=by
 intro j u b;match j,b with
 |0,b=>simp at b;subst b;simp[Addr.add]
 |1,b=>simp at b;subst b;simp[Addr.add]
 |2,b=>simp at b;subst b;simp[Addr.add]
theorem yq:(Pg.info? 166).map (λi=>(i.zero,i.size,i.bytes))=T (T (ZG #[ZC ZA,Q I 0,U ⟨#[]⟩]),3,32):=by kernel_rfl
theorem wY{b:Nat}{v:ZB}{i:List ZB}(h:w.ownsRow b e 3 v n i)(hn:0<n):∃g c,v=Y (T (N g 0 Z)) n c:=by
 rcases h.2 with ⟨f,h0⟩|⟨g,cap,cur,f,_⟩
 {omega};{exact⟨g,cap,f⟩}
def Ct:ZB->Nat
 |Y _ n _=>n
 |_=>0
theorem lE {f:Nat->aj}{p:Nat}:∀k,k<=(f p).l->(∀i,i<k->eI f p i=ZA)->eZ f p ((f p).l - k) k=fi f p
 |0,_,_=>rfl
 |k+1,hk,h=>by have:=lE (f:=f) (p:=p) k (by omega) λi hi=>h i (by omega);rw[<-this,show(f p).l - k=((f p).l - (k+1))+1 by omega,Aw (h k (by omega))]
theorem Ay{k:Nat}(hk:k<(f p).l)(h:∀i,i<k->eI f p i=ZA)(b:eI f p k=ZF):fi f p=k:=by rw[<-lE k (by omega) h,show(f p).l - k=((f p).l - (k+1))+1 by omega,Ax b]
theorem Az (h:∀i,i<(f p).l->eI f p i=ZA):fi f p=(f p).l:=by rw[<-lE (f p).l ly h,Nat.sub_self];rfl
theorem sO{k:Nat}(b:k<(f p).l)(h:∀i,i<k->eI f p i=ZA)(g:eI f p k=ZF):gD f p=4:=by unfold gD;rw[Ay b h g,nL b]
theorem sP (h:∀i,i<(f p).l->eI f p i=ZA):gD f p=if (cQ f p (f p).l).ak=ZA then 4 else if (cQ f p (f p).l).E=(f p).E/\(cQ f p (f p).l).y.toList=(f p).y.toList then 0 else 5:=by unfold gD;rw[Az h,eT (Nat.lt_irrefl _)]
theorem AA{k:Nat}(b:bK f n=ZF)(g:p<n)(hk3:(f p).H=3)(hk:k<=(f p).l):lX (f p).D (f p).m (yOf f p) k=cQ f p k:=by
 have j:valid (f p).D (f p).m=ZF/\(f p).l<=200:=by
  rcases(fa b p g).2 with h|h|h;{omega};{omega};{exact⟨h.2.2.2.1,h.2.2.2.2⟩}
 have l:bE (yOf f p) k=ZF:=sN λi hi=>Dv b λm=>Nat.lt_trans (iV b p g i (by omega) m).2.1 g;unfold lX cQ;rw[eT (by rw[j.1];simp),eT (by omega),eT (by rw[l];simp)]
theorem yr (r m n cap:Nat)(f:Nat->aj)(p:Nat)(w:M)(_hn:(n:Int)<=400)(ZT:bK f n=ZF)(W:p<n)(hk:(f p).H=3)(ZP:RowDeed w r m n f)(ro:eQ (f p)):Calls Pg 53 #[ZG #[Y (T (N r m Z)) n cap],Q I p] w λe w'=>e=ZD (Q I (gD f p))/\Below (B (z w)) w w':=by
 obtain⟨i0,hi,FP,FU,Fd⟩:=JT yq;have hN:(f p).l<=200:=by
  rcases(fa ZT p W).2 with h|h|h;{omega};{omega};{exact h.2.2.2.2}
 have hv:valid (f p).D (f p).m=ZF:=by
  rcases(fa ZT p W).2 with h|h|h;{omega};{omega};{exact h.2.2.2.1}
 have FQ:(f p).m<=200:=by have:=(bM hv).2.2;omega
 have DS:=ae (λk (Fk:k<=(f p).l)=>AA ZT W hk Fk);have DE:=ae (λj (hj:j<(f p).l) (ha:((f p).u j).ask=ZF)=>(⟨(iV ZT p W j hj ha).1,Nat.lt_trans (iV ZT p W j hj ha).2.1 W⟩:0<=((f p).u j).G/\((f p).u j).G.toNat<n));have FM:=ae (show ∀i,i<(f p).m->((f p).D i).s.size<=maxLen from ro.2.2.1.2);have ZQ:=ae ZP;obtain⟨o0,o1,o2,o3,⟨a0,o,o4,hI⟩,⟨a1,q,o5,mv⟩⟩:=ZP.2 p W;obtain⟨y,ZS,rfl,n8⟩:∃y ZS,a0=T (N y ZS Z)/\RowIns w y ZS (f p).m (f p).D:=by
  have:=(bM hv).2;rcases hI with h|⟨b,off,e,hr⟩
  {omega};{exact⟨b,off,e,hr⟩}
 have HI:=ae n8;have ph:=ae mv;have H:=ZP.1;clear n8 hI mv ZP ro ZT hk hv;have hpn:(p:Int)<n:=by omega
 obtain⟨C,hC⟩:∃C,C=gD f p:=⟨_,rfl⟩
 rw[<-hC];have HC:=ae hC;clear hC;have ZN:=ae ((BS w).alloc ly (J #[Y (T (N r m Z)) n cap] 37));have V:=ae (ZN.out.alloc ZN.out.size (J #[U (f p).e,Q I (f p).H,Q I (f p).E,U (f p).y,Y (T (N y ZS Z)) (f p).m o,Y a1 (f p).l q] 46));have zD:((A w (J #[Y (T (N r m Z)) n cap] 37)).alloc (J #[U (f p).e,Q I (f p).H,Q I (f p).E,U (f p).y,Y (T (N y ZS Z)) (f p).m o,Y a1 (f p).l q] 46)).heap.size=B (z w)+2:=by simp
 have kA:((A w (J #[Y (T (N r m Z)) n cap] 37)).alloc (J #[U (f p).e,Q I (f p).H,Q I (f p).E,U (f p).y,Y (T (N y ZS Z)) (f p).m o,Y a1 (f p).l q] 46)).cell? (N (B (z w)) 0 Z)=T (Y (T (N r m Z)) n cap):=by simp[go_sem]
 have qr:((A w (J #[Y (T (N r m Z)) n cap] 37)).alloc (J #[U (f p).e,Q I (f p).H,Q I (f p).E,U (f p).y,Y (T (N y ZS Z)) (f p).m o,Y a1 (f p).l q] 46)).cell? (N (B (z w)+1) 2 Z)=T (Q I (f p).E):=by simp[go_sem]
 have th:((A w (J #[Y (T (N r m Z)) n cap] 37)).alloc (J #[U (f p).e,Q I (f p).H,Q I (f p).E,U (f p).y,Y (T (N y ZS Z)) (f p).m o,Y a1 (f p).l q] 46)).cell? (N (B (z w)+1) 3 Z)=T (U (f p).y):=by simp[go_sem]
 have ld:((A w (J #[Y (T (N r m Z)) n cap] 37)).alloc (J #[U (f p).e,Q I (f p).H,Q I (f p).E,U (f p).y,Y (T (N y ZS Z)) (f p).m o,Y a1 (f p).l q] 46)).cell? (N (B (z w)+1) 4 Z)=T (Y (T (N y ZS Z)) (f p).m o):=by simp[go_sem]
 have aq:((A w (J #[Y (T (N r m Z)) n cap] 37)).alloc (J #[U (f p).e,Q I (f p).H,Q I (f p).E,U (f p).y,Y (T (N y ZS Z)) (f p).m o,Y a1 (f p).l q] 46)).cell? (N (B (z w)+1) 5 Z)=T (Y a1 (f p).l q):=by simp[go_sem]
 have p0:=(ZN.out.cell (p:=(N r (m+p*6) Z)) H).trans o0;have p1:=(ZN.out.cell (p:=(N r (m+p*6+1) Z)) H).trans o1;have p2:=(ZN.out.cell (p:=(N r (m+p*6+2) Z)) H).trans o2;have p3:=(ZN.out.cell (p:=(N r (m+p*6+3) Z)) H).trans o3;have p4:=(ZN.out.cell (p:=(N r (m+p*6+4) Z)) H).trans o4;have p5:=(ZN.out.cell (p:=(N r (m+p*6+5) Z)) H).trans o5;clear o0 o1 o2 o3 o4 o5;have OL:=ae (by have h:=lP ((A w (J #[Y (T (N r m Z)) n cap] 37)).alloc (J #[U (f p).e,Q I (f p).H,Q I (f p).E,U (f p).y,Y (T (N y ZS Z)) (f p).m o,Y a1 (f p).l q] 46)) 166 3;rw[zD] at h;exact h);have BL:=ae ((cM (B (z w)+2) ((A w (J #[Y (T (N r m Z)) n cap] 37)).alloc (J #[U (f p).e,Q I (f p).H,Q I (f p).E,U (f p).y,Y (T (N y ZS Z)) (f p).m o,Y a1 (f p).l q] 46))).alloc (by rw[zD];exact nX _) (J #[] 166));go_enter func53,ntmps53;go_wp2;clear p0 p1 p2 p3 p4 p5;generalize World.alloc (World.alloc w _) _=ur at V zD kA qr th ld aq OL BL ⊢;generalize World.alloc ur _=W0 at OL BL ⊢;go_loopw [6] (λv wr=>∃(k g c:Nat),k<=(f p).l/\v=Y (T (N g 0 Z)) k c/\Hid (wr.ownsRow (B (z w)+2) 166 3 (Y (T (N g 0 Z)) k c) k (j6 (yOf f p) k))/\Hid (∀i,i<k->eI f p i=ZA)/\Hid (Below (B (z w)+2) ur wr)) (λv _=>(f p).l+1 - Ct v);case atStart=>exact⟨0,B (z w)+2,0,by omega,rfl,OL.out,λi hi=>absurd hi (JI _),BL.out⟩
 case round =>
  obtain⟨k,g,c,FO,rfl,HO,HF,HB⟩:=hrel;have RW:=ae (V.out.trans (HB.out.mono (by omega)));have d4:=(HB.out.cell (p:=(N (B (z w)+1) 4 Z)) (show (B (z w))+1<B (z w)+2 by omega)).trans ld;go_wp2_with fail;clear d4;refine(lC y ZS (f p).m o g 0 k c (f p).D (yOf f p) _ (by omega) (HI.out.aa RW.out ly) (ut HO.out) FM.out).mono ?_;rintro e w1 ⟨rfl,ex⟩;rw[DS.out k FO];obtain⟨t,ht⟩:∃t,t=cQ f p k:=⟨_,rfl⟩
  rw[<-ht];have D:=ae ht;have ZL:=ae (HB.out.trans (ex.mono (by have:=HB.out.size;omega)));have O1:=ae (own_below HO.out ex ly);have ZI:B (z w)+2<=B (z w1):=by have:=ZL.out.size;omega
  have hz2:B (z w)+1<B (z w1):=by omega
  have hz3:B (z w)<B (z w1):=by omega
  have d2:=(ZL.out.cell (p:=(N (B (z w)+1) 2 Z)) (show (B (z w))+1<B (z w)+2 by omega)).trans qr;have d3:=(ZL.out.cell (p:=(N (B (z w)+1) 3 Z)) (show (B (z w))+1<B (z w)+2 by omega)).trans th;have d5:=(ZL.out.cell (p:=(N (B (z w)+1) 5 Z)) (show (B (z w))+1<B (z w)+2 by omega)).trans aq;have P:=ae (ZL.out.alloc ZI (J #[ZC t.ak,Q I t.E,U t.y,ZC t.ask,U t.e,Q I t.g] 163));have ZR:=ae (V.out.trans (P.out.mono (by omega)));have X:=ae (O1.out.alloc (J #[ZC t.ak,Q I t.E,U t.y,ZC t.ask,U t.e,Q I t.g] 163));clear ht ex HO HB;simp only[Turn.v];cases ho:t.ak with
  |true =>
   rw[ho] at P ZR X;by_cases G:k<(f p).l
   ·have DQ:(k:Int)<(f p).l:=by omega
    have u:Hid (eI f p k=ZF):=by show _=_;unfold eI;rw[<-D.out];rw[ho];rfl
    have x:Hid (C=4):=by show _=_;rw[HC.out];exact sO G HF.out u.out
    go_wp2;go_ret;exact⟨by simp[x.out],ZR.out⟩
   ·obtain rfl:k=(f p).l:=by omega
    have O:=ae (sP HF.out);by_cases hc:t.E=(f p).E
    ·cases htx:(t.y.toList == (f p).y.toList) with
     |true =>
      have x:Hid (C=0):=by show _=_;rw[HC.out,O.out,<-D.out,ho,eT (by simp),nL ⟨hc,PJ.1 htx⟩]
      go_wp2;go_ret;exact⟨by simp[x.out],V.out.trans ((ZL.out.alloc ZI _).mono (by omega))⟩
     |false =>
      have x:Hid (C=5):=by show _=_;rw[HC.out,O.out,<-D.out,ho,eT (by simp),eT (λh=>by rw[h.2] at htx;simp at htx)]
      go_wp2;go_ret;exact⟨by simp[x.out],V.out.trans ((ZL.out.alloc ZI _).mono (by omega))⟩
    ·have x:Hid (C=5):=by show _=_;rw[HC.out,O.out,<-D.out,ho,eT (by simp),eT (λh=>hc h.1)]
     have FQ:(t.E == (f p).E)=ZA:=by simpa using hc
     go_wp2;go_ret;exact⟨by simp[x.out],V.out.trans ((ZL.out.alloc ZI _).mono (by omega))⟩
  |false =>
   rw[ho] at P ZR X;by_cases G:k<(f p).l
   ·have DQ:(k:Int)<(f p).l:=by omega
    have hge:decide ((f p).l<=k)=ZA:=by simp;omega
    obtain⟨bl,offl,rfl,At⟩:=(ph.out.aa ZR.out ly).resolve_left (by omega);obtain⟨r0,r1,ZM,K⟩:=At.2 k G;obtain⟨l,hl⟩:∃l,(f p).u k=l:=⟨_,rfl⟩
    rw[hl] at r0 r1 ZM K;obtain⟨nm,ask,hs,at_⟩:=l;dsimp only at r0 r1 ZM K;have S:=ae hl;clear At hl;have R:(t.e.toList == nm.toList)=(nm.toList == t.e.toList):=by rw[KU,PJ,PJ];exact eq_comm
    have WY:(eI f p k=ZF/\((nm.toList == t.e.toList)=ZA∨(nm.toList == t.e.toList)=ZF/\(t.ask=ZF/\ask=ZA∨t.ask=ZA/\ask=ZF)))∨(eI f p k=ZA/\(nm.toList == t.e.toList)=ZF/\t.ask=ask):=by unfold eI;rw[<-D.out,S.out,ho,R];cases (nm.toList == t.e.toList)<;>cases t.ask<;>cases ask<;>simp
    rcases WY with ⟨u,WY⟩|⟨u,hn,ZK⟩
    ·replace u:=ae u;have x:Hid (C=4):=by show _=_;rw[HC.out];exact sO G HF.out u.out
     rcases WY with hn|⟨hn,⟨ZK,rfl⟩|⟨ZK,rfl⟩⟩
     all_goals
      have FK:=R.trans hn;clear R
      (try rw[ZK] at P ZR X r0 r1 ZM K)
      go_wp2_with fail;go_quiet (fail);have L:=ae (E9 ZR.out nq);clear r0 r1 ZM K P ZR X d2 d3 d5;generalize World.drewN (World.alloc w1 _) nq=WQ at L ⊢;go_wp2;go_ret;exact⟨by simp[x.out],L.out⟩
    ·replace u:=ae u;have FK:=R.trans hn;clear R;rw[ZK] at P ZR X r0 r1 ZM K;have HY:Hid (gZ f ⟨nm,ask,hs,at_⟩=yOf f p k):=by show _=_;unfold yOf;rw[S.out]
     have Fm:Hid (ask=ZF->0<=at_/\at_.toNat<n):=λha=>by have:=DE.out k G (by rw[S.out];exact ha);rw[S.out] at this;exact this
     cases ask
     all_goals
      go_wp2_with fail;go_quiet (fail);have L:=ae (E9 P.out nq);have RQ:=ae (V.out.trans (L.out.mono (by omega)));have OQ:=ae (own_below X.out (E9 br nq) ly);clear r0 r1 ZM K P ZR X d2 d3 d5;generalize World.drewN (World.alloc w1 _) nq=WQ at L RQ OQ ⊢;have kA2:=(L.out.cell (p:=(N (B (z w)) 0 Z)) (show (B (z w))<B (z w)+2 by omega)).trans kA;have d5:=(L.out.cell (p:=(N (B (z w)+1) 5 Z)) (show (B (z w))+1<B (z w)+2 by omega)).trans aq;have CD:=(ph.out.aa RQ.out ly).resolve_left (by omega);obtain⟨bl2,offl2,eb,bt⟩:=CD;simp only[JE,MK,and_true] at eb;obtain⟨rfl,rfl⟩:=eb;obtain⟨r0,r1,ZM,K⟩:=bt.2 k G;rw[S.out] at r0 r1 ZM K;dsimp only at r0 r1 ZM K;have n9:B (z w)+2<=B (z WQ):=by have:=L.out.size;omega
      clear bt;go_wp2_with fail
      go_region_law (first
       |(refine cD rfl (.tmp 67) (.tmp 75) 161 rfl (B (z w)+2) 166 i0 (ZG #[ZC ZA,Q I 0,U ⟨#[]⟩]) 3 32 TP hi FP FU Fd rfl (by decide) (Y (T (N g 0 Z)) k c) k (j6 (yOf f p) k) (by simp[Act.eval]) (by first|exact O5.out.alloc _|exact O5.out.drew.alloc _|exact O5.out.drew.drew.alloc _) (N (B (z ZJ)) 0 Z) 1 1 (jB (yOf f p) k) (by simp[Act.eval]) rfl (by first|exact lD ZJ _ _ _ _|exact lD ZJ.drew _ _ _ _|exact lD ZJ.drew.drew _ _ _ _) (by simp[jB,Value.oneCell']) (by unfold maxLen;omega) (by omega) (by simp<;>omega) ?_;intro v6 w6 fd ZO Bk;have O6:=ae fd;(first|have B6:=ae (bg (B5.out.alloc sm _) ZO (by simp<;>omega) (λj e=>(O5.out.lt j e).1))|have B6:=ae (bg (B5.out.drew.alloc (by simpa using sm) _) ZO (by simp<;>omega) (λj e=>(O5.out.lt j e).1)));clear fd ZO Bk)
       |(go_simp;go_at_call 107;(first|(guard_hyp ZK:t.ask=ZF;refine(lB r m n cap f ⟨nm,ZF,hs,at_⟩ _ ?_ (λ_=>Fm.out (by simp))).mono ?_)|refine(lB r m n cap f ⟨nm,ZA,hs,at_⟩ _ ?_ (λh=>by cases h)).mono ?_);(first|exact ZQ.out.aa RQ.out ly|exact ZQ.out.aa RQ.out.drew ly|exact ZQ.out.aa RQ.out.drew.drew ly|exact ZQ.out.aa RQ.out.drew.drew.drew ly);rintro e ZJ ⟨rfl,E⟩;rw[HY.out];have D5:Hid (Below (B (z WQ)) WQ ZJ):=⟨E.os,E.tape,E.output,E.size,E.block⟩;have O5:=ae (own_below OQ.out D5.out ly);have B5:=ae (L.out.trans (D5.out.mono n9));have sm:B (z w)+2<=B (z ZJ):=(nD n9 D5.out.size);clear E))
      all_goals
       obtain⟨g6,c6,rfl⟩:=wY O6.out (by omega);go_simp;go_wp2
       exact⟨⟨k+1,g6,c6,by omega,rfl,O6.out,λi hi=>by
        by_cases e:i=k
        ·subst e;exact u.out
        ·exact HF.out i (by omega),B6.out⟩,by simp[Ct];omega⟩
   ·obtain rfl:k=(f p).l:=by omega
    have O:=ae (sP HF.out);have x:Hid (C=4):=by show _=_;rw[HC.out,O.out,<-D.out,ho,nL rfl]
    go_wp2_with fail;go_quiet (fail);go_wp2;go_ret;exact⟨by simp[x.out],by first|exact E9 ZR.out _|exact ZR.out⟩
