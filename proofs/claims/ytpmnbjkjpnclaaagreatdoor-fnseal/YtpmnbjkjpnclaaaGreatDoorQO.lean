import Derived.Test.YtpmnbjkjpnclaaaGreatDoorQM
import Derived.Deep.CutBlock
set_option maxRecDepth 1000000
set_option maxHeartbeats 8000000
set_option linter.unusedSimpArgs false
open Go renaming Addr.mk->Q,Value.slice->Z,Value.string->Y,Value.int->J,Value.bool->ZD,Obj.cells->N,IntKind.i64->I,World->M,Value->ZC,Ending.returned->ZF
open Option renaming none->U,some->T
open Bool renaming false->ZA,true->ZG
namespace Go.Proofs.YtpmnbjkjpnclaaaGreatDoor.Vp
open Tryz RowKit
variable {f:Nat->Ins}{w:M}{place steps looks n g:Nat}{b s:List ByteArray}
theorem zZ (pb po cnt ld place steps looks:Nat)(f:Nat->Ins)(a:Option Addr)(s:List ByteArray)(cap b2 o2 n Kw Bk:Nat)(y:Nat->aK)(w:M)
  (hP:RowIns w pb po cnt f) (hY:RowReply w b2 o2 n y) (hO:w.ownsRow Bk 9 1 (Z a s.length cap) s.length (strs s)) (hp:place<=2000) (hst:steps<=2000) (Lh:looks<=200) (hs:s.length<=50) (KH:∀x∈s,x.size<=2000) (KB:dC f cnt=ZG) :
  Calls Tryz.prog 156 #[.agg #[Z (T (Q pb po U)) cnt ld],eh place (Z a s.length cap) steps looks ZA 0 ⟨#[]⟩ ZA ⟨#[]⟩ ZA,Z (T (Q b2 o2 U)) n Kw] w λe w'=>∃v,e=ZF v/\SoIs w' w.heap.size v (fY f cnt y n place steps looks s)/\Below w.heap.size w w':=by
 obtain⟨so,la⟩:∃so,so=fY f cnt y n place steps looks s:=⟨_,rfl⟩
 rw[<-la];have S0:=ae la;clear la;have HP:=ae hP;have HY:=ae hY;have HO:=ae hO;have HK:=ae KB;have HL:=ae KH;clear hP hY hO KB KH;have A0:=ae ((((q9 w).alloc ly (N #[Z (T (Q pb po U)) cnt ld] 43)).alloc (by simp) (N #[J I place,Z a s.length cap,J I steps,J I looks,ZD ZA,J I 0,Y ⟨#[]⟩,ZD ZA,Y ⟨#[]⟩,ZD ZA] 226)).alloc (by simp<;>omega) (N #[J I 0,Z U 0 0,J I 0,J I 0,ZD ZA,J I 0,Y ⟨#[]⟩,ZD ZA,Y ⟨#[]⟩,ZD ZA] 226));have R0:=ae ((lD (w.alloc (N #[Z (T (Q pb po U)) cnt ld] 43)) (J I place) (Z a s.length cap) (J I steps) (J I looks) (ZD ZA) (J I 0) (Y ⟨#[]⟩) (ZD ZA) (Y ⟨#[]⟩) (ZD ZA) 226 (w.heap.size+1) (by simp)).al (N #[J I 0,Z U 0 0,J I 0,J I 0,ZD ZA,J I 0,Y ⟨#[]⟩,ZD ZA,Y ⟨#[]⟩,ZD ZA] 226));have Z0:=ae (lD ((w.alloc (N #[Z (T (Q pb po U)) cnt ld] 43)).alloc (N #[J I place,Z a s.length cap,J I steps,J I looks,ZD ZA,J I 0,Y ⟨#[]⟩,ZD ZA,Y ⟨#[]⟩,ZD ZA] 226)) (J I 0) (Z U 0 0) (J I 0) (J I 0) (ZD ZA) (J I 0) (Y ⟨#[]⟩) (ZD ZA) (Y ⟨#[]⟩) (ZD ZA) 226 (w.heap.size+1+1) (by simp));go_enter func156,ntmps156;go_wp2_with fail;refine(gC place (by omega) _).mono ?_;rintro e l ⟨rfl,aq⟩;have hD:(⟨(Lib.decDigits place).toArray⟩:ByteArray)=fg place:=rfl;rw[hD];have R1:=ae (R0.aa aq (by simp<;>omega));have Z1:=ae (Z0.aa aq (by simp<;>omega));have B1:=ae (A0.trans (aq.mono (by simp<;>omega)));have pP:l.cell? (Q w.heap.size 0 U)=T (Z (T (Q pb po U)) cnt ld):=(aq.cell (p:=(Q w.heap.size 0 U)) (by simp<;>omega)).trans (Jm _ _ _ _ _ _ _ rfl);have O1:=ae (own_below HO B1 ly);have hz1:w.heap.size+1+1<l.heap.size:=Z1.1;have hz0:w.heap.size<l.heap.size:=by omega
 have hz01:w.heap.size+1<l.heap.size:=by omega
 clear aq A0 R0 Z0 hD;obtain⟨m,⟨c0,f0⟩,⟨c1,f1⟩,⟨c2,P⟩,⟨c3,f3⟩,⟨c4,f4⟩,⟨c5,X⟩,⟨S,R⟩,⟨ZK,ZJ⟩,⟨ZO,O⟩,ZI,ZM⟩:=R1.out;rcases Int.lt_or_le (place:Int) cnt with h1|h1;rotate_left;{have S1:Hid (so=.inr (.inl (2,(fg place),steps))):=S0.trans (show fY f cnt y n place steps looks s=.inr (.inl (2,(fg place),steps)) by have h:cnt<=place:=(by omega);simp[fY,iI,dr,fw,h]);go_wp2_with fail;refine(fL _ _ _ _ _ _ _ _ _ _ _ _ _ _ _).mono ?_;rintro e w5 ⟨rfl,b⟩;have ZL:=ae (Z1.aa b Z1.1);have D:=ae (B1.trans (b.mono B1.size));clear b;clear m c0 f0 c1 f1 c2 P c3 f3 c4 f4 c5 X S R ZK ZJ ZO O ZI ZM;obtain⟨fd,⟨z0,y0⟩,⟨z1,y1⟩,⟨z2,y2⟩,⟨z3,y3⟩,⟨L,y4⟩,⟨K,y5⟩,⟨ZN,y6⟩,⟨ZQ,y7⟩,⟨H,y8⟩,F,y9⟩:=ZL.out;go_wp2;refine bp (v:=eh place (Z a s.length cap) steps looks ZG 2 (fg place) ZA ⟨#[]⟩ ZA) (by simp[results,RK,go_sem,z0,z1,z2,z3,L,K,ZN,ZQ,H,F]) rfl ⟨_,rfl,(by rw[S1.out];exact⟨_,_,_,_,_,rfl⟩),dY D (by omega) _ _ _ _ _ _ _ _ _ _⟩};rcases Bool.eq_false_or_eq_true ((steps:Int) == 2000) with h2|h2;{have S1:Hid (so=.inr (.inl (3,⟨#[]⟩,steps))):=S0.trans (show fY f cnt y n place steps looks s=.inr (.inl (3,⟨#[]⟩,steps)) by have h:¬ cnt<=place:=(by omega);have e:steps=2000:=(by simp at h2;omega);simp[fY,iI,dr,fw,h,e]);go_wp2_with fail;refine(fL _ _ _ _ _ _ _ _ _ _ _ _ _ _ _).mono ?_;rintro e w5 ⟨rfl,b⟩;have ZL:=ae (Z1.aa b Z1.1);have D:=ae (B1.trans (b.mono B1.size));clear b;clear m c0 f0 c1 f1 c2 P c3 f3 c4 f4 c5 X S R ZK ZJ ZO O ZI ZM;obtain⟨fd,⟨z0,y0⟩,⟨z1,y1⟩,⟨z2,y2⟩,⟨z3,y3⟩,⟨L,y4⟩,⟨K,y5⟩,⟨ZN,y6⟩,⟨ZQ,y7⟩,⟨H,y8⟩,F,y9⟩:=ZL.out;go_wp2;refine bp (v:=eh place (Z a s.length cap) steps looks ZG 3 ⟨#[]⟩ ZA ⟨#[]⟩ ZA) (by simp[results,RK,go_sem,z0,z1,z2,z3,L,K,ZN,ZQ,H,F]) rfl ⟨_,rfl,(by rw[S1.out];exact⟨_,_,_,_,_,rfl⟩),dY D (by omega) _ _ _ _ _ _ _ _ _ _⟩};have hi:=gP HK.out (show place<cnt by omega);simp only[aH,AI] at hi;obtain⟨op,Hx⟩:=AS (show 0<=(f place).op by omega);obtain⟨k,hk⟩:=AS hi.2.2.2.1;have Ll:bO (f place).op<=2000:=by unfold bO;split<;>(try split)<;>omega
 have KT:aE (f place).op<=2000:=by unfold aE;split<;>omega
 have Lp:k<=2000:=by omega
 have KV:(f place).s.size<=2000:=by omega
 have ur:1<=op:=by omega
 have KM:op<=15:=by omega
 have EP:Hid (so=if jW op s=ZA then .inr (.inl (2,(fg place),(steps+1))) else iI y n place (steps+1) looks (dP op k (f place).s place looks s)):=by
  show _=_;rw[S0.out];have q1:¬ cnt<=place:=by omega
  have q2:¬ steps=2000:=by simp at h2;omega
  simp only[fY,dr,fw,q1,q2,WO,Hx,hk,Int.toNat_natCast];split<;>rfl
 clear hi Ll KT HK;obtain⟨d0,d1,d2⟩:=(HP.aa B1 ly).2 place (by omega);rw[Hx] at d0;rw[hk] at d2;have hpb:pb<w.heap.size:=HP.1;have La:=(cell_far l (Q (w.heap.size+1) 2 U) (Q pb (po+place*3) U) (J I ((steps:Int)+1)) (by simp;omega)).trans d0;have Lj:=(cell_far l (Q (w.heap.size+1) 2 U) (Q pb (po+place*3+1) U) (J I ((steps:Int)+1)) (by simp;omega)).trans d1;have Ln:=(cell_far l (Q (w.heap.size+1) 2 U) (Q pb (po+place*3+2) U) (J I ((steps:Int)+1)) (by simp;omega)).trans d2;have KE:∀j,w.heap.size<=j->Value.ownBlock (Z a s.length cap)≠T j:=λj hj e=>by have:=(HO.lt j e).2;omega
 have R2:=ae ((R1.set2 (J I ((steps:Int)+1))).al (N #[J I op,Y (f place).s,J I k] 151));have Z2:=ae ((Z1.other (Q (w.heap.size+1) 2 U) (J I ((steps:Int)+1)) (by simp)).al (N #[J I op,Y (f place).s,J I k] 151));have O2:=ae ((VJ O1 (a:=(Q (w.heap.size+1) 2 U)) (KE _ (by simp)) (J I ((steps:Int)+1))).alloc (N #[J I op,Y (f place).s,J I k] 151));have B2:=ae ((B1.setCell (p:=(Q (w.heap.size+1) 2 U)) (by simp) (J I ((steps:Int)+1))).alloc (by have:=B1.size;simpa using this) (N #[J I op,Y (f place).s,J I k] 151));have g0:((l.setCell (Q (w.heap.size+1) 2 U) (J I ((steps:Int)+1))).alloc (N #[J I op,Y (f place).s,J I k] 151)).cell? (Q l.heap.size 0 U)=T (J I op):=jj _ _ _ _ _ _ (by simp) rfl;have g1:((l.setCell (Q (w.heap.size+1) 2 U) (J I ((steps:Int)+1))).alloc (N #[J I op,Y (f place).s,J I k] 151)).cell? (Q l.heap.size 1 U)=T (Y (f place).s):=jj _ _ _ _ _ _ (by simp) rfl;have g2:((l.setCell (Q (w.heap.size+1) 2 U) (J I ((steps:Int)+1))).alloc (N #[J I op,Y (f place).s,J I k] 151)).cell? (Q l.heap.size 2 U)=T (J I k):=jj _ _ _ _ _ _ (by simp) rfl;have dg:l.heap.size<((l.setCell (Q (w.heap.size+1) 2 U) (J I ((steps:Int)+1))).alloc (N #[J I op,Y (f place).s,J I k] 151)).heap.size:=by simp
 clear KE;go_wp2_with fail;refine(xn op _ ur KM).mono ?_;rintro e w9 ⟨rfl,Ld⟩;subst Ld;clear m c0 f0 c1 f1 c2 P c3 f3 c4 f4 c5 X S R ZK ZJ ZO O ZI ZM;clear d0 d1 d2 La Lj Ln Hx hk pP;generalize World.alloc (World.setCell l _ _) _=W at R2 Z2 O2 B2 g0 g1 g2 dg ⊢;obtain⟨m,⟨c0,f0⟩,⟨c1,f1⟩,⟨c2,P⟩,⟨c3,f3⟩,⟨c4,f4⟩,⟨c5,X⟩,⟨S,R⟩,⟨ZK,ZJ⟩,⟨ZO,O⟩,ZI,ZM⟩:=R2.out;have hpt:=Fc op;have Lt:ba op<=2:=by unfold ba;split<;>(try split)<;>omega
 by_cases hb:jW op s=ZA
 ·have S1:Hid (so=.inr (.inl (2,(fg place),(steps+1)))):=by rw[EP.out,p6 hb];rfl
  have hA:(s.length:Int)<(ba op:Nat)∨¬ (s.length:Int)<(ba op:Nat)/\(50:Int)<(s.length:Int) - (ba op:Nat)+(cB op:Nat):=by simp only[jW,OU] at hb;omega
  clear hb EP;rcases hA with hA|⟨hA,Kz⟩
  iterate 2
   ·go_wp2_with fail
    refine(fL _ _ _ _ _ _ _ _ _ _ _ _ _ _ _).mono ?_;rintro e w5 ⟨rfl,b⟩;have ZL:=ae (Z2.aa b Z2.1);have D:=ae (B2.trans (b.mono B2.size));clear b;clear m c0 f0 c1 f1 c2 P c3 f3 c4 f4 c5 X S R ZK ZJ ZO O ZI ZM;obtain⟨fd,⟨z0,y0⟩,⟨z1,y1⟩,⟨z2,y2⟩,⟨z3,y3⟩,⟨L,y4⟩,⟨K,y5⟩,⟨ZN,y6⟩,⟨ZQ,y7⟩,⟨H,y8⟩,F,y9⟩:=ZL.out;go_wp2;refine bp (v:=eh place (Z a s.length cap) ((steps:Int)+1) looks ZG 2 (fg place) ZA ⟨#[]⟩ ZA) (by simp[results,RK,go_sem,z0,z1,z2,z3,L,K,ZN,ZQ,H,F]) rfl ⟨_,rfl,(by rw[S1.out];exact⟨_,_,_,_,_,rfl⟩),dY D (by omega) _ _ _ _ _ _ _ _ _ _⟩
 have KF:ba op<=s.length/\s.length - ba op+cB op<=50:=by simpa[jW] using hb
 have hA:¬ (s.length:Int)<(ba op:Nat):=by omega
 have Kz:¬ (50:Int)<(s.length:Int) - (ba op:Nat)+(cB op:Nat):=by omega
 have SO:Hid (so=iI y n place (steps+1) looks (dP op k (f place).s place looks s)):=by rw[EP.out,gM hb];rfl
 have HB:=ae KF.1;have Le:(s.drop (ba op)).length+cB op<=50:=by rw[LD];omega
 clear hb KF EP;obtain⟨A,KP⟩:∃A,A=mw op s:=⟨_,rfl⟩
 obtain⟨B,aq⟩:∃B,B=rp op s:=⟨_,rfl⟩
 obtain⟨r,n9⟩:∃r,r=s.drop (ba op):=⟨_,rfl⟩
 rw[<-n9] at Le;have EA:=ae KP;have EB:=ae aq;have ER:=ae n9;clear S0 KP aq n9;go_upto_if 68 with fail;go_cut [11] (λsa ZP=>sa=Y A/\W=ZP);case first =>
  by_cases ht:(0:Int)<(ba op:Nat)
  ·rcases s with _|⟨x,q⟩
   {exact absurd HB.out (by simp;omega)}
   ·obtain⟨g,c,e⟩:=dq O2 (by simp);obtain⟨rfl,-⟩:=TM e;have t1:=Ht O2.out;have Li:q.length<=50:=by simp at hs;omega
    obtain rfl:A=x:=by rw[EA.out];unfold mw;rw[p6 (by omega)];rfl
    rw[eL] at c1;go_wp2;go_meet;exact⟨rfl,rfl⟩
  ·obtain rfl:A=⟨#[]⟩:=by rw[EA.out];unfold mw;rw[gM (by omega)]
   go_wp2;go_meet;exact⟨rfl,rfl⟩
 case rest =>
 obtain⟨rfl,rfl⟩:=hcut;go_upto_if 78 with fail;go_cut [12] (λsa ZP=>sa=Y B/\W=ZP);case first =>
  by_cases ht:(1:Int)<(ba op:Nat)
  ·rcases s with _|⟨x,_|⟨z,q⟩⟩
   {exact absurd HB.out (by simp;omega)};{exact absurd HB.out (by simp;omega)}
   ·obtain⟨g,c,e⟩:=dq O2 (by simp);obtain⟨rfl,-⟩:=TM e;obtain⟨t1,t2⟩:=Hu O2;have Li:q.length+1<=50:=by simp at hs;omega
    obtain rfl:B=z:=by rw[EB.out];unfold rp;rw[p6 (by omega)];rfl
    rw[eL,eL] at c1;go_wp2;go_meet;exact⟨rfl,rfl⟩
  ·obtain rfl:B=⟨#[]⟩:=by rw[EB.out];unfold rp;rw[gM (by omega)]
   go_wp2;go_meet;exact⟨rfl,rfl⟩
 case rest =>
 obtain⟨rfl,rfl⟩:=hcut;have hl:s.length=r.length+ba op:=by rw[ER.out,LD];have:=HB.out;omega
 go_upto_region 17 with fail;go_cut [13] (λsr ZP=>∃V cr,sr=Z (T (Q V 0 U)) r.length cr/\W.heap.size<=V/\Hid (ZP.ownsRow W.heap.size 9 1 (Z (T (Q V 0 U)) r.length cr) r.length (strs r))/\Hid (Below W.heap.size W ZP));case first =>
  rcases Cj O2.out with ⟨rfl,hz,rfl⟩|⟨g,rfl⟩
  ·obtain rfl:s=[]:=PL.1 hz;obtain rfl:r=[]:=by rw[ER.out];simp
   have KO:ba op=0:=by simpa using HB.out
   have h0:((ba op:Nat):Int)=0:=by rw[KO];rfl
   have hw3:-((ba op:Nat):Int)=0:=by rw[h0];decide
   have hw4:0 - ((ba op:Nat):Int)=0:=by rw[h0];decide
   clear h0 KO hl;have AL:=ae ((q9 W).alloc ly (N #[] 9));have OM:=ae (PS (base:=W.heap.size) (e:=9) (size:=1) W #[] 0 ly (by unfold maxLen;omega) rfl);go_wp2;go_meet;exact⟨_,_,rfl,n6 _,OM,AL⟩
  ·have hcap:(r.length:Int)<=cap:=by have:=Hv O2.out;omega
   have KQ:Hid (∀j u,(strs r)[j]?=T u->(W.alloc (N #[] 9)).cell? (((Q g 0 U):Addr).add j)=T u):=Hw (xs:=strs (s.take (ba op))) (by
    have h:=O2.alloc (N #[] 9);rw[ER.out,<-Fg,PI]
    exact h)
   obtain⟨t,ht⟩:∃t,t=ba op:=⟨_,rfl⟩
   rw[<-ht] at hl Lt ⊢;rw[hl] at c1 hs;have HS:=ae hs;have HL:=ae hl;clear hs hl;obtain⟨JT,hi,Kt,Id,Fm⟩:=L8 lJ;go_wp2_with (at_builtin;refine BS _ rfl (.tmp 87) (.tmp 95) 30 rfl W.heap.size 9 JT (Y ⟨#[]⟩) 1 16 IB hi Kt Id Fm rfl (by decide) (Z (T (Q W.heap.size 0 U)) 0 0) 0 [] (by simp[Act.eval]) (PS W #[] 0 ly (by unfold maxLen;omega) rfl) (Q g 0 U) r.length cap (strs r) (by simp[Act.eval]) (by simp[strs]) KQ.out (Fb _) (by unfold maxLen;omega) (by omega) (by simp) ?_;intro v' w2 sm Fd GS;simp only[FM,LN] at sm;obtain⟨V,cr,rfl,KJ⟩:=sI sm (λe=>by simpa using GS.1 e);have B3:=ae (bg ((q9 W).alloc ly (N #[] 9)) Fd (by simp) (λj e=>by simp[Value.ownBlock] at e;omega));have DE:=ae sm;clear sm Fd GS);go_meet;exact⟨V,cr,rfl,KJ,DE,B3⟩
 case rest =>
 clear hl hA Kz;obtain⟨V,cr,rfl,KJ,DE,B3⟩:=hcut;have DS:w.heap.size<=W.heap.size:=B2.size;have n9:w.heap.size+1<W.heap.size:=R2.1;have DH:w.heap.size+1+1<W.heap.size:=Z2.1;have Fn:w.heap.size+1≠V:=by omega
 have KX:W.heap.size<=wc.heap.size:=B3.size;clear m c0 f0 c1 f1 c2 P c3 f3 c4 f4 c5 X S R ZK ZJ ZO O ZI ZM;have R3:=ae (R2.aa B3 R2.1);have Z3:=ae (Z2.aa B3 Z2.1);have G0:=(B3.cell (p:=(Q l.heap.size 0 U)) dg).trans g0;have G1:=(B3.cell (p:=(Q l.heap.size 1 U)) dg).trans g1;have G2:=(B3.cell (p:=(Q l.heap.size 2 U)) dg).trans g2;have R4:=ae (R3.set0 (J I ((place:Int)+1)));have Z4:=ae (Z3.other (Q (w.heap.size+1) 0 U) (J I ((place:Int)+1)) (by simp));have B4:=ae ((B2.trans (B3.mono B2.size)).setCell (p:=(Q (w.heap.size+1) 0 U)) (by simp) (J I ((place:Int)+1)));have O4:=ae (dZ DE Fn (J I ((place:Int)+1)) 0);have H0:=(cell_far _ (Q (w.heap.size+1) 0 U) (Q l.heap.size 0 U) (J I ((place:Int)+1)) (by simp;omega)).trans G0;have H1:=(cell_far _ (Q (w.heap.size+1) 0 U) (Q l.heap.size 1 U) (J I ((place:Int)+1)) (by simp;omega)).trans G1;have H2:=(cell_far _ (Q (w.heap.size+1) 0 U) (Q l.heap.size 2 U) (J I ((place:Int)+1)) (by simp;omega)).trans G2;have bt:W.heap.size<=(wc.setCell (Q (w.heap.size+1) 0 U) (J I ((place:Int)+1))).heap.size:=by simpa using KX
 obtain⟨Lb,⟨e0,v0⟩,⟨e1,v1⟩,⟨e2,v2⟩,⟨e3,v3⟩,⟨e4,v4⟩,⟨e5,v5⟩,⟨e6,v6⟩,⟨e7,v7⟩,⟨e8,v8⟩,e9,v9⟩:=R3.out;go_upto_block 0 with fail;clear Lb e0 v0 e1 v1 e2 v2 e3 v3 e4 v4 e5 v5 e6 v6 e7 v7 e8 v8 e9 v9;clear g0 g1 g2 G0 G1 G2 B3 R3 Z3 DE R2 Z2 O2;generalize World.setCell wc _ _=W5 at R4 Z4 B4 O4 H0 H1 H2 bt ⊢;obtain⟨Lc,KU⟩:A.size<=2000/\B.size<=2000:=by rw[EA.out,EB.out];exact vi HL op
 obtain⟨C,Ky⟩:∃C,C=nu op k A place:=⟨_,rfl⟩
 have At:=ae Ky;clear Ky;go_cut [] (λZP=>op<=11/\Hid (Ten ZP (w.heap.size+1) (J I C) (Z a s.length cap) (J I ((steps:Int)+1)) (J I looks) (ZD ZA) (J I 0) (Y ⟨#[]⟩) (ZD ZA) (Y ⟨#[]⟩) (ZD ZA))/\Hid (Ten ZP (w.heap.size+1+1) (J I 0) (Z U 0 0) (J I 0) (J I 0) (ZD ZA) (J I 0) (Y ⟨#[]⟩) (ZD ZA) (Y ⟨#[]⟩) (ZD ZA))/\Hid (Below w.heap.size w ZP)/\Hid (ZP.ownsRow W.heap.size 9 1 (Z (T (Q V 0 U)) r.length cr) r.length (strs r))/\ZP.cell? (Q l.heap.size 0 U)=T (J I op)/\ZP.cell? (Q l.heap.size 1 U)=T (Y (f place).s)/\ZP.cell? (Q l.heap.size 2 U)=T (J I k)/\W.heap.size<=ZP.heap.size);case first =>
  obtain⟨m,⟨c0,f0⟩,⟨c1,f1⟩,⟨c2,P⟩,⟨c3,f3⟩,⟨c4,f4⟩,⟨c5,X⟩,⟨S,R⟩,⟨ZK,ZJ⟩,⟨ZO,O⟩,ZI,ZM⟩:=R4.out;rcases H6 op A KM with rfl|rfl|rfl|rfl|rfl|⟨rfl,q1⟩|⟨rfl,q1,q2⟩|⟨rfl,q1,q2⟩|h9;{go_wp2_with fail;refine(fL _ _ _ _ _ _ _ _ _ _ _ _ _ _ _).mono ?_;rintro e w5 ⟨rfl,b⟩;have ZL:=ae (Z4.aa b Z4.1);have D:=ae (B4.trans (b.mono B4.size));clear b;clear m c0 f0 c1 f1 c2 P c3 f3 c4 f4 c5 X S R ZK ZJ ZO O ZI ZM;obtain⟨fd,⟨z0,y0⟩,⟨z1,y1⟩,⟨z2,y2⟩,⟨z3,y3⟩,⟨L,y4⟩,⟨K,y5⟩,⟨ZN,y6⟩,⟨ZQ,y7⟩,⟨H,y8⟩,F,y9⟩:=ZL.out;go_wp2;refine bp (v:=eh ((place:Int)+1) (Z a s.length cap) ((steps:Int)+1) looks ZG 0 A ZA ⟨#[]⟩ ZA) (by simp[results,RK,go_sem,z0,z1,z2,z3,L,K,ZN,ZQ,H,F]) rfl ⟨_,rfl,(by rw[SO.out,yr _ _ _ _ _ _ _ _ _ (by simp) HB.out,<-EA.out];exact⟨_,_,_,_,_,rfl⟩),dY D (by omega) _ _ _ _ _ _ _ _ _ _⟩};{go_wp2_with fail;refine(fL _ _ _ _ _ _ _ _ _ _ _ _ _ _ _).mono ?_;rintro e w5 ⟨rfl,b⟩;have ZL:=ae (Z4.aa b Z4.1);have D:=ae (B4.trans (b.mono B4.size));clear b;clear m c0 f0 c1 f1 c2 P c3 f3 c4 f4 c5 X S R ZK ZJ ZO O ZI ZM;obtain⟨fd,⟨z0,y0⟩,⟨z1,y1⟩,⟨z2,y2⟩,⟨z3,y3⟩,⟨L,y4⟩,⟨K,y5⟩,⟨ZN,y6⟩,⟨ZQ,y7⟩,⟨H,y8⟩,F,y9⟩:=ZL.out;go_wp2;refine bp (v:=eh ((place:Int)+1) (Z a s.length cap) ((steps:Int)+1) looks ZG 1 A ZA ⟨#[]⟩ ZA) (by simp[results,RK,go_sem,z0,z1,z2,z3,L,K,ZN,ZQ,H,F]) rfl ⟨_,rfl,(by rw[SO.out,yr _ _ _ _ _ _ _ _ _ (by simp) HB.out,<-EA.out];exact⟨_,_,_,_,_,rfl⟩),dY D (by omega) _ _ _ _ _ _ _ _ _ _⟩};iterate 2
   ·go_wp2_with fail
    have Z5:=ae (Z4.other (Q (w.heap.size+1) 1 U) (Z (T (Q V 0 U)) r.length cr) (by simp));have D:=ae (B4.setCell (p:=(Q (w.heap.size+1) 1 U)) (by simp) (Z (T (Q V 0 U)) r.length cr));have O5:=ae (dZ O4 Fn (Z (T (Q V 0 U)) r.length cr) 1);have Y5:=ae (HY.aa D ly);have hq:=λ(o:Nat) (ho:o=12∨o=13)=>zS o (f place).s k (place+1) (steps+1) looks (T (Q V 0 U)) cr r A (fg place) b2 o2 n Kw W.heap.size y _ Y5 O5 (by simpa using bt) ho Lh (by omega);rw[show((place+1:Nat):Int)=(place:Int)+1 by omega,show((steps+1:Nat):Int)=(steps:Int)+1 by omega] at hq;refine(hq _ (by simp)).mono ?_;rintro e w5 ⟨v,rfl,la,b⟩;have Lo:=ae la;obtain⟨l0,l1,l2,l3,l4,l5,l6,l7,l8,l9,Ls,KZ,rfl⟩:=la.aq;have ZL:=ae (Z5.aa b DH);have B6:=ae (D.trans (b.mono DS));clear b hq la;clear m c0 f0 c1 f1 c2 P c3 f3 c4 f4 c5 X S R ZK ZJ ZO O ZI ZM;obtain⟨fd,⟨z0,y0⟩,⟨z1,y1⟩,⟨z2,y2⟩,⟨z3,y3⟩,⟨L,y4⟩,⟨K,y5⟩,⟨ZN,y6⟩,⟨ZQ,y7⟩,⟨H,y8⟩,F,y9⟩:=ZL.out;go_wp2;refine bp (v:=eh l0 (Z l1 l2 l3) l4 l5 l6 l7 l8 l9 Ls KZ) (by simp[results,RK,go_sem,z0,z1,z2,z3,L,K,ZN,ZQ,H,F]) rfl ⟨_,rfl,(by rw[SO.out,H7 _ _ _ _ _ _ _ _ _ (by simp) HB.out,<-EA.out,<-ER.out];exact(Cg Lo DH _ _ _ _ _ _ _ _ _ _).mono DS),dY B6 (by omega) _ _ _ _ _ _ _ _ _ _⟩
  iterate 3
   ·obtain rfl:C=k:=At.trans (Km (by first|exact .inl rfl|exact .inr (.inl ⟨rfl,q1⟩)|exact .inr (.inr ⟨rfl,q2⟩)))
    have R5:=ae (R4.set0 (J I C));have Z5:=ae (Z4.other (Q (w.heap.size+1) 0 U) (J I C) (by simp));have D:=ae (B4.setCell (p:=(Q (w.heap.size+1) 0 U)) (by simp) (J I C));have O5:=ae (dZ O4 Fn (J I C) 0);have I0:=(cell_far _ (Q (w.heap.size+1) 0 U) (Q l.heap.size 0 U) (J I (C:Int)) (by simp;omega)).trans H0;have I1:=(cell_far _ (Q (w.heap.size+1) 0 U) (Q l.heap.size 1 U) (J I (C:Int)) (by simp;omega)).trans H1;have I2:=(cell_far _ (Q (w.heap.size+1) 0 U) (Q l.heap.size 2 U) (J I (C:Int)) (by simp;omega)).trans H2;have HI:=ae I0;have Lf:=ae I1;have Lr:=ae I2;clear I0 I1 I2;go_wp2;go_meet;exact⟨by omega,R5,Z5,D,O5,HI,Lf,Lr,by simpa using bt⟩
  ·obtain rfl:C=place+1:=by rw[At.out];unfold nu;rw[gM (by decide),gM (λh=>h.2.elim (λe=>by rw[e] at q1;cases q1) (λe=>by rw[e] at q2;cases q2))]
   go_wp2;go_meet;exact⟨by omega,by show Ten _ _ _ _ _ _ _ _ _ _ _ _;rw[show((place+1:Nat):Int)=(place:Int)+1 by omega];exact R4,Z4,B4,O4,H0,H1,H2,bt⟩
  ·obtain rfl:C=place+1:=by rw[At.out];unfold nu;rw[gM (by omega),gM (by omega)]
   have n15:((op:Int) == 15)=ZA:=by simp;omega
   have n14:((op:Int) == 14)=ZA:=by simp;omega
   have n12:((op:Int) == 12)=ZA:=by simp;omega
   have n13:((op:Int) == 13)=ZA:=by simp;omega
   have n10:((op:Int) == 10)=ZA:=by simp;omega
   have n11:((op:Int) == 11)=ZA:=by simp;omega
   go_wp2;go_meet;exact⟨by omega,by show Ten _ _ _ _ _ _ _ _ _ _ _ _;rw[show((place+1:Nat):Int)=(place:Int)+1 by omega];exact R4,Z4,B4,O4,H0,H1,H2,bt⟩
 case rest =>
 clear R4 Z4 B4 O4 H0 H1 H2 bt;obtain⟨Kv,R4,Z4,B4,O4,G0,G1,G2,bt⟩:=hcut;obtain⟨G,Fk⟩:∃G,G=bT op k (f place).s A B:=⟨_,rfl⟩
 have ph:Hid (G=bT op k (f place).s A B/\G.length=cB op):=⟨Fk,by rw[Fk];exact zT _ _ _ _ _ ur Kv⟩
 have KC:Hid (so=gN G (fg place) r C (steps+1) looks):=by show _=_;rw[SO.out,Fh _ _ _ _ _ _ _ _ _ ur Kv HB.out KV HL.out,Fk,<-EA.out,<-EB.out,<-ER.out,<-At.out]
 clear Fk SO EA EB ER At;go_wp2_with fail;go_loopw [13,14] (λrest i wr=>∃j:Nat,j<=cB op/\i=J I j/\∃g6 cx,rest=Z (T (Q g6 0 U)) (r.length+j) cx/\Hid (wr.ownsRow W.heap.size 9 1 (Z (T (Q g6 0 U)) (r.length+j) cx) (r.length+j) (strs r++(G.take j).map Value.string))/\Hid (Below W.heap.size wc wr)/\Hid (∀i,i<j->(G.getD i ⟨#[]⟩).size<=2000)) (λ_ i _=>cB op - (intOf i).toNat);case atStart=>exact⟨0,by omega,rfl,V,cr,rfl,(by show World.ownsRow _ _ _ _ _ _ _;rw[List.take_zero,PQ,V8];exact O4),dB _ _,λi hi=>absurd hi (PK _)⟩
 case round =>
  obtain⟨j,hj,rfl,g6,cx,rfl,O6,B6,S6⟩:=hrel;have R6:=ae (R4.aa B6 n9);have Z6:=ae (Z4.aa B6 DH);have i0:=(B6.cell (p:=(Q l.heap.size 0 U)) dg).trans G0;have i1:=(B6.cell (p:=(Q l.heap.size 1 U)) dg).trans G1;have i2:=(B6.cell (p:=(Q l.heap.size 2 U)) dg).trans G2;have KD:W.heap.size<=wr.heap.size:=p7 bt B6.size;have B7:=ae (B4.trans (B6.mono DS));by_cases Ku:j<cB op
  ·have h8:op<=8:=Hy ur Kv Ku;have Kx:j<G.length:=by rw[ph.2];exact Ku
   go_wp2_with fail;refine(xo op k (f place).s A B _ ur h8 Lc KU Lp).mono ?_;rintro e w6 ⟨g7,rfl,ro,Lq,mv⟩;rw[<-ph.1] at ro ⊢;rw[ph.2] at ro ⊢;have q6:w6.cell? (Q g7 j U)=T (Y (G.getD j ⟨#[]⟩)):=by have:=ro.2 j Ku;rwa[FM] at this
   obtain⟨E,hE⟩:∃E,E=G.getD j ⟨#[]⟩:=⟨_,rfl⟩
   rw[<-hE] at q6;have HE:=ae hE;clear hE;have O7:=ae (own_below O6 mv ly);have B8:=ae (B6.trans (mv.mono KD));have Lm:W.heap.size<=w6.heap.size:=p7 KD mv.size;have R7:=ae (R6.aa mv R6.1);have Z7:=ae (Z6.aa mv Z6.1);have B9:=ae (B7.trans (mv.mono B7.size));clear ro Lq mv i0 i1 i2 R6 Z6;by_cases Lu:(E.size:Int)<=2000
   ·obtain⟨JT,hi,Kt,Id,Fm⟩:=L8 lJ;go_wp2_with (at_builtin;refine BS _ rfl (.tmp 158) (.tmp 163) 30 rfl W.heap.size 9 JT (Y ⟨#[]⟩) 1 16 IB hi Kt Id Fm rfl (by decide) (Z (T (Q g6 0 U)) (r.length+j) cx) (r.length+j) (strs r++(G.take j).map Value.string) (by simp[Act.eval]) (O7.alloc _) (Q w6.heap.size 0 U) 1 1 [Y E] (by simp[Act.eval]) rfl (cu w6 _ _) (by simp[Value.oneCell']) (by unfold maxLen;omega) (by omega) (by simp<;>omega) ?_;intro v' w7 qr th DQ;obtain⟨g8,ZO,rfl,hg8⟩:=sI qr (λe=>by simpa using DQ.1 e);have O8:=ae qr;have Lg:=ae (bg (B8.alloc Lm (N #[Y E] 9)) th (by simp<;>omega) (λi e=>(O7.lt i e).1));clear qr th DQ)
    exact⟨⟨j+1,by omega,by go_num,g8,ZO,rfl,by show World.ownsRow _ _ _ _ _ _ _;rw[Ci Kx,<-ON,<-HE.out];exact O8,Lg,λi hi=>by
     by_cases e:i=j;{subst e;rw[<-HE.out];omega}
     ·exact S6 i (by omega)⟩,by simp[intOf];omega⟩
   {have ER:=ae (show so=.inr (.inl (2,(fg place),(steps+1))) by rw[KC.out];unfold gN;rw[Hz Kx (by rw[<-HE.out];exact Lu)];rfl);obtain⟨m,⟨c0,f0⟩,⟨c1,f1⟩,⟨c2,P⟩,⟨c3,f3⟩,⟨c4,f4⟩,⟨c5,X⟩,⟨S,R⟩,⟨ZK,ZJ⟩,⟨ZO,O⟩,ZI,ZM⟩:=R7.out;go_wp2_with fail;refine(fL _ _ _ _ _ _ _ _ _ _ _ _ _ _ _).mono ?_;rintro e w5 ⟨rfl,b⟩;have ZL:=ae (Z7.aa b Z7.1);have D:=ae (B9.trans (b.mono B9.size));clear b;clear m c0 f0 c1 f1 c2 P c3 f3 c4 f4 c5 X S R ZK ZJ ZO O ZI ZM;obtain⟨fd,⟨z0,y0⟩,⟨z1,y1⟩,⟨z2,y2⟩,⟨z3,y3⟩,⟨L,y4⟩,⟨K,y5⟩,⟨ZN,y6⟩,⟨ZQ,y7⟩,⟨H,y8⟩,F,y9⟩:=ZL.out;go_wp2;refine bp (v:=eh C (Z a s.length cap) ((steps:Int)+1) looks ZG 2 (fg place) ZA ⟨#[]⟩ ZA) (by simp[results,RK,go_sem,z0,z1,z2,z3,L,K,ZN,ZQ,H,F]) rfl ⟨_,rfl,(by rw[ER.out];exact⟨_,_,_,_,_,rfl⟩),dY D (by omega) _ _ _ _ _ _ _ _ _ _⟩}
  ·have e:j=cB op:=by omega
   subst e;have ER:=ae (show so=.inl (C,(steps+1),looks,(G.reverse++r)) by rw[KC.out];unfold gN;rw[Ff (λi hi=>S6.out i (by rw[ph.2] at hi;exact hi))];rfl);have KN:=ae (show(G.reverse++r).length=r.length+cB op by rw[cM,List.length_reverse,ph.2];omega);obtain⟨m,⟨c0,f0⟩,⟨c1,f1⟩,⟨c2,P⟩,⟨c3,f3⟩,⟨c4,f4⟩,⟨c5,X⟩,⟨S,R⟩,⟨ZK,ZJ⟩,⟨ZO,O⟩,ZI,ZM⟩:=R6.out;obtain⟨fd,⟨z0,y0⟩,⟨z1,y1⟩,⟨z2,y2⟩,⟨z3,y3⟩,⟨L,y4⟩,⟨K,y5⟩,⟨ZN,y6⟩,⟨ZQ,y7⟩,⟨H,y8⟩,F,y9⟩:=Z6.out;have OE:=ae (VK O6 (a:=(Q (w.heap.size+1) 1 U)) n9 (Z (T (Q g6 0 U)) (r.length+cB op) cx));have BE:=ae (B7.setCell (p:=(Q (w.heap.size+1) 1 U)) (by simp) (Z (T (Q g6 0 U)) (r.length+cB op) cx));go_wp2;refine bp (v:=eh C (Z (T (Q g6 0 U)) (r.length+cB op) cx) ((steps:Int)+1) looks ZA 0 ⟨#[]⟩ ZA ⟨#[]⟩ ZA) (by simp[results,RK,go_sem,z0,z1,z2,z3,L,K,ZN,ZQ,H,F]) rfl ⟨_,rfl,?_,dY BE (by omega) _ _ _ _ _ _ _ _ _ _⟩;rw[ER.out];refine(Cg (v:=eh C (Z (T (Q g6 0 U)) (r.length+cB op) cx) ((steps:Int)+1) looks ZA 0 ⟨#[]⟩ ZA ⟨#[]⟩ ZA) (base:=W.heap.size) ?_ DH _ _ _ _ _ _ _ _ _ _).mono DS;refine⟨T (Q g6 0 U),cx,by rw[KN.out];simp,?_⟩;rw[KN.out,Fe];have h:=OE.out;rw[show G.take (cB op)=G by rw[<-ph.2];exact List.take_length] at h;exact h
def Jo (f:Nat->Ins)(cnt:Nat)(y:Nat->aK)(n:Nat)(ZL:Turn)(st:Nat):SO->Prop
 |.inr (.inl (c,x,k))=>ZL=iH c x k
 |.inr (.inr (a,nm,k))=>ZL=qv a nm k
 |.inl (p,k,l,s)=>k=st+1/\k<=2000/\dS f cnt y n (2001 - k) p k l s=ZL/\p<=2000/\l<=200/\s.length<=50/\∀x∈s,x.size<=2000
theorem xp{cnt:Nat}(i:b.length<=50)(c:∀x∈b,x.size<=2000)(h:looks<=200)(g:dC f cnt=ZG)(hc:cnt<=200):kV (dr f cnt place steps looks b) looks:=by
 unfold dr;split;{trivial}
 ·rename_i h1;split;{trivial}
  ·split;{trivial}
   ·rename_i h3;have hi:=gP g (show place<cnt by omega);simp only[aH,AI] at hi;obtain⟨i1,i2,i3,i4,i5⟩:=hi;have hmt:bO (f place).op<=2000:=by unfold bO;split<;>(try split)<;>omega
    have hmt2:aE (f place).op<=2000:=by unfold aE;split<;>omega
    exact mL _ _ _ _ _ _ i c (by omega) (by omega) (by omega) h (by omega) (by omega) (by simpa using h3)
theorem xq{cnt:Nat}{a:Bool}{nm:ByteArray}(h:dr f cnt place steps looks b=.inr (.inr (a,nm,s))):place<cnt:=by
 unfold dr at h;split at h;{cases h};{omega}
theorem H9{cnt:Nat}{y:Nat->aK}{ZL:Turn}{p st l:Nat}(hst:st<=2000)(r:l<=200)(B:s.length<=50)(o:∀x∈s,x.size<=2000)(t:dC f cnt=ZG)(C:cnt<=200)(z:bU y n=ZG)
  (b:dS f cnt y n (2001 - st) p st l s=ZL):Jo f cnt y n ZL st (fY f cnt y n p st l s):=by
 obtain⟨j,u⟩:∃j,2001 - st=j+1:=⟨2000 - st,by omega⟩
 rw[u,dS] at b;have hF:=xp (place:=p) (steps:=st) B o r t C;unfold fY;rcases h:dr f cnt p st l s with ⟨A,p'⟩|⟨c,x⟩|⟨a,nm,A⟩
 {rw[h] at b hF;obtain⟨m,D⟩:=vh h;obtain⟨f1,i,q⟩:=hF;simp only[m] at b ⊢;exact⟨rfl,by omega,by rw[show 2001 - (st+1)=j by omega];exact b,q,r,f1,i⟩};{rw[h] at b;exact b.symm};{rw[h] at b hF;obtain⟨m,D⟩:=qw h;obtain⟨f1,i,q,f4⟩:=hF;have hp:=xq h;simp only[m] at b ⊢;simp only[iI,kH];by_cases h1:n<=l;{rw[p6 h1] at b ⊢;exact b.symm};{rw[gM h1] at b ⊢;by_cases h2:a=ZA;{rw[p6 h2] at b ⊢;refine⟨rfl,by omega,by rw[show 2001 - (st+1)=j by omega];exact b,by omega,by omega,by simp;omega,λx g=>?_⟩;rcases AT.1 g with rfl|g;{exact mu _};{exact i x g}};{rw[gM h2] at b ⊢;by_cases h3:(y l).has=ZA;{rw[p6 h3] at b ⊢;exact b.symm};{rw[gM h3] at b ⊢;by_cases h4:(y l).E=0;{rw[p6 h4] at b ⊢;refine⟨rfl,by omega,by rw[show 2001 - (st+1)=j by omega];exact b,by omega,by omega,by simp;omega,λx g=>?_⟩;rcases AT.1 g with rfl|g;{exact(E9 z (show l<n by omega)).1};{exact i x g}};{rw[gM h4] at b ⊢;exact b.symm}}}}}
theorem Ten.put{i b j n p o f c m l:ZC}(h:Ten w g i b j n p o f c m l)(u0 u1 u2 u3 u4 u5 u6 u7 u8 u9:ZC):Ten ((((((((((w.setCell (Q g 0 U) u0).setCell (Q g 1 U) u1).setCell (Q g 2 U) u2).setCell (Q g 3 U) u3).setCell (Q g 4 U) u4).setCell (Q g 5 U) u5).setCell (Q g 6 U) u6).setCell (Q g 7 U) u7).setCell (Q g 8 U) u8).setCell (Q g 9 U) u9) g u0 u1 u2 u3 u4 u5 u6 u7 u8 u9 :=
 (((((((((h.set0 u0).set1 u1).set2 u2).set3 u3).set4 u4).set5 u5).set6 u6).set7 u7).set8 u8).set9 u9
theorem pm{u:M}(h:Only g u w)(u0 u1 u2 u3 u4 u5 u6 u7 u8 u9:ZC):Only g u ((((((((((w.setCell (Q g 0 U) u0).setCell (Q g 1 U) u1).setCell (Q g 2 U) u2).setCell (Q g 3 U) u3).setCell (Q g 4 U) u4).setCell (Q g 5 U) u5).setCell (Q g 6 U) u6).setCell (Q g 7 U) u7).setCell (Q g 8 U) u8).setCell (Q g 9 U) u9) :=
 ix (ix (ix (ix (ix (ix (ix (ix (ix (ix h 0 u0) 1 u1) 2 u2) 3 u3) 4 u4) 5 u5) 6 u6) 7 u7) 8 u8) 9 u9
def yt (w:M)(g b:Nat)(f:Nat->Ins)(cnt:Nat)(y:Nat->aK)(n:Nat)(ZL:Turn)(k:Nat):Prop :=
 (∃p st l s a cap,Ten w g (J I (p:Nat)) (Z a (List.length s) cap) (J I (st:Nat)) (J I (l:Nat)) (ZD ZA) (J I 0) (Y ⟨#[]⟩) (ZD ZA) (Y ⟨#[]⟩) (ZD ZA)/\w.ownsRow b 9 1 (Z a s.length cap) s.length (strs s) /\
  st<=2000/\dS f cnt y n (2001 - st) p st l s=ZL/\p<=2000/\l<=200/\s.length<=50/\(∀x∈s,x.size<=2000)/\2002 - st<=k) ∨
 (∃at_ sv lk c x,∃st:Nat,Ten w g at_ sv (J I st) lk (ZD ZG) (J I c) (Y x) (ZD ZA) (Y ⟨#[]⟩) (ZD ZA)/\ZL=iH c x st) ∨
 (∃at_ sv lk a nm,∃st:Nat,Ten w g at_ sv (J I st) lk (ZD ZA) (J I 0) (Y ⟨#[]⟩) (ZD a) (Y nm) (ZD ZG)/\ZL=qv a nm st)
theorem Ia{b cap:Nat}{e:TypeId}{a:Option Addr}{c:List ZC}(h:w.ownsRow b e 1 (Z a n cap) n c){k:Nat}(x:k<b)(l f m q t r i g p o:ZC):World.ownsRow ((((((((((w.setCell (Q k 0 U) l).setCell (Q k 1 U) f).setCell (Q k 2 U) m).setCell (Q k 3 U) q).setCell (Q k 4 U) t).setCell (Q k 5 U) r).setCell (Q k 6 U) i).setCell (Q k 7 U) g).setCell (Q k 8 U) p).setCell (Q k 9 U) o) b e 1 (Z a n cap) n c:=by have s:∀{w:M} (j:Nat) (u:ZC),w.ownsRow b e 1 (Z a n cap) n c->(w.setCell (Q k j U) u).ownsRow b e 1 (Z a n cap) n c:=λj u h=>VK h (a:=(Q k j U)) x u;exact s 9 o (s 8 p (s 7 g (s 6 i (s 5 r (s 4 t (s 3 q (s 2 m (s 1 f (s 0 l h)))))))))
theorem oC (g c cnt cap n p:Nat)(G:Option Addr)(f:Nat->Ins)(w:M)(hn:cnt<=1048576)(m:valid f cnt=ZG->200<(n:Int))(y:RowIns w g c cnt f)(u:∀i,i<cnt->(f i).s.size<=maxLen):Calls Tryz.prog 106 #[.agg #[Z (T (Q g c U)) cnt cap],Z G n p] w λe l=>e=ZF badT.v/\Below w.heap.size w l:=by
 have D:=ae y;have r:=ae ((((q9 w).alloc ly (N #[Z (T (Q g c U)) cnt cap] 43))).alloc (by simp) (N #[ZD ZA,J I 0,Y ⟨#[]⟩,ZD ZA,Y ⟨#[]⟩,J I 0] 163));have h:=yo (w.alloc (N #[Z (T (Q g c U)) cnt cap] 43)) (ZD ZA) (J I 0) (Y ⟨#[]⟩) (ZD ZA) (Y ⟨#[]⟩) (J I 0) 163;rw[show(w.alloc (N #[Z (T (Q g c U)) cnt cap] 43)).heap.size=w.heap.size+1 by simp] at h;have x:=ae h;have q:=λl h1 h2=>gi g c cnt cap f l hn h1 h2 u;generalize valid f cnt=b at m q;have t:=ae q;have B:=ae m;clear h q y u m;go_enter func106,ntmps106;go_wp2_with fail;have o:=ae (D.aa r ly);refine(t _ o.1 o.2).mono ?_;rintro e w1 ⟨rfl,j⟩;have F:=ae (x.aa j (by simp));have ZN:=ae (r.trans (j.mono (by simp;omega)));clear j r x o;obtain⟨⟨v0,z,y0⟩,⟨v1,ZP,y1⟩,⟨v2,E,y2⟩,⟨v3,H,y3⟩,⟨v4,A,y4⟩,⟨v5,C,y5⟩⟩:=bl6 F.2;cases b
 all_goals
  (try have hn2:=B.out rfl)
  go_wp2;refine bp (v:=badT.v) (by simp[results,TN,go_sem,Turn.v,badT,z,ZP,E,H,A,C]) rfl ⟨rfl,jI ZN (by omega) _ _ _ _ _ _⟩
theorem xr (h m cnt cap S o2 n aq:Nat)(f:Nat->Ins)(y:Nat->aK)(w:M)(hn:cnt<=1048576)(hv:valid f cnt=ZG)(hn2:(n:Int)<=200)(hP:RowIns w h m cnt f)(hY:RowReply w S o2 n y)(hs:∀i,i<cnt->(f i).s.size<=maxLen)(ZL:Turn)(hT:ZL=if bU y n=ZA then badT else dS f cnt y n 2001 0 0 0 []):Calls Tryz.prog 106 #[.agg #[Z (T (Q h m U)) cnt cap],Z (T (Q S o2 U)) n aq] w λe w'=>e=ZF ZL.v/\Below w.heap.size w w':=by
 have HV:=ae (bP hv).1;have ro:cnt<=200:=by have:=(bP hv).2.2;omega
 have X:=ae hY;have V:=ae hT;clear hY hT;have HP:=ae hP;have A0:=ae ((((q9 w).alloc ly (N #[Z (T (Q h m U)) cnt cap] 43))).alloc (by simp) (N #[ZD ZA,J I 0,Y ⟨#[]⟩,ZD ZA,Y ⟨#[]⟩,J I 0] 163));have ZK:=yo (w.alloc (N #[Z (T (Q h m U)) cnt cap] 43)) (ZD ZA) (J I 0) (Y ⟨#[]⟩) (ZD ZA) (Y ⟨#[]⟩) (J I 0) 163;rw[show(w.alloc (N #[Z (T (Q h m U)) cnt cap] 43)).heap.size=w.heap.size+1 by simp] at ZK;have X0:=ae ZK;have IV:=λw' h1 h2=>gi h m cnt cap f w' hn h1 h2 hs;rw[hv] at IV;have qr:=ae IV;clear ZK IV hP hs hv;go_enter func106,ntmps106;go_wp2_with fail;have P1:=ae (HP.aa A0 ly);refine(qr _ P1.1 P1.2).mono ?_;rintro e w1 ⟨rfl,ZQ⟩;have c1:w1.cell? (Q w.heap.size 0 U)=T (Z (T (Q h m U)) cnt cap):=(ZQ.cell (p:=(Q w.heap.size 0 U)) (by simp;omega)).trans (by simp);have HX:=ae (X0.aa ZQ (by simp));have B1:=ae (A0.trans (ZQ.mono (by simp;omega)));have z1:w.heap.size+1<w1.heap.size:=HX.1;clear ZQ A0 X0 P1;have ph:=ae (X.aa B1 ly);go_wp2_with fail;go_loopw [5] (λi wr=>∃j:Nat,j<=n/\i=J I j/\Hid (bU y j=ZG)/\Below w1.heap.size w1 wr) (λi _=>n - (intOf i).toNat);case atStart=>exact⟨0,by omega,rfl,rfl,dB _ _⟩
 case round =>
  obtain⟨j,hj,rfl,HK,ZM⟩:=hrel;have u:=ae (HX.aa ZM HX.1);have G:=ae (B1.trans (ZM.mono B1.size));have cp:wr.cell? (Q w.heap.size 0 U)=T (Z (T (Q h m U)) cnt cap):=(ZM.cell (p:=(Q w.heap.size 0 U)) (by simp;omega)).trans c1;have zr:w.heap.size+1<wr.heap.size:=u.1;have bt:=ae ZM;clear ZM;by_cases z:j<n
  ·obtain⟨d0,d1,d2⟩:=(X.aa G ly).2 j z;obtain⟨⟨v0,ZN,y0⟩,⟨v1,C,y1⟩,⟨v2,A,y2⟩,⟨v3,ZP,y3⟩,⟨v4,H,y4⟩,⟨v5,K,y5⟩⟩:=bl6 u.2;by_cases g1:((y j).B.size:Int)<=2000
   ·by_cases g2:0<=(y j).E
    ·by_cases g3:(y j).E<=7;{go_wp2;refine⟨⟨j+1,by omega,by go_num,?_,?_⟩,by simp[intOf];omega⟩;{show bU y (j+1)=ZG;simp only[bU,HK.out,dk,UN,AI];omega};{exact bt}}
     ·go_wp2;have t:ZL=badT:=by rw[V.out,p6 (ii z (by simp only[dk,OU];omega))]
      refine bp (v:=badT.v) (by simp[results,TN,go_sem,Turn.v,badT,ZN,C,A,ZP,H,K]) rfl ⟨by rw[t],jI G (by omega) _ _ _ _ _ _⟩
    ·go_wp2;have t:ZL=badT:=by rw[V.out,p6 (ii z (by simp only[dk,OU];omega))]
     refine bp (v:=badT.v) (by simp[results,TN,go_sem,Turn.v,badT,ZN,C,A,ZP,H,K]) rfl ⟨by rw[t],jI G (by omega) _ _ _ _ _ _⟩
   ·go_wp2;have t:ZL=badT:=by rw[V.out,p6 (ii z (by simp only[dk,OU];omega))]
    refine bp (v:=badT.v) (by simp[results,TN,go_sem,Turn.v,badT,ZN,C,A,ZP,H,K]) rfl ⟨by rw[t],jI G (by omega) _ _ _ _ _ _⟩
  ·have e:j=n:=by omega
   subst e;have t:ZL=dS f cnt y j 2001 0 0 0 []:=by rw[V.out,gM (by simp[HK.out])]
   have ET:=ae t;clear t V ph;have RN:=ae (lD wr (J I 0) (Z U 0 0) (J I 0) (J I 0) (ZD ZA) (J I 0) (Y ⟨#[]⟩) (ZD ZA) (Y ⟨#[]⟩) (ZD ZA) 226 wr.heap.size rfl);obtain⟨ZO,F⟩:∃W:M,wr.alloc (N #[J I 0,Z U 0 0,J I 0,J I 0,ZD ZA,J I 0,Y ⟨#[]⟩,ZD ZA,Y ⟨#[]⟩,ZD ZA] 226)=W:=⟨_,rfl⟩
   obtain⟨A2,-,-⟩:=nb1 F;have E:=ae F;clear F;have XN:=ae (u.aa A2 u.1);have BN:=ae (G.trans (A2.mono G.size));have cN:=(A2.cell (p:=(Q w.heap.size 0 U)) (by simp;omega)).trans cp;have ZJ:wr.heap.size<ZO.heap.size:=by cases E.out;simp
   go_wp2_with fail;clear c1 cp;rw[E.out] at RN ⊢;clear E;generalize wr.heap.size=r at RN zr ZJ ⊢;have n9:S<r:=lj X.1 (by omega);have ur:h<r:=lj HP.1 (by omega);have S0:Hid (yt ZO r ZO.heap.size f cnt y j ZL 2002):=.inl ⟨0,0,0,[],U,0,RN,A9 _ _ _ _,by omega,ET.symm,by omega,by omega,by simp,by simp,by omega⟩;have PN:=ae (HP.aa BN ly);have YN:=ae (X.aa BN ly);clear RN ET u G bt z HX B1 HP X;go_loopg [] 2002 (λg wr=>yt wr r ZO.heap.size f cnt y j ZL g/\Only r ZO wr);case atStart=>exact⟨S0,Only.refl _ _⟩
   case round =>
    obtain⟨Bk,D⟩:=hrel;have HO:=ae D;have cw:wr.cell? (Q w.heap.size 0 U)=T (Z (T (Q h m U)) cnt cap):=(D.cell w.heap.size 0 (by omega) (by omega)).trans cN;have dg:r<wr.heap.size:=lj ZJ D.size;have ld:=ae (D.aa (n6 r) (P0 ZJ));have BW:=ae (BN.trans (D.aa (show w.heap.size<=r by omega) (by omega)));have XW:=ae (XN.F D (by omega));have zw:w.heap.size+1<wr.heap.size:=XW.1;clear D;rcases Bk with ⟨p,st,l,s,a,mv,b,R,k1,k2,k3,k4,k5,k6,k7⟩|⟨at_,sv,lk,c,x,st,b,o⟩|⟨at_,sv,lk,a,nm,st,b,o⟩
    ·have At:=ae b;have OW:=ae R;have sm:=ae (H9 k1 k4 k5 k6 HV ro HK k2);have K6:=ae k6;have PW:Hid (RowIns wr h m cnt f):=⟨lj PN.1 HO.size,λi hi=>(PN.2 i hi).aa ld ur⟩
     have YW:Hid (RowReply wr S o2 j y):=⟨lj YN.1 HO.size,λi hi=>(YN.2 i hi).aa ld n9⟩
     obtain⟨ZI,⟨c0,f0⟩,⟨c1,f1⟩,⟨c2,f2⟩,⟨c3,f3⟩,⟨c4,f4⟩,⟨c5,f5⟩,⟨c6,f6⟩,⟨c7,f7⟩,⟨c8,f8⟩,c9,f9⟩:=b;clear R k2 k6;go_wp2_with fail;refine(zZ h m cnt cap p st l f a s mv S o2 j aq ZO.heap.size y _ PW YW OW k3 k1 k4 k5 K6 HV).mono ?_;rintro e w3 ⟨v,rfl,L,P⟩;have O:=ae (At.aa P dg);have O3:=ae (HO.ao P);clear ZI c0 f0 c1 f1 c2 f2 c3 f3 c4 f4 c5 f5 c6 f6 c7 f7 c8 f8 c9 f9;clear P;have q:=sm.out;obtain⟨g,rfl⟩:∃g,gk=g+1:=⟨gk - 1,by omega⟩
     generalize fY f cnt y j p st l s=so at L q;rcases so with ⟨p',th,l',s'⟩|⟨c,x,k⟩|⟨a1,nm,k⟩
     ·obtain⟨a',c',rfl,fd⟩:=L;obtain⟨m1,m2,m3,m4,m5,m6,m7⟩:=q;have OE:=ae fd;have M3:=ae m3;have M7:=ae m7;have M1:=ae m1;clear fd m3 m7 m1;obtain⟨la,⟨e0,u0⟩,⟨e1,u1⟩,⟨e2,u2⟩,⟨e3,u3⟩,⟨e4,u4⟩,⟨e5,u5⟩,⟨e6,u6⟩,⟨e7,u7⟩,⟨e8,u8⟩,e9,u9⟩:=O.out;go_wp2;go_roundg g;case measure=>omega
      case rel=>exact⟨.inl ⟨p',th,l',s',a',c',O.put _ _ _ _ _ _ _ _ _ _,aB (Ia OE dg _ _ _ _ _ _ _ _ _ _) HO.size,m2,M3,m4,m5,m6,M7,by have:=M1.out;omega⟩,pm O3 _ _ _ _ _ _ _ _ _ _⟩
     ·obtain⟨at_,a',n',c',lk,rfl⟩:=L;have o:ZL=iH c x k:=q;have B:=ae o;clear o q;obtain⟨la,⟨e0,u0⟩,⟨e1,u1⟩,⟨e2,u2⟩,⟨e3,u3⟩,⟨e4,u4⟩,⟨e5,u5⟩,⟨e6,u6⟩,⟨e7,u7⟩,⟨e8,u8⟩,e9,u9⟩:=O.out;go_wp2;go_roundg g;case measure=>omega
      case rel=>exact⟨.inr (.inl ⟨_,_,_,_,_,_,O.put _ _ _ _ _ _ _ _ _ _,B⟩),pm O3 _ _ _ _ _ _ _ _ _ _⟩
     ·obtain⟨at_,a',n',c',lk,rfl⟩:=L;have o:ZL=qv a1 nm k:=q;have B:=ae o;clear o q;obtain⟨la,⟨e0,u0⟩,⟨e1,u1⟩,⟨e2,u2⟩,⟨e3,u3⟩,⟨e4,u4⟩,⟨e5,u5⟩,⟨e6,u6⟩,⟨e7,u7⟩,⟨e8,u8⟩,e9,u9⟩:=O.out;go_wp2;go_roundg g;case measure=>omega
      case rel=>exact⟨.inr (.inr ⟨_,_,_,_,_,_,O.put _ _ _ _ _ _ _ _ _ _,B⟩),pm O3 _ _ _ _ _ _ _ _ _ _⟩
    {have B:=ae o;obtain⟨ZI,⟨c0,f0⟩,⟨c1,f1⟩,⟨c2,f2⟩,⟨c3,f3⟩,⟨c4,f4⟩,⟨c5,f5⟩,⟨c6,f6⟩,⟨c7,f7⟩,⟨c8,f8⟩,c9,f9⟩:=b;obtain⟨⟨v0,ZN,y0⟩,⟨v1,C,y1⟩,⟨v2,A,y2⟩,⟨v3,ZP,y3⟩,⟨v4,H,y4⟩,⟨v5,K,y5⟩⟩:=bl6 XW.2;clear o;go_wp2;refine bp (v:=ZL.v) (by rw[B.out];simp[results,TN,go_sem,Turn.v,iH,ZN,C,A,ZP,H,K]) rfl ⟨rfl,jI BW (by omega) _ _ _ _ _ _⟩};{have B:=ae o;obtain⟨ZI,⟨c0,f0⟩,⟨c1,f1⟩,⟨c2,f2⟩,⟨c3,f3⟩,⟨c4,f4⟩,⟨c5,f5⟩,⟨c6,f6⟩,⟨c7,f7⟩,⟨c8,f8⟩,c9,f9⟩:=b;obtain⟨⟨v0,ZN,y0⟩,⟨v1,C,y1⟩,⟨v2,A,y2⟩,⟨v3,ZP,y3⟩,⟨v4,H,y4⟩,⟨v5,K,y5⟩⟩:=bl6 XW.2;clear o;go_wp2;refine bp (v:=ZL.v) (by rw[B.out];simp[results,TN,go_sem,Turn.v,qv,ZN,C,A,ZP,H,K]) rfl ⟨rfl,jI BW (by omega) _ _ _ _ _ _⟩}
theorem vj (c g cnt cap o j n b:Nat)(f:Nat->Ins)(y:Nat->aK)(w:M)(hn:cnt<=1048576)(m:RowIns w c g cnt f)(r:RowReply w o j n y)(l:∀i,i<cnt->(f i).s.size<=maxLen):Calls Tryz.prog 106 #[.agg #[Z (T (Q c g U)) cnt cap],Z (T (Q o j U)) n b] w λe q=>e=ZF (tZ f cnt y n).v/\Below w.heap.size w q:=by
 unfold tZ;by_cases h1:valid f cnt=ZA;{rw[p6 h1];exact oC c g cnt cap n b _ f w hn (λh=>absurd (h1.symm.trans h) (by simp)) m l}
 ·have p:valid f cnt=ZG:=by simpa using h1
  rw[gM h1];by_cases h2:200<n;{rw[p6 h2];exact oC c g cnt cap n b _ f w hn (λ_=>by omega) m l};{rw[gM h2];exact xr c g cnt cap o j n b f y w hn p (by omega) m r l _ rfl}
