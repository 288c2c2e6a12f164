import Derived.Test.YtpmnbjkjpnclaaaGreatDoorQM
import Derived.Deep.CutBlock
set_option maxRecDepth 1000000
set_option maxHeartbeats 8000000
set_option linter.unusedSimpArgs false
open Go renaming Addr.mk->Q,Value.slice->Z,Value.string->U,Value.int->N,Value.bool->ZD,Value.agg->ZH,Obj.cells->J,IntKind.i64->I,World->M,Value->ZC,Ending.returned->ZF
open Option renaming none->Y,some->T
open Bool renaming false->ZA,true->ZG
namespace Go.Proofs.YtpmnbjkjpnclaaaGreatDoor.Vp
open Tryz RowKit
variable {f:Nat->Ins}{w:M}{place steps looks n g:Nat}{b s:List ByteArray}
theorem Ad (pb po cnt la place steps looks:Nat)(f:Nat->Ins)(a:Option Addr)(s:List ByteArray)(cap b2 o2 n KV Bk:Nat)(y:Nat->aI)(w:M)
  (hP:RowIns w pb po cnt f) (hY:RowReply w b2 o2 n y) (hO:w.ownsRow Bk 9 1 (Z a s.length cap) s.length (strs s)) (hp:place<=2000) (hst:steps<=2000) (hlk:looks<=200) (hs:s.length<=50) (Lf:∀x∈s,x.size<=2000) (Lm:dD f cnt=ZG) :
  Calls Tryz.prog 156 #[ZH #[Z (T (Q pb po Y)) cnt la],ei place (Z a s.length cap) steps looks ZA 0 ⟨#[]⟩ ZA ⟨#[]⟩ ZA,Z (T (Q b2 o2 Y)) n KV] w λe w'=>∃v,e=ZF v/\SoIs w' w.heap.size v (gi f cnt y n place steps looks s)/\Below w.heap.size w w':=by
 obtain⟨so,fd⟩:∃so,so=gi f cnt y n place steps looks s:=⟨_,rfl⟩
 rw[<-fd];have S0:=ae fd;clear fd;have HP:=ae hP;have HY:=ae hY;have HO:=ae hO;have HK:=ae Lm;have HL:=ae Lf;clear hP hY hO Lm Lf;have A0:=ae ((((q9 w).alloc ly (J #[Z (T (Q pb po Y)) cnt la] 43)).alloc (by simp) (J #[N I place,Z a s.length cap,N I steps,N I looks,ZD ZA,N I 0,U ⟨#[]⟩,ZD ZA,U ⟨#[]⟩,ZD ZA] 226)).alloc (by simp<;>omega) (J #[N I 0,Z Y 0 0,N I 0,N I 0,ZD ZA,N I 0,U ⟨#[]⟩,ZD ZA,U ⟨#[]⟩,ZD ZA] 226));have R0:=ae ((lE (w.alloc (J #[Z (T (Q pb po Y)) cnt la] 43)) (N I place) (Z a s.length cap) (N I steps) (N I looks) (ZD ZA) (N I 0) (U ⟨#[]⟩) (ZD ZA) (U ⟨#[]⟩) (ZD ZA) 226 (w.heap.size+1) (by simp)).al (J #[N I 0,Z Y 0 0,N I 0,N I 0,ZD ZA,N I 0,U ⟨#[]⟩,ZD ZA,U ⟨#[]⟩,ZD ZA] 226));have Z0:=ae (lE ((w.alloc (J #[Z (T (Q pb po Y)) cnt la] 43)).alloc (J #[N I place,Z a s.length cap,N I steps,N I looks,ZD ZA,N I 0,U ⟨#[]⟩,ZD ZA,U ⟨#[]⟩,ZD ZA] 226)) (N I 0) (Z Y 0 0) (N I 0) (N I 0) (ZD ZA) (N I 0) (U ⟨#[]⟩) (ZD ZA) (U ⟨#[]⟩) (ZD ZA) 226 (w.heap.size+1+1) (by simp));go_enter func156,ntmps156;go_wp2_with fail;refine(gE place (by omega) _).mono ?_;rintro e l ⟨rfl,aq⟩;have hD:(⟨(Lib.decDigits place).toArray⟩:ByteArray)=fh place:=rfl;rw[hD];have R1:=ae (R0.aa aq (by simp<;>omega));have Z1:=ae (Z0.aa aq (by simp<;>omega));have B1:=ae (A0.trans (aq.mono (by simp<;>omega)));have pP:l.cell? (Q w.heap.size 0 Y)=T (Z (T (Q pb po Y)) cnt la):=(aq.cell (p:=(Q w.heap.size 0 Y)) (by simp<;>omega)).trans (Jy _ _ _ _ _ _ _ rfl);have O1:=ae (own_below HO B1 ly);have hz1:w.heap.size+1+1<l.heap.size:=Z1.1;have hz0:w.heap.size<l.heap.size:=by omega
 have hz01:w.heap.size+1<l.heap.size:=by omega
 clear aq A0 R0 Z0 hD;obtain⟨m,⟨c0,f0⟩,⟨c1,f1⟩,⟨c2,V⟩,⟨c3,S⟩,⟨c4,O⟩,⟨c5,f5⟩,⟨ZN,ZJ⟩,⟨ZM,R⟩,⟨G,ZL⟩,X,ZK⟩:=R1.out;rcases Int.lt_or_le (place:Int) cnt with h1|h1;rotate_left;{have S1:Hid (so=.inr (.inl (2,(fh place),steps))):=S0.trans (show gi f cnt y n place steps looks s=.inr (.inl (2,(fh place),steps)) by have h:cnt<=place:=(by omega);simp[gi,iK,dt,fw,h]);go_wp2_with fail;refine(fM _ _ _ _ _ _ _ _ _ _ _ _ _ _ _).mono ?_;rintro e w5 ⟨rfl,b⟩;have ZE:=ae (Z1.aa b Z1.1);have D:=ae (B1.trans (b.mono B1.size));clear b;clear m c0 f0 c1 f1 c2 V c3 S c4 O c5 f5 ZN ZJ ZM R G ZL X ZK;obtain⟨ld,⟨z0,y0⟩,⟨z1,y1⟩,⟨z2,y2⟩,⟨z3,y3⟩,⟨ZR,y4⟩,⟨L,y5⟩,⟨K,y6⟩,⟨ZQ,y7⟩,⟨F,y8⟩,H,y9⟩:=ZE.out;go_wp2;refine bp (v:=ei place (Z a s.length cap) steps looks ZG 2 (fh place) ZA ⟨#[]⟩ ZA) (by simp[results,RY,go_sem,z0,z1,z2,z3,ZR,L,K,ZQ,F,H]) rfl ⟨_,rfl,(by rw[S1.out];exact⟨_,_,_,_,_,rfl⟩),dY D (by omega) _ _ _ _ _ _ _ _ _ _⟩};rcases Bool.eq_false_or_eq_true ((steps:Int) == 2000) with h2|h2;{have S1:Hid (so=.inr (.inl (3,⟨#[]⟩,steps))):=S0.trans (show gi f cnt y n place steps looks s=.inr (.inl (3,⟨#[]⟩,steps)) by have h:¬ cnt<=place:=(by omega);have e:steps=2000:=(by simp at h2;omega);simp[gi,iK,dt,fw,h,e]);go_wp2_with fail;refine(fM _ _ _ _ _ _ _ _ _ _ _ _ _ _ _).mono ?_;rintro e w5 ⟨rfl,b⟩;have ZE:=ae (Z1.aa b Z1.1);have D:=ae (B1.trans (b.mono B1.size));clear b;clear m c0 f0 c1 f1 c2 V c3 S c4 O c5 f5 ZN ZJ ZM R G ZL X ZK;obtain⟨ld,⟨z0,y0⟩,⟨z1,y1⟩,⟨z2,y2⟩,⟨z3,y3⟩,⟨ZR,y4⟩,⟨L,y5⟩,⟨K,y6⟩,⟨ZQ,y7⟩,⟨F,y8⟩,H,y9⟩:=ZE.out;go_wp2;refine bp (v:=ei place (Z a s.length cap) steps looks ZG 3 ⟨#[]⟩ ZA ⟨#[]⟩ ZA) (by simp[results,RY,go_sem,z0,z1,z2,z3,ZR,L,K,ZQ,F,H]) rfl ⟨_,rfl,(by rw[S1.out];exact⟨_,_,_,_,_,rfl⟩),dY D (by omega) _ _ _ _ _ _ _ _ _ _⟩};have hi:=gR HK.out (show place<cnt by omega);simp only[aH,z8] at hi;obtain⟨op,Fm⟩:=AP (show 0<=(f place).op by omega);obtain⟨k,hk⟩:=AP hi.2.2.2.1;have LU:bO (f place).op<=2000:=by unfold bO;split<;>(try split)<;>omega
 have Ls:aE (f place).op<=2000:=by unfold aE;split<;>omega
 have LQ:k<=2000:=by omega
 have LV:(f place).s.size<=2000:=by omega
 have At:1<=op:=by omega
 have Ln:op<=15:=by omega
 have EP:Hid (so=if jV op s=ZA then .inr (.inl (2,(fh place),(steps+1))) else iK y n place (steps+1) looks (dQ op k (f place).s place looks s)):=by
  show _=_;rw[S0.out];have q1:¬ cnt<=place:=by omega
  have q2:¬ steps=2000:=by simp at h2;omega
  simp only[gi,dt,fw,q1,q2,WW,Fm,hk,Int.toNat_natCast];split<;>rfl
 clear hi LU Ls HK;obtain⟨d0,d1,d2⟩:=(HP.aa B1 ly).2 place (by omega);rw[Fm] at d0;rw[hk] at d2;have hpb:pb<w.heap.size:=HP.1;have Lv:=(cell_far l (Q (w.heap.size+1) 2 Y) (Q pb (po+place*3) Y) (N I ((steps:Int)+1)) (by simp;omega)).trans d0;have LH:=(cell_far l (Q (w.heap.size+1) 2 Y) (Q pb (po+place*3+1) Y) (N I ((steps:Int)+1)) (by simp;omega)).trans d1;have LX:=(cell_far l (Q (w.heap.size+1) 2 Y) (Q pb (po+place*3+2) Y) (N I ((steps:Int)+1)) (by simp;omega)).trans d2;have Lg:∀j,w.heap.size<=j->Value.ownBlock (Z a s.length cap)≠T j:=λj hj e=>by have:=(HO.lt j e).2;omega
 have R2:=ae ((R1.set2 (N I ((steps:Int)+1))).al (J #[N I op,U (f place).s,N I k] 151));have Z2:=ae ((Z1.other (Q (w.heap.size+1) 2 Y) (N I ((steps:Int)+1)) (by simp)).al (J #[N I op,U (f place).s,N I k] 151));have O2:=ae ((VQ O1 (a:=(Q (w.heap.size+1) 2 Y)) (Lg _ (by simp)) (N I ((steps:Int)+1))).alloc (J #[N I op,U (f place).s,N I k] 151));have B2:=ae ((B1.setCell (p:=(Q (w.heap.size+1) 2 Y)) (by simp) (N I ((steps:Int)+1))).alloc (by have:=B1.size;simpa using this) (J #[N I op,U (f place).s,N I k] 151));have g0:((l.setCell (Q (w.heap.size+1) 2 Y) (N I ((steps:Int)+1))).alloc (J #[N I op,U (f place).s,N I k] 151)).cell? (Q l.heap.size 0 Y)=T (N I op):=jk _ _ _ _ _ _ (by simp) rfl;have g1:((l.setCell (Q (w.heap.size+1) 2 Y) (N I ((steps:Int)+1))).alloc (J #[N I op,U (f place).s,N I k] 151)).cell? (Q l.heap.size 1 Y)=T (U (f place).s):=jk _ _ _ _ _ _ (by simp) rfl;have g2:((l.setCell (Q (w.heap.size+1) 2 Y) (N I ((steps:Int)+1))).alloc (J #[N I op,U (f place).s,N I k] 151)).cell? (Q l.heap.size 2 Y)=T (N I k):=jk _ _ _ _ _ _ (by simp) rfl;have mv:l.heap.size<((l.setCell (Q (w.heap.size+1) 2 Y) (N I ((steps:Int)+1))).alloc (J #[N I op,U (f place).s,N I k] 151)).heap.size:=by simp
 clear Lg;go_wp2_with fail;refine(xq op _ At Ln).mono ?_;rintro e w9 ⟨rfl,Md⟩;subst Md;clear m c0 f0 c1 f1 c2 V c3 S c4 O c5 f5 ZN ZJ ZM R G ZL X ZK;clear d0 d1 d2 Lv LH LX Fm hk pP;generalize World.alloc (World.setCell l _ _) _=W at R2 Z2 O2 B2 g0 g1 g2 mv ⊢;obtain⟨m,⟨c0,f0⟩,⟨c1,f1⟩,⟨c2,V⟩,⟨c3,S⟩,⟨c4,O⟩,⟨c5,f5⟩,⟨ZN,ZJ⟩,⟨ZM,R⟩,⟨G,ZL⟩,X,ZK⟩:=R2.out;have hpt:=Fl op;have LF:ba op<=2:=by unfold ba;split<;>(try split)<;>omega
 by_cases hb:jV op s=ZA
 ·have S1:Hid (so=.inr (.inl (2,(fh place),(steps+1)))):=by rw[EP.out,p6 hb];rfl
  have hA:(s.length:Int)<(ba op:Nat)∨¬ (s.length:Int)<(ba op:Nat)/\(50:Int)<(s.length:Int) - (ba op:Nat)+(cB op:Nat):=by simp only[jV,PH] at hb;omega
  clear hb EP;rcases hA with hA|⟨hA,Le⟩
  iterate 2
   ·go_wp2_with fail
    refine(fM _ _ _ _ _ _ _ _ _ _ _ _ _ _ _).mono ?_;rintro e w5 ⟨rfl,b⟩;have ZE:=ae (Z2.aa b Z2.1);have D:=ae (B2.trans (b.mono B2.size));clear b;clear m c0 f0 c1 f1 c2 V c3 S c4 O c5 f5 ZN ZJ ZM R G ZL X ZK;obtain⟨ld,⟨z0,y0⟩,⟨z1,y1⟩,⟨z2,y2⟩,⟨z3,y3⟩,⟨ZR,y4⟩,⟨L,y5⟩,⟨K,y6⟩,⟨ZQ,y7⟩,⟨F,y8⟩,H,y9⟩:=ZE.out;go_wp2;refine bp (v:=ei place (Z a s.length cap) ((steps:Int)+1) looks ZG 2 (fh place) ZA ⟨#[]⟩ ZA) (by simp[results,RY,go_sem,z0,z1,z2,z3,ZR,L,K,ZQ,F,H]) rfl ⟨_,rfl,(by rw[S1.out];exact⟨_,_,_,_,_,rfl⟩),dY D (by omega) _ _ _ _ _ _ _ _ _ _⟩
 have Lc:ba op<=s.length/\s.length - ba op+cB op<=50:=by simpa[jV] using hb
 have hA:¬ (s.length:Int)<(ba op:Nat):=by omega
 have Le:¬ (50:Int)<(s.length:Int) - (ba op:Nat)+(cB op:Nat):=by omega
 have SO:Hid (so=iK y n place (steps+1) looks (dQ op k (f place).s place looks s)):=by rw[EP.out,gM hb];rfl
 have HB:=ae Lc.1;have Lz:(s.drop (ba op)).length+cB op<=50:=by rw[LK];omega
 clear hb Lc EP;obtain⟨A,Ll⟩:∃A,A=mz op s:=⟨_,rfl⟩
 obtain⟨B,aq⟩:∃B,B=ry op s:=⟨_,rfl⟩
 obtain⟨r,n9⟩:∃r,r=s.drop (ba op):=⟨_,rfl⟩
 rw[<-n9] at Lz;have EA:=ae Ll;have EB:=ae aq;have ER:=ae n9;clear S0 Ll aq n9;go_upto_if 68 with fail;go_cut [11] (λsa ZO=>sa=U A/\W=ZO);case first =>
  by_cases ht:(0:Int)<(ba op:Nat)
  ·rcases s with _|⟨x,q⟩
   {exact absurd HB.out (by simp;omega)}
   ·obtain⟨g,c,e⟩:=dr O2 (by simp);obtain⟨rfl,-⟩:=TU e;have t1:=Ia O2.out;have LG:q.length<=50:=by simp at hs;omega
    obtain rfl:A=x:=by rw[EA.out];unfold mz;rw[p6 (by omega)];rfl
    rw[eL] at c1;go_wp2;go_meet;exact⟨rfl,rfl⟩
  ·obtain rfl:A=⟨#[]⟩:=by rw[EA.out];unfold mz;rw[gM (by omega)]
   go_wp2;go_meet;exact⟨rfl,rfl⟩
 case rest =>
 obtain⟨rfl,rfl⟩:=hcut;go_upto_if 78 with fail;go_cut [12] (λsa ZO=>sa=U B/\W=ZO);case first =>
  by_cases ht:(1:Int)<(ba op:Nat)
  ·rcases s with _|⟨x,_|⟨z,q⟩⟩
   {exact absurd HB.out (by simp;omega)};{exact absurd HB.out (by simp;omega)}
   ·obtain⟨g,c,e⟩:=dr O2 (by simp);obtain⟨rfl,-⟩:=TU e;obtain⟨t1,t2⟩:=Ib O2;have LG:q.length+1<=50:=by simp at hs;omega
    obtain rfl:B=z:=by rw[EB.out];unfold ry;rw[p6 (by omega)];rfl
    rw[eL,eL] at c1;go_wp2;go_meet;exact⟨rfl,rfl⟩
  ·obtain rfl:B=⟨#[]⟩:=by rw[EB.out];unfold ry;rw[gM (by omega)]
   go_wp2;go_meet;exact⟨rfl,rfl⟩
 case rest =>
 obtain⟨rfl,rfl⟩:=hcut;have hl:s.length=r.length+ba op:=by rw[ER.out,LK];have:=HB.out;omega
 go_upto_region 17 with fail;go_cut [13] (λsr ZO=>∃P cr,sr=Z (T (Q P 0 Y)) r.length cr/\W.heap.size<=P/\Hid (ZO.ownsRow W.heap.size 9 1 (Z (T (Q P 0 Y)) r.length cr) r.length (strs r))/\Hid (Below W.heap.size W ZO));case first =>
  rcases Cn O2.out with ⟨rfl,hz,rfl⟩|⟨g,rfl⟩
  ·obtain rfl:s=[]:=PT.1 hz;obtain rfl:r=[]:=by rw[ER.out];simp
   have Ld:ba op=0:=by simpa using HB.out
   have h0:((ba op:Nat):Int)=0:=by rw[Ld];rfl
   have hw3:-((ba op:Nat):Int)=0:=by rw[h0];decide
   have hw4:0 - ((ba op:Nat):Int)=0:=by rw[h0];decide
   clear h0 Ld hl;have AL:=ae ((q9 W).alloc ly (J #[] 9));have OM:=ae (P3 (base:=W.heap.size) (e:=9) (size:=1) W #[] 0 ly (by unfold maxLen;omega) rfl);go_wp2;go_meet;exact⟨_,_,rfl,n6 _,OM,AL⟩
  ·have hcap:(r.length:Int)<=cap:=by have:=Ic O2.out;omega
   have Lr:Hid (∀j u,(strs r)[j]?=T u->(W.alloc (J #[] 9)).cell? (((Q g 0 Y):Addr).add j)=T u):=Ie (xs:=strs (s.take (ba op))) (by
    have h:=O2.alloc (J #[] 9);rw[ER.out,<-Fq,PQ]
    exact h)
   obtain⟨t,ht⟩:∃t,t=ba op:=⟨_,rfl⟩
   rw[<-ht] at hl LF ⊢;rw[hl] at c1 hs;have HS:=ae hs;have HL:=ae hl;clear hs hl;obtain⟨KZ,hi,La,Hx,JT⟩:=OB lK;go_wp2_with (at_builtin;refine BS _ rfl (.tmp 87) (.tmp 95) 30 rfl W.heap.size 9 KZ (U ⟨#[]⟩) 1 16 IB hi La Hx JT rfl (by decide) (Z (T (Q W.heap.size 0 Y)) 0 0) 0 [] (by simp[Act.eval]) (P3 W #[] 0 ly (by unfold maxLen;omega) rfl) (Q g 0 Y) r.length cap (strs r) (by simp[Act.eval]) (by simp[strs]) Lr.out (Fj _) (by unfold maxLen;omega) (by omega) (by simp) ?_;intro v' w2 qr Fd GS;simp only[FM,LY] at qr;obtain⟨P,cr,rfl,Lo⟩:=sL qr (λe=>by simpa using GS.1 e);have B3:=ae (bg ((q9 W).alloc ly (J #[] 9)) Fd (by simp) (λj e=>by simp[Value.ownBlock] at e;omega));have DS:=ae qr;clear qr Fd GS);go_meet;exact⟨P,cr,rfl,Lo,DS,B3⟩
 case rest =>
 clear hl hA Le;obtain⟨P,cr,rfl,Lo,DS,B3⟩:=hcut;have DH:w.heap.size<=W.heap.size:=B2.size;have n9:w.heap.size+1<W.heap.size:=R2.1;have DQ:w.heap.size+1+1<W.heap.size:=Z2.1;have Id:w.heap.size+1≠P:=by omega
 have Mb:W.heap.size<=wc.heap.size:=B3.size;clear m c0 f0 c1 f1 c2 V c3 S c4 O c5 f5 ZN ZJ ZM R G ZL X ZK;have R3:=ae (R2.aa B3 R2.1);have Z3:=ae (Z2.aa B3 Z2.1);have G0:=(B3.cell (p:=(Q l.heap.size 0 Y)) mv).trans g0;have G1:=(B3.cell (p:=(Q l.heap.size 1 Y)) mv).trans g1;have G2:=(B3.cell (p:=(Q l.heap.size 2 Y)) mv).trans g2;have R4:=ae (R3.set0 (N I ((place:Int)+1)));have Z4:=ae (Z3.other (Q (w.heap.size+1) 0 Y) (N I ((place:Int)+1)) (by simp));have B4:=ae ((B2.trans (B3.mono B2.size)).setCell (p:=(Q (w.heap.size+1) 0 Y)) (by simp) (N I ((place:Int)+1)));have O4:=ae (dZ DS Id (N I ((place:Int)+1)) 0);have H0:=(cell_far _ (Q (w.heap.size+1) 0 Y) (Q l.heap.size 0 Y) (N I ((place:Int)+1)) (by simp;omega)).trans G0;have H1:=(cell_far _ (Q (w.heap.size+1) 0 Y) (Q l.heap.size 1 Y) (N I ((place:Int)+1)) (by simp;omega)).trans G1;have H2:=(cell_far _ (Q (w.heap.size+1) 0 Y) (Q l.heap.size 2 Y) (N I ((place:Int)+1)) (by simp;omega)).trans G2;have bt:W.heap.size<=(wc.setCell (Q (w.heap.size+1) 0 Y) (N I ((place:Int)+1))).heap.size:=by simpa using Mb
 obtain⟨LP,⟨e0,v0⟩,⟨e1,v1⟩,⟨e2,v2⟩,⟨e3,v3⟩,⟨e4,v4⟩,⟨e5,v5⟩,⟨e6,v6⟩,⟨e7,v7⟩,⟨e8,v8⟩,e9,v9⟩:=R3.out;go_upto_block 0 with fail;clear LP e0 v0 e1 v1 e2 v2 e3 v3 e4 v4 e5 v5 e6 v6 e7 v7 e8 v8 e9 v9;clear g0 g1 g2 G0 G1 G2 B3 R3 Z3 DS R2 Z2 O2;generalize World.setCell wc _ _=W5 at R4 Z4 B4 O4 H0 H1 H2 bt ⊢;obtain⟨LZ,Lt⟩:A.size<=2000/\B.size<=2000:=by rw[EA.out,EB.out];exact vm HL op
 obtain⟨C,Lj⟩:∃C,C=nA op k A place:=⟨_,rfl⟩
 have th:=ae Lj;clear Lj;go_cut [] (λZO=>op<=11/\Hid (Ten ZO (w.heap.size+1) (N I C) (Z a s.length cap) (N I ((steps:Int)+1)) (N I looks) (ZD ZA) (N I 0) (U ⟨#[]⟩) (ZD ZA) (U ⟨#[]⟩) (ZD ZA))/\Hid (Ten ZO (w.heap.size+1+1) (N I 0) (Z Y 0 0) (N I 0) (N I 0) (ZD ZA) (N I 0) (U ⟨#[]⟩) (ZD ZA) (U ⟨#[]⟩) (ZD ZA))/\Hid (Below w.heap.size w ZO)/\Hid (ZO.ownsRow W.heap.size 9 1 (Z (T (Q P 0 Y)) r.length cr) r.length (strs r))/\ZO.cell? (Q l.heap.size 0 Y)=T (N I op)/\ZO.cell? (Q l.heap.size 1 Y)=T (U (f place).s)/\ZO.cell? (Q l.heap.size 2 Y)=T (N I k)/\W.heap.size<=ZO.heap.size);case first =>
  obtain⟨m,⟨c0,f0⟩,⟨c1,f1⟩,⟨c2,V⟩,⟨c3,S⟩,⟨c4,O⟩,⟨c5,f5⟩,⟨ZN,ZJ⟩,⟨ZM,R⟩,⟨G,ZL⟩,X,ZK⟩:=R4.out;rcases Ii op A Ln with rfl|rfl|rfl|rfl|rfl|⟨rfl,q1⟩|⟨rfl,q1,q2⟩|⟨rfl,q1,q2⟩|h9;{go_wp2_with fail;refine(fM _ _ _ _ _ _ _ _ _ _ _ _ _ _ _).mono ?_;rintro e w5 ⟨rfl,b⟩;have ZE:=ae (Z4.aa b Z4.1);have D:=ae (B4.trans (b.mono B4.size));clear b;clear m c0 f0 c1 f1 c2 V c3 S c4 O c5 f5 ZN ZJ ZM R G ZL X ZK;obtain⟨ld,⟨z0,y0⟩,⟨z1,y1⟩,⟨z2,y2⟩,⟨z3,y3⟩,⟨ZR,y4⟩,⟨L,y5⟩,⟨K,y6⟩,⟨ZQ,y7⟩,⟨F,y8⟩,H,y9⟩:=ZE.out;go_wp2;refine bp (v:=ei ((place:Int)+1) (Z a s.length cap) ((steps:Int)+1) looks ZG 0 A ZA ⟨#[]⟩ ZA) (by simp[results,RY,go_sem,z0,z1,z2,z3,ZR,L,K,ZQ,F,H]) rfl ⟨_,rfl,(by rw[SO.out,yv _ _ _ _ _ _ _ _ _ (by simp) HB.out,<-EA.out];exact⟨_,_,_,_,_,rfl⟩),dY D (by omega) _ _ _ _ _ _ _ _ _ _⟩};{go_wp2_with fail;refine(fM _ _ _ _ _ _ _ _ _ _ _ _ _ _ _).mono ?_;rintro e w5 ⟨rfl,b⟩;have ZE:=ae (Z4.aa b Z4.1);have D:=ae (B4.trans (b.mono B4.size));clear b;clear m c0 f0 c1 f1 c2 V c3 S c4 O c5 f5 ZN ZJ ZM R G ZL X ZK;obtain⟨ld,⟨z0,y0⟩,⟨z1,y1⟩,⟨z2,y2⟩,⟨z3,y3⟩,⟨ZR,y4⟩,⟨L,y5⟩,⟨K,y6⟩,⟨ZQ,y7⟩,⟨F,y8⟩,H,y9⟩:=ZE.out;go_wp2;refine bp (v:=ei ((place:Int)+1) (Z a s.length cap) ((steps:Int)+1) looks ZG 1 A ZA ⟨#[]⟩ ZA) (by simp[results,RY,go_sem,z0,z1,z2,z3,ZR,L,K,ZQ,F,H]) rfl ⟨_,rfl,(by rw[SO.out,yv _ _ _ _ _ _ _ _ _ (by simp) HB.out,<-EA.out];exact⟨_,_,_,_,_,rfl⟩),dY D (by omega) _ _ _ _ _ _ _ _ _ _⟩};iterate 2
   ·go_wp2_with fail
    have Z5:=ae (Z4.other (Q (w.heap.size+1) 1 Y) (Z (T (Q P 0 Y)) r.length cr) (by simp));have D:=ae (B4.setCell (p:=(Q (w.heap.size+1) 1 Y)) (by simp) (Z (T (Q P 0 Y)) r.length cr));have O5:=ae (dZ O4 Id (Z (T (Q P 0 Y)) r.length cr) 1);have Y5:=ae (HY.aa D ly);have hq:=λ(o:Nat) (ho:o=12∨o=13)=>zZ o (f place).s k (place+1) (steps+1) looks (T (Q P 0 Y)) cr r A (fh place) b2 o2 n KV W.heap.size y _ Y5 O5 (by simpa using bt) ho hlk (by omega);rw[show((place+1:Nat):Int)=(place:Int)+1 by omega,show((steps+1:Nat):Int)=(steps:Int)+1 by omega] at hq;refine(hq _ (by simp)).mono ?_;rintro e w5 ⟨v,rfl,fd,b⟩;have LI:=ae fd;obtain⟨l0,l1,l2,l3,l4,l5,l6,l7,l8,l9,Mc,Ly,rfl⟩:=fd.av;have ZE:=ae (Z5.aa b DQ);have B6:=ae (D.trans (b.mono DH));clear b hq fd;clear m c0 f0 c1 f1 c2 V c3 S c4 O c5 f5 ZN ZJ ZM R G ZL X ZK;obtain⟨ld,⟨z0,y0⟩,⟨z1,y1⟩,⟨z2,y2⟩,⟨z3,y3⟩,⟨ZR,y4⟩,⟨L,y5⟩,⟨K,y6⟩,⟨ZQ,y7⟩,⟨F,y8⟩,H,y9⟩:=ZE.out;go_wp2;refine bp (v:=ei l0 (Z l1 l2 l3) l4 l5 l6 l7 l8 l9 Mc Ly) (by simp[results,RY,go_sem,z0,z1,z2,z3,ZR,L,K,ZQ,F,H]) rfl ⟨_,rfl,(by rw[SO.out,Ij _ _ _ _ _ _ _ _ _ (by simp) HB.out,<-EA.out,<-ER.out];exact(Cl LI DQ _ _ _ _ _ _ _ _ _ _).mono DH),dY B6 (by omega) _ _ _ _ _ _ _ _ _ _⟩
  iterate 3
   ·obtain rfl:C=k:=th.trans (KH (by first|exact .inl rfl|exact .inr (.inl ⟨rfl,q1⟩)|exact .inr (.inr ⟨rfl,q2⟩)))
    have R5:=ae (R4.set0 (N I C));have Z5:=ae (Z4.other (Q (w.heap.size+1) 0 Y) (N I C) (by simp));have D:=ae (B4.setCell (p:=(Q (w.heap.size+1) 0 Y)) (by simp) (N I C));have O5:=ae (dZ O4 Id (N I C) 0);have I0:=(cell_far _ (Q (w.heap.size+1) 0 Y) (Q l.heap.size 0 Y) (N I (C:Int)) (by simp;omega)).trans H0;have I1:=(cell_far _ (Q (w.heap.size+1) 0 Y) (Q l.heap.size 1 Y) (N I (C:Int)) (by simp;omega)).trans H1;have I2:=(cell_far _ (Q (w.heap.size+1) 0 Y) (Q l.heap.size 2 Y) (N I (C:Int)) (by simp;omega)).trans H2;have HI:=ae I0;have LJ:=ae I1;have Lu:=ae I2;clear I0 I1 I2;go_wp2;go_meet;exact⟨by omega,R5,Z5,D,O5,HI,LJ,Lu,by simpa using bt⟩
  ·obtain rfl:C=place+1:=by rw[th.out];unfold nA;rw[gM (by decide),gM (λh=>h.2.elim (λe=>by rw[e] at q1;cases q1) (λe=>by rw[e] at q2;cases q2))]
   go_wp2;go_meet;exact⟨by omega,by show Ten _ _ _ _ _ _ _ _ _ _ _ _;rw[show((place+1:Nat):Int)=(place:Int)+1 by omega];exact R4,Z4,B4,O4,H0,H1,H2,bt⟩
  ·obtain rfl:C=place+1:=by rw[th.out];unfold nA;rw[gM (by omega),gM (by omega)]
   have n15:((op:Int) == 15)=ZA:=by simp;omega
   have n14:((op:Int) == 14)=ZA:=by simp;omega
   have n12:((op:Int) == 12)=ZA:=by simp;omega
   have n13:((op:Int) == 13)=ZA:=by simp;omega
   have n10:((op:Int) == 10)=ZA:=by simp;omega
   have n11:((op:Int) == 11)=ZA:=by simp;omega
   go_wp2;go_meet;exact⟨by omega,by show Ten _ _ _ _ _ _ _ _ _ _ _ _;rw[show((place+1:Nat):Int)=(place:Int)+1 by omega];exact R4,Z4,B4,O4,H0,H1,H2,bt⟩
 case rest =>
 clear R4 Z4 B4 O4 H0 H1 H2 bt;obtain⟨Lb,R4,Z4,B4,O4,G0,G1,G2,bt⟩:=hcut;obtain⟨ZP,DE⟩:∃ZP,ZP=bT op k (f place).s A B:=⟨_,rfl⟩
 have ph:Hid (ZP=bT op k (f place).s A B/\ZP.length=cB op):=⟨DE,by rw[DE];exact Aa _ _ _ _ _ At Lb⟩
 have Lq:Hid (so=gP ZP (fh place) r C (steps+1) looks):=by show _=_;rw[SO.out,Fs _ _ _ _ _ _ _ _ _ At Lb HB.out LV HL.out,DE,<-EA.out,<-EB.out,<-ER.out,<-th.out]
 clear DE SO EA EB ER th;go_wp2_with fail;go_loopw [13,14] (λrest i wr=>∃j:Nat,j<=cB op/\i=N I j/\∃g6 cx,rest=Z (T (Q g6 0 Y)) (r.length+j) cx/\Hid (wr.ownsRow W.heap.size 9 1 (Z (T (Q g6 0 Y)) (r.length+j) cx) (r.length+j) (strs r++(ZP.take j).map Value.string))/\Hid (Below W.heap.size wc wr)/\Hid (∀i,i<j->(ZP.getD i ⟨#[]⟩).size<=2000)) (λ_ i _=>cB op - (intOf i).toNat);case atStart=>exact⟨0,by omega,rfl,P,cr,rfl,(by show World.ownsRow _ _ _ _ _ _ _;rw[List.take_zero,PX,WK];exact O4),dB _ _,λi hi=>absurd hi (PS _)⟩
 case round =>
  obtain⟨j,hj,rfl,g6,cx,rfl,O6,B6,S6⟩:=hrel;have R6:=ae (R4.aa B6 n9);have Z6:=ae (Z4.aa B6 DQ);have i0:=(B6.cell (p:=(Q l.heap.size 0 Y)) mv).trans G0;have i1:=(B6.cell (p:=(Q l.heap.size 1 Y)) mv).trans G1;have i2:=(B6.cell (p:=(Q l.heap.size 2 Y)) mv).trans G2;have Lh:W.heap.size<=wr.heap.size:=p7 bt B6.size;have B7:=ae (B4.trans (B6.mono DH));by_cases Fn:j<cB op
  ·have h8:op<=8:=Ig At Lb Fn;have Lp:j<ZP.length:=by rw[ph.2];exact Fn
   go_wp2_with fail;refine(xr op k (f place).s A B _ At h8 LZ Lt LQ).mono ?_;rintro e w6 ⟨g7,rfl,ro,Lx,dg⟩;rw[<-ph.1] at ro ⊢;rw[ph.2] at ro ⊢;have q6:w6.cell? (Q g7 j Y)=T (U (ZP.getD j ⟨#[]⟩)):=by have:=ro.2 j Fn;rwa[FM] at this
   obtain⟨E,hE⟩:∃E,E=ZP.getD j ⟨#[]⟩:=⟨_,rfl⟩
   rw[<-hE] at q6;have HE:=ae hE;clear hE;have O7:=ae (own_below O6 dg ly);have B8:=ae (B6.trans (dg.mono Lh));have Lw:W.heap.size<=w6.heap.size:=p7 Lh dg.size;have R7:=ae (R6.aa dg R6.1);have Z7:=ae (Z6.aa dg Z6.1);have B9:=ae (B7.trans (dg.mono B7.size));clear ro Lx dg i0 i1 i2 R6 Z6;by_cases Ma:(E.size:Int)<=2000
   ·obtain⟨KZ,hi,La,Hx,JT⟩:=OB lK;go_wp2_with (at_builtin;refine BS _ rfl (.tmp 158) (.tmp 163) 30 rfl W.heap.size 9 KZ (U ⟨#[]⟩) 1 16 IB hi La Hx JT rfl (by decide) (Z (T (Q g6 0 Y)) (r.length+j) cx) (r.length+j) (strs r++(ZP.take j).map Value.string) (by simp[Act.eval]) (O7.alloc _) (Q w6.heap.size 0 Y) 1 1 [U E] (by simp[Act.eval]) rfl (cu w6 _ _) (by simp[Value.oneCell']) (by unfold maxLen;omega) (by omega) (by simp<;>omega) ?_;intro v' w7 sm ur Fk;obtain⟨g8,G,rfl,hg8⟩:=sL sm (λe=>by simpa using Fk.1 e);have O8:=ae sm;have L9:=ae (bg (B8.alloc Lw (J #[U E] 9)) ur (by simp<;>omega) (λi e=>(O7.lt i e).1));clear sm ur Fk)
    exact⟨⟨j+1,by omega,by go_num,g8,G,rfl,by show World.ownsRow _ _ _ _ _ _ _;rw[Cm Lp,<-OV,<-HE.out];exact O8,L9,λi hi=>by
     by_cases e:i=j;{subst e;rw[<-HE.out];omega}
     ·exact S6 i (by omega)⟩,by simp[intOf];omega⟩
   {have ER:=ae (show so=.inr (.inl (2,(fh place),(steps+1))) by rw[Lq.out];unfold gP;rw[Ih Lp (by rw[<-HE.out];exact Ma)];rfl);obtain⟨m,⟨c0,f0⟩,⟨c1,f1⟩,⟨c2,V⟩,⟨c3,S⟩,⟨c4,O⟩,⟨c5,f5⟩,⟨ZN,ZJ⟩,⟨ZM,R⟩,⟨G,ZL⟩,X,ZK⟩:=R7.out;go_wp2_with fail;refine(fM _ _ _ _ _ _ _ _ _ _ _ _ _ _ _).mono ?_;rintro e w5 ⟨rfl,b⟩;have ZE:=ae (Z7.aa b Z7.1);have D:=ae (B9.trans (b.mono B9.size));clear b;clear m c0 f0 c1 f1 c2 V c3 S c4 O c5 f5 ZN ZJ ZM R G ZL X ZK;obtain⟨ld,⟨z0,y0⟩,⟨z1,y1⟩,⟨z2,y2⟩,⟨z3,y3⟩,⟨ZR,y4⟩,⟨L,y5⟩,⟨K,y6⟩,⟨ZQ,y7⟩,⟨F,y8⟩,H,y9⟩:=ZE.out;go_wp2;refine bp (v:=ei C (Z a s.length cap) ((steps:Int)+1) looks ZG 2 (fh place) ZA ⟨#[]⟩ ZA) (by simp[results,RY,go_sem,z0,z1,z2,z3,ZR,L,K,ZQ,F,H]) rfl ⟨_,rfl,(by rw[ER.out];exact⟨_,_,_,_,_,rfl⟩),dY D (by omega) _ _ _ _ _ _ _ _ _ _⟩}
  ·have e:j=cB op:=by omega
   subst e;have ER:=ae (show so=.inl (C,(steps+1),looks,(ZP.reverse++r)) by rw[Lq.out];unfold gP;rw[Fp (λi hi=>S6.out i (by rw[ph.2] at hi;exact hi))];rfl);have Li:=ae (show(ZP.reverse++r).length=r.length+cB op by rw[cM,List.length_reverse,ph.2];omega);obtain⟨m,⟨c0,f0⟩,⟨c1,f1⟩,⟨c2,V⟩,⟨c3,S⟩,⟨c4,O⟩,⟨c5,f5⟩,⟨ZN,ZJ⟩,⟨ZM,R⟩,⟨G,ZL⟩,X,ZK⟩:=R6.out;obtain⟨ld,⟨z0,y0⟩,⟨z1,y1⟩,⟨z2,y2⟩,⟨z3,y3⟩,⟨ZR,y4⟩,⟨L,y5⟩,⟨K,y6⟩,⟨ZQ,y7⟩,⟨F,y8⟩,H,y9⟩:=Z6.out;have OE:=ae (VR O6 (a:=(Q (w.heap.size+1) 1 Y)) n9 (Z (T (Q g6 0 Y)) (r.length+cB op) cx));have BE:=ae (B7.setCell (p:=(Q (w.heap.size+1) 1 Y)) (by simp) (Z (T (Q g6 0 Y)) (r.length+cB op) cx));go_wp2;refine bp (v:=ei C (Z (T (Q g6 0 Y)) (r.length+cB op) cx) ((steps:Int)+1) looks ZA 0 ⟨#[]⟩ ZA ⟨#[]⟩ ZA) (by simp[results,RY,go_sem,z0,z1,z2,z3,ZR,L,K,ZQ,F,H]) rfl ⟨_,rfl,?_,dY BE (by omega) _ _ _ _ _ _ _ _ _ _⟩;rw[ER.out];refine(Cl (v:=ei C (Z (T (Q g6 0 Y)) (r.length+cB op) cx) ((steps:Int)+1) looks ZA 0 ⟨#[]⟩ ZA ⟨#[]⟩ ZA) (base:=W.heap.size) ?_ DQ _ _ _ _ _ _ _ _ _ _).mono DH;refine⟨T (Q g6 0 Y),cx,by rw[Li.out];simp,?_⟩;rw[Li.out,Fo];have h:=OE.out;rw[show ZP.take (cB op)=ZP by rw[<-ph.2];exact List.take_length] at h;exact h
def JA (f:Nat->Ins)(cnt:Nat)(y:Nat->aI)(n:Nat)(ZM:Turn)(st:Nat):SO->Prop
 |.inr (.inl (c,x,k))=>ZM=fY c x k
 |.inr (.inr (a,nm,k))=>ZM=nW a nm k
 |.inl (p,k,l,s)=>k=st+1/\k<=2000/\dn f cnt y n (2001 - k) p k l s=ZM/\p<=2000/\l<=200/\s.length<=50/\∀x∈s,x.size<=2000
theorem xt{cnt:Nat}(h:b.length<=50)(g:∀x∈b,x.size<=2000)(hlk:looks<=200)(c:dD f cnt=ZG)(hc:cnt<=200):kV (dt f cnt place steps looks b) looks:=by
 unfold dt;split;{trivial}
 ·rename_i h1;split;{trivial}
  ·split;{trivial}
   ·rename_i h3;have hi:=gR c (show place<cnt by omega);simp only[aH,z8] at hi;obtain⟨i1,i2,i3,i4,i5⟩:=hi;have hmt:bO (f place).op<=2000:=by unfold bO;split<;>(try split)<;>omega
    have hmt2:aE (f place).op<=2000:=by unfold aE;split<;>omega
    exact mO _ _ _ _ _ _ h g (by omega) (by omega) (by omega) hlk (by omega) (by omega) (by simpa using h3)
theorem xu{cnt:Nat}{a:Bool}{nm:ByteArray}(h:dt f cnt place steps looks b=.inr (.inr (a,nm,s))):place<cnt:=by
 unfold dt at h;split at h;{cases h};{omega}
theorem Ik{cnt:Nat}{y:Nat->aI}{ZM:Turn}{p st l:Nat}(hst:st<=2000)(t:l<=200)(z:s.length<=50)(r:∀x∈s,x.size<=2000)(o:dD f cnt=ZG)(C:cnt<=200)(B:bU y n=ZG)
  (b:dn f cnt y n (2001 - st) p st l s=ZM):JA f cnt y n ZM st (gi f cnt y n p st l s):=by
 obtain⟨j,A⟩:∃j,2001 - st=j+1:=⟨2000 - st,by omega⟩
 rw[A,dn] at b;have hF:=xt (place:=p) (steps:=st) z r t o C;unfold gi;rcases h:dt f cnt p st l s with ⟨D,p'⟩|⟨c,x⟩|⟨a,nm,D⟩
 {rw[h] at b hF;obtain⟨m,u⟩:=uV h;obtain⟨f1,i,q⟩:=hF;simp only[m] at b ⊢;exact⟨rfl,by omega,by rw[show 2001 - (st+1)=j by omega];exact b,q,t,f1,i⟩};{rw[h] at b;exact b.symm};{rw[h] at b hF;obtain⟨m,u⟩:=qv h;obtain⟨f1,i,q,f4⟩:=hF;have hp:=xu h;simp only[m] at b ⊢;simp only[iK,kI];by_cases h1:n<=l;{rw[p6 h1] at b ⊢;exact b.symm};{rw[gM h1] at b ⊢;by_cases h2:a=ZA;{rw[p6 h2] at b ⊢;refine⟨rfl,by omega,by rw[show 2001 - (st+1)=j by omega];exact b,by omega,by omega,by simp;omega,λx g=>?_⟩;rcases AT.1 g with rfl|g;{exact my _};{exact i x g}};{rw[gM h2] at b ⊢;by_cases h3:(y l).has=ZA;{rw[p6 h3] at b ⊢;exact b.symm};{rw[gM h3] at b ⊢;by_cases h4:(y l).E=0;{rw[p6 h4] at b ⊢;refine⟨rfl,by omega,by rw[show 2001 - (st+1)=j by omega];exact b,by omega,by omega,by simp;omega,λx g=>?_⟩;rcases AT.1 g with rfl|g;{exact(ES B (show l<n by omega)).1};{exact i x g}};{rw[gM h4] at b ⊢;exact b.symm}}}}}
theorem Ten.put{c m i b j p n f o l:ZC}(h:Ten w g c m i b j p n f o l)(u0 u1 u2 u3 u4 u5 u6 u7 u8 u9:ZC):Ten ((((((((((w.setCell (Q g 0 Y) u0).setCell (Q g 1 Y) u1).setCell (Q g 2 Y) u2).setCell (Q g 3 Y) u3).setCell (Q g 4 Y) u4).setCell (Q g 5 Y) u5).setCell (Q g 6 Y) u6).setCell (Q g 7 Y) u7).setCell (Q g 8 Y) u8).setCell (Q g 9 Y) u9) g u0 u1 u2 u3 u4 u5 u6 u7 u8 u9 :=
 (((((((((h.set0 u0).set1 u1).set2 u2).set3 u3).set4 u4).set5 u5).set6 u6).set7 u7).set8 u8).set9 u9
theorem pr{u:M}(h:Only g u w)(u0 u1 u2 u3 u4 u5 u6 u7 u8 u9:ZC):Only g u ((((((((((w.setCell (Q g 0 Y) u0).setCell (Q g 1 Y) u1).setCell (Q g 2 Y) u2).setCell (Q g 3 Y) u3).setCell (Q g 4 Y) u4).setCell (Q g 5 Y) u5).setCell (Q g 6 Y) u6).setCell (Q g 7 Y) u7).setCell (Q g 8 Y) u8).setCell (Q g 9 Y) u9) :=
 iA (iA (iA (iA (iA (iA (iA (iA (iA (iA h 0 u0) 1 u1) 2 u2) 3 u3) 4 u4) 5 u5) 6 u6) 7 u7) 8 u8) 9 u9
def yw (w:M)(g b:Nat)(f:Nat->Ins)(cnt:Nat)(y:Nat->aI)(n:Nat)(ZM:Turn)(k:Nat):Prop :=
 (∃p st l s a cap,Ten w g (N I (p:Nat)) (Z a (List.length s) cap) (N I (st:Nat)) (N I (l:Nat)) (ZD ZA) (N I 0) (U ⟨#[]⟩) (ZD ZA) (U ⟨#[]⟩) (ZD ZA)/\w.ownsRow b 9 1 (Z a s.length cap) s.length (strs s) /\
  st<=2000/\dn f cnt y n (2001 - st) p st l s=ZM/\p<=2000/\l<=200/\s.length<=50/\(∀x∈s,x.size<=2000)/\2002 - st<=k) ∨
 (∃at_ sv lk c x,∃st:Nat,Ten w g at_ sv (N I st) lk (ZD ZG) (N I c) (U x) (ZD ZA) (U ⟨#[]⟩) (ZD ZA)/\ZM=fY c x st) ∨
 (∃at_ sv lk a nm,∃st:Nat,Ten w g at_ sv (N I st) lk (ZD ZA) (N I 0) (U ⟨#[]⟩) (ZD a) (U nm) (ZD ZG)/\ZM=nW a nm st)
theorem Il{b cap:Nat}{e:TypeId}{a:Option Addr}{c:List ZC}(h:w.ownsRow b e 1 (Z a n cap) n c){k:Nat}(x:k<b)(g p l f o t q i r m:ZC):World.ownsRow ((((((((((w.setCell (Q k 0 Y) g).setCell (Q k 1 Y) p).setCell (Q k 2 Y) l).setCell (Q k 3 Y) f).setCell (Q k 4 Y) o).setCell (Q k 5 Y) t).setCell (Q k 6 Y) q).setCell (Q k 7 Y) i).setCell (Q k 8 Y) r).setCell (Q k 9 Y) m) b e 1 (Z a n cap) n c:=by have s:∀{w:M} (j:Nat) (u:ZC),w.ownsRow b e 1 (Z a n cap) n c->(w.setCell (Q k j Y) u).ownsRow b e 1 (Z a n cap) n c:=λj u h=>VR h (a:=(Q k j Y)) x u;exact s 9 m (s 8 r (s 7 i (s 6 q (s 5 t (s 4 o (s 3 f (s 2 l (s 1 p (s 0 g h)))))))))
theorem oG (c g cnt cap n r:Nat)(E:Option Addr)(f:Nat->Ins)(w:M)(hn:cnt<=1048576)(p:valid f cnt=ZG->200<(n:Int))(y:RowIns w c g cnt f)(x:∀i,i<cnt->(f i).s.size<=maxLen):Calls Tryz.prog 106 #[ZH #[Z (T (Q c g Y)) cnt cap],Z E n r] w λe l=>e=ZF badT.v/\Below w.heap.size w l:=by
 have A:=ae y;have o:=ae ((((q9 w).alloc ly (J #[Z (T (Q c g Y)) cnt cap] 43))).alloc (by simp) (J #[ZD ZA,N I 0,U ⟨#[]⟩,ZD ZA,U ⟨#[]⟩,N I 0] 163));have h:=yr (w.alloc (J #[Z (T (Q c g Y)) cnt cap] 43)) (ZD ZA) (N I 0) (U ⟨#[]⟩) (ZD ZA) (U ⟨#[]⟩) (N I 0) 163;rw[show(w.alloc (J #[Z (T (Q c g Y)) cnt cap] 43)).heap.size=w.heap.size+1 by simp] at h;have u:=ae h;have q:=λl h1 h2=>gn c g cnt cap f l hn h1 h2 x;generalize valid f cnt=b at p q;have t:=ae q;have z:=ae p;clear h q y x p;go_enter func106,ntmps106;go_wp2_with fail;have m:=ae (A.aa o ly);refine(t _ m.1 m.2).mono ?_;rintro e w1 ⟨rfl,j⟩;have F:=ae (u.aa j (by simp));have B:=ae (o.trans (j.mono (by simp;omega)));clear j o u m;obtain⟨⟨v0,H,y0⟩,⟨v1,D,y1⟩,⟨v2,ZQ,y2⟩,⟨v3,G,y3⟩,⟨v4,ZP,y4⟩,⟨v5,C,y5⟩⟩:=bl6 F.2;cases b
 all_goals
  (try have hn2:=z.out rfl)
  go_wp2;refine bp (v:=badT.v) (by simp[results,TV,go_sem,Turn.v,badT,H,D,ZQ,G,ZP,C]) rfl ⟨rfl,jJ B (by omega) _ _ _ _ _ _⟩
theorem xv (h o cnt cap R o2 n ZN:Nat)(f:Nat->Ins)(y:Nat->aI)(w:M)(hn:cnt<=1048576)(hv:valid f cnt=ZG)(hn2:(n:Int)<=200)(hP:RowIns w h o cnt f)(hY:RowReply w R o2 n y)(hs:∀i,i<cnt->(f i).s.size<=maxLen)(ZM:Turn)(hT:ZM=if bU y n=ZA then badT else dn f cnt y n 2001 0 0 0 []):Calls Tryz.prog 106 #[ZH #[Z (T (Q h o Y)) cnt cap],Z (T (Q R o2 Y)) n ZN] w λe w'=>e=ZF ZM.v/\Below w.heap.size w w':=by
 have HV:=ae (bP hv).1;have n9:cnt<=200:=by have:=(bP hv).2.2;omega
 have V:=ae hY;have ZJ:=ae hT;clear hY hT;have HP:=ae hP;have A0:=ae ((((q9 w).alloc ly (J #[Z (T (Q h o Y)) cnt cap] 43))).alloc (by simp) (J #[ZD ZA,N I 0,U ⟨#[]⟩,ZD ZA,U ⟨#[]⟩,N I 0] 163));have S:=yr (w.alloc (J #[Z (T (Q h o Y)) cnt cap] 43)) (ZD ZA) (N I 0) (U ⟨#[]⟩) (ZD ZA) (U ⟨#[]⟩) (N I 0) 163;rw[show(w.alloc (J #[Z (T (Q h o Y)) cnt cap] 43)).heap.size=w.heap.size+1 by simp] at S;have X0:=ae S;have IV:=λw' h1 h2=>gn h o cnt cap f w' hn h1 h2 hs;rw[hv] at IV;have mv:=ae IV;clear S IV hP hs hv;go_enter func106,ntmps106;go_wp2_with fail;have P1:=ae (HP.aa A0 ly);refine(mv _ P1.1 P1.2).mono ?_;rintro e w1 ⟨rfl,L⟩;have c1:w1.cell? (Q w.heap.size 0 Y)=T (Z (T (Q h o Y)) cnt cap):=(L.cell (p:=(Q w.heap.size 0 Y)) (by simp;omega)).trans (by simp);have HX:=ae (X0.aa L (by simp));have B1:=ae (A0.trans (L.mono (by simp;omega)));have z1:w.heap.size+1<w1.heap.size:=HX.1;clear L A0 X0 P1;have th:=ae (V.aa B1 ly);go_wp2_with fail;go_loopw [5] (λi wr=>∃j:Nat,j<=n/\i=N I j/\Hid (bU y j=ZG)/\Below w1.heap.size w1 wr) (λi _=>n - (intOf i).toNat);case atStart=>exact⟨0,by omega,rfl,rfl,dB _ _⟩
 case round =>
  obtain⟨j,hj,rfl,HK,hB⟩:=hrel;have r:=ae (HX.aa hB HX.1);have F:=ae (B1.trans (hB.mono B1.size));have cp:wr.cell? (Q w.heap.size 0 Y)=T (Z (T (Q h o Y)) cnt cap):=(hB.cell (p:=(Q w.heap.size 0 Y)) (by simp;omega)).trans c1;have zr:w.heap.size+1<wr.heap.size:=r.1;have fd:=ae hB;clear hB;by_cases u:j<n
  ·obtain⟨d0,d1,d2⟩:=(V.aa F ly).2 j u;obtain⟨⟨v0,C,y0⟩,⟨v1,G,y1⟩,⟨v2,E,y2⟩,⟨v3,K,y3⟩,⟨v4,H,y4⟩,⟨v5,B,y5⟩⟩:=bl6 r.2;by_cases g1:((y j).B.size:Int)<=2000
   ·by_cases g2:0<=(y j).E
    ·by_cases g3:(y j).E<=7;{go_wp2;refine⟨⟨j+1,by omega,by go_num,?_,?_⟩,by simp[intOf];omega⟩;{show bU y (j+1)=ZG;simp only[bU,HK.out,dk,UV,z8];omega};{exact fd}}
     ·go_wp2;have z:ZM=badT:=by rw[ZJ.out,p6 (ip u (by simp only[dk,PH];omega))]
      refine bp (v:=badT.v) (by simp[results,TV,go_sem,Turn.v,badT,C,G,E,K,H,B]) rfl ⟨by rw[z],jJ F (by omega) _ _ _ _ _ _⟩
    ·go_wp2;have z:ZM=badT:=by rw[ZJ.out,p6 (ip u (by simp only[dk,PH];omega))]
     refine bp (v:=badT.v) (by simp[results,TV,go_sem,Turn.v,badT,C,G,E,K,H,B]) rfl ⟨by rw[z],jJ F (by omega) _ _ _ _ _ _⟩
   ·go_wp2;have z:ZM=badT:=by rw[ZJ.out,p6 (ip u (by simp only[dk,PH];omega))]
    refine bp (v:=badT.v) (by simp[results,TV,go_sem,Turn.v,badT,C,G,E,K,H,B]) rfl ⟨by rw[z],jJ F (by omega) _ _ _ _ _ _⟩
  ·have e:j=n:=by omega
   subst e;have z:ZM=dn f cnt y j 2001 0 0 0 []:=by rw[ZJ.out,gM (by simp[HK.out])]
   have ET:=ae z;clear z ZJ th;have RN:=ae (lE wr (N I 0) (Z Y 0 0) (N I 0) (N I 0) (ZD ZA) (N I 0) (U ⟨#[]⟩) (ZD ZA) (U ⟨#[]⟩) (ZD ZA) 226 wr.heap.size rfl);obtain⟨O,A⟩:∃W:M,wr.alloc (J #[N I 0,Z Y 0 0,N I 0,N I 0,ZD ZA,N I 0,U ⟨#[]⟩,ZD ZA,U ⟨#[]⟩,ZD ZA] 226)=W:=⟨_,rfl⟩
   obtain⟨A2,-,-⟩:=nb1 A;have ZP:=ae A;clear A;have XN:=ae (r.aa A2 r.1);have BN:=ae (F.trans (A2.mono F.size));have cN:=(A2.cell (p:=(Q w.heap.size 0 Y)) (by simp;omega)).trans cp;have P:wr.heap.size<O.heap.size:=by cases ZP.out;simp
   go_wp2_with fail;clear c1 cp;rw[ZP.out] at RN ⊢;clear ZP;generalize wr.heap.size=t at RN zr P ⊢;have ur:R<t:=lj V.1 (by omega);have sm:h<t:=lj HP.1 (by omega);have S0:Hid (yw O t O.heap.size f cnt y j ZM 2002):=.inl ⟨0,0,0,[],Y,0,RN,A9 _ _ _ _,by omega,ET.symm,by omega,by omega,by simp,by simp,by omega⟩;have PN:=ae (HP.aa BN ly);have YN:=ae (V.aa BN ly);clear RN ET r F fd u HX B1 HP V;go_loopg [] 2002 (λg wr=>yw wr t O.heap.size f cnt y j ZM g/\Only t O wr);case atStart=>exact⟨S0,Only.refl _ _⟩
   case round =>
    obtain⟨hst,ZQ⟩:=hrel;have HO:=ae ZQ;have cw:wr.cell? (Q w.heap.size 0 Y)=T (Z (T (Q h o Y)) cnt cap):=(ZQ.cell w.heap.size 0 (by omega) (by omega)).trans cN;have dg:t<wr.heap.size:=lj P ZQ.size;have aq:=ae (ZQ.aa (n6 t) (QC P));have BW:=ae (BN.trans (ZQ.aa (show w.heap.size<=t by omega) (by omega)));have XW:=ae (XN.G ZQ (by omega));have zw:w.heap.size+1<wr.heap.size:=XW.1;clear ZQ;rcases hst with ⟨p,st,l,s,a,ld,b,ZK,k1,k2,k3,k4,k5,k6,k7⟩|⟨at_,sv,lk,c,x,st,b,m⟩|⟨at_,sv,lk,a,nm,st,b,m⟩
    ·have ph:=ae b;have OW:=ae ZK;have ro:=ae (Ik k1 k4 k5 k6 HV n9 HK k2);have K6:=ae k6;have PW:Hid (RowIns wr h o cnt f):=⟨lj PN.1 HO.size,λi hi=>(PN.2 i hi).aa aq sm⟩
     have YW:Hid (RowReply wr R o2 j y):=⟨lj YN.1 HO.size,λi hi=>(YN.2 i hi).aa aq ur⟩
     obtain⟨ZL,⟨c0,f0⟩,⟨c1,f1⟩,⟨c2,f2⟩,⟨c3,f3⟩,⟨c4,f4⟩,⟨c5,f5⟩,⟨c6,f6⟩,⟨c7,f7⟩,⟨c8,f8⟩,c9,f9⟩:=b;clear ZK k2 k6;go_wp2_with fail;refine(Ad h o cnt cap p st l f a s ld R o2 j ZN O.heap.size y _ PW YW OW k3 k1 k4 k5 K6 HV).mono ?_;rintro e w3 ⟨v,rfl,ZR,X⟩;have ZO:=ae (ph.aa X dg);have O3:=ae (HO.aq X);clear ZL c0 f0 c1 f1 c2 f2 c3 f3 c4 f4 c5 f5 c6 f6 c7 f7 c8 f8 c9 f9;clear X;have q:=ro.out;obtain⟨g,rfl⟩:∃g,gk=g+1:=⟨gk - 1,by omega⟩
     generalize gi f cnt y j p st l s=so at ZR q;rcases so with ⟨p',qr,l',s'⟩|⟨c,x,k⟩|⟨a1,nm,k⟩
     ·obtain⟨a',c',rfl,bt⟩:=ZR;obtain⟨m1,m2,m3,m4,m5,m6,m7⟩:=q;have OE:=ae bt;have M3:=ae m3;have M7:=ae m7;have M1:=ae m1;clear bt m3 m7 m1;obtain⟨la,⟨e0,u0⟩,⟨e1,u1⟩,⟨e2,u2⟩,⟨e3,u3⟩,⟨e4,u4⟩,⟨e5,u5⟩,⟨e6,u6⟩,⟨e7,u7⟩,⟨e8,u8⟩,e9,u9⟩:=ZO.out;go_wp2;go_roundg g;case measure=>omega
      case rel=>exact⟨.inl ⟨p',qr,l',s',a',c',ZO.put _ _ _ _ _ _ _ _ _ _,aB (Il OE dg _ _ _ _ _ _ _ _ _ _) HO.size,m2,M3,m4,m5,m6,M7,by have:=M1.out;omega⟩,pr O3 _ _ _ _ _ _ _ _ _ _⟩
     ·obtain⟨at_,a',n',c',lk,rfl⟩:=ZR;have m:ZM=fY c x k:=q;have D:=ae m;clear m q;obtain⟨la,⟨e0,u0⟩,⟨e1,u1⟩,⟨e2,u2⟩,⟨e3,u3⟩,⟨e4,u4⟩,⟨e5,u5⟩,⟨e6,u6⟩,⟨e7,u7⟩,⟨e8,u8⟩,e9,u9⟩:=ZO.out;go_wp2;go_roundg g;case measure=>omega
      case rel=>exact⟨.inr (.inl ⟨_,_,_,_,_,_,ZO.put _ _ _ _ _ _ _ _ _ _,D⟩),pr O3 _ _ _ _ _ _ _ _ _ _⟩
     ·obtain⟨at_,a',n',c',lk,rfl⟩:=ZR;have m:ZM=nW a1 nm k:=q;have D:=ae m;clear m q;obtain⟨la,⟨e0,u0⟩,⟨e1,u1⟩,⟨e2,u2⟩,⟨e3,u3⟩,⟨e4,u4⟩,⟨e5,u5⟩,⟨e6,u6⟩,⟨e7,u7⟩,⟨e8,u8⟩,e9,u9⟩:=ZO.out;go_wp2;go_roundg g;case measure=>omega
      case rel=>exact⟨.inr (.inr ⟨_,_,_,_,_,_,ZO.put _ _ _ _ _ _ _ _ _ _,D⟩),pr O3 _ _ _ _ _ _ _ _ _ _⟩
    {have D:=ae m;obtain⟨ZL,⟨c0,f0⟩,⟨c1,f1⟩,⟨c2,f2⟩,⟨c3,f3⟩,⟨c4,f4⟩,⟨c5,f5⟩,⟨c6,f6⟩,⟨c7,f7⟩,⟨c8,f8⟩,c9,f9⟩:=b;obtain⟨⟨v0,C,y0⟩,⟨v1,G,y1⟩,⟨v2,E,y2⟩,⟨v3,K,y3⟩,⟨v4,H,y4⟩,⟨v5,B,y5⟩⟩:=bl6 XW.2;clear m;go_wp2;refine bp (v:=ZM.v) (by rw[D.out];simp[results,TV,go_sem,Turn.v,fY,C,G,E,K,H,B]) rfl ⟨rfl,jJ BW (by omega) _ _ _ _ _ _⟩};{have D:=ae m;obtain⟨ZL,⟨c0,f0⟩,⟨c1,f1⟩,⟨c2,f2⟩,⟨c3,f3⟩,⟨c4,f4⟩,⟨c5,f5⟩,⟨c6,f6⟩,⟨c7,f7⟩,⟨c8,f8⟩,c9,f9⟩:=b;obtain⟨⟨v0,C,y0⟩,⟨v1,G,y1⟩,⟨v2,E,y2⟩,⟨v3,K,y3⟩,⟨v4,H,y4⟩,⟨v5,B,y5⟩⟩:=bl6 XW.2;clear m;go_wp2;refine bp (v:=ZM.v) (by rw[D.out];simp[results,TV,go_sem,Turn.v,nW,C,G,E,K,H,B]) rfl ⟨rfl,jJ BW (by omega) _ _ _ _ _ _⟩}
theorem vq (c g cnt cap l j n b:Nat)(f:Nat->Ins)(y:Nat->aI)(w:M)(hn:cnt<=1048576)(m:RowIns w c g cnt f)(r:RowReply w l j n y)(o:∀i,i<cnt->(f i).s.size<=maxLen):Calls Tryz.prog 106 #[ZH #[Z (T (Q c g Y)) cnt cap],Z (T (Q l j Y)) n b] w λe q=>e=ZF (ua f cnt y n).v/\Below w.heap.size w q:=by
 unfold ua;by_cases h1:valid f cnt=ZA;{rw[p6 h1];exact oG c g cnt cap n b _ f w hn (λh=>absurd (h1.symm.trans h) (by simp)) m o}
 ·have p:valid f cnt=ZG:=by simpa using h1
  rw[gM h1];by_cases h2:200<n;{rw[p6 h2];exact oG c g cnt cap n b _ f w hn (λ_=>by omega) m o};{rw[gM h2];exact xv c g cnt cap l j n b f y w hn p (by omega) m r o _ rfl}
