import Derived.Test.YthkpcehepgmdgaaGreatDoorSX
import Derived.Deep.CutBlock
set_option maxRecDepth 1000000
set_option maxHeartbeats 8000000
set_option linter.unusedSimpArgs false
open Go renaming Addr.mk->Q,Value.slice->Z,Value.string->U,Value.int->J,Value.bool->ZC,Value.agg->ZH,Obj.cells->N,IntKind.i64->I,World->G,Value->ZD,TypeId->ZI,Ending.returned->ZG,World.heap->h,World.ownsRow->ZX,World.alloc->ZV,World.cell?->ZW,World.setCell->ZT,Proofs.Tryz.prog->Pg
open Option renaming none->Y,some->T
open Bool renaming false->ZB,true->ZF
open Array renaming size->A
open List renaming length->ZU
namespace Go.Proofs.YthkpcehepgmdgaaGreatDoor.Vp
open Tryz RowKit
variable {p n g steps looks:Nat}{w:G}{f:Nat->af}{b s:List ByteArray}{y:Nat->ay}{e:ZI}
theorem yu (pb po cnt ld place steps looks:Nat)(f:Nat->Ins)(a:Option Addr)(s:List ByteArray)(cap b2 o2 n Fn At:Nat)(y:Nat->ay)(w:G)
  (hP:RowIns w pb po cnt f) (hY:RowReply w b2 o2 n y) (hO:ZX w At 9 1 (Z a (ZU s) cap) (ZU s) (strs s)) (hp:place<=2000) (hst:steps<=2000) (hlk:looks<=200) (hs:ZU s<=50) (H9:∀x∈s,x.size<=2000) (Hq:da f cnt=ZF) :
  Calls Pg 93 #[ZH #[Z (T (Q pb po Y)) cnt ld],dZ place (Z a (ZU s) cap) steps looks ZB 0 ⟨#[]⟩ ZB ⟨#[]⟩ ZB,Z (T (Q b2 o2 Y)) n Fn] w λe w'=>∃v,e=ZG v/\SoIs w' (A (h w)) v (fN f cnt y n place steps looks s)/\Below (A (h w)) w w':=by
 obtain⟨so,n7⟩:∃so,so=fN f cnt y n place steps looks s:=⟨_,rfl⟩
 rw[<-n7];have S0:=ae n7;clear n7;have HP:=ae hP;have HY:=ae hY;have HO:=ae hO;have HK:=ae Hq;have HL:=ae H9;clear hP hY hO Hq H9;have A0:=ae ((((q9 w).alloc ly (N #[Z (T (Q pb po Y)) cnt ld] 41)).alloc (by simp) (N #[J I place,Z a (ZU s) cap,J I steps,J I looks,ZC ZB,J I 0,U ⟨#[]⟩,ZC ZB,U ⟨#[]⟩,ZC ZB] 155)).alloc (by simp<;>omega) (N #[J I 0,Z Y 0 0,J I 0,J I 0,ZC ZB,J I 0,U ⟨#[]⟩,ZC ZB,U ⟨#[]⟩,ZC ZB] 155));have R0:=ae ((kw (ZV w (N #[Z (T (Q pb po Y)) cnt ld] 41)) (J I place) (Z a (ZU s) cap) (J I steps) (J I looks) (ZC ZB) (J I 0) (U ⟨#[]⟩) (ZC ZB) (U ⟨#[]⟩) (ZC ZB) 155 (A (h w)+1) (by simp)).al (N #[J I 0,Z Y 0 0,J I 0,J I 0,ZC ZB,J I 0,U ⟨#[]⟩,ZC ZB,U ⟨#[]⟩,ZC ZB] 155));have Z0:=ae (kw (ZV (ZV w (N #[Z (T (Q pb po Y)) cnt ld] 41)) (N #[J I place,Z a (ZU s) cap,J I steps,J I looks,ZC ZB,J I 0,U ⟨#[]⟩,ZC ZB,U ⟨#[]⟩,ZC ZB] 155)) (J I 0) (Z Y 0 0) (J I 0) (J I 0) (ZC ZB) (J I 0) (U ⟨#[]⟩) (ZC ZB) (U ⟨#[]⟩) (ZC ZB) 155 (A (h w)+1+1) (by simp));go_enter func93,ntmps93;go_wp2_with fail;refine(qS place (by omega) _).mono ?_;rintro e l ⟨rfl,aq⟩;have hD:(⟨(Lib.decDigits place).toArray⟩:ByteArray)=dU place:=rfl;rw[hD];have R1:=ae (R0.aa aq (by simp<;>omega));have Z1:=ae (Z0.aa aq (by simp<;>omega));have B1:=ae (A0.trans (aq.mono (by simp<;>omega)));have pP:ZW l (Q (A (h w)) 0 Y)=T (Z (T (Q pb po Y)) cnt ld):=(aq.cell (p:=(Q (A (h w)) 0 Y)) (by simp<;>omega)).trans (Gh _ _ _ _ _ _ _ rfl);have O1:=ae (own_below HO B1 ly);have hz1:A (h w)+1+1<A (h l):=Z1.1;have hz0:A (h w)<A (h l):=by omega
 have hz01:A (h w)+1<A (h l):=by omega
 clear aq A0 R0 Z0 hD;obtain⟨m,⟨c0,f0⟩,⟨c1,f1⟩,⟨c2,S⟩,⟨c3,ZL⟩,⟨c4,ZM⟩,⟨c5,R⟩,⟨ZK,f6⟩,⟨X,P⟩,⟨ZO,f8⟩,V,ZN⟩:=R1.out;rcases Int.lt_or_le (place:Int) cnt with h1|h1;rotate_left;{have S1:Hid (so=.inr (.inl (2,(dU place),steps))):=S0.trans (show fN f cnt y n place steps looks s=.inr (.inl (2,(dU place),steps)) by have ZZ:cnt<=place:=(by omega);simp[fN,gX,bG,cO,ZZ]);go_wp2_with fail;refine(fD _ _ _ _ _ _ _ _ _ _ _ _ _ _ _).mono ?_;rintro e w5 ⟨rfl,b⟩;have ZE:=ae (Z1.aa b Z1.1);have D:=ae (B1.trans (b.mono B1.size));clear b;clear m c0 f0 c1 f1 c2 S c3 ZL c4 ZM c5 R ZK f6 X P ZO f8 V ZN;obtain⟨la,⟨z0,y0⟩,⟨z1,y1⟩,⟨z2,y2⟩,⟨z3,y3⟩,⟨ZP,y4⟩,⟨ZQ,y5⟩,⟨ZS,y6⟩,⟨H,y7⟩,⟨O,y8⟩,L,y9⟩:=ZE.out;go_wp2;refine bp (v:=dZ place (Z a (ZU s) cap) steps looks ZF 2 (dU place) ZB ⟨#[]⟩ ZB) (by simp[results,NS,go_sem,z0,z1,z2,z3,ZP,ZQ,ZS,H,O,L]) rfl ⟨_,rfl,(by rw[S1.out];exact⟨_,_,_,_,_,rfl⟩),dQ D (by omega) _ _ _ _ _ _ _ _ _ _⟩};rcases Bool.eq_false_or_eq_true ((steps:Int) == 2000) with h2|h2;{have S1:Hid (so=.inr (.inl (3,⟨#[]⟩,steps))):=S0.trans (show fN f cnt y n place steps looks s=.inr (.inl (3,⟨#[]⟩,steps)) by have ZZ:¬ cnt<=place:=(by omega);have e:steps=2000:=(by simp at h2;omega);simp[fN,gX,bG,cO,ZZ,e]);go_wp2_with fail;refine(fD _ _ _ _ _ _ _ _ _ _ _ _ _ _ _).mono ?_;rintro e w5 ⟨rfl,b⟩;have ZE:=ae (Z1.aa b Z1.1);have D:=ae (B1.trans (b.mono B1.size));clear b;clear m c0 f0 c1 f1 c2 S c3 ZL c4 ZM c5 R ZK f6 X P ZO f8 V ZN;obtain⟨la,⟨z0,y0⟩,⟨z1,y1⟩,⟨z2,y2⟩,⟨z3,y3⟩,⟨ZP,y4⟩,⟨ZQ,y5⟩,⟨ZS,y6⟩,⟨H,y7⟩,⟨O,y8⟩,L,y9⟩:=ZE.out;go_wp2;refine bp (v:=dZ place (Z a (ZU s) cap) steps looks ZF 3 ⟨#[]⟩ ZB ⟨#[]⟩ ZB) (by simp[results,NS,go_sem,z0,z1,z2,z3,ZP,ZQ,ZS,H,O,L]) rfl ⟨_,rfl,(by rw[S1.out];exact⟨_,_,_,_,_,rfl⟩),dQ D (by omega) _ _ _ _ _ _ _ _ _ _⟩};have hi:=jC HK.out (show place<cnt by omega);simp only[cF,nX] at hi;obtain⟨op,Hl⟩:=p9 (show 0<=(f place).op by omega);obtain⟨k,hk⟩:=p9 hi.2.2.2.1;have Io:dW (f place).op<=2000:=by unfold dW;split<;>(try split)<;>omega
 have Ic:bR (f place).op<=2000:=by unfold bR;split<;>omega
 have Ih:k<=2000:=by omega
 have Is:(f place).s.size<=2000:=by omega
 have th:1<=op:=by omega
 have Ht:op<=15:=by omega
 have EP:Hid (so=if eU op s=ZB then .inr (.inl (2,(dU place),(steps+1))) else gX y n place (steps+1) looks (cE op k (f place).s place looks s)):=by
  show _=_;rw[S0.out];have q1:¬ cnt<=place:=by omega
  have q2:¬ steps=2000:=by simp at h2;omega
  simp only[fN,bG,cO,q1,q2,QE,Hl,hk,MV];split<;>rfl
 clear hi Io Ic HK;obtain⟨d0,d1,d2⟩:=(HP.aa B1 ly).2 place (by omega);rw[Hl] at d0;rw[hk] at d2;have hpb:pb<A (h w):=HP.1;have Ij:=(cell_far l (Q (A (h w)+1) 2 Y) (Q pb (po+place*3) Y) (J I ((steps:Int)+1)) (by simp;omega)).trans d0;have Iu:=(cell_far l (Q (A (h w)+1) 2 Y) (Q pb (po+place*3+1) Y) (J I ((steps:Int)+1)) (by simp;omega)).trans d1;have Ie:=(cell_far l (Q (A (h w)+1) 2 Y) (Q pb (po+place*3+2) Y) (J I ((steps:Int)+1)) (by simp;omega)).trans d2;have H6:∀j,A (h w)<=j->Value.ownBlock (Z a (ZU s) cap)≠T j:=λj hj e=>by have:=(HO.lt j e).2;omega
 have R2:=ae ((R1.set2 (J I ((steps:Int)+1))).al (N #[J I op,U (f place).s,J I k] 90));have Z2:=ae ((Z1.other (Q (A (h w)+1) 2 Y) (J I ((steps:Int)+1)) (by simp)).al (N #[J I op,U (f place).s,J I k] 90));have O2:=ae ((SE O1 (a:=(Q (A (h w)+1) 2 Y)) (H6 _ (by simp)) (J I ((steps:Int)+1))).alloc (N #[J I op,U (f place).s,J I k] 90));have B2:=ae ((B1.setCell (p:=(Q (A (h w)+1) 2 Y)) (by simp) (J I ((steps:Int)+1))).alloc (by have:=B1.size;simpa using this) (N #[J I op,U (f place).s,J I k] 90));have g0:ZW (ZV (ZT l (Q (A (h w)+1) 2 Y) (J I ((steps:Int)+1))) (N #[J I op,U (f place).s,J I k] 90)) (Q (A (h l)) 0 Y)=T (J I op):=jT _ _ _ _ _ _ (by simp) rfl;have g1:ZW (ZV (ZT l (Q (A (h w)+1) 2 Y) (J I ((steps:Int)+1))) (N #[J I op,U (f place).s,J I k] 90)) (Q (A (h l)) 1 Y)=T (U (f place).s):=jT _ _ _ _ _ _ (by simp) rfl;have g2:ZW (ZV (ZT l (Q (A (h w)+1) 2 Y) (J I ((steps:Int)+1))) (N #[J I op,U (f place).s,J I k] 90)) (Q (A (h l)) 2 Y)=T (J I k):=jT _ _ _ _ _ _ (by simp) rfl;have fd:A (h l)<A (h (ZV (ZT l (Q (A (h w)+1) 2 Y) (J I ((steps:Int)+1))) (N #[J I op,U (f place).s,J I k] 90))):=by simp
 clear H6;go_wp2_with fail;refine(vF op _ th Ht).mono ?_;rintro e w9 ⟨rfl,Iv⟩;subst Iv;clear m c0 f0 c1 f1 c2 S c3 ZL c4 ZM c5 R ZK f6 X P ZO f8 V ZN;clear d0 d1 d2 Ij Iu Ie Hl hk pP;generalize World.alloc (World.setCell l _ _) _=W at R2 Z2 O2 B2 g0 g1 g2 fd ⊢;obtain⟨m,⟨c0,f0⟩,⟨c1,f1⟩,⟨c2,S⟩,⟨c3,ZL⟩,⟨c4,ZM⟩,⟨c5,R⟩,⟨ZK,f6⟩,⟨X,P⟩,⟨ZO,f8⟩,V,ZN⟩:=R2.out;have hpt:=Cn op;have Ig:aO op<=2:=by unfold aO;split<;>(try split)<;>omega
 by_cases hb:eU op s=ZB
 ·have S1:Hid (so=.inr (.inl (2,(dU place),(steps+1)))):=by rw[EP.out,hU hb];rfl
  have hA:(ZU s:Int)<(aO op:Nat)∨¬ (ZU s:Int)<(aO op:Nat)/\(50:Int)<(ZU s:Int) - (aO op:Nat)+(bF op:Nat):=by simp only[eU,LG] at hb;omega
  clear hb EP;rcases hA with hA|⟨hA,Hr⟩
  iterate 2
   ·go_wp2_with fail
    refine(fD _ _ _ _ _ _ _ _ _ _ _ _ _ _ _).mono ?_;rintro e w5 ⟨rfl,b⟩;have ZE:=ae (Z2.aa b Z2.1);have D:=ae (B2.trans (b.mono B2.size));clear b;clear m c0 f0 c1 f1 c2 S c3 ZL c4 ZM c5 R ZK f6 X P ZO f8 V ZN;obtain⟨la,⟨z0,y0⟩,⟨z1,y1⟩,⟨z2,y2⟩,⟨z3,y3⟩,⟨ZP,y4⟩,⟨ZQ,y5⟩,⟨ZS,y6⟩,⟨H,y7⟩,⟨O,y8⟩,L,y9⟩:=ZE.out;go_wp2;refine bp (v:=dZ place (Z a (ZU s) cap) ((steps:Int)+1) looks ZF 2 (dU place) ZB ⟨#[]⟩ ZB) (by simp[results,NS,go_sem,z0,z1,z2,z3,ZP,ZQ,ZS,H,O,L]) rfl ⟨_,rfl,(by rw[S1.out];exact⟨_,_,_,_,_,rfl⟩),dQ D (by omega) _ _ _ _ _ _ _ _ _ _⟩
 have Hu:aO op<=ZU s/\(ZU s) - aO op+bF op<=50:=by simpa[eU] using hb
 have hA:¬ (ZU s:Int)<(aO op:Nat):=by omega
 have Hr:¬ (50:Int)<(ZU s:Int) - (aO op:Nat)+(bF op:Nat):=by omega
 have SO:Hid (so=gX y n place (steps+1) looks (cE op k (f place).s place looks s)):=by rw[EP.out,eT hb];rfl
 have HB:=ae Hu.1;have Il:(s.drop (aO op)).length+bF op<=50:=by rw[MH];omega
 clear hb Hu EP;obtain⟨ZY,Hp⟩:∃ZY,ZY=topA op s:=⟨_,rfl⟩
 obtain⟨B,aq⟩:∃B,B=qw op s:=⟨_,rfl⟩
 obtain⟨r,n9⟩:∃r,r=s.drop (aO op):=⟨_,rfl⟩
 rw[<-n9] at Il;have EA:=ae Hp;have EB:=ae aq;have ER:=ae n9;clear S0 Hp aq n9;go_upto_if 68 with fail;go_cut [11] (λsa M=>sa=U ZY/\W=M);case first =>
  by_cases ht:(0:Int)<(aO op:Nat)
  ·rcases s with _|⟨x,q⟩
   {exact absurd HB.out (by simp;omega)}
   ·obtain⟨g,c,e⟩:=jk O2 (by simp);obtain⟨rfl,-⟩:=PV e;have t1:=EU O2.out;have IC:ZU q<=50:=by simp at hs;omega
    obtain rfl:ZY=x:=by rw[EA.out];unfold topA;rw[hU (by omega)];rfl
    rw[p6] at c1;go_wp2;go_meet;exact⟨rfl,rfl⟩
  ·obtain rfl:ZY=⟨#[]⟩:=by rw[EA.out];unfold topA;rw[eT (by omega)]
   go_wp2;go_meet;exact⟨rfl,rfl⟩
 case rest =>
 obtain⟨rfl,rfl⟩:=hcut;go_upto_if 78 with fail;go_cut [12] (λsa M=>sa=U B/\W=M);case first =>
  by_cases ht:(1:Int)<(aO op:Nat)
  ·rcases s with _|⟨x,_|⟨z,q⟩⟩
   {exact absurd HB.out (by simp;omega)};{exact absurd HB.out (by simp;omega)}
   ·obtain⟨g,c,e⟩:=jk O2 (by simp);obtain⟨rfl,-⟩:=PV e;obtain⟨t1,t2⟩:=EV O2;have IC:ZU q+1<=50:=by simp at hs;omega
    obtain rfl:B=z:=by rw[EB.out];unfold qw;rw[hU (by omega)];rfl
    rw[p6,p6] at c1;go_wp2;go_meet;exact⟨rfl,rfl⟩
  ·obtain rfl:B=⟨#[]⟩:=by rw[EB.out];unfold qw;rw[eT (by omega)]
   go_wp2;go_meet;exact⟨rfl,rfl⟩
 case rest =>
 obtain⟨rfl,rfl⟩:=hcut;have hl:ZU s=ZU r+aO op:=by rw[ER.out,MH];have:=HB.out;omega
 go_upto_region 17 with fail;go_cut [13] (λsr M=>∃ZJ cr,sr=Z (T (Q ZJ 0 Y)) (ZU r) cr/\(A (h W))<=ZJ/\Hid (ZX M (A (h W)) 9 1 (Z (T (Q ZJ 0 Y)) (ZU r) cr) (ZU r) (strs r))/\Hid (Below (A (h W)) W M));case first =>
  rcases zX O2.out with ⟨rfl,hz,rfl⟩|⟨g,rfl⟩
  ·obtain rfl:s=[]:=RC.1 hz;obtain rfl:r=[]:=by rw[ER.out];simp
   have Hv:aO op=0:=by simpa using HB.out
   have h0:((aO op:Nat):Int)=0:=by rw[Hv];rfl
   have hw3:-((aO op:Nat):Int)=0:=by rw[h0];decide
   have hw4:0 - ((aO op:Nat):Int)=0:=by rw[h0];decide
   clear h0 Hv hl;have AL:=ae ((q9 W).alloc ly (N #[] 9));have OM:=ae (LK (base:=A (h W)) (e:=9) (size:=1) W #[] 0 ly (by unfold maxLen;omega) rfl);go_wp2;go_meet;exact⟨_,_,rfl,j6 _,OM,AL⟩
  ·have hcap:(ZU r:Int)<=cap:=by have:=EW O2.out;omega
   have Ib:Hid (∀j u,(strs r)[j]?=T u->(ZV W (N #[] 9)).cell? (((Q g 0 Y):Addr).add j)=T u):=EX (xs:=strs (s.take (aO op))) (by
    have ZZ:=O2.alloc (N #[] 9);rw[ER.out,<-Cq,NF]
    exact ZZ)
   obtain⟨t,ht⟩:∃t,t=aO op:=⟨_,rfl⟩
   rw[<-ht] at hl Ig ⊢;rw[hl] at c1 hs;have HS:=ae hs;have HL:=ae hl;clear hs hl;obtain⟨GS,hi,Hn,Hm,Hj⟩:=KQ gH;go_wp2_with (at_builtin;refine DD _ rfl (.tmp 87) (.tmp 95) 45 rfl (A (h W)) 9 GS (U ⟨#[]⟩) 1 16 LZ hi Hn Hm Hj rfl (by decide) (Z (T (Q (A (h W)) 0 Y)) 0 0) 0 [] (by simp[Act.eval]) (LK W #[] 0 ly (by unfold maxLen;omega) rfl) (Q g 0 Y) (ZU r) cap (strs r) (by simp[Act.eval]) (by simp[strs]) Ib.out (Cm _) (by unfold maxLen;omega) (by omega) (by simp) ?_;intro v' w2 ro DE Fm;simp only[E4,J2] at ro;obtain⟨ZJ,cr,rfl,Hx⟩:=rq ro (λe=>by simpa using Fm.1 e);have B3:=ae (bg ((q9 W).alloc ly (N #[] 9)) DE (by simp) (λj e=>by simp[Value.ownBlock] at e;omega));have DS:=ae ro;clear ro DE Fm);go_meet;exact⟨ZJ,cr,rfl,Hx,DS,B3⟩
 case rest =>
 clear hl hA Hr;obtain⟨ZJ,cr,rfl,Hx,DS,B3⟩:=hcut;have DQ:A (h w)<=A (h W):=B2.size;have n9:A (h w)+1<A (h W):=R2.1;have Fk:A (h w)+1+1<A (h W):=Z2.1;have Hi:A (h w)+1≠ZJ:=by omega
 have It:A (h W)<=A (h wc):=B3.size;clear m c0 f0 c1 f1 c2 S c3 ZL c4 ZM c5 R ZK f6 X P ZO f8 V ZN;have R3:=ae (R2.aa B3 R2.1);have Z3:=ae (Z2.aa B3 Z2.1);have G0:=(B3.cell (p:=(Q (A (h l)) 0 Y)) fd).trans g0;have G1:=(B3.cell (p:=(Q (A (h l)) 1 Y)) fd).trans g1;have G2:=(B3.cell (p:=(Q (A (h l)) 2 Y)) fd).trans g2;have R4:=ae (R3.set0 (J I ((place:Int)+1)));have Z4:=ae (Z3.other (Q (A (h w)+1) 0 Y) (J I ((place:Int)+1)) (by simp));have B4:=ae ((B2.trans (B3.mono B2.size)).setCell (p:=(Q (A (h w)+1) 0 Y)) (by simp) (J I ((place:Int)+1)));have O4:=ae (dS DS Hi (J I ((place:Int)+1)) 0);have H0:=(cell_far _ (Q (A (h w)+1) 0 Y) (Q (A (h l)) 0 Y) (J I ((place:Int)+1)) (by simp;omega)).trans G0;have H1:=(cell_far _ (Q (A (h w)+1) 0 Y) (Q (A (h l)) 1 Y) (J I ((place:Int)+1)) (by simp;omega)).trans G1;have H2:=(cell_far _ (Q (A (h w)+1) 0 Y) (Q (A (h l)) 2 Y) (J I ((place:Int)+1)) (by simp;omega)).trans G2;have bt:A (h W)<=A (h (ZT wc (Q (A (h w)+1) 0 Y) (J I ((place:Int)+1)))):=by simpa using It
 obtain⟨Ip,⟨e0,v0⟩,⟨e1,v1⟩,⟨e2,v2⟩,⟨e3,v3⟩,⟨e4,v4⟩,⟨e5,v5⟩,⟨e6,v6⟩,⟨e7,v7⟩,⟨e8,v8⟩,e9,v9⟩:=R3.out;go_upto_block 0 with fail;clear Ip e0 v0 e1 v1 e2 v2 e3 v3 e4 v4 e5 v5 e6 v6 e7 v7 e8 v8 e9 v9;clear g0 g1 g2 G0 G1 G2 B3 R3 Z3 DS R2 Z2 O2;generalize World.setCell wc _ _=W5 at R4 Z4 B4 O4 H0 H1 H2 bt ⊢;obtain⟨Id,IB⟩:ZY.size<=2000/\B.size<=2000:=by rw[EA.out,EB.out];exact ub HL op
 obtain⟨C,Hy⟩:∃C,C=mC op k ZY place:=⟨_,rfl⟩
 have ur:=ae Hy;clear Hy;go_cut [] (λM=>op<=11/\Hid (Ten M (A (h w)+1) (J I C) (Z a (ZU s) cap) (J I ((steps:Int)+1)) (J I looks) (ZC ZB) (J I 0) (U ⟨#[]⟩) (ZC ZB) (U ⟨#[]⟩) (ZC ZB))/\Hid (Ten M (A (h w)+1+1) (J I 0) (Z Y 0 0) (J I 0) (J I 0) (ZC ZB) (J I 0) (U ⟨#[]⟩) (ZC ZB) (U ⟨#[]⟩) (ZC ZB))/\Hid (Below (A (h w)) w M)/\Hid (ZX M (A (h W)) 9 1 (Z (T (Q ZJ 0 Y)) (ZU r) cr) (ZU r) (strs r))/\ZW M (Q (A (h l)) 0 Y)=T (J I op)/\ZW M (Q (A (h l)) 1 Y)=T (U (f place).s)/\ZW M (Q (A (h l)) 2 Y)=T (J I k)/\(A (h W))<=A (h M));case first =>
  obtain⟨m,⟨c0,f0⟩,⟨c1,f1⟩,⟨c2,S⟩,⟨c3,ZL⟩,⟨c4,ZM⟩,⟨c5,R⟩,⟨ZK,f6⟩,⟨X,P⟩,⟨ZO,f8⟩,V,ZN⟩:=R4.out;rcases E7 op ZY Ht with rfl|rfl|rfl|rfl|rfl|⟨rfl,q1⟩|⟨rfl,q1,q2⟩|⟨rfl,q1,q2⟩|h9;{go_wp2_with fail;refine(fD _ _ _ _ _ _ _ _ _ _ _ _ _ _ _).mono ?_;rintro e w5 ⟨rfl,b⟩;have ZE:=ae (Z4.aa b Z4.1);have D:=ae (B4.trans (b.mono B4.size));clear b;clear m c0 f0 c1 f1 c2 S c3 ZL c4 ZM c5 R ZK f6 X P ZO f8 V ZN;obtain⟨la,⟨z0,y0⟩,⟨z1,y1⟩,⟨z2,y2⟩,⟨z3,y3⟩,⟨ZP,y4⟩,⟨ZQ,y5⟩,⟨ZS,y6⟩,⟨H,y7⟩,⟨O,y8⟩,L,y9⟩:=ZE.out;go_wp2;refine bp (v:=dZ ((place:Int)+1) (Z a (ZU s) cap) ((steps:Int)+1) looks ZF 0 ZY ZB ⟨#[]⟩ ZB) (by simp[results,NS,go_sem,z0,z1,z2,z3,ZP,ZQ,ZS,H,O,L]) rfl ⟨_,rfl,(by rw[SO.out,wK _ _ _ _ _ _ _ _ _ (by simp) HB.out,<-EA.out];exact⟨_,_,_,_,_,rfl⟩),dQ D (by omega) _ _ _ _ _ _ _ _ _ _⟩};{go_wp2_with fail;refine(fD _ _ _ _ _ _ _ _ _ _ _ _ _ _ _).mono ?_;rintro e w5 ⟨rfl,b⟩;have ZE:=ae (Z4.aa b Z4.1);have D:=ae (B4.trans (b.mono B4.size));clear b;clear m c0 f0 c1 f1 c2 S c3 ZL c4 ZM c5 R ZK f6 X P ZO f8 V ZN;obtain⟨la,⟨z0,y0⟩,⟨z1,y1⟩,⟨z2,y2⟩,⟨z3,y3⟩,⟨ZP,y4⟩,⟨ZQ,y5⟩,⟨ZS,y6⟩,⟨H,y7⟩,⟨O,y8⟩,L,y9⟩:=ZE.out;go_wp2;refine bp (v:=dZ ((place:Int)+1) (Z a (ZU s) cap) ((steps:Int)+1) looks ZF 1 ZY ZB ⟨#[]⟩ ZB) (by simp[results,NS,go_sem,z0,z1,z2,z3,ZP,ZQ,ZS,H,O,L]) rfl ⟨_,rfl,(by rw[SO.out,wK _ _ _ _ _ _ _ _ _ (by simp) HB.out,<-EA.out];exact⟨_,_,_,_,_,rfl⟩),dQ D (by omega) _ _ _ _ _ _ _ _ _ _⟩};iterate 2
   ·go_wp2_with fail
    have Z5:=ae (Z4.other (Q (A (h w)+1) 1 Y) (Z (T (Q ZJ 0 Y)) (ZU r) cr) (by simp));have D:=ae (B4.setCell (p:=(Q (A (h w)+1) 1 Y)) (by simp) (Z (T (Q ZJ 0 Y)) (ZU r) cr));have O5:=ae (dS O4 Hi (Z (T (Q ZJ 0 Y)) (ZU r) cr) 1);have Y5:=ae (HY.aa D ly);have hq:=λ(o:Nat) (ho:o=12∨o=13)=>yo o (f place).s k (place+1) (steps+1) looks (T (Q ZJ 0 Y)) cr r ZY (dU place) b2 o2 n Fn (A (h W)) y _ Y5 O5 (by simpa using bt) ho hlk (by omega);rw[show((place+1:Nat):Int)=(place:Int)+1 by omega,show((steps+1:Nat):Int)=(steps:Int)+1 by omega] at hq;refine(hq _ (by simp)).mono ?_;rintro e w5 ⟨v,rfl,n7,b⟩;have Ir:=ae n7;obtain⟨l0,l1,l2,l3,l4,l5,l6,l7,l8,l9,Ii,Im,rfl⟩:=n7.form;have ZE:=ae (Z5.aa b Fk);have B6:=ae (D.trans (b.mono DQ));clear b hq n7;clear m c0 f0 c1 f1 c2 S c3 ZL c4 ZM c5 R ZK f6 X P ZO f8 V ZN;obtain⟨la,⟨z0,y0⟩,⟨z1,y1⟩,⟨z2,y2⟩,⟨z3,y3⟩,⟨ZP,y4⟩,⟨ZQ,y5⟩,⟨ZS,y6⟩,⟨H,y7⟩,⟨O,y8⟩,L,y9⟩:=ZE.out;go_wp2;refine bp (v:=dZ l0 (Z l1 l2 l3) l4 l5 l6 l7 l8 l9 Ii Im) (by simp[results,NS,go_sem,z0,z1,z2,z3,ZP,ZQ,ZS,H,O,L]) rfl ⟨_,rfl,(by rw[SO.out,Fa _ _ _ _ _ _ _ _ _ (by simp) HB.out,<-EA.out,<-ER.out];exact(zV Ir Fk _ _ _ _ _ _ _ _ _ _).mono DQ),dQ B6 (by omega) _ _ _ _ _ _ _ _ _ _⟩
  iterate 3
   ·obtain rfl:C=k:=ur.trans (He (by first|exact .inl rfl|exact .inr (.inl ⟨rfl,q1⟩)|exact .inr (.inr ⟨rfl,q2⟩)))
    have R5:=ae (R4.set0 (J I C));have Z5:=ae (Z4.other (Q (A (h w)+1) 0 Y) (J I C) (by simp));have D:=ae (B4.setCell (p:=(Q (A (h w)+1) 0 Y)) (by simp) (J I C));have O5:=ae (dS O4 Hi (J I C) 0);have I0:=(cell_far _ (Q (A (h w)+1) 0 Y) (Q (A (h l)) 0 Y) (J I (C:Int)) (by simp;omega)).trans H0;have I1:=(cell_far _ (Q (A (h w)+1) 0 Y) (Q (A (h l)) 1 Y) (J I (C:Int)) (by simp;omega)).trans H1;have I2:=(cell_far _ (Q (A (h w)+1) 0 Y) (Q (A (h l)) 2 Y) (J I (C:Int)) (by simp;omega)).trans H2;have HI:=ae I0;have Ik:=ae I1;have Iq:=ae I2;clear I0 I1 I2;go_wp2;go_meet;exact⟨by omega,R5,Z5,D,O5,HI,Ik,Iq,by simpa using bt⟩
  ·obtain rfl:C=place+1:=by rw[ur.out];unfold mC;rw[eT (by decide),eT (λZZ=>ZZ.2.elim (λe=>by rw[e] at q1;cases q1) (λe=>by rw[e] at q2;cases q2))]
   go_wp2;go_meet;exact⟨by omega,by show Ten _ _ _ _ _ _ _ _ _ _ _ _;rw[show((place+1:Nat):Int)=(place:Int)+1 by omega];exact R4,Z4,B4,O4,H0,H1,H2,bt⟩
  ·obtain rfl:C=place+1:=by rw[ur.out];unfold mC;rw[eT (by omega),eT (by omega)]
   have n15:((op:Int) == 15)=ZB:=by simp;omega
   have n14:((op:Int) == 14)=ZB:=by simp;omega
   have n12:((op:Int) == 12)=ZB:=by simp;omega
   have n13:((op:Int) == 13)=ZB:=by simp;omega
   have n10:((op:Int) == 10)=ZB:=by simp;omega
   have n11:((op:Int) == 11)=ZB:=by simp;omega
   go_wp2;go_meet;exact⟨by omega,by show Ten _ _ _ _ _ _ _ _ _ _ _ _;rw[show((place+1:Nat):Int)=(place:Int)+1 by omega];exact R4,Z4,B4,O4,H0,H1,H2,bt⟩
 case rest =>
 clear R4 Z4 B4 O4 H0 H1 H2 bt;obtain⟨Ho,R4,Z4,B4,O4,G0,G1,G2,bt⟩:=hcut;obtain⟨K,Bk⟩:∃K,K=bX op k (f place).s ZY B:=⟨_,rfl⟩
 have n8:Hid (K=bX op k (f place).s ZY B/\(ZU K)=bF op):=⟨Bk,by rw[Bk];exact yp _ _ _ _ _ th Ho⟩
 have Hw:Hid (so=gF K (dU place) r C (steps+1) looks):=by show _=_;rw[SO.out,Ct _ _ _ _ _ _ _ _ _ th Ho HB.out Is HL.out,Bk,<-EA.out,<-EB.out,<-ER.out,<-ur.out]
 clear Bk SO EA EB ER ur;go_wp2_with fail;go_loopw [13,14] (λrest i wr=>∃j:Nat,j<=bF op/\i=J I j/\∃g6 cx,rest=Z (T (Q g6 0 Y)) (ZU r+j) cx/\Hid (wr.ownsRow (A (h W)) 9 1 (Z (T (Q g6 0 Y)) (ZU r+j) cx) (ZU r+j) (strs r++(K.take j).map Value.string))/\Hid (Below (A (h W)) wc wr)/\Hid (∀i,i<j->(K.getD i ⟨#[]⟩).size<=2000)) (λ_ i _=>bF op - (intOf i).toNat);case atStart=>exact⟨0,by omega,rfl,ZJ,cr,rfl,(by show World.ownsRow _ _ _ _ _ _ _;rw[List.take_zero,T7,QU];exact O4),cM _ _,λi hi=>absurd hi (IT _)⟩
 case round =>
  obtain⟨j,hj,rfl,g6,cx,rfl,O6,B6,S6⟩:=hrel;have R6:=ae (R4.aa B6 n9);have Z6:=ae (Z4.aa B6 Fk);have i0:=(B6.cell (p:=(Q (A (h l)) 0 Y)) fd).trans G0;have i1:=(B6.cell (p:=(Q (A (h l)) 1 Y)) fd).trans G1;have i2:=(B6.cell (p:=(Q (A (h l)) 2 Y)) fd).trans G2;have Ia:A (h W)<=A (h wr):=AD bt B6.size;have B7:=ae (B4.trans (B6.mono DQ));by_cases Hk:j<bF op
  ·have h8:op<=8:=EY th Ho Hk;have H7:j<ZU K:=by rw[n8.2];exact Hk
   go_wp2_with fail;refine(vG op k (f place).s ZY B _ th h8 Id IB Ih).mono ?_;rintro e w6 ⟨g7,rfl,ph,IA,ex⟩;rw[<-n8.1] at ph ⊢;rw[n8.2] at ph ⊢;have q6:ZW w6 (Q g7 j Y)=T (U (K.getD j ⟨#[]⟩)):=by have:=ph.2 j Hk;rwa[E4] at this
   obtain⟨E,hE⟩:∃E,E=K.getD j ⟨#[]⟩:=⟨_,rfl⟩
   rw[<-hE] at q6;have HE:=ae hE;clear hE;have O7:=ae (own_below O6 ex ly);have B8:=ae (B6.trans (ex.mono Ia));have Iz:A (h W)<=A (h w6):=AD Ia ex.size;have R7:=ae (R6.aa ex R6.1);have Z7:=ae (Z6.aa ex Z6.1);have B9:=ae (B7.trans (ex.mono B7.size));clear ph IA ex i0 i1 i2 R6 Z6;by_cases Iw:(E.size:Int)<=2000
   ·obtain⟨GS,hi,Hn,Hm,Hj⟩:=KQ gH;go_wp2_with (at_builtin;refine DD _ rfl (.tmp 158) (.tmp 163) 45 rfl (A (h W)) 9 GS (U ⟨#[]⟩) 1 16 LZ hi Hn Hm Hj rfl (by decide) (Z (T (Q g6 0 Y)) (ZU r+j) cx) (ZU r+j) (strs r++(K.take j).map Value.string) (by simp[Act.eval]) (O7.alloc _) (Q (A (h w6)) 0 Y) 1 1 [U E] (by simp[Act.eval]) rfl (fs w6 _ _) (by simp[Value.oneCell']) (by unfold maxLen;omega) (by omega) (by simp<;>omega) ?_;intro v' w7 qr sm Fd;obtain⟨g8,ZO,rfl,hg8⟩:=rq qr (λe=>by simpa using Fd.1 e);have O8:=ae qr;have Iy:=ae (bg (B8.alloc Iz (N #[U E] 9)) sm (by simp<;>omega) (λi e=>(O7.lt i e).1));clear qr sm Fd)
    exact⟨⟨j+1,by omega,by go_num,g8,ZO,rfl,by show World.ownsRow _ _ _ _ _ _ _;rw[zW H7,<-KK,<-HE.out];exact O8,Iy,λi hi=>by
     by_cases e:i=j;{subst e;rw[<-HE.out];omega}
     ·exact S6 i (by omega)⟩,by simp[intOf];omega⟩
   {have ER:=ae (show so=.inr (.inl (2,(dU place),(steps+1))) by rw[Hw.out];unfold gF;rw[EZ H7 (by rw[<-HE.out];exact Iw)];rfl);obtain⟨m,⟨c0,f0⟩,⟨c1,f1⟩,⟨c2,S⟩,⟨c3,ZL⟩,⟨c4,ZM⟩,⟨c5,R⟩,⟨ZK,f6⟩,⟨X,P⟩,⟨ZO,f8⟩,V,ZN⟩:=R7.out;go_wp2_with fail;refine(fD _ _ _ _ _ _ _ _ _ _ _ _ _ _ _).mono ?_;rintro e w5 ⟨rfl,b⟩;have ZE:=ae (Z7.aa b Z7.1);have D:=ae (B9.trans (b.mono B9.size));clear b;clear m c0 f0 c1 f1 c2 S c3 ZL c4 ZM c5 R ZK f6 X P ZO f8 V ZN;obtain⟨la,⟨z0,y0⟩,⟨z1,y1⟩,⟨z2,y2⟩,⟨z3,y3⟩,⟨ZP,y4⟩,⟨ZQ,y5⟩,⟨ZS,y6⟩,⟨H,y7⟩,⟨O,y8⟩,L,y9⟩:=ZE.out;go_wp2;refine bp (v:=dZ C (Z a (ZU s) cap) ((steps:Int)+1) looks ZF 2 (dU place) ZB ⟨#[]⟩ ZB) (by simp[results,NS,go_sem,z0,z1,z2,z3,ZP,ZQ,ZS,H,O,L]) rfl ⟨_,rfl,(by rw[ER.out];exact⟨_,_,_,_,_,rfl⟩),dQ D (by omega) _ _ _ _ _ _ _ _ _ _⟩}
  ·have e:j=bF op:=by omega
   subst e;have ER:=ae (show so=.inl (C,(steps+1),looks,(K.reverse++r)) by rw[Hw.out];unfold gF;rw[Cp (λi hi=>S6.out i (by rw[n8.2] at hi;exact hi))];rfl);have Hz:=ae (show(K.reverse++r).length=ZU r+bF op by rw[gB,List.length_reverse,n8.2];omega);obtain⟨m,⟨c0,f0⟩,⟨c1,f1⟩,⟨c2,S⟩,⟨c3,ZL⟩,⟨c4,ZM⟩,⟨c5,R⟩,⟨ZK,f6⟩,⟨X,P⟩,⟨ZO,f8⟩,V,ZN⟩:=R6.out;obtain⟨la,⟨z0,y0⟩,⟨z1,y1⟩,⟨z2,y2⟩,⟨z3,y3⟩,⟨ZP,y4⟩,⟨ZQ,y5⟩,⟨ZS,y6⟩,⟨H,y7⟩,⟨O,y8⟩,L,y9⟩:=Z6.out;have OE:=ae (SF O6 (a:=(Q (A (h w)+1) 1 Y)) n9 (Z (T (Q g6 0 Y)) (ZU r+bF op) cx));have BE:=ae (B7.setCell (p:=(Q (A (h w)+1) 1 Y)) (by simp) (Z (T (Q g6 0 Y)) (ZU r+bF op) cx));go_wp2;refine bp (v:=dZ C (Z (T (Q g6 0 Y)) (ZU r+bF op) cx) ((steps:Int)+1) looks ZB 0 ⟨#[]⟩ ZB ⟨#[]⟩ ZB) (by simp[results,NS,go_sem,z0,z1,z2,z3,ZP,ZQ,ZS,H,O,L]) rfl ⟨_,rfl,?_,dQ BE (by omega) _ _ _ _ _ _ _ _ _ _⟩;rw[ER.out];refine(zV (v:=dZ C (Z (T (Q g6 0 Y)) (ZU r+bF op) cx) ((steps:Int)+1) looks ZB 0 ⟨#[]⟩ ZB ⟨#[]⟩ ZB) (base:=A (h W)) ?_ Fk _ _ _ _ _ _ _ _ _ _).mono DQ;refine⟨T (Q g6 0 Y),cx,by rw[Hz.out];simp,?_⟩;rw[Hz.out,Co];have ZZ:=OE.out;rw[show K.take (bF op)=K by rw[<-n8.2];exact List.take_length] at ZZ;exact ZZ
def Gj (f:Nat->Ins)(cnt:Nat)(y:Nat->ay)(n:Nat)(ZM:Turn)(st:Nat):SO->Prop
 |.inr (.inl (c,x,k))=>ZM=fL c x k
 |.inr (.inr (a,nm,k))=>ZM=nh a nm k
 |.inl (p,k,l,s)=>k=st+1/\k<=2000/\bW f cnt y n (2001 - k) p k l s=ZM/\p<=2000/\l<=200/\(ZU s)<=50/\∀x∈s,x.size<=2000
theorem vI{f:Nat->Ins}{cnt place:Nat}(j:ZU b<=50)(g:∀x∈b,x.size<=2000)(hlk:looks<=200)(ZZ:da f cnt=ZF)(hc:cnt<=200):qt (bG f cnt place steps looks b) looks:=by
 unfold bG;split;{trivial}
 ·rename_i h1;split;{trivial}
  ·split;{trivial}
   ·rename_i i;have hi:=jC ZZ (show place<cnt by omega);simp only[cF,nX] at hi;obtain⟨i1,i2,i3,i4,i5⟩:=hi;have hmt:dW (f place).op<=2000:=by unfold dW;split<;>(try split)<;>omega
    have hmt2:bR (f place).op<=2000:=by unfold bR;split<;>omega
    exact iO _ _ _ _ _ _ j g (by omega) (by omega) (by omega) hlk (by omega) (by omega) (by simpa using i)
theorem vJ{f:Nat->Ins}{cnt place:Nat}{a:Bool}{nm:ByteArray}(ZZ:bG f cnt place steps looks b=.inr (.inr (a,nm,s))):place<cnt:=by
 unfold bG at ZZ;split at ZZ;{cases ZZ};{omega}
theorem Fc{f:Nat->Ins}{cnt:Nat}{ZM:Turn}{st l:Nat}(hst:st<=2000)(r:l<=200)(C:ZU s<=50)(z:∀x∈s,x.size<=2000)(t:da f cnt=ZF)(ZY:cnt<=200)(D:bP y n=ZF)
  (b:bW f cnt y n (2001 - st) p st l s=ZM):Gj f cnt y n ZM st (fN f cnt y n p st l s):=by
 obtain⟨j,ZS⟩:∃j,2001 - st=j+1:=⟨2000 - st,by omega⟩
 rw[ZS,bW] at b;have hF:=vI (place:=p) (steps:=st) C z r t ZY;unfold fN;rcases ZZ:bG f cnt p st l s with ⟨E,p'⟩|⟨c,x⟩|⟨a,nm,E⟩
 {rw[ZZ] at b hF;obtain⟨m,B⟩:=jq ZZ;obtain⟨f1,i,q⟩:=hF;simp only[m] at b ⊢;exact⟨rfl,by omega,by rw[show 2001 - (st+1)=j by omega];exact b,q,r,f1,i⟩};{rw[ZZ] at b;exact b.symm};{rw[ZZ] at b hF;obtain⟨m,B⟩:=lB ZZ;obtain⟨f1,i,q,f4⟩:=hF;have hp:=vJ ZZ;simp only[m] at b ⊢;simp only[gX,jI];by_cases h1:n<=l;{rw[hU h1] at b ⊢;exact b.symm};{rw[eT h1] at b ⊢;by_cases h2:a=ZB;{rw[hU h2] at b ⊢;refine⟨rfl,by omega,by rw[show 2001 - (st+1)=j by omega];exact b,by omega,by omega,by simp;omega,λx g=>?_⟩;rcases BS.1 g with rfl|g;{exact iW _};{exact i x g}};{rw[eT h2] at b ⊢;by_cases o:(y l).has=ZB;{rw[hU o] at b ⊢;exact b.symm};{rw[eT o] at b ⊢;by_cases u:(y l).E=0;{rw[hU u] at b ⊢;refine⟨rfl,by omega,by rw[show 2001 - (st+1)=j by omega];exact b,by omega,by omega,by simp;omega,λx g=>?_⟩;rcases BS.1 g with rfl|g;{exact(BJ D (show l<n by omega)).1};{exact i x g}};{rw[eT u] at b ⊢;exact b.symm}}}}}
theorem Ten.put{n j q p m b f l o i:ZD}(ZZ:Ten w g n j q p m b f l o i)(u0 u1 u2 u3 u4 u5 u6 u7 u8 u9:ZD):Ten (ZT (ZT (ZT (ZT (ZT (ZT (ZT (ZT (ZT (ZT w (Q g 0 Y) u0) (Q g 1 Y) u1) (Q g 2 Y) u2) (Q g 3 Y) u3) (Q g 4 Y) u4) (Q g 5 Y) u5) (Q g 6 Y) u6) (Q g 7 Y) u7) (Q g 8 Y) u8) (Q g 9 Y) u9) g u0 u1 u2 u3 u4 u5 u6 u7 u8 u9 :=
 (((((((((ZZ.set0 u0).set1 u1).set2 u2).set3 u3).set4 u4).set5 u5).set6 u6).set7 u7).set8 u8).set9 u9
theorem oH{u:G}(ZZ:Only g u w)(u0 u1 u2 u3 u4 u5 u6 u7 u8 u9:ZD):Only g u (ZT (ZT (ZT (ZT (ZT (ZT (ZT (ZT (ZT (ZT w (Q g 0 Y) u0) (Q g 1 Y) u1) (Q g 2 Y) u2) (Q g 3 Y) u3) (Q g 4 Y) u4) (Q g 5 Y) u5) (Q g 6 Y) u6) (Q g 7 Y) u7) (Q g 8 Y) u8) (Q g 9 Y) u9) :=
 cj (cj (cj (cj (cj (cj (cj (cj (cj (cj ZZ 0 u0) 1 u1) 2 u2) 3 u3) 4 u4) 5 u5) 6 u6) 7 u7) 8 u8) 9 u9
def wM (w:G)(g b:Nat)(f:Nat->Ins)(cnt:Nat)(y:Nat->ay)(n:Nat)(ZM:Turn)(k:Nat):Prop :=
 (∃p st l s a cap,Ten w g (J I (p:Nat)) (Z a (List.length s) cap) (J I (st:Nat)) (J I (l:Nat)) (ZC ZB) (J I 0) (U ⟨#[]⟩) (ZC ZB) (U ⟨#[]⟩) (ZC ZB)/\ZX w b 9 1 (Z a (ZU s) cap) (ZU s) (strs s) /\
  st<=2000/\bW f cnt y n (2001 - st) p st l s=ZM/\p<=2000/\l<=200/\(ZU s)<=50/\(∀x∈s,x.size<=2000)/\2002 - st<=k) ∨
 (∃at_ sv lk c x,∃st:Nat,Ten w g at_ sv (J I st) lk (ZC ZF) (J I c) (U x) (ZC ZB) (U ⟨#[]⟩) (ZC ZB)/\ZM=fL c x st) ∨
 (∃at_ sv lk a nm,∃st:Nat,Ten w g at_ sv (J I st) lk (ZC ZB) (J I 0) (U ⟨#[]⟩) (ZC a) (U nm) (ZC ZF)/\ZM=nh a nm st)
theorem Fe{b cap:Nat}{a:Option Addr}{f:List ZD}(ZZ:ZX w b e 1 (Z a n cap) n f){k:Nat}(y:k<b)(q m x t p g i o r l:ZD):World.ownsRow (ZT (ZT (ZT (ZT (ZT (ZT (ZT (ZT (ZT (ZT w (Q k 0 Y) q) (Q k 1 Y) m) (Q k 2 Y) x) (Q k 3 Y) t) (Q k 4 Y) p) (Q k 5 Y) g) (Q k 6 Y) i) (Q k 7 Y) o) (Q k 8 Y) r) (Q k 9 Y) l) b e 1 (Z a n cap) n f:=by have s:∀{w:G} (j:Nat) (u:ZD),ZX w b e 1 (Z a n cap) n f->(ZT w (Q k j Y) u).ownsRow b e 1 (Z a n cap) n f:=λj u ZZ=>SF ZZ (a:=(Q k j Y)) y u;exact s 9 l (s 8 r (s 7 o (s 6 i (s 5 g (s 4 p (s 3 t (s 2 x (s 1 m (s 0 q ZZ)))))))))
theorem nS (pb g cnt cap n r:Nat)(z:Option Addr)(f:Nat->Ins)(w:G)(hn:cnt<=1048576)(l:valid f cnt=ZF->200<(n:Int))(x:RowIns w pb g cnt f)(y:∀i,i<cnt->(f i).s.size<=maxLen):Calls Pg 67 #[ZH #[Z (T (Q pb g Y)) cnt cap],Z z n r] w λe q=>e=ZG badT.v/\Below (A (h w)) w q:=by
 have ZP:=ae x;have m:=ae ((((q9 w).alloc ly (N #[Z (T (Q pb g Y)) cnt cap] 41))).alloc (by simp) (N #[ZC ZB,J I 0,U ⟨#[]⟩,ZC ZB,U ⟨#[]⟩,J I 0] 122));have j:=ku (ZV w (N #[Z (T (Q pb g Y)) cnt cap] 41)) (ZC ZB) (J I 0) (U ⟨#[]⟩) (ZC ZB) (U ⟨#[]⟩) (J I 0) 122;rw[show (A (h (ZV w (N #[Z (T (Q pb g Y)) cnt cap] 41))))=A (h w)+1 by simp] at j;have t:=ae j;have p:=λq h1 h2=>fO pb g cnt cap f q hn h1 h2 y;generalize valid f cnt=b at l p;have u:=ae p;have K:=ae l;clear j p x y l;go_enter func67,ntmps67;go_wp2_with fail;have o:=ae (ZP.aa m ly);refine(u _ o.1 o.2).mono ?_;rintro e w1 ⟨rfl,ZZ⟩;have ZY:=ae (t.aa ZZ (by simp));have E:=ae (m.trans (ZZ.mono (by simp;omega)));clear ZZ m t o;obtain⟨⟨v0,H,y0⟩,⟨v1,ZQ,y1⟩,⟨v2,D,y2⟩,⟨v3,ZS,y3⟩,⟨v4,C,y4⟩,⟨v5,B,y5⟩⟩:=bl6 ZY.2;cases b
 all_goals
  (try have hn2:=K.out rfl)
  go_wp2;refine bp (v:=badT.v) (by simp[results,QH,go_sem,Turn.v,badT,H,ZQ,D,ZS,C,B]) rfl ⟨rfl,fJ E (by omega) _ _ _ _ _ _⟩
theorem vK (pb m cnt cap V o2 n P:Nat)(f:Nat->Ins)(y:Nat->ay)(w:G)(hn:cnt<=1048576)(hv:valid f cnt=ZF)(hn2:(n:Int)<=200)(hP:RowIns w pb m cnt f)(hY:RowReply w V o2 n y)(hs:∀i,i<cnt->(f i).s.size<=maxLen)(ZM:Turn)(hT:ZM=if bP y n=ZB then badT else bW f cnt y n 2001 0 0 0 []):Calls Pg 67 #[ZH #[Z (T (Q pb m Y)) cnt cap],Z (T (Q V o2 Y)) n P] w λe w'=>e=ZG ZM.v/\Below (A (h w)) w w':=by
 have HV:=ae (bO hv).1;have n7:cnt<=200:=by have:=(bO hv).2.2;omega
 have R:=ae hY;have HT:=ae hT;clear hY hT;have HP:=ae hP;have A0:=ae ((((q9 w).alloc ly (N #[Z (T (Q pb m Y)) cnt cap] 41))).alloc (by simp) (N #[ZC ZB,J I 0,U ⟨#[]⟩,ZC ZB,U ⟨#[]⟩,J I 0] 122));have ZK:=ku (ZV w (N #[Z (T (Q pb m Y)) cnt cap] 41)) (ZC ZB) (J I 0) (U ⟨#[]⟩) (ZC ZB) (U ⟨#[]⟩) (J I 0) 122;rw[show (A (h (ZV w (N #[Z (T (Q pb m Y)) cnt cap] 41))))=A (h w)+1 by simp] at ZK;have X0:=ae ZK;have IV:=λw' h1 h2=>fO pb m cnt cap f w' hn h1 h2 hs;rw[hv] at IV;have ph:=ae IV;clear ZK IV hP hs hv;go_enter func67,ntmps67;go_wp2_with fail;have P1:=ae (HP.aa A0 ly);refine(ph _ P1.1 P1.2).mono ?_;rintro e w1 ⟨rfl,L⟩;have c1:ZW w1 (Q (A (h w)) 0 Y)=T (Z (T (Q pb m Y)) cnt cap):=(L.cell (p:=(Q (A (h w)) 0 Y)) (by simp;omega)).trans (by simp);have HX:=ae (X0.aa L (by simp));have B1:=ae (A0.trans (L.mono (by simp;omega)));have z1:A (h w)+1<A (h w1):=HX.1;clear L A0 X0 P1;have ro:=ae (R.aa B1 ly);go_wp2_with fail;go_loopw [5] (λi wr=>∃j:Nat,j<=n/\i=J I j/\Hid (bP y j=ZF)/\Below (A (h w1)) w1 wr) (λi _=>n - (intOf i).toNat);case atStart=>exact⟨0,by omega,rfl,rfl,cM _ _⟩
 case round =>
  obtain⟨j,hj,rfl,HK,ZN⟩:=hrel;have u:=ae (HX.aa ZN HX.1);have ZP:=ae (B1.trans (ZN.mono B1.size));have cp:ZW wr (Q (A (h w)) 0 Y)=T (Z (T (Q pb m Y)) cnt cap):=(ZN.cell (p:=(Q (A (h w)) 0 Y)) (by simp;omega)).trans c1;have zr:A (h w)+1<A (h wr):=u.1;have ex:=ae ZN;clear ZN;by_cases q:j<n
  ·obtain⟨d0,d1,d2⟩:=(R.aa ZP ly).2 j q;obtain⟨⟨v0,ZS,y0⟩,⟨v1,E,y1⟩,⟨v2,K,y2⟩,⟨v3,C,y3⟩,⟨v4,B,y4⟩,⟨v5,z,y5⟩⟩:=bl6 u.2;by_cases g1:((y j).B.size:Int)<=2000
   ·by_cases g2:0<=(y j).E
    ·by_cases g3:(y j).E<=7;{go_wp2;refine⟨⟨j+1,by omega,by go_num,?_,?_⟩,by simp[intOf];omega⟩;{show bP y (j+1)=ZF;simp only[bP,HK.out,cy,MI,nX];omega};{exact ex}}
     ·go_wp2;have r:ZM=badT:=by rw[HT.out,hU (gO q (by simp only[cy,LG];omega))]
      refine bp (v:=badT.v) (by simp[results,QH,go_sem,Turn.v,badT,ZS,E,K,C,B,z]) rfl ⟨by rw[r],fJ ZP (by omega) _ _ _ _ _ _⟩
    ·go_wp2;have r:ZM=badT:=by rw[HT.out,hU (gO q (by simp only[cy,LG];omega))]
     refine bp (v:=badT.v) (by simp[results,QH,go_sem,Turn.v,badT,ZS,E,K,C,B,z]) rfl ⟨by rw[r],fJ ZP (by omega) _ _ _ _ _ _⟩
   ·go_wp2;have r:ZM=badT:=by rw[HT.out,hU (gO q (by simp only[cy,LG];omega))]
    refine bp (v:=badT.v) (by simp[results,QH,go_sem,Turn.v,badT,ZS,E,K,C,B,z]) rfl ⟨by rw[r],fJ ZP (by omega) _ _ _ _ _ _⟩
  ·have e:j=n:=by omega
   subst e;have r:ZM=bW f cnt y j 2001 0 0 0 []:=by rw[HT.out,eT (by simp[HK.out])]
   have ET:=ae r;clear r HT ro;have RN:=ae (kw wr (J I 0) (Z Y 0 0) (J I 0) (J I 0) (ZC ZB) (J I 0) (U ⟨#[]⟩) (ZC ZB) (U ⟨#[]⟩) (ZC ZB) 155 (A (h wr)) rfl);obtain⟨O,D⟩:∃W:G,ZV wr (N #[J I 0,Z Y 0 0,J I 0,J I 0,ZC ZB,J I 0,U ⟨#[]⟩,ZC ZB,U ⟨#[]⟩,ZC ZB] 155)=W:=⟨_,rfl⟩
   obtain⟨A2,-,-⟩:=nb1 D;have H:=ae D;clear D;have XN:=ae (u.aa A2 u.1);have BN:=ae (ZP.trans (A2.mono ZP.size));have cN:=(A2.cell (p:=(Q (A (h w)) 0 Y)) (by simp;omega)).trans cp;have S:A (h wr)<A (h O):=by cases H.out;simp
   go_wp2_with fail;clear c1 cp;rw[H.out] at RN ⊢;clear H;generalize (A (h wr))=t at RN zr S ⊢;have th:V<t:=lj R.1 (by omega);have sm:pb<t:=lj HP.1 (by omega);have S0:Hid (wM O t (A (h O)) f cnt y j ZM 2002):=.inl ⟨0,0,0,[],Y,0,RN,CL _ _ _ _,by omega,ET.symm,by omega,by omega,by simp,by simp,by omega⟩;have PN:=ae (HP.aa BN ly);have YN:=ae (R.aa BN ly);clear RN ET u ZP ex q HX B1 HP R;go_loopg [] 2002 (λg wr=>wM wr t (A (h O)) f cnt y j ZM g/\Only t O wr);case atStart=>exact⟨S0,Only.refl _ _⟩
   case round =>
    obtain⟨hst,ZQ⟩:=hrel;have HO:=ae ZQ;have cw:ZW wr (Q (A (h w)) 0 Y)=T (Z (T (Q pb m Y)) cnt cap):=(ZQ.cell (A (h w)) 0 (by omega) (by omega)).trans cN;have bt:t<A (h wr):=lj S ZQ.size;have aq:=ae (ZQ.aa (j6 t) (PD S));have BW:=ae (BN.trans (ZQ.aa (show (A (h w))<=t by omega) (by omega)));have XW:=ae (XN.ac ZQ (by omega));have zw:A (h w)+1<A (h wr):=XW.1;clear ZQ;rcases hst with ⟨p,st,l,s,a,ld,b,ZL,k1,k2,k3,k4,k5,k6,k7⟩|⟨at_,sv,lk,c,x,st,b,ZZ⟩|⟨at_,sv,lk,a,nm,st,b,ZZ⟩
    ·have qr:=ae b;have OW:=ae ZL;have n8:=ae (Fc k1 k4 k5 k6 HV n7 HK k2);have K6:=ae k6;have PW:Hid (RowIns wr pb m cnt f):=⟨lj PN.1 HO.size,λi hi=>(PN.2 i hi).aa aq sm⟩
     have YW:Hid (RowReply wr V o2 j y):=⟨lj YN.1 HO.size,λi hi=>(YN.2 i hi).aa aq th⟩
     obtain⟨ZJ,⟨c0,f0⟩,⟨c1,f1⟩,⟨c2,f2⟩,⟨c3,f3⟩,⟨c4,f4⟩,⟨c5,f5⟩,⟨c6,f6⟩,⟨c7,f7⟩,⟨c8,f8⟩,c9,f9⟩:=b;clear ZL k2 k6;go_wp2_with fail;refine(yu pb m cnt cap p st l f a s ld V o2 j P (A (h O)) y _ PW YW OW k3 k1 k4 k5 K6 HV).mono ?_;rintro e w3 ⟨v,rfl,M,X⟩;have ZO:=ae (qr.aa X bt);have O3:=ae (HO.az X);clear ZJ c0 f0 c1 f1 c2 f2 c3 f3 c4 f4 c5 f5 c6 f6 c7 f7 c8 f8 c9 f9;clear X;have o:=n8.out;obtain⟨g,rfl⟩:∃g,gk=g+1:=⟨gk - 1,by omega⟩
     generalize fN f cnt y j p st l s=so at M o;rcases so with ⟨p',n9,l',s'⟩|⟨c,x,k⟩|⟨a1,nm,k⟩
     ·obtain⟨a',c',rfl,fd⟩:=M;obtain⟨m1,m2,m3,m4,m5,m6,m7⟩:=o;have OE:=ae fd;have M3:=ae m3;have M7:=ae m7;have M1:=ae m1;clear fd m3 m7 m1;obtain⟨la,⟨e0,u0⟩,⟨e1,u1⟩,⟨e2,u2⟩,⟨e3,u3⟩,⟨e4,u4⟩,⟨e5,u5⟩,⟨e6,u6⟩,⟨e7,u7⟩,⟨e8,u8⟩,e9,u9⟩:=ZO.out;go_wp2;go_roundg g;case measure=>omega
      case rel=>exact⟨.inl ⟨p',n9,l',s',a',c',ZO.put _ _ _ _ _ _ _ _ _ _,aA (Fe OE bt _ _ _ _ _ _ _ _ _ _) HO.size,m2,M3,m4,m5,m6,M7,by have:=M1.out;omega⟩,oH O3 _ _ _ _ _ _ _ _ _ _⟩
     ·obtain⟨at_,a',n',c',lk,rfl⟩:=M;have ZZ:ZM=fL c x k:=o;have ZY:=ae ZZ;clear ZZ o;obtain⟨la,⟨e0,u0⟩,⟨e1,u1⟩,⟨e2,u2⟩,⟨e3,u3⟩,⟨e4,u4⟩,⟨e5,u5⟩,⟨e6,u6⟩,⟨e7,u7⟩,⟨e8,u8⟩,e9,u9⟩:=ZO.out;go_wp2;go_roundg g;case measure=>omega
      case rel=>exact⟨.inr (.inl ⟨_,_,_,_,_,_,ZO.put _ _ _ _ _ _ _ _ _ _,ZY⟩),oH O3 _ _ _ _ _ _ _ _ _ _⟩
     ·obtain⟨at_,a',n',c',lk,rfl⟩:=M;have ZZ:ZM=nh a1 nm k:=o;have ZY:=ae ZZ;clear ZZ o;obtain⟨la,⟨e0,u0⟩,⟨e1,u1⟩,⟨e2,u2⟩,⟨e3,u3⟩,⟨e4,u4⟩,⟨e5,u5⟩,⟨e6,u6⟩,⟨e7,u7⟩,⟨e8,u8⟩,e9,u9⟩:=ZO.out;go_wp2;go_roundg g;case measure=>omega
      case rel=>exact⟨.inr (.inr ⟨_,_,_,_,_,_,ZO.put _ _ _ _ _ _ _ _ _ _,ZY⟩),oH O3 _ _ _ _ _ _ _ _ _ _⟩
    {have ZY:=ae ZZ;obtain⟨ZJ,⟨c0,f0⟩,⟨c1,f1⟩,⟨c2,f2⟩,⟨c3,f3⟩,⟨c4,f4⟩,⟨c5,f5⟩,⟨c6,f6⟩,⟨c7,f7⟩,⟨c8,f8⟩,c9,f9⟩:=b;obtain⟨⟨v0,ZS,y0⟩,⟨v1,E,y1⟩,⟨v2,K,y2⟩,⟨v3,C,y3⟩,⟨v4,B,y4⟩,⟨v5,z,y5⟩⟩:=bl6 XW.2;clear ZZ;go_wp2;refine bp (v:=ZM.v) (by rw[ZY.out];simp[results,QH,go_sem,Turn.v,fL,ZS,E,K,C,B,z]) rfl ⟨rfl,fJ BW (by omega) _ _ _ _ _ _⟩};{have ZY:=ae ZZ;obtain⟨ZJ,⟨c0,f0⟩,⟨c1,f1⟩,⟨c2,f2⟩,⟨c3,f3⟩,⟨c4,f4⟩,⟨c5,f5⟩,⟨c6,f6⟩,⟨c7,f7⟩,⟨c8,f8⟩,c9,f9⟩:=b;obtain⟨⟨v0,ZS,y0⟩,⟨v1,E,y1⟩,⟨v2,K,y2⟩,⟨v3,C,y3⟩,⟨v4,B,y4⟩,⟨v5,z,y5⟩⟩:=bl6 XW.2;clear ZZ;go_wp2;refine bp (v:=ZM.v) (by rw[ZY.out];simp[results,QH,go_sem,Turn.v,nh,ZS,E,K,C,B,z]) rfl ⟨rfl,fJ BW (by omega) _ _ _ _ _ _⟩}
theorem mF (pb g cnt cap o j n b:Nat)(f:Nat->Ins)(y:Nat->ay)(w:G)(hn:cnt<=1048576)(l:RowIns w pb g cnt f)(q:RowReply w o j n y)(m:∀i,i<cnt->(f i).s.size<=maxLen):Calls Pg 67 #[ZH #[Z (T (Q pb g Y)) cnt cap],Z (T (Q o j Y)) n b] w λe r=>e=ZG (nr f cnt y n).v/\Below (A (h w)) w r:=by
 unfold nr;by_cases h1:valid f cnt=ZB;{rw[hU h1];exact nS pb g cnt cap n b _ f w hn (λZZ=>absurd (h1.symm.trans ZZ) (by simp)) l m}
 ·have p:valid f cnt=ZF:=by simpa using h1
  rw[eT h1];by_cases h2:200<n;{rw[hU h2];exact nS pb g cnt cap n b _ f w hn (λ_=>by omega) l m};{rw[eT h2];exact vK pb g cnt cap o j n b f y w hn p (by omega) l q m _ rfl}
def kC (y:Nat->ay)(i:Nat):List ZD:=[ZC (y i).has,J I (y i).E,U (y i).B]
def lF (y:Nat->ay):Nat->List ZD
 |0=>[]
 |k+1=>lF y k++kC y k
theorem oI (y:Nat->ay)(k:Nat):(lF y k).length=k*3:=by
 induction k with
 |zero=>rfl
 |succ k b=>simp[lF,kC,b];omega
theorem wN (y:Nat->ay){i j:Nat}(b:j<3):∀k,i<k->(lF y k)[i*3+j]?=(kC y i)[j]?
 |0,ZZ=>absurd ZZ (IT _)
 |k+1,ZZ=>by
  rw[lF];by_cases e:i=k
  ·subst e
   rw[KL (by rw[oI];omega),oI,show i*3+j - i*3=j by omega]
  ·rw[KO (by rw[oI];omega)]
   exact wN y b k (by omega)
theorem vL{m c k:Nat}(ZZ:ZX w m 125 3 (Z (T (Q g 0 Y)) k c) k (lF y k)):RowReply w g 0 k y:=by
 rcases ZZ.2 with ⟨f,h0⟩|⟨g',cap,l,f,hb,n,hc1,hc2,hc3,q⟩
 {simp at f}
 ·simp only[KU,KN,OR] at f;obtain⟨⟨rfl,-⟩,-,rfl⟩:=f;have o:g<A (h w):=by
   rcases MJ g (A (h w)) with h1|h1;{exact h1};{rw[MO h1] at n;simp at n}
  have b:∀i j,i<k->j<3->ZW w (Q g (0+i*3+j) Y)=(kC y i)[j]?:=by
   intro i j hi s;have r:ZW w (Q g (0+i*3+j) Y)=l[i*3+j]?:=by simp[World.cell?,n]
   have p:(l.toList.take (k*3))[i*3+j]?=(lF y k)[i*3+j]?:=by rw[q]
   rw[UO,hU (by omega),KV,wN y s k hi] at p;rw[r,p]
  refine⟨o,λi hi=>⟨?_,?_,?_⟩⟩;{exact b i 0 hi (by omega)};{exact b i 1 hi (by omega)};{exact b i 2 hi (by omega)}
theorem mG (w:G)(x y z:ZD)(t:ZI):∀j u,[x,y,z][j]?=T u->(ZV w (N #[x,y,z] t)).cell? (((Q (A (h w)) 0 Y):Addr).add j)=T u:=by
 intro j u b;match j,b with
 |0,b=>simp at b;subst b;simp[Addr.add]
 |1,b=>simp at b;subst b;simp[Addr.add]
 |2,b=>simp at b;subst b;simp[Addr.add]
theorem zZ:(Pg.info? 125).map (λi=>(i.zero,i.size,i.bytes))=T (T (ZH #[ZC ZB,J I 0,U ⟨#[]⟩]),3,32):=by kernel_rfl
theorem yv{b:Nat}{v:ZD}{i:List ZD}(ZZ:ZX w b e 3 v n i)(hn:0<n):∃g c,v=Z (T (Q g 0 Y)) n c:=by
 rcases ZZ.2 with ⟨f,h0⟩|⟨g,cap,cur,f,_⟩
 {omega};{exact⟨g,cap,f⟩}
def Ei:ZD->Nat
 |Z _ n _=>n
 |_=>0
theorem mH {f:Nat->af}{p:Nat}:∀k,k<=(f p).f->(∀i,i<k->eo f p i=ZB)->ep f p ((f p).f - k) k=bo f p
 |0,_,_=>rfl
 |k+1,hk,ZZ=>by have:=mH (f:=f) (p:=p) k (by omega) λi hi=>ZZ i (by omega);rw[<-this,show(f p).f - k=((f p).f - (k+1))+1 by omega,uc (ZZ k (by omega))]
theorem Cu{k:Nat}(hk:k<(f p).f)(ZZ:∀i,i<k->eo f p i=ZB)(b:eo f p k=ZF):bo f p=k:=by rw[<-mH k (by omega) ZZ,show(f p).f - k=((f p).f - (k+1))+1 by omega,ud b]
theorem Cv (ZZ:∀i,i<(f p).f->eo f p i=ZB):bo f p=(f p).f:=by rw[<-mH (f p).f ly ZZ,RV];rfl
theorem uf{k:Nat}(b:k<(f p).f)(ZZ:∀i,i<k->eo f p i=ZB)(g:eo f p k=ZF):fS f p=4:=by unfold fS;rw[Cu b ZZ g,hU b]
theorem ug (ZZ:∀i,i<(f p).f->eo f p i=ZB):fS f p=if (aZ f p (f p).f).K=ZB then 4 else if (aZ f p (f p).f).E=(f p).E/\(aZ f p (f p).f).B.toList=(f p).B.toList then 0 else 5:=by unfold fS;rw[Cv ZZ,eT (Nat.lt_irrefl _)]
theorem Cw{k:Nat}(b:aK f n=ZF)(g:p<n)(hk3:(f p).H=3)(hk:k<=(f p).f):nr (f p).u (f p).l (yOf f p) k=aZ f p k:=by
 have m:valid (f p).u (f p).l=ZF/\(f p).f<=200:=by
  rcases(d9 b p g).2 with ZZ|ZZ|ZZ;{omega};{omega};{exact⟨ZZ.2.2.2.1,ZZ.2.2.2.2⟩}
 have l:bP (yOf f p) k=ZF:=ue λi hi=>wL b λj=>Nat.lt_trans (eA b p g i (by omega) j).2.1 g;unfold nr aZ;rw[eT (by rw[m.1];simp),eT (by omega),eT (by rw[l];simp)]
theorem Aa (r m n cap:Nat)(f:Nat->af)(p:Nat)(w:G)(_hn:(n:Int)<=400)(z:aK f n=ZF)(V:p<n)(hk:(f p).H=3)(K:RowDeed w r m n f)(ur:eY (f p)):Calls Pg 33 #[ZH #[Z (T (Q r m Y)) n cap],J I p] w λe w'=>e=ZG (J I (fS f p))/\Below (A (h w)) w w':=by
 obtain⟨i0,hi,Hi,Fn,Hl⟩:=KQ zZ;have hN:(f p).f<=200:=by
  rcases(d9 z p V).2 with ZZ|ZZ|ZZ;{omega};{omega};{exact ZZ.2.2.2.2}
 have hv:valid (f p).u (f p).l=ZF:=by
  rcases(d9 z p V).2 with ZZ|ZZ|ZZ;{omega};{omega};{exact ZZ.2.2.2.1}
 have DS:(f p).l<=200:=by have:=(bO hv).2.2;omega
 have Fm:=ae (λk (Fd:k<=(f p).f)=>Cw z V hk Fd);have DQ:=ae (λj (hj:j<(f p).f) (ha:((f p).m j).ask=ZF)=>(⟨(eA z p V j hj ha).1,Nat.lt_trans (eA z p V j hj ha).2.1 V⟩:0<=((f p).m j).L/\((f p).m j).L.toNat<n));have Hk:=ae (show ∀i,i<(f p).l->((f p).u i).s.size<=maxLen from ur.2.2.1.2);have ZP:=ae K;obtain⟨o0,o1,o2,o3,⟨a0,o,o4,hI⟩,⟨a1,q,o5,ld⟩⟩:=K.2 p V;obtain⟨pb,y,rfl,n7⟩:∃pb y,a0=T (Q pb y Y)/\RowIns w pb y (f p).l (f p).u:=by
  have:=(bO hv).2;rcases hI with ZZ|⟨b,off,e,hr⟩
  {omega};{exact⟨b,off,e,hr⟩}
 have HI:=ae n7;have ph:=ae ld;have D:=K.1;clear n7 hI ld K ur z hk hv;have hpn:(p:Int)<n:=by omega
 obtain⟨C,hC⟩:∃C,C=fS f p:=⟨_,rfl⟩
 rw[<-hC];have HC:=ae hC;clear hC;have ZN:=ae ((q9 w).alloc ly (N #[Z (T (Q r m Y)) n cap] 25));have ZL:=ae (ZN.out.alloc ZN.out.size (N #[U (f p).e,J I (f p).H,J I (f p).E,U (f p).B,Z (T (Q pb y Y)) (f p).l o,Z a1 (f p).f q] 44));have zD:A (h (ZV (ZV w (N #[Z (T (Q r m Y)) n cap] 25)) (N #[U (f p).e,J I (f p).H,J I (f p).E,U (f p).B,Z (T (Q pb y Y)) (f p).l o,Z a1 (f p).f q] 44)))=A (h w)+2:=by simp
 have kA:ZW (ZV (ZV w (N #[Z (T (Q r m Y)) n cap] 25)) (N #[U (f p).e,J I (f p).H,J I (f p).E,U (f p).B,Z (T (Q pb y Y)) (f p).l o,Z a1 (f p).f q] 44)) (Q (A (h w)) 0 Y)=T (Z (T (Q r m Y)) n cap):=by simp[go_sem]
 have ro:ZW (ZV (ZV w (N #[Z (T (Q r m Y)) n cap] 25)) (N #[U (f p).e,J I (f p).H,J I (f p).E,U (f p).B,Z (T (Q pb y Y)) (f p).l o,Z a1 (f p).f q] 44)) (Q (A (h w)+1) 2 Y)=T (J I (f p).E):=by simp[go_sem]
 have qr:ZW (ZV (ZV w (N #[Z (T (Q r m Y)) n cap] 25)) (N #[U (f p).e,J I (f p).H,J I (f p).E,U (f p).B,Z (T (Q pb y Y)) (f p).l o,Z a1 (f p).f q] 44)) (Q (A (h w)+1) 3 Y)=T (U (f p).B):=by simp[go_sem]
 have n8:ZW (ZV (ZV w (N #[Z (T (Q r m Y)) n cap] 25)) (N #[U (f p).e,J I (f p).H,J I (f p).E,U (f p).B,Z (T (Q pb y Y)) (f p).l o,Z a1 (f p).f q] 44)) (Q (A (h w)+1) 4 Y)=T (Z (T (Q pb y Y)) (f p).l o):=by simp[go_sem]
 have fd:ZW (ZV (ZV w (N #[Z (T (Q r m Y)) n cap] 25)) (N #[U (f p).e,J I (f p).H,J I (f p).E,U (f p).B,Z (T (Q pb y Y)) (f p).l o,Z a1 (f p).f q] 44)) (Q (A (h w)+1) 5 Y)=T (Z a1 (f p).f q):=by simp[go_sem]
 have p0:=(ZN.out.cell (p:=(Q r (m+p*6) Y)) D).trans o0;have p1:=(ZN.out.cell (p:=(Q r (m+p*6+1) Y)) D).trans o1;have p2:=(ZN.out.cell (p:=(Q r (m+p*6+2) Y)) D).trans o2;have p3:=(ZN.out.cell (p:=(Q r (m+p*6+3) Y)) D).trans o3;have p4:=(ZN.out.cell (p:=(Q r (m+p*6+4) Y)) D).trans o4;have p5:=(ZN.out.cell (p:=(Q r (m+p*6+5) Y)) D).trans o5;clear o0 o1 o2 o3 o4 o5;have OL:=ae (by have ZZ:=En (ZV (ZV w (N #[Z (T (Q r m Y)) n cap] 25)) (N #[U (f p).e,J I (f p).H,J I (f p).E,U (f p).B,Z (T (Q pb y Y)) (f p).l o,Z a1 (f p).f q] 44)) 125 3;rw[zD] at ZZ;exact ZZ);have BL:=ae ((cM (A (h w)+2) (ZV (ZV w (N #[Z (T (Q r m Y)) n cap] 25)) (N #[U (f p).e,J I (f p).H,J I (f p).E,U (f p).B,Z (T (Q pb y Y)) (f p).l o,Z a1 (f p).f q] 44))).alloc (by rw[zD];exact j6 _) (N #[] 125));go_enter func33,ntmps33;go_wp2;clear p0 p1 p2 p3 p4 p5;generalize World.alloc (World.alloc w _) _=n9 at ZL zD kA ro qr n8 fd OL BL ⊢;generalize World.alloc n9 _=W0 at OL BL ⊢;go_loopw [6] (λv wr=>∃(k g c:Nat),k<=(f p).f/\v=Z (T (Q g 0 Y)) k c/\Hid (wr.ownsRow (A (h w)+2) 125 3 (Z (T (Q g 0 Y)) k c) k (lF (yOf f p) k))/\Hid (∀i,i<k->eo f p i=ZB)/\Hid (Below (A (h w)+2) n9 wr)) (λv _=>(f p).f+1 - Ei v);case atStart=>exact⟨0,A (h w)+2,0,by omega,rfl,OL.out,λi hi=>absurd hi (IT _),BL.out⟩
 case round =>
  obtain⟨k,g,c,Fk,rfl,HO,HF,HB⟩:=hrel;have RW:=ae (ZL.out.trans (HB.out.mono (by omega)));have d4:=(HB.out.cell (p:=(Q (A (h w)+1) 4 Y)) (show (A (h w))+1<A (h w)+2 by omega)).trans n8;go_wp2_with fail;clear d4;refine(mF pb y (f p).l o g 0 k c (f p).u (yOf f p) _ (by omega) (HI.out.aa RW.out ly) (vL HO.out) Hk.out).mono ?_;rintro e w1 ⟨rfl,aq⟩;rw[Fm.out k Fk];obtain⟨t,ht⟩:∃t,t=aZ f p k:=⟨_,rfl⟩
  rw[<-ht];have ZS:=ae ht;have P:=ae (HB.out.trans (aq.mono (by have:=HB.out.size;omega)));have O1:=ae (own_below HO.out aq ly);have X:A (h w)+2<=A (h w1):=by have:=P.out.size;omega
  have hz2:A (h w)+1<A (h w1):=by omega
  have hz3:A (h w)<A (h w1):=by omega
  have d2:=(P.out.cell (p:=(Q (A (h w)+1) 2 Y)) (show (A (h w))+1<A (h w)+2 by omega)).trans ro;have d3:=(P.out.cell (p:=(Q (A (h w)+1) 3 Y)) (show (A (h w))+1<A (h w)+2 by omega)).trans qr;have d5:=(P.out.cell (p:=(Q (A (h w)+1) 5 Y)) (show (A (h w))+1<A (h w)+2 by omega)).trans fd;have O:=ae (P.out.alloc X (N #[ZC t.K,J I t.E,U t.B,ZC t.ask,U t.e,J I t.j] 122));have ZY:=ae (ZL.out.trans (O.out.mono (by omega)));have W:=ae (O1.out.alloc (N #[ZC t.K,J I t.E,U t.B,ZC t.ask,U t.e,J I t.j] 122));clear ht aq HO HB;simp only[Turn.v];cases ho:t.K with
  |true =>
   rw[ho] at O ZY W;by_cases B:k<(f p).f
   ·have DE:(k:Int)<(f p).f:=by omega
    have u:Hid (eo f p k=ZF):=by show _=_;unfold eo;rw[<-ZS.out];rw[ho];rfl
    have x:Hid (C=4):=by show _=_;rw[HC.out];exact uf B HF.out u.out
    go_wp2;go_ret;exact⟨by simp[x.out],ZY.out⟩
   ·obtain rfl:k=(f p).f:=by omega
    have R:=ae (ug HF.out);by_cases hc:t.E=(f p).E
    ·cases htx:(t.B.toList == (f p).B.toList) with
     |true =>
      have x:Hid (C=0):=by show _=_;rw[HC.out,R.out,<-ZS.out,ho,eT (by simp),hU ⟨hc,ON.1 htx⟩]
      go_wp2;go_ret;exact⟨by simp[x.out],ZL.out.trans ((P.out.alloc X _).mono (by omega))⟩
     |false =>
      have x:Hid (C=5):=by show _=_;rw[HC.out,R.out,<-ZS.out,ho,eT (by simp),eT (λZZ=>by rw[ZZ.2] at htx;simp at htx)]
      go_wp2;go_ret;exact⟨by simp[x.out],ZL.out.trans ((P.out.alloc X _).mono (by omega))⟩
    ·have x:Hid (C=5):=by show _=_;rw[HC.out,R.out,<-ZS.out,ho,eT (by simp),eT (λZZ=>hc ZZ.1)]
     have DS:(t.E == (f p).E)=ZB:=by simpa using hc
     go_wp2;go_ret;exact⟨by simp[x.out],ZL.out.trans ((P.out.alloc X _).mono (by omega))⟩
  |false =>
   rw[ho] at O ZY W;by_cases B:k<(f p).f
   ·have DE:(k:Int)<(f p).f:=by omega
    have hge:decide ((f p).f<=k)=ZB:=by simp;omega
    obtain⟨bl,offl,rfl,th⟩:=(ph.out.aa ZY.out ly).resolve_left (by omega);obtain⟨r0,r1,ZQ,L⟩:=th.2 k B;obtain⟨l,hl⟩:∃l,(f p).m k=l:=⟨_,rfl⟩
    rw[hl] at r0 r1 ZQ L;obtain⟨nm,ask,hs,at_⟩:=l;dsimp only at r0 r1 ZQ L;have S:=ae hl;clear th hl;have ZO:(t.e.toList == nm.toList)=(nm.toList == t.e.toList):=by rw[MF,ON,ON];exact eq_comm
    have WY:(eo f p k=ZF/\((nm.toList == t.e.toList)=ZB∨(nm.toList == t.e.toList)=ZF/\(t.ask=ZF/\ask=ZB∨t.ask=ZB/\ask=ZF)))∨(eo f p k=ZB/\(nm.toList == t.e.toList)=ZF/\t.ask=ask):=by unfold eo;rw[<-ZS.out,S.out,ho,ZO];cases (nm.toList == t.e.toList)<;>cases t.ask<;>cases ask<;>simp
    rcases WY with ⟨u,WY⟩|⟨u,hn,ZM⟩
    ·replace u:=ae u;have x:Hid (C=4):=by show _=_;rw[HC.out];exact uf B HF.out u.out
     rcases WY with hn|⟨hn,⟨ZM,rfl⟩|⟨ZM,rfl⟩⟩
     all_goals
      have GS:=ZO.trans hn;clear ZO
      (try rw[ZM] at O ZY W r0 r1 ZQ L)
      go_wp2_with fail;go_quiet (fail);have M:=ae (BG ZY.out nq);clear r0 r1 ZQ L O ZY W d2 d3 d5;generalize World.drewN (World.alloc w1 _) nq=WQ at M ⊢;go_wp2;go_ret;exact⟨by simp[x.out],M.out⟩
    ·replace u:=ae u;have GS:=ZO.trans hn;clear ZO;rw[ZM] at O ZY W r0 r1 ZQ L;have HY:Hid (dV f ⟨nm,ask,hs,at_⟩=yOf f p k):=by show _=_;unfold yOf;rw[S.out]
     have Hj:Hid (ask=ZF->0<=at_/\at_.toNat<n):=λha=>by have:=DQ.out k B (by rw[S.out];exact ha);rw[S.out] at this;exact this
     cases ask
     all_goals
      go_wp2_with fail;go_quiet (fail);have M:=ae (BG O.out nq);have ZK:=ae (ZL.out.trans (M.out.mono (by omega)));have OQ:=ae (own_below W.out (BG br nq) ly);clear r0 r1 ZQ L O ZY W d2 d3 d5;generalize World.drewN (World.alloc w1 _) nq=WQ at M ZK OQ ⊢;have kA2:=(M.out.cell (p:=(Q (A (h w)) 0 Y)) (show (A (h w))<A (h w)+2 by omega)).trans kA;have d5:=(M.out.cell (p:=(Q (A (h w)+1) 5 Y)) (show (A (h w))+1<A (h w)+2 by omega)).trans fd;have Bk:=(ph.out.aa ZK.out ly).resolve_left (by omega);obtain⟨bl2,offl2,eb,bt⟩:=Bk;simp only[KN,OR,and_true] at eb;obtain⟨rfl,rfl⟩:=eb;obtain⟨r0,r1,ZQ,L⟩:=bt.2 k B;rw[S.out] at r0 r1 ZQ L;dsimp only at r0 r1 ZQ L;have sm:A (h w)+2<=A (h WQ):=by have:=M.out.size;omega
      clear bt;go_wp2_with fail
      go_region_law (first
       |(refine dr rfl (.tmp 67) (.tmp 75) 120 rfl (A (h w)+2) 125 i0 (ZH #[ZC ZB,J I 0,U ⟨#[]⟩]) 3 32 UQ hi Hi Fn Hl rfl (by decide) (Z (T (Q g 0 Y)) k c) k (lF (yOf f p) k) (by simp[Act.eval]) (by first|exact O5.out.alloc _|exact O5.out.drew.alloc _|exact O5.out.drew.drew.alloc _) (Q (A (h ZJ)) 0 Y) 1 1 (kC (yOf f p) k) (by simp[Act.eval]) rfl (by first|exact mG ZJ _ _ _ _|exact mG ZJ.drew _ _ _ _|exact mG ZJ.drew.drew _ _ _ _) (by simp[kC,Value.oneCell']) (by unfold maxLen;omega) (by omega) (by simp<;>omega) ?_;intro v6 w6 ex H At;have O6:=ae ex;(first|have B6:=ae (bg (B5.out.alloc la _) H (by simp<;>omega) (λj e=>(O5.out.lt j e).1))|have B6:=ae (bg (B5.out.drew.alloc (by simpa using la) _) H (by simp<;>omega) (λj e=>(O5.out.lt j e).1)));clear ex H At)
       |(go_simp;go_at_call 68;(first|(guard_hyp ZM:t.ask=ZF;refine(mE r m n cap f ⟨nm,ZF,hs,at_⟩ _ ?_ (λ_=>Hj.out (by simp))).mono ?_)|refine(mE r m n cap f ⟨nm,ZB,hs,at_⟩ _ ?_ (λZZ=>by cases ZZ)).mono ?_);(first|exact ZP.out.aa ZK.out ly|exact ZP.out.aa ZK.out.drew ly|exact ZP.out.aa ZK.out.drew.drew ly|exact ZP.out.aa ZK.out.drew.drew.drew ly);rintro e ZJ ⟨rfl,E⟩;rw[HY.out];have D5:Hid (Below (A (h WQ)) WQ ZJ):=⟨E.os,E.tape,E.output,E.size,E.block⟩;have O5:=ae (own_below OQ.out D5.out ly);have B5:=ae (M.out.trans (D5.out.mono sm));have la:A (h w)+2<=A (h ZJ):=(AD sm D5.out.size);clear E))
      all_goals
       obtain⟨g6,c6,rfl⟩:=yv O6.out (by omega);go_simp;go_wp2
       exact⟨⟨k+1,g6,c6,by omega,rfl,O6.out,λi hi=>by
        by_cases e:i=k
        ·subst e;exact u.out
        ·exact HF.out i (by omega),B6.out⟩,by simp[Ei];omega⟩
   ·obtain rfl:k=(f p).f:=by omega
    have R:=ae (ug HF.out);have x:Hid (C=4):=by show _=_;rw[HC.out,R.out,<-ZS.out,ho,hU rfl]
    go_wp2_with fail;go_quiet (fail);go_wp2;go_ret;exact⟨by simp[x.out],by first|exact BG ZY.out _|exact ZY.out⟩
