import Derived.Test.YtoddkejemcbkmaaGreatDoorQK
import Derived.Deep.CutBlock
set_option maxRecDepth 1000000
set_option maxHeartbeats 8000000
set_option linter.unusedSimpArgs false
open Go renaming Addr.mk->Q,Value.slice->Z,Value.string->U,Value.int->J,Value.bool->ZD,Obj.cells->N,IntKind.i64->I,World->M,Value->ZC,Ending.returned->ZF
open Option renaming none->Y,some->T
open Bool renaming false->ZA,true->ZG
namespace Go.Proofs.YtoddkejemcbkmaaGreatDoor.Vp
open Tryz RowKit
variable {f:Nat->Ins}{w:M}{place steps looks n g:Nat}{b s:List ByteArray}
theorem yX (pb po cnt ld place steps looks:Nat)(f:Nat->Ins)(a:Option Addr)(s:List ByteArray)(cap b2 o2 n Js Bk:Nat)(y:Nat->aK)(w:M)
  (hP:RowIns w pb po cnt f) (hY:RowReply w b2 o2 n y) (hO:w.ownsRow Bk 9 1 (Z a s.length cap) s.length (strs s)) (hp:place<=2000) (hst:steps<=2000) (JR:looks<=200) (hs:s.length<=50) (JG:∀x∈s,x.size<=2000) (JC:dA f cnt=ZG) :
  Calls Tryz.prog 174 #[.agg #[Z (T (Q pb po Y)) cnt ld],eh place (Z a s.length cap) steps looks ZA 0 ⟨#[]⟩ ZA ⟨#[]⟩ ZA,Z (T (Q b2 o2 Y)) n Js] w λe w'=>∃v,e=ZF v/\SoIs w' w.heap.size v (fU f cnt y n place steps looks s)/\Below w.heap.size w w':=by
 obtain⟨so,mv⟩:∃so,so=fU f cnt y n place steps looks s:=⟨_,rfl⟩
 rw[<-mv];have S0:=ae mv;clear mv;have HP:=ae hP;have HY:=ae hY;have HO:=ae hO;have HK:=ae JC;have HL:=ae JG;clear hP hY hO JC JG;have A0:=ae ((((q9 w).alloc ly (N #[Z (T (Q pb po Y)) cnt ld] 59)).alloc (by simp) (N #[J I place,Z a s.length cap,J I steps,J I looks,ZD ZA,J I 0,U ⟨#[]⟩,ZD ZA,U ⟨#[]⟩,ZD ZA] 238)).alloc (by simp<;>omega) (N #[J I 0,Z Y 0 0,J I 0,J I 0,ZD ZA,J I 0,U ⟨#[]⟩,ZD ZA,U ⟨#[]⟩,ZD ZA] 238));have R0:=ae ((li (w.alloc (N #[Z (T (Q pb po Y)) cnt ld] 59)) (J I place) (Z a s.length cap) (J I steps) (J I looks) (ZD ZA) (J I 0) (U ⟨#[]⟩) (ZD ZA) (U ⟨#[]⟩) (ZD ZA) 238 (w.heap.size+1) (by simp)).al (N #[J I 0,Z Y 0 0,J I 0,J I 0,ZD ZA,J I 0,U ⟨#[]⟩,ZD ZA,U ⟨#[]⟩,ZD ZA] 238));have Z0:=ae (li ((w.alloc (N #[Z (T (Q pb po Y)) cnt ld] 59)).alloc (N #[J I place,Z a s.length cap,J I steps,J I looks,ZD ZA,J I 0,U ⟨#[]⟩,ZD ZA,U ⟨#[]⟩,ZD ZA] 238)) (J I 0) (Z Y 0 0) (J I 0) (J I 0) (ZD ZA) (J I 0) (U ⟨#[]⟩) (ZD ZA) (U ⟨#[]⟩) (ZD ZA) 238 (w.heap.size+1+1) (by simp));go_enter func174,ntmps174;go_wp2_with fail;refine(gy place (by omega) _).mono ?_;rintro e l ⟨rfl,bt⟩;have hD:(⟨(Lib.decDigits place).toArray⟩:ByteArray)=eW place:=rfl;rw[hD];have R1:=ae (R0.aa bt (by simp<;>omega));have Z1:=ae (Z0.aa bt (by simp<;>omega));have B1:=ae (A0.trans (bt.mono (by simp<;>omega)));have pP:l.cell? (Q w.heap.size 0 Y)=T (Z (T (Q pb po Y)) cnt ld):=(bt.cell (p:=(Q w.heap.size 0 Y)) (by simp<;>omega)).trans (Ih _ _ _ _ _ _ _ rfl);have O1:=ae (own_below HO B1 ly);have hz1:w.heap.size+1+1<l.heap.size:=Z1.1;have hz0:w.heap.size<l.heap.size:=by omega
 have hz01:w.heap.size+1<l.heap.size:=by omega
 clear bt A0 R0 Z0 hD;obtain⟨m,⟨c0,f0⟩,⟨c1,f1⟩,⟨c2,S⟩,⟨c3,O⟩,⟨c4,ZL⟩,⟨c5,V⟩,⟨R,f6⟩,⟨X,f7⟩,⟨ZP,P⟩,ZM,ZJ⟩:=R1.out;rcases Int.lt_or_le (place:Int) cnt with h1|h1;rotate_left;{have S1:Hid (so=.inr (.inl (2,(eW place),steps))):=S0.trans (show fU f cnt y n place steps looks s=.inr (.inl (2,(eW place),steps)) by have h:cnt<=place:=(by omega);simp[fU,iD,dm,fm,h]);go_wp2_with fail;refine(fG _ _ _ _ _ _ _ _ _ _ _ _ _ _ _).mono ?_;rintro e w5 ⟨rfl,b⟩;have ZK:=ae (Z1.aa b Z1.1);have D:=ae (B1.trans (b.mono B1.size));clear b;clear m c0 f0 c1 f1 c2 S c3 O c4 ZL c5 V R f6 X f7 ZP P ZM ZJ;obtain⟨la,⟨z0,y0⟩,⟨z1,y1⟩,⟨z2,y2⟩,⟨z3,y3⟩,⟨ZQ,y4⟩,⟨K,y5⟩,⟨ZO,y6⟩,⟨H,y7⟩,⟨L,y8⟩,F,y9⟩:=ZK.out;go_wp2;refine bp (v:=eh place (Z a s.length cap) steps looks ZG 2 (eW place) ZA ⟨#[]⟩ ZA) (by simp[results,PX,go_sem,z0,z1,z2,z3,ZQ,K,ZO,H,L,F]) rfl ⟨_,rfl,(by rw[S1.out];exact⟨_,_,_,_,_,rfl⟩),dY D (by omega) _ _ _ _ _ _ _ _ _ _⟩};rcases Bool.eq_false_or_eq_true ((steps:Int) == 2000) with h2|h2;{have S1:Hid (so=.inr (.inl (3,⟨#[]⟩,steps))):=S0.trans (show fU f cnt y n place steps looks s=.inr (.inl (3,⟨#[]⟩,steps)) by have h:¬ cnt<=place:=(by omega);have e:steps=2000:=(by simp at h2;omega);simp[fU,iD,dm,fm,h,e]);go_wp2_with fail;refine(fG _ _ _ _ _ _ _ _ _ _ _ _ _ _ _).mono ?_;rintro e w5 ⟨rfl,b⟩;have ZK:=ae (Z1.aa b Z1.1);have D:=ae (B1.trans (b.mono B1.size));clear b;clear m c0 f0 c1 f1 c2 S c3 O c4 ZL c5 V R f6 X f7 ZP P ZM ZJ;obtain⟨la,⟨z0,y0⟩,⟨z1,y1⟩,⟨z2,y2⟩,⟨z3,y3⟩,⟨ZQ,y4⟩,⟨K,y5⟩,⟨ZO,y6⟩,⟨H,y7⟩,⟨L,y8⟩,F,y9⟩:=ZK.out;go_wp2;refine bp (v:=eh place (Z a s.length cap) steps looks ZG 3 ⟨#[]⟩ ZA ⟨#[]⟩ ZA) (by simp[results,PX,go_sem,z0,z1,z2,z3,ZQ,K,ZO,H,L,F]) rfl ⟨_,rfl,(by rw[S1.out];exact⟨_,_,_,_,_,rfl⟩),dY D (by omega) _ _ _ _ _ _ _ _ _ _⟩};have hi:=gL HK.out (show place<cnt by omega);simp only[aG,z8] at hi;obtain⟨op,Jq⟩:=BC (show 0<=(f place).op by omega);obtain⟨k,hk⟩:=BC hi.2.2.2.1;have J5:bN (f place).op<=2000:=by unfold bN;split<;>(try split)<;>omega
 have JJ:aF (f place).op<=2000:=by unfold aF;split<;>omega
 have J0:k<=2000:=by omega
 have JX:(f place).s.size<=2000:=by omega
 have th:1<=op:=by omega
 have JB:op<=15:=by omega
 have EP:Hid (so=if jM op s=ZA then .inr (.inl (2,(eW place),(steps+1))) else iD y n place (steps+1) looks (dO op k (f place).s place looks s)):=by
  show _=_;rw[S0.out];have q1:¬ cnt<=place:=by omega
  have q2:¬ steps=2000:=by simp at h2;omega
  simp only[fU,dm,fm,q1,q2,VJ,Jq,hk,Int.toNat_natCast];split<;>rfl
 clear hi J5 JJ HK;obtain⟨d0,d1,d2⟩:=(HP.aa B1 ly).2 place (by omega);rw[Jq] at d0;rw[hk] at d2;have hpb:pb<w.heap.size:=HP.1;have J7:=(cell_far l (Q (w.heap.size+1) 2 Y) (Q pb (po+place*3) Y) (J I ((steps:Int)+1)) (by simp;omega)).trans d0;have JU:=(cell_far l (Q (w.heap.size+1) 2 Y) (Q pb (po+place*3+1) Y) (J I ((steps:Int)+1)) (by simp;omega)).trans d1;have JY:=(cell_far l (Q (w.heap.size+1) 2 Y) (Q pb (po+place*3+2) Y) (J I ((steps:Int)+1)) (by simp;omega)).trans d2;have Jv:∀j,w.heap.size<=j->Value.ownBlock (Z a s.length cap)≠T j:=λj hj e=>by have:=(HO.lt j e).2;omega
 have R2:=ae ((R1.set2 (J I ((steps:Int)+1))).al (N #[J I op,U (f place).s,J I k] 90));have Z2:=ae ((Z1.other (Q (w.heap.size+1) 2 Y) (J I ((steps:Int)+1)) (by simp)).al (N #[J I op,U (f place).s,J I k] 90));have O2:=ae ((TX O1 (a:=(Q (w.heap.size+1) 2 Y)) (Jv _ (by simp)) (J I ((steps:Int)+1))).alloc (N #[J I op,U (f place).s,J I k] 90));have B2:=ae ((B1.setCell (p:=(Q (w.heap.size+1) 2 Y)) (by simp) (J I ((steps:Int)+1))).alloc (by have:=B1.size;simpa using this) (N #[J I op,U (f place).s,J I k] 90));have g0:((l.setCell (Q (w.heap.size+1) 2 Y) (J I ((steps:Int)+1))).alloc (N #[J I op,U (f place).s,J I k] 90)).cell? (Q l.heap.size 0 Y)=T (J I op):=jb _ _ _ _ _ _ (by simp) rfl;have g1:((l.setCell (Q (w.heap.size+1) 2 Y) (J I ((steps:Int)+1))).alloc (N #[J I op,U (f place).s,J I k] 90)).cell? (Q l.heap.size 1 Y)=T (U (f place).s):=jb _ _ _ _ _ _ (by simp) rfl;have g2:((l.setCell (Q (w.heap.size+1) 2 Y) (J I ((steps:Int)+1))).alloc (N #[J I op,U (f place).s,J I k] 90)).cell? (Q l.heap.size 2 Y)=T (J I k):=jb _ _ _ _ _ _ (by simp) rfl;have dg:l.heap.size<((l.setCell (Q (w.heap.size+1) 2 Y) (J I ((steps:Int)+1))).alloc (N #[J I op,U (f place).s,J I k] 90)).heap.size:=by simp
 clear Jv;go_wp2_with fail;refine(vZ op _ th JB).mono ?_;rintro e w9 ⟨rfl,JL⟩;subst JL;clear m c0 f0 c1 f1 c2 S c3 O c4 ZL c5 V R f6 X f7 ZP P ZM ZJ;clear d0 d1 d2 J7 JU JY Jq hk pP;generalize World.alloc (World.setCell l _ _) _=W at R2 Z2 O2 B2 g0 g1 g2 dg ⊢;obtain⟨m,⟨c0,f0⟩,⟨c1,f1⟩,⟨c2,S⟩,⟨c3,O⟩,⟨c4,ZL⟩,⟨c5,V⟩,⟨R,f6⟩,⟨X,f7⟩,⟨ZP,P⟩,ZM,ZJ⟩:=R2.out;have hpt:=Ef op;have JW:aZ op<=2:=by unfold aZ;split<;>(try split)<;>omega
 by_cases hb:jM op s=ZA
 ·have S1:Hid (so=.inr (.inl (2,(eW place),(steps+1)))):=by rw[EP.out,p7 hb];rfl
  have hA:(s.length:Int)<(aZ op:Nat)∨¬ (s.length:Int)<(aZ op:Nat)/\(50:Int)<(s.length:Int) - (aZ op:Nat)+(cu op:Nat):=by simp only[jM,NF] at hb;omega
  clear hb EP;rcases hA with hA|⟨hA,Jz⟩
  iterate 2
   ·go_wp2_with fail
    refine(fG _ _ _ _ _ _ _ _ _ _ _ _ _ _ _).mono ?_;rintro e w5 ⟨rfl,b⟩;have ZK:=ae (Z2.aa b Z2.1);have D:=ae (B2.trans (b.mono B2.size));clear b;clear m c0 f0 c1 f1 c2 S c3 O c4 ZL c5 V R f6 X f7 ZP P ZM ZJ;obtain⟨la,⟨z0,y0⟩,⟨z1,y1⟩,⟨z2,y2⟩,⟨z3,y3⟩,⟨ZQ,y4⟩,⟨K,y5⟩,⟨ZO,y6⟩,⟨H,y7⟩,⟨L,y8⟩,F,y9⟩:=ZK.out;go_wp2;refine bp (v:=eh place (Z a s.length cap) ((steps:Int)+1) looks ZG 2 (eW place) ZA ⟨#[]⟩ ZA) (by simp[results,PX,go_sem,z0,z1,z2,z3,ZQ,K,ZO,H,L,F]) rfl ⟨_,rfl,(by rw[S1.out];exact⟨_,_,_,_,_,rfl⟩),dY D (by omega) _ _ _ _ _ _ _ _ _ _⟩
 have JH:aZ op<=s.length/\s.length - aZ op+cu op<=50:=by simpa[jM] using hb
 have hA:¬ (s.length:Int)<(aZ op:Nat):=by omega
 have Jz:¬ (50:Int)<(s.length:Int) - (aZ op:Nat)+(cu op:Nat):=by omega
 have SO:Hid (so=iD y n place (steps+1) looks (dO op k (f place).s place looks s)):=by rw[EP.out,nD hb];rfl
 have HB:=ae JH.1;have JP:(s.drop (aZ op)).length+cu op<=50:=by rw[MI];omega
 clear hb JH EP;obtain⟨A,JD⟩:∃A,A=lY op s:=⟨_,rfl⟩
 obtain⟨B,bt⟩:∃B,B=qH op s:=⟨_,rfl⟩
 obtain⟨r,ph⟩:∃r,r=s.drop (aZ op):=⟨_,rfl⟩
 rw[<-ph] at JP;have EA:=ae JD;have EB:=ae bt;have ER:=ae ph;clear S0 JD bt ph;go_upto_if 68 with fail;go_cut [11] (λsa ZN=>sa=U A/\W=ZN);case first =>
  by_cases ht:(0:Int)<(aZ op:Nat)
  ·rcases s with _|⟨x,q⟩
   {exact absurd HB.out (by simp;omega)}
   ·obtain⟨g,c,e⟩:=dl O2 (by simp);obtain⟨rfl,-⟩:=QY e;have t1:=Gr O2.out;have JV:q.length<=50:=by simp at hs;omega
    obtain rfl:A=x:=by rw[EA.out];unfold lY;rw[p7 (by omega)];rfl
    rw[eT] at c1;go_wp2;go_meet;exact⟨rfl,rfl⟩
  ·obtain rfl:A=⟨#[]⟩:=by rw[EA.out];unfold lY;rw[nD (by omega)]
   go_wp2;go_meet;exact⟨rfl,rfl⟩
 case rest =>
 obtain⟨rfl,rfl⟩:=hcut;go_upto_if 78 with fail;go_cut [12] (λsa ZN=>sa=U B/\W=ZN);case first =>
  by_cases ht:(1:Int)<(aZ op:Nat)
  ·rcases s with _|⟨x,_|⟨z,q⟩⟩
   {exact absurd HB.out (by simp;omega)};{exact absurd HB.out (by simp;omega)}
   ·obtain⟨g,c,e⟩:=dl O2 (by simp);obtain⟨rfl,-⟩:=QY e;obtain⟨t1,t2⟩:=Gs O2;have JV:q.length+1<=50:=by simp at hs;omega
    obtain rfl:B=z:=by rw[EB.out];unfold qH;rw[p7 (by omega)];rfl
    rw[eT,eT] at c1;go_wp2;go_meet;exact⟨rfl,rfl⟩
  ·obtain rfl:B=⟨#[]⟩:=by rw[EB.out];unfold qH;rw[nD (by omega)]
   go_wp2;go_meet;exact⟨rfl,rfl⟩
 case rest =>
 obtain⟨rfl,rfl⟩:=hcut;have hl:s.length=r.length+aZ op:=by rw[ER.out,MI];have:=HB.out;omega
 go_upto_region 17 with fail;go_cut [13] (λsr ZN=>∃ZI cr,sr=Z (T (Q ZI 0 Y)) r.length cr/\W.heap.size<=ZI/\Hid (ZN.ownsRow W.heap.size 9 1 (Z (T (Q ZI 0 Y)) r.length cr) r.length (strs r))/\Hid (Below W.heap.size W ZN));case first =>
  rcases AU O2.out with ⟨rfl,hz,rfl⟩|⟨g,rfl⟩
  ·obtain rfl:s=[]:=NL.1 hz;obtain rfl:r=[]:=by rw[ER.out];simp
   have Jw:aZ op=0:=by simpa using HB.out
   have h0:((aZ op:Nat):Int)=0:=by rw[Jw];rfl
   have hw3:-((aZ op:Nat):Int)=0:=by rw[h0];decide
   have hw4:0 - ((aZ op:Nat):Int)=0:=by rw[h0];decide
   clear h0 Jw hl;have AL:=ae ((q9 W).alloc ly (N #[] 9));have OM:=ae (NQ (base:=W.heap.size) (e:=9) (size:=1) W #[] 0 ly (by unfold maxLen;omega) rfl);go_wp2;go_meet;exact⟨_,_,rfl,n8 _,OM,AL⟩
  ·have hcap:(r.length:Int)<=cap:=by have:=Gt O2.out;omega
   have JK:Hid (∀j u,(strs r)[j]?=T u->(W.alloc (N #[] 9)).cell? (((Q g 0 Y):Addr).add j)=T u):=Gu (xs:=strs (s.take (aZ op))) (by
    have h:=O2.alloc (N #[] 9);rw[ER.out,<-Ei,NZ]
    exact h)
   obtain⟨t,ht⟩:∃t,t=aZ op:=⟨_,rfl⟩
   rw[<-ht] at hl JW ⊢;rw[hl] at c1 hs;have HS:=ae hs;have HL:=ae hl;clear hs hl;obtain⟨Jr,hi,Hx,Jt,Fn⟩:=LY lw;go_wp2_with (at_builtin;refine BS _ rfl (.tmp 87) (.tmp 95) 66 rfl W.heap.size 9 Jr (U ⟨#[]⟩) 1 16 IH hi Hx Jt Fn rfl (by decide) (Z (T (Q W.heap.size 0 Y)) 0 0) 0 [] (by simp[Act.eval]) (NQ W #[] 0 ly (by unfold maxLen;omega) rfl) (Q g 0 Y) r.length cap (strs r) (by simp[Act.eval]) (by simp[strs]) JK.out (Ee _) (by unfold maxLen;omega) (by omega) (by simp) ?_;intro v' w2 qr DS Jp;simp only[F6,MH] at qr;obtain⟨ZI,cr,rfl,Ju⟩:=rP qr (λe=>by simpa using Jp.1 e);have B3:=ae (bg ((q9 W).alloc ly (N #[] 9)) DS (by simp) (λj e=>by simp[Value.ownBlock] at e;omega));have Fk:=ae qr;clear qr DS Jp);go_meet;exact⟨ZI,cr,rfl,Ju,Fk,B3⟩
 case rest =>
 clear hl hA Jz;obtain⟨ZI,cr,rfl,Ju,Fk,B3⟩:=hcut;have DQ:w.heap.size<=W.heap.size:=B2.size;have ph:w.heap.size+1<W.heap.size:=R2.1;have Fd:w.heap.size+1+1<W.heap.size:=Z2.1;have GS:w.heap.size+1≠ZI:=by omega
 have J6:W.heap.size<=wc.heap.size:=B3.size;clear m c0 f0 c1 f1 c2 S c3 O c4 ZL c5 V R f6 X f7 ZP P ZM ZJ;have R3:=ae (R2.aa B3 R2.1);have Z3:=ae (Z2.aa B3 Z2.1);have G0:=(B3.cell (p:=(Q l.heap.size 0 Y)) dg).trans g0;have G1:=(B3.cell (p:=(Q l.heap.size 1 Y)) dg).trans g1;have G2:=(B3.cell (p:=(Q l.heap.size 2 Y)) dg).trans g2;have R4:=ae (R3.set0 (J I ((place:Int)+1)));have Z4:=ae (Z3.other (Q (w.heap.size+1) 0 Y) (J I ((place:Int)+1)) (by simp));have B4:=ae ((B2.trans (B3.mono B2.size)).setCell (p:=(Q (w.heap.size+1) 0 Y)) (by simp) (J I ((place:Int)+1)));have O4:=ae (dZ Fk GS (J I ((place:Int)+1)) 0);have H0:=(cell_far _ (Q (w.heap.size+1) 0 Y) (Q l.heap.size 0 Y) (J I ((place:Int)+1)) (by simp;omega)).trans G0;have H1:=(cell_far _ (Q (w.heap.size+1) 0 Y) (Q l.heap.size 1 Y) (J I ((place:Int)+1)) (by simp;omega)).trans G1;have H2:=(cell_far _ (Q (w.heap.size+1) 0 Y) (Q l.heap.size 2 Y) (J I ((place:Int)+1)) (by simp;omega)).trans G2;have aq:W.heap.size<=(wc.setCell (Q (w.heap.size+1) 0 Y) (J I ((place:Int)+1))).heap.size:=by simpa using J6
 obtain⟨JM,⟨e0,v0⟩,⟨e1,v1⟩,⟨e2,v2⟩,⟨e3,v3⟩,⟨e4,v4⟩,⟨e5,v5⟩,⟨e6,v6⟩,⟨e7,v7⟩,⟨e8,v8⟩,e9,v9⟩:=R3.out;go_upto_block 0 with fail;clear JM e0 v0 e1 v1 e2 v2 e3 v3 e4 v4 e5 v5 e6 v6 e7 v7 e8 v8 e9 v9;clear g0 g1 g2 G0 G1 G2 B3 R3 Z3 Fk R2 Z2 O2;generalize World.setCell wc _ _=W5 at R4 Z4 B4 O4 H0 H1 H2 aq ⊢;obtain⟨J9,Kc⟩:A.size<=2000/\B.size<=2000:=by rw[EA.out,EB.out];exact uv HL op
 obtain⟨C,JF⟩:∃C,C=mU op k A place:=⟨_,rfl⟩
 have At:=ae JF;clear JF;go_cut [] (λZN=>op<=11/\Hid (Ten ZN (w.heap.size+1) (J I C) (Z a s.length cap) (J I ((steps:Int)+1)) (J I looks) (ZD ZA) (J I 0) (U ⟨#[]⟩) (ZD ZA) (U ⟨#[]⟩) (ZD ZA))/\Hid (Ten ZN (w.heap.size+1+1) (J I 0) (Z Y 0 0) (J I 0) (J I 0) (ZD ZA) (J I 0) (U ⟨#[]⟩) (ZD ZA) (U ⟨#[]⟩) (ZD ZA))/\Hid (Below w.heap.size w ZN)/\Hid (ZN.ownsRow W.heap.size 9 1 (Z (T (Q ZI 0 Y)) r.length cr) r.length (strs r))/\ZN.cell? (Q l.heap.size 0 Y)=T (J I op)/\ZN.cell? (Q l.heap.size 1 Y)=T (U (f place).s)/\ZN.cell? (Q l.heap.size 2 Y)=T (J I k)/\W.heap.size<=ZN.heap.size);case first =>
  obtain⟨m,⟨c0,f0⟩,⟨c1,f1⟩,⟨c2,S⟩,⟨c3,O⟩,⟨c4,ZL⟩,⟨c5,V⟩,⟨R,f6⟩,⟨X,f7⟩,⟨ZP,P⟩,ZM,ZJ⟩:=R4.out;rcases Gx op A JB with rfl|rfl|rfl|rfl|rfl|⟨rfl,q1⟩|⟨rfl,q1,q2⟩|⟨rfl,q1,q2⟩|h9;{go_wp2_with fail;refine(fG _ _ _ _ _ _ _ _ _ _ _ _ _ _ _).mono ?_;rintro e w5 ⟨rfl,b⟩;have ZK:=ae (Z4.aa b Z4.1);have D:=ae (B4.trans (b.mono B4.size));clear b;clear m c0 f0 c1 f1 c2 S c3 O c4 ZL c5 V R f6 X f7 ZP P ZM ZJ;obtain⟨la,⟨z0,y0⟩,⟨z1,y1⟩,⟨z2,y2⟩,⟨z3,y3⟩,⟨ZQ,y4⟩,⟨K,y5⟩,⟨ZO,y6⟩,⟨H,y7⟩,⟨L,y8⟩,F,y9⟩:=ZK.out;go_wp2;refine bp (v:=eh ((place:Int)+1) (Z a s.length cap) ((steps:Int)+1) looks ZG 0 A ZA ⟨#[]⟩ ZA) (by simp[results,PX,go_sem,z0,z1,z2,z3,ZQ,K,ZO,H,L,F]) rfl ⟨_,rfl,(by rw[SO.out,xC _ _ _ _ _ _ _ _ _ (by simp) HB.out,<-EA.out];exact⟨_,_,_,_,_,rfl⟩),dY D (by omega) _ _ _ _ _ _ _ _ _ _⟩};{go_wp2_with fail;refine(fG _ _ _ _ _ _ _ _ _ _ _ _ _ _ _).mono ?_;rintro e w5 ⟨rfl,b⟩;have ZK:=ae (Z4.aa b Z4.1);have D:=ae (B4.trans (b.mono B4.size));clear b;clear m c0 f0 c1 f1 c2 S c3 O c4 ZL c5 V R f6 X f7 ZP P ZM ZJ;obtain⟨la,⟨z0,y0⟩,⟨z1,y1⟩,⟨z2,y2⟩,⟨z3,y3⟩,⟨ZQ,y4⟩,⟨K,y5⟩,⟨ZO,y6⟩,⟨H,y7⟩,⟨L,y8⟩,F,y9⟩:=ZK.out;go_wp2;refine bp (v:=eh ((place:Int)+1) (Z a s.length cap) ((steps:Int)+1) looks ZG 1 A ZA ⟨#[]⟩ ZA) (by simp[results,PX,go_sem,z0,z1,z2,z3,ZQ,K,ZO,H,L,F]) rfl ⟨_,rfl,(by rw[SO.out,xC _ _ _ _ _ _ _ _ _ (by simp) HB.out,<-EA.out];exact⟨_,_,_,_,_,rfl⟩),dY D (by omega) _ _ _ _ _ _ _ _ _ _⟩};iterate 2
   ·go_wp2_with fail
    have Z5:=ae (Z4.other (Q (w.heap.size+1) 1 Y) (Z (T (Q ZI 0 Y)) r.length cr) (by simp));have D:=ae (B4.setCell (p:=(Q (w.heap.size+1) 1 Y)) (by simp) (Z (T (Q ZI 0 Y)) r.length cr));have O5:=ae (dZ O4 GS (Z (T (Q ZI 0 Y)) r.length cr) 1);have Y5:=ae (HY.aa D ly);have hq:=λ(o:Nat) (ho:o=12∨o=13)=>yT o (f place).s k (place+1) (steps+1) looks (T (Q ZI 0 Y)) cr r A (eW place) b2 o2 n Js W.heap.size y _ Y5 O5 (by simpa using aq) ho JR (by omega);rw[show((place+1:Nat):Int)=(place:Int)+1 by omega,show((steps+1:Nat):Int)=(steps:Int)+1 by omega] at hq;refine(hq _ (by simp)).mono ?_;rintro e w5 ⟨v,rfl,mv,b⟩;have J8:=ae mv;obtain⟨l0,l1,l2,l3,l4,l5,l6,l7,l8,l9,Ka,JT,rfl⟩:=mv.aq;have ZK:=ae (Z5.aa b Fd);have B6:=ae (D.trans (b.mono DQ));clear b hq mv;clear m c0 f0 c1 f1 c2 S c3 O c4 ZL c5 V R f6 X f7 ZP P ZM ZJ;obtain⟨la,⟨z0,y0⟩,⟨z1,y1⟩,⟨z2,y2⟩,⟨z3,y3⟩,⟨ZQ,y4⟩,⟨K,y5⟩,⟨ZO,y6⟩,⟨H,y7⟩,⟨L,y8⟩,F,y9⟩:=ZK.out;go_wp2;refine bp (v:=eh l0 (Z l1 l2 l3) l4 l5 l6 l7 l8 l9 Ka JT) (by simp[results,PX,go_sem,z0,z1,z2,z3,ZQ,K,ZO,H,L,F]) rfl ⟨_,rfl,(by rw[SO.out,Gy _ _ _ _ _ _ _ _ _ (by simp) HB.out,<-EA.out,<-ER.out];exact(AO J8 Fd _ _ _ _ _ _ _ _ _ _).mono DQ),dY B6 (by omega) _ _ _ _ _ _ _ _ _ _⟩
  iterate 3
   ·obtain rfl:C=k:=At.trans (Jj (by first|exact .inl rfl|exact .inr (.inl ⟨rfl,q1⟩)|exact .inr (.inr ⟨rfl,q2⟩)))
    have R5:=ae (R4.set0 (J I C));have Z5:=ae (Z4.other (Q (w.heap.size+1) 0 Y) (J I C) (by simp));have D:=ae (B4.setCell (p:=(Q (w.heap.size+1) 0 Y)) (by simp) (J I C));have O5:=ae (dZ O4 GS (J I C) 0);have I0:=(cell_far _ (Q (w.heap.size+1) 0 Y) (Q l.heap.size 0 Y) (J I (C:Int)) (by simp;omega)).trans H0;have I1:=(cell_far _ (Q (w.heap.size+1) 0 Y) (Q l.heap.size 1 Y) (J I (C:Int)) (by simp;omega)).trans H1;have I2:=(cell_far _ (Q (w.heap.size+1) 0 Y) (Q l.heap.size 2 Y) (J I (C:Int)) (by simp;omega)).trans H2;have HI:=ae I0;have JS:=ae I1;have JO:=ae I2;clear I0 I1 I2;go_wp2;go_meet;exact⟨by omega,R5,Z5,D,O5,HI,JS,JO,by simpa using aq⟩
  ·obtain rfl:C=place+1:=by rw[At.out];unfold mU;rw[nD (by decide),nD (λh=>h.2.elim (λe=>by rw[e] at q1;cases q1) (λe=>by rw[e] at q2;cases q2))]
   go_wp2;go_meet;exact⟨by omega,by show Ten _ _ _ _ _ _ _ _ _ _ _ _;rw[show((place+1:Nat):Int)=(place:Int)+1 by omega];exact R4,Z4,B4,O4,H0,H1,H2,aq⟩
  ·obtain rfl:C=place+1:=by rw[At.out];unfold mU;rw[nD (by omega),nD (by omega)]
   have n15:((op:Int) == 15)=ZA:=by simp;omega
   have n14:((op:Int) == 14)=ZA:=by simp;omega
   have n12:((op:Int) == 12)=ZA:=by simp;omega
   have n13:((op:Int) == 13)=ZA:=by simp;omega
   have n10:((op:Int) == 10)=ZA:=by simp;omega
   have n11:((op:Int) == 11)=ZA:=by simp;omega
   go_wp2;go_meet;exact⟨by omega,by show Ten _ _ _ _ _ _ _ _ _ _ _ _;rw[show((place+1:Nat):Int)=(place:Int)+1 by omega];exact R4,Z4,B4,O4,H0,H1,H2,aq⟩
 case rest =>
 clear R4 Z4 B4 O4 H0 H1 H2 aq;obtain⟨Id,R4,Z4,B4,O4,G0,G1,G2,aq⟩:=hcut;obtain⟨G,DH⟩:∃G,G=bS op k (f place).s A B:=⟨_,rfl⟩
 have n9:Hid (G=bS op k (f place).s A B/\G.length=cu op):=⟨DH,by rw[DH];exact yU _ _ _ _ _ th Id⟩
 have JA:Hid (so=gI G (eW place) r C (steps+1) looks):=by show _=_;rw[SO.out,Ej _ _ _ _ _ _ _ _ _ th Id HB.out JX HL.out,DH,<-EA.out,<-EB.out,<-ER.out,<-At.out]
 clear DH SO EA EB ER At;go_wp2_with fail;go_loopw [13,14] (λrest i wr=>∃j:Nat,j<=cu op/\i=J I j/\∃g6 cx,rest=Z (T (Q g6 0 Y)) (r.length+j) cx/\Hid (wr.ownsRow W.heap.size 9 1 (Z (T (Q g6 0 Y)) (r.length+j) cx) (r.length+j) (strs r++(G.take j).map Value.string))/\Hid (Below W.heap.size wc wr)/\Hid (∀i,i<j->(G.getD i ⟨#[]⟩).size<=2000)) (λ_ i _=>cu op - (intOf i).toNat);case atStart=>exact⟨0,by omega,rfl,ZI,cr,rfl,(by show World.ownsRow _ _ _ _ _ _ _;rw[List.take_zero,MZ,UJ];exact O4),eL _ _,λi hi=>absurd hi (NV _)⟩
 case round =>
  obtain⟨j,hj,rfl,g6,cx,rfl,O6,B6,S6⟩:=hrel;have R6:=ae (R4.aa B6 ph);have Z6:=ae (Z4.aa B6 Fd);have i0:=(B6.cell (p:=(Q l.heap.size 0 Y)) dg).trans G0;have i1:=(B6.cell (p:=(Q l.heap.size 1 Y)) dg).trans G1;have i2:=(B6.cell (p:=(Q l.heap.size 2 Y)) dg).trans G2;have JI:W.heap.size<=wr.heap.size:=p9 aq B6.size;have B7:=ae (B4.trans (B6.mono DQ));by_cases Fm:j<cu op
  ·have h8:op<=8:=Gv th Id Fm;have JE:j<G.length:=by rw[n9.2];exact Fm
   go_wp2_with fail;refine(wj op k (f place).s A B _ th h8 J9 Kc J0).mono ?_;rintro e w6 ⟨g7,rfl,ro,Kb,fd⟩;rw[<-n9.1] at ro ⊢;rw[n9.2] at ro ⊢;have q6:w6.cell? (Q g7 j Y)=T (U (G.getD j ⟨#[]⟩)):=by have:=ro.2 j Fm;rwa[F6] at this
   obtain⟨E,hE⟩:∃E,E=G.getD j ⟨#[]⟩:=⟨_,rfl⟩
   rw[<-hE] at q6;have HE:=ae hE;clear hE;have O7:=ae (own_below O6 fd ly);have B8:=ae (B6.trans (fd.mono JI));have JZ:W.heap.size<=w6.heap.size:=p9 JI fd.size;have R7:=ae (R6.aa fd R6.1);have Z7:=ae (Z6.aa fd Z6.1);have B9:=ae (B7.trans (fd.mono B7.size));clear ro Kb fd i0 i1 i2 R6 Z6;by_cases JQ:(E.size:Int)<=2000
   ·obtain⟨Jr,hi,Hx,Jt,Fn⟩:=LY lw;go_wp2_with (at_builtin;refine BS _ rfl (.tmp 158) (.tmp 163) 66 rfl W.heap.size 9 Jr (U ⟨#[]⟩) 1 16 IH hi Hx Jt Fn rfl (by decide) (Z (T (Q g6 0 Y)) (r.length+j) cx) (r.length+j) (strs r++(G.take j).map Value.string) (by simp[Act.eval]) (O7.alloc _) (Q w6.heap.size 0 Y) 1 1 [U E] (by simp[Act.eval]) rfl (ci w6 _ _) (by simp[Value.oneCell']) (by unfold maxLen;omega) (by omega) (by simp<;>omega) ?_;intro v' w7 sm ur DE;obtain⟨g8,ZP,rfl,hg8⟩:=rP sm (λe=>by simpa using DE.1 e);have O8:=ae sm;have J4:=ae (bg (B8.alloc JZ (N #[U E] 9)) ur (by simp<;>omega) (λi e=>(O7.lt i e).1));clear sm ur DE)
    exact⟨⟨j+1,by omega,by go_num,g8,ZP,rfl,by show World.ownsRow _ _ _ _ _ _ _;rw[AR JE,<-MV,<-HE.out];exact O8,J4,λi hi=>by
     by_cases e:i=j;{subst e;rw[<-HE.out];omega}
     ·exact S6 i (by omega)⟩,by simp[intOf];omega⟩
   {have ER:=ae (show so=.inr (.inl (2,(eW place),(steps+1))) by rw[JA.out];unfold gI;rw[Gw JE (by rw[<-HE.out];exact JQ)];rfl);obtain⟨m,⟨c0,f0⟩,⟨c1,f1⟩,⟨c2,S⟩,⟨c3,O⟩,⟨c4,ZL⟩,⟨c5,V⟩,⟨R,f6⟩,⟨X,f7⟩,⟨ZP,P⟩,ZM,ZJ⟩:=R7.out;go_wp2_with fail;refine(fG _ _ _ _ _ _ _ _ _ _ _ _ _ _ _).mono ?_;rintro e w5 ⟨rfl,b⟩;have ZK:=ae (Z7.aa b Z7.1);have D:=ae (B9.trans (b.mono B9.size));clear b;clear m c0 f0 c1 f1 c2 S c3 O c4 ZL c5 V R f6 X f7 ZP P ZM ZJ;obtain⟨la,⟨z0,y0⟩,⟨z1,y1⟩,⟨z2,y2⟩,⟨z3,y3⟩,⟨ZQ,y4⟩,⟨K,y5⟩,⟨ZO,y6⟩,⟨H,y7⟩,⟨L,y8⟩,F,y9⟩:=ZK.out;go_wp2;refine bp (v:=eh C (Z a s.length cap) ((steps:Int)+1) looks ZG 2 (eW place) ZA ⟨#[]⟩ ZA) (by simp[results,PX,go_sem,z0,z1,z2,z3,ZQ,K,ZO,H,L,F]) rfl ⟨_,rfl,(by rw[ER.out];exact⟨_,_,_,_,_,rfl⟩),dY D (by omega) _ _ _ _ _ _ _ _ _ _⟩}
  ·have e:j=cu op:=by omega
   subst e;have ER:=ae (show so=.inl (C,(steps+1),looks,(G.reverse++r)) by rw[JA.out];unfold gI;rw[Eh (λi hi=>S6.out i (by rw[n9.2] at hi;exact hi))];rfl);have Jy:=ae (show(G.reverse++r).length=r.length+cu op by rw[cM,List.length_reverse,n9.2];omega);obtain⟨m,⟨c0,f0⟩,⟨c1,f1⟩,⟨c2,S⟩,⟨c3,O⟩,⟨c4,ZL⟩,⟨c5,V⟩,⟨R,f6⟩,⟨X,f7⟩,⟨ZP,P⟩,ZM,ZJ⟩:=R6.out;obtain⟨la,⟨z0,y0⟩,⟨z1,y1⟩,⟨z2,y2⟩,⟨z3,y3⟩,⟨ZQ,y4⟩,⟨K,y5⟩,⟨ZO,y6⟩,⟨H,y7⟩,⟨L,y8⟩,F,y9⟩:=Z6.out;have OE:=ae (TY O6 (a:=(Q (w.heap.size+1) 1 Y)) ph (Z (T (Q g6 0 Y)) (r.length+cu op) cx));have BE:=ae (B7.setCell (p:=(Q (w.heap.size+1) 1 Y)) (by simp) (Z (T (Q g6 0 Y)) (r.length+cu op) cx));go_wp2;refine bp (v:=eh C (Z (T (Q g6 0 Y)) (r.length+cu op) cx) ((steps:Int)+1) looks ZA 0 ⟨#[]⟩ ZA ⟨#[]⟩ ZA) (by simp[results,PX,go_sem,z0,z1,z2,z3,ZQ,K,ZO,H,L,F]) rfl ⟨_,rfl,?_,dY BE (by omega) _ _ _ _ _ _ _ _ _ _⟩;rw[ER.out];refine(AO (v:=eh C (Z (T (Q g6 0 Y)) (r.length+cu op) cx) ((steps:Int)+1) looks ZA 0 ⟨#[]⟩ ZA ⟨#[]⟩ ZA) (base:=W.heap.size) ?_ Fd _ _ _ _ _ _ _ _ _ _).mono DQ;refine⟨T (Q g6 0 Y),cx,by rw[Jy.out];simp,?_⟩;rw[Jy.out,Eg];have h:=OE.out;rw[show G.take (cu op)=G by rw[<-n9.2];exact List.take_length] at h;exact h
def Ij (f:Nat->Ins)(cnt:Nat)(y:Nat->aK)(n:Nat)(ZL:Turn)(st:Nat):SO->Prop
 |.inr (.inl (c,x,k))=>ZL=iC c x k
 |.inr (.inr (a,nm,k))=>ZL=pR a nm k
 |.inl (p,k,l,s)=>k=st+1/\k<=2000/\dR f cnt y n (2001 - k) p k l s=ZL/\p<=2000/\l<=200/\s.length<=50/\∀x∈s,x.size<=2000
theorem wk{cnt:Nat}(i:b.length<=50)(h:∀x∈b,x.size<=2000)(g:looks<=200)(c:dA f cnt=ZG)(hc:cnt<=200):kK (dm f cnt place steps looks b) looks:=by
 unfold dm;split;{trivial}
 ·rename_i h1;split;{trivial}
  ·split;{trivial}
   ·rename_i h3;have hi:=gL c (show place<cnt by omega);simp only[aG,z8] at hi;obtain⟨i1,i2,i3,i4,i5⟩:=hi;have hmt:bN (f place).op<=2000:=by unfold bN;split<;>(try split)<;>omega
    have hmt2:aF (f place).op<=2000:=by unfold aF;split<;>omega
    exact my _ _ _ _ _ _ i h (by omega) (by omega) (by omega) g (by omega) (by omega) (by simpa using h3)
theorem ws{cnt:Nat}{a:Bool}{nm:ByteArray}(h:dm f cnt place steps looks b=.inr (.inr (a,nm,s))):place<cnt:=by
 unfold dm at h;split at h;{cases h};{omega}
theorem Gz{cnt:Nat}{y:Nat->aK}{ZL:Turn}{p st l:Nat}(hst:st<=2000)(r:l<=200)(C:s.length<=50)(t:∀x∈s,x.size<=2000)(q:dA f cnt=ZG)(u:cnt<=200)(B:bT y n=ZG)
  (b:dR f cnt y n (2001 - st) p st l s=ZL):Ij f cnt y n ZL st (fU f cnt y n p st l s):=by
 obtain⟨j,D⟩:∃j,2001 - st=j+1:=⟨2000 - st,by omega⟩
 rw[D,dR] at b;have hF:=wk (place:=p) (steps:=st) C t r q u;unfold fU;rcases h:dm f cnt p st l s with ⟨z,p'⟩|⟨c,x⟩|⟨a,nm,z⟩
 {rw[h] at b hF;obtain⟨m,A⟩:=uu h;obtain⟨f1,i,o⟩:=hF;simp only[m] at b ⊢;exact⟨rfl,by omega,by rw[show 2001 - (st+1)=j by omega];exact b,o,r,f1,i⟩};{rw[h] at b;exact b.symm};{rw[h] at b hF;obtain⟨m,A⟩:=pS h;obtain⟨f1,i,o,f4⟩:=hF;have hp:=ws h;simp only[m] at b ⊢;simp only[iD,km];by_cases h1:n<=l;{rw[p7 h1] at b ⊢;exact b.symm};{rw[nD h1] at b ⊢;by_cases h2:a=ZA;{rw[p7 h2] at b ⊢;refine⟨rfl,by omega,by rw[show 2001 - (st+1)=j by omega];exact b,by omega,by omega,by simp;omega,λx g=>?_⟩;rcases A9.1 g with rfl|g;{exact lX _};{exact i x g}};{rw[nD h2] at b ⊢;by_cases h3:(y l).has=ZA;{rw[p7 h3] at b ⊢;exact b.symm};{rw[nD h3] at b ⊢;by_cases h4:(y l).B=0;{rw[p7 h4] at b ⊢;refine⟨rfl,by omega,by rw[show 2001 - (st+1)=j by omega];exact b,by omega,by omega,by simp;omega,λx g=>?_⟩;rcases A9.1 g with rfl|g;{exact(Ec B (show l<n by omega)).1};{exact i x g}};{rw[nD h4] at b ⊢;exact b.symm}}}}}
theorem Ten.put{m l f n o i b j c p:ZC}(h:Ten w g m l f n o i b j c p)(u0 u1 u2 u3 u4 u5 u6 u7 u8 u9:ZC):Ten ((((((((((w.setCell (Q g 0 Y) u0).setCell (Q g 1 Y) u1).setCell (Q g 2 Y) u2).setCell (Q g 3 Y) u3).setCell (Q g 4 Y) u4).setCell (Q g 5 Y) u5).setCell (Q g 6 Y) u6).setCell (Q g 7 Y) u7).setCell (Q g 8 Y) u8).setCell (Q g 9 Y) u9) g u0 u1 u2 u3 u4 u5 u6 u7 u8 u9 :=
 (((((((((h.set0 u0).set1 u1).set2 u2).set3 u3).set4 u4).set5 u5).set6 u6).set7 u7).set8 u8).set9 u9
theorem oV{u:M}(h:Only g u w)(u0 u1 u2 u3 u4 u5 u6 u7 u8 u9:ZC):Only g u ((((((((((w.setCell (Q g 0 Y) u0).setCell (Q g 1 Y) u1).setCell (Q g 2 Y) u2).setCell (Q g 3 Y) u3).setCell (Q g 4 Y) u4).setCell (Q g 5 Y) u5).setCell (Q g 6 Y) u6).setCell (Q g 7 Y) u7).setCell (Q g 8 Y) u8).setCell (Q g 9 Y) u9) :=
 ip (ip (ip (ip (ip (ip (ip (ip (ip (ip h 0 u0) 1 u1) 2 u2) 3 u3) 4 u4) 5 u5) 6 u6) 7 u7) 8 u8) 9 u9
def xD (w:M)(g b:Nat)(f:Nat->Ins)(cnt:Nat)(y:Nat->aK)(n:Nat)(ZL:Turn)(k:Nat):Prop :=
 (∃p st l s a cap,Ten w g (J I (p:Nat)) (Z a (List.length s) cap) (J I (st:Nat)) (J I (l:Nat)) (ZD ZA) (J I 0) (U ⟨#[]⟩) (ZD ZA) (U ⟨#[]⟩) (ZD ZA)/\w.ownsRow b 9 1 (Z a s.length cap) s.length (strs s) /\
  st<=2000/\dR f cnt y n (2001 - st) p st l s=ZL/\p<=2000/\l<=200/\s.length<=50/\(∀x∈s,x.size<=2000)/\2002 - st<=k) ∨
 (∃at_ sv lk c x,∃st:Nat,Ten w g at_ sv (J I st) lk (ZD ZG) (J I c) (U x) (ZD ZA) (U ⟨#[]⟩) (ZD ZA)/\ZL=iC c x st) ∨
 (∃at_ sv lk a nm,∃st:Nat,Ten w g at_ sv (J I st) lk (ZD ZA) (J I 0) (U ⟨#[]⟩) (ZD a) (U nm) (ZD ZG)/\ZL=pR a nm st)
theorem GA{b cap:Nat}{e:TypeId}{a:Option Addr}{c:List ZC}(h:w.ownsRow b e 1 (Z a n cap) n c){k:Nat}(x:k<b)(p o i q r l f m g t:ZC):World.ownsRow ((((((((((w.setCell (Q k 0 Y) p).setCell (Q k 1 Y) o).setCell (Q k 2 Y) i).setCell (Q k 3 Y) q).setCell (Q k 4 Y) r).setCell (Q k 5 Y) l).setCell (Q k 6 Y) f).setCell (Q k 7 Y) m).setCell (Q k 8 Y) g).setCell (Q k 9 Y) t) b e 1 (Z a n cap) n c:=by have s:∀{w:M} (j:Nat) (u:ZC),w.ownsRow b e 1 (Z a n cap) n c->(w.setCell (Q k j Y) u).ownsRow b e 1 (Z a n cap) n c:=λj u h=>TY h (a:=(Q k j Y)) x u;exact s 9 t (s 8 g (s 7 m (s 6 f (s 5 l (s 4 r (s 3 q (s 2 i (s 1 o (s 0 p h)))))))))
theorem nY (g c cnt cap n o:Nat)(F:Option Addr)(f:Nat->Ins)(w:M)(hn:cnt<=1048576)(r:valid f cnt=ZG->200<(n:Int))(u:RowIns w g c cnt f)(y:∀i,i<cnt->(f i).s.size<=maxLen):Calls Tryz.prog 164 #[.agg #[Z (T (Q g c Y)) cnt cap],Z F n o] w λe l=>e=ZF badT.v/\Below w.heap.size w l:=by
 have ZP:=ae u;have p:=ae ((((q9 w).alloc ly (N #[Z (T (Q g c Y)) cnt cap] 59))).alloc (by simp) (N #[ZD ZA,J I 0,U ⟨#[]⟩,ZD ZA,U ⟨#[]⟩,J I 0] 229));have j:=xz (w.alloc (N #[Z (T (Q g c Y)) cnt cap] 59)) (ZD ZA) (J I 0) (U ⟨#[]⟩) (ZD ZA) (U ⟨#[]⟩) (J I 0) 229;rw[show(w.alloc (N #[Z (T (Q g c Y)) cnt cap] 59)).heap.size=w.heap.size+1 by simp] at j;have t:=ae j;have q:=λl h1 h2=>fV g c cnt cap f l hn h1 h2 y;generalize valid f cnt=b at r q;have x:=ae q;have B:=ae r;clear j q u y r;go_enter func164,ntmps164;go_wp2_with fail;have m:=ae (ZP.aa p ly);refine(x _ m.1 m.2).mono ?_;rintro e w1 ⟨rfl,h⟩;have E:=ae (t.aa h (by simp));have H:=ae (p.trans (h.mono (by simp;omega)));clear h p t m;obtain⟨⟨v0,C,y0⟩,⟨v1,G,y1⟩,⟨v2,A,y2⟩,⟨v3,z,y3⟩,⟨v4,D,y4⟩,⟨v5,ZO,y5⟩⟩:=bl6 E.2;cases b
 all_goals
  (try have hn2:=B.out rfl)
  go_wp2;refine bp (v:=badT.v) (by simp[results,QZ,go_sem,Turn.v,badT,C,G,A,z,D,ZO]) rfl ⟨rfl,jy H (by omega) _ _ _ _ _ _⟩
theorem wu (h o cnt cap P o2 n ZI:Nat)(f:Nat->Ins)(y:Nat->aK)(w:M)(hn:cnt<=1048576)(hv:valid f cnt=ZG)(hn2:(n:Int)<=200)(hP:RowIns w h o cnt f)(hY:RowReply w P o2 n y)(hs:∀i,i<cnt->(f i).s.size<=maxLen)(ZL:Turn)(hT:ZL=if bT y n=ZA then badT else dR f cnt y n 2001 0 0 0 []):Calls Tryz.prog 164 #[.agg #[Z (T (Q h o Y)) cnt cap],Z (T (Q P o2 Y)) n ZI] w λe w'=>e=ZF ZL.v/\Below w.heap.size w w':=by
 have HV:=ae (bO hv).1;have At:cnt<=200:=by have:=(bO hv).2.2;omega
 have ZK:=ae hY;have X:=ae hT;clear hY hT;have HP:=ae hP;have A0:=ae ((((q9 w).alloc ly (N #[Z (T (Q h o Y)) cnt cap] 59))).alloc (by simp) (N #[ZD ZA,J I 0,U ⟨#[]⟩,ZD ZA,U ⟨#[]⟩,J I 0] 229));have ZJ:=xz (w.alloc (N #[Z (T (Q h o Y)) cnt cap] 59)) (ZD ZA) (J I 0) (U ⟨#[]⟩) (ZD ZA) (U ⟨#[]⟩) (J I 0) 229;rw[show(w.alloc (N #[Z (T (Q h o Y)) cnt cap] 59)).heap.size=w.heap.size+1 by simp] at ZJ;have X0:=ae ZJ;have IV:=λw' h1 h2=>fV h o cnt cap f w' hn h1 h2 hs;rw[hv] at IV;have ro:=ae IV;clear ZJ IV hP hs hv;go_enter func164,ntmps164;go_wp2_with fail;have P1:=ae (HP.aa A0 ly);refine(ro _ P1.1 P1.2).mono ?_;rintro e w1 ⟨rfl,L⟩;have c1:w1.cell? (Q w.heap.size 0 Y)=T (Z (T (Q h o Y)) cnt cap):=(L.cell (p:=(Q w.heap.size 0 Y)) (by simp;omega)).trans (by simp);have HX:=ae (X0.aa L (by simp));have B1:=ae (A0.trans (L.mono (by simp;omega)));have z1:w.heap.size+1<w1.heap.size:=HX.1;clear L A0 X0 P1;have sm:=ae (ZK.aa B1 ly);go_wp2_with fail;go_loopw [5] (λi wr=>∃j:Nat,j<=n/\i=J I j/\Hid (bT y j=ZG)/\Below w1.heap.size w1 wr) (λi _=>n - (intOf i).toNat);case atStart=>exact⟨0,by omega,rfl,rfl,eL _ _⟩
 case round =>
  obtain⟨j,hj,rfl,HK,S⟩:=hrel;have u:=ae (HX.aa S HX.1);have B:=ae (B1.trans (S.mono B1.size));have cp:wr.cell? (Q w.heap.size 0 Y)=T (Z (T (Q h o Y)) cnt cap):=(S.cell (p:=(Q w.heap.size 0 Y)) (by simp;omega)).trans c1;have zr:w.heap.size+1<wr.heap.size:=u.1;have fd:=ae S;clear S;by_cases t:j<n
  ·obtain⟨d0,d1,d2⟩:=(ZK.aa B ly).2 j t;obtain⟨⟨v0,ZO,y0⟩,⟨v1,G,y1⟩,⟨v2,D,y2⟩,⟨v3,ZP,y3⟩,⟨v4,C,y4⟩,⟨v5,F,y5⟩⟩:=bl6 u.2;by_cases g1:((y j).h.size:Int)<=2000
   ·by_cases g2:0<=(y j).B
    ·by_cases g3:(y j).B<=7;{go_wp2;refine⟨⟨j+1,by omega,by go_num,?_,?_⟩,by simp[intOf];omega⟩;{show bT y (j+1)=ZG;simp only[bT,HK.out,de,SS,z8];omega};{exact fd}}
     ·go_wp2;have z:ZL=badT:=by rw[X.out,p7 (gY t (by simp only[de,NF];omega))]
      refine bp (v:=badT.v) (by simp[results,QZ,go_sem,Turn.v,badT,ZO,G,D,ZP,C,F]) rfl ⟨by rw[z],jy B (by omega) _ _ _ _ _ _⟩
    ·go_wp2;have z:ZL=badT:=by rw[X.out,p7 (gY t (by simp only[de,NF];omega))]
     refine bp (v:=badT.v) (by simp[results,QZ,go_sem,Turn.v,badT,ZO,G,D,ZP,C,F]) rfl ⟨by rw[z],jy B (by omega) _ _ _ _ _ _⟩
   ·go_wp2;have z:ZL=badT:=by rw[X.out,p7 (gY t (by simp only[de,NF];omega))]
    refine bp (v:=badT.v) (by simp[results,QZ,go_sem,Turn.v,badT,ZO,G,D,ZP,C,F]) rfl ⟨by rw[z],jy B (by omega) _ _ _ _ _ _⟩
  ·have e:j=n:=by omega
   subst e;have z:ZL=dR f cnt y j 2001 0 0 0 []:=by rw[X.out,nD (by simp[HK.out])]
   have ET:=ae z;clear z X sm;have RN:=ae (li wr (J I 0) (Z Y 0 0) (J I 0) (J I 0) (ZD ZA) (J I 0) (U ⟨#[]⟩) (ZD ZA) (U ⟨#[]⟩) (ZD ZA) 238 wr.heap.size rfl);obtain⟨O,H⟩:∃W:M,wr.alloc (N #[J I 0,Z Y 0 0,J I 0,J I 0,ZD ZA,J I 0,U ⟨#[]⟩,ZD ZA,U ⟨#[]⟩,ZD ZA] 238)=W:=⟨_,rfl⟩
   obtain⟨A2,-,-⟩:=nb1 H;have K:=ae H;clear H;have XN:=ae (u.aa A2 u.1);have BN:=ae (B.trans (A2.mono B.size));have cN:=(A2.cell (p:=(Q w.heap.size 0 Y)) (by simp;omega)).trans cp;have R:wr.heap.size<O.heap.size:=by cases K.out;simp
   go_wp2_with fail;clear c1 cp;rw[K.out] at RN ⊢;clear K;generalize wr.heap.size=r at RN zr R ⊢;have ur:P<r:=lj ZK.1 (by omega);have n9:h<r:=lj HP.1 (by omega);have S0:Hid (xD O r O.heap.size f cnt y j ZL 2002):=.inl ⟨0,0,0,[],Y,0,RN,AT _ _ _ _,by omega,ET.symm,by omega,by omega,by simp,by simp,by omega⟩;have PN:=ae (HP.aa BN ly);have YN:=ae (ZK.aa BN ly);clear RN ET u B fd t HX B1 HP ZK;go_loopg [] 2002 (λg wr=>xD wr r O.heap.size f cnt y j ZL g/\Only r O wr);case atStart=>exact⟨S0,Only.refl _ _⟩
   case round =>
    obtain⟨ph,E⟩:=hrel;have HO:=ae E;have cw:wr.cell? (Q w.heap.size 0 Y)=T (Z (T (Q h o Y)) cnt cap):=(E.cell w.heap.size 0 (by omega) (by omega)).trans cN;have ld:r<wr.heap.size:=lj R E.size;have bt:=ae (E.aa (n8 r) (NK R));have BW:=ae (BN.trans (E.aa (show w.heap.size<=r by omega) (by omega)));have XW:=ae (XN.F E (by omega));have zw:w.heap.size+1<wr.heap.size:=XW.1;clear E;rcases ph with ⟨p,st,l,s,a,mv,b,ZM,k1,k2,k3,k4,k5,k6,k7⟩|⟨at_,sv,lk,c,x,st,b,m⟩|⟨at_,sv,lk,a,nm,st,b,m⟩
    ·have th:=ae b;have OW:=ae ZM;have Bk:=ae (Gz k1 k4 k5 k6 HV At HK k2);have K6:=ae k6;have PW:Hid (RowIns wr h o cnt f):=⟨lj PN.1 HO.size,λi hi=>(PN.2 i hi).aa bt n9⟩
     have YW:Hid (RowReply wr P o2 j y):=⟨lj YN.1 HO.size,λi hi=>(YN.2 i hi).aa bt ur⟩
     obtain⟨aq,⟨c0,f0⟩,⟨c1,f1⟩,⟨c2,f2⟩,⟨c3,f3⟩,⟨c4,f4⟩,⟨c5,f5⟩,⟨c6,f6⟩,⟨c7,f7⟩,⟨c8,f8⟩,c9,f9⟩:=b;clear ZM k2 k6;go_wp2_with fail;refine(yX h o cnt cap p st l f a s mv P o2 j ZI O.heap.size y _ PW YW OW k3 k1 k4 k5 K6 HV).mono ?_;rintro e w3 ⟨v,rfl,ZQ,V⟩;have ZN:=ae (th.aa V ld);have O3:=ae (HO.ao V);clear aq c0 f0 c1 f1 c2 f2 c3 f3 c4 f4 c5 f5 c6 f6 c7 f7 c8 f8 c9 f9;clear V;have q:=Bk.out;obtain⟨g,rfl⟩:∃g,gk=g+1:=⟨gk - 1,by omega⟩
     generalize fU f cnt y j p st l s=so at ZQ q;rcases so with ⟨p',qr,l',s'⟩|⟨c,x,k⟩|⟨a1,nm,k⟩
     ·obtain⟨a',c',rfl,dg⟩:=ZQ;obtain⟨m1,m2,m3,m4,m5,m6,m7⟩:=q;have OE:=ae dg;have M3:=ae m3;have M7:=ae m7;have M1:=ae m1;clear dg m3 m7 m1;obtain⟨la,⟨e0,u0⟩,⟨e1,u1⟩,⟨e2,u2⟩,⟨e3,u3⟩,⟨e4,u4⟩,⟨e5,u5⟩,⟨e6,u6⟩,⟨e7,u7⟩,⟨e8,u8⟩,e9,u9⟩:=ZN.out;go_wp2;go_roundg g;case measure=>omega
      case rel=>exact⟨.inl ⟨p',qr,l',s',a',c',ZN.put _ _ _ _ _ _ _ _ _ _,aC (GA OE ld _ _ _ _ _ _ _ _ _ _) HO.size,m2,M3,m4,m5,m6,M7,by have:=M1.out;omega⟩,oV O3 _ _ _ _ _ _ _ _ _ _⟩
     ·obtain⟨at_,a',n',c',lk,rfl⟩:=ZQ;have m:ZL=iC c x k:=q;have A:=ae m;clear m q;obtain⟨la,⟨e0,u0⟩,⟨e1,u1⟩,⟨e2,u2⟩,⟨e3,u3⟩,⟨e4,u4⟩,⟨e5,u5⟩,⟨e6,u6⟩,⟨e7,u7⟩,⟨e8,u8⟩,e9,u9⟩:=ZN.out;go_wp2;go_roundg g;case measure=>omega
      case rel=>exact⟨.inr (.inl ⟨_,_,_,_,_,_,ZN.put _ _ _ _ _ _ _ _ _ _,A⟩),oV O3 _ _ _ _ _ _ _ _ _ _⟩
     ·obtain⟨at_,a',n',c',lk,rfl⟩:=ZQ;have m:ZL=pR a1 nm k:=q;have A:=ae m;clear m q;obtain⟨la,⟨e0,u0⟩,⟨e1,u1⟩,⟨e2,u2⟩,⟨e3,u3⟩,⟨e4,u4⟩,⟨e5,u5⟩,⟨e6,u6⟩,⟨e7,u7⟩,⟨e8,u8⟩,e9,u9⟩:=ZN.out;go_wp2;go_roundg g;case measure=>omega
      case rel=>exact⟨.inr (.inr ⟨_,_,_,_,_,_,ZN.put _ _ _ _ _ _ _ _ _ _,A⟩),oV O3 _ _ _ _ _ _ _ _ _ _⟩
    {have A:=ae m;obtain⟨aq,⟨c0,f0⟩,⟨c1,f1⟩,⟨c2,f2⟩,⟨c3,f3⟩,⟨c4,f4⟩,⟨c5,f5⟩,⟨c6,f6⟩,⟨c7,f7⟩,⟨c8,f8⟩,c9,f9⟩:=b;obtain⟨⟨v0,ZO,y0⟩,⟨v1,G,y1⟩,⟨v2,D,y2⟩,⟨v3,ZP,y3⟩,⟨v4,C,y4⟩,⟨v5,F,y5⟩⟩:=bl6 XW.2;clear m;go_wp2;refine bp (v:=ZL.v) (by rw[A.out];simp[results,QZ,go_sem,Turn.v,iC,ZO,G,D,ZP,C,F]) rfl ⟨rfl,jy BW (by omega) _ _ _ _ _ _⟩};{have A:=ae m;obtain⟨aq,⟨c0,f0⟩,⟨c1,f1⟩,⟨c2,f2⟩,⟨c3,f3⟩,⟨c4,f4⟩,⟨c5,f5⟩,⟨c6,f6⟩,⟨c7,f7⟩,⟨c8,f8⟩,c9,f9⟩:=b;obtain⟨⟨v0,ZO,y0⟩,⟨v1,G,y1⟩,⟨v2,D,y2⟩,⟨v3,ZP,y3⟩,⟨v4,C,y4⟩,⟨v5,F,y5⟩⟩:=bl6 XW.2;clear m;go_wp2;refine bp (v:=ZL.v) (by rw[A.out];simp[results,QZ,go_sem,Turn.v,pR,ZO,G,D,ZP,C,F]) rfl ⟨rfl,jy BW (by omega) _ _ _ _ _ _⟩}
theorem uw (c g cnt cap l m n b:Nat)(f:Nat->Ins)(y:Nat->aK)(w:M)(hn:cnt<=1048576)(j:RowIns w c g cnt f)(q:RowReply w l m n y)(o:∀i,i<cnt->(f i).s.size<=maxLen):Calls Tryz.prog 164 #[.agg #[Z (T (Q c g Y)) cnt cap],Z (T (Q l m Y)) n b] w λe r=>e=ZF (sW f cnt y n).v/\Below w.heap.size w r:=by
 unfold sW;by_cases h1:valid f cnt=ZA;{rw[p7 h1];exact nY c g cnt cap n b _ f w hn (λh=>absurd (h1.symm.trans h) (by simp)) j o}
 ·have p:valid f cnt=ZG:=by simpa using h1
  rw[nD h1];by_cases h2:200<n;{rw[p7 h2];exact nY c g cnt cap n b _ f w hn (λ_=>by omega) j o};{rw[nD h2];exact wu c g cnt cap l m n b f y w hn p (by omega) j q o _ rfl}
