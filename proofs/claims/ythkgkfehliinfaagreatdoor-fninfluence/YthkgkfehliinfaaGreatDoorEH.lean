import Derived.Test.YthkgkfehliinfaaGreatDoorEE
import Derived.Test.YthkgkfehliinfaaGreatDoorEF
import Derived.Test.YthkgkfehliinfaaGreatDoorEB
set_option linter.all false
set_option maxRecDepth 100000
set_option maxHeartbeats 8000000
open Go renaming Addr.mk->Q,Value.slice->Y,Value.string->U,Value.int->J,Value.agg->ZJ,Obj.cells->N,IntKind.i64->I,World->E,Value->ZB,TypeId->ZK,Ending.returned->ZI,World.heap->B,World.alloc->ZV,World.cell?->ZW,World.frozen?->ZX,World.setCell->ZU,Proofs.Tryz.prog->Pg
open Option renaming none->Z,some->T
open Bool renaming false->ZA
open Array renaming size->z
open List renaming length->A
namespace Go.Proofs.YthkgkfehliinfaaGreatDoor.Vp
open Tryz RowKit Ca
variable {b:Nat}{w V:E}{t:ZK}{u0 u1:ZB}
def oW (R p b0 n0 c0 n1 c1:Nat)(a0:O_)(f0:Nat->Source)(a1:O_)(f1:Nat->Target)(w:E)(hR:Rd w R p)(hp:p<=19900)(hH:HSp b0 w a0 n0 f0 a1 n1 f1)(hg:∀i,i<n1->1<=(f1 i).h/\(f1 i).h<=200)(hm0:n0<=250)(hm1:n1<=250):Calls Pg 28 #[.pointer (T (Q R 0 Z)),ZJ #[Y a0 n0 c0,Y a1 n1 c1]] w λe w'=>DH w R (p+1100) e w':=by
 have HR:=ae hR;have J6:=hR.lt;obtain⟨hs,ht⟩:=hH.sl w (Agr.refl _ _);have HF:=ae hH.aq;have HG:=ae hg;have l:=ae hs;have HT:=ae ht;clear hs ht hH hg hR;obtain⟨Kd,hi,Kk,J8,J7⟩:=NP jn;obtain⟨Id,ZZ,Hx,Fm,DE⟩:=NP fw;obtain⟨W,hW⟩:∃W:E,ZV (ZV w (N #[Y a0 n0 c0,Y a1 n1 c1] 29)) (N #[Y Z 0 0,Y Z 0 0] 29)=W:=⟨_,rfl⟩
 obtain⟨A0,-,KR,Kf⟩:=nb2 hW;have HW:=ae hW;clear hW;go_enter func28,ntmps28;go_wp2_with fail;rw[HW.i];clear HW;refine(fH a0 n0 c0 f0 a1 n1 c1 f1 ⟨#[]⟩ W (by omega) (by omega) (l.aa A0 ly) (HT.aa A0 ly) (λi hi=>by have:=(HF i hi).1;unfold aP;omega)).P ?_;rintro e Z8⟨v0,v1,o,rfl,ur,JK,hM,sm⟩;obtain⟨a2,c2,rfl⟩:=aJ ur;obtain⟨a5,c5,rfl⟩:=aJ JK.y;have G1:=ae (yt hM HF);have N1:=ae (Ia hM HG);have JV:=qL hM;have JU:=gO f0 ⟨#[]⟩ n0;clear hM l HT HF HG;generalize Qy f0 ⟨#[]⟩ n0=G at ur JU ⊢;have hsz:=sm.size;have X1:=ae (oD (rr:=z (B w)+1) (base:=z (B w)+2) ((sm.p _ (by omega)).k KR) (by omega) (by omega) (by omega) ur JK);have B1:=ae ((A0.k (sm.P (by omega))).alloc (by omega) (N #[Y a2 (A G) c2,Y a5 (A o) c5] 29));clear ur JK sm A0 KR;have R1:=ae (HR.low B1 (by omega));have O1:Hid (zd R w (ZV Z8 (N #[Y a2 (A G) c2,Y a5 (A o) c5] 29))):=zd.q B1;go_wp2_with fail;generalize World.alloc Z8 _=W2 at X1 B1 R1 O1 ⊢;refine(ay R p 8 _ R1 (by omega) (by omega) (by omega)).P ?_;rintro e s⟨ZY,rfl,hz0',hz1',JZ,GS⟩;have m:=ae (X1.ac GS (by omega));have R2:=ae JZ;have O2:=ae (O1.k GS);clear JZ GS X1 R1 O1 B1 Kf HR;obtain⟨ZL,ZN⟩:=m.cells;obtain⟨aq,bt⟩:=m.open
 have la:=m.lt;go_upto_block 0 with fail;go_cut [6,7] (λ_ _ wx=>∃(b0:O_) (m0 k0:Nat) (g0:Nat->Source) (b1:O_) (m1 k1:Nat) (g1:Nat->Target) (q':Nat),q'<=p+1100/\Hid (wx.heap[z (B Z8)]?=T (N #[Y b0 m0 k0,Y b1 m1 k1] 29 (0,0)))/\Hid (wx.heap[z (B w)+1]?=T (N #[Y Z 0 0,Y Z 0 0] 29 (0,0)))/\Hid (HSp (z (B w)+2) wx b0 m0 g0 b1 m1 g1)/\Hid (Rd wx R q')/\Hid (zd R w wx));case first =>
  have Kg:ZY=0\/ZY=1\/ZY=2\/ZY=3\/ZY=4\/ZY=5\/ZY=6\/ZY=7:=by omega
  rcases Kg with rfl|rfl|rfl|rfl|rfl|rfl|rfl|rfl
  ·go_wp2_with fail;have J4:=m.hi;refine aI (BxS (Y a2 (A G) c2) (Y a5 (A o) c5) (z (B Z8))) 11 (by kernel_rfl) ?_;have l:=ae (i8 (W:=s.drew) m.ab);iterate 2
    refine aO 0 (v:=?_) rfl rfl (by kernel_rfl) (λ_ _ _ h=>h) rfl ?_ l ?_;rotate_left
    ·(rintro wz⟨s0,s1⟩;go_simp)
     (try with_reducible rfl)
    (try simp only[Act.put,yh])
   refine aO 3 (v:=?_) rfl rfl (by kernel_rfl) (λ_ _ _ h=>h) rfl ?_ l ?_;rotate_left
   ·(rintro wz⟨s0,s1⟩;go_simp)
    (try with_reducible rfl)
   (try simp only[Act.put,yh])
   refine pr (i:=2) (j:=4) rfl rfl (by kernel_rfl) (λK b=>?h1) (λK b=>?h2);case' h1 =>
    go_simp;have BQ:=ae (((BS s).alloc ly (N #[U ⟨#[97]⟩,U ⟨#[122,122]⟩,U ⟨#[]⟩,U ⟨#[120,32,121]⟩,U ⟨#[116,48]⟩] 9)).drew);have XQ:=ae (m.aa BQ ly);have RQ:=ae (R2.aa BQ ly);have OQ:=ae (O2.then (BQ.P (by omega)));have JH:=gM s (N #[U ⟨#[97]⟩,U ⟨#[122,122]⟩,U ⟨#[]⟩,U ⟨#[120,32,121]⟩,U ⟨#[116,48]⟩] 9);have JQ:Hid ((ZV s (N #[U ⟨#[97]⟩,U ⟨#[122,122]⟩,U ⟨#[]⟩,U ⟨#[120,32,121]⟩,U ⟨#[116,48]⟩] 9)).drew.heap[z (B s)]?=T (N #[U ⟨#[97]⟩,U ⟨#[122,122]⟩,U ⟨#[]⟩,U ⟨#[120,32,121]⟩,U ⟨#[116,48]⟩] 9 (0,0))):=JH;have Kl:z (B s)<(ZV s (N #[U ⟨#[97]⟩,U ⟨#[122,122]⟩,U ⟨#[]⟩,U ⟨#[120,32,121]⟩,U ⟨#[116,48]⟩] 9)).drew.heap.size:=aj JH;clear JH l;refine b _ _ (λ_=>i8 XQ.ab) ?_;clear b K
    (try simp only[Act.put,yh])
    refine ai (i:=4) rfl (by kernel_rfl) λK b=>?_;go_simp;go_at_call 25;refine(ay R _ 5 _ RQ (by omega) (by omega) (by omega)).P ?_;rintro e WL⟨z3,rfl,fd,th,ZQ,H⟩;obtain⟨m3,rfl⟩:=p9 fd;have X4:=ae (XQ.ac H (by omega));have R4:=ae ZQ;have O4:=ae (OQ.k H);obtain⟨sx,DQ⟩:=oE ((H.p (z (B s)) Kl (by omega)).k JQ) m3 (by omega);clear ZQ H JQ XQ RQ OQ;refine b _ _ (λ_=>i8 X4.ab) ?_;clear b K
    (try simp only[Act.put,yh])
   case' h2 =>
    go_simp;go_at_call 25;refine(ay R _ 5 _ (R2.aa br.drew ly) (by omega) (by omega) (by omega)).P ?_;rintro e ZT⟨z3,rfl,fd,th,ZQ,H⟩;obtain⟨m3,rfl⟩:=p9 fd;have X:Hid (zd R s ZT):=(zd.q br.drew).k H;have D:=ae (m.ac X (by omega));have R3:=ae ZQ;have O3:=ae (O2.k X);clear ZQ H X l;have l:=ae (i8 D.ab);refine b _ _ (λ_=>l) ?_;clear b K
    (try simp only[Act.put,yh])
    have hxl4:=D.lt;refine ai (i:=2) rfl (by kernel_rfl) λK b=>?_;go_simp;have BQ:=ae ((BS ZT).alloc ly (N #[U ⟨#[97]⟩,U ⟨#[122,122]⟩,U ⟨#[]⟩,U ⟨#[120,32,121]⟩,U ⟨#[116,48]⟩] 9));have X4:=ae (D.aa BQ ly);have R4:=ae (R3.aa BQ ly);have O4:=ae (O3.then (BQ.P (by omega)));obtain⟨sx,DQ⟩:=oE (gM ZT (N #[U ⟨#[97]⟩,U ⟨#[122,122]⟩,U ⟨#[]⟩,U ⟨#[120,32,121]⟩,U ⟨#[116,48]⟩] 9)) m3 (by omega);refine b _ _ (λ_=>i8 X4.ab) ?_;clear b K BQ l
    (try simp only[Act.put,yh])
    generalize World.alloc ZT _=WL at X4 R4 O4 DQ ⊢
   all_goals
    have hm5:m3<5:=by omega
    have SQ:=ae X4.Qy;have l:=ae (SQ WL (λj ZZ _=>rfl))
    iterate 3
     refine bV 5 rfl rfl (by kernel_rfl) λK b=>?_;go_simp;refine b _ _ (λ_=>l) ?_;clear b K
     (try simp only[Act.put,yh])
    have JM:=X4.lt;have hxi3:=X4.hi;refine ai (i:=8) rfl (by kernel_rfl) λK b=>?_;go_simp;have AB:=ae ((BS WL).alloc ly (N #[U sx,U ⟨#[]⟩] 91));have ZM:=ae (X4.aa AB ly);have hz6:=AB.size;refine b _ _ (λ_=>SQ _ (λj ZZ _=>AB.p j ZZ)) ?_;clear b K l
    (try simp only[Act.put,yh])
    refine ai (i:=9) rfl (by kernel_rfl) λK b=>?_;refine aU rfl (.tmp 28) (.tmp 35) 26 rfl (z (B w)+2) 91 Kd (ZJ #[U ⟨#[]⟩,U ⟨#[]⟩]) 2 32 QH hi Kk J8 J7 rfl (by decide) (Y a2 (A G) c2) (A G) (G.flatMap bF) (by simp[Act.eval]) ZM.src (Q (z (B WL)) 0 Z) 1 1 (bF ⟨sx,⟨#[]⟩⟩) (by simp[Act.eval]) rfl (λj u hu=>df WL _ _ _ j u hu) (by simp[bF,Value.oneCell']) (by unfold maxLen;omega) (by omega) (by omega) ?_;intro v' w7 C y _;obtain⟨a7,c7,rfl⟩:=aJ C;have S7:=ae (SQ w7 (λj ZZ ld=>(y.p j (lj ZZ AB.size) ld).k (AB.p j ZZ)));obtain⟨c8,b8⟩:=ZM.addS (x:=⟨sx,⟨#[]⟩⟩) C y;have X9:=ae c8;have B9:=ae b8;clear C y c8 b8;refine b _ _ (λ_=>S7) ?_;clear b K
    (try simp only[Act.put,yh])
    refine ai (i:=10) rfl (by kernel_rfl) λK b=>?_;go_simp;refine b _ _ (λ_=>S7) ?_;clear b K
    (try simp only[Act.put,yh])
    obtain⟨s7,t7⟩:=S7.i;have f7:ZX w7 (Q (z (B Z8)) 0 Z)=ZA:=by simp[World.frozen?,s7]
    have l7:=aj s7;clear s7;refine ai (i:=11) rfl (by kernel_rfl) λK b=>?_;go_simp;refine b _ _ (λh=>absurd rfl h) ?_;clear b K
    (try simp only[Act.put,yh])
    refine ba (by kernel_rfl) ?_ _;have BB:=ae ((AB.P (show (z (B w))+2<=z (B WL) by omega)).k B9.i);have R9:=ae (R4.low BB (by omega));have O9:=ae (O4.then (BB.P (by omega)));clear t7 f7 l7 DQ;go_simp;generalize World.setCell w7 _ _=W9 at X9 R9 O9 ⊢;have ZS:=ae X9.ab;have M:=ae X9.res;have ZR:=ae (fJ X9.src (by simp) X9.w rfl (by rw[cM];exact(by omega:A G+1<=300)) (by omega) G1);clear ZL ZN aq bt;go_wp2;go_meet;exact⟨_,_,_,_,_,_,_,_,_,by omega,ZS,M,ZR,R9,O9⟩
  ·by_cases hl:1<(A o:Int)
   ·obtain⟨t,rfl⟩:=ko m.w.y (by omega)
    obtain⟨r0,r1,RR,rfl⟩:∃r0 r1 RR,o=r0::r1::RR:=(by
     match o,hl with
     |[],h=>simp at h
     |[_],h=>simp at h
     |r0::r1::RR,_=>exact⟨r0,r1,RR,rfl⟩)
    have mv:(r0::r1::RR).length<=250:=by omega
    obtain⟨ka,JY⟩:=bA m.w.y (j:=0) (u:=U r0.1.e) rfl;obtain⟨kb,J0⟩:=bA m.w.y (j:=1) (u:=Y (T (Q r0.2.1 0 Z)) r0.1.h r0.2.2) rfl;obtain⟨kc,JJ⟩:=bA m.w.y (j:=2) (u:=U r1.1.e) rfl;obtain⟨kd,JG⟩:=bA m.w.y (j:=3) (u:=Y (T (Q r1.2.1 0 Z)) r1.1.h r1.2.2) rfl;have n8:=(m.w.y.lt t rfl).2;generalize ZP:(r0::r1::RR).length=nt at ZN m hl mv JV ⊢;have HL:=ae ZP;clear ZP;have JI:0<nt:=by omega
    have Ko:1<nt:=by omega
    have BA:=ae ((BS s).alloc ly (N #[U r0.1.e,Y (T (Q r0.2.1 0 Z)) r0.1.h r0.2.2] 95));have ZM:=ae (m.aa BA ly);have RA:=ae (R2.aa BA ly);have J4:=m.hi;have OA:=ae (O2.then (BA.P (by omega)));have cc:∀j,ZW (ZV s (N #[U r0.1.e,Y (T (Q r0.2.1 0 Z)) r0.1.h r0.2.2] 95)) (Q t j Z)=ZW s (Q t j Z):=λj=>BA.O (p:=(Q t j Z)) n8;have cf:∀j,ZX (ZV s (N #[U r0.1.e,Y (T (Q r0.2.1 0 Z)) r0.1.h r0.2.2] 95)) (Q t j Z)=ZX s (Q t j Z):=λj=>BA.frozen (p:=(Q t j Z)) n8;have KA:=ae ((cc 0).k ka);have JL:=ae ((cf 0).k JY);have KB:=ae ((cc 1).k kb);have Bk:=ae ((cf 1).k J0);have KC:=ae ((cc 2).k kc);have JX:=ae ((cf 2).k JJ);have KD:=ae ((cc 3).k kd);have JP:=ae ((cf 3).k JG);have KX:Hid ((ZV s (N #[U r0.1.e,Y (T (Q r0.2.1 0 Z)) r0.1.h r0.2.2] 95)).heap[z (B s)]?=T (N #[U r0.1.e,Y (T (Q r0.2.1 0 Z)) r0.1.h r0.2.2] 95 (0,0))):=gM s _;have JS:t≠z (B s):=by omega
    have Km:=BA.size;clear cc cf;go_wp2_with fail;generalize World.alloc s _=WA at ZM RA OA KA JL KB Bk KC JX KD JP KX Km ⊢;have JN:=ZM.cells.2;clear ka JY kb J0 kc JJ kd JG BA ZL ZN aq bt;refine aI (λV=>ZW V (Q (z (B Z8)) 1 Z)=T (Y (T (Q t 0 Z)) nt c5)/\ZW V (Q t 2 Z)=T (U r1.1.e)/\ZW V (Q t 3 Z)=T (Y (T (Q r1.2.1 0 Z)) r1.1.h r1.2.2)) 7 (by kernel_rfl) ?_;have l:Hid (WA.drew.cell? (Q (z (B Z8)) 1 Z)=T (Y (T (Q t 0 Z)) nt c5)/\WA.drew.cell? (Q t 2 Z)=T (U r1.1.e)/\WA.drew.cell? (Q t 3 Z)=T (Y (T (Q r1.2.1 0 Z)) r1.1.h r1.2.2)):=⟨JN,KC,KD⟩
    iterate 6
     refine aO 0 (v:=?_) rfl rfl (by kernel_rfl) (λ_ _ _ h=>h) rfl ?_ l ?_;rotate_left
     ·(rintro wz⟨s0,s1,s2⟩;go_simp)
      (try with_reducible rfl)
     (try simp only[Act.put,yh])
    refine ai (i:=6) rfl (by kernel_rfl) λK b=>?_;go_simp;refine b _ _ (λ_=>l) ?_;clear b K
    (try simp only[Act.put,yh])
    have z0:=JL.i;have z1:=Bk.i;have y0:=KA.i;have y1:=KB.i;have hgtA:t<z (B WA):=by omega
    refine ai (i:=7) rfl (by kernel_rfl) λK b=>?_;go_simp;refine b _ _ (λh=>absurd rfl h) ?_;clear b K
    (try simp only[Act.put,yh])
    refine ba (by kernel_rfl) ?_ _;go_simp;have SW:=ae (((ZM.sw HL.c).set 0 (U r1.1.e)).set 1 (Y (T (Q r1.2.1 0 Z)) r1.1.h r1.2.2)).drew;have n9:=(ZM.w.y.lt t rfl).1;have BW:=ae ((((a8 (z (B w)+2) WA).setCell (p:=(Q t 0 Z)) n9 (U r1.1.e)).setCell (p:=(Q t 1 Z)) n9 (Y (T (Q r1.2.1 0 Z)) r1.1.h r1.2.2)).drew);have kx:(ZU (ZU WA (Q t 0 Z) (U r1.1.e)) (Q t 1 Z) (Y (T (Q r1.2.1 0 Z)) r1.1.h r1.2.2)).drew.heap[z (B s)]?=T (N #[U r0.1.e,Y (T (Q r0.2.1 0 Z)) r0.1.h r0.2.2] 95 (0,0)):=((qh _ (Q t 1 Z) _ (z (B s)) (λe=>JS (Eq.symm e))).k (qh _ (Q t 0 Z) _ (z (B s)) (λe=>JS (Eq.symm e)))).k KX;clear l z0 z1 y0 y1 KA JL KB Bk KC JX KD JP KX JN;generalize World.drew (World.setCell (World.setCell WA _ _) _ _)=WB at SW BW kx ⊢;obtain⟨kc,JJ⟩:=bA SW.y (j:=2) (u:=U r1.1.e) rfl;obtain⟨kd,JG⟩:=bA SW.y (j:=3) (u:=Y (T (Q r1.2.1 0 Z)) r1.1.h r1.2.2) rfl;have ph:=SW.ab;have kv:ZW WB (Q (z (B Z8)) 1 Z)=T (Y (T (Q t 0 Z)) nt c5):=by simp[World.cell?,ph]
    have P:ZW WB (Q (z (B s)) 0 Z)=T (U r0.1.e):=by simp[World.cell?,kx]
    have x1:ZW WB (Q (z (B s)) 1 Z)=T (Y (T (Q r0.2.1 0 Z)) r0.1.h r0.2.2):=by simp[World.cell?,kx]
    have hgtB:t<z (B WB):=(SW.y.lt t rfl).2;have kv0:ZW WB (Q (z (B Z8)) 0 Z)=T (Y a2 (A G) c2):=by simp[World.cell?,ph]
    have l1:=aj ph;have Kn:¬ t=z (B Z8):=by intro e;obtain⟨Kh,Fk⟩:=eo SW.y t rfl;rw[e] at Fk;have h3:=ph.c.k Fk;cases h3
    have hg1':¬ (z (B Z8))=t:=λe=>Kn e.c;have At:=ae ((SW.set 2 (U r0.1.e)).set 3 (Y (T (Q r0.2.1 0 Z)) r0.1.h r0.2.2))
    have ZR:=ae (At.fin rfl (L:=r1::r0::RR) (by rw[<-pE];rfl) HL.c (by omega) (by have:=HL.i;simp only[vF] at this ⊢;omega) (by
     intro r hr;simp only[vG] at hr ⊢;rcases hr with h|h|h;{exact .inr (.inl h)};{exact .inl h}
     ·exact .inr (.inr h)) G1)
    have BF:=ae ((BW.setCell (p:=(Q t 2 Z)) n9 (U r0.1.e)).setCell (p:=(Q t 3 Z)) n9 (Y (T (Q r0.2.1 0 Z)) r0.1.h r0.2.2));have R9:=ae (RA.low BF (by omega));have O9:=ae (OA.then (BF.P (show (z (B w))<=z (B w)+2 by omega)));have ZS:=ae At.ab;have M:=ae At.res;clear ph kx SW At BF BW ZM RA OA;go_wp2;go_meet;exact⟨_,_,_,_,_,_,_,_,_,by omega,ZS,M,ZR,R9,O9⟩
   {skip;have ZS:=ae m.ab;have M:=ae m.res;have ZR:=ae (fJ m.src rfl m.w rfl (by omega) (by omega) G1);go_wp2;go_meet;exact⟨_,_,_,_,_,_,_,_,_,by omega,ZS,M,ZR,R2,O2⟩}
  ·by_cases hl:0<(A o:Int)
   ·go_wp2_with fail;obtain⟨t,rfl⟩:=ko m.w.y (by omega)
    obtain⟨r0,RR,rfl⟩:∃r0 RR,o=r0::RR:=(by
     match o,hl with
     |[],h=>simp at h
     |r0::RR,_=>exact⟨r0,RR,rfl⟩)
    have mv:(r0::RR).length<=250:=by omega
    have kb:=(bA m.w.y (j:=1) (u:=Y (T (Q r0.2.1 0 Z)) r0.1.h r0.2.2) rfl).1;have n8:=(m.w.y.lt t rfl).2;have n9:=(m.w.y.lt t rfl).1;have AC:=ae (m.w.u r0 (SD ..));have Ka:=N1.i r0 (SD ..);have Ki:=ae (G1 r0 (SD ..)).2;generalize ZP:(r0::RR).length=nt at ZN m hl mv JV ⊢;have HL:=ae ZP;clear ZP;have JI:0<nt:=by omega
    have hRb:R<z (B w)+2:=by omega
    refine aI (λV=>V.heap[z (B Z8)]?=T (N #[Y a2 (A G) c2,Y (T (Q t 0 Z)) nt c5] 29 (0,0))/\ZW V (Q (z (B Z8)) 1 Z)=T (Y (T (Q t 0 Z)) nt c5)/\ZW V (Q t 1 Z)=T (Y (T (Q r0.2.1 0 Z)) r0.1.h r0.2.2)) 11 (by kernel_rfl) ?_;have l:Hid (s.drew.heap[z (B Z8)]?=T (N #[Y a2 (A G) c2,Y (T (Q t 0 Z)) nt c5] 29 (0,0))/\s.drew.cell? (Q (z (B Z8)) 1 Z)=T (Y (T (Q t 0 Z)) nt c5)/\s.drew.cell? (Q t 1 Z)=T (Y (T (Q r0.2.1 0 Z)) r0.1.h r0.2.2)):=⟨m.ab,ZN,kb⟩
    iterate 8
     refine aO 0 (v:=?_) rfl rfl (by kernel_rfl) (λ_ _ _ h=>h) rfl ?_ l ?_;rotate_left
     ·(rintro wz⟨s0,s1,s2⟩;go_simp)
      (try with_reducible rfl)
     (try simp only[Act.put,yh])
    refine ai (i:=8) rfl (by kernel_rfl) λK b=>?_;go_simp;go_at_call 66;refine(xA R _ r0.2.1 r0.2.2 r0.1.h r0.1.u _ (R2.aa br.drew ly) (by omega) (AC.1.aa br.drew ly) Ka Ki).P ?_;rintro e ZT⟨L3,g3,d3,rfl,ro,_,hL3,Ke,q3,hq3,ZQ,H⟩;have X:Hid (zd R s ZT):=(zd.q br.drew).k H;have D:=ae (m.ac X (by omega));have R3:=ae ZQ;have O3:=ae (O2.k X);have JR:ZW ZT (Q t 1 Z)=T (Y (T (Q r0.2.1 0 Z)) r0.1.h r0.2.2):=(X.O t 1 n8 (by omega)).k kb;have z3:ZX ZT (Q t 1 Z)=ZA:=by obtain⟨Kh,hc⟩:=D.w.type t rfl;simp[World.frozen?,hc]
    have hgt3:=lj n8 X.size;have SA:=ae (D.setA (n:=A L3) (g:=g3) (c:=d3) (f:=cY L3) rfl HL.c (kY (by have h:=ro;unfold IR at h;rw[qK] at h;exact h)).1 (jH ro) (by have:z (B s)<=g3:=ro.lt.1;have:=m.lt;have:=m.hi;omega) (by omega) (iI Ke) (by omega) (by rw[HL.i];omega) G1);clear ro ZQ H X l;have l:=ae (show ZT.heap[z (B Z8)]?=T (N #[Y a2 (A G) c2,Y (T (Q t 0 Z)) nt c5] 29 (0,0))/\ZW ZT (Q (z (B Z8)) 1 Z)=T (Y (T (Q t 0 Z)) nt c5)/\ZW ZT (Q t 1 Z)=T (Y (T (Q r0.2.1 0 Z)) r0.1.h r0.2.2) from⟨D.ab,D.cells.2,JR⟩);refine b _ _ (λ_=>l) ?_;clear b K
    (try simp only[Act.put,yh])
    iterate 2
     refine bV 9 rfl rfl (by kernel_rfl) λK b=>?_;go_simp;refine b _ _ (λ_=>l) ?_;clear b K
     (try simp only[Act.put,yh])
    refine ai (i:=11) rfl (by kernel_rfl) λK b=>?_;go_simp;refine b _ _ (λh=>absurd rfl h) ?_;clear b K
    (try simp only[Act.put,yh])
    refine ba (by kernel_rfl) ?_ _;obtain⟨hE,hB,hQ,ex⟩:=SA.i;have ZR:=ae hE;have ZS:=ae hB;have M:=ae hQ;have R4:=ae (R3.low ex (by omega));have O4:=ae (O3.then (ex.P (show (z (B w))<=z (B w)+2 by omega)));clear hE hB hQ ex SA l kb JR z3 hl ZL ZN aq bt;go_simp;generalize World.setCell ZT _ _=W4 at ZR ZS M R4 O4 ⊢;go_wp2;go_meet;exact⟨_,_,_,_,_,_,_,_,_,by omega,ZS,M,ZR,R4,O4⟩
   {skip;have ZS:=ae m.ab;have M:=ae m.res;have ZR:=ae (fJ m.src rfl m.w rfl (by omega) (by omega) G1);go_wp2;go_meet;exact⟨_,_,_,_,_,_,_,_,_,by omega,ZS,M,ZR,R2,O2⟩}
  ·by_cases hl:0<(A G:Int)
   ·go_wp2_with fail;obtain⟨gs,rfl⟩:=ko m.src (by omega)
    obtain⟨P,LR,rfl⟩:∃P LR,G=P::LR:=(by
     match G,hl with
     |[],h=>simp at h
     |P::LR,_=>exact⟨P,LR,rfl⟩)
    have mv:(P::LR).length<=250:=by omega
    generalize ZP:(P::LR).length=nl at ZL m hl mv JU ⊢;have HL:=ae ZP;clear ZP;have JI:0<nl:=by omega
    refine aI (BxS (Y (T (Q gs 0 Z)) nl c2) (Y a5 (A o) c5) (z (B Z8))) 8 (by kernel_rfl) ?_;have l:=ae (i8 (W:=s.drew) m.ab);iterate 3
     refine aO 0 (v:=?_) rfl rfl (by kernel_rfl) (λ_ _ _ h=>h) rfl ?_ l ?_;rotate_left
     ·(rintro wz⟨s0,s1⟩;go_simp)
      (try with_reducible rfl)
     (try simp only[Act.put,yh])
    refine ai (i:=3) rfl (by kernel_rfl) λK b=>?_;go_simp;go_at_call 25;refine(ay R _ 2 _ (R2.aa br.drew ly) (by omega) (by omega) (by omega)).P ?_;rintro e ZT⟨z3,rfl,fd,th,ZQ,H⟩;obtain⟨m3,rfl⟩:=p9 fd;have X:Hid (zd R s ZT):=(zd.q br.drew).k H;have D:=ae (m.ac X (by omega));have R3:=ae ZQ;have O3:=ae (O2.k X);clear ZQ H X l;have l:=ae (i8 D.ab);refine b _ _ (λ_=>l) ?_;clear b K
    (try simp only[Act.put,yh])
    have J5:IntKind.i64.wrap (2000+(m3:Int))=2000+(m3:Int):=by rw[nL];omega
    refine ai (i:=4) rfl (by kernel_rfl) λK b=>?_;go_simp;refine b _ _ (λ_=>l) ?_;clear b K
    (try simp only[Act.put,yh])
    refine ai (i:=5) rfl (by kernel_rfl) λK b=>?_;go_simp;go_at_call 41;refine(eP ⟨#[115]⟩ (2000+m3) _ (by show 1*(2000+m3)<=4000;omega) (by omega)).P ?_;rintro e w4⟨tt,rfl,_,rfl⟩;refine b _ _ (λ_=>l) ?_;clear b K
    (try simp only[Act.put,yh])
    have XL:Hid (SpX (z (B w)+1) (z (B Z8)) (z (B w)+2) w4 (Y (T (Q gs 0 Z)) (P::LR).length c2) (Y a5 (A o) c5) (P::LR) o):=by rw[HL.i];exact D
    have Kp:=(XL.src.lt gs rfl).2;obtain⟨ky,kz⟩:=bA XL.src (j:=1) (u:=U P.H) rfl;obtain⟨x3,b3⟩:=XL.setS (j:=1) (LS':=⟨P.e,tt⟩::LR) (U tt) rfl rfl;clear XL;rw[HL.i] at x3;have X4:=ae x3;have B4:=ae b3;clear x3 b3;iterate 2
     refine bV 6 rfl rfl (by kernel_rfl) λK b=>?_;go_simp;refine b _ _ (λ_=>l) ?_;clear b K
     (try simp only[Act.put,yh])
    refine ai (i:=8) rfl (by kernel_rfl) λK b=>?_;go_simp;refine b _ _ (λh=>absurd rfl h) ?_;clear b K
    (try simp only[Act.put,yh])
    refine ba (by kernel_rfl) ?_ _;have R4:=ae (R3.low B4 (by omega));have O4:=ae (O3.then (B4.P (show (z (B w))<=z (B w)+2 by omega)));clear l ky kz hl;go_simp;generalize World.setCell w4 _ _=W4 at X4 R4 O4 ⊢;have ZS:=ae X4.ab;have M:=ae X4.res;have ZR:=ae (fJ X4.src HL.c X4.w rfl (by have:=HL.i;simp only[vF] at this ⊢;omega) (by omega) G1);clear ZL ZN aq bt;go_wp2;go_meet;exact⟨_,_,_,_,_,_,_,_,_,by omega,ZS,M,ZR,R4,O4⟩
   {skip;have ZS:=ae m.ab;have M:=ae m.res;have ZR:=ae (fJ m.src rfl m.w rfl (by omega) (by omega) G1);go_wp2;go_meet;exact⟨_,_,_,_,_,_,_,_,_,by omega,ZS,M,ZR,R2,O2⟩}
  ·go_wp2_with fail;go_loopw [7] (λi wr=>∃(k q:Nat) (v1:ZB) (RQ:List TR),i=J I k/\k<=A RQ/\q<=p+1+k/\(A RQ)<=300/\Hid (SpX (z (B w)+1) (z (B Z8)) (z (B w)+2) wr (Y a2 (A G) c2) v1 G RQ)/\Hid (GX RQ)/\Hid (Rd wr R q)/\Hid (zd R w wr)) (λi _=>400 - (intOf i).toNat);case atStart=>exact⟨0,p+1,_,o,rfl,by omega,by omega,by omega,m,G1,R2,O2⟩
   case round =>
    clear m R2 O2 ZL ZN aq bt G1 N1 la;obtain⟨k,q4,v1,o,rfl,hk,hq4,hk3,m,G1,R2,O2⟩:=hrel;obtain⟨s,rfl⟩:∃s,s=wr:=⟨wr,rfl⟩
    obtain⟨a5,c5,rfl⟩:=aJ m.w.y;have la:=m.lt;have hw1:IntKind.i64.wrap ((A G:Int)+A o)=(A G:Int)+A o:=by rw[nL];omega
    have hwk:IntKind.i64.wrap ((k:Int)+1)=(k:Int)+1:=by rw[nL];omega
    go_wp2_with fail;have SB:Hid (∀V:E,V.heap[z (B Z8)]?=T (N #[Y a2 (A G) c2,Y a5 (A o) c5] 29 (0,0))->V.heap[z (B Z8)]?=T (N #[Y a2 (A G) c2,Y a5 (A o) c5] 29 (0,0))/\ZW V (Q (z (B Z8)) 0 Z)=T (Y a2 (A G) c2)/\ZW V (Q (z (B Z8)) 1 Z)=T (Y a5 (A o) c5)):=λV h=>⟨h,by simp[World.cell?,h],by simp[World.cell?,h]⟩
    refine wp_region_held_drew (S:=λV=>V.heap[z (B Z8)]?=T (N #[Y a2 (A G) c2,Y a5 (A o) c5] 29 (0,0))/\ZW V (Q (z (B Z8)) 0 Z)=T (Y a2 (A G) c2)/\ZW V (Q (z (B Z8)) 1 Z)=T (Y a5 (A o) c5)) (by kernel_rfl) (SB s m.ab) λhS=>?_;have l:=ae hS;clear hS;iterate 8
     refine aN 0 (v:=?_) rfl rfl (by kernel_rfl) (λ_ _ _ h=>h) rfl ?_ l ?_;rotate_left
     ·(rintro wz⟨s0,s1,s2⟩;go_simp)
      (try with_reducible rfl)
     (try simp only[Act.put,yh])
    refine aL (i:=8) rfl (by kernel_rfl) λK b=>?_;go_simp;go_at_call 25;refine(ay R _ 2 _ (R2.aa br.drew ly) (by omega) (by omega) (by omega)).P ?_;rintro e ZT⟨z3,rfl,fd,th,ZQ,H⟩;obtain⟨m3,rfl⟩:=p9 fd;have X:Hid (zd R s ZT):=(zd.q br.drew).k H;have D:=ae (m.ac X (by omega));have R3:=ae ZQ;have O3:=ae (O2.k X);clear ZQ H X l;have l:=ae (SB ZT D.ab);refine b _ _ l ?_;clear b K
    (try simp only[Act.put,yh])
    have J5:IntKind.i64.wrap (200+(m3:Int))=200+(m3:Int):=by rw[nL];omega
    iterate 2
     refine li 9 rfl rfl (by kernel_rfl) λK b=>?_;go_simp;refine b _ _ l ?_;clear b K
     (try simp only[Act.put,yh])
    refine wpAnyH_done (by kernel_rfl) ?_ _;clear l SB;by_cases hlt:(A G:Int)+A o<200+(m3:Int)
    ·go_wp2_with fail;have JM:=D.lt;have SQ:=ae D.Qj;refine aI (BxT (Y a2 (A G) c2) (Y a5 (A o) c5) (z (B Z8))) 13 (by kernel_rfl) ?_;have l:=ae (SQ ZT.drew (λj ZZ _=>rfl));iterate 3
      refine aO 0 (v:=?_) rfl rfl (by kernel_rfl) (λ_ _ _ h=>h) rfl ?_ l ?_;rotate_left
      ·(rintro wz⟨s0,s1⟩;go_simp)
       (try with_reducible rfl)
      (try simp only[Act.put,yh])
     refine ai (i:=3) rfl (by kernel_rfl) λK b=>?_;go_simp;go_at_call 71;refine(iL k (by omega) _).P ?_;rintro e wl⟨lb,rfl,hlb,ex⟩;have BL:Hid (Below (z (B ZT)) ZT wl):=(BS ZT).drew.k ex;clear ex l;have l:=ae (SQ wl (λj ZZ _=>BL.p j ZZ));refine b _ _ (λ_=>l) ?_;clear b K
     (try simp only[Act.put,yh])
     refine fs (i:=4) (v:=U (⟨#[117]⟩++lb)) rfl (by kernel_rfl) (by kernel_rfl) (by kernel_rfl) (by kernel_rfl) (λ_ _ _ h=>h) rfl ?_ l ?_;{intro wz _;go_simp;omega}
     (try simp only[Act.put,yh])
     generalize (⟨#[117]⟩:F_)++lb=tn;refine ai (i:=5) rfl (by kernel_rfl) λK b=>?_;go_simp;go_at_call 72;refine(bC _ _).P ?_;rintro e wm⟨rfl,JT⟩;have BM:=ae (BL.k (JT.P BL.size));clear JT l;have l:=ae (SQ wm (λj ZZ _=>BM.p j ZZ));refine b _ _ (λ_=>l) ?_;clear b K
     (try simp only[Act.put,yh])
     refine ai (i:=6) rfl (by kernel_rfl) λK b=>?_;go_simp;go_at_call 73;refine(bq _ _).P ?_;rintro e ZO⟨rfl,qr⟩;have BN:=ae (BM.k (qr.P BM.size));clear qr l BL BM;have Kb:=BN.size;have BI:=ae (BN.alloc (by omega) (N #[J I 1,U ⟨#[107]⟩,J I 0,J I 15,U ⟨#[]⟩,J I 0] 124));have Kj:=D.hi;have OI:=ae (rN ZO (base:=z (B w)+2) (by omega));have l:=ae (SQ ZO (λj ZZ _=>BN.p j ZZ));refine b _ _ (λ_=>l) ?_;clear b K l
     (try simp only[Act.put,yh])
     have l:=ae (SQ _ (λj ZZ _=>BI.p j ZZ));iterate 3
      refine bV 7 rfl rfl (by kernel_rfl) λK b=>?_;go_simp;refine b _ _ (λ_=>l) ?_;clear b K
      (try simp only[Act.put,yh])
     have Fd:z (B (ZV ZO (N #[J I 1,U ⟨#[107]⟩,J I 0,J I 15,U ⟨#[]⟩,J I 0] 124)))=z (B ZO)+1:=by simp
     have AB:=ae (BI.alloc (by omega) (N #[U tn,Y (T (Q (z (B ZO)) 0 Z)) 2 2] 95));refine ai (i:=10) rfl (by kernel_rfl) λK b=>?_;go_simp;have ZM:=ae (D.aa AB ly);have OA:=ae (J_ OI (br.alloc ly (N #[U tn,Y (T (Q (z (B ZO)) 0 Z)) 2 2] 95)) ly);refine b _ _ (λ_=>SQ _ (λj ZZ _=>AB.p j ZZ)) ?_;clear b K
     (try simp only[Act.put,yh])
     refine ai (i:=11) rfl (by kernel_rfl) λK b=>?_;refine aU rfl (.tmp 106) (.tmp 115) 27 rfl (z (B w)+2) 95 Id (ZJ #[U ⟨#[]⟩,Y Z 0 0]) 2 40 ON ZZ Hx Fm DE rfl (by decide) (Y a5 (A o) c5) (A o) (o.flatMap aZ) (by simp[Act.eval]) ZM.w.y (Q (z (B ZO)+1) 0 Z) 1 1 (aZ (⟨tn,2,lsI iy⟩,z (B ZO),2)) (by simp[Act.eval]) rfl (λj u hu=>mC (Fd) _ _ _ j u hu) (by simp[aZ,Value.oneCell']) (by unfold maxLen;omega) (by omega) (by have:=ZM.hi;have:=ZM.lt;omega) ?_;intro v' w7 C y _;obtain⟨a7,c7,rfl⟩:=aJ C;have S7:=ae (SQ w7 (λj ZZ ld=>(y.p j (lj ZZ AB.size) ld).k (AB.p j ZZ)));obtain⟨c8,b8⟩:=ZM.addT (x:=⟨tn,2,lsI iy⟩) (g:=z (B ZO)) (c:=2) (λr hr e=>by have:=D.w.ltg r hr;omega) OA C y;have X9:=ae c8;have B9:=ae b8;clear C y c8 b8;refine b _ _ (λ_=>S7) ?_;clear b K
     (try simp only[Act.put,yh])
     refine ai (i:=12) rfl (by kernel_rfl) λK b=>?_;go_simp;refine b _ _ (λ_=>S7) ?_;clear b K
     (try simp only[Act.put,yh])
     obtain⟨s7,t7⟩:=S7.i;have f7:ZX w7 (Q (z (B Z8)) 1 Z)=ZA:=by simp[World.frozen?,s7]
     have l7:=aj s7;clear s7;refine ai (i:=13) rfl (by kernel_rfl) λK b=>?_;go_simp;refine b _ _ (λh=>absurd rfl h) ?_;clear b K
     (try simp only[Act.put,yh])
     refine ba (by kernel_rfl) ?_ _;go_wp2;have BB:=ae ((AB.P (show (z (B w))+2<=z (B ZT) by omega)).k B9.i);refine⟨⟨k+1,_,Y a7 (A o+1) c7,o++[((⟨tn,2,lsI iy⟩,z (B ZO),2):TR)],by go_num,by rw[cM];exact Nat.succ_le_succ hk,by omega,by rw[cM];exact(by omega:A o+1<=300),X9,G1.add (r:=(⟨tn,2,lsI iy⟩,z (B ZO),2)) (by show 2<=300;omega) pD,R3.low BB (by omega),O3.then (BB.P (by omega))⟩,by simp[intOf];omega⟩
    {have ZL:=la;have ZN:=la;have aq:=la;have bt:=la;have ZS:=ae D.ab;have M:=ae D.res;have ZR:=ae (fJ D.src rfl D.w rfl (by omega) (by omega) G1);clear ZL ZN aq bt;go_wp2;go_meet;exact⟨_,_,_,_,_,_,_,_,_,by omega,ZS,M,ZR,R3,O3⟩}
  ·go_wp2_with fail;refine aI (BxT (Y a2 (A G) c2) (Y a5 (A o) c5) (z (B Z8))) 14 (by kernel_rfl) ?_;have l:=ae (vL (W:=s.drew) m.ab);iterate 3
    refine aO 0 (v:=?_) rfl rfl (by kernel_rfl) (λ_ _ _ h=>h) rfl ?_ l ?_;rotate_left
    ·(rintro wz⟨s0,s1⟩;go_simp)
     (try with_reducible rfl)
    (try simp only[Act.put,yh])
   refine ai (i:=3) rfl (by kernel_rfl) λK b=>?_;go_simp;go_at_call 25;refine(ay R _ 2 _ (R2.aa br.drew ly) (by omega) (by omega) (by omega)).P ?_;rintro e ZT⟨z3,rfl,fd,th,ZQ,H⟩;obtain⟨m3,rfl⟩:=p9 fd;have X:Hid (zd R s ZT):=(zd.q br.drew).k H;have D:=ae (m.ac X (by omega));have R3:=ae ZQ;have O3:=ae (O2.k X);clear ZQ H X l;have l:=ae (vL D.ab);refine b _ _ (λ_=>l) ?_;clear b K
   (try simp only[Act.put,yh])
   have hw60:IntKind.i64.wrap (60+(m3:Int))=60+(m3:Int):=by rw[nL];omega
   refine ai (i:=4) rfl (by kernel_rfl) λK b=>?_;go_simp;refine b _ _ (λ_=>l) ?_;clear b K
   (try simp only[Act.put,yh])
   refine ai (i:=5) rfl (by kernel_rfl) λK b=>?_;go_simp;go_at_call 41;refine(eP ⟨#[110]⟩ (60+m3) _ (by show 1*(60+m3)<=4000;omega) (by omega)).P ?_;rintro e w4⟨tn,rfl,_,rfl⟩;refine b _ _ (λ_=>l) ?_;clear b K l
   (try simp only[Act.put,yh])
   have SQ:=ae D.Qj;refine ai (i:=6) rfl (by kernel_rfl) λK b=>?_;go_simp;go_at_call 72;refine(bC _ _).P ?_;rintro e wm⟨rfl,JO⟩;have BM:=ae JO;clear JO;refine b _ _ (λ_=>SQ wm (λj ZZ _=>BM.p j ZZ)) ?_;clear b K
   (try simp only[Act.put,yh])
   refine ai (i:=7) rfl (by kernel_rfl) λK b=>?_;go_simp;go_at_call 73;refine(bq _ _).P ?_;rintro e ZO⟨rfl,qr⟩;have BN:=ae (BM.k (qr.P BM.size));clear qr BM;have Kb:=BN.size;have BI:=ae (BN.alloc (by omega) (N #[J I 1,U ⟨#[107]⟩,J I 0,J I 15,U ⟨#[]⟩,J I 0] 124));have Kj:=D.hi;have JM:=D.lt;have OI:=ae (rN ZO (base:=z (B w)+2) (by omega));refine b _ _ (λ_=>SQ ZO (λj ZZ _=>BN.p j ZZ)) ?_;clear b K
   (try simp only[Act.put,yh])
   have l:=ae (SQ _ (λj ZZ _=>BI.p j ZZ));iterate 3
    refine bV 8 rfl rfl (by kernel_rfl) λK b=>?_;go_simp;refine b _ _ (λ_=>l) ?_;clear b K
    (try simp only[Act.put,yh])
   have Fd:z (B (ZV ZO (N #[J I 1,U ⟨#[107]⟩,J I 0,J I 15,U ⟨#[]⟩,J I 0] 124)))=z (B ZO)+1:=by simp
   have AB:=ae (BI.alloc (by omega) (N #[U tn,Y (T (Q (z (B ZO)) 0 Z)) 2 2] 95));refine ai (i:=11) rfl (by kernel_rfl) λK b=>?_;go_simp;have ZM:=ae (D.aa AB ly);have OA:=ae (J_ OI (br.alloc ly (N #[U tn,Y (T (Q (z (B ZO)) 0 Z)) 2 2] 95)) ly);refine b _ _ (λ_=>SQ _ (λj ZZ _=>AB.p j ZZ)) ?_;clear b K
   (try simp only[Act.put,yh])
   refine ai (i:=12) rfl (by kernel_rfl) λK b=>?_;refine aU rfl (.tmp 121) (.tmp 131) 27 rfl (z (B w)+2) 95 Id (ZJ #[U ⟨#[]⟩,Y Z 0 0]) 2 40 ON ZZ Hx Fm DE rfl (by decide) (Y a5 (A o) c5) (A o) (o.flatMap aZ) (by simp[Act.eval]) ZM.w.y (Q (z (B ZO)+1) 0 Z) 1 1 (aZ (⟨tn,2,lsI iy⟩,z (B ZO),2)) (by simp[Act.eval]) rfl (λj u hu=>mC (Fd) _ _ _ j u hu) (by simp[aZ,Value.oneCell']) (by unfold maxLen;omega) (by omega) (by have:=ZM.hi;have:=ZM.lt;omega) ?_;intro v' w7 C y _;obtain⟨a7,c7,rfl⟩:=aJ C;have S7:=ae (SQ w7 (λj ZZ ld=>(y.p j (lj ZZ AB.size) ld).k (AB.p j ZZ)));obtain⟨c8,b8⟩:=ZM.addT (x:=⟨tn,2,lsI iy⟩) (g:=z (B ZO)) (c:=2) (λr hr e=>by have:=D.w.ltg r hr;omega) OA C y;have X9:=ae c8;have B9:=ae b8;clear C y c8 b8;refine b _ _ (λ_=>S7) ?_;clear b K
   (try simp only[Act.put,yh])
   refine ai (i:=13) rfl (by kernel_rfl) λK b=>?_;go_simp;refine b _ _ (λ_=>S7) ?_;clear b K
   (try simp only[Act.put,yh])
   obtain⟨s7,t7⟩:=S7.i;have f7:ZX w7 (Q (z (B Z8)) 1 Z)=ZA:=by simp[World.frozen?,s7]
   have l7:=aj s7;clear s7;refine ai (i:=14) rfl (by kernel_rfl) λK b=>?_;go_simp;refine b _ _ (λh=>absurd rfl h) ?_;clear b K
   (try simp only[Act.put,yh])
   refine ba (by kernel_rfl) ?_ _;have BB:=ae ((AB.P (show (z (B w))+2<=z (B w4) by omega)).k B9.i);have R9:=ae (R3.low BB (by omega));have O9:=ae (O3.then (BB.P (by omega)));have G9:=ae (G1.add (r:=(⟨tn,2,lsI iy⟩,z (B ZO),2)) (by show 2<=300;omega) pD);clear t7 f7 l7 l;go_simp;generalize World.setCell w7 _ _=W9 at X9 R9 O9 ⊢;have ZS:=ae X9.ab;have M:=ae X9.res;have ZR:=ae (fJ X9.src rfl X9.w (by simp) (by omega) (by rw[cM];exact(by omega:A o+1<=300)) G9);clear ZL ZN aq bt;go_wp2;go_meet;exact⟨_,_,_,_,_,_,_,_,_,by omega,ZS,M,ZR,R9,O9⟩
  {have BQ:=ae ((BS s).alloc ly (N #[U ⟨#[97]⟩,Y Z 0 0] 95));have XQ:=ae (m.aa BQ ly);go_wp2_with (at_builtin;refine cj _ rfl (.tmp 137) (.tmp 139) 27 rfl (z (B w)+2) 95 Id (ZJ #[U ⟨#[]⟩,Y Z 0 0]) 2 40 ON ZZ Hx Fm DE rfl (by decide) (Y a5 (A o) c5) (A o) (o.flatMap aZ) (by simp[Act.eval]) XQ.w.y (Q (z (B s)) 0 Z) 1 1 [U ⟨#[97]⟩,Y Z 0 0] (by simp[Act.eval]) rfl (λj u hu=>df s _ _ _ j u hu) (by simp[Value.oneCell']) (by unfold maxLen;omega) (by omega) (by have:=m.hi;simp;omega) ?_;intro v' ZT C y _;obtain⟨a7,c7,rfl⟩:=aJ C;obtain⟨hE,hB,hQ,ex⟩:=XQ.addNil C y (by omega) (by omega) G1.i;have ZR:=ae hE;have JW:=ae ex;have ZS:=ae hB;have M:=ae hQ;have kb:=gw y XQ.w.type XQ.ab (by decide);clear C y hE hB hQ ex ZL ZN aq bt;have e0:ZW ZT (Q (z (B Z8)) 0 Z)=T (Y a2 (A G) c2):=(by simp[World.cell?,kb]);have e1:ZW ZT (Q (z (B Z8)) 1 Z)=T (Y a5 (A o) c5):=(by simp[World.cell?,kb]);have f2:ZX ZT (Q (z (B Z8)) 1 Z)=ZA:=(by simp[World.frozen?,kb]);have l1:=aj kb;have ld:=XQ.hi;clear kb);go_meet;exact⟨_,_,_,_,_,_,_,_,_,by omega,ZS,M,ZR,R2.low (BQ.P (show (z (B w))+2<=z (B s) by omega) |>.trans JW.i) (by omega),O2.then ((BQ.P (show (z (B w))<=z (B s) by omega)).k (JW.P (by omega)))⟩}
  ·by_cases hl:1<(A G:Int)
   ·go_wp2_with fail;obtain⟨gs,rfl⟩:=ko m.src (by omega)
    obtain⟨P,x1,LR,rfl⟩:∃P x1 LR,G=P::x1::LR:=(by
     match G,hl with
     |[],h=>simp at h
     |[_],h=>simp at h
     |P::x1::LR,_=>exact⟨P,x1,LR,rfl⟩)
    have Kp:=(m.src.lt gs rfl).2;have kx:=(bA m.src (j:=0) (u:=U P.e) rfl).1;obtain⟨ky,kz⟩:=bA m.src (j:=2) (u:=U x1.e) rfl;obtain⟨x3,b3⟩:=m.setS (j:=2) (LS':=P::⟨P.e,x1.H⟩::LR) (U P.e) rfl rfl;have D:=ae x3;have B3:=ae b3;clear x3 b3;have mv:(P::x1::LR).length<=250:=by omega
    have J9:(1:Int)<(P::x1::LR).length:=hl;generalize ZP:(P::x1::LR).length=nl at *;have HL:=ae ZP;clear ZP;have JI:0<nl:=by omega
    have Ko:1<nl:=by omega
    refine aI (λV=>ZW V (Q (z (B Z8)) 0 Z)=T (Y (T (Q gs 0 Z)) nl c2)/\ZW V (Q gs 0 Z)=T (U P.e)) 9 (by kernel_rfl) ?_;have l:Hid ((s.drew.cell? (Q (z (B Z8)) 0 Z)=T (Y (T (Q gs 0 Z)) nl c2))/\s.drew.cell? (Q gs 0 Z)=T (U P.e)):=⟨ZL,kx⟩
    iterate 7
     refine aO 0 (v:=?_) rfl rfl (by kernel_rfl) (λ_ _ _ h=>h) rfl ?_ l ?_;rotate_left
     ·(rintro wz⟨s0,s1⟩;go_simp)
      (try with_reducible rfl)
     (try simp only[Act.put,yh])
    iterate 2
     refine bV 7 rfl rfl (by kernel_rfl) λK b=>?_;go_simp;refine b _ _ (λ_=>l) ?_;clear b K
     (try simp only[Act.put,yh])
    refine ai (i:=9) rfl (by kernel_rfl) λK b=>?_;go_simp;refine b _ _ (λh=>absurd rfl h) ?_;clear b K
    (try simp only[Act.put,yh])
    refine ba (by kernel_rfl) ?_ _;have R3:=ae ((R2.low B3 (by omega)).aa br.drew ly);have O3:=ae (O2.then ((B3.P (show (z (B w))<=z (B w)+2 by omega)).drew));have XD:=ae (D.aa br.drew ly);clear l kx ky kz hl J9;go_simp;generalize World.drew (World.setCell s _ _)=W3 at XD R3 O3 ⊢;have ZS:=ae XD.ab;have M:=ae XD.res;have ZR:=ae (fJ XD.src HL.c XD.w rfl (by have:=HL.i;simp only[vF] at this ⊢;omega) (by omega) G1);clear ZL ZN aq bt;go_wp2;go_meet;exact⟨_,_,_,_,_,_,_,_,_,by omega,ZS,M,ZR,R3,O3⟩
   {skip;have ZS:=ae m.ab;have M:=ae m.res;have ZR:=ae (fJ m.src rfl m.w rfl (by omega) (by omega) G1);go_wp2;go_meet;exact⟨_,_,_,_,_,_,_,_,_,by omega,ZS,M,ZR,R2,O2⟩}
 case rest =>
 clear m R2 O2 ZL ZN aq bt la;obtain⟨b0,m0,k0,g0,b1,m1,k1,g1,q',hq',ZS,M,ZR,R9,O9⟩:=hcut;generalize wc=W9 at ZS M ZR R9 O9 ⊢;have kb:=ZS.i;have kr:=M.i;have e0:ZW W9 (Q (z (B Z8)) 0 Z)=T (Y b0 m0 k0):=by simp[World.cell?,kb]
 have e1:ZW W9 (Q (z (B Z8)) 1 Z)=T (Y b1 m1 k1):=by simp[World.cell?,kb]
 have r0:ZW W9 (Q (z (B w)+1) 0 Z)=T (Y Z 0 0):=by simp[World.cell?,kr]
 have r1:ZW W9 (Q (z (B w)+1) 1 Z)=T (Y Z 0 0):=by simp[World.cell?,kr]
 have f0:ZX W9 (Q (z (B w)+1) 0 Z)=ZA:=by simp[World.frozen?,kr]
 have f1:ZX W9 (Q (z (B w)+1) 1 Z)=ZA:=by simp[World.frozen?,kr]
 have l0:=aj kr;have l1:=aj kb;clear kb kr;have BE:=ae (((a8 (z (B w)) W9).setCell (p:=(Q (z (B w)+1) 0 Z)) (BV _) (Y b0 m0 k0)).setCell (p:=(Q (z (B w)+1) 1 Z)) (BV _) (Y b1 m1 k1));have Kc:=ae ((ZR.agr ((fl (j:=0) (show (z (B w))+1<z (B w)+2 by omega) (Y b0 m0 k0)).k (fl (j:=1) (show (z (B w))+1<z (B w)+2 by omega) (Y b1 m1 k1)))).P (show (z (B w))<=z (B w)+2 by omega));go_wp2;exact bp (v:=ZJ #[Y b0 m0 k0,Y b1 m1 k1]) (by simp[results,results28,go_sem,r0,r1]) rfl ⟨_,_,_,_,_,_,_,_,rfl,Kc,_,by omega,R9.low BE J6,O9.then BE⟩
def Ib{s0 s1 f:F_}{fz:Nat × Nat}(h:w.heap[b]?=T (N #[U s0,U s1,U f] t fz))(i:s0.size<=5000)(h1:s1.size<=5000)(h2:f.size<=5000)(k:Nat)(g:k<3):∃s:F_,ZW w (Q b k Z)=T (U s)/\s.size<=5000:=by
 match k,g with
 |0,_=>exact⟨s0,by simp[World.cell?,h],i⟩
 |1,_=>exact⟨s1,by simp[World.cell?,h],h1⟩
 |2,_=>exact⟨f,by simp[World.cell?,h],h2⟩
 |j+3,h5=>exact absurd h5 (by omega)
def yv{f:Nat}{a0 a1:O_}{c0 c1:Nat}{g:List Source}{b:List TR}(m:w.ownsRow f 91 2 (Y a0 (A g) c0) (A g) (g.flatMap bF))(l:TRow w f (Y a1 (A b) c1) b)(h:SpG g b)(n:A g<=300)(h1:A b<=300):HSp f w a0 (A g) (aV g) a1 (A b) (aW (b.map (·.1)))/\∀i,i<A b->1<=(aW (b.map (·.1)) i).h/\(aW (b.map (·.1)) i).h<=200:=by
 refine⟨fJ m rfl l rfl n h1 (λr j=>⟨by have:=(h.t r j).2.1.2;omega,(h.t r j).2.2⟩),λi hi=>?_⟩;have e:aW (b.map (·.1)) i=b[i].1:=by simp[aW,hi]
 rw[e];exact(h.t _ (gz hi)).2.1
def Cz (R p:Nat)(w:E)(hR:Rd w R p)(hp:p<=9000):Calls Pg 37 #[.pointer (T (Q R 0 Z))] w λe w'=>DH w R (p+6300) e w':=by
 have HR:=ae hR;have u:=hR.lt;clear hR;go_enter func37,ntmps37;go_wp2_with fail;obtain⟨W0,x⟩:∃W:E,ZV w (N #[Y Z 0 0,Y Z 0 0] 29)=W:=⟨_,rfl⟩
 obtain⟨A0,K0,hz0⟩:=nb1 x;have ZR:=ae x;clear x;rw[ZR.i];clear ZR;refine(ay R p 24 _ (HR.aa A0 ly) (by omega) (by omega) (by omega)).P ?_;rintro e w1⟨ZY,rfl,hz0',hz1',X,ZZ⟩;have P:=ae X;have L:=ae ((zd.q A0).k ZZ:zd R w w1);have S:=ae ((ZZ.p (z (B w)) (by omega) (by omega)).k K0);have hs1:=ZZ.size;clear X ZZ A0 K0;by_cases hk:ZY=0
 ·subst hk;go_wp2_with fail;refine(ay R _ 3 _ P (by omega) (by omega) (by omega)).P ?_;rintro e g⟨z2,rfl,ex,h21,m,f⟩;obtain⟨K,rfl⟩:=p9 ex;have i:=ae m;have l:=ae (L.k f);have h:=ae ((f.p (z (B w)) (by omega) (by omega)).k S);have ld:=f.size;clear m f P L S;have hw1:IntKind.i64.wrap (60+(K:Int))=60+(K:Int):=by rw[nL];omega
  have hw2:IntKind.i64.wrap (60+(K:Int) - 1)=59+(K:Int):=by rw[nL];omega
  go_wp2_with fail;obtain⟨WL,y⟩:∃W:E,ZV g (N #[U ⟨#[97]⟩,U ⟨#[110,111,110,101]⟩,U ⟨#[116,48,48,48]⟩] 9)=W:=⟨_,rfl⟩
  obtain⟨ZQ,q,-⟩:=nb1 y;replace q:=q.i;have ZS:=ae y;clear y;have RL:=ae (i.aa ZQ ly);have OL:=ae (l.then (ZQ.P (by omega)));have KL:=ae ((ZQ.p (z (B w)) (by omega)).k h);have G:=aj q;have ZN:=ae q;clear ZQ q i l h;rw[ZS.i];clear ZS;refine(ay R _ 3 _ RL (by omega) (by omega) (by omega)).P ?_;rintro e Z8⟨z3,rfl,fd,h31,r,b⟩;obtain⟨m3,rfl⟩:=p9 fd;have mv:m3<3:=by omega
  have M:=ae r;have O:=ae (OL.k b);have ZP:=ae ((b.p (z (B w)) (by omega) (by omega)).k KL);obtain⟨sx,aq,la⟩:=Ib ((b.p (z (B g)) G (by omega)).k ZN) (WI rfl) (WI rfl) (WI rfl) m3 mv;have hs4:=b.size;clear r b ZN RL OL KL;go_wp2_with fail;refine(xC (59+K) (by omega) sx la _).P ?_;rintro e H⟨a0,n0,c0,f0,a1,n1,c1,f1,rfl,V,C⟩;have H4:=ae (V.P (show (z (B w))+1<=z (B Z8) by omega));have R4:=ae (M.aa C ly);have O4:=ae (O.then (C.P (by omega)));have K4:=ae ((C.p (z (B w)) (by omega)).k ZP);clear V C M O ZP aq;have kr:=K4.i;have r0:ZW H (Q (z (B w)) 0 Z)=T (Y Z 0 0):=by simp[World.cell?,kr]
  have r1:ZW H (Q (z (B w)) 1 Z)=T (Y Z 0 0):=by simp[World.cell?,kr]
  have f0:ZX H (Q (z (B w)) 0 Z)=ZA:=by simp[World.frozen?,kr]
  have f1:ZX H (Q (z (B w)) 1 Z)=ZA:=by simp[World.frozen?,kr]
  have l0:=aj kr;clear kr;have o:=ae (((a8 (z (B w)) H).setCell (p:=(Q (z (B w)) 0 Z)) ly (Y a0 n0 c0)).setCell (p:=(Q (z (B w)) 1 Z)) ly (Y a1 n1 c1));have t:=ae ((H4.agr ((fl (j:=0) (eL (z (B w))) (Y a0 n0 c0)).k (fl (j:=1) (eL (z (B w))) (Y a1 n1 c1)))).P (BV (z (B w))));go_wp2;exact bp (v:=ZJ #[Y a0 n0 c0,Y a1 n1 c1]) (by simp[results,results37,go_sem,r0,r1]) rfl ⟨_,_,_,_,_,_,_,_,rfl,t,_,by omega,R4.low o u,O4.then o⟩
 ·go_wp2_with fail;refine(qO R _ _ P (by omega)).P ?_;rintro e g⟨s,n,v0,v1,rfl,hs,ht,hG,hl0,hl1,q2,hq2,m,f⟩;obtain⟨a0,c0,rfl⟩:=aJ hs;obtain⟨a1,c1,rfl⟩:=aJ ht.y;obtain⟨hh,hg⟩:=yv hs ht hG (by omega) (by omega);have D:=ae (hh.P (show (z (B w))+1<=z (B w1)+2 by omega));have HG:=ae hg;have i:=ae m;have l:=ae (L.k f);have h:=ae ((f.p (z (B w)) (by omega) (by omega)).k S);have ld:=f.size;clear hs ht hG hh hg m f P L S;by_cases hk3:ZY<3
  ·have ZT:=ae ((BS g).alloc ly (N #[Y a0 (A s) c0,Y a1 (A n) c1] 29));have D:=ae (D.agr (de ZT ly));have i:=ae (i.aa ZT ly);have l:=ae (l.then (ZT.P (by omega)));have h:=ae ((ZT.p (z (B w)) (by omega)).k h);have G:=ZT.size;clear ZT;go_wp2_with fail;generalize World.alloc g _=WS at D i l h G ⊢;refine(oW R q2 (z (B w)+1) (A s) c0 (A n) c1 a0 _ a1 _ _ i (by omega) D HG (by omega) (by omega)).P ?_;rintro e Z8⟨b0,m0,ZL,g0,b1,m1,ZM,g1,rfl,ZO,q3,hq3,r,b⟩;have H3:=ae (ZO.P (show (z (B w))+1<=z (B WS) by omega));have M:=ae r;have O:=ae (l.k b);have ZP:=ae ((b.p (z (B w)) (by omega) (by omega)).k h);clear ZO r b D i l h HG;have kr:=ZP.i;have r0:ZW Z8 (Q (z (B w)) 0 Z)=T (Y Z 0 0):=by simp[World.cell?,kr]
   have r1:ZW Z8 (Q (z (B w)) 1 Z)=T (Y Z 0 0):=by simp[World.cell?,kr]
   have f0:ZX Z8 (Q (z (B w)) 0 Z)=ZA:=by simp[World.frozen?,kr]
   have f1:ZX Z8 (Q (z (B w)) 1 Z)=ZA:=by simp[World.frozen?,kr]
   have l0:=aj kr;clear kr;have o:=ae (((a8 (z (B w)) Z8).setCell (p:=(Q (z (B w)) 0 Z)) ly (Y b0 m0 ZL)).setCell (p:=(Q (z (B w)) 1 Z)) ly (Y b1 m1 ZM));have t:=ae ((H3.agr ((fl (j:=0) (eL (z (B w))) (Y b0 m0 ZL)).k (fl (j:=1) (eL (z (B w))) (Y b1 m1 ZM)))).P (BV (z (B w))));go_wp2;exact bp (v:=ZJ #[Y b0 m0 ZL,Y b1 m1 ZM]) (by simp[results,results37,go_sem,r0,r1]) rfl ⟨_,_,_,_,_,_,_,_,rfl,t,_,by omega,M.low o u,O.then o⟩
  ·clear HG;have kr:=h.i;have r0:ZW g (Q (z (B w)) 0 Z)=T (Y Z 0 0):=by simp[World.cell?,kr]
   have r1:ZW g (Q (z (B w)) 1 Z)=T (Y Z 0 0):=by simp[World.cell?,kr]
   have f0:ZX g (Q (z (B w)) 0 Z)=ZA:=by simp[World.frozen?,kr]
   have f1:ZX g (Q (z (B w)) 1 Z)=ZA:=by simp[World.frozen?,kr]
   have l0:=aj kr;clear kr;have bt:z (B (ZU (ZU g (Q (z (B w)) 0 Z) (Y a0 (A s) c0)) (Q (z (B w)) 1 Z) (Y a1 (A n) c1)))=z (B g):=by simp
   have o:=ae ((((a8 (z (B w)) g).setCell (p:=(Q (z (B w)) 0 Z)) ly (Y a0 (A s) c0)).setCell (p:=(Q (z (B w)) 1 Z)) ly (Y a1 (A n) c1)).alloc (by omega) (N #[Y a0 (A s) c0,Y a1 (A n) c1] 29));have t:=ae ((D.agr (((fl (j:=0) (eL (z (B w))) (Y a0 (A s) c0)).k (fl (j:=1) (eL (z (B w))) (Y a1 (A n) c1))).k (de (br.alloc ly (N #[Y a0 (A s) c0,Y a1 (A n) c1] 29)) ly))).P (BV (z (B w))));clear bt;go_wp2;exact bp (v:=ZJ #[Y a0 (A s) c0,Y a1 (A n) c1]) (by simp[results,results37,go_sem,r0,r1,l0]) rfl ⟨_,_,_,_,_,_,_,_,rfl,t,_,by omega,i.low o u,l.then o⟩
def iz (R p b0 n0 c0 n1 c1:Nat)(a0:O_)(f0:Nat->Source)(a1:O_)(f1:Nat->Target)(w:E)(hR:Rd w R p)(hp:p<=50000)(hb:R<b0)(hH:HSp b0 w a0 n0 f0 a1 n1 f1):Calls Pg 39 #[.pointer (T (Q R 0 Z)),ZJ #[Y a0 n0 c0,Y a1 n1 c1]] w λe w'=>∃t:F_,e=ZI (U t)/\∃q:Nat,q<=p+3/\Rd w' R q/\zd R w w':=by
 have HR:=ae hR;have hlow:=hR.lt;have hn1:=hH.hn1;have HH:=ae hH;clear hR hH;have x:=ae ((BS w).alloc ly (N #[Y a0 n0 c0,Y a1 n1 c1] 29));have H:Hid ((ZV w (N #[Y a0 n0 c0,Y a1 n1 c1] 29)).heap[z (B w)]?=T (N #[Y a0 n0 c0,Y a1 n1 c1] 29 (0,0))):=gM w _;have M:z (B (ZV w (N #[Y a0 n0 c0,Y a1 n1 c1] 29)))=z (B w)+1:=by simp
 by_cases hn:0<(n1:Int)
 ·go_enter func39,ntmps39;go_wp2_with fail;generalize World.alloc w _=n at x H M ⊢;have O:=ae (HR.aa x ly);have P:Hid (zd R w n):=zd.q x;refine(ay R p 8 _ O (by omega) (by omega) (by omega)).P ?_;rintro e ZQ⟨ZY,rfl,hz0',hz1',S,ZT⟩;have ZL:=ae S;have X:=ae (P.k ZT);have K1:=ae ((ZT.p (z (B w)) (by omega) (by omega)).k H);clear S ZT O P H x;have ZN:=K1.i;have ZO:ZW ZQ (Q (z (B w)) 1 Z)=T (Y a1 n1 c1):=by simp[World.cell?,ZN]
  have l1:=aj ZN;clear ZN;by_cases hz:0<ZY
  ·go_wp2_with fail;refine aI (λV=>ZW V (Q (z (B w)) 1 Z)=T (Y a1 n1 c1)) 10 (by as_aux_lemma=>kernel_rfl) ?_;have G:Hid (ZQ.drew.cell? (Q (z (B w)) 1 Z)=T (Y a1 n1 c1)):=ZO;iterate 6
    refine aO 0 (v:=?_) rfl rfl (by as_aux_lemma=>kernel_rfl) (λ_ _ _ h=>h) rfl ?_ G ?_;rotate_left
    ·(intro wz s0;go_simp)
     (try with_reducible rfl)
    (try simp only[Act.put,yh])
   refine ai (i:=6) rfl (by as_aux_lemma=>kernel_rfl) λK ZR=>?_;go_simp;go_at_call 25;refine(ay R _ (n1:Int) _ (ZL.aa br.drew ly) (by omega) (by omega) (by omega)).P ?_;rintro e ZS⟨z3,rfl,o,ZP,g,b⟩;obtain⟨l,rfl⟩:=p9 o;have OO:Hid (zd R ZQ ZS):=(zd.q br.drew).k b;have D:=ae g;have C:=ae (X.k OO);have m:l<n1:=by omega
   clear g b G;have G:Hid (ZW ZS (Q (z (B w)) 1 Z)=T (Y a1 n1 c1)):=(OO.O (z (B w)) 1 l1 (by omega)).k ZO;rcases(HH.sl ZS (C.agr hb)).2 with h0|⟨tb,tof,rfl,u⟩
   {omega};have kn:=(u.2 l m).1;have hl:=u.1;clear u ZO;refine ZR _ _ (λ_=>G) ?_;clear ZR K
   (try simp only[Act.put,yh])
   iterate 4
    refine bV 7 rfl rfl (by as_aux_lemma=>kernel_rfl) λK ZR=>?_;go_simp;refine ZR _ _ (λ_=>G) ?_;clear ZR K
    (try simp only[Act.put,yh])
   refine ba (by as_aux_lemma=>kernel_rfl) ?_ _;go_wp2;go_ret;exact⟨_,rfl,_,by omega,D,C⟩
  ·go_wp2_with fail;obtain⟨WL,s⟩:∃W:E,ZV ZQ (N #[U ⟨#[97]⟩,U ⟨#[110,111,110,101]⟩,U ⟨#[]⟩,U ⟨#[120,32,121]⟩,U ⟨#[116,48]⟩] 9)=W:=⟨_,rfl⟩
   obtain⟨r,f,-⟩:=nb1 s;replace f:=f.i;have L:=ae s;clear s;have Z8:=ae (ZL.aa r ly);have ZZ:=ae (X.then (r.P (by omega)));have y:=aj f;have j:=ae f;clear r f;rw[L.i];clear L;refine(ay R _ 5 _ Z8 (by omega) (by omega) (by omega)).P ?_;rintro e ZS⟨z3,rfl,o,ZP,g,b⟩;obtain⟨l,rfl⟩:=p9 o;have m:l<5:=by omega
   have D:=ae g;have C:=ae (ZZ.k b);obtain⟨sx,ZM⟩:=oE ((b.p (z (B ZQ)) y (by omega)).k j) l m;clear g b j Z8 ZZ;go_wp2;go_ret;exact⟨sx,rfl,_,by omega,D,C⟩
 ·go_enter func39,ntmps39;go_wp2_with fail;generalize World.alloc w _=n at x H M ⊢;have O:=ae (HR.aa x ly);have P:Hid (zd R w n):=zd.q x;have l0:=aj H.i;have r:=ae ((BS n).alloc ly (N #[U ⟨#[97]⟩,U ⟨#[110,111,110,101]⟩,U ⟨#[]⟩,U ⟨#[120,32,121]⟩,U ⟨#[116,48]⟩] 9));have Z8:=ae (O.aa r ly);have ZZ:=ae (P.then (r.P (by omega)));have f:(n.alloc (N #[U ⟨#[97]⟩,U ⟨#[110,111,110,101]⟩,U ⟨#[]⟩,U ⟨#[120,32,121]⟩,U ⟨#[116,48]⟩] 9)).heap[z (B w)+1]?=T (N #[U ⟨#[97]⟩,U ⟨#[110,111,110,101]⟩,U ⟨#[]⟩,U ⟨#[120,32,121]⟩,U ⟨#[116,48]⟩] 9 (0,0)):=(by rw[<-M];exact gM n _)
  have y:=aj f;have j:=ae f;clear r f;generalize World.alloc n _=WL at Z8 ZZ j y ⊢;refine(ay R _ 5 _ Z8 (by omega) (by omega) (by omega)).P ?_;rintro e ZS⟨z3,rfl,o,ZP,g,b⟩;obtain⟨l,rfl⟩:=p9 o;have m:l<5:=by omega
  have D:=ae g;have C:=ae (ZZ.k b);obtain⟨sx,ZM⟩:=oE ((b.p (z (B w)+1) y (by omega)).k j) l m;clear g b j Z8 ZZ;go_wp2;go_ret;exact⟨sx,rfl,_,by omega,D,C⟩
def DPS (w:E)(e:Ending)(b:E):Prop:=∃(a0:O_) (n0 c0:Nat) (f0:Nat->Source) (a1:O_) (n1 c1:Nat) (f1:Nat->Target) (t tx:F_),e=ZI (.tuple #[ZJ #[Y a0 n0 c0,Y a1 n1 c1],U t,U tx])/\HSp (z (B w)) b a0 n0 f0 a1 n1 f1/\Below (z (B w)) w b
def Ic{s0 s1:F_}{fz:Nat × Nat}(h:w.heap[b]?=T (N #[U s0,U s1] t fz))(k:Nat)(f:k<2):∃s,ZW w (Q b k Z)=T (U s):=by
 match k,f with
 |0,_=>exact⟨s0,by simp[World.cell?,h]⟩
 |1,_=>exact⟨s1,by simp[World.cell?,h]⟩
 |j+2,h5=>exact absurd h5 (by omega)
def yw{v0 v1:ZB}{fz:Nat × Nat}(h:w.heap[b]?=T (N #[u0,u1] t fz)):(ZU (ZU w (Q b 0 Z) v0) (Q b 1 Z) v1).heap[b]?=T (N #[v0,v1] t fz):=by simp[World.setCell,NR,h]
def cR (h:V.heap[b]?=T (N #[u0,u1] t (0,0))):ZW V (Q b 0 Z)=T u0/\ZW V (Q b 1 Z)=T u1:=⟨by simp[World.cell?,h],by simp[World.cell?,h]⟩
def FJ (h:V.heap[b]?=T (N #[u0,u1] t (0,0))):ZX V (Q b 0 Z)=ZA/\ZX V (Q b 1 Z)=ZA/\b<z (B V):=⟨by simp[World.frozen?,h],by simp[World.frozen?,h],aj h⟩
structure PSt (w:E)(R h b:Nat)(a0:O_)(n0 c0:Nat)(f0:Nat->Source)(a1:O_)(n1 c1:Nat)(f1:Nat->Target)(u0 u1:ZB)(V:E):Prop where
 bl:Below (z (B w)) w V
 sp:HSp h V a0 n0 f0 a1 n1 f1
 rb:V.heap[z (B w)]?=T (N #[u0,u1] 29 (0,0))
 sb:V.heap[b]?=T (N #[Y a0 n0 c0,Y a1 n1 c1] 29 (0,0))
 hR:z (B w)<R/\R<h/\h<=b
section
variable {w V ZN:E}{R h b:Nat}{a0 a1:O_}{n0 c0 n1 c1:Nat}{f0:Nat->Source}{f1:Nat->Target}{u0 u1:ZB}
def PSt.on (s:PSt w R h b a0 n0 c0 f0 a1 n1 c1 f1 u0 u1 V)(f:zd R V ZN):PSt w R h b a0 n0 c0 f0 a1 n1 c1 f1 u0 u1 ZN:=
 have k:=s.hR
 ⟨s.bl.k (f.aa (by omega) s.bl.size),s.sp.agr (f.agr k.2.1),(f.p _ (aj s.rb) (by omega)).k s.rb,(f.p _ (aj s.sb) (by omega)).k s.sb,k⟩
def PSt.be (s:PSt w R h b a0 n0 c0 f0 a1 n1 c1 f1 u0 u1 V)(f:Below (z (B V)) V ZN):PSt w R h b a0 n0 c0 f0 a1 n1 c1 f1 u0 u1 ZN:=s.on (zd.q f)
def PSt.put (s:PSt w R h b a0 n0 c0 f0 a1 n1 c1 f1 u0 u1 V)(f g:ZB):PSt w R h b a0 n0 c0 f0 a1 n1 c1 f1 f g (ZU (ZU V (Q (z (B w)) 0 Z) f) (Q (z (B w)) 1 Z) g):=
 have k:=s.hR;have i:zd (z (B w)) V (ZU (ZU V (Q (z (B w)) 0 Z) f) (Q (z (B w)) 1 Z) g):=ce (ce (zd.refl _ _) 0 f) 1 g
 ⟨s.bl.k (i.aa ly s.bl.size),s.sp.agr (i.agr (by omega)),yw s.rb,(i.p _ (aj s.sb) (by omega)).k s.sb,k⟩
def PSt.big (s:PSt w R h b a0 n0 c0 f0 a1 n1 c1 f1 u0 u1 V):h<=z (B V):=by have:=aj s.sb;have:=s.hR;omega
end
def od (a:O_)(n j_:Nat)(w:E)(hn:(n:Int)<=1048576)(hc:n<=j_)(hS:ByteSl w a n):Calls Pg 9 #[Y a n j_] w λe w'=>DPS w e w':=by
 have S0:=ae hS;clear hS;go_enter func9,ntmps9;go_wp2_with fail;obtain⟨W0,ZS⟩:∃W:E,ZV w (N #[Y Z 0 0,Y Z 0 0] 29)=W:=⟨_,rfl⟩
 obtain⟨A0,KA,hzA⟩:=nb1 ZS;have ZQ:=ae ZS;clear ZS;rw[ZQ.i];clear ZQ;refine(lR a n j_ _ hn hc (S0.aa A0 ly)).P ?_;rintro e ZP⟨R,rfl,hRz,O,L⟩;have R1:=ae O;have ZM:=ae (A0.k (L.P (by omega)));have K1:=ae ((L.p (z (B w)) (by omega)).k KA);have hs1:=L.size;have D:=O.lt;clear O L A0 KA;go_wp2_with fail;refine(Cz R 0 _ R1 (by omega)).P ?_;rintro e ZR⟨a0,n0,c0,f0,a1,n1,c1,f1,rfl,ZN,q2,hq2,ZO,M⟩;have la:=M.size;have P:=(BS ZR).alloc ly (N #[Y a0 n0 c0,Y a1 n1 c1] 29);have B2:=ZM.k (M.aa (by omega) ZM.size);have C:Hid (PSt w R (z (B ZP)) (z (B ZR)) a0 n0 c0 f0 a1 n1 c1 f1 (Y Z 0 0) (Y Z 0 0) (ZV ZR (N #[Y a0 n0 c0,Y a1 n1 c1] 29))):=⟨B2.k (P.P B2.size),ZN.agr (de P ly),(P.p (z (B w)) (by omega)).k ((M.p (z (B w)) (by omega) (by omega)).k K1),gM ZR _,by omega,D,la⟩
 have l:=ae (ZO.aa P ly);clear ZN ZO M B2 P R1 ZM K1;go_wp2_with fail;generalize World.alloc ZR _=WX at C l ⊢;generalize (z (B ZR))=b at C ⊢;refine(dH R _ _ l (by omega)).P ?_;rintro e w3⟨nm,rfl,ld,hR,o⟩;replace C:=ae (C.on o);replace l:=ae hR;clear o hR;go_wp2_with fail;refine(ay R _ 10 _ l (by omega) (by omega) (by omega)).P ?_;rintro e w4⟨z4,rfl,h40,h41,hR,o⟩;replace C:=ae (C.on o);replace l:=ae hR;clear o hR ld;go_upto_if 16 with fail;go_cut [7] (λs wx=>∃(t:F_) (q:Nat),s=U t/\q<=q2+5/\Hid (Rd wx R q)/\Hid (PSt w R (z (B ZP)) b a0 n0 c0 f0 a1 n1 c1 f1 (Y Z 0 0) (Y Z 0 0) wx));case first =>
  by_cases h4:z4=0;{subst h4;obtain⟨y0,ZL⟩:=cR C.sb;go_wp2_with fail;refine(iz R _ (z (B ZP)) n0 c0 n1 c1 a0 f0 a1 f1 _ l (by omega) D C.sp).P ?_;rintro e w5⟨nm2,rfl,q5,hq5,hR,o⟩;clear y0 ZL;replace C:=ae (C.on o);replace l:=ae hR;clear o hR;go_wp2;go_meet;exact⟨_,_,rfl,by omega,l,C⟩};{go_wp2;go_meet;exact⟨_,_,rfl,by omega,l,C⟩}
 case rest =>
 clear C l;obtain⟨t,q,rfl,hq,l,C⟩:=hcut;go_wp2_with fail;refine(ay R _ 12 _ l (by omega) (by omega) (by omega)).P ?_;rintro e w6⟨z6,rfl,ex,bt,hR,o⟩;replace C:=ae (C.on o);replace l:=ae hR;clear o hR;have hlo:=C.hR;have r:=ae C.sp;by_cases h6:z6=0;case' neg =>go_wp2_with fail;refine(ay R _ 20 _ l (by omega) (by omega) (by omega)).P ?_;rintro e w6⟨z7,rfl,h70,h71,hR,o⟩;replace r:=ae (r.agr (o.agr D));replace C:=ae (C.on o);replace l:=ae hR;clear o hR ex bt;have mark:=True.intro;by_cases h7:z7=0
 all_goals
  (try subst h6)
  (try subst h7)
  obtain⟨y0,ZL⟩:=cR C.sb;go_wp2_with fail;clear y0 ZL;refine wp_region_held_drew (S:=λV=>ZW V (Q b 0 Z)=T _/\ZW V (Q b 1 Z)=T _) (by as_aux_lemma=>kernel_rfl) (cR C.sb) λ_=>?_;replace C:=ae (C.be br.drew);replace r:=ae (r.agr (de br.drew ly));replace l:=ae (l.aa br.drew ly);generalize w6.drew=v at C l r ⊢
  (try (clear mark;obtain⟨b0,rfl⟩:∃x,x=a0:=⟨_,rfl⟩;obtain⟨H,rfl⟩:∃x,x=a1:=⟨_,rfl⟩;obtain⟨m0,rfl⟩:∃x,x=n0:=⟨_,rfl⟩;obtain⟨G,rfl⟩:∃x,x=n1:=⟨_,rfl⟩;obtain⟨Z8,rfl⟩:∃x,x=c0:=⟨_,rfl⟩;obtain⟨ZZ,rfl⟩:∃x,x=c1:=⟨_,rfl⟩))
  have p:=ae (cR C.sb);repeat' first
   |(refine jP (i:=2) (j:=4) rfl rfl (by as_aux_lemma=>kernel_rfl) (λK f=>?_) (λK f=>?_))
   |(refine jP (i:=3) (j:=4) rfl rfl (by as_aux_lemma=>kernel_rfl) (λK f=>?_) (λK f=>?_))
   |(refine jP (i:=4) (j:=6) rfl rfl (by as_aux_lemma=>kernel_rfl) (λK f=>?_) (λK f=>?_))
   |(refine jP (i:=4) (j:=9) rfl rfl (by as_aux_lemma=>kernel_rfl) (λK f=>?_) (λK f=>?_))
   |(refine jP (i:=8) (j:=9) rfl rfl (by as_aux_lemma=>kernel_rfl) (λK f=>?_) (λK f=>?_))
   |(refine wpAnyH_done (by as_aux_lemma=>kernel_rfl) ?_ _;obtain⟨r0,r1⟩:=cR C.rb;go_wp2;first|(have:=u;exact bp (v:=.tuple #[ZJ #[Y b0 m0 Z8,Y H G ZZ],U sx,U ⟨#[120]⟩]) (by simp[results,results9,go_sem,r0,r1]) rfl ⟨_,_,_,_,_,_,_,_,_,_,rfl,r.P (by omega),C.bl⟩)|exact bp (v:=.tuple #[ZJ #[Y b0 m0 Z8,Y H G ZZ],U t,U sx]) (by simp[results,results9,go_sem,r0,r1]) rfl ⟨_,_,_,_,_,_,_,_,_,_,rfl,r.P (by omega),C.bl⟩)
   |(go_simp;go_at_call 25;refine(ay R _ 2 _ l (by omega) (by omega) (by omega)).P ?_;rintro e v⟨ZY,rfl,fd,hz1,hR,o⟩;obtain⟨m,rfl⟩:=p9 fd;have hw20:IntKind.i64.wrap (2000+(m:Int))=2000+(m:Int):=(by rw[nL];omega);(try replace r:=ae (r.agr (o.agr D)));(try replace u:=ae ((o.p g (aj u) (by omega)).k u));replace C:=ae (C.on o);replace l:=ae hR;clear o hR;replace p:=ae (cR C.sb);refine f _ _ p ?_;clear f K;(try simp only[Act.put,yh]))
   |(go_simp;go_at_call 40;refine(Ak (z (B ZP)) n0 c0 n1 c1 a0 f0 a1 f1 m _ (by omega) (by omega) C.sp).P ?_;rintro e v⟨b0,m0,Z8,g0,H,G,ZZ,g1,rfl,hH,y⟩;replace r:=ae (hH.P C.big);(try replace u:=ae ((y.p g (aj u)).k u));replace C:=ae (C.be y);replace l:=ae (l.aa y ly);clear hH y;replace p:=ae (cR C.sb);refine f _ _ p ?_;clear f K;(try simp only[Act.put,yh]))
   |(go_simp;go_at_call 42;refine(fT R _ _ l (by omega)).P ?_;rintro e v⟨sx,rfl,-,q8,hq8,hR,o⟩;replace r:=ae (r.agr (o.agr D));replace C:=ae (C.on o);clear l o hR;replace p:=ae (cR C.sb);refine f _ _ p ?_;clear f K;(try simp only[Act.put,yh]))
   |(go_simp;go_at_call 41;refine(eP ⟨#[112]⟩ (2000+m) _ (by show 1*(2000+m)<=4000;omega) (by omega)).P ?_;rintro e w9⟨sx,rfl,-,hw⟩;rw[hw];clear hw;replace p:=ae (cR C.sb);refine f _ _ p ?_;clear f K;(try simp only[Act.put,yh]))
   |(refine aN 0 (v:=?_) rfl rfl (by as_aux_lemma=>kernel_rfl) (λ_ _ _ h=>h) rfl ?_ p ?_;rotate_left;(focus (intro wz ZT;obtain⟨s0,s1⟩:=ZT;go_simp;(try with_reducible rfl);done));(try simp only[Act.put,yh]))
   |(refine li 0 rfl rfl (by as_aux_lemma=>kernel_rfl) (λK f=>?_))
   |(refine aN 5 (v:=?_) rfl rfl (by as_aux_lemma=>kernel_rfl) (λ_ _ _ h=>h) rfl ?_ p ?_;rotate_left;(focus (intro wz ZT;obtain⟨s0,s1⟩:=ZT;go_simp;(try with_reducible rfl);done));(try simp only[Act.put,yh]))
   |(refine aN 7 (v:=?_) rfl rfl (by as_aux_lemma=>kernel_rfl) (λ_ _ _ h=>h) rfl ?_ p ?_;rotate_left;(focus (intro wz ZT;obtain⟨s0,s1⟩:=ZT;go_simp;(try with_reducible rfl);done));(try simp only[Act.put,yh]))
   |(refine li 5 rfl rfl (by as_aux_lemma=>kernel_rfl) (λK f=>?_))
   |(obtain⟨sx,aq⟩:=Ic u m (by omega);go_simp;clear aq;replace p:=ae (cR C.sb);refine f _ _ p ?_;clear f K;(try simp only[Act.put,yh]))
   |(have u:Hid ((ZV v (N #[U ⟨#[97]⟩,U ⟨#[122,110,101,119]⟩] 9)).heap[z (B v)]?=T (N #[U ⟨#[97]⟩,U ⟨#[122,110,101,119]⟩] 9 (0,0))):=gM v _;go_simp;have y:=(BS v).alloc ly (N #[U ⟨#[97]⟩,U ⟨#[122,110,101,119]⟩] 9);(try replace r:=ae (r.agr (de y ly)));have hg:=C.big;replace C:=ae (C.be y);(try replace l:=ae (l.aa y ly));clear y;refine f _ (ZV v (N #[U ⟨#[97]⟩,U ⟨#[122,110,101,119]⟩] 9)) (cR C.sb) ?_;replace p:=ae (cR C.sb);clear f K;generalize (z (B v))=g at u hg ⊢;generalize ZV v (N #[U ⟨#[97]⟩,U ⟨#[122,110,101,119]⟩] 9)=v at *;(try simp only[Act.put,yh]))
   |(obtain⟨r0,r1⟩:=cR C.rb;obtain⟨t0,t1,l0⟩:=FJ C.rb;go_simp;clear r0 r1 t0 t1 l0;(try replace u:=ae (((qh _ (Q (z (B w)) 1 Z) (Y H G ZZ) g (by show g≠z (B w);omega)).k (qh v (Q (z (B w)) 0 Z) (Y b0 m0 Z8) g (by show g≠z (B w);omega))).k u));replace r:=ae (r.agr ((fl (X:=z (B w)) (w:=v) (j:=0) (by omega) (Y b0 m0 Z8)).k (fl (X:=z (B w)) (j:=1) (by omega) (Y H G ZZ))));replace C:=ae (C.put (Y b0 m0 Z8) (Y H G ZZ));(try clear l);replace p:=ae (cR C.sb);refine f _ (ZU (ZU v (Q (z (B w)) 0 Z) (Y b0 m0 Z8)) (Q (z (B w)) 1 Z) (Y H G ZZ)) p ?_;clear f K;generalize ZU (ZU v (Q (z (B w)) 0 Z) (Y b0 m0 Z8)) (Q (z (B w)) 1 Z) (Y H G ZZ)=v at *;(try simp only[Act.put,yh]))
   |(go_simp;replace p:=ae (cR C.sb);refine f _ _ p ?_;clear f K;(try simp only[Act.put,yh]))
def DPT (w:E)(e:Ending)(b:E):Prop:=∃(a0:O_) (n0 c0:Nat) (a1:O_) (n1 c1:Nat) (t:F_) (g m c:Nat) (f:Nat->Ins),e=ZI (.tuple #[ZJ #[Y a0 n0 c0,Y a1 n1 c1],U t,ZJ #[Y (T (Q g 0 Z)) m c]])/\Q_ b g 0 m f/\m<=201/\(∀j,j<m->(f j).s.size<=5000)/\Below (z (B w)) w b
def I9{g c:Nat}{L:List I3}(h:IR w b g c L):Q_ w g 0 (A L) (cY L):=⟨h.lt.2,h.at⟩
def vR (a:O_)(n j_:Nat)(w:E)(hn:(n:Int)<=1048576)(hc:n<=j_)(Z8:ByteSl w a n):Calls Pg 8 #[Y a n j_] w λe w'=>DPT w e w':=by
 have S0:=ae Z8;clear Z8;go_enter func8,ntmps8;go_wp2_with fail;obtain⟨W0,x⟩:∃W:E,ZV (ZV w (N #[Y Z 0 0,Y Z 0 0] 29)) (N #[Y Z 0 0] 37)=W:=⟨_,rfl⟩
 obtain⟨M,-,-,hzA⟩:=nb2 x;have q:=ae x;clear x;have KA:Hid (W0.heap[z (B w)]?=T (N #[Y Z 0 0,Y Z 0 0] 29 (0,0))):=by rw[<-q.i];have h1:=(a8 (z (B (ZV w (N #[Y Z 0 0,Y Z 0 0] 29)))) (ZV w (N #[Y Z 0 0,Y Z 0 0] 29))).alloc ly (N #[Y Z 0 0] 37);exact(h1.p (z (B w)) (by simp)).k (gM w _)
 have KB:Hid (W0.heap[z (B w)+1]?=T (N #[Y Z 0 0] 37 (0,0))):=by rw[<-q.i];have h2:=gM (ZV w (N #[Y Z 0 0,Y Z 0 0] 29)) (N #[Y Z 0 0] 37);rw[show(z (B (ZV w (N #[Y Z 0 0,Y Z 0 0] 29))))=z (B w)+1 by simp] at h2;exact h2
 rw[q.i];clear q;refine(lR a n j_ _ hn hc (S0.i.aa M.i ly)).P ?_;rintro e w1⟨R,rfl,hRz,D,o⟩;have R1:=ae D;have hs1:=o.size;have hRl:=D.lt;have T1:=ae ((S0.i.aa M.i ly).aa o ly);have B1:=ae (M.i.k (o.P (by omega)));have K1:=ae ((o.p (z (B w)) (by omega)).k KA.i);have M1:=ae ((o.p (z (B w)+1) (by omega)).k KB.i);clear D o M KA KB;go_wp2_with fail;refine(od a n j_ _ hn hc T1.i).P ?_;rintro e b⟨a0,n0,c0,f0,a1,n1,c1,f1,t,tx,rfl,-,ZY⟩;have ex:=ZY.size;obtain⟨G,u⟩:∃W:E,ZV b (N #[Y a0 n0 c0,Y a1 n1 c1] 29)=W:=⟨_,rfl⟩
 obtain⟨H,X,-⟩:=nb1 u;replace H:=H.i;have C:=ae u;clear u;have ZZ:=ae (ZY.k (H.P ex));have R6:=ae (R1.i.aa ZZ.i ly);have ZN:=ae (B1.i.k (ZZ.i.P (by omega)));have K6:=ae ((ZZ.i.p (z (B w)) (by omega)).k K1.i);have M6:=ae ((ZZ.i.p (z (B w)+1) (by omega)).k M1.i);clear ZY H ZZ R1 B1 K1 M1 T1;go_wp2_with fail;rw[C.i];clear C;have SB:Hid (∀V:E,V.heap[z (B b)]?=T (N #[Y a0 n0 c0,Y a1 n1 c1] 29 (0,0))->V.heap[z (B b)]?=T (N #[Y a0 n0 c0,Y a1 n1 c1] 29 (0,0))/\ZW V (Q (z (B b)) 0 Z)=T (Y a0 n0 c0)/\ZW V (Q (z (B b)) 1 Z)=T (Y a1 n1 c1)):=λV h=>⟨h,by simp[World.cell?,h],by simp[World.cell?,h]⟩
 refine wp_region_held_drew (S:=λV=>V.heap[z (B b)]?=T (N #[Y a0 n0 c0,Y a1 n1 c1] 29 (0,0))/\ZW V (Q (z (B b)) 0 Z)=T (Y a0 n0 c0)/\ZW V (Q (z (B b)) 1 Z)=T (Y a1 n1 c1)) (by as_aux_lemma=>kernel_rfl) (SB.i G X.i) λZ8=>?_;have j:=ae Z8;clear Z8;have aq:=aj X.i;have hs6:=ZN.i.size;have ZS:Hid (zd R G G.drew):=zd.q br.drew;have P0:=ae (R6.i.aa br.drew ly);generalize G.drew=v0 at ZS P0 j ⊢;iterate 3
  refine aN 0 (v:=?_) rfl rfl (by as_aux_lemma=>kernel_rfl) (λ_ _ _ h=>h) rfl ?_ j.i ?_;rotate_left
  ·(rintro wz⟨s0,s1,s2⟩;go_simp)
   (try with_reducible rfl)
  (try simp only[Act.put,yh])
 refine aL (i:=3) rfl (by as_aux_lemma=>kernel_rfl) λK l=>?_;go_simp;go_at_call 36;refine(pF R _ _ P0.i (by omega)).P ?_;rintro e r⟨L,g,c,rfl,ZL,-,ZT,ZQ,q4,hq4,-,hO⟩;have hgb:=ZL.lt.1;have h06:=ZS.i.size;have s:=ZS.i.k hO;have ZR:=ae (I9 ZL);have P:=ae (iI ZQ);have BE:=ae (ZN.i.k (s.aa (by omega) ZN.i.size));have KE:=ae ((s.p (z (B w)) (aj K6.i) (by omega)).k K6.i);have ME:=ae ((s.p (z (B w)+1) (aj M6.i) (by omega)).k M6.i);have ZO:=ae ((s.p (z (B b)) aq (by omega)).k X.i);clear ZL ZQ hO s j P0 ZS;have j:=ae (SB.i r ZO.i);refine l.i _ _ j.i ?_;clear l K
 (try simp only[Act.put,yh])
 generalize (A L)=m at ZT ZR P ⊢;generalize cY L=f at ZR P;have kr:=KE.i;have r0:ZW r (Q (z (B w)) 0 Z)=T (Y Z 0 0):=by simp[World.cell?,kr]
 have r1:ZW r (Q (z (B w)) 1 Z)=T (Y Z 0 0):=by simp[World.cell?,kr]
 have ZM:ZX r (Q (z (B w)) 0 Z)=ZA:=by simp[World.frozen?,kr]
 have t1:ZX r (Q (z (B w)) 1 Z)=ZA:=by simp[World.frozen?,kr]
 have l0:=aj kr;clear kr;refine aL (i:=4) rfl (by as_aux_lemma=>kernel_rfl) λK l=>?_;go_simp;clear r0 r1 ZM t1 l0 j;have KF:=ae (yw (v0:=Y a0 n0 c0) (v1:=Y a1 n1 c1) KE.i);have BF:=ae ((BE.i.setCell (p:=(Q (z (B w)) 0 Z)) ly (Y a0 n0 c0)).setCell (p:=(Q (z (B w)) 1 Z)) ly (Y a1 n1 c1));have O:=ae (((qh _ (Q (z (B w)) 1 Z) (Y a1 n1 c1) (z (B b)) (by show (z (B b))≠z (B w);omega)).k (qh r (Q (z (B w)) 0 Z) (Y a0 n0 c0) (z (B b)) (by show (z (B b))≠z (B w);omega))).k ZO.i);have MF:=ae (((qh _ (Q (z (B w)) 1 Z) (Y a1 n1 c1) (z (B w)+1) (by show (z (B w))+1≠z (B w);omega)).k (qh r (Q (z (B w)) 0 Z) (Y a0 n0 c0) (z (B w)+1) (by show (z (B w))+1≠z (B w);omega))).k ME.i);have IF:=ae ((ZR.i.setOther (Q (z (B w)) 0 Z) (by show (z (B w))≠g;omega) (Y a0 n0 c0)).setOther (Q (z (B w)) 1 Z) (by show (z (B w))≠g;omega) (Y a1 n1 c1));clear BE KE ME ZO ZR;generalize World.setCell (World.setCell r _ _) _ _=y at *;have j:=ae (SB.i y O.i);refine l.i _ _ j.i ?_;clear l K
 (try simp only[Act.put,yh])
 refine aL (i:=5) rfl (by as_aux_lemma=>kernel_rfl) λK l=>?_;go_simp;refine l.i _ _ j.i ?_;clear l K
 (try simp only[Act.put,yh])
 have kr:=MF.i;have r0:ZW y (Q (z (B w)+1) 0 Z)=T (Y Z 0 0):=by simp[World.cell?,kr]
 have ZM:ZX y (Q (z (B w)+1) 0 Z)=ZA:=by simp[World.frozen?,kr]
 have l0:=aj kr;have M0:Hid (ZW (ZU y (Q (z (B w)+1) 0 Z) (Y (T (Q g 0 Z)) m c)) (Q (z (B w)+1) 0 Z)=T (Y (T (Q g 0 Z)) m c)):=BO _ _ _ (by rw[r0];rfl);clear kr;refine aL (i:=6) rfl (by as_aux_lemma=>kernel_rfl) λK l=>?_;go_simp;clear r0 ZM l0 j;have KG:=ae ((qh y (Q (z (B w)+1) 0 Z) (Y (T (Q g 0 Z)) m c) (z (B w)) (by show (z (B w))≠z (B w)+1;omega)).k KF.i);have BG:=ae (BF.i.setCell (p:=(Q (z (B w)+1) 0 Z)) (BV _) (Y (T (Q g 0 Z)) m c));have SG:=ae ((qh y (Q (z (B w)+1) 0 Z) (Y (T (Q g 0 Z)) m c) (z (B b)) (by show (z (B b))≠z (B w)+1;omega)).k O.i);have IG:=ae (IF.i.setOther (Q (z (B w)+1) 0 Z) (by show (z (B w))+1≠g;omega) (Y (T (Q g 0 Z)) m c));clear KF BF O IF MF;generalize World.setCell y _ _=ZP at *;have j:=ae (SB.i ZP SG.i);refine l.i _ _ j.i ?_;clear l K
 (try simp only[Act.put,yh])
 refine wpAnyH_done (by as_aux_lemma=>kernel_rfl) ?_ _;have kr:=KG.i;have r0:ZW ZP (Q (z (B w)) 0 Z)=T (Y a0 n0 c0):=by simp[World.cell?,kr]
 have r1:ZW ZP (Q (z (B w)) 1 Z)=T (Y a1 n1 c1):=by simp[World.cell?,kr]
 have r2:=M0.i;clear kr;go_wp2;exact bp (v:=.tuple #[ZJ #[Y a0 n0 c0,Y a1 n1 c1],U t,ZJ #[Y (T (Q g 0 Z)) m c]]) (by simp[results,results8,go_sem,r0,r1,r2]) rfl ⟨_,_,_,_,_,_,_,g,m,c,f,rfl,IG.i,ZT,P.i,BG.i⟩
