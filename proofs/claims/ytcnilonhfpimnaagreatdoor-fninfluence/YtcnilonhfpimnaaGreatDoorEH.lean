import Derived.Test.YtcnilonhfpimnaaGreatDoorEE
import Derived.Test.YtcnilonhfpimnaaGreatDoorEF
import Derived.Test.YtcnilonhfpimnaaGreatDoorEB
set_option linter.all false
set_option maxRecDepth 100000
set_option maxHeartbeats 8000000
open Go renaming Addr.mk->T,Value.slice->Y,Value.string->U,Value.int->J,Value.agg->ZJ,Obj.cells->N,IntKind.i64->I,World->E,Value->ZB,TypeId->ZK,Ending.returned->ZI,World.heap->B,World.alloc->ZV,World.cell?->ZW,World.frozen?->ZX,World.setCell->ZU,Proofs.Tryz.prog->Pg,Act.put->p_,Calls->Qw
open Option renaming none->Z,some->Q
open Bool renaming false->ZA
open Array renaming size->z
open List renaming length->A
namespace Go.Proofs.YtcnilonhfpimnaaGreatDoor.Vp
open Tryz RowKit Ca
variable {b:Nat}{w V:E}{t:ZK}{u0 u1:ZB}
def oW (R p b0 n0 c0 n1 c1:Nat)(a0:O_)(f0:Nat->Source)(a1:O_)(f1:Nat->Target)(w:E)(hR:Rd w R p)(hp:p<=19900)(hH:HSp b0 w a0 n0 f0 a1 n1 f1)(hg:∀i,i<n1->1<=(f1 i).h/\(f1 i).h<=200)(hm0:n0<=250)(hm1:n1<=250):Qw Pg 22 #[.pointer (Q (T R 0 Z)),ZJ #[Y a0 n0 c0,Y a1 n1 c1]] w λe w'=>DH w R (p+1100) e w':=by
 have HR:=ae hR;have J4:=hR.lt;obtain⟨hs,ht⟩:=hH.sl w (Agr.refl _ _);have HF:=ae hH.aq;have HG:=ae hg;have l:=ae hs;have HT:=ae ht;clear hs ht hH hg hR;obtain⟨Ke,hi,Ki,J9,Kf⟩:=NO jn;obtain⟨JH,ZZ,Id,Fk,Bk⟩:=NO fw;obtain⟨W,hW⟩:∃W:E,ZV (ZV w (N #[Y a0 n0 c0,Y a1 n1 c1] 29)) (N #[Y Z 0 0,Y Z 0 0] 29)=W:=⟨_,rfl⟩
 obtain⟨A0,-,KR,J7⟩:=nb2 hW;have HW:=ae hW;clear hW;go_enter func22,ntmps22;go_wp2_with fail;rw[HW.i];clear HW;refine(fH a0 n0 c0 f0 a1 n1 c1 f1 ⟨#[]⟩ W (by omega) (by omega) (l.aa A0 ly) (HT.aa A0 ly) (λi hi=>by have:=(HF i hi).1;unfold aP;omega)).P ?_;rintro e Z8⟨v0,v1,o,rfl,ur,JK,hM,ro⟩;obtain⟨a2,c2,rfl⟩:=aJ ur;obtain⟨a5,c5,rfl⟩:=aJ JK.u;have G1:=ae (yt hM HF);have N1:=ae (Ia hM HG);have JZ:=qL hM;have JW:=gO f0 ⟨#[]⟩ n0;clear hM l HT HF HG;generalize Qy f0 ⟨#[]⟩ n0=ZT at ur JW ⊢;have hsz:=ro.size;have X1:=ae (oD (rr:=z (B w)+1) (base:=z (B w)+2) ((ro.p _ (by omega)).k KR) (by omega) (by omega) (by omega) ur JK);have B1:=ae ((A0.k (ro.P (by omega))).alloc (by omega) (N #[Y a2 (A ZT) c2,Y a5 (A o) c5] 29));clear ur JK ro A0 KR;have R1:=ae (HR.low B1 (by omega));have O1:Hid (zt R w (ZV Z8 (N #[Y a2 (A ZT) c2,Y a5 (A o) c5] 29))):=zt.l B1;go_wp2_with fail;generalize World.alloc Z8 _=W2 at X1 B1 R1 O1 ⊢;refine(ay R p 8 _ R1 (by omega) (by omega) (by omega)).P ?_;rintro e s⟨ZY,rfl,hz0',hz1',JP,DE⟩;have m:=ae (X1.ac DE (by omega));have R2:=ae JP;have O2:=ae (O1.k DE);clear JP DE X1 R1 O1 B1 J7 HR;obtain⟨ZL,ZN⟩:=m.cells;obtain⟨aq,bt⟩:=m.open
 have la:=m.lt;go_upto_block 0 with fail;go_cut [6,7] (λ_ _ wx=>∃(b0:O_) (m0 k0:Nat) (g0:Nat->Source) (b1:O_) (m1 k1:Nat) (g1:Nat->Target) (q':Nat),q'<=p+1100/\Hid (wx.heap[z (B Z8)]?=Q (N #[Y b0 m0 k0,Y b1 m1 k1] 29 (0,0)))/\Hid (wx.heap[z (B w)+1]?=Q (N #[Y Z 0 0,Y Z 0 0] 29 (0,0)))/\Hid (HSp (z (B w)+2) wx b0 m0 g0 b1 m1 g1)/\Hid (Rd wx R q')/\Hid (zt R w wx));case first =>
  have J8:ZY=0\/ZY=1\/ZY=2\/ZY=3\/ZY=4\/ZY=5\/ZY=6\/ZY=7:=by omega
  rcases J8 with rfl|rfl|rfl|rfl|rfl|rfl|rfl|rfl
  ·go_wp2_with fail;have J6:=m.hi;refine aI (BxS (Y a2 (A ZT) c2) (Y a5 (A o) c5) (z (B Z8))) 11 (by kernel_rfl) ?_;have l:=ae (i8 (W:=s.drew) m.ab);iterate 2
    refine aO 0 (v:=?_) rfl rfl (by kernel_rfl) (λ_ _ _ h=>h) rfl ?_ l ?_;rotate_left
    ·(rintro wz⟨s0,s1⟩;go_simp)
     (try with_reducible rfl)
    (try simp only[p_,z_])
   refine aO 3 (v:=?_) rfl rfl (by kernel_rfl) (λ_ _ _ h=>h) rfl ?_ l ?_;rotate_left
   ·(rintro wz⟨s0,s1⟩;go_simp)
    (try with_reducible rfl)
   (try simp only[p_,z_])
   refine pu (i:=2) (j:=4) rfl rfl (by kernel_rfl) (λK b=>?h1) (λK b=>?h2);case' h1 =>
    go_simp;have BQ:=ae (((BS s).alloc ly (N #[U ⟨#[97]⟩,U ⟨#[122,122]⟩,U ⟨#[]⟩,U ⟨#[120,32,121]⟩,U ⟨#[116,48]⟩] 9)).drew);have XQ:=ae (m.aa BQ ly);have RQ:=ae (R2.aa BQ ly);have OQ:=ae (O2.then (BQ.P (by omega)));have JG:=gM s (N #[U ⟨#[97]⟩,U ⟨#[122,122]⟩,U ⟨#[]⟩,U ⟨#[120,32,121]⟩,U ⟨#[116,48]⟩] 9);have J0:Hid ((ZV s (N #[U ⟨#[97]⟩,U ⟨#[122,122]⟩,U ⟨#[]⟩,U ⟨#[120,32,121]⟩,U ⟨#[116,48]⟩] 9)).drew.heap[z (B s)]?=Q (N #[U ⟨#[97]⟩,U ⟨#[122,122]⟩,U ⟨#[]⟩,U ⟨#[120,32,121]⟩,U ⟨#[116,48]⟩] 9 (0,0))):=JG;have Kl:z (B s)<(ZV s (N #[U ⟨#[97]⟩,U ⟨#[122,122]⟩,U ⟨#[]⟩,U ⟨#[120,32,121]⟩,U ⟨#[116,48]⟩] 9)).drew.heap.size:=aj JG;clear JG l;refine b _ _ (λ_=>i8 XQ.ab) ?_;clear b K
    (try simp only[p_,z_])
    refine ai (i:=4) rfl (by kernel_rfl) λK b=>?_;go_simp;go_at_call 19;refine(ay R _ 5 _ RQ (by omega) (by omega) (by omega)).P ?_;rintro e WL⟨z3,rfl,ex,th,ZQ,H⟩;obtain⟨m3,rfl⟩:=p9 ex;have X4:=ae (XQ.ac H (by omega));have R4:=ae ZQ;have O4:=ae (OQ.k H);obtain⟨sx,Hx⟩:=oE ((H.p (z (B s)) Kl (by omega)).k J0) m3 (by omega);clear ZQ H J0 XQ RQ OQ;refine b _ _ (λ_=>i8 X4.ab) ?_;clear b K
    (try simp only[p_,z_])
   case' h2 =>
    go_simp;go_at_call 19;refine(ay R _ 5 _ (R2.aa br.drew ly) (by omega) (by omega) (by omega)).P ?_;rintro e G⟨z3,rfl,ex,th,ZQ,H⟩;obtain⟨m3,rfl⟩:=p9 ex;have X:Hid (zt R s G):=(zt.l br.drew).k H;have C:=ae (m.ac X (by omega));have R3:=ae ZQ;have O3:=ae (O2.k X);clear ZQ H X l;have l:=ae (i8 C.ab);refine b _ _ (λ_=>l) ?_;clear b K
    (try simp only[p_,z_])
    have hxl4:=C.lt;refine ai (i:=2) rfl (by kernel_rfl) λK b=>?_;go_simp;have BQ:=ae ((BS G).alloc ly (N #[U ⟨#[97]⟩,U ⟨#[122,122]⟩,U ⟨#[]⟩,U ⟨#[120,32,121]⟩,U ⟨#[116,48]⟩] 9));have X4:=ae (C.aa BQ ly);have R4:=ae (R3.aa BQ ly);have O4:=ae (O3.then (BQ.P (by omega)));obtain⟨sx,Hx⟩:=oE (gM G (N #[U ⟨#[97]⟩,U ⟨#[122,122]⟩,U ⟨#[]⟩,U ⟨#[120,32,121]⟩,U ⟨#[116,48]⟩] 9)) m3 (by omega);refine b _ _ (λ_=>i8 X4.ab) ?_;clear b K BQ l
    (try simp only[p_,z_])
    generalize World.alloc G _=WL at X4 R4 O4 Hx ⊢
   all_goals
    have hm5:m3<5:=by omega
    have SQ:=ae X4.Qy;have l:=ae (SQ WL (λj ZZ _=>rfl))
    iterate 3
     refine bV 5 rfl rfl (by kernel_rfl) λK b=>?_;go_simp;refine b _ _ (λ_=>l) ?_;clear b K
     (try simp only[p_,z_])
    have Fd:=X4.lt;have hxi3:=X4.hi;refine ai (i:=8) rfl (by kernel_rfl) λK b=>?_;go_simp;have AB:=ae ((BS WL).alloc ly (N #[U sx,U ⟨#[]⟩] 82));have XA:=ae (X4.aa AB ly);have hz6:=AB.size;refine b _ _ (λ_=>SQ _ (λj ZZ _=>AB.p j ZZ)) ?_;clear b K l
    (try simp only[p_,z_])
    refine ai (i:=9) rfl (by kernel_rfl) λK b=>?_;refine aU rfl (.tmp 28) (.tmp 35) 26 rfl (z (B w)+2) 82 Ke (ZJ #[U ⟨#[]⟩,U ⟨#[]⟩]) 2 32 QG hi Ki J9 Kf rfl (by decide) (Y a2 (A ZT) c2) (A ZT) (ZT.flatMap bF) (by simp[Act.eval]) XA.src (T (z (B WL)) 0 Z) 1 1 (bF ⟨sx,⟨#[]⟩⟩) (by simp[Act.eval]) rfl (λj u hu=>df WL _ _ _ j u hu) (by simp[bF,Value.oneCell']) (by unfold maxLen;omega) (by omega) (by omega) ?_;intro v' w7 D y _;obtain⟨a7,c7,rfl⟩:=aJ D;have S7:=ae (SQ w7 (λj ZZ ld=>(y.p j (lj ZZ AB.size) ld).k (AB.p j ZZ)));obtain⟨c8,b8⟩:=XA.addS (x:=⟨sx,⟨#[]⟩⟩) D y;have X9:=ae c8;have B9:=ae b8;clear D y c8 b8;refine b _ _ (λ_=>S7) ?_;clear b K
    (try simp only[p_,z_])
    refine ai (i:=10) rfl (by kernel_rfl) λK b=>?_;go_simp;refine b _ _ (λ_=>S7) ?_;clear b K
    (try simp only[p_,z_])
    obtain⟨s7,t7⟩:=S7.i;have f7:ZX w7 (T (z (B Z8)) 0 Z)=ZA:=by simp[World.frozen?,s7]
    have l7:=aj s7;clear s7;refine ai (i:=11) rfl (by kernel_rfl) λK b=>?_;go_simp;refine b _ _ (λh=>absurd rfl h) ?_;clear b K
    (try simp only[p_,z_])
    refine ba (by kernel_rfl) ?_ _;have BB:=ae ((AB.P (show (z (B w))+2<=z (B WL) by omega)).k B9.i);have R9:=ae (R4.low BB (by omega));have O9:=ae (O4.then (BB.P (by omega)));clear t7 f7 l7 Hx;go_simp;generalize World.setCell w7 _ _=W9 at X9 R9 O9 ⊢;have M:=ae X9.ab;have ZS:=ae X9.res;have ZR:=ae (fJ X9.src (by simp) X9.w rfl (by rw[cM];exact(by omega:A ZT+1<=300)) (by omega) G1);clear ZL ZN aq bt;go_wp2;go_meet;exact⟨_,_,_,_,_,_,_,_,_,by omega,M,ZS,ZR,R9,O9⟩
  ·by_cases hl:1<(A o:Int)
   ·obtain⟨t,rfl⟩:=ko m.w.u (by omega)
    obtain⟨r0,r1,RR,rfl⟩:∃r0 r1 RR,o=r0::r1::RR:=(by
     match o,hl with
     |[],h=>simp at h
     |[_],h=>simp at h
     |r0::r1::RR,_=>exact⟨r0,r1,RR,rfl⟩)
    have mv:(r0::r1::RR).length<=250:=by omega
    obtain⟨ka,JY⟩:=bA m.w.u (j:=0) (u:=U r0.1.e) rfl;obtain⟨kb,JT⟩:=bA m.w.u (j:=1) (u:=Y (Q (T r0.2.1 0 Z)) r0.1.h r0.2.2) rfl;obtain⟨kc,JN⟩:=bA m.w.u (j:=2) (u:=U r1.1.e) rfl;obtain⟨kd,JI⟩:=bA m.w.u (j:=3) (u:=Y (Q (T r1.2.1 0 Z)) r1.1.h r1.2.2) rfl;have n9:=(m.w.u.lt t rfl).2;generalize ZO:(r0::r1::RR).length=nt at ZN m hl mv JZ ⊢;have HL:=ae ZO;clear ZO;have JL:0<nt:=by omega
    have Kb:1<nt:=by omega
    have BA:=ae ((BS s).alloc ly (N #[U r0.1.e,Y (Q (T r0.2.1 0 Z)) r0.1.h r0.2.2] 86));have XA:=ae (m.aa BA ly);have RA:=ae (R2.aa BA ly);have J6:=m.hi;have OA:=ae (O2.then (BA.P (by omega)));have cc:∀j,ZW (ZV s (N #[U r0.1.e,Y (Q (T r0.2.1 0 Z)) r0.1.h r0.2.2] 86)) (T t j Z)=ZW s (T t j Z):=λj=>BA.O (p:=(T t j Z)) n9;have cf:∀j,ZX (ZV s (N #[U r0.1.e,Y (Q (T r0.2.1 0 Z)) r0.1.h r0.2.2] 86)) (T t j Z)=ZX s (T t j Z):=λj=>BA.frozen (p:=(T t j Z)) n9;have KA:=ae ((cc 0).k ka);have GS:=ae ((cf 0).k JY);have KB:=ae ((cc 1).k kb);have DQ:=ae ((cf 1).k JT);have KC:=ae ((cc 2).k kc);have JS:=ae ((cf 2).k JN);have KD:=ae ((cc 3).k kd);have JU:=ae ((cf 3).k JI);have KX:Hid ((ZV s (N #[U r0.1.e,Y (Q (T r0.2.1 0 Z)) r0.1.h r0.2.2] 86)).heap[z (B s)]?=Q (N #[U r0.1.e,Y (Q (T r0.2.1 0 Z)) r0.1.h r0.2.2] 86 (0,0))):=gM s _;have JR:t≠z (B s):=by omega
    have Kg:=BA.size;clear cc cf;go_wp2_with fail;generalize World.alloc s _=WA at XA RA OA KA GS KB DQ KC JS KD JU KX Kg ⊢;have JJ:=XA.cells.2;clear ka JY kb JT kc JN kd JI BA ZL ZN aq bt;refine aI (λV=>ZW V (T (z (B Z8)) 1 Z)=Q (Y (Q (T t 0 Z)) nt c5)/\ZW V (T t 2 Z)=Q (U r1.1.e)/\ZW V (T t 3 Z)=Q (Y (Q (T r1.2.1 0 Z)) r1.1.h r1.2.2)) 7 (by kernel_rfl) ?_;have l:Hid (WA.drew.cell? (T (z (B Z8)) 1 Z)=Q (Y (Q (T t 0 Z)) nt c5)/\WA.drew.cell? (T t 2 Z)=Q (U r1.1.e)/\WA.drew.cell? (T t 3 Z)=Q (Y (Q (T r1.2.1 0 Z)) r1.1.h r1.2.2)):=⟨JJ,KC,KD⟩
    iterate 6
     refine aO 0 (v:=?_) rfl rfl (by kernel_rfl) (λ_ _ _ h=>h) rfl ?_ l ?_;rotate_left
     ·(rintro wz⟨s0,s1,s2⟩;go_simp)
      (try with_reducible rfl)
     (try simp only[p_,z_])
    refine ai (i:=6) rfl (by kernel_rfl) λK b=>?_;go_simp;refine b _ _ (λ_=>l) ?_;clear b K
    (try simp only[p_,z_])
    have z0:=GS.i;have z1:=DQ.i;have y0:=KA.i;have y1:=KB.i;have hgtA:t<z (B WA):=by omega
    refine ai (i:=7) rfl (by kernel_rfl) λK b=>?_;go_simp;refine b _ _ (λh=>absurd rfl h) ?_;clear b K
    (try simp only[p_,z_])
    refine ba (by kernel_rfl) ?_ _;go_simp;have SW:=ae (((XA.sw HL.c).set 0 (U r1.1.e)).set 1 (Y (Q (T r1.2.1 0 Z)) r1.1.h r1.2.2)).drew;have n8:=(XA.w.u.lt t rfl).1;have BW:=ae ((((a8 (z (B w)+2) WA).setCell (p:=(T t 0 Z)) n8 (U r1.1.e)).setCell (p:=(T t 1 Z)) n8 (Y (Q (T r1.2.1 0 Z)) r1.1.h r1.2.2)).drew);have kx:(ZU (ZU WA (T t 0 Z) (U r1.1.e)) (T t 1 Z) (Y (Q (T r1.2.1 0 Z)) r1.1.h r1.2.2)).drew.heap[z (B s)]?=Q (N #[U r0.1.e,Y (Q (T r0.2.1 0 Z)) r0.1.h r0.2.2] 86 (0,0)):=((qh _ (T t 1 Z) _ (z (B s)) (λe=>JR (Eq.symm e))).k (qh _ (T t 0 Z) _ (z (B s)) (λe=>JR (Eq.symm e)))).k KX;clear l z0 z1 y0 y1 KA GS KB DQ KC JS KD JU KX JJ;generalize World.drew (World.setCell (World.setCell WA _ _) _ _)=WB at SW BW kx ⊢;obtain⟨kc,JN⟩:=bA SW.u (j:=2) (u:=U r1.1.e) rfl;obtain⟨kd,JI⟩:=bA SW.u (j:=3) (u:=Y (Q (T r1.2.1 0 Z)) r1.1.h r1.2.2) rfl;have ph:=SW.ab;have kv:ZW WB (T (z (B Z8)) 1 Z)=Q (Y (Q (T t 0 Z)) nt c5):=by simp[World.cell?,ph]
    have P:ZW WB (T (z (B s)) 0 Z)=Q (U r0.1.e):=by simp[World.cell?,kx]
    have x1:ZW WB (T (z (B s)) 1 Z)=Q (Y (Q (T r0.2.1 0 Z)) r0.1.h r0.2.2):=by simp[World.cell?,kx]
    have hgtB:t<z (B WB):=(SW.u.lt t rfl).2;have kv0:ZW WB (T (z (B Z8)) 0 Z)=Q (Y a2 (A ZT) c2):=by simp[World.cell?,ph]
    have l1:=aj ph;have Kd:¬ t=z (B Z8):=by intro e;obtain⟨Ka,Fm⟩:=eo SW.u t rfl;rw[e] at Fm;have h3:=ph.c.k Fm;cases h3
    have hg1':¬ (z (B Z8))=t:=λe=>Kd e.c;have At:=ae ((SW.set 2 (U r0.1.e)).set 3 (Y (Q (T r0.2.1 0 Z)) r0.1.h r0.2.2))
    have ZR:=ae (At.fin rfl (L:=r1::r0::RR) (by rw[<-pE];rfl) HL.c (by omega) (by have:=HL.i;simp only[vF] at this ⊢;omega) (by
     intro r hr;simp only[vG] at hr ⊢;rcases hr with h|h|h;{exact .inr (.inl h)};{exact .inl h}
     ·exact .inr (.inr h)) G1)
    have BF:=ae ((BW.setCell (p:=(T t 2 Z)) n8 (U r0.1.e)).setCell (p:=(T t 3 Z)) n8 (Y (Q (T r0.2.1 0 Z)) r0.1.h r0.2.2));have R9:=ae (RA.low BF (by omega));have O9:=ae (OA.then (BF.P (show (z (B w))<=z (B w)+2 by omega)));have M:=ae At.ab;have ZS:=ae At.res;clear ph kx SW At BF BW XA RA OA;go_wp2;go_meet;exact⟨_,_,_,_,_,_,_,_,_,by omega,M,ZS,ZR,R9,O9⟩
   {skip;have M:=ae m.ab;have ZS:=ae m.res;have ZR:=ae (fJ m.src rfl m.w rfl (by omega) (by omega) G1);go_wp2;go_meet;exact⟨_,_,_,_,_,_,_,_,_,by omega,M,ZS,ZR,R2,O2⟩}
  ·by_cases hl:0<(A o:Int)
   ·go_wp2_with fail;obtain⟨t,rfl⟩:=ko m.w.u (by omega)
    obtain⟨r0,RR,rfl⟩:∃r0 RR,o=r0::RR:=(by
     match o,hl with
     |[],h=>simp at h
     |r0::RR,_=>exact⟨r0,RR,rfl⟩)
    have mv:(r0::RR).length<=250:=by omega
    have kb:=(bA m.w.u (j:=1) (u:=Y (Q (T r0.2.1 0 Z)) r0.1.h r0.2.2) rfl).1;have n9:=(m.w.u.lt t rfl).2;have n8:=(m.w.u.lt t rfl).1;have AC:=ae (m.w.q r0 (R8 ..));have Kj:=N1.i r0 (R8 ..);have Kn:=ae (G1 r0 (R8 ..)).2;generalize ZO:(r0::RR).length=nt at ZN m hl mv JZ ⊢;have HL:=ae ZO;clear ZO;have JL:0<nt:=by omega
    have hRb:R<z (B w)+2:=by omega
    refine aI (λV=>V.heap[z (B Z8)]?=Q (N #[Y a2 (A ZT) c2,Y (Q (T t 0 Z)) nt c5] 29 (0,0))/\ZW V (T (z (B Z8)) 1 Z)=Q (Y (Q (T t 0 Z)) nt c5)/\ZW V (T t 1 Z)=Q (Y (Q (T r0.2.1 0 Z)) r0.1.h r0.2.2)) 11 (by kernel_rfl) ?_;have l:Hid (s.drew.heap[z (B Z8)]?=Q (N #[Y a2 (A ZT) c2,Y (Q (T t 0 Z)) nt c5] 29 (0,0))/\s.drew.cell? (T (z (B Z8)) 1 Z)=Q (Y (Q (T t 0 Z)) nt c5)/\s.drew.cell? (T t 1 Z)=Q (Y (Q (T r0.2.1 0 Z)) r0.1.h r0.2.2)):=⟨m.ab,ZN,kb⟩
    iterate 8
     refine aO 0 (v:=?_) rfl rfl (by kernel_rfl) (λ_ _ _ h=>h) rfl ?_ l ?_;rotate_left
     ·(rintro wz⟨s0,s1,s2⟩;go_simp)
      (try with_reducible rfl)
     (try simp only[p_,z_])
    refine ai (i:=8) rfl (by kernel_rfl) λK b=>?_;go_simp;go_at_call 51;refine(xA R _ r0.2.1 r0.2.2 r0.1.h r0.1.q _ (R2.aa br.drew ly) (by omega) (AC.1.aa br.drew ly) Kj Kn).P ?_;rintro e G⟨L3,g3,d3,rfl,sm,_,hL3,Kk,q3,hq3,ZQ,H⟩;have X:Hid (zt R s G):=(zt.l br.drew).k H;have C:=ae (m.ac X (by omega));have R3:=ae ZQ;have O3:=ae (O2.k X);have JQ:ZW G (T t 1 Z)=Q (Y (Q (T r0.2.1 0 Z)) r0.1.h r0.2.2):=(X.O t 1 n9 (by omega)).k kb;have z3:ZX G (T t 1 Z)=ZA:=by obtain⟨Ka,hc⟩:=C.w.type t rfl;simp[World.frozen?,hc]
    have hgt3:=lj n9 X.size;have SA:=ae (C.setA (n:=A L3) (g:=g3) (c:=d3) (f:=cY L3) rfl HL.c (kY (by have h:=sm;unfold IR at h;rw[qK] at h;exact h)).1 (jH sm) (by have:z (B s)<=g3:=sm.lt.1;have:=m.lt;have:=m.hi;omega) (by omega) (iI Kk) (by omega) (by rw[HL.i];omega) G1);clear sm ZQ H X l;have l:=ae (show G.heap[z (B Z8)]?=Q (N #[Y a2 (A ZT) c2,Y (Q (T t 0 Z)) nt c5] 29 (0,0))/\ZW G (T (z (B Z8)) 1 Z)=Q (Y (Q (T t 0 Z)) nt c5)/\ZW G (T t 1 Z)=Q (Y (Q (T r0.2.1 0 Z)) r0.1.h r0.2.2) from⟨C.ab,C.cells.2,JQ⟩);refine b _ _ (λ_=>l) ?_;clear b K
    (try simp only[p_,z_])
    iterate 2
     refine bV 9 rfl rfl (by kernel_rfl) λK b=>?_;go_simp;refine b _ _ (λ_=>l) ?_;clear b K
     (try simp only[p_,z_])
    refine ai (i:=11) rfl (by kernel_rfl) λK b=>?_;go_simp;refine b _ _ (λh=>absurd rfl h) ?_;clear b K
    (try simp only[p_,z_])
    refine ba (by kernel_rfl) ?_ _;obtain⟨hE,hB,hQ,fd⟩:=SA.i;have ZR:=ae hE;have M:=ae hB;have ZS:=ae hQ;have R4:=ae (R3.low fd (by omega));have O4:=ae (O3.then (fd.P (show (z (B w))<=z (B w)+2 by omega)));clear hE hB hQ fd SA l kb JQ z3 hl ZL ZN aq bt;go_simp;generalize World.setCell G _ _=W4 at ZR M ZS R4 O4 ⊢;go_wp2;go_meet;exact⟨_,_,_,_,_,_,_,_,_,by omega,M,ZS,ZR,R4,O4⟩
   {skip;have M:=ae m.ab;have ZS:=ae m.res;have ZR:=ae (fJ m.src rfl m.w rfl (by omega) (by omega) G1);go_wp2;go_meet;exact⟨_,_,_,_,_,_,_,_,_,by omega,M,ZS,ZR,R2,O2⟩}
  ·by_cases hl:0<(A ZT:Int)
   ·go_wp2_with fail;obtain⟨gs,rfl⟩:=ko m.src (by omega)
    obtain⟨P,ZM,rfl⟩:∃P ZM,ZT=P::ZM:=(by
     match ZT,hl with
     |[],h=>simp at h
     |P::ZM,_=>exact⟨P,ZM,rfl⟩)
    have mv:(P::ZM).length<=250:=by omega
    generalize ZO:(P::ZM).length=nl at ZL m hl mv JW ⊢;have HL:=ae ZO;clear ZO;have JL:0<nl:=by omega
    refine aI (BxS (Y (Q (T gs 0 Z)) nl c2) (Y a5 (A o) c5) (z (B Z8))) 8 (by kernel_rfl) ?_;have l:=ae (i8 (W:=s.drew) m.ab);iterate 3
     refine aO 0 (v:=?_) rfl rfl (by kernel_rfl) (λ_ _ _ h=>h) rfl ?_ l ?_;rotate_left
     ·(rintro wz⟨s0,s1⟩;go_simp)
      (try with_reducible rfl)
     (try simp only[p_,z_])
    refine ai (i:=3) rfl (by kernel_rfl) λK b=>?_;go_simp;go_at_call 19;refine(ay R _ 2 _ (R2.aa br.drew ly) (by omega) (by omega) (by omega)).P ?_;rintro e G⟨z3,rfl,ex,th,ZQ,H⟩;obtain⟨m3,rfl⟩:=p9 ex;have X:Hid (zt R s G):=(zt.l br.drew).k H;have C:=ae (m.ac X (by omega));have R3:=ae ZQ;have O3:=ae (O2.k X);clear ZQ H X l;have l:=ae (i8 C.ab);refine b _ _ (λ_=>l) ?_;clear b K
    (try simp only[p_,z_])
    have J5:IntKind.i64.wrap (2000+(m3:Int))=2000+(m3:Int):=by rw[nL];omega
    refine ai (i:=4) rfl (by kernel_rfl) λK b=>?_;go_simp;refine b _ _ (λ_=>l) ?_;clear b K
    (try simp only[p_,z_])
    refine ai (i:=5) rfl (by kernel_rfl) λK b=>?_;go_simp;go_at_call 35;refine(eP ⟨#[115]⟩ (2000+m3) _ (by show 1*(2000+m3)<=4000;omega) (by omega)).P ?_;rintro e w4⟨tt,rfl,_,rfl⟩;refine b _ _ (λ_=>l) ?_;clear b K
    (try simp only[p_,z_])
    have XL:Hid (SpX (z (B w)+1) (z (B Z8)) (z (B w)+2) w4 (Y (Q (T gs 0 Z)) (P::ZM).length c2) (Y a5 (A o) c5) (P::ZM) o):=by rw[HL.i];exact C
    have Kh:=(XL.src.lt gs rfl).2;obtain⟨ky,kz⟩:=bA XL.src (j:=1) (u:=U P.H) rfl;obtain⟨x3,b3⟩:=XL.setS (j:=1) (LS':=⟨P.e,tt⟩::ZM) (U tt) rfl rfl;clear XL;rw[HL.i] at x3;have X4:=ae x3;have B4:=ae b3;clear x3 b3;iterate 2
     refine bV 6 rfl rfl (by kernel_rfl) λK b=>?_;go_simp;refine b _ _ (λ_=>l) ?_;clear b K
     (try simp only[p_,z_])
    refine ai (i:=8) rfl (by kernel_rfl) λK b=>?_;go_simp;refine b _ _ (λh=>absurd rfl h) ?_;clear b K
    (try simp only[p_,z_])
    refine ba (by kernel_rfl) ?_ _;have R4:=ae (R3.low B4 (by omega));have O4:=ae (O3.then (B4.P (show (z (B w))<=z (B w)+2 by omega)));clear l ky kz hl;go_simp;generalize World.setCell w4 _ _=W4 at X4 R4 O4 ⊢;have M:=ae X4.ab;have ZS:=ae X4.res;have ZR:=ae (fJ X4.src HL.c X4.w rfl (by have:=HL.i;simp only[vF] at this ⊢;omega) (by omega) G1);clear ZL ZN aq bt;go_wp2;go_meet;exact⟨_,_,_,_,_,_,_,_,_,by omega,M,ZS,ZR,R4,O4⟩
   {skip;have M:=ae m.ab;have ZS:=ae m.res;have ZR:=ae (fJ m.src rfl m.w rfl (by omega) (by omega) G1);go_wp2;go_meet;exact⟨_,_,_,_,_,_,_,_,_,by omega,M,ZS,ZR,R2,O2⟩}
  ·go_wp2_with fail;go_loopw [7] (λi wr=>∃(k q:Nat) (v1:ZB) (RQ:List TR),i=J I k/\k<=A RQ/\q<=p+1+k/\(A RQ)<=300/\Hid (SpX (z (B w)+1) (z (B Z8)) (z (B w)+2) wr (Y a2 (A ZT) c2) v1 ZT RQ)/\Hid (GX RQ)/\Hid (Rd wr R q)/\Hid (zt R w wr)) (λi _=>400 - (intOf i).toNat);case atStart=>exact⟨0,p+1,_,o,rfl,by omega,by omega,by omega,m,G1,R2,O2⟩
   case round =>
    clear m R2 O2 ZL ZN aq bt G1 N1 la;obtain⟨k,q4,v1,o,rfl,hk,hq4,hk3,m,G1,R2,O2⟩:=hrel;obtain⟨s,rfl⟩:∃s,s=wr:=⟨wr,rfl⟩
    obtain⟨a5,c5,rfl⟩:=aJ m.w.u;have la:=m.lt;have hw1:IntKind.i64.wrap ((A ZT:Int)+A o)=(A ZT:Int)+A o:=by rw[nL];omega
    have hwk:IntKind.i64.wrap ((k:Int)+1)=(k:Int)+1:=by rw[nL];omega
    go_wp2_with fail;have SB:Hid (∀V:E,V.heap[z (B Z8)]?=Q (N #[Y a2 (A ZT) c2,Y a5 (A o) c5] 29 (0,0))->V.heap[z (B Z8)]?=Q (N #[Y a2 (A ZT) c2,Y a5 (A o) c5] 29 (0,0))/\ZW V (T (z (B Z8)) 0 Z)=Q (Y a2 (A ZT) c2)/\ZW V (T (z (B Z8)) 1 Z)=Q (Y a5 (A o) c5)):=λV h=>⟨h,by simp[World.cell?,h],by simp[World.cell?,h]⟩
    refine wp_region_held_drew (S:=λV=>V.heap[z (B Z8)]?=Q (N #[Y a2 (A ZT) c2,Y a5 (A o) c5] 29 (0,0))/\ZW V (T (z (B Z8)) 0 Z)=Q (Y a2 (A ZT) c2)/\ZW V (T (z (B Z8)) 1 Z)=Q (Y a5 (A o) c5)) (by kernel_rfl) (SB s m.ab) λhS=>?_;have l:=ae hS;clear hS;iterate 8
     refine aN 0 (v:=?_) rfl rfl (by kernel_rfl) (λ_ _ _ h=>h) rfl ?_ l ?_;rotate_left
     ·(rintro wz⟨s0,s1,s2⟩;go_simp)
      (try with_reducible rfl)
     (try simp only[p_,z_])
    refine aL (i:=8) rfl (by kernel_rfl) λK b=>?_;go_simp;go_at_call 19;refine(ay R _ 2 _ (R2.aa br.drew ly) (by omega) (by omega) (by omega)).P ?_;rintro e G⟨z3,rfl,ex,th,ZQ,H⟩;obtain⟨m3,rfl⟩:=p9 ex;have X:Hid (zt R s G):=(zt.l br.drew).k H;have C:=ae (m.ac X (by omega));have R3:=ae ZQ;have O3:=ae (O2.k X);clear ZQ H X l;have l:=ae (SB G C.ab);refine b _ _ l ?_;clear b K
    (try simp only[p_,z_])
    have J5:IntKind.i64.wrap (200+(m3:Int))=200+(m3:Int):=by rw[nL];omega
    iterate 2
     refine li 9 rfl rfl (by kernel_rfl) λK b=>?_;go_simp;refine b _ _ l ?_;clear b K
     (try simp only[p_,z_])
    refine wpAnyH_done (by kernel_rfl) ?_ _;clear l SB;by_cases hlt:(A ZT:Int)+A o<200+(m3:Int)
    ·go_wp2_with fail;have Fd:=C.lt;have SQ:=ae C.Qj;refine aI (BxT (Y a2 (A ZT) c2) (Y a5 (A o) c5) (z (B Z8))) 13 (by kernel_rfl) ?_;have l:=ae (SQ G.drew (λj ZZ _=>rfl));iterate 3
      refine aO 0 (v:=?_) rfl rfl (by kernel_rfl) (λ_ _ _ h=>h) rfl ?_ l ?_;rotate_left
      ·(rintro wz⟨s0,s1⟩;go_simp)
       (try with_reducible rfl)
      (try simp only[p_,z_])
     refine ai (i:=3) rfl (by kernel_rfl) λK b=>?_;go_simp;go_at_call 56;refine(iL k (by omega) _).P ?_;rintro e wl⟨lb,rfl,hlb,fd⟩;have BL:Hid (Below (z (B G)) G wl):=(BS G).drew.k fd;clear fd l;have l:=ae (SQ wl (λj ZZ _=>BL.p j ZZ));refine b _ _ (λ_=>l) ?_;clear b K
     (try simp only[p_,z_])
     refine fs (i:=4) (v:=U (⟨#[117]⟩++lb)) rfl (by kernel_rfl) (by kernel_rfl) (by kernel_rfl) (by kernel_rfl) (λ_ _ _ h=>h) rfl ?_ l ?_;{intro wz _;go_simp;omega}
     (try simp only[p_,z_])
     generalize (⟨#[117]⟩:F_)++lb=tn;refine ai (i:=5) rfl (by kernel_rfl) λK b=>?_;go_simp;go_at_call 57;refine(bC _ _).P ?_;rintro e wm⟨rfl,JO⟩;have BM:=ae (BL.k (JO.P BL.size));clear JO l;have l:=ae (SQ wm (λj ZZ _=>BM.p j ZZ));refine b _ _ (λ_=>l) ?_;clear b K
     (try simp only[p_,z_])
     refine ai (i:=6) rfl (by kernel_rfl) λK b=>?_;go_simp;go_at_call 58;refine(bq _ _).P ?_;rintro e ZP⟨rfl,qr⟩;have BN:=ae (BM.k (qr.P BM.size));clear qr l BL BM;have Kp:=BN.size;have BI:=ae (BN.alloc (by omega) (N #[J I 1,U ⟨#[107]⟩,J I 0,J I 15,U ⟨#[]⟩,J I 0] 102));have Kc:=C.hi;have OI:=ae (rN ZP (base:=z (B w)+2) (by omega));have l:=ae (SQ ZP (λj ZZ _=>BN.p j ZZ));refine b _ _ (λ_=>l) ?_;clear b K l
     (try simp only[p_,z_])
     have l:=ae (SQ _ (λj ZZ _=>BI.p j ZZ));iterate 3
      refine bV 7 rfl rfl (by kernel_rfl) λK b=>?_;go_simp;refine b _ _ (λ_=>l) ?_;clear b K
      (try simp only[p_,z_])
     have JM:z (B (ZV ZP (N #[J I 1,U ⟨#[107]⟩,J I 0,J I 15,U ⟨#[]⟩,J I 0] 102)))=z (B ZP)+1:=by simp
     have AB:=ae (BI.alloc (by omega) (N #[U tn,Y (Q (T (z (B ZP)) 0 Z)) 2 2] 86));refine ai (i:=10) rfl (by kernel_rfl) λK b=>?_;go_simp;have XA:=ae (C.aa AB ly);have OA:=ae (J_ OI (br.alloc ly (N #[U tn,Y (Q (T (z (B ZP)) 0 Z)) 2 2] 86)) ly);refine b _ _ (λ_=>SQ _ (λj ZZ _=>AB.p j ZZ)) ?_;clear b K
     (try simp only[p_,z_])
     refine ai (i:=11) rfl (by kernel_rfl) λK b=>?_;refine aU rfl (.tmp 106) (.tmp 115) 27 rfl (z (B w)+2) 86 JH (ZJ #[U ⟨#[]⟩,Y Z 0 0]) 2 40 OJ ZZ Id Fk Bk rfl (by decide) (Y a5 (A o) c5) (A o) (o.flatMap aZ) (by simp[Act.eval]) XA.w.u (T (z (B ZP)+1) 0 Z) 1 1 (aZ (⟨tn,2,lsI iy⟩,z (B ZP),2)) (by simp[Act.eval]) rfl (λj u hu=>mC (JM) _ _ _ j u hu) (by simp[aZ,Value.oneCell']) (by unfold maxLen;omega) (by omega) (by have:=XA.hi;have:=XA.lt;omega) ?_;intro v' w7 D y _;obtain⟨a7,c7,rfl⟩:=aJ D;have S7:=ae (SQ w7 (λj ZZ ld=>(y.p j (lj ZZ AB.size) ld).k (AB.p j ZZ)));obtain⟨c8,b8⟩:=XA.addT (x:=⟨tn,2,lsI iy⟩) (g:=z (B ZP)) (c:=2) (λr hr e=>by have:=C.w.ltg r hr;omega) OA D y;have X9:=ae c8;have B9:=ae b8;clear D y c8 b8;refine b _ _ (λ_=>S7) ?_;clear b K
     (try simp only[p_,z_])
     refine ai (i:=12) rfl (by kernel_rfl) λK b=>?_;go_simp;refine b _ _ (λ_=>S7) ?_;clear b K
     (try simp only[p_,z_])
     obtain⟨s7,t7⟩:=S7.i;have f7:ZX w7 (T (z (B Z8)) 1 Z)=ZA:=by simp[World.frozen?,s7]
     have l7:=aj s7;clear s7;refine ai (i:=13) rfl (by kernel_rfl) λK b=>?_;go_simp;refine b _ _ (λh=>absurd rfl h) ?_;clear b K
     (try simp only[p_,z_])
     refine ba (by kernel_rfl) ?_ _;go_wp2;have BB:=ae ((AB.P (show (z (B w))+2<=z (B G) by omega)).k B9.i);refine⟨⟨k+1,_,Y a7 (A o+1) c7,o++[((⟨tn,2,lsI iy⟩,z (B ZP),2):TR)],by go_num,by rw[cM];exact Nat.succ_le_succ hk,by omega,by rw[cM];exact(by omega:A o+1<=300),X9,G1.add (r:=(⟨tn,2,lsI iy⟩,z (B ZP),2)) (by show 2<=300;omega) pD,R3.low BB (by omega),O3.then (BB.P (by omega))⟩,by simp[intOf];omega⟩
    {have ZL:=la;have ZN:=la;have aq:=la;have bt:=la;have M:=ae C.ab;have ZS:=ae C.res;have ZR:=ae (fJ C.src rfl C.w rfl (by omega) (by omega) G1);clear ZL ZN aq bt;go_wp2;go_meet;exact⟨_,_,_,_,_,_,_,_,_,by omega,M,ZS,ZR,R3,O3⟩}
  ·go_wp2_with fail;refine aI (BxT (Y a2 (A ZT) c2) (Y a5 (A o) c5) (z (B Z8))) 14 (by kernel_rfl) ?_;have l:=ae (vL (W:=s.drew) m.ab);iterate 3
    refine aO 0 (v:=?_) rfl rfl (by kernel_rfl) (λ_ _ _ h=>h) rfl ?_ l ?_;rotate_left
    ·(rintro wz⟨s0,s1⟩;go_simp)
     (try with_reducible rfl)
    (try simp only[p_,z_])
   refine ai (i:=3) rfl (by kernel_rfl) λK b=>?_;go_simp;go_at_call 19;refine(ay R _ 2 _ (R2.aa br.drew ly) (by omega) (by omega) (by omega)).P ?_;rintro e G⟨z3,rfl,ex,th,ZQ,H⟩;obtain⟨m3,rfl⟩:=p9 ex;have X:Hid (zt R s G):=(zt.l br.drew).k H;have C:=ae (m.ac X (by omega));have R3:=ae ZQ;have O3:=ae (O2.k X);clear ZQ H X l;have l:=ae (vL C.ab);refine b _ _ (λ_=>l) ?_;clear b K
   (try simp only[p_,z_])
   have hw60:IntKind.i64.wrap (60+(m3:Int))=60+(m3:Int):=by rw[nL];omega
   refine ai (i:=4) rfl (by kernel_rfl) λK b=>?_;go_simp;refine b _ _ (λ_=>l) ?_;clear b K
   (try simp only[p_,z_])
   refine ai (i:=5) rfl (by kernel_rfl) λK b=>?_;go_simp;go_at_call 35;refine(eP ⟨#[110]⟩ (60+m3) _ (by show 1*(60+m3)<=4000;omega) (by omega)).P ?_;rintro e w4⟨tn,rfl,_,rfl⟩;refine b _ _ (λ_=>l) ?_;clear b K l
   (try simp only[p_,z_])
   have SQ:=ae C.Qj;refine ai (i:=6) rfl (by kernel_rfl) λK b=>?_;go_simp;go_at_call 57;refine(bC _ _).P ?_;rintro e wm⟨rfl,JX⟩;have BM:=ae JX;clear JX;refine b _ _ (λ_=>SQ wm (λj ZZ _=>BM.p j ZZ)) ?_;clear b K
   (try simp only[p_,z_])
   refine ai (i:=7) rfl (by kernel_rfl) λK b=>?_;go_simp;go_at_call 58;refine(bq _ _).P ?_;rintro e ZP⟨rfl,qr⟩;have BN:=ae (BM.k (qr.P BM.size));clear qr BM;have Kp:=BN.size;have BI:=ae (BN.alloc (by omega) (N #[J I 1,U ⟨#[107]⟩,J I 0,J I 15,U ⟨#[]⟩,J I 0] 102));have Kc:=C.hi;have Fd:=C.lt;have OI:=ae (rN ZP (base:=z (B w)+2) (by omega));refine b _ _ (λ_=>SQ ZP (λj ZZ _=>BN.p j ZZ)) ?_;clear b K
   (try simp only[p_,z_])
   have l:=ae (SQ _ (λj ZZ _=>BI.p j ZZ));iterate 3
    refine bV 8 rfl rfl (by kernel_rfl) λK b=>?_;go_simp;refine b _ _ (λ_=>l) ?_;clear b K
    (try simp only[p_,z_])
   have JM:z (B (ZV ZP (N #[J I 1,U ⟨#[107]⟩,J I 0,J I 15,U ⟨#[]⟩,J I 0] 102)))=z (B ZP)+1:=by simp
   have AB:=ae (BI.alloc (by omega) (N #[U tn,Y (Q (T (z (B ZP)) 0 Z)) 2 2] 86));refine ai (i:=11) rfl (by kernel_rfl) λK b=>?_;go_simp;have XA:=ae (C.aa AB ly);have OA:=ae (J_ OI (br.alloc ly (N #[U tn,Y (Q (T (z (B ZP)) 0 Z)) 2 2] 86)) ly);refine b _ _ (λ_=>SQ _ (λj ZZ _=>AB.p j ZZ)) ?_;clear b K
   (try simp only[p_,z_])
   refine ai (i:=12) rfl (by kernel_rfl) λK b=>?_;refine aU rfl (.tmp 121) (.tmp 131) 27 rfl (z (B w)+2) 86 JH (ZJ #[U ⟨#[]⟩,Y Z 0 0]) 2 40 OJ ZZ Id Fk Bk rfl (by decide) (Y a5 (A o) c5) (A o) (o.flatMap aZ) (by simp[Act.eval]) XA.w.u (T (z (B ZP)+1) 0 Z) 1 1 (aZ (⟨tn,2,lsI iy⟩,z (B ZP),2)) (by simp[Act.eval]) rfl (λj u hu=>mC (JM) _ _ _ j u hu) (by simp[aZ,Value.oneCell']) (by unfold maxLen;omega) (by omega) (by have:=XA.hi;have:=XA.lt;omega) ?_;intro v' w7 D y _;obtain⟨a7,c7,rfl⟩:=aJ D;have S7:=ae (SQ w7 (λj ZZ ld=>(y.p j (lj ZZ AB.size) ld).k (AB.p j ZZ)));obtain⟨c8,b8⟩:=XA.addT (x:=⟨tn,2,lsI iy⟩) (g:=z (B ZP)) (c:=2) (λr hr e=>by have:=C.w.ltg r hr;omega) OA D y;have X9:=ae c8;have B9:=ae b8;clear D y c8 b8;refine b _ _ (λ_=>S7) ?_;clear b K
   (try simp only[p_,z_])
   refine ai (i:=13) rfl (by kernel_rfl) λK b=>?_;go_simp;refine b _ _ (λ_=>S7) ?_;clear b K
   (try simp only[p_,z_])
   obtain⟨s7,t7⟩:=S7.i;have f7:ZX w7 (T (z (B Z8)) 1 Z)=ZA:=by simp[World.frozen?,s7]
   have l7:=aj s7;clear s7;refine ai (i:=14) rfl (by kernel_rfl) λK b=>?_;go_simp;refine b _ _ (λh=>absurd rfl h) ?_;clear b K
   (try simp only[p_,z_])
   refine ba (by kernel_rfl) ?_ _;have BB:=ae ((AB.P (show (z (B w))+2<=z (B w4) by omega)).k B9.i);have R9:=ae (R3.low BB (by omega));have O9:=ae (O3.then (BB.P (by omega)));have G9:=ae (G1.add (r:=(⟨tn,2,lsI iy⟩,z (B ZP),2)) (by show 2<=300;omega) pD);clear t7 f7 l7 l;go_simp;generalize World.setCell w7 _ _=W9 at X9 R9 O9 ⊢;have M:=ae X9.ab;have ZS:=ae X9.res;have ZR:=ae (fJ X9.src rfl X9.w (by simp) (by omega) (by rw[cM];exact(by omega:A o+1<=300)) G9);clear ZL ZN aq bt;go_wp2;go_meet;exact⟨_,_,_,_,_,_,_,_,_,by omega,M,ZS,ZR,R9,O9⟩
  {have BQ:=ae ((BS s).alloc ly (N #[U ⟨#[97]⟩,Y Z 0 0] 86));have XQ:=ae (m.aa BQ ly);go_wp2_with (at_builtin;refine cj _ rfl (.tmp 137) (.tmp 139) 27 rfl (z (B w)+2) 86 JH (ZJ #[U ⟨#[]⟩,Y Z 0 0]) 2 40 OJ ZZ Id Fk Bk rfl (by decide) (Y a5 (A o) c5) (A o) (o.flatMap aZ) (by simp[Act.eval]) XQ.w.u (T (z (B s)) 0 Z) 1 1 [U ⟨#[97]⟩,Y Z 0 0] (by simp[Act.eval]) rfl (λj u hu=>df s _ _ _ j u hu) (by simp[Value.oneCell']) (by unfold maxLen;omega) (by omega) (by have:=m.hi;simp;omega) ?_;intro v' G D y _;obtain⟨a7,c7,rfl⟩:=aJ D;obtain⟨hE,hB,hQ,fd⟩:=XQ.addNil D y (by omega) (by omega) G1.i;have ZR:=ae hE;have JV:=ae fd;have M:=ae hB;have ZS:=ae hQ;have kb:=gw y XQ.w.type XQ.ab (by decide);clear D y hE hB hQ fd ZL ZN aq bt;have e0:ZW G (T (z (B Z8)) 0 Z)=Q (Y a2 (A ZT) c2):=(by simp[World.cell?,kb]);have e1:ZW G (T (z (B Z8)) 1 Z)=Q (Y a5 (A o) c5):=(by simp[World.cell?,kb]);have f2:ZX G (T (z (B Z8)) 1 Z)=ZA:=(by simp[World.frozen?,kb]);have l1:=aj kb;have ld:=XQ.hi;clear kb);go_meet;exact⟨_,_,_,_,_,_,_,_,_,by omega,M,ZS,ZR,R2.low (BQ.P (show (z (B w))+2<=z (B s) by omega) |>.trans JV.i) (by omega),O2.then ((BQ.P (show (z (B w))<=z (B s) by omega)).k (JV.P (by omega)))⟩}
  ·by_cases hl:1<(A ZT:Int)
   ·go_wp2_with fail;obtain⟨gs,rfl⟩:=ko m.src (by omega)
    obtain⟨P,x1,ZM,rfl⟩:∃P x1 ZM,ZT=P::x1::ZM:=(by
     match ZT,hl with
     |[],h=>simp at h
     |[_],h=>simp at h
     |P::x1::ZM,_=>exact⟨P,x1,ZM,rfl⟩)
    have Kh:=(m.src.lt gs rfl).2;have kx:=(bA m.src (j:=0) (u:=U P.e) rfl).1;obtain⟨ky,kz⟩:=bA m.src (j:=2) (u:=U x1.e) rfl;obtain⟨x3,b3⟩:=m.setS (j:=2) (LS':=P::⟨P.e,x1.H⟩::ZM) (U P.e) rfl rfl;have C:=ae x3;have B3:=ae b3;clear x3 b3;have mv:(P::x1::ZM).length<=250:=by omega
    have Km:(1:Int)<(P::x1::ZM).length:=hl;generalize ZO:(P::x1::ZM).length=nl at *;have HL:=ae ZO;clear ZO;have JL:0<nl:=by omega
    have Kb:1<nl:=by omega
    refine aI (λV=>ZW V (T (z (B Z8)) 0 Z)=Q (Y (Q (T gs 0 Z)) nl c2)/\ZW V (T gs 0 Z)=Q (U P.e)) 9 (by kernel_rfl) ?_;have l:Hid ((s.drew.cell? (T (z (B Z8)) 0 Z)=Q (Y (Q (T gs 0 Z)) nl c2))/\s.drew.cell? (T gs 0 Z)=Q (U P.e)):=⟨ZL,kx⟩
    iterate 7
     refine aO 0 (v:=?_) rfl rfl (by kernel_rfl) (λ_ _ _ h=>h) rfl ?_ l ?_;rotate_left
     ·(rintro wz⟨s0,s1⟩;go_simp)
      (try with_reducible rfl)
     (try simp only[p_,z_])
    iterate 2
     refine bV 7 rfl rfl (by kernel_rfl) λK b=>?_;go_simp;refine b _ _ (λ_=>l) ?_;clear b K
     (try simp only[p_,z_])
    refine ai (i:=9) rfl (by kernel_rfl) λK b=>?_;go_simp;refine b _ _ (λh=>absurd rfl h) ?_;clear b K
    (try simp only[p_,z_])
    refine ba (by kernel_rfl) ?_ _;have R3:=ae ((R2.low B3 (by omega)).aa br.drew ly);have O3:=ae (O2.then ((B3.P (show (z (B w))<=z (B w)+2 by omega)).drew));have XD:=ae (C.aa br.drew ly);clear l kx ky kz hl Km;go_simp;generalize World.drew (World.setCell s _ _)=W3 at XD R3 O3 ⊢;have M:=ae XD.ab;have ZS:=ae XD.res;have ZR:=ae (fJ XD.src HL.c XD.w rfl (by have:=HL.i;simp only[vF] at this ⊢;omega) (by omega) G1);clear ZL ZN aq bt;go_wp2;go_meet;exact⟨_,_,_,_,_,_,_,_,_,by omega,M,ZS,ZR,R3,O3⟩
   {skip;have M:=ae m.ab;have ZS:=ae m.res;have ZR:=ae (fJ m.src rfl m.w rfl (by omega) (by omega) G1);go_wp2;go_meet;exact⟨_,_,_,_,_,_,_,_,_,by omega,M,ZS,ZR,R2,O2⟩}
 case rest =>
 clear m R2 O2 ZL ZN aq bt la;obtain⟨b0,m0,k0,g0,b1,m1,k1,g1,q',hq',M,ZS,ZR,R9,O9⟩:=hcut;generalize wc=W9 at M ZS ZR R9 O9 ⊢;have kb:=M.i;have kr:=ZS.i;have e0:ZW W9 (T (z (B Z8)) 0 Z)=Q (Y b0 m0 k0):=by simp[World.cell?,kb]
 have e1:ZW W9 (T (z (B Z8)) 1 Z)=Q (Y b1 m1 k1):=by simp[World.cell?,kb]
 have r0:ZW W9 (T (z (B w)+1) 0 Z)=Q (Y Z 0 0):=by simp[World.cell?,kr]
 have r1:ZW W9 (T (z (B w)+1) 1 Z)=Q (Y Z 0 0):=by simp[World.cell?,kr]
 have f0:ZX W9 (T (z (B w)+1) 0 Z)=ZA:=by simp[World.frozen?,kr]
 have f1:ZX W9 (T (z (B w)+1) 1 Z)=ZA:=by simp[World.frozen?,kr]
 have l0:=aj kr;have l1:=aj kb;clear kb kr;have BE:=ae (((a8 (z (B w)) W9).setCell (p:=(T (z (B w)+1) 0 Z)) (BV _) (Y b0 m0 k0)).setCell (p:=(T (z (B w)+1) 1 Z)) (BV _) (Y b1 m1 k1));have Ko:=ae ((ZR.agr ((fl (j:=0) (show (z (B w))+1<z (B w)+2 by omega) (Y b0 m0 k0)).k (fl (j:=1) (show (z (B w))+1<z (B w)+2 by omega) (Y b1 m1 k1)))).P (show (z (B w))<=z (B w)+2 by omega));go_wp2;exact bp (v:=ZJ #[Y b0 m0 k0,Y b1 m1 k1]) (by simp[results,results22,go_sem,r0,r1]) rfl ⟨_,_,_,_,_,_,_,_,rfl,Ko,_,by omega,R9.low BE J4,O9.then BE⟩
def Ib{s0 s1 f:F_}{fz:Nat × Nat}(h:w.heap[b]?=Q (N #[U s0,U s1,U f] t fz))(g:s0.size<=5000)(h1:s1.size<=5000)(h2:f.size<=5000)(k:Nat)(i:k<3):∃s:F_,ZW w (T b k Z)=Q (U s)/\s.size<=5000:=by
 match k,i with
 |0,_=>exact⟨s0,by simp[World.cell?,h],g⟩
 |1,_=>exact⟨s1,by simp[World.cell?,h],h1⟩
 |2,_=>exact⟨f,by simp[World.cell?,h],h2⟩
 |j+3,h5=>exact absurd h5 (by omega)
def yv{f:Nat}{a0 a1:O_}{c0 c1:Nat}{g:List Source}{b:List TR}(n:w.ownsRow f 82 2 (Y a0 (A g) c0) (A g) (g.flatMap bF))(m:TRow w f (Y a1 (A b) c1) b)(h:SpG g b)(l:A g<=300)(h1:A b<=300):HSp f w a0 (A g) (aV g) a1 (A b) (aW (b.map (·.1)))/\∀i,i<A b->1<=(aW (b.map (·.1)) i).h/\(aW (b.map (·.1)) i).h<=200:=by
 refine⟨fJ n rfl m rfl l h1 (λr j=>⟨by have:=(h.t r j).2.1.2;omega,(h.t r j).2.2⟩),λi hi=>?_⟩;have e:aW (b.map (·.1)) i=b[i].1:=by simp[aW,hi]
 rw[e];exact(h.t _ (gz hi)).2.1
def Cz (R p:Nat)(w:E)(hR:Rd w R p)(hp:p<=9000):Qw Pg 31 #[.pointer (Q (T R 0 Z))] w λe w'=>DH w R (p+6300) e w':=by
 have HR:=ae hR;have y:=hR.lt;clear hR;go_enter func31,ntmps31;go_wp2_with fail;obtain⟨W0,x⟩:∃W:E,ZV w (N #[Y Z 0 0,Y Z 0 0] 29)=W:=⟨_,rfl⟩
 obtain⟨A0,K0,hz0⟩:=nb1 x;have H:=ae x;clear x;rw[H.i];clear H;refine(ay R p 24 _ (HR.aa A0 ly) (by omega) (by omega) (by omega)).P ?_;rintro e w1⟨ZY,rfl,hz0',hz1',V,C⟩;have L:=ae V;have O:=ae ((zt.l A0).k C:zt R w w1);have S:=ae ((C.p (z (B w)) (by omega) (by omega)).k K0);have hs1:=C.size;clear V C A0 K0;by_cases hk:ZY=0
 ·subst hk;go_wp2_with fail;refine(ay R _ 3 _ L (by omega) (by omega) (by omega)).P ?_;rintro e g⟨z2,rfl,aq,h21,m,b⟩;obtain⟨K,rfl⟩:=p9 aq;have h:=ae m;have l:=ae (O.k b);have i:=ae ((b.p (z (B w)) (by omega) (by omega)).k S);have fd:=b.size;clear m b L O S;have hw1:IntKind.i64.wrap (60+(K:Int))=60+(K:Int):=by rw[nL];omega
  have hw2:IntKind.i64.wrap (60+(K:Int) - 1)=59+(K:Int):=by rw[nL];omega
  go_wp2_with fail;obtain⟨WL,u⟩:∃W:E,ZV g (N #[U ⟨#[97]⟩,U ⟨#[110,111,110,101]⟩,U ⟨#[116,48,48,48]⟩] 9)=W:=⟨_,rfl⟩
  obtain⟨M,s,-⟩:=nb1 u;replace s:=s.i;have ZR:=ae u;clear u;have RL:=ae (h.aa M ly);have OL:=ae (l.then (M.P (by omega)));have KL:=ae ((M.p (z (B w)) (by omega)).k i);have ZS:=aj s;have ZN:=ae s;clear M s h l i;rw[ZR.i];clear ZR;refine(ay R _ 3 _ RL (by omega) (by omega) (by omega)).P ?_;rintro e Z8⟨z3,rfl,ex,h31,q,f⟩;obtain⟨m3,rfl⟩:=p9 ex;have ld:m3<3:=by omega
  have P:=ae q;have ZQ:=ae (OL.k f);have ZO:=ae ((f.p (z (B w)) (by omega) (by omega)).k KL);obtain⟨sx,mv,la⟩:=Ib ((f.p (z (B g)) ZS (by omega)).k ZN) (WI rfl) (WI rfl) (WI rfl) m3 ld;have hs4:=f.size;clear q f ZN RL OL KL;go_wp2_with fail;refine(xC (59+K) (by omega) sx la _).P ?_;rintro e G⟨a0,n0,c0,f0,a1,n1,c1,f1,rfl,ZP,ZZ⟩;have H4:=ae (ZP.P (show (z (B w))+1<=z (B Z8) by omega));have R4:=ae (P.aa ZZ ly);have O4:=ae (ZQ.then (ZZ.P (by omega)));have K4:=ae ((ZZ.p (z (B w)) (by omega)).k ZO);clear ZP ZZ P ZQ ZO mv;have kr:=K4.i;have r0:ZW G (T (z (B w)) 0 Z)=Q (Y Z 0 0):=by simp[World.cell?,kr]
  have r1:ZW G (T (z (B w)) 1 Z)=Q (Y Z 0 0):=by simp[World.cell?,kr]
  have f0:ZX G (T (z (B w)) 0 Z)=ZA:=by simp[World.frozen?,kr]
  have f1:ZX G (T (z (B w)) 1 Z)=ZA:=by simp[World.frozen?,kr]
  have l0:=aj kr;clear kr;have o:=ae (((a8 (z (B w)) G).setCell (p:=(T (z (B w)) 0 Z)) ly (Y a0 n0 c0)).setCell (p:=(T (z (B w)) 1 Z)) ly (Y a1 n1 c1));have n:=ae ((H4.agr ((fl (j:=0) (eL (z (B w))) (Y a0 n0 c0)).k (fl (j:=1) (eL (z (B w))) (Y a1 n1 c1)))).P (BV (z (B w))));go_wp2;exact bp (v:=ZJ #[Y a0 n0 c0,Y a1 n1 c1]) (by simp[results,results31,go_sem,r0,r1]) rfl ⟨_,_,_,_,_,_,_,_,rfl,n,_,by omega,R4.low o y,O4.then o⟩
 ·go_wp2_with fail;refine(qO R _ _ L (by omega)).P ?_;rintro e g⟨t,r,v0,v1,rfl,hs,ht,hG,hl0,hl1,q2,hq2,m,b⟩;obtain⟨a0,c0,rfl⟩:=aJ hs;obtain⟨a1,c1,rfl⟩:=aJ ht.u;obtain⟨hh,hg⟩:=yv hs ht hG (by omega) (by omega);have ZT:=ae (hh.P (show (z (B w))+1<=z (B w1)+2 by omega));have HG:=ae hg;have h:=ae m;have l:=ae (O.k b);have i:=ae ((b.p (z (B w)) (by omega) (by omega)).k S);have fd:=b.size;clear hs ht hG hh hg m b L O S;by_cases hk3:ZY<3
  ·have D:=ae ((BS g).alloc ly (N #[Y a0 (A t) c0,Y a1 (A r) c1] 29));have ZT:=ae (ZT.agr (de D ly));have h:=ae (h.aa D ly);have l:=ae (l.then (D.P (by omega)));have i:=ae ((D.p (z (B w)) (by omega)).k i);have ZS:=D.size;clear D;go_wp2_with fail;generalize World.alloc g _=WS at ZT h l i ZS ⊢;refine(oW R q2 (z (B w)+1) (A t) c0 (A r) c1 a0 _ a1 _ _ h (by omega) ZT HG (by omega) (by omega)).P ?_;rintro e Z8⟨b0,m0,d0,g0,ZM,ZL,d1,g1,rfl,X,q3,hq3,q,f⟩;have H3:=ae (X.P (show (z (B w))+1<=z (B WS) by omega));have P:=ae q;have ZQ:=ae (l.k f);have ZO:=ae ((f.p (z (B w)) (by omega) (by omega)).k i);clear X q f ZT h l i HG;have kr:=ZO.i;have r0:ZW Z8 (T (z (B w)) 0 Z)=Q (Y Z 0 0):=by simp[World.cell?,kr]
   have r1:ZW Z8 (T (z (B w)) 1 Z)=Q (Y Z 0 0):=by simp[World.cell?,kr]
   have f0:ZX Z8 (T (z (B w)) 0 Z)=ZA:=by simp[World.frozen?,kr]
   have f1:ZX Z8 (T (z (B w)) 1 Z)=ZA:=by simp[World.frozen?,kr]
   have l0:=aj kr;clear kr;have o:=ae (((a8 (z (B w)) Z8).setCell (p:=(T (z (B w)) 0 Z)) ly (Y b0 m0 d0)).setCell (p:=(T (z (B w)) 1 Z)) ly (Y ZM ZL d1));have n:=ae ((H3.agr ((fl (j:=0) (eL (z (B w))) (Y b0 m0 d0)).k (fl (j:=1) (eL (z (B w))) (Y ZM ZL d1)))).P (BV (z (B w))));go_wp2;exact bp (v:=ZJ #[Y b0 m0 d0,Y ZM ZL d1]) (by simp[results,results31,go_sem,r0,r1]) rfl ⟨_,_,_,_,_,_,_,_,rfl,n,_,by omega,P.low o y,ZQ.then o⟩
  ·clear HG;have kr:=i.i;have r0:ZW g (T (z (B w)) 0 Z)=Q (Y Z 0 0):=by simp[World.cell?,kr]
   have r1:ZW g (T (z (B w)) 1 Z)=Q (Y Z 0 0):=by simp[World.cell?,kr]
   have f0:ZX g (T (z (B w)) 0 Z)=ZA:=by simp[World.frozen?,kr]
   have f1:ZX g (T (z (B w)) 1 Z)=ZA:=by simp[World.frozen?,kr]
   have l0:=aj kr;clear kr;have bt:z (B (ZU (ZU g (T (z (B w)) 0 Z) (Y a0 (A t) c0)) (T (z (B w)) 1 Z) (Y a1 (A r) c1)))=z (B g):=by simp
   have o:=ae ((((a8 (z (B w)) g).setCell (p:=(T (z (B w)) 0 Z)) ly (Y a0 (A t) c0)).setCell (p:=(T (z (B w)) 1 Z)) ly (Y a1 (A r) c1)).alloc (by omega) (N #[Y a0 (A t) c0,Y a1 (A r) c1] 29));have n:=ae ((ZT.agr (((fl (j:=0) (eL (z (B w))) (Y a0 (A t) c0)).k (fl (j:=1) (eL (z (B w))) (Y a1 (A r) c1))).k (de (br.alloc ly (N #[Y a0 (A t) c0,Y a1 (A r) c1] 29)) ly))).P (BV (z (B w))));clear bt;go_wp2;exact bp (v:=ZJ #[Y a0 (A t) c0,Y a1 (A r) c1]) (by simp[results,results31,go_sem,r0,r1,l0]) rfl ⟨_,_,_,_,_,_,_,_,rfl,n,_,by omega,h.low o y,l.then o⟩
def iz (R p b0 n0 c0 n1 c1:Nat)(a0:O_)(f0:Nat->Source)(a1:O_)(f1:Nat->Target)(w:E)(hR:Rd w R p)(hp:p<=50000)(hb:R<b0)(hH:HSp b0 w a0 n0 f0 a1 n1 f1):Qw Pg 33 #[.pointer (Q (T R 0 Z)),ZJ #[Y a0 n0 c0,Y a1 n1 c1]] w λe ZL=>∃t:F_,e=ZI (U t)/\∃q:Nat,q<=p+3/\Rd ZL R q/\zt R w ZL:=by
 have HR:=ae hR;have hlow:=hR.lt;have hn1:=hH.hn1;have HH:=ae hH;clear hR hH;have x:=ae ((BS w).alloc ly (N #[Y a0 n0 c0,Y a1 n1 c1] 29));have D:Hid ((ZV w (N #[Y a0 n0 c0,Y a1 n1 c1] 29)).heap[z (B w)]?=Q (N #[Y a0 n0 c0,Y a1 n1 c1] 29 (0,0))):=gM w _;have ZR:z (B (ZV w (N #[Y a0 n0 c0,Y a1 n1 c1] 29)))=z (B w)+1:=by simp
 by_cases hn:0<(n1:Int)
 ·go_enter func33,ntmps33;go_wp2_with fail;generalize World.alloc w _=m at x D ZR ⊢;have O:=ae (HR.aa x ly);have P:Hid (zt R w m):=zt.l x;refine(ay R p 8 _ O (by omega) (by omega) (by omega)).P ?_;rintro e ZS⟨ZY,rfl,hz0',hz1',S,G⟩;have X:=ae S;have ZM:=ae (P.k G);have K1:=ae ((G.p (z (B w)) (by omega) (by omega)).k D);clear S G O P D x;have ZN:=K1.i;have ZP:ZW ZS (T (z (B w)) 1 Z)=Q (Y a1 n1 c1):=by simp[World.cell?,ZN]
  have l1:=aj ZN;clear ZN;by_cases hz:0<ZY
  ·go_wp2_with fail;refine aI (λV=>ZW V (T (z (B w)) 1 Z)=Q (Y a1 n1 c1)) 10 (by as_aux_lemma=>kernel_rfl) ?_;have L:Hid (ZS.drew.cell? (T (z (B w)) 1 Z)=Q (Y a1 n1 c1)):=ZP;iterate 6
    refine aO 0 (v:=?_) rfl rfl (by as_aux_lemma=>kernel_rfl) (λ_ _ _ h=>h) rfl ?_ L ?_;rotate_left
    ·(intro wz s0;go_simp)
     (try with_reducible rfl)
    (try simp only[p_,z_])
   refine ai (i:=6) rfl (by as_aux_lemma=>kernel_rfl) λK M=>?_;go_simp;go_at_call 19;refine(ay R _ (n1:Int) _ (X.aa br.drew ly) (by omega) (by omega) (by omega)).P ?_;rintro e ZQ⟨z3,rfl,o,ZO,g,b⟩;obtain⟨l,rfl⟩:=p9 o;have OO:Hid (zt R ZS ZQ):=(zt.l br.drew).k b;have H:=ae g;have ZZ:=ae (ZM.k OO);have n:l<n1:=by omega
   clear g b L;have L:Hid (ZW ZQ (T (z (B w)) 1 Z)=Q (Y a1 n1 c1)):=(OO.O (z (B w)) 1 l1 (by omega)).k ZP;rcases(HH.sl ZQ (ZZ.agr hb)).2 with h0|⟨tb,tof,rfl,u⟩
   {omega};have kn:=(u.2 l n).1;have hl:=u.1;clear u ZP;refine M _ _ (λ_=>L) ?_;clear M K
   (try simp only[p_,z_])
   iterate 4
    refine bV 7 rfl rfl (by as_aux_lemma=>kernel_rfl) λK M=>?_;go_simp;refine M _ _ (λ_=>L) ?_;clear M K
    (try simp only[p_,z_])
   refine ba (by as_aux_lemma=>kernel_rfl) ?_ _;go_wp2;go_ret;exact⟨_,rfl,_,by omega,H,ZZ⟩
  ·go_wp2_with fail;obtain⟨WL,r⟩:∃W:E,ZV ZS (N #[U ⟨#[97]⟩,U ⟨#[110,111,110,101]⟩,U ⟨#[]⟩,U ⟨#[120,32,121]⟩,U ⟨#[116,48]⟩] 9)=W:=⟨_,rfl⟩
   obtain⟨s,f,-⟩:=nb1 r;replace f:=f.i;have ZT:=ae r;clear r;have C:=ae (X.aa s ly);have Z8:=ae (ZM.then (s.P (by omega)));have y:=aj f;have j:=ae f;clear s f;rw[ZT.i];clear ZT;refine(ay R _ 5 _ C (by omega) (by omega) (by omega)).P ?_;rintro e ZQ⟨z3,rfl,o,ZO,g,b⟩;obtain⟨l,rfl⟩:=p9 o;have n:l<5:=by omega
   have H:=ae g;have ZZ:=ae (Z8.k b);obtain⟨sx,aq⟩:=oE ((b.p (z (B ZS)) y (by omega)).k j) l n;clear g b j C Z8;go_wp2;go_ret;exact⟨sx,rfl,_,by omega,H,ZZ⟩
 ·go_enter func33,ntmps33;go_wp2_with fail;generalize World.alloc w _=m at x D ZR ⊢;have O:=ae (HR.aa x ly);have P:Hid (zt R w m):=zt.l x;have l0:=aj D.i;have s:=ae ((BS m).alloc ly (N #[U ⟨#[97]⟩,U ⟨#[110,111,110,101]⟩,U ⟨#[]⟩,U ⟨#[120,32,121]⟩,U ⟨#[116,48]⟩] 9));have C:=ae (O.aa s ly);have Z8:=ae (P.then (s.P (by omega)));have f:(m.alloc (N #[U ⟨#[97]⟩,U ⟨#[110,111,110,101]⟩,U ⟨#[]⟩,U ⟨#[120,32,121]⟩,U ⟨#[116,48]⟩] 9)).heap[z (B w)+1]?=Q (N #[U ⟨#[97]⟩,U ⟨#[110,111,110,101]⟩,U ⟨#[]⟩,U ⟨#[120,32,121]⟩,U ⟨#[116,48]⟩] 9 (0,0)):=(by rw[<-ZR];exact gM m _)
  have y:=aj f;have j:=ae f;clear s f;generalize World.alloc m _=WL at C Z8 j y ⊢;refine(ay R _ 5 _ C (by omega) (by omega) (by omega)).P ?_;rintro e ZQ⟨z3,rfl,o,ZO,g,b⟩;obtain⟨l,rfl⟩:=p9 o;have n:l<5:=by omega
  have H:=ae g;have ZZ:=ae (Z8.k b);obtain⟨sx,aq⟩:=oE ((b.p (z (B w)+1) y (by omega)).k j) l n;clear g b j C Z8;go_wp2;go_ret;exact⟨sx,rfl,_,by omega,H,ZZ⟩
def DPS (w:E)(e:Ending)(b:E):Prop:=∃(a0:O_) (n0 c0:Nat) (f0:Nat->Source) (a1:O_) (n1 c1:Nat) (f1:Nat->Target) (t tx:F_),e=ZI (.tuple #[ZJ #[Y a0 n0 c0,Y a1 n1 c1],U t,U tx])/\HSp (z (B w)) b a0 n0 f0 a1 n1 f1/\Below (z (B w)) w b
def Ic{s0 s1:F_}{fz:Nat × Nat}(h:w.heap[b]?=Q (N #[U s0,U s1] t fz))(k:Nat)(f:k<2):∃s,ZW w (T b k Z)=Q (U s):=by
 match k,f with
 |0,_=>exact⟨s0,by simp[World.cell?,h]⟩
 |1,_=>exact⟨s1,by simp[World.cell?,h]⟩
 |j+2,h5=>exact absurd h5 (by omega)
def yw{v0 v1:ZB}{fz:Nat × Nat}(h:w.heap[b]?=Q (N #[u0,u1] t fz)):(ZU (ZU w (T b 0 Z) v0) (T b 1 Z) v1).heap[b]?=Q (N #[v0,v1] t fz):=by simp[World.setCell,NQ,h]
def cR (h:V.heap[b]?=Q (N #[u0,u1] t (0,0))):ZW V (T b 0 Z)=Q u0/\ZW V (T b 1 Z)=Q u1:=⟨by simp[World.cell?,h],by simp[World.cell?,h]⟩
def FJ (h:V.heap[b]?=Q (N #[u0,u1] t (0,0))):ZX V (T b 0 Z)=ZA/\ZX V (T b 1 Z)=ZA/\b<z (B V):=⟨by simp[World.frozen?,h],by simp[World.frozen?,h],aj h⟩
structure PSt (w:E)(R h b:Nat)(a0:O_)(n0 c0:Nat)(f0:Nat->Source)(a1:O_)(n1 c1:Nat)(f1:Nat->Target)(u0 u1:ZB)(V:E):Prop where
 bl:Below (z (B w)) w V
 sp:HSp h V a0 n0 f0 a1 n1 f1
 rb:V.heap[z (B w)]?=Q (N #[u0,u1] 29 (0,0))
 sb:V.heap[b]?=Q (N #[Y a0 n0 c0,Y a1 n1 c1] 29 (0,0))
 hR:z (B w)<R/\R<h/\h<=b
section
variable {w V ZN:E}{R h b:Nat}{a0 a1:O_}{n0 c0 n1 c1:Nat}{f0:Nat->Source}{f1:Nat->Target}{u0 u1:ZB}
def PSt.on (s:PSt w R h b a0 n0 c0 f0 a1 n1 c1 f1 u0 u1 V)(f:zt R V ZN):PSt w R h b a0 n0 c0 f0 a1 n1 c1 f1 u0 u1 ZN:=
 have k:=s.hR
 ⟨s.bl.k (f.aa (by omega) s.bl.size),s.sp.agr (f.agr k.2.1),(f.p _ (aj s.rb) (by omega)).k s.rb,(f.p _ (aj s.sb) (by omega)).k s.sb,k⟩
def PSt.be (s:PSt w R h b a0 n0 c0 f0 a1 n1 c1 f1 u0 u1 V)(f:Below (z (B V)) V ZN):PSt w R h b a0 n0 c0 f0 a1 n1 c1 f1 u0 u1 ZN:=s.on (zt.l f)
def PSt.put (s:PSt w R h b a0 n0 c0 f0 a1 n1 c1 f1 u0 u1 V)(g f:ZB):PSt w R h b a0 n0 c0 f0 a1 n1 c1 f1 g f (ZU (ZU V (T (z (B w)) 0 Z) g) (T (z (B w)) 1 Z) f):=
 have k:=s.hR;have i:zt (z (B w)) V (ZU (ZU V (T (z (B w)) 0 Z) g) (T (z (B w)) 1 Z) f):=ce (ce (zt.refl _ _) 0 g) 1 f
 ⟨s.bl.k (i.aa ly s.bl.size),s.sp.agr (i.agr (by omega)),yw s.rb,(i.p _ (aj s.sb) (by omega)).k s.sb,k⟩
def PSt.big (s:PSt w R h b a0 n0 c0 f0 a1 n1 c1 f1 u0 u1 V):h<=z (B V):=by have:=aj s.sb;have:=s.hR;omega
end
def od (a:O_)(n j_:Nat)(w:E)(hn:(n:Int)<=1048576)(hc:n<=j_)(hS:ByteSl w a n):Qw Pg 8 #[Y a n j_] w λe w'=>DPS w e w':=by
 have S0:=ae hS;clear hS;go_enter func8,ntmps8;go_wp2_with fail;obtain⟨W0,ZS⟩:∃W:E,ZV w (N #[Y Z 0 0,Y Z 0 0] 29)=W:=⟨_,rfl⟩
 obtain⟨A0,KA,hzA⟩:=nb1 ZS;have O:=ae ZS;clear ZS;rw[O.i];clear O;refine(lR a n j_ _ hn hc (S0.aa A0 ly)).P ?_;rintro e ZO⟨R,rfl,hRz,P,M⟩;have R1:=ae P;have ZL:=ae (A0.k (M.P (by omega)));have K1:=ae ((M.p (z (B w)) (by omega)).k KA);have hs1:=M.size;have ZT:=P.lt;clear P M A0 KA;go_wp2_with fail;refine(Cz R 0 _ R1 (by omega)).P ?_;rintro e ZR⟨a0,n0,c0,f0,a1,n1,c1,f1,rfl,ZN,q2,hq2,ZP,L⟩;have ex:=L.size;have ZQ:=(BS ZR).alloc ly (N #[Y a0 n0 c0,Y a1 n1 c1] 29);have B2:=ZL.k (L.aa (by omega) ZL.size);have C:Hid (PSt w R (z (B ZO)) (z (B ZR)) a0 n0 c0 f0 a1 n1 c1 f1 (Y Z 0 0) (Y Z 0 0) (ZV ZR (N #[Y a0 n0 c0,Y a1 n1 c1] 29))):=⟨B2.k (ZQ.P B2.size),ZN.agr (de ZQ ly),(ZQ.p (z (B w)) (by omega)).k ((L.p (z (B w)) (by omega) (by omega)).k K1),gM ZR _,by omega,ZT,ex⟩
 have f:=ae (ZP.aa ZQ ly);clear ZN ZP L B2 ZQ R1 ZL K1;go_wp2_with fail;generalize World.alloc ZR _=WX at C f ⊢;generalize (z (B ZR))=b at C ⊢;refine(dH R _ _ f (by omega)).P ?_;rintro e w3⟨nm,rfl,fd,hR,o⟩;replace C:=ae (C.on o);replace f:=ae hR;clear o hR;go_wp2_with fail;refine(ay R _ 10 _ f (by omega) (by omega) (by omega)).P ?_;rintro e w4⟨z4,rfl,h40,h41,hR,o⟩;replace C:=ae (C.on o);replace f:=ae hR;clear o hR fd;go_upto_if 16 with fail;go_cut [7] (λs wx=>∃(t:F_) (q:Nat),s=U t/\q<=q2+5/\Hid (Rd wx R q)/\Hid (PSt w R (z (B ZO)) b a0 n0 c0 f0 a1 n1 c1 f1 (Y Z 0 0) (Y Z 0 0) wx));case first =>
  by_cases h4:z4=0;{subst h4;obtain⟨y0,ZM⟩:=cR C.sb;go_wp2_with fail;refine(iz R _ (z (B ZO)) n0 c0 n1 c1 a0 f0 a1 f1 _ f (by omega) ZT C.sp).P ?_;rintro e w5⟨nm2,rfl,q5,hq5,hR,o⟩;clear y0 ZM;replace C:=ae (C.on o);replace f:=ae hR;clear o hR;go_wp2;go_meet;exact⟨_,_,rfl,by omega,f,C⟩};{go_wp2;go_meet;exact⟨_,_,rfl,by omega,f,C⟩}
 case rest =>
 clear C f;obtain⟨t,q,rfl,hq,f,C⟩:=hcut;go_wp2_with fail;refine(ay R _ 12 _ f (by omega) (by omega) (by omega)).P ?_;rintro e w6⟨z6,rfl,ld,aq,hR,o⟩;replace C:=ae (C.on o);replace f:=ae hR;clear o hR;have hlo:=C.hR;have r:=ae C.sp;by_cases h6:z6=0;case' neg =>go_wp2_with fail;refine(ay R _ 20 _ f (by omega) (by omega) (by omega)).P ?_;rintro e w6⟨z7,rfl,h70,h71,hR,o⟩;replace r:=ae (r.agr (o.agr ZT));replace C:=ae (C.on o);replace f:=ae hR;clear o hR ld aq;have mark:=True.intro;by_cases h7:z7=0
 all_goals
  (try subst h6)
  (try subst h7)
  obtain⟨y0,ZM⟩:=cR C.sb;go_wp2_with fail;clear y0 ZM;refine wp_region_held_drew (S:=λV=>ZW V (T b 0 Z)=Q _/\ZW V (T b 1 Z)=Q _) (by as_aux_lemma=>kernel_rfl) (cR C.sb) λ_=>?_;replace C:=ae (C.be br.drew);replace r:=ae (r.agr (de br.drew ly));replace f:=ae (f.aa br.drew ly);generalize w6.drew=v at C f r ⊢
  (try (clear mark;obtain⟨b0,rfl⟩:∃x,x=a0:=⟨_,rfl⟩;obtain⟨ZZ,rfl⟩:∃x,x=a1:=⟨_,rfl⟩;obtain⟨m0,rfl⟩:∃x,x=n0:=⟨_,rfl⟩;obtain⟨Z8,rfl⟩:∃x,x=n1:=⟨_,rfl⟩;obtain⟨G,rfl⟩:∃x,x=c0:=⟨_,rfl⟩;obtain⟨H,rfl⟩:∃x,x=c1:=⟨_,rfl⟩))
  have p:=ae (cR C.sb);repeat' first
   |(refine jQ (i:=2) (j:=4) rfl rfl (by as_aux_lemma=>kernel_rfl) (λK l=>?_) (λK l=>?_))
   |(refine jQ (i:=3) (j:=4) rfl rfl (by as_aux_lemma=>kernel_rfl) (λK l=>?_) (λK l=>?_))
   |(refine jQ (i:=4) (j:=6) rfl rfl (by as_aux_lemma=>kernel_rfl) (λK l=>?_) (λK l=>?_))
   |(refine jQ (i:=4) (j:=9) rfl rfl (by as_aux_lemma=>kernel_rfl) (λK l=>?_) (λK l=>?_))
   |(refine jQ (i:=8) (j:=9) rfl rfl (by as_aux_lemma=>kernel_rfl) (λK l=>?_) (λK l=>?_))
   |(refine wpAnyH_done (by as_aux_lemma=>kernel_rfl) ?_ _;obtain⟨r0,r1⟩:=cR C.rb;go_wp2;first|(have:=u;exact bp (v:=.tuple #[ZJ #[Y b0 m0 G,Y ZZ Z8 H],U sx,U ⟨#[120]⟩]) (by simp[results,results8,go_sem,r0,r1]) rfl ⟨_,_,_,_,_,_,_,_,_,_,rfl,r.P (by omega),C.bl⟩)|exact bp (v:=.tuple #[ZJ #[Y b0 m0 G,Y ZZ Z8 H],U t,U sx]) (by simp[results,results8,go_sem,r0,r1]) rfl ⟨_,_,_,_,_,_,_,_,_,_,rfl,r.P (by omega),C.bl⟩)
   |(go_simp;go_at_call 19;refine(ay R _ 2 _ f (by omega) (by omega) (by omega)).P ?_;rintro e v⟨ZY,rfl,bt,hz1,hR,o⟩;obtain⟨m,rfl⟩:=p9 bt;have hw20:IntKind.i64.wrap (2000+(m:Int))=2000+(m:Int):=(by rw[nL];omega);(try replace r:=ae (r.agr (o.agr ZT)));(try replace u:=ae ((o.p g (aj u) (by omega)).k u));replace C:=ae (C.on o);replace f:=ae hR;clear o hR;replace p:=ae (cR C.sb);refine l _ _ p ?_;clear l K;(try simp only[p_,z_]))
   |(go_simp;go_at_call 34;refine(Ak (z (B ZO)) n0 c0 n1 c1 a0 f0 a1 f1 m _ (by omega) (by omega) C.sp).P ?_;rintro e v⟨b0,m0,G,g0,ZZ,Z8,H,g1,rfl,hH,y⟩;replace r:=ae (hH.P C.big);(try replace u:=ae ((y.p g (aj u)).k u));replace C:=ae (C.be y);replace f:=ae (f.aa y ly);clear hH y;replace p:=ae (cR C.sb);refine l _ _ p ?_;clear l K;(try simp only[p_,z_]))
   |(go_simp;go_at_call 36;refine(fT R _ _ f (by omega)).P ?_;rintro e v⟨sx,rfl,-,q8,hq8,hR,o⟩;replace r:=ae (r.agr (o.agr ZT));replace C:=ae (C.on o);clear f o hR;replace p:=ae (cR C.sb);refine l _ _ p ?_;clear l K;(try simp only[p_,z_]))
   |(go_simp;go_at_call 35;refine(eP ⟨#[112]⟩ (2000+m) _ (by show 1*(2000+m)<=4000;omega) (by omega)).P ?_;rintro e w9⟨sx,rfl,-,hw⟩;rw[hw];clear hw;replace p:=ae (cR C.sb);refine l _ _ p ?_;clear l K;(try simp only[p_,z_]))
   |(refine aN 0 (v:=?_) rfl rfl (by as_aux_lemma=>kernel_rfl) (λ_ _ _ h=>h) rfl ?_ p ?_;rotate_left;(focus (intro wz D;obtain⟨s0,s1⟩:=D;go_simp;(try with_reducible rfl);done));(try simp only[p_,z_]))
   |(refine li 0 rfl rfl (by as_aux_lemma=>kernel_rfl) (λK l=>?_))
   |(refine aN 5 (v:=?_) rfl rfl (by as_aux_lemma=>kernel_rfl) (λ_ _ _ h=>h) rfl ?_ p ?_;rotate_left;(focus (intro wz D;obtain⟨s0,s1⟩:=D;go_simp;(try with_reducible rfl);done));(try simp only[p_,z_]))
   |(refine aN 7 (v:=?_) rfl rfl (by as_aux_lemma=>kernel_rfl) (λ_ _ _ h=>h) rfl ?_ p ?_;rotate_left;(focus (intro wz D;obtain⟨s0,s1⟩:=D;go_simp;(try with_reducible rfl);done));(try simp only[p_,z_]))
   |(refine li 5 rfl rfl (by as_aux_lemma=>kernel_rfl) (λK l=>?_))
   |(obtain⟨sx,la⟩:=Ic u m (by omega);go_simp;clear la;replace p:=ae (cR C.sb);refine l _ _ p ?_;clear l K;(try simp only[p_,z_]))
   |(have u:Hid ((ZV v (N #[U ⟨#[97]⟩,U ⟨#[122,110,101,119]⟩] 9)).heap[z (B v)]?=Q (N #[U ⟨#[97]⟩,U ⟨#[122,110,101,119]⟩] 9 (0,0))):=gM v _;go_simp;have y:=(BS v).alloc ly (N #[U ⟨#[97]⟩,U ⟨#[122,110,101,119]⟩] 9);(try replace r:=ae (r.agr (de y ly)));have hg:=C.big;replace C:=ae (C.be y);(try replace f:=ae (f.aa y ly));clear y;refine l _ (ZV v (N #[U ⟨#[97]⟩,U ⟨#[122,110,101,119]⟩] 9)) (cR C.sb) ?_;replace p:=ae (cR C.sb);clear l K;generalize (z (B v))=g at u hg ⊢;generalize ZV v (N #[U ⟨#[97]⟩,U ⟨#[122,110,101,119]⟩] 9)=v at *;(try simp only[p_,z_]))
   |(obtain⟨r0,r1⟩:=cR C.rb;obtain⟨t0,t1,l0⟩:=FJ C.rb;go_simp;clear r0 r1 t0 t1 l0;(try replace u:=ae (((qh _ (T (z (B w)) 1 Z) (Y ZZ Z8 H) g (by show g≠z (B w);omega)).k (qh v (T (z (B w)) 0 Z) (Y b0 m0 G) g (by show g≠z (B w);omega))).k u));replace r:=ae (r.agr ((fl (X:=z (B w)) (w:=v) (j:=0) (by omega) (Y b0 m0 G)).k (fl (X:=z (B w)) (j:=1) (by omega) (Y ZZ Z8 H))));replace C:=ae (C.put (Y b0 m0 G) (Y ZZ Z8 H));(try clear f);replace p:=ae (cR C.sb);refine l _ (ZU (ZU v (T (z (B w)) 0 Z) (Y b0 m0 G)) (T (z (B w)) 1 Z) (Y ZZ Z8 H)) p ?_;clear l K;generalize ZU (ZU v (T (z (B w)) 0 Z) (Y b0 m0 G)) (T (z (B w)) 1 Z) (Y ZZ Z8 H)=v at *;(try simp only[p_,z_]))
   |(go_simp;replace p:=ae (cR C.sb);refine l _ _ p ?_;clear l K;(try simp only[p_,z_]))
def DPT (w:E)(e:Ending)(b:E):Prop:=∃(a0:O_) (n0 c0:Nat) (a1:O_) (n1 c1:Nat) (t:F_) (g m c:Nat) (f:Nat->Ins),e=ZI (.tuple #[ZJ #[Y a0 n0 c0,Y a1 n1 c1],U t,ZJ #[Y (Q (T g 0 Z)) m c]])/\Q_ b g 0 m f/\m<=201/\(∀j,j<m->(f j).s.size<=5000)/\Below (z (B w)) w b
def I9{g c:Nat}{L:List I3}(h:IR w b g c L):Q_ w g 0 (A L) (cY L):=⟨h.lt.2,h.at⟩
def vR (a:O_)(n j_:Nat)(w:E)(hn:(n:Int)<=1048576)(hc:n<=j_)(ZT:ByteSl w a n):Qw Pg 7 #[Y a n j_] w λe w'=>DPT w e w':=by
 have S0:=ae ZT;clear ZT;go_enter func7,ntmps7;go_wp2_with fail;obtain⟨W0,x⟩:∃W:E,ZV (ZV w (N #[Y Z 0 0,Y Z 0 0] 29)) (N #[Y Z 0 0] 37)=W:=⟨_,rfl⟩
 obtain⟨M,-,-,hzA⟩:=nb2 x;have q:=ae x;clear x;have KA:Hid (W0.heap[z (B w)]?=Q (N #[Y Z 0 0,Y Z 0 0] 29 (0,0))):=by rw[<-q.i];have h1:=(a8 (z (B (ZV w (N #[Y Z 0 0,Y Z 0 0] 29)))) (ZV w (N #[Y Z 0 0,Y Z 0 0] 29))).alloc ly (N #[Y Z 0 0] 37);exact(h1.p (z (B w)) (by simp)).k (gM w _)
 have KB:Hid (W0.heap[z (B w)+1]?=Q (N #[Y Z 0 0] 37 (0,0))):=by rw[<-q.i];have h2:=gM (ZV w (N #[Y Z 0 0,Y Z 0 0] 29)) (N #[Y Z 0 0] 37);rw[show(z (B (ZV w (N #[Y Z 0 0,Y Z 0 0] 29))))=z (B w)+1 by simp] at h2;exact h2
 rw[q.i];clear q;refine(lR a n j_ _ hn hc (S0.i.aa M.i ly)).P ?_;rintro e w1⟨R,rfl,hRz,C,o⟩;have R1:=ae C;have hs1:=o.size;have hRl:=C.lt;have T1:=ae ((S0.i.aa M.i ly).aa o ly);have B1:=ae (M.i.k (o.P (by omega)));have K1:=ae ((o.p (z (B w)) (by omega)).k KA.i);have M1:=ae ((o.p (z (B w)+1) (by omega)).k KB.i);clear C o M KA KB;go_wp2_with fail;refine(od a n j_ _ hn hc T1.i).P ?_;rintro e b⟨a0,n0,c0,f0,a1,n1,c1,f1,t,tx,rfl,-,D⟩;have bt:=D.size;obtain⟨ZS,u⟩:∃W:E,ZV b (N #[Y a0 n0 c0,Y a1 n1 c1] 29)=W:=⟨_,rfl⟩
 obtain⟨H,ZM,-⟩:=nb1 u;replace H:=H.i;have ZY:=ae u;clear u;have Z8:=ae (D.k (H.P bt));have R6:=ae (R1.i.aa Z8.i ly);have ZL:=ae (B1.i.k (Z8.i.P (by omega)));have K6:=ae ((Z8.i.p (z (B w)) (by omega)).k K1.i);have M6:=ae ((Z8.i.p (z (B w)+1) (by omega)).k M1.i);clear D H Z8 R1 B1 K1 M1 T1;go_wp2_with fail;rw[ZY.i];clear ZY;have SB:Hid (∀V:E,V.heap[z (B b)]?=Q (N #[Y a0 n0 c0,Y a1 n1 c1] 29 (0,0))->V.heap[z (B b)]?=Q (N #[Y a0 n0 c0,Y a1 n1 c1] 29 (0,0))/\ZW V (T (z (B b)) 0 Z)=Q (Y a0 n0 c0)/\ZW V (T (z (B b)) 1 Z)=Q (Y a1 n1 c1)):=λV h=>⟨h,by simp[World.cell?,h],by simp[World.cell?,h]⟩
 refine wp_region_held_drew (S:=λV=>V.heap[z (B b)]?=Q (N #[Y a0 n0 c0,Y a1 n1 c1] 29 (0,0))/\ZW V (T (z (B b)) 0 Z)=Q (Y a0 n0 c0)/\ZW V (T (z (B b)) 1 Z)=Q (Y a1 n1 c1)) (by as_aux_lemma=>kernel_rfl) (SB.i ZS ZM.i) λZT=>?_;have j:=ae ZT;clear ZT;have ex:=aj ZM.i;have hs6:=ZL.i.size;have ZR:Hid (zt R ZS ZS.drew):=zt.l br.drew;have ZN:=ae (R6.i.aa br.drew ly);generalize ZS.drew=v0 at ZR ZN j ⊢;iterate 3
  refine aN 0 (v:=?_) rfl rfl (by as_aux_lemma=>kernel_rfl) (λ_ _ _ h=>h) rfl ?_ j.i ?_;rotate_left
  ·(rintro wz⟨s0,s1,s2⟩;go_simp)
   (try with_reducible rfl)
  (try simp only[p_,z_])
 refine aL (i:=3) rfl (by as_aux_lemma=>kernel_rfl) λK l=>?_;go_simp;go_at_call 30;refine(pF R _ _ ZN.i (by omega)).P ?_;rintro e r⟨L,g,c,rfl,O,-,ZZ,ZQ,q4,hq4,-,hO⟩;have hgb:=O.lt.1;have h06:=ZR.i.size;have s:=ZR.i.k hO;have G:=ae (I9 O);have X:=ae (iI ZQ);have BE:=ae (ZL.i.k (s.aa (by omega) ZL.i.size));have KE:=ae ((s.p (z (B w)) (aj K6.i) (by omega)).k K6.i);have ME:=ae ((s.p (z (B w)+1) (aj M6.i) (by omega)).k M6.i);have SE:=ae ((s.p (z (B b)) ex (by omega)).k ZM.i);clear O ZQ hO s j ZN ZR;have j:=ae (SB.i r SE.i);refine l _ _ j.i ?_;clear l K
 (try simp only[p_,z_])
 generalize (A L)=m at ZZ G X ⊢;generalize cY L=f at G X;have kr:=KE.i;have r0:ZW r (T (z (B w)) 0 Z)=Q (Y Z 0 0):=by simp[World.cell?,kr]
 have r1:ZW r (T (z (B w)) 1 Z)=Q (Y Z 0 0):=by simp[World.cell?,kr]
 have ZO:ZX r (T (z (B w)) 0 Z)=ZA:=by simp[World.frozen?,kr]
 have t1:ZX r (T (z (B w)) 1 Z)=ZA:=by simp[World.frozen?,kr]
 have l0:=aj kr;clear kr;refine aL (i:=4) rfl (by as_aux_lemma=>kernel_rfl) λK l=>?_;go_simp;clear r0 r1 ZO t1 l0 j;have KF:=ae (yw (v0:=Y a0 n0 c0) (v1:=Y a1 n1 c1) KE.i);have BF:=ae ((BE.i.setCell (p:=(T (z (B w)) 0 Z)) ly (Y a0 n0 c0)).setCell (p:=(T (z (B w)) 1 Z)) ly (Y a1 n1 c1));have P:=ae (((qh _ (T (z (B w)) 1 Z) (Y a1 n1 c1) (z (B b)) (by show (z (B b))≠z (B w);omega)).k (qh r (T (z (B w)) 0 Z) (Y a0 n0 c0) (z (B b)) (by show (z (B b))≠z (B w);omega))).k SE.i);have MF:=ae (((qh _ (T (z (B w)) 1 Z) (Y a1 n1 c1) (z (B w)+1) (by show (z (B w))+1≠z (B w);omega)).k (qh r (T (z (B w)) 0 Z) (Y a0 n0 c0) (z (B w)+1) (by show (z (B w))+1≠z (B w);omega))).k ME.i);have IF:=ae ((G.i.setOther (T (z (B w)) 0 Z) (by show (z (B w))≠g;omega) (Y a0 n0 c0)).setOther (T (z (B w)) 1 Z) (by show (z (B w))≠g;omega) (Y a1 n1 c1));clear BE KE ME SE G;generalize World.setCell (World.setCell r _ _) _ _=y at *;have j:=ae (SB.i y P.i);refine l _ _ j.i ?_;clear l K
 (try simp only[p_,z_])
 refine aL (i:=5) rfl (by as_aux_lemma=>kernel_rfl) λK l=>?_;go_simp;refine l _ _ j.i ?_;clear l K
 (try simp only[p_,z_])
 have kr:=MF.i;have r0:ZW y (T (z (B w)+1) 0 Z)=Q (Y Z 0 0):=by simp[World.cell?,kr]
 have ZO:ZX y (T (z (B w)+1) 0 Z)=ZA:=by simp[World.frozen?,kr]
 have l0:=aj kr;have M0:Hid (ZW (ZU y (T (z (B w)+1) 0 Z) (Y (Q (T g 0 Z)) m c)) (T (z (B w)+1) 0 Z)=Q (Y (Q (T g 0 Z)) m c)):=BO _ _ _ (by rw[r0];rfl);clear kr;refine aL (i:=6) rfl (by as_aux_lemma=>kernel_rfl) λK l=>?_;go_simp;clear r0 ZO l0 j;have KG:=ae ((qh y (T (z (B w)+1) 0 Z) (Y (Q (T g 0 Z)) m c) (z (B w)) (by show (z (B w))≠z (B w)+1;omega)).k KF.i);have BG:=ae (BF.i.setCell (p:=(T (z (B w)+1) 0 Z)) (BV _) (Y (Q (T g 0 Z)) m c));have SG:=ae ((qh y (T (z (B w)+1) 0 Z) (Y (Q (T g 0 Z)) m c) (z (B b)) (by show (z (B b))≠z (B w)+1;omega)).k P.i);have IG:=ae (IF.i.setOther (T (z (B w)+1) 0 Z) (by show (z (B w))+1≠g;omega) (Y (Q (T g 0 Z)) m c));clear KF BF P IF MF;generalize World.setCell y _ _=ZP at *;have j:=ae (SB.i ZP SG.i);refine l _ _ j.i ?_;clear l K
 (try simp only[p_,z_])
 refine wpAnyH_done (by as_aux_lemma=>kernel_rfl) ?_ _;have kr:=KG.i;have r0:ZW ZP (T (z (B w)) 0 Z)=Q (Y a0 n0 c0):=by simp[World.cell?,kr]
 have r1:ZW ZP (T (z (B w)) 1 Z)=Q (Y a1 n1 c1):=by simp[World.cell?,kr]
 have r2:=M0.i;clear kr;go_wp2;exact bp (v:=.tuple #[ZJ #[Y a0 n0 c0,Y a1 n1 c1],U t,ZJ #[Y (Q (T g 0 Z)) m c]]) (by simp[results,results7,go_sem,r0,r1,r2]) rfl ⟨_,_,_,_,_,_,_,g,m,c,f,rfl,IG.i,ZZ,X.i,BG.i⟩
