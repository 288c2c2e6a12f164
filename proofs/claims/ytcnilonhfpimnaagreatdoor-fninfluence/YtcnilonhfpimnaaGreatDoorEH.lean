import Derived.Test.YtcnilonhfpimnaaGreatDoorEE
import Derived.Test.YtcnilonhfpimnaaGreatDoorEF
import Derived.Test.YtcnilonhfpimnaaGreatDoorEB
set_option linter.all false
set_option maxRecDepth 100000
set_option maxHeartbeats 8000000
open Go renaming Addr.mk->T,Value.slice->Z,Value.string->U,Value.int->J,Value.agg->ZJ,Obj.cells->N,IntKind.i64->I,World->E,Value->ZB,TypeId->ZK,Ending.returned->ZI,World.heap->B,World.alloc->ZU,World.cell?->ZV,World.frozen?->ZW,Proofs.Tryz.prog->Pg
open Option renaming none->Y,some->Q
open Bool renaming false->ZA
open Array renaming size->z
open List renaming length->A
namespace Go.Proofs.YtcnilonhfpimnaaGreatDoor.Vp
open Tryz RowKit Ca
variable {b g:Nat}{w V:E}{t:ZK}{u0 u1:ZB}
def oW (R p b0 n0 c0 n1 c1:Nat)(a0:O_)(f0:Nat->Source)(a1:O_)(f1:Nat->Target)(w:E)(hR:Rd w R p)(hp:p<=19900)(hH:HSp b0 w a0 n0 f0 a1 n1 f1)(hg:∀i,i<n1->1<=(f1 i).h/\(f1 i).h<=200)(hm0:n0<=250)(hm1:n1<=250):Calls Pg 22 #[.pointer (Q (T R 0 Y)),ZJ #[Z a0 n0 c0,Z a1 n1 c1]] w λe w'=>DH w R (p+1100) e w':=by
 have HR:=ae hR;have J6:=hR.lt;obtain⟨hs,ht⟩:=hH.sl w (Agr.refl _ _);have HF:=ae hH.aq;have HG:=ae hg;have l:=ae hs;have HT:=ae ht;clear hs ht hH hg hR;obtain⟨Kf,hi,Kp,J8,Kh⟩:=NP jn;obtain⟨GS,ZY,Bk,JJ,JH⟩:=NP fw;obtain⟨W,hW⟩:∃W:E,ZU (ZU w (N #[Z a0 n0 c0,Z a1 n1 c1] 29)) (N #[Z Y 0 0,Z Y 0 0] 29)=W:=⟨_,rfl⟩
 obtain⟨A0,-,KR,Kl⟩:=nb2 hW;have HW:=ae hW;clear hW;go_enter func22,ntmps22;go_wp2_with fail;rw[HW.i];clear HW;refine(fH a0 n0 c0 f0 a1 n1 c1 f1 ⟨#[]⟩ W (by omega) (by omega) (l.aa A0 ly) (HT.aa A0 ly) (λi hi=>by have:=(HF i hi).1;unfold aP;omega)).P ?_;rintro e ZZ⟨v0,v1,o,rfl,sm,Id,hM,ur⟩;obtain⟨a2,c2,rfl⟩:=aJ sm;obtain⟨a5,c5,rfl⟩:=aJ Id.u;have G1:=ae (yt hM HF);have N1:=ae (Ia hM HG);have J0:=qL hM;have JR:=gO f0 ⟨#[]⟩ n0;clear hM l HT HF HG;generalize Qz f0 ⟨#[]⟩ n0=ZT at sm JR ⊢;have hsz:=ur.size;have X1:=ae (oD (rr:=z (B w)+1) (base:=z (B w)+2) ((ur.p _ (by omega)).k KR) (by omega) (by omega) (by omega) sm Id);have B1:=ae ((A0.k (ur.P (by omega))).alloc (by omega) (N #[Z a2 (A ZT) c2,Z a5 (A o) c5] 29));clear sm Id ur A0 KR;have R1:=ae (HR.low B1 (by omega));have O1:Hid (zt R w (ZU ZZ (N #[Z a2 (A ZT) c2,Z a5 (A o) c5] 29))):=zt.l B1;go_wp2_with fail;generalize World.alloc ZZ _=W2 at X1 B1 R1 O1 ⊢;refine(ay R p 8 _ R1 (by omega) (by omega) (by omega)).P ?_;rintro e s⟨ZX,rfl,hz0',hz1',JU,JM⟩;have m:=ae (X1.ac JM (by omega));have R2:=ae JU;have O2:=ae (O1.k JM);clear JU JM X1 R1 O1 B1 Kl HR;obtain⟨ZM,ZN⟩:=m.cells;obtain⟨bt,aq⟩:=m.open
 have la:=m.lt;go_upto_block 0 with fail;go_cut [6,7] (λ_ _ wx=>∃(b0:O_) (m0 k0:Nat) (g0:Nat->Source) (b1:O_) (m1 k1:Nat) (g1:Nat->Target) (q':Nat),q'<=p+1100/\Hid (wx.heap[z (B ZZ)]?=Q (N #[Z b0 m0 k0,Z b1 m1 k1] 29 (0,0)))/\Hid (wx.heap[z (B w)+1]?=Q (N #[Z Y 0 0,Z Y 0 0] 29 (0,0)))/\Hid (HSp (z (B w)+2) wx b0 m0 g0 b1 m1 g1)/\Hid (Rd wx R q')/\Hid (zt R w wx));case first =>
  have Kj:ZX=0\/ZX=1\/ZX=2\/ZX=3\/ZX=4\/ZX=5\/ZX=6\/ZX=7:=by omega
  rcases Kj with rfl|rfl|rfl|rfl|rfl|rfl|rfl|rfl
  ·go_wp2_with fail;have J5:=m.hi;refine aI (BxS (Z a2 (A ZT) c2) (Z a5 (A o) c5) (z (B ZZ))) 11 (by kernel_rfl) ?_;have l:=ae (i8 (W:=s.drew) m.ab);iterate 2
    refine aO 0 (v:=?_) rfl rfl (by kernel_rfl) (λ_ _ _ h=>h) rfl ?_ l ?_;rotate_left
    ·(rintro wz⟨s0,s1⟩;go_simp)
     (try with_reducible rfl)
    (try simp only[Act.put,z_])
   refine aO 3 (v:=?_) rfl rfl (by kernel_rfl) (λ_ _ _ h=>h) rfl ?_ l ?_;rotate_left
   ·(rintro wz⟨s0,s1⟩;go_simp)
    (try with_reducible rfl)
   (try simp only[Act.put,z_])
   refine pu (i:=2) (j:=4) rfl rfl (by kernel_rfl) (λK b=>?h1) (λK b=>?h2);case' h1 =>
    go_simp;have BQ:=ae (((BS s).alloc ly (N #[U ⟨#[97]⟩,U ⟨#[122,122]⟩,U ⟨#[]⟩,U ⟨#[120,32,121]⟩,U ⟨#[116,48]⟩] 9)).drew);have XQ:=ae (m.aa BQ ly);have RQ:=ae (R2.aa BQ ly);have OQ:=ae (O2.then (BQ.P (by omega)));have JL:=gM s (N #[U ⟨#[97]⟩,U ⟨#[122,122]⟩,U ⟨#[]⟩,U ⟨#[120,32,121]⟩,U ⟨#[116,48]⟩] 9);have JT:Hid ((ZU s (N #[U ⟨#[97]⟩,U ⟨#[122,122]⟩,U ⟨#[]⟩,U ⟨#[120,32,121]⟩,U ⟨#[116,48]⟩] 9)).drew.heap[z (B s)]?=Q (N #[U ⟨#[97]⟩,U ⟨#[122,122]⟩,U ⟨#[]⟩,U ⟨#[120,32,121]⟩,U ⟨#[116,48]⟩] 9 (0,0))):=JL;have Kc:z (B s)<(ZU s (N #[U ⟨#[97]⟩,U ⟨#[122,122]⟩,U ⟨#[]⟩,U ⟨#[120,32,121]⟩,U ⟨#[116,48]⟩] 9)).drew.heap.size:=aj JL;clear JL l;refine b _ _ (λ_=>i8 XQ.ab) ?_;clear b K
    (try simp only[Act.put,z_])
    refine ai (i:=4) rfl (by kernel_rfl) λK b=>?_;go_simp;go_at_call 19;refine(ay R _ 5 _ RQ (by omega) (by omega) (by omega)).P ?_;rintro e WL⟨z3,rfl,ex,At,O,H⟩;obtain⟨m3,rfl⟩:=p9 ex;have X4:=ae (XQ.ac H (by omega));have R4:=ae O;have O4:=ae (OQ.k H);obtain⟨sx,DQ⟩:=oE ((H.p (z (B s)) Kc (by omega)).k JT) m3 (by omega);clear O H JT XQ RQ OQ;refine b _ _ (λ_=>i8 X4.ab) ?_;clear b K
    (try simp only[Act.put,z_])
   case' h2 =>
    go_simp;go_at_call 19;refine(ay R _ 5 _ (R2.aa br.drew ly) (by omega) (by omega) (by omega)).P ?_;rintro e G⟨z3,rfl,ex,At,O,H⟩;obtain⟨m3,rfl⟩:=p9 ex;have X:Hid (zt R s G):=(zt.l br.drew).k H;have D:=ae (m.ac X (by omega));have R3:=ae O;have O3:=ae (O2.k X);clear O H X l;have l:=ae (i8 D.ab);refine b _ _ (λ_=>l) ?_;clear b K
    (try simp only[Act.put,z_])
    have hxl4:=D.lt;refine ai (i:=2) rfl (by kernel_rfl) λK b=>?_;go_simp;have BQ:=ae ((BS G).alloc ly (N #[U ⟨#[97]⟩,U ⟨#[122,122]⟩,U ⟨#[]⟩,U ⟨#[120,32,121]⟩,U ⟨#[116,48]⟩] 9));have X4:=ae (D.aa BQ ly);have R4:=ae (R3.aa BQ ly);have O4:=ae (O3.then (BQ.P (by omega)));obtain⟨sx,DQ⟩:=oE (gM G (N #[U ⟨#[97]⟩,U ⟨#[122,122]⟩,U ⟨#[]⟩,U ⟨#[120,32,121]⟩,U ⟨#[116,48]⟩] 9)) m3 (by omega);refine b _ _ (λ_=>i8 X4.ab) ?_;clear b K BQ l
    (try simp only[Act.put,z_])
    generalize World.alloc G _=WL at X4 R4 O4 DQ ⊢
   all_goals
    have hm5:m3<5:=by omega
    have SQ:=ae X4.Qz;have l:=ae (SQ WL (λj ZY _=>rfl))
    iterate 3
     refine bV 5 rfl rfl (by kernel_rfl) λK b=>?_;go_simp;refine b _ _ (λ_=>l) ?_;clear b K
     (try simp only[Act.put,z_])
    have DE:=X4.lt;have hxi3:=X4.hi;refine ai (i:=8) rfl (by kernel_rfl) λK b=>?_;go_simp;have AB:=ae ((BS WL).alloc ly (N #[U sx,U ⟨#[]⟩] 82));have ZL:=ae (X4.aa AB ly);have hz6:=AB.size;refine b _ _ (λ_=>SQ _ (λj ZY _=>AB.p j ZY)) ?_;clear b K l
    (try simp only[Act.put,z_])
    refine ai (i:=9) rfl (by kernel_rfl) λK b=>?_;refine aU rfl (.tmp 28) (.tmp 35) 26 rfl (z (B w)+2) 82 Kf (ZJ #[U ⟨#[]⟩,U ⟨#[]⟩]) 2 32 QH hi Kp J8 Kh rfl (by decide) (Z a2 (A ZT) c2) (A ZT) (ZT.flatMap bF) (by simp[Act.eval]) ZL.src (T (z (B WL)) 0 Y) 1 1 (bF ⟨sx,⟨#[]⟩⟩) (by simp[Act.eval]) rfl (λj u hu=>df WL _ _ _ j u hu) (by simp[bF,Value.oneCell']) (by unfold maxLen;omega) (by omega) (by omega) ?_;intro v' w7 C y _;obtain⟨a7,c7,rfl⟩:=aJ C;have S7:=ae (SQ w7 (λj ZY mv=>(y.p j (lj ZY AB.size) mv).k (AB.p j ZY)));obtain⟨c8,b8⟩:=ZL.addS (x:=⟨sx,⟨#[]⟩⟩) C y;have X9:=ae c8;have B9:=ae b8;clear C y c8 b8;refine b _ _ (λ_=>S7) ?_;clear b K
    (try simp only[Act.put,z_])
    refine ai (i:=10) rfl (by kernel_rfl) λK b=>?_;go_simp;refine b _ _ (λ_=>S7) ?_;clear b K
    (try simp only[Act.put,z_])
    obtain⟨s7,t7⟩:=S7.i;have f7:ZW w7 (T (z (B ZZ)) 0 Y)=ZA:=by simp[World.frozen?,s7]
    have l7:=aj s7;clear s7;refine ai (i:=11) rfl (by kernel_rfl) λK b=>?_;go_simp;refine b _ _ (λh=>absurd rfl h) ?_;clear b K
    (try simp only[Act.put,z_])
    refine ba (by kernel_rfl) ?_ _;have BB:=ae ((AB.P (show (z (B w))+2<=z (B WL) by omega)).k B9.i);have R9:=ae (R4.low BB (by omega));have O9:=ae (O4.then (BB.P (by omega)));clear t7 f7 l7 DQ;go_simp;generalize World.setCell w7 _ _=W9 at X9 R9 O9 ⊢;have ZR:=ae X9.ab;have ZS:=ae X9.res;have M:=ae (fJ X9.src (by simp) X9.w rfl (by rw[cM];exact(by omega:A ZT+1<=300)) (by omega) G1);clear ZM ZN bt aq;go_wp2;go_meet;exact⟨_,_,_,_,_,_,_,_,_,by omega,ZR,ZS,M,R9,O9⟩
  ·by_cases hl:1<(A o:Int)
   ·obtain⟨t,rfl⟩:=ko m.w.u (by omega)
    obtain⟨r0,r1,RR,rfl⟩:∃r0 r1 RR,o=r0::r1::RR:=(by
     match o,hl with
     |[],h=>simp at h
     |[_],h=>simp at h
     |r0::r1::RR,_=>exact⟨r0,r1,RR,rfl⟩)
    have ld:(r0::r1::RR).length<=250:=by omega
    obtain⟨ka,JQ⟩:=bA m.w.u (j:=0) (u:=U r0.1.e) rfl;obtain⟨kb,JS⟩:=bA m.w.u (j:=1) (u:=Z (Q (T r0.2.1 0 Y)) r0.1.h r0.2.2) rfl;obtain⟨kc,JN⟩:=bA m.w.u (j:=2) (u:=U r1.1.e) rfl;obtain⟨kd,Fk⟩:=bA m.w.u (j:=3) (u:=Z (Q (T r1.2.1 0 Y)) r1.1.h r1.2.2) rfl;have n8:=(m.w.u.lt t rfl).2;generalize ZO:(r0::r1::RR).length=nt at ZN m hl ld J0 ⊢;have HL:=ae ZO;clear ZO;have JI:0<nt:=by omega
    have Kn:1<nt:=by omega
    have BA:=ae ((BS s).alloc ly (N #[U r0.1.e,Z (Q (T r0.2.1 0 Y)) r0.1.h r0.2.2] 86));have ZL:=ae (m.aa BA ly);have RA:=ae (R2.aa BA ly);have J5:=m.hi;have OA:=ae (O2.then (BA.P (by omega)));have cc:∀j,ZV (ZU s (N #[U r0.1.e,Z (Q (T r0.2.1 0 Y)) r0.1.h r0.2.2] 86)) (T t j Y)=ZV s (T t j Y):=λj=>BA.O (p:=(T t j Y)) n8;have cf:∀j,ZW (ZU s (N #[U r0.1.e,Z (Q (T r0.2.1 0 Y)) r0.1.h r0.2.2] 86)) (T t j Y)=ZW s (T t j Y):=λj=>BA.frozen (p:=(T t j Y)) n8;have KA:=ae ((cc 0).k ka);have Hx:=ae ((cf 0).k JQ);have KB:=ae ((cc 1).k kb);have JG:=ae ((cf 1).k JS);have KC:=ae ((cc 2).k kc);have JO:=ae ((cf 2).k JN);have KD:=ae ((cc 3).k kd);have JV:=ae ((cf 3).k Fk);have KX:Hid ((ZU s (N #[U r0.1.e,Z (Q (T r0.2.1 0 Y)) r0.1.h r0.2.2] 86)).heap[z (B s)]?=Q (N #[U r0.1.e,Z (Q (T r0.2.1 0 Y)) r0.1.h r0.2.2] 86 (0,0))):=gM s _;have JY:t≠z (B s):=by omega
    have J7:=BA.size;clear cc cf;go_wp2_with fail;generalize World.alloc s _=WA at ZL RA OA KA Hx KB JG KC JO KD JV KX J7 ⊢;have Fm:=ZL.cells.2;clear ka JQ kb JS kc JN kd Fk BA ZM ZN bt aq;refine aI (λV=>ZV V (T (z (B ZZ)) 1 Y)=Q (Z (Q (T t 0 Y)) nt c5)/\ZV V (T t 2 Y)=Q (U r1.1.e)/\ZV V (T t 3 Y)=Q (Z (Q (T r1.2.1 0 Y)) r1.1.h r1.2.2)) 7 (by kernel_rfl) ?_;have l:Hid (WA.drew.cell? (T (z (B ZZ)) 1 Y)=Q (Z (Q (T t 0 Y)) nt c5)/\WA.drew.cell? (T t 2 Y)=Q (U r1.1.e)/\WA.drew.cell? (T t 3 Y)=Q (Z (Q (T r1.2.1 0 Y)) r1.1.h r1.2.2)):=⟨Fm,KC,KD⟩
    iterate 6
     refine aO 0 (v:=?_) rfl rfl (by kernel_rfl) (λ_ _ _ h=>h) rfl ?_ l ?_;rotate_left
     ·(rintro wz⟨s0,s1,s2⟩;go_simp)
      (try with_reducible rfl)
     (try simp only[Act.put,z_])
    refine ai (i:=6) rfl (by kernel_rfl) λK b=>?_;go_simp;refine b _ _ (λ_=>l) ?_;clear b K
    (try simp only[Act.put,z_])
    have z0:=Hx.i;have z1:=JG.i;have y0:=KA.i;have y1:=KB.i;have hgtA:t<z (B WA):=by omega
    refine ai (i:=7) rfl (by kernel_rfl) λK b=>?_;go_simp;refine b _ _ (λh=>absurd rfl h) ?_;clear b K
    (try simp only[Act.put,z_])
    refine ba (by kernel_rfl) ?_ _;go_simp;have SW:=ae (((ZL.sw HL.c).set 0 (U r1.1.e)).set 1 (Z (Q (T r1.2.1 0 Y)) r1.1.h r1.2.2)).drew;have qr:=(ZL.w.u.lt t rfl).1;have BW:=ae ((((a8 (z (B w)+2) WA).setCell (p:=(T t 0 Y)) qr (U r1.1.e)).setCell (p:=(T t 1 Y)) qr (Z (Q (T r1.2.1 0 Y)) r1.1.h r1.2.2)).drew);have kx:((WA.setCell (T t 0 Y) (U r1.1.e)).setCell (T t 1 Y) (Z (Q (T r1.2.1 0 Y)) r1.1.h r1.2.2)).drew.heap[z (B s)]?=Q (N #[U r0.1.e,Z (Q (T r0.2.1 0 Y)) r0.1.h r0.2.2] 86 (0,0)):=((qh _ (T t 1 Y) _ (z (B s)) (λe=>JY (Eq.symm e))).k (qh _ (T t 0 Y) _ (z (B s)) (λe=>JY (Eq.symm e)))).k KX;clear l z0 z1 y0 y1 KA Hx KB JG KC JO KD JV KX Fm;generalize World.drew (World.setCell (World.setCell WA _ _) _ _)=WB at SW BW kx ⊢;obtain⟨kc,JN⟩:=bA SW.u (j:=2) (u:=U r1.1.e) rfl;obtain⟨kd,Fk⟩:=bA SW.u (j:=3) (u:=Z (Q (T r1.2.1 0 Y)) r1.1.h r1.2.2) rfl;have n9:=SW.ab;have kv:ZV WB (T (z (B ZZ)) 1 Y)=Q (Z (Q (T t 0 Y)) nt c5):=by simp[World.cell?,n9]
    have P:ZV WB (T (z (B s)) 0 Y)=Q (U r0.1.e):=by simp[World.cell?,kx]
    have x1:ZV WB (T (z (B s)) 1 Y)=Q (Z (Q (T r0.2.1 0 Y)) r0.1.h r0.2.2):=by simp[World.cell?,kx]
    have hgtB:t<z (B WB):=(SW.u.lt t rfl).2;have kv0:ZV WB (T (z (B ZZ)) 0 Y)=Q (Z a2 (A ZT) c2):=by simp[World.cell?,n9]
    have l1:=aj n9;have Ki:¬ t=z (B ZZ):=by intro e;obtain⟨Kk,JK⟩:=eo SW.u t rfl;rw[e] at JK;have h3:=n9.c.k JK;cases h3
    have hg1':¬ (z (B ZZ))=t:=λe=>Ki e.c;have ro:=ae ((SW.set 2 (U r0.1.e)).set 3 (Z (Q (T r0.2.1 0 Y)) r0.1.h r0.2.2))
    have M:=ae (ro.fin rfl (L:=r1::r0::RR) (by rw[<-pE];rfl) HL.c (by omega) (by have:=HL.i;simp only[vF] at this ⊢;omega) (by
     intro r hr;simp only[vG] at hr ⊢;rcases hr with h|h|h;{exact .inr (.inl h)};{exact .inl h}
     ·exact .inr (.inr h)) G1)
    have BF:=ae ((BW.setCell (p:=(T t 2 Y)) qr (U r0.1.e)).setCell (p:=(T t 3 Y)) qr (Z (Q (T r0.2.1 0 Y)) r0.1.h r0.2.2));have R9:=ae (RA.low BF (by omega));have O9:=ae (OA.then (BF.P (show (z (B w))<=z (B w)+2 by omega)));have ZR:=ae ro.ab;have ZS:=ae ro.res;clear n9 kx SW ro BF BW ZL RA OA;go_wp2;go_meet;exact⟨_,_,_,_,_,_,_,_,_,by omega,ZR,ZS,M,R9,O9⟩
   {skip;have ZR:=ae m.ab;have ZS:=ae m.res;have M:=ae (fJ m.src rfl m.w rfl (by omega) (by omega) G1);go_wp2;go_meet;exact⟨_,_,_,_,_,_,_,_,_,by omega,ZR,ZS,M,R2,O2⟩}
  ·by_cases hl:0<(A o:Int)
   ·go_wp2_with fail;obtain⟨t,rfl⟩:=ko m.w.u (by omega)
    obtain⟨r0,RR,rfl⟩:∃r0 RR,o=r0::RR:=(by
     match o,hl with
     |[],h=>simp at h
     |r0::RR,_=>exact⟨r0,RR,rfl⟩)
    have ld:(r0::RR).length<=250:=by omega
    have kb:=(bA m.w.u (j:=1) (u:=Z (Q (T r0.2.1 0 Y)) r0.1.h r0.2.2) rfl).1;have n8:=(m.w.u.lt t rfl).2;have qr:=(m.w.u.lt t rfl).1;have AC:=ae (m.w.q r0 (SD ..));have Ke:=N1.i r0 (SD ..);have Ka:=ae (G1 r0 (SD ..)).2;generalize ZO:(r0::RR).length=nt at ZN m hl ld J0 ⊢;have HL:=ae ZO;clear ZO;have JI:0<nt:=by omega
    have hRb:R<z (B w)+2:=by omega
    refine aI (λV=>V.heap[z (B ZZ)]?=Q (N #[Z a2 (A ZT) c2,Z (Q (T t 0 Y)) nt c5] 29 (0,0))/\ZV V (T (z (B ZZ)) 1 Y)=Q (Z (Q (T t 0 Y)) nt c5)/\ZV V (T t 1 Y)=Q (Z (Q (T r0.2.1 0 Y)) r0.1.h r0.2.2)) 11 (by kernel_rfl) ?_;have l:Hid (s.drew.heap[z (B ZZ)]?=Q (N #[Z a2 (A ZT) c2,Z (Q (T t 0 Y)) nt c5] 29 (0,0))/\s.drew.cell? (T (z (B ZZ)) 1 Y)=Q (Z (Q (T t 0 Y)) nt c5)/\s.drew.cell? (T t 1 Y)=Q (Z (Q (T r0.2.1 0 Y)) r0.1.h r0.2.2)):=⟨m.ab,ZN,kb⟩
    iterate 8
     refine aO 0 (v:=?_) rfl rfl (by kernel_rfl) (λ_ _ _ h=>h) rfl ?_ l ?_;rotate_left
     ·(rintro wz⟨s0,s1,s2⟩;go_simp)
      (try with_reducible rfl)
     (try simp only[Act.put,z_])
    refine ai (i:=8) rfl (by kernel_rfl) λK b=>?_;go_simp;go_at_call 51;refine(xA R _ r0.2.1 r0.2.2 r0.1.h r0.1.q _ (R2.aa br.drew ly) (by omega) (AC.1.aa br.drew ly) Ke Ka).P ?_;rintro e G⟨L3,g3,d3,rfl,th,_,hL3,Km,q3,hq3,O,H⟩;have X:Hid (zt R s G):=(zt.l br.drew).k H;have D:=ae (m.ac X (by omega));have R3:=ae O;have O3:=ae (O2.k X);have JW:ZV G (T t 1 Y)=Q (Z (Q (T r0.2.1 0 Y)) r0.1.h r0.2.2):=(X.O t 1 n8 (by omega)).k kb;have z3:ZW G (T t 1 Y)=ZA:=by obtain⟨Kk,hc⟩:=D.w.type t rfl;simp[World.frozen?,hc]
    have hgt3:=lj n8 X.size;have SA:=ae (D.setA (n:=A L3) (g:=g3) (c:=d3) (f:=cY L3) rfl HL.c (kY (by have h:=th;unfold IR at h;rw[qK] at h;exact h)).1 (jH th) (by have:z (B s)<=g3:=th.lt.1;have:=m.lt;have:=m.hi;omega) (by omega) (iI Km) (by omega) (by rw[HL.i];omega) G1);clear th O H X l;have l:=ae (show G.heap[z (B ZZ)]?=Q (N #[Z a2 (A ZT) c2,Z (Q (T t 0 Y)) nt c5] 29 (0,0))/\ZV G (T (z (B ZZ)) 1 Y)=Q (Z (Q (T t 0 Y)) nt c5)/\ZV G (T t 1 Y)=Q (Z (Q (T r0.2.1 0 Y)) r0.1.h r0.2.2) from⟨D.ab,D.cells.2,JW⟩);refine b _ _ (λ_=>l) ?_;clear b K
    (try simp only[Act.put,z_])
    iterate 2
     refine bV 9 rfl rfl (by kernel_rfl) λK b=>?_;go_simp;refine b _ _ (λ_=>l) ?_;clear b K
     (try simp only[Act.put,z_])
    refine ai (i:=11) rfl (by kernel_rfl) λK b=>?_;go_simp;refine b _ _ (λh=>absurd rfl h) ?_;clear b K
    (try simp only[Act.put,z_])
    refine ba (by kernel_rfl) ?_ _;obtain⟨hE,hB,hQ,fd⟩:=SA.i;have M:=ae hE;have ZR:=ae hB;have ZS:=ae hQ;have R4:=ae (R3.low fd (by omega));have O4:=ae (O3.then (fd.P (show (z (B w))<=z (B w)+2 by omega)));clear hE hB hQ fd SA l kb JW z3 hl ZM ZN bt aq;go_simp;generalize World.setCell G _ _=W4 at M ZR ZS R4 O4 ⊢;go_wp2;go_meet;exact⟨_,_,_,_,_,_,_,_,_,by omega,ZR,ZS,M,R4,O4⟩
   {skip;have ZR:=ae m.ab;have ZS:=ae m.res;have M:=ae (fJ m.src rfl m.w rfl (by omega) (by omega) G1);go_wp2;go_meet;exact⟨_,_,_,_,_,_,_,_,_,by omega,ZR,ZS,M,R2,O2⟩}
  ·by_cases hl:0<(A ZT:Int)
   ·go_wp2_with fail;obtain⟨gs,rfl⟩:=ko m.src (by omega)
    obtain⟨P,LR,rfl⟩:∃P LR,ZT=P::LR:=(by
     match ZT,hl with
     |[],h=>simp at h
     |P::LR,_=>exact⟨P,LR,rfl⟩)
    have ld:(P::LR).length<=250:=by omega
    generalize ZO:(P::LR).length=nl at ZM m hl ld JR ⊢;have HL:=ae ZO;clear ZO;have JI:0<nl:=by omega
    refine aI (BxS (Z (Q (T gs 0 Y)) nl c2) (Z a5 (A o) c5) (z (B ZZ))) 8 (by kernel_rfl) ?_;have l:=ae (i8 (W:=s.drew) m.ab);iterate 3
     refine aO 0 (v:=?_) rfl rfl (by kernel_rfl) (λ_ _ _ h=>h) rfl ?_ l ?_;rotate_left
     ·(rintro wz⟨s0,s1⟩;go_simp)
      (try with_reducible rfl)
     (try simp only[Act.put,z_])
    refine ai (i:=3) rfl (by kernel_rfl) λK b=>?_;go_simp;go_at_call 19;refine(ay R _ 2 _ (R2.aa br.drew ly) (by omega) (by omega) (by omega)).P ?_;rintro e G⟨z3,rfl,ex,At,O,H⟩;obtain⟨m3,rfl⟩:=p9 ex;have X:Hid (zt R s G):=(zt.l br.drew).k H;have D:=ae (m.ac X (by omega));have R3:=ae O;have O3:=ae (O2.k X);clear O H X l;have l:=ae (i8 D.ab);refine b _ _ (λ_=>l) ?_;clear b K
    (try simp only[Act.put,z_])
    have J4:IntKind.i64.wrap (2000+(m3:Int))=2000+(m3:Int):=by rw[nL];omega
    refine ai (i:=4) rfl (by kernel_rfl) λK b=>?_;go_simp;refine b _ _ (λ_=>l) ?_;clear b K
    (try simp only[Act.put,z_])
    refine ai (i:=5) rfl (by kernel_rfl) λK b=>?_;go_simp;go_at_call 35;refine(eP ⟨#[115]⟩ (2000+m3) _ (by show 1*(2000+m3)<=4000;omega) (by omega)).P ?_;rintro e w4⟨tt,rfl,_,rfl⟩;refine b _ _ (λ_=>l) ?_;clear b K
    (try simp only[Act.put,z_])
    have XL:Hid (SpX (z (B w)+1) (z (B ZZ)) (z (B w)+2) w4 (Z (Q (T gs 0 Y)) (P::LR).length c2) (Z a5 (A o) c5) (P::LR) o):=by rw[HL.i];exact D
    have Kg:=(XL.src.lt gs rfl).2;obtain⟨ky,kz⟩:=bA XL.src (j:=1) (u:=U P.H) rfl;obtain⟨x3,b3⟩:=XL.setS (j:=1) (LS':=⟨P.e,tt⟩::LR) (U tt) rfl rfl;clear XL;rw[HL.i] at x3;have X4:=ae x3;have B4:=ae b3;clear x3 b3;iterate 2
     refine bV 6 rfl rfl (by kernel_rfl) λK b=>?_;go_simp;refine b _ _ (λ_=>l) ?_;clear b K
     (try simp only[Act.put,z_])
    refine ai (i:=8) rfl (by kernel_rfl) λK b=>?_;go_simp;refine b _ _ (λh=>absurd rfl h) ?_;clear b K
    (try simp only[Act.put,z_])
    refine ba (by kernel_rfl) ?_ _;have R4:=ae (R3.low B4 (by omega));have O4:=ae (O3.then (B4.P (show (z (B w))<=z (B w)+2 by omega)));clear l ky kz hl;go_simp;generalize World.setCell w4 _ _=W4 at X4 R4 O4 ⊢;have ZR:=ae X4.ab;have ZS:=ae X4.res;have M:=ae (fJ X4.src HL.c X4.w rfl (by have:=HL.i;simp only[vF] at this ⊢;omega) (by omega) G1);clear ZM ZN bt aq;go_wp2;go_meet;exact⟨_,_,_,_,_,_,_,_,_,by omega,ZR,ZS,M,R4,O4⟩
   {skip;have ZR:=ae m.ab;have ZS:=ae m.res;have M:=ae (fJ m.src rfl m.w rfl (by omega) (by omega) G1);go_wp2;go_meet;exact⟨_,_,_,_,_,_,_,_,_,by omega,ZR,ZS,M,R2,O2⟩}
  ·go_wp2_with fail;go_loopw [7] (λi wr=>∃(k q:Nat) (v1:ZB) (RQ:List TR),i=J I k/\k<=A RQ/\q<=p+1+k/\(A RQ)<=300/\Hid (SpX (z (B w)+1) (z (B ZZ)) (z (B w)+2) wr (Z a2 (A ZT) c2) v1 ZT RQ)/\Hid (GX RQ)/\Hid (Rd wr R q)/\Hid (zt R w wr)) (λi _=>400 - (intOf i).toNat);case atStart=>exact⟨0,p+1,_,o,rfl,by omega,by omega,by omega,m,G1,R2,O2⟩
   case round =>
    clear m R2 O2 ZM ZN bt aq G1 N1 la;obtain⟨k,q4,v1,o,rfl,hk,hq4,hk3,m,G1,R2,O2⟩:=hrel;obtain⟨s,rfl⟩:∃s,s=wr:=⟨wr,rfl⟩
    obtain⟨a5,c5,rfl⟩:=aJ m.w.u;have la:=m.lt;have hw1:IntKind.i64.wrap ((A ZT:Int)+A o)=(A ZT:Int)+A o:=by rw[nL];omega
    have hwk:IntKind.i64.wrap ((k:Int)+1)=(k:Int)+1:=by rw[nL];omega
    go_wp2_with fail;have SB:Hid (∀V:E,V.heap[z (B ZZ)]?=Q (N #[Z a2 (A ZT) c2,Z a5 (A o) c5] 29 (0,0))->V.heap[z (B ZZ)]?=Q (N #[Z a2 (A ZT) c2,Z a5 (A o) c5] 29 (0,0))/\ZV V (T (z (B ZZ)) 0 Y)=Q (Z a2 (A ZT) c2)/\ZV V (T (z (B ZZ)) 1 Y)=Q (Z a5 (A o) c5)):=λV h=>⟨h,by simp[World.cell?,h],by simp[World.cell?,h]⟩
    refine wp_region_held_drew (S:=λV=>V.heap[z (B ZZ)]?=Q (N #[Z a2 (A ZT) c2,Z a5 (A o) c5] 29 (0,0))/\ZV V (T (z (B ZZ)) 0 Y)=Q (Z a2 (A ZT) c2)/\ZV V (T (z (B ZZ)) 1 Y)=Q (Z a5 (A o) c5)) (by kernel_rfl) (SB s m.ab) λhS=>?_;have l:=ae hS;clear hS;iterate 8
     refine aN 0 (v:=?_) rfl rfl (by kernel_rfl) (λ_ _ _ h=>h) rfl ?_ l ?_;rotate_left
     ·(rintro wz⟨s0,s1,s2⟩;go_simp)
      (try with_reducible rfl)
     (try simp only[Act.put,z_])
    refine aL (i:=8) rfl (by kernel_rfl) λK b=>?_;go_simp;go_at_call 19;refine(ay R _ 2 _ (R2.aa br.drew ly) (by omega) (by omega) (by omega)).P ?_;rintro e G⟨z3,rfl,ex,At,O,H⟩;obtain⟨m3,rfl⟩:=p9 ex;have X:Hid (zt R s G):=(zt.l br.drew).k H;have D:=ae (m.ac X (by omega));have R3:=ae O;have O3:=ae (O2.k X);clear O H X l;have l:=ae (SB G D.ab);refine b _ _ l ?_;clear b K
    (try simp only[Act.put,z_])
    have J4:IntKind.i64.wrap (200+(m3:Int))=200+(m3:Int):=by rw[nL];omega
    iterate 2
     refine li 9 rfl rfl (by kernel_rfl) λK b=>?_;go_simp;refine b _ _ l ?_;clear b K
     (try simp only[Act.put,z_])
    refine wpAnyH_done (by kernel_rfl) ?_ _;clear l SB;by_cases hlt:(A ZT:Int)+A o<200+(m3:Int)
    ·go_wp2_with fail;have DE:=D.lt;have SQ:=ae D.Qq;refine aI (BxT (Z a2 (A ZT) c2) (Z a5 (A o) c5) (z (B ZZ))) 13 (by kernel_rfl) ?_;have l:=ae (SQ G.drew (λj ZY _=>rfl));iterate 3
      refine aO 0 (v:=?_) rfl rfl (by kernel_rfl) (λ_ _ _ h=>h) rfl ?_ l ?_;rotate_left
      ·(rintro wz⟨s0,s1⟩;go_simp)
       (try with_reducible rfl)
      (try simp only[Act.put,z_])
     refine ai (i:=3) rfl (by kernel_rfl) λK b=>?_;go_simp;go_at_call 56;refine(iL k (by omega) _).P ?_;rintro e wl⟨lb,rfl,hlb,fd⟩;have BL:Hid (Below (z (B G)) G wl):=(BS G).drew.k fd;clear fd l;have l:=ae (SQ wl (λj ZY _=>BL.p j ZY));refine b _ _ (λ_=>l) ?_;clear b K
     (try simp only[Act.put,z_])
     refine fs (i:=4) (v:=U (⟨#[117]⟩++lb)) rfl (by kernel_rfl) (by kernel_rfl) (by kernel_rfl) (by kernel_rfl) (λ_ _ _ h=>h) rfl ?_ l ?_;{intro wz _;go_simp;omega}
     (try simp only[Act.put,z_])
     generalize (⟨#[117]⟩:F_)++lb=tn;refine ai (i:=5) rfl (by kernel_rfl) λK b=>?_;go_simp;go_at_call 57;refine(bC _ _).P ?_;rintro e wm⟨rfl,JZ⟩;have BM:=ae (BL.k (JZ.P BL.size));clear JZ l;have l:=ae (SQ wm (λj ZY _=>BM.p j ZY));refine b _ _ (λ_=>l) ?_;clear b K
     (try simp only[Act.put,z_])
     refine ai (i:=6) rfl (by kernel_rfl) λK b=>?_;go_simp;go_at_call 58;refine(bq _ _).P ?_;rintro e ZP⟨rfl,ph⟩;have BN:=ae (BM.k (ph.P BM.size));clear ph l BL BM;have J9:=BN.size;have BI:=ae (BN.alloc (by omega) (N #[J I 1,U ⟨#[107]⟩,J I 0,J I 15,U ⟨#[]⟩,J I 0] 102));have Kd:=D.hi;have OI:=ae (rN ZP (base:=z (B w)+2) (by omega));have l:=ae (SQ ZP (λj ZY _=>BN.p j ZY));refine b _ _ (λ_=>l) ?_;clear b K l
     (try simp only[Act.put,z_])
     have l:=ae (SQ _ (λj ZY _=>BI.p j ZY));iterate 3
      refine bV 7 rfl rfl (by kernel_rfl) λK b=>?_;go_simp;refine b _ _ (λ_=>l) ?_;clear b K
      (try simp only[Act.put,z_])
     have Fd:z (B (ZU ZP (N #[J I 1,U ⟨#[107]⟩,J I 0,J I 15,U ⟨#[]⟩,J I 0] 102)))=z (B ZP)+1:=by simp
     have AB:=ae (BI.alloc (by omega) (N #[U tn,Z (Q (T (z (B ZP)) 0 Y)) 2 2] 86));refine ai (i:=10) rfl (by kernel_rfl) λK b=>?_;go_simp;have ZL:=ae (D.aa AB ly);have OA:=ae (K_ OI (br.alloc ly (N #[U tn,Z (Q (T (z (B ZP)) 0 Y)) 2 2] 86)) ly);refine b _ _ (λ_=>SQ _ (λj ZY _=>AB.p j ZY)) ?_;clear b K
     (try simp only[Act.put,z_])
     refine ai (i:=11) rfl (by kernel_rfl) λK b=>?_;refine aU rfl (.tmp 106) (.tmp 115) 27 rfl (z (B w)+2) 86 GS (ZJ #[U ⟨#[]⟩,Z Y 0 0]) 2 40 ON ZY Bk JJ JH rfl (by decide) (Z a5 (A o) c5) (A o) (o.flatMap aZ) (by simp[Act.eval]) ZL.w.u (T (z (B ZP)+1) 0 Y) 1 1 (aZ (⟨tn,2,lsI iy⟩,z (B ZP),2)) (by simp[Act.eval]) rfl (λj u hu=>mC (Fd) _ _ _ j u hu) (by simp[aZ,Value.oneCell']) (by unfold maxLen;omega) (by omega) (by have:=ZL.hi;have:=ZL.lt;omega) ?_;intro v' w7 C y _;obtain⟨a7,c7,rfl⟩:=aJ C;have S7:=ae (SQ w7 (λj ZY mv=>(y.p j (lj ZY AB.size) mv).k (AB.p j ZY)));obtain⟨c8,b8⟩:=ZL.addT (x:=⟨tn,2,lsI iy⟩) (g:=z (B ZP)) (c:=2) (λr hr e=>by have:=D.w.ltg r hr;omega) OA C y;have X9:=ae c8;have B9:=ae b8;clear C y c8 b8;refine b _ _ (λ_=>S7) ?_;clear b K
     (try simp only[Act.put,z_])
     refine ai (i:=12) rfl (by kernel_rfl) λK b=>?_;go_simp;refine b _ _ (λ_=>S7) ?_;clear b K
     (try simp only[Act.put,z_])
     obtain⟨s7,t7⟩:=S7.i;have f7:ZW w7 (T (z (B ZZ)) 1 Y)=ZA:=by simp[World.frozen?,s7]
     have l7:=aj s7;clear s7;refine ai (i:=13) rfl (by kernel_rfl) λK b=>?_;go_simp;refine b _ _ (λh=>absurd rfl h) ?_;clear b K
     (try simp only[Act.put,z_])
     refine ba (by kernel_rfl) ?_ _;go_wp2;have BB:=ae ((AB.P (show (z (B w))+2<=z (B G) by omega)).k B9.i);refine⟨⟨k+1,_,Z a7 (A o+1) c7,o++[((⟨tn,2,lsI iy⟩,z (B ZP),2):TR)],by go_num,by rw[cM];exact Nat.succ_le_succ hk,by omega,by rw[cM];exact(by omega:A o+1<=300),X9,G1.add (r:=(⟨tn,2,lsI iy⟩,z (B ZP),2)) (by show 2<=300;omega) pD,R3.low BB (by omega),O3.then (BB.P (by omega))⟩,by simp[intOf];omega⟩
    {have ZM:=la;have ZN:=la;have bt:=la;have aq:=la;have ZR:=ae D.ab;have ZS:=ae D.res;have M:=ae (fJ D.src rfl D.w rfl (by omega) (by omega) G1);clear ZM ZN bt aq;go_wp2;go_meet;exact⟨_,_,_,_,_,_,_,_,_,by omega,ZR,ZS,M,R3,O3⟩}
  ·go_wp2_with fail;refine aI (BxT (Z a2 (A ZT) c2) (Z a5 (A o) c5) (z (B ZZ))) 14 (by kernel_rfl) ?_;have l:=ae (vL (W:=s.drew) m.ab);iterate 3
    refine aO 0 (v:=?_) rfl rfl (by kernel_rfl) (λ_ _ _ h=>h) rfl ?_ l ?_;rotate_left
    ·(rintro wz⟨s0,s1⟩;go_simp)
     (try with_reducible rfl)
    (try simp only[Act.put,z_])
   refine ai (i:=3) rfl (by kernel_rfl) λK b=>?_;go_simp;go_at_call 19;refine(ay R _ 2 _ (R2.aa br.drew ly) (by omega) (by omega) (by omega)).P ?_;rintro e G⟨z3,rfl,ex,At,O,H⟩;obtain⟨m3,rfl⟩:=p9 ex;have X:Hid (zt R s G):=(zt.l br.drew).k H;have D:=ae (m.ac X (by omega));have R3:=ae O;have O3:=ae (O2.k X);clear O H X l;have l:=ae (vL D.ab);refine b _ _ (λ_=>l) ?_;clear b K
   (try simp only[Act.put,z_])
   have hw60:IntKind.i64.wrap (60+(m3:Int))=60+(m3:Int):=by rw[nL];omega
   refine ai (i:=4) rfl (by kernel_rfl) λK b=>?_;go_simp;refine b _ _ (λ_=>l) ?_;clear b K
   (try simp only[Act.put,z_])
   refine ai (i:=5) rfl (by kernel_rfl) λK b=>?_;go_simp;go_at_call 35;refine(eP ⟨#[110]⟩ (60+m3) _ (by show 1*(60+m3)<=4000;omega) (by omega)).P ?_;rintro e w4⟨tn,rfl,_,rfl⟩;refine b _ _ (λ_=>l) ?_;clear b K l
   (try simp only[Act.put,z_])
   have SQ:=ae D.Qq;refine ai (i:=6) rfl (by kernel_rfl) λK b=>?_;go_simp;go_at_call 57;refine(bC _ _).P ?_;rintro e wm⟨rfl,JP⟩;have BM:=ae JP;clear JP;refine b _ _ (λ_=>SQ wm (λj ZY _=>BM.p j ZY)) ?_;clear b K
   (try simp only[Act.put,z_])
   refine ai (i:=7) rfl (by kernel_rfl) λK b=>?_;go_simp;go_at_call 58;refine(bq _ _).P ?_;rintro e ZP⟨rfl,ph⟩;have BN:=ae (BM.k (ph.P BM.size));clear ph BM;have J9:=BN.size;have BI:=ae (BN.alloc (by omega) (N #[J I 1,U ⟨#[107]⟩,J I 0,J I 15,U ⟨#[]⟩,J I 0] 102));have Kd:=D.hi;have DE:=D.lt;have OI:=ae (rN ZP (base:=z (B w)+2) (by omega));refine b _ _ (λ_=>SQ ZP (λj ZY _=>BN.p j ZY)) ?_;clear b K
   (try simp only[Act.put,z_])
   have l:=ae (SQ _ (λj ZY _=>BI.p j ZY));iterate 3
    refine bV 8 rfl rfl (by kernel_rfl) λK b=>?_;go_simp;refine b _ _ (λ_=>l) ?_;clear b K
    (try simp only[Act.put,z_])
   have Fd:z (B (ZU ZP (N #[J I 1,U ⟨#[107]⟩,J I 0,J I 15,U ⟨#[]⟩,J I 0] 102)))=z (B ZP)+1:=by simp
   have AB:=ae (BI.alloc (by omega) (N #[U tn,Z (Q (T (z (B ZP)) 0 Y)) 2 2] 86));refine ai (i:=11) rfl (by kernel_rfl) λK b=>?_;go_simp;have ZL:=ae (D.aa AB ly);have OA:=ae (K_ OI (br.alloc ly (N #[U tn,Z (Q (T (z (B ZP)) 0 Y)) 2 2] 86)) ly);refine b _ _ (λ_=>SQ _ (λj ZY _=>AB.p j ZY)) ?_;clear b K
   (try simp only[Act.put,z_])
   refine ai (i:=12) rfl (by kernel_rfl) λK b=>?_;refine aU rfl (.tmp 121) (.tmp 131) 27 rfl (z (B w)+2) 86 GS (ZJ #[U ⟨#[]⟩,Z Y 0 0]) 2 40 ON ZY Bk JJ JH rfl (by decide) (Z a5 (A o) c5) (A o) (o.flatMap aZ) (by simp[Act.eval]) ZL.w.u (T (z (B ZP)+1) 0 Y) 1 1 (aZ (⟨tn,2,lsI iy⟩,z (B ZP),2)) (by simp[Act.eval]) rfl (λj u hu=>mC (Fd) _ _ _ j u hu) (by simp[aZ,Value.oneCell']) (by unfold maxLen;omega) (by omega) (by have:=ZL.hi;have:=ZL.lt;omega) ?_;intro v' w7 C y _;obtain⟨a7,c7,rfl⟩:=aJ C;have S7:=ae (SQ w7 (λj ZY mv=>(y.p j (lj ZY AB.size) mv).k (AB.p j ZY)));obtain⟨c8,b8⟩:=ZL.addT (x:=⟨tn,2,lsI iy⟩) (g:=z (B ZP)) (c:=2) (λr hr e=>by have:=D.w.ltg r hr;omega) OA C y;have X9:=ae c8;have B9:=ae b8;clear C y c8 b8;refine b _ _ (λ_=>S7) ?_;clear b K
   (try simp only[Act.put,z_])
   refine ai (i:=13) rfl (by kernel_rfl) λK b=>?_;go_simp;refine b _ _ (λ_=>S7) ?_;clear b K
   (try simp only[Act.put,z_])
   obtain⟨s7,t7⟩:=S7.i;have f7:ZW w7 (T (z (B ZZ)) 1 Y)=ZA:=by simp[World.frozen?,s7]
   have l7:=aj s7;clear s7;refine ai (i:=14) rfl (by kernel_rfl) λK b=>?_;go_simp;refine b _ _ (λh=>absurd rfl h) ?_;clear b K
   (try simp only[Act.put,z_])
   refine ba (by kernel_rfl) ?_ _;have BB:=ae ((AB.P (show (z (B w))+2<=z (B w4) by omega)).k B9.i);have R9:=ae (R3.low BB (by omega));have O9:=ae (O3.then (BB.P (by omega)));have G9:=ae (G1.add (r:=(⟨tn,2,lsI iy⟩,z (B ZP),2)) (by show 2<=300;omega) pD);clear t7 f7 l7 l;go_simp;generalize World.setCell w7 _ _=W9 at X9 R9 O9 ⊢;have ZR:=ae X9.ab;have ZS:=ae X9.res;have M:=ae (fJ X9.src rfl X9.w (by simp) (by omega) (by rw[cM];exact(by omega:A o+1<=300)) G9);clear ZM ZN bt aq;go_wp2;go_meet;exact⟨_,_,_,_,_,_,_,_,_,by omega,ZR,ZS,M,R9,O9⟩
  {have BQ:=ae ((BS s).alloc ly (N #[U ⟨#[97]⟩,Z Y 0 0] 86));have XQ:=ae (m.aa BQ ly);go_wp2_with (at_builtin;refine cj _ rfl (.tmp 137) (.tmp 139) 27 rfl (z (B w)+2) 86 GS (ZJ #[U ⟨#[]⟩,Z Y 0 0]) 2 40 ON ZY Bk JJ JH rfl (by decide) (Z a5 (A o) c5) (A o) (o.flatMap aZ) (by simp[Act.eval]) XQ.w.u (T (z (B s)) 0 Y) 1 1 [U ⟨#[97]⟩,Z Y 0 0] (by simp[Act.eval]) rfl (λj u hu=>df s _ _ _ j u hu) (by simp[Value.oneCell']) (by unfold maxLen;omega) (by omega) (by have:=m.hi;simp;omega) ?_;intro v' G C y _;obtain⟨a7,c7,rfl⟩:=aJ C;obtain⟨hE,hB,hQ,fd⟩:=XQ.addNil C y (by omega) (by omega) G1.i;have M:=ae hE;have JX:=ae fd;have ZR:=ae hB;have ZS:=ae hQ;have kb:=gw y XQ.w.type XQ.ab (by decide);clear C y hE hB hQ fd ZM ZN bt aq;have e0:ZV G (T (z (B ZZ)) 0 Y)=Q (Z a2 (A ZT) c2):=(by simp[World.cell?,kb]);have e1:ZV G (T (z (B ZZ)) 1 Y)=Q (Z a5 (A o) c5):=(by simp[World.cell?,kb]);have f2:ZW G (T (z (B ZZ)) 1 Y)=ZA:=(by simp[World.frozen?,kb]);have l1:=aj kb;have mv:=XQ.hi;clear kb);go_meet;exact⟨_,_,_,_,_,_,_,_,_,by omega,ZR,ZS,M,R2.low (BQ.P (show (z (B w))+2<=z (B s) by omega) |>.trans JX.i) (by omega),O2.then ((BQ.P (show (z (B w))<=z (B s) by omega)).k (JX.P (by omega)))⟩}
  ·by_cases hl:1<(A ZT:Int)
   ·go_wp2_with fail;obtain⟨gs,rfl⟩:=ko m.src (by omega)
    obtain⟨P,x1,LR,rfl⟩:∃P x1 LR,ZT=P::x1::LR:=(by
     match ZT,hl with
     |[],h=>simp at h
     |[_],h=>simp at h
     |P::x1::LR,_=>exact⟨P,x1,LR,rfl⟩)
    have Kg:=(m.src.lt gs rfl).2;have kx:=(bA m.src (j:=0) (u:=U P.e) rfl).1;obtain⟨ky,kz⟩:=bA m.src (j:=2) (u:=U x1.e) rfl;obtain⟨x3,b3⟩:=m.setS (j:=2) (LS':=P::⟨P.e,x1.H⟩::LR) (U P.e) rfl rfl;have D:=ae x3;have B3:=ae b3;clear x3 b3;have ld:(P::x1::LR).length<=250:=by omega
    have Kb:(1:Int)<(P::x1::LR).length:=hl;generalize ZO:(P::x1::LR).length=nl at *;have HL:=ae ZO;clear ZO;have JI:0<nl:=by omega
    have Kn:1<nl:=by omega
    refine aI (λV=>ZV V (T (z (B ZZ)) 0 Y)=Q (Z (Q (T gs 0 Y)) nl c2)/\ZV V (T gs 0 Y)=Q (U P.e)) 9 (by kernel_rfl) ?_;have l:Hid ((s.drew.cell? (T (z (B ZZ)) 0 Y)=Q (Z (Q (T gs 0 Y)) nl c2))/\s.drew.cell? (T gs 0 Y)=Q (U P.e)):=⟨ZM,kx⟩
    iterate 7
     refine aO 0 (v:=?_) rfl rfl (by kernel_rfl) (λ_ _ _ h=>h) rfl ?_ l ?_;rotate_left
     ·(rintro wz⟨s0,s1⟩;go_simp)
      (try with_reducible rfl)
     (try simp only[Act.put,z_])
    iterate 2
     refine bV 7 rfl rfl (by kernel_rfl) λK b=>?_;go_simp;refine b _ _ (λ_=>l) ?_;clear b K
     (try simp only[Act.put,z_])
    refine ai (i:=9) rfl (by kernel_rfl) λK b=>?_;go_simp;refine b _ _ (λh=>absurd rfl h) ?_;clear b K
    (try simp only[Act.put,z_])
    refine ba (by kernel_rfl) ?_ _;have R3:=ae ((R2.low B3 (by omega)).aa br.drew ly);have O3:=ae (O2.then ((B3.P (show (z (B w))<=z (B w)+2 by omega)).drew));have XD:=ae (D.aa br.drew ly);clear l kx ky kz hl Kb;go_simp;generalize World.drew (World.setCell s _ _)=W3 at XD R3 O3 ⊢;have ZR:=ae XD.ab;have ZS:=ae XD.res;have M:=ae (fJ XD.src HL.c XD.w rfl (by have:=HL.i;simp only[vF] at this ⊢;omega) (by omega) G1);clear ZM ZN bt aq;go_wp2;go_meet;exact⟨_,_,_,_,_,_,_,_,_,by omega,ZR,ZS,M,R3,O3⟩
   {skip;have ZR:=ae m.ab;have ZS:=ae m.res;have M:=ae (fJ m.src rfl m.w rfl (by omega) (by omega) G1);go_wp2;go_meet;exact⟨_,_,_,_,_,_,_,_,_,by omega,ZR,ZS,M,R2,O2⟩}
 case rest =>
 clear m R2 O2 ZM ZN bt aq la;obtain⟨b0,m0,k0,g0,b1,m1,k1,g1,q',hq',ZR,ZS,M,R9,O9⟩:=hcut;generalize wc=W9 at ZR ZS M R9 O9 ⊢;have kb:=ZR.i;have kr:=ZS.i;have e0:ZV W9 (T (z (B ZZ)) 0 Y)=Q (Z b0 m0 k0):=by simp[World.cell?,kb]
 have e1:ZV W9 (T (z (B ZZ)) 1 Y)=Q (Z b1 m1 k1):=by simp[World.cell?,kb]
 have r0:ZV W9 (T (z (B w)+1) 0 Y)=Q (Z Y 0 0):=by simp[World.cell?,kr]
 have r1:ZV W9 (T (z (B w)+1) 1 Y)=Q (Z Y 0 0):=by simp[World.cell?,kr]
 have f0:ZW W9 (T (z (B w)+1) 0 Y)=ZA:=by simp[World.frozen?,kr]
 have f1:ZW W9 (T (z (B w)+1) 1 Y)=ZA:=by simp[World.frozen?,kr]
 have l0:=aj kr;have l1:=aj kb;clear kb kr;have BE:=ae (((a8 (z (B w)) W9).setCell (p:=(T (z (B w)+1) 0 Y)) (BV _) (Z b0 m0 k0)).setCell (p:=(T (z (B w)+1) 1 Y)) (BV _) (Z b1 m1 k1));have Ko:=ae ((M.agr ((fl (j:=0) (show (z (B w))+1<z (B w)+2 by omega) (Z b0 m0 k0)).k (fl (j:=1) (show (z (B w))+1<z (B w)+2 by omega) (Z b1 m1 k1)))).P (show (z (B w))<=z (B w)+2 by omega));go_wp2;exact bp (v:=ZJ #[Z b0 m0 k0,Z b1 m1 k1]) (by simp[results,results22,go_sem,r0,r1]) rfl ⟨_,_,_,_,_,_,_,_,rfl,Ko,_,by omega,R9.low BE J6,O9.then BE⟩
def Ib{s0 s1 f:F_}{fz:Nat × Nat}(h:w.heap[b]?=Q (N #[U s0,U s1,U f] t fz))(i:s0.size<=5000)(h1:s1.size<=5000)(h2:f.size<=5000)(k:Nat)(g:k<3):∃s:F_,ZV w (T b k Y)=Q (U s)/\s.size<=5000:=by
 match k,g with
 |0,_=>exact⟨s0,by simp[World.cell?,h],i⟩
 |1,_=>exact⟨s1,by simp[World.cell?,h],h1⟩
 |2,_=>exact⟨f,by simp[World.cell?,h],h2⟩
 |j+3,h5=>exact absurd h5 (by omega)
def yv{a0 a1:O_}{c0 c1:Nat}{f:List Source}{b:List TR}(n:w.ownsRow g 82 2 (Z a0 (A f) c0) (A f) (f.flatMap bF))(m:TRow w g (Z a1 (A b) c1) b)(h:SpG f b)(l:A f<=300)(h1:A b<=300):HSp g w a0 (A f) (aV f) a1 (A b) (aW (b.map (·.1)))/\∀i,i<A b->1<=(aW (b.map (·.1)) i).h/\(aW (b.map (·.1)) i).h<=200:=by
 refine⟨fJ n rfl m rfl l h1 (λr j=>⟨by have:=(h.t r j).2.1.2;omega,(h.t r j).2.2⟩),λi hi=>?_⟩;have e:aW (b.map (·.1)) i=b[i].1:=by simp[aW,hi]
 rw[e];exact(h.t _ (gz hi)).2.1
def Cz (R p:Nat)(w:E)(hR:Rd w R p)(hp:p<=9000):Calls Pg 31 #[.pointer (Q (T R 0 Y))] w λe w'=>DH w R (p+6300) e w':=by
 have HR:=ae hR;have ZZ:=hR.lt;clear hR;go_enter func31,ntmps31;go_wp2_with fail;obtain⟨W0,y⟩:∃W:E,ZU w (N #[Z Y 0 0,Z Y 0 0] 29)=W:=⟨_,rfl⟩
 obtain⟨A0,K0,hz0⟩:=nb1 y;have K:=ae y;clear y;rw[K.i];clear K;refine(ay R p 24 _ (HR.aa A0 ly) (by omega) (by omega) (by omega)).P ?_;rintro e w1⟨ZX,rfl,hz0',hz1',V,C⟩;have L:=ae V;have ZO:=ae ((zt.l A0).k C:zt R w w1);have S:=ae ((C.p (z (B w)) (by omega) (by omega)).k K0);have hs1:=C.size;clear V C A0 K0;by_cases hk:ZX=0
 ·subst hk;go_wp2_with fail;refine(ay R _ 3 _ L (by omega) (by omega) (by omega)).P ?_;rintro e g⟨z2,rfl,fd,h21,t,b⟩;obtain⟨G,rfl⟩:=p9 fd;have l:=ae t;have h:=ae (ZO.k b);have i:=ae ((b.p (z (B w)) (by omega) (by omega)).k S);have mv:=b.size;clear t b L ZO S;have hw1:IntKind.i64.wrap (60+(G:Int))=60+(G:Int):=by rw[nL];omega
  have hw2:IntKind.i64.wrap (60+(G:Int) - 1)=59+(G:Int):=by rw[nL];omega
  go_wp2_with fail;obtain⟨WL,u⟩:∃W:E,ZU g (N #[U ⟨#[97]⟩,U ⟨#[110,111,110,101]⟩,U ⟨#[116,48,48,48]⟩] 9)=W:=⟨_,rfl⟩
  obtain⟨M,m,-⟩:=nb1 u;replace m:=m.i;have ZS:=ae u;clear u;have RL:=ae (l.aa M ly);have OL:=ae (h.then (M.P (by omega)));have KL:=ae ((M.p (z (B w)) (by omega)).k i);have ZR:=aj m;have ZP:=ae m;clear M m l h i;rw[ZS.i];clear ZS;refine(ay R _ 3 _ RL (by omega) (by omega) (by omega)).P ?_;rintro e x⟨z3,rfl,bt,h31,s,f⟩;obtain⟨m3,rfl⟩:=p9 bt;have aq:m3<3:=by omega
  have P:=ae s;have O:=ae (OL.k f);have ZQ:=ae ((f.p (z (B w)) (by omega) (by omega)).k KL);obtain⟨sx,la,ld⟩:=Ib ((f.p (z (B g)) ZR (by omega)).k ZP) (WI rfl) (WI rfl) (WI rfl) m3 aq;have hs4:=f.size;clear s f ZP RL OL KL;go_wp2_with fail;refine(xC (59+G) (by omega) sx ld _).P ?_;rintro e H⟨a0,n0,c0,f0,a1,n1,c1,f1,rfl,X,ZY⟩;have H4:=ae (X.P (show (z (B w))+1<=z (B x) by omega));have R4:=ae (P.aa ZY ly);have O4:=ae (O.then (ZY.P (by omega)));have K4:=ae ((ZY.p (z (B w)) (by omega)).k ZQ);clear X ZY P O ZQ la;have kr:=K4.i;have r0:ZV H (T (z (B w)) 0 Y)=Q (Z Y 0 0):=by simp[World.cell?,kr]
  have r1:ZV H (T (z (B w)) 1 Y)=Q (Z Y 0 0):=by simp[World.cell?,kr]
  have f0:ZW H (T (z (B w)) 0 Y)=ZA:=by simp[World.frozen?,kr]
  have f1:ZW H (T (z (B w)) 1 Y)=ZA:=by simp[World.frozen?,kr]
  have l0:=aj kr;clear kr;have q:=ae (((a8 (z (B w)) H).setCell (p:=(T (z (B w)) 0 Y)) ly (Z a0 n0 c0)).setCell (p:=(T (z (B w)) 1 Y)) ly (Z a1 n1 c1));have n:=ae ((H4.agr ((fl (j:=0) (eL (z (B w))) (Z a0 n0 c0)).k (fl (j:=1) (eL (z (B w))) (Z a1 n1 c1)))).P (BV (z (B w))));go_wp2;exact bp (v:=ZJ #[Z a0 n0 c0,Z a1 n1 c1]) (by simp[results,results31,go_sem,r0,r1]) rfl ⟨_,_,_,_,_,_,_,_,rfl,n,_,by omega,R4.low q ZZ,O4.then q⟩
 ·go_wp2_with fail;refine(qO R _ _ L (by omega)).P ?_;rintro e g⟨o,r,v0,v1,rfl,hs,ZL,hG,hl0,hl1,q2,hq2,t,b⟩;obtain⟨a0,c0,rfl⟩:=aJ hs;obtain⟨a1,c1,rfl⟩:=aJ ZL.u;obtain⟨hh,hg⟩:=yv hs ZL hG (by omega) (by omega);have D:=ae (hh.P (show (z (B w))+1<=z (B w1)+2 by omega));have HG:=ae hg;have l:=ae t;have h:=ae (ZO.k b);have i:=ae ((b.p (z (B w)) (by omega) (by omega)).k S);have mv:=b.size;clear hs ZL hG hh hg t b L ZO S;by_cases hk3:ZX<3
  ·have ZT:=ae ((BS g).alloc ly (N #[Z a0 (A o) c0,Z a1 (A r) c1] 29));have D:=ae (D.agr (de ZT ly));have l:=ae (l.aa ZT ly);have h:=ae (h.then (ZT.P (by omega)));have i:=ae ((ZT.p (z (B w)) (by omega)).k i);have ZR:=ZT.size;clear ZT;go_wp2_with fail;generalize World.alloc g _=WS at D l h i ZR ⊢;refine(oW R q2 (z (B w)+1) (A o) c0 (A r) c1 a0 _ a1 _ _ l (by omega) D HG (by omega) (by omega)).P ?_;rintro e x⟨b0,m0,ZM,g0,b1,m1,d1,g1,rfl,ZN,q3,hq3,s,f⟩;have H3:=ae (ZN.P (show (z (B w))+1<=z (B WS) by omega));have P:=ae s;have O:=ae (h.k f);have ZQ:=ae ((f.p (z (B w)) (by omega) (by omega)).k i);clear ZN s f D l h i HG;have kr:=ZQ.i;have r0:ZV x (T (z (B w)) 0 Y)=Q (Z Y 0 0):=by simp[World.cell?,kr]
   have r1:ZV x (T (z (B w)) 1 Y)=Q (Z Y 0 0):=by simp[World.cell?,kr]
   have f0:ZW x (T (z (B w)) 0 Y)=ZA:=by simp[World.frozen?,kr]
   have f1:ZW x (T (z (B w)) 1 Y)=ZA:=by simp[World.frozen?,kr]
   have l0:=aj kr;clear kr;have q:=ae (((a8 (z (B w)) x).setCell (p:=(T (z (B w)) 0 Y)) ly (Z b0 m0 ZM)).setCell (p:=(T (z (B w)) 1 Y)) ly (Z b1 m1 d1));have n:=ae ((H3.agr ((fl (j:=0) (eL (z (B w))) (Z b0 m0 ZM)).k (fl (j:=1) (eL (z (B w))) (Z b1 m1 d1)))).P (BV (z (B w))));go_wp2;exact bp (v:=ZJ #[Z b0 m0 ZM,Z b1 m1 d1]) (by simp[results,results31,go_sem,r0,r1]) rfl ⟨_,_,_,_,_,_,_,_,rfl,n,_,by omega,P.low q ZZ,O.then q⟩
  ·clear HG;have kr:=i.i;have r0:ZV g (T (z (B w)) 0 Y)=Q (Z Y 0 0):=by simp[World.cell?,kr]
   have r1:ZV g (T (z (B w)) 1 Y)=Q (Z Y 0 0):=by simp[World.cell?,kr]
   have f0:ZW g (T (z (B w)) 0 Y)=ZA:=by simp[World.frozen?,kr]
   have f1:ZW g (T (z (B w)) 1 Y)=ZA:=by simp[World.frozen?,kr]
   have l0:=aj kr;clear kr;have ex:((g.setCell (T (z (B w)) 0 Y) (Z a0 (A o) c0)).setCell (T (z (B w)) 1 Y) (Z a1 (A r) c1)).heap.size=z (B g):=by simp
   have q:=ae ((((a8 (z (B w)) g).setCell (p:=(T (z (B w)) 0 Y)) ly (Z a0 (A o) c0)).setCell (p:=(T (z (B w)) 1 Y)) ly (Z a1 (A r) c1)).alloc (by omega) (N #[Z a0 (A o) c0,Z a1 (A r) c1] 29));have n:=ae ((D.agr (((fl (j:=0) (eL (z (B w))) (Z a0 (A o) c0)).k (fl (j:=1) (eL (z (B w))) (Z a1 (A r) c1))).k (de (br.alloc ly (N #[Z a0 (A o) c0,Z a1 (A r) c1] 29)) ly))).P (BV (z (B w))));clear ex;go_wp2;exact bp (v:=ZJ #[Z a0 (A o) c0,Z a1 (A r) c1]) (by simp[results,results31,go_sem,r0,r1,l0]) rfl ⟨_,_,_,_,_,_,_,_,rfl,n,_,by omega,l.low q ZZ,h.then q⟩
def iz (R p b0 n0 c0 n1 c1:Nat)(a0:O_)(f0:Nat->Source)(a1:O_)(f1:Nat->Target)(w:E)(hR:Rd w R p)(hp:p<=50000)(hb:R<b0)(hH:HSp b0 w a0 n0 f0 a1 n1 f1):Calls Pg 33 #[.pointer (Q (T R 0 Y)),ZJ #[Z a0 n0 c0,Z a1 n1 c1]] w λe ZL=>∃t:F_,e=ZI (U t)/\∃q:Nat,q<=p+3/\Rd ZL R q/\zt R w ZL:=by
 have HR:=ae hR;have hlow:=hR.lt;have hn1:=hH.hn1;have HH:=ae hH;clear hR hH;have r:=ae ((BS w).alloc ly (N #[Z a0 n0 c0,Z a1 n1 c1] 29));have ZT:Hid ((ZU w (N #[Z a0 n0 c0,Z a1 n1 c1] 29)).heap[z (B w)]?=Q (N #[Z a0 n0 c0,Z a1 n1 c1] 29 (0,0))):=gM w _;have G:z (B (ZU w (N #[Z a0 n0 c0,Z a1 n1 c1] 29)))=z (B w)+1:=by simp
 by_cases hn:0<(n1:Int)
 ·go_enter func33,ntmps33;go_wp2_with fail;generalize World.alloc w _=n at r ZT G ⊢;have P:=ae (HR.aa r ly);have O:Hid (zt R w n):=zt.l r;refine(ay R p 8 _ P (by omega) (by omega) (by omega)).P ?_;rintro e ZQ⟨ZX,rfl,hz0',hz1',ZO,M⟩;have X:=ae ZO;have O1:=ae (O.k M);have K1:=ae ((M.p (z (B w)) (by omega) (by omega)).k ZT);clear ZO M P O ZT r;have ZP:=K1.i;have ZN:ZV ZQ (T (z (B w)) 1 Y)=Q (Z a1 n1 c1):=by simp[World.cell?,ZP]
  have l1:=aj ZP;clear ZP;by_cases hz:0<ZX
  ·go_wp2_with fail;refine aI (λV=>ZV V (T (z (B w)) 1 Y)=Q (Z a1 n1 c1)) 10 (by as_aux_lemma=>kernel_rfl) ?_;have ZR:Hid (ZQ.drew.cell? (T (z (B w)) 1 Y)=Q (Z a1 n1 c1)):=ZN;iterate 6
    refine aO 0 (v:=?_) rfl rfl (by as_aux_lemma=>kernel_rfl) (λ_ _ _ h=>h) rfl ?_ ZR ?_;rotate_left
    ·(intro wz s0;go_simp)
     (try with_reducible rfl)
    (try simp only[Act.put,z_])
   refine ai (i:=6) rfl (by as_aux_lemma=>kernel_rfl) λK ZS=>?_;go_simp;go_at_call 19;refine(ay R _ (n1:Int) _ (X.aa br.drew ly) (by omega) (by omega) (by omega)).P ?_;rintro e D⟨z3,rfl,o,S,g,b⟩;obtain⟨m,rfl⟩:=p9 o;have OO:Hid (zt R ZQ D):=(zt.l br.drew).k b;have L:=ae g;have C:=ae (O1.k OO);have l:m<n1:=by omega
   clear g b ZR;have ZR:Hid (ZV D (T (z (B w)) 1 Y)=Q (Z a1 n1 c1)):=(OO.O (z (B w)) 1 l1 (by omega)).k ZN;rcases(HH.sl D (C.agr hb)).2 with h0|⟨tb,tof,rfl,x⟩
   {omega};have kn:=(x.2 m l).1;have hl:=x.1;clear x ZN;refine ZS _ _ (λ_=>ZR) ?_;clear ZS K
   (try simp only[Act.put,z_])
   iterate 4
    refine bV 7 rfl rfl (by as_aux_lemma=>kernel_rfl) λK ZS=>?_;go_simp;refine ZS _ _ (λ_=>ZR) ?_;clear ZS K
    (try simp only[Act.put,z_])
   refine ba (by as_aux_lemma=>kernel_rfl) ?_ _;go_wp2;go_ret;exact⟨_,rfl,_,by omega,L,C⟩
  ·go_wp2_with fail;obtain⟨WL,s⟩:∃W:E,ZU ZQ (N #[U ⟨#[97]⟩,U ⟨#[110,111,110,101]⟩,U ⟨#[]⟩,U ⟨#[120,32,121]⟩,U ⟨#[116,48]⟩] 9)=W:=⟨_,rfl⟩
   obtain⟨u,f,-⟩:=nb1 s;replace f:=f.i;have H:=ae s;clear s;have ZY:=ae (X.aa u ly);have ZZ:=ae (O1.then (u.P (by omega)));have y:=aj f;have j:=ae f;clear u f;rw[H.i];clear H;refine(ay R _ 5 _ ZY (by omega) (by omega) (by omega)).P ?_;rintro e D⟨z3,rfl,o,S,g,b⟩;obtain⟨m,rfl⟩:=p9 o;have l:m<5:=by omega
   have L:=ae g;have C:=ae (ZZ.k b);obtain⟨sx,ZM⟩:=oE ((b.p (z (B ZQ)) y (by omega)).k j) m l;clear g b j ZY ZZ;go_wp2;go_ret;exact⟨sx,rfl,_,by omega,L,C⟩
 ·go_enter func33,ntmps33;go_wp2_with fail;generalize World.alloc w _=n at r ZT G ⊢;have P:=ae (HR.aa r ly);have O:Hid (zt R w n):=zt.l r;have l0:=aj ZT.i;have u:=ae ((BS n).alloc ly (N #[U ⟨#[97]⟩,U ⟨#[110,111,110,101]⟩,U ⟨#[]⟩,U ⟨#[120,32,121]⟩,U ⟨#[116,48]⟩] 9));have ZY:=ae (P.aa u ly);have ZZ:=ae (O.then (u.P (by omega)));have f:(n.alloc (N #[U ⟨#[97]⟩,U ⟨#[110,111,110,101]⟩,U ⟨#[]⟩,U ⟨#[120,32,121]⟩,U ⟨#[116,48]⟩] 9)).heap[z (B w)+1]?=Q (N #[U ⟨#[97]⟩,U ⟨#[110,111,110,101]⟩,U ⟨#[]⟩,U ⟨#[120,32,121]⟩,U ⟨#[116,48]⟩] 9 (0,0)):=(by rw[<-G];exact gM n _)
  have y:=aj f;have j:=ae f;clear u f;generalize World.alloc n _=WL at ZY ZZ j y ⊢;refine(ay R _ 5 _ ZY (by omega) (by omega) (by omega)).P ?_;rintro e D⟨z3,rfl,o,S,g,b⟩;obtain⟨m,rfl⟩:=p9 o;have l:m<5:=by omega
  have L:=ae g;have C:=ae (ZZ.k b);obtain⟨sx,ZM⟩:=oE ((b.p (z (B w)+1) y (by omega)).k j) m l;clear g b j ZY ZZ;go_wp2;go_ret;exact⟨sx,rfl,_,by omega,L,C⟩
def DPS (w:E)(e:Ending)(b:E):Prop:=∃(a0:O_) (n0 c0:Nat) (f0:Nat->Source) (a1:O_) (n1 c1:Nat) (f1:Nat->Target) (t tx:F_),e=ZI (.tuple #[ZJ #[Z a0 n0 c0,Z a1 n1 c1],U t,U tx])/\HSp (z (B w)) b a0 n0 f0 a1 n1 f1/\Below (z (B w)) w b
def Ic{s0 s1:F_}{fz:Nat × Nat}(h:w.heap[b]?=Q (N #[U s0,U s1] t fz))(k:Nat)(f:k<2):∃s,ZV w (T b k Y)=Q (U s):=by
 match k,f with
 |0,_=>exact⟨s0,by simp[World.cell?,h]⟩
 |1,_=>exact⟨s1,by simp[World.cell?,h]⟩
 |j+2,h5=>exact absurd h5 (by omega)
def yw{v0 v1:ZB}{fz:Nat × Nat}(h:w.heap[b]?=Q (N #[u0,u1] t fz)):((w.setCell (T b 0 Y) v0).setCell (T b 1 Y) v1).heap[b]?=Q (N #[v0,v1] t fz):=by simp[World.setCell,NR,h]
def cR (h:V.heap[b]?=Q (N #[u0,u1] t (0,0))):ZV V (T b 0 Y)=Q u0/\ZV V (T b 1 Y)=Q u1:=⟨by simp[World.cell?,h],by simp[World.cell?,h]⟩
def FJ (h:V.heap[b]?=Q (N #[u0,u1] t (0,0))):ZW V (T b 0 Y)=ZA/\ZW V (T b 1 Y)=ZA/\b<z (B V):=⟨by simp[World.frozen?,h],by simp[World.frozen?,h],aj h⟩
structure PSt (w:E)(R h b:Nat)(a0:O_)(n0 c0:Nat)(f0:Nat->Source)(a1:O_)(n1 c1:Nat)(f1:Nat->Target)(u0 u1:ZB)(V:E):Prop where
 bl:Below (z (B w)) w V
 sp:HSp h V a0 n0 f0 a1 n1 f1
 rb:V.heap[z (B w)]?=Q (N #[u0,u1] 29 (0,0))
 sb:V.heap[b]?=Q (N #[Z a0 n0 c0,Z a1 n1 c1] 29 (0,0))
 hR:z (B w)<R/\R<h/\h<=b
section
variable {w V ZN:E}{R h b:Nat}{a0 a1:O_}{n0 c0 n1 c1:Nat}{f0:Nat->Source}{f1:Nat->Target}{u0 u1:ZB}
def PSt.on (s:PSt w R h b a0 n0 c0 f0 a1 n1 c1 f1 u0 u1 V)(f:zt R V ZN):PSt w R h b a0 n0 c0 f0 a1 n1 c1 f1 u0 u1 ZN:=
 have k:=s.hR
 ⟨s.bl.k (f.aa (by omega) s.bl.size),s.sp.agr (f.agr k.2.1),(f.p _ (aj s.rb) (by omega)).k s.rb,(f.p _ (aj s.sb) (by omega)).k s.sb,k⟩
def PSt.be (s:PSt w R h b a0 n0 c0 f0 a1 n1 c1 f1 u0 u1 V)(f:Below (z (B V)) V ZN):PSt w R h b a0 n0 c0 f0 a1 n1 c1 f1 u0 u1 ZN:=s.on (zt.l f)
def PSt.put (s:PSt w R h b a0 n0 c0 f0 a1 n1 c1 f1 u0 u1 V)(g f:ZB):PSt w R h b a0 n0 c0 f0 a1 n1 c1 f1 g f ((V.setCell (T (z (B w)) 0 Y) g).setCell (T (z (B w)) 1 Y) f):=
 have k:=s.hR;have i:zt (z (B w)) V ((V.setCell (T (z (B w)) 0 Y) g).setCell (T (z (B w)) 1 Y) f):=ce (ce (zt.refl _ _) 0 g) 1 f
 ⟨s.bl.k (i.aa ly s.bl.size),s.sp.agr (i.agr (by omega)),yw s.rb,(i.p _ (aj s.sb) (by omega)).k s.sb,k⟩
def PSt.big (s:PSt w R h b a0 n0 c0 f0 a1 n1 c1 f1 u0 u1 V):h<=z (B V):=by have:=aj s.sb;have:=s.hR;omega
end
def od (a:O_)(n j_:Nat)(w:E)(hn:(n:Int)<=1048576)(hc:n<=j_)(hS:ByteSl w a n):Calls Pg 8 #[Z a n j_] w λe w'=>DPS w e w':=by
 have S0:=ae hS;clear hS;go_enter func8,ntmps8;go_wp2_with fail;obtain⟨W0,ZR⟩:∃W:E,ZU w (N #[Z Y 0 0,Z Y 0 0] 29)=W:=⟨_,rfl⟩
 obtain⟨A0,KA,hzA⟩:=nb1 ZR;have O:=ae ZR;clear ZR;rw[O.i];clear O;refine(lR a n j_ _ hn hc (S0.aa A0 ly)).P ?_;rintro e ZO⟨R,rfl,hRz,ZQ,L⟩;have R1:=ae ZQ;have ZM:=ae (A0.k (L.P (by omega)));have K1:=ae ((L.p (z (B w)) (by omega)).k KA);have hs1:=L.size;have D:=ZQ.lt;clear ZQ L A0 KA;go_wp2_with fail;refine(Cz R 0 _ R1 (by omega)).P ?_;rintro e ZS⟨a0,n0,c0,f0,a1,n1,c1,f1,rfl,ZP,q2,hq2,ZN,M⟩;have fd:=M.size;have P:=(BS ZS).alloc ly (N #[Z a0 n0 c0,Z a1 n1 c1] 29);have ZL:=ZM.k (M.aa (by omega) ZM.size);have C:Hid (PSt w R (z (B ZO)) (z (B ZS)) a0 n0 c0 f0 a1 n1 c1 f1 (Z Y 0 0) (Z Y 0 0) (ZU ZS (N #[Z a0 n0 c0,Z a1 n1 c1] 29))):=⟨ZL.k (P.P ZL.size),ZP.agr (de P ly),(P.p (z (B w)) (by omega)).k ((M.p (z (B w)) (by omega) (by omega)).k K1),gM ZS _,by omega,D,fd⟩
 have l:=ae (ZN.aa P ly);clear ZP ZN M ZL P R1 ZM K1;go_wp2_with fail;generalize World.alloc ZS _=WX at C l ⊢;generalize (z (B ZS))=b at C ⊢;refine(dH R _ _ l (by omega)).P ?_;rintro e w3⟨nm,rfl,bt,hR,o⟩;replace C:=ae (C.on o);replace l:=ae hR;clear o hR;go_wp2_with fail;refine(ay R _ 10 _ l (by omega) (by omega) (by omega)).P ?_;rintro e w4⟨z4,rfl,h40,h41,hR,o⟩;replace C:=ae (C.on o);replace l:=ae hR;clear o hR bt;go_upto_if 16 with fail;go_cut [7] (λs wx=>∃(t:F_) (q:Nat),s=U t/\q<=q2+5/\Hid (Rd wx R q)/\Hid (PSt w R (z (B ZO)) b a0 n0 c0 f0 a1 n1 c1 f1 (Z Y 0 0) (Z Y 0 0) wx));case first =>
  by_cases h4:z4=0;{subst h4;obtain⟨y0,y1⟩:=cR C.sb;go_wp2_with fail;refine(iz R _ (z (B ZO)) n0 c0 n1 c1 a0 f0 a1 f1 _ l (by omega) D C.sp).P ?_;rintro e w5⟨nm2,rfl,q5,hq5,hR,o⟩;clear y0 y1;replace C:=ae (C.on o);replace l:=ae hR;clear o hR;go_wp2;go_meet;exact⟨_,_,rfl,by omega,l,C⟩};{go_wp2;go_meet;exact⟨_,_,rfl,by omega,l,C⟩}
 case rest =>
 clear C l;obtain⟨t,q,rfl,hq,l,C⟩:=hcut;go_wp2_with fail;refine(ay R _ 12 _ l (by omega) (by omega) (by omega)).P ?_;rintro e w6⟨z6,rfl,ld,aq,hR,o⟩;replace C:=ae (C.on o);replace l:=ae hR;clear o hR;have hlo:=C.hR;have r:=ae C.sp;by_cases h6:z6=0;case' neg =>go_wp2_with fail;refine(ay R _ 20 _ l (by omega) (by omega) (by omega)).P ?_;rintro e w6⟨z7,rfl,h70,h71,hR,o⟩;replace r:=ae (r.agr (o.agr D));replace C:=ae (C.on o);replace l:=ae hR;clear o hR ld aq;have mark:=True.intro;by_cases h7:z7=0
 all_goals
  (try subst h6)
  (try subst h7)
  obtain⟨y0,y1⟩:=cR C.sb;go_wp2_with fail;clear y0 y1;refine wp_region_held_drew (S:=λV=>ZV V (T b 0 Y)=Q _/\ZV V (T b 1 Y)=Q _) (by as_aux_lemma=>kernel_rfl) (cR C.sb) λ_=>?_;replace C:=ae (C.be br.drew);replace r:=ae (r.agr (de br.drew ly));replace l:=ae (l.aa br.drew ly);generalize w6.drew=v at C l r ⊢
  (try (clear mark;obtain⟨b0,rfl⟩:∃x,x=a0:=⟨_,rfl⟩;obtain⟨ZY,rfl⟩:∃x,x=a1:=⟨_,rfl⟩;obtain⟨m0,rfl⟩:∃x,x=n0:=⟨_,rfl⟩;obtain⟨ZT,rfl⟩:∃x,x=n1:=⟨_,rfl⟩;obtain⟨ZZ,rfl⟩:∃x,x=c0:=⟨_,rfl⟩;obtain⟨H,rfl⟩:∃x,x=c1:=⟨_,rfl⟩))
  have p:=ae (cR C.sb);repeat' first
   |(refine jQ (i:=2) (j:=4) rfl rfl (by as_aux_lemma=>kernel_rfl) (λK f=>?_) (λK f=>?_))
   |(refine jQ (i:=3) (j:=4) rfl rfl (by as_aux_lemma=>kernel_rfl) (λK f=>?_) (λK f=>?_))
   |(refine jQ (i:=4) (j:=6) rfl rfl (by as_aux_lemma=>kernel_rfl) (λK f=>?_) (λK f=>?_))
   |(refine jQ (i:=4) (j:=9) rfl rfl (by as_aux_lemma=>kernel_rfl) (λK f=>?_) (λK f=>?_))
   |(refine jQ (i:=8) (j:=9) rfl rfl (by as_aux_lemma=>kernel_rfl) (λK f=>?_) (λK f=>?_))
   |(refine wpAnyH_done (by as_aux_lemma=>kernel_rfl) ?_ _;obtain⟨r0,r1⟩:=cR C.rb;go_wp2;first|(have:=u;exact bp (v:=.tuple #[ZJ #[Z b0 m0 ZZ,Z ZY ZT H],U sx,U ⟨#[120]⟩]) (by simp[results,results8,go_sem,r0,r1]) rfl ⟨_,_,_,_,_,_,_,_,_,_,rfl,r.P (by omega),C.bl⟩)|exact bp (v:=.tuple #[ZJ #[Z b0 m0 ZZ,Z ZY ZT H],U t,U sx]) (by simp[results,results8,go_sem,r0,r1]) rfl ⟨_,_,_,_,_,_,_,_,_,_,rfl,r.P (by omega),C.bl⟩)
   |(go_simp;go_at_call 19;refine(ay R _ 2 _ l (by omega) (by omega) (by omega)).P ?_;rintro e v⟨ZX,rfl,la,hz1,hR,o⟩;obtain⟨m,rfl⟩:=p9 la;have hw20:IntKind.i64.wrap (2000+(m:Int))=2000+(m:Int):=(by rw[nL];omega);(try replace r:=ae (r.agr (o.agr D)));(try replace u:=ae ((o.p g (aj u) (by omega)).k u));replace C:=ae (C.on o);replace l:=ae hR;clear o hR;replace p:=ae (cR C.sb);refine f _ _ p ?_;clear f K;(try simp only[Act.put,z_]))
   |(go_simp;go_at_call 34;refine(Ak (z (B ZO)) n0 c0 n1 c1 a0 f0 a1 f1 m _ (by omega) (by omega) C.sp).P ?_;rintro e v⟨b0,m0,ZZ,g0,ZY,ZT,H,g1,rfl,hH,y⟩;replace r:=ae (hH.P C.big);(try replace u:=ae ((y.p g (aj u)).k u));replace C:=ae (C.be y);replace l:=ae (l.aa y ly);clear hH y;replace p:=ae (cR C.sb);refine f _ _ p ?_;clear f K;(try simp only[Act.put,z_]))
   |(go_simp;go_at_call 36;refine(fT R _ _ l (by omega)).P ?_;rintro e v⟨sx,rfl,-,q8,hq8,hR,o⟩;replace r:=ae (r.agr (o.agr D));replace C:=ae (C.on o);clear l o hR;replace p:=ae (cR C.sb);refine f _ _ p ?_;clear f K;(try simp only[Act.put,z_]))
   |(go_simp;go_at_call 35;refine(eP ⟨#[112]⟩ (2000+m) _ (by show 1*(2000+m)<=4000;omega) (by omega)).P ?_;rintro e w9⟨sx,rfl,-,hw⟩;rw[hw];clear hw;replace p:=ae (cR C.sb);refine f _ _ p ?_;clear f K;(try simp only[Act.put,z_]))
   |(refine aN 0 (v:=?_) rfl rfl (by as_aux_lemma=>kernel_rfl) (λ_ _ _ h=>h) rfl ?_ p ?_;rotate_left;(focus (intro wz G;obtain⟨s0,s1⟩:=G;go_simp;(try with_reducible rfl);done));(try simp only[Act.put,z_]))
   |(refine li 0 rfl rfl (by as_aux_lemma=>kernel_rfl) (λK f=>?_))
   |(refine aN 5 (v:=?_) rfl rfl (by as_aux_lemma=>kernel_rfl) (λ_ _ _ h=>h) rfl ?_ p ?_;rotate_left;(focus (intro wz G;obtain⟨s0,s1⟩:=G;go_simp;(try with_reducible rfl);done));(try simp only[Act.put,z_]))
   |(refine aN 7 (v:=?_) rfl rfl (by as_aux_lemma=>kernel_rfl) (λ_ _ _ h=>h) rfl ?_ p ?_;rotate_left;(focus (intro wz G;obtain⟨s0,s1⟩:=G;go_simp;(try with_reducible rfl);done));(try simp only[Act.put,z_]))
   |(refine li 5 rfl rfl (by as_aux_lemma=>kernel_rfl) (λK f=>?_))
   |(obtain⟨sx,ex⟩:=Ic u m (by omega);go_simp;clear ex;replace p:=ae (cR C.sb);refine f _ _ p ?_;clear f K;(try simp only[Act.put,z_]))
   |(have u:Hid ((ZU v (N #[U ⟨#[97]⟩,U ⟨#[122,110,101,119]⟩] 9)).heap[z (B v)]?=Q (N #[U ⟨#[97]⟩,U ⟨#[122,110,101,119]⟩] 9 (0,0))):=gM v _;go_simp;have y:=(BS v).alloc ly (N #[U ⟨#[97]⟩,U ⟨#[122,110,101,119]⟩] 9);(try replace r:=ae (r.agr (de y ly)));have hg:=C.big;replace C:=ae (C.be y);(try replace l:=ae (l.aa y ly));clear y;refine f _ (ZU v (N #[U ⟨#[97]⟩,U ⟨#[122,110,101,119]⟩] 9)) (cR C.sb) ?_;replace p:=ae (cR C.sb);clear f K;generalize (z (B v))=g at u hg ⊢;generalize ZU v (N #[U ⟨#[97]⟩,U ⟨#[122,110,101,119]⟩] 9)=v at *;(try simp only[Act.put,z_]))
   |(obtain⟨r0,r1⟩:=cR C.rb;obtain⟨t0,t1,l0⟩:=FJ C.rb;go_simp;clear r0 r1 t0 t1 l0;(try replace u:=ae (((qh _ (T (z (B w)) 1 Y) (Z ZY ZT H) g (by show g≠z (B w);omega)).k (qh v (T (z (B w)) 0 Y) (Z b0 m0 ZZ) g (by show g≠z (B w);omega))).k u));replace r:=ae (r.agr ((fl (X:=z (B w)) (w:=v) (j:=0) (by omega) (Z b0 m0 ZZ)).k (fl (X:=z (B w)) (j:=1) (by omega) (Z ZY ZT H))));replace C:=ae (C.put (Z b0 m0 ZZ) (Z ZY ZT H));(try clear l);replace p:=ae (cR C.sb);refine f _ ((v.setCell (T (z (B w)) 0 Y) (Z b0 m0 ZZ)).setCell (T (z (B w)) 1 Y) (Z ZY ZT H)) p ?_;clear f K;generalize (v.setCell (T (z (B w)) 0 Y) (Z b0 m0 ZZ)).setCell (T (z (B w)) 1 Y) (Z ZY ZT H)=v at *;(try simp only[Act.put,z_]))
   |(go_simp;replace p:=ae (cR C.sb);refine f _ _ p ?_;clear f K;(try simp only[Act.put,z_]))
def DPT (w:E)(e:Ending)(b:E):Prop:=∃(a0:O_) (n0 c0:Nat) (a1:O_) (n1 c1:Nat) (t:F_) (g m c:Nat) (f:Nat->Ins),e=ZI (.tuple #[ZJ #[Z a0 n0 c0,Z a1 n1 c1],U t,ZJ #[Z (Q (T g 0 Y)) m c]])/\Qj b g 0 m f/\m<=201/\(∀j,j<m->(f j).s.size<=5000)/\Below (z (B w)) w b
def I9{c:Nat}{L:List I3}(h:IR w b g c L):Qj w g 0 (A L) (cY L):=⟨h.lt.2,h.at⟩
def vR (a:O_)(n j_:Nat)(w:E)(hn:(n:Int)<=1048576)(hc:n<=j_)(D:ByteSl w a n):Calls Pg 7 #[Z a n j_] w λe w'=>DPT w e w':=by
 have S0:=ae D;clear D;go_enter func7,ntmps7;go_wp2_with fail;obtain⟨W0,x⟩:∃W:E,ZU (ZU w (N #[Z Y 0 0,Z Y 0 0] 29)) (N #[Z Y 0 0] 37)=W:=⟨_,rfl⟩
 obtain⟨ZS,-,-,hzA⟩:=nb2 x;have q:=ae x;clear x;have KA:Hid (W0.heap[z (B w)]?=Q (N #[Z Y 0 0,Z Y 0 0] 29 (0,0))):=by rw[<-q.i];have h1:=(a8 (z (B (ZU w (N #[Z Y 0 0,Z Y 0 0] 29)))) (ZU w (N #[Z Y 0 0,Z Y 0 0] 29))).alloc ly (N #[Z Y 0 0] 37);exact(h1.p (z (B w)) (by simp)).k (gM w _)
 have KB:Hid (W0.heap[z (B w)+1]?=Q (N #[Z Y 0 0] 37 (0,0))):=by rw[<-q.i];have h2:=gM (ZU w (N #[Z Y 0 0,Z Y 0 0] 29)) (N #[Z Y 0 0] 37);rw[show(z (B (ZU w (N #[Z Y 0 0,Z Y 0 0] 29))))=z (B w)+1 by simp] at h2;exact h2
 rw[q.i];clear q;refine(lR a n j_ _ hn hc (S0.i.aa ZS.i ly)).P ?_;rintro e w1⟨R,rfl,hRz,ZX,o⟩;have R1:=ae ZX;have hs1:=o.size;have hRl:=ZX.lt;have T1:=ae ((S0.i.aa ZS.i ly).aa o ly);have B1:=ae (ZS.i.k (o.P (by omega)));have K1:=ae ((o.p (z (B w)) (by omega)).k KA.i);have M1:=ae ((o.p (z (B w)+1) (by omega)).k KB.i);clear ZX o ZS KA KB;go_wp2_with fail;refine(od a n j_ _ hn hc T1.i).P ?_;rintro e b⟨a0,n0,c0,f0,a1,n1,c1,f1,t,tx,rfl,-,ZY⟩;have bt:=ZY.size;obtain⟨ZR,u⟩:∃W:E,ZU b (N #[Z a0 n0 c0,Z a1 n1 c1] 29)=W:=⟨_,rfl⟩
 obtain⟨M,S6,-⟩:=nb1 u;replace M:=M.i;have ZT:=ae u;clear u;have ZZ:=ae (ZY.k (M.P bt));have R6:=ae (R1.i.aa ZZ.i ly);have ZP:=ae (B1.i.k (ZZ.i.P (by omega)));have K6:=ae ((ZZ.i.p (z (B w)) (by omega)).k K1.i);have M6:=ae ((ZZ.i.p (z (B w)+1) (by omega)).k M1.i);clear ZY M ZZ R1 B1 K1 M1 T1;go_wp2_with fail;rw[ZT.i];clear ZT;have SB:Hid (∀V:E,V.heap[z (B b)]?=Q (N #[Z a0 n0 c0,Z a1 n1 c1] 29 (0,0))->V.heap[z (B b)]?=Q (N #[Z a0 n0 c0,Z a1 n1 c1] 29 (0,0))/\ZV V (T (z (B b)) 0 Y)=Q (Z a0 n0 c0)/\ZV V (T (z (B b)) 1 Y)=Q (Z a1 n1 c1)):=λV h=>⟨h,by simp[World.cell?,h],by simp[World.cell?,h]⟩
 refine wp_region_held_drew (S:=λV=>V.heap[z (B b)]?=Q (N #[Z a0 n0 c0,Z a1 n1 c1] 29 (0,0))/\ZV V (T (z (B b)) 0 Y)=Q (Z a0 n0 c0)/\ZV V (T (z (B b)) 1 Y)=Q (Z a1 n1 c1)) (by as_aux_lemma=>kernel_rfl) (SB.i ZR S6.i) λD=>?_;have j:=ae D;clear D;have ex:=aj S6.i;have hs6:=ZP.i.size;have H:Hid (zt R ZR ZR.drew):=zt.l br.drew;have P0:=ae (R6.i.aa br.drew ly);generalize ZR.drew=v0 at H P0 j ⊢;iterate 3
  refine aN 0 (v:=?_) rfl rfl (by as_aux_lemma=>kernel_rfl) (λ_ _ _ h=>h) rfl ?_ j.i ?_;rotate_left
  ·(rintro wz⟨s0,s1,s2⟩;go_simp)
   (try with_reducible rfl)
  (try simp only[Act.put,z_])
 refine aL (i:=3) rfl (by as_aux_lemma=>kernel_rfl) λK l=>?_;go_simp;go_at_call 30;refine(pF R _ _ P0.i (by omega)).P ?_;rintro e r⟨L,g,c,rfl,ZO,-,C,ZQ,q4,hq4,-,hO⟩;have hgb:=ZO.lt.1;have h06:=H.i.size;have s:=H.i.k hO;have G:=ae (I9 ZO);have Z4:=ae (iI ZQ);have BE:=ae (ZP.i.k (s.aa (by omega) ZP.i.size));have ZL:=ae ((s.p (z (B w)) (aj K6.i) (by omega)).k K6.i);have ME:=ae ((s.p (z (B w)+1) (aj M6.i) (by omega)).k M6.i);have ZM:=ae ((s.p (z (B b)) ex (by omega)).k S6.i);clear ZO ZQ hO s j P0 H;have j:=ae (SB.i r ZM.i);refine l _ _ j.i ?_;clear l K
 (try simp only[Act.put,z_])
 generalize (A L)=m at C G Z4 ⊢;generalize cY L=f at G Z4;have kr:=ZL.i;have r0:ZV r (T (z (B w)) 0 Y)=Q (Z Y 0 0):=by simp[World.cell?,kr]
 have r1:ZV r (T (z (B w)) 1 Y)=Q (Z Y 0 0):=by simp[World.cell?,kr]
 have P:ZW r (T (z (B w)) 0 Y)=ZA:=by simp[World.frozen?,kr]
 have t1:ZW r (T (z (B w)) 1 Y)=ZA:=by simp[World.frozen?,kr]
 have ZN:=aj kr;clear kr;refine aL (i:=4) rfl (by as_aux_lemma=>kernel_rfl) λK l=>?_;go_simp;clear r0 r1 P t1 ZN j;have KF:=ae (yw (v0:=Z a0 n0 c0) (v1:=Z a1 n1 c1) ZL.i);have BF:=ae ((BE.i.setCell (p:=(T (z (B w)) 0 Y)) ly (Z a0 n0 c0)).setCell (p:=(T (z (B w)) 1 Y)) ly (Z a1 n1 c1));have X:=ae (((qh _ (T (z (B w)) 1 Y) (Z a1 n1 c1) (z (B b)) (by show (z (B b))≠z (B w);omega)).k (qh r (T (z (B w)) 0 Y) (Z a0 n0 c0) (z (B b)) (by show (z (B b))≠z (B w);omega))).k ZM.i);have MF:=ae (((qh _ (T (z (B w)) 1 Y) (Z a1 n1 c1) (z (B w)+1) (by show (z (B w))+1≠z (B w);omega)).k (qh r (T (z (B w)) 0 Y) (Z a0 n0 c0) (z (B w)+1) (by show (z (B w))+1≠z (B w);omega))).k ME.i);have IF:=ae ((G.i.setOther (T (z (B w)) 0 Y) (by show (z (B w))≠g;omega) (Z a0 n0 c0)).setOther (T (z (B w)) 1 Y) (by show (z (B w))≠g;omega) (Z a1 n1 c1));clear BE ZL ME ZM G;generalize World.setCell (World.setCell r _ _) _ _=y at *;have j:=ae (SB.i y X.i);refine l _ _ j.i ?_;clear l K
 (try simp only[Act.put,z_])
 refine aL (i:=5) rfl (by as_aux_lemma=>kernel_rfl) λK l=>?_;go_simp;refine l _ _ j.i ?_;clear l K
 (try simp only[Act.put,z_])
 have kr:=MF.i;have r0:ZV y (T (z (B w)+1) 0 Y)=Q (Z Y 0 0):=by simp[World.cell?,kr]
 have P:ZW y (T (z (B w)+1) 0 Y)=ZA:=by simp[World.frozen?,kr]
 have ZN:=aj kr;have M0:Hid ((y.setCell (T (z (B w)+1) 0 Y) (Z (Q (T g 0 Y)) m c)).cell? (T (z (B w)+1) 0 Y)=Q (Z (Q (T g 0 Y)) m c)):=BO _ _ _ (by rw[r0];rfl);clear kr;refine aL (i:=6) rfl (by as_aux_lemma=>kernel_rfl) λK l=>?_;go_simp;clear r0 P ZN j;have KG:=ae ((qh y (T (z (B w)+1) 0 Y) (Z (Q (T g 0 Y)) m c) (z (B w)) (by show (z (B w))≠z (B w)+1;omega)).k KF.i);have BG:=ae (BF.i.setCell (p:=(T (z (B w)+1) 0 Y)) (BV _) (Z (Q (T g 0 Y)) m c));have SG:=ae ((qh y (T (z (B w)+1) 0 Y) (Z (Q (T g 0 Y)) m c) (z (B b)) (by show (z (B b))≠z (B w)+1;omega)).k X.i);have IG:=ae (IF.i.setOther (T (z (B w)+1) 0 Y) (by show (z (B w))+1≠g;omega) (Z (Q (T g 0 Y)) m c));clear KF BF X IF MF;generalize World.setCell y _ _=O at *;have j:=ae (SB.i O SG.i);refine l _ _ j.i ?_;clear l K
 (try simp only[Act.put,z_])
 refine wpAnyH_done (by as_aux_lemma=>kernel_rfl) ?_ _;have kr:=KG.i;have r0:ZV O (T (z (B w)) 0 Y)=Q (Z a0 n0 c0):=by simp[World.cell?,kr]
 have r1:ZV O (T (z (B w)) 1 Y)=Q (Z a1 n1 c1):=by simp[World.cell?,kr]
 have r2:=M0.i;clear kr;go_wp2;exact bp (v:=.tuple #[ZJ #[Z a0 n0 c0,Z a1 n1 c1],U t,ZJ #[Z (Q (T g 0 Y)) m c]]) (by simp[results,results7,go_sem,r0,r1,r2]) rfl ⟨_,_,_,_,_,_,_,g,m,c,f,rfl,IG.i,C,Z4.i,BG.i⟩
