import Derived.Test.YtpmnbjkjpnclaaaGreatDoorKB
import Derived.Test.YtpmnbjkjpnclaaaGreatDoorKC
import Derived.Test.YtpmnbjkjpnclaaaGreatDoorLZ
set_option maxRecDepth 100000
set_option maxHeartbeats 8000000
open Go renaming Addr.mk->N,Value.slice->Y,Value.string->U,Value.int->Q,Value.agg->ZG,Obj.cells->J,IntKind.i64->I,World->M,World.heap->B,World.cell?->A
open Option renaming none->Z,some->T
open Bool renaming false->ZA
open Array renaming size->z
namespace Go.Proofs.YtpmnbjkjpnclaaaGreatDoor.Vp
open Tryz RowKit Ca
theorem uz (R p b0 n0 c0 n1 c1:Nat)(a0:Option Addr)(f0:Nat->Source)(a1:Option Addr)(f1:Nat->Target)(w:M)(hR:Rd w R p)(hp:p<=19900)(hH:HSp b0 w a0 n0 f0 a1 n1 f1)(hg:∀i,i<n1->1<=(f1 i).m/\(f1 i).m<=200)(hm0:n0<=250)(hm1:n1<=250):Calls Tryz.prog 41 #[.pointer (T (N R 0 Z)),ZG #[Y a0 n0 c0,Y a1 n1 c1]] w λe w'=>DH w R (p+1100) e w':=by
 have HR:=ae hR;have Gl:=hR.lt;obtain⟨hs,ht⟩:=hH.sl w (Agr.refl _ _);have HF:=ae hH.az;have HG:=ae hg;have l:=ae hs;have HT:=ae ht;clear hs ht hH hg hR;obtain⟨GC,hi,GE,GH,Gn⟩:=JT ip;obtain⟨FM,ZS,DS,FV,Fd⟩:=JT fJ;have A0:=ae (((BS w).alloc ly (J #[Y a0 n0 c0,Y a1 n1 c1] 27)).alloc (by simp) (J #[Y Z 0 0,Y Z 0 0] 27));have Gc:((w.alloc (J #[Y a0 n0 c0,Y a1 n1 c1] 27)).alloc (J #[Y Z 0 0,Y Z 0 0] 27)).heap.size=z (B w)+2:=by simp
 have KR:Hid (((w.alloc (J #[Y a0 n0 c0,Y a1 n1 c1] 27)).alloc (J #[Y Z 0 0,Y Z 0 0] 27)).heap[z (B w)+1]?=T (J #[Y Z 0 0,Y Z 0 0] 27 (0,0))):=by have h2:=gM (w.alloc (J #[Y a0 n0 c0,Y a1 n1 c1] 27)) (J #[Y Z 0 0,Y Z 0 0] 27);rw[show(w.alloc (J #[Y a0 n0 c0,Y a1 n1 c1] 27)).heap.size=z (B w)+1 by simp] at h2;exact h2
 go_enter func41,ntmps41;go_wp2_with fail;generalize World.alloc (World.alloc w _) _=W at A0 Gc KR ⊢;refine(eC a0 n0 c0 f0 a1 n1 c1 f1 ⟨#[]⟩ W (by omega) (by omega) (l.aa A0 ly) (HT.aa A0 ly) (λi hi=>by have:=(HF i hi).1;unfold aY;omega)).mono ?_;rintro e ZT ⟨v0,v1,o,rfl,Bk,DE,hM,sm⟩;obtain⟨a2,c2,rfl⟩:=aL Bk;obtain⟨a5,c5,rfl⟩:=aL DE.x;have G1:=ae (DO hM HF);have N1:=ae (DT hM HG);have Ge:=xe hM;have Gi:=gN f0 ⟨#[]⟩ n0;clear hM l HT HF HG;generalize keepS f0 ⟨#[]⟩ n0=E at Bk Gi ⊢;have hsz:=sm.size;have X1:=ae (vj (rr:=z (B w)+1) (base:=z (B w)+2) ((sm.block _ (by omega)).trans KR) (by omega) (by omega) (by omega) Bk DE);have B1:=ae ((A0.trans (sm.mono (by omega))).alloc (by omega) (J #[Y a2 E.length c2,Y a5 o.length c5] 27));clear Bk DE sm A0 KR;have R1:=ae (HR.low B1 (by omega));have O1:Hid (Only R w (ZT.alloc (J #[Y a2 E.length c2,Y a5 o.length c5] 27))):=Only.q B1;go_wp2_with fail;generalize World.alloc ZT _=W2 at X1 B1 R1 O1 ⊢;refine(aw R p 8 _ R1 (by omega) (by omega) (by omega)).mono ?_;rintro e s ⟨ZR,rfl,hz0',hz1',F8,FK⟩;have m:=ae (X1.ac FK (by omega));have R2:=ae F8;have O2:=ae (O1.trans FK);clear F8 FK X1 R1 O1 B1 Gc HR;obtain⟨ZI,ZK⟩:=m.cells;obtain⟨aq,bt⟩:=m.open
 have ld:=m.lt;go_upto_block 0 with fail;go_cut [6,7] (λ_ _ wx=>∃(b0:Option Addr) (m0 k0:Nat) (g0:Nat->Source) (b1:Option Addr) (m1 k1:Nat) (g1:Nat->Target) (q':Nat),q'<=p+1100/\Hid (wx.heap[z (B ZT)]?=T (J #[Y b0 m0 k0,Y b1 m1 k1] 27 (0,0)))/\Hid (wx.heap[z (B w)+1]?=T (J #[Y Z 0 0,Y Z 0 0] 27 (0,0)))/\Hid (HSp (z (B w)+2) wx b0 m0 g0 b1 m1 g1)/\Hid (Rd wx R q')/\Hid (Only R w wx));case first =>
  have Gt:ZR=0∨ZR=1∨ZR=2∨ZR=3∨ZR=4∨ZR=5∨ZR=6∨ZR=7:=by omega
  rcases Gt with rfl|rfl|rfl|rfl|rfl|rfl|rfl|rfl
  ·go_wp2_with fail;have Gj:=m.hi;refine aD (BxS (Y a2 E.length c2) (Y a5 o.length c5) (z (B ZT))) 11 (by kernel_rfl) ?_;have l:=ae (gQ (W:=s.drew) m.ab);iterate 2
    refine aH 0 (v:=?_) rfl rfl (by kernel_rfl) (λ_ _ _ h=>h) rfl ?_ l ?_;rotate_left
    ·(rintro wz ⟨s0,s1⟩;go_simp)
     (try with_reducible rfl)
    (try simp only[Act.put,nzL])
   refine aH 3 (v:=?_) rfl rfl (by kernel_rfl) (λ_ _ _ h=>h) rfl ?_ l ?_;rotate_left
   ·(rintro wz ⟨s0,s1⟩;go_simp)
    (try with_reducible rfl)
   (try simp only[Act.put,nzL])
   refine mE (i:=2) (j:=4) rfl rfl (by kernel_rfl) (λK b=>?h1) (λK b=>?h2);case' h1 =>
    go_simp;have BQ:=ae (((BS s).alloc ly (J #[U ⟨#[97]⟩,U ⟨#[122,122]⟩,U ⟨#[]⟩,U ⟨#[120,32,121]⟩,U ⟨#[116,48]⟩] 9)).drew);have XQ:=ae (m.aa BQ ly);have RQ:=ae (R2.aa BQ ly);have OQ:=ae (O2.then (BQ.mono (by omega)));have FQ:=gM s (J #[U ⟨#[97]⟩,U ⟨#[122,122]⟩,U ⟨#[]⟩,U ⟨#[120,32,121]⟩,U ⟨#[116,48]⟩] 9);have F3:Hid ((s.alloc (J #[U ⟨#[97]⟩,U ⟨#[122,122]⟩,U ⟨#[]⟩,U ⟨#[120,32,121]⟩,U ⟨#[116,48]⟩] 9)).drew.heap[z (B s)]?=T (J #[U ⟨#[97]⟩,U ⟨#[122,122]⟩,U ⟨#[]⟩,U ⟨#[120,32,121]⟩,U ⟨#[116,48]⟩] 9 (0,0))):=FQ;have Gr:z (B s)<(s.alloc (J #[U ⟨#[97]⟩,U ⟨#[122,122]⟩,U ⟨#[]⟩,U ⟨#[120,32,121]⟩,U ⟨#[116,48]⟩] 9)).drew.heap.size:=ar FQ;clear FQ l;refine b _ _ (λ_=>gQ XQ.ab) ?_;clear b K
    (try simp only[Act.put,nzL])
    refine ai (i:=4) rfl (by kernel_rfl) λK b=>?_;go_simp;go_at_call 40;refine(aw R _ 5 _ RQ (by omega) (by omega) (by omega)).mono ?_;rintro e WL ⟨z3,rfl,ex,At,O,H⟩;obtain⟨m3,rfl⟩:=AT ex;have X4:=ae (XQ.ac H (by omega));have R4:=ae O;have O4:=ae (OQ.trans H);obtain⟨sx,FW⟩:=lZ ((H.block (z (B s)) Gr (by omega)).trans F3) m3 (by omega);clear O H F3 XQ RQ OQ;refine b _ _ (λ_=>gQ X4.ab) ?_;clear b K
    (try simp only[Act.put,nzL])
   case' h2 =>
    go_simp;go_at_call 40;refine(aw R _ 5 _ (R2.aa br.drew ly) (by omega) (by omega) (by omega)).mono ?_;rintro e G ⟨z3,rfl,ex,At,O,H⟩;obtain⟨m3,rfl⟩:=AT ex;have X:Hid (Only R s G):=(Only.q br.drew).trans H;have C:=ae (m.ac X (by omega));have R3:=ae O;have O3:=ae (O2.trans X);clear O H X l;have l:=ae (gQ C.ab);refine b _ _ (λ_=>l) ?_;clear b K
    (try simp only[Act.put,nzL])
    have hxl4:=C.lt;refine ai (i:=2) rfl (by kernel_rfl) λK b=>?_;go_simp;have BQ:=ae ((BS G).alloc ly (J #[U ⟨#[97]⟩,U ⟨#[122,122]⟩,U ⟨#[]⟩,U ⟨#[120,32,121]⟩,U ⟨#[116,48]⟩] 9));have X4:=ae (C.aa BQ ly);have R4:=ae (R3.aa BQ ly);have O4:=ae (O3.then (BQ.mono (by omega)));obtain⟨sx,FW⟩:=lZ (gM G (J #[U ⟨#[97]⟩,U ⟨#[122,122]⟩,U ⟨#[]⟩,U ⟨#[120,32,121]⟩,U ⟨#[116,48]⟩] 9)) m3 (by omega);refine b _ _ (λ_=>gQ X4.ab) ?_;clear b K BQ l
    (try simp only[Act.put,nzL])
    generalize World.alloc G _=WL at X4 R4 O4 FW ⊢
   all_goals
    have hm5:m3<5:=by omega
    have SQ:=ae X4.keepS;have l:=ae (SQ WL (λj ZS _=>rfl))
    iterate 3
     refine bH 5 rfl rfl (by kernel_rfl) λK b=>?_;go_simp;refine b _ _ (λ_=>l) ?_;clear b K
     (try simp only[Act.put,nzL])
    have FO:=X4.lt;have hxi3:=X4.hi;refine ai (i:=8) rfl (by kernel_rfl) λK b=>?_;go_simp;have AB:=ae ((BS WL).alloc ly (J #[U sx,U ⟨#[]⟩] 142));have ZJ:=ae (X4.aa AB ly);have hz6:=AB.size;refine b _ _ (λ_=>SQ _ (λj ZS _=>AB.block j ZS)) ?_;clear b K l
    (try simp only[Act.put,nzL])
    refine ai (i:=9) rfl (by kernel_rfl) λK b=>?_;refine aW rfl (.tmp 28) (.tmp 35) 24 rfl (z (B w)+2) 142 GC (ZG #[U ⟨#[]⟩,U ⟨#[]⟩]) 2 32 LH hi GE GH Gn rfl (by decide) (Y a2 E.length c2) E.length (E.flatMap bi) (by simp[Act.eval]) ZJ.src (N (z (B WL)) 0 Z) 1 1 (bi ⟨sx,⟨#[]⟩⟩) (by simp[Act.eval]) rfl (λj u hu=>cL WL _ _ _ j u hu) (by simp[bi,Value.oneCell']) (by unfold maxLen;omega) (by omega) (by omega) ?_;intro v' w7 D y _;obtain⟨a7,c7,rfl⟩:=aL D;have S7:=ae (SQ w7 (λj ZS mv=>(y.block j (lj ZS AB.size) mv).trans (AB.block j ZS)));obtain⟨c8,b8⟩:=ZJ.addS (x:=⟨sx,⟨#[]⟩⟩) D y;have X9:=ae c8;have B9:=ae b8;clear D y c8 b8;refine b _ _ (λ_=>S7) ?_;clear b K
    (try simp only[Act.put,nzL])
    refine ai (i:=10) rfl (by kernel_rfl) λK b=>?_;go_simp;refine b _ _ (λ_=>S7) ?_;clear b K
    (try simp only[Act.put,nzL])
    obtain⟨s7,t7⟩:=S7.out;have f7:w7.frozen? (N (z (B ZT)) 0 Z)=ZA:=by simp[World.frozen?,s7]
    have l7:=ar s7;clear s7;refine ai (i:=11) rfl (by kernel_rfl) λK b=>?_;go_simp;refine b _ _ (λh=>absurd rfl h) ?_;clear b K
    (try simp only[Act.put,nzL])
    refine aT (by kernel_rfl) ?_ _;have BB:=ae ((AB.mono (show (z (B w))+2<=z (B WL) by omega)).trans B9.out);have R9:=ae (R4.low BB (by omega));have O9:=ae (O4.then (BB.mono (by omega)));clear t7 f7 l7 FW;go_simp;generalize World.setCell w7 _ _=W9 at X9 R9 O9 ⊢;have ZO:=ae X9.ab;have ZQ:=ae X9.res;have ZP:=ae (eE X9.src (by simp) X9.j rfl (by rw[eL];exact(by omega:E.length+1<=300)) (by omega) G1);clear ZI ZK aq bt;go_wp2;go_meet;exact⟨_,_,_,_,_,_,_,_,_,by omega,ZO,ZQ,ZP,R9,O9⟩
  ·by_cases hl:1<(o.length:Int)
   ·obtain⟨t,rfl⟩:=je m.j.x (by omega)
    obtain⟨r0,r1,RR,rfl⟩:∃r0 r1 RR,o=r0::r1::RR:=(by
     match o,hl with
     |[],h=>simp at h
     |[_],h=>simp at h
     |r0::r1::RR,_=>exact⟨r0,r1,RR,rfl⟩)
    have n8:(r0::r1::RR).length<=250:=by omega
    obtain⟨ka,Gf⟩:=aV m.j.x (j:=0) (u:=U r0.1.e) rfl;obtain⟨kb,Ga⟩:=aV m.j.x (j:=1) (u:=Y (T (N r0.2.1 0 Z)) r0.1.m r0.2.2) rfl;obtain⟨kc,Fm⟩:=aV m.j.x (j:=2) (u:=U r1.1.e) rfl;obtain⟨kd,DQ⟩:=aV m.j.x (j:=3) (u:=Y (T (N r1.2.1 0 Z)) r1.1.m r1.2.2) rfl;have ph:=(m.j.x.lt t rfl).2;generalize ZN:(r0::r1::RR).length=nt at ZK m hl n8 Ge ⊢;have HL:=ae ZN;clear ZN;have FY:0<nt:=by omega
    have Gv:1<nt:=by omega
    have BA:=ae ((BS s).alloc ly (J #[U r0.1.e,Y (T (N r0.2.1 0 Z)) r0.1.m r0.2.2] 146));have ZJ:=ae (m.aa BA ly);have RA:=ae (R2.aa BA ly);have Gj:=m.hi;have OA:=ae (O2.then (BA.mono (by omega)));have cc:∀j,(s.alloc (J #[U r0.1.e,Y (T (N r0.2.1 0 Z)) r0.1.m r0.2.2] 146)).cell? (N t j Z)=A s (N t j Z):=λj=>BA.cell (p:=(N t j Z)) ph;have cf:∀j,(s.alloc (J #[U r0.1.e,Y (T (N r0.2.1 0 Z)) r0.1.m r0.2.2] 146)).frozen? (N t j Z)=s.frozen? (N t j Z):=λj=>BA.frozen (p:=(N t j Z)) ph;have KA:=ae ((cc 0).trans ka);have FX:=ae ((cf 0).trans Gf);have KB:=ae ((cc 1).trans kb);have CD:=ae ((cf 1).trans Ga);have KC:=ae ((cc 2).trans kc);have F7:=ae ((cf 2).trans Fm);have KD:=ae ((cc 3).trans kd);have Gb:=ae ((cf 3).trans DQ);have KX:Hid ((s.alloc (J #[U r0.1.e,Y (T (N r0.2.1 0 Z)) r0.1.m r0.2.2] 146)).heap[z (B s)]?=T (J #[U r0.1.e,Y (T (N r0.2.1 0 Z)) r0.1.m r0.2.2] 146 (0,0))):=gM s _;have Gg:t≠z (B s):=by omega
    have Gz:=BA.size;clear cc cf;go_wp2_with fail;generalize World.alloc s _=WA at ZJ RA OA KA FX KB CD KC F7 KD Gb KX Gz ⊢;have FP:=ZJ.cells.2;clear ka Gf kb Ga kc Fm kd DQ BA ZI ZK aq bt;refine aD (λV=>A V (N (z (B ZT)) 1 Z)=T (Y (T (N t 0 Z)) nt c5)/\A V (N t 2 Z)=T (U r1.1.e)/\A V (N t 3 Z)=T (Y (T (N r1.2.1 0 Z)) r1.1.m r1.2.2)) 7 (by kernel_rfl) ?_;have l:Hid (WA.drew.cell? (N (z (B ZT)) 1 Z)=T (Y (T (N t 0 Z)) nt c5)/\WA.drew.cell? (N t 2 Z)=T (U r1.1.e)/\WA.drew.cell? (N t 3 Z)=T (Y (T (N r1.2.1 0 Z)) r1.1.m r1.2.2)):=⟨FP,KC,KD⟩
    iterate 6
     refine aH 0 (v:=?_) rfl rfl (by kernel_rfl) (λ_ _ _ h=>h) rfl ?_ l ?_;rotate_left
     ·(rintro wz ⟨s0,s1,s2⟩;go_simp)
      (try with_reducible rfl)
     (try simp only[Act.put,nzL])
    refine ai (i:=6) rfl (by kernel_rfl) λK b=>?_;go_simp;refine b _ _ (λ_=>l) ?_;clear b K
    (try simp only[Act.put,nzL])
    have z0:=FX.out;have z1:=CD.out;have y0:=KA.out;have y1:=KB.out;have hgtA:t<z (B WA):=by omega
    refine ai (i:=7) rfl (by kernel_rfl) λK b=>?_;go_simp;refine b _ _ (λh=>absurd rfl h) ?_;clear b K
    (try simp only[Act.put,nzL])
    refine aT (by kernel_rfl) ?_ _;go_simp;have SW:=ae (((ZJ.sw HL.symm).set 0 (U r1.1.e)).set 1 (Y (T (N r1.2.1 0 Z)) r1.1.m r1.2.2)).drew;have qr:=(ZJ.j.x.lt t rfl).1;have BW:=ae ((((cM (z (B w)+2) WA).setCell (p:=(N t 0 Z)) qr (U r1.1.e)).setCell (p:=(N t 1 Z)) qr (Y (T (N r1.2.1 0 Z)) r1.1.m r1.2.2)).drew);have kx:((WA.setCell (N t 0 Z) (U r1.1.e)).setCell (N t 1 Z) (Y (T (N r1.2.1 0 Z)) r1.1.m r1.2.2)).drew.heap[z (B s)]?=T (J #[U r0.1.e,Y (T (N r0.2.1 0 Z)) r0.1.m r0.2.2] 146 (0,0)):=((qh _ (N t 1 Z) _ (z (B s)) (λe=>Gg (Eq.symm e))).trans (qh _ (N t 0 Z) _ (z (B s)) (λe=>Gg (Eq.symm e)))).trans KX;clear l z0 z1 y0 y1 KA FX KB CD KC F7 KD Gb KX FP;generalize World.drew (World.setCell (World.setCell WA _ _) _ _)=WB at SW BW kx ⊢;obtain⟨kc,Fm⟩:=aV SW.x (j:=2) (u:=U r1.1.e) rfl;obtain⟨kd,DQ⟩:=aV SW.x (j:=3) (u:=Y (T (N r1.2.1 0 Z)) r1.1.m r1.2.2) rfl;have n9:=SW.ab;have kv:A WB (N (z (B ZT)) 1 Z)=T (Y (T (N t 0 Z)) nt c5):=by simp[World.cell?,n9]
    have P:A WB (N (z (B s)) 0 Z)=T (U r0.1.e):=by simp[World.cell?,kx]
    have x1:A WB (N (z (B s)) 1 Z)=T (Y (T (N r0.2.1 0 Z)) r0.1.m r0.2.2):=by simp[World.cell?,kx]
    have hgtB:t<z (B WB):=(SW.x.lt t rfl).2;have kv0:A WB (N (z (B ZT)) 0 Z)=T (Y a2 E.length c2):=by simp[World.cell?,n9]
    have l1:=ar n9;have Gw:¬ t=z (B ZT):=by intro e;obtain⟨Gx,FU⟩:=dE SW.x t rfl;rw[e] at FU;have h3:=n9.symm.trans FU;cases h3
    have hg1':¬ (z (B ZT))=t:=λe=>Gw e.symm;have ur:=ae ((SW.set 2 (U r0.1.e)).set 3 (Y (T (N r0.2.1 0 Z)) r0.1.m r0.2.2))
    have ZP:=ae (ur.fin rfl (L:=r1::r0::RR) (by rw[<-nw];rfl) HL.symm (by omega) (by have:=HL.out;simp only[BG] at this ⊢;omega) (by
     intro r hr;simp only[BO] at hr ⊢;rcases hr with h|h|h;{exact .inr (.inl h)};{exact .inl h}
     ·exact .inr (.inr h)) G1)
    have BF:=ae ((BW.setCell (p:=(N t 2 Z)) qr (U r0.1.e)).setCell (p:=(N t 3 Z)) qr (Y (T (N r0.2.1 0 Z)) r0.1.m r0.2.2));have R9:=ae (RA.low BF (by omega));have O9:=ae (OA.then (BF.mono (show (z (B w))<=z (B w)+2 by omega)));have ZO:=ae ur.ab;have ZQ:=ae ur.res;clear n9 kx SW ur BF BW ZJ RA OA;go_wp2;go_meet;exact⟨_,_,_,_,_,_,_,_,_,by omega,ZO,ZQ,ZP,R9,O9⟩
   {skip;have ZO:=ae m.ab;have ZQ:=ae m.res;have ZP:=ae (eE m.src rfl m.j rfl (by omega) (by omega) G1);go_wp2;go_meet;exact⟨_,_,_,_,_,_,_,_,_,by omega,ZO,ZQ,ZP,R2,O2⟩}
  ·by_cases hl:0<(o.length:Int)
   ·go_wp2_with fail;obtain⟨t,rfl⟩:=je m.j.x (by omega)
    obtain⟨r0,RR,rfl⟩:∃r0 RR,o=r0::RR:=(by
     match o,hl with
     |[],h=>simp at h
     |r0::RR,_=>exact⟨r0,RR,rfl⟩)
    have n8:(r0::RR).length<=250:=by omega
    have kb:=(aV m.j.x (j:=1) (u:=Y (T (N r0.2.1 0 Z)) r0.1.m r0.2.2) rfl).1;have ph:=(m.j.x.lt t rfl).2;have qr:=(m.j.x.lt t rfl).1;have AC:=ae (m.j.D r0 (NL ..));have Gy:=N1.out r0 (NL ..);have Gu:=ae (G1 r0 (NL ..)).2;generalize ZN:(r0::RR).length=nt at ZK m hl n8 Ge ⊢;have HL:=ae ZN;clear ZN;have FY:0<nt:=by omega
    have hRb:R<z (B w)+2:=by omega
    refine aD (λV=>V.heap[z (B ZT)]?=T (J #[Y a2 E.length c2,Y (T (N t 0 Z)) nt c5] 27 (0,0))/\A V (N (z (B ZT)) 1 Z)=T (Y (T (N t 0 Z)) nt c5)/\A V (N t 1 Z)=T (Y (T (N r0.2.1 0 Z)) r0.1.m r0.2.2)) 11 (by kernel_rfl) ?_;have l:Hid (s.drew.heap[z (B ZT)]?=T (J #[Y a2 E.length c2,Y (T (N t 0 Z)) nt c5] 27 (0,0))/\s.drew.cell? (N (z (B ZT)) 1 Z)=T (Y (T (N t 0 Z)) nt c5)/\s.drew.cell? (N t 1 Z)=T (Y (T (N r0.2.1 0 Z)) r0.1.m r0.2.2)):=⟨m.ab,ZK,kb⟩
    iterate 8
     refine aH 0 (v:=?_) rfl rfl (by kernel_rfl) (λ_ _ _ h=>h) rfl ?_ l ?_;rotate_left
     ·(rintro wz ⟨s0,s1,s2⟩;go_simp)
      (try with_reducible rfl)
     (try simp only[Act.put,nzL])
    refine ai (i:=8) rfl (by kernel_rfl) λK b=>?_;go_simp;go_at_call 96;refine(uw R _ r0.2.1 r0.2.2 r0.1.m r0.1.D _ (R2.aa br.drew ly) (by omega) (AC.1.aa br.drew ly) Gy Gu).mono ?_;rintro e G ⟨L3,g3,d3,rfl,th,_,hL3,GF,q3,hq3,O,H⟩;have X:Hid (Only R s G):=(Only.q br.drew).trans H;have C:=ae (m.ac X (by omega));have R3:=ae O;have O3:=ae (O2.trans X);have F9:A G (N t 1 Z)=T (Y (T (N r0.2.1 0 Z)) r0.1.m r0.2.2):=(X.cell t 1 ph (by omega)).trans kb;have z3:G.frozen? (N t 1 Z)=ZA:=by obtain⟨Gx,hc⟩:=C.j.type t rfl;simp[World.frozen?,hc]
    have hgt3:=lj ph X.size;have SA:=ae (C.setA (n:=L3.length) (g:=g3) (c:=d3) (f:=dm L3) rfl HL.symm (jy (by have h:=th;unfold IR at h;rw[sT] at h;exact h)).1 (iK th) (by have:z (B s)<=g3:=th.lt.1;have:=m.lt;have:=m.hi;omega) (by omega) (kf GF) (by omega) (by rw[HL.out];omega) G1);clear th O H X l;have l:=ae (show G.heap[z (B ZT)]?=T (J #[Y a2 E.length c2,Y (T (N t 0 Z)) nt c5] 27 (0,0))/\A G (N (z (B ZT)) 1 Z)=T (Y (T (N t 0 Z)) nt c5)/\A G (N t 1 Z)=T (Y (T (N r0.2.1 0 Z)) r0.1.m r0.2.2) from⟨C.ab,C.cells.2,F9⟩);refine b _ _ (λ_=>l) ?_;clear b K
    (try simp only[Act.put,nzL])
    iterate 2
     refine bH 9 rfl rfl (by kernel_rfl) λK b=>?_;go_simp;refine b _ _ (λ_=>l) ?_;clear b K
     (try simp only[Act.put,nzL])
    refine ai (i:=11) rfl (by kernel_rfl) λK b=>?_;go_simp;refine b _ _ (λh=>absurd rfl h) ?_;clear b K
    (try simp only[Act.put,nzL])
    refine aT (by kernel_rfl) ?_ _;obtain⟨hE,hB,hQ,fd⟩:=SA.out;have ZP:=ae hE;have ZO:=ae hB;have ZQ:=ae hQ;have R4:=ae (R3.low fd (by omega));have O4:=ae (O3.then (fd.mono (show (z (B w))<=z (B w)+2 by omega)));clear hE hB hQ fd SA l kb F9 z3 hl ZI ZK aq bt;go_simp;generalize World.setCell G _ _=W4 at ZP ZO ZQ R4 O4 ⊢;go_wp2;go_meet;exact⟨_,_,_,_,_,_,_,_,_,by omega,ZO,ZQ,ZP,R4,O4⟩
   {skip;have ZO:=ae m.ab;have ZQ:=ae m.res;have ZP:=ae (eE m.src rfl m.j rfl (by omega) (by omega) G1);go_wp2;go_meet;exact⟨_,_,_,_,_,_,_,_,_,by omega,ZO,ZQ,ZP,R2,O2⟩}
  ·by_cases hl:0<(E.length:Int)
   ·go_wp2_with fail;obtain⟨gs,rfl⟩:=je m.src (by omega)
    obtain⟨P,LR,rfl⟩:∃P LR,E=P::LR:=(by
     match E,hl with
     |[],h=>simp at h
     |P::LR,_=>exact⟨P,LR,rfl⟩)
    have n8:(P::LR).length<=250:=by omega
    generalize ZN:(P::LR).length=nl at ZI m hl n8 Gi ⊢;have HL:=ae ZN;clear ZN;have FY:0<nl:=by omega
    refine aD (BxS (Y (T (N gs 0 Z)) nl c2) (Y a5 o.length c5) (z (B ZT))) 8 (by kernel_rfl) ?_;have l:=ae (gQ (W:=s.drew) m.ab);iterate 3
     refine aH 0 (v:=?_) rfl rfl (by kernel_rfl) (λ_ _ _ h=>h) rfl ?_ l ?_;rotate_left
     ·(rintro wz ⟨s0,s1⟩;go_simp)
      (try with_reducible rfl)
     (try simp only[Act.put,nzL])
    refine ai (i:=3) rfl (by kernel_rfl) λK b=>?_;go_simp;go_at_call 40;refine(aw R _ 2 _ (R2.aa br.drew ly) (by omega) (by omega) (by omega)).mono ?_;rintro e G ⟨z3,rfl,ex,At,O,H⟩;obtain⟨m3,rfl⟩:=AT ex;have X:Hid (Only R s G):=(Only.q br.drew).trans H;have C:=ae (m.ac X (by omega));have R3:=ae O;have O3:=ae (O2.trans X);clear O H X l;have l:=ae (gQ C.ab);refine b _ _ (λ_=>l) ?_;clear b K
    (try simp only[Act.put,nzL])
    have Gk:IntKind.i64.wrap (2000+(m3:Int))=2000+(m3:Int):=by rw[AI];omega
    refine ai (i:=4) rfl (by kernel_rfl) λK b=>?_;go_simp;refine b _ _ (λ_=>l) ?_;clear b K
    (try simp only[Act.put,nzL])
    refine ai (i:=5) rfl (by kernel_rfl) λK b=>?_;go_simp;go_at_call 74;refine(ej ⟨#[115]⟩ (2000+m3) _ (by show 1*(2000+m3)<=4000;omega) (by omega)).mono ?_;rintro e w4 ⟨tt,rfl,_,rfl⟩;refine b _ _ (λ_=>l) ?_;clear b K
    (try simp only[Act.put,nzL])
    have XL:Hid (SpX (z (B w)+1) (z (B ZT)) (z (B w)+2) w4 (Y (T (N gs 0 Z)) (P::LR).length c2) (Y a5 o.length c5) (P::LR) o):=by rw[HL.out];exact C
    have Gp:=(XL.src.lt gs rfl).2;obtain⟨ky,kz⟩:=aV XL.src (j:=1) (u:=U P.y) rfl;obtain⟨x3,b3⟩:=XL.setS (j:=1) (LS':=⟨P.e,tt⟩::LR) (U tt) rfl rfl;clear XL;rw[HL.out] at x3;have X4:=ae x3;have B4:=ae b3;clear x3 b3;iterate 2
     refine bH 6 rfl rfl (by kernel_rfl) λK b=>?_;go_simp;refine b _ _ (λ_=>l) ?_;clear b K
     (try simp only[Act.put,nzL])
    refine ai (i:=8) rfl (by kernel_rfl) λK b=>?_;go_simp;refine b _ _ (λh=>absurd rfl h) ?_;clear b K
    (try simp only[Act.put,nzL])
    refine aT (by kernel_rfl) ?_ _;have R4:=ae (R3.low B4 (by omega));have O4:=ae (O3.then (B4.mono (show (z (B w))<=z (B w)+2 by omega)));clear l ky kz hl;go_simp;generalize World.setCell w4 _ _=W4 at X4 R4 O4 ⊢;have ZO:=ae X4.ab;have ZQ:=ae X4.res;have ZP:=ae (eE X4.src HL.symm X4.j rfl (by have:=HL.out;simp only[BG] at this ⊢;omega) (by omega) G1);clear ZI ZK aq bt;go_wp2;go_meet;exact⟨_,_,_,_,_,_,_,_,_,by omega,ZO,ZQ,ZP,R4,O4⟩
   {skip;have ZO:=ae m.ab;have ZQ:=ae m.res;have ZP:=ae (eE m.src rfl m.j rfl (by omega) (by omega) G1);go_wp2;go_meet;exact⟨_,_,_,_,_,_,_,_,_,by omega,ZO,ZQ,ZP,R2,O2⟩}
  ·go_wp2_with fail;go_loopw [7] (λi wr=>∃(k q:Nat) (v1:Value) (RQ:List TR),i=Q I k/\k<=RQ.length/\q<=p+1+k/\RQ.length<=300/\Hid (SpX (z (B w)+1) (z (B ZT)) (z (B w)+2) wr (Y a2 E.length c2) v1 E RQ)/\Hid (GX RQ)/\Hid (Rd wr R q)/\Hid (Only R w wr)) (λi _=>400 - (intOf i).toNat);case atStart=>exact⟨0,p+1,_,o,rfl,by omega,by omega,by omega,m,G1,R2,O2⟩
   case round =>
    clear m R2 O2 ZI ZK aq bt G1 N1 ld;obtain⟨k,q4,v1,o,rfl,hk,hq4,hk3,m,G1,R2,O2⟩:=hrel;obtain⟨s,rfl⟩:∃s,s=wr:=⟨wr,rfl⟩
    obtain⟨a5,c5,rfl⟩:=aL m.j.x;have ld:=m.lt;have hw1:IntKind.i64.wrap ((E.length:Int)+o.length)=(E.length:Int)+o.length:=by rw[AI];omega
    have hwk:IntKind.i64.wrap ((k:Int)+1)=(k:Int)+1:=by rw[AI];omega
    go_wp2_with fail;have SB:Hid (∀V:M,V.heap[z (B ZT)]?=T (J #[Y a2 E.length c2,Y a5 o.length c5] 27 (0,0))->V.heap[z (B ZT)]?=T (J #[Y a2 E.length c2,Y a5 o.length c5] 27 (0,0))/\A V (N (z (B ZT)) 0 Z)=T (Y a2 E.length c2)/\A V (N (z (B ZT)) 1 Z)=T (Y a5 o.length c5)):=λV h=>⟨h,by simp[World.cell?,h],by simp[World.cell?,h]⟩
    refine wp_region_held_drew (S:=λV=>V.heap[z (B ZT)]?=T (J #[Y a2 E.length c2,Y a5 o.length c5] 27 (0,0))/\A V (N (z (B ZT)) 0 Z)=T (Y a2 E.length c2)/\A V (N (z (B ZT)) 1 Z)=T (Y a5 o.length c5)) (by kernel_rfl) (SB s m.ab) λhS=>?_;have l:=ae hS;clear hS;iterate 8
     refine aR 0 (v:=?_) rfl rfl (by kernel_rfl) (λ_ _ _ h=>h) rfl ?_ l ?_;rotate_left
     ·(rintro wz ⟨s0,s1,s2⟩;go_simp)
      (try with_reducible rfl)
     (try simp only[Act.put,nzL])
    refine aI (i:=8) rfl (by kernel_rfl) λK b=>?_;go_simp;go_at_call 40;refine(aw R _ 2 _ (R2.aa br.drew ly) (by omega) (by omega) (by omega)).mono ?_;rintro e G ⟨z3,rfl,ex,At,O,H⟩;obtain⟨m3,rfl⟩:=AT ex;have X:Hid (Only R s G):=(Only.q br.drew).trans H;have C:=ae (m.ac X (by omega));have R3:=ae O;have O3:=ae (O2.trans X);clear O H X l;have l:=ae (SB G C.ab);refine b _ _ l ?_;clear b K
    (try simp only[Act.put,nzL])
    have Gk:IntKind.i64.wrap (200+(m3:Int))=200+(m3:Int):=by rw[AI];omega
    iterate 2
     refine oP 9 rfl rfl (by kernel_rfl) λK b=>?_;go_simp;refine b _ _ l ?_;clear b K
     (try simp only[Act.put,nzL])
    refine wpAnyH_done (by kernel_rfl) ?_ _;clear l SB;by_cases hlt:(E.length:Int)+o.length<200+(m3:Int)
    ·go_wp2_with fail;have FO:=C.lt;have SQ:=ae C.keepT;refine aD (BxT (Y a2 E.length c2) (Y a5 o.length c5) (z (B ZT))) 13 (by kernel_rfl) ?_;have l:=ae (SQ G.drew (λj ZS _=>rfl));iterate 3
      refine aH 0 (v:=?_) rfl rfl (by kernel_rfl) (λ_ _ _ h=>h) rfl ?_ l ?_;rotate_left
      ·(rintro wz ⟨s0,s1⟩;go_simp)
       (try with_reducible rfl)
      (try simp only[Act.put,nzL])
     refine ai (i:=3) rfl (by kernel_rfl) λK b=>?_;go_simp;go_at_call 97;refine(jn k (by omega) _).mono ?_;rintro e wl ⟨lb,rfl,hlb,fd⟩;have BL:Hid (Below (z (B G)) G wl):=(BS G).drew.trans fd;clear fd l;have l:=ae (SQ wl (λj ZS _=>BL.block j ZS));refine b _ _ (λ_=>l) ?_;clear b K
     (try simp only[Act.put,nzL])
     refine eP (i:=4) (v:=U (⟨#[117]⟩++lb)) rfl (by kernel_rfl) (by kernel_rfl) (by kernel_rfl) (by kernel_rfl) (λ_ _ _ h=>h) rfl ?_ l ?_;{intro wz _;go_simp;omega}
     (try simp only[Act.put,nzL])
     generalize (⟨#[117]⟩:ByteArray)++lb=tn;refine ai (i:=5) rfl (by kernel_rfl) λK b=>?_;go_simp;go_at_call 98;refine(bj _ _).mono ?_;rintro e wm ⟨rfl,Gh⟩;have BM:=ae (BL.trans (Gh.mono BL.size));clear Gh l;have l:=ae (SQ wm (λj ZS _=>BM.block j ZS));refine b _ _ (λ_=>l) ?_;clear b K
     (try simp only[Act.put,nzL])
     refine ai (i:=6) rfl (by kernel_rfl) λK b=>?_;go_simp;go_at_call 99;refine(ba _ _).mono ?_;rintro e ZL ⟨rfl,ro⟩;have BN:=ae (BM.trans (ro.mono BM.size));clear ro l BL BM;have Gs:=BN.size;have BI:=ae (BN.alloc (by omega) (J #[Q I 1,U ⟨#[107]⟩,Q I 0,Q I 15,U ⟨#[]⟩,Q I 0] 151));have Gq:=C.hi;have OI:=ae (vi ZL (base:=z (B w)+2) (by omega));have l:=ae (SQ ZL (λj ZS _=>BN.block j ZS));refine b _ _ (λ_=>l) ?_;clear b K l
     (try simp only[Act.put,nzL])
     have l:=ae (SQ _ (λj ZS _=>BI.block j ZS));iterate 3
      refine bH 7 rfl rfl (by kernel_rfl) λK b=>?_;go_simp;refine b _ _ (λ_=>l) ?_;clear b K
      (try simp only[Act.put,nzL])
     have Fk:(ZL.alloc (J #[Q I 1,U ⟨#[107]⟩,Q I 0,Q I 15,U ⟨#[]⟩,Q I 0] 151)).heap.size=z (B ZL)+1:=by simp
     have AB:=ae (BI.alloc (by omega) (J #[U tn,Y (T (N (z (B ZL)) 0 Z)) 2 2] 146));refine ai (i:=10) rfl (by kernel_rfl) λK b=>?_;go_simp;have ZJ:=ae (C.aa AB ly);have OA:=ae (own_below OI (br.alloc ly (J #[U tn,Y (T (N (z (B ZL)) 0 Z)) 2 2] 146)) ly);refine b _ _ (λ_=>SQ _ (λj ZS _=>AB.block j ZS)) ?_;clear b K
     (try simp only[Act.put,nzL])
     refine ai (i:=11) rfl (by kernel_rfl) λK b=>?_;refine aW rfl (.tmp 106) (.tmp 115) 25 rfl (z (B w)+2) 146 FM (ZG #[U ⟨#[]⟩,Y Z 0 0]) 2 40 J9 ZS DS FV Fd rfl (by decide) (Y a5 o.length c5) o.length (o.flatMap aS) (by simp[Act.eval]) ZJ.j.x (N (z (B ZL)+1) 0 Z) 1 1 (aS (⟨tn,2,lsI ju⟩,z (B ZL),2)) (by simp[Act.eval]) rfl (λj u hu=>nu (Fk) _ _ _ j u hu) (by simp[aS,Value.oneCell']) (by unfold maxLen;omega) (by omega) (by have:=ZJ.hi;have:=ZJ.lt;omega) ?_;intro v' w7 D y _;obtain⟨a7,c7,rfl⟩:=aL D;have S7:=ae (SQ w7 (λj ZS mv=>(y.block j (lj ZS AB.size) mv).trans (AB.block j ZS)));obtain⟨c8,b8⟩:=ZJ.addT (x:=⟨tn,2,lsI ju⟩) (g:=z (B ZL)) (c:=2) (λr hr e=>by have:=C.j.ltg r hr;omega) OA D y;have X9:=ae c8;have B9:=ae b8;clear D y c8 b8;refine b _ _ (λ_=>S7) ?_;clear b K
     (try simp only[Act.put,nzL])
     refine ai (i:=12) rfl (by kernel_rfl) λK b=>?_;go_simp;refine b _ _ (λ_=>S7) ?_;clear b K
     (try simp only[Act.put,nzL])
     obtain⟨s7,t7⟩:=S7.out;have f7:w7.frozen? (N (z (B ZT)) 1 Z)=ZA:=by simp[World.frozen?,s7]
     have l7:=ar s7;clear s7;refine ai (i:=13) rfl (by kernel_rfl) λK b=>?_;go_simp;refine b _ _ (λh=>absurd rfl h) ?_;clear b K
     (try simp only[Act.put,nzL])
     refine aT (by kernel_rfl) ?_ _;go_wp2;have BB:=ae ((AB.mono (show (z (B w))+2<=z (B G) by omega)).trans B9.out);refine⟨⟨k+1,_,Y a7 (o.length+1) c7,o++[((⟨tn,2,lsI ju⟩,z (B ZL),2):TR)],by go_num,by rw[eL];exact Nat.succ_le_succ hk,by omega,by rw[eL];exact(by omega:o.length+1<=300),X9,G1.add (r:=(⟨tn,2,lsI ju⟩,z (B ZL),2)) (by show 2<=300;omega) sV,R3.low BB (by omega),O3.then (BB.mono (by omega))⟩,by simp[intOf];omega⟩
    {have ZI:=ld;have ZK:=ld;have aq:=ld;have bt:=ld;have ZO:=ae C.ab;have ZQ:=ae C.res;have ZP:=ae (eE C.src rfl C.j rfl (by omega) (by omega) G1);clear ZI ZK aq bt;go_wp2;go_meet;exact⟨_,_,_,_,_,_,_,_,_,by omega,ZO,ZQ,ZP,R3,O3⟩}
  ·go_wp2_with fail;refine aD (BxT (Y a2 E.length c2) (Y a5 o.length c5) (z (B ZT))) 14 (by kernel_rfl) ?_;have l:=ae (sX (W:=s.drew) m.ab);iterate 3
    refine aH 0 (v:=?_) rfl rfl (by kernel_rfl) (λ_ _ _ h=>h) rfl ?_ l ?_;rotate_left
    ·(rintro wz ⟨s0,s1⟩;go_simp)
     (try with_reducible rfl)
    (try simp only[Act.put,nzL])
   refine ai (i:=3) rfl (by kernel_rfl) λK b=>?_;go_simp;go_at_call 40;refine(aw R _ 2 _ (R2.aa br.drew ly) (by omega) (by omega) (by omega)).mono ?_;rintro e G ⟨z3,rfl,ex,At,O,H⟩;obtain⟨m3,rfl⟩:=AT ex;have X:Hid (Only R s G):=(Only.q br.drew).trans H;have C:=ae (m.ac X (by omega));have R3:=ae O;have O3:=ae (O2.trans X);clear O H X l;have l:=ae (sX C.ab);refine b _ _ (λ_=>l) ?_;clear b K
   (try simp only[Act.put,nzL])
   have hw60:IntKind.i64.wrap (60+(m3:Int))=60+(m3:Int):=by rw[AI];omega
   refine ai (i:=4) rfl (by kernel_rfl) λK b=>?_;go_simp;refine b _ _ (λ_=>l) ?_;clear b K
   (try simp only[Act.put,nzL])
   refine ai (i:=5) rfl (by kernel_rfl) λK b=>?_;go_simp;go_at_call 74;refine(ej ⟨#[110]⟩ (60+m3) _ (by show 1*(60+m3)<=4000;omega) (by omega)).mono ?_;rintro e w4 ⟨tn,rfl,_,rfl⟩;refine b _ _ (λ_=>l) ?_;clear b K l
   (try simp only[Act.put,nzL])
   have SQ:=ae C.keepT;refine ai (i:=6) rfl (by kernel_rfl) λK b=>?_;go_simp;go_at_call 98;refine(bj _ _).mono ?_;rintro e wm ⟨rfl,F0⟩;have BM:=ae F0;clear F0;refine b _ _ (λ_=>SQ wm (λj ZS _=>BM.block j ZS)) ?_;clear b K
   (try simp only[Act.put,nzL])
   refine ai (i:=7) rfl (by kernel_rfl) λK b=>?_;go_simp;go_at_call 99;refine(ba _ _).mono ?_;rintro e ZL ⟨rfl,ro⟩;have BN:=ae (BM.trans (ro.mono BM.size));clear ro BM;have Gs:=BN.size;have BI:=ae (BN.alloc (by omega) (J #[Q I 1,U ⟨#[107]⟩,Q I 0,Q I 15,U ⟨#[]⟩,Q I 0] 151));have Gq:=C.hi;have FO:=C.lt;have OI:=ae (vi ZL (base:=z (B w)+2) (by omega));refine b _ _ (λ_=>SQ ZL (λj ZS _=>BN.block j ZS)) ?_;clear b K
   (try simp only[Act.put,nzL])
   have l:=ae (SQ _ (λj ZS _=>BI.block j ZS));iterate 3
    refine bH 8 rfl rfl (by kernel_rfl) λK b=>?_;go_simp;refine b _ _ (λ_=>l) ?_;clear b K
    (try simp only[Act.put,nzL])
   have Fk:(ZL.alloc (J #[Q I 1,U ⟨#[107]⟩,Q I 0,Q I 15,U ⟨#[]⟩,Q I 0] 151)).heap.size=z (B ZL)+1:=by simp
   have AB:=ae (BI.alloc (by omega) (J #[U tn,Y (T (N (z (B ZL)) 0 Z)) 2 2] 146));refine ai (i:=11) rfl (by kernel_rfl) λK b=>?_;go_simp;have ZJ:=ae (C.aa AB ly);have OA:=ae (own_below OI (br.alloc ly (J #[U tn,Y (T (N (z (B ZL)) 0 Z)) 2 2] 146)) ly);refine b _ _ (λ_=>SQ _ (λj ZS _=>AB.block j ZS)) ?_;clear b K
   (try simp only[Act.put,nzL])
   refine ai (i:=12) rfl (by kernel_rfl) λK b=>?_;refine aW rfl (.tmp 121) (.tmp 131) 25 rfl (z (B w)+2) 146 FM (ZG #[U ⟨#[]⟩,Y Z 0 0]) 2 40 J9 ZS DS FV Fd rfl (by decide) (Y a5 o.length c5) o.length (o.flatMap aS) (by simp[Act.eval]) ZJ.j.x (N (z (B ZL)+1) 0 Z) 1 1 (aS (⟨tn,2,lsI ju⟩,z (B ZL),2)) (by simp[Act.eval]) rfl (λj u hu=>nu (Fk) _ _ _ j u hu) (by simp[aS,Value.oneCell']) (by unfold maxLen;omega) (by omega) (by have:=ZJ.hi;have:=ZJ.lt;omega) ?_;intro v' w7 D y _;obtain⟨a7,c7,rfl⟩:=aL D;have S7:=ae (SQ w7 (λj ZS mv=>(y.block j (lj ZS AB.size) mv).trans (AB.block j ZS)));obtain⟨c8,b8⟩:=ZJ.addT (x:=⟨tn,2,lsI ju⟩) (g:=z (B ZL)) (c:=2) (λr hr e=>by have:=C.j.ltg r hr;omega) OA D y;have X9:=ae c8;have B9:=ae b8;clear D y c8 b8;refine b _ _ (λ_=>S7) ?_;clear b K
   (try simp only[Act.put,nzL])
   refine ai (i:=13) rfl (by kernel_rfl) λK b=>?_;go_simp;refine b _ _ (λ_=>S7) ?_;clear b K
   (try simp only[Act.put,nzL])
   obtain⟨s7,t7⟩:=S7.out;have f7:w7.frozen? (N (z (B ZT)) 1 Z)=ZA:=by simp[World.frozen?,s7]
   have l7:=ar s7;clear s7;refine ai (i:=14) rfl (by kernel_rfl) λK b=>?_;go_simp;refine b _ _ (λh=>absurd rfl h) ?_;clear b K
   (try simp only[Act.put,nzL])
   refine aT (by kernel_rfl) ?_ _;have BB:=ae ((AB.mono (show (z (B w))+2<=z (B w4) by omega)).trans B9.out);have R9:=ae (R3.low BB (by omega));have O9:=ae (O3.then (BB.mono (by omega)));have G9:=ae (G1.add (r:=(⟨tn,2,lsI ju⟩,z (B ZL),2)) (by show 2<=300;omega) sV);clear t7 f7 l7 l;go_simp;generalize World.setCell w7 _ _=W9 at X9 R9 O9 ⊢;have ZO:=ae X9.ab;have ZQ:=ae X9.res;have ZP:=ae (eE X9.src rfl X9.j (by simp) (by omega) (by rw[eL];exact(by omega:o.length+1<=300)) G9);clear ZI ZK aq bt;go_wp2;go_meet;exact⟨_,_,_,_,_,_,_,_,_,by omega,ZO,ZQ,ZP,R9,O9⟩
  {have BQ:=ae ((BS s).alloc ly (J #[U ⟨#[97]⟩,Y Z 0 0] 146));have XQ:=ae (m.aa BQ ly);go_wp2_with (at_builtin;refine bG _ rfl (.tmp 137) (.tmp 139) 25 rfl (z (B w)+2) 146 FM (ZG #[U ⟨#[]⟩,Y Z 0 0]) 2 40 J9 ZS DS FV Fd rfl (by decide) (Y a5 o.length c5) o.length (o.flatMap aS) (by simp[Act.eval]) XQ.j.x (N (z (B s)) 0 Z) 1 1 [U ⟨#[97]⟩,Y Z 0 0] (by simp[Act.eval]) rfl (λj u hu=>cL s _ _ _ j u hu) (by simp[Value.oneCell']) (by unfold maxLen;omega) (by omega) (by have:=m.hi;simp;omega) ?_;intro v' G D y _;obtain⟨a7,c7,rfl⟩:=aL D;obtain⟨hE,hB,hQ,fd⟩:=XQ.addNil D y (by omega) (by omega) G1.out;have ZP:=ae hE;have FZ:=ae fd;have ZO:=ae hB;have ZQ:=ae hQ;have kb:=gF y XQ.j.type XQ.ab (by decide);clear D y hE hB hQ fd ZI ZK aq bt;have e0:A G (N (z (B ZT)) 0 Z)=T (Y a2 E.length c2):=(by simp[World.cell?,kb]);have e1:A G (N (z (B ZT)) 1 Z)=T (Y a5 o.length c5):=(by simp[World.cell?,kb]);have f2:G.frozen? (N (z (B ZT)) 1 Z)=ZA:=(by simp[World.frozen?,kb]);have l1:=ar kb;have mv:=XQ.hi;clear kb);go_meet;exact⟨_,_,_,_,_,_,_,_,_,by omega,ZO,ZQ,ZP,R2.low (BQ.mono (show (z (B w))+2<=z (B s) by omega) |>.trans FZ.out) (by omega),O2.then ((BQ.mono (show (z (B w))<=z (B s) by omega)).trans (FZ.mono (by omega)))⟩}
  ·by_cases hl:1<(E.length:Int)
   ·go_wp2_with fail;obtain⟨gs,rfl⟩:=je m.src (by omega)
    obtain⟨P,x1,LR,rfl⟩:∃P x1 LR,E=P::x1::LR:=(by
     match E,hl with
     |[],h=>simp at h
     |[_],h=>simp at h
     |P::x1::LR,_=>exact⟨P,x1,LR,rfl⟩)
    have Gp:=(m.src.lt gs rfl).2;have kx:=(aV m.src (j:=0) (u:=U P.e) rfl).1;obtain⟨ky,kz⟩:=aV m.src (j:=2) (u:=U x1.e) rfl;obtain⟨x3,b3⟩:=m.setS (j:=2) (LS':=P::⟨P.e,x1.y⟩::LR) (U P.e) rfl rfl;have C:=ae x3;have B3:=ae b3;clear x3 b3;have n8:(P::x1::LR).length<=250:=by omega
    have GA:(1:Int)<(P::x1::LR).length:=hl;generalize ZN:(P::x1::LR).length=nl at *;have HL:=ae ZN;clear ZN;have FY:0<nl:=by omega
    have Gv:1<nl:=by omega
    refine aD (λV=>A V (N (z (B ZT)) 0 Z)=T (Y (T (N gs 0 Z)) nl c2)/\A V (N gs 0 Z)=T (U P.e)) 9 (by kernel_rfl) ?_;have l:Hid ((s.drew.cell? (N (z (B ZT)) 0 Z)=T (Y (T (N gs 0 Z)) nl c2))/\s.drew.cell? (N gs 0 Z)=T (U P.e)):=⟨ZI,kx⟩
    iterate 7
     refine aH 0 (v:=?_) rfl rfl (by kernel_rfl) (λ_ _ _ h=>h) rfl ?_ l ?_;rotate_left
     ·(rintro wz ⟨s0,s1⟩;go_simp)
      (try with_reducible rfl)
     (try simp only[Act.put,nzL])
    iterate 2
     refine bH 7 rfl rfl (by kernel_rfl) λK b=>?_;go_simp;refine b _ _ (λ_=>l) ?_;clear b K
     (try simp only[Act.put,nzL])
    refine ai (i:=9) rfl (by kernel_rfl) λK b=>?_;go_simp;refine b _ _ (λh=>absurd rfl h) ?_;clear b K
    (try simp only[Act.put,nzL])
    refine aT (by kernel_rfl) ?_ _;have R3:=ae ((R2.low B3 (by omega)).aa br.drew ly);have O3:=ae (O2.then ((B3.mono (show (z (B w))<=z (B w)+2 by omega)).drew));have XD:=ae (C.aa br.drew ly);clear l kx ky kz hl GA;go_simp;generalize World.drew (World.setCell s _ _)=W3 at XD R3 O3 ⊢;have ZO:=ae XD.ab;have ZQ:=ae XD.res;have ZP:=ae (eE XD.src HL.symm XD.j rfl (by have:=HL.out;simp only[BG] at this ⊢;omega) (by omega) G1);clear ZI ZK aq bt;go_wp2;go_meet;exact⟨_,_,_,_,_,_,_,_,_,by omega,ZO,ZQ,ZP,R3,O3⟩
   {skip;have ZO:=ae m.ab;have ZQ:=ae m.res;have ZP:=ae (eE m.src rfl m.j rfl (by omega) (by omega) G1);go_wp2;go_meet;exact⟨_,_,_,_,_,_,_,_,_,by omega,ZO,ZQ,ZP,R2,O2⟩}
 case rest =>
 clear m R2 O2 ZI ZK aq bt ld;obtain⟨b0,m0,k0,g0,b1,m1,k1,g1,q',hq',ZO,ZQ,ZP,R9,O9⟩:=hcut;generalize wc=W9 at ZO ZQ ZP R9 O9 ⊢;have kb:=ZO.out;have kr:=ZQ.out;have e0:A W9 (N (z (B ZT)) 0 Z)=T (Y b0 m0 k0):=by simp[World.cell?,kb]
 have e1:A W9 (N (z (B ZT)) 1 Z)=T (Y b1 m1 k1):=by simp[World.cell?,kb]
 have r0:A W9 (N (z (B w)+1) 0 Z)=T (Y Z 0 0):=by simp[World.cell?,kr]
 have r1:A W9 (N (z (B w)+1) 1 Z)=T (Y Z 0 0):=by simp[World.cell?,kr]
 have f0:W9.frozen? (N (z (B w)+1) 0 Z)=ZA:=by simp[World.frozen?,kr]
 have f1:W9.frozen? (N (z (B w)+1) 1 Z)=ZA:=by simp[World.frozen?,kr]
 have l0:=ar kr;have l1:=ar kb;clear kb kr;have BE:=ae (((cM (z (B w)) W9).setCell (p:=(N (z (B w)+1) 0 Z)) (JH _) (Y b0 m0 k0)).setCell (p:=(N (z (B w)+1) 1 Z)) (JH _) (Y b1 m1 k1));have Gm:=ae ((ZP.agr ((px (j:=0) (show (z (B w))+1<z (B w)+2 by omega) (Y b0 m0 k0)).trans (px (j:=1) (show (z (B w))+1<z (B w)+2 by omega) (Y b1 m1 k1)))).mono (show (z (B w))<=z (B w)+2 by omega));go_wp2;exact bp (v:=ZG #[Y b0 m0 k0,Y b1 m1 k1]) (by simp[results,results41,go_sem,r0,r1]) rfl ⟨_,_,_,_,_,_,_,_,rfl,Gm,_,by omega,R9.low BE Gl,O9.then BE⟩
theorem DU {w:M}{f:Nat}{a0 a1:Option Addr}{c0 c1:Nat}{g:List Source}{b:List TR}(l:w.ownsRow f 142 2 (Y a0 g.length c0) g.length (g.flatMap bi))(m:TRow w f (Y a1 b.length c1) b)(h:SpG g b)(n:g.length<=300)(h1:b.length<=300):HSp f w a0 g.length (bY g) a1 b.length (bD (b.map (·.1)))/\∀i,i<b.length->1<=(bD (b.map (·.1)) i).m/\(bD (b.map (·.1)) i).m<=200:=by
 refine⟨eE l rfl m rfl n h1 (λr j=>⟨by have:=(h.t r j).2.1.2;omega,(h.t r j).2.2⟩),λi hi=>?_⟩;have e:bD (b.map (·.1)) i=b[i].1:=by simp[bD,hi]
 rw[e];exact(h.t _ (gz hi)).2.1
theorem oH (R p b0 n0 c0 n1 c1:Nat)(a0:Option Addr)(f0:Nat->Source)(a1:Option Addr)(f1:Nat->Target)(w:M)(hR:Rd w R p)(hp:p<=50000)(hb:R<b0)(hH:HSp b0 w a0 n0 f0 a1 n1 f1):Calls Tryz.prog 88 #[.pointer (T (N R 0 Z)),ZG #[Y a0 n0 c0,Y a1 n1 c1]] w λe ZI=>∃t:ByteArray,e=.returned (U t)/\∃q:Nat,q<=p+3/\Rd ZI R q/\Only R w ZI:=by
 have X:=ae hR;have hlow:=hR.lt;have hn1:=hH.hn1;have HH:=ae hH;clear hR hH;have r:=ae ((BS w).alloc ly (J #[Y a0 n0 c0,Y a1 n1 c1] 27));have H:Hid ((w.alloc (J #[Y a0 n0 c0,Y a1 n1 c1] 27)).heap[z (B w)]?=T (J #[Y a0 n0 c0,Y a1 n1 c1] 27 (0,0))):=gM w _;have E:(w.alloc (J #[Y a0 n0 c0,Y a1 n1 c1] 27)).heap.size=z (B w)+1:=by simp
 by_cases hn:0<(n1:Int)
 ·go_enter func88,ntmps88;go_wp2_with fail;generalize World.alloc w _=l at r H E ⊢;have P:=ae (X.aa r ly);have O:Hid (Only R w l):=Only.q r;refine(aw R p 8 _ P (by omega) (by omega) (by omega)).mono ?_;rintro e G ⟨ZR,rfl,hz0',hz1',ZN,ZM⟩;have ZJ:=ae ZN;have O1:=ae (O.trans ZM);have K1:=ae ((ZM.block (z (B w)) (by omega) (by omega)).trans H);clear ZN ZM P O H r;have ZL:=K1.out;have ZK:A G (N (z (B w)) 1 Z)=T (Y a1 n1 c1):=by simp[World.cell?,ZL]
  have l1:=ar ZL;clear ZL;by_cases hz:0<ZR
  ·go_wp2_with fail;refine aD (λV=>A V (N (z (B w)) 1 Z)=T (Y a1 n1 c1)) 10 (by as_aux_lemma=>kernel_rfl) ?_;have ZQ:Hid (G.drew.cell? (N (z (B w)) 1 Z)=T (Y a1 n1 c1)):=ZK;iterate 6
    refine aH 0 (v:=?_) rfl rfl (by as_aux_lemma=>kernel_rfl) (λ_ _ _ h=>h) rfl ?_ ZQ ?_;rotate_left
    ·(intro wz s0;go_simp)
     (try with_reducible rfl)
    (try simp only[Act.put,nzL])
   refine ai (i:=6) rfl (by as_aux_lemma=>kernel_rfl) λK ZP=>?_;go_simp;go_at_call 40;refine(aw R _ (n1:Int) _ (ZJ.aa br.drew ly) (by omega) (by omega) (by omega)).mono ?_;rintro e L ⟨z3,rfl,n,S,g,b⟩;obtain⟨o,rfl⟩:=AT n;have OO:Hid (Only R G L):=(Only.q br.drew).trans b;have D:=ae g;have ZT:=ae (O1.trans OO);have m:o<n1:=by omega
   clear g b ZQ;have ZQ:Hid (A L (N (z (B w)) 1 Z)=T (Y a1 n1 c1)):=(OO.cell (z (B w)) 1 l1 (by omega)).trans ZK;rcases(HH.sl L (ZT.agr hb)).2 with h0|⟨tb,tof,rfl,x⟩
   {omega};have kn:=(x.2 o m).1;have hl:=x.1;clear x ZK;refine ZP _ _ (λ_=>ZQ) ?_;clear ZP K
   (try simp only[Act.put,nzL])
   iterate 4
    refine bH 7 rfl rfl (by as_aux_lemma=>kernel_rfl) λK ZP=>?_;go_simp;refine ZP _ _ (λ_=>ZQ) ?_;clear ZP K
    (try simp only[Act.put,nzL])
   refine aT (by as_aux_lemma=>kernel_rfl) ?_ _;go_wp2;go_ret;exact⟨_,rfl,_,by omega,D,ZT⟩
  ·go_wp2_with fail;obtain⟨WL,s⟩:∃W:M,G.alloc (J #[U ⟨#[97]⟩,U ⟨#[110,111,110,101]⟩,U ⟨#[]⟩,U ⟨#[120,32,121]⟩,U ⟨#[116,48]⟩] 9)=W:=⟨_,rfl⟩
   obtain⟨u,f,-⟩:=nb1 s;replace f:=f.out;have ZO:=ae s;clear s;have ZS:=ae (ZJ.aa u ly);have C:=ae (O1.then (u.mono (by omega)));have y:=ar f;have j:=ae f;clear u f;rw[ZO.out];clear ZO;refine(aw R _ 5 _ ZS (by omega) (by omega) (by omega)).mono ?_;rintro e L ⟨z3,rfl,n,S,g,b⟩;obtain⟨o,rfl⟩:=AT n;have m:o<5:=by omega
   have D:=ae g;have ZT:=ae (C.trans b);obtain⟨sx,aq⟩:=lZ ((b.block (z (B G)) y (by omega)).trans j) o m;clear g b j ZS C;go_wp2;go_ret;exact⟨sx,rfl,_,by omega,D,ZT⟩
 ·go_enter func88,ntmps88;go_wp2_with fail;generalize World.alloc w _=l at r H E ⊢;have P:=ae (X.aa r ly);have O:Hid (Only R w l):=Only.q r;have l0:=ar H.out;have u:=ae ((BS l).alloc ly (J #[U ⟨#[97]⟩,U ⟨#[110,111,110,101]⟩,U ⟨#[]⟩,U ⟨#[120,32,121]⟩,U ⟨#[116,48]⟩] 9));have ZS:=ae (P.aa u ly);have C:=ae (O.then (u.mono (by omega)));have f:(l.alloc (J #[U ⟨#[97]⟩,U ⟨#[110,111,110,101]⟩,U ⟨#[]⟩,U ⟨#[120,32,121]⟩,U ⟨#[116,48]⟩] 9)).heap[z (B w)+1]?=T (J #[U ⟨#[97]⟩,U ⟨#[110,111,110,101]⟩,U ⟨#[]⟩,U ⟨#[120,32,121]⟩,U ⟨#[116,48]⟩] 9 (0,0)):=(by rw[<-E];exact gM l _)
  have y:=ar f;have j:=ae f;clear u f;generalize World.alloc l _=WL at ZS C j y ⊢;refine(aw R _ 5 _ ZS (by omega) (by omega) (by omega)).mono ?_;rintro e L ⟨z3,rfl,n,S,g,b⟩;obtain⟨o,rfl⟩:=AT n;have m:o<5:=by omega
  have D:=ae g;have ZT:=ae (C.trans b);obtain⟨sx,aq⟩:=lZ ((b.block (z (B w)+1) y (by omega)).trans j) o m;clear g b j ZS C;go_wp2;go_ret;exact⟨sx,rfl,_,by omega,D,ZT⟩
