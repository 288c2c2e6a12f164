import Derived.Test.YthkpcehepgmdgaaGreatDoorRF
import Derived.Test.YthkpcehepgmdgaaGreatDoorRG
import Derived.Test.YthkpcehepgmdgaaGreatDoorRC
set_option maxRecDepth 100000
set_option maxHeartbeats 8000000
open Go renaming Addr.mk->Q,Value.slice->Z,Value.string->U,Value.int->J,Value.agg->ZH,Obj.cells->N,IntKind.i64->I,World->G,World.heap->h,World.alloc->ZU,World.cell?->ZV,World.frozen?->ZW
open Option renaming none->Y,some->T
open Bool renaming false->ZB
open Array renaming size->A
open List renaming length->ZT
namespace Go.Proofs.YthkpcehepgmdgaaGreatDoor.Vp
open Tryz RowKit Ca
theorem vR (R p b0 n0 c0 n1 c1:Nat)(a0:Option Addr)(f0:Nat->Source)(a1:Option Addr)(f1:Nat->Target)(w:G)(hR:Rd w R p)(hp:p<=19900)(hH:HSp b0 w a0 n0 f0 a1 n1 f1)(hg:∀i,i<n1->1<=(f1 i).l/\(f1 i).l<=200)(hm0:n0<=250)(hm1:n1<=250):Calls Tryz.prog 28 #[.pointer (T (Q R 0 Y)),ZH #[Z a0 n0 c0,Z a1 n1 c1]] w λe w'=>DH w R (p+1100) e w':=by
 have HR:=ae hR;have Id:=hR.lt;obtain⟨hs,ht⟩:=hH.sl w (Agr.refl _ _);have HF:=ae hH.aq;have HG:=ae hg;have l:=ae hs;have HT:=ae ht;clear hs ht hH hg hR;obtain⟨Ik,hi,Iw,Iu,Is⟩:=KQ iS;obtain⟨Fd,B,Hj,DQ,Hm⟩:=KQ ez;obtain⟨W,hW⟩:∃W:G,ZU (ZU w (N #[Z a0 n0 c0,Z a1 n1 c1] 33)) (N #[Z Y 0 0,Z Y 0 0] 33)=W:=⟨_,rfl⟩
 obtain⟨A0,-,KR,It⟩:=nb2 hW;have HW:=ae hW;clear hW;go_enter func28,ntmps28;go_wp2_with fail;rw[HW.out];clear HW;refine(fR a0 n0 c0 f0 a1 n1 c1 f1 ⟨#[]⟩ W (by omega) (by omega) (l.aa A0 ly) (HT.aa A0 ly) (λi hi=>by have:=(HF i hi).1;unfold aU;omega)).mono ?_;rintro e ZX ⟨v0,v1,o,rfl,At,DS,hM,ro⟩;obtain⟨a2,c2,rfl⟩:=aF At;obtain⟨a5,c5,rfl⟩:=aF DS.y;have G1:=ae (Fp hM HF);have N1:=ae (Fq hM HG);have H9:=yI hM;have Hr:=iB f0 ⟨#[]⟩ n0;clear hM l HT HF HG;generalize keepS f0 ⟨#[]⟩ n0=E at At Hr ⊢;have hsz:=ro.size;have X1:=ae (qC (rr:=A (h w)+1) (base:=A (h w)+2) ((ro.block _ (by omega)).trans KR) (by omega) (by omega) (by omega) At DS);have B1:=ae ((A0.trans (ro.mono (by omega))).alloc (by omega) (N #[Z a2 (ZT E) c2,Z a5 (ZT o) c5] 33));clear At DS ro A0 KR;have R1:=ae (HR.low B1 (by omega));have O1:Hid (Only R w (ZU ZX (N #[Z a2 (ZT E) c2,Z a5 (ZT o) c5] 33))):=Only.q B1;go_wp2_with fail;generalize World.alloc ZX _=W2 at X1 B1 R1 O1 ⊢;refine(ar R p 8 _ R1 (by omega) (by omega) (by omega)).mono ?_;rintro e s ⟨z,rfl,hz0',hz1',Ia,Hp⟩;have m:=ae (X1.ac Hp (by omega));have R2:=ae Ia;have O2:=ae (O1.trans Hp);clear Ia Hp X1 R1 O1 B1 It HR;obtain⟨ZK,ZL⟩:=m.cells;obtain⟨bt,aq⟩:=m.open
 have la:=m.lt;go_upto_block 0 with fail;go_cut [6,7] (λ_ _ wx=>∃(b0:Option Addr) (m0 k0:Nat) (g0:Nat->Source) (b1:Option Addr) (m1 k1:Nat) (g1:Nat->Target) (q':Nat),q'<=p+1100/\Hid (wx.heap[A (h ZX)]?=T (N #[Z b0 m0 k0,Z b1 m1 k1] 33 (0,0)))/\Hid (wx.heap[A (h w)+1]?=T (N #[Z Y 0 0,Z Y 0 0] 33 (0,0)))/\Hid (HSp (A (h w)+2) wx b0 m0 g0 b1 m1 g1)/\Hid (Rd wx R q')/\Hid (Only R w wx));case first =>
  have Il:z=0∨z=1∨z=2∨z=3∨z=4∨z=5∨z=6∨z=7:=by omega
  rcases Il with rfl|rfl|rfl|rfl|rfl|rfl|rfl|rfl
  ·go_wp2_with fail;have Ic:=m.hi;refine aD (BxS (Z a2 (ZT E) c2) (Z a5 (ZT o) c5) (A (h ZX))) 11 (by kernel_rfl) ?_;have l:=ae (iH (W:=s.drew) m.M);iterate 2
    refine aM 0 (v:=?_) rfl rfl (by kernel_rfl) (λ_ _ _ ZY=>ZY) rfl ?_ l ?_;rotate_left
    ·(rintro wz ⟨s0,s1⟩;go_simp)
     (try with_reducible rfl)
    (try simp only[Act.put,nzL])
   refine aM 3 (v:=?_) rfl rfl (by kernel_rfl) (λ_ _ _ ZY=>ZY) rfl ?_ l ?_;rotate_left
   ·(rintro wz ⟨s0,s1⟩;go_simp)
    (try with_reducible rfl)
   (try simp only[Act.put,nzL])
   refine oe (i:=2) (j:=4) rfl rfl (by kernel_rfl) (λK b=>?h1) (λK b=>?h2);case' h1 =>
    go_simp;have BQ:=ae (((q9 s).alloc ly (N #[U ⟨#[97]⟩,U ⟨#[122,122]⟩,U ⟨#[]⟩,U ⟨#[120,32,121]⟩,U ⟨#[116,48]⟩] 9)).drew);have XQ:=ae (m.aa BQ ly);have RQ:=ae (R2.aa BQ ly);have OQ:=ae (O2.then (BQ.mono (by omega)));have Hi:=nD s (N #[U ⟨#[97]⟩,U ⟨#[122,122]⟩,U ⟨#[]⟩,U ⟨#[120,32,121]⟩,U ⟨#[116,48]⟩] 9);have Ht:Hid ((ZU s (N #[U ⟨#[97]⟩,U ⟨#[122,122]⟩,U ⟨#[]⟩,U ⟨#[120,32,121]⟩,U ⟨#[116,48]⟩] 9)).drew.heap[A (h s)]?=T (N #[U ⟨#[97]⟩,U ⟨#[122,122]⟩,U ⟨#[]⟩,U ⟨#[120,32,121]⟩,U ⟨#[116,48]⟩] 9 (0,0))):=Hi;have Iz:A (h s)<(ZU s (N #[U ⟨#[97]⟩,U ⟨#[122,122]⟩,U ⟨#[]⟩,U ⟨#[120,32,121]⟩,U ⟨#[116,48]⟩] 9)).drew.heap.size:=ag Hi;clear Hi l;refine b _ _ (λ_=>iH XQ.M) ?_;clear b K
    (try simp only[Act.put,nzL])
    refine ah (i:=4) rfl (by kernel_rfl) λK b=>?_;go_simp;go_at_call 13;refine(ar R _ 5 _ RQ (by omega) (by omega) (by omega)).mono ?_;rintro e WL ⟨z3,rfl,ex,ur,O,H⟩;obtain⟨m3,rfl⟩:=p9 ex;have X4:=ae (XQ.ac H (by omega));have R4:=ae O;have O4:=ae (OQ.trans H);obtain⟨sx,Fn⟩:=nB ((H.block (A (h s)) Iz (by omega)).trans Ht) m3 (by omega);clear O H Ht XQ RQ OQ;refine b _ _ (λ_=>iH X4.M) ?_;clear b K
    (try simp only[Act.put,nzL])
   case' h2 =>
    go_simp;go_at_call 13;refine(ar R _ 5 _ (R2.aa br.drew ly) (by omega) (by omega) (by omega)).mono ?_;rintro e ZS ⟨z3,rfl,ex,ur,O,H⟩;obtain⟨m3,rfl⟩:=p9 ex;have X:Hid (Only R s ZS):=(Only.q br.drew).trans H;have C:=ae (m.ac X (by omega));have R3:=ae O;have O3:=ae (O2.trans X);clear O H X l;have l:=ae (iH C.M);refine b _ _ (λ_=>l) ?_;clear b K
    (try simp only[Act.put,nzL])
    have hxl4:=C.lt;refine ah (i:=2) rfl (by kernel_rfl) λK b=>?_;go_simp;have BQ:=ae ((q9 ZS).alloc ly (N #[U ⟨#[97]⟩,U ⟨#[122,122]⟩,U ⟨#[]⟩,U ⟨#[120,32,121]⟩,U ⟨#[116,48]⟩] 9));have X4:=ae (C.aa BQ ly);have R4:=ae (R3.aa BQ ly);have O4:=ae (O3.then (BQ.mono (by omega)));obtain⟨sx,Fn⟩:=nB (nD ZS (N #[U ⟨#[97]⟩,U ⟨#[122,122]⟩,U ⟨#[]⟩,U ⟨#[120,32,121]⟩,U ⟨#[116,48]⟩] 9)) m3 (by omega);refine b _ _ (λ_=>iH X4.M) ?_;clear b K BQ l
    (try simp only[Act.put,nzL])
    generalize World.alloc ZS _=WL at X4 R4 O4 Fn ⊢
   all_goals
    have hm5:m3<5:=by omega
    have SQ:=ae X4.keepS;have l:=ae (SQ WL (λj B _=>rfl))
    iterate 3
     refine bY 5 rfl rfl (by kernel_rfl) λK b=>?_;go_simp;refine b _ _ (λ_=>l) ?_;clear b K
     (try simp only[Act.put,nzL])
    have Ho:=X4.lt;have hxi3:=X4.hi;refine ah (i:=8) rfl (by kernel_rfl) λK b=>?_;go_simp;have AB:=ae ((q9 WL).alloc ly (N #[U sx,U ⟨#[]⟩] 87));have XA:=ae (X4.aa AB ly);have hz6:=AB.size;refine b _ _ (λ_=>SQ _ (λj B _=>AB.block j B)) ?_;clear b K l
    (try simp only[Act.put,nzL])
    refine ah (i:=9) rfl (by kernel_rfl) λK b=>?_;refine aQ rfl (.tmp 28) (.tmp 35) 30 rfl (A (h w)+2) 87 Ik (ZH #[U ⟨#[]⟩,U ⟨#[]⟩]) 2 32 MY hi Iw Iu Is rfl (by decide) (Z a2 (ZT E) c2) (ZT E) (E.flatMap bw) (by simp[Act.eval]) XA.src (Q (A (h WL)) 0 Y) 1 1 (bw ⟨sx,⟨#[]⟩⟩) (by simp[Act.eval]) rfl (λj u hu=>cU WL _ _ _ j u hu) (by simp[bw,Value.oneCell']) (by unfold maxLen;omega) (by omega) (by omega) ?_;intro v' w7 D y _;obtain⟨a7,c7,rfl⟩:=aF D;have S7:=ae (SQ w7 (λj B n7=>(y.block j (lj B AB.size) n7).trans (AB.block j B)));obtain⟨c8,b8⟩:=XA.addS (x:=⟨sx,⟨#[]⟩⟩) D y;have X9:=ae c8;have B9:=ae b8;clear D y c8 b8;refine b _ _ (λ_=>S7) ?_;clear b K
    (try simp only[Act.put,nzL])
    refine ah (i:=10) rfl (by kernel_rfl) λK b=>?_;go_simp;refine b _ _ (λ_=>S7) ?_;clear b K
    (try simp only[Act.put,nzL])
    obtain⟨s7,t7⟩:=S7.out;have f7:ZW w7 (Q (A (h ZX)) 0 Y)=ZB:=by simp[World.frozen?,s7]
    have l7:=ag s7;clear s7;refine ah (i:=11) rfl (by kernel_rfl) λK b=>?_;go_simp;refine b _ _ (λZY=>absurd rfl ZY) ?_;clear b K
    (try simp only[Act.put,nzL])
    refine bk (by kernel_rfl) ?_ _;have BB:=ae ((AB.mono (show (A (h w))+2<=A (h WL) by omega)).trans B9.out);have R9:=ae (R4.low BB (by omega));have O9:=ae (O4.then (BB.mono (by omega)));clear t7 f7 l7 Fn;go_simp;generalize World.setCell w7 _ _=W9 at X9 R9 O9 ⊢;have M:=ae X9.M;have ZQ:=ae X9.res;have ZP:=ae (fo X9.src (by simp) X9.w rfl (by rw[gB];exact(by omega:ZT E+1<=300)) (by omega) G1);clear ZK ZL bt aq;go_wp2;go_meet;exact⟨_,_,_,_,_,_,_,_,_,by omega,M,ZQ,ZP,R9,O9⟩
  ·by_cases hl:1<(ZT o:Int)
   ·obtain⟨t,rfl⟩:=fE m.w.y (by omega)
    obtain⟨r0,r1,RR,rfl⟩:∃r0 r1 RR,o=r0::r1::RR:=(by
     match o,hl with
     |[],ZY=>simp at ZY
     |[_],ZY=>simp at ZY
     |r0::r1::RR,_=>exact⟨r0,r1,RR,rfl⟩)
    have ld:(r0::r1::RR).length<=250:=by omega
    obtain⟨ka,H6⟩:=a8 m.w.y (j:=0) (u:=U r0.1.e) rfl;obtain⟨kb,Hx⟩:=a8 m.w.y (j:=1) (u:=Z (T (Q r0.2.1 0 Y)) r0.1.l r0.2.2) rfl;obtain⟨kc,Fk⟩:=a8 m.w.y (j:=2) (u:=U r1.1.e) rfl;obtain⟨kd,DE⟩:=a8 m.w.y (j:=3) (u:=Z (T (Q r1.2.1 0 Y)) r1.1.l r1.2.2) rfl;have qr:=(m.w.y.lt t rfl).2;generalize ZN:(r0::r1::RR).length=nt at ZL m hl ld H9 ⊢;have HL:=ae ZN;clear ZN;have Fm:0<nt:=by omega
    have Ig:1<nt:=by omega
    have BA:=ae ((q9 s).alloc ly (N #[U r0.1.e,Z (T (Q r0.2.1 0 Y)) r0.1.l r0.2.2] 94));have XA:=ae (m.aa BA ly);have RA:=ae (R2.aa BA ly);have Ic:=m.hi;have OA:=ae (O2.then (BA.mono (by omega)));have cc:∀j,ZV (ZU s (N #[U r0.1.e,Z (T (Q r0.2.1 0 Y)) r0.1.l r0.2.2] 94)) (Q t j Y)=ZV s (Q t j Y):=λj=>BA.cell (p:=(Q t j Y)) qr;have cf:∀j,ZW (ZU s (N #[U r0.1.e,Z (T (Q r0.2.1 0 Y)) r0.1.l r0.2.2] 94)) (Q t j Y)=ZW s (Q t j Y):=λj=>BA.frozen (p:=(Q t j Y)) qr;have KA:=ae ((cc 0).trans ka);have Hl:=ae ((cf 0).trans H6);have KB:=ae ((cc 1).trans kb);have GS:=ae ((cf 1).trans Hx);have KC:=ae ((cc 2).trans kc);have Hz:=ae ((cf 2).trans Fk);have KD:=ae ((cc 3).trans kd);have Hv:=ae ((cf 3).trans DE);have KX:Hid ((ZU s (N #[U r0.1.e,Z (T (Q r0.2.1 0 Y)) r0.1.l r0.2.2] 94)).heap[A (h s)]?=T (N #[U r0.1.e,Z (T (Q r0.2.1 0 Y)) r0.1.l r0.2.2] 94 (0,0))):=nD s _;have H7:t≠A (h s):=by omega
    have Ip:=BA.size;clear cc cf;go_wp2_with fail;generalize World.alloc s _=WA at XA RA OA KA Hl KB GS KC Hz KD Hv KX Ip ⊢;have Bk:=XA.cells.2;clear ka H6 kb Hx kc Fk kd DE BA ZK ZL bt aq;refine aD (λV=>ZV V (Q (A (h ZX)) 1 Y)=T (Z (T (Q t 0 Y)) nt c5)/\ZV V (Q t 2 Y)=T (U r1.1.e)/\ZV V (Q t 3 Y)=T (Z (T (Q r1.2.1 0 Y)) r1.1.l r1.2.2)) 7 (by kernel_rfl) ?_;have l:Hid (WA.drew.cell? (Q (A (h ZX)) 1 Y)=T (Z (T (Q t 0 Y)) nt c5)/\WA.drew.cell? (Q t 2 Y)=T (U r1.1.e)/\WA.drew.cell? (Q t 3 Y)=T (Z (T (Q r1.2.1 0 Y)) r1.1.l r1.2.2)):=⟨Bk,KC,KD⟩
    iterate 6
     refine aM 0 (v:=?_) rfl rfl (by kernel_rfl) (λ_ _ _ ZY=>ZY) rfl ?_ l ?_;rotate_left
     ·(rintro wz ⟨s0,s1,s2⟩;go_simp)
      (try with_reducible rfl)
     (try simp only[Act.put,nzL])
    refine ah (i:=6) rfl (by kernel_rfl) λK b=>?_;go_simp;refine b _ _ (λ_=>l) ?_;clear b K
    (try simp only[Act.put,nzL])
    have z0:=Hl.out;have z1:=GS.out;have y0:=KA.out;have y1:=KB.out;have hgtA:t<A (h WA):=by omega
    refine ah (i:=7) rfl (by kernel_rfl) λK b=>?_;go_simp;refine b _ _ (λZY=>absurd rfl ZY) ?_;clear b K
    (try simp only[Act.put,nzL])
    refine bk (by kernel_rfl) ?_ _;go_simp;have SW:=ae (((XA.sw HL.symm).set 0 (U r1.1.e)).set 1 (Z (T (Q r1.2.1 0 Y)) r1.1.l r1.2.2)).drew;have n9:=(XA.w.y.lt t rfl).1;have BW:=ae ((((cM (A (h w)+2) WA).setCell (p:=(Q t 0 Y)) n9 (U r1.1.e)).setCell (p:=(Q t 1 Y)) n9 (Z (T (Q r1.2.1 0 Y)) r1.1.l r1.2.2)).drew);have kx:((WA.setCell (Q t 0 Y) (U r1.1.e)).setCell (Q t 1 Y) (Z (T (Q r1.2.1 0 Y)) r1.1.l r1.2.2)).drew.heap[A (h s)]?=T (N #[U r0.1.e,Z (T (Q r0.2.1 0 Y)) r0.1.l r0.2.2] 94 (0,0)):=((qh _ (Q t 1 Y) _ (A (h s)) (λe=>H7 (Eq.symm e))).trans (qh _ (Q t 0 Y) _ (A (h s)) (λe=>H7 (Eq.symm e)))).trans KX;clear l z0 z1 y0 y1 KA Hl KB GS KC Hz KD Hv KX Bk;generalize World.drew (World.setCell (World.setCell WA _ _) _ _)=WB at SW BW kx ⊢;obtain⟨kc,Fk⟩:=a8 SW.y (j:=2) (u:=U r1.1.e) rfl;obtain⟨kd,DE⟩:=a8 SW.y (j:=3) (u:=Z (T (Q r1.2.1 0 Y)) r1.1.l r1.2.2) rfl;have ph:=SW.M;have kv:ZV WB (Q (A (h ZX)) 1 Y)=T (Z (T (Q t 0 Y)) nt c5):=by simp[World.cell?,ph]
    have P:ZV WB (Q (A (h s)) 0 Y)=T (U r0.1.e):=by simp[World.cell?,kx]
    have x1:ZV WB (Q (A (h s)) 1 Y)=T (Z (T (Q r0.2.1 0 Y)) r0.1.l r0.2.2):=by simp[World.cell?,kx]
    have hgtB:t<A (h WB):=(SW.y.lt t rfl).2;have kv0:ZV WB (Q (A (h ZX)) 0 Y)=T (Z a2 (ZT E) c2):=by simp[World.cell?,ph]
    have l1:=ag ph;have Iq:¬ t=A (h ZX):=by intro e;obtain⟨Ij,Hk⟩:=dC SW.y t rfl;rw[e] at Hk;have h3:=ph.symm.trans Hk;cases h3
    have hg1':¬ (A (h ZX))=t:=λe=>Iq e.symm;have sm:=ae ((SW.set 2 (U r0.1.e)).set 3 (Z (T (Q r0.2.1 0 Y)) r0.1.l r0.2.2))
    have ZP:=ae (sm.fin rfl (L:=r1::r0::RR) (by rw[<-oN];rfl) HL.symm (by omega) (by have:=HL.out;simp only[p6] at this ⊢;omega) (by
     intro r hr;simp only[BS] at hr ⊢;rcases hr with ZY|ZY|ZY;{exact .inr (.inl ZY)};{exact .inl ZY}
     ·exact .inr (.inr ZY)) G1)
    have BF:=ae ((BW.setCell (p:=(Q t 2 Y)) n9 (U r0.1.e)).setCell (p:=(Q t 3 Y)) n9 (Z (T (Q r0.2.1 0 Y)) r0.1.l r0.2.2));have R9:=ae (RA.low BF (by omega));have O9:=ae (OA.then (BF.mono (show (A (h w))<=A (h w)+2 by omega)));have M:=ae sm.M;have ZQ:=ae sm.res;clear ph kx SW sm BF BW XA RA OA;go_wp2;go_meet;exact⟨_,_,_,_,_,_,_,_,_,by omega,M,ZQ,ZP,R9,O9⟩
   {skip;have M:=ae m.M;have ZQ:=ae m.res;have ZP:=ae (fo m.src rfl m.w rfl (by omega) (by omega) G1);go_wp2;go_meet;exact⟨_,_,_,_,_,_,_,_,_,by omega,M,ZQ,ZP,R2,O2⟩}
  ·by_cases hl:0<(ZT o:Int)
   ·go_wp2_with fail;obtain⟨t,rfl⟩:=fE m.w.y (by omega)
    obtain⟨r0,RR,rfl⟩:∃r0 RR,o=r0::RR:=(by
     match o,hl with
     |[],ZY=>simp at ZY
     |r0::RR,_=>exact⟨r0,RR,rfl⟩)
    have ld:(r0::RR).length<=250:=by omega
    have kb:=(a8 m.w.y (j:=1) (u:=Z (T (Q r0.2.1 0 Y)) r0.1.l r0.2.2) rfl).1;have qr:=(m.w.y.lt t rfl).2;have n9:=(m.w.y.lt t rfl).1;have AC:=ae (m.w.u r0 (NT ..));have Im:=N1.out r0 (NT ..);have Ir:=ae (G1 r0 (NT ..)).2;generalize ZN:(r0::RR).length=nt at ZL m hl ld H9 ⊢;have HL:=ae ZN;clear ZN;have Fm:0<nt:=by omega
    have hRb:R<A (h w)+2:=by omega
    refine aD (λV=>V.heap[A (h ZX)]?=T (N #[Z a2 (ZT E) c2,Z (T (Q t 0 Y)) nt c5] 33 (0,0))/\ZV V (Q (A (h ZX)) 1 Y)=T (Z (T (Q t 0 Y)) nt c5)/\ZV V (Q t 1 Y)=T (Z (T (Q r0.2.1 0 Y)) r0.1.l r0.2.2)) 11 (by kernel_rfl) ?_;have l:Hid (s.drew.heap[A (h ZX)]?=T (N #[Z a2 (ZT E) c2,Z (T (Q t 0 Y)) nt c5] 33 (0,0))/\s.drew.cell? (Q (A (h ZX)) 1 Y)=T (Z (T (Q t 0 Y)) nt c5)/\s.drew.cell? (Q t 1 Y)=T (Z (T (Q r0.2.1 0 Y)) r0.1.l r0.2.2)):=⟨m.M,ZL,kb⟩
    iterate 8
     refine aM 0 (v:=?_) rfl rfl (by kernel_rfl) (λ_ _ _ ZY=>ZY) rfl ?_ l ?_;rotate_left
     ·(rintro wz ⟨s0,s1,s2⟩;go_simp)
      (try with_reducible rfl)
     (try simp only[Act.put,nzL])
    refine ah (i:=8) rfl (by kernel_rfl) λK b=>?_;go_simp;go_at_call 54;refine(vP R _ r0.2.1 r0.2.2 r0.1.l r0.1.u _ (R2.aa br.drew ly) (by omega) (AC.1.aa br.drew ly) Im Ir).mono ?_;rintro e ZS ⟨L3,g3,d3,rfl,th,_,hL3,Io,q3,hq3,O,H⟩;have X:Hid (Only R s ZS):=(Only.q br.drew).trans H;have C:=ae (m.ac X (by omega));have R3:=ae O;have O3:=ae (O2.trans X);have Hw:ZV ZS (Q t 1 Y)=T (Z (T (Q r0.2.1 0 Y)) r0.1.l r0.2.2):=(X.cell t 1 qr (by omega)).trans kb;have z3:ZW ZS (Q t 1 Y)=ZB:=by obtain⟨Ij,hc⟩:=C.w.type t rfl;simp[World.frozen?,hc]
    have hgt3:=lj qr X.size;have SA:=ae (C.setA (n:=ZT L3) (g:=g3) (c:=d3) (f:=de L3) rfl HL.symm (gV (by have ZY:=th;unfold IR at ZY;rw[pK] at ZY;exact ZY)).1 (fU th) (by have:A (h s)<=g3:=th.lt.1;have:=m.lt;have:=m.hi;omega) (by omega) (jy Io) (by omega) (by rw[HL.out];omega) G1);clear th O H X l;have l:=ae (show ZS.heap[A (h ZX)]?=T (N #[Z a2 (ZT E) c2,Z (T (Q t 0 Y)) nt c5] 33 (0,0))/\ZV ZS (Q (A (h ZX)) 1 Y)=T (Z (T (Q t 0 Y)) nt c5)/\ZV ZS (Q t 1 Y)=T (Z (T (Q r0.2.1 0 Y)) r0.1.l r0.2.2) from⟨C.M,C.cells.2,Hw⟩);refine b _ _ (λ_=>l) ?_;clear b K
    (try simp only[Act.put,nzL])
    iterate 2
     refine bY 9 rfl rfl (by kernel_rfl) λK b=>?_;go_simp;refine b _ _ (λ_=>l) ?_;clear b K
     (try simp only[Act.put,nzL])
    refine ah (i:=11) rfl (by kernel_rfl) λK b=>?_;go_simp;refine b _ _ (λZY=>absurd rfl ZY) ?_;clear b K
    (try simp only[Act.put,nzL])
    refine bk (by kernel_rfl) ?_ _;obtain⟨hE,hB,hQ,fd⟩:=SA.out;have ZP:=ae hE;have M:=ae hB;have ZQ:=ae hQ;have R4:=ae (R3.low fd (by omega));have O4:=ae (O3.then (fd.mono (show (A (h w))<=A (h w)+2 by omega)));clear hE hB hQ fd SA l kb Hw z3 hl ZK ZL bt aq;go_simp;generalize World.setCell ZS _ _=W4 at ZP M ZQ R4 O4 ⊢;go_wp2;go_meet;exact⟨_,_,_,_,_,_,_,_,_,by omega,M,ZQ,ZP,R4,O4⟩
   {skip;have M:=ae m.M;have ZQ:=ae m.res;have ZP:=ae (fo m.src rfl m.w rfl (by omega) (by omega) G1);go_wp2;go_meet;exact⟨_,_,_,_,_,_,_,_,_,by omega,M,ZQ,ZP,R2,O2⟩}
  ·by_cases hl:0<(ZT E:Int)
   ·go_wp2_with fail;obtain⟨gs,rfl⟩:=fE m.src (by omega)
    obtain⟨P,ZJ,rfl⟩:∃P ZJ,E=P::ZJ:=(by
     match E,hl with
     |[],ZY=>simp at ZY
     |P::ZJ,_=>exact⟨P,ZJ,rfl⟩)
    have ld:(P::ZJ).length<=250:=by omega
    generalize ZN:(P::ZJ).length=nl at ZK m hl ld Hr ⊢;have HL:=ae ZN;clear ZN;have Fm:0<nl:=by omega
    refine aD (BxS (Z (T (Q gs 0 Y)) nl c2) (Z a5 (ZT o) c5) (A (h ZX))) 8 (by kernel_rfl) ?_;have l:=ae (iH (W:=s.drew) m.M);iterate 3
     refine aM 0 (v:=?_) rfl rfl (by kernel_rfl) (λ_ _ _ ZY=>ZY) rfl ?_ l ?_;rotate_left
     ·(rintro wz ⟨s0,s1⟩;go_simp)
      (try with_reducible rfl)
     (try simp only[Act.put,nzL])
    refine ah (i:=3) rfl (by kernel_rfl) λK b=>?_;go_simp;go_at_call 13;refine(ar R _ 2 _ (R2.aa br.drew ly) (by omega) (by omega) (by omega)).mono ?_;rintro e ZS ⟨z3,rfl,ex,ur,O,H⟩;obtain⟨m3,rfl⟩:=p9 ex;have X:Hid (Only R s ZS):=(Only.q br.drew).trans H;have C:=ae (m.ac X (by omega));have R3:=ae O;have O3:=ae (O2.trans X);clear O H X l;have l:=ae (iH C.M);refine b _ _ (λ_=>l) ?_;clear b K
    (try simp only[Act.put,nzL])
    have Ib:IntKind.i64.wrap (2000+(m3:Int))=2000+(m3:Int):=by rw[nL];omega
    refine ah (i:=4) rfl (by kernel_rfl) λK b=>?_;go_simp;refine b _ _ (λ_=>l) ?_;clear b K
    (try simp only[Act.put,nzL])
    refine ah (i:=5) rfl (by kernel_rfl) λK b=>?_;go_simp;go_at_call 53;refine(eZ ⟨#[115]⟩ (2000+m3) _ (by show 1*(2000+m3)<=4000;omega) (by omega)).mono ?_;rintro e w4 ⟨tt,rfl,_,rfl⟩;refine b _ _ (λ_=>l) ?_;clear b K
    (try simp only[Act.put,nzL])
    have XL:Hid (SpX (A (h w)+1) (A (h ZX)) (A (h w)+2) w4 (Z (T (Q gs 0 Y)) (P::ZJ).length c2) (Z a5 (ZT o) c5) (P::ZJ) o):=by rw[HL.out];exact C
    have Ih:=(XL.src.lt gs rfl).2;obtain⟨ky,kz⟩:=a8 XL.src (j:=1) (u:=U P.B) rfl;obtain⟨x3,b3⟩:=XL.setS (j:=1) (LS':=⟨P.e,tt⟩::ZJ) (U tt) rfl rfl;clear XL;rw[HL.out] at x3;have X4:=ae x3;have B4:=ae b3;clear x3 b3;iterate 2
     refine bY 6 rfl rfl (by kernel_rfl) λK b=>?_;go_simp;refine b _ _ (λ_=>l) ?_;clear b K
     (try simp only[Act.put,nzL])
    refine ah (i:=8) rfl (by kernel_rfl) λK b=>?_;go_simp;refine b _ _ (λZY=>absurd rfl ZY) ?_;clear b K
    (try simp only[Act.put,nzL])
    refine bk (by kernel_rfl) ?_ _;have R4:=ae (R3.low B4 (by omega));have O4:=ae (O3.then (B4.mono (show (A (h w))<=A (h w)+2 by omega)));clear l ky kz hl;go_simp;generalize World.setCell w4 _ _=W4 at X4 R4 O4 ⊢;have M:=ae X4.M;have ZQ:=ae X4.res;have ZP:=ae (fo X4.src HL.symm X4.w rfl (by have:=HL.out;simp only[p6] at this ⊢;omega) (by omega) G1);clear ZK ZL bt aq;go_wp2;go_meet;exact⟨_,_,_,_,_,_,_,_,_,by omega,M,ZQ,ZP,R4,O4⟩
   {skip;have M:=ae m.M;have ZQ:=ae m.res;have ZP:=ae (fo m.src rfl m.w rfl (by omega) (by omega) G1);go_wp2;go_meet;exact⟨_,_,_,_,_,_,_,_,_,by omega,M,ZQ,ZP,R2,O2⟩}
  ·go_wp2_with fail;go_loopw [7] (λi wr=>∃(k q:Nat) (v1:Value) (RQ:List TR),i=J I k/\k<=ZT RQ/\q<=p+1+k/\(ZT RQ)<=300/\Hid (SpX (A (h w)+1) (A (h ZX)) (A (h w)+2) wr (Z a2 (ZT E) c2) v1 E RQ)/\Hid (GX RQ)/\Hid (Rd wr R q)/\Hid (Only R w wr)) (λi _=>400 - (intOf i).toNat);case atStart=>exact⟨0,p+1,_,o,rfl,by omega,by omega,by omega,m,G1,R2,O2⟩
   case round =>
    clear m R2 O2 ZK ZL bt aq G1 N1 la;obtain⟨k,q4,v1,o,rfl,hk,hq4,hk3,m,G1,R2,O2⟩:=hrel;obtain⟨s,rfl⟩:∃s,s=wr:=⟨wr,rfl⟩
    obtain⟨a5,c5,rfl⟩:=aF m.w.y;have la:=m.lt;have hw1:IntKind.i64.wrap ((ZT E:Int)+ZT o)=(ZT E:Int)+ZT o:=by rw[nL];omega
    have hwk:IntKind.i64.wrap ((k:Int)+1)=(k:Int)+1:=by rw[nL];omega
    go_wp2_with fail;have SB:Hid (∀V:G,V.heap[A (h ZX)]?=T (N #[Z a2 (ZT E) c2,Z a5 (ZT o) c5] 33 (0,0))->V.heap[A (h ZX)]?=T (N #[Z a2 (ZT E) c2,Z a5 (ZT o) c5] 33 (0,0))/\ZV V (Q (A (h ZX)) 0 Y)=T (Z a2 (ZT E) c2)/\ZV V (Q (A (h ZX)) 1 Y)=T (Z a5 (ZT o) c5)):=λV ZY=>⟨ZY,by simp[World.cell?,ZY],by simp[World.cell?,ZY]⟩
    refine wp_region_held_drew (S:=λV=>V.heap[A (h ZX)]?=T (N #[Z a2 (ZT E) c2,Z a5 (ZT o) c5] 33 (0,0))/\ZV V (Q (A (h ZX)) 0 Y)=T (Z a2 (ZT E) c2)/\ZV V (Q (A (h ZX)) 1 Y)=T (Z a5 (ZT o) c5)) (by kernel_rfl) (SB s m.M) λhS=>?_;have l:=ae hS;clear hS;iterate 8
     refine aW 0 (v:=?_) rfl rfl (by kernel_rfl) (λ_ _ _ ZY=>ZY) rfl ?_ l ?_;rotate_left
     ·(rintro wz ⟨s0,s1,s2⟩;go_simp)
      (try with_reducible rfl)
     (try simp only[Act.put,nzL])
    refine aS (i:=8) rfl (by kernel_rfl) λK b=>?_;go_simp;go_at_call 13;refine(ar R _ 2 _ (R2.aa br.drew ly) (by omega) (by omega) (by omega)).mono ?_;rintro e ZS ⟨z3,rfl,ex,ur,O,H⟩;obtain⟨m3,rfl⟩:=p9 ex;have X:Hid (Only R s ZS):=(Only.q br.drew).trans H;have C:=ae (m.ac X (by omega));have R3:=ae O;have O3:=ae (O2.trans X);clear O H X l;have l:=ae (SB ZS C.M);refine b _ _ l ?_;clear b K
    (try simp only[Act.put,nzL])
    have Ib:IntKind.i64.wrap (200+(m3:Int))=200+(m3:Int):=by rw[nL];omega
    iterate 2
     refine gn 9 rfl rfl (by kernel_rfl) λK b=>?_;go_simp;refine b _ _ l ?_;clear b K
     (try simp only[Act.put,nzL])
    refine wpAnyH_done (by kernel_rfl) ?_ _;clear l SB;by_cases hlt:(ZT E:Int)+ZT o<200+(m3:Int)
    ·go_wp2_with fail;have Ho:=C.lt;have SQ:=ae C.keepT;refine aD (BxT (Z a2 (ZT E) c2) (Z a5 (ZT o) c5) (A (h ZX))) 13 (by kernel_rfl) ?_;have l:=ae (SQ ZS.drew (λj B _=>rfl));iterate 3
      refine aM 0 (v:=?_) rfl rfl (by kernel_rfl) (λ_ _ _ ZY=>ZY) rfl ?_ l ?_;rotate_left
      ·(rintro wz ⟨s0,s1⟩;go_simp)
       (try with_reducible rfl)
      (try simp only[Act.put,nzL])
     refine ah (i:=3) rfl (by kernel_rfl) λK b=>?_;go_simp;go_at_call 64;refine(jW k (by omega) _).mono ?_;rintro e wl ⟨lb,rfl,hlb,fd⟩;have BL:Hid (Below (A (h ZS)) ZS wl):=(q9 ZS).drew.trans fd;clear fd l;have l:=ae (SQ wl (λj B _=>BL.block j B));refine b _ _ (λ_=>l) ?_;clear b K
     (try simp only[Act.put,nzL])
     refine iy (i:=4) (v:=U (⟨#[117]⟩++lb)) rfl (by kernel_rfl) (by kernel_rfl) (by kernel_rfl) (by kernel_rfl) (λ_ _ _ ZY=>ZY) rfl ?_ l ?_;{intro wz _;go_simp;omega}
     (try simp only[Act.put,nzL])
     generalize (⟨#[117]⟩:ByteArray)++lb=tn;refine ah (i:=5) rfl (by kernel_rfl) λK b=>?_;go_simp;go_at_call 41;refine(bi _ _).mono ?_;rintro e wm ⟨rfl,Hu⟩;have BM:=ae (BL.trans (Hu.mono BL.size));clear Hu l;have l:=ae (SQ wm (λj B _=>BM.block j B));refine b _ _ (λ_=>l) ?_;clear b K
     (try simp only[Act.put,nzL])
     refine ah (i:=6) rfl (by kernel_rfl) λK b=>?_;go_simp;go_at_call 40;refine(aT _ _).mono ?_;rintro e ZM ⟨rfl,n8⟩;have BN:=ae (BM.trans (n8.mono BM.size));clear n8 l BL BM;have Ie:=BN.size;have BI:=ae (BN.alloc (by omega) (N #[J I 1,U ⟨#[107]⟩,J I 0,J I 15,U ⟨#[]⟩,J I 0] 90));have Iv:=C.hi;have OI:=ae (wU ZM (base:=A (h w)+2) (by omega));have l:=ae (SQ ZM (λj B _=>BN.block j B));refine b _ _ (λ_=>l) ?_;clear b K l
     (try simp only[Act.put,nzL])
     have l:=ae (SQ _ (λj B _=>BI.block j B));iterate 3
      refine bY 7 rfl rfl (by kernel_rfl) λK b=>?_;go_simp;refine b _ _ (λ_=>l) ?_;clear b K
      (try simp only[Act.put,nzL])
     have Hn:A (h (ZU ZM (N #[J I 1,U ⟨#[107]⟩,J I 0,J I 15,U ⟨#[]⟩,J I 0] 90)))=A (h ZM)+1:=by simp
     have AB:=ae (BI.alloc (by omega) (N #[U tn,Z (T (Q (A (h ZM)) 0 Y)) 2 2] 94));refine ah (i:=10) rfl (by kernel_rfl) λK b=>?_;go_simp;have XA:=ae (C.aa AB ly);have OA:=ae (own_below OI (br.alloc ly (N #[U tn,Z (T (Q (A (h ZM)) 0 Y)) 2 2] 94)) ly);refine b _ _ (λ_=>SQ _ (λj B _=>AB.block j B)) ?_;clear b K
     (try simp only[Act.put,nzL])
     refine ah (i:=11) rfl (by kernel_rfl) λK b=>?_;refine aQ rfl (.tmp 106) (.tmp 115) 31 rfl (A (h w)+2) 94 Fd (ZH #[U ⟨#[]⟩,Z Y 0 0]) 2 40 LC B Hj DQ Hm rfl (by decide) (Z a5 (ZT o) c5) (ZT o) (o.flatMap aY) (by simp[Act.eval]) XA.w.y (Q (A (h ZM)+1) 0 Y) 1 1 (aY (⟨tn,2,lsI j9⟩,A (h ZM),2)) (by simp[Act.eval]) rfl (λj u hu=>oM (Hn) _ _ _ j u hu) (by simp[aY,Value.oneCell']) (by unfold maxLen;omega) (by omega) (by have:=XA.hi;have:=XA.lt;omega) ?_;intro v' w7 D y _;obtain⟨a7,c7,rfl⟩:=aF D;have S7:=ae (SQ w7 (λj B n7=>(y.block j (lj B AB.size) n7).trans (AB.block j B)));obtain⟨c8,b8⟩:=XA.addT (x:=⟨tn,2,lsI j9⟩) (g:=A (h ZM)) (c:=2) (λr hr e=>by have:=C.w.ltg r hr;omega) OA D y;have X9:=ae c8;have B9:=ae b8;clear D y c8 b8;refine b _ _ (λ_=>S7) ?_;clear b K
     (try simp only[Act.put,nzL])
     refine ah (i:=12) rfl (by kernel_rfl) λK b=>?_;go_simp;refine b _ _ (λ_=>S7) ?_;clear b K
     (try simp only[Act.put,nzL])
     obtain⟨s7,t7⟩:=S7.out;have f7:ZW w7 (Q (A (h ZX)) 1 Y)=ZB:=by simp[World.frozen?,s7]
     have l7:=ag s7;clear s7;refine ah (i:=13) rfl (by kernel_rfl) λK b=>?_;go_simp;refine b _ _ (λZY=>absurd rfl ZY) ?_;clear b K
     (try simp only[Act.put,nzL])
     refine bk (by kernel_rfl) ?_ _;go_wp2;have BB:=ae ((AB.mono (show (A (h w))+2<=A (h ZS) by omega)).trans B9.out);refine⟨⟨k+1,_,Z a7 (ZT o+1) c7,o++[((⟨tn,2,lsI j9⟩,A (h ZM),2):TR)],by go_num,by rw[gB];exact Nat.succ_le_succ hk,by omega,by rw[gB];exact(by omega:ZT o+1<=300),X9,G1.add (r:=(⟨tn,2,lsI j9⟩,A (h ZM),2)) (by show 2<=300;omega) uv,R3.low BB (by omega),O3.then (BB.mono (by omega))⟩,by simp[intOf];omega⟩
    {have ZK:=la;have ZL:=la;have bt:=la;have aq:=la;have M:=ae C.M;have ZQ:=ae C.res;have ZP:=ae (fo C.src rfl C.w rfl (by omega) (by omega) G1);clear ZK ZL bt aq;go_wp2;go_meet;exact⟨_,_,_,_,_,_,_,_,_,by omega,M,ZQ,ZP,R3,O3⟩}
  ·go_wp2_with fail;refine aD (BxT (Z a2 (ZT E) c2) (Z a5 (ZT o) c5) (A (h ZX))) 14 (by kernel_rfl) ?_;have l:=ae (mO (W:=s.drew) m.M);iterate 3
    refine aM 0 (v:=?_) rfl rfl (by kernel_rfl) (λ_ _ _ ZY=>ZY) rfl ?_ l ?_;rotate_left
    ·(rintro wz ⟨s0,s1⟩;go_simp)
     (try with_reducible rfl)
    (try simp only[Act.put,nzL])
   refine ah (i:=3) rfl (by kernel_rfl) λK b=>?_;go_simp;go_at_call 13;refine(ar R _ 2 _ (R2.aa br.drew ly) (by omega) (by omega) (by omega)).mono ?_;rintro e ZS ⟨z3,rfl,ex,ur,O,H⟩;obtain⟨m3,rfl⟩:=p9 ex;have X:Hid (Only R s ZS):=(Only.q br.drew).trans H;have C:=ae (m.ac X (by omega));have R3:=ae O;have O3:=ae (O2.trans X);clear O H X l;have l:=ae (mO C.M);refine b _ _ (λ_=>l) ?_;clear b K
   (try simp only[Act.put,nzL])
   have hw60:IntKind.i64.wrap (60+(m3:Int))=60+(m3:Int):=by rw[nL];omega
   refine ah (i:=4) rfl (by kernel_rfl) λK b=>?_;go_simp;refine b _ _ (λ_=>l) ?_;clear b K
   (try simp only[Act.put,nzL])
   refine ah (i:=5) rfl (by kernel_rfl) λK b=>?_;go_simp;go_at_call 53;refine(eZ ⟨#[110]⟩ (60+m3) _ (by show 1*(60+m3)<=4000;omega) (by omega)).mono ?_;rintro e w4 ⟨tn,rfl,_,rfl⟩;refine b _ _ (λ_=>l) ?_;clear b K l
   (try simp only[Act.put,nzL])
   have SQ:=ae C.keepT;refine ah (i:=6) rfl (by kernel_rfl) λK b=>?_;go_simp;go_at_call 41;refine(bi _ _).mono ?_;rintro e wm ⟨rfl,Hy⟩;have BM:=ae Hy;clear Hy;refine b _ _ (λ_=>SQ wm (λj B _=>BM.block j B)) ?_;clear b K
   (try simp only[Act.put,nzL])
   refine ah (i:=7) rfl (by kernel_rfl) λK b=>?_;go_simp;go_at_call 40;refine(aT _ _).mono ?_;rintro e ZM ⟨rfl,n8⟩;have BN:=ae (BM.trans (n8.mono BM.size));clear n8 BM;have Ie:=BN.size;have BI:=ae (BN.alloc (by omega) (N #[J I 1,U ⟨#[107]⟩,J I 0,J I 15,U ⟨#[]⟩,J I 0] 90));have Iv:=C.hi;have Ho:=C.lt;have OI:=ae (wU ZM (base:=A (h w)+2) (by omega));refine b _ _ (λ_=>SQ ZM (λj B _=>BN.block j B)) ?_;clear b K
   (try simp only[Act.put,nzL])
   have l:=ae (SQ _ (λj B _=>BI.block j B));iterate 3
    refine bY 8 rfl rfl (by kernel_rfl) λK b=>?_;go_simp;refine b _ _ (λ_=>l) ?_;clear b K
    (try simp only[Act.put,nzL])
   have Hn:A (h (ZU ZM (N #[J I 1,U ⟨#[107]⟩,J I 0,J I 15,U ⟨#[]⟩,J I 0] 90)))=A (h ZM)+1:=by simp
   have AB:=ae (BI.alloc (by omega) (N #[U tn,Z (T (Q (A (h ZM)) 0 Y)) 2 2] 94));refine ah (i:=11) rfl (by kernel_rfl) λK b=>?_;go_simp;have XA:=ae (C.aa AB ly);have OA:=ae (own_below OI (br.alloc ly (N #[U tn,Z (T (Q (A (h ZM)) 0 Y)) 2 2] 94)) ly);refine b _ _ (λ_=>SQ _ (λj B _=>AB.block j B)) ?_;clear b K
   (try simp only[Act.put,nzL])
   refine ah (i:=12) rfl (by kernel_rfl) λK b=>?_;refine aQ rfl (.tmp 121) (.tmp 131) 31 rfl (A (h w)+2) 94 Fd (ZH #[U ⟨#[]⟩,Z Y 0 0]) 2 40 LC B Hj DQ Hm rfl (by decide) (Z a5 (ZT o) c5) (ZT o) (o.flatMap aY) (by simp[Act.eval]) XA.w.y (Q (A (h ZM)+1) 0 Y) 1 1 (aY (⟨tn,2,lsI j9⟩,A (h ZM),2)) (by simp[Act.eval]) rfl (λj u hu=>oM (Hn) _ _ _ j u hu) (by simp[aY,Value.oneCell']) (by unfold maxLen;omega) (by omega) (by have:=XA.hi;have:=XA.lt;omega) ?_;intro v' w7 D y _;obtain⟨a7,c7,rfl⟩:=aF D;have S7:=ae (SQ w7 (λj B n7=>(y.block j (lj B AB.size) n7).trans (AB.block j B)));obtain⟨c8,b8⟩:=XA.addT (x:=⟨tn,2,lsI j9⟩) (g:=A (h ZM)) (c:=2) (λr hr e=>by have:=C.w.ltg r hr;omega) OA D y;have X9:=ae c8;have B9:=ae b8;clear D y c8 b8;refine b _ _ (λ_=>S7) ?_;clear b K
   (try simp only[Act.put,nzL])
   refine ah (i:=13) rfl (by kernel_rfl) λK b=>?_;go_simp;refine b _ _ (λ_=>S7) ?_;clear b K
   (try simp only[Act.put,nzL])
   obtain⟨s7,t7⟩:=S7.out;have f7:ZW w7 (Q (A (h ZX)) 1 Y)=ZB:=by simp[World.frozen?,s7]
   have l7:=ag s7;clear s7;refine ah (i:=14) rfl (by kernel_rfl) λK b=>?_;go_simp;refine b _ _ (λZY=>absurd rfl ZY) ?_;clear b K
   (try simp only[Act.put,nzL])
   refine bk (by kernel_rfl) ?_ _;have BB:=ae ((AB.mono (show (A (h w))+2<=A (h w4) by omega)).trans B9.out);have R9:=ae (R3.low BB (by omega));have O9:=ae (O3.then (BB.mono (by omega)));have G9:=ae (G1.add (r:=(⟨tn,2,lsI j9⟩,A (h ZM),2)) (by show 2<=300;omega) uv);clear t7 f7 l7 l;go_simp;generalize World.setCell w7 _ _=W9 at X9 R9 O9 ⊢;have M:=ae X9.M;have ZQ:=ae X9.res;have ZP:=ae (fo X9.src rfl X9.w (by simp) (by omega) (by rw[gB];exact(by omega:ZT o+1<=300)) G9);clear ZK ZL bt aq;go_wp2;go_meet;exact⟨_,_,_,_,_,_,_,_,_,by omega,M,ZQ,ZP,R9,O9⟩
  {have BQ:=ae ((q9 s).alloc ly (N #[U ⟨#[97]⟩,Z Y 0 0] 94));have XQ:=ae (m.aa BQ ly);go_wp2_with (at_builtin;refine bU _ rfl (.tmp 137) (.tmp 139) 31 rfl (A (h w)+2) 94 Fd (ZH #[U ⟨#[]⟩,Z Y 0 0]) 2 40 LC B Hj DQ Hm rfl (by decide) (Z a5 (ZT o) c5) (ZT o) (o.flatMap aY) (by simp[Act.eval]) XQ.w.y (Q (A (h s)) 0 Y) 1 1 [U ⟨#[97]⟩,Z Y 0 0] (by simp[Act.eval]) rfl (λj u hu=>cU s _ _ _ j u hu) (by simp[Value.oneCell']) (by unfold maxLen;omega) (by omega) (by have:=m.hi;simp;omega) ?_;intro v' ZS D y _;obtain⟨a7,c7,rfl⟩:=aF D;obtain⟨hE,hB,hQ,fd⟩:=XQ.addNil D y (by omega) (by omega) G1.out;have ZP:=ae hE;have Hq:=ae fd;have M:=ae hB;have ZQ:=ae hQ;have kb:=ft y XQ.w.type XQ.M (by decide);clear D y hE hB hQ fd ZK ZL bt aq;have e0:ZV ZS (Q (A (h ZX)) 0 Y)=T (Z a2 (ZT E) c2):=(by simp[World.cell?,kb]);have e1:ZV ZS (Q (A (h ZX)) 1 Y)=T (Z a5 (ZT o) c5):=(by simp[World.cell?,kb]);have f2:ZW ZS (Q (A (h ZX)) 1 Y)=ZB:=(by simp[World.frozen?,kb]);have l1:=ag kb;have n7:=XQ.hi;clear kb);go_meet;exact⟨_,_,_,_,_,_,_,_,_,by omega,M,ZQ,ZP,R2.low (BQ.mono (show (A (h w))+2<=A (h s) by omega) |>.trans Hq.out) (by omega),O2.then ((BQ.mono (show (A (h w))<=A (h s) by omega)).trans (Hq.mono (by omega)))⟩}
  ·by_cases hl:1<(ZT E:Int)
   ·go_wp2_with fail;obtain⟨gs,rfl⟩:=fE m.src (by omega)
    obtain⟨P,x1,ZJ,rfl⟩:∃P x1 ZJ,E=P::x1::ZJ:=(by
     match E,hl with
     |[],ZY=>simp at ZY
     |[_],ZY=>simp at ZY
     |P::x1::ZJ,_=>exact⟨P,x1,ZJ,rfl⟩)
    have Ih:=(m.src.lt gs rfl).2;have kx:=(a8 m.src (j:=0) (u:=U P.e) rfl).1;obtain⟨ky,kz⟩:=a8 m.src (j:=2) (u:=U x1.e) rfl;obtain⟨x3,b3⟩:=m.setS (j:=2) (LS':=P::⟨P.e,x1.B⟩::ZJ) (U P.e) rfl rfl;have C:=ae x3;have B3:=ae b3;clear x3 b3;have ld:(P::x1::ZJ).length<=250:=by omega
    have Ii:(1:Int)<(P::x1::ZJ).length:=hl;generalize ZN:(P::x1::ZJ).length=nl at *;have HL:=ae ZN;clear ZN;have Fm:0<nl:=by omega
    have Ig:1<nl:=by omega
    refine aD (λV=>ZV V (Q (A (h ZX)) 0 Y)=T (Z (T (Q gs 0 Y)) nl c2)/\ZV V (Q gs 0 Y)=T (U P.e)) 9 (by kernel_rfl) ?_;have l:Hid ((s.drew.cell? (Q (A (h ZX)) 0 Y)=T (Z (T (Q gs 0 Y)) nl c2))/\s.drew.cell? (Q gs 0 Y)=T (U P.e)):=⟨ZK,kx⟩
    iterate 7
     refine aM 0 (v:=?_) rfl rfl (by kernel_rfl) (λ_ _ _ ZY=>ZY) rfl ?_ l ?_;rotate_left
     ·(rintro wz ⟨s0,s1⟩;go_simp)
      (try with_reducible rfl)
     (try simp only[Act.put,nzL])
    iterate 2
     refine bY 7 rfl rfl (by kernel_rfl) λK b=>?_;go_simp;refine b _ _ (λ_=>l) ?_;clear b K
     (try simp only[Act.put,nzL])
    refine ah (i:=9) rfl (by kernel_rfl) λK b=>?_;go_simp;refine b _ _ (λZY=>absurd rfl ZY) ?_;clear b K
    (try simp only[Act.put,nzL])
    refine bk (by kernel_rfl) ?_ _;have R3:=ae ((R2.low B3 (by omega)).aa br.drew ly);have O3:=ae (O2.then ((B3.mono (show (A (h w))<=A (h w)+2 by omega)).drew));have XD:=ae (C.aa br.drew ly);clear l kx ky kz hl Ii;go_simp;generalize World.drew (World.setCell s _ _)=W3 at XD R3 O3 ⊢;have M:=ae XD.M;have ZQ:=ae XD.res;have ZP:=ae (fo XD.src HL.symm XD.w rfl (by have:=HL.out;simp only[p6] at this ⊢;omega) (by omega) G1);clear ZK ZL bt aq;go_wp2;go_meet;exact⟨_,_,_,_,_,_,_,_,_,by omega,M,ZQ,ZP,R3,O3⟩
   {skip;have M:=ae m.M;have ZQ:=ae m.res;have ZP:=ae (fo m.src rfl m.w rfl (by omega) (by omega) G1);go_wp2;go_meet;exact⟨_,_,_,_,_,_,_,_,_,by omega,M,ZQ,ZP,R2,O2⟩}
 case rest =>
 clear m R2 O2 ZK ZL bt aq la;obtain⟨b0,m0,k0,g0,b1,m1,k1,g1,q',hq',M,ZQ,ZP,R9,O9⟩:=hcut;generalize wc=W9 at M ZQ ZP R9 O9 ⊢;have kb:=M.out;have kr:=ZQ.out;have e0:ZV W9 (Q (A (h ZX)) 0 Y)=T (Z b0 m0 k0):=by simp[World.cell?,kb]
 have e1:ZV W9 (Q (A (h ZX)) 1 Y)=T (Z b1 m1 k1):=by simp[World.cell?,kb]
 have r0:ZV W9 (Q (A (h w)+1) 0 Y)=T (Z Y 0 0):=by simp[World.cell?,kr]
 have r1:ZV W9 (Q (A (h w)+1) 1 Y)=T (Z Y 0 0):=by simp[World.cell?,kr]
 have f0:ZW W9 (Q (A (h w)+1) 0 Y)=ZB:=by simp[World.frozen?,kr]
 have f1:ZW W9 (Q (A (h w)+1) 1 Y)=ZB:=by simp[World.frozen?,kr]
 have l0:=ag kr;have l1:=ag kb;clear kb kr;have BE:=ae (((cM (A (h w)) W9).setCell (p:=(Q (A (h w)+1) 0 Y)) (IS _) (Z b0 m0 k0)).setCell (p:=(Q (A (h w)+1) 1 Y)) (IS _) (Z b1 m1 k1));have Iy:=ae ((ZP.agr ((jf (j:=0) (show (A (h w))+1<A (h w)+2 by omega) (Z b0 m0 k0)).trans (jf (j:=1) (show (A (h w))+1<A (h w)+2 by omega) (Z b1 m1 k1)))).mono (show (A (h w))<=A (h w)+2 by omega));go_wp2;exact bp (v:=ZH #[Z b0 m0 k0,Z b1 m1 k1]) (by simp[results,results28,go_sem,r0,r1]) rfl ⟨_,_,_,_,_,_,_,_,rfl,Iy,_,by omega,R9.low BE Id,O9.then BE⟩
theorem Fs {w:G}{g:Nat}{a0 a1:Option Addr}{c0 c1:Nat}{f:List Source}{b:List TR}(l:w.ownsRow g 87 2 (Z a0 (ZT f) c0) (ZT f) (f.flatMap bw))(m:TRow w g (Z a1 (ZT b) c1) b)(ZY:SpG f b)(n:ZT f<=300)(h1:ZT b<=300):HSp g w a0 (ZT f) (ct f) a1 (ZT b) (bj (b.map (·.1)))/\∀i,i<ZT b->1<=(bj (b.map (·.1)) i).l/\(bj (b.map (·.1)) i).l<=200:=by
 refine⟨fo l rfl m rfl n h1 (λr j=>⟨by have:=(ZY.t r j).2.1.2;omega,(ZY.t r j).2.2⟩),λi hi=>?_⟩;have e:bj (b.map (·.1)) i=b[i].1:=by simp[bj,hi]
 rw[e];exact(ZY.t _ (gz hi)).2.1
theorem jN (R p b0 n0 c0 n1 c1:Nat)(a0:Option Addr)(f0:Nat->Source)(a1:Option Addr)(f1:Nat->Target)(w:G)(hR:Rd w R p)(hp:p<=50000)(hb:R<b0)(hH:HSp b0 w a0 n0 f0 a1 n1 f1):Calls Tryz.prog 87 #[.pointer (T (Q R 0 Y)),ZH #[Z a0 n0 c0,Z a1 n1 c1]] w λe ZJ=>∃t:ByteArray,e=.returned (U t)/\∃q:Nat,q<=p+3/\Rd ZJ R q/\Only R w ZJ:=by
 have HR:=ae hR;have hlow:=hR.lt;have hn1:=hH.hn1;have HH:=ae hH;clear hR hH;have r:=ae ((q9 w).alloc ly (N #[Z a0 n0 c0,Z a1 n1 c1] 33));have ZS:Hid ((ZU w (N #[Z a0 n0 c0,Z a1 n1 c1] 33)).heap[A (h w)]?=T (N #[Z a0 n0 c0,Z a1 n1 c1] 33 (0,0))):=nD w _;have L:A (h (ZU w (N #[Z a0 n0 c0,Z a1 n1 c1] 33)))=A (h w)+1:=by simp
 by_cases hn:0<(n1:Int)
 ·go_enter func87,ntmps87;go_wp2_with fail;generalize World.alloc w _=n at r ZS L ⊢;have O:=ae (HR.aa r ly);have P:Hid (Only R w n):=Only.q r;refine(ar R p 8 _ O (by omega) (by omega) (by omega)).mono ?_;rintro e ZP ⟨z,rfl,hz0',hz1',ZN,M⟩;have R1:=ae ZN;have O1:=ae (P.trans M);have K1:=ae ((M.block (A (h w)) (by omega) (by omega)).trans ZS);clear ZN M O P ZS r;have ZL:=K1.out;have ZM:ZV ZP (Q (A (h w)) 1 Y)=T (Z a1 n1 c1):=by simp[World.cell?,ZL]
  have l1:=ag ZL;clear ZL;by_cases hz:0<z
  ·go_wp2_with fail;refine aD (λV=>ZV V (Q (A (h w)) 1 Y)=T (Z a1 n1 c1)) 10 (by as_aux_lemma=>kernel_rfl) ?_;have E:Hid (ZP.drew.cell? (Q (A (h w)) 1 Y)=T (Z a1 n1 c1)):=ZM;iterate 6
    refine aM 0 (v:=?_) rfl rfl (by as_aux_lemma=>kernel_rfl) (λ_ _ _ ZY=>ZY) rfl ?_ E ?_;rotate_left
    ·(intro wz s0;go_simp)
     (try with_reducible rfl)
    (try simp only[Act.put,nzL])
   refine ah (i:=6) rfl (by as_aux_lemma=>kernel_rfl) λK D=>?_;go_simp;go_at_call 13;refine(ar R _ (n1:Int) _ (R1.aa br.drew ly) (by omega) (by omega) (by omega)).mono ?_;rintro e ZQ ⟨z3,rfl,o,S,g,b⟩;obtain⟨l,rfl⟩:=p9 o;have X:Hid (Only R ZP ZQ):=(Only.q br.drew).trans b;have ZO:=ae g;have C:=ae (O1.trans X);have m:l<n1:=by omega
   clear g b E;have E:Hid (ZV ZQ (Q (A (h w)) 1 Y)=T (Z a1 n1 c1)):=(X.cell (A (h w)) 1 l1 (by omega)).trans ZM;rcases(HH.sl ZQ (C.agr hb)).2 with h0|⟨tb,tof,rfl,x⟩
   {omega};have kn:=(x.2 l m).1;have hl:=x.1;clear x ZM;refine D _ _ (λ_=>E) ?_;clear D K
   (try simp only[Act.put,nzL])
   iterate 4
    refine bY 7 rfl rfl (by as_aux_lemma=>kernel_rfl) λK D=>?_;go_simp;refine D _ _ (λ_=>E) ?_;clear D K
    (try simp only[Act.put,nzL])
   refine bk (by as_aux_lemma=>kernel_rfl) ?_ _;go_wp2;go_ret;exact⟨_,rfl,_,by omega,ZO,C⟩
  ·go_wp2_with fail;obtain⟨WL,s⟩:∃W:G,ZU ZP (N #[U ⟨#[97]⟩,U ⟨#[110,111,110,101]⟩,U ⟨#[]⟩,U ⟨#[120,32,121]⟩,U ⟨#[116,48]⟩] 9)=W:=⟨_,rfl⟩
   obtain⟨u,f,-⟩:=nb1 s;replace f:=f.out;have H:=ae s;clear s;have B:=ae (R1.aa u ly);have ZX:=ae (O1.then (u.mono (by omega)));have y:=ag f;have j:=ae f;clear u f;rw[H.out];clear H;refine(ar R _ 5 _ B (by omega) (by omega) (by omega)).mono ?_;rintro e ZQ ⟨z3,rfl,o,S,g,b⟩;obtain⟨l,rfl⟩:=p9 o;have m:l<5:=by omega
   have ZO:=ae g;have C:=ae (ZX.trans b);obtain⟨sx,ZK⟩:=nB ((b.block (A (h ZP)) y (by omega)).trans j) l m;clear g b j B ZX;go_wp2;go_ret;exact⟨sx,rfl,_,by omega,ZO,C⟩
 ·go_enter func87,ntmps87;go_wp2_with fail;generalize World.alloc w _=n at r ZS L ⊢;have O:=ae (HR.aa r ly);have P:Hid (Only R w n):=Only.q r;have l0:=ag ZS.out;have u:=ae ((q9 n).alloc ly (N #[U ⟨#[97]⟩,U ⟨#[110,111,110,101]⟩,U ⟨#[]⟩,U ⟨#[120,32,121]⟩,U ⟨#[116,48]⟩] 9));have B:=ae (O.aa u ly);have ZX:=ae (P.then (u.mono (by omega)));have f:(n.alloc (N #[U ⟨#[97]⟩,U ⟨#[110,111,110,101]⟩,U ⟨#[]⟩,U ⟨#[120,32,121]⟩,U ⟨#[116,48]⟩] 9)).heap[A (h w)+1]?=T (N #[U ⟨#[97]⟩,U ⟨#[110,111,110,101]⟩,U ⟨#[]⟩,U ⟨#[120,32,121]⟩,U ⟨#[116,48]⟩] 9 (0,0)):=(by rw[<-L];exact nD n _)
  have y:=ag f;have j:=ae f;clear u f;generalize World.alloc n _=WL at B ZX j y ⊢;refine(ar R _ 5 _ B (by omega) (by omega) (by omega)).mono ?_;rintro e ZQ ⟨z3,rfl,o,S,g,b⟩;obtain⟨l,rfl⟩:=p9 o;have m:l<5:=by omega
  have ZO:=ae g;have C:=ae (ZX.trans b);obtain⟨sx,ZK⟩:=nB ((b.block (A (h w)+1) y (by omega)).trans j) l m;clear g b j B ZX;go_wp2;go_ret;exact⟨sx,rfl,_,by omega,ZO,C⟩
