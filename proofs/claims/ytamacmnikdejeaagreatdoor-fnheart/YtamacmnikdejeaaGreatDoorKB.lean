import Derived.Test.YtamacmnikdejeaaGreatDoorLY
import Derived.Test.YtamacmnikdejeaaGreatDoorLZ
import Derived.Test.YtamacmnikdejeaaGreatDoorLV
set_option maxRecDepth 100000
set_option maxHeartbeats 8000000
open Go renaming Addr.mk->Q,Value.slice->Y,Value.string->U,Value.int->J,Value.agg->ZG,Obj.cells->N,IntKind.i64->I,World->E,World.heap->B,World.cell?->A
open Option renaming none->Z,some->T
open Bool renaming false->ZA
open Array renaming size->z
namespace Go.Proofs.YtamacmnikdejeaaGreatDoor.Vp
open Tryz RowKit Ca
theorem vU (R p b0 n0 c0 n1 c1:Nat)(a0:Option Addr)(f0:Nat->Source)(a1:Option Addr)(f1:Nat->Target)(w:E)(hR:Rd w R p)(hp:p<=19000)(hH:HSp b0 w a0 n0 f0 a1 n1 f1)(hg:∀i,i<n1->1<=(f1 i).h/\(f1 i).h<=200)(hm0:n0<=250)(hm1:n1<=250):Calls Tryz.prog 36 #[.pointer (T (Q R 0 Z)),ZG #[Y a0 n0 c0,Y a1 n1 c1]] w λe w'=>DH w R (p+1100) e w':=by
 have HR:=ae hR;have Hw:=hR.lt;obtain⟨hs,ht⟩:=hH.sl w (Agr.refl _ _);have HF:=ae hH.az;have HG:=ae hg;have l:=ae hs;have HT:=ae ht;clear hs ht hH hg hR;obtain⟨Ia,hi,Ie,Ib,Im⟩:=KZ iH;obtain⟨At,ZS,Fd,DQ,Hd⟩:=KZ fA;have A0:=ae (((BS w).alloc ly (N #[Y a0 n0 c0,Y a1 n1 c1] 29)).alloc (by simp) (N #[Y Z 0 0,Y Z 0 0] 29));have Hu:((w.alloc (N #[Y a0 n0 c0,Y a1 n1 c1] 29)).alloc (N #[Y Z 0 0,Y Z 0 0] 29)).heap.size=z (B w)+2:=by simp
 have KR:Hid (((w.alloc (N #[Y a0 n0 c0,Y a1 n1 c1] 29)).alloc (N #[Y Z 0 0,Y Z 0 0] 29)).heap[z (B w)+1]?=T (N #[Y Z 0 0,Y Z 0 0] 29 (0,0))):=by have h2:=gM (w.alloc (N #[Y a0 n0 c0,Y a1 n1 c1] 29)) (N #[Y Z 0 0,Y Z 0 0] 29);rw[show(w.alloc (N #[Y a0 n0 c0,Y a1 n1 c1] 29)).heap.size=z (B w)+1 by simp] at h2;exact h2
 go_enter func36,ntmps36;go_wp2_with fail;generalize World.alloc (World.alloc w _) _=W at A0 Hu KR ⊢;refine(fh a0 n0 c0 f0 a1 n1 c1 f1 ⟨#[]⟩ W (by omega) (by omega) (l.aa A0 ly) (HT.aa A0 ly) (λi hi=>by have:=(HF i hi).1;unfold aX;omega)).mono ?_;rintro e ZT ⟨v0,v1,o,rfl,th,Hb,hM,ro⟩;obtain⟨a2,c2,rfl⟩:=aQ th;obtain⟨a5,c5,rfl⟩:=aQ Hb.y;have G1:=ae (Fx hM HF);have N1:=ae (Fy hM HG);have Hk:=yD hM;have Hh:=ip f0 ⟨#[]⟩ n0;clear hM l HT HF HG;generalize keepS f0 ⟨#[]⟩ n0=ZQ at th Hh ⊢;have hsz:=ro.size;have X1:=ae (qM (rr:=z (B w)+1) (base:=z (B w)+2) ((ro.block _ (by omega)).trans KR) (by omega) (by omega) (by omega) th Hb);have B1:=ae ((A0.trans (ro.mono (by omega))).alloc (by omega) (N #[Y a2 ZQ.length c2,Y a5 o.length c5] 29));clear th Hb ro A0 KR;have R1:=ae (HR.low B1 (by omega));have O1:Hid (Only R w (ZT.alloc (N #[Y a2 ZQ.length c2,Y a5 o.length c5] 29))):=Only.q B1;go_wp2_with fail;generalize World.alloc ZT _=W2 at X1 B1 R1 O1 ⊢;refine(ay R p 8 _ R1 (by omega) (by omega) (by omega)).mono ?_;rintro e s ⟨ZR,rfl,hz0',hz1',Hm,Bk⟩;have m:=ae (X1.ac Bk (by omega));have R2:=ae Hm;have O2:=ae (O1.trans Bk);clear Hm Bk X1 R1 O1 B1 Hu HR;obtain⟨ZI,ZK⟩:=m.cells;obtain⟨bt,aq⟩:=m.open
 have la:=m.lt;go_upto_block 0 with fail;go_cut [6,7] (λ_ _ wx=>∃(b0:Option Addr) (m0 k0:Nat) (g0:Nat->Source) (b1:Option Addr) (m1 k1:Nat) (g1:Nat->Target) (q':Nat),q'<=p+1100/\Hid (wx.heap[z (B ZT)]?=T (N #[Y b0 m0 k0,Y b1 m1 k1] 29 (0,0)))/\Hid (wx.heap[z (B w)+1]?=T (N #[Y Z 0 0,Y Z 0 0] 29 (0,0)))/\Hid (HSp (z (B w)+2) wx b0 m0 g0 b1 m1 g1)/\Hid (Rd wx R q')/\Hid (Only R w wx));case first =>
  have H9:ZR=0∨ZR=1∨ZR=2∨ZR=3∨ZR=4∨ZR=5∨ZR=6∨ZR=7:=by omega
  rcases H9 with rfl|rfl|rfl|rfl|rfl|rfl|rfl|rfl
  ·go_wp2_with fail;have Hv:=m.hi;refine aH (BxS (Y a2 ZQ.length c2) (Y a5 o.length c5) (z (B ZT))) 11 (by kernel_rfl) ?_;have l:=ae (iv (W:=s.drew) m.l);iterate 2
    refine aK 0 (v:=?_) rfl rfl (by kernel_rfl) (λ_ _ _ h=>h) rfl ?_ l ?_;rotate_left
    ·(rintro wz ⟨s0,s1⟩;go_simp)
     (try with_reducible rfl)
    (try simp only[Act.put,nzL])
   refine aK 3 (v:=?_) rfl rfl (by kernel_rfl) (λ_ _ _ h=>h) rfl ?_ l ?_;rotate_left
   ·(rintro wz ⟨s0,s1⟩;go_simp)
    (try with_reducible rfl)
   (try simp only[Act.put,nzL])
   refine od (i:=2) (j:=4) rfl rfl (by kernel_rfl) (λK b=>?h1) (λK b=>?h2);case' h1 =>
    go_simp;have BQ:=ae (((BS s).alloc ly (N #[U ⟨#[97]⟩,U ⟨#[122,122]⟩,U ⟨#[]⟩,U ⟨#[120,32,121]⟩,U ⟨#[116,48]⟩] 9)).drew);have XQ:=ae (m.aa BQ ly);have RQ:=ae (R2.aa BQ ly);have OQ:=ae (O2.then (BQ.mono (by omega)));have Hc:=gM s (N #[U ⟨#[97]⟩,U ⟨#[122,122]⟩,U ⟨#[]⟩,U ⟨#[120,32,121]⟩,U ⟨#[116,48]⟩] 9);have Hl:Hid ((s.alloc (N #[U ⟨#[97]⟩,U ⟨#[122,122]⟩,U ⟨#[]⟩,U ⟨#[120,32,121]⟩,U ⟨#[116,48]⟩] 9)).drew.heap[z (B s)]?=T (N #[U ⟨#[97]⟩,U ⟨#[122,122]⟩,U ⟨#[]⟩,U ⟨#[120,32,121]⟩,U ⟨#[116,48]⟩] 9 (0,0))):=Hc;have Ii:z (B s)<(s.alloc (N #[U ⟨#[97]⟩,U ⟨#[122,122]⟩,U ⟨#[]⟩,U ⟨#[120,32,121]⟩,U ⟨#[116,48]⟩] 9)).drew.heap.size:=ar Hc;clear Hc l;refine b _ _ (λ_=>iv XQ.l) ?_;clear b K
    (try simp only[Act.put,nzL])
    refine aj (i:=4) rfl (by kernel_rfl) λK b=>?_;go_simp;go_at_call 33;refine(ay R _ 5 _ RQ (by omega) (by omega) (by omega)).mono ?_;rintro e WL ⟨z3,rfl,ex,sm,O,H⟩;obtain⟨m3,rfl⟩:=AD ex;have X4:=ae (XQ.ac H (by omega));have R4:=ae O;have O4:=ae (OQ.trans H);obtain⟨sx,G8⟩:=ny ((H.block (z (B s)) Ii (by omega)).trans Hl) m3 (by omega);clear O H Hl XQ RQ OQ;refine b _ _ (λ_=>iv X4.l) ?_;clear b K
    (try simp only[Act.put,nzL])
   case' h2 =>
    go_simp;go_at_call 33;refine(ay R _ 5 _ (R2.aa br.drew ly) (by omega) (by omega) (by omega)).mono ?_;rintro e G ⟨z3,rfl,ex,sm,O,H⟩;obtain⟨m3,rfl⟩:=AD ex;have X:Hid (Only R s G):=(Only.q br.drew).trans H;have D:=ae (m.ac X (by omega));have R3:=ae O;have O3:=ae (O2.trans X);clear O H X l;have l:=ae (iv D.l);refine b _ _ (λ_=>l) ?_;clear b K
    (try simp only[Act.put,nzL])
    have hxl4:=D.lt;refine aj (i:=2) rfl (by kernel_rfl) λK b=>?_;go_simp;have BQ:=ae ((BS G).alloc ly (N #[U ⟨#[97]⟩,U ⟨#[122,122]⟩,U ⟨#[]⟩,U ⟨#[120,32,121]⟩,U ⟨#[116,48]⟩] 9));have X4:=ae (D.aa BQ ly);have R4:=ae (R3.aa BQ ly);have O4:=ae (O3.then (BQ.mono (by omega)));obtain⟨sx,G8⟩:=ny (gM G (N #[U ⟨#[97]⟩,U ⟨#[122,122]⟩,U ⟨#[]⟩,U ⟨#[120,32,121]⟩,U ⟨#[116,48]⟩] 9)) m3 (by omega);refine b _ _ (λ_=>iv X4.l) ?_;clear b K BQ l
    (try simp only[Act.put,nzL])
    generalize World.alloc G _=WL at X4 R4 O4 G8 ⊢
   all_goals
    have hm5:m3<5:=by omega
    have SQ:=ae X4.keepS;have l:=ae (SQ WL (λj ZS _=>rfl))
    iterate 3
     refine bU 5 rfl rfl (by kernel_rfl) λK b=>?_;go_simp;refine b _ _ (λ_=>l) ?_;clear b K
     (try simp only[Act.put,nzL])
    have ur:=X4.lt;have hxi3:=X4.hi;refine aj (i:=8) rfl (by kernel_rfl) λK b=>?_;go_simp;have AB:=ae ((BS WL).alloc ly (N #[U sx,U ⟨#[]⟩] 121));have ZJ:=ae (X4.aa AB ly);have hz6:=AB.size;refine b _ _ (λ_=>SQ _ (λj ZS _=>AB.block j ZS)) ?_;clear b K l
    (try simp only[Act.put,nzL])
    refine aj (i:=9) rfl (by kernel_rfl) λK b=>?_;refine aW rfl (.tmp 28) (.tmp 35) 26 rfl (z (B w)+2) 121 Ia (ZG #[U ⟨#[]⟩,U ⟨#[]⟩]) 2 32 MW hi Ie Ib Im rfl (by decide) (Y a2 ZQ.length c2) ZQ.length (ZQ.flatMap bC) (by simp[Act.eval]) ZJ.src (Q (z (B WL)) 0 Z) 1 1 (bC ⟨sx,⟨#[]⟩⟩) (by simp[Act.eval]) rfl (λj u hu=>cT WL _ _ _ j u hu) (by simp[bC,Value.oneCell']) (by unfold maxLen;omega) (by omega) (by omega) ?_;intro v' w7 C y _;obtain⟨a7,c7,rfl⟩:=aQ C;have S7:=ae (SQ w7 (λj ZS ld=>(y.block j (lj ZS AB.size) ld).trans (AB.block j ZS)));obtain⟨c8,b8⟩:=ZJ.addS (x:=⟨sx,⟨#[]⟩⟩) C y;have X9:=ae c8;have B9:=ae b8;clear C y c8 b8;refine b _ _ (λ_=>S7) ?_;clear b K
    (try simp only[Act.put,nzL])
    refine aj (i:=10) rfl (by kernel_rfl) λK b=>?_;go_simp;refine b _ _ (λ_=>S7) ?_;clear b K
    (try simp only[Act.put,nzL])
    obtain⟨s7,t7⟩:=S7.out;have f7:w7.frozen? (Q (z (B ZT)) 0 Z)=ZA:=by simp[World.frozen?,s7]
    have l7:=ar s7;clear s7;refine aj (i:=11) rfl (by kernel_rfl) λK b=>?_;go_simp;refine b _ _ (λh=>absurd rfl h) ?_;clear b K
    (try simp only[Act.put,nzL])
    refine be (by kernel_rfl) ?_ _;have BB:=ae ((AB.mono (show (z (B w))+2<=z (B WL) by omega)).trans B9.out);have R9:=ae (R4.low BB (by omega));have O9:=ae (O4.then (BB.mono (by omega)));clear t7 f7 l7 G8;go_simp;generalize World.setCell w7 _ _=W9 at X9 R9 O9 ⊢;have ZO:=ae X9.l;have ZP:=ae X9.res;have M:=ae (fi X9.src (by simp) X9.w rfl (by rw[eL];exact(by omega:ZQ.length+1<=300)) (by omega) G1);clear ZI ZK bt aq;go_wp2;go_meet;exact⟨_,_,_,_,_,_,_,_,_,by omega,ZO,ZP,M,R9,O9⟩
  ·by_cases hl:1<(o.length:Int)
   ·obtain⟨t,rfl⟩:=jF m.w.y (by omega)
    obtain⟨r0,r1,RR,rfl⟩:∃r0 r1 RR,o=r0::r1::RR:=(by
     match o,hl with
     |[],h=>simp at h
     |[_],h=>simp at h
     |r0::r1::RR,_=>exact⟨r0,r1,RR,rfl⟩)
    have mv:(r0::r1::RR).length<=250:=by omega
    obtain⟨ka,Hn⟩:=bk m.w.y (j:=0) (u:=U r0.1.e) rfl;obtain⟨kb,Hr⟩:=bk m.w.y (j:=1) (u:=Y (T (Q r0.2.1 0 Z)) r0.1.h r0.2.2) rfl;obtain⟨kc,Fm⟩:=bk m.w.y (j:=2) (u:=U r1.1.e) rfl;obtain⟨kd,Ha⟩:=bk m.w.y (j:=3) (u:=Y (T (Q r1.2.1 0 Z)) r1.1.h r1.2.2) rfl;have n9:=(m.w.y.lt t rfl).2;generalize ZM:(r0::r1::RR).length=nt at ZK m hl mv Hk ⊢;have HL:=ae ZM;clear ZM;have Hf:0<nt:=by omega
    have Io:1<nt:=by omega
    have BA:=ae ((BS s).alloc ly (N #[U r0.1.e,Y (T (Q r0.2.1 0 Z)) r0.1.h r0.2.2] 125));have ZJ:=ae (m.aa BA ly);have RA:=ae (R2.aa BA ly);have Hv:=m.hi;have OA:=ae (O2.then (BA.mono (by omega)));have cc:∀j,(s.alloc (N #[U r0.1.e,Y (T (Q r0.2.1 0 Z)) r0.1.h r0.2.2] 125)).cell? (Q t j Z)=A s (Q t j Z):=λj=>BA.cell (p:=(Q t j Z)) n9;have cf:∀j,(s.alloc (N #[U r0.1.e,Y (T (Q r0.2.1 0 Z)) r0.1.h r0.2.2] 125)).frozen? (Q t j Z)=s.frozen? (Q t j Z):=λj=>BA.frozen (p:=(Q t j Z)) n9;have KA:=ae ((cc 0).trans ka);have GS:=ae ((cf 0).trans Hn);have KB:=ae ((cc 1).trans kb);have He:=ae ((cf 1).trans Hr);have KC:=ae ((cc 2).trans kc);have Hq:=ae ((cf 2).trans Fm);have KD:=ae ((cc 3).trans kd);have Hj:=ae ((cf 3).trans Ha);have KX:Hid ((s.alloc (N #[U r0.1.e,Y (T (Q r0.2.1 0 Z)) r0.1.h r0.2.2] 125)).heap[z (B s)]?=T (N #[U r0.1.e,Y (T (Q r0.2.1 0 Z)) r0.1.h r0.2.2] 125 (0,0))):=gM s _;have Hg:t≠z (B s):=by omega
    have Hz:=BA.size;clear cc cf;go_wp2_with fail;generalize World.alloc s _=WA at ZJ RA OA KA GS KB He KC Hq KD Hj KX Hz ⊢;have DE:=ZJ.cells.2;clear ka Hn kb Hr kc Fm kd Ha BA ZI ZK bt aq;refine aH (λV=>A V (Q (z (B ZT)) 1 Z)=T (Y (T (Q t 0 Z)) nt c5)/\A V (Q t 2 Z)=T (U r1.1.e)/\A V (Q t 3 Z)=T (Y (T (Q r1.2.1 0 Z)) r1.1.h r1.2.2)) 7 (by kernel_rfl) ?_;have l:Hid (WA.drew.cell? (Q (z (B ZT)) 1 Z)=T (Y (T (Q t 0 Z)) nt c5)/\WA.drew.cell? (Q t 2 Z)=T (U r1.1.e)/\WA.drew.cell? (Q t 3 Z)=T (Y (T (Q r1.2.1 0 Z)) r1.1.h r1.2.2)):=⟨DE,KC,KD⟩
    iterate 6
     refine aK 0 (v:=?_) rfl rfl (by kernel_rfl) (λ_ _ _ h=>h) rfl ?_ l ?_;rotate_left
     ·(rintro wz ⟨s0,s1,s2⟩;go_simp)
      (try with_reducible rfl)
     (try simp only[Act.put,nzL])
    refine aj (i:=6) rfl (by kernel_rfl) λK b=>?_;go_simp;refine b _ _ (λ_=>l) ?_;clear b K
    (try simp only[Act.put,nzL])
    have z0:=GS.out;have z1:=He.out;have y0:=KA.out;have y1:=KB.out;have hgtA:t<z (B WA):=by omega
    refine aj (i:=7) rfl (by kernel_rfl) λK b=>?_;go_simp;refine b _ _ (λh=>absurd rfl h) ?_;clear b K
    (try simp only[Act.put,nzL])
    refine be (by kernel_rfl) ?_ _;go_simp;have SW:=ae (((ZJ.sw HL.symm).set 0 (U r1.1.e)).set 1 (Y (T (Q r1.2.1 0 Z)) r1.1.h r1.2.2)).drew;have n8:=(ZJ.w.y.lt t rfl).1;have BW:=ae ((((cM (z (B w)+2) WA).setCell (p:=(Q t 0 Z)) n8 (U r1.1.e)).setCell (p:=(Q t 1 Z)) n8 (Y (T (Q r1.2.1 0 Z)) r1.1.h r1.2.2)).drew);have kx:((WA.setCell (Q t 0 Z) (U r1.1.e)).setCell (Q t 1 Z) (Y (T (Q r1.2.1 0 Z)) r1.1.h r1.2.2)).drew.heap[z (B s)]?=T (N #[U r0.1.e,Y (T (Q r0.2.1 0 Z)) r0.1.h r0.2.2] 125 (0,0)):=((qh _ (Q t 1 Z) _ (z (B s)) (λe=>Hg (Eq.symm e))).trans (qh _ (Q t 0 Z) _ (z (B s)) (λe=>Hg (Eq.symm e)))).trans KX;clear l z0 z1 y0 y1 KA GS KB He KC Hq KD Hj KX DE;generalize World.drew (World.setCell (World.setCell WA _ _) _ _)=WB at SW BW kx ⊢;obtain⟨kc,Fm⟩:=bk SW.y (j:=2) (u:=U r1.1.e) rfl;obtain⟨kd,Ha⟩:=bk SW.y (j:=3) (u:=Y (T (Q r1.2.1 0 Z)) r1.1.h r1.2.2) rfl;have n6:=SW.l;have kv:A WB (Q (z (B ZT)) 1 Z)=T (Y (T (Q t 0 Z)) nt c5):=by simp[World.cell?,n6]
    have P:A WB (Q (z (B s)) 0 Z)=T (U r0.1.e):=by simp[World.cell?,kx]
    have x1:A WB (Q (z (B s)) 1 Z)=T (Y (T (Q r0.2.1 0 Z)) r0.1.h r0.2.2):=by simp[World.cell?,kx]
    have hgtB:t<z (B WB):=(SW.y.lt t rfl).2;have kv0:A WB (Q (z (B ZT)) 0 Z)=T (Y a2 ZQ.length c2):=by simp[World.cell?,n6]
    have l1:=ar n6;have Ij:¬ t=z (B ZT):=by intro e;obtain⟨Ic,DS⟩:=dY SW.y t rfl;rw[e] at DS;have h3:=n6.symm.trans DS;cases h3
    have hg1':¬ (z (B ZT))=t:=λe=>Ij e.symm;have qr:=ae ((SW.set 2 (U r0.1.e)).set 3 (Y (T (Q r0.2.1 0 Z)) r0.1.h r0.2.2))
    have M:=ae (qr.fin rfl (L:=r1::r0::RR) (by rw[<-oQ];rfl) HL.symm (by omega) (by have:=HL.out;simp only[xT] at this ⊢;omega) (by
     intro r hr;simp only[A9] at hr ⊢;rcases hr with h|h|h;{exact .inr (.inl h)};{exact .inl h}
     ·exact .inr (.inr h)) G1)
    have BF:=ae ((BW.setCell (p:=(Q t 2 Z)) n8 (U r0.1.e)).setCell (p:=(Q t 3 Z)) n8 (Y (T (Q r0.2.1 0 Z)) r0.1.h r0.2.2));have R9:=ae (RA.low BF (by omega));have O9:=ae (OA.then (BF.mono (show (z (B w))<=z (B w)+2 by omega)));have ZO:=ae qr.l;have ZP:=ae qr.res;clear n6 kx SW qr BF BW ZJ RA OA;go_wp2;go_meet;exact⟨_,_,_,_,_,_,_,_,_,by omega,ZO,ZP,M,R9,O9⟩
   {skip;have ZO:=ae m.l;have ZP:=ae m.res;have M:=ae (fi m.src rfl m.w rfl (by omega) (by omega) G1);go_wp2;go_meet;exact⟨_,_,_,_,_,_,_,_,_,by omega,ZO,ZP,M,R2,O2⟩}
  ·by_cases hl:0<(o.length:Int)
   ·go_wp2_with fail;obtain⟨t,rfl⟩:=jF m.w.y (by omega)
    obtain⟨r0,RR,rfl⟩:∃r0 RR,o=r0::RR:=(by
     match o,hl with
     |[],h=>simp at h
     |r0::RR,_=>exact⟨r0,RR,rfl⟩)
    have mv:(r0::RR).length<=250:=by omega
    have kb:=(bk m.w.y (j:=1) (u:=Y (T (Q r0.2.1 0 Z)) r0.1.h r0.2.2) rfl).1;have n9:=(m.w.y.lt t rfl).2;have n8:=(m.w.y.lt t rfl).1;have AC:=ae (m.w.u r0 (NH ..));have Ih:=N1.out r0 (NH ..);have Ik:=ae (G1 r0 (NH ..)).2;generalize ZM:(r0::RR).length=nt at ZK m hl mv Hk ⊢;have HL:=ae ZM;clear ZM;have Hf:0<nt:=by omega
    have hRb:R<z (B w)+2:=by omega
    refine aH (λV=>V.heap[z (B ZT)]?=T (N #[Y a2 ZQ.length c2,Y (T (Q t 0 Z)) nt c5] 29 (0,0))/\A V (Q (z (B ZT)) 1 Z)=T (Y (T (Q t 0 Z)) nt c5)/\A V (Q t 1 Z)=T (Y (T (Q r0.2.1 0 Z)) r0.1.h r0.2.2)) 11 (by kernel_rfl) ?_;have l:Hid (s.drew.heap[z (B ZT)]?=T (N #[Y a2 ZQ.length c2,Y (T (Q t 0 Z)) nt c5] 29 (0,0))/\s.drew.cell? (Q (z (B ZT)) 1 Z)=T (Y (T (Q t 0 Z)) nt c5)/\s.drew.cell? (Q t 1 Z)=T (Y (T (Q r0.2.1 0 Z)) r0.1.h r0.2.2)):=⟨m.l,ZK,kb⟩
    iterate 8
     refine aK 0 (v:=?_) rfl rfl (by kernel_rfl) (λ_ _ _ h=>h) rfl ?_ l ?_;rotate_left
     ·(rintro wz ⟨s0,s1,s2⟩;go_simp)
      (try with_reducible rfl)
     (try simp only[Act.put,nzL])
    refine aj (i:=8) rfl (by kernel_rfl) λK b=>?_;go_simp;go_at_call 78;refine(vS R _ r0.2.1 r0.2.2 r0.1.h r0.1.u _ (R2.aa br.drew ly) (by omega) (AC.1.aa br.drew ly) Ih Ik).mono ?_;rintro e G ⟨L3,g3,d3,rfl,ph,_,hL3,Id,q3,hq3,O,H⟩;have X:Hid (Only R s G):=(Only.q br.drew).trans H;have D:=ae (m.ac X (by omega));have R3:=ae O;have O3:=ae (O2.trans X);have Hp:A G (Q t 1 Z)=T (Y (T (Q r0.2.1 0 Z)) r0.1.h r0.2.2):=(X.cell t 1 n9 (by omega)).trans kb;have z3:G.frozen? (Q t 1 Z)=ZA:=by obtain⟨Ic,hc⟩:=D.w.type t rfl;simp[World.frozen?,hc]
    have hgt3:=lj n9 X.size;have SA:=ae (D.setA (n:=L3.length) (g:=g3) (c:=d3) (f:=cZ L3) rfl HL.symm (j8 (by have h:=ph;unfold IR at h;rw[pT] at h;exact h)).1 (jf ph) (by have:z (B s)<=g3:=ph.lt.1;have:=m.lt;have:=m.hi;omega) (by omega) (jq Id) (by omega) (by rw[HL.out];omega) G1);clear ph O H X l;have l:=ae (show G.heap[z (B ZT)]?=T (N #[Y a2 ZQ.length c2,Y (T (Q t 0 Z)) nt c5] 29 (0,0))/\A G (Q (z (B ZT)) 1 Z)=T (Y (T (Q t 0 Z)) nt c5)/\A G (Q t 1 Z)=T (Y (T (Q r0.2.1 0 Z)) r0.1.h r0.2.2) from⟨D.l,D.cells.2,Hp⟩);refine b _ _ (λ_=>l) ?_;clear b K
    (try simp only[Act.put,nzL])
    iterate 2
     refine bU 9 rfl rfl (by kernel_rfl) λK b=>?_;go_simp;refine b _ _ (λ_=>l) ?_;clear b K
     (try simp only[Act.put,nzL])
    refine aj (i:=11) rfl (by kernel_rfl) λK b=>?_;go_simp;refine b _ _ (λh=>absurd rfl h) ?_;clear b K
    (try simp only[Act.put,nzL])
    refine be (by kernel_rfl) ?_ _;obtain⟨hE,hB,hQ,fd⟩:=SA.out;have M:=ae hE;have ZO:=ae hB;have ZP:=ae hQ;have R4:=ae (R3.low fd (by omega));have O4:=ae (O3.then (fd.mono (show (z (B w))<=z (B w)+2 by omega)));clear hE hB hQ fd SA l kb Hp z3 hl ZI ZK bt aq;go_simp;generalize World.setCell G _ _=W4 at M ZO ZP R4 O4 ⊢;go_wp2;go_meet;exact⟨_,_,_,_,_,_,_,_,_,by omega,ZO,ZP,M,R4,O4⟩
   {skip;have ZO:=ae m.l;have ZP:=ae m.res;have M:=ae (fi m.src rfl m.w rfl (by omega) (by omega) G1);go_wp2;go_meet;exact⟨_,_,_,_,_,_,_,_,_,by omega,ZO,ZP,M,R2,O2⟩}
  ·by_cases hl:0<(ZQ.length:Int)
   ·go_wp2_with fail;obtain⟨gs,rfl⟩:=jF m.src (by omega)
    obtain⟨P,LR,rfl⟩:∃P LR,ZQ=P::LR:=(by
     match ZQ,hl with
     |[],h=>simp at h
     |P::LR,_=>exact⟨P,LR,rfl⟩)
    have mv:(P::LR).length<=250:=by omega
    generalize ZM:(P::LR).length=nl at ZI m hl mv Hh ⊢;have HL:=ae ZM;clear ZM;have Hf:0<nl:=by omega
    refine aH (BxS (Y (T (Q gs 0 Z)) nl c2) (Y a5 o.length c5) (z (B ZT))) 8 (by kernel_rfl) ?_;have l:=ae (iv (W:=s.drew) m.l);iterate 3
     refine aK 0 (v:=?_) rfl rfl (by kernel_rfl) (λ_ _ _ h=>h) rfl ?_ l ?_;rotate_left
     ·(rintro wz ⟨s0,s1⟩;go_simp)
      (try with_reducible rfl)
     (try simp only[Act.put,nzL])
    refine aj (i:=3) rfl (by kernel_rfl) λK b=>?_;go_simp;go_at_call 33;refine(ay R _ 2 _ (R2.aa br.drew ly) (by omega) (by omega) (by omega)).mono ?_;rintro e G ⟨z3,rfl,ex,sm,O,H⟩;obtain⟨m3,rfl⟩:=AD ex;have X:Hid (Only R s G):=(Only.q br.drew).trans H;have D:=ae (m.ac X (by omega));have R3:=ae O;have O3:=ae (O2.trans X);clear O H X l;have l:=ae (iv D.l);refine b _ _ (λ_=>l) ?_;clear b K
    (try simp only[Act.put,nzL])
    have Hx:IntKind.i64.wrap (2000+(m3:Int))=2000+(m3:Int):=by rw[p9];omega
    refine aj (i:=4) rfl (by kernel_rfl) λK b=>?_;go_simp;refine b _ _ (λ_=>l) ?_;clear b K
    (try simp only[Act.put,nzL])
    refine aj (i:=5) rfl (by kernel_rfl) λK b=>?_;go_simp;go_at_call 63;refine(eW ⟨#[115]⟩ (2000+m3) _ (by show 1*(2000+m3)<=4000;omega) (by omega)).mono ?_;rintro e w4 ⟨tt,rfl,_,rfl⟩;refine b _ _ (λ_=>l) ?_;clear b K
    (try simp only[Act.put,nzL])
    have XL:Hid (SpX (z (B w)+1) (z (B ZT)) (z (B w)+2) w4 (Y (T (Q gs 0 Z)) (P::LR).length c2) (Y a5 o.length c5) (P::LR) o):=by rw[HL.out];exact D
    have Ig:=(XL.src.lt gs rfl).2;obtain⟨ky,kz⟩:=bk XL.src (j:=1) (u:=U P.H) rfl;obtain⟨x3,b3⟩:=XL.setS (j:=1) (LS':=⟨P.e,tt⟩::LR) (U tt) rfl rfl;clear XL;rw[HL.out] at x3;have X4:=ae x3;have B4:=ae b3;clear x3 b3;iterate 2
     refine bU 6 rfl rfl (by kernel_rfl) λK b=>?_;go_simp;refine b _ _ (λ_=>l) ?_;clear b K
     (try simp only[Act.put,nzL])
    refine aj (i:=8) rfl (by kernel_rfl) λK b=>?_;go_simp;refine b _ _ (λh=>absurd rfl h) ?_;clear b K
    (try simp only[Act.put,nzL])
    refine be (by kernel_rfl) ?_ _;have R4:=ae (R3.low B4 (by omega));have O4:=ae (O3.then (B4.mono (show (z (B w))<=z (B w)+2 by omega)));clear l ky kz hl;go_simp;generalize World.setCell w4 _ _=W4 at X4 R4 O4 ⊢;have ZO:=ae X4.l;have ZP:=ae X4.res;have M:=ae (fi X4.src HL.symm X4.w rfl (by have:=HL.out;simp only[xT] at this ⊢;omega) (by omega) G1);clear ZI ZK bt aq;go_wp2;go_meet;exact⟨_,_,_,_,_,_,_,_,_,by omega,ZO,ZP,M,R4,O4⟩
   {skip;have ZO:=ae m.l;have ZP:=ae m.res;have M:=ae (fi m.src rfl m.w rfl (by omega) (by omega) G1);go_wp2;go_meet;exact⟨_,_,_,_,_,_,_,_,_,by omega,ZO,ZP,M,R2,O2⟩}
  ·go_wp2_with fail;go_loopw [7] (λi wr=>∃(k q:Nat) (v1:Value) (RQ:List TR),i=J I k/\k<=RQ.length/\q<=p+1+k/\RQ.length<=300/\Hid (SpX (z (B w)+1) (z (B ZT)) (z (B w)+2) wr (Y a2 ZQ.length c2) v1 ZQ RQ)/\Hid (GX RQ)/\Hid (Rd wr R q)/\Hid (Only R w wr)) (λi _=>400 - (intOf i).toNat);case atStart=>exact⟨0,p+1,_,o,rfl,by omega,by omega,by omega,m,G1,R2,O2⟩
   case round =>
    clear m R2 O2 ZI ZK bt aq G1 N1 la;obtain⟨k,q4,v1,o,rfl,hk,hq4,hk3,m,G1,R2,O2⟩:=hrel;obtain⟨s,rfl⟩:∃s,s=wr:=⟨wr,rfl⟩
    obtain⟨a5,c5,rfl⟩:=aQ m.w.y;have la:=m.lt;have hw1:IntKind.i64.wrap ((ZQ.length:Int)+o.length)=(ZQ.length:Int)+o.length:=by rw[p9];omega
    have hwk:IntKind.i64.wrap ((k:Int)+1)=(k:Int)+1:=by rw[p9];omega
    go_wp2_with fail;have SB:Hid (∀V:E,V.heap[z (B ZT)]?=T (N #[Y a2 ZQ.length c2,Y a5 o.length c5] 29 (0,0))->V.heap[z (B ZT)]?=T (N #[Y a2 ZQ.length c2,Y a5 o.length c5] 29 (0,0))/\A V (Q (z (B ZT)) 0 Z)=T (Y a2 ZQ.length c2)/\A V (Q (z (B ZT)) 1 Z)=T (Y a5 o.length c5)):=λV h=>⟨h,by simp[World.cell?,h],by simp[World.cell?,h]⟩
    refine wp_region_held_drew (S:=λV=>V.heap[z (B ZT)]?=T (N #[Y a2 ZQ.length c2,Y a5 o.length c5] 29 (0,0))/\A V (Q (z (B ZT)) 0 Z)=T (Y a2 ZQ.length c2)/\A V (Q (z (B ZT)) 1 Z)=T (Y a5 o.length c5)) (by kernel_rfl) (SB s m.l) λhS=>?_;have l:=ae hS;clear hS;iterate 8
     refine ba 0 (v:=?_) rfl rfl (by kernel_rfl) (λ_ _ _ h=>h) rfl ?_ l ?_;rotate_left
     ·(rintro wz ⟨s0,s1,s2⟩;go_simp)
      (try with_reducible rfl)
     (try simp only[Act.put,nzL])
    refine aN (i:=8) rfl (by kernel_rfl) λK b=>?_;go_simp;go_at_call 33;refine(ay R _ 2 _ (R2.aa br.drew ly) (by omega) (by omega) (by omega)).mono ?_;rintro e G ⟨z3,rfl,ex,sm,O,H⟩;obtain⟨m3,rfl⟩:=AD ex;have X:Hid (Only R s G):=(Only.q br.drew).trans H;have D:=ae (m.ac X (by omega));have R3:=ae O;have O3:=ae (O2.trans X);clear O H X l;have l:=ae (SB G D.l);refine b _ _ l ?_;clear b K
    (try simp only[Act.put,nzL])
    have Hx:IntKind.i64.wrap (200+(m3:Int))=200+(m3:Int):=by rw[p9];omega
    iterate 2
     refine qe 9 rfl rfl (by kernel_rfl) λK b=>?_;go_simp;refine b _ _ l ?_;clear b K
     (try simp only[Act.put,nzL])
    refine wpAnyH_done (by kernel_rfl) ?_ _;clear l SB;by_cases hlt:(ZQ.length:Int)+o.length<200+(m3:Int)
    ·go_wp2_with fail;have ur:=D.lt;have SQ:=ae D.keepT;refine aH (BxT (Y a2 ZQ.length c2) (Y a5 o.length c5) (z (B ZT))) 13 (by kernel_rfl) ?_;have l:=ae (SQ G.drew (λj ZS _=>rfl));iterate 3
      refine aK 0 (v:=?_) rfl rfl (by kernel_rfl) (λ_ _ _ h=>h) rfl ?_ l ?_;rotate_left
      ·(rintro wz ⟨s0,s1⟩;go_simp)
       (try with_reducible rfl)
      (try simp only[Act.put,nzL])
     refine aj (i:=3) rfl (by kernel_rfl) λK b=>?_;go_simp;go_at_call 83;refine(jQ k (by omega) _).mono ?_;rintro e wl ⟨lb,rfl,hlb,fd⟩;have BL:Hid (Below (z (B G)) G wl):=(BS G).drew.trans fd;clear fd l;have l:=ae (SQ wl (λj ZS _=>BL.block j ZS));refine b _ _ (λ_=>l) ?_;clear b K
     (try simp only[Act.put,nzL])
     refine fu (i:=4) (v:=U (⟨#[117]⟩++lb)) rfl (by kernel_rfl) (by kernel_rfl) (by kernel_rfl) (by kernel_rfl) (λ_ _ _ h=>h) rfl ?_ l ?_;{intro wz _;go_simp;omega}
     (try simp only[Act.put,nzL])
     generalize (⟨#[117]⟩:ByteArray)++lb=tn;refine aj (i:=5) rfl (by kernel_rfl) λK b=>?_;go_simp;go_at_call 84;refine(bw _ _).mono ?_;rintro e wm ⟨rfl,Ht⟩;have BM:=ae (BL.trans (Ht.mono BL.size));clear Ht l;have l:=ae (SQ wm (λj ZS _=>BM.block j ZS));refine b _ _ (λ_=>l) ?_;clear b K
     (try simp only[Act.put,nzL])
     refine aj (i:=6) rfl (by kernel_rfl) λK b=>?_;go_simp;go_at_call 85;refine(bm _ _).mono ?_;rintro e ZL ⟨rfl,n7⟩;have BN:=ae (BM.trans (n7.mono BM.size));clear n7 l BL BM;have H7:=BN.size;have BI:=ae (BN.alloc (by omega) (N #[J I 1,U ⟨#[107]⟩,J I 0,J I 15,U ⟨#[]⟩,J I 0] 146));have Il:=D.hi;have OI:=ae (wV ZL (base:=z (B w)+2) (by omega));have l:=ae (SQ ZL (λj ZS _=>BN.block j ZS));refine b _ _ (λ_=>l) ?_;clear b K l
     (try simp only[Act.put,nzL])
     have l:=ae (SQ _ (λj ZS _=>BI.block j ZS));iterate 3
      refine bU 7 rfl rfl (by kernel_rfl) λK b=>?_;go_simp;refine b _ _ (λ_=>l) ?_;clear b K
      (try simp only[Act.put,nzL])
     have Fk:(ZL.alloc (N #[J I 1,U ⟨#[107]⟩,J I 0,J I 15,U ⟨#[]⟩,J I 0] 146)).heap.size=z (B ZL)+1:=by simp
     have AB:=ae (BI.alloc (by omega) (N #[U tn,Y (T (Q (z (B ZL)) 0 Z)) 2 2] 125));refine aj (i:=10) rfl (by kernel_rfl) λK b=>?_;go_simp;have ZJ:=ae (D.aa AB ly);have OA:=ae (own_below OI (br.alloc ly (N #[U tn,Y (T (Q (z (B ZL)) 0 Z)) 2 2] 125)) ly);refine b _ _ (λ_=>SQ _ (λj ZS _=>AB.block j ZS)) ?_;clear b K
     (try simp only[Act.put,nzL])
     refine aj (i:=11) rfl (by kernel_rfl) λK b=>?_;refine aW rfl (.tmp 106) (.tmp 115) 27 rfl (z (B w)+2) 125 At (ZG #[U ⟨#[]⟩,Y Z 0 0]) 2 40 LU ZS Fd DQ Hd rfl (by decide) (Y a5 o.length c5) o.length (o.flatMap aZ) (by simp[Act.eval]) ZJ.w.y (Q (z (B ZL)+1) 0 Z) 1 1 (aZ (⟨tn,2,lsI jW⟩,z (B ZL),2)) (by simp[Act.eval]) rfl (λj u hu=>oP (Fk) _ _ _ j u hu) (by simp[aZ,Value.oneCell']) (by unfold maxLen;omega) (by omega) (by have:=ZJ.hi;have:=ZJ.lt;omega) ?_;intro v' w7 C y _;obtain⟨a7,c7,rfl⟩:=aQ C;have S7:=ae (SQ w7 (λj ZS ld=>(y.block j (lj ZS AB.size) ld).trans (AB.block j ZS)));obtain⟨c8,b8⟩:=ZJ.addT (x:=⟨tn,2,lsI jW⟩) (g:=z (B ZL)) (c:=2) (λr hr e=>by have:=D.w.ltg r hr;omega) OA C y;have X9:=ae c8;have B9:=ae b8;clear C y c8 b8;refine b _ _ (λ_=>S7) ?_;clear b K
     (try simp only[Act.put,nzL])
     refine aj (i:=12) rfl (by kernel_rfl) λK b=>?_;go_simp;refine b _ _ (λ_=>S7) ?_;clear b K
     (try simp only[Act.put,nzL])
     obtain⟨s7,t7⟩:=S7.out;have f7:w7.frozen? (Q (z (B ZT)) 1 Z)=ZA:=by simp[World.frozen?,s7]
     have l7:=ar s7;clear s7;refine aj (i:=13) rfl (by kernel_rfl) λK b=>?_;go_simp;refine b _ _ (λh=>absurd rfl h) ?_;clear b K
     (try simp only[Act.put,nzL])
     refine be (by kernel_rfl) ?_ _;go_wp2;have BB:=ae ((AB.mono (show (z (B w))+2<=z (B G) by omega)).trans B9.out);refine⟨⟨k+1,_,Y a7 (o.length+1) c7,o++[((⟨tn,2,lsI jW⟩,z (B ZL),2):TR)],by go_num,by rw[eL];exact Nat.succ_le_succ hk,by omega,by rw[eL];exact(by omega:o.length+1<=300),X9,G1.add (r:=(⟨tn,2,lsI jW⟩,z (B ZL),2)) (by show 2<=300;omega) uD,R3.low BB (by omega),O3.then (BB.mono (by omega))⟩,by simp[intOf];omega⟩
    {have ZI:=la;have ZK:=la;have bt:=la;have aq:=la;have ZO:=ae D.l;have ZP:=ae D.res;have M:=ae (fi D.src rfl D.w rfl (by omega) (by omega) G1);clear ZI ZK bt aq;go_wp2;go_meet;exact⟨_,_,_,_,_,_,_,_,_,by omega,ZO,ZP,M,R3,O3⟩}
  ·go_wp2_with fail;refine aH (BxT (Y a2 ZQ.length c2) (Y a5 o.length c5) (z (B ZT))) 14 (by kernel_rfl) ?_;have l:=ae (uF (W:=s.drew) m.l);iterate 3
    refine aK 0 (v:=?_) rfl rfl (by kernel_rfl) (λ_ _ _ h=>h) rfl ?_ l ?_;rotate_left
    ·(rintro wz ⟨s0,s1⟩;go_simp)
     (try with_reducible rfl)
    (try simp only[Act.put,nzL])
   refine aj (i:=3) rfl (by kernel_rfl) λK b=>?_;go_simp;go_at_call 33;refine(ay R _ 2 _ (R2.aa br.drew ly) (by omega) (by omega) (by omega)).mono ?_;rintro e G ⟨z3,rfl,ex,sm,O,H⟩;obtain⟨m3,rfl⟩:=AD ex;have X:Hid (Only R s G):=(Only.q br.drew).trans H;have D:=ae (m.ac X (by omega));have R3:=ae O;have O3:=ae (O2.trans X);clear O H X l;have l:=ae (uF D.l);refine b _ _ (λ_=>l) ?_;clear b K
   (try simp only[Act.put,nzL])
   have hw60:IntKind.i64.wrap (60+(m3:Int))=60+(m3:Int):=by rw[p9];omega
   refine aj (i:=4) rfl (by kernel_rfl) λK b=>?_;go_simp;refine b _ _ (λ_=>l) ?_;clear b K
   (try simp only[Act.put,nzL])
   refine aj (i:=5) rfl (by kernel_rfl) λK b=>?_;go_simp;go_at_call 63;refine(eW ⟨#[110]⟩ (60+m3) _ (by show 1*(60+m3)<=4000;omega) (by omega)).mono ?_;rintro e w4 ⟨tn,rfl,_,rfl⟩;refine b _ _ (λ_=>l) ?_;clear b K l
   (try simp only[Act.put,nzL])
   have SQ:=ae D.keepT;refine aj (i:=6) rfl (by kernel_rfl) λK b=>?_;go_simp;go_at_call 84;refine(bw _ _).mono ?_;rintro e wm ⟨rfl,Ho⟩;have BM:=ae Ho;clear Ho;refine b _ _ (λ_=>SQ wm (λj ZS _=>BM.block j ZS)) ?_;clear b K
   (try simp only[Act.put,nzL])
   refine aj (i:=7) rfl (by kernel_rfl) λK b=>?_;go_simp;go_at_call 85;refine(bm _ _).mono ?_;rintro e ZL ⟨rfl,n7⟩;have BN:=ae (BM.trans (n7.mono BM.size));clear n7 BM;have H7:=BN.size;have BI:=ae (BN.alloc (by omega) (N #[J I 1,U ⟨#[107]⟩,J I 0,J I 15,U ⟨#[]⟩,J I 0] 146));have Il:=D.hi;have ur:=D.lt;have OI:=ae (wV ZL (base:=z (B w)+2) (by omega));refine b _ _ (λ_=>SQ ZL (λj ZS _=>BN.block j ZS)) ?_;clear b K
   (try simp only[Act.put,nzL])
   have l:=ae (SQ _ (λj ZS _=>BI.block j ZS));iterate 3
    refine bU 8 rfl rfl (by kernel_rfl) λK b=>?_;go_simp;refine b _ _ (λ_=>l) ?_;clear b K
    (try simp only[Act.put,nzL])
   have Fk:(ZL.alloc (N #[J I 1,U ⟨#[107]⟩,J I 0,J I 15,U ⟨#[]⟩,J I 0] 146)).heap.size=z (B ZL)+1:=by simp
   have AB:=ae (BI.alloc (by omega) (N #[U tn,Y (T (Q (z (B ZL)) 0 Z)) 2 2] 125));refine aj (i:=11) rfl (by kernel_rfl) λK b=>?_;go_simp;have ZJ:=ae (D.aa AB ly);have OA:=ae (own_below OI (br.alloc ly (N #[U tn,Y (T (Q (z (B ZL)) 0 Z)) 2 2] 125)) ly);refine b _ _ (λ_=>SQ _ (λj ZS _=>AB.block j ZS)) ?_;clear b K
   (try simp only[Act.put,nzL])
   refine aj (i:=12) rfl (by kernel_rfl) λK b=>?_;refine aW rfl (.tmp 121) (.tmp 131) 27 rfl (z (B w)+2) 125 At (ZG #[U ⟨#[]⟩,Y Z 0 0]) 2 40 LU ZS Fd DQ Hd rfl (by decide) (Y a5 o.length c5) o.length (o.flatMap aZ) (by simp[Act.eval]) ZJ.w.y (Q (z (B ZL)+1) 0 Z) 1 1 (aZ (⟨tn,2,lsI jW⟩,z (B ZL),2)) (by simp[Act.eval]) rfl (λj u hu=>oP (Fk) _ _ _ j u hu) (by simp[aZ,Value.oneCell']) (by unfold maxLen;omega) (by omega) (by have:=ZJ.hi;have:=ZJ.lt;omega) ?_;intro v' w7 C y _;obtain⟨a7,c7,rfl⟩:=aQ C;have S7:=ae (SQ w7 (λj ZS ld=>(y.block j (lj ZS AB.size) ld).trans (AB.block j ZS)));obtain⟨c8,b8⟩:=ZJ.addT (x:=⟨tn,2,lsI jW⟩) (g:=z (B ZL)) (c:=2) (λr hr e=>by have:=D.w.ltg r hr;omega) OA C y;have X9:=ae c8;have B9:=ae b8;clear C y c8 b8;refine b _ _ (λ_=>S7) ?_;clear b K
   (try simp only[Act.put,nzL])
   refine aj (i:=13) rfl (by kernel_rfl) λK b=>?_;go_simp;refine b _ _ (λ_=>S7) ?_;clear b K
   (try simp only[Act.put,nzL])
   obtain⟨s7,t7⟩:=S7.out;have f7:w7.frozen? (Q (z (B ZT)) 1 Z)=ZA:=by simp[World.frozen?,s7]
   have l7:=ar s7;clear s7;refine aj (i:=14) rfl (by kernel_rfl) λK b=>?_;go_simp;refine b _ _ (λh=>absurd rfl h) ?_;clear b K
   (try simp only[Act.put,nzL])
   refine be (by kernel_rfl) ?_ _;have BB:=ae ((AB.mono (show (z (B w))+2<=z (B w4) by omega)).trans B9.out);have R9:=ae (R3.low BB (by omega));have O9:=ae (O3.then (BB.mono (by omega)));have G9:=ae (G1.add (r:=(⟨tn,2,lsI jW⟩,z (B ZL),2)) (by show 2<=300;omega) uD);clear t7 f7 l7 l;go_simp;generalize World.setCell w7 _ _=W9 at X9 R9 O9 ⊢;have ZO:=ae X9.l;have ZP:=ae X9.res;have M:=ae (fi X9.src rfl X9.w (by simp) (by omega) (by rw[eL];exact(by omega:o.length+1<=300)) G9);clear ZI ZK bt aq;go_wp2;go_meet;exact⟨_,_,_,_,_,_,_,_,_,by omega,ZO,ZP,M,R9,O9⟩
  {have BQ:=ae ((BS s).alloc ly (N #[U ⟨#[97]⟩,Y Z 0 0] 125));have XQ:=ae (m.aa BQ ly);go_wp2_with (at_builtin;refine bX _ rfl (.tmp 137) (.tmp 139) 27 rfl (z (B w)+2) 125 At (ZG #[U ⟨#[]⟩,Y Z 0 0]) 2 40 LU ZS Fd DQ Hd rfl (by decide) (Y a5 o.length c5) o.length (o.flatMap aZ) (by simp[Act.eval]) XQ.w.y (Q (z (B s)) 0 Z) 1 1 [U ⟨#[97]⟩,Y Z 0 0] (by simp[Act.eval]) rfl (λj u hu=>cT s _ _ _ j u hu) (by simp[Value.oneCell']) (by unfold maxLen;omega) (by omega) (by have:=m.hi;simp;omega) ?_;intro v' G C y _;obtain⟨a7,c7,rfl⟩:=aQ C;obtain⟨hE,hB,hQ,fd⟩:=XQ.addNil C y (by omega) (by omega) G1.out;have M:=ae hE;have Hi:=ae fd;have ZO:=ae hB;have ZP:=ae hQ;have kb:=fM y XQ.w.type XQ.l (by decide);clear C y hE hB hQ fd ZI ZK bt aq;have e0:A G (Q (z (B ZT)) 0 Z)=T (Y a2 ZQ.length c2):=(by simp[World.cell?,kb]);have e1:A G (Q (z (B ZT)) 1 Z)=T (Y a5 o.length c5):=(by simp[World.cell?,kb]);have f2:G.frozen? (Q (z (B ZT)) 1 Z)=ZA:=(by simp[World.frozen?,kb]);have l1:=ar kb;have ld:=XQ.hi;clear kb);go_meet;exact⟨_,_,_,_,_,_,_,_,_,by omega,ZO,ZP,M,R2.low (BQ.mono (show (z (B w))+2<=z (B s) by omega) |>.trans Hi.out) (by omega),O2.then ((BQ.mono (show (z (B w))<=z (B s) by omega)).trans (Hi.mono (by omega)))⟩}
  ·by_cases hl:1<(ZQ.length:Int)
   ·go_wp2_with fail;obtain⟨gs,rfl⟩:=jF m.src (by omega)
    obtain⟨P,x1,LR,rfl⟩:∃P x1 LR,ZQ=P::x1::LR:=(by
     match ZQ,hl with
     |[],h=>simp at h
     |[_],h=>simp at h
     |P::x1::LR,_=>exact⟨P,x1,LR,rfl⟩)
    have Ig:=(m.src.lt gs rfl).2;have kx:=(bk m.src (j:=0) (u:=U P.e) rfl).1;obtain⟨ky,kz⟩:=bk m.src (j:=2) (u:=U x1.e) rfl;obtain⟨x3,b3⟩:=m.setS (j:=2) (LS':=P::⟨P.e,x1.H⟩::LR) (U P.e) rfl rfl;have D:=ae x3;have B3:=ae b3;clear x3 b3;have mv:(P::x1::LR).length<=250:=by omega
    have H6:(1:Int)<(P::x1::LR).length:=hl;generalize ZM:(P::x1::LR).length=nl at *;have HL:=ae ZM;clear ZM;have Hf:0<nl:=by omega
    have Io:1<nl:=by omega
    refine aH (λV=>A V (Q (z (B ZT)) 0 Z)=T (Y (T (Q gs 0 Z)) nl c2)/\A V (Q gs 0 Z)=T (U P.e)) 9 (by kernel_rfl) ?_;have l:Hid ((s.drew.cell? (Q (z (B ZT)) 0 Z)=T (Y (T (Q gs 0 Z)) nl c2))/\s.drew.cell? (Q gs 0 Z)=T (U P.e)):=⟨ZI,kx⟩
    iterate 7
     refine aK 0 (v:=?_) rfl rfl (by kernel_rfl) (λ_ _ _ h=>h) rfl ?_ l ?_;rotate_left
     ·(rintro wz ⟨s0,s1⟩;go_simp)
      (try with_reducible rfl)
     (try simp only[Act.put,nzL])
    iterate 2
     refine bU 7 rfl rfl (by kernel_rfl) λK b=>?_;go_simp;refine b _ _ (λ_=>l) ?_;clear b K
     (try simp only[Act.put,nzL])
    refine aj (i:=9) rfl (by kernel_rfl) λK b=>?_;go_simp;refine b _ _ (λh=>absurd rfl h) ?_;clear b K
    (try simp only[Act.put,nzL])
    refine be (by kernel_rfl) ?_ _;have R3:=ae ((R2.low B3 (by omega)).aa br.drew ly);have O3:=ae (O2.then ((B3.mono (show (z (B w))<=z (B w)+2 by omega)).drew));have XD:=ae (D.aa br.drew ly);clear l kx ky kz hl H6;go_simp;generalize World.drew (World.setCell s _ _)=W3 at XD R3 O3 ⊢;have ZO:=ae XD.l;have ZP:=ae XD.res;have M:=ae (fi XD.src HL.symm XD.w rfl (by have:=HL.out;simp only[xT] at this ⊢;omega) (by omega) G1);clear ZI ZK bt aq;go_wp2;go_meet;exact⟨_,_,_,_,_,_,_,_,_,by omega,ZO,ZP,M,R3,O3⟩
   {skip;have ZO:=ae m.l;have ZP:=ae m.res;have M:=ae (fi m.src rfl m.w rfl (by omega) (by omega) G1);go_wp2;go_meet;exact⟨_,_,_,_,_,_,_,_,_,by omega,ZO,ZP,M,R2,O2⟩}
 case rest =>
 clear m R2 O2 ZI ZK bt aq la;obtain⟨b0,m0,k0,g0,b1,m1,k1,g1,q',hq',ZO,ZP,M,R9,O9⟩:=hcut;generalize wc=W9 at ZO ZP M R9 O9 ⊢;have kb:=ZO.out;have kr:=ZP.out;have e0:A W9 (Q (z (B ZT)) 0 Z)=T (Y b0 m0 k0):=by simp[World.cell?,kb]
 have e1:A W9 (Q (z (B ZT)) 1 Z)=T (Y b1 m1 k1):=by simp[World.cell?,kb]
 have r0:A W9 (Q (z (B w)+1) 0 Z)=T (Y Z 0 0):=by simp[World.cell?,kr]
 have r1:A W9 (Q (z (B w)+1) 1 Z)=T (Y Z 0 0):=by simp[World.cell?,kr]
 have f0:W9.frozen? (Q (z (B w)+1) 0 Z)=ZA:=by simp[World.frozen?,kr]
 have f1:W9.frozen? (Q (z (B w)+1) 1 Z)=ZA:=by simp[World.frozen?,kr]
 have l0:=ar kr;have l1:=ar kb;clear kb kr;have BE:=ae (((cM (z (B w)) W9).setCell (p:=(Q (z (B w)+1) 0 Z)) (D0 _) (Y b0 m0 k0)).setCell (p:=(Q (z (B w)+1) 1 Z)) (D0 _) (Y b1 m1 k1));have Hy:=ae ((M.agr ((qL (j:=0) (show (z (B w))+1<z (B w)+2 by omega) (Y b0 m0 k0)).trans (qL (j:=1) (show (z (B w))+1<z (B w)+2 by omega) (Y b1 m1 k1)))).mono (show (z (B w))<=z (B w)+2 by omega));go_wp2;exact bp (v:=ZG #[Y b0 m0 k0,Y b1 m1 k1]) (by simp[results,results36,go_sem,r0,r1]) rfl ⟨_,_,_,_,_,_,_,_,rfl,Hy,_,by omega,R9.low BE Hw,O9.then BE⟩
theorem Fz {w:E}{f:Nat}{a0 a1:Option Addr}{c0 c1:Nat}{g:List Source}{b:List TR}(m:w.ownsRow f 121 2 (Y a0 g.length c0) g.length (g.flatMap bC))(l:TRow w f (Y a1 b.length c1) b)(h:SpG g b)(n:g.length<=300)(h1:b.length<=300):HSp f w a0 g.length (cI g) a1 b.length (bK (b.map (·.1)))/\∀i,i<b.length->1<=(bK (b.map (·.1)) i).h/\(bK (b.map (·.1)) i).h<=200:=by
 refine⟨fi m rfl l rfl n h1 (λr j=>⟨by have:=(h.t r j).2.1.2;omega,(h.t r j).2.2⟩),λi hi=>?_⟩;have e:bK (b.map (·.1)) i=b[i].1:=by simp[bK,hi]
 rw[e];exact(h.t _ (gz hi)).2.1
theorem jG (R p b0 n0 c0 n1 c1:Nat)(a0:Option Addr)(f0:Nat->Source)(a1:Option Addr)(f1:Nat->Target)(w:E)(hR:Rd w R p)(hp:p<=50000)(hb:R<b0)(hH:HSp b0 w a0 n0 f0 a1 n1 f1):Calls Tryz.prog 61 #[.pointer (T (Q R 0 Z)),ZG #[Y a0 n0 c0,Y a1 n1 c1]] w λe ZJ=>∃t:ByteArray,e=.returned (U t)/\∃q:Nat,q<=p+3/\Rd ZJ R q/\Only R w ZJ:=by
 have ZI:=ae hR;have hlow:=hR.lt;have hn1:=hH.hn1;have HH:=ae hH;clear hR hH;have x:=ae ((BS w).alloc ly (N #[Y a0 n0 c0,Y a1 n1 c1] 29));have ZP:Hid ((w.alloc (N #[Y a0 n0 c0,Y a1 n1 c1] 29)).heap[z (B w)]?=T (N #[Y a0 n0 c0,Y a1 n1 c1] 29 (0,0))):=gM w _;have G:(w.alloc (N #[Y a0 n0 c0,Y a1 n1 c1] 29)).heap.size=z (B w)+1:=by simp
 by_cases hn:0<(n1:Int)
 ·go_enter func61,ntmps61;go_wp2_with fail;generalize World.alloc w _=l at x ZP G ⊢;have P:=ae (ZI.aa x ly);have O:Hid (Only R w l):=Only.q x;refine(ay R p 8 _ P (by omega) (by omega) (by omega)).mono ?_;rintro e L ⟨ZR,rfl,hz0',hz1',ZM,ZO⟩;have X:=ae ZM;have O1:=ae (O.trans ZO);have K1:=ae ((ZO.block (z (B w)) (by omega) (by omega)).trans ZP);clear ZM ZO P O ZP x;have ZK:=K1.out;have ZL:A L (Q (z (B w)) 1 Z)=T (Y a1 n1 c1):=by simp[World.cell?,ZK]
  have l1:=ar ZK;clear ZK;by_cases hz:0<ZR
  ·go_wp2_with fail;refine aH (λV=>A V (Q (z (B w)) 1 Z)=T (Y a1 n1 c1)) 10 (by as_aux_lemma=>kernel_rfl) ?_;have ZQ:Hid (L.drew.cell? (Q (z (B w)) 1 Z)=T (Y a1 n1 c1)):=ZL;iterate 6
    refine aK 0 (v:=?_) rfl rfl (by as_aux_lemma=>kernel_rfl) (λ_ _ _ h=>h) rfl ?_ ZQ ?_;rotate_left
    ·(intro wz s0;go_simp)
     (try with_reducible rfl)
    (try simp only[Act.put,nzL])
   refine aj (i:=6) rfl (by as_aux_lemma=>kernel_rfl) λK M=>?_;go_simp;go_at_call 33;refine(ay R _ (n1:Int) _ (X.aa br.drew ly) (by omega) (by omega) (by omega)).mono ?_;rintro e D ⟨z3,rfl,m,S,g,b⟩;obtain⟨n,rfl⟩:=AD m;have OO:Hid (Only R L D):=(Only.q br.drew).trans b;have H:=ae g;have C:=ae (O1.trans OO);have o:n<n1:=by omega
   clear g b ZQ;have ZQ:Hid (A D (Q (z (B w)) 1 Z)=T (Y a1 n1 c1)):=(OO.cell (z (B w)) 1 l1 (by omega)).trans ZL;rcases(HH.sl D (C.agr hb)).2 with h0|⟨tb,tof,rfl,u⟩
   {omega};have kn:=(u.2 n o).1;have hl:=u.1;clear u ZL;refine M _ _ (λ_=>ZQ) ?_;clear M K
   (try simp only[Act.put,nzL])
   iterate 4
    refine bU 7 rfl rfl (by as_aux_lemma=>kernel_rfl) λK M=>?_;go_simp;refine M _ _ (λ_=>ZQ) ?_;clear M K
    (try simp only[Act.put,nzL])
   refine be (by as_aux_lemma=>kernel_rfl) ?_ _;go_wp2;go_ret;exact⟨_,rfl,_,by omega,H,C⟩
  ·go_wp2_with fail;obtain⟨WL,s⟩:∃W:E,L.alloc (N #[U ⟨#[97]⟩,U ⟨#[110,111,110,101]⟩,U ⟨#[]⟩,U ⟨#[120,32,121]⟩,U ⟨#[116,48]⟩] 9)=W:=⟨_,rfl⟩
   obtain⟨r,f,-⟩:=nb1 s;replace f:=f.out;have ZN:=ae s;clear s;have ZS:=ae (X.aa r ly);have ZT:=ae (O1.then (r.mono (by omega)));have y:=ar f;have j:=ae f;clear r f;rw[ZN.out];clear ZN;refine(ay R _ 5 _ ZS (by omega) (by omega) (by omega)).mono ?_;rintro e D ⟨z3,rfl,m,S,g,b⟩;obtain⟨n,rfl⟩:=AD m;have o:n<5:=by omega
   have H:=ae g;have C:=ae (ZT.trans b);obtain⟨sx,aq⟩:=ny ((b.block (z (B L)) y (by omega)).trans j) n o;clear g b j ZS ZT;go_wp2;go_ret;exact⟨sx,rfl,_,by omega,H,C⟩
 ·go_enter func61,ntmps61;go_wp2_with fail;generalize World.alloc w _=l at x ZP G ⊢;have P:=ae (ZI.aa x ly);have O:Hid (Only R w l):=Only.q x;have l0:=ar ZP.out;have r:=ae ((BS l).alloc ly (N #[U ⟨#[97]⟩,U ⟨#[110,111,110,101]⟩,U ⟨#[]⟩,U ⟨#[120,32,121]⟩,U ⟨#[116,48]⟩] 9));have ZS:=ae (P.aa r ly);have ZT:=ae (O.then (r.mono (by omega)));have f:(l.alloc (N #[U ⟨#[97]⟩,U ⟨#[110,111,110,101]⟩,U ⟨#[]⟩,U ⟨#[120,32,121]⟩,U ⟨#[116,48]⟩] 9)).heap[z (B w)+1]?=T (N #[U ⟨#[97]⟩,U ⟨#[110,111,110,101]⟩,U ⟨#[]⟩,U ⟨#[120,32,121]⟩,U ⟨#[116,48]⟩] 9 (0,0)):=(by rw[<-G];exact gM l _)
  have y:=ar f;have j:=ae f;clear r f;generalize World.alloc l _=WL at ZS ZT j y ⊢;refine(ay R _ 5 _ ZS (by omega) (by omega) (by omega)).mono ?_;rintro e D ⟨z3,rfl,m,S,g,b⟩;obtain⟨n,rfl⟩:=AD m;have o:n<5:=by omega
  have H:=ae g;have C:=ae (ZT.trans b);obtain⟨sx,aq⟩:=ny ((b.block (z (B w)+1) y (by omega)).trans j) n o;clear g b j ZS ZT;go_wp2;go_ret;exact⟨sx,rfl,_,by omega,H,C⟩
