import Derived.Test.YtamacmnikdejeaaGreatDoorRY
import Derived.Test.YtamacmnikdejeaaGreatDoorRZ
import Derived.Test.YtamacmnikdejeaaGreatDoorRV
set_option maxRecDepth 100000
set_option maxHeartbeats 8000000
open Go.Addr renaming mk->N
open Go.Value renaming slice->Y,string->U,int->J,agg->QG
open Option renaming none->Z,some->T
open Go.Obj renaming cells->Q
open Go.IntKind renaming i64->I
open Go renaming World->G
open Bool renaming false->QB
namespace Go.Proofs.YtamacmnikdejeaaGreatDoor.Vp
open RowKit Ca
theorem uN (R p b0 n0 c0 n1 c1:Nat)(a0:Option Addr)(f0:Nat->Source)(a1:Option Addr)(f1:Nat->Target)(w:G)(hR:Rd w R p)(hp:p<=19000)(hH:HSp b0 w a0 n0 f0 a1 n1 f1)(hg:∀ i,i<n1->1<=(f1 i).actN/\(f1 i).actN<=200)(hm0:n0<=250)(hm1:n1<=250):Calls Tryz.prog 36 #[.pointer (T (N R 0 Z)),QG #[Y a0 n0 c0,Y a1 n1 c1]] w fun e w'=>DH w R (p+1100) e w':=by
 have HR:=ae hR;have Fz:=hR.lt;obtain⟨hs,ht⟩:=hH.sl w (Agr.refl _ _);have HF:=ae hH.fit;have HG:=ae hg;have l:=ae hs;have HT:=ae ht;clear hs ht hH hg hR;obtain⟨F0,hi,FP,FC,FQ⟩:=IL iC;obtain⟨Bk,B,DS,Fe,CD⟩:=IL fw;have A0:=ae (((q9 w).alloc ly (Q #[Y a0 n0 c0,Y a1 n1 c1] 29)).alloc (by simp) (Q #[Y Z 0 0,Y Z 0 0] 29));have Fk:((w.alloc (Q #[Y a0 n0 c0,Y a1 n1 c1] 29)).alloc (Q #[Y Z 0 0,Y Z 0 0] 29)).heap.size=w.heap.size+2:=by simp
 have KR:Hid (((w.alloc (Q #[Y a0 n0 c0,Y a1 n1 c1] 29)).alloc (Q #[Y Z 0 0,Y Z 0 0] 29)).heap[w.heap.size+1]?=T (Q #[Y Z 0 0,Y Z 0 0] 29 (0,0))):=by have h2:=eT (w.alloc (Q #[Y a0 n0 c0,Y a1 n1 c1] 29)) (Q #[Y Z 0 0,Y Z 0 0] 29);rw[show(w.alloc (Q #[Y a0 n0 c0,Y a1 n1 c1] 29)).heap.size=w.heap.size+1 by simp] at h2;exact h2
 go_enter Tryz.func36,Tryz.ntmps36;go_wp2_with fail;generalize (w.alloc (Q #[Y a0 n0 c0,Y a1 n1 c1] 29)).alloc (Q #[Y Z 0 0,Y Z 0 0] 29)=W at A0 Fk KR ⊢;refine(eW a0 n0 c0 f0 a1 n1 c1 f1 ⟨#[]⟩ W (by omega) (by omega) (l.below A0 ly) (HT.below A0 ly) (fun i hi=>by have:=(HF i hi).1;unfold bk;omega)).mono ?_;rintro e y ⟨v0,v1,o,rfl,ph,Fc,hM,qr⟩;obtain⟨a2,c2,rfl⟩:=aP ph;obtain⟨a5,c5,rfl⟩:=aP Fc.own;have G1:=ae (Do hM HF);have N1:=ae (Dp hM HG);have Fx:=xw hM;have Fj:=jA f0 ⟨#[]⟩ n0;clear hM l HT HF HG;generalize keepS f0 ⟨#[]⟩ n0=C at ph Fj ⊢;have hsz:=qr.size;have X1:=ae (qd (rr:=w.heap.size+1) (base:=w.heap.size+2) ((qr.block _ (by omega)).trans KR) (by omega) (by omega) (by omega) ph Fc);have B1:=ae ((A0.trans (qr.mono (by omega))).alloc (by omega) (Q #[Y a2 C.length c2,Y a5 o.length c5] 29));clear ph Fc qr A0 KR;have R1:=ae (HR.low B1 (by omega));have O1:Hid (Only R w (y.alloc (Q #[Y a2 C.length c2,Y a5 o.length c5] 29))):=Only.of_below B1;go_wp2_with fail;generalize y.alloc (Q #[Y a2 C.length c2,Y a5 o.length c5] 29)=W2 at X1 B1 R1 O1 ⊢;refine(av R p 8 _ R1 (by omega) (by omega) (by omega)).mono ?_;rintro e t ⟨z,rfl,hz0',hz1',Fs,Fa⟩;have m:=ae (X1.only Fa (by omega));have R2:=ae Fs;have O2:=ae (O1.trans Fa);clear Fs Fa X1 R1 O1 B1 Fk HR;obtain⟨QH,QK⟩:=m.cells;obtain⟨bt,aq⟩:=m.open
 have la:=m.lt;go_upto_block 0 with fail;go_cut [6,7] (fun _ _ wx=>∃ (b0:Option Addr) (m0 k0:Nat) (g0:Nat->Source) (b1:Option Addr) (m1 k1:Nat) (g1:Nat->Target) (q':Nat),q'<=p+1100/\Hid (wx.heap[y.heap.size]?=T (Q #[Y b0 m0 k0,Y b1 m1 k1] 29 (0,0)))/\Hid (wx.heap[w.heap.size+1]?=T (Q #[Y Z 0 0,Y Z 0 0] 29 (0,0)))/\Hid (HSp (w.heap.size+2) wx b0 m0 g0 b1 m1 g1)/\Hid (Rd wx R q')/\Hid (Only R w wx));case first =>
  have FZ:z=0∨z=1∨z=2∨z=3∨z=4∨z=5∨z=6∨z=7:=by omega
  rcases FZ with rfl | rfl | rfl | rfl | rfl | rfl | rfl | rfl
  ·go_wp2_with fail
   have Fy:=m.hi;refine aD (BxS (Y a2 C.length c2) (Y a5 o.length c5) y.heap.size) 11 (by as_aux_lemma=>kernel_rfl) ?_;have l:=ae (ij (W:=t.drew) m.box)
   iterate 2
    refine aL 0 (v:=?_) rfl rfl (by as_aux_lemma=>kernel_rfl) (fun _ _ _ h=>h) rfl ?_ l ?_;rotate_left
    ·(intro wz QN;obtain⟨s0,s1⟩:=QN;go_simp)
     (try with_reducible rfl)
    (try simp only[Act.put,nzL])
   refine aL 3 (v:=?_) rfl rfl (by as_aux_lemma=>kernel_rfl) (fun _ _ _ h=>h) rfl ?_ l ?_;rotate_left
   ·(intro wz QN;obtain⟨s0,s1⟩:=QN;go_simp)
    (try with_reducible rfl)
   (try simp only[Act.put,nzL])
   refine nH (i:=2) (j:=4) rfl rfl (by as_aux_lemma=>kernel_rfl) (fun K b=>?h1) (fun K b=>?h2);case' h1 =>
    go_simp;have BQ:=ae (((q9 t).alloc ly (Q #[U ⟨#[97]⟩,U ⟨#[122,122]⟩,U ⟨#[]⟩,U ⟨#[120,32,121]⟩,U ⟨#[116,48]⟩] 9)).drew);have XQ:=ae (m.below BQ ly);have RQ:=ae (R2.below BQ ly);have OQ:=ae (O2.then (BQ.mono (by omega)));have Fb:=eT t (Q #[U ⟨#[97]⟩,U ⟨#[122,122]⟩,U ⟨#[]⟩,U ⟨#[120,32,121]⟩,U ⟨#[116,48]⟩] 9);have Fv:Hid ((t.alloc (Q #[U ⟨#[97]⟩,U ⟨#[122,122]⟩,U ⟨#[]⟩,U ⟨#[120,32,121]⟩,U ⟨#[116,48]⟩] 9)).drew.heap[t.heap.size]?=T (Q #[U ⟨#[97]⟩,U ⟨#[122,122]⟩,U ⟨#[]⟩,U ⟨#[120,32,121]⟩,U ⟨#[116,48]⟩] 9 (0,0))):=Fb;have FH:t.heap.size<(t.alloc (Q #[U ⟨#[97]⟩,U ⟨#[122,122]⟩,U ⟨#[]⟩,U ⟨#[120,32,121]⟩,U ⟨#[116,48]⟩] 9)).drew.heap.size:=ai Fb;clear Fb l;refine b _ _ (fun _=>ij XQ.box) ?_;clear b K
    (try simp only[Act.put,nzL])
    refine af (i:=4) rfl (by as_aux_lemma=>kernel_rfl) (fun K b=>?_);go_simp;go_at_call 33;refine(av R _ 5 _ RQ (by omega) (by omega) (by omega)).mono ?_;rintro e WL ⟨z3,rfl,ex,th,P,H⟩;obtain⟨m3,rfl⟩:=nX ex;have X4:=ae (XQ.only H (by omega));have R4:=ae P;have O4:=ae (OQ.trans H);obtain⟨sx,ur⟩:=mS ((H.block t.heap.size FH (by omega)).trans Fv) m3 (by omega);clear P H Fv XQ RQ OQ;refine b _ _ (fun _=>ij X4.box) ?_;clear b K
    (try simp only[Act.put,nzL])
   case' h2 =>
    go_simp;go_at_call 33;refine(av R _ 5 _ (R2.below br.drew ly) (by omega) (by omega) (by omega)).mono ?_;rintro e QR ⟨z3,rfl,ex,th,P,H⟩;obtain⟨m3,rfl⟩:=nX ex;have X:Hid (Only R t QR):=(Only.of_below br.drew).trans H;have D:=ae (m.only X (by omega));have R3:=ae P;have O3:=ae (O2.trans X);clear P H X l;have l:=ae (ij D.box);refine b _ _ (fun _=>l) ?_;clear b K
    (try simp only[Act.put,nzL])
    have hxl4:=D.lt;refine af (i:=2) rfl (by as_aux_lemma=>kernel_rfl) (fun K b=>?_);go_simp;have BQ:=ae ((q9 QR).alloc ly (Q #[U ⟨#[97]⟩,U ⟨#[122,122]⟩,U ⟨#[]⟩,U ⟨#[120,32,121]⟩,U ⟨#[116,48]⟩] 9));have X4:=ae (D.below BQ ly);have R4:=ae (R3.below BQ ly);have O4:=ae (O3.then (BQ.mono (by omega)));obtain⟨sx,ur⟩:=mS (eT QR (Q #[U ⟨#[97]⟩,U ⟨#[122,122]⟩,U ⟨#[]⟩,U ⟨#[120,32,121]⟩,U ⟨#[116,48]⟩] 9)) m3 (by omega);refine b _ _ (fun _=>ij X4.box) ?_;clear b K BQ l
    (try simp only[Act.put,nzL])
    generalize QR.alloc (Q #[U ⟨#[97]⟩,U ⟨#[122,122]⟩,U ⟨#[]⟩,U ⟨#[120,32,121]⟩,U ⟨#[116,48]⟩] 9)=WL at X4 R4 O4 ur ⊢
   all_goals
    have hm5:m3<5:=by omega
    have SQ:=ae X4.keepS;have l:=ae (SQ WL (fun j B _=>rfl))
    iterate 3
     refine cC 5 rfl rfl (by as_aux_lemma=>kernel_rfl) (fun K b=>?_);go_simp;refine b _ _ (fun _=>l) ?_;clear b K
     (try simp only[Act.put,nzL])
    have DQ:=X4.lt;have hxi3:=X4.hi;refine af (i:=8) rfl (by as_aux_lemma=>kernel_rfl) (fun K b=>?_);go_simp;have AB:=ae ((q9 WL).alloc ly (Q #[U sx,U ⟨#[]⟩] 121));have QJ:=ae (X4.below AB ly);have hz6:=AB.size;refine b _ _ (fun _=>SQ _ (fun j B _=>AB.block j B)) ?_;clear b K l
    (try simp only[Act.put,nzL])
    refine af (i:=9) rfl (by as_aux_lemma=>kernel_rfl) (fun K b=>?_);refine bA rfl (.tmp 28) (.tmp 35) 26 rfl (w.heap.size+2) 121 F0 (QG #[U ⟨#[]⟩,U ⟨#[]⟩]) 2 32 Tryz.underlying26 hi FP FC FQ rfl (by decide) (Y a2 C.length c2) C.length (C.flatMap bC) (by simp[Act.eval]) QJ.src (N WL.heap.size 0 Z) 1 1 (bC ⟨sx,⟨#[]⟩⟩) (by simp[Act.eval]) rfl (fun j u hu=>cL WL _ _ _ j u hu) (by simp[bC,Value.oneCell']) (by unfold maxLen;omega) (by omega) (by omega) ?_;intro v' w7 E A _;obtain⟨a7,c7,rfl⟩:=aP E;have S7:=ae (SQ w7 (fun j B ld=>(A.block j (lj B AB.size) ld).trans (AB.block j B)));obtain⟨c8,b8⟩:=QJ.addS (x:=⟨sx,⟨#[]⟩⟩) E A;have X9:=ae c8;have B9:=ae b8;clear E A c8 b8;refine b _ _ (fun _=>S7) ?_;clear b K
    (try simp only[Act.put,nzL])
    refine af (i:=10) rfl (by as_aux_lemma=>kernel_rfl) (fun K b=>?_);go_simp;refine b _ _ (fun _=>S7) ?_;clear b K
    (try simp only[Act.put,nzL])
    obtain⟨s7,t7⟩:=S7.out;have f7:w7.frozen? (N y.heap.size 0 Z)=QB:=by simp[World.frozen?,s7]
    have l7:=ai s7;clear s7;refine af (i:=11) rfl (by as_aux_lemma=>kernel_rfl) (fun K b=>?_);go_simp;refine b _ _ (fun h=>absurd rfl h) ?_;clear b K
    (try simp only[Act.put,nzL])
    refine aM (by as_aux_lemma=>kernel_rfl) ?_ _;have BB:=ae ((AB.mono (show w.heap.size+2<=WL.heap.size by omega)).trans B9.out);have R9:=ae (R4.low BB (by omega));have O9:=ae (O4.then (BB.mono (by omega)));clear t7 f7 l7 ur;go_simp;generalize w7.setCell (N y.heap.size 0 Z) (Y a7 (C.length+1) c7)=W9 at X9 R9 O9 ⊢;have QP:=ae X9.box;have QO:=ae X9.res;have M:=ae (eX X9.src (by simp) X9.tgt rfl (by rw[eI];exact(by omega:C.length+1<=300)) (by omega) G1);clear QH QK bt aq;go_wp2;go_meet;exact⟨_,_,_,_,_,_,_,_,_,by omega,QP,QO,M,R9,O9⟩
  ·by_cases hl:1<(o.length:Int)
   ·obtain⟨s,rfl⟩:=jF m.tgt.own (by omega)
    obtain⟨r0,r1,RR,rfl⟩:∃ r0 r1 RR,o=r0 :: r1 :: RR:=(by
     match o,hl with
     | [],h=>simp at h
     | [_],h=>simp at h
     | r0 :: r1 :: RR,_=>exact⟨r0,r1,RR,rfl⟩)
    have mv:(r0 :: r1 :: RR).length<=250:=by omega
    obtain⟨ka,Fo⟩:=bv m.tgt.own (j:=0) (u:=U r0.1.name) rfl;obtain⟨kb,Fq⟩:=bv m.tgt.own (j:=1) (u:=Y (T (N r0.2.1 0 Z)) r0.1.actN r0.2.2) rfl;obtain⟨kc,Fd⟩:=bv m.tgt.own (j:=2) (u:=U r1.1.name) rfl;obtain⟨kd,Fi⟩:=bv m.tgt.own (j:=3) (u:=Y (T (N r1.2.1 0 Z)) r1.1.actN r1.2.2) rfl;have n7:=(m.tgt.own.lt s rfl).2;generalize QM:(r0 :: r1 :: RR).length=nt at QK m hl mv Fx ⊢;have HL:=ae QM;clear QM;have DE:0<nt:=by omega
    have FJ:1<nt:=by omega
    have BA:=ae ((q9 t).alloc ly (Q #[U r0.1.name,Y (T (N r0.2.1 0 Z)) r0.1.actN r0.2.2] 125));have QJ:=ae (m.below BA ly);have RA:=ae (R2.below BA ly);have Fy:=m.hi;have OA:=ae (O2.then (BA.mono (by omega)));have cc:∀ j,(t.alloc (Q #[U r0.1.name,Y (T (N r0.2.1 0 Z)) r0.1.actN r0.2.2] 125)).cell? (N s j Z)=t.cell? (N s j Z):=fun j=>BA.cell (p:=(N s j Z)) n7;have cf:∀ j,(t.alloc (Q #[U r0.1.name,Y (T (N r0.2.1 0 Z)) r0.1.actN r0.2.2] 125)).frozen? (N s j Z)=t.frozen? (N s j Z):=fun j=>BA.frozen (p:=(N s j Z)) n7;have KA:=ae ((cc 0).trans ka);have Fg:=ae ((cf 0).trans Fo);have KB:=ae ((cc 1).trans kb);have Fh:=ae ((cf 1).trans Fq);have KC:=ae ((cc 2).trans kc);have Fm:=ae ((cf 2).trans Fd);have KD:=ae ((cc 3).trans kd);have Ft:=ae ((cf 3).trans Fi);have KX:Hid ((t.alloc (Q #[U r0.1.name,Y (T (N r0.2.1 0 Z)) r0.1.actN r0.2.2] 125)).heap[t.heap.size]?=T (Q #[U r0.1.name,Y (T (N r0.2.1 0 Z)) r0.1.actN r0.2.2] 125 (0,0))):=eT t _;have Fn:s≠t.heap.size:=by omega
    have FV:=BA.size;clear cc cf;go_wp2_with fail;generalize t.alloc (Q #[U r0.1.name,Y (T (N r0.2.1 0 Z)) r0.1.actN r0.2.2] 125)=WA at QJ RA OA KA Fg KB Fh KC Fm KD Ft KX FV ⊢;have Ff:=QJ.cells.2;clear ka Fo kb Fq kc Fd kd Fi BA QH QK bt aq;refine aD (fun V=>V.cell? (N y.heap.size 1 Z)=T (Y (T (N s 0 Z)) nt c5)/\V.cell? (N s 2 Z)=T (U r1.1.name)/\V.cell? (N s 3 Z)=T (Y (T (N r1.2.1 0 Z)) r1.1.actN r1.2.2)) 7 (by as_aux_lemma=>kernel_rfl) ?_;have l:Hid (WA.drew.cell? (N y.heap.size 1 Z)=T (Y (T (N s 0 Z)) nt c5)/\WA.drew.cell? (N s 2 Z)=T (U r1.1.name)/\WA.drew.cell? (N s 3 Z)=T (Y (T (N r1.2.1 0 Z)) r1.1.actN r1.2.2)):=⟨Ff,KC,KD⟩
    iterate 6
     refine aL 0 (v:=?_) rfl rfl (by as_aux_lemma=>kernel_rfl) (fun _ _ _ h=>h) rfl ?_ l ?_;rotate_left
     ·(intro wz QN;obtain⟨s0,s1,s2⟩:=QN;go_simp)
      (try with_reducible rfl)
     (try simp only[Act.put,nzL])
    refine af (i:=6) rfl (by as_aux_lemma=>kernel_rfl) (fun K b=>?_);go_simp;refine b _ _ (fun _=>l) ?_;clear b K
    (try simp only[Act.put,nzL])
    have z0:=Fg.out;have z1:=Fh.out;have y0:=KA.out;have y1:=KB.out;have hgtA:s<WA.heap.size:=by omega
    refine af (i:=7) rfl (by as_aux_lemma=>kernel_rfl) (fun K b=>?_);go_simp;refine b _ _ (fun h=>absurd rfl h) ?_;clear b K
    (try simp only[Act.put,nzL])
    refine aM (by as_aux_lemma=>kernel_rfl) ?_ _;go_simp;have SW:=ae (((QJ.sw HL.symm).set 0 (U r1.1.name)).set 1 (Y (T (N r1.2.1 0 Z)) r1.1.actN r1.2.2)).drew;have n8:=(QJ.tgt.own.lt s rfl).1;have BW:=ae ((((a8 (w.heap.size+2) WA).setCell (p:=(N s 0 Z)) n8 (U r1.1.name)).setCell (p:=(N s 1 Z)) n8 (Y (T (N r1.2.1 0 Z)) r1.1.actN r1.2.2)).drew);have kx:((WA.setCell (N s 0 Z) (U r1.1.name)).setCell (N s 1 Z) (Y (T (N r1.2.1 0 Z)) r1.1.actN r1.2.2)).drew.heap[t.heap.size]?=T (Q #[U r0.1.name,Y (T (N r0.2.1 0 Z)) r0.1.actN r0.2.2] 125 (0,0)):=((qh _ (N s 1 Z) _ t.heap.size (fun e=>Fn (Eq.symm e))).trans (qh _ (N s 0 Z) _ t.heap.size (fun e=>Fn (Eq.symm e)))).trans KX;clear l z0 z1 y0 y1 KA Fg KB Fh KC Fm KD Ft KX Ff;generalize ((WA.setCell (N s 0 Z) (U r1.1.name)).setCell (N s 1 Z) (Y (T (N r1.2.1 0 Z)) r1.1.actN r1.2.2)).drew=WB at SW BW kx ⊢;obtain⟨kc,Fd⟩:=bv SW.own (j:=2) (u:=U r1.1.name) rfl;obtain⟨kd,Fi⟩:=bv SW.own (j:=3) (u:=Y (T (N r1.2.1 0 Z)) r1.1.actN r1.2.2) rfl;have n6:=SW.box;have kv:WB.cell? (N y.heap.size 1 Z)=T (Y (T (N s 0 Z)) nt c5):=by simp[World.cell?,n6]
    have O:WB.cell? (N t.heap.size 0 Z)=T (U r0.1.name):=by simp[World.cell?,kx]
    have x1:WB.cell? (N t.heap.size 1 Z)=T (Y (T (N r0.2.1 0 Z)) r0.1.actN r0.2.2):=by simp[World.cell?,kx]
    have hgtB:s<WB.heap.size:=(SW.own.lt s rfl).2;have kv0:WB.cell? (N y.heap.size 0 Z)=T (Y a2 C.length c2):=by simp[World.cell?,n6]
    have l1:=ai n6;have FW:¬ s=y.heap.size:=by intro e;obtain⟨FU,At⟩:=dT SW.own s rfl;rw[e] at At;have h3:=n6.symm.trans At;cases h3
    have hg1':¬ y.heap.size=s:=fun e=>FW e.symm;have sm:=ae ((SW.set 2 (U r0.1.name)).set 3 (Y (T (N r0.2.1 0 Z)) r0.1.actN r0.2.2))
    have M:=ae (sm.fin rfl (L:=r1 :: r0 :: RR) (by rw[<-ox];rfl) HL.symm (by omega) (by have:=HL.out;simp only[nD] at this ⊢;omega) (by
     intro r hr;simp only[p6] at hr ⊢;rcases hr with h | h | h
     ·exact .inr (.inl h)
     ·exact .inl h
     ·exact .inr (.inr h)) G1)
    have BF:=ae ((BW.setCell (p:=(N s 2 Z)) n8 (U r0.1.name)).setCell (p:=(N s 3 Z)) n8 (Y (T (N r0.2.1 0 Z)) r0.1.actN r0.2.2));have R9:=ae (RA.low BF (by omega));have O9:=ae (OA.then (BF.mono (show w.heap.size<=w.heap.size+2 by omega)));have QP:=ae sm.box;have QO:=ae sm.res;clear n6 kx SW sm BF BW QJ RA OA;go_wp2;go_meet;exact⟨_,_,_,_,_,_,_,_,_,by omega,QP,QO,M,R9,O9⟩
   ·skip
    have QP:=ae m.box;have QO:=ae m.res;have M:=ae (eX m.src rfl m.tgt rfl (by omega) (by omega) G1);go_wp2;go_meet;exact⟨_,_,_,_,_,_,_,_,_,by omega,QP,QO,M,R2,O2⟩
  ·by_cases hl:0<(o.length:Int)
   ·go_wp2_with fail
    obtain⟨s,rfl⟩:=jF m.tgt.own (by omega)
    obtain⟨r0,RR,rfl⟩:∃ r0 RR,o=r0 :: RR:=(by
     match o,hl with
     | [],h=>simp at h
     | r0 :: RR,_=>exact⟨r0,RR,rfl⟩)
    have mv:(r0 :: RR).length<=250:=by omega
    have kb:=(bv m.tgt.own (j:=1) (u:=Y (T (N r0.2.1 0 Z)) r0.1.actN r0.2.2) rfl).1;have n7:=(m.tgt.own.lt s rfl).2;have n8:=(m.tgt.own.lt s rfl).1;have AC:=ae (m.tgt.act r0 (J8 ..));have FX:=N1.out r0 (J8 ..);have FY:=ae (G1 r0 (J8 ..)).2;generalize QM:(r0 :: RR).length=nt at QK m hl mv Fx ⊢;have HL:=ae QM;clear QM;have DE:0<nt:=by omega
    have hRb:R<w.heap.size+2:=by omega
    refine aD (fun V=>V.heap[y.heap.size]?=T (Q #[Y a2 C.length c2,Y (T (N s 0 Z)) nt c5] 29 (0,0))/\V.cell? (N y.heap.size 1 Z)=T (Y (T (N s 0 Z)) nt c5)/\V.cell? (N s 1 Z)=T (Y (T (N r0.2.1 0 Z)) r0.1.actN r0.2.2)) 11 (by as_aux_lemma=>kernel_rfl) ?_;have l:Hid (t.drew.heap[y.heap.size]?=T (Q #[Y a2 C.length c2,Y (T (N s 0 Z)) nt c5] 29 (0,0))/\t.drew.cell? (N y.heap.size 1 Z)=T (Y (T (N s 0 Z)) nt c5)/\t.drew.cell? (N s 1 Z)=T (Y (T (N r0.2.1 0 Z)) r0.1.actN r0.2.2)):=⟨m.box,QK,kb⟩
    iterate 8
     refine aL 0 (v:=?_) rfl rfl (by as_aux_lemma=>kernel_rfl) (fun _ _ _ h=>h) rfl ?_ l ?_;rotate_left
     ·(intro wz QN;obtain⟨s0,s1,s2⟩:=QN;go_simp)
      (try with_reducible rfl)
     (try simp only[Act.put,nzL])
    refine af (i:=8) rfl (by as_aux_lemma=>kernel_rfl) (fun K b=>?_);go_simp;go_at_call 78;refine(uL R _ r0.2.1 r0.2.2 r0.1.actN r0.1.act _ (R2.below br.drew ly) (by omega) (AC.1.below br.drew ly) FX FY).mono ?_;rintro e QR ⟨L3,g3,d3,rfl,ro,_,hL3,FM,q3,hq3,P,H⟩;have X:Hid (Only R t QR):=(Only.of_below br.drew).trans H;have D:=ae (m.only X (by omega));have R3:=ae P;have O3:=ae (O2.trans X);have Fu:QR.cell? (N s 1 Z)=T (Y (T (N r0.2.1 0 Z)) r0.1.actN r0.2.2):=(X.cell s 1 n7 (by omega)).trans kb;have z3:QR.frozen? (N s 1 Z)=QB:=by obtain⟨FU,hc⟩:=D.tgt.type s rfl;simp[World.frozen?,hc]
    have hgt3:=lj n7 X.size;have SA:=ae (D.setA (n:=L3.length) (g:=g3) (c:=d3) (f:=cS L3) rfl HL.symm (jX (by have h:=ro;unfold IR at h;rw[pu] at h;exact h)).1 (iZ ro) (by have:t.heap.size<=g3:=ro.lt.1;have:=m.lt;have:=m.hi;omega) (by omega) (jn FM) (by omega) (by rw[HL.out];omega) G1);clear ro P H X l;have l:=ae (show QR.heap[y.heap.size]?=T (Q #[Y a2 C.length c2,Y (T (N s 0 Z)) nt c5] 29 (0,0))/\QR.cell? (N y.heap.size 1 Z)=T (Y (T (N s 0 Z)) nt c5)/\QR.cell? (N s 1 Z)=T (Y (T (N r0.2.1 0 Z)) r0.1.actN r0.2.2) from⟨D.box,D.cells.2,Fu⟩);refine b _ _ (fun _=>l) ?_;clear b K
    (try simp only[Act.put,nzL])
    iterate 2
     refine cC 9 rfl rfl (by as_aux_lemma=>kernel_rfl) (fun K b=>?_);go_simp;refine b _ _ (fun _=>l) ?_;clear b K
     (try simp only[Act.put,nzL])
    refine af (i:=11) rfl (by as_aux_lemma=>kernel_rfl) (fun K b=>?_);go_simp;refine b _ _ (fun h=>absurd rfl h) ?_;clear b K
    (try simp only[Act.put,nzL])
    refine aM (by as_aux_lemma=>kernel_rfl) ?_ _;obtain⟨hE,hB,hQ,fd⟩:=SA.out;have M:=ae hE;have QP:=ae hB;have QO:=ae hQ;have R4:=ae (R3.low fd (by omega));have O4:=ae (O3.then (fd.mono (show w.heap.size<=w.heap.size+2 by omega)));clear hE hB hQ fd SA l kb Fu z3 hl QH QK bt aq;go_simp;generalize QR.setCell (N s 1 Z) (Y (T (N g3 0 Z)) L3.length d3)=W4 at M QP QO R4 O4 ⊢;go_wp2;go_meet;exact⟨_,_,_,_,_,_,_,_,_,by omega,QP,QO,M,R4,O4⟩
   ·skip
    have QP:=ae m.box;have QO:=ae m.res;have M:=ae (eX m.src rfl m.tgt rfl (by omega) (by omega) G1);go_wp2;go_meet;exact⟨_,_,_,_,_,_,_,_,_,by omega,QP,QO,M,R2,O2⟩
  ·by_cases hl:0<(C.length:Int)
   ·go_wp2_with fail
    obtain⟨gs,rfl⟩:=jF m.src (by omega)
    obtain⟨O,LR,rfl⟩:∃ O LR,C=O :: LR:=(by
     match C,hl with
     | [],h=>simp at h
     | O :: LR,_=>exact⟨O,LR,rfl⟩)
    have mv:(O :: LR).length<=250:=by omega
    generalize QM:(O :: LR).length=nl at QH m hl mv Fj ⊢;have HL:=ae QM;clear QM;have DE:0<nl:=by omega
    refine aD (BxS (Y (T (N gs 0 Z)) nl c2) (Y a5 o.length c5) y.heap.size) 8 (by as_aux_lemma=>kernel_rfl) ?_;have l:=ae (ij (W:=t.drew) m.box)
    iterate 3
     refine aL 0 (v:=?_) rfl rfl (by as_aux_lemma=>kernel_rfl) (fun _ _ _ h=>h) rfl ?_ l ?_;rotate_left
     ·(intro wz QN;obtain⟨s0,s1⟩:=QN;go_simp)
      (try with_reducible rfl)
     (try simp only[Act.put,nzL])
    refine af (i:=3) rfl (by as_aux_lemma=>kernel_rfl) (fun K b=>?_);go_simp;go_at_call 33;refine(av R _ 2 _ (R2.below br.drew ly) (by omega) (by omega) (by omega)).mono ?_;rintro e QR ⟨z3,rfl,ex,th,P,H⟩;obtain⟨m3,rfl⟩:=nX ex;have X:Hid (Only R t QR):=(Only.of_below br.drew).trans H;have D:=ae (m.only X (by omega));have R3:=ae P;have O3:=ae (O2.trans X);clear P H X l;have l:=ae (ij D.box);refine b _ _ (fun _=>l) ?_;clear b K
    (try simp only[Act.put,nzL])
    have FA:IntKind.i64.wrap (2000+(m3:Int))=2000+(m3:Int):=by rw[kP];omega
    refine af (i:=4) rfl (by as_aux_lemma=>kernel_rfl) (fun K b=>?_);go_simp;refine b _ _ (fun _=>l) ?_;clear b K
    (try simp only[Act.put,nzL])
    refine af (i:=5) rfl (by as_aux_lemma=>kernel_rfl) (fun K b=>?_);go_simp;go_at_call 63;refine(eO ⟨#[115]⟩ (2000+m3) _ (by show 1*(2000+m3)<=4000;omega) (by omega)).mono ?_;rintro e w4 ⟨tt,rfl,_,rfl⟩;refine b _ _ (fun _=>l) ?_;clear b K
    (try simp only[Act.put,nzL])
    have XL:Hid (SpX (w.heap.size+1) y.heap.size (w.heap.size+2) w4 (Y (T (N gs 0 Z)) (O :: LR).length c2) (Y a5 o.length c5) (O :: LR) o):=by rw[HL.out];exact D
    have FF:=(XL.src.lt gs rfl).2;obtain⟨ky,kz⟩:=bv XL.src (j:=1) (u:=U O.text) rfl;obtain⟨x3,b3⟩:=XL.setS (j:=1) (LS':=⟨O.name,tt⟩ :: LR) (U tt) rfl rfl;clear XL;rw[HL.out] at x3;have X4:=ae x3;have B4:=ae b3;clear x3 b3
    iterate 2
     refine cC 6 rfl rfl (by as_aux_lemma=>kernel_rfl) (fun K b=>?_);go_simp;refine b _ _ (fun _=>l) ?_;clear b K
     (try simp only[Act.put,nzL])
    refine af (i:=8) rfl (by as_aux_lemma=>kernel_rfl) (fun K b=>?_);go_simp;refine b _ _ (fun h=>absurd rfl h) ?_;clear b K
    (try simp only[Act.put,nzL])
    refine aM (by as_aux_lemma=>kernel_rfl) ?_ _;have R4:=ae (R3.low B4 (by omega));have O4:=ae (O3.then (B4.mono (show w.heap.size<=w.heap.size+2 by omega)));clear l ky kz hl;go_simp;generalize w4.setCell (N gs 1 Z) (U tt)=W4 at X4 R4 O4 ⊢;have QP:=ae X4.box;have QO:=ae X4.res;have M:=ae (eX X4.src HL.symm X4.tgt rfl (by have:=HL.out;simp only[nD] at this ⊢;omega) (by omega) G1);clear QH QK bt aq;go_wp2;go_meet;exact⟨_,_,_,_,_,_,_,_,_,by omega,QP,QO,M,R4,O4⟩
   ·skip
    have QP:=ae m.box;have QO:=ae m.res;have M:=ae (eX m.src rfl m.tgt rfl (by omega) (by omega) G1);go_wp2;go_meet;exact⟨_,_,_,_,_,_,_,_,_,by omega,QP,QO,M,R2,O2⟩
  ·go_wp2_with fail
   go_loopw [7] (fun i wr=>∃ (k q:Nat) (v1:Value) (RQ:List TR),i=J I k/\k<=RQ.length/\q<=p+1+k/\RQ.length<=300/\Hid (SpX (w.heap.size+1) y.heap.size (w.heap.size+2) wr (Y a2 C.length c2) v1 C RQ)/\Hid (GX RQ)/\Hid (Rd wr R q)/\Hid (Only R w wr)) (fun i _=>400 - (intOf i).toNat);case atStart=>exact⟨0,p+1,_,o,rfl,by omega,by omega,by omega,m,G1,R2,O2⟩
   case round =>
    clear m R2 O2 QH QK bt aq G1 N1 la;obtain⟨k,q4,v1,o,rfl,hk,hq4,hk3,m,G1,R2,O2⟩:=hrel;obtain⟨t,rfl⟩:∃ t,t=wr:=⟨wr,rfl⟩
    obtain⟨a5,c5,rfl⟩:=aP m.tgt.own;have la:=m.lt;have hw1:IntKind.i64.wrap ((C.length:Int)+o.length)=(C.length:Int)+o.length:=by rw[kP];omega
    have hwk:IntKind.i64.wrap ((k:Int)+1)=(k:Int)+1:=by rw[kP];omega
    go_wp2_with fail;have SB:Hid (∀ V:G,V.heap[y.heap.size]?=T (Q #[Y a2 C.length c2,Y a5 o.length c5] 29 (0,0))->V.heap[y.heap.size]?=T (Q #[Y a2 C.length c2,Y a5 o.length c5] 29 (0,0))/\V.cell? (N y.heap.size 0 Z)=T (Y a2 C.length c2)/\V.cell? (N y.heap.size 1 Z)=T (Y a5 o.length c5)):=fun V h=>⟨h,by simp[World.cell?,h],by simp[World.cell?,h]⟩
    refine wp_region_held_drew (S:=fun V=>V.heap[y.heap.size]?=T (Q #[Y a2 C.length c2,Y a5 o.length c5] 29 (0,0))/\V.cell? (N y.heap.size 0 Z)=T (Y a2 C.length c2)/\V.cell? (N y.heap.size 1 Z)=T (Y a5 o.length c5)) (by as_aux_lemma=>kernel_rfl) (SB t m.box) (fun hS=>?_);have l:=ae hS;clear hS
    iterate 8
     refine bB 0 (v:=?_) rfl rfl (by as_aux_lemma=>kernel_rfl) (fun _ _ _ h=>h) rfl ?_ l ?_;rotate_left
     ·(intro wz QN;obtain⟨s0,s1,s2⟩:=QN;go_simp)
      (try with_reducible rfl)
     (try simp only[Act.put,nzL])
    refine aR (i:=8) rfl (by as_aux_lemma=>kernel_rfl) (fun K b=>?_);go_simp;go_at_call 33;refine(av R _ 2 _ (R2.below br.drew ly) (by omega) (by omega) (by omega)).mono ?_;rintro e QR ⟨z3,rfl,ex,th,P,H⟩;obtain⟨m3,rfl⟩:=nX ex;have X:Hid (Only R t QR):=(Only.of_below br.drew).trans H;have D:=ae (m.only X (by omega));have R3:=ae P;have O3:=ae (O2.trans X);clear P H X l;have l:=ae (SB QR D.box);refine b _ _ l ?_;clear b K
    (try simp only[Act.put,nzL])
    have FA:IntKind.i64.wrap (200+(m3:Int))=200+(m3:Int):=by rw[kP];omega
    iterate 2
     refine Cf 9 rfl rfl (by as_aux_lemma=>kernel_rfl) (fun K b=>?_);go_simp;refine b _ _ l ?_;clear b K
     (try simp only[Act.put,nzL])
    refine wpAnyH_done (by as_aux_lemma=>kernel_rfl) ?_ _;clear l SB;by_cases hlt:(C.length:Int)+o.length<200+(m3:Int)
    ·go_wp2_with fail
     have DQ:=D.lt;have SQ:=ae D.keepT;refine aD (BxT (Y a2 C.length c2) (Y a5 o.length c5) y.heap.size) 13 (by as_aux_lemma=>kernel_rfl) ?_;have l:=ae (SQ QR.drew (fun j B _=>rfl))
     iterate 3
      refine aL 0 (v:=?_) rfl rfl (by as_aux_lemma=>kernel_rfl) (fun _ _ _ h=>h) rfl ?_ l ?_;rotate_left
      ·(intro wz QN;obtain⟨s0,s1⟩:=QN;go_simp)
       (try with_reducible rfl)
      (try simp only[Act.put,nzL])
     refine af (i:=3) rfl (by as_aux_lemma=>kernel_rfl) (fun K b=>?_);go_simp;go_at_call 83;refine(jL k (by omega) _).mono ?_;rintro e wl ⟨lb,rfl,hlb,fd⟩;have BL:Hid (Below QR.heap.size QR wl):=(q9 QR).drew.trans fd;clear fd l;have l:=ae (SQ wl (fun j B _=>BL.block j B));refine b _ _ (fun _=>l) ?_;clear b K
     (try simp only[Act.put,nzL])
     refine gS (i:=4) (v:=U (⟨#[117]⟩++lb)) rfl (by as_aux_lemma=>kernel_rfl) (by as_aux_lemma=>kernel_rfl) (by as_aux_lemma=>kernel_rfl) (by as_aux_lemma=>kernel_rfl) (fun _ _ _ h=>h) rfl ?_ l ?_
     ·intro wz _
      go_simp;omega
     (try simp only[Act.put,nzL])
     generalize (⟨#[117]⟩:ByteArray)++lb=tn;refine af (i:=5) rfl (by as_aux_lemma=>kernel_rfl) (fun K b=>?_);go_simp;go_at_call 84;refine(bs _ _).mono ?_;rintro e wm ⟨rfl,Fp⟩;have BM:=ae (BL.trans (Fp.mono BL.size));clear Fp l;have l:=ae (SQ wm (fun j B _=>BM.block j B));refine b _ _ (fun _=>l) ?_;clear b K
     (try simp only[Act.put,nzL])
     refine af (i:=6) rfl (by as_aux_lemma=>kernel_rfl) (fun K b=>?_);go_simp;go_at_call 85;refine(bi _ _).mono ?_;rintro e QL ⟨rfl,n9⟩;have BN:=ae (BM.trans (n9.mono BM.size));clear n9 l BL BM;have FD:=BN.size;have BI:=ae (BN.alloc (by omega) (Q #[J I 1,U ⟨#[107]⟩,J I 0,J I 15,U ⟨#[]⟩,J I 0] 146));have FO:=D.hi;have OI:=ae (vB QL (base:=w.heap.size+2) (by omega));have l:=ae (SQ QL (fun j B _=>BN.block j B));refine b _ _ (fun _=>l) ?_;clear b K l
     (try simp only[Act.put,nzL])
     have l:=ae (SQ _ (fun j B _=>BI.block j B))
     iterate 3
      refine cC 7 rfl rfl (by as_aux_lemma=>kernel_rfl) (fun K b=>?_);go_simp;refine b _ _ (fun _=>l) ?_;clear b K
      (try simp only[Act.put,nzL])
     have E9:(QL.alloc (Q #[J I 1,U ⟨#[107]⟩,J I 0,J I 15,U ⟨#[]⟩,J I 0] 146)).heap.size=QL.heap.size+1:=by simp
     have AB:=ae (BI.alloc (by omega) (Q #[U tn,Y (T (N QL.heap.size 0 Z)) 2 2] 125));refine af (i:=10) rfl (by as_aux_lemma=>kernel_rfl) (fun K b=>?_);go_simp;have QJ:=ae (D.below AB ly);have OA:=ae (own_below OI (br.alloc ly (Q #[U tn,Y (T (N QL.heap.size 0 Z)) 2 2] 125)) ly);refine b _ _ (fun _=>SQ _ (fun j B _=>AB.block j B)) ?_;clear b K
     (try simp only[Act.put,nzL])
     refine af (i:=11) rfl (by as_aux_lemma=>kernel_rfl) (fun K b=>?_);refine bA rfl (.tmp 106) (.tmp 115) 27 rfl (w.heap.size+2) 125 Bk (QG #[U ⟨#[]⟩,Y Z 0 0]) 2 40 Tryz.underlying27 B DS Fe CD rfl (by decide) (Y a5 o.length c5) o.length (o.flatMap bc) (by simp[Act.eval]) QJ.tgt.own (N (QL.heap.size+1) 0 Z) 1 1 (bc (⟨tn,2,lsI jU⟩,QL.heap.size,2)) (by simp[Act.eval]) rfl (fun j u hu=>ou (E9) _ _ _ j u hu) (by simp[bc,Value.oneCell']) (by unfold maxLen;omega) (by omega) (by have:=QJ.hi;have:=QJ.lt;omega) ?_;intro v' w7 E A _;obtain⟨a7,c7,rfl⟩:=aP E;have S7:=ae (SQ w7 (fun j B ld=>(A.block j (lj B AB.size) ld).trans (AB.block j B)));obtain⟨c8,b8⟩:=QJ.addT (x:=⟨tn,2,lsI jU⟩) (g:=QL.heap.size) (c:=2) (fun r hr e=>by have:=D.tgt.ltg r hr;omega) OA E A;have X9:=ae c8;have B9:=ae b8;clear E A c8 b8;refine b _ _ (fun _=>S7) ?_;clear b K
     (try simp only[Act.put,nzL])
     refine af (i:=12) rfl (by as_aux_lemma=>kernel_rfl) (fun K b=>?_);go_simp;refine b _ _ (fun _=>S7) ?_;clear b K
     (try simp only[Act.put,nzL])
     obtain⟨s7,t7⟩:=S7.out;have f7:w7.frozen? (N y.heap.size 1 Z)=QB:=by simp[World.frozen?,s7]
     have l7:=ai s7;clear s7;refine af (i:=13) rfl (by as_aux_lemma=>kernel_rfl) (fun K b=>?_);go_simp;refine b _ _ (fun h=>absurd rfl h) ?_;clear b K
     (try simp only[Act.put,nzL])
     refine aM (by as_aux_lemma=>kernel_rfl) ?_ _;go_wp2;have BB:=ae ((AB.mono (show w.heap.size+2<=QR.heap.size by omega)).trans B9.out);refine⟨⟨k+1,_,Y a7 (o.length+1) c7,o++[((⟨tn,2,lsI jU⟩,QL.heap.size,2):TR)],by go_num,by rw[eI];exact Nat.succ_le_succ hk,by omega,by rw[eI];exact(by omega:o.length+1<=300),X9,G1.add (r:=(⟨tn,2,lsI jU⟩,QL.heap.size,2)) (by show 2<=300;omega) tG,R3.low BB (by omega),O3.then (BB.mono (by omega))⟩,by simp[intOf];omega⟩
    ·have QH:=la
     have QK:=la;have bt:=la;have aq:=la;have QP:=ae D.box;have QO:=ae D.res;have M:=ae (eX D.src rfl D.tgt rfl (by omega) (by omega) G1);clear QH QK bt aq;go_wp2;go_meet;exact⟨_,_,_,_,_,_,_,_,_,by omega,QP,QO,M,R3,O3⟩
  ·go_wp2_with fail
   refine aD (BxT (Y a2 C.length c2) (Y a5 o.length c5) y.heap.size) 14 (by as_aux_lemma=>kernel_rfl) ?_;have l:=ae (tI (W:=t.drew) m.box)
   iterate 3
    refine aL 0 (v:=?_) rfl rfl (by as_aux_lemma=>kernel_rfl) (fun _ _ _ h=>h) rfl ?_ l ?_;rotate_left
    ·(intro wz QN;obtain⟨s0,s1⟩:=QN;go_simp)
     (try with_reducible rfl)
    (try simp only[Act.put,nzL])
   refine af (i:=3) rfl (by as_aux_lemma=>kernel_rfl) (fun K b=>?_);go_simp;go_at_call 33;refine(av R _ 2 _ (R2.below br.drew ly) (by omega) (by omega) (by omega)).mono ?_;rintro e QR ⟨z3,rfl,ex,th,P,H⟩;obtain⟨m3,rfl⟩:=nX ex;have X:Hid (Only R t QR):=(Only.of_below br.drew).trans H;have D:=ae (m.only X (by omega));have R3:=ae P;have O3:=ae (O2.trans X);clear P H X l;have l:=ae (tI D.box);refine b _ _ (fun _=>l) ?_;clear b K
   (try simp only[Act.put,nzL])
   have hw60:IntKind.i64.wrap (60+(m3:Int))=60+(m3:Int):=by rw[kP];omega
   refine af (i:=4) rfl (by as_aux_lemma=>kernel_rfl) (fun K b=>?_);go_simp;refine b _ _ (fun _=>l) ?_;clear b K
   (try simp only[Act.put,nzL])
   refine af (i:=5) rfl (by as_aux_lemma=>kernel_rfl) (fun K b=>?_);go_simp;go_at_call 63;refine(eO ⟨#[110]⟩ (60+m3) _ (by show 1*(60+m3)<=4000;omega) (by omega)).mono ?_;rintro e w4 ⟨tn,rfl,_,rfl⟩;refine b _ _ (fun _=>l) ?_;clear b K l
   (try simp only[Act.put,nzL])
   have SQ:=ae D.keepT;refine af (i:=6) rfl (by as_aux_lemma=>kernel_rfl) (fun K b=>?_);go_simp;go_at_call 84;refine(bs _ _).mono ?_;rintro e wm ⟨rfl,Fw⟩;have BM:=ae Fw;clear Fw;refine b _ _ (fun _=>SQ wm (fun j B _=>BM.block j B)) ?_;clear b K
   (try simp only[Act.put,nzL])
   refine af (i:=7) rfl (by as_aux_lemma=>kernel_rfl) (fun K b=>?_);go_simp;go_at_call 85;refine(bi _ _).mono ?_;rintro e QL ⟨rfl,n9⟩;have BN:=ae (BM.trans (n9.mono BM.size));clear n9 BM;have FD:=BN.size;have BI:=ae (BN.alloc (by omega) (Q #[J I 1,U ⟨#[107]⟩,J I 0,J I 15,U ⟨#[]⟩,J I 0] 146));have FO:=D.hi;have DQ:=D.lt;have OI:=ae (vB QL (base:=w.heap.size+2) (by omega));refine b _ _ (fun _=>SQ QL (fun j B _=>BN.block j B)) ?_;clear b K
   (try simp only[Act.put,nzL])
   have l:=ae (SQ _ (fun j B _=>BI.block j B))
   iterate 3
    refine cC 8 rfl rfl (by as_aux_lemma=>kernel_rfl) (fun K b=>?_);go_simp;refine b _ _ (fun _=>l) ?_;clear b K
    (try simp only[Act.put,nzL])
   have E9:(QL.alloc (Q #[J I 1,U ⟨#[107]⟩,J I 0,J I 15,U ⟨#[]⟩,J I 0] 146)).heap.size=QL.heap.size+1:=by simp
   have AB:=ae (BI.alloc (by omega) (Q #[U tn,Y (T (N QL.heap.size 0 Z)) 2 2] 125));refine af (i:=11) rfl (by as_aux_lemma=>kernel_rfl) (fun K b=>?_);go_simp;have QJ:=ae (D.below AB ly);have OA:=ae (own_below OI (br.alloc ly (Q #[U tn,Y (T (N QL.heap.size 0 Z)) 2 2] 125)) ly);refine b _ _ (fun _=>SQ _ (fun j B _=>AB.block j B)) ?_;clear b K
   (try simp only[Act.put,nzL])
   refine af (i:=12) rfl (by as_aux_lemma=>kernel_rfl) (fun K b=>?_);refine bA rfl (.tmp 121) (.tmp 131) 27 rfl (w.heap.size+2) 125 Bk (QG #[U ⟨#[]⟩,Y Z 0 0]) 2 40 Tryz.underlying27 B DS Fe CD rfl (by decide) (Y a5 o.length c5) o.length (o.flatMap bc) (by simp[Act.eval]) QJ.tgt.own (N (QL.heap.size+1) 0 Z) 1 1 (bc (⟨tn,2,lsI jU⟩,QL.heap.size,2)) (by simp[Act.eval]) rfl (fun j u hu=>ou (E9) _ _ _ j u hu) (by simp[bc,Value.oneCell']) (by unfold maxLen;omega) (by omega) (by have:=QJ.hi;have:=QJ.lt;omega) ?_;intro v' w7 E A _;obtain⟨a7,c7,rfl⟩:=aP E;have S7:=ae (SQ w7 (fun j B ld=>(A.block j (lj B AB.size) ld).trans (AB.block j B)));obtain⟨c8,b8⟩:=QJ.addT (x:=⟨tn,2,lsI jU⟩) (g:=QL.heap.size) (c:=2) (fun r hr e=>by have:=D.tgt.ltg r hr;omega) OA E A;have X9:=ae c8;have B9:=ae b8;clear E A c8 b8;refine b _ _ (fun _=>S7) ?_;clear b K
   (try simp only[Act.put,nzL])
   refine af (i:=13) rfl (by as_aux_lemma=>kernel_rfl) (fun K b=>?_);go_simp;refine b _ _ (fun _=>S7) ?_;clear b K
   (try simp only[Act.put,nzL])
   obtain⟨s7,t7⟩:=S7.out;have f7:w7.frozen? (N y.heap.size 1 Z)=QB:=by simp[World.frozen?,s7]
   have l7:=ai s7;clear s7;refine af (i:=14) rfl (by as_aux_lemma=>kernel_rfl) (fun K b=>?_);go_simp;refine b _ _ (fun h=>absurd rfl h) ?_;clear b K
   (try simp only[Act.put,nzL])
   refine aM (by as_aux_lemma=>kernel_rfl) ?_ _;have BB:=ae ((AB.mono (show w.heap.size+2<=w4.heap.size by omega)).trans B9.out);have R9:=ae (R3.low BB (by omega));have O9:=ae (O3.then (BB.mono (by omega)));have G9:=ae (G1.add (r:=(⟨tn,2,lsI jU⟩,QL.heap.size,2)) (by show 2<=300;omega) tG);clear t7 f7 l7 l;go_simp;generalize w7.setCell (N y.heap.size 1 Z) (Y a7 (o.length+1) c7)=W9 at X9 R9 O9 ⊢;have QP:=ae X9.box;have QO:=ae X9.res;have M:=ae (eX X9.src rfl X9.tgt (by simp) (by omega) (by rw[eI];exact(by omega:o.length+1<=300)) G9);clear QH QK bt aq;go_wp2;go_meet;exact⟨_,_,_,_,_,_,_,_,_,by omega,QP,QO,M,R9,O9⟩
  ·have BQ:=ae ((q9 t).alloc ly (Q #[U ⟨#[97]⟩,Y Z 0 0] 125))
   have XQ:=ae (m.below BQ ly);go_wp2_with (at_builtin;refine bu _ rfl (.tmp 137) (.tmp 139) 27 rfl (w.heap.size+2) 125 Bk (QG #[U ⟨#[]⟩,Y Z 0 0]) 2 40 Tryz.underlying27 B DS Fe CD rfl (by decide) (Y a5 o.length c5) o.length (o.flatMap bc) (by simp[Act.eval]) XQ.tgt.own (N t.heap.size 0 Z) 1 1 [U ⟨#[97]⟩,Y Z 0 0] (by simp[Act.eval]) rfl (fun j u hu=>cL t _ _ _ j u hu) (by simp[Value.oneCell']) (by unfold maxLen;omega) (by omega) (by have:=m.hi;simp;omega) ?_;intro v' QR E A _;obtain⟨a7,c7,rfl⟩:=aP E;obtain⟨hE,hB,hQ,fd⟩:=XQ.addNil E A (by omega) (by omega) G1.out;have M:=ae hE;have Fl:=ae fd;have QP:=ae hB;have QO:=ae hQ;have kb:=fG A XQ.tgt.type XQ.box (by decide);clear E A hE hB hQ fd QH QK bt aq;have e0:QR.cell? (N y.heap.size 0 Z)=T (Y a2 C.length c2):=(by simp[World.cell?,kb]);have e1:QR.cell? (N y.heap.size 1 Z)=T (Y a5 o.length c5):=(by simp[World.cell?,kb]);have f2:QR.frozen? (N y.heap.size 1 Z)=QB:=(by simp[World.frozen?,kb]);have l1:=ai kb;have ld:=XQ.hi;clear kb);go_meet;exact⟨_,_,_,_,_,_,_,_,_,by omega,QP,QO,M,R2.low (BQ.mono (show w.heap.size+2<=t.heap.size by omega) |>.trans Fl.out) (by omega),O2.then ((BQ.mono (show w.heap.size<=t.heap.size by omega)).trans (Fl.mono (by omega)))⟩
  ·by_cases hl:1<(C.length:Int)
   ·go_wp2_with fail
    obtain⟨gs,rfl⟩:=jF m.src (by omega)
    obtain⟨O,x1,LR,rfl⟩:∃ O x1 LR,C=O :: x1 :: LR:=(by
     match C,hl with
     | [],h=>simp at h
     | [_],h=>simp at h
     | O :: x1 :: LR,_=>exact⟨O,x1,LR,rfl⟩)
    have FF:=(m.src.lt gs rfl).2;have kx:=(bv m.src (j:=0) (u:=U O.name) rfl).1;obtain⟨ky,kz⟩:=bv m.src (j:=2) (u:=U x1.name) rfl;obtain⟨x3,b3⟩:=m.setS (j:=2) (LS':=O :: ⟨O.name,x1.text⟩ :: LR) (U O.name) rfl rfl;have D:=ae x3;have B3:=ae b3;clear x3 b3;have mv:(O :: x1 :: LR).length<=250:=by omega
    have FK:(1:Int)<(O :: x1 :: LR).length:=hl;generalize QM:(O :: x1 :: LR).length=nl at *;have HL:=ae QM;clear QM;have DE:0<nl:=by omega
    have FJ:1<nl:=by omega
    refine aD (fun V=>V.cell? (N y.heap.size 0 Z)=T (Y (T (N gs 0 Z)) nl c2)/\V.cell? (N gs 0 Z)=T (U O.name)) 9 (by as_aux_lemma=>kernel_rfl) ?_;have l:Hid ((t.drew.cell? (N y.heap.size 0 Z)=T (Y (T (N gs 0 Z)) nl c2))/\t.drew.cell? (N gs 0 Z)=T (U O.name)):=⟨QH,kx⟩
    iterate 7
     refine aL 0 (v:=?_) rfl rfl (by as_aux_lemma=>kernel_rfl) (fun _ _ _ h=>h) rfl ?_ l ?_;rotate_left
     ·(intro wz QN;obtain⟨s0,s1⟩:=QN;go_simp)
      (try with_reducible rfl)
     (try simp only[Act.put,nzL])
    iterate 2
     refine cC 7 rfl rfl (by as_aux_lemma=>kernel_rfl) (fun K b=>?_);go_simp;refine b _ _ (fun _=>l) ?_;clear b K
     (try simp only[Act.put,nzL])
    refine af (i:=9) rfl (by as_aux_lemma=>kernel_rfl) (fun K b=>?_);go_simp;refine b _ _ (fun h=>absurd rfl h) ?_;clear b K
    (try simp only[Act.put,nzL])
    refine aM (by as_aux_lemma=>kernel_rfl) ?_ _;have R3:=ae ((R2.low B3 (by omega)).below br.drew ly);have O3:=ae (O2.then ((B3.mono (show w.heap.size<=w.heap.size+2 by omega)).drew));have XD:=ae (D.below br.drew ly);clear l kx ky kz hl FK;go_simp;generalize (t.setCell (N gs 2 Z) (U O.name)).drew=W3 at XD R3 O3 ⊢;have QP:=ae XD.box;have QO:=ae XD.res;have M:=ae (eX XD.src HL.symm XD.tgt rfl (by have:=HL.out;simp only[nD] at this ⊢;omega) (by omega) G1);clear QH QK bt aq;go_wp2;go_meet;exact⟨_,_,_,_,_,_,_,_,_,by omega,QP,QO,M,R3,O3⟩
   ·skip
    have QP:=ae m.box;have QO:=ae m.res;have M:=ae (eX m.src rfl m.tgt rfl (by omega) (by omega) G1);go_wp2;go_meet;exact⟨_,_,_,_,_,_,_,_,_,by omega,QP,QO,M,R2,O2⟩
 case rest =>
 clear m R2 O2 QH QK bt aq la;obtain⟨b0,m0,k0,g0,b1,m1,k1,g1,q',hq',QP,QO,M,R9,O9⟩:=hcut;generalize wc=W9 at QP QO M R9 O9 ⊢;have kb:=QP.out;have kr:=QO.out;have e0:W9.cell? (N y.heap.size 0 Z)=T (Y b0 m0 k0):=by simp[World.cell?,kb]
 have e1:W9.cell? (N y.heap.size 1 Z)=T (Y b1 m1 k1):=by simp[World.cell?,kb]
 have r0:W9.cell? (N (w.heap.size+1) 0 Z)=T (Y Z 0 0):=by simp[World.cell?,kr]
 have r1:W9.cell? (N (w.heap.size+1) 1 Z)=T (Y Z 0 0):=by simp[World.cell?,kr]
 have f0:W9.frozen? (N (w.heap.size+1) 0 Z)=QB:=by simp[World.frozen?,kr]
 have f1:W9.frozen? (N (w.heap.size+1) 1 Z)=QB:=by simp[World.frozen?,kr]
 have l0:=ai kr;have l1:=ai kb;clear kb kr;have BE:=ae (((a8 w.heap.size W9).setCell (p:=(N (w.heap.size+1) 0 Z)) (CV _) (Y b0 m0 k0)).setCell (p:=(N (w.heap.size+1) 1 Z)) (CV _) (Y b1 m1 k1));have FG:=ae ((M.agr ((qb (j:=0) (show w.heap.size+1<w.heap.size+2 by omega) (Y b0 m0 k0)).trans (qb (j:=1) (show w.heap.size+1<w.heap.size+2 by omega) (Y b1 m1 k1)))).mono (show w.heap.size<=w.heap.size+2 by omega));go_wp2;exact bp (v:=QG #[Y b0 m0 k0,Y b1 m1 k1]) (by simp[results,Tryz.results36,go_sem,r0,r1]) rfl ⟨_,_,_,_,_,_,_,_,rfl,FG,_,by omega,R9.low BE Fz,O9.then BE⟩
theorem Dq {w:G}{g:Nat}{a0 a1:Option Addr}{c0 c1:Nat}{f:List Source}{b:List TR}(l:w.ownsRow g 121 2 (Y a0 f.length c0) f.length (f.flatMap bC))(n:TRow w g (Y a1 b.length c1) b)(h:SpG f b)(m:f.length<=300)(h1:b.length<=300):HSp g w a0 f.length (ba f) a1 b.length (be (b.map (·.1)))/\∀ i,i<b.length->1<=(be (b.map (·.1)) i).actN/\(be (b.map (·.1)) i).actN<=200:=by
 refine⟨eX l rfl n rfl m h1 (fun r j=>⟨by have:=(h.t r j).2.1.2;omega,(h.t r j).2.2⟩),fun i hi=>?_⟩;have e:be (b.map (·.1)) i=b[i].1:=by simp[be,hi]
 rw[e];exact(h.t _ (gj hi)).2.1
theorem jG (R p b0 n0 c0 n1 c1:Nat)(a0:Option Addr)(f0:Nat->Source)(a1:Option Addr)(f1:Nat->Target)(w:G)(hR:Rd w R p)(hp:p<=50000)(hb:R<b0)(hH:HSp b0 w a0 n0 f0 a1 n1 f1):Calls Tryz.prog 61 #[.pointer (T (N R 0 Z)),QG #[Y a0 n0 c0,Y a1 n1 c1]] w fun e QH=>∃ t:ByteArray,e=.returned (U t)/\∃ q:Nat,q<=p+3/\Rd QH R q/\Only R w QH:=by
 have QK:=ae hR;have hlow:=hR.lt;have hn1:=hH.hn1;have HH:=ae hH;clear hR hH;have x:=ae ((q9 w).alloc ly (Q #[Y a0 n0 c0,Y a1 n1 c1] 29));have H:Hid ((w.alloc (Q #[Y a0 n0 c0,Y a1 n1 c1] 29)).heap[w.heap.size]?=T (Q #[Y a0 n0 c0,Y a1 n1 c1] 29 (0,0))):=eT w _;have D:(w.alloc (Q #[Y a0 n0 c0,Y a1 n1 c1] 29)).heap.size=w.heap.size+1:=by simp
 by_cases hn:0<(n1:Int)
 ·go_enter Tryz.func61,Tryz.ntmps61
  go_wp2_with fail;generalize w.alloc (Q #[Y a0 n0 c0,Y a1 n1 c1] 29)=n at x H D ⊢;have M:=ae (QK.below x ly);have QN:Hid (Only R w n):=Only.of_below x;refine(av R p 8 _ M (by omega) (by omega) (by omega)).mono ?_;rintro e l ⟨z,rfl,hz0',hz1',O,QR⟩;have X:=ae O;have W:=ae (QN.trans QR);have K1:=ae ((QR.block w.heap.size (by omega) (by omega)).trans H);clear O QR M QN H x;have S:=K1.out;have QM:l.cell? (N w.heap.size 1 Z)=T (Y a1 n1 c1):=by simp[World.cell?,S]
  have l1:=ai S;clear S;by_cases hz:0<z
  ·go_wp2_with fail
   refine aD (fun V=>V.cell? (N w.heap.size 1 Z)=T (Y a1 n1 c1)) 10 (by as_aux_lemma=>kernel_rfl) ?_;have QP:Hid (l.drew.cell? (N w.heap.size 1 Z)=T (Y a1 n1 c1)):=QM
   iterate 6
    refine aL 0 (v:=?_) rfl rfl (by as_aux_lemma=>kernel_rfl) (fun _ _ _ h=>h) rfl ?_ QP ?_;rotate_left
    ·(intro wz s0;go_simp)
     (try with_reducible rfl)
    (try simp only[Act.put,nzL])
   refine af (i:=6) rfl (by as_aux_lemma=>kernel_rfl) (fun K QO=>?_);go_simp;go_at_call 33;refine(av R _ (n1:Int) _ (X.below br.drew ly) (by omega) (by omega) (by omega)).mono ?_;rintro e L ⟨z3,rfl,r,P,f,b⟩;obtain⟨s,rfl⟩:=nX r;have QJ:Hid (Only R l L):=(Only.of_below br.drew).trans b;have E:=ae f;have C:=ae (W.trans QJ);have o:s<n1:=by omega
   clear f b QP;have QP:Hid (L.cell? (N w.heap.size 1 Z)=T (Y a1 n1 c1)):=(QJ.cell w.heap.size 1 l1 (by omega)).trans QM;rcases(HH.sl L (C.agr hb)).2 with h0 | ⟨tb,tof,rfl,y⟩
   ·omega
   have kn:=(y.2 s o).1;have hl:=y.1;clear y QM;refine QO _ _ (fun _=>QP) ?_;clear QO K
   (try simp only[Act.put,nzL])
   iterate 4
    refine cC 7 rfl rfl (by as_aux_lemma=>kernel_rfl) (fun K QO=>?_);go_simp;refine QO _ _ (fun _=>QP) ?_;clear QO K
    (try simp only[Act.put,nzL])
   refine aM (by as_aux_lemma=>kernel_rfl) ?_ _;go_wp2;go_ret;exact⟨_,rfl,_,by omega,E,C⟩
  ·go_wp2_with fail
   have u:=ae ((q9 l).alloc ly (Q #[U ⟨#[97]⟩,U ⟨#[110,111,110,101]⟩,U ⟨#[]⟩,U ⟨#[120,32,121]⟩,U ⟨#[116,48]⟩] 9));have B:=ae (X.below u ly);have A:=ae (W.then (u.mono (by omega)));have g:(l.alloc (Q #[U ⟨#[97]⟩,U ⟨#[110,111,110,101]⟩,U ⟨#[]⟩,U ⟨#[120,32,121]⟩,U ⟨#[116,48]⟩] 9)).heap[l.heap.size]?=T (Q #[U ⟨#[97]⟩,U ⟨#[110,111,110,101]⟩,U ⟨#[]⟩,U ⟨#[120,32,121]⟩,U ⟨#[116,48]⟩] 9 (0,0)):=eT l _;have m:=ai g;have j:=ae g;clear u g;generalize l.alloc (Q #[U ⟨#[97]⟩,U ⟨#[110,111,110,101]⟩,U ⟨#[]⟩,U ⟨#[120,32,121]⟩,U ⟨#[116,48]⟩] 9)=WL at B A j m ⊢;refine(av R _ 5 _ B (by omega) (by omega) (by omega)).mono ?_;rintro e L ⟨z3,rfl,r,P,f,b⟩;obtain⟨s,rfl⟩:=nX r;have o:s<5:=by omega
   have E:=ae f;have C:=ae (A.trans b);obtain⟨sx,QL⟩:=mS ((b.block (l.heap.size) m (by omega)).trans j) s o;clear f b j B A;go_wp2;go_ret;exact⟨sx,rfl,_,by omega,E,C⟩
 ·go_enter Tryz.func61,Tryz.ntmps61
  go_wp2_with fail;generalize w.alloc (Q #[Y a0 n0 c0,Y a1 n1 c1] 29)=n at x H D ⊢;have M:=ae (QK.below x ly);have QN:Hid (Only R w n):=Only.of_below x;have l0:=ai H.out;have u:=ae ((q9 n).alloc ly (Q #[U ⟨#[97]⟩,U ⟨#[110,111,110,101]⟩,U ⟨#[]⟩,U ⟨#[120,32,121]⟩,U ⟨#[116,48]⟩] 9));have B:=ae (M.below u ly);have A:=ae (QN.then (u.mono (by omega)));have g:(n.alloc (Q #[U ⟨#[97]⟩,U ⟨#[110,111,110,101]⟩,U ⟨#[]⟩,U ⟨#[120,32,121]⟩,U ⟨#[116,48]⟩] 9)).heap[w.heap.size+1]?=T (Q #[U ⟨#[97]⟩,U ⟨#[110,111,110,101]⟩,U ⟨#[]⟩,U ⟨#[120,32,121]⟩,U ⟨#[116,48]⟩] 9 (0,0)):=(by rw[<-D];exact eT n _)
  have m:=ai g;have j:=ae g;clear u g;generalize n.alloc (Q #[U ⟨#[97]⟩,U ⟨#[110,111,110,101]⟩,U ⟨#[]⟩,U ⟨#[120,32,121]⟩,U ⟨#[116,48]⟩] 9)=WL at B A j m ⊢;refine(av R _ 5 _ B (by omega) (by omega) (by omega)).mono ?_;rintro e L ⟨z3,rfl,r,P,f,b⟩;obtain⟨s,rfl⟩:=nX r;have o:s<5:=by omega
  have E:=ae f;have C:=ae (A.trans b);obtain⟨sx,QL⟩:=mS ((b.block (w.heap.size+1) m (by omega)).trans j) s o;clear f b j B A;go_wp2;go_ret;exact⟨sx,rfl,_,by omega,E,C⟩
end Go.Proofs.YtamacmnikdejeaaGreatDoor.Vp
