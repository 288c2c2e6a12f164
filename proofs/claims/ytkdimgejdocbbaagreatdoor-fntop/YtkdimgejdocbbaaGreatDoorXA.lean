import Derived.Test.YtkdimgejdocbbaaGreatDoorYX
import Derived.Test.YtkdimgejdocbbaaGreatDoorYY
import Derived.Test.YtkdimgejdocbbaaGreatDoorYU
set_option maxRecDepth 100000
set_option maxHeartbeats 8000000
set_option linter.unusedSimpArgs false
open Go.Addr renaming mk->J
open Go.Value renaming slice->Y,string->U,int->N,agg->QE
open Option renaming none->Z,some->Q
open Go.Obj renaming cells->T
open Go.IntKind renaming i64->I
open Go renaming World->E,Value->QB,TypeId->QF
open Bool renaming false->D
open Go.Ending renaming returned->QD
namespace Go.Proofs.YtkdimgejdocbbaaGreatDoor.Vp
open RowKit Ca
theorem uq (R p b0 n0 c0 n1 c1:Nat)(a0:Option Addr)(f0:Nat->Source)(a1:Option Addr)(f1:Nat->Target)(w:E)(hR:Rd w R p)(hp:p<=19000)(hH:HSp b0 w a0 n0 f0 a1 n1 f1)(hg:∀ i,i<n1->1<=(f1 i).actN/\(f1 i).actN<=200)(hm0:n0<=100)(hm1:n1<=100):Calls Tryz.prog 116 #[.pointer (Q (J R 0 Z)),QE #[Y a0 n0 c0,Y a1 n1 c1]] w fun e w'=>DH w R (p+1100) e w':=by
 have HR:=ae hR;have FH:=hR.lt;obtain⟨hs,ht⟩:=hH.sl w (Agr.refl _ _);have HF:=ae hH.fit;have HG:=ae hg;have d:=ae hs;have HT:=ae ht;clear hs ht hH hg hR;obtain⟨FX,hi,FQ,F3,FV⟩:=IQ ix;obtain⟨DA,A,Fr,Fj,At⟩:=IQ ft;have A0:=ae (((Qs w).alloc lr (T #[Y a0 n0 c0,Y a1 n1 c1] 26)).alloc (by simp) (T #[Y Z 0 0,Y Z 0 0] 26));have FC:((w.alloc (T #[Y a0 n0 c0,Y a1 n1 c1] 26)).alloc (T #[Y Z 0 0,Y Z 0 0] 26)).heap.size=w.heap.size+2:=by simp
 have KR:Hid (((w.alloc (T #[Y a0 n0 c0,Y a1 n1 c1] 26)).alloc (T #[Y Z 0 0,Y Z 0 0] 26)).heap[w.heap.size+1]?=Q (T #[Y Z 0 0,Y Z 0 0] 26 (0,0))):=by have h2:=eL (w.alloc (T #[Y a0 n0 c0,Y a1 n1 c1] 26)) (T #[Y Z 0 0,Y Z 0 0] 26);rw[show(w.alloc (T #[Y a0 n0 c0,Y a1 n1 c1] 26)).heap.size=w.heap.size+1 by simp] at h2;exact h2
 go_enter Tryz.func116,Tryz.ntmps116;go_wp2_with fail;generalize (w.alloc (T #[Y a0 n0 c0,Y a1 n1 c1] 26)).alloc (T #[Y Z 0 0,Y Z 0 0] 26)=W at A0 FC KR ⊢;refine(fM a0 n0 c0 f0 a1 n1 c1 f1 ⟨#[]⟩ W (by omega) (by omega) (d.below A0 lr) (HT.below A0 lr) (fun i hi=>by have:=(HF i hi).1;unfold aS;omega)).mono ?_;rintro e t ⟨v0,v1,m,rfl,th,DE,hM,ph⟩;obtain⟨QG,c2,rfl⟩:=bh th;obtain⟨a5,c5,rfl⟩:=bh DE.own;have G1:=ae (vd hM HF);have N1:=ae (Dt hM HG);have Fw:=oL hM;have FE:=ia f0 ⟨#[]⟩ n0;clear hM d HT HF HG;generalize keepS f0 ⟨#[]⟩ n0=B at th FE ⊢;have hsz:=ph.size;have X1:=ae (pw (rr:=w.heap.size+1) (base:=w.heap.size+2) ((ph.block _ (by omega)).trans KR) (by omega) (by omega) (by omega) th DE);have B1:=ae ((A0.trans (ph.mono (by omega))).alloc (by omega) (T #[Y QG B.length c2,Y a5 m.length c5] 26));clear th DE ph A0 KR;have R1:=ae (HR.low B1 (by omega));have O1:Hid (Only R w (t.alloc (T #[Y QG B.length c2,Y a5 m.length c5] 26))):=Only.of_below B1;go_wp2_with fail;generalize t.alloc (T #[Y QG B.length c2,Y a5 m.length c5] 26)=W2 at X1 B1 R1 O1 ⊢;refine(aD R p 8 _ R1 (by omega) (by omega) (by omega)).mono ?_;rintro e s ⟨z,rfl,hz0',hz1',FF,Fh⟩;have l:=ae (X1.only Fh (by omega));have R2:=ae FF;have O2:=ae (O1.trans Fh);clear FF Fh X1 R1 O1 B1 FC HR;obtain⟨X,QK⟩:=l.cells;obtain⟨aq,bt⟩:=l.open
 have la:=l.lt;go_upto_block 0 with fail;go_cut [6,7] (fun _ _ wx=>∃ (b0:Option Addr) (m0 k0:Nat) (g0:Nat->Source) (b1:Option Addr) (m1 k1:Nat) (g1:Nat->Target) (q':Nat),q'<=p+1100/\Hid (wx.heap[t.heap.size]?=Q (T #[Y b0 m0 k0,Y b1 m1 k1] 26 (0,0)))/\Hid (wx.heap[w.heap.size+1]?=Q (T #[Y Z 0 0,Y Z 0 0] 26 (0,0)))/\Hid (HSp (w.heap.size+2) wx b0 m0 g0 b1 m1 g1)/\Hid (Rd wx R q')/\Hid (Only R w wx));case first =>
  have FM:z=0∨z=1∨z=2∨z=3∨z=4∨z=5∨z=6∨z=7:=by omega
  rcases FM with rfl | rfl | rfl | rfl | rfl | rfl | rfl | rfl
  ·go_wp2_with fail
   have FJ:=l.hi;refine bm (BxS (Y QG B.length c2) (Y a5 m.length c5) t.heap.size) 11 (by as_aux_lemma=>kernel_rfl) ?_;have d:=ae (ig (W:=s.drew) l.box)
   iterate 2
    refine bw 0 (v:=?_) rfl rfl (by as_aux_lemma=>kernel_rfl) (fun _ _ _ h=>h) rfl ?_ d ?_;rotate_left
    ·(intro wz QM;obtain⟨s0,s1⟩:=QM;go_simp)
     (try with_reducible rfl)
    (try simp only[Act.put,nzL])
   refine bw 3 (v:=?_) rfl rfl (by as_aux_lemma=>kernel_rfl) (fun _ _ _ h=>h) rfl ?_ d ?_;rotate_left
   ·(intro wz QM;obtain⟨s0,s1⟩:=QM;go_simp)
    (try with_reducible rfl)
   (try simp only[Act.put,nzL])
   refine zy (i:=2) (j:=4) rfl rfl (by as_aux_lemma=>kernel_rfl) (fun K b=>?h1) (fun K b=>?h2);case' h1 =>
    go_simp;have BQ:=ae (((Qs s).alloc lr (T #[U ⟨#[97]⟩,U ⟨#[122,122]⟩,U ⟨#[]⟩,U ⟨#[120,32,121]⟩,U ⟨#[116,48]⟩] 9)).drew);have XQ:=ae (l.below BQ lr);have RQ:=ae (R2.below BQ lr);have OQ:=ae (O2.then (BQ.mono (by omega)));have Fp:=eL s (T #[U ⟨#[97]⟩,U ⟨#[122,122]⟩,U ⟨#[]⟩,U ⟨#[120,32,121]⟩,U ⟨#[116,48]⟩] 9);have Fv:Hid ((s.alloc (T #[U ⟨#[97]⟩,U ⟨#[122,122]⟩,U ⟨#[]⟩,U ⟨#[120,32,121]⟩,U ⟨#[116,48]⟩] 9)).drew.heap[s.heap.size]?=Q (T #[U ⟨#[97]⟩,U ⟨#[122,122]⟩,U ⟨#[]⟩,U ⟨#[120,32,121]⟩,U ⟨#[116,48]⟩] 9 (0,0))):=Fp;have FZ:s.heap.size<(s.alloc (T #[U ⟨#[97]⟩,U ⟨#[122,122]⟩,U ⟨#[]⟩,U ⟨#[120,32,121]⟩,U ⟨#[116,48]⟩] 9)).drew.heap.size:=aC Fp;clear Fp d;refine b _ _ (fun _=>ig XQ.box) ?_;clear b K
    (try simp only[Act.put,nzL])
    refine ar (i:=4) rfl (by as_aux_lemma=>kernel_rfl) (fun K b=>?_);go_simp;go_at_call 57;refine(aD R _ 5 _ RQ (by omega) (by omega) (by omega)).mono ?_;rintro e WL ⟨z3,rfl,ex,ro,O,G⟩;obtain⟨m3,rfl⟩:=xT ex;have X4:=ae (XQ.only G (by omega));have R4:=ae O;have O4:=ae (OQ.trans G);obtain⟨sx,DQ⟩:=mE ((G.block s.heap.size FZ (by omega)).trans Fv) m3 (by omega);clear O G Fv XQ RQ OQ;refine b _ _ (fun _=>ig X4.box) ?_;clear b K
    (try simp only[Act.put,nzL])
   case' h2 =>
    go_simp;go_at_call 57;refine(aD R _ 5 _ (R2.below br.drew lr) (by omega) (by omega) (by omega)).mono ?_;rintro e QP ⟨z3,rfl,ex,ro,O,G⟩;obtain⟨m3,rfl⟩:=xT ex;have QJ:Hid (Only R s QP):=(Only.of_below br.drew).trans G;have C:=ae (l.only QJ (by omega));have R3:=ae O;have O3:=ae (O2.trans QJ);clear O G QJ d;have d:=ae (ig C.box);refine b _ _ (fun _=>d) ?_;clear b K
    (try simp only[Act.put,nzL])
    have hxl4:=C.lt;refine ar (i:=2) rfl (by as_aux_lemma=>kernel_rfl) (fun K b=>?_);go_simp;have BQ:=ae ((Qs QP).alloc lr (T #[U ⟨#[97]⟩,U ⟨#[122,122]⟩,U ⟨#[]⟩,U ⟨#[120,32,121]⟩,U ⟨#[116,48]⟩] 9));have X4:=ae (C.below BQ lr);have R4:=ae (R3.below BQ lr);have O4:=ae (O3.then (BQ.mono (by omega)));obtain⟨sx,DQ⟩:=mE (eL QP (T #[U ⟨#[97]⟩,U ⟨#[122,122]⟩,U ⟨#[]⟩,U ⟨#[120,32,121]⟩,U ⟨#[116,48]⟩] 9)) m3 (by omega);refine b _ _ (fun _=>ig X4.box) ?_;clear b K BQ d
    (try simp only[Act.put,nzL])
    generalize QP.alloc (T #[U ⟨#[97]⟩,U ⟨#[122,122]⟩,U ⟨#[]⟩,U ⟨#[120,32,121]⟩,U ⟨#[116,48]⟩] 9)=WL at X4 R4 O4 DQ ⊢
   all_goals
    have hm5:m3<5:=by omega
    have SQ:=ae X4.keepS;have d:=ae (SQ WL (fun j A _=>rfl))
    iterate 3
     refine df 5 rfl rfl (by as_aux_lemma=>kernel_rfl) (fun K b=>?_);go_simp;refine b _ _ (fun _=>d) ?_;clear b K
     (try simp only[Act.put,nzL])
    have Fm:=X4.lt;have hxi3:=X4.hi;refine ar (i:=8) rfl (by as_aux_lemma=>kernel_rfl) (fun K b=>?_);go_simp;have AB:=ae ((Qs WL).alloc lr (T #[U sx,U ⟨#[]⟩] 104));have XA:=ae (X4.below AB lr);have hz6:=AB.size;refine b _ _ (fun _=>SQ _ (fun j A _=>AB.block j A)) ?_;clear b K d
    (try simp only[Act.put,nzL])
    refine ar (i:=9) rfl (by as_aux_lemma=>kernel_rfl) (fun K b=>?_);refine bA rfl (.tmp 28) (.tmp 35) 23 rfl (w.heap.size+2) 104 FX (QE #[U ⟨#[]⟩,U ⟨#[]⟩]) 2 32 Tryz.underlying23 hi FQ F3 FV rfl (by decide) (Y QG B.length c2) B.length (B.flatMap bC) (by simp[Act.eval]) XA.src (J WL.heap.size 0 Z) 1 1 (bC ⟨sx,⟨#[]⟩⟩) (by simp[Act.eval]) rfl (fun j u hu=>cT WL _ _ _ j u hu) (by simp[bC,Value.oneCell']) (by unfold maxLen;omega) (by omega) (by omega) ?_;intro v' w7 QQ y _;obtain⟨a7,c7,rfl⟩:=bh QQ;have S7:=ae (SQ w7 (fun j A mv=>(y.block j (ll A AB.size) mv).trans (AB.block j A)));obtain⟨c8,b8⟩:=XA.addS (x:=⟨sx,⟨#[]⟩⟩) QQ y;have X9:=ae c8;have B9:=ae b8;clear QQ y c8 b8;refine b _ _ (fun _=>S7) ?_;clear b K
    (try simp only[Act.put,nzL])
    refine ar (i:=10) rfl (by as_aux_lemma=>kernel_rfl) (fun K b=>?_);go_simp;refine b _ _ (fun _=>S7) ?_;clear b K
    (try simp only[Act.put,nzL])
    obtain⟨s7,t7⟩:=S7.out;have f7:w7.frozen? (J t.heap.size 0 Z)=D:=by simp[World.frozen?,s7]
    have l7:=aC s7;clear s7;refine ar (i:=11) rfl (by as_aux_lemma=>kernel_rfl) (fun K b=>?_);go_simp;refine b _ _ (fun h=>absurd rfl h) ?_;clear b K
    (try simp only[Act.put,nzL])
    refine bJ (by as_aux_lemma=>kernel_rfl) ?_ _;have BB:=ae ((AB.mono (show w.heap.size+2<=WL.heap.size by omega)).trans B9.out);have R9:=ae (R4.low BB (by omega));have O9:=ae (O4.then (BB.mono (by omega)));clear t7 f7 l7 DQ;go_simp;generalize w7.setCell (J t.heap.size 0 Z) (Y a7 (B.length+1) c7)=W9 at X9 R9 O9 ⊢;have H:=ae X9.box;have QO:=ae X9.res;have QN:=ae (fo X9.src (by simp) X9.tgt rfl (by rw[cM];exact(by omega:B.length+1<=300)) (by omega) G1);clear X QK aq bt;go_wp2;go_meet;exact⟨_,_,_,_,_,_,_,_,_,by omega,H,QO,QN,R9,O9⟩
  ·by_cases hl:1<(m.length:Int)
   ·obtain⟨o,rfl⟩:=jt l.tgt.own (by omega)
    obtain⟨r0,r1,RR,rfl⟩:∃ r0 r1 RR,m=r0 :: r1 :: RR:=(by
     match m,hl with
     | [],h=>simp at h
     | [_],h=>simp at h
     | r0 :: r1 :: RR,_=>exact⟨r0,r1,RR,rfl⟩)
    have ld:(r0 :: r1 :: RR).length<=100:=by omega
    obtain⟨ka,Fs⟩:=bv l.tgt.own (j:=0) (u:=U r0.1.name) rfl;obtain⟨kb,FD⟩:=bv l.tgt.own (j:=1) (u:=Y (Q (J r0.2.1 0 Z)) r0.1.actN r0.2.2) rfl;obtain⟨kc,Bk⟩:=bv l.tgt.own (j:=2) (u:=U r1.1.name) rfl;obtain⟨kd,Fi⟩:=bv l.tgt.own (j:=3) (u:=Y (Q (J r1.2.1 0 Z)) r1.1.actN r1.2.2) rfl;have n7:=(l.tgt.own.lt o rfl).2;generalize P:(r0 :: r1 :: RR).length=nt at QK l hl ld Fw ⊢;have HL:=ae P;clear P;have Fl:0<nt:=by omega
    have FN:1<nt:=by omega
    have BA:=ae ((Qs s).alloc lr (T #[U r0.1.name,Y (Q (J r0.2.1 0 Z)) r0.1.actN r0.2.2] 108));have XA:=ae (l.below BA lr);have RA:=ae (R2.below BA lr);have FJ:=l.hi;have OA:=ae (O2.then (BA.mono (by omega)));have cc:∀ j,(s.alloc (T #[U r0.1.name,Y (Q (J r0.2.1 0 Z)) r0.1.actN r0.2.2] 108)).cell? (J o j Z)=s.cell? (J o j Z):=fun j=>BA.cell (p:=(J o j Z)) n7;have cf:∀ j,(s.alloc (T #[U r0.1.name,Y (Q (J r0.2.1 0 Z)) r0.1.actN r0.2.2] 108)).frozen? (J o j Z)=s.frozen? (J o j Z):=fun j=>BA.frozen (p:=(J o j Z)) n7;have KA:=ae ((cc 0).trans ka);have Fq:=ae ((cf 0).trans Fs);have KB:=ae ((cc 1).trans kb);have ur:=ae ((cf 1).trans FD);have KC:=ae ((cc 2).trans kc);have Fu:=ae ((cf 2).trans Bk);have KD:=ae ((cc 3).trans kd);have Fz:=ae ((cf 3).trans Fi);have KX:Hid ((s.alloc (T #[U r0.1.name,Y (Q (J r0.2.1 0 Z)) r0.1.actN r0.2.2] 108)).heap[s.heap.size]?=Q (T #[U r0.1.name,Y (Q (J r0.2.1 0 Z)) r0.1.actN r0.2.2] 108 (0,0))):=eL s _;have Ft:o≠s.heap.size:=by omega
    have FW:=BA.size;clear cc cf;go_wp2_with fail;generalize s.alloc (T #[U r0.1.name,Y (Q (J r0.2.1 0 Z)) r0.1.actN r0.2.2] 108)=WA at XA RA OA KA Fq KB ur KC Fu KD Fz KX FW ⊢;have Fk:=XA.cells.2;clear ka Fs kb FD kc Bk kd Fi BA X QK aq bt;refine bm (fun V=>V.cell? (J t.heap.size 1 Z)=Q (Y (Q (J o 0 Z)) nt c5)/\V.cell? (J o 2 Z)=Q (U r1.1.name)/\V.cell? (J o 3 Z)=Q (Y (Q (J r1.2.1 0 Z)) r1.1.actN r1.2.2)) 7 (by as_aux_lemma=>kernel_rfl) ?_;have d:Hid (WA.drew.cell? (J t.heap.size 1 Z)=Q (Y (Q (J o 0 Z)) nt c5)/\WA.drew.cell? (J o 2 Z)=Q (U r1.1.name)/\WA.drew.cell? (J o 3 Z)=Q (Y (Q (J r1.2.1 0 Z)) r1.1.actN r1.2.2)):=⟨Fk,KC,KD⟩
    iterate 6
     refine bw 0 (v:=?_) rfl rfl (by as_aux_lemma=>kernel_rfl) (fun _ _ _ h=>h) rfl ?_ d ?_;rotate_left
     ·(intro wz QM;obtain⟨s0,s1,s2⟩:=QM;go_simp)
      (try with_reducible rfl)
     (try simp only[Act.put,nzL])
    refine ar (i:=6) rfl (by as_aux_lemma=>kernel_rfl) (fun K b=>?_);go_simp;refine b _ _ (fun _=>d) ?_;clear b K
    (try simp only[Act.put,nzL])
    have z0:=Fq.out;have z1:=ur.out;have y0:=KA.out;have y1:=KB.out;have hgtA:o<WA.heap.size:=by omega
    refine ar (i:=7) rfl (by as_aux_lemma=>kernel_rfl) (fun K b=>?_);go_simp;refine b _ _ (fun h=>absurd rfl h) ?_;clear b K
    (try simp only[Act.put,nzL])
    refine bJ (by as_aux_lemma=>kernel_rfl) ?_ _;go_simp;have SW:=ae (((XA.sw HL.symm).set 0 (U r1.1.name)).set 1 (Y (Q (J r1.2.1 0 Z)) r1.1.actN r1.2.2)).drew;have n9:=(XA.tgt.own.lt o rfl).1;have BW:=ae ((((eI (w.heap.size+2) WA).setCell (p:=(J o 0 Z)) n9 (U r1.1.name)).setCell (p:=(J o 1 Z)) n9 (Y (Q (J r1.2.1 0 Z)) r1.1.actN r1.2.2)).drew);have kx:((WA.setCell (J o 0 Z) (U r1.1.name)).setCell (J o 1 Z) (Y (Q (J r1.2.1 0 Z)) r1.1.actN r1.2.2)).drew.heap[s.heap.size]?=Q (T #[U r0.1.name,Y (Q (J r0.2.1 0 Z)) r0.1.actN r0.2.2] 108 (0,0)):=((qh _ (J o 1 Z) _ s.heap.size (fun e=>Ft (Eq.symm e))).trans (qh _ (J o 0 Z) _ s.heap.size (fun e=>Ft (Eq.symm e)))).trans KX;clear d z0 z1 y0 y1 KA Fq KB ur KC Fu KD Fz KX Fk;generalize ((WA.setCell (J o 0 Z) (U r1.1.name)).setCell (J o 1 Z) (Y (Q (J r1.2.1 0 Z)) r1.1.actN r1.2.2)).drew=WB at SW BW kx ⊢;obtain⟨kc,Bk⟩:=bv SW.own (j:=2) (u:=U r1.1.name) rfl;obtain⟨kd,Fi⟩:=bv SW.own (j:=3) (u:=Y (Q (J r1.2.1 0 Z)) r1.1.actN r1.2.2) rfl;have n8:=SW.box;have kv:WB.cell? (J t.heap.size 1 Z)=Q (Y (Q (J o 0 Z)) nt c5):=by simp[World.cell?,n8]
    have M:WB.cell? (J s.heap.size 0 Z)=Q (U r0.1.name):=by simp[World.cell?,kx]
    have x1:WB.cell? (J s.heap.size 1 Z)=Q (Y (Q (J r0.2.1 0 Z)) r0.1.actN r0.2.2):=by simp[World.cell?,kx]
    have hgtB:o<WB.heap.size:=(SW.own.lt o rfl).2;have kv0:WB.cell? (J t.heap.size 0 Z)=Q (Y QG B.length c2):=by simp[World.cell?,n8]
    have l1:=aC n8;have F4:¬ o=t.heap.size:=by intro e;obtain⟨FY,Fo⟩:=dQ SW.own o rfl;rw[e] at Fo;have h3:=n8.symm.trans Fo;cases h3
    have hg1':¬ t.heap.size=o:=fun e=>F4 e.symm;have sm:=ae ((SW.set 2 (U r0.1.name)).set 3 (Y (Q (J r0.2.1 0 Z)) r0.1.actN r0.2.2))
    have QN:=ae (sm.fin rfl (L:=r1 :: r0 :: RR) (by rw[<-nH];rfl) HL.symm (by omega) (by have:=HL.out;simp only[o3] at this ⊢;omega) (by
     intro r hr;simp only[BC] at hr ⊢;rcases hr with h | h | h
     ·exact .inr (.inl h)
     ·exact .inl h
     ·exact .inr (.inr h)) G1)
    have BF:=ae ((BW.setCell (p:=(J o 2 Z)) n9 (U r0.1.name)).setCell (p:=(J o 3 Z)) n9 (Y (Q (J r0.2.1 0 Z)) r0.1.actN r0.2.2));have R9:=ae (RA.low BF (by omega));have O9:=ae (OA.then (BF.mono (show w.heap.size<=w.heap.size+2 by omega)));have H:=ae sm.box;have QO:=ae sm.res;clear n8 kx SW sm BF BW XA RA OA;go_wp2;go_meet;exact⟨_,_,_,_,_,_,_,_,_,by omega,H,QO,QN,R9,O9⟩
   ·skip
    have H:=ae l.box;have QO:=ae l.res;have QN:=ae (fo l.src rfl l.tgt rfl (by omega) (by omega) G1);go_wp2;go_meet;exact⟨_,_,_,_,_,_,_,_,_,by omega,H,QO,QN,R2,O2⟩
  ·by_cases hl:0<(m.length:Int)
   ·go_wp2_with fail
    obtain⟨o,rfl⟩:=jt l.tgt.own (by omega)
    obtain⟨r0,RR,rfl⟩:∃ r0 RR,m=r0 :: RR:=(by
     match m,hl with
     | [],h=>simp at h
     | r0 :: RR,_=>exact⟨r0,RR,rfl⟩)
    have ld:(r0 :: RR).length<=100:=by omega
    have kb:=(bv l.tgt.own (j:=1) (u:=Y (Q (J r0.2.1 0 Z)) r0.1.actN r0.2.2) rfl).1;have n7:=(l.tgt.own.lt o rfl).2;have n9:=(l.tgt.own.lt o rfl).1;have AC:=ae (l.tgt.act r0 (JN ..));have FK:=N1.out r0 (JN ..);have FO:=ae (G1 r0 (JN ..)).2;generalize P:(r0 :: RR).length=nt at QK l hl ld Fw ⊢;have HL:=ae P;clear P;have Fl:0<nt:=by omega
    have hRb:R<w.heap.size+2:=by omega
    refine bm (fun V=>V.heap[t.heap.size]?=Q (T #[Y QG B.length c2,Y (Q (J o 0 Z)) nt c5] 26 (0,0))/\V.cell? (J t.heap.size 1 Z)=Q (Y (Q (J o 0 Z)) nt c5)/\V.cell? (J o 1 Z)=Q (Y (Q (J r0.2.1 0 Z)) r0.1.actN r0.2.2)) 11 (by as_aux_lemma=>kernel_rfl) ?_;have d:Hid (s.drew.heap[t.heap.size]?=Q (T #[Y QG B.length c2,Y (Q (J o 0 Z)) nt c5] 26 (0,0))/\s.drew.cell? (J t.heap.size 1 Z)=Q (Y (Q (J o 0 Z)) nt c5)/\s.drew.cell? (J o 1 Z)=Q (Y (Q (J r0.2.1 0 Z)) r0.1.actN r0.2.2)):=⟨l.box,QK,kb⟩
    iterate 8
     refine bw 0 (v:=?_) rfl rfl (by as_aux_lemma=>kernel_rfl) (fun _ _ _ h=>h) rfl ?_ d ?_;rotate_left
     ·(intro wz QM;obtain⟨s0,s1,s2⟩:=QM;go_simp)
      (try with_reducible rfl)
     (try simp only[Act.put,nzL])
    refine ar (i:=8) rfl (by as_aux_lemma=>kernel_rfl) (fun K b=>?_);go_simp;go_at_call 145;refine(um R _ r0.2.1 r0.2.2 r0.1.actN r0.1.act _ (R2.below br.drew lr) (by omega) (AC.1.below br.drew lr) FK FO).mono ?_;rintro e QP ⟨L3,g3,d3,rfl,qr,_,hL3,F1,q3,hq3,O,G⟩;have QJ:Hid (Only R s QP):=(Only.of_below br.drew).trans G;have C:=ae (l.only QJ (by omega));have R3:=ae O;have O3:=ae (O2.trans QJ);have FG:QP.cell? (J o 1 Z)=Q (Y (Q (J r0.2.1 0 Z)) r0.1.actN r0.2.2):=(QJ.cell o 1 n7 (by omega)).trans kb;have z3:QP.frozen? (J o 1 Z)=D:=by obtain⟨FY,hc⟩:=C.tgt.type o rfl;simp[World.frozen?,hc]
    have hgt3:=ll n7 QJ.size;have SA:=ae (C.setA (n:=L3.length) (g:=g3) (c:=d3) (f:=ez L3) rfl HL.symm (jN (by have h:=qr;unfold IR at h;rw[yJ] at h;exact h)).1 (iX qr) (by have:s.heap.size<=g3:=qr.lt.1;have:=l.lt;have:=l.hi;omega) (by omega) (nF F1) (by omega) (by rw[HL.out];omega) G1);clear qr O G QJ d;have d:=ae (show QP.heap[t.heap.size]?=Q (T #[Y QG B.length c2,Y (Q (J o 0 Z)) nt c5] 26 (0,0))/\QP.cell? (J t.heap.size 1 Z)=Q (Y (Q (J o 0 Z)) nt c5)/\QP.cell? (J o 1 Z)=Q (Y (Q (J r0.2.1 0 Z)) r0.1.actN r0.2.2) from⟨C.box,C.cells.2,FG⟩);refine b _ _ (fun _=>d) ?_;clear b K
    (try simp only[Act.put,nzL])
    iterate 2
     refine df 9 rfl rfl (by as_aux_lemma=>kernel_rfl) (fun K b=>?_);go_simp;refine b _ _ (fun _=>d) ?_;clear b K
     (try simp only[Act.put,nzL])
    refine ar (i:=11) rfl (by as_aux_lemma=>kernel_rfl) (fun K b=>?_);go_simp;refine b _ _ (fun h=>absurd rfl h) ?_;clear b K
    (try simp only[Act.put,nzL])
    refine bJ (by as_aux_lemma=>kernel_rfl) ?_ _;obtain⟨hE,hB,hQ,fd⟩:=SA.out;have QN:=ae hE;have H:=ae hB;have QO:=ae hQ;have R4:=ae (R3.low fd (by omega));have O4:=ae (O3.then (fd.mono (show w.heap.size<=w.heap.size+2 by omega)));clear hE hB hQ fd SA d kb FG z3 hl X QK aq bt;go_simp;generalize QP.setCell (J o 1 Z) (Y (Q (J g3 0 Z)) L3.length d3)=W4 at QN H QO R4 O4 ⊢;go_wp2;go_meet;exact⟨_,_,_,_,_,_,_,_,_,by omega,H,QO,QN,R4,O4⟩
   ·skip
    have H:=ae l.box;have QO:=ae l.res;have QN:=ae (fo l.src rfl l.tgt rfl (by omega) (by omega) G1);go_wp2;go_meet;exact⟨_,_,_,_,_,_,_,_,_,by omega,H,QO,QN,R2,O2⟩
  ·by_cases hl:0<(B.length:Int)
   ·go_wp2_with fail
    obtain⟨gs,rfl⟩:=jt l.src (by omega)
    obtain⟨M,QH,rfl⟩:∃ M QH,B=M :: QH:=(by
     match B,hl with
     | [],h=>simp at h
     | M :: QH,_=>exact⟨M,QH,rfl⟩)
    have ld:(M :: QH).length<=100:=by omega
    generalize P:(M :: QH).length=nl at X l hl ld FE ⊢;have HL:=ae P;clear P;have Fl:0<nl:=by omega
    refine bm (BxS (Y (Q (J gs 0 Z)) nl c2) (Y a5 m.length c5) t.heap.size) 8 (by as_aux_lemma=>kernel_rfl) ?_;have d:=ae (ig (W:=s.drew) l.box)
    iterate 3
     refine bw 0 (v:=?_) rfl rfl (by as_aux_lemma=>kernel_rfl) (fun _ _ _ h=>h) rfl ?_ d ?_;rotate_left
     ·(intro wz QM;obtain⟨s0,s1⟩:=QM;go_simp)
      (try with_reducible rfl)
     (try simp only[Act.put,nzL])
    refine ar (i:=3) rfl (by as_aux_lemma=>kernel_rfl) (fun K b=>?_);go_simp;go_at_call 57;refine(aD R _ 2 _ (R2.below br.drew lr) (by omega) (by omega) (by omega)).mono ?_;rintro e QP ⟨z3,rfl,ex,ro,O,G⟩;obtain⟨m3,rfl⟩:=xT ex;have QJ:Hid (Only R s QP):=(Only.of_below br.drew).trans G;have C:=ae (l.only QJ (by omega));have R3:=ae O;have O3:=ae (O2.trans QJ);clear O G QJ d;have d:=ae (ig C.box);refine b _ _ (fun _=>d) ?_;clear b K
    (try simp only[Act.put,nzL])
    have FI:IntKind.i64.wrap (2000+(m3:Int))=2000+(m3:Int):=by rw[p9];omega
    refine ar (i:=4) rfl (by as_aux_lemma=>kernel_rfl) (fun K b=>?_);go_simp;refine b _ _ (fun _=>d) ?_;clear b K
    (try simp only[Act.put,nzL])
    refine ar (i:=5) rfl (by as_aux_lemma=>kernel_rfl) (fun K b=>?_);go_simp;go_at_call 60;refine(fw ⟨#[115]⟩ (2000+m3) _ (by show 1*(2000+m3)<=4000;omega) (by omega)).mono ?_;rintro e w4 ⟨tt,rfl,_,rfl⟩;refine b _ _ (fun _=>d) ?_;clear b K
    (try simp only[Act.put,nzL])
    have XL:Hid (SpX (w.heap.size+1) t.heap.size (w.heap.size+2) w4 (Y (Q (J gs 0 Z)) (M :: QH).length c2) (Y a5 m.length c5) (M :: QH) m):=by rw[HL.out];exact C
    have F0:=(XL.src.lt gs rfl).2;obtain⟨ky,kz⟩:=bv XL.src (j:=1) (u:=U M.text) rfl;obtain⟨x3,b3⟩:=XL.setS (j:=1) (LS':=⟨M.name,tt⟩ :: QH) (U tt) rfl rfl;clear XL;rw[HL.out] at x3;have X4:=ae x3;have B4:=ae b3;clear x3 b3
    iterate 2
     refine df 6 rfl rfl (by as_aux_lemma=>kernel_rfl) (fun K b=>?_);go_simp;refine b _ _ (fun _=>d) ?_;clear b K
     (try simp only[Act.put,nzL])
    refine ar (i:=8) rfl (by as_aux_lemma=>kernel_rfl) (fun K b=>?_);go_simp;refine b _ _ (fun h=>absurd rfl h) ?_;clear b K
    (try simp only[Act.put,nzL])
    refine bJ (by as_aux_lemma=>kernel_rfl) ?_ _;have R4:=ae (R3.low B4 (by omega));have O4:=ae (O3.then (B4.mono (show w.heap.size<=w.heap.size+2 by omega)));clear d ky kz hl;go_simp;generalize w4.setCell (J gs 1 Z) (U tt)=W4 at X4 R4 O4 ⊢;have H:=ae X4.box;have QO:=ae X4.res;have QN:=ae (fo X4.src HL.symm X4.tgt rfl (by have:=HL.out;simp only[o3] at this ⊢;omega) (by omega) G1);clear X QK aq bt;go_wp2;go_meet;exact⟨_,_,_,_,_,_,_,_,_,by omega,H,QO,QN,R4,O4⟩
   ·skip
    have H:=ae l.box;have QO:=ae l.res;have QN:=ae (fo l.src rfl l.tgt rfl (by omega) (by omega) G1);go_wp2;go_meet;exact⟨_,_,_,_,_,_,_,_,_,by omega,H,QO,QN,R2,O2⟩
  ·go_wp2_with fail
   go_loopw [7] (fun i wr=>∃ (k q:Nat) (v1:QB) (RQ:List TR),i=N I k/\k<=RQ.length/\q<=p+1+k/\RQ.length<=300/\Hid (SpX (w.heap.size+1) t.heap.size (w.heap.size+2) wr (Y QG B.length c2) v1 B RQ)/\Hid (GX RQ)/\Hid (Rd wr R q)/\Hid (Only R w wr)) (fun i _=>400 - (intOf i).toNat);case atStart=>exact⟨0,p+1,_,m,rfl,by omega,by omega,by omega,l,G1,R2,O2⟩
   case round =>
    clear l R2 O2 X QK aq bt G1 N1 la;obtain⟨k,q4,v1,m,rfl,hk,hq4,hk3,l,G1,R2,O2⟩:=hrel;obtain⟨s,rfl⟩:∃ s,s=wr:=⟨wr,rfl⟩
    obtain⟨a5,c5,rfl⟩:=bh l.tgt.own;have la:=l.lt;have hw1:IntKind.i64.wrap ((B.length:Int)+m.length)=(B.length:Int)+m.length:=by rw[p9];omega
    have hwk:IntKind.i64.wrap ((k:Int)+1)=(k:Int)+1:=by rw[p9];omega
    go_wp2_with fail;have SB:Hid (∀ V:E,V.heap[t.heap.size]?=Q (T #[Y QG B.length c2,Y a5 m.length c5] 26 (0,0))->V.heap[t.heap.size]?=Q (T #[Y QG B.length c2,Y a5 m.length c5] 26 (0,0))/\V.cell? (J t.heap.size 0 Z)=Q (Y QG B.length c2)/\V.cell? (J t.heap.size 1 Z)=Q (Y a5 m.length c5)):=fun V h=>⟨h,by simp[World.cell?,h],by simp[World.cell?,h]⟩
    refine wp_region_held_drew (S:=fun V=>V.heap[t.heap.size]?=Q (T #[Y QG B.length c2,Y a5 m.length c5] 26 (0,0))/\V.cell? (J t.heap.size 0 Z)=Q (Y QG B.length c2)/\V.cell? (J t.heap.size 1 Z)=Q (Y a5 m.length c5)) (by as_aux_lemma=>kernel_rfl) (SB s l.box) (fun hS=>?_);have d:=ae hS;clear hS
    iterate 8
     refine bS 0 (v:=?_) rfl rfl (by as_aux_lemma=>kernel_rfl) (fun _ _ _ h=>h) rfl ?_ d ?_;rotate_left
     ·(intro wz QM;obtain⟨s0,s1,s2⟩:=QM;go_simp)
      (try with_reducible rfl)
     (try simp only[Act.put,nzL])
    refine bN (i:=8) rfl (by as_aux_lemma=>kernel_rfl) (fun K b=>?_);go_simp;go_at_call 57;refine(aD R _ 2 _ (R2.below br.drew lr) (by omega) (by omega) (by omega)).mono ?_;rintro e QP ⟨z3,rfl,ex,ro,O,G⟩;obtain⟨m3,rfl⟩:=xT ex;have QJ:Hid (Only R s QP):=(Only.of_below br.drew).trans G;have C:=ae (l.only QJ (by omega));have R3:=ae O;have O3:=ae (O2.trans QJ);clear O G QJ d;have d:=ae (SB QP C.box);refine b _ _ d ?_;clear b K
    (try simp only[Act.put,nzL])
    have FI:IntKind.i64.wrap (200+(m3:Int))=200+(m3:Int):=by rw[p9];omega
    iterate 2
     refine oV 9 rfl rfl (by as_aux_lemma=>kernel_rfl) (fun K b=>?_);go_simp;refine b _ _ d ?_;clear b K
     (try simp only[Act.put,nzL])
    refine wpAnyH_done (by as_aux_lemma=>kernel_rfl) ?_ _;clear d SB;by_cases hlt:(B.length:Int)+m.length<200+(m3:Int)
    ·go_wp2_with fail
     have Fm:=C.lt;have SQ:=ae C.keepT;refine bm (BxT (Y QG B.length c2) (Y a5 m.length c5) t.heap.size) 13 (by as_aux_lemma=>kernel_rfl) ?_;have d:=ae (SQ QP.drew (fun j A _=>rfl))
     iterate 3
      refine bw 0 (v:=?_) rfl rfl (by as_aux_lemma=>kernel_rfl) (fun _ _ _ h=>h) rfl ?_ d ?_;rotate_left
      ·(intro wz QM;obtain⟨s0,s1⟩:=QM;go_simp)
       (try with_reducible rfl)
      (try simp only[Act.put,nzL])
     refine ar (i:=3) rfl (by as_aux_lemma=>kernel_rfl) (fun K b=>?_);go_simp;go_at_call 141;refine(gQ k (by omega) _).mono ?_;rintro e wl ⟨lb,rfl,hlb,fd⟩;have BL:Hid (Below QP.heap.size QP wl):=(Qs QP).drew.trans fd;clear fd d;have d:=ae (SQ wl (fun j A _=>BL.block j A));refine b _ _ (fun _=>d) ?_;clear b K
     (try simp only[Act.put,nzL])
     refine eK (i:=4) (v:=U (⟨#[117]⟩++lb)) rfl (by as_aux_lemma=>kernel_rfl) (by as_aux_lemma=>kernel_rfl) (by as_aux_lemma=>kernel_rfl) (by as_aux_lemma=>kernel_rfl) (fun _ _ _ h=>h) rfl ?_ d ?_
     ·intro wz _
      go_simp;omega
     (try simp only[Act.put,nzL])
     generalize (⟨#[117]⟩:ByteArray)++lb=tn;refine ar (i:=5) rfl (by as_aux_lemma=>kernel_rfl) (fun K b=>?_);go_simp;go_at_call 142;refine(bB _ _).mono ?_;rintro e wm ⟨rfl,FA⟩;have BM:=ae (BL.trans (FA.mono BL.size));clear FA d;have d:=ae (SQ wm (fun j A _=>BM.block j A));refine b _ _ (fun _=>d) ?_;clear b K
     (try simp only[Act.put,nzL])
     refine ar (i:=6) rfl (by as_aux_lemma=>kernel_rfl) (fun K b=>?_);go_simp;go_at_call 143;refine(bn _ _).mono ?_;rintro e QL ⟨rfl,n6⟩;have BN:=ae (BM.trans (n6.mono BM.size));clear n6 d BL BM;have FT:=BN.size;have BI:=ae (BN.alloc (by omega) (T #[N I 1,U ⟨#[107]⟩,N I 0,N I 15,U ⟨#[]⟩,N I 0] 188));have FU:=C.hi;have OI:=ae (pu QL (base:=w.heap.size+2) (by omega));have d:=ae (SQ QL (fun j A _=>BN.block j A));refine b _ _ (fun _=>d) ?_;clear b K d
     (try simp only[Act.put,nzL])
     have d:=ae (SQ _ (fun j A _=>BI.block j A))
     iterate 3
      refine df 7 rfl rfl (by as_aux_lemma=>kernel_rfl) (fun K b=>?_);go_simp;refine b _ _ (fun _=>d) ?_;clear b K
      (try simp only[Act.put,nzL])
     have Fd:(QL.alloc (T #[N I 1,U ⟨#[107]⟩,N I 0,N I 15,U ⟨#[]⟩,N I 0] 188)).heap.size=QL.heap.size+1:=by simp
     have AB:=ae (BI.alloc (by omega) (T #[U tn,Y (Q (J QL.heap.size 0 Z)) 2 2] 108));refine ar (i:=10) rfl (by as_aux_lemma=>kernel_rfl) (fun K b=>?_);go_simp;have XA:=ae (C.below AB lr);have OA:=ae (own_below OI (br.alloc lr (T #[U tn,Y (Q (J QL.heap.size 0 Z)) 2 2] 108)) lr);refine b _ _ (fun _=>SQ _ (fun j A _=>AB.block j A)) ?_;clear b K
     (try simp only[Act.put,nzL])
     refine ar (i:=11) rfl (by as_aux_lemma=>kernel_rfl) (fun K b=>?_);refine bA rfl (.tmp 106) (.tmp 115) 24 rfl (w.heap.size+2) 108 DA (QE #[U ⟨#[]⟩,Y Z 0 0]) 2 40 Tryz.underlying24 A Fr Fj At rfl (by decide) (Y a5 m.length c5) m.length (m.flatMap aV) (by simp[Act.eval]) XA.tgt.own (J (QL.heap.size+1) 0 Z) 1 1 (aV (⟨tn,2,lsI gv⟩,QL.heap.size,2)) (by simp[Act.eval]) rfl (fun j u hu=>kO (Fd) _ _ _ j u hu) (by simp[aV,Value.oneCell']) (by unfold maxLen;omega) (by omega) (by have:=XA.hi;have:=XA.lt;omega) ?_;intro v' w7 QQ y _;obtain⟨a7,c7,rfl⟩:=bh QQ;have S7:=ae (SQ w7 (fun j A mv=>(y.block j (ll A AB.size) mv).trans (AB.block j A)));obtain⟨c8,b8⟩:=XA.addT (x:=⟨tn,2,lsI gv⟩) (g:=QL.heap.size) (c:=2) (fun r hr e=>by have:=C.tgt.ltg r hr;omega) OA QQ y;have X9:=ae c8;have B9:=ae b8;clear QQ y c8 b8;refine b _ _ (fun _=>S7) ?_;clear b K
     (try simp only[Act.put,nzL])
     refine ar (i:=12) rfl (by as_aux_lemma=>kernel_rfl) (fun K b=>?_);go_simp;refine b _ _ (fun _=>S7) ?_;clear b K
     (try simp only[Act.put,nzL])
     obtain⟨s7,t7⟩:=S7.out;have f7:w7.frozen? (J t.heap.size 1 Z)=D:=by simp[World.frozen?,s7]
     have l7:=aC s7;clear s7;refine ar (i:=13) rfl (by as_aux_lemma=>kernel_rfl) (fun K b=>?_);go_simp;refine b _ _ (fun h=>absurd rfl h) ?_;clear b K
     (try simp only[Act.put,nzL])
     refine bJ (by as_aux_lemma=>kernel_rfl) ?_ _;go_wp2;have BB:=ae ((AB.mono (show w.heap.size+2<=QP.heap.size by omega)).trans B9.out);refine⟨⟨k+1,_,Y a7 (m.length+1) c7,m++[((⟨tn,2,lsI gv⟩,QL.heap.size,2):TR)],by go_num,by rw[cM];exact Nat.succ_le_succ hk,by omega,by rw[cM];exact(by omega:m.length+1<=300),X9,G1.add (r:=(⟨tn,2,lsI gv⟩,QL.heap.size,2)) (by show 2<=300;omega) nG,R3.low BB (by omega),O3.then (BB.mono (by omega))⟩,by simp[intOf];omega⟩
    ·have X:=la
     have QK:=la;have aq:=la;have bt:=la;have H:=ae C.box;have QO:=ae C.res;have QN:=ae (fo C.src rfl C.tgt rfl (by omega) (by omega) G1);clear X QK aq bt;go_wp2;go_meet;exact⟨_,_,_,_,_,_,_,_,_,by omega,H,QO,QN,R3,O3⟩
  ·go_wp2_with fail
   refine bm (BxT (Y QG B.length c2) (Y a5 m.length c5) t.heap.size) 14 (by as_aux_lemma=>kernel_rfl) ?_;have d:=ae (sY (W:=s.drew) l.box)
   iterate 3
    refine bw 0 (v:=?_) rfl rfl (by as_aux_lemma=>kernel_rfl) (fun _ _ _ h=>h) rfl ?_ d ?_;rotate_left
    ·(intro wz QM;obtain⟨s0,s1⟩:=QM;go_simp)
     (try with_reducible rfl)
    (try simp only[Act.put,nzL])
   refine ar (i:=3) rfl (by as_aux_lemma=>kernel_rfl) (fun K b=>?_);go_simp;go_at_call 57;refine(aD R _ 2 _ (R2.below br.drew lr) (by omega) (by omega) (by omega)).mono ?_;rintro e QP ⟨z3,rfl,ex,ro,O,G⟩;obtain⟨m3,rfl⟩:=xT ex;have QJ:Hid (Only R s QP):=(Only.of_below br.drew).trans G;have C:=ae (l.only QJ (by omega));have R3:=ae O;have O3:=ae (O2.trans QJ);clear O G QJ d;have d:=ae (sY C.box);refine b _ _ (fun _=>d) ?_;clear b K
   (try simp only[Act.put,nzL])
   have hw60:IntKind.i64.wrap (60+(m3:Int))=60+(m3:Int):=by rw[p9];omega
   refine ar (i:=4) rfl (by as_aux_lemma=>kernel_rfl) (fun K b=>?_);go_simp;refine b _ _ (fun _=>d) ?_;clear b K
   (try simp only[Act.put,nzL])
   refine ar (i:=5) rfl (by as_aux_lemma=>kernel_rfl) (fun K b=>?_);go_simp;go_at_call 60;refine(fw ⟨#[110]⟩ (60+m3) _ (by show 1*(60+m3)<=4000;omega) (by omega)).mono ?_;rintro e w4 ⟨tn,rfl,_,rfl⟩;refine b _ _ (fun _=>d) ?_;clear b K d
   (try simp only[Act.put,nzL])
   have SQ:=ae C.keepT;refine ar (i:=6) rfl (by as_aux_lemma=>kernel_rfl) (fun K b=>?_);go_simp;go_at_call 142;refine(bB _ _).mono ?_;rintro e wm ⟨rfl,Fx⟩;have BM:=ae Fx;clear Fx;refine b _ _ (fun _=>SQ wm (fun j A _=>BM.block j A)) ?_;clear b K
   (try simp only[Act.put,nzL])
   refine ar (i:=7) rfl (by as_aux_lemma=>kernel_rfl) (fun K b=>?_);go_simp;go_at_call 143;refine(bn _ _).mono ?_;rintro e QL ⟨rfl,n6⟩;have BN:=ae (BM.trans (n6.mono BM.size));clear n6 BM;have FT:=BN.size;have BI:=ae (BN.alloc (by omega) (T #[N I 1,U ⟨#[107]⟩,N I 0,N I 15,U ⟨#[]⟩,N I 0] 188));have FU:=C.hi;have Fm:=C.lt;have OI:=ae (pu QL (base:=w.heap.size+2) (by omega));refine b _ _ (fun _=>SQ QL (fun j A _=>BN.block j A)) ?_;clear b K
   (try simp only[Act.put,nzL])
   have d:=ae (SQ _ (fun j A _=>BI.block j A))
   iterate 3
    refine df 8 rfl rfl (by as_aux_lemma=>kernel_rfl) (fun K b=>?_);go_simp;refine b _ _ (fun _=>d) ?_;clear b K
    (try simp only[Act.put,nzL])
   have Fd:(QL.alloc (T #[N I 1,U ⟨#[107]⟩,N I 0,N I 15,U ⟨#[]⟩,N I 0] 188)).heap.size=QL.heap.size+1:=by simp
   have AB:=ae (BI.alloc (by omega) (T #[U tn,Y (Q (J QL.heap.size 0 Z)) 2 2] 108));refine ar (i:=11) rfl (by as_aux_lemma=>kernel_rfl) (fun K b=>?_);go_simp;have XA:=ae (C.below AB lr);have OA:=ae (own_below OI (br.alloc lr (T #[U tn,Y (Q (J QL.heap.size 0 Z)) 2 2] 108)) lr);refine b _ _ (fun _=>SQ _ (fun j A _=>AB.block j A)) ?_;clear b K
   (try simp only[Act.put,nzL])
   refine ar (i:=12) rfl (by as_aux_lemma=>kernel_rfl) (fun K b=>?_);refine bA rfl (.tmp 121) (.tmp 131) 24 rfl (w.heap.size+2) 108 DA (QE #[U ⟨#[]⟩,Y Z 0 0]) 2 40 Tryz.underlying24 A Fr Fj At rfl (by decide) (Y a5 m.length c5) m.length (m.flatMap aV) (by simp[Act.eval]) XA.tgt.own (J (QL.heap.size+1) 0 Z) 1 1 (aV (⟨tn,2,lsI gv⟩,QL.heap.size,2)) (by simp[Act.eval]) rfl (fun j u hu=>kO (Fd) _ _ _ j u hu) (by simp[aV,Value.oneCell']) (by unfold maxLen;omega) (by omega) (by have:=XA.hi;have:=XA.lt;omega) ?_;intro v' w7 QQ y _;obtain⟨a7,c7,rfl⟩:=bh QQ;have S7:=ae (SQ w7 (fun j A mv=>(y.block j (ll A AB.size) mv).trans (AB.block j A)));obtain⟨c8,b8⟩:=XA.addT (x:=⟨tn,2,lsI gv⟩) (g:=QL.heap.size) (c:=2) (fun r hr e=>by have:=C.tgt.ltg r hr;omega) OA QQ y;have X9:=ae c8;have B9:=ae b8;clear QQ y c8 b8;refine b _ _ (fun _=>S7) ?_;clear b K
   (try simp only[Act.put,nzL])
   refine ar (i:=13) rfl (by as_aux_lemma=>kernel_rfl) (fun K b=>?_);go_simp;refine b _ _ (fun _=>S7) ?_;clear b K
   (try simp only[Act.put,nzL])
   obtain⟨s7,t7⟩:=S7.out;have f7:w7.frozen? (J t.heap.size 1 Z)=D:=by simp[World.frozen?,s7]
   have l7:=aC s7;clear s7;refine ar (i:=14) rfl (by as_aux_lemma=>kernel_rfl) (fun K b=>?_);go_simp;refine b _ _ (fun h=>absurd rfl h) ?_;clear b K
   (try simp only[Act.put,nzL])
   refine bJ (by as_aux_lemma=>kernel_rfl) ?_ _;have BB:=ae ((AB.mono (show w.heap.size+2<=w4.heap.size by omega)).trans B9.out);have R9:=ae (R3.low BB (by omega));have O9:=ae (O3.then (BB.mono (by omega)));have G9:=ae (G1.add (r:=(⟨tn,2,lsI gv⟩,QL.heap.size,2)) (by show 2<=300;omega) nG);clear t7 f7 l7 d;go_simp;generalize w7.setCell (J t.heap.size 1 Z) (Y a7 (m.length+1) c7)=W9 at X9 R9 O9 ⊢;have H:=ae X9.box;have QO:=ae X9.res;have QN:=ae (fo X9.src rfl X9.tgt (by simp) (by omega) (by rw[cM];exact(by omega:m.length+1<=300)) G9);clear X QK aq bt;go_wp2;go_meet;exact⟨_,_,_,_,_,_,_,_,_,by omega,H,QO,QN,R9,O9⟩
  ·have BQ:=ae ((Qs s).alloc lr (T #[U ⟨#[97]⟩,Y Z 0 0] 108))
   have XQ:=ae (l.below BQ lr);go_wp2_with (at_builtin;refine bu _ rfl (.tmp 137) (.tmp 139) 24 rfl (w.heap.size+2) 108 DA (QE #[U ⟨#[]⟩,Y Z 0 0]) 2 40 Tryz.underlying24 A Fr Fj At rfl (by decide) (Y a5 m.length c5) m.length (m.flatMap aV) (by simp[Act.eval]) XQ.tgt.own (J s.heap.size 0 Z) 1 1 [U ⟨#[97]⟩,Y Z 0 0] (by simp[Act.eval]) rfl (fun j u hu=>cT s _ _ _ j u hu) (by simp[Value.oneCell']) (by unfold maxLen;omega) (by omega) (by have:=l.hi;simp;omega) ?_;intro v' QP QQ y _;obtain⟨a7,c7,rfl⟩:=bh QQ;obtain⟨hE,hB,hQ,fd⟩:=XQ.addNil QQ y (by omega) (by omega) G1.out;have QN:=ae hE;have Fy:=ae fd;have H:=ae hB;have QO:=ae hQ;have kb:=gS y XQ.tgt.type XQ.box (by decide);clear QQ y hE hB hQ fd X QK aq bt;have e0:QP.cell? (J t.heap.size 0 Z)=Q (Y QG B.length c2):=(by simp[World.cell?,kb]);have e1:QP.cell? (J t.heap.size 1 Z)=Q (Y a5 m.length c5):=(by simp[World.cell?,kb]);have f2:QP.frozen? (J t.heap.size 1 Z)=D:=(by simp[World.frozen?,kb]);have l1:=aC kb;have mv:=XQ.hi;clear kb);go_meet;exact⟨_,_,_,_,_,_,_,_,_,by omega,H,QO,QN,R2.low (BQ.mono (show w.heap.size+2<=s.heap.size by omega) |>.trans Fy.out) (by omega),O2.then ((BQ.mono (show w.heap.size<=s.heap.size by omega)).trans (Fy.mono (by omega)))⟩
  ·by_cases hl:1<(B.length:Int)
   ·go_wp2_with fail
    obtain⟨gs,rfl⟩:=jt l.src (by omega)
    obtain⟨M,x1,QH,rfl⟩:∃ M x1 QH,B=M :: x1 :: QH:=(by
     match B,hl with
     | [],h=>simp at h
     | [_],h=>simp at h
     | M :: x1 :: QH,_=>exact⟨M,x1,QH,rfl⟩)
    have F0:=(l.src.lt gs rfl).2;have kx:=(bv l.src (j:=0) (u:=U M.name) rfl).1;obtain⟨ky,kz⟩:=bv l.src (j:=2) (u:=U x1.name) rfl;obtain⟨x3,b3⟩:=l.setS (j:=2) (LS':=M :: ⟨M.name,x1.text⟩ :: QH) (U M.name) rfl rfl;have C:=ae x3;have B3:=ae b3;clear x3 b3;have ld:(M :: x1 :: QH).length<=100:=by omega
    have FP:(1:Int)<(M :: x1 :: QH).length:=hl;generalize P:(M :: x1 :: QH).length=nl at *;have HL:=ae P;clear P;have Fl:0<nl:=by omega
    have FN:1<nl:=by omega
    refine bm (fun V=>V.cell? (J t.heap.size 0 Z)=Q (Y (Q (J gs 0 Z)) nl c2)/\V.cell? (J gs 0 Z)=Q (U M.name)) 9 (by as_aux_lemma=>kernel_rfl) ?_;have d:Hid ((s.drew.cell? (J t.heap.size 0 Z)=Q (Y (Q (J gs 0 Z)) nl c2))/\s.drew.cell? (J gs 0 Z)=Q (U M.name)):=⟨X,kx⟩
    iterate 7
     refine bw 0 (v:=?_) rfl rfl (by as_aux_lemma=>kernel_rfl) (fun _ _ _ h=>h) rfl ?_ d ?_;rotate_left
     ·(intro wz QM;obtain⟨s0,s1⟩:=QM;go_simp)
      (try with_reducible rfl)
     (try simp only[Act.put,nzL])
    iterate 2
     refine df 7 rfl rfl (by as_aux_lemma=>kernel_rfl) (fun K b=>?_);go_simp;refine b _ _ (fun _=>d) ?_;clear b K
     (try simp only[Act.put,nzL])
    refine ar (i:=9) rfl (by as_aux_lemma=>kernel_rfl) (fun K b=>?_);go_simp;refine b _ _ (fun h=>absurd rfl h) ?_;clear b K
    (try simp only[Act.put,nzL])
    refine bJ (by as_aux_lemma=>kernel_rfl) ?_ _;have R3:=ae ((R2.low B3 (by omega)).below br.drew lr);have O3:=ae (O2.then ((B3.mono (show w.heap.size<=w.heap.size+2 by omega)).drew));have XD:=ae (C.below br.drew lr);clear d kx ky kz hl FP;go_simp;generalize (s.setCell (J gs 2 Z) (U M.name)).drew=W3 at XD R3 O3 ⊢;have H:=ae XD.box;have QO:=ae XD.res;have QN:=ae (fo XD.src HL.symm XD.tgt rfl (by have:=HL.out;simp only[o3] at this ⊢;omega) (by omega) G1);clear X QK aq bt;go_wp2;go_meet;exact⟨_,_,_,_,_,_,_,_,_,by omega,H,QO,QN,R3,O3⟩
   ·skip
    have H:=ae l.box;have QO:=ae l.res;have QN:=ae (fo l.src rfl l.tgt rfl (by omega) (by omega) G1);go_wp2;go_meet;exact⟨_,_,_,_,_,_,_,_,_,by omega,H,QO,QN,R2,O2⟩
 case rest =>
 clear l R2 O2 X QK aq bt la;obtain⟨b0,m0,k0,g0,b1,m1,k1,g1,q',hq',H,QO,QN,R9,O9⟩:=hcut;generalize wc=W9 at H QO QN R9 O9 ⊢;have kb:=H.out;have kr:=QO.out;have e0:W9.cell? (J t.heap.size 0 Z)=Q (Y b0 m0 k0):=by simp[World.cell?,kb]
 have e1:W9.cell? (J t.heap.size 1 Z)=Q (Y b1 m1 k1):=by simp[World.cell?,kb]
 have r0:W9.cell? (J (w.heap.size+1) 0 Z)=Q (Y Z 0 0):=by simp[World.cell?,kr]
 have r1:W9.cell? (J (w.heap.size+1) 1 Z)=Q (Y Z 0 0):=by simp[World.cell?,kr]
 have f0:W9.frozen? (J (w.heap.size+1) 0 Z)=D:=by simp[World.frozen?,kr]
 have f1:W9.frozen? (J (w.heap.size+1) 1 Z)=D:=by simp[World.frozen?,kr]
 have l0:=aC kr;have l1:=aC kb;clear kb kr;have BE:=ae (((eI w.heap.size W9).setCell (p:=(J (w.heap.size+1) 0 Z)) (AS _) (Y b0 m0 k0)).setCell (p:=(J (w.heap.size+1) 1 Z)) (AS _) (Y b1 m1 k1));have FL:=ae ((QN.agr ((dH (j:=0) (show w.heap.size+1<w.heap.size+2 by omega) (Y b0 m0 k0)).trans (dH (j:=1) (show w.heap.size+1<w.heap.size+2 by omega) (Y b1 m1 k1)))).mono (show w.heap.size<=w.heap.size+2 by omega));go_wp2;exact bp (v:=QE #[Y b0 m0 k0,Y b1 m1 k1]) (by simp[results,Tryz.results116,go_sem,r0,r1]) rfl ⟨_,_,_,_,_,_,_,_,rfl,FL,_,by omega,R9.low BE FH,O9.then BE⟩
theorem Du {w:E}{b:Nat}{s0 s1 d:ByteArray}{t:QF}{fz:Nat × Nat}(h:w.heap[b]?=Q (T #[U s0,U s1,U d] t fz))(f:s0.size<=5000)(h1:s1.size<=5000)(h2:d.size<=5000)(k:Nat)(g:k<3):∃ s:ByteArray,w.cell? (J b k Z)=Q (U s)/\s.size<=5000:=by
 match k,g with
 | 0,_=>exact⟨s0,by simp[World.cell?,h],f⟩
 | 1,_=>exact⟨s1,by simp[World.cell?,h],h1⟩
 | 2,_=>exact⟨d,by simp[World.cell?,h],h2⟩
 | j+3,h5=>exact absurd h5 (by omega)
theorem Dv {w:E}{d:Nat}{a0 a1:Option Addr}{c0 c1:Nat}{f:List Source}{b:List TR}(l:w.ownsRow d 104 2 (Y a0 f.length c0) f.length (f.flatMap bC))(k:TRow w d (Y a1 b.length c1) b)(g:SpG f b)(j:f.length<=300)(h1:b.length<=300):HSp d w a0 f.length (aP f) a1 b.length (bo (b.map (·.1)))/\∀ i,i<b.length->1<=(bo (b.map (·.1)) i).actN/\(bo (b.map (·.1)) i).actN<=200:=by
 refine⟨fo l rfl k rfl j h1 (fun r h=>⟨by have:=(g.t r h).2.1.2;omega,(g.t r h).2.2⟩),fun i hi=>?_⟩;have e:bo (b.map (·.1)) i=b[i].1:=by simp[bo,hi]
 rw[e];exact(g.t _ (gz hi)).2.1
theorem qk (R p:Nat)(w:E)(hR:Rd w R p)(hp:p<=9000):Calls Tryz.prog 55 #[.pointer (Q (J R 0 Z))] w fun e w'=>DH w R (p+6300) e w':=by
 have HR:=ae hR;have r:=hR.lt;clear hR;go_enter Tryz.func55,Tryz.ntmps55;go_wp2_with fail;have L:=ae ((Qs w).alloc lr (T #[Y Z 0 0,Y Z 0 0] 26));have QK:Hid ((w.alloc (T #[Y Z 0 0,Y Z 0 0] 26)).heap[w.heap.size]?=Q (T #[Y Z 0 0,Y Z 0 0] 26 (0,0))):=eL w _;have n6:(w.alloc (T #[Y Z 0 0,Y Z 0 0] 26)).heap.size=w.heap.size+1:=by simp
 generalize w.alloc (T #[Y Z 0 0,Y Z 0 0] 26)=W0 at L QK n6 ⊢;refine(aD R p 24 _ (HR.below L lr) (by omega) (by omega) (by omega)).mono ?_;rintro e w1 ⟨z,rfl,hz0',hz1',O,u⟩;have G:=ae O;have QM:=ae ((Only.of_below L).trans u:Only R w w1);have QN:=ae ((u.block w.heap.size (by omega) (by omega)).trans QK);have hs1:=u.size;clear O u L QK;by_cases hk:z=0
 ·subst hk
  go_wp2_with fail;refine(aD R _ 3 _ G (by omega) (by omega) (by omega)).mono ?_;rintro e b ⟨z2,rfl,bt,h21,o,f⟩;obtain⟨B,rfl⟩:=xT bt;have l:=ae o;have k:=ae (QM.trans f);have g:=ae ((f.block w.heap.size (by omega) (by omega)).trans QN);have aq:=f.size;clear o f G QM QN;have hw1:IntKind.i64.wrap (60+(B:Int))=60+(B:Int):=by rw[p9];omega
  have hw2:IntKind.i64.wrap (60+(B:Int) - 1)=59+(B:Int):=by rw[p9];omega
  go_wp2_with fail;have QO:=ae ((Qs b).alloc lr (T #[U ⟨#[97]⟩,U ⟨#[110,111,110,101]⟩,U ⟨#[116,48,48,48]⟩] 9));have W:=ae (l.below QO lr);have QJ:=ae (k.then (QO.mono (by omega)));have KL:=ae ((QO.block w.heap.size (by omega)).trans g);have QQ:(b.alloc (T #[U ⟨#[97]⟩,U ⟨#[110,111,110,101]⟩,U ⟨#[116,48,48,48]⟩] 9)).heap[b.heap.size]?=Q (T #[U ⟨#[97]⟩,U ⟨#[110,111,110,101]⟩,U ⟨#[116,48,48,48]⟩] 9 (0,0)):=eL b _;have t:=aC QQ;have QP:=ae QQ;clear QO QQ l k g;generalize b.alloc (T #[U ⟨#[97]⟩,U ⟨#[110,111,110,101]⟩,U ⟨#[116,48,48,48]⟩] 9)=WL at W QJ KL QP t ⊢;refine(aD R _ 3 _ W (by omega) (by omega) (by omega)).mono ?_;rintro e s ⟨z3,rfl,la,h31,q,d⟩;obtain⟨m3,rfl⟩:=xT la;have mv:m3<3:=by omega
  have K:=ae q;have M:=ae (QJ.trans d);have H:=ae ((d.block w.heap.size (by omega) (by omega)).trans KL);obtain⟨sx,ex,fd⟩:=Du ((d.block b.heap.size t (by omega)).trans QP) (MN rfl) (MN rfl) (MN rfl) m3 mv;have hs4:=d.size;clear q d QP W QJ KL;go_wp2_with fail;refine(uo (59+B) (by omega) sx fd _).mono ?_;rintro e C ⟨a0,n0,c0,f0,a1,n1,c1,f1,rfl,QL,x⟩;have H4:=ae (QL.mono (show w.heap.size+1<=s.heap.size by omega));have R4:=ae (K.below x lr);have O4:=ae (M.then (x.mono (by omega)));have K4:=ae ((x.block w.heap.size (by omega)).trans H);clear QL x K M H ex;have kr:=K4.out;have r0:C.cell? (J w.heap.size 0 Z)=Q (Y Z 0 0):=by simp[World.cell?,kr]
  have r1:C.cell? (J w.heap.size 1 Z)=Q (Y Z 0 0):=by simp[World.cell?,kr]
  have f0:C.frozen? (J w.heap.size 0 Z)=D:=by simp[World.frozen?,kr]
  have f1:C.frozen? (J w.heap.size 1 Z)=D:=by simp[World.frozen?,kr]
  have l0:=aC kr;clear kr;have n:=ae (((eI w.heap.size C).setCell (p:=(J w.heap.size 0 Z)) lr (Y a0 n0 c0)).setCell (p:=(J w.heap.size 1 Z)) lr (Y a1 n1 c1));have m:=ae ((H4.agr ((dH (j:=0) (lj w.heap.size) (Y a0 n0 c0)).trans (dH (j:=1) (lj w.heap.size) (Y a1 n1 c1)))).mono (AS w.heap.size));go_wp2;exact bp (v:=QE #[Y a0 n0 c0,Y a1 n1 c1]) (by simp[results,Tryz.results55,go_sem,r0,r1]) rfl ⟨_,_,_,_,_,_,_,_,rfl,m,_,by omega,R4.low n r,O4.then n⟩
 ·go_wp2_with fail
  refine(xr R _ _ G (by omega)).mono ?_;rintro e b ⟨i,h,v0,v1,rfl,S,V,hG,hl0,hl1,q2,hq2,o,f⟩;obtain⟨a0,c0,rfl⟩:=bh S;obtain⟨a1,c1,rfl⟩:=bh V.own;obtain⟨hh,hg⟩:=Dv S V hG (by omega) (by omega);have A:=ae (hh.mono (show w.heap.size+1<=w1.heap.size+2 by omega));have HG:=ae hg;have l:=ae o;have k:=ae (QM.trans f);have g:=ae ((f.block w.heap.size (by omega) (by omega)).trans QN);have aq:=f.size;clear S V hG hh hg o f G QM QN;by_cases hk3:z<3
  ·have y:=ae ((Qs b).alloc lr (T #[Y a0 i.length c0,Y a1 h.length c1] 26))
   have A:=ae (A.agr (dB y lr));have l:=ae (l.below y lr);have k:=ae (k.then (y.mono (by omega)));have g:=ae ((y.block w.heap.size (by omega)).trans g);have t:=y.size;clear y;go_wp2_with fail;generalize b.alloc (T #[Y a0 i.length c0,Y a1 h.length c1] 26)=WS at A l k g t ⊢;refine(uq R q2 (w.heap.size+1) i.length c0 h.length c1 a0 _ a1 _ _ l (by omega) A HG (by omega) (by omega)).mono ?_;rintro e s ⟨b0,m0,X,g0,b1,QG,QH,g1,rfl,P,q3,hq3,q,d⟩;have H3:=ae (P.mono (show w.heap.size+1<=WS.heap.size by omega));have K:=ae q;have M:=ae (k.trans d);have H:=ae ((d.block w.heap.size (by omega) (by omega)).trans g);clear P q d A l k g HG;have kr:=H.out;have r0:s.cell? (J w.heap.size 0 Z)=Q (Y Z 0 0):=by simp[World.cell?,kr]
   have r1:s.cell? (J w.heap.size 1 Z)=Q (Y Z 0 0):=by simp[World.cell?,kr]
   have f0:s.frozen? (J w.heap.size 0 Z)=D:=by simp[World.frozen?,kr]
   have f1:s.frozen? (J w.heap.size 1 Z)=D:=by simp[World.frozen?,kr]
   have l0:=aC kr;clear kr;have n:=ae (((eI w.heap.size s).setCell (p:=(J w.heap.size 0 Z)) lr (Y b0 m0 X)).setCell (p:=(J w.heap.size 1 Z)) lr (Y b1 QG QH));have m:=ae ((H3.agr ((dH (j:=0) (lj w.heap.size) (Y b0 m0 X)).trans (dH (j:=1) (lj w.heap.size) (Y b1 QG QH)))).mono (AS w.heap.size));go_wp2;exact bp (v:=QE #[Y b0 m0 X,Y b1 QG QH]) (by simp[results,Tryz.results55,go_sem,r0,r1]) rfl ⟨_,_,_,_,_,_,_,_,rfl,m,_,by omega,K.low n r,M.then n⟩
  ·clear HG
   have kr:=g.out;have r0:b.cell? (J w.heap.size 0 Z)=Q (Y Z 0 0):=by simp[World.cell?,kr]
   have r1:b.cell? (J w.heap.size 1 Z)=Q (Y Z 0 0):=by simp[World.cell?,kr]
   have f0:b.frozen? (J w.heap.size 0 Z)=D:=by simp[World.frozen?,kr]
   have f1:b.frozen? (J w.heap.size 1 Z)=D:=by simp[World.frozen?,kr]
   have l0:=aC kr;clear kr;have ld:((b.setCell (J w.heap.size 0 Z) (Y a0 i.length c0)).setCell (J w.heap.size 1 Z) (Y a1 h.length c1)).heap.size=b.heap.size:=by simp
   have n:=ae ((((eI w.heap.size b).setCell (p:=(J w.heap.size 0 Z)) lr (Y a0 i.length c0)).setCell (p:=(J w.heap.size 1 Z)) lr (Y a1 h.length c1)).alloc (by omega) (T #[Y a0 i.length c0,Y a1 h.length c1] 26));have m:=ae ((A.agr (((dH (j:=0) (lj w.heap.size) (Y a0 i.length c0)).trans (dH (j:=1) (lj w.heap.size) (Y a1 h.length c1))).trans (dB (br.alloc lr (T #[Y a0 i.length c0,Y a1 h.length c1] 26)) lr))).mono (AS w.heap.size));clear ld;go_wp2;exact bp (v:=QE #[Y a0 i.length c0,Y a1 h.length c1]) (by simp[results,Tryz.results55,go_sem,r0,r1,l0]) rfl ⟨_,_,_,_,_,_,_,_,rfl,m,_,by omega,l.low n r,k.then n⟩
theorem jv (R p b0 n0 c0 n1 c1:Nat)(a0:Option Addr)(f0:Nat->Source)(a1:Option Addr)(f1:Nat->Target)(w:E)(hR:Rd w R p)(hp:p<=50000)(hb:R<b0)(hH:HSp b0 w a0 n0 f0 a1 n1 f1):Calls Tryz.prog 58 #[.pointer (Q (J R 0 Z)),QE #[Y a0 n0 c0,Y a1 n1 c1]] w fun e QK=>∃ t:ByteArray,e=QD (U t)/\∃ q:Nat,q<=p+3/\Rd QK R q/\Only R w QK:=by
 have W:=ae hR;have hlow:=hR.lt;have hn1:=hH.hn1;have HH:=ae hH;clear hR hH;have x:=ae ((Qs w).alloc lr (T #[Y a0 n0 c0,Y a1 n1 c1] 26));have B:Hid ((w.alloc (T #[Y a0 n0 c0,Y a1 n1 c1] 26)).heap[w.heap.size]?=Q (T #[Y a0 n0 c0,Y a1 n1 c1] 26 (0,0))):=eL w _;have QO:(w.alloc (T #[Y a0 n0 c0,Y a1 n1 c1] 26)).heap.size=w.heap.size+1:=by simp
 by_cases hn:0<(n1:Int)
 ·go_enter Tryz.func58,Tryz.ntmps58
  go_wp2_with fail;generalize w.alloc (T #[Y a0 n0 c0,Y a1 n1 c1] 26)=m at x B QO ⊢;have L:=ae (W.below x lr);have QN:Hid (Only R w m):=Only.of_below x;refine(aD R p 8 _ L (by omega) (by omega) (by omega)).mono ?_;rintro e j ⟨z,rfl,hz0',hz1',M,C⟩;have S:=ae M;have QG:=ae (QN.trans C);have K1:=ae ((C.block w.heap.size (by omega) (by omega)).trans B);clear M C L QN B x;have QL:=K1.out;have P:j.cell? (J w.heap.size 1 Z)=Q (Y a1 n1 c1):=by simp[World.cell?,QL]
  have l1:=aC QL;clear QL;by_cases hz:0<z
  ·go_wp2_with fail
   refine bm (fun V=>V.cell? (J w.heap.size 1 Z)=Q (Y a1 n1 c1)) 10 (by as_aux_lemma=>kernel_rfl) ?_;have H:Hid (j.drew.cell? (J w.heap.size 1 Z)=Q (Y a1 n1 c1)):=P
   iterate 6
    refine bw 0 (v:=?_) rfl rfl (by as_aux_lemma=>kernel_rfl) (fun _ _ _ h=>h) rfl ?_ H ?_;rotate_left
    ·(intro wz s0;go_simp)
     (try with_reducible rfl)
    (try simp only[Act.put,nzL])
   refine ar (i:=6) rfl (by as_aux_lemma=>kernel_rfl) (fun K QP=>?_);go_simp;go_at_call 57;refine(aD R _ (n1:Int) _ (S.below br.drew lr) (by omega) (by omega) (by omega)).mono ?_;rintro e G ⟨z3,rfl,n,QM,d,b⟩;obtain⟨l,rfl⟩:=xT n;have X:Hid (Only R j G):=(Only.of_below br.drew).trans b;have QQ:=ae d;have A:=ae (QG.trans X);have o:l<n1:=by omega
   clear d b H;have H:Hid (G.cell? (J w.heap.size 1 Z)=Q (Y a1 n1 c1)):=(X.cell w.heap.size 1 l1 (by omega)).trans P;rcases(HH.sl G (A.agr hb)).2 with h0 | ⟨tb,tof,rfl,y⟩
   ·omega
   have kn:=(y.2 l o).1;have hl:=y.1;clear y P;refine QP _ _ (fun _=>H) ?_;clear QP K
   (try simp only[Act.put,nzL])
   iterate 4
    refine df 7 rfl rfl (by as_aux_lemma=>kernel_rfl) (fun K QP=>?_);go_simp;refine QP _ _ (fun _=>H) ?_;clear QP K
    (try simp only[Act.put,nzL])
   refine bJ (by as_aux_lemma=>kernel_rfl) ?_ _;go_wp2;go_ret;exact⟨_,rfl,_,by omega,QQ,A⟩
  ·go_wp2_with fail
   have s:=ae ((Qs j).alloc lr (T #[U ⟨#[97]⟩,U ⟨#[110,111,110,101]⟩,U ⟨#[]⟩,U ⟨#[120,32,121]⟩,U ⟨#[116,48]⟩] 9));have u:=ae (S.below s lr);have r:=ae (QG.then (s.mono (by omega)));have f:(j.alloc (T #[U ⟨#[97]⟩,U ⟨#[110,111,110,101]⟩,U ⟨#[]⟩,U ⟨#[120,32,121]⟩,U ⟨#[116,48]⟩] 9)).heap[j.heap.size]?=Q (T #[U ⟨#[97]⟩,U ⟨#[110,111,110,101]⟩,U ⟨#[]⟩,U ⟨#[120,32,121]⟩,U ⟨#[116,48]⟩] 9 (0,0)):=eL j _;have k:=aC f;have g:=ae f;clear s f;generalize j.alloc (T #[U ⟨#[97]⟩,U ⟨#[110,111,110,101]⟩,U ⟨#[]⟩,U ⟨#[120,32,121]⟩,U ⟨#[116,48]⟩] 9)=QH at u r g k ⊢;refine(aD R _ 5 _ u (by omega) (by omega) (by omega)).mono ?_;rintro e G ⟨z3,rfl,n,QM,d,b⟩;obtain⟨l,rfl⟩:=xT n;have o:l<5:=by omega
   have QQ:=ae d;have A:=ae (r.trans b);obtain⟨O,QJ⟩:=mE ((b.block (j.heap.size) k (by omega)).trans g) l o;clear d b g u r;go_wp2;go_ret;exact⟨O,rfl,_,by omega,QQ,A⟩
 ·go_enter Tryz.func58,Tryz.ntmps58
  go_wp2_with fail;generalize w.alloc (T #[Y a0 n0 c0,Y a1 n1 c1] 26)=m at x B QO ⊢;have L:=ae (W.below x lr);have QN:Hid (Only R w m):=Only.of_below x;have l0:=aC B.out;have s:=ae ((Qs m).alloc lr (T #[U ⟨#[97]⟩,U ⟨#[110,111,110,101]⟩,U ⟨#[]⟩,U ⟨#[120,32,121]⟩,U ⟨#[116,48]⟩] 9));have u:=ae (L.below s lr);have r:=ae (QN.then (s.mono (by omega)));have f:(m.alloc (T #[U ⟨#[97]⟩,U ⟨#[110,111,110,101]⟩,U ⟨#[]⟩,U ⟨#[120,32,121]⟩,U ⟨#[116,48]⟩] 9)).heap[w.heap.size+1]?=Q (T #[U ⟨#[97]⟩,U ⟨#[110,111,110,101]⟩,U ⟨#[]⟩,U ⟨#[120,32,121]⟩,U ⟨#[116,48]⟩] 9 (0,0)):=(by rw[<-QO];exact eL m _)
  have k:=aC f;have g:=ae f;clear s f;generalize m.alloc (T #[U ⟨#[97]⟩,U ⟨#[110,111,110,101]⟩,U ⟨#[]⟩,U ⟨#[120,32,121]⟩,U ⟨#[116,48]⟩] 9)=QH at u r g k ⊢;refine(aD R _ 5 _ u (by omega) (by omega) (by omega)).mono ?_;rintro e G ⟨z3,rfl,n,QM,d,b⟩;obtain⟨l,rfl⟩:=xT n;have o:l<5:=by omega
  have QQ:=ae d;have A:=ae (r.trans b);obtain⟨O,QJ⟩:=mE ((b.block (w.heap.size+1) k (by omega)).trans g) l o;clear d b g u r;go_wp2;go_ret;exact⟨O,rfl,_,by omega,QQ,A⟩
def DMk (w:E)(e:Ending)(b:E):Prop:=∃ (a0:Option Addr) (n0 c0:Nat) (f0:Nat->Source) (a1:Option Addr) (n1 c1:Nat) (f1:Nat->Target) (t:ByteArray),e=QD (.tuple #[QE #[Y a0 n0 c0,Y a1 n1 c1],U t])/\HSp w.heap.size b a0 n0 f0 a1 n1 f1/\Below w.heap.size w b
theorem qY (a:Option Addr)(n m:Nat)(w:E)(hn:(n:Int)<=1048576)(QH:n<=m)(s:ByteSl w a n):Calls Tryz.prog 92 #[Y a n m] w fun e QG=>DMk w e QG:=by
 have X:=ae s;clear s;go_enter Tryz.func92,Tryz.ntmps92;go_wp2_with fail;have z:=ae ((Qs w).alloc lr (T #[Y Z 0 0,Y Z 0 0] 26));have G:Hid ((w.alloc (T #[Y Z 0 0,Y Z 0 0] 26)).heap[w.heap.size]?=Q (T #[Y Z 0 0,Y Z 0 0] 26 (0,0))):=eL w _;have QK:(w.alloc (T #[Y Z 0 0,Y Z 0 0] 26)).heap.size=w.heap.size+1:=by simp
 generalize w.alloc (T #[Y Z 0 0,Y Z 0 0] 26)=W0 at z G QK ⊢;refine(kg a n m _ hn QH (X.below z lr)).mono ?_;rintro e QO ⟨R,rfl,hRz,o,k⟩;have M:=ae o;have L:=ae (z.trans (k.mono (by omega)));have O:=ae ((k.block w.heap.size (by omega)).trans G);have hs1:=k.size;have QL:=o.lt;clear o k z G;go_wp2_with fail;refine(qk R 0 _ M (by omega)).mono ?_;rintro e b ⟨a0,n0,c0,f0,a1,n1,c1,f1,rfl,QQ,q2,hq2,QP,l⟩;have hs2:=l.size;have r:=ae ((Qs b).alloc lr (T #[Y a0 n0 c0,Y a1 n1 c1] 26));have H:=ae (QP.below r lr);have QN:=L.trans (l.below (by omega) L.size);have y:=ae (QN.trans (r.mono QN.size));have x:=ae (QQ.agr (dB r lr));have A:=ae ((r.block w.heap.size (by omega)).trans ((l.block w.heap.size (by omega) (by omega)).trans O));have q:Hid ((b.alloc (T #[Y a0 n0 c0,Y a1 n1 c1] 26)).heap[b.heap.size]?=Q (T #[Y a0 n0 c0,Y a1 n1 c1] 26 (0,0))):=eL b _;have B:R<QO.heap.size:=QL;clear r QQ QP l QN L O M;go_upto_region 3 with fail;generalize b.alloc (T #[Y a0 n0 c0,Y a1 n1 c1] 26)=P at H y x A q ⊢;go_wp2_with fail;have SB:Hid (∀ V:E,V.heap[b.heap.size]?=Q (T #[Y a0 n0 c0,Y a1 n1 c1] 26 (0,0))->V.heap[b.heap.size]?=Q (T #[Y a0 n0 c0,Y a1 n1 c1] 26 (0,0))/\V.cell? (J b.heap.size 0 Z)=Q (Y a0 n0 c0)/\V.cell? (J b.heap.size 1 Z)=Q (Y a1 n1 c1)):=fun V h=>⟨h,by simp[World.cell?,h],by simp[World.cell?,h]⟩
 refine wp_region_held_drew (S:=fun V=>V.heap[b.heap.size]?=Q (T #[Y a0 n0 c0,Y a1 n1 c1] 26 (0,0))/\V.cell? (J b.heap.size 0 Z)=Q (Y a0 n0 c0)/\V.cell? (J b.heap.size 1 Z)=Q (Y a1 n1 c1)) (by as_aux_lemma=>kernel_rfl) (SB P q) (fun s=>?_);have f:=ae s;clear s
 iterate 3
  refine bS 0 (v:=?_) rfl rfl (by as_aux_lemma=>kernel_rfl) (fun _ _ _ h=>h) rfl ?_ f ?_;rotate_left
  ·(intro wz QJ;obtain⟨s0,s1,s2⟩:=QJ;go_simp)
   (try with_reducible rfl)
  (try simp only[Act.put,nzL])
 refine bN (i:=3) rfl (by as_aux_lemma=>kernel_rfl) (fun K d=>?_);go_simp;go_at_call 58;refine(jv R _ QO.heap.size n0 c0 n1 c1 a0 f0 a1 f1 _ (H.below br.drew lr) (by omega) B (x.agr (dB br.drew lr))).mono ?_;rintro e g ⟨t,rfl,q8,hq8,hR,C⟩;have u:Only R P g:=(Only.of_below br.drew).trans C;clear C f;have B8:=ae (y.trans (u.below (by omega) y.size));have H8:=ae (x.agr (u.agr B));have K8:=ae ((u.block w.heap.size (aC A) (by omega)).trans A);have W:=ae ((u.block b.heap.size (aC q) (by omega)).trans q);have R8:=ae hR;clear u hR y x A q H;have f:=ae (SB g W);refine d _ _ f ?_;clear d K
 (try simp only[Act.put,nzL])
 have HM:=ae (H8.mono (show w.heap.size+1<=QO.heap.size by omega));have kr:=K8.out;have r0:g.cell? (J w.heap.size 0 Z)=Q (Y Z 0 0):=by simp[World.cell?,kr]
 have r1:g.cell? (J w.heap.size 1 Z)=Q (Y Z 0 0):=by simp[World.cell?,kr]
 have f0:g.frozen? (J w.heap.size 0 Z)=D:=by simp[World.frozen?,kr]
 have f1:g.frozen? (J w.heap.size 1 Z)=D:=by simp[World.frozen?,kr]
 have l0:=aC kr;clear kr;refine bN (i:=4) rfl (by as_aux_lemma=>kernel_rfl) (fun K d=>?_);go_simp;clear f;have f:=ae (SB ((g.setCell (J w.heap.size 0 Z) (Y a0 n0 c0)).setCell (J w.heap.size 1 Z) (Y a1 n1 c1)) (((qh _ (J w.heap.size 1 Z) _ b.heap.size (by show b.heap.size≠w.heap.size;omega)).trans (qh _ (J w.heap.size 0 Z) _ b.heap.size (by show b.heap.size≠w.heap.size;omega))).trans W));refine d _ _ f ?_;clear d K
 (try simp only[Act.put,nzL])
 have BE:=ae ((B8.setCell (p:=(J w.heap.size 0 Z)) lr (Y a0 n0 c0)).setCell (p:=(J w.heap.size 1 Z)) lr (Y a1 n1 c1));have QM:=ae ((HM.agr ((dH (j:=0) (show w.heap.size<w.heap.size+1 by omega) (Y a0 n0 c0)).trans (dH (j:=1) (show w.heap.size<w.heap.size+1 by omega) (Y a1 n1 c1)))).mono (AS w.heap.size));refine bN (i:=5) rfl (by as_aux_lemma=>kernel_rfl) (fun K d=>?_);go_simp;refine d _ _ f ?_;clear d K
 (try simp only[Act.put,nzL])
 refine wpAnyH_done (by as_aux_lemma=>kernel_rfl) ?_ _;go_wp2;exact bp (v:=.tuple #[QE #[Y a0 n0 c0,Y a1 n1 c1],U t]) (by simp[results,Tryz.results92,go_sem,r0,r1]) rfl ⟨_,_,_,_,_,_,_,_,_,rfl,QM,BE⟩
theorem ti (a:Option Addr)(n b:Nat)(w:E)(q:(n:Int)<=1048576)(s:n<=b)(m:ByteSl w a n):Calls Tryz.prog 21 #[Y a n b] w fun e r=>DMk w e r:=by
 have d:=ae ((Qs w).alloc lr (T #[Y Z 0 0,Y Z 0 0] 26));have i:Hid ((w.alloc (T #[Y Z 0 0,Y Z 0 0] 26)).heap[w.heap.size]?=Q (T #[Y Z 0 0,Y Z 0 0] 26 (0,0))):=eL w _;have l:(w.alloc (T #[Y Z 0 0,Y Z 0 0] 26)).heap.size=w.heap.size+1:=by simp
 have g:=ae (qY a n b (w.alloc (T #[Y Z 0 0,Y Z 0 0] 26)) q s (m.below d lr));clear m;go_enter Tryz.func21,Tryz.ntmps21;go_wp2_with fail;generalize w.alloc (T #[Y Z 0 0,Y Z 0 0] 26)=u at d i l g ⊢;refine g.mono ?_;rintro e f ⟨a0,n0,c0,f0,a1,n1,c1,f1,t,rfl,hH,h⟩;have kr:=(h.block w.heap.size (by omega)).trans i;have r0:f.cell? (J w.heap.size 0 Z)=Q (Y Z 0 0):=by simp[World.cell?,kr]
 have r1:f.cell? (J w.heap.size 1 Z)=Q (Y Z 0 0):=by simp[World.cell?,kr]
 have f0':f.frozen? (J w.heap.size 0 Z)=D:=by simp[World.frozen?,kr]
 have f1':f.frozen? (J w.heap.size 1 Z)=D:=by simp[World.frozen?,kr]
 have l0:=aC kr;have o:=ae (((d.trans (h.mono (by omega))).setCell (p:=(J w.heap.size 0 Z)) lr (Y a0 n0 c0)).setCell (p:=(J w.heap.size 1 Z)) lr (Y a1 n1 c1));have k:=ae (((hH.mono (show w.heap.size+1<=u.heap.size by omega)).agr ((dH (j:=0) (show w.heap.size<w.heap.size+1 by omega) (Y a0 n0 c0)).trans (dH (j:=1) (show w.heap.size<w.heap.size+1 by omega) (Y a1 n1 c1)))).mono (AS w.heap.size));clear hH h kr g i d;go_wp2;exact bp (v:=.tuple #[QE #[Y a0 n0 c0,Y a1 n1 c1],U t]) (by simp[results,Tryz.results21,go_sem,r0,r1]) rfl ⟨_,_,_,_,_,_,_,_,_,rfl,k,o⟩
def DPS (w:E)(e:Ending)(b:E):Prop:=∃ (a0:Option Addr) (n0 c0:Nat) (f0:Nat->Source) (a1:Option Addr) (n1 c1:Nat) (f1:Nat->Target) (t tx:ByteArray),e=QD (.tuple #[QE #[Y a0 n0 c0,Y a1 n1 c1],U t,U tx])/\HSp w.heap.size b a0 n0 f0 a1 n1 f1/\Below w.heap.size w b
theorem Dw {w:E}{b:Nat}{s0 s1:ByteArray}{t:QF}{fz:Nat × Nat}(h:w.heap[b]?=Q (T #[U s0,U s1] t fz))(k:Nat)(d:k<2):∃ s,w.cell? (J b k Z)=Q (U s):=by
 match k,d with
 | 0,_=>exact⟨s0,by simp[World.cell?,h]⟩
 | 1,_=>exact⟨s1,by simp[World.cell?,h]⟩
 | j+2,h5=>exact absurd h5 (by omega)
theorem vi {w:E}{b:Nat}{u0 u1 v0 v1:QB}{t:QF}{fz:Nat × Nat}(h:w.heap[b]?=Q (T #[u0,u1] t fz)):((w.setCell (J b 0 Z) v0).setCell (J b 1 Z) v1).heap[b]?=Q (T #[v0,v1] t fz):=by simp[World.setCell,I5,h]
theorem cE {V:E}{b:Nat}{u0 u1:QB}{t:QF}(h:V.heap[b]?=Q (T #[u0,u1] t (0,0))):V.cell? (J b 0 Z)=Q u0/\V.cell? (J b 1 Z)=Q u1:=⟨by simp[World.cell?,h],by simp[World.cell?,h]⟩
theorem AY {V:E}{b:Nat}{u0 u1:QB}{t:QF}(h:V.heap[b]?=Q (T #[u0,u1] t (0,0))):V.frozen? (J b 0 Z)=D/\V.frozen? (J b 1 Z)=D/\b<V.heap.size:=⟨by simp[World.frozen?,h],by simp[World.frozen?,h],aC h⟩
structure PSt (w:E)(R h b:Nat)(a0:Option Addr)(n0 c0:Nat)(f0:Nat->Source)(a1:Option Addr)(n1 c1:Nat)(f1:Nat->Target)(u0 u1:QB)(V:E):Prop where
 bl:Below w.heap.size w V
 sp:HSp h V a0 n0 f0 a1 n1 f1
 rb:V.heap[w.heap.size]?=Q (T #[u0,u1] 26 (0,0))
 sb:V.heap[b]?=Q (T #[Y a0 n0 c0,Y a1 n1 c1] 26 (0,0))
 hR:w.heap.size<R/\R<h/\h<=b
section
variable {w V QJ:E}{R h b:Nat}{a0 a1:Option Addr}{n0 c0 n1 c1:Nat}{f0:Nat->Source}{f1:Nat->Target}{u0 u1:QB}
theorem PSt.on (s:PSt w R h b a0 n0 c0 f0 a1 n1 c1 f1 u0 u1 V)(d:Only R V QJ):PSt w R h b a0 n0 c0 f0 a1 n1 c1 f1 u0 u1 QJ :=
 have k:=s.hR
 ⟨s.bl.trans (d.below (by omega) s.bl.size),s.sp.agr (d.agr k.2.1),(d.block _ (aC s.rb) (by omega)).trans s.rb,(d.block _ (aC s.sb) (by omega)).trans s.sb,k⟩
theorem PSt.be (s:PSt w R h b a0 n0 c0 f0 a1 n1 c1 f1 u0 u1 V)(d:Below V.heap.size V QJ):PSt w R h b a0 n0 c0 f0 a1 n1 c1 f1 u0 u1 QJ:=s.on (Only.of_below d)
theorem PSt.put (s:PSt w R h b a0 n0 c0 f0 a1 n1 c1 f1 u0 u1 V)(f d:QB):PSt w R h b a0 n0 c0 f0 a1 n1 c1 f1 f d ((V.setCell (J w.heap.size 0 Z) f).setCell (J w.heap.size 1 Z) d) :=
 have k:=s.hR;have g:Only w.heap.size V ((V.setCell (J w.heap.size 0 Z) f).setCell (J w.heap.size 1 Z) d):=bZ (bZ (Only.refl _ _) 0 f) 1 d
 ⟨s.bl.trans (g.below lr s.bl.size),s.sp.agr (g.agr (by omega)),vi s.rb,(g.block _ (aC s.sb) (by omega)).trans s.sb,k⟩
theorem PSt.big (s:PSt w R h b a0 n0 c0 f0 a1 n1 c1 f1 u0 u1 V):h<=V.heap.size:=by have:=aC s.sb;have:=s.hR;omega
end
theorem mr (a:Option Addr)(n L:Nat)(w:E)(hn:(n:Int)<=1048576)(hc:n<=L)(hS:ByteSl w a n):Calls Tryz.prog 9 #[Y a n L] w fun e w'=>DPS w e w':=by
 have S0:=ae hS;clear hS;go_enter Tryz.func9,Tryz.ntmps9;go_wp2_with fail;have O:=ae ((Qs w).alloc lr (T #[Y Z 0 0,Y Z 0 0] 26));have QG:Hid ((w.alloc (T #[Y Z 0 0,Y Z 0 0] 26)).heap[w.heap.size]?=Q (T #[Y Z 0 0,Y Z 0 0] 26 (0,0))):=eL w _;have bt:(w.alloc (T #[Y Z 0 0,Y Z 0 0] 26)).heap.size=w.heap.size+1:=by simp
 generalize w.alloc (T #[Y Z 0 0,Y Z 0 0] 26)=W0 at O QG bt ⊢;refine(kg a n L _ hn hc (S0.below O lr)).mono ?_;rintro e P ⟨R,rfl,hRz,M,H⟩;have R1:=ae M;have B1:=ae (O.trans (H.mono (by omega)));have K1:=ae ((H.block w.heap.size (by omega)).trans QG);have hs1:=H.size;have QP:=M.lt;clear M H O QG;go_wp2_with fail;refine(qk R 0 _ R1 (by omega)).mono ?_;rintro e G ⟨a0,n0,c0,f0,a1,n1,c1,f1,rfl,QK,q2,hq2,QL,QO⟩;have aq:=QO.size;have QN:=(Qs G).alloc lr (T #[Y a0 n0 c0,Y a1 n1 c1] 26);have QH:=B1.trans (QO.below (by omega) B1.size);have C:Hid (PSt w R P.heap.size G.heap.size a0 n0 c0 f0 a1 n1 c1 f1 (Y Z 0 0) (Y Z 0 0) (G.alloc (T #[Y a0 n0 c0,Y a1 n1 c1] 26))):=⟨QH.trans (QN.mono QH.size),QK.agr (dB QN lr),(QN.block w.heap.size (by omega)).trans ((QO.block w.heap.size (by omega) (by omega)).trans K1),eL G _,by omega,QP,aq⟩
 have f:=ae (QL.below QN lr);clear QK QL QO QH QN R1 B1 K1;go_wp2_with fail;generalize G.alloc (T #[Y a0 n0 c0,Y a1 n1 c1] 26)=WX at C f ⊢;generalize G.heap.size=b at C ⊢;refine(fx R _ _ f (by omega)).mono ?_;rintro e w3 ⟨nm,rfl,fd,hR,k⟩;replace C:=ae (C.on k);replace f:=ae hR;clear k hR;go_wp2_with fail;refine(aD R _ 10 _ f (by omega) (by omega) (by omega)).mono ?_;rintro e w4 ⟨z4,rfl,h40,h41,hR,k⟩;replace C:=ae (C.on k);replace f:=ae hR;clear k hR fd;go_upto_if 16 with fail;go_cut [7] (fun s wx=>∃ (t:ByteArray) (q:Nat),s=U t/\q<=q2+5/\Hid (Rd wx R q)/\Hid (PSt w R P.heap.size b a0 n0 c0 f0 a1 n1 c1 f1 (Y Z 0 0) (Y Z 0 0) wx));case first =>
  by_cases h4:z4=0
  ·subst h4
   obtain⟨W,QJ⟩:=cE C.sb;go_wp2_with fail;refine(jv R _ P.heap.size n0 c0 n1 c1 a0 f0 a1 f1 _ f (by omega) QP C.sp).mono ?_;rintro e w5 ⟨nm2,rfl,q5,hq5,hR,k⟩;clear W QJ;replace C:=ae (C.on k);replace f:=ae hR;clear k hR;go_wp2;go_meet;exact⟨_,_,rfl,by omega,f,C⟩
  ·go_wp2
   go_meet;exact⟨_,_,rfl,by omega,f,C⟩
 case rest =>
 clear C f;obtain⟨t,q,rfl,hq,f,C⟩:=hcut;go_wp2_with fail;refine(aD R _ 12 _ f (by omega) (by omega) (by omega)).mono ?_;rintro e w6 ⟨z6,rfl,ld,ex,hR,k⟩;replace C:=ae (C.on k);replace f:=ae hR;clear k hR;have hlo:=C.hR;have o:=ae C.sp;by_cases h6:z6=0;case' neg =>go_wp2_with fail;refine(aD R _ 20 _ f (by omega) (by omega) (by omega)).mono ?_;rintro e w6 ⟨z7,rfl,h70,h71,hR,k⟩;replace o:=ae (o.agr (k.agr QP));replace C:=ae (C.on k);replace f:=ae hR;clear k hR ld ex;have mark:=True.intro;by_cases h7:z7=0
 all_goals
  (try subst h6)
  (try subst h7)
  obtain⟨W,QJ⟩:=cE C.sb;go_wp2_with fail;clear W QJ;refine wp_region_held_drew (S:=fun V=>V.cell? (J b 0 Z)=Q _/\V.cell? (J b 1 Z)=Q _) (by as_aux_lemma=>kernel_rfl) (cE C.sb) (fun _=>?_);replace C:=ae (C.be br.drew);replace o:=ae (o.agr (dB br.drew lr));replace f:=ae (f.below br.drew lr);generalize w6.drew=v at C f o ⊢
  (try (clear mark;obtain⟨b0,rfl⟩:∃ x,x=a0:=⟨_,rfl⟩;obtain⟨A,rfl⟩:∃ x,x=a1:=⟨_,rfl⟩;obtain⟨m0,rfl⟩:∃ x,x=n0:=⟨_,rfl⟩;obtain⟨QQ,rfl⟩:∃ x,x=n1:=⟨_,rfl⟩;obtain⟨y,rfl⟩:∃ x,x=c0:=⟨_,rfl⟩;obtain⟨u,rfl⟩:∃ x,x=c1:=⟨_,rfl⟩))
  have l:=ae (cE C.sb);repeat' first
   | (refine iQ (i:=2) (j:=4) rfl rfl (by as_aux_lemma=>kernel_rfl) (fun K d=>?_) (fun K d=>?_))
   | (refine iQ (i:=3) (j:=4) rfl rfl (by as_aux_lemma=>kernel_rfl) (fun K d=>?_) (fun K d=>?_))
   | (refine iQ (i:=4) (j:=6) rfl rfl (by as_aux_lemma=>kernel_rfl) (fun K d=>?_) (fun K d=>?_))
   | (refine iQ (i:=4) (j:=9) rfl rfl (by as_aux_lemma=>kernel_rfl) (fun K d=>?_) (fun K d=>?_))
   | (refine iQ (i:=8) (j:=9) rfl rfl (by as_aux_lemma=>kernel_rfl) (fun K d=>?_) (fun K d=>?_))
   | (refine wpAnyH_done (by as_aux_lemma=>kernel_rfl) ?_ _;obtain⟨r0,r1⟩:=cE C.rb;go_wp2;first | (have:=p;exact bp (v:=.tuple #[QE #[Y b0 m0 y,Y A QQ u],U QM,U ⟨#[120]⟩]) (by simp[results,Tryz.results9,go_sem,r0,r1]) rfl ⟨_,_,_,_,_,_,_,_,_,_,rfl,o.mono (by omega),C.bl⟩) | exact bp (v:=.tuple #[QE #[Y b0 m0 y,Y A QQ u],U t,U QM]) (by simp[results,Tryz.results9,go_sem,r0,r1]) rfl ⟨_,_,_,_,_,_,_,_,_,_,rfl,o.mono (by omega),C.bl⟩)
   | (go_simp;go_at_call 57;refine(aD R _ 2 _ f (by omega) (by omega) (by omega)).mono ?_;rintro e v ⟨z,rfl,mv,hz1,hR,k⟩;obtain⟨m,rfl⟩:=xT mv;have hw20:IntKind.i64.wrap (2000+(m:Int))=2000+(m:Int):=(by rw[p9];omega);(try replace o:=ae (o.agr (k.agr QP)));(try replace p:=ae ((k.block g (aC p) (by omega)).trans p));replace C:=ae (C.on k);replace f:=ae hR;clear k hR;replace l:=ae (cE C.sb);refine d _ _ l ?_;clear d K;(try simp only[Act.put,nzL]))
   | (go_simp;go_at_call 59;refine(xq P.heap.size n0 c0 n1 c1 a0 f0 a1 f1 m _ (by omega) (by omega) C.sp).mono ?_;rintro e v ⟨b0,m0,y,g0,A,QQ,u,g1,rfl,hH,r⟩;replace o:=ae (hH.mono C.big);(try replace p:=ae ((r.block g (aC p)).trans p));replace C:=ae (C.be r);replace f:=ae (f.below r lr);clear hH r;replace l:=ae (cE C.sb);refine d _ _ l ?_;clear d K;(try simp only[Act.put,nzL]))
   | (go_simp;go_at_call 61;refine(fZ R _ _ f (by omega)).mono ?_;rintro e v ⟨QM,rfl,-,q8,hq8,hR,k⟩;replace o:=ae (o.agr (k.agr QP));replace C:=ae (C.on k);clear f k hR;replace l:=ae (cE C.sb);refine d _ _ l ?_;clear d K;(try simp only[Act.put,nzL]))
   | (go_simp;go_at_call 60;refine(fw ⟨#[112]⟩ (2000+m) _ (by show 1*(2000+m)<=4000;omega) (by omega)).mono ?_;rintro e w9 ⟨QM,rfl,-,hw⟩;rw[hw];clear hw;replace l:=ae (cE C.sb);refine d _ _ l ?_;clear d K;(try simp only[Act.put,nzL]))
   | (refine bS 0 (v:=?_) rfl rfl (by as_aux_lemma=>kernel_rfl) (fun _ _ _ h=>h) rfl ?_ l ?_;rotate_left;(focus (intro wz B;obtain⟨s0,s1⟩:=B;go_simp;(try with_reducible rfl);done));(try simp only[Act.put,nzL]))
   | (refine oV 0 rfl rfl (by as_aux_lemma=>kernel_rfl) (fun K d=>?_))
   | (refine bS 5 (v:=?_) rfl rfl (by as_aux_lemma=>kernel_rfl) (fun _ _ _ h=>h) rfl ?_ l ?_;rotate_left;(focus (intro wz B;obtain⟨s0,s1⟩:=B;go_simp;(try with_reducible rfl);done));(try simp only[Act.put,nzL]))
   | (refine bS 7 (v:=?_) rfl rfl (by as_aux_lemma=>kernel_rfl) (fun _ _ _ h=>h) rfl ?_ l ?_;rotate_left;(focus (intro wz B;obtain⟨s0,s1⟩:=B;go_simp;(try with_reducible rfl);done));(try simp only[Act.put,nzL]))
   | (refine oV 5 rfl rfl (by as_aux_lemma=>kernel_rfl) (fun K d=>?_))
   | (obtain⟨QM,la⟩:=Dw p m (by omega);go_simp;clear la;replace l:=ae (cE C.sb);refine d _ _ l ?_;clear d K;(try simp only[Act.put,nzL]))
   | (have p:Hid ((v.alloc (T #[U ⟨#[97]⟩,U ⟨#[122,110,101,119]⟩] 9)).heap[v.heap.size]?=Q (T #[U ⟨#[97]⟩,U ⟨#[122,110,101,119]⟩] 9 (0,0))):=eL v _;go_simp;have r:=(Qs v).alloc lr (T #[U ⟨#[97]⟩,U ⟨#[122,110,101,119]⟩] 9);(try replace o:=ae (o.agr (dB r lr)));have hg:=C.big;replace C:=ae (C.be r);(try replace f:=ae (f.below r lr));clear r;refine d _ (v.alloc (T #[U ⟨#[97]⟩,U ⟨#[122,110,101,119]⟩] 9)) (cE C.sb) ?_;replace l:=ae (cE C.sb);clear d K;generalize v.heap.size=g at p hg ⊢;generalize v.alloc (T #[U ⟨#[97]⟩,U ⟨#[122,110,101,119]⟩] 9)=v at *;(try simp only[Act.put,nzL]))
   | (obtain⟨r0,r1⟩:=cE C.rb;obtain⟨t0,t1,l0⟩:=AY C.rb;go_simp;clear r0 r1 t0 t1 l0;(try replace p:=ae (((qh _ (J w.heap.size 1 Z) (Y A QQ u) g (by show g≠w.heap.size;omega)).trans (qh v (J w.heap.size 0 Z) (Y b0 m0 y) g (by show g≠w.heap.size;omega))).trans p));replace o:=ae (o.agr ((dH (X:=w.heap.size) (w:=v) (j:=0) (by omega) (Y b0 m0 y)).trans (dH (X:=w.heap.size) (j:=1) (by omega) (Y A QQ u))));replace C:=ae (C.put (Y b0 m0 y) (Y A QQ u));(try clear f);replace l:=ae (cE C.sb);refine d _ ((v.setCell (J w.heap.size 0 Z) (Y b0 m0 y)).setCell (J w.heap.size 1 Z) (Y A QQ u)) l ?_;clear d K;generalize (v.setCell (J w.heap.size 0 Z) (Y b0 m0 y)).setCell (J w.heap.size 1 Z) (Y A QQ u)=v at *;(try simp only[Act.put,nzL]))
   | (go_simp;replace l:=ae (cE C.sb);refine d _ _ l ?_;clear d K;(try simp only[Act.put,nzL]))
def DPT (w:E)(e:Ending)(b:E):Prop:=∃ (a0:Option Addr) (n0 c0:Nat) (a1:Option Addr) (n1 c1:Nat) (t:ByteArray) (g m c:Nat) (f:Nat->Ins),e=QD (.tuple #[QE #[Y a0 n0 c0,Y a1 n1 c1],U t,QE #[Y (Q (J g 0 Z)) m c]])/\RowIns b g 0 m f/\m<=201/\(∀ j,j<m->(f j).s.size<=5000)/\Below w.heap.size w b
theorem Eu {w:E}{b g c:Nat}{L:List I3}(h:IR w b g c L):RowIns w g 0 L.length (ez L):=⟨h.lt.2,h.at⟩
theorem tj (a:Option Addr)(n r:Nat)(w:E)(hn:(n:Int)<=1048576)(hc:n<=r)(y:ByteSl w a n):Calls Tryz.prog 10 #[Y a n r] w fun e w'=>DPT w e w':=by
 have S0:=ae y;clear y;go_enter Tryz.func10,Tryz.ntmps10;go_wp2_with fail;have z:=ae (((Qs w).alloc lr (T #[Y Z 0 0,Y Z 0 0] 26)).alloc (by simp) (T #[Y Z 0 0] 31));have ex:((w.alloc (T #[Y Z 0 0,Y Z 0 0] 26)).alloc (T #[Y Z 0 0] 31)).heap.size=w.heap.size+2:=by simp
 have QO:Hid (((w.alloc (T #[Y Z 0 0,Y Z 0 0] 26)).alloc (T #[Y Z 0 0] 31)).heap[w.heap.size]?=Q (T #[Y Z 0 0,Y Z 0 0] 26 (0,0))):=by have h1:=(eI (w.alloc (T #[Y Z 0 0,Y Z 0 0] 26)).heap.size (w.alloc (T #[Y Z 0 0,Y Z 0 0] 26))).alloc lr (T #[Y Z 0 0] 31);exact(h1.block w.heap.size (by simp)).trans (eL w _)
 have QG:Hid (((w.alloc (T #[Y Z 0 0,Y Z 0 0] 26)).alloc (T #[Y Z 0 0] 31)).heap[w.heap.size+1]?=Q (T #[Y Z 0 0] 31 (0,0))):=by have h2:=eL (w.alloc (T #[Y Z 0 0,Y Z 0 0] 26)) (T #[Y Z 0 0] 31);rw[show(w.alloc (T #[Y Z 0 0,Y Z 0 0] 26)).heap.size=w.heap.size+1 by simp] at h2;exact h2
 generalize (w.alloc (T #[Y Z 0 0,Y Z 0 0] 26)).alloc (T #[Y Z 0 0] 31)=W0 at z QO QG ex ⊢;refine(kg a n r _ hn hc (S0.out.below z.out lr)).mono ?_;rintro e w1 ⟨R,rfl,hRz,u,k⟩;have R1:=ae u;have hs1:=k.size;have hRl:=u.lt;have T1:=ae ((S0.out.below z.out lr).below k lr);have B1:=ae (z.out.trans (k.mono (by omega)));have K1:=ae ((k.block w.heap.size (by omega)).trans QO.out);have M1:=ae ((k.block (w.heap.size+1) (by omega)).trans QG.out);clear u k z QO QG;go_wp2_with fail;refine(mr a n r _ hn hc T1.out).mono ?_;rintro e b ⟨a0,n0,c0,f0,a1,n1,c1,f1,t,tx,rfl,-,s⟩;have aq:=s.size;have BS:=(Qs b).alloc lr (T #[Y a0 n0 c0,Y a1 n1 c1] 26);have A:=ae (s.trans (BS.mono aq));have R6:=ae (R1.out.below A.out lr);have QP:=ae (B1.out.trans (A.out.mono (by omega)));have QL:=ae ((A.out.block w.heap.size (by omega)).trans K1.out);have QM:=ae ((A.out.block (w.heap.size+1) (by omega)).trans M1.out);have QQ:Hid ((b.alloc (T #[Y a0 n0 c0,Y a1 n1 c1] 26)).heap[b.heap.size]?=Q (T #[Y a0 n0 c0,Y a1 n1 c1] 26 (0,0))):=eL b _;clear s BS A R1 B1 K1 M1 T1;go_wp2_with fail;generalize b.alloc (T #[Y a0 n0 c0,Y a1 n1 c1] 26)=C at R6 QP QL QM QQ ⊢;have SB:Hid (∀ V:E,V.heap[b.heap.size]?=Q (T #[Y a0 n0 c0,Y a1 n1 c1] 26 (0,0))->V.heap[b.heap.size]?=Q (T #[Y a0 n0 c0,Y a1 n1 c1] 26 (0,0))/\V.cell? (J b.heap.size 0 Z)=Q (Y a0 n0 c0)/\V.cell? (J b.heap.size 1 Z)=Q (Y a1 n1 c1)):=fun V h=>⟨h,by simp[World.cell?,h],by simp[World.cell?,h]⟩
 refine wp_region_held_drew (S:=fun V=>V.heap[b.heap.size]?=Q (T #[Y a0 n0 c0,Y a1 n1 c1] 26 (0,0))/\V.cell? (J b.heap.size 0 Z)=Q (Y a0 n0 c0)/\V.cell? (J b.heap.size 1 Z)=Q (Y a1 n1 c1)) (by as_aux_lemma=>kernel_rfl) (SB.out C QQ.out) (fun y=>?_);have d:=ae y;clear y;have bt:=aC QQ.out;have hs6:=QP.out.size;have B:Hid (Only R C C.drew):=Only.of_below br.drew;have QN:=ae (R6.out.below br.drew lr);generalize C.drew=v0 at B QN d ⊢
 iterate 3
  refine bS 0 (v:=?_) rfl rfl (by as_aux_lemma=>kernel_rfl) (fun _ _ _ h=>h) rfl ?_ d.out ?_;rotate_left
  ·(intro wz fd;obtain⟨s0,s1,s2⟩:=fd;go_simp)
   (try with_reducible rfl)
  (try simp only[Act.put,nzL])
 refine bN (i:=3) rfl (by as_aux_lemma=>kernel_rfl) (fun K j=>?_);go_simp;go_at_call 62;refine(nI R _ _ QN.out (by omega)).mono ?_;rintro e l ⟨L,g,c,rfl,P,-,x,H,q4,hq4,-,hO⟩;have hgb:=P.lt.1;have h06:=B.out.size;have o:=B.out.trans hO;have G:=ae (Eu P);have QJ:=ae (nF H);have BE:=ae (QP.out.trans (o.below (by omega) QP.out.size));have W:=ae ((o.block w.heap.size (aC QL.out) (by omega)).trans QL.out);have ME:=ae ((o.block (w.heap.size+1) (aC QM.out) (by omega)).trans QM.out);have QK:=ae ((o.block b.heap.size bt (by omega)).trans QQ.out);clear P H hO o d QN B;have d:=ae (SB.out l QK.out);refine j.out _ _ d.out ?_;clear j K
 (try simp only[Act.put,nzL])
 generalize L.length=m at x G QJ ⊢;generalize ez L=f at G QJ;have kr:=W.out;have r0:l.cell? (J w.heap.size 0 Z)=Q (Y Z 0 0):=by simp[World.cell?,kr]
 have r1:l.cell? (J w.heap.size 1 Z)=Q (Y Z 0 0):=by simp[World.cell?,kr]
 have X:l.frozen? (J w.heap.size 0 Z)=D:=by simp[World.frozen?,kr]
 have t1:l.frozen? (J w.heap.size 1 Z)=D:=by simp[World.frozen?,kr]
 have QH:=aC kr;clear kr;refine bN (i:=4) rfl (by as_aux_lemma=>kernel_rfl) (fun K j=>?_);go_simp;clear r0 r1 X t1 QH d;have KF:=ae (vi (v0:=Y a0 n0 c0) (v1:=Y a1 n1 c1) W.out);have BF:=ae ((BE.out.setCell (p:=(J w.heap.size 0 Z)) lr (Y a0 n0 c0)).setCell (p:=(J w.heap.size 1 Z)) lr (Y a1 n1 c1));have O:=ae (((qh _ (J w.heap.size 1 Z) (Y a1 n1 c1) b.heap.size (by show b.heap.size≠w.heap.size;omega)).trans (qh l (J w.heap.size 0 Z) (Y a0 n0 c0) b.heap.size (by show b.heap.size≠w.heap.size;omega))).trans QK.out);have MF:=ae (((qh _ (J w.heap.size 1 Z) (Y a1 n1 c1) (w.heap.size+1) (by show w.heap.size+1≠w.heap.size;omega)).trans (qh l (J w.heap.size 0 Z) (Y a0 n0 c0) (w.heap.size+1) (by show w.heap.size+1≠w.heap.size;omega))).trans ME.out);have IF:=ae ((G.out.setOther (J w.heap.size 0 Z) (by show w.heap.size≠g;omega) (Y a0 n0 c0)).setOther (J w.heap.size 1 Z) (by show w.heap.size≠g;omega) (Y a1 n1 c1));clear BE W ME QK G;generalize (l.setCell (J w.heap.size 0 Z) (Y a0 n0 c0)).setCell (J w.heap.size 1 Z) (Y a1 n1 c1)=q at *;have d:=ae (SB.out q O.out);refine j.out _ _ d.out ?_;clear j K
 (try simp only[Act.put,nzL])
 refine bN (i:=5) rfl (by as_aux_lemma=>kernel_rfl) (fun K j=>?_);go_simp;refine j.out _ _ d.out ?_;clear j K
 (try simp only[Act.put,nzL])
 have kr:=MF.out;have r0:q.cell? (J (w.heap.size+1) 0 Z)=Q (Y Z 0 0):=by simp[World.cell?,kr]
 have X:q.frozen? (J (w.heap.size+1) 0 Z)=D:=by simp[World.frozen?,kr]
 have QH:=aC kr;have M0:Hid ((q.setCell (J (w.heap.size+1) 0 Z) (Y (Q (J g 0 Z)) m c)).cell? (J (w.heap.size+1) 0 Z)=Q (Y (Q (J g 0 Z)) m c)):=AI _ _ _ (by rw[r0];rfl);clear kr;refine bN (i:=6) rfl (by as_aux_lemma=>kernel_rfl) (fun K j=>?_);go_simp;clear r0 X QH d;have KG:=ae ((qh q (J (w.heap.size+1) 0 Z) (Y (Q (J g 0 Z)) m c) w.heap.size (by show w.heap.size≠w.heap.size+1;omega)).trans KF.out);have BG:=ae (BF.out.setCell (p:=(J (w.heap.size+1) 0 Z)) (AS _) (Y (Q (J g 0 Z)) m c));have SG:=ae ((qh q (J (w.heap.size+1) 0 Z) (Y (Q (J g 0 Z)) m c) b.heap.size (by show b.heap.size≠w.heap.size+1;omega)).trans O.out);have IG:=ae (IF.out.setOther (J (w.heap.size+1) 0 Z) (by show w.heap.size+1≠g;omega) (Y (Q (J g 0 Z)) m c));clear KF BF O IF MF;generalize q.setCell (J (w.heap.size+1) 0 Z) (Y (Q (J g 0 Z)) m c)=M at *;have d:=ae (SB.out M SG.out);refine j.out _ _ d.out ?_;clear j K
 (try simp only[Act.put,nzL])
 refine wpAnyH_done (by as_aux_lemma=>kernel_rfl) ?_ _;have kr:=KG.out;have r0:M.cell? (J w.heap.size 0 Z)=Q (Y a0 n0 c0):=by simp[World.cell?,kr]
 have r1:M.cell? (J w.heap.size 1 Z)=Q (Y a1 n1 c1):=by simp[World.cell?,kr]
 have r2:=M0.out;clear kr;go_wp2;exact bp (v:=.tuple #[QE #[Y a0 n0 c0,Y a1 n1 c1],U t,QE #[Y (Q (J g 0 Z)) m c]]) (by simp[results,Tryz.results10,go_sem,r0,r1,r2]) rfl ⟨_,_,_,_,_,_,_,g,m,c,f,rfl,IG.out,x,QJ.out,BG.out⟩
end Go.Proofs.YtkdimgejdocbbaaGreatDoor.Vp
