import Derived.Test.YtkdimgejdocbbaaGreatDoorYX
import Derived.Test.YtkdimgejdocbbaaGreatDoorYY
import Derived.Test.YtkdimgejdocbbaaGreatDoorYU
set_option maxRecDepth 100000
set_option maxHeartbeats 8000000
open Go.Addr renaming mk->J
open Go.Value renaming slice->Z,string->U,int->Q,agg->QE
open Option renaming none->Y,some->N
open Go.Obj renaming cells->T
open Go.IntKind renaming i64->I
open Go renaming World->E,Value->QB,TypeId->QF
open Bool renaming false->D
open Go.Ending renaming returned->QD
namespace Go.Proofs.YtkdimgejdocbbaaGreatDoor.Vp
open RowKit Ca
theorem uq (R p b0 n0 c0 n1 c1:Nat)(a0:Option Addr)(f0:Nat->Source)(a1:Option Addr)(f1:Nat->Target)(w:E)(hR:Rd w R p)(hp:p<=19000)(hH:HSp b0 w a0 n0 f0 a1 n1 f1)(hg:∀ i,i<n1->1<=(f1 i).actN/\(f1 i).actN<=200)(hm0:n0<=100)(hm1:n1<=100):Calls Tryz.prog 116 #[.pointer (N (J R 0 Y)),QE #[Z a0 n0 c0,Z a1 n1 c1]] w fun e w'=>DH w R (p+1100) e w':=by
 have HR:=ae hR;have FJ:=hR.lt;obtain⟨hs,ht⟩:=hH.sl w (Agr.refl _ _);have HF:=ae hH.fit;have HG:=ae hg;have d:=ae hs;have HT:=ae ht;clear hs ht hH hg hR;obtain⟨FP,hi,FL,F4,FW⟩:=IS ix;obtain⟨ur,A,Fh,DA,DQ⟩:=IS ft;have A0:=ae (((Qs w).alloc lr (T #[Z a0 n0 c0,Z a1 n1 c1] 26)).alloc (by simp) (T #[Z Y 0 0,Z Y 0 0] 26));have Fu:((w.alloc (T #[Z a0 n0 c0,Z a1 n1 c1] 26)).alloc (T #[Z Y 0 0,Z Y 0 0] 26)).heap.size=w.heap.size+2:=by simp
 have KR:Hid (((w.alloc (T #[Z a0 n0 c0,Z a1 n1 c1] 26)).alloc (T #[Z Y 0 0,Z Y 0 0] 26)).heap[w.heap.size+1]?=N (T #[Z Y 0 0,Z Y 0 0] 26 (0,0))):=by have h2:=eL (w.alloc (T #[Z a0 n0 c0,Z a1 n1 c1] 26)) (T #[Z Y 0 0,Z Y 0 0] 26);rw[show(w.alloc (T #[Z a0 n0 c0,Z a1 n1 c1] 26)).heap.size=w.heap.size+1 by simp] at h2;exact h2
 go_enter Tryz.func116,Tryz.ntmps116;go_wp2_with fail;generalize (w.alloc (T #[Z a0 n0 c0,Z a1 n1 c1] 26)).alloc (T #[Z Y 0 0,Z Y 0 0] 26)=W at A0 Fu KR ⊢;refine(fM a0 n0 c0 f0 a1 n1 c1 f1 ⟨#[]⟩ W (by omega) (by omega) (d.below A0 lr) (HT.below A0 lr) (fun i hi=>by have:=(HF i hi).1;unfold aS;omega)).mono ?_;rintro e t ⟨v0,v1,m,rfl,sm,DE,hM,th⟩;obtain⟨a2,c2,rfl⟩:=bh sm;obtain⟨QH,c5,rfl⟩:=bh DE.own;have G1:=ae (vd hM HF);have N1:=ae (Dt hM HG);have FC:=oL hM;have Ft:=ia f0 ⟨#[]⟩ n0;clear hM d HT HF HG;generalize keepS f0 ⟨#[]⟩ n0=B at sm Ft ⊢;have hsz:=th.size;have X1:=ae (pw (rr:=w.heap.size+1) (base:=w.heap.size+2) ((th.block _ (by omega)).trans KR) (by omega) (by omega) (by omega) sm DE);have B1:=ae ((A0.trans (th.mono (by omega))).alloc (by omega) (T #[Z a2 B.length c2,Z QH m.length c5] 26));clear sm DE th A0 KR;have R1:=ae (HR.low B1 (by omega));have O1:Hid (Only R w (t.alloc (T #[Z a2 B.length c2,Z QH m.length c5] 26))):=Only.of_below B1;go_wp2_with fail;generalize t.alloc (T #[Z a2 B.length c2,Z QH m.length c5] 26)=W2 at X1 B1 R1 O1 ⊢;refine(aD R p 8 _ R1 (by omega) (by omega) (by omega)).mono ?_;rintro e o ⟨z,rfl,hz0',hz1',Fw,Fm⟩;have l:=ae (X1.only Fm (by omega));have R2:=ae Fw;have O2:=ae (O1.trans Fm);clear Fw Fm X1 R1 O1 B1 Fu HR;obtain⟨X,QK⟩:=l.cells;obtain⟨bt,aq⟩:=l.open
 have la:=l.lt;go_upto_block 0 with fail;go_cut [6,7] (fun _ _ wx=>∃ (b0:Option Addr) (m0 k0:Nat) (g0:Nat->Source) (b1:Option Addr) (m1 k1:Nat) (g1:Nat->Target) (q':Nat),q'<=p+1100/\Hid (wx.heap[t.heap.size]?=N (T #[Z b0 m0 k0,Z b1 m1 k1] 26 (0,0)))/\Hid (wx.heap[w.heap.size+1]?=N (T #[Z Y 0 0,Z Y 0 0] 26 (0,0)))/\Hid (HSp (w.heap.size+2) wx b0 m0 g0 b1 m1 g1)/\Hid (Rd wx R q')/\Hid (Only R w wx));case first =>
  have FY:z=0∨z=1∨z=2∨z=3∨z=4∨z=5∨z=6∨z=7:=by omega
  rcases FY with rfl | rfl | rfl | rfl | rfl | rfl | rfl | rfl
  ·go_wp2_with fail
   have FH:=l.hi;refine bm (BxS (Z a2 B.length c2) (Z QH m.length c5) t.heap.size) 11 (by as_aux_lemma=>kernel_rfl) ?_;have d:=ae (ig (W:=o.drew) l.box)
   iterate 2
    refine bw 0 (v:=?_) rfl rfl (by as_aux_lemma=>kernel_rfl) (fun _ _ _ h=>h) rfl ?_ d ?_;rotate_left
    ·(intro wz M;obtain⟨s0,s1⟩:=M;go_simp)
     (try with_reducible rfl)
    (try simp only[Act.put,nzL])
   refine bw 3 (v:=?_) rfl rfl (by as_aux_lemma=>kernel_rfl) (fun _ _ _ h=>h) rfl ?_ d ?_;rotate_left
   ·(intro wz M;obtain⟨s0,s1⟩:=M;go_simp)
    (try with_reducible rfl)
   (try simp only[Act.put,nzL])
   refine zy (i:=2) (j:=4) rfl rfl (by as_aux_lemma=>kernel_rfl) (fun K b=>?h1) (fun K b=>?h2);case' h1 =>
    go_simp;have BQ:=ae (((Qs o).alloc lr (T #[U ⟨#[97]⟩,U ⟨#[122,122]⟩,U ⟨#[]⟩,U ⟨#[120,32,121]⟩,U ⟨#[116,48]⟩] 9)).drew);have XQ:=ae (l.below BQ lr);have RQ:=ae (R2.below BQ lr);have OQ:=ae (O2.then (BQ.mono (by omega)));have Fk:=eL o (T #[U ⟨#[97]⟩,U ⟨#[122,122]⟩,U ⟨#[]⟩,U ⟨#[120,32,121]⟩,U ⟨#[116,48]⟩] 9);have Fz:Hid ((o.alloc (T #[U ⟨#[97]⟩,U ⟨#[122,122]⟩,U ⟨#[]⟩,U ⟨#[120,32,121]⟩,U ⟨#[116,48]⟩] 9)).drew.heap[o.heap.size]?=N (T #[U ⟨#[97]⟩,U ⟨#[122,122]⟩,U ⟨#[]⟩,U ⟨#[120,32,121]⟩,U ⟨#[116,48]⟩] 9 (0,0))):=Fk;have FN:o.heap.size<(o.alloc (T #[U ⟨#[97]⟩,U ⟨#[122,122]⟩,U ⟨#[]⟩,U ⟨#[120,32,121]⟩,U ⟨#[116,48]⟩] 9)).drew.heap.size:=aC Fk;clear Fk d;refine b _ _ (fun _=>ig XQ.box) ?_;clear b K
    (try simp only[Act.put,nzL])
    refine ar (i:=4) rfl (by as_aux_lemma=>kernel_rfl) (fun K b=>?_);go_simp;go_at_call 57;refine(aD R _ 5 _ RQ (by omega) (by omega) (by omega)).mono ?_;rintro e WL ⟨z3,rfl,fd,ph,O,G⟩;obtain⟨m3,rfl⟩:=x4 fd;have X4:=ae (XQ.only G (by omega));have R4:=ae O;have O4:=ae (OQ.trans G);obtain⟨sx,Bk⟩:=mE ((G.block o.heap.size FN (by omega)).trans Fz) m3 (by omega);clear O G Fz XQ RQ OQ;refine b _ _ (fun _=>ig X4.box) ?_;clear b K
    (try simp only[Act.put,nzL])
   case' h2 =>
    go_simp;go_at_call 57;refine(aD R _ 5 _ (R2.below br.drew lr) (by omega) (by omega) (by omega)).mono ?_;rintro e QP ⟨z3,rfl,fd,ph,O,G⟩;obtain⟨m3,rfl⟩:=x4 fd;have QJ:Hid (Only R o QP):=(Only.of_below br.drew).trans G;have C:=ae (l.only QJ (by omega));have R3:=ae O;have O3:=ae (O2.trans QJ);clear O G QJ d;have d:=ae (ig C.box);refine b _ _ (fun _=>d) ?_;clear b K
    (try simp only[Act.put,nzL])
    have hxl4:=C.lt;refine ar (i:=2) rfl (by as_aux_lemma=>kernel_rfl) (fun K b=>?_);go_simp;have BQ:=ae ((Qs QP).alloc lr (T #[U ⟨#[97]⟩,U ⟨#[122,122]⟩,U ⟨#[]⟩,U ⟨#[120,32,121]⟩,U ⟨#[116,48]⟩] 9));have X4:=ae (C.below BQ lr);have R4:=ae (R3.below BQ lr);have O4:=ae (O3.then (BQ.mono (by omega)));obtain⟨sx,Bk⟩:=mE (eL QP (T #[U ⟨#[97]⟩,U ⟨#[122,122]⟩,U ⟨#[]⟩,U ⟨#[120,32,121]⟩,U ⟨#[116,48]⟩] 9)) m3 (by omega);refine b _ _ (fun _=>ig X4.box) ?_;clear b K BQ d
    (try simp only[Act.put,nzL])
    generalize QP.alloc (T #[U ⟨#[97]⟩,U ⟨#[122,122]⟩,U ⟨#[]⟩,U ⟨#[120,32,121]⟩,U ⟨#[116,48]⟩] 9)=WL at X4 R4 O4 Bk ⊢
   all_goals
    have hm5:m3<5:=by omega
    have SQ:=ae X4.keepS;have d:=ae (SQ WL (fun j A _=>rfl))
    iterate 3
     refine df 5 rfl rfl (by as_aux_lemma=>kernel_rfl) (fun K b=>?_);go_simp;refine b _ _ (fun _=>d) ?_;clear b K
     (try simp only[Act.put,nzL])
    have Fo:=X4.lt;have hxi3:=X4.hi;refine ar (i:=8) rfl (by as_aux_lemma=>kernel_rfl) (fun K b=>?_);go_simp;have AB:=ae ((Qs WL).alloc lr (T #[U sx,U ⟨#[]⟩] 104));have XA:=ae (X4.below AB lr);have hz6:=AB.size;refine b _ _ (fun _=>SQ _ (fun j A _=>AB.block j A)) ?_;clear b K d
    (try simp only[Act.put,nzL])
    refine ar (i:=9) rfl (by as_aux_lemma=>kernel_rfl) (fun K b=>?_);refine bA rfl (.tmp 28) (.tmp 35) 23 rfl (w.heap.size+2) 104 FP (QE #[U ⟨#[]⟩,U ⟨#[]⟩]) 2 32 Tryz.underlying23 hi FL F4 FW rfl (by decide) (Z a2 B.length c2) B.length (B.flatMap bC) (by simp[Act.eval]) XA.src (J WL.heap.size 0 Y) 1 1 (bC ⟨sx,⟨#[]⟩⟩) (by simp[Act.eval]) rfl (fun j u hu=>cT WL _ _ _ j u hu) (by simp[bC,Value.oneCell']) (by unfold maxLen;omega) (by omega) (by omega) ?_;intro v' w7 QQ y _;obtain⟨a7,c7,rfl⟩:=bh QQ;have S7:=ae (SQ w7 (fun j A mv=>(y.block j (ll A AB.size) mv).trans (AB.block j A)));obtain⟨c8,b8⟩:=XA.addS (x:=⟨sx,⟨#[]⟩⟩) QQ y;have X9:=ae c8;have B9:=ae b8;clear QQ y c8 b8;refine b _ _ (fun _=>S7) ?_;clear b K
    (try simp only[Act.put,nzL])
    refine ar (i:=10) rfl (by as_aux_lemma=>kernel_rfl) (fun K b=>?_);go_simp;refine b _ _ (fun _=>S7) ?_;clear b K
    (try simp only[Act.put,nzL])
    obtain⟨s7,t7⟩:=S7.out;have f7:w7.frozen? (J t.heap.size 0 Y)=D:=by simp[World.frozen?,s7]
    have l7:=aC s7;clear s7;refine ar (i:=11) rfl (by as_aux_lemma=>kernel_rfl) (fun K b=>?_);go_simp;refine b _ _ (fun h=>absurd rfl h) ?_;clear b K
    (try simp only[Act.put,nzL])
    refine bJ (by as_aux_lemma=>kernel_rfl) ?_ _;have BB:=ae ((AB.mono (show w.heap.size+2<=WL.heap.size by omega)).trans B9.out);have R9:=ae (R4.low BB (by omega));have O9:=ae (O4.then (BB.mono (by omega)));clear t7 f7 l7 Bk;go_simp;generalize w7.setCell (J t.heap.size 0 Y) (Z a7 (B.length+1) c7)=W9 at X9 R9 O9 ⊢;have QN:=ae X9.box;have QO:=ae X9.res;have H:=ae (fo X9.src (by simp) X9.tgt rfl (by rw[cM];exact(by omega:B.length+1<=300)) (by omega) G1);clear X QK bt aq;go_wp2;go_meet;exact⟨_,_,_,_,_,_,_,_,_,by omega,QN,QO,H,R9,O9⟩
  ·by_cases hl:1<(m.length:Int)
   ·obtain⟨s,rfl⟩:=jt l.tgt.own (by omega)
    obtain⟨r0,r1,RR,rfl⟩:∃ r0 r1 RR,m=r0 :: r1 :: RR:=(by
     match m,hl with
     | [],h=>simp at h
     | [_],h=>simp at h
     | r0 :: r1 :: RR,_=>exact⟨r0,r1,RR,rfl⟩)
    have ld:(r0 :: r1 :: RR).length<=100:=by omega
    obtain⟨ka,FE⟩:=bv l.tgt.own (j:=0) (u:=U r0.1.name) rfl;obtain⟨kb,FA⟩:=bv l.tgt.own (j:=1) (u:=Z (N (J r0.2.1 0 Y)) r0.1.actN r0.2.2) rfl;obtain⟨kc,Fq⟩:=bv l.tgt.own (j:=2) (u:=U r1.1.name) rfl;obtain⟨kd,At⟩:=bv l.tgt.own (j:=3) (u:=Z (N (J r1.2.1 0 Y)) r1.1.actN r1.2.2) rfl;have n7:=(l.tgt.own.lt s rfl).2;generalize P:(r0 :: r1 :: RR).length=nt at QK l hl ld FC ⊢;have HL:=ae P;clear P;have Fr:0<nt:=by omega
    have FO:1<nt:=by omega
    have BA:=ae ((Qs o).alloc lr (T #[U r0.1.name,Z (N (J r0.2.1 0 Y)) r0.1.actN r0.2.2] 108));have XA:=ae (l.below BA lr);have RA:=ae (R2.below BA lr);have FH:=l.hi;have OA:=ae (O2.then (BA.mono (by omega)));have cc:∀ j,(o.alloc (T #[U r0.1.name,Z (N (J r0.2.1 0 Y)) r0.1.actN r0.2.2] 108)).cell? (J s j Y)=o.cell? (J s j Y):=fun j=>BA.cell (p:=(J s j Y)) n7;have cf:∀ j,(o.alloc (T #[U r0.1.name,Z (N (J r0.2.1 0 Y)) r0.1.actN r0.2.2] 108)).frozen? (J s j Y)=o.frozen? (J s j Y):=fun j=>BA.frozen (p:=(J s j Y)) n7;have KA:=ae ((cc 0).trans ka);have Fj:=ae ((cf 0).trans FE);have KB:=ae ((cc 1).trans kb);have Fi:=ae ((cf 1).trans FA);have KC:=ae ((cc 2).trans kc);have Fy:=ae ((cf 2).trans Fq);have KD:=ae ((cc 3).trans kd);have Fs:=ae ((cf 3).trans At);have KX:Hid ((o.alloc (T #[U r0.1.name,Z (N (J r0.2.1 0 Y)) r0.1.actN r0.2.2] 108)).heap[o.heap.size]?=N (T #[U r0.1.name,Z (N (J r0.2.1 0 Y)) r0.1.actN r0.2.2] 108 (0,0))):=eL o _;have FG:s≠o.heap.size:=by omega
    have FU:=BA.size;clear cc cf;go_wp2_with fail;generalize o.alloc (T #[U r0.1.name,Z (N (J r0.2.1 0 Y)) r0.1.actN r0.2.2] 108)=WA at XA RA OA KA Fj KB Fi KC Fy KD Fs KX FU ⊢;have Fp:=XA.cells.2;clear ka FE kb FA kc Fq kd At BA X QK bt aq;refine bm (fun V=>V.cell? (J t.heap.size 1 Y)=N (Z (N (J s 0 Y)) nt c5)/\V.cell? (J s 2 Y)=N (U r1.1.name)/\V.cell? (J s 3 Y)=N (Z (N (J r1.2.1 0 Y)) r1.1.actN r1.2.2)) 7 (by as_aux_lemma=>kernel_rfl) ?_;have d:Hid (WA.drew.cell? (J t.heap.size 1 Y)=N (Z (N (J s 0 Y)) nt c5)/\WA.drew.cell? (J s 2 Y)=N (U r1.1.name)/\WA.drew.cell? (J s 3 Y)=N (Z (N (J r1.2.1 0 Y)) r1.1.actN r1.2.2)):=⟨Fp,KC,KD⟩
    iterate 6
     refine bw 0 (v:=?_) rfl rfl (by as_aux_lemma=>kernel_rfl) (fun _ _ _ h=>h) rfl ?_ d ?_;rotate_left
     ·(intro wz M;obtain⟨s0,s1,s2⟩:=M;go_simp)
      (try with_reducible rfl)
     (try simp only[Act.put,nzL])
    refine ar (i:=6) rfl (by as_aux_lemma=>kernel_rfl) (fun K b=>?_);go_simp;refine b _ _ (fun _=>d) ?_;clear b K
    (try simp only[Act.put,nzL])
    have z0:=Fj.out;have z1:=Fi.out;have y0:=KA.out;have y1:=KB.out;have hgtA:s<WA.heap.size:=by omega
    refine ar (i:=7) rfl (by as_aux_lemma=>kernel_rfl) (fun K b=>?_);go_simp;refine b _ _ (fun h=>absurd rfl h) ?_;clear b K
    (try simp only[Act.put,nzL])
    refine bJ (by as_aux_lemma=>kernel_rfl) ?_ _;go_simp;have SW:=ae (((XA.sw HL.symm).set 0 (U r1.1.name)).set 1 (Z (N (J r1.2.1 0 Y)) r1.1.actN r1.2.2)).drew;have n6:=(XA.tgt.own.lt s rfl).1;have BW:=ae ((((eI (w.heap.size+2) WA).setCell (p:=(J s 0 Y)) n6 (U r1.1.name)).setCell (p:=(J s 1 Y)) n6 (Z (N (J r1.2.1 0 Y)) r1.1.actN r1.2.2)).drew);have kx:((WA.setCell (J s 0 Y) (U r1.1.name)).setCell (J s 1 Y) (Z (N (J r1.2.1 0 Y)) r1.1.actN r1.2.2)).drew.heap[o.heap.size]?=N (T #[U r0.1.name,Z (N (J r0.2.1 0 Y)) r0.1.actN r0.2.2] 108 (0,0)):=((qh _ (J s 1 Y) _ o.heap.size (fun e=>FG (Eq.symm e))).trans (qh _ (J s 0 Y) _ o.heap.size (fun e=>FG (Eq.symm e)))).trans KX;clear d z0 z1 y0 y1 KA Fj KB Fi KC Fy KD Fs KX Fp;generalize ((WA.setCell (J s 0 Y) (U r1.1.name)).setCell (J s 1 Y) (Z (N (J r1.2.1 0 Y)) r1.1.actN r1.2.2)).drew=WB at SW BW kx ⊢;obtain⟨kc,Fq⟩:=bv SW.own (j:=2) (u:=U r1.1.name) rfl;obtain⟨kd,At⟩:=bv SW.own (j:=3) (u:=Z (N (J r1.2.1 0 Y)) r1.1.actN r1.2.2) rfl;have n8:=SW.box;have kv:WB.cell? (J t.heap.size 1 Y)=N (Z (N (J s 0 Y)) nt c5):=by simp[World.cell?,n8]
    have QL:WB.cell? (J o.heap.size 0 Y)=N (U r0.1.name):=by simp[World.cell?,kx]
    have x1:WB.cell? (J o.heap.size 1 Y)=N (Z (N (J r0.2.1 0 Y)) r0.1.actN r0.2.2):=by simp[World.cell?,kx]
    have hgtB:s<WB.heap.size:=(SW.own.lt s rfl).2;have kv0:WB.cell? (J t.heap.size 0 Y)=N (Z a2 B.length c2):=by simp[World.cell?,n8]
    have l1:=aC n8;have FT:¬ s=t.heap.size:=by intro e;obtain⟨FX,Fd⟩:=dQ SW.own s rfl;rw[e] at Fd;have h3:=n8.symm.trans Fd;cases h3
    have hg1':¬ t.heap.size=s:=fun e=>FT e.symm;have ro:=ae ((SW.set 2 (U r0.1.name)).set 3 (Z (N (J r0.2.1 0 Y)) r0.1.actN r0.2.2))
    have H:=ae (ro.fin rfl (L:=r1 :: r0 :: RR) (by rw[<-nH];rfl) HL.symm (by omega) (by have:=HL.out;simp only[p7] at this ⊢;omega) (by
     intro r hr;simp only[BC] at hr ⊢;rcases hr with h | h | h
     ·exact .inr (.inl h)
     ·exact .inl h
     ·exact .inr (.inr h)) G1)
    have BF:=ae ((BW.setCell (p:=(J s 2 Y)) n6 (U r0.1.name)).setCell (p:=(J s 3 Y)) n6 (Z (N (J r0.2.1 0 Y)) r0.1.actN r0.2.2));have R9:=ae (RA.low BF (by omega));have O9:=ae (OA.then (BF.mono (show w.heap.size<=w.heap.size+2 by omega)));have QN:=ae ro.box;have QO:=ae ro.res;clear n8 kx SW ro BF BW XA RA OA;go_wp2;go_meet;exact⟨_,_,_,_,_,_,_,_,_,by omega,QN,QO,H,R9,O9⟩
   ·skip
    have QN:=ae l.box;have QO:=ae l.res;have H:=ae (fo l.src rfl l.tgt rfl (by omega) (by omega) G1);go_wp2;go_meet;exact⟨_,_,_,_,_,_,_,_,_,by omega,QN,QO,H,R2,O2⟩
  ·by_cases hl:0<(m.length:Int)
   ·go_wp2_with fail
    obtain⟨s,rfl⟩:=jt l.tgt.own (by omega)
    obtain⟨r0,RR,rfl⟩:∃ r0 RR,m=r0 :: RR:=(by
     match m,hl with
     | [],h=>simp at h
     | r0 :: RR,_=>exact⟨r0,RR,rfl⟩)
    have ld:(r0 :: RR).length<=100:=by omega
    have kb:=(bv l.tgt.own (j:=1) (u:=Z (N (J r0.2.1 0 Y)) r0.1.actN r0.2.2) rfl).1;have n7:=(l.tgt.own.lt s rfl).2;have n6:=(l.tgt.own.lt s rfl).1;have AC:=ae (l.tgt.act r0 (JO ..));have FS:=N1.out r0 (JO ..);have FM:=ae (G1 r0 (JO ..)).2;generalize P:(r0 :: RR).length=nt at QK l hl ld FC ⊢;have HL:=ae P;clear P;have Fr:0<nt:=by omega
    have hRb:R<w.heap.size+2:=by omega
    refine bm (fun V=>V.heap[t.heap.size]?=N (T #[Z a2 B.length c2,Z (N (J s 0 Y)) nt c5] 26 (0,0))/\V.cell? (J t.heap.size 1 Y)=N (Z (N (J s 0 Y)) nt c5)/\V.cell? (J s 1 Y)=N (Z (N (J r0.2.1 0 Y)) r0.1.actN r0.2.2)) 11 (by as_aux_lemma=>kernel_rfl) ?_;have d:Hid (o.drew.heap[t.heap.size]?=N (T #[Z a2 B.length c2,Z (N (J s 0 Y)) nt c5] 26 (0,0))/\o.drew.cell? (J t.heap.size 1 Y)=N (Z (N (J s 0 Y)) nt c5)/\o.drew.cell? (J s 1 Y)=N (Z (N (J r0.2.1 0 Y)) r0.1.actN r0.2.2)):=⟨l.box,QK,kb⟩
    iterate 8
     refine bw 0 (v:=?_) rfl rfl (by as_aux_lemma=>kernel_rfl) (fun _ _ _ h=>h) rfl ?_ d ?_;rotate_left
     ·(intro wz M;obtain⟨s0,s1,s2⟩:=M;go_simp)
      (try with_reducible rfl)
     (try simp only[Act.put,nzL])
    refine ar (i:=8) rfl (by as_aux_lemma=>kernel_rfl) (fun K b=>?_);go_simp;go_at_call 145;refine(um R _ r0.2.1 r0.2.2 r0.1.actN r0.1.act _ (R2.below br.drew lr) (by omega) (AC.1.below br.drew lr) FS FM).mono ?_;rintro e QP ⟨L3,g3,d3,rfl,qr,_,hL3,F0,q3,hq3,O,G⟩;have QJ:Hid (Only R o QP):=(Only.of_below br.drew).trans G;have C:=ae (l.only QJ (by omega));have R3:=ae O;have O3:=ae (O2.trans QJ);have FF:QP.cell? (J s 1 Y)=N (Z (N (J r0.2.1 0 Y)) r0.1.actN r0.2.2):=(QJ.cell s 1 n7 (by omega)).trans kb;have z3:QP.frozen? (J s 1 Y)=D:=by obtain⟨FX,hc⟩:=C.tgt.type s rfl;simp[World.frozen?,hc]
    have hgt3:=ll n7 QJ.size;have SA:=ae (C.setA (n:=L3.length) (g:=g3) (c:=d3) (f:=ez L3) rfl HL.symm (jN (by have h:=qr;unfold IR at h;rw[yJ] at h;exact h)).1 (iX qr) (by have:o.heap.size<=g3:=qr.lt.1;have:=l.lt;have:=l.hi;omega) (by omega) (nF F0) (by omega) (by rw[HL.out];omega) G1);clear qr O G QJ d;have d:=ae (show QP.heap[t.heap.size]?=N (T #[Z a2 B.length c2,Z (N (J s 0 Y)) nt c5] 26 (0,0))/\QP.cell? (J t.heap.size 1 Y)=N (Z (N (J s 0 Y)) nt c5)/\QP.cell? (J s 1 Y)=N (Z (N (J r0.2.1 0 Y)) r0.1.actN r0.2.2) from⟨C.box,C.cells.2,FF⟩);refine b _ _ (fun _=>d) ?_;clear b K
    (try simp only[Act.put,nzL])
    iterate 2
     refine df 9 rfl rfl (by as_aux_lemma=>kernel_rfl) (fun K b=>?_);go_simp;refine b _ _ (fun _=>d) ?_;clear b K
     (try simp only[Act.put,nzL])
    refine ar (i:=11) rfl (by as_aux_lemma=>kernel_rfl) (fun K b=>?_);go_simp;refine b _ _ (fun h=>absurd rfl h) ?_;clear b K
    (try simp only[Act.put,nzL])
    refine bJ (by as_aux_lemma=>kernel_rfl) ?_ _;obtain⟨hE,hB,hQ,ex⟩:=SA.out;have H:=ae hE;have QN:=ae hB;have QO:=ae hQ;have R4:=ae (R3.low ex (by omega));have O4:=ae (O3.then (ex.mono (show w.heap.size<=w.heap.size+2 by omega)));clear hE hB hQ ex SA d kb FF z3 hl X QK bt aq;go_simp;generalize QP.setCell (J s 1 Y) (Z (N (J g3 0 Y)) L3.length d3)=W4 at H QN QO R4 O4 ⊢;go_wp2;go_meet;exact⟨_,_,_,_,_,_,_,_,_,by omega,QN,QO,H,R4,O4⟩
   ·skip
    have QN:=ae l.box;have QO:=ae l.res;have H:=ae (fo l.src rfl l.tgt rfl (by omega) (by omega) G1);go_wp2;go_meet;exact⟨_,_,_,_,_,_,_,_,_,by omega,QN,QO,H,R2,O2⟩
  ·by_cases hl:0<(B.length:Int)
   ·go_wp2_with fail
    obtain⟨gs,rfl⟩:=jt l.src (by omega)
    obtain⟨QL,QG,rfl⟩:∃ QL QG,B=QL :: QG:=(by
     match B,hl with
     | [],h=>simp at h
     | QL :: QG,_=>exact⟨QL,QG,rfl⟩)
    have ld:(QL :: QG).length<=100:=by omega
    generalize P:(QL :: QG).length=nl at X l hl ld Ft ⊢;have HL:=ae P;clear P;have Fr:0<nl:=by omega
    refine bm (BxS (Z (N (J gs 0 Y)) nl c2) (Z QH m.length c5) t.heap.size) 8 (by as_aux_lemma=>kernel_rfl) ?_;have d:=ae (ig (W:=o.drew) l.box)
    iterate 3
     refine bw 0 (v:=?_) rfl rfl (by as_aux_lemma=>kernel_rfl) (fun _ _ _ h=>h) rfl ?_ d ?_;rotate_left
     ·(intro wz M;obtain⟨s0,s1⟩:=M;go_simp)
      (try with_reducible rfl)
     (try simp only[Act.put,nzL])
    refine ar (i:=3) rfl (by as_aux_lemma=>kernel_rfl) (fun K b=>?_);go_simp;go_at_call 57;refine(aD R _ 2 _ (R2.below br.drew lr) (by omega) (by omega) (by omega)).mono ?_;rintro e QP ⟨z3,rfl,fd,ph,O,G⟩;obtain⟨m3,rfl⟩:=x4 fd;have QJ:Hid (Only R o QP):=(Only.of_below br.drew).trans G;have C:=ae (l.only QJ (by omega));have R3:=ae O;have O3:=ae (O2.trans QJ);clear O G QJ d;have d:=ae (ig C.box);refine b _ _ (fun _=>d) ?_;clear b K
    (try simp only[Act.put,nzL])
    have FI:IntKind.i64.wrap (2000+(m3:Int))=2000+(m3:Int):=by rw[vF];omega
    refine ar (i:=4) rfl (by as_aux_lemma=>kernel_rfl) (fun K b=>?_);go_simp;refine b _ _ (fun _=>d) ?_;clear b K
    (try simp only[Act.put,nzL])
    refine ar (i:=5) rfl (by as_aux_lemma=>kernel_rfl) (fun K b=>?_);go_simp;go_at_call 60;refine(fw ⟨#[115]⟩ (2000+m3) _ (by show 1*(2000+m3)<=4000;omega) (by omega)).mono ?_;rintro e w4 ⟨tt,rfl,_,rfl⟩;refine b _ _ (fun _=>d) ?_;clear b K
    (try simp only[Act.put,nzL])
    have XL:Hid (SpX (w.heap.size+1) t.heap.size (w.heap.size+2) w4 (Z (N (J gs 0 Y)) (QL :: QG).length c2) (Z QH m.length c5) (QL :: QG) m):=by rw[HL.out];exact C
    have FQ:=(XL.src.lt gs rfl).2;obtain⟨ky,kz⟩:=bv XL.src (j:=1) (u:=U QL.text) rfl;obtain⟨x3,b3⟩:=XL.setS (j:=1) (LS':=⟨QL.name,tt⟩ :: QG) (U tt) rfl rfl;clear XL;rw[HL.out] at x3;have X4:=ae x3;have B4:=ae b3;clear x3 b3
    iterate 2
     refine df 6 rfl rfl (by as_aux_lemma=>kernel_rfl) (fun K b=>?_);go_simp;refine b _ _ (fun _=>d) ?_;clear b K
     (try simp only[Act.put,nzL])
    refine ar (i:=8) rfl (by as_aux_lemma=>kernel_rfl) (fun K b=>?_);go_simp;refine b _ _ (fun h=>absurd rfl h) ?_;clear b K
    (try simp only[Act.put,nzL])
    refine bJ (by as_aux_lemma=>kernel_rfl) ?_ _;have R4:=ae (R3.low B4 (by omega));have O4:=ae (O3.then (B4.mono (show w.heap.size<=w.heap.size+2 by omega)));clear d ky kz hl;go_simp;generalize w4.setCell (J gs 1 Y) (U tt)=W4 at X4 R4 O4 ⊢;have QN:=ae X4.box;have QO:=ae X4.res;have H:=ae (fo X4.src HL.symm X4.tgt rfl (by have:=HL.out;simp only[p7] at this ⊢;omega) (by omega) G1);clear X QK bt aq;go_wp2;go_meet;exact⟨_,_,_,_,_,_,_,_,_,by omega,QN,QO,H,R4,O4⟩
   ·skip
    have QN:=ae l.box;have QO:=ae l.res;have H:=ae (fo l.src rfl l.tgt rfl (by omega) (by omega) G1);go_wp2;go_meet;exact⟨_,_,_,_,_,_,_,_,_,by omega,QN,QO,H,R2,O2⟩
  ·go_wp2_with fail
   go_loopw [7] (fun i wr=>∃ (k q:Nat) (v1:QB) (RQ:List TR),i=Q I k/\k<=RQ.length/\q<=p+1+k/\RQ.length<=300/\Hid (SpX (w.heap.size+1) t.heap.size (w.heap.size+2) wr (Z a2 B.length c2) v1 B RQ)/\Hid (GX RQ)/\Hid (Rd wr R q)/\Hid (Only R w wr)) (fun i _=>400 - (intOf i).toNat);case atStart=>exact⟨0,p+1,_,m,rfl,by omega,by omega,by omega,l,G1,R2,O2⟩
   case round =>
    clear l R2 O2 X QK bt aq G1 N1 la;obtain⟨k,q4,v1,m,rfl,hk,hq4,hk3,l,G1,R2,O2⟩:=hrel;obtain⟨o,rfl⟩:∃ o,o=wr:=⟨wr,rfl⟩
    obtain⟨QH,c5,rfl⟩:=bh l.tgt.own;have la:=l.lt;have hw1:IntKind.i64.wrap ((B.length:Int)+m.length)=(B.length:Int)+m.length:=by rw[vF];omega
    have hwk:IntKind.i64.wrap ((k:Int)+1)=(k:Int)+1:=by rw[vF];omega
    go_wp2_with fail;have SB:Hid (∀ V:E,V.heap[t.heap.size]?=N (T #[Z a2 B.length c2,Z QH m.length c5] 26 (0,0))->V.heap[t.heap.size]?=N (T #[Z a2 B.length c2,Z QH m.length c5] 26 (0,0))/\V.cell? (J t.heap.size 0 Y)=N (Z a2 B.length c2)/\V.cell? (J t.heap.size 1 Y)=N (Z QH m.length c5)):=fun V h=>⟨h,by simp[World.cell?,h],by simp[World.cell?,h]⟩
    refine wp_region_held_drew (S:=fun V=>V.heap[t.heap.size]?=N (T #[Z a2 B.length c2,Z QH m.length c5] 26 (0,0))/\V.cell? (J t.heap.size 0 Y)=N (Z a2 B.length c2)/\V.cell? (J t.heap.size 1 Y)=N (Z QH m.length c5)) (by as_aux_lemma=>kernel_rfl) (SB o l.box) (fun hS=>?_);have d:=ae hS;clear hS
    iterate 8
     refine bS 0 (v:=?_) rfl rfl (by as_aux_lemma=>kernel_rfl) (fun _ _ _ h=>h) rfl ?_ d ?_;rotate_left
     ·(intro wz M;obtain⟨s0,s1,s2⟩:=M;go_simp)
      (try with_reducible rfl)
     (try simp only[Act.put,nzL])
    refine bN (i:=8) rfl (by as_aux_lemma=>kernel_rfl) (fun K b=>?_);go_simp;go_at_call 57;refine(aD R _ 2 _ (R2.below br.drew lr) (by omega) (by omega) (by omega)).mono ?_;rintro e QP ⟨z3,rfl,fd,ph,O,G⟩;obtain⟨m3,rfl⟩:=x4 fd;have QJ:Hid (Only R o QP):=(Only.of_below br.drew).trans G;have C:=ae (l.only QJ (by omega));have R3:=ae O;have O3:=ae (O2.trans QJ);clear O G QJ d;have d:=ae (SB QP C.box);refine b _ _ d ?_;clear b K
    (try simp only[Act.put,nzL])
    have FI:IntKind.i64.wrap (200+(m3:Int))=200+(m3:Int):=by rw[vF];omega
    iterate 2
     refine oV 9 rfl rfl (by as_aux_lemma=>kernel_rfl) (fun K b=>?_);go_simp;refine b _ _ d ?_;clear b K
     (try simp only[Act.put,nzL])
    refine wpAnyH_done (by as_aux_lemma=>kernel_rfl) ?_ _;clear d SB;by_cases hlt:(B.length:Int)+m.length<200+(m3:Int)
    ·go_wp2_with fail
     have Fo:=C.lt;have SQ:=ae C.keepT;refine bm (BxT (Z a2 B.length c2) (Z QH m.length c5) t.heap.size) 13 (by as_aux_lemma=>kernel_rfl) ?_;have d:=ae (SQ QP.drew (fun j A _=>rfl))
     iterate 3
      refine bw 0 (v:=?_) rfl rfl (by as_aux_lemma=>kernel_rfl) (fun _ _ _ h=>h) rfl ?_ d ?_;rotate_left
      ·(intro wz M;obtain⟨s0,s1⟩:=M;go_simp)
       (try with_reducible rfl)
      (try simp only[Act.put,nzL])
     refine ar (i:=3) rfl (by as_aux_lemma=>kernel_rfl) (fun K b=>?_);go_simp;go_at_call 141;refine(gQ k (by omega) _).mono ?_;rintro e wl ⟨lb,rfl,hlb,ex⟩;have BL:Hid (Below QP.heap.size QP wl):=(Qs QP).drew.trans ex;clear ex d;have d:=ae (SQ wl (fun j A _=>BL.block j A));refine b _ _ (fun _=>d) ?_;clear b K
     (try simp only[Act.put,nzL])
     refine eK (i:=4) (v:=U (⟨#[117]⟩++lb)) rfl (by as_aux_lemma=>kernel_rfl) (by as_aux_lemma=>kernel_rfl) (by as_aux_lemma=>kernel_rfl) (by as_aux_lemma=>kernel_rfl) (fun _ _ _ h=>h) rfl ?_ d ?_
     ·intro wz _
      go_simp;omega
     (try simp only[Act.put,nzL])
     generalize (⟨#[117]⟩:ByteArray)++lb=tn;refine ar (i:=5) rfl (by as_aux_lemma=>kernel_rfl) (fun K b=>?_);go_simp;go_at_call 142;refine(bB _ _).mono ?_;rintro e wm ⟨rfl,FD⟩;have BM:=ae (BL.trans (FD.mono BL.size));clear FD d;have d:=ae (SQ wm (fun j A _=>BM.block j A));refine b _ _ (fun _=>d) ?_;clear b K
     (try simp only[Act.put,nzL])
     refine ar (i:=6) rfl (by as_aux_lemma=>kernel_rfl) (fun K b=>?_);go_simp;go_at_call 143;refine(bn _ _).mono ?_;rintro e QM ⟨rfl,n9⟩;have BN:=ae (BM.trans (n9.mono BM.size));clear n9 d BL BM;have F3:=BN.size;have BI:=ae (BN.alloc (by omega) (T #[Q I 1,U ⟨#[107]⟩,Q I 0,Q I 15,U ⟨#[]⟩,Q I 0] 188));have FV:=C.hi;have OI:=ae (pu QM (base:=w.heap.size+2) (by omega));have d:=ae (SQ QM (fun j A _=>BN.block j A));refine b _ _ (fun _=>d) ?_;clear b K d
     (try simp only[Act.put,nzL])
     have d:=ae (SQ _ (fun j A _=>BI.block j A))
     iterate 3
      refine df 7 rfl rfl (by as_aux_lemma=>kernel_rfl) (fun K b=>?_);go_simp;refine b _ _ (fun _=>d) ?_;clear b K
      (try simp only[Act.put,nzL])
     have Fl:(QM.alloc (T #[Q I 1,U ⟨#[107]⟩,Q I 0,Q I 15,U ⟨#[]⟩,Q I 0] 188)).heap.size=QM.heap.size+1:=by simp
     have AB:=ae (BI.alloc (by omega) (T #[U tn,Z (N (J QM.heap.size 0 Y)) 2 2] 108));refine ar (i:=10) rfl (by as_aux_lemma=>kernel_rfl) (fun K b=>?_);go_simp;have XA:=ae (C.below AB lr);have OA:=ae (own_below OI (br.alloc lr (T #[U tn,Z (N (J QM.heap.size 0 Y)) 2 2] 108)) lr);refine b _ _ (fun _=>SQ _ (fun j A _=>AB.block j A)) ?_;clear b K
     (try simp only[Act.put,nzL])
     refine ar (i:=11) rfl (by as_aux_lemma=>kernel_rfl) (fun K b=>?_);refine bA rfl (.tmp 106) (.tmp 115) 24 rfl (w.heap.size+2) 108 ur (QE #[U ⟨#[]⟩,Z Y 0 0]) 2 40 Tryz.underlying24 A Fh DA DQ rfl (by decide) (Z QH m.length c5) m.length (m.flatMap aV) (by simp[Act.eval]) XA.tgt.own (J (QM.heap.size+1) 0 Y) 1 1 (aV (⟨tn,2,lsI gv⟩,QM.heap.size,2)) (by simp[Act.eval]) rfl (fun j u hu=>kO (Fl) _ _ _ j u hu) (by simp[aV,Value.oneCell']) (by unfold maxLen;omega) (by omega) (by have:=XA.hi;have:=XA.lt;omega) ?_;intro v' w7 QQ y _;obtain⟨a7,c7,rfl⟩:=bh QQ;have S7:=ae (SQ w7 (fun j A mv=>(y.block j (ll A AB.size) mv).trans (AB.block j A)));obtain⟨c8,b8⟩:=XA.addT (x:=⟨tn,2,lsI gv⟩) (g:=QM.heap.size) (c:=2) (fun r hr e=>by have:=C.tgt.ltg r hr;omega) OA QQ y;have X9:=ae c8;have B9:=ae b8;clear QQ y c8 b8;refine b _ _ (fun _=>S7) ?_;clear b K
     (try simp only[Act.put,nzL])
     refine ar (i:=12) rfl (by as_aux_lemma=>kernel_rfl) (fun K b=>?_);go_simp;refine b _ _ (fun _=>S7) ?_;clear b K
     (try simp only[Act.put,nzL])
     obtain⟨s7,t7⟩:=S7.out;have f7:w7.frozen? (J t.heap.size 1 Y)=D:=by simp[World.frozen?,s7]
     have l7:=aC s7;clear s7;refine ar (i:=13) rfl (by as_aux_lemma=>kernel_rfl) (fun K b=>?_);go_simp;refine b _ _ (fun h=>absurd rfl h) ?_;clear b K
     (try simp only[Act.put,nzL])
     refine bJ (by as_aux_lemma=>kernel_rfl) ?_ _;go_wp2;have BB:=ae ((AB.mono (show w.heap.size+2<=QP.heap.size by omega)).trans B9.out);refine⟨⟨k+1,_,Z a7 (m.length+1) c7,m++[((⟨tn,2,lsI gv⟩,QM.heap.size,2):TR)],by go_num,by rw[cM];exact Nat.succ_le_succ hk,by omega,by rw[cM];exact(by omega:m.length+1<=300),X9,G1.add (r:=(⟨tn,2,lsI gv⟩,QM.heap.size,2)) (by show 2<=300;omega) nG,R3.low BB (by omega),O3.then (BB.mono (by omega))⟩,by simp[intOf];omega⟩
    ·have X:=la
     have QK:=la;have bt:=la;have aq:=la;have QN:=ae C.box;have QO:=ae C.res;have H:=ae (fo C.src rfl C.tgt rfl (by omega) (by omega) G1);clear X QK bt aq;go_wp2;go_meet;exact⟨_,_,_,_,_,_,_,_,_,by omega,QN,QO,H,R3,O3⟩
  ·go_wp2_with fail
   refine bm (BxT (Z a2 B.length c2) (Z QH m.length c5) t.heap.size) 14 (by as_aux_lemma=>kernel_rfl) ?_;have d:=ae (sY (W:=o.drew) l.box)
   iterate 3
    refine bw 0 (v:=?_) rfl rfl (by as_aux_lemma=>kernel_rfl) (fun _ _ _ h=>h) rfl ?_ d ?_;rotate_left
    ·(intro wz M;obtain⟨s0,s1⟩:=M;go_simp)
     (try with_reducible rfl)
    (try simp only[Act.put,nzL])
   refine ar (i:=3) rfl (by as_aux_lemma=>kernel_rfl) (fun K b=>?_);go_simp;go_at_call 57;refine(aD R _ 2 _ (R2.below br.drew lr) (by omega) (by omega) (by omega)).mono ?_;rintro e QP ⟨z3,rfl,fd,ph,O,G⟩;obtain⟨m3,rfl⟩:=x4 fd;have QJ:Hid (Only R o QP):=(Only.of_below br.drew).trans G;have C:=ae (l.only QJ (by omega));have R3:=ae O;have O3:=ae (O2.trans QJ);clear O G QJ d;have d:=ae (sY C.box);refine b _ _ (fun _=>d) ?_;clear b K
   (try simp only[Act.put,nzL])
   have hw60:IntKind.i64.wrap (60+(m3:Int))=60+(m3:Int):=by rw[vF];omega
   refine ar (i:=4) rfl (by as_aux_lemma=>kernel_rfl) (fun K b=>?_);go_simp;refine b _ _ (fun _=>d) ?_;clear b K
   (try simp only[Act.put,nzL])
   refine ar (i:=5) rfl (by as_aux_lemma=>kernel_rfl) (fun K b=>?_);go_simp;go_at_call 60;refine(fw ⟨#[110]⟩ (60+m3) _ (by show 1*(60+m3)<=4000;omega) (by omega)).mono ?_;rintro e w4 ⟨tn,rfl,_,rfl⟩;refine b _ _ (fun _=>d) ?_;clear b K d
   (try simp only[Act.put,nzL])
   have SQ:=ae C.keepT;refine ar (i:=6) rfl (by as_aux_lemma=>kernel_rfl) (fun K b=>?_);go_simp;go_at_call 142;refine(bB _ _).mono ?_;rintro e wm ⟨rfl,Fv⟩;have BM:=ae Fv;clear Fv;refine b _ _ (fun _=>SQ wm (fun j A _=>BM.block j A)) ?_;clear b K
   (try simp only[Act.put,nzL])
   refine ar (i:=7) rfl (by as_aux_lemma=>kernel_rfl) (fun K b=>?_);go_simp;go_at_call 143;refine(bn _ _).mono ?_;rintro e QM ⟨rfl,n9⟩;have BN:=ae (BM.trans (n9.mono BM.size));clear n9 BM;have F3:=BN.size;have BI:=ae (BN.alloc (by omega) (T #[Q I 1,U ⟨#[107]⟩,Q I 0,Q I 15,U ⟨#[]⟩,Q I 0] 188));have FV:=C.hi;have Fo:=C.lt;have OI:=ae (pu QM (base:=w.heap.size+2) (by omega));refine b _ _ (fun _=>SQ QM (fun j A _=>BN.block j A)) ?_;clear b K
   (try simp only[Act.put,nzL])
   have d:=ae (SQ _ (fun j A _=>BI.block j A))
   iterate 3
    refine df 8 rfl rfl (by as_aux_lemma=>kernel_rfl) (fun K b=>?_);go_simp;refine b _ _ (fun _=>d) ?_;clear b K
    (try simp only[Act.put,nzL])
   have Fl:(QM.alloc (T #[Q I 1,U ⟨#[107]⟩,Q I 0,Q I 15,U ⟨#[]⟩,Q I 0] 188)).heap.size=QM.heap.size+1:=by simp
   have AB:=ae (BI.alloc (by omega) (T #[U tn,Z (N (J QM.heap.size 0 Y)) 2 2] 108));refine ar (i:=11) rfl (by as_aux_lemma=>kernel_rfl) (fun K b=>?_);go_simp;have XA:=ae (C.below AB lr);have OA:=ae (own_below OI (br.alloc lr (T #[U tn,Z (N (J QM.heap.size 0 Y)) 2 2] 108)) lr);refine b _ _ (fun _=>SQ _ (fun j A _=>AB.block j A)) ?_;clear b K
   (try simp only[Act.put,nzL])
   refine ar (i:=12) rfl (by as_aux_lemma=>kernel_rfl) (fun K b=>?_);refine bA rfl (.tmp 121) (.tmp 131) 24 rfl (w.heap.size+2) 108 ur (QE #[U ⟨#[]⟩,Z Y 0 0]) 2 40 Tryz.underlying24 A Fh DA DQ rfl (by decide) (Z QH m.length c5) m.length (m.flatMap aV) (by simp[Act.eval]) XA.tgt.own (J (QM.heap.size+1) 0 Y) 1 1 (aV (⟨tn,2,lsI gv⟩,QM.heap.size,2)) (by simp[Act.eval]) rfl (fun j u hu=>kO (Fl) _ _ _ j u hu) (by simp[aV,Value.oneCell']) (by unfold maxLen;omega) (by omega) (by have:=XA.hi;have:=XA.lt;omega) ?_;intro v' w7 QQ y _;obtain⟨a7,c7,rfl⟩:=bh QQ;have S7:=ae (SQ w7 (fun j A mv=>(y.block j (ll A AB.size) mv).trans (AB.block j A)));obtain⟨c8,b8⟩:=XA.addT (x:=⟨tn,2,lsI gv⟩) (g:=QM.heap.size) (c:=2) (fun r hr e=>by have:=C.tgt.ltg r hr;omega) OA QQ y;have X9:=ae c8;have B9:=ae b8;clear QQ y c8 b8;refine b _ _ (fun _=>S7) ?_;clear b K
   (try simp only[Act.put,nzL])
   refine ar (i:=13) rfl (by as_aux_lemma=>kernel_rfl) (fun K b=>?_);go_simp;refine b _ _ (fun _=>S7) ?_;clear b K
   (try simp only[Act.put,nzL])
   obtain⟨s7,t7⟩:=S7.out;have f7:w7.frozen? (J t.heap.size 1 Y)=D:=by simp[World.frozen?,s7]
   have l7:=aC s7;clear s7;refine ar (i:=14) rfl (by as_aux_lemma=>kernel_rfl) (fun K b=>?_);go_simp;refine b _ _ (fun h=>absurd rfl h) ?_;clear b K
   (try simp only[Act.put,nzL])
   refine bJ (by as_aux_lemma=>kernel_rfl) ?_ _;have BB:=ae ((AB.mono (show w.heap.size+2<=w4.heap.size by omega)).trans B9.out);have R9:=ae (R3.low BB (by omega));have O9:=ae (O3.then (BB.mono (by omega)));have G9:=ae (G1.add (r:=(⟨tn,2,lsI gv⟩,QM.heap.size,2)) (by show 2<=300;omega) nG);clear t7 f7 l7 d;go_simp;generalize w7.setCell (J t.heap.size 1 Y) (Z a7 (m.length+1) c7)=W9 at X9 R9 O9 ⊢;have QN:=ae X9.box;have QO:=ae X9.res;have H:=ae (fo X9.src rfl X9.tgt (by simp) (by omega) (by rw[cM];exact(by omega:m.length+1<=300)) G9);clear X QK bt aq;go_wp2;go_meet;exact⟨_,_,_,_,_,_,_,_,_,by omega,QN,QO,H,R9,O9⟩
  ·have BQ:=ae ((Qs o).alloc lr (T #[U ⟨#[97]⟩,Z Y 0 0] 108))
   have XQ:=ae (l.below BQ lr);go_wp2_with (at_builtin;refine bu _ rfl (.tmp 137) (.tmp 139) 24 rfl (w.heap.size+2) 108 ur (QE #[U ⟨#[]⟩,Z Y 0 0]) 2 40 Tryz.underlying24 A Fh DA DQ rfl (by decide) (Z QH m.length c5) m.length (m.flatMap aV) (by simp[Act.eval]) XQ.tgt.own (J o.heap.size 0 Y) 1 1 [U ⟨#[97]⟩,Z Y 0 0] (by simp[Act.eval]) rfl (fun j u hu=>cT o _ _ _ j u hu) (by simp[Value.oneCell']) (by unfold maxLen;omega) (by omega) (by have:=l.hi;simp;omega) ?_;intro v' QP QQ y _;obtain⟨a7,c7,rfl⟩:=bh QQ;obtain⟨hE,hB,hQ,ex⟩:=XQ.addNil QQ y (by omega) (by omega) G1.out;have H:=ae hE;have Fx:=ae ex;have QN:=ae hB;have QO:=ae hQ;have kb:=gS y XQ.tgt.type XQ.box (by decide);clear QQ y hE hB hQ ex X QK bt aq;have e0:QP.cell? (J t.heap.size 0 Y)=N (Z a2 B.length c2):=(by simp[World.cell?,kb]);have e1:QP.cell? (J t.heap.size 1 Y)=N (Z QH m.length c5):=(by simp[World.cell?,kb]);have f2:QP.frozen? (J t.heap.size 1 Y)=D:=(by simp[World.frozen?,kb]);have l1:=aC kb;have mv:=XQ.hi;clear kb);go_meet;exact⟨_,_,_,_,_,_,_,_,_,by omega,QN,QO,H,R2.low (BQ.mono (show w.heap.size+2<=o.heap.size by omega) |>.trans Fx.out) (by omega),O2.then ((BQ.mono (show w.heap.size<=o.heap.size by omega)).trans (Fx.mono (by omega)))⟩
  ·by_cases hl:1<(B.length:Int)
   ·go_wp2_with fail
    obtain⟨gs,rfl⟩:=jt l.src (by omega)
    obtain⟨QL,x1,QG,rfl⟩:∃ QL x1 QG,B=QL :: x1 :: QG:=(by
     match B,hl with
     | [],h=>simp at h
     | [_],h=>simp at h
     | QL :: x1 :: QG,_=>exact⟨QL,x1,QG,rfl⟩)
    have FQ:=(l.src.lt gs rfl).2;have kx:=(bv l.src (j:=0) (u:=U QL.name) rfl).1;obtain⟨ky,kz⟩:=bv l.src (j:=2) (u:=U x1.name) rfl;obtain⟨x3,b3⟩:=l.setS (j:=2) (LS':=QL :: ⟨QL.name,x1.text⟩ :: QG) (U QL.name) rfl rfl;have C:=ae x3;have B3:=ae b3;clear x3 b3;have ld:(QL :: x1 :: QG).length<=100:=by omega
    have FK:(1:Int)<(QL :: x1 :: QG).length:=hl;generalize P:(QL :: x1 :: QG).length=nl at *;have HL:=ae P;clear P;have Fr:0<nl:=by omega
    have FO:1<nl:=by omega
    refine bm (fun V=>V.cell? (J t.heap.size 0 Y)=N (Z (N (J gs 0 Y)) nl c2)/\V.cell? (J gs 0 Y)=N (U QL.name)) 9 (by as_aux_lemma=>kernel_rfl) ?_;have d:Hid ((o.drew.cell? (J t.heap.size 0 Y)=N (Z (N (J gs 0 Y)) nl c2))/\o.drew.cell? (J gs 0 Y)=N (U QL.name)):=⟨X,kx⟩
    iterate 7
     refine bw 0 (v:=?_) rfl rfl (by as_aux_lemma=>kernel_rfl) (fun _ _ _ h=>h) rfl ?_ d ?_;rotate_left
     ·(intro wz M;obtain⟨s0,s1⟩:=M;go_simp)
      (try with_reducible rfl)
     (try simp only[Act.put,nzL])
    iterate 2
     refine df 7 rfl rfl (by as_aux_lemma=>kernel_rfl) (fun K b=>?_);go_simp;refine b _ _ (fun _=>d) ?_;clear b K
     (try simp only[Act.put,nzL])
    refine ar (i:=9) rfl (by as_aux_lemma=>kernel_rfl) (fun K b=>?_);go_simp;refine b _ _ (fun h=>absurd rfl h) ?_;clear b K
    (try simp only[Act.put,nzL])
    refine bJ (by as_aux_lemma=>kernel_rfl) ?_ _;have R3:=ae ((R2.low B3 (by omega)).below br.drew lr);have O3:=ae (O2.then ((B3.mono (show w.heap.size<=w.heap.size+2 by omega)).drew));have XD:=ae (C.below br.drew lr);clear d kx ky kz hl FK;go_simp;generalize (o.setCell (J gs 2 Y) (U QL.name)).drew=W3 at XD R3 O3 ⊢;have QN:=ae XD.box;have QO:=ae XD.res;have H:=ae (fo XD.src HL.symm XD.tgt rfl (by have:=HL.out;simp only[p7] at this ⊢;omega) (by omega) G1);clear X QK bt aq;go_wp2;go_meet;exact⟨_,_,_,_,_,_,_,_,_,by omega,QN,QO,H,R3,O3⟩
   ·skip
    have QN:=ae l.box;have QO:=ae l.res;have H:=ae (fo l.src rfl l.tgt rfl (by omega) (by omega) G1);go_wp2;go_meet;exact⟨_,_,_,_,_,_,_,_,_,by omega,QN,QO,H,R2,O2⟩
 case rest =>
 clear l R2 O2 X QK bt aq la;obtain⟨b0,m0,k0,g0,b1,m1,k1,g1,q',hq',QN,QO,H,R9,O9⟩:=hcut;generalize wc=W9 at QN QO H R9 O9 ⊢;have kb:=QN.out;have kr:=QO.out;have e0:W9.cell? (J t.heap.size 0 Y)=N (Z b0 m0 k0):=by simp[World.cell?,kb]
 have e1:W9.cell? (J t.heap.size 1 Y)=N (Z b1 m1 k1):=by simp[World.cell?,kb]
 have r0:W9.cell? (J (w.heap.size+1) 0 Y)=N (Z Y 0 0):=by simp[World.cell?,kr]
 have r1:W9.cell? (J (w.heap.size+1) 1 Y)=N (Z Y 0 0):=by simp[World.cell?,kr]
 have f0:W9.frozen? (J (w.heap.size+1) 0 Y)=D:=by simp[World.frozen?,kr]
 have f1:W9.frozen? (J (w.heap.size+1) 1 Y)=D:=by simp[World.frozen?,kr]
 have l0:=aC kr;have l1:=aC kb;clear kb kr;have BE:=ae (((eI w.heap.size W9).setCell (p:=(J (w.heap.size+1) 0 Y)) (AS _) (Z b0 m0 k0)).setCell (p:=(J (w.heap.size+1) 1 Y)) (AS _) (Z b1 m1 k1));have FZ:=ae ((H.agr ((dH (j:=0) (show w.heap.size+1<w.heap.size+2 by omega) (Z b0 m0 k0)).trans (dH (j:=1) (show w.heap.size+1<w.heap.size+2 by omega) (Z b1 m1 k1)))).mono (show w.heap.size<=w.heap.size+2 by omega));go_wp2;exact bp (v:=QE #[Z b0 m0 k0,Z b1 m1 k1]) (by simp[results,Tryz.results116,go_sem,r0,r1]) rfl ⟨_,_,_,_,_,_,_,_,rfl,FZ,_,by omega,R9.low BE FJ,O9.then BE⟩
theorem Du {w:E}{b:Nat}{s0 s1 d:ByteArray}{t:QF}{fz:Nat × Nat}(h:w.heap[b]?=N (T #[U s0,U s1,U d] t fz))(f:s0.size<=5000)(h1:s1.size<=5000)(h2:d.size<=5000)(k:Nat)(g:k<3):∃ s:ByteArray,w.cell? (J b k Y)=N (U s)/\s.size<=5000:=by
 match k,g with
 | 0,_=>exact⟨s0,by simp[World.cell?,h],f⟩
 | 1,_=>exact⟨s1,by simp[World.cell?,h],h1⟩
 | 2,_=>exact⟨d,by simp[World.cell?,h],h2⟩
 | j+3,h5=>exact absurd h5 (by omega)
theorem Dv {w:E}{d:Nat}{a0 a1:Option Addr}{c0 c1:Nat}{f:List Source}{b:List TR}(j:w.ownsRow d 104 2 (Z a0 f.length c0) f.length (f.flatMap bC))(l:TRow w d (Z a1 b.length c1) b)(g:SpG f b)(k:f.length<=300)(h1:b.length<=300):HSp d w a0 f.length (aP f) a1 b.length (bo (b.map (·.1)))/\∀ i,i<b.length->1<=(bo (b.map (·.1)) i).actN/\(bo (b.map (·.1)) i).actN<=200:=by
 refine⟨fo j rfl l rfl k h1 (fun r h=>⟨by have:=(g.t r h).2.1.2;omega,(g.t r h).2.2⟩),fun i hi=>?_⟩;have e:bo (b.map (·.1)) i=b[i].1:=by simp[bo,hi]
 rw[e];exact(g.t _ (gz hi)).2.1
theorem qk (R p:Nat)(w:E)(hR:Rd w R p)(hp:p<=9000):Calls Tryz.prog 55 #[.pointer (N (J R 0 Y))] w fun e w'=>DH w R (p+6300) e w':=by
 have HR:=ae hR;have r:=hR.lt;clear hR;go_enter Tryz.func55,Tryz.ntmps55;go_wp2_with fail;have M:=ae ((Qs w).alloc lr (T #[Z Y 0 0,Z Y 0 0] 26));have S:Hid ((w.alloc (T #[Z Y 0 0,Z Y 0 0] 26)).heap[w.heap.size]?=N (T #[Z Y 0 0,Z Y 0 0] 26 (0,0))):=eL w _;have la:(w.alloc (T #[Z Y 0 0,Z Y 0 0] 26)).heap.size=w.heap.size+1:=by simp
 generalize w.alloc (T #[Z Y 0 0,Z Y 0 0] 26)=W0 at M S la ⊢;refine(aD R p 24 _ (HR.below M lr) (by omega) (by omega) (by omega)).mono ?_;rintro e w1 ⟨z,rfl,hz0',hz1',O,x⟩;have K:=ae O;have G:=ae ((Only.of_below M).trans x:Only R w w1);have L:=ae ((x.block w.heap.size (by omega) (by omega)).trans S);have hs1:=x.size;clear O x M S;by_cases hk:z=0
 ·subst hk
  go_wp2_with fail;refine(aD R _ 3 _ K (by omega) (by omega) (by omega)).mono ?_;rintro e b ⟨z2,rfl,bt,h21,m,f⟩;obtain⟨QP,rfl⟩:=x4 bt;have g:=ae m;have k:=ae (G.trans f);have h:=ae ((f.block w.heap.size (by omega) (by omega)).trans L);have fd:=f.size;clear m f K G L;have hw1:IntKind.i64.wrap (60+(QP:Int))=60+(QP:Int):=by rw[vF];omega
  have hw2:IntKind.i64.wrap (60+(QP:Int) - 1)=59+(QP:Int):=by rw[vF];omega
  go_wp2_with fail;have QL:=ae ((Qs b).alloc lr (T #[U ⟨#[97]⟩,U ⟨#[110,111,110,101]⟩,U ⟨#[116,48,48,48]⟩] 9));have QK:=ae (g.below QL lr);have QJ:=ae (k.then (QL.mono (by omega)));have KL:=ae ((QL.block w.heap.size (by omega)).trans h);have C:(b.alloc (T #[U ⟨#[97]⟩,U ⟨#[110,111,110,101]⟩,U ⟨#[116,48,48,48]⟩] 9)).heap[b.heap.size]?=N (T #[U ⟨#[97]⟩,U ⟨#[110,111,110,101]⟩,U ⟨#[116,48,48,48]⟩] 9 (0,0)):=eL b _;have u:=aC C;have QQ:=ae C;clear QL C g k h;generalize b.alloc (T #[U ⟨#[97]⟩,U ⟨#[110,111,110,101]⟩,U ⟨#[116,48,48,48]⟩] 9)=WL at QK QJ KL QQ u ⊢;refine(aD R _ 3 _ QK (by omega) (by omega) (by omega)).mono ?_;rintro e s ⟨z3,rfl,mv,h31,n,d⟩;obtain⟨m3,rfl⟩:=x4 mv;have ex:m3<3:=by omega
  have QN:=ae n;have H:=ae (QJ.trans d);have QO:=ae ((d.block w.heap.size (by omega) (by omega)).trans KL);obtain⟨sx,aq,n6⟩:=Du ((d.block b.heap.size u (by omega)).trans QQ) (MQ rfl) (MQ rfl) (MQ rfl) m3 ex;have hs4:=d.size;clear n d QQ QK QJ KL;go_wp2_with fail;refine(uo (59+QP) (by omega) sx n6 _).mono ?_;rintro e B ⟨a0,n0,c0,f0,a1,n1,c1,f1,rfl,P,t⟩;have H4:=ae (P.mono (show w.heap.size+1<=s.heap.size by omega));have R4:=ae (QN.below t lr);have O4:=ae (H.then (t.mono (by omega)));have K4:=ae ((t.block w.heap.size (by omega)).trans QO);clear P t QN H QO aq;have kr:=K4.out;have r0:B.cell? (J w.heap.size 0 Y)=N (Z Y 0 0):=by simp[World.cell?,kr]
  have r1:B.cell? (J w.heap.size 1 Y)=N (Z Y 0 0):=by simp[World.cell?,kr]
  have f0:B.frozen? (J w.heap.size 0 Y)=D:=by simp[World.frozen?,kr]
  have f1:B.frozen? (J w.heap.size 1 Y)=D:=by simp[World.frozen?,kr]
  have QH:=aC kr;clear kr;have q:=ae (((eI w.heap.size B).setCell (p:=(J w.heap.size 0 Y)) lr (Z a0 n0 c0)).setCell (p:=(J w.heap.size 1 Y)) lr (Z a1 n1 c1));have o:=ae ((H4.agr ((dH (j:=0) (lj w.heap.size) (Z a0 n0 c0)).trans (dH (j:=1) (lj w.heap.size) (Z a1 n1 c1)))).mono (AS w.heap.size));go_wp2;exact bp (v:=QE #[Z a0 n0 c0,Z a1 n1 c1]) (by simp[results,Tryz.results55,go_sem,r0,r1]) rfl ⟨_,_,_,_,_,_,_,_,rfl,o,_,by omega,R4.low q r,O4.then q⟩
 ·go_wp2_with fail
  refine(xr R _ _ K (by omega)).mono ?_;rintro e b ⟨i,l,v0,v1,rfl,V,ht,hG,hl0,hl1,q2,hq2,m,f⟩;obtain⟨a0,c0,rfl⟩:=bh V;obtain⟨a1,c1,rfl⟩:=bh ht.own;obtain⟨hh,hg⟩:=Dv V ht hG (by omega) (by omega);have A:=ae (hh.mono (show w.heap.size+1<=w1.heap.size+2 by omega));have QG:=ae hg;have g:=ae m;have k:=ae (G.trans f);have h:=ae ((f.block w.heap.size (by omega) (by omega)).trans L);have fd:=f.size;clear V ht hG hh hg m f K G L;by_cases hk3:z<3
  ·have y:=ae ((Qs b).alloc lr (T #[Z a0 i.length c0,Z a1 l.length c1] 26))
   have A:=ae (A.agr (dB y lr));have g:=ae (g.below y lr);have k:=ae (k.then (y.mono (by omega)));have h:=ae ((y.block w.heap.size (by omega)).trans h);have u:=y.size;clear y;go_wp2_with fail;generalize b.alloc (T #[Z a0 i.length c0,Z a1 l.length c1] 26)=WS at A g k h u ⊢;refine(uq R q2 (w.heap.size+1) i.length c0 l.length c1 a0 _ a1 _ _ g (by omega) A QG (by omega) (by omega)).mono ?_;rintro e s ⟨b0,m0,d0,g0,X,W,d1,g1,rfl,QM,q3,hq3,n,d⟩;have H3:=ae (QM.mono (show w.heap.size+1<=WS.heap.size by omega));have QN:=ae n;have H:=ae (k.trans d);have QO:=ae ((d.block w.heap.size (by omega) (by omega)).trans h);clear QM n d A g k h QG;have kr:=QO.out;have r0:s.cell? (J w.heap.size 0 Y)=N (Z Y 0 0):=by simp[World.cell?,kr]
   have r1:s.cell? (J w.heap.size 1 Y)=N (Z Y 0 0):=by simp[World.cell?,kr]
   have f0:s.frozen? (J w.heap.size 0 Y)=D:=by simp[World.frozen?,kr]
   have f1:s.frozen? (J w.heap.size 1 Y)=D:=by simp[World.frozen?,kr]
   have QH:=aC kr;clear kr;have q:=ae (((eI w.heap.size s).setCell (p:=(J w.heap.size 0 Y)) lr (Z b0 m0 d0)).setCell (p:=(J w.heap.size 1 Y)) lr (Z X W d1));have o:=ae ((H3.agr ((dH (j:=0) (lj w.heap.size) (Z b0 m0 d0)).trans (dH (j:=1) (lj w.heap.size) (Z X W d1)))).mono (AS w.heap.size));go_wp2;exact bp (v:=QE #[Z b0 m0 d0,Z X W d1]) (by simp[results,Tryz.results55,go_sem,r0,r1]) rfl ⟨_,_,_,_,_,_,_,_,rfl,o,_,by omega,QN.low q r,H.then q⟩
  ·clear QG
   have kr:=h.out;have r0:b.cell? (J w.heap.size 0 Y)=N (Z Y 0 0):=by simp[World.cell?,kr]
   have r1:b.cell? (J w.heap.size 1 Y)=N (Z Y 0 0):=by simp[World.cell?,kr]
   have f0:b.frozen? (J w.heap.size 0 Y)=D:=by simp[World.frozen?,kr]
   have f1:b.frozen? (J w.heap.size 1 Y)=D:=by simp[World.frozen?,kr]
   have QH:=aC kr;clear kr;have ld:((b.setCell (J w.heap.size 0 Y) (Z a0 i.length c0)).setCell (J w.heap.size 1 Y) (Z a1 l.length c1)).heap.size=b.heap.size:=by simp
   have q:=ae ((((eI w.heap.size b).setCell (p:=(J w.heap.size 0 Y)) lr (Z a0 i.length c0)).setCell (p:=(J w.heap.size 1 Y)) lr (Z a1 l.length c1)).alloc (by omega) (T #[Z a0 i.length c0,Z a1 l.length c1] 26));have o:=ae ((A.agr (((dH (j:=0) (lj w.heap.size) (Z a0 i.length c0)).trans (dH (j:=1) (lj w.heap.size) (Z a1 l.length c1))).trans (dB (br.alloc lr (T #[Z a0 i.length c0,Z a1 l.length c1] 26)) lr))).mono (AS w.heap.size));clear ld;go_wp2;exact bp (v:=QE #[Z a0 i.length c0,Z a1 l.length c1]) (by simp[results,Tryz.results55,go_sem,r0,r1,QH]) rfl ⟨_,_,_,_,_,_,_,_,rfl,o,_,by omega,g.low q r,k.then q⟩
theorem jv (R p b0 n0 c0 n1 c1:Nat)(a0:Option Addr)(f0:Nat->Source)(a1:Option Addr)(f1:Nat->Target)(w:E)(hR:Rd w R p)(hp:p<=50000)(hb:R<b0)(hH:HSp b0 w a0 n0 f0 a1 n1 f1):Calls Tryz.prog 58 #[.pointer (N (J R 0 Y)),QE #[Z a0 n0 c0,Z a1 n1 c1]] w fun e W=>∃ t:ByteArray,e=QD (U t)/\∃ q:Nat,q<=p+3/\Rd W R q/\Only R w W:=by
 have QH:=ae hR;have hlow:=hR.lt;have hn1:=hH.hn1;have QG:=ae hH;clear hR hH;have x:=ae ((Qs w).alloc lr (T #[Z a0 n0 c0,Z a1 n1 c1] 26));have B:Hid ((w.alloc (T #[Z a0 n0 c0,Z a1 n1 c1] 26)).heap[w.heap.size]?=N (T #[Z a0 n0 c0,Z a1 n1 c1] 26 (0,0))):=eL w _;have QQ:(w.alloc (T #[Z a0 n0 c0,Z a1 n1 c1] 26)).heap.size=w.heap.size+1:=by simp
 by_cases hn:0<(n1:Int)
 ·go_enter Tryz.func58,Tryz.ntmps58
  go_wp2_with fail;generalize w.alloc (T #[Z a0 n0 c0,Z a1 n1 c1] 26)=k at x B QQ ⊢;have QN:=ae (QH.below x lr);have L:Hid (Only R w k):=Only.of_below x;refine(aD R p 8 _ QN (by omega) (by omega) (by omega)).mono ?_;rintro e j ⟨z,rfl,hz0',hz1',QL,QP⟩;have X:=ae QL;have QJ:=ae (L.trans QP);have K1:=ae ((QP.block w.heap.size (by omega) (by omega)).trans B);clear QL QP QN L B x;have O:=K1.out;have QM:j.cell? (J w.heap.size 1 Y)=N (Z a1 n1 c1):=by simp[World.cell?,O]
  have l1:=aC O;clear O;by_cases hz:0<z
  ·go_wp2_with fail
   refine bm (fun V=>V.cell? (J w.heap.size 1 Y)=N (Z a1 n1 c1)) 10 (by as_aux_lemma=>kernel_rfl) ?_;have G:Hid (j.drew.cell? (J w.heap.size 1 Y)=N (Z a1 n1 c1)):=QM
   iterate 6
    refine bw 0 (v:=?_) rfl rfl (by as_aux_lemma=>kernel_rfl) (fun _ _ _ h=>h) rfl ?_ G ?_;rotate_left
    ·(intro wz s0;go_simp)
     (try with_reducible rfl)
    (try simp only[Act.put,nzL])
   refine ar (i:=6) rfl (by as_aux_lemma=>kernel_rfl) (fun K H=>?_);go_simp;go_at_call 57;refine(aD R _ (n1:Int) _ (X.below br.drew lr) (by omega) (by omega) (by omega)).mono ?_;rintro e QO ⟨z3,rfl,n,M,d,b⟩;obtain⟨o,rfl⟩:=x4 n;have S:Hid (Only R j QO):=(Only.of_below br.drew).trans b;have C:=ae d;have A:=ae (QJ.trans S);have l:o<n1:=by omega
   clear d b G;have G:Hid (QO.cell? (J w.heap.size 1 Y)=N (Z a1 n1 c1)):=(S.cell w.heap.size 1 l1 (by omega)).trans QM;rcases(QG.sl QO (A.agr hb)).2 with h0 | ⟨tb,tof,rfl,u⟩
   ·omega
   have kn:=(u.2 o l).1;have hl:=u.1;clear u QM;refine H _ _ (fun _=>G) ?_;clear H K
   (try simp only[Act.put,nzL])
   iterate 4
    refine df 7 rfl rfl (by as_aux_lemma=>kernel_rfl) (fun K H=>?_);go_simp;refine H _ _ (fun _=>G) ?_;clear H K
    (try simp only[Act.put,nzL])
   refine bJ (by as_aux_lemma=>kernel_rfl) ?_ _;go_wp2;go_ret;exact⟨_,rfl,_,by omega,C,A⟩
  ·go_wp2_with fail
   have y:=ae ((Qs j).alloc lr (T #[U ⟨#[97]⟩,U ⟨#[110,111,110,101]⟩,U ⟨#[]⟩,U ⟨#[120,32,121]⟩,U ⟨#[116,48]⟩] 9));have r:=ae (X.below y lr);have s:=ae (QJ.then (y.mono (by omega)));have f:(j.alloc (T #[U ⟨#[97]⟩,U ⟨#[110,111,110,101]⟩,U ⟨#[]⟩,U ⟨#[120,32,121]⟩,U ⟨#[116,48]⟩] 9)).heap[j.heap.size]?=N (T #[U ⟨#[97]⟩,U ⟨#[110,111,110,101]⟩,U ⟨#[]⟩,U ⟨#[120,32,121]⟩,U ⟨#[116,48]⟩] 9 (0,0)):=eL j _;have m:=aC f;have g:=ae f;clear y f;generalize j.alloc (T #[U ⟨#[97]⟩,U ⟨#[110,111,110,101]⟩,U ⟨#[]⟩,U ⟨#[120,32,121]⟩,U ⟨#[116,48]⟩] 9)=WL at r s g m ⊢;refine(aD R _ 5 _ r (by omega) (by omega) (by omega)).mono ?_;rintro e QO ⟨z3,rfl,n,M,d,b⟩;obtain⟨o,rfl⟩:=x4 n;have l:o<5:=by omega
   have C:=ae d;have A:=ae (s.trans b);obtain⟨P,QK⟩:=mE ((b.block (j.heap.size) m (by omega)).trans g) o l;clear d b g r s;go_wp2;go_ret;exact⟨P,rfl,_,by omega,C,A⟩
 ·go_enter Tryz.func58,Tryz.ntmps58
  go_wp2_with fail;generalize w.alloc (T #[Z a0 n0 c0,Z a1 n1 c1] 26)=k at x B QQ ⊢;have QN:=ae (QH.below x lr);have L:Hid (Only R w k):=Only.of_below x;have l0:=aC B.out;have y:=ae ((Qs k).alloc lr (T #[U ⟨#[97]⟩,U ⟨#[110,111,110,101]⟩,U ⟨#[]⟩,U ⟨#[120,32,121]⟩,U ⟨#[116,48]⟩] 9));have r:=ae (QN.below y lr);have s:=ae (L.then (y.mono (by omega)));have f:(k.alloc (T #[U ⟨#[97]⟩,U ⟨#[110,111,110,101]⟩,U ⟨#[]⟩,U ⟨#[120,32,121]⟩,U ⟨#[116,48]⟩] 9)).heap[w.heap.size+1]?=N (T #[U ⟨#[97]⟩,U ⟨#[110,111,110,101]⟩,U ⟨#[]⟩,U ⟨#[120,32,121]⟩,U ⟨#[116,48]⟩] 9 (0,0)):=(by rw[<-QQ];exact eL k _)
  have m:=aC f;have g:=ae f;clear y f;generalize k.alloc (T #[U ⟨#[97]⟩,U ⟨#[110,111,110,101]⟩,U ⟨#[]⟩,U ⟨#[120,32,121]⟩,U ⟨#[116,48]⟩] 9)=WL at r s g m ⊢;refine(aD R _ 5 _ r (by omega) (by omega) (by omega)).mono ?_;rintro e QO ⟨z3,rfl,n,M,d,b⟩;obtain⟨o,rfl⟩:=x4 n;have l:o<5:=by omega
  have C:=ae d;have A:=ae (s.trans b);obtain⟨P,QK⟩:=mE ((b.block (w.heap.size+1) m (by omega)).trans g) o l;clear d b g r s;go_wp2;go_ret;exact⟨P,rfl,_,by omega,C,A⟩
def DMk (w:E)(e:Ending)(b:E):Prop:=∃ (a0:Option Addr) (n0 c0:Nat) (f0:Nat->Source) (a1:Option Addr) (n1 c1:Nat) (f1:Nat->Target) (t:ByteArray),e=QD (.tuple #[QE #[Z a0 n0 c0,Z a1 n1 c1],U t])/\HSp w.heap.size b a0 n0 f0 a1 n1 f1/\Below w.heap.size w b
theorem qY (a:Option Addr)(n s:Nat)(w:E)(hn:(n:Int)<=1048576)(hc:n<=s)(q:ByteSl w a n):Calls Tryz.prog 92 #[Z a n s] w fun e w'=>DMk w e w':=by
 have QG:=ae q;clear q;go_enter Tryz.func92,Tryz.ntmps92;go_wp2_with fail;have A:=ae ((Qs w).alloc lr (T #[Z Y 0 0,Z Y 0 0] 26));have G:Hid ((w.alloc (T #[Z Y 0 0,Z Y 0 0] 26)).heap[w.heap.size]?=N (T #[Z Y 0 0,Z Y 0 0] 26 (0,0))):=eL w _;have P:(w.alloc (T #[Z Y 0 0,Z Y 0 0] 26)).heap.size=w.heap.size+1:=by simp
 generalize w.alloc (T #[Z Y 0 0,Z Y 0 0] 26)=W0 at A G P ⊢;refine(kg a n s _ hn hc (QG.below A lr)).mono ?_;rintro e H ⟨R,rfl,hRz,m,k⟩;have QK:=ae m;have QN:=ae (A.trans (k.mono (by omega)));have QJ:=ae ((k.block w.heap.size (by omega)).trans G);have hs1:=k.size;have O:=m.lt;clear m k A G;go_wp2_with fail;refine(qk R 0 _ QK (by omega)).mono ?_;rintro e b ⟨a0,n0,c0,f0,a1,n1,c1,f1,rfl,B,q2,hq2,C,l⟩;have hs2:=l.size;have u:=ae ((Qs b).alloc lr (T #[Z a0 n0 c0,Z a1 n1 c1] 26));have QO:=ae (C.below u lr);have L:=QN.trans (l.below (by omega) QN.size);have y:=ae (L.trans (u.mono L.size));have x:=ae (B.agr (dB u lr));have z:=ae ((u.block w.heap.size (by omega)).trans ((l.block w.heap.size (by omega) (by omega)).trans QJ));have r:Hid ((b.alloc (T #[Z a0 n0 c0,Z a1 n1 c1] 26)).heap[b.heap.size]?=N (T #[Z a0 n0 c0,Z a1 n1 c1] 26 (0,0))):=eL b _;have QQ:R<H.heap.size:=O;clear u B C l L QN QJ QK;go_upto_region 3 with fail;generalize b.alloc (T #[Z a0 n0 c0,Z a1 n1 c1] 26)=W at QO y x z r ⊢;go_wp2_with fail;have SB:Hid (∀ V:E,V.heap[b.heap.size]?=N (T #[Z a0 n0 c0,Z a1 n1 c1] 26 (0,0))->V.heap[b.heap.size]?=N (T #[Z a0 n0 c0,Z a1 n1 c1] 26 (0,0))/\V.cell? (J b.heap.size 0 Y)=N (Z a0 n0 c0)/\V.cell? (J b.heap.size 1 Y)=N (Z a1 n1 c1)):=fun V h=>⟨h,by simp[World.cell?,h],by simp[World.cell?,h]⟩
 refine wp_region_held_drew (S:=fun V=>V.heap[b.heap.size]?=N (T #[Z a0 n0 c0,Z a1 n1 c1] 26 (0,0))/\V.cell? (J b.heap.size 0 Y)=N (Z a0 n0 c0)/\V.cell? (J b.heap.size 1 Y)=N (Z a1 n1 c1)) (by as_aux_lemma=>kernel_rfl) (SB W r) (fun q=>?_);have d:=ae q;clear q
 iterate 3
  refine bS 0 (v:=?_) rfl rfl (by as_aux_lemma=>kernel_rfl) (fun _ _ _ h=>h) rfl ?_ d ?_;rotate_left
  ·(intro wz M;obtain⟨s0,s1,s2⟩:=M;go_simp)
   (try with_reducible rfl)
  (try simp only[Act.put,nzL])
 refine bN (i:=3) rfl (by as_aux_lemma=>kernel_rfl) (fun K f=>?_);go_simp;go_at_call 58;refine(jv R _ H.heap.size n0 c0 n1 c1 a0 f0 a1 f1 _ (QO.below br.drew lr) (by omega) QQ (x.agr (dB br.drew lr))).mono ?_;rintro e g ⟨t,rfl,q8,hq8,hR,QP⟩;have o:Only R W g:=(Only.of_below br.drew).trans QP;clear QP d;have QH:=ae (y.trans (o.below (by omega) y.size));have X:=ae (x.agr (o.agr QQ));have K8:=ae ((o.block w.heap.size (aC z) (by omega)).trans z);have QL:=ae ((o.block b.heap.size (aC r) (by omega)).trans r);have R8:=ae hR;clear o hR y x z r QO;have d:=ae (SB g QL);refine f _ _ d ?_;clear f K
 (try simp only[Act.put,nzL])
 have HM:=ae (X.mono (show w.heap.size+1<=H.heap.size by omega));have kr:=K8.out;have r0:g.cell? (J w.heap.size 0 Y)=N (Z Y 0 0):=by simp[World.cell?,kr]
 have r1:g.cell? (J w.heap.size 1 Y)=N (Z Y 0 0):=by simp[World.cell?,kr]
 have f0:g.frozen? (J w.heap.size 0 Y)=D:=by simp[World.frozen?,kr]
 have f1:g.frozen? (J w.heap.size 1 Y)=D:=by simp[World.frozen?,kr]
 have l0:=aC kr;clear kr;refine bN (i:=4) rfl (by as_aux_lemma=>kernel_rfl) (fun K f=>?_);go_simp;clear d;have d:=ae (SB ((g.setCell (J w.heap.size 0 Y) (Z a0 n0 c0)).setCell (J w.heap.size 1 Y) (Z a1 n1 c1)) (((qh _ (J w.heap.size 1 Y) _ b.heap.size (by show b.heap.size≠w.heap.size;omega)).trans (qh _ (J w.heap.size 0 Y) _ b.heap.size (by show b.heap.size≠w.heap.size;omega))).trans QL));refine f _ _ d ?_;clear f K
 (try simp only[Act.put,nzL])
 have BE:=ae ((QH.setCell (p:=(J w.heap.size 0 Y)) lr (Z a0 n0 c0)).setCell (p:=(J w.heap.size 1 Y)) lr (Z a1 n1 c1));have QM:=ae ((HM.agr ((dH (j:=0) (show w.heap.size<w.heap.size+1 by omega) (Z a0 n0 c0)).trans (dH (j:=1) (show w.heap.size<w.heap.size+1 by omega) (Z a1 n1 c1)))).mono (AS w.heap.size));refine bN (i:=5) rfl (by as_aux_lemma=>kernel_rfl) (fun K f=>?_);go_simp;refine f _ _ d ?_;clear f K
 (try simp only[Act.put,nzL])
 refine wpAnyH_done (by as_aux_lemma=>kernel_rfl) ?_ _;go_wp2;exact bp (v:=.tuple #[QE #[Z a0 n0 c0,Z a1 n1 c1],U t]) (by simp[results,Tryz.results92,go_sem,r0,r1]) rfl ⟨_,_,_,_,_,_,_,_,_,rfl,QM,BE⟩
theorem ti (a:Option Addr)(n b:Nat)(w:E)(u:(n:Int)<=1048576)(q:n<=b)(k:ByteSl w a n):Calls Tryz.prog 21 #[Z a n b] w fun e r=>DMk w e r:=by
 have f:=ae ((Qs w).alloc lr (T #[Z Y 0 0,Z Y 0 0] 26));have h:Hid ((w.alloc (T #[Z Y 0 0,Z Y 0 0] 26)).heap[w.heap.size]?=N (T #[Z Y 0 0,Z Y 0 0] 26 (0,0))):=eL w _;have l:(w.alloc (T #[Z Y 0 0,Z Y 0 0] 26)).heap.size=w.heap.size+1:=by simp
 have g:=ae (qY a n b (w.alloc (T #[Z Y 0 0,Z Y 0 0] 26)) u q (k.below f lr));clear k;go_enter Tryz.func21,Tryz.ntmps21;go_wp2_with fail;generalize w.alloc (T #[Z Y 0 0,Z Y 0 0] 26)=o at f h l g ⊢;refine g.mono ?_;rintro e d ⟨a0,n0,c0,f0,a1,n1,c1,f1,t,rfl,hH,i⟩;have kr:=(i.block w.heap.size (by omega)).trans h;have r0:d.cell? (J w.heap.size 0 Y)=N (Z Y 0 0):=by simp[World.cell?,kr]
 have r1:d.cell? (J w.heap.size 1 Y)=N (Z Y 0 0):=by simp[World.cell?,kr]
 have f0':d.frozen? (J w.heap.size 0 Y)=D:=by simp[World.frozen?,kr]
 have f1':d.frozen? (J w.heap.size 1 Y)=D:=by simp[World.frozen?,kr]
 have l0:=aC kr;have s:=ae (((f.trans (i.mono (by omega))).setCell (p:=(J w.heap.size 0 Y)) lr (Z a0 n0 c0)).setCell (p:=(J w.heap.size 1 Y)) lr (Z a1 n1 c1));have m:=ae (((hH.mono (show w.heap.size+1<=o.heap.size by omega)).agr ((dH (j:=0) (show w.heap.size<w.heap.size+1 by omega) (Z a0 n0 c0)).trans (dH (j:=1) (show w.heap.size<w.heap.size+1 by omega) (Z a1 n1 c1)))).mono (AS w.heap.size));clear hH i kr g h f;go_wp2;exact bp (v:=.tuple #[QE #[Z a0 n0 c0,Z a1 n1 c1],U t]) (by simp[results,Tryz.results21,go_sem,r0,r1]) rfl ⟨_,_,_,_,_,_,_,_,_,rfl,m,s⟩
def DPS (w:E)(e:Ending)(b:E):Prop:=∃ (a0:Option Addr) (n0 c0:Nat) (f0:Nat->Source) (a1:Option Addr) (n1 c1:Nat) (f1:Nat->Target) (t tx:ByteArray),e=QD (.tuple #[QE #[Z a0 n0 c0,Z a1 n1 c1],U t,U tx])/\HSp w.heap.size b a0 n0 f0 a1 n1 f1/\Below w.heap.size w b
theorem Dw {w:E}{b:Nat}{s0 s1:ByteArray}{t:QF}{fz:Nat × Nat}(h:w.heap[b]?=N (T #[U s0,U s1] t fz))(k:Nat)(d:k<2):∃ s,w.cell? (J b k Y)=N (U s):=by
 match k,d with
 | 0,_=>exact⟨s0,by simp[World.cell?,h]⟩
 | 1,_=>exact⟨s1,by simp[World.cell?,h]⟩
 | j+2,h5=>exact absurd h5 (by omega)
theorem vi {w:E}{b:Nat}{u0 u1 v0 v1:QB}{t:QF}{fz:Nat × Nat}(h:w.heap[b]?=N (T #[u0,u1] t fz)):((w.setCell (J b 0 Y) v0).setCell (J b 1 Y) v1).heap[b]?=N (T #[v0,v1] t fz):=by simp[World.setCell,I6,h]
theorem cE {V:E}{b:Nat}{u0 u1:QB}{t:QF}(h:V.heap[b]?=N (T #[u0,u1] t (0,0))):V.cell? (J b 0 Y)=N u0/\V.cell? (J b 1 Y)=N u1:=⟨by simp[World.cell?,h],by simp[World.cell?,h]⟩
theorem AY {V:E}{b:Nat}{u0 u1:QB}{t:QF}(h:V.heap[b]?=N (T #[u0,u1] t (0,0))):V.frozen? (J b 0 Y)=D/\V.frozen? (J b 1 Y)=D/\b<V.heap.size:=⟨by simp[World.frozen?,h],by simp[World.frozen?,h],aC h⟩
structure PSt (w:E)(R h b:Nat)(a0:Option Addr)(n0 c0:Nat)(f0:Nat->Source)(a1:Option Addr)(n1 c1:Nat)(f1:Nat->Target)(u0 u1:QB)(V:E):Prop where
 bl:Below w.heap.size w V
 sp:HSp h V a0 n0 f0 a1 n1 f1
 rb:V.heap[w.heap.size]?=N (T #[u0,u1] 26 (0,0))
 sb:V.heap[b]?=N (T #[Z a0 n0 c0,Z a1 n1 c1] 26 (0,0))
 hR:w.heap.size<R/\R<h/\h<=b
section
variable {w V QJ:E}{R h b:Nat}{a0 a1:Option Addr}{n0 c0 n1 c1:Nat}{f0:Nat->Source}{f1:Nat->Target}{u0 u1:QB}
theorem PSt.on (s:PSt w R h b a0 n0 c0 f0 a1 n1 c1 f1 u0 u1 V)(d:Only R V QJ):PSt w R h b a0 n0 c0 f0 a1 n1 c1 f1 u0 u1 QJ :=
 have k:=s.hR
 ⟨s.bl.trans (d.below (by omega) s.bl.size),s.sp.agr (d.agr k.2.1),(d.block _ (aC s.rb) (by omega)).trans s.rb,(d.block _ (aC s.sb) (by omega)).trans s.sb,k⟩
theorem PSt.be (s:PSt w R h b a0 n0 c0 f0 a1 n1 c1 f1 u0 u1 V)(d:Below V.heap.size V QJ):PSt w R h b a0 n0 c0 f0 a1 n1 c1 f1 u0 u1 QJ:=s.on (Only.of_below d)
theorem PSt.put (s:PSt w R h b a0 n0 c0 f0 a1 n1 c1 f1 u0 u1 V)(f d:QB):PSt w R h b a0 n0 c0 f0 a1 n1 c1 f1 f d ((V.setCell (J w.heap.size 0 Y) f).setCell (J w.heap.size 1 Y) d) :=
 have k:=s.hR;have g:Only w.heap.size V ((V.setCell (J w.heap.size 0 Y) f).setCell (J w.heap.size 1 Y) d):=bZ (bZ (Only.refl _ _) 0 f) 1 d
 ⟨s.bl.trans (g.below lr s.bl.size),s.sp.agr (g.agr (by omega)),vi s.rb,(g.block _ (aC s.sb) (by omega)).trans s.sb,k⟩
theorem PSt.big (s:PSt w R h b a0 n0 c0 f0 a1 n1 c1 f1 u0 u1 V):h<=V.heap.size:=by have:=aC s.sb;have:=s.hR;omega
end
theorem mr (a:Option Addr)(n L:Nat)(w:E)(hn:(n:Int)<=1048576)(hc:n<=L)(hS:ByteSl w a n):Calls Tryz.prog 9 #[Z a n L] w fun e w'=>DPS w e w':=by
 have S0:=ae hS;clear hS;go_enter Tryz.func9,Tryz.ntmps9;go_wp2_with fail;have QL:=ae ((Qs w).alloc lr (T #[Z Y 0 0,Z Y 0 0] 26));have QG:Hid ((w.alloc (T #[Z Y 0 0,Z Y 0 0] 26)).heap[w.heap.size]?=N (T #[Z Y 0 0,Z Y 0 0] 26 (0,0))):=eL w _;have ld:(w.alloc (T #[Z Y 0 0,Z Y 0 0] 26)).heap.size=w.heap.size+1:=by simp
 generalize w.alloc (T #[Z Y 0 0,Z Y 0 0] 26)=W0 at QL QG ld ⊢;refine(kg a n L _ hn hc (S0.below QL lr)).mono ?_;rintro e O ⟨R,rfl,hRz,QN,H⟩;have R1:=ae QN;have QJ:=ae (QL.trans (H.mono (by omega)));have K1:=ae ((H.block w.heap.size (by omega)).trans QG);have hs1:=H.size;have A:=QN.lt;clear QN H QL QG;go_wp2_with fail;refine(qk R 0 _ R1 (by omega)).mono ?_;rintro e G ⟨a0,n0,c0,f0,a1,n1,c1,f1,rfl,QM,q2,hq2,QK,QO⟩;have aq:=QO.size;have M:=(Qs G).alloc lr (T #[Z a0 n0 c0,Z a1 n1 c1] 26);have QH:=QJ.trans (QO.below (by omega) QJ.size);have C:Hid (PSt w R O.heap.size G.heap.size a0 n0 c0 f0 a1 n1 c1 f1 (Z Y 0 0) (Z Y 0 0) (G.alloc (T #[Z a0 n0 c0,Z a1 n1 c1] 26))):=⟨QH.trans (M.mono QH.size),QM.agr (dB M lr),(M.block w.heap.size (by omega)).trans ((QO.block w.heap.size (by omega) (by omega)).trans K1),eL G _,by omega,A,aq⟩
 have d:=ae (QK.below M lr);clear QM QK QO QH M R1 QJ K1;go_wp2_with fail;generalize G.alloc (T #[Z a0 n0 c0,Z a1 n1 c1] 26)=WX at C d ⊢;generalize G.heap.size=b at C ⊢;refine(fx R _ _ d (by omega)).mono ?_;rintro e w3 ⟨nm,rfl,ex,hR,k⟩;replace C:=ae (C.on k);replace d:=ae hR;clear k hR;go_wp2_with fail;refine(aD R _ 10 _ d (by omega) (by omega) (by omega)).mono ?_;rintro e w4 ⟨z4,rfl,h40,h41,hR,k⟩;replace C:=ae (C.on k);replace d:=ae hR;clear k hR ex;go_upto_if 16 with fail;go_cut [7] (fun s wx=>∃ (t:ByteArray) (q:Nat),s=U t/\q<=q2+5/\Hid (Rd wx R q)/\Hid (PSt w R O.heap.size b a0 n0 c0 f0 a1 n1 c1 f1 (Z Y 0 0) (Z Y 0 0) wx));case first =>
  by_cases h4:z4=0
  ·subst h4
   obtain⟨y0,W⟩:=cE C.sb;go_wp2_with fail;refine(jv R _ O.heap.size n0 c0 n1 c1 a0 f0 a1 f1 _ d (by omega) A C.sp).mono ?_;rintro e w5 ⟨nm2,rfl,q5,hq5,hR,k⟩;clear y0 W;replace C:=ae (C.on k);replace d:=ae hR;clear k hR;go_wp2;go_meet;exact⟨_,_,rfl,by omega,d,C⟩
  ·go_wp2
   go_meet;exact⟨_,_,rfl,by omega,d,C⟩
 case rest =>
 clear C d;obtain⟨t,q,rfl,hq,d,C⟩:=hcut;go_wp2_with fail;refine(aD R _ 12 _ d (by omega) (by omega) (by omega)).mono ?_;rintro e w6 ⟨z6,rfl,la,mv,hR,k⟩;replace C:=ae (C.on k);replace d:=ae hR;clear k hR;have hlo:=C.hR;have o:=ae C.sp;by_cases h6:z6=0;case' neg =>go_wp2_with fail;refine(aD R _ 20 _ d (by omega) (by omega) (by omega)).mono ?_;rintro e w6 ⟨z7,rfl,h70,h71,hR,k⟩;replace o:=ae (o.agr (k.agr A));replace C:=ae (C.on k);replace d:=ae hR;clear k hR la mv;have mark:=True.intro;by_cases h7:z7=0
 all_goals
  (try subst h6)
  (try subst h7)
  obtain⟨y0,W⟩:=cE C.sb;go_wp2_with fail;clear y0 W;refine wp_region_held_drew (S:=fun V=>V.cell? (J b 0 Y)=N _/\V.cell? (J b 1 Y)=N _) (by as_aux_lemma=>kernel_rfl) (cE C.sb) (fun _=>?_);replace C:=ae (C.be br.drew);replace o:=ae (o.agr (dB br.drew lr));replace d:=ae (d.below br.drew lr);generalize w6.drew=v at C d o ⊢
  (try (clear mark;obtain⟨b0,rfl⟩:∃ x,x=a0:=⟨_,rfl⟩;obtain⟨u,rfl⟩:∃ x,x=a1:=⟨_,rfl⟩;obtain⟨m0,rfl⟩:∃ x,x=n0:=⟨_,rfl⟩;obtain⟨B,rfl⟩:∃ x,x=n1:=⟨_,rfl⟩;obtain⟨QP,rfl⟩:∃ x,x=c0:=⟨_,rfl⟩;obtain⟨QQ,rfl⟩:∃ x,x=c1:=⟨_,rfl⟩))
  have l:=ae (cE C.sb);repeat' first
   | (refine iQ (i:=2) (j:=4) rfl rfl (by as_aux_lemma=>kernel_rfl) (fun K f=>?_) (fun K f=>?_))
   | (refine iQ (i:=3) (j:=4) rfl rfl (by as_aux_lemma=>kernel_rfl) (fun K f=>?_) (fun K f=>?_))
   | (refine iQ (i:=4) (j:=6) rfl rfl (by as_aux_lemma=>kernel_rfl) (fun K f=>?_) (fun K f=>?_))
   | (refine iQ (i:=4) (j:=9) rfl rfl (by as_aux_lemma=>kernel_rfl) (fun K f=>?_) (fun K f=>?_))
   | (refine iQ (i:=8) (j:=9) rfl rfl (by as_aux_lemma=>kernel_rfl) (fun K f=>?_) (fun K f=>?_))
   | (refine wpAnyH_done (by as_aux_lemma=>kernel_rfl) ?_ _;obtain⟨r0,r1⟩:=cE C.rb;go_wp2;first | (have:=p;exact bp (v:=.tuple #[QE #[Z b0 m0 QP,Z u B QQ],U P,U ⟨#[120]⟩]) (by simp[results,Tryz.results9,go_sem,r0,r1]) rfl ⟨_,_,_,_,_,_,_,_,_,_,rfl,o.mono (by omega),C.bl⟩) | exact bp (v:=.tuple #[QE #[Z b0 m0 QP,Z u B QQ],U t,U P]) (by simp[results,Tryz.results9,go_sem,r0,r1]) rfl ⟨_,_,_,_,_,_,_,_,_,_,rfl,o.mono (by omega),C.bl⟩)
   | (go_simp;go_at_call 57;refine(aD R _ 2 _ d (by omega) (by omega) (by omega)).mono ?_;rintro e v ⟨z,rfl,bt,hz1,hR,k⟩;obtain⟨m,rfl⟩:=x4 bt;have hw20:IntKind.i64.wrap (2000+(m:Int))=2000+(m:Int):=(by rw[vF];omega);(try replace o:=ae (o.agr (k.agr A)));(try replace p:=ae ((k.block g (aC p) (by omega)).trans p));replace C:=ae (C.on k);replace d:=ae hR;clear k hR;replace l:=ae (cE C.sb);refine f _ _ l ?_;clear f K;(try simp only[Act.put,nzL]))
   | (go_simp;go_at_call 59;refine(xq O.heap.size n0 c0 n1 c1 a0 f0 a1 f1 m _ (by omega) (by omega) C.sp).mono ?_;rintro e v ⟨b0,m0,QP,g0,u,B,QQ,g1,rfl,hH,r⟩;replace o:=ae (hH.mono C.big);(try replace p:=ae ((r.block g (aC p)).trans p));replace C:=ae (C.be r);replace d:=ae (d.below r lr);clear hH r;replace l:=ae (cE C.sb);refine f _ _ l ?_;clear f K;(try simp only[Act.put,nzL]))
   | (go_simp;go_at_call 61;refine(fZ R _ _ d (by omega)).mono ?_;rintro e v ⟨P,rfl,-,q8,hq8,hR,k⟩;replace o:=ae (o.agr (k.agr A));replace C:=ae (C.on k);clear d k hR;replace l:=ae (cE C.sb);refine f _ _ l ?_;clear f K;(try simp only[Act.put,nzL]))
   | (go_simp;go_at_call 60;refine(fw ⟨#[112]⟩ (2000+m) _ (by show 1*(2000+m)<=4000;omega) (by omega)).mono ?_;rintro e w9 ⟨P,rfl,-,hw⟩;rw[hw];clear hw;replace l:=ae (cE C.sb);refine f _ _ l ?_;clear f K;(try simp only[Act.put,nzL]))
   | (refine bS 0 (v:=?_) rfl rfl (by as_aux_lemma=>kernel_rfl) (fun _ _ _ h=>h) rfl ?_ l ?_;rotate_left;(focus (intro wz y;obtain⟨s0,s1⟩:=y;go_simp;(try with_reducible rfl);done));(try simp only[Act.put,nzL]))
   | (refine oV 0 rfl rfl (by as_aux_lemma=>kernel_rfl) (fun K f=>?_))
   | (refine bS 5 (v:=?_) rfl rfl (by as_aux_lemma=>kernel_rfl) (fun _ _ _ h=>h) rfl ?_ l ?_;rotate_left;(focus (intro wz y;obtain⟨s0,s1⟩:=y;go_simp;(try with_reducible rfl);done));(try simp only[Act.put,nzL]))
   | (refine bS 7 (v:=?_) rfl rfl (by as_aux_lemma=>kernel_rfl) (fun _ _ _ h=>h) rfl ?_ l ?_;rotate_left;(focus (intro wz y;obtain⟨s0,s1⟩:=y;go_simp;(try with_reducible rfl);done));(try simp only[Act.put,nzL]))
   | (refine oV 5 rfl rfl (by as_aux_lemma=>kernel_rfl) (fun K f=>?_))
   | (obtain⟨P,fd⟩:=Dw p m (by omega);go_simp;clear fd;replace l:=ae (cE C.sb);refine f _ _ l ?_;clear f K;(try simp only[Act.put,nzL]))
   | (have p:Hid ((v.alloc (T #[U ⟨#[97]⟩,U ⟨#[122,110,101,119]⟩] 9)).heap[v.heap.size]?=N (T #[U ⟨#[97]⟩,U ⟨#[122,110,101,119]⟩] 9 (0,0))):=eL v _;go_simp;have r:=(Qs v).alloc lr (T #[U ⟨#[97]⟩,U ⟨#[122,110,101,119]⟩] 9);(try replace o:=ae (o.agr (dB r lr)));have hg:=C.big;replace C:=ae (C.be r);(try replace d:=ae (d.below r lr));clear r;refine f _ (v.alloc (T #[U ⟨#[97]⟩,U ⟨#[122,110,101,119]⟩] 9)) (cE C.sb) ?_;replace l:=ae (cE C.sb);clear f K;generalize v.heap.size=g at p hg ⊢;generalize v.alloc (T #[U ⟨#[97]⟩,U ⟨#[122,110,101,119]⟩] 9)=v at *;(try simp only[Act.put,nzL]))
   | (obtain⟨r0,r1⟩:=cE C.rb;obtain⟨t0,t1,l0⟩:=AY C.rb;go_simp;clear r0 r1 t0 t1 l0;(try replace p:=ae (((qh _ (J w.heap.size 1 Y) (Z u B QQ) g (by show g≠w.heap.size;omega)).trans (qh v (J w.heap.size 0 Y) (Z b0 m0 QP) g (by show g≠w.heap.size;omega))).trans p));replace o:=ae (o.agr ((dH (X:=w.heap.size) (w:=v) (j:=0) (by omega) (Z b0 m0 QP)).trans (dH (X:=w.heap.size) (j:=1) (by omega) (Z u B QQ))));replace C:=ae (C.put (Z b0 m0 QP) (Z u B QQ));(try clear d);replace l:=ae (cE C.sb);refine f _ ((v.setCell (J w.heap.size 0 Y) (Z b0 m0 QP)).setCell (J w.heap.size 1 Y) (Z u B QQ)) l ?_;clear f K;generalize (v.setCell (J w.heap.size 0 Y) (Z b0 m0 QP)).setCell (J w.heap.size 1 Y) (Z u B QQ)=v at *;(try simp only[Act.put,nzL]))
   | (go_simp;replace l:=ae (cE C.sb);refine f _ _ l ?_;clear f K;(try simp only[Act.put,nzL]))
def DPT (w:E)(e:Ending)(b:E):Prop:=∃ (a0:Option Addr) (n0 c0:Nat) (a1:Option Addr) (n1 c1:Nat) (t:ByteArray) (g m c:Nat) (f:Nat->Ins),e=QD (.tuple #[QE #[Z a0 n0 c0,Z a1 n1 c1],U t,QE #[Z (N (J g 0 Y)) m c]])/\RowIns b g 0 m f/\m<=201/\(∀ j,j<m->(f j).s.size<=5000)/\Below w.heap.size w b
theorem Eu {w:E}{b g c:Nat}{L:List I3}(h:IR w b g c L):RowIns w g 0 L.length (ez L):=⟨h.lt.2,h.at⟩
theorem tj (a:Option Addr)(n r:Nat)(w:E)(hn:(n:Int)<=1048576)(hc:n<=r)(x:ByteSl w a n):Calls Tryz.prog 10 #[Z a n r] w fun e w'=>DPT w e w':=by
 have S0:=ae x;clear x;go_enter Tryz.func10,Tryz.ntmps10;go_wp2_with fail;have z:=ae (((Qs w).alloc lr (T #[Z Y 0 0,Z Y 0 0] 26)).alloc (by simp) (T #[Z Y 0 0] 31));have bt:((w.alloc (T #[Z Y 0 0,Z Y 0 0] 26)).alloc (T #[Z Y 0 0] 31)).heap.size=w.heap.size+2:=by simp
 have QN:Hid (((w.alloc (T #[Z Y 0 0,Z Y 0 0] 26)).alloc (T #[Z Y 0 0] 31)).heap[w.heap.size]?=N (T #[Z Y 0 0,Z Y 0 0] 26 (0,0))):=by have h1:=(eI (w.alloc (T #[Z Y 0 0,Z Y 0 0] 26)).heap.size (w.alloc (T #[Z Y 0 0,Z Y 0 0] 26))).alloc lr (T #[Z Y 0 0] 31);exact(h1.block w.heap.size (by simp)).trans (eL w _)
 have P:Hid (((w.alloc (T #[Z Y 0 0,Z Y 0 0] 26)).alloc (T #[Z Y 0 0] 31)).heap[w.heap.size+1]?=N (T #[Z Y 0 0] 31 (0,0))):=by have h2:=eL (w.alloc (T #[Z Y 0 0,Z Y 0 0] 26)) (T #[Z Y 0 0] 31);rw[show(w.alloc (T #[Z Y 0 0,Z Y 0 0] 26)).heap.size=w.heap.size+1 by simp] at h2;exact h2
 generalize (w.alloc (T #[Z Y 0 0,Z Y 0 0] 26)).alloc (T #[Z Y 0 0] 31)=W0 at z QN P bt ⊢;refine(kg a n r _ hn hc (S0.out.below z.out lr)).mono ?_;rintro e w1 ⟨R,rfl,hRz,s,k⟩;have R1:=ae s;have hs1:=k.size;have hRl:=s.lt;have T1:=ae ((S0.out.below z.out lr).below k lr);have B1:=ae (z.out.trans (k.mono (by omega)));have K1:=ae ((k.block w.heap.size (by omega)).trans QN.out);have M1:=ae ((k.block (w.heap.size+1) (by omega)).trans P.out);clear s k z QN P;go_wp2_with fail;refine(mr a n r _ hn hc T1.out).mono ?_;rintro e b ⟨a0,n0,c0,f0,a1,n1,c1,f1,t,tx,rfl,-,u⟩;have ex:=u.size;have BS:=(Qs b).alloc lr (T #[Z a0 n0 c0,Z a1 n1 c1] 26);have y:=ae (u.trans (BS.mono ex));have R6:=ae (R1.out.below y.out lr);have B:=ae (B1.out.trans (y.out.mono (by omega)));have X:=ae ((y.out.block w.heap.size (by omega)).trans K1.out);have QK:=ae ((y.out.block (w.heap.size+1) (by omega)).trans M1.out);have QQ:Hid ((b.alloc (T #[Z a0 n0 c0,Z a1 n1 c1] 26)).heap[b.heap.size]?=N (T #[Z a0 n0 c0,Z a1 n1 c1] 26 (0,0))):=eL b _;clear u BS y R1 B1 K1 M1 T1;go_wp2_with fail;generalize b.alloc (T #[Z a0 n0 c0,Z a1 n1 c1] 26)=C at R6 B X QK QQ ⊢;have SB:Hid (∀ V:E,V.heap[b.heap.size]?=N (T #[Z a0 n0 c0,Z a1 n1 c1] 26 (0,0))->V.heap[b.heap.size]?=N (T #[Z a0 n0 c0,Z a1 n1 c1] 26 (0,0))/\V.cell? (J b.heap.size 0 Y)=N (Z a0 n0 c0)/\V.cell? (J b.heap.size 1 Y)=N (Z a1 n1 c1)):=fun V h=>⟨h,by simp[World.cell?,h],by simp[World.cell?,h]⟩
 refine wp_region_held_drew (S:=fun V=>V.heap[b.heap.size]?=N (T #[Z a0 n0 c0,Z a1 n1 c1] 26 (0,0))/\V.cell? (J b.heap.size 0 Y)=N (Z a0 n0 c0)/\V.cell? (J b.heap.size 1 Y)=N (Z a1 n1 c1)) (by as_aux_lemma=>kernel_rfl) (SB.out C QQ.out) (fun x=>?_);have d:=ae x;clear x;have fd:=aC QQ.out;have hs6:=B.out.size;have QP:Hid (Only R C C.drew):=Only.of_below br.drew;have M:=ae (R6.out.below br.drew lr);generalize C.drew=v0 at QP M d ⊢
 iterate 3
  refine bS 0 (v:=?_) rfl rfl (by as_aux_lemma=>kernel_rfl) (fun _ _ _ h=>h) rfl ?_ d.out ?_;rotate_left
  ·(intro wz aq;obtain⟨s0,s1,s2⟩:=aq;go_simp)
   (try with_reducible rfl)
  (try simp only[Act.put,nzL])
 refine bN (i:=3) rfl (by as_aux_lemma=>kernel_rfl) (fun K j=>?_);go_simp;go_at_call 62;refine(nI R _ _ M.out (by omega)).mono ?_;rintro e o ⟨L,g,c,rfl,QL,-,A,H,q4,hq4,-,hO⟩;have hgb:=QL.lt.1;have h06:=QP.out.size;have l:=QP.out.trans hO;have G:=ae (Eu QL);have QJ:=ae (nF H);have BE:=ae (B.out.trans (l.below (by omega) B.out.size));have QH:=ae ((l.block w.heap.size (aC X.out) (by omega)).trans X.out);have ME:=ae ((l.block (w.heap.size+1) (aC QK.out) (by omega)).trans QK.out);have QG:=ae ((l.block b.heap.size fd (by omega)).trans QQ.out);clear QL H hO l d M QP;have d:=ae (SB.out o QG.out);refine j.out _ _ d.out ?_;clear j K
 (try simp only[Act.put,nzL])
 generalize L.length=m at A G QJ ⊢;generalize ez L=f at G QJ;have kr:=QH.out;have r0:o.cell? (J w.heap.size 0 Y)=N (Z Y 0 0):=by simp[World.cell?,kr]
 have r1:o.cell? (J w.heap.size 1 Y)=N (Z Y 0 0):=by simp[World.cell?,kr]
 have QO:o.frozen? (J w.heap.size 0 Y)=D:=by simp[World.frozen?,kr]
 have t1:o.frozen? (J w.heap.size 1 Y)=D:=by simp[World.frozen?,kr]
 have W:=aC kr;clear kr;refine bN (i:=4) rfl (by as_aux_lemma=>kernel_rfl) (fun K j=>?_);go_simp;clear r0 r1 QO t1 W d;have KF:=ae (vi (v0:=Z a0 n0 c0) (v1:=Z a1 n1 c1) QH.out);have BF:=ae ((BE.out.setCell (p:=(J w.heap.size 0 Y)) lr (Z a0 n0 c0)).setCell (p:=(J w.heap.size 1 Y)) lr (Z a1 n1 c1));have QM:=ae (((qh _ (J w.heap.size 1 Y) (Z a1 n1 c1) b.heap.size (by show b.heap.size≠w.heap.size;omega)).trans (qh o (J w.heap.size 0 Y) (Z a0 n0 c0) b.heap.size (by show b.heap.size≠w.heap.size;omega))).trans QG.out);have MF:=ae (((qh _ (J w.heap.size 1 Y) (Z a1 n1 c1) (w.heap.size+1) (by show w.heap.size+1≠w.heap.size;omega)).trans (qh o (J w.heap.size 0 Y) (Z a0 n0 c0) (w.heap.size+1) (by show w.heap.size+1≠w.heap.size;omega))).trans ME.out);have IF:=ae ((G.out.setOther (J w.heap.size 0 Y) (by show w.heap.size≠g;omega) (Z a0 n0 c0)).setOther (J w.heap.size 1 Y) (by show w.heap.size≠g;omega) (Z a1 n1 c1));clear BE QH ME QG G;generalize (o.setCell (J w.heap.size 0 Y) (Z a0 n0 c0)).setCell (J w.heap.size 1 Y) (Z a1 n1 c1)=q at *;have d:=ae (SB.out q QM.out);refine j.out _ _ d.out ?_;clear j K
 (try simp only[Act.put,nzL])
 refine bN (i:=5) rfl (by as_aux_lemma=>kernel_rfl) (fun K j=>?_);go_simp;refine j.out _ _ d.out ?_;clear j K
 (try simp only[Act.put,nzL])
 have kr:=MF.out;have r0:q.cell? (J (w.heap.size+1) 0 Y)=N (Z Y 0 0):=by simp[World.cell?,kr]
 have QO:q.frozen? (J (w.heap.size+1) 0 Y)=D:=by simp[World.frozen?,kr]
 have W:=aC kr;have M0:Hid ((q.setCell (J (w.heap.size+1) 0 Y) (Z (N (J g 0 Y)) m c)).cell? (J (w.heap.size+1) 0 Y)=N (Z (N (J g 0 Y)) m c)):=AI _ _ _ (by rw[r0];rfl);clear kr;refine bN (i:=6) rfl (by as_aux_lemma=>kernel_rfl) (fun K j=>?_);go_simp;clear r0 QO W d;have KG:=ae ((qh q (J (w.heap.size+1) 0 Y) (Z (N (J g 0 Y)) m c) w.heap.size (by show w.heap.size≠w.heap.size+1;omega)).trans KF.out);have BG:=ae (BF.out.setCell (p:=(J (w.heap.size+1) 0 Y)) (AS _) (Z (N (J g 0 Y)) m c));have SG:=ae ((qh q (J (w.heap.size+1) 0 Y) (Z (N (J g 0 Y)) m c) b.heap.size (by show b.heap.size≠w.heap.size+1;omega)).trans QM.out);have IG:=ae (IF.out.setOther (J (w.heap.size+1) 0 Y) (by show w.heap.size+1≠g;omega) (Z (N (J g 0 Y)) m c));clear KF BF QM IF MF;generalize q.setCell (J (w.heap.size+1) 0 Y) (Z (N (J g 0 Y)) m c)=O at *;have d:=ae (SB.out O SG.out);refine j.out _ _ d.out ?_;clear j K
 (try simp only[Act.put,nzL])
 refine wpAnyH_done (by as_aux_lemma=>kernel_rfl) ?_ _;have kr:=KG.out;have r0:O.cell? (J w.heap.size 0 Y)=N (Z a0 n0 c0):=by simp[World.cell?,kr]
 have r1:O.cell? (J w.heap.size 1 Y)=N (Z a1 n1 c1):=by simp[World.cell?,kr]
 have r2:=M0.out;clear kr;go_wp2;exact bp (v:=.tuple #[QE #[Z a0 n0 c0,Z a1 n1 c1],U t,QE #[Z (N (J g 0 Y)) m c]]) (by simp[results,Tryz.results10,go_sem,r0,r1,r2]) rfl ⟨_,_,_,_,_,_,_,g,m,c,f,rfl,IG.out,A,QJ.out,BG.out⟩
end Go.Proofs.YtkdimgejdocbbaaGreatDoor.Vp
