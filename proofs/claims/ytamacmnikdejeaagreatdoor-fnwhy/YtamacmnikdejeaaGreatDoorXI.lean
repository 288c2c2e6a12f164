import Derived.Test.YtamacmnikdejeaaGreatDoorXE
import Derived.Test.YtamacmnikdejeaaGreatDoorXG
import Derived.Test.YtamacmnikdejeaaGreatDoorXC
set_option maxRecDepth 100000
set_option maxHeartbeats 8000000
set_option linter.unusedSimpArgs false
open Go.Addr renaming mk->T
open Go.Value renaming slice->Y,string->U,int->I,agg->QV
open Option renaming none->Z,some->N
open Go.Obj renaming cells->Q
open Go.IntKind renaming i64->J
open Go renaming World->H,Value->QS
open Bool renaming false->QQ
open Go.Ending renaming returned->QU
namespace Go.Proofs.YtamacmnikdejeaaGreatDoor.Vp
open RowKit Ca
theorem vL (R p b0 n0 c0 n1 c1:Nat)(a0:Option Addr)(f0:Nat->Source)(a1:Option Addr)(f1:Nat->Target)(w:H)(hR:Rd w R p)(hp:p<=19000)(hH:HSp b0 w a0 n0 f0 a1 n1 f1)(hg:∀ i,i<n1->1<=(f1 i).actN/\(f1 i).actN<=200)(hm0:n0<=250)(hm1:n1<=250):Calls Tryz.prog 36 #[.pointer (N (T R 0 Z)),QV #[Y a0 n0 c0,Y a1 n1 c1]] w fun e w'=>DH w R (p+1100) e w':=by
 have HR:=ae hR;have Hg:=hR.lt;obtain⟨hs,ht⟩:=hH.sl w (Agr.refl _ _);have HF:=ae hH.fit;have HG:=ae hg;have l:=ae hs;have HT:=ae ht;clear hs ht hH hg hR;obtain⟨Hl,hi,Hx,Hq,Hw⟩:=JV jc;obtain⟨Fn,B,GI,GH,GM⟩:=JV fL;have A0:=ae (((q9 w).alloc ly (Q #[Y a0 n0 c0,Y a1 n1 c1] 29)).alloc (by simp) (Q #[Y Z 0 0,Y Z 0 0] 29));have Ha:((w.alloc (Q #[Y a0 n0 c0,Y a1 n1 c1] 29)).alloc (Q #[Y Z 0 0,Y Z 0 0] 29)).heap.size=w.heap.size+2:=by simp
 have KR:Hid (((w.alloc (Q #[Y a0 n0 c0,Y a1 n1 c1] 29)).alloc (Q #[Y Z 0 0,Y Z 0 0] 29)).heap[w.heap.size+1]?=N (Q #[Y Z 0 0,Y Z 0 0] 29 (0,0))):=by have h2:=cM (w.alloc (Q #[Y a0 n0 c0,Y a1 n1 c1] 29)) (Q #[Y Z 0 0,Y Z 0 0] 29);rw[show(w.alloc (Q #[Y a0 n0 c0,Y a1 n1 c1] 29)).heap.size=w.heap.size+1 by simp] at h2;exact h2
 go_enter Tryz.func36,Tryz.ntmps36;go_wp2_with fail;generalize (w.alloc (Q #[Y a0 n0 c0,Y a1 n1 c1] 29)).alloc (Q #[Y Z 0 0,Y Z 0 0] 29)=W at A0 Ha KR ⊢;refine(eE a0 n0 c0 f0 a1 n1 c1 f1 ⟨#[]⟩ W (by omega) (by omega) (l.below A0 ly) (HT.below A0 ly) (fun i hi=>by have:=(HF i hi).1;unfold bP;omega)).mono ?_;rintro e y ⟨v0,v1,o,rfl,sm,GN,hM,th⟩;obtain⟨QX,c2,rfl⟩:=aF sm;obtain⟨a5,c5,rfl⟩:=aF GN.own;have G1:=ae (wH hM HF);have N1:=ae (E7 hM HG);have GU:=pT hM;have GS:=iM f0 ⟨#[]⟩ n0;clear hM l HT HF HG;generalize keepS f0 ⟨#[]⟩ n0=C at sm GS ⊢;have hsz:=th.size;have X1:=ae (qG (rr:=w.heap.size+1) (base:=w.heap.size+2) ((th.block _ (by omega)).trans KR) (by omega) (by omega) (by omega) sm GN);have B1:=ae ((A0.trans (th.mono (by omega))).alloc (by omega) (Q #[Y QX C.length c2,Y a5 o.length c5] 29));clear sm GN th A0 KR;have R1:=ae (HR.low B1 (by omega));have O1:Hid (Only R w (y.alloc (Q #[Y QX C.length c2,Y a5 o.length c5] 29))):=Only.of_below B1;go_wp2_with fail;generalize y.alloc (Q #[Y QX C.length c2,Y a5 o.length c5] 29)=W2 at X1 B1 R1 O1 ⊢;refine(aw R p 8 _ R1 (by omega) (by omega) (by omega)).mono ?_;rintro e t ⟨z,rfl,hz0',hz1',G8,GF⟩;have m:=ae (X1.only GF (by omega));have R2:=ae G8;have O2:=ae (O1.trans GF);clear G8 GF X1 R1 O1 B1 Ha HR;obtain⟨X,Q2⟩:=m.cells;obtain⟨bt,aq⟩:=m.open
 have ld:=m.lt;go_upto_block 0 with fail;go_cut [6,7] (fun _ _ wx=>∃ (b0:Option Addr) (m0 k0:Nat) (g0:Nat->Source) (b1:Option Addr) (m1 k1:Nat) (g1:Nat->Target) (q':Nat),q'<=p+1100/\Hid (wx.heap[y.heap.size]?=N (Q #[Y b0 m0 k0,Y b1 m1 k1] 29 (0,0)))/\Hid (wx.heap[w.heap.size+1]?=N (Q #[Y Z 0 0,Y Z 0 0] 29 (0,0)))/\Hid (HSp (w.heap.size+2) wx b0 m0 g0 b1 m1 g1)/\Hid (Rd wx R q')/\Hid (Only R w wx));case first =>
  have Ht:z=0∨z=1∨z=2∨z=3∨z=4∨z=5∨z=6∨z=7:=by omega
  rcases Ht with rfl | rfl | rfl | rfl | rfl | rfl | rfl | rfl
  ·go_wp2_with fail
   have Hf:=m.hi;refine aH (BxS (Y QX C.length c2) (Y a5 o.length c5) y.heap.size) 11 (by as_aux_lemma=>kernel_rfl) ?_;have l:=ae (iS (W:=t.drew) m.box)
   iterate 2
    refine aO 0 (v:=?_) rfl rfl (by as_aux_lemma=>kernel_rfl) (fun _ _ _ h=>h) rfl ?_ l ?_;rotate_left
    ·(intro wz M;obtain⟨s0,s1⟩:=M;go_simp)
     (try with_reducible rfl)
    (try simp only[Act.put,nzL])
   refine aO 3 (v:=?_) rfl rfl (by as_aux_lemma=>kernel_rfl) (fun _ _ _ h=>h) rfl ?_ l ?_;rotate_left
   ·(intro wz M;obtain⟨s0,s1⟩:=M;go_simp)
    (try with_reducible rfl)
   (try simp only[Act.put,nzL])
   refine ox (i:=2) (j:=4) rfl rfl (by as_aux_lemma=>kernel_rfl) (fun K b=>?h1) (fun K b=>?h2);case' h1 =>
    go_simp;have BQ:=ae (((q9 t).alloc ly (Q #[U ⟨#[97]⟩,U ⟨#[122,122]⟩,U ⟨#[]⟩,U ⟨#[120,32,121]⟩,U ⟨#[116,48]⟩] 9)).drew);have XQ:=ae (m.below BQ ly);have RQ:=ae (R2.below BQ ly);have OQ:=ae (O2.then (BQ.mono (by omega)));have DE:=cM t (Q #[U ⟨#[97]⟩,U ⟨#[122,122]⟩,U ⟨#[]⟩,U ⟨#[120,32,121]⟩,U ⟨#[116,48]⟩] 9);have GV:Hid ((t.alloc (Q #[U ⟨#[97]⟩,U ⟨#[122,122]⟩,U ⟨#[]⟩,U ⟨#[120,32,121]⟩,U ⟨#[116,48]⟩] 9)).drew.heap[t.heap.size]?=N (Q #[U ⟨#[97]⟩,U ⟨#[122,122]⟩,U ⟨#[]⟩,U ⟨#[120,32,121]⟩,U ⟨#[116,48]⟩] 9 (0,0))):=DE;have Hy:t.heap.size<(t.alloc (Q #[U ⟨#[97]⟩,U ⟨#[122,122]⟩,U ⟨#[]⟩,U ⟨#[120,32,121]⟩,U ⟨#[116,48]⟩] 9)).drew.heap.size:=ai DE;clear DE l;refine b _ _ (fun _=>iS XQ.box) ?_;clear b K
    (try simp only[Act.put,nzL])
    refine af (i:=4) rfl (by as_aux_lemma=>kernel_rfl) (fun K b=>?_);go_simp;go_at_call 33;refine(aw R _ 5 _ RQ (by omega) (by omega) (by omega)).mono ?_;rintro e WL ⟨z3,rfl,la,At,O,G⟩;obtain⟨QW,rfl⟩:=nL la;have X4:=ae (XQ.only G (by omega));have R4:=ae O;have O4:=ae (OQ.trans G);obtain⟨sx,GJ⟩:=nM ((G.block t.heap.size Hy (by omega)).trans GV) QW (by omega);clear O G GV XQ RQ OQ;refine b _ _ (fun _=>iS X4.box) ?_;clear b K
    (try simp only[Act.put,nzL])
   case' h2 =>
    go_simp;go_at_call 33;refine(aw R _ 5 _ (R2.below br.drew ly) (by omega) (by omega) (by omega)).mono ?_;rintro e F ⟨z3,rfl,la,At,O,G⟩;obtain⟨QW,rfl⟩:=nL la;have QY:Hid (Only R t F):=(Only.of_below br.drew).trans G;have E:=ae (m.only QY (by omega));have R3:=ae O;have O3:=ae (O2.trans QY);clear O G QY l;have l:=ae (iS E.box);refine b _ _ (fun _=>l) ?_;clear b K
    (try simp only[Act.put,nzL])
    have hxl4:=E.lt;refine af (i:=2) rfl (by as_aux_lemma=>kernel_rfl) (fun K b=>?_);go_simp;have BQ:=ae ((q9 F).alloc ly (Q #[U ⟨#[97]⟩,U ⟨#[122,122]⟩,U ⟨#[]⟩,U ⟨#[120,32,121]⟩,U ⟨#[116,48]⟩] 9));have X4:=ae (E.below BQ ly);have R4:=ae (R3.below BQ ly);have O4:=ae (O3.then (BQ.mono (by omega)));obtain⟨sx,GJ⟩:=nM (cM F (Q #[U ⟨#[97]⟩,U ⟨#[122,122]⟩,U ⟨#[]⟩,U ⟨#[120,32,121]⟩,U ⟨#[116,48]⟩] 9)) QW (by omega);refine b _ _ (fun _=>iS X4.box) ?_;clear b K BQ l
    (try simp only[Act.put,nzL])
    generalize F.alloc (Q #[U ⟨#[97]⟩,U ⟨#[122,122]⟩,U ⟨#[]⟩,U ⟨#[120,32,121]⟩,U ⟨#[116,48]⟩] 9)=WL at X4 R4 O4 GJ ⊢
   all_goals
    have hm5:QW<5:=by omega
    have SQ:=ae X4.keepS;have l:=ae (SQ WL (fun j B _=>rfl))
    iterate 3
     refine cG 5 rfl rfl (by as_aux_lemma=>kernel_rfl) (fun K b=>?_);go_simp;refine b _ _ (fun _=>l) ?_;clear b K
     (try simp only[Act.put,nzL])
    have GC:=X4.lt;have hxi3:=X4.hi;refine af (i:=8) rfl (by as_aux_lemma=>kernel_rfl) (fun K b=>?_);go_simp;have AB:=ae ((q9 WL).alloc ly (Q #[U sx,U ⟨#[]⟩] 121));have XA:=ae (X4.below AB ly);have hz6:=AB.size;refine b _ _ (fun _=>SQ _ (fun j B _=>AB.block j B)) ?_;clear b K l
    (try simp only[Act.put,nzL])
    refine af (i:=9) rfl (by as_aux_lemma=>kernel_rfl) (fun K b=>?_);refine bI rfl (.tmp 28) (.tmp 35) 26 rfl (w.heap.size+2) 121 Hl (QV #[U ⟨#[]⟩,U ⟨#[]⟩]) 2 32 Tryz.underlying26 hi Hx Hq Hw rfl (by decide) (Y QX C.length c2) C.length (C.flatMap bG) (by simp[Act.eval]) XA.src (T WL.heap.size 0 Z) 1 1 (bG ⟨sx,⟨#[]⟩⟩) (by simp[Act.eval]) rfl (fun j u hu=>df WL _ _ _ j u hu) (by simp[bG,Value.oneCell']) (by unfold maxLen;omega) (by omega) (by omega) ?_;intro v' w7 D A _;obtain⟨a7,c7,rfl⟩:=aF D;have S7:=ae (SQ w7 (fun j B n8=>(A.block j (lj B AB.size) n8).trans (AB.block j B)));obtain⟨c8,b8⟩:=XA.addS (x:=⟨sx,⟨#[]⟩⟩) D A;have X9:=ae c8;have B9:=ae b8;clear D A c8 b8;refine b _ _ (fun _=>S7) ?_;clear b K
    (try simp only[Act.put,nzL])
    refine af (i:=10) rfl (by as_aux_lemma=>kernel_rfl) (fun K b=>?_);go_simp;refine b _ _ (fun _=>S7) ?_;clear b K
    (try simp only[Act.put,nzL])
    obtain⟨s7,t7⟩:=S7.out;have f7:w7.frozen? (T y.heap.size 0 Z)=QQ:=by simp[World.frozen?,s7]
    have l7:=ai s7;clear s7;refine af (i:=11) rfl (by as_aux_lemma=>kernel_rfl) (fun K b=>?_);go_simp;refine b _ _ (fun h=>absurd rfl h) ?_;clear b K
    (try simp only[Act.put,nzL])
    refine aN (by as_aux_lemma=>kernel_rfl) ?_ _;have BB:=ae ((AB.mono (show w.heap.size+2<=WL.heap.size by omega)).trans B9.out);have R9:=ae (R4.low BB (by omega));have O9:=ae (O4.then (BB.mono (by omega)));clear t7 f7 l7 GJ;go_simp;generalize w7.setCell (T y.heap.size 0 Z) (Y a7 (C.length+1) c7)=W9 at X9 R9 O9 ⊢;have Q9:=ae X9.box;have ZB:=ae X9.res;have ZA:=ae (fv X9.src (by simp) X9.tgt rfl (by rw[a8];exact(by omega:C.length+1<=300)) (by omega) G1);clear X Q2 bt aq;go_wp2;go_meet;exact⟨_,_,_,_,_,_,_,_,_,by omega,Q9,ZB,ZA,R9,O9⟩
  ·by_cases hl:1<(o.length:Int)
   ·obtain⟨s,rfl⟩:=ke m.tgt.own (by omega)
    obtain⟨r0,r1,RR,rfl⟩:∃ r0 r1 RR,o=r0 :: r1 :: RR:=(by
     match o,hl with
     | [],h=>simp at h
     | [_],h=>simp at h
     | r0 :: r1 :: RR,_=>exact⟨r0,r1,RR,rfl⟩)
    have mv:(r0 :: r1 :: RR).length<=250:=by omega
    obtain⟨ka,Hb⟩:=bB m.tgt.own (j:=0) (u:=U r0.1.name) rfl;obtain⟨kb,GO⟩:=bB m.tgt.own (j:=1) (u:=Y (N (T r0.2.1 0 Z)) r0.1.actN r0.2.2) rfl;obtain⟨kc,Fk⟩:=bB m.tgt.own (j:=2) (u:=U r1.1.name) rfl;obtain⟨kd,GE⟩:=bB m.tgt.own (j:=3) (u:=Y (N (T r1.2.1 0 Z)) r1.1.actN r1.2.2) rfl;have n9:=(m.tgt.own.lt s rfl).2;generalize P:(r0 :: r1 :: RR).length=nt at Q2 m hl mv GU ⊢;have HL:=ae P;clear P;have GK:0<nt:=by omega
    have Hm:1<nt:=by omega
    have BA:=ae ((q9 t).alloc ly (Q #[U r0.1.name,Y (N (T r0.2.1 0 Z)) r0.1.actN r0.2.2] 125));have XA:=ae (m.below BA ly);have RA:=ae (R2.below BA ly);have Hf:=m.hi;have OA:=ae (O2.then (BA.mono (by omega)));have cc:∀ j,(t.alloc (Q #[U r0.1.name,Y (N (T r0.2.1 0 Z)) r0.1.actN r0.2.2] 125)).cell? (T s j Z)=t.cell? (T s j Z):=fun j=>BA.cell (p:=(T s j Z)) n9;have cf:∀ j,(t.alloc (Q #[U r0.1.name,Y (N (T r0.2.1 0 Z)) r0.1.actN r0.2.2] 125)).frozen? (T s j Z)=t.frozen? (T s j Z):=fun j=>BA.frozen (p:=(T s j Z)) n9;have KA:=ae ((cc 0).trans ka);have GL:=ae ((cf 0).trans Hb);have KB:=ae ((cc 1).trans kb);have GD:=ae ((cf 1).trans GO);have KC:=ae ((cc 2).trans kc);have Hc:=ae ((cf 2).trans Fk);have KD:=ae ((cc 3).trans kd);have GT:=ae ((cf 3).trans GE);have KX:Hid ((t.alloc (Q #[U r0.1.name,Y (N (T r0.2.1 0 Z)) r0.1.actN r0.2.2] 125)).heap[t.heap.size]?=N (Q #[U r0.1.name,Y (N (T r0.2.1 0 Z)) r0.1.actN r0.2.2] 125 (0,0))):=cM t _;have GW:s≠t.heap.size:=by omega
    have Hp:=BA.size;clear cc cf;go_wp2_with fail;generalize t.alloc (Q #[U r0.1.name,Y (N (T r0.2.1 0 Z)) r0.1.actN r0.2.2] 125)=WA at XA RA OA KA GL KB GD KC Hc KD GT KX Hp ⊢;have DQ:=XA.cells.2;clear ka Hb kb GO kc Fk kd GE BA X Q2 bt aq;refine aH (fun V=>V.cell? (T y.heap.size 1 Z)=N (Y (N (T s 0 Z)) nt c5)/\V.cell? (T s 2 Z)=N (U r1.1.name)/\V.cell? (T s 3 Z)=N (Y (N (T r1.2.1 0 Z)) r1.1.actN r1.2.2)) 7 (by as_aux_lemma=>kernel_rfl) ?_;have l:Hid (WA.drew.cell? (T y.heap.size 1 Z)=N (Y (N (T s 0 Z)) nt c5)/\WA.drew.cell? (T s 2 Z)=N (U r1.1.name)/\WA.drew.cell? (T s 3 Z)=N (Y (N (T r1.2.1 0 Z)) r1.1.actN r1.2.2)):=⟨DQ,KC,KD⟩
    iterate 6
     refine aO 0 (v:=?_) rfl rfl (by as_aux_lemma=>kernel_rfl) (fun _ _ _ h=>h) rfl ?_ l ?_;rotate_left
     ·(intro wz M;obtain⟨s0,s1,s2⟩:=M;go_simp)
      (try with_reducible rfl)
     (try simp only[Act.put,nzL])
    refine af (i:=6) rfl (by as_aux_lemma=>kernel_rfl) (fun K b=>?_);go_simp;refine b _ _ (fun _=>l) ?_;clear b K
    (try simp only[Act.put,nzL])
    have z0:=GL.out;have z1:=GD.out;have y0:=KA.out;have y1:=KB.out;have hgtA:s<WA.heap.size:=by omega
    refine af (i:=7) rfl (by as_aux_lemma=>kernel_rfl) (fun K b=>?_);go_simp;refine b _ _ (fun h=>absurd rfl h) ?_;clear b K
    (try simp only[Act.put,nzL])
    refine aN (by as_aux_lemma=>kernel_rfl) ?_ _;go_simp;have SW:=ae (((XA.sw HL.symm).set 0 (U r1.1.name)).set 1 (Y (N (T r1.2.1 0 Z)) r1.1.actN r1.2.2)).drew;have qr:=(XA.tgt.own.lt s rfl).1;have BW:=ae ((((eL (w.heap.size+2) WA).setCell (p:=(T s 0 Z)) qr (U r1.1.name)).setCell (p:=(T s 1 Z)) qr (Y (N (T r1.2.1 0 Z)) r1.1.actN r1.2.2)).drew);have kx:((WA.setCell (T s 0 Z) (U r1.1.name)).setCell (T s 1 Z) (Y (N (T r1.2.1 0 Z)) r1.1.actN r1.2.2)).drew.heap[t.heap.size]?=N (Q #[U r0.1.name,Y (N (T r0.2.1 0 Z)) r0.1.actN r0.2.2] 125 (0,0)):=((qh _ (T s 1 Z) _ t.heap.size (fun e=>GW (Eq.symm e))).trans (qh _ (T s 0 Z) _ t.heap.size (fun e=>GW (Eq.symm e)))).trans KX;clear l z0 z1 y0 y1 KA GL KB GD KC Hc KD GT KX DQ;generalize ((WA.setCell (T s 0 Z) (U r1.1.name)).setCell (T s 1 Z) (Y (N (T r1.2.1 0 Z)) r1.1.actN r1.2.2)).drew=WB at SW BW kx ⊢;obtain⟨kc,Fk⟩:=bB SW.own (j:=2) (u:=U r1.1.name) rfl;obtain⟨kd,GE⟩:=bB SW.own (j:=3) (u:=Y (N (T r1.2.1 0 Z)) r1.1.actN r1.2.2) rfl;have ph:=SW.box;have kv:WB.cell? (T y.heap.size 1 Z)=N (Y (N (T s 0 Z)) nt c5):=by simp[World.cell?,ph]
    have QZ:WB.cell? (T t.heap.size 0 Z)=N (U r0.1.name):=by simp[World.cell?,kx]
    have x1:WB.cell? (T t.heap.size 1 Z)=N (Y (N (T r0.2.1 0 Z)) r0.1.actN r0.2.2):=by simp[World.cell?,kx]
    have hgtB:s<WB.heap.size:=(SW.own.lt s rfl).2;have kv0:WB.cell? (T y.heap.size 0 Z)=N (Y QX C.length c2):=by simp[World.cell?,ph]
    have l1:=ai ph;have Ho:¬ s=y.heap.size:=by intro e;obtain⟨Hh,Fm⟩:=er SW.own s rfl;rw[e] at Fm;have h3:=ph.symm.trans Fm;cases h3
    have hg1':¬ y.heap.size=s:=fun e=>Ho e.symm;have ur:=ae ((SW.set 2 (U r0.1.name)).set 3 (Y (N (T r0.2.1 0 Z)) r0.1.actN r0.2.2))
    have ZA:=ae (ur.fin rfl (L:=r1 :: r0 :: RR) (by rw[<-oQ];rfl) HL.symm (by omega) (by have:=HL.out;simp only[z8] at this ⊢;omega) (by
     intro r hr;simp only[nD] at hr ⊢;rcases hr with h | h | h
     ·exact .inr (.inl h)
     ·exact .inl h
     ·exact .inr (.inr h)) G1)
    have BF:=ae ((BW.setCell (p:=(T s 2 Z)) qr (U r0.1.name)).setCell (p:=(T s 3 Z)) qr (Y (N (T r0.2.1 0 Z)) r0.1.actN r0.2.2));have R9:=ae (RA.low BF (by omega));have O9:=ae (OA.then (BF.mono (show w.heap.size<=w.heap.size+2 by omega)));have Q9:=ae ur.box;have ZB:=ae ur.res;clear ph kx SW ur BF BW XA RA OA;go_wp2;go_meet;exact⟨_,_,_,_,_,_,_,_,_,by omega,Q9,ZB,ZA,R9,O9⟩
   ·skip
    have Q9:=ae m.box;have ZB:=ae m.res;have ZA:=ae (fv m.src rfl m.tgt rfl (by omega) (by omega) G1);go_wp2;go_meet;exact⟨_,_,_,_,_,_,_,_,_,by omega,Q9,ZB,ZA,R2,O2⟩
  ·by_cases hl:0<(o.length:Int)
   ·go_wp2_with fail
    obtain⟨s,rfl⟩:=ke m.tgt.own (by omega)
    obtain⟨r0,RR,rfl⟩:∃ r0 RR,o=r0 :: RR:=(by
     match o,hl with
     | [],h=>simp at h
     | r0 :: RR,_=>exact⟨r0,RR,rfl⟩)
    have mv:(r0 :: RR).length<=250:=by omega
    have kb:=(bB m.tgt.own (j:=1) (u:=Y (N (T r0.2.1 0 Z)) r0.1.actN r0.2.2) rfl).1;have n9:=(m.tgt.own.lt s rfl).2;have qr:=(m.tgt.own.lt s rfl).1;have AC:=ae (m.tgt.act r0 (NB ..));have Hn:=N1.out r0 (NB ..);have Hj:=ae (G1 r0 (NB ..)).2;generalize P:(r0 :: RR).length=nt at Q2 m hl mv GU ⊢;have HL:=ae P;clear P;have GK:0<nt:=by omega
    have hRb:R<w.heap.size+2:=by omega
    refine aH (fun V=>V.heap[y.heap.size]?=N (Q #[Y QX C.length c2,Y (N (T s 0 Z)) nt c5] 29 (0,0))/\V.cell? (T y.heap.size 1 Z)=N (Y (N (T s 0 Z)) nt c5)/\V.cell? (T s 1 Z)=N (Y (N (T r0.2.1 0 Z)) r0.1.actN r0.2.2)) 11 (by as_aux_lemma=>kernel_rfl) ?_;have l:Hid (t.drew.heap[y.heap.size]?=N (Q #[Y QX C.length c2,Y (N (T s 0 Z)) nt c5] 29 (0,0))/\t.drew.cell? (T y.heap.size 1 Z)=N (Y (N (T s 0 Z)) nt c5)/\t.drew.cell? (T s 1 Z)=N (Y (N (T r0.2.1 0 Z)) r0.1.actN r0.2.2)):=⟨m.box,Q2,kb⟩
    iterate 8
     refine aO 0 (v:=?_) rfl rfl (by as_aux_lemma=>kernel_rfl) (fun _ _ _ h=>h) rfl ?_ l ?_;rotate_left
     ·(intro wz M;obtain⟨s0,s1,s2⟩:=M;go_simp)
      (try with_reducible rfl)
     (try simp only[Act.put,nzL])
    refine af (i:=8) rfl (by as_aux_lemma=>kernel_rfl) (fun K b=>?_);go_simp;go_at_call 78;refine(vH R _ r0.2.1 r0.2.2 r0.1.actN r0.1.act _ (R2.below br.drew ly) (by omega) (AC.1.below br.drew ly) Hn Hj).mono ?_;rintro e F ⟨L3,g3,d3,rfl,Bk,_,hL3,Hz,q3,hq3,O,G⟩;have QY:Hid (Only R t F):=(Only.of_below br.drew).trans G;have E:=ae (m.only QY (by omega));have R3:=ae O;have O3:=ae (O2.trans QY);have GY:F.cell? (T s 1 Z)=N (Y (N (T r0.2.1 0 Z)) r0.1.actN r0.2.2):=(QY.cell s 1 n9 (by omega)).trans kb;have z3:F.frozen? (T s 1 Z)=QQ:=by obtain⟨Hh,hc⟩:=E.tgt.type s rfl;simp[World.frozen?,hc]
    have hgt3:=lj n9 QY.size;have SA:=ae (E.setA (n:=L3.length) (g:=g3) (c:=d3) (f:=dA L3) rfl HL.symm (kM (by have h:=Bk;unfold IR at h;rw[ug] at h;exact h)).1 (jz Bk) (by have:t.heap.size<=g3:=Bk.lt.1;have:=m.lt;have:=m.hi;omega) (by omega) (jL Hz) (by omega) (by rw[HL.out];omega) G1);clear Bk O G QY l;have l:=ae (show F.heap[y.heap.size]?=N (Q #[Y QX C.length c2,Y (N (T s 0 Z)) nt c5] 29 (0,0))/\F.cell? (T y.heap.size 1 Z)=N (Y (N (T s 0 Z)) nt c5)/\F.cell? (T s 1 Z)=N (Y (N (T r0.2.1 0 Z)) r0.1.actN r0.2.2) from⟨E.box,E.cells.2,GY⟩);refine b _ _ (fun _=>l) ?_;clear b K
    (try simp only[Act.put,nzL])
    iterate 2
     refine cG 9 rfl rfl (by as_aux_lemma=>kernel_rfl) (fun K b=>?_);go_simp;refine b _ _ (fun _=>l) ?_;clear b K
     (try simp only[Act.put,nzL])
    refine af (i:=11) rfl (by as_aux_lemma=>kernel_rfl) (fun K b=>?_);go_simp;refine b _ _ (fun h=>absurd rfl h) ?_;clear b K
    (try simp only[Act.put,nzL])
    refine aN (by as_aux_lemma=>kernel_rfl) ?_ _;obtain⟨hE,hB,hQ,fd⟩:=SA.out;have ZA:=ae hE;have Q9:=ae hB;have ZB:=ae hQ;have R4:=ae (R3.low fd (by omega));have O4:=ae (O3.then (fd.mono (show w.heap.size<=w.heap.size+2 by omega)));clear hE hB hQ fd SA l kb GY z3 hl X Q2 bt aq;go_simp;generalize F.setCell (T s 1 Z) (Y (N (T g3 0 Z)) L3.length d3)=W4 at ZA Q9 ZB R4 O4 ⊢;go_wp2;go_meet;exact⟨_,_,_,_,_,_,_,_,_,by omega,Q9,ZB,ZA,R4,O4⟩
   ·skip
    have Q9:=ae m.box;have ZB:=ae m.res;have ZA:=ae (fv m.src rfl m.tgt rfl (by omega) (by omega) G1);go_wp2;go_meet;exact⟨_,_,_,_,_,_,_,_,_,by omega,Q9,ZB,ZA,R2,O2⟩
  ·by_cases hl:0<(C.length:Int)
   ·go_wp2_with fail
    obtain⟨gs,rfl⟩:=ke m.src (by omega)
    obtain⟨QZ,LR,rfl⟩:∃ QZ LR,C=QZ :: LR:=(by
     match C,hl with
     | [],h=>simp at h
     | QZ :: LR,_=>exact⟨QZ,LR,rfl⟩)
    have mv:(QZ :: LR).length<=250:=by omega
    generalize P:(QZ :: LR).length=nl at X m hl mv GS ⊢;have HL:=ae P;clear P;have GK:0<nl:=by omega
    refine aH (BxS (Y (N (T gs 0 Z)) nl c2) (Y a5 o.length c5) y.heap.size) 8 (by as_aux_lemma=>kernel_rfl) ?_;have l:=ae (iS (W:=t.drew) m.box)
    iterate 3
     refine aO 0 (v:=?_) rfl rfl (by as_aux_lemma=>kernel_rfl) (fun _ _ _ h=>h) rfl ?_ l ?_;rotate_left
     ·(intro wz M;obtain⟨s0,s1⟩:=M;go_simp)
      (try with_reducible rfl)
     (try simp only[Act.put,nzL])
    refine af (i:=3) rfl (by as_aux_lemma=>kernel_rfl) (fun K b=>?_);go_simp;go_at_call 33;refine(aw R _ 2 _ (R2.below br.drew ly) (by omega) (by omega) (by omega)).mono ?_;rintro e F ⟨z3,rfl,la,At,O,G⟩;obtain⟨QW,rfl⟩:=nL la;have QY:Hid (Only R t F):=(Only.of_below br.drew).trans G;have E:=ae (m.only QY (by omega));have R3:=ae O;have O3:=ae (O2.trans QY);clear O G QY l;have l:=ae (iS E.box);refine b _ _ (fun _=>l) ?_;clear b K
    (try simp only[Act.put,nzL])
    have He:IntKind.i64.wrap (2000+(QW:Int))=2000+(QW:Int):=by rw[j6];omega
    refine af (i:=4) rfl (by as_aux_lemma=>kernel_rfl) (fun K b=>?_);go_simp;refine b _ _ (fun _=>l) ?_;clear b K
    (try simp only[Act.put,nzL])
    refine af (i:=5) rfl (by as_aux_lemma=>kernel_rfl) (fun K b=>?_);go_simp;go_at_call 63;refine(eG ⟨#[115]⟩ (2000+QW) _ (by show 1*(2000+QW)<=4000;omega) (by omega)).mono ?_;rintro e w4 ⟨tt,rfl,_,rfl⟩;refine b _ _ (fun _=>l) ?_;clear b K
    (try simp only[Act.put,nzL])
    have XL:Hid (SpX (w.heap.size+1) y.heap.size (w.heap.size+2) w4 (Y (N (T gs 0 Z)) (QZ :: LR).length c2) (Y a5 o.length c5) (QZ :: LR) o):=by rw[HL.out];exact E
    have Hr:=(XL.src.lt gs rfl).2;obtain⟨ky,kz⟩:=bB XL.src (j:=1) (u:=U QZ.text) rfl;obtain⟨x3,b3⟩:=XL.setS (j:=1) (LS':=⟨QZ.name,tt⟩ :: LR) (U tt) rfl rfl;clear XL;rw[HL.out] at x3;have X4:=ae x3;have B4:=ae b3;clear x3 b3
    iterate 2
     refine cG 6 rfl rfl (by as_aux_lemma=>kernel_rfl) (fun K b=>?_);go_simp;refine b _ _ (fun _=>l) ?_;clear b K
     (try simp only[Act.put,nzL])
    refine af (i:=8) rfl (by as_aux_lemma=>kernel_rfl) (fun K b=>?_);go_simp;refine b _ _ (fun h=>absurd rfl h) ?_;clear b K
    (try simp only[Act.put,nzL])
    refine aN (by as_aux_lemma=>kernel_rfl) ?_ _;have R4:=ae (R3.low B4 (by omega));have O4:=ae (O3.then (B4.mono (show w.heap.size<=w.heap.size+2 by omega)));clear l ky kz hl;go_simp;generalize w4.setCell (T gs 1 Z) (U tt)=W4 at X4 R4 O4 ⊢;have Q9:=ae X4.box;have ZB:=ae X4.res;have ZA:=ae (fv X4.src HL.symm X4.tgt rfl (by have:=HL.out;simp only[z8] at this ⊢;omega) (by omega) G1);clear X Q2 bt aq;go_wp2;go_meet;exact⟨_,_,_,_,_,_,_,_,_,by omega,Q9,ZB,ZA,R4,O4⟩
   ·skip
    have Q9:=ae m.box;have ZB:=ae m.res;have ZA:=ae (fv m.src rfl m.tgt rfl (by omega) (by omega) G1);go_wp2;go_meet;exact⟨_,_,_,_,_,_,_,_,_,by omega,Q9,ZB,ZA,R2,O2⟩
  ·go_wp2_with fail
   go_loopw [7] (fun i wr=>∃ (k q:Nat) (v1:QS) (RQ:List TR),i=I J k/\k<=RQ.length/\q<=p+1+k/\RQ.length<=300/\Hid (SpX (w.heap.size+1) y.heap.size (w.heap.size+2) wr (Y QX C.length c2) v1 C RQ)/\Hid (GX RQ)/\Hid (Rd wr R q)/\Hid (Only R w wr)) (fun i _=>400 - (intOf i).toNat);case atStart=>exact⟨0,p+1,_,o,rfl,by omega,by omega,by omega,m,G1,R2,O2⟩
   case round =>
    clear m R2 O2 X Q2 bt aq G1 N1 ld;obtain⟨k,q4,v1,o,rfl,hk,hq4,hk3,m,G1,R2,O2⟩:=hrel;obtain⟨t,rfl⟩:∃ t,t=wr:=⟨wr,rfl⟩
    obtain⟨a5,c5,rfl⟩:=aF m.tgt.own;have ld:=m.lt;have hw1:IntKind.i64.wrap ((C.length:Int)+o.length)=(C.length:Int)+o.length:=by rw[j6];omega
    have hwk:IntKind.i64.wrap ((k:Int)+1)=(k:Int)+1:=by rw[j6];omega
    go_wp2_with fail;have SB:Hid (∀ V:H,V.heap[y.heap.size]?=N (Q #[Y QX C.length c2,Y a5 o.length c5] 29 (0,0))->V.heap[y.heap.size]?=N (Q #[Y QX C.length c2,Y a5 o.length c5] 29 (0,0))/\V.cell? (T y.heap.size 0 Z)=N (Y QX C.length c2)/\V.cell? (T y.heap.size 1 Z)=N (Y a5 o.length c5)):=fun V h=>⟨h,by simp[World.cell?,h],by simp[World.cell?,h]⟩
    refine wp_region_held_drew (S:=fun V=>V.heap[y.heap.size]?=N (Q #[Y QX C.length c2,Y a5 o.length c5] 29 (0,0))/\V.cell? (T y.heap.size 0 Z)=N (Y QX C.length c2)/\V.cell? (T y.heap.size 1 Z)=N (Y a5 o.length c5)) (by as_aux_lemma=>kernel_rfl) (SB t m.box) (fun hS=>?_);have l:=ae hS;clear hS
    iterate 8
     refine aV 0 (v:=?_) rfl rfl (by as_aux_lemma=>kernel_rfl) (fun _ _ _ h=>h) rfl ?_ l ?_;rotate_left
     ·(intro wz M;obtain⟨s0,s1,s2⟩:=M;go_simp)
      (try with_reducible rfl)
     (try simp only[Act.put,nzL])
    refine aD (i:=8) rfl (by as_aux_lemma=>kernel_rfl) (fun K b=>?_);go_simp;go_at_call 33;refine(aw R _ 2 _ (R2.below br.drew ly) (by omega) (by omega) (by omega)).mono ?_;rintro e F ⟨z3,rfl,la,At,O,G⟩;obtain⟨QW,rfl⟩:=nL la;have QY:Hid (Only R t F):=(Only.of_below br.drew).trans G;have E:=ae (m.only QY (by omega));have R3:=ae O;have O3:=ae (O2.trans QY);clear O G QY l;have l:=ae (SB F E.box);refine b _ _ l ?_;clear b K
    (try simp only[Act.put,nzL])
    have He:IntKind.i64.wrap (200+(QW:Int))=200+(QW:Int):=by rw[j6];omega
    iterate 2
     refine qi 9 rfl rfl (by as_aux_lemma=>kernel_rfl) (fun K b=>?_);go_simp;refine b _ _ l ?_;clear b K
     (try simp only[Act.put,nzL])
    refine wpAnyH_done (by as_aux_lemma=>kernel_rfl) ?_ _;clear l SB;by_cases hlt:(C.length:Int)+o.length<200+(QW:Int)
    ·go_wp2_with fail
     have GC:=E.lt;have SQ:=ae E.keepT;refine aH (BxT (Y QX C.length c2) (Y a5 o.length c5) y.heap.size) 13 (by as_aux_lemma=>kernel_rfl) ?_;have l:=ae (SQ F.drew (fun j B _=>rfl))
     iterate 3
      refine aO 0 (v:=?_) rfl rfl (by as_aux_lemma=>kernel_rfl) (fun _ _ _ h=>h) rfl ?_ l ?_;rotate_left
      ·(intro wz M;obtain⟨s0,s1⟩:=M;go_simp)
       (try with_reducible rfl)
      (try simp only[Act.put,nzL])
     refine af (i:=3) rfl (by as_aux_lemma=>kernel_rfl) (fun K b=>?_);go_simp;go_at_call 83;refine(iE k (by omega) _).mono ?_;rintro e wl ⟨lb,rfl,hlb,fd⟩;have BL:Hid (Below F.heap.size F wl):=(q9 F).drew.trans fd;clear fd l;have l:=ae (SQ wl (fun j B _=>BL.block j B));refine b _ _ (fun _=>l) ?_;clear b K
     (try simp only[Act.put,nzL])
     refine gD (i:=4) (v:=U (⟨#[117]⟩++lb)) rfl (by as_aux_lemma=>kernel_rfl) (by as_aux_lemma=>kernel_rfl) (by as_aux_lemma=>kernel_rfl) (by as_aux_lemma=>kernel_rfl) (fun _ _ _ h=>h) rfl ?_ l ?_
     ·intro wz _
      go_simp;omega
     (try simp only[Act.put,nzL])
     generalize (⟨#[117]⟩:ByteArray)++lb=tn;refine af (i:=5) rfl (by as_aux_lemma=>kernel_rfl) (fun K b=>?_);go_simp;go_at_call 84;refine(bE _ _).mono ?_;rintro e wm ⟨rfl,GP⟩;have BM:=ae (BL.trans (GP.mono BL.size));clear GP l;have l:=ae (SQ wm (fun j B _=>BM.block j B));refine b _ _ (fun _=>l) ?_;clear b K
     (try simp only[Act.put,nzL])
     refine af (i:=6) rfl (by as_aux_lemma=>kernel_rfl) (fun K b=>?_);go_simp;go_at_call 85;refine(bs _ _).mono ?_;rintro e Q0 ⟨rfl,ro⟩;have BN:=ae (BM.trans (ro.mono BM.size));clear ro l BL BM;have Hu:=BN.size;have BI:=ae (BN.alloc (by omega) (Q #[I J 1,U ⟨#[107]⟩,I J 0,I J 15,U ⟨#[]⟩,I J 0] 146));have Hk:=E.hi;have OI:=ae (qF Q0 (base:=w.heap.size+2) (by omega));have l:=ae (SQ Q0 (fun j B _=>BN.block j B));refine b _ _ (fun _=>l) ?_;clear b K l
     (try simp only[Act.put,nzL])
     have l:=ae (SQ _ (fun j B _=>BI.block j B))
     iterate 3
      refine cG 7 rfl rfl (by as_aux_lemma=>kernel_rfl) (fun K b=>?_);go_simp;refine b _ _ (fun _=>l) ?_;clear b K
      (try simp only[Act.put,nzL])
     have Fd:(Q0.alloc (Q #[I J 1,U ⟨#[107]⟩,I J 0,I J 15,U ⟨#[]⟩,I J 0] 146)).heap.size=Q0.heap.size+1:=by simp
     have AB:=ae (BI.alloc (by omega) (Q #[U tn,Y (N (T Q0.heap.size 0 Z)) 2 2] 125));refine af (i:=10) rfl (by as_aux_lemma=>kernel_rfl) (fun K b=>?_);go_simp;have XA:=ae (E.below AB ly);have OA:=ae (own_below OI (br.alloc ly (Q #[U tn,Y (N (T Q0.heap.size 0 Z)) 2 2] 125)) ly);refine b _ _ (fun _=>SQ _ (fun j B _=>AB.block j B)) ?_;clear b K
     (try simp only[Act.put,nzL])
     refine af (i:=11) rfl (by as_aux_lemma=>kernel_rfl) (fun K b=>?_);refine bI rfl (.tmp 106) (.tmp 115) 27 rfl (w.heap.size+2) 125 Fn (QV #[U ⟨#[]⟩,Y Z 0 0]) 2 40 Tryz.underlying27 B GI GH GM rfl (by decide) (Y a5 o.length c5) o.length (o.flatMap bc) (by simp[Act.eval]) XA.tgt.own (T (Q0.heap.size+1) 0 Z) 1 1 (bc (⟨tn,2,lsI gZ⟩,Q0.heap.size,2)) (by simp[Act.eval]) rfl (fun j u hu=>lV (Fd) _ _ _ j u hu) (by simp[bc,Value.oneCell']) (by unfold maxLen;omega) (by omega) (by have:=XA.hi;have:=XA.lt;omega) ?_;intro v' w7 D A _;obtain⟨a7,c7,rfl⟩:=aF D;have S7:=ae (SQ w7 (fun j B n8=>(A.block j (lj B AB.size) n8).trans (AB.block j B)));obtain⟨c8,b8⟩:=XA.addT (x:=⟨tn,2,lsI gZ⟩) (g:=Q0.heap.size) (c:=2) (fun r hr e=>by have:=E.tgt.ltg r hr;omega) OA D A;have X9:=ae c8;have B9:=ae b8;clear D A c8 b8;refine b _ _ (fun _=>S7) ?_;clear b K
     (try simp only[Act.put,nzL])
     refine af (i:=12) rfl (by as_aux_lemma=>kernel_rfl) (fun K b=>?_);go_simp;refine b _ _ (fun _=>S7) ?_;clear b K
     (try simp only[Act.put,nzL])
     obtain⟨s7,t7⟩:=S7.out;have f7:w7.frozen? (T y.heap.size 1 Z)=QQ:=by simp[World.frozen?,s7]
     have l7:=ai s7;clear s7;refine af (i:=13) rfl (by as_aux_lemma=>kernel_rfl) (fun K b=>?_);go_simp;refine b _ _ (fun h=>absurd rfl h) ?_;clear b K
     (try simp only[Act.put,nzL])
     refine aN (by as_aux_lemma=>kernel_rfl) ?_ _;go_wp2;have BB:=ae ((AB.mono (show w.heap.size+2<=F.heap.size by omega)).trans B9.out);refine⟨⟨k+1,_,Y a7 (o.length+1) c7,o++[((⟨tn,2,lsI gZ⟩,Q0.heap.size,2):TR)],by go_num,by rw[a8];exact Nat.succ_le_succ hk,by omega,by rw[a8];exact(by omega:o.length+1<=300),X9,G1.add (r:=(⟨tn,2,lsI gZ⟩,Q0.heap.size,2)) (by show 2<=300;omega) oP,R3.low BB (by omega),O3.then (BB.mono (by omega))⟩,by simp[intOf];omega⟩
    ·have X:=ld
     have Q2:=ld;have bt:=ld;have aq:=ld;have Q9:=ae E.box;have ZB:=ae E.res;have ZA:=ae (fv E.src rfl E.tgt rfl (by omega) (by omega) G1);clear X Q2 bt aq;go_wp2;go_meet;exact⟨_,_,_,_,_,_,_,_,_,by omega,Q9,ZB,ZA,R3,O3⟩
  ·go_wp2_with fail
   refine aH (BxT (Y QX C.length c2) (Y a5 o.length c5) y.heap.size) 14 (by as_aux_lemma=>kernel_rfl) ?_;have l:=ae (uj (W:=t.drew) m.box)
   iterate 3
    refine aO 0 (v:=?_) rfl rfl (by as_aux_lemma=>kernel_rfl) (fun _ _ _ h=>h) rfl ?_ l ?_;rotate_left
    ·(intro wz M;obtain⟨s0,s1⟩:=M;go_simp)
     (try with_reducible rfl)
    (try simp only[Act.put,nzL])
   refine af (i:=3) rfl (by as_aux_lemma=>kernel_rfl) (fun K b=>?_);go_simp;go_at_call 33;refine(aw R _ 2 _ (R2.below br.drew ly) (by omega) (by omega) (by omega)).mono ?_;rintro e F ⟨z3,rfl,la,At,O,G⟩;obtain⟨QW,rfl⟩:=nL la;have QY:Hid (Only R t F):=(Only.of_below br.drew).trans G;have E:=ae (m.only QY (by omega));have R3:=ae O;have O3:=ae (O2.trans QY);clear O G QY l;have l:=ae (uj E.box);refine b _ _ (fun _=>l) ?_;clear b K
   (try simp only[Act.put,nzL])
   have hw60:IntKind.i64.wrap (60+(QW:Int))=60+(QW:Int):=by rw[j6];omega
   refine af (i:=4) rfl (by as_aux_lemma=>kernel_rfl) (fun K b=>?_);go_simp;refine b _ _ (fun _=>l) ?_;clear b K
   (try simp only[Act.put,nzL])
   refine af (i:=5) rfl (by as_aux_lemma=>kernel_rfl) (fun K b=>?_);go_simp;go_at_call 63;refine(eG ⟨#[110]⟩ (60+QW) _ (by show 1*(60+QW)<=4000;omega) (by omega)).mono ?_;rintro e w4 ⟨tn,rfl,_,rfl⟩;refine b _ _ (fun _=>l) ?_;clear b K l
   (try simp only[Act.put,nzL])
   have SQ:=ae E.keepT;refine af (i:=6) rfl (by as_aux_lemma=>kernel_rfl) (fun K b=>?_);go_simp;go_at_call 84;refine(bE _ _).mono ?_;rintro e wm ⟨rfl,GQ⟩;have BM:=ae GQ;clear GQ;refine b _ _ (fun _=>SQ wm (fun j B _=>BM.block j B)) ?_;clear b K
   (try simp only[Act.put,nzL])
   refine af (i:=7) rfl (by as_aux_lemma=>kernel_rfl) (fun K b=>?_);go_simp;go_at_call 85;refine(bs _ _).mono ?_;rintro e Q0 ⟨rfl,ro⟩;have BN:=ae (BM.trans (ro.mono BM.size));clear ro BM;have Hu:=BN.size;have BI:=ae (BN.alloc (by omega) (Q #[I J 1,U ⟨#[107]⟩,I J 0,I J 15,U ⟨#[]⟩,I J 0] 146));have Hk:=E.hi;have GC:=E.lt;have OI:=ae (qF Q0 (base:=w.heap.size+2) (by omega));refine b _ _ (fun _=>SQ Q0 (fun j B _=>BN.block j B)) ?_;clear b K
   (try simp only[Act.put,nzL])
   have l:=ae (SQ _ (fun j B _=>BI.block j B))
   iterate 3
    refine cG 8 rfl rfl (by as_aux_lemma=>kernel_rfl) (fun K b=>?_);go_simp;refine b _ _ (fun _=>l) ?_;clear b K
    (try simp only[Act.put,nzL])
   have Fd:(Q0.alloc (Q #[I J 1,U ⟨#[107]⟩,I J 0,I J 15,U ⟨#[]⟩,I J 0] 146)).heap.size=Q0.heap.size+1:=by simp
   have AB:=ae (BI.alloc (by omega) (Q #[U tn,Y (N (T Q0.heap.size 0 Z)) 2 2] 125));refine af (i:=11) rfl (by as_aux_lemma=>kernel_rfl) (fun K b=>?_);go_simp;have XA:=ae (E.below AB ly);have OA:=ae (own_below OI (br.alloc ly (Q #[U tn,Y (N (T Q0.heap.size 0 Z)) 2 2] 125)) ly);refine b _ _ (fun _=>SQ _ (fun j B _=>AB.block j B)) ?_;clear b K
   (try simp only[Act.put,nzL])
   refine af (i:=12) rfl (by as_aux_lemma=>kernel_rfl) (fun K b=>?_);refine bI rfl (.tmp 121) (.tmp 131) 27 rfl (w.heap.size+2) 125 Fn (QV #[U ⟨#[]⟩,Y Z 0 0]) 2 40 Tryz.underlying27 B GI GH GM rfl (by decide) (Y a5 o.length c5) o.length (o.flatMap bc) (by simp[Act.eval]) XA.tgt.own (T (Q0.heap.size+1) 0 Z) 1 1 (bc (⟨tn,2,lsI gZ⟩,Q0.heap.size,2)) (by simp[Act.eval]) rfl (fun j u hu=>lV (Fd) _ _ _ j u hu) (by simp[bc,Value.oneCell']) (by unfold maxLen;omega) (by omega) (by have:=XA.hi;have:=XA.lt;omega) ?_;intro v' w7 D A _;obtain⟨a7,c7,rfl⟩:=aF D;have S7:=ae (SQ w7 (fun j B n8=>(A.block j (lj B AB.size) n8).trans (AB.block j B)));obtain⟨c8,b8⟩:=XA.addT (x:=⟨tn,2,lsI gZ⟩) (g:=Q0.heap.size) (c:=2) (fun r hr e=>by have:=E.tgt.ltg r hr;omega) OA D A;have X9:=ae c8;have B9:=ae b8;clear D A c8 b8;refine b _ _ (fun _=>S7) ?_;clear b K
   (try simp only[Act.put,nzL])
   refine af (i:=13) rfl (by as_aux_lemma=>kernel_rfl) (fun K b=>?_);go_simp;refine b _ _ (fun _=>S7) ?_;clear b K
   (try simp only[Act.put,nzL])
   obtain⟨s7,t7⟩:=S7.out;have f7:w7.frozen? (T y.heap.size 1 Z)=QQ:=by simp[World.frozen?,s7]
   have l7:=ai s7;clear s7;refine af (i:=14) rfl (by as_aux_lemma=>kernel_rfl) (fun K b=>?_);go_simp;refine b _ _ (fun h=>absurd rfl h) ?_;clear b K
   (try simp only[Act.put,nzL])
   refine aN (by as_aux_lemma=>kernel_rfl) ?_ _;have BB:=ae ((AB.mono (show w.heap.size+2<=w4.heap.size by omega)).trans B9.out);have R9:=ae (R3.low BB (by omega));have O9:=ae (O3.then (BB.mono (by omega)));have G9:=ae (G1.add (r:=(⟨tn,2,lsI gZ⟩,Q0.heap.size,2)) (by show 2<=300;omega) oP);clear t7 f7 l7 l;go_simp;generalize w7.setCell (T y.heap.size 1 Z) (Y a7 (o.length+1) c7)=W9 at X9 R9 O9 ⊢;have Q9:=ae X9.box;have ZB:=ae X9.res;have ZA:=ae (fv X9.src rfl X9.tgt (by simp) (by omega) (by rw[a8];exact(by omega:o.length+1<=300)) G9);clear X Q2 bt aq;go_wp2;go_meet;exact⟨_,_,_,_,_,_,_,_,_,by omega,Q9,ZB,ZA,R9,O9⟩
  ·have BQ:=ae ((q9 t).alloc ly (Q #[U ⟨#[97]⟩,Y Z 0 0] 125))
   have XQ:=ae (m.below BQ ly);go_wp2_with (at_builtin;refine bv _ rfl (.tmp 137) (.tmp 139) 27 rfl (w.heap.size+2) 125 Fn (QV #[U ⟨#[]⟩,Y Z 0 0]) 2 40 Tryz.underlying27 B GI GH GM rfl (by decide) (Y a5 o.length c5) o.length (o.flatMap bc) (by simp[Act.eval]) XQ.tgt.own (T t.heap.size 0 Z) 1 1 [U ⟨#[97]⟩,Y Z 0 0] (by simp[Act.eval]) rfl (fun j u hu=>df t _ _ _ j u hu) (by simp[Value.oneCell']) (by unfold maxLen;omega) (by omega) (by have:=m.hi;simp;omega) ?_;intro v' F D A _;obtain⟨a7,c7,rfl⟩:=aF D;obtain⟨hE,hB,hQ,fd⟩:=XQ.addNil D A (by omega) (by omega) G1.out;have ZA:=ae hE;have Hd:=ae fd;have Q9:=ae hB;have ZB:=ae hQ;have kb:=iJ A XQ.tgt.type XQ.box (by decide);clear D A hE hB hQ fd X Q2 bt aq;have e0:F.cell? (T y.heap.size 0 Z)=N (Y QX C.length c2):=(by simp[World.cell?,kb]);have e1:F.cell? (T y.heap.size 1 Z)=N (Y a5 o.length c5):=(by simp[World.cell?,kb]);have f2:F.frozen? (T y.heap.size 1 Z)=QQ:=(by simp[World.frozen?,kb]);have l1:=ai kb;have n8:=XQ.hi;clear kb);go_meet;exact⟨_,_,_,_,_,_,_,_,_,by omega,Q9,ZB,ZA,R2.low (BQ.mono (show w.heap.size+2<=t.heap.size by omega) |>.trans Hd.out) (by omega),O2.then ((BQ.mono (show w.heap.size<=t.heap.size by omega)).trans (Hd.mono (by omega)))⟩
  ·by_cases hl:1<(C.length:Int)
   ·go_wp2_with fail
    obtain⟨gs,rfl⟩:=ke m.src (by omega)
    obtain⟨QZ,x1,LR,rfl⟩:∃ QZ x1 LR,C=QZ :: x1 :: LR:=(by
     match C,hl with
     | [],h=>simp at h
     | [_],h=>simp at h
     | QZ :: x1 :: LR,_=>exact⟨QZ,x1,LR,rfl⟩)
    have Hr:=(m.src.lt gs rfl).2;have kx:=(bB m.src (j:=0) (u:=U QZ.name) rfl).1;obtain⟨ky,kz⟩:=bB m.src (j:=2) (u:=U x1.name) rfl;obtain⟨x3,b3⟩:=m.setS (j:=2) (LS':=QZ :: ⟨QZ.name,x1.text⟩ :: LR) (U QZ.name) rfl rfl;have E:=ae x3;have B3:=ae b3;clear x3 b3;have mv:(QZ :: x1 :: LR).length<=250:=by omega
    have Hi:(1:Int)<(QZ :: x1 :: LR).length:=hl;generalize P:(QZ :: x1 :: LR).length=nl at *;have HL:=ae P;clear P;have GK:0<nl:=by omega
    have Hm:1<nl:=by omega
    refine aH (fun V=>V.cell? (T y.heap.size 0 Z)=N (Y (N (T gs 0 Z)) nl c2)/\V.cell? (T gs 0 Z)=N (U QZ.name)) 9 (by as_aux_lemma=>kernel_rfl) ?_;have l:Hid ((t.drew.cell? (T y.heap.size 0 Z)=N (Y (N (T gs 0 Z)) nl c2))/\t.drew.cell? (T gs 0 Z)=N (U QZ.name)):=⟨X,kx⟩
    iterate 7
     refine aO 0 (v:=?_) rfl rfl (by as_aux_lemma=>kernel_rfl) (fun _ _ _ h=>h) rfl ?_ l ?_;rotate_left
     ·(intro wz M;obtain⟨s0,s1⟩:=M;go_simp)
      (try with_reducible rfl)
     (try simp only[Act.put,nzL])
    iterate 2
     refine cG 7 rfl rfl (by as_aux_lemma=>kernel_rfl) (fun K b=>?_);go_simp;refine b _ _ (fun _=>l) ?_;clear b K
     (try simp only[Act.put,nzL])
    refine af (i:=9) rfl (by as_aux_lemma=>kernel_rfl) (fun K b=>?_);go_simp;refine b _ _ (fun h=>absurd rfl h) ?_;clear b K
    (try simp only[Act.put,nzL])
    refine aN (by as_aux_lemma=>kernel_rfl) ?_ _;have R3:=ae ((R2.low B3 (by omega)).below br.drew ly);have O3:=ae (O2.then ((B3.mono (show w.heap.size<=w.heap.size+2 by omega)).drew));have XD:=ae (E.below br.drew ly);clear l kx ky kz hl Hi;go_simp;generalize (t.setCell (T gs 2 Z) (U QZ.name)).drew=W3 at XD R3 O3 ⊢;have Q9:=ae XD.box;have ZB:=ae XD.res;have ZA:=ae (fv XD.src HL.symm XD.tgt rfl (by have:=HL.out;simp only[z8] at this ⊢;omega) (by omega) G1);clear X Q2 bt aq;go_wp2;go_meet;exact⟨_,_,_,_,_,_,_,_,_,by omega,Q9,ZB,ZA,R3,O3⟩
   ·skip
    have Q9:=ae m.box;have ZB:=ae m.res;have ZA:=ae (fv m.src rfl m.tgt rfl (by omega) (by omega) G1);go_wp2;go_meet;exact⟨_,_,_,_,_,_,_,_,_,by omega,Q9,ZB,ZA,R2,O2⟩
 case rest =>
 clear m R2 O2 X Q2 bt aq ld;obtain⟨b0,m0,k0,g0,b1,m1,k1,g1,q',hq',Q9,ZB,ZA,R9,O9⟩:=hcut;generalize wc=W9 at Q9 ZB ZA R9 O9 ⊢;have kb:=Q9.out;have kr:=ZB.out;have e0:W9.cell? (T y.heap.size 0 Z)=N (Y b0 m0 k0):=by simp[World.cell?,kb]
 have e1:W9.cell? (T y.heap.size 1 Z)=N (Y b1 m1 k1):=by simp[World.cell?,kb]
 have r0:W9.cell? (T (w.heap.size+1) 0 Z)=N (Y Z 0 0):=by simp[World.cell?,kr]
 have r1:W9.cell? (T (w.heap.size+1) 1 Z)=N (Y Z 0 0):=by simp[World.cell?,kr]
 have f0:W9.frozen? (T (w.heap.size+1) 0 Z)=QQ:=by simp[World.frozen?,kr]
 have f1:W9.frozen? (T (w.heap.size+1) 1 Z)=QQ:=by simp[World.frozen?,kr]
 have l0:=ai kr;have l1:=ai kb;clear kb kr;have BE:=ae (((eL w.heap.size W9).setCell (p:=(T (w.heap.size+1) 0 Z)) (vF _) (Y b0 m0 k0)).setCell (p:=(T (w.heap.size+1) 1 Z)) (vF _) (Y b1 m1 k1));have Hv:=ae ((ZA.agr ((dL (j:=0) (show w.heap.size+1<w.heap.size+2 by omega) (Y b0 m0 k0)).trans (dL (j:=1) (show w.heap.size+1<w.heap.size+2 by omega) (Y b1 m1 k1)))).mono (show w.heap.size<=w.heap.size+2 by omega));go_wp2;exact bp (v:=QV #[Y b0 m0 k0,Y b1 m1 k1]) (by simp[results,Tryz.results36,go_sem,r0,r1]) rfl ⟨_,_,_,_,_,_,_,_,rfl,Hv,_,by omega,R9.low BE Hg,O9.then BE⟩
theorem Fa {w:H}{b:Nat}{g f c:ByteArray}{t:TypeId}{fz:Nat × Nat}(h:w.heap[b]?=N (Q #[U g,U f,U c] t fz))(l:g.size<=5000)(h1:f.size<=5000)(h2:c.size<=5000)(k:Nat)(i:k<3):∃ s:ByteArray,w.cell? (T b k Z)=N (U s)/\s.size<=5000:=by
 match k,i with
 | 0,_=>exact⟨g,by simp[World.cell?,h],l⟩
 | 1,_=>exact⟨f,by simp[World.cell?,h],h1⟩
 | 2,_=>exact⟨c,by simp[World.cell?,h],h2⟩
 | j+3,h5=>exact absurd h5 (by omega)
theorem wM {w:H}{f:Nat}{a0 a1:Option Addr}{c0 c1:Nat}{c:List Source}{b:List TR}(j:w.ownsRow f 121 2 (Y a0 c.length c0) c.length (c.flatMap bG))(l:TRow w f (Y a1 b.length c1) b)(g:SpG c b)(m:c.length<=300)(h1:b.length<=300):HSp f w a0 c.length (aR c) a1 b.length (aT (b.map (·.1)))/\∀ i,i<b.length->1<=(aT (b.map (·.1)) i).actN/\(aT (b.map (·.1)) i).actN<=200:=by
 refine⟨fv j rfl l rfl m h1 (fun r h=>⟨by have:=(g.t r h).2.1.2;omega,(g.t r h).2.2⟩),fun i hi=>?_⟩;have e:aT (b.map (·.1)) i=b[i].1:=by simp[aT,hi]
 rw[e];exact(g.t _ (gj hi)).2.1
theorem rN (R p:Nat)(w:H)(hR:Rd w R p)(hp:p<=9000):Calls Tryz.prog 59 #[.pointer (N (T R 0 Z))] w fun e w'=>DH w R (p+6300) e w':=by
 have HR:=ae hR;have t:=hR.lt;clear hR;go_enter Tryz.func59,Tryz.ntmps59;go_wp2_with fail;have ZA:=ae ((q9 w).alloc ly (Q #[Y Z 0 0,Y Z 0 0] 29));have K0:Hid ((w.alloc (Q #[Y Z 0 0,Y Z 0 0] 29)).heap[w.heap.size]?=N (Q #[Y Z 0 0,Y Z 0 0] 29 (0,0))):=cM w _;have mv:(w.alloc (Q #[Y Z 0 0,Y Z 0 0] 29)).heap.size=w.heap.size+1:=by simp
 generalize w.alloc (Q #[Y Z 0 0,Y Z 0 0] 29)=W0 at ZA K0 mv ⊢;refine(aw R p 24 _ (HR.below ZA ly) (by omega) (by omega) (by omega)).mono ?_;rintro e w1 ⟨z,rfl,hz0',hz1',P,x⟩;have G:=ae P;have M:=ae ((Only.of_below ZA).trans x:Only R w w1);have Q9:=ae ((x.block w.heap.size (by omega) (by omega)).trans K0);have hs1:=x.size;clear P x ZA K0;by_cases hk:z=0
 ·subst hk
  go_wp2_with fail;refine(aw R _ 3 _ G (by omega) (by omega) (by omega)).mono ?_;rintro e b ⟨z2,rfl,la,h21,q,f⟩;obtain⟨C,rfl⟩:=nL la;have h:=ae q;have m:=ae (M.trans f);have i:=ae ((f.block w.heap.size (by omega) (by omega)).trans Q9);have bt:=f.size;clear q f G M Q9;have hw1:IntKind.i64.wrap (60+(C:Int))=60+(C:Int):=by rw[j6];omega
  have hw2:IntKind.i64.wrap (60+(C:Int) - 1)=59+(C:Int):=by rw[j6];omega
  go_wp2_with fail;have K:=ae ((q9 b).alloc ly (Q #[U ⟨#[97]⟩,U ⟨#[110,111,110,101]⟩,U ⟨#[116,48,48,48]⟩] 9));have X:=ae (h.below K ly);have V:=ae (m.then (K.mono (by omega)));have QY:=ae ((K.block w.heap.size (by omega)).trans i);have D:(b.alloc (Q #[U ⟨#[97]⟩,U ⟨#[110,111,110,101]⟩,U ⟨#[116,48,48,48]⟩] 9)).heap[b.heap.size]?=N (Q #[U ⟨#[97]⟩,U ⟨#[110,111,110,101]⟩,U ⟨#[116,48,48,48]⟩] 9 (0,0)):=cM b _;have u:=ai D;have E:=ae D;clear K D h m i;generalize b.alloc (Q #[U ⟨#[97]⟩,U ⟨#[110,111,110,101]⟩,U ⟨#[116,48,48,48]⟩] 9)=WL at X V QY E u ⊢;refine(aw R _ 3 _ X (by omega) (by omega) (by omega)).mono ?_;rintro e s ⟨z3,rfl,ld,h31,r,c⟩;obtain⟨m3,rfl⟩:=nL ld;have fd:m3<3:=by omega
  have ZB:=ae r;have QZ:=ae (V.trans c);have L:=ae ((c.block w.heap.size (by omega) (by omega)).trans QY);obtain⟨sx,n8,n9⟩:=Fa ((c.block b.heap.size u (by omega)).trans E) (PJ rfl) (PJ rfl) (PJ rfl) m3 fd;have hs4:=c.size;clear r c E X V QY;go_wp2_with fail;refine(vJ (59+C) (by omega) sx n9 _).mono ?_;rintro e F ⟨a0,n0,c0,f0,a1,n1,c1,f1,rfl,O,y⟩;have H4:=ae (O.mono (show w.heap.size+1<=s.heap.size by omega));have R4:=ae (ZB.below y ly);have O4:=ae (QZ.then (y.mono (by omega)));have K4:=ae ((y.block w.heap.size (by omega)).trans L);clear O y ZB QZ L n8;have kr:=K4.out;have r0:F.cell? (T w.heap.size 0 Z)=N (Y Z 0 0):=by simp[World.cell?,kr]
  have r1:F.cell? (T w.heap.size 1 Z)=N (Y Z 0 0):=by simp[World.cell?,kr]
  have f0:F.frozen? (T w.heap.size 0 Z)=QQ:=by simp[World.frozen?,kr]
  have f1:F.frozen? (T w.heap.size 1 Z)=QQ:=by simp[World.frozen?,kr]
  have l0:=ai kr;clear kr;have n:=ae (((eL w.heap.size F).setCell (p:=(T w.heap.size 0 Z)) ly (Y a0 n0 c0)).setCell (p:=(T w.heap.size 1 Z)) ly (Y a1 n1 c1));have o:=ae ((H4.agr ((dL (j:=0) (j2 w.heap.size) (Y a0 n0 c0)).trans (dL (j:=1) (j2 w.heap.size) (Y a1 n1 c1)))).mono (vF w.heap.size));go_wp2;exact bp (v:=QV #[Y a0 n0 c0,Y a1 n1 c1]) (by simp[results,Tryz.results59,go_sem,r0,r1]) rfl ⟨_,_,_,_,_,_,_,_,rfl,o,_,by omega,R4.low n t,O4.then n⟩
 ·go_wp2_with fail
  refine(pW R _ _ G (by omega)).mono ?_;rintro e b ⟨g,l,v0,v1,rfl,hs,ht,hG,hl0,hl1,q2,hq2,q,f⟩;obtain⟨a0,c0,rfl⟩:=aF hs;obtain⟨a1,c1,rfl⟩:=aF ht.own;obtain⟨hh,hg⟩:=wM hs ht hG (by omega) (by omega);have A:=ae (hh.mono (show w.heap.size+1<=w1.heap.size+2 by omega));have Q2:=ae hg;have h:=ae q;have m:=ae (M.trans f);have i:=ae ((f.block w.heap.size (by omega) (by omega)).trans Q9);have bt:=f.size;clear hs ht hG hh hg q f G M Q9;by_cases hk3:z<3
  ·have B:=ae ((q9 b).alloc ly (Q #[Y a0 g.length c0,Y a1 l.length c1] 29))
   have A:=ae (A.agr (bh B ly));have h:=ae (h.below B ly);have m:=ae (m.then (B.mono (by omega)));have i:=ae ((B.block w.heap.size (by omega)).trans i);have u:=B.size;clear B;go_wp2_with fail;generalize b.alloc (Q #[Y a0 g.length c0,Y a1 l.length c1] 29)=WS at A h m i u ⊢;refine(vL R q2 (w.heap.size+1) g.length c0 l.length c1 a0 _ a1 _ _ h (by omega) A Q2 (by omega) (by omega)).mono ?_;rintro e s ⟨b0,m0,QX,g0,S,QW,W,g1,rfl,Q0,q3,hq3,r,c⟩;have H3:=ae (Q0.mono (show w.heap.size+1<=WS.heap.size by omega));have ZB:=ae r;have QZ:=ae (m.trans c);have L:=ae ((c.block w.heap.size (by omega) (by omega)).trans i);clear Q0 r c A h m i Q2;have kr:=L.out;have r0:s.cell? (T w.heap.size 0 Z)=N (Y Z 0 0):=by simp[World.cell?,kr]
   have r1:s.cell? (T w.heap.size 1 Z)=N (Y Z 0 0):=by simp[World.cell?,kr]
   have f0:s.frozen? (T w.heap.size 0 Z)=QQ:=by simp[World.frozen?,kr]
   have f1:s.frozen? (T w.heap.size 1 Z)=QQ:=by simp[World.frozen?,kr]
   have l0:=ai kr;clear kr;have n:=ae (((eL w.heap.size s).setCell (p:=(T w.heap.size 0 Z)) ly (Y b0 m0 QX)).setCell (p:=(T w.heap.size 1 Z)) ly (Y S QW W));have o:=ae ((H3.agr ((dL (j:=0) (j2 w.heap.size) (Y b0 m0 QX)).trans (dL (j:=1) (j2 w.heap.size) (Y S QW W)))).mono (vF w.heap.size));go_wp2;exact bp (v:=QV #[Y b0 m0 QX,Y S QW W]) (by simp[results,Tryz.results59,go_sem,r0,r1]) rfl ⟨_,_,_,_,_,_,_,_,rfl,o,_,by omega,ZB.low n t,QZ.then n⟩
  ·clear Q2
   have kr:=i.out;have r0:b.cell? (T w.heap.size 0 Z)=N (Y Z 0 0):=by simp[World.cell?,kr]
   have r1:b.cell? (T w.heap.size 1 Z)=N (Y Z 0 0):=by simp[World.cell?,kr]
   have f0:b.frozen? (T w.heap.size 0 Z)=QQ:=by simp[World.frozen?,kr]
   have f1:b.frozen? (T w.heap.size 1 Z)=QQ:=by simp[World.frozen?,kr]
   have l0:=ai kr;clear kr;have aq:((b.setCell (T w.heap.size 0 Z) (Y a0 g.length c0)).setCell (T w.heap.size 1 Z) (Y a1 l.length c1)).heap.size=b.heap.size:=by simp
   have n:=ae ((((eL w.heap.size b).setCell (p:=(T w.heap.size 0 Z)) ly (Y a0 g.length c0)).setCell (p:=(T w.heap.size 1 Z)) ly (Y a1 l.length c1)).alloc (by omega) (Q #[Y a0 g.length c0,Y a1 l.length c1] 29));have o:=ae ((A.agr (((dL (j:=0) (j2 w.heap.size) (Y a0 g.length c0)).trans (dL (j:=1) (j2 w.heap.size) (Y a1 l.length c1))).trans (bh (br.alloc ly (Q #[Y a0 g.length c0,Y a1 l.length c1] 29)) ly))).mono (vF w.heap.size));clear aq;go_wp2;exact bp (v:=QV #[Y a0 g.length c0,Y a1 l.length c1]) (by simp[results,Tryz.results59,go_sem,r0,r1,l0]) rfl ⟨_,_,_,_,_,_,_,_,rfl,o,_,by omega,h.low n t,m.then n⟩
theorem fC (R p b0 n0 c0 n1 c1:Nat)(a0:Option Addr)(f0:Nat->Source)(a1:Option Addr)(f1:Nat->Target)(w:H)(hR:Rd w R p)(hp:p<=50000)(hb:R<b0)(hH:HSp b0 w a0 n0 f0 a1 n1 f1):Calls Tryz.prog 61 #[.pointer (N (T R 0 Z)),QV #[Y a0 n0 c0,Y a1 n1 c1]] w fun e X=>∃ t:ByteArray,e=QU (U t)/\∃ q:Nat,q<=p+3/\Rd X R q/\Only R w X:=by
 have S:=ae hR;have hlow:=hR.lt;have hn1:=hH.hn1;have QW:=ae hH;clear hR hH;have s:=ae ((q9 w).alloc ly (Q #[Y a0 n0 c0,Y a1 n1 c1] 29));have G:Hid ((w.alloc (Q #[Y a0 n0 c0,Y a1 n1 c1] 29)).heap[w.heap.size]?=N (Q #[Y a0 n0 c0,Y a1 n1 c1] 29 (0,0))):=cM w _;have ZB:(w.alloc (Q #[Y a0 n0 c0,Y a1 n1 c1] 29)).heap.size=w.heap.size+1:=by simp
 by_cases hn:0<(n1:Int)
 ·go_enter Tryz.func61,Tryz.ntmps61
  go_wp2_with fail;generalize w.alloc (Q #[Y a0 n0 c0,Y a1 n1 c1] 29)=r at s G ZB ⊢;have Q9:=ae (S.below s ly);have L:Hid (Only R w r):=Only.of_below s;refine(aw R p 8 _ Q9 (by omega) (by omega) (by omega)).mono ?_;rintro e j ⟨z,rfl,hz0',hz1',M,F⟩;have Q0:=ae M;have QY:=ae (L.trans F);have QX:=ae ((F.block w.heap.size (by omega) (by omega)).trans G);clear M F Q9 L G s;have P:=QX.out;have O:j.cell? (T w.heap.size 1 Z)=N (Y a1 n1 c1):=by simp[World.cell?,P]
  have l1:=ai P;clear P;by_cases hz:0<z
  ·go_wp2_with fail
   refine aH (fun V=>V.cell? (T w.heap.size 1 Z)=N (Y a1 n1 c1)) 10 (by as_aux_lemma=>kernel_rfl) ?_;have ZA:Hid (j.drew.cell? (T w.heap.size 1 Z)=N (Y a1 n1 c1)):=O
   iterate 6
    refine aO 0 (v:=?_) rfl rfl (by as_aux_lemma=>kernel_rfl) (fun _ _ _ h=>h) rfl ?_ ZA ?_;rotate_left
    ·(intro wz s0;go_simp)
     (try with_reducible rfl)
    (try simp only[Act.put,nzL])
   refine af (i:=6) rfl (by as_aux_lemma=>kernel_rfl) (fun K D=>?_);go_simp;go_at_call 33;refine(aw R _ (n1:Int) _ (Q0.below br.drew ly) (by omega) (by omega) (by omega)).mono ?_;rintro e C ⟨z3,rfl,o,QZ,c,b⟩;obtain⟨l,rfl⟩:=nL o;have Q2:Hid (Only R j C):=(Only.of_below br.drew).trans b;have E:=ae c;have B:=ae (QY.trans Q2);have n:l<n1:=by omega
   clear c b ZA;have ZA:Hid (C.cell? (T w.heap.size 1 Z)=N (Y a1 n1 c1)):=(Q2.cell w.heap.size 1 l1 (by omega)).trans O;rcases(QW.sl C (B.agr hb)).2 with h0 | ⟨tb,tof,rfl,A⟩
   ·omega
   have kn:=(A.2 l n).1;have hl:=A.1;clear A O;refine D _ _ (fun _=>ZA) ?_;clear D K
   (try simp only[Act.put,nzL])
   iterate 4
    refine cG 7 rfl rfl (by as_aux_lemma=>kernel_rfl) (fun K D=>?_);go_simp;refine D _ _ (fun _=>ZA) ?_;clear D K
    (try simp only[Act.put,nzL])
   refine aN (by as_aux_lemma=>kernel_rfl) ?_ _;go_wp2;go_ret;exact⟨_,rfl,_,by omega,E,B⟩
  ·go_wp2_with fail
   have x:=ae ((q9 j).alloc ly (Q #[U ⟨#[97]⟩,U ⟨#[110,111,110,101]⟩,U ⟨#[]⟩,U ⟨#[120,32,121]⟩,U ⟨#[116,48]⟩] 9));have y:=ae (Q0.below x ly);have u:=ae (QY.then (x.mono (by omega)));have f:(j.alloc (Q #[U ⟨#[97]⟩,U ⟨#[110,111,110,101]⟩,U ⟨#[]⟩,U ⟨#[120,32,121]⟩,U ⟨#[116,48]⟩] 9)).heap[j.heap.size]?=N (Q #[U ⟨#[97]⟩,U ⟨#[110,111,110,101]⟩,U ⟨#[]⟩,U ⟨#[120,32,121]⟩,U ⟨#[116,48]⟩] 9 (0,0)):=cM j _;have m:=ai f;have g:=ae f;clear x f;generalize j.alloc (Q #[U ⟨#[97]⟩,U ⟨#[110,111,110,101]⟩,U ⟨#[]⟩,U ⟨#[120,32,121]⟩,U ⟨#[116,48]⟩] 9)=WL at y u g m ⊢;refine(aw R _ 5 _ y (by omega) (by omega) (by omega)).mono ?_;rintro e C ⟨z3,rfl,o,QZ,c,b⟩;obtain⟨l,rfl⟩:=nL o;have n:l<5:=by omega
   have E:=ae c;have B:=ae (u.trans b);obtain⟨sx,W⟩:=nM ((b.block (j.heap.size) m (by omega)).trans g) l n;clear c b g y u;go_wp2;go_ret;exact⟨sx,rfl,_,by omega,E,B⟩
 ·go_enter Tryz.func61,Tryz.ntmps61
  go_wp2_with fail;generalize w.alloc (Q #[Y a0 n0 c0,Y a1 n1 c1] 29)=r at s G ZB ⊢;have Q9:=ae (S.below s ly);have L:Hid (Only R w r):=Only.of_below s;have l0:=ai G.out;have x:=ae ((q9 r).alloc ly (Q #[U ⟨#[97]⟩,U ⟨#[110,111,110,101]⟩,U ⟨#[]⟩,U ⟨#[120,32,121]⟩,U ⟨#[116,48]⟩] 9));have y:=ae (Q9.below x ly);have u:=ae (L.then (x.mono (by omega)));have f:(r.alloc (Q #[U ⟨#[97]⟩,U ⟨#[110,111,110,101]⟩,U ⟨#[]⟩,U ⟨#[120,32,121]⟩,U ⟨#[116,48]⟩] 9)).heap[w.heap.size+1]?=N (Q #[U ⟨#[97]⟩,U ⟨#[110,111,110,101]⟩,U ⟨#[]⟩,U ⟨#[120,32,121]⟩,U ⟨#[116,48]⟩] 9 (0,0)):=(by rw[<-ZB];exact cM r _)
  have m:=ai f;have g:=ae f;clear x f;generalize r.alloc (Q #[U ⟨#[97]⟩,U ⟨#[110,111,110,101]⟩,U ⟨#[]⟩,U ⟨#[120,32,121]⟩,U ⟨#[116,48]⟩] 9)=WL at y u g m ⊢;refine(aw R _ 5 _ y (by omega) (by omega) (by omega)).mono ?_;rintro e C ⟨z3,rfl,o,QZ,c,b⟩;obtain⟨l,rfl⟩:=nL o;have n:l<5:=by omega
  have E:=ae c;have B:=ae (u.trans b);obtain⟨sx,W⟩:=nM ((b.block (w.heap.size+1) m (by omega)).trans g) l n;clear c b g y u;go_wp2;go_ret;exact⟨sx,rfl,_,by omega,E,B⟩
def DMk (w:H)(e:Ending)(b:H):Prop:=∃ (a0:Option Addr) (n0 c0:Nat) (f0:Nat->Source) (a1:Option Addr) (n1 c1:Nat) (f1:Nat->Target) (t:ByteArray),e=QU (.tuple #[QV #[Y a0 n0 c0,Y a1 n1 c1],U t])/\HSp w.heap.size b a0 n0 f0 a1 n1 f1/\Below w.heap.size w b
theorem sD (a:Option Addr)(n cap:Nat)(w:H)(hn:(n:Int)<=1048576)(X:n<=cap)(r:ByteSl w a n):Calls Tryz.prog 57 #[Y a n cap] w fun e w'=>DMk w e w':=by
 have QW:=ae r;clear r;go_enter Tryz.func57,Tryz.ntmps57;go_wp2_with fail;have y:=ae ((q9 w).alloc ly (Q #[Y Z 0 0,Y Z 0 0] 29));have KA:Hid ((w.alloc (Q #[Y Z 0 0,Y Z 0 0] 29)).heap[w.heap.size]?=N (Q #[Y Z 0 0,Y Z 0 0] 29 (0,0))):=cM w _;have Q2:(w.alloc (Q #[Y Z 0 0,Y Z 0 0] 29)).heap.size=w.heap.size+1:=by simp
 generalize w.alloc (Q #[Y Z 0 0,Y Z 0 0] 29)=W0 at y KA Q2 ⊢;refine(jd a n cap _ hn X (QW.below y ly)).mono ?_;rintro e G ⟨R,rfl,hRz,s,l⟩;have Q9:=ae s;have ZA:=ae (y.trans (l.mono (by omega)));have QZ:=ae ((l.block w.heap.size (by omega)).trans KA);have hs1:=l.size;have O:=s.lt;clear s l y KA;go_wp2_with fail;refine(rN R 0 _ Q9 (by omega)).mono ?_;rintro e b ⟨a0,n0,c0,f0,a1,n1,c1,f1,rfl,B,q2,hq2,E,m⟩;have hs2:=m.size;have u:=ae ((q9 b).alloc ly (Q #[Y a0 n0 c0,Y a1 n1 c1] 29));have ZB:=ae (E.below u ly);have F:=ZA.trans (m.below (by omega) ZA.size);have z:=ae (F.trans (u.mono F.size));have x:=ae (B.agr (bh u ly));have A:=ae ((u.block w.heap.size (by omega)).trans ((m.block w.heap.size (by omega) (by omega)).trans QZ));have o:Hid ((b.alloc (Q #[Y a0 n0 c0,Y a1 n1 c1] 29)).heap[b.heap.size]?=N (Q #[Y a0 n0 c0,Y a1 n1 c1] 29 (0,0))):=cM b _;have C:R<G.heap.size:=O;clear u B E m F ZA QZ Q9;go_upto_region 3 with fail;generalize b.alloc (Q #[Y a0 n0 c0,Y a1 n1 c1] 29)=Q0 at ZB z x A o ⊢;go_wp2_with fail;have SB:Hid (∀ V:H,V.heap[b.heap.size]?=N (Q #[Y a0 n0 c0,Y a1 n1 c1] 29 (0,0))->V.heap[b.heap.size]?=N (Q #[Y a0 n0 c0,Y a1 n1 c1] 29 (0,0))/\V.cell? (T b.heap.size 0 Z)=N (Y a0 n0 c0)/\V.cell? (T b.heap.size 1 Z)=N (Y a1 n1 c1)):=fun V h=>⟨h,by simp[World.cell?,h],by simp[World.cell?,h]⟩
 refine wp_region_held_drew (S:=fun V=>V.heap[b.heap.size]?=N (Q #[Y a0 n0 c0,Y a1 n1 c1] 29 (0,0))/\V.cell? (T b.heap.size 0 Z)=N (Y a0 n0 c0)/\V.cell? (T b.heap.size 1 Z)=N (Y a1 n1 c1)) (by as_aux_lemma=>kernel_rfl) (SB Q0 o) (fun r=>?_);have f:=ae r;clear r
 iterate 3
  refine aV 0 (v:=?_) rfl rfl (by as_aux_lemma=>kernel_rfl) (fun _ _ _ h=>h) rfl ?_ f ?_;rotate_left
  ·(intro wz M;obtain⟨s0,s1,s2⟩:=M;go_simp)
   (try with_reducible rfl)
  (try simp only[Act.put,nzL])
 refine aD (i:=3) rfl (by as_aux_lemma=>kernel_rfl) (fun K c=>?_);go_simp;go_at_call 61;refine(fC R _ G.heap.size n0 c0 n1 c1 a0 f0 a1 f1 _ (ZB.below br.drew ly) (by omega) C (x.agr (bh br.drew ly))).mono ?_;rintro e g ⟨t,rfl,q8,hq8,hR,D⟩;have q:Only R Q0 g:=(Only.of_below br.drew).trans D;clear D f;have B8:=ae (z.trans (q.below (by omega) z.size));have H8:=ae (x.agr (q.agr C));have QY:=ae ((q.block w.heap.size (ai A) (by omega)).trans A);have L:=ae ((q.block b.heap.size (ai o) (by omega)).trans o);have R8:=ae hR;clear q hR z x A o ZB;have f:=ae (SB g L);refine c _ _ f ?_;clear c K
 (try simp only[Act.put,nzL])
 have QX:=ae (H8.mono (show w.heap.size+1<=G.heap.size by omega));have kr:=QY.out;have r0:g.cell? (T w.heap.size 0 Z)=N (Y Z 0 0):=by simp[World.cell?,kr]
 have r1:g.cell? (T w.heap.size 1 Z)=N (Y Z 0 0):=by simp[World.cell?,kr]
 have f0:g.frozen? (T w.heap.size 0 Z)=QQ:=by simp[World.frozen?,kr]
 have f1:g.frozen? (T w.heap.size 1 Z)=QQ:=by simp[World.frozen?,kr]
 have l0:=ai kr;clear kr;refine aD (i:=4) rfl (by as_aux_lemma=>kernel_rfl) (fun K c=>?_);go_simp;clear f;have f:=ae (SB ((g.setCell (T w.heap.size 0 Z) (Y a0 n0 c0)).setCell (T w.heap.size 1 Z) (Y a1 n1 c1)) (((qh _ (T w.heap.size 1 Z) _ b.heap.size (by show b.heap.size≠w.heap.size;omega)).trans (qh _ (T w.heap.size 0 Z) _ b.heap.size (by show b.heap.size≠w.heap.size;omega))).trans L));refine c _ _ f ?_;clear c K
 (try simp only[Act.put,nzL])
 have W:=ae ((B8.setCell (p:=(T w.heap.size 0 Z)) ly (Y a0 n0 c0)).setCell (p:=(T w.heap.size 1 Z)) ly (Y a1 n1 c1));have P:=ae ((QX.agr ((dL (j:=0) (show w.heap.size<w.heap.size+1 by omega) (Y a0 n0 c0)).trans (dL (j:=1) (show w.heap.size<w.heap.size+1 by omega) (Y a1 n1 c1)))).mono (vF w.heap.size));refine aD (i:=5) rfl (by as_aux_lemma=>kernel_rfl) (fun K c=>?_);go_simp;refine c _ _ f ?_;clear c K
 (try simp only[Act.put,nzL])
 refine wpAnyH_done (by as_aux_lemma=>kernel_rfl) ?_ _;go_wp2;exact bp (v:=.tuple #[QV #[Y a0 n0 c0,Y a1 n1 c1],U t]) (by simp[results,Tryz.results57,go_sem,r0,r1]) rfl ⟨_,_,_,_,_,_,_,_,_,rfl,P,W⟩
theorem uo (a:Option Addr)(n cap:Nat)(w:H)(hn:(n:Int)<=1048576)(m:n<=cap)(l:ByteSl w a n):Calls Tryz.prog 17 #[Y a n cap] w fun e r=>DMk w e r:=by
 have c:=ae ((q9 w).alloc ly (Q #[Y Z 0 0,Y Z 0 0] 29));have KA:Hid ((w.alloc (Q #[Y Z 0 0,Y Z 0 0] 29)).heap[w.heap.size]?=N (Q #[Y Z 0 0,Y Z 0 0] 29 (0,0))):=cM w _;have i:(w.alloc (Q #[Y Z 0 0,Y Z 0 0] 29)).heap.size=w.heap.size+1:=by simp
 have f:=ae (sD a n cap (w.alloc (Q #[Y Z 0 0,Y Z 0 0] 29)) hn m (l.below c ly));clear l;go_enter Tryz.func17,Tryz.ntmps17;go_wp2_with fail;generalize w.alloc (Q #[Y Z 0 0,Y Z 0 0] 29)=q at c KA i f ⊢;refine f.mono ?_;rintro e b ⟨a0,n0,c0,f0,a1,n1,c1,f1,t,rfl,hH,g⟩;have kr:=(g.block w.heap.size (by omega)).trans KA;have r0:b.cell? (T w.heap.size 0 Z)=N (Y Z 0 0):=by simp[World.cell?,kr]
 have r1:b.cell? (T w.heap.size 1 Z)=N (Y Z 0 0):=by simp[World.cell?,kr]
 have f0':b.frozen? (T w.heap.size 0 Z)=QQ:=by simp[World.frozen?,kr]
 have f1':b.frozen? (T w.heap.size 1 Z)=QQ:=by simp[World.frozen?,kr]
 have l0:=ai kr;have o:=ae (((c.trans (g.mono (by omega))).setCell (p:=(T w.heap.size 0 Z)) ly (Y a0 n0 c0)).setCell (p:=(T w.heap.size 1 Z)) ly (Y a1 n1 c1));have h:=ae (((hH.mono (show w.heap.size+1<=q.heap.size by omega)).agr ((dL (j:=0) (show w.heap.size<w.heap.size+1 by omega) (Y a0 n0 c0)).trans (dL (j:=1) (show w.heap.size<w.heap.size+1 by omega) (Y a1 n1 c1)))).mono (vF w.heap.size));clear hH g kr f KA c;go_wp2;exact bp (v:=.tuple #[QV #[Y a0 n0 c0,Y a1 n1 c1],U t]) (by simp[results,Tryz.results17,go_sem,r0,r1]) rfl ⟨_,_,_,_,_,_,_,_,_,rfl,h,o⟩
def DPS (w:H)(e:Ending)(b:H):Prop:=∃ (a0:Option Addr) (n0 c0:Nat) (f0:Nat->Source) (a1:Option Addr) (n1 c1:Nat) (f1:Nat->Target) (t tx:ByteArray),e=QU (.tuple #[QV #[Y a0 n0 c0,Y a1 n1 c1],U t,U tx])/\HSp w.heap.size b a0 n0 f0 a1 n1 f1/\Below w.heap.size w b
theorem Fb {w:H}{b:Nat}{f c:ByteArray}{t:TypeId}{fz:Nat × Nat}(h:w.heap[b]?=N (Q #[U f,U c] t fz))(k:Nat)(g:k<2):∃ s,w.cell? (T b k Z)=N (U s):=by
 match k,g with
 | 0,_=>exact⟨f,by simp[World.cell?,h]⟩
 | 1,_=>exact⟨c,by simp[World.cell?,h]⟩
 | j+2,h5=>exact absurd h5 (by omega)
theorem wN {w:H}{b:Nat}{u0 u1 v0 v1:QS}{t:TypeId}{fz:Nat × Nat}(h:w.heap[b]?=N (Q #[u0,u1] t fz)):((w.setCell (T b 0 Z) v0).setCell (T b 1 Z) v1).heap[b]?=N (Q #[v0,v1] t fz):=by simp[World.setCell,JR,h]
theorem cH {V:H}{b:Nat}{u0 u1:QS}{t:TypeId}(h:V.heap[b]?=N (Q #[u0,u1] t (0,0))):V.cell? (T b 0 Z)=N u0/\V.cell? (T b 1 Z)=N u1:=⟨by simp[World.cell?,h],by simp[World.cell?,h]⟩
theorem Dm {V:H}{b:Nat}{u0 u1:QS}{t:TypeId}(h:V.heap[b]?=N (Q #[u0,u1] t (0,0))):V.frozen? (T b 0 Z)=QQ/\V.frozen? (T b 1 Z)=QQ/\b<V.heap.size:=⟨by simp[World.frozen?,h],by simp[World.frozen?,h],ai h⟩
structure PSt (w:H)(R h b:Nat)(a0:Option Addr)(n0 c0:Nat)(f0:Nat->Source)(a1:Option Addr)(n1 c1:Nat)(f1:Nat->Target)(u0 u1:QS)(V:H):Prop where
 bl:Below w.heap.size w V
 sp:HSp h V a0 n0 f0 a1 n1 f1
 rb:V.heap[w.heap.size]?=N (Q #[u0,u1] 29 (0,0))
 sb:V.heap[b]?=N (Q #[Y a0 n0 c0,Y a1 n1 c1] 29 (0,0))
 hR:w.heap.size<R/\R<h/\h<=b
section
variable {w V QY:H}{R h b:Nat}{a0 a1:Option Addr}{n0 c0 n1 c1:Nat}{f0:Nat->Source}{f1:Nat->Target}{u0 u1:QS}
theorem PSt.on (s:PSt w R h b a0 n0 c0 f0 a1 n1 c1 f1 u0 u1 V)(c:Only R V QY):PSt w R h b a0 n0 c0 f0 a1 n1 c1 f1 u0 u1 QY :=
 have k:=s.hR
 ⟨s.bl.trans (c.below (by omega) s.bl.size),s.sp.agr (c.agr k.2.1),(c.block _ (ai s.rb) (by omega)).trans s.rb,(c.block _ (ai s.sb) (by omega)).trans s.sb,k⟩
theorem PSt.be (s:PSt w R h b a0 n0 c0 f0 a1 n1 c1 f1 u0 u1 V)(c:Below V.heap.size V QY):PSt w R h b a0 n0 c0 f0 a1 n1 c1 f1 u0 u1 QY:=s.on (Only.of_below c)
theorem PSt.put (s:PSt w R h b a0 n0 c0 f0 a1 n1 c1 f1 u0 u1 V)(c f:QS):PSt w R h b a0 n0 c0 f0 a1 n1 c1 f1 c f ((V.setCell (T w.heap.size 0 Z) c).setCell (T w.heap.size 1 Z) f) :=
 have k:=s.hR;have g:Only w.heap.size V ((V.setCell (T w.heap.size 0 Z) c).setCell (T w.heap.size 1 Z) f):=gu (gu (Only.refl _ _) 0 c) 1 f
 ⟨s.bl.trans (g.below ly s.bl.size),s.sp.agr (g.agr (by omega)),wN s.rb,(g.block _ (ai s.sb) (by omega)).trans s.sb,k⟩
theorem PSt.big (s:PSt w R h b a0 n0 c0 f0 a1 n1 c1 f1 u0 u1 V):h<=V.heap.size:=by have:=ai s.sb;have:=s.hR;omega
end
theorem nr (a:Option Addr)(n cap:Nat)(w:H)(hn:(n:Int)<=1048576)(hc:n<=cap)(hS:ByteSl w a n):Calls Tryz.prog 19 #[Y a n cap] w fun e w'=>DPS w e w':=by
 have S0:=ae hS;clear hS;go_enter Tryz.func19,Tryz.ntmps19;go_wp2_with fail;have QZ:=ae ((q9 w).alloc ly (Q #[Y Z 0 0,Y Z 0 0] 29));have KA:Hid ((w.alloc (Q #[Y Z 0 0,Y Z 0 0] 29)).heap[w.heap.size]?=N (Q #[Y Z 0 0,Y Z 0 0] 29 (0,0))):=cM w _;have mv:(w.alloc (Q #[Y Z 0 0,Y Z 0 0] 29)).heap.size=w.heap.size+1:=by simp
 generalize w.alloc (Q #[Y Z 0 0,Y Z 0 0] 29)=W0 at QZ KA mv ⊢;refine(jd a n cap _ hn hc (S0.below QZ ly)).mono ?_;rintro e M ⟨R,rfl,hRz,L,ZA⟩;have R1:=ae L;have QY:=ae (QZ.trans (ZA.mono (by omega)));have K1:=ae ((ZA.block w.heap.size (by omega)).trans KA);have hs1:=ZA.size;have E:=L.lt;clear L ZA QZ KA;go_wp2_with fail;refine(rN R 0 _ R1 (by omega)).mono ?_;rintro e G ⟨a0,n0,c0,f0,a1,n1,c1,f1,rfl,O,q2,hq2,P,ZB⟩;have bt:=ZB.size;have Q9:=(q9 G).alloc ly (Q #[Y a0 n0 c0,Y a1 n1 c1] 29);have Q0:=QY.trans (ZB.below (by omega) QY.size);have C:Hid (PSt w R M.heap.size G.heap.size a0 n0 c0 f0 a1 n1 c1 f1 (Y Z 0 0) (Y Z 0 0) (G.alloc (Q #[Y a0 n0 c0,Y a1 n1 c1] 29))):=⟨Q0.trans (Q9.mono Q0.size),O.agr (bh Q9 ly),(Q9.block w.heap.size (by omega)).trans ((ZB.block w.heap.size (by omega) (by omega)).trans K1),cM G _,by omega,E,bt⟩
 have f:=ae (P.below Q9 ly);clear O P ZB Q0 Q9 R1 QY K1;go_wp2_with fail;generalize G.alloc (Q #[Y a0 n0 c0,Y a1 n1 c1] 29)=WX at C f ⊢;generalize G.heap.size=b at C ⊢;refine(dN R _ _ f (by omega)).mono ?_;rintro e w3 ⟨nm,rfl,la,hR,l⟩;replace C:=ae (C.on l);replace f:=ae hR;clear l hR;go_wp2_with fail;refine(aw R _ 10 _ f (by omega) (by omega) (by omega)).mono ?_;rintro e w4 ⟨z4,rfl,h40,h41,hR,l⟩;replace C:=ae (C.on l);replace f:=ae hR;clear l hR la;go_upto_if 16 with fail;go_cut [7] (fun s wx=>∃ (t:ByteArray) (q:Nat),s=U t/\q<=q2+5/\Hid (Rd wx R q)/\Hid (PSt w R M.heap.size b a0 n0 c0 f0 a1 n1 c1 f1 (Y Z 0 0) (Y Z 0 0) wx));case first =>
  by_cases h4:z4=0
  ·subst h4
   obtain⟨W,Q2⟩:=cH C.sb;go_wp2_with fail;refine(fC R _ M.heap.size n0 c0 n1 c1 a0 f0 a1 f1 _ f (by omega) E C.sp).mono ?_;rintro e w5 ⟨nm2,rfl,q5,hq5,hR,l⟩;clear W Q2;replace C:=ae (C.on l);replace f:=ae hR;clear l hR;go_wp2;go_meet;exact⟨_,_,rfl,by omega,f,C⟩
  ·go_wp2
   go_meet;exact⟨_,_,rfl,by omega,f,C⟩
 case rest =>
 clear C f;obtain⟨t,q,rfl,hq,f,C⟩:=hcut;go_wp2_with fail;refine(aw R _ 12 _ f (by omega) (by omega) (by omega)).mono ?_;rintro e w6 ⟨z6,rfl,ld,QW,hR,l⟩;replace C:=ae (C.on l);replace f:=ae hR;clear l hR;have hlo:=C.hR;have p:=ae C.sp;by_cases h6:z6=0;case' neg =>go_wp2_with fail;refine(aw R _ 20 _ f (by omega) (by omega) (by omega)).mono ?_;rintro e w6 ⟨z7,rfl,h70,h71,hR,l⟩;replace p:=ae (p.agr (l.agr E));replace C:=ae (C.on l);replace f:=ae hR;clear l hR ld QW;have mark:=True.intro;by_cases h7:z7=0
 all_goals
  (try subst h6)
  (try subst h7)
  obtain⟨W,Q2⟩:=cH C.sb;go_wp2_with fail;clear W Q2;refine wp_region_held_drew (S:=fun V=>V.cell? (T b 0 Z)=N _/\V.cell? (T b 1 Z)=N _) (by as_aux_lemma=>kernel_rfl) (cH C.sb) (fun _=>?_);replace C:=ae (C.be br.drew);replace p:=ae (p.agr (bh br.drew ly));replace f:=ae (f.below br.drew ly);generalize w6.drew=v at C f p ⊢
  (try (clear mark;obtain⟨b0,rfl⟩:∃ x,x=a0:=⟨_,rfl⟩;obtain⟨y,rfl⟩:∃ x,x=a1:=⟨_,rfl⟩;obtain⟨m0,rfl⟩:∃ x,x=n0:=⟨_,rfl⟩;obtain⟨A,rfl⟩:∃ x,x=n1:=⟨_,rfl⟩;obtain⟨B,rfl⟩:∃ x,x=c0:=⟨_,rfl⟩;obtain⟨F,rfl⟩:∃ x,x=c1:=⟨_,rfl⟩))
  have o:=ae (cH C.sb);repeat' first
   | (refine eP (i:=2) (j:=4) rfl rfl (by as_aux_lemma=>kernel_rfl) (fun K c=>?_) (fun K c=>?_))
   | (refine eP (i:=3) (j:=4) rfl rfl (by as_aux_lemma=>kernel_rfl) (fun K c=>?_) (fun K c=>?_))
   | (refine eP (i:=4) (j:=6) rfl rfl (by as_aux_lemma=>kernel_rfl) (fun K c=>?_) (fun K c=>?_))
   | (refine eP (i:=4) (j:=9) rfl rfl (by as_aux_lemma=>kernel_rfl) (fun K c=>?_) (fun K c=>?_))
   | (refine eP (i:=8) (j:=9) rfl rfl (by as_aux_lemma=>kernel_rfl) (fun K c=>?_) (fun K c=>?_))
   | (refine wpAnyH_done (by as_aux_lemma=>kernel_rfl) ?_ _;obtain⟨r0,r1⟩:=cH C.rb;go_wp2;first | (have:=r;exact bp (v:=.tuple #[QV #[Y b0 m0 B,Y y A F],U sx,U ⟨#[120]⟩]) (by simp[results,Tryz.results19,go_sem,r0,r1]) rfl ⟨_,_,_,_,_,_,_,_,_,_,rfl,p.mono (by omega),C.bl⟩) | exact bp (v:=.tuple #[QV #[Y b0 m0 B,Y y A F],U t,U sx]) (by simp[results,Tryz.results19,go_sem,r0,r1]) rfl ⟨_,_,_,_,_,_,_,_,_,_,rfl,p.mono (by omega),C.bl⟩)
   | (go_simp;go_at_call 33;refine(aw R _ 2 _ f (by omega) (by omega) (by omega)).mono ?_;rintro e v ⟨z,rfl,aq,hz1,hR,l⟩;obtain⟨m,rfl⟩:=nL aq;have hw20:IntKind.i64.wrap (2000+(m:Int))=2000+(m:Int):=(by rw[j6];omega);(try replace p:=ae (p.agr (l.agr E)));(try replace r:=ae ((l.block g (ai r) (by omega)).trans r));replace C:=ae (C.on l);replace f:=ae hR;clear l hR;replace o:=ae (cH C.sb);refine c _ _ o ?_;clear c K;(try simp only[Act.put,nzL]))
   | (go_simp;go_at_call 62;refine(yz M.heap.size n0 c0 n1 c1 a0 f0 a1 f1 m _ (by omega) (by omega) C.sp).mono ?_;rintro e v ⟨b0,m0,B,g0,y,A,F,g1,rfl,hH,u⟩;replace p:=ae (hH.mono C.big);(try replace r:=ae ((u.block g (ai r)).trans r));replace C:=ae (C.be u);replace f:=ae (f.below u ly);clear hH u;replace o:=ae (cH C.sb);refine c _ _ o ?_;clear c K;(try simp only[Act.put,nzL]))
   | (go_simp;go_at_call 64;refine(fP R _ _ f (by omega)).mono ?_;rintro e v ⟨sx,rfl,-,q8,hq8,hR,l⟩;replace p:=ae (p.agr (l.agr E));replace C:=ae (C.on l);clear f l hR;replace o:=ae (cH C.sb);refine c _ _ o ?_;clear c K;(try simp only[Act.put,nzL]))
   | (go_simp;go_at_call 63;refine(eG ⟨#[112]⟩ (2000+m) _ (by show 1*(2000+m)<=4000;omega) (by omega)).mono ?_;rintro e w9 ⟨sx,rfl,-,hw⟩;rw[hw];clear hw;replace o:=ae (cH C.sb);refine c _ _ o ?_;clear c K;(try simp only[Act.put,nzL]))
   | (refine aV 0 (v:=?_) rfl rfl (by as_aux_lemma=>kernel_rfl) (fun _ _ _ h=>h) rfl ?_ o ?_;rotate_left;(focus (intro wz D;obtain⟨QX,s1⟩:=D;go_simp;(try with_reducible rfl);done));(try simp only[Act.put,nzL]))
   | (refine qi 0 rfl rfl (by as_aux_lemma=>kernel_rfl) (fun K c=>?_))
   | (refine aV 5 (v:=?_) rfl rfl (by as_aux_lemma=>kernel_rfl) (fun _ _ _ h=>h) rfl ?_ o ?_;rotate_left;(focus (intro wz D;obtain⟨QX,s1⟩:=D;go_simp;(try with_reducible rfl);done));(try simp only[Act.put,nzL]))
   | (refine aV 7 (v:=?_) rfl rfl (by as_aux_lemma=>kernel_rfl) (fun _ _ _ h=>h) rfl ?_ o ?_;rotate_left;(focus (intro wz D;obtain⟨QX,s1⟩:=D;go_simp;(try with_reducible rfl);done));(try simp only[Act.put,nzL]))
   | (refine qi 5 rfl rfl (by as_aux_lemma=>kernel_rfl) (fun K c=>?_))
   | (obtain⟨sx,fd⟩:=Fb r m (by omega);go_simp;clear fd;replace o:=ae (cH C.sb);refine c _ _ o ?_;clear c K;(try simp only[Act.put,nzL]))
   | (have r:Hid ((v.alloc (Q #[U ⟨#[97]⟩,U ⟨#[122,110,101,119]⟩] 9)).heap[v.heap.size]?=N (Q #[U ⟨#[97]⟩,U ⟨#[122,110,101,119]⟩] 9 (0,0))):=cM v _;go_simp;have u:=(q9 v).alloc ly (Q #[U ⟨#[97]⟩,U ⟨#[122,110,101,119]⟩] 9);(try replace p:=ae (p.agr (bh u ly)));have hg:=C.big;replace C:=ae (C.be u);(try replace f:=ae (f.below u ly));clear u;refine c _ (v.alloc (Q #[U ⟨#[97]⟩,U ⟨#[122,110,101,119]⟩] 9)) (cH C.sb) ?_;replace o:=ae (cH C.sb);clear c K;generalize v.heap.size=g at r hg ⊢;generalize v.alloc (Q #[U ⟨#[97]⟩,U ⟨#[122,110,101,119]⟩] 9)=v at *;(try simp only[Act.put,nzL]))
   | (obtain⟨r0,r1⟩:=cH C.rb;obtain⟨t0,t1,l0⟩:=Dm C.rb;go_simp;clear r0 r1 t0 t1 l0;(try replace r:=ae (((qh _ (T w.heap.size 1 Z) (Y y A F) g (by show g≠w.heap.size;omega)).trans (qh v (T w.heap.size 0 Z) (Y b0 m0 B) g (by show g≠w.heap.size;omega))).trans r));replace p:=ae (p.agr ((dL (X:=w.heap.size) (w:=v) (j:=0) (by omega) (Y b0 m0 B)).trans (dL (X:=w.heap.size) (j:=1) (by omega) (Y y A F))));replace C:=ae (C.put (Y b0 m0 B) (Y y A F));(try clear f);replace o:=ae (cH C.sb);refine c _ ((v.setCell (T w.heap.size 0 Z) (Y b0 m0 B)).setCell (T w.heap.size 1 Z) (Y y A F)) o ?_;clear c K;generalize (v.setCell (T w.heap.size 0 Z) (Y b0 m0 B)).setCell (T w.heap.size 1 Z) (Y y A F)=v at *;(try simp only[Act.put,nzL]))
   | (go_simp;replace o:=ae (cH C.sb);refine c _ _ o ?_;clear c K;(try simp only[Act.put,nzL]))
def DPT (w:H)(e:Ending)(b:H):Prop:=∃ (a0:Option Addr) (n0 c0:Nat) (a1:Option Addr) (n1 c1:Nat) (t:ByteArray) (g m c:Nat) (f:Nat->Ins),e=QU (.tuple #[QV #[Y a0 n0 c0,Y a1 n1 c1],U t,QV #[Y (N (T g 0 Z)) m c]])/\RowIns b g 0 m f/\m<=201/\(∀ j,j<m->(f j).s.size<=5000)/\Below w.heap.size w b
theorem F9 {w:H}{b g c:Nat}{L:List I3}(h:IR w b g c L):RowIns w g 0 L.length (dA L):=⟨h.lt.2,h.at⟩
theorem uq (a:Option Addr)(n cap:Nat)(w:H)(hn:(n:Int)<=1048576)(hc:n<=cap)(x:ByteSl w a n):Calls Tryz.prog 18 #[Y a n cap] w fun e w'=>DPT w e w':=by
 have S0:=ae x;clear x;go_enter Tryz.func18,Tryz.ntmps18;go_wp2_with fail;have y:=ae (((q9 w).alloc ly (Q #[Y Z 0 0,Y Z 0 0] 29)).alloc (by simp) (Q #[Y Z 0 0] 43));have la:((w.alloc (Q #[Y Z 0 0,Y Z 0 0] 29)).alloc (Q #[Y Z 0 0] 43)).heap.size=w.heap.size+2:=by simp
 have KA:Hid (((w.alloc (Q #[Y Z 0 0,Y Z 0 0] 29)).alloc (Q #[Y Z 0 0] 43)).heap[w.heap.size]?=N (Q #[Y Z 0 0,Y Z 0 0] 29 (0,0))):=by have h1:=(eL (w.alloc (Q #[Y Z 0 0,Y Z 0 0] 29)).heap.size (w.alloc (Q #[Y Z 0 0,Y Z 0 0] 29))).alloc ly (Q #[Y Z 0 0] 43);exact(h1.block w.heap.size (by simp)).trans (cM w _)
 have O:Hid (((w.alloc (Q #[Y Z 0 0,Y Z 0 0] 29)).alloc (Q #[Y Z 0 0] 43)).heap[w.heap.size+1]?=N (Q #[Y Z 0 0] 43 (0,0))):=by have h2:=cM (w.alloc (Q #[Y Z 0 0,Y Z 0 0] 29)) (Q #[Y Z 0 0] 43);rw[show(w.alloc (Q #[Y Z 0 0,Y Z 0 0] 29)).heap.size=w.heap.size+1 by simp] at h2;exact h2
 generalize (w.alloc (Q #[Y Z 0 0,Y Z 0 0] 29)).alloc (Q #[Y Z 0 0] 43)=W0 at y KA O la ⊢;refine(jd a n cap _ hn hc (S0.out.below y.out ly)).mono ?_;rintro e w1 ⟨R,rfl,hRz,z,o⟩;have R1:=ae z;have hs1:=o.size;have hRl:=z.lt;have T1:=ae ((S0.out.below y.out ly).below o ly);have B1:=ae (y.out.trans (o.mono (by omega)));have K1:=ae ((o.block w.heap.size (by omega)).trans KA.out);have M1:=ae ((o.block (w.heap.size+1) (by omega)).trans O.out);clear z o y KA O;go_wp2_with fail;refine(nr a n cap _ hn hc T1.out).mono ?_;rintro e b ⟨a0,n0,c0,f0,a1,n1,c1,f1,t,tx,rfl,-,u⟩;have aq:=u.size;have BS:=(q9 b).alloc ly (Q #[Y a0 n0 c0,Y a1 n1 c1] 29);have A:=ae (u.trans (BS.mono aq));have R6:=ae (R1.out.below A.out ly);have C:=ae (B1.out.trans (A.out.mono (by omega)));have QY:=ae ((A.out.block w.heap.size (by omega)).trans K1.out);have QZ:=ae ((A.out.block (w.heap.size+1) (by omega)).trans M1.out);have E:Hid ((b.alloc (Q #[Y a0 n0 c0,Y a1 n1 c1] 29)).heap[b.heap.size]?=N (Q #[Y a0 n0 c0,Y a1 n1 c1] 29 (0,0))):=cM b _;clear u BS A R1 B1 K1 M1 T1;go_wp2_with fail;generalize b.alloc (Q #[Y a0 n0 c0,Y a1 n1 c1] 29)=G at R6 C QY QZ E ⊢;have SB:Hid (∀ V:H,V.heap[b.heap.size]?=N (Q #[Y a0 n0 c0,Y a1 n1 c1] 29 (0,0))->V.heap[b.heap.size]?=N (Q #[Y a0 n0 c0,Y a1 n1 c1] 29 (0,0))/\V.cell? (T b.heap.size 0 Z)=N (Y a0 n0 c0)/\V.cell? (T b.heap.size 1 Z)=N (Y a1 n1 c1)):=fun V h=>⟨h,by simp[World.cell?,h],by simp[World.cell?,h]⟩
 refine wp_region_held_drew (S:=fun V=>V.heap[b.heap.size]?=N (Q #[Y a0 n0 c0,Y a1 n1 c1] 29 (0,0))/\V.cell? (T b.heap.size 0 Z)=N (Y a0 n0 c0)/\V.cell? (T b.heap.size 1 Z)=N (Y a1 n1 c1)) (by as_aux_lemma=>kernel_rfl) (SB.out G E.out) (fun x=>?_);have j:=ae x;clear x;have fd:=ai E.out;have hs6:=C.out.size;have F:Hid (Only R G G.drew):=Only.of_below br.drew;have W:=ae (R6.out.below br.drew ly);generalize G.drew=v0 at F W j ⊢
 iterate 3
  refine aV 0 (v:=?_) rfl rfl (by as_aux_lemma=>kernel_rfl) (fun _ _ _ h=>h) rfl ?_ j.out ?_;rotate_left
  ·(intro wz bt;obtain⟨s0,s1,s2⟩:=bt;go_simp)
   (try with_reducible rfl)
  (try simp only[Act.put,nzL])
 refine aD (i:=3) rfl (by as_aux_lemma=>kernel_rfl) (fun K l=>?_);go_simp;go_at_call 58;refine(oR R _ _ W.out (by omega)).mono ?_;rintro e r ⟨L,g,c,rfl,X,-,B,ZB,q4,hq4,-,hO⟩;have hgb:=X.lt.1;have h06:=F.out.size;have q:=F.out.trans hO;have D:=ae (F9 X);have M:=ae (jL ZB);have BE:=ae (C.out.trans (q.below (by omega) C.out.size));have ZA:=ae ((q.block w.heap.size (ai QY.out) (by omega)).trans QY.out);have ME:=ae ((q.block (w.heap.size+1) (ai QZ.out) (by omega)).trans QZ.out);have Q0:=ae ((q.block b.heap.size fd (by omega)).trans E.out);clear X ZB hO q j W F;have j:=ae (SB.out r Q0.out);refine l.out _ _ j.out ?_;clear l K
 (try simp only[Act.put,nzL])
 generalize L.length=m at B D M ⊢;generalize dA L=f at D M;have kr:=ZA.out;have r0:r.cell? (T w.heap.size 0 Z)=N (Y Z 0 0):=by simp[World.cell?,kr]
 have r1:r.cell? (T w.heap.size 1 Z)=N (Y Z 0 0):=by simp[World.cell?,kr]
 have Q9:r.frozen? (T w.heap.size 0 Z)=QQ:=by simp[World.frozen?,kr]
 have t1:r.frozen? (T w.heap.size 1 Z)=QQ:=by simp[World.frozen?,kr]
 have Q2:=ai kr;clear kr;refine aD (i:=4) rfl (by as_aux_lemma=>kernel_rfl) (fun K l=>?_);go_simp;clear r0 r1 Q9 t1 Q2 j;have KF:=ae (wN (v0:=Y a0 n0 c0) (v1:=Y a1 n1 c1) ZA.out);have BF:=ae ((BE.out.setCell (p:=(T w.heap.size 0 Z)) ly (Y a0 n0 c0)).setCell (p:=(T w.heap.size 1 Z)) ly (Y a1 n1 c1));have QW:=ae (((qh _ (T w.heap.size 1 Z) (Y a1 n1 c1) b.heap.size (by show b.heap.size≠w.heap.size;omega)).trans (qh r (T w.heap.size 0 Z) (Y a0 n0 c0) b.heap.size (by show b.heap.size≠w.heap.size;omega))).trans Q0.out);have MF:=ae (((qh _ (T w.heap.size 1 Z) (Y a1 n1 c1) (w.heap.size+1) (by show w.heap.size+1≠w.heap.size;omega)).trans (qh r (T w.heap.size 0 Z) (Y a0 n0 c0) (w.heap.size+1) (by show w.heap.size+1≠w.heap.size;omega))).trans ME.out);have QX:=ae ((D.out.setOther (T w.heap.size 0 Z) (by show w.heap.size≠g;omega) (Y a0 n0 c0)).setOther (T w.heap.size 1 Z) (by show w.heap.size≠g;omega) (Y a1 n1 c1));clear BE ZA ME Q0 D;generalize (r.setCell (T w.heap.size 0 Z) (Y a0 n0 c0)).setCell (T w.heap.size 1 Z) (Y a1 n1 c1)=s at *;have j:=ae (SB.out s QW.out);refine l.out _ _ j.out ?_;clear l K
 (try simp only[Act.put,nzL])
 refine aD (i:=5) rfl (by as_aux_lemma=>kernel_rfl) (fun K l=>?_);go_simp;refine l.out _ _ j.out ?_;clear l K
 (try simp only[Act.put,nzL])
 have kr:=MF.out;have r0:s.cell? (T (w.heap.size+1) 0 Z)=N (Y Z 0 0):=by simp[World.cell?,kr]
 have Q9:s.frozen? (T (w.heap.size+1) 0 Z)=QQ:=by simp[World.frozen?,kr]
 have Q2:=ai kr;have M0:Hid ((s.setCell (T (w.heap.size+1) 0 Z) (Y (N (T g 0 Z)) m c)).cell? (T (w.heap.size+1) 0 Z)=N (Y (N (T g 0 Z)) m c)):=p7 _ _ _ (by rw[r0];rfl);clear kr;refine aD (i:=6) rfl (by as_aux_lemma=>kernel_rfl) (fun K l=>?_);go_simp;clear r0 Q9 Q2 j;have KG:=ae ((qh s (T (w.heap.size+1) 0 Z) (Y (N (T g 0 Z)) m c) w.heap.size (by show w.heap.size≠w.heap.size+1;omega)).trans KF.out);have BG:=ae (BF.out.setCell (p:=(T (w.heap.size+1) 0 Z)) (vF _) (Y (N (T g 0 Z)) m c));have SG:=ae ((qh s (T (w.heap.size+1) 0 Z) (Y (N (T g 0 Z)) m c) b.heap.size (by show b.heap.size≠w.heap.size+1;omega)).trans QW.out);have IG:=ae (QX.out.setOther (T (w.heap.size+1) 0 Z) (by show w.heap.size+1≠g;omega) (Y (N (T g 0 Z)) m c));clear KF BF QW QX MF;generalize s.setCell (T (w.heap.size+1) 0 Z) (Y (N (T g 0 Z)) m c)=P at *;have j:=ae (SB.out P SG.out);refine l.out _ _ j.out ?_;clear l K
 (try simp only[Act.put,nzL])
 refine wpAnyH_done (by as_aux_lemma=>kernel_rfl) ?_ _;have kr:=KG.out;have r0:P.cell? (T w.heap.size 0 Z)=N (Y a0 n0 c0):=by simp[World.cell?,kr]
 have r1:P.cell? (T w.heap.size 1 Z)=N (Y a1 n1 c1):=by simp[World.cell?,kr]
 have r2:=M0.out;clear kr;go_wp2;exact bp (v:=.tuple #[QV #[Y a0 n0 c0,Y a1 n1 c1],U t,QV #[Y (N (T g 0 Z)) m c]]) (by simp[results,Tryz.results18,go_sem,r0,r1,r2]) rfl ⟨_,_,_,_,_,_,_,g,m,c,f,rfl,IG.out,B,M.out,BG.out⟩
end Go.Proofs.YtamacmnikdejeaaGreatDoor.Vp
