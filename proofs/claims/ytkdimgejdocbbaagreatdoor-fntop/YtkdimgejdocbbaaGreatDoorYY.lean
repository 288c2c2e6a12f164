import Derived.Test.YtkdimgejdocbbaaGreatDoorZA
import Derived.Test.YtkdimgejdocbbaaGreatDoorYT
import Derived.Deep.LoopGhost
set_option maxRecDepth 100000
set_option maxHeartbeats 8000000
open Go.Addr renaming mk->J
open Go.Value renaming slice->Y,string->U,agg->QE
open Option renaming none->Z,some->Q
open Go.Obj renaming cells->T
open Go renaming World->E,Value->QB
open Bool renaming false->D
namespace Go.Proofs.YtkdimgejdocbbaaGreatDoor.Vp
open RowKit Ca
def DSp (w:E)(R q j k:Nat)(e:Ending)(b:E):Prop:=∃ (d:List Source) (f:List TR) (i h:QB),e=.returned (QE #[i,h])/\b.ownsRow (w.heap.size+2) 104 2 i d.length (d.flatMap bC)/\TRow b (w.heap.size+2) h f/\SpG d f/\d.length<=j/\f.length<=k/\∃ g:Nat,g<=q/\Rd b R g/\Only R w b
def nK (k:Nat):ByteArray:=(⟨#[97,98,99,100,101,102]⟩:ByteArray).extract k (k+1)
theorem yQ:∀ k,k<6->(nK k).size=1:=by decide
structure DP4 (w:E)(R:Nat)(v0 v1:QB)(LS:List Source)(RT:List TR)(b q:Nat)(W:E):Prop where
 C:SpB w.heap.size W v0 v1 LS RT
 P:∃ g c n f,PrG (w.heap.size+2) W RT b g c n f
 rd:Rd W R q
 O:Only R w W
 low:R<w.heap.size
theorem DP4.only {w W i:E}{R b q j:Nat}{m l:QB}{o:List Source}{k:List TR}(h:DP4 w R m l o k b q W)(d:Only R W i)(hR:Rd i R j):DP4 w R m l o k b j i:=by have hl:=h.low;obtain⟨g,c,n,f,p⟩:=h.P;exact⟨h.C.only d h.low,⟨g,c,n,f,p.only d (by omega)⟩,hR,h.O.trans d,h.low⟩
theorem DP4.below {w W l:E}{R b q:Nat}{k j:QB}{m:List Source}{i:List TR}(h:DP4 w R k j m i b q W)(d:Below W.heap.size W l):DP4 w R k j m i b q l:=by obtain⟨g,c,n,f,o⟩:=h.P;exact⟨h.C.below d,⟨g,c,n,f,o.below d lr⟩,h.rd.below d lr,h.O.then (d.mono h.O.size),h.low⟩
theorem xr (R p:Nat)(w:E)(hR:Rd w R p)(hp:p<=10000):Calls Tryz.prog 139 #[.pointer (Q (J R 0 Z))] w fun e w'=>DSp w R (p+5100) 6 8 e w':=by
 have HR:=ae hR;have m:=hR.lt;clear hR;have C0:=ae (Dn w);have B0:=ae (((Qs w).alloc lr (T #[Y Z 0 0,Y Z 0 0] 26)).alloc (by simp) (T #[Y Z 0 0,Y Z 0 0] 26));obtain⟨FO,hi,FF,FZ,FL⟩:=IQ ix;obtain⟨Fw,l,FX,FD,Fr⟩:=IQ ft;go_enter Tryz.func139,Tryz.ntmps139;go_wp2_with fail;generalize (w.alloc (T #[Y Z 0 0,Y Z 0 0] 26)).alloc (T #[Y Z 0 0,Y Z 0 0] 26)=W at C0 B0 ⊢;have R0:=ae (HR.below B0 lr);have O0:Hid (Only R w W):=Only.of_below B0;go_loopg [4] 6 (fun g i wr=>∃ (k q:Nat) (o:QB) (s:List Source),k+g=6/\q<=p+12*k/\s.length<=k/\i=.int .i64 k/\Hid (SpB w.heap.size wr o (Y Z 0 0) s [])/\Hid (SpG s [])/\Hid (Rd wr R q)/\Hid (Only R w wr));case atStart=>exact⟨0,p,_,[],by omega,by omega,j6 _,rfl,C0,Dm,R0,O0⟩
 case round =>
  obtain⟨k,q,o,s,hk,hq,Ft,rfl,CC,GG,RR,OO⟩:=hrel;by_cases FM:k<6
  ·have FH:IntKind.i64.wrap ((k:Int)+1)=(k:Int)+1:=by rw[p9];omega
   go_wp2_with fail;refine(aD R q 5 _ RR (by omega) (by omega) (by omega)).mono ?_;rintro e w1 ⟨z,rfl,Fo,Fp,ex,QJ⟩;have C1:=ae (CC.only QJ m);have R1:=ae ex;have O1:=ae (OO.trans QJ);clear ex QJ;by_cases hz:0<z
   ·go_wp2_with fail
    refine(fZ R _ _ R1 (by omega)).mono ?_;rintro e w2 ⟨t,rfl,ht,q2,Fy,Fl,ph⟩;have QM:=ae (C1.only ph m);have R2:=ae Fl;have O2:=ae (O1.trans ph);clear Fl ph;go_wp2_with fail;refine(aD R _ 2 _ R2 (by omega) (by omega) (by omega)).mono ?_;rintro e A ⟨y,rfl,hy0',hy1',n6,QL⟩;have C3:=ae (QM.only QL m);have R3:=ae n6;have O3:=ae (O2.trans QL);clear n6 QL;go_upto_if 22 with fail;go_cut [5] (fun s5 QK=>∃ (tx:ByteArray) (q4:Nat),s5=U tx/\tx.size<=5000/\q4<=q2+3/\Hid (SpB w.heap.size QK o (Y Z 0 0) s [])/\Hid (Rd QK R q4)/\Hid (Only R w QK));case first =>
     by_cases hy:y=0
     ·subst hy
      go_wp2_with fail;refine(fx R _ _ R3 (by omega)).mono ?_;rintro e w4 ⟨s1,rfl,hs1,Fi,th⟩;have C4:=ae (C3.only th m);have R4:=ae Fi;have O4:=ae (O3.trans th);clear Fi th;go_wp2_with fail;refine(fx R _ _ R4 (by omega)).mono ?_;rintro e w5 ⟨s2,rfl,hs2,ld,aq⟩;have C5:=ae (C4.only aq m);have R5:=ae ld;have O5:=ae (O4.trans aq);clear ld aq;have qr:(s1++⟨#[32]⟩++s2++⟨#[32]⟩++t).size<=5000:=by have e:(⟨#[32]⟩:ByteArray).size=1:=rfl;simp only[JP,e];omega
      go_wp2;go_meet;exact⟨_,_,rfl,qr,by omega,C5,R5,O5⟩
     ·go_wp2
      go_meet;exact⟨t,_,rfl,by omega,by omega,C3,R3,O3⟩
    case rest =>
    clear C3 R3 O3;obtain⟨tx,q4,rfl,qr,FE,C5,R5,O5⟩:=hcut;go_wp2_with fail;have QQ:Hid (∀ V:E,(∀ j,j<wc.heap.size->Q j≠o.ownBlock->V.heap[j]?=wc.heap[j]?)->V.heap[w.heap.size+1]?=Q (T #[o,Y Z 0 0] 26 (0,0))/\V.cell? (J (w.heap.size+1) 0 Z)=Q o):=fun V hV=>by have h1:=(hV (w.heap.size+1) C5.lt fun e=>by have:=(C5.src.lt _ e.symm).1;omega).trans C5.box;exact⟨h1,by simp[World.cell?,h1]⟩
    refine bm (fun V=>V.heap[w.heap.size+1]?=Q (T #[o,Y Z 0 0] 26 (0,0))/\V.cell? (J (w.heap.size+1) 0 Z)=Q o) 11 (by as_aux_lemma=>kernel_rfl) ?_;have M:=ae (QQ wc.drew (fun j l _=>rfl))
    iterate 5
     refine bw 0 (v:=?_) rfl rfl (by as_aux_lemma=>kernel_rfl) (fun _ _ _ h=>h) rfl ?_ M ?_;rotate_left
     ·(intro wz G;obtain⟨s0,s1⟩:=G;go_simp)
      (try with_reducible rfl)
     (try simp only[Act.put,nzL])
    refine eK (i:=5) (v:=U (nK k)) rfl (by as_aux_lemma=>kernel_rfl) (by as_aux_lemma=>kernel_rfl) (by as_aux_lemma=>kernel_rfl) (by as_aux_lemma=>kernel_rfl) (fun _ _ _ h=>h) rfl ?_ M ?_
    ·intro wz _
     go_simp;rw[eT ⟨by omega,by omega⟩,eT (by omega)];rfl
    (try simp only[Act.put,nzL])
    iterate 2
     refine bw 6 (v:=?_) rfl rfl (by as_aux_lemma=>kernel_rfl) (fun _ _ _ h=>h) rfl ?_ M ?_;rotate_left
     ·(intro wz G;obtain⟨s0,s1⟩:=G;go_simp)
      (try with_reducible rfl)
     (try simp only[Act.put,nzL])
    refine ar (i:=8) rfl (by as_aux_lemma=>kernel_rfl) (fun K b=>?_);go_simp;have FI:=C5.lt;have AB:=ae (((Qs wc).alloc lr (T #[U (nK k),U tx] 104)).drew);have C6:=ae (C5.below AB);have F0:=AB.size;refine b _ _ (fun _=>QQ _ (fun j l _=>AB.block j l)) ?_;clear b K M
    (try simp only[Act.put,nzL])
    refine ar (i:=9) rfl (by as_aux_lemma=>kernel_rfl) (fun K b=>?_);refine bA rfl (.tmp 33) (.tmp 40) 23 rfl (w.heap.size+2) 104 FO (QE #[U ⟨#[]⟩,U ⟨#[]⟩]) 2 32 Tryz.underlying23 hi FF FZ FL rfl (by decide) o s.length (s.flatMap bC) (by simp[Act.eval]) C6.src (J wc.heap.size 0 Z) 1 1 (bC ⟨nK k,tx⟩) (by simp[Act.eval]) rfl (fun j u hu=>cT wc _ _ _ j u hu) (by simp[bC,Value.oneCell']) (by unfold maxLen;omega) (by omega) (by omega) ?_;intro v' w7 H B _;obtain⟨a7,c7,rfl⟩:=bh H;have S7:=ae (QQ w7 (fun j l QN=>(B.block j (ll l AB.size) QN).trans (AB.block j l)));obtain⟨c8,b8⟩:=C6.addS H B;have C8:=ae c8;have B8:=ae b8;clear H B c8 b8;refine b _ _ (fun _=>S7) ?_;clear b K
    (try simp only[Act.put,nzL])
    refine ar (i:=10) rfl (by as_aux_lemma=>kernel_rfl) (fun K b=>?_);go_simp;refine b _ _ (fun _=>S7) ?_;clear b K
    (try simp only[Act.put,nzL])
    obtain⟨s7,t7⟩:=S7.out;have f7:w7.frozen? (J (w.heap.size+1) 0 Z)=D:=by simp[World.frozen?,s7]
    have l7:=aC s7;clear s7;refine ar (i:=11) rfl (by as_aux_lemma=>kernel_rfl) (fun K b=>?_);go_simp;refine b _ _ (fun h=>absurd rfl h) ?_;clear b K
    (try simp only[Act.put,nzL])
    refine bJ (by as_aux_lemma=>kernel_rfl) ?_ _;go_wp2;have BB:=ae ((AB.mono (show w.heap.size+1<=wc.heap.size by omega)).trans B8.out);go_roundg (5 - k);case measure=>omega
    case rel=>exact⟨k+1,q4,Y a7 (s.length+1) c7,s++[(⟨nK k,tx⟩:Source)],by omega,by omega,by rw[cM];exact Nat.succ_le_succ Ft,by go_num,C8,GG.addS (x:=⟨nK k,tx⟩) (by show(nK k).size<=5000;rw[yQ k FM];omega) qr,R5.low BB (by omega),O5.then (BB.mono (AS _))⟩
   ·go_wp2
    go_roundg (5 - k);case measure=>omega
    case rel=>exact⟨k+1,_,o,s,by omega,by omega,by omega,by go_num,C1,GG,R1,O1⟩
  ·obtain rfl:k=6:=by omega
   go_wp2_with fail;refine(aD R q 8 _ RR (by omega) (by omega) (by omega)).mono ?_;rintro e w1 ⟨z,rfl,Fo,Fp,ex,QJ⟩;have C1:=ae (CC.only QJ m);have R1:=ae ex;have O1:=ae (OO.trans QJ);clear ex QJ;obtain⟨n,rfl⟩:∃ n:Nat,z=(n:Int):=⟨z.toNat,by omega⟩
   go_wp2_with fail;go_loopg [7] (n+1) (fun g i wr=>∃ (j q:Nat) (v1:QB) (d:List TR),j+g=n+1/\q<=p+73+620*j/\d.length=j/\i=.int .i64 j/\Hid (SpB w.heap.size wr o v1 s d)/\Hid (SpG s d)/\Hid (Rd wr R q)/\Hid (Only R w wr));case atStart=>exact⟨0,_,_,[],by omega,by omega,rfl,rfl,C1,GG,R1,O1⟩
   case round =>
    obtain⟨j,q2,v1,d,hj2,Fy,n7,rfl,QM,G2,R2,O2⟩:=hrel;obtain⟨a1,c1,rfl⟩:=bh QM.tgt.own;by_cases hjn:j<n+1
    ·have QG:Hid (d.length=j):=n7
     have hrn:d.length<=8:=by omega
     clear n7;have FH:IntKind.i64.wrap ((j:Int)+1)=(j:Int)+1:=by rw[p9];omega
     go_wp2_with fail;refine(iw R q2 _ R2 (by omega)).mono ?_;rintro e A ⟨L,g,c,rfl,hI,Fu,hl2,hT,q3,hq3,n6,QL⟩;have hlt2:=QM.lt;have hs3:=QL.size;have C3:=ae (QM.only QL m);have B4:=ae ((Qs A).alloc lr (T #[Y (Q (J g 0 Z)) L.length c] 31));have P4:=ae (yK (base:=w.heap.size+2) (RT:=d) hI (by omega) (fun r hr=>QM.tgt.ltg r hr) (by omega) ⟨Fu,by omega⟩ hT);have C4:=ae (C3.below B4);have R4:=ae (n6.below B4 lr);have O4:=ae ((O2.trans QL).then (B4.mono (by omega)));have D4:Hid (DP4 w R o (Y a1 d.length c1) s d A.heap.size q3 (A.alloc (T #[Y (Q (J g 0 Z)) L.length c] 31))):=⟨C4,⟨_,_,_,_,P4⟩,R4,O4,m⟩
     clear n6 QL hI hT C3 C4 P4 R4 O4;go_upto_region 15 with fail;generalize A.alloc (T #[Y (Q (J g 0 Z)) L.length c] 31)=W4 at D4 B4 ⊢;clear B4;go_cut [59] (fun FV QK=>∃ (b1:Bool) (q4:Nat),FV=.bool b1/\(b1=true->0<j)/\q4<=q3+1/\Hid (DP4 w R o (Y a1 d.length c1) s d A.heap.size q4 QK));case first =>
      by_cases DE:0<(j:Int)
      ·go_wp2_with fail
       refine(aD R _ 5 _ D4.rd (by omega) (by omega) (by omega)).mono ?_;rintro e w5 ⟨z5,rfl,h50,h51,ld,aq⟩;have D5:=ae (D4.only aq ld);clear ld aq;go_wp2;go_meet;exact⟨_,_,rfl,fun _=>by omega,by omega,D5⟩
      ·go_wp2
       go_meet;exact⟨_,_,rfl,fun h=>by simp at h,by omega,D4⟩
     case rest =>
     clear D4;obtain⟨b1,q4,rfl,FK,FE,D5⟩:=hcut;go_upto_if 59 with fail;go_cut [] (fun QK=>∃ q5:Nat,q5<=q4+1/\Hid (DP4 w R o (Y a1 d.length c1) s d A.heap.size q5 QK));case first =>
      cases b1 with
      | true =>
       have DE:0<(j:Int):=by have:=FK rfl;omega
       obtain⟨gt,_,rfl,_⟩:=QM.tgt.atk (k:=0) (by have:=QG.out;omega);go_wp2_with fail;have QQ:Hid (∀ V:E,(∀ j,j<wc.heap.size->j≠R->V.heap[j]?=wc.heap[j]?)->V.heap[w.heap.size+1]?=Q (T #[o,(Y (Q (J gt 0 Z)) d.length c1)] 26 (0,0))/\V.cell? (J (w.heap.size+1) 1 Z)=Q (Y (Q (J gt 0 Z)) d.length c1)):=fun V hV=>by have h1:=(hV (w.heap.size+1) D5.C.lt (by omega)).trans D5.C.box;exact⟨h1,by simp[World.cell?,h1]⟩
       refine bm (fun V=>V.heap[w.heap.size+1]?=Q (T #[o,(Y (Q (J gt 0 Z)) d.length c1)] 26 (0,0))/\V.cell? (J (w.heap.size+1) 1 Z)=Q (Y (Q (J gt 0 Z)) d.length c1)) 11 (by as_aux_lemma=>kernel_rfl) ?_;have M:=ae (QQ wc.drew (fun j l _=>rfl))
       iterate 6
        refine bw 0 (v:=?_) rfl rfl (by as_aux_lemma=>kernel_rfl) (fun _ _ _ h=>h) rfl ?_ M ?_;rotate_left
        ·(intro wz G;obtain⟨s0,s1⟩:=G;go_simp)
         (try with_reducible rfl)
        (try simp only[Act.put,nzL])
       refine ar (i:=6) rfl (by as_aux_lemma=>kernel_rfl) (fun K b=>?_);go_simp;go_at_call 57;refine(aD R _ (d.length:Int) _ (D5.rd.below br.drew lr) (by omega) (by have:=QG.out;omega) (by omega)).mono ?_;rintro e w6 ⟨z6,rfl,FQ,FN,bt,mv⟩;obtain⟨k6,rfl⟩:∃ k6:Nat,z6=(k6:Int):=⟨z6.toNat,by omega⟩
       have At:k6<d.length:=by omega
       have QH:Hid (Only R wc w6):=(Only.of_below br.drew).trans mv;have S:=ae (D5.only QH bt);clear bt mv;have S6:=ae (QQ w6 (fun j l QN=>QH.block j l QN));obtain⟨Fs,r6,ro,Fz,fd,FT,FA,la⟩:=S.C.tgt.atk At;have ur:=ae la;have M6:=ae fd;clear la fd;injection ro with e1;injection e1 with e2;subst e2;refine b _ _ (fun _=>S6) ?_;clear b K M
       (try simp only[Act.put,nzL])
       iterate 3
        refine df 7 rfl rfl (by as_aux_lemma=>kernel_rfl) (fun K b=>?_);go_simp;refine b _ _ (fun _=>S6) ?_;clear b K
        (try simp only[Act.put,nzL])
       refine ar (i:=10) rfl (by as_aux_lemma=>kernel_rfl) (fun K b=>?_);go_simp;go_at_call 86;refine(lD _ _ _ r6.1.act _ (by have:=(G2.t r6 M6).2.1.2;omega) ur).mono ?_;rintro e w7 ⟨g7,c7,rfl,Bk,n8⟩;have sm:=G2.t r6 M6.out;obtain⟨gp,cp,mp,fp,f⟩:=(S.below n8).P;have D7:=ae (S.below n8);have P8:=ae (f.put Bk (by have:=S.C.lt;omega) (fun r hr=>S.C.tgt.ltg r hr) sm.2.1 sm.2.2);have S7:=ae (QQ w7 (fun j l QN=>(n8.block j (ll l QH.size)).trans (QH.block j l QN)));have k7:=f.blk.c0;have z7:=f.blk.fz 0;have l7:=f.blk.lt;have FG:=f.lo;have B8:=ae ((eI A.heap.size w7).setCell (p:=(J A.heap.size 0 Z)) lr (Y (Q (J g7 0 Z)) r6.1.actN c7));have D8:Hid (DP4 w R o (Y (Q (J gt 0 Z)) d.length c1) s d A.heap.size _ (w7.setCell (J A.heap.size 0 Z) (Y (Q (J g7 0 Z)) r6.1.actN c7))):=⟨D7.C.putP f.blk FG (Y (Q (J g7 0 Z)) r6.1.actN c7),⟨_,_,_,_,P8⟩,D7.rd.low B8 (by omega),D7.O.then (B8.mono (by omega)),m⟩
       clear Bk n8 sm f P8 B8;refine b _ _ (fun _=>S7) ?_;clear b K
       (try simp only[Act.put,nzL])
       refine ar (i:=11) rfl (by as_aux_lemma=>kernel_rfl) (fun K b=>?_);go_simp;refine b _ _ (fun h=>absurd rfl h) ?_;clear b K k7 z7
       (try simp only[Act.put,nzL])
       refine bJ (by as_aux_lemma=>kernel_rfl) ?_ _;go_wp2;go_meet;exact⟨_,by omega,D8⟩
      | false =>go_wp2;go_meet;exact⟨q4,by omega,D5⟩
     case rest =>
     clear D5;obtain⟨q5,hq5,S⟩:=hcut;go_wp2_with fail;refine(aD R _ 2 _ S.rd (by omega) (by omega) (by omega)).mono ?_;rintro e w9 ⟨z9,rfl,h90,h91,Fh,DA⟩;have D9:=ae (S.only DA Fh);clear Fh DA S;go_upto_if 73 with fail;go_cut [9] (fun _ QK=>∃ q8:Nat,q8<=q5+12/\Hid (DP4 w R o (Y a1 d.length c1) s d A.heap.size q8 QK));case first =>
      by_cases FC:z9=0
      ·subst FC
       go_upto_if 75 with fail;go_cut [9] (fun s9 QK=>∃ (nm:ByteArray) (q6:Nat),s9=U nm/\nm.size<=5000/\q6<=q5+2/\Hid (DP4 w R o (Y a1 d.length c1) s d A.heap.size q6 QK));case first =>
        by_cases DE:0<(j:Int)
        ·obtain⟨gt,_,rfl,_⟩:=QM.tgt.atk (k:=0) (by have:=QG.out;omega)
         go_wp2_with fail;have QQ:Hid (∀ V:E,(∀ j,j<w9.heap.size->j≠R->V.heap[j]?=w9.heap[j]?)->V.heap[w.heap.size+1]?=Q (T #[o,(Y (Q (J gt 0 Z)) d.length c1)] 26 (0,0))/\V.cell? (J (w.heap.size+1) 1 Z)=Q (Y (Q (J gt 0 Z)) d.length c1)):=fun V hV=>by have h1:=(hV (w.heap.size+1) D9.C.lt (by omega)).trans D9.C.box;exact⟨h1,by simp[World.cell?,h1]⟩
         refine bm (fun V=>V.heap[w.heap.size+1]?=Q (T #[o,(Y (Q (J gt 0 Z)) d.length c1)] 26 (0,0))/\V.cell? (J (w.heap.size+1) 1 Z)=Q (Y (Q (J gt 0 Z)) d.length c1)) 10 (by as_aux_lemma=>kernel_rfl) ?_;have M:=ae (QQ w9.drew (fun j l _=>rfl))
         iterate 6
          refine bw 0 (v:=?_) rfl rfl (by as_aux_lemma=>kernel_rfl) (fun _ _ _ h=>h) rfl ?_ M ?_;rotate_left
          ·(intro wz G;obtain⟨s0,s1⟩:=G;go_simp)
           (try with_reducible rfl)
          (try simp only[Act.put,nzL])
         refine ar (i:=6) rfl (by as_aux_lemma=>kernel_rfl) (fun K b=>?_);go_simp;go_at_call 57;refine(aD R _ (d.length:Int) _ (D9.rd.below br.drew lr) (by omega) (by have:=QG.out;omega) (by omega)).mono ?_;rintro e w6 ⟨z6,rfl,FQ,FN,bt,mv⟩;obtain⟨k6,rfl⟩:∃ k6:Nat,z6=(k6:Int):=⟨z6.toNat,by omega⟩
         have At:k6<d.length:=by omega
         have QH:Hid (Only R w9 w6):=(Only.of_below br.drew).trans mv;have S:=ae (D9.only QH bt);clear bt mv;have S6:=ae (QQ w6 (fun j l QN=>QH.block j l QN));obtain⟨Fs,r6,ro,Fz,fd,FT,FA,la⟩:=S.C.tgt.atk At;have ur:=ae la;have M6:=ae fd;clear la fd;injection ro with e1;injection e1 with e2;subst e2;refine b _ _ (fun _=>S6) ?_;clear b K M
         (try simp only[Act.put,nzL])
         iterate 3
          refine df 7 rfl rfl (by as_aux_lemma=>kernel_rfl) (fun K b=>?_);go_simp;refine b _ _ (fun _=>S6) ?_;clear b K
          (try simp only[Act.put,nzL])
         refine ar (i:=10) rfl (by as_aux_lemma=>kernel_rfl) (fun K b=>?_);go_simp;refine b _ _ (fun h=>absurd rfl h) ?_;have n9:=(G2.t r6 M6).1;clear b K QQ S6 ur M6
         (try simp only[Act.put,nzL])
         refine bJ (by as_aux_lemma=>kernel_rfl) ?_ _;go_wp2;go_meet;exact⟨r6.1.name,_,rfl,n9,by omega,S⟩
        ·go_wp2
         go_meet;exact⟨⟨#[97]⟩,_,rfl,by decide,by omega,D9⟩
       case rest =>
       clear D9;obtain⟨nm,q6,rfl,n9,hq6,FY⟩:=hcut;go_wp2_with fail;refine(bB _ _).mono ?_;rintro e wa ⟨rfl,QP⟩;have Da:=ae (FY.below QP);clear QP;go_wp2_with fail;refine(bn 12 _).mono ?_;rintro e wb ⟨rfl,QP⟩;have Db:=ae (Da.below QP);clear QP Da;go_wp2_with fail;refine(fZ R _ _ Db.rd (by omega)).mono ?_;rintro e wd ⟨tc,rfl,htc,qc,hqc,hR,hO⟩;have Dd:=ae (Db.only hO hR);clear hO hR Db;go_wp2_with fail;refine(bB tc _).mono ?_;rintro e we ⟨rfl,QP⟩;have De:=ae (Dd.below QP);clear QP Dd;go_wp2_with fail;refine(bn 2 _).mono ?_;rintro e wf ⟨rfl,QP⟩;have Df:=ae (De.below QP);clear QP De;go_wp2_with fail;refine(aD R _ 9 _ Df.rd (by omega) (by omega) (by omega)).mono ?_;rintro e wg ⟨zf,rfl,hf0,hf1,hR,hO⟩;have Dg:=ae (Df.only hO hR);clear hO hR Df;go_wp2_with fail;refine(bK 3 _ _).mono ?_;rintro e wi ⟨rfl,QP⟩;have Di:=ae (Dg.below QP);clear QP Dg;go_wp2_with fail;refine(bn 15 _).mono ?_;rintro e wh ⟨rfl,QP⟩;have Dh:=ae (Di.below QP);clear QP Di;obtain⟨gp,cp,mp,fp,f⟩:=Dh.P;have kh:=f.blk.c0;have zh:=f.blk.fz 0;have lh:=f.blk.lt;have Fv:=ae (f.six (fun r hr=>Dh.C.tgt.ltg r hr) (by have:=Dh.C.lt;omega) nm tc (1+zf) n9 (by omega));have Fj:(wh.setCell (J A.heap.size 0 Z) (Y (Q (J wh.heap.size 0 Z)) 6 6)).heap.size=wh.heap.size:=by simp
       have lo10:=f.lo;have Ba:=ae (((eI A.heap.size wh).setCell (p:=(J A.heap.size 0 Z)) lr (Y (Q (J wh.heap.size 0 Z)) 6 6)).alloc (by rw[Fj];omega) (T (pr nm tc (1+zf)) 188));have FJ:=ae ((Dh.C.putP f.blk f.lo (Y (Q (J wh.heap.size 0 Z)) 6 6)).below (br.alloc lr (T (pr nm tc (1+zf)) 188)));have FW:=ae (Dh.rd.low Ba (by omega));have FU:=ae (Dh.O.then (Ba.mono (by omega)));clear Ba f Fj;go_wp2;go_meet;exact⟨_,by omega,FJ,⟨_,_,_,_,Fv⟩,FW,FU,m⟩
      ·go_wp2
       go_meet;exact⟨_,by omega,D9⟩
     case rest =>
     clear D9;obtain⟨q8,hq8,QO⟩:=hcut;go_wp2_with fail;obtain⟨gp,cp,mp,fp,f⟩:=QO.P;have PP:=ae f;clear f;have QQ:Hid (∀ V:E,(∀ j,j<wc.heap.size->Q j≠(Value.slice a1 d.length c1).ownBlock->V.heap[j]?=wc.heap[j]?)->V.heap[w.heap.size+1]?=Q (T #[o,Y a1 d.length c1] 26 (0,0))/\V.cell? (J (w.heap.size+1) 1 Z)=Q (Y a1 d.length c1)/\V.cell? (J A.heap.size 0 Z)=Q (Y (Q (J gp 0 Z)) mp cp)):=fun V hV=>by
      have h1:=(hV (w.heap.size+1) QO.C.lt fun e=>by have:=(QO.C.tgt.own.lt _ e.symm).1;omega).trans QO.C.box
      have h2:PB V A.heap.size (Y (Q (J gp 0 Z)) mp cp):=(hV A.heap.size PP.blk.lt fun e=>by
       obtain⟨cur,Fq⟩:=QO.C.tgt.type _ e.symm;have h3:=PP.blk.symm.trans Fq
       cases h3).trans PP.blk
      exact⟨h1,by simp[World.cell?,h1],h2.c0⟩
     refine bm (fun V=>V.heap[w.heap.size+1]?=Q (T #[o,Y a1 d.length c1] 26 (0,0))/\V.cell? (J (w.heap.size+1) 1 Z)=Q (Y a1 d.length c1)/\V.cell? (J A.heap.size 0 Z)=Q (Y (Q (J gp 0 Z)) mp cp)) 10 (by as_aux_lemma=>kernel_rfl) ?_;have M:=ae (QQ wc.drew (fun j l _=>rfl))
     iterate 3
      refine bw 0 (v:=?_) rfl rfl (by as_aux_lemma=>kernel_rfl) (fun _ _ _ h=>h) rfl ?_ M ?_;rotate_left
      ·(intro wz G;obtain⟨s0,s1,s2⟩:=G;go_simp)
       (try with_reducible rfl)
      (try simp only[Act.put,nzL])
     refine bw 5 (v:=?_) rfl rfl (by as_aux_lemma=>kernel_rfl) (fun _ _ _ h=>h) rfl ?_ M ?_;rotate_left
     ·(intro wz G;obtain⟨s0,s1,s2⟩:=G;go_simp)
      (try with_reducible rfl)
     (try simp only[Act.put,nzL])
     refine ar (i:=3) rfl (by as_aux_lemma=>kernel_rfl) (fun K b=>?_);go_simp;go_at_call 140;refine(mI j (by omega) _).mono ?_;rintro e wt ⟨rfl,Fd⟩;have BT:Hid (Below wc.heap.size wc wt):=(Qs wc).drew.trans Fd;clear Fd;refine b _ _ (fun _=>QQ _ (fun j l _=>BT.block j l)) ?_;clear b K M
     (try simp only[Act.put,nzL])
     refine ar (i:=4) rfl (by as_aux_lemma=>kernel_rfl) (fun K b=>?_);go_simp;refine b _ _ (fun _=>QQ _ (fun j l _=>BT.block j l)) ?_;clear b K
     (try simp only[Act.put,nzL])
     have Fm:((⟨#[116]⟩:ByteArray)++⟨#[dig j]⟩).size<=5000:=by have e1:(⟨#[116]⟩:ByteArray).size=1:=rfl;have e2:(⟨#[dig j]⟩:ByteArray).size=1:=rfl;simp only[JP,e1,e2];omega
     generalize (⟨#[116]⟩:ByteArray)++⟨#[dig j]⟩=tn at Fm ⊢;refine ar (i:=6) rfl (by as_aux_lemma=>kernel_rfl) (fun K b=>?_);go_simp;refine b _ _ (fun _=>QQ _ (fun j l _=>BT.block j l)) ?_;clear b K
     (try simp only[Act.put,nzL])
     refine ar (i:=7) rfl (by as_aux_lemma=>kernel_rfl) (fun K b=>?_);go_simp;have FI:=QO.C.lt;have hzt:=BT.size;have AB:=ae (BT.alloc (by omega) (T #[U tn,Y (Q (J gp 0 Z)) mp cp] 108));have DQ:=ae (QO.C.below AB);have Fk:=ae (PP.below AB lr);have F0:=AB.size;refine b _ _ (fun _=>QQ _ (fun j l _=>AB.block j l)) ?_;clear b K
     (try simp only[Act.put,nzL])
     refine ar (i:=8) rfl (by as_aux_lemma=>kernel_rfl) (fun K b=>?_);refine bA rfl (.tmp 101) (.tmp 107) 24 rfl (w.heap.size+2) 108 Fw (QE #[U ⟨#[]⟩,Y Z 0 0]) 2 40 Tryz.underlying24 l FX FD Fr rfl (by decide) (Y a1 d.length c1) d.length (d.flatMap aV) (by simp[Act.eval]) DQ.tgt.own (J wt.heap.size 0 Z) 1 1 (aV (⟨tn,mp,fp⟩,gp,cp)) (by simp[Act.eval]) rfl (fun j u hu=>cT wt _ _ _ j u hu) (by simp[aV,Value.oneCell']) (by unfold maxLen;omega) (by omega) (by omega) ?_;intro v' w7 H B _;obtain⟨a7,c7,rfl⟩:=bh H;have S7:=ae (QQ w7 (fun j l QN=>(B.block j (ll l AB.size) QN).trans (AB.block j l)));obtain⟨c8,b8⟩:=DQ.addT (x:=⟨tn,mp,fp⟩) (g:=gp) (c:=cp) Fk.new Fk.own H B;have FP:=ae c8;have Fx:=ae b8;clear H B c8 b8;refine b _ _ (fun _=>S7) ?_;clear b K
     (try simp only[Act.put,nzL])
     refine ar (i:=9) rfl (by as_aux_lemma=>kernel_rfl) (fun K b=>?_);go_simp;refine b _ _ (fun _=>S7) ?_;clear b K
     (try simp only[Act.put,nzL])
     obtain⟨s7,t7,y7⟩:=S7.out;have f7:w7.frozen? (J (w.heap.size+1) 1 Z)=D:=by simp[World.frozen?,s7]
     have l7:=aC s7;clear s7 y7;refine ar (i:=10) rfl (by as_aux_lemma=>kernel_rfl) (fun K b=>?_);go_simp;refine b _ _ (fun h=>absurd rfl h) ?_;clear b K
     (try simp only[Act.put,nzL])
     refine bJ (by as_aux_lemma=>kernel_rfl) ?_ _;go_wp2;have BB:=ae ((AB.mono (show w.heap.size+1<=wc.heap.size by omega)).trans Fx.out);go_roundg (n - j);case measure=>omega
     case rel=>exact⟨j+1,q8,Y a7 (d.length+1) c7,d++[((⟨tn,mp,fp⟩,gp,cp):TR)],by omega,by omega,by rw[cM,QG.out];rfl,by go_num,FP,G2.addT (r:=(⟨tn,mp,fp⟩,gp,cp)) Fm PP.num PP.sz,QO.rd.low BB (by omega),QO.O.then (BB.mono (AS _))⟩
    ·obtain rfl:j=n+1:=by omega
     obtain⟨a0,c0,rfl⟩:=bh QM.src;obtain⟨k0,k1⟩:=QM.cells;have kr:=QM.res;have r0:wr.cell? (J w.heap.size 0 Z)=Q (Y Z 0 0):=by simp[World.cell?,kr]
     have r1:wr.cell? (J w.heap.size 1 Z)=Q (Y Z 0 0):=by simp[World.cell?,kr]
     have f0:wr.frozen? (J w.heap.size 0 Z)=D:=by simp[World.frozen?,kr]
     have f1:wr.frozen? (J w.heap.size 1 Z)=D:=by simp[World.frozen?,kr]
     have l0:=aC kr;have l1:=QM.lt;clear kr;have BE:=ae (((eI w.heap.size wr).setCell (p:=(J w.heap.size 0 Z)) lr (Y a0 s.length c0)).setCell (p:=(J w.heap.size 1 Z)) lr (Y a1 d.length c1));have OE:=ae (aG (aG QM.src (R:=w.heap.size) (j:=0) (by omega) (Y a0 s.length c0)) (R:=w.heap.size) (j:=1) (by omega) (Y a1 d.length c1));have TE:=ae ((QM.tgt.set (X:=w.heap.size) (j:=0) (by omega) (Y a0 s.length c0)).set (X:=w.heap.size) (j:=1) (by omega) (Y a1 d.length c1));have QG:Hid (d.length=n+1):=n7;clear n7;go_wp2;exact bp (v:=QE #[Y a0 s.length c0,Y a1 d.length c1]) (by simp[results,Tryz.results139,go_sem,r0,r1]) rfl ⟨s,d,_,_,rfl,OE,TE,G2,by omega,by have:=QG.out;omega,q2,by omega,R2.low BE m,O2.then BE⟩
end Go.Proofs.YtkdimgejdocbbaaGreatDoor.Vp
