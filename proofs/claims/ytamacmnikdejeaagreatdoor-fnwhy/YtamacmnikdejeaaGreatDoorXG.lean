import Derived.Test.YtamacmnikdejeaaGreatDoorZA
import Derived.Test.YtamacmnikdejeaaGreatDoorXB
set_option maxRecDepth 100000
set_option maxHeartbeats 8000000
open Go.Addr renaming mk->T
open Go.Value renaming slice->Y,string->U,agg->QV
open Option renaming none->Z,some->N
open Go.Obj renaming cells->Q
open Go renaming World->H,Value->QS
open Bool renaming false->QQ
namespace Go.Proofs.YtamacmnikdejeaaGreatDoor.Vp
open RowKit Ca
def DSp (w:H)(R q j l:Nat)(e:Ending)(c:H):Prop:=∃ (b:List Source) (f:List TR) (g i:QS),e=.returned (QV #[g,i])/\c.ownsRow (w.heap.size+2) 121 2 g b.length (b.flatMap bG)/\TRow c (w.heap.size+2) i f/\SpG b f/\b.length<=j/\f.length<=l/\∃ h:Nat,h<=q/\Rd c R h/\Only R w c
def oV (k:Nat):ByteArray:=(⟨#[97,98,99,100,101,102]⟩:ByteArray).extract k (k+1)
theorem Am:∀ k,k<6->(oV k).size=1:=by decide
structure DP4 (w:H)(R:Nat)(v0 v1:QS)(LS:List Source)(RT:List TR)(b q:Nat)(W:H):Prop where
 C:SpB w.heap.size W v0 v1 LS RT
 P:∃ g c n f,PrG (w.heap.size+2) W RT b g c n f
 rd:Rd W R q
 O:Only R w W
 low:R<w.heap.size
theorem DP4.only {w W j:H}{R b q r:Nat}{p m:QS}{l:List Source}{o:List TR}(h:DP4 w R p m l o b q W)(i:Only R W j)(hR:Rd j R r):DP4 w R p m l o b r j:=by have hl:=h.low;obtain⟨g,c,n,f,s⟩:=h.P;exact⟨h.C.only i h.low,⟨g,c,n,f,s.only i (by omega)⟩,hR,h.O.trans i,h.low⟩
theorem DP4.below {w W m:H}{R b q:Nat}{o p:QS}{l:List Source}{j:List TR}(h:DP4 w R o p l j b q W)(i:Below W.heap.size W m):DP4 w R o p l j b q m:=by obtain⟨g,c,n,f,r⟩:=h.P;exact⟨h.C.below i,⟨g,c,n,f,r.below i ly⟩,h.rd.below i ly,h.O.then (i.mono h.O.size),h.low⟩
theorem pW (R p:Nat)(w:H)(hR:Rd w R p)(hp:p<=10000):Calls Tryz.prog 94 #[.pointer (N (T R 0 Z))] w fun e w'=>DSp w R (p+5100) 6 8 e w':=by
 have HR:=ae hR;have A:=hR.lt;clear hR;have C0:=ae (EU w);have B0:=ae (((q9 w).alloc ly (Q #[Y Z 0 0,Y Z 0 0] 29)).alloc (by simp) (Q #[Y Z 0 0,Y Z 0 0] 29));obtain⟨GT,hi,Ht,Hd,Hj⟩:=JV jc;obtain⟨GY,m,Hn,Hm,Hq⟩:=JV fL;go_enter Tryz.func94,Tryz.ntmps94;go_wp2_with fail;generalize (w.alloc (Q #[Y Z 0 0,Y Z 0 0] 29)).alloc (Q #[Y Z 0 0,Y Z 0 0] 29)=W at C0 B0 ⊢;have R0:=ae (HR.below B0 ly);have O0:Hid (Only R w W):=Only.of_below B0;go_loopg [4] 6 (fun g i wr=>∃ (k q:Nat) (s:QS) (o:List Source),k+g=6/\q<=p+12*k/\o.length<=k/\i=.int .i64 k/\Hid (SpB w.heap.size wr s (Y Z 0 0) o [])/\Hid (SpG o [])/\Hid (Rd wr R q)/\Hid (Only R w wr));case atStart=>exact⟨0,p,_,[],by omega,by omega,j5 _,rfl,C0,EQ,R0,O0⟩
 case round =>
  obtain⟨k,q,s,o,hk,hq,Hc,rfl,CC,GG,RR,OO⟩:=hrel;by_cases Hh:k<6
  ·have Hw:IntKind.i64.wrap ((k:Int)+1)=(k:Int)+1:=by rw[j6];omega
   go_wp2_with fail;refine(aw R q 5 _ RR (by omega) (by omega) (by omega)).mono ?_;rintro e w1 ⟨z,rfl,GM,GK,la,QW⟩;have C1:=ae (CC.only QW A);have R1:=ae la;have O1:=ae (OO.trans QW);clear la QW;by_cases hz:0<z
   ·go_wp2_with fail
    refine(fP R _ _ R1 (by omega)).mono ?_;rintro e w2 ⟨t,rfl,ht,q2,Hb,GH,At⟩;have ZA:=ae (C1.only At A);have R2:=ae GH;have O2:=ae (O1.trans At);clear GH At;go_wp2_with fail;refine(aw R _ 2 _ R2 (by omega) (by omega) (by omega)).mono ?_;rintro e B ⟨y,rfl,hy0',hy1',n8,Q0⟩;have C3:=ae (ZA.only Q0 A);have R3:=ae n8;have O3:=ae (O2.trans Q0);clear n8 Q0;go_upto_if 22 with fail;go_cut [5] (fun s5 QY=>∃ (tx:ByteArray) (q4:Nat),s5=U tx/\tx.size<=5000/\q4<=q2+3/\Hid (SpB w.heap.size QY s (Y Z 0 0) o [])/\Hid (Rd QY R q4)/\Hid (Only R w QY));case first =>
     by_cases hy:y=0
     ·subst hy
      go_wp2_with fail;refine(dN R _ _ R3 (by omega)).mono ?_;rintro e w4 ⟨s1,rfl,hs1,Fd,Bk⟩;have C4:=ae (C3.only Bk A);have R4:=ae Fd;have O4:=ae (O3.trans Bk);clear Fd Bk;go_wp2_with fail;refine(dN R _ _ R4 (by omega)).mono ?_;rintro e w5 ⟨s2,rfl,hs2,ld,aq⟩;have C5:=ae (C4.only aq A);have R5:=ae ld;have O5:=ae (O4.trans aq);clear ld aq;have th:(s1++⟨#[32]⟩++s2++⟨#[32]⟩++t).size<=5000:=by have e:(⟨#[32]⟩:ByteArray).size=1:=rfl;simp only[KZ,e];omega
      go_wp2;go_meet;exact⟨_,_,rfl,th,by omega,C5,R5,O5⟩
     ·go_wp2
      go_meet;exact⟨t,_,rfl,by omega,by omega,C3,R3,O3⟩
    case rest =>
    clear C3 R3 O3;obtain⟨tx,q4,rfl,th,Hv,C5,R5,O5⟩:=hcut;go_wp2_with fail;have E:Hid (∀ V:H,(∀ j,j<wc.heap.size->N j≠s.ownBlock->V.heap[j]?=wc.heap[j]?)->V.heap[w.heap.size+1]?=N (Q #[s,Y Z 0 0] 29 (0,0))/\V.cell? (T (w.heap.size+1) 0 Z)=N s):=fun V hV=>by have h1:=(hV (w.heap.size+1) C5.lt fun e=>by have:=(C5.src.lt _ e.symm).1;omega).trans C5.box;exact⟨h1,by simp[World.cell?,h1]⟩
    refine aH (fun V=>V.heap[w.heap.size+1]?=N (Q #[s,Y Z 0 0] 29 (0,0))/\V.cell? (T (w.heap.size+1) 0 Z)=N s) 11 (by as_aux_lemma=>kernel_rfl) ?_;have QZ:=ae (E wc.drew (fun j m _=>rfl))
    iterate 5
     refine aO 0 (v:=?_) rfl rfl (by as_aux_lemma=>kernel_rfl) (fun _ _ _ h=>h) rfl ?_ QZ ?_;rotate_left
     ·(intro wz G;obtain⟨s0,s1⟩:=G;go_simp)
      (try with_reducible rfl)
     (try simp only[Act.put,nzL])
    refine gD (i:=5) (v:=U (oV k)) rfl (by as_aux_lemma=>kernel_rfl) (by as_aux_lemma=>kernel_rfl) (by as_aux_lemma=>kernel_rfl) (by as_aux_lemma=>kernel_rfl) (fun _ _ _ h=>h) rfl ?_ QZ ?_
    ·intro wz _
     go_simp;rw[gA ⟨by omega,by omega⟩,gA (by omega)];rfl
    (try simp only[Act.put,nzL])
    iterate 2
     refine aO 6 (v:=?_) rfl rfl (by as_aux_lemma=>kernel_rfl) (fun _ _ _ h=>h) rfl ?_ QZ ?_;rotate_left
     ·(intro wz G;obtain⟨s0,s1⟩:=G;go_simp)
      (try with_reducible rfl)
     (try simp only[Act.put,nzL])
    refine af (i:=8) rfl (by as_aux_lemma=>kernel_rfl) (fun K b=>?_);go_simp;have Hl:=C5.lt;have AB:=ae (((q9 wc).alloc ly (Q #[U (oV k),U tx] 121)).drew);have C6:=ae (C5.below AB);have Ho:=AB.size;refine b _ _ (fun _=>E _ (fun j m _=>AB.block j m)) ?_;clear b K QZ
    (try simp only[Act.put,nzL])
    refine af (i:=9) rfl (by as_aux_lemma=>kernel_rfl) (fun K b=>?_);refine bI rfl (.tmp 33) (.tmp 40) 26 rfl (w.heap.size+2) 121 GT (QV #[U ⟨#[]⟩,U ⟨#[]⟩]) 2 32 Tryz.underlying26 hi Ht Hd Hj rfl (by decide) s o.length (o.flatMap bG) (by simp[Act.eval]) C6.src (T wc.heap.size 0 Z) 1 1 (bG ⟨oV k,tx⟩) (by simp[Act.eval]) rfl (fun j u hu=>df wc _ _ _ j u hu) (by simp[bG,Value.oneCell']) (by unfold maxLen;omega) (by omega) (by omega) ?_;intro v' w7 ZB D _;obtain⟨a7,c7,rfl⟩:=aF ZB;have S7:=ae (E w7 (fun j m M=>(D.block j (lj m AB.size) M).trans (AB.block j m)));obtain⟨c8,b8⟩:=C6.addS ZB D;have C8:=ae c8;have B8:=ae b8;clear ZB D c8 b8;refine b _ _ (fun _=>S7) ?_;clear b K
    (try simp only[Act.put,nzL])
    refine af (i:=10) rfl (by as_aux_lemma=>kernel_rfl) (fun K b=>?_);go_simp;refine b _ _ (fun _=>S7) ?_;clear b K
    (try simp only[Act.put,nzL])
    obtain⟨s7,t7⟩:=S7.out;have f7:w7.frozen? (T (w.heap.size+1) 0 Z)=QQ:=by simp[World.frozen?,s7]
    have l7:=ai s7;clear s7;refine af (i:=11) rfl (by as_aux_lemma=>kernel_rfl) (fun K b=>?_);go_simp;refine b _ _ (fun h=>absurd rfl h) ?_;clear b K
    (try simp only[Act.put,nzL])
    refine aN (by as_aux_lemma=>kernel_rfl) ?_ _;go_wp2;have BB:=ae ((AB.mono (show w.heap.size+1<=wc.heap.size by omega)).trans B8.out);go_roundg (5 - k);case measure=>omega
    case rel=>exact⟨k+1,q4,Y a7 (o.length+1) c7,o++[(⟨oV k,tx⟩:Source)],by omega,by omega,by rw[a8];exact Nat.succ_le_succ Hc,by go_num,C8,GG.addS (x:=⟨oV k,tx⟩) (by show(oV k).size<=5000;rw[Am k Hh];omega) th,R5.low BB (by omega),O5.then (BB.mono (vF _))⟩
   ·go_wp2
    go_roundg (5 - k);case measure=>omega
    case rel=>exact⟨k+1,_,s,o,by omega,by omega,by omega,by go_num,C1,GG,R1,O1⟩
  ·obtain rfl:k=6:=by omega
   go_wp2_with fail;refine(aw R q 8 _ RR (by omega) (by omega) (by omega)).mono ?_;rintro e w1 ⟨z,rfl,GM,GK,la,QW⟩;have C1:=ae (CC.only QW A);have R1:=ae la;have O1:=ae (OO.trans QW);clear la QW;obtain⟨n,rfl⟩:∃ n:Nat,z=(n:Int):=⟨z.toNat,by omega⟩
   go_wp2_with fail;go_loopg [7] (n+1) (fun g i wr=>∃ (j q:Nat) (v1:QS) (f:List TR),j+g=n+1/\q<=p+73+620*j/\f.length=j/\i=.int .i64 j/\Hid (SpB w.heap.size wr s v1 o f)/\Hid (SpG o f)/\Hid (Rd wr R q)/\Hid (Only R w wr));case atStart=>exact⟨0,_,_,[],by omega,by omega,rfl,rfl,C1,GG,R1,O1⟩
   case round =>
    obtain⟨j,q2,v1,f,hj2,Hb,ph,rfl,ZA,G2,R2,O2⟩:=hrel;obtain⟨a1,c1,rfl⟩:=aF ZA.tgt.own;by_cases hjn:j<n+1
    ·have QX:Hid (f.length=j):=ph
     have hrn:f.length<=8:=by omega
     clear ph;have Hw:IntKind.i64.wrap ((j:Int)+1)=(j:Int)+1:=by rw[j6];omega
     go_wp2_with fail;refine(fT R q2 _ R2 (by omega)).mono ?_;rintro e B ⟨L,g,c,rfl,hI,Hf,hl2,hT,q3,hq3,n8,Q0⟩;have hlt2:=ZA.lt;have hs3:=Q0.size;have C3:=ae (ZA.only Q0 A);have B4:=ae ((q9 B).alloc ly (Q #[Y (N (T g 0 Z)) L.length c] 43));have P4:=ae (Af (base:=w.heap.size+2) (RT:=f) hI (by omega) (fun r hr=>ZA.tgt.ltg r hr) (by omega) ⟨Hf,by omega⟩ hT);have C4:=ae (C3.below B4);have R4:=ae (n8.below B4 ly);have O4:=ae ((O2.trans Q0).then (B4.mono (by omega)));have D4:Hid (DP4 w R s (Y a1 f.length c1) o f B.heap.size q3 (B.alloc (Q #[Y (N (T g 0 Z)) L.length c] 43))):=⟨C4,⟨_,_,_,_,P4⟩,R4,O4,A⟩
     clear n8 Q0 hI hT C3 C4 P4 R4 O4;go_upto_region 15 with fail;generalize B.alloc (Q #[Y (N (T g 0 Z)) L.length c] 43)=W4 at D4 B4 ⊢;clear B4;go_cut [59] (fun GP QY=>∃ (b1:Bool) (q4:Nat),GP=.bool b1/\(b1=true->0<j)/\q4<=q3+1/\Hid (DP4 w R s (Y a1 f.length c1) o f B.heap.size q4 QY));case first =>
      by_cases Fn:0<(j:Int)
      ·go_wp2_with fail
       refine(aw R _ 5 _ D4.rd (by omega) (by omega) (by omega)).mono ?_;rintro e w5 ⟨z5,rfl,h50,h51,ld,aq⟩;have D5:=ae (D4.only aq ld);clear ld aq;go_wp2;go_meet;exact⟨_,_,rfl,fun _=>by omega,by omega,D5⟩
      ·go_wp2
       go_meet;exact⟨_,_,rfl,fun h=>by simp at h,by omega,D4⟩
     case rest =>
     clear D4;obtain⟨b1,q4,rfl,GO,Hv,D5⟩:=hcut;go_upto_if 59 with fail;go_cut [] (fun QY=>∃ q5:Nat,q5<=q4+1/\Hid (DP4 w R s (Y a1 f.length c1) o f B.heap.size q5 QY));case first =>
      cases b1 with
      | true =>
       have Fn:0<(j:Int):=by have:=GO rfl;omega
       obtain⟨gt,_,rfl,_⟩:=ZA.tgt.atk (k:=0) (by have:=QX.out;omega);go_wp2_with fail;have E:Hid (∀ V:H,(∀ j,j<wc.heap.size->j≠R->V.heap[j]?=wc.heap[j]?)->V.heap[w.heap.size+1]?=N (Q #[s,(Y (N (T gt 0 Z)) f.length c1)] 29 (0,0))/\V.cell? (T (w.heap.size+1) 1 Z)=N (Y (N (T gt 0 Z)) f.length c1)):=fun V hV=>by have h1:=(hV (w.heap.size+1) D5.C.lt (by omega)).trans D5.C.box;exact⟨h1,by simp[World.cell?,h1]⟩
       refine aH (fun V=>V.heap[w.heap.size+1]?=N (Q #[s,(Y (N (T gt 0 Z)) f.length c1)] 29 (0,0))/\V.cell? (T (w.heap.size+1) 1 Z)=N (Y (N (T gt 0 Z)) f.length c1)) 11 (by as_aux_lemma=>kernel_rfl) ?_;have QZ:=ae (E wc.drew (fun j m _=>rfl))
       iterate 6
        refine aO 0 (v:=?_) rfl rfl (by as_aux_lemma=>kernel_rfl) (fun _ _ _ h=>h) rfl ?_ QZ ?_;rotate_left
        ·(intro wz G;obtain⟨s0,s1⟩:=G;go_simp)
         (try with_reducible rfl)
        (try simp only[Act.put,nzL])
       refine af (i:=6) rfl (by as_aux_lemma=>kernel_rfl) (fun K b=>?_);go_simp;go_at_call 33;refine(aw R _ (f.length:Int) _ (D5.rd.below br.drew ly) (by omega) (by have:=QX.out;omega) (by omega)).mono ?_;rintro e w6 ⟨z6,rfl,Ha,GQ,n9,bt⟩;obtain⟨k6,rfl⟩:∃ k6:Nat,z6=(k6:Int):=⟨z6.toNat,by omega⟩
       have DQ:k6<f.length:=by omega
       have Q2:Hid (Only R wc w6):=(Only.of_below br.drew).trans bt;have S:=ae (D5.only Q2 n9);clear n9 bt;have S6:=ae (E w6 (fun j m M=>Q2.block j m M));obtain⟨He,r6,ro,G8,mv,GS,GV,fd⟩:=S.C.tgt.atk DQ;have ur:=ae fd;have M6:=ae mv;clear fd mv;injection ro with e1;injection e1 with e2;subst e2;refine b _ _ (fun _=>S6) ?_;clear b K QZ
       (try simp only[Act.put,nzL])
       iterate 3
        refine cG 7 rfl rfl (by as_aux_lemma=>kernel_rfl) (fun K b=>?_);go_simp;refine b _ _ (fun _=>S6) ?_;clear b K
        (try simp only[Act.put,nzL])
       refine af (i:=10) rfl (by as_aux_lemma=>kernel_rfl) (fun K b=>?_);go_simp;go_at_call 67;refine(iZ _ _ _ r6.1.act _ (by have:=(G2.t r6 M6).2.1.2;omega) ur).mono ?_;rintro e w7 ⟨g7,c7,rfl,GI,qr⟩;have sm:=G2.t r6 M6.out;obtain⟨gp,cp,mp,fp,l⟩:=(S.below qr).P;have D7:=ae (S.below qr);have P8:=ae (l.put GI (by have:=S.C.lt;omega) (fun r hr=>S.C.tgt.ltg r hr) sm.2.1 sm.2.2);have S7:=ae (E w7 (fun j m M=>(qr.block j (lj m Q2.size)).trans (Q2.block j m M)));have k7:=l.blk.c0;have z7:=l.blk.fz 0;have l7:=l.blk.lt;have GW:=l.lo;have B8:=ae ((eL B.heap.size w7).setCell (p:=(T B.heap.size 0 Z)) ly (Y (N (T g7 0 Z)) r6.1.actN c7));have D8:Hid (DP4 w R s (Y (N (T gt 0 Z)) f.length c1) o f B.heap.size _ (w7.setCell (T B.heap.size 0 Z) (Y (N (T g7 0 Z)) r6.1.actN c7))):=⟨D7.C.putP l.blk GW (Y (N (T g7 0 Z)) r6.1.actN c7),⟨_,_,_,_,P8⟩,D7.rd.low B8 (by omega),D7.O.then (B8.mono (by omega)),A⟩
       clear GI qr sm l P8 B8;refine b _ _ (fun _=>S7) ?_;clear b K
       (try simp only[Act.put,nzL])
       refine af (i:=11) rfl (by as_aux_lemma=>kernel_rfl) (fun K b=>?_);go_simp;refine b _ _ (fun h=>absurd rfl h) ?_;clear b K k7 z7
       (try simp only[Act.put,nzL])
       refine aN (by as_aux_lemma=>kernel_rfl) ?_ _;go_wp2;go_meet;exact⟨_,by omega,D8⟩
      | false =>go_wp2;go_meet;exact⟨q4,by omega,D5⟩
     case rest =>
     clear D5;obtain⟨q5,hq5,S⟩:=hcut;go_wp2_with fail;refine(aw R _ 2 _ S.rd (by omega) (by omega) (by omega)).mono ?_;rintro e w9 ⟨z9,rfl,h90,h91,Fm,Fk⟩;have D9:=ae (S.only Fk Fm);clear Fm Fk S;go_upto_if 73 with fail;go_cut [9] (fun _ QY=>∃ q8:Nat,q8<=q5+12/\Hid (DP4 w R s (Y a1 f.length c1) o f B.heap.size q8 QY));case first =>
      by_cases Hk:z9=0
      ·subst Hk
       go_upto_if 75 with fail;go_cut [9] (fun s9 QY=>∃ (nm:ByteArray) (q6:Nat),s9=U nm/\nm.size<=5000/\q6<=q5+2/\Hid (DP4 w R s (Y a1 f.length c1) o f B.heap.size q6 QY));case first =>
        by_cases Fn:0<(j:Int)
        ·obtain⟨gt,_,rfl,_⟩:=ZA.tgt.atk (k:=0) (by have:=QX.out;omega)
         go_wp2_with fail;have E:Hid (∀ V:H,(∀ j,j<w9.heap.size->j≠R->V.heap[j]?=w9.heap[j]?)->V.heap[w.heap.size+1]?=N (Q #[s,(Y (N (T gt 0 Z)) f.length c1)] 29 (0,0))/\V.cell? (T (w.heap.size+1) 1 Z)=N (Y (N (T gt 0 Z)) f.length c1)):=fun V hV=>by have h1:=(hV (w.heap.size+1) D9.C.lt (by omega)).trans D9.C.box;exact⟨h1,by simp[World.cell?,h1]⟩
         refine aH (fun V=>V.heap[w.heap.size+1]?=N (Q #[s,(Y (N (T gt 0 Z)) f.length c1)] 29 (0,0))/\V.cell? (T (w.heap.size+1) 1 Z)=N (Y (N (T gt 0 Z)) f.length c1)) 10 (by as_aux_lemma=>kernel_rfl) ?_;have QZ:=ae (E w9.drew (fun j m _=>rfl))
         iterate 6
          refine aO 0 (v:=?_) rfl rfl (by as_aux_lemma=>kernel_rfl) (fun _ _ _ h=>h) rfl ?_ QZ ?_;rotate_left
          ·(intro wz G;obtain⟨s0,s1⟩:=G;go_simp)
           (try with_reducible rfl)
          (try simp only[Act.put,nzL])
         refine af (i:=6) rfl (by as_aux_lemma=>kernel_rfl) (fun K b=>?_);go_simp;go_at_call 33;refine(aw R _ (f.length:Int) _ (D9.rd.below br.drew ly) (by omega) (by have:=QX.out;omega) (by omega)).mono ?_;rintro e w6 ⟨z6,rfl,Ha,GQ,n9,bt⟩;obtain⟨k6,rfl⟩:∃ k6:Nat,z6=(k6:Int):=⟨z6.toNat,by omega⟩
         have DQ:k6<f.length:=by omega
         have Q2:Hid (Only R w9 w6):=(Only.of_below br.drew).trans bt;have S:=ae (D9.only Q2 n9);clear n9 bt;have S6:=ae (E w6 (fun j m M=>Q2.block j m M));obtain⟨He,r6,ro,G8,mv,GS,GV,fd⟩:=S.C.tgt.atk DQ;have ur:=ae fd;have M6:=ae mv;clear fd mv;injection ro with e1;injection e1 with e2;subst e2;refine b _ _ (fun _=>S6) ?_;clear b K QZ
         (try simp only[Act.put,nzL])
         iterate 3
          refine cG 7 rfl rfl (by as_aux_lemma=>kernel_rfl) (fun K b=>?_);go_simp;refine b _ _ (fun _=>S6) ?_;clear b K
          (try simp only[Act.put,nzL])
         refine af (i:=10) rfl (by as_aux_lemma=>kernel_rfl) (fun K b=>?_);go_simp;refine b _ _ (fun h=>absurd rfl h) ?_;have DE:=(G2.t r6 M6).1;clear b K E S6 ur M6
         (try simp only[Act.put,nzL])
         refine aN (by as_aux_lemma=>kernel_rfl) ?_ _;go_wp2;go_meet;exact⟨r6.1.name,_,rfl,DE,by omega,S⟩
        ·go_wp2
         go_meet;exact⟨⟨#[97]⟩,_,rfl,by decide,by omega,D9⟩
       case rest =>
       clear D9;obtain⟨nm,q6,rfl,DE,hq6,Hr⟩:=hcut;go_wp2_with fail;refine(bE _ _).mono ?_;rintro e wa ⟨rfl,F⟩;have Da:=ae (Hr.below F);clear F;go_wp2_with fail;refine(bs 12 _).mono ?_;rintro e wb ⟨rfl,F⟩;have Db:=ae (Da.below F);clear F Da;go_wp2_with fail;refine(fP R _ _ Db.rd (by omega)).mono ?_;rintro e wd ⟨tc,rfl,htc,qc,hqc,hR,hO⟩;have Dd:=ae (Db.only hO hR);clear hO hR Db;go_wp2_with fail;refine(bE tc _).mono ?_;rintro e we ⟨rfl,F⟩;have De:=ae (Dd.below F);clear F Dd;go_wp2_with fail;refine(bs 2 _).mono ?_;rintro e wf ⟨rfl,F⟩;have Df:=ae (De.below F);clear F De;go_wp2_with fail;refine(aw R _ 9 _ Df.rd (by omega) (by omega) (by omega)).mono ?_;rintro e wg ⟨zf,rfl,hf0,hf1,hR,hO⟩;have Dg:=ae (Df.only hO hR);clear hO hR Df;go_wp2_with fail;refine(bO 3 _ _).mono ?_;rintro e wi ⟨rfl,F⟩;have Di:=ae (Dg.below F);clear F Dg;go_wp2_with fail;refine(bs 15 _).mono ?_;rintro e wh ⟨rfl,F⟩;have Dh:=ae (Di.below F);clear F Di;obtain⟨gp,cp,mp,fp,l⟩:=Dh.P;have kh:=l.blk.c0;have zh:=l.blk.fz 0;have lh:=l.blk.lt;have Hu:=ae (l.six (fun r hr=>Dh.C.tgt.ltg r hr) (by have:=Dh.C.lt;omega) nm tc (1+zf) DE (by omega));have GE:(wh.setCell (T B.heap.size 0 Z) (Y (N (T wh.heap.size 0 Z)) 6 6)).heap.size=wh.heap.size:=by simp
       have lo10:=l.lo;have Ba:=ae (((eL B.heap.size wh).setCell (p:=(T B.heap.size 0 Z)) ly (Y (N (T wh.heap.size 0 Z)) 6 6)).alloc (by rw[GE];omega) (Q (qE nm tc (1+zf)) 146));have Hg:=ae ((Dh.C.putP l.blk l.lo (Y (N (T wh.heap.size 0 Z)) 6 6)).below (br.alloc ly (Q (qE nm tc (1+zf)) 146)));have Hi:=ae (Dh.rd.low Ba (by omega));have Hp:=ae (Dh.O.then (Ba.mono (by omega)));clear Ba l GE;go_wp2;go_meet;exact⟨_,by omega,Hg,⟨_,_,_,_,Hu⟩,Hi,Hp,A⟩
      ·go_wp2
       go_meet;exact⟨_,by omega,D9⟩
     case rest =>
     clear D9;obtain⟨q8,hq8,Q9⟩:=hcut;go_wp2_with fail;obtain⟨gp,cp,mp,fp,l⟩:=Q9.P;have PP:=ae l;clear l;have E:Hid (∀ V:H,(∀ j,j<wc.heap.size->N j≠(Value.slice a1 f.length c1).ownBlock->V.heap[j]?=wc.heap[j]?)->V.heap[w.heap.size+1]?=N (Q #[s,Y a1 f.length c1] 29 (0,0))/\V.cell? (T (w.heap.size+1) 1 Z)=N (Y a1 f.length c1)/\V.cell? (T B.heap.size 0 Z)=N (Y (N (T gp 0 Z)) mp cp)):=fun V hV=>by
      have h1:=(hV (w.heap.size+1) Q9.C.lt fun e=>by have:=(Q9.C.tgt.own.lt _ e.symm).1;omega).trans Q9.C.box
      have h2:PB V B.heap.size (Y (N (T gp 0 Z)) mp cp):=(hV B.heap.size PP.blk.lt fun e=>by
       obtain⟨cur,GL⟩:=Q9.C.tgt.type _ e.symm;have h3:=PP.blk.symm.trans GL
       cases h3).trans PP.blk
      exact⟨h1,by simp[World.cell?,h1],h2.c0⟩
     refine aH (fun V=>V.heap[w.heap.size+1]?=N (Q #[s,Y a1 f.length c1] 29 (0,0))/\V.cell? (T (w.heap.size+1) 1 Z)=N (Y a1 f.length c1)/\V.cell? (T B.heap.size 0 Z)=N (Y (N (T gp 0 Z)) mp cp)) 10 (by as_aux_lemma=>kernel_rfl) ?_;have QZ:=ae (E wc.drew (fun j m _=>rfl))
     iterate 3
      refine aO 0 (v:=?_) rfl rfl (by as_aux_lemma=>kernel_rfl) (fun _ _ _ h=>h) rfl ?_ QZ ?_;rotate_left
      ·(intro wz G;obtain⟨s0,s1,s2⟩:=G;go_simp)
       (try with_reducible rfl)
      (try simp only[Act.put,nzL])
     refine aO 5 (v:=?_) rfl rfl (by as_aux_lemma=>kernel_rfl) (fun _ _ _ h=>h) rfl ?_ QZ ?_;rotate_left
     ·(intro wz G;obtain⟨s0,s1,s2⟩:=G;go_simp)
      (try with_reducible rfl)
     (try simp only[Act.put,nzL])
     refine af (i:=3) rfl (by as_aux_lemma=>kernel_rfl) (fun K b=>?_);go_simp;go_at_call 81;refine(ku j (by omega) _).mono ?_;rintro e wt ⟨rfl,GF⟩;have BT:Hid (Below wc.heap.size wc wt):=(q9 wc).drew.trans GF;clear GF;refine b _ _ (fun _=>E _ (fun j m _=>BT.block j m)) ?_;clear b K QZ
     (try simp only[Act.put,nzL])
     refine af (i:=4) rfl (by as_aux_lemma=>kernel_rfl) (fun K b=>?_);go_simp;refine b _ _ (fun _=>E _ (fun j m _=>BT.block j m)) ?_;clear b K
     (try simp only[Act.put,nzL])
     have GJ:((⟨#[116]⟩:ByteArray)++⟨#[dig j]⟩).size<=5000:=by have e1:(⟨#[116]⟩:ByteArray).size=1:=rfl;have e2:(⟨#[dig j]⟩:ByteArray).size=1:=rfl;simp only[KZ,e1,e2];omega
     generalize (⟨#[116]⟩:ByteArray)++⟨#[dig j]⟩=tn at GJ ⊢;refine af (i:=6) rfl (by as_aux_lemma=>kernel_rfl) (fun K b=>?_);go_simp;refine b _ _ (fun _=>E _ (fun j m _=>BT.block j m)) ?_;clear b K
     (try simp only[Act.put,nzL])
     refine af (i:=7) rfl (by as_aux_lemma=>kernel_rfl) (fun K b=>?_);go_simp;have Hl:=Q9.C.lt;have hzt:=BT.size;have AB:=ae (BT.alloc (by omega) (Q #[U tn,Y (N (T gp 0 Z)) mp cp] 125));have GC:=ae (Q9.C.below AB);have GD:=ae (PP.below AB ly);have Ho:=AB.size;refine b _ _ (fun _=>E _ (fun j m _=>AB.block j m)) ?_;clear b K
     (try simp only[Act.put,nzL])
     refine af (i:=8) rfl (by as_aux_lemma=>kernel_rfl) (fun K b=>?_);refine bI rfl (.tmp 101) (.tmp 107) 27 rfl (w.heap.size+2) 125 GY (QV #[U ⟨#[]⟩,Y Z 0 0]) 2 40 Tryz.underlying27 m Hn Hm Hq rfl (by decide) (Y a1 f.length c1) f.length (f.flatMap bc) (by simp[Act.eval]) GC.tgt.own (T wt.heap.size 0 Z) 1 1 (bc (⟨tn,mp,fp⟩,gp,cp)) (by simp[Act.eval]) rfl (fun j u hu=>df wt _ _ _ j u hu) (by simp[bc,Value.oneCell']) (by unfold maxLen;omega) (by omega) (by omega) ?_;intro v' w7 ZB D _;obtain⟨a7,c7,rfl⟩:=aF ZB;have S7:=ae (E w7 (fun j m M=>(D.block j (lj m AB.size) M).trans (AB.block j m)));obtain⟨c8,b8⟩:=GC.addT (x:=⟨tn,mp,fp⟩) (g:=gp) (c:=cp) GD.new GD.own ZB D;have GU:=ae c8;have GN:=ae b8;clear ZB D c8 b8;refine b _ _ (fun _=>S7) ?_;clear b K
     (try simp only[Act.put,nzL])
     refine af (i:=9) rfl (by as_aux_lemma=>kernel_rfl) (fun K b=>?_);go_simp;refine b _ _ (fun _=>S7) ?_;clear b K
     (try simp only[Act.put,nzL])
     obtain⟨s7,t7,y7⟩:=S7.out;have f7:w7.frozen? (T (w.heap.size+1) 1 Z)=QQ:=by simp[World.frozen?,s7]
     have l7:=ai s7;clear s7 y7;refine af (i:=10) rfl (by as_aux_lemma=>kernel_rfl) (fun K b=>?_);go_simp;refine b _ _ (fun h=>absurd rfl h) ?_;clear b K
     (try simp only[Act.put,nzL])
     refine aN (by as_aux_lemma=>kernel_rfl) ?_ _;go_wp2;have BB:=ae ((AB.mono (show w.heap.size+1<=wc.heap.size by omega)).trans GN.out);go_roundg (n - j);case measure=>omega
     case rel=>exact⟨j+1,q8,Y a7 (f.length+1) c7,f++[((⟨tn,mp,fp⟩,gp,cp):TR)],by omega,by omega,by rw[a8,QX.out];rfl,by go_num,GU,G2.addT (r:=(⟨tn,mp,fp⟩,gp,cp)) GJ PP.num PP.sz,Q9.rd.low BB (by omega),Q9.O.then (BB.mono (vF _))⟩
    ·obtain rfl:j=n+1:=by omega
     obtain⟨a0,c0,rfl⟩:=aF ZA.src;obtain⟨k0,k1⟩:=ZA.cells;have kr:=ZA.res;have r0:wr.cell? (T w.heap.size 0 Z)=N (Y Z 0 0):=by simp[World.cell?,kr]
     have r1:wr.cell? (T w.heap.size 1 Z)=N (Y Z 0 0):=by simp[World.cell?,kr]
     have f0:wr.frozen? (T w.heap.size 0 Z)=QQ:=by simp[World.frozen?,kr]
     have f1:wr.frozen? (T w.heap.size 1 Z)=QQ:=by simp[World.frozen?,kr]
     have l0:=ai kr;have l1:=ZA.lt;clear kr;have BE:=ae (((eL w.heap.size wr).setCell (p:=(T w.heap.size 0 Z)) ly (Y a0 o.length c0)).setCell (p:=(T w.heap.size 1 Z)) ly (Y a1 f.length c1));have OE:=ae (aS (aS ZA.src (R:=w.heap.size) (j:=0) (by omega) (Y a0 o.length c0)) (R:=w.heap.size) (j:=1) (by omega) (Y a1 f.length c1));have TE:=ae ((ZA.tgt.set (X:=w.heap.size) (j:=0) (by omega) (Y a0 o.length c0)).set (X:=w.heap.size) (j:=1) (by omega) (Y a1 f.length c1));have QX:Hid (f.length=n+1):=ph;clear ph;go_wp2;exact bp (v:=QV #[Y a0 o.length c0,Y a1 f.length c1]) (by simp[results,Tryz.results94,go_sem,r0,r1]) rfl ⟨o,f,_,_,rfl,OE,TE,G2,by omega,by have:=QX.out;omega,q2,by omega,R2.low BE A,O2.then BE⟩
end Go.Proofs.YtamacmnikdejeaaGreatDoor.Vp
