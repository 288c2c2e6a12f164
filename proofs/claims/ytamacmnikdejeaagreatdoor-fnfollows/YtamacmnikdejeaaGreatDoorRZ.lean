import Derived.Test.YtamacmnikdejeaaGreatDoorSA
import Derived.Test.YtamacmnikdejeaaGreatDoorRU
import Derived.Deep.LoopGhost
set_option maxRecDepth 100000
set_option maxHeartbeats 8000000
open Go.Addr renaming mk->N
open Go.Value renaming slice->Y,string->U,agg->QG
open Option renaming none->Z,some->T
open Go.Obj renaming cells->Q
open Go renaming World->G,Value->QE
open Bool renaming false->QB
namespace Go.Proofs.YtamacmnikdejeaaGreatDoor.Vp
open RowKit Ca
def DSp (w:G)(R q m l:Nat)(e:Ending)(f:G):Prop:=∃ (b:List Source) (g:List TR) (h i:QE),e=.returned (QG #[h,i])/\f.ownsRow (w.heap.size+2) 121 2 h b.length (b.flatMap bC)/\TRow f (w.heap.size+2) i g/\SpG b g/\b.length<=m/\g.length<=l/\∃ j:Nat,j<=q/\Rd f R j/\Only R w f
def oz (k:Nat):ByteArray:=(⟨#[97,98,99,100,101,102]⟩:ByteArray).extract k (k+1)
theorem yT:∀ k,k<6->(oz k).size=1:=by decide
structure DP4 (w:G)(R:Nat)(v0 v1:QE)(LS:List Source)(RT:List TR)(b q:Nat)(W:G):Prop where
 C:SpB w.heap.size W v0 v1 LS RT
 P:∃ g c n f,PrG (w.heap.size+2) W RT b g c n f
 rd:Rd W R q
 O:Only R w W
 low:R<w.heap.size
theorem DP4.only {w W j:G}{R b q o:Nat}{p r:QE}{l:List Source}{m:List TR}(h:DP4 w R p r l m b q W)(i:Only R W j)(hR:Rd j R o):DP4 w R p r l m b o j:=by have hl:=h.low;obtain⟨g,c,n,f,s⟩:=h.P;exact⟨h.C.only i h.low,⟨g,c,n,f,s.only i (by omega)⟩,hR,h.O.trans i,h.low⟩
theorem DP4.below {w W p:G}{R b q:Nat}{j m:QE}{l:List Source}{o:List TR}(h:DP4 w R j m l o b q W)(i:Below W.heap.size W p):DP4 w R j m l o b q p:=by obtain⟨g,c,n,f,r⟩:=h.P;exact⟨h.C.below i,⟨g,c,n,f,r.below i ly⟩,h.rd.below i ly,h.O.then (i.mono h.O.size),h.low⟩
theorem xz (R p:Nat)(w:G)(hR:Rd w R p)(hp:p<=10000):Calls Tryz.prog 94 #[.pointer (T (N R 0 Z))] w fun e w'=>DSp w R (p+5100) 6 8 e w':=by
 have HR:=ae hR;have A:=hR.lt;clear hR;have C0:=ae (Dc w);have B0:=ae (((q9 w).alloc ly (Q #[Y Z 0 0,Y Z 0 0] 29)).alloc (by simp) (Q #[Y Z 0 0,Y Z 0 0] 29));obtain⟨Fy,hi,Ft,Fj,Fw⟩:=IL iC;obtain⟨Fn,m,Fq,FH,Fo⟩:=IL fw;go_enter Tryz.func94,Tryz.ntmps94;go_wp2_with fail;generalize (w.alloc (Q #[Y Z 0 0,Y Z 0 0] 29)).alloc (Q #[Y Z 0 0,Y Z 0 0] 29)=W at C0 B0 ⊢;have R0:=ae (HR.below B0 ly);have O0:Hid (Only R w W):=Only.of_below B0;go_loopg [4] 6 (fun g i wr=>∃ (k q:Nat) (s:QE) (o:List Source),k+g=6/\q<=p+12*k/\o.length<=k/\i=.int .i64 k/\Hid (SpB w.heap.size wr s (Y Z 0 0) o [])/\Hid (SpG o [])/\Hid (Rd wr R q)/\Hid (Only R w wr));case atStart=>exact⟨0,p,_,[],by omega,by omega,j6 _,rfl,C0,CZ,R0,O0⟩
 case round =>
  obtain⟨k,q,s,o,hk,hq,FG,rfl,CC,GG,RR,OO⟩:=hrel;by_cases Fm:k<6
  ·have Fk:IntKind.i64.wrap ((k:Int)+1)=(k:Int)+1:=by rw[kP];omega
   go_wp2_with fail;refine(av R q 5 _ RR (by omega) (by omega) (by omega)).mono ?_;rintro e w1 ⟨z,rfl,Fh,Fi,ex,QH⟩;have C1:=ae (CC.only QH A);have R1:=ae ex;have O1:=ae (OO.trans QH);clear ex QH;by_cases hz:0<z
   ·go_wp2_with fail
    refine(fY R _ _ R1 (by omega)).mono ?_;rintro e w2 ⟨t,rfl,ht,q2,FP,Fc,qr⟩;have M:=ae (C1.only qr A);have R2:=ae Fc;have O2:=ae (O1.trans qr);clear Fc qr;go_wp2_with fail;refine(av R _ 2 _ R2 (by omega) (by omega) (by omega)).mono ?_;rintro e B ⟨y,rfl,hy0',hy1',n6,S⟩;have C3:=ae (M.only S A);have R3:=ae n6;have O3:=ae (O2.trans S);clear n6 S;go_upto_if 22 with fail;go_cut [5] (fun s5 QJ=>∃ (tx:ByteArray) (q4:Nat),s5=U tx/\tx.size<=5000/\q4<=q2+3/\Hid (SpB w.heap.size QJ s (Y Z 0 0) o [])/\Hid (Rd QJ R q4)/\Hid (Only R w QJ));case first =>
     by_cases hy:y=0
     ·subst hy
      go_wp2_with fail;refine(dN R _ _ R3 (by omega)).mono ?_;rintro e w4 ⟨s1,rfl,hs1,Fd,ur⟩;have C4:=ae (C3.only ur A);have R4:=ae Fd;have O4:=ae (O3.trans ur);clear Fd ur;go_wp2_with fail;refine(dN R _ _ R4 (by omega)).mono ?_;rintro e w5 ⟨s2,rfl,hs2,la,bt⟩;have C5:=ae (C4.only bt A);have R5:=ae la;have O5:=ae (O4.trans bt);clear la bt;have ph:(s1++⟨#[32]⟩++s2++⟨#[32]⟩++t).size<=5000:=by have e:(⟨#[32]⟩:ByteArray).size=1:=rfl;simp only[JC,e];omega
      go_wp2;go_meet;exact⟨_,_,rfl,ph,by omega,C5,R5,O5⟩
     ·go_wp2
      go_meet;exact⟨t,_,rfl,by omega,by omega,C3,R3,O3⟩
    case rest =>
    clear C3 R3 O3;obtain⟨tx,q4,rfl,ph,FV,C5,R5,O5⟩:=hcut;go_wp2_with fail;have E:Hid (∀ V:G,(∀ j,j<wc.heap.size->T j≠s.ownBlock->V.heap[j]?=wc.heap[j]?)->V.heap[w.heap.size+1]?=T (Q #[s,Y Z 0 0] 29 (0,0))/\V.cell? (N (w.heap.size+1) 0 Z)=T s):=fun V hV=>by have h1:=(hV (w.heap.size+1) C5.lt fun e=>by have:=(C5.src.lt _ e.symm).1;omega).trans C5.box;exact⟨h1,by simp[World.cell?,h1]⟩
    refine aD (fun V=>V.heap[w.heap.size+1]?=T (Q #[s,Y Z 0 0] 29 (0,0))/\V.cell? (N (w.heap.size+1) 0 Z)=T s) 11 (by as_aux_lemma=>kernel_rfl) ?_;have QN:=ae (E wc.drew (fun j m _=>rfl))
    iterate 5
     refine aL 0 (v:=?_) rfl rfl (by as_aux_lemma=>kernel_rfl) (fun _ _ _ h=>h) rfl ?_ QN ?_;rotate_left
     ·(intro wz QR;obtain⟨s0,s1⟩:=QR;go_simp)
      (try with_reducible rfl)
     (try simp only[Act.put,nzL])
    refine gS (i:=5) (v:=U (oz k)) rfl (by as_aux_lemma=>kernel_rfl) (by as_aux_lemma=>kernel_rfl) (by as_aux_lemma=>kernel_rfl) (by as_aux_lemma=>kernel_rfl) (fun _ _ _ h=>h) rfl ?_ QN ?_
    ·intro wz _
     go_simp;rw[gM ⟨by omega,by omega⟩,gM (by omega)];rfl
    (try simp only[Act.put,nzL])
    iterate 2
     refine aL 6 (v:=?_) rfl rfl (by as_aux_lemma=>kernel_rfl) (fun _ _ _ h=>h) rfl ?_ QN ?_;rotate_left
     ·(intro wz QR;obtain⟨s0,s1⟩:=QR;go_simp)
      (try with_reducible rfl)
     (try simp only[Act.put,nzL])
    refine af (i:=8) rfl (by as_aux_lemma=>kernel_rfl) (fun K b=>?_);go_simp;have Fv:=C5.lt;have AB:=ae (((q9 wc).alloc ly (Q #[U (oz k),U tx] 121)).drew);have C6:=ae (C5.below AB);have FK:=AB.size;refine b _ _ (fun _=>E _ (fun j m _=>AB.block j m)) ?_;clear b K QN
    (try simp only[Act.put,nzL])
    refine af (i:=9) rfl (by as_aux_lemma=>kernel_rfl) (fun K b=>?_);refine bA rfl (.tmp 33) (.tmp 40) 26 rfl (w.heap.size+2) 121 Fy (QG #[U ⟨#[]⟩,U ⟨#[]⟩]) 2 32 Tryz.underlying26 hi Ft Fj Fw rfl (by decide) s o.length (o.flatMap bC) (by simp[Act.eval]) C6.src (N wc.heap.size 0 Z) 1 1 (bC ⟨oz k,tx⟩) (by simp[Act.eval]) rfl (fun j u hu=>cL wc _ _ _ j u hu) (by simp[bC,Value.oneCell']) (by unfold maxLen;omega) (by omega) (by omega) ?_;intro v' w7 QP D _;obtain⟨a7,c7,rfl⟩:=aP QP;have S7:=ae (E w7 (fun j m QO=>(D.block j (lj m AB.size) QO).trans (AB.block j m)));obtain⟨c8,b8⟩:=C6.addS QP D;have C8:=ae c8;have B8:=ae b8;clear QP D c8 b8;refine b _ _ (fun _=>S7) ?_;clear b K
    (try simp only[Act.put,nzL])
    refine af (i:=10) rfl (by as_aux_lemma=>kernel_rfl) (fun K b=>?_);go_simp;refine b _ _ (fun _=>S7) ?_;clear b K
    (try simp only[Act.put,nzL])
    obtain⟨s7,t7⟩:=S7.out;have f7:w7.frozen? (N (w.heap.size+1) 0 Z)=QB:=by simp[World.frozen?,s7]
    have l7:=ai s7;clear s7;refine af (i:=11) rfl (by as_aux_lemma=>kernel_rfl) (fun K b=>?_);go_simp;refine b _ _ (fun h=>absurd rfl h) ?_;clear b K
    (try simp only[Act.put,nzL])
    refine aM (by as_aux_lemma=>kernel_rfl) ?_ _;go_wp2;have BB:=ae ((AB.mono (show w.heap.size+1<=wc.heap.size by omega)).trans B8.out);go_roundg (5 - k);case measure=>omega
    case rel=>exact⟨k+1,q4,Y a7 (o.length+1) c7,o++[(⟨oz k,tx⟩:Source)],by omega,by omega,by rw[eI];exact Nat.succ_le_succ FG,by go_num,C8,GG.addS (x:=⟨oz k,tx⟩) (by show(oz k).size<=5000;rw[yT k Fm];omega) ph,R5.low BB (by omega),O5.then (BB.mono (CV _))⟩
   ·go_wp2
    go_roundg (5 - k);case measure=>omega
    case rel=>exact⟨k+1,_,s,o,by omega,by omega,by omega,by go_num,C1,GG,R1,O1⟩
  ·obtain rfl:k=6:=by omega
   go_wp2_with fail;refine(av R q 8 _ RR (by omega) (by omega) (by omega)).mono ?_;rintro e w1 ⟨z,rfl,Fh,Fi,ex,QH⟩;have C1:=ae (CC.only QH A);have R1:=ae ex;have O1:=ae (OO.trans QH);clear ex QH;obtain⟨n,rfl⟩:∃ n:Nat,z=(n:Int):=⟨z.toNat,by omega⟩
   go_wp2_with fail;go_loopg [7] (n+1) (fun g i wr=>∃ (j q:Nat) (v1:QE) (f:List TR),j+g=n+1/\q<=p+73+620*j/\f.length=j/\i=.int .i64 j/\Hid (SpB w.heap.size wr s v1 o f)/\Hid (SpG o f)/\Hid (Rd wr R q)/\Hid (Only R w wr));case atStart=>exact⟨0,_,_,[],by omega,by omega,rfl,rfl,C1,GG,R1,O1⟩
   case round =>
    obtain⟨j,q2,v1,f,hj2,FP,n8,rfl,M,G2,R2,O2⟩:=hrel;obtain⟨a1,c1,rfl⟩:=aP M.tgt.own;by_cases hjn:j<n+1
    ·have QK:Hid (f.length=j):=n8
     have hrn:f.length<=8:=by omega
     clear n8;have Fk:IntKind.i64.wrap ((j:Int)+1)=(j:Int)+1:=by rw[kP];omega
     go_wp2_with fail;refine(iB R q2 _ R2 (by omega)).mono ?_;rintro e B ⟨L,g,c,rfl,hI,F0,hl2,hT,q3,hq3,n6,S⟩;have hlt2:=M.lt;have hs3:=S.size;have C3:=ae (M.only S A);have B4:=ae ((q9 B).alloc ly (Q #[Y (T (N g 0 Z)) L.length c] 43));have P4:=ae (yN (base:=w.heap.size+2) (RT:=f) hI (by omega) (fun r hr=>M.tgt.ltg r hr) (by omega) ⟨F0,by omega⟩ hT);have C4:=ae (C3.below B4);have R4:=ae (n6.below B4 ly);have O4:=ae ((O2.trans S).then (B4.mono (by omega)));have D4:Hid (DP4 w R s (Y a1 f.length c1) o f B.heap.size q3 (B.alloc (Q #[Y (T (N g 0 Z)) L.length c] 43))):=⟨C4,⟨_,_,_,_,P4⟩,R4,O4,A⟩
     clear n6 S hI hT C3 C4 P4 R4 O4;go_upto_region 15 with fail;generalize B.alloc (Q #[Y (T (N g 0 Z)) L.length c] 43)=W4 at D4 B4 ⊢;clear B4;go_cut [59] (fun FD QJ=>∃ (b1:Bool) (q4:Nat),FD=.bool b1/\(b1=true->0<j)/\q4<=q3+1/\Hid (DP4 w R s (Y a1 f.length c1) o f B.heap.size q4 QJ));case first =>
      by_cases DS:0<(j:Int)
      ·go_wp2_with fail
       refine(av R _ 5 _ D4.rd (by omega) (by omega) (by omega)).mono ?_;rintro e w5 ⟨z5,rfl,h50,h51,la,bt⟩;have D5:=ae (D4.only bt la);clear la bt;go_wp2;go_meet;exact⟨_,_,rfl,fun _=>by omega,by omega,D5⟩
      ·go_wp2
       go_meet;exact⟨_,_,rfl,fun h=>by simp at h,by omega,D4⟩
     case rest =>
     clear D4;obtain⟨b1,q4,rfl,FA,FV,D5⟩:=hcut;go_upto_if 59 with fail;go_cut [] (fun QJ=>∃ q5:Nat,q5<=q4+1/\Hid (DP4 w R s (Y a1 f.length c1) o f B.heap.size q5 QJ));case first =>
      cases b1 with
      | true =>
       have DS:0<(j:Int):=by have:=FA rfl;omega
       obtain⟨gt,_,rfl,_⟩:=M.tgt.atk (k:=0) (by have:=QK.out;omega);go_wp2_with fail;have E:Hid (∀ V:G,(∀ j,j<wc.heap.size->j≠R->V.heap[j]?=wc.heap[j]?)->V.heap[w.heap.size+1]?=T (Q #[s,(Y (T (N gt 0 Z)) f.length c1)] 29 (0,0))/\V.cell? (N (w.heap.size+1) 1 Z)=T (Y (T (N gt 0 Z)) f.length c1)):=fun V hV=>by have h1:=(hV (w.heap.size+1) D5.C.lt (by omega)).trans D5.C.box;exact⟨h1,by simp[World.cell?,h1]⟩
       refine aD (fun V=>V.heap[w.heap.size+1]?=T (Q #[s,(Y (T (N gt 0 Z)) f.length c1)] 29 (0,0))/\V.cell? (N (w.heap.size+1) 1 Z)=T (Y (T (N gt 0 Z)) f.length c1)) 11 (by as_aux_lemma=>kernel_rfl) ?_;have QN:=ae (E wc.drew (fun j m _=>rfl))
       iterate 6
        refine aL 0 (v:=?_) rfl rfl (by as_aux_lemma=>kernel_rfl) (fun _ _ _ h=>h) rfl ?_ QN ?_;rotate_left
        ·(intro wz QR;obtain⟨s0,s1⟩:=QR;go_simp)
         (try with_reducible rfl)
        (try simp only[Act.put,nzL])
       refine af (i:=6) rfl (by as_aux_lemma=>kernel_rfl) (fun K b=>?_);go_simp;go_at_call 33;refine(av R _ (f.length:Int) _ (D5.rd.below br.drew ly) (by omega) (by have:=QK.out;omega) (by omega)).mono ?_;rintro e w6 ⟨z6,rfl,FW,FX,n7,fd⟩;obtain⟨k6,rfl⟩:∃ k6:Nat,z6=(k6:Int):=⟨z6.toNat,by omega⟩
       have th:k6<f.length:=by omega
       have aq:Hid (Only R wc w6):=(Only.of_below br.drew).trans fd;have QL:=ae (D5.only aq n7);clear n7 fd;have S6:=ae (E w6 (fun j m QO=>aq.block j m QO));obtain⟨FF,r6,Bk,Fu,ld,Fp,FC,mv⟩:=QL.C.tgt.atk th;have ro:=ae mv;have M6:=ae ld;clear mv ld;injection Bk with e1;injection e1 with e2;subst e2;refine b _ _ (fun _=>S6) ?_;clear b K QN
       (try simp only[Act.put,nzL])
       iterate 3
        refine cC 7 rfl rfl (by as_aux_lemma=>kernel_rfl) (fun K b=>?_);go_simp;refine b _ _ (fun _=>S6) ?_;clear b K
        (try simp only[Act.put,nzL])
       refine af (i:=10) rfl (by as_aux_lemma=>kernel_rfl) (fun K b=>?_);go_simp;go_at_call 67;refine(iv _ _ _ r6.1.act _ (by have:=(G2.t r6 M6).2.1.2;omega) ro).mono ?_;rintro e w7 ⟨g7,c7,rfl,CD,n9⟩;have sm:=G2.t r6 M6.out;obtain⟨gp,cp,mp,fp,l⟩:=(QL.below n9).P;have D7:=ae (QL.below n9);have P8:=ae (l.put CD (by have:=QL.C.lt;omega) (fun r hr=>QL.C.tgt.ltg r hr) sm.2.1 sm.2.2);have S7:=ae (E w7 (fun j m QO=>(n9.block j (lj m aq.size)).trans (aq.block j m QO)));have k7:=l.blk.c0;have z7:=l.blk.fz 0;have l7:=l.blk.lt;have Fx:=l.lo;have B8:=ae ((a8 B.heap.size w7).setCell (p:=(N B.heap.size 0 Z)) ly (Y (T (N g7 0 Z)) r6.1.actN c7));have D8:Hid (DP4 w R s (Y (T (N gt 0 Z)) f.length c1) o f B.heap.size _ (w7.setCell (N B.heap.size 0 Z) (Y (T (N g7 0 Z)) r6.1.actN c7))):=⟨D7.C.putP l.blk Fx (Y (T (N g7 0 Z)) r6.1.actN c7),⟨_,_,_,_,P8⟩,D7.rd.low B8 (by omega),D7.O.then (B8.mono (by omega)),A⟩
       clear CD n9 sm l P8 B8;refine b _ _ (fun _=>S7) ?_;clear b K
       (try simp only[Act.put,nzL])
       refine af (i:=11) rfl (by as_aux_lemma=>kernel_rfl) (fun K b=>?_);go_simp;refine b _ _ (fun h=>absurd rfl h) ?_;clear b K k7 z7
       (try simp only[Act.put,nzL])
       refine aM (by as_aux_lemma=>kernel_rfl) ?_ _;go_wp2;go_meet;exact⟨_,by omega,D8⟩
      | false =>go_wp2;go_meet;exact⟨q4,by omega,D5⟩
     case rest =>
     clear D5;obtain⟨q5,hq5,QL⟩:=hcut;go_wp2_with fail;refine(av R _ 2 _ QL.rd (by omega) (by omega) (by omega)).mono ?_;rintro e w9 ⟨z9,rfl,h90,h91,Fb,DE⟩;have D9:=ae (QL.only DE Fb);clear Fb DE QL;go_upto_if 73 with fail;go_cut [9] (fun _ QJ=>∃ q8:Nat,q8<=q5+12/\Hid (DP4 w R s (Y a1 f.length c1) o f B.heap.size q8 QJ));case first =>
      by_cases FM:z9=0
      ·subst FM
       go_upto_if 75 with fail;go_cut [9] (fun s9 QJ=>∃ (nm:ByteArray) (q6:Nat),s9=U nm/\nm.size<=5000/\q6<=q5+2/\Hid (DP4 w R s (Y a1 f.length c1) o f B.heap.size q6 QJ));case first =>
        by_cases DS:0<(j:Int)
        ·obtain⟨gt,_,rfl,_⟩:=M.tgt.atk (k:=0) (by have:=QK.out;omega)
         go_wp2_with fail;have E:Hid (∀ V:G,(∀ j,j<w9.heap.size->j≠R->V.heap[j]?=w9.heap[j]?)->V.heap[w.heap.size+1]?=T (Q #[s,(Y (T (N gt 0 Z)) f.length c1)] 29 (0,0))/\V.cell? (N (w.heap.size+1) 1 Z)=T (Y (T (N gt 0 Z)) f.length c1)):=fun V hV=>by have h1:=(hV (w.heap.size+1) D9.C.lt (by omega)).trans D9.C.box;exact⟨h1,by simp[World.cell?,h1]⟩
         refine aD (fun V=>V.heap[w.heap.size+1]?=T (Q #[s,(Y (T (N gt 0 Z)) f.length c1)] 29 (0,0))/\V.cell? (N (w.heap.size+1) 1 Z)=T (Y (T (N gt 0 Z)) f.length c1)) 10 (by as_aux_lemma=>kernel_rfl) ?_;have QN:=ae (E w9.drew (fun j m _=>rfl))
         iterate 6
          refine aL 0 (v:=?_) rfl rfl (by as_aux_lemma=>kernel_rfl) (fun _ _ _ h=>h) rfl ?_ QN ?_;rotate_left
          ·(intro wz QR;obtain⟨s0,s1⟩:=QR;go_simp)
           (try with_reducible rfl)
          (try simp only[Act.put,nzL])
         refine af (i:=6) rfl (by as_aux_lemma=>kernel_rfl) (fun K b=>?_);go_simp;go_at_call 33;refine(av R _ (f.length:Int) _ (D9.rd.below br.drew ly) (by omega) (by have:=QK.out;omega) (by omega)).mono ?_;rintro e w6 ⟨z6,rfl,FW,FX,n7,fd⟩;obtain⟨k6,rfl⟩:∃ k6:Nat,z6=(k6:Int):=⟨z6.toNat,by omega⟩
         have th:k6<f.length:=by omega
         have aq:Hid (Only R w9 w6):=(Only.of_below br.drew).trans fd;have QL:=ae (D9.only aq n7);clear n7 fd;have S6:=ae (E w6 (fun j m QO=>aq.block j m QO));obtain⟨FF,r6,Bk,Fu,ld,Fp,FC,mv⟩:=QL.C.tgt.atk th;have ro:=ae mv;have M6:=ae ld;clear mv ld;injection Bk with e1;injection e1 with e2;subst e2;refine b _ _ (fun _=>S6) ?_;clear b K QN
         (try simp only[Act.put,nzL])
         iterate 3
          refine cC 7 rfl rfl (by as_aux_lemma=>kernel_rfl) (fun K b=>?_);go_simp;refine b _ _ (fun _=>S6) ?_;clear b K
          (try simp only[Act.put,nzL])
         refine af (i:=10) rfl (by as_aux_lemma=>kernel_rfl) (fun K b=>?_);go_simp;refine b _ _ (fun h=>absurd rfl h) ?_;have At:=(G2.t r6 M6).1;clear b K E S6 ro M6
         (try simp only[Act.put,nzL])
         refine aM (by as_aux_lemma=>kernel_rfl) ?_ _;go_wp2;go_meet;exact⟨r6.1.name,_,rfl,At,by omega,QL⟩
        ·go_wp2
         go_meet;exact⟨⟨#[97]⟩,_,rfl,by decide,by omega,D9⟩
       case rest =>
       clear D9;obtain⟨nm,q6,rfl,At,hq6,FJ⟩:=hcut;go_wp2_with fail;refine(bs _ _).mono ?_;rintro e wa ⟨rfl,H⟩;have Da:=ae (FJ.below H);clear H;go_wp2_with fail;refine(bi 12 _).mono ?_;rintro e wb ⟨rfl,H⟩;have Db:=ae (Da.below H);clear H Da;go_wp2_with fail;refine(fY R _ _ Db.rd (by omega)).mono ?_;rintro e wd ⟨tc,rfl,htc,qc,hqc,hR,hO⟩;have Dd:=ae (Db.only hO hR);clear hO hR Db;go_wp2_with fail;refine(bs tc _).mono ?_;rintro e we ⟨rfl,H⟩;have De:=ae (Dd.below H);clear H Dd;go_wp2_with fail;refine(bi 2 _).mono ?_;rintro e wf ⟨rfl,H⟩;have Df:=ae (De.below H);clear H De;go_wp2_with fail;refine(av R _ 9 _ Df.rd (by omega) (by omega) (by omega)).mono ?_;rintro e wg ⟨zf,rfl,hf0,hf1,hR,hO⟩;have Dg:=ae (Df.only hO hR);clear hO hR Df;go_wp2_with fail;refine(bK 3 _ _).mono ?_;rintro e wi ⟨rfl,H⟩;have Di:=ae (Dg.below H);clear H Dg;go_wp2_with fail;refine(bi 15 _).mono ?_;rintro e wh ⟨rfl,H⟩;have Dh:=ae (Di.below H);clear H Di;obtain⟨gp,cp,mp,fp,l⟩:=Dh.P;have kh:=l.blk.c0;have zh:=l.blk.fz 0;have lh:=l.blk.lt;have FQ:=ae (l.six (fun r hr=>Dh.C.tgt.ltg r hr) (by have:=Dh.C.lt;omega) nm tc (1+zf) At (by omega));have Fe:(wh.setCell (N B.heap.size 0 Z) (Y (T (N wh.heap.size 0 Z)) 6 6)).heap.size=wh.heap.size:=by simp
       have lo10:=l.lo;have Ba:=ae (((a8 B.heap.size wh).setCell (p:=(N B.heap.size 0 Z)) ly (Y (T (N wh.heap.size 0 Z)) 6 6)).alloc (by rw[Fe];omega) (Q (pZ nm tc (1+zf)) 146));have FU:=ae ((Dh.C.putP l.blk l.lo (Y (T (N wh.heap.size 0 Z)) 6 6)).below (br.alloc ly (Q (pZ nm tc (1+zf)) 146)));have Fl:=ae (Dh.rd.low Ba (by omega));have Fs:=ae (Dh.O.then (Ba.mono (by omega)));clear Ba l Fe;go_wp2;go_meet;exact⟨_,by omega,FU,⟨_,_,_,_,FQ⟩,Fl,Fs,A⟩
      ·go_wp2
       go_meet;exact⟨_,by omega,D9⟩
     case rest =>
     clear D9;obtain⟨q8,hq8,QM⟩:=hcut;go_wp2_with fail;obtain⟨gp,cp,mp,fp,l⟩:=QM.P;have PP:=ae l;clear l;have E:Hid (∀ V:G,(∀ j,j<wc.heap.size->T j≠(Value.slice a1 f.length c1).ownBlock->V.heap[j]?=wc.heap[j]?)->V.heap[w.heap.size+1]?=T (Q #[s,Y a1 f.length c1] 29 (0,0))/\V.cell? (N (w.heap.size+1) 1 Z)=T (Y a1 f.length c1)/\V.cell? (N B.heap.size 0 Z)=T (Y (T (N gp 0 Z)) mp cp)):=fun V hV=>by
      have h1:=(hV (w.heap.size+1) QM.C.lt fun e=>by have:=(QM.C.tgt.own.lt _ e.symm).1;omega).trans QM.C.box
      have h2:PB V B.heap.size (Y (T (N gp 0 Z)) mp cp):=(hV B.heap.size PP.blk.lt fun e=>by
       obtain⟨cur,Fg⟩:=QM.C.tgt.type _ e.symm;have h3:=PP.blk.symm.trans Fg
       cases h3).trans PP.blk
      exact⟨h1,by simp[World.cell?,h1],h2.c0⟩
     refine aD (fun V=>V.heap[w.heap.size+1]?=T (Q #[s,Y a1 f.length c1] 29 (0,0))/\V.cell? (N (w.heap.size+1) 1 Z)=T (Y a1 f.length c1)/\V.cell? (N B.heap.size 0 Z)=T (Y (T (N gp 0 Z)) mp cp)) 10 (by as_aux_lemma=>kernel_rfl) ?_;have QN:=ae (E wc.drew (fun j m _=>rfl))
     iterate 3
      refine aL 0 (v:=?_) rfl rfl (by as_aux_lemma=>kernel_rfl) (fun _ _ _ h=>h) rfl ?_ QN ?_;rotate_left
      ·(intro wz QR;obtain⟨s0,s1,s2⟩:=QR;go_simp)
       (try with_reducible rfl)
      (try simp only[Act.put,nzL])
     refine aL 5 (v:=?_) rfl rfl (by as_aux_lemma=>kernel_rfl) (fun _ _ _ h=>h) rfl ?_ QN ?_;rotate_left
     ·(intro wz QR;obtain⟨s0,s1,s2⟩:=QR;go_simp)
      (try with_reducible rfl)
     (try simp only[Act.put,nzL])
     refine af (i:=3) rfl (by as_aux_lemma=>kernel_rfl) (fun K b=>?_);go_simp;go_at_call 81;refine(gK j (by omega) _).mono ?_;rintro e wt ⟨rfl,DQ⟩;have BT:Hid (Below wc.heap.size wc wt):=(q9 wc).drew.trans DQ;clear DQ;refine b _ _ (fun _=>E _ (fun j m _=>BT.block j m)) ?_;clear b K QN
     (try simp only[Act.put,nzL])
     refine af (i:=4) rfl (by as_aux_lemma=>kernel_rfl) (fun K b=>?_);go_simp;refine b _ _ (fun _=>E _ (fun j m _=>BT.block j m)) ?_;clear b K
     (try simp only[Act.put,nzL])
     have Fa:((⟨#[116]⟩:ByteArray)++⟨#[dig j]⟩).size<=5000:=by have e1:(⟨#[116]⟩:ByteArray).size=1:=rfl;have e2:(⟨#[dig j]⟩:ByteArray).size=1:=rfl;simp only[JC,e1,e2];omega
     generalize (⟨#[116]⟩:ByteArray)++⟨#[dig j]⟩=tn at Fa ⊢;refine af (i:=6) rfl (by as_aux_lemma=>kernel_rfl) (fun K b=>?_);go_simp;refine b _ _ (fun _=>E _ (fun j m _=>BT.block j m)) ?_;clear b K
     (try simp only[Act.put,nzL])
     refine af (i:=7) rfl (by as_aux_lemma=>kernel_rfl) (fun K b=>?_);go_simp;have Fv:=QM.C.lt;have hzt:=BT.size;have AB:=ae (BT.alloc (by omega) (Q #[U tn,Y (T (N gp 0 Z)) mp cp] 125));have E9:=ae (QM.C.below AB);have Ff:=ae (PP.below AB ly);have FK:=AB.size;refine b _ _ (fun _=>E _ (fun j m _=>AB.block j m)) ?_;clear b K
     (try simp only[Act.put,nzL])
     refine af (i:=8) rfl (by as_aux_lemma=>kernel_rfl) (fun K b=>?_);refine bA rfl (.tmp 101) (.tmp 107) 27 rfl (w.heap.size+2) 125 Fn (QG #[U ⟨#[]⟩,Y Z 0 0]) 2 40 Tryz.underlying27 m Fq FH Fo rfl (by decide) (Y a1 f.length c1) f.length (f.flatMap bc) (by simp[Act.eval]) E9.tgt.own (N wt.heap.size 0 Z) 1 1 (bc (⟨tn,mp,fp⟩,gp,cp)) (by simp[Act.eval]) rfl (fun j u hu=>cL wt _ _ _ j u hu) (by simp[bc,Value.oneCell']) (by unfold maxLen;omega) (by omega) (by omega) ?_;intro v' w7 QP D _;obtain⟨a7,c7,rfl⟩:=aP QP;have S7:=ae (E w7 (fun j m QO=>(D.block j (lj m AB.size) QO).trans (AB.block j m)));obtain⟨c8,b8⟩:=E9.addT (x:=⟨tn,mp,fp⟩) (g:=gp) (c:=cp) Ff.new Ff.own QP D;have Fz:=ae c8;have FO:=ae b8;clear QP D c8 b8;refine b _ _ (fun _=>S7) ?_;clear b K
     (try simp only[Act.put,nzL])
     refine af (i:=9) rfl (by as_aux_lemma=>kernel_rfl) (fun K b=>?_);go_simp;refine b _ _ (fun _=>S7) ?_;clear b K
     (try simp only[Act.put,nzL])
     obtain⟨s7,t7,y7⟩:=S7.out;have f7:w7.frozen? (N (w.heap.size+1) 1 Z)=QB:=by simp[World.frozen?,s7]
     have l7:=ai s7;clear s7 y7;refine af (i:=10) rfl (by as_aux_lemma=>kernel_rfl) (fun K b=>?_);go_simp;refine b _ _ (fun h=>absurd rfl h) ?_;clear b K
     (try simp only[Act.put,nzL])
     refine aM (by as_aux_lemma=>kernel_rfl) ?_ _;go_wp2;have BB:=ae ((AB.mono (show w.heap.size+1<=wc.heap.size by omega)).trans FO.out);go_roundg (n - j);case measure=>omega
     case rel=>exact⟨j+1,q8,Y a7 (f.length+1) c7,f++[((⟨tn,mp,fp⟩,gp,cp):TR)],by omega,by omega,by rw[eI,QK.out];rfl,by go_num,Fz,G2.addT (r:=(⟨tn,mp,fp⟩,gp,cp)) Fa PP.num PP.sz,QM.rd.low BB (by omega),QM.O.then (BB.mono (CV _))⟩
    ·obtain rfl:j=n+1:=by omega
     obtain⟨a0,c0,rfl⟩:=aP M.src;obtain⟨k0,k1⟩:=M.cells;have kr:=M.res;have r0:wr.cell? (N w.heap.size 0 Z)=T (Y Z 0 0):=by simp[World.cell?,kr]
     have r1:wr.cell? (N w.heap.size 1 Z)=T (Y Z 0 0):=by simp[World.cell?,kr]
     have f0:wr.frozen? (N w.heap.size 0 Z)=QB:=by simp[World.frozen?,kr]
     have f1:wr.frozen? (N w.heap.size 1 Z)=QB:=by simp[World.frozen?,kr]
     have l0:=ai kr;have l1:=M.lt;clear kr;have BE:=ae (((a8 w.heap.size wr).setCell (p:=(N w.heap.size 0 Z)) ly (Y a0 o.length c0)).setCell (p:=(N w.heap.size 1 Z)) ly (Y a1 f.length c1));have OE:=ae (aV (aV M.src (R:=w.heap.size) (j:=0) (by omega) (Y a0 o.length c0)) (R:=w.heap.size) (j:=1) (by omega) (Y a1 f.length c1));have TE:=ae ((M.tgt.set (X:=w.heap.size) (j:=0) (by omega) (Y a0 o.length c0)).set (X:=w.heap.size) (j:=1) (by omega) (Y a1 f.length c1));have QK:Hid (f.length=n+1):=n8;clear n8;go_wp2;exact bp (v:=QG #[Y a0 o.length c0,Y a1 f.length c1]) (by simp[results,Tryz.results94,go_sem,r0,r1]) rfl ⟨o,f,_,_,rfl,OE,TE,G2,by omega,by have:=QK.out;omega,q2,by omega,R2.low BE A,O2.then BE⟩
end Go.Proofs.YtamacmnikdejeaaGreatDoor.Vp
