import Derived.Test.YtkophfgkcijjkaaGreatDoorZA
import Derived.Test.YtkophfgkcijjkaaGreatDoorYU
set_option maxRecDepth 100000
set_option maxHeartbeats 8000000
namespace Go.Proofs.YtkophfgkcijjkaaGreatDoor.Vp
open RowKit Ca
def DSp (w:World)(R q j i:Nat)(e:Ending)(b:World):Prop:=∃ (c:List Source) (d:List TR) (f g:Value),e=.returned (.agg #[f,g])/\b.ownsRow (w.heap.size+2) 100 2 f c.length (c.flatMap be)/\TRow b (w.heap.size+2) g d/\SpG c d/\c.length<=j/\d.length<=i/\∃ h:Nat,h<=q/\Rd b R h/\Only R w b
def lD (k:Nat):ByteArray:=(⟨#[97,98,99,100,101,102]⟩:ByteArray).extract k (k+1)
theorem uO:∀ k,k<6->(lD k).size=1:=by decide
structure DP4 (w:World)(R:Nat)(v0 v1:Value)(LS:List Source)(RT:List TR)(b q:Nat)(W:World):Prop where
 C:SpB w.heap.size W v0 v1 LS RT
 P:∃ g c n f,PrG (w.heap.size+2) W RT b g c n f
 rd:Rd W R q
 O:Only R w W
 low:R<w.heap.size
theorem DP4.only {w W d:World}{R b q k:Nat}{j m:Value}{l:List Source}{o:List TR}(h:DP4 w R j m l o b q W)(i:Only R W d)(hR:Rd d R k):DP4 w R j m l o b k d:=by have hl:=h.low;obtain⟨g,c,n,f,p⟩:=h.P;exact⟨h.C.only i h.low,⟨g,c,n,f,p.only i (by omega)⟩,hR,h.O.trans i,h.low⟩
theorem DP4.below {w W k:World}{R b q:Nat}{i j:Value}{m:List Source}{l:List TR}(h:DP4 w R i j m l b q W)(d:Below W.heap.size W k):DP4 w R i j m l b q k:=by obtain⟨g,c,n,f,o⟩:=h.P;exact⟨h.C.below d,⟨g,c,n,f,o.below d ly⟩,h.rd.below d ly,h.O.then (d.mono h.O.size),h.low⟩
theorem tE (R p:Nat)(w:World)(hR:Rd w R p)(hp:p<=10000):Calls Tryz.prog 124 #[.pointer (some ⟨R,0,none⟩)] w fun e w'=>DSp w R (p+5100) 6 8 e w':=by
 have HR:=ae hR;have m:=hR.lt;clear hR;have C0:=ae (yj w);have B0:=ae (((q9 w).alloc ly (.cells #[.slice none 0 0,.slice none 0 0] 26)).alloc (by simp) (.cells #[.slice none 0 0,.slice none 0 0] 26));obtain⟨Aa,hi,Ae,As,Az⟩:=info_parts iP;obtain⟨Am,l,Ab,Aj,AA⟩:=info_parts ft;go_enter Tryz.func124,Tryz.ntmps124;go_wp2_with fail;generalize (w.alloc (.cells #[.slice none 0 0,.slice none 0 0] 26)).alloc (.cells #[.slice none 0 0,.slice none 0 0] 26)=W at C0 B0 ⊢;have R0:=ae (HR.out.below B0.out ly);have O0:Hid (Only R w W):=Only.of_below B0.out;go_loopg [4] 6 (fun g i wr=>∃ (k q:Nat) (o:Value) (s:List Source),k+g=6/\q<=p+12*k/\s.length<=k/\i=.int .i64 k/\Hid (SpB w.heap.size wr o (.slice none 0 0) s [])/\Hid (SpG s [])/\Hid (Rd wr R q)/\Hid (Only R w wr));case atStart=>exact⟨0,p,_,[],by omega,by omega,Nat.le_refl _,rfl,C0.out,yi,R0.out,O0.out⟩
 case round =>
  obtain⟨k,q,o,s,hk,hq,At,rfl,CC,GG,RR,OO⟩:=hrel;by_cases zY:k<6
  ·have Aw:IntKind.i64.wrap ((k:Int)+1)=(k:Int)+1:=by rw[IntKind.wrap_i64];omega
   go_wp2_with fail;refine(aA R q 5 _ RR.out (by omega) (by omega) (by omega)).mono ?_;rintro e w1 ⟨z,rfl,zT,zU,n8,aq⟩;have C1:=ae (CC.out.only aq m);have R1:=ae n8;have O1:=ae (OO.out.trans aq);clear n8 aq;by_cases hz:0<z
   ·go_wp2_with fail
    refine(fy R _ _ R1.out (by omega)).mono ?_;rintro e w2 ⟨t,rfl,ht,q2,Ad,zQ,zD⟩;have Q:=ae (C1.out.only zD m);have R2:=ae zQ;have O2:=ae (O1.out.trans zD);clear zQ zD;go_wp2_with fail;refine(aA R _ 2 _ R2.out (by omega) (by omega) (by omega)).mono ?_;rintro e A ⟨y,rfl,hy0',hy1',ex,S⟩;have C3:=ae (Q.out.only S m);have R3:=ae ex;have O3:=ae (O2.out.trans S);clear ex S;go_upto_if 22 with fail;go_cut [5] (fun s5 Z=>∃ (tx:ByteArray) (q4:Nat),s5=.string tx/\tx.size<=5000/\q4<=q2+3/\Hid (SpB w.heap.size Z o (.slice none 0 0) s [])/\Hid (Rd Z R q4)/\Hid (Only R w Z));case first =>
     by_cases hy:y=0
     ·subst hy
      go_wp2_with fail;refine(cX R _ _ R3.out (by omega)).mono ?_;rintro e w4 ⟨s1,rfl,hs1,zN,th⟩;have C4:=ae (C3.out.only th m);have R4:=ae zN;have O4:=ae (O3.out.trans th);clear zN th;go_wp2_with fail;refine(cX R _ _ R4.out (by omega)).mono ?_;rintro e w5 ⟨s2,rfl,hs2,ld,bt⟩;have C5:=ae (C4.out.only bt m);have R5:=ae ld;have O5:=ae (O4.out.trans bt);clear ld bt;have zE:(s1++⟨#[32]⟩++s2++⟨#[32]⟩++t).size<=5000:=by have e:(⟨#[32]⟩:ByteArray).size=1:=rfl;simp only[ByteArray.size_append,e];omega
      go_wp2;go_meet;exact⟨_,_,rfl,zE,by omega,C5.out,R5.out,O5.out⟩
     ·go_wp2
      go_meet;exact⟨t,_,rfl,by omega,by omega,C3.out,R3.out,O3.out⟩
    case rest =>
    clear C3 R3 O3;obtain⟨tx,q4,rfl,zE,AD,C5,R5,O5⟩:=hcut;go_wp2_with fail;have D:Hid (∀ V:World,(∀ j,j<wc.heap.size->some j≠o.ownBlock->V.heap[j]?=wc.heap[j]?)->V.heap[w.heap.size+1]?=some (.cells #[o,.slice none 0 0] 26 (0,0))/\V.cell? ⟨w.heap.size+1,0,none⟩=some o):=fun V hV=>by have h1:=(hV (w.heap.size+1) C5.out.lt fun e=>by have:=(C5.out.src.lt _ e.symm).1;omega).trans C5.out.box;exact⟨h1,by simp[World.cell?,h1]⟩
    refine aJ (fun V=>V.heap[w.heap.size+1]?=some (.cells #[o,.slice none 0 0] 26 (0,0))/\V.cell? ⟨w.heap.size+1,0,none⟩=some o) 11 (by as_aux_lemma=>kernel_rfl) ?_;have J:=ae (D.out wc.drew (fun j l _=>rfl))
    iterate 5
     refine aM 0 (v:=?_) rfl rfl (by as_aux_lemma=>kernel_rfl) (fun _ _ _ h=>h) rfl ?_ J.out ?_;rotate_left
     ·(intro wz G;obtain⟨s0,s1⟩:=G;go_simp)
      (try with_reducible rfl)
     (try simp only[Act.put,nzL])
    refine ig (i:=5) (v:=.string (lD k)) rfl (by as_aux_lemma=>kernel_rfl) (by as_aux_lemma=>kernel_rfl) (by as_aux_lemma=>kernel_rfl) (by as_aux_lemma=>kernel_rfl) (fun _ _ _ h=>h) rfl ?_ J.out ?_
    ·intro wz _
     go_simp;rw[if_pos ⟨by omega,by omega⟩,if_pos (by omega)];rfl
    (try simp only[Act.put,nzL])
    iterate 2
     refine aM 6 (v:=?_) rfl rfl (by as_aux_lemma=>kernel_rfl) (fun _ _ _ h=>h) rfl ?_ J.out ?_;rotate_left
     ·(intro wz G;obtain⟨s0,s1⟩:=G;go_simp)
      (try with_reducible rfl)
     (try simp only[Act.put,nzL])
    refine aj (i:=8) rfl (by as_aux_lemma=>kernel_rfl) (fun K b=>?_);go_simp;have An:=C5.out.lt;have N:=ae (((q9 wc).alloc ly (.cells #[.string (lD k),.string tx] 100)).drew);have C6:=ae (C5.out.below N.out);have Ar:=N.out.size;refine b.out _ _ (fun _=>D.out _ (fun j l _=>N.out.block j l)) ?_;clear b K J
    (try simp only[Act.put,nzL])
    refine aj (i:=9) rfl (by as_aux_lemma=>kernel_rfl) (fun K b=>?_);refine bq rfl (.tmp 33) (.tmp 40) 23 rfl (w.heap.size+2) 100 Aa (.agg #[.string ⟨#[]⟩,.string ⟨#[]⟩]) 2 32 Tryz.underlying23 hi Ae As Az rfl (by decide) o s.length (s.flatMap be) (by simp[Act.eval]) C6.out.src ⟨wc.heap.size,0,none⟩ 1 1 (be ⟨lD k,tx⟩) (by simp[Act.eval]) rfl (fun j u hu=>da wc _ _ _ j u hu) (by simp[be,Value.oneCell']) (by unfold maxLen;omega) (by omega) (by omega) ?_;intro v' w7 H B _;obtain⟨a7,c7,rfl⟩:=aL H;have S7:=ae (D.out w7 (fun j l I=>(B.block j (lj l N.out.size) I).trans (N.out.block j l)));obtain⟨c8,b8⟩:=C6.out.addS H B;have C8:=ae c8;have B8:=ae b8;clear H B c8 b8;refine b.out _ _ (fun _=>S7.out) ?_;clear b K
    (try simp only[Act.put,nzL])
    refine aj (i:=10) rfl (by as_aux_lemma=>kernel_rfl) (fun K b=>?_);go_simp;refine b.out _ _ (fun _=>S7.out) ?_;clear b K
    (try simp only[Act.put,nzL])
    obtain⟨s7,t7⟩:=S7.out;have f7:w7.frozen? ⟨w.heap.size+1,0,none⟩=false:=by simp[World.frozen?,s7]
    have l7:=au s7;clear s7;refine aj (i:=11) rfl (by as_aux_lemma=>kernel_rfl) (fun K b=>?_);go_simp;refine b.out _ _ (fun h=>absurd rfl h) ?_;clear b K
    (try simp only[Act.put,nzL])
    refine aP (by as_aux_lemma=>kernel_rfl) ?_ _;go_wp2;have BB:=ae ((N.out.mono (show w.heap.size+1<=wc.heap.size by omega)).trans B8.out);go_roundg (5 - k);case measure=>omega
    case rel=>exact⟨k+1,q4,.slice a7 (s.length+1) c7,s++[(⟨lD k,tx⟩:Source)],by omega,by omega,by rw[List.length_append];exact Nat.succ_le_succ At,by go_num,C8.out,GG.out.addS (x:=⟨lD k,tx⟩) (by show(lD k).size<=5000;rw[uO k zY];omega) zE,R5.out.low BB.out (by omega),O5.out.then (BB.out.mono (Nat.le_succ _))⟩
   ·go_wp2
    go_roundg (5 - k);case measure=>omega
    case rel=>exact⟨k+1,_,o,s,by omega,by omega,by omega,by go_num,C1.out,GG.out,R1.out,O1.out⟩
  ·obtain rfl:k=6:=by omega
   go_wp2_with fail;refine(aA R q 8 _ RR.out (by omega) (by omega) (by omega)).mono ?_;rintro e w1 ⟨z,rfl,zT,zU,n8,aq⟩;have C1:=ae (CC.out.only aq m);have R1:=ae n8;have O1:=ae (OO.out.trans aq);clear n8 aq;obtain⟨n,rfl⟩:∃ n:Nat,z=(n:Int):=⟨z.toNat,by omega⟩
   go_wp2_with fail;go_loopg [7] (n+1) (fun g i wr=>∃ (j q:Nat) (v1:Value) (d:List TR),j+g=n+1/\q<=p+73+620*j/\d.length=j/\i=.int .i64 j/\Hid (SpB w.heap.size wr o v1 s d)/\Hid (SpG s d)/\Hid (Rd wr R q)/\Hid (Only R w wr));case atStart=>exact⟨0,_,_,[],by omega,by omega,rfl,rfl,C1.out,GG.out,R1.out,O1.out⟩
   case round =>
    obtain⟨j,q2,v1,d,hj2,Ad,ro,rfl,Q,G2,R2,O2⟩:=hrel;obtain⟨a1,c1,rfl⟩:=aL Q.out.tgt.own;by_cases hjn:j<n+1
    ·have U:Hid (d.length=j):=ro
     have hrn:d.length<=8:=by omega
     clear ro;have Aw:IntKind.i64.wrap ((j:Int)+1)=(j:Int)+1:=by rw[IntKind.wrap_i64];omega
     go_wp2_with fail;refine(gy R q2 _ R2.out (by omega)).mono ?_;rintro e A ⟨L,g,c,rfl,hI,AE,hl2,hT,q3,hq3,ex,S⟩;have hlt2:=Q.out.lt;have hs3:=S.size;have C3:=ae (Q.out.only S m);have B4:=ae ((q9 A).alloc ly (.cells #[.slice (some ⟨g,0,none⟩) L.length c] 31));have P4:=ae (uJ (base:=w.heap.size+2) (RT:=d) hI (by omega) (fun r hr=>Q.out.tgt.ltg r hr) (by omega) ⟨AE,by omega⟩ hT);have C4:=ae (C3.out.below B4.out);have R4:=ae (ex.below B4.out ly);have O4:=ae ((O2.out.trans S).then (B4.out.mono (by omega)));have D4:Hid (DP4 w R o (.slice a1 d.length c1) s d A.heap.size q3 (A.alloc (.cells #[.slice (some ⟨g,0,none⟩) L.length c] 31))):=⟨C4.out,⟨_,_,_,_,P4.out⟩,R4.out,O4.out,m⟩
     clear ex S hI hT C3 C4 P4 R4 O4;go_upto_region 15 with fail;generalize A.alloc (.cells #[.slice (some ⟨g,0,none⟩) L.length c] 31)=W4 at D4 B4 ⊢;clear B4;go_cut [59] (fun Ai Z=>∃ (b1:Bool) (q4:Nat),Ai=.bool b1/\(b1=true->0<j)/\q4<=q3+1/\Hid (DP4 w R o (.slice a1 d.length c1) s d A.heap.size q4 Z));case first =>
      by_cases zK:0<(j:Int)
      ·go_wp2_with fail
       refine(aA R _ 5 _ D4.out.rd (by omega) (by omega) (by omega)).mono ?_;rintro e w5 ⟨z5,rfl,h50,h51,ld,bt⟩;have D5:=ae (D4.out.only bt ld);clear ld bt;go_wp2;go_meet;exact⟨_,_,rfl,fun _=>by omega,by omega,D5.out⟩
      ·go_wp2
       go_meet;exact⟨_,_,rfl,fun h=>by simp at h,by omega,D4.out⟩
     case rest =>
     clear D4;obtain⟨b1,q4,rfl,zX,AD,D5⟩:=hcut;go_upto_if 59 with fail;go_cut [] (fun Z=>∃ q5:Nat,q5<=q4+1/\Hid (DP4 w R o (.slice a1 d.length c1) s d A.heap.size q5 Z));case first =>
      cases b1 with
      | true =>
       have zK:0<(j:Int):=by have:=zX rfl;omega
       obtain⟨gt,_,rfl,_⟩:=Q.out.tgt.atk (k:=0) (by have:=U.out;omega);go_wp2_with fail;have D:Hid (∀ V:World,(∀ j,j<wc.heap.size->j≠R->V.heap[j]?=wc.heap[j]?)->V.heap[w.heap.size+1]?=some (.cells #[o,(.slice (some ⟨gt,0,none⟩) d.length c1)] 26 (0,0))/\V.cell? ⟨w.heap.size+1,1,none⟩=some (.slice (some ⟨gt,0,none⟩) d.length c1)):=fun V hV=>by have h1:=(hV (w.heap.size+1) D5.out.C.lt (by omega)).trans D5.out.C.box;exact⟨h1,by simp[World.cell?,h1]⟩
       refine aJ (fun V=>V.heap[w.heap.size+1]?=some (.cells #[o,(.slice (some ⟨gt,0,none⟩) d.length c1)] 26 (0,0))/\V.cell? ⟨w.heap.size+1,1,none⟩=some (.slice (some ⟨gt,0,none⟩) d.length c1)) 11 (by as_aux_lemma=>kernel_rfl) ?_;have J:=ae (D.out wc.drew (fun j l _=>rfl))
       iterate 6
        refine aM 0 (v:=?_) rfl rfl (by as_aux_lemma=>kernel_rfl) (fun _ _ _ h=>h) rfl ?_ J.out ?_;rotate_left
        ·(intro wz G;obtain⟨s0,s1⟩:=G;go_simp)
         (try with_reducible rfl)
        (try simp only[Act.put,nzL])
       refine aj (i:=6) rfl (by as_aux_lemma=>kernel_rfl) (fun K b=>?_);go_simp;go_at_call 51;refine(aA R _ (d.length:Int) _ (D5.out.rd.below br.drew ly) (by omega) (by have:=U.out;omega) (by omega)).mono ?_;rintro e w6 ⟨z6,rfl,Au,Aq,n9,la⟩;obtain⟨k6,rfl⟩:∃ k6:Nat,z6=(k6:Int):=⟨z6.toNat,by omega⟩
       have ur:k6<d.length:=by omega
       have Y:Hid (Only R wc w6):=(Only.of_below br.drew).trans la;have T:=ae (D5.out.only Y.out n9);clear n9 la;have S6:=ae (D.out w6 (fun j l I=>Y.out.block j l I));obtain⟨Ap,r6,zG,Ac,mv,Ak,Ao,fd⟩:=T.out.C.tgt.atk ur;have zF:=ae fd;have M6:=ae mv;clear fd mv;injection zG with e1;injection e1 with e2;subst e2;refine b.out _ _ (fun _=>S6.out) ?_;clear b K J
       (try simp only[Act.put,nzL])
       iterate 3
        refine cB 7 rfl rfl (by as_aux_lemma=>kernel_rfl) (fun K b=>?_);go_simp;refine b.out _ _ (fun _=>S6.out) ?_;clear b K
        (try simp only[Act.put,nzL])
       refine aj (i:=10) rfl (by as_aux_lemma=>kernel_rfl) (fun K b=>?_);go_simp;go_at_call 80;refine(gn _ _ _ r6.1.act _ (by have:=(G2.out.t r6 M6.out).2.1.2;omega) zF.out).mono ?_;rintro e w7 ⟨g7,c7,rfl,zJ,qr⟩;have sm:=G2.out.t r6 M6.out;obtain⟨gp,cp,mp,fp,f⟩:=(T.out.below qr).P;have D7:=ae (T.out.below qr);have P8:=ae (f.put zJ (by have:=T.out.C.lt;omega) (fun r hr=>T.out.C.tgt.ltg r hr) sm.2.1 sm.2.2);have S7:=ae (D.out w7 (fun j l I=>(qr.block j (lj l Y.out.size)).trans (Y.out.block j l I)));have k7:=f.blk.c0;have z7:=f.blk.fz 0;have l7:=f.blk.lt;have Ax:=f.lo;have B8:=ae ((Below.refl A.heap.size w7).setCell (p:=⟨A.heap.size,0,none⟩) ly (.slice (some ⟨g7,0,none⟩) r6.1.actN c7));have D8:Hid (DP4 w R o (.slice (some ⟨gt,0,none⟩) d.length c1) s d A.heap.size _ (w7.setCell ⟨A.heap.size,0,none⟩ (.slice (some ⟨g7,0,none⟩) r6.1.actN c7))):=⟨D7.out.C.putP f.blk Ax (.slice (some ⟨g7,0,none⟩) r6.1.actN c7),⟨_,_,_,_,P8.out⟩,D7.out.rd.low B8.out (by omega),D7.out.O.then (B8.out.mono (by omega)),m⟩
       clear zJ qr sm f P8 B8;refine b.out _ _ (fun _=>S7.out) ?_;clear b K
       (try simp only[Act.put,nzL])
       refine aj (i:=11) rfl (by as_aux_lemma=>kernel_rfl) (fun K b=>?_);go_simp;refine b.out _ _ (fun h=>absurd rfl h) ?_;clear b K k7 z7
       (try simp only[Act.put,nzL])
       refine aP (by as_aux_lemma=>kernel_rfl) ?_ _;go_wp2;go_meet;exact⟨_,by omega,D8.out⟩
      | false =>go_wp2;go_meet;exact⟨q4,by omega,D5.out⟩
     case rest =>
     clear D5;obtain⟨q5,hq5,T⟩:=hcut;go_wp2_with fail;refine(aA R _ 2 _ T.out.rd (by omega) (by omega) (by omega)).mono ?_;rintro e w9 ⟨z9,rfl,h90,h91,zP,zM⟩;have D9:=ae (T.out.only zM zP);clear zP zM T;go_upto_if 73 with fail;go_cut [9] (fun _ Z=>∃ q8:Nat,q8<=q5+12/\Hid (DP4 w R o (.slice a1 d.length c1) s d A.heap.size q8 Z));case first =>
      by_cases zW:z9=0
      ·subst zW
       go_upto_if 75 with fail;go_cut [9] (fun s9 Z=>∃ (nm:ByteArray) (q6:Nat),s9=.string nm/\nm.size<=5000/\q6<=q5+2/\Hid (DP4 w R o (.slice a1 d.length c1) s d A.heap.size q6 Z));case first =>
        by_cases zK:0<(j:Int)
        ·obtain⟨gt,_,rfl,_⟩:=Q.out.tgt.atk (k:=0) (by have:=U.out;omega)
         go_wp2_with fail;have D:Hid (∀ V:World,(∀ j,j<w9.heap.size->j≠R->V.heap[j]?=w9.heap[j]?)->V.heap[w.heap.size+1]?=some (.cells #[o,(.slice (some ⟨gt,0,none⟩) d.length c1)] 26 (0,0))/\V.cell? ⟨w.heap.size+1,1,none⟩=some (.slice (some ⟨gt,0,none⟩) d.length c1)):=fun V hV=>by have h1:=(hV (w.heap.size+1) D9.out.C.lt (by omega)).trans D9.out.C.box;exact⟨h1,by simp[World.cell?,h1]⟩
         refine aJ (fun V=>V.heap[w.heap.size+1]?=some (.cells #[o,(.slice (some ⟨gt,0,none⟩) d.length c1)] 26 (0,0))/\V.cell? ⟨w.heap.size+1,1,none⟩=some (.slice (some ⟨gt,0,none⟩) d.length c1)) 10 (by as_aux_lemma=>kernel_rfl) ?_;have J:=ae (D.out w9.drew (fun j l _=>rfl))
         iterate 6
          refine aM 0 (v:=?_) rfl rfl (by as_aux_lemma=>kernel_rfl) (fun _ _ _ h=>h) rfl ?_ J.out ?_;rotate_left
          ·(intro wz G;obtain⟨s0,s1⟩:=G;go_simp)
           (try with_reducible rfl)
          (try simp only[Act.put,nzL])
         refine aj (i:=6) rfl (by as_aux_lemma=>kernel_rfl) (fun K b=>?_);go_simp;go_at_call 51;refine(aA R _ (d.length:Int) _ (D9.out.rd.below br.drew ly) (by omega) (by have:=U.out;omega) (by omega)).mono ?_;rintro e w6 ⟨z6,rfl,Au,Aq,n9,la⟩;obtain⟨k6,rfl⟩:∃ k6:Nat,z6=(k6:Int):=⟨z6.toNat,by omega⟩
         have ur:k6<d.length:=by omega
         have Y:Hid (Only R w9 w6):=(Only.of_below br.drew).trans la;have T:=ae (D9.out.only Y.out n9);clear n9 la;have S6:=ae (D.out w6 (fun j l I=>Y.out.block j l I));obtain⟨Ap,r6,zG,Ac,mv,Ak,Ao,fd⟩:=T.out.C.tgt.atk ur;have zF:=ae fd;have M6:=ae mv;clear fd mv;injection zG with e1;injection e1 with e2;subst e2;refine b.out _ _ (fun _=>S6.out) ?_;clear b K J
         (try simp only[Act.put,nzL])
         iterate 3
          refine cB 7 rfl rfl (by as_aux_lemma=>kernel_rfl) (fun K b=>?_);go_simp;refine b.out _ _ (fun _=>S6.out) ?_;clear b K
          (try simp only[Act.put,nzL])
         refine aj (i:=10) rfl (by as_aux_lemma=>kernel_rfl) (fun K b=>?_);go_simp;refine b.out _ _ (fun h=>absurd rfl h) ?_;have zH:=(G2.out.t r6 M6.out).1;clear b K D S6 zF M6
         (try simp only[Act.put,nzL])
         refine aP (by as_aux_lemma=>kernel_rfl) ?_ _;go_wp2;go_meet;exact⟨r6.1.name,_,rfl,zH,by omega,T.out⟩
        ·go_wp2
         go_meet;exact⟨⟨#[97]⟩,_,rfl,by decide,by omega,D9.out⟩
       case rest =>
       clear D9;obtain⟨nm,q6,rfl,zH,hq6,Ah⟩:=hcut;go_wp2_with fail;refine(aY _ _).mono ?_;rintro e wa ⟨rfl,E⟩;have Da:=ae (Ah.out.below E);clear E;go_wp2_with fail;refine(aR 12 _).mono ?_;rintro e wb ⟨rfl,E⟩;have Db:=ae (Da.out.below E);clear E Da;go_wp2_with fail;refine(fy R _ _ Db.out.rd (by omega)).mono ?_;rintro e wd ⟨tc,rfl,htc,qc,hqc,hR,hO⟩;have Dd:=ae (Db.out.only hO hR);clear hO hR Db;go_wp2_with fail;refine(aY tc _).mono ?_;rintro e we ⟨rfl,E⟩;have De:=ae (Dd.out.below E);clear E Dd;go_wp2_with fail;refine(aR 2 _).mono ?_;rintro e wf ⟨rfl,E⟩;have Df:=ae (De.out.below E);clear E De;go_wp2_with fail;refine(aA R _ 9 _ Df.out.rd (by omega) (by omega) (by omega)).mono ?_;rintro e wg ⟨zf,rfl,hf0,hf1,hR,hO⟩;have Dg:=ae (Df.out.only hO hR);clear hO hR Df;go_wp2_with fail;refine(bh 3 _ _).mono ?_;rintro e wi ⟨rfl,E⟩;have Di:=ae (Dg.out.below E);clear E Dg;go_wp2_with fail;refine(aR 15 _).mono ?_;rintro e wh ⟨rfl,E⟩;have Dh:=ae (Di.out.below E);clear E Di;obtain⟨gp,cp,mp,fp,f⟩:=Dh.out.P;have kh:=f.blk.c0;have zh:=f.blk.fz 0;have lh:=f.blk.lt;have Av:=ae (f.six (fun r hr=>Dh.out.C.tgt.ltg r hr) (by have:=Dh.out.C.lt;omega) nm tc (1+zf) zH (by omega));have zR:(wh.setCell ⟨A.heap.size,0,none⟩ (.slice (some ⟨wh.heap.size,0,none⟩) 6 6)).heap.size=wh.heap.size:=by simp
       have lo10:=f.lo;have Ba:=ae (((Below.refl A.heap.size wh).setCell (p:=⟨A.heap.size,0,none⟩) ly (.slice (some ⟨wh.heap.size,0,none⟩) 6 6)).alloc (by rw[zR];omega) (.cells (mT nm tc (1+zf)) 176));have Af:=ae ((Dh.out.C.putP f.blk f.lo (.slice (some ⟨wh.heap.size,0,none⟩) 6 6)).below (br.alloc ly (.cells (mT nm tc (1+zf)) 176)));have Ag:=ae (Dh.out.rd.low Ba.out (by omega));have Ay:=ae (Dh.out.O.then (Ba.out.mono (by omega)));clear Ba f zR;go_wp2;go_meet;exact⟨_,by omega,Af.out,⟨_,_,_,_,Av.out⟩,Ag.out,Ay.out,m⟩
      ·go_wp2
       go_meet;exact⟨_,by omega,D9.out⟩
     case rest =>
     clear D9;obtain⟨q8,hq8,M⟩:=hcut;go_wp2_with fail;obtain⟨gp,cp,mp,fp,f⟩:=M.out.P;have PP:=ae f;clear f;have D:Hid (∀ V:World,(∀ j,j<wc.heap.size->some j≠(Value.slice a1 d.length c1).ownBlock->V.heap[j]?=wc.heap[j]?)->V.heap[w.heap.size+1]?=some (.cells #[o,.slice a1 d.length c1] 26 (0,0))/\V.cell? ⟨w.heap.size+1,1,none⟩=some (.slice a1 d.length c1)/\V.cell? ⟨A.heap.size,0,none⟩=some (.slice (some ⟨gp,0,none⟩) mp cp)):=fun V hV=>by
      have h1:=(hV (w.heap.size+1) M.out.C.lt fun e=>by have:=(M.out.C.tgt.own.lt _ e.symm).1;omega).trans M.out.C.box
      have h2:PB V A.heap.size (.slice (some ⟨gp,0,none⟩) mp cp):=(hV A.heap.size PP.out.blk.lt fun e=>by
       obtain⟨cur,zV⟩:=M.out.C.tgt.type _ e.symm;have h3:=PP.out.blk.symm.trans zV
       cases h3).trans PP.out.blk
      exact⟨h1,by simp[World.cell?,h1],h2.c0⟩
     refine aJ (fun V=>V.heap[w.heap.size+1]?=some (.cells #[o,.slice a1 d.length c1] 26 (0,0))/\V.cell? ⟨w.heap.size+1,1,none⟩=some (.slice a1 d.length c1)/\V.cell? ⟨A.heap.size,0,none⟩=some (.slice (some ⟨gp,0,none⟩) mp cp)) 10 (by as_aux_lemma=>kernel_rfl) ?_;have J:=ae (D.out wc.drew (fun j l _=>rfl))
     iterate 3
      refine aM 0 (v:=?_) rfl rfl (by as_aux_lemma=>kernel_rfl) (fun _ _ _ h=>h) rfl ?_ J.out ?_;rotate_left
      ·(intro wz G;obtain⟨s0,s1,s2⟩:=G;go_simp)
       (try with_reducible rfl)
      (try simp only[Act.put,nzL])
     refine aM 5 (v:=?_) rfl rfl (by as_aux_lemma=>kernel_rfl) (fun _ _ _ h=>h) rfl ?_ J.out ?_;rotate_left
     ·(intro wz G;obtain⟨s0,s1,s2⟩:=G;go_simp)
      (try with_reducible rfl)
     (try simp only[Act.put,nzL])
     refine aj (i:=3) rfl (by as_aux_lemma=>kernel_rfl) (fun K b=>?_);go_simp;go_at_call 126;refine(fS j (by omega) _).mono ?_;rintro e wt ⟨rfl,zI⟩;have BT:Hid (Below wc.heap.size wc wt):=(q9 wc).drew.trans zI;clear zI;refine b.out _ _ (fun _=>D.out _ (fun j l _=>BT.out.block j l)) ?_;clear b K J
     (try simp only[Act.put,nzL])
     refine aj (i:=4) rfl (by as_aux_lemma=>kernel_rfl) (fun K b=>?_);go_simp;refine b.out _ _ (fun _=>D.out _ (fun j l _=>BT.out.block j l)) ?_;clear b K
     (try simp only[Act.put,nzL])
     have zS:((⟨#[116]⟩:ByteArray)++⟨#[dig j]⟩).size<=5000:=by have e1:(⟨#[116]⟩:ByteArray).size=1:=rfl;have e2:(⟨#[dig j]⟩:ByteArray).size=1:=rfl;simp only[ByteArray.size_append,e1,e2];omega
     generalize (⟨#[116]⟩:ByteArray)++⟨#[dig j]⟩=tn at zS ⊢;refine aj (i:=6) rfl (by as_aux_lemma=>kernel_rfl) (fun K b=>?_);go_simp;refine b.out _ _ (fun _=>D.out _ (fun j l _=>BT.out.block j l)) ?_;clear b K
     (try simp only[Act.put,nzL])
     refine aj (i:=7) rfl (by as_aux_lemma=>kernel_rfl) (fun K b=>?_);go_simp;have An:=M.out.C.lt;have hzt:=BT.out.size;have N:=ae (BT.out.alloc (by omega) (.cells #[.string tn,.slice (some ⟨gp,0,none⟩) mp cp] 104));have zO:=ae (M.out.C.below N.out);have zL:=ae (PP.out.below N.out ly);have Ar:=N.out.size;refine b.out _ _ (fun _=>D.out _ (fun j l _=>N.out.block j l)) ?_;clear b K
     (try simp only[Act.put,nzL])
     refine aj (i:=8) rfl (by as_aux_lemma=>kernel_rfl) (fun K b=>?_);refine bq rfl (.tmp 101) (.tmp 107) 24 rfl (w.heap.size+2) 104 Am (.agg #[.string ⟨#[]⟩,.slice none 0 0]) 2 40 Tryz.underlying24 l Ab Aj AA rfl (by decide) (.slice a1 d.length c1) d.length (d.flatMap aU) (by simp[Act.eval]) zO.out.tgt.own ⟨wt.heap.size,0,none⟩ 1 1 (aU (⟨tn,mp,fp⟩,gp,cp)) (by simp[Act.eval]) rfl (fun j u hu=>da wt _ _ _ j u hu) (by simp[aU,Value.oneCell']) (by unfold maxLen;omega) (by omega) (by omega) ?_;intro v' w7 H B _;obtain⟨a7,c7,rfl⟩:=aL H;have S7:=ae (D.out w7 (fun j l I=>(B.block j (lj l N.out.size) I).trans (N.out.block j l)));obtain⟨c8,b8⟩:=zO.out.addT (x:=⟨tn,mp,fp⟩) (g:=gp) (c:=cp) zL.out.new zL.out.own H B;have Al:=ae c8;have zZ:=ae b8;clear H B c8 b8;refine b.out _ _ (fun _=>S7.out) ?_;clear b K
     (try simp only[Act.put,nzL])
     refine aj (i:=9) rfl (by as_aux_lemma=>kernel_rfl) (fun K b=>?_);go_simp;refine b.out _ _ (fun _=>S7.out) ?_;clear b K
     (try simp only[Act.put,nzL])
     obtain⟨s7,t7,y7⟩:=S7.out;have f7:w7.frozen? ⟨w.heap.size+1,1,none⟩=false:=by simp[World.frozen?,s7]
     have l7:=au s7;clear s7 y7;refine aj (i:=10) rfl (by as_aux_lemma=>kernel_rfl) (fun K b=>?_);go_simp;refine b.out _ _ (fun h=>absurd rfl h) ?_;clear b K
     (try simp only[Act.put,nzL])
     refine aP (by as_aux_lemma=>kernel_rfl) ?_ _;go_wp2;have BB:=ae ((N.out.mono (show w.heap.size+1<=wc.heap.size by omega)).trans zZ.out);go_roundg (n - j);case measure=>omega
     case rel=>exact⟨j+1,q8,.slice a7 (d.length+1) c7,d++[((⟨tn,mp,fp⟩,gp,cp):TR)],by omega,by omega,by rw[List.length_append,U.out];rfl,by go_num,Al.out,G2.out.addT (r:=(⟨tn,mp,fp⟩,gp,cp)) zS PP.out.num PP.out.sz,M.out.rd.low BB.out (by omega),M.out.O.then (BB.out.mono (Nat.le_succ _))⟩
    ·obtain rfl:j=n+1:=by omega
     obtain⟨a0,c0,rfl⟩:=aL Q.out.src;obtain⟨k0,k1⟩:=Q.out.cells;have kr:=Q.out.res;have r0:wr.cell? ⟨w.heap.size,0,none⟩=some (.slice none 0 0):=by simp[World.cell?,kr]
     have r1:wr.cell? ⟨w.heap.size,1,none⟩=some (.slice none 0 0):=by simp[World.cell?,kr]
     have f0:wr.frozen? ⟨w.heap.size,0,none⟩=false:=by simp[World.frozen?,kr]
     have f1:wr.frozen? ⟨w.heap.size,1,none⟩=false:=by simp[World.frozen?,kr]
     have l0:=au kr;have l1:=Q.out.lt;clear kr;have BE:=ae (((Below.refl w.heap.size wr).setCell (p:=⟨w.heap.size,0,none⟩) ly (.slice a0 s.length c0)).setCell (p:=⟨w.heap.size,1,none⟩) ly (.slice a1 d.length c1));have OE:=ae (aD (aD Q.out.src (R:=w.heap.size) (j:=0) (by omega) (.slice a0 s.length c0)) (R:=w.heap.size) (j:=1) (by omega) (.slice a1 d.length c1));have TE:=ae ((Q.out.tgt.set (X:=w.heap.size) (j:=0) (by omega) (.slice a0 s.length c0)).set (X:=w.heap.size) (j:=1) (by omega) (.slice a1 d.length c1));have U:Hid (d.length=n+1):=ro;clear ro;go_wp2;exact bp (v:=.agg #[.slice a0 s.length c0,.slice a1 d.length c1]) (by simp[results,Tryz.results124,go_sem,r0,r1]) rfl ⟨s,d,_,_,rfl,OE.out,TE.out,G2.out,by omega,by have:=U.out;omega,q2,by omega,R2.out.low BE.out m,O2.out.then BE.out⟩
end Go.Proofs.YtkophfgkcijjkaaGreatDoor.Vp
