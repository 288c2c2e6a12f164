import Derived.Test.YtpmnbjkjpnclaaaGreatDoorMA
import Derived.Test.YtpmnbjkjpnclaaaGreatDoorLY
import Derived.Deep.LoopGhost
set_option maxRecDepth 100000
set_option maxHeartbeats 8000000
open Go renaming Addr.mk->N,Value.slice->Y,Value.string->U,Value.agg->ZG,Obj.cells->J,World->M,Value->ZB,World.heap->Q,World.cell?->z
open Option renaming none->Z,some->T
open Bool renaming false->ZA
open Array renaming size->I
namespace Go.Proofs.YtpmnbjkjpnclaaaGreatDoor.Vp
open Tryz RowKit Ca
def DSp (w:M)(R q m l:Nat)(e:Ending)(b:M):Prop:=∃(f:List Source) (g:List TR) (j h:ZB),e=.returned (ZG #[j,h])/\b.ownsRow (I (Q w)+2) 142 2 j f.length (f.flatMap bi)/\TRow b (I (Q w)+2) h g/\SpG f g/\f.length<=m/\g.length<=l/\∃i:Nat,i<=q/\Rd b R i/\Only R w b
def ny (k:Nat):ByteArray:=(⟨#[97,98,99,100,101,102]⟩:ByteArray).extract k (k+1)
theorem yJ:∀k,k<6->(ny k).size=1:=by decide
structure DP4 (w:M)(R:Nat)(v0 v1:ZB)(LS:List Source)(RT:List TR)(b q:Nat)(W:M):Prop where
 C:SpB (I (Q w)) W v0 v1 LS RT
 P:∃g c n f,PrG (I (Q w)+2) W RT b g c n f
 rd:Rd W R q
 O:Only R w W
 low:R<I (Q w)
theorem DP4.ac {w W j:M}{R b q l:Nat}{p o:ZB}{r:List Source}{m:List TR}(h:DP4 w R p o r m b q W)(i:Only R W j)(hR:Rd j R l):DP4 w R p o r m b l j:=by have hl:=h.low;obtain⟨g,c,n,f,s⟩:=h.P;exact⟨h.C.ac i h.low,⟨g,c,n,f,s.ac i (by omega)⟩,hR,h.O.trans i,h.low⟩
theorem DP4.aa {w W m:M}{R b q:Nat}{l j:ZB}{p:List Source}{o:List TR}(h:DP4 w R l j p o b q W)(i:Below (I (Q W)) W m):DP4 w R l j p o b q m:=by obtain⟨g,c,n,f,r⟩:=h.P;exact⟨h.C.aa i,⟨g,c,n,f,r.aa i ly⟩,h.rd.aa i ly,h.O.then (i.mono h.O.size),h.low⟩
theorem xg (R p:Nat)(w:M)(hR:Rd w R p)(hp:p<=10000):Calls Tryz.prog 95 #[.pointer (T (N R 0 Z))] w λe w'=>DSp w R (p+5100) 6 8 e w':=by
 have HR:=ae hR;have A:=hR.lt;clear hR;have C0:=ae (Dx w);obtain⟨W,CD⟩:∃W:M,(w.alloc (J #[Y Z 0 0,Y Z 0 0] 27)).alloc (J #[Y Z 0 0,Y Z 0 0] 27)=W:=⟨_,rfl⟩
 obtain⟨B0,-,-,-⟩:=nb2 CD;have Fm:=ae CD;clear CD;obtain⟨GF,hi,GH,GI,Ga⟩:=JT ip;obtain⟨Gt,m,Gf,GC,Gk⟩:=JT fJ;go_enter func95,ntmps95;go_wp2_with fail;rw[Fm.out] at C0 ⊢;clear Fm;have R0:=ae (HR.aa B0 ly);have O0:Hid (Only R w W):=Only.q B0;go_loopg [4] 6 (λg i wr=>∃(k q:Nat) (s:ZB) (o:List Source),k+g=6/\q<=p+12*k/\o.length<=k/\i=.int .i64 k/\Hid (SpB (I (Q w)) wr s (Y Z 0 0) o [])/\Hid (SpG o [])/\Hid (Rd wr R q)/\Hid (Only R w wr));case atStart=>exact⟨0,p,_,[],by omega,by omega,nX _,rfl,C0,Dw,R0,O0⟩
 case round =>
  obtain⟨k,q,s,o,hk,hq,GA,rfl,CC,GG,RR,OO⟩:=hrel;by_cases Gx:k<6
  ·have Gl:IntKind.i64.wrap ((k:Int)+1)=(k:Int)+1:=by rw[AI];omega
   go_wp2_with fail;refine(aw R q 5 _ RR (by omega) (by omega) (by omega)).mono ?_;rintro e w1 ⟨ZR,rfl,F3,F0,fd,aq⟩;have C1:=ae (CC.ac aq A);have R1:=ae fd;have O1:=ae (OO.trans aq);clear fd aq;by_cases hz:0<ZR
   ·go_wp2_with fail;refine(fO R _ _ R1 (by omega)).mono ?_;rintro e w2 ⟨t,rfl,ht,q2,GJ,FO,DE⟩;have ZQ:=ae (C1.ac DE A);have R2:=ae FO;have O2:=ae (O1.trans DE);clear FO DE;go_wp2_with fail;refine(aw R _ 2 _ R2 (by omega) (by omega) (by omega)).mono ?_;rintro e D ⟨y,rfl,hy0',hy1',ld,ZL⟩;have C3:=ae (ZQ.ac ZL A);have R3:=ae ld;have O3:=ae (O2.trans ZL);clear ld ZL;go_upto_if 22 with fail;go_cut [5] (λs5 wx=>∃(tx:ByteArray) (q4:Nat),s5=U tx/\tx.size<=5000/\q4<=q2+3/\Hid (SpB (I (Q w)) wx s (Y Z 0 0) o [])/\Hid (Rd wx R q4)/\Hid (Only R w wx));case first =>
     by_cases hy:y=0
     ·subst hy;go_wp2_with fail;refine(dA R _ _ R3 (by omega)).mono ?_;rintro e w4 ⟨s1,rfl,hs1,FW,DS⟩;have C4:=ae (C3.ac DS A);have R4:=ae FW;have O4:=ae (O3.trans DS);clear FW DS;go_wp2_with fail;refine(dA R _ _ R4 (by omega)).mono ?_;rintro e w5 ⟨s2,rfl,hs2,n9,bt⟩;have C5:=ae (C4.ac bt A);have R5:=ae n9;have O5:=ae (O4.trans bt);clear n9 bt;have DQ:(s1++⟨#[32]⟩++s2++⟨#[32]⟩++t).size<=5000:=by have e:(⟨#[32]⟩:ByteArray).size=1:=rfl;simp only[KO,e];omega
      go_wp2;go_meet;exact⟨_,_,rfl,DQ,by omega,C5,R5,O5⟩
     {go_wp2;go_meet;exact⟨t,_,rfl,by omega,by omega,C3,R3,O3⟩}
    case rest =>
    clear C3 R3 O3;obtain⟨tx,q4,rfl,DQ,Gn,C5,R5,O5⟩:=hcut;go_wp2_with fail;have E:Hid (∀V:M,(∀j,j<I (Q wc)->T j≠s.ownBlock->V.heap[j]?=wc.heap[j]?)->V.heap[I (Q w)+1]?=T (J #[s,Y Z 0 0] 27 (0,0))/\z V (N (I (Q w)+1) 0 Z)=T s):=λV hV=>by have h1:=(hV (I (Q w)+1) C5.lt λe=>by have:=(C5.src.lt _ e.symm).1;omega).trans C5.ab;exact⟨h1,by simp[World.cell?,h1]⟩
    refine aD (λV=>V.heap[I (Q w)+1]?=T (J #[s,Y Z 0 0] 27 (0,0))/\z V (N (I (Q w)+1) 0 Z)=T s) 11 (by kernel_rfl) ?_;have ZN:=ae (E wc.drew (λj m _=>rfl));iterate 5
     refine aH 0 (v:=?_) rfl rfl (by kernel_rfl) (λ_ _ _ h=>h) rfl ?_ ZN ?_;rotate_left
     ·(rintro wz ⟨s0,s1⟩;go_simp)
      (try with_reducible rfl)
     (try simp only[Act.put,nzL])
    refine eP (i:=5) (v:=U (ny k)) rfl (by kernel_rfl) (by kernel_rfl) (by kernel_rfl) (by kernel_rfl) (λ_ _ _ h=>h) rfl ?_ ZN ?_;{intro wz _;go_simp;rw[nL ⟨by omega,by omega⟩,nL (by omega)];rfl}
    (try simp only[Act.put,nzL])
    iterate 2
     refine aH 6 (v:=?_) rfl rfl (by kernel_rfl) (λ_ _ _ h=>h) rfl ?_ ZN ?_;rotate_left
     ·(rintro wz ⟨s0,s1⟩;go_simp)
      (try with_reducible rfl)
     (try simp only[Act.put,nzL])
    refine ai (i:=8) rfl (by kernel_rfl) λK b=>?_;go_simp;have Gb:=C5.lt;have ZM:=ae (((BS wc).alloc ly (J #[U (ny k),U tx] 142)).drew);have C6:=ae (C5.aa ZM);have Gp:=ZM.size;refine b _ _ (λ_=>E _ (λj m _=>ZM.block j m)) ?_;clear b K ZN
    (try simp only[Act.put,nzL])
    refine ai (i:=9) rfl (by kernel_rfl) λK b=>?_;refine aW rfl (.tmp 33) (.tmp 40) 24 rfl (I (Q w)+2) 142 GF (ZG #[U ⟨#[]⟩,U ⟨#[]⟩]) 2 32 LH hi GH GI Ga rfl (by decide) s o.length (o.flatMap bi) (by simp[Act.eval]) C6.src (N (I (Q wc)) 0 Z) 1 1 (bi ⟨ny k,tx⟩) (by simp[Act.eval]) rfl (λj u hu=>cL wc _ _ _ j u hu) (by simp[bi,Value.oneCell']) (by unfold maxLen;omega) (by omega) (by omega) ?_;intro v' w7 ZP B _;obtain⟨a7,c7,rfl⟩:=aL ZP;have S7:=ae (E w7 (λj m ZO=>(B.block j (lj m ZM.size) ZO).trans (ZM.block j m)));obtain⟨c8,b8⟩:=C6.addS ZP B;have C8:=ae c8;have B8:=ae b8;clear ZP B c8 b8;refine b _ _ (λ_=>S7) ?_;clear b K
    (try simp only[Act.put,nzL])
    refine ai (i:=10) rfl (by kernel_rfl) λK b=>?_;go_simp;refine b _ _ (λ_=>S7) ?_;clear b K
    (try simp only[Act.put,nzL])
    obtain⟨s7,t7⟩:=S7.out;have f7:w7.frozen? (N (I (Q w)+1) 0 Z)=ZA:=by simp[World.frozen?,s7]
    have l7:=ar s7;clear s7;refine ai (i:=11) rfl (by kernel_rfl) λK b=>?_;go_simp;refine b _ _ (λh=>absurd rfl h) ?_;clear b K
    (try simp only[Act.put,nzL])
    refine aT (by kernel_rfl) ?_ _;go_wp2;have BB:=ae ((ZM.mono (show (I (Q w))+1<=I (Q wc) by omega)).trans B8.out);go_roundg (5 - k);case measure=>omega
    case rel=>exact⟨k+1,q4,Y a7 (o.length+1) c7,o++[(⟨ny k,tx⟩:Source)],by omega,by omega,by rw[eL];exact Nat.succ_le_succ GA,by go_num,C8,GG.addS (x:=⟨ny k,tx⟩) (by show(ny k).size<=5000;rw[yJ k Gx];omega) DQ,R5.low BB (by omega),O5.then (BB.mono (JH _))⟩
   ·go_wp2;go_roundg (5 - k);case measure=>omega
    case rel=>exact⟨k+1,_,s,o,by omega,by omega,by omega,by go_num,C1,GG,R1,O1⟩
  ·obtain rfl:k=6:=by omega
   go_wp2_with fail;refine(aw R q 8 _ RR (by omega) (by omega) (by omega)).mono ?_;rintro e w1 ⟨ZR,rfl,F3,F0,fd,aq⟩;have C1:=ae (CC.ac aq A);have R1:=ae fd;have O1:=ae (OO.trans aq);clear fd aq;obtain⟨n,rfl⟩:∃n:Nat,ZR=(n:Int):=⟨ZR.toNat,by omega⟩
   go_wp2_with fail;go_loopg [7] (n+1) (λg i wr=>∃(j q:Nat) (v1:ZB) (f:List TR),j+g=n+1/\q<=p+73+620*j/\f.length=j/\i=.int .i64 j/\Hid (SpB (I (Q w)) wr s v1 o f)/\Hid (SpG o f)/\Hid (Rd wr R q)/\Hid (Only R w wr));case atStart=>exact⟨0,_,_,[],by omega,by omega,rfl,rfl,C1,GG,R1,O1⟩
   case round =>
    obtain⟨j,q2,v1,f,hj2,GJ,th,rfl,ZQ,G2,R2,O2⟩:=hrel;obtain⟨a1,c1,rfl⟩:=aL ZQ.j.x;by_cases hjn:j<n+1
    ·have ZJ:Hid (f.length=j):=th;have hrn:f.length<=8:=by omega
     clear th;have Gl:IntKind.i64.wrap ((j:Int)+1)=(j:Int)+1:=by rw[AI];omega
     go_wp2_with fail;refine(ik R q2 _ R2 (by omega)).mono ?_;rintro e D ⟨L,g,c,rfl,hI,Gw,hl2,hT,q3,hq3,ld,ZL⟩;have hlt2:=ZQ.lt;have hs3:=ZL.size;have C3:=ae (ZQ.ac ZL A);obtain⟨W4,qr⟩:∃W:M,D.alloc (J #[Y (T (N g 0 Z)) L.length c] 43)=W:=⟨_,rfl⟩
     obtain⟨B4,-,-⟩:=nb1 qr;have ro:=ae qr;clear qr;have P4:=ae (yF (base:=I (Q w)+2) (RT:=f) hI (by omega) (λr hr=>ZQ.j.ltg r hr) (by omega) ⟨Gw,by omega⟩ hT);have C4:=ae (C3.aa B4);have R4:=ae (ld.aa B4 ly);have O4:=ae ((O2.trans ZL).then (B4.mono (by omega)));have D4:Hid (DP4 w R s (Y a1 f.length c1) o f (I (Q D)) q3 W4):=by cases ro.out;exact⟨C4,⟨_,_,_,_,P4⟩,R4,O4,A⟩
     clear ld ZL hI hT C3 C4 P4 R4 O4;go_upto_region 15 with fail;rw[ro.out];clear ro;clear B4;go_cut [59] (λGq wx=>∃(b1:Bool) (q4:Nat),Gq=.bool b1/\(b1=true->0<j)/\q4<=q3+1/\Hid (DP4 w R s (Y a1 f.length c1) o f (I (Q D)) q4 wx));case first =>
      by_cases FP:0<(j:Int)
      {go_wp2_with fail;refine(aw R _ 5 _ D4.rd (by omega) (by omega) (by omega)).mono ?_;rintro e w5 ⟨z5,rfl,h50,h51,n9,bt⟩;have D5:=ae (D4.ac bt n9);clear n9 bt;go_wp2;go_meet;exact⟨_,_,rfl,λ_=>by omega,by omega,D5⟩};{go_wp2;go_meet;exact⟨_,_,rfl,λh=>by simp at h,by omega,D4⟩}
     case rest =>
     clear D4;obtain⟨b1,q4,rfl,Gz,Gn,D5⟩:=hcut;go_upto_if 59 with fail;go_cut [] (λwx=>∃q5:Nat,q5<=q4+1/\Hid (DP4 w R s (Y a1 f.length c1) o f (I (Q D)) q5 wx));case first =>
      cases b1 with
      |true =>
       have FP:0<(j:Int):=by have:=Gz rfl;omega
       obtain⟨gt,_,rfl,_⟩:=ZQ.j.atk (k:=0) (by have:=ZJ.out;omega);go_wp2_with fail;have E:Hid (∀V:M,(∀j,j<I (Q wc)->j≠R->V.heap[j]?=wc.heap[j]?)->V.heap[I (Q w)+1]?=T (J #[s,(Y (T (N gt 0 Z)) f.length c1)] 27 (0,0))/\z V (N (I (Q w)+1) 1 Z)=T (Y (T (N gt 0 Z)) f.length c1)):=λV hV=>by have h1:=(hV (I (Q w)+1) D5.C.lt (by omega)).trans D5.C.ab;exact⟨h1,by simp[World.cell?,h1]⟩
       refine aD (λV=>V.heap[I (Q w)+1]?=T (J #[s,(Y (T (N gt 0 Z)) f.length c1)] 27 (0,0))/\z V (N (I (Q w)+1) 1 Z)=T (Y (T (N gt 0 Z)) f.length c1)) 11 (by kernel_rfl) ?_;have ZN:=ae (E wc.drew (λj m _=>rfl));iterate 6
        refine aH 0 (v:=?_) rfl rfl (by kernel_rfl) (λ_ _ _ h=>h) rfl ?_ ZN ?_;rotate_left
        ·(rintro wz ⟨s0,s1⟩;go_simp)
         (try with_reducible rfl)
        (try simp only[Act.put,nzL])
       refine ai (i:=6) rfl (by kernel_rfl) λK b=>?_;go_simp;go_at_call 40;refine(aw R _ (f.length:Int) _ (D5.rd.aa br.drew ly) (by omega) (by have:=ZJ.out;omega) (by omega)).mono ?_;rintro e w6 ⟨z6,rfl,F9,Ge,mv,ex⟩;obtain⟨k6,rfl⟩:∃k6:Nat,z6=(k6:Int):=⟨z6.toNat,by omega⟩
       have Fd:k6<f.length:=by omega
       have ZI:Hid (Only R wc w6):=(Only.q br.drew).trans ex;have ZK:=ae (D5.ac ZI mv);clear mv ex;have S6:=ae (E w6 (λj m ZO=>ZI.block j m ZO));obtain⟨Gr,r6,At,Gi,ph,Gm,Gj,n8⟩:=ZK.C.j.atk Fd;have ur:=ae n8;have M6:=ae ph;clear n8 ph;injection At with e1;injection e1 with e2;subst e2;refine b _ _ (λ_=>S6) ?_;clear b K ZN
       (try simp only[Act.put,nzL])
       iterate 3
        refine bH 7 rfl rfl (by kernel_rfl) λK b=>?_;go_simp;refine b _ _ (λ_=>S6) ?_;clear b K
        (try simp only[Act.put,nzL])
       refine ai (i:=10) rfl (by kernel_rfl) λK b=>?_;go_simp;go_at_call 93;refine(gX _ _ _ r6.1.D _ (by have:=(G2.t r6 M6).2.1.2;omega) ur).mono ?_;rintro e w7 ⟨g7,c7,rfl,FQ,sm⟩;have Fk:=G2.t r6 M6.out;obtain⟨gp,cp,mp,fp,l⟩:=(ZK.aa sm).P;have D7:=ae (ZK.aa sm);have P8:=ae (l.put FQ (by have:=ZK.C.lt;omega) (λr hr=>ZK.C.j.ltg r hr) Fk.2.1 Fk.2.2);have S7:=ae (E w7 (λj m ZO=>(sm.block j (lj m ZI.size)).trans (ZI.block j m ZO)));have k7:=l.ad.c0;have z7:=l.ad.fz 0;have l7:=l.ad.lt;have Gy:=l.lo;have B8:=ae ((cM (I (Q D)) w7).setCell (p:=(N (I (Q D)) 0 Z)) ly (Y (T (N g7 0 Z)) r6.1.m c7));have D8:Hid (DP4 w R s (Y (T (N gt 0 Z)) f.length c1) o f (I (Q D)) _ (w7.setCell (N (I (Q D)) 0 Z) (Y (T (N g7 0 Z)) r6.1.m c7))):=⟨D7.C.putP l.ad Gy (Y (T (N g7 0 Z)) r6.1.m c7),⟨_,_,_,_,P8⟩,D7.rd.low B8 (by omega),D7.O.then (B8.mono (by omega)),A⟩
       clear FQ sm Fk l P8 B8;refine b _ _ (λ_=>S7) ?_;clear b K
       (try simp only[Act.put,nzL])
       refine ai (i:=11) rfl (by kernel_rfl) λK b=>?_;go_simp;refine b _ _ (λh=>absurd rfl h) ?_;clear b K k7 z7
       (try simp only[Act.put,nzL])
       refine aT (by kernel_rfl) ?_ _;go_wp2;go_meet;exact⟨_,by omega,D8⟩
      |false =>go_wp2;go_meet;exact⟨q4,by omega,D5⟩
     case rest =>
     clear D5;obtain⟨q5,hq5,ZK⟩:=hcut;go_wp2_with fail;refine(aw R _ 2 _ ZK.rd (by omega) (by omega) (by omega)).mono ?_;rintro e w9 ⟨z9,rfl,h90,h91,FM,FU⟩;have D9:=ae (ZK.ac FU FM);clear FM FU ZK;go_upto_if 73 with fail;go_cut [9] (λ_ wx=>∃q8:Nat,q8<=q5+12/\Hid (DP4 w R s (Y a1 f.length c1) o f (I (Q D)) q8 wx));case first =>
      by_cases F8:z9=0
      ·subst F8;go_upto_if 75 with fail;go_cut [9] (λs9 wx=>∃(nm:ByteArray) (q6:Nat),s9=U nm/\nm.size<=5000/\q6<=q5+2/\Hid (DP4 w R s (Y a1 f.length c1) o f (I (Q D)) q6 wx));case first =>
        by_cases FP:0<(j:Int)
        ·obtain⟨gt,_,rfl,_⟩:=ZQ.j.atk (k:=0) (by have:=ZJ.out;omega);go_wp2_with fail;have E:Hid (∀V:M,(∀j,j<I (Q w9)->j≠R->V.heap[j]?=w9.heap[j]?)->V.heap[I (Q w)+1]?=T (J #[s,(Y (T (N gt 0 Z)) f.length c1)] 27 (0,0))/\z V (N (I (Q w)+1) 1 Z)=T (Y (T (N gt 0 Z)) f.length c1)):=λV hV=>by have h1:=(hV (I (Q w)+1) D9.C.lt (by omega)).trans D9.C.ab;exact⟨h1,by simp[World.cell?,h1]⟩
         refine aD (λV=>V.heap[I (Q w)+1]?=T (J #[s,(Y (T (N gt 0 Z)) f.length c1)] 27 (0,0))/\z V (N (I (Q w)+1) 1 Z)=T (Y (T (N gt 0 Z)) f.length c1)) 10 (by kernel_rfl) ?_;have ZN:=ae (E w9.drew (λj m _=>rfl));iterate 6
          refine aH 0 (v:=?_) rfl rfl (by kernel_rfl) (λ_ _ _ h=>h) rfl ?_ ZN ?_;rotate_left
          ·(rintro wz ⟨s0,s1⟩;go_simp)
           (try with_reducible rfl)
          (try simp only[Act.put,nzL])
         refine ai (i:=6) rfl (by kernel_rfl) λK b=>?_;go_simp;go_at_call 40;refine(aw R _ (f.length:Int) _ (D9.rd.aa br.drew ly) (by omega) (by have:=ZJ.out;omega) (by omega)).mono ?_;rintro e w6 ⟨z6,rfl,F9,Ge,mv,ex⟩;obtain⟨k6,rfl⟩:∃k6:Nat,z6=(k6:Int):=⟨z6.toNat,by omega⟩
         have Fd:k6<f.length:=by omega
         have ZI:Hid (Only R w9 w6):=(Only.q br.drew).trans ex;have ZK:=ae (D9.ac ZI mv);clear mv ex;have S6:=ae (E w6 (λj m ZO=>ZI.block j m ZO));obtain⟨Gr,r6,At,Gi,ph,Gm,Gj,n8⟩:=ZK.C.j.atk Fd;have ur:=ae n8;have M6:=ae ph;clear n8 ph;injection At with e1;injection e1 with e2;subst e2;refine b _ _ (λ_=>S6) ?_;clear b K ZN
         (try simp only[Act.put,nzL])
         iterate 3
          refine bH 7 rfl rfl (by kernel_rfl) λK b=>?_;go_simp;refine b _ _ (λ_=>S6) ?_;clear b K
          (try simp only[Act.put,nzL])
         refine ai (i:=10) rfl (by kernel_rfl) λK b=>?_;go_simp;refine b _ _ (λh=>absurd rfl h) ?_;have Bk:=(G2.t r6 M6).1;clear b K E S6 ur M6
         (try simp only[Act.put,nzL])
         refine aT (by kernel_rfl) ?_ _;go_wp2;go_meet;exact⟨r6.1.e,_,rfl,Bk,by omega,ZK⟩
        {go_wp2;go_meet;exact⟨⟨#[97]⟩,_,rfl,by decide,by omega,D9⟩}
       case rest =>
       clear D9;obtain⟨nm,q6,rfl,Bk,hq6,GE⟩:=hcut;go_wp2_with fail;refine(bj _ _).mono ?_;rintro e wa ⟨rfl,H⟩;have Da:=ae (GE.aa H);clear H;go_wp2_with fail;refine(ba 12 _).mono ?_;rintro e wb ⟨rfl,H⟩;have Db:=ae (Da.aa H);clear H Da;go_wp2_with fail;refine(fO R _ _ Db.rd (by omega)).mono ?_;rintro e wd ⟨tc,rfl,htc,qc,hqc,hR,hO⟩;have Dd:=ae (Db.ac hO hR);clear hO hR Db;go_wp2_with fail;refine(bj tc _).mono ?_;rintro e we ⟨rfl,H⟩;have De:=ae (Dd.aa H);clear H Dd;go_wp2_with fail;refine(ba 2 _).mono ?_;rintro e wf ⟨rfl,H⟩;have Df:=ae (De.aa H);clear H De;go_wp2_with fail;refine(aw R _ 9 _ Df.rd (by omega) (by omega) (by omega)).mono ?_;rintro e wg ⟨zf,rfl,hf0,hf1,hR,hO⟩;have Dg:=ae (Df.ac hO hR);clear hO hR Df;go_wp2_with fail;refine(bB 3 _ _).mono ?_;rintro e wi ⟨rfl,H⟩;have Di:=ae (Dg.aa H);clear H Dg;go_wp2_with fail;refine(ba 15 _).mono ?_;rintro e wh ⟨rfl,H⟩;have Dh:=ae (Di.aa H);clear H Di;obtain⟨gp,cp,mp,fp,l⟩:=Dh.P;have kh:=l.ad.c0;have zh:=l.ad.fz 0;have lh:=l.ad.lt;have Gh:=ae (l.six (λr hr=>Dh.C.j.ltg r hr) (by have:=Dh.C.lt;omega) nm tc (1+zf) Bk (by omega));have FY:(wh.setCell (N (I (Q D)) 0 Z) (Y (T (N (I (Q wh)) 0 Z)) 6 6)).heap.size=I (Q wh):=by simp
       have lo10:=l.lo;have Ba:=ae (((cM (I (Q D)) wh).setCell (p:=(N (I (Q D)) 0 Z)) ly (Y (T (N (I (Q wh)) 0 Z)) 6 6)).alloc (by rw[FY];omega) (J (pw nm tc (1+zf)) 151));have Gc:=ae ((Dh.C.putP l.ad l.lo (Y (T (N (I (Q wh)) 0 Z)) 6 6)).aa (br.alloc ly (J (pw nm tc (1+zf)) 151)));have Gs:=ae (Dh.rd.low Ba (by omega));have Gv:=ae (Dh.O.then (Ba.mono (by omega)));clear Ba l FY;go_wp2;go_meet;exact⟨_,by omega,Gc,⟨_,_,_,_,Gh⟩,Gs,Gv,A⟩
      {go_wp2;go_meet;exact⟨_,by omega,D9⟩}
     case rest =>
     clear D9;obtain⟨q8,hq8,S⟩:=hcut;go_wp2_with fail;obtain⟨gp,cp,mp,fp,l⟩:=S.P;have PP:=ae l;clear l;have E:Hid (∀V:M,(∀j,j<I (Q wc)->T j≠(Value.slice a1 f.length c1).ownBlock->V.heap[j]?=wc.heap[j]?)->V.heap[I (Q w)+1]?=T (J #[s,Y a1 f.length c1] 27 (0,0))/\z V (N (I (Q w)+1) 1 Z)=T (Y a1 f.length c1)/\z V (N (I (Q D)) 0 Z)=T (Y (T (N gp 0 Z)) mp cp)):=λV hV=>by
      have h1:=(hV (I (Q w)+1) S.C.lt λe=>by have:=(S.C.j.x.lt _ e.symm).1;omega).trans S.C.ab
      have h2:PB V (I (Q D)) (Y (T (N gp 0 Z)) mp cp):=(hV (I (Q D)) PP.ad.lt λe=>by
       obtain⟨cur,F7⟩:=S.C.j.type _ e.symm;have h3:=PP.ad.symm.trans F7
       cases h3).trans PP.ad
      exact⟨h1,by simp[World.cell?,h1],h2.c0⟩
     refine aD (λV=>V.heap[I (Q w)+1]?=T (J #[s,Y a1 f.length c1] 27 (0,0))/\z V (N (I (Q w)+1) 1 Z)=T (Y a1 f.length c1)/\z V (N (I (Q D)) 0 Z)=T (Y (T (N gp 0 Z)) mp cp)) 10 (by kernel_rfl) ?_;have ZN:=ae (E wc.drew (λj m _=>rfl));iterate 3
      refine aH 0 (v:=?_) rfl rfl (by kernel_rfl) (λ_ _ _ h=>h) rfl ?_ ZN ?_;rotate_left
      ·(rintro wz ⟨s0,s1,s2⟩;go_simp)
       (try with_reducible rfl)
      (try simp only[Act.put,nzL])
     refine aH 5 (v:=?_) rfl rfl (by kernel_rfl) (λ_ _ _ h=>h) rfl ?_ ZN ?_;rotate_left
     ·(rintro wz ⟨s0,s1,s2⟩;go_simp)
      (try with_reducible rfl)
     (try simp only[Act.put,nzL])
     refine ai (i:=3) rfl (by kernel_rfl) λK b=>?_;go_simp;go_at_call 104;refine(jm j (by omega) _).mono ?_;rintro e wt ⟨rfl,FV⟩;have BT:Hid (Below (I (Q wc)) wc wt):=(BS wc).drew.trans FV;clear FV;refine b _ _ (λ_=>E _ (λj m _=>BT.block j m)) ?_;clear b K ZN
     (try simp only[Act.put,nzL])
     refine ai (i:=4) rfl (by kernel_rfl) λK b=>?_;go_simp;refine b _ _ (λ_=>E _ (λj m _=>BT.block j m)) ?_;clear b K
     (try simp only[Act.put,nzL])
     have FX:((⟨#[116]⟩:ByteArray)++⟨#[dig j]⟩).size<=5000:=by have e1:(⟨#[116]⟩:ByteArray).size=1:=rfl;have e2:(⟨#[dig j]⟩:ByteArray).size=1:=rfl;simp only[KO,e1,e2];omega
     generalize (⟨#[116]⟩:ByteArray)++⟨#[dig j]⟩=tn at FX ⊢;refine ai (i:=6) rfl (by kernel_rfl) λK b=>?_;go_simp;refine b _ _ (λ_=>E _ (λj m _=>BT.block j m)) ?_;clear b K
     (try simp only[Act.put,nzL])
     refine ai (i:=7) rfl (by kernel_rfl) λK b=>?_;go_simp;have Gb:=S.C.lt;have hzt:=BT.size;have ZM:=ae (BT.alloc (by omega) (J #[U tn,Y (T (N gp 0 Z)) mp cp] 146));have FK:=ae (S.C.aa ZM);have FZ:=ae (PP.aa ZM ly);have Gp:=ZM.size;refine b _ _ (λ_=>E _ (λj m _=>ZM.block j m)) ?_;clear b K
     (try simp only[Act.put,nzL])
     refine ai (i:=8) rfl (by kernel_rfl) λK b=>?_;refine aW rfl (.tmp 101) (.tmp 107) 25 rfl (I (Q w)+2) 146 Gt (ZG #[U ⟨#[]⟩,Y Z 0 0]) 2 40 J9 m Gf GC Gk rfl (by decide) (Y a1 f.length c1) f.length (f.flatMap aS) (by simp[Act.eval]) FK.j.x (N (I (Q wt)) 0 Z) 1 1 (aS (⟨tn,mp,fp⟩,gp,cp)) (by simp[Act.eval]) rfl (λj u hu=>cL wt _ _ _ j u hu) (by simp[aS,Value.oneCell']) (by unfold maxLen;omega) (by omega) (by omega) ?_;intro v' w7 ZP B _;obtain⟨a7,c7,rfl⟩:=aL ZP;have S7:=ae (E w7 (λj m ZO=>(B.block j (lj m ZM.size) ZO).trans (ZM.block j m)));obtain⟨c8,b8⟩:=FK.addT (x:=⟨tn,mp,fp⟩) (g:=gp) (c:=cp) FZ.new FZ.x ZP B;have Gg:=ae c8;have Gu:=ae b8;clear ZP B c8 b8;refine b _ _ (λ_=>S7) ?_;clear b K
     (try simp only[Act.put,nzL])
     refine ai (i:=9) rfl (by kernel_rfl) λK b=>?_;go_simp;refine b _ _ (λ_=>S7) ?_;clear b K
     (try simp only[Act.put,nzL])
     obtain⟨s7,t7,y7⟩:=S7.out;have f7:w7.frozen? (N (I (Q w)+1) 1 Z)=ZA:=by simp[World.frozen?,s7]
     have l7:=ar s7;clear s7 y7;refine ai (i:=10) rfl (by kernel_rfl) λK b=>?_;go_simp;refine b _ _ (λh=>absurd rfl h) ?_;clear b K
     (try simp only[Act.put,nzL])
     refine aT (by kernel_rfl) ?_ _;go_wp2;have BB:=ae ((ZM.mono (show (I (Q w))+1<=I (Q wc) by omega)).trans Gu.out);go_roundg (n - j);case measure=>omega
     case rel=>exact⟨j+1,q8,Y a7 (f.length+1) c7,f++[((⟨tn,mp,fp⟩,gp,cp):TR)],by omega,by omega,by rw[eL,ZJ.out];rfl,by go_num,Gg,G2.addT (r:=(⟨tn,mp,fp⟩,gp,cp)) FX PP.num PP.sz,S.rd.low BB (by omega),S.O.then (BB.mono (JH _))⟩
    ·obtain rfl:j=n+1:=by omega
     obtain⟨a0,c0,rfl⟩:=aL ZQ.src;obtain⟨k0,k1⟩:=ZQ.cells;have kr:=ZQ.res;have r0:z wr (N (I (Q w)) 0 Z)=T (Y Z 0 0):=by simp[World.cell?,kr]
     have r1:z wr (N (I (Q w)) 1 Z)=T (Y Z 0 0):=by simp[World.cell?,kr]
     have f0:wr.frozen? (N (I (Q w)) 0 Z)=ZA:=by simp[World.frozen?,kr]
     have f1:wr.frozen? (N (I (Q w)) 1 Z)=ZA:=by simp[World.frozen?,kr]
     have l0:=ar kr;have l1:=ZQ.lt;clear kr;have BE:=ae (((cM (I (Q w)) wr).setCell (p:=(N (I (Q w)) 0 Z)) ly (Y a0 o.length c0)).setCell (p:=(N (I (Q w)) 1 Z)) ly (Y a1 f.length c1));have OE:=ae (aO (aO ZQ.src (R:=I (Q w)) (j:=0) (by omega) (Y a0 o.length c0)) (R:=I (Q w)) (j:=1) (by omega) (Y a1 f.length c1));have TE:=ae ((ZQ.j.set (X:=I (Q w)) (j:=0) (by omega) (Y a0 o.length c0)).set (X:=I (Q w)) (j:=1) (by omega) (Y a1 f.length c1));have ZJ:Hid (f.length=n+1):=th;clear th;go_wp2;exact bp (v:=ZG #[Y a0 o.length c0,Y a1 f.length c1]) (by simp[results,results95,go_sem,r0,r1]) rfl ⟨o,f,_,_,rfl,OE,TE,G2,by omega,by have:=ZJ.out;omega,q2,by omega,R2.low BE A,O2.then BE⟩
