import Derived.Test.YtamacmnikdejeaaGreatDoorMA
import Derived.Test.YtamacmnikdejeaaGreatDoorLU
import Derived.Deep.LoopGhost
set_option maxRecDepth 100000
set_option maxHeartbeats 8000000
open Go renaming Addr.mk->Q,Value.slice->Y,Value.string->U,Value.agg->ZG,Obj.cells->N,World->E,Value->ZB,World.heap->J,World.cell?->z
open Option renaming none->Z,some->T
open Bool renaming false->ZA
open Array renaming size->I
namespace Go.Proofs.YtamacmnikdejeaaGreatDoor.Vp
open Tryz RowKit Ca
variable {w W:E}{R b q:Nat}{p:ZB}{l:List Source}
def DSp (w:E)(R q m l:Nat)(e:Ending)(f:E):Prop:=∃(b:List Source) (g:List TR) (i j:ZB),e=.returned (ZG #[i,j])/\f.ownsRow (I (J w)+2) 121 2 i b.length (b.flatMap bC)/\TRow f (I (J w)+2) j g/\SpG b g/\b.length<=m/\g.length<=l/\∃h:Nat,h<=q/\Rd f R h/\Only R w f
def oR (k:Nat):ByteArray:=(⟨#[97,98,99,100,101,102]⟩:ByteArray).extract k (k+1)
theorem Ao:∀k,k<6->(oR k).size=1:=by decide
structure DP4 (w:E)(R:Nat)(v0 v1:ZB)(LS:List Source)(RT:List TR)(b q:Nat)(W:E):Prop where
 C:SpB (I (J w)) W v0 v1 LS RT
 P:∃g c n f,PrG (I (J w)+2) W RT b g c n f
 rd:Rd W R q
 O:Only R w W
 low:R<I (J w)
theorem DP4.ac{i:E}{m:Nat}{o:ZB}{r:List TR}(h:DP4 w R o p l r b q W)(j:Only R W i)(hR:Rd i R m):DP4 w R o p l r b m i:=by have hl:=h.low;obtain⟨g,c,n,f,s⟩:=h.P;exact⟨h.C.ac j h.low,⟨g,c,n,f,s.ac j (by omega)⟩,hR,h.O.trans j,h.low⟩
theorem DP4.aa{j:E}{m:ZB}{o:List TR}(h:DP4 w R m p l o b q W)(i:Below (I (J W)) W j):DP4 w R m p l o b q j:=by obtain⟨g,c,n,f,r⟩:=h.P;exact⟨h.C.aa i,⟨g,c,n,f,r.aa i ly⟩,h.rd.aa i ly,h.O.then (i.mono h.O.size),h.low⟩
theorem yF (R p:Nat)(w:E)(hR:Rd w R p)(hp:p<=10000):Calls Tryz.prog 94 #[.pointer (T (Q R 0 Z))] w λe w'=>DSp w R (p+5100) 6 8 e w':=by
 have HR:=ae hR;have s:=hR.lt;clear hR;have C0:=ae (Fq w);obtain⟨W,DE⟩:∃W:E,(w.alloc (N #[Y Z 0 0,Y Z 0 0] 29)).alloc (N #[Y Z 0 0,Y Z 0 0] 29)=W:=⟨_,rfl⟩
 obtain⟨B0,-,-,-⟩:=nb2 DE;have Hg:=ae DE;clear DE;obtain⟨Hq,hi,H6,Hu,Ig⟩:=KZ iH;obtain⟨Hm,m,Hx,Hr,Ik⟩:=KZ fA;go_enter func94,ntmps94;go_wp2_with fail;rw[Hg.out] at C0 ⊢;clear Hg;have R0:=ae (HR.aa B0 ly);have O0:Hid (Only R w W):=Only.q B0;go_loopg [4] 6 (λg i wr=>∃(k q:Nat) (A:ZB) (o:List Source),k+g=6/\q<=p+12*k/\o.length<=k/\i=.int .i64 k/\Hid (SpB (I (J w)) wr A (Y Z 0 0) o [])/\Hid (SpG o [])/\Hid (Rd wr R q)/\Hid (Only R w wr));case atStart=>exact⟨0,p,_,[],by omega,by omega,nX _,rfl,C0,Fp,R0,O0⟩
 case round =>
  obtain⟨k,q,A,o,hk,hq,Io,rfl,CC,GG,RR,OO⟩:=hrel;by_cases Ip:k<6
  ·have Ih:IntKind.i64.wrap ((k:Int)+1)=(k:Int)+1:=by rw[p9];omega
   go_wp2_with fail;refine(ay R q 5 _ RR (by omega) (by omega) (by omega)).mono ?_;rintro e w1 ⟨ZR,rfl,Hj,Hh,ld,ZI⟩;have C1:=ae (CC.ac ZI s);have R1:=ae ld;have O1:=ae (OO.trans ZI);clear ld ZI;by_cases hz:0<ZR
   ·go_wp2_with fail;refine(gG R _ _ R1 (by omega)).mono ?_;rintro e w2 ⟨t,rfl,ht,q2,Ie,Hb,At⟩;have ZM:=ae (C1.ac At s);have R2:=ae Hb;have O2:=ae (O1.trans At);clear Hb At;go_wp2_with fail;refine(ay R _ 2 _ R2 (by omega) (by omega) (by omega)).mono ?_;rintro e D ⟨y,rfl,hy0',hy1',fd,S⟩;have C3:=ae (ZM.ac S s);have R3:=ae fd;have O3:=ae (O2.trans S);clear fd S;go_upto_if 22 with fail;go_cut [5] (λs5 ZJ=>∃(tx:ByteArray) (q4:Nat),s5=U tx/\tx.size<=5000/\q4<=q2+3/\Hid (SpB (I (J w)) ZJ A (Y Z 0 0) o [])/\Hid (Rd ZJ R q4)/\Hid (Only R w ZJ));case first =>
     by_cases hy:y=0
     ·subst hy;go_wp2_with fail;refine(dS R _ _ R3 (by omega)).mono ?_;rintro e w4 ⟨s1,rfl,hs1,He,th⟩;have C4:=ae (C3.ac th s);have R4:=ae He;have O4:=ae (O3.trans th);clear He th;go_wp2_with fail;refine(dS R _ _ R4 (by omega)).mono ?_;rintro e w5 ⟨s2,rfl,hs2,ex,bt⟩;have C5:=ae (C4.ac bt s);have R5:=ae ex;have O5:=ae (O4.trans bt);clear ex bt;have Bk:(s1++⟨#[32]⟩++s2++⟨#[32]⟩++t).size<=5000:=by have e:(⟨#[32]⟩:ByteArray).size=1:=rfl;simp only[MO,e];omega
      go_wp2;go_meet;exact⟨_,_,rfl,Bk,by omega,C5,R5,O5⟩
     {go_wp2;go_meet;exact⟨t,_,rfl,by omega,by omega,C3,R3,O3⟩}
    case rest =>
    clear C3 R3 O3;obtain⟨tx,q4,rfl,Bk,Id,C5,R5,O5⟩:=hcut;go_wp2_with fail;have ZQ:Hid (∀V:E,(∀j,j<I (J wc)->T j≠A.ownBlock->V.heap[j]?=wc.heap[j]?)->V.heap[I (J w)+1]?=T (N #[A,Y Z 0 0] 29 (0,0))/\z V (Q (I (J w)+1) 0 Z)=T A):=λV hV=>by have h1:=(hV (I (J w)+1) C5.lt λe=>by have:=(C5.src.lt _ e.symm).1;omega).trans C5.l;exact⟨h1,by simp[World.cell?,h1]⟩
    refine aH (λV=>V.heap[I (J w)+1]?=T (N #[A,Y Z 0 0] 29 (0,0))/\z V (Q (I (J w)+1) 0 Z)=T A) 11 (by kernel_rfl) ?_;have M:=ae (ZQ wc.drew (λj m _=>rfl));iterate 5
     refine aK 0 (v:=?_) rfl rfl (by kernel_rfl) (λ_ _ _ h=>h) rfl ?_ M ?_;rotate_left
     ·(rintro wz ⟨s0,s1⟩;go_simp)
      (try with_reducible rfl)
     (try simp only[Act.put,nzL])
    refine fu (i:=5) (v:=U (oR k)) rfl (by kernel_rfl) (by kernel_rfl) (by kernel_rfl) (by kernel_rfl) (λ_ _ _ h=>h) rfl ?_ M ?_;{intro wz _;go_simp;rw[j6 ⟨by omega,by omega⟩,j6 (by omega)];rfl}
    (try simp only[Act.put,nzL])
    iterate 2
     refine aK 6 (v:=?_) rfl rfl (by kernel_rfl) (λ_ _ _ h=>h) rfl ?_ M ?_;rotate_left
     ·(rintro wz ⟨s0,s1⟩;go_simp)
      (try with_reducible rfl)
     (try simp only[Act.put,nzL])
    refine aj (i:=8) rfl (by kernel_rfl) λK b=>?_;go_simp;have Im:=C5.lt;have AB:=ae (((BS wc).alloc ly (N #[U (oR k),U tx] 121)).drew);have C6:=ae (C5.aa AB);have Hw:=AB.size;refine b _ _ (λ_=>ZQ _ (λj m _=>AB.block j m)) ?_;clear b K M
    (try simp only[Act.put,nzL])
    refine aj (i:=9) rfl (by kernel_rfl) λK b=>?_;refine aW rfl (.tmp 33) (.tmp 40) 26 rfl (I (J w)+2) 121 Hq (ZG #[U ⟨#[]⟩,U ⟨#[]⟩]) 2 32 MW hi H6 Hu Ig rfl (by decide) A o.length (o.flatMap bC) (by simp[Act.eval]) C6.src (Q (I (J wc)) 0 Z) 1 1 (bC ⟨oR k,tx⟩) (by simp[Act.eval]) rfl (λj u hu=>cT wc _ _ _ j u hu) (by simp[bC,Value.oneCell']) (by unfold maxLen;omega) (by omega) (by omega) ?_;intro v' w7 ZP B _;obtain⟨a7,c7,rfl⟩:=aQ ZP;have S7:=ae (ZQ w7 (λj m ZN=>(B.block j (lj m AB.size) ZN).trans (AB.block j m)));obtain⟨c8,b8⟩:=C6.addS ZP B;have C8:=ae c8;have B8:=ae b8;clear ZP B c8 b8;refine b _ _ (λ_=>S7) ?_;clear b K
    (try simp only[Act.put,nzL])
    refine aj (i:=10) rfl (by kernel_rfl) λK b=>?_;go_simp;refine b _ _ (λ_=>S7) ?_;clear b K
    (try simp only[Act.put,nzL])
    obtain⟨s7,t7⟩:=S7.out;have f7:w7.frozen? (Q (I (J w)+1) 0 Z)=ZA:=by simp[World.frozen?,s7]
    have l7:=ar s7;clear s7;refine aj (i:=11) rfl (by kernel_rfl) λK b=>?_;go_simp;refine b _ _ (λh=>absurd rfl h) ?_;clear b K
    (try simp only[Act.put,nzL])
    refine be (by kernel_rfl) ?_ _;go_wp2;have BB:=ae ((AB.mono (show (I (J w))+1<=I (J wc) by omega)).trans B8.out);go_roundg (5 - k);case measure=>omega
    case rel=>exact⟨k+1,q4,Y a7 (o.length+1) c7,o++[(⟨oR k,tx⟩:Source)],by omega,by omega,by rw[eL];exact Nat.succ_le_succ Io,by go_num,C8,GG.addS (x:=⟨oR k,tx⟩) (by show(oR k).size<=5000;rw[Ao k Ip];omega) Bk,R5.low BB (by omega),O5.then (BB.mono (D0 _))⟩
   ·go_wp2;go_roundg (5 - k);case measure=>omega
    case rel=>exact⟨k+1,_,A,o,by omega,by omega,by omega,by go_num,C1,GG,R1,O1⟩
  ·obtain rfl:k=6:=by omega
   go_wp2_with fail;refine(ay R q 8 _ RR (by omega) (by omega) (by omega)).mono ?_;rintro e w1 ⟨ZR,rfl,Hj,Hh,ld,ZI⟩;have C1:=ae (CC.ac ZI s);have R1:=ae ld;have O1:=ae (OO.trans ZI);clear ld ZI;obtain⟨n,rfl⟩:∃n:Nat,ZR=(n:Int):=⟨ZR.toNat,by omega⟩
   go_wp2_with fail;go_loopg [7] (n+1) (λg i wr=>∃(j q:Nat) (v1:ZB) (f:List TR),j+g=n+1/\q<=p+73+620*j/\f.length=j/\i=.int .i64 j/\Hid (SpB (I (J w)) wr A v1 o f)/\Hid (SpG o f)/\Hid (Rd wr R q)/\Hid (Only R w wr));case atStart=>exact⟨0,_,_,[],by omega,by omega,rfl,rfl,C1,GG,R1,O1⟩
   case round =>
    obtain⟨j,q2,v1,f,hj2,Ie,ph,rfl,ZM,G2,R2,O2⟩:=hrel;obtain⟨a1,c1,rfl⟩:=aQ ZM.w.y;by_cases hjn:j<n+1
    ·have aq:Hid (f.length=j):=ph;have hrn:f.length<=8:=by omega
     clear ph;have Ih:IntKind.i64.wrap ((j:Int)+1)=(j:Int)+1:=by rw[p9];omega
     go_wp2_with fail;refine(iG R q2 _ R2 (by omega)).mono ?_;rintro e D ⟨L,g,c,rfl,hI,Hz,hl2,hT,q3,hq3,fd,S⟩;have hlt2:=ZM.lt;have hs3:=S.size;have C3:=ae (ZM.ac S s);obtain⟨W4,n9⟩:∃W:E,D.alloc (N #[Y (T (Q g 0 Z)) L.length c] 43)=W:=⟨_,rfl⟩
     obtain⟨B4,-,-⟩:=nb1 n9;have n8:=ae n9;clear n9;have P4:=ae (Aj (base:=I (J w)+2) (RT:=f) hI (by omega) (λr hr=>ZM.w.ltg r hr) (by omega) ⟨Hz,by omega⟩ hT);have C4:=ae (C3.aa B4);have R4:=ae (fd.aa B4 ly);have O4:=ae ((O2.trans S).then (B4.mono (by omega)));have D4:Hid (DP4 w R A (Y a1 f.length c1) o f (I (J D)) q3 W4):=by cases n8.out;exact⟨C4,⟨_,_,_,_,P4⟩,R4,O4,s⟩
     clear fd S hI hT C3 C4 P4 R4 O4;go_upto_region 15 with fail;rw[n8.out];clear n8;clear B4;go_cut [59] (λHk ZJ=>∃(b1:Bool) (q4:Nat),Hk=.bool b1/\(b1=true->0<j)/\q4<=q3+1/\Hid (DP4 w R A (Y a1 f.length c1) o f (I (J D)) q4 ZJ));case first =>
      by_cases GS:0<(j:Int)
      {go_wp2_with fail;refine(ay R _ 5 _ D4.rd (by omega) (by omega) (by omega)).mono ?_;rintro e w5 ⟨z5,rfl,h50,h51,ex,bt⟩;have D5:=ae (D4.ac bt ex);clear ex bt;go_wp2;go_meet;exact⟨_,_,rfl,λ_=>by omega,by omega,D5⟩};{go_wp2;go_meet;exact⟨_,_,rfl,λh=>by simp at h,by omega,D4⟩}
     case rest =>
     clear D4;obtain⟨b1,q4,rfl,Hn,Id,D5⟩:=hcut;go_upto_if 59 with fail;go_cut [] (λZJ=>∃q5:Nat,q5<=q4+1/\Hid (DP4 w R A (Y a1 f.length c1) o f (I (J D)) q5 ZJ));case first =>
      cases b1 with
      |true =>
       have GS:0<(j:Int):=by have:=Hn rfl;omega
       obtain⟨gt,_,rfl,_⟩:=ZM.w.atk (k:=0) (by have:=aq.out;omega);go_wp2_with fail;have ZQ:Hid (∀V:E,(∀j,j<I (J wc)->j≠R->V.heap[j]?=wc.heap[j]?)->V.heap[I (J w)+1]?=T (N #[A,(Y (T (Q gt 0 Z)) f.length c1)] 29 (0,0))/\z V (Q (I (J w)+1) 1 Z)=T (Y (T (Q gt 0 Z)) f.length c1)):=λV hV=>by have h1:=(hV (I (J w)+1) D5.C.lt (by omega)).trans D5.C.l;exact⟨h1,by simp[World.cell?,h1]⟩
       refine aH (λV=>V.heap[I (J w)+1]?=T (N #[A,(Y (T (Q gt 0 Z)) f.length c1)] 29 (0,0))/\z V (Q (I (J w)+1) 1 Z)=T (Y (T (Q gt 0 Z)) f.length c1)) 11 (by kernel_rfl) ?_;have M:=ae (ZQ wc.drew (λj m _=>rfl));iterate 6
        refine aK 0 (v:=?_) rfl rfl (by kernel_rfl) (λ_ _ _ h=>h) rfl ?_ M ?_;rotate_left
        ·(rintro wz ⟨s0,s1⟩;go_simp)
         (try with_reducible rfl)
        (try simp only[Act.put,nzL])
       refine aj (i:=6) rfl (by kernel_rfl) λK b=>?_;go_simp;go_at_call 33;refine(ay R _ (f.length:Int) _ (D5.rd.aa br.drew ly) (by omega) (by have:=aq.out;omega) (by omega)).mono ?_;rintro e w6 ⟨z6,rfl,Ii,Iq,la,mv⟩;obtain⟨k6,rfl⟩:∃k6:Nat,z6=(k6:Int):=⟨z6.toNat,by omega⟩
       have DQ:k6<f.length:=by omega
       have ZK:Hid (Only R wc w6):=(Only.q br.drew).trans mv;have ZL:=ae (D5.ac ZK la);clear la mv;have S6:=ae (ZQ w6 (λj m ZN=>ZK.block j m ZN));obtain⟨H9,r6,DS,Il,n6,Ho,Hl,n7⟩:=ZL.C.w.atk DQ;have sm:=ae n7;have M6:=ae n6;clear n7 n6;injection DS with e1;injection e1 with e2;subst e2;refine b _ _ (λ_=>S6) ?_;clear b K M
       (try simp only[Act.put,nzL])
       iterate 3
        refine bU 7 rfl rfl (by kernel_rfl) λK b=>?_;go_simp;refine b _ _ (λ_=>S6) ?_;clear b K
        (try simp only[Act.put,nzL])
       refine aj (i:=10) rfl (by kernel_rfl) λK b=>?_;go_simp;go_at_call 67;refine(iA _ _ _ r6.1.u _ (by have:=(G2.t r6 M6).2.1.2;omega) sm).mono ?_;rintro e w7 ⟨g7,c7,rfl,G8,qr⟩;have ur:=G2.t r6 M6.out;obtain⟨gp,cp,mp,fp,l⟩:=(ZL.aa qr).P;have D7:=ae (ZL.aa qr);have P8:=ae (l.put G8 (by have:=ZL.C.lt;omega) (λr hr=>ZL.C.w.ltg r hr) ur.2.1 ur.2.2);have S7:=ae (ZQ w7 (λj m ZN=>(qr.block j (lj m ZK.size)).trans (ZK.block j m ZN)));have k7:=l.ab.c0;have z7:=l.ab.fz 0;have l7:=l.ab.lt;have Ib:=l.lo;have B8:=ae ((cM (I (J D)) w7).setCell (p:=(Q (I (J D)) 0 Z)) ly (Y (T (Q g7 0 Z)) r6.1.h c7));have D8:Hid (DP4 w R A (Y (T (Q gt 0 Z)) f.length c1) o f (I (J D)) _ (w7.setCell (Q (I (J D)) 0 Z) (Y (T (Q g7 0 Z)) r6.1.h c7))):=⟨D7.C.putP l.ab Ib (Y (T (Q g7 0 Z)) r6.1.h c7),⟨_,_,_,_,P8⟩,D7.rd.low B8 (by omega),D7.O.then (B8.mono (by omega)),s⟩
       clear G8 qr ur l P8 B8;refine b _ _ (λ_=>S7) ?_;clear b K
       (try simp only[Act.put,nzL])
       refine aj (i:=11) rfl (by kernel_rfl) λK b=>?_;go_simp;refine b _ _ (λh=>absurd rfl h) ?_;clear b K k7 z7
       (try simp only[Act.put,nzL])
       refine be (by kernel_rfl) ?_ _;go_wp2;go_meet;exact⟨_,by omega,D8⟩
      |false =>go_wp2;go_meet;exact⟨q4,by omega,D5⟩
     case rest =>
     clear D5;obtain⟨q5,hq5,ZL⟩:=hcut;go_wp2_with fail;refine(ay R _ 2 _ ZL.rd (by omega) (by omega) (by omega)).mono ?_;rintro e w9 ⟨z9,rfl,h90,h91,Hd,Fm⟩;have D9:=ae (ZL.ac Fm Hd);clear Hd Fm ZL;go_upto_if 73 with fail;go_cut [9] (λ_ ZJ=>∃q8:Nat,q8<=q5+12/\Hid (DP4 w R A (Y a1 f.length c1) o f (I (J D)) q8 ZJ));case first =>
      by_cases H7:z9=0
      ·subst H7;go_upto_if 75 with fail;go_cut [9] (λs9 ZJ=>∃(nm:ByteArray) (q6:Nat),s9=U nm/\nm.size<=5000/\q6<=q5+2/\Hid (DP4 w R A (Y a1 f.length c1) o f (I (J D)) q6 ZJ));case first =>
        by_cases GS:0<(j:Int)
        ·obtain⟨gt,_,rfl,_⟩:=ZM.w.atk (k:=0) (by have:=aq.out;omega);go_wp2_with fail;have ZQ:Hid (∀V:E,(∀j,j<I (J w9)->j≠R->V.heap[j]?=w9.heap[j]?)->V.heap[I (J w)+1]?=T (N #[A,(Y (T (Q gt 0 Z)) f.length c1)] 29 (0,0))/\z V (Q (I (J w)+1) 1 Z)=T (Y (T (Q gt 0 Z)) f.length c1)):=λV hV=>by have h1:=(hV (I (J w)+1) D9.C.lt (by omega)).trans D9.C.l;exact⟨h1,by simp[World.cell?,h1]⟩
         refine aH (λV=>V.heap[I (J w)+1]?=T (N #[A,(Y (T (Q gt 0 Z)) f.length c1)] 29 (0,0))/\z V (Q (I (J w)+1) 1 Z)=T (Y (T (Q gt 0 Z)) f.length c1)) 10 (by kernel_rfl) ?_;have M:=ae (ZQ w9.drew (λj m _=>rfl));iterate 6
          refine aK 0 (v:=?_) rfl rfl (by kernel_rfl) (λ_ _ _ h=>h) rfl ?_ M ?_;rotate_left
          ·(rintro wz ⟨s0,s1⟩;go_simp)
           (try with_reducible rfl)
          (try simp only[Act.put,nzL])
         refine aj (i:=6) rfl (by kernel_rfl) λK b=>?_;go_simp;go_at_call 33;refine(ay R _ (f.length:Int) _ (D9.rd.aa br.drew ly) (by omega) (by have:=aq.out;omega) (by omega)).mono ?_;rintro e w6 ⟨z6,rfl,Ii,Iq,la,mv⟩;obtain⟨k6,rfl⟩:∃k6:Nat,z6=(k6:Int):=⟨z6.toNat,by omega⟩
         have DQ:k6<f.length:=by omega
         have ZK:Hid (Only R w9 w6):=(Only.q br.drew).trans mv;have ZL:=ae (D9.ac ZK la);clear la mv;have S6:=ae (ZQ w6 (λj m ZN=>ZK.block j m ZN));obtain⟨H9,r6,DS,Il,n6,Ho,Hl,n7⟩:=ZL.C.w.atk DQ;have sm:=ae n7;have M6:=ae n6;clear n7 n6;injection DS with e1;injection e1 with e2;subst e2;refine b _ _ (λ_=>S6) ?_;clear b K M
         (try simp only[Act.put,nzL])
         iterate 3
          refine bU 7 rfl rfl (by kernel_rfl) λK b=>?_;go_simp;refine b _ _ (λ_=>S6) ?_;clear b K
          (try simp only[Act.put,nzL])
         refine aj (i:=10) rfl (by kernel_rfl) λK b=>?_;go_simp;refine b _ _ (λh=>absurd rfl h) ?_;have ro:=(G2.t r6 M6).1;clear b K ZQ S6 sm M6
         (try simp only[Act.put,nzL])
         refine be (by kernel_rfl) ?_ _;go_wp2;go_meet;exact⟨r6.1.e,_,rfl,ro,by omega,ZL⟩
        {go_wp2;go_meet;exact⟨⟨#[97]⟩,_,rfl,by decide,by omega,D9⟩}
       case rest =>
       clear D9;obtain⟨nm,q6,rfl,ro,hq6,Ht⟩:=hcut;go_wp2_with fail;refine(bw _ _).mono ?_;rintro e wa ⟨rfl,H⟩;have Da:=ae (Ht.aa H);clear H;go_wp2_with fail;refine(bm 12 _).mono ?_;rintro e wb ⟨rfl,H⟩;have Db:=ae (Da.aa H);clear H Da;go_wp2_with fail;refine(gG R _ _ Db.rd (by omega)).mono ?_;rintro e wd ⟨tc,rfl,htc,qc,hqc,hR,hO⟩;have Dd:=ae (Db.ac hO hR);clear hO hR Db;go_wp2_with fail;refine(bw tc _).mono ?_;rintro e we ⟨rfl,H⟩;have De:=ae (Dd.aa H);clear H Dd;go_wp2_with fail;refine(bm 2 _).mono ?_;rintro e wf ⟨rfl,H⟩;have Df:=ae (De.aa H);clear H De;go_wp2_with fail;refine(ay R _ 9 _ Df.rd (by omega) (by omega) (by omega)).mono ?_;rintro e wg ⟨zf,rfl,hf0,hf1,hR,hO⟩;have Dg:=ae (Df.ac hO hR);clear hO hR Df;go_wp2_with fail;refine(bQ 3 _ _).mono ?_;rintro e wi ⟨rfl,H⟩;have Di:=ae (Dg.aa H);clear H Dg;go_wp2_with fail;refine(bm 15 _).mono ?_;rintro e wh ⟨rfl,H⟩;have Dh:=ae (Di.aa H);clear H Di;obtain⟨gp,cp,mp,fp,l⟩:=Dh.P;have kh:=l.ab.c0;have zh:=l.ab.fz 0;have lh:=l.ab.lt;have Ic:=ae (l.six (λr hr=>Dh.C.w.ltg r hr) (by have:=Dh.C.lt;omega) nm tc (1+zf) ro (by omega));have Fd:(wh.setCell (Q (I (J D)) 0 Z) (Y (T (Q (I (J wh)) 0 Z)) 6 6)).heap.size=I (J wh):=by simp
       have lo10:=l.lo;have Ba:=ae (((cM (I (J D)) wh).setCell (p:=(Q (I (J D)) 0 Z)) ly (Y (T (Q (I (J wh)) 0 Z)) 6 6)).alloc (by rw[Fd];omega) (N (qK nm tc (1+zf)) 146));have Ia:=ae ((Dh.C.putP l.ab l.lo (Y (T (Q (I (J wh)) 0 Z)) 6 6)).aa (br.alloc ly (N (qK nm tc (1+zf)) 146)));have Ij:=ae (Dh.rd.low Ba (by omega));have Hp:=ae (Dh.O.then (Ba.mono (by omega)));clear Ba l Fd;go_wp2;go_meet;exact⟨_,by omega,Ia,⟨_,_,_,_,Ic⟩,Ij,Hp,s⟩
      {go_wp2;go_meet;exact⟨_,by omega,D9⟩}
     case rest =>
     clear D9;obtain⟨q8,hq8,ZO⟩:=hcut;go_wp2_with fail;obtain⟨gp,cp,mp,fp,l⟩:=ZO.P;have PP:=ae l;clear l;have ZQ:Hid (∀V:E,(∀j,j<I (J wc)->T j≠(Value.slice a1 f.length c1).ownBlock->V.heap[j]?=wc.heap[j]?)->V.heap[I (J w)+1]?=T (N #[A,Y a1 f.length c1] 29 (0,0))/\z V (Q (I (J w)+1) 1 Z)=T (Y a1 f.length c1)/\z V (Q (I (J D)) 0 Z)=T (Y (T (Q gp 0 Z)) mp cp)):=λV hV=>by
      have h1:=(hV (I (J w)+1) ZO.C.lt λe=>by have:=(ZO.C.w.y.lt _ e.symm).1;omega).trans ZO.C.l
      have h2:PB V (I (J D)) (Y (T (Q gp 0 Z)) mp cp):=(hV (I (J D)) PP.ab.lt λe=>by
       obtain⟨cur,Hi⟩:=ZO.C.w.type _ e.symm;have h3:=PP.ab.symm.trans Hi
       cases h3).trans PP.ab
      exact⟨h1,by simp[World.cell?,h1],h2.c0⟩
     refine aH (λV=>V.heap[I (J w)+1]?=T (N #[A,Y a1 f.length c1] 29 (0,0))/\z V (Q (I (J w)+1) 1 Z)=T (Y a1 f.length c1)/\z V (Q (I (J D)) 0 Z)=T (Y (T (Q gp 0 Z)) mp cp)) 10 (by kernel_rfl) ?_;have M:=ae (ZQ wc.drew (λj m _=>rfl));iterate 3
      refine aK 0 (v:=?_) rfl rfl (by kernel_rfl) (λ_ _ _ h=>h) rfl ?_ M ?_;rotate_left
      ·(rintro wz ⟨s0,s1,s2⟩;go_simp)
       (try with_reducible rfl)
      (try simp only[Act.put,nzL])
     refine aK 5 (v:=?_) rfl rfl (by kernel_rfl) (λ_ _ _ h=>h) rfl ?_ M ?_;rotate_left
     ·(rintro wz ⟨s0,s1,s2⟩;go_simp)
      (try with_reducible rfl)
     (try simp only[Act.put,nzL])
     refine aj (i:=3) rfl (by kernel_rfl) λK b=>?_;go_simp;go_at_call 81;refine(gU j (by omega) _).mono ?_;rintro e wt ⟨rfl,Hc⟩;have BT:Hid (Below (I (J wc)) wc wt):=(BS wc).drew.trans Hc;clear Hc;refine b _ _ (λ_=>ZQ _ (λj m _=>BT.block j m)) ?_;clear b K M
     (try simp only[Act.put,nzL])
     refine aj (i:=4) rfl (by kernel_rfl) λK b=>?_;go_simp;refine b _ _ (λ_=>ZQ _ (λj m _=>BT.block j m)) ?_;clear b K
     (try simp only[Act.put,nzL])
     have Ha:((⟨#[116]⟩:ByteArray)++⟨#[dig j]⟩).size<=5000:=by have e1:(⟨#[116]⟩:ByteArray).size=1:=rfl;have e2:(⟨#[dig j]⟩:ByteArray).size=1:=rfl;simp only[MO,e1,e2];omega
     generalize (⟨#[116]⟩:ByteArray)++⟨#[dig j]⟩=tn at Ha ⊢;refine aj (i:=6) rfl (by kernel_rfl) λK b=>?_;go_simp;refine b _ _ (λ_=>ZQ _ (λj m _=>BT.block j m)) ?_;clear b K
     (try simp only[Act.put,nzL])
     refine aj (i:=7) rfl (by kernel_rfl) λK b=>?_;go_simp;have Im:=ZO.C.lt;have hzt:=BT.size;have AB:=ae (BT.alloc (by omega) (N #[U tn,Y (T (Q gp 0 Z)) mp cp] 125));have Hf:=ae (ZO.C.aa AB);have Fk:=ae (PP.aa AB ly);have Hw:=AB.size;refine b _ _ (λ_=>ZQ _ (λj m _=>AB.block j m)) ?_;clear b K
     (try simp only[Act.put,nzL])
     refine aj (i:=8) rfl (by kernel_rfl) λK b=>?_;refine aW rfl (.tmp 101) (.tmp 107) 27 rfl (I (J w)+2) 125 Hm (ZG #[U ⟨#[]⟩,Y Z 0 0]) 2 40 LU m Hx Hr Ik rfl (by decide) (Y a1 f.length c1) f.length (f.flatMap aZ) (by simp[Act.eval]) Hf.w.y (Q (I (J wt)) 0 Z) 1 1 (aZ (⟨tn,mp,fp⟩,gp,cp)) (by simp[Act.eval]) rfl (λj u hu=>cT wt _ _ _ j u hu) (by simp[aZ,Value.oneCell']) (by unfold maxLen;omega) (by omega) (by omega) ?_;intro v' w7 ZP B _;obtain⟨a7,c7,rfl⟩:=aQ ZP;have S7:=ae (ZQ w7 (λj m ZN=>(B.block j (lj m AB.size) ZN).trans (AB.block j m)));obtain⟨c8,b8⟩:=Hf.addT (x:=⟨tn,mp,fp⟩) (g:=gp) (c:=cp) Fk.new Fk.y ZP B;have Hv:=ae c8;have Hy:=ae b8;clear ZP B c8 b8;refine b _ _ (λ_=>S7) ?_;clear b K
     (try simp only[Act.put,nzL])
     refine aj (i:=9) rfl (by kernel_rfl) λK b=>?_;go_simp;refine b _ _ (λ_=>S7) ?_;clear b K
     (try simp only[Act.put,nzL])
     obtain⟨s7,t7,y7⟩:=S7.out;have f7:w7.frozen? (Q (I (J w)+1) 1 Z)=ZA:=by simp[World.frozen?,s7]
     have l7:=ar s7;clear s7 y7;refine aj (i:=10) rfl (by kernel_rfl) λK b=>?_;go_simp;refine b _ _ (λh=>absurd rfl h) ?_;clear b K
     (try simp only[Act.put,nzL])
     refine be (by kernel_rfl) ?_ _;go_wp2;have BB:=ae ((AB.mono (show (I (J w))+1<=I (J wc) by omega)).trans Hy.out);go_roundg (n - j);case measure=>omega
     case rel=>exact⟨j+1,q8,Y a7 (f.length+1) c7,f++[((⟨tn,mp,fp⟩,gp,cp):TR)],by omega,by omega,by rw[eL,aq.out];rfl,by go_num,Hv,G2.addT (r:=(⟨tn,mp,fp⟩,gp,cp)) Ha PP.num PP.sz,ZO.rd.low BB (by omega),ZO.O.then (BB.mono (D0 _))⟩
    ·obtain rfl:j=n+1:=by omega
     obtain⟨a0,c0,rfl⟩:=aQ ZM.src;obtain⟨k0,k1⟩:=ZM.cells;have kr:=ZM.res;have r0:z wr (Q (I (J w)) 0 Z)=T (Y Z 0 0):=by simp[World.cell?,kr]
     have r1:z wr (Q (I (J w)) 1 Z)=T (Y Z 0 0):=by simp[World.cell?,kr]
     have f0:wr.frozen? (Q (I (J w)) 0 Z)=ZA:=by simp[World.frozen?,kr]
     have f1:wr.frozen? (Q (I (J w)) 1 Z)=ZA:=by simp[World.frozen?,kr]
     have l0:=ar kr;have l1:=ZM.lt;clear kr;have BE:=ae (((cM (I (J w)) wr).setCell (p:=(Q (I (J w)) 0 Z)) ly (Y a0 o.length c0)).setCell (p:=(Q (I (J w)) 1 Z)) ly (Y a1 f.length c1));have OE:=ae (aE (aE ZM.src (R:=I (J w)) (j:=0) (by omega) (Y a0 o.length c0)) (R:=I (J w)) (j:=1) (by omega) (Y a1 f.length c1));have TE:=ae ((ZM.w.set (X:=I (J w)) (j:=0) (by omega) (Y a0 o.length c0)).set (X:=I (J w)) (j:=1) (by omega) (Y a1 f.length c1));have aq:Hid (f.length=n+1):=ph;clear ph;go_wp2;exact bp (v:=ZG #[Y a0 o.length c0,Y a1 f.length c1]) (by simp[results,results94,go_sem,r0,r1]) rfl ⟨o,f,_,_,rfl,OE,TE,G2,by omega,by have:=aq.out;omega,q2,by omega,R2.low BE s,O2.then BE⟩
