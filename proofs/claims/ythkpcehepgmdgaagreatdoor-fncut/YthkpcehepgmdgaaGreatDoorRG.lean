import Derived.Test.YthkpcehepgmdgaaGreatDoorRB
import Derived.Test.YthkpcehepgmdgaaGreatDoorTA
import Derived.Deep.LoopGhost
set_option maxRecDepth 100000
set_option maxHeartbeats 8000000
open Go renaming Addr.mk->Q,Value.slice->Z,Value.string->U,Value.agg->ZH,Obj.cells->N,World->G,Value->ZD,World.heap->J,World.cell?->ZT
open Option renaming none->Y,some->T
open Bool renaming false->ZB
open Array renaming size->I
open List renaming length->A
namespace Go.Proofs.YthkpcehepgmdgaaGreatDoor.Vp
open Tryz RowKit Ca
def DSp (w:G)(R q l m:Nat)(e:Ending)(f:G):Prop:=∃(b:List Source) (g:List TR) (h j:ZD),e=.returned (ZH #[h,j])/\f.ownsRow (I (J w)+2) 87 2 h (A b) (b.flatMap bw)/\TRow f (I (J w)+2) j g/\SpG b g/\(A b)<=l/\(A g)<=m/\∃i:Nat,i<=q/\Rd f R i/\Only R w f
def oP (k:Nat):ByteArray:=(⟨#[97,98,99,100,101,102]⟩:ByteArray).extract k (k+1)
theorem Aw:∀k,k<6->(oP k).size=1:=by decide
structure DP4 (w:G)(R:Nat)(v0 v1:ZD)(LS:List Source)(RT:List TR)(b q:Nat)(W:G):Prop where
 C:SpB (I (J w)) W v0 v1 LS RT
 P:∃g c n f,PrG (I (J w)+2) W RT b g c n f
 rd:Rd W R q
 O:Only R w W
 low:R<I (J w)
theorem DP4.ac {w W j:G}{R b q p:Nat}{r l:ZD}{m:List Source}{o:List TR}(h:DP4 w R r l m o b q W)(i:Only R W j)(hR:Rd j R p):DP4 w R r l m o b p j:=by have hl:=h.low;obtain⟨g,c,n,f,s⟩:=h.P;exact⟨h.C.ac i h.low,⟨g,c,n,f,s.ac i (by omega)⟩,hR,h.O.trans i,h.low⟩
theorem DP4.aa {w W l:G}{R b q:Nat}{o p:ZD}{j:List Source}{m:List TR}(h:DP4 w R o p j m b q W)(i:Below (I (J W)) W l):DP4 w R o p j m b q l:=by obtain⟨g,c,n,f,r⟩:=h.P;exact⟨h.C.aa i,⟨g,c,n,f,r.aa i ly⟩,h.rd.aa i ly,h.O.then (i.mono h.O.size),h.low⟩
theorem yN (R p:Nat)(w:G)(hR:Rd w R p)(hp:p<=10000):Calls Tryz.prog 86 #[.pointer (T (Q R 0 Y))] w λe w'=>DSp w R (p+5100) 6 8 e w':=by
 have HR:=ae hR;have s:=hR.lt;clear hR;have C0:=ae (Fo w);obtain⟨W,DE⟩:∃W:G,(w.alloc (N #[Z Y 0 0,Z Y 0 0] 33)).alloc (N #[Z Y 0 0,Z Y 0 0] 33)=W:=⟨_,rfl⟩
 obtain⟨B0,-,-,-⟩:=nb2 DE;have Hk:=ae DE;clear DE;obtain⟨Ic,hi,Ih,Iz,It⟩:=KQ iS;obtain⟨Iy,m,Io,Ii,H7⟩:=KQ ez;go_enter func86,ntmps86;go_wp2_with fail;rw[Hk.out] at C0 ⊢;clear Hk;have R0:=ae (HR.aa B0 ly);have O0:Hid (Only R w W):=Only.q B0;go_loopg [4] 6 (λg i wr=>∃(k q:Nat) (ZU:ZD) (o:List Source),k+g=6/\q<=p+12*k/\(A o)<=k/\i=.int .i64 k/\Hid (SpB (I (J w)) wr ZU (Z Y 0 0) o [])/\Hid (SpG o [])/\Hid (Rd wr R q)/\Hid (Only R w wr));case atStart=>exact⟨0,p,_,[],by omega,by omega,j6 _,rfl,C0,Fl,R0,O0⟩
 case round =>
  obtain⟨k,q,ZU,o,hk,hq,Ij,rfl,CC,GG,RR,OO⟩:=hrel;by_cases Im:k<6
  ·have IA:IntKind.i64.wrap ((k:Int)+1)=(k:Int)+1:=by rw[nL];omega
   go_wp2_with fail;refine(ar R q 5 _ RR (by omega) (by omega) (by omega)).mono ?_;rintro e w1 ⟨z,rfl,Ht,Hr,la,ZJ⟩;have C1:=ae (CC.ac ZJ s);have R1:=ae la;have O1:=ae (OO.trans ZJ);clear la ZJ;by_cases hz:0<z
   ·go_wp2_with fail;refine(gL R _ _ R1 (by omega)).mono ?_;rintro e w2 ⟨t,rfl,ht,q2,H9,GS,DS⟩;have M:=ae (C1.ac DS s);have R2:=ae GS;have O2:=ae (O1.trans DS);clear GS DS;go_wp2_with fail;refine(ar R _ 2 _ R2 (by omega) (by omega) (by omega)).mono ?_;rintro e D ⟨y,rfl,hy0',hy1',n9,S⟩;have C3:=ae (M.ac S s);have R3:=ae n9;have O3:=ae (O2.trans S);clear n9 S;go_upto_if 22 with fail;go_cut [5] (λs5 ZK=>∃(tx:ByteArray) (q4:Nat),s5=U tx/\tx.size<=5000/\q4<=q2+3/\Hid (SpB (I (J w)) ZK ZU (Z Y 0 0) o [])/\Hid (Rd ZK R q4)/\Hid (Only R w ZK));case first =>
     by_cases hy:y=0
     ·subst hy;go_wp2_with fail;refine(dL R _ _ R3 (by omega)).mono ?_;rintro e w4 ⟨s1,rfl,hs1,Hj,ur⟩;have C4:=ae (C3.ac ur s);have R4:=ae Hj;have O4:=ae (O3.trans ur);clear Hj ur;go_wp2_with fail;refine(dL R _ _ R4 (by omega)).mono ?_;rintro e w5 ⟨s2,rfl,hs2,fd,bt⟩;have C5:=ae (C4.ac bt s);have R5:=ae fd;have O5:=ae (O4.trans bt);clear fd bt;have At:(s1++⟨#[32]⟩++s2++⟨#[32]⟩++t).size<=5000:=by have e:(⟨#[32]⟩:ByteArray).size=1:=rfl;simp only[L9,e];omega
      go_wp2;go_meet;exact⟨_,_,rfl,At,by omega,C5,R5,O5⟩
     {go_wp2;go_meet;exact⟨t,_,rfl,by omega,by omega,C3,R3,O3⟩}
    case rest =>
    clear C3 R3 O3;obtain⟨tx,q4,rfl,At,Hz,C5,R5,O5⟩:=hcut;go_wp2_with fail;have E:Hid (∀V:G,(∀j,j<I (J wc)->T j≠ZU.ownBlock->V.heap[j]?=wc.heap[j]?)->V.heap[I (J w)+1]?=T (N #[ZU,Z Y 0 0] 33 (0,0))/\ZT V (Q (I (J w)+1) 0 Y)=T ZU):=λV hV=>by have h1:=(hV (I (J w)+1) C5.lt λe=>by have:=(C5.src.lt _ e.symm).1;omega).trans C5.M;exact⟨h1,by simp[World.cell?,h1]⟩
    refine aD (λV=>V.heap[I (J w)+1]?=T (N #[ZU,Z Y 0 0] 33 (0,0))/\ZT V (Q (I (J w)+1) 0 Y)=T ZU) 11 (by kernel_rfl) ?_;have ZP:=ae (E wc.drew (λj m _=>rfl));iterate 5
     refine aM 0 (v:=?_) rfl rfl (by kernel_rfl) (λ_ _ _ h=>h) rfl ?_ ZP ?_;rotate_left
     ·(rintro wz ⟨s0,s1⟩;go_simp)
      (try with_reducible rfl)
     (try simp only[Act.put,nzL])
    refine iy (i:=5) (v:=U (oP k)) rfl (by kernel_rfl) (by kernel_rfl) (by kernel_rfl) (by kernel_rfl) (λ_ _ _ h=>h) rfl ?_ ZP ?_;{intro wz _;go_simp;rw[hU ⟨by omega,by omega⟩,hU (by omega)];rfl}
    (try simp only[Act.put,nzL])
    iterate 2
     refine aM 6 (v:=?_) rfl rfl (by kernel_rfl) (λ_ _ _ h=>h) rfl ?_ ZP ?_;rotate_left
     ·(rintro wz ⟨s0,s1⟩;go_simp)
      (try with_reducible rfl)
     (try simp only[Act.put,nzL])
    refine ah (i:=8) rfl (by kernel_rfl) λK b=>?_;go_simp;have Hw:=C5.lt;have AB:=ae (((q9 wc).alloc ly (N #[U (oP k),U tx] 87)).drew);have C6:=ae (C5.aa AB);have Hy:=AB.size;refine b _ _ (λ_=>E _ (λj m _=>AB.block j m)) ?_;clear b K ZP
    (try simp only[Act.put,nzL])
    refine ah (i:=9) rfl (by kernel_rfl) λK b=>?_;refine aQ rfl (.tmp 33) (.tmp 40) 30 rfl (I (J w)+2) 87 Ic (ZH #[U ⟨#[]⟩,U ⟨#[]⟩]) 2 32 MY hi Ih Iz It rfl (by decide) ZU (A o) (o.flatMap bw) (by simp[Act.eval]) C6.src (Q (I (J wc)) 0 Y) 1 1 (bw ⟨oP k,tx⟩) (by simp[Act.eval]) rfl (λj u hu=>cU wc _ _ _ j u hu) (by simp[bw,Value.oneCell']) (by unfold maxLen;omega) (by omega) (by omega) ?_;intro v' w7 ZQ B _;obtain⟨a7,c7,rfl⟩:=aF ZQ;have S7:=ae (E w7 (λj m ZN=>(B.block j (lj m AB.size) ZN).trans (AB.block j m)));obtain⟨c8,b8⟩:=C6.addS ZQ B;have C8:=ae c8;have B8:=ae b8;clear ZQ B c8 b8;refine b _ _ (λ_=>S7) ?_;clear b K
    (try simp only[Act.put,nzL])
    refine ah (i:=10) rfl (by kernel_rfl) λK b=>?_;go_simp;refine b _ _ (λ_=>S7) ?_;clear b K
    (try simp only[Act.put,nzL])
    obtain⟨s7,t7⟩:=S7.out;have f7:w7.frozen? (Q (I (J w)+1) 0 Y)=ZB:=by simp[World.frozen?,s7]
    have l7:=ag s7;clear s7;refine ah (i:=11) rfl (by kernel_rfl) λK b=>?_;go_simp;refine b _ _ (λh=>absurd rfl h) ?_;clear b K
    (try simp only[Act.put,nzL])
    refine bk (by kernel_rfl) ?_ _;go_wp2;have BB:=ae ((AB.mono (show (I (J w))+1<=I (J wc) by omega)).trans B8.out);go_roundg (5 - k);case measure=>omega
    case rel=>exact⟨k+1,q4,Z a7 (A o+1) c7,o++[(⟨oP k,tx⟩:Source)],by omega,by omega,by rw[gB];exact Nat.succ_le_succ Ij,by go_num,C8,GG.addS (x:=⟨oP k,tx⟩) (by show(oP k).size<=5000;rw[Aw k Im];omega) At,R5.low BB (by omega),O5.then (BB.mono (IS _))⟩
   ·go_wp2;go_roundg (5 - k);case measure=>omega
    case rel=>exact⟨k+1,_,ZU,o,by omega,by omega,by omega,by go_num,C1,GG,R1,O1⟩
  ·obtain rfl:k=6:=by omega
   go_wp2_with fail;refine(ar R q 8 _ RR (by omega) (by omega) (by omega)).mono ?_;rintro e w1 ⟨z,rfl,Ht,Hr,la,ZJ⟩;have C1:=ae (CC.ac ZJ s);have R1:=ae la;have O1:=ae (OO.trans ZJ);clear la ZJ;obtain⟨n,rfl⟩:∃n:Nat,z=(n:Int):=⟨z.toNat,by omega⟩
   go_wp2_with fail;go_loopg [7] (n+1) (λg i wr=>∃(j q:Nat) (v1:ZD) (f:List TR),j+g=n+1/\q<=p+73+620*j/\(A f)=j/\i=.int .i64 j/\Hid (SpB (I (J w)) wr ZU v1 o f)/\Hid (SpG o f)/\Hid (Rd wr R q)/\Hid (Only R w wr));case atStart=>exact⟨0,_,_,[],by omega,by omega,rfl,rfl,C1,GG,R1,O1⟩
   case round =>
    obtain⟨j,q2,v1,f,hj2,H9,ro,rfl,M,G2,R2,O2⟩:=hrel;obtain⟨a1,c1,rfl⟩:=aF M.w.y;by_cases hjn:j<n+1
    ·have ZL:Hid (A f=j):=ro;have hrn:A f<=8:=by omega
     clear ro;have IA:IntKind.i64.wrap ((j:Int)+1)=(j:Int)+1:=by rw[nL];omega
     go_wp2_with fail;refine(iR R q2 _ R2 (by omega)).mono ?_;rintro e D ⟨L,g,c,rfl,hI,Ia,hl2,hT,q3,hq3,n9,S⟩;have hlt2:=M.lt;have hs3:=S.size;have C3:=ae (M.ac S s);obtain⟨W4,ph⟩:∃W:G,D.alloc (N #[Z (T (Q g 0 Y)) (A L) c] 41)=W:=⟨_,rfl⟩
     obtain⟨B4,-,-⟩:=nb1 ph;have qr:=ae ph;clear ph;have P4:=ae (Aq (base:=I (J w)+2) (RT:=f) hI (by omega) (λr hr=>M.w.ltg r hr) (by omega) ⟨Ia,by omega⟩ hT);have C4:=ae (C3.aa B4);have R4:=ae (n9.aa B4 ly);have O4:=ae ((O2.trans S).then (B4.mono (by omega)));have D4:Hid (DP4 w R ZU (Z a1 (A f) c1) o f (I (J D)) q3 W4):=by cases qr.out;exact⟨C4,⟨_,_,_,_,P4⟩,R4,O4,s⟩
     clear n9 S hI hT C3 C4 P4 R4 O4;go_upto_region 15 with fail;rw[qr.out];clear qr;clear B4;go_cut [59] (λIe ZK=>∃(b1:Bool) (q4:Nat),Ie=.bool b1/\(b1=true->0<j)/\q4<=q3+1/\Hid (DP4 w R ZU (Z a1 (A f) c1) o f (I (J D)) q4 ZK));case first =>
      by_cases Hn:0<(j:Int)
      {go_wp2_with fail;refine(ar R _ 5 _ D4.rd (by omega) (by omega) (by omega)).mono ?_;rintro e w5 ⟨z5,rfl,h50,h51,fd,bt⟩;have D5:=ae (D4.ac bt fd);clear fd bt;go_wp2;go_meet;exact⟨_,_,rfl,λ_=>by omega,by omega,D5⟩};{go_wp2;go_meet;exact⟨_,_,rfl,λh=>by simp at h,by omega,D4⟩}
     case rest =>
     clear D4;obtain⟨b1,q4,rfl,Iq,Hz,D5⟩:=hcut;go_upto_if 59 with fail;go_cut [] (λZK=>∃q5:Nat,q5<=q4+1/\Hid (DP4 w R ZU (Z a1 (A f) c1) o f (I (J D)) q5 ZK));case first =>
      cases b1 with
      |true =>
       have Hn:0<(j:Int):=by have:=Iq rfl;omega
       obtain⟨gt,_,rfl,_⟩:=M.w.atk (k:=0) (by have:=ZL.out;omega);go_wp2_with fail;have E:Hid (∀V:G,(∀j,j<I (J wc)->j≠R->V.heap[j]?=wc.heap[j]?)->V.heap[I (J w)+1]?=T (N #[ZU,(Z (T (Q gt 0 Y)) (A f) c1)] 33 (0,0))/\ZT V (Q (I (J w)+1) 1 Y)=T (Z (T (Q gt 0 Y)) (A f) c1)):=λV hV=>by have h1:=(hV (I (J w)+1) D5.C.lt (by omega)).trans D5.C.M;exact⟨h1,by simp[World.cell?,h1]⟩
       refine aD (λV=>V.heap[I (J w)+1]?=T (N #[ZU,(Z (T (Q gt 0 Y)) (A f) c1)] 33 (0,0))/\ZT V (Q (I (J w)+1) 1 Y)=T (Z (T (Q gt 0 Y)) (A f) c1)) 11 (by kernel_rfl) ?_;have ZP:=ae (E wc.drew (λj m _=>rfl));iterate 6
        refine aM 0 (v:=?_) rfl rfl (by kernel_rfl) (λ_ _ _ h=>h) rfl ?_ ZP ?_;rotate_left
        ·(rintro wz ⟨s0,s1⟩;go_simp)
         (try with_reducible rfl)
        (try simp only[Act.put,nzL])
       refine ah (i:=6) rfl (by kernel_rfl) λK b=>?_;go_simp;go_at_call 13;refine(ar R _ (A f:Int) _ (D5.rd.aa br.drew ly) (by omega) (by have:=ZL.out;omega) (by omega)).mono ?_;rintro e w6 ⟨z6,rfl,Ig,Is,ld,n7⟩;obtain⟨k6,rfl⟩:∃k6:Nat,z6=(k6:Int):=⟨z6.toNat,by omega⟩
       have th:k6<A f:=by omega
       have aq:Hid (Only R wc w6):=(Only.q br.drew).trans n7;have ZM:=ae (D5.ac aq ld);clear ld n7;have S6:=ae (E w6 (λj m ZN=>aq.block j m ZN));obtain⟨H6,r6,DQ,Iw,n8,Iu,Iv,ex⟩:=ZM.C.w.atk th;have Fd:=ae ex;have M6:=ae n8;clear ex n8;injection DQ with e1;injection e1 with e2;subst e2;refine b _ _ (λ_=>S6) ?_;clear b K ZP
       (try simp only[Act.put,nzL])
       iterate 3
        refine bY 7 rfl rfl (by kernel_rfl) λK b=>?_;go_simp;refine b _ _ (λ_=>S6) ?_;clear b K
        (try simp only[Act.put,nzL])
       refine ah (i:=10) rfl (by kernel_rfl) λK b=>?_;go_simp;go_at_call 50;refine(iN _ _ _ r6.1.u _ (by have:=(G2.t r6 M6).2.1.2;omega) Fd).mono ?_;rintro e w7 ⟨g7,c7,rfl,Hq,sm⟩;have Fk:=G2.t r6 M6.out;obtain⟨gp,cp,mp,fp,l⟩:=(ZM.aa sm).P;have D7:=ae (ZM.aa sm);have P8:=ae (l.put Hq (by have:=ZM.C.lt;omega) (λr hr=>ZM.C.w.ltg r hr) Fk.2.1 Fk.2.2);have S7:=ae (E w7 (λj m ZN=>(sm.block j (lj m aq.size)).trans (aq.block j m ZN)));have k7:=l.ab.c0;have z7:=l.ab.fz 0;have l7:=l.ab.lt;have IB:=l.lo;have B8:=ae ((cM (I (J D)) w7).setCell (p:=(Q (I (J D)) 0 Y)) ly (Z (T (Q g7 0 Y)) r6.1.l c7));have D8:Hid (DP4 w R ZU (Z (T (Q gt 0 Y)) (A f) c1) o f (I (J D)) _ (w7.setCell (Q (I (J D)) 0 Y) (Z (T (Q g7 0 Y)) r6.1.l c7))):=⟨D7.C.putP l.ab IB (Z (T (Q g7 0 Y)) r6.1.l c7),⟨_,_,_,_,P8⟩,D7.rd.low B8 (by omega),D7.O.then (B8.mono (by omega)),s⟩
       clear Hq sm Fk l P8 B8;refine b _ _ (λ_=>S7) ?_;clear b K
       (try simp only[Act.put,nzL])
       refine ah (i:=11) rfl (by kernel_rfl) λK b=>?_;go_simp;refine b _ _ (λh=>absurd rfl h) ?_;clear b K k7 z7
       (try simp only[Act.put,nzL])
       refine bk (by kernel_rfl) ?_ _;go_wp2;go_meet;exact⟨_,by omega,D8⟩
      |false =>go_wp2;go_meet;exact⟨q4,by omega,D5⟩
     case rest =>
     clear D5;obtain⟨q5,hq5,ZM⟩:=hcut;go_wp2_with fail;refine(ar R _ 2 _ ZM.rd (by omega) (by omega) (by omega)).mono ?_;rintro e w9 ⟨z9,rfl,h90,h91,Hp,Ho⟩;have D9:=ae (ZM.ac Ho Hp);clear Hp Ho ZM;go_upto_if 73 with fail;go_cut [9] (λ_ ZK=>∃q8:Nat,q8<=q5+12/\Hid (DP4 w R ZU (Z a1 (A f) c1) o f (I (J D)) q8 ZK));case first =>
      by_cases Hv:z9=0
      ·subst Hv;go_upto_if 75 with fail;go_cut [9] (λs9 ZK=>∃(nm:ByteArray) (q6:Nat),s9=U nm/\nm.size<=5000/\q6<=q5+2/\Hid (DP4 w R ZU (Z a1 (A f) c1) o f (I (J D)) q6 ZK));case first =>
        by_cases Hn:0<(j:Int)
        ·obtain⟨gt,_,rfl,_⟩:=M.w.atk (k:=0) (by have:=ZL.out;omega);go_wp2_with fail;have E:Hid (∀V:G,(∀j,j<I (J w9)->j≠R->V.heap[j]?=w9.heap[j]?)->V.heap[I (J w)+1]?=T (N #[ZU,(Z (T (Q gt 0 Y)) (A f) c1)] 33 (0,0))/\ZT V (Q (I (J w)+1) 1 Y)=T (Z (T (Q gt 0 Y)) (A f) c1)):=λV hV=>by have h1:=(hV (I (J w)+1) D9.C.lt (by omega)).trans D9.C.M;exact⟨h1,by simp[World.cell?,h1]⟩
         refine aD (λV=>V.heap[I (J w)+1]?=T (N #[ZU,(Z (T (Q gt 0 Y)) (A f) c1)] 33 (0,0))/\ZT V (Q (I (J w)+1) 1 Y)=T (Z (T (Q gt 0 Y)) (A f) c1)) 10 (by kernel_rfl) ?_;have ZP:=ae (E w9.drew (λj m _=>rfl));iterate 6
          refine aM 0 (v:=?_) rfl rfl (by kernel_rfl) (λ_ _ _ h=>h) rfl ?_ ZP ?_;rotate_left
          ·(rintro wz ⟨s0,s1⟩;go_simp)
           (try with_reducible rfl)
          (try simp only[Act.put,nzL])
         refine ah (i:=6) rfl (by kernel_rfl) λK b=>?_;go_simp;go_at_call 13;refine(ar R _ (A f:Int) _ (D9.rd.aa br.drew ly) (by omega) (by have:=ZL.out;omega) (by omega)).mono ?_;rintro e w6 ⟨z6,rfl,Ig,Is,ld,n7⟩;obtain⟨k6,rfl⟩:∃k6:Nat,z6=(k6:Int):=⟨z6.toNat,by omega⟩
         have th:k6<A f:=by omega
         have aq:Hid (Only R w9 w6):=(Only.q br.drew).trans n7;have ZM:=ae (D9.ac aq ld);clear ld n7;have S6:=ae (E w6 (λj m ZN=>aq.block j m ZN));obtain⟨H6,r6,DQ,Iw,n8,Iu,Iv,ex⟩:=ZM.C.w.atk th;have Fd:=ae ex;have M6:=ae n8;clear ex n8;injection DQ with e1;injection e1 with e2;subst e2;refine b _ _ (λ_=>S6) ?_;clear b K ZP
         (try simp only[Act.put,nzL])
         iterate 3
          refine bY 7 rfl rfl (by kernel_rfl) λK b=>?_;go_simp;refine b _ _ (λ_=>S6) ?_;clear b K
          (try simp only[Act.put,nzL])
         refine ah (i:=10) rfl (by kernel_rfl) λK b=>?_;go_simp;refine b _ _ (λh=>absurd rfl h) ?_;have Bk:=(G2.t r6 M6).1;clear b K E S6 Fd M6
         (try simp only[Act.put,nzL])
         refine bk (by kernel_rfl) ?_ _;go_wp2;go_meet;exact⟨r6.1.e,_,rfl,Bk,by omega,ZM⟩
        {go_wp2;go_meet;exact⟨⟨#[97]⟩,_,rfl,by decide,by omega,D9⟩}
       case rest =>
       clear D9;obtain⟨nm,q6,rfl,Bk,hq6,Hx⟩:=hcut;go_wp2_with fail;refine(bi _ _).mono ?_;rintro e wa ⟨rfl,ZS⟩;have Da:=ae (Hx.aa ZS);clear ZS;go_wp2_with fail;refine(aT 12 _).mono ?_;rintro e wb ⟨rfl,ZS⟩;have Db:=ae (Da.aa ZS);clear ZS Da;go_wp2_with fail;refine(gL R _ _ Db.rd (by omega)).mono ?_;rintro e wd ⟨tc,rfl,htc,qc,hqc,hR,hO⟩;have Dd:=ae (Db.ac hO hR);clear hO hR Db;go_wp2_with fail;refine(bi tc _).mono ?_;rintro e we ⟨rfl,ZS⟩;have De:=ae (Dd.aa ZS);clear ZS Dd;go_wp2_with fail;refine(aT 2 _).mono ?_;rintro e wf ⟨rfl,ZS⟩;have Df:=ae (De.aa ZS);clear ZS De;go_wp2_with fail;refine(ar R _ 9 _ Df.rd (by omega) (by omega) (by omega)).mono ?_;rintro e wg ⟨zf,rfl,hf0,hf1,hR,hO⟩;have Dg:=ae (Df.ac hO hR);clear hO hR Df;go_wp2_with fail;refine(bM 3 _ _).mono ?_;rintro e wi ⟨rfl,ZS⟩;have Di:=ae (Dg.aa ZS);clear ZS Dg;go_wp2_with fail;refine(aT 15 _).mono ?_;rintro e wh ⟨rfl,ZS⟩;have Dh:=ae (Di.aa ZS);clear ZS Di;obtain⟨gp,cp,mp,fp,l⟩:=Dh.P;have kh:=l.ab.c0;have zh:=l.ab.fz 0;have lh:=l.ab.lt;have Ip:=ae (l.six (λr hr=>Dh.C.w.ltg r hr) (by have:=Dh.C.lt;omega) nm tc (1+zf) Bk (by omega));have Hm:(wh.setCell (Q (I (J D)) 0 Y) (Z (T (Q (I (J wh)) 0 Y)) 6 6)).heap.size=I (J wh):=by simp
       have lo10:=l.lo;have Ba:=ae (((cM (I (J D)) wh).setCell (p:=(Q (I (J D)) 0 Y)) ly (Z (T (Q (I (J wh)) 0 Y)) 6 6)).alloc (by rw[Hm];omega) (N (qB nm tc (1+zf)) 90));have Ib:=ae ((Dh.C.putP l.ab l.lo (Z (T (Q (I (J wh)) 0 Y)) 6 6)).aa (br.alloc ly (N (qB nm tc (1+zf)) 90)));have Ik:=ae (Dh.rd.low Ba (by omega));have Ir:=ae (Dh.O.then (Ba.mono (by omega)));clear Ba l Hm;go_wp2;go_meet;exact⟨_,by omega,Ib,⟨_,_,_,_,Ip⟩,Ik,Ir,s⟩
      {go_wp2;go_meet;exact⟨_,by omega,D9⟩}
     case rest =>
     clear D9;obtain⟨q8,hq8,ZO⟩:=hcut;go_wp2_with fail;obtain⟨gp,cp,mp,fp,l⟩:=ZO.P;have PP:=ae l;clear l;have E:Hid (∀V:G,(∀j,j<I (J wc)->T j≠(Value.slice a1 (A f) c1).ownBlock->V.heap[j]?=wc.heap[j]?)->V.heap[I (J w)+1]?=T (N #[ZU,Z a1 (A f) c1] 33 (0,0))/\ZT V (Q (I (J w)+1) 1 Y)=T (Z a1 (A f) c1)/\ZT V (Q (I (J D)) 0 Y)=T (Z (T (Q gp 0 Y)) mp cp)):=λV hV=>by
      have h1:=(hV (I (J w)+1) ZO.C.lt λe=>by have:=(ZO.C.w.y.lt _ e.symm).1;omega).trans ZO.C.M
      have h2:PB V (I (J D)) (Z (T (Q gp 0 Y)) mp cp):=(hV (I (J D)) PP.ab.lt λe=>by
       obtain⟨cur,Hu⟩:=ZO.C.w.type _ e.symm;have h3:=PP.ab.symm.trans Hu
       cases h3).trans PP.ab
      exact⟨h1,by simp[World.cell?,h1],h2.c0⟩
     refine aD (λV=>V.heap[I (J w)+1]?=T (N #[ZU,Z a1 (A f) c1] 33 (0,0))/\ZT V (Q (I (J w)+1) 1 Y)=T (Z a1 (A f) c1)/\ZT V (Q (I (J D)) 0 Y)=T (Z (T (Q gp 0 Y)) mp cp)) 10 (by kernel_rfl) ?_;have ZP:=ae (E wc.drew (λj m _=>rfl));iterate 3
      refine aM 0 (v:=?_) rfl rfl (by kernel_rfl) (λ_ _ _ h=>h) rfl ?_ ZP ?_;rotate_left
      ·(rintro wz ⟨s0,s1,s2⟩;go_simp)
       (try with_reducible rfl)
      (try simp only[Act.put,nzL])
     refine aM 5 (v:=?_) rfl rfl (by kernel_rfl) (λ_ _ _ h=>h) rfl ?_ ZP ?_;rotate_left
     ·(rintro wz ⟨s0,s1,s2⟩;go_simp)
      (try with_reducible rfl)
     (try simp only[Act.put,nzL])
     refine ah (i:=3) rfl (by kernel_rfl) λK b=>?_;go_simp;go_at_call 59;refine(ig j (by omega) _).mono ?_;rintro e wt ⟨rfl,Fm⟩;have BT:Hid (Below (I (J wc)) wc wt):=(q9 wc).drew.trans Fm;clear Fm;refine b _ _ (λ_=>E _ (λj m _=>BT.block j m)) ?_;clear b K ZP
     (try simp only[Act.put,nzL])
     refine ah (i:=4) rfl (by kernel_rfl) λK b=>?_;go_simp;refine b _ _ (λ_=>E _ (λj m _=>BT.block j m)) ?_;clear b K
     (try simp only[Act.put,nzL])
     have Hl:((⟨#[116]⟩:ByteArray)++⟨#[dig j]⟩).size<=5000:=by have e1:(⟨#[116]⟩:ByteArray).size=1:=rfl;have e2:(⟨#[dig j]⟩:ByteArray).size=1:=rfl;simp only[L9,e1,e2];omega
     generalize (⟨#[116]⟩:ByteArray)++⟨#[dig j]⟩=tn at Hl ⊢;refine ah (i:=6) rfl (by kernel_rfl) λK b=>?_;go_simp;refine b _ _ (λ_=>E _ (λj m _=>BT.block j m)) ?_;clear b K
     (try simp only[Act.put,nzL])
     refine ah (i:=7) rfl (by kernel_rfl) λK b=>?_;go_simp;have Hw:=ZO.C.lt;have hzt:=BT.size;have AB:=ae (BT.alloc (by omega) (N #[U tn,Z (T (Q gp 0 Y)) mp cp] 94));have Fn:=ae (ZO.C.aa AB);have Hi:=ae (PP.aa AB ly);have Hy:=AB.size;refine b _ _ (λ_=>E _ (λj m _=>AB.block j m)) ?_;clear b K
     (try simp only[Act.put,nzL])
     refine ah (i:=8) rfl (by kernel_rfl) λK b=>?_;refine aQ rfl (.tmp 101) (.tmp 107) 31 rfl (I (J w)+2) 94 Iy (ZH #[U ⟨#[]⟩,Z Y 0 0]) 2 40 LC m Io Ii H7 rfl (by decide) (Z a1 (A f) c1) (A f) (f.flatMap aY) (by simp[Act.eval]) Fn.w.y (Q (I (J wt)) 0 Y) 1 1 (aY (⟨tn,mp,fp⟩,gp,cp)) (by simp[Act.eval]) rfl (λj u hu=>cU wt _ _ _ j u hu) (by simp[aY,Value.oneCell']) (by unfold maxLen;omega) (by omega) (by omega) ?_;intro v' w7 ZQ B _;obtain⟨a7,c7,rfl⟩:=aF ZQ;have S7:=ae (E w7 (λj m ZN=>(B.block j (lj m AB.size) ZN).trans (AB.block j m)));obtain⟨c8,b8⟩:=Fn.addT (x:=⟨tn,mp,fp⟩) (g:=gp) (c:=cp) Hi.new Hi.y ZQ B;have Id:=ae c8;have Il:=ae b8;clear ZQ B c8 b8;refine b _ _ (λ_=>S7) ?_;clear b K
     (try simp only[Act.put,nzL])
     refine ah (i:=9) rfl (by kernel_rfl) λK b=>?_;go_simp;refine b _ _ (λ_=>S7) ?_;clear b K
     (try simp only[Act.put,nzL])
     obtain⟨s7,t7,y7⟩:=S7.out;have f7:w7.frozen? (Q (I (J w)+1) 1 Y)=ZB:=by simp[World.frozen?,s7]
     have l7:=ag s7;clear s7 y7;refine ah (i:=10) rfl (by kernel_rfl) λK b=>?_;go_simp;refine b _ _ (λh=>absurd rfl h) ?_;clear b K
     (try simp only[Act.put,nzL])
     refine bk (by kernel_rfl) ?_ _;go_wp2;have BB:=ae ((AB.mono (show (I (J w))+1<=I (J wc) by omega)).trans Il.out);go_roundg (n - j);case measure=>omega
     case rel=>exact⟨j+1,q8,Z a7 (A f+1) c7,f++[((⟨tn,mp,fp⟩,gp,cp):TR)],by omega,by omega,by rw[gB,ZL.out];rfl,by go_num,Id,G2.addT (r:=(⟨tn,mp,fp⟩,gp,cp)) Hl PP.num PP.sz,ZO.rd.low BB (by omega),ZO.O.then (BB.mono (IS _))⟩
    ·obtain rfl:j=n+1:=by omega
     obtain⟨a0,c0,rfl⟩:=aF M.src;obtain⟨k0,k1⟩:=M.cells;have kr:=M.res;have r0:ZT wr (Q (I (J w)) 0 Y)=T (Z Y 0 0):=by simp[World.cell?,kr]
     have r1:ZT wr (Q (I (J w)) 1 Y)=T (Z Y 0 0):=by simp[World.cell?,kr]
     have f0:wr.frozen? (Q (I (J w)) 0 Y)=ZB:=by simp[World.frozen?,kr]
     have f1:wr.frozen? (Q (I (J w)) 1 Y)=ZB:=by simp[World.frozen?,kr]
     have l0:=ag kr;have l1:=M.lt;clear kr;have BE:=ae (((cM (I (J w)) wr).setCell (p:=(Q (I (J w)) 0 Y)) ly (Z a0 (A o) c0)).setCell (p:=(Q (I (J w)) 1 Y)) ly (Z a1 (A f) c1));have OE:=ae (aC (aC M.src (R:=I (J w)) (j:=0) (by omega) (Z a0 (A o) c0)) (R:=I (J w)) (j:=1) (by omega) (Z a1 (A f) c1));have TE:=ae ((M.w.set (X:=I (J w)) (j:=0) (by omega) (Z a0 (A o) c0)).set (X:=I (J w)) (j:=1) (by omega) (Z a1 (A f) c1));have ZL:Hid (A f=n+1):=ro;clear ro;go_wp2;exact bp (v:=ZH #[Z a0 (A o) c0,Z a1 (A f) c1]) (by simp[results,results86,go_sem,r0,r1]) rfl ⟨o,f,_,_,rfl,OE,TE,G2,by omega,by have:=ZL.out;omega,q2,by omega,R2.low BE s,O2.then BE⟩
