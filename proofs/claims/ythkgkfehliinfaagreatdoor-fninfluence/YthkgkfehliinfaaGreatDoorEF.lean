import Derived.Test.YthkgkfehliinfaaGreatDoorEA
import Derived.Test.YthkgkfehliinfaaGreatDoorFR
import Derived.Deep.LoopGhost
set_option linter.all false
set_option maxRecDepth 100000
set_option maxHeartbeats 8000000
open Go renaming Addr.mk->Q,Value.slice->Y,Value.string->U,Value.agg->ZJ,Obj.cells->N,World->E,Value->ZB,World.heap->J,World.cell?->B
open Option renaming none->Z,some->T
open Bool renaming false->ZA
open Array renaming size->I
open List renaming length->z
namespace Go.Proofs.YthkgkfehliinfaaGreatDoor.Vp
open Tryz RowKit Ca
def DSp (w:E)(R q m l:Nat)(e:Ending)(f:E):Prop:=∃(b:List Source) (g:List TR) (h i:ZB),e=.returned (ZJ #[h,i])/\f.ownsRow (I (J w)+2) 91 2 h (z b) (b.flatMap bF)/\TRow f (I (J w)+2) i g/\SpG b g/\(z b)<=m/\(z g)<=l/\∃j:Nat,j<=q/\Rd f R j/\zd R w f
def pG (k:Nat):F_:=(⟨#[97,98,99,100,101,102]⟩:F_).extract k (k+1)
def Cy:∀k,k<6->(pG k).size=1:=by decide
structure DP4 (w:E)(R:Nat)(v0 v1:ZB)(LS:List Source)(RT:List TR)(b q:Nat)(W:E):Prop where
 C:SpB (I (J w)) W v0 v1 LS RT
 P:∃g c n f,PrG (I (J w)+2) W RT b g c n f
 rd:Rd W R q
 O:zd R w W
 low:R<I (J w)
def DP4.ac {w W i:E}{R b q p:Nat}{l o:ZB}{m:List Source}{r:List TR}(h:DP4 w R l o m r b q W)(j:zd R W i)(hR:Rd i R p):DP4 w R l o m r b p i:=by have hl:=h.low;obtain⟨g,c,n,f,s⟩:=h.P;exact⟨h.C.ac j h.low,⟨g,c,n,f,s.ac j (by omega)⟩,hR,h.O.k j,h.low⟩
def DP4.aa {w W m:E}{R b q:Nat}{j l:ZB}{o:List Source}{p:List TR}(h:DP4 w R j l o p b q W)(i:Below (I (J W)) W m):DP4 w R j l o p b q m:=by obtain⟨g,c,n,f,r⟩:=h.P;exact⟨h.C.aa i,⟨g,c,n,f,r.aa i ly⟩,h.rd.aa i ly,h.O.then (i.P h.O.size),h.low⟩
def qO (R p:Nat)(w:E)(hR:Rd w R p)(hp:p<=10000):Calls Tryz.prog 85 #[.pointer (T (Q R 0 Z))] w λe w'=>DSp w R (p+5100) 6 8 e w':=by
 have HR:=ae hR;have A:=hR.lt;clear hR;have C0:=ae (H9 w);obtain⟨W,Bk⟩:∃W:E,(w.alloc (N #[Y Z 0 0,Y Z 0 0] 29)).alloc (N #[Y Z 0 0,Y Z 0 0] 29)=W:=⟨_,rfl⟩
 obtain⟨B0,-,-,-⟩:=nb2 Bk;have JH:=ae Bk;clear Bk;obtain⟨J4,hi,JY,JX,JU⟩:=NP jn;obtain⟨Kq,m,Kp,Ki,Ka⟩:=NP fw;go_enter func85,ntmps85;go_wp2_with fail;rw[JH.i] at C0 ⊢;clear JH;have R0:=ae (HR.aa B0 ly);have O0:Hid (zd R w W):=zd.q B0;go_loopg [4] 6 (λg i wr=>∃(k q:Nat) (s:ZB) (o:List Source),k+g=6/\q<=p+12*k/\(z o)<=k/\i=.int .i64 k/\Hid (SpB (I (J w)) wr s (Y Z 0 0) o [])/\Hid (SpG o [])/\Hid (Rd wr R q)/\Hid (zd R w wr));case atStart=>exact⟨0,p,_,[],by omega,by omega,p7 _,rfl,C0,H7,R0,O0⟩
 case round =>
  obtain⟨k,q,s,o,hk,hq,Kl,rfl,CC,GG,RR,OO⟩:=hrel;by_cases JV:k<6
  ·have Kd:IntKind.i64.wrap ((k:Int)+1)=(k:Int)+1:=by rw[nL];omega
   go_wp2_with fail;refine(ay R q 5 _ RR (by omega) (by omega) (by omega)).P ?_;rintro e w1⟨ZU,rfl,JQ,JP,n9,ZL⟩;have C1:=ae (CC.ac ZL A);have R1:=ae n9;have O1:=ae (OO.k ZL);clear n9 ZL;by_cases hz:0<ZU
   ·go_wp2_with fail;refine(fT R _ _ R1 (by omega)).P ?_;rintro e w2⟨t,rfl,ht,q2,J0,GS,Fm⟩;have ZP:=ae (C1.ac Fm A);have R2:=ae GS;have O2:=ae (O1.k Fm);clear GS Fm;go_wp2_with fail;refine(ay R _ 2 _ R2 (by omega) (by omega) (by omega)).P ?_;rintro e D⟨y,rfl,hy0',hy1',ex,S⟩;have C3:=ae (ZP.ac S A);have R3:=ae ex;have O3:=ae (O2.k S);clear ex S;go_upto_if 22 with fail;go_cut [5] (λs5 ZM=>∃(tx:F_) (q4:Nat),s5=U tx/\tx.size<=5000/\q4<=q2+3/\Hid (SpB (I (J w)) ZM s (Y Z 0 0) o [])/\Hid (Rd ZM R q4)/\Hid (zd R w ZM));case first =>
     by_cases hy:y=0
     ·subst hy;go_wp2_with fail;refine(dH R _ _ R3 (by omega)).P ?_;rintro e w4⟨s1,rfl,hs1,JN,Fk⟩;have C4:=ae (C3.ac Fk A);have R4:=ae JN;have O4:=ae (O3.k Fk);clear JN Fk;go_wp2_with fail;refine(dH R _ _ R4 (by omega)).P ?_;rintro e w5⟨s2,rfl,hs2,ld,bt⟩;have C5:=ae (C4.ac bt A);have R5:=ae ld;have O5:=ae (O4.k bt);clear ld bt;have At:(s1++⟨#[32]⟩++s2++⟨#[32]⟩++t).size<=5000:=by have e:(⟨#[32]⟩:F_).size=1:=rfl;simp only[PV,e];omega
      go_wp2;go_meet;exact⟨_,_,rfl,At,by omega,C5,R5,O5⟩
     {go_wp2;go_meet;exact⟨t,_,rfl,by omega,by omega,C3,R3,O3⟩}
    case rest =>
    clear C3 R3 O3;obtain⟨tx,q4,rfl,At,Ke,C5,R5,O5⟩:=hcut;go_wp2_with fail;have ZT:Hid (∀V:E,(∀j,j<I (J wc)->T j≠s.ownBlock->V.heap[j]?=wc.heap[j]?)->V.heap[I (J w)+1]?=T (N #[s,Y Z 0 0] 29 (0,0))/\B V (Q (I (J w)+1) 0 Z)=T s):=λV hV=>by have h1:=(hV (I (J w)+1) C5.lt λe=>by have:=(C5.src.lt _ e.c).1;omega).k C5.ab;exact⟨h1,by simp[World.cell?,h1]⟩
    refine aI (λV=>V.heap[I (J w)+1]?=T (N #[s,Y Z 0 0] 29 (0,0))/\B V (Q (I (J w)+1) 0 Z)=T s) 11 (by kernel_rfl) ?_;have M:=ae (ZT wc.drew (λj m _=>rfl));iterate 5
     refine aO 0 (v:=?_) rfl rfl (by kernel_rfl) (λ_ _ _ h=>h) rfl ?_ M ?_;rotate_left
     ·(rintro wz⟨s0,s1⟩;go_simp)
      (try with_reducible rfl)
     (try simp only[Act.put,yh])
    refine fs (i:=5) (v:=U (pG k)) rfl (by kernel_rfl) (by kernel_rfl) (by kernel_rfl) (by kernel_rfl) (λ_ _ _ h=>h) rfl ?_ M ?_;{intro wz _;go_simp;rw[eT ⟨by omega,by omega⟩,eT (by omega)];rfl}
    (try simp only[Act.put,yh])
    iterate 2
     refine aO 6 (v:=?_) rfl rfl (by kernel_rfl) (λ_ _ _ h=>h) rfl ?_ M ?_;rotate_left
     ·(rintro wz⟨s0,s1⟩;go_simp)
      (try with_reducible rfl)
     (try simp only[Act.put,yh])
    refine ai (i:=8) rfl (by kernel_rfl) λK b=>?_;go_simp;have Kh:=C5.lt;have AB:=ae (((BS wc).alloc ly (N #[U (pG k),U tx] 91)).drew);have C6:=ae (C5.aa AB);have J7:=AB.size;refine b _ _ (λ_=>ZT _ (λj m _=>AB.p j m)) ?_;clear b K M
    (try simp only[Act.put,yh])
    refine ai (i:=9) rfl (by kernel_rfl) λK b=>?_;refine aU rfl (.tmp 33) (.tmp 40) 26 rfl (I (J w)+2) 91 J4 (ZJ #[U ⟨#[]⟩,U ⟨#[]⟩]) 2 32 QH hi JY JX JU rfl (by decide) s (z o) (o.flatMap bF) (by simp[Act.eval]) C6.src (Q (I (J wc)) 0 Z) 1 1 (bF ⟨pG k,tx⟩) (by simp[Act.eval]) rfl (λj u hu=>df wc _ _ _ j u hu) (by simp[bF,Value.oneCell']) (by unfold maxLen;omega) (by omega) (by omega) ?_;intro v' w7 ZS ZV _;obtain⟨a7,c7,rfl⟩:=aJ ZS;have S7:=ae (ZT w7 (λj m ZR=>(ZV.p j (lj m AB.size) ZR).k (AB.p j m)));obtain⟨c8,b8⟩:=C6.addS ZS ZV;have C8:=ae c8;have B8:=ae b8;clear ZS ZV c8 b8;refine b _ _ (λ_=>S7) ?_;clear b K
    (try simp only[Act.put,yh])
    refine ai (i:=10) rfl (by kernel_rfl) λK b=>?_;go_simp;refine b _ _ (λ_=>S7) ?_;clear b K
    (try simp only[Act.put,yh])
    obtain⟨s7,t7⟩:=S7.i;have f7:w7.frozen? (Q (I (J w)+1) 0 Z)=ZA:=by simp[World.frozen?,s7]
    have l7:=aj s7;clear s7;refine ai (i:=11) rfl (by kernel_rfl) λK b=>?_;go_simp;refine b _ _ (λh=>absurd rfl h) ?_;clear b K
    (try simp only[Act.put,yh])
    refine ba (by kernel_rfl) ?_ _;go_wp2;have BB:=ae ((AB.P (show (I (J w))+1<=I (J wc) by omega)).k B8.i);go_roundg (5 - k);case measure=>omega
    case rel=>exact⟨k+1,q4,Y a7 (z o+1) c7,o++[(⟨pG k,tx⟩:Source)],by omega,by omega,by rw[cM];exact Nat.succ_le_succ Kl,by go_num,C8,GG.addS (x:=⟨pG k,tx⟩) (by show(pG k).size<=5000;rw[Cy k JV];omega) At,R5.low BB (by omega),O5.then (BB.P (BV _))⟩
   ·go_wp2;go_roundg (5 - k);case measure=>omega
    case rel=>exact⟨k+1,_,s,o,by omega,by omega,by omega,by go_num,C1,GG,R1,O1⟩
  ·obtain rfl:k=6:=by omega
   go_wp2_with fail;refine(ay R q 8 _ RR (by omega) (by omega) (by omega)).P ?_;rintro e w1⟨ZU,rfl,JQ,JP,n9,ZL⟩;have C1:=ae (CC.ac ZL A);have R1:=ae n9;have O1:=ae (OO.k ZL);clear n9 ZL;obtain⟨n,rfl⟩:∃n:Nat,ZU=(n:Int):=⟨ZU.toNat,by omega⟩
   go_wp2_with fail;go_loopg [7] (n+1) (λg i wr=>∃(j q:Nat) (v1:ZB) (f:List TR),j+g=n+1/\q<=p+73+620*j/\(z f)=j/\i=.int .i64 j/\Hid (SpB (I (J w)) wr s v1 o f)/\Hid (SpG o f)/\Hid (Rd wr R q)/\Hid (zd R w wr));case atStart=>exact⟨0,_,_,[],by omega,by omega,rfl,rfl,C1,GG,R1,O1⟩
   case round =>
    obtain⟨j,q2,v1,f,hj2,J0,ro,rfl,ZP,G2,R2,O2⟩:=hrel;obtain⟨a1,c1,rfl⟩:=aJ ZP.w.y;by_cases hjn:j<n+1
    ·have aq:Hid (z f=j):=ro;have hrn:z f<=8:=by omega
     clear ro;have Kd:IntKind.i64.wrap ((j:Int)+1)=(j:Int)+1:=by rw[nL];omega
     go_wp2_with fail;refine(fZ R q2 _ R2 (by omega)).P ?_;rintro e D⟨L,g,c,rfl,hI,Kn,hl2,hT,q3,hq3,ex,S⟩;have hlt2:=ZP.lt;have hs3:=S.size;have C3:=ae (ZP.ac S A);obtain⟨W4,ph⟩:∃W:E,D.alloc (N #[Y (T (Q g 0 Z)) (z L) c] 37)=W:=⟨_,rfl⟩
     obtain⟨B4,-,-⟩:=nb1 ph;have qr:=ae ph;clear ph;have P4:=ae (Ct (base:=I (J w)+2) (RT:=f) hI (by omega) (λr hr=>ZP.w.ltg r hr) (by omega) ⟨Kn,by omega⟩ hT);have C4:=ae (C3.aa B4);have R4:=ae (ex.aa B4 ly);have O4:=ae ((O2.k S).then (B4.P (by omega)));have D4:Hid (DP4 w R s (Y a1 (z f) c1) o f (I (J D)) q3 W4):=by cases qr.i;exact⟨C4,⟨_,_,_,_,P4⟩,R4,O4,A⟩
     clear ex S hI hT C3 C4 P4 R4 O4;go_upto_region 15 with fail;rw[qr.i];clear qr;clear B4;go_cut [59] (λJ6 ZM=>∃(b1:Bool) (q4:Nat),J6=.bool b1/\(b1=true->0<j)/\q4<=q3+1/\Hid (DP4 w R s (Y a1 (z f) c1) o f (I (J D)) q4 ZM));case first =>
      by_cases JM:0<(j:Int)
      {go_wp2_with fail;refine(ay R _ 5 _ D4.rd (by omega) (by omega) (by omega)).P ?_;rintro e w5⟨z5,rfl,h50,h51,ld,bt⟩;have D5:=ae (D4.ac bt ld);clear ld bt;go_wp2;go_meet;exact⟨_,_,rfl,λ_=>by omega,by omega,D5⟩};{go_wp2;go_meet;exact⟨_,_,rfl,λh=>by simp at h,by omega,D4⟩}
     case rest =>
     clear D4;obtain⟨b1,q4,rfl,Kj,Ke,D5⟩:=hcut;go_upto_if 59 with fail;go_cut [] (λZM=>∃q5:Nat,q5<=q4+1/\Hid (DP4 w R s (Y a1 (z f) c1) o f (I (J D)) q5 ZM));case first =>
      cases b1 with
      |true =>
       have JM:0<(j:Int):=by have:=Kj rfl;omega
       obtain⟨gt,_,rfl,_⟩:=ZP.w.atk (k:=0) (by have:=aq.i;omega);go_wp2_with fail;have ZT:Hid (∀V:E,(∀j,j<I (J wc)->j≠R->V.heap[j]?=wc.heap[j]?)->V.heap[I (J w)+1]?=T (N #[s,(Y (T (Q gt 0 Z)) (z f) c1)] 29 (0,0))/\B V (Q (I (J w)+1) 1 Z)=T (Y (T (Q gt 0 Z)) (z f) c1)):=λV hV=>by have h1:=(hV (I (J w)+1) D5.C.lt (by omega)).k D5.C.ab;exact⟨h1,by simp[World.cell?,h1]⟩
       refine aI (λV=>V.heap[I (J w)+1]?=T (N #[s,(Y (T (Q gt 0 Z)) (z f) c1)] 29 (0,0))/\B V (Q (I (J w)+1) 1 Z)=T (Y (T (Q gt 0 Z)) (z f) c1)) 11 (by kernel_rfl) ?_;have M:=ae (ZT wc.drew (λj m _=>rfl));iterate 6
        refine aO 0 (v:=?_) rfl rfl (by kernel_rfl) (λ_ _ _ h=>h) rfl ?_ M ?_;rotate_left
        ·(rintro wz⟨s0,s1⟩;go_simp)
         (try with_reducible rfl)
        (try simp only[Act.put,yh])
       refine ai (i:=6) rfl (by kernel_rfl) λK b=>?_;go_simp;go_at_call 25;refine(ay R _ (z f:Int) _ (D5.rd.aa br.drew ly) (by omega) (by have:=aq.i;omega) (by omega)).P ?_;rintro e w6⟨z6,rfl,JZ,JT,n8,fd⟩;obtain⟨k6,rfl⟩:∃k6:Nat,z6=(k6:Int):=⟨z6.toNat,by omega⟩
       have th:k6<z f:=by omega
       have ZN:Hid (zd R wc w6):=(zd.q br.drew).k fd;have ZO:=ae (D5.ac ZN n8);clear n8 fd;have S6:=ae (ZT w6 (λj m ZR=>ZN.p j m ZR));obtain⟨Kb,r6,Fd,J5,la,Kr,Ko,mv⟩:=ZO.C.w.atk th;have DE:=ae mv;have M6:=ae la;clear mv la;injection Fd with e1;injection e1 with e2;subst e2;refine b _ _ (λ_=>S6) ?_;clear b K M
       (try simp only[Act.put,yh])
       iterate 3
        refine bV 7 rfl rfl (by kernel_rfl) λK b=>?_;go_simp;refine b _ _ (λ_=>S6) ?_;clear b K
        (try simp only[Act.put,yh])
       refine ai (i:=10) rfl (by kernel_rfl) λK b=>?_;go_simp;go_at_call 50;refine(jf _ _ _ r6.1.u _ (by have:=(G2.t r6 M6).2.1.2;omega) DE).P ?_;rintro e w7⟨g7,c7,rfl,JK,sm⟩;have ur:=G2.t r6 M6.i;obtain⟨gp,cp,mp,fp,l⟩:=(ZO.aa sm).P;have D7:=ae (ZO.aa sm);have P8:=ae (l.put JK (by have:=ZO.C.lt;omega) (λr hr=>ZO.C.w.ltg r hr) ur.2.1 ur.2.2);have S7:=ae (ZT w7 (λj m ZR=>(sm.p j (lj m ZN.size)).k (ZN.p j m ZR)));have k7:=l.ad.c0;have z7:=l.ad.fz 0;have l7:=l.ad.lt;have Kc:=l.lo;have B8:=ae ((a8 (I (J D)) w7).setCell (p:=(Q (I (J D)) 0 Z)) ly (Y (T (Q g7 0 Z)) r6.1.h c7));have D8:Hid (DP4 w R s (Y (T (Q gt 0 Z)) (z f) c1) o f (I (J D)) _ (w7.setCell (Q (I (J D)) 0 Z) (Y (T (Q g7 0 Z)) r6.1.h c7))):=⟨D7.C.putP l.ad Kc (Y (T (Q g7 0 Z)) r6.1.h c7),⟨_,_,_,_,P8⟩,D7.rd.low B8 (by omega),D7.O.then (B8.P (by omega)),A⟩
       clear JK sm ur l P8 B8;refine b _ _ (λ_=>S7) ?_;clear b K
       (try simp only[Act.put,yh])
       refine ai (i:=11) rfl (by kernel_rfl) λK b=>?_;go_simp;refine b _ _ (λh=>absurd rfl h) ?_;clear b K k7 z7
       (try simp only[Act.put,yh])
       refine ba (by kernel_rfl) ?_ _;go_wp2;go_meet;exact⟨_,by omega,D8⟩
      |false =>go_wp2;go_meet;exact⟨q4,by omega,D5⟩
     case rest =>
     clear D5;obtain⟨q5,hq5,ZO⟩:=hcut;go_wp2_with fail;refine(ay R _ 2 _ ZO.rd (by omega) (by omega) (by omega)).P ?_;rintro e w9⟨z9,rfl,h90,h91,JL,Hx⟩;have D9:=ae (ZO.ac Hx JL);clear JL Hx ZO;go_upto_if 73 with fail;go_cut [9] (λ_ ZM=>∃q8:Nat,q8<=q5+12/\Hid (DP4 w R s (Y a1 (z f) c1) o f (I (J D)) q8 ZM));case first =>
      by_cases JW:z9=0
      ·subst JW;go_upto_if 75 with fail;go_cut [9] (λs9 ZM=>∃(nm:F_) (q6:Nat),s9=U nm/\nm.size<=5000/\q6<=q5+2/\Hid (DP4 w R s (Y a1 (z f) c1) o f (I (J D)) q6 ZM));case first =>
        by_cases JM:0<(j:Int)
        ·obtain⟨gt,_,rfl,_⟩:=ZP.w.atk (k:=0) (by have:=aq.i;omega);go_wp2_with fail;have ZT:Hid (∀V:E,(∀j,j<I (J w9)->j≠R->V.heap[j]?=w9.heap[j]?)->V.heap[I (J w)+1]?=T (N #[s,(Y (T (Q gt 0 Z)) (z f) c1)] 29 (0,0))/\B V (Q (I (J w)+1) 1 Z)=T (Y (T (Q gt 0 Z)) (z f) c1)):=λV hV=>by have h1:=(hV (I (J w)+1) D9.C.lt (by omega)).k D9.C.ab;exact⟨h1,by simp[World.cell?,h1]⟩
         refine aI (λV=>V.heap[I (J w)+1]?=T (N #[s,(Y (T (Q gt 0 Z)) (z f) c1)] 29 (0,0))/\B V (Q (I (J w)+1) 1 Z)=T (Y (T (Q gt 0 Z)) (z f) c1)) 10 (by kernel_rfl) ?_;have M:=ae (ZT w9.drew (λj m _=>rfl));iterate 6
          refine aO 0 (v:=?_) rfl rfl (by kernel_rfl) (λ_ _ _ h=>h) rfl ?_ M ?_;rotate_left
          ·(rintro wz⟨s0,s1⟩;go_simp)
           (try with_reducible rfl)
          (try simp only[Act.put,yh])
         refine ai (i:=6) rfl (by kernel_rfl) λK b=>?_;go_simp;go_at_call 25;refine(ay R _ (z f:Int) _ (D9.rd.aa br.drew ly) (by omega) (by have:=aq.i;omega) (by omega)).P ?_;rintro e w6⟨z6,rfl,JZ,JT,n8,fd⟩;obtain⟨k6,rfl⟩:∃k6:Nat,z6=(k6:Int):=⟨z6.toNat,by omega⟩
         have th:k6<z f:=by omega
         have ZN:Hid (zd R w9 w6):=(zd.q br.drew).k fd;have ZO:=ae (D9.ac ZN n8);clear n8 fd;have S6:=ae (ZT w6 (λj m ZR=>ZN.p j m ZR));obtain⟨Kb,r6,Fd,J5,la,Kr,Ko,mv⟩:=ZO.C.w.atk th;have DE:=ae mv;have M6:=ae la;clear mv la;injection Fd with e1;injection e1 with e2;subst e2;refine b _ _ (λ_=>S6) ?_;clear b K M
         (try simp only[Act.put,yh])
         iterate 3
          refine bV 7 rfl rfl (by kernel_rfl) λK b=>?_;go_simp;refine b _ _ (λ_=>S6) ?_;clear b K
          (try simp only[Act.put,yh])
         refine ai (i:=10) rfl (by kernel_rfl) λK b=>?_;go_simp;refine b _ _ (λh=>absurd rfl h) ?_;have DQ:=(G2.t r6 M6).1;clear b K ZT S6 DE M6
         (try simp only[Act.put,yh])
         refine ba (by kernel_rfl) ?_ _;go_wp2;go_meet;exact⟨r6.1.e,_,rfl,DQ,by omega,ZO⟩
        {go_wp2;go_meet;exact⟨⟨#[97]⟩,_,rfl,by decide,by omega,D9⟩}
       case rest =>
       clear D9;obtain⟨nm,q6,rfl,DQ,hq6,Km⟩:=hcut;go_wp2_with fail;refine(bC _ _).P ?_;rintro e wa⟨rfl,G⟩;have Da:=ae (Km.aa G);clear G;go_wp2_with fail;refine(bq 12 _).P ?_;rintro e wb⟨rfl,G⟩;have Db:=ae (Da.aa G);clear G Da;go_wp2_with fail;refine(fT R _ _ Db.rd (by omega)).P ?_;rintro e wd⟨tc,rfl,htc,qc,hqc,hR,hO⟩;have Dd:=ae (Db.ac hO hR);clear hO hR Db;go_wp2_with fail;refine(bC tc _).P ?_;rintro e we⟨rfl,G⟩;have De:=ae (Dd.aa G);clear G Dd;go_wp2_with fail;refine(bq 2 _).P ?_;rintro e wf⟨rfl,G⟩;have Df:=ae (De.aa G);clear G De;go_wp2_with fail;refine(ay R _ 9 _ Df.rd (by omega) (by omega) (by omega)).P ?_;rintro e wg⟨zf,rfl,hf0,hf1,hR,hO⟩;have Dg:=ae (Df.ac hO hR);clear hO hR Df;go_wp2_with fail;refine(bS 3 _ _).P ?_;rintro e wi⟨rfl,G⟩;have Di:=ae (Dg.aa G);clear G Dg;go_wp2_with fail;refine(bq 15 _).P ?_;rintro e wh⟨rfl,G⟩;have Dh:=ae (Di.aa G);clear G Di;obtain⟨gp,cp,mp,fp,l⟩:=Dh.P;have kh:=l.ad.c0;have zh:=l.ad.fz 0;have lh:=l.ad.lt;have J8:=ae (l.six (λr hr=>Dh.C.w.ltg r hr) (by have:=Dh.C.lt;omega) nm tc (1+zf) DQ (by omega));have JJ:(wh.setCell (Q (I (J D)) 0 Z) (Y (T (Q (I (J wh)) 0 Z)) 6 6)).heap.size=I (J wh):=by simp
       have lo10:=l.lo;have Ba:=ae (((a8 (I (J D)) wh).setCell (p:=(Q (I (J D)) 0 Z)) ly (Y (T (Q (I (J wh)) 0 Z)) 6 6)).alloc (by rw[JJ];omega) (N (rM nm tc (1+zf)) 124));have Kg:=ae ((Dh.C.putP l.ad l.lo (Y (T (Q (I (J wh)) 0 Z)) 6 6)).aa (br.alloc ly (N (rM nm tc (1+zf)) 124)));have JS:=ae (Dh.rd.low Ba (by omega));have Kf:=ae (Dh.O.then (Ba.P (by omega)));clear Ba l JJ;go_wp2;go_meet;exact⟨_,by omega,Kg,⟨_,_,_,_,J8⟩,JS,Kf,A⟩
      {go_wp2;go_meet;exact⟨_,by omega,D9⟩}
     case rest =>
     clear D9;obtain⟨q8,hq8,ZQ⟩:=hcut;go_wp2_with fail;obtain⟨gp,cp,mp,fp,l⟩:=ZQ.P;have PP:=ae l;clear l;have ZT:Hid (∀V:E,(∀j,j<I (J wc)->T j≠(Value.slice a1 (z f) c1).ownBlock->V.heap[j]?=wc.heap[j]?)->V.heap[I (J w)+1]?=T (N #[s,Y a1 (z f) c1] 29 (0,0))/\B V (Q (I (J w)+1) 1 Z)=T (Y a1 (z f) c1)/\B V (Q (I (J D)) 0 Z)=T (Y (T (Q gp 0 Z)) mp cp)):=λV hV=>by
      have h1:=(hV (I (J w)+1) ZQ.C.lt λe=>by have:=(ZQ.C.w.y.lt _ e.c).1;omega).k ZQ.C.ab
      have h2:PB V (I (J D)) (Y (T (Q gp 0 Z)) mp cp):=(hV (I (J D)) PP.ad.lt λe=>by
       obtain⟨cur,JR⟩:=ZQ.C.w.type _ e.c;have h3:=PP.ad.c.k JR
       cases h3).k PP.ad
      exact⟨h1,by simp[World.cell?,h1],h2.c0⟩
     refine aI (λV=>V.heap[I (J w)+1]?=T (N #[s,Y a1 (z f) c1] 29 (0,0))/\B V (Q (I (J w)+1) 1 Z)=T (Y a1 (z f) c1)/\B V (Q (I (J D)) 0 Z)=T (Y (T (Q gp 0 Z)) mp cp)) 10 (by kernel_rfl) ?_;have M:=ae (ZT wc.drew (λj m _=>rfl));iterate 3
      refine aO 0 (v:=?_) rfl rfl (by kernel_rfl) (λ_ _ _ h=>h) rfl ?_ M ?_;rotate_left
      ·(rintro wz⟨s0,s1,s2⟩;go_simp)
       (try with_reducible rfl)
      (try simp only[Act.put,yh])
     refine aO 5 (v:=?_) rfl rfl (by kernel_rfl) (λ_ _ _ h=>h) rfl ?_ M ?_;rotate_left
     ·(rintro wz⟨s0,s1,s2⟩;go_simp)
      (try with_reducible rfl)
     (try simp only[Act.put,yh])
     refine ai (i:=3) rfl (by kernel_rfl) λK b=>?_;go_simp;go_at_call 69;refine(iK j (by omega) _).P ?_;rintro e wt⟨rfl,JO⟩;have BT:Hid (Below (I (J wc)) wc wt):=(BS wc).drew.k JO;clear JO;refine b _ _ (λ_=>ZT _ (λj m _=>BT.p j m)) ?_;clear b K M
     (try simp only[Act.put,yh])
     refine ai (i:=4) rfl (by kernel_rfl) λK b=>?_;go_simp;refine b _ _ (λ_=>ZT _ (λj m _=>BT.p j m)) ?_;clear b K
     (try simp only[Act.put,yh])
     have JG:((⟨#[116]⟩:F_)++⟨#[dig j]⟩).size<=5000:=by have e1:(⟨#[116]⟩:F_).size=1:=rfl;have e2:(⟨#[dig j]⟩:F_).size=1:=rfl;simp only[PV,e1,e2];omega
     generalize (⟨#[116]⟩:F_)++⟨#[dig j]⟩=tn at JG ⊢;refine ai (i:=6) rfl (by kernel_rfl) λK b=>?_;go_simp;refine b _ _ (λ_=>ZT _ (λj m _=>BT.p j m)) ?_;clear b K
     (try simp only[Act.put,yh])
     refine ai (i:=7) rfl (by kernel_rfl) λK b=>?_;go_simp;have Kh:=ZQ.C.lt;have hzt:=BT.size;have AB:=ae (BT.alloc (by omega) (N #[U tn,Y (T (Q gp 0 Z)) mp cp] 95));have Id:=ae (ZQ.C.aa AB);have JI:=ae (PP.aa AB ly);have J7:=AB.size;refine b _ _ (λ_=>ZT _ (λj m _=>AB.p j m)) ?_;clear b K
     (try simp only[Act.put,yh])
     refine ai (i:=8) rfl (by kernel_rfl) λK b=>?_;refine aU rfl (.tmp 101) (.tmp 107) 27 rfl (I (J w)+2) 95 Kq (ZJ #[U ⟨#[]⟩,Y Z 0 0]) 2 40 ON m Kp Ki Ka rfl (by decide) (Y a1 (z f) c1) (z f) (f.flatMap aZ) (by simp[Act.eval]) Id.w.y (Q (I (J wt)) 0 Z) 1 1 (aZ (⟨tn,mp,fp⟩,gp,cp)) (by simp[Act.eval]) rfl (λj u hu=>df wt _ _ _ j u hu) (by simp[aZ,Value.oneCell']) (by unfold maxLen;omega) (by omega) (by omega) ?_;intro v' w7 ZS ZV _;obtain⟨a7,c7,rfl⟩:=aJ ZS;have S7:=ae (ZT w7 (λj m ZR=>(ZV.p j (lj m AB.size) ZR).k (AB.p j m)));obtain⟨c8,b8⟩:=Id.addT (x:=⟨tn,mp,fp⟩) (g:=gp) (c:=cp) JI.new JI.y ZS ZV;have Kk:=ae c8;have J9:=ae b8;clear ZS ZV c8 b8;refine b _ _ (λ_=>S7) ?_;clear b K
     (try simp only[Act.put,yh])
     refine ai (i:=9) rfl (by kernel_rfl) λK b=>?_;go_simp;refine b _ _ (λ_=>S7) ?_;clear b K
     (try simp only[Act.put,yh])
     obtain⟨s7,t7,y7⟩:=S7.i;have f7:w7.frozen? (Q (I (J w)+1) 1 Z)=ZA:=by simp[World.frozen?,s7]
     have l7:=aj s7;clear s7 y7;refine ai (i:=10) rfl (by kernel_rfl) λK b=>?_;go_simp;refine b _ _ (λh=>absurd rfl h) ?_;clear b K
     (try simp only[Act.put,yh])
     refine ba (by kernel_rfl) ?_ _;go_wp2;have BB:=ae ((AB.P (show (I (J w))+1<=I (J wc) by omega)).k J9.i);go_roundg (n - j);case measure=>omega
     case rel=>exact⟨j+1,q8,Y a7 (z f+1) c7,f++[((⟨tn,mp,fp⟩,gp,cp):TR)],by omega,by omega,by rw[cM,aq.i];rfl,by go_num,Kk,G2.addT (r:=(⟨tn,mp,fp⟩,gp,cp)) JG PP.num PP.sz,ZQ.rd.low BB (by omega),ZQ.O.then (BB.P (BV _))⟩
    ·obtain rfl:j=n+1:=by omega
     obtain⟨a0,c0,rfl⟩:=aJ ZP.src;obtain⟨k0,k1⟩:=ZP.cells;have kr:=ZP.res;have r0:B wr (Q (I (J w)) 0 Z)=T (Y Z 0 0):=by simp[World.cell?,kr]
     have r1:B wr (Q (I (J w)) 1 Z)=T (Y Z 0 0):=by simp[World.cell?,kr]
     have f0:wr.frozen? (Q (I (J w)) 0 Z)=ZA:=by simp[World.frozen?,kr]
     have f1:wr.frozen? (Q (I (J w)) 1 Z)=ZA:=by simp[World.frozen?,kr]
     have l0:=aj kr;have l1:=ZP.lt;clear kr;have BE:=ae (((a8 (I (J w)) wr).setCell (p:=(Q (I (J w)) 0 Z)) ly (Y a0 (z o) c0)).setCell (p:=(Q (I (J w)) 1 Z)) ly (Y a1 (z f) c1));have OE:=ae (aH (aH ZP.src (R:=I (J w)) (j:=0) (by omega) (Y a0 (z o) c0)) (R:=I (J w)) (j:=1) (by omega) (Y a1 (z f) c1));have TE:=ae ((ZP.w.set (X:=I (J w)) (j:=0) (by omega) (Y a0 (z o) c0)).set (X:=I (J w)) (j:=1) (by omega) (Y a1 (z f) c1));have aq:Hid (z f=n+1):=ro;clear ro;go_wp2;exact bp (v:=ZJ #[Y a0 (z o) c0,Y a1 (z f) c1]) (by simp[results,results85,go_sem,r0,r1]) rfl ⟨o,f,_,_,rfl,OE,TE,G2,by omega,by have:=aq.i;omega,q2,by omega,R2.low BE A,O2.then BE⟩
