import Derived.Test.YtcnilonhfpimnaaGreatDoorEA
import Derived.Test.YtcnilonhfpimnaaGreatDoorFS
import Derived.Deep.LoopGhost
set_option linter.all false
set_option maxRecDepth 100000
set_option maxHeartbeats 8000000
open Go renaming Addr.mk->T,Value.slice->Y,Value.string->U,Value.agg->ZJ,Obj.cells->N,World->E,Value->ZB,World.heap->J,World.cell?->B,Act.put->p_
open Option renaming none->Z,some->Q
open Bool renaming false->ZA
open Array renaming size->I
open List renaming length->z
namespace Go.Proofs.YtcnilonhfpimnaaGreatDoor.Vp
open Tryz RowKit Ca
def DSp (w:E)(R q l m:Nat)(e:Ending)(f:E):Prop:=∃(b:List Source) (g:List TR) (h i:ZB),e=.returned (ZJ #[h,i])/\f.ownsRow (I (J w)+2) 82 2 h (z b) (b.flatMap bF)/\TRow f (I (J w)+2) i g/\SpG b g/\(z b)<=l/\(z g)<=m/\∃j:Nat,j<=q/\Rd f R j/\zt R w f
def pG (k:Nat):F_:=(⟨#[97,98,99,100,101,102]⟩:F_).extract k (k+1)
def Cy:∀k,k<6->(pG k).size=1:=by decide
structure DP4 (w:E)(R:Nat)(v0 v1:ZB)(LS:List Source)(RT:List TR)(b q:Nat)(W:E):Prop where
 C:SpB (I (J w)) W v0 v1 LS RT
 P:∃g c n f,PrG (I (J w)+2) W RT b g c n f
 rd:Rd W R q
 O:zt R w W
 low:R<I (J w)
def DP4.ac {w W i:E}{R b q m:Nat}{o p:ZB}{l:List Source}{r:List TR}(h:DP4 w R o p l r b q W)(j:zt R W i)(hR:Rd i R m):DP4 w R o p l r b m i:=by have hl:=h.low;obtain⟨g,c,n,f,s⟩:=h.P;exact⟨h.C.ac j h.low,⟨g,c,n,f,s.ac j (by omega)⟩,hR,h.O.k j,h.low⟩
def DP4.aa {w W j:E}{R b q:Nat}{p l:ZB}{o:List Source}{m:List TR}(h:DP4 w R p l o m b q W)(i:Below (I (J W)) W j):DP4 w R p l o m b q j:=by obtain⟨g,c,n,f,r⟩:=h.P;exact⟨h.C.aa i,⟨g,c,n,f,r.aa i ly⟩,h.rd.aa i ly,h.O.then (i.P h.O.size),h.low⟩
def qO (R p:Nat)(w:E)(hR:Rd w R p)(hp:p<=10000):Calls Tryz.prog 70 #[.pointer (Q (T R 0 Z))] w λe w'=>DSp w R (p+5100) 6 8 e w':=by
 have HR:=ae hR;have s:=hR.lt;clear hR;have C0:=ae (H9 w);obtain⟨W,Fk⟩:∃W:E,(w.alloc (N #[Y Z 0 0,Y Z 0 0] 29)).alloc (N #[Y Z 0 0,Y Z 0 0] 29)=W:=⟨_,rfl⟩
 obtain⟨B0,-,-,-⟩:=nb2 Fk;have Hx:=ae Fk;clear Fk;obtain⟨Kj,hi,Kf,J6,Kr⟩:=NO jn;obtain⟨Kd,m,Ko,Kk,JX⟩:=NO fw;go_enter func70,ntmps70;go_wp2_with fail;rw[Hx.i] at C0 ⊢;clear Hx;have R0:=ae (HR.aa B0 ly);have O0:Hid (zt R w W):=zt.l B0;go_loopg [4] 6 (λg i wr=>∃(k q:Nat) (o:ZB) (A:List Source),k+g=6/\q<=p+12*k/\(z A)<=k/\i=.int .i64 k/\Hid (SpB (I (J w)) wr o (Y Z 0 0) A [])/\Hid (SpG A [])/\Hid (Rd wr R q)/\Hid (zt R w wr));case atStart=>exact⟨0,p,_,[],by omega,by omega,p7 _,rfl,C0,H7,R0,O0⟩
 case round =>
  obtain⟨k,q,o,A,hk,hq,J5,rfl,CC,GG,RR,OO⟩:=hrel;by_cases JT:k<6
  ·have J0:IntKind.i64.wrap ((k:Int)+1)=(k:Int)+1:=by rw[nL];omega
   go_wp2_with fail;refine(ay R q 5 _ RR (by omega) (by omega) (by omega)).P ?_;rintro e w1⟨ZU,rfl,JP,JQ,mv,ZL⟩;have C1:=ae (CC.ac ZL s);have R1:=ae mv;have O1:=ae (OO.k ZL);clear mv ZL;by_cases hz:0<ZU
   ·go_wp2_with fail;refine(fT R _ _ R1 (by omega)).P ?_;rintro e w2⟨t,rfl,ht,q2,Ka,GS,ur⟩;have M:=ae (C1.ac ur s);have R2:=ae GS;have O2:=ae (O1.k ur);clear GS ur;go_wp2_with fail;refine(ay R _ 2 _ R2 (by omega) (by omega) (by omega)).P ?_;rintro e ZT⟨y,rfl,hy0',hy1',n8,S⟩;have C3:=ae (M.ac S s);have R3:=ae n8;have O3:=ae (O2.k S);clear n8 S;go_upto_if 22 with fail;go_cut [5] (λs5 ZN=>∃(tx:F_) (q4:Nat),s5=U tx/\tx.size<=5000/\q4<=q2+3/\Hid (SpB (I (J w)) ZN o (Y Z 0 0) A [])/\Hid (Rd ZN R q4)/\Hid (zt R w ZN));case first =>
     by_cases hy:y=0
     ·subst hy;go_wp2_with fail;refine(dH R _ _ R3 (by omega)).P ?_;rintro e w4⟨s1,rfl,hs1,JI,Bk⟩;have C4:=ae (C3.ac Bk s);have R4:=ae JI;have O4:=ae (O3.k Bk);clear JI Bk;go_wp2_with fail;refine(dH R _ _ R4 (by omega)).P ?_;rintro e w5⟨s2,rfl,hs2,ex,bt⟩;have C5:=ae (C4.ac bt s);have R5:=ae ex;have O5:=ae (O4.k bt);clear ex bt;have th:(s1++⟨#[32]⟩++s2++⟨#[32]⟩++t).size<=5000:=by have e:(⟨#[32]⟩:F_).size=1:=rfl;simp only[PU,e];omega
      go_wp2;go_meet;exact⟨_,_,rfl,th,by omega,C5,R5,O5⟩
     {go_wp2;go_meet;exact⟨t,_,rfl,by omega,by omega,C3,R3,O3⟩}
    case rest =>
    clear C3 R3 O3;obtain⟨tx,q4,rfl,th,J9,C5,R5,O5⟩:=hcut;go_wp2_with fail;have D:Hid (∀V:E,(∀j,j<I (J wc)->Q j≠o.ownBlock->V.heap[j]?=wc.heap[j]?)->V.heap[I (J w)+1]?=Q (N #[o,Y Z 0 0] 29 (0,0))/\B V (T (I (J w)+1) 0 Z)=Q o):=λV hV=>by have h1:=(hV (I (J w)+1) C5.lt λe=>by have:=(C5.src.lt _ e.c).1;omega).k C5.ab;exact⟨h1,by simp[World.cell?,h1]⟩
    refine aI (λV=>V.heap[I (J w)+1]?=Q (N #[o,Y Z 0 0] 29 (0,0))/\B V (T (I (J w)+1) 0 Z)=Q o) 11 (by kernel_rfl) ?_;have ZO:=ae (D wc.drew (λj m _=>rfl));iterate 5
     refine aO 0 (v:=?_) rfl rfl (by kernel_rfl) (λ_ _ _ h=>h) rfl ?_ ZO ?_;rotate_left
     ·(rintro wz⟨s0,s1⟩;go_simp)
      (try with_reducible rfl)
     (try simp only[p_,z_])
    refine fs (i:=5) (v:=U (pG k)) rfl (by kernel_rfl) (by kernel_rfl) (by kernel_rfl) (by kernel_rfl) (λ_ _ _ h=>h) rfl ?_ ZO ?_;{intro wz _;go_simp;rw[eT ⟨by omega,by omega⟩,eT (by omega)];rfl}
    (try simp only[p_,z_])
    iterate 2
     refine aO 6 (v:=?_) rfl rfl (by kernel_rfl) (λ_ _ _ h=>h) rfl ?_ ZO ?_;rotate_left
     ·(rintro wz⟨s0,s1⟩;go_simp)
      (try with_reducible rfl)
     (try simp only[p_,z_])
    refine ai (i:=8) rfl (by kernel_rfl) λK b=>?_;go_simp;have JS:=C5.lt;have AB:=ae (((BS wc).alloc ly (N #[U (pG k),U tx] 82)).drew);have C6:=ae (C5.aa AB);have Kh:=AB.size;refine b _ _ (λ_=>D _ (λj m _=>AB.p j m)) ?_;clear b K ZO
    (try simp only[p_,z_])
    refine ai (i:=9) rfl (by kernel_rfl) λK b=>?_;refine aU rfl (.tmp 33) (.tmp 40) 26 rfl (I (J w)+2) 82 Kj (ZJ #[U ⟨#[]⟩,U ⟨#[]⟩]) 2 32 QG hi Kf J6 Kr rfl (by decide) o (z A) (A.flatMap bF) (by simp[Act.eval]) C6.src (T (I (J wc)) 0 Z) 1 1 (bF ⟨pG k,tx⟩) (by simp[Act.eval]) rfl (λj u hu=>df wc _ _ _ j u hu) (by simp[bF,Value.oneCell']) (by unfold maxLen;omega) (by omega) (by omega) ?_;intro v' w7 ZS ZV _;obtain⟨a7,c7,rfl⟩:=aJ ZS;have S7:=ae (D w7 (λj m ZR=>(ZV.p j (lj m AB.size) ZR).k (AB.p j m)));obtain⟨c8,b8⟩:=C6.addS ZS ZV;have C8:=ae c8;have B8:=ae b8;clear ZS ZV c8 b8;refine b _ _ (λ_=>S7) ?_;clear b K
    (try simp only[p_,z_])
    refine ai (i:=10) rfl (by kernel_rfl) λK b=>?_;go_simp;refine b _ _ (λ_=>S7) ?_;clear b K
    (try simp only[p_,z_])
    obtain⟨s7,t7⟩:=S7.i;have f7:w7.frozen? (T (I (J w)+1) 0 Z)=ZA:=by simp[World.frozen?,s7]
    have l7:=aj s7;clear s7;refine ai (i:=11) rfl (by kernel_rfl) λK b=>?_;go_simp;refine b _ _ (λh=>absurd rfl h) ?_;clear b K
    (try simp only[p_,z_])
    refine ba (by kernel_rfl) ?_ _;go_wp2;have BB:=ae ((AB.P (show (I (J w))+1<=I (J wc) by omega)).k B8.i);go_roundg (5 - k);case measure=>omega
    case rel=>exact⟨k+1,q4,Y a7 (z A+1) c7,A++[(⟨pG k,tx⟩:Source)],by omega,by omega,by rw[cM];exact Nat.succ_le_succ J5,by go_num,C8,GG.addS (x:=⟨pG k,tx⟩) (by show(pG k).size<=5000;rw[Cy k JT];omega) th,R5.low BB (by omega),O5.then (BB.P (BV _))⟩
   ·go_wp2;go_roundg (5 - k);case measure=>omega
    case rel=>exact⟨k+1,_,o,A,by omega,by omega,by omega,by go_num,C1,GG,R1,O1⟩
  ·obtain rfl:k=6:=by omega
   go_wp2_with fail;refine(ay R q 8 _ RR (by omega) (by omega) (by omega)).P ?_;rintro e w1⟨ZU,rfl,JP,JQ,mv,ZL⟩;have C1:=ae (CC.ac ZL s);have R1:=ae mv;have O1:=ae (OO.k ZL);clear mv ZL;obtain⟨n,rfl⟩:∃n:Nat,ZU=(n:Int):=⟨ZU.toNat,by omega⟩
   go_wp2_with fail;go_loopg [7] (n+1) (λg i wr=>∃(j q:Nat) (v1:ZB) (f:List TR),j+g=n+1/\q<=p+73+620*j/\(z f)=j/\i=.int .i64 j/\Hid (SpB (I (J w)) wr o v1 A f)/\Hid (SpG A f)/\Hid (Rd wr R q)/\Hid (zt R w wr));case atStart=>exact⟨0,_,_,[],by omega,by omega,rfl,rfl,C1,GG,R1,O1⟩
   case round =>
    obtain⟨j,q2,v1,f,hj2,Ka,sm,rfl,M,G2,R2,O2⟩:=hrel;obtain⟨a1,c1,rfl⟩:=aJ M.w.u;by_cases hjn:j<n+1
    ·have aq:Hid (z f=j):=sm;have hrn:z f<=8:=by omega
     clear sm;have J0:IntKind.i64.wrap ((j:Int)+1)=(j:Int)+1:=by rw[nL];omega
     go_wp2_with fail;refine(fZ R q2 _ R2 (by omega)).P ?_;rintro e ZT⟨L,g,c,rfl,hI,Kg,hl2,hT,q3,hq3,n8,S⟩;have hlt2:=M.lt;have hs3:=S.size;have C3:=ae (M.ac S s);obtain⟨W4,ph⟩:∃W:E,ZT.alloc (N #[Y (Q (T g 0 Z)) (z L) c] 37)=W:=⟨_,rfl⟩
     obtain⟨B4,-,-⟩:=nb1 ph;have qr:=ae ph;clear ph;have P4:=ae (Ct (base:=I (J w)+2) (RT:=f) hI (by omega) (λr hr=>M.w.ltg r hr) (by omega) ⟨Kg,by omega⟩ hT);have C4:=ae (C3.aa B4);have R4:=ae (n8.aa B4 ly);have O4:=ae ((O2.k S).then (B4.P (by omega)));have D4:Hid (DP4 w R o (Y a1 (z f) c1) A f (I (J ZT)) q3 W4):=by cases qr.i;exact⟨C4,⟨_,_,_,_,P4⟩,R4,O4,s⟩
     clear n8 S hI hT C3 C4 P4 R4 O4;go_upto_region 15 with fail;rw[qr.i];clear qr;clear B4;go_cut [59] (λJ7 ZN=>∃(b1:Bool) (q4:Nat),J7=.bool b1/\(b1=true->0<j)/\q4<=q3+1/\Hid (DP4 w R o (Y a1 (z f) c1) A f (I (J ZT)) q4 ZN));case first =>
      by_cases JM:0<(j:Int)
      {go_wp2_with fail;refine(ay R _ 5 _ D4.rd (by omega) (by omega) (by omega)).P ?_;rintro e w5⟨z5,rfl,h50,h51,ex,bt⟩;have D5:=ae (D4.ac bt ex);clear ex bt;go_wp2;go_meet;exact⟨_,_,rfl,λ_=>by omega,by omega,D5⟩};{go_wp2;go_meet;exact⟨_,_,rfl,λh=>by simp at h,by omega,D4⟩}
     case rest =>
     clear D4;obtain⟨b1,q4,rfl,J8,J9,D5⟩:=hcut;go_upto_if 59 with fail;go_cut [] (λZN=>∃q5:Nat,q5<=q4+1/\Hid (DP4 w R o (Y a1 (z f) c1) A f (I (J ZT)) q5 ZN));case first =>
      cases b1 with
      |true =>
       have JM:0<(j:Int):=by have:=J8 rfl;omega
       obtain⟨gt,_,rfl,_⟩:=M.w.atk (k:=0) (by have:=aq.i;omega);go_wp2_with fail;have D:Hid (∀V:E,(∀j,j<I (J wc)->j≠R->V.heap[j]?=wc.heap[j]?)->V.heap[I (J w)+1]?=Q (N #[o,(Y (Q (T gt 0 Z)) (z f) c1)] 29 (0,0))/\B V (T (I (J w)+1) 1 Z)=Q (Y (Q (T gt 0 Z)) (z f) c1)):=λV hV=>by have h1:=(hV (I (J w)+1) D5.C.lt (by omega)).k D5.C.ab;exact⟨h1,by simp[World.cell?,h1]⟩
       refine aI (λV=>V.heap[I (J w)+1]?=Q (N #[o,(Y (Q (T gt 0 Z)) (z f) c1)] 29 (0,0))/\B V (T (I (J w)+1) 1 Z)=Q (Y (Q (T gt 0 Z)) (z f) c1)) 11 (by kernel_rfl) ?_;have ZO:=ae (D wc.drew (λj m _=>rfl));iterate 6
        refine aO 0 (v:=?_) rfl rfl (by kernel_rfl) (λ_ _ _ h=>h) rfl ?_ ZO ?_;rotate_left
        ·(rintro wz⟨s0,s1⟩;go_simp)
         (try with_reducible rfl)
        (try simp only[p_,z_])
       refine ai (i:=6) rfl (by kernel_rfl) λK b=>?_;go_simp;go_at_call 19;refine(ay R _ (z f:Int) _ (D5.rd.aa br.drew ly) (by omega) (by have:=aq.i;omega) (by omega)).P ?_;rintro e w6⟨z6,rfl,Kc,Km,fd,n9⟩;obtain⟨k6,rfl⟩:∃k6:Nat,z6=(k6:Int):=⟨z6.toNat,by omega⟩
       have Fd:k6<z f:=by omega
       have ZM:Hid (zt R wc w6):=(zt.l br.drew).k n9;have ZP:=ae (D5.ac ZM fd);clear fd n9;have S6:=ae (D w6 (λj m ZR=>ZM.p j m ZR));obtain⟨Kn,r6,At,JV,ld,Kq,Ke,la⟩:=ZP.C.w.atk Fd;have Fm:=ae la;have M6:=ae ld;clear la ld;injection At with e1;injection e1 with e2;subst e2;refine b _ _ (λ_=>S6) ?_;clear b K ZO
       (try simp only[p_,z_])
       iterate 3
        refine bV 7 rfl rfl (by kernel_rfl) λK b=>?_;go_simp;refine b _ _ (λ_=>S6) ?_;clear b K
        (try simp only[p_,z_])
       refine ai (i:=10) rfl (by kernel_rfl) λK b=>?_;go_simp;go_at_call 44;refine(jf _ _ _ r6.1.q _ (by have:=(G2.t r6 M6).2.1.2;omega) Fm).P ?_;rintro e w7⟨g7,c7,rfl,JJ,ro⟩;have DQ:=G2.t r6 M6.i;obtain⟨gp,cp,mp,fp,l⟩:=(ZP.aa ro).P;have D7:=ae (ZP.aa ro);have P8:=ae (l.put JJ (by have:=ZP.C.lt;omega) (λr hr=>ZP.C.w.ltg r hr) DQ.2.1 DQ.2.2);have S7:=ae (D w7 (λj m ZR=>(ro.p j (lj m ZM.size)).k (ZM.p j m ZR)));have k7:=l.ad.c0;have z7:=l.ad.fz 0;have l7:=l.ad.lt;have JW:=l.lo;have B8:=ae ((a8 (I (J ZT)) w7).setCell (p:=(T (I (J ZT)) 0 Z)) ly (Y (Q (T g7 0 Z)) r6.1.h c7));have D8:Hid (DP4 w R o (Y (Q (T gt 0 Z)) (z f) c1) A f (I (J ZT)) _ (w7.setCell (T (I (J ZT)) 0 Z) (Y (Q (T g7 0 Z)) r6.1.h c7))):=⟨D7.C.putP l.ad JW (Y (Q (T g7 0 Z)) r6.1.h c7),⟨_,_,_,_,P8⟩,D7.rd.low B8 (by omega),D7.O.then (B8.P (by omega)),s⟩
       clear JJ ro DQ l P8 B8;refine b _ _ (λ_=>S7) ?_;clear b K
       (try simp only[p_,z_])
       refine ai (i:=11) rfl (by kernel_rfl) λK b=>?_;go_simp;refine b _ _ (λh=>absurd rfl h) ?_;clear b K k7 z7
       (try simp only[p_,z_])
       refine ba (by kernel_rfl) ?_ _;go_wp2;go_meet;exact⟨_,by omega,D8⟩
      |false =>go_wp2;go_meet;exact⟨q4,by omega,D5⟩
     case rest =>
     clear D5;obtain⟨q5,hq5,ZP⟩:=hcut;go_wp2_with fail;refine(ay R _ 2 _ ZP.rd (by omega) (by omega) (by omega)).P ?_;rintro e w9⟨z9,rfl,h90,h91,JN,JL⟩;have D9:=ae (ZP.ac JL JN);clear JN JL ZP;go_upto_if 73 with fail;go_cut [9] (λ_ ZN=>∃q8:Nat,q8<=q5+12/\Hid (DP4 w R o (Y a1 (z f) c1) A f (I (J ZT)) q8 ZN));case first =>
      by_cases Kp:z9=0
      ·subst Kp;go_upto_if 75 with fail;go_cut [9] (λs9 ZN=>∃(nm:F_) (q6:Nat),s9=U nm/\nm.size<=5000/\q6<=q5+2/\Hid (DP4 w R o (Y a1 (z f) c1) A f (I (J ZT)) q6 ZN));case first =>
        by_cases JM:0<(j:Int)
        ·obtain⟨gt,_,rfl,_⟩:=M.w.atk (k:=0) (by have:=aq.i;omega);go_wp2_with fail;have D:Hid (∀V:E,(∀j,j<I (J w9)->j≠R->V.heap[j]?=w9.heap[j]?)->V.heap[I (J w)+1]?=Q (N #[o,(Y (Q (T gt 0 Z)) (z f) c1)] 29 (0,0))/\B V (T (I (J w)+1) 1 Z)=Q (Y (Q (T gt 0 Z)) (z f) c1)):=λV hV=>by have h1:=(hV (I (J w)+1) D9.C.lt (by omega)).k D9.C.ab;exact⟨h1,by simp[World.cell?,h1]⟩
         refine aI (λV=>V.heap[I (J w)+1]?=Q (N #[o,(Y (Q (T gt 0 Z)) (z f) c1)] 29 (0,0))/\B V (T (I (J w)+1) 1 Z)=Q (Y (Q (T gt 0 Z)) (z f) c1)) 10 (by kernel_rfl) ?_;have ZO:=ae (D w9.drew (λj m _=>rfl));iterate 6
          refine aO 0 (v:=?_) rfl rfl (by kernel_rfl) (λ_ _ _ h=>h) rfl ?_ ZO ?_;rotate_left
          ·(rintro wz⟨s0,s1⟩;go_simp)
           (try with_reducible rfl)
          (try simp only[p_,z_])
         refine ai (i:=6) rfl (by kernel_rfl) λK b=>?_;go_simp;go_at_call 19;refine(ay R _ (z f:Int) _ (D9.rd.aa br.drew ly) (by omega) (by have:=aq.i;omega) (by omega)).P ?_;rintro e w6⟨z6,rfl,Kc,Km,fd,n9⟩;obtain⟨k6,rfl⟩:∃k6:Nat,z6=(k6:Int):=⟨z6.toNat,by omega⟩
         have Fd:k6<z f:=by omega
         have ZM:Hid (zt R w9 w6):=(zt.l br.drew).k n9;have ZP:=ae (D9.ac ZM fd);clear fd n9;have S6:=ae (D w6 (λj m ZR=>ZM.p j m ZR));obtain⟨Kn,r6,At,JV,ld,Kq,Ke,la⟩:=ZP.C.w.atk Fd;have Fm:=ae la;have M6:=ae ld;clear la ld;injection At with e1;injection e1 with e2;subst e2;refine b _ _ (λ_=>S6) ?_;clear b K ZO
         (try simp only[p_,z_])
         iterate 3
          refine bV 7 rfl rfl (by kernel_rfl) λK b=>?_;go_simp;refine b _ _ (λ_=>S6) ?_;clear b K
          (try simp only[p_,z_])
         refine ai (i:=10) rfl (by kernel_rfl) λK b=>?_;go_simp;refine b _ _ (λh=>absurd rfl h) ?_;have DE:=(G2.t r6 M6).1;clear b K D S6 Fm M6
         (try simp only[p_,z_])
         refine ba (by kernel_rfl) ?_ _;go_wp2;go_meet;exact⟨r6.1.e,_,rfl,DE,by omega,ZP⟩
        {go_wp2;go_meet;exact⟨⟨#[97]⟩,_,rfl,by decide,by omega,D9⟩}
       case rest =>
       clear D9;obtain⟨nm,q6,rfl,DE,hq6,JY⟩:=hcut;go_wp2_with fail;refine(bC _ _).P ?_;rintro e wa⟨rfl,H⟩;have Da:=ae (JY.aa H);clear H;go_wp2_with fail;refine(bq 12 _).P ?_;rintro e wb⟨rfl,H⟩;have Db:=ae (Da.aa H);clear H Da;go_wp2_with fail;refine(fT R _ _ Db.rd (by omega)).P ?_;rintro e wd⟨tc,rfl,htc,qc,hqc,hR,hO⟩;have Dd:=ae (Db.ac hO hR);clear hO hR Db;go_wp2_with fail;refine(bC tc _).P ?_;rintro e we⟨rfl,H⟩;have De:=ae (Dd.aa H);clear H Dd;go_wp2_with fail;refine(bq 2 _).P ?_;rintro e wf⟨rfl,H⟩;have Df:=ae (De.aa H);clear H De;go_wp2_with fail;refine(ay R _ 9 _ Df.rd (by omega) (by omega) (by omega)).P ?_;rintro e wg⟨zf,rfl,hf0,hf1,hR,hO⟩;have Dg:=ae (Df.ac hO hR);clear hO hR Df;go_wp2_with fail;refine(bS 3 _ _).P ?_;rintro e wi⟨rfl,H⟩;have Di:=ae (Dg.aa H);clear H Dg;go_wp2_with fail;refine(bq 15 _).P ?_;rintro e wh⟨rfl,H⟩;have Dh:=ae (Di.aa H);clear H Di;obtain⟨gp,cp,mp,fp,l⟩:=Dh.P;have kh:=l.ad.c0;have zh:=l.ad.fz 0;have lh:=l.ad.lt;have Ki:=ae (l.six (λr hr=>Dh.C.w.ltg r hr) (by have:=Dh.C.lt;omega) nm tc (1+zf) DE (by omega));have Id:(wh.setCell (T (I (J ZT)) 0 Z) (Y (Q (T (I (J wh)) 0 Z)) 6 6)).heap.size=I (J wh):=by simp
       have lo10:=l.lo;have Ba:=ae (((a8 (I (J ZT)) wh).setCell (p:=(T (I (J ZT)) 0 Z)) ly (Y (Q (T (I (J wh)) 0 Z)) 6 6)).alloc (by rw[Id];omega) (N (rM nm tc (1+zf)) 102));have JU:=ae ((Dh.C.putP l.ad l.lo (Y (Q (T (I (J wh)) 0 Z)) 6 6)).aa (br.alloc ly (N (rM nm tc (1+zf)) 102)));have Kb:=ae (Dh.rd.low Ba (by omega));have J4:=ae (Dh.O.then (Ba.P (by omega)));clear Ba l Id;go_wp2;go_meet;exact⟨_,by omega,JU,⟨_,_,_,_,Ki⟩,Kb,J4,s⟩
      {go_wp2;go_meet;exact⟨_,by omega,D9⟩}
     case rest =>
     clear D9;obtain⟨q8,hq8,ZQ⟩:=hcut;go_wp2_with fail;obtain⟨gp,cp,mp,fp,l⟩:=ZQ.P;have PP:=ae l;clear l;have D:Hid (∀V:E,(∀j,j<I (J wc)->Q j≠(Value.slice a1 (z f) c1).ownBlock->V.heap[j]?=wc.heap[j]?)->V.heap[I (J w)+1]?=Q (N #[o,Y a1 (z f) c1] 29 (0,0))/\B V (T (I (J w)+1) 1 Z)=Q (Y a1 (z f) c1)/\B V (T (I (J ZT)) 0 Z)=Q (Y (Q (T gp 0 Z)) mp cp)):=λV hV=>by
      have h1:=(hV (I (J w)+1) ZQ.C.lt λe=>by have:=(ZQ.C.w.u.lt _ e.c).1;omega).k ZQ.C.ab
      have h2:PB V (I (J ZT)) (Y (Q (T gp 0 Z)) mp cp):=(hV (I (J ZT)) PP.ad.lt λe=>by
       obtain⟨cur,JR⟩:=ZQ.C.w.type _ e.c;have h3:=PP.ad.c.k JR
       cases h3).k PP.ad
      exact⟨h1,by simp[World.cell?,h1],h2.c0⟩
     refine aI (λV=>V.heap[I (J w)+1]?=Q (N #[o,Y a1 (z f) c1] 29 (0,0))/\B V (T (I (J w)+1) 1 Z)=Q (Y a1 (z f) c1)/\B V (T (I (J ZT)) 0 Z)=Q (Y (Q (T gp 0 Z)) mp cp)) 10 (by kernel_rfl) ?_;have ZO:=ae (D wc.drew (λj m _=>rfl));iterate 3
      refine aO 0 (v:=?_) rfl rfl (by kernel_rfl) (λ_ _ _ h=>h) rfl ?_ ZO ?_;rotate_left
      ·(rintro wz⟨s0,s1,s2⟩;go_simp)
       (try with_reducible rfl)
      (try simp only[p_,z_])
     refine aO 5 (v:=?_) rfl rfl (by kernel_rfl) (λ_ _ _ h=>h) rfl ?_ ZO ?_;rotate_left
     ·(rintro wz⟨s0,s1,s2⟩;go_simp)
      (try with_reducible rfl)
     (try simp only[p_,z_])
     refine ai (i:=3) rfl (by kernel_rfl) λK b=>?_;go_simp;go_at_call 54;refine(iK j (by omega) _).P ?_;rintro e wt⟨rfl,JG⟩;have BT:Hid (Below (I (J wc)) wc wt):=(BS wc).drew.k JG;clear JG;refine b _ _ (λ_=>D _ (λj m _=>BT.p j m)) ?_;clear b K ZO
     (try simp only[p_,z_])
     refine ai (i:=4) rfl (by kernel_rfl) λK b=>?_;go_simp;refine b _ _ (λ_=>D _ (λj m _=>BT.p j m)) ?_;clear b K
     (try simp only[p_,z_])
     have JO:((⟨#[116]⟩:F_)++⟨#[dig j]⟩).size<=5000:=by have e1:(⟨#[116]⟩:F_).size=1:=rfl;have e2:(⟨#[dig j]⟩:F_).size=1:=rfl;simp only[PU,e1,e2];omega
     generalize (⟨#[116]⟩:F_)++⟨#[dig j]⟩=tn at JO ⊢;refine ai (i:=6) rfl (by kernel_rfl) λK b=>?_;go_simp;refine b _ _ (λ_=>D _ (λj m _=>BT.p j m)) ?_;clear b K
     (try simp only[p_,z_])
     refine ai (i:=7) rfl (by kernel_rfl) λK b=>?_;go_simp;have JS:=ZQ.C.lt;have hzt:=BT.size;have AB:=ae (BT.alloc (by omega) (N #[U tn,Y (Q (T gp 0 Z)) mp cp] 86));have JH:=ae (ZQ.C.aa AB);have JK:=ae (PP.aa AB ly);have Kh:=AB.size;refine b _ _ (λ_=>D _ (λj m _=>AB.p j m)) ?_;clear b K
     (try simp only[p_,z_])
     refine ai (i:=8) rfl (by kernel_rfl) λK b=>?_;refine aU rfl (.tmp 101) (.tmp 107) 27 rfl (I (J w)+2) 86 Kd (ZJ #[U ⟨#[]⟩,Y Z 0 0]) 2 40 OJ m Ko Kk JX rfl (by decide) (Y a1 (z f) c1) (z f) (f.flatMap aZ) (by simp[Act.eval]) JH.w.u (T (I (J wt)) 0 Z) 1 1 (aZ (⟨tn,mp,fp⟩,gp,cp)) (by simp[Act.eval]) rfl (λj u hu=>df wt _ _ _ j u hu) (by simp[aZ,Value.oneCell']) (by unfold maxLen;omega) (by omega) (by omega) ?_;intro v' w7 ZS ZV _;obtain⟨a7,c7,rfl⟩:=aJ ZS;have S7:=ae (D w7 (λj m ZR=>(ZV.p j (lj m AB.size) ZR).k (AB.p j m)));obtain⟨c8,b8⟩:=JH.addT (x:=⟨tn,mp,fp⟩) (g:=gp) (c:=cp) JK.new JK.u ZS ZV;have JZ:=ae c8;have Kl:=ae b8;clear ZS ZV c8 b8;refine b _ _ (λ_=>S7) ?_;clear b K
     (try simp only[p_,z_])
     refine ai (i:=9) rfl (by kernel_rfl) λK b=>?_;go_simp;refine b _ _ (λ_=>S7) ?_;clear b K
     (try simp only[p_,z_])
     obtain⟨s7,t7,y7⟩:=S7.i;have f7:w7.frozen? (T (I (J w)+1) 1 Z)=ZA:=by simp[World.frozen?,s7]
     have l7:=aj s7;clear s7 y7;refine ai (i:=10) rfl (by kernel_rfl) λK b=>?_;go_simp;refine b _ _ (λh=>absurd rfl h) ?_;clear b K
     (try simp only[p_,z_])
     refine ba (by kernel_rfl) ?_ _;go_wp2;have BB:=ae ((AB.P (show (I (J w))+1<=I (J wc) by omega)).k Kl.i);go_roundg (n - j);case measure=>omega
     case rel=>exact⟨j+1,q8,Y a7 (z f+1) c7,f++[((⟨tn,mp,fp⟩,gp,cp):TR)],by omega,by omega,by rw[cM,aq.i];rfl,by go_num,JZ,G2.addT (r:=(⟨tn,mp,fp⟩,gp,cp)) JO PP.num PP.sz,ZQ.rd.low BB (by omega),ZQ.O.then (BB.P (BV _))⟩
    ·obtain rfl:j=n+1:=by omega
     obtain⟨a0,c0,rfl⟩:=aJ M.src;obtain⟨k0,k1⟩:=M.cells;have kr:=M.res;have r0:B wr (T (I (J w)) 0 Z)=Q (Y Z 0 0):=by simp[World.cell?,kr]
     have r1:B wr (T (I (J w)) 1 Z)=Q (Y Z 0 0):=by simp[World.cell?,kr]
     have f0:wr.frozen? (T (I (J w)) 0 Z)=ZA:=by simp[World.frozen?,kr]
     have f1:wr.frozen? (T (I (J w)) 1 Z)=ZA:=by simp[World.frozen?,kr]
     have l0:=aj kr;have l1:=M.lt;clear kr;have BE:=ae (((a8 (I (J w)) wr).setCell (p:=(T (I (J w)) 0 Z)) ly (Y a0 (z A) c0)).setCell (p:=(T (I (J w)) 1 Z)) ly (Y a1 (z f) c1));have OE:=ae (aH (aH M.src (R:=I (J w)) (j:=0) (by omega) (Y a0 (z A) c0)) (R:=I (J w)) (j:=1) (by omega) (Y a1 (z f) c1));have TE:=ae ((M.w.set (X:=I (J w)) (j:=0) (by omega) (Y a0 (z A) c0)).set (X:=I (J w)) (j:=1) (by omega) (Y a1 (z f) c1));have aq:Hid (z f=n+1):=sm;clear sm;go_wp2;exact bp (v:=ZJ #[Y a0 (z A) c0,Y a1 (z f) c1]) (by simp[results,results70,go_sem,r0,r1]) rfl ⟨A,f,_,_,rfl,OE,TE,G2,by omega,by have:=aq.i;omega,q2,by omega,R2.low BE s,O2.then BE⟩
