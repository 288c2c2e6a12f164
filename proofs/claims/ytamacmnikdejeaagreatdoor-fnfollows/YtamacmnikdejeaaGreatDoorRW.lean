import Derived.Test.YtamacmnikdejeaaGreatDoorRT
import Derived.Test.YtamacmnikdejeaaGreatDoorRJ
set_option maxRecDepth 100000
set_option maxHeartbeats 8000000
open Go.Addr renaming mk->N
open Go.Value renaming slice->Y,string->U,int->J
open Option renaming none->Z,some->T
open Go.Obj renaming cells->Q
open Go.IntKind renaming i64->I
open Go renaming World->G
open Bool renaming false->QB
namespace Go.Proofs.YtamacmnikdejeaaGreatDoor.Vp
open RowKit
theorem rP (QO o n cap x:Nat)(s:Option Addr)(n0 z:Nat)(f0:Nat->Source)(u:Option Addr)(n1 A:Nat)(f1:Nat->Target)(f:Nat->ah)(w:G)(hn:(n:Int)<=400)(hn0:(n0:Int)<=1048576)(hn1:(n1:Int)<=1048576)(sm:aK f n=true)(ph:RowDeed w QO o n f)(Fc:SlSource w s n0 f0)(qr:SlTarget w u n1 f1)(CD:aI (nm0 f0) n0=true)(Fd:aI (nm1 f1) n1=true)(DS:∀ i,i<n->(f i).actN<=1048576)(Fe:∀ i,i<n->(f i).linksN<=1048576)(At:∀ i,i<n1->bk (f1 i))(ur:Tab2 w)(ro:Pow w)(K:x<w.heap.size)
  (k0:w.cell? (N x 0 Z)=T (J I 2)) (k1:w.cell? (N x 1 Z)=T (.func (.func 70) #[] #[])) (k2:w.cell? (N x 2 Z)=T (J I 3)) (k3:w.cell? (N x 3 Z)=T (.func (.func 71) #[] #[])) (k4:w.cell? (N x 4 Z)=T (J I 4)) (k5:w.cell? (N x 5 Z)=T (.func (.func 39) #[] #[])) (k6:w.cell? (N x 6 Z)=T (J I 5)) (k7:w.cell? (N x 7 Z)=T (.func (.func 40) #[] #[])) :
  Calls Tryz.prog 38 #[.agg #[Y (T (N QO o Z)) n cap,Y s n0 z,Y u n1 A],Y (T (N x 0 Z)) 4 4] w fun e w'=>e=.returned (.tuple #[J I (fs (eo n0 f0 n1 f1 f) n).1,J I (fs (eo n0 f0 n1 f1 f) n).2])/\Below w.heap.size w w':=by
 obtain⟨R,hR⟩:∃ R,R=fs (eo n0 f0 n1 f1 f) n:=⟨_,rfl⟩
 rw[<-hR];have HR:=ae hR;clear hR;have A0:=ae ((q9 w).alloc ly (Q #[Y (T (N QO o Z)) n cap,Y s n0 z,Y u n1 A] 77));have m0:(w.alloc (Q #[Y (T (N QO o Z)) n cap,Y s n0 z,Y u n1 A] 77)).cell? (N w.heap.size 0 Z)=T (Y (T (N QO o Z)) n cap):=by simp
 have m1:(w.alloc (Q #[Y (T (N QO o Z)) n cap,Y s n0 z,Y u n1 A] 77)).cell? (N w.heap.size 1 Z)=T (Y s n0 z):=by simp
 have m2:(w.alloc (Q #[Y (T (N QO o Z)) n cap,Y s n0 z,Y u n1 A] 77)).cell? (N w.heap.size 2 Z)=T (Y u n1 A):=by simp
 have hz:(w.alloc (Q #[Y (T (N QO o Z)) n cap,Y s n0 z,Y u n1 A] 77)).heap.size=w.heap.size+1:=by simp
 have QL:=ae ph;have n9:=ae sm;have E9:=ae Fc;have Fb:=ae qr;have Ff:=ae CD;have DQ:=ae Fd;have Fi:=ae DS;have Fg:=ae Fe;have Fj:=ae At;have Fa:=ae ur;have th:=ae ro;have Bk:=ur.1;have QM:=ae (And.intro k0 (And.intro k1 (And.intro k2 (And.intro k3 (And.intro k4 (And.intro k5 (And.intro k6 k7)))))));clear ph sm Fc qr CD Fd DS Fe At ur ro k0 k1 k2 k3 k4 k5 k6 k7;go_enter Tryz.func38,Tryz.ntmps38;go_wp2;go_step3;go_wp2;go_step3;go_wp2;generalize w.alloc (Q #[Y (T (N QO o Z)) n cap,Y s n0 z,Y u n1 A] 77)=WA at A0 m0 m1 m2 hz ⊢;go_loopw [6,7,16] (fun c6 c7 i wr=>∃ k:Nat,k<=n/\c6=J I 0/\c7=J I 0/\i=J I k/\Hid (∀ j,j<k->eo n0 f0 n1 f1 f j=0)/\Hid (Below (w.heap.size+1) WA wr)) (fun _ _ i _=>n - (intOf i).toNat);case atStart=>exact⟨0,by omega,rfl,rfl,rfl,fun j hj=>absurd hj (E4 _),a8 _ _⟩
 case round =>
  obtain⟨k,hk,rfl,rfl,rfl,HZ,HB⟩:=hrel;have BW:=ae (A0.out.trans (HB.out.mono (by omega)));by_cases QR:k<n
  ·obtain⟨p0,p1,p2,p3,⟨a0,l,p4,q4⟩,⟨a1,g,p5,q5⟩⟩:=(QL.out.below BW.out ly).2 k QR
   have P:=ae (AR n0 f0 n1 f1 f k);have D1:=ae ((q9 wr).alloc ly (Q #[U (f k).name,J I (f k).kind,J I (f k).code,U (f k).text,Y a0 (f k).actN l,Y a1 (f k).linksN g] 46));have B1:=ae (HB.out.alloc (by have:=HB.out.size;omega) (Q #[U (f k).name,J I (f k).kind,J I (f k).code,U (f k).text,Y a0 (f k).actN l,Y a1 (f k).linksN g] 46));have QI:=ae (show SlIns wr a0 (f k).actN (f k).act/\SlLink wr a1 (f k).linksN (f k).links from⟨q4,q5⟩);have QN:=ae (And.intro (QI.out.1.below D1.out ly) (QI.out.2.below D1.out ly));have e0:(wr.alloc (Q #[U (f k).name,J I (f k).kind,J I (f k).code,U (f k).text,Y a0 (f k).actN l,Y a1 (f k).linksN g] 46)).cell? (N wr.heap.size 0 Z)=T (U (f k).name):=by simp
   have e1:(wr.alloc (Q #[U (f k).name,J I (f k).kind,J I (f k).code,U (f k).text,Y a0 (f k).actN l,Y a1 (f k).linksN g] 46)).cell? (N wr.heap.size 1 Z)=T (J I (f k).kind):=by simp
   have e2:(wr.alloc (Q #[U (f k).name,J I (f k).kind,J I (f k).code,U (f k).text,Y a0 (f k).actN l,Y a1 (f k).linksN g] 46)).cell? (N wr.heap.size 2 Z)=T (J I (f k).code):=by simp
   have e3:(wr.alloc (Q #[U (f k).name,J I (f k).kind,J I (f k).code,U (f k).text,Y a0 (f k).actN l,Y a1 (f k).linksN g] 46)).cell? (N wr.heap.size 3 Z)=T (U (f k).text):=by simp
   have e4:(wr.alloc (Q #[U (f k).name,J I (f k).kind,J I (f k).code,U (f k).text,Y a0 (f k).actN l,Y a1 (f k).linksN g] 46)).cell? (N wr.heap.size 4 Z)=T (Y a0 (f k).actN l):=by simp
   have e5:(wr.alloc (Q #[U (f k).name,J I (f k).kind,J I (f k).code,U (f k).text,Y a0 (f k).actN l,Y a1 (f k).linksN g] 46)).cell? (N wr.heap.size 5 Z)=T (Y a1 (f k).linksN g):=by simp
   have DE:(wr.alloc (Q #[U (f k).name,J I (f k).kind,J I (f k).code,U (f k).text,Y a0 (f k).actN l,Y a1 (f k).linksN g] 46)).heap.size=wr.heap.size+1:=by simp
   have Fh:w.heap.size+1<=wr.heap.size:=by have:=HB.out.size;omega
   clear q4 q5;go_wp2;clear p0 p1 p2 p3 p4 p5 D1;generalize wr.alloc (Q #[U (f k).name,J I (f k).kind,J I (f k).code,U (f k).text,Y a0 (f k).actN l,Y a1 (f k).linksN g] 46)=WD at B1 QN e0 e1 e2 e3 e4 e5 DE ⊢;generalize wr.heap.size=H at e0 e1 e2 e3 e4 e5 DE Fh ⊢;go_loopw [6,7,23] (fun c6 c7 i w2=>∃ j:Nat,j<=4/\c6=J I 0/\c7=J I 0/\i=J I j/\Hid (1<=j->jM n0 f0 n1 f1 (f k)=QB)/\Hid (2<=j->hasB n0 f0 n1 f1 (f k)=QB)/\Hid (3<=j->fm f k=QB)/\Hid (4<=j->jg f k=QB)/\Hid (Below (H+1) WD w2)) (fun _ _ i _=>4 - (intOf i).toNat);case atStart=>exact⟨0,by omega,rfl,rfl,rfl,(fun h=>by omega),(fun h=>by omega),(fun h=>by omega),(fun h=>by omega),a8 _ _⟩
   case round =>
    obtain⟨j,hj,rfl,rfl,rfl,V,N1,N2,N3,b⟩:=hrel;have C2:=ae (B1.out.trans (b.out.mono (by omega)));have C:=ae (A0.out.trans (C2.out.mono (by omega)));have la:=(C.out.cell (p:=(N x 0 Z)) K).trans QM.out.1;have aq:=(C.out.cell (p:=(N x 1 Z)) K).trans QM.out.2.1;have ex:=(C.out.cell (p:=(N x 2 Z)) K).trans QM.out.2.2.1;have fd:=(C.out.cell (p:=(N x 3 Z)) K).trans QM.out.2.2.2.1;have n7:=(C.out.cell (p:=(N x 4 Z)) K).trans QM.out.2.2.2.2.1;have QH:=(C.out.cell (p:=(N x 5 Z)) K).trans QM.out.2.2.2.2.2.1;have bt:=(C.out.cell (p:=(N x 6 Z)) K).trans QM.out.2.2.2.2.2.2.1;have W:=(C.out.cell (p:=(N x 7 Z)) K).trans QM.out.2.2.2.2.2.2.2;have X:=(b.out.cell (p:=(N H 0 Z)) (eL H)).trans e0;have mv:=(b.out.cell (p:=(N H 1 Z)) (eL H)).trans e1;have n6:=(b.out.cell (p:=(N H 2 Z)) (eL H)).trans e2;have QJ:=(b.out.cell (p:=(N H 3 Z)) (eL H)).trans e3;have ld:=(b.out.cell (p:=(N H 4 Z)) (eL H)).trans e4;have n8:=(b.out.cell (p:=(N H 5 Z)) (eL H)).trans e5;have g0:=(C2.out.cell (p:=(N w.heap.size 0 Z)) (eL w.heap.size)).trans m0;have g1:=(C2.out.cell (p:=(N w.heap.size 1 Z)) (eL w.heap.size)).trans m1;have g2:=(C2.out.cell (p:=(N w.heap.size 2 Z)) (eL w.heap.size)).trans m2;have qr:H<wr.heap.size:=by have:=b.out.size;omega
    have hs2:w.heap.size<wr.heap.size:=by omega
    have hs3:x<wr.heap.size:=by omega
    rcases(show j=0∨j=1∨j=2∨j=3∨j=4 by omega) with rfl | rfl | rfl | rfl | rfl
    ·have L:=fun(w:G) (a:Addr) (m:Mode)=>NJ Tryz.prog w a (.func (.func 70) #[] #[]) m rfl
     have D:=ae ((q9 wr).alloc ly (Q #[J I 2,.func (.func 70) #[] #[]] 80));have q:=ae (C.out.alloc C.out.size (Q #[J I 2,.func (.func 70) #[] #[]] 80));have QP:=ae (And.intro ((QN.out.1.below b.out (by omega)).below D.out ly) ((QN.out.2.below b.out (by omega)).below D.out ly));have E:=ae (b.out.alloc (by have:=b.out.size;omega) (Q #[J I 2,.func (.func 70) #[] #[]] 80));have r:(wr.alloc (Q #[J I 2,.func (.func 70) #[] #[]] 80)).cell? (N wr.heap.size 0 Z)=T (J I 2):=by simp
     have B:wr.heap.size<(wr.alloc (Q #[J I 2,.func (.func 70) #[] #[]] 80)).heap.size:=by simp
     go_wp2_with fail;clear X mv n6 QJ ld n8 g0 g1 g2 la aq ex fd n7 QH bt W L;generalize wr.alloc (Q #[J I 2,.func (.func 70) #[] #[]] 80)=WX at D q QP E r B ⊢;refine(zV QO o n cap s n0 z f0 u n1 A f1 (f k) a0 l a1 g _ hn0 hn1 (E9.out.below q.out ly) (Fb.out.below q.out ly) Ff.out DQ.out QP.out.1 (Fi.out k QR) Fj.out).mono ?_;rintro e w3 ⟨rfl,y⟩;have S:=ae (q.out.trans (y.mono q.out.size));have QK:=ae (E.out.trans (y.mono (by have:=E.out.size;omega)));have cz:=(y.cell (p:=(N wr.heap.size 0 Z)) B).trans r;clear y r;cases hb:jM n0 f0 n1 f1 (f k) with
     | true =>
      have t:Hid (eo n0 f0 n1 f1 f k=2):=by show _=_;rw[P.out];rw[gM hb]
      have O:Hid (R=(2,(k:Int))):=by show _=_;rw[HR.out,iL QR HZ.out (by rw[t.out];decide),t.out]
      go_wp2;try rw[JM]
      go_ret2;exact⟨by simp[O.out],S.out⟩
     | false =>have M:=ae hb;go_wp2;exact⟨⟨1,by omega,rfl,rfl,by go_num,(fun _=>M.out),(fun h=>by omega),(fun h=>by omega),(fun h=>by omega),QK.out⟩,by simp[intOf]⟩
    ·have L:=fun(w:G) (a:Addr) (m:Mode)=>NJ Tryz.prog w a (.func (.func 71) #[] #[]) m rfl
     have D:=ae ((q9 wr).alloc ly (Q #[J I 3,.func (.func 71) #[] #[]] 80));have q:=ae (C.out.alloc C.out.size (Q #[J I 3,.func (.func 71) #[] #[]] 80));have QP:=ae (And.intro ((QN.out.1.below b.out (by omega)).below D.out ly) ((QN.out.2.below b.out (by omega)).below D.out ly));have E:=ae (b.out.alloc (by have:=b.out.size;omega) (Q #[J I 3,.func (.func 71) #[] #[]] 80));have r:(wr.alloc (Q #[J I 3,.func (.func 71) #[] #[]] 80)).cell? (N wr.heap.size 0 Z)=T (J I 3):=by simp
     have B:wr.heap.size<(wr.alloc (Q #[J I 3,.func (.func 71) #[] #[]] 80)).heap.size:=by simp
     go_wp2_with fail;clear X mv n6 QJ ld n8 g0 g1 g2 la aq ex fd n7 QH bt W L;generalize wr.alloc (Q #[J I 3,.func (.func 71) #[] #[]] 80)=WX at D q QP E r B ⊢;refine(wK QO o n cap s n0 z f0 u n1 A f1 (f k) a0 l a1 g _ hn0 hn1 (E9.out.below q.out ly) (Fb.out.below q.out ly) Ff.out DQ.out QP.out.2 (Fg.out k QR)).mono ?_;rintro e w3 ⟨rfl,y⟩;have S:=ae (q.out.trans (y.mono q.out.size));have QK:=ae (E.out.trans (y.mono (by have:=E.out.size;omega)));have cz:=(y.cell (p:=(N wr.heap.size 0 Z)) B).trans r;clear y r;cases hb:hasB n0 f0 n1 f1 (f k) with
     | true =>
      have t:Hid (eo n0 f0 n1 f1 f k=3):=by show _=_;rw[P.out];rw[cM (by rw[V.out (by omega)];simp),gM hb]
      have O:Hid (R=(3,(k:Int))):=by show _=_;rw[HR.out,iL QR HZ.out (by rw[t.out];decide),t.out]
      go_wp2;try rw[JM]
      go_ret2;exact⟨by simp[O.out],S.out⟩
     | false =>have M:=ae hb;go_wp2;exact⟨⟨2,by omega,rfl,rfl,by go_num,(fun _=>V.out (by omega)),(fun _=>M.out),(fun h=>by omega),(fun h=>by omega),QK.out⟩,by simp[intOf]⟩
    ·have L:=fun(w:G) (a:Addr) (m:Mode)=>NJ Tryz.prog w a (.func (.func 39) #[] #[]) m rfl
     have D:=ae ((q9 wr).alloc ly (Q #[J I 4,.func (.func 39) #[] #[]] 80));have q:=ae (C.out.alloc C.out.size (Q #[J I 4,.func (.func 39) #[] #[]] 80));have QP:=ae (And.intro ((QN.out.1.below b.out (by omega)).below D.out ly) ((QN.out.2.below b.out (by omega)).below D.out ly));have E:=ae (b.out.alloc (by have:=b.out.size;omega) (Q #[J I 4,.func (.func 39) #[] #[]] 80));have r:(wr.alloc (Q #[J I 4,.func (.func 39) #[] #[]] 80)).cell? (N wr.heap.size 0 Z)=T (J I 4):=by simp
     have B:wr.heap.size<(wr.alloc (Q #[J I 4,.func (.func 39) #[] #[]] 80)).heap.size:=by simp
     go_wp2_with fail;clear X mv n6 QJ ld n8 g0 g1 g2 la aq ex fd n7 QH bt W L;generalize wr.alloc (Q #[J I 4,.func (.func 39) #[] #[]] 80)=WX at D q QP E r B ⊢;refine(uC s n0 z u n1 A QO o n cap f k a0 l a1 g _ n9.out QR (QL.out.below q.out ly) QP.out.1 QP.out.2 (Fa.out.below q.out Bk) (th.out.below q.out ly)).mono ?_;rintro e w3 ⟨rfl,y⟩;have S:=ae (q.out.trans (y.mono q.out.size));have QK:=ae (E.out.trans (y.mono (by have:=E.out.size;omega)));have cz:=(y.cell (p:=(N wr.heap.size 0 Z)) B).trans r;clear y r;cases hb:fm f k with
     | true =>
      have t:Hid (eo n0 f0 n1 f1 f k=4):=by show _=_;rw[P.out];rw[cM (by rw[V.out (by omega)];simp),cM (by rw[N1.out (by omega)];simp),gM hb]
      have O:Hid (R=(4,(k:Int))):=by show _=_;rw[HR.out,iL QR HZ.out (by rw[t.out];decide),t.out]
      go_wp2;try rw[JM]
      go_ret2;exact⟨by simp[O.out],S.out⟩
     | false =>have M:=ae hb;go_wp2;exact⟨⟨3,by omega,rfl,rfl,by go_num,(fun _=>V.out (by omega)),(fun _=>N1.out (by omega)),(fun _=>M.out),(fun h=>by omega),QK.out⟩,by simp[intOf]⟩
    ·have L:=fun(w:G) (a:Addr) (m:Mode)=>NJ Tryz.prog w a (.func (.func 40) #[] #[]) m rfl
     have D:=ae ((q9 wr).alloc ly (Q #[J I 5,.func (.func 40) #[] #[]] 80));have q:=ae (C.out.alloc C.out.size (Q #[J I 5,.func (.func 40) #[] #[]] 80));have QP:=ae (And.intro ((QN.out.1.below b.out (by omega)).below D.out ly) ((QN.out.2.below b.out (by omega)).below D.out ly));have E:=ae (b.out.alloc (by have:=b.out.size;omega) (Q #[J I 5,.func (.func 40) #[] #[]] 80));have r:(wr.alloc (Q #[J I 5,.func (.func 40) #[] #[]] 80)).cell? (N wr.heap.size 0 Z)=T (J I 5):=by simp
     have B:wr.heap.size<(wr.alloc (Q #[J I 5,.func (.func 40) #[] #[]] 80)).heap.size:=by simp
     go_wp2_with fail;clear X mv n6 QJ ld n8 g0 g1 g2 la aq ex fd n7 QH bt W L;generalize wr.alloc (Q #[J I 5,.func (.func 40) #[] #[]] 80)=WX at D q QP E r B ⊢;refine(yw s n0 z u n1 A QO o n cap f k a0 l a1 g _ n9.out QR (QL.out.below q.out ly) QP.out.1 QP.out.2 (Fa.out.below q.out Bk) (th.out.below q.out ly)).mono ?_;rintro e w3 ⟨rfl,y⟩;have S:=ae (q.out.trans (y.mono q.out.size));have QK:=ae (E.out.trans (y.mono (by have:=E.out.size;omega)));have cz:=(y.cell (p:=(N wr.heap.size 0 Z)) B).trans r;clear y r;cases hb:jg f k with
     | true =>
      have t:Hid (eo n0 f0 n1 f1 f k=5):=by show _=_;rw[P.out];rw[cM (by rw[V.out (by omega)];simp),cM (by rw[N1.out (by omega)];simp),cM (by rw[N2.out (by omega)];simp),gM hb]
      have O:Hid (R=(5,(k:Int))):=by show _=_;rw[HR.out,iL QR HZ.out (by rw[t.out];decide),t.out]
      go_wp2;try rw[JM]
      go_ret2;exact⟨by simp[O.out],S.out⟩
     | false =>have M:=ae hb;go_wp2;exact⟨⟨4,by omega,rfl,rfl,by go_num,(fun _=>V.out (by omega)),(fun _=>N1.out (by omega)),(fun _=>N2.out (by omega)),(fun _=>M.out),QK.out⟩,by simp[intOf]⟩
    ·have t:Hid (eo n0 f0 n1 f1 f k=0):=by show _=_;rw[P.out,cM (by rw[V.out (by omega)];simp),cM (by rw[N1.out (by omega)];simp),cM (by rw[N2.out (by omega)];simp),cM (by rw[N3.out (by omega)];simp)]
     go_wp2
     exact⟨⟨k+1,by omega,rfl,rfl,by go_num,fun j hj=>by
      by_cases e:j=k
      ·subst e;exact t.out
      ·exact HZ.out j (by omega),C2.out⟩,by simp[intOf];omega⟩
  ·obtain rfl:k=n:=by omega
   have O:Hid (R=(0,0)):=by show _=_;rw[HR.out];exact qV HZ.out
   go_wp2;try rw[JM]
   go_ret2;exact⟨by simp[O.out],BW.out⟩
end Go.Proofs.YtamacmnikdejeaaGreatDoor.Vp
