import Derived.Test.YtkdimgejdocbbaaGreatDoorYS
import Derived.Test.YtkdimgejdocbbaaGreatDoorYI
set_option maxRecDepth 100000
set_option maxHeartbeats 8000000
open Go.Addr renaming mk->J
open Go.Value renaming slice->Y,string->U,int->N
open Option renaming none->Z,some->Q
open Go.Obj renaming cells->T
open Go.IntKind renaming i64->I
open Go renaming World->E
open Bool renaming false->D
namespace Go.Proofs.YtkdimgejdocbbaaGreatDoor.Vp
open RowKit
theorem qW (QO l n y x:Nat)(t:Option Addr)(n0 A:Nat)(f0:Nat->Source)(r:Option Addr)(n1 z:Nat)(f1:Nat->Target)(f:Nat->aj)(w:E)(hn:(n:Int)<=400)(hn0:(n0:Int)<=1048576)(hn1:(n1:Int)<=1048576)(n9:aX f n=true)(sm:RowDeed w QO l n f)(Fh:SlSource w t n0 f0)(ur:SlTarget w r n1 f1)(DA:aE (nm0 f0) n0=true)(Fd:aE (nm1 f1) n1=true)(Fm:∀ i,i<n->(f i).actN<=1048576)(Fj:∀ i,i<n->(f i).linksN<=1048576)(Fo:∀ i,i<n1->aS (f1 i))(th:Tab2 w)(ph:Pow w)(K:x<w.heap.size)
  (k0:w.cell? (J x 0 Z)=Q (N I 2)) (k1:w.cell? (J x 1 Z)=Q (.func (.func 188) #[] #[])) (k2:w.cell? (J x 2 Z)=Q (N I 3)) (k3:w.cell? (J x 3 Z)=Q (.func (.func 189) #[] #[])) (k4:w.cell? (J x 4 Z)=Q (N I 4)) (k5:w.cell? (J x 5 Z)=Q (.func (.func 118) #[] #[])) (k6:w.cell? (J x 6 Z)=Q (N I 5)) (k7:w.cell? (J x 7 Z)=Q (.func (.func 119) #[] #[])) :
  Calls Tryz.prog 117 #[.agg #[Y (Q (J QO l Z)) n y,Y t n0 A,Y r n1 z],Y (Q (J x 0 Z)) 4 4] w fun e w'=>e=.returned (.tuple #[N I (fr (ec n0 f0 n1 f1 f) n).1,N I (fr (ec n0 f0 n1 f1 f) n).2])/\Below w.heap.size w w':=by
 obtain⟨R,hR⟩:∃ R,R=fr (ec n0 f0 n1 f1 f) n:=⟨_,rfl⟩
 rw[<-hR];have HR:=ae hR;clear hR;have A0:=ae ((Qs w).alloc lr (T #[Y (Q (J QO l Z)) n y,Y t n0 A,Y r n1 z] 165));have m0:(w.alloc (T #[Y (Q (J QO l Z)) n y,Y t n0 A,Y r n1 z] 165)).cell? (J w.heap.size 0 Z)=Q (Y (Q (J QO l Z)) n y):=by simp
 have m1:(w.alloc (T #[Y (Q (J QO l Z)) n y,Y t n0 A,Y r n1 z] 165)).cell? (J w.heap.size 1 Z)=Q (Y t n0 A):=by simp
 have m2:(w.alloc (T #[Y (Q (J QO l Z)) n y,Y t n0 A,Y r n1 z] 165)).cell? (J w.heap.size 2 Z)=Q (Y r n1 z):=by simp
 have hz:(w.alloc (T #[Y (Q (J QO l Z)) n y,Y t n0 A,Y r n1 z] 165)).heap.size=w.heap.size+1:=by simp
 have V:=ae sm;have qr:=ae n9;have At:=ae Fh;have Fk:=ae ur;have DE:=ae DA;have Bk:=ae Fd;have Fs:=ae Fm;have Fr:=ae Fj;have Fp:=ae Fo;have Fi:=ae th;have ro:=ae ph;have DQ:=th.1;have P:=ae (And.intro k0 (And.intro k1 (And.intro k2 (And.intro k3 (And.intro k4 (And.intro k5 (And.intro k6 k7)))))));clear sm n9 Fh ur DA Fd Fm Fj Fo th ph k0 k1 k2 k3 k4 k5 k6 k7;go_enter Tryz.func117,Tryz.ntmps117;go_wp2;go_step3;go_wp2;go_step3;go_wp2;generalize w.alloc (T #[Y (Q (J QO l Z)) n y,Y t n0 A,Y r n1 z] 165)=WA at A0 m0 m1 m2 hz ⊢;go_loopw [6,7,16] (fun c6 c7 i wr=>∃ k:Nat,k<=n/\c6=N I 0/\c7=N I 0/\i=N I k/\Hid (∀ j,j<k->ec n0 f0 n1 f1 f j=0)/\Hid (Below (w.heap.size+1) WA wr)) (fun _ _ i _=>n - (intOf i).toNat);case atStart=>exact⟨0,by omega,rfl,rfl,rfl,fun j hj=>absurd hj (CS _),eI _ _⟩
 case round =>
  obtain⟨k,hk,rfl,rfl,rfl,HZ,HB⟩:=hrel;have BW:=ae (A0.out.trans (HB.out.mono (by omega)));by_cases G:k<n
  ·obtain⟨p0,p1,p2,p3,⟨a0,d,p4,q4⟩,⟨a1,g,p5,q5⟩⟩:=(V.out.below BW.out lr).2 k G
   have QL:=ae (AH n0 f0 n1 f1 f k);have D1:=ae ((Qs wr).alloc lr (T #[U (f k).name,N I (f k).kind,N I (f k).code,U (f k).text,Y a0 (f k).actN d,Y a1 (f k).linksN g] 58));have B1:=ae (HB.out.alloc (by have:=HB.out.size;omega) (T #[U (f k).name,N I (f k).kind,N I (f k).code,U (f k).text,Y a0 (f k).actN d,Y a1 (f k).linksN g] 58));have QI:=ae (show SlIns wr a0 (f k).actN (f k).act/\SlLink wr a1 (f k).linksN (f k).links from⟨q4,q5⟩);have QM:=ae (And.intro (QI.out.1.below D1.out lr) (QI.out.2.below D1.out lr));have e0:(wr.alloc (T #[U (f k).name,N I (f k).kind,N I (f k).code,U (f k).text,Y a0 (f k).actN d,Y a1 (f k).linksN g] 58)).cell? (J wr.heap.size 0 Z)=Q (U (f k).name):=by simp
   have e1:(wr.alloc (T #[U (f k).name,N I (f k).kind,N I (f k).code,U (f k).text,Y a0 (f k).actN d,Y a1 (f k).linksN g] 58)).cell? (J wr.heap.size 1 Z)=Q (N I (f k).kind):=by simp
   have e2:(wr.alloc (T #[U (f k).name,N I (f k).kind,N I (f k).code,U (f k).text,Y a0 (f k).actN d,Y a1 (f k).linksN g] 58)).cell? (J wr.heap.size 2 Z)=Q (N I (f k).code):=by simp
   have e3:(wr.alloc (T #[U (f k).name,N I (f k).kind,N I (f k).code,U (f k).text,Y a0 (f k).actN d,Y a1 (f k).linksN g] 58)).cell? (J wr.heap.size 3 Z)=Q (U (f k).text):=by simp
   have e4:(wr.alloc (T #[U (f k).name,N I (f k).kind,N I (f k).code,U (f k).text,Y a0 (f k).actN d,Y a1 (f k).linksN g] 58)).cell? (J wr.heap.size 4 Z)=Q (Y a0 (f k).actN d):=by simp
   have e5:(wr.alloc (T #[U (f k).name,N I (f k).kind,N I (f k).code,U (f k).text,Y a0 (f k).actN d,Y a1 (f k).linksN g] 58)).cell? (J wr.heap.size 5 Z)=Q (Y a1 (f k).linksN g):=by simp
   have Fl:(wr.alloc (T #[U (f k).name,N I (f k).kind,N I (f k).code,U (f k).text,Y a0 (f k).actN d,Y a1 (f k).linksN g] 58)).heap.size=wr.heap.size+1:=by simp
   have Fq:w.heap.size+1<=wr.heap.size:=by have:=HB.out.size;omega
   clear q4 q5;go_wp2;clear p0 p1 p2 p3 p4 p5 D1;generalize wr.alloc (T #[U (f k).name,N I (f k).kind,N I (f k).code,U (f k).text,Y a0 (f k).actN d,Y a1 (f k).linksN g] 58)=WD at B1 QM e0 e1 e2 e3 e4 e5 Fl ⊢;generalize wr.heap.size=H at e0 e1 e2 e3 e4 e5 Fl Fq ⊢;go_loopw [6,7,23] (fun c6 c7 i w2=>∃ j:Nat,j<=4/\c6=N I 0/\c7=N I 0/\i=N I j/\Hid (1<=j->iU n0 f0 n1 f1 (f k)=D)/\Hid (2<=j->hasB n0 f0 n1 f1 (f k)=D)/\Hid (3<=j->fm f k=D)/\Hid (4<=j->jb f k=D)/\Hid (Below (H+1) WD w2)) (fun _ _ i _=>4 - (intOf i).toNat);case atStart=>exact⟨0,by omega,rfl,rfl,rfl,(fun h=>by omega),(fun h=>by omega),(fun h=>by omega),(fun h=>by omega),eI _ _⟩
   case round =>
    obtain⟨j,hj,rfl,rfl,rfl,QK,N1,N2,N3,b⟩:=hrel;have C2:=ae (B1.out.trans (b.out.mono (by omega)));have C:=ae (A0.out.trans (C2.out.mono (by omega)));have W:=(C.out.cell (p:=(J x 0 Z)) K).trans P.out.1;have mv:=(C.out.cell (p:=(J x 1 Z)) K).trans P.out.2.1;have QG:=(C.out.cell (p:=(J x 2 Z)) K).trans P.out.2.2.1;have bt:=(C.out.cell (p:=(J x 3 Z)) K).trans P.out.2.2.2.1;have X:=(C.out.cell (p:=(J x 4 Z)) K).trans P.out.2.2.2.2.1;have ex:=(C.out.cell (p:=(J x 5 Z)) K).trans P.out.2.2.2.2.2.1;have n8:=(C.out.cell (p:=(J x 6 Z)) K).trans P.out.2.2.2.2.2.2.1;have la:=(C.out.cell (p:=(J x 7 Z)) K).trans P.out.2.2.2.2.2.2.2;have n7:=(b.out.cell (p:=(J H 0 Z)) (lj H)).trans e0;have ld:=(b.out.cell (p:=(J H 1 Z)) (lj H)).trans e1;have fd:=(b.out.cell (p:=(J H 2 Z)) (lj H)).trans e2;have QH:=(b.out.cell (p:=(J H 3 Z)) (lj H)).trans e3;have aq:=(b.out.cell (p:=(J H 4 Z)) (lj H)).trans e4;have n6:=(b.out.cell (p:=(J H 5 Z)) (lj H)).trans e5;have g0:=(C2.out.cell (p:=(J w.heap.size 0 Z)) (lj w.heap.size)).trans m0;have g1:=(C2.out.cell (p:=(J w.heap.size 1 Z)) (lj w.heap.size)).trans m1;have g2:=(C2.out.cell (p:=(J w.heap.size 2 Z)) (lj w.heap.size)).trans m2;have ur:H<wr.heap.size:=by have:=b.out.size;omega
    have hs2:w.heap.size<wr.heap.size:=by omega
    have hs3:x<wr.heap.size:=by omega
    rcases(show j=0∨j=1∨j=2∨j=3∨j=4 by omega) with rfl | rfl | rfl | rfl | rfl
    ·have M:=fun(w:E) (a:Addr) (m:Mode)=>ND Tryz.prog w a (.func (.func 188) #[] #[]) m rfl
     have QQ:=ae ((Qs wr).alloc lr (T #[N I 2,.func (.func 188) #[] #[]] 168));have o:=ae (C.out.alloc C.out.size (T #[N I 2,.func (.func 188) #[] #[]] 168));have QN:=ae (And.intro ((QM.out.1.below b.out (by omega)).below QQ.out lr) ((QM.out.2.below b.out (by omega)).below QQ.out lr));have QP:=ae (b.out.alloc (by have:=b.out.size;omega) (T #[N I 2,.func (.func 188) #[] #[]] 168));have q:(wr.alloc (T #[N I 2,.func (.func 188) #[] #[]] 168)).cell? (J wr.heap.size 0 Z)=Q (N I 2):=by simp
     have B:wr.heap.size<(wr.alloc (T #[N I 2,.func (.func 188) #[] #[]] 168)).heap.size:=by simp
     go_wp2_with fail;clear n7 ld fd QH aq n6 g0 g1 g2 W mv QG bt X ex n8 la M;generalize wr.alloc (T #[N I 2,.func (.func 188) #[] #[]] 168)=WX at QQ o QN QP q B ⊢;refine(Ac QO l n y t n0 A f0 r n1 z f1 (f k) a0 d a1 g _ hn0 hn1 (At.out.below o.out lr) (Fk.out.below o.out lr) DE.out Bk.out QN.out.1 (Fs.out k G) Fp.out).mono ?_;rintro e w3 ⟨rfl,u⟩;have QJ:=ae (o.out.trans (u.mono o.out.size));have S:=ae (QP.out.trans (u.mono (by have:=QP.out.size;omega)));have cz:=(u.cell (p:=(J wr.heap.size 0 Z)) B).trans q;clear u q;cases hb:iU n0 f0 n1 f1 (f k) with
     | true =>
      have s:Hid (ec n0 f0 n1 f1 f k=2):=by show _=_;rw[QL.out];rw[eT hb]
      have O:Hid (R=(2,(k:Int))):=by show _=_;rw[HR.out,iF G HZ.out (by rw[s.out];decide),s.out]
      go_wp2;try rw[JB]
      go_ret2;exact⟨by simp[O.out],QJ.out⟩
     | false =>have L:=ae hb;go_wp2;exact⟨⟨1,by omega,rfl,rfl,by go_num,(fun _=>L.out),(fun h=>by omega),(fun h=>by omega),(fun h=>by omega),S.out⟩,by simp[intOf]⟩
    ·have M:=fun(w:E) (a:Addr) (m:Mode)=>ND Tryz.prog w a (.func (.func 189) #[] #[]) m rfl
     have QQ:=ae ((Qs wr).alloc lr (T #[N I 3,.func (.func 189) #[] #[]] 168));have o:=ae (C.out.alloc C.out.size (T #[N I 3,.func (.func 189) #[] #[]] 168));have QN:=ae (And.intro ((QM.out.1.below b.out (by omega)).below QQ.out lr) ((QM.out.2.below b.out (by omega)).below QQ.out lr));have QP:=ae (b.out.alloc (by have:=b.out.size;omega) (T #[N I 3,.func (.func 189) #[] #[]] 168));have q:(wr.alloc (T #[N I 3,.func (.func 189) #[] #[]] 168)).cell? (J wr.heap.size 0 Z)=Q (N I 3):=by simp
     have B:wr.heap.size<(wr.alloc (T #[N I 3,.func (.func 189) #[] #[]] 168)).heap.size:=by simp
     go_wp2_with fail;clear n7 ld fd QH aq n6 g0 g1 g2 W mv QG bt X ex n8 la M;generalize wr.alloc (T #[N I 3,.func (.func 189) #[] #[]] 168)=WX at QQ o QN QP q B ⊢;refine(wD QO l n y t n0 A f0 r n1 z f1 (f k) a0 d a1 g _ hn0 hn1 (At.out.below o.out lr) (Fk.out.below o.out lr) DE.out Bk.out QN.out.2 (Fr.out k G)).mono ?_;rintro e w3 ⟨rfl,u⟩;have QJ:=ae (o.out.trans (u.mono o.out.size));have S:=ae (QP.out.trans (u.mono (by have:=QP.out.size;omega)));have cz:=(u.cell (p:=(J wr.heap.size 0 Z)) B).trans q;clear u q;cases hb:hasB n0 f0 n1 f1 (f k) with
     | true =>
      have s:Hid (ec n0 f0 n1 f1 f k=3):=by show _=_;rw[QL.out];rw[a8 (by rw[QK.out (by omega)];simp),eT hb]
      have O:Hid (R=(3,(k:Int))):=by show _=_;rw[HR.out,iF G HZ.out (by rw[s.out];decide),s.out]
      go_wp2;try rw[JB]
      go_ret2;exact⟨by simp[O.out],QJ.out⟩
     | false =>have L:=ae hb;go_wp2;exact⟨⟨2,by omega,rfl,rfl,by go_num,(fun _=>QK.out (by omega)),(fun _=>L.out),(fun h=>by omega),(fun h=>by omega),S.out⟩,by simp[intOf]⟩
    ·have M:=fun(w:E) (a:Addr) (m:Mode)=>ND Tryz.prog w a (.func (.func 118) #[] #[]) m rfl
     have QQ:=ae ((Qs wr).alloc lr (T #[N I 4,.func (.func 118) #[] #[]] 168));have o:=ae (C.out.alloc C.out.size (T #[N I 4,.func (.func 118) #[] #[]] 168));have QN:=ae (And.intro ((QM.out.1.below b.out (by omega)).below QQ.out lr) ((QM.out.2.below b.out (by omega)).below QQ.out lr));have QP:=ae (b.out.alloc (by have:=b.out.size;omega) (T #[N I 4,.func (.func 118) #[] #[]] 168));have q:(wr.alloc (T #[N I 4,.func (.func 118) #[] #[]] 168)).cell? (J wr.heap.size 0 Z)=Q (N I 4):=by simp
     have B:wr.heap.size<(wr.alloc (T #[N I 4,.func (.func 118) #[] #[]] 168)).heap.size:=by simp
     go_wp2_with fail;clear n7 ld fd QH aq n6 g0 g1 g2 W mv QG bt X ex n8 la M;generalize wr.alloc (T #[N I 4,.func (.func 118) #[] #[]] 168)=WX at QQ o QN QP q B ⊢;refine(ud t n0 A r n1 z QO l n y f k a0 d a1 g _ qr.out G (V.out.below o.out lr) QN.out.1 QN.out.2 (Fi.out.below o.out DQ) (ro.out.below o.out lr)).mono ?_;rintro e w3 ⟨rfl,u⟩;have QJ:=ae (o.out.trans (u.mono o.out.size));have S:=ae (QP.out.trans (u.mono (by have:=QP.out.size;omega)));have cz:=(u.cell (p:=(J wr.heap.size 0 Z)) B).trans q;clear u q;cases hb:fm f k with
     | true =>
      have s:Hid (ec n0 f0 n1 f1 f k=4):=by show _=_;rw[QL.out];rw[a8 (by rw[QK.out (by omega)];simp),a8 (by rw[N1.out (by omega)];simp),eT hb]
      have O:Hid (R=(4,(k:Int))):=by show _=_;rw[HR.out,iF G HZ.out (by rw[s.out];decide),s.out]
      go_wp2;try rw[JB]
      go_ret2;exact⟨by simp[O.out],QJ.out⟩
     | false =>have L:=ae hb;go_wp2;exact⟨⟨3,by omega,rfl,rfl,by go_num,(fun _=>QK.out (by omega)),(fun _=>N1.out (by omega)),(fun _=>L.out),(fun h=>by omega),S.out⟩,by simp[intOf]⟩
    ·have M:=fun(w:E) (a:Addr) (m:Mode)=>ND Tryz.prog w a (.func (.func 119) #[] #[]) m rfl
     have QQ:=ae ((Qs wr).alloc lr (T #[N I 5,.func (.func 119) #[] #[]] 168));have o:=ae (C.out.alloc C.out.size (T #[N I 5,.func (.func 119) #[] #[]] 168));have QN:=ae (And.intro ((QM.out.1.below b.out (by omega)).below QQ.out lr) ((QM.out.2.below b.out (by omega)).below QQ.out lr));have QP:=ae (b.out.alloc (by have:=b.out.size;omega) (T #[N I 5,.func (.func 119) #[] #[]] 168));have q:(wr.alloc (T #[N I 5,.func (.func 119) #[] #[]] 168)).cell? (J wr.heap.size 0 Z)=Q (N I 5):=by simp
     have B:wr.heap.size<(wr.alloc (T #[N I 5,.func (.func 119) #[] #[]] 168)).heap.size:=by simp
     go_wp2_with fail;clear n7 ld fd QH aq n6 g0 g1 g2 W mv QG bt X ex n8 la M;generalize wr.alloc (T #[N I 5,.func (.func 119) #[] #[]] 168)=WX at QQ o QN QP q B ⊢;refine(yv t n0 A r n1 z QO l n y f k a0 d a1 g _ qr.out G (V.out.below o.out lr) QN.out.1 QN.out.2 (Fi.out.below o.out DQ) (ro.out.below o.out lr)).mono ?_;rintro e w3 ⟨rfl,u⟩;have QJ:=ae (o.out.trans (u.mono o.out.size));have S:=ae (QP.out.trans (u.mono (by have:=QP.out.size;omega)));have cz:=(u.cell (p:=(J wr.heap.size 0 Z)) B).trans q;clear u q;cases hb:jb f k with
     | true =>
      have s:Hid (ec n0 f0 n1 f1 f k=5):=by show _=_;rw[QL.out];rw[a8 (by rw[QK.out (by omega)];simp),a8 (by rw[N1.out (by omega)];simp),a8 (by rw[N2.out (by omega)];simp),eT hb]
      have O:Hid (R=(5,(k:Int))):=by show _=_;rw[HR.out,iF G HZ.out (by rw[s.out];decide),s.out]
      go_wp2;try rw[JB]
      go_ret2;exact⟨by simp[O.out],QJ.out⟩
     | false =>have L:=ae hb;go_wp2;exact⟨⟨4,by omega,rfl,rfl,by go_num,(fun _=>QK.out (by omega)),(fun _=>N1.out (by omega)),(fun _=>N2.out (by omega)),(fun _=>L.out),S.out⟩,by simp[intOf]⟩
    ·have s:Hid (ec n0 f0 n1 f1 f k=0):=by show _=_;rw[QL.out,a8 (by rw[QK.out (by omega)];simp),a8 (by rw[N1.out (by omega)];simp),a8 (by rw[N2.out (by omega)];simp),a8 (by rw[N3.out (by omega)];simp)]
     go_wp2
     exact⟨⟨k+1,by omega,rfl,rfl,by go_num,fun j hj=>by
      by_cases e:j=k
      ·subst e;exact s.out
      ·exact HZ.out j (by omega),C2.out⟩,by simp[intOf];omega⟩
  ·obtain rfl:k=n:=by omega
   have O:Hid (R=(0,0)):=by show _=_;rw[HR.out];exact pY HZ.out
   go_wp2;try rw[JB]
   go_ret2;exact⟨by simp[O.out],BW.out⟩
end Go.Proofs.YtkdimgejdocbbaaGreatDoor.Vp
