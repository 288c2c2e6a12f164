import Derived.Test.YtkdimgejdocbbaaGreatDoorYS
import Derived.Test.YtkdimgejdocbbaaGreatDoorYI
set_option maxRecDepth 100000
set_option maxHeartbeats 8000000
open Go.Addr renaming mk->J
open Go.Value renaming slice->Z,string->U,int->Q
open Option renaming none->Y,some->N
open Go.Obj renaming cells->T
open Go.IntKind renaming i64->I
open Go renaming World->E
open Bool renaming false->D
namespace Go.Proofs.YtkdimgejdocbbaaGreatDoor.Vp
open RowKit
theorem qW (QN l n y u:Nat)(t:Option Addr)(n0 z:Nat)(f0:Nat->Source)(r:Option Addr)(n1 A:Nat)(f1:Nat->Target)(f:Nat->aj)(w:E)(hn:(n:Int)<=400)(hn0:(n0:Int)<=1048576)(hn1:(n1:Int)<=1048576)(ur:aX f n=true)(ro:RowDeed w QN l n f)(Bk:SlSource w t n0 f0)(qr:SlTarget w r n1 f1)(Fm:aE (nm0 f0) n0=true)(Fo:aE (nm1 f1) n1=true)(DQ:∀ i,i<n->(f i).actN<=1048576)(Fh:∀ i,i<n->(f i).linksN<=1048576)(Fp:∀ i,i<n1->aS (f1 i))(sm:Tab2 w)(th:Pow w)(L:u<w.heap.size)
  (k0:w.cell? (J u 0 Y)=N (Q I 2)) (k1:w.cell? (J u 1 Y)=N (.func (.func 188) #[] #[])) (k2:w.cell? (J u 2 Y)=N (Q I 3)) (k3:w.cell? (J u 3 Y)=N (.func (.func 189) #[] #[])) (k4:w.cell? (J u 4 Y)=N (Q I 4)) (k5:w.cell? (J u 5 Y)=N (.func (.func 118) #[] #[])) (k6:w.cell? (J u 6 Y)=N (Q I 5)) (k7:w.cell? (J u 7 Y)=N (.func (.func 119) #[] #[])) :
  Calls Tryz.prog 117 #[.agg #[Z (N (J QN l Y)) n y,Z t n0 z,Z r n1 A],Z (N (J u 0 Y)) 4 4] w fun e w'=>e=.returned (.tuple #[Q I (fr (ec n0 f0 n1 f1 f) n).1,Q I (fr (ec n0 f0 n1 f1 f) n).2])/\Below w.heap.size w w':=by
 obtain⟨R,hR⟩:∃ R,R=fr (ec n0 f0 n1 f1 f) n:=⟨_,rfl⟩
 rw[<-hR];have HR:=ae hR;clear hR;have A0:=ae ((Qs w).alloc lr (T #[Z (N (J QN l Y)) n y,Z t n0 z,Z r n1 A] 165));have m0:(w.alloc (T #[Z (N (J QN l Y)) n y,Z t n0 z,Z r n1 A] 165)).cell? (J w.heap.size 0 Y)=N (Z (N (J QN l Y)) n y):=by simp
 have m1:(w.alloc (T #[Z (N (J QN l Y)) n y,Z t n0 z,Z r n1 A] 165)).cell? (J w.heap.size 1 Y)=N (Z t n0 z):=by simp
 have m2:(w.alloc (T #[Z (N (J QN l Y)) n y,Z t n0 z,Z r n1 A] 165)).cell? (J w.heap.size 2 Y)=N (Z r n1 A):=by simp
 have hz:(w.alloc (T #[Z (N (J QN l Y)) n y,Z t n0 z,Z r n1 A] 165)).heap.size=w.heap.size+1:=by simp
 have V:=ae ro;have ph:=ae ur;have Fd:=ae Bk;have DA:=ae qr;have DE:=ae Fm;have Fl:=ae Fo;have Fq:=ae DQ;have Ft:=ae Fh;have Fs:=ae Fp;have Fk:=ae sm;have At:=ae th;have Fi:=sm.1;have S:=ae (C.intro k0 (C.intro k1 (C.intro k2 (C.intro k3 (C.intro k4 (C.intro k5 (C.intro k6 k7)))))));clear ro ur Bk qr Fm Fo DQ Fh Fp sm th k0 k1 k2 k3 k4 k5 k6 k7;go_enter Tryz.func117,Tryz.ntmps117;go_wp2;go_step3;go_wp2;go_step3;go_wp2;generalize w.alloc (T #[Z (N (J QN l Y)) n y,Z t n0 z,Z r n1 A] 165)=WA at A0 m0 m1 m2 hz ⊢;go_loopw [6,7,16] (fun c6 c7 i wr=>∃ k:Nat,k<=n/\c6=Q I 0/\c7=Q I 0/\i=Q I k/\Hid (∀ j,j<k->ec n0 f0 n1 f1 f j=0)/\Hid (Below (w.heap.size+1) WA wr)) (fun _ _ i _=>n - (intOf i).toNat);case atStart=>exact⟨0,by omega,rfl,rfl,rfl,fun j hj=>absurd hj (CV _),eI _ _⟩
 case round =>
  obtain⟨k,hk,rfl,rfl,rfl,HZ,HB⟩:=hrel;have BW:=ae (A0.out.trans (HB.out.mono (by omega)));by_cases H:k<n
  ·obtain⟨p0,p1,p2,p3,⟨a0,d,p4,q4⟩,⟨a1,g,p5,q5⟩⟩:=(V.out.below BW.out lr).2 k H
   have QM:=ae (AH n0 f0 n1 f1 f k);have D1:=ae ((Qs wr).alloc lr (T #[U (f k).name,Q I (f k).kind,Q I (f k).code,U (f k).text,Z a0 (f k).actN d,Z a1 (f k).linksN g] 58));have B1:=ae (HB.out.alloc (by have:=HB.out.size;omega) (T #[U (f k).name,Q I (f k).kind,Q I (f k).code,U (f k).text,Z a0 (f k).actN d,Z a1 (f k).linksN g] 58));have QI:=ae (show SlIns wr a0 (f k).actN (f k).act/\SlLink wr a1 (f k).linksN (f k).links from⟨q4,q5⟩);have O:=ae (C.intro (QI.out.1.below D1.out lr) (QI.out.2.below D1.out lr));have e0:(wr.alloc (T #[U (f k).name,Q I (f k).kind,Q I (f k).code,U (f k).text,Z a0 (f k).actN d,Z a1 (f k).linksN g] 58)).cell? (J wr.heap.size 0 Y)=N (U (f k).name):=by simp
   have e1:(wr.alloc (T #[U (f k).name,Q I (f k).kind,Q I (f k).code,U (f k).text,Z a0 (f k).actN d,Z a1 (f k).linksN g] 58)).cell? (J wr.heap.size 1 Y)=N (Q I (f k).kind):=by simp
   have e2:(wr.alloc (T #[U (f k).name,Q I (f k).kind,Q I (f k).code,U (f k).text,Z a0 (f k).actN d,Z a1 (f k).linksN g] 58)).cell? (J wr.heap.size 2 Y)=N (Q I (f k).code):=by simp
   have e3:(wr.alloc (T #[U (f k).name,Q I (f k).kind,Q I (f k).code,U (f k).text,Z a0 (f k).actN d,Z a1 (f k).linksN g] 58)).cell? (J wr.heap.size 3 Y)=N (U (f k).text):=by simp
   have e4:(wr.alloc (T #[U (f k).name,Q I (f k).kind,Q I (f k).code,U (f k).text,Z a0 (f k).actN d,Z a1 (f k).linksN g] 58)).cell? (J wr.heap.size 4 Y)=N (Z a0 (f k).actN d):=by simp
   have e5:(wr.alloc (T #[U (f k).name,Q I (f k).kind,Q I (f k).code,U (f k).text,Z a0 (f k).actN d,Z a1 (f k).linksN g] 58)).cell? (J wr.heap.size 5 Y)=N (Z a1 (f k).linksN g):=by simp
   have Fj:(wr.alloc (T #[U (f k).name,Q I (f k).kind,Q I (f k).code,U (f k).text,Z a0 (f k).actN d,Z a1 (f k).linksN g] 58)).heap.size=wr.heap.size+1:=by simp
   have Fr:w.heap.size+1<=wr.heap.size:=by have:=HB.out.size;omega
   clear q4 q5;go_wp2;clear p0 p1 p2 p3 p4 p5 D1;generalize wr.alloc (T #[U (f k).name,Q I (f k).kind,Q I (f k).code,U (f k).text,Z a0 (f k).actN d,Z a1 (f k).linksN g] 58)=WD at B1 O e0 e1 e2 e3 e4 e5 Fj ⊢;generalize wr.heap.size=QO at e0 e1 e2 e3 e4 e5 Fj Fr ⊢;go_loopw [6,7,23] (fun c6 c7 i w2=>∃ j:Nat,j<=4/\c6=Q I 0/\c7=Q I 0/\i=Q I j/\Hid (1<=j->iU n0 f0 n1 f1 (f k)=D)/\Hid (2<=j->hasB n0 f0 n1 f1 (f k)=D)/\Hid (3<=j->fm f k=D)/\Hid (4<=j->jb f k=D)/\Hid (Below (QO+1) WD w2)) (fun _ _ i _=>4 - (intOf i).toNat);case atStart=>exact⟨0,by omega,rfl,rfl,rfl,(fun h=>by omega),(fun h=>by omega),(fun h=>by omega),(fun h=>by omega),eI _ _⟩
   case round =>
    obtain⟨j,hj,rfl,rfl,rfl,QJ,N1,N2,N3,b⟩:=hrel;have C2:=ae (B1.out.trans (b.out.mono (by omega)));have QQ:=ae (A0.out.trans (C2.out.mono (by omega)));have fd:=(QQ.out.cell (p:=(J u 0 Y)) L).trans S.out.1;have ex:=(QQ.out.cell (p:=(J u 1 Y)) L).trans S.out.2.1;have ld:=(QQ.out.cell (p:=(J u 2 Y)) L).trans S.out.2.2.1;have n8:=(QQ.out.cell (p:=(J u 3 Y)) L).trans S.out.2.2.2.1;have n9:=(QQ.out.cell (p:=(J u 4 Y)) L).trans S.out.2.2.2.2.1;have X:=(QQ.out.cell (p:=(J u 5 Y)) L).trans S.out.2.2.2.2.2.1;have aq:=(QQ.out.cell (p:=(J u 6 Y)) L).trans S.out.2.2.2.2.2.2.1;have bt:=(QQ.out.cell (p:=(J u 7 Y)) L).trans S.out.2.2.2.2.2.2.2;have QG:=(b.out.cell (p:=(J QO 0 Y)) (lj QO)).trans e0;have la:=(b.out.cell (p:=(J QO 1 Y)) (lj QO)).trans e1;have QH:=(b.out.cell (p:=(J QO 2 Y)) (lj QO)).trans e2;have n6:=(b.out.cell (p:=(J QO 3 Y)) (lj QO)).trans e3;have n7:=(b.out.cell (p:=(J QO 4 Y)) (lj QO)).trans e4;have mv:=(b.out.cell (p:=(J QO 5 Y)) (lj QO)).trans e5;have g0:=(C2.out.cell (p:=(J w.heap.size 0 Y)) (lj w.heap.size)).trans m0;have g1:=(C2.out.cell (p:=(J w.heap.size 1 Y)) (lj w.heap.size)).trans m1;have g2:=(C2.out.cell (p:=(J w.heap.size 2 Y)) (lj w.heap.size)).trans m2;have qr:QO<wr.heap.size:=by have:=b.out.size;omega
    have hs2:w.heap.size<wr.heap.size:=by omega
    have hs3:u<wr.heap.size:=by omega
    rcases(show j=0∨j=1∨j=2∨j=3∨j=4 by omega) with rfl | rfl | rfl | rfl | rfl
    ·have QL:=fun(w:E) (a:Addr) (m:Mode)=>NG Tryz.prog w a (.func (.func 188) #[] #[]) m rfl
     have G:=ae ((Qs wr).alloc lr (T #[Q I 2,.func (.func 188) #[] #[]] 168));have o:=ae (QQ.out.alloc QQ.out.size (T #[Q I 2,.func (.func 188) #[] #[]] 168));have K:=ae (C.intro ((O.out.1.below b.out (by omega)).below G.out lr) ((O.out.2.below b.out (by omega)).below G.out lr));have QP:=ae (b.out.alloc (by have:=b.out.size;omega) (T #[Q I 2,.func (.func 188) #[] #[]] 168));have q:(wr.alloc (T #[Q I 2,.func (.func 188) #[] #[]] 168)).cell? (J wr.heap.size 0 Y)=N (Q I 2):=by simp
     have B:wr.heap.size<(wr.alloc (T #[Q I 2,.func (.func 188) #[] #[]] 168)).heap.size:=by simp
     go_wp2_with fail;clear QG la QH n6 n7 mv g0 g1 g2 fd ex ld n8 n9 X aq bt QL;generalize wr.alloc (T #[Q I 2,.func (.func 188) #[] #[]] 168)=WX at G o K QP q B ⊢;refine(Ac QN l n y t n0 z f0 r n1 A f1 (f k) a0 d a1 g _ hn0 hn1 (Fd.out.below o.out lr) (DA.out.below o.out lr) DE.out Fl.out K.out.1 (Fq.out k H) Fs.out).mono ?_;rintro e w3 ⟨rfl,x⟩;have W:=ae (o.out.trans (x.mono o.out.size));have QK:=ae (QP.out.trans (x.mono (by have:=QP.out.size;omega)));have cz:=(x.cell (p:=(J wr.heap.size 0 Y)) B).trans q;clear x q;cases hb:iU n0 f0 n1 f1 (f k) with
     | true =>
      have s:Hid (ec n0 f0 n1 f1 f k=2):=by show _=_;rw[QM.out];rw[eT hb]
      have P:Hid (R=(2,(k:Int))):=by show _=_;rw[HR.out,iF H HZ.out (by rw[s.out];decide),s.out]
      go_wp2;try rw[JC]
      go_ret2;exact⟨by simp[P.out],W.out⟩
     | false =>have M:=ae hb;go_wp2;exact⟨⟨1,by omega,rfl,rfl,by go_num,(fun _=>M.out),(fun h=>by omega),(fun h=>by omega),(fun h=>by omega),QK.out⟩,by simp[intOf]⟩
    ·have QL:=fun(w:E) (a:Addr) (m:Mode)=>NG Tryz.prog w a (.func (.func 189) #[] #[]) m rfl
     have G:=ae ((Qs wr).alloc lr (T #[Q I 3,.func (.func 189) #[] #[]] 168));have o:=ae (QQ.out.alloc QQ.out.size (T #[Q I 3,.func (.func 189) #[] #[]] 168));have K:=ae (C.intro ((O.out.1.below b.out (by omega)).below G.out lr) ((O.out.2.below b.out (by omega)).below G.out lr));have QP:=ae (b.out.alloc (by have:=b.out.size;omega) (T #[Q I 3,.func (.func 189) #[] #[]] 168));have q:(wr.alloc (T #[Q I 3,.func (.func 189) #[] #[]] 168)).cell? (J wr.heap.size 0 Y)=N (Q I 3):=by simp
     have B:wr.heap.size<(wr.alloc (T #[Q I 3,.func (.func 189) #[] #[]] 168)).heap.size:=by simp
     go_wp2_with fail;clear QG la QH n6 n7 mv g0 g1 g2 fd ex ld n8 n9 X aq bt QL;generalize wr.alloc (T #[Q I 3,.func (.func 189) #[] #[]] 168)=WX at G o K QP q B ⊢;refine(wD QN l n y t n0 z f0 r n1 A f1 (f k) a0 d a1 g _ hn0 hn1 (Fd.out.below o.out lr) (DA.out.below o.out lr) DE.out Fl.out K.out.2 (Ft.out k H)).mono ?_;rintro e w3 ⟨rfl,x⟩;have W:=ae (o.out.trans (x.mono o.out.size));have QK:=ae (QP.out.trans (x.mono (by have:=QP.out.size;omega)));have cz:=(x.cell (p:=(J wr.heap.size 0 Y)) B).trans q;clear x q;cases hb:hasB n0 f0 n1 f1 (f k) with
     | true =>
      have s:Hid (ec n0 f0 n1 f1 f k=3):=by show _=_;rw[QM.out];rw[a8 (by rw[QJ.out (by omega)];simp),eT hb]
      have P:Hid (R=(3,(k:Int))):=by show _=_;rw[HR.out,iF H HZ.out (by rw[s.out];decide),s.out]
      go_wp2;try rw[JC]
      go_ret2;exact⟨by simp[P.out],W.out⟩
     | false =>have M:=ae hb;go_wp2;exact⟨⟨2,by omega,rfl,rfl,by go_num,(fun _=>QJ.out (by omega)),(fun _=>M.out),(fun h=>by omega),(fun h=>by omega),QK.out⟩,by simp[intOf]⟩
    ·have QL:=fun(w:E) (a:Addr) (m:Mode)=>NG Tryz.prog w a (.func (.func 118) #[] #[]) m rfl
     have G:=ae ((Qs wr).alloc lr (T #[Q I 4,.func (.func 118) #[] #[]] 168));have o:=ae (QQ.out.alloc QQ.out.size (T #[Q I 4,.func (.func 118) #[] #[]] 168));have K:=ae (C.intro ((O.out.1.below b.out (by omega)).below G.out lr) ((O.out.2.below b.out (by omega)).below G.out lr));have QP:=ae (b.out.alloc (by have:=b.out.size;omega) (T #[Q I 4,.func (.func 118) #[] #[]] 168));have q:(wr.alloc (T #[Q I 4,.func (.func 118) #[] #[]] 168)).cell? (J wr.heap.size 0 Y)=N (Q I 4):=by simp
     have B:wr.heap.size<(wr.alloc (T #[Q I 4,.func (.func 118) #[] #[]] 168)).heap.size:=by simp
     go_wp2_with fail;clear QG la QH n6 n7 mv g0 g1 g2 fd ex ld n8 n9 X aq bt QL;generalize wr.alloc (T #[Q I 4,.func (.func 118) #[] #[]] 168)=WX at G o K QP q B ⊢;refine(ud t n0 z r n1 A QN l n y f k a0 d a1 g _ ph.out H (V.out.below o.out lr) K.out.1 K.out.2 (Fk.out.below o.out Fi) (At.out.below o.out lr)).mono ?_;rintro e w3 ⟨rfl,x⟩;have W:=ae (o.out.trans (x.mono o.out.size));have QK:=ae (QP.out.trans (x.mono (by have:=QP.out.size;omega)));have cz:=(x.cell (p:=(J wr.heap.size 0 Y)) B).trans q;clear x q;cases hb:fm f k with
     | true =>
      have s:Hid (ec n0 f0 n1 f1 f k=4):=by show _=_;rw[QM.out];rw[a8 (by rw[QJ.out (by omega)];simp),a8 (by rw[N1.out (by omega)];simp),eT hb]
      have P:Hid (R=(4,(k:Int))):=by show _=_;rw[HR.out,iF H HZ.out (by rw[s.out];decide),s.out]
      go_wp2;try rw[JC]
      go_ret2;exact⟨by simp[P.out],W.out⟩
     | false =>have M:=ae hb;go_wp2;exact⟨⟨3,by omega,rfl,rfl,by go_num,(fun _=>QJ.out (by omega)),(fun _=>N1.out (by omega)),(fun _=>M.out),(fun h=>by omega),QK.out⟩,by simp[intOf]⟩
    ·have QL:=fun(w:E) (a:Addr) (m:Mode)=>NG Tryz.prog w a (.func (.func 119) #[] #[]) m rfl
     have G:=ae ((Qs wr).alloc lr (T #[Q I 5,.func (.func 119) #[] #[]] 168));have o:=ae (QQ.out.alloc QQ.out.size (T #[Q I 5,.func (.func 119) #[] #[]] 168));have K:=ae (C.intro ((O.out.1.below b.out (by omega)).below G.out lr) ((O.out.2.below b.out (by omega)).below G.out lr));have QP:=ae (b.out.alloc (by have:=b.out.size;omega) (T #[Q I 5,.func (.func 119) #[] #[]] 168));have q:(wr.alloc (T #[Q I 5,.func (.func 119) #[] #[]] 168)).cell? (J wr.heap.size 0 Y)=N (Q I 5):=by simp
     have B:wr.heap.size<(wr.alloc (T #[Q I 5,.func (.func 119) #[] #[]] 168)).heap.size:=by simp
     go_wp2_with fail;clear QG la QH n6 n7 mv g0 g1 g2 fd ex ld n8 n9 X aq bt QL;generalize wr.alloc (T #[Q I 5,.func (.func 119) #[] #[]] 168)=WX at G o K QP q B ⊢;refine(yv t n0 z r n1 A QN l n y f k a0 d a1 g _ ph.out H (V.out.below o.out lr) K.out.1 K.out.2 (Fk.out.below o.out Fi) (At.out.below o.out lr)).mono ?_;rintro e w3 ⟨rfl,x⟩;have W:=ae (o.out.trans (x.mono o.out.size));have QK:=ae (QP.out.trans (x.mono (by have:=QP.out.size;omega)));have cz:=(x.cell (p:=(J wr.heap.size 0 Y)) B).trans q;clear x q;cases hb:jb f k with
     | true =>
      have s:Hid (ec n0 f0 n1 f1 f k=5):=by show _=_;rw[QM.out];rw[a8 (by rw[QJ.out (by omega)];simp),a8 (by rw[N1.out (by omega)];simp),a8 (by rw[N2.out (by omega)];simp),eT hb]
      have P:Hid (R=(5,(k:Int))):=by show _=_;rw[HR.out,iF H HZ.out (by rw[s.out];decide),s.out]
      go_wp2;try rw[JC]
      go_ret2;exact⟨by simp[P.out],W.out⟩
     | false =>have M:=ae hb;go_wp2;exact⟨⟨4,by omega,rfl,rfl,by go_num,(fun _=>QJ.out (by omega)),(fun _=>N1.out (by omega)),(fun _=>N2.out (by omega)),(fun _=>M.out),QK.out⟩,by simp[intOf]⟩
    ·have s:Hid (ec n0 f0 n1 f1 f k=0):=by show _=_;rw[QM.out,a8 (by rw[QJ.out (by omega)];simp),a8 (by rw[N1.out (by omega)];simp),a8 (by rw[N2.out (by omega)];simp),a8 (by rw[N3.out (by omega)];simp)]
     go_wp2
     exact⟨⟨k+1,by omega,rfl,rfl,by go_num,fun j hj=>by
      by_cases e:j=k
      ·subst e;exact s.out
      ·exact HZ.out j (by omega),C2.out⟩,by simp[intOf];omega⟩
  ·obtain rfl:k=n:=by omega
   have P:Hid (R=(0,0)):=by show _=_;rw[HR.out];exact pY HZ.out
   go_wp2;try rw[JC]
   go_ret2;exact⟨by simp[P.out],BW.out⟩
end Go.Proofs.YtkdimgejdocbbaaGreatDoor.Vp
