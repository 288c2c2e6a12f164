import Derived.Test.YtamacmnikdejeaaGreatDoorRS
import Derived.Test.YtamacmnikdejeaaGreatDoorRK
set_option maxRecDepth 100000
set_option maxHeartbeats 4000000
open Go.Addr renaming mk->N
open Go.Value renaming slice->Y,int->J
open Option renaming none->Z
open Go.Obj renaming cells->Q
open Go.IntKind renaming i64->I
open Bool renaming true->QD
open Go.Ending renaming returned->QF
namespace Go.Proofs.YtamacmnikdejeaaGreatDoor.Vp
open RowKit
theorem jI (a:Option Addr)(n cap:Nat)(f:Nat->ah)(w:World)(hn:(n:Int)<=1048576)(P:SlDeed w a n f)(C:(n:Int)<=cap)(u:∀ i,i<n->dJ (f i))(l:Tab w)(x:Tab2 w)(s:Pow w):Calls Tryz.prog 8 #[.agg #[Y a n cap]] w fun e QL=>e=QF (.tuple #[J I (fk f n).1,J I (fk f n).2])/\Below w.heap.size w QL:=by
 have E:=ae P;have L:=ae u;have O:=ae l;have M:=ae x;have QR:=ae s;have QO:=x.1;clear P u l x s;have j:=ae ((q9 w).alloc ly (Q #[Y a n cap] 25));have QP:(w.alloc (Q #[Y a n cap] 25)).cell? (N w.heap.size 0 Z)=some (Y a n cap):=by simp
 have hz:w.heap.size<(w.alloc (Q #[Y a n cap] 25)).heap.size:=by simp
 obtain⟨y,o,l⟩:∃ y o,fk f n=(y,o):=⟨_,_,rfl⟩
 rw[l];have z:=ae (show(if aK f n=QD then fc f n else (1,0))=(y,o) from l);clear l;go_enter Tryz.func8,Tryz.ntmps8;go_wp2_with fail;generalize w.alloc (Q #[Y a n cap] 25)=W at j QP hz ⊢;refine(ja a n cap f _ hn (E.out.below j.out ly) C L.out (O.out.below j.out O.out.1)).mono ?_;rintro e K ⟨rfl,g⟩;have H:=ae (j.out.trans (g.mono j.out.size));have k1:=(g.cell (p:=(N w.heap.size 0 Z)) hz).trans QP;have hz1:w.heap.size<K.heap.size:=lj hz g.size;clear g j QP hz;have QN:=ae (fun h:aK f n=QD=>(⟨eB h,h⟩:(1<=n/\n<=400/\aF (aW f) n=-1)/\aK f n=QD));obtain⟨r,D⟩:∃ r,r=aK f n:=⟨_,rfl⟩
 rw[<-D] at z ⊢;have A:=ae D;clear D;cases r with
 | false =>
  obtain⟨rfl,rfl⟩:(1:Int)=y/\(0:Int)=o:=by have:=z.out;simpa using this
  go_wp2;go_ret2;exact⟨rfl,H.out⟩
 | true =>have S:=ae (show fc f n=(y,o) by have:=z.out;simpa using this);obtain⟨⟨hn1,hn4,-⟩,t⟩:=QN.out A.out.symm;have B:=ae t;clear z QN L t A;obtain⟨b,off,rfl,m⟩:=E.out.resolve_left (by omega);have R:=ae m;clear E m;have q:=ae (H.out.alloc H.out.size (Q #[J I 4,.func (.func 39) #[] #[],J I 5,.func (.func 40) #[] #[]] 80));go_wp2_with fail;refine(rN b off n cap K.heap.size f _ (by omega) B.out (R.out.below q.out ly) (M.out.below q.out QO) (QR.out.below q.out ly) (by simp) (by simp) (by simp) (by simp) (by simp)).mono ?_;rintro e w2 ⟨rfl,g⟩;have QM:=ae (q.out.trans (g.mono q.out.size));clear g;rw[S.out];go_wp2;go_ret2;exact⟨rfl,QM.out⟩
theorem pB (a:Option Addr)(n cap:Nat)(f:Nat->ah)(w:World)(hn:(n:Int)<=1048576)(QK:SlDeed w a n f)(z:∀ i,i<n->dJ (f i))(QR:∀ i,i<n->gT (f i)):Calls Tryz.prog 9 #[.agg #[Y a n cap]] w fun e w'=>e=QF (.tuple #[J I (fk f n).1,J I (fk f n).2])/\Below w.heap.size w w':=by
 have QO:=ae QK;have HM:=ae z;have QH:=ae QR;clear QK z QR;have A:=ae ((q9 w).alloc ly (Q #[Y a n cap] 25));have R:(w.alloc (Q #[Y a n cap] 25)).cell? (N w.heap.size 0 Z)=some (Y a n cap):=by simp
 have hz:w.heap.size<(w.alloc (Q #[Y a n cap] 25)).heap.size:=by simp
 obtain⟨t,s,S⟩:∃ t s,fk f n=(t,s):=⟨_,_,rfl⟩
 rw[S];have E:=ae (show(if aK f n=QD then fc f n else (1,0))=(t,s) from S);clear S;go_enter Tryz.func9,Tryz.ntmps9;go_wp2_with fail;generalize w.alloc (Q #[Y a n cap] 25)=W at A R hz ⊢;refine(zY a n cap f _ hn (QO.out.below A.out ly) HM.out QH.out).mono ?_;rintro e O ⟨rfl,m⟩;have QM:=ae (A.out.trans (m.mono A.out.size));have k1:=(m.cell (p:=(N w.heap.size 0 Z)) hz).trans R;have aq:w.heap.size<O.heap.size:=lj hz m.size;clear m A R hz;have V:=ae (fun h:aK f n=QD=>(⟨eB h,h⟩:(1<=n/\n<=400/\aF (aW f) n=-1)/\aK f n=QD));obtain⟨r,P⟩:∃ r,r=aK f n:=⟨_,rfl⟩
 rw[<-P] at E ⊢;have H:=ae P;clear P;cases r with
 | false =>
  obtain⟨rfl,rfl⟩:(1:Int)=t/\(0:Int)=s:=by have:=E.out;simpa using this
  go_wp2;go_ret2;exact⟨rfl,QM.out⟩
 | true =>
  have QJ:=ae (show fc f n=(t,s) by have:=E.out;simpa using this);obtain⟨⟨hn1,hn4,-⟩,u⟩:=V.out H.out.symm;have L:=ae u;clear E V HM u H;obtain⟨b,off,rfl,y⟩:=QO.out.resolve_left (by omega);have HR:=ae y;clear QO y;go_wp2;go_loopw [4] (fun v wr=>∃ i:Nat,i<=n/\v=J I i/\Hid (∀ j,j<i->codeF f j=0)/\Hid (Below O.heap.size O wr)) (fun i _=>n - (intOf i).toNat);case atStart=>exact⟨0,by omega,rfl,fun j K=>absurd K (E4 _),a8 _ _⟩
  case round =>
   obtain⟨i,hin,rfl,D,x⟩:=hrel;have k2:=(x.out.cell (p:=(N w.heap.size 0 Z)) aq).trans k1;have B:=ae (QM.out.trans (x.out.mono QM.out.size));by_cases o:i<n
   ·have hlt2:(i:Int)<n:=by omega
    have l:=HR.out.below B.out ly;have QL:=ae l;obtain⟨o0,o1,o2,o3,-,-⟩:=l.2 i o;clear l;by_cases q:(f i).kind=3
    ·have X:=ae q
     have g:Hid (codeF f i=fC f i):=by show _=_;unfold codeF;rw[gM q]
     rw[q] at o1;clear q;go_wp2_with fail;refine(yy b off n cap f i _ (by omega) L.out o X.out QL.out (QH.out i o)).mono ?_;rintro e w3 ⟨rfl,m⟩;have B3:=ae (x.out.trans (m.mono x.out.size));have R3:=ae (B.out.trans (m.mono B.out.size));clear m;obtain⟨C,M⟩:∃ C,C=fC f i:=⟨_,rfl⟩
     rw[<-M];rw[<-M] at g;clear M;by_cases QN:C=0
     ·subst QN
      go_wp2
      exact⟨⟨i+1,by omega,rfl,fun j K=>by
       by_cases e:j=i
       ·subst e;exact g.out
       ·exact D.out j (by omega),B3.out⟩,by simp[intOf];omega⟩
     ·have hc2:(C == 0)=false:=by simpa using QN
      have QP:Hid (C=t/\(i:Int)=s):=by have h:=iH o D.out (by rw[g.out];exact QN);rw[QJ.out,g.out] at h;simp only[IA] at h;exact⟨h.1.symm,h.2.symm⟩
      go_wp2;go_ret2;exact⟨by rw[QP.out.1,QP.out.2];rfl,R3.out⟩
    ·have g:Hid (codeF f i=0):=by show _=_;unfold codeF;rw[cM q]
     have hk2:((f i).kind == 3)=false:=by simpa using q
     go_wp2
     exact⟨⟨i+1,by omega,rfl,fun j K=>by
       by_cases e:j=i
       ·subst e;exact g.out
       ·exact D.out j (by omega),x.out⟩,by simp[intOf];omega⟩
   ·obtain rfl:i=n:=by omega
    have h:=qI D.out;rw[QJ.out] at h;simp only[IA] at h;obtain⟨rfl,rfl⟩:=h;go_wp2;go_ret2;exact⟨rfl,B.out⟩
end Go.Proofs.YtamacmnikdejeaaGreatDoor.Vp
