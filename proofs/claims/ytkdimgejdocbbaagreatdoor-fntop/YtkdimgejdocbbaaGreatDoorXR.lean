import Derived.Test.YtkdimgejdocbbaaGreatDoorYV
import Derived.Test.YtkdimgejdocbbaaGreatDoorYJ
set_option maxRecDepth 100000
set_option maxHeartbeats 4000000
open Go.Addr renaming mk->J
open Go.Value renaming slice->Y,int->N,agg->QE
open Option renaming none->Z,some->Q
open Go.Obj renaming cells->T
open Go.IntKind renaming i64->I
open Bool renaming true->QC
open Go.Ending renaming returned->QD
namespace Go.Proofs.YtkdimgejdocbbaaGreatDoor.Vp
open RowKit
theorem oR (a:Option Addr)(n d:Nat)(f:Nat->aj)(w:World)(QK:(n:Int)<=1048576)(QM:SlDeed w a n f)(QQ:(n:Int)<=d)(l:∀ i,i<n->cY (f i))(k:Tab w)(x:Tab2 w)(o:Pow w):Calls Tryz.prog 39 #[QE #[Y a n d]] w fun e QL=>e=QD (.tuple #[N I (sH f n).1,N I (sH f n).2])/\Below w.heap.size w QL:=by
 have H:=ae QM;have L:=ae l;have QO:=ae k;have M:=ae x;have QP:=ae o;have QN:=x.1;clear QM l k x o;have j:=ae ((Qs w).alloc lr (T #[Y a n d] 50));have C:(w.alloc (T #[Y a n d] 50)).cell? (J w.heap.size 0 Z)=Q (Y a n d):=by simp
 have hz:w.heap.size<(w.alloc (T #[Y a n d] 50)).heap.size:=by simp
 obtain⟨q,u,k⟩:∃ q u,sH f n=(q,u):=⟨_,_,rfl⟩
 rw[k];have y:=ae (show(if aX f n=QC then fD f n else (1,0))=(q,u) from k);clear k;go_enter Tryz.func39,Tryz.ntmps39;go_wp2_with fail;generalize w.alloc (T #[Y a n d] 50)=W at j C hz ⊢;refine(iY a n d f _ QK (H.out.below j.out lr) QQ L.out (QO.out.below j.out QO.out.1)).mono ?_;rintro e K ⟨rfl,g⟩;have G:=ae (j.out.trans (g.mono j.out.size));have k1:=(g.cell (p:=(J w.heap.size 0 Z)) hz).trans C;have hz1:w.heap.size<K.heap.size:=ll hz g.size;clear g j C hz;have O:=ae (fun h:aX f n=QC=>(⟨dU h,h⟩:(1<=n/\n<=400/\aJ (bc f) n=-1)/\aX f n=QC));obtain⟨r,A⟩:∃ r,r=aX f n:=⟨_,rfl⟩
 rw[<-A] at y ⊢;have z:=ae A;clear A;cases r with
 | false =>
  obtain⟨rfl,rfl⟩:(1:Int)=q/\(0:Int)=u:=by have:=y.out;simpa using this
  go_wp2;go_ret2;exact⟨rfl,G.out⟩
 | true =>have P:=ae (show fD f n=(q,u) by have:=y.out;simpa using this);obtain⟨⟨hn1,hn4,-⟩,m⟩:=O.out z.out.symm;have B:=ae m;clear y O L m z;obtain⟨b,off,rfl,s⟩:=H.out.resolve_left (by omega);have S:=ae s;clear H s;have t:=ae (G.out.alloc G.out.size (T #[N I 4,.func (.func 118) #[] #[],N I 5,.func (.func 119) #[] #[]] 168));go_wp2_with fail;refine(qU b off n d K.heap.size f _ (by omega) B.out (S.out.below t.out lr) (M.out.below t.out QN) (QP.out.below t.out lr) (by simp) (by simp) (by simp) (by simp) (by simp)).mono ?_;rintro e w2 ⟨rfl,g⟩;have R:=ae (t.out.trans (g.mono t.out.size));clear g;rw[P.out];go_wp2;go_ret2;exact⟨rfl,R.out⟩
theorem ri (a:Option Addr)(n d:Nat)(f:Nat->aj)(j:Option Addr)(n0 m:Nat)(f0:Nat->Source)(g:Option Addr)(n1 l:Nat)(f1:Nat->Target)(w:World)(hn:(n:Int)<=1048576)(hn0:(n0:Int)<=1048576)(hn1:(n1:Int)<=1048576)(hv:SlDeed w a n f)(QG:(n:Int)<=d)(QQ:∀ i,i<n->cY (f i))(R:SlSource w j n0 f0)(QK:SlTarget w g n1 f1)(P:∀ i,i<n1->aS (f1 i))(z:Tab w)(H:Tab2 w)(C:Pow w):Calls Tryz.prog 121 #[QE #[Y a n d],QE #[Y j n0 m,Y g n1 l]] w fun e w'=>e=QD (.tuple #[N I (gu n0 f0 n1 f1 f n).1,N I (gu n0 f0 n1 f1 f n).2])/\Below w.heap.size w w':=by
 have HV:=ae hv;have HM:=ae QQ;have L:=ae R;have S:=ae QK;have M:=ae P;have QO:=ae z;have fd:=ae H;have QH:=ae C;have bt:=H.1;clear hv QQ R QK P z H C;have y:=ae (((Qs w).alloc lr (T #[Y a n d] 50)).alloc (by simp) (T #[Y j n0 m,Y g n1 l] 26));have V:((w.alloc (T #[Y a n d] 50)).alloc (T #[Y j n0 m,Y g n1 l] 26)).cell? (J w.heap.size 0 Z)=Q (Y a n d):=by simp[go_sem]
 have X:((w.alloc (T #[Y a n d] 50)).alloc (T #[Y j n0 m,Y g n1 l] 26)).cell? (J (w.heap.size+1) 0 Z)=Q (Y j n0 m):=by simp[go_sem]
 have k2:((w.alloc (T #[Y a n d] 50)).alloc (T #[Y j n0 m,Y g n1 l] 26)).cell? (J (w.heap.size+1) 1 Z)=Q (Y g n1 l):=by simp[go_sem]
 have hz:w.heap.size+1<((w.alloc (T #[Y a n d] 50)).alloc (T #[Y j n0 m,Y g n1 l] 26)).heap.size:=by simp
 obtain⟨q,s,z⟩:∃ q s,gu n0 f0 n1 f1 f n=(q,s):=⟨_,_,rfl⟩
 rw[z];have K:=ae (show(if aX f n=QC then (if aU n0 f0 n1 f1=0 then fr (ec n0 f0 n1 f1 f) n else (1,0)) else (1,0))=(q,s) from z);clear z;go_enter Tryz.func121,Tryz.ntmps121;go_wp2_with fail;generalize (w.alloc (T #[Y a n d] 50)).alloc (T #[Y j n0 m,Y g n1 l] 26)=W at y V X k2 hz ⊢;refine(iY a n d f _ hn (HV.out.below y.out lr) QG HM.out (QO.out.below y.out QO.out.1)).mono ?_;rintro e w1 ⟨rfl,k⟩;have A:=ae (y.out.trans (k.mono y.out.size));have l0:=(k.cell (p:=(J w.heap.size 0 Z)) (by show w.heap.size<_;omega)).trans V;have l1:=(k.cell (p:=(J (w.heap.size+1) 0 Z)) hz).trans X;have l2:=(k.cell (p:=(J (w.heap.size+1) 1 Z)) hz).trans k2;have u:w.heap.size+1<w1.heap.size:=ll hz k.size;clear k y V X k2 hz;have HO:=ae (fun h:aX f n=QC=>(⟨dU h,h⟩:(1<=n/\n<=400/\aJ (bc f) n=-1)/\aX f n=QC));obtain⟨r,hr⟩:∃ r,r=aX f n:=⟨_,rfl⟩
 rw[<-hr] at K ⊢;have QL:=ae hr;clear hr;cases r with
 | false =>
  obtain⟨rfl,rfl⟩:(1:Int)=q/\(0:Int)=s:=by have:=K.out;simpa using this
  go_wp2;go_ret2;exact⟨rfl,A.out⟩
 | true =>
  have QN:=ae (show(if aU n0 f0 n1 f1=0 then fr (ec n0 f0 n1 f1 f) n else (1,0))=(q,s) by have:=K.out;simpa using this);obtain⟨⟨hn1',hn4,-⟩,B⟩:=HO.out QL.out.symm;have QJ:=ae B;clear K HO B QL;obtain⟨b,off,rfl,QP⟩:=HV.out.resolve_left (by omega);have HR:=ae QP;clear HV QP;go_wp2_with fail;refine(lB j n0 m f0 g n1 l f1 _ hn0 hn1 (L.out.below A.out lr) (S.out.below A.out lr) M.out (QO.out.below A.out QO.out.1)).mono ?_;rintro e w2 ⟨rfl,k⟩;have B2:=ae (A.out.trans (k.mono A.out.size));have m0:=(k.cell (p:=(J w.heap.size 0 Z)) (by show w.heap.size<_;omega)).trans l0;have m1:=(k.cell (p:=(J (w.heap.size+1) 0 Z)) u).trans l1;have m2:=(k.cell (p:=(J (w.heap.size+1) 1 Z)) u).trans l2;have hz2:w.heap.size+1<w2.heap.size:=ll u k.size;clear k l0 l1 l2 u;have O:=ae (fun h:aU n0 f0 n1 f1=0=>pJ h);obtain⟨c,hc⟩:∃ c,c=aU n0 f0 n1 f1:=⟨_,rfl⟩
  rw[<-hc] at QN ⊢;have QM:=ae hc;clear hc;by_cases G:c=0
  ·subst G
   have HG:=ae (show fr (ec n0 f0 n1 f1 f) n=(q,s) by have:=QN.out;simpa using this);obtain⟨x,t,hfew⟩:=O.out QM.out.symm;have aq:=ae x;have ex:=ae t;clear QN O QM x t;have o:=ae (B2.out.alloc B2.out.size (T #[N I 2,.func (.func 188) #[] #[],N I 3,.func (.func 189) #[] #[],N I 4,.func (.func 118) #[] #[],N I 5,.func (.func 119) #[] #[]] 168));go_wp2_with fail;refine(qW b off n d w2.heap.size j n0 m f0 g n1 l f1 f _ (by omega) hn0 hn1 QJ.out (HR.out.below o.out lr) (L.out.below o.out lr) (S.out.below o.out lr) aq.out ex.out (fun i hi=>(HM.out i hi).1) (fun i hi=>(HM.out i hi).2) M.out (fd.out.below o.out bt) (QH.out.below o.out lr) (by simp) (by simp) (by simp) (by simp) (by simp) (by simp) (by simp) (by simp) (by simp)).mono ?_;rintro e w3 ⟨rfl,k⟩;have B3:=ae (o.out.trans (k.mono o.out.size));clear k;rw[HG.out];go_wp2;go_ret2;exact⟨rfl,B3.out⟩
  ·obtain⟨rfl,rfl⟩:(1:Int)=q/\(0:Int)=s:=by have:=QN.out;simpa[G] using this
   have hc2:(c == 0)=false:=by simpa using G
   go_wp2;go_ret2;exact⟨rfl,B2.out⟩
end Go.Proofs.YtkdimgejdocbbaaGreatDoor.Vp
