import Derived.Test.YtkdimgejdocbbaaGreatDoorYV
import Derived.Test.YtkdimgejdocbbaaGreatDoorYJ
set_option maxRecDepth 100000
set_option maxHeartbeats 4000000
open Go.Addr renaming mk->J
open Go.Value renaming slice->Z,int->Q,agg->QE
open Option renaming none->Y,some->N
open Go.Obj renaming cells->T
open Go.IntKind renaming i64->I
open Bool renaming true->QC
open Go.Ending renaming returned->QD
namespace Go.Proofs.YtkdimgejdocbbaaGreatDoor.Vp
open RowKit
theorem oR (a:Option Addr)(n d:Nat)(f:Nat->aj)(w:World)(QK:(n:Int)<=1048576)(O:SlDeed w a n f)(QP:(n:Int)<=d)(o:∀ i,i<n->cY (f i))(j:Tab w)(q:Tab2 w)(x:Pow w):Calls Tryz.prog 39 #[QE #[Z a n d]] w fun e R=>e=QD (.tuple #[Q I (sH f n).1,Q I (sH f n).2])/\Below w.heap.size w R:=by
 have C:=ae O;have QL:=ae o;have QN:=ae j;have QO:=ae q;have H:=ae x;have M:=q.1;clear O o j q x;have k:=ae ((Qs w).alloc lr (T #[Z a n d] 50));have G:(w.alloc (T #[Z a n d] 50)).cell? (J w.heap.size 0 Y)=N (Z a n d):=by simp
 have hz:w.heap.size<(w.alloc (T #[Z a n d] 50)).heap.size:=by simp
 obtain⟨m,s,j⟩:∃ m s,sH f n=(m,s):=⟨_,_,rfl⟩
 rw[j];have y:=ae (show(if aX f n=QC then fD f n else (1,0))=(m,s) from j);clear j;go_enter Tryz.func39,Tryz.ntmps39;go_wp2_with fail;generalize w.alloc (T #[Z a n d] 50)=W at k G hz ⊢;refine(iY a n d f _ QK (C.out.below k.out lr) QP QL.out (QN.out.below k.out QN.out.1)).mono ?_;rintro e L ⟨rfl,g⟩;have B:=ae (k.out.trans (g.mono k.out.size));have k1:=(g.cell (p:=(J w.heap.size 0 Y)) hz).trans G;have hz1:w.heap.size<L.heap.size:=ll hz g.size;clear g k G hz;have K:=ae (fun h:aX f n=QC=>(⟨dU h,h⟩:(1<=n/\n<=400/\aJ (bc f) n=-1)/\aX f n=QC));obtain⟨r,QQ⟩:∃ r,r=aX f n:=⟨_,rfl⟩
 rw[<-QQ] at y ⊢;have z:=ae QQ;clear QQ;cases r with
 | false =>
  obtain⟨rfl,rfl⟩:(1:Int)=m/\(0:Int)=s:=by have:=y.out;simpa using this
  go_wp2;go_ret2;exact⟨rfl,B.out⟩
 | true =>have QM:=ae (show fD f n=(m,s) by have:=y.out;simpa using this);obtain⟨⟨hn1,hn4,-⟩,t⟩:=K.out z.out.symm;have A:=ae t;clear y K QL t z;obtain⟨b,off,rfl,l⟩:=C.out.resolve_left (by omega);have S:=ae l;clear C l;have u:=ae (B.out.alloc B.out.size (T #[Q I 4,.func (.func 118) #[] #[],Q I 5,.func (.func 119) #[] #[]] 168));go_wp2_with fail;refine(qU b off n d L.heap.size f _ (by omega) A.out (S.out.below u.out lr) (QO.out.below u.out M) (H.out.below u.out lr) (by simp) (by simp) (by simp) (by simp) (by simp)).mono ?_;rintro e w2 ⟨rfl,g⟩;have P:=ae (u.out.trans (g.mono u.out.size));clear g;rw[QM.out];go_wp2;go_ret2;exact⟨rfl,P.out⟩
theorem ri (a:Option Addr)(n j:Nat)(f:Nat->aj)(g:Option Addr)(n0 l:Nat)(f0:Nat->Source)(d:Option Addr)(n1 m:Nat)(f1:Nat->Target)(w:World)(hn:(n:Int)<=1048576)(hn0:(n0:Int)<=1048576)(hn1:(n1:Int)<=1048576)(hv:SlDeed w a n f)(X:(n:Int)<=j)(B:∀ i,i<n->cY (f i))(L:SlSource w g n0 f0)(QL:SlTarget w d n1 f1)(S:∀ i,i<n1->aS (f1 i))(y:Tab w)(QP:Tab2 w)(G:Pow w):Calls Tryz.prog 121 #[QE #[Z a n j],QE #[Z g n0 l,Z d n1 m]] w fun e w'=>e=QD (.tuple #[Q I (gu n0 f0 n1 f1 f n).1,Q I (gu n0 f0 n1 f1 f n).2])/\Below w.heap.size w w':=by
 have V:=ae hv;have HM:=ae B;have QK:=ae L;have O:=ae QL;have QM:=ae S;have QN:=ae y;have ex:=ae QP;have aq:=ae G;have bt:=QP.1;clear hv B L QL S y QP G;have A:=ae (((Qs w).alloc lr (T #[Z a n j] 50)).alloc (by simp) (T #[Z g n0 l,Z d n1 m] 26));have QH:((w.alloc (T #[Z a n j] 50)).alloc (T #[Z g n0 l,Z d n1 m] 26)).cell? (J w.heap.size 0 Y)=N (Z a n j):=by simp[go_sem]
 have QG:((w.alloc (T #[Z a n j] 50)).alloc (T #[Z g n0 l,Z d n1 m] 26)).cell? (J (w.heap.size+1) 0 Y)=N (Z g n0 l):=by simp[go_sem]
 have k2:((w.alloc (T #[Z a n j] 50)).alloc (T #[Z g n0 l,Z d n1 m] 26)).cell? (J (w.heap.size+1) 1 Y)=N (Z d n1 m):=by simp[go_sem]
 have hz:w.heap.size+1<((w.alloc (T #[Z a n j] 50)).alloc (T #[Z g n0 l,Z d n1 m] 26)).heap.size:=by simp
 obtain⟨o,s,y⟩:∃ o s,gu n0 f0 n1 f1 f n=(o,s):=⟨_,_,rfl⟩
 rw[y];have QO:=ae (show(if aX f n=QC then (if aU n0 f0 n1 f1=0 then fr (ec n0 f0 n1 f1 f) n else (1,0)) else (1,0))=(o,s) from y);clear y;go_enter Tryz.func121,Tryz.ntmps121;go_wp2_with fail;generalize (w.alloc (T #[Z a n j] 50)).alloc (T #[Z g n0 l,Z d n1 m] 26)=W at A QH QG k2 hz ⊢;refine(iY a n j f _ hn (V.out.below A.out lr) X HM.out (QN.out.below A.out QN.out.1)).mono ?_;rintro e w1 ⟨rfl,k⟩;have z:=ae (A.out.trans (k.mono A.out.size));have l0:=(k.cell (p:=(J w.heap.size 0 Y)) (by show w.heap.size<_;omega)).trans QH;have l1:=(k.cell (p:=(J (w.heap.size+1) 0 Y)) hz).trans QG;have l2:=(k.cell (p:=(J (w.heap.size+1) 1 Y)) hz).trans k2;have u:w.heap.size+1<w1.heap.size:=ll hz k.size;clear k A QH QG k2 hz;have HO:=ae (fun h:aX f n=QC=>(⟨dU h,h⟩:(1<=n/\n<=400/\aJ (bc f) n=-1)/\aX f n=QC));obtain⟨r,hr⟩:∃ r,r=aX f n:=⟨_,rfl⟩
 rw[<-hr] at QO ⊢;have M:=ae hr;clear hr;cases r with
 | false =>
  obtain⟨rfl,rfl⟩:(1:Int)=o/\(0:Int)=s:=by have:=QO.out;simpa using this
  go_wp2;go_ret2;exact⟨rfl,z.out⟩
 | true =>
  have K:=ae (show(if aU n0 f0 n1 f1=0 then fr (ec n0 f0 n1 f1 f) n else (1,0))=(o,s) by have:=QO.out;simpa using this);obtain⟨⟨hn1',hn4,-⟩,C⟩:=HO.out M.out.symm;have QJ:=ae C;clear QO HO C M;obtain⟨b,off,rfl,QQ⟩:=V.out.resolve_left (by omega);have HR:=ae QQ;clear V QQ;go_wp2_with fail;refine(lB g n0 l f0 d n1 m f1 _ hn0 hn1 (QK.out.below z.out lr) (O.out.below z.out lr) QM.out (QN.out.below z.out QN.out.1)).mono ?_;rintro e w2 ⟨rfl,k⟩;have B2:=ae (z.out.trans (k.mono z.out.size));have m0:=(k.cell (p:=(J w.heap.size 0 Y)) (by show w.heap.size<_;omega)).trans l0;have m1:=(k.cell (p:=(J (w.heap.size+1) 0 Y)) u).trans l1;have m2:=(k.cell (p:=(J (w.heap.size+1) 1 Y)) u).trans l2;have hz2:w.heap.size+1<w2.heap.size:=ll u k.size;clear k l0 l1 l2 u;have R:=ae (fun h:aU n0 f0 n1 f1=0=>pJ h);obtain⟨c,hc⟩:∃ c,c=aU n0 f0 n1 f1:=⟨_,rfl⟩
  rw[<-hc] at K ⊢;have P:=ae hc;clear hc;by_cases H:c=0
  ·subst H
   have HG:=ae (show fr (ec n0 f0 n1 f1 f) n=(o,s) by have:=K.out;simpa using this);obtain⟨x,t,hfew⟩:=R.out P.out.symm;have la:=ae x;have fd:=ae t;clear K R P x t;have q:=ae (B2.out.alloc B2.out.size (T #[Q I 2,.func (.func 188) #[] #[],Q I 3,.func (.func 189) #[] #[],Q I 4,.func (.func 118) #[] #[],Q I 5,.func (.func 119) #[] #[]] 168));go_wp2_with fail;refine(qW b off n j w2.heap.size g n0 l f0 d n1 m f1 f _ (by omega) hn0 hn1 QJ.out (HR.out.below q.out lr) (QK.out.below q.out lr) (O.out.below q.out lr) la.out fd.out (fun i hi=>(HM.out i hi).1) (fun i hi=>(HM.out i hi).2) QM.out (ex.out.below q.out bt) (aq.out.below q.out lr) (by simp) (by simp) (by simp) (by simp) (by simp) (by simp) (by simp) (by simp) (by simp)).mono ?_;rintro e w3 ⟨rfl,k⟩;have B3:=ae (q.out.trans (k.mono q.out.size));clear k;rw[HG.out];go_wp2;go_ret2;exact⟨rfl,B3.out⟩
  ·obtain⟨rfl,rfl⟩:(1:Int)=o/\(0:Int)=s:=by have:=K.out;simpa[H] using this
   have hc2:(c == 0)=false:=by simpa using H
   go_wp2;go_ret2;exact⟨rfl,B2.out⟩
end Go.Proofs.YtkdimgejdocbbaaGreatDoor.Vp
