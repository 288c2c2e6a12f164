import Derived.Test.YtkdimgejdocbbaaGreatDoorZY
import Derived.Deep.DeepCutAuto
set_option maxRecDepth 100000
set_option maxHeartbeats 8000000
open Go.Addr renaming mk->J
open Go.Value renaming slice->Y,string->U,int->N,bool->QA
open Option renaming none->Z,some->Q
open Go.Obj renaming cells->T
open Go.IntKind renaming i64->I
open Go renaming World->E,Value->QB
open Bool renaming false->D
open Go.Ending renaming returned->QD
namespace Go.Proofs.YtkdimgejdocbbaaGreatDoor.Vp
open RowKit
theorem eQ {t:ByteArray}{n:Int}(b:t.size<=5000){M:List I3}(hM:∀ i∈M,i.2.1.length<=5000):∀ i∈(1,t.data.toList,n) :: M,i.2.1.length<=5000:=by
 intro i hi;rcases BC.1 hi with rfl | hi
 ·show t.data.toList.length<=5000
  rw[LB];exact b
 ·exact hM i hi
structure VS (w:E)(R:Nat)(W:E)(q g c:Nat)(L:List I3)(n:Nat):Prop where
 rd:Rd W R q
 o:Only R w W
 ir:IR W w.heap.size g c L
 tx:∀ i∈L,i.2.1.length<=5000
 lo:R<w.heap.size
 le:L.length<=n
section
variable {w W W':E}{R q q' g c g' c' n:Nat}{L M:List I3}
theorem VS.only (h:VS w R W q g c L n)(b:Only R W W')(hR:Rd W' R q'):VS w R W' q' g c L n:=⟨hR,h.o.trans b,h.ir.only b h.lo,h.tx,h.lo,h.le⟩
theorem VS.below (h:VS w R W q g c L n)(b:Below W.heap.size W W'):VS w R W' q g c L n:=h.only (Only.of_below b) (h.rd.below b lr)
theorem VS.low (h:VS w R W q g c L n)(b:Below w.heap.size W W')(d:IR W' w.heap.size g' c' M)(hM:∀ i∈M,i.2.1.length<=5000):VS w R W' q g' c' M M.length:=⟨h.rd.low b h.lo,h.o.then b,d,hM,h.lo,j6 _⟩
theorem VS.join (h:VS w R W q g c L n)(d:IR W' w.heap.size g' c' (L++M))(b:W.grownBy W' (Q g))(hM:∀ i∈M,i.2.1.length<=5000):VS w R W' q g' c' (L++M) (L++M).length :=
 h.low (bg (eI w.heap.size W) b h.o.size (fun k e=>by have:=h.ir.lt;simp at e;omega)) d fun i hi=>by
  rcases kP.1 hi with hi | hi
  ·exact h.tx i hi
  ·exact hM i hi
theorem VS.fin {m QL QM:Nat}(h:VS w R W q g c L n)(i:m=L.length)(b:L≠[])(f:L.length<=QM)(d:q<=QL):DI w R QL QM (QD (Y (Q (J g 0 Z)) m c)) W :=
 ⟨L,g,c,by rw[i],h.ir,b,f,h.tx,q,d,h.rd,h.o⟩
end
section
variable {ops:Array Oper}{rest:List Oper}{o:Oper}{a:Act}{QL:Exit->Act->E->Prop}{w W W':E}{R q g c n:Nat}{L M:List I3}
theorem od (hgd:o.guard=Z)(s x:Operand)(ho:o.op=.call { callee:=.builtin .append,args:=#[s,x],argTypes:=#[29,29] })(C:VS w R W q g c L n)(z:Below W.heap.size W W')(p:Addr)(m d:Nat)(t:a.eval s=Y (Q (J g 0 Z)) L.length c)(y:a.eval x=Y (Q p) m d)(l:m=M.length)(r:M≠[])(f:∀ j u,(i3L M)[j]?=Q u->W'.cell? (p.add j)=Q u)(hM:∀ i∈M,i.2.1.length<=5000)(hlen:L.length+m<=100000)
  (h:∀ g' c' b k,Hid (VS w R k q g' c' b b.length)->b.length<=L.length+m->L.length+m<=b.length->wpList Tryz.prog ops QL rest (a.put o.dst (Y (Q (J g' 0 Z)) b.length c')) k):wpList Tryz.prog ops QL (o :: rest) a W':=by
 have n:=C.below z;refine gA hgd s x ho w.heap.size g c L t n.ir p m d M y l r f (by omega) n.o.size ?_;intro g' c' k A B;exact h g' c' (L++M) k (n.join A B hM) (by rw[cM,l];exact j6 _) (by rw[cM,l];exact j6 _)
theorem ga (hgd:o.guard=Z)(s x:Operand)(ho:o.op=.call { callee:=.builtin .append,args:=#[s,x],argTypes:=#[29,29] })(C:VS w R W q g c L n)(M:List I3)(m:Nat){d:Array QB}(p:a.eval s=Y (Q (J g 0 Z)) L.length c)(r:a.eval x=Y (Q (J W.heap.size 0 Z)) m m)(k:d.toList=i3L M)(n:m=M.length)(j:M≠[])(hM:∀ i∈M,i.2.1.length<=5000)(f:L.length+m<=100000)
  (h:∀ g' c' b l,Hid (VS w R l q g' c' b b.length)->b.length<=L.length+m->L.length+m<=b.length->wpList Tryz.prog ops QL rest (a.put o.dst (Y (Q (J g' 0 Z)) b.length c')) l):wpList Tryz.prog ops QL (o :: rest) a (W.alloc (T d 188)) :=
 od hgd s x ho C (br.alloc lr _) _ m m p r n j (k ▸ fQ W d _) hM f h
end
theorem pO (r:Int)(P nc B QJ:Nat)(hd3:r<=11)(hd0:0<=r)(hb:P<=44)(hB4:4<=B)(hC14:14<=QJ)(bt:0<r->3*P+2<=B/\3*nc+14<=QJ/\4<=P)(X:0<r->∀ (R p:Nat) (at_:Int) (w:E),Rd w R p->p+nc<=30000->0<=at_->at_+(P:Int)<=10000->Calls Tryz.prog 206 #[.pointer (Q (J R 0 Z)),N I at_,N I (r - 1)] w fun e w'=>DI w R (p+nc) P e w')
  (R p:Nat) (at_:Int) (w:E) (hR:Rd w R p) (hp:p+QJ<=30000) (ha0:0<=at_) (ha1:at_+(B:Int)<=10000) :
  Calls Tryz.prog 206 #[.pointer (Q (J R 0 Z)),N I at_,N I r] w fun e w'=>DI w R (p+QJ) B e w':=by
 have V:=ae X;have A0:=(Qs w).alloc lr (T #[] 188);have C:Hid (VS w R (w.alloc (T #[] 188)) p w.heap.size 0 [] 0):=⟨hR.below A0 lr,Only.of_below A0,IR.lit w,fun i hi=>(by cases hi),hR.lt,j6 _⟩
 clear A0 hR X;go_enter Tryz.func206,Tryz.ntmps206;go_wp2_with fail;generalize w.alloc (T #[] 188)=W0 at C ⊢;refine(aD R _ 12 _ C.rd (by omega) (by omega) (by omega)).mono ?_;rintro e j ⟨z,rfl,z0,z1,hR,b⟩;replace C:=ae (C.only b hR);clear b hR;go_upto_region 3 with fail;go_cut [19] (fun sb wx=>∃ K:Bool,sb=QA K/\(K=true->6<z)/\(K=D->6<z->0<r)/\Hid (VS w R wx (p+1) w.heap.size 0 [] 0));case first =>
  by_cases h2:r<=0
  ·by_cases h3:6<z
   ·go_wp2
    go_meet;exact⟨true,rfl,fun _=>h3,(fun h=>by cases h),C.out⟩
   ·go_wp2
    go_meet;exact⟨D,rfl,(fun h=>by cases h),fun _ h=>absurd h (by omega),C⟩
  ·go_wp2
   go_meet;exact⟨D,rfl,(fun h=>by cases h),fun _ _=>by omega,C.out⟩
 case rest =>
 clear C;obtain⟨K,rfl,W,QH,C⟩:=hcut;go_upto_if 19 with fail;go_cut [7,8] (fun so sk wx=>∃ (g c q:Nat) (L:List I3) (k:Int),so=Y (Q (J g 0 Z)) L.length c/\sk=N I k/\0<=k/\k<12/\(6<k->0<r)/\q<=p+1/\Hid (VS w R wx q g c L 0));case first =>
  cases K with
  | true =>
   have h2:=W rfl;have QP:IntKind.i64.wrap (z - 6)=z - 6:=by rw[p9];omega
   go_wp2;go_meet;exact⟨_,_,_,[],_,rfl,rfl,by omega,by omega,fun h=>by omega,j6 _,C⟩
  | false =>have aq:=ae (QH rfl);go_wp2;go_meet;exact⟨_,_,_,[],_,rfl,rfl,by omega,by omega,aq,j6 _,C⟩
 case rest =>
 clear C;obtain⟨g,c,q,L,k,rfl,rfl,hk0,hk1,ex,hq,C⟩:=hcut;have hL0:=C.le;rcases(show(k=0∨k=1)∨(k=2∨k=3∨k=4∨k=6)∨k=5∨(k=7∨k=8∨k=9∨k=10)∨k=11 by omega) with QO | QO | rfl | QO | rfl
 ·rcases QO with rfl | rfl
  all_goals
   go_wp2_with fail;refine(fZ R _ _ C.rd (by omega)).mono ?_;rintro e j ⟨t,rfl,ht,q2,QG,hR,b⟩;replace C:=ae (C.only b hR);clear b hR;go_wp2_with fail;first | (with_reducible refine(bn _ _).mono ?_) | (with_reducible refine(bK _ _ _).mono ?_) | (with_reducible refine(bB _ _).mono ?_)
   rintro e j ⟨rfl,f⟩;replace C:=ae (C.below f);clear f;go_wp2_with (at_builtin;refine ga rfl _ _ rfl C [(1,t.data.toList,0)] 1 (by simp[Act.eval]) (by simp[Act.eval]) rfl rfl (by simp) (eQ (by omega) (by decide)) (by omega) ?_);intro S c1 o QL C QK u1;go_wp2;go_ret;exact C.fin rfl (IE.1 (by omega)) (by omega) (by omega)
 ·rcases QO with rfl | rfl | rfl | rfl
  all_goals
   go_wp2_with fail;refine(fx R _ _ C.rd (by omega)).mono ?_;rintro e j ⟨t,rfl,ht,hR,b⟩;replace C:=ae (C.only b hR);clear b hR
   iterate 2
    go_wp2_with fail;first | (with_reducible refine(bn _ _).mono ?_) | (with_reducible refine(bK _ _ _).mono ?_) | (with_reducible refine(bB _ _).mono ?_)
    rintro e j ⟨rfl,f⟩;replace C:=ae (C.below f);clear f
   go_wp2_with (at_builtin;first | (refine ga rfl _ _ rfl C [(1,t.data.toList,0),(12,[],0)] 2 (by simp[Act.eval]) (by simp[Act.eval]) rfl rfl (by simp) (eQ (by omega) (by decide)) (by omega) ?_) | (refine ga rfl _ _ rfl C [(1,t.data.toList,0),(13,[],0)] 2 (by simp[Act.eval]) (by simp[Act.eval]) rfl rfl (by simp) (eQ (by omega) (by decide)) (by omega) ?_));intro S c1 o QL C QK u1;go_wp2;go_ret;exact C.fin rfl (IE.1 (by omega)) (by omega) (by omega)
 ·skip
  go_wp2_with fail;refine(fx R _ _ C.rd (by omega)).mono ?_;rintro e j ⟨t,rfl,ht,hR,b⟩;replace C:=ae (C.only b hR);clear b hR
  iterate 2
   go_wp2_with fail;first | (with_reducible refine(bn _ _).mono ?_) | (with_reducible refine(bK _ _ _).mono ?_) | (with_reducible refine(bB _ _).mono ?_)
   rintro e j ⟨rfl,f⟩;replace C:=ae (C.below f);clear f
  go_wp2_with fail;refine(aD R _ 3 _ C.rd (by omega) (by omega) (by omega)).mono ?_;rintro e j ⟨y,rfl,y0,y1,hR,b⟩;replace C:=ae (C.only b hR);clear b hR
  iterate 2
   go_wp2_with fail;first | (with_reducible refine(bn _ _).mono ?_) | (with_reducible refine(bK _ _ _).mono ?_) | (with_reducible refine(bB _ _).mono ?_)
   rintro e j ⟨rfl,f⟩;replace C:=ae (C.below f);clear f
  go_wp2_with (at_builtin;refine ga rfl _ _ rfl C [(1,t.data.toList,0),(12,[],0),(5,[],y),(12,[],0)] 4 (by simp[Act.eval]) (by simp[Act.eval]) rfl rfl (by simp) (eQ (by omega) (by intro i hi;simp only[BC,nj,or_false] at hi;rcases hi with rfl | rfl | rfl<;>exact CP _)) (by omega) ?_);intro S c1 o QL C QK u1;go_wp2;go_ret;exact C.fin rfl (IE.1 (by omega)) (by omega) (by omega)
 ·have u:=ex (by omega)
  obtain⟨W,QH,aq⟩:=bt u;rcases QO with rfl | rfl | rfl | rfl;all_goals
   go_wp2_with fail;refine(V u R _ at_ _ C.rd (by omega) (by omega) (by omega)).mono ?_;rintro e j ⟨M,QQ,A,rfl,hM,d,O,m,q1,hq1,hR,b⟩;replace C:=ae (C.only b hR);have QN:=ae hM.news;have l:=ae m;have n:=ae d;have H:=IE.2 d;clear b hR hM m d;go_wp2_with (at_builtin;refine od rfl _ _ rfl C br (J QQ 0 Z) M.length A (by simp[Act.eval]) (by simp[Act.eval]) rfl n QN l (by omega) ?_);intro S c1 o QL C QK u1;clear QN l n
  ·skip
   go_wp2_with fail;refine(V u R _ (at_+(o.length:Int)) _ C.rd (by omega) (by omega) (by omega)).mono ?_;rintro e j ⟨M,QQ,A,rfl,hM,d,O,m,q2,QG,hR,b⟩;replace C:=ae (C.only b hR);have QN:=ae hM.news;have l:=ae m;have n:=ae d;have H:=IE.2 d;clear b hR hM m d;go_wp2_with (at_builtin;refine od rfl _ _ rfl C br (J QQ 0 Z) M.length A (by simp[Act.eval]) (by simp[Act.eval]) rfl n QN l (by omega) ?_);intro g2 c2 L2 W2 C l2 u2;clear QN l n;go_wp2_with fail;refine(aD R _ 2 _ C.rd (by omega) (by omega) (by omega)).mono ?_;rintro e j ⟨y,rfl,y0,y1,hR,b⟩;replace C:=ae (C.only b hR);clear b hR;go_wp2_with fail;first | (with_reducible refine(bn _ _).mono ?_) | (with_reducible refine(bK _ _ _).mono ?_) | (with_reducible refine(bB _ _).mono ?_)
   rintro e j ⟨rfl,f⟩;replace C:=ae (C.below f);clear f;go_wp2_with (at_builtin;refine ga rfl _ _ rfl C [((2+4*y),[],0)] 1 (by simp[Act.eval]) (by simp[Act.eval]) rfl rfl (by simp) (fun i hi=>by rw[j3.1 hi];exact CP _) (by omega) ?_);intro g3 c3 G W3 C l3 u3;go_wp2;go_ret;exact C.fin rfl (IE.1 (by omega)) (by omega) (by omega)
  ·skip
   go_wp2_with fail;refine(aD R _ 3 _ C.rd (by omega) (by omega) (by omega)).mono ?_;rintro e j ⟨x,rfl,x0,x1,hR,b⟩;replace C:=ae (C.only b hR);clear b hR;go_wp2_with fail;refine(aD R _ 4 _ C.rd (by omega) (by omega) (by omega)).mono ?_;rintro e j ⟨y,rfl,y0,y1,hR,b⟩;replace C:=ae (C.only b hR);clear b hR;go_wp2_with fail;first | (with_reducible refine(bn _ _).mono ?_) | (with_reducible refine(bK _ _ _).mono ?_) | (with_reducible refine(bB _ _).mono ?_)
   rintro e j ⟨rfl,f⟩;replace C:=ae (C.below f);clear f;go_wp2_with (at_builtin;refine ga rfl _ _ rfl C [((3+x),[],y)] 1 (by simp[Act.eval]) (by simp[Act.eval]) rfl rfl (by simp) (fun i hi=>by rw[j3.1 hi];exact CP _) (by omega) ?_);intro g2 c2 L2 W2 C l2 u2;go_wp2;go_ret;exact C.fin rfl (IE.1 (by omega)) (by omega) (by omega)
  all_goals
   go_wp2_with fail;first | (with_reducible refine(bn _ _).mono ?_) | (with_reducible refine(bK _ _ _).mono ?_) | (with_reducible refine(bB _ _).mono ?_)
   rintro e j ⟨rfl,f⟩;replace C:=ae (C.below f);clear f;go_wp2_with (at_builtin;refine ga rfl _ _ rfl C [(11,[],0)] 1 (by simp[Act.eval]) (by simp[Act.eval]) rfl rfl (by simp) (fun i hi=>by rw[j3.1 hi];exact CP _) (by omega) ?_);intro g2 c2 L2 W2 C l2 u2;go_wp2_with fail;refine(V u R _ (at_+(L2.length:Int)) _ C.rd (by omega) (by omega) (by omega)).mono ?_;rintro e j ⟨M,QQ,A,rfl,hM,d,O,m,q3,hq3,hR,b⟩;replace C:=ae (C.only b hR);have QN:=ae hM.news;have l:=ae m;have n:=ae d;have H:=IE.2 d;clear b hR hM m d;go_wp2_with (at_builtin;refine od rfl _ _ rfl C br (J QQ 0 Z) M.length A (by simp[Act.eval]) (by simp[Act.eval]) rfl n QN l (by omega) ?_);intro g3 c3 G W3 C l3 u3;clear QN l n;go_wp2_with fail;first | (with_reducible refine(bn _ _).mono ?_) | (with_reducible refine(bK _ _ _).mono ?_) | (with_reducible refine(bB _ _).mono ?_)
   rintro e j ⟨rfl,f⟩;replace C:=ae (C.below f);clear f;go_wp2_with (at_builtin;refine ga rfl _ _ rfl C [(10,[],0)] 1 (by simp[Act.eval]) (by simp[Act.eval]) rfl rfl (by simp) (fun i hi=>by rw[j3.1 hi];exact CP _) (by omega) ?_);intro g4 c4 L4 W4 C l4 u4;obtain⟨⟨n0,cn⟩,fz⟩:=C.ir.cellN (i:=o.length) (by omega);have il:(o.length:Int)<(L4.length:Int):=by omega
   have gl:=C.ir.lt.2;go_wp2_with fail;refine(mJ _ _).mono ?_;rintro e j ⟨rfl,QP⟩;rw[QP];clear QP;generalize (if 200<at_+(L4.length:Int) then 200 else at_+(L4.length:Int))=sv;obtain⟨L5,hlk,s,QM⟩:=C.ir.setN (i:=o.length) (by omega) sv;replace C:=ae (C.low ((eI w.heap.size W4).setCell (p:=(J g4 (o.length*3+2) Z)) C.ir.lt.1 (N I sv)) QM (s C.tx));go_upto_region 33 with fail;generalize W4.setCell (J g4 (o.length*3+2) Z) (N I sv)=W5 at C ⊢;rw[<-hlk];have b5:=Nat.le_of_eq hlk;have d5:=Nat.le_of_eq hlk.symm;clear hlk s QM cn fz gl il;go_wp2_with fail;refine(V u R _ (at_+(L5.length:Int)) _ C.rd (by omega) (by omega) (by omega)).mono ?_;rintro e j ⟨M,QQ,A,rfl,hM,d,O,m,q6,hq6,hR,b⟩;replace C:=ae (C.only b hR);have QN:=ae hM.news;have l:=ae m;have n:=ae d;have H:=IE.2 d;clear b hR hM m d;go_wp2_with (at_builtin;refine od rfl _ _ rfl C br (J QQ 0 Z) M.length A (by simp[Act.eval]) (by simp[Act.eval]) rfl n QN l (by omega) ?_);intro g6 c6 L6 W6 C l6 u6;clear QN l n;obtain⟨⟨n0,cn⟩,fz⟩:=C.ir.cellN (i:=G.length) (by omega);have il:(G.length:Int)<(L6.length:Int):=by omega
   have gl:=C.ir.lt.2;go_wp2_with fail;refine(mJ _ _).mono ?_;rintro e j ⟨rfl,QP⟩;rw[QP];clear QP;generalize (if 200<at_+(L6.length:Int) then 200 else at_+(L6.length:Int))=sv;obtain⟨L7,hlk,s,QM⟩:=C.ir.setN (i:=G.length) (by omega) sv;replace C:=ae (C.low ((eI w.heap.size W6).setCell (p:=(J g6 (G.length*3+2) Z)) C.ir.lt.1 (N I sv)) QM (s C.tx));go_upto_region 35 with fail;generalize W6.setCell (J g6 (G.length*3+2) Z) (N I sv)=W7 at C ⊢;rw[<-hlk];have b7:=Nat.le_of_eq hlk;have d7:=Nat.le_of_eq hlk.symm;clear hlk s QM cn fz gl il;go_wp2;go_ret;exact C.fin rfl (IE.1 (by omega)) (by omega) (by omega)
 ·skip
  go_wp2_with fail;refine(fZ R _ _ C.rd (by omega)).mono ?_;rintro e j ⟨t,rfl,ht,q2,QG,hR,b⟩;replace C:=ae (C.only b hR);clear b hR
  iterate 4
   go_wp2_with fail;first | (with_reducible refine(bn _ _).mono ?_) | (with_reducible refine(bK _ _ _).mono ?_) | (with_reducible refine(bB _ _).mono ?_)
   rintro e j ⟨rfl,f⟩;replace C:=ae (C.below f);clear f
  go_wp2_with (at_builtin;refine ga rfl _ _ rfl C [(1,t.data.toList,0),(7,[],0),(8,[],0),(9,[],0)] 4 (by simp[Act.eval]) (by simp[Act.eval]) rfl rfl (by simp) (eQ (by omega) (by decide)) (by omega) ?_);intro S c1 o QL C QK u1;go_wp2;go_ret;exact C.fin rfl (IE.1 (by omega)) (by omega) (by omega)
theorem xY (R p:Nat)(at_:Int)(w:E)(hR:Rd w R p)(b:p+14<=30000)(f:0<=at_)(h1:at_+4<=10000):Calls Tryz.prog 206 #[.pointer (Q (J R 0 Z)),N I at_,N I 0] w fun e d=>DI w R (p+14) 4 e d :=
 pO 0 4 14 4 14 (by omega) (by omega) (by omega) (by omega) (by omega) (fun h=>absurd h (by omega)) (fun h=>absurd h (by omega)) R p at_ w hR b f h1
theorem lO (d b f:Nat)(hd3:(d:Int)<=10)(hb:b<=44)(j:4<=b)(k:∀ (R p:Nat) (at_:Int) (w:E),Rd w R p->p+f<=30000->0<=at_->at_+(b:Int)<=10000->Calls Tryz.prog 206 #[.pointer (Q (J R 0 Z)),N I at_,N I d] w fun e g=>DI w R (p+f) b e g)
  (R p:Nat) (at_:Int) (w:E) (hR:Rd w R p) (l:p+(3*f+14)<=30000) (h:0<=at_) (i:at_+((3*b+2:Nat):Int)<=10000) :
  Calls Tryz.prog 206 #[.pointer (Q (J R 0 Z)),N I at_,N I ((d:Int)+1)] w fun e g=>DI w R (p+(3*f+14)) (3*b+2) e g :=
 pO ((d:Int)+1) b f (3*b+2) (3*f+14) (by omega) (by omega) hb (by omega) (by omega) (fun _=>⟨j6 _,j6 _,j⟩) (fun _=>by rw[Int.add_sub_cancel];exact k) R p at_ w hR l h i
def VD (b f:Nat)(d:Int):Prop:=∀ (R p:Nat) (at_:Int) (w:E),Rd w R p->p+b<=30000->0<=at_->at_+(f:Int)<=10000->Calls Tryz.prog 206 #[.pointer (Q (J R 0 Z)),N I at_,N I d] w fun e g=>DI w R (p+b) f e g
theorem vd0:VD 14 4 ((0:Nat):Int):=fun R p at_ w hR d b h1=>xY R p at_ w hR d b (by omega)
theorem vd1:VD 56 14 ((1:Nat):Int):=fun R p at_ w hR hp b h1=>lO 0 4 14 (by omega) (by omega) (by omega) vd0 R p at_ w hR (by omega) b (by omega)
theorem vd2:VD 182 44 ((2:Nat):Int):=fun R p at_ w hR hp b h1=>lO 1 14 56 (by omega) (by omega) (by omega) vd1 R p at_ w hR (by omega) b (by omega)
theorem vd3:VD 560 134 ((3:Nat):Int):=fun R p at_ w hR hp b h1=>lO 2 44 182 (by omega) (by omega) (by omega) vd2 R p at_ w hR (by omega) b (by omega)
theorem DI.mono {w b:E}{R q q' n d:Nat}{e:Ending}(h:DI w R q n e b)(l:q<=q')(i:n<=d):DI w R q' d e b:=by obtain⟨L,g,c,h1,h2,f,m,o,p,j,k⟩:=h;exact⟨L,g,c,h1,h2,f,j5 m i,o,p,j5 j l,k⟩
theorem tQ (R p:Nat)(z:Int)(hz:z=0∨z=1)(w:E)(hR:Rd w R p)(hp:p<=29000):Calls Tryz.prog 206 #[.pointer (Q (J R 0 Z)),N I 0,N I (2+z)] w fun e b=>DI w R (p+560) 134 e b:=by
 rcases hz with rfl | rfl
 ·exact(vd2 R p 0 w hR (by omega) (by omega) (by omega)).mono fun e b h=>h.mono (by omega) (by omega)
 ·exact vd3 R p 0 w hR (by omega) (by omega) (by omega)
def ST (w:E)(R rb:Nat)(W:E)(q:Nat):Prop:=Rd W R q/\Only R w W/\PB W rb (Y Z 0 0)/\R<w.heap.size/\w.heap.size<=rb
def SC (w:E)(R rb:Nat)(W:E)(q g c:Nat)(L:List I3)(n:Nat):Prop:=ST w R rb W q/\IR W (rb+1) g c L/\L.length<=n/\∀ i∈L,i.2.1.length<=5000
theorem ST.rd {w W:E}{R rb q:Nat}(h:ST w R rb W q):Rd W R q:=h.1
theorem ST.lt {w W:E}{R rb q:Nat}(h:ST w R rb W q):rb<W.heap.size:=h.2.2.1.lt
theorem ST.low {w W W':E}{R rb q:Nat}(h:ST w R rb W q)(hb:Below (rb+1) W W'):ST w R rb W' q:=by obtain⟨h1,h2,b,d,f⟩:=h;exact⟨h1.low hb (by omega),h2.then (hb.mono (by omega)),b.below hb (by omega),d,f⟩
theorem ST.below {w W W':E}{R rb q:Nat}(h:ST w R rb W q)(hb:Below W.heap.size W W'):ST w R rb W' q:=h.low (hb.mono h.lt)
theorem PB.only {w d:E}{b R:Nat}{v:QB}(h:PB w b v)(ho:Only R w d)(hR:b≠R):PB d b v:=(ho.block b h.lt hR).trans h
theorem ST.only {w W W':E}{R rb q q':Nat}(h:ST w R rb W q)(ho:Only R W W')(hR:Rd W' R q'):ST w R rb W' q':=by obtain⟨h1,h2,b,d,f⟩:=h;exact⟨hR,h2.trans ho,b.only ho (by omega),d,f⟩
theorem ST.new {w:E}{R q:Nat}(h:Rd w R q):ST w R w.heap.size (w.alloc (T #[Y Z 0 0] 31)) q:=by have b:=(Qs w).alloc lr (T #[Y Z 0 0] 31);exact⟨h.below b lr,Only.of_below b,eL w _,h.lt,j6 _⟩
theorem SC.st {w W:E}{R rb q g c n:Nat}{L:List I3}(h:SC w R rb W q g c L n):ST w R rb W q:=h.1
theorem SC.ir {w W:E}{R rb q g c n:Nat}{L:List I3}(h:SC w R rb W q g c L n):IR W (rb+1) g c L:=h.2.1
theorem SC.len {w W:E}{R rb q g c n:Nat}{L:List I3}(h:SC w R rb W q g c L n):L.length<=n:=h.2.2.1
theorem SC.up {w W:E}{R rb q g c n m:Nat}{L:List I3}(h:SC w R rb W q g c L n)(b:n<=m):SC w R rb W q g c L m:=⟨h.1,h.2.1,j5 h.2.2.1 b,h.2.2.2⟩
theorem SC.below {w W W':E}{R rb q g c n:Nat}{L:List I3}(h:SC w R rb W q g c L n)(hb:Below W.heap.size W W'):SC w R rb W' q g c L n :=
 ⟨h.1.below hb,h.2.1.below hb lr,h.2.2⟩
theorem SC.only {w W W':E}{R rb q q' g c n:Nat}{L:List I3}(h:SC w R rb W q g c L n)(ho:Only R W W')(hR:Rd W' R q'):SC w R rb W' q' g c L n :=
 ⟨h.1.only ho hR,h.2.1.only ho (by have:=h.1.2.2.2;omega),h.2.2⟩
theorem SC.di {w W W':E}{R rb q q' g c n:Nat}{L:List I3}(h:ST w R rb W q)(d:IR W' W.heap.size g c L)(f:L.length<=n)(b:∀ i∈L,i.2.1.length<=5000)(ho:Only R W W')(hR:Rd W' R q'):SC w R rb W' q' g c L n :=
 ⟨h.only ho hR,aI d h.lt,f,b⟩
theorem SC.app {w W W':E}{R rb q g c g' c' n n':Nat}{L M:List I3}(b:Array QB)(h:SC w R rb W q g c L n)(l:IR W' (rb+1) g' c' (L++M))(m:(W.alloc (T b 188)).grownBy W' (Q g))(hn:n+M.length<=n')(f:∀ i∈M,i.2.1.length<=5000):SC w R rb W' q g' c' (L++M) n':=by
 have d:=h.1.lt;have j:=bg ((eI (rb+1) W).alloc d (T b 188)) m (by simp;omega) (fun k e=>by have:=h.2.1.lt;simp at e;omega);refine⟨h.1.low j,l,by rw[cM];have:=h.len;omega,fun i hi=>?_⟩;rcases kP.1 hi with hi | hi
 ·exact h.2.2.2 i hi
 ·exact f i hi
theorem IR.new (W:E)(b:Nat)(hb:b<=W.heap.size)(L:List I3)(d:Array QB)(f:d.toList=i3L L)(n:Nat)(g:n=L.length)(hm:n<=100000):IR (W.alloc (T d 188)) b W.heap.size n L:=by
 subst g;have hz:d.size=L.length*3:=by rw[<-iM,<-f,LB]
 refine⟨iM L,.inr ⟨W.heap.size,L.length,d,rfl,hb,eL W _,j6 _,by unfold maxLen;omega,hz,?_⟩⟩;rw[f,IY (by rw[iM];omega)]
theorem SC.lit {w W:E}{R rb q:Nat}(h:ST w R rb W q)(L:List I3)(b:Array QB)(j:b.toList=i3L L)(n:Nat)(g:n=L.length)(d:n<=100000)(f:∀ i∈L,i.2.1.length<=5000):SC w R rb (W.alloc (T b 188)) q W.heap.size n L n :=
 ⟨h.below (br.alloc lr _),IR.new W (rb+1) h.lt L b j n g d,by omega,f⟩
theorem SC.fin {w W:E}{R rb q g c n:Nat}{L:List I3}(h:SC w R rb W q g c L n)(v:QB):PB (W.setCell (J rb 0 Z) v) rb v/\IR (W.setCell (J rb 0 Z) v) w.heap.size g c L/\L.length<=n/\(∀ i∈L,i.2.1.length<=5000)/\Rd (W.setCell (J rb 0 Z) v) R q/\Only R w (W.setCell (J rb 0 Z) v):=by obtain⟨⟨h1,h2,b,k,l⟩,d,j,f⟩:=h;have B:=(eI w.heap.size W).setCell (p:=(J rb 0 Z)) l v;exact⟨b.set v,aI (zO d (by omega) v) (by omega),j,f,h1.low B k,h2.then B⟩
def DP (w:E)(R q lo n:Nat)(e:Ending)(w':E):Prop:=∃ (L:List I3) (g c:Nat),e=QD (.agg #[Y (Q (J g 0 Z)) L.length c])/\IR w' w.heap.size g c L/\lo<=L.length/\L.length<=n/\(∀ i∈L,i.2.1.length<=5000)/\∃ q':Nat,q'<=q/\Rd w' R q'/\Only R w w'
theorem hZ {fn:Func}{p:Tmp}(h:fn.results=#[.cell p 31])(tmps:Array QB)(w:E)(g:Nat)(v:QB)(d:tmps.getD p undef=.pointer (Q (J g 0 Z)))(b:PB w g v):(results fn tmps).run Tryz.prog w=.ok (.agg #[v]) w :=
 results_cell_row h tmps w g 31 #[v] (0,0) _ d b Tryz.underlying31 rfl tP
def ez (L:List I3)(i:Nat):Ins:=⟨(L.getD i (0,[],0)).1,⟨(L.getD i (0,[],0)).2.1.toArray⟩,(L.getD i (0,[],0)).2.2⟩
theorem xZ:∀ (L:List I3) (i:Nat),i<L.length->(i3L L)[i*3]?=Q (N I (ez L i).op)/\(i3L L)[i*3+1]?=Q (U (ez L i).s)/\(i3L L)[i*3+2]?=Q (N I (ez L i).n)
 | [],i,h=>by simp at h
 | x :: L,0,_=>⟨rfl,rfl,rfl⟩
 | x :: L,i+1,h=>by
  have f:=xZ L i (by simpa using h);have b:(i3V x).length=3:=rfl;have e:∀ k,(i3L (x :: L))[(i+1)*3+k]?=(i3L L)[i*3+k]?:=fun k=>by show(i3V x++i3L L)[(i+1)*3+k]?=_;rw[AT (by rw[b];omega),b,show(i+1)*3+k - 3=i*3+k by omega]
  have d:=e 0;rw[NB,NB] at d;rw[d,e 1,e 2];exact f
theorem IR.at {w:E}{b g c:Nat}{L:List I3}(h:IR w b g c L):∀ i,i<L.length->AtIns w g 0 i (ez L i):=by intro i hi;obtain⟨d,h1,h2⟩:=xZ L i hi;have c0:=h.news _ _ d;have c1:=h.news _ _ h1;have c2:=h.news _ _ h2;rw[gZ] at c0 c1 c2;exact⟨c0,c1,c2⟩
theorem Cy {L:List I3}(b:∀ i∈L,i.2.1.length<=5000):∀ i,i<L.length->(ez L i).s.size<=maxLen:=by
 intro i hi;have h:=b L[i] (gz hi);have e:L.getD i (0,[],0)=L[i]:=by simp[hi]
 show(L.getD i (0,[],0)).2.1.toArray.size<=maxLen;rw[e,JK];unfold maxLen;omega
theorem tR (n:Nat)(w:E)(hn:(n:Int)<=300):Calls Tryz.prog 207 #[N I n] w fun e k=>∃ (L:List I3) (g:Nat),e=QD (Y (Q (J g 0 Z)) 7 7)/\IR k w.heap.size g 7 L/\L.length=7/\(∀ i∈L,i.2.1.length<=5000)/\Below w.heap.size w k:=by
 go_enter Tryz.func207,Tryz.ntmps207;go_wp2_with fail;refine(fw ⟨#[97,32]⟩ n _ (by show 2*n<=4000;omega) (by omega)).mono ?_;rintro e Wx ⟨t,rfl,f,m⟩;rw[m];have s:t.size<=5000:=j5 f (by show 2*n<=5000;omega);clear f m;go_wp2_with fail;refine(bB t _).mono ?_;rintro e W1 ⟨rfl,b⟩;have j:=ae (b);clear b;go_wp2_with fail;refine(bn 7 _).mono ?_;rintro e W2 ⟨rfl,b⟩;have q:=ae (j.trans (b.mono j.size));clear b;go_wp2_with fail;refine(bK 5 0 _).mono ?_;rintro e W3 ⟨rfl,b⟩;have h:=ae (q.trans (b.mono q.size));clear b;go_wp2_with fail;refine(bn 13 _).mono ?_;rintro e W4 ⟨rfl,b⟩;have o:=ae (h.trans (b.mono h.size));clear b;go_wp2_with fail;refine(bn 9 _).mono ?_;rintro e W5 ⟨rfl,b⟩;have p:=ae (o.trans (b.mono o.size));clear b;go_wp2_with fail;refine(bK 4 2 _).mono ?_;rintro e W6 ⟨rfl,b⟩;have l:=ae (p.trans (b.mono p.size));clear b;go_wp2_with fail;refine(bK 10 1 _).mono ?_;rintro e r ⟨rfl,b⟩;have d:=ae (l.trans (b.mono l.size));clear b;go_wp2;go_ret;refine⟨[(1,t.data.toList,0),(7,[],0),(5,[],0),(13,[],0),(9,[],0),(4,[],2),(10,[],1)],_,rfl,IR.new r _ d.size _ _ rfl _ rfl (by omega),rfl,?_,d.alloc d.size _⟩;intro i hi;simp only[BC,nj,or_false] at hi;rcases hi with rfl | rfl | rfl | rfl | rfl | rfl | rfl
 ·show t.data.toList.length<=5000
  rw[LB];exact s
 all_goals exact CP _
theorem iw (R p:Nat)(w:E)(hR:Rd w R p)(hp:p<=20000):Calls Tryz.prog 144 #[.pointer (Q (J R 0 Z))] w fun e w'=>DP w R (p+600) 1 140 e w':=by
 have QQ:=ae (ST.new hR);clear hR;go_enter Tryz.func144,Tryz.ntmps144;go_wp2_with fail;generalize w.alloc (T #[Y Z 0 0] 31)=W0 at QQ ⊢;refine(aD R _ 2 _ QQ.rd (by omega) (by omega) (by omega)).mono ?_;rintro e W1 ⟨d,rfl,W,S,hR,h⟩;have K:=ae (QQ.only h hR);clear h hR QQ;go_wp2_with fail;refine(tQ R _ d (by omega) _ K.rd (by omega)).mono ?_;rintro e W2 ⟨L,g,c,rfl,k,QJ,hn,B,q2,hq2,hR,h⟩;have C:Hid (SC w R w.heap.size W2 q2 g c L 134):=SC.di K k hn B h hR;clear h hR k B QJ hn K;go_wp2_with fail;refine(aD R _ 24 _ C.st.rd (by omega) (by omega) (by omega)).mono ?_;rintro e f ⟨z,rfl,z0,z1,hR,h⟩;replace C:=ae (C.only h hR);clear h hR;go_upto_if 13 with fail;go_cut [3] (fun l j=>∃ (L:List I3) (g c q:Nat),l=Y (Q (J g 0 Z)) L.length c/\q<=q2+2/\Hid (SC w R w.heap.size j q g c L 135));case first =>
  rcases(show z=0∨z=1∨z=2∨3<=z by omega) with rfl | rfl | rfl | h3
  ·iterate 1
    go_wp2_with fail;first | (with_reducible refine(bn _ _).mono ?_) | (with_reducible refine(bK _ _ _).mono ?_) | (with_reducible refine(bB _ _).mono ?_)
    rintro e f ⟨rfl,b⟩;replace C:=ae (C.below b);clear b
   have X:=ae (C.below ((Qs f).alloc lr (T #[N I 14,U ⟨#[]⟩,N I 0] 188)));have ln:=C.len;go_wp2_with (at_builtin;refine gA rfl (.tmp 14) (.tmp 16) rfl (w.heap.size+1) g c L (by simp[Act.eval]) X.ir (J f.heap.size 0 Z) 1 1 [(14,[],0)] (by simp[Act.eval]) rfl (by simp) (fQ f #[N I 14,U ⟨#[]⟩,N I 0] _) (by simp only[o3,ES];omega) (by have:=C.st.lt;simp;omega) ?_;intro A c1 M k r);go_meet;exact⟨_,A,c1,_,by simp,by omega,(C.app (n':=135) _ k r (by show 134+1<=135;omega) (fun i hi=>by rw[j3.1 hi];exact CP _))⟩
  ·iterate 1
    go_wp2_with fail;first | (with_reducible refine(bn _ _).mono ?_) | (with_reducible refine(bK _ _ _).mono ?_) | (with_reducible refine(bB _ _).mono ?_)
    rintro e f ⟨rfl,b⟩;replace C:=ae (C.below b);clear b
   have X:=ae (C.below ((Qs f).alloc lr (T #[N I 10,U ⟨#[]⟩,N I 0] 188)));have ln:=C.len;go_wp2_with (at_builtin;refine gA rfl (.tmp 20) (.tmp 22) rfl (w.heap.size+1) g c L (by simp[Act.eval]) X.ir (J f.heap.size 0 Z) 1 1 [(10,[],0)] (by simp[Act.eval]) rfl (by simp) (fQ f #[N I 10,U ⟨#[]⟩,N I 0] _) (by simp only[o3,ES];omega) (by have:=C.st.lt;simp;omega) ?_;intro A c1 M k r);go_meet;exact⟨_,A,c1,_,by simp,by omega,(C.app (n':=135) _ k r (by show 134+1<=135;omega) (fun i hi=>by rw[j3.1 hi];exact CP _))⟩
  ·go_wp2_with fail
   refine(aD R _ 15 _ C.st.rd (by omega) (by omega) (by omega)).mono ?_;rintro e f ⟨y,rfl,QL,P,hR,h⟩;replace C:=ae (C.only h hR);clear h hR
   iterate 1
    go_wp2_with fail;first | (with_reducible refine(bn _ _).mono ?_) | (with_reducible refine(bK _ _ _).mono ?_) | (with_reducible refine(bB _ _).mono ?_)
    rintro e f ⟨rfl,b⟩;replace C:=ae (C.below b);clear b
   have X:=ae (C.below ((Qs f).alloc lr (T #[N I (1+y),U ⟨#[]⟩,N I 0] 188)));have ln:=C.len;go_wp2_with (at_builtin;refine gA rfl (.tmp 26) (.tmp 31) rfl (w.heap.size+1) g c L (by simp[Act.eval]) X.ir (J f.heap.size 0 Z) 1 1 [((1+y),[],0)] (by simp[Act.eval]) rfl (by simp) (fQ f #[N I (1+y),U ⟨#[]⟩,N I 0] _) (by simp only[o3,ES];omega) (by have:=C.st.lt;simp;omega) ?_;intro A c1 M k r);go_meet;exact⟨_,A,c1,_,by simp,by omega,(C.app (n':=135) _ k r (by show 134+1<=135;omega) (fun i hi=>by rw[j3.1 hi];exact CP _))⟩
  ·have n0:(z == 0)=D:=by simp;omega
   have n1:(z == 1)=D:=by simp;omega
   have n2:(z == 2)=D:=by simp;omega
   go_wp2;go_meet;exact⟨L,g,c,_,rfl,by omega,C.up (by omega)⟩
 case rest =>
 clear C;obtain⟨O,g0,c0,q3,rfl,hq3,C⟩:=hcut
 iterate 1
  go_wp2_with fail;first | (with_reducible refine(bn _ _).mono ?_) | (with_reducible refine(bK _ _ _).mono ?_) | (with_reducible refine(bB _ _).mono ?_)
  rintro e f ⟨rfl,b⟩;replace C:=ae (C.below b);clear b
 have X:=ae (C.below ((Qs f).alloc lr (T #[N I 15,U ⟨#[]⟩,N I 0] 188)));have ln:=C.len;go_upto_if 38 with (at_builtin;refine gA rfl (.tmp 33) (.tmp 35) rfl (w.heap.size+1) g0 c0 O (by simp[Act.eval]) X.ir (J f.heap.size 0 Z) 1 1 [(15,[],0)] (by simp[Act.eval]) rfl (by simp) (fQ f #[N I 15,U ⟨#[]⟩,N I 0] _) (by simp only[o3,ES];omega) (by have:=C.st.lt;simp;omega) ?_;intro g c M k r);replace C:=ae (C.app (n':=136) _ k r (by show 135+1<=136;omega) (fun i hi=>by rw[j3.1 hi];exact CP _));clear k r X ln;generalize hL:O++[(15,[],0)]=L at C;have hn1:O.length+1=L.length:=by rw[<-hL,cM];rfl
 rw[hn1];clear hL hn1;go_cut [3] (fun l j=>∃ (L:List I3) (g c q:Nat),l=Y (Q (J g 0 Z)) L.length c/\q<=q3/\Hid (SC w R w.heap.size j q g c L 140));case first =>
  by_cases hz:z=3
  ·subst hz
   iterate 4
    go_wp2_with fail;first | (with_reducible refine(bn _ _).mono ?_) | (with_reducible refine(bK _ _ _).mono ?_) | (with_reducible refine(bB _ _).mono ?_)
    rintro e f ⟨rfl,b⟩;replace C:=ae (C.below b);clear b
   have u:=ae (SC.lit C.st [(1,[97,98,99,100,101,102,103,104],0),(7,[],0),(2,[],0),(10,[],1)] #[N I 1,U ⟨#[97,98,99,100,101,102,103,104]⟩,N I 0,N I 7,U ⟨#[]⟩,N I 0,N I 2,U ⟨#[]⟩,N I 0,N I 10,U ⟨#[]⟩,N I 1] rfl 4 rfl (by omega) (by decide));go_wp2;go_meet;exact⟨_,_,_,_,rfl,by omega,u.up (by omega)⟩
  ·go_wp2
   go_meet;exact⟨L,g,c,_,rfl,by omega,C.up (by omega)⟩
 case rest =>
 clear C;obtain⟨L,g,c,q4,rfl,hq4,C⟩:=hcut;go_upto_if 45 with fail;go_cut [3] (fun l j=>∃ (L:List I3) (g c q:Nat),l=Y (Q (J g 0 Z)) L.length c/\q<=q4+1/\Hid (SC w R w.heap.size j q g c L 140));case first =>
  by_cases hz:z=4
  ·subst hz
   go_wp2_with fail;refine(fx R _ _ C.st.rd (by omega)).mono ?_;rintro e f ⟨t,rfl,H,hR,h⟩;replace C:=ae (C.only h hR);clear h hR
   iterate 4
    go_wp2_with fail;first | (with_reducible refine(bn _ _).mono ?_) | (with_reducible refine(bK _ _ _).mono ?_) | (with_reducible refine(bB _ _).mono ?_)
    rintro e f ⟨rfl,b⟩;replace C:=ae (C.below b);clear b
   have u:=ae (SC.lit C.st [(1,t.data.toList,0),(13,[],0),(9,[],0),(10,[],0)] #[N I 1,U t,N I 0,N I 13,U ⟨#[]⟩,N I 0,N I 9,U ⟨#[]⟩,N I 0,N I 10,U ⟨#[]⟩,N I 0] rfl 4 rfl (by omega) (eQ (by omega) (by decide)));go_wp2;go_meet;exact⟨_,_,_,_,rfl,by omega,u.up (by omega)⟩
  ·go_wp2
   go_meet;exact⟨L,g,c,_,rfl,by omega,C.up (by omega)⟩
 case rest =>
 clear C;obtain⟨L,g,c,q5,rfl,hq5,C⟩:=hcut;go_upto_region 14 with fail;go_cut [59] (fun sb j=>∃ (s:Bool) (q:Nat),sb=QA s/\q<=q5+1/\Hid (SC w R w.heap.size j q g c L 140));case first =>
  by_cases hz:z=7
  ·subst hz
   go_wp2_with fail;refine(aD R _ 3 _ C.st.rd (by omega) (by omega) (by omega)).mono ?_;rintro e f ⟨x,rfl,x0,x1,hR,h⟩;replace C:=ae (C.only h hR);clear h hR;go_wp2;go_meet;exact⟨_,_,rfl,by omega,C⟩
  ·go_wp2
   go_meet;exact⟨_,_,rfl,by omega,C⟩
 case rest =>
 clear C;obtain⟨s,aq,rfl,hq5b,C⟩:=hcut;go_upto_if 59 with fail;go_cut [3] (fun l j=>∃ (L:List I3) (g c q:Nat),l=Y (Q (J g 0 Z)) L.length c/\q<=aq+1/\Hid (SC w R w.heap.size j q g c L 140));case first =>
  cases s with
  | false =>go_wp2;go_meet;exact⟨L,g,c,_,rfl,by omega,C⟩
  | true =>
   go_wp2_with fail;refine(aD R _ 2 _ C.st.rd (by omega) (by omega) (by omega)).mono ?_;rintro e f ⟨y,rfl,QL,P,hR,h⟩;replace C:=ae (C.only h hR);clear h hR;go_wp2_with fail;obtain⟨m0,o⟩:∃ m0:Nat,499+y=(m0:Int):=⟨(499+y).toNat,by omega⟩
   rw[o];refine(fw ⟨#[120]⟩ m0 _ (by show 1*m0<=4000;omega) (by omega)).mono ?_;rintro e Wm ⟨t,rfl,H,V⟩;rw[V];have QK:t.size<=5000:=j5 H (by show 1*m0<=5000;omega);clear H o V
   iterate 6
    go_wp2_with fail;first | (with_reducible refine(bn _ _).mono ?_) | (with_reducible refine(bK _ _ _).mono ?_) | (with_reducible refine(bB _ _).mono ?_)
    rintro e f ⟨rfl,b⟩;replace C:=ae (C.below b);clear b
   have u:=ae (SC.lit C.st [(1,t.data.toList,0),(7,[],0),(11,[],5),(4,[],1),(10,[],1),(9,[],0)] #[N I 1,U t,N I 0,N I 7,U ⟨#[]⟩,N I 0,N I 11,U ⟨#[]⟩,N I 5,N I 4,U ⟨#[]⟩,N I 1,N I 10,U ⟨#[]⟩,N I 1,N I 9,U ⟨#[]⟩,N I 0] rfl 6 rfl (by omega) (eQ QK (by decide)));go_wp2;go_meet;exact⟨_,_,_,_,rfl,by omega,u.up (by omega)⟩
 case rest =>
 clear C;obtain⟨L,g,c,q6,rfl,hq6,C⟩:=hcut;go_upto_region 16 with fail;go_cut [77] (fun sb j=>∃ (s:Bool) (q:Nat),sb=QA s/\q<=q6+1/\Hid (SC w R w.heap.size j q g c L 140));case first =>
  by_cases hz:z=6
  ·subst hz
   go_wp2_with fail;refine(aD R _ 3 _ C.st.rd (by omega) (by omega) (by omega)).mono ?_;rintro e f ⟨x,rfl,x0,x1,hR,h⟩;replace C:=ae (C.only h hR);clear h hR;go_wp2;go_meet;exact⟨_,_,rfl,by omega,C⟩
  ·go_wp2
   go_meet;exact⟨_,_,rfl,by omega,C⟩
 case rest =>
 clear C;obtain⟨s,bt,rfl,hq6b,C⟩:=hcut;go_upto_if 77 with fail;go_cut [3] (fun l j=>∃ (L:List I3) (g c q:Nat),l=Y (Q (J g 0 Z)) L.length c/\q<=bt+1/\Hid (SC w R w.heap.size j q g c L 140));case first =>
  cases s with
  | false =>go_wp2;go_meet;exact⟨L,g,c,_,rfl,by omega,C⟩
  | true =>
   go_wp2_with fail;refine(aD R _ 3 _ C.st.rd (by omega) (by omega) (by omega)).mono ?_;rintro e f ⟨y,rfl,QL,P,hR,h⟩;replace C:=ae (C.only h hR);clear h hR;go_wp2_with fail;obtain⟨m0,o⟩:∃ m0:Nat,200+y - 1=(m0:Int):=⟨(200+y - 1).toNat,by omega⟩
   rw[o];refine(tR m0 _ (by omega)).mono ?_;rintro e W8 ⟨LW,gW,rfl,k,lq,B,b⟩;have C8:=ae (SC.di C.st k (n:=140) (by omega) B (Only.of_below b) (C.st.rd.below b lr));clear k B b o;go_wp2;go_meet;exact⟨LW,gW,7,_,by rw[lq],by omega,C8⟩
 case rest =>
 clear C;obtain⟨L,g,c,q7,rfl,hq7,C⟩:=hcut;go_upto_if 84 with fail;go_cut [3] (fun l j=>∃ (L:List I3) (g c q:Nat),l=Y (Q (J g 0 Z)) L.length c/\q<=q7/\Hid (SC w R w.heap.size j q g c L 140));case first =>
  by_cases hz:z=5
  ·subst hz
   iterate 2
    go_wp2_with fail;first | (with_reducible refine(bn _ _).mono ?_) | (with_reducible refine(bK _ _ _).mono ?_) | (with_reducible refine(bB _ _).mono ?_)
    rintro e f ⟨rfl,b⟩;replace C:=ae (C.below b);clear b
   have u:=ae (SC.lit C.st [(1,[115],0),(10,[],0)] #[N I 1,U ⟨#[115]⟩,N I 0,N I 10,U ⟨#[]⟩,N I 0] rfl 2 rfl (by omega) (by decide));go_wp2;go_meet;exact⟨_,_,_,_,rfl,by omega,u.up (by omega)⟩
  ·go_wp2
   go_meet;exact⟨L,g,c,_,rfl,by omega,C.up (by omega)⟩
 case rest =>
 clear C;obtain⟨L,g,c,QG,rfl,hq8,C⟩:=hcut;have ln:=C.len;have ge:=C.ir.lt;go_wp2_with fail;refine(fJ g 0 L.length c (ez L) _ (by omega) ge.2 (fun i hi=>C.ir.at i (by omega)) (fun i hi=>Cy C.2.2.2 i (by omega))).mono ?_;rintro e Wv ⟨rfl,b⟩;have QO:=ae (C.below b);clear b;cases hv:valid (ez L) L.length with
 | true =>
  have vp:=(bY hv).2.1;clear hv;have m:=QO.st.2.2.1;have zl:=m.lt;have W:=m.c0;have S:=m.fz 0;have fin:=ae (QO.fin (Y (Q (J g 0 Z)) L.length c));clear m;go_wp2;obtain⟨f1,QP,f3,G,QM,QN⟩:=fin.out;try simp only[Exit.inBlock,Exit.then]
  refine bp (hZ rfl _ _ w.heap.size _ rfl f1) rfl ?_;exact⟨L,g,c,rfl,QP,by omega,by omega,G,QG,by omega,QM,QN⟩
 | false =>
  clear hv;replace C:=QO
  iterate 2
   go_wp2_with fail;first | (with_reducible refine(bn _ _).mono ?_) | (with_reducible refine(bK _ _ _).mono ?_) | (with_reducible refine(bB _ _).mono ?_)
   rintro e f ⟨rfl,b⟩;replace C:=ae (C.below b);clear b
  have QH:=ae (SC.lit C.st [(1,[120],0),(15,[],0)] #[N I 1,U ⟨#[120]⟩,N I 0,N I 15,U ⟨#[]⟩,N I 0] rfl 2 rfl (by omega) (by decide));have m:=QH.st.2.2.1;have zl:=m.lt;have W:=m.c0;have S:=m.fz 0;have fin:=ae (QH.fin (Y (Q (J f.heap.size 0 Z)) 2 2));clear m;go_wp2;obtain⟨f1,QP,f3,G,QM,QN⟩:=fin.out;try simp only[Exit.inBlock,Exit.then]
  refine bp (hZ rfl _ _ w.heap.size _ rfl f1) rfl ?_;exact⟨[(1,[120],0),(15,[],0)],f.heap.size,2,rfl,QP,by simp,by simp,G,QG,by omega,QM,QN⟩
theorem rR:∀ (L:List I3) (i:Nat) (y:I3) (j:Nat) (v:QB),j<3->i<L.length->i3V y=(i3V (L.getD i (0,[],0))).set j v->i3L (L.set i y)=(i3L L).set (i*3+j) v
 | [],i,y,j,v,_,h,_=>by simp at h
 | x :: L,0,y,j,v,hj,_,e=>by show i3V y++i3L L=(i3V x++i3L L).set (0*3+j) v;rw[List.set_append_left _ _ (by show 0*3+j<3;omega),LV,C9];rw[show i3V y=(i3V x).set j v from e]
 | x :: L,i+1,y,j,v,hj,h,e=>by have d:=rR L i y j v hj (by simpa using h) e;have b:(i3V x).length=3:=rfl;show i3V x++i3L (L.set i y)=(i3V x++i3L L).set ((i+1)*3+j) v;rw[d,MC _ _ (by rw[b];omega),b,show(i+1)*3+j - 3=i*3+j by omega]
theorem IR.set3 {w:E}{b g c:Nat}{L:List I3}(h:IR w b g c L){i j:Nat}(hi:i<L.length)(m:j<3)(y:I3)(v:QB)(e:i3V y=(i3V (L.getD i (0,[],0))).set j v):IR (w.setCell (J g (i*3+j) Z) v) b g c (L.set i y):=by
 unfold IR;rw[IS,rR L i y j v m hi e];refine⟨by rw[IS];exact h.1,?_⟩;rcases h.2 with ⟨d,h0⟩ | ⟨g',cap,f,d,hb,l,h1,h2,k,n⟩
 ·simp at d
 ·simp only[CN,EQ,KJ] at d
  obtain⟨⟨rfl,-⟩,-,rfl⟩:=d;refine .inr ⟨g,c,f.setIfInBounds (i*3+j) v,rfl,hb,?_,h1,h2,by simpa using k,?_⟩
  ·simp[World.setCell,I5,l]
  ·rw[JM,NK,n]
theorem IR.take {w:E}{b g c:Nat}{L:List I3}(h:IR w b g c L)(k:Nat)(f:k<=L.length):IR w b g c (L.take k):=by
 have e:i3L (L.take k)=(i3L L).take (k*3):=by
  have h1:i3L L=i3L (L.take k)++i3L (L.drop k):=by rw[<-uH,KM]
  have h2:(i3L (L.take k)).length=k*3:=by rw[iM,IT,LG f]
  rw[h1,<-h2,List.take_left'];rfl
 have j:(L.take k).length=k:=by rw[IT,LG f]
 unfold IR;rw[e,j];refine⟨by rw[IT,h.1,LG (by omega)],?_⟩;rcases h.2 with ⟨d,h0⟩ | ⟨g',cap,i,d,hb,m,h1,h2,l,n⟩
 ·simp at d
 ·simp only[CN,EQ,KJ] at d
  obtain⟨⟨rfl,-⟩,-,rfl⟩:=d;refine .inr ⟨g,c,i,rfl,hb,m,by omega,h2,l,?_⟩;rw[<-n,List.take_take,LG (by omega)]
theorem IR.fz {w:E}{d g c:Nat}{L:List I3}(h:IR w d g c L)(j:Nat):w.frozen? (J g j Z)=D:=by
 rcases h.2 with ⟨b,_⟩ | ⟨g',cap,cur,b,_,f,_⟩
 ·simp at b
 ·simp only[CN,EQ,KJ] at b
  obtain⟨⟨rfl,-⟩,-,rfl⟩:=b;exact NH f _
theorem SC.set3 {w W:E}{R rb q g c n:Nat}{L:List I3}(h:SC w R rb W q g c L n){i j:Nat}(hi:i<L.length)(b:j<3)(y:I3)(v:QB)(e:i3V y=(i3V (L.getD i (0,[],0))).set j v)(f:y.2.1.length<=5000):SC w R rb (W.setCell (J g (i*3+j) Z) v) q g c (L.set i y) n:=by
 have B:=(eI (rb+1) W).setCell (p:=(J g (i*3+j) Z)) h.ir.lt.1 v;refine⟨h.1.low B,h.ir.set3 hi b y v e,by rw[IS];exact h.len,fun x d=>?_⟩;rcases JG d with h1 | h1
 ·exact h.2.2.2 x h1
 ·rw[h1];exact f
theorem SC.take {w W:E}{R rb q g c n:Nat}{L:List I3}(h:SC w R rb W q g c L n)(k:Nat)(b:k<=L.length):SC w R rb W q g c (L.take k) n :=
 ⟨h.1,h.ir.take k b,by rw[IT];have:=h.len;omega,fun i hi=>h.2.2.2 i (JT hi)⟩
theorem SC.app0 {w W W':E}{R rb q g c g' c' n n':Nat}{L M:List I3}(h:SC w R rb W q g c L n)(f:IR W' (rb+1) g' c' (L++M))(j:W.grownBy W' (Q g))(hn:L.length+M.length<=n')(b:∀ i∈M,i.2.1.length<=5000):SC w R rb W' q g' c' (L++M) n':=by
 have hl:=h.1.lt;have d:=bg (eI (rb+1) W) j (by omega) (fun k e=>by have:=h.2.1.lt;simp at e;omega);refine⟨h.1.low d,f,by rw[cM];omega,fun i hi=>?_⟩;rcases kP.1 hi with hi | hi
 ·exact h.2.2.2 i hi
 ·exact b i hi
theorem SC.mono {w W:E}{R rb q g c n b:Nat}{L:List I3}(h:SC w R rb W q g c L n)(d:L.length<=b):SC w R rb W q g c L b:=⟨h.1,h.2.1,d,h.2.2.2⟩
theorem SC.text {w W:E}{R rb q g c n:Nat}{L:List I3}(h:SC w R rb W q g c L n)(i:Nat)(hi:i<L.length):(L.getD i (0,[],0)).2.1.length<=5000:=by
 have e:L.getD i (0,[],0)=L[i]:=by simp[hi]
 rw[e];exact h.2.2.2 _ (gz hi)
theorem x6 {w:E}{R q:Nat}(h:Rd w R q)(v:QB):SC w R (w.heap.size+1) (((w.alloc (T #[v] 31)).alloc (T #[Y Z 0 0] 31)).alloc (T #[] 188)) q (w.heap.size+2) 0 [] 0:=by
 have f:=(Qs w).alloc lr (T #[v] 31);have d:=f.alloc f.size (T #[Y Z 0 0] 31);have b:=d.alloc d.size (T #[] 188);have hz:((w.alloc (T #[v] 31)).alloc (T #[Y Z 0 0] 31)).heap.size=w.heap.size+2:=by simp
 have QO:=IR.lit ((w.alloc (T #[v] 31)).alloc (T #[Y Z 0 0] 31));rw[hz] at QO;refine⟨⟨h.below b lr,Only.of_below b,?_,h.lt,by omega⟩,QO,j6 _,fun i hi=>by cases hi⟩;show _=_;rw[J7 _ _ (by simp)];exact KH w _ _
end Go.Proofs.YtkdimgejdocbbaaGreatDoor.Vp
